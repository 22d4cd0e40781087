/-
  CrestSpeeds and CrestLeads. Conditions: none.
-/
import Derived.Test.YtomnmoinahhdmaaHg
namespace Go.Proofs.Ytomnmoinahhdmaa
open Go.RowKit
theorem ra_pb {l : List Pt} {k : Nat} {p : Pt} (h : l[k]? = some p) : rowAt (ptsV l) (0 * 3 + k * 3 + 2) [.int .i64 p.b] := by
  have h0 := ra_pt h
  intro j v hj
  match j, hj with
  | 0, hj =>
    cases hj
    exact h0 2 _ rfl
  | j + 1, hj => simp at hj

set_option maxRecDepth 100000 in
theorem si_last {l : List Pt} {s : List Ld} {k j : Nat} {p w : Pt} {n1 : Int} (hlt : decide ((j : Int) < (l.length : Int)) = true) (hn : Value.int .i64 (IntKind.i64.wrap ((s.length : Int) - 1)) = .int .i64 (n1)) (hq : ((k : Int) == n1) = true) (hj : l[j]? = some w) (hij : 0 ≤ (j : Int) ∧ (j : Int) < (l.length : Int)) (hb : decide (w.b > p.b) = false) (hsj : Value.int .i64 (IntKind.i64.wrap ((j : Int) + 1)) = .int .i64 (((j + 1 : Nat) : Int))) {e : Exit} {tm2 : List (Nat × SV)} {hp2 : List (Nat × Nat × SV)}
    (r : RunsL Try.prog 1 1 (loopOf Try.prog 9 1) 125 5 ([(2, .pp 1 0), (5, .ls 3 s.length), (7, .pv (.int .i64 (k : Int))), (8, .pp 4 0), (11, .pv (.int .i64 ((j + 1 : Nat) : Int)))]) ([(1, 0, .ls 0 l.length), (4, 0, .pv (.int .i64 p.id)), (4, 1, .pv (.int .i64 p.a)), (4, 2, .pv (.int .i64 p.b)), (0, 0, rowP l), (3, 0, rowL s)]) e tm2 hp2) : RunsL Try.prog 1 1 (loopOf Try.prog 9 1) 125 5 ([(2, .pp 1 0), (5, .ls 3 s.length), (7, .pv (.int .i64 (k : Int))), (8, .pp 4 0), (11, .pv (.int .i64 (j : Int)))]) ([(1, 0, .ls 0 l.length), (4, 0, .pv (.int .i64 p.id)), (4, 1, .pv (.int .i64 p.a)), (4, 2, .pv (.int .i64 p.b)), (0, 0, rowP l), (3, 0, rowL s)]) e tm2 hp2 :=
  RunsL.next [] 300 [.t true, .r (.int .i64 (n1)), .t true, .r (.int .i64 (w.b)), .t false, .r (.int .i64 (((j + 1 : Nat) : Int)))]
    (round_of (And.intro hlt (And.intro hn (And.intro hq (And.intro hij (And.intro (ra_pb hj) (And.intro hb (And.intro hsj True.intro))))))) (by kernel_rfl)) r

set_option maxRecDepth 100000 in
theorem si_skip {l : List Pt} {s : List Ld} {k j : Nat} {p : Pt} {n1 : Int} (hlt : decide ((j : Int) < (l.length : Int)) = true) (hn : Value.int .i64 (IntKind.i64.wrap ((s.length : Int) - 1)) = .int .i64 (n1)) (hq : ((k : Int) == n1) = false) (hsj : Value.int .i64 (IntKind.i64.wrap ((j : Int) + 1)) = .int .i64 (((j + 1 : Nat) : Int))) {e : Exit} {tm2 : List (Nat × SV)} {hp2 : List (Nat × Nat × SV)}
    (r : RunsL Try.prog 1 1 (loopOf Try.prog 9 1) 125 5 ([(2, .pp 1 0), (5, .ls 3 s.length), (7, .pv (.int .i64 (k : Int))), (8, .pp 4 0), (11, .pv (.int .i64 ((j + 1 : Nat) : Int)))]) ([(1, 0, .ls 0 l.length), (4, 0, .pv (.int .i64 p.id)), (4, 1, .pv (.int .i64 p.a)), (4, 2, .pv (.int .i64 p.b)), (0, 0, rowP l), (3, 0, rowL s)]) e tm2 hp2) : RunsL Try.prog 1 1 (loopOf Try.prog 9 1) 125 5 ([(2, .pp 1 0), (5, .ls 3 s.length), (7, .pv (.int .i64 (k : Int))), (8, .pp 4 0), (11, .pv (.int .i64 (j : Int)))]) ([(1, 0, .ls 0 l.length), (4, 0, .pv (.int .i64 p.id)), (4, 1, .pv (.int .i64 p.a)), (4, 2, .pv (.int .i64 p.b)), (0, 0, rowP l), (3, 0, rowL s)]) e tm2 hp2 :=
  RunsL.next [] 300 [.t true, .r (.int .i64 (n1)), .t false, .r (.int .i64 (((j + 1 : Nat) : Int)))]
    (round_of (And.intro hlt (And.intro hn (And.intro hq (And.intro hsj True.intro)))) (by kernel_rfl)) r

set_option maxRecDepth 100000 in
theorem si_end {l : List Pt} {s : List Ld} {k j : Nat} {p : Pt} (hlt : decide ((j : Int) < (l.length : Int)) = false) : RunsL Try.prog 1 1 (loopOf Try.prog 9 1) 125 5 ([(2, .pp 1 0), (5, .ls 3 s.length), (7, .pv (.int .i64 (k : Int))), (8, .pp 4 0), (11, .pv (.int .i64 (j : Int)))]) ([(1, 0, .ls 0 l.length), (4, 0, .pv (.int .i64 p.id)), (4, 1, .pv (.int .i64 p.a)), (4, 2, .pv (.int .i64 p.b)), (0, 0, rowP l), (3, 0, rowL s)]) (.exit 2) ([(2, .pp 1 0), (5, .ls 3 s.length), (7, .pv (.int .i64 (k : Int)))]) ([(1, 0, .ls 0 l.length), (0, 0, rowP l), (3, 0, rowL s)]) :=
  RunsL.stop [] 300 [.t false] (fun h => by cases h)
    (round_of (And.intro hlt True.intro) (by kernel_rfl))

set_option maxRecDepth 100000 in
theorem so_zero {l : List Pt} {s : List Ld} {ia : Nat} {p : Pt} {x : Ld} {lid : Int} (hx : s[0]? = some x) (hin : 0 ≤ ((0 : Nat) : Int) ∧ ((0 : Nat) : Int) < (s.length : Int)) (hp : l[ia]? = some p) (hia : 0 ≤ (ia : Int) ∧ (ia : Int) < (l.length : Int)) (hlt : decide (((0 : Nat) : Int) < (s.length : Int)) = true) (ha : FnL Try.prog 22 1 [fldS 0 l, .pv (.int .i64 (x.id))] [(0, 0, rowP l)] (.pv (.int .i64 ((ia : Int)))) 0 []) (hl : FnL Try.prog 45 1 [fldS 0 l, .pv (ratioV x.n x.d)] [(0, 0, rowP l)] (.pv (.tuple #[.int .i64 lid, .int .i64 0])) 0 []) (hid : (!(lid == p.id)) = false) (r1 : RunsL Try.prog 1 1 (loopOf Try.prog 9 1) 125 5 ([(2, .pp 1 0), (5, .ls 3 s.length), (7, .pv (.int .i64 ((0 : Nat) : Int))), (8, .pp 4 0), (11, .pv (.int .i64 ((0 : Nat) : Int)))]) ([(1, 0, .ls 0 l.length), (4, 0, .pv (.int .i64 p.id)), (4, 1, .pv (.int .i64 p.a)), (4, 2, .pv (.int .i64 p.b)), (0, 0, rowP l), (3, 0, rowL s)]) (.exit 2) ([(2, .pp 1 0), (5, .ls 3 s.length), (7, .pv (.int .i64 ((0 : Nat) : Int)))]) ([(1, 0, .ls 0 l.length), (0, 0, rowP l), (3, 0, rowL s)])) (hs : Value.int .i64 (IntKind.i64.wrap (((0 : Nat) : Int) + 1)) = .int .i64 (((0 + 1 : Nat) : Int))) {e : Exit} {tm2 : List (Nat × SV)} {hp2 : List (Nat × Nat × SV)}
    (r : RunsL Try.prog 1 1 (loopOf Try.prog 9 0) 125 4 ([(2, .pp 1 0), (5, .ls 3 s.length), (7, .pv (.int .i64 ((0 + 1 : Nat) : Int)))]) ([(1, 0, .ls 0 l.length), (0, 0, rowP l), (3, 0, rowL s)]) e tm2 hp2) : RunsL Try.prog 1 1 (loopOf Try.prog 9 0) 125 4 ([(2, .pp 1 0), (5, .ls 3 s.length), (7, .pv (.int .i64 ((0 : Nat) : Int)))]) ([(1, 0, .ls 0 l.length), (0, 0, rowP l), (3, 0, rowL s)]) e tm2 hp2 :=
  RunsL.next [] 300 [.t true, .pm [0,1,2,3,4,5,6,7,11,8,9,10,12], .r (.int .i64 (x.id)), .f [0] [fldS 0 l, .pv (.int .i64 (x.id))] [(0, 0, rowP l)] (.pv (.int .i64 ((ia : Int)))) 0 [], .r (ptV p), .gr, .r (ratioV x.n x.d), .f [0] [fldS 0 l, .pv (ratioV x.n x.d)] [(0, 0, rowP l)] (.pv (.tuple #[.int .i64 lid, .int .i64 0])) 0 [], .k, .t false, .k, .l (.exit 2) ([(2, .pp 1 0), (5, .ls 3 s.length), (7, .pv (.int .i64 ((0 : Nat) : Int))), (8, .pp 4 0), (11, .pv (.int .i64 ((0 : Nat) : Int)))]) ([(1, 0, .ls 0 l.length), (4, 0, .pv (.int .i64 p.id)), (4, 1, .pv (.int .i64 p.a)), (4, 2, .pv (.int .i64 p.b)), (0, 0, rowP l), (3, 0, rowL s)]) ([(2, .pp 1 0), (5, .ls 3 s.length), (7, .pv (.int .i64 ((0 : Nat) : Int)))]) ([(1, 0, .ls 0 l.length), (0, 0, rowP l), (3, 0, rowL s)]), .r (.int .i64 (((0 + 1 : Nat) : Int)))]
    (round_of (And.intro hlt (And.intro hin (And.intro (ra_li hx) (And.intro ha (And.intro (Eq.refl (List.map (SV.ren (renU [0] 5)) [fldS 0 l, .pv (.int .i64 (x.id))])) (And.intro (reflH (renU [0] 5) [(0, 0, rowP l)]) (And.intro hia (And.intro (ra_pt hp) (And.intro hin (And.intro (ra_lf hx) (And.intro hl (And.intro (Eq.refl (List.map (SV.ren (renU [0] 5)) [fldS 0 l, .pv (ratioV x.n x.d)])) (And.intro (reflH (renU [0] 5) [(0, 0, rowP l)]) (And.intro hid (And.intro (reflT (renN []) ([(2, .pp 1 0), (5, .ls 3 s.length), (7, .pv (.int .i64 ((0 : Nat) : Int))), (8, .pp 4 0), (11, .pv (.int .i64 ((0 : Nat) : Int)))])) (And.intro (reflH (renN []) ([(1, 0, .ls 0 l.length), (4, 0, .pv (.int .i64 p.id)), (4, 1, .pv (.int .i64 p.a)), (4, 2, .pv (.int .i64 p.b)), (0, 0, rowP l), (3, 0, rowL s)])) (And.intro r1 (And.intro hs True.intro)))))))))))))))))) (by kernel_rfl)) r

set_option maxRecDepth 100000 in
theorem so_next {l : List Pt} {s : List Ld} {k ia ib : Nat} {p q : Pt} {x y : Ld} {lid : Int} (hx : s[k + 1]? = some x) (hin : 0 ≤ ((k + 1 : Nat) : Int) ∧ ((k + 1 : Nat) : Int) < (s.length : Int)) (hp : l[ia]? = some p) (hia : 0 ≤ (ia : Int) ∧ (ia : Int) < (l.length : Int)) (hlt : decide (((k + 1 : Nat) : Int) < (s.length : Int)) = true) (ha : FnL Try.prog 22 1 [fldS 0 l, .pv (.int .i64 (x.id))] [(0, 0, rowP l)] (.pv (.int .i64 ((ia : Int)))) 0 []) (hl : FnL Try.prog 45 1 [fldS 0 l, .pv (ratioV x.n x.d)] [(0, 0, rowP l)] (.pv (.tuple #[.int .i64 lid, .int .i64 0])) 0 []) (hid : (!(lid == p.id)) = false) (hy : s[k]? = some y) (hin0 : 0 ≤ (k : Int) ∧ (k : Int) < (s.length : Int)) (hq : l[ib]? = some q) (hib : 0 ≤ (ib : Int) ∧ (ib : Int) < (l.length : Int)) (hpos : decide (((k + 1 : Nat) : Int) > 0) = true) (hm : Value.int .i64 (IntKind.i64.wrap (((k + 1 : Nat) : Int) - 1)) = .int .i64 ((k : Int))) (hb : FnL Try.prog 22 1 [fldS 0 l, .pv (.int .i64 (y.id))] [(0, 0, rowP l)] (.pv (.int .i64 ((ib : Int)))) 0 []) (hbb : decide (p.b ≤ q.b) = false) (r1 : RunsL Try.prog 1 1 (loopOf Try.prog 9 1) 125 5 ([(2, .pp 1 0), (5, .ls 3 s.length), (7, .pv (.int .i64 ((k + 1 : Nat) : Int))), (8, .pp 4 0), (11, .pv (.int .i64 ((0 : Nat) : Int)))]) ([(1, 0, .ls 0 l.length), (4, 0, .pv (.int .i64 p.id)), (4, 1, .pv (.int .i64 p.a)), (4, 2, .pv (.int .i64 p.b)), (0, 0, rowP l), (3, 0, rowL s)]) (.exit 2) ([(2, .pp 1 0), (5, .ls 3 s.length), (7, .pv (.int .i64 ((k + 1 : Nat) : Int)))]) ([(1, 0, .ls 0 l.length), (0, 0, rowP l), (3, 0, rowL s)])) (hs : Value.int .i64 (IntKind.i64.wrap (((k + 1 : Nat) : Int) + 1)) = .int .i64 (((k + 1 + 1 : Nat) : Int))) {e : Exit} {tm2 : List (Nat × SV)} {hp2 : List (Nat × Nat × SV)}
    (r : RunsL Try.prog 1 1 (loopOf Try.prog 9 0) 125 4 ([(2, .pp 1 0), (5, .ls 3 s.length), (7, .pv (.int .i64 ((k + 1 + 1 : Nat) : Int)))]) ([(1, 0, .ls 0 l.length), (0, 0, rowP l), (3, 0, rowL s)]) e tm2 hp2) : RunsL Try.prog 1 1 (loopOf Try.prog 9 0) 125 4 ([(2, .pp 1 0), (5, .ls 3 s.length), (7, .pv (.int .i64 ((k + 1 : Nat) : Int)))]) ([(1, 0, .ls 0 l.length), (0, 0, rowP l), (3, 0, rowL s)]) e tm2 hp2 :=
  RunsL.next [] 300 [.t true, .pm [0,1,2,3,4,5,6,7,11,8,9,10,12], .r (.int .i64 (x.id)), .f [0] [fldS 0 l, .pv (.int .i64 (x.id))] [(0, 0, rowP l)] (.pv (.int .i64 ((ia : Int)))) 0 [], .r (ptV p), .gr, .r (ratioV x.n x.d), .f [0] [fldS 0 l, .pv (ratioV x.n x.d)] [(0, 0, rowP l)] (.pv (.tuple #[.int .i64 lid, .int .i64 0])) 0 [], .k, .t false, .t true, .r (.int .i64 ((k : Int))), .r (.int .i64 (y.id)), .f [0] [fldS 0 l, .pv (.int .i64 (y.id))] [(0, 0, rowP l)] (.pv (.int .i64 ((ib : Int)))) 0 [], .r (.int .i64 (q.b)), .t false, .l (.exit 2) ([(2, .pp 1 0), (5, .ls 3 s.length), (7, .pv (.int .i64 ((k + 1 : Nat) : Int))), (8, .pp 4 0), (11, .pv (.int .i64 ((0 : Nat) : Int)))]) ([(1, 0, .ls 0 l.length), (4, 0, .pv (.int .i64 p.id)), (4, 1, .pv (.int .i64 p.a)), (4, 2, .pv (.int .i64 p.b)), (0, 0, rowP l), (3, 0, rowL s)]) ([(2, .pp 1 0), (5, .ls 3 s.length), (7, .pv (.int .i64 ((k + 1 : Nat) : Int)))]) ([(1, 0, .ls 0 l.length), (0, 0, rowP l), (3, 0, rowL s)]), .r (.int .i64 (((k + 1 + 1 : Nat) : Int)))]
    (round_of (And.intro hlt (And.intro hin (And.intro (ra_li hx) (And.intro ha (And.intro (Eq.refl (List.map (SV.ren (renU [0] 5)) [fldS 0 l, .pv (.int .i64 (x.id))])) (And.intro (reflH (renU [0] 5) [(0, 0, rowP l)]) (And.intro hia (And.intro (ra_pt hp) (And.intro hin (And.intro (ra_lf hx) (And.intro hl (And.intro (Eq.refl (List.map (SV.ren (renU [0] 5)) [fldS 0 l, .pv (ratioV x.n x.d)])) (And.intro (reflH (renU [0] 5) [(0, 0, rowP l)]) (And.intro hid (And.intro hpos (And.intro hm (And.intro hin0 (And.intro (ra_li hy) (And.intro hb (And.intro (Eq.refl (List.map (SV.ren (renU [0] 5)) [fldS 0 l, .pv (.int .i64 (y.id))])) (And.intro (reflH (renU [0] 5) [(0, 0, rowP l)]) (And.intro hib (And.intro (ra_pb hq) (And.intro hbb (And.intro (reflT (renN []) ([(2, .pp 1 0), (5, .ls 3 s.length), (7, .pv (.int .i64 ((k + 1 : Nat) : Int))), (8, .pp 4 0), (11, .pv (.int .i64 ((0 : Nat) : Int)))])) (And.intro (reflH (renN []) ([(1, 0, .ls 0 l.length), (4, 0, .pv (.int .i64 p.id)), (4, 1, .pv (.int .i64 p.a)), (4, 2, .pv (.int .i64 p.b)), (0, 0, rowP l), (3, 0, rowL s)])) (And.intro r1 (And.intro hs True.intro)))))))))))))))))))))))))))) (by kernel_rfl)) r

set_option maxRecDepth 100000 in
theorem so_end {l : List Pt} {s : List Ld} {k : Nat} (hlt : decide ((k : Int) < (s.length : Int)) = false) : RunsL Try.prog 1 1 (loopOf Try.prog 9 0) 125 4 ([(2, .pp 1 0), (5, .ls 3 s.length), (7, .pv (.int .i64 (k : Int)))]) ([(1, 0, .ls 0 l.length), (0, 0, rowP l), (3, 0, rowL s)]) (.exit 0) ([]) ([]) :=
  RunsL.stop [] 300 [.t false] (fun h => by cases h)
    (round_of (And.intro hlt True.intro) (by kernel_rfl))

set_option maxRecDepth 100000 in
theorem cs_no {l : List Pt} {fn fd : Int} (hf : FnL Try.prog 44 1 [fldS 0 l, .pv (ratioV fn fd)] [(0, 0, rowP l)] (.pv (.bool false)) 0 []) (hal : FnL Try.prog 36 0 [] [] (.pv (.bool true)) 0 []) :
    FnL Try.prog 9 1 [fldS 0 l, .pv (ratioV fn fd)] [(0, 0, rowP l)] (.pv (.bool true)) 0 [] :=
  fnl_run 300 [] [.f [0] [fldS 0 l, .pv (ratioV fn fd)] [(0, 0, rowP l)] (.pv (.bool false)) 0 [], .k, .f [] [] [] (.pv (.bool true)) 0 []]
     True.intro (And.intro hf (And.intro (Eq.refl (List.map (SV.ren (renU [0] 3)) [fldS 0 l, .pv (ratioV fn fd)])) (And.intro (reflH (renU [0] 3) [(0, 0, rowP l)]) (And.intro hal (And.intro (Eq.refl (List.map (SV.ren (renU [] 3)) [])) (And.intro (reflH (renU [] 3) []) True.intro)))))) (by kernel_rfl)

set_option maxRecDepth 100000 in
theorem cs_yes {l : List Pt} {s : List Ld} {fn fd : Int} (hf : FnL Try.prog 44 1 [fldS 0 l, .pv (ratioV fn fd)] [(0, 0, rowP l)] (.pv (.bool true)) 0 []) (ho : FnL Try.prog 29 1 [fldS 0 l, .pv (ratioV fn fd)] [(0, 0, rowP l)] (.tu [.one (.ls 1 s.length), .one (.pv (.int .i64 0))]) 1 [(1, 0, rowL s)]) (hc : FnL Try.prog 42 1 [.ls 0 s.length] [(0, 0, rowL s)] (.pv (.int .i64 (0))) 0 []) (hle : decide ((s.length : Int) > (l.length : Int)) = false) (hkn : FnL Try.prog 46 2 [fldS 0 l, .ls 1 s.length] [(0, 0, rowP l), (1, 0, rowL s)] (.pv (.bool true)) 0 []) (r0 : RunsL Try.prog 1 1 (loopOf Try.prog 9 0) 125 4 ([(2, .pp 1 0), (5, .ls 3 s.length), (7, .pv (.int .i64 ((0 : Nat) : Int)))]) ([(1, 0, .ls 0 l.length), (0, 0, rowP l), (3, 0, rowL s)]) (.exit 0) ([]) ([])) (hal : FnL Try.prog 36 0 [] [] (.pv (.bool true)) 0 []) :
    FnL Try.prog 9 1 [fldS 0 l, .pv (ratioV fn fd)] [(0, 0, rowP l)] (.pv (.bool true)) 0 [] :=
  fnl_run 300 [] [.f [0] [fldS 0 l, .pv (ratioV fn fd)] [(0, 0, rowP l)] (.pv (.bool true)) 0 [], .k, .f [0] [fldS 0 l, .pv (ratioV fn fd)] [(0, 0, rowP l)] (.tu [.one (.ls 1 s.length), .one (.pv (.int .i64 0))]) 1 [(1, 0, rowL s)], .k, .f [3] [.ls 0 s.length] [(0, 0, rowL s)] (.pv (.int .i64 (0))) 0 [], .k, .t false, .f [0,3] [fldS 0 l, .ls 1 s.length] [(0, 0, rowP l), (1, 0, rowL s)] (.pv (.bool true)) 0 [], .k, .l (.exit 0) ([(2, .pp 1 0), (5, .ls 3 s.length), (7, .pv (.int .i64 ((0 : Nat) : Int)))]) ([(1, 0, .ls 0 l.length), (0, 0, rowP l), (3, 0, rowL s)]) ([]) ([]), .f [] [] [] (.pv (.bool true)) 0 []]
     True.intro (And.intro hf (And.intro (Eq.refl (List.map (SV.ren (renU [0] 3)) [fldS 0 l, .pv (ratioV fn fd)])) (And.intro (reflH (renU [0] 3) [(0, 0, rowP l)]) (And.intro ho (And.intro (Eq.refl (List.map (SV.ren (renU [0] 3)) [fldS 0 l, .pv (ratioV fn fd)])) (And.intro (reflH (renU [0] 3) [(0, 0, rowP l)]) (And.intro hc (And.intro (Eq.refl (List.map (SV.ren (renU [3] 4)) [.ls 0 s.length])) (And.intro (reflH (renU [3] 4) [(0, 0, rowL s)]) (And.intro hle (And.intro hkn (And.intro (Eq.refl (List.map (SV.ren (renU [0,3] 4)) [fldS 0 l, .ls 1 s.length])) (And.intro (reflH (renU [0,3] 4) [(0, 0, rowP l), (1, 0, rowL s)]) (And.intro (reflT (renN []) ([(2, .pp 1 0), (5, .ls 3 s.length), (7, .pv (.int .i64 ((0 : Nat) : Int)))])) (And.intro (reflH (renN []) ([(1, 0, .ls 0 l.length), (0, 0, rowP l), (3, 0, rowL s)])) (And.intro r0 (And.intro hal (And.intro (Eq.refl (List.map (SV.ren (renU [] 4)) [])) (And.intro (reflH (renU [] 4) []) True.intro))))))))))))))))))) (by kernel_rfl)

set_option maxRecDepth 100000 in
theorem cl_no1 {l : List Pt} {x : Ld} {tn td : Int} (hf : FnL Try.prog 44 1 [fldS 0 l, .pv (ratioV x.n x.d)] [(0, 0, rowP l)] (.pv (.bool false)) 0 []) (hal : FnL Try.prog 36 0 [] [] (.pv (.bool true)) 0 []) :
    FnL Try.prog 8 1 [fldS 0 l, .pv (ratioV x.n x.d), .pv (ratioV tn td)] [(0, 0, rowP l)] (.pv (.bool true)) 0 [] :=
  fnl_run 300 [] [.f [0] [fldS 0 l, .pv (ratioV x.n x.d)] [(0, 0, rowP l)] (.pv (.bool false)) 0 [], .k, .f [] [] [] (.pv (.bool true)) 0 []]
     True.intro (And.intro hf (And.intro (Eq.refl (List.map (SV.ren (renU [0] 4)) [fldS 0 l, .pv (ratioV x.n x.d)])) (And.intro (reflH (renU [0] 4) [(0, 0, rowP l)]) (And.intro hal (And.intro (Eq.refl (List.map (SV.ren (renU [] 4)) [])) (And.intro (reflH (renU [] 4) []) True.intro)))))) (by kernel_rfl)

set_option maxRecDepth 100000 in
theorem cl_no2 {l : List Pt} {x : Ld} {tn td : Int} (hf : FnL Try.prog 44 1 [fldS 0 l, .pv (ratioV x.n x.d)] [(0, 0, rowP l)] (.pv (.bool true)) 0 []) (hg : FnL Try.prog 44 1 [fldS 0 l, .pv (ratioV tn td)] [(0, 0, rowP l)] (.pv (.bool false)) 0 []) (hal : FnL Try.prog 36 0 [] [] (.pv (.bool true)) 0 []) :
    FnL Try.prog 8 1 [fldS 0 l, .pv (ratioV x.n x.d), .pv (ratioV tn td)] [(0, 0, rowP l)] (.pv (.bool true)) 0 [] :=
  fnl_run 300 [] [.f [0] [fldS 0 l, .pv (ratioV x.n x.d)] [(0, 0, rowP l)] (.pv (.bool true)) 0 [], .k, .f [0] [fldS 0 l, .pv (ratioV tn td)] [(0, 0, rowP l)] (.pv (.bool false)) 0 [], .k, .f [] [] [] (.pv (.bool true)) 0 []]
     True.intro (And.intro hf (And.intro (Eq.refl (List.map (SV.ren (renU [0] 4)) [fldS 0 l, .pv (ratioV x.n x.d)])) (And.intro (reflH (renU [0] 4) [(0, 0, rowP l)]) (And.intro hg (And.intro (Eq.refl (List.map (SV.ren (renU [0] 4)) [fldS 0 l, .pv (ratioV tn td)])) (And.intro (reflH (renU [0] 4) [(0, 0, rowP l)]) (And.intro hal (And.intro (Eq.refl (List.map (SV.ren (renU [] 4)) [])) (And.intro (reflH (renU [] 4) []) True.intro))))))))) (by kernel_rfl)

set_option maxRecDepth 100000 in
theorem cl_past {l : List Pt} {s : List Ld} {x : Ld} {tn td c : Int} (hf : FnL Try.prog 44 1 [fldS 0 l, .pv (ratioV x.n x.d)] [(0, 0, rowP l)] (.pv (.bool true)) 0 []) (hg : FnL Try.prog 44 1 [fldS 0 l, .pv (ratioV tn td)] [(0, 0, rowP l)] (.pv (.bool true)) 0 []) (h0 : s[0]? = some x) (hin : 0 ≤ (0 : Int) ∧ (0 : Int) < (s.length : Int)) (ho : FnL Try.prog 29 1 [fldS 0 l, .pv (ratioV x.n x.d)] [(0, 0, rowP l)] (.tu [.one (.ls 1 s.length), .one (.pv (.int .i64 0))]) 1 [(1, 0, rowL s)]) (hat : FnL Try.prog 32 1 [.ls 0 s.length, .pv (ratioV tn td)] [(0, 0, rowL s)] (.pv (.tuple #[.int .i64 0, .int .i64 44])) 0 []) (hn : ((s.length : Int) == 0) = false) (hc : FnL Try.prog 42 1 [.ls 0 s.length] [(0, 0, rowL s)] (.pv (.int .i64 (0))) 0 []) (he : (!(x.n == x.n && (x.d == x.d && true))) = false) (hcc : Pure Try.prog 24 #[ratioV tn td, ratioV x.n x.d] (.int .i64 (c))) (hz : decide (c < 0) = true) (hal : FnL Try.prog 36 0 [] [] (.pv (.bool true)) 0 []) :
    FnL Try.prog 8 1 [fldS 0 l, .pv (ratioV x.n x.d), .pv (ratioV tn td)] [(0, 0, rowP l)] (.pv (.bool true)) 0 [] :=
  fnl_run 300 [] [.f [0] [fldS 0 l, .pv (ratioV x.n x.d)] [(0, 0, rowP l)] (.pv (.bool true)) 0 [], .k, .f [0] [fldS 0 l, .pv (ratioV tn td)] [(0, 0, rowP l)] (.pv (.bool true)) 0 [], .k, .f [0] [fldS 0 l, .pv (ratioV x.n x.d)] [(0, 0, rowP l)] (.tu [.one (.ls 1 s.length), .one (.pv (.int .i64 0))]) 1 [(1, 0, rowL s)], .f [4] [.ls 0 s.length, .pv (ratioV tn td)] [(0, 0, rowL s)] (.pv (.tuple #[.int .i64 0, .int .i64 44])) 0 [], .gr, .k, .t false, .f [4] [.ls 0 s.length] [(0, 0, rowL s)] (.pv (.int .i64 (0))) 0 [], .k, .r (ratioV x.n x.d), .t false, .r (.int .i64 (c)), .t true, .k, .f [] [] [] (.pv (.bool true)) 0 []]
     True.intro (And.intro hf (And.intro (Eq.refl (List.map (SV.ren (renU [0] 4)) [fldS 0 l, .pv (ratioV x.n x.d)])) (And.intro (reflH (renU [0] 4) [(0, 0, rowP l)]) (And.intro hg (And.intro (Eq.refl (List.map (SV.ren (renU [0] 4)) [fldS 0 l, .pv (ratioV tn td)])) (And.intro (reflH (renU [0] 4) [(0, 0, rowP l)]) (And.intro ho (And.intro (Eq.refl (List.map (SV.ren (renU [0] 4)) [fldS 0 l, .pv (ratioV x.n x.d)])) (And.intro (reflH (renU [0] 4) [(0, 0, rowP l)]) (And.intro hat (And.intro (Eq.refl (List.map (SV.ren (renU [4] 5)) [.ls 0 s.length, .pv (ratioV tn td)])) (And.intro (reflH (renU [4] 5) [(0, 0, rowL s)]) (And.intro hn (And.intro hc (And.intro (Eq.refl (List.map (SV.ren (renU [4] 5)) [.ls 0 s.length])) (And.intro (reflH (renU [4] 5) [(0, 0, rowL s)]) (And.intro hin (And.intro (ra_lf h0) (And.intro he (And.intro hcc (And.intro hz (And.intro hal (And.intro (Eq.refl (List.map (SV.ren (renU [] 5)) [])) (And.intro (reflH (renU [] 5) []) True.intro)))))))))))))))))))))))) (by kernel_rfl)

set_option maxRecDepth 100000 in
theorem cl_ok {l : List Pt} {s : List Ld} {x : Ld} {tn td c cid lid : Int} (hf : FnL Try.prog 44 1 [fldS 0 l, .pv (ratioV x.n x.d)] [(0, 0, rowP l)] (.pv (.bool true)) 0 []) (hg : FnL Try.prog 44 1 [fldS 0 l, .pv (ratioV tn td)] [(0, 0, rowP l)] (.pv (.bool true)) 0 []) (h0 : s[0]? = some x) (hin : 0 ≤ (0 : Int) ∧ (0 : Int) < (s.length : Int)) (ho : FnL Try.prog 29 1 [fldS 0 l, .pv (ratioV x.n x.d)] [(0, 0, rowP l)] (.tu [.one (.ls 1 s.length), .one (.pv (.int .i64 0))]) 1 [(1, 0, rowL s)]) (hat : FnL Try.prog 32 1 [.ls 0 s.length, .pv (ratioV tn td)] [(0, 0, rowL s)] (.pv (.tuple #[.int .i64 cid, .int .i64 0])) 0 []) (hn : ((s.length : Int) == 0) = false) (hc : FnL Try.prog 42 1 [.ls 0 s.length] [(0, 0, rowL s)] (.pv (.int .i64 (0))) 0 []) (he : (!(x.n == x.n && (x.d == x.d && true))) = false) (hcc : Pure Try.prog 24 #[ratioV tn td, ratioV x.n x.d] (.int .i64 (c))) (hz : decide (c < 0) = false) (hl : FnL Try.prog 45 1 [fldS 0 l, .pv (ratioV tn td)] [(0, 0, rowP l)] (.pv (.tuple #[.int .i64 lid, .int .i64 0])) 0 []) (hid : (cid == lid) = true) (hal : FnL Try.prog 36 0 [] [] (.pv (.bool true)) 0 []) :
    FnL Try.prog 8 1 [fldS 0 l, .pv (ratioV x.n x.d), .pv (ratioV tn td)] [(0, 0, rowP l)] (.pv (.bool true)) 0 [] :=
  fnl_run 300 [] [.f [0] [fldS 0 l, .pv (ratioV x.n x.d)] [(0, 0, rowP l)] (.pv (.bool true)) 0 [], .k, .f [0] [fldS 0 l, .pv (ratioV tn td)] [(0, 0, rowP l)] (.pv (.bool true)) 0 [], .k, .f [0] [fldS 0 l, .pv (ratioV x.n x.d)] [(0, 0, rowP l)] (.tu [.one (.ls 1 s.length), .one (.pv (.int .i64 0))]) 1 [(1, 0, rowL s)], .f [4] [.ls 0 s.length, .pv (ratioV tn td)] [(0, 0, rowL s)] (.pv (.tuple #[.int .i64 cid, .int .i64 0])) 0 [], .gr, .k, .t false, .f [4] [.ls 0 s.length] [(0, 0, rowL s)] (.pv (.int .i64 (0))) 0 [], .k, .r (ratioV x.n x.d), .t false, .r (.int .i64 (c)), .t false, .f [0] [fldS 0 l, .pv (ratioV tn td)] [(0, 0, rowP l)] (.pv (.tuple #[.int .i64 lid, .int .i64 0])) 0 [], .k, .k, .t true, .f [] [] [] (.pv (.bool true)) 0 []]
     True.intro (And.intro hf (And.intro (Eq.refl (List.map (SV.ren (renU [0] 4)) [fldS 0 l, .pv (ratioV x.n x.d)])) (And.intro (reflH (renU [0] 4) [(0, 0, rowP l)]) (And.intro hg (And.intro (Eq.refl (List.map (SV.ren (renU [0] 4)) [fldS 0 l, .pv (ratioV tn td)])) (And.intro (reflH (renU [0] 4) [(0, 0, rowP l)]) (And.intro ho (And.intro (Eq.refl (List.map (SV.ren (renU [0] 4)) [fldS 0 l, .pv (ratioV x.n x.d)])) (And.intro (reflH (renU [0] 4) [(0, 0, rowP l)]) (And.intro hat (And.intro (Eq.refl (List.map (SV.ren (renU [4] 5)) [.ls 0 s.length, .pv (ratioV tn td)])) (And.intro (reflH (renU [4] 5) [(0, 0, rowL s)]) (And.intro hn (And.intro hc (And.intro (Eq.refl (List.map (SV.ren (renU [4] 5)) [.ls 0 s.length])) (And.intro (reflH (renU [4] 5) [(0, 0, rowL s)]) (And.intro hin (And.intro (ra_lf h0) (And.intro he (And.intro hcc (And.intro hz (And.intro hl (And.intro (Eq.refl (List.map (SV.ren (renU [0] 5)) [fldS 0 l, .pv (ratioV tn td)])) (And.intro (reflH (renU [0] 5) [(0, 0, rowP l)]) (And.intro hid (And.intro hal (And.intro (Eq.refl (List.map (SV.ren (renU [] 5)) [])) (And.intro (reflH (renU [] 5) []) True.intro)))))))))))))))))))))))))))) (by kernel_rfl)

theorem Speeds_any {fn fd : Int} (h1 : I64 fn) (h2 : I64 fd) (l : List Pt) : FnL Try.prog 9 1 [fldS 0 l, .pv (ratioV fn fd)] [(0, 0, rowP l)] (.pv (.bool true)) 0 [] := by
  obtain ⟨b, hf, hb⟩ := Fit5_any h1 h2 l
  cases b with
  | false => exact cs_no hf Alive5
  | true =>
    obtain ⟨hne, he⟩ := hb rfl
    obtain ⟨hv, hk⟩ := tE_val he
    have ht : Tm fn fd := ⟨h1, h2, hk⟩
    have hc := fun (k : Nat) (y : Ld) => crest_at (k := k) (y := y) hv hne ht
    have hvc := crest_vc hv hne ht
    have hi := crest_i64 hv hne ht
    have hl := crest_len hv hne ht
    have hba := crest_base hv hne ht
    have ho := Of_ok hv hne ht
    have h64 := hv.len
    generalize crest l fn fd = s at *
    refine cs_yes hf ho (RCk_ok hi hvc) (df (by omega)) (Known_ok hv (by omega) fun x hx => by
      obtain ⟨q, b⟩ := hba x hx
      exact ⟨q, b.mem, b.id⟩) (RunsL.rounds (fun k => [(2, .pp 1 0), (5, .ls 3 s.length), (7, .pv (.int .i64 (k : Int)))]) (fun _ => [(1, 0, .ls 0 l.length), (0, 0, rowP l), (3, 0, rowL s)]) s.length 0 (Nat.zero_add _) (fun k _ hk r => ?_) (so_end (df (by omega)))) Alive5
    obtain ⟨x, hx⟩ := get_some (l := s) (k := k) hk
    obtain ⟨p, hp⟩ := hc _ _ hx
    have B := hp.base
    have d0 := okB_den B.tm.ok
    obtain ⟨a, ha, ea⟩ := List.getElem_of_mem B.mem
    have hpa : l[a]? = some p := by rw [List.getElem?_eq_getElem ha, ea]
    have hL := PLeader_ok hv B.tm hne
    rw [ldr_of hv B.mem B.top] at hL
    have r1 := RunsL.rounds (P := Try.prog) (lo := 1) (fr := 1) (c := loopOf Try.prog 9 1) (n := 125) (nb := 5) (fun j => [(2, .pp 1 0), (5, .ls 3 s.length), (7, .pv (.int .i64 (k : Int))), (8, .pp 4 0), (11, .pv (.int .i64 (j : Int)))])
      (fun _ => [(1, 0, .ls 0 l.length), (4, 0, .pv (.int .i64 p.id)), (4, 1, .pv (.int .i64 p.a)), (4, 2, .pv (.int .i64 p.b)), (0, 0, rowP l), (3, 0, rowL s)]) l.length 0 (Nat.zero_add _) (fun j _ hj r => by
        obtain ⟨r', hr'⟩ := get_some (l := l) (k := j) hj
        have hn : Value.int .i64 (IntKind.i64.wrap ((s.length : Int) - 1)) = .int .i64 ((s.length : Int) - 1) := by rw [wrap_i64_in (by omega) (by omega)]
        by_cases hq : (k : Int) = (s.length : Int) - 1
        · exact si_last (dt (by omega)) hn (by rw [beq_iff_eq]; exact hq) hr' ⟨by omega, by omega⟩ (df (by
            have := no_next hv B.mem (cr_last hp (by omega)) r' (List.mem_of_getElem? hr')
            omega)) (i64_succ (by omega)) r
        · exact si_skip (dt (by omega)) hn (by rw [beq_eq_false_iff_ne]; exact hq) (i64_succ (by omega)) r) (si_end (df (by omega)))
    cases k with
    | zero => exact so_zero hx ⟨by omega, by omega⟩ hpa ⟨by omega, by omega⟩ (dt (by omega)) (At_yes hv hpa B.id) hL (by simp) r1 (i64_succ (by omega)) r
    | succ k =>
      obtain ⟨y, hy⟩ := get_some (l := s) (k := k) (by omega)
      obtain ⟨q, hq⟩ := hc _ _ hy
      have B' := hq.base
      have d1 := okB_den B'.tm.ok
      obtain ⟨m, hm, hxe, _⟩ := cr_next hv hq hx
      obtain ⟨_, hlt, _, hmem⟩ := lead_up hv B'.mem (by omega) B'.top hm
      have hpe : ldr l m.n m.d = p := val_id hv hmem B.mem (by rw [B.id, hxe])
      rw [hpe] at hlt
      obtain ⟨b, hb', eb⟩ := List.getElem_of_mem B'.mem
      have hqb : l[b]? = some q := by rw [List.getElem?_eq_getElem hb', eb]
      exact so_next hx ⟨by omega, by omega⟩ hpa ⟨by omega, by omega⟩ (dt (by omega)) (At_yes hv hpa B.id) hL (by simp) hy ⟨by omega, by omega⟩ hqb ⟨by omega, by omega⟩ (dt (by omega)) (i64_pred k (by omega)) (At_yes hv hqb B'.id) (df (by omega)) r1 (i64_succ (by omega)) r
theorem speeds_walk {u : Value} {l : List Pt} {W : World} (hr : Rd W 3 u l.length (ptsV l)) {fn fd : Int} (h5 : -9223372036854775808 ≤ fn ∧ fn ≤ 9223372036854775807) (h6 : -9223372036854775808 ≤ fd ∧ fd ≤ 9223372036854775807) :
    Calls Try.prog 9 #[.agg #[u], ratioV fn fd] W fun e W' => e = .returned (.bool true) ∧ Gr W W' :=
  fld_run (vs := [ratioV fn fd]) (Speeds_any h5 h6 l) hr
theorem Leads_any5 {fn fd tn td : Int} (h1 : I64 fn) (h2 : I64 fd) (h3 : I64 tn) (h4 : I64 td) (l : List Pt) : FnL Try.prog 8 1 [fldS 0 l, .pv (ratioV fn fd), .pv (ratioV tn td)] [(0, 0, rowP l)] (.pv (.bool true)) 0 [] := by
  obtain ⟨b, hf, hb⟩ := Fit5_any h1 h2 l
  obtain ⟨g, hg, hgb⟩ := Fit5_any h3 h4 l
  cases b with
  | false => exact cl_no1 (x := ⟨fn, fd, 0⟩) hf Alive5
  | true =>
    cases g with
    | false => exact cl_no2 (x := ⟨fn, fd, 0⟩) hf hg Alive5
    | true =>
      obtain ⟨hne, he⟩ := hb rfl
      obtain ⟨hv, hk⟩ := tE_val he
      have ht : Tm fn fd := ⟨h1, h2, hk⟩
      have ht' : Tm tn td := ⟨h3, h4, (tE_val (hgb rfl).2).2⟩
      have hvc := crest_vc hv hne ht
      have hi := crest_i64 hv hne ht
      have hl := crest_len hv hne ht
      have h0 := crest_zero hv hne ht
      have ho := Of_ok hv hne ht
      have h64 := hv.len
      have d0 := okB_den ht.ok
      have d1 := okB_den ht'.ok
      have hcmp := RCompare_any h3 h4 h1 h2
      have hcv : ∀ id, cv (⟨fn, fd, id⟩ : Ld) tn td > 0 ↔ (tn * fd - fn * td).sign < 0 := by
        intro id
        rw [cv_pos]
        show tn * fd < fn * td ↔ _
        rcases sg_cases (tn * fd - fn * td) with ⟨w, z⟩ | ⟨w, z⟩ | ⟨w, z⟩ <;> omega
      by_cases hz : (tn * fd - fn * td).sign < 0
      · exact cl_past (x := ⟨fn, fd, _⟩) hf hg h0 ⟨by omega, by omega⟩ ho (CAt_past hi hvc ht' h0 ((hcv _).2 hz)) (by rw [beq_eq_false_iff_ne]; omega) (RCk_ok hi hvc) (by simp) hcmp (dt hz) Alive5
      · have hp0 : cv (⟨fn, fd, (ldr l fn fd).id⟩ : Ld) tn td ≤ 0 := by
          exact Int.not_lt.1 fun h => hz ((hcv (ldr l fn fd).id).1 h)
        obtain ⟨k, y, hk'⟩ := at_ex hvc (by omega) h0 hp0
        obtain ⟨q, hq, hle⟩ := at_leads hv hne ht ht' hk'
        have hL := PLeader_ok hv ht' hne
        rw [hle] at hL
        exact cl_ok (x := ⟨fn, fd, _⟩) hf hg h0 ⟨by omega, by omega⟩ ho (CAt_ok hi hvc ht' h0 hp0 hk') (by rw [beq_eq_false_iff_ne]; omega) (RCk_ok hi hvc) (by simp) hcmp (df hz) hL (by rw [beq_iff_eq]; exact hq.base.id.symm) Alive5
theorem leads_walk5 {u : Value} {l : List Pt} {W : World} (hr : Rd W 3 u l.length (ptsV l)) {fn fd tn td : Int} (h5 : -9223372036854775808 ≤ fn ∧ fn ≤ 9223372036854775807) (h6 : -9223372036854775808 ≤ fd ∧ fd ≤ 9223372036854775807) (h7 : -9223372036854775808 ≤ tn ∧ tn ≤ 9223372036854775807) (h8 : -9223372036854775808 ≤ td ∧ td ≤ 9223372036854775807) :
    Calls Try.prog 8 #[.agg #[u], ratioV fn fd, ratioV tn td] W fun e W' => e = .returned (.bool true) ∧ Gr W W' :=
  fld_run (vs := [ratioV fn fd, ratioV tn td]) (Leads_any5 h5 h6 h7 h8 l) hr
end Go.Proofs.Ytomnmoinahhdmaa
