/-
  Joined: Fc, Fi, Fg. Conditions: none.
-/
import Derived.Test.YtoheadpehomdjaaW25
namespace Go.Proofs.Ytoheadpehomdjaa
open Go.RowKit
set_option maxRecDepth 100000 in
theorem pc0_next {l : List Pt} {k : Nat} {p : Pt} (hk : l[k]? = some p) (hin : 0 ≤ (k : Int) ∧ (k : Int) < (l.length : Int)) (hlt : decide ((k : Int) < (l.length : Int)) = true) (hc : Pure Try.prog 39 #[pointV p.id p.a p.b] (.int .i64 (0))) (hs : Value.int .i64 (IntKind.i64.wrap ((k : Int) + 1)) = .int .i64 (((k + 1 : Nat) : Int))) {e : Exit} {tm2 : List (Nat × SV)} {hp2 : List (Nat × Nat × SV)}
    (r : RunsL Try.prog 1 1 (loopOf Try.prog 22 0) 45 2 ([(1, .pp 1 0), (12, .ls 0 l.length), (13, .pv (.int .i64 (l.length : Int))), (14, .pv (.int .i64 ((k + 1 : Nat) : Int)))]) ([(1, 0, .ls 0 l.length), (0, 0, rowP l)]) e tm2 hp2) : RunsL Try.prog 1 1 (loopOf Try.prog 22 0) 45 2 ([(1, .pp 1 0), (12, .ls 0 l.length), (13, .pv (.int .i64 (l.length : Int))), (14, .pv (.int .i64 (k : Int)))]) ([(1, 0, .ls 0 l.length), (0, 0, rowP l)]) e tm2 hp2 :=
  RunsL.next [] 300 [.t true, .r (ptV p), .r (.int .i64 (0)), .k, .r (.int .i64 (((k + 1 : Nat) : Int)))]
    (round_of (And.intro hlt (And.intro hin (And.intro (ra_pt hk) (And.intro hc (And.intro hs True.intro))))) (by kernel_rfl)) r

set_option maxRecDepth 100000 in
theorem pc0_bad {l : List Pt} {k : Nat} {p : Pt} (hk : l[k]? = some p) (hin : 0 ≤ (k : Int) ∧ (k : Int) < (l.length : Int)) (hlt : decide ((k : Int) < (l.length : Int)) = true) (hc : Pure Try.prog 39 #[pointV p.id p.a p.b] (.int .i64 (8))) : RunsL Try.prog 1 1 (loopOf Try.prog 22 0) 45 2 ([(1, .pp 1 0), (12, .ls 0 l.length), (13, .pv (.int .i64 (l.length : Int))), (14, .pv (.int .i64 (k : Int)))]) ([(1, 0, .ls 0 l.length), (0, 0, rowP l)]) (.ret) ([(2, .pv (.int .i64 8))]) ([]) :=
  RunsL.stop [] 300 [.t true, .r (ptV p), .r (.int .i64 (8)), .k] (fun h => by cases h)
    (round_of (And.intro hlt (And.intro hin (And.intro (ra_pt hk) (And.intro hc True.intro)))) (by kernel_rfl))

set_option maxRecDepth 100000 in
theorem pc0_end {l : List Pt} {k : Nat} (hge : decide ((k : Int) < (l.length : Int)) = false) : RunsL Try.prog 1 1 (loopOf Try.prog 22 0) 45 2 ([(1, .pp 1 0), (12, .ls 0 l.length), (13, .pv (.int .i64 (l.length : Int))), (14, .pv (.int .i64 (k : Int)))]) ([(1, 0, .ls 0 l.length), (0, 0, rowP l)]) (.exit 0) ([(1, .pp 1 0)]) ([(1, 0, .ls 0 l.length), (0, 0, rowP l)]) :=
  RunsL.stop [] 300 [.t false] (fun h => by cases h)
    (round_of (And.intro hge True.intro) (by kernel_rfl))

set_option maxRecDepth 100000 in
theorem pc1_next {l : List Pt} {k : Nat} {p q : Pt} (hq : l[k]? = some q) (hk : l[k + 1]? = some p) (hi0 : 0 ≤ (k : Int) ∧ (k : Int) < (l.length : Int)) (hi1 : 0 ≤ ((k + 1 : Nat) : Int) ∧ ((k + 1 : Nat) : Int) < (l.length : Int)) (hlt : decide (((k + 1 : Nat) : Int) < (l.length : Int)) = true) (hm : Value.int .i64 (IntKind.i64.wrap (((k + 1 : Nat) : Int) - 1)) = .int .i64 ((k : Int))) (hg : decide (q.id ≥ p.id) = false) (hs : Value.int .i64 (IntKind.i64.wrap (((k + 1 : Nat) : Int) + 1)) = .int .i64 (((k + 1 + 1 : Nat) : Int))) {e : Exit} {tm2 : List (Nat × SV)} {hp2 : List (Nat × Nat × SV)}
    (r : RunsL Try.prog 1 1 (loopOf Try.prog 22 1) 45 2 ([(1, .pp 1 0), (6, .pv (.int .i64 ((k + 1 + 1 : Nat) : Int)))]) ([(1, 0, .ls 0 l.length), (0, 0, rowP l)]) e tm2 hp2) : RunsL Try.prog 1 1 (loopOf Try.prog 22 1) 45 2 ([(1, .pp 1 0), (6, .pv (.int .i64 ((k + 1 : Nat) : Int)))]) ([(1, 0, .ls 0 l.length), (0, 0, rowP l)]) e tm2 hp2 :=
  RunsL.next [] 300 [.t true, .r (.int .i64 ((k : Int))), .r (Value.int .i64 q.id), .r (Value.int .i64 p.id), .t false, .r (.int .i64 (((k + 1 + 1 : Nat) : Int)))]
    (round_of (And.intro hlt (And.intro hm (And.intro hi0 (And.intro (ra_id hq) (And.intro hi1 (And.intro (ra_id hk) (And.intro hg (And.intro hs True.intro)))))))) (by kernel_rfl)) r

set_option maxRecDepth 100000 in
theorem pc1_bad {l : List Pt} {k : Nat} {p q : Pt} (hq : l[k]? = some q) (hk : l[k + 1]? = some p) (hi0 : 0 ≤ (k : Int) ∧ (k : Int) < (l.length : Int)) (hi1 : 0 ≤ ((k + 1 : Nat) : Int) ∧ ((k + 1 : Nat) : Int) < (l.length : Int)) (hlt : decide (((k + 1 : Nat) : Int) < (l.length : Int)) = true) (hm : Value.int .i64 (IntKind.i64.wrap (((k + 1 : Nat) : Int) - 1)) = .int .i64 ((k : Int))) (hg : decide (q.id ≥ p.id) = true) : RunsL Try.prog 1 1 (loopOf Try.prog 22 1) 45 2 ([(1, .pp 1 0), (6, .pv (.int .i64 ((k + 1 : Nat) : Int)))]) ([(1, 0, .ls 0 l.length), (0, 0, rowP l)]) (.ret) ([(2, .pv (.int .i64 32))]) ([]) :=
  RunsL.stop [] 300 [.t true, .r (.int .i64 ((k : Int))), .r (Value.int .i64 q.id), .r (Value.int .i64 p.id), .t true] (fun h => by cases h)
    (round_of (And.intro hlt (And.intro hm (And.intro hi0 (And.intro (ra_id hq) (And.intro hi1 (And.intro (ra_id hk) (And.intro hg True.intro))))))) (by kernel_rfl))

set_option maxRecDepth 100000 in
theorem pc1_end {l : List Pt} {k : Nat} (hge : decide ((k : Int) < (l.length : Int)) = false) : RunsL Try.prog 1 1 (loopOf Try.prog 22 1) 45 2 ([(1, .pp 1 0), (6, .pv (.int .i64 ((k : Nat) : Int)))]) ([(1, 0, .ls 0 l.length), (0, 0, rowP l)]) (.exit 2) ([]) ([]) :=
  RunsL.stop [] 300 [.t false] (fun h => by cases h)
    (round_of (And.intro hge True.intro) (by kernel_rfl))

set_option maxRecDepth 100000 in
theorem pc_many {l : List Pt} (h64 : decide ((l.length : Int) > 64) = true) :
    FnL Try.prog 22 1 [fldS 0 l] [(0, 0, rowP l)] (.pv (.int .i64 (4))) 0 [] :=
  fnl_run 300 [] [.t true]
     True.intro (And.intro h64 True.intro) (by kernel_rfl)

set_option maxRecDepth 100000 in
theorem pc_bad {l : List Pt} (h64 : decide ((l.length : Int) > 64) = false) (r0 : RunsL Try.prog 1 1 (loopOf Try.prog 22 0) 45 2 ([(1, .pp 1 0), (12, .ls 0 l.length), (13, .pv (.int .i64 (l.length : Int))), (14, .pv (.int .i64 ((0 : Nat) : Int)))]) ([(1, 0, .ls 0 l.length), (0, 0, rowP l)]) (.ret) ([(2, .pv (.int .i64 8))]) ([])) :
    FnL Try.prog 22 1 [fldS 0 l] [(0, 0, rowP l)] (.pv (.int .i64 (8))) 0 [] :=
  fnl_run 300 [] [.t false, .l (.ret) ([(1, .pp 1 0), (12, .ls 0 l.length), (13, .pv (.int .i64 (l.length : Int))), (14, .pv (.int .i64 ((0 : Nat) : Int)))]) ([(1, 0, .ls 0 l.length), (0, 0, rowP l)]) ([(2, .pv (.int .i64 8))]) ([])]
     True.intro (And.intro h64 (And.intro (reflT (renN []) ([(1, .pp 1 0), (12, .ls 0 l.length), (13, .pv (.int .i64 (l.length : Int))), (14, .pv (.int .i64 ((0 : Nat) : Int)))])) (And.intro (reflH (renN []) ([(1, 0, .ls 0 l.length), (0, 0, rowP l)])) (And.intro r0 True.intro)))) (by kernel_rfl)

set_option maxRecDepth 100000 in
theorem pc_ord {l : List Pt} (h64 : decide ((l.length : Int) > 64) = false) (r0 : RunsL Try.prog 1 1 (loopOf Try.prog 22 0) 45 2 ([(1, .pp 1 0), (12, .ls 0 l.length), (13, .pv (.int .i64 (l.length : Int))), (14, .pv (.int .i64 ((0 : Nat) : Int)))]) ([(1, 0, .ls 0 l.length), (0, 0, rowP l)]) (.exit 0) ([(1, .pp 1 0)]) ([(1, 0, .ls 0 l.length), (0, 0, rowP l)])) (r1 : RunsL Try.prog 1 1 (loopOf Try.prog 22 1) 45 2 ([(1, .pp 1 0), (6, .pv (.int .i64 ((0 + 1 : Nat) : Int)))]) ([(1, 0, .ls 0 l.length), (0, 0, rowP l)]) (.ret) ([(2, .pv (.int .i64 32))]) ([])) :
    FnL Try.prog 22 1 [fldS 0 l] [(0, 0, rowP l)] (.pv (.int .i64 (32))) 0 [] :=
  fnl_run 300 [] [.t false, .l (.exit 0) ([(1, .pp 1 0), (12, .ls 0 l.length), (13, .pv (.int .i64 (l.length : Int))), (14, .pv (.int .i64 ((0 : Nat) : Int)))]) ([(1, 0, .ls 0 l.length), (0, 0, rowP l)]) ([(1, .pp 1 0)]) ([(1, 0, .ls 0 l.length), (0, 0, rowP l)]), .l (.ret) ([(1, .pp 1 0), (6, .pv (.int .i64 ((0 + 1 : Nat) : Int)))]) ([(1, 0, .ls 0 l.length), (0, 0, rowP l)]) ([(2, .pv (.int .i64 32))]) ([])]
     True.intro (And.intro h64 (And.intro (reflT (renN []) ([(1, .pp 1 0), (12, .ls 0 l.length), (13, .pv (.int .i64 (l.length : Int))), (14, .pv (.int .i64 ((0 : Nat) : Int)))])) (And.intro (reflH (renN []) ([(1, 0, .ls 0 l.length), (0, 0, rowP l)])) (And.intro r0 (And.intro (reflT (renN []) ([(1, .pp 1 0), (6, .pv (.int .i64 ((0 + 1 : Nat) : Int)))])) (And.intro (reflH (renN []) ([(1, 0, .ls 0 l.length), (0, 0, rowP l)])) (And.intro r1 True.intro))))))) (by kernel_rfl)

set_option maxRecDepth 100000 in
theorem pc_ok {l : List Pt} (h64 : decide ((l.length : Int) > 64) = false) (r0 : RunsL Try.prog 1 1 (loopOf Try.prog 22 0) 45 2 ([(1, .pp 1 0), (12, .ls 0 l.length), (13, .pv (.int .i64 (l.length : Int))), (14, .pv (.int .i64 ((0 : Nat) : Int)))]) ([(1, 0, .ls 0 l.length), (0, 0, rowP l)]) (.exit 0) ([(1, .pp 1 0)]) ([(1, 0, .ls 0 l.length), (0, 0, rowP l)])) (r1 : RunsL Try.prog 1 1 (loopOf Try.prog 22 1) 45 2 ([(1, .pp 1 0), (6, .pv (.int .i64 ((0 + 1 : Nat) : Int)))]) ([(1, 0, .ls 0 l.length), (0, 0, rowP l)]) (.exit 2) ([]) ([])) :
    FnL Try.prog 22 1 [fldS 0 l] [(0, 0, rowP l)] (.pv (.int .i64 (0))) 0 [] :=
  fnl_run 300 [] [.t false, .l (.exit 0) ([(1, .pp 1 0), (12, .ls 0 l.length), (13, .pv (.int .i64 (l.length : Int))), (14, .pv (.int .i64 ((0 : Nat) : Int)))]) ([(1, 0, .ls 0 l.length), (0, 0, rowP l)]) ([(1, .pp 1 0)]) ([(1, 0, .ls 0 l.length), (0, 0, rowP l)]), .l (.exit 2) ([(1, .pp 1 0), (6, .pv (.int .i64 ((0 + 1 : Nat) : Int)))]) ([(1, 0, .ls 0 l.length), (0, 0, rowP l)]) ([]) ([])]
     True.intro (And.intro h64 (And.intro (reflT (renN []) ([(1, .pp 1 0), (12, .ls 0 l.length), (13, .pv (.int .i64 (l.length : Int))), (14, .pv (.int .i64 ((0 : Nat) : Int)))])) (And.intro (reflH (renN []) ([(1, 0, .ls 0 l.length), (0, 0, rowP l)])) (And.intro r0 (And.intro (reflT (renN []) ([(1, .pp 1 0), (6, .pv (.int .i64 ((0 + 1 : Nat) : Int)))])) (And.intro (reflH (renN []) ([(1, 0, .ls 0 l.length), (0, 0, rowP l)])) (And.intro r1 True.intro))))))) (by kernel_rfl)

end Go.Proofs.Ytoheadpehomdjaa

namespace Go.Proofs.Ytoheadpehomdjaa
open Go.RowKit
set_option maxRecDepth 100000 in
theorem lf_eq {p q : Pt} {tn td : Int} (he : (p.id == q.id) = true) :
    FnL Try.prog 46 1 [.pv (ptV p), .pv (ptV q), .pp 0 0] [(0, 0, .pv (.int .i64 tn)), (0, 1, .pv (.int .i64 td))] (.pv (.int .i64 (0))) 0 [] :=
  fnl_run 300 [] [.t true]
     True.intro (And.intro he True.intro) (by kernel_rfl)

set_option maxRecDepth 100000 in
theorem lf_lt {p q : Pt} {tn td : Int} (he : (p.id == q.id) = false) (ha : Pure Try.prog 47 #[pointV p.id p.a p.b, pointV q.id q.a q.b, ratioV tn td] (.tuple #[.bool true, .int .i64 0])) :
    FnL Try.prog 46 1 [.pv (ptV p), .pv (ptV q), .pp 0 0] [(0, 0, .pv (.int .i64 tn)), (0, 1, .pv (.int .i64 td))] (.pv (.int .i64 (-1))) 0 [] :=
  fnl_run 300 [] [.t false, .r (.tuple #[.bool true, .int .i64 0])]
     True.intro (And.intro he (And.intro ha True.intro)) (by kernel_rfl)

set_option maxRecDepth 100000 in
theorem lf_gt {p q : Pt} {tn td : Int} (he : (p.id == q.id) = false) (ha : Pure Try.prog 47 #[pointV p.id p.a p.b, pointV q.id q.a q.b, ratioV tn td] (.tuple #[.bool false, .int .i64 0])) :
    FnL Try.prog 46 1 [.pv (ptV p), .pv (ptV q), .pp 0 0] [(0, 0, .pv (.int .i64 tn)), (0, 1, .pv (.int .i64 td))] (.pv (.int .i64 (1))) 0 [] :=
  fnl_run 300 [] [.t false, .r (.tuple #[.bool false, .int .i64 0])]
     True.intro (And.intro he (And.intro ha True.intro)) (by kernel_rfl)

set_option maxRecDepth 100000 in
theorem mf_up {l : List Pt} {k : Nat} {p m : Pt} {c : Int} {tn td : Int} (hk : l[k]? = some p) (hin : 0 ≤ (k : Int) ∧ (k : Int) < (l.length : Int)) (hlt : decide ((k : Int) < (l.length : Int)) = true) (hc : FnL Try.prog 46 1 [.pv (ptV p), .pv (ptV m), .pp 0 0] [(0, 0, .pv (.int .i64 tn)), (0, 1, .pv (.int .i64 td))] (.pv (.int .i64 (c))) 0 []) (hz : decide (c < 0) = true) (hs : Value.int .i64 (IntKind.i64.wrap ((k : Int) + 1)) = .int .i64 (((k + 1 : Nat) : Int))) {e : Exit} {tm2 : List (Nat × SV)} {hp2 : List (Nat × Nat × SV)}
    (r : RunsL Try.prog 2 2 (loopOf Try.prog 30 0) 33 4 ([(0, .ls 0 l.length), (1, .pc 46 [.pp 1 0]), (4, .pp 2 0), (5, .pp 3 0), (6, .pv (.int .i64 ((k + 1 : Nat) : Int)))]) ([(0, 0, rowP l), (1, 0, .pv (.int .i64 tn)), (1, 1, .pv (.int .i64 td)), (3, 0, .pv (.int .i64 (p).id)), (3, 1, .pv (.int .i64 (p).a)), (3, 2, .pv (.int .i64 (p).b)), (2, 0, .pv (.int .i64 0)), (2, 1, .pv (.int .i64 0)), (2, 2, .pv (.int .i64 0))]) e tm2 hp2) : RunsL Try.prog 2 2 (loopOf Try.prog 30 0) 33 4 ([(0, .ls 0 l.length), (1, .pc 46 [.pp 1 0]), (4, .pp 2 0), (5, .pp 3 0), (6, .pv (.int .i64 (k : Int)))]) ([(0, 0, rowP l), (1, 0, .pv (.int .i64 tn)), (1, 1, .pv (.int .i64 td)), (3, 0, .pv (.int .i64 (m).id)), (3, 1, .pv (.int .i64 (m).a)), (3, 2, .pv (.int .i64 (m).b)), (2, 0, .pv (.int .i64 0)), (2, 1, .pv (.int .i64 0)), (2, 2, .pv (.int .i64 0))]) e tm2 hp2 :=
  RunsL.next [] 300 [.t true, .r (ptV p), .f [1] [.pv (ptV p), .pv (ptV m), .pp 0 0] [(0, 0, .pv (.int .i64 tn)), (0, 1, .pv (.int .i64 td))] (.pv (.int .i64 (c))) 0 [], .t true, .r (ptV p), .r (.int .i64 (((k + 1 : Nat) : Int)))]
    (round_of (And.intro hlt (And.intro hin (And.intro (ra_pt hk) (And.intro hc (And.intro (Eq.refl (List.map (SV.ren (renU [1] 4)) [.pv (ptV p), .pv (ptV m), .pp 0 0])) (And.intro (reflH (renU [1] 4) [(0, 0, .pv (.int .i64 tn)), (0, 1, .pv (.int .i64 td))]) (And.intro hz (And.intro hin (And.intro (ra_pt hk) (And.intro hs True.intro)))))))))) (by kernel_rfl)) r

set_option maxRecDepth 100000 in
theorem mf_no {l : List Pt} {k : Nat} {p m : Pt} {c : Int} {tn td : Int} (hk : l[k]? = some p) (hin : 0 ≤ (k : Int) ∧ (k : Int) < (l.length : Int)) (hlt : decide ((k : Int) < (l.length : Int)) = true) (hc : FnL Try.prog 46 1 [.pv (ptV p), .pv (ptV m), .pp 0 0] [(0, 0, .pv (.int .i64 tn)), (0, 1, .pv (.int .i64 td))] (.pv (.int .i64 (c))) 0 []) (hz : decide (c < 0) = false) (hs : Value.int .i64 (IntKind.i64.wrap ((k : Int) + 1)) = .int .i64 (((k + 1 : Nat) : Int))) {e : Exit} {tm2 : List (Nat × SV)} {hp2 : List (Nat × Nat × SV)}
    (r : RunsL Try.prog 2 2 (loopOf Try.prog 30 0) 33 4 ([(0, .ls 0 l.length), (1, .pc 46 [.pp 1 0]), (4, .pp 2 0), (5, .pp 3 0), (6, .pv (.int .i64 ((k + 1 : Nat) : Int)))]) ([(0, 0, rowP l), (1, 0, .pv (.int .i64 tn)), (1, 1, .pv (.int .i64 td)), (3, 0, .pv (.int .i64 (m).id)), (3, 1, .pv (.int .i64 (m).a)), (3, 2, .pv (.int .i64 (m).b)), (2, 0, .pv (.int .i64 0)), (2, 1, .pv (.int .i64 0)), (2, 2, .pv (.int .i64 0))]) e tm2 hp2) : RunsL Try.prog 2 2 (loopOf Try.prog 30 0) 33 4 ([(0, .ls 0 l.length), (1, .pc 46 [.pp 1 0]), (4, .pp 2 0), (5, .pp 3 0), (6, .pv (.int .i64 (k : Int)))]) ([(0, 0, rowP l), (1, 0, .pv (.int .i64 tn)), (1, 1, .pv (.int .i64 td)), (3, 0, .pv (.int .i64 (m).id)), (3, 1, .pv (.int .i64 (m).a)), (3, 2, .pv (.int .i64 (m).b)), (2, 0, .pv (.int .i64 0)), (2, 1, .pv (.int .i64 0)), (2, 2, .pv (.int .i64 0))]) e tm2 hp2 :=
  RunsL.next [] 300 [.t true, .r (ptV p), .f [1] [.pv (ptV p), .pv (ptV m), .pp 0 0] [(0, 0, .pv (.int .i64 tn)), (0, 1, .pv (.int .i64 td))] (.pv (.int .i64 (c))) 0 [], .t false, .r (.int .i64 (((k + 1 : Nat) : Int)))]
    (round_of (And.intro hlt (And.intro hin (And.intro (ra_pt hk) (And.intro hc (And.intro (Eq.refl (List.map (SV.ren (renU [1] 4)) [.pv (ptV p), .pv (ptV m), .pp 0 0])) (And.intro (reflH (renU [1] 4) [(0, 0, .pv (.int .i64 tn)), (0, 1, .pv (.int .i64 td))]) (And.intro hz (And.intro hs True.intro)))))))) (by kernel_rfl)) r

set_option maxRecDepth 100000 in
theorem mf_end {l : List Pt} {k : Nat} {m : Pt} {tn td : Int} (hge : decide ((k : Int) < (l.length : Int)) = false) : RunsL Try.prog 2 2 (loopOf Try.prog 30 0) 33 4 ([(0, .ls 0 l.length), (1, .pc 46 [.pp 1 0]), (4, .pp 2 0), (5, .pp 3 0), (6, .pv (.int .i64 (k : Int)))]) ([(0, 0, rowP l), (1, 0, .pv (.int .i64 tn)), (1, 1, .pv (.int .i64 td)), (3, 0, .pv (.int .i64 (m).id)), (3, 1, .pv (.int .i64 (m).a)), (3, 2, .pv (.int .i64 (m).b)), (2, 0, .pv (.int .i64 0)), (2, 1, .pv (.int .i64 0)), (2, 2, .pv (.int .i64 0))]) (.exit 0) ([(4, .pp 2 0), (5, .pp 3 0)]) ([(0, 0, rowP l), (1, 0, .pv (.int .i64 tn)), (1, 1, .pv (.int .i64 td)), (3, 0, .pv (.int .i64 (m).id)), (3, 1, .pv (.int .i64 (m).a)), (3, 2, .pv (.int .i64 (m).b)), (2, 0, .pv (.int .i64 0)), (2, 1, .pv (.int .i64 0)), (2, 2, .pv (.int .i64 0))]) :=
  RunsL.stop [] 300 [.t false] (fun h => by cases h)
    (round_of (And.intro hge True.intro) (by kernel_rfl))

set_option maxRecDepth 100000 in
theorem mf_path {l : List Pt} {p m : Pt} {tn td : Int} (hk : l[0]? = some p) (hin : 0 ≤ (0 : Int) ∧ (0 : Int) < (l.length : Int)) (h1 : decide ((l.length : Int) < 1) = false) (r0 : RunsL Try.prog 2 2 (loopOf Try.prog 30 0) 33 4 ([(0, .ls 0 l.length), (1, .pc 46 [.pp 1 0]), (4, .pp 2 0), (5, .pp 3 0), (6, .pv (.int .i64 (((0 + 1 : Nat)) : Int)))]) ([(0, 0, rowP l), (1, 0, .pv (.int .i64 tn)), (1, 1, .pv (.int .i64 td)), (3, 0, .pv (.int .i64 (p).id)), (3, 1, .pv (.int .i64 (p).a)), (3, 2, .pv (.int .i64 (p).b)), (2, 0, .pv (.int .i64 0)), (2, 1, .pv (.int .i64 0)), (2, 2, .pv (.int .i64 0))]) (.exit 0) ([(4, .pp 2 0), (5, .pp 3 0)]) ([(0, 0, rowP l), (1, 0, .pv (.int .i64 tn)), (1, 1, .pv (.int .i64 td)), (3, 0, .pv (.int .i64 (m).id)), (3, 1, .pv (.int .i64 (m).a)), (3, 2, .pv (.int .i64 (m).b)), (2, 0, .pv (.int .i64 0)), (2, 1, .pv (.int .i64 0)), (2, 2, .pv (.int .i64 0))])) :
    FnL Try.prog 30 2 [.ls 0 l.length, .pc 46 [.pp 1 0]] [(0, 0, rowP l), (1, 0, .pv (.int .i64 tn)), (1, 1, .pv (.int .i64 td))] (.pv (ptV m)) 0 [] :=
  fnl_run 300 [] [.t false, .r (ptV p), .l (.exit 0) ([(0, .ls 0 l.length), (1, .pc 46 [.pp 1 0]), (4, .pp 2 0), (5, .pp 3 0), (6, .pv (.int .i64 (((0 + 1 : Nat)) : Int)))]) ([(0, 0, rowP l), (1, 0, .pv (.int .i64 tn)), (1, 1, .pv (.int .i64 td)), (3, 0, .pv (.int .i64 (p).id)), (3, 1, .pv (.int .i64 (p).a)), (3, 2, .pv (.int .i64 (p).b)), (2, 0, .pv (.int .i64 0)), (2, 1, .pv (.int .i64 0)), (2, 2, .pv (.int .i64 0))]) ([(4, .pp 2 0), (5, .pp 3 0)]) ([(0, 0, rowP l), (1, 0, .pv (.int .i64 tn)), (1, 1, .pv (.int .i64 td)), (3, 0, .pv (.int .i64 (m).id)), (3, 1, .pv (.int .i64 (m).a)), (3, 2, .pv (.int .i64 (m).b)), (2, 0, .pv (.int .i64 0)), (2, 1, .pv (.int .i64 0)), (2, 2, .pv (.int .i64 0))])]
     True.intro (And.intro h1 (And.intro hin (And.intro (ra_pt hk) (And.intro (reflT (renN []) ([(0, .ls 0 l.length), (1, .pc 46 [.pp 1 0]), (4, .pp 2 0), (5, .pp 3 0), (6, .pv (.int .i64 (((0 + 1 : Nat)) : Int)))])) (And.intro (reflH (renN []) ([(0, 0, rowP l), (1, 0, .pv (.int .i64 tn)), (1, 1, .pv (.int .i64 td)), (3, 0, .pv (.int .i64 (p).id)), (3, 1, .pv (.int .i64 (p).a)), (3, 2, .pv (.int .i64 (p).b)), (2, 0, .pv (.int .i64 0)), (2, 1, .pv (.int .i64 0)), (2, 2, .pv (.int .i64 0))])) (And.intro r0 True.intro)))))) (by kernel_rfl)

set_option maxRecDepth 100000 in
theorem plead_err {l : List Pt} {tn td : Int} {e : Int} (hc : FnL Try.prog 29 1 [fldS 0 l, .pv (ratioV tn td)] [(0, 0, rowP l)] (.pv (.int .i64 (e))) 0 []) (he : (e != 0) = true) :
    FnL Try.prog 16 1 [fldS 0 l, .pv (ratioV tn td)] [(0, 0, rowP l)] (.pv (.tuple #[.int .i64 (0), .int .i64 (e)])) 0 [] :=
  fnl_run 300 [] [.f [0] [fldS 0 l, .pv (ratioV tn td)] [(0, 0, rowP l)] (.pv (.int .i64 (e))) 0 [], .t true]
     True.intro (And.intro hc (And.intro (Eq.refl (List.map (SV.ren (renU [0] 3)) [fldS 0 l, .pv (ratioV tn td)])) (And.intro (reflH (renU [0] 3) [(0, 0, rowP l)]) (And.intro he True.intro)))) (by kernel_rfl)

set_option maxRecDepth 100000 in
theorem plead_no {l : List Pt} {tn td : Int} (hc : FnL Try.prog 29 1 [fldS 0 l, .pv (ratioV tn td)] [(0, 0, rowP l)] (.pv (.int .i64 (0))) 0 []) (h0 : ((l.length : Int) == 0) = true) :
    FnL Try.prog 16 1 [fldS 0 l, .pv (ratioV tn td)] [(0, 0, rowP l)] (.pv (.tuple #[.int .i64 (0), .int .i64 (42)])) 0 [] :=
  fnl_run 300 [] [.f [0] [fldS 0 l, .pv (ratioV tn td)] [(0, 0, rowP l)] (.pv (.int .i64 (0))) 0 [], .k, .t true]
     True.intro (And.intro hc (And.intro (Eq.refl (List.map (SV.ren (renU [0] 3)) [fldS 0 l, .pv (ratioV tn td)])) (And.intro (reflH (renU [0] 3) [(0, 0, rowP l)]) (And.intro h0 True.intro)))) (by kernel_rfl)

set_option maxRecDepth 100000 in
theorem plead_yes {l : List Pt} {m : Pt} {tn td : Int} (hc : FnL Try.prog 29 1 [fldS 0 l, .pv (ratioV tn td)] [(0, 0, rowP l)] (.pv (.int .i64 (0))) 0 []) (h0 : ((l.length : Int) == 0) = false) (hm : FnL Try.prog 30 2 [.ls 0 l.length, .pc 46 [.pp 1 0]] [(0, 0, rowP l), (1, 0, .pv (.int .i64 tn)), (1, 1, .pv (.int .i64 td))] (.pv (ptV m)) 0 []) :
    FnL Try.prog 16 1 [fldS 0 l, .pv (ratioV tn td)] [(0, 0, rowP l)] (.pv (.tuple #[.int .i64 (m.id), .int .i64 (0)])) 0 [] :=
  fnl_run 300 [] [.f [0] [fldS 0 l, .pv (ratioV tn td)] [(0, 0, rowP l)] (.pv (.int .i64 (0))) 0 [], .k, .t false, .k, .f [0,3] [.ls 0 l.length, .pc 46 [.pp 1 0]] [(0, 0, rowP l), (1, 0, .pv (.int .i64 tn)), (1, 1, .pv (.int .i64 td))] (.pv (ptV m)) 0 []]
     True.intro (And.intro hc (And.intro (Eq.refl (List.map (SV.ren (renU [0] 3)) [fldS 0 l, .pv (ratioV tn td)])) (And.intro (reflH (renU [0] 3) [(0, 0, rowP l)]) (And.intro h0 (And.intro hm (And.intro (Eq.refl (List.map (SV.ren (renU [0,3] 4)) [.ls 0 l.length, .pc 46 [.pp 1 0]])) (And.intro (reflH (renU [0,3] 4) [(0, 0, rowP l), (1, 0, .pv (.int .i64 tn)), (1, 1, .pv (.int .i64 td))]) True.intro))))))) (by kernel_rfl)

end Go.Proofs.Ytoheadpehomdjaa

namespace Go.Proofs.Ytoheadpehomdjaa
open Go.RowKit
set_option maxRecDepth 100000 in
theorem find1_lt {a pa pb id : Int} (n1 : (!(a == a)) = false) (n2 : (!(id == id)) = false) (h1 : decide (a < id) = true) : Pure Try.prog 68 #[pointV a pa pb, .int .i64 id] (.int .i64 (-1)) :=
  pure_run (args := [pointV a pa pb, .int .i64 id]) 200 [.k, .k, .t false, .k, .t false, .t true] (And.intro rfl (And.intro n1 (And.intro n2 (And.intro h1 True.intro)))) (by kernel_rfl)

set_option maxRecDepth 100000 in
theorem find1_gt {a pa pb id : Int} (n1 : (!(a == a)) = false) (n2 : (!(id == id)) = false) (h1 : decide (a < id) = false) (h2 : decide (a > id) = true) : Pure Try.prog 68 #[pointV a pa pb, .int .i64 id] (.int .i64 (1)) :=
  pure_run (args := [pointV a pa pb, .int .i64 id]) 200 [.k, .k, .t false, .k, .t false, .t false, .t true] (And.intro rfl (And.intro n1 (And.intro n2 (And.intro h1 (And.intro h2 True.intro))))) (by kernel_rfl)

set_option maxRecDepth 100000 in
theorem find1_eq {a pa pb id : Int} (n1 : (!(a == a)) = false) (n2 : (!(id == id)) = false) (h1 : decide (a < id) = false) (h2 : decide (a > id) = false) : Pure Try.prog 68 #[pointV a pa pb, .int .i64 id] (.int .i64 (0)) :=
  pure_run (args := [pointV a pa pb, .int .i64 id]) 200 [.k, .k, .t false, .k, .t false, .t false, .t false] (And.intro rfl (And.intro n1 (And.intro n2 (And.intro h1 (And.intro h2 True.intro))))) (by kernel_rfl)

set_option maxRecDepth 100000 in
theorem bs_up {l : List Pt} {i j h : Nat} {p : Pt} {c : Int} {id : Int} (hk : l[h]? = some p) (hin : 0 ≤ (h : Int) ∧ (h : Int) < (l.length : Int)) (hlt : decide ((i : Int) < (j : Int)) = true) (ha : Value.int .i64 (IntKind.i64.wrap ((i : Int) + (j : Int))) = .int .i64 ((i : Int) + (j : Int))) (hu : Value.int .u64 (IntKind.u64.wrap ((i : Int) + (j : Int))) = .int .u64 ((i : Int) + (j : Int))) (h1 : ¬ (1 : Int) < 0) (hs : Value.int .u64 (((i : Int) + (j : Int)).fdiv (2 ^ (min (1 : Int).toNat IntKind.u64.bits))) = .int .u64 (h : Int)) (hb : Value.int .i64 (IntKind.i64.wrap (h : Int)) = .int .i64 ((h : Int))) (hc : Pure Try.prog 68 #[pointV p.id p.a p.b, .int .i64 id] (.int .i64 (c))) (hz : decide (c < 0) = true) (hh : Value.int .i64 (IntKind.i64.wrap ((h : Int) + 1)) = .int .i64 (((h + 1 : Nat) : Int))) {e : Exit} {tm2 : List (Nat × SV)} {hp2 : List (Nat × Nat × SV)}
    (r : RunsL Try.prog 1 1 (loopOf Try.prog 67 0) 49 1 ([(0, .ls 0 l.length), (1, .pv (.int .i64 id)), (2, .pv (.func (.func 68) #[] #[])), (8, .pv (.int .i64 (l.length : Int))), (9, .pv (.int .i64 ((h + 1 : Nat) : Int))), (10, .pv (.int .i64 (j : Int)))]) ([(0, 0, rowP l)]) e tm2 hp2) : RunsL Try.prog 1 1 (loopOf Try.prog 67 0) 49 1 ([(0, .ls 0 l.length), (1, .pv (.int .i64 id)), (2, .pv (.func (.func 68) #[] #[])), (8, .pv (.int .i64 (l.length : Int))), (9, .pv (.int .i64 (i : Int))), (10, .pv (.int .i64 (j : Int)))]) ([(0, 0, rowP l)]) e tm2 hp2 :=
  RunsL.next [] 300 [.t true, .r (.int .i64 ((i : Int) + (j : Int))), .r (.int .u64 ((i : Int) + (j : Int))), .r (.int .u64 (h : Int)), .r (.int .i64 ((h : Int))), .r (ptV p), .r (.int .i64 (c)), .t true, .r (.int .i64 (((h + 1 : Nat) : Int)))]
    (round_of (And.intro hlt (And.intro ha (And.intro hu (And.intro h1 (And.intro hs (And.intro hb (And.intro hin (And.intro (ra_pt hk) (And.intro hc (And.intro hz (And.intro hh True.intro))))))))))) (by kernel_rfl)) r

set_option maxRecDepth 100000 in
theorem bs_dn {l : List Pt} {i j h : Nat} {p : Pt} {c : Int} {id : Int} (hk : l[h]? = some p) (hin : 0 ≤ (h : Int) ∧ (h : Int) < (l.length : Int)) (hlt : decide ((i : Int) < (j : Int)) = true) (ha : Value.int .i64 (IntKind.i64.wrap ((i : Int) + (j : Int))) = .int .i64 ((i : Int) + (j : Int))) (hu : Value.int .u64 (IntKind.u64.wrap ((i : Int) + (j : Int))) = .int .u64 ((i : Int) + (j : Int))) (h1 : ¬ (1 : Int) < 0) (hs : Value.int .u64 (((i : Int) + (j : Int)).fdiv (2 ^ (min (1 : Int).toNat IntKind.u64.bits))) = .int .u64 (h : Int)) (hb : Value.int .i64 (IntKind.i64.wrap (h : Int)) = .int .i64 ((h : Int))) (hc : Pure Try.prog 68 #[pointV p.id p.a p.b, .int .i64 id] (.int .i64 (c))) (hz : decide (c < 0) = false) {e : Exit} {tm2 : List (Nat × SV)} {hp2 : List (Nat × Nat × SV)}
    (r : RunsL Try.prog 1 1 (loopOf Try.prog 67 0) 49 1 ([(0, .ls 0 l.length), (1, .pv (.int .i64 id)), (2, .pv (.func (.func 68) #[] #[])), (8, .pv (.int .i64 (l.length : Int))), (9, .pv (.int .i64 (i : Int))), (10, .pv (.int .i64 (h : Int)))]) ([(0, 0, rowP l)]) e tm2 hp2) : RunsL Try.prog 1 1 (loopOf Try.prog 67 0) 49 1 ([(0, .ls 0 l.length), (1, .pv (.int .i64 id)), (2, .pv (.func (.func 68) #[] #[])), (8, .pv (.int .i64 (l.length : Int))), (9, .pv (.int .i64 (i : Int))), (10, .pv (.int .i64 (j : Int)))]) ([(0, 0, rowP l)]) e tm2 hp2 :=
  RunsL.next [] 300 [.t true, .r (.int .i64 ((i : Int) + (j : Int))), .r (.int .u64 ((i : Int) + (j : Int))), .r (.int .u64 (h : Int)), .r (.int .i64 ((h : Int))), .r (ptV p), .r (.int .i64 (c)), .t false]
    (round_of (And.intro hlt (And.intro ha (And.intro hu (And.intro h1 (And.intro hs (And.intro hb (And.intro hin (And.intro (ra_pt hk) (And.intro hc (And.intro hz True.intro)))))))))) (by kernel_rfl)) r

set_option maxRecDepth 100000 in
theorem bs_end {l : List Pt} {i j : Nat} {id : Int} (hge : decide ((i : Int) < (j : Int)) = false) : RunsL Try.prog 1 1 (loopOf Try.prog 67 0) 49 1 ([(0, .ls 0 l.length), (1, .pv (.int .i64 id)), (2, .pv (.func (.func 68) #[] #[])), (8, .pv (.int .i64 (l.length : Int))), (9, .pv (.int .i64 (i : Int))), (10, .pv (.int .i64 (j : Int)))]) ([(0, 0, rowP l)]) (.exit 0) ([(0, .ls 0 l.length), (1, .pv (.int .i64 id)), (2, .pv (.func (.func 68) #[] #[])), (8, .pv (.int .i64 (l.length : Int))), (9, .pv (.int .i64 (i : Int))), (10, .pv (.int .i64 (j : Int)))]) ([(0, 0, rowP l)]) :=
  RunsL.stop [] 300 [.t false] (fun h => by cases h)
    (round_of (And.intro hge True.intro) (by kernel_rfl))

set_option maxRecDepth 100000 in
theorem bsf_out {l : List Pt} {k : Nat} {id : Int} (r0 : RunsL Try.prog 1 1 (loopOf Try.prog 67 0) 49 1 ([(0, .ls 0 l.length), (1, .pv (.int .i64 id)), (2, .pv (.func (.func 68) #[] #[])), (8, .pv (.int .i64 (l.length : Int))), (9, .pv (.int .i64 ((0 : Nat) : Int))), (10, .pv (.int .i64 (l.length : Int)))]) ([(0, 0, rowP l)]) (.exit 0) ([(0, .ls 0 l.length), (1, .pv (.int .i64 id)), (2, .pv (.func (.func 68) #[] #[])), (8, .pv (.int .i64 (l.length : Int))), (9, .pv (.int .i64 (k : Int))), (10, .pv (.int .i64 (k : Int)))]) ([(0, 0, rowP l)])) (hge : decide ((k : Int) < (l.length : Int)) = false) :
    FnL Try.prog 67 1 [.ls 0 l.length, .pv (.int .i64 (id)), .pv (.func (.func 68) #[] #[])] [(0, 0, rowP l)] (.pv (.tuple #[.int .i64 (k : Int), .bool false])) 0 [] :=
  fnl_run 300 [] [.l (.exit 0) ([(0, .ls 0 l.length), (1, .pv (.int .i64 id)), (2, .pv (.func (.func 68) #[] #[])), (8, .pv (.int .i64 (l.length : Int))), (9, .pv (.int .i64 ((0 : Nat) : Int))), (10, .pv (.int .i64 (l.length : Int)))]) ([(0, 0, rowP l)]) ([(0, .ls 0 l.length), (1, .pv (.int .i64 id)), (2, .pv (.func (.func 68) #[] #[])), (8, .pv (.int .i64 (l.length : Int))), (9, .pv (.int .i64 (k : Int))), (10, .pv (.int .i64 (k : Int)))]) ([(0, 0, rowP l)]), .t false]
     True.intro (And.intro (reflT (renN []) ([(0, .ls 0 l.length), (1, .pv (.int .i64 id)), (2, .pv (.func (.func 68) #[] #[])), (8, .pv (.int .i64 (l.length : Int))), (9, .pv (.int .i64 ((0 : Nat) : Int))), (10, .pv (.int .i64 (l.length : Int)))])) (And.intro (reflH (renN []) ([(0, 0, rowP l)])) (And.intro r0 (And.intro hge True.intro)))) (by kernel_rfl)

set_option maxRecDepth 100000 in
theorem bsf_hit {l : List Pt} {k : Nat} {p : Pt} {c : Int} {id : Int} (r0 : RunsL Try.prog 1 1 (loopOf Try.prog 67 0) 49 1 ([(0, .ls 0 l.length), (1, .pv (.int .i64 id)), (2, .pv (.func (.func 68) #[] #[])), (8, .pv (.int .i64 (l.length : Int))), (9, .pv (.int .i64 ((0 : Nat) : Int))), (10, .pv (.int .i64 (l.length : Int)))]) ([(0, 0, rowP l)]) (.exit 0) ([(0, .ls 0 l.length), (1, .pv (.int .i64 id)), (2, .pv (.func (.func 68) #[] #[])), (8, .pv (.int .i64 (l.length : Int))), (9, .pv (.int .i64 (k : Int))), (10, .pv (.int .i64 (k : Int)))]) ([(0, 0, rowP l)])) (hk : l[k]? = some p) (hin : 0 ≤ (k : Int) ∧ (k : Int) < (l.length : Int)) (hlt : decide ((k : Int) < (l.length : Int)) = true) (hc : Pure Try.prog 68 #[pointV p.id p.a p.b, .int .i64 id] (.int .i64 (c))) (hz : (c == 0) = true) :
    FnL Try.prog 67 1 [.ls 0 l.length, .pv (.int .i64 (id)), .pv (.func (.func 68) #[] #[])] [(0, 0, rowP l)] (.pv (.tuple #[.int .i64 (k : Int), .bool true])) 0 [] :=
  fnl_run 300 [] [.l (.exit 0) ([(0, .ls 0 l.length), (1, .pv (.int .i64 id)), (2, .pv (.func (.func 68) #[] #[])), (8, .pv (.int .i64 (l.length : Int))), (9, .pv (.int .i64 ((0 : Nat) : Int))), (10, .pv (.int .i64 (l.length : Int)))]) ([(0, 0, rowP l)]) ([(0, .ls 0 l.length), (1, .pv (.int .i64 id)), (2, .pv (.func (.func 68) #[] #[])), (8, .pv (.int .i64 (l.length : Int))), (9, .pv (.int .i64 (k : Int))), (10, .pv (.int .i64 (k : Int)))]) ([(0, 0, rowP l)]), .t true, .r (ptV p), .r (.int .i64 (c)), .t true]
     True.intro (And.intro (reflT (renN []) ([(0, .ls 0 l.length), (1, .pv (.int .i64 id)), (2, .pv (.func (.func 68) #[] #[])), (8, .pv (.int .i64 (l.length : Int))), (9, .pv (.int .i64 ((0 : Nat) : Int))), (10, .pv (.int .i64 (l.length : Int)))])) (And.intro (reflH (renN []) ([(0, 0, rowP l)])) (And.intro r0 (And.intro hlt (And.intro hin (And.intro (ra_pt hk) (And.intro hc (And.intro hz True.intro)))))))) (by kernel_rfl)

set_option maxRecDepth 100000 in
theorem bsf_no {l : List Pt} {k : Nat} {p : Pt} {c : Int} {id : Int} (r0 : RunsL Try.prog 1 1 (loopOf Try.prog 67 0) 49 1 ([(0, .ls 0 l.length), (1, .pv (.int .i64 id)), (2, .pv (.func (.func 68) #[] #[])), (8, .pv (.int .i64 (l.length : Int))), (9, .pv (.int .i64 ((0 : Nat) : Int))), (10, .pv (.int .i64 (l.length : Int)))]) ([(0, 0, rowP l)]) (.exit 0) ([(0, .ls 0 l.length), (1, .pv (.int .i64 id)), (2, .pv (.func (.func 68) #[] #[])), (8, .pv (.int .i64 (l.length : Int))), (9, .pv (.int .i64 (k : Int))), (10, .pv (.int .i64 (k : Int)))]) ([(0, 0, rowP l)])) (hk : l[k]? = some p) (hin : 0 ≤ (k : Int) ∧ (k : Int) < (l.length : Int)) (hlt : decide ((k : Int) < (l.length : Int)) = true) (hc : Pure Try.prog 68 #[pointV p.id p.a p.b, .int .i64 id] (.int .i64 (c))) (hz : (c == 0) = false) :
    FnL Try.prog 67 1 [.ls 0 l.length, .pv (.int .i64 (id)), .pv (.func (.func 68) #[] #[])] [(0, 0, rowP l)] (.pv (.tuple #[.int .i64 (k : Int), .bool false])) 0 [] :=
  fnl_run 300 [] [.l (.exit 0) ([(0, .ls 0 l.length), (1, .pv (.int .i64 id)), (2, .pv (.func (.func 68) #[] #[])), (8, .pv (.int .i64 (l.length : Int))), (9, .pv (.int .i64 ((0 : Nat) : Int))), (10, .pv (.int .i64 (l.length : Int)))]) ([(0, 0, rowP l)]) ([(0, .ls 0 l.length), (1, .pv (.int .i64 id)), (2, .pv (.func (.func 68) #[] #[])), (8, .pv (.int .i64 (l.length : Int))), (9, .pv (.int .i64 (k : Int))), (10, .pv (.int .i64 (k : Int)))]) ([(0, 0, rowP l)]), .t true, .r (ptV p), .r (.int .i64 (c)), .t false]
     True.intro (And.intro (reflT (renN []) ([(0, .ls 0 l.length), (1, .pv (.int .i64 id)), (2, .pv (.func (.func 68) #[] #[])), (8, .pv (.int .i64 (l.length : Int))), (9, .pv (.int .i64 ((0 : Nat) : Int))), (10, .pv (.int .i64 (l.length : Int)))])) (And.intro (reflH (renN []) ([(0, 0, rowP l)])) (And.intro r0 (And.intro hlt (And.intro hin (And.intro (ra_pt hk) (And.intro hc (And.intro hz True.intro)))))))) (by kernel_rfl)

set_option maxRecDepth 100000 in
theorem find_path {l : List Pt} {k : Nat} {b : Bool} {id : Int} (hb : FnL Try.prog 67 1 [.ls 0 l.length, .pv (.int .i64 (id)), .pv (.func (.func 68) #[] #[])] [(0, 0, rowP l)] (.pv (.tuple #[.int .i64 (k : Int), .bool b])) 0 []) :
    FnL Try.prog 51 1 [fldS 0 l, .pv (.int .i64 (id))] [(0, 0, rowP l)] (.pv (.tuple #[.int .i64 (k : Int), .bool b])) 0 [] :=
  fnl_run 300 [] [.f [0] [.ls 0 l.length, .pv (.int .i64 (id)), .pv (.func (.func 68) #[] #[])] [(0, 0, rowP l)] (.pv (.tuple #[.int .i64 (k : Int), .bool b])) 0 []]
     True.intro (And.intro hb (And.intro (Eq.refl (List.map (SV.ren (renU [0] 2)) [.ls 0 l.length, .pv (.int .i64 (id)), .pv (.func (.func 68) #[] #[])])) (And.intro (reflH (renU [0] 2) [(0, 0, rowP l)]) True.intro))) (by kernel_rfl)

set_option maxRecDepth 100000 in
theorem pfind_no {l : List Pt} {k : Nat} {id : Int} (hc : FnL Try.prog 22 1 [fldS 0 l] [(0, 0, rowP l)] (.pv (.int .i64 (0))) 0 []) (hf : FnL Try.prog 51 1 [fldS 0 l, .pv (.int .i64 (id))] [(0, 0, rowP l)] (.pv (.tuple #[.int .i64 (k : Int), .bool false])) 0 []) :
    FnL Try.prog 40 1 [fldS 0 l, .pv (.int .i64 (id))] [(0, 0, rowP l)] (.pv (.tuple #[pointV 0 0 0, .int .i64 (6)])) 0 [] :=
  fnl_run 300 [] [.f [0] [fldS 0 l] [(0, 0, rowP l)] (.pv (.int .i64 (0))) 0 [], .k, .f [0] [fldS 0 l, .pv (.int .i64 (id))] [(0, 0, rowP l)] (.pv (.tuple #[.int .i64 (k : Int), .bool false])) 0 [], .k]
     True.intro (And.intro hc (And.intro (Eq.refl (List.map (SV.ren (renU [0] 3)) [fldS 0 l])) (And.intro (reflH (renU [0] 3) [(0, 0, rowP l)]) (And.intro hf (And.intro (Eq.refl (List.map (SV.ren (renU [0] 3)) [fldS 0 l, .pv (.int .i64 (id))])) (And.intro (reflH (renU [0] 3) [(0, 0, rowP l)]) True.intro)))))) (by kernel_rfl)

set_option maxRecDepth 100000 in
theorem pfind_yes {l : List Pt} {k : Nat} {p : Pt} {id : Int} (hk : l[k]? = some p) (hin : 0 ≤ (k : Int) ∧ (k : Int) < (l.length : Int)) (hc : FnL Try.prog 22 1 [fldS 0 l] [(0, 0, rowP l)] (.pv (.int .i64 (0))) 0 []) (hf : FnL Try.prog 51 1 [fldS 0 l, .pv (.int .i64 (id))] [(0, 0, rowP l)] (.pv (.tuple #[.int .i64 (k : Int), .bool true])) 0 []) :
    FnL Try.prog 40 1 [fldS 0 l, .pv (.int .i64 (id))] [(0, 0, rowP l)] (.pv (.tuple #[ptV p, .int .i64 (0)])) 0 [] :=
  fnl_run 300 [] [.f [0] [fldS 0 l] [(0, 0, rowP l)] (.pv (.int .i64 (0))) 0 [], .k, .f [0] [fldS 0 l, .pv (.int .i64 (id))] [(0, 0, rowP l)] (.pv (.tuple #[.int .i64 (k : Int), .bool true])) 0 [], .k, .r (ptV p)]
     True.intro (And.intro hc (And.intro (Eq.refl (List.map (SV.ren (renU [0] 3)) [fldS 0 l])) (And.intro (reflH (renU [0] 3) [(0, 0, rowP l)]) (And.intro hf (And.intro (Eq.refl (List.map (SV.ren (renU [0] 3)) [fldS 0 l, .pv (.int .i64 (id))])) (And.intro (reflH (renU [0] 3) [(0, 0, rowP l)]) (And.intro hin (And.intro (ra_pt hk) True.intro)))))))) (by kernel_rfl)

end Go.Proofs.Ytoheadpehomdjaa
