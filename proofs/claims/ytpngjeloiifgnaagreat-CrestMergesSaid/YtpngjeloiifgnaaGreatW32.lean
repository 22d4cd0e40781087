/-
  Joined: Fb, Fc, Fg. Conditions: none.
-/
import Derived.Test.YtpngjeloiifgnaaGreatW31
namespace Go.Proofs.YtpngjeloiifgnaaGreat
open Go.RowKit
set_option maxRecDepth 100000 in
theorem kc0_next {l : List Pt} {k : Nat} {p : Pt} (hk : l[k]? = some p) (hin : 0 ≤ (k : Int) ∧ (k : Int) < (l.length : Int)) (hlt : decide ((k : Int) < (l.length : Int)) = true) (hc : Pure Tryz.prog 62 #[pointV p.id p.a p.b] (.int .i64 (0))) (hs : Value.int .i64 (IntKind.i64.wrap ((k : Int) + 1)) = .int .i64 (((k + 1 : Nat) : Int))) {e : Exit} {tm2 : List (Nat × SV)} {hp2 : List (Nat × Nat × SV)}
    (r : RunsL Tryz.prog 1 1 (loopOf Tryz.prog 24 0) 44 2 ([(1, .pp 1 0), (3, .pv (.int .i64 ((k + 1 : Nat) : Int)))]) ([(1, 0, .ls 0 l.length), (0, 0, rowP l)]) e tm2 hp2) : RunsL Tryz.prog 1 1 (loopOf Tryz.prog 24 0) 44 2 ([(1, .pp 1 0), (3, .pv (.int .i64 (k : Int)))]) ([(1, 0, .ls 0 l.length), (0, 0, rowP l)]) e tm2 hp2 :=
  RunsL.next [] 300 [.t true, .r (ptV p), .r (.int .i64 (0)), .k, .r (.int .i64 (((k + 1 : Nat) : Int)))]
    (round_of (And.intro hlt (And.intro hin (And.intro (ra_pt hk) (And.intro hc (And.intro hs True.intro))))) (by kernel_rfl)) r

set_option maxRecDepth 100000 in
theorem kc0_bad {l : List Pt} {k : Nat} {p : Pt} (hk : l[k]? = some p) (hin : 0 ≤ (k : Int) ∧ (k : Int) < (l.length : Int)) (hlt : decide ((k : Int) < (l.length : Int)) = true) (hc : Pure Tryz.prog 62 #[pointV p.id p.a p.b] (.int .i64 (8))) : RunsL Tryz.prog 1 1 (loopOf Tryz.prog 24 0) 44 2 ([(1, .pp 1 0), (3, .pv (.int .i64 (k : Int)))]) ([(1, 0, .ls 0 l.length), (0, 0, rowP l)]) (.ret) ([(2, .pv (.int .i64 8))]) ([]) :=
  RunsL.stop [] 300 [.t true, .r (ptV p), .r (.int .i64 (8)), .k] (fun h => by cases h)
    (round_of (And.intro hlt (And.intro hin (And.intro (ra_pt hk) (And.intro hc True.intro)))) (by kernel_rfl))

set_option maxRecDepth 100000 in
theorem kc0_end {l : List Pt} {k : Nat} (hge : decide ((k : Int) < (l.length : Int)) = false) : RunsL Tryz.prog 1 1 (loopOf Tryz.prog 24 0) 44 2 ([(1, .pp 1 0), (3, .pv (.int .i64 (k : Int)))]) ([(1, 0, .ls 0 l.length), (0, 0, rowP l)]) (.exit 0) ([(1, .pp 1 0)]) ([(1, 0, .ls 0 l.length), (0, 0, rowP l)]) :=
  RunsL.stop [] 300 [.t false] (fun h => by cases h)
    (round_of (And.intro hge True.intro) (by kernel_rfl))

set_option maxRecDepth 100000 in
theorem kc1_next {l : List Pt} {k : Nat} {p q : Pt} (hq : l[k]? = some q) (hk : l[k + 1]? = some p) (hi0 : 0 ≤ (k : Int) ∧ (k : Int) < (l.length : Int)) (hi1 : 0 ≤ ((k + 1 : Nat) : Int) ∧ ((k + 1 : Nat) : Int) < (l.length : Int)) (hlt : decide (((k + 1 : Nat) : Int) < (l.length : Int)) = true) (hm : Value.int .i64 (IntKind.i64.wrap (((k + 1 : Nat) : Int) - 1)) = .int .i64 ((k : Int))) (hg : decide (q.id ≥ p.id) = false) (hs : Value.int .i64 (IntKind.i64.wrap (((k + 1 : Nat) : Int) + 1)) = .int .i64 (((k + 1 + 1 : Nat) : Int))) {e : Exit} {tm2 : List (Nat × SV)} {hp2 : List (Nat × Nat × SV)}
    (r : RunsL Tryz.prog 1 1 (loopOf Tryz.prog 24 1) 44 2 ([(1, .pp 1 0), (4, .pv (.int .i64 ((k + 1 + 1 : Nat) : Int)))]) ([(1, 0, .ls 0 l.length), (0, 0, rowP l)]) e tm2 hp2) : RunsL Tryz.prog 1 1 (loopOf Tryz.prog 24 1) 44 2 ([(1, .pp 1 0), (4, .pv (.int .i64 ((k + 1 : Nat) : Int)))]) ([(1, 0, .ls 0 l.length), (0, 0, rowP l)]) e tm2 hp2 :=
  RunsL.next [] 300 [.t true, .r (.int .i64 ((k : Int))), .r (Value.int .i64 q.id), .r (Value.int .i64 p.id), .t false, .r (.int .i64 (((k + 1 + 1 : Nat) : Int)))]
    (round_of (And.intro hlt (And.intro hm (And.intro hi0 (And.intro (ra_id hq) (And.intro hi1 (And.intro (ra_id hk) (And.intro hg (And.intro hs True.intro)))))))) (by kernel_rfl)) r

set_option maxRecDepth 100000 in
theorem kc1_bad {l : List Pt} {k : Nat} {p q : Pt} (hq : l[k]? = some q) (hk : l[k + 1]? = some p) (hi0 : 0 ≤ (k : Int) ∧ (k : Int) < (l.length : Int)) (hi1 : 0 ≤ ((k + 1 : Nat) : Int) ∧ ((k + 1 : Nat) : Int) < (l.length : Int)) (hlt : decide (((k + 1 : Nat) : Int) < (l.length : Int)) = true) (hm : Value.int .i64 (IntKind.i64.wrap (((k + 1 : Nat) : Int) - 1)) = .int .i64 ((k : Int))) (hg : decide (q.id ≥ p.id) = true) : RunsL Tryz.prog 1 1 (loopOf Tryz.prog 24 1) 44 2 ([(1, .pp 1 0), (4, .pv (.int .i64 ((k + 1 : Nat) : Int)))]) ([(1, 0, .ls 0 l.length), (0, 0, rowP l)]) (.ret) ([(2, .pv (.int .i64 32))]) ([]) :=
  RunsL.stop [] 300 [.t true, .r (.int .i64 ((k : Int))), .r (Value.int .i64 q.id), .r (Value.int .i64 p.id), .t true] (fun h => by cases h)
    (round_of (And.intro hlt (And.intro hm (And.intro hi0 (And.intro (ra_id hq) (And.intro hi1 (And.intro (ra_id hk) (And.intro hg True.intro))))))) (by kernel_rfl))

set_option maxRecDepth 100000 in
theorem kc1_end {l : List Pt} {k : Nat} (hge : decide (((k : Nat) : Int) < (l.length : Int)) = false) : RunsL Tryz.prog 1 1 (loopOf Tryz.prog 24 1) 44 2 ([(1, .pp 1 0), (4, .pv (.int .i64 ((k : Nat) : Int)))]) ([(1, 0, .ls 0 l.length), (0, 0, rowP l)]) (.exit 2) ([]) ([]) :=
  RunsL.stop [] 300 [.t false] (fun h => by cases h)
    (round_of (And.intro hge True.intro) (by kernel_rfl))

set_option maxRecDepth 100000 in
theorem kc_many {l : List Pt} (h64 : decide ((l.length : Int) > 64) = true) :
    FnL Tryz.prog 24 1 [fldS 0 l] [(0, 0, rowP l)] (.pv (.int .i64 4)) 0 [] :=
  fnl_run 300 [] [.t true]
     True.intro (And.intro h64 True.intro) (by kernel_rfl)

set_option maxRecDepth 100000 in
theorem kc_bad {l : List Pt} (h64 : decide ((l.length : Int) > 64) = false) (r0 : RunsL Tryz.prog 1 1 (loopOf Tryz.prog 24 0) 44 2 ([(1, .pp 1 0), (3, .pv (.int .i64 (((0 : Nat) : Int) : Int)))]) ([(1, 0, .ls 0 l.length), (0, 0, rowP l)]) (.ret) ([(2, .pv (.int .i64 8))]) ([])) :
    FnL Tryz.prog 24 1 [fldS 0 l] [(0, 0, rowP l)] (.pv (.int .i64 8)) 0 [] :=
  fnl_run 300 [] [.t false, .l (.ret) ([(1, .pp 1 0), (3, .pv (.int .i64 (((0 : Nat) : Int) : Int)))]) ([(1, 0, .ls 0 l.length), (0, 0, rowP l)]) ([(2, .pv (.int .i64 8))]) ([])]
     True.intro (And.intro h64 (And.intro (reflT (renN []) ([(1, .pp 1 0), (3, .pv (.int .i64 (((0 : Nat) : Int) : Int)))])) (And.intro (reflH (renN []) ([(1, 0, .ls 0 l.length), (0, 0, rowP l)])) (And.intro r0 True.intro)))) (by kernel_rfl)

set_option maxRecDepth 100000 in
theorem kc_ord {l : List Pt} (h64 : decide ((l.length : Int) > 64) = false) (r0 : RunsL Tryz.prog 1 1 (loopOf Tryz.prog 24 0) 44 2 ([(1, .pp 1 0), (3, .pv (.int .i64 (((0 : Nat) : Int) : Int)))]) ([(1, 0, .ls 0 l.length), (0, 0, rowP l)]) (.exit 0) ([(1, .pp 1 0)]) ([(1, 0, .ls 0 l.length), (0, 0, rowP l)])) (r1 : RunsL Tryz.prog 1 1 (loopOf Tryz.prog 24 1) 44 2 ([(1, .pp 1 0), (4, .pv (.int .i64 (((0 + 1 : Nat) : Int) : Int)))]) ([(1, 0, .ls 0 l.length), (0, 0, rowP l)]) (.ret) ([(2, .pv (.int .i64 32))]) ([])) :
    FnL Tryz.prog 24 1 [fldS 0 l] [(0, 0, rowP l)] (.pv (.int .i64 32)) 0 [] :=
  fnl_run 300 [] [.t false, .l (.exit 0) ([(1, .pp 1 0), (3, .pv (.int .i64 (((0 : Nat) : Int) : Int)))]) ([(1, 0, .ls 0 l.length), (0, 0, rowP l)]) ([(1, .pp 1 0)]) ([(1, 0, .ls 0 l.length), (0, 0, rowP l)]), .l (.ret) ([(1, .pp 1 0), (4, .pv (.int .i64 (((0 + 1 : Nat) : Int) : Int)))]) ([(1, 0, .ls 0 l.length), (0, 0, rowP l)]) ([(2, .pv (.int .i64 32))]) ([])]
     True.intro (And.intro h64 (And.intro (reflT (renN []) ([(1, .pp 1 0), (3, .pv (.int .i64 (((0 : Nat) : Int) : Int)))])) (And.intro (reflH (renN []) ([(1, 0, .ls 0 l.length), (0, 0, rowP l)])) (And.intro r0 (And.intro (reflT (renN []) ([(1, .pp 1 0), (4, .pv (.int .i64 (((0 + 1 : Nat) : Int) : Int)))])) (And.intro (reflH (renN []) ([(1, 0, .ls 0 l.length), (0, 0, rowP l)])) (And.intro r1 True.intro))))))) (by kernel_rfl)

set_option maxRecDepth 100000 in
theorem kc_ok {l : List Pt} (h64 : decide ((l.length : Int) > 64) = false) (r0 : RunsL Tryz.prog 1 1 (loopOf Tryz.prog 24 0) 44 2 ([(1, .pp 1 0), (3, .pv (.int .i64 (((0 : Nat) : Int) : Int)))]) ([(1, 0, .ls 0 l.length), (0, 0, rowP l)]) (.exit 0) ([(1, .pp 1 0)]) ([(1, 0, .ls 0 l.length), (0, 0, rowP l)])) (r1 : RunsL Tryz.prog 1 1 (loopOf Tryz.prog 24 1) 44 2 ([(1, .pp 1 0), (4, .pv (.int .i64 (((0 + 1 : Nat) : Int) : Int)))]) ([(1, 0, .ls 0 l.length), (0, 0, rowP l)]) (.exit 2) ([]) ([])) :
    FnL Tryz.prog 24 1 [fldS 0 l] [(0, 0, rowP l)] (.pv (.int .i64 0)) 0 [] :=
  fnl_run 300 [] [.t false, .l (.exit 0) ([(1, .pp 1 0), (3, .pv (.int .i64 (((0 : Nat) : Int) : Int)))]) ([(1, 0, .ls 0 l.length), (0, 0, rowP l)]) ([(1, .pp 1 0)]) ([(1, 0, .ls 0 l.length), (0, 0, rowP l)]), .l (.exit 2) ([(1, .pp 1 0), (4, .pv (.int .i64 (((0 + 1 : Nat) : Int) : Int)))]) ([(1, 0, .ls 0 l.length), (0, 0, rowP l)]) ([]) ([])]
     True.intro (And.intro h64 (And.intro (reflT (renN []) ([(1, .pp 1 0), (3, .pv (.int .i64 (((0 : Nat) : Int) : Int)))])) (And.intro (reflH (renN []) ([(1, 0, .ls 0 l.length), (0, 0, rowP l)])) (And.intro r0 (And.intro (reflT (renN []) ([(1, .pp 1 0), (4, .pv (.int .i64 (((0 + 1 : Nat) : Int) : Int)))])) (And.intro (reflH (renN []) ([(1, 0, .ls 0 l.length), (0, 0, rowP l)])) (And.intro r1 True.intro))))))) (by kernel_rfl)

end Go.Proofs.YtpngjeloiifgnaaGreat

namespace Go.Proofs.YtpngjeloiifgnaaGreat
open Go.RowKit
set_option maxRecDepth 100000 in
theorem pc0_next {l : List Pt} {k : Nat} {p : Pt} (hk : l[k]? = some p) (hin : 0 ≤ (k : Int) ∧ (k : Int) < (l.length : Int)) (hlt : decide ((k : Int) < (l.length : Int)) = true) (hc : Pure Tryz.prog 52 #[pointV p.id p.a p.b] (.int .i64 (0))) (hs : Value.int .i64 (IntKind.i64.wrap ((k : Int) + 1)) = .int .i64 (((k + 1 : Nat) : Int))) {e : Exit} {tm2 : List (Nat × SV)} {hp2 : List (Nat × Nat × SV)}
    (r : RunsL Tryz.prog 1 1 (loopOf Tryz.prog 20 0) 45 2 ([(1, .pp 1 0), (12, .ls 0 l.length), (13, .pv (.int .i64 (l.length : Int))), (14, .pv (.int .i64 ((k + 1 : Nat) : Int)))]) ([(1, 0, .ls 0 l.length), (0, 0, rowP l)]) e tm2 hp2) : RunsL Tryz.prog 1 1 (loopOf Tryz.prog 20 0) 45 2 ([(1, .pp 1 0), (12, .ls 0 l.length), (13, .pv (.int .i64 (l.length : Int))), (14, .pv (.int .i64 (k : Int)))]) ([(1, 0, .ls 0 l.length), (0, 0, rowP l)]) e tm2 hp2 :=
  RunsL.next [] 300 [.t true, .r (ptV p), .r (.int .i64 (0)), .k, .r (.int .i64 (((k + 1 : Nat) : Int)))]
    (round_of (And.intro hlt (And.intro hin (And.intro (ra_pt hk) (And.intro hc (And.intro hs True.intro))))) (by kernel_rfl)) r

set_option maxRecDepth 100000 in
theorem pc0_bad {l : List Pt} {k : Nat} {p : Pt} (hk : l[k]? = some p) (hin : 0 ≤ (k : Int) ∧ (k : Int) < (l.length : Int)) (hlt : decide ((k : Int) < (l.length : Int)) = true) (hc : Pure Tryz.prog 52 #[pointV p.id p.a p.b] (.int .i64 (8))) : RunsL Tryz.prog 1 1 (loopOf Tryz.prog 20 0) 45 2 ([(1, .pp 1 0), (12, .ls 0 l.length), (13, .pv (.int .i64 (l.length : Int))), (14, .pv (.int .i64 (k : Int)))]) ([(1, 0, .ls 0 l.length), (0, 0, rowP l)]) (.ret) ([(2, .pv (.int .i64 8))]) ([]) :=
  RunsL.stop [] 300 [.t true, .r (ptV p), .r (.int .i64 (8)), .k] (fun h => by cases h)
    (round_of (And.intro hlt (And.intro hin (And.intro (ra_pt hk) (And.intro hc True.intro)))) (by kernel_rfl))

set_option maxRecDepth 100000 in
theorem pc0_end {l : List Pt} {k : Nat} (hge : decide ((k : Int) < (l.length : Int)) = false) : RunsL Tryz.prog 1 1 (loopOf Tryz.prog 20 0) 45 2 ([(1, .pp 1 0), (12, .ls 0 l.length), (13, .pv (.int .i64 (l.length : Int))), (14, .pv (.int .i64 (k : Int)))]) ([(1, 0, .ls 0 l.length), (0, 0, rowP l)]) (.exit 0) ([(1, .pp 1 0)]) ([(1, 0, .ls 0 l.length), (0, 0, rowP l)]) :=
  RunsL.stop [] 300 [.t false] (fun h => by cases h)
    (round_of (And.intro hge True.intro) (by kernel_rfl))

set_option maxRecDepth 100000 in
theorem pc1_next {l : List Pt} {k : Nat} {p q : Pt} (hq : l[k]? = some q) (hk : l[k + 1]? = some p) (hi0 : 0 ≤ (k : Int) ∧ (k : Int) < (l.length : Int)) (hi1 : 0 ≤ ((k + 1 : Nat) : Int) ∧ ((k + 1 : Nat) : Int) < (l.length : Int)) (hlt : decide (((k + 1 : Nat) : Int) < (l.length : Int)) = true) (hm : Value.int .i64 (IntKind.i64.wrap (((k + 1 : Nat) : Int) - 1)) = .int .i64 ((k : Int))) (hg : decide (q.id ≥ p.id) = false) (hs : Value.int .i64 (IntKind.i64.wrap (((k + 1 : Nat) : Int) + 1)) = .int .i64 (((k + 1 + 1 : Nat) : Int))) {e : Exit} {tm2 : List (Nat × SV)} {hp2 : List (Nat × Nat × SV)}
    (r : RunsL Tryz.prog 1 1 (loopOf Tryz.prog 20 1) 45 2 ([(1, .pp 1 0), (6, .pv (.int .i64 ((k + 1 + 1 : Nat) : Int)))]) ([(1, 0, .ls 0 l.length), (0, 0, rowP l)]) e tm2 hp2) : RunsL Tryz.prog 1 1 (loopOf Tryz.prog 20 1) 45 2 ([(1, .pp 1 0), (6, .pv (.int .i64 ((k + 1 : Nat) : Int)))]) ([(1, 0, .ls 0 l.length), (0, 0, rowP l)]) e tm2 hp2 :=
  RunsL.next [] 300 [.t true, .r (.int .i64 ((k : Int))), .r (Value.int .i64 q.id), .r (Value.int .i64 p.id), .t false, .r (.int .i64 (((k + 1 + 1 : Nat) : Int)))]
    (round_of (And.intro hlt (And.intro hm (And.intro hi0 (And.intro (ra_id hq) (And.intro hi1 (And.intro (ra_id hk) (And.intro hg (And.intro hs True.intro)))))))) (by kernel_rfl)) r

set_option maxRecDepth 100000 in
theorem pc1_bad {l : List Pt} {k : Nat} {p q : Pt} (hq : l[k]? = some q) (hk : l[k + 1]? = some p) (hi0 : 0 ≤ (k : Int) ∧ (k : Int) < (l.length : Int)) (hi1 : 0 ≤ ((k + 1 : Nat) : Int) ∧ ((k + 1 : Nat) : Int) < (l.length : Int)) (hlt : decide (((k + 1 : Nat) : Int) < (l.length : Int)) = true) (hm : Value.int .i64 (IntKind.i64.wrap (((k + 1 : Nat) : Int) - 1)) = .int .i64 ((k : Int))) (hg : decide (q.id ≥ p.id) = true) : RunsL Tryz.prog 1 1 (loopOf Tryz.prog 20 1) 45 2 ([(1, .pp 1 0), (6, .pv (.int .i64 ((k + 1 : Nat) : Int)))]) ([(1, 0, .ls 0 l.length), (0, 0, rowP l)]) (.ret) ([(2, .pv (.int .i64 32))]) ([]) :=
  RunsL.stop [] 300 [.t true, .r (.int .i64 ((k : Int))), .r (Value.int .i64 q.id), .r (Value.int .i64 p.id), .t true] (fun h => by cases h)
    (round_of (And.intro hlt (And.intro hm (And.intro hi0 (And.intro (ra_id hq) (And.intro hi1 (And.intro (ra_id hk) (And.intro hg True.intro))))))) (by kernel_rfl))

set_option maxRecDepth 100000 in
theorem pc1_end {l : List Pt} {k : Nat} (hge : decide ((k : Int) < (l.length : Int)) = false) : RunsL Tryz.prog 1 1 (loopOf Tryz.prog 20 1) 45 2 ([(1, .pp 1 0), (6, .pv (.int .i64 ((k : Nat) : Int)))]) ([(1, 0, .ls 0 l.length), (0, 0, rowP l)]) (.exit 2) ([]) ([]) :=
  RunsL.stop [] 300 [.t false] (fun h => by cases h)
    (round_of (And.intro hge True.intro) (by kernel_rfl))

set_option maxRecDepth 100000 in
theorem pc_many {l : List Pt} (h64 : decide ((l.length : Int) > 64) = true) :
    FnL Tryz.prog 20 1 [fldS 0 l] [(0, 0, rowP l)] (.pv (.int .i64 (4))) 0 [] :=
  fnl_run 300 [] [.t true]
     True.intro (And.intro h64 True.intro) (by kernel_rfl)

set_option maxRecDepth 100000 in
theorem pc_bad {l : List Pt} (h64 : decide ((l.length : Int) > 64) = false) (r0 : RunsL Tryz.prog 1 1 (loopOf Tryz.prog 20 0) 45 2 ([(1, .pp 1 0), (12, .ls 0 l.length), (13, .pv (.int .i64 (l.length : Int))), (14, .pv (.int .i64 ((0 : Nat) : Int)))]) ([(1, 0, .ls 0 l.length), (0, 0, rowP l)]) (.ret) ([(2, .pv (.int .i64 8))]) ([])) :
    FnL Tryz.prog 20 1 [fldS 0 l] [(0, 0, rowP l)] (.pv (.int .i64 (8))) 0 [] :=
  fnl_run 300 [] [.t false, .l (.ret) ([(1, .pp 1 0), (12, .ls 0 l.length), (13, .pv (.int .i64 (l.length : Int))), (14, .pv (.int .i64 ((0 : Nat) : Int)))]) ([(1, 0, .ls 0 l.length), (0, 0, rowP l)]) ([(2, .pv (.int .i64 8))]) ([])]
     True.intro (And.intro h64 (And.intro (reflT (renN []) ([(1, .pp 1 0), (12, .ls 0 l.length), (13, .pv (.int .i64 (l.length : Int))), (14, .pv (.int .i64 ((0 : Nat) : Int)))])) (And.intro (reflH (renN []) ([(1, 0, .ls 0 l.length), (0, 0, rowP l)])) (And.intro r0 True.intro)))) (by kernel_rfl)

set_option maxRecDepth 100000 in
theorem pc_ord {l : List Pt} (h64 : decide ((l.length : Int) > 64) = false) (r0 : RunsL Tryz.prog 1 1 (loopOf Tryz.prog 20 0) 45 2 ([(1, .pp 1 0), (12, .ls 0 l.length), (13, .pv (.int .i64 (l.length : Int))), (14, .pv (.int .i64 ((0 : Nat) : Int)))]) ([(1, 0, .ls 0 l.length), (0, 0, rowP l)]) (.exit 0) ([(1, .pp 1 0)]) ([(1, 0, .ls 0 l.length), (0, 0, rowP l)])) (r1 : RunsL Tryz.prog 1 1 (loopOf Tryz.prog 20 1) 45 2 ([(1, .pp 1 0), (6, .pv (.int .i64 ((0 + 1 : Nat) : Int)))]) ([(1, 0, .ls 0 l.length), (0, 0, rowP l)]) (.ret) ([(2, .pv (.int .i64 32))]) ([])) :
    FnL Tryz.prog 20 1 [fldS 0 l] [(0, 0, rowP l)] (.pv (.int .i64 (32))) 0 [] :=
  fnl_run 300 [] [.t false, .l (.exit 0) ([(1, .pp 1 0), (12, .ls 0 l.length), (13, .pv (.int .i64 (l.length : Int))), (14, .pv (.int .i64 ((0 : Nat) : Int)))]) ([(1, 0, .ls 0 l.length), (0, 0, rowP l)]) ([(1, .pp 1 0)]) ([(1, 0, .ls 0 l.length), (0, 0, rowP l)]), .l (.ret) ([(1, .pp 1 0), (6, .pv (.int .i64 ((0 + 1 : Nat) : Int)))]) ([(1, 0, .ls 0 l.length), (0, 0, rowP l)]) ([(2, .pv (.int .i64 32))]) ([])]
     True.intro (And.intro h64 (And.intro (reflT (renN []) ([(1, .pp 1 0), (12, .ls 0 l.length), (13, .pv (.int .i64 (l.length : Int))), (14, .pv (.int .i64 ((0 : Nat) : Int)))])) (And.intro (reflH (renN []) ([(1, 0, .ls 0 l.length), (0, 0, rowP l)])) (And.intro r0 (And.intro (reflT (renN []) ([(1, .pp 1 0), (6, .pv (.int .i64 ((0 + 1 : Nat) : Int)))])) (And.intro (reflH (renN []) ([(1, 0, .ls 0 l.length), (0, 0, rowP l)])) (And.intro r1 True.intro))))))) (by kernel_rfl)

set_option maxRecDepth 100000 in
theorem pc_ok {l : List Pt} (h64 : decide ((l.length : Int) > 64) = false) (r0 : RunsL Tryz.prog 1 1 (loopOf Tryz.prog 20 0) 45 2 ([(1, .pp 1 0), (12, .ls 0 l.length), (13, .pv (.int .i64 (l.length : Int))), (14, .pv (.int .i64 ((0 : Nat) : Int)))]) ([(1, 0, .ls 0 l.length), (0, 0, rowP l)]) (.exit 0) ([(1, .pp 1 0)]) ([(1, 0, .ls 0 l.length), (0, 0, rowP l)])) (r1 : RunsL Tryz.prog 1 1 (loopOf Tryz.prog 20 1) 45 2 ([(1, .pp 1 0), (6, .pv (.int .i64 ((0 + 1 : Nat) : Int)))]) ([(1, 0, .ls 0 l.length), (0, 0, rowP l)]) (.exit 2) ([]) ([])) :
    FnL Tryz.prog 20 1 [fldS 0 l] [(0, 0, rowP l)] (.pv (.int .i64 (0))) 0 [] :=
  fnl_run 300 [] [.t false, .l (.exit 0) ([(1, .pp 1 0), (12, .ls 0 l.length), (13, .pv (.int .i64 (l.length : Int))), (14, .pv (.int .i64 ((0 : Nat) : Int)))]) ([(1, 0, .ls 0 l.length), (0, 0, rowP l)]) ([(1, .pp 1 0)]) ([(1, 0, .ls 0 l.length), (0, 0, rowP l)]), .l (.exit 2) ([(1, .pp 1 0), (6, .pv (.int .i64 ((0 + 1 : Nat) : Int)))]) ([(1, 0, .ls 0 l.length), (0, 0, rowP l)]) ([]) ([])]
     True.intro (And.intro h64 (And.intro (reflT (renN []) ([(1, .pp 1 0), (12, .ls 0 l.length), (13, .pv (.int .i64 (l.length : Int))), (14, .pv (.int .i64 ((0 : Nat) : Int)))])) (And.intro (reflH (renN []) ([(1, 0, .ls 0 l.length), (0, 0, rowP l)])) (And.intro r0 (And.intro (reflT (renN []) ([(1, .pp 1 0), (6, .pv (.int .i64 ((0 + 1 : Nat) : Int)))])) (And.intro (reflH (renN []) ([(1, 0, .ls 0 l.length), (0, 0, rowP l)])) (And.intro r1 True.intro))))))) (by kernel_rfl)

end Go.Proofs.YtpngjeloiifgnaaGreat

namespace Go.Proofs.YtpngjeloiifgnaaGreat
open Go.RowKit
set_option maxRecDepth 100000 in
theorem find1_lt {a pa pb id : Int} (n1 : (!(a == a)) = false) (n2 : (!(id == id)) = false) (h1 : decide (a < id) = true) : Pure Tryz.prog 114 #[pointV a pa pb, .int .i64 id] (.int .i64 (-1)) :=
  pure_run (args := [pointV a pa pb, .int .i64 id]) 200 [.k, .k, .t false, .k, .t false, .t true] (And.intro rfl (And.intro n1 (And.intro n2 (And.intro h1 True.intro)))) (by kernel_rfl)

set_option maxRecDepth 100000 in
theorem find1_gt {a pa pb id : Int} (n1 : (!(a == a)) = false) (n2 : (!(id == id)) = false) (h1 : decide (a < id) = false) (h2 : decide (a > id) = true) : Pure Tryz.prog 114 #[pointV a pa pb, .int .i64 id] (.int .i64 (1)) :=
  pure_run (args := [pointV a pa pb, .int .i64 id]) 200 [.k, .k, .t false, .k, .t false, .t false, .t true] (And.intro rfl (And.intro n1 (And.intro n2 (And.intro h1 (And.intro h2 True.intro))))) (by kernel_rfl)

set_option maxRecDepth 100000 in
theorem find1_eq {a pa pb id : Int} (n1 : (!(a == a)) = false) (n2 : (!(id == id)) = false) (h1 : decide (a < id) = false) (h2 : decide (a > id) = false) : Pure Tryz.prog 114 #[pointV a pa pb, .int .i64 id] (.int .i64 (0)) :=
  pure_run (args := [pointV a pa pb, .int .i64 id]) 200 [.k, .k, .t false, .k, .t false, .t false, .t false] (And.intro rfl (And.intro n1 (And.intro n2 (And.intro h1 (And.intro h2 True.intro))))) (by kernel_rfl)

set_option maxRecDepth 100000 in
theorem bs_up {l : List Pt} {i j h : Nat} {p : Pt} {c : Int} {id : Int} (hk : l[h]? = some p) (hin : 0 ≤ (h : Int) ∧ (h : Int) < (l.length : Int)) (hlt : decide ((i : Int) < (j : Int)) = true) (ha : Value.int .i64 (IntKind.i64.wrap ((i : Int) + (j : Int))) = .int .i64 ((i : Int) + (j : Int))) (hu : Value.int .u64 (IntKind.u64.wrap ((i : Int) + (j : Int))) = .int .u64 ((i : Int) + (j : Int))) (h1 : ¬ (1 : Int) < 0) (hs : Value.int .u64 (((i : Int) + (j : Int)).fdiv (2 ^ (min (1 : Int).toNat IntKind.u64.bits))) = .int .u64 (h : Int)) (hb : Value.int .i64 (IntKind.i64.wrap (h : Int)) = .int .i64 ((h : Int))) (hc : Pure Tryz.prog 114 #[pointV p.id p.a p.b, .int .i64 id] (.int .i64 (c))) (hz : decide (c < 0) = true) (hh : Value.int .i64 (IntKind.i64.wrap ((h : Int) + 1)) = .int .i64 (((h + 1 : Nat) : Int))) {e : Exit} {tm2 : List (Nat × SV)} {hp2 : List (Nat × Nat × SV)}
    (r : RunsL Tryz.prog 1 1 (loopOf Tryz.prog 113 0) 49 1 ([(0, .ls 0 l.length), (1, .pv (.int .i64 id)), (2, .pv (.func (.func 114) #[] #[])), (8, .pv (.int .i64 (l.length : Int))), (9, .pv (.int .i64 ((h + 1 : Nat) : Int))), (10, .pv (.int .i64 (j : Int)))]) ([(0, 0, rowP l)]) e tm2 hp2) : RunsL Tryz.prog 1 1 (loopOf Tryz.prog 113 0) 49 1 ([(0, .ls 0 l.length), (1, .pv (.int .i64 id)), (2, .pv (.func (.func 114) #[] #[])), (8, .pv (.int .i64 (l.length : Int))), (9, .pv (.int .i64 (i : Int))), (10, .pv (.int .i64 (j : Int)))]) ([(0, 0, rowP l)]) e tm2 hp2 :=
  RunsL.next [] 300 [.t true, .r (.int .i64 ((i : Int) + (j : Int))), .r (.int .u64 ((i : Int) + (j : Int))), .r (.int .u64 (h : Int)), .r (.int .i64 ((h : Int))), .r (ptV p), .r (.int .i64 (c)), .t true, .r (.int .i64 (((h + 1 : Nat) : Int)))]
    (round_of (And.intro hlt (And.intro ha (And.intro hu (And.intro h1 (And.intro hs (And.intro hb (And.intro hin (And.intro (ra_pt hk) (And.intro hc (And.intro hz (And.intro hh True.intro))))))))))) (by kernel_rfl)) r

set_option maxRecDepth 100000 in
theorem bs_dn {l : List Pt} {i j h : Nat} {p : Pt} {c : Int} {id : Int} (hk : l[h]? = some p) (hin : 0 ≤ (h : Int) ∧ (h : Int) < (l.length : Int)) (hlt : decide ((i : Int) < (j : Int)) = true) (ha : Value.int .i64 (IntKind.i64.wrap ((i : Int) + (j : Int))) = .int .i64 ((i : Int) + (j : Int))) (hu : Value.int .u64 (IntKind.u64.wrap ((i : Int) + (j : Int))) = .int .u64 ((i : Int) + (j : Int))) (h1 : ¬ (1 : Int) < 0) (hs : Value.int .u64 (((i : Int) + (j : Int)).fdiv (2 ^ (min (1 : Int).toNat IntKind.u64.bits))) = .int .u64 (h : Int)) (hb : Value.int .i64 (IntKind.i64.wrap (h : Int)) = .int .i64 ((h : Int))) (hc : Pure Tryz.prog 114 #[pointV p.id p.a p.b, .int .i64 id] (.int .i64 (c))) (hz : decide (c < 0) = false) {e : Exit} {tm2 : List (Nat × SV)} {hp2 : List (Nat × Nat × SV)}
    (r : RunsL Tryz.prog 1 1 (loopOf Tryz.prog 113 0) 49 1 ([(0, .ls 0 l.length), (1, .pv (.int .i64 id)), (2, .pv (.func (.func 114) #[] #[])), (8, .pv (.int .i64 (l.length : Int))), (9, .pv (.int .i64 (i : Int))), (10, .pv (.int .i64 (h : Int)))]) ([(0, 0, rowP l)]) e tm2 hp2) : RunsL Tryz.prog 1 1 (loopOf Tryz.prog 113 0) 49 1 ([(0, .ls 0 l.length), (1, .pv (.int .i64 id)), (2, .pv (.func (.func 114) #[] #[])), (8, .pv (.int .i64 (l.length : Int))), (9, .pv (.int .i64 (i : Int))), (10, .pv (.int .i64 (j : Int)))]) ([(0, 0, rowP l)]) e tm2 hp2 :=
  RunsL.next [] 300 [.t true, .r (.int .i64 ((i : Int) + (j : Int))), .r (.int .u64 ((i : Int) + (j : Int))), .r (.int .u64 (h : Int)), .r (.int .i64 ((h : Int))), .r (ptV p), .r (.int .i64 (c)), .t false]
    (round_of (And.intro hlt (And.intro ha (And.intro hu (And.intro h1 (And.intro hs (And.intro hb (And.intro hin (And.intro (ra_pt hk) (And.intro hc (And.intro hz True.intro)))))))))) (by kernel_rfl)) r

set_option maxRecDepth 100000 in
theorem bs_end {l : List Pt} {i j : Nat} {id : Int} (hge : decide ((i : Int) < (j : Int)) = false) : RunsL Tryz.prog 1 1 (loopOf Tryz.prog 113 0) 49 1 ([(0, .ls 0 l.length), (1, .pv (.int .i64 id)), (2, .pv (.func (.func 114) #[] #[])), (8, .pv (.int .i64 (l.length : Int))), (9, .pv (.int .i64 (i : Int))), (10, .pv (.int .i64 (j : Int)))]) ([(0, 0, rowP l)]) (.exit 0) ([(0, .ls 0 l.length), (1, .pv (.int .i64 id)), (2, .pv (.func (.func 114) #[] #[])), (8, .pv (.int .i64 (l.length : Int))), (9, .pv (.int .i64 (i : Int))), (10, .pv (.int .i64 (j : Int)))]) ([(0, 0, rowP l)]) :=
  RunsL.stop [] 300 [.t false] (fun h => by cases h)
    (round_of (And.intro hge True.intro) (by kernel_rfl))

set_option maxRecDepth 100000 in
theorem bsf_out {l : List Pt} {k : Nat} {id : Int} (r0 : RunsL Tryz.prog 1 1 (loopOf Tryz.prog 113 0) 49 1 ([(0, .ls 0 l.length), (1, .pv (.int .i64 id)), (2, .pv (.func (.func 114) #[] #[])), (8, .pv (.int .i64 (l.length : Int))), (9, .pv (.int .i64 ((0 : Nat) : Int))), (10, .pv (.int .i64 (l.length : Int)))]) ([(0, 0, rowP l)]) (.exit 0) ([(0, .ls 0 l.length), (1, .pv (.int .i64 id)), (2, .pv (.func (.func 114) #[] #[])), (8, .pv (.int .i64 (l.length : Int))), (9, .pv (.int .i64 (k : Int))), (10, .pv (.int .i64 (k : Int)))]) ([(0, 0, rowP l)])) (hge : decide ((k : Int) < (l.length : Int)) = false) :
    FnL Tryz.prog 113 1 [.ls 0 l.length, .pv (.int .i64 (id)), .pv (.func (.func 114) #[] #[])] [(0, 0, rowP l)] (.pv (.tuple #[.int .i64 (k : Int), .bool false])) 0 [] :=
  fnl_run 300 [] [.l (.exit 0) ([(0, .ls 0 l.length), (1, .pv (.int .i64 id)), (2, .pv (.func (.func 114) #[] #[])), (8, .pv (.int .i64 (l.length : Int))), (9, .pv (.int .i64 ((0 : Nat) : Int))), (10, .pv (.int .i64 (l.length : Int)))]) ([(0, 0, rowP l)]) ([(0, .ls 0 l.length), (1, .pv (.int .i64 id)), (2, .pv (.func (.func 114) #[] #[])), (8, .pv (.int .i64 (l.length : Int))), (9, .pv (.int .i64 (k : Int))), (10, .pv (.int .i64 (k : Int)))]) ([(0, 0, rowP l)]), .t false]
     True.intro (And.intro (reflT (renN []) ([(0, .ls 0 l.length), (1, .pv (.int .i64 id)), (2, .pv (.func (.func 114) #[] #[])), (8, .pv (.int .i64 (l.length : Int))), (9, .pv (.int .i64 ((0 : Nat) : Int))), (10, .pv (.int .i64 (l.length : Int)))])) (And.intro (reflH (renN []) ([(0, 0, rowP l)])) (And.intro r0 (And.intro hge True.intro)))) (by kernel_rfl)

set_option maxRecDepth 100000 in
theorem bsf_hit {l : List Pt} {k : Nat} {p : Pt} {c : Int} {id : Int} (r0 : RunsL Tryz.prog 1 1 (loopOf Tryz.prog 113 0) 49 1 ([(0, .ls 0 l.length), (1, .pv (.int .i64 id)), (2, .pv (.func (.func 114) #[] #[])), (8, .pv (.int .i64 (l.length : Int))), (9, .pv (.int .i64 ((0 : Nat) : Int))), (10, .pv (.int .i64 (l.length : Int)))]) ([(0, 0, rowP l)]) (.exit 0) ([(0, .ls 0 l.length), (1, .pv (.int .i64 id)), (2, .pv (.func (.func 114) #[] #[])), (8, .pv (.int .i64 (l.length : Int))), (9, .pv (.int .i64 (k : Int))), (10, .pv (.int .i64 (k : Int)))]) ([(0, 0, rowP l)])) (hk : l[k]? = some p) (hin : 0 ≤ (k : Int) ∧ (k : Int) < (l.length : Int)) (hlt : decide ((k : Int) < (l.length : Int)) = true) (hc : Pure Tryz.prog 114 #[pointV p.id p.a p.b, .int .i64 id] (.int .i64 (c))) (hz : (c == 0) = true) :
    FnL Tryz.prog 113 1 [.ls 0 l.length, .pv (.int .i64 (id)), .pv (.func (.func 114) #[] #[])] [(0, 0, rowP l)] (.pv (.tuple #[.int .i64 (k : Int), .bool true])) 0 [] :=
  fnl_run 300 [] [.l (.exit 0) ([(0, .ls 0 l.length), (1, .pv (.int .i64 id)), (2, .pv (.func (.func 114) #[] #[])), (8, .pv (.int .i64 (l.length : Int))), (9, .pv (.int .i64 ((0 : Nat) : Int))), (10, .pv (.int .i64 (l.length : Int)))]) ([(0, 0, rowP l)]) ([(0, .ls 0 l.length), (1, .pv (.int .i64 id)), (2, .pv (.func (.func 114) #[] #[])), (8, .pv (.int .i64 (l.length : Int))), (9, .pv (.int .i64 (k : Int))), (10, .pv (.int .i64 (k : Int)))]) ([(0, 0, rowP l)]), .t true, .r (ptV p), .r (.int .i64 (c)), .t true]
     True.intro (And.intro (reflT (renN []) ([(0, .ls 0 l.length), (1, .pv (.int .i64 id)), (2, .pv (.func (.func 114) #[] #[])), (8, .pv (.int .i64 (l.length : Int))), (9, .pv (.int .i64 ((0 : Nat) : Int))), (10, .pv (.int .i64 (l.length : Int)))])) (And.intro (reflH (renN []) ([(0, 0, rowP l)])) (And.intro r0 (And.intro hlt (And.intro hin (And.intro (ra_pt hk) (And.intro hc (And.intro hz True.intro)))))))) (by kernel_rfl)

set_option maxRecDepth 100000 in
theorem bsf_no {l : List Pt} {k : Nat} {p : Pt} {c : Int} {id : Int} (r0 : RunsL Tryz.prog 1 1 (loopOf Tryz.prog 113 0) 49 1 ([(0, .ls 0 l.length), (1, .pv (.int .i64 id)), (2, .pv (.func (.func 114) #[] #[])), (8, .pv (.int .i64 (l.length : Int))), (9, .pv (.int .i64 ((0 : Nat) : Int))), (10, .pv (.int .i64 (l.length : Int)))]) ([(0, 0, rowP l)]) (.exit 0) ([(0, .ls 0 l.length), (1, .pv (.int .i64 id)), (2, .pv (.func (.func 114) #[] #[])), (8, .pv (.int .i64 (l.length : Int))), (9, .pv (.int .i64 (k : Int))), (10, .pv (.int .i64 (k : Int)))]) ([(0, 0, rowP l)])) (hk : l[k]? = some p) (hin : 0 ≤ (k : Int) ∧ (k : Int) < (l.length : Int)) (hlt : decide ((k : Int) < (l.length : Int)) = true) (hc : Pure Tryz.prog 114 #[pointV p.id p.a p.b, .int .i64 id] (.int .i64 (c))) (hz : (c == 0) = false) :
    FnL Tryz.prog 113 1 [.ls 0 l.length, .pv (.int .i64 (id)), .pv (.func (.func 114) #[] #[])] [(0, 0, rowP l)] (.pv (.tuple #[.int .i64 (k : Int), .bool false])) 0 [] :=
  fnl_run 300 [] [.l (.exit 0) ([(0, .ls 0 l.length), (1, .pv (.int .i64 id)), (2, .pv (.func (.func 114) #[] #[])), (8, .pv (.int .i64 (l.length : Int))), (9, .pv (.int .i64 ((0 : Nat) : Int))), (10, .pv (.int .i64 (l.length : Int)))]) ([(0, 0, rowP l)]) ([(0, .ls 0 l.length), (1, .pv (.int .i64 id)), (2, .pv (.func (.func 114) #[] #[])), (8, .pv (.int .i64 (l.length : Int))), (9, .pv (.int .i64 (k : Int))), (10, .pv (.int .i64 (k : Int)))]) ([(0, 0, rowP l)]), .t true, .r (ptV p), .r (.int .i64 (c)), .t false]
     True.intro (And.intro (reflT (renN []) ([(0, .ls 0 l.length), (1, .pv (.int .i64 id)), (2, .pv (.func (.func 114) #[] #[])), (8, .pv (.int .i64 (l.length : Int))), (9, .pv (.int .i64 ((0 : Nat) : Int))), (10, .pv (.int .i64 (l.length : Int)))])) (And.intro (reflH (renN []) ([(0, 0, rowP l)])) (And.intro r0 (And.intro hlt (And.intro hin (And.intro (ra_pt hk) (And.intro hc (And.intro hz True.intro)))))))) (by kernel_rfl)

set_option maxRecDepth 100000 in
theorem find_path {l : List Pt} {k : Nat} {b : Bool} {id : Int} (hb : FnL Tryz.prog 113 1 [.ls 0 l.length, .pv (.int .i64 (id)), .pv (.func (.func 114) #[] #[])] [(0, 0, rowP l)] (.pv (.tuple #[.int .i64 (k : Int), .bool b])) 0 []) :
    FnL Tryz.prog 72 1 [fldS 0 l, .pv (.int .i64 (id))] [(0, 0, rowP l)] (.pv (.tuple #[.int .i64 (k : Int), .bool b])) 0 [] :=
  fnl_run 300 [] [.f [0] [.ls 0 l.length, .pv (.int .i64 (id)), .pv (.func (.func 114) #[] #[])] [(0, 0, rowP l)] (.pv (.tuple #[.int .i64 (k : Int), .bool b])) 0 []]
     True.intro (And.intro hb (And.intro (Eq.refl (List.map (SV.ren (renU [0] 2)) [.ls 0 l.length, .pv (.int .i64 (id)), .pv (.func (.func 114) #[] #[])])) (And.intro (reflH (renU [0] 2) [(0, 0, rowP l)]) True.intro))) (by kernel_rfl)

set_option maxRecDepth 100000 in
theorem pfind_no {l : List Pt} {k : Nat} {id : Int} (hc : FnL Tryz.prog 20 1 [fldS 0 l] [(0, 0, rowP l)] (.pv (.int .i64 (0))) 0 []) (hf : FnL Tryz.prog 72 1 [fldS 0 l, .pv (.int .i64 (id))] [(0, 0, rowP l)] (.pv (.tuple #[.int .i64 (k : Int), .bool false])) 0 []) :
    FnL Tryz.prog 45 1 [fldS 0 l, .pv (.int .i64 (id))] [(0, 0, rowP l)] (.pv (.tuple #[pointV 0 0 0, .int .i64 (6)])) 0 [] :=
  fnl_run 300 [] [.f [0] [fldS 0 l] [(0, 0, rowP l)] (.pv (.int .i64 (0))) 0 [], .k, .f [0] [fldS 0 l, .pv (.int .i64 (id))] [(0, 0, rowP l)] (.pv (.tuple #[.int .i64 (k : Int), .bool false])) 0 [], .k]
     True.intro (And.intro hc (And.intro (Eq.refl (List.map (SV.ren (renU [0] 3)) [fldS 0 l])) (And.intro (reflH (renU [0] 3) [(0, 0, rowP l)]) (And.intro hf (And.intro (Eq.refl (List.map (SV.ren (renU [0] 3)) [fldS 0 l, .pv (.int .i64 (id))])) (And.intro (reflH (renU [0] 3) [(0, 0, rowP l)]) True.intro)))))) (by kernel_rfl)

set_option maxRecDepth 100000 in
theorem pfind_yes {l : List Pt} {k : Nat} {p : Pt} {id : Int} (hk : l[k]? = some p) (hin : 0 ≤ (k : Int) ∧ (k : Int) < (l.length : Int)) (hc : FnL Tryz.prog 20 1 [fldS 0 l] [(0, 0, rowP l)] (.pv (.int .i64 (0))) 0 []) (hf : FnL Tryz.prog 72 1 [fldS 0 l, .pv (.int .i64 (id))] [(0, 0, rowP l)] (.pv (.tuple #[.int .i64 (k : Int), .bool true])) 0 []) :
    FnL Tryz.prog 45 1 [fldS 0 l, .pv (.int .i64 (id))] [(0, 0, rowP l)] (.pv (.tuple #[ptV p, .int .i64 (0)])) 0 [] :=
  fnl_run 300 [] [.f [0] [fldS 0 l] [(0, 0, rowP l)] (.pv (.int .i64 (0))) 0 [], .k, .f [0] [fldS 0 l, .pv (.int .i64 (id))] [(0, 0, rowP l)] (.pv (.tuple #[.int .i64 (k : Int), .bool true])) 0 [], .k, .r (ptV p)]
     True.intro (And.intro hc (And.intro (Eq.refl (List.map (SV.ren (renU [0] 3)) [fldS 0 l])) (And.intro (reflH (renU [0] 3) [(0, 0, rowP l)]) (And.intro hf (And.intro (Eq.refl (List.map (SV.ren (renU [0] 3)) [fldS 0 l, .pv (.int .i64 (id))])) (And.intro (reflH (renU [0] 3) [(0, 0, rowP l)]) (And.intro hin (And.intro (ra_pt hk) True.intro)))))))) (by kernel_rfl)

end Go.Proofs.YtpngjeloiifgnaaGreat
