/-
  Joined: Fb, Fc, Fg, Fh, Fi, Pm. Conditions: none.
-/
import Derived.Test.YtpngjeloiifgnaaGreatW29
import Derived.Test.YtpngjeloiifgnaaGreatW27
namespace Go.Proofs.YtpngjeloiifgnaaGreat
open Go.RowKit
set_option maxRecDepth 100000 in
theorem kc0_next {l : List Pt} {k : Nat} {p : Pt} (hk : l[k]? = some p) (hin : 0 ≤ (k : Int) ∧ (k : Int) < (l.length : Int)) (hlt : decide ((k : Int) < (l.length : Int)) = true) (hc : Pure Tryz.prog 62 #[pointV p.id p.a p.b] (.int .i64 (0))) (hs : Value.int .i64 (IntKind.i64.wrap ((k : Int) + 1)) = .int .i64 (((k + 1 : Nat) : Int))) {e : Exit} {tm2 : List (Nat × SV)} {hp2 : List (Nat × Nat × SV)}
    (r : RunsL Tryz.prog 1 1 (loopOf Tryz.prog 24 0) 44 2 ([(1, .pp 1 0), (3, .pv (.int .i64 ((k + 1 : Nat) : Int)))]) ([(1, 0, .ls 0 l.length), (0, 0, rowP l)]) e tm2 hp2) : RunsL Tryz.prog 1 1 (loopOf Tryz.prog 24 0) 44 2 ([(1, .pp 1 0), (3, .pv (.int .i64 (k : Int)))]) ([(1, 0, .ls 0 l.length), (0, 0, rowP l)]) e tm2 hp2 :=
  RunsL.next [] 300 [.t true, .r (ptV p), .r (.int .i64 (0)), .k, .r (.int .i64 (((k + 1 : Nat) : Int)))]
    (round_of (And.intro hlt (And.intro hin (And.intro (ra_pt hk) (And.intro hc (And.intro hs True.intro))))) (by kernel_rfl)) r

set_option maxRecDepth 100000 in
theorem kc0_bad {l : List Pt} {k : Nat} {p : Pt} (hk : l[k]? = some p) (hin : 0 ≤ (k : Int) ∧ (k : Int) < (l.length : Int)) (hlt : decide ((k : Int) < (l.length : Int)) = true) (hc : Pure Tryz.prog 62 #[pointV p.id p.a p.b] (.int .i64 (8))) : RunsL Tryz.prog 1 1 (loopOf Tryz.prog 24 0) 44 2 ([(1, .pp 1 0), (3, .pv (.int .i64 (k : Int)))]) ([(1, 0, .ls 0 l.length), (0, 0, rowP l)]) (.ret) ([(2, .pv (.int .i64 8))]) ([]) :=
  RunsL.stop [] 300 [.t true, .r (ptV p), .r (.int .i64 (8)), .k] (fun h => by cases h)
    (round_of (And.intro hlt (And.intro hin (And.intro (ra_pt hk) (And.intro hc True.intro)))) (by kernel_rfl))

set_option maxRecDepth 100000 in
theorem kc0_end {l : List Pt} {k : Nat} (hge : decide ((k : Int) < (l.length : Int)) = false) : RunsL Tryz.prog 1 1 (loopOf Tryz.prog 24 0) 44 2 ([(1, .pp 1 0), (3, .pv (.int .i64 (k : Int)))]) ([(1, 0, .ls 0 l.length), (0, 0, rowP l)]) (.exit 0) ([(1, .pp 1 0)]) ([(1, 0, .ls 0 l.length), (0, 0, rowP l)]) :=
  RunsL.stop [] 300 [.t false] (fun h => by cases h)
    (round_of (And.intro hge True.intro) (by kernel_rfl))

set_option maxRecDepth 100000 in
theorem kc1_next {l : List Pt} {k : Nat} {p q : Pt} (hq : l[k]? = some q) (hk : l[k + 1]? = some p) (hi0 : 0 ≤ (k : Int) ∧ (k : Int) < (l.length : Int)) (hi1 : 0 ≤ ((k + 1 : Nat) : Int) ∧ ((k + 1 : Nat) : Int) < (l.length : Int)) (hlt : decide (((k + 1 : Nat) : Int) < (l.length : Int)) = true) (hm : Value.int .i64 (IntKind.i64.wrap (((k + 1 : Nat) : Int) - 1)) = .int .i64 ((k : Int))) (hg : decide (q.id ≥ p.id) = false) (hs : Value.int .i64 (IntKind.i64.wrap (((k + 1 : Nat) : Int) + 1)) = .int .i64 (((k + 1 + 1 : Nat) : Int))) {e : Exit} {tm2 : List (Nat × SV)} {hp2 : List (Nat × Nat × SV)}
    (r : RunsL Tryz.prog 1 1 (loopOf Tryz.prog 24 1) 44 2 ([(1, .pp 1 0), (4, .pv (.int .i64 ((k + 1 + 1 : Nat) : Int)))]) ([(1, 0, .ls 0 l.length), (0, 0, rowP l)]) e tm2 hp2) : RunsL Tryz.prog 1 1 (loopOf Tryz.prog 24 1) 44 2 ([(1, .pp 1 0), (4, .pv (.int .i64 ((k + 1 : Nat) : Int)))]) ([(1, 0, .ls 0 l.length), (0, 0, rowP l)]) e tm2 hp2 :=
  RunsL.next [] 300 [.t true, .r (.int .i64 ((k : Int))), .r (Value.int .i64 q.id), .r (Value.int .i64 p.id), .t false, .r (.int .i64 (((k + 1 + 1 : Nat) : Int)))]
    (round_of (And.intro hlt (And.intro hm (And.intro hi0 (And.intro (ra_id hq) (And.intro hi1 (And.intro (ra_id hk) (And.intro hg (And.intro hs True.intro)))))))) (by kernel_rfl)) r

set_option maxRecDepth 100000 in
theorem kc1_bad {l : List Pt} {k : Nat} {p q : Pt} (hq : l[k]? = some q) (hk : l[k + 1]? = some p) (hi0 : 0 ≤ (k : Int) ∧ (k : Int) < (l.length : Int)) (hi1 : 0 ≤ ((k + 1 : Nat) : Int) ∧ ((k + 1 : Nat) : Int) < (l.length : Int)) (hlt : decide (((k + 1 : Nat) : Int) < (l.length : Int)) = true) (hm : Value.int .i64 (IntKind.i64.wrap (((k + 1 : Nat) : Int) - 1)) = .int .i64 ((k : Int))) (hg : decide (q.id ≥ p.id) = true) : RunsL Tryz.prog 1 1 (loopOf Tryz.prog 24 1) 44 2 ([(1, .pp 1 0), (4, .pv (.int .i64 ((k + 1 : Nat) : Int)))]) ([(1, 0, .ls 0 l.length), (0, 0, rowP l)]) (.ret) ([(2, .pv (.int .i64 32))]) ([]) :=
  RunsL.stop [] 300 [.t true, .r (.int .i64 ((k : Int))), .r (Value.int .i64 q.id), .r (Value.int .i64 p.id), .t true] (fun h => by cases h)
    (round_of (And.intro hlt (And.intro hm (And.intro hi0 (And.intro (ra_id hq) (And.intro hi1 (And.intro (ra_id hk) (And.intro hg True.intro))))))) (by kernel_rfl))

set_option maxRecDepth 100000 in
theorem kc1_end {l : List Pt} {k : Nat} (hge : decide (((k : Nat) : Int) < (l.length : Int)) = false) : RunsL Tryz.prog 1 1 (loopOf Tryz.prog 24 1) 44 2 ([(1, .pp 1 0), (4, .pv (.int .i64 ((k : Nat) : Int)))]) ([(1, 0, .ls 0 l.length), (0, 0, rowP l)]) (.exit 2) ([]) ([]) :=
  RunsL.stop [] 300 [.t false] (fun h => by cases h)
    (round_of (And.intro hge True.intro) (by kernel_rfl))

set_option maxRecDepth 100000 in
theorem kc_many {l : List Pt} (h64 : decide ((l.length : Int) > 64) = true) :
    FnL Tryz.prog 24 1 [fldS 0 l] [(0, 0, rowP l)] (.pv (.int .i64 4)) 0 [] :=
  fnl_run 300 [] [.t true]
     True.intro (And.intro h64 True.intro) (by kernel_rfl)

set_option maxRecDepth 100000 in
theorem kc_bad {l : List Pt} (h64 : decide ((l.length : Int) > 64) = false) (r0 : RunsL Tryz.prog 1 1 (loopOf Tryz.prog 24 0) 44 2 ([(1, .pp 1 0), (3, .pv (.int .i64 (((0 : Nat) : Int) : Int)))]) ([(1, 0, .ls 0 l.length), (0, 0, rowP l)]) (.ret) ([(2, .pv (.int .i64 8))]) ([])) :
    FnL Tryz.prog 24 1 [fldS 0 l] [(0, 0, rowP l)] (.pv (.int .i64 8)) 0 [] :=
  fnl_run 300 [] [.t false, .l (.ret) ([(1, .pp 1 0), (3, .pv (.int .i64 (((0 : Nat) : Int) : Int)))]) ([(1, 0, .ls 0 l.length), (0, 0, rowP l)]) ([(2, .pv (.int .i64 8))]) ([])]
     True.intro (And.intro h64 (And.intro (reflT (renN []) ([(1, .pp 1 0), (3, .pv (.int .i64 (((0 : Nat) : Int) : Int)))])) (And.intro (reflH (renN []) ([(1, 0, .ls 0 l.length), (0, 0, rowP l)])) (And.intro r0 True.intro)))) (by kernel_rfl)

set_option maxRecDepth 100000 in
theorem kc_ord {l : List Pt} (h64 : decide ((l.length : Int) > 64) = false) (r0 : RunsL Tryz.prog 1 1 (loopOf Tryz.prog 24 0) 44 2 ([(1, .pp 1 0), (3, .pv (.int .i64 (((0 : Nat) : Int) : Int)))]) ([(1, 0, .ls 0 l.length), (0, 0, rowP l)]) (.exit 0) ([(1, .pp 1 0)]) ([(1, 0, .ls 0 l.length), (0, 0, rowP l)])) (r1 : RunsL Tryz.prog 1 1 (loopOf Tryz.prog 24 1) 44 2 ([(1, .pp 1 0), (4, .pv (.int .i64 (((0 + 1 : Nat) : Int) : Int)))]) ([(1, 0, .ls 0 l.length), (0, 0, rowP l)]) (.ret) ([(2, .pv (.int .i64 32))]) ([])) :
    FnL Tryz.prog 24 1 [fldS 0 l] [(0, 0, rowP l)] (.pv (.int .i64 32)) 0 [] :=
  fnl_run 300 [] [.t false, .l (.exit 0) ([(1, .pp 1 0), (3, .pv (.int .i64 (((0 : Nat) : Int) : Int)))]) ([(1, 0, .ls 0 l.length), (0, 0, rowP l)]) ([(1, .pp 1 0)]) ([(1, 0, .ls 0 l.length), (0, 0, rowP l)]), .l (.ret) ([(1, .pp 1 0), (4, .pv (.int .i64 (((0 + 1 : Nat) : Int) : Int)))]) ([(1, 0, .ls 0 l.length), (0, 0, rowP l)]) ([(2, .pv (.int .i64 32))]) ([])]
     True.intro (And.intro h64 (And.intro (reflT (renN []) ([(1, .pp 1 0), (3, .pv (.int .i64 (((0 : Nat) : Int) : Int)))])) (And.intro (reflH (renN []) ([(1, 0, .ls 0 l.length), (0, 0, rowP l)])) (And.intro r0 (And.intro (reflT (renN []) ([(1, .pp 1 0), (4, .pv (.int .i64 (((0 + 1 : Nat) : Int) : Int)))])) (And.intro (reflH (renN []) ([(1, 0, .ls 0 l.length), (0, 0, rowP l)])) (And.intro r1 True.intro))))))) (by kernel_rfl)

set_option maxRecDepth 100000 in
theorem kc_ok {l : List Pt} (h64 : decide ((l.length : Int) > 64) = false) (r0 : RunsL Tryz.prog 1 1 (loopOf Tryz.prog 24 0) 44 2 ([(1, .pp 1 0), (3, .pv (.int .i64 (((0 : Nat) : Int) : Int)))]) ([(1, 0, .ls 0 l.length), (0, 0, rowP l)]) (.exit 0) ([(1, .pp 1 0)]) ([(1, 0, .ls 0 l.length), (0, 0, rowP l)])) (r1 : RunsL Tryz.prog 1 1 (loopOf Tryz.prog 24 1) 44 2 ([(1, .pp 1 0), (4, .pv (.int .i64 (((0 + 1 : Nat) : Int) : Int)))]) ([(1, 0, .ls 0 l.length), (0, 0, rowP l)]) (.exit 2) ([]) ([])) :
    FnL Tryz.prog 24 1 [fldS 0 l] [(0, 0, rowP l)] (.pv (.int .i64 0)) 0 [] :=
  fnl_run 300 [] [.t false, .l (.exit 0) ([(1, .pp 1 0), (3, .pv (.int .i64 (((0 : Nat) : Int) : Int)))]) ([(1, 0, .ls 0 l.length), (0, 0, rowP l)]) ([(1, .pp 1 0)]) ([(1, 0, .ls 0 l.length), (0, 0, rowP l)]), .l (.exit 2) ([(1, .pp 1 0), (4, .pv (.int .i64 (((0 + 1 : Nat) : Int) : Int)))]) ([(1, 0, .ls 0 l.length), (0, 0, rowP l)]) ([]) ([])]
     True.intro (And.intro h64 (And.intro (reflT (renN []) ([(1, .pp 1 0), (3, .pv (.int .i64 (((0 : Nat) : Int) : Int)))])) (And.intro (reflH (renN []) ([(1, 0, .ls 0 l.length), (0, 0, rowP l)])) (And.intro r0 (And.intro (reflT (renN []) ([(1, .pp 1 0), (4, .pv (.int .i64 (((0 + 1 : Nat) : Int) : Int)))])) (And.intro (reflH (renN []) ([(1, 0, .ls 0 l.length), (0, 0, rowP l)])) (And.intro r1 True.intro))))))) (by kernel_rfl)

end Go.Proofs.YtpngjeloiifgnaaGreat

namespace Go.Proofs.YtpngjeloiifgnaaGreat
open Go.RowKit
set_option maxRecDepth 100000 in
theorem pc0_next {l : List Pt} {k : Nat} {p : Pt} (hk : l[k]? = some p) (hin : 0 ≤ (k : Int) ∧ (k : Int) < (l.length : Int)) (hlt : decide ((k : Int) < (l.length : Int)) = true) (hc : Pure Tryz.prog 52 #[pointV p.id p.a p.b] (.int .i64 (0))) (hs : Value.int .i64 (IntKind.i64.wrap ((k : Int) + 1)) = .int .i64 (((k + 1 : Nat) : Int))) {e : Exit} {tm2 : List (Nat × SV)} {hp2 : List (Nat × Nat × SV)}
    (r : RunsL Tryz.prog 1 1 (loopOf Tryz.prog 20 0) 45 2 ([(1, .pp 1 0), (12, .ls 0 l.length), (13, .pv (.int .i64 (l.length : Int))), (14, .pv (.int .i64 ((k + 1 : Nat) : Int)))]) ([(1, 0, .ls 0 l.length), (0, 0, rowP l)]) e tm2 hp2) : RunsL Tryz.prog 1 1 (loopOf Tryz.prog 20 0) 45 2 ([(1, .pp 1 0), (12, .ls 0 l.length), (13, .pv (.int .i64 (l.length : Int))), (14, .pv (.int .i64 (k : Int)))]) ([(1, 0, .ls 0 l.length), (0, 0, rowP l)]) e tm2 hp2 :=
  RunsL.next [] 300 [.t true, .r (ptV p), .r (.int .i64 (0)), .k, .r (.int .i64 (((k + 1 : Nat) : Int)))]
    (round_of (And.intro hlt (And.intro hin (And.intro (ra_pt hk) (And.intro hc (And.intro hs True.intro))))) (by kernel_rfl)) r

set_option maxRecDepth 100000 in
theorem pc0_bad {l : List Pt} {k : Nat} {p : Pt} (hk : l[k]? = some p) (hin : 0 ≤ (k : Int) ∧ (k : Int) < (l.length : Int)) (hlt : decide ((k : Int) < (l.length : Int)) = true) (hc : Pure Tryz.prog 52 #[pointV p.id p.a p.b] (.int .i64 (8))) : RunsL Tryz.prog 1 1 (loopOf Tryz.prog 20 0) 45 2 ([(1, .pp 1 0), (12, .ls 0 l.length), (13, .pv (.int .i64 (l.length : Int))), (14, .pv (.int .i64 (k : Int)))]) ([(1, 0, .ls 0 l.length), (0, 0, rowP l)]) (.ret) ([(2, .pv (.int .i64 8))]) ([]) :=
  RunsL.stop [] 300 [.t true, .r (ptV p), .r (.int .i64 (8)), .k] (fun h => by cases h)
    (round_of (And.intro hlt (And.intro hin (And.intro (ra_pt hk) (And.intro hc True.intro)))) (by kernel_rfl))

set_option maxRecDepth 100000 in
theorem pc0_end {l : List Pt} {k : Nat} (hge : decide ((k : Int) < (l.length : Int)) = false) : RunsL Tryz.prog 1 1 (loopOf Tryz.prog 20 0) 45 2 ([(1, .pp 1 0), (12, .ls 0 l.length), (13, .pv (.int .i64 (l.length : Int))), (14, .pv (.int .i64 (k : Int)))]) ([(1, 0, .ls 0 l.length), (0, 0, rowP l)]) (.exit 0) ([(1, .pp 1 0)]) ([(1, 0, .ls 0 l.length), (0, 0, rowP l)]) :=
  RunsL.stop [] 300 [.t false] (fun h => by cases h)
    (round_of (And.intro hge True.intro) (by kernel_rfl))

set_option maxRecDepth 100000 in
theorem pc1_next {l : List Pt} {k : Nat} {p q : Pt} (hq : l[k]? = some q) (hk : l[k + 1]? = some p) (hi0 : 0 ≤ (k : Int) ∧ (k : Int) < (l.length : Int)) (hi1 : 0 ≤ ((k + 1 : Nat) : Int) ∧ ((k + 1 : Nat) : Int) < (l.length : Int)) (hlt : decide (((k + 1 : Nat) : Int) < (l.length : Int)) = true) (hm : Value.int .i64 (IntKind.i64.wrap (((k + 1 : Nat) : Int) - 1)) = .int .i64 ((k : Int))) (hg : decide (q.id ≥ p.id) = false) (hs : Value.int .i64 (IntKind.i64.wrap (((k + 1 : Nat) : Int) + 1)) = .int .i64 (((k + 1 + 1 : Nat) : Int))) {e : Exit} {tm2 : List (Nat × SV)} {hp2 : List (Nat × Nat × SV)}
    (r : RunsL Tryz.prog 1 1 (loopOf Tryz.prog 20 1) 45 2 ([(1, .pp 1 0), (6, .pv (.int .i64 ((k + 1 + 1 : Nat) : Int)))]) ([(1, 0, .ls 0 l.length), (0, 0, rowP l)]) e tm2 hp2) : RunsL Tryz.prog 1 1 (loopOf Tryz.prog 20 1) 45 2 ([(1, .pp 1 0), (6, .pv (.int .i64 ((k + 1 : Nat) : Int)))]) ([(1, 0, .ls 0 l.length), (0, 0, rowP l)]) e tm2 hp2 :=
  RunsL.next [] 300 [.t true, .r (.int .i64 ((k : Int))), .r (Value.int .i64 q.id), .r (Value.int .i64 p.id), .t false, .r (.int .i64 (((k + 1 + 1 : Nat) : Int)))]
    (round_of (And.intro hlt (And.intro hm (And.intro hi0 (And.intro (ra_id hq) (And.intro hi1 (And.intro (ra_id hk) (And.intro hg (And.intro hs True.intro)))))))) (by kernel_rfl)) r

set_option maxRecDepth 100000 in
theorem pc1_bad {l : List Pt} {k : Nat} {p q : Pt} (hq : l[k]? = some q) (hk : l[k + 1]? = some p) (hi0 : 0 ≤ (k : Int) ∧ (k : Int) < (l.length : Int)) (hi1 : 0 ≤ ((k + 1 : Nat) : Int) ∧ ((k + 1 : Nat) : Int) < (l.length : Int)) (hlt : decide (((k + 1 : Nat) : Int) < (l.length : Int)) = true) (hm : Value.int .i64 (IntKind.i64.wrap (((k + 1 : Nat) : Int) - 1)) = .int .i64 ((k : Int))) (hg : decide (q.id ≥ p.id) = true) : RunsL Tryz.prog 1 1 (loopOf Tryz.prog 20 1) 45 2 ([(1, .pp 1 0), (6, .pv (.int .i64 ((k + 1 : Nat) : Int)))]) ([(1, 0, .ls 0 l.length), (0, 0, rowP l)]) (.ret) ([(2, .pv (.int .i64 32))]) ([]) :=
  RunsL.stop [] 300 [.t true, .r (.int .i64 ((k : Int))), .r (Value.int .i64 q.id), .r (Value.int .i64 p.id), .t true] (fun h => by cases h)
    (round_of (And.intro hlt (And.intro hm (And.intro hi0 (And.intro (ra_id hq) (And.intro hi1 (And.intro (ra_id hk) (And.intro hg True.intro))))))) (by kernel_rfl))

set_option maxRecDepth 100000 in
theorem pc1_end {l : List Pt} {k : Nat} (hge : decide ((k : Int) < (l.length : Int)) = false) : RunsL Tryz.prog 1 1 (loopOf Tryz.prog 20 1) 45 2 ([(1, .pp 1 0), (6, .pv (.int .i64 ((k : Nat) : Int)))]) ([(1, 0, .ls 0 l.length), (0, 0, rowP l)]) (.exit 2) ([]) ([]) :=
  RunsL.stop [] 300 [.t false] (fun h => by cases h)
    (round_of (And.intro hge True.intro) (by kernel_rfl))

set_option maxRecDepth 100000 in
theorem pc_many {l : List Pt} (h64 : decide ((l.length : Int) > 64) = true) :
    FnL Tryz.prog 20 1 [fldS 0 l] [(0, 0, rowP l)] (.pv (.int .i64 (4))) 0 [] :=
  fnl_run 300 [] [.t true]
     True.intro (And.intro h64 True.intro) (by kernel_rfl)

set_option maxRecDepth 100000 in
theorem pc_bad {l : List Pt} (h64 : decide ((l.length : Int) > 64) = false) (r0 : RunsL Tryz.prog 1 1 (loopOf Tryz.prog 20 0) 45 2 ([(1, .pp 1 0), (12, .ls 0 l.length), (13, .pv (.int .i64 (l.length : Int))), (14, .pv (.int .i64 ((0 : Nat) : Int)))]) ([(1, 0, .ls 0 l.length), (0, 0, rowP l)]) (.ret) ([(2, .pv (.int .i64 8))]) ([])) :
    FnL Tryz.prog 20 1 [fldS 0 l] [(0, 0, rowP l)] (.pv (.int .i64 (8))) 0 [] :=
  fnl_run 300 [] [.t false, .l (.ret) ([(1, .pp 1 0), (12, .ls 0 l.length), (13, .pv (.int .i64 (l.length : Int))), (14, .pv (.int .i64 ((0 : Nat) : Int)))]) ([(1, 0, .ls 0 l.length), (0, 0, rowP l)]) ([(2, .pv (.int .i64 8))]) ([])]
     True.intro (And.intro h64 (And.intro (reflT (renN []) ([(1, .pp 1 0), (12, .ls 0 l.length), (13, .pv (.int .i64 (l.length : Int))), (14, .pv (.int .i64 ((0 : Nat) : Int)))])) (And.intro (reflH (renN []) ([(1, 0, .ls 0 l.length), (0, 0, rowP l)])) (And.intro r0 True.intro)))) (by kernel_rfl)

set_option maxRecDepth 100000 in
theorem pc_ord {l : List Pt} (h64 : decide ((l.length : Int) > 64) = false) (r0 : RunsL Tryz.prog 1 1 (loopOf Tryz.prog 20 0) 45 2 ([(1, .pp 1 0), (12, .ls 0 l.length), (13, .pv (.int .i64 (l.length : Int))), (14, .pv (.int .i64 ((0 : Nat) : Int)))]) ([(1, 0, .ls 0 l.length), (0, 0, rowP l)]) (.exit 0) ([(1, .pp 1 0)]) ([(1, 0, .ls 0 l.length), (0, 0, rowP l)])) (r1 : RunsL Tryz.prog 1 1 (loopOf Tryz.prog 20 1) 45 2 ([(1, .pp 1 0), (6, .pv (.int .i64 ((0 + 1 : Nat) : Int)))]) ([(1, 0, .ls 0 l.length), (0, 0, rowP l)]) (.ret) ([(2, .pv (.int .i64 32))]) ([])) :
    FnL Tryz.prog 20 1 [fldS 0 l] [(0, 0, rowP l)] (.pv (.int .i64 (32))) 0 [] :=
  fnl_run 300 [] [.t false, .l (.exit 0) ([(1, .pp 1 0), (12, .ls 0 l.length), (13, .pv (.int .i64 (l.length : Int))), (14, .pv (.int .i64 ((0 : Nat) : Int)))]) ([(1, 0, .ls 0 l.length), (0, 0, rowP l)]) ([(1, .pp 1 0)]) ([(1, 0, .ls 0 l.length), (0, 0, rowP l)]), .l (.ret) ([(1, .pp 1 0), (6, .pv (.int .i64 ((0 + 1 : Nat) : Int)))]) ([(1, 0, .ls 0 l.length), (0, 0, rowP l)]) ([(2, .pv (.int .i64 32))]) ([])]
     True.intro (And.intro h64 (And.intro (reflT (renN []) ([(1, .pp 1 0), (12, .ls 0 l.length), (13, .pv (.int .i64 (l.length : Int))), (14, .pv (.int .i64 ((0 : Nat) : Int)))])) (And.intro (reflH (renN []) ([(1, 0, .ls 0 l.length), (0, 0, rowP l)])) (And.intro r0 (And.intro (reflT (renN []) ([(1, .pp 1 0), (6, .pv (.int .i64 ((0 + 1 : Nat) : Int)))])) (And.intro (reflH (renN []) ([(1, 0, .ls 0 l.length), (0, 0, rowP l)])) (And.intro r1 True.intro))))))) (by kernel_rfl)

set_option maxRecDepth 100000 in
theorem pc_ok {l : List Pt} (h64 : decide ((l.length : Int) > 64) = false) (r0 : RunsL Tryz.prog 1 1 (loopOf Tryz.prog 20 0) 45 2 ([(1, .pp 1 0), (12, .ls 0 l.length), (13, .pv (.int .i64 (l.length : Int))), (14, .pv (.int .i64 ((0 : Nat) : Int)))]) ([(1, 0, .ls 0 l.length), (0, 0, rowP l)]) (.exit 0) ([(1, .pp 1 0)]) ([(1, 0, .ls 0 l.length), (0, 0, rowP l)])) (r1 : RunsL Tryz.prog 1 1 (loopOf Tryz.prog 20 1) 45 2 ([(1, .pp 1 0), (6, .pv (.int .i64 ((0 + 1 : Nat) : Int)))]) ([(1, 0, .ls 0 l.length), (0, 0, rowP l)]) (.exit 2) ([]) ([])) :
    FnL Tryz.prog 20 1 [fldS 0 l] [(0, 0, rowP l)] (.pv (.int .i64 (0))) 0 [] :=
  fnl_run 300 [] [.t false, .l (.exit 0) ([(1, .pp 1 0), (12, .ls 0 l.length), (13, .pv (.int .i64 (l.length : Int))), (14, .pv (.int .i64 ((0 : Nat) : Int)))]) ([(1, 0, .ls 0 l.length), (0, 0, rowP l)]) ([(1, .pp 1 0)]) ([(1, 0, .ls 0 l.length), (0, 0, rowP l)]), .l (.exit 2) ([(1, .pp 1 0), (6, .pv (.int .i64 ((0 + 1 : Nat) : Int)))]) ([(1, 0, .ls 0 l.length), (0, 0, rowP l)]) ([]) ([])]
     True.intro (And.intro h64 (And.intro (reflT (renN []) ([(1, .pp 1 0), (12, .ls 0 l.length), (13, .pv (.int .i64 (l.length : Int))), (14, .pv (.int .i64 ((0 : Nat) : Int)))])) (And.intro (reflH (renN []) ([(1, 0, .ls 0 l.length), (0, 0, rowP l)])) (And.intro r0 (And.intro (reflT (renN []) ([(1, .pp 1 0), (6, .pv (.int .i64 ((0 + 1 : Nat) : Int)))])) (And.intro (reflH (renN []) ([(1, 0, .ls 0 l.length), (0, 0, rowP l)])) (And.intro r1 True.intro))))))) (by kernel_rfl)

end Go.Proofs.YtpngjeloiifgnaaGreat

namespace Go.Proofs.YtpngjeloiifgnaaGreat
open Go.RowKit
set_option maxRecDepth 100000 in
theorem find1_lt {a pa pb id : Int} (n1 : (!(a == a)) = false) (n2 : (!(id == id)) = false) (h1 : decide (a < id) = true) : Pure Tryz.prog 114 #[pointV a pa pb, .int .i64 id] (.int .i64 (-1)) :=
  pure_run (args := [pointV a pa pb, .int .i64 id]) 200 [.k, .k, .t false, .k, .t false, .t true] (And.intro rfl (And.intro n1 (And.intro n2 (And.intro h1 True.intro)))) (by kernel_rfl)

set_option maxRecDepth 100000 in
theorem find1_gt {a pa pb id : Int} (n1 : (!(a == a)) = false) (n2 : (!(id == id)) = false) (h1 : decide (a < id) = false) (h2 : decide (a > id) = true) : Pure Tryz.prog 114 #[pointV a pa pb, .int .i64 id] (.int .i64 (1)) :=
  pure_run (args := [pointV a pa pb, .int .i64 id]) 200 [.k, .k, .t false, .k, .t false, .t false, .t true] (And.intro rfl (And.intro n1 (And.intro n2 (And.intro h1 (And.intro h2 True.intro))))) (by kernel_rfl)

set_option maxRecDepth 100000 in
theorem find1_eq {a pa pb id : Int} (n1 : (!(a == a)) = false) (n2 : (!(id == id)) = false) (h1 : decide (a < id) = false) (h2 : decide (a > id) = false) : Pure Tryz.prog 114 #[pointV a pa pb, .int .i64 id] (.int .i64 (0)) :=
  pure_run (args := [pointV a pa pb, .int .i64 id]) 200 [.k, .k, .t false, .k, .t false, .t false, .t false] (And.intro rfl (And.intro n1 (And.intro n2 (And.intro h1 (And.intro h2 True.intro))))) (by kernel_rfl)

set_option maxRecDepth 100000 in
theorem bs_up {l : List Pt} {i j h : Nat} {p : Pt} {c : Int} {id : Int} (hk : l[h]? = some p) (hin : 0 ≤ (h : Int) ∧ (h : Int) < (l.length : Int)) (hlt : decide ((i : Int) < (j : Int)) = true) (ha : Value.int .i64 (IntKind.i64.wrap ((i : Int) + (j : Int))) = .int .i64 ((i : Int) + (j : Int))) (hu : Value.int .u64 (IntKind.u64.wrap ((i : Int) + (j : Int))) = .int .u64 ((i : Int) + (j : Int))) (h1 : ¬ (1 : Int) < 0) (hs : Value.int .u64 (((i : Int) + (j : Int)).fdiv (2 ^ (min (1 : Int).toNat IntKind.u64.bits))) = .int .u64 (h : Int)) (hb : Value.int .i64 (IntKind.i64.wrap (h : Int)) = .int .i64 ((h : Int))) (hc : Pure Tryz.prog 114 #[pointV p.id p.a p.b, .int .i64 id] (.int .i64 (c))) (hz : decide (c < 0) = true) (hh : Value.int .i64 (IntKind.i64.wrap ((h : Int) + 1)) = .int .i64 (((h + 1 : Nat) : Int))) {e : Exit} {tm2 : List (Nat × SV)} {hp2 : List (Nat × Nat × SV)}
    (r : RunsL Tryz.prog 1 1 (loopOf Tryz.prog 113 0) 49 1 ([(0, .ls 0 l.length), (1, .pv (.int .i64 id)), (2, .pv (.func (.func 114) #[] #[])), (8, .pv (.int .i64 (l.length : Int))), (9, .pv (.int .i64 ((h + 1 : Nat) : Int))), (10, .pv (.int .i64 (j : Int)))]) ([(0, 0, rowP l)]) e tm2 hp2) : RunsL Tryz.prog 1 1 (loopOf Tryz.prog 113 0) 49 1 ([(0, .ls 0 l.length), (1, .pv (.int .i64 id)), (2, .pv (.func (.func 114) #[] #[])), (8, .pv (.int .i64 (l.length : Int))), (9, .pv (.int .i64 (i : Int))), (10, .pv (.int .i64 (j : Int)))]) ([(0, 0, rowP l)]) e tm2 hp2 :=
  RunsL.next [] 300 [.t true, .r (.int .i64 ((i : Int) + (j : Int))), .r (.int .u64 ((i : Int) + (j : Int))), .r (.int .u64 (h : Int)), .r (.int .i64 ((h : Int))), .r (ptV p), .r (.int .i64 (c)), .t true, .r (.int .i64 (((h + 1 : Nat) : Int)))]
    (round_of (And.intro hlt (And.intro ha (And.intro hu (And.intro h1 (And.intro hs (And.intro hb (And.intro hin (And.intro (ra_pt hk) (And.intro hc (And.intro hz (And.intro hh True.intro))))))))))) (by kernel_rfl)) r

set_option maxRecDepth 100000 in
theorem bs_dn {l : List Pt} {i j h : Nat} {p : Pt} {c : Int} {id : Int} (hk : l[h]? = some p) (hin : 0 ≤ (h : Int) ∧ (h : Int) < (l.length : Int)) (hlt : decide ((i : Int) < (j : Int)) = true) (ha : Value.int .i64 (IntKind.i64.wrap ((i : Int) + (j : Int))) = .int .i64 ((i : Int) + (j : Int))) (hu : Value.int .u64 (IntKind.u64.wrap ((i : Int) + (j : Int))) = .int .u64 ((i : Int) + (j : Int))) (h1 : ¬ (1 : Int) < 0) (hs : Value.int .u64 (((i : Int) + (j : Int)).fdiv (2 ^ (min (1 : Int).toNat IntKind.u64.bits))) = .int .u64 (h : Int)) (hb : Value.int .i64 (IntKind.i64.wrap (h : Int)) = .int .i64 ((h : Int))) (hc : Pure Tryz.prog 114 #[pointV p.id p.a p.b, .int .i64 id] (.int .i64 (c))) (hz : decide (c < 0) = false) {e : Exit} {tm2 : List (Nat × SV)} {hp2 : List (Nat × Nat × SV)}
    (r : RunsL Tryz.prog 1 1 (loopOf Tryz.prog 113 0) 49 1 ([(0, .ls 0 l.length), (1, .pv (.int .i64 id)), (2, .pv (.func (.func 114) #[] #[])), (8, .pv (.int .i64 (l.length : Int))), (9, .pv (.int .i64 (i : Int))), (10, .pv (.int .i64 (h : Int)))]) ([(0, 0, rowP l)]) e tm2 hp2) : RunsL Tryz.prog 1 1 (loopOf Tryz.prog 113 0) 49 1 ([(0, .ls 0 l.length), (1, .pv (.int .i64 id)), (2, .pv (.func (.func 114) #[] #[])), (8, .pv (.int .i64 (l.length : Int))), (9, .pv (.int .i64 (i : Int))), (10, .pv (.int .i64 (j : Int)))]) ([(0, 0, rowP l)]) e tm2 hp2 :=
  RunsL.next [] 300 [.t true, .r (.int .i64 ((i : Int) + (j : Int))), .r (.int .u64 ((i : Int) + (j : Int))), .r (.int .u64 (h : Int)), .r (.int .i64 ((h : Int))), .r (ptV p), .r (.int .i64 (c)), .t false]
    (round_of (And.intro hlt (And.intro ha (And.intro hu (And.intro h1 (And.intro hs (And.intro hb (And.intro hin (And.intro (ra_pt hk) (And.intro hc (And.intro hz True.intro)))))))))) (by kernel_rfl)) r

set_option maxRecDepth 100000 in
theorem bs_end {l : List Pt} {i j : Nat} {id : Int} (hge : decide ((i : Int) < (j : Int)) = false) : RunsL Tryz.prog 1 1 (loopOf Tryz.prog 113 0) 49 1 ([(0, .ls 0 l.length), (1, .pv (.int .i64 id)), (2, .pv (.func (.func 114) #[] #[])), (8, .pv (.int .i64 (l.length : Int))), (9, .pv (.int .i64 (i : Int))), (10, .pv (.int .i64 (j : Int)))]) ([(0, 0, rowP l)]) (.exit 0) ([(0, .ls 0 l.length), (1, .pv (.int .i64 id)), (2, .pv (.func (.func 114) #[] #[])), (8, .pv (.int .i64 (l.length : Int))), (9, .pv (.int .i64 (i : Int))), (10, .pv (.int .i64 (j : Int)))]) ([(0, 0, rowP l)]) :=
  RunsL.stop [] 300 [.t false] (fun h => by cases h)
    (round_of (And.intro hge True.intro) (by kernel_rfl))

set_option maxRecDepth 100000 in
theorem bsf_out {l : List Pt} {k : Nat} {id : Int} (r0 : RunsL Tryz.prog 1 1 (loopOf Tryz.prog 113 0) 49 1 ([(0, .ls 0 l.length), (1, .pv (.int .i64 id)), (2, .pv (.func (.func 114) #[] #[])), (8, .pv (.int .i64 (l.length : Int))), (9, .pv (.int .i64 ((0 : Nat) : Int))), (10, .pv (.int .i64 (l.length : Int)))]) ([(0, 0, rowP l)]) (.exit 0) ([(0, .ls 0 l.length), (1, .pv (.int .i64 id)), (2, .pv (.func (.func 114) #[] #[])), (8, .pv (.int .i64 (l.length : Int))), (9, .pv (.int .i64 (k : Int))), (10, .pv (.int .i64 (k : Int)))]) ([(0, 0, rowP l)])) (hge : decide ((k : Int) < (l.length : Int)) = false) :
    FnL Tryz.prog 113 1 [.ls 0 l.length, .pv (.int .i64 (id)), .pv (.func (.func 114) #[] #[])] [(0, 0, rowP l)] (.pv (.tuple #[.int .i64 (k : Int), .bool false])) 0 [] :=
  fnl_run 300 [] [.l (.exit 0) ([(0, .ls 0 l.length), (1, .pv (.int .i64 id)), (2, .pv (.func (.func 114) #[] #[])), (8, .pv (.int .i64 (l.length : Int))), (9, .pv (.int .i64 ((0 : Nat) : Int))), (10, .pv (.int .i64 (l.length : Int)))]) ([(0, 0, rowP l)]) ([(0, .ls 0 l.length), (1, .pv (.int .i64 id)), (2, .pv (.func (.func 114) #[] #[])), (8, .pv (.int .i64 (l.length : Int))), (9, .pv (.int .i64 (k : Int))), (10, .pv (.int .i64 (k : Int)))]) ([(0, 0, rowP l)]), .t false]
     True.intro (And.intro (reflT (renN []) ([(0, .ls 0 l.length), (1, .pv (.int .i64 id)), (2, .pv (.func (.func 114) #[] #[])), (8, .pv (.int .i64 (l.length : Int))), (9, .pv (.int .i64 ((0 : Nat) : Int))), (10, .pv (.int .i64 (l.length : Int)))])) (And.intro (reflH (renN []) ([(0, 0, rowP l)])) (And.intro r0 (And.intro hge True.intro)))) (by kernel_rfl)

set_option maxRecDepth 100000 in
theorem bsf_hit {l : List Pt} {k : Nat} {p : Pt} {c : Int} {id : Int} (r0 : RunsL Tryz.prog 1 1 (loopOf Tryz.prog 113 0) 49 1 ([(0, .ls 0 l.length), (1, .pv (.int .i64 id)), (2, .pv (.func (.func 114) #[] #[])), (8, .pv (.int .i64 (l.length : Int))), (9, .pv (.int .i64 ((0 : Nat) : Int))), (10, .pv (.int .i64 (l.length : Int)))]) ([(0, 0, rowP l)]) (.exit 0) ([(0, .ls 0 l.length), (1, .pv (.int .i64 id)), (2, .pv (.func (.func 114) #[] #[])), (8, .pv (.int .i64 (l.length : Int))), (9, .pv (.int .i64 (k : Int))), (10, .pv (.int .i64 (k : Int)))]) ([(0, 0, rowP l)])) (hk : l[k]? = some p) (hin : 0 ≤ (k : Int) ∧ (k : Int) < (l.length : Int)) (hlt : decide ((k : Int) < (l.length : Int)) = true) (hc : Pure Tryz.prog 114 #[pointV p.id p.a p.b, .int .i64 id] (.int .i64 (c))) (hz : (c == 0) = true) :
    FnL Tryz.prog 113 1 [.ls 0 l.length, .pv (.int .i64 (id)), .pv (.func (.func 114) #[] #[])] [(0, 0, rowP l)] (.pv (.tuple #[.int .i64 (k : Int), .bool true])) 0 [] :=
  fnl_run 300 [] [.l (.exit 0) ([(0, .ls 0 l.length), (1, .pv (.int .i64 id)), (2, .pv (.func (.func 114) #[] #[])), (8, .pv (.int .i64 (l.length : Int))), (9, .pv (.int .i64 ((0 : Nat) : Int))), (10, .pv (.int .i64 (l.length : Int)))]) ([(0, 0, rowP l)]) ([(0, .ls 0 l.length), (1, .pv (.int .i64 id)), (2, .pv (.func (.func 114) #[] #[])), (8, .pv (.int .i64 (l.length : Int))), (9, .pv (.int .i64 (k : Int))), (10, .pv (.int .i64 (k : Int)))]) ([(0, 0, rowP l)]), .t true, .r (ptV p), .r (.int .i64 (c)), .t true]
     True.intro (And.intro (reflT (renN []) ([(0, .ls 0 l.length), (1, .pv (.int .i64 id)), (2, .pv (.func (.func 114) #[] #[])), (8, .pv (.int .i64 (l.length : Int))), (9, .pv (.int .i64 ((0 : Nat) : Int))), (10, .pv (.int .i64 (l.length : Int)))])) (And.intro (reflH (renN []) ([(0, 0, rowP l)])) (And.intro r0 (And.intro hlt (And.intro hin (And.intro (ra_pt hk) (And.intro hc (And.intro hz True.intro)))))))) (by kernel_rfl)

set_option maxRecDepth 100000 in
theorem bsf_no {l : List Pt} {k : Nat} {p : Pt} {c : Int} {id : Int} (r0 : RunsL Tryz.prog 1 1 (loopOf Tryz.prog 113 0) 49 1 ([(0, .ls 0 l.length), (1, .pv (.int .i64 id)), (2, .pv (.func (.func 114) #[] #[])), (8, .pv (.int .i64 (l.length : Int))), (9, .pv (.int .i64 ((0 : Nat) : Int))), (10, .pv (.int .i64 (l.length : Int)))]) ([(0, 0, rowP l)]) (.exit 0) ([(0, .ls 0 l.length), (1, .pv (.int .i64 id)), (2, .pv (.func (.func 114) #[] #[])), (8, .pv (.int .i64 (l.length : Int))), (9, .pv (.int .i64 (k : Int))), (10, .pv (.int .i64 (k : Int)))]) ([(0, 0, rowP l)])) (hk : l[k]? = some p) (hin : 0 ≤ (k : Int) ∧ (k : Int) < (l.length : Int)) (hlt : decide ((k : Int) < (l.length : Int)) = true) (hc : Pure Tryz.prog 114 #[pointV p.id p.a p.b, .int .i64 id] (.int .i64 (c))) (hz : (c == 0) = false) :
    FnL Tryz.prog 113 1 [.ls 0 l.length, .pv (.int .i64 (id)), .pv (.func (.func 114) #[] #[])] [(0, 0, rowP l)] (.pv (.tuple #[.int .i64 (k : Int), .bool false])) 0 [] :=
  fnl_run 300 [] [.l (.exit 0) ([(0, .ls 0 l.length), (1, .pv (.int .i64 id)), (2, .pv (.func (.func 114) #[] #[])), (8, .pv (.int .i64 (l.length : Int))), (9, .pv (.int .i64 ((0 : Nat) : Int))), (10, .pv (.int .i64 (l.length : Int)))]) ([(0, 0, rowP l)]) ([(0, .ls 0 l.length), (1, .pv (.int .i64 id)), (2, .pv (.func (.func 114) #[] #[])), (8, .pv (.int .i64 (l.length : Int))), (9, .pv (.int .i64 (k : Int))), (10, .pv (.int .i64 (k : Int)))]) ([(0, 0, rowP l)]), .t true, .r (ptV p), .r (.int .i64 (c)), .t false]
     True.intro (And.intro (reflT (renN []) ([(0, .ls 0 l.length), (1, .pv (.int .i64 id)), (2, .pv (.func (.func 114) #[] #[])), (8, .pv (.int .i64 (l.length : Int))), (9, .pv (.int .i64 ((0 : Nat) : Int))), (10, .pv (.int .i64 (l.length : Int)))])) (And.intro (reflH (renN []) ([(0, 0, rowP l)])) (And.intro r0 (And.intro hlt (And.intro hin (And.intro (ra_pt hk) (And.intro hc (And.intro hz True.intro)))))))) (by kernel_rfl)

set_option maxRecDepth 100000 in
theorem find_path {l : List Pt} {k : Nat} {b : Bool} {id : Int} (hb : FnL Tryz.prog 113 1 [.ls 0 l.length, .pv (.int .i64 (id)), .pv (.func (.func 114) #[] #[])] [(0, 0, rowP l)] (.pv (.tuple #[.int .i64 (k : Int), .bool b])) 0 []) :
    FnL Tryz.prog 72 1 [fldS 0 l, .pv (.int .i64 (id))] [(0, 0, rowP l)] (.pv (.tuple #[.int .i64 (k : Int), .bool b])) 0 [] :=
  fnl_run 300 [] [.f [0] [.ls 0 l.length, .pv (.int .i64 (id)), .pv (.func (.func 114) #[] #[])] [(0, 0, rowP l)] (.pv (.tuple #[.int .i64 (k : Int), .bool b])) 0 []]
     True.intro (And.intro hb (And.intro (Eq.refl (List.map (SV.ren (renU [0] 2)) [.ls 0 l.length, .pv (.int .i64 (id)), .pv (.func (.func 114) #[] #[])])) (And.intro (reflH (renU [0] 2) [(0, 0, rowP l)]) True.intro))) (by kernel_rfl)

set_option maxRecDepth 100000 in
theorem pfind_yes {l : List Pt} {k : Nat} {p : Pt} {id : Int} (hk : l[k]? = some p) (hin : 0 ≤ (k : Int) ∧ (k : Int) < (l.length : Int)) (hc : FnL Tryz.prog 20 1 [fldS 0 l] [(0, 0, rowP l)] (.pv (.int .i64 (0))) 0 []) (hf : FnL Tryz.prog 72 1 [fldS 0 l, .pv (.int .i64 (id))] [(0, 0, rowP l)] (.pv (.tuple #[.int .i64 (k : Int), .bool true])) 0 []) :
    FnL Tryz.prog 45 1 [fldS 0 l, .pv (.int .i64 (id))] [(0, 0, rowP l)] (.pv (.tuple #[ptV p, .int .i64 (0)])) 0 [] :=
  fnl_run 300 [] [.f [0] [fldS 0 l] [(0, 0, rowP l)] (.pv (.int .i64 (0))) 0 [], .k, .f [0] [fldS 0 l, .pv (.int .i64 (id))] [(0, 0, rowP l)] (.pv (.tuple #[.int .i64 (k : Int), .bool true])) 0 [], .k, .r (ptV p)]
     True.intro (And.intro hc (And.intro (Eq.refl (List.map (SV.ren (renU [0] 3)) [fldS 0 l])) (And.intro (reflH (renU [0] 3) [(0, 0, rowP l)]) (And.intro hf (And.intro (Eq.refl (List.map (SV.ren (renU [0] 3)) [fldS 0 l, .pv (.int .i64 (id))])) (And.intro (reflH (renU [0] 3) [(0, 0, rowP l)]) (And.intro hin (And.intro (ra_pt hk) True.intro)))))))) (by kernel_rfl)

set_option maxRecDepth 100000 in
theorem grow_s {s : Int} (h0 : decide (s < 0) = false) (hs : Value.int .i64 (IntKind.i64.wrap (s - 0)) = .int .i64 (s)) (hg : decide (s > 0) = true) (a0 : 0 ≤ s) (a1 : s ≤ 1000000) :
    FnL Tryz.prog 150 0 [.pv (.slice none 0 0), .pv (.int .i64 (s))] [] (.ls 0 0) 1 [(0, 0, rowP ([] : List Pt))] :=
  fnl_run 300 [(0, 1)] [.t false, .k, .r (.int .i64 (s)), .t true, .w []]
     (reflH (renN [(0, 1)]) [(0, 0, rowP ([] : List Pt))]) (And.intro h0 (And.intro hs (And.intro hg (And.intro a0 (And.intro a1 (And.intro (Int.le_refl (0 : Int)) (And.intro (Nat.zero_le s.toNat) True.intro))))))) (by kernel_rfl)

end Go.Proofs.YtpngjeloiifgnaaGreat

namespace Go.Proofs.YtpngjeloiifgnaaGreat
open Go.RowKit
set_option maxRecDepth 100000 in
theorem pput_ok {l : List Pt} {k : Nat} {pi pa pb : Int} {s1 s2 s3 : Int} (hkl : k ≤ l.length) (hc : FnL Tryz.prog 71 1 [fldS 0 l, .pv (pointV pi pa pb)] [(0, 0, rowP l)] (.pv (.int .i64 (0))) 0 []) (hf : FnL Tryz.prog 72 1 [fldS 0 l, .pv (.int .i64 (pi))] [(0, 0, rowP l)] (.pv (.tuple #[.int .i64 (k : Int), .bool false])) 0 []) (h64 : ((l.length : Int) == 64) = false) (q1 : Value.int .i64 (IntKind.i64.wrap ((0 : Int) + ((k : Nat) : Int))) = .int .i64 s1) (n1 : decide (s1 < 0) = false) (q2 : Value.int .i64 (IntKind.i64.wrap (s1 + ((1 : Nat) : Int))) = .int .i64 s2) (n2 : decide (s2 < 0) = false) (q3 : Value.int .i64 (IntKind.i64.wrap (s2 + ((l.length - k : Nat) : Int))) = .int .i64 s3) (n3 : decide (s3 < 0) = false) (hgr : FnL Tryz.prog 150 0 [.pv (.slice none 0 0), .pv (.int .i64 (s3))] [] (.ls 0 0) 1 [(0, 0, rowP ([] : List Pt))]) (m1 : 0 + k ≤ 1000000) (m2 : 0 + k + 1 ≤ 1000000) (m3 : 0 + k + 1 + (l.length - k) ≤ 1000000) :
    FnL Tryz.prog 30 1 [fldS 0 l, .pv (pointV pi pa pb)] [(0, 0, rowP l)] (.tu [.ag [.ls 1 (l.take k ++ (Pt.mk pi pa pb) :: l.drop k).length], .one (.pv (.int .i64 0))]) 1 [(1, 0, rowP (l.take k ++ (Pt.mk pi pa pb) :: l.drop k))] :=
  fnl_runX 300 [(1, 10)] [.f [0] [fldS 0 l, .pv (pointV pi pa pb)] [(0, 0, rowP l)] (.pv (.int .i64 (0))) 0 [], .k, .f [0] [fldS 0 l, .pv (.int .i64 (pi))] [(0, 0, rowP l)] (.pv (.tuple #[.int .i64 (k : Int), .bool false])) 0 [], .t false, .k, .k, .k, .k, .k, .r (.int .i64 s1), .t false, .k, .k, .r (.int .i64 s2), .t false, .k, .k, .r (.int .i64 s3), .t false, .k, .k, .f [] [.pv (.slice none 0 0), .pv (.int .i64 (s3))] [] (.ls 0 0) 1 [(0, 0, rowP ([] : List Pt))], .k, .k, .k, .k, .k, .k, .k]
    (put_tu 10 l k (Pt.mk pi pa pb) hkl) (And.intro (put_row l k (Pt.mk pi pa pb) hkl) True.intro) (And.intro hc (And.intro (Eq.refl (List.map (SV.ren (renU [0] 4)) [fldS 0 l, .pv (pointV pi pa pb)])) (And.intro (reflH (renU [0] 4) [(0, 0, rowP l)]) (And.intro hf (And.intro (Eq.refl (List.map (SV.ren (renU [0] 4)) [fldS 0 l, .pv (.int .i64 (pi))])) (And.intro (reflH (renU [0] 4) [(0, 0, rowP l)]) (And.intro h64 (And.intro True.intro (And.intro (Int.natCast_nonneg k) (And.intro (Nat.zero_le k) (And.intro hkl (And.intro (Int.natCast_nonneg k) (And.intro True.intro (And.intro hkl (And.intro (Nat.le_refl l.length) (And.intro q1 (And.intro n1 (And.intro q2 (And.intro n2 (And.intro q3 (And.intro n3 (And.intro hgr (And.intro (Eq.refl (List.map (SV.ren (renU [] 7)) [.pv (.slice none 0 0), .pv (.int .i64 (s3))])) (And.intro (reflH (renU [] 7) []) (And.intro m1 (And.intro m2 (And.intro m3 True.intro))))))))))))))))))))))))))) (by kernel_rfl)

end Go.Proofs.YtpngjeloiifgnaaGreat

namespace Go.Proofs.YtpngjeloiifgnaaGreat
open Go.RowKit
set_option maxRecDepth 100000 in
theorem lf_eq {p q : Pt} {tn td : Int} (he : (p.id == q.id) = true) :
    FnL Tryz.prog 89 1 [.pv (ptV p), .pv (ptV q), .pp 0 0] [(0, 0, .pv (.int .i64 tn)), (0, 1, .pv (.int .i64 td))] (.pv (.int .i64 (0))) 0 [] :=
  fnl_run 300 [] [.t true]
     True.intro (And.intro he True.intro) (by kernel_rfl)

set_option maxRecDepth 100000 in
theorem lf_lt {p q : Pt} {tn td : Int} (he : (p.id == q.id) = false) (ha : Pure Tryz.prog 90 #[pointV p.id p.a p.b, pointV q.id q.a q.b, ratioV tn td] (.tuple #[.bool true, .int .i64 0])) :
    FnL Tryz.prog 89 1 [.pv (ptV p), .pv (ptV q), .pp 0 0] [(0, 0, .pv (.int .i64 tn)), (0, 1, .pv (.int .i64 td))] (.pv (.int .i64 (-1))) 0 [] :=
  fnl_run 300 [] [.t false, .r (.tuple #[.bool true, .int .i64 0])]
     True.intro (And.intro he (And.intro ha True.intro)) (by kernel_rfl)

set_option maxRecDepth 100000 in
theorem lf_gt {p q : Pt} {tn td : Int} (he : (p.id == q.id) = false) (ha : Pure Tryz.prog 90 #[pointV p.id p.a p.b, pointV q.id q.a q.b, ratioV tn td] (.tuple #[.bool false, .int .i64 0])) :
    FnL Tryz.prog 89 1 [.pv (ptV p), .pv (ptV q), .pp 0 0] [(0, 0, .pv (.int .i64 tn)), (0, 1, .pv (.int .i64 td))] (.pv (.int .i64 (1))) 0 [] :=
  fnl_run 300 [] [.t false, .r (.tuple #[.bool false, .int .i64 0])]
     True.intro (And.intro he (And.intro ha True.intro)) (by kernel_rfl)

set_option maxRecDepth 100000 in
theorem mf_up {l : List Pt} {k : Nat} {p m : Pt} {c : Int} {tn td : Int} (hk : l[k]? = some p) (hin : 0 ≤ (k : Int) ∧ (k : Int) < (l.length : Int)) (hlt : decide ((k : Int) < (l.length : Int)) = true) (hc : FnL Tryz.prog 89 1 [.pv (ptV p), .pv (ptV m), .pp 0 0] [(0, 0, .pv (.int .i64 tn)), (0, 1, .pv (.int .i64 td))] (.pv (.int .i64 (c))) 0 []) (hz : decide (c < 0) = true) (hs : Value.int .i64 (IntKind.i64.wrap ((k : Int) + 1)) = .int .i64 (((k + 1 : Nat) : Int))) {e : Exit} {tm2 : List (Nat × SV)} {hp2 : List (Nat × Nat × SV)}
    (r : RunsL Tryz.prog 2 2 (loopOf Tryz.prog 101 0) 33 4 ([(0, .ls 0 l.length), (1, .pc 89 [.pp 1 0]), (4, .pp 2 0), (5, .pp 3 0), (6, .pv (.int .i64 ((k + 1 : Nat) : Int)))]) ([(0, 0, rowP l), (1, 0, .pv (.int .i64 tn)), (1, 1, .pv (.int .i64 td)), (3, 0, .pv (.int .i64 (p).id)), (3, 1, .pv (.int .i64 (p).a)), (3, 2, .pv (.int .i64 (p).b)), (2, 0, .pv (.int .i64 0)), (2, 1, .pv (.int .i64 0)), (2, 2, .pv (.int .i64 0))]) e tm2 hp2) : RunsL Tryz.prog 2 2 (loopOf Tryz.prog 101 0) 33 4 ([(0, .ls 0 l.length), (1, .pc 89 [.pp 1 0]), (4, .pp 2 0), (5, .pp 3 0), (6, .pv (.int .i64 (k : Int)))]) ([(0, 0, rowP l), (1, 0, .pv (.int .i64 tn)), (1, 1, .pv (.int .i64 td)), (3, 0, .pv (.int .i64 (m).id)), (3, 1, .pv (.int .i64 (m).a)), (3, 2, .pv (.int .i64 (m).b)), (2, 0, .pv (.int .i64 0)), (2, 1, .pv (.int .i64 0)), (2, 2, .pv (.int .i64 0))]) e tm2 hp2 :=
  RunsL.next [] 300 [.t true, .r (ptV p), .f [1] [.pv (ptV p), .pv (ptV m), .pp 0 0] [(0, 0, .pv (.int .i64 tn)), (0, 1, .pv (.int .i64 td))] (.pv (.int .i64 (c))) 0 [], .t true, .r (ptV p), .r (.int .i64 (((k + 1 : Nat) : Int)))]
    (round_of (And.intro hlt (And.intro hin (And.intro (ra_pt hk) (And.intro hc (And.intro (Eq.refl (List.map (SV.ren (renU [1] 4)) [.pv (ptV p), .pv (ptV m), .pp 0 0])) (And.intro (reflH (renU [1] 4) [(0, 0, .pv (.int .i64 tn)), (0, 1, .pv (.int .i64 td))]) (And.intro hz (And.intro hin (And.intro (ra_pt hk) (And.intro hs True.intro)))))))))) (by kernel_rfl)) r

set_option maxRecDepth 100000 in
theorem mf_no {l : List Pt} {k : Nat} {p m : Pt} {c : Int} {tn td : Int} (hk : l[k]? = some p) (hin : 0 ≤ (k : Int) ∧ (k : Int) < (l.length : Int)) (hlt : decide ((k : Int) < (l.length : Int)) = true) (hc : FnL Tryz.prog 89 1 [.pv (ptV p), .pv (ptV m), .pp 0 0] [(0, 0, .pv (.int .i64 tn)), (0, 1, .pv (.int .i64 td))] (.pv (.int .i64 (c))) 0 []) (hz : decide (c < 0) = false) (hs : Value.int .i64 (IntKind.i64.wrap ((k : Int) + 1)) = .int .i64 (((k + 1 : Nat) : Int))) {e : Exit} {tm2 : List (Nat × SV)} {hp2 : List (Nat × Nat × SV)}
    (r : RunsL Tryz.prog 2 2 (loopOf Tryz.prog 101 0) 33 4 ([(0, .ls 0 l.length), (1, .pc 89 [.pp 1 0]), (4, .pp 2 0), (5, .pp 3 0), (6, .pv (.int .i64 ((k + 1 : Nat) : Int)))]) ([(0, 0, rowP l), (1, 0, .pv (.int .i64 tn)), (1, 1, .pv (.int .i64 td)), (3, 0, .pv (.int .i64 (m).id)), (3, 1, .pv (.int .i64 (m).a)), (3, 2, .pv (.int .i64 (m).b)), (2, 0, .pv (.int .i64 0)), (2, 1, .pv (.int .i64 0)), (2, 2, .pv (.int .i64 0))]) e tm2 hp2) : RunsL Tryz.prog 2 2 (loopOf Tryz.prog 101 0) 33 4 ([(0, .ls 0 l.length), (1, .pc 89 [.pp 1 0]), (4, .pp 2 0), (5, .pp 3 0), (6, .pv (.int .i64 (k : Int)))]) ([(0, 0, rowP l), (1, 0, .pv (.int .i64 tn)), (1, 1, .pv (.int .i64 td)), (3, 0, .pv (.int .i64 (m).id)), (3, 1, .pv (.int .i64 (m).a)), (3, 2, .pv (.int .i64 (m).b)), (2, 0, .pv (.int .i64 0)), (2, 1, .pv (.int .i64 0)), (2, 2, .pv (.int .i64 0))]) e tm2 hp2 :=
  RunsL.next [] 300 [.t true, .r (ptV p), .f [1] [.pv (ptV p), .pv (ptV m), .pp 0 0] [(0, 0, .pv (.int .i64 tn)), (0, 1, .pv (.int .i64 td))] (.pv (.int .i64 (c))) 0 [], .t false, .r (.int .i64 (((k + 1 : Nat) : Int)))]
    (round_of (And.intro hlt (And.intro hin (And.intro (ra_pt hk) (And.intro hc (And.intro (Eq.refl (List.map (SV.ren (renU [1] 4)) [.pv (ptV p), .pv (ptV m), .pp 0 0])) (And.intro (reflH (renU [1] 4) [(0, 0, .pv (.int .i64 tn)), (0, 1, .pv (.int .i64 td))]) (And.intro hz (And.intro hs True.intro)))))))) (by kernel_rfl)) r

set_option maxRecDepth 100000 in
theorem mf_end {l : List Pt} {k : Nat} {m : Pt} {tn td : Int} (hge : decide ((k : Int) < (l.length : Int)) = false) : RunsL Tryz.prog 2 2 (loopOf Tryz.prog 101 0) 33 4 ([(0, .ls 0 l.length), (1, .pc 89 [.pp 1 0]), (4, .pp 2 0), (5, .pp 3 0), (6, .pv (.int .i64 (k : Int)))]) ([(0, 0, rowP l), (1, 0, .pv (.int .i64 tn)), (1, 1, .pv (.int .i64 td)), (3, 0, .pv (.int .i64 (m).id)), (3, 1, .pv (.int .i64 (m).a)), (3, 2, .pv (.int .i64 (m).b)), (2, 0, .pv (.int .i64 0)), (2, 1, .pv (.int .i64 0)), (2, 2, .pv (.int .i64 0))]) (.exit 0) ([(4, .pp 2 0), (5, .pp 3 0)]) ([(0, 0, rowP l), (1, 0, .pv (.int .i64 tn)), (1, 1, .pv (.int .i64 td)), (3, 0, .pv (.int .i64 (m).id)), (3, 1, .pv (.int .i64 (m).a)), (3, 2, .pv (.int .i64 (m).b)), (2, 0, .pv (.int .i64 0)), (2, 1, .pv (.int .i64 0)), (2, 2, .pv (.int .i64 0))]) :=
  RunsL.stop [] 300 [.t false] (fun h => by cases h)
    (round_of (And.intro hge True.intro) (by kernel_rfl))

set_option maxRecDepth 100000 in
theorem mf_path {l : List Pt} {p m : Pt} {tn td : Int} (hk : l[0]? = some p) (hin : 0 ≤ (0 : Int) ∧ (0 : Int) < (l.length : Int)) (h1 : decide ((l.length : Int) < 1) = false) (r0 : RunsL Tryz.prog 2 2 (loopOf Tryz.prog 101 0) 33 4 ([(0, .ls 0 l.length), (1, .pc 89 [.pp 1 0]), (4, .pp 2 0), (5, .pp 3 0), (6, .pv (.int .i64 (((0 + 1 : Nat)) : Int)))]) ([(0, 0, rowP l), (1, 0, .pv (.int .i64 tn)), (1, 1, .pv (.int .i64 td)), (3, 0, .pv (.int .i64 (p).id)), (3, 1, .pv (.int .i64 (p).a)), (3, 2, .pv (.int .i64 (p).b)), (2, 0, .pv (.int .i64 0)), (2, 1, .pv (.int .i64 0)), (2, 2, .pv (.int .i64 0))]) (.exit 0) ([(4, .pp 2 0), (5, .pp 3 0)]) ([(0, 0, rowP l), (1, 0, .pv (.int .i64 tn)), (1, 1, .pv (.int .i64 td)), (3, 0, .pv (.int .i64 (m).id)), (3, 1, .pv (.int .i64 (m).a)), (3, 2, .pv (.int .i64 (m).b)), (2, 0, .pv (.int .i64 0)), (2, 1, .pv (.int .i64 0)), (2, 2, .pv (.int .i64 0))])) :
    FnL Tryz.prog 101 2 [.ls 0 l.length, .pc 89 [.pp 1 0]] [(0, 0, rowP l), (1, 0, .pv (.int .i64 tn)), (1, 1, .pv (.int .i64 td))] (.pv (ptV m)) 0 [] :=
  fnl_run 300 [] [.t false, .r (ptV p), .l (.exit 0) ([(0, .ls 0 l.length), (1, .pc 89 [.pp 1 0]), (4, .pp 2 0), (5, .pp 3 0), (6, .pv (.int .i64 (((0 + 1 : Nat)) : Int)))]) ([(0, 0, rowP l), (1, 0, .pv (.int .i64 tn)), (1, 1, .pv (.int .i64 td)), (3, 0, .pv (.int .i64 (p).id)), (3, 1, .pv (.int .i64 (p).a)), (3, 2, .pv (.int .i64 (p).b)), (2, 0, .pv (.int .i64 0)), (2, 1, .pv (.int .i64 0)), (2, 2, .pv (.int .i64 0))]) ([(4, .pp 2 0), (5, .pp 3 0)]) ([(0, 0, rowP l), (1, 0, .pv (.int .i64 tn)), (1, 1, .pv (.int .i64 td)), (3, 0, .pv (.int .i64 (m).id)), (3, 1, .pv (.int .i64 (m).a)), (3, 2, .pv (.int .i64 (m).b)), (2, 0, .pv (.int .i64 0)), (2, 1, .pv (.int .i64 0)), (2, 2, .pv (.int .i64 0))])]
     True.intro (And.intro h1 (And.intro hin (And.intro (ra_pt hk) (And.intro (reflT (renN []) ([(0, .ls 0 l.length), (1, .pc 89 [.pp 1 0]), (4, .pp 2 0), (5, .pp 3 0), (6, .pv (.int .i64 (((0 + 1 : Nat)) : Int)))])) (And.intro (reflH (renN []) ([(0, 0, rowP l), (1, 0, .pv (.int .i64 tn)), (1, 1, .pv (.int .i64 td)), (3, 0, .pv (.int .i64 (p).id)), (3, 1, .pv (.int .i64 (p).a)), (3, 2, .pv (.int .i64 (p).b)), (2, 0, .pv (.int .i64 0)), (2, 1, .pv (.int .i64 0)), (2, 2, .pv (.int .i64 0))])) (And.intro r0 True.intro)))))) (by kernel_rfl)

set_option maxRecDepth 100000 in
theorem plead_no {l : List Pt} {tn td : Int} (hc : FnL Tryz.prog 38 1 [fldS 0 l, .pv (ratioV tn td)] [(0, 0, rowP l)] (.pv (.int .i64 (0))) 0 []) (h0 : ((l.length : Int) == 0) = true) :
    FnL Tryz.prog 51 1 [fldS 0 l, .pv (ratioV tn td)] [(0, 0, rowP l)] (.pv (.tuple #[.int .i64 (0), .int .i64 (42)])) 0 [] :=
  fnl_run 300 [] [.f [0] [fldS 0 l, .pv (ratioV tn td)] [(0, 0, rowP l)] (.pv (.int .i64 (0))) 0 [], .k, .t true]
     True.intro (And.intro hc (And.intro (Eq.refl (List.map (SV.ren (renU [0] 3)) [fldS 0 l, .pv (ratioV tn td)])) (And.intro (reflH (renU [0] 3) [(0, 0, rowP l)]) (And.intro h0 True.intro)))) (by kernel_rfl)

set_option maxRecDepth 100000 in
theorem plead_yes {l : List Pt} {m : Pt} {tn td : Int} (hc : FnL Tryz.prog 38 1 [fldS 0 l, .pv (ratioV tn td)] [(0, 0, rowP l)] (.pv (.int .i64 (0))) 0 []) (h0 : ((l.length : Int) == 0) = false) (hm : FnL Tryz.prog 101 2 [.ls 0 l.length, .pc 89 [.pp 1 0]] [(0, 0, rowP l), (1, 0, .pv (.int .i64 tn)), (1, 1, .pv (.int .i64 td))] (.pv (ptV m)) 0 []) :
    FnL Tryz.prog 51 1 [fldS 0 l, .pv (ratioV tn td)] [(0, 0, rowP l)] (.pv (.tuple #[.int .i64 (m.id), .int .i64 (0)])) 0 [] :=
  fnl_run 300 [] [.f [0] [fldS 0 l, .pv (ratioV tn td)] [(0, 0, rowP l)] (.pv (.int .i64 (0))) 0 [], .k, .t false, .k, .f [0,3] [.ls 0 l.length, .pc 89 [.pp 1 0]] [(0, 0, rowP l), (1, 0, .pv (.int .i64 tn)), (1, 1, .pv (.int .i64 td))] (.pv (ptV m)) 0 []]
     True.intro (And.intro hc (And.intro (Eq.refl (List.map (SV.ren (renU [0] 3)) [fldS 0 l, .pv (ratioV tn td)])) (And.intro (reflH (renU [0] 3) [(0, 0, rowP l)]) (And.intro h0 (And.intro hm (And.intro (Eq.refl (List.map (SV.ren (renU [0,3] 4)) [.ls 0 l.length, .pc 89 [.pp 1 0]])) (And.intro (reflH (renU [0,3] 4) [(0, 0, rowP l), (1, 0, .pv (.int .i64 tn)), (1, 1, .pv (.int .i64 td))]) True.intro))))))) (by kernel_rfl)

set_option maxRecDepth 100000 in
theorem clone_path {l : List Pt} (h0 : 0 < l.length) (hn : 0 + l.length ≤ 1000000) :
    FnL Tryz.prog 39 1 [.ls 0 l.length] [(0, 0, rowP l)] (.ls 1 l.length) 1 [(1, 0, rowP l)] :=
  fnl_runX 300 [(1, 2)] [.t false]
    (clone_x l) (And.intro (twin_row l) True.intro) (And.intro h0 (And.intro hn True.intro)) (by kernel_rfl)

set_option maxRecDepth 100000 in
theorem clone_e {ad : Addr} {c : Nat} :
    FnL Tryz.prog 39 0 [.pv (.slice (some ad) 0 c)] [] (.ls 0 0) 1 [(0, 0, rowP ([] : List Pt))] :=
  fnl_run 300 [(0, 1)] [.k]
     (reflH (renN [(0, 1)]) [(0, 0, rowP ([] : List Pt))]) (And.intro (Nat.zero_le _ : 0 + 0 ≤ 1000000) True.intro) (by kernel_rfl)

theorem clone_nil {c : Nat} : Pure Tryz.prog 39 #[.slice none 0 c] (.slice none 0 0) :=
  pure_run (args := [.slice none 0 c]) 200 [] (And.intro rfl True.intro) (by kernel_rfl)

set_option maxRecDepth 100000 in
theorem ord_next {l s : List Pt} {g : List Int} {k : Nat} {p : Pt} (hk : s[k]? = some p) (hin : 0 ≤ (k : Int) ∧ (k : Int) < (l.length : Int)) (hg : k < g.length) (hlt : decide ((k : Int) < (l.length : Int)) = true) (hs : Value.int .i64 (IntKind.i64.wrap ((k : Int) + 1)) = .int .i64 (((k + 1 : Nat) : Int))) {e : Exit} {tm2 : List (Nat × SV)} {hp2 : List (Nat × Nat × SV)}
    (r : RunsL Tryz.prog 1 1 (loopOf Tryz.prog 13 0) 41 6 ([(8, .ls 5 l.length), (27, .ls 3 l.length), (28, .pv (.int .i64 (l.length : Int))), (29, .pv (.int .i64 ((k + 1 : Nat) : Int)))]) ([(3, 0, .row 68 3 l.length (ptsV s)), (5, 0, .row 3 1 l.length (idsV (g.set k p.id)))]) e tm2 hp2) : RunsL Tryz.prog 1 1 (loopOf Tryz.prog 13 0) 41 6 ([(8, .ls 5 l.length), (27, .ls 3 l.length), (28, .pv (.int .i64 (l.length : Int))), (29, .pv (.int .i64 (k : Int)))]) ([(3, 0, .row 68 3 l.length (ptsV s)), (5, 0, .row 3 1 l.length (idsV g))]) e tm2 hp2 :=
  RunsL.next [] 300 [.t true, .r (ptV p), .w (idsV (g.set k p.id)), .r (.int .i64 (((k + 1 : Nat) : Int)))]
    (round_of (And.intro hlt (And.intro hin (And.intro (ra_pt hk) (And.intro hin (And.intro (seti_row g k p.id hg) (And.intro (seti_in g k hg) (And.intro hs True.intro))))))) (by kernel_rfl)) r

set_option maxRecDepth 100000 in
theorem ord_end {l s : List Pt} {g : List Int} {k : Nat} (hge : decide ((k : Int) < (l.length : Int)) = false) : RunsL Tryz.prog 1 1 (loopOf Tryz.prog 13 0) 41 6 ([(8, .ls 5 l.length), (27, .ls 3 l.length), (28, .pv (.int .i64 (l.length : Int))), (29, .pv (.int .i64 (k : Int)))]) ([(3, 0, .row 68 3 l.length (ptsV s)), (5, 0, .row 3 1 l.length (idsV g))]) (.exit 0) ([(8, .ls 5 l.length)]) ([(3, 0, .row 68 3 l.length (ptsV s)), (5, 0, .row 3 1 l.length (idsV g))]) :=
  RunsL.stop [] 300 [.t false] (fun h => by cases h)
    (round_of (And.intro hge True.intro) (by kernel_rfl))

set_option maxRecDepth 100000 in
theorem pord_yes {l s : List Pt} {g : List Int} {tn td : Int} (hc : FnL Tryz.prog 38 1 [fldS 0 l, .pv (ratioV tn td)] [(0, 0, rowP l)] (.pv (.int .i64 (0))) 0 []) (hcl : FnL Tryz.prog 39 1 [.ls 0 l.length] [(0, 0, rowP l)] (.ls 1 l.length) 1 [(1, 0, rowP l)]) (hso : FnM Tryz.prog 40 2 [.ls 0 l.length, .pc 89 [.pp 1 0]] [(0, 0, rowP l), (1, 0, .pv (.int .i64 tn)), (1, 1, .pv (.int .i64 td))] (.tuple #[]) 0 ⟨68, 3, l.length, ptsV l⟩ (ptsV s)) (hn0 : 0 ≤ (l.length : Int)) (hn1 : (l.length : Int) ≤ 1000000) (r0 : RunsL Tryz.prog 1 1 (loopOf Tryz.prog 13 0) 41 6 ([(8, .ls 5 l.length), (27, .ls 3 l.length), (28, .pv (.int .i64 (l.length : Int))), (29, .pv (.int .i64 ((0 : Nat) : Int)))]) ([(3, 0, .row 68 3 l.length (ptsV s)), (5, 0, .row 3 1 l.length (idsV (List.replicate l.length (0 : Int))))]) (.exit 0) ([(8, .ls 5 l.length)]) ([(3, 0, .row 68 3 l.length (ptsV s)), (5, 0, .row 3 1 l.length (idsV g))])) :
    FnL Tryz.prog 13 1 [fldS 0 l, .pv (ratioV tn td)] [(0, 0, rowP l)] (.tu [.one (.ls 1 l.length), .one (.pv (.int .i64 0))]) 1 [(1, 0, .row 3 1 l.length (idsV g))] :=
  fnl_run 300 [(1, 5)] [.f [0] [fldS 0 l, .pv (ratioV tn td)] [(0, 0, rowP l)] (.pv (.int .i64 (0))) 0 [], .k, .f [0] [.ls 0 l.length] [(0, 0, rowP l)] (.ls 1 l.length) 1 [(1, 0, rowP l)], .k, .m [3,4] [.ls 0 l.length, .pc 89 [.pp 1 0]] [(0, 0, rowP l), (1, 0, .pv (.int .i64 tn)), (1, 1, .pv (.int .i64 td))] (.tuple #[]) 0 (ptsV s), .l (.exit 0) ([(8, .ls 5 l.length), (27, .ls 3 l.length), (28, .pv (.int .i64 (l.length : Int))), (29, .pv (.int .i64 ((0 : Nat) : Int)))]) ([(3, 0, .row 68 3 l.length (ptsV s)), (5, 0, .row 3 1 l.length (idsV (List.replicate l.length (0 : Int))))]) ([(8, .ls 5 l.length)]) ([(3, 0, .row 68 3 l.length (ptsV s)), (5, 0, .row 3 1 l.length (idsV g))])]
     (reflH (renN [(1, 5)]) [(1, 0, .row 3 1 l.length (idsV g))]) (And.intro hc (And.intro (Eq.refl (List.map (SV.ren (renU [0] 3)) [fldS 0 l, .pv (ratioV tn td)])) (And.intro (reflH (renU [0] 3) [(0, 0, rowP l)]) (And.intro hcl (And.intro (Eq.refl (List.map (SV.ren (renU [0] 3)) [.ls 0 l.length])) (And.intro (reflH (renU [0] 3) [(0, 0, rowP l)]) (And.intro hso (And.intro (Eq.refl (List.map (SV.ren (renU [3,4] 5)) [.ls 0 l.length, .pc 89 [.pp 1 0]])) (And.intro (reflH (renU [3,4] 5) [(0, 0, rowP l), (1, 0, .pv (.int .i64 tn)), (1, 1, .pv (.int .i64 td))]) (And.intro hn0 (And.intro (Eq.refl (l.length : Int)) (And.intro hn1 (And.intro (reflT (renN []) ([(8, .ls 5 l.length), (27, .ls 3 l.length), (28, .pv (.int .i64 (l.length : Int))), (29, .pv (.int .i64 ((0 : Nat) : Int)))])) (And.intro (And.intro (Eq.refl (some (SV.row 68 3 l.length (ptsV s)))) (And.intro (rep_row l.length) True.intro)) (And.intro r0 True.intro))))))))))))))) (by kernel_rfl)

end Go.Proofs.YtpngjeloiifgnaaGreat

namespace Go.Proofs.YtpngjeloiifgnaaGreat
open Go.RowKit
theorem IsRes.uniq {p q N D E N' D' E' : Int} (h : IsRes p q N D E) (h' : IsRes p q N' D' E') (hq : q ≠ 0) : N = N' ∧ D = D' ∧ E = E' := by
  rcases h with ⟨e1, k1, i1, j1, f1⟩ | ⟨e1, n1, d1, g1⟩ <;> rcases h' with ⟨e2, k2, i2, j2, f2⟩ | ⟨e2, n2, d2, g2⟩
  · have e : N * D' = N' * D := by
      refine Int.eq_of_mul_eq_mul_right hq ?_
      rw [Int.mul_right_comm, f1, Int.mul_right_comm N' D q, f2, Int.mul_right_comm]
    obtain ⟨a, b⟩ := okB_one k1 k2 e
    exact ⟨a, b, e1.trans e2.symm⟩
  · exact absurd f1 (g2 N D k1 i1 j1)
  · exact absurd f2 (g1 N' D' k2 i2 j2)
  · exact ⟨n1.trans n2.symm, d1.trans d2.symm, e1.trans e2.symm⟩

theorem and_low {n : Int} (h : I64 n) : Value.int .i64 (bits .and .i64 n 4294967295) = .int .i64 (n % 4294967296) := by
  unfold I64 at h
  have h1 : (BitVec.ofInt 64 n).toNat = (n % 18446744073709551616).toNat := by rw [BitVec.toNat_ofInt]; rfl
  have h2 : (BitVec.ofInt 64 4294967295).toNat = 2 ^ 32 - 1 := by decide
  have e : bits .and .i64 n 4294967295 = IntKind.i64.wrap ((BitVec.ofInt 64 n &&& BitVec.ofInt 64 4294967295).toNat : Int) := rfl
  rw [e, BitVec.toNat_and, h1, h2, Nat.and_two_pow_sub_one_eq_mod, wrap_i64_in (by omega) (by omega)]
  congr 1
  omega
theorem fdiv32 (n : Int) : n.fdiv (2 ^ (min (32 : Int).toNat IntKind.i64.bits)) = n / 4294967296 := by
  rw [show ((2 : Int) ^ (min (32 : Int).toNat IntKind.i64.bits)) = 4294967296 by decide]
  exact Int.fdiv_eq_ediv_of_nonneg _ (by decide)
theorem split_ok {n : Int} (h : I64 n) : Pure Tryz.prog 118 #[.int .i64 n] (.agg #[.int .i64 (n / 4294967296), .int .i64 (n % 4294967296)]) :=
  split_path (by decide) (by rw [fdiv32]) (and_low h)
theorem wrapI {x : Int} (h0 : -9223372036854775808 ≤ x) (h1 : x ≤ 9223372036854775807) : Value.int .i64 (IntKind.i64.wrap x) = .int .i64 x := by rw [wrap_i64_in h0 h1]
theorem mulB {a x A X : Int} (h1 : -A ≤ a) (h2 : a ≤ A) (h3 : -X ≤ x) (h4 : x ≤ X) (hA : 0 ≤ A) (hX : 0 ≤ X) : -(A * X) ≤ a * x ∧ a * x ≤ A * X := mul_bd h2 h1 h4 h3 hA hX
/-- The number of which h has the parts. -/
theorem joined_any {s0 s1 S : Int} (h0 : -9223372036854775 ≤ s0) (h1 : s0 ≤ 9223372036854775) (h2 : -9223372036854775 ≤ s1) (h3 : s1 ≤ 9223372036854775) (hS : S = s0 * 4294967296 + s1) :
    (I64 S ∧ Pure Tryz.prog 119 #[.agg #[.int .i64 s0, .int .i64 s1]] (.tuple #[.int .i64 S, .bool true])) ∨ (¬ I64 S ∧ Pure Tryz.prog 119 #[.agg #[.int .i64 s0, .int .i64 s1]] (.tuple #[.int .i64 0, .bool false])) := by
  have v1 : Value.int .i64 (s1.fdiv (2 ^ (min (32 : Int).toNat IntKind.i64.bits))) = .int .i64 (s1 / 4294967296) := by rw [fdiv32]
  have v2 := wrapI (x := s0 + s1 / 4294967296) (by omega) (by omega)
  by_cases a : s0 + s1 / 4294967296 < -2147483648
  · exact Or.inr ⟨by unfold I64; omega, joined_lo (by decide) v1 v2 (dt a)⟩
  · by_cases b : s0 + s1 / 4294967296 > 2147483647
    · exact Or.inr ⟨by unfold I64; omega, joined_hi (by decide) v1 v2 (df a) (dt b)⟩
    · refine Or.inl ⟨by unfold I64; omega, joined_ok (by decide) v1 v2 (df a) (df b) (hh := (s0 + s1 / 4294967296) * 4294967296) ?_ (and_low (by unfold I64; omega)) ?_⟩
      · rw [show ((2 : Int) ^ (min (32 : Int).toNat IntKind.i64.bits)) = 4294967296 by decide]
        exact wrapI (by omega) (by omega)
      · rw [show (s0 + s1 / 4294967296) * 4294967296 + s1 % 4294967296 = S by omega]
        exact wrapI (by omega) (by omega)

theorem At_res {pi pa pb n d : Int} (hn : I64 n) (hd : I64 d) (hp : okP pi pa pb = true) (ht : okB n d = true) :
    ∃ N D E, IsRes (pa * d + pb * n) d N D E ∧ Pure Tryz.prog 33 #[pointV pi pa pb, ratioV n d] (.tuple #[ratioV N D, .int .i64 E]) := by
  have hp' := okP_iff.1 hp
  have d1 := okB_den ht
  have hd' := hd
  have hn' := hn
  unfold I64 at hd' hn'
  -- the rate
  obtain ⟨rn, rd, E, hr, hm⟩ := Make_res (a := pb) (b := d) (by unfold I64; omega) hd (by omega)
  obtain ⟨rfl, k1, i1, i2, e1⟩ := hr.fits (by omega) (by omega) (by omega) (by omega)
  have rd1 := okB_den k1
  have i2' := i2
  have i1' := i1
  unfold I64 at i1' i2'
  -- the rate's numerator is no greater than B
  have hdvd : rd.natAbs ∣ d.natAbs := by
    obtain ⟨_, _, g⟩ := okB_iff.1 k1
    refine Nat.Coprime.dvd_of_dvd_mul_left (show Nat.Coprime rd.natAbs rn.natAbs by rw [Nat.coprime_comm]; exact g) ⟨pb.natAbs, ?_⟩
    rw [← Int.natAbs_mul, e1, Int.natAbs_mul, Nat.mul_comm]
  obtain ⟨c, hc⟩ := hdvd
  have c0 : 0 < c := by
    rcases Nat.eq_zero_or_pos c with e | e
    · rw [e, Nat.mul_zero] at hc; omega
    · exact e
  have hdc : d = rd * (c : Int) := by
    have : d = ((rd.natAbs * c : Nat) : Int) := by omega
    rw [this, Int.natCast_mul]; congr 1; omega
  have hbc : pb = rn * (c : Int) := by
    refine Int.eq_of_mul_eq_mul_right (show rd ≠ 0 by omega) ?_
    rw [← e1, hdc, Int.mul_right_comm, Int.mul_assoc]
  have hrn : -1048576 ≤ rn ∧ rn ≤ 1048576 := by
    have : rn.natAbs * c = pb.natAbs := by rw [hbc, Int.natAbs_mul, Int.natAbs_natCast]
    have := Nat.le_mul_of_pos_right rn.natAbs c0
    omega
  -- the sum in two parts
  have a0 := mulB (a := pa) (x := rd / 4294967296) (A := 1048576) (X := 2147483648) (by omega) (by omega) (by omega) (by omega) (by decide) (by decide)
  have b0 := mulB (a := rn) (x := n / 4294967296) (A := 1048576) (X := 2147483648) (by omega) (by omega) (by omega) (by omega) (by decide) (by decide)
  have a1 := mulB (a := pa) (x := rd % 4294967296) (A := 1048576) (X := 4294967296) (by omega) (by omega) (by omega) (by omega) (by decide) (by decide)
  have b1 := mulB (a := rn) (x := n % 4294967296) (A := 1048576) (X := 4294967296) (by omega) (by omega) (by omega) (by omega) (by decide) (by decide)
  have hsum := sum2_path (a := pa) (b := rn) (x0 := rd / 4294967296) (x1 := rd % 4294967296) (y0 := n / 4294967296) (y1 := n % 4294967296) (wrapI (by omega) (by omega)) (wrapI (by omega) (by omega)) (wrapI (by omega) (by omega)) (wrapI (by omega) (by omega)) (wrapI (by omega) (by omega)) (wrapI (by omega) (by omega))
  obtain ⟨S, hS⟩ : ∃ S, S = pa * rd + rn * n := ⟨_, rfl⟩
  have hS2 : S = (pa * (rd / 4294967296) + rn * (n / 4294967296)) * 4294967296 + (pa * (rd % 4294967296) + rn * (n % 4294967296)) := by
    have e2 : rd = rd / 4294967296 * 4294967296 + rd % 4294967296 := by omega
    have e3 : n = n / 4294967296 * 4294967296 + n % 4294967296 := by omega
    rw [hS]
    conv => lhs; rw [e2, e3]
    rw [Int.mul_add, Int.mul_add, Int.add_mul, ← Int.mul_assoc, ← Int.mul_assoc]
    omega
  have heq : S * d = (pa * d + pb * n) * rd := by
    rw [hS, Int.add_mul, Int.add_mul, Int.mul_right_comm pa rd d, Int.mul_right_comm rn n d, e1, Int.mul_right_comm pb rd n]
  have hcd : Nat.gcd S.natAbs rd.natAbs = 1 := by
    obtain ⟨_, _, g1⟩ := okB_iff.1 k1
    obtain ⟨_, _, g2⟩ := okB_iff.1 ht
    have g3 : Nat.Coprime n.natAbs rd.natAbs := Nat.Coprime.coprime_dvd_right ⟨c, hc⟩ g2
    have g4 : Nat.Coprime (rn * n).natAbs rd.natAbs := by rw [Int.natAbs_mul]; exact Nat.Coprime.mul_left g1 g3
    have g5 : Int.gcd S rd = 1 := by
      rw [hS, Int.add_comm, Int.gcd_comm, Int.gcd_add_mul_right_right, Int.gcd_comm]
      exact g4
    exact g5
  have hat := fun {N D E : Int} (h : Pure Tryz.prog 77 #[pointV pi pa pb, ratioV n d] (.tuple #[ratioV N D, .int .i64 E])) => at_ok (Check02_ok hp) (Check_ok hn hd ht) h
  rcases joined_any (s0 := pa * (rd / 4294967296) + rn * (n / 4294967296)) (s1 := pa * (rd % 4294967296) + rn * (n % 4294967296)) (S := S) (by omega) (by omega) (by omega) (by omega) hS2 with ⟨j1, j2⟩ | ⟨j1, j2⟩
  · obtain ⟨N, D, E, h1, h2⟩ := Make_res (a := S) (b := rd) j1 i2 (by omega)
    exact ⟨N, D, E, h1.congr (by omega) (by omega) heq, hat (place_t hm (split_ok i2) (split_ok hn) hsum j2 h2)⟩
  · have hres := isRes_of (p := pa * d + pb * n) (q := d) (T := S) (U := rd) (by omega) (by omega) hcd heq
    have hf : (fitB S.natAbs && fitB rd.natAbs) = false := by
      unfold I64 at j1
      simp [fitB]; omega
    rw [hf] at hres
    exact ⟨_, _, _, hres, hat (place_f hm (split_ok i2) (split_ok hn) hsum j2)⟩
end Go.Proofs.YtpngjeloiifgnaaGreat
