/-
  Check of the reference of package cert, path by path. Conditions: none.
-/
import Derived.Test.YtjjmnoiffpnphaaW31
namespace Go.Proofs.Ytjjmnoiffpnphaa
open Go.RowKit
set_option maxRecDepth 100000 in
theorem rv_1 {a b : Int} (h1 : decide (a ≥ 0) = false) :
    Pure Try.prog 34 #[certV a b] (.bool false) :=
  pure_run (args := [certV a b]) 300 [.t false]
    (And.intro rfl (And.intro h1 True.intro)) (by kernel_rfl)

set_option maxRecDepth 100000 in
theorem rv_2 {a b : Int} (h1 : decide (a ≥ 0) = true) (h2 : decide (a ≤ 65535) = false) :
    Pure Try.prog 34 #[certV a b] (.bool false) :=
  pure_run (args := [certV a b]) 300 [.t true, .t false]
    (And.intro rfl (And.intro h1 (And.intro h2 True.intro))) (by kernel_rfl)

set_option maxRecDepth 100000 in
theorem rv_3 {a b : Int} (h1 : decide (a ≥ 0) = true) (h2 : decide (a ≤ 65535) = true) (h3 : decide (b ≥ 0) = false) :
    Pure Try.prog 34 #[certV a b] (.bool false) :=
  pure_run (args := [certV a b]) 300 [.t true, .t true, .t false]
    (And.intro rfl (And.intro h1 (And.intro h2 (And.intro h3 True.intro)))) (by kernel_rfl)

set_option maxRecDepth 100000 in
theorem rv_4 {a b : Int} (h1 : decide (a ≥ 0) = true) (h2 : decide (a ≤ 65535) = true) (h3 : decide (b ≥ 0) = true) (h4 : decide (b ≤ 65535) = false) :
    Pure Try.prog 34 #[certV a b] (.bool false) :=
  pure_run (args := [certV a b]) 300 [.t true, .t true, .t true, .t false]
    (And.intro rfl (And.intro h1 (And.intro h2 (And.intro h3 (And.intro h4 True.intro))))) (by kernel_rfl)

set_option maxRecDepth 100000 in
theorem rv_ok {a b : Int} (h1 : decide (a ≥ 0) = true) (h2 : decide (a ≤ 65535) = true) (h3 : decide (b ≥ 0) = true) (h4 : decide (b ≤ 65535) = true) (hn : (a != b) = true) :
    Pure Try.prog 34 #[certV a b] (.bool true) :=
  pure_run (args := [certV a b]) 300 [.t true, .t true, .t true, .t true, .t true]
    (And.intro rfl (And.intro h1 (And.intro h2 (And.intro h3 (And.intro h4 (And.intro hn True.intro)))))) (by kernel_rfl)

set_option maxRecDepth 100000 in
theorem rv_eq {a b : Int} (h1 : decide (a ≥ 0) = true) (h2 : decide (a ≤ 65535) = true) (h3 : decide (b ≥ 0) = true) (h4 : decide (b ≤ 65535) = true) (hn : (a != b) = false) :
    Pure Try.prog 34 #[certV a b] (.bool false) :=
  pure_run (args := [certV a b]) 300 [.t true, .t true, .t true, .t true, .t false]
    (And.intro rfl (And.intro h1 (And.intro h2 (And.intro h3 (And.intro h4 (And.intro hn True.intro)))))) (by kernel_rfl)

set_option maxRecDepth 100000 in
theorem rc8_0 {l : List Pt} {k : Nat} {p : Pt} {x : Int} (hk : l[k]? = some p) (hin : 0 ≤ (k : Int) ∧ (k : Int) < (l.length : Int)) (hlt : decide ((k : Int) < (l.length : Int)) = true) (hv : Pure Try.prog 34 #[certV p.a p.b] (.bool false)) : RunsL Try.prog 1 1 (loopOf Try.prog 24 0) 78 2 ([(1, .pp 1 0), (3, .pv (.int .i64 (k : Int)))]) ([(1, 0, .pv (.int .i64 x)), (1, 1, .ls 0 l.length), (0, 0, rowC l)]) (.ret) ([(2, .pv (.int .i64 8))]) ([]) :=
  RunsL.stop [] 300 [.t true, .r (ptV p), .r (.bool false), .k] (fun h => by cases h)
    (round_of (And.intro hlt (And.intro hin (And.intro (ra_pt hk) (And.intro hv True.intro)))) (by kernel_rfl))

set_option maxRecDepth 100000 in
theorem rc8_1 {l : List Pt} {k : Nat} {p : Pt} {x : Int} (hk : l[k]? = some p) (hin : 0 ≤ (k : Int) ∧ (k : Int) < (l.length : Int)) (hlt : decide ((k : Int) < (l.length : Int)) = true) (hv : Pure Try.prog 34 #[certV p.a p.b] (.bool true)) (h1 : decide (p.id < 0) = true) : RunsL Try.prog 1 1 (loopOf Try.prog 24 0) 78 2 ([(1, .pp 1 0), (3, .pv (.int .i64 (k : Int)))]) ([(1, 0, .pv (.int .i64 x)), (1, 1, .ls 0 l.length), (0, 0, rowC l)]) (.ret) ([(2, .pv (.int .i64 8))]) ([]) :=
  RunsL.stop [] 300 [.t true, .r (ptV p), .r (.bool true), .k, .t true] (fun h => by cases h)
    (round_of (And.intro hlt (And.intro hin (And.intro (ra_pt hk) (And.intro hv (And.intro h1 True.intro))))) (by kernel_rfl))

set_option maxRecDepth 100000 in
theorem rc8_2 {l : List Pt} {k : Nat} {p : Pt} {x : Int} (hk : l[k]? = some p) (hin : 0 ≤ (k : Int) ∧ (k : Int) < (l.length : Int)) (hlt : decide ((k : Int) < (l.length : Int)) = true) (hv : Pure Try.prog 34 #[certV p.a p.b] (.bool true)) (h1 : decide (p.id < 0) = false) (h2 : decide (p.id ≥ x) = true) : RunsL Try.prog 1 1 (loopOf Try.prog 24 0) 78 2 ([(1, .pp 1 0), (3, .pv (.int .i64 (k : Int)))]) ([(1, 0, .pv (.int .i64 x)), (1, 1, .ls 0 l.length), (0, 0, rowC l)]) (.ret) ([(2, .pv (.int .i64 8))]) ([]) :=
  RunsL.stop [] 300 [.t true, .r (ptV p), .r (.bool true), .k, .t false, .t true] (fun h => by cases h)
    (round_of (And.intro hlt (And.intro hin (And.intro (ra_pt hk) (And.intro hv (And.intro h1 (And.intro h2 True.intro)))))) (by kernel_rfl))

set_option maxRecDepth 100000 in
theorem rc8_3 {l : List Pt} {k : Nat} {p q : Pt} {x : Int} (hk : l[k + 1]? = some p) (hin : 0 ≤ ((k + 1 : Nat) : Int) ∧ ((k + 1 : Nat) : Int) < (l.length : Int)) (hlt : decide (((k + 1 : Nat) : Int) < (l.length : Int)) = true) (hv : Pure Try.prog 34 #[certV p.a p.b] (.bool true)) (h1 : decide (p.id < 0) = false) (h2 : decide (p.id ≥ x) = false) (hz : decide (((k + 1 : Nat) : Int) > 0) = true) (hq : l[k]? = some q) (hin0 : 0 ≤ (k : Int) ∧ (k : Int) < (l.length : Int)) (hm : Value.int .i64 (IntKind.i64.wrap (((k + 1 : Nat) : Int) - 1)) = .int .i64 ((k : Int))) (hg : decide (q.id ≥ p.id) = true) : RunsL Try.prog 1 1 (loopOf Try.prog 24 0) 78 2 ([(1, .pp 1 0), (3, .pv (.int .i64 ((k + 1 : Nat) : Int)))]) ([(1, 0, .pv (.int .i64 x)), (1, 1, .ls 0 l.length), (0, 0, rowC l)]) (.ret) ([(2, .pv (.int .i64 8))]) ([]) :=
  RunsL.stop [] 300 [.t true, .r (ptV p), .r (.bool true), .k, .t false, .t false, .t true, .r (.int .i64 ((k : Int))), .r (Value.int .i64 q.id), .t true] (fun h => by cases h)
    (round_of (And.intro hlt (And.intro hin (And.intro (ra_pt hk) (And.intro hv (And.intro h1 (And.intro h2 (And.intro hz (And.intro hm (And.intro hin0 (And.intro (ra_id hq) (And.intro hg True.intro))))))))))) (by kernel_rfl))

set_option maxRecDepth 100000 in
theorem rc8_z {l : List Pt} {k : Nat} {p : Pt} {x : Int} (hk : l[k]? = some p) (hin : 0 ≤ (k : Int) ∧ (k : Int) < (l.length : Int)) (hlt : decide ((k : Int) < (l.length : Int)) = true) (hv : Pure Try.prog 34 #[certV p.a p.b] (.bool true)) (h1 : decide (p.id < 0) = false) (h2 : decide (p.id ≥ x) = false) (hz : decide ((k : Int) > 0) = false) (r1 : RunsL Try.prog 1 1 (loopOf Try.prog 24 1) 78 3 ([(1, .pp 1 0), (3, .pv (.int .i64 (k : Int))), (4, .pp 2 0), (5, .pv (.int .i64 ((0 : Nat) : Int)))]) ([(1, 0, .pv (.int .i64 x)), (1, 1, .ls 0 l.length), (2, 0, .pv (.int .i64 p.id)), (2, 1, .pv (.int .i64 p.a)), (2, 2, .pv (.int .i64 p.b)), (0, 0, rowC l)]) (.exit 2) ([(1, .pp 1 0), (3, .pv (.int .i64 (k : Int)))]) ([(1, 0, .pv (.int .i64 x)), (1, 1, .ls 0 l.length), (0, 0, rowC l)])) (hs : Value.int .i64 (IntKind.i64.wrap ((k : Int) + 1)) = .int .i64 (((k + 1 : Nat) : Int))) {e : Exit} {tm2 : List (Nat × SV)} {hp2 : List (Nat × Nat × SV)}
    (r : RunsL Try.prog 1 1 (loopOf Try.prog 24 0) 78 2 ([(1, .pp 1 0), (3, .pv (.int .i64 ((k + 1 : Nat) : Int)))]) ([(1, 0, .pv (.int .i64 x)), (1, 1, .ls 0 l.length), (0, 0, rowC l)]) e tm2 hp2) : RunsL Try.prog 1 1 (loopOf Try.prog 24 0) 78 2 ([(1, .pp 1 0), (3, .pv (.int .i64 (k : Int)))]) ([(1, 0, .pv (.int .i64 x)), (1, 1, .ls 0 l.length), (0, 0, rowC l)]) e tm2 hp2 :=
  RunsL.next [] 300 [.t true, .r (ptV p), .r (.bool true), .k, .t false, .t false, .t false, .l (.exit 2) ([(1, .pp 1 0), (3, .pv (.int .i64 (k : Int))), (4, .pp 2 0), (5, .pv (.int .i64 ((0 : Nat) : Int)))]) ([(1, 0, .pv (.int .i64 x)), (1, 1, .ls 0 l.length), (2, 0, .pv (.int .i64 p.id)), (2, 1, .pv (.int .i64 p.a)), (2, 2, .pv (.int .i64 p.b)), (0, 0, rowC l)]) ([(1, .pp 1 0), (3, .pv (.int .i64 (k : Int)))]) ([(1, 0, .pv (.int .i64 x)), (1, 1, .ls 0 l.length), (0, 0, rowC l)]), .r (.int .i64 (((k + 1 : Nat) : Int)))]
    (round_of (And.intro hlt (And.intro hin (And.intro (ra_pt hk) (And.intro hv (And.intro h1 (And.intro h2 (And.intro hz (And.intro (reflT (renN []) ([(1, .pp 1 0), (3, .pv (.int .i64 (k : Int))), (4, .pp 2 0), (5, .pv (.int .i64 ((0 : Nat) : Int)))])) (And.intro (reflH (renN []) ([(1, 0, .pv (.int .i64 x)), (1, 1, .ls 0 l.length), (2, 0, .pv (.int .i64 p.id)), (2, 1, .pv (.int .i64 p.a)), (2, 2, .pv (.int .i64 p.b)), (0, 0, rowC l)])) (And.intro r1 (And.intro hs True.intro))))))))))) (by kernel_rfl)) r

set_option maxRecDepth 100000 in
theorem rc8_s {l : List Pt} {k : Nat} {p q : Pt} {x : Int} (hk : l[k + 1]? = some p) (hin : 0 ≤ ((k + 1 : Nat) : Int) ∧ ((k + 1 : Nat) : Int) < (l.length : Int)) (hlt : decide (((k + 1 : Nat) : Int) < (l.length : Int)) = true) (hv : Pure Try.prog 34 #[certV p.a p.b] (.bool true)) (h1 : decide (p.id < 0) = false) (h2 : decide (p.id ≥ x) = false) (hz : decide (((k + 1 : Nat) : Int) > 0) = true) (hq : l[k]? = some q) (hin0 : 0 ≤ (k : Int) ∧ (k : Int) < (l.length : Int)) (hm : Value.int .i64 (IntKind.i64.wrap (((k + 1 : Nat) : Int) - 1)) = .int .i64 ((k : Int))) (hg : decide (q.id ≥ p.id) = false) (r1 : RunsL Try.prog 1 1 (loopOf Try.prog 24 1) 78 3 ([(1, .pp 1 0), (3, .pv (.int .i64 ((k + 1 : Nat) : Int))), (4, .pp 2 0), (5, .pv (.int .i64 ((0 : Nat) : Int)))]) ([(1, 0, .pv (.int .i64 x)), (1, 1, .ls 0 l.length), (2, 0, .pv (.int .i64 p.id)), (2, 1, .pv (.int .i64 p.a)), (2, 2, .pv (.int .i64 p.b)), (0, 0, rowC l)]) (.exit 2) ([(1, .pp 1 0), (3, .pv (.int .i64 ((k + 1 : Nat) : Int)))]) ([(1, 0, .pv (.int .i64 x)), (1, 1, .ls 0 l.length), (0, 0, rowC l)])) (hs : Value.int .i64 (IntKind.i64.wrap (((k + 1 : Nat) : Int) + 1)) = .int .i64 (((k + 1 + 1 : Nat) : Int))) {e : Exit} {tm2 : List (Nat × SV)} {hp2 : List (Nat × Nat × SV)}
    (r : RunsL Try.prog 1 1 (loopOf Try.prog 24 0) 78 2 ([(1, .pp 1 0), (3, .pv (.int .i64 ((k + 1 + 1 : Nat) : Int)))]) ([(1, 0, .pv (.int .i64 x)), (1, 1, .ls 0 l.length), (0, 0, rowC l)]) e tm2 hp2) : RunsL Try.prog 1 1 (loopOf Try.prog 24 0) 78 2 ([(1, .pp 1 0), (3, .pv (.int .i64 ((k + 1 : Nat) : Int)))]) ([(1, 0, .pv (.int .i64 x)), (1, 1, .ls 0 l.length), (0, 0, rowC l)]) e tm2 hp2 :=
  RunsL.next [] 300 [.t true, .r (ptV p), .r (.bool true), .k, .t false, .t false, .t true, .r (.int .i64 ((k : Int))), .r (Value.int .i64 q.id), .t false, .l (.exit 2) ([(1, .pp 1 0), (3, .pv (.int .i64 ((k + 1 : Nat) : Int))), (4, .pp 2 0), (5, .pv (.int .i64 ((0 : Nat) : Int)))]) ([(1, 0, .pv (.int .i64 x)), (1, 1, .ls 0 l.length), (2, 0, .pv (.int .i64 p.id)), (2, 1, .pv (.int .i64 p.a)), (2, 2, .pv (.int .i64 p.b)), (0, 0, rowC l)]) ([(1, .pp 1 0), (3, .pv (.int .i64 ((k + 1 : Nat) : Int)))]) ([(1, 0, .pv (.int .i64 x)), (1, 1, .ls 0 l.length), (0, 0, rowC l)]), .r (.int .i64 (((k + 1 + 1 : Nat) : Int)))]
    (round_of (And.intro hlt (And.intro hin (And.intro (ra_pt hk) (And.intro hv (And.intro h1 (And.intro h2 (And.intro hz (And.intro hm (And.intro hin0 (And.intro (ra_id hq) (And.intro hg (And.intro (reflT (renN []) ([(1, .pp 1 0), (3, .pv (.int .i64 ((k + 1 : Nat) : Int))), (4, .pp 2 0), (5, .pv (.int .i64 ((0 : Nat) : Int)))])) (And.intro (reflH (renN []) ([(1, 0, .pv (.int .i64 x)), (1, 1, .ls 0 l.length), (2, 0, .pv (.int .i64 p.id)), (2, 1, .pv (.int .i64 p.a)), (2, 2, .pv (.int .i64 p.b)), (0, 0, rowC l)])) (And.intro r1 (And.intro hs True.intro))))))))))))))) (by kernel_rfl)) r

set_option maxRecDepth 100000 in
theorem rc8_s_two {l : List Pt} {k : Nat} {p q : Pt} {x : Int} (hk : l[k + 1]? = some p) (hin : 0 ≤ ((k + 1 : Nat) : Int) ∧ ((k + 1 : Nat) : Int) < (l.length : Int)) (hlt : decide (((k + 1 : Nat) : Int) < (l.length : Int)) = true) (hv : Pure Try.prog 34 #[certV p.a p.b] (.bool true)) (h1 : decide (p.id < 0) = false) (h2 : decide (p.id ≥ x) = false) (hz : decide (((k + 1 : Nat) : Int) > 0) = true) (hq : l[k]? = some q) (hin0 : 0 ≤ (k : Int) ∧ (k : Int) < (l.length : Int)) (hm : Value.int .i64 (IntKind.i64.wrap (((k + 1 : Nat) : Int) - 1)) = .int .i64 ((k : Int))) (hg : decide (q.id ≥ p.id) = false) (r1 : RunsL Try.prog 1 1 (loopOf Try.prog 24 1) 78 3 ([(1, .pp 1 0), (3, .pv (.int .i64 ((k + 1 : Nat) : Int))), (4, .pp 2 0), (5, .pv (.int .i64 ((0 : Nat) : Int)))]) ([(1, 0, .pv (.int .i64 x)), (1, 1, .ls 0 l.length), (2, 0, .pv (.int .i64 p.id)), (2, 1, .pv (.int .i64 p.a)), (2, 2, .pv (.int .i64 p.b)), (0, 0, rowC l)]) (.ret) ([(2, .pv (.int .i64 8))]) ([])) : RunsL Try.prog 1 1 (loopOf Try.prog 24 0) 78 2 ([(1, .pp 1 0), (3, .pv (.int .i64 ((k + 1 : Nat) : Int)))]) ([(1, 0, .pv (.int .i64 x)), (1, 1, .ls 0 l.length), (0, 0, rowC l)]) (.ret) ([(2, .pv (.int .i64 8))]) ([]) :=
  RunsL.stop [] 300 [.t true, .r (ptV p), .r (.bool true), .k, .t false, .t false, .t true, .r (.int .i64 ((k : Int))), .r (Value.int .i64 q.id), .t false, .l (.ret) ([(1, .pp 1 0), (3, .pv (.int .i64 ((k + 1 : Nat) : Int))), (4, .pp 2 0), (5, .pv (.int .i64 ((0 : Nat) : Int)))]) ([(1, 0, .pv (.int .i64 x)), (1, 1, .ls 0 l.length), (2, 0, .pv (.int .i64 p.id)), (2, 1, .pv (.int .i64 p.a)), (2, 2, .pv (.int .i64 p.b)), (0, 0, rowC l)]) ([(2, .pv (.int .i64 8))]) ([])] (fun h => by cases h)
    (round_of (And.intro hlt (And.intro hin (And.intro (ra_pt hk) (And.intro hv (And.intro h1 (And.intro h2 (And.intro hz (And.intro hm (And.intro hin0 (And.intro (ra_id hq) (And.intro hg (And.intro (reflT (renN []) ([(1, .pp 1 0), (3, .pv (.int .i64 ((k + 1 : Nat) : Int))), (4, .pp 2 0), (5, .pv (.int .i64 ((0 : Nat) : Int)))])) (And.intro (reflH (renN []) ([(1, 0, .pv (.int .i64 x)), (1, 1, .ls 0 l.length), (2, 0, .pv (.int .i64 p.id)), (2, 1, .pv (.int .i64 p.a)), (2, 2, .pv (.int .i64 p.b)), (0, 0, rowC l)])) (And.intro r1 True.intro)))))))))))))) (by kernel_rfl))

set_option maxRecDepth 100000 in
theorem rc8_end {l : List Pt} {k : Nat} {x : Int} (hge : decide ((k : Int) < (l.length : Int)) = false) : RunsL Try.prog 1 1 (loopOf Try.prog 24 0) 78 2 ([(1, .pp 1 0), (3, .pv (.int .i64 (k : Int)))]) ([(1, 0, .pv (.int .i64 x)), (1, 1, .ls 0 l.length), (0, 0, rowC l)]) (.exit 0) ([]) ([]) :=
  RunsL.stop [] 300 [.t false] (fun h => by cases h)
    (round_of (And.intro hge True.intro) (by kernel_rfl))

set_option maxRecDepth 100000 in
theorem rc8i_next {l : List Pt} {k j : Nat} {p q : Pt} {x : Int} (hq : l[j]? = some q) (hin : 0 ≤ (j : Int) ∧ (j : Int) < (l.length : Int)) (hlt : decide ((j : Int) < (k : Int)) = true) (he : (q.a == p.a && (q.b == p.b && true)) = false) (hs : Value.int .i64 (IntKind.i64.wrap ((j : Int) + 1)) = .int .i64 (((j + 1 : Nat) : Int))) {e : Exit} {tm2 : List (Nat × SV)} {hp2 : List (Nat × Nat × SV)}
    (r : RunsL Try.prog 1 1 (loopOf Try.prog 24 1) 78 3 ([(1, .pp 1 0), (3, .pv (.int .i64 (k : Int))), (4, .pp 2 0), (5, .pv (.int .i64 ((j + 1 : Nat) : Int)))]) ([(1, 0, .pv (.int .i64 x)), (1, 1, .ls 0 l.length), (2, 0, .pv (.int .i64 p.id)), (2, 1, .pv (.int .i64 p.a)), (2, 2, .pv (.int .i64 p.b)), (0, 0, rowC l)]) e tm2 hp2) : RunsL Try.prog 1 1 (loopOf Try.prog 24 1) 78 3 ([(1, .pp 1 0), (3, .pv (.int .i64 (k : Int))), (4, .pp 2 0), (5, .pv (.int .i64 (j : Int)))]) ([(1, 0, .pv (.int .i64 x)), (1, 1, .ls 0 l.length), (2, 0, .pv (.int .i64 p.id)), (2, 1, .pv (.int .i64 p.a)), (2, 2, .pv (.int .i64 p.b)), (0, 0, rowC l)]) e tm2 hp2 :=
  RunsL.next [] 300 [.t true, .r (certV q.a q.b), .t false, .r (.int .i64 (((j + 1 : Nat) : Int)))]
    (round_of (And.intro hlt (And.intro hin (And.intro (ra_ce hq) (And.intro he (And.intro hs True.intro))))) (by kernel_rfl)) r

set_option maxRecDepth 100000 in
theorem rc8i_hit {l : List Pt} {k j : Nat} {p q : Pt} {x : Int} (hq : l[j]? = some q) (hin : 0 ≤ (j : Int) ∧ (j : Int) < (l.length : Int)) (hlt : decide ((j : Int) < (k : Int)) = true) (he : (q.a == p.a && (q.b == p.b && true)) = true) : RunsL Try.prog 1 1 (loopOf Try.prog 24 1) 78 3 ([(1, .pp 1 0), (3, .pv (.int .i64 (k : Int))), (4, .pp 2 0), (5, .pv (.int .i64 (j : Int)))]) ([(1, 0, .pv (.int .i64 x)), (1, 1, .ls 0 l.length), (2, 0, .pv (.int .i64 p.id)), (2, 1, .pv (.int .i64 p.a)), (2, 2, .pv (.int .i64 p.b)), (0, 0, rowC l)]) (.ret) ([(2, .pv (.int .i64 8))]) ([]) :=
  RunsL.stop [] 300 [.t true, .r (certV q.a q.b), .t true] (fun h => by cases h)
    (round_of (And.intro hlt (And.intro hin (And.intro (ra_ce hq) (And.intro he True.intro)))) (by kernel_rfl))

set_option maxRecDepth 100000 in
theorem rc8i_end {l : List Pt} {k j : Nat} {p : Pt} {x : Int} (hge : decide ((j : Int) < (k : Int)) = false) : RunsL Try.prog 1 1 (loopOf Try.prog 24 1) 78 3 ([(1, .pp 1 0), (3, .pv (.int .i64 (k : Int))), (4, .pp 2 0), (5, .pv (.int .i64 (j : Int)))]) ([(1, 0, .pv (.int .i64 x)), (1, 1, .ls 0 l.length), (2, 0, .pv (.int .i64 p.id)), (2, 1, .pv (.int .i64 p.a)), (2, 2, .pv (.int .i64 p.b)), (0, 0, rowC l)]) (.exit 2) ([(1, .pp 1 0), (3, .pv (.int .i64 (k : Int)))]) ([(1, 0, .pv (.int .i64 x)), (1, 1, .ls 0 l.length), (0, 0, rowC l)]) :=
  RunsL.stop [] 300 [.t false] (fun h => by cases h)
    (round_of (And.intro hge True.intro) (by kernel_rfl))

set_option maxRecDepth 100000 in
theorem rc8_many {l : List Pt} {x : Int} (g1 : decide ((l.length : Int) > 200) = true) :
    FnL Try.prog 24 1 [crtS 0 x l] [(0, 0, rowC l)] (.pv (.int .i64 (8))) 0 [] :=
  fnl_run 300 [] [.t true]
     True.intro (And.intro g1 True.intro) (by kernel_rfl)

set_option maxRecDepth 100000 in
theorem rc8_neg {l : List Pt} {x : Int} (g1 : decide ((l.length : Int) > 200) = false) (g2 : decide (x < 0) = true) :
    FnL Try.prog 24 1 [crtS 0 x l] [(0, 0, rowC l)] (.pv (.int .i64 (8))) 0 [] :=
  fnl_run 300 [] [.t false, .t true]
     True.intro (And.intro g1 (And.intro g2 True.intro)) (by kernel_rfl)

set_option maxRecDepth 100000 in
theorem rc8_big {l : List Pt} {x : Int} (g1 : decide ((l.length : Int) > 200) = false) (g2 : decide (x < 0) = false) (g3 : decide (x > 1000000) = true) :
    FnL Try.prog 24 1 [crtS 0 x l] [(0, 0, rowC l)] (.pv (.int .i64 (8))) 0 [] :=
  fnl_run 300 [] [.t false, .t false, .t true]
     True.intro (And.intro g1 (And.intro g2 (And.intro g3 True.intro))) (by kernel_rfl)

set_option maxRecDepth 100000 in
theorem rc8_bad {l : List Pt} {x : Int} (g1 : decide ((l.length : Int) > 200) = false) (g2 : decide (x < 0) = false) (g3 : decide (x > 1000000) = false) (r0 : RunsL Try.prog 1 1 (loopOf Try.prog 24 0) 78 2 ([(1, .pp 1 0), (3, .pv (.int .i64 ((0 : Nat) : Int)))]) ([(1, 0, .pv (.int .i64 x)), (1, 1, .ls 0 l.length), (0, 0, rowC l)]) (.ret) ([(2, .pv (.int .i64 8))]) ([])) :
    FnL Try.prog 24 1 [crtS 0 x l] [(0, 0, rowC l)] (.pv (.int .i64 (8))) 0 [] :=
  fnl_run 300 [] [.t false, .t false, .t false, .l (.ret) ([(1, .pp 1 0), (3, .pv (.int .i64 ((0 : Nat) : Int)))]) ([(1, 0, .pv (.int .i64 x)), (1, 1, .ls 0 l.length), (0, 0, rowC l)]) ([(2, .pv (.int .i64 8))]) ([])]
     True.intro (And.intro g1 (And.intro g2 (And.intro g3 (And.intro (reflT (renN []) ([(1, .pp 1 0), (3, .pv (.int .i64 ((0 : Nat) : Int)))])) (And.intro (reflH (renN []) ([(1, 0, .pv (.int .i64 x)), (1, 1, .ls 0 l.length), (0, 0, rowC l)])) (And.intro r0 True.intro)))))) (by kernel_rfl)

set_option maxRecDepth 100000 in
theorem rc8_ok {l : List Pt} {x : Int} (g1 : decide ((l.length : Int) > 200) = false) (g2 : decide (x < 0) = false) (g3 : decide (x > 1000000) = false) (r0 : RunsL Try.prog 1 1 (loopOf Try.prog 24 0) 78 2 ([(1, .pp 1 0), (3, .pv (.int .i64 ((0 : Nat) : Int)))]) ([(1, 0, .pv (.int .i64 x)), (1, 1, .ls 0 l.length), (0, 0, rowC l)]) (.exit 0) ([]) ([])) :
    FnL Try.prog 24 1 [crtS 0 x l] [(0, 0, rowC l)] (.pv (.int .i64 (0))) 0 [] :=
  fnl_run 300 [] [.t false, .t false, .t false, .l (.exit 0) ([(1, .pp 1 0), (3, .pv (.int .i64 ((0 : Nat) : Int)))]) ([(1, 0, .pv (.int .i64 x)), (1, 1, .ls 0 l.length), (0, 0, rowC l)]) ([]) ([])]
     True.intro (And.intro g1 (And.intro g2 (And.intro g3 (And.intro (reflT (renN []) ([(1, .pp 1 0), (3, .pv (.int .i64 ((0 : Nat) : Int)))])) (And.intro (reflH (renN []) ([(1, 0, .pv (.int .i64 x)), (1, 1, .ls 0 l.length), (0, 0, rowC l)])) (And.intro r0 True.intro)))))) (by kernel_rfl)

end Go.Proofs.Ytjjmnoiffpnphaa
