/-
  Joined: Fb, Fd, Fe, Fc, Fq. Conditions: none.
-/
import Derived.Test.YtjjmnoiffpnphaaFa
import Derived.ProofKit
import Derived.OpenShut
import Derived.Lib.SmallJoins
import Derived.Deep.Slices
import Derived.Deep.Strs
import Derived.Deep.Fields
import Derived.Carry
namespace Go.Proofs.Ytjjmnoiffpnphaa
open Go.RowKit
set_option maxRecDepth 100000 in
theorem kc0_next {l : List Pt} {k : Nat} {p : Pt} (hk : l[k]? = some p) (hin : 0 ≤ (k : Int) ∧ (k : Int) < (l.length : Int)) (hlt : decide ((k : Int) < (l.length : Int)) = true) (hc : Pure Try.prog 74 #[pointV p.id p.a p.b] (.int .i64 (0))) (hs : Value.int .i64 (IntKind.i64.wrap ((k : Int) + 1)) = .int .i64 (((k + 1 : Nat) : Int))) {e : Exit} {tm2 : List (Nat × SV)} {hp2 : List (Nat × Nat × SV)}
    (r : RunsL Try.prog 1 1 (loopOf Try.prog 57 0) 44 2 ([(1, .pp 1 0), (3, .pv (.int .i64 ((k + 1 : Nat) : Int)))]) ([(1, 0, .ls 0 l.length), (0, 0, rowP l)]) e tm2 hp2) : RunsL Try.prog 1 1 (loopOf Try.prog 57 0) 44 2 ([(1, .pp 1 0), (3, .pv (.int .i64 (k : Int)))]) ([(1, 0, .ls 0 l.length), (0, 0, rowP l)]) e tm2 hp2 :=
  RunsL.next [] 300 [.t true, .r (ptV p), .r (.int .i64 (0)), .k, .r (.int .i64 (((k + 1 : Nat) : Int)))]
    (round_of (And.intro hlt (And.intro hin (And.intro (ra_pt hk) (And.intro hc (And.intro hs True.intro))))) (by kernel_rfl)) r

set_option maxRecDepth 100000 in
theorem kc0_bad {l : List Pt} {k : Nat} {p : Pt} (hk : l[k]? = some p) (hin : 0 ≤ (k : Int) ∧ (k : Int) < (l.length : Int)) (hlt : decide ((k : Int) < (l.length : Int)) = true) (hc : Pure Try.prog 74 #[pointV p.id p.a p.b] (.int .i64 (8))) : RunsL Try.prog 1 1 (loopOf Try.prog 57 0) 44 2 ([(1, .pp 1 0), (3, .pv (.int .i64 (k : Int)))]) ([(1, 0, .ls 0 l.length), (0, 0, rowP l)]) (.ret) ([(2, .pv (.int .i64 8))]) ([]) :=
  RunsL.stop [] 300 [.t true, .r (ptV p), .r (.int .i64 (8)), .k] (fun h => by cases h)
    (round_of (And.intro hlt (And.intro hin (And.intro (ra_pt hk) (And.intro hc True.intro)))) (by kernel_rfl))

set_option maxRecDepth 100000 in
theorem kc0_end {l : List Pt} {k : Nat} (hge : decide ((k : Int) < (l.length : Int)) = false) : RunsL Try.prog 1 1 (loopOf Try.prog 57 0) 44 2 ([(1, .pp 1 0), (3, .pv (.int .i64 (k : Int)))]) ([(1, 0, .ls 0 l.length), (0, 0, rowP l)]) (.exit 0) ([(1, .pp 1 0)]) ([(1, 0, .ls 0 l.length), (0, 0, rowP l)]) :=
  RunsL.stop [] 300 [.t false] (fun h => by cases h)
    (round_of (And.intro hge True.intro) (by kernel_rfl))

set_option maxRecDepth 100000 in
theorem kc1_next {l : List Pt} {k : Nat} {p q : Pt} (hq : l[k]? = some q) (hk : l[k + 1]? = some p) (hi0 : 0 ≤ (k : Int) ∧ (k : Int) < (l.length : Int)) (hi1 : 0 ≤ ((k + 1 : Nat) : Int) ∧ ((k + 1 : Nat) : Int) < (l.length : Int)) (hlt : decide (((k + 1 : Nat) : Int) < (l.length : Int)) = true) (hm : Value.int .i64 (IntKind.i64.wrap (((k + 1 : Nat) : Int) - 1)) = .int .i64 ((k : Int))) (hg : decide (q.id ≥ p.id) = false) (hs : Value.int .i64 (IntKind.i64.wrap (((k + 1 : Nat) : Int) + 1)) = .int .i64 (((k + 1 + 1 : Nat) : Int))) {e : Exit} {tm2 : List (Nat × SV)} {hp2 : List (Nat × Nat × SV)}
    (r : RunsL Try.prog 1 1 (loopOf Try.prog 57 1) 44 2 ([(1, .pp 1 0), (4, .pv (.int .i64 ((k + 1 + 1 : Nat) : Int)))]) ([(1, 0, .ls 0 l.length), (0, 0, rowP l)]) e tm2 hp2) : RunsL Try.prog 1 1 (loopOf Try.prog 57 1) 44 2 ([(1, .pp 1 0), (4, .pv (.int .i64 ((k + 1 : Nat) : Int)))]) ([(1, 0, .ls 0 l.length), (0, 0, rowP l)]) e tm2 hp2 :=
  RunsL.next [] 300 [.t true, .r (.int .i64 ((k : Int))), .r (Value.int .i64 q.id), .r (Value.int .i64 p.id), .t false, .r (.int .i64 (((k + 1 + 1 : Nat) : Int)))]
    (round_of (And.intro hlt (And.intro hm (And.intro hi0 (And.intro (ra_id hq) (And.intro hi1 (And.intro (ra_id hk) (And.intro hg (And.intro hs True.intro)))))))) (by kernel_rfl)) r

set_option maxRecDepth 100000 in
theorem kc1_bad {l : List Pt} {k : Nat} {p q : Pt} (hq : l[k]? = some q) (hk : l[k + 1]? = some p) (hi0 : 0 ≤ (k : Int) ∧ (k : Int) < (l.length : Int)) (hi1 : 0 ≤ ((k + 1 : Nat) : Int) ∧ ((k + 1 : Nat) : Int) < (l.length : Int)) (hlt : decide (((k + 1 : Nat) : Int) < (l.length : Int)) = true) (hm : Value.int .i64 (IntKind.i64.wrap (((k + 1 : Nat) : Int) - 1)) = .int .i64 ((k : Int))) (hg : decide (q.id ≥ p.id) = true) : RunsL Try.prog 1 1 (loopOf Try.prog 57 1) 44 2 ([(1, .pp 1 0), (4, .pv (.int .i64 ((k + 1 : Nat) : Int)))]) ([(1, 0, .ls 0 l.length), (0, 0, rowP l)]) (.ret) ([(2, .pv (.int .i64 32))]) ([]) :=
  RunsL.stop [] 300 [.t true, .r (.int .i64 ((k : Int))), .r (Value.int .i64 q.id), .r (Value.int .i64 p.id), .t true] (fun h => by cases h)
    (round_of (And.intro hlt (And.intro hm (And.intro hi0 (And.intro (ra_id hq) (And.intro hi1 (And.intro (ra_id hk) (And.intro hg True.intro))))))) (by kernel_rfl))

set_option maxRecDepth 100000 in
theorem kc1_end {l : List Pt} {k : Nat} (hge : decide (((k : Nat) : Int) < (l.length : Int)) = false) : RunsL Try.prog 1 1 (loopOf Try.prog 57 1) 44 2 ([(1, .pp 1 0), (4, .pv (.int .i64 ((k : Nat) : Int)))]) ([(1, 0, .ls 0 l.length), (0, 0, rowP l)]) (.exit 2) ([]) ([]) :=
  RunsL.stop [] 300 [.t false] (fun h => by cases h)
    (round_of (And.intro hge True.intro) (by kernel_rfl))

set_option maxRecDepth 100000 in
theorem kc_many {l : List Pt} (h64 : decide ((l.length : Int) > 64) = true) :
    FnL Try.prog 57 1 [fldS 0 l] [(0, 0, rowP l)] (.pv (.int .i64 4)) 0 [] :=
  fnl_run 300 [] [.t true]
     True.intro (And.intro h64 True.intro) (by kernel_rfl)

set_option maxRecDepth 100000 in
theorem kc_bad {l : List Pt} (h64 : decide ((l.length : Int) > 64) = false) (r0 : RunsL Try.prog 1 1 (loopOf Try.prog 57 0) 44 2 ([(1, .pp 1 0), (3, .pv (.int .i64 (((0 : Nat) : Int) : Int)))]) ([(1, 0, .ls 0 l.length), (0, 0, rowP l)]) (.ret) ([(2, .pv (.int .i64 8))]) ([])) :
    FnL Try.prog 57 1 [fldS 0 l] [(0, 0, rowP l)] (.pv (.int .i64 8)) 0 [] :=
  fnl_run 300 [] [.t false, .l (.ret) ([(1, .pp 1 0), (3, .pv (.int .i64 (((0 : Nat) : Int) : Int)))]) ([(1, 0, .ls 0 l.length), (0, 0, rowP l)]) ([(2, .pv (.int .i64 8))]) ([])]
     True.intro (And.intro h64 (And.intro (reflT (renN []) ([(1, .pp 1 0), (3, .pv (.int .i64 (((0 : Nat) : Int) : Int)))])) (And.intro (reflH (renN []) ([(1, 0, .ls 0 l.length), (0, 0, rowP l)])) (And.intro r0 True.intro)))) (by kernel_rfl)

set_option maxRecDepth 100000 in
theorem kc_ord {l : List Pt} (h64 : decide ((l.length : Int) > 64) = false) (r0 : RunsL Try.prog 1 1 (loopOf Try.prog 57 0) 44 2 ([(1, .pp 1 0), (3, .pv (.int .i64 (((0 : Nat) : Int) : Int)))]) ([(1, 0, .ls 0 l.length), (0, 0, rowP l)]) (.exit 0) ([(1, .pp 1 0)]) ([(1, 0, .ls 0 l.length), (0, 0, rowP l)])) (r1 : RunsL Try.prog 1 1 (loopOf Try.prog 57 1) 44 2 ([(1, .pp 1 0), (4, .pv (.int .i64 (((0 + 1 : Nat) : Int) : Int)))]) ([(1, 0, .ls 0 l.length), (0, 0, rowP l)]) (.ret) ([(2, .pv (.int .i64 32))]) ([])) :
    FnL Try.prog 57 1 [fldS 0 l] [(0, 0, rowP l)] (.pv (.int .i64 32)) 0 [] :=
  fnl_run 300 [] [.t false, .l (.exit 0) ([(1, .pp 1 0), (3, .pv (.int .i64 (((0 : Nat) : Int) : Int)))]) ([(1, 0, .ls 0 l.length), (0, 0, rowP l)]) ([(1, .pp 1 0)]) ([(1, 0, .ls 0 l.length), (0, 0, rowP l)]), .l (.ret) ([(1, .pp 1 0), (4, .pv (.int .i64 (((0 + 1 : Nat) : Int) : Int)))]) ([(1, 0, .ls 0 l.length), (0, 0, rowP l)]) ([(2, .pv (.int .i64 32))]) ([])]
     True.intro (And.intro h64 (And.intro (reflT (renN []) ([(1, .pp 1 0), (3, .pv (.int .i64 (((0 : Nat) : Int) : Int)))])) (And.intro (reflH (renN []) ([(1, 0, .ls 0 l.length), (0, 0, rowP l)])) (And.intro r0 (And.intro (reflT (renN []) ([(1, .pp 1 0), (4, .pv (.int .i64 (((0 + 1 : Nat) : Int) : Int)))])) (And.intro (reflH (renN []) ([(1, 0, .ls 0 l.length), (0, 0, rowP l)])) (And.intro r1 True.intro))))))) (by kernel_rfl)

set_option maxRecDepth 100000 in
theorem kc_ok {l : List Pt} (h64 : decide ((l.length : Int) > 64) = false) (r0 : RunsL Try.prog 1 1 (loopOf Try.prog 57 0) 44 2 ([(1, .pp 1 0), (3, .pv (.int .i64 (((0 : Nat) : Int) : Int)))]) ([(1, 0, .ls 0 l.length), (0, 0, rowP l)]) (.exit 0) ([(1, .pp 1 0)]) ([(1, 0, .ls 0 l.length), (0, 0, rowP l)])) (r1 : RunsL Try.prog 1 1 (loopOf Try.prog 57 1) 44 2 ([(1, .pp 1 0), (4, .pv (.int .i64 (((0 + 1 : Nat) : Int) : Int)))]) ([(1, 0, .ls 0 l.length), (0, 0, rowP l)]) (.exit 2) ([]) ([])) :
    FnL Try.prog 57 1 [fldS 0 l] [(0, 0, rowP l)] (.pv (.int .i64 0)) 0 [] :=
  fnl_run 300 [] [.t false, .l (.exit 0) ([(1, .pp 1 0), (3, .pv (.int .i64 (((0 : Nat) : Int) : Int)))]) ([(1, 0, .ls 0 l.length), (0, 0, rowP l)]) ([(1, .pp 1 0)]) ([(1, 0, .ls 0 l.length), (0, 0, rowP l)]), .l (.exit 2) ([(1, .pp 1 0), (4, .pv (.int .i64 (((0 + 1 : Nat) : Int) : Int)))]) ([(1, 0, .ls 0 l.length), (0, 0, rowP l)]) ([]) ([])]
     True.intro (And.intro h64 (And.intro (reflT (renN []) ([(1, .pp 1 0), (3, .pv (.int .i64 (((0 : Nat) : Int) : Int)))])) (And.intro (reflH (renN []) ([(1, 0, .ls 0 l.length), (0, 0, rowP l)])) (And.intro r0 (And.intro (reflT (renN []) ([(1, .pp 1 0), (4, .pv (.int .i64 (((0 + 1 : Nat) : Int) : Int)))])) (And.intro (reflH (renN []) ([(1, 0, .ls 0 l.length), (0, 0, rowP l)])) (And.intro r1 True.intro))))))) (by kernel_rfl)

end Go.Proofs.Ytjjmnoiffpnphaa

namespace Go.Proofs.Ytjjmnoiffpnphaa
open Go.RowKit
set_option maxRecDepth 100000 in
theorem at_next {l : List Pt} {k : Nat} {p : Pt} {id : Int} (hk : l[k]? = some p) (hin : 0 ≤ (k : Int) ∧ (k : Int) < (l.length : Int)) (hlt : decide ((k : Int) < (l.length : Int)) = true) (he : (p.id == id) = false) (hs : Value.int .i64 (IntKind.i64.wrap ((k : Int) + 1)) = .int .i64 (((k + 1 : Nat) : Int))) {e : Exit} {tm2 : List (Nat × SV)} {hp2 : List (Nat × Nat × SV)}
    (r : RunsL Try.prog 1 1 (loopOf Try.prog 37 0) 22 2 ([(1, .pv (.int .i64 id)), (2, .pp 1 0), (5, .pv (.int .i64 ((k + 1 : Nat) : Int)))]) ([(1, 0, .ls 0 l.length), (0, 0, rowP l)]) e tm2 hp2) : RunsL Try.prog 1 1 (loopOf Try.prog 37 0) 22 2 ([(1, .pv (.int .i64 id)), (2, .pp 1 0), (5, .pv (.int .i64 (k : Int)))]) ([(1, 0, .ls 0 l.length), (0, 0, rowP l)]) e tm2 hp2 :=
  RunsL.next [] 300 [.t true, .r (Value.int .i64 p.id), .t false, .r (.int .i64 (((k + 1 : Nat) : Int)))]
    (round_of (And.intro hlt (And.intro hin (And.intro (ra_id hk) (And.intro he (And.intro hs True.intro))))) (by kernel_rfl)) r

set_option maxRecDepth 100000 in
theorem at_hit {l : List Pt} {k : Nat} {p : Pt} {id : Int} (hk : l[k]? = some p) (hin : 0 ≤ (k : Int) ∧ (k : Int) < (l.length : Int)) (hlt : decide ((k : Int) < (l.length : Int)) = true) (he : (p.id == id) = true) : RunsL Try.prog 1 1 (loopOf Try.prog 37 0) 22 2 ([(1, .pv (.int .i64 id)), (2, .pp 1 0), (5, .pv (.int .i64 (k : Int)))]) ([(1, 0, .ls 0 l.length), (0, 0, rowP l)]) (.ret) ([(4, .pv (.int .i64 (k : Int)))]) ([]) :=
  RunsL.stop [] 300 [.t true, .r (Value.int .i64 p.id), .t true] (fun h => by cases h)
    (round_of (And.intro hlt (And.intro hin (And.intro (ra_id hk) (And.intro he True.intro)))) (by kernel_rfl))

set_option maxRecDepth 100000 in
theorem at_end {l : List Pt} {k : Nat} {id : Int} (hge : decide ((k : Int) < (l.length : Int)) = false) : RunsL Try.prog 1 1 (loopOf Try.prog 37 0) 22 2 ([(1, .pv (.int .i64 id)), (2, .pp 1 0), (5, .pv (.int .i64 (k : Int)))]) ([(1, 0, .ls 0 l.length), (0, 0, rowP l)]) (.exit 0) ([]) ([]) :=
  RunsL.stop [] 300 [.t false] (fun h => by cases h)
    (round_of (And.intro hge True.intro) (by kernel_rfl))

set_option maxRecDepth 100000 in
theorem at_no {l : List Pt} {id : Int} (r0 : RunsL Try.prog 1 1 (loopOf Try.prog 37 0) 22 2 ([(1, .pv (.int .i64 id)), (2, .pp 1 0), (5, .pv (.int .i64 ((0 : Nat) : Int)))]) ([(1, 0, .ls 0 l.length), (0, 0, rowP l)]) (.exit 0) ([]) ([])) :
    FnL Try.prog 37 1 [fldS 0 l, .pv (.int .i64 (id))] [(0, 0, rowP l)] (.pv (.int .i64 (-1))) 0 [] :=
  fnl_run 300 [] [.l (.exit 0) ([(1, .pv (.int .i64 id)), (2, .pp 1 0), (5, .pv (.int .i64 ((0 : Nat) : Int)))]) ([(1, 0, .ls 0 l.length), (0, 0, rowP l)]) ([]) ([])]
     True.intro (And.intro (reflT (renN []) ([(1, .pv (.int .i64 id)), (2, .pp 1 0), (5, .pv (.int .i64 ((0 : Nat) : Int)))])) (And.intro (reflH (renN []) ([(1, 0, .ls 0 l.length), (0, 0, rowP l)])) (And.intro r0 True.intro))) (by kernel_rfl)

set_option maxRecDepth 100000 in
theorem at_yes {l : List Pt} {k : Nat} {id : Int} (r0 : RunsL Try.prog 1 1 (loopOf Try.prog 37 0) 22 2 ([(1, .pv (.int .i64 id)), (2, .pp 1 0), (5, .pv (.int .i64 ((0 : Nat) : Int)))]) ([(1, 0, .ls 0 l.length), (0, 0, rowP l)]) (.ret) ([(4, .pv (.int .i64 (k : Int)))]) ([])) :
    FnL Try.prog 37 1 [fldS 0 l, .pv (.int .i64 (id))] [(0, 0, rowP l)] (.pv (.int .i64 ((k : Int)))) 0 [] :=
  fnl_run 300 [] [.l (.ret) ([(1, .pv (.int .i64 id)), (2, .pp 1 0), (5, .pv (.int .i64 ((0 : Nat) : Int)))]) ([(1, 0, .ls 0 l.length), (0, 0, rowP l)]) ([(4, .pv (.int .i64 (k : Int)))]) ([])]
     True.intro (And.intro (reflT (renN []) ([(1, .pv (.int .i64 id)), (2, .pp 1 0), (5, .pv (.int .i64 ((0 : Nat) : Int)))])) (And.intro (reflH (renN []) ([(1, 0, .ls 0 l.length), (0, 0, rowP l)])) (And.intro r0 True.intro))) (by kernel_rfl)

set_option maxRecDepth 100000 in
theorem tmd_err {l : List Pt} {tn td : Int} {e : Int} (hc : FnL Try.prog 57 1 [fldS 0 l] [(0, 0, rowP l)] (.pv (.int .i64 (e))) 0 []) (he : (e != 0) = true) :
    FnL Try.prog 36 1 [fldS 0 l, .pv (ratioV tn td)] [(0, 0, rowP l)] (.pv (.int .i64 (e))) 0 [] :=
  fnl_run 300 [] [.f [0] [fldS 0 l] [(0, 0, rowP l)] (.pv (.int .i64 (e))) 0 [], .t true]
     True.intro (And.intro hc (And.intro (Eq.refl (List.map (SV.ren (renU [0] 3)) [fldS 0 l])) (And.intro (reflH (renU [0] 3) [(0, 0, rowP l)]) (And.intro he True.intro)))) (by kernel_rfl)

set_option maxRecDepth 100000 in
theorem tmd_ok {l : List Pt} {tn td : Int} {e : Int} (hc : FnL Try.prog 57 1 [fldS 0 l] [(0, 0, rowP l)] (.pv (.int .i64 (0))) 0 []) (ht : Pure Try.prog 58 #[ratioV tn td] (.int .i64 (e))) :
    FnL Try.prog 36 1 [fldS 0 l, .pv (ratioV tn td)] [(0, 0, rowP l)] (.pv (.int .i64 (e))) 0 [] :=
  fnl_run 300 [] [.f [0] [fldS 0 l] [(0, 0, rowP l)] (.pv (.int .i64 (0))) 0 [], .k, .r (.int .i64 (e))]
     True.intro (And.intro hc (And.intro (Eq.refl (List.map (SV.ren (renU [0] 3)) [fldS 0 l])) (And.intro (reflH (renU [0] 3) [(0, 0, rowP l)]) (And.intro ht True.intro)))) (by kernel_rfl)

end Go.Proofs.Ytjjmnoiffpnphaa

namespace Go.Proofs.Ytjjmnoiffpnphaa
open Go.RowKit
set_option maxRecDepth 100000 in
theorem twin_path {l : List Pt} (hn : 0 + l.length ≤ 1000000) :
    FnL Try.prog 29 1 [fldS 0 l] [(0, 0, rowP l)] (.ag [.ls 1 l.length]) 1 [(1, 0, rowP l)] :=
  fnl_runX 300 [(1, 4)] []
    (twin_x l) (And.intro (twin_row l) True.intro) (And.intro hn True.intro) (by kernel_rfl)

set_option maxRecDepth 100000 in
theorem same_next {l m : List Pt} {k : Nat} {p q : Pt} (hk : l[k]? = some p) (hin : 0 ≤ (k : Int) ∧ (k : Int) < (l.length : Int)) (hq : m[k]? = some q) (hin2 : 0 ≤ (k : Int) ∧ (k : Int) < (m.length : Int)) (hlt : decide ((k : Int) < (l.length : Int)) = true) (hne : (!(p.id == q.id && (p.a == q.a && (p.b == q.b && true)))) = false) (hs : Value.int .i64 (IntKind.i64.wrap ((k : Int) + 1)) = .int .i64 (((k + 1 : Nat) : Int))) {e : Exit} {tm2 : List (Nat × SV)} {hp2 : List (Nat × Nat × SV)}
    (r : RunsL Try.prog 2 2 (loopOf Try.prog 31 0) 31 4 ([(2, .pp 2 0), (3, .pp 3 0), (5, .pv (.int .i64 ((k + 1 : Nat) : Int)))]) ([(2, 0, .ls 0 l.length), (3, 0, .ls 1 m.length), (0, 0, rowP l), (1, 0, rowP m)]) e tm2 hp2) : RunsL Try.prog 2 2 (loopOf Try.prog 31 0) 31 4 ([(2, .pp 2 0), (3, .pp 3 0), (5, .pv (.int .i64 (k : Int)))]) ([(2, 0, .ls 0 l.length), (3, 0, .ls 1 m.length), (0, 0, rowP l), (1, 0, rowP m)]) e tm2 hp2 :=
  RunsL.next [] 300 [.t true, .r (ptV p), .r (ptV q), .t false, .r (.int .i64 (((k + 1 : Nat) : Int)))]
    (round_of (And.intro hlt (And.intro hin (And.intro (ra_pt hk) (And.intro hin2 (And.intro (ra_pt hq) (And.intro hne (And.intro hs True.intro))))))) (by kernel_rfl)) r

set_option maxRecDepth 100000 in
theorem same_end {l m : List Pt} {k : Nat} (hge : decide ((k : Int) < (l.length : Int)) = false) : RunsL Try.prog 2 2 (loopOf Try.prog 31 0) 31 4 ([(2, .pp 2 0), (3, .pp 3 0), (5, .pv (.int .i64 (k : Int)))]) ([(2, 0, .ls 0 l.length), (3, 0, .ls 1 m.length), (0, 0, rowP l), (1, 0, rowP m)]) (.exit 0) ([]) ([]) :=
  RunsL.stop [] 300 [.t false] (fun h => by cases h)
    (round_of (And.intro hge True.intro) (by kernel_rfl))

set_option maxRecDepth 100000 in
theorem same_yes {l m : List Pt} (hl : (!((l.length : Int) == (m.length : Int))) = false) (r0 : RunsL Try.prog 2 2 (loopOf Try.prog 31 0) 31 4 ([(2, .pp 2 0), (3, .pp 3 0), (5, .pv (.int .i64 ((0 : Nat) : Int)))]) ([(2, 0, .ls 0 l.length), (3, 0, .ls 1 m.length), (0, 0, rowP l), (1, 0, rowP m)]) (.exit 0) ([]) ([])) :
    FnL Try.prog 31 2 [fldS 0 l, fldS 1 m] [(0, 0, rowP l), (1, 0, rowP m)] (.pv (.bool true)) 0 [] :=
  fnl_run 300 [] [.t false, .l (.exit 0) ([(2, .pp 2 0), (3, .pp 3 0), (5, .pv (.int .i64 ((0 : Nat) : Int)))]) ([(2, 0, .ls 0 l.length), (3, 0, .ls 1 m.length), (0, 0, rowP l), (1, 0, rowP m)]) ([]) ([])]
     True.intro (And.intro hl (And.intro (reflT (renN []) ([(2, .pp 2 0), (3, .pp 3 0), (5, .pv (.int .i64 ((0 : Nat) : Int)))])) (And.intro (reflH (renN []) ([(2, 0, .ls 0 l.length), (3, 0, .ls 1 m.length), (0, 0, rowP l), (1, 0, rowP m)])) (And.intro r0 True.intro)))) (by kernel_rfl)

set_option maxRecDepth 100000 in
theorem sid_next {l m : List Int} {k : Nat} {x y : Int} (hk : l[k]? = some x) (hin : 0 ≤ (k : Int) ∧ (k : Int) < (l.length : Int)) (hq : m[k]? = some y) (hin2 : 0 ≤ (k : Int) ∧ (k : Int) < (m.length : Int)) (hlt : decide ((k : Int) < (l.length : Int)) = true) (hne : (!(x == y)) = false) (hs : Value.int .i64 (IntKind.i64.wrap ((k : Int) + 1)) = .int .i64 (((k + 1 : Nat) : Int))) {e : Exit} {tm2 : List (Nat × SV)} {hp2 : List (Nat × Nat × SV)}
    (r : RunsL Try.prog 2 2 (loopOf Try.prog 27 0) 26 2 ([(0, .ls 0 l.length), (1, .ls 1 m.length), (5, .pv (.int .i64 ((k + 1 : Nat) : Int)))]) ([(0, 0, rowI l), (1, 0, rowI m)]) e tm2 hp2) : RunsL Try.prog 2 2 (loopOf Try.prog 27 0) 26 2 ([(0, .ls 0 l.length), (1, .ls 1 m.length), (5, .pv (.int .i64 (k : Int)))]) ([(0, 0, rowI l), (1, 0, rowI m)]) e tm2 hp2 :=
  RunsL.next [] 300 [.t true, .r (Value.int .i64 x), .r (Value.int .i64 y), .t false, .r (.int .i64 (((k + 1 : Nat) : Int)))]
    (round_of (And.intro hlt (And.intro hin (And.intro (ra_int hk) (And.intro hin2 (And.intro (ra_int hq) (And.intro hne (And.intro hs True.intro))))))) (by kernel_rfl)) r

set_option maxRecDepth 100000 in
theorem sid_end {l m : List Int} {k : Nat} (hge : decide ((k : Int) < (l.length : Int)) = false) : RunsL Try.prog 2 2 (loopOf Try.prog 27 0) 26 2 ([(0, .ls 0 l.length), (1, .ls 1 m.length), (5, .pv (.int .i64 (k : Int)))]) ([(0, 0, rowI l), (1, 0, rowI m)]) (.exit 0) ([]) ([]) :=
  RunsL.stop [] 300 [.t false] (fun h => by cases h)
    (round_of (And.intro hge True.intro) (by kernel_rfl))

set_option maxRecDepth 100000 in
theorem sid_yes {l m : List Int} (hl : (!((l.length : Int) == (m.length : Int))) = false) (r0 : RunsL Try.prog 2 2 (loopOf Try.prog 27 0) 26 2 ([(0, .ls 0 l.length), (1, .ls 1 m.length), (5, .pv (.int .i64 ((0 : Nat) : Int)))]) ([(0, 0, rowI l), (1, 0, rowI m)]) (.exit 0) ([]) ([])) :
    FnL Try.prog 27 2 [.ls 0 l.length, .ls 1 m.length] [(0, 0, rowI l), (1, 0, rowI m)] (.pv (.bool true)) 0 [] :=
  fnl_run 300 [] [.t false, .l (.exit 0) ([(0, .ls 0 l.length), (1, .ls 1 m.length), (5, .pv (.int .i64 ((0 : Nat) : Int)))]) ([(0, 0, rowI l), (1, 0, rowI m)]) ([]) ([])]
     True.intro (And.intro hl (And.intro (reflT (renN []) ([(0, .ls 0 l.length), (1, .ls 1 m.length), (5, .pv (.int .i64 ((0 : Nat) : Int)))])) (And.intro (reflH (renN []) ([(0, 0, rowI l), (1, 0, rowI m)])) (And.intro r0 True.intro)))) (by kernel_rfl)

end Go.Proofs.Ytjjmnoiffpnphaa

namespace Go.Proofs.Ytjjmnoiffpnphaa
open Go.RowKit
set_option maxRecDepth 100000 in
theorem pc0_next {l : List Pt} {k : Nat} {p : Pt} (hk : l[k]? = some p) (hin : 0 ≤ (k : Int) ∧ (k : Int) < (l.length : Int)) (hlt : decide ((k : Int) < (l.length : Int)) = true) (hc : Pure Try.prog 60 #[pointV p.id p.a p.b] (.int .i64 (0))) (hs : Value.int .i64 (IntKind.i64.wrap ((k : Int) + 1)) = .int .i64 (((k + 1 : Nat) : Int))) {e : Exit} {tm2 : List (Nat × SV)} {hp2 : List (Nat × Nat × SV)}
    (r : RunsL Try.prog 1 1 (loopOf Try.prog 46 0) 45 2 ([(1, .pp 1 0), (12, .ls 0 l.length), (13, .pv (.int .i64 (l.length : Int))), (14, .pv (.int .i64 ((k + 1 : Nat) : Int)))]) ([(1, 0, .ls 0 l.length), (0, 0, rowP l)]) e tm2 hp2) : RunsL Try.prog 1 1 (loopOf Try.prog 46 0) 45 2 ([(1, .pp 1 0), (12, .ls 0 l.length), (13, .pv (.int .i64 (l.length : Int))), (14, .pv (.int .i64 (k : Int)))]) ([(1, 0, .ls 0 l.length), (0, 0, rowP l)]) e tm2 hp2 :=
  RunsL.next [] 300 [.t true, .r (ptV p), .r (.int .i64 (0)), .k, .r (.int .i64 (((k + 1 : Nat) : Int)))]
    (round_of (And.intro hlt (And.intro hin (And.intro (ra_pt hk) (And.intro hc (And.intro hs True.intro))))) (by kernel_rfl)) r

set_option maxRecDepth 100000 in
theorem pc0_bad {l : List Pt} {k : Nat} {p : Pt} (hk : l[k]? = some p) (hin : 0 ≤ (k : Int) ∧ (k : Int) < (l.length : Int)) (hlt : decide ((k : Int) < (l.length : Int)) = true) (hc : Pure Try.prog 60 #[pointV p.id p.a p.b] (.int .i64 (8))) : RunsL Try.prog 1 1 (loopOf Try.prog 46 0) 45 2 ([(1, .pp 1 0), (12, .ls 0 l.length), (13, .pv (.int .i64 (l.length : Int))), (14, .pv (.int .i64 (k : Int)))]) ([(1, 0, .ls 0 l.length), (0, 0, rowP l)]) (.ret) ([(2, .pv (.int .i64 8))]) ([]) :=
  RunsL.stop [] 300 [.t true, .r (ptV p), .r (.int .i64 (8)), .k] (fun h => by cases h)
    (round_of (And.intro hlt (And.intro hin (And.intro (ra_pt hk) (And.intro hc True.intro)))) (by kernel_rfl))

set_option maxRecDepth 100000 in
theorem pc0_end {l : List Pt} {k : Nat} (hge : decide ((k : Int) < (l.length : Int)) = false) : RunsL Try.prog 1 1 (loopOf Try.prog 46 0) 45 2 ([(1, .pp 1 0), (12, .ls 0 l.length), (13, .pv (.int .i64 (l.length : Int))), (14, .pv (.int .i64 (k : Int)))]) ([(1, 0, .ls 0 l.length), (0, 0, rowP l)]) (.exit 0) ([(1, .pp 1 0)]) ([(1, 0, .ls 0 l.length), (0, 0, rowP l)]) :=
  RunsL.stop [] 300 [.t false] (fun h => by cases h)
    (round_of (And.intro hge True.intro) (by kernel_rfl))

set_option maxRecDepth 100000 in
theorem pc1_next {l : List Pt} {k : Nat} {p q : Pt} (hq : l[k]? = some q) (hk : l[k + 1]? = some p) (hi0 : 0 ≤ (k : Int) ∧ (k : Int) < (l.length : Int)) (hi1 : 0 ≤ ((k + 1 : Nat) : Int) ∧ ((k + 1 : Nat) : Int) < (l.length : Int)) (hlt : decide (((k + 1 : Nat) : Int) < (l.length : Int)) = true) (hm : Value.int .i64 (IntKind.i64.wrap (((k + 1 : Nat) : Int) - 1)) = .int .i64 ((k : Int))) (hg : decide (q.id ≥ p.id) = false) (hs : Value.int .i64 (IntKind.i64.wrap (((k + 1 : Nat) : Int) + 1)) = .int .i64 (((k + 1 + 1 : Nat) : Int))) {e : Exit} {tm2 : List (Nat × SV)} {hp2 : List (Nat × Nat × SV)}
    (r : RunsL Try.prog 1 1 (loopOf Try.prog 46 1) 45 2 ([(1, .pp 1 0), (6, .pv (.int .i64 ((k + 1 + 1 : Nat) : Int)))]) ([(1, 0, .ls 0 l.length), (0, 0, rowP l)]) e tm2 hp2) : RunsL Try.prog 1 1 (loopOf Try.prog 46 1) 45 2 ([(1, .pp 1 0), (6, .pv (.int .i64 ((k + 1 : Nat) : Int)))]) ([(1, 0, .ls 0 l.length), (0, 0, rowP l)]) e tm2 hp2 :=
  RunsL.next [] 300 [.t true, .r (.int .i64 ((k : Int))), .r (Value.int .i64 q.id), .r (Value.int .i64 p.id), .t false, .r (.int .i64 (((k + 1 + 1 : Nat) : Int)))]
    (round_of (And.intro hlt (And.intro hm (And.intro hi0 (And.intro (ra_id hq) (And.intro hi1 (And.intro (ra_id hk) (And.intro hg (And.intro hs True.intro)))))))) (by kernel_rfl)) r

set_option maxRecDepth 100000 in
theorem pc1_bad {l : List Pt} {k : Nat} {p q : Pt} (hq : l[k]? = some q) (hk : l[k + 1]? = some p) (hi0 : 0 ≤ (k : Int) ∧ (k : Int) < (l.length : Int)) (hi1 : 0 ≤ ((k + 1 : Nat) : Int) ∧ ((k + 1 : Nat) : Int) < (l.length : Int)) (hlt : decide (((k + 1 : Nat) : Int) < (l.length : Int)) = true) (hm : Value.int .i64 (IntKind.i64.wrap (((k + 1 : Nat) : Int) - 1)) = .int .i64 ((k : Int))) (hg : decide (q.id ≥ p.id) = true) : RunsL Try.prog 1 1 (loopOf Try.prog 46 1) 45 2 ([(1, .pp 1 0), (6, .pv (.int .i64 ((k + 1 : Nat) : Int)))]) ([(1, 0, .ls 0 l.length), (0, 0, rowP l)]) (.ret) ([(2, .pv (.int .i64 32))]) ([]) :=
  RunsL.stop [] 300 [.t true, .r (.int .i64 ((k : Int))), .r (Value.int .i64 q.id), .r (Value.int .i64 p.id), .t true] (fun h => by cases h)
    (round_of (And.intro hlt (And.intro hm (And.intro hi0 (And.intro (ra_id hq) (And.intro hi1 (And.intro (ra_id hk) (And.intro hg True.intro))))))) (by kernel_rfl))

set_option maxRecDepth 100000 in
theorem pc1_end {l : List Pt} {k : Nat} (hge : decide ((k : Int) < (l.length : Int)) = false) : RunsL Try.prog 1 1 (loopOf Try.prog 46 1) 45 2 ([(1, .pp 1 0), (6, .pv (.int .i64 ((k : Nat) : Int)))]) ([(1, 0, .ls 0 l.length), (0, 0, rowP l)]) (.exit 2) ([]) ([]) :=
  RunsL.stop [] 300 [.t false] (fun h => by cases h)
    (round_of (And.intro hge True.intro) (by kernel_rfl))

set_option maxRecDepth 100000 in
theorem pc_many {l : List Pt} (h64 : decide ((l.length : Int) > 64) = true) :
    FnL Try.prog 46 1 [fldS 0 l] [(0, 0, rowP l)] (.pv (.int .i64 (4))) 0 [] :=
  fnl_run 300 [] [.t true]
     True.intro (And.intro h64 True.intro) (by kernel_rfl)

set_option maxRecDepth 100000 in
theorem pc_bad {l : List Pt} (h64 : decide ((l.length : Int) > 64) = false) (r0 : RunsL Try.prog 1 1 (loopOf Try.prog 46 0) 45 2 ([(1, .pp 1 0), (12, .ls 0 l.length), (13, .pv (.int .i64 (l.length : Int))), (14, .pv (.int .i64 ((0 : Nat) : Int)))]) ([(1, 0, .ls 0 l.length), (0, 0, rowP l)]) (.ret) ([(2, .pv (.int .i64 8))]) ([])) :
    FnL Try.prog 46 1 [fldS 0 l] [(0, 0, rowP l)] (.pv (.int .i64 (8))) 0 [] :=
  fnl_run 300 [] [.t false, .l (.ret) ([(1, .pp 1 0), (12, .ls 0 l.length), (13, .pv (.int .i64 (l.length : Int))), (14, .pv (.int .i64 ((0 : Nat) : Int)))]) ([(1, 0, .ls 0 l.length), (0, 0, rowP l)]) ([(2, .pv (.int .i64 8))]) ([])]
     True.intro (And.intro h64 (And.intro (reflT (renN []) ([(1, .pp 1 0), (12, .ls 0 l.length), (13, .pv (.int .i64 (l.length : Int))), (14, .pv (.int .i64 ((0 : Nat) : Int)))])) (And.intro (reflH (renN []) ([(1, 0, .ls 0 l.length), (0, 0, rowP l)])) (And.intro r0 True.intro)))) (by kernel_rfl)

set_option maxRecDepth 100000 in
theorem pc_ord {l : List Pt} (h64 : decide ((l.length : Int) > 64) = false) (r0 : RunsL Try.prog 1 1 (loopOf Try.prog 46 0) 45 2 ([(1, .pp 1 0), (12, .ls 0 l.length), (13, .pv (.int .i64 (l.length : Int))), (14, .pv (.int .i64 ((0 : Nat) : Int)))]) ([(1, 0, .ls 0 l.length), (0, 0, rowP l)]) (.exit 0) ([(1, .pp 1 0)]) ([(1, 0, .ls 0 l.length), (0, 0, rowP l)])) (r1 : RunsL Try.prog 1 1 (loopOf Try.prog 46 1) 45 2 ([(1, .pp 1 0), (6, .pv (.int .i64 ((0 + 1 : Nat) : Int)))]) ([(1, 0, .ls 0 l.length), (0, 0, rowP l)]) (.ret) ([(2, .pv (.int .i64 32))]) ([])) :
    FnL Try.prog 46 1 [fldS 0 l] [(0, 0, rowP l)] (.pv (.int .i64 (32))) 0 [] :=
  fnl_run 300 [] [.t false, .l (.exit 0) ([(1, .pp 1 0), (12, .ls 0 l.length), (13, .pv (.int .i64 (l.length : Int))), (14, .pv (.int .i64 ((0 : Nat) : Int)))]) ([(1, 0, .ls 0 l.length), (0, 0, rowP l)]) ([(1, .pp 1 0)]) ([(1, 0, .ls 0 l.length), (0, 0, rowP l)]), .l (.ret) ([(1, .pp 1 0), (6, .pv (.int .i64 ((0 + 1 : Nat) : Int)))]) ([(1, 0, .ls 0 l.length), (0, 0, rowP l)]) ([(2, .pv (.int .i64 32))]) ([])]
     True.intro (And.intro h64 (And.intro (reflT (renN []) ([(1, .pp 1 0), (12, .ls 0 l.length), (13, .pv (.int .i64 (l.length : Int))), (14, .pv (.int .i64 ((0 : Nat) : Int)))])) (And.intro (reflH (renN []) ([(1, 0, .ls 0 l.length), (0, 0, rowP l)])) (And.intro r0 (And.intro (reflT (renN []) ([(1, .pp 1 0), (6, .pv (.int .i64 ((0 + 1 : Nat) : Int)))])) (And.intro (reflH (renN []) ([(1, 0, .ls 0 l.length), (0, 0, rowP l)])) (And.intro r1 True.intro))))))) (by kernel_rfl)

set_option maxRecDepth 100000 in
theorem pc_ok {l : List Pt} (h64 : decide ((l.length : Int) > 64) = false) (r0 : RunsL Try.prog 1 1 (loopOf Try.prog 46 0) 45 2 ([(1, .pp 1 0), (12, .ls 0 l.length), (13, .pv (.int .i64 (l.length : Int))), (14, .pv (.int .i64 ((0 : Nat) : Int)))]) ([(1, 0, .ls 0 l.length), (0, 0, rowP l)]) (.exit 0) ([(1, .pp 1 0)]) ([(1, 0, .ls 0 l.length), (0, 0, rowP l)])) (r1 : RunsL Try.prog 1 1 (loopOf Try.prog 46 1) 45 2 ([(1, .pp 1 0), (6, .pv (.int .i64 ((0 + 1 : Nat) : Int)))]) ([(1, 0, .ls 0 l.length), (0, 0, rowP l)]) (.exit 2) ([]) ([])) :
    FnL Try.prog 46 1 [fldS 0 l] [(0, 0, rowP l)] (.pv (.int .i64 (0))) 0 [] :=
  fnl_run 300 [] [.t false, .l (.exit 0) ([(1, .pp 1 0), (12, .ls 0 l.length), (13, .pv (.int .i64 (l.length : Int))), (14, .pv (.int .i64 ((0 : Nat) : Int)))]) ([(1, 0, .ls 0 l.length), (0, 0, rowP l)]) ([(1, .pp 1 0)]) ([(1, 0, .ls 0 l.length), (0, 0, rowP l)]), .l (.exit 2) ([(1, .pp 1 0), (6, .pv (.int .i64 ((0 + 1 : Nat) : Int)))]) ([(1, 0, .ls 0 l.length), (0, 0, rowP l)]) ([]) ([])]
     True.intro (And.intro h64 (And.intro (reflT (renN []) ([(1, .pp 1 0), (12, .ls 0 l.length), (13, .pv (.int .i64 (l.length : Int))), (14, .pv (.int .i64 ((0 : Nat) : Int)))])) (And.intro (reflH (renN []) ([(1, 0, .ls 0 l.length), (0, 0, rowP l)])) (And.intro r0 (And.intro (reflT (renN []) ([(1, .pp 1 0), (6, .pv (.int .i64 ((0 + 1 : Nat) : Int)))])) (And.intro (reflH (renN []) ([(1, 0, .ls 0 l.length), (0, 0, rowP l)])) (And.intro r1 True.intro))))))) (by kernel_rfl)

end Go.Proofs.Ytjjmnoiffpnphaa

namespace Go.Proofs.Ytjjmnoiffpnphaa
open Go.ChangeShapes Go.WideShapes Go.ChangeAt Go.RowKit Go.Joins Go.Deep
section
variable {H : Type} {enc : TypeId × Value → H} {W : World} {base : Nat} {spare : Nat → Bool} {held : Bool}
theorem pts_of (f : Nat → Pt) : ∀ (n j : Nat) (v : Value), (ptsV ((List.range n).map f))[j]? = some v → j / 3 < n ∧ [Value.int .i64 (f (j / 3)).id, .int .i64 (f (j / 3)).a, .int .i64 (f (j / 3)).b][j % 3]? = some v := by
  intro n j v h
  have hj : j < n * 3 := by
    have := (List.getElem?_eq_some_iff.1 h).1
    rw [ptsV_length] at this
    simpa using this
  have hk : j / 3 < n := by omega
  have hg := ptsV_get (l := (List.range n).map f) (k := j / 3) (p := f (j / 3)) (by simp [hk])
  refine ⟨hk, ?_⟩
  have h3 : j % 3 = 0 ∨ j % 3 = 1 ∨ j % 3 = 2 := by omega
  have e : j = j / 3 * 3 + j % 3 := by omega
  rw [e] at h
  rcases h3 with e3 | e3 | e3 <;> rw [e3] at h ⊢
  · rw [Nat.add_zero, hg.1] at h; exact h
  · rw [hg.2.1] at h; exact h
  · rw [hg.2.2] at h; exact h
end
/-- The name 0 stands for the list that came in. -/
def inB (u : Value) : Bl := ⟨fun _ => none, fun b => if b = 0 then some u else none⟩
theorem pts_one : ∀ (l : List Pt) (v : Value), v ∈ ptsV l → v.oneCell' = true
  | [], _, h => by simp [ptsV] at h
  | p :: r, v, h => by
    simp only [ptsV, List.mem_cons] at h
    rcases h with rfl | rfl | rfl | h
    · rfl
    · rfl
    · rfl
    · exact pts_one r v h
theorem in_rel {W : World} {u : Value} {l : List Pt} (h : Rd W 3 u l.length (ptsV l)) : HRel W 1 (inB u) [(0, 0, rowP l)] W where
  gr := Gr.refl W
  live := fun b r h => by cases h
  inj := fun b c r h => by cases h
  new := fun b r _ h => by cases h
  sep := fun b r h => by cases h
  cells := fun b o sv hl hs => by
    simp only [lookH] at hl
    cases hc : (Nat.beq 0 b && Nat.beq 0 o) <;> rw [hc] at hl
    · cases hl
    · cases hl; cases hs
  rows := fun b o e es n xs hl => by
    simp only [lookH] at hl
    cases hc : (Nat.beq 0 b && Nat.beq 0 o) <;> rw [hc] at hl
    · cases hl
    · cases hl
      rw [Bool.and_eq_true] at hc
      have hb : 0 = b := Nat.eq_of_beq_eq_true hc.1
      subst hb
      exact ⟨u, rfl, h, pts_one l, fun _ hx => h.lt hx, fun h => by omega, fun h => by omega⟩
  rinj := fun b o e es n xs c o' e' es' n' xs' u v hl hl' h1 h2 => by
    simp only [lookH] at hl
    cases hc : (Nat.beq 0 b && Nat.beq 0 o) <;> rw [hc] at hl
    · cases hl
    · rw [Bool.and_eq_true] at hc
      have hb : 0 = b := Nat.eq_of_beq_eq_true hc.1
      omega
  maps := fun b o xs hl => (noMaps (by rfl) hl).elim
theorem in_dom (u : Value) : (inB u).dom 1 := fun b hb => ⟨rfl, if_neg (by omega)⟩
theorem in_fld {W : World} {u : Value} {l : List Pt} (h : Rd W 3 u l.length (ptsV l)) : SV.is (inB u) (fldS 0 l) (.agg #[u]) := by
  obtain ⟨_, a, c, hu, _⟩ := h
  exact ⟨[u], ⟨⟨rfl, a, c, hu⟩, True.intro⟩, rfl⟩
/-- A law over a field and plain arguments, run. -/
theorem fld_run {W : World} {u : Value} {l : List Pt} {f : FuncId} {vs : List Value} (h : FnL Try.prog f 1 (fldS 0 l :: vs.map .pv) [(0, 0, rowP l)] (.pv (.bool true)) 0 []) (hr : Rd W 3 u l.length (ptsV l)) :
    Calls Try.prog f (.agg #[u] :: vs).toArray W fun e W' => e = .returned (.bool true) ∧ Gr W W' := by
  have hvs : ∀ vs : List Value, SV.isl (inB u) (vs.map .pv) vs := by
    intro vs
    induction vs with
    | nil => exact True.intro
    | cons v r ih => exact ⟨rfl, ih⟩
  refine (h W (inB u) (.agg #[u] :: vs) (in_rel hr) (in_dom u) ⟨in_fld hr, hvs vs⟩).mono fun e W' ⟨v, β', he, _, hx, hh, _⟩ => ?_
  cases hx
  exact ⟨he, hh.gr⟩
end Go.Proofs.Ytjjmnoiffpnphaa
