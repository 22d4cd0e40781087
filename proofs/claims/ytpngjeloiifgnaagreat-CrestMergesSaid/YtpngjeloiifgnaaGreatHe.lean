/-
  Crests: At, the reference's Check, Known, Same and Place, the law's fit. Conditions: none.
-/
import Derived.Test.YtpngjeloiifgnaaGreatHd
import Derived.Test.YtpngjeloiifgnaaGreatW36
import Derived.Test.YtpngjeloiifgnaaGreatFm
namespace Go.Proofs.YtpngjeloiifgnaaGreat
open Go.RowKit
set_option maxRecDepth 100000 in
theorem rk_zero {s : List Ld} {x : Ld} (hk : s[0]? = some x) (hin : 0 ≤ ((0 : Nat) : Int) ∧ ((0 : Nat) : Int) < (s.length : Int)) (hlt : decide (((0 : Nat) : Int) < (s.length : Int)) = true) (hc : Pure Tryz.prog 14 #[ratioV x.n x.d] (.int .i64 (0))) (h1 : decide (x.id < 0) = false) (h2 : decide (x.id > 65535) = false) (hs : Value.int .i64 (IntKind.i64.wrap (((0 : Nat) : Int) + 1)) = .int .i64 (((0 + 1 : Nat) : Int))) {e : Exit} {tm2 : List (Nat × SV)} {hp2 : List (Nat × Nat × SV)}
    (r : RunsL Tryz.prog 1 1 (loopOf Tryz.prog 25 0) 72 1 ([(0, .ls 0 s.length), (3, .pv (.int .i64 ((0 + 1 : Nat) : Int)))]) ([(0, 0, rowL s)]) e tm2 hp2) : RunsL Tryz.prog 1 1 (loopOf Tryz.prog 25 0) 72 1 ([(0, .ls 0 s.length), (3, .pv (.int .i64 ((0 : Nat) : Int)))]) ([(0, 0, rowL s)]) e tm2 hp2 :=
  RunsL.next [] 300 [.t true, .r (ratioV x.n x.d), .r (.int .i64 (0)), .k, .r (.int .i64 (x.id)), .t false, .r (.int .i64 (x.id)), .t false, .k, .r (.int .i64 (((0 + 1 : Nat) : Int)))]
    (round_of (And.intro hlt (And.intro hin (And.intro (ra_lf hk) (And.intro hc (And.intro hin (And.intro (ra_li hk) (And.intro h1 (And.intro hin (And.intro (ra_li hk) (And.intro h2 (And.intro hs True.intro))))))))))) (by kernel_rfl)) r

set_option maxRecDepth 100000 in
theorem rk_next {s : List Ld} {k : Nat} {x y : Ld} {c : Int} (hk : s[k + 1]? = some y) (hin : 0 ≤ ((k + 1 : Nat) : Int) ∧ ((k + 1 : Nat) : Int) < (s.length : Int)) (hk0 : s[k]? = some x) (hin0 : 0 ≤ (k : Int) ∧ (k : Int) < (s.length : Int)) (hlt : decide (((k + 1 : Nat) : Int) < (s.length : Int)) = true) (hc : Pure Tryz.prog 14 #[ratioV y.n y.d] (.int .i64 (0))) (h1 : decide (y.id < 0) = false) (h2 : decide (y.id > 65535) = false) (hpos : decide (((k + 1 : Nat) : Int) > 0) = true) (hm : Value.int .i64 (IntKind.i64.wrap (((k + 1 : Nat) : Int) - 1)) = .int .i64 ((k : Int))) (hcc : Pure Tryz.prog 29 #[ratioV x.n x.d, ratioV y.n y.d] (.int .i64 (c))) (hcz : decide (c ≥ 0) = false) (hid : (x.id == y.id) = false) (hs : Value.int .i64 (IntKind.i64.wrap (((k + 1 : Nat) : Int) + 1)) = .int .i64 (((k + 1 + 1 : Nat) : Int))) {e : Exit} {tm2 : List (Nat × SV)} {hp2 : List (Nat × Nat × SV)}
    (r : RunsL Tryz.prog 1 1 (loopOf Tryz.prog 25 0) 72 1 ([(0, .ls 0 s.length), (3, .pv (.int .i64 ((k + 1 + 1 : Nat) : Int)))]) ([(0, 0, rowL s)]) e tm2 hp2) : RunsL Tryz.prog 1 1 (loopOf Tryz.prog 25 0) 72 1 ([(0, .ls 0 s.length), (3, .pv (.int .i64 ((k + 1 : Nat) : Int)))]) ([(0, 0, rowL s)]) e tm2 hp2 :=
  RunsL.next [] 300 [.t true, .r (ratioV y.n y.d), .r (.int .i64 (0)), .k, .r (.int .i64 (y.id)), .t false, .r (.int .i64 (y.id)), .t false, .t true, .r (.int .i64 ((k : Int))), .r (ratioV x.n x.d), .r (ratioV y.n y.d), .r (.int .i64 (c)), .t false, .r (.int .i64 ((k : Int))), .r (.int .i64 (x.id)), .r (.int .i64 (y.id)), .t false, .r (.int .i64 (((k + 1 + 1 : Nat) : Int)))]
    (round_of (And.intro hlt (And.intro hin (And.intro (ra_lf hk) (And.intro hc (And.intro hin (And.intro (ra_li hk) (And.intro h1 (And.intro hin (And.intro (ra_li hk) (And.intro h2 (And.intro hpos (And.intro hm (And.intro hin0 (And.intro (ra_lf hk0) (And.intro hin (And.intro (ra_lf hk) (And.intro hcc (And.intro hcz (And.intro hm (And.intro hin0 (And.intro (ra_li hk0) (And.intro hin (And.intro (ra_li hk) (And.intro hid (And.intro hs True.intro))))))))))))))))))))))))) (by kernel_rfl)) r

set_option maxRecDepth 100000 in
theorem rk_end {s : List Ld} {k : Nat} (hge : decide ((k : Int) < (s.length : Int)) = false) : RunsL Tryz.prog 1 1 (loopOf Tryz.prog 25 0) 72 1 ([(0, .ls 0 s.length), (3, .pv (.int .i64 (k : Int)))]) ([(0, 0, rowL s)]) (.exit 0) ([]) ([]) :=
  RunsL.stop [] 300 [.t false] (fun h => by cases h)
    (round_of (And.intro hge True.intro) (by kernel_rfl))

set_option maxRecDepth 100000 in
theorem rk_path {s : List Ld} (h0 : decide ((s.length : Int) < 1) = false) (h3 : decide ((s.length : Int) > 300) = false) (r0 : RunsL Tryz.prog 1 1 (loopOf Tryz.prog 25 0) 72 1 ([(0, .ls 0 s.length), (3, .pv (.int .i64 ((0 : Nat) : Int)))]) ([(0, 0, rowL s)]) (.exit 0) ([]) ([])) :
    FnL Tryz.prog 25 1 [.ls 0 s.length] [(0, 0, rowL s)] (.pv (.int .i64 (0))) 0 [] :=
  fnl_run 300 [] [.t false, .t false, .l (.exit 0) ([(0, .ls 0 s.length), (3, .pv (.int .i64 ((0 : Nat) : Int)))]) ([(0, 0, rowL s)]) ([]) ([])]
     True.intro (And.intro h0 (And.intro h3 (And.intro (reflT (renN []) ([(0, .ls 0 s.length), (3, .pv (.int .i64 ((0 : Nat) : Int)))])) (And.intro (reflH (renN []) ([(0, 0, rowL s)])) (And.intro r0 True.intro))))) (by kernel_rfl)

set_option maxRecDepth 100000 in
theorem kn_next {l : List Pt} {s : List Ld} {k j : Nat} {x : Ld} (hk : s[k]? = some x) (hin : 0 ≤ (k : Int) ∧ (k : Int) < (s.length : Int)) (hlt : decide ((k : Int) < (s.length : Int)) = true) (ha : FnL Tryz.prog 63 1 [fldS 0 l, .pv (.int .i64 (x.id))] [(0, 0, rowP l)] (.pv (.int .i64 ((j : Int)))) 0 []) (hj : decide ((j : Int) < 0) = false) (hs : Value.int .i64 (IntKind.i64.wrap ((k : Int) + 1)) = .int .i64 (((k + 1 : Nat) : Int))) {e : Exit} {tm2 : List (Nat × SV)} {hp2 : List (Nat × Nat × SV)}
    (r : RunsL Tryz.prog 2 2 (loopOf Tryz.prog 26 0) 20 3 ([(1, .ls 1 s.length), (2, .pp 2 0), (5, .pv (.int .i64 ((k + 1 : Nat) : Int)))]) ([(2, 0, .ls 0 l.length), (0, 0, rowP l), (1, 0, rowL s)]) e tm2 hp2) : RunsL Tryz.prog 2 2 (loopOf Tryz.prog 26 0) 20 3 ([(1, .ls 1 s.length), (2, .pp 2 0), (5, .pv (.int .i64 (k : Int)))]) ([(2, 0, .ls 0 l.length), (0, 0, rowP l), (1, 0, rowL s)]) e tm2 hp2 :=
  RunsL.next [] 300 [.t true, .r (.int .i64 (x.id)), .f [0] [fldS 0 l, .pv (.int .i64 (x.id))] [(0, 0, rowP l)] (.pv (.int .i64 ((j : Int)))) 0 [], .t false, .r (.int .i64 (((k + 1 : Nat) : Int)))]
    (round_of (And.intro hlt (And.intro hin (And.intro (ra_li hk) (And.intro ha (And.intro (Eq.refl (List.map (SV.ren (renU [0] 3)) [fldS 0 l, .pv (.int .i64 (x.id))])) (And.intro (reflH (renU [0] 3) [(0, 0, rowP l)]) (And.intro hj (And.intro hs True.intro)))))))) (by kernel_rfl)) r

set_option maxRecDepth 100000 in
theorem kn_end {l : List Pt} {s : List Ld} {k : Nat} (hge : decide ((k : Int) < (s.length : Int)) = false) : RunsL Tryz.prog 2 2 (loopOf Tryz.prog 26 0) 20 3 ([(1, .ls 1 s.length), (2, .pp 2 0), (5, .pv (.int .i64 (k : Int)))]) ([(2, 0, .ls 0 l.length), (0, 0, rowP l), (1, 0, rowL s)]) (.exit 0) ([]) ([]) :=
  RunsL.stop [] 300 [.t false] (fun h => by cases h)
    (round_of (And.intro hge True.intro) (by kernel_rfl))

set_option maxRecDepth 100000 in
theorem kn_path {l : List Pt} {s : List Ld} (r0 : RunsL Tryz.prog 2 2 (loopOf Tryz.prog 26 0) 20 3 ([(1, .ls 1 s.length), (2, .pp 2 0), (5, .pv (.int .i64 ((0 : Nat) : Int)))]) ([(2, 0, .ls 0 l.length), (0, 0, rowP l), (1, 0, rowL s)]) (.exit 0) ([]) ([])) :
    FnL Tryz.prog 26 2 [fldS 0 l, .ls 1 s.length] [(0, 0, rowP l), (1, 0, rowL s)] (.pv (.bool true)) 0 [] :=
  fnl_run 300 [] [.l (.exit 0) ([(1, .ls 1 s.length), (2, .pp 2 0), (5, .pv (.int .i64 ((0 : Nat) : Int)))]) ([(2, 0, .ls 0 l.length), (0, 0, rowP l), (1, 0, rowL s)]) ([]) ([])]
     True.intro (And.intro (reflT (renN []) ([(1, .ls 1 s.length), (2, .pp 2 0), (5, .pv (.int .i64 ((0 : Nat) : Int)))])) (And.intro (reflH (renN []) ([(2, 0, .ls 0 l.length), (0, 0, rowP l), (1, 0, rowL s)])) (And.intro r0 True.intro))) (by kernel_rfl)

set_option maxRecDepth 100000 in
theorem sl_next {s : List Ld} {k : Nat} {m : Ld} (hk : s[k]? = some m) (hin : 0 ≤ (k : Int) ∧ (k : Int) < (s.length : Int)) (hlt : decide ((k : Int) < (s.length : Int)) = true) (he : (!((m.n == m.n && (m.d == m.d && true)) && (m.id == m.id && true))) = false) (hs : Value.int .i64 (IntKind.i64.wrap ((k : Int) + 1)) = .int .i64 (((k + 1 : Nat) : Int))) {e : Exit} {tm2 : List (Nat × SV)} {hp2 : List (Nat × Nat × SV)}
    (r : RunsL Tryz.prog 2 2 (loopOf Tryz.prog 9 0) 26 2 ([(0, .ls 0 s.length), (1, .ls 1 s.length), (5, .pv (.int .i64 ((k + 1 : Nat) : Int)))]) ([(0, 0, rowL s), (1, 0, rowL s)]) e tm2 hp2) : RunsL Tryz.prog 2 2 (loopOf Tryz.prog 9 0) 26 2 ([(0, .ls 0 s.length), (1, .ls 1 s.length), (5, .pv (.int .i64 (k : Int)))]) ([(0, 0, rowL s), (1, 0, rowL s)]) e tm2 hp2 :=
  RunsL.next [] 300 [.t true, .r (leadV m), .r (leadV m), .t false, .r (.int .i64 (((k + 1 : Nat) : Int)))]
    (round_of (And.intro hlt (And.intro hin (And.intro (ra_ld hk) (And.intro hin (And.intro (ra_ld hk) (And.intro he (And.intro hs True.intro))))))) (by kernel_rfl)) r

set_option maxRecDepth 100000 in
theorem sl_end {s : List Ld} {k : Nat} (hge : decide ((k : Int) < (s.length : Int)) = false) : RunsL Tryz.prog 2 2 (loopOf Tryz.prog 9 0) 26 2 ([(0, .ls 0 s.length), (1, .ls 1 s.length), (5, .pv (.int .i64 (k : Int)))]) ([(0, 0, rowL s), (1, 0, rowL s)]) (.exit 0) ([]) ([]) :=
  RunsL.stop [] 300 [.t false] (fun h => by cases h)
    (round_of (And.intro hge True.intro) (by kernel_rfl))

set_option maxRecDepth 100000 in
theorem sl_path {s : List Ld} (hn : (!((s.length : Int) == (s.length : Int))) = false) (r0 : RunsL Tryz.prog 2 2 (loopOf Tryz.prog 9 0) 26 2 ([(0, .ls 0 s.length), (1, .ls 1 s.length), (5, .pv (.int .i64 ((0 : Nat) : Int)))]) ([(0, 0, rowL s), (1, 0, rowL s)]) (.exit 0) ([]) ([])) :
    FnL Tryz.prog 9 2 [.ls 0 s.length, .ls 1 s.length] [(0, 0, rowL s), (1, 0, rowL s)] (.pv (.bool true)) 0 [] :=
  fnl_run 300 [] [.t false, .l (.exit 0) ([(0, .ls 0 s.length), (1, .ls 1 s.length), (5, .pv (.int .i64 ((0 : Nat) : Int)))]) ([(0, 0, rowL s), (1, 0, rowL s)]) ([]) ([])]
     True.intro (And.intro hn (And.intro (reflT (renN []) ([(0, .ls 0 s.length), (1, .ls 1 s.length), (5, .pv (.int .i64 ((0 : Nat) : Int)))])) (And.intro (reflH (renN []) ([(0, 0, rowL s), (1, 0, rowL s)])) (And.intro r0 True.intro)))) (by kernel_rfl)

set_option maxRecDepth 100000 in
theorem plc_up {s : List Ld} {k a : Nat} {x : Ld} {tn td c : Int} (hk : s[k]? = some x) (hin : 0 ≤ (k : Int) ∧ (k : Int) < (s.length : Int)) (hlt : decide ((k : Int) < (s.length : Int)) = true) (hc : Pure Tryz.prog 29 #[ratioV x.n x.d, ratioV tn td] (.int .i64 (c))) (hz : decide (c ≤ 0) = true) (hs : Value.int .i64 (IntKind.i64.wrap ((k : Int) + 1)) = .int .i64 (((k + 1 : Nat) : Int))) {e : Exit} {tm2 : List (Nat × SV)} {hp2 : List (Nat × Nat × SV)}
    (r : RunsL Tryz.prog 1 1 (loopOf Tryz.prog 64 0) 23 2 ([(0, .ls 0 s.length), (3, .pp 1 0), (5, .pv (.int .i64 (k : Int))), (6, .pv (.int .i64 ((k + 1 : Nat) : Int)))]) ([(1, 0, .pv (.int .i64 tn)), (1, 1, .pv (.int .i64 td)), (0, 0, rowL s)]) e tm2 hp2) : RunsL Tryz.prog 1 1 (loopOf Tryz.prog 64 0) 23 2 ([(0, .ls 0 s.length), (3, .pp 1 0), (5, .pv (.int .i64 (a : Int))), (6, .pv (.int .i64 (k : Int)))]) ([(1, 0, .pv (.int .i64 tn)), (1, 1, .pv (.int .i64 td)), (0, 0, rowL s)]) e tm2 hp2 :=
  RunsL.next [] 300 [.t true, .r (ratioV x.n x.d), .r (.int .i64 (c)), .t true, .r (.int .i64 (((k + 1 : Nat) : Int)))]
    (round_of (And.intro hlt (And.intro hin (And.intro (ra_lf hk) (And.intro hc (And.intro hz (And.intro hs True.intro)))))) (by kernel_rfl)) r

set_option maxRecDepth 100000 in
theorem plc_no {s : List Ld} {k a : Nat} {x : Ld} {tn td c : Int} (hk : s[k]? = some x) (hin : 0 ≤ (k : Int) ∧ (k : Int) < (s.length : Int)) (hlt : decide ((k : Int) < (s.length : Int)) = true) (hc : Pure Tryz.prog 29 #[ratioV x.n x.d, ratioV tn td] (.int .i64 (c))) (hz : decide (c ≤ 0) = false) (hs : Value.int .i64 (IntKind.i64.wrap ((k : Int) + 1)) = .int .i64 (((k + 1 : Nat) : Int))) {e : Exit} {tm2 : List (Nat × SV)} {hp2 : List (Nat × Nat × SV)}
    (r : RunsL Tryz.prog 1 1 (loopOf Tryz.prog 64 0) 23 2 ([(0, .ls 0 s.length), (3, .pp 1 0), (5, .pv (.int .i64 (a : Int))), (6, .pv (.int .i64 ((k + 1 : Nat) : Int)))]) ([(1, 0, .pv (.int .i64 tn)), (1, 1, .pv (.int .i64 td)), (0, 0, rowL s)]) e tm2 hp2) : RunsL Tryz.prog 1 1 (loopOf Tryz.prog 64 0) 23 2 ([(0, .ls 0 s.length), (3, .pp 1 0), (5, .pv (.int .i64 (a : Int))), (6, .pv (.int .i64 (k : Int)))]) ([(1, 0, .pv (.int .i64 tn)), (1, 1, .pv (.int .i64 td)), (0, 0, rowL s)]) e tm2 hp2 :=
  RunsL.next [] 300 [.t true, .r (ratioV x.n x.d), .r (.int .i64 (c)), .t false, .r (.int .i64 (((k + 1 : Nat) : Int)))]
    (round_of (And.intro hlt (And.intro hin (And.intro (ra_lf hk) (And.intro hc (And.intro hz (And.intro hs True.intro)))))) (by kernel_rfl)) r

set_option maxRecDepth 100000 in
theorem plc_end {s : List Ld} {k a : Nat} {tn td : Int} (hge : decide ((k : Int) < (s.length : Int)) = false) : RunsL Tryz.prog 1 1 (loopOf Tryz.prog 64 0) 23 2 ([(0, .ls 0 s.length), (3, .pp 1 0), (5, .pv (.int .i64 (a : Int))), (6, .pv (.int .i64 (k : Int)))]) ([(1, 0, .pv (.int .i64 tn)), (1, 1, .pv (.int .i64 td)), (0, 0, rowL s)]) (.exit 0) ([(5, .pv (.int .i64 (a : Int)))]) ([]) :=
  RunsL.stop [] 300 [.t false] (fun h => by cases h)
    (round_of (And.intro hge True.intro) (by kernel_rfl))

set_option maxRecDepth 100000 in
theorem plc_path {s : List Ld} {a : Nat} {tn td : Int} (r0 : RunsL Tryz.prog 1 1 (loopOf Tryz.prog 64 0) 23 2 ([(0, .ls 0 s.length), (3, .pp 1 0), (5, .pv (.int .i64 ((0 : Nat) : Int))), (6, .pv (.int .i64 ((0 : Nat) : Int)))]) ([(1, 0, .pv (.int .i64 tn)), (1, 1, .pv (.int .i64 td)), (0, 0, rowL s)]) (.exit 0) ([(5, .pv (.int .i64 (a : Int)))]) ([])) :
    FnL Tryz.prog 64 1 [.ls 0 s.length, .pv (ratioV tn td)] [(0, 0, rowL s)] (.pv (.int .i64 ((a : Int)))) 0 [] :=
  fnl_run 300 [] [.l (.exit 0) ([(0, .ls 0 s.length), (3, .pp 1 0), (5, .pv (.int .i64 ((0 : Nat) : Int))), (6, .pv (.int .i64 ((0 : Nat) : Int)))]) ([(1, 0, .pv (.int .i64 tn)), (1, 1, .pv (.int .i64 td)), (0, 0, rowL s)]) ([(5, .pv (.int .i64 (a : Int)))]) ([])]
     True.intro (And.intro (reflT (renN []) ([(0, .ls 0 s.length), (3, .pp 1 0), (5, .pv (.int .i64 ((0 : Nat) : Int))), (6, .pv (.int .i64 ((0 : Nat) : Int)))])) (And.intro (reflH (renN []) ([(1, 0, .pv (.int .i64 tn)), (1, 1, .pv (.int .i64 td)), (0, 0, rowL s)])) (And.intro r0 True.intro))) (by kernel_rfl)

theorem frac_lt_le {an ad bn bd cn cd : Int} (h1 : 0 < ad) (h2 : 0 < bd) (h3 : 0 < cd) (a : an * bd < bn * ad) (b : bn * cd ≤ cn * bd) : an * cd < cn * ad := by
  have e1 : an * bd * cd < bn * ad * cd := Int.mul_lt_mul_of_pos_right a h3
  have e2 : bn * cd * ad ≤ cn * bd * ad := Int.mul_le_mul_of_nonneg_right b (by omega)
  have e3 : an * cd * bd < cn * ad * bd := by grind
  exact Int.lt_of_mul_lt_mul_right e3 (by omega)
theorem frac_lt {an ad bn bd cn cd : Int} (h1 : 0 < ad) (h2 : 0 < bd) (h3 : 0 < cd) (a : an * bd < bn * ad) (b : bn * cd < cn * bd) : an * cd < cn * ad := frac_lt_le h1 h2 h3 a (by omega)

abbrev lbT (s : List Ld) (i j : Nat) : List (Nat × SV) := [(0, .ls 0 s.length), (2, .pv (.func (.func 108) #[] #[])), (4, .pp 1 0), (8, .pv (.int .i64 (s.length : Int))), (9, .pv (.int .i64 (i : Int))), (10, .pv (.int .i64 (j : Int)))]
/-- How a lead's time lies to a time. -/
def cv (x : Ld) (tn td : Int) : Int := (x.n * td - tn * x.d).sign
theorem Lf_ok {x : Ld} {tn td : Int} (hx : I64L x) (ht : Tm tn td) (h : okB x.n x.d = true) : Pure Tryz.prog 108 #[leadV x, ratioV tn td] (.int .i64 (cv x tn td)) := clf_path (CCmp_ok hx.n hx.d ht.hn ht.hd h ht.ok)
theorem lbs_loop {s : List Ld} (hn : s.length ≤ 1000) (hi : ∀ x ∈ s, I64L x) (ho : ∀ x ∈ s, okB x.n x.d = true) {tn td : Int} (ht : Tm tn td) {k : Nat} (hlo : ∀ (t : Nat) (x : Ld), t < k → s[t]? = some x → cv x tn td < 0) (hhi : ∀ (t : Nat) (x : Ld), k ≤ t → s[t]? = some x → ¬ cv x tn td < 0) : ∀ (d i j : Nat), j - i ≤ d → i ≤ k → k ≤ j → j ≤ s.length →
    RunsL Tryz.prog 1 1 (loopOf Tryz.prog 107 0) 49 2 (lbT s i j) [(1, 0, .pv (.int .i64 tn)), (1, 1, .pv (.int .i64 td)), (0, 0, rowL s)] (.exit 0) (lbT s k k) [(1, 0, .pv (.int .i64 tn)), (1, 1, .pv (.int .i64 td)), (0, 0, rowL s)] := by
  intro d
  induction d with
  | zero =>
    intro i j hd h1 h2 h3
    have : i = k := by omega
    have : j = k := by omega
    subst i j
    exact lbs_end (df (by omega))
  | succ d ih =>
    intro i j hd h1 h2 h3
    by_cases hij : i < j
    · obtain ⟨x, hx⟩ := get_some (l := s) (k := (i + j) / 2) (by omega)
      have hc := Lf_ok (hi x (List.mem_of_getElem? hx)) ht (ho x (List.mem_of_getElem? hx))
      have a1 : Value.int .i64 (IntKind.i64.wrap ((i : Int) + (j : Int))) = .int .i64 ((i : Int) + (j : Int)) := by rw [wrap_i64_in (by omega) (by omega)]
      have a2 : Value.int .u64 (IntKind.u64.wrap ((i : Int) + (j : Int))) = .int .u64 ((i : Int) + (j : Int)) := by rw [wrap_in (by omega) (by omega)]
      have a3 : Value.int .u64 (((i : Int) + (j : Int)).fdiv (2 ^ (min (1 : Int).toNat IntKind.u64.bits))) = .int .u64 (((i + j) / 2 : Nat) : Int) := by
        have : (2 : Int) ^ (min (1 : Int).toNat IntKind.u64.bits) = 2 := rfl
        rw [this, Int.fdiv_eq_ediv_of_nonneg _ (by omega)]
        congr 1
      have a4 : Value.int .i64 (IntKind.i64.wrap (((i + j) / 2 : Nat) : Int)) = .int .i64 (((i + j) / 2 : Nat) : Int) := by rw [wrap_i64_in (by omega) (by omega)]
      by_cases hlt : cv x tn td < 0
      · refine lbs_up hx ⟨by omega, by have := get_lt hx; omega⟩ (dt (by omega)) a1 a2 (by omega) a3 a4 hc (dt hlt) (i64_succ (by omega)) (ih _ _ (by omega) ?_ h2 h3)
        rcases Nat.lt_or_ge ((i + j) / 2) k with h | h
        · exact h
        · exact (hhi _ x h hx hlt).elim
      · refine lbs_dn hx ⟨by omega, by have := get_lt hx; omega⟩ (dt (by omega)) a1 a2 (by omega) a3 a4 hc (df hlt) (ih _ _ (by omega) h1 ?_ (by omega))
        rcases Nat.lt_or_ge ((i + j) / 2) k with h | h
        · exact (hlt (hlo _ x h hx)).elim
        · exact h
    · have : i = k := by omega
      have : j = k := by omega
      subst i j
      exact lbs_end (df (by omega))
/-- The lead at a time: number k's time is not behind it, that of number k + 1 is. -/
structure AtK (s : List Ld) (tn td : Int) (k : Nat) (x : Ld) : Prop where
  get : s[k]? = some x
  le : cv x tn td ≤ 0
  lo : ∀ (t : Nat) (y : Ld), t < k → s[t]? = some y → cv y tn td < 0
  hi : ∀ (t : Nat) (y : Ld), k < t → s[t]? = some y → cv y tn td > 0
theorem LA_ok {s : List Ld} (hn : s.length ≤ 1000) (hi : ∀ x ∈ s, I64L x) (ho : ∀ x ∈ s, okB x.n x.d = true) {tn td : Int} (ht : Tm tn td) {k : Nat} {x : Ld} (h : AtK s tn td k x) : FnL Tryz.prog 58 1 [.ls 0 s.length, .pv (ratioV tn td)] [(0, 0, rowL s)] (.pv (.int .i64 x.id)) 0 [] := by
  have hk := get_lt h.get
  have hm := List.mem_of_getElem? h.get
  by_cases h0 : cv x tn td = 0
  · have hb := lbs_loop hn hi ho ht (k := k) h.lo (fun t y ht' hy => by
      rcases Nat.lt_or_ge k t with g | g
      · have := h.hi t y g hy; omega
      · have : t = k := by omega
        subst this
        rw [h.get] at hy; cases hy; omega) s.length 0 s.length (by omega) (Nat.zero_le _) (by omega) (Nat.le_refl _)
    exact lat_hit (lbf_hit hb h.get ⟨by omega, by omega⟩ (dt (by omega)) (Lf_ok (hi x hm) ht (ho x hm)) (by rw [h0]; rfl)) h.get ⟨by omega, by omega⟩
  · have hb := lbs_loop hn hi ho ht (k := k + 1) (fun t y ht' hy => by
      rcases Nat.lt_or_ge t k with g | g
      · exact h.lo t y g hy
      · have : t = k := by omega
        subst this
        rw [h.get] at hy; cases hy; have := h.le; omega) (fun t y ht' hy => by have := h.hi t y (by omega) hy; omega) s.length 0 s.length (by omega) (Nat.zero_le _) (by omega) (Nat.le_refl _)
    by_cases hl : k + 1 < s.length
    · obtain ⟨y, hy⟩ := get_some (l := s) (k := k + 1) hl
      have hy' := List.mem_of_getElem? hy
      have hp := h.hi (k + 1) y (by omega) hy
      exact lat_no (lbf_no hb hy ⟨by omega, by omega⟩ (dt (by omega)) (Lf_ok (hi y hy') ht (ho y hy')) (by rw [beq_eq_false_iff_ne]; omega)) (i64_pred k (by omega)) h.get ⟨by omega, by omega⟩
    · exact lat_no (lbf_out hb (df (by omega))) (i64_pred k (by omega)) h.get ⟨by omega, by omega⟩
theorem VC.tm {c : List Ld} (h : VC c) {x : Ld} (hx : x ∈ c) : okB x.n x.d = true := by
  have := h.ok x hx
  unfold okLd at this
  simp only [Bool.and_eq_true] at this
  exact this.1
theorem VC.den {c : List Ld} (h : VC c) {x : Ld} (hx : x ∈ c) : 0 < x.d := by have := okB_den (h.tm hx); omega
theorem VC.step {c : List Ld} (h : VC c) {k : Nat} {x y : Ld} (hx : c[k]? = some x) (hy : c[k + 1]? = some y) : x.n * y.d < y.n * x.d := by
  have := h.fol k x y hx hy
  unfold folB at this
  simp only [Bool.and_eq_true] at this
  have h2 := of_decide_eq_true this.2
  rcases sg_cases (x.n * y.d - y.n * x.d) with ⟨w, z⟩ | ⟨w, z⟩ | ⟨w, z⟩ <;> omega
theorem VC.mono {c : List Ld} (h : VC c) {i : Nat} {x : Ld} (hx : c[i]? = some x) : ∀ (d : Nat) {y : Ld}, c[i + d + 1]? = some y → x.n * y.d < y.n * x.d
  | 0, y, hy => h.step hx hy
  | d + 1, y, hy => by
    have hl := get_lt hy
    obtain ⟨z, hz⟩ := get_some (l := c) (k := i + d + 1) (by omega)
    have h1 := VC.mono h hx d hz
    have h2 := h.step hz hy
    exact frac_lt (h.den (List.mem_of_getElem? hx)) (h.den (List.mem_of_getElem? hz)) (h.den (List.mem_of_getElem? hy)) h1 h2
theorem cv_neg {x : Ld} {tn td : Int} : cv x tn td < 0 ↔ x.n * td < tn * x.d := by
  unfold cv; rcases sg_cases (x.n * td - tn * x.d) with ⟨w, z⟩ | ⟨w, z⟩ | ⟨w, z⟩ <;> omega
theorem cv_pos {x : Ld} {tn td : Int} : cv x tn td > 0 ↔ tn * x.d < x.n * td := by
  unfold cv; rcases sg_cases (x.n * td - tn * x.d) with ⟨w, z⟩ | ⟨w, z⟩ | ⟨w, z⟩ <;> omega
/-- At each time that is not before the first lead there is a lead. -/
theorem at_ex {c : List Ld} (h : VC c) {tn td : Int} (hd : 0 < td) {x0 : Ld} (h0 : c[0]? = some x0) (hle : cv x0 tn td ≤ 0) : ∃ k x, AtK c tn td k x := by
  rcases first_nat (fun k => ∀ x, c[k]? = some x → cv x tn td ≤ 0) c.length with hall | ⟨j, hj, hbad, hbef⟩
  · obtain ⟨x, hx⟩ := get_some (l := c) (k := c.length - 1) (by have := h.pos; omega)
    refine ⟨c.length - 1, x, hx, hall _ (by have := h.pos; omega) x hx, fun t y ht hy => ?_, fun t y ht hy => by have := get_lt hy; omega⟩
    have h1 := h.mono hy (c.length - 1 - t - 1) (by rw [show t + (c.length - 1 - t - 1) + 1 = c.length - 1 by omega]; exact hx)
    have h2 := hall _ (by have := h.pos; omega) x hx
    have h3 : ¬ cv x tn td > 0 := by omega
    rw [cv_pos] at h3
    rw [cv_neg]
    exact frac_lt_le (h.den (List.mem_of_getElem? hy)) (h.den (List.mem_of_getElem? hx)) hd h1 (by omega)
  · cases j with
    | zero => exact (hbad fun x hx => by rw [h0] at hx; cases hx; exact hle).elim
    | succ j =>
      obtain ⟨x, hx⟩ := get_some (l := c) (k := j) (by omega)
      obtain ⟨z, hz⟩ := get_some (l := c) (k := j + 1) hj
      have hzp : cv z tn td > 0 := by
        rcases Int.lt_or_le 0 (cv z tn td) with g | g
        · exact g
        · exact (hbad fun x' hx' => by rw [hz] at hx'; cases hx'; exact g).elim
      have hle' := hbef j (by omega) x hx
      refine ⟨j, x, hx, hle', fun t y ht hy => ?_, fun t y ht hy => ?_⟩
      · have h1 := h.mono hy (j - t - 1) (by rw [show t + (j - t - 1) + 1 = j by omega]; exact hx)
        have h3 : ¬ cv x tn td > 0 := by omega
        rw [cv_pos] at h3
        rw [cv_neg]
        exact frac_lt_le (h.den (List.mem_of_getElem? hy)) (h.den (List.mem_of_getElem? hx)) hd h1 (by omega)
      · rcases Nat.lt_or_ge (j + 1) t with g | g
        · have h1 := h.mono hz (t - (j + 1) - 1) (by rw [show j + 1 + (t - (j + 1) - 1) + 1 = t by omega]; exact hy)
          rw [cv_pos] at *
          exact frac_lt hd (h.den (List.mem_of_getElem? hz)) (h.den (List.mem_of_getElem? hy)) hzp h1
        · have : t = j + 1 := by omega
          subst this
          rw [hz] at hy; cases hy; exact hzp
theorem RCk_ok {c : List Ld} (hi : ∀ x ∈ c, I64L x) (h : VC c) : FnL Tryz.prog 25 1 [.ls 0 c.length] [(0, 0, rowL c)] (.pv (.int .i64 0)) 0 [] := by
  have h1 := h.pos
  have h2 := h.len
  have id : ∀ x ∈ c, 0 ≤ x.id ∧ x.id ≤ 65535 := fun x hx => by
    have := h.ok x hx
    unfold okLd at this
    simp only [Bool.and_eq_true] at this
    exact ⟨of_decide_eq_true this.2.1, of_decide_eq_true this.2.2⟩
  refine rk_path (df (by omega)) (df (by omega)) (RunsL.rounds (fun k => [(0, .ls 0 c.length), (3, .pv (.int .i64 (k : Int)))]) (fun _ => [(0, 0, rowL c)]) c.length 0 (Nat.zero_add _) (fun k _ hk r => ?_) (rk_end (df (by omega))))
  obtain ⟨x, hx⟩ := get_some (l := c) (k := k) hk
  have hm := List.mem_of_getElem? hx
  cases k with
  | zero => exact rk_zero hx ⟨by omega, by omega⟩ (dt (by omega)) (RCheck_ok (hi x hm).n (hi x hm).d (h.tm hm)) (df (by have := id x hm; omega)) (df (by have := id x hm; omega)) (i64_succ (by omega)) r
  | succ k =>
    obtain ⟨y, hy⟩ := get_some (l := c) (k := k) (by omega)
    have hm' := List.mem_of_getElem? hy
    have hf := h.fol k y x hy hx
    unfold folB at hf
    simp only [Bool.and_eq_true] at hf
    have g2 := of_decide_eq_true hf.2
    have g1 := hf.1
    exact rk_next hx ⟨by omega, by omega⟩ hy ⟨by omega, by omega⟩ (dt (by omega)) (RCheck_ok (hi x hm).n (hi x hm).d (h.tm hm)) (df (by have := id x hm; omega)) (df (by have := id x hm; omega)) (dt (by omega)) (i64_pred k (by omega)) (RCompare_any (hi y hm').n (hi y hm').d (hi x hm).n (hi x hm).d) (df (by omega)) (by rw [beq_eq_false_iff_ne]; intro e; rw [e] at g1; simp at g1) (i64_succ (by omega)) r
theorem Same5 {s : List Ld} (hn : s.length ≤ 100000) : FnL Tryz.prog 9 2 [.ls 0 s.length, .ls 1 s.length] [(0, 0, rowL s), (1, 0, rowL s)] (.pv (.bool true)) 0 [] := by
  refine sl_path (by simp) (RunsL.rounds (fun k => [(0, .ls 0 s.length), (1, .ls 1 s.length), (5, .pv (.int .i64 (k : Int)))]) (fun _ => [(0, 0, rowL s), (1, 0, rowL s)]) s.length 0 (Nat.zero_add _) (fun k _ hk r => ?_) (sl_end (df (by omega))))
  obtain ⟨m, hm⟩ := get_some (l := s) (k := k) (by omega)
  exact sl_next hm ⟨by omega, by omega⟩ (dt (by omega)) (by simp) (by rw [wrap_i64_in (by omega) (by omega)]; rfl) r
theorem Known_ok {l : List Pt} (hv : Val l) {s : List Ld} (hn : s.length ≤ 100000) (h : ∀ x ∈ s, ∃ p ∈ l, p.id = x.id) : FnL Tryz.prog 26 2 [fldS 0 l, .ls 1 s.length] [(0, 0, rowP l), (1, 0, rowL s)] (.pv (.bool true)) 0 [] := by
  refine kn_path (RunsL.rounds (fun k => [(1, .ls 1 s.length), (2, .pp 2 0), (5, .pv (.int .i64 (k : Int)))]) (fun _ => [(2, 0, .ls 0 l.length), (0, 0, rowP l), (1, 0, rowL s)]) s.length 0 (Nat.zero_add _) (fun k _ hk r => ?_) (kn_end (df (by omega))))
  obtain ⟨x, hx⟩ := get_some (l := s) (k := k) (by omega)
  obtain ⟨p, hp, he⟩ := h x (List.mem_of_getElem? hx)
  obtain ⟨j, hj, ej⟩ := List.getElem_of_mem hp
  exact kn_next hx ⟨by omega, by omega⟩ (dt (by omega)) (At_yes hv (by rw [List.getElem?_eq_getElem hj, ej]) he) (df (by omega)) (i64_succ (by omega)) r
end Go.Proofs.YtpngjeloiifgnaaGreat
