/-
  Joined: Hb, Hm. Conditions: none.
-/
import Derived.Test.YtoheadpehomdjaaHa
import Derived.Test.YtoheadpehomdjaaFq
namespace Go.Proofs.Ytoheadpehomdjaa
open Go.RowKit
set_option maxRecDepth 100000 in
theorem ck_bad {s : List Ld} {k : Nat} {x : Ld} (hk : s[k]? = some x) (hin : 0 ≤ (k : Int) ∧ (k : Int) < (s.length : Int)) (hlt : decide ((k : Int) < (s.length : Int)) = true) (hi : Pure Try.prog 25 #[leadV x] (.bool false)) : RunsL Try.prog 1 1 (loopOf Try.prog 11 0) 38 1 ([(0, .ls 0 s.length), (13, .ls 0 s.length), (14, .pv (.int .i64 (s.length : Int))), (15, .pv (.int .i64 (k : Int)))]) ([(0, 0, rowL s)]) (.ret) ([(2, .pv (.int .i64 8))]) ([]) :=
  RunsL.stop [] 300 [.t true, .r (leadV x), .r (.bool false), .k] (fun h => by cases h)
    (round_of (And.intro hlt (And.intro hin (And.intro (ra_ld hk) (And.intro hi True.intro)))) (by kernel_rfl))

set_option maxRecDepth 100000 in
theorem ck_zero {s : List Ld} {x : Ld} (hk : s[0]? = some x) (hin : 0 ≤ ((0 : Nat) : Int) ∧ ((0 : Nat) : Int) < (s.length : Int)) (hlt : decide (((0 : Nat) : Int) < (s.length : Int)) = true) (hi : Pure Try.prog 25 #[leadV x] (.bool true)) (hs : Value.int .i64 (IntKind.i64.wrap (((0 : Nat) : Int) + 1)) = .int .i64 (((0 + 1 : Nat) : Int))) {e : Exit} {tm2 : List (Nat × SV)} {hp2 : List (Nat × Nat × SV)}
    (r : RunsL Try.prog 1 1 (loopOf Try.prog 11 0) 38 1 ([(0, .ls 0 s.length), (13, .ls 0 s.length), (14, .pv (.int .i64 (s.length : Int))), (15, .pv (.int .i64 ((0 + 1 : Nat) : Int)))]) ([(0, 0, rowL s)]) e tm2 hp2) : RunsL Try.prog 1 1 (loopOf Try.prog 11 0) 38 1 ([(0, .ls 0 s.length), (13, .ls 0 s.length), (14, .pv (.int .i64 (s.length : Int))), (15, .pv (.int .i64 ((0 : Nat) : Int)))]) ([(0, 0, rowL s)]) e tm2 hp2 :=
  RunsL.next [] 300 [.t true, .r (leadV x), .r (.bool true), .k, .k, .r (.int .i64 (((0 + 1 : Nat) : Int)))]
    (round_of (And.intro hlt (And.intro hin (And.intro (ra_ld hk) (And.intro hi (And.intro hs True.intro))))) (by kernel_rfl)) r

set_option maxRecDepth 100000 in
theorem ck_next {s : List Ld} {k : Nat} {x y : Ld} (hk : s[k + 1]? = some y) (hin : 0 ≤ ((k + 1 : Nat) : Int) ∧ ((k + 1 : Nat) : Int) < (s.length : Int)) (hk0 : s[k]? = some x) (hin0 : 0 ≤ (k : Int) ∧ (k : Int) < (s.length : Int)) (hlt : decide (((k + 1 : Nat) : Int) < (s.length : Int)) = true) (hi : Pure Try.prog 25 #[leadV y] (.bool true)) (hpos : decide (((k + 1 : Nat) : Int) > 0) = true) (hm : Value.int .i64 (IntKind.i64.wrap (((k + 1 : Nat) : Int) - 1)) = .int .i64 ((k : Int))) (hfo : Pure Try.prog 26 #[leadV y, leadV x] (.bool true)) (hs : Value.int .i64 (IntKind.i64.wrap (((k + 1 : Nat) : Int) + 1)) = .int .i64 (((k + 1 + 1 : Nat) : Int))) {e : Exit} {tm2 : List (Nat × SV)} {hp2 : List (Nat × Nat × SV)}
    (r : RunsL Try.prog 1 1 (loopOf Try.prog 11 0) 38 1 ([(0, .ls 0 s.length), (13, .ls 0 s.length), (14, .pv (.int .i64 (s.length : Int))), (15, .pv (.int .i64 ((k + 1 + 1 : Nat) : Int)))]) ([(0, 0, rowL s)]) e tm2 hp2) : RunsL Try.prog 1 1 (loopOf Try.prog 11 0) 38 1 ([(0, .ls 0 s.length), (13, .ls 0 s.length), (14, .pv (.int .i64 (s.length : Int))), (15, .pv (.int .i64 ((k + 1 : Nat) : Int)))]) ([(0, 0, rowL s)]) e tm2 hp2 :=
  RunsL.next [] 300 [.t true, .r (leadV y), .r (.bool true), .k, .t true, .r (.int .i64 ((k : Int))), .r (leadV x), .r (.bool true), .k, .r (.int .i64 (((k + 1 + 1 : Nat) : Int)))]
    (round_of (And.intro hlt (And.intro hin (And.intro (ra_ld hk) (And.intro hi (And.intro hpos (And.intro hm (And.intro hin0 (And.intro (ra_ld hk0) (And.intro hfo (And.intro hs True.intro)))))))))) (by kernel_rfl)) r

set_option maxRecDepth 100000 in
theorem ck_order {s : List Ld} {k : Nat} {x y : Ld} (hk : s[k + 1]? = some y) (hin : 0 ≤ ((k + 1 : Nat) : Int) ∧ ((k + 1 : Nat) : Int) < (s.length : Int)) (hk0 : s[k]? = some x) (hin0 : 0 ≤ (k : Int) ∧ (k : Int) < (s.length : Int)) (hlt : decide (((k + 1 : Nat) : Int) < (s.length : Int)) = true) (hi : Pure Try.prog 25 #[leadV y] (.bool true)) (hpos : decide (((k + 1 : Nat) : Int) > 0) = true) (hm : Value.int .i64 (IntKind.i64.wrap (((k + 1 : Nat) : Int) - 1)) = .int .i64 ((k : Int))) (hfo : Pure Try.prog 26 #[leadV y, leadV x] (.bool false)) : RunsL Try.prog 1 1 (loopOf Try.prog 11 0) 38 1 ([(0, .ls 0 s.length), (13, .ls 0 s.length), (14, .pv (.int .i64 (s.length : Int))), (15, .pv (.int .i64 ((k + 1 : Nat) : Int)))]) ([(0, 0, rowL s)]) (.ret) ([(2, .pv (.int .i64 8))]) ([]) :=
  RunsL.stop [] 300 [.t true, .r (leadV y), .r (.bool true), .k, .t true, .r (.int .i64 ((k : Int))), .r (leadV x), .r (.bool false), .k] (fun h => by cases h)
    (round_of (And.intro hlt (And.intro hin (And.intro (ra_ld hk) (And.intro hi (And.intro hpos (And.intro hm (And.intro hin0 (And.intro (ra_ld hk0) (And.intro hfo True.intro))))))))) (by kernel_rfl))

set_option maxRecDepth 100000 in
theorem ck_end {s : List Ld} {k : Nat} (hge : decide ((k : Int) < (s.length : Int)) = false) : RunsL Try.prog 1 1 (loopOf Try.prog 11 0) 38 1 ([(0, .ls 0 s.length), (13, .ls 0 s.length), (14, .pv (.int .i64 (s.length : Int))), (15, .pv (.int .i64 (k : Int)))]) ([(0, 0, rowL s)]) (.exit 0) ([]) ([]) :=
  RunsL.stop [] 300 [.t false] (fun h => by cases h)
    (round_of (And.intro hge True.intro) (by kernel_rfl))

set_option maxRecDepth 100000 in
theorem ck_none {s : List Ld} (h0 : ((s.length : Int) == 0) = true) :
    FnL Try.prog 11 1 [.ls 0 s.length] [(0, 0, rowL s)] (.pv (.int .i64 (8))) 0 [] :=
  fnl_run 300 [] [.t true]
     True.intro (And.intro h0 True.intro) (by kernel_rfl)

set_option maxRecDepth 100000 in
theorem ck_many {s : List Ld} (h0 : ((s.length : Int) == 0) = false) (h3 : decide ((s.length : Int) > 300) = true) :
    FnL Try.prog 11 1 [.ls 0 s.length] [(0, 0, rowL s)] (.pv (.int .i64 (8))) 0 [] :=
  fnl_run 300 [] [.t false, .t true]
     True.intro (And.intro h0 (And.intro h3 True.intro)) (by kernel_rfl)

set_option maxRecDepth 100000 in
theorem ck_no {s : List Ld} (h0 : ((s.length : Int) == 0) = false) (h3 : decide ((s.length : Int) > 300) = false) (r0 : RunsL Try.prog 1 1 (loopOf Try.prog 11 0) 38 1 ([(0, .ls 0 s.length), (13, .ls 0 s.length), (14, .pv (.int .i64 (s.length : Int))), (15, .pv (.int .i64 ((0 : Nat) : Int)))]) ([(0, 0, rowL s)]) (.ret) ([(2, .pv (.int .i64 8))]) ([])) :
    FnL Try.prog 11 1 [.ls 0 s.length] [(0, 0, rowL s)] (.pv (.int .i64 (8))) 0 [] :=
  fnl_run 300 [] [.t false, .t false, .l (.ret) ([(0, .ls 0 s.length), (13, .ls 0 s.length), (14, .pv (.int .i64 (s.length : Int))), (15, .pv (.int .i64 ((0 : Nat) : Int)))]) ([(0, 0, rowL s)]) ([(2, .pv (.int .i64 8))]) ([])]
     True.intro (And.intro h0 (And.intro h3 (And.intro (reflT (renN []) ([(0, .ls 0 s.length), (13, .ls 0 s.length), (14, .pv (.int .i64 (s.length : Int))), (15, .pv (.int .i64 ((0 : Nat) : Int)))])) (And.intro (reflH (renN []) ([(0, 0, rowL s)])) (And.intro r0 True.intro))))) (by kernel_rfl)

set_option maxRecDepth 100000 in
theorem ck_yes {s : List Ld} (h0 : ((s.length : Int) == 0) = false) (h3 : decide ((s.length : Int) > 300) = false) (r0 : RunsL Try.prog 1 1 (loopOf Try.prog 11 0) 38 1 ([(0, .ls 0 s.length), (13, .ls 0 s.length), (14, .pv (.int .i64 (s.length : Int))), (15, .pv (.int .i64 ((0 : Nat) : Int)))]) ([(0, 0, rowL s)]) (.exit 0) ([]) ([])) :
    FnL Try.prog 11 1 [.ls 0 s.length] [(0, 0, rowL s)] (.pv (.int .i64 (0))) 0 [] :=
  fnl_run 300 [] [.t false, .t false, .l (.exit 0) ([(0, .ls 0 s.length), (13, .ls 0 s.length), (14, .pv (.int .i64 (s.length : Int))), (15, .pv (.int .i64 ((0 : Nat) : Int)))]) ([(0, 0, rowL s)]) ([]) ([])]
     True.intro (And.intro h0 (And.intro h3 (And.intro (reflT (renN []) ([(0, .ls 0 s.length), (13, .ls 0 s.length), (14, .pv (.int .i64 (s.length : Int))), (15, .pv (.int .i64 ((0 : Nat) : Int)))])) (And.intro (reflH (renN []) ([(0, 0, rowL s)])) (And.intro r0 True.intro))))) (by kernel_rfl)

set_option maxRecDepth 100000 in
theorem lbs_up {s : List Ld} {i j h : Nat} {x : Ld} {c tn td : Int} (hk : s[h]? = some x) (hin : 0 ≤ (h : Int) ∧ (h : Int) < (s.length : Int)) (hlt : decide ((i : Int) < (j : Int)) = true) (ha : Value.int .i64 (IntKind.i64.wrap ((i : Int) + (j : Int))) = .int .i64 ((i : Int) + (j : Int))) (hu : Value.int .u64 (IntKind.u64.wrap ((i : Int) + (j : Int))) = .int .u64 ((i : Int) + (j : Int))) (h1 : ¬ (1 : Int) < 0) (hs : Value.int .u64 (((i : Int) + (j : Int)).fdiv (2 ^ (min (1 : Int).toNat IntKind.u64.bits))) = .int .u64 (h : Int)) (hb : Value.int .i64 (IntKind.i64.wrap (h : Int)) = .int .i64 ((h : Int))) (hc : Pure Try.prog 38 #[leadV x, ratioV tn td] (.int .i64 (c))) (hz : decide (c < 0) = true) (hh : Value.int .i64 (IntKind.i64.wrap ((h : Int) + 1)) = .int .i64 (((h + 1 : Nat) : Int))) {e : Exit} {tm2 : List (Nat × SV)} {hp2 : List (Nat × Nat × SV)}
    (r : RunsL Try.prog 1 1 (loopOf Try.prog 37 0) 49 2 ([(0, .ls 0 s.length), (2, .pv (.func (.func 38) #[] #[])), (4, .pp 1 0), (8, .pv (.int .i64 (s.length : Int))), (9, .pv (.int .i64 ((h + 1 : Nat) : Int))), (10, .pv (.int .i64 (j : Int)))]) ([(1, 0, .pv (.int .i64 tn)), (1, 1, .pv (.int .i64 td)), (0, 0, rowL s)]) e tm2 hp2) : RunsL Try.prog 1 1 (loopOf Try.prog 37 0) 49 2 ([(0, .ls 0 s.length), (2, .pv (.func (.func 38) #[] #[])), (4, .pp 1 0), (8, .pv (.int .i64 (s.length : Int))), (9, .pv (.int .i64 (i : Int))), (10, .pv (.int .i64 (j : Int)))]) ([(1, 0, .pv (.int .i64 tn)), (1, 1, .pv (.int .i64 td)), (0, 0, rowL s)]) e tm2 hp2 :=
  RunsL.next [] 300 [.t true, .r (.int .i64 ((i : Int) + (j : Int))), .r (.int .u64 ((i : Int) + (j : Int))), .r (.int .u64 (h : Int)), .r (.int .i64 ((h : Int))), .r (leadV x), .r (.int .i64 (c)), .t true, .r (.int .i64 (((h + 1 : Nat) : Int)))]
    (round_of (And.intro hlt (And.intro ha (And.intro hu (And.intro h1 (And.intro hs (And.intro hb (And.intro hin (And.intro (ra_ld hk) (And.intro hc (And.intro hz (And.intro hh True.intro))))))))))) (by kernel_rfl)) r

set_option maxRecDepth 100000 in
theorem lbs_dn {s : List Ld} {i j h : Nat} {x : Ld} {c tn td : Int} (hk : s[h]? = some x) (hin : 0 ≤ (h : Int) ∧ (h : Int) < (s.length : Int)) (hlt : decide ((i : Int) < (j : Int)) = true) (ha : Value.int .i64 (IntKind.i64.wrap ((i : Int) + (j : Int))) = .int .i64 ((i : Int) + (j : Int))) (hu : Value.int .u64 (IntKind.u64.wrap ((i : Int) + (j : Int))) = .int .u64 ((i : Int) + (j : Int))) (h1 : ¬ (1 : Int) < 0) (hs : Value.int .u64 (((i : Int) + (j : Int)).fdiv (2 ^ (min (1 : Int).toNat IntKind.u64.bits))) = .int .u64 (h : Int)) (hb : Value.int .i64 (IntKind.i64.wrap (h : Int)) = .int .i64 ((h : Int))) (hc : Pure Try.prog 38 #[leadV x, ratioV tn td] (.int .i64 (c))) (hz : decide (c < 0) = false) {e : Exit} {tm2 : List (Nat × SV)} {hp2 : List (Nat × Nat × SV)}
    (r : RunsL Try.prog 1 1 (loopOf Try.prog 37 0) 49 2 ([(0, .ls 0 s.length), (2, .pv (.func (.func 38) #[] #[])), (4, .pp 1 0), (8, .pv (.int .i64 (s.length : Int))), (9, .pv (.int .i64 (i : Int))), (10, .pv (.int .i64 (h : Int)))]) ([(1, 0, .pv (.int .i64 tn)), (1, 1, .pv (.int .i64 td)), (0, 0, rowL s)]) e tm2 hp2) : RunsL Try.prog 1 1 (loopOf Try.prog 37 0) 49 2 ([(0, .ls 0 s.length), (2, .pv (.func (.func 38) #[] #[])), (4, .pp 1 0), (8, .pv (.int .i64 (s.length : Int))), (9, .pv (.int .i64 (i : Int))), (10, .pv (.int .i64 (j : Int)))]) ([(1, 0, .pv (.int .i64 tn)), (1, 1, .pv (.int .i64 td)), (0, 0, rowL s)]) e tm2 hp2 :=
  RunsL.next [] 300 [.t true, .r (.int .i64 ((i : Int) + (j : Int))), .r (.int .u64 ((i : Int) + (j : Int))), .r (.int .u64 (h : Int)), .r (.int .i64 ((h : Int))), .r (leadV x), .r (.int .i64 (c)), .t false]
    (round_of (And.intro hlt (And.intro ha (And.intro hu (And.intro h1 (And.intro hs (And.intro hb (And.intro hin (And.intro (ra_ld hk) (And.intro hc (And.intro hz True.intro)))))))))) (by kernel_rfl)) r

set_option maxRecDepth 100000 in
theorem lbs_end {s : List Ld} {i j : Nat} {tn td : Int} (hge : decide ((i : Int) < (j : Int)) = false) : RunsL Try.prog 1 1 (loopOf Try.prog 37 0) 49 2 ([(0, .ls 0 s.length), (2, .pv (.func (.func 38) #[] #[])), (4, .pp 1 0), (8, .pv (.int .i64 (s.length : Int))), (9, .pv (.int .i64 (i : Int))), (10, .pv (.int .i64 (j : Int)))]) ([(1, 0, .pv (.int .i64 tn)), (1, 1, .pv (.int .i64 td)), (0, 0, rowL s)]) (.exit 0) ([(0, .ls 0 s.length), (2, .pv (.func (.func 38) #[] #[])), (4, .pp 1 0), (8, .pv (.int .i64 (s.length : Int))), (9, .pv (.int .i64 (i : Int))), (10, .pv (.int .i64 (j : Int)))]) ([(1, 0, .pv (.int .i64 tn)), (1, 1, .pv (.int .i64 td)), (0, 0, rowL s)]) :=
  RunsL.stop [] 300 [.t false] (fun h => by cases h)
    (round_of (And.intro hge True.intro) (by kernel_rfl))

set_option maxRecDepth 100000 in
theorem lbf_out {s : List Ld} {k : Nat} {tn td : Int} (r0 : RunsL Try.prog 1 1 (loopOf Try.prog 37 0) 49 2 ([(0, .ls 0 s.length), (2, .pv (.func (.func 38) #[] #[])), (4, .pp 1 0), (8, .pv (.int .i64 (s.length : Int))), (9, .pv (.int .i64 ((0 : Nat) : Int))), (10, .pv (.int .i64 (s.length : Int)))]) ([(1, 0, .pv (.int .i64 tn)), (1, 1, .pv (.int .i64 td)), (0, 0, rowL s)]) (.exit 0) ([(0, .ls 0 s.length), (2, .pv (.func (.func 38) #[] #[])), (4, .pp 1 0), (8, .pv (.int .i64 (s.length : Int))), (9, .pv (.int .i64 (k : Int))), (10, .pv (.int .i64 (k : Int)))]) ([(1, 0, .pv (.int .i64 tn)), (1, 1, .pv (.int .i64 td)), (0, 0, rowL s)])) (hge : decide ((k : Int) < (s.length : Int)) = false) :
    FnL Try.prog 37 1 [.ls 0 s.length, .pv (ratioV tn td), .pv (.func (.func 38) #[] #[])] [(0, 0, rowL s)] (.pv (.tuple #[.int .i64 (k : Int), .bool false])) 0 [] :=
  fnl_run 300 [] [.l (.exit 0) ([(0, .ls 0 s.length), (2, .pv (.func (.func 38) #[] #[])), (4, .pp 1 0), (8, .pv (.int .i64 (s.length : Int))), (9, .pv (.int .i64 ((0 : Nat) : Int))), (10, .pv (.int .i64 (s.length : Int)))]) ([(1, 0, .pv (.int .i64 tn)), (1, 1, .pv (.int .i64 td)), (0, 0, rowL s)]) ([(0, .ls 0 s.length), (2, .pv (.func (.func 38) #[] #[])), (4, .pp 1 0), (8, .pv (.int .i64 (s.length : Int))), (9, .pv (.int .i64 (k : Int))), (10, .pv (.int .i64 (k : Int)))]) ([(1, 0, .pv (.int .i64 tn)), (1, 1, .pv (.int .i64 td)), (0, 0, rowL s)]), .t false]
     True.intro (And.intro (reflT (renN []) ([(0, .ls 0 s.length), (2, .pv (.func (.func 38) #[] #[])), (4, .pp 1 0), (8, .pv (.int .i64 (s.length : Int))), (9, .pv (.int .i64 ((0 : Nat) : Int))), (10, .pv (.int .i64 (s.length : Int)))])) (And.intro (reflH (renN []) ([(1, 0, .pv (.int .i64 tn)), (1, 1, .pv (.int .i64 td)), (0, 0, rowL s)])) (And.intro r0 (And.intro hge True.intro)))) (by kernel_rfl)

set_option maxRecDepth 100000 in
theorem lbf_hit {s : List Ld} {k : Nat} {x : Ld} {c tn td : Int} (r0 : RunsL Try.prog 1 1 (loopOf Try.prog 37 0) 49 2 ([(0, .ls 0 s.length), (2, .pv (.func (.func 38) #[] #[])), (4, .pp 1 0), (8, .pv (.int .i64 (s.length : Int))), (9, .pv (.int .i64 ((0 : Nat) : Int))), (10, .pv (.int .i64 (s.length : Int)))]) ([(1, 0, .pv (.int .i64 tn)), (1, 1, .pv (.int .i64 td)), (0, 0, rowL s)]) (.exit 0) ([(0, .ls 0 s.length), (2, .pv (.func (.func 38) #[] #[])), (4, .pp 1 0), (8, .pv (.int .i64 (s.length : Int))), (9, .pv (.int .i64 (k : Int))), (10, .pv (.int .i64 (k : Int)))]) ([(1, 0, .pv (.int .i64 tn)), (1, 1, .pv (.int .i64 td)), (0, 0, rowL s)])) (hk : s[k]? = some x) (hin : 0 ≤ (k : Int) ∧ (k : Int) < (s.length : Int)) (hlt : decide ((k : Int) < (s.length : Int)) = true) (hc : Pure Try.prog 38 #[leadV x, ratioV tn td] (.int .i64 (c))) (hz : (c == 0) = true) :
    FnL Try.prog 37 1 [.ls 0 s.length, .pv (ratioV tn td), .pv (.func (.func 38) #[] #[])] [(0, 0, rowL s)] (.pv (.tuple #[.int .i64 (k : Int), .bool true])) 0 [] :=
  fnl_run 300 [] [.l (.exit 0) ([(0, .ls 0 s.length), (2, .pv (.func (.func 38) #[] #[])), (4, .pp 1 0), (8, .pv (.int .i64 (s.length : Int))), (9, .pv (.int .i64 ((0 : Nat) : Int))), (10, .pv (.int .i64 (s.length : Int)))]) ([(1, 0, .pv (.int .i64 tn)), (1, 1, .pv (.int .i64 td)), (0, 0, rowL s)]) ([(0, .ls 0 s.length), (2, .pv (.func (.func 38) #[] #[])), (4, .pp 1 0), (8, .pv (.int .i64 (s.length : Int))), (9, .pv (.int .i64 (k : Int))), (10, .pv (.int .i64 (k : Int)))]) ([(1, 0, .pv (.int .i64 tn)), (1, 1, .pv (.int .i64 td)), (0, 0, rowL s)]), .t true, .r (leadV x), .r (.int .i64 (c)), .t true]
     True.intro (And.intro (reflT (renN []) ([(0, .ls 0 s.length), (2, .pv (.func (.func 38) #[] #[])), (4, .pp 1 0), (8, .pv (.int .i64 (s.length : Int))), (9, .pv (.int .i64 ((0 : Nat) : Int))), (10, .pv (.int .i64 (s.length : Int)))])) (And.intro (reflH (renN []) ([(1, 0, .pv (.int .i64 tn)), (1, 1, .pv (.int .i64 td)), (0, 0, rowL s)])) (And.intro r0 (And.intro hlt (And.intro hin (And.intro (ra_ld hk) (And.intro hc (And.intro hz True.intro)))))))) (by kernel_rfl)

set_option maxRecDepth 100000 in
theorem lbf_no {s : List Ld} {k : Nat} {x : Ld} {c tn td : Int} (r0 : RunsL Try.prog 1 1 (loopOf Try.prog 37 0) 49 2 ([(0, .ls 0 s.length), (2, .pv (.func (.func 38) #[] #[])), (4, .pp 1 0), (8, .pv (.int .i64 (s.length : Int))), (9, .pv (.int .i64 ((0 : Nat) : Int))), (10, .pv (.int .i64 (s.length : Int)))]) ([(1, 0, .pv (.int .i64 tn)), (1, 1, .pv (.int .i64 td)), (0, 0, rowL s)]) (.exit 0) ([(0, .ls 0 s.length), (2, .pv (.func (.func 38) #[] #[])), (4, .pp 1 0), (8, .pv (.int .i64 (s.length : Int))), (9, .pv (.int .i64 (k : Int))), (10, .pv (.int .i64 (k : Int)))]) ([(1, 0, .pv (.int .i64 tn)), (1, 1, .pv (.int .i64 td)), (0, 0, rowL s)])) (hk : s[k]? = some x) (hin : 0 ≤ (k : Int) ∧ (k : Int) < (s.length : Int)) (hlt : decide ((k : Int) < (s.length : Int)) = true) (hc : Pure Try.prog 38 #[leadV x, ratioV tn td] (.int .i64 (c))) (hz : (c == 0) = false) :
    FnL Try.prog 37 1 [.ls 0 s.length, .pv (ratioV tn td), .pv (.func (.func 38) #[] #[])] [(0, 0, rowL s)] (.pv (.tuple #[.int .i64 (k : Int), .bool false])) 0 [] :=
  fnl_run 300 [] [.l (.exit 0) ([(0, .ls 0 s.length), (2, .pv (.func (.func 38) #[] #[])), (4, .pp 1 0), (8, .pv (.int .i64 (s.length : Int))), (9, .pv (.int .i64 ((0 : Nat) : Int))), (10, .pv (.int .i64 (s.length : Int)))]) ([(1, 0, .pv (.int .i64 tn)), (1, 1, .pv (.int .i64 td)), (0, 0, rowL s)]) ([(0, .ls 0 s.length), (2, .pv (.func (.func 38) #[] #[])), (4, .pp 1 0), (8, .pv (.int .i64 (s.length : Int))), (9, .pv (.int .i64 (k : Int))), (10, .pv (.int .i64 (k : Int)))]) ([(1, 0, .pv (.int .i64 tn)), (1, 1, .pv (.int .i64 td)), (0, 0, rowL s)]), .t true, .r (leadV x), .r (.int .i64 (c)), .t false]
     True.intro (And.intro (reflT (renN []) ([(0, .ls 0 s.length), (2, .pv (.func (.func 38) #[] #[])), (4, .pp 1 0), (8, .pv (.int .i64 (s.length : Int))), (9, .pv (.int .i64 ((0 : Nat) : Int))), (10, .pv (.int .i64 (s.length : Int)))])) (And.intro (reflH (renN []) ([(1, 0, .pv (.int .i64 tn)), (1, 1, .pv (.int .i64 td)), (0, 0, rowL s)])) (And.intro r0 (And.intro hlt (And.intro hin (And.intro (ra_ld hk) (And.intro hc (And.intro hz True.intro)))))))) (by kernel_rfl)

set_option maxRecDepth 100000 in
theorem lat_hit {s : List Ld} {k : Nat} {x : Ld} {tn td : Int} (hb : FnL Try.prog 37 1 [.ls 0 s.length, .pv (ratioV tn td), .pv (.func (.func 38) #[] #[])] [(0, 0, rowL s)] (.pv (.tuple #[.int .i64 (k : Int), .bool true])) 0 []) (hk : s[k]? = some x) (hin : 0 ≤ (k : Int) ∧ (k : Int) < (s.length : Int)) :
    FnL Try.prog 21 1 [.ls 0 s.length, .pv (ratioV tn td)] [(0, 0, rowL s)] (.pv (.int .i64 (x.id))) 0 [] :=
  fnl_run 300 [] [.f [0] [.ls 0 s.length, .pv (ratioV tn td), .pv (.func (.func 38) #[] #[])] [(0, 0, rowL s)] (.pv (.tuple #[.int .i64 (k : Int), .bool true])) 0 [], .k, .r (.int .i64 (x.id))]
     True.intro (And.intro hb (And.intro (Eq.refl (List.map (SV.ren (renU [0] 2)) [.ls 0 s.length, .pv (ratioV tn td), .pv (.func (.func 38) #[] #[])])) (And.intro (reflH (renU [0] 2) [(0, 0, rowL s)]) (And.intro hin (And.intro (ra_li hk) True.intro))))) (by kernel_rfl)

set_option maxRecDepth 100000 in
theorem lat_no {s : List Ld} {k : Nat} {x : Ld} {tn td : Int} (hb : FnL Try.prog 37 1 [.ls 0 s.length, .pv (ratioV tn td), .pv (.func (.func 38) #[] #[])] [(0, 0, rowL s)] (.pv (.tuple #[.int .i64 ((k + 1 : Nat) : Int), .bool false])) 0 []) (hm : Value.int .i64 (IntKind.i64.wrap (((k + 1 : Nat) : Int) - 1)) = .int .i64 ((k : Int))) (hk : s[k]? = some x) (hin : 0 ≤ (k : Int) ∧ (k : Int) < (s.length : Int)) :
    FnL Try.prog 21 1 [.ls 0 s.length, .pv (ratioV tn td)] [(0, 0, rowL s)] (.pv (.int .i64 (x.id))) 0 [] :=
  fnl_run 300 [] [.f [0] [.ls 0 s.length, .pv (ratioV tn td), .pv (.func (.func 38) #[] #[])] [(0, 0, rowL s)] (.pv (.tuple #[.int .i64 ((k + 1 : Nat) : Int), .bool false])) 0 [], .k, .r (.int .i64 ((k : Int))), .r (.int .i64 (x.id))]
     True.intro (And.intro hb (And.intro (Eq.refl (List.map (SV.ren (renU [0] 2)) [.ls 0 s.length, .pv (ratioV tn td), .pv (.func (.func 38) #[] #[])])) (And.intro (reflH (renU [0] 2) [(0, 0, rowL s)]) (And.intro hm (And.intro hin (And.intro (ra_li hk) True.intro)))))) (by kernel_rfl)

set_option maxRecDepth 100000 in
theorem cat_bad1 {s : List Ld} {tn td e2 : Int} (hc : FnL Try.prog 11 1 [.ls 0 s.length] [(0, 0, rowL s)] (.pv (.int .i64 (8))) 0 []) (ht : Pure Try.prog 19 #[ratioV tn td] (.int .i64 (e2))) :
    FnL Try.prog 9 1 [.ls 0 s.length, .pv (ratioV tn td)] [(0, 0, rowL s)] (.pv (.tuple #[.int .i64 (0), .int .i64 (8)])) 0 [] :=
  fnl_run 300 [] [.f [0] [.ls 0 s.length] [(0, 0, rowL s)] (.pv (.int .i64 (8))) 0 [], .r (.int .i64 (e2)), .k, .k, .k, .k]
     True.intro (And.intro hc (And.intro (Eq.refl (List.map (SV.ren (renU [0] 2)) [.ls 0 s.length])) (And.intro (reflH (renU [0] 2) [(0, 0, rowL s)]) (And.intro ht True.intro)))) (by kernel_rfl)

set_option maxRecDepth 100000 in
theorem cat_bad2 {s : List Ld} {tn td : Int} (hc : FnL Try.prog 11 1 [.ls 0 s.length] [(0, 0, rowL s)] (.pv (.int .i64 (0))) 0 []) (ht : Pure Try.prog 19 #[ratioV tn td] (.int .i64 (8))) :
    FnL Try.prog 9 1 [.ls 0 s.length, .pv (ratioV tn td)] [(0, 0, rowL s)] (.pv (.tuple #[.int .i64 (0), .int .i64 (8)])) 0 [] :=
  fnl_run 300 [] [.f [0] [.ls 0 s.length] [(0, 0, rowL s)] (.pv (.int .i64 (0))) 0 [], .r (.int .i64 (8)), .k, .k, .k, .k, .k, .k]
     True.intro (And.intro hc (And.intro (Eq.refl (List.map (SV.ren (renU [0] 2)) [.ls 0 s.length])) (And.intro (reflH (renU [0] 2) [(0, 0, rowL s)]) (And.intro ht True.intro)))) (by kernel_rfl)

set_option maxRecDepth 100000 in
theorem cat_past {s : List Ld} {x : Ld} {tn td : Int} (hc : FnL Try.prog 11 1 [.ls 0 s.length] [(0, 0, rowL s)] (.pv (.int .i64 (0))) 0 []) (ht : Pure Try.prog 19 #[ratioV tn td] (.int .i64 (0))) (hk : s[0]? = some x) (hin : 0 ≤ (0 : Int) ∧ (0 : Int) < (s.length : Int)) (hb : Pure Try.prog 20 #[ratioV tn td, ratioV x.n x.d] (.bool true)) :
    FnL Try.prog 9 1 [.ls 0 s.length, .pv (ratioV tn td)] [(0, 0, rowL s)] (.pv (.tuple #[.int .i64 (0), .int .i64 (44)])) 0 [] :=
  fnl_run 300 [] [.f [0] [.ls 0 s.length] [(0, 0, rowL s)] (.pv (.int .i64 (0))) 0 [], .r (.int .i64 (0)), .k, .k, .k, .k, .k, .k, .k, .k, .k, .r (ratioV x.n x.d), .r (.bool true)]
     True.intro (And.intro hc (And.intro (Eq.refl (List.map (SV.ren (renU [0] 2)) [.ls 0 s.length])) (And.intro (reflH (renU [0] 2) [(0, 0, rowL s)]) (And.intro ht (And.intro hin (And.intro (ra_lf hk) (And.intro hb True.intro))))))) (by kernel_rfl)

set_option maxRecDepth 100000 in
theorem cat_ok {s : List Ld} {x : Ld} {tn td id : Int} (hc : FnL Try.prog 11 1 [.ls 0 s.length] [(0, 0, rowL s)] (.pv (.int .i64 (0))) 0 []) (ht : Pure Try.prog 19 #[ratioV tn td] (.int .i64 (0))) (hk : s[0]? = some x) (hin : 0 ≤ (0 : Int) ∧ (0 : Int) < (s.length : Int)) (hb : Pure Try.prog 20 #[ratioV tn td, ratioV x.n x.d] (.bool false)) (hla : FnL Try.prog 21 1 [.ls 0 s.length, .pv (ratioV tn td)] [(0, 0, rowL s)] (.pv (.int .i64 (id))) 0 []) :
    FnL Try.prog 9 1 [.ls 0 s.length, .pv (ratioV tn td)] [(0, 0, rowL s)] (.pv (.tuple #[.int .i64 (id), .int .i64 (0)])) 0 [] :=
  fnl_run 300 [] [.f [0] [.ls 0 s.length] [(0, 0, rowL s)] (.pv (.int .i64 (0))) 0 [], .r (.int .i64 (0)), .k, .k, .k, .k, .k, .k, .k, .k, .k, .r (ratioV x.n x.d), .r (.bool false), .f [0] [.ls 0 s.length, .pv (ratioV tn td)] [(0, 0, rowL s)] (.pv (.int .i64 (id))) 0 []]
     True.intro (And.intro hc (And.intro (Eq.refl (List.map (SV.ren (renU [0] 2)) [.ls 0 s.length])) (And.intro (reflH (renU [0] 2) [(0, 0, rowL s)]) (And.intro ht (And.intro hin (And.intro (ra_lf hk) (And.intro hb (And.intro hla (And.intro (Eq.refl (List.map (SV.ren (renU [0] 2)) [.ls 0 s.length, .pv (ratioV tn td)])) (And.intro (reflH (renU [0] 2) [(0, 0, rowL s)]) True.intro)))))))))) (by kernel_rfl)
end Go.Proofs.Ytoheadpehomdjaa

namespace Go.Proofs.Ytoheadpehomdjaa
open Go.ChangeShapes Go.WideShapes Go.ChangeAt Go.RowKit Go.Joins Go.Deep
section
variable {H : Type} {enc : TypeId × Value → H} {W : World} {base : Nat} {spare : Nat → Bool} {held : Bool}
end
/-- The rows of what came in: names from j on. -/
def rowsH : Nat → List (TypeId × Nat × Nat × List Value) → List (Nat × Nat × SV)
  | _, [] => []
  | j, (e, es, n, xs) :: r => (j, 0, .row e es n xs) :: rowsH (j + 1) r
theorem rowsH_get : ∀ (rs : List (TypeId × Nat × Nat × List Value)) (j b o : Nat) (sv : SV), lookH (rowsH j rs) b o = some sv → ∃ k e es n xs, b = j + k ∧ rs[k]? = some (e, es, n, xs) ∧ sv = .row e es n xs
  | [], j, b, o, sv, h => by cases h
  | (e, es, n, xs) :: r, j, b, o, sv, h => by
    simp only [rowsH, lookH] at h
    cases hc : (Nat.beq j b && Nat.beq 0 o)
    · rw [hc, cond_false] at h
      obtain ⟨k, e', es', n', xs', h1, h2, h3⟩ := rowsH_get r (j + 1) b o sv h
      exact ⟨k + 1, e', es', n', xs', by omega, by simpa using h2, h3⟩
    · rw [hc, cond_true] at h
      rw [Bool.and_eq_true] at hc
      have := Nat.eq_of_beq_eq_true hc.1
      cases h
      exact ⟨0, e, es, n, xs, by omega, rfl, rfl⟩
def inBs (us : List Value) : Bl := ⟨fun _ => none, fun b => us[b]?⟩
/-- What came in can be read: a real slice for each row. -/
inductive Ins (W : World) : List Value → List (TypeId × Nat × Nat × List Value) → Prop where
  | nil : Ins W [] []
  | cons {u : Value} {us : List Value} {e : TypeId} {es n : Nat} {xs : List Value} {rs : List (TypeId × Nat × Nat × List Value)} (h : Rd W es u n xs) (h1 : ∀ v ∈ xs, v.oneCell' = true) (r : Ins W us rs) : Ins W (u :: us) ((e, es, n, xs) :: rs)
theorem Ins.get {W : World} {us : List Value} {rs : List (TypeId × Nat × Nat × List Value)} (h : Ins W us rs) : ∀ (k : Nat) (e : TypeId) (es n : Nat) (xs : List Value), rs[k]? = some (e, es, n, xs) → ∃ u, us[k]? = some u ∧ Rd W es u n xs ∧ ∀ v ∈ xs, v.oneCell' = true := by
  induction h with
  | nil => intro k e es n xs h; simp at h
  | cons h h1 r ih =>
    intro k e es n xs hk
    cases k with
    | zero => cases hk; exact ⟨_, rfl, h, h1⟩
    | succ k => exact ih k e es n xs (by simpa using hk)
theorem Ins.len {W : World} {us : List Value} {rs : List (TypeId × Nat × Nat × List Value)} (h : Ins W us rs) : us.length = rs.length := by
  induction h with
  | nil => rfl
  | cons _ _ _ ih => simp [ih]
theorem ins_rel {W : World} {us : List Value} {rs : List (TypeId × Nat × Nat × List Value)} (h : Ins W us rs) : HRel W rs.length (inBs us) (rowsH 0 rs) W where
  gr := Gr.refl W
  live := fun b r h => by cases h
  inj := fun b c r h => by cases h
  new := fun b r _ h => by cases h
  sep := fun b r h => by cases h
  cells := fun b o sv hl hs => by
    obtain ⟨k, e, es, n, xs, _, _, rfl⟩ := rowsH_get rs 0 b o sv hl
    cases hs
  rows := fun b o e es n xs hl => by
    obtain ⟨k, e', es', n', xs', hb, hk, he⟩ := rowsH_get rs 0 b o _ hl
    cases he
    obtain ⟨u, h1, h2, h3⟩ := h.get k e es n xs hk
    have hlt : k < rs.length := (List.getElem?_eq_some_iff.1 hk).1
    have e0 : b = k := by omega
    subst e0
    exact ⟨u, h1, h2, h3, fun _ hx => h2.lt hx, fun h => by omega, fun h => by omega⟩
  rinj := fun b o e es n xs c o' e' es' n' xs' u v hl hl' h1 h2 => by
    obtain ⟨k, _, _, _, _, hb, hk, _⟩ := rowsH_get rs 0 b o _ hl
    have hlt : k < rs.length := (List.getElem?_eq_some_iff.1 hk).1
    omega
theorem ins_dom {W : World} {us : List Value} {rs : List (TypeId × Nat × Nat × List Value)} (h : Ins W us rs) : (inBs us).dom rs.length := fun b hb => ⟨rfl, List.getElem?_eq_none (by rw [h.len]; exact hb)⟩
end Go.Proofs.Ytoheadpehomdjaa
