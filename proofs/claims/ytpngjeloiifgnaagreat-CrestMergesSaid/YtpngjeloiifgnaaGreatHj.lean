/-
  The reference's Check and At, and At of crests, at any list of leads. Conditions: none.
-/
import Derived.Test.YtpngjeloiifgnaaGreatW41
namespace Go.Proofs.YtpngjeloiifgnaaGreat
open Go.RowKit
set_option maxRecDepth 100000 in
theorem rk_bad {s : List Ld} {k : Nat} {y : Ld} (hk : s[k]? = some y) (hin : 0 ≤ (k : Int) ∧ (k : Int) < (s.length : Int)) (hlt : decide ((k : Int) < (s.length : Int)) = true) (hc : Pure Tryz.prog 14 #[ratioV y.n y.d] (.int .i64 (8))) : RunsL Tryz.prog 1 1 (loopOf Tryz.prog 25 0) 72 1 ([(0, .ls 0 s.length), (3, .pv (.int .i64 (k : Int)))]) ([(0, 0, rowL s)]) (.ret) ([(2, .pv (.int .i64 8))]) ([]) :=
  RunsL.stop [] 300 [.t true, .r (ratioV y.n y.d), .r (.int .i64 (8)), .k] (fun h => by cases h)
    (round_of (And.intro hlt (And.intro hin (And.intro (ra_lf hk) (And.intro hc True.intro)))) (by kernel_rfl))

set_option maxRecDepth 100000 in
theorem rk_lo {s : List Ld} {k : Nat} {y : Ld} (hk : s[k]? = some y) (hin : 0 ≤ (k : Int) ∧ (k : Int) < (s.length : Int)) (hlt : decide ((k : Int) < (s.length : Int)) = true) (hc : Pure Tryz.prog 14 #[ratioV y.n y.d] (.int .i64 (0))) (h1 : decide (y.id < 0) = true) : RunsL Tryz.prog 1 1 (loopOf Tryz.prog 25 0) 72 1 ([(0, .ls 0 s.length), (3, .pv (.int .i64 (k : Int)))]) ([(0, 0, rowL s)]) (.ret) ([(2, .pv (.int .i64 8))]) ([]) :=
  RunsL.stop [] 300 [.t true, .r (ratioV y.n y.d), .r (.int .i64 (0)), .k, .r (.int .i64 (y.id)), .t true] (fun h => by cases h)
    (round_of (And.intro hlt (And.intro hin (And.intro (ra_lf hk) (And.intro hc (And.intro hin (And.intro (ra_li hk) (And.intro h1 True.intro))))))) (by kernel_rfl))

set_option maxRecDepth 100000 in
theorem rk_hi {s : List Ld} {k : Nat} {y : Ld} (hk : s[k]? = some y) (hin : 0 ≤ (k : Int) ∧ (k : Int) < (s.length : Int)) (hlt : decide ((k : Int) < (s.length : Int)) = true) (hc : Pure Tryz.prog 14 #[ratioV y.n y.d] (.int .i64 (0))) (h1 : decide (y.id < 0) = false) (h2 : decide (y.id > 65535) = true) : RunsL Tryz.prog 1 1 (loopOf Tryz.prog 25 0) 72 1 ([(0, .ls 0 s.length), (3, .pv (.int .i64 (k : Int)))]) ([(0, 0, rowL s)]) (.ret) ([(2, .pv (.int .i64 8))]) ([]) :=
  RunsL.stop [] 300 [.t true, .r (ratioV y.n y.d), .r (.int .i64 (0)), .k, .r (.int .i64 (y.id)), .t false, .r (.int .i64 (y.id)), .t true] (fun h => by cases h)
    (round_of (And.intro hlt (And.intro hin (And.intro (ra_lf hk) (And.intro hc (And.intro hin (And.intro (ra_li hk) (And.intro h1 (And.intro hin (And.intro (ra_li hk) (And.intro h2 True.intro)))))))))) (by kernel_rfl))

set_option maxRecDepth 100000 in
theorem rk_ord {s : List Ld} {k : Nat} {x y : Ld} {c : Int} (hk : s[k + 1]? = some y) (hin : 0 ≤ ((k + 1 : Nat) : Int) ∧ ((k + 1 : Nat) : Int) < (s.length : Int)) (hk0 : s[k]? = some x) (hin0 : 0 ≤ (k : Int) ∧ (k : Int) < (s.length : Int)) (hlt : decide (((k + 1 : Nat) : Int) < (s.length : Int)) = true) (hc : Pure Tryz.prog 14 #[ratioV y.n y.d] (.int .i64 (0))) (h1 : decide (y.id < 0) = false) (h2 : decide (y.id > 65535) = false) (hpos : decide (((k + 1 : Nat) : Int) > 0) = true) (hm : Value.int .i64 (IntKind.i64.wrap (((k + 1 : Nat) : Int) - 1)) = .int .i64 ((k : Int))) (hcc : Pure Tryz.prog 29 #[ratioV x.n x.d, ratioV y.n y.d] (.int .i64 (c))) (hcz : decide (c ≥ 0) = true) : RunsL Tryz.prog 1 1 (loopOf Tryz.prog 25 0) 72 1 ([(0, .ls 0 s.length), (3, .pv (.int .i64 ((k + 1 : Nat) : Int)))]) ([(0, 0, rowL s)]) (.ret) ([(2, .pv (.int .i64 8))]) ([]) :=
  RunsL.stop [] 300 [.t true, .r (ratioV y.n y.d), .r (.int .i64 (0)), .k, .r (.int .i64 (y.id)), .t false, .r (.int .i64 (y.id)), .t false, .t true, .r (.int .i64 ((k : Int))), .r (ratioV x.n x.d), .r (ratioV y.n y.d), .r (.int .i64 (c)), .t true] (fun h => by cases h)
    (round_of (And.intro hlt (And.intro hin (And.intro (ra_lf hk) (And.intro hc (And.intro hin (And.intro (ra_li hk) (And.intro h1 (And.intro hin (And.intro (ra_li hk) (And.intro h2 (And.intro hpos (And.intro hm (And.intro hin0 (And.intro (ra_lf hk0) (And.intro hin (And.intro (ra_lf hk) (And.intro hcc (And.intro hcz True.intro)))))))))))))))))) (by kernel_rfl))

set_option maxRecDepth 100000 in
theorem rk_same {s : List Ld} {k : Nat} {x y : Ld} {c : Int} (hk : s[k + 1]? = some y) (hin : 0 ≤ ((k + 1 : Nat) : Int) ∧ ((k + 1 : Nat) : Int) < (s.length : Int)) (hk0 : s[k]? = some x) (hin0 : 0 ≤ (k : Int) ∧ (k : Int) < (s.length : Int)) (hlt : decide (((k + 1 : Nat) : Int) < (s.length : Int)) = true) (hc : Pure Tryz.prog 14 #[ratioV y.n y.d] (.int .i64 (0))) (h1 : decide (y.id < 0) = false) (h2 : decide (y.id > 65535) = false) (hpos : decide (((k + 1 : Nat) : Int) > 0) = true) (hm : Value.int .i64 (IntKind.i64.wrap (((k + 1 : Nat) : Int) - 1)) = .int .i64 ((k : Int))) (hcc : Pure Tryz.prog 29 #[ratioV x.n x.d, ratioV y.n y.d] (.int .i64 (c))) (hcz : decide (c ≥ 0) = false) (hid : (x.id == y.id) = true) : RunsL Tryz.prog 1 1 (loopOf Tryz.prog 25 0) 72 1 ([(0, .ls 0 s.length), (3, .pv (.int .i64 ((k + 1 : Nat) : Int)))]) ([(0, 0, rowL s)]) (.ret) ([(2, .pv (.int .i64 8))]) ([]) :=
  RunsL.stop [] 300 [.t true, .r (ratioV y.n y.d), .r (.int .i64 (0)), .k, .r (.int .i64 (y.id)), .t false, .r (.int .i64 (y.id)), .t false, .t true, .r (.int .i64 ((k : Int))), .r (ratioV x.n x.d), .r (ratioV y.n y.d), .r (.int .i64 (c)), .t false, .r (.int .i64 ((k : Int))), .r (.int .i64 (x.id)), .r (.int .i64 (y.id)), .t true] (fun h => by cases h)
    (round_of (And.intro hlt (And.intro hin (And.intro (ra_lf hk) (And.intro hc (And.intro hin (And.intro (ra_li hk) (And.intro h1 (And.intro hin (And.intro (ra_li hk) (And.intro h2 (And.intro hpos (And.intro hm (And.intro hin0 (And.intro (ra_lf hk0) (And.intro hin (And.intro (ra_lf hk) (And.intro hcc (And.intro hcz (And.intro hm (And.intro hin0 (And.intro (ra_li hk0) (And.intro hin (And.intro (ra_li hk) (And.intro hid True.intro)))))))))))))))))))))))) (by kernel_rfl))

set_option maxRecDepth 100000 in
theorem rk_none {s : List Ld} (h0 : decide ((s.length : Int) < 1) = true) :
    FnL Tryz.prog 25 1 [.ls 0 s.length] [(0, 0, rowL s)] (.pv (.int .i64 (8))) 0 [] :=
  fnl_run 300 [] [.t true]
     True.intro (And.intro h0 True.intro) (by kernel_rfl)

set_option maxRecDepth 100000 in
theorem rk_many {s : List Ld} (h0 : decide ((s.length : Int) < 1) = false) (h3 : decide ((s.length : Int) > 300) = true) :
    FnL Tryz.prog 25 1 [.ls 0 s.length] [(0, 0, rowL s)] (.pv (.int .i64 (8))) 0 [] :=
  fnl_run 300 [] [.t false, .t true]
     True.intro (And.intro h0 (And.intro h3 True.intro)) (by kernel_rfl)

set_option maxRecDepth 100000 in
theorem rk_no {s : List Ld} (h0 : decide ((s.length : Int) < 1) = false) (h3 : decide ((s.length : Int) > 300) = false) (r0 : RunsL Tryz.prog 1 1 (loopOf Tryz.prog 25 0) 72 1 ([(0, .ls 0 s.length), (3, .pv (.int .i64 ((0 : Nat) : Int)))]) ([(0, 0, rowL s)]) (.ret) ([(2, .pv (.int .i64 8))]) ([])) :
    FnL Tryz.prog 25 1 [.ls 0 s.length] [(0, 0, rowL s)] (.pv (.int .i64 (8))) 0 [] :=
  fnl_run 300 [] [.t false, .t false, .l (.ret) ([(0, .ls 0 s.length), (3, .pv (.int .i64 ((0 : Nat) : Int)))]) ([(0, 0, rowL s)]) ([(2, .pv (.int .i64 8))]) ([])]
     True.intro (And.intro h0 (And.intro h3 (And.intro (reflT (renN []) ([(0, .ls 0 s.length), (3, .pv (.int .i64 ((0 : Nat) : Int)))])) (And.intro (reflH (renN []) ([(0, 0, rowL s)])) (And.intro r0 True.intro))))) (by kernel_rfl)

set_option maxRecDepth 100000 in
theorem g5_t {s : List Ld} (h1 : decide ((s.length : Int) > 40) = true) (h2 : decide ((s.length : Int) ≤ 300) = true) :
    FnL Tryz.prog 6 1 [.ls 0 s.length] [(0, 0, rowL s)] (.pv (.bool true)) 0 [] :=
  fnl_run 300 [] [.t true, .t true]
     True.intro (And.intro h1 (And.intro h2 True.intro)) (by kernel_rfl)

set_option maxRecDepth 100000 in
theorem g5_a {s : List Ld} (h1 : decide ((s.length : Int) > 40) = true) (h2 : decide ((s.length : Int) ≤ 300) = false) (h3 : decide ((s.length : Int) > 310) = true) :
    FnL Tryz.prog 6 1 [.ls 0 s.length] [(0, 0, rowL s)] (.pv (.bool true)) 0 [] :=
  fnl_run 300 [] [.t true, .t false, .t true]
     True.intro (And.intro h1 (And.intro h2 (And.intro h3 True.intro))) (by kernel_rfl)

set_option maxRecDepth 100000 in
theorem g5_b {s : List Ld} (h1 : decide ((s.length : Int) > 40) = true) (h2 : decide ((s.length : Int) ≤ 300) = false) (h3 : decide ((s.length : Int) > 310) = false) :
    FnL Tryz.prog 6 1 [.ls 0 s.length] [(0, 0, rowL s)] (.pv (.bool false)) 0 [] :=
  fnl_run 300 [] [.t true, .t false, .t false]
     True.intro (And.intro h1 (And.intro h2 (And.intro h3 True.intro))) (by kernel_rfl)

set_option maxRecDepth 100000 in
theorem g5_d {s : List Ld} (h1 : decide ((s.length : Int) > 40) = false) (h3 : decide ((s.length : Int) > 310) = false) :
    FnL Tryz.prog 6 1 [.ls 0 s.length] [(0, 0, rowL s)] (.pv (.bool false)) 0 [] :=
  fnl_run 300 [] [.t false, .t false]
     True.intro (And.intro h1 (And.intro h3 True.intro)) (by kernel_rfl)

theorem RCk_any {c : List Ld} (hi : ∀ x ∈ c, I64L x) (hn : c.length ≤ 100000) : FnL Tryz.prog 25 1 [.ls 0 c.length] [(0, 0, rowL c)] (.pv (.int .i64 (ckL c))) 0 [] := by
  by_cases hv : VC c
  · have := RCk_ok hi hv
    unfold ckL
    rw [if_pos hv]
    exact this
  unfold ckL
  rw [if_neg hv]
  by_cases h0 : c.length = 0
  · exact rk_none (dt (by omega))
  by_cases h3 : c.length > 300
  · exact rk_many (df (by omega)) (dt (by omega))
  rcases first_nat (fun k => ∀ x, c[k]? = some x → okLd x = true ∧ ∀ j y, k = j + 1 → c[j]? = some y → folB y x = true) c.length with hall | ⟨j, hj, hbad, hbef⟩
  · exact (hv ⟨by omega, by omega, fun x hx => by
      obtain ⟨k, hk, rfl⟩ := List.getElem_of_mem hx
      exact (hall k hk _ (List.getElem?_eq_getElem hk)).1, fun k x y hx hy => (hall (k + 1) (get_lt hy) y hy).2 k x rfl hx⟩).elim
  · have oks : ∀ x, okLd x = true → okB x.n x.d = true ∧ 0 ≤ x.id ∧ x.id ≤ 65535 := fun x h => by
      unfold okLd at h
      simp only [Bool.and_eq_true, decide_eq_true_eq] at h
      exact ⟨h.1, h.2.1, h.2.2⟩
    have fols : ∀ x y : Ld, folB x y = true → x.id ≠ y.id ∧ (x.n * y.d - y.n * x.d).sign < 0 := fun x y h => by
      unfold folB at h
      simp only [Bool.and_eq_true, decide_eq_true_eq] at h
      exact ⟨fun e => by rw [e] at h; simp at h, h.2⟩
    obtain ⟨y, hy⟩ := get_some (l := c) (k := j) hj
    have hm := List.mem_of_getElem? hy
    refine rk_no (df (by omega)) (df (by omega)) (RunsL.rounds (fun k => [(0, .ls 0 c.length), (3, .pv (.int .i64 (k : Int)))]) (fun _ => [(0, 0, rowL c)]) j 0 (Nat.zero_add _) (fun k _ hk r => ?_) ?_)
    · obtain ⟨x, hx⟩ := get_some (l := c) (k := k) (by omega)
      have hmx := List.mem_of_getElem? hx
      obtain ⟨o1, o2⟩ := hbef k hk x hx
      obtain ⟨o3, o4, o5⟩ := oks x o1
      cases k with
      | zero => exact rk_zero hx ⟨by omega, by omega⟩ (dt (by omega)) (RCheck_ok (hi x hmx).n (hi x hmx).d o3) (df (by omega)) (df (by omega)) (i64_succ (by omega)) r
      | succ k =>
        obtain ⟨z, hz⟩ := get_some (l := c) (k := k) (by omega)
        have hmz := List.mem_of_getElem? hz
        obtain ⟨f1, f2⟩ := fols z x (o2 k z rfl hz)
        exact rk_next hx ⟨by omega, by omega⟩ hz ⟨by omega, by omega⟩ (dt (by omega)) (RCheck_ok (hi x hmx).n (hi x hmx).d o3) (df (by omega)) (df (by omega)) (dt (by omega)) (i64_pred k (by omega)) (RCompare_any (hi z hmz).n (hi z hmz).d (hi x hmx).n (hi x hmx).d) (df (by omega)) (by rw [beq_eq_false_iff_ne]; exact f1) (i64_succ (by omega)) r
    · by_cases hk : okB y.n y.d = true
      · have hc := RCheck_ok (hi y hm).n (hi y hm).d hk
        by_cases h1 : y.id < 0
        · exact rk_lo hy ⟨by omega, by omega⟩ (dt (by omega)) hc (dt h1)
        by_cases h2 : y.id > 65535
        · exact rk_hi hy ⟨by omega, by omega⟩ (dt (by omega)) hc (df h1) (dt h2)
        have ho : okLd y = true := by
          unfold okLd
          rw [hk, dt (show 0 ≤ y.id by omega), dt (show y.id ≤ 65535 by omega)]; rfl
        cases j with
        | zero => exact (hbad fun x' hx' => by rw [hy] at hx'; cases hx'; exact ⟨ho, fun j y e => by omega⟩).elim
        | succ j =>
          obtain ⟨x, hx⟩ := get_some (l := c) (k := j) (by omega)
          have hmx := List.mem_of_getElem? hx
          have hcc := RCompare_any (hi x hmx).n (hi x hmx).d (hi y hm).n (hi y hm).d
          by_cases hz : (x.n * y.d - y.n * x.d).sign ≥ 0
          · exact rk_ord hy ⟨by omega, by omega⟩ hx ⟨by omega, by omega⟩ (dt (by omega)) hc (df h1) (df h2) (dt (by omega)) (i64_pred j (by omega)) hcc (dt hz)
          · have he : x.id = y.id := by
              refine Classical.byContradiction fun hne => hbad fun x' hx' => ?_
              rw [hy] at hx'
              cases hx'
              refine ⟨ho, fun i z e hz' => ?_⟩
              have : i = j := by omega
              subst this
              rw [hx] at hz'; cases hz'
              unfold folB
              rw [show (y.id == x.id) = false from beq_eq_false_iff_ne.2 fun e => hne e.symm, dt (show (x.n * y.d - y.n * x.d).sign < 0 by omega)]
              rfl
            exact rk_same hy ⟨by omega, by omega⟩ hx ⟨by omega, by omega⟩ (dt (by omega)) hc (df h1) (df h2) (dt (by omega)) (i64_pred j (by omega)) hcc (df hz) (by rw [beq_iff_eq]; exact he)
      · exact rk_bad hy ⟨by omega, by omega⟩ (dt (by omega)) (RCheck_bad (hi y hm).n (hi y hm).d hk)
theorem Great5_any (c : List Ld) : ∃ b, FnL Tryz.prog 6 1 [.ls 0 c.length] [(0, 0, rowL c)] (.pv (.bool b)) 0 [] ∧ (b = false → c.length ≤ 310) := by
  by_cases h1 : c.length > 40
  · by_cases h2 : c.length ≤ 300
    · exact ⟨true, g5_t (dt (by omega)) (dt (by omega)), fun h => by cases h⟩
    · by_cases h3 : c.length > 310
      · exact ⟨true, g5_a (dt (by omega)) (df (by omega)) (dt (by omega)), fun h => by cases h⟩
      · exact ⟨false, g5_b (dt (by omega)) (df (by omega)) (df (by omega)), fun _ => by omega⟩
  · exact ⟨false, g5_d (df (by omega)) (df (by omega)), fun _ => by omega⟩
end Go.Proofs.YtpngjeloiifgnaaGreat
