/-
  divided of the reference: what it returns, for any whole number of 128 bits.
-/
import Derived.Test.YtjhkeinelbeekaaQ
import Derived.Laws.Bits64b
namespace Go.Proofs.Ytjhkeinelbeekaa
open Go.RowKit

abbrev bigV (s : Bool) (hi lo : Int) : Value := .agg #[.bool s, .int .u64 hi, .int .u64 lo]
noncomputable def divC : Code := loopOf Try.prog 70 0
abbrev dvT (y r i : Int) : List (Nat × SV) := [(1, .pv (.int .u64 y)), (2, .pp 0 0), (4, .pp 1 0), (6, .pp 2 0), (7, .pv (.int .u64 r)), (8, .pv (.int .i64 i))]
abbrev dvH (s : Bool) (hi lo H L : Int) : List (Nat × Nat × SV) := [(0, 0, .pv (.bool s)), (0, 1, .pv (.int .u64 hi)), (0, 2, .pv (.int .u64 lo)), (1, 0, .pv (.bool false)), (1, 1, .pv (.int .u64 0)), (1, 2, .pv (.int .u64 0)), (2, 0, .pv (.bool false)), (2, 1, .pv (.int .u64 H)), (2, 2, .pv (.int .u64 L))]

set_option maxRecDepth 100000 in
set_option maxHeartbeats 2000000 in
theorem dv_tt {y hi lo H L r i v1 v2 r2 r3 i1 j v3 v4 r4 m H1 : Int} {s : Bool} {tm2 : List (Nat × SV)} {hp2 : List (Nat × Nat × SV)} (t0 : decide (i ≥ 0) = true) (n0 : ¬ i < 0) (s1 : Value.int .u64 (lo.fdiv (2 ^ (min i.toNat IntKind.u64.bits))) = .int .u64 v1) (a1 : Value.int .u64 (bits .and .u64 v1 1) = .int .u64 v2) (t1 : decide (i ≥ 64) = true) (sj : Value.int .i64 (IntKind.i64.wrap (i - 64)) = .int .i64 j) (nj : ¬ j < 0) (s2 : Value.int .u64 (hi.fdiv (2 ^ (min j.toNat IntKind.u64.bits))) = .int .u64 v3) (a2 : Value.int .u64 (bits .and .u64 v3 1) = .int .u64 v4) (m1 : Value.int .u64 (IntKind.u64.wrap (2 * r)) = .int .u64 r2) (p1 : Value.int .u64 (IntKind.u64.wrap (r2 + v4)) = .int .u64 r3) (t2 : decide (r3 ≥ y) = true) (m2 : Value.int .u64 (IntKind.u64.wrap (r3 - y)) = .int .u64 r4) (e1 : Value.int .u64 (IntKind.u64.wrap (1 * 2 ^ (min j.toNat IntKind.u64.bits))) = .int .u64 m) (o1 : Value.int .u64 (bits .or .u64 H m) = .int .u64 H1) (z1 : Value.int .i64 (IntKind.i64.wrap (i - 1)) = .int .i64 i1)
    (k : RunsL Try.prog 0 divC 54 3 (dvT y r4 i1) (dvH s hi lo H1 L) (.exit 0) tm2 hp2) : RunsL Try.prog 0 divC 54 3 (dvT y r i) (dvH s hi lo H L) (.exit 0) tm2 hp2 :=
  RunsL.next 100 [.t true, .r (.int .u64 v1), .r (.int .u64 v2), .t true, .r (.int .i64 j), .r (.int .u64 v3), .r (.int .u64 v4), .r (.int .u64 r2), .r (.int .u64 r3), .t true, .r (.int .u64 r4), .t true, .r (.int .i64 j), .r (.int .u64 m), .r (.int .u64 H1), .r (.int .i64 i1)]
    (round_of (And.intro t0 (And.intro n0 (And.intro s1 (And.intro a1 (And.intro t1 (And.intro sj (And.intro nj (And.intro s2 (And.intro a2 (And.intro m1 (And.intro p1 (And.intro t2 (And.intro m2 (And.intro t1 (And.intro sj (And.intro nj (And.intro e1 (And.intro o1 (And.intro z1 True.intro))))))))))))))))))) (by kernel_rfl)) k

set_option maxRecDepth 100000 in
set_option maxHeartbeats 2000000 in
theorem dv_tf {y hi lo H L r i v1 v2 r2 r3 i1 j v3 v4 : Int} {s : Bool} {tm2 : List (Nat × SV)} {hp2 : List (Nat × Nat × SV)} (t0 : decide (i ≥ 0) = true) (n0 : ¬ i < 0) (s1 : Value.int .u64 (lo.fdiv (2 ^ (min i.toNat IntKind.u64.bits))) = .int .u64 v1) (a1 : Value.int .u64 (bits .and .u64 v1 1) = .int .u64 v2) (t1 : decide (i ≥ 64) = true) (sj : Value.int .i64 (IntKind.i64.wrap (i - 64)) = .int .i64 j) (nj : ¬ j < 0) (s2 : Value.int .u64 (hi.fdiv (2 ^ (min j.toNat IntKind.u64.bits))) = .int .u64 v3) (a2 : Value.int .u64 (bits .and .u64 v3 1) = .int .u64 v4) (m1 : Value.int .u64 (IntKind.u64.wrap (2 * r)) = .int .u64 r2) (p1 : Value.int .u64 (IntKind.u64.wrap (r2 + v4)) = .int .u64 r3) (t2 : decide (r3 ≥ y) = false) (z1 : Value.int .i64 (IntKind.i64.wrap (i - 1)) = .int .i64 i1)
    (k : RunsL Try.prog 0 divC 54 3 (dvT y r3 i1) (dvH s hi lo H L) (.exit 0) tm2 hp2) : RunsL Try.prog 0 divC 54 3 (dvT y r i) (dvH s hi lo H L) (.exit 0) tm2 hp2 :=
  RunsL.next 100 [.t true, .r (.int .u64 v1), .r (.int .u64 v2), .t true, .r (.int .i64 j), .r (.int .u64 v3), .r (.int .u64 v4), .r (.int .u64 r2), .r (.int .u64 r3), .t false, .r (.int .i64 i1)]
    (round_of (And.intro t0 (And.intro n0 (And.intro s1 (And.intro a1 (And.intro t1 (And.intro sj (And.intro nj (And.intro s2 (And.intro a2 (And.intro m1 (And.intro p1 (And.intro t2 (And.intro z1 True.intro))))))))))))) (by kernel_rfl)) k

set_option maxRecDepth 100000 in
set_option maxHeartbeats 2000000 in
theorem dv_ft {y hi lo H L r i v1 v2 r2 r3 i1 r4 m H1 : Int} {s : Bool} {tm2 : List (Nat × SV)} {hp2 : List (Nat × Nat × SV)} (t0 : decide (i ≥ 0) = true) (n0 : ¬ i < 0) (s1 : Value.int .u64 (lo.fdiv (2 ^ (min i.toNat IntKind.u64.bits))) = .int .u64 v1) (a1 : Value.int .u64 (bits .and .u64 v1 1) = .int .u64 v2) (t1 : decide (i ≥ 64) = false) (m1 : Value.int .u64 (IntKind.u64.wrap (2 * r)) = .int .u64 r2) (p1 : Value.int .u64 (IntKind.u64.wrap (r2 + v2)) = .int .u64 r3) (t2 : decide (r3 ≥ y) = true) (m2 : Value.int .u64 (IntKind.u64.wrap (r3 - y)) = .int .u64 r4) (e1 : Value.int .u64 (IntKind.u64.wrap (1 * 2 ^ (min i.toNat IntKind.u64.bits))) = .int .u64 m) (o1 : Value.int .u64 (bits .or .u64 L m) = .int .u64 H1) (z1 : Value.int .i64 (IntKind.i64.wrap (i - 1)) = .int .i64 i1)
    (k : RunsL Try.prog 0 divC 54 3 (dvT y r4 i1) (dvH s hi lo H H1) (.exit 0) tm2 hp2) : RunsL Try.prog 0 divC 54 3 (dvT y r i) (dvH s hi lo H L) (.exit 0) tm2 hp2 :=
  RunsL.next 100 [.t true, .r (.int .u64 v1), .r (.int .u64 v2), .t false, .r (.int .u64 r2), .r (.int .u64 r3), .t true, .r (.int .u64 r4), .t false, .r (.int .u64 m), .r (.int .u64 H1), .r (.int .i64 i1)]
    (round_of (And.intro t0 (And.intro n0 (And.intro s1 (And.intro a1 (And.intro t1 (And.intro m1 (And.intro p1 (And.intro t2 (And.intro m2 (And.intro t1 (And.intro n0 (And.intro e1 (And.intro o1 (And.intro z1 True.intro)))))))))))))) (by kernel_rfl)) k

set_option maxRecDepth 100000 in
set_option maxHeartbeats 2000000 in
theorem dv_ff {y hi lo H L r i v1 v2 r2 r3 i1 : Int} {s : Bool} {tm2 : List (Nat × SV)} {hp2 : List (Nat × Nat × SV)} (t0 : decide (i ≥ 0) = true) (n0 : ¬ i < 0) (s1 : Value.int .u64 (lo.fdiv (2 ^ (min i.toNat IntKind.u64.bits))) = .int .u64 v1) (a1 : Value.int .u64 (bits .and .u64 v1 1) = .int .u64 v2) (t1 : decide (i ≥ 64) = false) (m1 : Value.int .u64 (IntKind.u64.wrap (2 * r)) = .int .u64 r2) (p1 : Value.int .u64 (IntKind.u64.wrap (r2 + v2)) = .int .u64 r3) (t2 : decide (r3 ≥ y) = false) (z1 : Value.int .i64 (IntKind.i64.wrap (i - 1)) = .int .i64 i1)
    (k : RunsL Try.prog 0 divC 54 3 (dvT y r3 i1) (dvH s hi lo H L) (.exit 0) tm2 hp2) : RunsL Try.prog 0 divC 54 3 (dvT y r i) (dvH s hi lo H L) (.exit 0) tm2 hp2 :=
  RunsL.next 100 [.t true, .r (.int .u64 v1), .r (.int .u64 v2), .t false, .r (.int .u64 r2), .r (.int .u64 r3), .t false, .r (.int .i64 i1)]
    (round_of (And.intro t0 (And.intro n0 (And.intro s1 (And.intro a1 (And.intro t1 (And.intro m1 (And.intro p1 (And.intro t2 (And.intro z1 True.intro))))))))) (by kernel_rfl)) k

set_option maxRecDepth 100000 in
set_option maxHeartbeats 2000000 in
theorem dv_stop {y hi lo H L r i : Int} {s : Bool} (t0 : decide (i ≥ 0) = false) : RunsL Try.prog 0 divC 54 3 (dvT y r i) (dvH s hi lo H L) (.exit 0) (dvT y r i) (dvH s hi lo H L) :=
  RunsL.stop 100 [.t false] (fun h => by cases h) (round_of (And.intro t0 True.intro) (by kernel_rfl))

set_option maxRecDepth 100000 in
set_option maxHeartbeats 2000000 in
set_option maxHeartbeats 2000000 in
theorem dv_path {y hi lo Q1 Q0 R : Int} {s : Bool} (k : RunsL Try.prog 0 divC 54 3 (dvT y 0 127) (dvH s hi lo 0 0) (.exit 0) (dvT y R (-1)) (dvH s hi lo Q1 Q0)) :
    Pure Try.prog 70 #[bigV s hi lo, .int .u64 y] (.tuple #[bigV false Q1 Q0, .int .u64 R]) :=
  pure_run (args := [bigV s hi lo, .int .u64 y]) 200 [.l (.exit 0) (dvT y 0 127) (dvH s hi lo 0 0) (dvT y R (-1)) (dvH s hi lo Q1 Q0)]
    (And.intro rfl (And.intro (reflT (dvT y 0 127)) (And.intro (reflH (dvH s hi lo 0 0)) (And.intro k True.intro)))) (by kernel_rfl)

theorem and_one (v : Nat) (h : v < 18446744073709551616) : Value.int .u64 (bits .and .u64 (v : Int) 1) = .int .u64 ((v % 2 : Nat) : Int) := by
  rw [show (1 : Int) = ((1 : Nat) : Int) from rfl, bits_and_u64_nat v 1 h (by omega), Nat.and_one_is_mod]
theorem or_pow {v k m : Nat} (hk : k < 64) (hv : v < 18446744073709551616) (h : v = 2 ^ (k + 1) * m) : Value.int .u64 (bits .or .u64 (v : Int) ((2 ^ k : Nat) : Int)) = .int .u64 ((v + 2 ^ k : Nat) : Int) := by
  have hp : 2 ^ k < 18446744073709551616 := Nat.lt_of_lt_of_le (Nat.pow_lt_pow_right (by omega) hk) (by decide)
  rw [bits_or_u64_nat v _ hv hp]
  subst h
  rw [← Nat.two_pow_add_eq_or_of_lt (Nat.pow_lt_pow_right (by omega) (Nat.lt_succ_self k))]
theorem fdiv_pow (v k : Nat) : Int.fdiv (v : Int) (2 ^ k) = ((v / 2 ^ k : Nat) : Int) := by
  rw [show ((2 : Int) ^ k) = ((2 ^ k : Nat) : Int) by simp, Int.fdiv_eq_ediv_of_nonneg _ (Int.natCast_nonneg _)]
  simp
theorem pow_u64 {k : Nat} (hk : k < 64) : Value.int .u64 (IntKind.u64.wrap (1 * 2 ^ k)) = .int .u64 ((2 ^ k : Nat) : Int) := by
  have hp : 2 ^ k < 18446744073709551616 := Nat.lt_of_lt_of_le (Nat.pow_lt_pow_right (by omega) hk) (by decide)
  rw [show ((1 : Int) * 2 ^ k) = ((2 ^ k : Nat) : Int) by simp]
  generalize 2 ^ k = m at hp
  rw [wrap_in (by omega) (by omega)]
theorem wrapv {x y : Int} (h : x = y) (h0 : 0 ≤ y) (h1 : y < 18446744073709551616) : Value.int .u64 (IntKind.u64.wrap x) = .int .u64 y := by rw [h, wrap_in h0 h1]

theorem dv_loop (y hi lo A : Nat) (s : Bool) (hA : A = hi * 18446744073709551616 + lo) (hy0 : 0 < y) (hy1 : y ≤ 9223372036854775808) (hhi : hi < 18446744073709551616) (hlo : lo < 18446744073709551616) {R Q1 Q0 : Nat} (hR : R = A % y) (hQ1 : Q1 = A / y / 18446744073709551616) (hQ0 : Q0 = A / y % 18446744073709551616) :
    ∀ (j : Nat) (i : Int) (r H L N : Nat), j ≤ 128 → i = (j : Int) - 1 → r = (A / 2 ^ j) % y → N = A / 2 ^ j / y * 2 ^ j → H = N / 18446744073709551616 → L = N % 18446744073709551616 →
      RunsL Try.prog 0 divC 54 3 (dvT y r i) (dvH s hi lo H L) (.exit 0) (dvT y R (-1)) (dvH s hi lo Q1 Q0) := by
  intro j
  induction j with
  | zero =>
    intro i r H L N _ hi' hr hN hH hL
    simp only [Nat.pow_zero, Nat.div_one, Nat.mul_one] at hr hN
    have e1 : i = -1 := by omega
    subst e1
    rw [hN] at hH hL
    rw [hr.trans hR.symm, hH.trans hQ1.symm, hL.trans hQ0.symm]
    exact dv_stop (by decide)
  | succ j ih =>
    intro i r H L N hj hi' hr hN hH hL
    have e1 : i = (j : Int) := by omega
    subst e1
    have hpow : (2 : Nat) ^ (j + 1) = 2 * 2 ^ j := by rw [Nat.pow_succ, Nat.mul_comm]
    have hp0 : 0 < (2 : Nat) ^ j := Nat.pow_pos (by omega)
    obtain ⟨X, hX⟩ : ∃ X, X = A / 2 ^ (j + 1) := ⟨_, rfl⟩
    obtain ⟨b, hb⟩ : ∃ b, b = A / 2 ^ j % 2 := ⟨_, rfl⟩
    have hXb : A / 2 ^ j = 2 * X + b := by
      rw [hX, hb, Nat.pow_succ, ← Nat.div_div_eq_div_mul]; omega
    rw [← hX] at hr hN
    obtain ⟨q, hq⟩ : ∃ q, q = X / y := ⟨_, rfl⟩
    have hXq : X = y * q + r := by rw [hq, hr, Nat.div_add_mod]
    rw [← hq] at hN
    have hr1 : r < y := by rw [hr]; exact Nat.mod_lt _ hy0
    have hb1 : b < 2 := by omega
    have hNA : N ≤ A := by
      rw [hN, hX] at *
      calc q * 2 ^ (j + 1) ≤ A / 2 ^ (j + 1) * 2 ^ (j + 1) := Nat.mul_le_mul_right _ (by rw [hq]; exact Nat.div_le_self _ _)
        _ ≤ A := Nat.div_mul_le_self _ _
    have hA1 : A < 340282366920938463463374607431768211456 := by omega
    have hHb : H < 18446744073709551616 := by omega
    have hLb : L < 18446744073709551616 := by omega
    have t0 : decide ((j : Int) ≥ 0) = true := by simp
    have n0 : ¬ (j : Int) < 0 := by omega
    have m1 : Value.int .u64 (IntKind.u64.wrap (2 * (r : Int))) = .int .u64 ((2 * r : Nat) : Int) := wrapv (by omega) (by omega) (by omega)
    have p1 : Value.int .u64 (IntKind.u64.wrap (((2 * r : Nat) : Int) + (b : Int))) = .int .u64 ((2 * r + b : Nat) : Int) := wrapv (by omega) (by omega) (by omega)
    have z1 : Value.int .i64 (IntKind.i64.wrap ((j : Int) - 1)) = .int .i64 ((j : Int) - 1) := by rw [wrap_i64_in (by omega) (by omega)]
    have hS1 : min (j : Int).toNat IntKind.u64.bits = min j 64 := by simp [IntKind.bits]
    have s1 : Value.int .u64 (Int.fdiv (lo : Int) (2 ^ (min (j : Int).toNat IntKind.u64.bits))) = .int .u64 ((lo / 2 ^ (min j 64) : Nat) : Int) := by rw [hS1, fdiv_pow]
    have a1 := and_one (lo / 2 ^ (min j 64)) (Nat.lt_of_le_of_lt (Nat.div_le_self _ _) hlo)
    -- what this digit makes of the quotient
    have key : ∀ ge : Bool, decide (2 * r + b ≥ y) = ge → (A / 2 ^ j / y = 2 * q + (bif ge then 1 else 0) ∧ A / 2 ^ j % y = 2 * r + b - (bif ge then y else 0)) := by
      intro ge hge
      have e : A / 2 ^ j = (2 * r + b) + y * (2 * q) := by rw [hXb, hXq, Nat.mul_add, Nat.mul_left_comm]; omega
      cases ge
      · have hlt : 2 * r + b < y := by simpa using hge
        rw [e, Nat.add_mul_div_left _ _ hy0, Nat.add_mul_mod_self_left, Nat.div_eq_of_lt hlt, Nat.mod_eq_of_lt hlt]
        exact ⟨by simp, by simp⟩
      · have hle : y ≤ 2 * r + b := by simpa using hge
        have e2 : A / 2 ^ j = (2 * r + b - y) + y * (2 * q + 1) := by rw [e, Nat.mul_add]; omega
        have hlt : 2 * r + b - y < y := by omega
        rw [e2, Nat.add_mul_div_left _ _ hy0, Nat.add_mul_mod_self_left, Nat.div_eq_of_lt hlt, Nat.mod_eq_of_lt hlt]
        exact ⟨by simp, by simp⟩
    by_cases hh : 64 ≤ j
    · obtain ⟨k, rfl⟩ : ∃ k, j = 64 + k := ⟨j - 64, by omega⟩
      have t1 : decide (((64 + k : Nat) : Int) ≥ 64) = true := by simp; omega
      have sj : Value.int .i64 (IntKind.i64.wrap (((64 + k : Nat) : Int) - 64)) = .int .i64 (k : Int) := by
        rw [show ((64 + k : Nat) : Int) - 64 = (k : Int) by omega, wrap_i64_in (by omega) (by omega)]
      have hS2 : min (k : Int).toNat IntKind.u64.bits = k := by simp [IntKind.bits]; omega
      have s2 : Value.int .u64 (Int.fdiv (hi : Int) (2 ^ (min (k : Int).toNat IntKind.u64.bits))) = .int .u64 ((hi / 2 ^ k : Nat) : Int) := by rw [hS2, fdiv_pow]
      have a2 := and_one (hi / 2 ^ k) (Nat.lt_of_le_of_lt (Nat.div_le_self _ _) hhi)
      have hbit : hi / 2 ^ k % 2 = b := by
        rw [hb, hA, Nat.pow_add, ← Nat.div_div_eq_div_mul]
        congr 2
        omega
      rw [hbit] at a2
      have hN2 : N = (q * 2 ^ (k + 1)) * 18446744073709551616 := by
        rw [hN, show 64 + k + 1 = 64 + (k + 1) by omega, Nat.pow_add, Nat.mul_comm (2 ^ 64), ← Nat.mul_assoc]
      have hH2 : H = 2 ^ (k + 1) * q := by rw [hH, hN2, Nat.mul_div_cancel _ (by omega), Nat.mul_comm]
      have hpk : (2 : Nat) ^ (64 + k) = 2 ^ k * 18446744073709551616 := by rw [Nat.pow_add, Nat.mul_comm]
      by_cases hge : y ≤ 2 * r + b
      · obtain ⟨k1, k2⟩ := key true (by simpa using hge)
        rw [cond_true] at k1 k2
        refine dv_tt (r4 := ((2 * r + b - y : Nat) : Int)) (m := ((2 ^ k : Nat) : Int)) (H1 := ((H + 2 ^ k : Nat) : Int)) t0 n0 s1 a1 t1 sj (by omega) s2 a2 m1 p1 (by simp; omega) (wrapv (by omega) (by omega) (by omega)) (by rw [hS2]; exact pow_u64 (by omega)) (or_pow (by omega) hHb hH2) z1 ?_
        have hN' : A / 2 ^ (64 + k) / y * 2 ^ (64 + k) = N + 2 ^ k * 18446744073709551616 := by
          rw [k1, Nat.add_mul, Nat.one_mul, hpk, hN, hpow, hpk, Nat.mul_comm 2 q, Nat.mul_assoc]
        refine ih _ _ _ _ (N + 2 ^ k * 18446744073709551616) (by omega) rfl k2.symm hN'.symm ?_ ?_
        · rw [hH, Nat.add_mul_div_right _ _ (by omega)]
        · rw [hL, Nat.add_mul_mod_self_right]
      · obtain ⟨k1, k2⟩ := key false (by simpa using hge)
        rw [cond_false] at k1 k2
        refine dv_tf t0 n0 s1 a1 t1 sj (by omega) s2 a2 m1 p1 (by simp; omega) z1 ?_
        have hN' : A / 2 ^ (64 + k) / y * 2 ^ (64 + k) = N := by
          rw [k1, hN, hpow, Nat.add_zero, Nat.mul_comm 2 q, Nat.mul_assoc]
        exact ih _ _ _ _ N (by omega) rfl (by rw [k2]; omega) hN'.symm hH hL
    · have t1 : decide ((j : Int) ≥ 64) = false := by simp; omega
      have hS2 : min (j : Int).toNat IntKind.u64.bits = j := by simp [IntKind.bits]; omega
      rw [show min j 64 = j by omega] at s1 a1
      obtain ⟨k, hk⟩ : ∃ k, 64 = j + 1 + k := ⟨63 - j, by omega⟩
      have h64 : (18446744073709551616 : Nat) = 2 ^ (j + 1) * 2 ^ k := by rw [← Nat.pow_add, ← hk]
      have hbit : lo / 2 ^ j % 2 = b := by
        rw [hb, hA, h64, show hi * (2 ^ (j + 1) * 2 ^ k) + lo = lo + 2 ^ j * (2 * (hi * 2 ^ k)) by rw [hpow]; simp only [Nat.mul_assoc, Nat.mul_left_comm, Nat.mul_comm]; omega, Nat.add_mul_div_left _ _ hp0]
        omega
      rw [hbit] at a1
      have hLm : L = 2 ^ (j + 1) * (q % 2 ^ k) := by
        rw [hL, hN, h64, Nat.mul_comm q, Nat.mul_mod_mul_left]
      have hL1 : L + 2 ^ (j + 1) ≤ 18446744073709551616 := by
        rw [hLm, h64]
        have h1 : q % 2 ^ k < 2 ^ k := Nat.mod_lt _ (Nat.pow_pos (by omega))
        calc 2 ^ (j + 1) * (q % 2 ^ k) + 2 ^ (j + 1) = 2 ^ (j + 1) * (q % 2 ^ k + 1) := by rw [Nat.mul_add, Nat.mul_one]
          _ ≤ 2 ^ (j + 1) * 2 ^ k := Nat.mul_le_mul_left _ h1
      by_cases hge : y ≤ 2 * r + b
      · obtain ⟨k1, k2⟩ := key true (by simpa using hge)
        rw [cond_true] at k1 k2
        refine dv_ft (r4 := ((2 * r + b - y : Nat) : Int)) (m := ((2 ^ j : Nat) : Int)) (H1 := ((L + 2 ^ j : Nat) : Int)) t0 n0 s1 a1 t1 m1 p1 (by simp; omega) (wrapv (by omega) (by omega) (by omega)) (by rw [hS2]; exact pow_u64 (by omega)) (or_pow (by omega) hLb hLm) z1 ?_
        have hN' : A / 2 ^ j / y * 2 ^ j = N + 2 ^ j := by
          rw [k1, Nat.add_mul, Nat.one_mul, hN, hpow, Nat.mul_comm 2 q, Nat.mul_assoc]
        refine ih _ _ _ _ (N + 2 ^ j) (by omega) rfl k2.symm hN'.symm ?_ ?_
        · rw [hpow] at hL1
          omega
        · rw [hpow] at hL1
          omega
      · obtain ⟨k1, k2⟩ := key false (by simpa using hge)
        rw [cond_false] at k1 k2
        refine dv_ff t0 n0 s1 a1 t1 m1 p1 (by simp; omega) z1 ?_
        have hN' : A / 2 ^ j / y * 2 ^ j = N := by
          rw [k1, hN, hpow, Nat.add_zero, Nat.mul_comm 2 q, Nat.mul_assoc]
        exact ih _ _ _ _ N (by omega) rfl (by rw [k2]; omega) hN'.symm hH hL

/-- The whole number A, of either sign, in two parts. -/
abbrev bigN (s : Bool) (A : Nat) : Value := bigV s ((A / 18446744073709551616 : Nat) : Int) ((A % 18446744073709551616 : Nat) : Int)
theorem Rdiv_any (s : Bool) (A y : Nat) (hA : A < 340282366920938463463374607431768211456) (hy0 : 0 < y) (hy1 : y ≤ 9223372036854775808) :
    Pure Try.prog 70 #[bigN s A, .int .u64 (y : Int)] (.tuple #[bigN false (A / y), .int .u64 ((A % y : Nat) : Int)]) :=
  dv_path (dv_loop y _ _ A s (by omega) hy0 hy1 (by omega) (by omega) rfl rfl rfl 128 127 0 0 0 0 (by omega) (by omega) (by rw [Nat.div_eq_of_lt (by omega), Nat.zero_mod]) (by rw [Nat.div_eq_of_lt (a := A) (by omega), Nat.zero_div, Nat.zero_mul]) (by omega) (by omega))
end Go.Proofs.Ytjhkeinelbeekaa
