/-
  Joined: P, Q, Rv, Num, T, Con, Rs. Conditions: none.
-/
import Derived.Test.YtclpegneiomakaaGreatC
import Derived.Test.YtclpegneiomakaaGreatW21
import Derived.Laws.BitsAllLaws
import Derived.Laws.MathBits
import Derived.Lib.BitFns
import Derived.Test.YtclpegneiomakaaGreatSxJ
import Derived.Laws.Bits64b
namespace Go.Proofs.YtclpegneiomakaaGreat
open Go.RowKit
theorem okBoth_zero {a b c d : Int} (h1 : okB a b = true) (h2 : okB c d = true) : bothE a b c d = 0 := by simp [bothE, h1, ckE, h2]
end Go.Proofs.YtclpegneiomakaaGreat

namespace Go.Proofs.YtclpegneiomakaaGreat
open Go.RowKit
theorem pure_run {P : Program} (n : Nat) {f : FuncId} {args : List Value} (ch : List Ch) {v : Value} {T : Prop} (ht : v = v ∧ T) (e : Good v (runS P n f args ch) = (v = v ∧ T)) : Pure P f args.toArray v := pure_of n ch (e ▸ ht)
abbrev ratioV (n d : Int) : Value := .agg #[.int .i64 n, .int .i64 d]
abbrev wideV (x : Int) : Value := .agg #[.int .u64 (wHi x), .int .u64 (wLo x)]
theorem plus_fits {a b c d : Int} (h0 : -9223372036854775807 ≤ a) (h1 : a ≤ 9223372036854775807) (h2 : -9223372036854775807 ≤ b) (h3 : b ≤ 9223372036854775807)
    (h4 : -9223372036854775807 ≤ c) (h5 : c ≤ 9223372036854775807) (h6 : -9223372036854775807 ≤ d) (h7 : d ≤ 9223372036854775807) : fits128 (a * b + c * d) := by
  have h : (a * b).natAbs ≤ 9223372036854775807 * 9223372036854775807 := by rw [Int.natAbs_mul]; exact Nat.mul_le_mul (by omega) (by omega)
  have g : (c * d).natAbs ≤ 9223372036854775807 * 9223372036854775807 := by rw [Int.natAbs_mul]; exact Nat.mul_le_mul (by omega) (by omega)
  unfold fits128
  generalize a * b = p at *
  generalize c * d = q at *
  omega

end Go.Proofs.YtclpegneiomakaaGreat

namespace Go.Proofs.YtclpegneiomakaaGreat
open Go.RowKit
abbrev bigV (s : Bool) (hi lo : Int) : Value := .agg #[.bool s, .int .u64 hi, .int .u64 lo]
theorem wrapv {x y : Int} (h : x = y) (h0 : 0 ≤ y) (h1 : y < 18446744073709551616) : Value.int .u64 (IntKind.u64.wrap x) = .int .u64 y := by rw [h, wrap_in h0 h1]

/-- The whole number A, of either sign, in two parts. -/
abbrev bigN (s : Bool) (A : Nat) : Value := bigV s ((A / 18446744073709551616 : Nat) : Int) ((A % 18446744073709551616 : Nat) : Int)
end Go.Proofs.YtclpegneiomakaaGreat

namespace Go.Proofs.YtclpegneiomakaaGreat
/-- What a result has to do with p / q: the fraction in lowest terms; or out of range, and no valid fraction is it. -/
def IsRes (p q N D E : Int) : Prop :=
  (E = 0 ∧ okB N D = true ∧ I64 N ∧ I64 D ∧ N * q = p * D) ∨ (E = 16 ∧ N = 0 ∧ D = 0 ∧ ∀ n d, okB n d = true → I64 n → I64 d → n * q ≠ p * d)

theorem natAbs_gcd_dvd {T U n d : Int} (hU : 0 < U) (hd : 0 < d) (h1 : Nat.gcd T.natAbs U.natAbs = 1) (h2 : Nat.gcd n.natAbs d.natAbs = 1) (h : T * d = n * U) : T = n ∧ U = d := by
  have e : T.natAbs * d.natAbs = n.natAbs * U.natAbs := by rw [← Int.natAbs_mul, ← Int.natAbs_mul, h]
  have a1 : U.natAbs ∣ d.natAbs := Nat.Coprime.dvd_of_dvd_mul_left (show Nat.Coprime U.natAbs T.natAbs by rw [Nat.coprime_comm]; exact h1) ⟨n.natAbs, by rw [e, Nat.mul_comm]⟩
  have a2 : d.natAbs ∣ U.natAbs := Nat.Coprime.dvd_of_dvd_mul_left (show Nat.Coprime d.natAbs n.natAbs by rw [Nat.coprime_comm]; exact h2) ⟨T.natAbs, by rw [← e, Nat.mul_comm]⟩
  have a3 := Nat.dvd_antisymm a1 a2
  have hUd : U = d := by omega
  subst hUd
  exact ⟨Int.eq_of_mul_eq_mul_right (by omega) h, rfl⟩
theorem okB_iff {n d : Int} : okB n d = true ↔ 1 ≤ d ∧ n ≠ -9223372036854775808 ∧ Nat.gcd n.natAbs d.natAbs = 1 := by simp [okB]
theorem okB_one {n d n' d' : Int} (h1 : okB n d = true) (h2 : okB n' d' = true) (h : n * d' = n' * d) : n = n' ∧ d = d' := by
  obtain ⟨a1, _, a2⟩ := okB_iff.1 h1
  obtain ⟨b1, _, b2⟩ := okB_iff.1 h2
  exact natAbs_gcd_dvd (by omega) (by omega) a2 b2 h
end Go.Proofs.YtclpegneiomakaaGreat

namespace Go.Proofs.YtclpegneiomakaaGreat
open Go.RowKit
theorem Both_ok {a b c d : Int} (ha : I64 a) (hb : I64 b) (hc : I64 c) (hd : I64 d) (h1 : okB a b = true) (h2 : okB c d = true) : Pure Tryz.prog 136 #[ratioV a b, ratioV c d] (.int .i64 0) :=
  fun w => okBoth_zero h1 h2 ▸ checkBoth_any a b c d w ha hb hc hd
set_option maxRecDepth 100000
theorem cmp_any {a b c d : Int} (ha : I64 a) (hb : I64 b) (hc : I64 c) (hd : I64 d) (h1 : okB a b = true) (h2 : okB c d = true) :
    Pure Tryz.prog 119 #[ratioV a b, ratioV c d] (.tuple #[.int .i64 (a * d - c * b).sign, .int .i64 0]) := by
  have b1 := okB_den h1
  have d1 := okB_den h2
  have a1 := okB_num h1
  have c1 := okB_num h2
  have hB := Both_ok ha hb hc hd h1 h2
  unfold I64 at ha hb hc hd
  have e : a * d + -(c * b) = a * d - c * b := rfl
  have f : fits128 (a * d - c * b) := by
    have := plus_fits (a := a) (b := d) (c := -c) (d := b) (by omega) (by omega) (by omega) (by omega) (by omega) (by omega) (by omega) (by omega)
    rw [Int.neg_mul] at this
    exact this
  exact pure_run (args := [ratioV a b, ratioV c d]) 100 [.r (.int .i64 0), .k, .r (wideV (a * d)), .r (wideV (c * b)), .r (wideV (-(c * b))), .r (wideV (a * d - c * b)), .r (.int .i64 (a * d - c * b).sign)]
    (And.intro rfl (And.intro hB (And.intro ((fun w => product_any a d w (by omega) (by omega) (by omega) (by omega) : Pure _ _ _ _)) (And.intro ((fun w => product_any c b w (by omega) (by omega) (by omega) (by omega) : Pure _ _ _ _)) (And.intro ((fun w => negated_any (c * b) w : Pure _ _ _ _)) (And.intro ((fun w => e ▸ plus_any (a * d) (-(c * b)) w : Pure _ _ _ _)) (And.intro ((fun w => sign_any _ w f : Pure _ _ _ _)) True.intro))))))) (by kernel_rfl)
end Go.Proofs.YtclpegneiomakaaGreat

namespace Go.Proofs.YtclpegneiomakaaGreat
open Go.RowKit
theorem IsRes.one {p q N D E n d : Int} (h : IsRes p q N D E) (hq : q ≠ 0) (hk : okB n d = true) (hn : I64 n) (hd : I64 d) (he : n * q = p * d) : N = n ∧ D = d ∧ E = 0 := by
  rcases h with ⟨h1, h2, _, _, h5⟩ | ⟨_, _, _, h4⟩
  · have : N * d = n * D := by
      refine Int.eq_of_mul_eq_mul_right hq ?_
      rw [Int.mul_right_comm, h5, Int.mul_right_comm n D q, he, Int.mul_right_comm]
    obtain ⟨a1, a2⟩ := okB_one h2 hk this
    exact ⟨a1, a2, h1⟩
  · exact absurd he (h4 n d hk hn hd)
theorem Check_ok {n d : Int} (hn : I64 n) (hd : I64 d) (h : okB n d = true) : Pure Tryz.prog 40 #[ratioV n d] (.int .i64 0) := fun w => ckE_ok h ▸ check_any n d w hn.1 hn.2 hd.1 hd.2
theorem Check_bad {n d : Int} (hn : I64 n) (hd : I64 d) (h : ¬ okB n d = true) : Pure Tryz.prog 40 #[ratioV n d] (.int .i64 8) := fun w => ckE_bad h ▸ check_any n d w hn.1 hn.2 hd.1 hd.2
theorem RCheck_ok {n d : Int} (hn : I64 n) (hd : I64 d) (h : okB n d = true) : Pure Tryz.prog 33 #[ratioV n d] (.int .i64 0) := fun w => ckE_ok h ▸ check24_any n d w hn.1 hn.2 hd.1 hd.2
theorem RCheck_bad {n d : Int} (hn : I64 n) (hd : I64 d) (h : ¬ okB n d = true) : Pure Tryz.prog 33 #[ratioV n d] (.int .i64 8) := fun w => ckE_bad h ▸ check24_any n d w hn.1 hn.2 hd.1 hd.2
theorem Cmp_ok {a b c d : Int} (ha : I64 a) (hb : I64 b) (hc : I64 c) (hd : I64 d) (h1 : okB a b = true) (h2 : okB c d = true) :
    Pure Tryz.prog 119 #[ratioV a b, ratioV c d] (.tuple #[.int .i64 (a * d - c * b).sign, .int .i64 0]) := cmp_any ha hb hc hd h1 h2
end Go.Proofs.YtclpegneiomakaaGreat

namespace Go.Proofs.YtclpegneiomakaaGreat
open Go.RowKit
set_option maxRecDepth 100000 in
theorem rprod_path {a b ah al bh bl low p1 lh m p2 mr n p3 mh s1 nh hi nr nr2 lr lo : Int} (nz : ¬ (4294967296 : Int) = 0) (q1 : Value.int .u64 (IntKind.u64.wrap (Int.tdiv a 4294967296)) = .int .u64 ah) (q2 : Value.int .u64 (Int.tmod a 4294967296) = .int .u64 al) (q3 : Value.int .u64 (IntKind.u64.wrap (Int.tdiv b 4294967296)) = .int .u64 bh) (q4 : Value.int .u64 (Int.tmod b 4294967296) = .int .u64 bl) (x1 : Value.int .u64 (IntKind.u64.wrap (al * bl)) = .int .u64 low) (x2 : Value.int .u64 (IntKind.u64.wrap (ah * bl)) = .int .u64 p1) (q5 : Value.int .u64 (IntKind.u64.wrap (Int.tdiv low 4294967296)) = .int .u64 lh) (x3 : Value.int .u64 (IntKind.u64.wrap (p1 + lh)) = .int .u64 m) (x4 : Value.int .u64 (IntKind.u64.wrap (al * bh)) = .int .u64 p2) (q6 : Value.int .u64 (Int.tmod m 4294967296) = .int .u64 mr) (x5 : Value.int .u64 (IntKind.u64.wrap (p2 + mr)) = .int .u64 n) (x6 : Value.int .u64 (IntKind.u64.wrap (ah * bh)) = .int .u64 p3) (q7 : Value.int .u64 (IntKind.u64.wrap (Int.tdiv m 4294967296)) = .int .u64 mh) (x7 : Value.int .u64 (IntKind.u64.wrap (p3 + mh)) = .int .u64 s1) (q8 : Value.int .u64 (IntKind.u64.wrap (Int.tdiv n 4294967296)) = .int .u64 nh) (x8 : Value.int .u64 (IntKind.u64.wrap (s1 + nh)) = .int .u64 hi) (q9 : Value.int .u64 (Int.tmod n 4294967296) = .int .u64 nr) (x9 : Value.int .u64 (IntKind.u64.wrap (nr * 4294967296)) = .int .u64 nr2) (q10 : Value.int .u64 (Int.tmod low 4294967296) = .int .u64 lr) (x10 : Value.int .u64 (IntKind.u64.wrap (nr2 + lr)) = .int .u64 lo) :
    Pure Tryz.prog 120 #[.int .u64 a, .int .u64 b] (bigV false hi lo) :=
  pure_run (args := [.int .u64 a, .int .u64 b]) 200 [.r (.int .u64 ah), .r (.int .u64 al), .r (.int .u64 bh), .r (.int .u64 bl), .r (.int .u64 low), .r (.int .u64 p1), .r (.int .u64 lh), .r (.int .u64 m), .r (.int .u64 p2), .r (.int .u64 mr), .r (.int .u64 n), .r (.int .u64 p3), .r (.int .u64 mh), .r (.int .u64 s1), .r (.int .u64 nh), .r (.int .u64 hi), .r (.int .u64 nr), .r (.int .u64 nr2), .r (.int .u64 lr), .r (.int .u64 lo)]
    (And.intro rfl (And.intro nz (And.intro q1 (And.intro nz (And.intro q2 (And.intro nz (And.intro q3 (And.intro nz (And.intro q4 (And.intro x1 (And.intro x2 (And.intro nz (And.intro q5 (And.intro x3 (And.intro x4 (And.intro nz (And.intro q6 (And.intro x5 (And.intro x6 (And.intro nz (And.intro q7 (And.intro x7 (And.intro nz (And.intro q8 (And.intro x8 (And.intro nz (And.intro q9 (And.intro x9 (And.intro nz (And.intro q10 (And.intro x10 True.intro))))))))))))))))))))))))))))))) (by kernel_rfl)

set_option maxRecDepth 100000 in
theorem rProd_ttxx {a b za zb hi lo : Int} (c1 : Pure Tryz.prog 66 #[.int .i64 a] (.int .u64 za)) (c2 : Pure Tryz.prog 66 #[.int .i64 b] (.int .u64 zb)) (c3 : Pure Tryz.prog 120 #[.int .u64 za, .int .u64 zb] (bigV false hi lo)) (t1 : decide (a < 0) = true) (t2 : decide (b < 0) = true) :
    Pure Tryz.prog 99 #[.int .i64 a, .int .i64 b] (bigV false hi lo) :=
  pure_run (args := [.int .i64 a, .int .i64 b]) 200 [.r (.int .u64 za), .r (.int .u64 zb), .r (bigV false hi lo), .t true, .t true, .k]
    (And.intro rfl (And.intro c1 (And.intro c2 (And.intro c3 (And.intro t1 (And.intro t2 True.intro)))))) (by kernel_rfl)

set_option maxRecDepth 100000 in
theorem rProd_tftf {a b za zb hi lo : Int} (c1 : Pure Tryz.prog 66 #[.int .i64 a] (.int .u64 za)) (c2 : Pure Tryz.prog 66 #[.int .i64 b] (.int .u64 zb)) (c3 : Pure Tryz.prog 120 #[.int .u64 za, .int .u64 zb] (bigV false hi lo)) (t1 : decide (a < 0) = true) (t2 : decide (b < 0) = false) (t3 : (a != 0) = true) (t4 : (b != 0) = false) :
    Pure Tryz.prog 99 #[.int .i64 a, .int .i64 b] (bigV false hi lo) :=
  pure_run (args := [.int .i64 a, .int .i64 b]) 200 [.r (.int .u64 za), .r (.int .u64 zb), .r (bigV false hi lo), .t true, .t false, .k, .t true, .t false]
    (And.intro rfl (And.intro c1 (And.intro c2 (And.intro c3 (And.intro t1 (And.intro t2 (And.intro t3 (And.intro t4 True.intro)))))))) (by kernel_rfl)

set_option maxRecDepth 100000 in
theorem rProd_tftt {a b za zb hi lo : Int} (c1 : Pure Tryz.prog 66 #[.int .i64 a] (.int .u64 za)) (c2 : Pure Tryz.prog 66 #[.int .i64 b] (.int .u64 zb)) (c3 : Pure Tryz.prog 120 #[.int .u64 za, .int .u64 zb] (bigV false hi lo)) (t1 : decide (a < 0) = true) (t2 : decide (b < 0) = false) (t3 : (a != 0) = true) (t4 : (b != 0) = true) :
    Pure Tryz.prog 99 #[.int .i64 a, .int .i64 b] (bigV true hi lo) :=
  pure_run (args := [.int .i64 a, .int .i64 b]) 200 [.r (.int .u64 za), .r (.int .u64 zb), .r (bigV false hi lo), .t true, .t false, .k, .t true, .t true]
    (And.intro rfl (And.intro c1 (And.intro c2 (And.intro c3 (And.intro t1 (And.intro t2 (And.intro t3 (And.intro t4 True.intro)))))))) (by kernel_rfl)

set_option maxRecDepth 100000 in
theorem rProd_ftfx {a b za zb hi lo : Int} (c1 : Pure Tryz.prog 66 #[.int .i64 a] (.int .u64 za)) (c2 : Pure Tryz.prog 66 #[.int .i64 b] (.int .u64 zb)) (c3 : Pure Tryz.prog 120 #[.int .u64 za, .int .u64 zb] (bigV false hi lo)) (t1 : decide (a < 0) = false) (t2 : decide (b < 0) = true) (t3 : (a != 0) = false) :
    Pure Tryz.prog 99 #[.int .i64 a, .int .i64 b] (bigV false hi lo) :=
  pure_run (args := [.int .i64 a, .int .i64 b]) 200 [.r (.int .u64 za), .r (.int .u64 zb), .r (bigV false hi lo), .t false, .t true, .k, .t false]
    (And.intro rfl (And.intro c1 (And.intro c2 (And.intro c3 (And.intro t1 (And.intro t2 (And.intro t3 True.intro))))))) (by kernel_rfl)

set_option maxRecDepth 100000 in
theorem rProd_fttt {a b za zb hi lo : Int} (c1 : Pure Tryz.prog 66 #[.int .i64 a] (.int .u64 za)) (c2 : Pure Tryz.prog 66 #[.int .i64 b] (.int .u64 zb)) (c3 : Pure Tryz.prog 120 #[.int .u64 za, .int .u64 zb] (bigV false hi lo)) (t1 : decide (a < 0) = false) (t2 : decide (b < 0) = true) (t3 : (a != 0) = true) (t4 : (b != 0) = true) :
    Pure Tryz.prog 99 #[.int .i64 a, .int .i64 b] (bigV true hi lo) :=
  pure_run (args := [.int .i64 a, .int .i64 b]) 200 [.r (.int .u64 za), .r (.int .u64 zb), .r (bigV false hi lo), .t false, .t true, .k, .t true, .t true]
    (And.intro rfl (And.intro c1 (And.intro c2 (And.intro c3 (And.intro t1 (And.intro t2 (And.intro t3 (And.intro t4 True.intro)))))))) (by kernel_rfl)

set_option maxRecDepth 100000 in
theorem rProd_ffxx {a b za zb hi lo : Int} (c1 : Pure Tryz.prog 66 #[.int .i64 a] (.int .u64 za)) (c2 : Pure Tryz.prog 66 #[.int .i64 b] (.int .u64 zb)) (c3 : Pure Tryz.prog 120 #[.int .u64 za, .int .u64 zb] (bigV false hi lo)) (t1 : decide (a < 0) = false) (t2 : decide (b < 0) = false) :
    Pure Tryz.prog 99 #[.int .i64 a, .int .i64 b] (bigV false hi lo) :=
  pure_run (args := [.int .i64 a, .int .i64 b]) 200 [.r (.int .u64 za), .r (.int .u64 zb), .r (bigV false hi lo), .t false, .t false, .k]
    (And.intro rfl (And.intro c1 (And.intro c2 (And.intro c3 (And.intro t1 (And.intro t2 True.intro)))))) (by kernel_rfl)

set_option maxRecDepth 100000 in
theorem rSign_0 {hi lo : Int} {s : Bool} (t1 : (hi == 0) = true) (t2 : (lo == 0) = true) :
    Pure Tryz.prog 100 #[bigV s hi lo] (.int .i64 0) :=
  pure_run (args := [bigV s hi lo]) 200 [.t true, .t true]
    (And.intro rfl (And.intro t1 (And.intro t2 True.intro))) (by kernel_rfl)

set_option maxRecDepth 100000 in
theorem rSign_ht {hi lo : Int} (t1 : (hi == 0) = false) :
    Pure Tryz.prog 100 #[bigV true hi lo] (.int .i64 (-1)) :=
  pure_run (args := [bigV true hi lo]) 200 [.t false]
    (And.intro rfl (And.intro t1 True.intro)) (by kernel_rfl)

set_option maxRecDepth 100000 in
theorem rSign_lt {hi lo : Int} (t1 : (hi == 0) = true) (t2 : (lo == 0) = false) :
    Pure Tryz.prog 100 #[bigV true hi lo] (.int .i64 (-1)) :=
  pure_run (args := [bigV true hi lo]) 200 [.t true, .t false]
    (And.intro rfl (And.intro t1 (And.intro t2 True.intro))) (by kernel_rfl)

set_option maxRecDepth 100000 in
theorem rSign_hf {hi lo : Int} (t1 : (hi == 0) = false) :
    Pure Tryz.prog 100 #[bigV false hi lo] (.int .i64 1) :=
  pure_run (args := [bigV false hi lo]) 200 [.t false]
    (And.intro rfl (And.intro t1 True.intro)) (by kernel_rfl)

set_option maxRecDepth 100000 in
theorem rSign_lf {hi lo : Int} (t1 : (hi == 0) = true) (t2 : (lo == 0) = false) :
    Pure Tryz.prog 100 #[bigV false hi lo] (.int .i64 1) :=
  pure_run (args := [bigV false hi lo]) 200 [.t true, .t false]
    (And.intro rfl (And.intro t1 (And.intro t2 True.intro))) (by kernel_rfl)

set_option maxRecDepth 100000 in
theorem rLess_hl {a b c d : Int} {s t : Bool} (t1 : (a != c) = true) (t2 : decide (a < c) = true) :
    Pure Tryz.prog 101 #[bigV s a b, bigV t c d] (.int .i64 (-1)) :=
  pure_run (args := [bigV s a b, bigV t c d]) 200 [.t true, .t true]
    (And.intro rfl (And.intro t1 (And.intro t2 True.intro))) (by kernel_rfl)

set_option maxRecDepth 100000 in
theorem rLess_hg {a b c d : Int} {s t : Bool} (t1 : (a != c) = true) (t2 : decide (a < c) = false) :
    Pure Tryz.prog 101 #[bigV s a b, bigV t c d] (.int .i64 1) :=
  pure_run (args := [bigV s a b, bigV t c d]) 200 [.t true, .t false]
    (And.intro rfl (And.intro t1 (And.intro t2 True.intro))) (by kernel_rfl)

set_option maxRecDepth 100000 in
theorem rLess_ll {a b c d : Int} {s t : Bool} (t1 : (a != c) = false) (t3 : (b != d) = true) (t4 : decide (b < d) = true) :
    Pure Tryz.prog 101 #[bigV s a b, bigV t c d] (.int .i64 (-1)) :=
  pure_run (args := [bigV s a b, bigV t c d]) 200 [.t false, .t true, .t true]
    (And.intro rfl (And.intro t1 (And.intro t3 (And.intro t4 True.intro)))) (by kernel_rfl)

set_option maxRecDepth 100000 in
theorem rLess_lg {a b c d : Int} {s t : Bool} (t1 : (a != c) = false) (t3 : (b != d) = true) (t4 : decide (b < d) = false) :
    Pure Tryz.prog 101 #[bigV s a b, bigV t c d] (.int .i64 1) :=
  pure_run (args := [bigV s a b, bigV t c d]) 200 [.t false, .t true, .t false]
    (And.intro rfl (And.intro t1 (And.intro t3 (And.intro t4 True.intro)))) (by kernel_rfl)

set_option maxRecDepth 100000 in
theorem rLess_eq {a b c d : Int} {s t : Bool} (t1 : (a != c) = false) (t3 : (b != d) = false) :
    Pure Tryz.prog 101 #[bigV s a b, bigV t c d] (.int .i64 0) :=
  pure_run (args := [bigV s a b, bigV t c d]) 200 [.t false, .t false]
    (And.intro rfl (And.intro t1 (And.intro t3 True.intro))) (by kernel_rfl)

end Go.Proofs.YtclpegneiomakaaGreat
