/-
  sum of package ratio: what it returns for two valid fractions, in whatever world.
-/
import Derived.Test.YtgpbofinbpcceaaSxJ
import Derived.Test.YtgpbofinbpcceaaP
namespace Go.Proofs.Ytgpbofinbpcceaa
open Go.RowKit
theorem pure_run {P : Program} (n : Nat) {f : FuncId} {args : List Value} (ch : List Ch) {v : Value} {T : Prop} (ht : v = v ∧ T) (e : Good v (runS P n f args ch) = (v = v ∧ T)) : Pure P f args.toArray v := pure_of n ch (e ▸ ht)
abbrev ratioV (n d : Int) : Value := .agg #[.int .i64 n, .int .i64 d]
abbrev wideV (x : Int) : Value := .agg #[.int .u64 (wHi x), .int .u64 (wLo x)]
theorem plus_fits {a b c d : Int} (h0 : -9223372036854775807 ≤ a) (h1 : a ≤ 9223372036854775807) (h2 : -9223372036854775807 ≤ b) (h3 : b ≤ 9223372036854775807)
    (h4 : -9223372036854775807 ≤ c) (h5 : c ≤ 9223372036854775807) (h6 : -9223372036854775807 ≤ d) (h7 : d ≤ 9223372036854775807) : fits128 (a * b + c * d) := by
  have h : (a * b).natAbs ≤ 9223372036854775807 * 9223372036854775807 := by rw [Int.natAbs_mul]; exact Nat.mul_le_mul (by omega) (by omega)
  have g : (c * d).natAbs ≤ 9223372036854775807 * 9223372036854775807 := by rw [Int.natAbs_mul]; exact Nat.mul_le_mul (by omega) (by omega)
  unfold fits128
  generalize a * b = p at *
  generalize c * d = q at *
  omega

end Go.Proofs.Ytgpbofinbpcceaa
