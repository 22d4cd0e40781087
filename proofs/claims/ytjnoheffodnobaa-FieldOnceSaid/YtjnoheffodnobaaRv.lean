/-
  divided of the reference: what it returns, for any whole number of 128 bits.
-/
import Derived.Test.YtjnoheffodnobaaQ
import Derived.Laws.Bits64b
namespace Go.Proofs.Ytjnoheffodnobaa
open Go.RowKit
abbrev bigV (s : Bool) (hi lo : Int) : Value := .agg #[.bool s, .int .u64 hi, .int .u64 lo]
theorem wrapv {x y : Int} (h : x = y) (h0 : 0 ≤ y) (h1 : y < 18446744073709551616) : Value.int .u64 (IntKind.u64.wrap x) = .int .u64 y := by rw [h, wrap_in h0 h1]

/-- The whole number A, of either sign, in two parts. -/
abbrev bigN (s : Bool) (A : Nat) : Value := bigV s ((A / 18446744073709551616 : Nat) : Int) ((A % 18446744073709551616 : Nat) : Int)
end Go.Proofs.Ytjnoheffodnobaa
