/-
  The reference's whole numbers of two parts: what its functions return, as whole numbers.
-/
import Derived.Test.YtgpbofinbpcceaaQ
import Derived.Laws.Bits64b
namespace Go.Proofs.Ytgpbofinbpcceaa
open Go.RowKit
theorem halves (ah al bh bl : Nat) : (ah * 4294967296 + al) * (bh * 4294967296 + bl) = ah * bh * 18446744073709551616 + (ah * bl + al * bh) * 4294967296 + al * bl := by
  have e1 : ah * 4294967296 * (bh * 4294967296) = ah * bh * 18446744073709551616 := Nat.mul_mul_mul_comm ah 4294967296 bh 4294967296
  have e2 : ah * 4294967296 * bl = ah * bl * 4294967296 := Nat.mul_right_comm ah 4294967296 bl
  have e3 : al * (bh * 4294967296) = al * bh * 4294967296 := (Nat.mul_assoc al bh 4294967296).symm
  rw [Nat.add_mul, Nat.mul_add, Nat.mul_add, e1, e2, e3, Nat.add_mul]
  omega
end Go.Proofs.Ytgpbofinbpcceaa
