/-
  Joined: B, Shelf, D. Conditions: none.
-/
import Derived.Test.YtomnmoinahhdmaaGreatA
import Derived.Shelf.Small.Bits
import Derived.Shelf.Strconv.Itoa0
import Derived.Shelf.Bits.Mul64
import Derived.Test.YtomnmoinahhdmaaGreatProg
namespace Go.Proofs.YtomnmoinahhdmaaGreat
open Go.RowKit
/-- Is a fraction valid? -/
def okB (n d : Int) : Bool := decide (1 ≤ d ∧ n ≠ -9223372036854775808 ∧ Nat.gcd n.natAbs d.natAbs = 1)
/-- The error of Check. -/
def ckE (n d : Int) : Int := if okB n d = true then 0 else 8

theorem ckE_low {n d : Int} (h : d < 1) : ckE n d = 8 := by simp [ckE, okB]; omega
theorem ckE_min {n d : Int} (h : n = -9223372036854775808) : ckE n d = 8 := by simp [ckE, okB, h]
theorem ckE_gcd {n d : Int} (h1 : ¬ d < 1) (h2 : ¬ n = -9223372036854775808) (h : Nat.gcd n.natAbs d.natAbs = 1) : ckE n d = 0 := by simp [ckE, okB, h, h2]; omega
theorem ckE_not {n d : Int} (h : ¬ Nat.gcd n.natAbs d.natAbs = 1) : ckE n d = 8 := by simp [ckE, okB, h]

set_option maxHeartbeats 400000 in
theorem check_any (n d : Int) (w : World) (hn0 : -9223372036854775808 ≤ n) (hn1 : n ≤ 9223372036854775807) (hd0 : -9223372036854775808 ≤ d) (hd1 : d ≤ 9223372036854775807) :
    Calls Tryz.prog 93 #[.agg #[.int .i64 n, .int .i64 d]] w fun e w' => e = .returned (.int .i64 (ckE n d)) ∧ Gr w w' := by
  by_cases h1 : d < 1
  · have g1 : decide (d < 1) = true := by simpa using h1
    go_enter Tryz.func93, Tryz.ntmps93
    go_wp2_with fail
    go_quiet (fail)
    go_wp2
    go_ret
    exact ⟨ret_int (ckE_low h1).symm, ((Gr.refl w).alloc _ _).drewN _⟩
  · have g1 : decide (d < 1) = false := by simpa using h1
    by_cases h2 : n = -9223372036854775808
    · have g2 : (n == -9223372036854775808) = true := by simpa using h2
      have H2 := Lib.hid h2
      clear h2
      go_enter Tryz.func93, Tryz.ntmps93
      go_wp2_with fail
      go_quiet (fail)
      go_wp2
      go_ret
      exact ⟨ret_int (ckE_min H2.out).symm, ((Gr.refl w).alloc _ _).drewN _⟩
    · have g2 : (n == -9223372036854775808) = false := by simpa using h2
      have H2 := Lib.hid h2
      clear h2
      go_enter Tryz.func93, Tryz.ntmps93
      go_wp2_with fail
      go_quiet ((first | (go_at_call 127; exact size_q _ _ _ (by omega) (by omega)) | (go_at_call 126; exact divisor_q _ _ _ _ (by omega) (by omega))))
      go_wp2
      · have h : ((Nat.gcd n.natAbs d.natAbs : Nat) : Int) != 1 := by assumption
        go_ret
        exact ⟨ret_int (ckE_not (by simp at h; omega)).symm, ((Gr.refl w).alloc _ _).drewN _⟩
      · have h : (((Nat.gcd n.natAbs d.natAbs : Nat) : Int) != 1) = false := by assumption
        go_ret
        exact ⟨ret_int (ckE_gcd (by omega) H2.out (by simp at h; omega)).symm, ((Gr.refl w).alloc _ _).drewN _⟩

set_option maxHeartbeats 400000 in
theorem check24_any (n d : Int) (w : World) (hn0 : -9223372036854775808 ≤ n) (hn1 : n ≤ 9223372036854775807) (hd0 : -9223372036854775808 ≤ d) (hd1 : d ≤ 9223372036854775807) :
    Calls Tryz.prog 20 #[.agg #[.int .i64 n, .int .i64 d]] w fun e w' => e = .returned (.int .i64 (ckE n d)) ∧ Gr w w' := by
  by_cases h1 : d < 1
  · have g1 : decide (d < 1) = true := by simpa using h1
    go_enter Tryz.func20, Tryz.ntmps20
    go_wp2_with fail
    go_quiet (fail)
    go_wp2
    go_ret
    exact ⟨ret_int (ckE_low h1).symm, ((Gr.refl w).alloc _ _).drewN _⟩
  · have g1 : decide (d < 1) = false := by simpa using h1
    by_cases h2 : n = -9223372036854775808
    · have g2 : (n == -9223372036854775808) = true := by simpa using h2
      have H2 := Lib.hid h2
      clear h2
      go_enter Tryz.func20, Tryz.ntmps20
      go_wp2_with fail
      go_quiet (fail)
      go_wp2
      go_ret
      exact ⟨ret_int (ckE_min H2.out).symm, ((Gr.refl w).alloc _ _).drewN _⟩
    · have g2 : (n == -9223372036854775808) = false := by simpa using h2
      have H2 := Lib.hid h2
      clear h2
      obtain ⟨m, rfl⟩ : ∃ m : Nat, d = m := ⟨d.toNat, by omega⟩
      go_enter Tryz.func20, Tryz.ntmps20
      go_wp2_with fail
      go_quiet ((first | (go_at_call 51; exact size44_q _ _ _ (by omega) (by omega)) | (go_at_call 50; go_simp; exact common_q _ _ _ _ (by omega) (by omega))))
      go_wp2
      · have h : ((Nat.gcd n.natAbs m : Nat) : Int) != 1 := by assumption
        go_ret
        exact ⟨ret_int (ckE_not (by simp at h; simp; omega)).symm, ((Gr.refl w).alloc _ _).drewN _⟩
      · have h : (((Nat.gcd n.natAbs m : Nat) : Int) != 1) = false := by assumption
        go_ret
        exact ⟨ret_int (ckE_gcd (by omega) H2.out (by simp at h; simp; omega)).symm, ((Gr.refl w).alloc _ _).drewN _⟩
end Go.Proofs.YtomnmoinahhdmaaGreat

namespace Go.Proofs
open Go.Shelf
def Tryz.lays264_ren : Go.Shelf.Ren := ⟨fun | 264 => 171 | n => n, fun | 53 => 91 | 46 => 145 | n => n, fun | n => n⟩
theorem Tryz.lays264 : Go.Proofs.Lays.n264 Tryz.prog Tryz.lays264_ren := {
  mixed := by kernel_rfl
  f264 := Tryz.func171.trans (congrArg some (by kernel_rfl))
  t46 := Tryz.underlying145
  a46 := Tryz.isAgg145
  z46 := Tryz.sizeOf145
  v46 := Tryz.zeroValue145
  t53 := Tryz.underlying91
  a53 := Tryz.isAgg91
  z53 := Tryz.sizeOf91
  v53 := Tryz.zeroValue91 }
open Go.RowKit Go.Lib in
theorem Tryz.bits_Mul64 (x y : Nat) (hx : x < 18446744073709551616) (hy : y < 18446744073709551616) (w : World) :
    Calls Tryz.prog 171 #[.int .u64 x, .int .u64 y] w fun e w' => e = .returned (.tuple #[.int .u64 ((x * y / 18446744073709551616 : Nat) : Int), .int .u64 ((x * y % 18446744073709551616 : Nat) : Int)]) ∧ w' = w := Any.bits_Mul64 Tryz.lays264 x y hx hy w
end Go.Proofs

namespace Go.Proofs.YtomnmoinahhdmaaGreat
open Go.RowKit
theorem wrap_in {n : Int} (h0 : 0 ≤ n) (h1 : n < 18446744073709551616) : IntKind.u64.wrap n = n := by rw [IntKind.wrap_u64]; omega
end Go.Proofs.YtomnmoinahhdmaaGreat
