/-
  The leaf functions of package ratio and of the reference return what whole numbers say, in whatever world. Conditions: none.
-/
import Derived.Test.YtjjmnoiffpnphaaRows
import Derived.Test.YtjjmnoiffpnphaaSxA
import Derived.WalkKit
import Derived.WalkSpells
import Derived.WalkLawsBesides
import Derived.Lib.Hide
import Derived.RegionTactic
import Derived.Deep.QuietTactic
import Derived.BigQuiet
namespace Go.Proofs.Ytjjmnoiffpnphaa
open Go.RowKit
theorem ret_int {k : IntKind} {a b : Int} (h : a = b) : Ending.returned (.int k a) = .returned (.int k b) := by rw [h]
theorem ret_ib {k : IntKind} {a b : Int} {c d : Bool} (h : a = b) (g : c = d) : Ending.returned (.tuple #[.int k a, .bool c]) = .returned (.tuple #[.int k b, .bool d]) := by rw [h, g]

set_option maxHeartbeats 400000 in
theorem size_any (n : Int) (w : World) (h0 : -9223372036854775808 ≤ n) (h1 : n ≤ 9223372036854775807) :
    Calls Try.prog 71 #[.int .i64 n] w fun e w' => e = .returned (.int .u64 (n.natAbs : Int)) ∧ w = w' := by
  by_cases hn : n < 0
  · go_enter Try.func71, Try.ntmps71
    go_wp2
    go_ret
    exact ⟨ret_int (by simp [IntKind.wrap_u64]; omega), rfl⟩
  · go_enter Try.func71, Try.ntmps71
    go_wp2
    go_ret
    exact ⟨ret_int (by omega), rfl⟩

set_option maxHeartbeats 400000 in
theorem size44_any (n : Int) (w : World) (h0 : -9223372036854775808 ≤ n) (h1 : n ≤ 9223372036854775807) :
    Calls Try.prog 76 #[.int .i64 n] w fun e w' => e = .returned (.int .u64 (n.natAbs : Int)) ∧ w = w' := by
  by_cases hn : n < 0
  · go_enter Try.func76, Try.ntmps76
    go_wp2
    go_ret
    exact ⟨ret_int (by omega), rfl⟩
  · go_enter Try.func76, Try.ntmps76
    go_wp2
    go_ret
    exact ⟨ret_int (by omega), rfl⟩

/-- Does a size fit into 63 bits? -/
def fitB (n : Nat) : Bool := decide (n < 9223372036854775808)
/-- A size with a sign, or 0 where it does not fit. -/
def sgV (n : Nat) (b : Bool) : Int := if n < 9223372036854775808 then (if b then -(n : Int) else n) else 0

set_option maxHeartbeats 400000 in
theorem signed_any (n : Nat) (b : Bool) (w : World) (h1 : n < 18446744073709551616) :
    Calls Try.prog 97 #[.int .u64 n, .bool b] w fun e w' => e = .returned (.tuple #[.int .i64 (sgV n b), .bool (fitB n)]) ∧ w = w' := by
  by_cases hn : n < 9223372036854775808
  · cases b
    · go_enter Try.func97, Try.ntmps97
      go_wp2
      go_ret2
      exact ⟨ret_ib (by simp [sgV, hn]) (by simp [fitB, hn]), rfl⟩
    · go_enter Try.func97, Try.ntmps97
      go_wp2
      go_ret2
      exact ⟨ret_ib (by simp [sgV, hn]) (by simp [fitB, hn]), rfl⟩
  · go_enter Try.func97, Try.ntmps97
    go_wp2
    go_ret2
    exact ⟨ret_ib (by simp [sgV, hn]) (by simp [fitB, hn]), rfl⟩

def SomeGcd (a b : Nat) (w : World) (e : Ending) (w' : World) : Prop := e = .returned (.int .u64 ((Nat.gcd a b : Nat) : Int)) ∧ ∃ n, w' = w.drewN n
def GcdRel (a b : Nat) (w : World) (u v : Value) (wr : World) : Prop := ∃ x y n : Nat, x < 18446744073709551616 ∧ y < 18446744073709551616 ∧ Nat.gcd x y = Nat.gcd a b ∧ u = .int .u64 x ∧ v = .int .u64 y ∧ wr = w.drewN n

theorem someGcd_end {a b x n : Nat} {w : World} (H : Hid (Nat.gcd x 0 = Nat.gcd a b)) : SomeGcd a b w (.returned (.int .u64 (x : Int))) (w.drewN n) := by
  have := H.out
  rw [Nat.gcd_zero_right] at this
  exact ⟨ret_int (by rw [this]), n, rfl⟩
theorem gcd_next {a b x y : Nat} (H : Hid (Nat.gcd x y = Nat.gcd a b)) : Nat.gcd y (x % y) = Nat.gcd a b := by
  have := H.out
  rw [← this, Nat.gcd_comm x y]
  exact (Nat.gcd_rec y x).trans (Nat.gcd_comm _ _) |>.symm

set_option maxHeartbeats 400000 in
theorem divisor_some (a b : Nat) (w : World) (ha : a < 18446744073709551616) (hb : b < 18446744073709551616) :
    Calls Try.prog 70 #[.int .u64 a, .int .u64 b] w (SomeGcd a b w) := by
  go_enter Try.func70, Try.ntmps70
  go_wp2
  go_loopw [0, 1] (fun u v wr => GcdRel a b w u v wr) (fun _ v _ => (intOf v).toNat)
  case atStart => exact ⟨a, b, 0, ha, hb, rfl, rfl, rfl, rfl⟩
  case round =>
    obtain ⟨x, y, n, hx, hy, hg, rfl, rfl, rfl⟩ := hrel
    have HG := Lib.hid hg
    clear hg
    by_cases h0 : y = 0
    · subst h0
      go_wp2
      go_ret
      exact someGcd_end HG
    · have hlt : x % y < y := Nat.mod_lt _ (by omega)
      go_wp2
      go_quiet (fail)
      go_wp2
      go_roundw
      case rel => exact ⟨y, x % y, _, hy, by omega, gcd_next HG, rfl, by go_num, World.drewN_drewN ..⟩
      case measure => simp [intOf]; omega

set_option maxHeartbeats 400000 in
theorem common_some (a b : Nat) (w : World) (ha : a < 18446744073709551616) (hb : b < 18446744073709551616) :
    Calls Try.prog 75 #[.int .u64 a, .int .u64 b] w (SomeGcd a b w) := by
  go_enter Try.func75, Try.ntmps75
  go_wp2
  go_loopw [0, 1] (fun u v wr => GcdRel a b w u v wr) (fun _ v _ => (intOf v).toNat)
  case atStart => exact ⟨a, b, 0, ha, hb, rfl, rfl, rfl, rfl⟩
  case round =>
    obtain ⟨x, y, n, hx, hy, hg, rfl, rfl, rfl⟩ := hrel
    have HG := Lib.hid hg
    clear hg
    by_cases h0 : y = 0
    · subst h0
      go_wp2
      go_ret
      exact someGcd_end HG
    · have hlt : x % y < y := Nat.mod_lt _ (by omega)
      go_wp2
      go_quiet (fail)
      go_wp2
      go_roundw
      case rel => exact ⟨y, x % y, _, hy, by omega, gcd_next HG, rfl, by go_num, World.drewN_drewN ..⟩
      case measure => simp [intOf]; omega

theorem divisor_gr (a b : Nat) (w : World) (ha : a < 18446744073709551616) (hb : b < 18446744073709551616) :
    Calls Try.prog 70 #[.int .u64 a, .int .u64 b] w fun e w' => e = .returned (.int .u64 ((Nat.gcd a b : Nat) : Int)) ∧ Gr w w' :=
  (divisor_some a b w ha hb).mono fun _ _ ⟨he, _, hn⟩ => ⟨he, hn ▸ (Gr.refl w).drewN _⟩
theorem size_q (n : Int) (w : World) (k : Nat) (h0 : -9223372036854775808 ≤ n) (h1 : n ≤ 9223372036854775807) :
    Calls Try.prog 71 #[.int .i64 n] (w.drewN k) fun e w' => e = .returned (.int .u64 (n.natAbs : Int)) ∧ ∃ m, w' = w.drewN m :=
  (size_any n _ h0 h1).mono fun _ _ ⟨he, hw⟩ => ⟨he, k, hw.symm⟩
theorem size44_q (n : Int) (w : World) (k : Nat) (h0 : -9223372036854775808 ≤ n) (h1 : n ≤ 9223372036854775807) :
    Calls Try.prog 76 #[.int .i64 n] (w.drewN k) fun e w' => e = .returned (.int .u64 (n.natAbs : Int)) ∧ ∃ m, w' = w.drewN m :=
  (size44_any n _ h0 h1).mono fun _ _ ⟨he, hw⟩ => ⟨he, k, hw.symm⟩
theorem divisor_q (a b : Nat) (w : World) (k : Nat) (ha : a < 18446744073709551616) (hb : b < 18446744073709551616) :
    Calls Try.prog 70 #[.int .u64 a, .int .u64 b] (w.drewN k) fun e w' => e = .returned (.int .u64 ((Nat.gcd a b : Nat) : Int)) ∧ ∃ m, w' = w.drewN m :=
  (divisor_some a b _ ha hb).mono fun _ _ ⟨he, m, hw⟩ => ⟨he, k + m, hw.trans (World.drewN_drewN ..)⟩
theorem common_q (a b : Nat) (w : World) (k : Nat) (ha : a < 18446744073709551616) (hb : b < 18446744073709551616) :
    Calls Try.prog 75 #[.int .u64 a, .int .u64 b] (w.drewN k) fun e w' => e = .returned (.int .u64 ((Nat.gcd a b : Nat) : Int)) ∧ ∃ m, w' = w.drewN m :=
  (common_some a b _ ha hb).mono fun _ _ ⟨he, m, hw⟩ => ⟨he, k + m, hw.trans (World.drewN_drewN ..)⟩
end Go.Proofs.Ytjjmnoiffpnphaa
