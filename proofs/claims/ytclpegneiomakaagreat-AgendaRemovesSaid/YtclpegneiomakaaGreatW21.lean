/-
  Joined: A, Shelf, D, B, F, G. Conditions: none.
-/
import Derived.Test.YtclpegneiomakaaGreatRows
import Derived.Test.YtclpegneiomakaaGreatSxA
import Derived.WalkKit
import Derived.WalkSpells
import Derived.WalkLawsBesides
import Derived.Lib.Hide
import Derived.RegionTactic
import Derived.Deep.QuietTactic
import Derived.BigQuiet
import Derived.Shelf.Small.Bits
import Derived.Shelf.Strconv.Itoa0
import Derived.Shelf.Bits.Mul64
import Derived.Test.YtclpegneiomakaaGreatProg
import Derived.BigGuardPart
namespace Go.Proofs.YtclpegneiomakaaGreat
open Go.RowKit
theorem ret_int {k : IntKind} {a b : Int} (h : a = b) : Ending.returned (.int k a) = .returned (.int k b) := by rw [h]
set_option maxHeartbeats 400000 in
theorem size_any (n : Int) (w : World) (h0 : -9223372036854775808 ≤ n) (h1 : n ≤ 9223372036854775807) :
    Calls Tryz.prog 71 #[.int .i64 n] w fun e w' => e = .returned (.int .u64 (n.natAbs : Int)) ∧ w = w' := by
  by_cases hn : n < 0
  · go_enter Tryz.func71, Tryz.ntmps71
    go_wp2
    go_ret
    exact ⟨ret_int (by simp [IntKind.wrap_u64]; omega), rfl⟩
  · go_enter Tryz.func71, Tryz.ntmps71
    go_wp2
    go_ret
    exact ⟨ret_int (by omega), rfl⟩

set_option maxHeartbeats 400000 in
theorem size44_any (n : Int) (w : World) (h0 : -9223372036854775808 ≤ n) (h1 : n ≤ 9223372036854775807) :
    Calls Tryz.prog 66 #[.int .i64 n] w fun e w' => e = .returned (.int .u64 (n.natAbs : Int)) ∧ w = w' := by
  by_cases hn : n < 0
  · go_enter Tryz.func66, Tryz.ntmps66
    go_wp2
    go_ret
    exact ⟨ret_int (by omega), rfl⟩
  · go_enter Tryz.func66, Tryz.ntmps66
    go_wp2
    go_ret
    exact ⟨ret_int (by omega), rfl⟩

def SomeGcd (a b : Nat) (w : World) (e : Ending) (w' : World) : Prop := e = .returned (.int .u64 ((Nat.gcd a b : Nat) : Int)) ∧ ∃ n, w' = w.drewN n
def GcdRel (a b : Nat) (w : World) (u v : Value) (wr : World) : Prop := ∃ x y n : Nat, x < 18446744073709551616 ∧ y < 18446744073709551616 ∧ Nat.gcd x y = Nat.gcd a b ∧ u = .int .u64 x ∧ v = .int .u64 y ∧ wr = w.drewN n

theorem someGcd_end {a b x n : Nat} {w : World} (H : Hid (Nat.gcd x 0 = Nat.gcd a b)) : SomeGcd a b w (.returned (.int .u64 (x : Int))) (w.drewN n) := by
  have := H.out
  rw [Nat.gcd_zero_right] at this
  exact ⟨ret_int (by rw [this]), n, rfl⟩
theorem gcd_next {a b x y : Nat} (H : Hid (Nat.gcd x y = Nat.gcd a b)) : Nat.gcd y (x % y) = Nat.gcd a b := by
  have := H.out
  rw [← this, Nat.gcd_comm x y]
  exact (Nat.gcd_rec y x).trans (Nat.gcd_comm _ _) |>.symm

set_option maxHeartbeats 400000 in
theorem divisor_some (a b : Nat) (w : World) (ha : a < 18446744073709551616) (hb : b < 18446744073709551616) :
    Calls Tryz.prog 70 #[.int .u64 a, .int .u64 b] w (SomeGcd a b w) := by
  go_enter Tryz.func70, Tryz.ntmps70
  go_wp2
  go_loopw [0, 1] (fun u v wr => GcdRel a b w u v wr) (fun _ v _ => (intOf v).toNat)
  case atStart => exact ⟨a, b, 0, ha, hb, rfl, rfl, rfl, rfl⟩
  case round =>
    obtain ⟨x, y, n, hx, hy, hg, rfl, rfl, rfl⟩ := hrel
    have HG := Lib.hid hg
    clear hg
    by_cases h0 : y = 0
    · subst h0
      go_wp2
      go_ret
      exact someGcd_end HG
    · have hlt : x % y < y := Nat.mod_lt _ (by omega)
      go_wp2
      go_quiet (fail)
      go_wp2
      go_roundw
      case rel => exact ⟨y, x % y, _, hy, by omega, gcd_next HG, rfl, by go_num, World.drewN_drewN ..⟩
      case measure => simp [intOf]; omega

set_option maxHeartbeats 400000 in
theorem common_some (a b : Nat) (w : World) (ha : a < 18446744073709551616) (hb : b < 18446744073709551616) :
    Calls Tryz.prog 65 #[.int .u64 a, .int .u64 b] w (SomeGcd a b w) := by
  go_enter Tryz.func65, Tryz.ntmps65
  go_wp2
  go_loopw [0, 1] (fun u v wr => GcdRel a b w u v wr) (fun _ v _ => (intOf v).toNat)
  case atStart => exact ⟨a, b, 0, ha, hb, rfl, rfl, rfl, rfl⟩
  case round =>
    obtain ⟨x, y, n, hx, hy, hg, rfl, rfl, rfl⟩ := hrel
    have HG := Lib.hid hg
    clear hg
    by_cases h0 : y = 0
    · subst h0
      go_wp2
      go_ret
      exact someGcd_end HG
    · have hlt : x % y < y := Nat.mod_lt _ (by omega)
      go_wp2
      go_quiet (fail)
      go_wp2
      go_roundw
      case rel => exact ⟨y, x % y, _, hy, by omega, gcd_next HG, rfl, by go_num, World.drewN_drewN ..⟩
      case measure => simp [intOf]; omega

theorem size_q (n : Int) (w : World) (k : Nat) (h0 : -9223372036854775808 ≤ n) (h1 : n ≤ 9223372036854775807) :
    Calls Tryz.prog 71 #[.int .i64 n] (w.drewN k) fun e w' => e = .returned (.int .u64 (n.natAbs : Int)) ∧ ∃ m, w' = w.drewN m :=
  (size_any n _ h0 h1).mono fun _ _ ⟨he, hw⟩ => ⟨he, k, hw.symm⟩
theorem size44_q (n : Int) (w : World) (k : Nat) (h0 : -9223372036854775808 ≤ n) (h1 : n ≤ 9223372036854775807) :
    Calls Tryz.prog 66 #[.int .i64 n] (w.drewN k) fun e w' => e = .returned (.int .u64 (n.natAbs : Int)) ∧ ∃ m, w' = w.drewN m :=
  (size44_any n _ h0 h1).mono fun _ _ ⟨he, hw⟩ => ⟨he, k, hw.symm⟩
theorem divisor_q (a b : Nat) (w : World) (k : Nat) (ha : a < 18446744073709551616) (hb : b < 18446744073709551616) :
    Calls Tryz.prog 70 #[.int .u64 a, .int .u64 b] (w.drewN k) fun e w' => e = .returned (.int .u64 ((Nat.gcd a b : Nat) : Int)) ∧ ∃ m, w' = w.drewN m :=
  (divisor_some a b _ ha hb).mono fun _ _ ⟨he, m, hw⟩ => ⟨he, k + m, hw.trans (World.drewN_drewN ..)⟩
theorem common_q (a b : Nat) (w : World) (k : Nat) (ha : a < 18446744073709551616) (hb : b < 18446744073709551616) :
    Calls Tryz.prog 65 #[.int .u64 a, .int .u64 b] (w.drewN k) fun e w' => e = .returned (.int .u64 ((Nat.gcd a b : Nat) : Int)) ∧ ∃ m, w' = w.drewN m :=
  (common_some a b _ ha hb).mono fun _ _ ⟨he, m, hw⟩ => ⟨he, k + m, hw.trans (World.drewN_drewN ..)⟩
end Go.Proofs.YtclpegneiomakaaGreat

namespace Go.Proofs
open Go.Shelf
def Tryz.lays264_ren : Go.Shelf.Ren := ⟨fun | 264 => 103 | n => n, fun | 53 => 106 | 46 => 111 | n => n, fun | n => n⟩
theorem Tryz.lays264 : Go.Proofs.Lays.n264 Tryz.prog Tryz.lays264_ren := {
  mixed := by kernel_rfl
  f264 := Tryz.func103.trans (congrArg some (by kernel_rfl))
  t46 := Tryz.underlying111
  a46 := Tryz.isAgg111
  z46 := Tryz.sizeOf111
  v46 := Tryz.zeroValue111
  t53 := Tryz.underlying106
  a53 := Tryz.isAgg106
  z53 := Tryz.sizeOf106
  v53 := Tryz.zeroValue106 }
open Go.RowKit Go.Lib in
theorem Tryz.bits_Mul64 (x y : Nat) (hx : x < 18446744073709551616) (hy : y < 18446744073709551616) (w : World) :
    Calls Tryz.prog 103 #[.int .u64 x, .int .u64 y] w fun e w' => e = .returned (.tuple #[.int .u64 ((x * y / 18446744073709551616 : Nat) : Int), .int .u64 ((x * y % 18446744073709551616 : Nat) : Int)]) ∧ w' = w := Any.bits_Mul64 Tryz.lays264 x y hx hy w
end Go.Proofs

namespace Go.Proofs.YtclpegneiomakaaGreat
open Go.RowKit
theorem wrap_in {n : Int} (h0 : 0 ≤ n) (h1 : n < 18446744073709551616) : IntKind.u64.wrap n = n := by rw [IntKind.wrap_u64]; omega
end Go.Proofs.YtclpegneiomakaaGreat

namespace Go.Proofs.YtclpegneiomakaaGreat
open Go.RowKit
/-- Is a fraction valid? -/
def okB (n d : Int) : Bool := decide (1 ≤ d ∧ n ≠ -9223372036854775808 ∧ Nat.gcd n.natAbs d.natAbs = 1)
/-- The error of Check. -/
def ckE (n d : Int) : Int := if okB n d = true then 0 else 8

theorem ckE_low {n d : Int} (h : d < 1) : ckE n d = 8 := by simp [ckE, okB]; omega
theorem ckE_min {n d : Int} (h : n = -9223372036854775808) : ckE n d = 8 := by simp [ckE, okB, h]
theorem ckE_gcd {n d : Int} (h1 : ¬ d < 1) (h2 : ¬ n = -9223372036854775808) (h : Nat.gcd n.natAbs d.natAbs = 1) : ckE n d = 0 := by simp [ckE, okB, h, h2]; omega
theorem ckE_not {n d : Int} (h : ¬ Nat.gcd n.natAbs d.natAbs = 1) : ckE n d = 8 := by simp [ckE, okB, h]

set_option maxHeartbeats 400000 in
theorem check_any (n d : Int) (w : World) (hn0 : -9223372036854775808 ≤ n) (hn1 : n ≤ 9223372036854775807) (hd0 : -9223372036854775808 ≤ d) (hd1 : d ≤ 9223372036854775807) :
    Calls Tryz.prog 40 #[.agg #[.int .i64 n, .int .i64 d]] w fun e w' => e = .returned (.int .i64 (ckE n d)) ∧ Gr w w' := by
  by_cases h1 : d < 1
  · have g1 : decide (d < 1) = true := by simpa using h1
    go_enter Tryz.func40, Tryz.ntmps40
    go_wp2_with fail
    go_quiet (fail)
    go_wp2
    go_ret
    exact ⟨ret_int (ckE_low h1).symm, ((Gr.refl w).alloc _ _).drewN _⟩
  · have g1 : decide (d < 1) = false := by simpa using h1
    by_cases h2 : n = -9223372036854775808
    · have g2 : (n == -9223372036854775808) = true := by simpa using h2
      have H2 := Lib.hid h2
      clear h2
      go_enter Tryz.func40, Tryz.ntmps40
      go_wp2_with fail
      go_quiet (fail)
      go_wp2
      go_ret
      exact ⟨ret_int (ckE_min H2.out).symm, ((Gr.refl w).alloc _ _).drewN _⟩
    · have g2 : (n == -9223372036854775808) = false := by simpa using h2
      have H2 := Lib.hid h2
      clear h2
      go_enter Tryz.func40, Tryz.ntmps40
      go_wp2_with fail
      go_quiet ((first | (go_at_call 71; exact size_q _ _ _ (by omega) (by omega)) | (go_at_call 70; exact divisor_q _ _ _ _ (by omega) (by omega))))
      go_wp2
      · have h : ((Nat.gcd n.natAbs d.natAbs : Nat) : Int) != 1 := by assumption
        go_ret
        exact ⟨ret_int (ckE_not (by simp at h; omega)).symm, ((Gr.refl w).alloc _ _).drewN _⟩
      · have h : (((Nat.gcd n.natAbs d.natAbs : Nat) : Int) != 1) = false := by assumption
        go_ret
        exact ⟨ret_int (ckE_gcd (by omega) H2.out (by simp at h; omega)).symm, ((Gr.refl w).alloc _ _).drewN _⟩

set_option maxHeartbeats 400000 in
theorem check24_any (n d : Int) (w : World) (hn0 : -9223372036854775808 ≤ n) (hn1 : n ≤ 9223372036854775807) (hd0 : -9223372036854775808 ≤ d) (hd1 : d ≤ 9223372036854775807) :
    Calls Tryz.prog 33 #[.agg #[.int .i64 n, .int .i64 d]] w fun e w' => e = .returned (.int .i64 (ckE n d)) ∧ Gr w w' := by
  by_cases h1 : d < 1
  · have g1 : decide (d < 1) = true := by simpa using h1
    go_enter Tryz.func33, Tryz.ntmps33
    go_wp2_with fail
    go_quiet (fail)
    go_wp2
    go_ret
    exact ⟨ret_int (ckE_low h1).symm, ((Gr.refl w).alloc _ _).drewN _⟩
  · have g1 : decide (d < 1) = false := by simpa using h1
    by_cases h2 : n = -9223372036854775808
    · have g2 : (n == -9223372036854775808) = true := by simpa using h2
      have H2 := Lib.hid h2
      clear h2
      go_enter Tryz.func33, Tryz.ntmps33
      go_wp2_with fail
      go_quiet (fail)
      go_wp2
      go_ret
      exact ⟨ret_int (ckE_min H2.out).symm, ((Gr.refl w).alloc _ _).drewN _⟩
    · have g2 : (n == -9223372036854775808) = false := by simpa using h2
      have H2 := Lib.hid h2
      clear h2
      obtain ⟨m, rfl⟩ : ∃ m : Nat, d = m := ⟨d.toNat, by omega⟩
      go_enter Tryz.func33, Tryz.ntmps33
      go_wp2_with fail
      go_quiet ((first | (go_at_call 66; exact size44_q _ _ _ (by omega) (by omega)) | (go_at_call 65; go_simp; exact common_q _ _ _ _ (by omega) (by omega))))
      go_wp2
      · have h : ((Nat.gcd n.natAbs m : Nat) : Int) != 1 := by assumption
        go_ret
        exact ⟨ret_int (ckE_not (by simp at h; simp; omega)).symm, ((Gr.refl w).alloc _ _).drewN _⟩
      · have h : (((Nat.gcd n.natAbs m : Nat) : Int) != 1) = false := by assumption
        go_ret
        exact ⟨ret_int (ckE_gcd (by omega) H2.out (by simp at h; simp; omega)).symm, ((Gr.refl w).alloc _ _).drewN _⟩
end Go.Proofs.YtclpegneiomakaaGreat

namespace Go.Proofs.YtclpegneiomakaaGreat
open Go.RowKit
theorem Gr.cells {a w : World} (h : Gr a w) : ∀ b o, b < a.heap.size → w.cell? ⟨b, o, none⟩ = a.cell? ⟨b, o, none⟩ := fun b o hb => h.cell b o hb
theorem Gr.marks {a w : World} (h : Gr a w) : ∀ b o, b < a.heap.size → w.frozen? ⟨b, o, none⟩ = a.frozen? ⟨b, o, none⟩ := fun b o hb => h.2.1 ⟨b, o, none⟩ hb

/-- Both errors in one: the first one's, or the second one's. -/
def bothE (a b c d : Int) : Int := if okB a b = true then ckE c d else 8
theorem ckE_ok {n d : Int} (h : okB n d = true) : ckE n d = 0 := by simp [ckE, h]
theorem ckE_bad {n d : Int} (h : ¬ okB n d = true) : ckE n d = 8 := by simp [ckE, h]
def I64 (n : Int) : Prop := -9223372036854775808 ≤ n ∧ n ≤ 9223372036854775807

set_option maxHeartbeats 400000 in
theorem checkBoth_any (a b c d : Int) (w : World) (ha : I64 a) (hb : I64 b) (hc : I64 c) (hd : I64 d) :
    Calls Tryz.prog 136 #[.agg #[.int .i64 a, .int .i64 b], .agg #[.int .i64 c, .int .i64 d]] w fun e w' => e = .returned (.int .i64 (bothE a b c d)) ∧ Gr w w' := by
  have HA := Lib.hid ha
  have HB := Lib.hid hb
  have HC := Lib.hid hc
  have HD := Lib.hid hd
  clear ha hb hc hd
  by_cases hk : okB a b = true
  · have e0 : bothE a b c d = ckE c d := by simp [bothE, hk]
    have e1 := ckE_ok hk
    rw [e0]
    clear hk e0
    have n01 : w.heap.size < w.heap.size + 1 + 1 := by omega
    have n02 : w.heap.size < w.heap.size + 1 + 1 + 1 := by omega
    have n12 : w.heap.size + 1 < w.heap.size + 1 + 1 + 1 := by omega
    go_enter Tryz.func136, Tryz.ntmps136
    go_wp2_with fail
    refine (check_any _ _ _ HA.out.1 HA.out.2 HB.out.1 HB.out.2).mono ?_
    rintro e w1 ⟨rfl, hgw1⟩
    have hcw1 := Gr.cells hgw1
    have hfw1 := Gr.marks hgw1
    have hzzw1 := Gr.size hgw1
    try simp at hzzw1
    have hzw10 : w.heap.size < w1.heap.size := by omega
    have hzw11 : w.heap.size + 1 < w1.heap.size := by omega
    clear hzzw1
    go_wp2_with fail
    refine (check_any _ _ _ HC.out.1 HC.out.2 HD.out.1 HD.out.2).mono ?_
    rintro e w2 ⟨rfl, hgw2⟩
    have hcw2 := Gr.cells hgw2
    have hfw2 := Gr.marks hgw2
    have hzzw2 := Gr.size hgw2
    try simp at hzzw2
    have hzw20 : w.heap.size < w2.heap.size := by omega
    have hzw21 : w.heap.size + 1 < w2.heap.size := by omega
    clear hzzw2
    go_wp2
    go_ret
    refine ⟨rfl, ?_⟩
    repeat (first | exact Gr.refl _ | apply Gr.alloc | apply Gr.drewN | apply Gr.drew | (refine Gr.setCell ?_ (by simp) _) | (refine Gr.trans ?_ (by assumption)))
  · have e0 : bothE a b c d = 8 := by simp [bothE, hk]
    have e1 := ckE_bad hk
    rw [e0]
    clear hk e0
    have n01 : w.heap.size < w.heap.size + 1 + 1 := by omega
    have n02 : w.heap.size < w.heap.size + 1 + 1 + 1 := by omega
    have n12 : w.heap.size + 1 < w.heap.size + 1 + 1 + 1 := by omega
    go_enter Tryz.func136, Tryz.ntmps136
    go_wp2_with fail
    refine (check_any _ _ _ HA.out.1 HA.out.2 HB.out.1 HB.out.2).mono ?_
    rintro e w1 ⟨rfl, hgw1⟩
    have hcw1 := Gr.cells hgw1
    have hfw1 := Gr.marks hgw1
    have hzzw1 := Gr.size hgw1
    try simp at hzzw1
    have hzw10 : w.heap.size < w1.heap.size := by omega
    have hzw11 : w.heap.size + 1 < w1.heap.size := by omega
    clear hzzw1
    go_wp2
    go_ret
    refine ⟨rfl, ?_⟩
    repeat (first | exact Gr.refl _ | apply Gr.alloc | apply Gr.drewN | apply Gr.drew | (refine Gr.setCell ?_ (by simp) _) | (refine Gr.trans ?_ (by assumption)))

end Go.Proofs.YtclpegneiomakaaGreat

namespace Go.Proofs.YtclpegneiomakaaGreat
open Go.RowKit
theorem okB_den {n d : Int} (h : okB n d = true) : 1 ≤ d := by simp [okB] at h; exact h.1
theorem okB_num {n d : Int} (h : okB n d = true) : n ≠ -9223372036854775808 := by simp [okB] at h; exact h.2.1
end Go.Proofs.YtclpegneiomakaaGreat
