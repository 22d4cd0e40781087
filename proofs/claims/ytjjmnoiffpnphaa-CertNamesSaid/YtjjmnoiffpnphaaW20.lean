/-
  Joined: B, Shelf, D, F. Conditions: none.
-/
import Derived.Test.YtjjmnoiffpnphaaA
import Derived.Shelf.Small.Bits
import Derived.Shelf.Strconv.Itoa0
import Derived.Shelf.Bits.Mul64
import Derived.Test.YtjjmnoiffpnphaaProg
import Derived.BigGuardPart
namespace Go.Proofs.Ytjjmnoiffpnphaa
open Go.RowKit
/-- Is a fraction valid? -/
def okB (n d : Int) : Bool := decide (1 ≤ d ∧ n ≠ -9223372036854775808 ∧ Nat.gcd n.natAbs d.natAbs = 1)
/-- The error of Check. -/
def ckE (n d : Int) : Int := if okB n d = true then 0 else 8

theorem ckE_low {n d : Int} (h : d < 1) : ckE n d = 8 := by simp [ckE, okB]; omega
theorem ckE_min {n d : Int} (h : n = -9223372036854775808) : ckE n d = 8 := by simp [ckE, okB, h]
theorem ckE_gcd {n d : Int} (h1 : ¬ d < 1) (h2 : ¬ n = -9223372036854775808) (h : Nat.gcd n.natAbs d.natAbs = 1) : ckE n d = 0 := by simp [ckE, okB, h, h2]; omega
theorem ckE_not {n d : Int} (h : ¬ Nat.gcd n.natAbs d.natAbs = 1) : ckE n d = 8 := by simp [ckE, okB, h]

set_option maxHeartbeats 400000 in
theorem check_any (n d : Int) (w : World) (hn0 : -9223372036854775808 ≤ n) (hn1 : n ≤ 9223372036854775807) (hd0 : -9223372036854775808 ≤ d) (hd1 : d ≤ 9223372036854775807) :
    Calls Try.prog 47 #[.agg #[.int .i64 n, .int .i64 d]] w fun e w' => e = .returned (.int .i64 (ckE n d)) ∧ Gr w w' := by
  by_cases h1 : d < 1
  · have g1 : decide (d < 1) = true := by simpa using h1
    go_enter Try.func47, Try.ntmps47
    go_wp2_with fail
    go_quiet (fail)
    go_wp2
    go_ret
    exact ⟨ret_int (ckE_low h1).symm, ((Gr.refl w).alloc _ _).drewN _⟩
  · have g1 : decide (d < 1) = false := by simpa using h1
    by_cases h2 : n = -9223372036854775808
    · have g2 : (n == -9223372036854775808) = true := by simpa using h2
      have H2 := Lib.hid h2
      clear h2
      go_enter Try.func47, Try.ntmps47
      go_wp2_with fail
      go_quiet (fail)
      go_wp2
      go_ret
      exact ⟨ret_int (ckE_min H2.out).symm, ((Gr.refl w).alloc _ _).drewN _⟩
    · have g2 : (n == -9223372036854775808) = false := by simpa using h2
      have H2 := Lib.hid h2
      clear h2
      go_enter Try.func47, Try.ntmps47
      go_wp2_with fail
      go_quiet ((first | (go_at_call 71; exact size_q _ _ _ (by omega) (by omega)) | (go_at_call 70; exact divisor_q _ _ _ _ (by omega) (by omega))))
      go_wp2
      · have h : ((Nat.gcd n.natAbs d.natAbs : Nat) : Int) != 1 := by assumption
        go_ret
        exact ⟨ret_int (ckE_not (by simp at h; omega)).symm, ((Gr.refl w).alloc _ _).drewN _⟩
      · have h : (((Nat.gcd n.natAbs d.natAbs : Nat) : Int) != 1) = false := by assumption
        go_ret
        exact ⟨ret_int (ckE_gcd (by omega) H2.out (by simp at h; omega)).symm, ((Gr.refl w).alloc _ _).drewN _⟩

set_option maxHeartbeats 400000 in
theorem check24_any (n d : Int) (w : World) (hn0 : -9223372036854775808 ≤ n) (hn1 : n ≤ 9223372036854775807) (hd0 : -9223372036854775808 ≤ d) (hd1 : d ≤ 9223372036854775807) :
    Calls Try.prog 58 #[.agg #[.int .i64 n, .int .i64 d]] w fun e w' => e = .returned (.int .i64 (ckE n d)) ∧ Gr w w' := by
  by_cases h1 : d < 1
  · have g1 : decide (d < 1) = true := by simpa using h1
    go_enter Try.func58, Try.ntmps58
    go_wp2_with fail
    go_quiet (fail)
    go_wp2
    go_ret
    exact ⟨ret_int (ckE_low h1).symm, ((Gr.refl w).alloc _ _).drewN _⟩
  · have g1 : decide (d < 1) = false := by simpa using h1
    by_cases h2 : n = -9223372036854775808
    · have g2 : (n == -9223372036854775808) = true := by simpa using h2
      have H2 := Lib.hid h2
      clear h2
      go_enter Try.func58, Try.ntmps58
      go_wp2_with fail
      go_quiet (fail)
      go_wp2
      go_ret
      exact ⟨ret_int (ckE_min H2.out).symm, ((Gr.refl w).alloc _ _).drewN _⟩
    · have g2 : (n == -9223372036854775808) = false := by simpa using h2
      have H2 := Lib.hid h2
      clear h2
      obtain ⟨m, rfl⟩ : ∃ m : Nat, d = m := ⟨d.toNat, by omega⟩
      go_enter Try.func58, Try.ntmps58
      go_wp2_with fail
      go_quiet ((first | (go_at_call 76; exact size44_q _ _ _ (by omega) (by omega)) | (go_at_call 75; go_simp; exact common_q _ _ _ _ (by omega) (by omega))))
      go_wp2
      · have h : ((Nat.gcd n.natAbs m : Nat) : Int) != 1 := by assumption
        go_ret
        exact ⟨ret_int (ckE_not (by simp at h; simp; omega)).symm, ((Gr.refl w).alloc _ _).drewN _⟩
      · have h : (((Nat.gcd n.natAbs m : Nat) : Int) != 1) = false := by assumption
        go_ret
        exact ⟨ret_int (ckE_gcd (by omega) H2.out (by simp at h; simp; omega)).symm, ((Gr.refl w).alloc _ _).drewN _⟩
end Go.Proofs.Ytjjmnoiffpnphaa

namespace Go.Proofs
open Go.Shelf
def Try.lays264_ren : Go.Shelf.Ren := ⟨fun | 264 => 99 | n => n, fun | 53 => 112 | 46 => 128 | n => n, fun | n => n⟩
theorem Try.lays264 : Go.Proofs.Lays.n264 Try.prog Try.lays264_ren := {
  mixed := by kernel_rfl
  f264 := Try.func99.trans (congrArg some (by kernel_rfl))
  t46 := Try.underlying128
  a46 := Try.isAgg128
  z46 := Try.sizeOf128
  v46 := Try.zeroValue128
  t53 := Try.underlying112
  a53 := Try.isAgg112
  z53 := Try.sizeOf112
  v53 := Try.zeroValue112 }
open Go.RowKit Go.Lib in
theorem Try.bits_Mul64 (x y : Nat) (hx : x < 18446744073709551616) (hy : y < 18446744073709551616) (w : World) :
    Calls Try.prog 99 #[.int .u64 x, .int .u64 y] w fun e w' => e = .returned (.tuple #[.int .u64 ((x * y / 18446744073709551616 : Nat) : Int), .int .u64 ((x * y % 18446744073709551616 : Nat) : Int)]) ∧ w' = w := Any.bits_Mul64 Try.lays264 x y hx hy w
end Go.Proofs

namespace Go.Proofs.Ytjjmnoiffpnphaa
open Go.RowKit
theorem wrap_in {n : Int} (h0 : 0 ≤ n) (h1 : n < 18446744073709551616) : IntKind.u64.wrap n = n := by rw [IntKind.wrap_u64]; omega
end Go.Proofs.Ytjjmnoiffpnphaa

namespace Go.Proofs.Ytjjmnoiffpnphaa
open Go.RowKit
theorem Gr.cells {a w : World} (h : Gr a w) : ∀ b o, b < a.heap.size → w.cell? ⟨b, o, none⟩ = a.cell? ⟨b, o, none⟩ := fun b o hb => h.cell b o hb
theorem Gr.marks {a w : World} (h : Gr a w) : ∀ b o, b < a.heap.size → w.frozen? ⟨b, o, none⟩ = a.frozen? ⟨b, o, none⟩ := fun b o hb => h.2.1 ⟨b, o, none⟩ hb

theorem size_z (n z : Int) (w : World) (hz : z = n.natAbs) (h0 : -9223372036854775808 ≤ n) (h1 : n ≤ 9223372036854775807) :
    Calls Try.prog 71 #[.int .i64 n] w fun e w' => e = .returned (.int .u64 z) ∧ w = w' := hz ▸ size_any n w h0 h1
theorem divisor_z (a b : Nat) (x y g : Int) (w : World) (hx : x = a) (hy : y = b) (hg : g = (Nat.gcd a b : Nat)) (ha : a < 18446744073709551616) (hb : b < 18446744073709551616) :
    Calls Try.prog 70 #[.int .u64 x, .int .u64 y] w fun e w' => e = .returned (.int .u64 g) ∧ Gr w w' := by subst hx hy hg; exact divisor_gr a b w ha hb
theorem signed_z (n : Nat) (x : Int) (b : Bool) (w : World) (hx : x = n) (h1 : n < 18446744073709551616) :
    Calls Try.prog 97 #[.int .u64 x, .bool b] w fun e w' => e = .returned (.tuple #[.int .i64 (sgV n b), .bool (fitB n)]) ∧ w = w' := by subst hx; exact signed_any n b w h1

/-- A value, or 0 where b is false. -/
def selI (b : Bool) (n : Int) : Int := if b then n else 0
/-- The error of a result: ErrRange where b is false. -/
def selE (b : Bool) : Int := if b then 0 else 16

set_option maxHeartbeats 400000 in
theorem result_any (n d : Int) (b : Bool) (w : World) :
    Calls Try.prog 98 #[.int .i64 n, .int .i64 d, .bool b] w fun e w' => e = .returned (.tuple #[.agg #[.int .i64 (selI b n), .int .i64 (selI b d)], .int .i64 (selE b)]) ∧ Gr w w' := by
  cases b
  · go_enter Try.func98, Try.ntmps98
    go_wp2
    exact bodyPost_ret (v := .tuple #[.agg #[.int .i64 0, .int .i64 0], .int .i64 16]) (by simp [results, Try.results98, go_sem]) rfl ⟨rfl, (Gr.refl w).alloc _ _⟩
  · go_enter Try.func98, Try.ntmps98
    go_wp2
    exact bodyPost_ret (v := .tuple #[.agg #[.int .i64 n, .int .i64 d], .int .i64 0]) (by simp [results, Try.results98, go_sem]) rfl ⟨rfl, (Gr.refl w).alloc _ _⟩

/-- Both errors in one: the first one's, or the second one's. -/
def bothE (a b c d : Int) : Int := if okB a b = true then ckE c d else 8
theorem ckE_ok {n d : Int} (h : okB n d = true) : ckE n d = 0 := by simp [ckE, h]
theorem ckE_bad {n d : Int} (h : ¬ okB n d = true) : ckE n d = 8 := by simp [ckE, h]
def I64 (n : Int) : Prop := -9223372036854775808 ≤ n ∧ n ≤ 9223372036854775807

set_option maxHeartbeats 400000 in
theorem checkBoth_any (a b c d : Int) (w : World) (ha : I64 a) (hb : I64 b) (hc : I64 c) (hd : I64 d) :
    Calls Try.prog 89 #[.agg #[.int .i64 a, .int .i64 b], .agg #[.int .i64 c, .int .i64 d]] w fun e w' => e = .returned (.int .i64 (bothE a b c d)) ∧ Gr w w' := by
  have HA := Lib.hid ha
  have HB := Lib.hid hb
  have HC := Lib.hid hc
  have HD := Lib.hid hd
  clear ha hb hc hd
  by_cases hk : okB a b = true
  · have e0 : bothE a b c d = ckE c d := by simp [bothE, hk]
    have e1 := ckE_ok hk
    rw [e0]
    clear hk e0
    have n01 : w.heap.size < w.heap.size + 1 + 1 := by omega
    have n02 : w.heap.size < w.heap.size + 1 + 1 + 1 := by omega
    have n12 : w.heap.size + 1 < w.heap.size + 1 + 1 + 1 := by omega
    go_enter Try.func89, Try.ntmps89
    go_wp2_with fail
    refine (check_any _ _ _ HA.out.1 HA.out.2 HB.out.1 HB.out.2).mono ?_
    rintro e w1 ⟨rfl, hgw1⟩
    have hcw1 := Gr.cells hgw1
    have hfw1 := Gr.marks hgw1
    have hzzw1 := Gr.size hgw1
    try simp at hzzw1
    have hzw10 : w.heap.size < w1.heap.size := by omega
    have hzw11 : w.heap.size + 1 < w1.heap.size := by omega
    clear hzzw1
    go_wp2_with fail
    refine (check_any _ _ _ HC.out.1 HC.out.2 HD.out.1 HD.out.2).mono ?_
    rintro e w2 ⟨rfl, hgw2⟩
    have hcw2 := Gr.cells hgw2
    have hfw2 := Gr.marks hgw2
    have hzzw2 := Gr.size hgw2
    try simp at hzzw2
    have hzw20 : w.heap.size < w2.heap.size := by omega
    have hzw21 : w.heap.size + 1 < w2.heap.size := by omega
    clear hzzw2
    go_wp2
    go_ret
    refine ⟨rfl, ?_⟩
    repeat (first | exact Gr.refl _ | apply Gr.alloc | apply Gr.drewN | apply Gr.drew | (refine Gr.setCell ?_ (by simp) _) | (refine Gr.trans ?_ (by assumption)))
  · have e0 : bothE a b c d = 8 := by simp [bothE, hk]
    have e1 := ckE_bad hk
    rw [e0]
    clear hk e0
    have n01 : w.heap.size < w.heap.size + 1 + 1 := by omega
    have n02 : w.heap.size < w.heap.size + 1 + 1 + 1 := by omega
    have n12 : w.heap.size + 1 < w.heap.size + 1 + 1 + 1 := by omega
    go_enter Try.func89, Try.ntmps89
    go_wp2_with fail
    refine (check_any _ _ _ HA.out.1 HA.out.2 HB.out.1 HB.out.2).mono ?_
    rintro e w1 ⟨rfl, hgw1⟩
    have hcw1 := Gr.cells hgw1
    have hfw1 := Gr.marks hgw1
    have hzzw1 := Gr.size hgw1
    try simp at hzzw1
    have hzw10 : w.heap.size < w1.heap.size := by omega
    have hzw11 : w.heap.size + 1 < w1.heap.size := by omega
    clear hzzw1
    go_wp2
    go_ret
    refine ⟨rfl, ?_⟩
    repeat (first | exact Gr.refl _ | apply Gr.alloc | apply Gr.drewN | apply Gr.drew | (refine Gr.setCell ?_ (by simp) _) | (refine Gr.trans ?_ (by assumption)))

end Go.Proofs.Ytjjmnoiffpnphaa
