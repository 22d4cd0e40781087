/-
  checkBoth, result, Asked, Make and Of of package ratio, and the reference's, return what plain numbers say, in whatever world. Conditions: none.
-/
import Derived.Test.YtomnmoinahhdmaaGreatW20
import Derived.BigGuardPart
namespace Go.Proofs.YtomnmoinahhdmaaGreat
open Go.RowKit
theorem Gr.cells {a w : World} (h : Gr a w) : ∀ b o, b < a.heap.size → w.cell? ⟨b, o, none⟩ = a.cell? ⟨b, o, none⟩ := fun b o hb => h.cell b o hb
theorem Gr.marks {a w : World} (h : Gr a w) : ∀ b o, b < a.heap.size → w.frozen? ⟨b, o, none⟩ = a.frozen? ⟨b, o, none⟩ := fun b o hb => h.2.1 ⟨b, o, none⟩ hb

theorem size_z (n z : Int) (w : World) (hz : z = n.natAbs) (h0 : -9223372036854775808 ≤ n) (h1 : n ≤ 9223372036854775807) :
    Calls Tryz.prog 127 #[.int .i64 n] w fun e w' => e = .returned (.int .u64 z) ∧ w = w' := hz ▸ size_any n w h0 h1
theorem divisor_z (a b : Nat) (x y g : Int) (w : World) (hx : x = a) (hy : y = b) (hg : g = (Nat.gcd a b : Nat)) (ha : a < 18446744073709551616) (hb : b < 18446744073709551616) :
    Calls Tryz.prog 126 #[.int .u64 x, .int .u64 y] w fun e w' => e = .returned (.int .u64 g) ∧ Gr w w' := by subst hx hy hg; exact divisor_gr a b w ha hb
theorem signed_z (n : Nat) (x : Int) (b : Bool) (w : World) (hx : x = n) (h1 : n < 18446744073709551616) :
    Calls Tryz.prog 174 #[.int .u64 x, .bool b] w fun e w' => e = .returned (.tuple #[.int .i64 (sgV n b), .bool (fitB n)]) ∧ w = w' := by subst hx; exact signed_any n b w h1

/-- A value, or 0 where b is false. -/
def selI (b : Bool) (n : Int) : Int := if b then n else 0
/-- The error of a result: ErrRange where b is false. -/
def selE (b : Bool) : Int := if b then 0 else 16

set_option maxHeartbeats 400000 in
theorem result_any (n d : Int) (b : Bool) (w : World) :
    Calls Tryz.prog 130 #[.int .i64 n, .int .i64 d, .bool b] w fun e w' => e = .returned (.tuple #[.agg #[.int .i64 (selI b n), .int .i64 (selI b d)], .int .i64 (selE b)]) ∧ Gr w w' := by
  cases b
  · go_enter Tryz.func130, Tryz.ntmps130
    go_wp2
    exact bodyPost_ret (v := .tuple #[.agg #[.int .i64 0, .int .i64 0], .int .i64 16]) (by simp [results, Tryz.results130, go_sem]) rfl ⟨rfl, (Gr.refl w).alloc _ _⟩
  · go_enter Tryz.func130, Tryz.ntmps130
    go_wp2
    exact bodyPost_ret (v := .tuple #[.agg #[.int .i64 n, .int .i64 d], .int .i64 0]) (by simp [results, Tryz.results130, go_sem]) rfl ⟨rfl, (Gr.refl w).alloc _ _⟩

/-- Both errors in one: the first one's, or the second one's. -/
def bothE (a b c d : Int) : Int := if okB a b = true then ckE c d else 8
theorem ckE_ok {n d : Int} (h : okB n d = true) : ckE n d = 0 := by simp [ckE, h]
theorem ckE_bad {n d : Int} (h : ¬ okB n d = true) : ckE n d = 8 := by simp [ckE, h]
def I64 (n : Int) : Prop := -9223372036854775808 ≤ n ∧ n ≤ 9223372036854775807

set_option maxHeartbeats 400000 in
theorem checkBoth_any (a b c d : Int) (w : World) (ha : I64 a) (hb : I64 b) (hc : I64 c) (hd : I64 d) :
    Calls Tryz.prog 124 #[.agg #[.int .i64 a, .int .i64 b], .agg #[.int .i64 c, .int .i64 d]] w fun e w' => e = .returned (.int .i64 (bothE a b c d)) ∧ Gr w w' := by
  have HA := Lib.hid ha
  have HB := Lib.hid hb
  have HC := Lib.hid hc
  have HD := Lib.hid hd
  clear ha hb hc hd
  by_cases hk : okB a b = true
  · have e0 : bothE a b c d = ckE c d := by simp [bothE, hk]
    have e1 := ckE_ok hk
    rw [e0]
    clear hk e0
    have n01 : w.heap.size < w.heap.size + 1 + 1 := by omega
    have n02 : w.heap.size < w.heap.size + 1 + 1 + 1 := by omega
    have n12 : w.heap.size + 1 < w.heap.size + 1 + 1 + 1 := by omega
    go_enter Tryz.func124, Tryz.ntmps124
    go_wp2_with fail
    refine (check_any _ _ _ HA.out.1 HA.out.2 HB.out.1 HB.out.2).mono ?_
    rintro e w1 ⟨rfl, hgw1⟩
    have hcw1 := Gr.cells hgw1
    have hfw1 := Gr.marks hgw1
    have hzzw1 := Gr.size hgw1
    try simp at hzzw1
    have hzw10 : w.heap.size < w1.heap.size := by omega
    have hzw11 : w.heap.size + 1 < w1.heap.size := by omega
    clear hzzw1
    go_wp2_with fail
    refine (check_any _ _ _ HC.out.1 HC.out.2 HD.out.1 HD.out.2).mono ?_
    rintro e w2 ⟨rfl, hgw2⟩
    have hcw2 := Gr.cells hgw2
    have hfw2 := Gr.marks hgw2
    have hzzw2 := Gr.size hgw2
    try simp at hzzw2
    have hzw20 : w.heap.size < w2.heap.size := by omega
    have hzw21 : w.heap.size + 1 < w2.heap.size := by omega
    clear hzzw2
    go_wp2
    go_ret
    refine ⟨rfl, ?_⟩
    repeat (first | exact Gr.refl _ | apply Gr.alloc | apply Gr.drewN | apply Gr.drew | (refine Gr.setCell ?_ (by simp) _) | (refine Gr.trans ?_ (by assumption)))
  · have e0 : bothE a b c d = 8 := by simp [bothE, hk]
    have e1 := ckE_bad hk
    rw [e0]
    clear hk e0
    have n01 : w.heap.size < w.heap.size + 1 + 1 := by omega
    have n02 : w.heap.size < w.heap.size + 1 + 1 + 1 := by omega
    have n12 : w.heap.size + 1 < w.heap.size + 1 + 1 + 1 := by omega
    go_enter Tryz.func124, Tryz.ntmps124
    go_wp2_with fail
    refine (check_any _ _ _ HA.out.1 HA.out.2 HB.out.1 HB.out.2).mono ?_
    rintro e w1 ⟨rfl, hgw1⟩
    have hcw1 := Gr.cells hgw1
    have hfw1 := Gr.marks hgw1
    have hzzw1 := Gr.size hgw1
    try simp at hzzw1
    have hzw10 : w.heap.size < w1.heap.size := by omega
    have hzw11 : w.heap.size + 1 < w1.heap.size := by omega
    clear hzzw1
    go_wp2
    go_ret
    refine ⟨rfl, ?_⟩
    repeat (first | exact Gr.refl _ | apply Gr.alloc | apply Gr.drewN | apply Gr.drew | (refine Gr.setCell ?_ (by simp) _) | (refine Gr.trans ?_ (by assumption)))

set_option maxHeartbeats 400000 in
theorem both30_any (a b c d : Int) (w : World) (ha : I64 a) (hb : I64 b) (hc : I64 c) (hd : I64 d) :
    Calls Tryz.prog 70 #[.agg #[.int .i64 a, .int .i64 b], .agg #[.int .i64 c, .int .i64 d]] w fun e w' => e = .returned (.int .i64 (bothE a b c d)) ∧ Gr w w' := by
  have HA := Lib.hid ha
  have HB := Lib.hid hb
  have HC := Lib.hid hc
  have HD := Lib.hid hd
  clear ha hb hc hd
  by_cases hk : okB a b = true
  · have e0 : bothE a b c d = ckE c d := by simp [bothE, hk]
    have e1 := ckE_ok hk
    rw [e0]
    clear hk e0
    have n01 : w.heap.size < w.heap.size + 1 + 1 := by omega
    have n02 : w.heap.size < w.heap.size + 1 + 1 + 1 := by omega
    have n12 : w.heap.size + 1 < w.heap.size + 1 + 1 + 1 := by omega
    go_enter Tryz.func70, Tryz.ntmps70
    go_wp2_with fail
    refine (check24_any _ _ _ HA.out.1 HA.out.2 HB.out.1 HB.out.2).mono ?_
    rintro e w1 ⟨rfl, hgw1⟩
    have hcw1 := Gr.cells hgw1
    have hfw1 := Gr.marks hgw1
    have hzzw1 := Gr.size hgw1
    try simp at hzzw1
    have hzw10 : w.heap.size < w1.heap.size := by omega
    have hzw11 : w.heap.size + 1 < w1.heap.size := by omega
    clear hzzw1
    go_wp2_with fail
    refine (check24_any _ _ _ HC.out.1 HC.out.2 HD.out.1 HD.out.2).mono ?_
    rintro e w2 ⟨rfl, hgw2⟩
    have hcw2 := Gr.cells hgw2
    have hfw2 := Gr.marks hgw2
    have hzzw2 := Gr.size hgw2
    try simp at hzzw2
    have hzw20 : w.heap.size < w2.heap.size := by omega
    have hzw21 : w.heap.size + 1 < w2.heap.size := by omega
    clear hzzw2
    go_wp2
    go_ret
    refine ⟨rfl, ?_⟩
    repeat (first | exact Gr.refl _ | apply Gr.alloc | apply Gr.drewN | apply Gr.drew | (refine Gr.setCell ?_ (by simp) _) | (refine Gr.trans ?_ (by assumption)))
  · have e0 : bothE a b c d = 8 := by simp [bothE, hk]
    have e1 := ckE_bad hk
    rw [e0]
    clear hk e0
    have n01 : w.heap.size < w.heap.size + 1 + 1 := by omega
    have n02 : w.heap.size < w.heap.size + 1 + 1 + 1 := by omega
    have n12 : w.heap.size + 1 < w.heap.size + 1 + 1 + 1 := by omega
    go_enter Tryz.func70, Tryz.ntmps70
    go_wp2_with fail
    refine (check24_any _ _ _ HA.out.1 HA.out.2 HB.out.1 HB.out.2).mono ?_
    rintro e w1 ⟨rfl, hgw1⟩
    have hcw1 := Gr.cells hgw1
    have hfw1 := Gr.marks hgw1
    have hzzw1 := Gr.size hgw1
    try simp at hzzw1
    have hzw10 : w.heap.size < w1.heap.size := by omega
    have hzw11 : w.heap.size + 1 < w1.heap.size := by omega
    clear hzzw1
    go_wp2_with fail
    refine (check24_any _ _ _ HA.out.1 HA.out.2 HB.out.1 HB.out.2).mono ?_
    rintro e w2 ⟨rfl, hgw2⟩
    have hcw2 := Gr.cells hgw2
    have hfw2 := Gr.marks hgw2
    have hzzw2 := Gr.size hgw2
    try simp at hzzw2
    have hzw20 : w.heap.size < w2.heap.size := by omega
    have hzw21 : w.heap.size + 1 < w2.heap.size := by omega
    clear hzzw2
    go_wp2
    go_ret
    refine ⟨rfl, ?_⟩
    repeat (first | exact Gr.refl _ | apply Gr.alloc | apply Gr.drewN | apply Gr.drew | (refine Gr.setCell ?_ (by simp) _) | (refine Gr.trans ?_ (by assumption)))

end Go.Proofs.YtomnmoinahhdmaaGreat
