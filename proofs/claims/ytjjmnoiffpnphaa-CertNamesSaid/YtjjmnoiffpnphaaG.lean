/-
  Floor, Make and Of of package ratio, and the reference's, return the same, in whatever world. Conditions: none.
-/
import Derived.Test.YtjjmnoiffpnphaaW20
namespace Go.Proofs.Ytjjmnoiffpnphaa
open Go.RowKit
theorem okB_den {n d : Int} (h : okB n d = true) : 1 ≤ d := by simp [okB] at h; exact h.1
theorem okB_num {n d : Int} (h : okB n d = true) : n ≠ -9223372036854775808 := by simp [okB] at h; exact h.2.1
/-- What Make makes of the sizes: lowest terms, whether both fit, the sign, the error. -/
def mkQ (a b : Int) : Nat := a.natAbs / Nat.gcd a.natAbs b.natAbs
def mkP (a b : Int) : Nat := b.natAbs / Nat.gcd a.natAbs b.natAbs
def mkS (a b : Int) : Bool := !(decide (a < 0) == decide (b < 0))
def mkF (a b : Int) : Bool := fitB (mkQ a b) && fitB (mkP a b)
def mkN (a b : Int) : Int := if b = 0 then 0 else selI (mkF a b) (sgV (mkQ a b) (mkS a b))
def mkD (a b : Int) : Int := if b = 0 then 0 else selI (mkF a b) (sgV (mkP a b) false)
def mkE (a b : Int) : Int := if b = 0 then 26 else selE (mkF a b)
theorem ret_r {a b c d e f : Int} (h : a = b) (g : c = d) (k : e = f) : Ending.returned (.tuple #[.agg #[.int .i64 a, .int .i64 c], .int .i64 e]) = .returned (.tuple #[.agg #[.int .i64 b, .int .i64 d], .int .i64 f]) := by rw [h, g, k]

set_option maxHeartbeats 400000 in
theorem make17_any (n d : Int) (w : World) (hn : I64 n) (hd : I64 d) :
    Calls Try.prog 88 #[.int .i64 n, .int .i64 d] w fun e w' => e = .returned (.tuple #[.agg #[.int .i64 (mkN n d), .int .i64 (mkD n d)], .int .i64 (mkE n d)]) ∧ Gr w w' := by
  have HN := Lib.hid hn
  have HD := Lib.hid hd
  have d1 := hd.1
  have d2 := hd.2
  have d3 := hn.1
  have d4 := hn.2
  clear hn hd
  by_cases h0 : d = 0
  · have m1 : (d == 0) = true := by simpa using h0
    have E0 := Lib.hid h0
    clear h0
    have n01 : w.heap.size < w.heap.size + 1 + 1 := by omega
    have n02 : w.heap.size < w.heap.size + 1 + 1 + 1 := by omega
    have n12 : w.heap.size + 1 < w.heap.size + 1 + 1 + 1 := by omega
    go_enter Try.func88, Try.ntmps88
    go_wp2
    refine bodyPost_ret (v := .tuple #[.agg #[.int .i64 0, .int .i64 0], .int .i64 26]) (by simp [results, Try.results88, go_sem]) rfl ⟨ret_r (by simp [mkN, E0.out]) (by simp [mkD, E0.out]) (by simp [mkE, E0.out]), ?_⟩
    repeat (first | exact Gr.refl _ | apply Gr.alloc | apply Gr.drewN | apply Gr.drew | (refine Gr.setCell ?_ (by simp) _) | (refine Gr.trans ?_ (by assumption)))
  · have m1 : (d == 0) = false := by simpa using h0
    obtain ⟨z1, hz1⟩ : ∃ z : Int, z = n.natAbs := ⟨_, rfl⟩
    obtain ⟨z2, hz2⟩ : ∃ z : Int, z = d.natAbs := ⟨_, rfl⟩
    obtain ⟨g, hg⟩ : ∃ g : Int, g = (Nat.gcd n.natAbs d.natAbs : Nat) := ⟨_, rfl⟩
    obtain ⟨q1, hq1⟩ : ∃ q : Int, q = (mkQ n d : Nat) := ⟨_, rfl⟩
    obtain ⟨q2, hq2⟩ : ∃ q : Int, q = (mkP n d : Nat) := ⟨_, rfl⟩
    obtain ⟨b, hb⟩ : ∃ b : Bool, b = mkS n d := ⟨_, rfl⟩
    have hg0 : 0 < Nat.gcd n.natAbs d.natAbs := Nat.gcd_pos_of_pos_right _ (by omega)
    have i1 := Nat.div_le_self n.natAbs (Nat.gcd n.natAbs d.natAbs)
    have i2 := Nat.div_le_self d.natAbs (Nat.gcd n.natAbs d.natAbs)
    have r1 : z1 / g = q1 := by rw [hz1, hg, hq1]; rfl
    have r2 : z2 / g = q2 := by rw [hz2, hg, hq2]; rfl
    have j1 : mkQ n d < 18446744073709551616 := by unfold mkQ; omega
    have j2 : mkP n d < 18446744073709551616 := by unfold mkP; omega
    have g0 : 1 ≤ g := by omega
    have z10 : 0 ≤ z1 := by omega
    have z20 : 0 ≤ z2 := by omega
    have z11 : z1 < 18446744073709551616 := by omega
    have z21 : z2 < 18446744073709551616 := by omega
    have q10 : 0 ≤ q1 := by omega
    have q20 : 0 ≤ q2 := by omega
    have q11 : q1 < 18446744073709551616 := by omega
    have q21 : q2 < 18446744073709551616 := by omega
    have rb : (decide (n < 0) == decide (d < 0)) = !b := by rw [hb]; simp [mkS]
    have H0 := Lib.hid h0
    have Z1 := Lib.hid hz1
    have Z2 := Lib.hid hz2
    have G := Lib.hid hg
    have Q1 := Lib.hid hq1
    have Q2 := Lib.hid hq2
    have B := Lib.hid hb
    have J1 := Lib.hid j1
    have J2 := Lib.hid j2
    clear hz1 hz2 hg hq1 hq2 hb hg0 i1 i2 j1 j2 h0
    cases hf : fitB (mkQ n d)
    · have n01 : w.heap.size < w.heap.size + 1 + 1 := by omega
      have n02 : w.heap.size < w.heap.size + 1 + 1 + 1 := by omega
      have n12 : w.heap.size + 1 < w.heap.size + 1 + 1 + 1 := by omega
      go_enter Try.func88, Try.ntmps88
      go_wp2_with fail
      refine (size_z n z1 _ Z1.out d3 d4).mono ?_
      rintro e w' ⟨rfl, rfl⟩
      go_wp2_with fail
      refine (size_z d z2 _ Z2.out d1 d2).mono ?_
      rintro e w' ⟨rfl, rfl⟩
      go_wp2_with fail
      refine (divisor_z _ _ z1 z2 g _ Z1.out Z2.out G.out (by have := HN.out; unfold I64 at this; omega) (by have := HD.out; unfold I64 at this; omega)).mono ?_
      rintro e w1 ⟨rfl, hgw1⟩
      have hcw1 := Gr.cells hgw1
      have hfw1 := Gr.marks hgw1
      have hzzw1 := Gr.size hgw1
      try simp at hzzw1
      have hzw10 : w.heap.size < w1.heap.size := by omega
      clear hzzw1
      go_wp2_with fail
      refine (size_z n z1 _ Z1.out d3 d4).mono ?_
      rintro e w' ⟨rfl, rfl⟩
      go_wp2_with fail
      refine (signed_z (mkQ n d) q1 b _ Q1.out J1.out).mono ?_
      rintro e w' ⟨rfl, rfl⟩
      go_wp2_with fail
      refine (size_z d z2 _ Z2.out d1 d2).mono ?_
      rintro e w' ⟨rfl, rfl⟩
      go_wp2_with fail
      refine (signed_z (mkP n d) q2 false _ Q2.out J2.out).mono ?_
      rintro e w' ⟨rfl, rfl⟩
      go_wp2_with fail
      refine (result_any _ _ _ _).mono ?_
      rintro e w2 ⟨rfl, hgw2⟩
      have hcw2 := Gr.cells hgw2
      have hfw2 := Gr.marks hgw2
      have hzzw2 := Gr.size hgw2
      try simp at hzzw2
      have hzw20 : w.heap.size < w2.heap.size := by omega
      clear hzzw2
      go_wp2
      refine bodyPost_ret (v := .tuple #[.agg #[.int .i64 0, .int .i64 0], .int .i64 16]) (by simp [results, Try.results88, go_sem, selI, selE, *]) rfl ⟨ret_r (by simp [mkN, mkF, hf, selI]) (by simp [mkD, mkF, hf, selI]) (by simp [mkE, mkF, hf, selE, H0.out]), ?_⟩
      repeat (first | exact Gr.refl _ | apply Gr.alloc | apply Gr.drewN | apply Gr.drew | (refine Gr.setCell ?_ (by simp) _) | (refine Gr.trans ?_ (by assumption)))
    · have n01 : w.heap.size < w.heap.size + 1 + 1 := by omega
      have n02 : w.heap.size < w.heap.size + 1 + 1 + 1 := by omega
      have n12 : w.heap.size + 1 < w.heap.size + 1 + 1 + 1 := by omega
      go_enter Try.func88, Try.ntmps88
      go_wp2_with fail
      refine (size_z n z1 _ Z1.out d3 d4).mono ?_
      rintro e w' ⟨rfl, rfl⟩
      go_wp2_with fail
      refine (size_z d z2 _ Z2.out d1 d2).mono ?_
      rintro e w' ⟨rfl, rfl⟩
      go_wp2_with fail
      refine (divisor_z _ _ z1 z2 g _ Z1.out Z2.out G.out (by have := HN.out; unfold I64 at this; omega) (by have := HD.out; unfold I64 at this; omega)).mono ?_
      rintro e w1 ⟨rfl, hgw1⟩
      have hcw1 := Gr.cells hgw1
      have hfw1 := Gr.marks hgw1
      have hzzw1 := Gr.size hgw1
      try simp at hzzw1
      have hzw10 : w.heap.size < w1.heap.size := by omega
      clear hzzw1
      go_wp2_with fail
      refine (size_z n z1 _ Z1.out d3 d4).mono ?_
      rintro e w' ⟨rfl, rfl⟩
      go_wp2_with fail
      refine (signed_z (mkQ n d) q1 b _ Q1.out J1.out).mono ?_
      rintro e w' ⟨rfl, rfl⟩
      go_wp2_with fail
      refine (size_z d z2 _ Z2.out d1 d2).mono ?_
      rintro e w' ⟨rfl, rfl⟩
      go_wp2_with fail
      refine (signed_z (mkP n d) q2 false _ Q2.out J2.out).mono ?_
      rintro e w' ⟨rfl, rfl⟩
      go_wp2_with fail
      refine (result_any _ _ _ _).mono ?_
      rintro e w2 ⟨rfl, hgw2⟩
      have hcw2 := Gr.cells hgw2
      have hfw2 := Gr.marks hgw2
      have hzzw2 := Gr.size hgw2
      try simp at hzzw2
      have hzw20 : w.heap.size < w2.heap.size := by omega
      clear hzzw2
      go_wp2
      refine bodyPost_ret (v := .tuple #[.agg #[.int .i64 (selI (fitB (mkP n d)) (sgV (mkQ n d) b)), .int .i64 (selI (fitB (mkP n d)) (sgV (mkP n d) false))], .int .i64 (selE (fitB (mkP n d)))]) (by simp [results, Try.results88, go_sem, *]) rfl ⟨ret_r (by simp [mkN, mkF, hf, H0.out, B.out]) (by simp [mkD, mkF, hf, H0.out]) (by simp [mkE, mkF, hf, H0.out]), ?_⟩
      repeat (first | exact Gr.refl _ | apply Gr.alloc | apply Gr.drewN | apply Gr.drew | (refine Gr.setCell ?_ (by simp) _) | (refine Gr.trans ?_ (by assumption)))
end Go.Proofs.Ytjjmnoiffpnphaa
