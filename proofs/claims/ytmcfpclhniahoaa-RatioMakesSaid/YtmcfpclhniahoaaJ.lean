/-
  The reference's Make and Of; the law RatioMakes returns true, whatever its arguments are.
-/
import Derived.Test.YtmcfpclhniahoaaI
import Derived.Test.YtmcfpclhniahoaaH
import Derived.Test.YtmcfpclhniahoaaH1
import Derived.Test.YtmcfpclhniahoaaH2
import Derived.Test.YtmcfpclhniahoaaH3
import Derived.Test.YtmcfpclhniahoaaH4
import Derived.Test.YtmcfpclhniahoaaH5
namespace Go.Proofs.Ytmcfpclhniahoaa
open Go.RowKit

theorem sgV_sgn {q : Nat} {b c : Bool} (hq : fitB q = true) (h : c = b ∨ q = 0) : sgn c (q : Int) = sgV q b := by
  have h1 : q < 9223372036854775808 := by simpa [fitB] using hq
  rcases h with rfl | rfl
  · cases c <;> simp [sgn, sgV, h1]
  · cases c <;> cases b <;> simp [sgn, sgV]

set_option maxHeartbeats 400000 in
theorem make21_zero (n d : Int) (w : World) (h0 : d = 0) :
    Calls Try.prog 21 #[.int .i64 n, .int .i64 d] w fun e w' => e = .returned (.tuple #[.agg #[.int .i64 0, .int .i64 0], .int .i64 26]) ∧ Gr w w' := by
  have m1 : (d == 0) = true := by simpa using h0
  clear h0
  go_enter Try.func21, Try.ntmps21
  go_wp2
  exact bodyPost_ret (v := .tuple #[.agg #[.int .i64 0, .int .i64 0], .int .i64 26]) (by simp [results, Try.results21, go_sem]) rfl ⟨rfl, (Gr.refl w).alloc _ _⟩

theorem make21_any (n d : Int) (w : World) (hn : I64 n) (hd : I64 d) :
    Calls Try.prog 21 #[.int .i64 n, .int .i64 d] w fun e w' => e = .returned (.tuple #[.agg #[.int .i64 (mkN n d), .int .i64 (mkD n d)], .int .i64 (mkE n d)]) ∧ Gr w w' := by
  have d1 := hd.1
  have d2 := hd.2
  have d3 := hn.1
  have d4 := hn.2
  by_cases h0 : d = 0
  · exact (make21_zero n d w h0).mono fun _ _ ⟨he, hg⟩ => ⟨he.trans (ret_r (by simp [mkN, h0]) (by simp [mkD, h0]) (by simp [mkE, h0])), hg⟩
  have hg0 : 0 < Nat.gcd n.natAbs d.natAbs := Nat.gcd_pos_of_pos_right _ (by omega)
  have i1 := Nat.div_le_self n.natAbs (Nat.gcd n.natAbs d.natAbs)
  have i2 := Nat.div_le_self d.natAbs (Nat.gcd n.natAbs d.natAbs)
  have j1 : mkQ n d < 18446744073709551616 := by unfold mkQ; omega
  have j2 : mkP n d < 18446744073709551616 := by unfold mkP; omega
  have r1 : ((n.natAbs : Nat) : Int) / ((Nat.gcd n.natAbs d.natAbs : Nat) : Int) = (mkQ n d : Nat) := rfl
  have r2 : ((d.natAbs : Nat) : Int) / ((Nat.gcd n.natAbs d.natAbs : Nat) : Int) = (mkP n d : Nat) := rfl
  have t1 : ((n.natAbs : Nat) : Int).tdiv ((Nat.gcd n.natAbs d.natAbs : Nat) : Int) = (mkQ n d : Nat) := rfl
  have t2 : ((d.natAbs : Nat) : Int).tdiv ((Nat.gcd n.natAbs d.natAbs : Nat) : Int) = (mkP n d : Nat) := rfl
  have hf : fit4 0 (mkQ n d : Nat) 0 (mkP n d : Nat) = mkF n d := fit4_low _ _
  have fin : ∀ (c : Bool), (c = mkS n d ∨ mkQ n d = 0) → ∀ (e : Ending) (w' : World), (e = .returned (.tuple #[.agg #[.int .i64 (selI (fit4 0 (mkQ n d : Nat) 0 (mkP n d : Nat)) (sgn c (mkQ n d : Nat))), .int .i64 (selI (fit4 0 (mkQ n d : Nat) 0 (mkP n d : Nat)) (mkP n d : Nat))], .int .i64 (selE (fit4 0 (mkQ n d : Nat) 0 (mkP n d : Nat)))]) ∧ Gr w w') →
      (e = .returned (.tuple #[.agg #[.int .i64 (mkN n d), .int .i64 (mkD n d)], .int .i64 (mkE n d)]) ∧ Gr w w') := by
    intro c hc e w' ⟨he, hg⟩
    refine ⟨he.trans (ret_r ?_ ?_ ?_), hg⟩
    · rw [hf, mkN, if_neg h0]
      cases hF : mkF n d
      · rfl
      · simp only [mkF, Bool.and_eq_true] at hF
        simp only [selI, if_true]
        exact sgV_sgn hF.1 hc
    · rw [hf, mkD, if_neg h0]
      cases hF : mkF n d
      · rfl
      · simp only [mkF, Bool.and_eq_true] at hF
        have h1 : mkP n d < 9223372036854775808 := by simpa [fitB] using hF.2
        simp [selI, sgV, h1]
    · rw [hf, mkE, if_neg h0]
  by_cases hn0 : n < 0
  · by_cases hd0 : d < 0
    · exact (make21_tt n d _ _ _ _ _ w d1 d2 d3 d4 (Lib.hid rfl) (Lib.hid rfl) (Lib.hid rfl) (by simpa using h0) r1 r2 t1 t2 (by omega) (by simp; omega) (by omega) (by omega) (by omega) (by omega) (by omega) (by omega) (by omega) (by omega) (by omega) (by rw [IntKind.wrap_u64]; omega) (by rw [IntKind.wrap_u64]; omega) (Int.le_refl 0) (by decide) (by simpa using hn0) (by simpa using hd0)).mono (fin false (.inl (by simp [mkS, hn0, hd0])))
    · exact (make21_tf n d _ _ _ _ _ w d1 d2 d3 d4 (Lib.hid rfl) (Lib.hid rfl) (Lib.hid rfl) (by simpa using h0) r1 r2 t1 t2 (by omega) (by simp; omega) (by omega) (by omega) (by omega) (by omega) (by omega) (by omega) (by omega) (by omega) (by omega) (by rw [IntKind.wrap_u64]; omega) (by rw [IntKind.wrap_u64]; omega) (Int.le_refl 0) (by decide) (by simpa using hn0) (by simpa using hd0) (by simp; omega) (by simp; omega)).mono (fin true (.inl (by simp [mkS, hn0, hd0])))
  · by_cases hd0 : d < 0
    · by_cases hz : n = 0
      · exact (make21_ftz n d _ _ _ _ _ w d1 d2 d3 d4 (Lib.hid rfl) (Lib.hid rfl) (Lib.hid rfl) (by simpa using h0) r1 r2 t1 t2 (by omega) (by simp; omega) (by omega) (by omega) (by omega) (by omega) (by omega) (by omega) (by omega) (by omega) (by omega) (by rw [IntKind.wrap_u64]; omega) (by rw [IntKind.wrap_u64]; omega) (Int.le_refl 0) (by decide) (by simpa using hn0) (by simpa using hd0) (by simp; omega) (by simp; omega)).mono (fin false (.inr (by simp [mkQ, hz])))
      · exact (make21_ftn n d _ _ _ _ _ w d1 d2 d3 d4 (Lib.hid rfl) (Lib.hid rfl) (Lib.hid rfl) (by simpa using h0) r1 r2 t1 t2 (by omega) (by simp; omega) (by omega) (by omega) (by omega) (by omega) (by omega) (by omega) (by omega) (by omega) (by omega) (by rw [IntKind.wrap_u64]; omega) (by rw [IntKind.wrap_u64]; omega) (Int.le_refl 0) (by decide) (by simpa using hn0) (by simpa using hd0) (by simp; omega) (by simp; omega)).mono (fin true (.inl (by simp [mkS, hn0, hd0])))
    · exact (make21_ff n d _ _ _ _ _ w d1 d2 d3 d4 (Lib.hid rfl) (Lib.hid rfl) (Lib.hid rfl) (by simpa using h0) r1 r2 t1 t2 (by omega) (by simp; omega) (by omega) (by omega) (by omega) (by omega) (by omega) (by omega) (by omega) (by omega) (by omega) (by rw [IntKind.wrap_u64]; omega) (by rw [IntKind.wrap_u64]; omega) (Int.le_refl 0) (by decide) (by simpa using hn0) (by simpa using hd0)).mono (fin false (.inl (by simp [mkS, hn0, hd0])))

set_option maxHeartbeats 400000 in
theorem of22_any (n : Int) (w : World) (hn : I64 n) :
    Calls Try.prog 22 #[.int .i64 n] w fun e w' => e = .returned (.tuple #[.agg #[.int .i64 (mkN n 1), .int .i64 (mkD n 1)], .int .i64 (mkE n 1)]) ∧ Gr w w' := by
  have HN := Lib.hid hn
  have H1 : Hid (I64 1) := Lib.hid (by unfold I64; omega)
  clear hn
  have n01 : w.heap.size < w.heap.size + 1 + 1 := by omega
  have n02 : w.heap.size < w.heap.size + 1 + 1 + 1 := by omega
  have n12 : w.heap.size + 1 < w.heap.size + 1 + 1 + 1 := by omega
  go_enter Try.func22, Try.ntmps22
  go_wp2_with fail
  refine (make21_any _ _ _ HN.out H1.out).mono ?_
  rintro e w1 ⟨rfl, hgw1⟩
  have hcw1 := Gr.cells hgw1
  have hfw1 := Gr.marks hgw1
  have hzzw1 := Gr.size hgw1
  try simp at hzzw1
  have hzw10 : w.heap.size < w1.heap.size := by omega
  clear hzzw1
  go_wp2
  refine bodyPost_ret (v := .tuple #[.agg #[.int .i64 (mkN n 1), .int .i64 (mkD n 1)], .int .i64 (mkE n 1)]) (by simp [results, Try.results22, go_sem, *]) rfl ⟨rfl, ?_⟩
  repeat (first | exact Gr.refl _ | apply Gr.alloc | apply Gr.drewN | apply Gr.drew | (refine Gr.setCell ?_ (by simp) _) | (refine Gr.trans ?_ (by assumption)))

set_option maxRecDepth 100000 in
set_option maxHeartbeats 2000000 in
theorem makes_any (rn rd n d : Int) (w : World) (h1 : I64 rn) (h2 : I64 rd) (h3 : I64 n) (h4 : I64 d) :
    Calls Try.prog 4 #[.agg #[.int .i64 rn, .int .i64 rd], .int .i64 n, .int .i64 d] w fun e w' => e = .returned (.bool true) ∧ Gr w w' := by
  have H1 := Lib.hid h1
  have H2 := Lib.hid h2
  have H3 := Lib.hid h3
  have H4 := Lib.hid h4
  clear h1 h2 h3 h4
  obtain ⟨N, hN⟩ : ∃ x, x = mkN n d := ⟨_, rfl⟩
  obtain ⟨D, hD⟩ : ∃ x, x = mkD n d := ⟨_, rfl⟩
  obtain ⟨E, hE⟩ : ∃ x, x = mkE n d := ⟨_, rfl⟩
  obtain ⟨N1, hN1⟩ : ∃ x, x = mkN n 1 := ⟨_, rfl⟩
  obtain ⟨D1, hD1⟩ : ∃ x, x = mkD n 1 := ⟨_, rfl⟩
  obtain ⟨E1, hE1⟩ : ∃ x, x = mkE n 1 := ⟨_, rfl⟩
  obtain ⟨F, hF⟩ : ∃ x, x = flV rn rd := ⟨_, rfl⟩
  obtain ⟨K, hK⟩ : ∃ x, x = ckE rn rd := ⟨_, rfl⟩
  obtain ⟨A, hA⟩ : ∃ x, x = askE rn rd := ⟨_, rfl⟩
  have m17 := fun w => hN ▸ hD ▸ hE ▸ make17_any n d w H3.out H4.out
  have m21 := fun w => hN ▸ hD ▸ hE ▸ make21_any n d w H3.out H4.out
  have o18 := fun w => hN1 ▸ hD1 ▸ hE1 ▸ of18_any n w H3.out
  have o22 := fun w => hN1 ▸ hD1 ▸ hE1 ▸ of22_any n w H3.out
  have f14 := fun w => hF ▸ hK ▸ floor14_any rn rd w H1.out H2.out
  have f23 := fun w => hF ▸ hK ▸ floor23_any rn rd w H1.out H2.out
  have c15 := fun w => hK ▸ check_any rn rd w H1.out.1 H1.out.2 H2.out.1 H2.out.2
  have c24 := fun w => hK ▸ check24_any rn rd w H1.out.1 H1.out.2 H2.out.1 H2.out.2
  have a16 := fun w => hA ▸ asked16_any rn rd w H1.out H2.out
  have a25 := fun w => hA ▸ asked25_any rn rd w H1.out H2.out
  clear hN hD hE hN1 hD1 hE1 hF hK hA
  have M17 := Lib.hid m17
  have M21 := Lib.hid m21
  have O18 := Lib.hid o18
  have O22 := Lib.hid o22
  have F14 := Lib.hid f14
  have F23 := Lib.hid f23
  have C15 := Lib.hid c15
  have C24 := Lib.hid c24
  have A16 := Lib.hid a16
  have A25 := Lib.hid a25
  clear m17 m21 o18 o22 f14 f23 c15 c24 a16 a25
  go_enter Try.func4, Try.ntmps4
  go_wp2_with fail
  refine (M17.out _).mono ?_
  rintro e w1 ⟨rfl, hgw1⟩
  have hc := Gr.cells hgw1
  have hfw1 := Gr.marks hgw1
  have hzz := Gr.size hgw1
  try simp at hzz
  have zw1w : w.heap.size < w1.heap.size := by omega
  have cw1w0 : w1.cell? ⟨w.heap.size, 0, none⟩ = some (.int .i64 rn) := by rw [hc _ _ (by first | assumption | (simp; done) | (simp; omega))]; first | assumption | go_simp
  have cw1w1 : w1.cell? ⟨w.heap.size, 1, none⟩ = some (.int .i64 rd) := by rw [hc _ _ (by first | assumption | (simp; done) | (simp; omega))]; first | assumption | go_simp
  clear hc hzz
  go_wp2_with fail
  refine (M21.out _).mono ?_
  rintro e w2 ⟨rfl, hgw2⟩
  have hc := Gr.cells hgw2
  have hfw2 := Gr.marks hgw2
  have hzz := Gr.size hgw2
  try simp at hzz
  have zw2w : w.heap.size < w2.heap.size := by omega
  have zw2w1 : w1.heap.size < w2.heap.size := by omega
  have cw2w0 : w2.cell? ⟨w.heap.size, 0, none⟩ = some (.int .i64 rn) := by rw [hc _ _ (by first | assumption | (simp; done) | (simp; omega))]; first | assumption | go_simp
  have cw2w1 : w2.cell? ⟨w.heap.size, 1, none⟩ = some (.int .i64 rd) := by rw [hc _ _ (by first | assumption | (simp; done) | (simp; omega))]; first | assumption | go_simp
  have cw2w10 : w2.cell? ⟨w1.heap.size, 0, none⟩ = some (.int .i64 N) := by rw [hc _ _ (by first | assumption | (simp; done) | (simp; omega))]; first | assumption | go_simp
  have cw2w11 : w2.cell? ⟨w1.heap.size, 1, none⟩ = some (.int .i64 D) := by rw [hc _ _ (by first | assumption | (simp; done) | (simp; omega))]; first | assumption | go_simp
  clear hc hzz
  clear cw1w0 cw1w1
  go_wp2_with fail
  refine (O18.out _).mono ?_
  rintro e w3 ⟨rfl, hgw3⟩
  have hc := Gr.cells hgw3
  have hfw3 := Gr.marks hgw3
  have hzz := Gr.size hgw3
  try simp at hzz
  have zw3w : w.heap.size < w3.heap.size := by omega
  have zw3w1 : w1.heap.size < w3.heap.size := by omega
  have zw3w2 : w2.heap.size < w3.heap.size := by omega
  have cw3w0 : w3.cell? ⟨w.heap.size, 0, none⟩ = some (.int .i64 rn) := by rw [hc _ _ (by first | assumption | (simp; done) | (simp; omega))]; first | assumption | go_simp
  have cw3w1 : w3.cell? ⟨w.heap.size, 1, none⟩ = some (.int .i64 rd) := by rw [hc _ _ (by first | assumption | (simp; done) | (simp; omega))]; first | assumption | go_simp
  have cw3w10 : w3.cell? ⟨w1.heap.size, 0, none⟩ = some (.int .i64 N) := by rw [hc _ _ (by first | assumption | (simp; done) | (simp; omega))]; first | assumption | go_simp
  have cw3w11 : w3.cell? ⟨w1.heap.size, 1, none⟩ = some (.int .i64 D) := by rw [hc _ _ (by first | assumption | (simp; done) | (simp; omega))]; first | assumption | go_simp
  have cw3w20 : w3.cell? ⟨w2.heap.size, 0, none⟩ = some (.int .i64 N) := by rw [hc _ _ (by first | assumption | (simp; done) | (simp; omega))]; first | assumption | go_simp
  have cw3w21 : w3.cell? ⟨w2.heap.size, 1, none⟩ = some (.int .i64 D) := by rw [hc _ _ (by first | assumption | (simp; done) | (simp; omega))]; first | assumption | go_simp
  clear hc hzz
  clear cw2w0 cw2w1 cw2w10 cw2w11
  go_wp2_with fail
  refine (O22.out _).mono ?_
  rintro e w4 ⟨rfl, hgw4⟩
  have hc := Gr.cells hgw4
  have hfw4 := Gr.marks hgw4
  have hzz := Gr.size hgw4
  try simp at hzz
  have zw4w : w.heap.size < w4.heap.size := by omega
  have zw4w1 : w1.heap.size < w4.heap.size := by omega
  have zw4w2 : w2.heap.size < w4.heap.size := by omega
  have zw4w3 : w3.heap.size < w4.heap.size := by omega
  have cw4w0 : w4.cell? ⟨w.heap.size, 0, none⟩ = some (.int .i64 rn) := by rw [hc _ _ (by first | assumption | (simp; done) | (simp; omega))]; first | assumption | go_simp
  have cw4w1 : w4.cell? ⟨w.heap.size, 1, none⟩ = some (.int .i64 rd) := by rw [hc _ _ (by first | assumption | (simp; done) | (simp; omega))]; first | assumption | go_simp
  have cw4w10 : w4.cell? ⟨w1.heap.size, 0, none⟩ = some (.int .i64 N) := by rw [hc _ _ (by first | assumption | (simp; done) | (simp; omega))]; first | assumption | go_simp
  have cw4w11 : w4.cell? ⟨w1.heap.size, 1, none⟩ = some (.int .i64 D) := by rw [hc _ _ (by first | assumption | (simp; done) | (simp; omega))]; first | assumption | go_simp
  have cw4w20 : w4.cell? ⟨w2.heap.size, 0, none⟩ = some (.int .i64 N) := by rw [hc _ _ (by first | assumption | (simp; done) | (simp; omega))]; first | assumption | go_simp
  have cw4w21 : w4.cell? ⟨w2.heap.size, 1, none⟩ = some (.int .i64 D) := by rw [hc _ _ (by first | assumption | (simp; done) | (simp; omega))]; first | assumption | go_simp
  have cw4w30 : w4.cell? ⟨w3.heap.size, 0, none⟩ = some (.int .i64 N1) := by rw [hc _ _ (by first | assumption | (simp; done) | (simp; omega))]; first | assumption | go_simp
  have cw4w31 : w4.cell? ⟨w3.heap.size, 1, none⟩ = some (.int .i64 D1) := by rw [hc _ _ (by first | assumption | (simp; done) | (simp; omega))]; first | assumption | go_simp
  clear hc hzz
  clear cw3w0 cw3w1 cw3w10 cw3w11 cw3w20 cw3w21
  go_wp2_with fail
  refine (F14.out _).mono ?_
  rintro e w5 ⟨rfl, hgw5⟩
  have hc := Gr.cells hgw5
  have hfw5 := Gr.marks hgw5
  have hzz := Gr.size hgw5
  try simp at hzz
  have zw5w : w.heap.size < w5.heap.size := by omega
  have zw5w1 : w1.heap.size < w5.heap.size := by omega
  have zw5w2 : w2.heap.size < w5.heap.size := by omega
  have zw5w3 : w3.heap.size < w5.heap.size := by omega
  have zw5w4 : w4.heap.size < w5.heap.size := by omega
  have cw5w0 : w5.cell? ⟨w.heap.size, 0, none⟩ = some (.int .i64 rn) := by rw [hc _ _ (by first | assumption | (simp; done) | (simp; omega))]; first | assumption | go_simp
  have cw5w1 : w5.cell? ⟨w.heap.size, 1, none⟩ = some (.int .i64 rd) := by rw [hc _ _ (by first | assumption | (simp; done) | (simp; omega))]; first | assumption | go_simp
  have cw5w10 : w5.cell? ⟨w1.heap.size, 0, none⟩ = some (.int .i64 N) := by rw [hc _ _ (by first | assumption | (simp; done) | (simp; omega))]; first | assumption | go_simp
  have cw5w11 : w5.cell? ⟨w1.heap.size, 1, none⟩ = some (.int .i64 D) := by rw [hc _ _ (by first | assumption | (simp; done) | (simp; omega))]; first | assumption | go_simp
  have cw5w20 : w5.cell? ⟨w2.heap.size, 0, none⟩ = some (.int .i64 N) := by rw [hc _ _ (by first | assumption | (simp; done) | (simp; omega))]; first | assumption | go_simp
  have cw5w21 : w5.cell? ⟨w2.heap.size, 1, none⟩ = some (.int .i64 D) := by rw [hc _ _ (by first | assumption | (simp; done) | (simp; omega))]; first | assumption | go_simp
  have cw5w30 : w5.cell? ⟨w3.heap.size, 0, none⟩ = some (.int .i64 N1) := by rw [hc _ _ (by first | assumption | (simp; done) | (simp; omega))]; first | assumption | go_simp
  have cw5w31 : w5.cell? ⟨w3.heap.size, 1, none⟩ = some (.int .i64 D1) := by rw [hc _ _ (by first | assumption | (simp; done) | (simp; omega))]; first | assumption | go_simp
  have cw5w40 : w5.cell? ⟨w4.heap.size, 0, none⟩ = some (.int .i64 N1) := by rw [hc _ _ (by first | assumption | (simp; done) | (simp; omega))]; first | assumption | go_simp
  have cw5w41 : w5.cell? ⟨w4.heap.size, 1, none⟩ = some (.int .i64 D1) := by rw [hc _ _ (by first | assumption | (simp; done) | (simp; omega))]; first | assumption | go_simp
  clear hc hzz
  clear cw4w0 cw4w1 cw4w10 cw4w11 cw4w20 cw4w21 cw4w30 cw4w31
  go_wp2_with fail
  refine (F23.out _).mono ?_
  rintro e w6 ⟨rfl, hgw6⟩
  have hc := Gr.cells hgw6
  have hfw6 := Gr.marks hgw6
  have hzz := Gr.size hgw6
  try simp at hzz
  have zw6w : w.heap.size < w6.heap.size := by omega
  have zw6w1 : w1.heap.size < w6.heap.size := by omega
  have zw6w2 : w2.heap.size < w6.heap.size := by omega
  have zw6w3 : w3.heap.size < w6.heap.size := by omega
  have zw6w4 : w4.heap.size < w6.heap.size := by omega
  have cw6w0 : w6.cell? ⟨w.heap.size, 0, none⟩ = some (.int .i64 rn) := by rw [hc _ _ (by first | assumption | (simp; done) | (simp; omega))]; first | assumption | go_simp
  have cw6w1 : w6.cell? ⟨w.heap.size, 1, none⟩ = some (.int .i64 rd) := by rw [hc _ _ (by first | assumption | (simp; done) | (simp; omega))]; first | assumption | go_simp
  have cw6w10 : w6.cell? ⟨w1.heap.size, 0, none⟩ = some (.int .i64 N) := by rw [hc _ _ (by first | assumption | (simp; done) | (simp; omega))]; first | assumption | go_simp
  have cw6w11 : w6.cell? ⟨w1.heap.size, 1, none⟩ = some (.int .i64 D) := by rw [hc _ _ (by first | assumption | (simp; done) | (simp; omega))]; first | assumption | go_simp
  have cw6w20 : w6.cell? ⟨w2.heap.size, 0, none⟩ = some (.int .i64 N) := by rw [hc _ _ (by first | assumption | (simp; done) | (simp; omega))]; first | assumption | go_simp
  have cw6w21 : w6.cell? ⟨w2.heap.size, 1, none⟩ = some (.int .i64 D) := by rw [hc _ _ (by first | assumption | (simp; done) | (simp; omega))]; first | assumption | go_simp
  have cw6w30 : w6.cell? ⟨w3.heap.size, 0, none⟩ = some (.int .i64 N1) := by rw [hc _ _ (by first | assumption | (simp; done) | (simp; omega))]; first | assumption | go_simp
  have cw6w31 : w6.cell? ⟨w3.heap.size, 1, none⟩ = some (.int .i64 D1) := by rw [hc _ _ (by first | assumption | (simp; done) | (simp; omega))]; first | assumption | go_simp
  have cw6w40 : w6.cell? ⟨w4.heap.size, 0, none⟩ = some (.int .i64 N1) := by rw [hc _ _ (by first | assumption | (simp; done) | (simp; omega))]; first | assumption | go_simp
  have cw6w41 : w6.cell? ⟨w4.heap.size, 1, none⟩ = some (.int .i64 D1) := by rw [hc _ _ (by first | assumption | (simp; done) | (simp; omega))]; first | assumption | go_simp
  clear hc hzz
  clear cw5w0 cw5w1 cw5w10 cw5w11 cw5w20 cw5w21 cw5w30 cw5w31 cw5w40 cw5w41
  go_wp2_with fail
  have xw0 := ext_cell_some cw6w0
  have xw1 := ext_cell_some cw6w1
  have xw10 := ext_cell_some cw6w10
  have xw11 := ext_cell_some cw6w11
  have xw20 := ext_cell_some cw6w20
  have xw21 := ext_cell_some cw6w21
  have xw30 := ext_cell_some cw6w30
  have xw31 := ext_cell_some cw6w31
  have xw40 := ext_cell_some cw6w40
  have xw41 := ext_cell_some cw6w41
  clear cw6w0 cw6w1 cw6w10 cw6w11 cw6w20 cw6w21 cw6w30 cw6w31 cw6w40 cw6w41
  clear hfw1 hfw2 hfw3 hfw4 hfw5 hfw6
  refine wp_region_gr (by kernel_rfl) (by kernel_rfl) ?_
  repeat (go_big_quiet_step ((first | (go_at_call 15; exact calls_ext (C15.out _)) | (go_at_call 24; exact calls_ext (C24.out _)) | (go_at_call 16; exact calls_ext (A16.out _)) | (go_at_call 25; exact calls_ext (A25.out _)))))
  refine wpQuiet_nil ?_
  intro w7 hw'
  obtain ⟨y, hy⟩ := hw'
  have hg7 : Gr w6 w7 := hy ▸ y.gr
  clear hy
  go_wp2
  go_ret
  refine ⟨rfl, ?_⟩
  repeat (first | exact Gr.refl _ | apply Gr.alloc | apply Gr.drewN | apply Gr.drew | (refine Gr.setCell ?_ (by simp) _) | (refine Gr.trans ?_ (by assumption)))
end Go.Proofs.Ytmcfpclhniahoaa
