/-
  The reference's whole numbers of two parts: what its functions return, as whole numbers. Conditions: none.
-/
import Derived.Test.YtjjmnoiffpnphaaRs
namespace Go.Proofs.Ytjjmnoiffpnphaa
open Go.RowKit
theorem tdivN (x y : Nat) : Int.tdiv (x : Int) (y : Int) = ((x / y : Nat) : Int) := by rw [Int.tdiv_eq_ediv_of_nonneg (Int.natCast_nonneg x)]; simp
theorem tmodN (x y : Nat) : Int.tmod (x : Int) (y : Int) = ((x % y : Nat) : Int) := by rw [Int.tmod_eq_emod_of_nonneg (Int.natCast_nonneg x)]; simp
theorem quoH (x : Nat) (h : x < 18446744073709551616) : Value.int .u64 (IntKind.u64.wrap (Int.tdiv (x : Int) 4294967296)) = .int .u64 ((x / 4294967296 : Nat) : Int) := by
  rw [show (4294967296 : Int) = ((4294967296 : Nat) : Int) from rfl, tdivN, wrap_in (by omega) (by omega)]
theorem remH (x : Nat) : Value.int .u64 (Int.tmod (x : Int) 4294967296) = .int .u64 ((x % 4294967296 : Nat) : Int) := by
  rw [show (4294967296 : Int) = ((4294967296 : Nat) : Int) from rfl, tmodN]
theorem mulH {x y : Nat} (h : x * y < 18446744073709551616) : Value.int .u64 (IntKind.u64.wrap ((x : Int) * (y : Int))) = .int .u64 ((x * y : Nat) : Int) := wrapv (by simp) (Int.natCast_nonneg _) (by omega)
theorem addH {x y : Nat} (h : x + y < 18446744073709551616) : Value.int .u64 (IntKind.u64.wrap ((x : Int) + (y : Int))) = .int .u64 ((x + y : Nat) : Int) := wrapv (by simp) (by omega) (by omega)
theorem halves (ah al bh bl : Nat) : (ah * 4294967296 + al) * (bh * 4294967296 + bl) = ah * bh * 18446744073709551616 + (ah * bl + al * bh) * 4294967296 + al * bl := by
  have e1 : ah * 4294967296 * (bh * 4294967296) = ah * bh * 18446744073709551616 := Nat.mul_mul_mul_comm ah 4294967296 bh 4294967296
  have e2 : ah * 4294967296 * bl = ah * bl * 4294967296 := Nat.mul_right_comm ah 4294967296 bl
  have e3 : al * (bh * 4294967296) = al * bh * 4294967296 := (Nat.mul_assoc al bh 4294967296).symm
  rw [Nat.add_mul, Nat.mul_add, Nat.mul_add, e1, e2, e3, Nat.add_mul]
  omega
theorem rprod_any (a b : Nat) (ha : a < 18446744073709551616) (hb : b < 18446744073709551616) : Pure Try.prog 104 #[.int .u64 a, .int .u64 b] (bigN false (a * b)) := by
  obtain ⟨ah, hah⟩ : ∃ x, x = a / 4294967296 := ⟨_, rfl⟩
  obtain ⟨al, hal⟩ : ∃ x, x = a % 4294967296 := ⟨_, rfl⟩
  obtain ⟨bh, hbh⟩ : ∃ x, x = b / 4294967296 := ⟨_, rfl⟩
  obtain ⟨bl, hbl⟩ : ∃ x, x = b % 4294967296 := ⟨_, rfl⟩
  have e1 : a = ah * 4294967296 + al := by omega
  have e2 : b = bh * 4294967296 + bl := by omega
  have key := halves ah al bh bl
  rw [← e1, ← e2] at key
  have m1 : ah * bl ≤ 4294967295 * 4294967295 := Nat.mul_le_mul (by omega) (by omega)
  have m2 : al * bh ≤ 4294967295 * 4294967295 := Nat.mul_le_mul (by omega) (by omega)
  have m3 : ah * bh ≤ 4294967295 * 4294967295 := Nat.mul_le_mul (by omega) (by omega)
  have m4 : al * bl ≤ 4294967295 * 4294967295 := Nat.mul_le_mul (by omega) (by omega)
  have hab : a * b < 340282366920938463463374607431768211456 := by
    have : a * b ≤ 18446744073709551615 * 18446744073709551615 := Nat.mul_le_mul (by omega) (by omega)
    omega
  have x1 := mulH (x := al) (y := bl) (by omega)
  have x2 := mulH (x := ah) (y := bl) (by omega)
  have x4 := mulH (x := al) (y := bh) (by omega)
  have x6 := mulH (x := ah) (y := bh) (by omega)
  have q1 := quoH a ha
  have q2 := remH a
  have q3 := quoH b hb
  have q4 := remH b
  rw [← hah] at q1
  rw [← hal] at q2
  rw [← hbh] at q3
  rw [← hbl] at q4
  generalize ah * bl = p1 at *
  generalize al * bh = p2 at *
  generalize ah * bh = p3 at *
  generalize al * bl = low at *
  generalize a * b = ab at *
  obtain ⟨m, hm⟩ : ∃ m, m = p1 + low / 4294967296 := ⟨_, rfl⟩
  obtain ⟨n, hn⟩ : ∃ n, n = p2 + m % 4294967296 := ⟨_, rfl⟩
  have r := rprod_path (nz := by decide) q1 q2 q3 q4 x1 x2 (quoH low (by omega)) (addH (by omega)) x4 (remH _) (addH (by omega)) x6 (quoH _ (by omega)) (addH (by omega)) (quoH _ (by omega)) (addH (by omega))
    (remH _) (wrapv (y := ((n % 4294967296 * 4294967296 : Nat) : Int)) (by rw [hn, hm]; simp) (by omega) (by omega)) (remH _) (addH (by omega))
  rw [← hm, ← hn] at r
  have f1 : p3 + m / 4294967296 + n / 4294967296 = ab / 18446744073709551616 := by omega
  have f2 : n % 4294967296 * 4294967296 + low % 4294967296 = ab % 18446744073709551616 := by omega
  rw [f1, f2] at r
  exact r

/-- A whole number. -/
abbrev bigI (x : Int) : Value := bigN (decide (x < 0)) x.natAbs
theorem Rsize_any (n : Int) (h : I64 n) : Pure Try.prog 76 #[.int .i64 n] (.int .u64 (n.natAbs : Int)) :=
  fun w => (size44_any n w h.1 h.2).mono fun _ _ ⟨h1, h2⟩ => ⟨h1, Gr.of_eq h2⟩
theorem decide_t {p : Prop} [Decidable p] (h : p) : decide p = true := by simp [h]
theorem decide_f {p : Prop} [Decidable p] (h : ¬ p) : decide p = false := by simp [h]
theorem RProduct_any (a b : Int) (ha : I64 a) (hb : I64 b) : Pure Try.prog 96 #[.int .i64 a, .int .i64 b] (bigI (a * b)) := by
  have ca := Rsize_any a ha
  have cb := Rsize_any b hb
  unfold I64 at ha hb
  have cp := rprod_any a.natAbs b.natAbs (by omega) (by omega)
  unfold bigI
  rw [Int.natAbs_mul]
  by_cases sa : a < 0 <;> by_cases sb : b < 0
  · rw [decide_f (show ¬ a * b < 0 by have := Int.mul_pos_of_neg_of_neg sa sb; omega)]
    exact rProd_ttxx ca cb cp (decide_t sa) (decide_t sb)
  · by_cases nb : b = 0
    · subst nb
      rw [decide_f (by simp)]
      exact rProd_tftf ca cb cp (decide_t sa) (decide_f sb) (by simp; omega) (by simp)
    · rw [decide_t (Int.mul_neg_of_neg_of_pos sa (by omega))]
      exact rProd_tftt ca cb cp (decide_t sa) (decide_f sb) (by simp; omega) (by simpa using nb)
  · by_cases na : a = 0
    · subst na
      rw [decide_f (by simp)]
      exact rProd_ftfx ca cb cp (decide_f sa) (decide_t sb) (by simp)
    · rw [decide_t (Int.mul_neg_of_pos_of_neg (by omega) sb)]
      exact rProd_fttt ca cb cp (decide_f sa) (decide_t sb) (by simpa using na) (by simp; omega)
  · rw [decide_f (show ¬ a * b < 0 by have := Int.mul_nonneg (show 0 ≤ a by omega) (show 0 ≤ b by omega); omega)]
    exact rProd_ffxx ca cb cp (decide_f sa) (decide_f sb)

theorem RSign_any (x : Int) : Pure Try.prog 94 #[bigI x] (.int .i64 x.sign) := by
  unfold bigI
  obtain ⟨A, hA⟩ : ∃ A, A = x.natAbs := ⟨_, rfl⟩
  rw [← hA]
  by_cases h0 : x = 0
  · subst h0
    subst hA
    exact rSign_0 (by simp) (by simp)
  · by_cases hs : x < 0
    · rw [decide_t hs, Int.sign_eq_neg_one_of_neg hs]
      by_cases hh : A / 18446744073709551616 = 0
      · exact rSign_lt (by simp [hh]) (by simp; omega)
      · exact rSign_ht (by simp; omega)
    · rw [decide_f hs, Int.sign_eq_one_of_pos (by omega)]
      by_cases hh : A / 18446744073709551616 = 0
      · exact rSign_lf (by simp [hh]) (by simp; omega)
      · exact rSign_hf (by simp; omega)

/-- -1, 0 or 1. -/
def cmpN (A B : Nat) : Int := if A < B then -1 else if A = B then 0 else 1
theorem RLess_any (s t : Bool) (A B : Nat) : Pure Try.prog 102 #[bigN s A, bigN t B] (.int .i64 (cmpN A B)) := by
  by_cases hh : A / 18446744073709551616 = B / 18446744073709551616
  · by_cases hl : A % 18446744073709551616 = B % 18446744073709551616
    · have e : A = B := by omega
      subst e
      rw [show cmpN A A = 0 by simp [cmpN]]
      exact rLess_eq (by simp) (by simp)
    · by_cases hlt : A % 18446744073709551616 < B % 18446744073709551616
      · rw [show cmpN A B = -1 by unfold cmpN; rw [if_pos (by omega)]]
        exact rLess_ll (by simp [hh]) (by simp; omega) (by simp; omega)
      · rw [show cmpN A B = 1 by unfold cmpN; rw [if_neg (by omega), if_neg (by omega)]]
        exact rLess_lg (by simp [hh]) (by simp; omega) (by simp; omega)
  · by_cases hlt : A / 18446744073709551616 < B / 18446744073709551616
    · rw [show cmpN A B = -1 by unfold cmpN; rw [if_pos (by omega)]]
      exact rLess_hl (by simp; omega) (by simp; omega)
    · rw [show cmpN A B = 1 by unfold cmpN; rw [if_neg (by omega), if_neg (by omega)]]
      exact rLess_hg (by simp; omega) (by simp; omega)

theorem wrap_sub_lo {x y : Nat} (h : x < y) (hy : y < 18446744073709551616) : Value.int .u64 (IntKind.u64.wrap ((x : Int) - (y : Int))) = .int .u64 ((18446744073709551616 + x - y : Nat) : Int) := by
  rw [IntKind.wrap_u64]; congr 1; omega
theorem RMin_any (s t : Bool) (A B : Nat) (hA : A < 340282366920938463463374607431768211456) (h : B ≤ A) : Pure Try.prog 103 #[bigN s A, bigN t B] (bigN false (A - B)) := by
  obtain ⟨a1, ha1⟩ : ∃ x, x = A / 18446744073709551616 := ⟨_, rfl⟩
  obtain ⟨a0, ha0⟩ : ∃ x, x = A % 18446744073709551616 := ⟨_, rfl⟩
  obtain ⟨b1, hb1⟩ : ∃ x, x = B / 18446744073709551616 := ⟨_, rfl⟩
  obtain ⟨b0, hb0⟩ : ∃ x, x = B % 18446744073709551616 := ⟨_, rfl⟩
  unfold bigN
  rw [← ha1, ← ha0, ← hb1, ← hb0]
  have hs : Value.int .u64 (IntKind.u64.wrap ((a1 : Int) - (b1 : Int))) = .int .u64 ((a1 - b1 : Nat) : Int) := wrapv (by omega) (by omega) (by omega)
  by_cases hl : a0 < b0
  · rw [show (A - B) / 18446744073709551616 = a1 - b1 - 1 by omega, show (A - B) % 18446744073709551616 = 18446744073709551616 + a0 - b0 by omega]
    exact rMin_t hs (wrap_sub_lo hl (by omega)) (by simp; omega) (wrapv (by omega) (by omega) (by omega))
  · rw [show (A - B) / 18446744073709551616 = a1 - b1 by omega, show (A - B) % 18446744073709551616 = a0 - b0 by omega]
    exact rMin_f hs (wrapv (by omega) (by omega) (by omega)) (by simp; omega)

theorem wrap_add_hi {x y z : Nat} (h : x + y = z + 18446744073709551616) (hz : z < 18446744073709551616) : Value.int .u64 (IntKind.u64.wrap ((x : Int) + (y : Int))) = .int .u64 (z : Int) := by
  rw [IntKind.wrap_u64, show ((x : Int) + (y : Int)) % 18446744073709551616 = (z : Int) by omega]
theorem RAddN (s : Bool) (A B : Nat) (h : A + B < 340282366920938463463374607431768211456) : Pure Try.prog 95 #[bigN s A, bigN s B] (bigN s (A + B)) := by
  obtain ⟨a1, ha1⟩ : ∃ x, x = A / 18446744073709551616 := ⟨_, rfl⟩
  obtain ⟨a0, ha0⟩ : ∃ x, x = A % 18446744073709551616 := ⟨_, rfl⟩
  obtain ⟨b1, hb1⟩ : ∃ x, x = B / 18446744073709551616 := ⟨_, rfl⟩
  obtain ⟨b0, hb0⟩ : ∃ x, x = B % 18446744073709551616 := ⟨_, rfl⟩
  unfold bigN
  rw [← ha1, ← ha0, ← hb1, ← hb0]
  have hh : Value.int .u64 (IntKind.u64.wrap ((a1 : Int) + (b1 : Int))) = .int .u64 ((a1 + b1 : Nat) : Int) := addH (by omega)
  by_cases hl : a0 + b0 < 18446744073709551616
  · have l1 := addH hl
    rw [show (A + B) / 18446744073709551616 = a1 + b1 by omega, show (A + B) % 18446744073709551616 = a0 + b0 by omega]
    cases s
    · exact rPlus_sff hh l1 (decide_f (by omega))
    · exact rPlus_stf hh l1 (decide_f (by omega))
  · obtain ⟨z, hz⟩ : ∃ z, a0 + b0 = z + 18446744073709551616 := ⟨a0 + b0 - 18446744073709551616, by omega⟩
    have l1 := wrap_add_hi hz (by omega)
    rw [show (A + B) / 18446744073709551616 = a1 + b1 + 1 by omega, show (A + B) % 18446744073709551616 = z by omega]
    cases s
    · exact rPlus_sft hh l1 (decide_t (by omega)) (wrapv (by omega) (by omega) (by omega))
    · exact rPlus_stt hh l1 (decide_t (by omega)) (wrapv (by omega) (by omega) (by omega))
theorem RPlus_any (x y : Int) (hx : x.natAbs < 170141183460469231731687303715884105728) (hy : y.natAbs < 170141183460469231731687303715884105728) : Pure Try.prog 95 #[bigI x, bigI y] (bigI (x + y)) := by
  unfold bigI
  by_cases sx : x < 0 <;> by_cases sy : y < 0
  · rw [decide_t sx, decide_t sy, decide_t (show x + y < 0 by omega), show (x + y).natAbs = x.natAbs + y.natAbs by omega]
    exact RAddN true _ _ (by omega)
  · rw [decide_t sx, decide_f sy]
    have cl := RLess_any true false x.natAbs y.natAbs
    by_cases hc : y.natAbs ≤ x.natAbs
    · have cm := RMin_any true false x.natAbs y.natAbs (by omega) hc
      rw [show (x + y).natAbs = x.natAbs - y.natAbs by omega]
      have hge : decide (cmpN x.natAbs y.natAbs ≥ 0) = true := by unfold cmpN; rw [if_neg (by omega)]; split <;> decide
      obtain ⟨D, hD⟩ : ∃ D, D = x.natAbs - y.natAbs := ⟨_, rfl⟩
      rw [← hD] at cm ⊢
      by_cases hd : D = 0
      · rw [decide_f (show ¬ x + y < 0 by omega)]
        exact rPlus_tg0 cl hge cm (by simp [hd]) (by simp [hd])
      · rw [decide_t (show x + y < 0 by omega)]
        by_cases hh : D / 18446744073709551616 = 0
        · exact rPlus_tgl cl hge cm (by simp [hh]) (by simp; omega)
        · exact rPlus_tgh cl hge cm (by simp; omega)
    · have cm := RMin_any false true y.natAbs x.natAbs (by omega) (by omega)
      rw [show (x + y).natAbs = y.natAbs - x.natAbs by omega, decide_f (show ¬ x + y < 0 by omega)]
      exact rPlus_tl cl (by unfold cmpN; rw [if_pos (by omega)]; decide) cm
  · rw [decide_f sx, decide_t sy]
    have cl := RLess_any false true x.natAbs y.natAbs
    by_cases hc : y.natAbs ≤ x.natAbs
    · have cm := RMin_any false true x.natAbs y.natAbs (by omega) hc
      rw [show (x + y).natAbs = x.natAbs - y.natAbs by omega, decide_f (show ¬ x + y < 0 by omega)]
      exact rPlus_fg cl (by unfold cmpN; rw [if_neg (by omega)]; split <;> decide) cm
    · have cm := RMin_any true false y.natAbs x.natAbs (by omega) (by omega)
      rw [show (x + y).natAbs = y.natAbs - x.natAbs by omega, decide_t (show x + y < 0 by omega)]
      exact rPlus_fl cl (by unfold cmpN; rw [if_pos (by omega)]; decide) cm
  · rw [decide_f sx, decide_f sy, decide_f (show ¬ x + y < 0 by omega), show (x + y).natAbs = x.natAbs + y.natAbs by omega]
    exact RAddN false _ _ (by omega)

end Go.Proofs.Ytjjmnoiffpnphaa
