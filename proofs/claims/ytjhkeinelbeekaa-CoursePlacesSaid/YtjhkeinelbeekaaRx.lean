/-
  RatioSums: the reference's Cmp, Add, Sub and Mul return what those of package ratio return. Conditions: none.
-/
import Derived.Test.YtjhkeinelbeekaaRw
import Derived.Test.YtjhkeinelbeekaaCon
import Derived.Test.YtjhkeinelbeekaaOr
namespace Go.Proofs.Ytjhkeinelbeekaa
open Go.RowKit

theorem RCompare_any {a b c d : Int} (ha : I64 a) (hb : I64 b) (hc : I64 c) (hd : I64 d) : Pure Try.prog 53 #[ratioV a b, ratioV c d] (.int .i64 (a * d - c * b).sign) := by
  have c1 := RProduct_any a d ha hd
  have c2 := RProduct_any c b hc hb
  generalize a * d = x at *
  generalize c * b = y at *
  have s1 := RSign_any x
  have s2 := RSign_any y
  have kx : x < 0 ∧ x.sign = -1 ∨ x = 0 ∧ x.sign = 0 ∨ 0 < x ∧ x.sign = 1 := by
    rcases Int.lt_trichotomy x 0 with h | h | h
    · exact Or.inl ⟨h, Int.sign_eq_neg_one_of_neg h⟩
    · exact Or.inr (Or.inl ⟨h, by rw [h]; rfl⟩)
    · exact Or.inr (Or.inr ⟨h, Int.sign_eq_one_of_pos h⟩)
  have ky : y < 0 ∧ y.sign = -1 ∨ y = 0 ∧ y.sign = 0 ∨ 0 < y ∧ y.sign = 1 := by
    rcases Int.lt_trichotomy y 0 with h | h | h
    · exact Or.inl ⟨h, Int.sign_eq_neg_one_of_neg h⟩
    · exact Or.inr (Or.inl ⟨h, by rw [h]; rfl⟩)
    · exact Or.inr (Or.inr ⟨h, Int.sign_eq_one_of_pos h⟩)
  have kd : x - y < 0 ∧ (x - y).sign = -1 ∨ x - y = 0 ∧ (x - y).sign = 0 ∨ 0 < x - y ∧ (x - y).sign = 1 := by
    rcases Int.lt_trichotomy (x - y) 0 with h | h | h
    · exact Or.inl ⟨h, Int.sign_eq_neg_one_of_neg h⟩
    · exact Or.inr (Or.inl ⟨h, by rw [h]; rfl⟩)
    · exact Or.inr (Or.inr ⟨h, Int.sign_eq_one_of_pos h⟩)
  by_cases he : x.sign = y.sign
  · by_cases hn : x.sign < 0
    · have l := RLess_any (decide (y < 0)) (decide (x < 0)) y.natAbs x.natAbs
      rw [show (x - y).sign = cmpN y.natAbs x.natAbs by unfold cmpN; split <;> (try split) <;> omega]
      exact rCompare_n c1 c2 s1 s2 (by simp [he]) (decide_t hn) l
    · have l := RLess_any (decide (x < 0)) (decide (y < 0)) x.natAbs y.natAbs
      rw [show (x - y).sign = cmpN x.natAbs y.natAbs by unfold cmpN; split <;> (try split) <;> omega]
      exact rCompare_p c1 c2 s1 s2 (by simp [he]) (decide_f hn) l
  · by_cases hl : x.sign < y.sign
    · rw [show (x - y).sign = -1 by omega]
      exact rCompare_l c1 c2 s1 s2 (by simpa using he) (decide_t hl)
    · rw [show (x - y).sign = 1 by omega]
      exact rCompare_g c1 c2 s1 s2 (by simpa using he) (decide_f hl)

theorem Rcommon_any (a b g : Nat) (ha : a < 18446744073709551616) (hb : b < 18446744073709551616) (hg : g = Nat.gcd a b) : Pure Try.prog 65 #[.int .u64 a, .int .u64 b] (.int .u64 (g : Int)) :=
  fun w => hg ▸ common_gr a b w ha hb
theorem wrapu {x : Int} (h0 : 0 ≤ x) (h1 : x < 18446744073709551616) : Value.int .u64 (IntKind.u64.wrap x) = .int .u64 x := wrapv rfl h0 h1
theorem quoU {x y : Nat} (h : x < 18446744073709551616) : Value.int .u64 (IntKind.u64.wrap ((x : Int).tdiv (y : Int))) = .int .u64 ((x / y : Nat) : Int) := wrapv (tdivN x y) (Int.natCast_nonneg _) (by have := Nat.div_le_self x y; omega)
theorem quoI {x y : Nat} (h : x < 9223372036854775808) : Value.int .i64 (IntKind.i64.wrap ((x : Int).tdiv (y : Int))) = .int .i64 ((x / y : Nat) : Int) := by
  have := Nat.div_le_self x y
  rw [tdivN]
  generalize x / y = z at *
  rw [wrap_i64_in (by omega) (by omega)]
theorem selI_sg {f : Bool} {U : Nat} (h : f = true → U < 9223372036854775808) : selI f (sgV U false) = selI f (U : Int) := by
  cases f
  · rfl
  · show sgV U false = (U : Int)
    unfold sgV
    rw [if_pos (h rfl)]
    rfl

theorem RAdd_any {a b c d : Int} (ha : I64 a) (hb : I64 b) (hc : I64 c) (hd : I64 d) (h1 : okB a b = true) (h2 : okB c d = true) :
    Pure Try.prog 33 #[ratioV a b, ratioV c d] (.tuple #[ratioV (smN a b c d) (smD a b c d), .int .i64 (selE (smF a b c d))]) := by
  have b1 := okB_den h1
  have d1 := okB_den h2
  have a1 := okB_num h1
  have c1 := okB_num h2
  have hB := RBoth_ok ha hb hc hd h1 h2
  unfold I64 at ha hb hc hd
  obtain ⟨bn, rfl⟩ : ∃ n : Nat, b = n := ⟨b.natAbs, by omega⟩
  obtain ⟨dn, rfl⟩ : ∃ n : Nat, d = n := ⟨d.natAbs, by omega⟩
  obtain ⟨g, hg⟩ : ∃ g, g = Nat.gcd bn dn := ⟨_, rfl⟩
  have eG : smG bn dn = g := by rw [hg]; rfl
  have g0 : 0 < g := hg ▸ Nat.gcd_pos_of_pos_left _ (by omega)
  have gl : g ≤ bn := hg ▸ Nat.gcd_le_left _ (by omega)
  have gd : g ≤ dn := hg ▸ Nat.gcd_le_right _ (by omega)
  obtain ⟨r, hr⟩ : ∃ r, r = dn / g := ⟨_, rfl⟩
  obtain ⟨l, hl⟩ : ∃ l, l = bn / g := ⟨_, rfl⟩
  have rl : r ≤ dn := hr ▸ Nat.div_le_self _ _
  have ll : l ≤ bn := hl ▸ Nat.div_le_self _ _
  obtain ⟨T, hT⟩ : ∃ T : Int, T = a * (r : Int) + c * (l : Int) := ⟨_, rfl⟩
  have eT : smT a bn c dn = T := by unfold smT; rw [eG, tdivN, tdivN, ← hr, ← hl, hT]
  obtain ⟨k, hk⟩ : ∃ k, k = Nat.gcd g (T.natAbs % g) := ⟨_, rfl⟩
  have eK : smK a bn c dn = k := by unfold smK; rw [eT, eG, hk, Nat.gcd_comm]
  have k0 : 0 < k := hk ▸ Nat.gcd_pos_of_pos_left _ g0
  have kl : k ≤ g := hk ▸ Nat.gcd_le_left _ g0
  obtain ⟨e, he⟩ : ∃ e, e = dn / k := ⟨_, rfl⟩
  have el : e ≤ dn := he ▸ Nat.div_le_self _ _
  have eU : smU a bn c dn = ((l * e : Nat) : Int) := by unfold smU; rw [eG, eK, tdivN, tdivN, ← hl, ← he]; simp
  have x1 : (a * (r : Int)).natAbs ≤ 9223372036854775807 * 9223372036854775807 := by rw [Int.natAbs_mul]; exact Nat.mul_le_mul (by omega) (by omega)
  have y1 : (c * (l : Int)).natAbs ≤ 9223372036854775807 * 9223372036854775807 := by rw [Int.natAbs_mul]; exact Nat.mul_le_mul (by omega) (by omega)
  have Tl : T.natAbs < 170141183460469231731687303715884105728 := by rw [hT]; generalize a * (r : Int) = p at *; generalize c * (l : Int) = q at *; omega
  have p1 := RProduct_any a r (by unfold I64; omega) (by unfold I64; omega)
  have p2 := RProduct_any c l (by unfold I64; omega) (by unfold I64; omega)
  have p3 := RPlus_any (a * r) (c * l) (by omega) (by omega)
  rw [← hT] at p3
  have q1 := Rdiv_any (decide (T < 0)) T.natAbs g (by omega) g0 (by omega)
  have q2 := Rdiv_any (decide (T < 0)) T.natAbs k (by omega) k0 (by omega)
  have ml : T.natAbs % g < g := Nat.mod_lt _ g0
  have gk := Rcommon_any g (T.natAbs % g) k (by omega) (by omega) hk
  have hgk := Rcommon_any bn dn g (by omega) (by omega) hg
  have pu := rprod_any l e (by omega) (by omega)
  have md := RMade_any (decide (T < 0)) false false (T.natAbs / k) (l * e)
  have key := rAdd_ok hB (wrapu (by omega) (by omega)) (wrapu (by omega) (by omega)) hgk (conv_i64 (by omega) (by omega)) (by omega) (hr ▸ quoI (by omega)) p1 (hl ▸ quoI (by omega)) p2 p3
    (wrapu (by omega) (by omega)) q1 gk q2 (wrapu (by omega) (by omega)) (by omega) (he ▸ quoU (by omega)) pu md
  have f1 : smF a bn c dn = (fitB (T.natAbs / k) && fitB (l * e)) := by unfold smF; rw [eT, eK, eU, Int.natAbs_natCast]
  have f2 : smN a bn c dn = selI (fitB (T.natAbs / k) && fitB (l * e)) (sgV (T.natAbs / k) (decide (T < 0))) := by unfold smN; rw [f1, eT, eK]
  have f3 : smD a bn c dn = selI (fitB (T.natAbs / k) && fitB (l * e)) ((l * e : Nat) : Int) := by
    unfold smD
    rw [f1, eU, Int.natAbs_natCast, decide_f (by omega)]
    exact selI_sg fun h => by simp only [Bool.and_eq_true] at h; simpa [fitB] using h.2
  rw [f1, f2, f3]
  exact key

theorem RSub_any {a b c d : Int} (ha : I64 a) (hb : I64 b) (hc : I64 c) (hd : I64 d) (h1 : okB a b = true) (h2 : okB c d = true) :
    Pure Try.prog 34 #[ratioV a b, ratioV c d] (.tuple #[ratioV (smN a b (-c) d) (smD a b (-c) d), .int .i64 (selE (smF a b (-c) d))]) := by
  have c1 := okB_num h2
  have c2 := hc
  unfold I64 at c2
  exact rSub_ok (RBoth_ok ha hb hc hd h1 h2) (by rw [wrap_i64_in (by omega) (by omega), Int.zero_sub]) (RAdd_any ha hb (by unfold I64; omega) hd h1 (okB_neg c2.2 h2))

theorem muA_mul (a d : Int) : muA a d * (Nat.gcd a.natAbs d.natAbs : Nat) = a := Int.tdiv_mul_cancel (Int.ofNat_dvd_left.2 (Nat.gcd_dvd_left _ _))
theorem RMul_any {a b c d : Int} (ha : I64 a) (hb : I64 b) (hc : I64 c) (hd : I64 d) (h1 : okB a b = true) (h2 : okB c d = true) :
    Pure Try.prog 35 #[ratioV a b, ratioV c d] (.tuple #[ratioV (muN a b c d) (muD a b c d), .int .i64 (selE (muF a b c d))]) := by
  have b1 := okB_den h1
  have d1 := okB_den h2
  have a1 := okB_num h1
  have c1 := okB_num h2
  have hB := RBoth_ok ha hb hc hd h1 h2
  have za := Rsize_any a ha
  have zc := Rsize_any c hc
  unfold I64 at ha hb hc hd
  obtain ⟨bn, rfl⟩ : ∃ n : Nat, b = n := ⟨b.natAbs, by omega⟩
  obtain ⟨dn, rfl⟩ : ∃ n : Nat, d = n := ⟨d.natAbs, by omega⟩
  have mA := muA_mul a dn
  have mC := muA_mul c bn
  rw [Int.natAbs_natCast] at mA mC
  obtain ⟨g, hg⟩ : ∃ g, g = Nat.gcd a.natAbs dn := ⟨_, rfl⟩
  obtain ⟨h, hh⟩ : ∃ h, h = Nat.gcd c.natAbs bn := ⟨_, rfl⟩
  have g0 : 0 < g := hg ▸ Nat.gcd_pos_of_pos_right _ (by omega)
  have h0 : 0 < h := hh ▸ Nat.gcd_pos_of_pos_right _ (by omega)
  have xA : (muA a dn).natAbs = a.natAbs / g := by unfold muA; rw [Int.natAbs_tdiv]; simp only [Int.natAbs_natCast]; rw [← hg]; rfl
  have xC : (muA c bn).natAbs = c.natAbs / h := by unfold muA; rw [Int.natAbs_tdiv]; simp only [Int.natAbs_natCast]; rw [← hh]; rfl
  have eT : (muT a bn c dn).natAbs = a.natAbs / g * (c.natAbs / h) := by unfold muT; rw [Int.natAbs_mul, xA, xC]
  have eU : muU a bn c dn = ((bn / h * (dn / g) : Nat) : Int) := by
    unfold muU muB
    rw [Int.natAbs_natCast, Int.natAbs_natCast, ← hg, ← hh, tdivN, tdivN]
    simp
  have gg := Rcommon_any a.natAbs dn g (by omega) (by omega) hg
  have gh := Rcommon_any c.natAbs bn h (by omega) (by omega) hh
  have dx := Nat.div_le_self a.natAbs g
  have dy := Nat.div_le_self c.natAbs h
  have db := Nat.div_le_self bn h
  have dd := Nat.div_le_self dn g
  have p1 := rprod_any (a.natAbs / g) (c.natAbs / h) (by omega) (by omega)
  have p2 := rprod_any (bn / h) (dn / g) (by omega) (by omega)
  have f1 : muF a bn c dn = (fitB (a.natAbs / g * (c.natAbs / h)) && fitB (bn / h * (dn / g))) := by unfold muF; rw [eT, eU, Int.natAbs_natCast]
  have f3 : muD a bn c dn = selI (fitB (a.natAbs / g * (c.natAbs / h)) && fitB (bn / h * (dn / g))) ((bn / h * (dn / g) : Nat) : Int) := by
    unfold muD
    rw [f1, eU, Int.natAbs_natCast, decide_f (by omega)]
    exact selI_sg fun h => by simp only [Bool.and_eq_true] at h; simpa [fitB] using h.2
  have f2 : ∀ neg, decide (muT a bn c dn < 0) = neg → muN a bn c dn = selI (fitB (a.natAbs / g * (c.natAbs / h)) && fitB (bn / h * (dn / g))) (sgV (a.natAbs / g * (c.natAbs / h)) neg) := by
    intro neg hneg
    unfold muN
    rw [f1, eT, hneg]
  rw [← hg] at mA
  rw [← hh] at mC
  have sA : (a < 0 → muA a dn < 0) ∧ (0 ≤ a → 0 ≤ muA a dn) ∧ (a ≠ 0 → muA a dn ≠ 0) ∧ (a = 0 → muA a dn = 0) := by
    generalize muA a dn = m at *
    refine ⟨fun ha' => ?_, fun ha' => ?_, fun ha' e => ha' (by rw [← mA, e, Int.zero_mul]), fun ha' => ?_⟩
    · refine Int.not_le.1 fun hm => ?_
      have := Int.mul_nonneg hm (Int.natCast_nonneg g)
      omega
    · refine Int.not_lt.1 fun hm => ?_
      have := Int.mul_neg_of_neg_of_pos hm (show (0 : Int) < g by omega)
      omega
    · rw [ha'] at mA
      rcases Int.mul_eq_zero.1 mA with e | e
      · exact e
      · omega
  have sC : (c < 0 → muA c bn < 0) ∧ (0 ≤ c → 0 ≤ muA c bn) ∧ (c ≠ 0 → muA c bn ≠ 0) ∧ (c = 0 → muA c bn = 0) := by
    generalize muA c bn = m at *
    refine ⟨fun ha' => ?_, fun ha' => ?_, fun ha' e => ha' (by rw [← mC, e, Int.zero_mul]), fun ha' => ?_⟩
    · refine Int.not_le.1 fun hm => ?_
      have := Int.mul_nonneg hm (Int.natCast_nonneg h)
      omega
    · refine Int.not_lt.1 fun hm => ?_
      have := Int.mul_neg_of_neg_of_pos hm (show (0 : Int) < h by omega)
      omega
    · rw [ha'] at mC
      rcases Int.mul_eq_zero.1 mC with e | e
      · exact e
      · omega
  have mt : muT a bn c dn = muA a dn * muA c bn := rfl
  have w1 := wrapu (x := (dn : Int)) (by omega) (by omega)
  have w2 := wrapu (x := (bn : Int)) (by omega) (by omega)
  have d1 := quoU (x := a.natAbs) (y := g) (by omega)
  have d2 := quoU (x := c.natAbs) (y := h) (by omega)
  have d3 := quoU (x := bn) (y := h) (by omega)
  have d4 := quoU (x := dn) (y := g) (by omega)
  have gz : ¬ (g : Int) = 0 := by omega
  have hz : ¬ (h : Int) = 0 := by omega
  by_cases na : a < 0 <;> by_cases nc : c < 0
  · rw [f1, f3, f2 false (by rw [mt]; exact decide_f (by have := Int.mul_pos_of_neg_of_neg (sA.1 na) (sC.1 nc); omega))]
    exact rMul_ttxx hB za w1 gg zc w2 gh (decide_t na) (decide_t nc) gz d1 hz d2 p1 d3 d4 p2 (RMade_any false false false _ _)
  · by_cases z : c = 0
    · rw [f1, f3, f2 false (by rw [mt, sC.2.2.2 z, Int.mul_zero]; rfl)]
      exact rMul_tftf hB za w1 gg zc w2 gh (decide_t na) (decide_f nc) (by simp; omega) (by simpa using z) gz d1 hz d2 p1 d3 d4 p2 (RMade_any false false false _ _)
    · rw [f1, f3, f2 true (by rw [mt]; exact decide_t (Int.mul_neg_of_neg_of_pos (sA.1 na) (by have := sC.2.1 (by omega); have := sC.2.2.1 z; omega)))]
      exact rMul_tftt hB za w1 gg zc w2 gh (decide_t na) (decide_f nc) (by simp; omega) (by simpa using z) gz d1 hz d2 p1 d3 d4 p2 (RMade_any true false false _ _)
  · by_cases z : a = 0
    · rw [f1, f3, f2 false (by rw [mt, sA.2.2.2 z, Int.zero_mul]; rfl)]
      exact rMul_ftfx hB za w1 gg zc w2 gh (decide_f na) (decide_t nc) (by simpa using z) gz d1 hz d2 p1 d3 d4 p2 (RMade_any false false false _ _)
    · rw [f1, f3, f2 true (by rw [mt]; exact decide_t (Int.mul_neg_of_pos_of_neg (by have := sA.2.1 (by omega); have := sA.2.2.1 z; omega) (sC.1 nc)))]
      exact rMul_fttt hB za w1 gg zc w2 gh (decide_f na) (decide_t nc) (by simpa using z) (by simp; omega) gz d1 hz d2 p1 d3 d4 p2 (RMade_any true false false _ _)
  · rw [f1, f3, f2 false (by rw [mt]; exact decide_f (by have := Int.mul_nonneg (sA.2.1 (by omega)) (sC.2.1 (by omega)); omega))]
    exact rMul_ffxx hB za w1 gg zc w2 gh (decide_f na) (decide_f nc) gz d1 hz d2 p1 d3 d4 p2 (RMade_any false false false _ _)

theorem eqq {n d : Int} : (n == n && (d == d && true)) = true := by simp
theorem eq1 {n : Int} : (n == n) = true := by simp
theorem sums_law {a b c d : Int} (ha : I64 a) (hb : I64 b) (hc : I64 c) (hd : I64 d) : Pure Try.prog 5 #[ratioV a b, ratioV c d] (.bool true) := by
  have hm := fun w => mul_any a b c d w ha hb hc hd
  by_cases hk : okB a b = true ∧ okB c d = true
  · simp only [if_pos hk] at hm
    exact sums_path (Cmp_ok ha hb hc hd hk.1 hk.2) (rCmp_ok (RBoth_ok ha hb hc hd hk.1 hk.2) (RCompare_any ha hb hc hd)) (add_any ha hb hc hd hk.1 hk.2) (RAdd_any ha hb hc hd hk.1 hk.2) (sub_any ha hb hc hd hk.1 hk.2) (RSub_any ha hb hc hd hk.1 hk.2)
      hm (RMul_any ha hb hc hd hk.1 hk.2) eq1 eq1 eqq eq1 eqq eq1 eqq eq1
  · simp only [if_neg hk] at hm
    have hB := RBoth_bad ha hb hc hd hk
    exact sums_path (cmp_bad ha hb hc hd hk) (rCmp_bad hB) (add_bad ha hb hc hd hk) (rAdd_bad hB) (sub_bad ha hb hc hd hk) (rSub_bad hB) hm (rMul_bad hB) eq1 eq1 eqq eq1 eqq eq1 eqq eq1
end Go.Proofs.Ytjhkeinelbeekaa
