/-
  Joined: P, Q, Rv, T, Rs, Rt, Rw. Conditions: none.
-/
import Derived.Test.YtpngjeloiifgnaaGreatW24
import Derived.Test.YtpngjeloiifgnaaGreatL
import Derived.Test.YtpngjeloiifgnaaGreatSxJ
import Derived.Laws.Bits64b
namespace Go.Proofs.YtpngjeloiifgnaaGreat
open Go.RowKit
theorem okBoth_zero {a b c d : Int} (h1 : okB a b = true) (h2 : okB c d = true) : bothE a b c d = 0 := by simp [bothE, h1, ckE, h2]
theorem okBoth_bad {a b c d : Int} (h : ¬ (okB a b = true ∧ okB c d = true)) : bothE a b c d = 8 := by
  unfold bothE
  by_cases h1 : okB a b = true
  · rw [if_pos h1]; exact ckE_bad (fun h2 => h ⟨h1, h2⟩)
  · rw [if_neg h1]
/-- What Mul makes of its numbers: each numerator without what it shares with the other denominator. -/
def muA (a d : Int) : Int := a.tdiv (Nat.gcd a.natAbs d.natAbs : Nat)
def muB (a d : Int) : Int := d.tdiv (Nat.gcd a.natAbs d.natAbs : Nat)
def muT (a b c d : Int) : Int := muA a d * muA c b
def muU (a b c d : Int) : Int := muB c b * muB a d
def muF (a b c d : Int) : Bool := fitB (muT a b c d).natAbs && fitB (muU a b c d).natAbs
def muN (a b c d : Int) : Int := selI (muF a b c d) (sgV (muT a b c d).natAbs (decide (muT a b c d < 0)))
def muD (a b c d : Int) : Int := selI (muF a b c d) (sgV (muU a b c d).natAbs (decide (muU a b c d < 0)))

set_option maxHeartbeats 800000 in
theorem mul_bad (a b c d : Int) (w : World) (CB : Hid (∀ w, Calls Tryz.prog 91 #[.agg #[.int .i64 a, .int .i64 b], .agg #[.int .i64 c, .int .i64 d]] w fun e w' => e = .returned (.int .i64 8) ∧ Gr w w')) :
    Calls Tryz.prog 48 #[.agg #[.int .i64 a, .int .i64 b], .agg #[.int .i64 c, .int .i64 d]] w fun e w' => e = .returned (.tuple #[.agg #[.int .i64 0, .int .i64 0], .int .i64 8]) ∧ Gr w w' := by
  have n01 : w.heap.size < w.heap.size + 1 + 1 := by omega
  have n02 : w.heap.size < w.heap.size + 1 + 1 + 1 := by omega
  have n12 : w.heap.size + 1 < w.heap.size + 1 + 1 + 1 := by omega
  go_enter Tryz.func48, Tryz.ntmps48
  go_wp2_with fail
  refine (CB.out _).mono ?_
  rintro e w1 ⟨rfl, hgw1⟩
  have hc := Gr.cells hgw1
  have hfmw1 := Gr.marks hgw1
  have hzz := Gr.size hgw1
  try simp at hzz
  have zw1w : w.heap.size < w1.heap.size := by omega
  have zw1wp1 : w.heap.size + 1 < w1.heap.size := by omega
  have zw1wp1p1 : w.heap.size + 1 + 1 < w1.heap.size := by omega
  have cw1w0 : w1.cell? ⟨w.heap.size, 0, none⟩ = some (.int .i64 a) := by rw [hc _ _ (by first | assumption | (simp; done) | (simp; omega))]; first | assumption | go_simp
  have cw1w1 : w1.cell? ⟨w.heap.size, 1, none⟩ = some (.int .i64 b) := by rw [hc _ _ (by first | assumption | (simp; done) | (simp; omega))]; first | assumption | go_simp
  have cw1wp10 : w1.cell? ⟨w.heap.size + 1, 0, none⟩ = some (.int .i64 c) := by rw [hc _ _ (by first | assumption | (simp; done) | (simp; omega))]; first | assumption | go_simp
  have cw1wp11 : w1.cell? ⟨w.heap.size + 1, 1, none⟩ = some (.int .i64 d) := by rw [hc _ _ (by first | assumption | (simp; done) | (simp; omega))]; first | assumption | go_simp
  have cw1wp1p10 : w1.cell? ⟨w.heap.size + 1 + 1, 0, none⟩ = some (.int .i64 0) := by rw [hc _ _ (by first | assumption | (simp; done) | (simp; omega))]; first | assumption | go_simp
  have cw1wp1p11 : w1.cell? ⟨w.heap.size + 1 + 1, 1, none⟩ = some (.int .i64 0) := by rw [hc _ _ (by first | assumption | (simp; done) | (simp; omega))]; first | assumption | go_simp
  clear hc hzz
  have fzw10 : w1.frozen? ⟨w.heap.size + 1 + 1, 0, none⟩ = false := by rw [hfmw1 _ _ (by first | assumption | (simp; done) | (simp; omega))]; first | assumption | (simp only [frozen?_alloc_cells]; exact fresh_frozen (by omega))
  have fzw11 : w1.frozen? ⟨w.heap.size + 1 + 1, 1, none⟩ = false := by rw [hfmw1 _ _ (by first | assumption | (simp; done) | (simp; omega))]; first | assumption | (simp only [frozen?_alloc_cells]; exact fresh_frozen (by omega))
  clear hfmw1
  go_wp2
  refine bodyPost_ret (v := .tuple #[.agg #[.int .i64 0, .int .i64 0], .int .i64 8]) (by simp [results, Tryz.results48, go_sem, *]) rfl ⟨rfl, ?_⟩
  repeat (first | exact Gr.refl _ | apply Gr.alloc | apply Gr.drewN | apply Gr.drew | (refine Gr.setCell ?_ (by first | (simp; done) | (simp; omega)) _) | (refine Gr.trans ?_ (by assumption)))

theorem tdiv_bd {a : Int} {g : Nat} (_ : 0 < g) (h0 : -9223372036854775807 ≤ a) (h1 : a ≤ 9223372036854775807) : -9223372036854775807 ≤ a.tdiv g ∧ a.tdiv g ≤ 9223372036854775807 := by
  have h : (a.tdiv (g : Int)).natAbs = a.natAbs / g := by rw [Int.natAbs_tdiv]; rfl
  have e : a.natAbs / g ≤ a.natAbs := Nat.div_le_self _ _
  rw [← h] at e
  generalize a.tdiv (g : Int) = q at *
  omega
theorem wrap_i64_in {n : Int} (h0 : -9223372036854775808 ≤ n) (h1 : n ≤ 9223372036854775807) : IntKind.i64.wrap n = n := by
  rw [IntKind.wrap_i64]; omega
theorem prod_fits {a b : Int} (h0 : -9223372036854775807 ≤ a) (h1 : a ≤ 9223372036854775807) (h2 : -9223372036854775807 ≤ b) (h3 : b ≤ 9223372036854775807) : fits128 (a * b) := by
  have h : (a * b).natAbs ≤ 9223372036854775807 * 9223372036854775807 := by rw [Int.natAbs_mul]; exact Nat.mul_le_mul (by omega) (by omega)
  unfold fits128
  generalize a * b = p at *
  omega

theorem mul_any (a b c d : Int) (w : World) (ha : I64 a) (hb : I64 b) (hc : I64 c) (hd : I64 d) :
    Calls Tryz.prog 48 #[.agg #[.int .i64 a, .int .i64 b], .agg #[.int .i64 c, .int .i64 d]] w fun e w' =>
      e = .returned (if okB a b = true ∧ okB c d = true then .tuple #[.agg #[.int .i64 (muN a b c d), .int .i64 (muD a b c d)], .int .i64 (selE (muF a b c d))] else .tuple #[.agg #[.int .i64 0, .int .i64 0], .int .i64 8]) ∧ Gr w w' := by
  by_cases hk : okB a b = true ∧ okB c d = true
  · rw [if_pos hk]
    obtain ⟨k1, k2⟩ := hk
    have b1 := okB_den k1
    have d1 := okB_den k2
    have a1 := okB_num k1
    have c1 := okB_num k2
    unfold I64 at ha hb hc hd
    obtain ⟨g, hg⟩ : ∃ g : Nat, g = Nat.gcd a.natAbs d.natAbs := ⟨_, rfl⟩
    obtain ⟨h, hh⟩ : ∃ h : Nat, h = Nat.gcd c.natAbs b.natAbs := ⟨_, rfl⟩
    have g0 : 0 < g := hg ▸ Nat.gcd_pos_of_pos_right _ (by omega)
    have h0 : 0 < h := hh ▸ Nat.gcd_pos_of_pos_right _ (by omega)
    have gl : g ≤ d.natAbs := hg ▸ Nat.gcd_le_right _ (by omega)
    have hl : h ≤ b.natAbs := hh ▸ Nat.gcd_le_right _ (by omega)
    have eA : a.tdiv (g : Int) = muA a d := by rw [hg]; rfl
    have eD : d.tdiv (g : Int) = muB a d := by rw [hg]; rfl
    have eC : c.tdiv (h : Int) = muA c b := by rw [hh]; rfl
    have eB : b.tdiv (h : Int) = muB c b := by rw [hh]; rfl
    have tA := tdiv_bd (a := a) g0 (by omega) (by omega)
    have tD := tdiv_bd (a := d) g0 (by omega) (by omega)
    have tC := tdiv_bd (a := c) h0 (by omega) (by omega)
    have tB := tdiv_bd (a := b) h0 (by omega) (by omega)
    rw [eA] at tA
    rw [eD] at tD
    rw [eC] at tC
    rw [eB] at tB
    have f1 := prod_fits tA.1 tA.2 tC.1 tC.2
    have f2 := prod_fits tB.1 tB.2 tD.1 tD.2
    have one : ((1 : Nat) : Int) = 1 := rfl
    have v1 := fun w => divided_any (muA a d * muA c b) 1 w f1 (by omega) (by omega)
    have v2 := fun w => divided_any (muB c b * muB a d) 1 w f2 (by omega) (by omega)
    simp only [Nat.div_one] at v1 v2
    exact mul_core a b c d g h (muA a d) (muB c b) (muA c b) (muB a d) a.natAbs d.natAbs c.natAbs b.natAbs _ _ _ _ _ _ _ _ w
      (Lib.hid fun w => okBoth_zero k1 k2 ▸ checkBoth_any a b c d w ha hb hc hd)
      (Lib.hid fun w => size_any a w (by omega) (by omega)) (Lib.hid fun w => size_any d w (by omega) (by omega)) (Lib.hid fun w => size_any c w (by omega) (by omega)) (Lib.hid fun w => size_any b w (by omega) (by omega))
      (Lib.hid fun w => divisor_z _ _ _ _ _ w rfl rfl (by rw [hg]) (by omega) (by omega)) (Lib.hid fun w => divisor_z _ _ _ _ _ w rfl rfl (by rw [hh]) (by omega) (by omega))
      (Lib.hid fun w => product_any _ _ w (by omega) (by omega) (by omega) (by omega)) (Lib.hid fun w => product_any _ _ w (by omega) (by omega) (by omega) (by omega))
      (Lib.hid v1) (Lib.hid v2)
      (wrap_i64_in (by omega) (by omega)) (wrap_i64_in (by omega) (by omega)) (by simp; omega) (by omega) (by simp; omega) (by omega)
      eA (wrap_i64_in (by omega) (by omega)) eC (wrap_i64_in (by omega) (by omega)) eB (wrap_i64_in (by omega) (by omega)) eD (wrap_i64_in (by omega) (by omega))
  · rw [if_neg hk]
    exact mul_bad a b c d w (Lib.hid fun w => okBoth_bad hk ▸ checkBoth_any a b c d w ha hb hc hd)
end Go.Proofs.YtpngjeloiifgnaaGreat

namespace Go.Proofs.YtpngjeloiifgnaaGreat
open Go.RowKit
theorem pure_run {P : Program} (n : Nat) {f : FuncId} {args : List Value} (ch : List Ch) {v : Value} {T : Prop} (ht : v = v ∧ T) (e : Good v (runS P n f args ch) = (v = v ∧ T)) : Pure P f args.toArray v := pure_of n ch (e ▸ ht)
abbrev ratioV (n d : Int) : Value := .agg #[.int .i64 n, .int .i64 d]
abbrev wideV (x : Int) : Value := .agg #[.int .u64 (wHi x), .int .u64 (wLo x)]
theorem conv_i64 {n : Int} (h0 : -9223372036854775808 ≤ n) (h1 : n ≤ 9223372036854775807) : Value.int .i64 (IntKind.i64.wrap n) = .int .i64 n := by rw [wrap_i64_in h0 h1]
theorem conv_quo {x y q : Int} (h : x.tdiv y = q) (h0 : -9223372036854775808 ≤ q) (h1 : q ≤ 9223372036854775807) : Value.int .i64 (IntKind.i64.wrap (x.tdiv y)) = .int .i64 q := by rw [h, wrap_i64_in h0 h1]

/-- What both denominators share; the numerator over what is left; what that shares with it; the denominator. -/
def smG (b d : Int) : Nat := Nat.gcd b.natAbs d.natAbs
def smT (a b c d : Int) : Int := a * d.tdiv (smG b d) + c * b.tdiv (smG b d)
def smK (a b c d : Int) : Nat := Nat.gcd ((smT a b c d).natAbs % smG b d) (smG b d)
def smU (a b c d : Int) : Int := b.tdiv (smG b d) * d.tdiv (smK a b c d)
def smF (a b c d : Int) : Bool := fitB ((smT a b c d).natAbs / smK a b c d) && fitB (smU a b c d).natAbs
def smN (a b c d : Int) : Int := selI (smF a b c d) (sgV ((smT a b c d).natAbs / smK a b c d) (decide (smT a b c d < 0)))
def smD (a b c d : Int) : Int := selI (smF a b c d) (sgV (smU a b c d).natAbs (decide (smU a b c d < 0)))

theorem plus_fits {a b c d : Int} (h0 : -9223372036854775807 ≤ a) (h1 : a ≤ 9223372036854775807) (h2 : -9223372036854775807 ≤ b) (h3 : b ≤ 9223372036854775807)
    (h4 : -9223372036854775807 ≤ c) (h5 : c ≤ 9223372036854775807) (h6 : -9223372036854775807 ≤ d) (h7 : d ≤ 9223372036854775807) : fits128 (a * b + c * d) := by
  have h : (a * b).natAbs ≤ 9223372036854775807 * 9223372036854775807 := by rw [Int.natAbs_mul]; exact Nat.mul_le_mul (by omega) (by omega)
  have g : (c * d).natAbs ≤ 9223372036854775807 * 9223372036854775807 := by rw [Int.natAbs_mul]; exact Nat.mul_le_mul (by omega) (by omega)
  unfold fits128
  generalize a * b = p at *
  generalize c * d = q at *
  omega

set_option maxRecDepth 100000 in
theorem sum_path {a b c d g l r k e T : Int} {zb zd m : Int} {N M : Int} {f2 : Bool} {X Y E : Int}
    (hs1 : Pure Tryz.prog 94 #[.int .i64 b] (.int .u64 zb)) (hs2 : Pure Tryz.prog 94 #[.int .i64 d] (.int .u64 zd))
    (hg : Pure Tryz.prog 93 #[.int .u64 zb, .int .u64 zd] (.int .u64 g))
    (cg : Value.int .i64 (IntKind.i64.wrap g) = .int .i64 g) (g0 : ¬ g = 0) (ql : Value.int .i64 (IntKind.i64.wrap (b.tdiv g)) = .int .i64 l) (qr : Value.int .i64 (IntKind.i64.wrap (d.tdiv g)) = .int .i64 r)
    (p1 : Pure Tryz.prog 95 #[.int .i64 a, .int .i64 r] (wideV (a * r))) (p2 : Pure Tryz.prog 95 #[.int .i64 c, .int .i64 l] (wideV (c * l)))
    (pl : Pure Tryz.prog 98 #[wideV (a * r), wideV (c * l)] (wideV T))
    (rm : Pure Tryz.prog 138 #[wideV T, .int .u64 g] (.int .u64 m)) (hk : Pure Tryz.prog 93 #[.int .u64 m, .int .u64 g] (.int .u64 k))
    (ck : Value.int .i64 (IntKind.i64.wrap k) = .int .i64 k) (k0 : ¬ k = 0) (qe : Value.int .i64 (IntKind.i64.wrap (d.tdiv k)) = .int .i64 e)
    (p3 : Pure Tryz.prog 95 #[.int .i64 l, .int .i64 e] (wideV (l * e)))
    (dv2 : Pure Tryz.prog 96 #[wideV (l * e), .int .u64 1] (.tuple #[.int .i64 M, .bool f2])) (f1 : Bool)
    (dv1 : Pure Tryz.prog 96 #[wideV T, .int .u64 k] (.tuple #[.int .i64 N, .bool f1]))
    (rs : Pure Tryz.prog 97 #[.int .i64 N, .int .i64 M, .bool (f1 && f2)] (.tuple #[ratioV X Y, .int .i64 E])) :
    Pure Tryz.prog 92 #[ratioV a b, ratioV c d] (.tuple #[ratioV X Y, .int .i64 E]) := by
  cases f1
  · exact pure_run (args := [ratioV a b, ratioV c d]) 200 [.r (.int .u64 zb), .r (.int .u64 zd), .r (.int .u64 g), .r (.int .i64 g), .r (.int .i64 l), .r (.int .i64 g), .r (.int .i64 r),
      .r (wideV (a * r)), .r (wideV (c * l)), .r (wideV T), .r (.int .u64 m), .r (.int .u64 k), .r (.tuple #[.int .i64 N, .bool false]), .r (.int .i64 k), .r (.int .i64 e), .r (wideV (l * e)), .r (.tuple #[.int .i64 M, .bool f2]), .r (.tuple #[ratioV X Y, .int .i64 E])]
      (And.intro rfl (And.intro hs1 (And.intro hs2 (And.intro hg (And.intro cg (And.intro g0 (And.intro ql (And.intro cg (And.intro g0 (And.intro qr (And.intro p1 (And.intro p2 (And.intro pl (And.intro rm (And.intro hk (And.intro dv1 (And.intro ck (And.intro k0 (And.intro qe (And.intro p3 (And.intro dv2 (And.intro rs True.intro)))))))))))))))))))))) (by kernel_rfl)
  · exact pure_run (args := [ratioV a b, ratioV c d]) 200 [.r (.int .u64 zb), .r (.int .u64 zd), .r (.int .u64 g), .r (.int .i64 g), .r (.int .i64 l), .r (.int .i64 g), .r (.int .i64 r),
      .r (wideV (a * r)), .r (wideV (c * l)), .r (wideV T), .r (.int .u64 m), .r (.int .u64 k), .r (.tuple #[.int .i64 N, .bool true]), .r (.int .i64 k), .r (.int .i64 e), .r (wideV (l * e)), .r (.tuple #[.int .i64 M, .bool f2]), .r (.tuple #[ratioV X Y, .int .i64 E])]
      (And.intro rfl (And.intro hs1 (And.intro hs2 (And.intro hg (And.intro cg (And.intro g0 (And.intro ql (And.intro cg (And.intro g0 (And.intro qr (And.intro p1 (And.intro p2 (And.intro pl (And.intro rm (And.intro hk (And.intro dv1 (And.intro ck (And.intro k0 (And.intro qe (And.intro p3 (And.intro dv2 (And.intro rs True.intro)))))))))))))))))))))) (by kernel_rfl)

theorem sum_any (a b c d : Int) (ha : I64 a) (hb : I64 b) (hc : I64 c) (hd : I64 d) (k1 : okB a b = true) (k2 : okB c d = true) :
    Pure Tryz.prog 92 #[ratioV a b, ratioV c d] (.tuple #[ratioV (smN a b c d) (smD a b c d), .int .i64 (selE (smF a b c d))]) := by
  have b1 := okB_den k1
  have d1 := okB_den k2
  have a1 := okB_num k1
  have c1 := okB_num k2
  unfold I64 at ha hb hc hd
  obtain ⟨g, hg⟩ : ∃ g : Nat, g = smG b d := ⟨_, rfl⟩
  obtain ⟨l, hl⟩ : ∃ l : Int, b.tdiv (g : Int) = l := ⟨_, rfl⟩
  obtain ⟨r, hr⟩ : ∃ r : Int, d.tdiv (g : Int) = r := ⟨_, rfl⟩
  obtain ⟨T, hT⟩ : ∃ T : Int, a * r + c * l = T := ⟨_, rfl⟩
  obtain ⟨k, hk⟩ : ∃ k : Nat, k = Nat.gcd (T.natAbs % g) g := ⟨_, rfl⟩
  obtain ⟨e, he⟩ : ∃ e : Int, d.tdiv (k : Int) = e := ⟨_, rfl⟩
  have eT : smT a b c d = T := by rw [← hT, ← hl, ← hr, hg]; rfl
  have eK : smK a b c d = k := by unfold smK; rw [eT, ← hg, ← hk]
  have eU : smU a b c d = l * e := by unfold smU; rw [← hg, eK, hl, he]
  have g0 : 0 < g := hg ▸ Nat.gcd_pos_of_pos_right _ (by omega)
  have gl : g ≤ d.natAbs := hg ▸ Nat.gcd_le_right _ (by omega)
  have k0 : 0 < k := hk ▸ Nat.gcd_pos_of_pos_right _ g0
  have kl : k ≤ g := hk ▸ Nat.gcd_le_right _ g0
  have tL := tdiv_bd (a := b) g0 (by omega) (by omega)
  have tR := tdiv_bd (a := d) g0 (by omega) (by omega)
  have tE := tdiv_bd (a := d) k0 (by omega) (by omega)
  rw [hl] at tL
  rw [hr] at tR
  rw [he] at tE
  have ft : fits128 T := hT ▸ plus_fits (by omega) (by omega) tR.1 tR.2 (by omega) (by omega) tL.1 tL.2
  have fu : fits128 (l * e) := prod_fits tL.1 tL.2 tE.1 tE.2
  have v2 := fun w => divided_any (l * e) 1 w fu (by omega) (by omega)
  simp only [Nat.div_one] at v2
  have ml : T.natAbs % g < g := Nat.mod_lt _ g0
  have key := sum_path (a := a) (b := b) (c := c) (d := d) (g := g) (l := l) (r := r) (k := k) (e := e) (T := T) (fun w => (size_any b w (by omega) (by omega)).mono fun _ _ ⟨h1, h2⟩ => ⟨h1, Gr.of_eq h2⟩) (fun w => (size_any d w (by omega) (by omega)).mono fun _ _ ⟨h1, h2⟩ => ⟨h1, Gr.of_eq h2⟩)
    (fun w => divisor_z b.natAbs d.natAbs _ _ _ w rfl rfl (by rw [hg]; rfl) (by omega) (by omega)) (conv_i64 (by omega) (by omega)) (by omega) (conv_quo hl (by omega) (by omega)) (conv_quo hr (by omega) (by omega))
    (fun w => product_any a r w (by omega) (by omega) (by omega) (by omega)) (fun w => product_any c l w (by omega) (by omega) (by omega) (by omega)) (fun w => hT ▸ plus_any (a * r) (c * l) w)
    (fun w => remainder_any T g w ft g0 (by omega)) (fun w => divisor_z (T.natAbs % g) g _ _ _ w rfl rfl (by rw [hk]) (by omega) (by omega)) (conv_i64 (by omega) (by omega)) (by omega) (conv_quo he (by omega) (by omega))
    (fun w => product_any l e w (by omega) (by omega) (by omega) (by omega)) v2 _ (fun w => divided_any T k w ft k0 (by omega)) (fun w => result_any _ _ _ w)
  have u1 : smN a b c d = selI (fitB (T.natAbs / k) && fitB (l * e).natAbs) (sgV (T.natAbs / k) (decide (T < 0))) := by unfold smN smF; rw [eT, eK, eU]
  have u2 : smD a b c d = selI (fitB (T.natAbs / k) && fitB (l * e).natAbs) (sgV (l * e).natAbs (decide (l * e < 0))) := by unfold smD smF; rw [eT, eK, eU]
  have u3 : smF a b c d = (fitB (T.natAbs / k) && fitB (l * e).natAbs) := by unfold smF; rw [eT, eK, eU]
  rw [u1, u2, u3]
  exact key
end Go.Proofs.YtpngjeloiifgnaaGreat

namespace Go.Proofs.YtpngjeloiifgnaaGreat
open Go.RowKit
abbrev bigV (s : Bool) (hi lo : Int) : Value := .agg #[.bool s, .int .u64 hi, .int .u64 lo]
theorem wrapv {x y : Int} (h : x = y) (h0 : 0 ≤ y) (h1 : y < 18446744073709551616) : Value.int .u64 (IntKind.u64.wrap x) = .int .u64 y := by rw [h, wrap_in h0 h1]

/-- The whole number A, of either sign, in two parts. -/
abbrev bigN (s : Bool) (A : Nat) : Value := bigV s ((A / 18446744073709551616 : Nat) : Int) ((A % 18446744073709551616 : Nat) : Int)
end Go.Proofs.YtpngjeloiifgnaaGreat

namespace Go.Proofs.YtpngjeloiifgnaaGreat
open Go.RowKit
theorem okB_neg {c d : Int} (hc : c ≤ 9223372036854775807) (h : okB c d = true) : okB (-c) d = true := by
  unfold okB at *
  simp only [decide_eq_true_eq] at *
  exact ⟨h.1, by omega, by rw [Int.natAbs_neg]; exact h.2.2⟩

theorem Both_ok {a b c d : Int} (ha : I64 a) (hb : I64 b) (hc : I64 c) (hd : I64 d) (h1 : okB a b = true) (h2 : okB c d = true) : Pure Tryz.prog 91 #[ratioV a b, ratioV c d] (.int .i64 0) :=
  fun w => okBoth_zero h1 h2 ▸ checkBoth_any a b c d w ha hb hc hd
set_option maxRecDepth 100000
theorem add_any {a b c d : Int} (ha : I64 a) (hb : I64 b) (hc : I64 c) (hd : I64 d) (h1 : okB a b = true) (h2 : okB c d = true) :
    Pure Tryz.prog 47 #[ratioV a b, ratioV c d] (.tuple #[ratioV (smN a b c d) (smD a b c d), .int .i64 (selE (smF a b c d))]) :=
  pure_run (args := [ratioV a b, ratioV c d]) 100 [.r (.int .i64 0), .k, .r (.tuple #[ratioV (smN a b c d) (smD a b c d), .int .i64 (selE (smF a b c d))])]
    (And.intro rfl (And.intro (Both_ok ha hb hc hd h1 h2) (And.intro (sum_any a b c d ha hb hc hd h1 h2) True.intro))) (by kernel_rfl)
theorem sub_any {a b c d : Int} (ha : I64 a) (hb : I64 b) (hc : I64 c) (hd : I64 d) (h1 : okB a b = true) (h2 : okB c d = true) :
    Pure Tryz.prog 46 #[ratioV a b, ratioV c d] (.tuple #[ratioV (smN a b (-c) d) (smD a b (-c) d), .int .i64 (selE (smF a b (-c) d))]) := by
  have c1 := okB_num h2
  have c2 := hc
  unfold I64 at c2
  exact pure_run (args := [ratioV a b, ratioV c d]) 100 [.r (.int .i64 0), .k, .r (.int .i64 (-c)), .r (.tuple #[ratioV (smN a b (-c) d) (smD a b (-c) d), .int .i64 (selE (smF a b (-c) d))])]
    (And.intro rfl (And.intro (Both_ok ha hb hc hd h1 h2) (And.intro ((by rw [wrap_i64_in (by omega) (by omega), Int.zero_sub] : Value.int .i64 (IntKind.i64.wrap (0 - c)) = .int .i64 (-c))) (And.intro (sum_any a b (-c) d ha hb (by unfold I64; omega) hd h1 (okB_neg c2.2 h2)) True.intro)))) (by kernel_rfl)
theorem cmp_any {a b c d : Int} (ha : I64 a) (hb : I64 b) (hc : I64 c) (hd : I64 d) (h1 : okB a b = true) (h2 : okB c d = true) :
    Pure Tryz.prog 49 #[ratioV a b, ratioV c d] (.tuple #[.int .i64 (a * d - c * b).sign, .int .i64 0]) := by
  have b1 := okB_den h1
  have d1 := okB_den h2
  have a1 := okB_num h1
  have c1 := okB_num h2
  have hB := Both_ok ha hb hc hd h1 h2
  unfold I64 at ha hb hc hd
  have e : a * d + -(c * b) = a * d - c * b := rfl
  have f : fits128 (a * d - c * b) := by
    have := plus_fits (a := a) (b := d) (c := -c) (d := b) (by omega) (by omega) (by omega) (by omega) (by omega) (by omega) (by omega) (by omega)
    rw [Int.neg_mul] at this
    exact this
  exact pure_run (args := [ratioV a b, ratioV c d]) 100 [.r (.int .i64 0), .k, .r (wideV (a * d)), .r (wideV (c * b)), .r (wideV (-(c * b))), .r (wideV (a * d - c * b)), .r (.int .i64 (a * d - c * b).sign)]
    (And.intro rfl (And.intro hB (And.intro ((fun w => product_any a d w (by omega) (by omega) (by omega) (by omega) : Pure _ _ _ _)) (And.intro ((fun w => product_any c b w (by omega) (by omega) (by omega) (by omega) : Pure _ _ _ _)) (And.intro ((fun w => negated_any (c * b) w : Pure _ _ _ _)) (And.intro ((fun w => e ▸ plus_any (a * d) (-(c * b)) w : Pure _ _ _ _)) (And.intro ((fun w => sign_any _ w f : Pure _ _ _ _)) True.intro))))))) (by kernel_rfl)
end Go.Proofs.YtpngjeloiifgnaaGreat

namespace Go.Proofs.YtpngjeloiifgnaaGreat
open Go.RowKit
set_option maxRecDepth 100000 in
theorem rprod_path {a b ah al bh bl low p1 lh m p2 mr n p3 mh s1 nh hi nr nr2 lr lo : Int} (nz : ¬ (4294967296 : Int) = 0) (q1 : Value.int .u64 (IntKind.u64.wrap (Int.tdiv a 4294967296)) = .int .u64 ah) (q2 : Value.int .u64 (Int.tmod a 4294967296) = .int .u64 al) (q3 : Value.int .u64 (IntKind.u64.wrap (Int.tdiv b 4294967296)) = .int .u64 bh) (q4 : Value.int .u64 (Int.tmod b 4294967296) = .int .u64 bl) (x1 : Value.int .u64 (IntKind.u64.wrap (al * bl)) = .int .u64 low) (x2 : Value.int .u64 (IntKind.u64.wrap (ah * bl)) = .int .u64 p1) (q5 : Value.int .u64 (IntKind.u64.wrap (Int.tdiv low 4294967296)) = .int .u64 lh) (x3 : Value.int .u64 (IntKind.u64.wrap (p1 + lh)) = .int .u64 m) (x4 : Value.int .u64 (IntKind.u64.wrap (al * bh)) = .int .u64 p2) (q6 : Value.int .u64 (Int.tmod m 4294967296) = .int .u64 mr) (x5 : Value.int .u64 (IntKind.u64.wrap (p2 + mr)) = .int .u64 n) (x6 : Value.int .u64 (IntKind.u64.wrap (ah * bh)) = .int .u64 p3) (q7 : Value.int .u64 (IntKind.u64.wrap (Int.tdiv m 4294967296)) = .int .u64 mh) (x7 : Value.int .u64 (IntKind.u64.wrap (p3 + mh)) = .int .u64 s1) (q8 : Value.int .u64 (IntKind.u64.wrap (Int.tdiv n 4294967296)) = .int .u64 nh) (x8 : Value.int .u64 (IntKind.u64.wrap (s1 + nh)) = .int .u64 hi) (q9 : Value.int .u64 (Int.tmod n 4294967296) = .int .u64 nr) (x9 : Value.int .u64 (IntKind.u64.wrap (nr * 4294967296)) = .int .u64 nr2) (q10 : Value.int .u64 (Int.tmod low 4294967296) = .int .u64 lr) (x10 : Value.int .u64 (IntKind.u64.wrap (nr2 + lr)) = .int .u64 lo) :
    Pure Tryz.prog 112 #[.int .u64 a, .int .u64 b] (bigV false hi lo) :=
  pure_run (args := [.int .u64 a, .int .u64 b]) 200 [.r (.int .u64 ah), .r (.int .u64 al), .r (.int .u64 bh), .r (.int .u64 bl), .r (.int .u64 low), .r (.int .u64 p1), .r (.int .u64 lh), .r (.int .u64 m), .r (.int .u64 p2), .r (.int .u64 mr), .r (.int .u64 n), .r (.int .u64 p3), .r (.int .u64 mh), .r (.int .u64 s1), .r (.int .u64 nh), .r (.int .u64 hi), .r (.int .u64 nr), .r (.int .u64 nr2), .r (.int .u64 lr), .r (.int .u64 lo)]
    (And.intro rfl (And.intro nz (And.intro q1 (And.intro nz (And.intro q2 (And.intro nz (And.intro q3 (And.intro nz (And.intro q4 (And.intro x1 (And.intro x2 (And.intro nz (And.intro q5 (And.intro x3 (And.intro x4 (And.intro nz (And.intro q6 (And.intro x5 (And.intro x6 (And.intro nz (And.intro q7 (And.intro x7 (And.intro nz (And.intro q8 (And.intro x8 (And.intro nz (And.intro q9 (And.intro x9 (And.intro nz (And.intro q10 (And.intro x10 True.intro))))))))))))))))))))))))))))))) (by kernel_rfl)

set_option maxRecDepth 100000 in
theorem rProd_ttxx {a b za zb hi lo : Int} (c1 : Pure Tryz.prog 43 #[.int .i64 a] (.int .u64 za)) (c2 : Pure Tryz.prog 43 #[.int .i64 b] (.int .u64 zb)) (c3 : Pure Tryz.prog 112 #[.int .u64 za, .int .u64 zb] (bigV false hi lo)) (t1 : decide (a < 0) = true) (t2 : decide (b < 0) = true) :
    Pure Tryz.prog 68 #[.int .i64 a, .int .i64 b] (bigV false hi lo) :=
  pure_run (args := [.int .i64 a, .int .i64 b]) 200 [.r (.int .u64 za), .r (.int .u64 zb), .r (bigV false hi lo), .t true, .t true, .k]
    (And.intro rfl (And.intro c1 (And.intro c2 (And.intro c3 (And.intro t1 (And.intro t2 True.intro)))))) (by kernel_rfl)

set_option maxRecDepth 100000 in
theorem rProd_tftf {a b za zb hi lo : Int} (c1 : Pure Tryz.prog 43 #[.int .i64 a] (.int .u64 za)) (c2 : Pure Tryz.prog 43 #[.int .i64 b] (.int .u64 zb)) (c3 : Pure Tryz.prog 112 #[.int .u64 za, .int .u64 zb] (bigV false hi lo)) (t1 : decide (a < 0) = true) (t2 : decide (b < 0) = false) (t3 : (a != 0) = true) (t4 : (b != 0) = false) :
    Pure Tryz.prog 68 #[.int .i64 a, .int .i64 b] (bigV false hi lo) :=
  pure_run (args := [.int .i64 a, .int .i64 b]) 200 [.r (.int .u64 za), .r (.int .u64 zb), .r (bigV false hi lo), .t true, .t false, .k, .t true, .t false]
    (And.intro rfl (And.intro c1 (And.intro c2 (And.intro c3 (And.intro t1 (And.intro t2 (And.intro t3 (And.intro t4 True.intro)))))))) (by kernel_rfl)

set_option maxRecDepth 100000 in
theorem rProd_tftt {a b za zb hi lo : Int} (c1 : Pure Tryz.prog 43 #[.int .i64 a] (.int .u64 za)) (c2 : Pure Tryz.prog 43 #[.int .i64 b] (.int .u64 zb)) (c3 : Pure Tryz.prog 112 #[.int .u64 za, .int .u64 zb] (bigV false hi lo)) (t1 : decide (a < 0) = true) (t2 : decide (b < 0) = false) (t3 : (a != 0) = true) (t4 : (b != 0) = true) :
    Pure Tryz.prog 68 #[.int .i64 a, .int .i64 b] (bigV true hi lo) :=
  pure_run (args := [.int .i64 a, .int .i64 b]) 200 [.r (.int .u64 za), .r (.int .u64 zb), .r (bigV false hi lo), .t true, .t false, .k, .t true, .t true]
    (And.intro rfl (And.intro c1 (And.intro c2 (And.intro c3 (And.intro t1 (And.intro t2 (And.intro t3 (And.intro t4 True.intro)))))))) (by kernel_rfl)

set_option maxRecDepth 100000 in
theorem rProd_ftfx {a b za zb hi lo : Int} (c1 : Pure Tryz.prog 43 #[.int .i64 a] (.int .u64 za)) (c2 : Pure Tryz.prog 43 #[.int .i64 b] (.int .u64 zb)) (c3 : Pure Tryz.prog 112 #[.int .u64 za, .int .u64 zb] (bigV false hi lo)) (t1 : decide (a < 0) = false) (t2 : decide (b < 0) = true) (t3 : (a != 0) = false) :
    Pure Tryz.prog 68 #[.int .i64 a, .int .i64 b] (bigV false hi lo) :=
  pure_run (args := [.int .i64 a, .int .i64 b]) 200 [.r (.int .u64 za), .r (.int .u64 zb), .r (bigV false hi lo), .t false, .t true, .k, .t false]
    (And.intro rfl (And.intro c1 (And.intro c2 (And.intro c3 (And.intro t1 (And.intro t2 (And.intro t3 True.intro))))))) (by kernel_rfl)

set_option maxRecDepth 100000 in
theorem rProd_fttt {a b za zb hi lo : Int} (c1 : Pure Tryz.prog 43 #[.int .i64 a] (.int .u64 za)) (c2 : Pure Tryz.prog 43 #[.int .i64 b] (.int .u64 zb)) (c3 : Pure Tryz.prog 112 #[.int .u64 za, .int .u64 zb] (bigV false hi lo)) (t1 : decide (a < 0) = false) (t2 : decide (b < 0) = true) (t3 : (a != 0) = true) (t4 : (b != 0) = true) :
    Pure Tryz.prog 68 #[.int .i64 a, .int .i64 b] (bigV true hi lo) :=
  pure_run (args := [.int .i64 a, .int .i64 b]) 200 [.r (.int .u64 za), .r (.int .u64 zb), .r (bigV false hi lo), .t false, .t true, .k, .t true, .t true]
    (And.intro rfl (And.intro c1 (And.intro c2 (And.intro c3 (And.intro t1 (And.intro t2 (And.intro t3 (And.intro t4 True.intro)))))))) (by kernel_rfl)

set_option maxRecDepth 100000 in
theorem rProd_ffxx {a b za zb hi lo : Int} (c1 : Pure Tryz.prog 43 #[.int .i64 a] (.int .u64 za)) (c2 : Pure Tryz.prog 43 #[.int .i64 b] (.int .u64 zb)) (c3 : Pure Tryz.prog 112 #[.int .u64 za, .int .u64 zb] (bigV false hi lo)) (t1 : decide (a < 0) = false) (t2 : decide (b < 0) = false) :
    Pure Tryz.prog 68 #[.int .i64 a, .int .i64 b] (bigV false hi lo) :=
  pure_run (args := [.int .i64 a, .int .i64 b]) 200 [.r (.int .u64 za), .r (.int .u64 zb), .r (bigV false hi lo), .t false, .t false, .k]
    (And.intro rfl (And.intro c1 (And.intro c2 (And.intro c3 (And.intro t1 (And.intro t2 True.intro)))))) (by kernel_rfl)

set_option maxRecDepth 100000 in
theorem rSign_0 {hi lo : Int} {s : Bool} (t1 : (hi == 0) = true) (t2 : (lo == 0) = true) :
    Pure Tryz.prog 69 #[bigV s hi lo] (.int .i64 0) :=
  pure_run (args := [bigV s hi lo]) 200 [.t true, .t true]
    (And.intro rfl (And.intro t1 (And.intro t2 True.intro))) (by kernel_rfl)

set_option maxRecDepth 100000 in
theorem rSign_ht {hi lo : Int} (t1 : (hi == 0) = false) :
    Pure Tryz.prog 69 #[bigV true hi lo] (.int .i64 (-1)) :=
  pure_run (args := [bigV true hi lo]) 200 [.t false]
    (And.intro rfl (And.intro t1 True.intro)) (by kernel_rfl)

set_option maxRecDepth 100000 in
theorem rSign_lt {hi lo : Int} (t1 : (hi == 0) = true) (t2 : (lo == 0) = false) :
    Pure Tryz.prog 69 #[bigV true hi lo] (.int .i64 (-1)) :=
  pure_run (args := [bigV true hi lo]) 200 [.t true, .t false]
    (And.intro rfl (And.intro t1 (And.intro t2 True.intro))) (by kernel_rfl)

set_option maxRecDepth 100000 in
theorem rSign_hf {hi lo : Int} (t1 : (hi == 0) = false) :
    Pure Tryz.prog 69 #[bigV false hi lo] (.int .i64 1) :=
  pure_run (args := [bigV false hi lo]) 200 [.t false]
    (And.intro rfl (And.intro t1 True.intro)) (by kernel_rfl)

set_option maxRecDepth 100000 in
theorem rSign_lf {hi lo : Int} (t1 : (hi == 0) = true) (t2 : (lo == 0) = false) :
    Pure Tryz.prog 69 #[bigV false hi lo] (.int .i64 1) :=
  pure_run (args := [bigV false hi lo]) 200 [.t true, .t false]
    (And.intro rfl (And.intro t1 (And.intro t2 True.intro))) (by kernel_rfl)

set_option maxRecDepth 100000 in
theorem rLess_hl {a b c d : Int} {s t : Bool} (t1 : (a != c) = true) (t2 : decide (a < c) = true) :
    Pure Tryz.prog 70 #[bigV s a b, bigV t c d] (.int .i64 (-1)) :=
  pure_run (args := [bigV s a b, bigV t c d]) 200 [.t true, .t true]
    (And.intro rfl (And.intro t1 (And.intro t2 True.intro))) (by kernel_rfl)

set_option maxRecDepth 100000 in
theorem rLess_hg {a b c d : Int} {s t : Bool} (t1 : (a != c) = true) (t2 : decide (a < c) = false) :
    Pure Tryz.prog 70 #[bigV s a b, bigV t c d] (.int .i64 1) :=
  pure_run (args := [bigV s a b, bigV t c d]) 200 [.t true, .t false]
    (And.intro rfl (And.intro t1 (And.intro t2 True.intro))) (by kernel_rfl)

set_option maxRecDepth 100000 in
theorem rLess_ll {a b c d : Int} {s t : Bool} (t1 : (a != c) = false) (t3 : (b != d) = true) (t4 : decide (b < d) = true) :
    Pure Tryz.prog 70 #[bigV s a b, bigV t c d] (.int .i64 (-1)) :=
  pure_run (args := [bigV s a b, bigV t c d]) 200 [.t false, .t true, .t true]
    (And.intro rfl (And.intro t1 (And.intro t3 (And.intro t4 True.intro)))) (by kernel_rfl)

set_option maxRecDepth 100000 in
theorem rLess_lg {a b c d : Int} {s t : Bool} (t1 : (a != c) = false) (t3 : (b != d) = true) (t4 : decide (b < d) = false) :
    Pure Tryz.prog 70 #[bigV s a b, bigV t c d] (.int .i64 1) :=
  pure_run (args := [bigV s a b, bigV t c d]) 200 [.t false, .t true, .t false]
    (And.intro rfl (And.intro t1 (And.intro t3 (And.intro t4 True.intro)))) (by kernel_rfl)

set_option maxRecDepth 100000 in
theorem rLess_eq {a b c d : Int} {s t : Bool} (t1 : (a != c) = false) (t3 : (b != d) = false) :
    Pure Tryz.prog 70 #[bigV s a b, bigV t c d] (.int .i64 0) :=
  pure_run (args := [bigV s a b, bigV t c d]) 200 [.t false, .t false]
    (And.intro rfl (And.intro t1 (And.intro t3 True.intro))) (by kernel_rfl)

end Go.Proofs.YtpngjeloiifgnaaGreat

namespace Go.Proofs.YtpngjeloiifgnaaGreat
open Go.RowKit
theorem tdivN (x y : Nat) : Int.tdiv (x : Int) (y : Int) = ((x / y : Nat) : Int) := by rw [Int.tdiv_eq_ediv_of_nonneg (Int.natCast_nonneg x)]; simp
theorem tmodN (x y : Nat) : Int.tmod (x : Int) (y : Int) = ((x % y : Nat) : Int) := by rw [Int.tmod_eq_emod_of_nonneg (Int.natCast_nonneg x)]; simp
theorem quoH (x : Nat) (h : x < 18446744073709551616) : Value.int .u64 (IntKind.u64.wrap (Int.tdiv (x : Int) 4294967296)) = .int .u64 ((x / 4294967296 : Nat) : Int) := by
  rw [show (4294967296 : Int) = ((4294967296 : Nat) : Int) from rfl, tdivN, wrap_in (by omega) (by omega)]
theorem remH (x : Nat) : Value.int .u64 (Int.tmod (x : Int) 4294967296) = .int .u64 ((x % 4294967296 : Nat) : Int) := by
  rw [show (4294967296 : Int) = ((4294967296 : Nat) : Int) from rfl, tmodN]
theorem mulH {x y : Nat} (h : x * y < 18446744073709551616) : Value.int .u64 (IntKind.u64.wrap ((x : Int) * (y : Int))) = .int .u64 ((x * y : Nat) : Int) := wrapv (by simp) (Int.natCast_nonneg _) (by omega)
theorem addH {x y : Nat} (h : x + y < 18446744073709551616) : Value.int .u64 (IntKind.u64.wrap ((x : Int) + (y : Int))) = .int .u64 ((x + y : Nat) : Int) := wrapv (by simp) (by omega) (by omega)
theorem halves (ah al bh bl : Nat) : (ah * 4294967296 + al) * (bh * 4294967296 + bl) = ah * bh * 18446744073709551616 + (ah * bl + al * bh) * 4294967296 + al * bl := by
  have e1 : ah * 4294967296 * (bh * 4294967296) = ah * bh * 18446744073709551616 := Nat.mul_mul_mul_comm ah 4294967296 bh 4294967296
  have e2 : ah * 4294967296 * bl = ah * bl * 4294967296 := Nat.mul_right_comm ah 4294967296 bl
  have e3 : al * (bh * 4294967296) = al * bh * 4294967296 := (Nat.mul_assoc al bh 4294967296).symm
  rw [Nat.add_mul, Nat.mul_add, Nat.mul_add, e1, e2, e3, Nat.add_mul]
  omega
theorem rprod_any (a b : Nat) (ha : a < 18446744073709551616) (hb : b < 18446744073709551616) : Pure Tryz.prog 112 #[.int .u64 a, .int .u64 b] (bigN false (a * b)) := by
  obtain ⟨ah, hah⟩ : ∃ x, x = a / 4294967296 := ⟨_, rfl⟩
  obtain ⟨al, hal⟩ : ∃ x, x = a % 4294967296 := ⟨_, rfl⟩
  obtain ⟨bh, hbh⟩ : ∃ x, x = b / 4294967296 := ⟨_, rfl⟩
  obtain ⟨bl, hbl⟩ : ∃ x, x = b % 4294967296 := ⟨_, rfl⟩
  have e1 : a = ah * 4294967296 + al := by omega
  have e2 : b = bh * 4294967296 + bl := by omega
  have key := halves ah al bh bl
  rw [← e1, ← e2] at key
  have m1 : ah * bl ≤ 4294967295 * 4294967295 := Nat.mul_le_mul (by omega) (by omega)
  have m2 : al * bh ≤ 4294967295 * 4294967295 := Nat.mul_le_mul (by omega) (by omega)
  have m3 : ah * bh ≤ 4294967295 * 4294967295 := Nat.mul_le_mul (by omega) (by omega)
  have m4 : al * bl ≤ 4294967295 * 4294967295 := Nat.mul_le_mul (by omega) (by omega)
  have hab : a * b < 340282366920938463463374607431768211456 := by
    have : a * b ≤ 18446744073709551615 * 18446744073709551615 := Nat.mul_le_mul (by omega) (by omega)
    omega
  have x1 := mulH (x := al) (y := bl) (by omega)
  have x2 := mulH (x := ah) (y := bl) (by omega)
  have x4 := mulH (x := al) (y := bh) (by omega)
  have x6 := mulH (x := ah) (y := bh) (by omega)
  have q1 := quoH a ha
  have q2 := remH a
  have q3 := quoH b hb
  have q4 := remH b
  rw [← hah] at q1
  rw [← hal] at q2
  rw [← hbh] at q3
  rw [← hbl] at q4
  generalize ah * bl = p1 at *
  generalize al * bh = p2 at *
  generalize ah * bh = p3 at *
  generalize al * bl = low at *
  generalize a * b = ab at *
  obtain ⟨m, hm⟩ : ∃ m, m = p1 + low / 4294967296 := ⟨_, rfl⟩
  obtain ⟨n, hn⟩ : ∃ n, n = p2 + m % 4294967296 := ⟨_, rfl⟩
  have r := rprod_path (nz := by decide) q1 q2 q3 q4 x1 x2 (quoH low (by omega)) (addH (by omega)) x4 (remH _) (addH (by omega)) x6 (quoH _ (by omega)) (addH (by omega)) (quoH _ (by omega)) (addH (by omega))
    (remH _) (wrapv (y := ((n % 4294967296 * 4294967296 : Nat) : Int)) (by rw [hn, hm]; simp) (by omega) (by omega)) (remH _) (addH (by omega))
  rw [← hm, ← hn] at r
  have f1 : p3 + m / 4294967296 + n / 4294967296 = ab / 18446744073709551616 := by omega
  have f2 : n % 4294967296 * 4294967296 + low % 4294967296 = ab % 18446744073709551616 := by omega
  rw [f1, f2] at r
  exact r

/-- A whole number. -/
abbrev bigI (x : Int) : Value := bigN (decide (x < 0)) x.natAbs
theorem Rsize_any (n : Int) (h : I64 n) : Pure Tryz.prog 43 #[.int .i64 n] (.int .u64 (n.natAbs : Int)) :=
  fun w => (size44_any n w h.1 h.2).mono fun _ _ ⟨h1, h2⟩ => ⟨h1, Gr.of_eq h2⟩
theorem decide_t {p : Prop} [Decidable p] (h : p) : decide p = true := by simp [h]
theorem decide_f {p : Prop} [Decidable p] (h : ¬ p) : decide p = false := by simp [h]
theorem RProduct_any (a b : Int) (ha : I64 a) (hb : I64 b) : Pure Tryz.prog 68 #[.int .i64 a, .int .i64 b] (bigI (a * b)) := by
  have ca := Rsize_any a ha
  have cb := Rsize_any b hb
  unfold I64 at ha hb
  have cp := rprod_any a.natAbs b.natAbs (by omega) (by omega)
  unfold bigI
  rw [Int.natAbs_mul]
  by_cases sa : a < 0 <;> by_cases sb : b < 0
  · rw [decide_f (show ¬ a * b < 0 by have := Int.mul_pos_of_neg_of_neg sa sb; omega)]
    exact rProd_ttxx ca cb cp (decide_t sa) (decide_t sb)
  · by_cases nb : b = 0
    · subst nb
      rw [decide_f (by simp)]
      exact rProd_tftf ca cb cp (decide_t sa) (decide_f sb) (by simp; omega) (by simp)
    · rw [decide_t (Int.mul_neg_of_neg_of_pos sa (by omega))]
      exact rProd_tftt ca cb cp (decide_t sa) (decide_f sb) (by simp; omega) (by simpa using nb)
  · by_cases na : a = 0
    · subst na
      rw [decide_f (by simp)]
      exact rProd_ftfx ca cb cp (decide_f sa) (decide_t sb) (by simp)
    · rw [decide_t (Int.mul_neg_of_pos_of_neg (by omega) sb)]
      exact rProd_fttt ca cb cp (decide_f sa) (decide_t sb) (by simpa using na) (by simp; omega)
  · rw [decide_f (show ¬ a * b < 0 by have := Int.mul_nonneg (show 0 ≤ a by omega) (show 0 ≤ b by omega); omega)]
    exact rProd_ffxx ca cb cp (decide_f sa) (decide_f sb)

theorem RSign_any (x : Int) : Pure Tryz.prog 69 #[bigI x] (.int .i64 x.sign) := by
  unfold bigI
  obtain ⟨A, hA⟩ : ∃ A, A = x.natAbs := ⟨_, rfl⟩
  rw [← hA]
  by_cases h0 : x = 0
  · subst h0
    subst hA
    exact rSign_0 (by simp) (by simp)
  · by_cases hs : x < 0
    · rw [decide_t hs, Int.sign_eq_neg_one_of_neg hs]
      by_cases hh : A / 18446744073709551616 = 0
      · exact rSign_lt (by simp [hh]) (by simp; omega)
      · exact rSign_ht (by simp; omega)
    · rw [decide_f hs, Int.sign_eq_one_of_pos (by omega)]
      by_cases hh : A / 18446744073709551616 = 0
      · exact rSign_lf (by simp [hh]) (by simp; omega)
      · exact rSign_hf (by simp; omega)

/-- -1, 0 or 1. -/
def cmpN (A B : Nat) : Int := if A < B then -1 else if A = B then 0 else 1
theorem RLess_any (s t : Bool) (A B : Nat) : Pure Tryz.prog 70 #[bigN s A, bigN t B] (.int .i64 (cmpN A B)) := by
  by_cases hh : A / 18446744073709551616 = B / 18446744073709551616
  · by_cases hl : A % 18446744073709551616 = B % 18446744073709551616
    · have e : A = B := by omega
      subst e
      rw [show cmpN A A = 0 by simp [cmpN]]
      exact rLess_eq (by simp) (by simp)
    · by_cases hlt : A % 18446744073709551616 < B % 18446744073709551616
      · rw [show cmpN A B = -1 by unfold cmpN; rw [if_pos (by omega)]]
        exact rLess_ll (by simp [hh]) (by simp; omega) (by simp; omega)
      · rw [show cmpN A B = 1 by unfold cmpN; rw [if_neg (by omega), if_neg (by omega)]]
        exact rLess_lg (by simp [hh]) (by simp; omega) (by simp; omega)
  · by_cases hlt : A / 18446744073709551616 < B / 18446744073709551616
    · rw [show cmpN A B = -1 by unfold cmpN; rw [if_pos (by omega)]]
      exact rLess_hl (by simp; omega) (by simp; omega)
    · rw [show cmpN A B = 1 by unfold cmpN; rw [if_neg (by omega), if_neg (by omega)]]
      exact rLess_hg (by simp; omega) (by simp; omega)

end Go.Proofs.YtpngjeloiifgnaaGreat

namespace Go.Proofs.YtpngjeloiifgnaaGreat
open Go.RowKit
set_option maxRecDepth 100000 in
theorem rCompare_l {a b c d x y : Int} (c1 : Pure Tryz.prog 68 #[.int .i64 a, .int .i64 d] (bigI (x))) (c2 : Pure Tryz.prog 68 #[.int .i64 c, .int .i64 b] (bigI (y))) (s1 : Pure Tryz.prog 69 #[bigI (x)] (.int .i64 x.sign)) (s2 : Pure Tryz.prog 69 #[bigI (y)] (.int .i64 y.sign)) (t1 : (x.sign != y.sign) = true) (t2 : decide (x.sign < y.sign) = true) :
    Pure Tryz.prog 29 #[ratioV a b, ratioV c d] (.int .i64 (-1)) :=
  pure_run (args := [ratioV a b, ratioV c d]) 200 [.r (bigI (x)), .r (bigI (y)), .r (.int .i64 x.sign), .r (.int .i64 y.sign), .t true, .r (.int .i64 x.sign), .r (.int .i64 y.sign), .t true]
    (And.intro rfl (And.intro c1 (And.intro c2 (And.intro s1 (And.intro s2 (And.intro t1 (And.intro s1 (And.intro s2 (And.intro t2 True.intro))))))))) (by kernel_rfl)

set_option maxRecDepth 100000 in
theorem rCompare_g {a b c d x y : Int} (c1 : Pure Tryz.prog 68 #[.int .i64 a, .int .i64 d] (bigI (x))) (c2 : Pure Tryz.prog 68 #[.int .i64 c, .int .i64 b] (bigI (y))) (s1 : Pure Tryz.prog 69 #[bigI (x)] (.int .i64 x.sign)) (s2 : Pure Tryz.prog 69 #[bigI (y)] (.int .i64 y.sign)) (t1 : (x.sign != y.sign) = true) (t2 : decide (x.sign < y.sign) = false) :
    Pure Tryz.prog 29 #[ratioV a b, ratioV c d] (.int .i64 1) :=
  pure_run (args := [ratioV a b, ratioV c d]) 200 [.r (bigI (x)), .r (bigI (y)), .r (.int .i64 x.sign), .r (.int .i64 y.sign), .t true, .r (.int .i64 x.sign), .r (.int .i64 y.sign), .t false]
    (And.intro rfl (And.intro c1 (And.intro c2 (And.intro s1 (And.intro s2 (And.intro t1 (And.intro s1 (And.intro s2 (And.intro t2 True.intro))))))))) (by kernel_rfl)

set_option maxRecDepth 100000 in
theorem rCompare_n {a b c d x y e : Int} (c1 : Pure Tryz.prog 68 #[.int .i64 a, .int .i64 d] (bigI (x))) (c2 : Pure Tryz.prog 68 #[.int .i64 c, .int .i64 b] (bigI (y))) (s1 : Pure Tryz.prog 69 #[bigI (x)] (.int .i64 x.sign)) (s2 : Pure Tryz.prog 69 #[bigI (y)] (.int .i64 y.sign)) (t1 : (x.sign != y.sign) = false) (t3 : decide (x.sign < 0) = true) (l1 : Pure Tryz.prog 70 #[bigI (y), bigI (x)] (.int .i64 e)) :
    Pure Tryz.prog 29 #[ratioV a b, ratioV c d] (.int .i64 e) :=
  pure_run (args := [ratioV a b, ratioV c d]) 200 [.r (bigI (x)), .r (bigI (y)), .r (.int .i64 x.sign), .r (.int .i64 y.sign), .t false, .r (.int .i64 x.sign), .t true, .r (.int .i64 e)]
    (And.intro rfl (And.intro c1 (And.intro c2 (And.intro s1 (And.intro s2 (And.intro t1 (And.intro s1 (And.intro t3 (And.intro l1 True.intro))))))))) (by kernel_rfl)

set_option maxRecDepth 100000 in
theorem rCompare_p {a b c d x y e : Int} (c1 : Pure Tryz.prog 68 #[.int .i64 a, .int .i64 d] (bigI (x))) (c2 : Pure Tryz.prog 68 #[.int .i64 c, .int .i64 b] (bigI (y))) (s1 : Pure Tryz.prog 69 #[bigI (x)] (.int .i64 x.sign)) (s2 : Pure Tryz.prog 69 #[bigI (y)] (.int .i64 y.sign)) (t1 : (x.sign != y.sign) = false) (t3 : decide (x.sign < 0) = false) (l1 : Pure Tryz.prog 70 #[bigI (x), bigI (y)] (.int .i64 e)) :
    Pure Tryz.prog 29 #[ratioV a b, ratioV c d] (.int .i64 e) :=
  pure_run (args := [ratioV a b, ratioV c d]) 200 [.r (bigI (x)), .r (bigI (y)), .r (.int .i64 x.sign), .r (.int .i64 y.sign), .t false, .r (.int .i64 x.sign), .t false, .r (.int .i64 e)]
    (And.intro rfl (And.intro c1 (And.intro c2 (And.intro s1 (And.intro s2 (And.intro t1 (And.intro s1 (And.intro t3 (And.intro l1 True.intro))))))))) (by kernel_rfl)

end Go.Proofs.YtpngjeloiifgnaaGreat
