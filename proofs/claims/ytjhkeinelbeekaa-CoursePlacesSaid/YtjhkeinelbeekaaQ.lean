/-
  sum of package ratio: what it returns for two valid fractions, in whatever world.
-/
import Derived.Test.YtjhkeinelbeekaaSxJ
import Derived.Test.YtjhkeinelbeekaaP
namespace Go.Proofs.Ytjhkeinelbeekaa
open Go.RowKit

theorem pure_run {P : Program} (n : Nat) {f : FuncId} {args : List Value} (ch : List Ch) {v : Value} {T : Prop} (ht : v = v ∧ T) (e : Good v (runS P n f args ch) = (v = v ∧ T)) : Pure P f args.toArray v := pure_of n ch (e ▸ ht)
abbrev ratioV (n d : Int) : Value := .agg #[.int .i64 n, .int .i64 d]
abbrev wideV (x : Int) : Value := .agg #[.int .u64 (wHi x), .int .u64 (wLo x)]
theorem conv_i64 {n : Int} (h0 : -9223372036854775808 ≤ n) (h1 : n ≤ 9223372036854775807) : Value.int .i64 (IntKind.i64.wrap n) = .int .i64 n := by rw [wrap_i64_in h0 h1]
theorem conv_quo {x y q : Int} (h : x.tdiv y = q) (h0 : -9223372036854775808 ≤ q) (h1 : q ≤ 9223372036854775807) : Value.int .i64 (IntKind.i64.wrap (x.tdiv y)) = .int .i64 q := by rw [h, wrap_i64_in h0 h1]

/-- What both denominators share; the numerator over what is left; what that shares with it; the denominator. -/
def smG (b d : Int) : Nat := Nat.gcd b.natAbs d.natAbs
def smT (a b c d : Int) : Int := a * d.tdiv (smG b d) + c * b.tdiv (smG b d)
def smK (a b c d : Int) : Nat := Nat.gcd ((smT a b c d).natAbs % smG b d) (smG b d)
def smU (a b c d : Int) : Int := b.tdiv (smG b d) * d.tdiv (smK a b c d)
def smF (a b c d : Int) : Bool := fitB ((smT a b c d).natAbs / smK a b c d) && fitB (smU a b c d).natAbs
def smN (a b c d : Int) : Int := selI (smF a b c d) (sgV ((smT a b c d).natAbs / smK a b c d) (decide (smT a b c d < 0)))
def smD (a b c d : Int) : Int := selI (smF a b c d) (sgV (smU a b c d).natAbs (decide (smU a b c d < 0)))

theorem plus_fits {a b c d : Int} (h0 : -9223372036854775807 ≤ a) (h1 : a ≤ 9223372036854775807) (h2 : -9223372036854775807 ≤ b) (h3 : b ≤ 9223372036854775807)
    (h4 : -9223372036854775807 ≤ c) (h5 : c ≤ 9223372036854775807) (h6 : -9223372036854775807 ≤ d) (h7 : d ≤ 9223372036854775807) : fits128 (a * b + c * d) := by
  have h : (a * b).natAbs ≤ 9223372036854775807 * 9223372036854775807 := by rw [Int.natAbs_mul]; exact Nat.mul_le_mul (by omega) (by omega)
  have g : (c * d).natAbs ≤ 9223372036854775807 * 9223372036854775807 := by rw [Int.natAbs_mul]; exact Nat.mul_le_mul (by omega) (by omega)
  unfold fits128
  generalize a * b = p at *
  generalize c * d = q at *
  omega

set_option maxRecDepth 100000 in
theorem sum_path {a b c d g l r k e T : Int} {zb zd m : Int} {N M : Int} {f2 : Bool} {X Y E : Int}
    (hs1 : Pure Try.prog 61 #[.int .i64 b] (.int .u64 zb)) (hs2 : Pure Try.prog 61 #[.int .i64 d] (.int .u64 zd))
    (hg : Pure Try.prog 60 #[.int .u64 zb, .int .u64 zd] (.int .u64 g))
    (cg : Value.int .i64 (IntKind.i64.wrap g) = .int .i64 g) (g0 : ¬ g = 0) (ql : Value.int .i64 (IntKind.i64.wrap (b.tdiv g)) = .int .i64 l) (qr : Value.int .i64 (IntKind.i64.wrap (d.tdiv g)) = .int .i64 r)
    (p1 : Pure Try.prog 55 #[.int .i64 a, .int .i64 r] (wideV (a * r))) (p2 : Pure Try.prog 55 #[.int .i64 c, .int .i64 l] (wideV (c * l)))
    (pl : Pure Try.prog 56 #[wideV (a * r), wideV (c * l)] (wideV T))
    (rm : Pure Try.prog 88 #[wideV T, .int .u64 g] (.int .u64 m)) (hk : Pure Try.prog 60 #[.int .u64 m, .int .u64 g] (.int .u64 k))
    (ck : Value.int .i64 (IntKind.i64.wrap k) = .int .i64 k) (k0 : ¬ k = 0) (qe : Value.int .i64 (IntKind.i64.wrap (d.tdiv k)) = .int .i64 e)
    (p3 : Pure Try.prog 55 #[.int .i64 l, .int .i64 e] (wideV (l * e)))
    (dv2 : Pure Try.prog 62 #[wideV (l * e), .int .u64 1] (.tuple #[.int .i64 M, .bool f2])) (f1 : Bool)
    (dv1 : Pure Try.prog 62 #[wideV T, .int .u64 k] (.tuple #[.int .i64 N, .bool f1]))
    (rs : Pure Try.prog 63 #[.int .i64 N, .int .i64 M, .bool (f1 && f2)] (.tuple #[ratioV X Y, .int .i64 E])) :
    Pure Try.prog 59 #[ratioV a b, ratioV c d] (.tuple #[ratioV X Y, .int .i64 E]) := by
  cases f1
  · exact pure_run (args := [ratioV a b, ratioV c d]) 200 [.r (.int .u64 zb), .r (.int .u64 zd), .r (.int .u64 g), .r (.int .i64 g), .r (.int .i64 l), .r (.int .i64 g), .r (.int .i64 r),
      .r (wideV (a * r)), .r (wideV (c * l)), .r (wideV T), .r (.int .u64 m), .r (.int .u64 k), .r (.tuple #[.int .i64 N, .bool false]), .r (.int .i64 k), .r (.int .i64 e), .r (wideV (l * e)), .r (.tuple #[.int .i64 M, .bool f2]), .r (.tuple #[ratioV X Y, .int .i64 E])]
      (And.intro rfl (And.intro hs1 (And.intro hs2 (And.intro hg (And.intro cg (And.intro g0 (And.intro ql (And.intro cg (And.intro g0 (And.intro qr (And.intro p1 (And.intro p2 (And.intro pl (And.intro rm (And.intro hk (And.intro dv1 (And.intro ck (And.intro k0 (And.intro qe (And.intro p3 (And.intro dv2 (And.intro rs True.intro)))))))))))))))))))))) (by kernel_rfl)
  · exact pure_run (args := [ratioV a b, ratioV c d]) 200 [.r (.int .u64 zb), .r (.int .u64 zd), .r (.int .u64 g), .r (.int .i64 g), .r (.int .i64 l), .r (.int .i64 g), .r (.int .i64 r),
      .r (wideV (a * r)), .r (wideV (c * l)), .r (wideV T), .r (.int .u64 m), .r (.int .u64 k), .r (.tuple #[.int .i64 N, .bool true]), .r (.int .i64 k), .r (.int .i64 e), .r (wideV (l * e)), .r (.tuple #[.int .i64 M, .bool f2]), .r (.tuple #[ratioV X Y, .int .i64 E])]
      (And.intro rfl (And.intro hs1 (And.intro hs2 (And.intro hg (And.intro cg (And.intro g0 (And.intro ql (And.intro cg (And.intro g0 (And.intro qr (And.intro p1 (And.intro p2 (And.intro pl (And.intro rm (And.intro hk (And.intro dv1 (And.intro ck (And.intro k0 (And.intro qe (And.intro p3 (And.intro dv2 (And.intro rs True.intro)))))))))))))))))))))) (by kernel_rfl)

theorem sum_any (a b c d : Int) (ha : I64 a) (hb : I64 b) (hc : I64 c) (hd : I64 d) (k1 : okB a b = true) (k2 : okB c d = true) :
    Pure Try.prog 59 #[ratioV a b, ratioV c d] (.tuple #[ratioV (smN a b c d) (smD a b c d), .int .i64 (selE (smF a b c d))]) := by
  have b1 := okB_den k1
  have d1 := okB_den k2
  have a1 := okB_num k1
  have c1 := okB_num k2
  unfold I64 at ha hb hc hd
  obtain ⟨g, hg⟩ : ∃ g : Nat, g = smG b d := ⟨_, rfl⟩
  obtain ⟨l, hl⟩ : ∃ l : Int, b.tdiv (g : Int) = l := ⟨_, rfl⟩
  obtain ⟨r, hr⟩ : ∃ r : Int, d.tdiv (g : Int) = r := ⟨_, rfl⟩
  obtain ⟨T, hT⟩ : ∃ T : Int, a * r + c * l = T := ⟨_, rfl⟩
  obtain ⟨k, hk⟩ : ∃ k : Nat, k = Nat.gcd (T.natAbs % g) g := ⟨_, rfl⟩
  obtain ⟨e, he⟩ : ∃ e : Int, d.tdiv (k : Int) = e := ⟨_, rfl⟩
  have eT : smT a b c d = T := by rw [← hT, ← hl, ← hr, hg]; rfl
  have eK : smK a b c d = k := by unfold smK; rw [eT, ← hg, ← hk]
  have eU : smU a b c d = l * e := by unfold smU; rw [← hg, eK, hl, he]
  have g0 : 0 < g := hg ▸ Nat.gcd_pos_of_pos_right _ (by omega)
  have gl : g ≤ d.natAbs := hg ▸ Nat.gcd_le_right _ (by omega)
  have k0 : 0 < k := hk ▸ Nat.gcd_pos_of_pos_right _ g0
  have kl : k ≤ g := hk ▸ Nat.gcd_le_right _ g0
  have tL := tdiv_bd (a := b) g0 (by omega) (by omega)
  have tR := tdiv_bd (a := d) g0 (by omega) (by omega)
  have tE := tdiv_bd (a := d) k0 (by omega) (by omega)
  rw [hl] at tL
  rw [hr] at tR
  rw [he] at tE
  have ft : fits128 T := hT ▸ plus_fits (by omega) (by omega) tR.1 tR.2 (by omega) (by omega) tL.1 tL.2
  have fu : fits128 (l * e) := prod_fits tL.1 tL.2 tE.1 tE.2
  have v2 := fun w => divided_any (l * e) 1 w fu (by omega) (by omega)
  simp only [Nat.div_one] at v2
  have ml : T.natAbs % g < g := Nat.mod_lt _ g0
  have key := sum_path (a := a) (b := b) (c := c) (d := d) (g := g) (l := l) (r := r) (k := k) (e := e) (T := T) (fun w => (size_any b w (by omega) (by omega)).mono fun _ _ ⟨h1, h2⟩ => ⟨h1, Gr.of_eq h2⟩) (fun w => (size_any d w (by omega) (by omega)).mono fun _ _ ⟨h1, h2⟩ => ⟨h1, Gr.of_eq h2⟩)
    (fun w => divisor_z b.natAbs d.natAbs _ _ _ w rfl rfl (by rw [hg]; rfl) (by omega) (by omega)) (conv_i64 (by omega) (by omega)) (by omega) (conv_quo hl (by omega) (by omega)) (conv_quo hr (by omega) (by omega))
    (fun w => product_any a r w (by omega) (by omega) (by omega) (by omega)) (fun w => product_any c l w (by omega) (by omega) (by omega) (by omega)) (fun w => hT ▸ plus_any (a * r) (c * l) w)
    (fun w => remainder_any T g w ft g0 (by omega)) (fun w => divisor_z (T.natAbs % g) g _ _ _ w rfl rfl (by rw [hk]) (by omega) (by omega)) (conv_i64 (by omega) (by omega)) (by omega) (conv_quo he (by omega) (by omega))
    (fun w => product_any l e w (by omega) (by omega) (by omega) (by omega)) v2 _ (fun w => divided_any T k w ft k0 (by omega)) (fun w => result_any _ _ _ w)
  have u1 : smN a b c d = selI (fitB (T.natAbs / k) && fitB (l * e).natAbs) (sgV (T.natAbs / k) (decide (T < 0))) := by unfold smN smF; rw [eT, eK, eU]
  have u2 : smD a b c d = selI (fitB (T.natAbs / k) && fitB (l * e).natAbs) (sgV (l * e).natAbs (decide (l * e < 0))) := by unfold smD smF; rw [eT, eK, eU]
  have u3 : smF a b c d = (fitB (T.natAbs / k) && fitB (l * e).natAbs) := by unfold smF; rw [eT, eK, eU]
  rw [u1, u2, u3]
  exact key
end Go.Proofs.Ytjhkeinelbeekaa
