/-
  Joined: Cv, Fa, Ma, Fe, Fd, Fj, Fg. Conditions: none.
-/
import Derived.Test.YtomnmoinahhdmaaW28
import Derived.Test.YtomnmoinahhdmaaSxT
namespace Go.Proofs.Ytomnmoinahhdmaa
open Go.RowKit
theorem bigN_low {x : Nat} (h : x < 18446744073709551616) : bigN false x = bigV false 0 (x : Int) := by
  unfold bigN
  rw [show x / 18446744073709551616 = 0 by omega, show x % 18446744073709551616 = x by omega]
  rfl
theorem RMake_res {a b : Int} (ha : I64 a) (hb : I64 b) (h0 : b ≠ 0) : ∃ N D E, IsRes a b N D E ∧ Pure Try.prog 144 #[.int .i64 a, .int .i64 b] (.tuple #[ratioV N D, .int .i64 E]) := by
  have za := Rsize_any a ha
  have zb := Rsize_any b hb
  unfold I64 at ha hb
  obtain ⟨g, hg⟩ : ∃ g, g = Nat.gcd a.natAbs b.natAbs := ⟨_, rfl⟩
  have g0 : 0 < g := hg ▸ Nat.gcd_pos_of_pos_right _ (by omega)
  have gg := Rcommon_any a.natAbs b.natAbs g (by omega) (by omega) hg
  obtain ⟨x, hx⟩ : ∃ x, x = a.natAbs / g := ⟨_, rfl⟩
  obtain ⟨y, hy⟩ : ∃ y, y = b.natAbs / g := ⟨_, rfl⟩
  have ax : a.natAbs = g * x := by rw [hx, hg]; exact (Nat.mul_div_cancel' (Nat.gcd_dvd_left _ _)).symm
  have bY : b.natAbs = g * y := by rw [hy, hg]; exact (Nat.mul_div_cancel' (Nat.gcd_dvd_right _ _)).symm
  have hxy : Nat.gcd x y = 1 := by rw [hx, hy, hg]; exact Nat.gcd_div_gcd_div_gcd_of_pos_right (by omega)
  have y0 : 0 < y := by
    rcases Nat.eq_zero_or_pos y with e | e
    · rw [e, Nat.mul_zero] at bY; omega
    · exact e
  have lx := Nat.div_le_self a.natAbs g
  have ly := Nat.div_le_self b.natAbs g
  rw [← hx] at lx
  rw [← hy] at ly
  have q1 := quoU (x := a.natAbs) (y := g) (by omega)
  have q2 := quoU (x := b.natAbs) (y := g) (by omega)
  rw [← hx] at q1
  rw [← hy] at q2
  have md : ∀ neg, Pure Try.prog 163 #[.bool neg, bigV false 0 (x : Int), bigV false 0 (y : Int)] (.tuple #[ratioV (selI (fitB x && fitB y) (sgV x neg)) (selI (fitB x && fitB y) (y : Int)), .int .i64 (selE (fitB x && fitB y))]) := by
    intro neg
    have := RMade_any neg false false x y
    rwa [bigN_low (by omega), bigN_low (by omega)] at this
  have fin : ∀ (T : Int) (neg : Bool), T.natAbs = x → decide (T < 0) = neg → T * b = a * (y : Int) → IsRes a b (selI (fitB x && fitB y) (sgV x neg)) (selI (fitB x && fitB y) (y : Int)) (selE (fitB x && fitB y)) := by
    intro T neg h1 h2 h3
    have := isRes_of (p := a) (q := b) (T := T) (U := (y : Int)) h0 (by omega) (by rw [h1, Int.natAbs_natCast]; exact hxy) h3
    rw [h1, h2, Int.natAbs_natCast, df (show ¬ (y : Int) < 0 by omega), selI_sg (fun h => by simp only [Bool.and_eq_true] at h; simpa [fitB] using h.2)] at this
    exact this
  have gz : ¬ (g : Int) = 0 := by omega
  have cx : (x : Int) * ((g * y : Nat) : Int) = ((g * x : Nat) : Int) * (y : Int) := by rw [← Int.natCast_mul, ← Int.natCast_mul]; congr 1; rw [Nat.mul_left_comm, Nat.mul_assoc]
  by_cases sa : a < 0 <;> by_cases sb : b < 0
  · refine ⟨_, _, _, fin (x : Int) false (by simp) (df (by omega)) ?_, rMake_ttx (by simp [h0]) za zb gg (dt sa) (dt sb) gz q1 q2 (md false)⟩
    rw [show b = -((g * y : Nat) : Int) by omega, show a = -((g * x : Nat) : Int) by omega, Int.mul_neg, Int.neg_mul, cx]
  · refine ⟨_, _, _, fin (-(x : Int)) true (by simp) (dt ?_) ?_, rMake_tft (by simp [h0]) za zb gg (dt sa) (df sb) (by simp; omega) gz q1 q2 (md true)⟩
    · rcases Nat.eq_zero_or_pos x with e | e
      · rw [e, Nat.mul_zero] at ax; omega
      · omega
    · rw [show b = ((g * y : Nat) : Int) by omega, show a = -((g * x : Nat) : Int) by omega, Int.neg_mul, Int.neg_mul, cx]
  · by_cases z : a = 0
    · refine ⟨_, _, _, fin 0 false ?_ rfl (by rw [z]; simp), rMake_ftf (by simp [h0]) za zb gg (df sa) (dt sb) (by simp [z]) gz q1 q2 (md false)⟩
      rw [hx, z]; simp
    · refine ⟨_, _, _, fin (-(x : Int)) true (by simp) (dt ?_) ?_, rMake_ftt (by simp [h0]) za zb gg (df sa) (dt sb) (by simp [z]) gz q1 q2 (md true)⟩
      · rcases Nat.eq_zero_or_pos x with e | e
        · rw [e, Nat.mul_zero] at ax; omega
        · omega
      · rw [show b = -((g * y : Nat) : Int) by omega, show a = ((g * x : Nat) : Int) by omega, Int.neg_mul_neg, cx]
  · refine ⟨_, _, _, fin (x : Int) false (by simp) (df (by omega)) ?_, rMake_ffx (by simp [h0]) za zb gg (df sa) (df sb) gz q1 q2 (md false)⟩
    rw [show b = ((g * y : Nat) : Int) by omega, show a = ((g * x : Nat) : Int) by omega, cx]

theorem Met_ok {pi pa pb qi qa qb m k : Int} (hp : okP pi pa pb = true) (hq : okP qi qa qb = true) (hb : pb ≠ qb) (h1 : okB m k = true) (h2 : I64 m) (h3 : I64 k) (h4 : m * (pb - qb) = (qa - pa) * k) :
    Pure Try.prog 123 #[pointV pi pa pb, pointV qi qa qb] (ratioV m k) := by
  have hp' := okP_iff.1 hp
  have hq' := okP_iff.1 hq
  obtain ⟨N, D, E, hr, hm⟩ := RMake_res (a := pa - qa) (b := qb - pb) (by unfold I64; omega) (by unfold I64; omega) (by omega)
  obtain ⟨rfl, rfl, rfl⟩ := hr.one (by omega) h1 h2 h3 (by
    rw [show qb - pb = -(pb - qb) by omega, show pa - qa = -(qa - pa) by omega, Int.mul_neg, Int.neg_mul, h4])
  exact met_path (by rw [wrap_i64_in (by omega) (by omega)]) (by rw [wrap_i64_in (by omega) (by omega)]) hm

theorem Leads_ok {pi pa pb qi qa qb n d : Int} (hn : I64 n) (hd : I64 d) (hp : okP pi pa pb = true) (hq : okP qi qa qb = true) :
    Pure Try.prog 162 #[pointV pi pa pb, pointV qi qa qb, ratioV n d] (.bool (leadsB (pa * d + pb * n) (qa * d + qb * n) pb qb pi qi)) := by
  have hp' := okP_iff.1 hp
  have hq' := okP_iff.1 hq
  have c1 := RProduct_any (pa - qa) d (by unfold I64; omega) hd
  have c2 := RProduct_any (pb - qb) n (by unfold I64; omega) hn
  have b1 : ((pa - qa) * d).natAbs ≤ 2097152 * 9223372036854775808 := by rw [Int.natAbs_mul]; unfold I64 at hd; exact Nat.mul_le_mul (by omega) (by omega)
  have b2 : ((pb - qb) * n).natAbs ≤ 2097152 * 9223372036854775808 := by rw [Int.natAbs_mul]; unfold I64 at hn; exact Nat.mul_le_mul (by omega) (by omega)
  have c3 := RPlus_any ((pa - qa) * d) ((pb - qb) * n) (by omega) (by omega)
  have e : (pa - qa) * d + (pb - qb) * n = pa * d + pb * n - (qa * d + qb * n) := by rw [Int.sub_mul, Int.sub_mul]; omega
  rw [e] at c3
  have c4 := RSign_any (pa * d + pb * n - (qa * d + qb * n))
  have far := far_path (pi := pi) (pa := pa) (pb := pb) (qi := qi) (qa := qa) (qb := qb) (by rw [wrap_i64_in (by omega) (by omega)]) c1 (by rw [wrap_i64_in (by omega) (by omega)]) c2 c3 c4
  generalize pa * d + pb * n = P at *
  generalize qa * d + qb * n = Q at *
  rcases Int.lt_trichotomy (P - Q) 0 with h | h | h
  · rw [Int.sign_eq_neg_one_of_neg h] at far
    rw [leads_f (by omega)]
    exact leads_far_f far (by decide) (by decide)
  · rw [h] at far
    by_cases hb : pb = qb
    · by_cases hi : pi < qi
      · rw [leads_t (by omega)]; exact leads_i_t far (by decide) (by simp [hb]) (dt hi)
      · rw [leads_f (by omega)]; exact leads_i_f far (by decide) (by simp [hb]) (df hi)
    · by_cases hg : pb > qb
      · rw [leads_t (by omega)]; exact leads_b_t far (by decide) (by simp [hb]) (dt hg)
      · rw [leads_f (by omega)]; exact leads_b_f far (by decide) (by simp [hb]) (df hg)
  · rw [Int.sign_eq_one_of_pos h] at far
    rw [leads_t (by omega)]
    exact leads_far_t far (by decide) (by decide)

end Go.Proofs.Ytomnmoinahhdmaa

namespace Go.Proofs.Ytomnmoinahhdmaa
open Go.RowKit
structure Pt where
  id : Int
  a : Int
  b : Int
abbrev ptV (p : Pt) : Value := pointV p.id p.a p.b
def ptsV : List Pt → List Value
  | [] => []
  | p :: r => .int .i64 p.id :: .int .i64 p.a :: .int .i64 p.b :: ptsV r
theorem ptsV_length : ∀ (l : List Pt), (ptsV l).length = l.length * 3
  | [] => rfl
  | p :: r => by simp [ptsV, ptsV_length r]; omega
theorem ptsV_get : ∀ {l : List Pt} {k : Nat} {p : Pt}, l[k]? = some p → (ptsV l)[k * 3]? = some (.int .i64 p.id) ∧ (ptsV l)[k * 3 + 1]? = some (.int .i64 p.a) ∧ (ptsV l)[k * 3 + 2]? = some (.int .i64 p.b)
  | [], k, p, h => by simp at h
  | q :: r, 0, p, h => by simp at h; subst h; exact ⟨rfl, rfl, rfl⟩
  | q :: r, k + 1, p, h => by
    have := ptsV_get (l := r) (k := k) (p := p) (by simpa using h)
    rw [show (k + 1) * 3 = k * 3 + 1 + 1 + 1 by omega]
    exact this
theorem ra_pt {l : List Pt} {k : Nat} {p : Pt} (h : l[k]? = some p) : rowAt (ptsV l) (0 * 3 + k * 3) [.int .i64 p.id, .int .i64 p.a, .int .i64 p.b] := by
  obtain ⟨h1, h2, h3⟩ := ptsV_get h
  intro j v hj
  rw [show 0 * 3 + k * 3 + j = k * 3 + j by omega]
  match j, hj with
  | 0, hj => cases hj; exact h1
  | 1, hj => cases hj; exact h2
  | 2, hj => cases hj; exact h3
  | j + 3, hj => simp at hj
theorem ra_id {l : List Pt} {k : Nat} {p : Pt} (h : l[k]? = some p) : rowAt (ptsV l) (0 * 3 + k * 3) [.int .i64 p.id] := by
  intro j v hj
  rw [show 0 * 3 + k * 3 + j = k * 3 + j by omega]
  match j, hj with
  | 0, hj => cases hj; exact (ptsV_get h).1
  | j + 1, hj => simp at hj

/-- Rounds, one after another. -/
theorem RunsL.rounds {P : Program} {lo fr : Nat} {c : Code} {n nb : Nat} (tm : Nat → List (Nat × SV)) (hp : Nat → List (Nat × Nat × SV)) {e : Exit} {tm2 : List (Nat × SV)} {hp2 : List (Nat × Nat × SV)} {N : Nat} :
    ∀ (d i : Nat), i + d = N → (∀ j, i ≤ j → j < N → RunsL P lo fr c n nb (tm (j + 1)) (hp (j + 1)) e tm2 hp2 → RunsL P lo fr c n nb (tm j) (hp j) e tm2 hp2) → RunsL P lo fr c n nb (tm N) (hp N) e tm2 hp2 → RunsL P lo fr c n nb (tm i) (hp i) e tm2 hp2
  | 0, i, h, _, last => by have : i = N := by omega
                           subst this; exact last
  | d + 1, i, h, step, last => step i (Nat.le_refl i) (by omega) (RunsL.rounds tm hp d (i + 1) (by omega) (fun j h1 h2 => step j (by omega) h2) last)

abbrev rowP (l : List Pt) : SV := .row 42 3 l.length (ptsV l)
abbrev fldS (b : Nat) (l : List Pt) : SV := .ag [.ls b l.length]
theorem i64_succ {k : Nat} (h : k ≤ 1000000) : Value.int .i64 (IntKind.i64.wrap ((k : Int) + 1)) = .int .i64 ((k + 1 : Nat) : Int) := by rw [wrap_i64_in (by omega) (by omega)]; rfl

set_option maxRecDepth 100000 in
theorem great_t {l : List Pt} (h1 : decide ((l.length : Int) > 16) = true) (h2 : decide ((l.length : Int) < 64) = true) : FnL Try.prog 37 1 [fldS 0 l] [(0, 0, rowP l)] (.pv (.bool true)) 0 [] :=
  fnl_run 200 [] [.t true, .t true] True.intro (And.intro h1 (And.intro h2 True.intro)) (by kernel_rfl)
set_option maxRecDepth 100000 in
theorem great_f {l : List Pt} (h1 : decide ((l.length : Int) > 16) = false) (h2 : decide ((l.length : Int) > 70) = false) : FnL Try.prog 37 1 [fldS 0 l] [(0, 0, rowP l)] (.pv (.bool false)) 0 [] :=
  fnl_run 200 [] [.t false, .t false] True.intro (And.intro h1 (And.intro h2 True.intro)) (by kernel_rfl)
set_option maxRecDepth 100000 in
theorem great_t2 {l : List Pt} (h1 : decide ((l.length : Int) > 16) = true) (h2 : decide ((l.length : Int) < 64) = false) (h3 : decide ((l.length : Int) > 70) = true) : FnL Try.prog 37 1 [fldS 0 l] [(0, 0, rowP l)] (.pv (.bool true)) 0 [] :=
  fnl_run 200 [] [.t true, .t false, .t true] True.intro (And.intro h1 (And.intro h2 (And.intro h3 True.intro))) (by kernel_rfl)
set_option maxRecDepth 100000 in
theorem great_f2 {l : List Pt} (h1 : decide ((l.length : Int) > 16) = true) (h2 : decide ((l.length : Int) < 64) = false) (h3 : decide ((l.length : Int) > 70) = false) : FnL Try.prog 37 1 [fldS 0 l] [(0, 0, rowP l)] (.pv (.bool false)) 0 [] :=
  fnl_run 200 [] [.t true, .t false, .t false] True.intro (And.intro h1 (And.intro h2 (And.intro h3 True.intro))) (by kernel_rfl)

theorem twin_x (l : List Pt) : SV.ag [.ls 4 (0 + l.length)] = (SV.ag [.ls 1 l.length]).ren (renN [(1, 4)]) := by rw [Nat.zero_add]; rfl
theorem twin_row (l : List Pt) : some (SV.row 42 3 (0 + l.length) ([] ++ ptsV l)) = some (rowP l) := by rw [Nat.zero_add, List.nil_append]
def idsV (l : List Int) : List Value := l.map fun x => .int .i64 x
theorem ra_int {l : List Int} {k : Nat} {x : Int} (h : l[k]? = some x) : rowAt (idsV l) (0 * 1 + k * 1) [.int .i64 x] := by
  intro j v hj
  match j, hj with
  | 0, hj => cases hj; simp [idsV, h]
  | j + 1, hj => simp at hj
theorem seti : ∀ (l : List Int) (k : Nat) (x : Int), k < l.length → idsV (l.set k x) = setL (idsV l) k [.int .i64 x]
  | [], k, x, h => by simp at h
  | y :: r, 0, x, _ => rfl
  | y :: r, k + 1, x, h => by
    have := seti r k x (by simpa using h)
    simp only [idsV, List.set_cons_succ, List.map_cons] at this ⊢
    rw [this]
    simp [setL, Nat.add_right_comm]
theorem seti_row (l : List Int) (k : Nat) (x : Int) (h : k < l.length) : idsV (l.set k x) = setL (idsV l) (0 * 1 + k * 1) [.int .i64 x] := by
  rw [Nat.zero_mul, Nat.zero_add, Nat.mul_one]; exact seti l k x h
theorem seti_in (l : List Int) (k : Nat) (h : k < l.length) : 0 * 1 + k * 1 + 1 ≤ (idsV l).length := by simp [idsV]; omega
theorem rep_ids : ∀ n : Nat, repL [Value.int .i64 0] n = idsV (List.replicate n 0)
  | 0 => rfl
  | n + 1 => by rw [repL, rep_ids n]; rfl
theorem rep_row (n : Nat) : some (SV.row 3 1 n (repL [Value.int .i64 0] n)) = some (SV.row 3 1 n (idsV (List.replicate n 0))) := by rw [rep_ids]
end Go.Proofs.Ytomnmoinahhdmaa

namespace Go.Proofs.Ytomnmoinahhdmaa
open Go.RowKit
/-- All pairs, in the text's order. -/
def pairsOf : List Pt → List (Pt × Pt)
  | [] => []
  | p :: r => r.map (fun q => (p, q)) ++ pairsOf r
section
noncomputable abbrev pc (p : List Nat) : Code := codeOf Try.prog 93 p
noncomputable abbrev pi (p : List Nat) : Code := pc ([1, 0, 0, 1, 1, 0, 0, 1, 1, 0, 0] ++ p)
end
end Go.Proofs.Ytomnmoinahhdmaa

namespace Go.Proofs.Ytomnmoinahhdmaa
open Go.RowKit
set_option maxRecDepth 100000 in
theorem twin_path {l : List Pt} (hn : 0 + l.length ≤ 1000000) :
    FnL Try.prog 39 1 [fldS 0 l] [(0, 0, rowP l)] (.ag [.ls 1 l.length]) 1 [(1, 0, rowP l)] :=
  fnl_runX 300 [(1, 4)] []
    (twin_x l) (And.intro (twin_row l) True.intro) (And.intro hn True.intro) (by kernel_rfl)

set_option maxRecDepth 100000 in
theorem same_next {l m : List Pt} {k : Nat} {p q : Pt} (hk : l[k]? = some p) (hin : 0 ≤ (k : Int) ∧ (k : Int) < (l.length : Int)) (hq : m[k]? = some q) (hin2 : 0 ≤ (k : Int) ∧ (k : Int) < (m.length : Int)) (hlt : decide ((k : Int) < (l.length : Int)) = true) (hne : (!(p.id == q.id && (p.a == q.a && (p.b == q.b && true)))) = false) (hs : Value.int .i64 (IntKind.i64.wrap ((k : Int) + 1)) = .int .i64 (((k + 1 : Nat) : Int))) {e : Exit} {tm2 : List (Nat × SV)} {hp2 : List (Nat × Nat × SV)}
    (r : RunsL Try.prog 2 2 (loopOf Try.prog 43 0) 31 4 ([(2, .pp 2 0), (3, .pp 3 0), (5, .pv (.int .i64 ((k + 1 : Nat) : Int)))]) ([(2, 0, .ls 0 l.length), (3, 0, .ls 1 m.length), (0, 0, rowP l), (1, 0, rowP m)]) e tm2 hp2) : RunsL Try.prog 2 2 (loopOf Try.prog 43 0) 31 4 ([(2, .pp 2 0), (3, .pp 3 0), (5, .pv (.int .i64 (k : Int)))]) ([(2, 0, .ls 0 l.length), (3, 0, .ls 1 m.length), (0, 0, rowP l), (1, 0, rowP m)]) e tm2 hp2 :=
  RunsL.next [] 300 [.t true, .r (ptV p), .r (ptV q), .t false, .r (.int .i64 (((k + 1 : Nat) : Int)))]
    (round_of (And.intro hlt (And.intro hin (And.intro (ra_pt hk) (And.intro hin2 (And.intro (ra_pt hq) (And.intro hne (And.intro hs True.intro))))))) (by kernel_rfl)) r

set_option maxRecDepth 100000 in
theorem same_end {l m : List Pt} {k : Nat} (hge : decide ((k : Int) < (l.length : Int)) = false) : RunsL Try.prog 2 2 (loopOf Try.prog 43 0) 31 4 ([(2, .pp 2 0), (3, .pp 3 0), (5, .pv (.int .i64 (k : Int)))]) ([(2, 0, .ls 0 l.length), (3, 0, .ls 1 m.length), (0, 0, rowP l), (1, 0, rowP m)]) (.exit 0) ([]) ([]) :=
  RunsL.stop [] 300 [.t false] (fun h => by cases h)
    (round_of (And.intro hge True.intro) (by kernel_rfl))

set_option maxRecDepth 100000 in
theorem same_yes {l m : List Pt} (hl : (!((l.length : Int) == (m.length : Int))) = false) (r0 : RunsL Try.prog 2 2 (loopOf Try.prog 43 0) 31 4 ([(2, .pp 2 0), (3, .pp 3 0), (5, .pv (.int .i64 ((0 : Nat) : Int)))]) ([(2, 0, .ls 0 l.length), (3, 0, .ls 1 m.length), (0, 0, rowP l), (1, 0, rowP m)]) (.exit 0) ([]) ([])) :
    FnL Try.prog 43 2 [fldS 0 l, fldS 1 m] [(0, 0, rowP l), (1, 0, rowP m)] (.pv (.bool true)) 0 [] :=
  fnl_run 300 [] [.t false, .l (.exit 0) ([(2, .pp 2 0), (3, .pp 3 0), (5, .pv (.int .i64 ((0 : Nat) : Int)))]) ([(2, 0, .ls 0 l.length), (3, 0, .ls 1 m.length), (0, 0, rowP l), (1, 0, rowP m)]) ([]) ([])]
     True.intro (And.intro hl (And.intro (reflT (renN []) ([(2, .pp 2 0), (3, .pp 3 0), (5, .pv (.int .i64 ((0 : Nat) : Int)))])) (And.intro (reflH (renN []) ([(2, 0, .ls 0 l.length), (3, 0, .ls 1 m.length), (0, 0, rowP l), (1, 0, rowP m)])) (And.intro r0 True.intro)))) (by kernel_rfl)

end Go.Proofs.Ytomnmoinahhdmaa

namespace Go.Proofs.Ytomnmoinahhdmaa
open Go.RowKit
set_option maxRecDepth 100000 in
theorem at_next {l : List Pt} {k : Nat} {p : Pt} {id : Int} (hk : l[k]? = some p) (hin : 0 ≤ (k : Int) ∧ (k : Int) < (l.length : Int)) (hlt : decide ((k : Int) < (l.length : Int)) = true) (he : (p.id == id) = false) (hs : Value.int .i64 (IntKind.i64.wrap ((k : Int) + 1)) = .int .i64 (((k + 1 : Nat) : Int))) {e : Exit} {tm2 : List (Nat × SV)} {hp2 : List (Nat × Nat × SV)}
    (r : RunsL Try.prog 1 1 (loopOf Try.prog 22 0) 22 2 ([(1, .pv (.int .i64 id)), (2, .pp 1 0), (5, .pv (.int .i64 ((k + 1 : Nat) : Int)))]) ([(1, 0, .ls 0 l.length), (0, 0, rowP l)]) e tm2 hp2) : RunsL Try.prog 1 1 (loopOf Try.prog 22 0) 22 2 ([(1, .pv (.int .i64 id)), (2, .pp 1 0), (5, .pv (.int .i64 (k : Int)))]) ([(1, 0, .ls 0 l.length), (0, 0, rowP l)]) e tm2 hp2 :=
  RunsL.next [] 300 [.t true, .r (Value.int .i64 p.id), .t false, .r (.int .i64 (((k + 1 : Nat) : Int)))]
    (round_of (And.intro hlt (And.intro hin (And.intro (ra_id hk) (And.intro he (And.intro hs True.intro))))) (by kernel_rfl)) r

set_option maxRecDepth 100000 in
theorem at_hit {l : List Pt} {k : Nat} {p : Pt} {id : Int} (hk : l[k]? = some p) (hin : 0 ≤ (k : Int) ∧ (k : Int) < (l.length : Int)) (hlt : decide ((k : Int) < (l.length : Int)) = true) (he : (p.id == id) = true) : RunsL Try.prog 1 1 (loopOf Try.prog 22 0) 22 2 ([(1, .pv (.int .i64 id)), (2, .pp 1 0), (5, .pv (.int .i64 (k : Int)))]) ([(1, 0, .ls 0 l.length), (0, 0, rowP l)]) (.ret) ([(4, .pv (.int .i64 (k : Int)))]) ([]) :=
  RunsL.stop [] 300 [.t true, .r (Value.int .i64 p.id), .t true] (fun h => by cases h)
    (round_of (And.intro hlt (And.intro hin (And.intro (ra_id hk) (And.intro he True.intro)))) (by kernel_rfl))

set_option maxRecDepth 100000 in
theorem at_yes {l : List Pt} {k : Nat} {id : Int} (r0 : RunsL Try.prog 1 1 (loopOf Try.prog 22 0) 22 2 ([(1, .pv (.int .i64 id)), (2, .pp 1 0), (5, .pv (.int .i64 ((0 : Nat) : Int)))]) ([(1, 0, .ls 0 l.length), (0, 0, rowP l)]) (.ret) ([(4, .pv (.int .i64 (k : Int)))]) ([])) :
    FnL Try.prog 22 1 [fldS 0 l, .pv (.int .i64 (id))] [(0, 0, rowP l)] (.pv (.int .i64 ((k : Int)))) 0 [] :=
  fnl_run 300 [] [.l (.ret) ([(1, .pv (.int .i64 id)), (2, .pp 1 0), (5, .pv (.int .i64 ((0 : Nat) : Int)))]) ([(1, 0, .ls 0 l.length), (0, 0, rowP l)]) ([(4, .pv (.int .i64 (k : Int)))]) ([])]
     True.intro (And.intro (reflT (renN []) ([(1, .pv (.int .i64 id)), (2, .pp 1 0), (5, .pv (.int .i64 ((0 : Nat) : Int)))])) (And.intro (reflH (renN []) ([(1, 0, .ls 0 l.length), (0, 0, rowP l)])) (And.intro r0 True.intro))) (by kernel_rfl)

set_option maxRecDepth 100000 in
theorem cwt_err {l : List Pt} {tn td : Int} {e : Int} (hc : FnL Try.prog 76 1 [fldS 0 l] [(0, 0, rowP l)] (.pv (.int .i64 (e))) 0 []) (he : (e != 0) = true) :
    FnL Try.prog 83 1 [fldS 0 l, .pv (ratioV tn td)] [(0, 0, rowP l)] (.pv (.int .i64 (e))) 0 [] :=
  fnl_run 300 [] [.f [0] [fldS 0 l] [(0, 0, rowP l)] (.pv (.int .i64 (e))) 0 [], .t true]
     True.intro (And.intro hc (And.intro (Eq.refl (List.map (SV.ren (renU [0] 3)) [fldS 0 l])) (And.intro (reflH (renU [0] 3) [(0, 0, rowP l)]) (And.intro he True.intro)))) (by kernel_rfl)

set_option maxRecDepth 100000 in
theorem cwt_ok {l : List Pt} {tn td : Int} {e : Int} (hc : FnL Try.prog 76 1 [fldS 0 l] [(0, 0, rowP l)] (.pv (.int .i64 (0))) 0 []) (ht : Pure Try.prog 68 #[ratioV tn td] (.int .i64 (e))) :
    FnL Try.prog 83 1 [fldS 0 l, .pv (ratioV tn td)] [(0, 0, rowP l)] (.pv (.int .i64 (e))) 0 [] :=
  fnl_run 300 [] [.f [0] [fldS 0 l] [(0, 0, rowP l)] (.pv (.int .i64 (0))) 0 [], .k, .r (.int .i64 (e))]
     True.intro (And.intro hc (And.intro (Eq.refl (List.map (SV.ren (renU [0] 3)) [fldS 0 l])) (And.intro (reflH (renU [0] 3) [(0, 0, rowP l)]) (And.intro ht True.intro)))) (by kernel_rfl)

set_option maxRecDepth 100000 in
theorem tmd_err {l : List Pt} {tn td : Int} {e : Int} (hc : FnL Try.prog 97 1 [fldS 0 l] [(0, 0, rowP l)] (.pv (.int .i64 (e))) 0 []) (he : (e != 0) = true) :
    FnL Try.prog 81 1 [fldS 0 l, .pv (ratioV tn td)] [(0, 0, rowP l)] (.pv (.int .i64 (e))) 0 [] :=
  fnl_run 300 [] [.f [0] [fldS 0 l] [(0, 0, rowP l)] (.pv (.int .i64 (e))) 0 [], .t true]
     True.intro (And.intro hc (And.intro (Eq.refl (List.map (SV.ren (renU [0] 3)) [fldS 0 l])) (And.intro (reflH (renU [0] 3) [(0, 0, rowP l)]) (And.intro he True.intro)))) (by kernel_rfl)

set_option maxRecDepth 100000 in
theorem tmd_ok {l : List Pt} {tn td : Int} {e : Int} (hc : FnL Try.prog 97 1 [fldS 0 l] [(0, 0, rowP l)] (.pv (.int .i64 (0))) 0 []) (ht : Pure Try.prog 23 #[ratioV tn td] (.int .i64 (e))) :
    FnL Try.prog 81 1 [fldS 0 l, .pv (ratioV tn td)] [(0, 0, rowP l)] (.pv (.int .i64 (e))) 0 [] :=
  fnl_run 300 [] [.f [0] [fldS 0 l] [(0, 0, rowP l)] (.pv (.int .i64 (0))) 0 [], .k, .r (.int .i64 (e))]
     True.intro (And.intro hc (And.intro (Eq.refl (List.map (SV.ren (renU [0] 3)) [fldS 0 l])) (And.intro (reflH (renU [0] 3) [(0, 0, rowP l)]) (And.intro ht True.intro)))) (by kernel_rfl)

end Go.Proofs.Ytomnmoinahhdmaa

namespace Go.Proofs.Ytomnmoinahhdmaa
open Go.RowKit
set_option maxRecDepth 100000 in
theorem ra_self {l : List Pt} {k n : Nat} {p q : Pt} {tn td : Int} (hk : l[k]? = some q) (hin : 0 ≤ (k : Int) ∧ (k : Int) < (l.length : Int)) (hlt : decide ((k : Int) < (l.length : Int)) = true) (hne : (!(q.id == p.id)) = false) (hs : Value.int .i64 (IntKind.i64.wrap ((k : Int) + 1)) = .int .i64 (((k + 1 : Nat) : Int))) {e : Exit} {tm2 : List (Nat × SV)} {hp2 : List (Nat × Nat × SV)}
    (r : RunsL Try.prog 1 1 (loopOf Try.prog 143 0) 38 4 ([(3, .pp 1 0), (4, .pp 2 0), (5, .pp 3 0), (7, .pv (.int .i64 (n : Int))), (8, .pv (.int .i64 ((k + 1 : Nat) : Int)))]) ([(1, 0, .ls 0 l.length), (0, 0, rowP l), (2, 0, .pv (.int .i64 p.id)), (2, 1, .pv (.int .i64 p.a)), (2, 2, .pv (.int .i64 p.b)), (3, 0, .pv (.int .i64 tn)), (3, 1, .pv (.int .i64 td))]) e tm2 hp2) : RunsL Try.prog 1 1 (loopOf Try.prog 143 0) 38 4 ([(3, .pp 1 0), (4, .pp 2 0), (5, .pp 3 0), (7, .pv (.int .i64 (n : Int))), (8, .pv (.int .i64 (k : Int)))]) ([(1, 0, .ls 0 l.length), (0, 0, rowP l), (2, 0, .pv (.int .i64 p.id)), (2, 1, .pv (.int .i64 p.a)), (2, 2, .pv (.int .i64 p.b)), (3, 0, .pv (.int .i64 tn)), (3, 1, .pv (.int .i64 td))]) e tm2 hp2 :=
  RunsL.next [] 300 [.t true, .r (Value.int .i64 q.id), .t false, .r (.int .i64 (((k + 1 : Nat) : Int)))]
    (round_of (And.intro hlt (And.intro hin (And.intro (ra_id hk) (And.intro hne (And.intro hs True.intro))))) (by kernel_rfl)) r

set_option maxRecDepth 100000 in
theorem ra_no {l : List Pt} {k n : Nat} {p q : Pt} {tn td : Int} (hk : l[k]? = some q) (hin : 0 ≤ (k : Int) ∧ (k : Int) < (l.length : Int)) (hlt : decide ((k : Int) < (l.length : Int)) = true) (hne : (!(q.id == p.id)) = true) (hl : Pure Try.prog 162 #[pointV q.id q.a q.b, pointV p.id p.a p.b, ratioV tn td] (.bool false)) (hs : Value.int .i64 (IntKind.i64.wrap ((k : Int) + 1)) = .int .i64 (((k + 1 : Nat) : Int))) {e : Exit} {tm2 : List (Nat × SV)} {hp2 : List (Nat × Nat × SV)}
    (r : RunsL Try.prog 1 1 (loopOf Try.prog 143 0) 38 4 ([(3, .pp 1 0), (4, .pp 2 0), (5, .pp 3 0), (7, .pv (.int .i64 (n : Int))), (8, .pv (.int .i64 ((k + 1 : Nat) : Int)))]) ([(1, 0, .ls 0 l.length), (0, 0, rowP l), (2, 0, .pv (.int .i64 p.id)), (2, 1, .pv (.int .i64 p.a)), (2, 2, .pv (.int .i64 p.b)), (3, 0, .pv (.int .i64 tn)), (3, 1, .pv (.int .i64 td))]) e tm2 hp2) : RunsL Try.prog 1 1 (loopOf Try.prog 143 0) 38 4 ([(3, .pp 1 0), (4, .pp 2 0), (5, .pp 3 0), (7, .pv (.int .i64 (n : Int))), (8, .pv (.int .i64 (k : Int)))]) ([(1, 0, .ls 0 l.length), (0, 0, rowP l), (2, 0, .pv (.int .i64 p.id)), (2, 1, .pv (.int .i64 p.a)), (2, 2, .pv (.int .i64 p.b)), (3, 0, .pv (.int .i64 tn)), (3, 1, .pv (.int .i64 td))]) e tm2 hp2 :=
  RunsL.next [] 300 [.t true, .r (Value.int .i64 q.id), .t true, .r (ptV q), .r (.bool false), .r (.int .i64 (((k + 1 : Nat) : Int)))]
    (round_of (And.intro hlt (And.intro hin (And.intro (ra_id hk) (And.intro hne (And.intro hin (And.intro (ra_pt hk) (And.intro hl (And.intro hs True.intro)))))))) (by kernel_rfl)) r

set_option maxRecDepth 100000 in
theorem ra_up {l : List Pt} {k n : Nat} {p q : Pt} {tn td : Int} (hk : l[k]? = some q) (hin : 0 ≤ (k : Int) ∧ (k : Int) < (l.length : Int)) (hlt : decide ((k : Int) < (l.length : Int)) = true) (hne : (!(q.id == p.id)) = true) (hl : Pure Try.prog 162 #[pointV q.id q.a q.b, pointV p.id p.a p.b, ratioV tn td] (.bool true)) (hn : Value.int .i64 (IntKind.i64.wrap ((n : Int) + 1)) = .int .i64 (((n + 1 : Nat) : Int))) (hs : Value.int .i64 (IntKind.i64.wrap ((k : Int) + 1)) = .int .i64 (((k + 1 : Nat) : Int))) {e : Exit} {tm2 : List (Nat × SV)} {hp2 : List (Nat × Nat × SV)}
    (r : RunsL Try.prog 1 1 (loopOf Try.prog 143 0) 38 4 ([(3, .pp 1 0), (4, .pp 2 0), (5, .pp 3 0), (7, .pv (.int .i64 ((n + 1 : Nat) : Int))), (8, .pv (.int .i64 ((k + 1 : Nat) : Int)))]) ([(1, 0, .ls 0 l.length), (0, 0, rowP l), (2, 0, .pv (.int .i64 p.id)), (2, 1, .pv (.int .i64 p.a)), (2, 2, .pv (.int .i64 p.b)), (3, 0, .pv (.int .i64 tn)), (3, 1, .pv (.int .i64 td))]) e tm2 hp2) : RunsL Try.prog 1 1 (loopOf Try.prog 143 0) 38 4 ([(3, .pp 1 0), (4, .pp 2 0), (5, .pp 3 0), (7, .pv (.int .i64 (n : Int))), (8, .pv (.int .i64 (k : Int)))]) ([(1, 0, .ls 0 l.length), (0, 0, rowP l), (2, 0, .pv (.int .i64 p.id)), (2, 1, .pv (.int .i64 p.a)), (2, 2, .pv (.int .i64 p.b)), (3, 0, .pv (.int .i64 tn)), (3, 1, .pv (.int .i64 td))]) e tm2 hp2 :=
  RunsL.next [] 300 [.t true, .r (Value.int .i64 q.id), .t true, .r (ptV q), .r (.bool true), .r (.int .i64 (((n + 1 : Nat) : Int))), .r (.int .i64 (((k + 1 : Nat) : Int)))]
    (round_of (And.intro hlt (And.intro hin (And.intro (ra_id hk) (And.intro hne (And.intro hin (And.intro (ra_pt hk) (And.intro hl (And.intro hn (And.intro hs True.intro))))))))) (by kernel_rfl)) r

set_option maxRecDepth 100000 in
theorem ra_end {l : List Pt} {k n : Nat} {p : Pt} {tn td : Int} (hge : decide ((k : Int) < (l.length : Int)) = false) : RunsL Try.prog 1 1 (loopOf Try.prog 143 0) 38 4 ([(3, .pp 1 0), (4, .pp 2 0), (5, .pp 3 0), (7, .pv (.int .i64 (n : Int))), (8, .pv (.int .i64 (k : Int)))]) ([(1, 0, .ls 0 l.length), (0, 0, rowP l), (2, 0, .pv (.int .i64 p.id)), (2, 1, .pv (.int .i64 p.a)), (2, 2, .pv (.int .i64 p.b)), (3, 0, .pv (.int .i64 tn)), (3, 1, .pv (.int .i64 td))]) (.exit 0) ([(7, .pv (.int .i64 (n : Int)))]) ([]) :=
  RunsL.stop [] 300 [.t false] (fun h => by cases h)
    (round_of (And.intro hge True.intro) (by kernel_rfl))

set_option maxRecDepth 100000 in
theorem ra_path {l : List Pt} {n : Nat} {p : Pt} {tn td : Int} (r0 : RunsL Try.prog 1 1 (loopOf Try.prog 143 0) 38 4 ([(3, .pp 1 0), (4, .pp 2 0), (5, .pp 3 0), (7, .pv (.int .i64 ((0 : Nat) : Int))), (8, .pv (.int .i64 ((0 : Nat) : Int)))]) ([(1, 0, .ls 0 l.length), (0, 0, rowP l), (2, 0, .pv (.int .i64 p.id)), (2, 1, .pv (.int .i64 p.a)), (2, 2, .pv (.int .i64 p.b)), (3, 0, .pv (.int .i64 tn)), (3, 1, .pv (.int .i64 td))]) (.exit 0) ([(7, .pv (.int .i64 (n : Int)))]) ([])) :
    FnL Try.prog 143 1 [fldS 0 l, .pv (ptV p), .pv (ratioV tn td)] [(0, 0, rowP l)] (.pv (.int .i64 ((n : Int)))) 0 [] :=
  fnl_run 300 [] [.l (.exit 0) ([(3, .pp 1 0), (4, .pp 2 0), (5, .pp 3 0), (7, .pv (.int .i64 ((0 : Nat) : Int))), (8, .pv (.int .i64 ((0 : Nat) : Int)))]) ([(1, 0, .ls 0 l.length), (0, 0, rowP l), (2, 0, .pv (.int .i64 p.id)), (2, 1, .pv (.int .i64 p.a)), (2, 2, .pv (.int .i64 p.b)), (3, 0, .pv (.int .i64 tn)), (3, 1, .pv (.int .i64 td))]) ([(7, .pv (.int .i64 (n : Int)))]) ([])]
     True.intro (And.intro (reflT (renN []) ([(3, .pp 1 0), (4, .pp 2 0), (5, .pp 3 0), (7, .pv (.int .i64 ((0 : Nat) : Int))), (8, .pv (.int .i64 ((0 : Nat) : Int)))])) (And.intro (reflH (renN []) ([(1, 0, .ls 0 l.length), (0, 0, rowP l), (2, 0, .pv (.int .i64 p.id)), (2, 1, .pv (.int .i64 p.a)), (2, 2, .pv (.int .i64 p.b)), (3, 0, .pv (.int .i64 tn)), (3, 1, .pv (.int .i64 td))])) (And.intro r0 True.intro))) (by kernel_rfl)

set_option maxRecDepth 100000 in
theorem od_next {l : List Pt} {g : List Int} {k n : Nat} {p : Pt} {tn td : Int} (hk : l[k]? = some p) (hin : 0 ≤ (k : Int) ∧ (k : Int) < (l.length : Int)) (hg : n < g.length) (hn : 0 ≤ (n : Int) ∧ (n : Int) < (l.length : Int)) (hlt : decide ((k : Int) < (l.length : Int)) = true) (hr : FnL Try.prog 143 1 [fldS 0 l, .pv (ptV p), .pv (ratioV tn td)] [(0, 0, rowP l)] (.pv (.int .i64 ((n : Int)))) 0 []) (hs : Value.int .i64 (IntKind.i64.wrap ((k : Int) + 1)) = .int .i64 (((k + 1 : Nat) : Int))) {e : Exit} {tm2 : List (Nat × SV)} {hp2 : List (Nat × Nat × SV)}
    (r : RunsL Try.prog 1 1 (loopOf Try.prog 122 0) 35 4 ([(2, .pp 1 0), (3, .pp 2 0), (5, .ls 3 l.length), (6, .pv (.int .i64 ((k + 1 : Nat) : Int)))]) ([(1, 0, .ls 0 l.length), (0, 0, rowP l), (2, 0, .pv (.int .i64 tn)), (2, 1, .pv (.int .i64 td)), (3, 0, .row 3 1 l.length (idsV (g.set n p.id)))]) e tm2 hp2) : RunsL Try.prog 1 1 (loopOf Try.prog 122 0) 35 4 ([(2, .pp 1 0), (3, .pp 2 0), (5, .ls 3 l.length), (6, .pv (.int .i64 (k : Int)))]) ([(1, 0, .ls 0 l.length), (0, 0, rowP l), (2, 0, .pv (.int .i64 tn)), (2, 1, .pv (.int .i64 td)), (3, 0, .row 3 1 l.length (idsV g))]) e tm2 hp2 :=
  RunsL.next [] 300 [.t true, .r (ptV p), .f [0] [fldS 0 l, .pv (ptV p), .pv (ratioV tn td)] [(0, 0, rowP l)] (.pv (.int .i64 ((n : Int)))) 0 [], .r (Value.int .i64 p.id), .w (idsV (g.set n p.id)), .r (.int .i64 (((k + 1 : Nat) : Int)))]
    (round_of (And.intro hlt (And.intro hin (And.intro (ra_pt hk) (And.intro hr (And.intro (Eq.refl (List.map (SV.ren (renU [0] 4)) [fldS 0 l, .pv (ptV p), .pv (ratioV tn td)])) (And.intro (reflH (renU [0] 4) [(0, 0, rowP l)]) (And.intro hin (And.intro (ra_id hk) (And.intro hn (And.intro (seti_row g n p.id hg) (And.intro (seti_in g n hg) (And.intro hs True.intro)))))))))))) (by kernel_rfl)) r

set_option maxRecDepth 100000 in
theorem od_end {l : List Pt} {g : List Int} {k : Nat} {tn td : Int} (hge : decide ((k : Int) < (l.length : Int)) = false) : RunsL Try.prog 1 1 (loopOf Try.prog 122 0) 35 4 ([(2, .pp 1 0), (3, .pp 2 0), (5, .ls 3 l.length), (6, .pv (.int .i64 (k : Int)))]) ([(1, 0, .ls 0 l.length), (0, 0, rowP l), (2, 0, .pv (.int .i64 tn)), (2, 1, .pv (.int .i64 td)), (3, 0, .row 3 1 l.length (idsV g))]) (.exit 0) ([(5, .ls 3 l.length)]) ([(1, 0, .ls 0 l.length), (0, 0, rowP l), (2, 0, .pv (.int .i64 tn)), (2, 1, .pv (.int .i64 td)), (3, 0, .row 3 1 l.length (idsV g))]) :=
  RunsL.stop [] 300 [.t false] (fun h => by cases h)
    (round_of (And.intro hge True.intro) (by kernel_rfl))

set_option maxRecDepth 100000 in
theorem od_path {l : List Pt} {g : List Int} {tn td : Int} (hn0 : 0 ≤ (l.length : Int)) (hn1 : (l.length : Int) ≤ 1000000) (r0 : RunsL Try.prog 1 1 (loopOf Try.prog 122 0) 35 4 ([(2, .pp 1 0), (3, .pp 2 0), (5, .ls 3 l.length), (6, .pv (.int .i64 ((0 : Nat) : Int)))]) ([(1, 0, .ls 0 l.length), (0, 0, rowP l), (2, 0, .pv (.int .i64 tn)), (2, 1, .pv (.int .i64 td)), (3, 0, .row 3 1 l.length (idsV (List.replicate l.length (0 : Int))))]) (.exit 0) ([(5, .ls 3 l.length)]) ([(1, 0, .ls 0 l.length), (0, 0, rowP l), (2, 0, .pv (.int .i64 tn)), (2, 1, .pv (.int .i64 td)), (3, 0, .row 3 1 l.length (idsV g))])) :
    FnL Try.prog 122 1 [fldS 0 l, .pv (ratioV tn td)] [(0, 0, rowP l)] (.ls 1 l.length) 1 [(1, 0, .row 3 1 l.length (idsV g))] :=
  fnl_run 300 [(1, 3)] [.l (.exit 0) ([(2, .pp 1 0), (3, .pp 2 0), (5, .ls 3 l.length), (6, .pv (.int .i64 ((0 : Nat) : Int)))]) ([(1, 0, .ls 0 l.length), (0, 0, rowP l), (2, 0, .pv (.int .i64 tn)), (2, 1, .pv (.int .i64 td)), (3, 0, .row 3 1 l.length (idsV (List.replicate l.length (0 : Int))))]) ([(5, .ls 3 l.length)]) ([(1, 0, .ls 0 l.length), (0, 0, rowP l), (2, 0, .pv (.int .i64 tn)), (2, 1, .pv (.int .i64 td)), (3, 0, .row 3 1 l.length (idsV g))])]
     (reflH (renN [(1, 3)]) [(1, 0, .row 3 1 l.length (idsV g))]) (And.intro hn0 (And.intro (Eq.refl (l.length : Int)) (And.intro hn1 (And.intro (reflT (renN []) ([(2, .pp 1 0), (3, .pp 2 0), (5, .ls 3 l.length), (6, .pv (.int .i64 ((0 : Nat) : Int)))])) (And.intro (And.intro (Eq.refl (some (SV.ls 0 l.length))) (And.intro (Eq.refl (some (rowP l))) (And.intro (Eq.refl (some (SV.pv (.int .i64 tn)))) (And.intro (Eq.refl (some (SV.pv (.int .i64 td)))) (And.intro (rep_row l.length) True.intro))))) (And.intro r0 True.intro)))))) (by kernel_rfl)

end Go.Proofs.Ytomnmoinahhdmaa

namespace Go.Proofs.Ytomnmoinahhdmaa
open Go.RowKit
set_option maxRecDepth 100000 in
theorem find1_lt {a pa pb id : Int} (n1 : (!(a == a)) = false) (n2 : (!(id == id)) = false) (h1 : decide (a < id) = true) : Pure Try.prog 159 #[pointV a pa pb, .int .i64 id] (.int .i64 (-1)) :=
  pure_run (args := [pointV a pa pb, .int .i64 id]) 200 [.k, .k, .t false, .k, .t false, .t true] (And.intro rfl (And.intro n1 (And.intro n2 (And.intro h1 True.intro)))) (by kernel_rfl)

set_option maxRecDepth 100000 in
theorem find1_gt {a pa pb id : Int} (n1 : (!(a == a)) = false) (n2 : (!(id == id)) = false) (h1 : decide (a < id) = false) (h2 : decide (a > id) = true) : Pure Try.prog 159 #[pointV a pa pb, .int .i64 id] (.int .i64 (1)) :=
  pure_run (args := [pointV a pa pb, .int .i64 id]) 200 [.k, .k, .t false, .k, .t false, .t false, .t true] (And.intro rfl (And.intro n1 (And.intro n2 (And.intro h1 (And.intro h2 True.intro))))) (by kernel_rfl)

set_option maxRecDepth 100000 in
theorem find1_eq {a pa pb id : Int} (n1 : (!(a == a)) = false) (n2 : (!(id == id)) = false) (h1 : decide (a < id) = false) (h2 : decide (a > id) = false) : Pure Try.prog 159 #[pointV a pa pb, .int .i64 id] (.int .i64 (0)) :=
  pure_run (args := [pointV a pa pb, .int .i64 id]) 200 [.k, .k, .t false, .k, .t false, .t false, .t false] (And.intro rfl (And.intro n1 (And.intro n2 (And.intro h1 (And.intro h2 True.intro))))) (by kernel_rfl)

set_option maxRecDepth 100000 in
theorem bs_up {l : List Pt} {i j h : Nat} {p : Pt} {c : Int} {id : Int} (hk : l[h]? = some p) (hin : 0 ≤ (h : Int) ∧ (h : Int) < (l.length : Int)) (hlt : decide ((i : Int) < (j : Int)) = true) (ha : Value.int .i64 (IntKind.i64.wrap ((i : Int) + (j : Int))) = .int .i64 ((i : Int) + (j : Int))) (hu : Value.int .u64 (IntKind.u64.wrap ((i : Int) + (j : Int))) = .int .u64 ((i : Int) + (j : Int))) (h1 : ¬ (1 : Int) < 0) (hs : Value.int .u64 (((i : Int) + (j : Int)).fdiv (2 ^ (min (1 : Int).toNat IntKind.u64.bits))) = .int .u64 (h : Int)) (hb : Value.int .i64 (IntKind.i64.wrap (h : Int)) = .int .i64 ((h : Int))) (hc : Pure Try.prog 159 #[pointV p.id p.a p.b, .int .i64 id] (.int .i64 (c))) (hz : decide (c < 0) = true) (hh : Value.int .i64 (IntKind.i64.wrap ((h : Int) + 1)) = .int .i64 (((h + 1 : Nat) : Int))) {e : Exit} {tm2 : List (Nat × SV)} {hp2 : List (Nat × Nat × SV)}
    (r : RunsL Try.prog 1 1 (loopOf Try.prog 158 0) 49 1 ([(0, .ls 0 l.length), (1, .pv (.int .i64 id)), (2, .pv (.func (.func 159) #[] #[])), (8, .pv (.int .i64 (l.length : Int))), (9, .pv (.int .i64 ((h + 1 : Nat) : Int))), (10, .pv (.int .i64 (j : Int)))]) ([(0, 0, rowP l)]) e tm2 hp2) : RunsL Try.prog 1 1 (loopOf Try.prog 158 0) 49 1 ([(0, .ls 0 l.length), (1, .pv (.int .i64 id)), (2, .pv (.func (.func 159) #[] #[])), (8, .pv (.int .i64 (l.length : Int))), (9, .pv (.int .i64 (i : Int))), (10, .pv (.int .i64 (j : Int)))]) ([(0, 0, rowP l)]) e tm2 hp2 :=
  RunsL.next [] 300 [.t true, .r (.int .i64 ((i : Int) + (j : Int))), .r (.int .u64 ((i : Int) + (j : Int))), .r (.int .u64 (h : Int)), .r (.int .i64 ((h : Int))), .r (ptV p), .r (.int .i64 (c)), .t true, .r (.int .i64 (((h + 1 : Nat) : Int)))]
    (round_of (And.intro hlt (And.intro ha (And.intro hu (And.intro h1 (And.intro hs (And.intro hb (And.intro hin (And.intro (ra_pt hk) (And.intro hc (And.intro hz (And.intro hh True.intro))))))))))) (by kernel_rfl)) r

set_option maxRecDepth 100000 in
theorem bs_dn {l : List Pt} {i j h : Nat} {p : Pt} {c : Int} {id : Int} (hk : l[h]? = some p) (hin : 0 ≤ (h : Int) ∧ (h : Int) < (l.length : Int)) (hlt : decide ((i : Int) < (j : Int)) = true) (ha : Value.int .i64 (IntKind.i64.wrap ((i : Int) + (j : Int))) = .int .i64 ((i : Int) + (j : Int))) (hu : Value.int .u64 (IntKind.u64.wrap ((i : Int) + (j : Int))) = .int .u64 ((i : Int) + (j : Int))) (h1 : ¬ (1 : Int) < 0) (hs : Value.int .u64 (((i : Int) + (j : Int)).fdiv (2 ^ (min (1 : Int).toNat IntKind.u64.bits))) = .int .u64 (h : Int)) (hb : Value.int .i64 (IntKind.i64.wrap (h : Int)) = .int .i64 ((h : Int))) (hc : Pure Try.prog 159 #[pointV p.id p.a p.b, .int .i64 id] (.int .i64 (c))) (hz : decide (c < 0) = false) {e : Exit} {tm2 : List (Nat × SV)} {hp2 : List (Nat × Nat × SV)}
    (r : RunsL Try.prog 1 1 (loopOf Try.prog 158 0) 49 1 ([(0, .ls 0 l.length), (1, .pv (.int .i64 id)), (2, .pv (.func (.func 159) #[] #[])), (8, .pv (.int .i64 (l.length : Int))), (9, .pv (.int .i64 (i : Int))), (10, .pv (.int .i64 (h : Int)))]) ([(0, 0, rowP l)]) e tm2 hp2) : RunsL Try.prog 1 1 (loopOf Try.prog 158 0) 49 1 ([(0, .ls 0 l.length), (1, .pv (.int .i64 id)), (2, .pv (.func (.func 159) #[] #[])), (8, .pv (.int .i64 (l.length : Int))), (9, .pv (.int .i64 (i : Int))), (10, .pv (.int .i64 (j : Int)))]) ([(0, 0, rowP l)]) e tm2 hp2 :=
  RunsL.next [] 300 [.t true, .r (.int .i64 ((i : Int) + (j : Int))), .r (.int .u64 ((i : Int) + (j : Int))), .r (.int .u64 (h : Int)), .r (.int .i64 ((h : Int))), .r (ptV p), .r (.int .i64 (c)), .t false]
    (round_of (And.intro hlt (And.intro ha (And.intro hu (And.intro h1 (And.intro hs (And.intro hb (And.intro hin (And.intro (ra_pt hk) (And.intro hc (And.intro hz True.intro)))))))))) (by kernel_rfl)) r

set_option maxRecDepth 100000 in
theorem bs_end {l : List Pt} {i j : Nat} {id : Int} (hge : decide ((i : Int) < (j : Int)) = false) : RunsL Try.prog 1 1 (loopOf Try.prog 158 0) 49 1 ([(0, .ls 0 l.length), (1, .pv (.int .i64 id)), (2, .pv (.func (.func 159) #[] #[])), (8, .pv (.int .i64 (l.length : Int))), (9, .pv (.int .i64 (i : Int))), (10, .pv (.int .i64 (j : Int)))]) ([(0, 0, rowP l)]) (.exit 0) ([(0, .ls 0 l.length), (1, .pv (.int .i64 id)), (2, .pv (.func (.func 159) #[] #[])), (8, .pv (.int .i64 (l.length : Int))), (9, .pv (.int .i64 (i : Int))), (10, .pv (.int .i64 (j : Int)))]) ([(0, 0, rowP l)]) :=
  RunsL.stop [] 300 [.t false] (fun h => by cases h)
    (round_of (And.intro hge True.intro) (by kernel_rfl))

set_option maxRecDepth 100000 in
theorem bsf_hit {l : List Pt} {k : Nat} {p : Pt} {c : Int} {id : Int} (r0 : RunsL Try.prog 1 1 (loopOf Try.prog 158 0) 49 1 ([(0, .ls 0 l.length), (1, .pv (.int .i64 id)), (2, .pv (.func (.func 159) #[] #[])), (8, .pv (.int .i64 (l.length : Int))), (9, .pv (.int .i64 ((0 : Nat) : Int))), (10, .pv (.int .i64 (l.length : Int)))]) ([(0, 0, rowP l)]) (.exit 0) ([(0, .ls 0 l.length), (1, .pv (.int .i64 id)), (2, .pv (.func (.func 159) #[] #[])), (8, .pv (.int .i64 (l.length : Int))), (9, .pv (.int .i64 (k : Int))), (10, .pv (.int .i64 (k : Int)))]) ([(0, 0, rowP l)])) (hk : l[k]? = some p) (hin : 0 ≤ (k : Int) ∧ (k : Int) < (l.length : Int)) (hlt : decide ((k : Int) < (l.length : Int)) = true) (hc : Pure Try.prog 159 #[pointV p.id p.a p.b, .int .i64 id] (.int .i64 (c))) (hz : (c == 0) = true) :
    FnL Try.prog 158 1 [.ls 0 l.length, .pv (.int .i64 (id)), .pv (.func (.func 159) #[] #[])] [(0, 0, rowP l)] (.pv (.tuple #[.int .i64 (k : Int), .bool true])) 0 [] :=
  fnl_run 300 [] [.l (.exit 0) ([(0, .ls 0 l.length), (1, .pv (.int .i64 id)), (2, .pv (.func (.func 159) #[] #[])), (8, .pv (.int .i64 (l.length : Int))), (9, .pv (.int .i64 ((0 : Nat) : Int))), (10, .pv (.int .i64 (l.length : Int)))]) ([(0, 0, rowP l)]) ([(0, .ls 0 l.length), (1, .pv (.int .i64 id)), (2, .pv (.func (.func 159) #[] #[])), (8, .pv (.int .i64 (l.length : Int))), (9, .pv (.int .i64 (k : Int))), (10, .pv (.int .i64 (k : Int)))]) ([(0, 0, rowP l)]), .t true, .r (ptV p), .r (.int .i64 (c)), .t true]
     True.intro (And.intro (reflT (renN []) ([(0, .ls 0 l.length), (1, .pv (.int .i64 id)), (2, .pv (.func (.func 159) #[] #[])), (8, .pv (.int .i64 (l.length : Int))), (9, .pv (.int .i64 ((0 : Nat) : Int))), (10, .pv (.int .i64 (l.length : Int)))])) (And.intro (reflH (renN []) ([(0, 0, rowP l)])) (And.intro r0 (And.intro hlt (And.intro hin (And.intro (ra_pt hk) (And.intro hc (And.intro hz True.intro)))))))) (by kernel_rfl)

set_option maxRecDepth 100000 in
theorem find_path {l : List Pt} {k : Nat} {b : Bool} {id : Int} (hb : FnL Try.prog 158 1 [.ls 0 l.length, .pv (.int .i64 (id)), .pv (.func (.func 159) #[] #[])] [(0, 0, rowP l)] (.pv (.tuple #[.int .i64 (k : Int), .bool b])) 0 []) :
    FnL Try.prog 139 1 [fldS 0 l, .pv (.int .i64 (id))] [(0, 0, rowP l)] (.pv (.tuple #[.int .i64 (k : Int), .bool b])) 0 [] :=
  fnl_run 300 [] [.f [0] [.ls 0 l.length, .pv (.int .i64 (id)), .pv (.func (.func 159) #[] #[])] [(0, 0, rowP l)] (.pv (.tuple #[.int .i64 (k : Int), .bool b])) 0 []]
     True.intro (And.intro hb (And.intro (Eq.refl (List.map (SV.ren (renU [0] 2)) [.ls 0 l.length, .pv (.int .i64 (id)), .pv (.func (.func 159) #[] #[])])) (And.intro (reflH (renU [0] 2) [(0, 0, rowP l)]) True.intro))) (by kernel_rfl)

set_option maxRecDepth 100000 in
theorem pfind_yes {l : List Pt} {k : Nat} {p : Pt} {id : Int} (hk : l[k]? = some p) (hin : 0 ≤ (k : Int) ∧ (k : Int) < (l.length : Int)) (hc : FnL Try.prog 76 1 [fldS 0 l] [(0, 0, rowP l)] (.pv (.int .i64 (0))) 0 []) (hf : FnL Try.prog 139 1 [fldS 0 l, .pv (.int .i64 (id))] [(0, 0, rowP l)] (.pv (.tuple #[.int .i64 (k : Int), .bool true])) 0 []) :
    FnL Try.prog 118 1 [fldS 0 l, .pv (.int .i64 (id))] [(0, 0, rowP l)] (.pv (.tuple #[ptV p, .int .i64 (0)])) 0 [] :=
  fnl_run 300 [] [.f [0] [fldS 0 l] [(0, 0, rowP l)] (.pv (.int .i64 (0))) 0 [], .k, .f [0] [fldS 0 l, .pv (.int .i64 (id))] [(0, 0, rowP l)] (.pv (.tuple #[.int .i64 (k : Int), .bool true])) 0 [], .k, .r (ptV p)]
     True.intro (And.intro hc (And.intro (Eq.refl (List.map (SV.ren (renU [0] 3)) [fldS 0 l])) (And.intro (reflH (renU [0] 3) [(0, 0, rowP l)]) (And.intro hf (And.intro (Eq.refl (List.map (SV.ren (renU [0] 3)) [fldS 0 l, .pv (.int .i64 (id))])) (And.intro (reflH (renU [0] 3) [(0, 0, rowP l)]) (And.intro hin (And.intro (ra_pt hk) True.intro)))))))) (by kernel_rfl)

end Go.Proofs.Ytomnmoinahhdmaa
