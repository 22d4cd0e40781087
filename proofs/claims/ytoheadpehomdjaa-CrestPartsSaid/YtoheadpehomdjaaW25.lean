/-
  Joined: Cr, Pm, Ct, Fa, Fd, Fg, Fi, Fc. Conditions: none.
-/
import Derived.Test.YtoheadpehomdjaaW24
import Derived.Laws.Bits64b
namespace Go.Proofs.Ytoheadpehomdjaa
open Go.RowKit
/-- Is a point valid? -/
def okP (n a b : Int) : Bool := decide (0 ≤ n ∧ n ≤ 65535 ∧ -1048576 ≤ a ∧ a ≤ 1048576 ∧ -1048576 ≤ b ∧ b ≤ 1048576)
theorem okP_iff {n a b : Int} : okP n a b = true ↔ 0 ≤ n ∧ n ≤ 65535 ∧ -1048576 ≤ a ∧ a ≤ 1048576 ∧ -1048576 ≤ b ∧ b ≤ 1048576 := by simp [okP]
theorem dt {p : Prop} [Decidable p] (h : p) : decide p = true := by simp [h]
theorem df {p : Prop} [Decidable p] (h : ¬ p) : decide p = false := by simp [h]
theorem Check02_ok {n a b : Int} (h : okP n a b = true) : Pure Try.prog 39 #[pointV n a b] (.int .i64 0) := by
  have h' := okP_iff.1 h
  exact ck_ok (df (by omega)) (df (by omega)) (dt (by omega)) (dt (by omega)) (dt (by omega)) (dt (by omega))
theorem RCheck02_ok {n a b : Int} (h : okP n a b = true) : Pure Try.prog 55 #[pointV n a b] (.int .i64 0) := by
  have h' := okP_iff.1 h
  exact rck_ok (df (by omega)) (df (by omega)) (df (by omega)) (df (by omega)) (df (by omega)) (df (by omega))
theorem Check02_bad {n a b : Int} (h : ¬ okP n a b = true) : Pure Try.prog 39 #[pointV n a b] (.int .i64 8) := by
  rw [okP_iff] at h
  by_cases h1 : n < 0
  · exact ck_i0 (dt h1)
  by_cases h2 : n > 65535
  · exact ck_i1 (df h1) (dt h2)
  by_cases h3 : -1048576 ≤ a
  · by_cases h4 : a ≤ 1048576
    · by_cases h5 : -1048576 ≤ b
      · exact ck_bh (df h1) (df h2) (dt h3) (dt h4) (dt h5) (df (by omega))
      · exact ck_bl (df h1) (df h2) (dt h3) (dt h4) (df h5)
    · exact ck_ah (df h1) (df h2) (dt h3) (df h4)
  · exact ck_al (df h1) (df h2) (df h3)
theorem RCheck02_bad {n a b : Int} (h : ¬ okP n a b = true) : Pure Try.prog 55 #[pointV n a b] (.int .i64 8) := by
  rw [okP_iff] at h
  by_cases h1 : n < 0
  · exact rck_0 (dt h1)
  by_cases h2 : n > 65535
  · exact rck_1 (df h1) (dt h2)
  by_cases h3 : a < -1048576
  · exact rck_2 (df h1) (df h2) (dt h3)
  by_cases h4 : a > 1048576
  · exact rck_3 (df h1) (df h2) (df h3) (dt h4)
  by_cases h5 : b < -1048576
  · exact rck_4 (df h1) (df h2) (df h3) (df h4) (dt h5)
  · exact rck_5 (df h1) (df h2) (df h3) (df h4) (df h5) (dt (by omega))
/-- Ahead, by the places over the denominator. -/
def leadsB (P Q pb qb pi qi : Int) : Bool := decide (P > Q ∨ P = Q ∧ (pb > qb ∨ pb = qb ∧ pi < qi))
theorem leads_t {P Q pb qb pi qi : Int} (h : P > Q ∨ P = Q ∧ (pb > qb ∨ pb = qb ∧ pi < qi)) : leadsB P Q pb qb pi qi = true := dt h
theorem leads_f {P Q pb qb pi qi : Int} (h : ¬ (P > Q ∨ P = Q ∧ (pb > qb ∨ pb = qb ∧ pi < qi))) : leadsB P Q pb qb pi qi = false := df h

theorem meeting_ok {pi pa pb qi qa qb : Int} (hp : okP pi pa pb = true) (hq : okP qi qa qb = true) (hb : pb ≠ qb) :
    ∃ m n, okB m n = true ∧ I64 m ∧ I64 n ∧ m * (pb - qb) = (qa - pa) * n ∧ Pure Try.prog 61 #[pointV pi pa pb, pointV qi qa qb] (ratioV m n) := by
  have hp' := okP_iff.1 hp
  have hq' := okP_iff.1 hq
  obtain ⟨N, D, E, hr, hm⟩ := Make_res (a := qa - pa) (b := pb - qb) (by unfold I64; omega) (by unfold I64; omega) (by omega)
  have key : E = 0 ∧ okB N D = true ∧ I64 N ∧ I64 D ∧ N * (pb - qb) = (qa - pa) * D := by
    by_cases hs : 0 < pb - qb
    · exact hr.fits hs (by omega) (by omega) (by omega)
    · have h2 := hr.congr (p' := -(qa - pa)) (q' := -(pb - qb)) (by omega) (by omega) (by rw [Int.mul_neg, Int.neg_mul])
      obtain ⟨e1, e2, e3, e4, e5⟩ := h2.fits (by omega) (by omega) (by omega) (by omega)
      refine ⟨e1, e2, e3, e4, ?_⟩
      rw [Int.mul_neg, Int.neg_mul] at e5
      omega
  obtain ⟨rfl, k1, k2, k3, k4⟩ := key
  exact ⟨N, D, k1, k2, k3, k4, meeting_path (by rw [wrap_i64_in (by omega) (by omega)]) (by rw [wrap_i64_in (by omega) (by omega)]) hm⟩

theorem Ahead_ok {pi pa pb qi qa qb n d : Int} (hn : I64 n) (hd : I64 d) (hp : okP pi pa pb = true) (hq : okP qi qa qb = true) (ht : okB n d = true) (hij : pi ≠ qi) :
    Pure Try.prog 47 #[pointV pi pa pb, pointV qi qa qb, ratioV n d] (.tuple #[.bool (leadsB (pa * d + pb * n) (qa * d + qb * n) pb qb pi qi), .int .i64 0]) := by
  have c1 := Check02_ok hp
  have c2 := Check02_ok hq
  have c3 := Check_ok hn hd ht
  have c4 : Pure Try.prog 59 #[pointV pi pa pb, pointV qi qa qb] (.int .i64 0) := ids_n (by simp [hij])
  have d0 : 0 < d := by have := okB_den ht; omega
  by_cases hb : pb = qb
  · subst hb
    by_cases ha : pa = qa
    · subst ha
      by_cases hi : pi < qi
      · rw [leads_t (Or.inr ⟨rfl, Or.inr ⟨rfl, hi⟩⟩)]
        exact ahead_wt c1 c2 c3 c4 (by simp) (dt hi)
      · rw [leads_f (by omega)]
        exact ahead_wf c1 c2 c3 c4 (by simp) (df hi)
    · have e : pa * d - qa * d = (pa - qa) * d := (Int.sub_mul _ _ _).symm
      by_cases hg : pa > qa
      · have := Int.mul_pos (show 0 < pa - qa by omega) d0
        rw [leads_t (Or.inl (by omega))]
        exact ahead_bt c1 c2 c3 c4 (by simp [ha]) (by simp) (dt hg)
      · have := Int.mul_neg_of_neg_of_pos (show pa - qa < 0 by omega) d0
        rw [leads_f (by omega)]
        exact ahead_bf c1 c2 c3 c4 (by simp [ha]) (by simp) (df hg)
  · obtain ⟨m, k, h1, h2, h3, h4, h5⟩ := meeting_ok hp hq hb
    have cc := Cmp_ok hn hd h2 h3 ht h1
    have k0 : 0 < k := by have := okB_den h1; omega
    have key : (pa * d + pb * n - (qa * d + qb * n)) * k = (pb - qb) * (n * k - m * d) := by
      have e1 : (pb - qb) * (m * d) = (qa - pa) * k * d := by rw [← h4, ← Int.mul_assoc, Int.mul_comm (pb - qb) m]
      rw [Int.mul_sub, e1, Int.sub_mul, Int.add_mul, Int.add_mul, Int.sub_mul, Int.sub_mul, Int.sub_mul, ← Int.mul_assoc, ← Int.mul_assoc, Int.mul_right_comm qa k d, Int.mul_right_comm pa k d]
      omega
    have hs : (0 ≤ n * k - m * d ↔ (n * k - m * d).sign ≥ 0) := by
      rcases Int.lt_trichotomy (n * k - m * d) 0 with h | h | h
      · rw [Int.sign_eq_neg_one_of_neg h]; omega
      · rw [h]; decide
      · rw [Int.sign_eq_one_of_pos h]; omega
    generalize n * k - m * d = X at *
    generalize hP : pa * d + pb * n = P at *
    generalize hQ : qa * d + qb * n = Q at *
    by_cases hg : pb > qb
    · by_cases hx : 0 ≤ X
      · have := Int.mul_nonneg (show 0 ≤ pb - qb by omega) hx
        rw [leads_t (by
          rcases Int.lt_or_le P Q with h | h
          · have := Int.mul_neg_of_neg_of_pos (show P - Q < 0 by omega) k0; omega
          · rcases Int.lt_or_eq_of_le h with h | h
            · exact Or.inl h
            · exact Or.inr ⟨h.symm, Or.inl hg⟩)]
        exact ahead_mtt c1 c2 c3 c4 (by simp [hb]) (by simp [hb]) h5 cc (dt (hs.1 hx)) (dt hg)
      · have := Int.mul_neg_of_pos_of_neg (show 0 < pb - qb by omega) (show X < 0 by omega)
        rw [leads_f (by
          intro h
          have hle : 0 ≤ P - Q := by omega
          have := Int.mul_nonneg hle (Int.le_of_lt k0)
          omega)]
        exact ahead_mft c1 c2 c3 c4 (by simp [hb]) (by simp [hb]) h5 cc (df (fun h => hx (hs.2 h))) (dt hg)
    · by_cases hx : 0 ≤ X
      · have := Int.mul_nonneg (show 0 ≤ qb - pb by omega) hx
        have e : (pb - qb) * X = -((qb - pb) * X) := by rw [← Int.neg_mul]; congr 1; omega
        rw [leads_f (by
          intro h
          have hlt : 0 < P - Q := by omega
          have := Int.mul_pos hlt k0
          omega)]
        exact ahead_mtf c1 c2 c3 c4 (by simp [hb]) (by simp [hb]) h5 cc (dt (hs.1 hx)) (df hg)
      · have := Int.mul_pos_of_neg_of_neg (show pb - qb < 0 by omega) (show X < 0 by omega)
        rw [leads_t (by
          left
          rcases Int.lt_or_le Q P with h | h
          · exact h
          · have : (P - Q) * k ≤ 0 := by
              have := Int.mul_nonneg (show 0 ≤ Q - P by omega) (Int.le_of_lt k0)
              have e : (P - Q) * k = -((Q - P) * k) := by rw [← Int.neg_mul]; congr 1; omega
              omega
            omega)]
        exact ahead_mff c1 c2 c3 c4 (by simp [hb]) (by simp [hb]) h5 cc (df (fun h => hx (hs.2 h))) (df hg)

end Go.Proofs.Ytoheadpehomdjaa

namespace Go.Proofs.Ytoheadpehomdjaa
open Go.RowKit
theorem IsRes.uniq {p q N D E N' D' E' : Int} (h : IsRes p q N D E) (h' : IsRes p q N' D' E') (hq : q ≠ 0) : N = N' ∧ D = D' ∧ E = E' := by
  rcases h with ⟨e1, k1, i1, j1, f1⟩ | ⟨e1, n1, d1, g1⟩ <;> rcases h' with ⟨e2, k2, i2, j2, f2⟩ | ⟨e2, n2, d2, g2⟩
  · have e : N * D' = N' * D := by
      refine Int.eq_of_mul_eq_mul_right hq ?_
      rw [Int.mul_right_comm, f1, Int.mul_right_comm N' D q, f2, Int.mul_right_comm]
    obtain ⟨a, b⟩ := okB_one k1 k2 e
    exact ⟨a, b, e1.trans e2.symm⟩
  · exact absurd f1 (g2 N D k1 i1 j1)
  · exact absurd f2 (g1 N' D' k2 i2 j2)
  · exact ⟨n1.trans n2.symm, d1.trans d2.symm, e1.trans e2.symm⟩

end Go.Proofs.Ytoheadpehomdjaa

namespace Go.Proofs.Ytoheadpehomdjaa
open Go.RowKit
theorem sign_ge (X : Int) : (X.sign ≥ 0) ↔ 0 ≤ X := by
  rcases Int.lt_trichotomy X 0 with h | h | h
  · rw [Int.sign_eq_neg_one_of_neg h]; omega
  · rw [h]; decide
  · rw [Int.sign_eq_one_of_pos h]; omega
/-- From the meeting on the faster one is ahead, before it the other one. -/
theorem leads_meet {pi pa pb qi qa qb n d m k : Int} (k0 : 0 < k) (h4 : m * (pb - qb) = (qa - pa) * k) (hb : pb ≠ qb) :
    leadsB (pa * d + pb * n) (qa * d + qb * n) pb qb pi qi = (decide (pb > qb) == decide ((n * k - m * d).sign ≥ 0)) := by
  have key : (pa * d + pb * n - (qa * d + qb * n)) * k = (pb - qb) * (n * k - m * d) := by
    have e1 : (pb - qb) * (m * d) = (qa - pa) * k * d := by rw [← h4, ← Int.mul_assoc, Int.mul_comm (pb - qb) m]
    rw [Int.mul_sub, e1, Int.sub_mul, Int.add_mul, Int.add_mul, Int.sub_mul, Int.sub_mul, Int.sub_mul, ← Int.mul_assoc, ← Int.mul_assoc, Int.mul_right_comm qa k d, Int.mul_right_comm pa k d]
    omega
  have hs := sign_ge (n * k - m * d)
  generalize n * k - m * d = X at *
  generalize pa * d + pb * n = P at *
  generalize qa * d + qb * n = Q at *
  have hk : ((P - Q) * k < 0 ↔ P - Q < 0) ∧ (0 < (P - Q) * k ↔ 0 < P - Q) := by
    rcases Int.lt_trichotomy (P - Q) 0 with h | h | h
    · have := Int.mul_neg_of_neg_of_pos h k0; omega
    · rw [h]; simp
    · have := Int.mul_pos h k0; omega
  have hx : ((pb - qb) * X < 0 ↔ (pb > qb ∧ X < 0 ∨ pb < qb ∧ 0 < X)) ∧ (0 < (pb - qb) * X ↔ (pb > qb ∧ 0 < X ∨ pb < qb ∧ X < 0)) := by
    rcases Int.lt_trichotomy X 0 with h | h | h
    · rcases Int.lt_or_gt_of_ne hb with g | g
      · have := Int.mul_pos_of_neg_of_neg (show pb - qb < 0 by omega) h; omega
      · have := Int.mul_neg_of_pos_of_neg (show 0 < pb - qb by omega) h; omega
    · rw [h]; simp
    · rcases Int.lt_or_gt_of_ne hb with g | g
      · have := Int.mul_neg_of_neg_of_pos (show pb - qb < 0 by omega) h; omega
      · have := Int.mul_pos (show 0 < pb - qb by omega) h; omega
  rw [key] at hk
  by_cases g : pb > qb
  · by_cases l : 0 ≤ X
    · rw [dt g, dt (hs.2 l)]; exact leads_t (by omega)
    · rw [dt g, df (fun h => l (hs.1 h))]; exact leads_f (by omega)
  · by_cases l : 0 ≤ X
    · rw [df g, dt (hs.2 l)]; exact leads_f (by omega)
    · rw [df g, df (fun h => l (hs.1 h))]; exact leads_t (by omega)
/-- With the same B the time is of no account. -/
theorem leads_same {pi pa b qi qa n d : Int} (d0 : 0 < d) : leadsB (pa * d + b * n) (qa * d + b * n) b b pi qi = leadsB pa qa b b pi qi := by
  have e : pa * d - qa * d = (pa - qa) * d := (Int.sub_mul _ _ _).symm
  have hk : ((pa - qa) * d < 0 ↔ pa - qa < 0) ∧ (0 < (pa - qa) * d ↔ 0 < pa - qa) := by
    rcases Int.lt_trichotomy (pa - qa) 0 with h | h | h
    · have := Int.mul_neg_of_neg_of_pos h d0; omega
    · rw [h]; simp
    · have := Int.mul_pos h d0; omega
  unfold leadsB
  rw [← e] at hk
  exact decide_eq_decide.2 (by omega)
theorem checkIDs_n {pi pa pb qi qa qb : Int} (h : pi ≠ qi) : Pure Try.prog 59 #[pointV pi pa pb, pointV qi qa qb] (.int .i64 0) := ids_n (by simp [h])
/-- Both orders of two points have one meeting. -/
theorem meeting_both {pi pa pb qi qa qb : Int} (hp : okP pi pa pb = true) (hq : okP qi qa qb = true) (hb : pb ≠ qb) :
    ∃ m k, okB m k = true ∧ I64 m ∧ I64 k ∧ m * (pb - qb) = (qa - pa) * k ∧ Pure Try.prog 61 #[pointV pi pa pb, pointV qi qa qb] (ratioV m k) ∧ Pure Try.prog 61 #[pointV qi qa qb, pointV pi pa pb] (ratioV m k) := by
  obtain ⟨m, k, h1, h2, h3, h4, h5⟩ := meeting_ok hp hq hb
  obtain ⟨m', k', g1, g2, g3, g4, g5⟩ := meeting_ok hq hp (Ne.symm hb)
  have e : m * k' = m' * k := by
    refine Int.eq_of_mul_eq_mul_right (show pb - qb ≠ 0 by omega) ?_
    have a1 : m * k' * (pb - qb) = (qa - pa) * k * k' := by rw [Int.mul_right_comm, h4]
    have a2 : m' * k * (pb - qb) = -((pa - qa) * k' * k) := by
      rw [Int.mul_right_comm, ← Int.neg_mul, ← g4, ← Int.mul_neg]; congr 2; omega
    rw [a1, a2, ← Int.neg_mul, ← Int.neg_mul, Int.mul_right_comm (qa - pa) k k']
    congr 2; omega
  obtain ⟨rfl, rfl⟩ := okB_one h1 g1 e
  exact ⟨m, k, h1, h2, h3, h4, h5, g5⟩
end Go.Proofs.Ytoheadpehomdjaa

namespace Go.Proofs.Ytoheadpehomdjaa
open Go.RowKit
structure Pt where
  id : Int
  a : Int
  b : Int
abbrev ptV (p : Pt) : Value := pointV p.id p.a p.b
def ptsV : List Pt → List Value
  | [] => []
  | p :: r => .int .i64 p.id :: .int .i64 p.a :: .int .i64 p.b :: ptsV r
theorem ptsV_length : ∀ (l : List Pt), (ptsV l).length = l.length * 3
  | [] => rfl
  | p :: r => by simp [ptsV, ptsV_length r]; omega
theorem ptsV_get : ∀ {l : List Pt} {k : Nat} {p : Pt}, l[k]? = some p → (ptsV l)[k * 3]? = some (.int .i64 p.id) ∧ (ptsV l)[k * 3 + 1]? = some (.int .i64 p.a) ∧ (ptsV l)[k * 3 + 2]? = some (.int .i64 p.b)
  | [], k, p, h => by simp at h
  | q :: r, 0, p, h => by simp at h; subst h; exact ⟨rfl, rfl, rfl⟩
  | q :: r, k + 1, p, h => by
    have := ptsV_get (l := r) (k := k) (p := p) (by simpa using h)
    rw [show (k + 1) * 3 = k * 3 + 1 + 1 + 1 by omega]
    exact this
theorem ra_pt {l : List Pt} {k : Nat} {p : Pt} (h : l[k]? = some p) : rowAt (ptsV l) (0 * 3 + k * 3) [.int .i64 p.id, .int .i64 p.a, .int .i64 p.b] := by
  obtain ⟨h1, h2, h3⟩ := ptsV_get h
  intro j v hj
  rw [show 0 * 3 + k * 3 + j = k * 3 + j by omega]
  match j, hj with
  | 0, hj => cases hj; exact h1
  | 1, hj => cases hj; exact h2
  | 2, hj => cases hj; exact h3
  | j + 3, hj => simp at hj
theorem ra_id {l : List Pt} {k : Nat} {p : Pt} (h : l[k]? = some p) : rowAt (ptsV l) (0 * 3 + k * 3) [.int .i64 p.id] := by
  intro j v hj
  rw [show 0 * 3 + k * 3 + j = k * 3 + j by omega]
  match j, hj with
  | 0, hj => cases hj; exact (ptsV_get h).1
  | j + 1, hj => simp at hj

/-- Rounds, one after another. -/
theorem RunsL.rounds {P : Program} {lo fr : Nat} {c : Code} {n nb : Nat} (tm : Nat → List (Nat × SV)) (hp : Nat → List (Nat × Nat × SV)) {e : Exit} {tm2 : List (Nat × SV)} {hp2 : List (Nat × Nat × SV)} {N : Nat} :
    ∀ (d i : Nat), i + d = N → (∀ j, i ≤ j → j < N → RunsL P lo fr c n nb (tm (j + 1)) (hp (j + 1)) e tm2 hp2 → RunsL P lo fr c n nb (tm j) (hp j) e tm2 hp2) → RunsL P lo fr c n nb (tm N) (hp N) e tm2 hp2 → RunsL P lo fr c n nb (tm i) (hp i) e tm2 hp2
  | 0, i, h, _, last => by have : i = N := by omega
                           subst this; exact last
  | d + 1, i, h, step, last => step i (Nat.le_refl i) (by omega) (RunsL.rounds tm hp d (i + 1) (by omega) (fun j h1 h2 => step j (by omega) h2) last)

abbrev rowP (l : List Pt) : SV := .row 41 3 l.length (ptsV l)
abbrev fldS (b : Nat) (l : List Pt) : SV := .ag [.ls b l.length]
theorem i64_succ {k : Nat} (h : k ≤ 1000000) : Value.int .i64 (IntKind.i64.wrap ((k : Int) + 1)) = .int .i64 ((k + 1 : Nat) : Int) := by rw [wrap_i64_in (by omega) (by omega)]; rfl

set_option maxRecDepth 100000 in
theorem great_t {l : List Pt} (h1 : decide ((l.length : Int) > 16) = true) (h2 : decide ((l.length : Int) < 64) = true) : FnL Try.prog 27 1 [fldS 0 l] [(0, 0, rowP l)] (.pv (.bool true)) 0 [] :=
  fnl_run 200 [] [.t true, .t true] True.intro (And.intro h1 (And.intro h2 True.intro)) (by kernel_rfl)
set_option maxRecDepth 100000 in
theorem great_f {l : List Pt} (h1 : decide ((l.length : Int) > 16) = false) (h2 : decide ((l.length : Int) > 70) = false) : FnL Try.prog 27 1 [fldS 0 l] [(0, 0, rowP l)] (.pv (.bool false)) 0 [] :=
  fnl_run 200 [] [.t false, .t false] True.intro (And.intro h1 (And.intro h2 True.intro)) (by kernel_rfl)
set_option maxRecDepth 100000 in
theorem great_t2 {l : List Pt} (h1 : decide ((l.length : Int) > 16) = true) (h2 : decide ((l.length : Int) < 64) = false) (h3 : decide ((l.length : Int) > 70) = true) : FnL Try.prog 27 1 [fldS 0 l] [(0, 0, rowP l)] (.pv (.bool true)) 0 [] :=
  fnl_run 200 [] [.t true, .t false, .t true] True.intro (And.intro h1 (And.intro h2 (And.intro h3 True.intro))) (by kernel_rfl)
set_option maxRecDepth 100000 in
theorem great_f2 {l : List Pt} (h1 : decide ((l.length : Int) > 16) = true) (h2 : decide ((l.length : Int) < 64) = false) (h3 : decide ((l.length : Int) > 70) = false) : FnL Try.prog 27 1 [fldS 0 l] [(0, 0, rowP l)] (.pv (.bool false)) 0 [] :=
  fnl_run 200 [] [.t true, .t false, .t false] True.intro (And.intro h1 (And.intro h2 (And.intro h3 True.intro))) (by kernel_rfl)

def idsV (l : List Int) : List Value := l.map fun x => .int .i64 x
abbrev rowI (l : List Int) : SV := .row 3 1 l.length (idsV l)
theorem ra_int {l : List Int} {k : Nat} {x : Int} (h : l[k]? = some x) : rowAt (idsV l) (0 * 1 + k * 1) [.int .i64 x] := by
  intro j v hj
  match j, hj with
  | 0, hj => cases hj; simp [idsV, h]
  | j + 1, hj => simp at hj
end Go.Proofs.Ytoheadpehomdjaa

namespace Go.Proofs.Ytoheadpehomdjaa
open Go.RowKit
set_option maxRecDepth 100000 in
theorem cwt_err {l : List Pt} {tn td : Int} {e : Int} (hc : FnL Try.prog 22 1 [fldS 0 l] [(0, 0, rowP l)] (.pv (.int .i64 (e))) 0 []) (he : (e != 0) = true) :
    FnL Try.prog 29 1 [fldS 0 l, .pv (ratioV tn td)] [(0, 0, rowP l)] (.pv (.int .i64 (e))) 0 [] :=
  fnl_run 300 [] [.f [0] [fldS 0 l] [(0, 0, rowP l)] (.pv (.int .i64 (e))) 0 [], .t true]
     True.intro (And.intro hc (And.intro (Eq.refl (List.map (SV.ren (renU [0] 3)) [fldS 0 l])) (And.intro (reflH (renU [0] 3) [(0, 0, rowP l)]) (And.intro he True.intro)))) (by kernel_rfl)

set_option maxRecDepth 100000 in
theorem cwt_ok {l : List Pt} {tn td : Int} {e : Int} (hc : FnL Try.prog 22 1 [fldS 0 l] [(0, 0, rowP l)] (.pv (.int .i64 (0))) 0 []) (ht : Pure Try.prog 19 #[ratioV tn td] (.int .i64 (e))) :
    FnL Try.prog 29 1 [fldS 0 l, .pv (ratioV tn td)] [(0, 0, rowP l)] (.pv (.int .i64 (e))) 0 [] :=
  fnl_run 300 [] [.f [0] [fldS 0 l] [(0, 0, rowP l)] (.pv (.int .i64 (0))) 0 [], .k, .r (.int .i64 (e))]
     True.intro (And.intro hc (And.intro (Eq.refl (List.map (SV.ren (renU [0] 3)) [fldS 0 l])) (And.intro (reflH (renU [0] 3) [(0, 0, rowP l)]) (And.intro ht True.intro)))) (by kernel_rfl)

set_option maxRecDepth 100000 in
theorem tmd_err {l : List Pt} {tn td : Int} {e : Int} (hc : FnL Try.prog 44 1 [fldS 0 l] [(0, 0, rowP l)] (.pv (.int .i64 (e))) 0 []) (he : (e != 0) = true) :
    FnL Try.prog 28 1 [fldS 0 l, .pv (ratioV tn td)] [(0, 0, rowP l)] (.pv (.int .i64 (e))) 0 [] :=
  fnl_run 300 [] [.f [0] [fldS 0 l] [(0, 0, rowP l)] (.pv (.int .i64 (e))) 0 [], .t true]
     True.intro (And.intro hc (And.intro (Eq.refl (List.map (SV.ren (renU [0] 3)) [fldS 0 l])) (And.intro (reflH (renU [0] 3) [(0, 0, rowP l)]) (And.intro he True.intro)))) (by kernel_rfl)

set_option maxRecDepth 100000 in
theorem tmd_ok {l : List Pt} {tn td : Int} {e : Int} (hc : FnL Try.prog 44 1 [fldS 0 l] [(0, 0, rowP l)] (.pv (.int .i64 (0))) 0 []) (ht : Pure Try.prog 45 #[ratioV tn td] (.int .i64 (e))) :
    FnL Try.prog 28 1 [fldS 0 l, .pv (ratioV tn td)] [(0, 0, rowP l)] (.pv (.int .i64 (e))) 0 [] :=
  fnl_run 300 [] [.f [0] [fldS 0 l] [(0, 0, rowP l)] (.pv (.int .i64 (0))) 0 [], .k, .r (.int .i64 (e))]
     True.intro (And.intro hc (And.intro (Eq.refl (List.map (SV.ren (renU [0] 3)) [fldS 0 l])) (And.intro (reflH (renU [0] 3) [(0, 0, rowP l)]) (And.intro ht True.intro)))) (by kernel_rfl)

end Go.Proofs.Ytoheadpehomdjaa

namespace Go.Proofs.Ytoheadpehomdjaa
open Go.RowKit
set_option maxRecDepth 100000 in
theorem find1_lt {a pa pb id : Int} (n1 : (!(a == a)) = false) (n2 : (!(id == id)) = false) (h1 : decide (a < id) = true) : Pure Try.prog 68 #[pointV a pa pb, .int .i64 id] (.int .i64 (-1)) :=
  pure_run (args := [pointV a pa pb, .int .i64 id]) 200 [.k, .k, .t false, .k, .t false, .t true] (And.intro rfl (And.intro n1 (And.intro n2 (And.intro h1 True.intro)))) (by kernel_rfl)

set_option maxRecDepth 100000 in
theorem find1_gt {a pa pb id : Int} (n1 : (!(a == a)) = false) (n2 : (!(id == id)) = false) (h1 : decide (a < id) = false) (h2 : decide (a > id) = true) : Pure Try.prog 68 #[pointV a pa pb, .int .i64 id] (.int .i64 (1)) :=
  pure_run (args := [pointV a pa pb, .int .i64 id]) 200 [.k, .k, .t false, .k, .t false, .t false, .t true] (And.intro rfl (And.intro n1 (And.intro n2 (And.intro h1 (And.intro h2 True.intro))))) (by kernel_rfl)

set_option maxRecDepth 100000 in
theorem find1_eq {a pa pb id : Int} (n1 : (!(a == a)) = false) (n2 : (!(id == id)) = false) (h1 : decide (a < id) = false) (h2 : decide (a > id) = false) : Pure Try.prog 68 #[pointV a pa pb, .int .i64 id] (.int .i64 (0)) :=
  pure_run (args := [pointV a pa pb, .int .i64 id]) 200 [.k, .k, .t false, .k, .t false, .t false, .t false] (And.intro rfl (And.intro n1 (And.intro n2 (And.intro h1 (And.intro h2 True.intro))))) (by kernel_rfl)

set_option maxRecDepth 100000 in
theorem bs_up {l : List Pt} {i j h : Nat} {p : Pt} {c : Int} {id : Int} (hk : l[h]? = some p) (hin : 0 ≤ (h : Int) ∧ (h : Int) < (l.length : Int)) (hlt : decide ((i : Int) < (j : Int)) = true) (ha : Value.int .i64 (IntKind.i64.wrap ((i : Int) + (j : Int))) = .int .i64 ((i : Int) + (j : Int))) (hu : Value.int .u64 (IntKind.u64.wrap ((i : Int) + (j : Int))) = .int .u64 ((i : Int) + (j : Int))) (h1 : ¬ (1 : Int) < 0) (hs : Value.int .u64 (((i : Int) + (j : Int)).fdiv (2 ^ (min (1 : Int).toNat IntKind.u64.bits))) = .int .u64 (h : Int)) (hb : Value.int .i64 (IntKind.i64.wrap (h : Int)) = .int .i64 ((h : Int))) (hc : Pure Try.prog 68 #[pointV p.id p.a p.b, .int .i64 id] (.int .i64 (c))) (hz : decide (c < 0) = true) (hh : Value.int .i64 (IntKind.i64.wrap ((h : Int) + 1)) = .int .i64 (((h + 1 : Nat) : Int))) {e : Exit} {tm2 : List (Nat × SV)} {hp2 : List (Nat × Nat × SV)}
    (r : RunsL Try.prog 1 1 (loopOf Try.prog 67 0) 49 1 ([(0, .ls 0 l.length), (1, .pv (.int .i64 id)), (2, .pv (.func (.func 68) #[] #[])), (8, .pv (.int .i64 (l.length : Int))), (9, .pv (.int .i64 ((h + 1 : Nat) : Int))), (10, .pv (.int .i64 (j : Int)))]) ([(0, 0, rowP l)]) e tm2 hp2) : RunsL Try.prog 1 1 (loopOf Try.prog 67 0) 49 1 ([(0, .ls 0 l.length), (1, .pv (.int .i64 id)), (2, .pv (.func (.func 68) #[] #[])), (8, .pv (.int .i64 (l.length : Int))), (9, .pv (.int .i64 (i : Int))), (10, .pv (.int .i64 (j : Int)))]) ([(0, 0, rowP l)]) e tm2 hp2 :=
  RunsL.next [] 300 [.t true, .r (.int .i64 ((i : Int) + (j : Int))), .r (.int .u64 ((i : Int) + (j : Int))), .r (.int .u64 (h : Int)), .r (.int .i64 ((h : Int))), .r (ptV p), .r (.int .i64 (c)), .t true, .r (.int .i64 (((h + 1 : Nat) : Int)))]
    (round_of (And.intro hlt (And.intro ha (And.intro hu (And.intro h1 (And.intro hs (And.intro hb (And.intro hin (And.intro (ra_pt hk) (And.intro hc (And.intro hz (And.intro hh True.intro))))))))))) (by kernel_rfl)) r

set_option maxRecDepth 100000 in
theorem bs_dn {l : List Pt} {i j h : Nat} {p : Pt} {c : Int} {id : Int} (hk : l[h]? = some p) (hin : 0 ≤ (h : Int) ∧ (h : Int) < (l.length : Int)) (hlt : decide ((i : Int) < (j : Int)) = true) (ha : Value.int .i64 (IntKind.i64.wrap ((i : Int) + (j : Int))) = .int .i64 ((i : Int) + (j : Int))) (hu : Value.int .u64 (IntKind.u64.wrap ((i : Int) + (j : Int))) = .int .u64 ((i : Int) + (j : Int))) (h1 : ¬ (1 : Int) < 0) (hs : Value.int .u64 (((i : Int) + (j : Int)).fdiv (2 ^ (min (1 : Int).toNat IntKind.u64.bits))) = .int .u64 (h : Int)) (hb : Value.int .i64 (IntKind.i64.wrap (h : Int)) = .int .i64 ((h : Int))) (hc : Pure Try.prog 68 #[pointV p.id p.a p.b, .int .i64 id] (.int .i64 (c))) (hz : decide (c < 0) = false) {e : Exit} {tm2 : List (Nat × SV)} {hp2 : List (Nat × Nat × SV)}
    (r : RunsL Try.prog 1 1 (loopOf Try.prog 67 0) 49 1 ([(0, .ls 0 l.length), (1, .pv (.int .i64 id)), (2, .pv (.func (.func 68) #[] #[])), (8, .pv (.int .i64 (l.length : Int))), (9, .pv (.int .i64 (i : Int))), (10, .pv (.int .i64 (h : Int)))]) ([(0, 0, rowP l)]) e tm2 hp2) : RunsL Try.prog 1 1 (loopOf Try.prog 67 0) 49 1 ([(0, .ls 0 l.length), (1, .pv (.int .i64 id)), (2, .pv (.func (.func 68) #[] #[])), (8, .pv (.int .i64 (l.length : Int))), (9, .pv (.int .i64 (i : Int))), (10, .pv (.int .i64 (j : Int)))]) ([(0, 0, rowP l)]) e tm2 hp2 :=
  RunsL.next [] 300 [.t true, .r (.int .i64 ((i : Int) + (j : Int))), .r (.int .u64 ((i : Int) + (j : Int))), .r (.int .u64 (h : Int)), .r (.int .i64 ((h : Int))), .r (ptV p), .r (.int .i64 (c)), .t false]
    (round_of (And.intro hlt (And.intro ha (And.intro hu (And.intro h1 (And.intro hs (And.intro hb (And.intro hin (And.intro (ra_pt hk) (And.intro hc (And.intro hz True.intro)))))))))) (by kernel_rfl)) r

set_option maxRecDepth 100000 in
theorem bs_end {l : List Pt} {i j : Nat} {id : Int} (hge : decide ((i : Int) < (j : Int)) = false) : RunsL Try.prog 1 1 (loopOf Try.prog 67 0) 49 1 ([(0, .ls 0 l.length), (1, .pv (.int .i64 id)), (2, .pv (.func (.func 68) #[] #[])), (8, .pv (.int .i64 (l.length : Int))), (9, .pv (.int .i64 (i : Int))), (10, .pv (.int .i64 (j : Int)))]) ([(0, 0, rowP l)]) (.exit 0) ([(0, .ls 0 l.length), (1, .pv (.int .i64 id)), (2, .pv (.func (.func 68) #[] #[])), (8, .pv (.int .i64 (l.length : Int))), (9, .pv (.int .i64 (i : Int))), (10, .pv (.int .i64 (j : Int)))]) ([(0, 0, rowP l)]) :=
  RunsL.stop [] 300 [.t false] (fun h => by cases h)
    (round_of (And.intro hge True.intro) (by kernel_rfl))

set_option maxRecDepth 100000 in
theorem bsf_hit {l : List Pt} {k : Nat} {p : Pt} {c : Int} {id : Int} (r0 : RunsL Try.prog 1 1 (loopOf Try.prog 67 0) 49 1 ([(0, .ls 0 l.length), (1, .pv (.int .i64 id)), (2, .pv (.func (.func 68) #[] #[])), (8, .pv (.int .i64 (l.length : Int))), (9, .pv (.int .i64 ((0 : Nat) : Int))), (10, .pv (.int .i64 (l.length : Int)))]) ([(0, 0, rowP l)]) (.exit 0) ([(0, .ls 0 l.length), (1, .pv (.int .i64 id)), (2, .pv (.func (.func 68) #[] #[])), (8, .pv (.int .i64 (l.length : Int))), (9, .pv (.int .i64 (k : Int))), (10, .pv (.int .i64 (k : Int)))]) ([(0, 0, rowP l)])) (hk : l[k]? = some p) (hin : 0 ≤ (k : Int) ∧ (k : Int) < (l.length : Int)) (hlt : decide ((k : Int) < (l.length : Int)) = true) (hc : Pure Try.prog 68 #[pointV p.id p.a p.b, .int .i64 id] (.int .i64 (c))) (hz : (c == 0) = true) :
    FnL Try.prog 67 1 [.ls 0 l.length, .pv (.int .i64 (id)), .pv (.func (.func 68) #[] #[])] [(0, 0, rowP l)] (.pv (.tuple #[.int .i64 (k : Int), .bool true])) 0 [] :=
  fnl_run 300 [] [.l (.exit 0) ([(0, .ls 0 l.length), (1, .pv (.int .i64 id)), (2, .pv (.func (.func 68) #[] #[])), (8, .pv (.int .i64 (l.length : Int))), (9, .pv (.int .i64 ((0 : Nat) : Int))), (10, .pv (.int .i64 (l.length : Int)))]) ([(0, 0, rowP l)]) ([(0, .ls 0 l.length), (1, .pv (.int .i64 id)), (2, .pv (.func (.func 68) #[] #[])), (8, .pv (.int .i64 (l.length : Int))), (9, .pv (.int .i64 (k : Int))), (10, .pv (.int .i64 (k : Int)))]) ([(0, 0, rowP l)]), .t true, .r (ptV p), .r (.int .i64 (c)), .t true]
     True.intro (And.intro (reflT (renN []) ([(0, .ls 0 l.length), (1, .pv (.int .i64 id)), (2, .pv (.func (.func 68) #[] #[])), (8, .pv (.int .i64 (l.length : Int))), (9, .pv (.int .i64 ((0 : Nat) : Int))), (10, .pv (.int .i64 (l.length : Int)))])) (And.intro (reflH (renN []) ([(0, 0, rowP l)])) (And.intro r0 (And.intro hlt (And.intro hin (And.intro (ra_pt hk) (And.intro hc (And.intro hz True.intro)))))))) (by kernel_rfl)

set_option maxRecDepth 100000 in
theorem find_path {l : List Pt} {k : Nat} {b : Bool} {id : Int} (hb : FnL Try.prog 67 1 [.ls 0 l.length, .pv (.int .i64 (id)), .pv (.func (.func 68) #[] #[])] [(0, 0, rowP l)] (.pv (.tuple #[.int .i64 (k : Int), .bool b])) 0 []) :
    FnL Try.prog 51 1 [fldS 0 l, .pv (.int .i64 (id))] [(0, 0, rowP l)] (.pv (.tuple #[.int .i64 (k : Int), .bool b])) 0 [] :=
  fnl_run 300 [] [.f [0] [.ls 0 l.length, .pv (.int .i64 (id)), .pv (.func (.func 68) #[] #[])] [(0, 0, rowP l)] (.pv (.tuple #[.int .i64 (k : Int), .bool b])) 0 []]
     True.intro (And.intro hb (And.intro (Eq.refl (List.map (SV.ren (renU [0] 2)) [.ls 0 l.length, .pv (.int .i64 (id)), .pv (.func (.func 68) #[] #[])])) (And.intro (reflH (renU [0] 2) [(0, 0, rowP l)]) True.intro))) (by kernel_rfl)

set_option maxRecDepth 100000 in
theorem pfind_yes {l : List Pt} {k : Nat} {p : Pt} {id : Int} (hk : l[k]? = some p) (hin : 0 ≤ (k : Int) ∧ (k : Int) < (l.length : Int)) (hc : FnL Try.prog 22 1 [fldS 0 l] [(0, 0, rowP l)] (.pv (.int .i64 (0))) 0 []) (hf : FnL Try.prog 51 1 [fldS 0 l, .pv (.int .i64 (id))] [(0, 0, rowP l)] (.pv (.tuple #[.int .i64 (k : Int), .bool true])) 0 []) :
    FnL Try.prog 40 1 [fldS 0 l, .pv (.int .i64 (id))] [(0, 0, rowP l)] (.pv (.tuple #[ptV p, .int .i64 (0)])) 0 [] :=
  fnl_run 300 [] [.f [0] [fldS 0 l] [(0, 0, rowP l)] (.pv (.int .i64 (0))) 0 [], .k, .f [0] [fldS 0 l, .pv (.int .i64 (id))] [(0, 0, rowP l)] (.pv (.tuple #[.int .i64 (k : Int), .bool true])) 0 [], .k, .r (ptV p)]
     True.intro (And.intro hc (And.intro (Eq.refl (List.map (SV.ren (renU [0] 3)) [fldS 0 l])) (And.intro (reflH (renU [0] 3) [(0, 0, rowP l)]) (And.intro hf (And.intro (Eq.refl (List.map (SV.ren (renU [0] 3)) [fldS 0 l, .pv (.int .i64 (id))])) (And.intro (reflH (renU [0] 3) [(0, 0, rowP l)]) (And.intro hin (And.intro (ra_pt hk) True.intro)))))))) (by kernel_rfl)

end Go.Proofs.Ytoheadpehomdjaa

namespace Go.Proofs.Ytoheadpehomdjaa
open Go.RowKit
set_option maxRecDepth 100000 in
theorem lf_eq {p q : Pt} {tn td : Int} (he : (p.id == q.id) = true) :
    FnL Try.prog 46 1 [.pv (ptV p), .pv (ptV q), .pp 0 0] [(0, 0, .pv (.int .i64 tn)), (0, 1, .pv (.int .i64 td))] (.pv (.int .i64 (0))) 0 [] :=
  fnl_run 300 [] [.t true]
     True.intro (And.intro he True.intro) (by kernel_rfl)

set_option maxRecDepth 100000 in
theorem lf_lt {p q : Pt} {tn td : Int} (he : (p.id == q.id) = false) (ha : Pure Try.prog 47 #[pointV p.id p.a p.b, pointV q.id q.a q.b, ratioV tn td] (.tuple #[.bool true, .int .i64 0])) :
    FnL Try.prog 46 1 [.pv (ptV p), .pv (ptV q), .pp 0 0] [(0, 0, .pv (.int .i64 tn)), (0, 1, .pv (.int .i64 td))] (.pv (.int .i64 (-1))) 0 [] :=
  fnl_run 300 [] [.t false, .r (.tuple #[.bool true, .int .i64 0])]
     True.intro (And.intro he (And.intro ha True.intro)) (by kernel_rfl)

set_option maxRecDepth 100000 in
theorem lf_gt {p q : Pt} {tn td : Int} (he : (p.id == q.id) = false) (ha : Pure Try.prog 47 #[pointV p.id p.a p.b, pointV q.id q.a q.b, ratioV tn td] (.tuple #[.bool false, .int .i64 0])) :
    FnL Try.prog 46 1 [.pv (ptV p), .pv (ptV q), .pp 0 0] [(0, 0, .pv (.int .i64 tn)), (0, 1, .pv (.int .i64 td))] (.pv (.int .i64 (1))) 0 [] :=
  fnl_run 300 [] [.t false, .r (.tuple #[.bool false, .int .i64 0])]
     True.intro (And.intro he (And.intro ha True.intro)) (by kernel_rfl)

set_option maxRecDepth 100000 in
theorem mf_up {l : List Pt} {k : Nat} {p m : Pt} {c : Int} {tn td : Int} (hk : l[k]? = some p) (hin : 0 ≤ (k : Int) ∧ (k : Int) < (l.length : Int)) (hlt : decide ((k : Int) < (l.length : Int)) = true) (hc : FnL Try.prog 46 1 [.pv (ptV p), .pv (ptV m), .pp 0 0] [(0, 0, .pv (.int .i64 tn)), (0, 1, .pv (.int .i64 td))] (.pv (.int .i64 (c))) 0 []) (hz : decide (c < 0) = true) (hs : Value.int .i64 (IntKind.i64.wrap ((k : Int) + 1)) = .int .i64 (((k + 1 : Nat) : Int))) {e : Exit} {tm2 : List (Nat × SV)} {hp2 : List (Nat × Nat × SV)}
    (r : RunsL Try.prog 2 2 (loopOf Try.prog 30 0) 33 4 ([(0, .ls 0 l.length), (1, .pc 46 [.pp 1 0]), (4, .pp 2 0), (5, .pp 3 0), (6, .pv (.int .i64 ((k + 1 : Nat) : Int)))]) ([(0, 0, rowP l), (1, 0, .pv (.int .i64 tn)), (1, 1, .pv (.int .i64 td)), (3, 0, .pv (.int .i64 (p).id)), (3, 1, .pv (.int .i64 (p).a)), (3, 2, .pv (.int .i64 (p).b)), (2, 0, .pv (.int .i64 0)), (2, 1, .pv (.int .i64 0)), (2, 2, .pv (.int .i64 0))]) e tm2 hp2) : RunsL Try.prog 2 2 (loopOf Try.prog 30 0) 33 4 ([(0, .ls 0 l.length), (1, .pc 46 [.pp 1 0]), (4, .pp 2 0), (5, .pp 3 0), (6, .pv (.int .i64 (k : Int)))]) ([(0, 0, rowP l), (1, 0, .pv (.int .i64 tn)), (1, 1, .pv (.int .i64 td)), (3, 0, .pv (.int .i64 (m).id)), (3, 1, .pv (.int .i64 (m).a)), (3, 2, .pv (.int .i64 (m).b)), (2, 0, .pv (.int .i64 0)), (2, 1, .pv (.int .i64 0)), (2, 2, .pv (.int .i64 0))]) e tm2 hp2 :=
  RunsL.next [] 300 [.t true, .r (ptV p), .f [1] [.pv (ptV p), .pv (ptV m), .pp 0 0] [(0, 0, .pv (.int .i64 tn)), (0, 1, .pv (.int .i64 td))] (.pv (.int .i64 (c))) 0 [], .t true, .r (ptV p), .r (.int .i64 (((k + 1 : Nat) : Int)))]
    (round_of (And.intro hlt (And.intro hin (And.intro (ra_pt hk) (And.intro hc (And.intro (Eq.refl (List.map (SV.ren (renU [1] 4)) [.pv (ptV p), .pv (ptV m), .pp 0 0])) (And.intro (reflH (renU [1] 4) [(0, 0, .pv (.int .i64 tn)), (0, 1, .pv (.int .i64 td))]) (And.intro hz (And.intro hin (And.intro (ra_pt hk) (And.intro hs True.intro)))))))))) (by kernel_rfl)) r

set_option maxRecDepth 100000 in
theorem mf_no {l : List Pt} {k : Nat} {p m : Pt} {c : Int} {tn td : Int} (hk : l[k]? = some p) (hin : 0 ≤ (k : Int) ∧ (k : Int) < (l.length : Int)) (hlt : decide ((k : Int) < (l.length : Int)) = true) (hc : FnL Try.prog 46 1 [.pv (ptV p), .pv (ptV m), .pp 0 0] [(0, 0, .pv (.int .i64 tn)), (0, 1, .pv (.int .i64 td))] (.pv (.int .i64 (c))) 0 []) (hz : decide (c < 0) = false) (hs : Value.int .i64 (IntKind.i64.wrap ((k : Int) + 1)) = .int .i64 (((k + 1 : Nat) : Int))) {e : Exit} {tm2 : List (Nat × SV)} {hp2 : List (Nat × Nat × SV)}
    (r : RunsL Try.prog 2 2 (loopOf Try.prog 30 0) 33 4 ([(0, .ls 0 l.length), (1, .pc 46 [.pp 1 0]), (4, .pp 2 0), (5, .pp 3 0), (6, .pv (.int .i64 ((k + 1 : Nat) : Int)))]) ([(0, 0, rowP l), (1, 0, .pv (.int .i64 tn)), (1, 1, .pv (.int .i64 td)), (3, 0, .pv (.int .i64 (m).id)), (3, 1, .pv (.int .i64 (m).a)), (3, 2, .pv (.int .i64 (m).b)), (2, 0, .pv (.int .i64 0)), (2, 1, .pv (.int .i64 0)), (2, 2, .pv (.int .i64 0))]) e tm2 hp2) : RunsL Try.prog 2 2 (loopOf Try.prog 30 0) 33 4 ([(0, .ls 0 l.length), (1, .pc 46 [.pp 1 0]), (4, .pp 2 0), (5, .pp 3 0), (6, .pv (.int .i64 (k : Int)))]) ([(0, 0, rowP l), (1, 0, .pv (.int .i64 tn)), (1, 1, .pv (.int .i64 td)), (3, 0, .pv (.int .i64 (m).id)), (3, 1, .pv (.int .i64 (m).a)), (3, 2, .pv (.int .i64 (m).b)), (2, 0, .pv (.int .i64 0)), (2, 1, .pv (.int .i64 0)), (2, 2, .pv (.int .i64 0))]) e tm2 hp2 :=
  RunsL.next [] 300 [.t true, .r (ptV p), .f [1] [.pv (ptV p), .pv (ptV m), .pp 0 0] [(0, 0, .pv (.int .i64 tn)), (0, 1, .pv (.int .i64 td))] (.pv (.int .i64 (c))) 0 [], .t false, .r (.int .i64 (((k + 1 : Nat) : Int)))]
    (round_of (And.intro hlt (And.intro hin (And.intro (ra_pt hk) (And.intro hc (And.intro (Eq.refl (List.map (SV.ren (renU [1] 4)) [.pv (ptV p), .pv (ptV m), .pp 0 0])) (And.intro (reflH (renU [1] 4) [(0, 0, .pv (.int .i64 tn)), (0, 1, .pv (.int .i64 td))]) (And.intro hz (And.intro hs True.intro)))))))) (by kernel_rfl)) r

set_option maxRecDepth 100000 in
theorem mf_end {l : List Pt} {k : Nat} {m : Pt} {tn td : Int} (hge : decide ((k : Int) < (l.length : Int)) = false) : RunsL Try.prog 2 2 (loopOf Try.prog 30 0) 33 4 ([(0, .ls 0 l.length), (1, .pc 46 [.pp 1 0]), (4, .pp 2 0), (5, .pp 3 0), (6, .pv (.int .i64 (k : Int)))]) ([(0, 0, rowP l), (1, 0, .pv (.int .i64 tn)), (1, 1, .pv (.int .i64 td)), (3, 0, .pv (.int .i64 (m).id)), (3, 1, .pv (.int .i64 (m).a)), (3, 2, .pv (.int .i64 (m).b)), (2, 0, .pv (.int .i64 0)), (2, 1, .pv (.int .i64 0)), (2, 2, .pv (.int .i64 0))]) (.exit 0) ([(4, .pp 2 0), (5, .pp 3 0)]) ([(0, 0, rowP l), (1, 0, .pv (.int .i64 tn)), (1, 1, .pv (.int .i64 td)), (3, 0, .pv (.int .i64 (m).id)), (3, 1, .pv (.int .i64 (m).a)), (3, 2, .pv (.int .i64 (m).b)), (2, 0, .pv (.int .i64 0)), (2, 1, .pv (.int .i64 0)), (2, 2, .pv (.int .i64 0))]) :=
  RunsL.stop [] 300 [.t false] (fun h => by cases h)
    (round_of (And.intro hge True.intro) (by kernel_rfl))

set_option maxRecDepth 100000 in
theorem mf_path {l : List Pt} {p m : Pt} {tn td : Int} (hk : l[0]? = some p) (hin : 0 ≤ (0 : Int) ∧ (0 : Int) < (l.length : Int)) (h1 : decide ((l.length : Int) < 1) = false) (r0 : RunsL Try.prog 2 2 (loopOf Try.prog 30 0) 33 4 ([(0, .ls 0 l.length), (1, .pc 46 [.pp 1 0]), (4, .pp 2 0), (5, .pp 3 0), (6, .pv (.int .i64 (((0 + 1 : Nat)) : Int)))]) ([(0, 0, rowP l), (1, 0, .pv (.int .i64 tn)), (1, 1, .pv (.int .i64 td)), (3, 0, .pv (.int .i64 (p).id)), (3, 1, .pv (.int .i64 (p).a)), (3, 2, .pv (.int .i64 (p).b)), (2, 0, .pv (.int .i64 0)), (2, 1, .pv (.int .i64 0)), (2, 2, .pv (.int .i64 0))]) (.exit 0) ([(4, .pp 2 0), (5, .pp 3 0)]) ([(0, 0, rowP l), (1, 0, .pv (.int .i64 tn)), (1, 1, .pv (.int .i64 td)), (3, 0, .pv (.int .i64 (m).id)), (3, 1, .pv (.int .i64 (m).a)), (3, 2, .pv (.int .i64 (m).b)), (2, 0, .pv (.int .i64 0)), (2, 1, .pv (.int .i64 0)), (2, 2, .pv (.int .i64 0))])) :
    FnL Try.prog 30 2 [.ls 0 l.length, .pc 46 [.pp 1 0]] [(0, 0, rowP l), (1, 0, .pv (.int .i64 tn)), (1, 1, .pv (.int .i64 td))] (.pv (ptV m)) 0 [] :=
  fnl_run 300 [] [.t false, .r (ptV p), .l (.exit 0) ([(0, .ls 0 l.length), (1, .pc 46 [.pp 1 0]), (4, .pp 2 0), (5, .pp 3 0), (6, .pv (.int .i64 (((0 + 1 : Nat)) : Int)))]) ([(0, 0, rowP l), (1, 0, .pv (.int .i64 tn)), (1, 1, .pv (.int .i64 td)), (3, 0, .pv (.int .i64 (p).id)), (3, 1, .pv (.int .i64 (p).a)), (3, 2, .pv (.int .i64 (p).b)), (2, 0, .pv (.int .i64 0)), (2, 1, .pv (.int .i64 0)), (2, 2, .pv (.int .i64 0))]) ([(4, .pp 2 0), (5, .pp 3 0)]) ([(0, 0, rowP l), (1, 0, .pv (.int .i64 tn)), (1, 1, .pv (.int .i64 td)), (3, 0, .pv (.int .i64 (m).id)), (3, 1, .pv (.int .i64 (m).a)), (3, 2, .pv (.int .i64 (m).b)), (2, 0, .pv (.int .i64 0)), (2, 1, .pv (.int .i64 0)), (2, 2, .pv (.int .i64 0))])]
     True.intro (And.intro h1 (And.intro hin (And.intro (ra_pt hk) (And.intro (reflT (renN []) ([(0, .ls 0 l.length), (1, .pc 46 [.pp 1 0]), (4, .pp 2 0), (5, .pp 3 0), (6, .pv (.int .i64 (((0 + 1 : Nat)) : Int)))])) (And.intro (reflH (renN []) ([(0, 0, rowP l), (1, 0, .pv (.int .i64 tn)), (1, 1, .pv (.int .i64 td)), (3, 0, .pv (.int .i64 (p).id)), (3, 1, .pv (.int .i64 (p).a)), (3, 2, .pv (.int .i64 (p).b)), (2, 0, .pv (.int .i64 0)), (2, 1, .pv (.int .i64 0)), (2, 2, .pv (.int .i64 0))])) (And.intro r0 True.intro)))))) (by kernel_rfl)

set_option maxRecDepth 100000 in
theorem plead_yes {l : List Pt} {m : Pt} {tn td : Int} (hc : FnL Try.prog 29 1 [fldS 0 l, .pv (ratioV tn td)] [(0, 0, rowP l)] (.pv (.int .i64 (0))) 0 []) (h0 : ((l.length : Int) == 0) = false) (hm : FnL Try.prog 30 2 [.ls 0 l.length, .pc 46 [.pp 1 0]] [(0, 0, rowP l), (1, 0, .pv (.int .i64 tn)), (1, 1, .pv (.int .i64 td))] (.pv (ptV m)) 0 []) :
    FnL Try.prog 16 1 [fldS 0 l, .pv (ratioV tn td)] [(0, 0, rowP l)] (.pv (.tuple #[.int .i64 (m.id), .int .i64 (0)])) 0 [] :=
  fnl_run 300 [] [.f [0] [fldS 0 l, .pv (ratioV tn td)] [(0, 0, rowP l)] (.pv (.int .i64 (0))) 0 [], .k, .t false, .k, .f [0,3] [.ls 0 l.length, .pc 46 [.pp 1 0]] [(0, 0, rowP l), (1, 0, .pv (.int .i64 tn)), (1, 1, .pv (.int .i64 td))] (.pv (ptV m)) 0 []]
     True.intro (And.intro hc (And.intro (Eq.refl (List.map (SV.ren (renU [0] 3)) [fldS 0 l, .pv (ratioV tn td)])) (And.intro (reflH (renU [0] 3) [(0, 0, rowP l)]) (And.intro h0 (And.intro hm (And.intro (Eq.refl (List.map (SV.ren (renU [0,3] 4)) [.ls 0 l.length, .pc 46 [.pp 1 0]])) (And.intro (reflH (renU [0,3] 4) [(0, 0, rowP l), (1, 0, .pv (.int .i64 tn)), (1, 1, .pv (.int .i64 td))]) True.intro))))))) (by kernel_rfl)

end Go.Proofs.Ytoheadpehomdjaa

namespace Go.Proofs.Ytoheadpehomdjaa
open Go.RowKit
set_option maxRecDepth 100000 in
theorem pc0_next {l : List Pt} {k : Nat} {p : Pt} (hk : l[k]? = some p) (hin : 0 ≤ (k : Int) ∧ (k : Int) < (l.length : Int)) (hlt : decide ((k : Int) < (l.length : Int)) = true) (hc : Pure Try.prog 39 #[pointV p.id p.a p.b] (.int .i64 (0))) (hs : Value.int .i64 (IntKind.i64.wrap ((k : Int) + 1)) = .int .i64 (((k + 1 : Nat) : Int))) {e : Exit} {tm2 : List (Nat × SV)} {hp2 : List (Nat × Nat × SV)}
    (r : RunsL Try.prog 1 1 (loopOf Try.prog 22 0) 45 2 ([(1, .pp 1 0), (12, .ls 0 l.length), (13, .pv (.int .i64 (l.length : Int))), (14, .pv (.int .i64 ((k + 1 : Nat) : Int)))]) ([(1, 0, .ls 0 l.length), (0, 0, rowP l)]) e tm2 hp2) : RunsL Try.prog 1 1 (loopOf Try.prog 22 0) 45 2 ([(1, .pp 1 0), (12, .ls 0 l.length), (13, .pv (.int .i64 (l.length : Int))), (14, .pv (.int .i64 (k : Int)))]) ([(1, 0, .ls 0 l.length), (0, 0, rowP l)]) e tm2 hp2 :=
  RunsL.next [] 300 [.t true, .r (ptV p), .r (.int .i64 (0)), .k, .r (.int .i64 (((k + 1 : Nat) : Int)))]
    (round_of (And.intro hlt (And.intro hin (And.intro (ra_pt hk) (And.intro hc (And.intro hs True.intro))))) (by kernel_rfl)) r

set_option maxRecDepth 100000 in
theorem pc0_bad {l : List Pt} {k : Nat} {p : Pt} (hk : l[k]? = some p) (hin : 0 ≤ (k : Int) ∧ (k : Int) < (l.length : Int)) (hlt : decide ((k : Int) < (l.length : Int)) = true) (hc : Pure Try.prog 39 #[pointV p.id p.a p.b] (.int .i64 (8))) : RunsL Try.prog 1 1 (loopOf Try.prog 22 0) 45 2 ([(1, .pp 1 0), (12, .ls 0 l.length), (13, .pv (.int .i64 (l.length : Int))), (14, .pv (.int .i64 (k : Int)))]) ([(1, 0, .ls 0 l.length), (0, 0, rowP l)]) (.ret) ([(2, .pv (.int .i64 8))]) ([]) :=
  RunsL.stop [] 300 [.t true, .r (ptV p), .r (.int .i64 (8)), .k] (fun h => by cases h)
    (round_of (And.intro hlt (And.intro hin (And.intro (ra_pt hk) (And.intro hc True.intro)))) (by kernel_rfl))

set_option maxRecDepth 100000 in
theorem pc0_end {l : List Pt} {k : Nat} (hge : decide ((k : Int) < (l.length : Int)) = false) : RunsL Try.prog 1 1 (loopOf Try.prog 22 0) 45 2 ([(1, .pp 1 0), (12, .ls 0 l.length), (13, .pv (.int .i64 (l.length : Int))), (14, .pv (.int .i64 (k : Int)))]) ([(1, 0, .ls 0 l.length), (0, 0, rowP l)]) (.exit 0) ([(1, .pp 1 0)]) ([(1, 0, .ls 0 l.length), (0, 0, rowP l)]) :=
  RunsL.stop [] 300 [.t false] (fun h => by cases h)
    (round_of (And.intro hge True.intro) (by kernel_rfl))

set_option maxRecDepth 100000 in
theorem pc1_next {l : List Pt} {k : Nat} {p q : Pt} (hq : l[k]? = some q) (hk : l[k + 1]? = some p) (hi0 : 0 ≤ (k : Int) ∧ (k : Int) < (l.length : Int)) (hi1 : 0 ≤ ((k + 1 : Nat) : Int) ∧ ((k + 1 : Nat) : Int) < (l.length : Int)) (hlt : decide (((k + 1 : Nat) : Int) < (l.length : Int)) = true) (hm : Value.int .i64 (IntKind.i64.wrap (((k + 1 : Nat) : Int) - 1)) = .int .i64 ((k : Int))) (hg : decide (q.id ≥ p.id) = false) (hs : Value.int .i64 (IntKind.i64.wrap (((k + 1 : Nat) : Int) + 1)) = .int .i64 (((k + 1 + 1 : Nat) : Int))) {e : Exit} {tm2 : List (Nat × SV)} {hp2 : List (Nat × Nat × SV)}
    (r : RunsL Try.prog 1 1 (loopOf Try.prog 22 1) 45 2 ([(1, .pp 1 0), (6, .pv (.int .i64 ((k + 1 + 1 : Nat) : Int)))]) ([(1, 0, .ls 0 l.length), (0, 0, rowP l)]) e tm2 hp2) : RunsL Try.prog 1 1 (loopOf Try.prog 22 1) 45 2 ([(1, .pp 1 0), (6, .pv (.int .i64 ((k + 1 : Nat) : Int)))]) ([(1, 0, .ls 0 l.length), (0, 0, rowP l)]) e tm2 hp2 :=
  RunsL.next [] 300 [.t true, .r (.int .i64 ((k : Int))), .r (Value.int .i64 q.id), .r (Value.int .i64 p.id), .t false, .r (.int .i64 (((k + 1 + 1 : Nat) : Int)))]
    (round_of (And.intro hlt (And.intro hm (And.intro hi0 (And.intro (ra_id hq) (And.intro hi1 (And.intro (ra_id hk) (And.intro hg (And.intro hs True.intro)))))))) (by kernel_rfl)) r

set_option maxRecDepth 100000 in
theorem pc1_bad {l : List Pt} {k : Nat} {p q : Pt} (hq : l[k]? = some q) (hk : l[k + 1]? = some p) (hi0 : 0 ≤ (k : Int) ∧ (k : Int) < (l.length : Int)) (hi1 : 0 ≤ ((k + 1 : Nat) : Int) ∧ ((k + 1 : Nat) : Int) < (l.length : Int)) (hlt : decide (((k + 1 : Nat) : Int) < (l.length : Int)) = true) (hm : Value.int .i64 (IntKind.i64.wrap (((k + 1 : Nat) : Int) - 1)) = .int .i64 ((k : Int))) (hg : decide (q.id ≥ p.id) = true) : RunsL Try.prog 1 1 (loopOf Try.prog 22 1) 45 2 ([(1, .pp 1 0), (6, .pv (.int .i64 ((k + 1 : Nat) : Int)))]) ([(1, 0, .ls 0 l.length), (0, 0, rowP l)]) (.ret) ([(2, .pv (.int .i64 32))]) ([]) :=
  RunsL.stop [] 300 [.t true, .r (.int .i64 ((k : Int))), .r (Value.int .i64 q.id), .r (Value.int .i64 p.id), .t true] (fun h => by cases h)
    (round_of (And.intro hlt (And.intro hm (And.intro hi0 (And.intro (ra_id hq) (And.intro hi1 (And.intro (ra_id hk) (And.intro hg True.intro))))))) (by kernel_rfl))

set_option maxRecDepth 100000 in
theorem pc1_end {l : List Pt} {k : Nat} (hge : decide ((k : Int) < (l.length : Int)) = false) : RunsL Try.prog 1 1 (loopOf Try.prog 22 1) 45 2 ([(1, .pp 1 0), (6, .pv (.int .i64 ((k : Nat) : Int)))]) ([(1, 0, .ls 0 l.length), (0, 0, rowP l)]) (.exit 2) ([]) ([]) :=
  RunsL.stop [] 300 [.t false] (fun h => by cases h)
    (round_of (And.intro hge True.intro) (by kernel_rfl))

set_option maxRecDepth 100000 in
theorem pc_many {l : List Pt} (h64 : decide ((l.length : Int) > 64) = true) :
    FnL Try.prog 22 1 [fldS 0 l] [(0, 0, rowP l)] (.pv (.int .i64 (4))) 0 [] :=
  fnl_run 300 [] [.t true]
     True.intro (And.intro h64 True.intro) (by kernel_rfl)

set_option maxRecDepth 100000 in
theorem pc_bad {l : List Pt} (h64 : decide ((l.length : Int) > 64) = false) (r0 : RunsL Try.prog 1 1 (loopOf Try.prog 22 0) 45 2 ([(1, .pp 1 0), (12, .ls 0 l.length), (13, .pv (.int .i64 (l.length : Int))), (14, .pv (.int .i64 ((0 : Nat) : Int)))]) ([(1, 0, .ls 0 l.length), (0, 0, rowP l)]) (.ret) ([(2, .pv (.int .i64 8))]) ([])) :
    FnL Try.prog 22 1 [fldS 0 l] [(0, 0, rowP l)] (.pv (.int .i64 (8))) 0 [] :=
  fnl_run 300 [] [.t false, .l (.ret) ([(1, .pp 1 0), (12, .ls 0 l.length), (13, .pv (.int .i64 (l.length : Int))), (14, .pv (.int .i64 ((0 : Nat) : Int)))]) ([(1, 0, .ls 0 l.length), (0, 0, rowP l)]) ([(2, .pv (.int .i64 8))]) ([])]
     True.intro (And.intro h64 (And.intro (reflT (renN []) ([(1, .pp 1 0), (12, .ls 0 l.length), (13, .pv (.int .i64 (l.length : Int))), (14, .pv (.int .i64 ((0 : Nat) : Int)))])) (And.intro (reflH (renN []) ([(1, 0, .ls 0 l.length), (0, 0, rowP l)])) (And.intro r0 True.intro)))) (by kernel_rfl)

set_option maxRecDepth 100000 in
theorem pc_ord {l : List Pt} (h64 : decide ((l.length : Int) > 64) = false) (r0 : RunsL Try.prog 1 1 (loopOf Try.prog 22 0) 45 2 ([(1, .pp 1 0), (12, .ls 0 l.length), (13, .pv (.int .i64 (l.length : Int))), (14, .pv (.int .i64 ((0 : Nat) : Int)))]) ([(1, 0, .ls 0 l.length), (0, 0, rowP l)]) (.exit 0) ([(1, .pp 1 0)]) ([(1, 0, .ls 0 l.length), (0, 0, rowP l)])) (r1 : RunsL Try.prog 1 1 (loopOf Try.prog 22 1) 45 2 ([(1, .pp 1 0), (6, .pv (.int .i64 ((0 + 1 : Nat) : Int)))]) ([(1, 0, .ls 0 l.length), (0, 0, rowP l)]) (.ret) ([(2, .pv (.int .i64 32))]) ([])) :
    FnL Try.prog 22 1 [fldS 0 l] [(0, 0, rowP l)] (.pv (.int .i64 (32))) 0 [] :=
  fnl_run 300 [] [.t false, .l (.exit 0) ([(1, .pp 1 0), (12, .ls 0 l.length), (13, .pv (.int .i64 (l.length : Int))), (14, .pv (.int .i64 ((0 : Nat) : Int)))]) ([(1, 0, .ls 0 l.length), (0, 0, rowP l)]) ([(1, .pp 1 0)]) ([(1, 0, .ls 0 l.length), (0, 0, rowP l)]), .l (.ret) ([(1, .pp 1 0), (6, .pv (.int .i64 ((0 + 1 : Nat) : Int)))]) ([(1, 0, .ls 0 l.length), (0, 0, rowP l)]) ([(2, .pv (.int .i64 32))]) ([])]
     True.intro (And.intro h64 (And.intro (reflT (renN []) ([(1, .pp 1 0), (12, .ls 0 l.length), (13, .pv (.int .i64 (l.length : Int))), (14, .pv (.int .i64 ((0 : Nat) : Int)))])) (And.intro (reflH (renN []) ([(1, 0, .ls 0 l.length), (0, 0, rowP l)])) (And.intro r0 (And.intro (reflT (renN []) ([(1, .pp 1 0), (6, .pv (.int .i64 ((0 + 1 : Nat) : Int)))])) (And.intro (reflH (renN []) ([(1, 0, .ls 0 l.length), (0, 0, rowP l)])) (And.intro r1 True.intro))))))) (by kernel_rfl)

set_option maxRecDepth 100000 in
theorem pc_ok {l : List Pt} (h64 : decide ((l.length : Int) > 64) = false) (r0 : RunsL Try.prog 1 1 (loopOf Try.prog 22 0) 45 2 ([(1, .pp 1 0), (12, .ls 0 l.length), (13, .pv (.int .i64 (l.length : Int))), (14, .pv (.int .i64 ((0 : Nat) : Int)))]) ([(1, 0, .ls 0 l.length), (0, 0, rowP l)]) (.exit 0) ([(1, .pp 1 0)]) ([(1, 0, .ls 0 l.length), (0, 0, rowP l)])) (r1 : RunsL Try.prog 1 1 (loopOf Try.prog 22 1) 45 2 ([(1, .pp 1 0), (6, .pv (.int .i64 ((0 + 1 : Nat) : Int)))]) ([(1, 0, .ls 0 l.length), (0, 0, rowP l)]) (.exit 2) ([]) ([])) :
    FnL Try.prog 22 1 [fldS 0 l] [(0, 0, rowP l)] (.pv (.int .i64 (0))) 0 [] :=
  fnl_run 300 [] [.t false, .l (.exit 0) ([(1, .pp 1 0), (12, .ls 0 l.length), (13, .pv (.int .i64 (l.length : Int))), (14, .pv (.int .i64 ((0 : Nat) : Int)))]) ([(1, 0, .ls 0 l.length), (0, 0, rowP l)]) ([(1, .pp 1 0)]) ([(1, 0, .ls 0 l.length), (0, 0, rowP l)]), .l (.exit 2) ([(1, .pp 1 0), (6, .pv (.int .i64 ((0 + 1 : Nat) : Int)))]) ([(1, 0, .ls 0 l.length), (0, 0, rowP l)]) ([]) ([])]
     True.intro (And.intro h64 (And.intro (reflT (renN []) ([(1, .pp 1 0), (12, .ls 0 l.length), (13, .pv (.int .i64 (l.length : Int))), (14, .pv (.int .i64 ((0 : Nat) : Int)))])) (And.intro (reflH (renN []) ([(1, 0, .ls 0 l.length), (0, 0, rowP l)])) (And.intro r0 (And.intro (reflT (renN []) ([(1, .pp 1 0), (6, .pv (.int .i64 ((0 + 1 : Nat) : Int)))])) (And.intro (reflH (renN []) ([(1, 0, .ls 0 l.length), (0, 0, rowP l)])) (And.intro r1 True.intro))))))) (by kernel_rfl)

end Go.Proofs.Ytoheadpehomdjaa
