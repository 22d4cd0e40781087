/-
  A contract over a list by name serves a list that lies in a block: any list of points, plain results. Conditions: none.
-/
import Derived.Test.YtgpbofinbpcceaaFx
import Derived.Test.YtgpbofinbpcceaaFfu
namespace Go.Proofs.Ytgpbofinbpcceaa
open Go.RowKit
/-- A block's cells, from one on. -/
def cellsV : List Value → Nat → List (Nat × Nat × SV)
  | [], _ => []
  | v :: r, j => (0, j, .pv v) :: cellsV r (j + 1)
theorem cellsV_look : ∀ (xs : List Value) (k j : Nat) (v : Value), xs[j]? = some v → lookH (cellsV xs k) 0 (k + j) = some (.pv v)
  | [], _, _, _, h => by simp at h
  | x :: r, k, 0, v, h => by
    simp only [List.getElem?_cons_zero, Option.some.injEq] at h
    subst h
    simp only [cellsV, lookH, Nat.add_zero, Nat.beq_refl, Bool.and_self, cond_true]
  | x :: r, k, j + 1, v, h => by
    rw [List.getElem?_cons_succ] at h
    have hb : Nat.beq k (k + (j + 1)) = false := by
      cases hb : Nat.beq k (k + (j + 1))
      · rfl
      · have := Nat.eq_of_beq_eq_true hb; omega
    simp only [cellsV, lookH, hb, Bool.and_false, cond_false]
    rw [show k + (j + 1) = (k + 1) + j by omega]
    exact cellsV_look r (k + 1) j v h
theorem L_rd {W : World} {β : Bl} {r : Nat} {l : List Pt} (H : HRel W 1 β (cellsV (ptsV l) 0) W) (hb : β 0 = some r) : Rd W 3 (.slice (some ⟨r, 0, none⟩) l.length l.length) l.length (ptsV l) := by
  refine ⟨ptsV_length l, some ⟨r, 0, none⟩, l.length, rfl, Nat.le_refl _, fun j v hj => ⟨r, 0, rfl, ?_⟩⟩
  have hl := cellsV_look (ptsV l) 0 j v hj
  rw [Nat.zero_add] at hl
  obtain ⟨r', u, h1, h2, _, h3, _⟩ := H.cells 0 j (.pv v) hl rfl
  rw [hb] at h1
  cases h1
  cases h2
  rw [Nat.zero_add]; exact h3
theorem isl_L {β : Bl} {n : Nat} {us vs : List Value} (h : SV.isl β (.ag [.ps 0 0 n n] :: vs.map .pv) us) : ∃ r, β 0 = some r ∧ us = .agg #[.slice (some ⟨r, 0, none⟩) n n] :: vs := by
  have hvs : ∀ (vs us : List Value), SV.isl β (vs.map .pv) us → us = vs := by
    intro vs
    induction vs with
    | nil => intro us h; cases us with
      | nil => rfl
      | cons _ _ => exact h.elim
    | cons v r ih => intro us h; cases us with
      | nil => exact h.elim
      | cons x y => rw [ih y h.2, h.1]
  match us, h with
  | v :: us', ⟨⟨ws, hw, hv⟩, h2⟩ =>
    match ws, hw with
    | [x], ⟨⟨r, hr, hx⟩, _⟩ => exact ⟨r, hr, by rw [hv, hx, hvs vs us' h2]⟩
/-- Plain results. -/
theorem L_plain {f : FuncId} {vs : List Value} {x : Value} {l : List Pt} (h : FnL Try.prog f 1 (fldS 0 l :: vs.map .pv) [(0, 0, rowP l)] (.pv x) 0 []) : FnL Try.prog f 1 (.ag [.ps 0 0 l.length l.length] :: vs.map .pv) (cellsV (ptsV l) 0) (.pv x) 0 [] := by
  intro w β us H hd ha
  obtain ⟨r, hr, rfl⟩ := isl_L ha
  have rd := L_rd H hr
  have hvs : ∀ (β : Bl) (vs : List Value), SV.isl β (vs.map .pv) vs := by
    intro β vs
    induction vs with
    | nil => exact True.intro
    | cons v r ih => exact ⟨rfl, ih⟩
  refine (h w (inB _) (.agg #[.slice (some ⟨r, 0, none⟩) l.length l.length] :: vs) (in_rel rd) (in_dom _) ⟨in_fld rd, hvs _ _⟩).mono fun e w' ⟨v, β', he, _, hx, hh, _⟩ => ?_
  exact ⟨v, β, he, Bl.le_refl _, hx, no_rel H hh.gr, hd⟩
/-- What the law's own lists are wrong about. -/
theorem err_one {p : Pt} (h : okPt p = false) : errL [p] = 8 := by
  unfold errL
  rw [if_neg (by simp), if_neg (by intro k; rw [k p (by simp)] at h; cases h)]
theorem err_full {n : Nat} (h : 64 < n) : errL (fullL n) = 4 := by
  unfold errL
  rw [if_pos (by rw [fullL_len]; exact h)]
theorem err_two {p q : Pt} (hp : okPt p = true) (hq : okPt q = true) (h : ¬ p.id < q.id) : errL [p, q] = 32 := by
  unfold errL
  rw [if_neg (by simp), if_pos (by intro x hx; rcases List.mem_cons.1 hx with rfl | hx; exact hp; rw [List.mem_singleton.1 hx]; exact hq), if_neg (fun k => h (k 0 p q rfl rfl))]
theorem err_two_bad {p q : Pt} (hq : okPt q = false) : errL [p, q] = 8 := by
  unfold errL
  rw [if_neg (by simp), if_neg (by intro k; rw [k q (by simp)] at hq; cases hq)]
theorem val_full {n : Nat} (h : n ≤ 64) : Val (fullL n) where
  len := by rw [fullL_len]; exact h
  ok := fun p hp => by
    obtain ⟨i, hi, rfl⟩ := List.mem_map.1 hp
    have := List.mem_range.1 hi
    unfold okPt okP
    simp only [decide_eq_true_eq]
    omega
  up := by
    rw [up_iff]
    unfold fullL
    rw [List.pairwise_map]
    exact List.pairwise_lt_range.imp fun h => by simp only; omega
end Go.Proofs.Ytgpbofinbpcceaa
