/-
  Who leads: a list in order, and places in it. Conditions: none.
-/
import Derived.Test.YtjjmnoiffpnphaaW19
import Derived.Laws.Bits64b
namespace Go.Proofs.Ytjjmnoiffpnphaa
open Go.RowKit
def ld (tn td : Int) (p q : Pt) : Bool := leadsB (p.a * td + p.b * tn) (q.a * td + q.b * tn) p.b q.b p.id q.id
theorem leadsB_iff {P Q pb qb pi qi : Int} : leadsB P Q pb qb pi qi = true ↔ (P > Q ∨ P = Q ∧ (pb > qb ∨ pb = qb ∧ pi < qi)) := by unfold leadsB; exact decide_eq_true_iff
theorem leadsB_niff {P Q pb qb pi qi : Int} : leadsB P Q pb qb pi qi = false ↔ ¬ (P > Q ∨ P = Q ∧ (pb > qb ∨ pb = qb ∧ pi < qi)) := by unfold leadsB; exact decide_eq_false_iff_not
section
variable {tn td : Int} {p q r : Pt}
theorem ld_irr (p : Pt) : ld tn td p p = false := leadsB_niff.2 (by omega)
theorem ld_trans (h : ld tn td p q = true) (k : ld tn td q r = true) : ld tn td p r = true := by
  unfold ld at *
  generalize p.a * td + p.b * tn = P at *
  generalize q.a * td + q.b * tn = Q at *
  generalize r.a * td + r.b * tn = R at *
  rw [leadsB_iff] at *
  omega
theorem ld_asym (h : ld tn td p q = true) : ld tn td q p = false := by
  cases hh : ld tn td q p
  · rfl
  · have := ld_trans h hh; rw [ld_irr] at this; cases this
end
/-- How many lead. -/
def rk (tn td : Int) (l : List Pt) (p : Pt) : Nat := l.countP fun q => ld tn td q p
theorem rk_aux {tn td : Int} : ∀ (s : List Pt) (k : Nat) (p : Pt), s.Pairwise (fun p q => ld tn td p q = true) → s[k]? = some p → rk tn td s p = k
  | [], _, _, _, h => by simp at h
  | a :: r, 0, p, hp, h => by
    simp only [List.getElem?_cons_zero, Option.some.injEq] at h
    subst h
    rw [List.pairwise_cons] at hp
    unfold rk
    rw [List.countP_eq_zero]
    intro q hq
    rcases List.mem_cons.1 hq with rfl | hq
    · rw [ld_irr]; decide
    · rw [ld_asym (hp.1 q hq)]; decide
  | a :: r, k + 1, p, hp, h => by
    rw [List.getElem?_cons_succ] at h
    rw [List.pairwise_cons] at hp
    have := rk_aux r k p hp.2 h
    unfold rk at this ⊢
    rw [List.countP_cons, this, if_pos (hp.1 p (List.mem_of_getElem? h))]
structure Srt (l : List Pt) (tn td : Int) (s : List Pt) : Prop where
  perm : s.Perm l
  pw : s.Pairwise (fun p q => ld tn td p q = true)
theorem Srt.len {l s : List Pt} {tn td : Int} (h : Srt l tn td s) : s.length = l.length := h.perm.length_eq
theorem Srt.rank {l s : List Pt} {tn td : Int} (h : Srt l tn td s) {k : Nat} {p : Pt} (hk : s[k]? = some p) : rk tn td l p = k := by
  have := rk_aux s k p h.pw hk
  unfold rk at this ⊢
  rw [← h.perm.countP_eq]; exact this
theorem Srt.at {l s : List Pt} {tn td : Int} (h : Srt l tn td s) {p : Pt} (hp : p ∈ l) : s[rk tn td l p]? = some p := by
  obtain ⟨k, hk, e⟩ := List.getElem_of_mem (h.perm.mem_iff.2 hp)
  have hk' : s[k]? = some p := by rw [List.getElem?_eq_getElem hk, e]
  rw [h.rank hk']; exact hk'
theorem Srt.lt {l s : List Pt} {tn td : Int} (h : Srt l tn td s) {p : Pt} (hp : p ∈ l) : rk tn td l p < l.length := by rw [← h.len]; exact get_lt (h.at hp)
end Go.Proofs.Ytjjmnoiffpnphaa
