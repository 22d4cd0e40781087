/-
  Who leads: a list in order, and places in it. Conditions: none.
-/
import Derived.Test.YtgpbofinbpcceaaFm
import Derived.Test.YtgpbofinbpcceaaCr
import Derived.Test.YtgpbofinbpcceaaCp
import Derived.Test.YtgpbofinbpcceaaRt
import Derived.Test.YtgpbofinbpcceaaCon
import Derived.Test.YtgpbofinbpcceaaSm
namespace Go.Proofs.Ytgpbofinbpcceaa
open Go.RowKit
def ld (tn td : Int) (p q : Pt) : Bool := leadsB (p.a * td + p.b * tn) (q.a * td + q.b * tn) p.b q.b p.id q.id
theorem leadsB_iff {P Q pb qb pi qi : Int} : leadsB P Q pb qb pi qi = true ↔ (P > Q ∨ P = Q ∧ (pb > qb ∨ pb = qb ∧ pi < qi)) := by unfold leadsB; exact decide_eq_true_iff
theorem leadsB_niff {P Q pb qb pi qi : Int} : leadsB P Q pb qb pi qi = false ↔ ¬ (P > Q ∨ P = Q ∧ (pb > qb ∨ pb = qb ∧ pi < qi)) := by unfold leadsB; exact decide_eq_false_iff_not
section
variable {tn td : Int} {p q r : Pt}
theorem ld_irr (p : Pt) : ld tn td p p = false := leadsB_niff.2 (by omega)
theorem ld_trans (h : ld tn td p q = true) (k : ld tn td q r = true) : ld tn td p r = true := by
  unfold ld at *
  generalize p.a * td + p.b * tn = P at *
  generalize q.a * td + q.b * tn = Q at *
  generalize r.a * td + r.b * tn = R at *
  rw [leadsB_iff] at *
  omega
theorem ld_ntrans (h : ld tn td p q = false) (k : ld tn td q r = false) : ld tn td p r = false := by
  unfold ld at *
  generalize p.a * td + p.b * tn = P at *
  generalize q.a * td + q.b * tn = Q at *
  generalize r.a * td + r.b * tn = R at *
  rw [leadsB_niff] at *
  omega
theorem ld_asym (h : ld tn td p q = true) : ld tn td q p = false := by
  cases hh : ld tn td q p
  · rfl
  · have := ld_trans h hh; rw [ld_irr] at this; cases this
theorem ld_tot (hi : p.id ≠ q.id) (h : ld tn td p q = false) : ld tn td q p = true := by
  unfold ld at *
  generalize p.a * td + p.b * tn = P at *
  generalize q.a * td + q.b * tn = Q at *
  rw [leadsB_niff] at h
  rw [leadsB_iff]
  omega
end
/-- How many lead. -/
def rk (tn td : Int) (l : List Pt) (p : Pt) : Nat := l.countP fun q => ld tn td q p
theorem rk_aux {tn td : Int} : ∀ (s : List Pt) (k : Nat) (p : Pt), s.Pairwise (fun p q => ld tn td p q = true) → s[k]? = some p → rk tn td s p = k
  | [], _, _, _, h => by simp at h
  | a :: r, 0, p, hp, h => by
    simp only [List.getElem?_cons_zero, Option.some.injEq] at h
    subst h
    rw [List.pairwise_cons] at hp
    unfold rk
    rw [List.countP_eq_zero]
    intro q hq
    rcases List.mem_cons.1 hq with rfl | hq
    · rw [ld_irr]; decide
    · rw [ld_asym (hp.1 q hq)]; decide
  | a :: r, k + 1, p, hp, h => by
    rw [List.getElem?_cons_succ] at h
    rw [List.pairwise_cons] at hp
    have := rk_aux r k p hp.2 h
    unfold rk at this ⊢
    rw [List.countP_cons, this, if_pos (hp.1 p (List.mem_of_getElem? h))]
structure Srt (l : List Pt) (tn td : Int) (s : List Pt) : Prop where
  perm : s.Perm l
  pw : s.Pairwise (fun p q => ld tn td p q = true)
theorem Srt.len {l s : List Pt} {tn td : Int} (h : Srt l tn td s) : s.length = l.length := h.perm.length_eq
theorem Srt.rank {l s : List Pt} {tn td : Int} (h : Srt l tn td s) {k : Nat} {p : Pt} (hk : s[k]? = some p) : rk tn td l p = k := by
  have := rk_aux s k p h.pw hk
  unfold rk at this ⊢
  rw [← h.perm.countP_eq]; exact this
theorem Srt.at {l s : List Pt} {tn td : Int} (h : Srt l tn td s) {p : Pt} (hp : p ∈ l) : s[rk tn td l p]? = some p := by
  obtain ⟨k, hk, e⟩ := List.getElem_of_mem (h.perm.mem_iff.2 hp)
  have hk' : s[k]? = some p := by rw [List.getElem?_eq_getElem hk, e]
  rw [h.rank hk']; exact hk'
theorem Srt.lt {l s : List Pt} {tn td : Int} (h : Srt l tn td s) {p : Pt} (hp : p ∈ l) : rk tn td l p < l.length := by rw [← h.len]; exact get_lt (h.at hp)
theorem Srt.uniq {l s t : List Pt} {tn td : Int} (h : Srt l tn td s) (k : Srt l tn td t) : s = t := by
  apply List.ext_getElem?
  intro i
  by_cases hi : i < t.length
  · obtain ⟨p, hp⟩ := get_some hi
    rw [hp]
    have := h.at (k.perm.mem_iff.1 (List.mem_of_getElem? hp))
    rw [k.rank hp] at this
    exact this
  · have e1 : t[i]? = none := List.getElem?_eq_none (by omega)
    have e2 : s[i]? = none := List.getElem?_eq_none (by have := h.len; have := k.len; omega)
    rw [e1, e2]
/-- A list in order from one that is in no wrong order. -/
theorem Srt.mk_of {l s : List Pt} {tn td : Int} (hv : Val l) (hp : s.Perm l) (h : s.Pairwise (fun p q => ld tn td q p = false)) : Srt l tn td s := by
  have hne : l.Pairwise (fun p q => p.id ≠ q.id) := by
    rw [List.pairwise_iff_getElem]
    intro i j hi hj hij
    have := hv.up.mono hij (List.getElem?_eq_getElem hi) (List.getElem?_eq_getElem hj)
    omega
  have hns : s.Pairwise (fun p q => p.id ≠ q.id) := (hp.pairwise_iff (fun h e => h e.symm)).2 hne
  exact ⟨hp, (h.and hns).imp fun ⟨a, b⟩ => ld_tot (fun e => b e.symm) a⟩
theorem val_id {l : List Pt} (hv : Val l) {p q : Pt} (hp : p ∈ l) (hq : q ∈ l) (e : p.id = q.id) : p = q := by
  obtain ⟨i, hi, rfl⟩ := List.getElem_of_mem hp
  obtain ⟨j, hj, rfl⟩ := List.getElem_of_mem hq
  rcases Nat.lt_trichotomy i j with h | h | h
  · have := hv.up.mono h (List.getElem?_eq_getElem hi) (List.getElem?_eq_getElem hj); omega
  · subst h; rfl
  · have := hv.up.mono h (List.getElem?_eq_getElem hj) (List.getElem?_eq_getElem hi); omega
/-- What the program's comparison returns. -/
def cfL (tn td : Int) (p q : Pt) : Int := if p.id = q.id then 0 else if ld tn td p q = true then -1 else 1
theorem cfL_neg {tn td : Int} {p q : Pt} (h : p.id = q.id → p = q) : decide (cfL tn td p q < 0) = ld tn td p q := by
  unfold cfL
  by_cases e : p.id = q.id
  · rw [if_pos e, h e, ld_irr]; rfl
  · rw [if_neg e]
    cases ld tn td p q <;> rfl
theorem rk_succ {tn td : Int} {l : List Pt} {k : Nat} {q p : Pt} (hq : l[k]? = some q) : rk tn td (l.take (k + 1)) p = rk tn td (l.take k) p + (if ld tn td q p = true then 1 else 0) := by
  have : l.take (k + 1) = l.take k ++ [q] := by rw [List.take_add_one, hq]; rfl
  unfold rk
  rw [this, List.countP_append, List.countP_cons, List.countP_nil, Nat.zero_add]
end Go.Proofs.Ytgpbofinbpcceaa
