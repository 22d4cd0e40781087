/-
  Joined: Fu, Fx, Gf, Gm. Conditions: none.
-/
import Derived.Shelf.SlSortCmp.NoneTotal
import Derived.Test.YtomnmoinahhdmaaProg
import Derived.Test.YtomnmoinahhdmaaFs
import Derived.Test.YtomnmoinahhdmaaFq
import Derived.Shelf.SlLaysF0
import Derived.Shelf.SlSortCmp.WholeK
import Derived.Test.YtomnmoinahhdmaaW33
import Derived.Test.YtomnmoinahhdmaaSm4
namespace Go.Proofs.Ytomnmoinahhdmaa
open Go.RowKit Go.Sort
section
variable {l : List Pt} {tn td : Int}
abbrev LeadIs (f : FuncId) (l : List Pt) (tn td x e : Int) : Prop := FnL Try.prog f 1 [fldS 0 l, .pv (ratioV tn td)] [(0, 0, rowP l)] (.pv (.tuple #[.int .i64 x, .int .i64 e])) 0 []
end
end Go.Proofs.Ytomnmoinahhdmaa

namespace Go.Proofs.Ytomnmoinahhdmaa
open Go.RowKit
theorem FindP_yes {l : List Pt} (hv : Val l) {k : Nat} {p : Pt} {id : Int} (hk : l[k]? = some p) (he : p.id = id) : FindIs 118 l id p 0 := by
  have c := PCheck_any l
  rw [err_val.2 hv] at c
  exact pfind_yes hk (in_of (get_lt hk)) c (find_yes hv hk he)
end Go.Proofs.Ytomnmoinahhdmaa

namespace Go.Proofs.Ytomnmoinahhdmaa
open Go.RowKit
instance decI64 (n : Int) : Decidable (I64 n) := by unfold I64; infer_instance
theorem fM_eq {x : Pt × Pt} (h1 : okPt x.1 = true) (h2 : okPt x.2 = true) (hb : x.1.b ≠ x.2.b) {n d : Int} (hk : okB n d = true) (he : n * (x.1.b - x.2.b) = (x.2.a - x.1.a) * d) : fM x = some ⟨n, d, x.1.id, x.2.id⟩ := by
  obtain ⟨m, h, hm⟩ := fM_diff h1 h2 hb
  have e := hm.eq
  have e2 : (m.n * d) * (x.1.b - x.2.b) = (n * m.d) * (x.1.b - x.2.b) := by
    have a1 : (m.n * d) * (x.1.b - x.2.b) = (m.n * (x.1.b - x.2.b)) * d := by rw [Int.mul_assoc, Int.mul_comm d, ← Int.mul_assoc]
    have a2 : (n * m.d) * (x.1.b - x.2.b) = (n * (x.1.b - x.2.b)) * m.d := by rw [Int.mul_assoc, Int.mul_comm m.d, ← Int.mul_assoc]
    rw [a1, a2, e, he, Int.mul_assoc, Int.mul_assoc, Int.mul_comm d]
  have e3 : m.n * d = n * m.d := Int.eq_of_mul_eq_mul_right (by omega) e2
  obtain ⟨e4, e5⟩ := okB_one hm.ok hk (by omega)
  rw [h, ← e4, ← e5, ← hm.i, ← hm.j]
theorem up_of : ∀ {l : List Pt}, (l.zip l.tail).all (fun x => decide (x.1.id < x.2.id)) = true → Up l := by
  intro l h k p q hp hq
  have h2 := List.all_eq_true.1 h (p, q) (by
    refine List.mem_of_getElem? (i := k) ?_
    rw [List.getElem?_zip_eq_some]
    exact ⟨hp, by rw [List.getElem?_tail]; exact hq⟩)
  exact of_decide_eq_true h2
end Go.Proofs.Ytomnmoinahhdmaa

namespace Go.Proofs.Ytomnmoinahhdmaa
open Go.RowKit
theorem pairs_of : ∀ {l : List Pt} {i j : Nat} {p q : Pt}, i < j → l[i]? = some p → l[j]? = some q → (p, q) ∈ pairsOf l
  | [], i, j, p, q, _, h, _ => by simp at h
  | a :: r, 0, j, p, q, hij, hi, hj => by
    simp at hi
    subst hi
    rw [pairsOf]
    cases j with
    | zero => omega
    | succ j => exact List.mem_append_left _ (List.mem_map.2 ⟨q, List.mem_of_getElem? (i := j) (by simpa using hj), rfl⟩)
  | a :: r, i + 1, j, p, q, hij, hi, hj => by
    rw [pairsOf]
    cases j with
    | zero => omega
    | succ j => exact List.mem_append_right _ (pairs_of (i := i) (j := j) (by omega) (by simpa using hi) (by simpa using hj))
/-- Two points of a field with different speeds meet. -/
theorem ms_pair {l : List Pt} (hv : Val l) {p q : Pt} (hp : p ∈ l) (hq : q ∈ l) (hb : p.b ≠ q.b) : ∃ m ∈ msOf l, m.n * (p.b - q.b) = (q.a - p.a) * m.d := by
  obtain ⟨i, hi, rfl⟩ := List.getElem_of_mem hp
  obtain ⟨j, hj, rfl⟩ := List.getElem_of_mem hq
  rcases Nat.lt_trichotomy i j with h | h | h
  · have hx := pairs_of h (List.getElem?_eq_getElem hi) (List.getElem?_eq_getElem hj)
    rcases fM_any hv hx with ⟨e, _⟩ | ⟨_, m, hf, hm⟩
    · exact (hb e).elim
    · exact ⟨m, List.mem_filterMap.2 ⟨_, hx, hf⟩, hm.eq⟩
  · subst h; exact (hb rfl).elim
  · have hx := pairs_of h (List.getElem?_eq_getElem hj) (List.getElem?_eq_getElem hi)
    rcases fM_any hv hx with ⟨e, _⟩ | ⟨_, m, hf, hm⟩
    · exact (hb e.symm).elim
    · refine ⟨m, List.mem_filterMap.2 ⟨_, hx, hf⟩, ?_⟩
      have e := hm.eq
      have e0 : m.n * (l[j].b - l[i].b) = (l[i].a - l[j].a) * m.d := e
      have e1 : m.n * (l[i].b - l[j].b) = -(m.n * (l[j].b - l[i].b)) := by rw [← Int.mul_neg]; congr 1; omega
      have e2 : (l[j].a - l[i].a) * m.d = -((l[i].a - l[j].a) * m.d) := by rw [← Int.neg_mul]; congr 1; omega
      rw [e1, e2, e0]
theorem ld_equal {p q : Pt} {T D T' D' : Int} (h : 0 < D) (h' : 0 < D') (hb : p.b = q.b) : ld T D p q = ld T' D' p q := by
  unfold ld
  rw [hb, leads_same h, leads_same h']
end Go.Proofs.Ytomnmoinahhdmaa
