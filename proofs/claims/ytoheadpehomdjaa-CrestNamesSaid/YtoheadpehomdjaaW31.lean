/-
  Joined: Ft, Fu, Fx, Gb0, Gf, Gj, Gm. Conditions: none.
-/
import Derived.Shelf.SlSortCmp.WholeK
import Derived.Test.YtoheadpehomdjaaProg
import Derived.Test.YtoheadpehomdjaaW30
import Derived.Test.YtoheadpehomdjaaFq
import Derived.Shelf.SlLaysF0
import Derived.Shelf.SlSortCmp.NoneTotal
import Derived.Test.YtoheadpehomdjaaSr5
namespace Go.Proofs.Ytoheadpehomdjaa
open Go.RowKit Go.Sort
/-- A world that has only grown is the old one with draws and blocks behind it. -/
theorem gr_grow {w w' : World} (h : Gr w w') : ∃ (q : Nat) (os : Array Obj), w' = Sort.grow (w.drewN q) os := by
  obtain ⟨⟨h1, h2, h3, h4, h5⟩, _, h7⟩ := h
  refine ⟨w'.drawn - w.drawn, w'.heap.extract w.heap.size w'.heap.size, ?_⟩
  obtain ⟨heap, tape, drawn, os, output⟩ := w
  obtain ⟨heap', tape', drawn', os', output'⟩ := w'
  simp only at h1 h2 h3 h4 h5 h7
  subst h1 h2 h3
  unfold Sort.grow World.drewN
  simp only [World.mk.injEq, and_true, true_and]
  refine ⟨?_, by omega⟩
  apply Array.ext_getElem?
  intro i
  by_cases hi : i < heap.size
  · rw [Array.getElem?_append_left hi]; exact h5 i hi
  · rw [Array.getElem?_append_right (by omega), Array.getElem?_extract]
    by_cases hj : i < heap'.size
    · rw [if_pos (by omega), show heap.size + (i - heap.size) = i by omega]
    · rw [if_neg (by omega), Array.getElem?_eq_none (by omega)]
theorem put_cells {w : World} {g : Nat} {cur : Array Value} {e : TypeId} {fr : Nat × Nat} (hg : w.heap[g]? = some (.cells cur e fr)) (F : Array Value) :
    (putRow id w g 0 F).heap[g]? = some (.cells (putCells id 0 F cur) e fr) := by
  unfold putRow mapBlock
  simp only [Array.getElem?_modify, if_true, hg, Option.map_some, onCells]
theorem put_other (w : World) (g : Nat) (F : Array Value) {k : Nat} (h : k ≠ g) : (putRow id w g 0 F).heap[k]? = w.heap[k]? := by
  unfold putRow mapBlock
  simp only [Array.getElem?_modify, if_neg (fun e : g = k => h e.symm)]
theorem putCells_take (F cur : Array Value) (h : F.size ≤ cur.size) : (putCells id 0 F cur).toList.take F.size = F.toList := by
  apply List.ext_getElem?
  intro i
  rw [List.getElem?_take]
  by_cases hi : i < F.size
  · rw [if_pos hi]
    unfold putCells
    simp only [Array.getElem?_toList, Array.getElem?_mapIdx]
    rw [Array.getElem?_eq_getElem (show i < cur.size by omega), Option.map_some, if_pos (by omega), Nat.sub_zero, getElem!_pos F i hi, Array.getElem?_eq_getElem hi]
    rfl
  · rw [if_neg hi, List.getElem?_eq_none (by simpa using hi)]
theorem putCells_size (F cur : Array Value) : (putCells id 0 F cur).size = cur.size := by unfold putCells; simp

section
variable {l : List Pt} {tn td : Int}
end
end Go.Proofs.Ytoheadpehomdjaa

namespace Go.Proofs.Ytoheadpehomdjaa
open Go.RowKit Go.Sort
section
variable {l : List Pt} {tn td : Int}
abbrev LeadIs (f : FuncId) (l : List Pt) (tn td x e : Int) : Prop := FnL Try.prog f 1 [fldS 0 l, .pv (ratioV tn td)] [(0, 0, rowP l)] (.pv (.tuple #[.int .i64 x, .int .i64 e])) 0 []
end
end Go.Proofs.Ytoheadpehomdjaa

namespace Go.Proofs.Ytoheadpehomdjaa
open Go.RowKit
theorem FindP_yes {l : List Pt} (hv : Val l) {k : Nat} {p : Pt} {id : Int} (hk : l[k]? = some p) (he : p.id = id) : FindIs 40 l id p 0 := by
  have c := PCheck_any l
  rw [err_val.2 hv] at c
  exact pfind_yes hk (in_of (get_lt hk)) c (find_yes hv hk he)
theorem FindP_no {l : List Pt} (hv : Val l) {id : Int} (hno : ∀ p ∈ l, p.id ≠ id) : FindIs 40 l id ⟨0, 0, 0⟩ 6 := by
  have c := PCheck_any l
  rw [err_val.2 hv] at c
  rcases place l hv id with ⟨k, p, hk, he⟩ | ⟨_, k, hkl, hlo, hhi⟩
  · exact (hno p (List.mem_of_getElem? hk) he).elim
  · exact pfind_no c (find_no hv hkl hlo hhi)

end Go.Proofs.Ytoheadpehomdjaa

namespace Go.Proofs.Ytoheadpehomdjaa
theorem pw_uniq {α : Type} {r : α → α → Prop} : ∀ {a b : List α}, a.Perm b → (∀ x ∈ a, ∀ y ∈ a, r x y → r y x → x = y) → a.Pairwise r → b.Pairwise r → a = b
  | [], b, h, _, _, _ => h.nil_eq
  | x :: a, b, h, hr, ha, hb => by
    cases b with
    | nil => exact (List.not_perm_cons_nil h).elim
    | cons y b =>
      have hx : x ∈ y :: b := h.subset List.mem_cons_self
      have hy : y ∈ x :: a := h.symm.subset List.mem_cons_self
      have e : x = y := by
        rcases List.mem_cons.1 hx with e | hx
        · exact e
        · rcases List.mem_cons.1 hy with e | hy
          · exact e.symm
          · exact hr x List.mem_cons_self y (List.mem_cons_of_mem _ hy) ((List.pairwise_cons.1 ha).1 y hy) ((List.pairwise_cons.1 hb).1 x hx)
      subst e
      rw [pw_uniq h.cons_inv (fun u hu v hv => hr u (List.mem_cons_of_mem _ hu) v (List.mem_cons_of_mem _ hv)) (List.pairwise_cons.1 ha).2 (List.pairwise_cons.1 hb).2]

end Go.Proofs.Ytoheadpehomdjaa

namespace Go.Proofs.Ytoheadpehomdjaa
open Go.RowKit
instance decI64 (n : Int) : Decidable (I64 n) := by unfold I64; infer_instance
theorem fM_eq {x : Pt × Pt} (h1 : okPt x.1 = true) (h2 : okPt x.2 = true) (hb : x.1.b ≠ x.2.b) {n d : Int} (hk : okB n d = true) (he : n * (x.1.b - x.2.b) = (x.2.a - x.1.a) * d) : fM x = some ⟨n, d, x.1.id, x.2.id⟩ := by
  obtain ⟨m, h, hm⟩ := fM_diff h1 h2 hb
  have e := hm.eq
  have e2 : (m.n * d) * (x.1.b - x.2.b) = (n * m.d) * (x.1.b - x.2.b) := by
    have a1 : (m.n * d) * (x.1.b - x.2.b) = (m.n * (x.1.b - x.2.b)) * d := by rw [Int.mul_assoc, Int.mul_comm d, ← Int.mul_assoc]
    have a2 : (n * m.d) * (x.1.b - x.2.b) = (n * (x.1.b - x.2.b)) * m.d := by rw [Int.mul_assoc, Int.mul_comm m.d, ← Int.mul_assoc]
    rw [a1, a2, e, he, Int.mul_assoc, Int.mul_assoc, Int.mul_comm d]
  have e3 : m.n * d = n * m.d := Int.eq_of_mul_eq_mul_right (by omega) e2
  obtain ⟨e4, e5⟩ := okB_one hm.ok hk (by omega)
  rw [h, ← e4, ← e5, ← hm.i, ← hm.j]
abbrev gl : List Pt := [⟨1, 0, 2⟩, ⟨2, 6, -1⟩, ⟨5, 0, 0⟩]
theorem up_of : ∀ {l : List Pt}, (l.zip l.tail).all (fun x => decide (x.1.id < x.2.id)) = true → Up l := by
  intro l h k p q hp hq
  have h2 := List.all_eq_true.1 h (p, q) (by
    refine List.mem_of_getElem? (i := k) ?_
    rw [List.getElem?_zip_eq_some]
    exact ⟨hp, by rw [List.getElem?_tail]; exact hq⟩)
  exact of_decide_eq_true h2
theorem gl_val : Val gl := ⟨by decide, by decide, up_of (by decide)⟩
end Go.Proofs.Ytoheadpehomdjaa

namespace Go.Proofs.Ytoheadpehomdjaa
open Go.RowKit
abbrev zl : List Pt := List.replicate 65 ⟨0, 0, 0⟩
theorem zl_err : errL zl = 4 := by unfold errL; rw [if_pos (by decide)]
theorem nl_val : Val [] := ⟨by decide, by simp, up_of (by decide)⟩
end Go.Proofs.Ytoheadpehomdjaa

namespace Go.Proofs.Ytoheadpehomdjaa
open Go.RowKit
theorem pairs_of : ∀ {l : List Pt} {i j : Nat} {p q : Pt}, i < j → l[i]? = some p → l[j]? = some q → (p, q) ∈ pairsOf l
  | [], i, j, p, q, _, h, _ => by simp at h
  | a :: r, 0, j, p, q, hij, hi, hj => by
    simp at hi
    subst hi
    rw [pairsOf]
    cases j with
    | zero => omega
    | succ j => exact List.mem_append_left _ (List.mem_map.2 ⟨q, List.mem_of_getElem? (i := j) (by simpa using hj), rfl⟩)
  | a :: r, i + 1, j, p, q, hij, hi, hj => by
    rw [pairsOf]
    cases j with
    | zero => omega
    | succ j => exact List.mem_append_right _ (pairs_of (i := i) (j := j) (by omega) (by simpa using hi) (by simpa using hj))
/-- Two points of a field with different speeds meet. -/
theorem ms_pair {l : List Pt} (hv : Val l) {p q : Pt} (hp : p ∈ l) (hq : q ∈ l) (hb : p.b ≠ q.b) : ∃ m ∈ msOf l, m.n * (p.b - q.b) = (q.a - p.a) * m.d := by
  obtain ⟨i, hi, rfl⟩ := List.getElem_of_mem hp
  obtain ⟨j, hj, rfl⟩ := List.getElem_of_mem hq
  rcases Nat.lt_trichotomy i j with h | h | h
  · have hx := pairs_of h (List.getElem?_eq_getElem hi) (List.getElem?_eq_getElem hj)
    rcases fM_any hv hx with ⟨e, _⟩ | ⟨_, m, hf, hm⟩
    · exact (hb e).elim
    · exact ⟨m, List.mem_filterMap.2 ⟨_, hx, hf⟩, hm.eq⟩
  · subst h; exact (hb rfl).elim
  · have hx := pairs_of h (List.getElem?_eq_getElem hj) (List.getElem?_eq_getElem hi)
    rcases fM_any hv hx with ⟨e, _⟩ | ⟨_, m, hf, hm⟩
    · exact (hb e.symm).elim
    · refine ⟨m, List.mem_filterMap.2 ⟨_, hx, hf⟩, ?_⟩
      have e := hm.eq
      have e0 : m.n * (l[j].b - l[i].b) = (l[i].a - l[j].a) * m.d := e
      have e1 : m.n * (l[i].b - l[j].b) = -(m.n * (l[j].b - l[i].b)) := by rw [← Int.mul_neg]; congr 1; omega
      have e2 : (l[j].a - l[i].a) * m.d = -((l[i].a - l[j].a) * m.d) := by rw [← Int.neg_mul]; congr 1; omega
      rw [e1, e2, e0]
theorem ld_equal {p q : Pt} {T D T' D' : Int} (h : 0 < D) (h' : 0 < D') (hb : p.b = q.b) : ld T D p q = ld T' D' p q := by
  unfold ld
  rw [hb, leads_same h, leads_same h']
end Go.Proofs.Ytoheadpehomdjaa
