/-
  Joined: Gb, Gc, Ge, Gf, Gj, Gm. Conditions: none.
-/
import Derived.Shelf.SlSortCmp.WholeK
import Derived.Shelf.SlSortCmp.NoneTotal
import Derived.Test.YtoheadpehomdjaaSr5
import Derived.Test.YtoheadpehomdjaaW31
import Derived.Test.YtoheadpehomdjaaW32
import Derived.Test.YtoheadpehomdjaaFq
import Derived.Test.YtoheadpehomdjaaW30
namespace Go.Proofs.Ytoheadpehomdjaa
open Go.RowKit Go.Sort
theorem insD_perm (x : Mt) : ∀ (R : List Mt), (insD x R).Perm (x :: R)
  | [] => List.Perm.refl _
  | b :: R => by
    unfold insD
    split
    · exact (List.Perm.cons b (insD_perm x R)).trans (List.Perm.swap x b R)
    · exact List.Perm.refl _
theorem sortD_perm : ∀ (C S : List Mt), (sortD S C).Perm (S ++ C)
  | [], S => by rw [List.append_nil]; exact List.Perm.refl _
  | x :: C, S => by
    show (sortD (insD x S) C).Perm _
    refine (sortD_perm C (insD x S)).trans ?_
    refine ((insD_perm x S).append_right C).trans ?_
    exact (List.perm_middle (a := x) (l₁ := S) (l₂ := C)).symm
theorem srt_perm (l : List Pt) : (srt l).Perm (msOf l) := by
  unfold srt
  exact (List.reverse_perm _).trans (by simpa using sortD_perm (msOf l) [])
theorem btwS_perm (l : List Pt) (fn fd tn td : Int) : (btwS l fn fd tn td).Perm (btw l fn fd tn td) := ((srt_perm l).filter _).filter _
theorem btwS_pw {l : List Pt} (hv : Val l) (fn fd tn td : Int) : (btwS l fn fd tn td).Pairwise (fun a b => 0 ≤ ordM b a) := ((srt_pw hv).filter _).filter _
theorem ord_anti {a b : Mt} (ha : MtOk a) (hb : MtOk b) (h1 : 0 ≤ ordM b a) (h2 : 0 ≤ ordM a b) : a = b := by
  have := ord_neg a b
  exact ord_eq ha hb (by omega)

abbrev MemM (X : List Mt) : Type := { m : Mt // m ∈ X }
def encT (X : List Mt) (x : MemM X) : List Value := mcV x.1
theorem flat_ms {X : List Mt} [Inhabited (MemM X)] (d : Array (MemM X)) : (flatK (encT X) 4 d).toList = msV (d.toList.map (·.1)) := by
  apply List.ext_getElem?
  intro t
  by_cases ht : t < d.size * 4
  · have e1 : (flatK (encT X) 4 d).toList[t]? = some ((encT X d[t / 4]!)[t % 4]!) := by
      rw [Array.getElem?_toList, Array.getElem?_eq_getElem (by simpa using ht), ← get_flatK (encT X) 4 d t ht, getElem!_pos _ t (by simpa using ht)]
    have hk : t / 4 < d.size := by omega
    have hp : (d.toList.map (·.1))[t / 4]? = some d[t / 4]!.1 := by
      rw [List.getElem?_map, Array.getElem?_toList, Array.getElem?_eq_getElem hk, getElem!_pos d _ hk]; rfl
    obtain ⟨g0, g1, g2, g3⟩ := msV_get hp
    rw [e1]
    have h4 : t % 4 = 0 ∨ t % 4 = 1 ∨ t % 4 = 2 ∨ t % 4 = 3 := by omega
    have e : t = t / 4 * 4 + t % 4 := by omega
    rcases h4 with h | h | h | h <;> rw [h] at e ⊢ <;> rw [e]
    · rw [Nat.add_zero, show (t / 4 * 4) / 4 = t / 4 by omega, g0]; rfl
    · rw [show (t / 4 * 4 + 1) / 4 = t / 4 by omega, g1]; rfl
    · rw [show (t / 4 * 4 + 2) / 4 = t / 4 by omega, g2]; rfl
    · rw [show (t / 4 * 4 + 3) / 4 = t / 4 by omega, g3]; rfl
  · rw [List.getElem?_eq_none (by simpa using ht), List.getElem?_eq_none (by rw [msV_length]; simpa using ht)]
theorem ms_one : ∀ (l : List Mt), ∀ v ∈ msV l, v.oneCell' = true
  | [], v, h => by cases h
  | m :: r, v, h => by
    simp only [msV, List.mem_cons] at h
    rcases h with rfl | rfl | rfl | rfl | h
    · rfl
    · rfl
    · rfl
    · rfl
    · exact ms_one r v h
section
variable {X : List Mt}
theorem io_swo (hX : ∀ m ∈ X, MtOk m) : SWO (ltOf fun x y : MemM X => ordM x.1 y.1) := by
  refine ⟨fun x => ?_, fun x y z h k => ?_, fun x y z h k => ?_⟩
  · have := ord_neg x.1 x.1
    simp only [ltOf, decide_eq_false_iff_not]
    omega
  · simp only [ltOf, decide_eq_true_eq] at *
    have e1 := ord_neg x.1 y.1
    have e2 := ord_neg y.1 z.1
    have e3 := ord_neg x.1 z.1
    have e4 := ord_tr (hX _ z.2) (hX _ y.2) (hX _ x.2) (by omega) (by omega)
    by_cases h0 : ordM x.1 z.1 = 0
    · have := ord_eq (hX _ x.2) (hX _ z.2) h0
      rw [← this] at e2 k
      omega
    · omega
  · simp only [ltOf, decide_eq_false_iff_not, Int.not_lt] at *
    exact ord_tr (hX _ x.2) (hX _ y.2) (hX _ z.2) h k
end
end Go.Proofs.Ytoheadpehomdjaa

namespace Go.Proofs.Ytoheadpehomdjaa
open Go.RowKit
theorem setG_domK {k : Nat} {β : Bl} {u : Value} (hd : β.dom k) : (β.setG k u).dom (k + 1) := fun b hb => ⟨(hd b (by omega)).1, by unfold Bl.setG; simp only [if_neg (show b ≠ k by omega)]; exact (hd b (by omega)).2⟩

section
variable {l : List Pt} {fn fd tn td : Int} {X s : List Mt}
end
end Go.Proofs.Ytoheadpehomdjaa

namespace Go.Proofs.Ytoheadpehomdjaa
open Go.RowKit
theorem ra_mt0 {l : List Mt} {m : Mt} (h : l[0]? = some m) : rowAt (msV l) (0 * 4 + 0 * 4) (mcV m) := ra_mt h
theorem take_ms (a : List Mt) : ((msV a).drop (0 * 4)).take (a.length * 4) = msV a := by rw [Nat.zero_mul, List.drop_zero, ← msV_length, List.take_length]

theorem mE_zero {l : List Pt} {fn fd tn td : Int} (hv : Val l) (g1 : okB fn fd = true) (g2 : okB tn td = true) (h : ¬ fn * td - tn * fd > 0) : mE l fn fd tn td = 0 := by
  unfold mE
  rw [if_pos (err_val.2 hv), if_pos ⟨g1, g2⟩, if_neg h]
end Go.Proofs.Ytoheadpehomdjaa

namespace Go.Proofs.Ytoheadpehomdjaa
open Go.RowKit
instance decI64 (n : Int) : Decidable (I64 n) := by unfold I64; infer_instance
theorem fM_eq {x : Pt × Pt} (h1 : okPt x.1 = true) (h2 : okPt x.2 = true) (hb : x.1.b ≠ x.2.b) {n d : Int} (hk : okB n d = true) (he : n * (x.1.b - x.2.b) = (x.2.a - x.1.a) * d) : fM x = some ⟨n, d, x.1.id, x.2.id⟩ := by
  obtain ⟨m, h, hm⟩ := fM_diff h1 h2 hb
  have e := hm.eq
  have e2 : (m.n * d) * (x.1.b - x.2.b) = (n * m.d) * (x.1.b - x.2.b) := by
    have a1 : (m.n * d) * (x.1.b - x.2.b) = (m.n * (x.1.b - x.2.b)) * d := by rw [Int.mul_assoc, Int.mul_comm d, ← Int.mul_assoc]
    have a2 : (n * m.d) * (x.1.b - x.2.b) = (n * (x.1.b - x.2.b)) * m.d := by rw [Int.mul_assoc, Int.mul_comm m.d, ← Int.mul_assoc]
    rw [a1, a2, e, he, Int.mul_assoc, Int.mul_assoc, Int.mul_comm d]
  have e3 : m.n * d = n * m.d := Int.eq_of_mul_eq_mul_right (by omega) e2
  obtain ⟨e4, e5⟩ := okB_one hm.ok hk (by omega)
  rw [h, ← e4, ← e5, ← hm.i, ← hm.j]
abbrev gl : List Pt := [⟨1, 0, 2⟩, ⟨2, 6, -1⟩, ⟨5, 0, 0⟩]
abbrev gm : List Mt := [⟨2, 1, 1, 2⟩, ⟨0, 1, 1, 5⟩, ⟨6, 1, 2, 5⟩]
abbrev gw : List Mt := [⟨0, 1, 1, 5⟩, ⟨2, 1, 1, 2⟩, ⟨6, 1, 2, 5⟩]
theorem up_of : ∀ {l : List Pt}, (l.zip l.tail).all (fun x => decide (x.1.id < x.2.id)) = true → Up l := by
  intro l h k p q hp hq
  have h2 := List.all_eq_true.1 h (p, q) (by
    refine List.mem_of_getElem? (i := k) ?_
    rw [List.getElem?_zip_eq_some]
    exact ⟨hp, by rw [List.getElem?_tail]; exact hq⟩)
  exact of_decide_eq_true h2
theorem gl_val : Val gl := ⟨by decide, by decide, up_of (by decide)⟩
theorem gl_ms : msOf gl = gm := by
  unfold msOf
  show List.filterMap fM [(⟨1, 0, 2⟩, ⟨2, 6, -1⟩), (⟨1, 0, 2⟩, ⟨5, 0, 0⟩), (⟨2, 6, -1⟩, ⟨5, 0, 0⟩)] = gm
  rw [List.filterMap_cons_some (fM_eq (n := 2) (d := 1) (by decide) (by decide) (by decide) (by decide) (by decide)), List.filterMap_cons_some (fM_eq (n := 0) (d := 1) (by decide) (by decide) (by decide) (by decide) (by decide)),
    List.filterMap_cons_some (fM_eq (n := 6) (d := 1) (by decide) (by decide) (by decide) (by decide) (by decide))]
  rfl
theorem gl_btw : btwS gl (-1) 1 6 1 = gw := by
  unfold btwS srt
  rw [gl_ms]
  rfl
theorem mE_ok0 {l : List Pt} {fn fd tn td : Int} (hv : Val l) (g1 : okB fn fd = true) (g2 : okB tn td = true) (h : fn * td - tn * fd ≤ 0) : mE l fn fd tn td = 0 := by
  unfold mE
  rw [if_pos (err_val.2 hv), if_pos ⟨g1, g2⟩, if_neg (by omega)]
end Go.Proofs.Ytoheadpehomdjaa

namespace Go.Proofs.Ytoheadpehomdjaa
open Go.RowKit
abbrev zl : List Pt := List.replicate 65 ⟨0, 0, 0⟩
end Go.Proofs.Ytoheadpehomdjaa

namespace Go.Proofs.Ytoheadpehomdjaa
open Go.RowKit
theorem pairs_of : ∀ {l : List Pt} {i j : Nat} {p q : Pt}, i < j → l[i]? = some p → l[j]? = some q → (p, q) ∈ pairsOf l
  | [], i, j, p, q, _, h, _ => by simp at h
  | a :: r, 0, j, p, q, hij, hi, hj => by
    simp at hi
    subst hi
    rw [pairsOf]
    cases j with
    | zero => omega
    | succ j => exact List.mem_append_left _ (List.mem_map.2 ⟨q, List.mem_of_getElem? (i := j) (by simpa using hj), rfl⟩)
  | a :: r, i + 1, j, p, q, hij, hi, hj => by
    rw [pairsOf]
    cases j with
    | zero => omega
    | succ j => exact List.mem_append_right _ (pairs_of (i := i) (j := j) (by omega) (by simpa using hi) (by simpa using hj))
/-- Two points of a field with different speeds meet. -/
theorem ms_pair {l : List Pt} (hv : Val l) {p q : Pt} (hp : p ∈ l) (hq : q ∈ l) (hb : p.b ≠ q.b) : ∃ m ∈ msOf l, m.n * (p.b - q.b) = (q.a - p.a) * m.d := by
  obtain ⟨i, hi, rfl⟩ := List.getElem_of_mem hp
  obtain ⟨j, hj, rfl⟩ := List.getElem_of_mem hq
  rcases Nat.lt_trichotomy i j with h | h | h
  · have hx := pairs_of h (List.getElem?_eq_getElem hi) (List.getElem?_eq_getElem hj)
    rcases fM_any hv hx with ⟨e, _⟩ | ⟨_, m, hf, hm⟩
    · exact (hb e).elim
    · exact ⟨m, List.mem_filterMap.2 ⟨_, hx, hf⟩, hm.eq⟩
  · subst h; exact (hb rfl).elim
  · have hx := pairs_of h (List.getElem?_eq_getElem hj) (List.getElem?_eq_getElem hi)
    rcases fM_any hv hx with ⟨e, _⟩ | ⟨_, m, hf, hm⟩
    · exact (hb e.symm).elim
    · refine ⟨m, List.mem_filterMap.2 ⟨_, hx, hf⟩, ?_⟩
      have e := hm.eq
      have e0 : m.n * (l[j].b - l[i].b) = (l[i].a - l[j].a) * m.d := e
      have e1 : m.n * (l[i].b - l[j].b) = -(m.n * (l[j].b - l[i].b)) := by rw [← Int.mul_neg]; congr 1; omega
      have e2 : (l[j].a - l[i].a) * m.d = -((l[i].a - l[j].a) * m.d) := by rw [← Int.neg_mul]; congr 1; omega
      rw [e1, e2, e0]
theorem ld_equal {p q : Pt} {T D T' D' : Int} (h : 0 < D) (h' : 0 < D') (hb : p.b = q.b) : ld T D p q = ld T' D' p q := by
  unfold ld
  rw [hb, leads_same h, leads_same h']
end Go.Proofs.Ytoheadpehomdjaa
