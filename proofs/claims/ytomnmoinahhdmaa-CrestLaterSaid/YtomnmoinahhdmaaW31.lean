/-
  Joined: Fs, Fu, Fx, Gf, Gm. Conditions: none.
-/
import Derived.Test.YtomnmoinahhdmaaW30
import Derived.Test.YtomnmoinahhdmaaW27
import Derived.Test.YtomnmoinahhdmaaW26
import Derived.Test.YtomnmoinahhdmaaW22
import Derived.Shelf.SlSortCmp.NoneTotal
import Derived.Test.YtomnmoinahhdmaaProg
import Derived.Test.YtomnmoinahhdmaaFq
import Derived.Shelf.SlLaysF0
import Derived.Shelf.SlSortCmp.WholeK
import Derived.Test.YtomnmoinahhdmaaSm4
namespace Go.Proofs.Ytomnmoinahhdmaa
open Go.RowKit
/-- A valid time. -/
structure Tm (tn td : Int) : Prop where
  hn : I64 tn
  hd : I64 td
  ok : okB tn td = true
noncomputable def tE (l : List Pt) (tn td : Int) : Int := if errL l = 0 then (if okB tn td = true then 0 else 8) else errL l
theorem CWT_any {tn td : Int} (hn : I64 tn) (hd : I64 td) (l : List Pt) : FnL Try.prog 83 1 [fldS 0 l, .pv (ratioV tn td)] [(0, 0, rowP l)] (.pv (.int .i64 (tE l tn td))) 0 [] := by
  unfold tE
  by_cases h0 : errL l = 0
  · have c1 := PCheck_any l
    rw [h0] at c1
    rw [if_pos h0]
    by_cases hp : okB tn td = true
    · rw [if_pos hp]; exact cwt_ok c1 (Check_ok hn hd hp)
    · rw [if_neg hp]; exact cwt_ok c1 (Check_bad hn hd hp)
  · rw [if_neg h0]
    exact cwt_err (PCheck_any l) (by simp [h0])
theorem Timed_any {tn td : Int} (hn : I64 tn) (hd : I64 td) (l : List Pt) : FnL Try.prog 81 1 [fldS 0 l, .pv (ratioV tn td)] [(0, 0, rowP l)] (.pv (.int .i64 (tE l tn td))) 0 [] := by
  unfold tE
  by_cases h0 : errL l = 0
  · have c1 := RCheck_any l
    rw [h0] at c1
    rw [if_pos h0]
    by_cases hp : okB tn td = true
    · rw [if_pos hp]; exact tmd_ok c1 (RCheck_ok hn hd hp)
    · rw [if_neg hp]; exact tmd_ok c1 (RCheck_bad hn hd hp)
  · rw [if_neg h0]
    exact tmd_err (RCheck_any l) (by simp [h0])
theorem tE_ok {l : List Pt} {tn td : Int} (hv : Val l) (ht : okB tn td = true) : tE l tn td = 0 := by unfold tE; rw [if_pos (err_val.2 hv), if_pos ht]
theorem tE_val {l : List Pt} {tn td : Int} (h : tE l tn td = 0) : Val l ∧ okB tn td = true := by
  unfold tE at h
  by_cases h0 : errL l = 0
  · rw [if_pos h0] at h
    by_cases hp : okB tn td = true
    · exact ⟨err_val.1 h0, hp⟩
    · rw [if_neg hp] at h; cases h
  · rw [if_neg h0] at h; exact (h0 h).elim

section
variable {l : List Pt} {tn td : Int}
theorem lf_any (ht : Tm tn td) {p q : Pt} (hp : okPt p = true) (hq : okPt q = true) :
    FnL Try.prog 124 1 [.pv (ptV p), .pv (ptV q), .pp 0 0] [(0, 0, .pv (.int .i64 tn)), (0, 1, .pv (.int .i64 td))] (.pv (.int .i64 (cfL tn td p q))) 0 [] := by
  unfold cfL
  by_cases e : p.id = q.id
  · rw [if_pos e]; exact lf_eq (by simp [e])
  · rw [if_neg e]
    have a := Ahead_ok ht.hn ht.hd hp hq ht.ok e
    have hl : leadsB (p.a * td + p.b * tn) (q.a * td + q.b * tn) p.b q.b p.id q.id = ld tn td p q := rfl
    rw [hl] at a
    cases hc : ld tn td p q <;> rw [hc] at a
    · rw [if_neg (by decide)]; exact lf_gt (by simp [e]) a
    · rw [if_pos rfl]; exact lf_lt (by simp [e]) a

theorem Min_loop (hv : Val l) (ht : Tm tn td) {s : List Pt} (hs : Srt l tn td s) {m : Pt} (hm : s[0]? = some m) : ∀ (d k : Nat) (c : Pt), k + d = l.length → c ∈ l → (∀ (j : Nat) (q : Pt), j < k → l[j]? = some q → ld tn td q c = false) →
    RunsL Try.prog 2 2 (loopOf Try.prog 84 0) 33 4 ([(0, .ls 0 l.length), (1, .pc 124 [.pp 1 0]), (4, .pp 2 0), (5, .pp 3 0), (6, .pv (.int .i64 (k : Int)))]) ([(0, 0, rowP l), (1, 0, .pv (.int .i64 tn)), (1, 1, .pv (.int .i64 td)), (3, 0, .pv (.int .i64 (c).id)), (3, 1, .pv (.int .i64 (c).a)), (3, 2, .pv (.int .i64 (c).b)), (2, 0, .pv (.int .i64 0)), (2, 1, .pv (.int .i64 0)), (2, 2, .pv (.int .i64 0))]) (.exit 0) ([(4, .pp 2 0), (5, .pp 3 0)]) ([(0, 0, rowP l), (1, 0, .pv (.int .i64 tn)), (1, 1, .pv (.int .i64 td)), (3, 0, .pv (.int .i64 (m).id)), (3, 1, .pv (.int .i64 (m).a)), (3, 2, .pv (.int .i64 (m).b)), (2, 0, .pv (.int .i64 0)), (2, 1, .pv (.int .i64 0)), (2, 2, .pv (.int .i64 0))])
  | 0, k, c, hd, hc, hf => by
    have h0 : rk tn td l c = 0 := by
      unfold rk
      rw [List.countP_eq_zero]
      intro q hq
      obtain ⟨j, hj, rfl⟩ := List.getElem_of_mem hq
      rw [hf j _ (by omega) (List.getElem?_eq_getElem hj)]; decide
    have := hs.at hc
    rw [h0, hm] at this
    cases this
    exact mf_end (df (by omega))
  | d + 1, k, c, hd, hc, hf => by
    obtain ⟨p, hp⟩ := get_some (l := l) (k := k) (by omega)
    have hpm := List.mem_of_getElem? hp
    have hcf := cfL_neg (tn := tn) (td := td) (p := p) (q := c) (fun e => val_id hv hpm hc e)
    have hl := lf_any ht (hv.ok p hpm) (hv.ok c hc)
    cases hx : ld tn td p c <;> rw [hx] at hcf
    · exact mf_no hp (in_of (get_lt hp)) (dt (by omega)) hl hcf (i64s (get_lt hp) hv.len) (Min_loop hv ht hs hm d (k + 1) c (by omega) hc fun j q hj hq => by
        by_cases e : j = k
        · subst e; rw [hp] at hq; cases hq; exact hx
        · exact hf j q (by omega) hq)
    · exact mf_up hp (in_of (get_lt hp)) (dt (by omega)) hl hcf (i64s (get_lt hp) hv.len) (Min_loop hv ht hs hm d (k + 1) p (by omega) hpm fun j q hj hq => by
        by_cases e : j = k
        · subst e; rw [hp] at hq; cases hq; exact ld_irr _
        · cases hh : ld tn td q p
          · rfl
          · have h1 := ld_trans hh hx
            have h2 := hf j q (by omega) hq
            rw [h1] at h2; cases h2)
theorem Min_any (hv : Val l) (ht : Tm tn td) {s : List Pt} (hs : Srt l tn td s) {m : Pt} (hm : s[0]? = some m) :
    FnL Try.prog 84 2 [.ls 0 l.length, .pc 124 [.pp 1 0]] [(0, 0, rowP l), (1, 0, .pv (.int .i64 tn)), (1, 1, .pv (.int .i64 td))] (.pv (ptV m)) 0 [] := by
  have hl : 0 < l.length := by have := get_lt hm; rw [hs.len] at this; exact this
  obtain ⟨p, hp⟩ := get_some hl
  exact mf_path hp (in_of (k := 0) hl) (df (by omega)) (Min_loop hv ht hs hm (l.length - 1) (0 + 1) p (by omega) (List.mem_of_getElem? hp) fun j q hj hq => by
    have : j = 0 := by omega
    subst this
    rw [hp] at hq; cases hq; exact ld_irr _)

end
end Go.Proofs.Ytomnmoinahhdmaa

namespace Go.Proofs.Ytomnmoinahhdmaa
open Go.RowKit Go.Sort
section
variable {l : List Pt} {tn td : Int}
abbrev LeadIs (f : FuncId) (l : List Pt) (tn td x e : Int) : Prop := FnL Try.prog f 1 [fldS 0 l, .pv (ratioV tn td)] [(0, 0, rowP l)] (.pv (.tuple #[.int .i64 x, .int .i64 e])) 0 []
end
end Go.Proofs.Ytomnmoinahhdmaa

namespace Go.Proofs.Ytomnmoinahhdmaa
open Go.RowKit
theorem FindP_yes {l : List Pt} (hv : Val l) {k : Nat} {p : Pt} {id : Int} (hk : l[k]? = some p) (he : p.id = id) : FindIs 118 l id p 0 := by
  have c := PCheck_any l
  rw [err_val.2 hv] at c
  exact pfind_yes hk (in_of (get_lt hk)) c (find_yes hv hk he)
end Go.Proofs.Ytomnmoinahhdmaa

namespace Go.Proofs.Ytomnmoinahhdmaa
open Go.RowKit
instance decI64 (n : Int) : Decidable (I64 n) := by unfold I64; infer_instance
theorem fM_eq {x : Pt × Pt} (h1 : okPt x.1 = true) (h2 : okPt x.2 = true) (hb : x.1.b ≠ x.2.b) {n d : Int} (hk : okB n d = true) (he : n * (x.1.b - x.2.b) = (x.2.a - x.1.a) * d) : fM x = some ⟨n, d, x.1.id, x.2.id⟩ := by
  obtain ⟨m, h, hm⟩ := fM_diff h1 h2 hb
  have e := hm.eq
  have e2 : (m.n * d) * (x.1.b - x.2.b) = (n * m.d) * (x.1.b - x.2.b) := by
    have a1 : (m.n * d) * (x.1.b - x.2.b) = (m.n * (x.1.b - x.2.b)) * d := by rw [Int.mul_assoc, Int.mul_comm d, ← Int.mul_assoc]
    have a2 : (n * m.d) * (x.1.b - x.2.b) = (n * (x.1.b - x.2.b)) * m.d := by rw [Int.mul_assoc, Int.mul_comm m.d, ← Int.mul_assoc]
    rw [a1, a2, e, he, Int.mul_assoc, Int.mul_assoc, Int.mul_comm d]
  have e3 : m.n * d = n * m.d := Int.eq_of_mul_eq_mul_right (by omega) e2
  obtain ⟨e4, e5⟩ := okB_one hm.ok hk (by omega)
  rw [h, ← e4, ← e5, ← hm.i, ← hm.j]
abbrev gl : List Pt := [⟨1, 0, 2⟩, ⟨2, 6, -1⟩, ⟨5, 0, 0⟩]
theorem up_of : ∀ {l : List Pt}, (l.zip l.tail).all (fun x => decide (x.1.id < x.2.id)) = true → Up l := by
  intro l h k p q hp hq
  have h2 := List.all_eq_true.1 h (p, q) (by
    refine List.mem_of_getElem? (i := k) ?_
    rw [List.getElem?_zip_eq_some]
    exact ⟨hp, by rw [List.getElem?_tail]; exact hq⟩)
  exact of_decide_eq_true h2
theorem gl_val : Val gl := ⟨by decide, by decide, up_of (by decide)⟩
end Go.Proofs.Ytomnmoinahhdmaa

namespace Go.Proofs.Ytomnmoinahhdmaa
open Go.RowKit
theorem pairs_of : ∀ {l : List Pt} {i j : Nat} {p q : Pt}, i < j → l[i]? = some p → l[j]? = some q → (p, q) ∈ pairsOf l
  | [], i, j, p, q, _, h, _ => by simp at h
  | a :: r, 0, j, p, q, hij, hi, hj => by
    simp at hi
    subst hi
    rw [pairsOf]
    cases j with
    | zero => omega
    | succ j => exact List.mem_append_left _ (List.mem_map.2 ⟨q, List.mem_of_getElem? (i := j) (by simpa using hj), rfl⟩)
  | a :: r, i + 1, j, p, q, hij, hi, hj => by
    rw [pairsOf]
    cases j with
    | zero => omega
    | succ j => exact List.mem_append_right _ (pairs_of (i := i) (j := j) (by omega) (by simpa using hi) (by simpa using hj))
/-- Two points of a field with different speeds meet. -/
theorem ms_pair {l : List Pt} (hv : Val l) {p q : Pt} (hp : p ∈ l) (hq : q ∈ l) (hb : p.b ≠ q.b) : ∃ m ∈ msOf l, m.n * (p.b - q.b) = (q.a - p.a) * m.d := by
  obtain ⟨i, hi, rfl⟩ := List.getElem_of_mem hp
  obtain ⟨j, hj, rfl⟩ := List.getElem_of_mem hq
  rcases Nat.lt_trichotomy i j with h | h | h
  · have hx := pairs_of h (List.getElem?_eq_getElem hi) (List.getElem?_eq_getElem hj)
    rcases fM_any hv hx with ⟨e, _⟩ | ⟨_, m, hf, hm⟩
    · exact (hb e).elim
    · exact ⟨m, List.mem_filterMap.2 ⟨_, hx, hf⟩, hm.eq⟩
  · subst h; exact (hb rfl).elim
  · have hx := pairs_of h (List.getElem?_eq_getElem hj) (List.getElem?_eq_getElem hi)
    rcases fM_any hv hx with ⟨e, _⟩ | ⟨_, m, hf, hm⟩
    · exact (hb e.symm).elim
    · refine ⟨m, List.mem_filterMap.2 ⟨_, hx, hf⟩, ?_⟩
      have e := hm.eq
      have e0 : m.n * (l[j].b - l[i].b) = (l[i].a - l[j].a) * m.d := e
      have e1 : m.n * (l[i].b - l[j].b) = -(m.n * (l[j].b - l[i].b)) := by rw [← Int.mul_neg]; congr 1; omega
      have e2 : (l[j].a - l[i].a) * m.d = -((l[i].a - l[j].a) * m.d) := by rw [← Int.neg_mul]; congr 1; omega
      rw [e1, e2, e0]
theorem ld_equal {p q : Pt} {T D T' D' : Int} (h : 0 < D) (h' : 0 < D') (hb : p.b = q.b) : ld T D p q = ld T' D' p q := by
  unfold ld
  rw [hb, leads_same h, leads_same h']
end Go.Proofs.Ytomnmoinahhdmaa
