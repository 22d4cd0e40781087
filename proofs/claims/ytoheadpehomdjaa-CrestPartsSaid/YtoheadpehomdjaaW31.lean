/-
  Joined: Fr, Fs, Ft, Fu, Fx, Gb0, Ha. Conditions: none.
-/
import Derived.Test.YtoheadpehomdjaaFm
import Derived.Test.YtoheadpehomdjaaW25
import Derived.Test.YtoheadpehomdjaaW24
import Derived.Test.YtoheadpehomdjaaW30
import Derived.Shelf.SlSortCmp.WholeK
import Derived.Test.YtoheadpehomdjaaProg
import Derived.Test.YtoheadpehomdjaaFq
import Derived.Shelf.SlLaysF0
import Derived.Shelf.SlSortCmp.NoneTotal
namespace Go.Proofs.Ytoheadpehomdjaa
open Go.RowKit
def ld (tn td : Int) (p q : Pt) : Bool := leadsB (p.a * td + p.b * tn) (q.a * td + q.b * tn) p.b q.b p.id q.id
theorem leadsB_iff {P Q pb qb pi qi : Int} : leadsB P Q pb qb pi qi = true ↔ (P > Q ∨ P = Q ∧ (pb > qb ∨ pb = qb ∧ pi < qi)) := by unfold leadsB; exact decide_eq_true_iff
theorem leadsB_niff {P Q pb qb pi qi : Int} : leadsB P Q pb qb pi qi = false ↔ ¬ (P > Q ∨ P = Q ∧ (pb > qb ∨ pb = qb ∧ pi < qi)) := by unfold leadsB; exact decide_eq_false_iff_not
section
variable {tn td : Int} {p q r : Pt}
theorem ld_irr (p : Pt) : ld tn td p p = false := leadsB_niff.2 (by omega)
theorem ld_trans (h : ld tn td p q = true) (k : ld tn td q r = true) : ld tn td p r = true := by
  unfold ld at *
  generalize p.a * td + p.b * tn = P at *
  generalize q.a * td + q.b * tn = Q at *
  generalize r.a * td + r.b * tn = R at *
  rw [leadsB_iff] at *
  omega
theorem ld_ntrans (h : ld tn td p q = false) (k : ld tn td q r = false) : ld tn td p r = false := by
  unfold ld at *
  generalize p.a * td + p.b * tn = P at *
  generalize q.a * td + q.b * tn = Q at *
  generalize r.a * td + r.b * tn = R at *
  rw [leadsB_niff] at *
  omega
theorem ld_asym (h : ld tn td p q = true) : ld tn td q p = false := by
  cases hh : ld tn td q p
  · rfl
  · have := ld_trans h hh; rw [ld_irr] at this; cases this
theorem ld_tot (hi : p.id ≠ q.id) (h : ld tn td p q = false) : ld tn td q p = true := by
  unfold ld at *
  generalize p.a * td + p.b * tn = P at *
  generalize q.a * td + q.b * tn = Q at *
  rw [leadsB_niff] at h
  rw [leadsB_iff]
  omega
end
/-- How many lead. -/
def rk (tn td : Int) (l : List Pt) (p : Pt) : Nat := l.countP fun q => ld tn td q p
theorem rk_aux {tn td : Int} : ∀ (s : List Pt) (k : Nat) (p : Pt), s.Pairwise (fun p q => ld tn td p q = true) → s[k]? = some p → rk tn td s p = k
  | [], _, _, _, h => by simp at h
  | a :: r, 0, p, hp, h => by
    simp only [List.getElem?_cons_zero, Option.some.injEq] at h
    subst h
    rw [List.pairwise_cons] at hp
    unfold rk
    rw [List.countP_eq_zero]
    intro q hq
    rcases List.mem_cons.1 hq with rfl | hq
    · rw [ld_irr]; decide
    · rw [ld_asym (hp.1 q hq)]; decide
  | a :: r, k + 1, p, hp, h => by
    rw [List.getElem?_cons_succ] at h
    rw [List.pairwise_cons] at hp
    have := rk_aux r k p hp.2 h
    unfold rk at this ⊢
    rw [List.countP_cons, this, if_pos (hp.1 p (List.mem_of_getElem? h))]
structure Srt (l : List Pt) (tn td : Int) (s : List Pt) : Prop where
  perm : s.Perm l
  pw : s.Pairwise (fun p q => ld tn td p q = true)
theorem Srt.len {l s : List Pt} {tn td : Int} (h : Srt l tn td s) : s.length = l.length := h.perm.length_eq
theorem Srt.rank {l s : List Pt} {tn td : Int} (h : Srt l tn td s) {k : Nat} {p : Pt} (hk : s[k]? = some p) : rk tn td l p = k := by
  have := rk_aux s k p h.pw hk
  unfold rk at this ⊢
  rw [← h.perm.countP_eq]; exact this
theorem Srt.at {l s : List Pt} {tn td : Int} (h : Srt l tn td s) {p : Pt} (hp : p ∈ l) : s[rk tn td l p]? = some p := by
  obtain ⟨k, hk, e⟩ := List.getElem_of_mem (h.perm.mem_iff.2 hp)
  have hk' : s[k]? = some p := by rw [List.getElem?_eq_getElem hk, e]
  rw [h.rank hk']; exact hk'
theorem Srt.lt {l s : List Pt} {tn td : Int} (h : Srt l tn td s) {p : Pt} (hp : p ∈ l) : rk tn td l p < l.length := by rw [← h.len]; exact get_lt (h.at hp)
theorem Srt.uniq {l s t : List Pt} {tn td : Int} (h : Srt l tn td s) (k : Srt l tn td t) : s = t := by
  apply List.ext_getElem?
  intro i
  by_cases hi : i < t.length
  · obtain ⟨p, hp⟩ := get_some hi
    rw [hp]
    have := h.at (k.perm.mem_iff.1 (List.mem_of_getElem? hp))
    rw [k.rank hp] at this
    exact this
  · have e1 : t[i]? = none := List.getElem?_eq_none (by omega)
    have e2 : s[i]? = none := List.getElem?_eq_none (by have := h.len; have := k.len; omega)
    rw [e1, e2]
/-- A list in order from one that is in no wrong order. -/
theorem Srt.mk_of {l s : List Pt} {tn td : Int} (hv : Val l) (hp : s.Perm l) (h : s.Pairwise (fun p q => ld tn td q p = false)) : Srt l tn td s := by
  have hne : l.Pairwise (fun p q => p.id ≠ q.id) := by
    rw [List.pairwise_iff_getElem]
    intro i j hi hj hij
    have := hv.up.mono hij (List.getElem?_eq_getElem hi) (List.getElem?_eq_getElem hj)
    omega
  have hns : s.Pairwise (fun p q => p.id ≠ q.id) := (hp.pairwise_iff (fun h e => h e.symm)).2 hne
  exact ⟨hp, (h.and hns).imp fun ⟨a, b⟩ => ld_tot (fun e => b e.symm) a⟩
theorem Srt_pure {l : List Pt} {tn td : Int} (hv : Val l) : ∃ s, Srt l tn td s := by
  refine ⟨l.mergeSort (fun p q => !ld tn td q p), Srt.mk_of hv (List.mergeSort_perm _ _) ?_⟩
  have h := List.pairwise_mergeSort (le := fun p q : Pt => !ld tn td q p) (fun a b c h1 h2 => ?_) (fun a b => ?_) l
  · exact h.imp fun {a b} h => by simpa using h
  · have h1' : ld tn td b a = false := by simpa using h1
    have h2' : ld tn td c b = false := by simpa using h2
    simp [ld_ntrans h2' h1']
  · cases h : ld tn td b a
    · simp
    · simp [ld_asym h]
theorem val_id {l : List Pt} (hv : Val l) {p q : Pt} (hp : p ∈ l) (hq : q ∈ l) (e : p.id = q.id) : p = q := by
  obtain ⟨i, hi, rfl⟩ := List.getElem_of_mem hp
  obtain ⟨j, hj, rfl⟩ := List.getElem_of_mem hq
  rcases Nat.lt_trichotomy i j with h | h | h
  · have := hv.up.mono h (List.getElem?_eq_getElem hi) (List.getElem?_eq_getElem hj); omega
  · subst h; rfl
  · have := hv.up.mono h (List.getElem?_eq_getElem hj) (List.getElem?_eq_getElem hi); omega
/-- What the program's comparison returns. -/
def cfL (tn td : Int) (p q : Pt) : Int := if p.id = q.id then 0 else if ld tn td p q = true then -1 else 1
theorem cfL_neg {tn td : Int} {p q : Pt} (h : p.id = q.id → p = q) : decide (cfL tn td p q < 0) = ld tn td p q := by
  unfold cfL
  by_cases e : p.id = q.id
  · rw [if_pos e, h e, ld_irr]; rfl
  · rw [if_neg e]
    cases ld tn td p q <;> rfl
end Go.Proofs.Ytoheadpehomdjaa

namespace Go.Proofs.Ytoheadpehomdjaa
open Go.RowKit
/-- A valid time. -/
structure Tm (tn td : Int) : Prop where
  hn : I64 tn
  hd : I64 td
  ok : okB tn td = true
noncomputable def tE (l : List Pt) (tn td : Int) : Int := if errL l = 0 then (if okB tn td = true then 0 else 8) else errL l
theorem CWT_any {tn td : Int} (hn : I64 tn) (hd : I64 td) (l : List Pt) : FnL Try.prog 29 1 [fldS 0 l, .pv (ratioV tn td)] [(0, 0, rowP l)] (.pv (.int .i64 (tE l tn td))) 0 [] := by
  unfold tE
  by_cases h0 : errL l = 0
  · have c1 := PCheck_any l
    rw [h0] at c1
    rw [if_pos h0]
    by_cases hp : okB tn td = true
    · rw [if_pos hp]; exact cwt_ok c1 (Check_ok hn hd hp)
    · rw [if_neg hp]; exact cwt_ok c1 (Check_bad hn hd hp)
  · rw [if_neg h0]
    exact cwt_err (PCheck_any l) (by simp [h0])
theorem Timed_any {tn td : Int} (hn : I64 tn) (hd : I64 td) (l : List Pt) : FnL Try.prog 28 1 [fldS 0 l, .pv (ratioV tn td)] [(0, 0, rowP l)] (.pv (.int .i64 (tE l tn td))) 0 [] := by
  unfold tE
  by_cases h0 : errL l = 0
  · have c1 := RCheck_any l
    rw [h0] at c1
    rw [if_pos h0]
    by_cases hp : okB tn td = true
    · rw [if_pos hp]; exact tmd_ok c1 (RCheck_ok hn hd hp)
    · rw [if_neg hp]; exact tmd_ok c1 (RCheck_bad hn hd hp)
  · rw [if_neg h0]
    exact tmd_err (RCheck_any l) (by simp [h0])
theorem tE_ok {l : List Pt} {tn td : Int} (hv : Val l) (ht : okB tn td = true) : tE l tn td = 0 := by unfold tE; rw [if_pos (err_val.2 hv), if_pos ht]
section
variable {l : List Pt} {tn td : Int}
theorem lf_any (ht : Tm tn td) {p q : Pt} (hp : okPt p = true) (hq : okPt q = true) :
    FnL Try.prog 46 1 [.pv (ptV p), .pv (ptV q), .pp 0 0] [(0, 0, .pv (.int .i64 tn)), (0, 1, .pv (.int .i64 td))] (.pv (.int .i64 (cfL tn td p q))) 0 [] := by
  unfold cfL
  by_cases e : p.id = q.id
  · rw [if_pos e]; exact lf_eq (by simp [e])
  · rw [if_neg e]
    have a := Ahead_ok ht.hn ht.hd hp hq ht.ok e
    have hl : leadsB (p.a * td + p.b * tn) (q.a * td + q.b * tn) p.b q.b p.id q.id = ld tn td p q := rfl
    rw [hl] at a
    cases hc : ld tn td p q <;> rw [hc] at a
    · rw [if_neg (by decide)]; exact lf_gt (by simp [e]) a
    · rw [if_pos rfl]; exact lf_lt (by simp [e]) a

theorem Min_loop (hv : Val l) (ht : Tm tn td) {s : List Pt} (hs : Srt l tn td s) {m : Pt} (hm : s[0]? = some m) : ∀ (d k : Nat) (c : Pt), k + d = l.length → c ∈ l → (∀ (j : Nat) (q : Pt), j < k → l[j]? = some q → ld tn td q c = false) →
    RunsL Try.prog 2 2 (loopOf Try.prog 30 0) 33 4 ([(0, .ls 0 l.length), (1, .pc 46 [.pp 1 0]), (4, .pp 2 0), (5, .pp 3 0), (6, .pv (.int .i64 (k : Int)))]) ([(0, 0, rowP l), (1, 0, .pv (.int .i64 tn)), (1, 1, .pv (.int .i64 td)), (3, 0, .pv (.int .i64 (c).id)), (3, 1, .pv (.int .i64 (c).a)), (3, 2, .pv (.int .i64 (c).b)), (2, 0, .pv (.int .i64 0)), (2, 1, .pv (.int .i64 0)), (2, 2, .pv (.int .i64 0))]) (.exit 0) ([(4, .pp 2 0), (5, .pp 3 0)]) ([(0, 0, rowP l), (1, 0, .pv (.int .i64 tn)), (1, 1, .pv (.int .i64 td)), (3, 0, .pv (.int .i64 (m).id)), (3, 1, .pv (.int .i64 (m).a)), (3, 2, .pv (.int .i64 (m).b)), (2, 0, .pv (.int .i64 0)), (2, 1, .pv (.int .i64 0)), (2, 2, .pv (.int .i64 0))])
  | 0, k, c, hd, hc, hf => by
    have h0 : rk tn td l c = 0 := by
      unfold rk
      rw [List.countP_eq_zero]
      intro q hq
      obtain ⟨j, hj, rfl⟩ := List.getElem_of_mem hq
      rw [hf j _ (by omega) (List.getElem?_eq_getElem hj)]; decide
    have := hs.at hc
    rw [h0, hm] at this
    cases this
    exact mf_end (df (by omega))
  | d + 1, k, c, hd, hc, hf => by
    obtain ⟨p, hp⟩ := get_some (l := l) (k := k) (by omega)
    have hpm := List.mem_of_getElem? hp
    have hcf := cfL_neg (tn := tn) (td := td) (p := p) (q := c) (fun e => val_id hv hpm hc e)
    have hl := lf_any ht (hv.ok p hpm) (hv.ok c hc)
    cases hx : ld tn td p c <;> rw [hx] at hcf
    · exact mf_no hp (in_of (get_lt hp)) (dt (by omega)) hl hcf (i64s (get_lt hp) hv.len) (Min_loop hv ht hs hm d (k + 1) c (by omega) hc fun j q hj hq => by
        by_cases e : j = k
        · subst e; rw [hp] at hq; cases hq; exact hx
        · exact hf j q (by omega) hq)
    · exact mf_up hp (in_of (get_lt hp)) (dt (by omega)) hl hcf (i64s (get_lt hp) hv.len) (Min_loop hv ht hs hm d (k + 1) p (by omega) hpm fun j q hj hq => by
        by_cases e : j = k
        · subst e; rw [hp] at hq; cases hq; exact ld_irr _
        · cases hh : ld tn td q p
          · rfl
          · have h1 := ld_trans hh hx
            have h2 := hf j q (by omega) hq
            rw [h1] at h2; cases h2)
theorem Min_any (hv : Val l) (ht : Tm tn td) {s : List Pt} (hs : Srt l tn td s) {m : Pt} (hm : s[0]? = some m) :
    FnL Try.prog 30 2 [.ls 0 l.length, .pc 46 [.pp 1 0]] [(0, 0, rowP l), (1, 0, .pv (.int .i64 tn)), (1, 1, .pv (.int .i64 td))] (.pv (ptV m)) 0 [] := by
  have hl : 0 < l.length := by have := get_lt hm; rw [hs.len] at this; exact this
  obtain ⟨p, hp⟩ := get_some hl
  exact mf_path hp (in_of (k := 0) hl) (df (by omega)) (Min_loop hv ht hs hm (l.length - 1) (0 + 1) p (by omega) (List.mem_of_getElem? hp) fun j q hj hq => by
    have : j = 0 := by omega
    subst this
    rw [hp] at hq; cases hq; exact ld_irr _)

end
end Go.Proofs.Ytoheadpehomdjaa

namespace Go.Proofs.Ytoheadpehomdjaa
open Go.RowKit Go.Sort
/-- A world that has only grown is the old one with draws and blocks behind it. -/
theorem gr_grow {w w' : World} (h : Gr w w') : ∃ (q : Nat) (os : Array Obj), w' = Sort.grow (w.drewN q) os := by
  obtain ⟨⟨h1, h2, h3, h4, h5⟩, _, h7⟩ := h
  refine ⟨w'.drawn - w.drawn, w'.heap.extract w.heap.size w'.heap.size, ?_⟩
  obtain ⟨heap, tape, drawn, os, output⟩ := w
  obtain ⟨heap', tape', drawn', os', output'⟩ := w'
  simp only at h1 h2 h3 h4 h5 h7
  subst h1 h2 h3
  unfold Sort.grow World.drewN
  simp only [World.mk.injEq, and_true, true_and]
  refine ⟨?_, by omega⟩
  apply Array.ext_getElem?
  intro i
  by_cases hi : i < heap.size
  · rw [Array.getElem?_append_left hi]; exact h5 i hi
  · rw [Array.getElem?_append_right (by omega), Array.getElem?_extract]
    by_cases hj : i < heap'.size
    · rw [if_pos (by omega), show heap.size + (i - heap.size) = i by omega]
    · rw [if_neg (by omega), Array.getElem?_eq_none (by omega)]
theorem put_cells {w : World} {g : Nat} {cur : Array Value} {e : TypeId} {fr : Nat × Nat} (hg : w.heap[g]? = some (.cells cur e fr)) (F : Array Value) :
    (putRow id w g 0 F).heap[g]? = some (.cells (putCells id 0 F cur) e fr) := by
  unfold putRow mapBlock
  simp only [Array.getElem?_modify, if_true, hg, Option.map_some, onCells]
theorem put_other (w : World) (g : Nat) (F : Array Value) {k : Nat} (h : k ≠ g) : (putRow id w g 0 F).heap[k]? = w.heap[k]? := by
  unfold putRow mapBlock
  simp only [Array.getElem?_modify, if_neg (fun e : g = k => h e.symm)]
theorem putCells_take (F cur : Array Value) (h : F.size ≤ cur.size) : (putCells id 0 F cur).toList.take F.size = F.toList := by
  apply List.ext_getElem?
  intro i
  rw [List.getElem?_take]
  by_cases hi : i < F.size
  · rw [if_pos hi]
    unfold putCells
    simp only [Array.getElem?_toList, Array.getElem?_mapIdx]
    rw [Array.getElem?_eq_getElem (show i < cur.size by omega), Option.map_some, if_pos (by omega), Nat.sub_zero, getElem!_pos F i hi, Array.getElem?_eq_getElem hi]
    rfl
  · rw [if_neg hi, List.getElem?_eq_none (by simpa using hi)]
theorem putCells_size (F cur : Array Value) : (putCells id 0 F cur).size = cur.size := by unfold putCells; simp

section
variable {l : List Pt} {tn td : Int}
end
end Go.Proofs.Ytoheadpehomdjaa

namespace Go.Proofs.Ytoheadpehomdjaa
open Go.RowKit Go.Sort
section
variable {l : List Pt} {tn td : Int}
abbrev LeadIs (f : FuncId) (l : List Pt) (tn td x e : Int) : Prop := FnL Try.prog f 1 [fldS 0 l, .pv (ratioV tn td)] [(0, 0, rowP l)] (.pv (.tuple #[.int .i64 x, .int .i64 e])) 0 []
end
end Go.Proofs.Ytoheadpehomdjaa

namespace Go.Proofs.Ytoheadpehomdjaa
open Go.RowKit
theorem FindP_yes {l : List Pt} (hv : Val l) {k : Nat} {p : Pt} {id : Int} (hk : l[k]? = some p) (he : p.id = id) : FindIs 40 l id p 0 := by
  have c := PCheck_any l
  rw [err_val.2 hv] at c
  exact pfind_yes hk (in_of (get_lt hk)) c (find_yes hv hk he)
end Go.Proofs.Ytoheadpehomdjaa

namespace Go.Proofs.Ytoheadpehomdjaa
theorem pw_uniq {α : Type} {r : α → α → Prop} : ∀ {a b : List α}, a.Perm b → (∀ x ∈ a, ∀ y ∈ a, r x y → r y x → x = y) → a.Pairwise r → b.Pairwise r → a = b
  | [], b, h, _, _, _ => h.nil_eq
  | x :: a, b, h, hr, ha, hb => by
    cases b with
    | nil => exact (List.not_perm_cons_nil h).elim
    | cons y b =>
      have hx : x ∈ y :: b := h.subset List.mem_cons_self
      have hy : y ∈ x :: a := h.symm.subset List.mem_cons_self
      have e : x = y := by
        rcases List.mem_cons.1 hx with e | hx
        · exact e
        · rcases List.mem_cons.1 hy with e | hy
          · exact e.symm
          · exact hr x List.mem_cons_self y (List.mem_cons_of_mem _ hy) ((List.pairwise_cons.1 ha).1 y hy) ((List.pairwise_cons.1 hb).1 x hx)
      subst e
      rw [pw_uniq h.cons_inv (fun u hu v hv => hr u (List.mem_cons_of_mem _ hu) v (List.mem_cons_of_mem _ hv)) (List.pairwise_cons.1 ha).2 (List.pairwise_cons.1 hb).2]

end Go.Proofs.Ytoheadpehomdjaa

namespace Go.Proofs.Ytoheadpehomdjaa
open Go.RowKit
structure Ld where
  n : Int
  d : Int
  id : Int
abbrev leadV (x : Ld) : Value := .agg #[.int .i64 x.n, .int .i64 x.d, .int .i64 x.id]
abbrev lcV (x : Ld) : List Value := [.int .i64 x.n, .int .i64 x.d, .int .i64 x.id]
def ldsV : List Ld → List Value
  | [] => []
  | m :: r => .int .i64 m.n :: .int .i64 m.d :: .int .i64 m.id :: ldsV r
theorem ldsV_append : ∀ (a b : List Ld), ldsV (a ++ b) = ldsV a ++ ldsV b
  | [], _ => rfl
  | p :: r, b => by simp [ldsV, ldsV_append r b]
theorem ldsV_get : ∀ {l : List Ld} {k : Nat} {m : Ld}, l[k]? = some m → (ldsV l)[k * 3]? = some (.int .i64 m.n) ∧ (ldsV l)[k * 3 + 1]? = some (.int .i64 m.d) ∧ (ldsV l)[k * 3 + 2]? = some (.int .i64 m.id)
  | [], k, p, h => by simp at h
  | q :: r, 0, p, h => by simp at h; subst h; exact ⟨rfl, rfl, rfl⟩
  | q :: r, k + 1, p, h => by
    have := ldsV_get (l := r) (k := k) (m := p) (by simpa using h)
    rw [show (k + 1) * 3 = k * 3 + 1 + 1 + 1 by omega]
    exact this
theorem ra_ld {l : List Ld} {k : Nat} {m : Ld} (h : l[k]? = some m) : rowAt (ldsV l) (0 * 3 + k * 3) (lcV m) := by
  obtain ⟨h1, h2, h3⟩ := ldsV_get h
  intro j v hj
  rw [show 0 * 3 + k * 3 + j = k * 3 + j by omega]
  match j, hj with
  | 0, hj => cases hj; exact h1
  | 1, hj => cases hj; exact h2
  | 2, hj => cases hj; exact h3
  | j + 3, hj => simp at hj
theorem ra_lf {l : List Ld} {k : Nat} {m : Ld} (h : l[k]? = some m) : rowAt (ldsV l) (0 * 3 + k * 3) [.int .i64 m.n, .int .i64 m.d] := by
  obtain ⟨h1, h2, h3⟩ := ldsV_get h
  intro j v hj
  rw [show 0 * 3 + k * 3 + j = k * 3 + j by omega]
  match j, hj with
  | 0, hj => cases hj; exact h1
  | 1, hj => cases hj; exact h2
  | j + 2, hj => simp at hj
theorem ra_li {l : List Ld} {k : Nat} {m : Ld} (h : l[k]? = some m) : rowAt (ldsV l) (0 * 3 + k * 3 + 2) [.int .i64 m.id] := by
  obtain ⟨h1, h2, h3⟩ := ldsV_get h
  intro j v hj
  match j, hj with
  | 0, hj => cases hj; rw [show 0 * 3 + k * 3 + 2 + 0 = k * 3 + 2 by omega]; exact h3
  | j + 1, hj => simp at hj
abbrev rowL (l : List Ld) : SV := .row 34 3 l.length (ldsV l)
theorem snoc_ld (l : List Ld) (m : Ld) : ldsV l ++ lcV m = ldsV (l ++ [m]) := by rw [ldsV_append]; rfl
theorem snocl_ls (b : Nat) (l : List Ld) (m : Ld) : SV.ls b (l.length + 1) = SV.ls b (l ++ [m]).length := by rw [List.length_append]; rfl
theorem snocl_row (l : List Ld) (m : Ld) : some (SV.row 34 3 (l.length + 1) (ldsV l ++ lcV m)) = some (rowL (l ++ [m])) := by rw [snoc_ld, rowL, List.length_append]; rfl
set_option maxRecDepth 100000 in
theorem ccmp_path {an ad bn bd k e : Int} (h : Pure Try.prog 49 #[ratioV an ad, ratioV bn bd] (.tuple #[.int .i64 k, .int .i64 e])) : Pure Try.prog 36 #[ratioV an ad, ratioV bn bd] (.int .i64 k) :=
  pure_run (args := [ratioV an ad, ratioV bn bd]) 200 [.r (.tuple #[.int .i64 k, .int .i64 e])] (And.intro rfl (And.intro h True.intro)) (by kernel_rfl)
set_option maxRecDepth 100000 in
theorem cbef_path {an ad bn bd k : Int} {b : Bool} (h : Pure Try.prog 36 #[ratioV an ad, ratioV bn bd] (.int .i64 k)) (hb : decide (k < 0) = b) : Pure Try.prog 20 #[ratioV an ad, ratioV bn bd] (.bool b) :=
  pure_run (args := [ratioV an ad, ratioV bn bd]) 200 [.r (.int .i64 k), .t b] (And.intro rfl (And.intro h (And.intro hb True.intro))) (by kernel_rfl)
set_option maxRecDepth 100000 in
theorem clost_path {p q : Pt} {n d m k e : Int} {s : Bool} (h : Pure Try.prog 48 #[ptV p, ptV q, ratioV n d] (.tuple #[ratioV m k, .bool s, .int .i64 e])) : Pure Try.prog 33 #[ptV p, ptV q, ratioV n d] (.tuple #[ratioV m k, .bool s]) :=
  pure_run (args := [ptV p, ptV q, ratioV n d]) 200 [.r (.tuple #[ratioV m k, .bool s, .int .i64 e])] (And.intro rfl (And.intro h True.intro)) (by kernel_rfl)
set_option maxRecDepth 100000 in
theorem clf_path {x : Ld} {n d k : Int} (h : Pure Try.prog 36 #[ratioV x.n x.d, ratioV n d] (.int .i64 k)) : Pure Try.prog 38 #[leadV x, ratioV n d] (.int .i64 k) :=
  pure_run (args := [leadV x, ratioV n d]) 200 [.r (.int .i64 k)] (And.intro rfl (And.intro h True.intro)) (by kernel_rfl)
section
variable {x y : Ld} {e : Int} {a b c : Bool}
set_option maxRecDepth 100000 in
theorem il_bad (h : Pure Try.prog 19 #[ratioV x.n x.d] (.int .i64 e)) (h1 : (e == 0) = false) : Pure Try.prog 25 #[leadV x] (.bool false) :=
  pure_run (args := [leadV x]) 200 [.r (.int .i64 e), .t false] (And.intro rfl (And.intro h (And.intro h1 True.intro))) (by kernel_rfl)
set_option maxRecDepth 100000 in
theorem il_lo (h : Pure Try.prog 19 #[ratioV x.n x.d] (.int .i64 0)) (h1 : decide (0 ≤ x.id) = false) : Pure Try.prog 25 #[leadV x] (.bool false) :=
  pure_run (args := [leadV x]) 200 [.r (.int .i64 0), .k, .t false] (And.intro rfl (And.intro h (And.intro h1 True.intro))) (by kernel_rfl)
set_option maxRecDepth 100000 in
theorem il_hi (h : Pure Try.prog 19 #[ratioV x.n x.d] (.int .i64 0)) (h1 : decide (0 ≤ x.id) = true) (h2 : decide (x.id ≤ 65535) = b) : Pure Try.prog 25 #[leadV x] (.bool b) :=
  pure_run (args := [leadV x]) 200 [.r (.int .i64 0), .k, .t true, .t b] (And.intro rfl (And.intro h (And.intro h1 (And.intro h2 True.intro)))) (by kernel_rfl)
set_option maxRecDepth 100000 in
theorem fo_no (h1 : (!(y.id == x.id)) = false) : Pure Try.prog 26 #[leadV y, leadV x] (.bool false) :=
  pure_run (args := [leadV y, leadV x]) 200 [.t false] (And.intro rfl (And.intro h1 True.intro)) (by kernel_rfl)
set_option maxRecDepth 100000 in
theorem fo_yes (h1 : (!(y.id == x.id)) = true) (h : Pure Try.prog 20 #[ratioV x.n x.d, ratioV y.n y.d] (.bool b)) : Pure Try.prog 26 #[leadV y, leadV x] (.bool b) :=
  pure_run (args := [leadV y, leadV x]) 200 [.t true, .r (.bool b)] (And.intro rfl (And.intro h1 (And.intro h True.intro))) (by kernel_rfl)
end
set_option maxRecDepth 100000 in
theorem cpt_path {l : List Pt} {p : Pt} {e : Int} {id : Int} (hf : FnL Try.prog 40 1 [fldS 0 l, .pv (.int .i64 (id))] [(0, 0, rowP l)] (.pv (.tuple #[ptV p, .int .i64 e])) 0 []) :
    FnL Try.prog 32 1 [fldS 0 l, .pv (.int .i64 (id))] [(0, 0, rowP l)] (.pv (ptV p)) 0 [] :=
  fnl_run 300 [] [.f [0] [fldS 0 l, .pv (.int .i64 (id))] [(0, 0, rowP l)] (.pv (.tuple #[ptV p, .int .i64 e])) 0 []]
     True.intro (And.intro hf (And.intro (Eq.refl (List.map (SV.ren (renU [0] 3)) [fldS 0 l, .pv (.int .i64 (id))])) (And.intro (reflH (renU [0] 3) [(0, 0, rowP l)]) True.intro))) (by kernel_rfl)

set_option maxRecDepth 100000 in
theorem ov_skip_true {l : List Pt} {x : Ld} {p q : Pt} {k : Nat} {fn fd m k' : Int} (hk : l[k]? = some q) (hin : 0 ≤ (k : Int) ∧ (k : Int) < (l.length : Int)) (hlt : decide ((k : Int) < (l.length : Int)) = true) (hl : Pure Try.prog 33 #[ptV p, ptV q, ratioV x.n x.d] (.tuple #[ratioV m k', .bool false])) (hs : Value.int .i64 (IntKind.i64.wrap ((k : Int) + 1)) = .int .i64 (((k + 1 : Nat) : Int))) {e : Exit} {tm2 : List (Nat × SV)} {hp2 : List (Nat × Nat × SV)}
    (r : RunsL Try.prog 1 1 (loopOf Try.prog 17 0) 59 6 ([(2, .pp 1 0), (3, .pp 2 0), (4, .pp 3 0), (6, .pp 4 0), (7, .pp 5 0), (8, .pv (.bool true)), (21, .ls 0 l.length), (22, .pv (.int .i64 (l.length : Int))), (23, .pv (.int .i64 ((k + 1 : Nat) : Int)))]) ([(1, 0, .ls 0 l.length), (2, 0, .pv (.int .i64 x.n)), (2, 1, .pv (.int .i64 x.d)), (2, 2, .pv (.int .i64 x.id)), (3, 0, .pv (.int .i64 0)), (3, 1, .pv (.int .i64 0)), (3, 2, .pv (.int .i64 0)), (4, 0, .pv (.int .i64 p.id)), (4, 1, .pv (.int .i64 p.a)), (4, 2, .pv (.int .i64 p.b)), (5, 0, .pv (.int .i64 (fn))), (5, 1, .pv (.int .i64 (fd))), (0, 0, rowP l)]) e tm2 hp2) : RunsL Try.prog 1 1 (loopOf Try.prog 17 0) 59 6 ([(2, .pp 1 0), (3, .pp 2 0), (4, .pp 3 0), (6, .pp 4 0), (7, .pp 5 0), (8, .pv (.bool true)), (21, .ls 0 l.length), (22, .pv (.int .i64 (l.length : Int))), (23, .pv (.int .i64 (k : Int)))]) ([(1, 0, .ls 0 l.length), (2, 0, .pv (.int .i64 x.n)), (2, 1, .pv (.int .i64 x.d)), (2, 2, .pv (.int .i64 x.id)), (3, 0, .pv (.int .i64 0)), (3, 1, .pv (.int .i64 0)), (3, 2, .pv (.int .i64 0)), (4, 0, .pv (.int .i64 p.id)), (4, 1, .pv (.int .i64 p.a)), (4, 2, .pv (.int .i64 p.b)), (5, 0, .pv (.int .i64 (fn))), (5, 1, .pv (.int .i64 (fd))), (0, 0, rowP l)]) e tm2 hp2 :=
  RunsL.next [] 300 [.t true, .r (ptV q), .r (.tuple #[ratioV m k', .bool false]), .r (.int .i64 (((k + 1 : Nat) : Int)))]
    (round_of (And.intro hlt (And.intro hin (And.intro (ra_pt hk) (And.intro hl (And.intro hs True.intro))))) (by kernel_rfl)) r

set_option maxRecDepth 100000 in
theorem ov_skip_false {l : List Pt} {x : Ld} {p q : Pt} {k : Nat} {fn fd m k' : Int} (hk : l[k]? = some q) (hin : 0 ≤ (k : Int) ∧ (k : Int) < (l.length : Int)) (hlt : decide ((k : Int) < (l.length : Int)) = true) (hl : Pure Try.prog 33 #[ptV p, ptV q, ratioV x.n x.d] (.tuple #[ratioV m k', .bool false])) (hs : Value.int .i64 (IntKind.i64.wrap ((k : Int) + 1)) = .int .i64 (((k + 1 : Nat) : Int))) {e : Exit} {tm2 : List (Nat × SV)} {hp2 : List (Nat × Nat × SV)}
    (r : RunsL Try.prog 1 1 (loopOf Try.prog 17 0) 59 6 ([(2, .pp 1 0), (3, .pp 2 0), (4, .pp 3 0), (6, .pp 4 0), (7, .pp 5 0), (8, .pv (.bool false)), (21, .ls 0 l.length), (22, .pv (.int .i64 (l.length : Int))), (23, .pv (.int .i64 ((k + 1 : Nat) : Int)))]) ([(1, 0, .ls 0 l.length), (2, 0, .pv (.int .i64 x.n)), (2, 1, .pv (.int .i64 x.d)), (2, 2, .pv (.int .i64 x.id)), (3, 0, .pv (.int .i64 0)), (3, 1, .pv (.int .i64 0)), (3, 2, .pv (.int .i64 0)), (4, 0, .pv (.int .i64 p.id)), (4, 1, .pv (.int .i64 p.a)), (4, 2, .pv (.int .i64 p.b)), (5, 0, .pv (.int .i64 (fn))), (5, 1, .pv (.int .i64 (fd))), (0, 0, rowP l)]) e tm2 hp2) : RunsL Try.prog 1 1 (loopOf Try.prog 17 0) 59 6 ([(2, .pp 1 0), (3, .pp 2 0), (4, .pp 3 0), (6, .pp 4 0), (7, .pp 5 0), (8, .pv (.bool false)), (21, .ls 0 l.length), (22, .pv (.int .i64 (l.length : Int))), (23, .pv (.int .i64 (k : Int)))]) ([(1, 0, .ls 0 l.length), (2, 0, .pv (.int .i64 x.n)), (2, 1, .pv (.int .i64 x.d)), (2, 2, .pv (.int .i64 x.id)), (3, 0, .pv (.int .i64 0)), (3, 1, .pv (.int .i64 0)), (3, 2, .pv (.int .i64 0)), (4, 0, .pv (.int .i64 p.id)), (4, 1, .pv (.int .i64 p.a)), (4, 2, .pv (.int .i64 p.b)), (5, 0, .pv (.int .i64 (fn))), (5, 1, .pv (.int .i64 (fd))), (0, 0, rowP l)]) e tm2 hp2 :=
  RunsL.next [] 300 [.t true, .r (ptV q), .r (.tuple #[ratioV m k', .bool false]), .r (.int .i64 (((k + 1 : Nat) : Int)))]
    (round_of (And.intro hlt (And.intro hin (And.intro (ra_pt hk) (And.intro hl (And.intro hs True.intro))))) (by kernel_rfl)) r

set_option maxRecDepth 100000 in
theorem ov_first {l : List Pt} {x : Ld} {p q : Pt} {k : Nat} {fn fd m k' : Int} (hk : l[k]? = some q) (hin : 0 ≤ (k : Int) ∧ (k : Int) < (l.length : Int)) (hlt : decide ((k : Int) < (l.length : Int)) = true) (hl : Pure Try.prog 33 #[ptV p, ptV q, ratioV x.n x.d] (.tuple #[ratioV m k', .bool true])) (hs : Value.int .i64 (IntKind.i64.wrap ((k : Int) + 1)) = .int .i64 (((k + 1 : Nat) : Int))) {e : Exit} {tm2 : List (Nat × SV)} {hp2 : List (Nat × Nat × SV)}
    (r : RunsL Try.prog 1 1 (loopOf Try.prog 17 0) 59 6 ([(2, .pp 1 0), (3, .pp 2 0), (4, .pp 3 0), (6, .pp 4 0), (7, .pp 5 0), (8, .pv (.bool true)), (21, .ls 0 l.length), (22, .pv (.int .i64 (l.length : Int))), (23, .pv (.int .i64 ((k + 1 : Nat) : Int)))]) ([(1, 0, .ls 0 l.length), (2, 0, .pv (.int .i64 x.n)), (2, 1, .pv (.int .i64 x.d)), (2, 2, .pv (.int .i64 x.id)), (3, 0, .pv (.int .i64 0)), (3, 1, .pv (.int .i64 0)), (3, 2, .pv (.int .i64 0)), (4, 0, .pv (.int .i64 p.id)), (4, 1, .pv (.int .i64 p.a)), (4, 2, .pv (.int .i64 p.b)), (5, 0, .pv (.int .i64 (m))), (5, 1, .pv (.int .i64 (k'))), (0, 0, rowP l)]) e tm2 hp2) : RunsL Try.prog 1 1 (loopOf Try.prog 17 0) 59 6 ([(2, .pp 1 0), (3, .pp 2 0), (4, .pp 3 0), (6, .pp 4 0), (7, .pp 5 0), (8, .pv (.bool false)), (21, .ls 0 l.length), (22, .pv (.int .i64 (l.length : Int))), (23, .pv (.int .i64 (k : Int)))]) ([(1, 0, .ls 0 l.length), (2, 0, .pv (.int .i64 x.n)), (2, 1, .pv (.int .i64 x.d)), (2, 2, .pv (.int .i64 x.id)), (3, 0, .pv (.int .i64 0)), (3, 1, .pv (.int .i64 0)), (3, 2, .pv (.int .i64 0)), (4, 0, .pv (.int .i64 p.id)), (4, 1, .pv (.int .i64 p.a)), (4, 2, .pv (.int .i64 p.b)), (5, 0, .pv (.int .i64 (fn))), (5, 1, .pv (.int .i64 (fd))), (0, 0, rowP l)]) e tm2 hp2 :=
  RunsL.next [] 300 [.t true, .r (ptV q), .r (.tuple #[ratioV m k', .bool true]), .k, .r (.int .i64 (((k + 1 : Nat) : Int)))]
    (round_of (And.intro hlt (And.intro hin (And.intro (ra_pt hk) (And.intro hl (And.intro hs True.intro))))) (by kernel_rfl)) r

set_option maxRecDepth 100000 in
theorem ov_less {l : List Pt} {x : Ld} {p q : Pt} {k : Nat} {fn fd m k' : Int} (hk : l[k]? = some q) (hin : 0 ≤ (k : Int) ∧ (k : Int) < (l.length : Int)) (hlt : decide ((k : Int) < (l.length : Int)) = true) (hl : Pure Try.prog 33 #[ptV p, ptV q, ratioV x.n x.d] (.tuple #[ratioV m k', .bool true])) (hb : Pure Try.prog 20 #[ratioV m k', ratioV fn fd] (.bool true)) (hs : Value.int .i64 (IntKind.i64.wrap ((k : Int) + 1)) = .int .i64 (((k + 1 : Nat) : Int))) {e : Exit} {tm2 : List (Nat × SV)} {hp2 : List (Nat × Nat × SV)}
    (r : RunsL Try.prog 1 1 (loopOf Try.prog 17 0) 59 6 ([(2, .pp 1 0), (3, .pp 2 0), (4, .pp 3 0), (6, .pp 4 0), (7, .pp 5 0), (8, .pv (.bool true)), (21, .ls 0 l.length), (22, .pv (.int .i64 (l.length : Int))), (23, .pv (.int .i64 ((k + 1 : Nat) : Int)))]) ([(1, 0, .ls 0 l.length), (2, 0, .pv (.int .i64 x.n)), (2, 1, .pv (.int .i64 x.d)), (2, 2, .pv (.int .i64 x.id)), (3, 0, .pv (.int .i64 0)), (3, 1, .pv (.int .i64 0)), (3, 2, .pv (.int .i64 0)), (4, 0, .pv (.int .i64 p.id)), (4, 1, .pv (.int .i64 p.a)), (4, 2, .pv (.int .i64 p.b)), (5, 0, .pv (.int .i64 (m))), (5, 1, .pv (.int .i64 (k'))), (0, 0, rowP l)]) e tm2 hp2) : RunsL Try.prog 1 1 (loopOf Try.prog 17 0) 59 6 ([(2, .pp 1 0), (3, .pp 2 0), (4, .pp 3 0), (6, .pp 4 0), (7, .pp 5 0), (8, .pv (.bool true)), (21, .ls 0 l.length), (22, .pv (.int .i64 (l.length : Int))), (23, .pv (.int .i64 (k : Int)))]) ([(1, 0, .ls 0 l.length), (2, 0, .pv (.int .i64 x.n)), (2, 1, .pv (.int .i64 x.d)), (2, 2, .pv (.int .i64 x.id)), (3, 0, .pv (.int .i64 0)), (3, 1, .pv (.int .i64 0)), (3, 2, .pv (.int .i64 0)), (4, 0, .pv (.int .i64 p.id)), (4, 1, .pv (.int .i64 p.a)), (4, 2, .pv (.int .i64 p.b)), (5, 0, .pv (.int .i64 (fn))), (5, 1, .pv (.int .i64 (fd))), (0, 0, rowP l)]) e tm2 hp2 :=
  RunsL.next [] 300 [.t true, .r (ptV q), .r (.tuple #[ratioV m k', .bool true]), .k, .r (.bool true), .r (.int .i64 (((k + 1 : Nat) : Int)))]
    (round_of (And.intro hlt (And.intro hin (And.intro (ra_pt hk) (And.intro hl (And.intro hb (And.intro hs True.intro)))))) (by kernel_rfl)) r

set_option maxRecDepth 100000 in
theorem ov_keep {l : List Pt} {x : Ld} {p q : Pt} {k : Nat} {fn fd m k' : Int} (hk : l[k]? = some q) (hin : 0 ≤ (k : Int) ∧ (k : Int) < (l.length : Int)) (hlt : decide ((k : Int) < (l.length : Int)) = true) (hl : Pure Try.prog 33 #[ptV p, ptV q, ratioV x.n x.d] (.tuple #[ratioV m k', .bool true])) (hb : Pure Try.prog 20 #[ratioV m k', ratioV fn fd] (.bool false)) (hs : Value.int .i64 (IntKind.i64.wrap ((k : Int) + 1)) = .int .i64 (((k + 1 : Nat) : Int))) {e : Exit} {tm2 : List (Nat × SV)} {hp2 : List (Nat × Nat × SV)}
    (r : RunsL Try.prog 1 1 (loopOf Try.prog 17 0) 59 6 ([(2, .pp 1 0), (3, .pp 2 0), (4, .pp 3 0), (6, .pp 4 0), (7, .pp 5 0), (8, .pv (.bool true)), (21, .ls 0 l.length), (22, .pv (.int .i64 (l.length : Int))), (23, .pv (.int .i64 ((k + 1 : Nat) : Int)))]) ([(1, 0, .ls 0 l.length), (2, 0, .pv (.int .i64 x.n)), (2, 1, .pv (.int .i64 x.d)), (2, 2, .pv (.int .i64 x.id)), (3, 0, .pv (.int .i64 0)), (3, 1, .pv (.int .i64 0)), (3, 2, .pv (.int .i64 0)), (4, 0, .pv (.int .i64 p.id)), (4, 1, .pv (.int .i64 p.a)), (4, 2, .pv (.int .i64 p.b)), (5, 0, .pv (.int .i64 (fn))), (5, 1, .pv (.int .i64 (fd))), (0, 0, rowP l)]) e tm2 hp2) : RunsL Try.prog 1 1 (loopOf Try.prog 17 0) 59 6 ([(2, .pp 1 0), (3, .pp 2 0), (4, .pp 3 0), (6, .pp 4 0), (7, .pp 5 0), (8, .pv (.bool true)), (21, .ls 0 l.length), (22, .pv (.int .i64 (l.length : Int))), (23, .pv (.int .i64 (k : Int)))]) ([(1, 0, .ls 0 l.length), (2, 0, .pv (.int .i64 x.n)), (2, 1, .pv (.int .i64 x.d)), (2, 2, .pv (.int .i64 x.id)), (3, 0, .pv (.int .i64 0)), (3, 1, .pv (.int .i64 0)), (3, 2, .pv (.int .i64 0)), (4, 0, .pv (.int .i64 p.id)), (4, 1, .pv (.int .i64 p.a)), (4, 2, .pv (.int .i64 p.b)), (5, 0, .pv (.int .i64 (fn))), (5, 1, .pv (.int .i64 (fd))), (0, 0, rowP l)]) e tm2 hp2 :=
  RunsL.next [] 300 [.t true, .r (ptV q), .r (.tuple #[ratioV m k', .bool true]), .k, .r (.bool false), .r (.int .i64 (((k + 1 : Nat) : Int)))]
    (round_of (And.intro hlt (And.intro hin (And.intro (ra_pt hk) (And.intro hl (And.intro hb (And.intro hs True.intro)))))) (by kernel_rfl)) r

set_option maxRecDepth 100000 in
theorem ov_end_true {l : List Pt} {x : Ld} {p : Pt} {k : Nat} {fn fd : Int} (hge : decide ((k : Int) < (l.length : Int)) = false) : RunsL Try.prog 1 1 (loopOf Try.prog 17 0) 59 6 ([(2, .pp 1 0), (3, .pp 2 0), (4, .pp 3 0), (6, .pp 4 0), (7, .pp 5 0), (8, .pv (.bool true)), (21, .ls 0 l.length), (22, .pv (.int .i64 (l.length : Int))), (23, .pv (.int .i64 (k : Int)))]) ([(1, 0, .ls 0 l.length), (2, 0, .pv (.int .i64 x.n)), (2, 1, .pv (.int .i64 x.d)), (2, 2, .pv (.int .i64 x.id)), (3, 0, .pv (.int .i64 0)), (3, 1, .pv (.int .i64 0)), (3, 2, .pv (.int .i64 0)), (4, 0, .pv (.int .i64 p.id)), (4, 1, .pv (.int .i64 p.a)), (4, 2, .pv (.int .i64 p.b)), (5, 0, .pv (.int .i64 (fn))), (5, 1, .pv (.int .i64 (fd))), (0, 0, rowP l)]) (.exit 0) ([(2, .pp 1 0), (3, .pp 2 0), (4, .pp 3 0), (6, .pp 4 0), (7, .pp 5 0), (8, .pv (.bool true)), (21, .ls 0 l.length), (22, .pv (.int .i64 (l.length : Int))), (23, .pv (.int .i64 (k : Int)))]) ([(1, 0, .ls 0 l.length), (2, 0, .pv (.int .i64 x.n)), (2, 1, .pv (.int .i64 x.d)), (2, 2, .pv (.int .i64 x.id)), (3, 0, .pv (.int .i64 0)), (3, 1, .pv (.int .i64 0)), (3, 2, .pv (.int .i64 0)), (4, 0, .pv (.int .i64 p.id)), (4, 1, .pv (.int .i64 p.a)), (4, 2, .pv (.int .i64 p.b)), (5, 0, .pv (.int .i64 (fn))), (5, 1, .pv (.int .i64 (fd))), (0, 0, rowP l)]) :=
  RunsL.stop [] 300 [.t false] (fun h => by cases h)
    (round_of (And.intro hge True.intro) (by kernel_rfl))

set_option maxRecDepth 100000 in
theorem ov_end_false {l : List Pt} {x : Ld} {p : Pt} {k : Nat} {fn fd : Int} (hge : decide ((k : Int) < (l.length : Int)) = false) : RunsL Try.prog 1 1 (loopOf Try.prog 17 0) 59 6 ([(2, .pp 1 0), (3, .pp 2 0), (4, .pp 3 0), (6, .pp 4 0), (7, .pp 5 0), (8, .pv (.bool false)), (21, .ls 0 l.length), (22, .pv (.int .i64 (l.length : Int))), (23, .pv (.int .i64 (k : Int)))]) ([(1, 0, .ls 0 l.length), (2, 0, .pv (.int .i64 x.n)), (2, 1, .pv (.int .i64 x.d)), (2, 2, .pv (.int .i64 x.id)), (3, 0, .pv (.int .i64 0)), (3, 1, .pv (.int .i64 0)), (3, 2, .pv (.int .i64 0)), (4, 0, .pv (.int .i64 p.id)), (4, 1, .pv (.int .i64 p.a)), (4, 2, .pv (.int .i64 p.b)), (5, 0, .pv (.int .i64 (fn))), (5, 1, .pv (.int .i64 (fd))), (0, 0, rowP l)]) (.exit 0) ([(2, .pp 1 0), (3, .pp 2 0), (4, .pp 3 0), (6, .pp 4 0), (7, .pp 5 0), (8, .pv (.bool false)), (21, .ls 0 l.length), (22, .pv (.int .i64 (l.length : Int))), (23, .pv (.int .i64 (k : Int)))]) ([(1, 0, .ls 0 l.length), (2, 0, .pv (.int .i64 x.n)), (2, 1, .pv (.int .i64 x.d)), (2, 2, .pv (.int .i64 x.id)), (3, 0, .pv (.int .i64 0)), (3, 1, .pv (.int .i64 0)), (3, 2, .pv (.int .i64 0)), (4, 0, .pv (.int .i64 p.id)), (4, 1, .pv (.int .i64 p.a)), (4, 2, .pv (.int .i64 p.b)), (5, 0, .pv (.int .i64 (fn))), (5, 1, .pv (.int .i64 (fd))), (0, 0, rowP l)]) :=
  RunsL.stop [] 300 [.t false] (fun h => by cases h)
    (round_of (And.intro hge True.intro) (by kernel_rfl))

set_option maxRecDepth 100000 in
theorem ov_none {l : List Pt} {x : Ld} {p : Pt} {fn fd : Int} (hp : FnL Try.prog 32 1 [fldS 0 l, .pv (.int .i64 (x.id))] [(0, 0, rowP l)] (.pv (ptV p)) 0 []) (r0 : RunsL Try.prog 1 1 (loopOf Try.prog 17 0) 59 6 ([(2, .pp 1 0), (3, .pp 2 0), (4, .pp 3 0), (6, .pp 4 0), (7, .pp 5 0), (8, .pv (.bool false)), (21, .ls 0 l.length), (22, .pv (.int .i64 (l.length : Int))), (23, .pv (.int .i64 ((0 : Nat) : Int)))]) ([(1, 0, .ls 0 l.length), (2, 0, .pv (.int .i64 x.n)), (2, 1, .pv (.int .i64 x.d)), (2, 2, .pv (.int .i64 x.id)), (3, 0, .pv (.int .i64 0)), (3, 1, .pv (.int .i64 0)), (3, 2, .pv (.int .i64 0)), (4, 0, .pv (.int .i64 p.id)), (4, 1, .pv (.int .i64 p.a)), (4, 2, .pv (.int .i64 p.b)), (5, 0, .pv (.int .i64 (0))), (5, 1, .pv (.int .i64 (0))), (0, 0, rowP l)]) (.exit 0) ([(2, .pp 1 0), (3, .pp 2 0), (4, .pp 3 0), (6, .pp 4 0), (7, .pp 5 0), (8, .pv (.bool false)), (21, .ls 0 l.length), (22, .pv (.int .i64 (l.length : Int))), (23, .pv (.int .i64 (l.length : Int)))]) ([(1, 0, .ls 0 l.length), (2, 0, .pv (.int .i64 x.n)), (2, 1, .pv (.int .i64 x.d)), (2, 2, .pv (.int .i64 x.id)), (3, 0, .pv (.int .i64 0)), (3, 1, .pv (.int .i64 0)), (3, 2, .pv (.int .i64 0)), (4, 0, .pv (.int .i64 p.id)), (4, 1, .pv (.int .i64 p.a)), (4, 2, .pv (.int .i64 p.b)), (5, 0, .pv (.int .i64 (fn))), (5, 1, .pv (.int .i64 (fd))), (0, 0, rowP l)])) :
    FnL Try.prog 17 1 [fldS 0 l, .pv (leadV x)] [(0, 0, rowP l)] (.pv (.tuple #[leadV ⟨0, 0, 0⟩, .bool false])) 0 [] :=
  fnl_run 300 [] [.f [0] [fldS 0 l, .pv (.int .i64 (x.id))] [(0, 0, rowP l)] (.pv (ptV p)) 0 [], .l (.exit 0) ([(2, .pp 1 0), (3, .pp 2 0), (4, .pp 3 0), (6, .pp 4 0), (7, .pp 5 0), (8, .pv (.bool false)), (21, .ls 0 l.length), (22, .pv (.int .i64 (l.length : Int))), (23, .pv (.int .i64 ((0 : Nat) : Int)))]) ([(1, 0, .ls 0 l.length), (2, 0, .pv (.int .i64 x.n)), (2, 1, .pv (.int .i64 x.d)), (2, 2, .pv (.int .i64 x.id)), (3, 0, .pv (.int .i64 0)), (3, 1, .pv (.int .i64 0)), (3, 2, .pv (.int .i64 0)), (4, 0, .pv (.int .i64 p.id)), (4, 1, .pv (.int .i64 p.a)), (4, 2, .pv (.int .i64 p.b)), (5, 0, .pv (.int .i64 (0))), (5, 1, .pv (.int .i64 (0))), (0, 0, rowP l)]) ([(2, .pp 1 0), (3, .pp 2 0), (4, .pp 3 0), (6, .pp 4 0), (7, .pp 5 0), (8, .pv (.bool false)), (21, .ls 0 l.length), (22, .pv (.int .i64 (l.length : Int))), (23, .pv (.int .i64 (l.length : Int)))]) ([(1, 0, .ls 0 l.length), (2, 0, .pv (.int .i64 x.n)), (2, 1, .pv (.int .i64 x.d)), (2, 2, .pv (.int .i64 x.id)), (3, 0, .pv (.int .i64 0)), (3, 1, .pv (.int .i64 0)), (3, 2, .pv (.int .i64 0)), (4, 0, .pv (.int .i64 p.id)), (4, 1, .pv (.int .i64 p.a)), (4, 2, .pv (.int .i64 p.b)), (5, 0, .pv (.int .i64 (fn))), (5, 1, .pv (.int .i64 (fd))), (0, 0, rowP l)]), .k]
     True.intro (And.intro hp (And.intro (Eq.refl (List.map (SV.ren (renU [0] 4)) [fldS 0 l, .pv (.int .i64 (x.id))])) (And.intro (reflH (renU [0] 4) [(0, 0, rowP l)]) (And.intro (reflT (renN []) ([(2, .pp 1 0), (3, .pp 2 0), (4, .pp 3 0), (6, .pp 4 0), (7, .pp 5 0), (8, .pv (.bool false)), (21, .ls 0 l.length), (22, .pv (.int .i64 (l.length : Int))), (23, .pv (.int .i64 ((0 : Nat) : Int)))])) (And.intro (reflH (renN []) ([(1, 0, .ls 0 l.length), (2, 0, .pv (.int .i64 x.n)), (2, 1, .pv (.int .i64 x.d)), (2, 2, .pv (.int .i64 x.id)), (3, 0, .pv (.int .i64 0)), (3, 1, .pv (.int .i64 0)), (3, 2, .pv (.int .i64 0)), (4, 0, .pv (.int .i64 p.id)), (4, 1, .pv (.int .i64 p.a)), (4, 2, .pv (.int .i64 p.b)), (5, 0, .pv (.int .i64 (0))), (5, 1, .pv (.int .i64 (0))), (0, 0, rowP l)])) (And.intro r0 True.intro)))))) (by kernel_rfl)

set_option maxRecDepth 100000 in
theorem ov_some {l : List Pt} {x : Ld} {p : Pt} {fn fd lid : Int} (hp : FnL Try.prog 32 1 [fldS 0 l, .pv (.int .i64 (x.id))] [(0, 0, rowP l)] (.pv (ptV p)) 0 []) (r0 : RunsL Try.prog 1 1 (loopOf Try.prog 17 0) 59 6 ([(2, .pp 1 0), (3, .pp 2 0), (4, .pp 3 0), (6, .pp 4 0), (7, .pp 5 0), (8, .pv (.bool false)), (21, .ls 0 l.length), (22, .pv (.int .i64 (l.length : Int))), (23, .pv (.int .i64 ((0 : Nat) : Int)))]) ([(1, 0, .ls 0 l.length), (2, 0, .pv (.int .i64 x.n)), (2, 1, .pv (.int .i64 x.d)), (2, 2, .pv (.int .i64 x.id)), (3, 0, .pv (.int .i64 0)), (3, 1, .pv (.int .i64 0)), (3, 2, .pv (.int .i64 0)), (4, 0, .pv (.int .i64 p.id)), (4, 1, .pv (.int .i64 p.a)), (4, 2, .pv (.int .i64 p.b)), (5, 0, .pv (.int .i64 (0))), (5, 1, .pv (.int .i64 (0))), (0, 0, rowP l)]) (.exit 0) ([(2, .pp 1 0), (3, .pp 2 0), (4, .pp 3 0), (6, .pp 4 0), (7, .pp 5 0), (8, .pv (.bool true)), (21, .ls 0 l.length), (22, .pv (.int .i64 (l.length : Int))), (23, .pv (.int .i64 (l.length : Int)))]) ([(1, 0, .ls 0 l.length), (2, 0, .pv (.int .i64 x.n)), (2, 1, .pv (.int .i64 x.d)), (2, 2, .pv (.int .i64 x.id)), (3, 0, .pv (.int .i64 0)), (3, 1, .pv (.int .i64 0)), (3, 2, .pv (.int .i64 0)), (4, 0, .pv (.int .i64 p.id)), (4, 1, .pv (.int .i64 p.a)), (4, 2, .pv (.int .i64 p.b)), (5, 0, .pv (.int .i64 (fn))), (5, 1, .pv (.int .i64 (fd))), (0, 0, rowP l)])) (hle : FnL Try.prog 16 1 [fldS 0 l, .pv (ratioV fn fd)] [(0, 0, rowP l)] (.pv (.tuple #[.int .i64 lid, .int .i64 0])) 0 []) :
    FnL Try.prog 17 1 [fldS 0 l, .pv (leadV x)] [(0, 0, rowP l)] (.pv (.tuple #[leadV ⟨fn, fd, lid⟩, .bool true])) 0 [] :=
  fnl_run 300 [] [.f [0] [fldS 0 l, .pv (.int .i64 (x.id))] [(0, 0, rowP l)] (.pv (ptV p)) 0 [], .l (.exit 0) ([(2, .pp 1 0), (3, .pp 2 0), (4, .pp 3 0), (6, .pp 4 0), (7, .pp 5 0), (8, .pv (.bool false)), (21, .ls 0 l.length), (22, .pv (.int .i64 (l.length : Int))), (23, .pv (.int .i64 ((0 : Nat) : Int)))]) ([(1, 0, .ls 0 l.length), (2, 0, .pv (.int .i64 x.n)), (2, 1, .pv (.int .i64 x.d)), (2, 2, .pv (.int .i64 x.id)), (3, 0, .pv (.int .i64 0)), (3, 1, .pv (.int .i64 0)), (3, 2, .pv (.int .i64 0)), (4, 0, .pv (.int .i64 p.id)), (4, 1, .pv (.int .i64 p.a)), (4, 2, .pv (.int .i64 p.b)), (5, 0, .pv (.int .i64 (0))), (5, 1, .pv (.int .i64 (0))), (0, 0, rowP l)]) ([(2, .pp 1 0), (3, .pp 2 0), (4, .pp 3 0), (6, .pp 4 0), (7, .pp 5 0), (8, .pv (.bool true)), (21, .ls 0 l.length), (22, .pv (.int .i64 (l.length : Int))), (23, .pv (.int .i64 (l.length : Int)))]) ([(1, 0, .ls 0 l.length), (2, 0, .pv (.int .i64 x.n)), (2, 1, .pv (.int .i64 x.d)), (2, 2, .pv (.int .i64 x.id)), (3, 0, .pv (.int .i64 0)), (3, 1, .pv (.int .i64 0)), (3, 2, .pv (.int .i64 0)), (4, 0, .pv (.int .i64 p.id)), (4, 1, .pv (.int .i64 p.a)), (4, 2, .pv (.int .i64 p.b)), (5, 0, .pv (.int .i64 (fn))), (5, 1, .pv (.int .i64 (fd))), (0, 0, rowP l)]), .k, .f [0] [fldS 0 l, .pv (ratioV fn fd)] [(0, 0, rowP l)] (.pv (.tuple #[.int .i64 lid, .int .i64 0])) 0 []]
     True.intro (And.intro hp (And.intro (Eq.refl (List.map (SV.ren (renU [0] 4)) [fldS 0 l, .pv (.int .i64 (x.id))])) (And.intro (reflH (renU [0] 4) [(0, 0, rowP l)]) (And.intro (reflT (renN []) ([(2, .pp 1 0), (3, .pp 2 0), (4, .pp 3 0), (6, .pp 4 0), (7, .pp 5 0), (8, .pv (.bool false)), (21, .ls 0 l.length), (22, .pv (.int .i64 (l.length : Int))), (23, .pv (.int .i64 ((0 : Nat) : Int)))])) (And.intro (reflH (renN []) ([(1, 0, .ls 0 l.length), (2, 0, .pv (.int .i64 x.n)), (2, 1, .pv (.int .i64 x.d)), (2, 2, .pv (.int .i64 x.id)), (3, 0, .pv (.int .i64 0)), (3, 1, .pv (.int .i64 0)), (3, 2, .pv (.int .i64 0)), (4, 0, .pv (.int .i64 p.id)), (4, 1, .pv (.int .i64 p.a)), (4, 2, .pv (.int .i64 p.b)), (5, 0, .pv (.int .i64 (0))), (5, 1, .pv (.int .i64 (0))), (0, 0, rowP l)])) (And.intro r0 (And.intro hle (And.intro (Eq.refl (List.map (SV.ren (renU [0] 6)) [fldS 0 l, .pv (ratioV fn fd)])) (And.intro (reflH (renU [0] 6) [(0, 0, rowP l)]) True.intro))))))))) (by kernel_rfl)

set_option maxRecDepth 100000 in
theorem of_end {l : List Pt} {x : Ld} {s : List Ld} {k : Nat} (hk : s[k]? = some x) (hin : 0 ≤ (k : Int) ∧ (k : Int) < (s.length : Int)) (hm : Value.int .i64 (IntKind.i64.wrap ((s.length : Int) - 1)) = .int .i64 ((k : Int))) (ho : FnL Try.prog 17 1 [fldS 0 l, .pv (leadV x)] [(0, 0, rowP l)] (.pv (.tuple #[leadV ⟨0, 0, 0⟩, .bool false])) 0 []) : RunsL Try.prog 1 1 (loopOf Try.prog 5 0) 42 4 ([(2, .pp 1 0), (8, .ls 3 (s).length)]) ([(1, 0, .ls 0 l.length), (0, 0, rowP l), (3, 0, rowL (s))]) (.ret) ([(4, .ls 3 s.length), (5, .pv (.int .i64 0))]) ([(3, 0, rowL s)]) :=
  RunsL.stop [] 300 [.r (.int .i64 ((k : Int))), .r (leadV x), .f [0] [fldS 0 l, .pv (leadV x)] [(0, 0, rowP l)] (.pv (.tuple #[leadV ⟨0, 0, 0⟩, .bool false])) 0 [], .k] (fun h => by cases h)
    (round_of (And.intro hm (And.intro hin (And.intro (ra_ld hk) (And.intro ho (And.intro (Eq.refl (List.map (SV.ren (renU [0] 4)) [fldS 0 l, .pv (leadV x)])) (And.intro (reflH (renU [0] 4) [(0, 0, rowP l)]) True.intro)))))) (by kernel_rfl))

set_option maxRecDepth 100000 in
theorem of_next {l : List Pt} {x y : Ld} {s : List Ld} {k : Nat} (hk : s[k]? = some x) (hin : 0 ≤ (k : Int) ∧ (k : Int) < (s.length : Int)) (hm : Value.int .i64 (IntKind.i64.wrap ((s.length : Int) - 1)) = .int .i64 ((k : Int))) (ho : FnL Try.prog 17 1 [fldS 0 l, .pv (leadV x)] [(0, 0, rowP l)] (.pv (.tuple #[leadV y, .bool true])) 0 []) (hl : s.length + 1 ≤ 1000000) {e : Exit} {tm2 : List (Nat × SV)} {hp2 : List (Nat × Nat × SV)}
    (r : RunsL Try.prog 1 1 (loopOf Try.prog 5 0) 42 4 ([(2, .pp 1 0), (8, .ls 3 (s ++ [y]).length)]) ([(1, 0, .ls 0 l.length), (0, 0, rowP l), (3, 0, rowL (s ++ [y]))]) e tm2 hp2) : RunsL Try.prog 1 1 (loopOf Try.prog 5 0) 42 4 ([(2, .pp 1 0), (8, .ls 3 (s).length)]) ([(1, 0, .ls 0 l.length), (0, 0, rowP l), (3, 0, rowL (s))]) e tm2 hp2 :=
  RunsL.next [(3, 6)] 300 [.r (.int .i64 ((k : Int))), .r (leadV x), .f [0] [fldS 0 l, .pv (leadV x)] [(0, 0, rowP l)] (.pv (.tuple #[leadV y, .bool true])) 0 [], .k]
    (round_ofTH (And.intro (Eq.refl (SV.pp 1 0)) (And.intro (snocl_ls 6 s y) True.intro)) (And.intro (Eq.refl (some (SV.ls 0 l.length))) (And.intro (Eq.refl (some (rowP l))) (And.intro (snocl_row s y) True.intro))) (And.intro hm (And.intro hin (And.intro (ra_ld hk) (And.intro ho (And.intro (Eq.refl (List.map (SV.ren (renU [0] 4)) [fldS 0 l, .pv (leadV x)])) (And.intro (reflH (renU [0] 4) [(0, 0, rowP l)]) (And.intro hl True.intro))))))) (by kernel_rfl)) r

set_option maxRecDepth 100000 in
theorem of_path {l : List Pt} {t : List Ld} {fn fd lid : Int} (hle : FnL Try.prog 16 1 [fldS 0 l, .pv (ratioV fn fd)] [(0, 0, rowP l)] (.pv (.tuple #[.int .i64 lid, .int .i64 0])) 0 []) (r0 : RunsL Try.prog 1 1 (loopOf Try.prog 5 0) 42 4 ([(2, .pp 1 0), (8, .ls 3 ([Ld.mk fn fd lid]).length)]) ([(1, 0, .ls 0 l.length), (0, 0, rowP l), (3, 0, rowL ([Ld.mk fn fd lid]))]) (.ret) ([(4, .ls 3 t.length), (5, .pv (.int .i64 0))]) ([(3, 0, rowL t)])) :
    FnL Try.prog 5 1 [fldS 0 l, .pv (ratioV fn fd)] [(0, 0, rowP l)] (.tu [.one (.ls 1 t.length), .one (.pv (.int .i64 0))]) 1 [(1, 0, rowL t)] :=
  fnl_run 300 [(1, 3)] [.f [0] [fldS 0 l, .pv (ratioV fn fd)] [(0, 0, rowP l)] (.pv (.tuple #[.int .i64 lid, .int .i64 0])) 0 [], .k, .lw, .l (.ret) ([(2, .pp 1 0), (8, .ls 3 ([Ld.mk fn fd lid]).length)]) ([(1, 0, .ls 0 l.length), (0, 0, rowP l), (3, 0, rowL ([Ld.mk fn fd lid]))]) ([(4, .ls 3 t.length), (5, .pv (.int .i64 0))]) ([(3, 0, rowL t)])]
     (reflH (renN [(1, 3)]) [(1, 0, rowL t)]) (And.intro hle (And.intro (Eq.refl (List.map (SV.ren (renU [0] 3)) [fldS 0 l, .pv (ratioV fn fd)])) (And.intro (reflH (renU [0] 3) [(0, 0, rowP l)]) (And.intro (reflT (renN []) ([(2, .pp 1 0), (8, .ls 3 ([Ld.mk fn fd lid]).length)])) (And.intro (reflH (renN []) ([(1, 0, .ls 0 l.length), (0, 0, rowP l), (3, 0, rowL ([Ld.mk fn fd lid]))])) (And.intro r0 True.intro)))))) (by kernel_rfl)
end Go.Proofs.Ytoheadpehomdjaa
