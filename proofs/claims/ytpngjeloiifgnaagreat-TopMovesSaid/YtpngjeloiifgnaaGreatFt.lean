/-
  The library's sort at lists of points, by its contract. Conditions: none.
-/
import Derived.Shelf.SlSortCmp.WholeK
import Derived.Test.YtpngjeloiifgnaaGreatSo
import Derived.Test.YtpngjeloiifgnaaGreatW37
import Derived.Test.YtpngjeloiifgnaaGreatFq
namespace Go.Proofs.YtpngjeloiifgnaaGreat
open Go.RowKit Go.Sort
/-- A world that has only grown is the old one with draws and blocks behind it. -/
theorem gr_grow {w w' : World} (h : Gr w w') : ∃ (q : Nat) (os : Array Obj), w' = Sort.grow (w.drewN q) os := by
  obtain ⟨⟨h1, h2, h3, h4, h5⟩, _, h7⟩ := h
  refine ⟨w'.drawn - w.drawn, w'.heap.extract w.heap.size w'.heap.size, ?_⟩
  obtain ⟨heap, tape, drawn, os, output⟩ := w
  obtain ⟨heap', tape', drawn', os', output'⟩ := w'
  simp only at h1 h2 h3 h4 h5 h7
  subst h1 h2 h3
  unfold Sort.grow World.drewN
  simp only [World.mk.injEq, and_true, true_and]
  refine ⟨?_, by omega⟩
  apply Array.ext_getElem?
  intro i
  by_cases hi : i < heap.size
  · rw [Array.getElem?_append_left hi]; exact h5 i hi
  · rw [Array.getElem?_append_right (by omega), Array.getElem?_extract]
    by_cases hj : i < heap'.size
    · rw [if_pos (by omega), show heap.size + (i - heap.size) = i by omega]
    · rw [if_neg (by omega), Array.getElem?_eq_none (by omega)]
theorem put_cells {w : World} {g : Nat} {cur : Array Value} {e : TypeId} {fr : Nat × Nat} (hg : w.heap[g]? = some (.cells cur e fr)) (F : Array Value) :
    (putRow id w g 0 F).heap[g]? = some (.cells (putCells id 0 F cur) e fr) := by
  unfold putRow mapBlock
  simp only [Array.getElem?_modify, if_true, hg, Option.map_some, onCells]
theorem put_other (w : World) (g : Nat) (F : Array Value) {k : Nat} (h : k ≠ g) : (putRow id w g 0 F).heap[k]? = w.heap[k]? := by
  unfold putRow mapBlock
  simp only [Array.getElem?_modify, if_neg (fun e : g = k => h e.symm)]
theorem putCells_take (F cur : Array Value) (h : F.size ≤ cur.size) : (putCells id 0 F cur).toList.take F.size = F.toList := by
  apply List.ext_getElem?
  intro i
  rw [List.getElem?_take]
  by_cases hi : i < F.size
  · rw [if_pos hi]
    unfold putCells
    simp only [Array.getElem?_toList, Array.getElem?_mapIdx]
    rw [Array.getElem?_eq_getElem (show i < cur.size by omega), Option.map_some, if_pos (by omega), Nat.sub_zero, getElem!_pos F i hi, Array.getElem?_eq_getElem hi]
    rfl
  · rw [if_neg hi, List.getElem?_eq_none (by simpa using hi)]
theorem putCells_size (F cur : Array Value) : (putCells id 0 F cur).size = cur.size := by unfold putCells; simp

abbrev Mem (l : List Pt) : Type := { p : Pt // p ∈ l }
def encM (l : List Pt) (x : Mem l) : List Value := [.int .i64 x.1.id, .int .i64 x.1.a, .int .i64 x.1.b]
theorem flat_pts {l : List Pt} [Inhabited (Mem l)] (d : Array (Mem l)) : (flatK (encM l) 3 d).toList = ptsV (d.toList.map (·.1)) := by
  apply List.ext_getElem?
  intro t
  by_cases ht : t < d.size * 3
  · have e1 : (flatK (encM l) 3 d).toList[t]? = some ((encM l d[t / 3]!)[t % 3]!) := by
      rw [Array.getElem?_toList, Array.getElem?_eq_getElem (by simpa using ht), ← get_flatK (encM l) 3 d t ht, getElem!_pos _ t (by simpa using ht)]
    have hk : t / 3 < d.size := by omega
    have hp : (d.toList.map (·.1))[t / 3]? = some d[t / 3]!.1 := by
      rw [List.getElem?_map, Array.getElem?_toList, Array.getElem?_eq_getElem hk, getElem!_pos d _ hk]; rfl
    obtain ⟨g0, g1, g2⟩ := ptsV_get hp
    rw [e1]
    have h3 : t % 3 = 0 ∨ t % 3 = 1 ∨ t % 3 = 2 := by omega
    have e : t = t / 3 * 3 + t % 3 := by omega
    rcases h3 with h | h | h <;> rw [h] at e ⊢ <;> rw [e]
    · rw [Nat.add_zero, show (t / 3 * 3) / 3 = t / 3 by omega, g0]; rfl
    · rw [show (t / 3 * 3 + 1) / 3 = t / 3 by omega, g1]; rfl
    · rw [show (t / 3 * 3 + 2) / 3 = t / 3 by omega, g2]; rfl
  · rw [List.getElem?_eq_none (by simpa using ht), List.getElem?_eq_none (by rw [ptsV_length]; simpa using ht)]

theorem isl_two {β : Bl} {n : Nat} {f : FuncId} {us : List Value} (h : SV.isl β [.ls 0 n, .pc f [.pp 1 0]] us) : ∃ v r, us = [v, .func (.func f) #[] #[.pointer (some ⟨r, 0, none⟩)]] ∧ β.g 0 = some v ∧ β 1 = some r := by
  match us, h with
  | [v0, v1], ⟨⟨h0, _⟩, ⟨vs, hv, h1⟩, _⟩ =>
    match vs, hv with
    | [x], ⟨⟨r, hr, hx⟩, _⟩ => exact ⟨v0, r, by rw [h1, hx], h0, hr⟩
def oneB (r : Nat) : Bl := ⟨fun b => if b = 0 then some r else none, fun _ => none⟩
theorem one_rel {W : World} {r : Nat} {tn td : Int} (hr : r < W.heap.size) (c0 : W.cell? ⟨r, 0, none⟩ = some (.int .i64 tn)) (c1 : W.cell? ⟨r, 1, none⟩ = some (.int .i64 td)) (f0 : W.frozen? ⟨r, 0, none⟩ = false) (f1 : W.frozen? ⟨r, 1, none⟩ = false) :
    HRel W 1 (oneB r) [(0, 0, .pv (.int .i64 tn)), (0, 1, .pv (.int .i64 td))] W where
  gr := Gr.refl W
  live := fun b q h => by unfold oneB at h; simp only at h; split at h <;> simp_all
  inj := fun b c q h k => by unfold oneB at h k; simp only at h k; split at h <;> split at k <;> simp_all
  new := fun b q hb h => by unfold oneB at h; simp only at h; rw [if_neg (by omega)] at h; cases h
  sep := fun b q h => rfl
  cells := fun b o sv hl hs => by
    simp only [lookH] at hl
    cases h1 : (Nat.beq 0 b && Nat.beq 0 o) <;> rw [h1] at hl
    · cases h2 : (Nat.beq 0 b && Nat.beq 1 o) <;> rw [h2] at hl
      · cases hl
      · cases hl
        rw [Bool.and_eq_true] at h2
        have hb := Nat.eq_of_beq_eq_true h2.1
        have ho := Nat.eq_of_beq_eq_true h2.2
        subst hb ho
        exact ⟨r, _, rfl, rfl, rfl, c1, f1⟩
    · cases hl
      rw [Bool.and_eq_true] at h1
      have hb := Nat.eq_of_beq_eq_true h1.1
      have ho := Nat.eq_of_beq_eq_true h1.2
      subst hb ho
      exact ⟨r, _, rfl, rfl, rfl, c0, f0⟩
  rows := fun b o e es n xs hl => by
    simp only [lookH] at hl
    cases h1 : (Nat.beq 0 b && Nat.beq 0 o) <;> rw [h1] at hl
    · cases h2 : (Nat.beq 0 b && Nat.beq 1 o) <;> rw [h2] at hl <;> cases hl
    · cases hl
  rinj := fun b o e es n xs c o' e' es' n' xs' u v hl => by
    simp only [lookH] at hl
    cases h1 : (Nat.beq 0 b && Nat.beq 0 o) <;> rw [h1] at hl
    · cases h2 : (Nat.beq 0 b && Nat.beq 1 o) <;> rw [h2] at hl <;> cases hl
    · cases hl
theorem one_dom (r : Nat) : (oneB r).dom 1 := fun b hb => ⟨if_neg (by omega), rfl⟩
section
variable {l : List Pt} {tn td : Int}
theorem lf_lays (ht : Tm tn td) (hv : Val l) [Inhabited (Mem l)] {w : World} {g r : Nat} (hrg : r ≠ g) (hr : r < w.heap.size) (c0 : w.cell? ⟨r, 0, none⟩ = some (.int .i64 tn)) (c1 : w.cell? ⟨r, 1, none⟩ = some (.int .i64 td)) (f0 : w.frozen? ⟨r, 0, none⟩ = false) (f1 : w.frozen? ⟨r, 1, none⟩ = false) (size : Nat) :
    CmpLays Tryz.prog 89 #[.pointer (some ⟨r, 0, none⟩)] (encM l) 3 (fun x y => cfL tn td x.1 y.1) g 0 size w := by
  intro m os dk _ x y
  have hsz : (putRowK (encM l) 3 (Sort.ahead w m) g 0 dk).heap.size = w.heap.size := by unfold putRowK; rw [size_putRow]; rfl
  have hcell : ∀ o, (sortWorldK (encM l) 3 w g 0 m dk os).cell? ⟨r, o, none⟩ = w.cell? ⟨r, o, none⟩ := fun o => by
    unfold sortWorldK
    rw [cell?_grow _ _ _ (by rw [hsz]; exact hr)]
    exact cell?_putRowK_other (encM l) 3 _ g 0 dk ⟨r, o, none⟩ hrg
  have hfroz : ∀ o, (sortWorldK (encM l) 3 w g 0 m dk os).frozen? ⟨r, o, none⟩ = w.frozen? ⟨r, o, none⟩ := fun o => by
    unfold sortWorldK
    rw [frozen?_grow _ _ _ (by rw [hsz]; exact hr)]
    unfold putRowK
    rw [frozen?_putRow]; rfl
  have hlt : r < (sortWorldK (encM l) 3 w g 0 m dk os).heap.size := by unfold sortWorldK; rw [size_grow, hsz]; omega
  refine (lf_any ht (hv.ok _ x.2) (hv.ok _ y.2) _ (oneB r) [ptV x.1, ptV y.1, .pointer (some ⟨r, 0, none⟩)] (one_rel hlt ((hcell 0).trans c0) ((hcell 1).trans c1) ((hfroz 0).trans f0) ((hfroz 1).trans f1)) (one_dom r) ⟨rfl, rfl, ⟨r, rfl, rfl⟩, True.intro⟩).mono fun e w' ⟨v, β', he, _, hx, hh, _⟩ => ?_
  cases hx
  exact ⟨he, gr_grow hh.gr⟩
theorem lf_swo (hv : Val l) : SWO (ltOf fun x y : Mem l => cfL tn td x.1 y.1) := by
  have e : ∀ x y : Mem l, ltOf (fun x y : Mem l => cfL tn td x.1 y.1) x y = ld tn td x.1 y.1 := fun x y => cfL_neg fun h => val_id hv x.2 y.2 h
  exact ⟨fun x => by rw [e]; exact ld_irr _, fun x y z h k => by rw [e] at *; exact ld_trans h k, fun x y z h k => by rw [e] at *; exact ld_ntrans h k⟩
theorem agg_pt (w : World) : (isAgg (Tryz.sortPt_ren.t 24)).run Tryz.prog w = .ok true w := Tryz.isAgg68 w
theorem siz_pt (w : World) : (Go.sizeOf (Tryz.sortPt_ren.t 24)).run Tryz.prog w = .ok 3 w := Tryz.sizeOf68 w
set_option maxRecDepth 100000 in
theorem lf_enters : ∀ args w, (callFunc 89 args).run Tryz.prog w = .ok (.enter 89 args) w := enters_of Tryz.func89 (by kernel_rfl) rfl
theorem Sort_some (hv : Val l) (ht : Tm tn td) (hne : l ≠ []) : ∃ s, Srt l tn td s ∧ FnM Tryz.prog 40 2 [.ls 0 l.length, .pc 89 [.pp 1 0]] [(0, 0, rowP l), (1, 0, .pv (.int .i64 tn)), (1, 1, .pv (.int .i64 td))] (.tuple #[]) 0 ⟨68, 3, l.length, ptsV l⟩ (ptsV s) := by
  haveI : Inhabited (Mem l) := ⟨⟨l.head hne, List.head_mem hne⟩⟩
  have hn := hv.len
  obtain ⟨d, hd⟩ : ∃ d : Array (Mem l), d = l.attach.toArray := ⟨_, rfl⟩
  have hdl : d.toList.map (·.1) = l := by rw [hd]; simp
  have hds : d.size = l.length := by rw [hd]; simp
  have hO := lf_swo (tn := tn) (td := td) hv
  obtain ⟨d', hd'⟩ : ∃ d', d' = pdq (ltOf fun x y : Mem l => cfL tn td x.1 y.1) d 0 d.size (Lib.bitLen d.size) true true := ⟨_, rfl⟩
  obtain ⟨hperm, hsort⟩ := pdq_sorts (ltOf fun x y : Mem l => cfL tn td x.1 y.1) hO d 0 d.size (Lib.bitLen d.size) true true (Nat.zero_le _) (Nat.le_refl _) (Or.inl rfl)
  rw [← hd'] at hperm hsort
  obtain ⟨hs1, _, hs2⟩ := hperm
  have hpd : d'.toList.Perm d.toList := by
    have e1 : d'.extract 0 d.size = d' := by rw [← hs1]; simp
    have e2 : d.extract 0 d.size = d := by simp
    rw [e1, e2] at hs2; exact hs2
  have hsl : (d'.toList.map (·.1)).length = l.length := by simp [hs1, hds]
  refine ⟨d'.toList.map (·.1), Srt.mk_of hv ((hpd.map _).trans (List.Perm.of_eq hdl)) ?_, ?_⟩
  · rw [List.pairwise_map, List.pairwise_iff_getElem]
    intro i j hi hj hij
    have := hsort i j (Nat.zero_le _) hij (by rw [← hs1]; simpa using hj)
    rw [getElem!_pos d' i (by simpa using hi), getElem!_pos d' j (by simpa using hj)] at this
    have e := cfL_neg (tn := tn) (td := td) (p := (d'[j]'(by simpa using hj)).1) (q := (d'[i]'(by simpa using hi)).1) (fun h => val_id hv (Subtype.property _) (Subtype.property _) h)
    unfold ltOf at this
    rw [e] at this
    simpa using this
  · intro w β us base u hH hdom hargs hu hown hbase hap
    obtain ⟨v, r, rfl, hv0, hr1⟩ := isl_two hargs
    rw [hu] at hv0
    cases hv0
    obtain ⟨hlen, hnil | ⟨g, cap, cur, rfl, hg, hgc, hnc, hcm, hcs, htk⟩⟩ := hown
    · exact (hne (List.eq_nil_of_length_eq_zero hnil.2)).elim
    dsimp only at hlen hgc hnc hcs htk
    obtain ⟨r0, x0, e0, i0, _, cell0, fr0⟩ := hH.cells 1 0 (.pv (.int .i64 tn)) rfl rfl
    obtain ⟨r1, x1, e1, i1, _, cell1, fr1⟩ := hH.cells 1 1 (.pv (.int .i64 td)) rfl rfl
    rw [hr1] at e0 e1
    cases e0; cases e1; cases i0; cases i1
    have hrg : r ≠ g := fun e => hap 1 r hr1 (by rw [e]; rfl)
    have hrs : r < w.heap.size := hH.live 1 r hr1
    have hgs : g < w.heap.size := (Array.getElem?_eq_some_iff.1 hgc).1
    have hfl : (flatK (encM l) 3 d).toList = ptsV l := by rw [flat_pts, hdl]
    have hfs : (flatK (encM l) 3 d).size = l.length * 3 := by rw [size_flatK, hds]
    have hfl' : (flatK (encM l) 3 d').toList = ptsV (d'.toList.map (·.1)) := flat_pts d'
    have hfs' : (flatK (encM l) 3 d').size = l.length * 3 := by rw [size_flatK, hs1, hds]
    have hHold : HoldsK (encM l) 3 w g 0 d := by
      intro j hj
      rw [hfs] at hj
      have hjc : j < cur.size := by rw [hcs]; omega
      have h1 : cur[j]? = some ((flatK (encM l) 3 d)[j]!) := by
        have h2 : (cur.toList.take (l.length * 3))[j]? = (flatK (encM l) 3 d).toList[j]? := by rw [htk, hfl]
        rw [List.getElem?_take, if_pos hj, Array.getElem?_toList, Array.getElem?_toList] at h2
        rw [h2, getElem!_pos _ j (by omega), Array.getElem?_eq_getElem]
      constructor
      · simp only [World.cell?, hgc, Nat.zero_add, Option.isSome_none, id]
        exact h1
      · simp [World.frozen?, hgc]
    have hcon := AnyQ.slices_SortFunc_eq Tryz.sortPt 3 agg_pt siz_pt (encM l) (fun _ => rfl) (fun x v hv => by simp [encM] at hv; rcases hv with rfl | rfl | rfl <;> rfl) (fun x y => cfL tn td x.1 y.1) hO 89 #[.pointer (some ⟨r, 0, none⟩)] g 0 cap d w lf_enters
      (lf_lays ht hv hrg hrs cell0 cell1 fr0 fr1 d.size) hHold hgs (by omega)
    rw [← hd', hds] at hcon
    refine Calls.mono (show Calls Tryz.prog 40 _ w _ from hcon) fun e w' ⟨he, n, os, hw⟩ => ?_
    have hsz : (putRow id (Sort.ahead w n) g 0 (flatK (encM l) 3 d')).heap.size = w.heap.size := by rw [size_putRow]; rfl
    have hblk : ∀ k, k < w.heap.size → w'.heap[k]? = (putRow id (Sort.ahead w n) g 0 (flatK (encM l) 3 d')).heap[k]? := fun k hk => by
      rw [hw]
      unfold sortWorldK Sort.grow putRowK
      exact Array.getElem?_append_left (by rw [hsz]; exact hk)
    have hself := (hblk g hgs).trans (put_cells (w := Sort.ahead w n) (fr := (0, 0)) hgc _)
    refine ⟨he, ⟨⟨?_, ?_, ?_, ?_, ?_⟩, ?_, ?_⟩, ⟨?_, .inr ⟨g, cap, _, rfl, hg, hself, hnc, hcm, ?_, ?_⟩⟩, pts_one _⟩
    · rw [hw]; rfl
    · rw [hw]; rfl
    · rw [hw]; rfl
    · rw [hw]; unfold sortWorldK putRowK; rw [size_grow, hsz]; omega
    · intro k hk hkr
      rw [hblk k hk]
      exact put_other (Sort.ahead w n) g _ fun e => hkr (by rw [e]; rfl)
    · intro a ha
      rw [hw]
      unfold sortWorldK putRowK
      rw [frozen?_grow _ _ _ (by rw [hsz]; exact ha), frozen?_putRow]; rfl
    · rw [hw]; show w.drawn ≤ w.drawn + n; omega
    · rw [ptsV_length, hsl]
    · rw [putCells_size]; exact hcs
    · rw [← hfs', putCells_take _ _ (by rw [hfs', hcs]; omega), hfl']
end
end Go.Proofs.YtpngjeloiifgnaaGreat
