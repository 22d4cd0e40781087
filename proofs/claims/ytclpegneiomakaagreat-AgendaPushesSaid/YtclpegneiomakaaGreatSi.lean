/-
  The library's sort at lists of numbers, by its contract. Conditions: none.
-/
import Derived.Lib.SortBridge
import Derived.Test.YtclpegneiomakaaGreatSi0
import Derived.Test.YtclpegneiomakaaGreatZa
namespace Go.Proofs.YtclpegneiomakaaGreat
open Go.RowKit Go.Sort
theorem put_cellsI {w : World} {g : Nat} {cur : Array Value} {e : TypeId} {fr : Nat × Nat} (hg : w.heap[g]? = some (.cells cur e fr)) (F : Array Int) :
    (putRow (Value.int .i64) w g 0 F).heap[g]? = some (.cells (putCells (Value.int .i64) 0 F cur) e fr) := by
  unfold putRow mapBlock
  simp only [Array.getElem?_modify, if_true, hg, Option.map_some, onCells]
theorem put_otherI (w : World) (g : Nat) (F : Array Int) {k : Nat} (h : k ≠ g) : (putRow (Value.int .i64) w g 0 F).heap[k]? = w.heap[k]? := by
  unfold putRow mapBlock
  simp only [Array.getElem?_modify, if_neg (fun e : g = k => h e.symm)]
theorem putCellsI_take (F : List Int) (cur : Array Value) (h : F.length ≤ cur.size) : (putCells (Value.int .i64) 0 F.toArray cur).toList.take F.length = ziV F := by
  apply List.ext_getElem?
  intro i
  rw [List.getElem?_take]
  by_cases hi : i < F.length
  · rw [if_pos hi]
    unfold putCells ziV
    simp only [Array.getElem?_toList, Array.getElem?_mapIdx, List.getElem?_map]
    rw [Array.getElem?_eq_getElem (show i < cur.size by omega), Option.map_some, if_pos (by simp; omega), Nat.sub_zero, getElem!_pos F.toArray i (by simpa using hi), List.getElem?_eq_getElem hi]
    simp
  · rw [if_neg hi, List.getElem?_eq_none (by rw [ziV_length]; omega)]
theorem putCellsI_size (F cur) : (putCells (Value.int .i64) 0 F cur).size = cur.size := by unfold putCells; simp
def sortI (g : List Int) : List Int := g.mergeSort fun x y => decide (x ≤ y)
theorem sortI_perm (g : List Int) : (sortI g).Perm g := List.mergeSort_perm _ _
theorem sortI_length (g : List Int) : (sortI g).length = g.length := (sortI_perm g).length_eq
theorem sortI_pw (g : List Int) : (sortI g).Pairwise (fun x y => x ≤ y) := by
  have := List.pairwise_mergeSort (le := fun x y : Int => decide (x ≤ y)) (fun a b c h1 h2 => by simp at *; omega) (fun a b => by simp; omega) g
  exact this.imp fun h => by simpa using h
theorem isl_oneZ {β : Bl} {n : Nat} {us : List Value} (h : SV.isl β [.ls 0 n] us) : ∃ v, us = [v] ∧ β.g 0 = some v ∧ ∃ a c, v = .slice a n c := by
  match us, h with
  | [v0], ⟨⟨h0, h1⟩, _⟩ => exact ⟨v0, rfl, h0, h1⟩
theorem SortI_any (l : List Int) (hn : l.length ≤ 1000000) : FnM Tryz.prog 89 1 [.ls 0 l.length] [(0, 0, zrI l)] (.tuple #[]) 0 ⟨3, 1, l.length, ziV l⟩ (ziV (sortI l)) := by
  intro w β us base u hH hdom hargs hu hown hbase hap
  obtain ⟨v, rfl, hv0, a0, c0, hv⟩ := isl_oneZ hargs
  rw [hu] at hv0
  cases hv0
  subst hv
  rcases Nat.eq_zero_or_pos l.length with h0 | h0
  · have hl : l = [] := List.eq_nil_of_length_eq_zero h0
    subst hl
    refine (Any.slices_Sort_int_none Tryz.sortI a0 c0 w).mono fun e w' ⟨he, hw⟩ => ?_
    subst hw
    have e0 : ziV (sortI []) = ziV [] := by simp [sortI]
    have hown' := hown
    rw [← e0] at hown'
    exact ⟨he, ⟨⟨rfl, rfl, rfl, Nat.le_refl _, (fun _ _ _ => rfl)⟩, (fun _ _ => rfl), Nat.le_refl _⟩, hown', fun y hy => by simp [sortI, ziV] at hy⟩
  · obtain ⟨hlen, hnil | ⟨g, cap, cur, e1, hg, hgc, hnc, hcm, hcs, htk⟩⟩ := hown
    · have := hnil.2
      dsimp only at this
      omega
    cases e1
    dsimp only at hlen hgc hnc hcs htk
    have hgs : g < w.heap.size := (Array.getElem?_eq_some_iff.1 hgc).1
    have hHold : Go.Sort.Holds (Value.int .i64) w g 0 l.toArray := by
      intro j hj
      have hj' : j < l.length := by simpa using hj
      have h1 : cur[j]? = some (Value.int .i64 (l.toArray[j]!)) := by
        have h2 : (cur.toList.take (l.length * 1))[j]? = (ziV l)[j]? := by rw [htk]
        rw [List.getElem?_take, if_pos (by omega), Array.getElem?_toList] at h2
        rw [h2, getElem!_pos _ j hj]
        simp [ziV, hj']
      constructor
      · simp only [World.cell?, hgc, Nat.zero_add, Option.isSome_none, id]
        exact h1
      · simp [World.frozen?, hgc]
    have hcon := calls_of_every_depth fun D => AnyS.slices_Sort_int_alone Tryz.sortI D g 0 c0 l w hHold hgs (by omega)
    refine Calls.mono (show Calls Tryz.prog 89 _ w _ from hcon) fun e w' ⟨he, n, os, hw⟩ => ?_
    have hml : (sortI l).length = l.length := sortI_length l
    have hw' : w' = grow (putRow (Value.int .i64) (Sort.ahead w n) g 0 (sortI l).toArray) os := hw
    clear hw
    have hsz : (putRow (Value.int .i64) (Sort.ahead w n) g 0 (sortI l).toArray).heap.size = w.heap.size := by rw [size_putRow]; rfl
    have hblk : ∀ k, k < w.heap.size → w'.heap[k]? = (putRow (Value.int .i64) (Sort.ahead w n) g 0 (sortI l).toArray).heap[k]? := fun k hk => by
      rw [hw']
      unfold Sort.grow
      exact Array.getElem?_append_left (by rw [hsz]; exact hk)
    have hself := (hblk g hgs).trans (put_cellsI (w := Sort.ahead w n) (fr := (0, 0)) hgc _)
    refine ⟨he, ⟨⟨?_, ?_, ?_, ?_, ?_⟩, ?_, ?_⟩, ⟨?_, .inr ⟨g, c0, _, rfl, hg, hself, hnc, hcm, ?_, ?_⟩⟩, zi_one _⟩
    · rw [hw']; rfl
    · rw [hw']; rfl
    · rw [hw']; rfl
    · rw [hw', size_grow, hsz]; omega
    · intro k hk hkr
      rw [hblk k hk]
      exact put_otherI (Sort.ahead w n) g _ fun e => hkr (by rw [e]; rfl)
    · intro a ha
      rw [hw', frozen?_grow _ _ _ (by rw [hsz]; exact ha), frozen?_putRow]; rfl
    · rw [hw']; show w.drawn ≤ w.drawn + n; omega
    · rw [ziV_length, hml, Nat.mul_one]
    · rw [putCellsI_size]; exact hcs
    · dsimp only
      rw [Nat.mul_one, ← hml, putCellsI_take _ _ (by rw [hcs, hml]; omega)]
end Go.Proofs.YtclpegneiomakaaGreat
