/-
  Joined: Si, Zf. Conditions: none.
-/
import Derived.Lib.SortBridge
import Derived.Test.YtclpegneiomakaaGreatSi0
import Derived.Test.YtclpegneiomakaaGreatZa
import Derived.Test.YtclpegneiomakaaGreatZe
namespace Go.Proofs.YtclpegneiomakaaGreat
open Go.RowKit Go.Sort
theorem put_cellsI {w : World} {g : Nat} {cur : Array Value} {e : TypeId} {fr : Nat × Nat} (hg : w.heap[g]? = some (.cells cur e fr)) (F : Array Int) :
    (putRow (Value.int .i64) w g 0 F).heap[g]? = some (.cells (putCells (Value.int .i64) 0 F cur) e fr) := by
  unfold putRow mapBlock
  simp only [Array.getElem?_modify, if_true, hg, Option.map_some, onCells]
theorem put_otherI (w : World) (g : Nat) (F : Array Int) {k : Nat} (h : k ≠ g) : (putRow (Value.int .i64) w g 0 F).heap[k]? = w.heap[k]? := by
  unfold putRow mapBlock
  simp only [Array.getElem?_modify, if_neg (fun e : g = k => h e.symm)]
theorem putCellsI_take (F : List Int) (cur : Array Value) (h : F.length ≤ cur.size) : (putCells (Value.int .i64) 0 F.toArray cur).toList.take F.length = ziV F := by
  apply List.ext_getElem?
  intro i
  rw [List.getElem?_take]
  by_cases hi : i < F.length
  · rw [if_pos hi]
    unfold putCells ziV
    simp only [Array.getElem?_toList, Array.getElem?_mapIdx, List.getElem?_map]
    rw [Array.getElem?_eq_getElem (show i < cur.size by omega), Option.map_some, if_pos (by simp; omega), Nat.sub_zero, getElem!_pos F.toArray i (by simpa using hi), List.getElem?_eq_getElem hi]
    simp
  · rw [if_neg hi, List.getElem?_eq_none (by rw [ziV_length]; omega)]
theorem putCellsI_size (F cur) : (putCells (Value.int .i64) 0 F cur).size = cur.size := by unfold putCells; simp
def sortI (g : List Int) : List Int := g.mergeSort fun x y => decide (x ≤ y)
theorem sortI_perm (g : List Int) : (sortI g).Perm g := List.mergeSort_perm _ _
theorem sortI_length (g : List Int) : (sortI g).length = g.length := (sortI_perm g).length_eq
theorem isl_oneZ {β : Bl} {n : Nat} {us : List Value} (h : SV.isl β [.ls 0 n] us) : ∃ v, us = [v] ∧ β.g 0 = some v ∧ ∃ a c, v = .slice a n c := by
  match us, h with
  | [v0], ⟨⟨h0, h1⟩, _⟩ => exact ⟨v0, rfl, h0, h1⟩
theorem SortI_any (l : List Int) (hn : l.length ≤ 1000000) : FnM Tryz.prog 89 1 [.ls 0 l.length] [(0, 0, zrI l)] (.tuple #[]) 0 ⟨3, 1, l.length, ziV l⟩ (ziV (sortI l)) := by
  intro w β us base u hH hdom hargs hu hown hbase hap
  obtain ⟨v, rfl, hv0, a0, c0, hv⟩ := isl_oneZ hargs
  rw [hu] at hv0
  cases hv0
  subst hv
  rcases Nat.eq_zero_or_pos l.length with h0 | h0
  · have hl : l = [] := List.eq_nil_of_length_eq_zero h0
    subst hl
    refine (Any.slices_Sort_int_none Tryz.sortI a0 c0 w).mono fun e w' ⟨he, hw⟩ => ?_
    subst hw
    have e0 : ziV (sortI []) = ziV [] := by simp [sortI]
    have hown' := hown
    rw [← e0] at hown'
    exact ⟨he, ⟨⟨rfl, rfl, rfl, Nat.le_refl _, (fun _ _ _ => rfl)⟩, (fun _ _ => rfl), Nat.le_refl _⟩, hown', fun y hy => by simp [sortI, ziV] at hy⟩
  · obtain ⟨hlen, hnil | ⟨g, cap, cur, e1, hg, hgc, hnc, hcm, hcs, htk⟩⟩ := hown
    · have := hnil.2
      dsimp only at this
      omega
    cases e1
    dsimp only at hlen hgc hnc hcs htk
    have hgs : g < w.heap.size := (Array.getElem?_eq_some_iff.1 hgc).1
    have hHold : Go.Sort.Holds (Value.int .i64) w g 0 l.toArray := by
      intro j hj
      have hj' : j < l.length := by simpa using hj
      have h1 : cur[j]? = some (Value.int .i64 (l.toArray[j]!)) := by
        have h2 : (cur.toList.take (l.length * 1))[j]? = (ziV l)[j]? := by rw [htk]
        rw [List.getElem?_take, if_pos (by omega), Array.getElem?_toList] at h2
        rw [h2, getElem!_pos _ j hj]
        simp [ziV, hj']
      constructor
      · simp only [World.cell?, hgc, Nat.zero_add, Option.isSome_none, id]
        exact h1
      · simp [World.frozen?, hgc]
    have hcon := calls_of_every_depth fun D => AnyS.slices_Sort_int_alone Tryz.sortI D g 0 c0 l w hHold hgs (by omega)
    refine Calls.mono (show Calls Tryz.prog 89 _ w _ from hcon) fun e w' ⟨he, n, os, hw⟩ => ?_
    have hml : (sortI l).length = l.length := sortI_length l
    have hw' : w' = grow (putRow (Value.int .i64) (Sort.ahead w n) g 0 (sortI l).toArray) os := hw
    clear hw
    have hsz : (putRow (Value.int .i64) (Sort.ahead w n) g 0 (sortI l).toArray).heap.size = w.heap.size := by rw [size_putRow]; rfl
    have hblk : ∀ k, k < w.heap.size → w'.heap[k]? = (putRow (Value.int .i64) (Sort.ahead w n) g 0 (sortI l).toArray).heap[k]? := fun k hk => by
      rw [hw']
      unfold Sort.grow
      exact Array.getElem?_append_left (by rw [hsz]; exact hk)
    have hself := (hblk g hgs).trans (put_cellsI (w := Sort.ahead w n) (fr := (0, 0)) hgc _)
    refine ⟨he, ⟨⟨?_, ?_, ?_, ?_, ?_⟩, ?_, ?_⟩, ⟨?_, .inr ⟨g, c0, _, rfl, hg, hself, hnc, hcm, ?_, ?_⟩⟩, zi_one _⟩
    · rw [hw']; rfl
    · rw [hw']; rfl
    · rw [hw']; rfl
    · rw [hw', size_grow, hsz]; omega
    · intro k hk hkr
      rw [hblk k hk]
      exact put_otherI (Sort.ahead w n) g _ fun e => hkr (by rw [e]; rfl)
    · intro a ha
      rw [hw', frozen?_grow _ _ _ (by rw [hsz]; exact ha), frozen?_putRow]; rfl
    · rw [hw']; show w.drawn ≤ w.drawn + n; omega
    · rw [ziV_length, hml, Nat.mul_one]
    · rw [putCellsI_size]; exact hcs
    · dsimp only
      rw [Nat.mul_one, ← hml, putCellsI_take _ _ (by rw [hcs, hml]; omega)]
end Go.Proofs.YtclpegneiomakaaGreat

namespace Go.Proofs.YtclpegneiomakaaGreat
open Go.RowKit
set_option maxRecDepth 100000 in
theorem rc0_neg {u fr : List Int} {b g : List Bool} {x : Int} {k : Nat} (hf : fr[k]? = some x) (hif : 0 ≤ (k : Int) ∧ (k : Int) < (fr.length : Int)) (hlt : decide ((k : Int) < (fr.length : Int)) = true) (hx0 : decide (x < 0) = true) : RunsL Tryz.prog 3 3 (loopOf Tryz.prog 45 0) 117 5 ([(1, .pp 3 0), (3, .pv (.int .i64 (u.length : Int))), (4, .ls 4 u.length), (5, .pv (.int .i64 (k : Int)))]) ([(3, 0, .ls 0 u.length), (3, 1, .ls 1 b.length), (3, 2, .ls 2 fr.length), (0, 0, zrI u), (1, 0, zrB b), (2, 0, zrI fr), (4, 0, .row 4 1 u.length (zbV g))]) (.ret) ([(2, .pv (.int .i64 8))]) ([]) :=
  RunsL.stop [] 300 [.t true, .r (.int .i64 x), .t true] (fun h => by cases h)
    (round_of (And.intro hlt (And.intro hif (And.intro (za_i hf) (And.intro hx0 True.intro)))) (by kernel_rfl))

set_option maxRecDepth 100000 in
theorem rc0_big {u fr : List Int} {b g : List Bool} {x : Int} {k : Nat} (hf : fr[k]? = some x) (hif : 0 ≤ (k : Int) ∧ (k : Int) < (fr.length : Int)) (hlt : decide ((k : Int) < (fr.length : Int)) = true) (hx0 : decide (x < 0) = false) (hx1 : decide (x ≥ (u.length : Int)) = true) : RunsL Tryz.prog 3 3 (loopOf Tryz.prog 45 0) 117 5 ([(1, .pp 3 0), (3, .pv (.int .i64 (u.length : Int))), (4, .ls 4 u.length), (5, .pv (.int .i64 (k : Int)))]) ([(3, 0, .ls 0 u.length), (3, 1, .ls 1 b.length), (3, 2, .ls 2 fr.length), (0, 0, zrI u), (1, 0, zrB b), (2, 0, zrI fr), (4, 0, .row 4 1 u.length (zbV g))]) (.ret) ([(2, .pv (.int .i64 8))]) ([]) :=
  RunsL.stop [] 300 [.t true, .r (.int .i64 x), .t false, .r (.int .i64 x), .t true] (fun h => by cases h)
    (round_of (And.intro hlt (And.intro hif (And.intro (za_i hf) (And.intro hx0 (And.intro hif (And.intro (za_i hf) (And.intro hx1 True.intro))))))) (by kernel_rfl))

set_option maxRecDepth 100000 in
theorem rc0_twice {u fr : List Int} {b g : List Bool} {x : Int} {k : Nat} (hf : fr[k]? = some x) (hif : 0 ≤ (k : Int) ∧ (k : Int) < (fr.length : Int)) (hlt : decide ((k : Int) < (fr.length : Int)) = true) (hx0 : decide (x < 0) = false) (hx1 : decide (x ≥ (u.length : Int)) = false) (hix : 0 ≤ x ∧ x < (u.length : Int)) (hg : g[x.toNat]? = some true) : RunsL Tryz.prog 3 3 (loopOf Tryz.prog 45 0) 117 5 ([(1, .pp 3 0), (3, .pv (.int .i64 (u.length : Int))), (4, .ls 4 u.length), (5, .pv (.int .i64 (k : Int)))]) ([(3, 0, .ls 0 u.length), (3, 1, .ls 1 b.length), (3, 2, .ls 2 fr.length), (0, 0, zrI u), (1, 0, zrB b), (2, 0, zrI fr), (4, 0, .row 4 1 u.length (zbV g))]) (.ret) ([(2, .pv (.int .i64 8))]) ([]) :=
  RunsL.stop [] 300 [.t true, .r (.int .i64 x), .t false, .r (.int .i64 x), .t false, .r (.int .i64 x), .r (.bool true)] (fun h => by cases h)
    (round_of (And.intro hlt (And.intro hif (And.intro (za_i hf) (And.intro hx0 (And.intro hif (And.intro (za_i hf) (And.intro hx1 (And.intro hif (And.intro (za_i hf) (And.intro hix (And.intro (za_bz hg) True.intro))))))))))) (by kernel_rfl))

set_option maxRecDepth 100000 in
theorem rc0_next {u fr : List Int} {b g : List Bool} {x : Int} {k : Nat} (hf : fr[k]? = some x) (hif : 0 ≤ (k : Int) ∧ (k : Int) < (fr.length : Int)) (hlt : decide ((k : Int) < (fr.length : Int)) = true) (hx0 : decide (x < 0) = false) (hx1 : decide (x ≥ (u.length : Int)) = false) (hix : 0 ≤ x ∧ x < (u.length : Int)) (hg : g[x.toNat]? = some false) (hgl : x.toNat < g.length) (hs : Value.int .i64 (IntKind.i64.wrap ((k : Int) + 1)) = .int .i64 (((k + 1 : Nat) : Int))) {e : Exit} {tm2 : List (Nat × SV)} {hp2 : List (Nat × Nat × SV)}
    (r : RunsL Tryz.prog 3 3 (loopOf Tryz.prog 45 0) 117 5 ([(1, .pp 3 0), (3, .pv (.int .i64 (u.length : Int))), (4, .ls 4 u.length), (5, .pv (.int .i64 ((k + 1 : Nat) : Int)))]) ([(3, 0, .ls 0 u.length), (3, 1, .ls 1 b.length), (3, 2, .ls 2 fr.length), (0, 0, zrI u), (1, 0, zrB b), (2, 0, zrI fr), (4, 0, .row 4 1 u.length (zbV (g.set x.toNat true)))]) e tm2 hp2) : RunsL Tryz.prog 3 3 (loopOf Tryz.prog 45 0) 117 5 ([(1, .pp 3 0), (3, .pv (.int .i64 (u.length : Int))), (4, .ls 4 u.length), (5, .pv (.int .i64 (k : Int)))]) ([(3, 0, .ls 0 u.length), (3, 1, .ls 1 b.length), (3, 2, .ls 2 fr.length), (0, 0, zrI u), (1, 0, zrB b), (2, 0, zrI fr), (4, 0, .row 4 1 u.length (zbV g))]) e tm2 hp2 :=
  RunsL.next [] 300 [.t true, .r (.int .i64 x), .t false, .r (.int .i64 x), .t false, .r (.int .i64 x), .r (.bool false), .r (.int .i64 x), .w (zbV (g.set x.toNat true)), .r (.int .i64 (((k + 1 : Nat) : Int)))]
    (round_of (And.intro hlt (And.intro hif (And.intro (za_i hf) (And.intro hx0 (And.intro hif (And.intro (za_i hf) (And.intro hx1 (And.intro hif (And.intro (za_i hf) (And.intro hix (And.intro (za_bz hg) (And.intro hif (And.intro (za_i hf) (And.intro hix (And.intro (zs_b g x.toNat true hgl) (And.intro (zsb_in g x.toNat hgl) (And.intro hs True.intro))))))))))))))))) (by kernel_rfl)) r

set_option maxRecDepth 100000 in
theorem rc0_end {u fr : List Int} {b g : List Bool} {k : Nat} (hge : decide ((k : Int) < (fr.length : Int)) = false) : RunsL Tryz.prog 3 3 (loopOf Tryz.prog 45 0) 117 5 ([(1, .pp 3 0), (3, .pv (.int .i64 (u.length : Int))), (4, .ls 4 u.length), (5, .pv (.int .i64 (k : Int)))]) ([(3, 0, .ls 0 u.length), (3, 1, .ls 1 b.length), (3, 2, .ls 2 fr.length), (0, 0, zrI u), (1, 0, zrB b), (2, 0, zrI fr), (4, 0, .row 4 1 u.length (zbV g))]) (.exit 0) ([(1, .pp 3 0), (3, .pv (.int .i64 (u.length : Int))), (4, .ls 4 u.length)]) ([(3, 0, .ls 0 u.length), (3, 1, .ls 1 b.length), (3, 2, .ls 2 fr.length), (0, 0, zrI u), (1, 0, zrB b), (2, 0, zrI fr), (4, 0, .row 4 1 u.length (zbV g))]) :=
  RunsL.stop [] 300 [.t false] (fun h => by cases h)
    (round_of (And.intro hge True.intro) (by kernel_rfl))

set_option maxRecDepth 100000 in
theorem rc1_neg {u fr : List Int} {b g : List Bool} {y : Int} {k : Nat} (hu : u[k]? = some y) (hiu : 0 ≤ (k : Int) ∧ (k : Int) < (u.length : Int)) (hlt : decide ((k : Int) < (u.length : Int)) = true) (hy0 : decide (y < 0) = true) : RunsL Tryz.prog 3 3 (loopOf Tryz.prog 45 1) 117 5 ([(1, .pp 3 0), (3, .pv (.int .i64 (u.length : Int))), (4, .ls 4 u.length), (6, .pv (.int .i64 (k : Int)))]) ([(3, 0, .ls 0 u.length), (3, 1, .ls 1 b.length), (3, 2, .ls 2 fr.length), (0, 0, zrI u), (1, 0, zrB b), (2, 0, zrI fr), (4, 0, .row 4 1 u.length (zbV g))]) (.ret) ([(2, .pv (.int .i64 8))]) ([]) :=
  RunsL.stop [] 300 [.t true, .r (.int .i64 y), .t true] (fun h => by cases h)
    (round_of (And.intro hlt (And.intro hiu (And.intro (za_i hu) (And.intro hy0 True.intro)))) (by kernel_rfl))

set_option maxRecDepth 100000 in
theorem rc1_big {u fr : List Int} {b g : List Bool} {y : Int} {k : Nat} (hu : u[k]? = some y) (hiu : 0 ≤ (k : Int) ∧ (k : Int) < (u.length : Int)) (hlt : decide ((k : Int) < (u.length : Int)) = true) (hy0 : decide (y < 0) = false) (hy1 : decide (y > 1000000) = true) : RunsL Tryz.prog 3 3 (loopOf Tryz.prog 45 1) 117 5 ([(1, .pp 3 0), (3, .pv (.int .i64 (u.length : Int))), (4, .ls 4 u.length), (6, .pv (.int .i64 (k : Int)))]) ([(3, 0, .ls 0 u.length), (3, 1, .ls 1 b.length), (3, 2, .ls 2 fr.length), (0, 0, zrI u), (1, 0, zrB b), (2, 0, zrI fr), (4, 0, .row 4 1 u.length (zbV g))]) (.ret) ([(2, .pv (.int .i64 8))]) ([]) :=
  RunsL.stop [] 300 [.t true, .r (.int .i64 y), .t false, .r (.int .i64 y), .t true] (fun h => by cases h)
    (round_of (And.intro hlt (And.intro hiu (And.intro (za_i hu) (And.intro hy0 (And.intro hiu (And.intro (za_i hu) (And.intro hy1 True.intro))))))) (by kernel_rfl))

set_option maxRecDepth 100000 in
theorem rc1_eq_true {u fr : List Int} {b g : List Bool} {y : Int} {k : Nat} (hu : u[k]? = some y) (hiu : 0 ≤ (k : Int) ∧ (k : Int) < (u.length : Int)) (hlt : decide ((k : Int) < (u.length : Int)) = true) (hy0 : decide (y < 0) = false) (hy1 : decide (y > 1000000) = false) (hb : b[k]? = some true) (hib : 0 ≤ (k : Int) ∧ (k : Int) < (b.length : Int)) (hg : g[k]? = some true) : RunsL Tryz.prog 3 3 (loopOf Tryz.prog 45 1) 117 5 ([(1, .pp 3 0), (3, .pv (.int .i64 (u.length : Int))), (4, .ls 4 u.length), (6, .pv (.int .i64 (k : Int)))]) ([(3, 0, .ls 0 u.length), (3, 1, .ls 1 b.length), (3, 2, .ls 2 fr.length), (0, 0, zrI u), (1, 0, zrB b), (2, 0, zrI fr), (4, 0, .row 4 1 u.length (zbV g))]) (.ret) ([(2, .pv (.int .i64 8))]) ([]) :=
  RunsL.stop [] 300 [.t true, .r (.int .i64 y), .t false, .r (.int .i64 y), .t false, .r (.bool true), .r (.bool true), .k] (fun h => by cases h)
    (round_of (And.intro hlt (And.intro hiu (And.intro (za_i hu) (And.intro hy0 (And.intro hiu (And.intro (za_i hu) (And.intro hy1 (And.intro hib (And.intro (za_b hb) (And.intro hiu (And.intro (za_b hg) True.intro))))))))))) (by kernel_rfl))

set_option maxRecDepth 100000 in
theorem rc1_eq_false {u fr : List Int} {b g : List Bool} {y : Int} {k : Nat} (hu : u[k]? = some y) (hiu : 0 ≤ (k : Int) ∧ (k : Int) < (u.length : Int)) (hlt : decide ((k : Int) < (u.length : Int)) = true) (hy0 : decide (y < 0) = false) (hy1 : decide (y > 1000000) = false) (hb : b[k]? = some false) (hib : 0 ≤ (k : Int) ∧ (k : Int) < (b.length : Int)) (hg : g[k]? = some false) : RunsL Tryz.prog 3 3 (loopOf Tryz.prog 45 1) 117 5 ([(1, .pp 3 0), (3, .pv (.int .i64 (u.length : Int))), (4, .ls 4 u.length), (6, .pv (.int .i64 (k : Int)))]) ([(3, 0, .ls 0 u.length), (3, 1, .ls 1 b.length), (3, 2, .ls 2 fr.length), (0, 0, zrI u), (1, 0, zrB b), (2, 0, zrI fr), (4, 0, .row 4 1 u.length (zbV g))]) (.ret) ([(2, .pv (.int .i64 8))]) ([]) :=
  RunsL.stop [] 300 [.t true, .r (.int .i64 y), .t false, .r (.int .i64 y), .t false, .r (.bool false), .r (.bool false), .k] (fun h => by cases h)
    (round_of (And.intro hlt (And.intro hiu (And.intro (za_i hu) (And.intro hy0 (And.intro hiu (And.intro (za_i hu) (And.intro hy1 (And.intro hib (And.intro (za_b hb) (And.intro hiu (And.intro (za_b hg) True.intro))))))))))) (by kernel_rfl))

set_option maxRecDepth 100000 in
theorem rc1_next_f {u fr : List Int} {b g : List Bool} {y : Int} {k : Nat} (hu : u[k]? = some y) (hiu : 0 ≤ (k : Int) ∧ (k : Int) < (u.length : Int)) (hlt : decide ((k : Int) < (u.length : Int)) = true) (hy0 : decide (y < 0) = false) (hy1 : decide (y > 1000000) = false) (hb : b[k]? = some false) (hib : 0 ≤ (k : Int) ∧ (k : Int) < (b.length : Int)) (hg : g[k]? = some true) (hs : Value.int .i64 (IntKind.i64.wrap ((k : Int) + 1)) = .int .i64 (((k + 1 : Nat) : Int))) {e : Exit} {tm2 : List (Nat × SV)} {hp2 : List (Nat × Nat × SV)}
    (r : RunsL Tryz.prog 3 3 (loopOf Tryz.prog 45 1) 117 5 ([(1, .pp 3 0), (3, .pv (.int .i64 (u.length : Int))), (4, .ls 4 u.length), (6, .pv (.int .i64 ((k + 1 : Nat) : Int)))]) ([(3, 0, .ls 0 u.length), (3, 1, .ls 1 b.length), (3, 2, .ls 2 fr.length), (0, 0, zrI u), (1, 0, zrB b), (2, 0, zrI fr), (4, 0, .row 4 1 u.length (zbV g))]) e tm2 hp2) : RunsL Tryz.prog 3 3 (loopOf Tryz.prog 45 1) 117 5 ([(1, .pp 3 0), (3, .pv (.int .i64 (u.length : Int))), (4, .ls 4 u.length), (6, .pv (.int .i64 (k : Int)))]) ([(3, 0, .ls 0 u.length), (3, 1, .ls 1 b.length), (3, 2, .ls 2 fr.length), (0, 0, zrI u), (1, 0, zrB b), (2, 0, zrI fr), (4, 0, .row 4 1 u.length (zbV g))]) e tm2 hp2 :=
  RunsL.next [] 300 [.t true, .r (.int .i64 y), .t false, .r (.int .i64 y), .t false, .r (.bool false), .r (.bool true), .k, .r (.bool false), .r (.int .i64 (((k + 1 : Nat) : Int)))]
    (round_of (And.intro hlt (And.intro hiu (And.intro (za_i hu) (And.intro hy0 (And.intro hiu (And.intro (za_i hu) (And.intro hy1 (And.intro hib (And.intro (za_b hb) (And.intro hiu (And.intro (za_b hg) (And.intro hib (And.intro (za_b hb) (And.intro hs True.intro)))))))))))))) (by kernel_rfl)) r

set_option maxRecDepth 100000 in
theorem rc1_one {u fr : List Int} {b g : List Bool} {y : Int} {k : Nat} (hu : u[k]? = some y) (hiu : 0 ≤ (k : Int) ∧ (k : Int) < (u.length : Int)) (hlt : decide ((k : Int) < (u.length : Int)) = true) (hy0 : decide (y < 0) = false) (hy1 : decide (y > 1000000) = false) (hb : b[k]? = some true) (hib : 0 ≤ (k : Int) ∧ (k : Int) < (b.length : Int)) (hg : g[k]? = some false) (hy2 : decide (y < 1) = true) : RunsL Tryz.prog 3 3 (loopOf Tryz.prog 45 1) 117 5 ([(1, .pp 3 0), (3, .pv (.int .i64 (u.length : Int))), (4, .ls 4 u.length), (6, .pv (.int .i64 (k : Int)))]) ([(3, 0, .ls 0 u.length), (3, 1, .ls 1 b.length), (3, 2, .ls 2 fr.length), (0, 0, zrI u), (1, 0, zrB b), (2, 0, zrI fr), (4, 0, .row 4 1 u.length (zbV g))]) (.ret) ([(2, .pv (.int .i64 8))]) ([]) :=
  RunsL.stop [] 300 [.t true, .r (.int .i64 y), .t false, .r (.int .i64 y), .t false, .r (.bool true), .r (.bool false), .k, .r (.bool true), .r (.int .i64 y), .t true] (fun h => by cases h)
    (round_of (And.intro hlt (And.intro hiu (And.intro (za_i hu) (And.intro hy0 (And.intro hiu (And.intro (za_i hu) (And.intro hy1 (And.intro hib (And.intro (za_b hb) (And.intro hiu (And.intro (za_b hg) (And.intro hib (And.intro (za_b hb) (And.intro hiu (And.intro (za_i hu) (And.intro hy2 True.intro)))))))))))))))) (by kernel_rfl))

set_option maxRecDepth 100000 in
theorem rc1_next_t {u fr : List Int} {b g : List Bool} {y : Int} {k : Nat} (hu : u[k]? = some y) (hiu : 0 ≤ (k : Int) ∧ (k : Int) < (u.length : Int)) (hlt : decide ((k : Int) < (u.length : Int)) = true) (hy0 : decide (y < 0) = false) (hy1 : decide (y > 1000000) = false) (hb : b[k]? = some true) (hib : 0 ≤ (k : Int) ∧ (k : Int) < (b.length : Int)) (hg : g[k]? = some false) (hy2 : decide (y < 1) = false) (hs : Value.int .i64 (IntKind.i64.wrap ((k : Int) + 1)) = .int .i64 (((k + 1 : Nat) : Int))) {e : Exit} {tm2 : List (Nat × SV)} {hp2 : List (Nat × Nat × SV)}
    (r : RunsL Tryz.prog 3 3 (loopOf Tryz.prog 45 1) 117 5 ([(1, .pp 3 0), (3, .pv (.int .i64 (u.length : Int))), (4, .ls 4 u.length), (6, .pv (.int .i64 ((k + 1 : Nat) : Int)))]) ([(3, 0, .ls 0 u.length), (3, 1, .ls 1 b.length), (3, 2, .ls 2 fr.length), (0, 0, zrI u), (1, 0, zrB b), (2, 0, zrI fr), (4, 0, .row 4 1 u.length (zbV g))]) e tm2 hp2) : RunsL Tryz.prog 3 3 (loopOf Tryz.prog 45 1) 117 5 ([(1, .pp 3 0), (3, .pv (.int .i64 (u.length : Int))), (4, .ls 4 u.length), (6, .pv (.int .i64 (k : Int)))]) ([(3, 0, .ls 0 u.length), (3, 1, .ls 1 b.length), (3, 2, .ls 2 fr.length), (0, 0, zrI u), (1, 0, zrB b), (2, 0, zrI fr), (4, 0, .row 4 1 u.length (zbV g))]) e tm2 hp2 :=
  RunsL.next [] 300 [.t true, .r (.int .i64 y), .t false, .r (.int .i64 y), .t false, .r (.bool true), .r (.bool false), .k, .r (.bool true), .r (.int .i64 y), .t false, .r (.int .i64 (((k + 1 : Nat) : Int)))]
    (round_of (And.intro hlt (And.intro hiu (And.intro (za_i hu) (And.intro hy0 (And.intro hiu (And.intro (za_i hu) (And.intro hy1 (And.intro hib (And.intro (za_b hb) (And.intro hiu (And.intro (za_b hg) (And.intro hib (And.intro (za_b hb) (And.intro hiu (And.intro (za_i hu) (And.intro hy2 (And.intro hs True.intro))))))))))))))))) (by kernel_rfl)) r

set_option maxRecDepth 100000 in
theorem rc1_end {u fr : List Int} {b g : List Bool} {k : Nat} (hge : decide ((k : Int) < (u.length : Int)) = false) : RunsL Tryz.prog 3 3 (loopOf Tryz.prog 45 1) 117 5 ([(1, .pp 3 0), (3, .pv (.int .i64 (u.length : Int))), (4, .ls 4 u.length), (6, .pv (.int .i64 (k : Int)))]) ([(3, 0, .ls 0 u.length), (3, 1, .ls 1 b.length), (3, 2, .ls 2 fr.length), (0, 0, zrI u), (1, 0, zrB b), (2, 0, zrI fr), (4, 0, .row 4 1 u.length (zbV g))]) (.exit 2) ([]) ([]) :=
  RunsL.stop [] 300 [.t false] (fun h => by cases h)
    (round_of (And.intro hge True.intro) (by kernel_rfl))

set_option maxRecDepth 100000 in
theorem rck_ok {u fr : List Int} {b g : List Bool} (h1 : decide ((u.length : Int) < 1) = false) (h2 : decide ((u.length : Int) > 200) = false) (h3 : (!((b.length : Int) == (u.length : Int))) = false) (h4 : decide ((fr.length : Int) > (u.length : Int)) = false) (n0 : 0 ≤ (u.length : Int)) (n1 : (u.length : Int) ≤ 1000000) (r0 : RunsL Tryz.prog 3 3 (loopOf Tryz.prog 45 0) 117 5 ([(1, .pp 3 0), (3, .pv (.int .i64 (u.length : Int))), (4, .ls 4 u.length), (5, .pv (.int .i64 ((0 : Nat) : Int)))]) ([(3, 0, .ls 0 u.length), (3, 1, .ls 1 b.length), (3, 2, .ls 2 fr.length), (0, 0, zrI u), (1, 0, zrB b), (2, 0, zrI fr), (4, 0, .row 4 1 u.length (zbV (List.replicate u.length false)))]) (.exit 0) ([(1, .pp 3 0), (3, .pv (.int .i64 (u.length : Int))), (4, .ls 4 u.length)]) ([(3, 0, .ls 0 u.length), (3, 1, .ls 1 b.length), (3, 2, .ls 2 fr.length), (0, 0, zrI u), (1, 0, zrB b), (2, 0, zrI fr), (4, 0, .row 4 1 u.length (zbV g))])) (r1 : RunsL Tryz.prog 3 3 (loopOf Tryz.prog 45 1) 117 5 ([(1, .pp 3 0), (3, .pv (.int .i64 (u.length : Int))), (4, .ls 4 u.length), (6, .pv (.int .i64 ((0 : Nat) : Int)))]) ([(3, 0, .ls 0 u.length), (3, 1, .ls 1 b.length), (3, 2, .ls 2 fr.length), (0, 0, zrI u), (1, 0, zrB b), (2, 0, zrI fr), (4, 0, .row 4 1 u.length (zbV g))]) (.exit 2) ([]) ([])) :
    FnL Tryz.prog 45 3 [.ag [.ls 0 u.length, .ls 1 b.length, .ls 2 fr.length]] [(0, 0, zrI u), (1, 0, zrB b), (2, 0, zrI fr)] (.pv (.int .i64 (0))) 0 [] :=
  fnl_run 300 [] [.t false, .t false, .t false, .t false, .l (.exit 0) ([(1, .pp 3 0), (3, .pv (.int .i64 (u.length : Int))), (4, .ls 4 u.length), (5, .pv (.int .i64 ((0 : Nat) : Int)))]) ([(3, 0, .ls 0 u.length), (3, 1, .ls 1 b.length), (3, 2, .ls 2 fr.length), (0, 0, zrI u), (1, 0, zrB b), (2, 0, zrI fr), (4, 0, .row 4 1 u.length (zbV (List.replicate u.length false)))]) ([(1, .pp 3 0), (3, .pv (.int .i64 (u.length : Int))), (4, .ls 4 u.length)]) ([(3, 0, .ls 0 u.length), (3, 1, .ls 1 b.length), (3, 2, .ls 2 fr.length), (0, 0, zrI u), (1, 0, zrB b), (2, 0, zrI fr), (4, 0, .row 4 1 u.length (zbV g))]), .l (.exit 2) ([(1, .pp 3 0), (3, .pv (.int .i64 (u.length : Int))), (4, .ls 4 u.length), (6, .pv (.int .i64 ((0 : Nat) : Int)))]) ([(3, 0, .ls 0 u.length), (3, 1, .ls 1 b.length), (3, 2, .ls 2 fr.length), (0, 0, zrI u), (1, 0, zrB b), (2, 0, zrI fr), (4, 0, .row 4 1 u.length (zbV g))]) ([]) ([])]
     True.intro (And.intro h1 (And.intro h2 (And.intro h3 (And.intro h4 (And.intro n0 (And.intro (Eq.refl (u.length : Int)) (And.intro n1 (And.intro (reflT (renN []) ([(1, .pp 3 0), (3, .pv (.int .i64 (u.length : Int))), (4, .ls 4 u.length), (5, .pv (.int .i64 ((0 : Nat) : Int)))])) (And.intro (And.intro (Eq.refl (some (SV.ls 0 u.length))) (And.intro (Eq.refl (some (SV.ls 1 b.length))) (And.intro (Eq.refl (some (SV.ls 2 fr.length))) (And.intro (Eq.refl (some (zrI u))) (And.intro (Eq.refl (some (zrB b))) (And.intro (Eq.refl (some (zrI fr))) (And.intro (zrep_row u.length) True.intro))))))) (And.intro r0 (And.intro (reflT (renN []) ([(1, .pp 3 0), (3, .pv (.int .i64 (u.length : Int))), (4, .ls 4 u.length), (6, .pv (.int .i64 ((0 : Nat) : Int)))])) (And.intro (reflH (renN []) ([(3, 0, .ls 0 u.length), (3, 1, .ls 1 b.length), (3, 2, .ls 2 fr.length), (0, 0, zrI u), (1, 0, zrB b), (2, 0, zrI fr), (4, 0, .row 4 1 u.length (zbV g))])) (And.intro r1 True.intro))))))))))))) (by kernel_rfl)

set_option maxRecDepth 100000 in
theorem rli_neg {u fr : List Int} {b : List Bool} {hi hw : Int} (h0 : decide (hi ≥ 0) = false) :
    FnL Tryz.prog 60 3 [.ag [.ls 0 u.length, .ls 1 b.length, .ls 2 fr.length], .pv (.agg #[.int .i64 hi, .int .i64 hw])] [(0, 0, zrI u), (1, 0, zrB b), (2, 0, zrI fr)] (.pv (.bool false)) 0 [] :=
  fnl_run 300 [] [.t false]
     True.intro (And.intro h0 True.intro) (by kernel_rfl)

set_option maxRecDepth 100000 in
theorem rli_big {u fr : List Int} {b : List Bool} {hi hw : Int} (h0 : decide (hi ≥ 0) = true) (h1 : decide (hi < (u.length : Int)) = false) :
    FnL Tryz.prog 60 3 [.ag [.ls 0 u.length, .ls 1 b.length, .ls 2 fr.length], .pv (.agg #[.int .i64 hi, .int .i64 hw])] [(0, 0, zrI u), (1, 0, zrB b), (2, 0, zrI fr)] (.pv (.bool false)) 0 [] :=
  fnl_run 300 [] [.t true, .t false]
     True.intro (And.intro h0 (And.intro h1 True.intro)) (by kernel_rfl)

set_option maxRecDepth 100000 in
theorem rli_free {u fr : List Int} {b : List Bool} {hi hw : Int} (h0 : decide (hi ≥ 0) = true) (h1 : decide (hi < (u.length : Int)) = true) (hib : 0 ≤ hi ∧ hi < (b.length : Int)) (hb : b[hi.toNat]? = some false) :
    FnL Tryz.prog 60 3 [.ag [.ls 0 u.length, .ls 1 b.length, .ls 2 fr.length], .pv (.agg #[.int .i64 hi, .int .i64 hw])] [(0, 0, zrI u), (1, 0, zrB b), (2, 0, zrI fr)] (.pv (.bool false)) 0 [] :=
  fnl_run 300 [] [.t true, .t true, .r (.bool false)]
     True.intro (And.intro h0 (And.intro h1 (And.intro hib (And.intro (za_bz hb) True.intro)))) (by kernel_rfl)

set_option maxRecDepth 100000 in
theorem rli_true {u fr : List Int} {b : List Bool} {y hi hw : Int} (h0 : decide (hi ≥ 0) = true) (h1 : decide (hi < (u.length : Int)) = true) (hib : 0 ≤ hi ∧ hi < (b.length : Int)) (hb : b[hi.toNat]? = some true) (hiu : 0 ≤ hi ∧ hi < (u.length : Int)) (hue : u[hi.toNat]? = some y) (he : (y == hw) = true) :
    FnL Tryz.prog 60 3 [.ag [.ls 0 u.length, .ls 1 b.length, .ls 2 fr.length], .pv (.agg #[.int .i64 hi, .int .i64 hw])] [(0, 0, zrI u), (1, 0, zrB b), (2, 0, zrI fr)] (.pv (.bool true)) 0 [] :=
  fnl_run 300 [] [.t true, .t true, .r (.bool true), .r (.int .i64 y), .t true]
     True.intro (And.intro h0 (And.intro h1 (And.intro hib (And.intro (za_bz hb) (And.intro hiu (And.intro (za_iz hue) (And.intro he True.intro))))))) (by kernel_rfl)

set_option maxRecDepth 100000 in
theorem rli_false {u fr : List Int} {b : List Bool} {y hi hw : Int} (h0 : decide (hi ≥ 0) = true) (h1 : decide (hi < (u.length : Int)) = true) (hib : 0 ≤ hi ∧ hi < (b.length : Int)) (hb : b[hi.toNat]? = some true) (hiu : 0 ≤ hi ∧ hi < (u.length : Int)) (hue : u[hi.toNat]? = some y) (he : (y == hw) = false) :
    FnL Tryz.prog 60 3 [.ag [.ls 0 u.length, .ls 1 b.length, .ls 2 fr.length], .pv (.agg #[.int .i64 hi, .int .i64 hw])] [(0, 0, zrI u), (1, 0, zrB b), (2, 0, zrI fr)] (.pv (.bool false)) 0 [] :=
  fnl_run 300 [] [.t true, .t true, .r (.bool true), .r (.int .i64 y), .t false]
     True.intro (And.intro h0 (And.intro h1 (And.intro hib (And.intro (za_bz hb) (And.intro hiu (And.intro (za_iz hue) (And.intro he True.intro))))))) (by kernel_rfl)

end Go.Proofs.YtclpegneiomakaaGreat
