/-
  Joined: Si, Zd. Conditions: none.
-/
import Derived.Lib.SortBridge
import Derived.Test.YtclpegneiomakaaGreatSi0
import Derived.Test.YtclpegneiomakaaGreatZa
import Derived.Test.YtclpegneiomakaaGreatZc
namespace Go.Proofs.YtclpegneiomakaaGreat
open Go.RowKit Go.Sort
theorem put_cellsI {w : World} {g : Nat} {cur : Array Value} {e : TypeId} {fr : Nat × Nat} (hg : w.heap[g]? = some (.cells cur e fr)) (F : Array Int) :
    (putRow (Value.int .i64) w g 0 F).heap[g]? = some (.cells (putCells (Value.int .i64) 0 F cur) e fr) := by
  unfold putRow mapBlock
  simp only [Array.getElem?_modify, if_true, hg, Option.map_some, onCells]
theorem put_otherI (w : World) (g : Nat) (F : Array Int) {k : Nat} (h : k ≠ g) : (putRow (Value.int .i64) w g 0 F).heap[k]? = w.heap[k]? := by
  unfold putRow mapBlock
  simp only [Array.getElem?_modify, if_neg (fun e : g = k => h e.symm)]
theorem putCellsI_take (F : List Int) (cur : Array Value) (h : F.length ≤ cur.size) : (putCells (Value.int .i64) 0 F.toArray cur).toList.take F.length = ziV F := by
  apply List.ext_getElem?
  intro i
  rw [List.getElem?_take]
  by_cases hi : i < F.length
  · rw [if_pos hi]
    unfold putCells ziV
    simp only [Array.getElem?_toList, Array.getElem?_mapIdx, List.getElem?_map]
    rw [Array.getElem?_eq_getElem (show i < cur.size by omega), Option.map_some, if_pos (by simp; omega), Nat.sub_zero, getElem!_pos F.toArray i (by simpa using hi), List.getElem?_eq_getElem hi]
    simp
  · rw [if_neg hi, List.getElem?_eq_none (by rw [ziV_length]; omega)]
theorem putCellsI_size (F cur) : (putCells (Value.int .i64) 0 F cur).size = cur.size := by unfold putCells; simp
def sortI (g : List Int) : List Int := g.mergeSort fun x y => decide (x ≤ y)
theorem sortI_perm (g : List Int) : (sortI g).Perm g := List.mergeSort_perm _ _
theorem sortI_length (g : List Int) : (sortI g).length = g.length := (sortI_perm g).length_eq
theorem sortI_pw (g : List Int) : (sortI g).Pairwise (fun x y => x ≤ y) := by
  have := List.pairwise_mergeSort (le := fun x y : Int => decide (x ≤ y)) (fun a b c h1 h2 => by simp at *; omega) (fun a b => by simp; omega) g
  exact this.imp fun h => by simpa using h
theorem isl_oneZ {β : Bl} {n : Nat} {us : List Value} (h : SV.isl β [.ls 0 n] us) : ∃ v, us = [v] ∧ β.g 0 = some v ∧ ∃ a c, v = .slice a n c := by
  match us, h with
  | [v0], ⟨⟨h0, h1⟩, _⟩ => exact ⟨v0, rfl, h0, h1⟩
theorem SortI_any (l : List Int) (hn : l.length ≤ 1000000) : FnM Tryz.prog 89 1 [.ls 0 l.length] [(0, 0, zrI l)] (.tuple #[]) 0 ⟨3, 1, l.length, ziV l⟩ (ziV (sortI l)) := by
  intro w β us base u hH hdom hargs hu hown hbase hap
  obtain ⟨v, rfl, hv0, a0, c0, hv⟩ := isl_oneZ hargs
  rw [hu] at hv0
  cases hv0
  subst hv
  rcases Nat.eq_zero_or_pos l.length with h0 | h0
  · have hl : l = [] := List.eq_nil_of_length_eq_zero h0
    subst hl
    refine (Any.slices_Sort_int_none Tryz.sortI a0 c0 w).mono fun e w' ⟨he, hw⟩ => ?_
    subst hw
    have e0 : ziV (sortI []) = ziV [] := by simp [sortI]
    have hown' := hown
    rw [← e0] at hown'
    exact ⟨he, ⟨⟨rfl, rfl, rfl, Nat.le_refl _, (fun _ _ _ => rfl)⟩, (fun _ _ => rfl), Nat.le_refl _⟩, hown', fun y hy => by simp [sortI, ziV] at hy⟩
  · obtain ⟨hlen, hnil | ⟨g, cap, cur, e1, hg, hgc, hnc, hcm, hcs, htk⟩⟩ := hown
    · have := hnil.2
      dsimp only at this
      omega
    cases e1
    dsimp only at hlen hgc hnc hcs htk
    have hgs : g < w.heap.size := (Array.getElem?_eq_some_iff.1 hgc).1
    have hHold : Go.Sort.Holds (Value.int .i64) w g 0 l.toArray := by
      intro j hj
      have hj' : j < l.length := by simpa using hj
      have h1 : cur[j]? = some (Value.int .i64 (l.toArray[j]!)) := by
        have h2 : (cur.toList.take (l.length * 1))[j]? = (ziV l)[j]? := by rw [htk]
        rw [List.getElem?_take, if_pos (by omega), Array.getElem?_toList] at h2
        rw [h2, getElem!_pos _ j hj]
        simp [ziV, hj']
      constructor
      · simp only [World.cell?, hgc, Nat.zero_add, Option.isSome_none, id]
        exact h1
      · simp [World.frozen?, hgc]
    have hcon := calls_of_every_depth fun D => AnyS.slices_Sort_int_alone Tryz.sortI D g 0 c0 l w hHold hgs (by omega)
    refine Calls.mono (show Calls Tryz.prog 89 _ w _ from hcon) fun e w' ⟨he, n, os, hw⟩ => ?_
    have hml : (sortI l).length = l.length := sortI_length l
    have hw' : w' = grow (putRow (Value.int .i64) (Sort.ahead w n) g 0 (sortI l).toArray) os := hw
    clear hw
    have hsz : (putRow (Value.int .i64) (Sort.ahead w n) g 0 (sortI l).toArray).heap.size = w.heap.size := by rw [size_putRow]; rfl
    have hblk : ∀ k, k < w.heap.size → w'.heap[k]? = (putRow (Value.int .i64) (Sort.ahead w n) g 0 (sortI l).toArray).heap[k]? := fun k hk => by
      rw [hw']
      unfold Sort.grow
      exact Array.getElem?_append_left (by rw [hsz]; exact hk)
    have hself := (hblk g hgs).trans (put_cellsI (w := Sort.ahead w n) (fr := (0, 0)) hgc _)
    refine ⟨he, ⟨⟨?_, ?_, ?_, ?_, ?_⟩, ?_, ?_⟩, ⟨?_, .inr ⟨g, c0, _, rfl, hg, hself, hnc, hcm, ?_, ?_⟩⟩, zi_one _⟩
    · rw [hw']; rfl
    · rw [hw']; rfl
    · rw [hw']; rfl
    · rw [hw', size_grow, hsz]; omega
    · intro k hk hkr
      rw [hblk k hk]
      exact put_otherI (Sort.ahead w n) g _ fun e => hkr (by rw [e]; rfl)
    · intro a ha
      rw [hw', frozen?_grow _ _ _ (by rw [hsz]; exact ha), frozen?_putRow]; rfl
    · rw [hw']; show w.drawn ≤ w.drawn + n; omega
    · rw [ziV_length, hml, Nat.mul_one]
    · rw [putCellsI_size]; exact hcs
    · dsimp only
      rw [Nat.mul_one, ← hml, putCellsI_take _ _ (by rw [hcs, hml]; omega)]
end Go.Proofs.YtclpegneiomakaaGreat

namespace Go.Proofs.YtclpegneiomakaaGreat
open Go.RowKit
theorem zcl_x (n : Nat) : SV.ls 2 (0 + n) = (SV.ls 1 n).ren (renN [(1, 2)]) := by rw [Nat.zero_add]; rfl
theorem zcl_row (e : TypeId) (n : Nat) (xs : List Value) : some (SV.row e 1 (0 + n) ([] ++ xs)) = some (SV.row e 1 n xs) := by rw [Nat.zero_add, List.nil_append]
theorem zcat_x (fr : List Int) : SV.ls 5 (0 + fr.length + 1) = (SV.ls 3 (fr.length + 1)).ren (renN [(3, 5)]) := by rw [Nat.zero_add]; rfl
theorem zcat_row (fr : List Int) (x : Int) : some (SV.row 3 1 (0 + fr.length + 1) ([] ++ ziV fr ++ [.int .i64 x])) = some (SV.row 3 1 (fr.length + 1) (ziV (fr ++ [x]))) := by rw [Nat.zero_add, List.nil_append, ziV_append]; rfl

set_option maxRecDepth 100000 in
theorem cli_path {l : List Int} (h0 : 0 < l.length) (hn : 0 + l.length ≤ 1000000) :
    FnL Tryz.prog 77 1 [.ls 0 l.length] [(0, 0, zrI l)] (.ls 1 l.length) 1 [(1, 0, zrI l)] :=
  fnl_runX 300 [(1, 2)] [.t false]
    (zcl_x l.length) (And.intro (zcl_row 3 l.length (ziV l)) True.intro) (And.intro h0 (And.intro hn True.intro)) (by kernel_rfl)
set_option maxRecDepth 100000 in
theorem cli_e {ad : Addr} {c : Nat} :
    FnL Tryz.prog 77 0 [.pv (.slice (some ad) 0 c)] [] (.ls 0 0) 1 [(0, 0, .row 3 1 0 [])] :=
  fnl_run 300 [(0, 1)] [.k]
     (reflH (renN [(0, 1)]) [(0, 0, .row 3 1 0 [])]) (And.intro (Nat.zero_le _ : 0 + 0 ≤ 1000000) True.intro) (by kernel_rfl)
theorem cli_nil {c : Nat} : Pure Tryz.prog 77 #[.slice none 0 c] (.slice none 0 0) :=
  pure_runZ (args := [.slice none 0 c]) 200 [] (And.intro rfl True.intro) (by kernel_rfl)

set_option maxRecDepth 100000 in
theorem clb_path {l : List Bool} (h0 : 0 < l.length) (hn : 0 + l.length ≤ 1000000) :
    FnL Tryz.prog 106 1 [.ls 0 l.length] [(0, 0, zrB l)] (.ls 1 l.length) 1 [(1, 0, zrB l)] :=
  fnl_runX 300 [(1, 2)] [.t false]
    (zcl_x l.length) (And.intro (zcl_row 4 l.length (zbV l)) True.intro) (And.intro h0 (And.intro hn True.intro)) (by kernel_rfl)
set_option maxRecDepth 100000 in
theorem clb_e {ad : Addr} {c : Nat} :
    FnL Tryz.prog 106 0 [.pv (.slice (some ad) 0 c)] [] (.ls 0 0) 1 [(0, 0, .row 4 1 0 [])] :=
  fnl_run 300 [(0, 1)] [.k]
     (reflH (renN [(0, 1)]) [(0, 0, .row 4 1 0 [])]) (And.intro (Nat.zero_le _ : 0 + 0 ≤ 1000000) True.intro) (by kernel_rfl)
theorem clb_nil {c : Nat} : Pure Tryz.prog 106 #[.slice none 0 c] (.slice none 0 0) :=
  pure_runZ (args := [.slice none 0 c]) 200 [] (And.intro rfl True.intro) (by kernel_rfl)

set_option maxRecDepth 100000 in
theorem wtb_f {l : List Bool} {x : Int} (hin : 0 ≤ x ∧ x < (l.length : Int)) (hl : x.toNat < l.length) (hc : FnL Tryz.prog 106 1 [.ls 0 l.length] [(0, 0, zrB l)] (.ls 1 l.length) 1 [(1, 0, zrB l)]) :
    FnL Tryz.prog 76 1 [.ls 0 l.length, .pv (.int .i64 x), .pv (.bool false)] [(0, 0, zrB l)] (.ls 1 l.length) 1 [(1, 0, .row 4 1 l.length (zbV (l.set x.toNat false)))] :=
  fnl_run 300 [(1, 1)] [.f [0] [.ls 0 l.length] [(0, 0, zrB l)] (.ls 1 l.length) 1 [(1, 0, zrB l)], .w (zbV (l.set x.toNat false))]
     (reflH (renN [(1, 1)]) [(1, 0, .row 4 1 l.length (zbV (l.set x.toNat false)))]) (And.intro hc (And.intro (Eq.refl (List.map (SV.ren (renU [0] 1)) [.ls 0 l.length])) (And.intro (reflH (renU [0] 1) [(0, 0, zrB l)]) (And.intro hin (And.intro (zs_b l x.toNat false hl) (And.intro (zsb_in l x.toNat hl) True.intro)))))) (by kernel_rfl)

set_option maxRecDepth 100000 in
theorem zgrow {z : Int} (h0 : decide (z < 0) = false) (hs : Value.int .i64 (IntKind.i64.wrap (z - 0)) = .int .i64 (z)) (hg : decide (z > 0) = true) (a0 : 0 ≤ z) (a1 : z ≤ 1000000) :
    FnL Tryz.prog 121 0 [.pv (.slice none 0 0), .pv (.int .i64 (z))] [] (.ls 0 0) 1 [(0, 0, .row 3 1 0 [])] :=
  fnl_run 300 [(0, 1)] [.t false, .k, .r (.int .i64 (z)), .t true, .w []]
     (reflH (renN [(0, 1)]) [(0, 0, .row 3 1 0 [])]) (And.intro h0 (And.intro hs (And.intro hg (And.intro a0 (And.intro a1 (And.intro (Int.le_refl (0 : Int)) (And.intro (Nat.zero_le z.toNat) True.intro))))))) (by kernel_rfl)

set_option maxRecDepth 100000 in
theorem zcat {fr : List Int} {x : Int} (q1 : Value.int .i64 (IntKind.i64.wrap ((0 : Int) + (fr.length : Int))) = .int .i64 ((fr.length : Int))) (n1 : decide ((fr.length : Int) < 0) = false) (q2 : Value.int .i64 (IntKind.i64.wrap ((fr.length : Int) + 1)) = .int .i64 (((fr.length + 1 : Nat) : Int))) (n2 : decide (((fr.length + 1 : Nat) : Int) < 0) = false) (hgr : FnL Tryz.prog 121 0 [.pv (.slice none 0 0), .pv (.int .i64 (((fr.length + 1 : Nat) : Int)))] [] (.ls 0 0) 1 [(0, 0, .row 3 1 0 [])]) (a1 : 0 + fr.length ≤ 1000000) (a2 : 0 + fr.length + 1 ≤ 1000000) :
    FnL Tryz.prog 110 3 [.ps 2 0 2 2] [(2, 0, .ls 0 fr.length), (2, 1, .ps 1 0 1 1), (1, 0, .pv (.int .i64 x)), (0, 0, zrI fr)] (.ls 3 (fr.length + 1)) 1 [(3, 0, .row 3 1 (fr.length + 1) (ziV (fr ++ [x])))] :=
  fnl_runX 300 [(3, 5)] [.k, .r (.int .i64 ((fr.length : Int))), .t false, .k, .k, .r (.int .i64 (((fr.length + 1 : Nat) : Int))), .t false, .k, .k, .f [] [.pv (.slice none 0 0), .pv (.int .i64 (((fr.length + 1 : Nat) : Int)))] [] (.ls 0 0) 1 [(0, 0, .row 3 1 0 [])], .k, .k, .k, .k, .k]
    (zcat_x fr) (And.intro (zcat_row fr x) True.intro) (And.intro q1 (And.intro n1 (And.intro q2 (And.intro n2 (And.intro hgr (And.intro (Eq.refl (List.map (SV.ren (renU [] 3)) [.pv (.slice none 0 0), .pv (.int .i64 (((fr.length + 1 : Nat) : Int)))])) (And.intro (reflH (renU [] 3) []) (And.intro a1 (And.intro a2 True.intro))))))))) (by kernel_rfl)

set_option maxRecDepth 100000 in
theorem il_out {u fr : List Int} {b : List Bool} {hi hw : Int} (hh : FnL Tryz.prog 114 3 [.ag [.ls 0 u.length, .ls 1 b.length, .ls 2 fr.length], .pv (.int .i64 (hi))] [(0, 0, zrI u), (1, 0, zrB b), (2, 0, zrI fr)] (.pv (.bool false)) 0 []) :
    FnL Tryz.prog 109 3 [.ag [.ls 0 u.length, .ls 1 b.length, .ls 2 fr.length], .pv (.agg #[.int .i64 hi, .int .i64 hw])] [(0, 0, zrI u), (1, 0, zrB b), (2, 0, zrI fr)] (.pv (.bool false)) 0 [] :=
  fnl_run 300 [] [.f [0,1,2] [.ag [.ls 0 u.length, .ls 1 b.length, .ls 2 fr.length], .pv (.int .i64 (hi))] [(0, 0, zrI u), (1, 0, zrB b), (2, 0, zrI fr)] (.pv (.bool false)) 0 []]
     True.intro (And.intro hh (And.intro (Eq.refl (List.map (SV.ren (renU [0,1,2] 5)) [.ag [.ls 0 u.length, .ls 1 b.length, .ls 2 fr.length], .pv (.int .i64 (hi))])) (And.intro (reflH (renU [0,1,2] 5) [(0, 0, zrI u), (1, 0, zrB b), (2, 0, zrI fr)]) True.intro))) (by kernel_rfl)

set_option maxRecDepth 100000 in
theorem il_free {u fr : List Int} {b : List Bool} {hi hw : Int} (hh : FnL Tryz.prog 114 3 [.ag [.ls 0 u.length, .ls 1 b.length, .ls 2 fr.length], .pv (.int .i64 (hi))] [(0, 0, zrI u), (1, 0, zrB b), (2, 0, zrI fr)] (.pv (.bool true)) 0 []) (hib : 0 ≤ hi ∧ hi < (b.length : Int)) (hb : b[hi.toNat]? = some false) :
    FnL Tryz.prog 109 3 [.ag [.ls 0 u.length, .ls 1 b.length, .ls 2 fr.length], .pv (.agg #[.int .i64 hi, .int .i64 hw])] [(0, 0, zrI u), (1, 0, zrB b), (2, 0, zrI fr)] (.pv (.bool false)) 0 [] :=
  fnl_run 300 [] [.f [0,1,2] [.ag [.ls 0 u.length, .ls 1 b.length, .ls 2 fr.length], .pv (.int .i64 (hi))] [(0, 0, zrI u), (1, 0, zrB b), (2, 0, zrI fr)] (.pv (.bool true)) 0 [], .r (.bool false)]
     True.intro (And.intro hh (And.intro (Eq.refl (List.map (SV.ren (renU [0,1,2] 5)) [.ag [.ls 0 u.length, .ls 1 b.length, .ls 2 fr.length], .pv (.int .i64 (hi))])) (And.intro (reflH (renU [0,1,2] 5) [(0, 0, zrI u), (1, 0, zrB b), (2, 0, zrI fr)]) (And.intro hib (And.intro (za_bz hb) True.intro))))) (by kernel_rfl)

set_option maxRecDepth 100000 in
theorem il_true {u fr : List Int} {b : List Bool} {y hi hw : Int} (hh : FnL Tryz.prog 114 3 [.ag [.ls 0 u.length, .ls 1 b.length, .ls 2 fr.length], .pv (.int .i64 (hi))] [(0, 0, zrI u), (1, 0, zrB b), (2, 0, zrI fr)] (.pv (.bool true)) 0 []) (hib : 0 ≤ hi ∧ hi < (b.length : Int)) (hb : b[hi.toNat]? = some true) (hiu : 0 ≤ hi ∧ hi < (u.length : Int)) (hue : u[hi.toNat]? = some y) (he : (y == hw) = true) :
    FnL Tryz.prog 109 3 [.ag [.ls 0 u.length, .ls 1 b.length, .ls 2 fr.length], .pv (.agg #[.int .i64 hi, .int .i64 hw])] [(0, 0, zrI u), (1, 0, zrB b), (2, 0, zrI fr)] (.pv (.bool true)) 0 [] :=
  fnl_run 300 [] [.f [0,1,2] [.ag [.ls 0 u.length, .ls 1 b.length, .ls 2 fr.length], .pv (.int .i64 (hi))] [(0, 0, zrI u), (1, 0, zrB b), (2, 0, zrI fr)] (.pv (.bool true)) 0 [], .r (.bool true), .r (.int .i64 y), .t true]
     True.intro (And.intro hh (And.intro (Eq.refl (List.map (SV.ren (renU [0,1,2] 5)) [.ag [.ls 0 u.length, .ls 1 b.length, .ls 2 fr.length], .pv (.int .i64 (hi))])) (And.intro (reflH (renU [0,1,2] 5) [(0, 0, zrI u), (1, 0, zrB b), (2, 0, zrI fr)]) (And.intro hib (And.intro (za_bz hb) (And.intro hiu (And.intro (za_iz hue) (And.intro he True.intro)))))))) (by kernel_rfl)

set_option maxRecDepth 100000 in
theorem il_false {u fr : List Int} {b : List Bool} {y hi hw : Int} (hh : FnL Tryz.prog 114 3 [.ag [.ls 0 u.length, .ls 1 b.length, .ls 2 fr.length], .pv (.int .i64 (hi))] [(0, 0, zrI u), (1, 0, zrB b), (2, 0, zrI fr)] (.pv (.bool true)) 0 []) (hib : 0 ≤ hi ∧ hi < (b.length : Int)) (hb : b[hi.toNat]? = some true) (hiu : 0 ≤ hi ∧ hi < (u.length : Int)) (hue : u[hi.toNat]? = some y) (he : (y == hw) = false) :
    FnL Tryz.prog 109 3 [.ag [.ls 0 u.length, .ls 1 b.length, .ls 2 fr.length], .pv (.agg #[.int .i64 hi, .int .i64 hw])] [(0, 0, zrI u), (1, 0, zrB b), (2, 0, zrI fr)] (.pv (.bool false)) 0 [] :=
  fnl_run 300 [] [.f [0,1,2] [.ag [.ls 0 u.length, .ls 1 b.length, .ls 2 fr.length], .pv (.int .i64 (hi))] [(0, 0, zrI u), (1, 0, zrB b), (2, 0, zrI fr)] (.pv (.bool true)) 0 [], .r (.bool true), .r (.int .i64 y), .t false]
     True.intro (And.intro hh (And.intro (Eq.refl (List.map (SV.ren (renU [0,1,2] 5)) [.ag [.ls 0 u.length, .ls 1 b.length, .ls 2 fr.length], .pv (.int .i64 (hi))])) (And.intro (reflH (renU [0,1,2] 5) [(0, 0, zrI u), (1, 0, zrB b), (2, 0, zrI fr)]) (And.intro hib (And.intro (za_bz hb) (And.intro hiu (And.intro (za_iz hue) (And.intro he True.intro)))))))) (by kernel_rfl)

set_option maxRecDepth 100000 in
theorem has_bad {u fr : List Int} {b : List Bool} {hi hw : Int} (hc : FnL Tryz.prog 51 3 [.ag [.ls 0 u.length, .ls 1 b.length, .ls 2 fr.length]] [(0, 0, zrI u), (1, 0, zrB b), (2, 0, zrI fr)] (.pv (.int .i64 (8))) 0 []) (he : ((8 : Int) != 0) = true) :
    FnL Tryz.prog 84 3 [.ag [.ls 0 u.length, .ls 1 b.length, .ls 2 fr.length], .pv (.agg #[.int .i64 hi, .int .i64 hw])] [(0, 0, zrI u), (1, 0, zrB b), (2, 0, zrI fr)] (.pv (.tuple #[.bool false, .int .i64 8])) 0 [] :=
  fnl_run 300 [] [.f [0,1,2] [.ag [.ls 0 u.length, .ls 1 b.length, .ls 2 fr.length]] [(0, 0, zrI u), (1, 0, zrB b), (2, 0, zrI fr)] (.pv (.int .i64 (8))) 0 [], .t true]
     True.intro (And.intro hc (And.intro (Eq.refl (List.map (SV.ren (renU [0,1,2] 5)) [.ag [.ls 0 u.length, .ls 1 b.length, .ls 2 fr.length]])) (And.intro (reflH (renU [0,1,2] 5) [(0, 0, zrI u), (1, 0, zrB b), (2, 0, zrI fr)]) (And.intro he True.intro)))) (by kernel_rfl)

set_option maxRecDepth 100000 in
theorem has_true {u fr : List Int} {b : List Bool} {hi hw : Int} (hc : FnL Tryz.prog 51 3 [.ag [.ls 0 u.length, .ls 1 b.length, .ls 2 fr.length]] [(0, 0, zrI u), (1, 0, zrB b), (2, 0, zrI fr)] (.pv (.int .i64 (0))) 0 []) (hl : FnL Tryz.prog 109 3 [.ag [.ls 0 u.length, .ls 1 b.length, .ls 2 fr.length], .pv (.agg #[.int .i64 hi, .int .i64 hw])] [(0, 0, zrI u), (1, 0, zrB b), (2, 0, zrI fr)] (.pv (.bool true)) 0 []) :
    FnL Tryz.prog 84 3 [.ag [.ls 0 u.length, .ls 1 b.length, .ls 2 fr.length], .pv (.agg #[.int .i64 hi, .int .i64 hw])] [(0, 0, zrI u), (1, 0, zrB b), (2, 0, zrI fr)] (.pv (.tuple #[.bool true, .int .i64 0])) 0 [] :=
  fnl_run 300 [] [.f [0,1,2] [.ag [.ls 0 u.length, .ls 1 b.length, .ls 2 fr.length]] [(0, 0, zrI u), (1, 0, zrB b), (2, 0, zrI fr)] (.pv (.int .i64 (0))) 0 [], .k, .f [0,1,2] [.ag [.ls 0 u.length, .ls 1 b.length, .ls 2 fr.length], .pv (.agg #[.int .i64 hi, .int .i64 hw])] [(0, 0, zrI u), (1, 0, zrB b), (2, 0, zrI fr)] (.pv (.bool true)) 0 []]
     True.intro (And.intro hc (And.intro (Eq.refl (List.map (SV.ren (renU [0,1,2] 5)) [.ag [.ls 0 u.length, .ls 1 b.length, .ls 2 fr.length]])) (And.intro (reflH (renU [0,1,2] 5) [(0, 0, zrI u), (1, 0, zrB b), (2, 0, zrI fr)]) (And.intro hl (And.intro (Eq.refl (List.map (SV.ren (renU [0,1,2] 5)) [.ag [.ls 0 u.length, .ls 1 b.length, .ls 2 fr.length], .pv (.agg #[.int .i64 hi, .int .i64 hw])])) (And.intro (reflH (renU [0,1,2] 5) [(0, 0, zrI u), (1, 0, zrB b), (2, 0, zrI fr)]) True.intro)))))) (by kernel_rfl)

set_option maxRecDepth 100000 in
theorem has_false {u fr : List Int} {b : List Bool} {hi hw : Int} (hc : FnL Tryz.prog 51 3 [.ag [.ls 0 u.length, .ls 1 b.length, .ls 2 fr.length]] [(0, 0, zrI u), (1, 0, zrB b), (2, 0, zrI fr)] (.pv (.int .i64 (0))) 0 []) (hl : FnL Tryz.prog 109 3 [.ag [.ls 0 u.length, .ls 1 b.length, .ls 2 fr.length], .pv (.agg #[.int .i64 hi, .int .i64 hw])] [(0, 0, zrI u), (1, 0, zrB b), (2, 0, zrI fr)] (.pv (.bool false)) 0 []) :
    FnL Tryz.prog 84 3 [.ag [.ls 0 u.length, .ls 1 b.length, .ls 2 fr.length], .pv (.agg #[.int .i64 hi, .int .i64 hw])] [(0, 0, zrI u), (1, 0, zrB b), (2, 0, zrI fr)] (.pv (.tuple #[.bool false, .int .i64 0])) 0 [] :=
  fnl_run 300 [] [.f [0,1,2] [.ag [.ls 0 u.length, .ls 1 b.length, .ls 2 fr.length]] [(0, 0, zrI u), (1, 0, zrB b), (2, 0, zrI fr)] (.pv (.int .i64 (0))) 0 [], .k, .f [0,1,2] [.ag [.ls 0 u.length, .ls 1 b.length, .ls 2 fr.length], .pv (.agg #[.int .i64 hi, .int .i64 hw])] [(0, 0, zrI u), (1, 0, zrB b), (2, 0, zrI fr)] (.pv (.bool false)) 0 []]
     True.intro (And.intro hc (And.intro (Eq.refl (List.map (SV.ren (renU [0,1,2] 5)) [.ag [.ls 0 u.length, .ls 1 b.length, .ls 2 fr.length]])) (And.intro (reflH (renU [0,1,2] 5) [(0, 0, zrI u), (1, 0, zrB b), (2, 0, zrI fr)]) (And.intro hl (And.intro (Eq.refl (List.map (SV.ren (renU [0,1,2] 5)) [.ag [.ls 0 u.length, .ls 1 b.length, .ls 2 fr.length], .pv (.agg #[.int .i64 hi, .int .i64 hw])])) (And.intro (reflH (renU [0,1,2] 5) [(0, 0, zrI u), (1, 0, zrB b), (2, 0, zrI fr)]) True.intro)))))) (by kernel_rfl)

set_option maxRecDepth 100000 in
theorem gv_ok {u fr : List Int} {b : List Bool} {hi hw : Int} (hc : FnL Tryz.prog 51 3 [.ag [.ls 0 u.length, .ls 1 b.length, .ls 2 fr.length]] [(0, 0, zrI u), (1, 0, zrB b), (2, 0, zrI fr)] (.pv (.int .i64 (0))) 0 []) (hl : FnL Tryz.prog 109 3 [.ag [.ls 0 u.length, .ls 1 b.length, .ls 2 fr.length], .pv (.agg #[.int .i64 hi, .int .i64 hw])] [(0, 0, zrI u), (1, 0, zrB b), (2, 0, zrI fr)] (.pv (.bool true)) 0 []) (w1 : FnL Tryz.prog 77 1 [.ls 0 u.length] [(0, 0, zrI u)] (.ls 1 u.length) 1 [(1, 0, zrI u)]) (w2 : FnL Tryz.prog 76 1 [.ls 0 b.length, .pv (.int .i64 hi), .pv (.bool false)] [(0, 0, zrB b)] (.ls 1 b.length) 1 [(1, 0, .row 4 1 b.length (zbV (b.set hi.toNat false)))]) (w3 : FnL Tryz.prog 110 3 [.ps 2 0 2 2] [(2, 0, .ls 0 fr.length), (2, 1, .ps 1 0 1 1), (1, 0, .pv (.int .i64 hi)), (0, 0, zrI fr)] (.ls 3 (fr.length + 1)) 1 [(3, 0, .row 3 1 (fr.length + 1) (ziV (fr ++ [hi])))]) :
    FnL Tryz.prog 81 3 [.ag [.ls 0 u.length, .ls 1 b.length, .ls 2 fr.length], .pv (.agg #[.int .i64 hi, .int .i64 hw])] [(0, 0, zrI u), (1, 0, zrB b), (2, 0, zrI fr)] (.tu [.ag [.ls 3 u.length, .ls 4 b.length, .ls 5 (fr.length + 1)], .one (.pv (.int .i64 0))]) 3 [(3, 0, .row 3 1 u.length (ziV (u))), (4, 0, .row 4 1 b.length (zbV (b.set hi.toNat false))), (5, 0, .row 3 1 (fr.length + 1) (ziV (fr ++ [hi])))] :=
  fnl_run 300 [(3, 6), (4, 7), (5, 10)] [.f [0,1,2] [.ag [.ls 0 u.length, .ls 1 b.length, .ls 2 fr.length]] [(0, 0, zrI u), (1, 0, zrB b), (2, 0, zrI fr)] (.pv (.int .i64 (0))) 0 [], .k, .f [0,1,2] [.ag [.ls 0 u.length, .ls 1 b.length, .ls 2 fr.length], .pv (.agg #[.int .i64 hi, .int .i64 hw])] [(0, 0, zrI u), (1, 0, zrB b), (2, 0, zrI fr)] (.pv (.bool true)) 0 [], .k, .md, .f [0] [.ls 0 u.length] [(0, 0, zrI u)] (.ls 1 u.length) 1 [(1, 0, zrI u)], .f [1] [.ls 0 b.length, .pv (.int .i64 hi), .pv (.bool false)] [(0, 0, zrB b)] (.ls 1 b.length) 1 [(1, 0, .row 4 1 b.length (zbV (b.set hi.toNat false)))], .f [2,8,9] [.ps 2 0 2 2] [(2, 0, .ls 0 fr.length), (2, 1, .ps 1 0 1 1), (1, 0, .pv (.int .i64 hi)), (0, 0, zrI fr)] (.ls 3 (fr.length + 1)) 1 [(3, 0, .row 3 1 (fr.length + 1) (ziV (fr ++ [hi])))]]
     (reflH (renN [(3, 6), (4, 7), (5, 10)]) [(3, 0, .row 3 1 u.length (ziV (u))), (4, 0, .row 4 1 b.length (zbV (b.set hi.toNat false))), (5, 0, .row 3 1 (fr.length + 1) (ziV (fr ++ [hi])))]) (And.intro hc (And.intro (Eq.refl (List.map (SV.ren (renU [0,1,2] 6)) [.ag [.ls 0 u.length, .ls 1 b.length, .ls 2 fr.length]])) (And.intro (reflH (renU [0,1,2] 6) [(0, 0, zrI u), (1, 0, zrB b), (2, 0, zrI fr)]) (And.intro hl (And.intro (Eq.refl (List.map (SV.ren (renU [0,1,2] 6)) [.ag [.ls 0 u.length, .ls 1 b.length, .ls 2 fr.length], .pv (.agg #[.int .i64 hi, .int .i64 hw])])) (And.intro (reflH (renU [0,1,2] 6) [(0, 0, zrI u), (1, 0, zrB b), (2, 0, zrI fr)]) (And.intro w1 (And.intro (Eq.refl (List.map (SV.ren (renU [0] 6)) [.ls 0 u.length])) (And.intro (reflH (renU [0] 6) [(0, 0, zrI u)]) (And.intro w2 (And.intro (Eq.refl (List.map (SV.ren (renU [1] 7)) [.ls 0 b.length, .pv (.int .i64 hi), .pv (.bool false)])) (And.intro (reflH (renU [1] 7) [(0, 0, zrB b)]) (And.intro w3 (And.intro (Eq.refl (List.map (SV.ren (renU [2,8,9] 10)) [.ps 2 0 2 2])) (And.intro (reflH (renU [2,8,9] 10) [(2, 0, .ls 0 fr.length), (2, 1, .ps 1 0 1 1), (1, 0, .pv (.int .i64 hi)), (0, 0, zrI fr)]) True.intro))))))))))))))) (by kernel_rfl)

end Go.Proofs.YtclpegneiomakaaGreat
