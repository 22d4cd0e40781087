/-
  Package slot's Check: it tells a table valid just if it is. Conditions: none.
-/
import Derived.Test.YtclpegneiomakaaGreatZb
namespace Go.Proofs.YtclpegneiomakaaGreat
open Go.RowKit
abbrev slA (u : List Int) (b : List Bool) (f : List Int) : SV := .ag [.ls 0 u.length, .ls 1 b.length, .ls 2 f.length]
abbrev slP (u : List Int) (b : List Bool) (f : List Int) : List (Nat × Nat × SV) := [(0, 0, zrI u), (1, 0, zrB b), (2, 0, zrI f)]
section
variable {u f : List Int} {b : List Bool}
theorem HasSlot_any (x : Int) : FnL Tryz.prog 114 3 [slA u b f, .pv (.int .i64 x)] (slP u b f) (.pv (.bool (decide (0 ≤ x) && decide (x < (b.length : Int))))) 0 [] := by
  by_cases h1 : 0 ≤ x
  · by_cases h2 : x < (b.length : Int)
    · have := hasl_ok (u := u) (fr := f) (b := b) (x := x) (by simpa using h1) (by simpa using h2)
      simpa [h1, h2] using this
    · have := hasl_hi (u := u) (fr := f) (b := b) (x := x) (by simpa using h1) (by simpa using h2)
      simpa [h1, h2] using this
  · have := hasl_lo (u := u) (fr := f) (b := b) (x := x) (by simpa using h1)
    simpa [h1] using this
abbrev ufT (b : List Bool) (k : Nat) : List (Nat × SV) := [(1, .pp 3 0), (7, .ls 1 b.length), (8, .pv (.int .i64 (b.length : Int))), (9, .pv (.int .i64 (k : Int)))]
abbrev ufH (u : List Int) (b : List Bool) (f : List Int) : List (Nat × Nat × SV) := [(3, 0, .ls 0 u.length), (3, 1, .ls 1 b.length), (3, 2, .ls 2 f.length), (0, 0, zrI u), (1, 0, zrB b), (2, 0, zrI f)]
theorem usesFit_loop (hl : b.length = u.length) (hn : b.length ≤ 1000000) : ∀ (d k : Nat), k + d = b.length →
    ((∀ (j : Nat) (x : Int) (c : Bool), k ≤ j → u[j]? = some x → b[j]? = some c → (if c = true then 1 else 0) ≤ x ∧ x ≤ 1000000) → RunsL Tryz.prog 3 3 (loopOf Tryz.prog 86 0) 31 4 (ufT b k) (ufH u b f) (.exit 0) [] []) ∧
    (¬ (∀ (j : Nat) (x : Int) (c : Bool), k ≤ j → u[j]? = some x → b[j]? = some c → (if c = true then 1 else 0) ≤ x ∧ x ≤ 1000000) → RunsL Tryz.prog 3 3 (loopOf Tryz.prog 86 0) 31 4 (ufT b k) (ufH u b f) .ret [(2, .pv (.bool false))] [])
  | 0, k, h => by
    refine ⟨fun _ => uf_end (by simp; omega), fun hno => (hno fun j x c hj hx hc => ?_).elim⟩
    have := (List.getElem?_eq_some_iff.1 hc).1
    omega
  | d + 1, k, h => by
    have hk : k < b.length := by omega
    have hku : k < u.length := by omega
    obtain ⟨y, hy⟩ : ∃ y, u[k]? = some y := ⟨_, List.getElem?_eq_getElem hku⟩
    obtain ⟨c, hc⟩ : ∃ c, b[k]? = some c := ⟨_, List.getElem?_eq_getElem hk⟩
    obtain ⟨ih1, ih2⟩ := usesFit_loop hl hn d (k + 1) (by omega)
    have i1 : 0 ≤ (k : Int) ∧ (k : Int) < (b.length : Int) := by omega
    have i2 : 0 ≤ (k : Int) ∧ (k : Int) < (u.length : Int) := by omega
    have lt : decide ((k : Int) < (b.length : Int)) = true := by simp; omega
    have hs := z_succ (k := k) (by omega)
    have split : (∀ (j : Nat) (x : Int) (c : Bool), k ≤ j → u[j]? = some x → b[j]? = some c → (if c = true then 1 else 0) ≤ x ∧ x ≤ 1000000) ↔ ((if c = true then 1 else 0) ≤ y ∧ y ≤ 1000000) ∧ (∀ (j : Nat) (x : Int) (c : Bool), k + 1 ≤ j → u[j]? = some x → b[j]? = some c → (if c = true then 1 else 0) ≤ x ∧ x ≤ 1000000) := by
      constructor
      · intro H
        exact ⟨H k y c (Nat.le_refl _) hy hc, fun j x c' hj => H j x c' (by omega)⟩
      · rintro ⟨H1, H2⟩ j x c' hj hx hc'
        by_cases e : j = k
        · subst e
          rw [hy] at hx; rw [hc] at hc'
          cases hx; cases hc'
          exact H1
        · exact H2 j x c' (by omega) hx hc'
    by_cases h1 : (if c = true then (1 : Int) else 0) ≤ y
    · by_cases h2 : y ≤ 1000000
      · have hi : decide (y > 1000000) = false := by simp; omega
        have go : ∀ {e : Exit} {tm2 : List (Nat × SV)} {hp2 : List (Nat × Nat × SV)}, RunsL Tryz.prog 3 3 (loopOf Tryz.prog 86 0) 31 4 (ufT b (k + 1)) (ufH u b f) e tm2 hp2 → RunsL Tryz.prog 3 3 (loopOf Tryz.prog 86 0) 31 4 (ufT b k) (ufH u b f) e tm2 hp2 := fun r => by
          cases c with
          | true => exact uf_next_true hc hy i1 i2 lt (by simp at h1 ⊢; omega) hi hs r
          | false => exact uf_next_false hc hy i1 i2 lt (by simp at h1 ⊢; omega) hi hs r
        exact ⟨fun H => go (ih1 (split.1 H).2), fun H => go (ih2 fun H2 => H (split.2 ⟨⟨h1, h2⟩, H2⟩))⟩
      · have hi : decide (y > 1000000) = true := by simp; omega
        refine ⟨fun H => (h2 (split.1 H).1.2).elim, fun _ => ?_⟩
        cases c with
        | true => exact uf_hi_true hc hy i1 i2 lt (by simp at h1 ⊢; omega) hi
        | false => exact uf_hi_false hc hy i1 i2 lt (by simp at h1 ⊢; omega) hi
    · refine ⟨fun H => (h1 (split.1 H).1.1).elim, fun _ => ?_⟩
      cases c with
      | true => exact uf_lo_true hc hy i1 i2 lt (by simp at h1 ⊢; omega)
      | false => exact uf_lo_false hc hy i1 i2 lt (by simp at h1 ⊢; omega)
theorem UsesFit_any (hl : b.length = u.length) (hn : b.length ≤ 1000000) : FnL Tryz.prog 86 3 [slA u b f] (slP u b f) (.pv (.bool (useB u b))) 0 [] := by
  obtain ⟨h1, h2⟩ := usesFit_loop (f := f) hl hn b.length 0 (by omega)
  cases e : useB u b
  · exact uf_no (h2 fun H => by rw [(useB_iff hl).2 fun k x c => H k x c (by omega)] at e; cases e)
  · have H := (useB_iff hl).1 e
    exact uf_yes (h1 fun j x c _ => H j x c)

abbrev ffT (b : List Bool) (k : Nat) : List (Nat × SV) := [(1, .pp 3 0), (3, .pp 5 0), (12, .ls 1 b.length), (13, .pv (.int .i64 (b.length : Int))), (14, .pv (.int .i64 (k : Int)))]
abbrev ffH (u : List Int) (b : List Bool) (f : List Int) (g : List Bool) : List (Nat × Nat × SV) := [(3, 0, .ls 0 u.length), (3, 1, .ls 1 b.length), (3, 2, .ls 2 f.length), (5, 0, .ls 4 b.length), (0, 0, zrI u), (1, 0, zrB b), (2, 0, zrI f), (4, 0, .row 4 1 b.length (zbV g))]
abbrev ffG (b : List Bool) (k : Nat) : List Bool := (b.map not).take k ++ List.replicate (b.length - k) false
theorem ffG_next {k : Nat} {c : Bool} (hc : b[k]? = some c) : (ffG b k).set k (!c) = ffG b (k + 1) := by
  have hk := (List.getElem?_eq_some_iff.1 hc).1
  unfold ffG
  rw [List.set_append_right _ _ (by simp; omega), List.length_take, List.length_map, show min k b.length = k by omega, Nat.sub_self, show b.length - k = (b.length - (k + 1)) + 1 by omega, List.replicate_succ, List.set_cons_zero, List.take_add_one, List.getElem?_map, hc]
  simp
theorem freeFits_loop0 (hn : b.length ≤ 1000000) : RunsL Tryz.prog 3 3 (loopOf Tryz.prog 87 0) 36 6 (ffT b 0) (ffH u b f (List.replicate b.length false)) (.exit 0) [(1, .pp 3 0), (3, .pp 5 0)] (ffH u b f (b.map not)) := by
  have e0 : List.replicate b.length false = ffG b 0 := by simp [ffG]
  have e1 : b.map not = ffG b b.length := by unfold ffG; rw [List.take_of_length_le (by simp)]; simp
  rw [e0, e1]
  refine RunsL.roundsZ (fun k => ffT b k) (fun k => ffH u b f (ffG b k)) b.length 0 (by omega) (fun k _ hk r => ?_) (ff_end (by simp))
  obtain ⟨c, hc⟩ : ∃ c, b[k]? = some c := ⟨_, List.getElem?_eq_getElem hk⟩
  have hg : k < (ffG b k).length := by simp [ffG]; omega
  have lt : decide ((k : Int) < (b.length : Int)) = true := by simp; omega
  rw [← ffG_next hc] at r
  cases c with
  | true => exact ff_next_true hc (by omega) hg lt (z_succ (by omega)) r
  | false => exact ff_next_false hc (by omega) hg lt (z_succ (by omega)) r
abbrev fxT (f : List Int) (k : Nat) : List (Nat × SV) := [(0, .ls 2 f.length), (1, .pc 113 [.pp 3 0, .pp 5 0]), (7, .pv (.int .i64 (f.length : Int))), (8, .pv (.int .i64 (k : Int)))]
theorem freeFits_loop1 (hf : f.length ≤ 1000000) : ∀ (d k : Nat) (g : List Bool), k + d = f.length → g.length = b.length →
    (∀ g', strike g (f.drop k) = some g' → RunsL Tryz.prog 3 6 (loopOf Tryz.prog 123 0) 19 6 (fxT f k) (ffH u b f g) (.exit 0) [] (ffH u b f g')) ∧
    (strike g (f.drop k) = none → ∃ (j : Nat) (g' : List Bool), RunsL Tryz.prog 3 6 (loopOf Tryz.prog 123 0) 19 6 (fxT f k) (ffH u b f g) .ret [(4, .pv (.int .i64 (j : Int)))] (ffH u b f g'))
  | 0, k, g, h, hg => by
    have e : f.drop k = [] := List.drop_eq_nil_iff.2 (by omega)
    rw [e]
    refine ⟨fun g' h' => ?_, fun h' => (by cases h')⟩
    cases h'
    exact ix_end (by simp; omega)
  | d + 1, k, g, h, hg => by
    have hk : k < f.length := by omega
    obtain ⟨x, hx⟩ : ∃ x, f[k]? = some x := ⟨_, List.getElem?_eq_getElem hk⟩
    have e : f.drop k = x :: f.drop (k + 1) := by
      rw [List.drop_eq_getElem_cons hk]
      rw [List.getElem?_eq_getElem hk] at hx
      cases hx; rfl
    have i1 : 0 ≤ (k : Int) ∧ (k : Int) < (f.length : Int) := by omega
    have lt : decide ((k : Int) < (f.length : Int)) = true := by simp; omega
    rw [e]
    unfold strike
    by_cases hin : 0 ≤ x ∧ x < (b.length : Int)
    · have hhs : FnL Tryz.prog 114 3 [slA u b f, .pv (.int .i64 x)] (slP u b f) (.pv (.bool true)) 0 [] := by
        have := HasSlot_any (u := u) (f := f) (b := b) x
        simpa [hin.1, hin.2] using this
      have hxl : x.toNat < g.length := by omega
      obtain ⟨c, hc⟩ : ∃ c, g[x.toNat]? = some c := ⟨_, List.getElem?_eq_getElem hxl⟩
      cases c with
      | true =>
        rw [if_pos ⟨hin.1, by omega, hc⟩]
        obtain ⟨i3, i4⟩ := freeFits_loop1 hf d (k + 1) (g.set x.toNat false) (by omega) (by rw [List.length_set]; exact hg)
        have go : ∀ {e : Exit} {tm2 : List (Nat × SV)} {hp2 : List (Nat × Nat × SV)}, RunsL Tryz.prog 3 6 (loopOf Tryz.prog 123 0) 19 6 (fxT f (k + 1)) (ffH u b f (g.set x.toNat false)) e tm2 hp2 → RunsL Tryz.prog 3 6 (loopOf Tryz.prog 123 0) 19 6 (fxT f k) (ffH u b f g) e tm2 hp2 := fun r =>
          ix_next hx i1 lt hhs hc hin hxl (z_succ (by omega)) r
        refine ⟨fun g' h' => go (i3 g' h'), fun h' => ?_⟩
        obtain ⟨j, g', r⟩ := i4 h'
        exact ⟨j, g', go r⟩
      | false =>
        rw [if_neg (fun h' => by rw [hc] at h'; cases h'.2.2)]
        exact ⟨fun g' h' => (by cases h'), fun _ => ⟨k, g, ix_gone hx i1 lt hhs hc hin⟩⟩
    · rw [if_neg (fun h' => hin ⟨h'.1, by omega⟩)]
      have hhs : FnL Tryz.prog 114 3 [slA u b f, .pv (.int .i64 x)] (slP u b f) (.pv (.bool false)) 0 [] := by
        have := HasSlot_any (u := u) (f := f) (b := b) x
        have e : (decide (0 ≤ x) && decide (x < (b.length : Int))) = false := by
          rw [Bool.and_eq_false_iff]
          by_cases h0 : 0 ≤ x
          · right; simp; omega
          · left; simpa using h0
        rw [e] at this
        exact this
      exact ⟨fun g' h' => (by cases h'), fun _ => ⟨k, g, ix_out hx i1 lt hhs⟩⟩
theorem contains_loop {g : List Bool} (hn : g.length ≤ 1000000) : ∀ (d k : Nat), k + d = g.length →
    (true ∉ g.drop k → RunsL Tryz.prog 1 1 (loopOf Tryz.prog 124 0) 19 1 [(0, .ls 0 g.length), (1, .pv (.bool true)), (7, .pv (.int .i64 (g.length : Int))), (8, .pv (.int .i64 (k : Int)))] [(0, 0, zrB g)] (.exit 0) [] []) ∧
    (true ∈ g.drop k → ∃ j : Nat, RunsL Tryz.prog 1 1 (loopOf Tryz.prog 124 0) 19 1 [(0, .ls 0 g.length), (1, .pv (.bool true)), (7, .pv (.int .i64 (g.length : Int))), (8, .pv (.int .i64 (k : Int)))] [(0, 0, zrB g)] .ret [(4, .pv (.int .i64 (j : Int)))] [])
  | 0, k, h => by
    have e : g.drop k = [] := List.drop_eq_nil_iff.2 (by omega)
    rw [e]
    exact ⟨fun _ => ib_end (by simp; omega), fun h => by cases h⟩
  | d + 1, k, h => by
    have hk : k < g.length := by omega
    obtain ⟨c, hc⟩ : ∃ c, g[k]? = some c := ⟨_, List.getElem?_eq_getElem hk⟩
    have e : g.drop k = c :: g.drop (k + 1) := by
      rw [List.drop_eq_getElem_cons hk]
      rw [List.getElem?_eq_getElem hk] at hc
      cases hc; rfl
    have i1 : 0 ≤ (k : Int) ∧ (k : Int) < (g.length : Int) := by omega
    have lt : decide ((k : Int) < (g.length : Int)) = true := by simp; omega
    obtain ⟨i3, i4⟩ := contains_loop hn d (k + 1) (by omega)
    rw [e]
    cases c with
    | true => exact ⟨fun h => (h List.mem_cons_self).elim, fun _ => ⟨k, ib_true hc i1 lt⟩⟩
    | false =>
      refine ⟨fun h => ib_false hc i1 lt (z_succ (by omega)) (i3 fun hm => h (List.mem_cons_of_mem _ hm)), fun hm => ?_⟩
      rcases List.mem_cons.1 hm with h | h
      · cases h
      · obtain ⟨j, r⟩ := i4 h
        exact ⟨j, ib_false hc i1 lt (z_succ (by omega)) r⟩
theorem Contains_any {g : List Bool} (hn : g.length ≤ 1000000) : FnL Tryz.prog 116 1 [.ls 0 g.length, .pv (.bool true)] [(0, 0, zrB g)] (.pv (.bool (g.contains true))) 0 [] := by
  obtain ⟨h1, h2⟩ := contains_loop hn g.length 0 (by omega)
  rw [List.drop_zero] at h1 h2
  by_cases hm : true ∈ g
  · obtain ⟨j, r⟩ := h2 hm
    have e : g.contains true = true := by simpa using hm
    rw [e]
    exact cb_yes r (by simp)
  · have e : g.contains true = false := by simpa using hm
    rw [e]
    exact cb_no (h1 hm)
theorem FreeFits_any (hn : b.length ≤ 1000000) (hf : f.length ≤ 1000000) : FnL Tryz.prog 87 3 [slA u b f] (slP u b f) (.pv (.bool (freeB b f))) 0 [] := by
  have r0 := freeFits_loop0 (u := u) (f := f) hn
  obtain ⟨h1, h2⟩ := freeFits_loop1 (u := u) (b := b) hf f.length 0 (b.map not) (by omega) (by simp)
  rw [List.drop_zero] at h1 h2
  unfold freeB
  split
  · rename_i g hg
    have hl : g.length = b.length := by rw [strike_len hg, List.length_map]
    have hc := Contains_any (g := g) (by omega)
    simp only [zrB] at hc
    rw [hl] at hc
    cases e : g.contains true
    · rw [e] at hc
      exact ff_ok (by omega) (by omega) r0 (h1 g hg) hl hc
    · rw [e] at hc
      exact ff_left (by omega) (by omega) r0 (h1 g hg) hl hc
  · rename_i hg
    obtain ⟨j, g', r⟩ := h2 hg
    exact ff_wrong (by omega) (by omega) r0 r (by simp)
/-- **Check, of whatever table.** -/
theorem SCheck_any (hf : f.length ≤ 1000000) : FnL Tryz.prog 51 3 [slA u b f] (slP u b f) (.pv (.int .i64 (if validB u b f = true then 0 else 8))) 0 [] := by
  by_cases h1 : 1 ≤ u.length
  · by_cases h2 : u.length ≤ 200
    · have hz : Pure Tryz.prog 68 #[.int .i64 (u.length : Int)] (.bool true) := isz_ok (by simp; omega) (by simp; omega)
      by_cases h3 : b.length = u.length
      · have hl : (!((b.length : Int) == (u.length : Int))) = false := by simp; omega
        have hu := UsesFit_any (f := f) h3 (by omega)
        have hfr := FreeFits_any (u := u) (b := b) (f := f) (by omega) hf
        cases e1 : useB u b
        · rw [e1] at hu
          rw [if_neg (by unfold validB; simp [e1])]
          exact ck_use hz hl hu
        · rw [e1] at hu
          cases e2 : freeB b f
          · rw [e2] at hfr
            rw [if_neg (by unfold validB; simp [e2])]
            exact ck_free hz hl hu hfr
          · rw [e2] at hfr
            rw [if_pos (by unfold validB; simp [h1, h2, h3, e1, e2])]
            exact ck_ok hz hl hu hfr
      · rw [if_neg (by unfold validB; simp [h3])]
        exact ck_len hz (by simp; omega)
    · rw [if_neg (by unfold validB; simp [h2])]
      exact ck_size (isz_hi (by simp; omega) (by simp; omega))
  · rw [if_neg (by unfold validB; simp [h1])]
    exact ck_size (isz_lo (by simp; omega))
end
end Go.Proofs.YtclpegneiomakaaGreat
