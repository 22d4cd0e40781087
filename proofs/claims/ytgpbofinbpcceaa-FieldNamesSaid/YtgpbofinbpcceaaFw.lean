/-
  The chapter's field, and that its examples hold. Conditions: none.
-/
import Derived.Test.YtgpbofinbpcceaaFu
namespace Go.Proofs.Ytgpbofinbpcceaa
open Go.RowKit
abbrev GF : List Pt := [⟨1, 0, 2⟩, ⟨2, 6, -1⟩, ⟨5, 0, 0⟩]
abbrev cellsG : List (Nat × Nat × SV) := [(0, 0, .pv (.int .i64 1)), (0, 1, .pv (.int .i64 0)), (0, 2, .pv (.int .i64 2)), (0, 3, .pv (.int .i64 2)), (0, 4, .pv (.int .i64 6)), (0, 5, .pv (.int .i64 (-1))), (0, 6, .pv (.int .i64 5)), (0, 7, .pv (.int .i64 0)), (0, 8, .pv (.int .i64 0))]
set_option maxRecDepth 100000 in
theorem given_path : FnL Try.prog 20 0 [] [] (.ag [.ps 0 0 3 3]) 1 cellsG :=
  fnl_run 300 [(0, 1)] [] (reflH (renN [(0, 1)]) cellsG) True.intro (by kernel_rfl)
theorem at_path (n : Int) : Pure Try.prog 19 #[.int .i64 n] (ratioV n 1) :=
  pure_run (args := [.int .i64 n]) 200 [] (And.intro rfl True.intro) (by kernel_rfl)

theorem G_rd {W : World} {β : Bl} {r : Nat} (H : HRel W 1 β cellsG W) (hb : β 0 = some r) : Rd W 3 (.slice (some ⟨r, 0, none⟩) 3 3) 3 (ptsV GF) := by
  have c : ∀ (j : Nat) (v : Value), lookH cellsG 0 j = some (.pv v) → W.cell? ⟨r, 0 + j, none⟩ = some v := fun j v hj => by
    obtain ⟨r', u, h1, h2, _, h3, _⟩ := H.cells 0 j (.pv v) hj rfl
    rw [hb] at h1
    cases h1
    cases h2
    rw [Nat.zero_add]; exact h3
  refine ⟨rfl, some ⟨r, 0, none⟩, 3, rfl, Nat.le_refl _, fun j v hj => ⟨r, 0, rfl, c j v ?_⟩⟩
  match j, hj with
  | 0, hj => cases hj; rfl
  | 1, hj => cases hj; rfl
  | 2, hj => cases hj; rfl
  | 3, hj => cases hj; rfl
  | 4, hj => cases hj; rfl
  | 5, hj => cases hj; rfl
  | 6, hj => cases hj; rfl
  | 7, hj => cases hj; rfl
  | 8, hj => cases hj; rfl
  | j + 9, hj => simp [ptsV] at hj
theorem no_rel {W w' : World} {β : Bl} {pre : List (Nat × Nat × SV)} (H : HRel W 1 β pre W) (hg : Gr W w') : HRel W 1 β [] w' where
  gr := hg
  live := fun b r h => Nat.lt_of_lt_of_le (H.live b r h) hg.size
  inj := H.inj
  new := H.new
  sep := H.sep
  cells := fun b o sv hl => by cases hl
  rows := fun b o e es n xs hl => by cases hl
  rinj := fun b o e es n xs c o' e' es' n' xs' u v hl => by cases hl
theorem ids_rel {W w' : World} {β : Bl} {pre : List (Nat × Nat × SV)} {u : Value} {e : TypeId} {es n : Nat} {xs : List Value} (H : HRel W 1 β pre W) (hd : β.dom 1) (hg : Gr W w') (ho : w'.ownsRow W.heap.size e es u n xs) (h1 : ∀ v ∈ xs, v.oneCell' = true) :
    HRel W 1 (β.setG 1 u) [(1, 0, .row e es n xs)] w' where
  gr := hg
  live := fun b r h => Nat.lt_of_lt_of_le (H.live b r h) hg.size
  inj := H.inj
  new := fun b r hb h => by
    have h' : β b = some r := h
    rw [(hd b hb).1] at h'; cases h'
  sep := fun b r h => by
    have hb : b ≠ 1 := fun e => by
      subst e
      have h' : β 1 = some r := h
      rw [(hd 1 (Nat.le_refl _)).1] at h'; cases h'
    unfold Bl.setG
    simp only [if_neg hb]
    exact H.sep b r h
  cells := fun b o sv hl hs => by
    simp only [lookH] at hl
    cases hc : (Nat.beq 1 b && Nat.beq 0 o) <;> rw [hc] at hl
    · cases hl
    · cases hl; cases hs
  rows := fun b o e es n xs hl => by
    simp only [lookH] at hl
    cases hc : (Nat.beq 1 b && Nat.beq 0 o) <;> rw [hc] at hl
    · cases hl
    · cases hl
      rw [Bool.and_eq_true] at hc
      have hb : 1 = b := Nat.eq_of_beq_eq_true hc.1
      subst hb
      exact ⟨u, Bl.setG_same β 1 u, owns_rd ho, h1, fun h => by omega, fun _ => ho, fun _ c r hc hu => by
        have h1 := (ownsRow_lt ho r hu).1
        have h2 := H.live c r hc
        omega⟩
  rinj := fun b o e es n xs c o' e' es' n' xs' u v hl hl' h1 h2 hne => by
    simp only [lookH] at hl hl'
    cases hc : (Nat.beq 1 b && Nat.beq 0 o) <;> rw [hc] at hl
    · cases hl
    · cases hc' : (Nat.beq 1 c && Nat.beq 0 o') <;> rw [hc'] at hl'
      · cases hl'
      · rw [Bool.and_eq_true] at hc hc'
        have e1 := Nat.eq_of_beq_eq_true hc.1
        have e2 := Nat.eq_of_beq_eq_true hc'.1
        exact (hne (e1.symm.trans e2)).elim
abbrev argG : SV := .ag [.ps 0 0 3 3]
theorem isl_G {β : Bl} {us vs : List Value} (h : SV.isl β (argG :: vs.map .pv) us) : ∃ r, β 0 = some r ∧ us = .agg #[.slice (some ⟨r, 0, none⟩) 3 3] :: vs := by
  have hvs : ∀ (vs us : List Value), SV.isl β (vs.map .pv) us → us = vs := by
    intro vs
    induction vs with
    | nil => intro us h; cases us with
      | nil => rfl
      | cons _ _ => exact h.elim
    | cons v r ih => intro us h; cases us with
      | nil => exact h.elim
      | cons x y => rw [ih y h.2, h.1]
  match us, h with
  | v :: us', ⟨⟨ws, hw, hv⟩, h2⟩ =>
    match ws, hw with
    | [x], ⟨⟨r, hr, hx⟩, _⟩ => exact ⟨r, hr, by rw [hv, hx, hvs vs us' h2]⟩
theorem ids_one : ∀ (l : List Int) (v : Value), v ∈ idsV l → v.oneCell' = true := by
  intro l v h
  obtain ⟨x, _, rfl⟩ := List.mem_map.1 h
  rfl
/-- A contract over the list by name serves the list in a block: plain results. -/
theorem G_plain {f : FuncId} {vs : List Value} {x : Value} (h : FnL Try.prog f 1 (fldS 0 GF :: vs.map .pv) [(0, 0, rowP GF)] (.pv x) 0 []) : FnL Try.prog f 1 (argG :: vs.map .pv) cellsG (.pv x) 0 [] := by
  intro w β us H hd ha
  obtain ⟨r, hr, rfl⟩ := isl_G ha
  have rd := G_rd H hr
  have hvs : ∀ (β : Bl) (vs : List Value), SV.isl β (vs.map .pv) vs := by
    intro β vs
    induction vs with
    | nil => exact True.intro
    | cons v r ih => exact ⟨rfl, ih⟩
  refine (h w (inB _) (.agg #[.slice (some ⟨r, 0, none⟩) 3 3] :: vs) (in_rel rd) (in_dom _) ⟨in_fld rd, hvs _ _⟩).mono fun e w' ⟨v, β', he, _, hx, hh, _⟩ => ?_
  exact ⟨v, β, he, Bl.le_refl _, hx, no_rel H hh.gr, hd⟩
/-- Results that are a list of IDs. -/
theorem G_ids {f : FuncId} {vs : List Value} {g : List Int} (h : FnL Try.prog f 1 (fldS 0 GF :: vs.map .pv) [(0, 0, rowP GF)] (.tu [.one (.ls 1 3), .one (.pv (.int .i64 0))]) 1 [(1, 0, .row 3 1 3 (idsV g))]) :
    FnL Try.prog f 1 (argG :: vs.map .pv) cellsG (.tu [.one (.ls 1 3), .one (.pv (.int .i64 0))]) 1 [(1, 0, .row 3 1 3 (idsV g))] := by
  intro w β us H hd ha
  obtain ⟨r, hr, rfl⟩ := isl_G ha
  have rd := G_rd H hr
  have hvs : ∀ (β : Bl) (vs : List Value), SV.isl β (vs.map .pv) vs := by
    intro β vs
    induction vs with
    | nil => exact True.intro
    | cons v r ih => exact ⟨rfl, ih⟩
  refine (h w (inB _) (.agg #[.slice (some ⟨r, 0, none⟩) 3 3] :: vs) (in_rel rd) (in_dom _) ⟨in_fld rd, hvs _ _⟩).mono fun e w' ⟨v, β', he, _, hx, hh, _⟩ => ?_
  obtain ⟨ws, hw, hv⟩ := hx
  match ws, hw with
  | [y, z], ⟨⟨hy, a, c, hyv⟩, hz, _⟩ =>
    obtain ⟨u, hu, hrow⟩ := hh.rows 1 0 _ _ _ _ rfl
    rw [hy] at hu
    cases hu
    have hd1 := hd 1 (Nat.le_refl _)
    exact ⟨v, β.setG 1 y, he, Bl.le_setG hd1.1 hd1.2, ⟨[y, z], ⟨⟨Bl.setG_same _ _ _, a, c, hyv⟩, hz, True.intro⟩, hv⟩, ids_rel H hd hh.gr (hrow.own (Nat.le_refl _)) (ids_one g), setG_dom hd⟩

theorem G_val : Val GF where
  len := by decide
  ok := by decide
  up := fun k p q h1 h2 => by
    match k, h1, h2 with
    | 0, h1, h2 => cases h1; cases h2; decide
    | 1, h1, h2 => cases h1; cases h2; decide
    | k + 2, h1, h2 => simp at h2
theorem G_tm {n : Int} (h : 0 ≤ n ∧ n ≤ 100) : Tm n 1 := ⟨⟨by omega, by omega⟩, ⟨by omega, by omega⟩, by unfold okB; simp; omega⟩
theorem G_s0 : Srt GF 0 1 [⟨2, 6, -1⟩, ⟨1, 0, 2⟩, ⟨5, 0, 0⟩] := ⟨List.Perm.swap _ _ _, by decide⟩
theorem G_s2 : Srt GF 2 1 [⟨1, 0, 2⟩, ⟨2, 6, -1⟩, ⟨5, 0, 0⟩] := ⟨List.Perm.refl _, by decide⟩
theorem G_s7 : Srt GF 7 1 [⟨1, 0, 2⟩, ⟨5, 0, 0⟩, ⟨2, 6, -1⟩] := ⟨(List.Perm.swap _ _ _).cons _, by decide⟩
theorem G_o0 : FnL Try.prog 15 1 [argG, .pv (ratioV 0 1)] cellsG (.tu [.one (.ls 1 3), .one (.pv (.int .i64 0))]) 1 [(1, 0, .row 3 1 3 (idsV [2, 1, 5]))] := G_ids (vs := [ratioV 0 1]) (POrder_ok G_val (G_tm (by decide)) G_s0)
theorem G_o2 : FnL Try.prog 15 1 [argG, .pv (ratioV 2 1)] cellsG (.tu [.one (.ls 1 3), .one (.pv (.int .i64 0))]) 1 [(1, 0, .row 3 1 3 (idsV [1, 2, 5]))] := G_ids (vs := [ratioV 2 1]) (POrder_ok G_val (G_tm (by decide)) G_s2)
theorem G_o7 : FnL Try.prog 15 1 [argG, .pv (ratioV 7 1)] cellsG (.tu [.one (.ls 1 3), .one (.pv (.int .i64 0))]) 1 [(1, 0, .row 3 1 3 (idsV [1, 5, 2]))] := G_ids (vs := [ratioV 7 1]) (POrder_ok G_val (G_tm (by decide)) G_s7)
theorem G_r7 : FnL Try.prog 16 1 [argG, .pv (.int .i64 5), .pv (ratioV 7 1)] cellsG (.pv (.tuple #[.int .i64 1, .int .i64 0])) 0 [] := by
  have h := PRank_yes G_val (G_tm (n := 7) (by decide)) (l := GF) (k := 2) (p := ⟨5, 0, 0⟩) rfl
  rw [G_s7.rank (k := 1) (p := ⟨5, 0, 0⟩) rfl] at h
  exact G_plain (vs := [.int .i64 5, ratioV 7 1]) h
set_option maxRecDepth 100000 in
theorem G_sid0  :
    FnL Try.prog 23 2 [.ls 0 3, .ps 1 0 3 3] [(0, 0, .row 3 1 3 (idsV [2, 1, 5])), (1, 0, .pv (.int .i64 2)), (1, 1, .pv (.int .i64 1)), (1, 2, .pv (.int .i64 5))] (.pv (.bool true)) 0 [] :=
  fnl_run 300 [] [.k, .k, .r (.int .i64 2), .k, .k, .k, .r (.int .i64 1), .k, .k, .k, .r (.int .i64 5), .k, .k, .k]
     True.intro (And.intro (show (0 : Int) ≤ 0 ∧ (0 : Int) < 3 from ⟨by decide, by decide⟩) (And.intro (ra_int (l := [2, 1, 5]) (k := 0) rfl) (And.intro (show (0 : Int) ≤ 1 ∧ (1 : Int) < 3 from ⟨by decide, by decide⟩) (And.intro (ra_int (l := [2, 1, 5]) (k := 1) rfl) (And.intro (show (0 : Int) ≤ 2 ∧ (2 : Int) < 3 from ⟨by decide, by decide⟩) (And.intro (ra_int (l := [2, 1, 5]) (k := 2) rfl) True.intro)))))) (by kernel_rfl)

set_option maxRecDepth 100000 in
theorem G_sid2  :
    FnL Try.prog 23 2 [.ls 0 3, .ps 1 0 3 3] [(0, 0, .row 3 1 3 (idsV [1, 2, 5])), (1, 0, .pv (.int .i64 1)), (1, 1, .pv (.int .i64 2)), (1, 2, .pv (.int .i64 5))] (.pv (.bool true)) 0 [] :=
  fnl_run 300 [] [.k, .k, .r (.int .i64 1), .k, .k, .k, .r (.int .i64 2), .k, .k, .k, .r (.int .i64 5), .k, .k, .k]
     True.intro (And.intro (show (0 : Int) ≤ 0 ∧ (0 : Int) < 3 from ⟨by decide, by decide⟩) (And.intro (ra_int (l := [1, 2, 5]) (k := 0) rfl) (And.intro (show (0 : Int) ≤ 1 ∧ (1 : Int) < 3 from ⟨by decide, by decide⟩) (And.intro (ra_int (l := [1, 2, 5]) (k := 1) rfl) (And.intro (show (0 : Int) ≤ 2 ∧ (2 : Int) < 3 from ⟨by decide, by decide⟩) (And.intro (ra_int (l := [1, 2, 5]) (k := 2) rfl) True.intro)))))) (by kernel_rfl)

set_option maxRecDepth 100000 in
theorem G_sid7  :
    FnL Try.prog 23 2 [.ls 0 3, .ps 1 0 3 3] [(0, 0, .row 3 1 3 (idsV [1, 5, 2])), (1, 0, .pv (.int .i64 1)), (1, 1, .pv (.int .i64 5)), (1, 2, .pv (.int .i64 2))] (.pv (.bool true)) 0 [] :=
  fnl_run 300 [] [.k, .k, .r (.int .i64 1), .k, .k, .k, .r (.int .i64 5), .k, .k, .k, .r (.int .i64 2), .k, .k, .k]
     True.intro (And.intro (show (0 : Int) ≤ 0 ∧ (0 : Int) < 3 from ⟨by decide, by decide⟩) (And.intro (ra_int (l := [1, 5, 2]) (k := 0) rfl) (And.intro (show (0 : Int) ≤ 1 ∧ (1 : Int) < 3 from ⟨by decide, by decide⟩) (And.intro (ra_int (l := [1, 5, 2]) (k := 1) rfl) (And.intro (show (0 : Int) ≤ 2 ∧ (2 : Int) < 3 from ⟨by decide, by decide⟩) (And.intro (ra_int (l := [1, 5, 2]) (k := 2) rfl) True.intro)))))) (by kernel_rfl)

set_option maxRecDepth 100000 in
theorem alive_path  :
    FnL Try.prog 21 0 [] [] (.pv (.bool true)) 0 [] :=
  fnl_run 500 [] [.f [] [] [] (.ag [.ps 0 0 3 3]) 1 [(0, 0, .pv (.int .i64 1)), (0, 1, .pv (.int .i64 0)), (0, 2, .pv (.int .i64 2)), (0, 3, .pv (.int .i64 2)), (0, 4, .pv (.int .i64 6)), (0, 5, .pv (.int .i64 (-1))), (0, 6, .pv (.int .i64 5)), (0, 7, .pv (.int .i64 0)), (0, 8, .pv (.int .i64 0))], .r (ratioV 0 1), .f [0] [argG, .pv (ratioV 0 1)] [(0, 0, .pv (.int .i64 1)), (0, 1, .pv (.int .i64 0)), (0, 2, .pv (.int .i64 2)), (0, 3, .pv (.int .i64 2)), (0, 4, .pv (.int .i64 6)), (0, 5, .pv (.int .i64 (-1))), (0, 6, .pv (.int .i64 5)), (0, 7, .pv (.int .i64 0)), (0, 8, .pv (.int .i64 0))] (.tu [.one (.ls 1 3), .one (.pv (.int .i64 0))]) 1 [(1, 0, .row 3 1 3 (idsV [2, 1, 5]))], .f [] [] [] (.ag [.ps 0 0 3 3]) 1 [(0, 0, .pv (.int .i64 1)), (0, 1, .pv (.int .i64 0)), (0, 2, .pv (.int .i64 2)), (0, 3, .pv (.int .i64 2)), (0, 4, .pv (.int .i64 6)), (0, 5, .pv (.int .i64 (-1))), (0, 6, .pv (.int .i64 5)), (0, 7, .pv (.int .i64 0)), (0, 8, .pv (.int .i64 0))], .r (ratioV 2 1), .f [2] [argG, .pv (ratioV 2 1)] [(0, 0, .pv (.int .i64 1)), (0, 1, .pv (.int .i64 0)), (0, 2, .pv (.int .i64 2)), (0, 3, .pv (.int .i64 2)), (0, 4, .pv (.int .i64 6)), (0, 5, .pv (.int .i64 (-1))), (0, 6, .pv (.int .i64 5)), (0, 7, .pv (.int .i64 0)), (0, 8, .pv (.int .i64 0))] (.tu [.one (.ls 1 3), .one (.pv (.int .i64 0))]) 1 [(1, 0, .row 3 1 3 (idsV [1, 2, 5]))], .f [] [] [] (.ag [.ps 0 0 3 3]) 1 [(0, 0, .pv (.int .i64 1)), (0, 1, .pv (.int .i64 0)), (0, 2, .pv (.int .i64 2)), (0, 3, .pv (.int .i64 2)), (0, 4, .pv (.int .i64 6)), (0, 5, .pv (.int .i64 (-1))), (0, 6, .pv (.int .i64 5)), (0, 7, .pv (.int .i64 0)), (0, 8, .pv (.int .i64 0))], .r (ratioV 7 1), .f [4] [argG, .pv (ratioV 7 1)] [(0, 0, .pv (.int .i64 1)), (0, 1, .pv (.int .i64 0)), (0, 2, .pv (.int .i64 2)), (0, 3, .pv (.int .i64 2)), (0, 4, .pv (.int .i64 6)), (0, 5, .pv (.int .i64 (-1))), (0, 6, .pv (.int .i64 5)), (0, 7, .pv (.int .i64 0)), (0, 8, .pv (.int .i64 0))] (.tu [.one (.ls 1 3), .one (.pv (.int .i64 0))]) 1 [(1, 0, .row 3 1 3 (idsV [1, 5, 2]))], .f [] [] [] (.ag [.ps 0 0 3 3]) 1 [(0, 0, .pv (.int .i64 1)), (0, 1, .pv (.int .i64 0)), (0, 2, .pv (.int .i64 2)), (0, 3, .pv (.int .i64 2)), (0, 4, .pv (.int .i64 6)), (0, 5, .pv (.int .i64 (-1))), (0, 6, .pv (.int .i64 5)), (0, 7, .pv (.int .i64 0)), (0, 8, .pv (.int .i64 0))], .r (ratioV 7 1), .f [6] [argG, .pv (.int .i64 5), .pv (ratioV 7 1)] [(0, 0, .pv (.int .i64 1)), (0, 1, .pv (.int .i64 0)), (0, 2, .pv (.int .i64 2)), (0, 3, .pv (.int .i64 2)), (0, 4, .pv (.int .i64 6)), (0, 5, .pv (.int .i64 (-1))), (0, 6, .pv (.int .i64 5)), (0, 7, .pv (.int .i64 0)), (0, 8, .pv (.int .i64 0))] (.pv (.tuple #[.int .i64 1, .int .i64 0])) 0 [], .k, .f [1,7] [.ls 0 3, .ps 1 0 3 3] [(0, 0, .row 3 1 3 (idsV [2, 1, 5])), (1, 0, .pv (.int .i64 2)), (1, 1, .pv (.int .i64 1)), (1, 2, .pv (.int .i64 5))] (.pv (.bool true)) 0 [], .k, .f [3,8] [.ls 0 3, .ps 1 0 3 3] [(0, 0, .row 3 1 3 (idsV [1, 2, 5])), (1, 0, .pv (.int .i64 1)), (1, 1, .pv (.int .i64 2)), (1, 2, .pv (.int .i64 5))] (.pv (.bool true)) 0 [], .k, .f [5,9] [.ls 0 3, .ps 1 0 3 3] [(0, 0, .row 3 1 3 (idsV [1, 5, 2])), (1, 0, .pv (.int .i64 1)), (1, 1, .pv (.int .i64 5)), (1, 2, .pv (.int .i64 2))] (.pv (.bool true)) 0 [], .k, .k]
     True.intro (And.intro given_path (And.intro (Eq.refl (List.map (SV.ren (renU [] 0)) [])) (And.intro (reflH (renU [] 0) []) (And.intro (at_path 0) (And.intro G_o0 (And.intro (Eq.refl (List.map (SV.ren (renU [0] 1)) [argG, .pv (ratioV 0 1)])) (And.intro (reflH (renU [0] 1) [(0, 0, .pv (.int .i64 1)), (0, 1, .pv (.int .i64 0)), (0, 2, .pv (.int .i64 2)), (0, 3, .pv (.int .i64 2)), (0, 4, .pv (.int .i64 6)), (0, 5, .pv (.int .i64 (-1))), (0, 6, .pv (.int .i64 5)), (0, 7, .pv (.int .i64 0)), (0, 8, .pv (.int .i64 0))]) (And.intro given_path (And.intro (Eq.refl (List.map (SV.ren (renU [] 2)) [])) (And.intro (reflH (renU [] 2) []) (And.intro (at_path 2) (And.intro G_o2 (And.intro (Eq.refl (List.map (SV.ren (renU [2] 3)) [argG, .pv (ratioV 2 1)])) (And.intro (reflH (renU [2] 3) [(0, 0, .pv (.int .i64 1)), (0, 1, .pv (.int .i64 0)), (0, 2, .pv (.int .i64 2)), (0, 3, .pv (.int .i64 2)), (0, 4, .pv (.int .i64 6)), (0, 5, .pv (.int .i64 (-1))), (0, 6, .pv (.int .i64 5)), (0, 7, .pv (.int .i64 0)), (0, 8, .pv (.int .i64 0))]) (And.intro given_path (And.intro (Eq.refl (List.map (SV.ren (renU [] 4)) [])) (And.intro (reflH (renU [] 4) []) (And.intro (at_path 7) (And.intro G_o7 (And.intro (Eq.refl (List.map (SV.ren (renU [4] 5)) [argG, .pv (ratioV 7 1)])) (And.intro (reflH (renU [4] 5) [(0, 0, .pv (.int .i64 1)), (0, 1, .pv (.int .i64 0)), (0, 2, .pv (.int .i64 2)), (0, 3, .pv (.int .i64 2)), (0, 4, .pv (.int .i64 6)), (0, 5, .pv (.int .i64 (-1))), (0, 6, .pv (.int .i64 5)), (0, 7, .pv (.int .i64 0)), (0, 8, .pv (.int .i64 0))]) (And.intro given_path (And.intro (Eq.refl (List.map (SV.ren (renU [] 6)) [])) (And.intro (reflH (renU [] 6) []) (And.intro (at_path 7) (And.intro G_r7 (And.intro (Eq.refl (List.map (SV.ren (renU [6] 7)) [argG, .pv (.int .i64 5), .pv (ratioV 7 1)])) (And.intro (reflH (renU [6] 7) [(0, 0, .pv (.int .i64 1)), (0, 1, .pv (.int .i64 0)), (0, 2, .pv (.int .i64 2)), (0, 3, .pv (.int .i64 2)), (0, 4, .pv (.int .i64 6)), (0, 5, .pv (.int .i64 (-1))), (0, 6, .pv (.int .i64 5)), (0, 7, .pv (.int .i64 0)), (0, 8, .pv (.int .i64 0))]) (And.intro G_sid0 (And.intro (Eq.refl (List.map (SV.ren (renU [1,7] 8)) [.ls 0 3, .ps 1 0 3 3])) (And.intro (reflH (renU [1,7] 8) [(0, 0, .row 3 1 3 (idsV [2, 1, 5])), (1, 0, .pv (.int .i64 2)), (1, 1, .pv (.int .i64 1)), (1, 2, .pv (.int .i64 5))]) (And.intro G_sid2 (And.intro (Eq.refl (List.map (SV.ren (renU [3,8] 9)) [.ls 0 3, .ps 1 0 3 3])) (And.intro (reflH (renU [3,8] 9) [(0, 0, .row 3 1 3 (idsV [1, 2, 5])), (1, 0, .pv (.int .i64 1)), (1, 1, .pv (.int .i64 2)), (1, 2, .pv (.int .i64 5))]) (And.intro G_sid7 (And.intro (Eq.refl (List.map (SV.ren (renU [5,9] 10)) [.ls 0 3, .ps 1 0 3 3])) (And.intro (reflH (renU [5,9] 10) [(0, 0, .row 3 1 3 (idsV [1, 5, 2])), (1, 0, .pv (.int .i64 1)), (1, 1, .pv (.int .i64 5)), (1, 2, .pv (.int .i64 2))]) True.intro))))))))))))))))))))))))))))))))))))) (by kernel_rfl)

end Go.Proofs.Ytgpbofinbpcceaa
