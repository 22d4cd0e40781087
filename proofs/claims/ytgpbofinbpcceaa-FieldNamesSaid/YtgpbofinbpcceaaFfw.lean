/-
  What each call of the law FieldNames returns. Conditions: none.
-/
import Derived.Test.YtgpbofinbpcceaaFfv
namespace Go.Proofs.Ytgpbofinbpcceaa
open Go.RowKit

theorem cwp_bad {l : List Pt} {e : Int} (h : errL l = e) (he : (e != 0) = true) (pi pa pb : Int) : FnL Try.prog 44 1 [fldS 0 l, .pv (pointV pi pa pb)] [(0, 0, rowP l)] (.pv (.int .i64 e)) 0 [] := by
  have c := CWP_any l pi pa pb
  rw [if_neg (by rw [h]; intro h0; rw [h0] at he; cases he), h] at c
  exact c
theorem cwt_bad {l : List Pt} {e : Int} (h : errL l = e) (he : (e != 0) = true) {tn td : Int} (hn : I64 tn) (hd : I64 td) : FnL Try.prog 46 1 [fldS 0 l, .pv (ratioV tn td)] [(0, 0, rowP l)] (.pv (.int .i64 e)) 0 [] := by
  have c := CWT_any hn hd l
  have e1 : tE l tn td = e := by unfold tE; rw [if_neg (by rw [h]; intro h0; rw [h0] at he; cases he), h]
  rw [e1] at c
  exact c
section
variable {l : List Pt} {e : Int} (h : errL l = e) (he : (e != 0) = true)
include h he
theorem bad_find : FnL Try.prog 10 1 [fldS 0 l, .pv (.int .i64 2)] [(0, 0, rowP l)] (.pv (.tuple #[pointV 0 0 0, .int .i64 e])) 0 [] := pfind_err (by rw [← h]; exact PCheck_any l) he
theorem bad_put : FnL Try.prog 11 1 [fldS 0 l, .pv (pointV (-1) 0 0)] [(0, 0, rowP l)] (.pv (.tuple #[.agg #[.slice none 0 0], .int .i64 e])) 0 [] := pput_err (cwp_bad h he _ _ _) he
theorem bad_take : FnL Try.prog 12 1 [fldS 0 l, .pv (.int .i64 2)] [(0, 0, rowP l)] (.pv (.tuple #[.agg #[.slice none 0 0], .int .i64 e])) 0 [] := ptake_err (by rw [← h]; exact PCheck_any l) he
theorem bad_change : FnL Try.prog 13 1 [fldS 0 l, .pv (pointV (-1) 0 0)] [(0, 0, rowP l)] (.pv (.tuple #[.agg #[.slice none 0 0], .int .i64 e])) 0 [] := pchange_err (cwp_bad h he _ _ _) he
theorem bad_lead : FnL Try.prog 14 1 [fldS 0 l, .pv (ratioV 0 0)] [(0, 0, rowP l)] (.pv (.tuple #[.int .i64 0, .int .i64 e])) 0 [] := plead_err (cwt_bad h he ⟨by decide, by decide⟩ ⟨by decide, by decide⟩) he
theorem bad_ord : FnL Try.prog 15 1 [fldS 0 l, .pv (ratioV 0 0)] [(0, 0, rowP l)] (.pv (.tuple #[.slice none 0 0, .int .i64 e])) 0 [] := pord_err (cwt_bad h he ⟨by decide, by decide⟩ ⟨by decide, by decide⟩) he
theorem bad_rank : FnL Try.prog 16 1 [fldS 0 l, .pv (.int .i64 2), .pv (ratioV 0 0)] [(0, 0, rowP l)] (.pv (.tuple #[.int .i64 0, .int .i64 e])) 0 [] := prank_err (cwt_bad h he ⟨by decide, by decide⟩ ⟨by decide, by decide⟩) he
omit he in
theorem bad_check : FnL Try.prog 17 1 [fldS 0 l] [(0, 0, rowP l)] (.pv (.int .i64 e)) 0 [] := by rw [← h]; exact PCheck_any l
end
theorem e1_ : errL [⟨-1, 0, 0⟩] = 8 := err_one (by decide)
theorem e2_ : errL [⟨2, 0, 0⟩, ⟨2, 0, 0⟩] = 32 := err_two (by decide) (by decide) (by decide)
theorem e3_ : errL [⟨2, 0, 0⟩, ⟨1, 0, 0⟩] = 32 := err_two (by decide) (by decide) (by decide)
theorem e4_ : errL [⟨9, 0, 0⟩, ⟨8, 1048577, 0⟩] = 8 := err_two_bad (by decide)
theorem e0_ : errL (fullL 65) = 4 := err_full (by decide)

/-! ### The full field -/
theorem F_val : Val (fullL 64) := val_full (Nat.le_refl _)
theorem F_mem {p : Pt} (h : p ∈ fullL 64) : ∃ i : Nat, i < 64 ∧ p = ⟨2 * (i : Int), 0, 0⟩ := by
  unfold fullL at h
  obtain ⟨i, hi, rfl⟩ := List.mem_map.1 h
  exact ⟨i, List.mem_range.1 hi, rfl⟩
theorem F_odd : ∀ p ∈ fullL 64, p.id ≠ 1 := fun p hp => by obtain ⟨i, _, rfl⟩ := F_mem hp; simp only; omega
theorem F_get {i : Nat} (h : i < 64) : (fullL 64)[i]? = some ⟨2 * (i : Int), 0, 0⟩ := by
  unfold fullL
  rw [List.getElem?_map, List.getElem?_range h]; rfl
theorem F_cwp {pi pa pb : Int} (hp : okP pi pa pb = true) : FnL Try.prog 44 1 [fldS 0 (fullL 64), .pv (pointV pi pa pb)] [(0, 0, rowP (fullL 64))] (.pv (.int .i64 0)) 0 [] := by
  have c := CWP_any (fullL 64) pi pa pb
  rw [if_pos (err_val.2 F_val), if_pos hp] at c
  exact c
theorem F_cwp8 {pi pa pb : Int} (hp : okP pi pa pb = false) : FnL Try.prog 44 1 [fldS 0 (fullL 64), .pv (pointV pi pa pb)] [(0, 0, rowP (fullL 64))] (.pv (.int .i64 8)) 0 [] := by
  have c := CWP_any (fullL 64) pi pa pb
  rw [if_pos (err_val.2 F_val), if_neg (by rw [hp]; decide)] at c
  exact c
theorem F_put8 : FnL Try.prog 11 1 [fldS 0 (fullL 64), .pv (pointV 65536 0 0)] [(0, 0, rowP (fullL 64))] (.pv (.tuple #[.agg #[.slice none 0 0], .int .i64 8])) 0 [] := pput_err (F_cwp8 (by decide)) (by decide)
theorem F_put14 : FnL Try.prog 11 1 [fldS 0 (fullL 64), .pv (pointV 2 0 0)] [(0, 0, rowP (fullL 64))] (.pv (.tuple #[.agg #[.slice none 0 0], .int .i64 14])) 0 [] := pput_twice (F_cwp (by decide)) (find_yes F_val (F_get (i := 1) (by decide)) rfl)
theorem F_no1 : ∃ k : Nat, k ≤ (fullL 64).length ∧ FnL Try.prog 43 1 [fldS 0 (fullL 64), .pv (.int .i64 1)] [(0, 0, rowP (fullL 64))] (.pv (.tuple #[.int .i64 (k : Int), .bool false])) 0 [] := by
  rcases place (fullL 64) F_val 1 with ⟨k, p, hk, he⟩ | ⟨hno, k, hkl, hlo, hhi⟩
  · exact (F_odd p (List.mem_of_getElem? hk) he).elim
  · exact ⟨k, hkl, find_no F_val hkl hlo hhi⟩
theorem F_put18 : FnL Try.prog 11 1 [fldS 0 (fullL 64), .pv (pointV 1 0 0)] [(0, 0, rowP (fullL 64))] (.pv (.tuple #[.agg #[.slice none 0 0], .int .i64 18])) 0 [] := by
  obtain ⟨k, _, hf⟩ := F_no1
  exact pput_full (F_cwp (by decide)) hf (by rw [fullL_len]; rfl)
theorem F_take6 : FnL Try.prog 12 1 [fldS 0 (fullL 64), .pv (.int .i64 1)] [(0, 0, rowP (fullL 64))] (.pv (.tuple #[.agg #[.slice none 0 0], .int .i64 6])) 0 [] := by
  obtain ⟨k, _, hf⟩ := F_no1
  exact ptake_no (by have c := PCheck_any (fullL 64); rw [err_val.2 F_val] at c; exact c) hf
theorem F_change6 : FnL Try.prog 13 1 [fldS 0 (fullL 64), .pv (pointV 1 0 0)] [(0, 0, rowP (fullL 64))] (.pv (.tuple #[.agg #[.slice none 0 0], .int .i64 6])) 0 [] := by
  obtain ⟨k, _, hf⟩ := F_no1
  exact pchange_no (F_cwp (by decide)) hf
theorem F_change8 : FnL Try.prog 13 1 [fldS 0 (fullL 64), .pv (pointV 1 0 (-1048577))] [(0, 0, rowP (fullL 64))] (.pv (.tuple #[.agg #[.slice none 0 0], .int .i64 8])) 0 [] := pchange_err (F_cwp8 (by decide)) (by decide)
theorem F_srt : Srt (fullL 64) 0 1 (fullL 64) := ⟨List.Perm.refl _, by
  unfold fullL
  rw [List.pairwise_map]
  exact List.pairwise_lt_range.imp fun {a b} h => by
    show ld 0 1 ⟨2 * (a : Int), 0, 0⟩ ⟨2 * (b : Int), 0, 0⟩ = true
    unfold ld
    rw [leadsB_iff]
    dsimp only
    omega⟩
theorem F_tm : Tm 0 1 := ⟨⟨by decide, by decide⟩, ⟨by decide, by decide⟩, by decide⟩
abbrev F_ids : List Int := (fullL 64).map Pt.id
theorem F_ord : FnL Try.prog 15 1 [fldS 0 (fullL 64), .pv (ratioV 0 1)] [(0, 0, rowP (fullL 64))] (.tu [.one (.ls 1 (fullL 64).length), .one (.pv (.int .i64 0))]) 1 [(1, 0, .row 3 1 (fullL 64).length (idsV F_ids))] := POrder_ok F_val F_tm F_srt
theorem F_rank : FnL Try.prog 16 1 [fldS 0 (fullL 64), .pv (.int .i64 126), .pv (ratioV 0 1)] [(0, 0, rowP (fullL 64))] (.pv (.tuple #[.int .i64 63, .int .i64 0])) 0 [] := by
  have h := PRank_yes F_val F_tm (F_get (i := 63) (by decide))
  rw [F_srt.rank (F_get (i := 63) (by decide))] at h
  exact h
theorem F_id0 : F_ids[0]? = some 0 := by rw [List.getElem?_map, F_get (i := 0) (by decide)]; rfl

/-! ### The chapter's field, and no points -/
theorem G_no3 : ∀ p ∈ GF, p.id ≠ 3 := by decide
theorem G_r3 : FnL Try.prog 16 1 [argG, .pv (.int .i64 3), .pv (ratioV 0 1)] cellsG (.pv (.tuple #[.int .i64 0, .int .i64 6])) 0 [] := G_plain (vs := [.int .i64 3, ratioV 0 1]) (PRank_none G_val (G_tm (by decide)) G_no3)
theorem G_r8 : FnL Try.prog 16 1 [argG, .pv (.int .i64 3), .pv (ratioV 1 (-1))] cellsG (.pv (.tuple #[.int .i64 0, .int .i64 8])) 0 [] := G_plain (vs := [.int .i64 3, ratioV 1 (-1)]) (prank_err (by
  have c := CWT_any (l := GF) (tn := 1) (td := -1) ⟨by decide, by decide⟩ ⟨by decide, by decide⟩
  have e1 : tE GF 1 (-1) = 8 := by unfold tE; rw [if_pos (err_val.2 G_val), if_neg (by decide)]
  rw [e1] at c
  exact c) (by decide))
theorem N_rd (W : World) : Rd W 3 (.slice none 0 0) ([] : List Pt).length (ptsV []) := ⟨rfl, none, 0, rfl, Nat.le_refl _, fun j v hj => by simp [ptsV] at hj⟩
theorem N_pure {f : FuncId} {vs : List Value} {x : Value} (h : FnL Try.prog f 1 (fldS 0 [] :: vs.map .pv) [(0, 0, rowP [])] (.pv x) 0 []) : Pure Try.prog f (.agg #[.slice none 0 0] :: vs).toArray x := fun W => by
  have hvs : ∀ vs : List Value, SV.isl (inB (.slice none 0 0)) (vs.map .pv) vs := by
    intro vs
    induction vs with
    | nil => exact True.intro
    | cons v r ih => exact ⟨rfl, ih⟩
  refine (h W (inB _) (.agg #[.slice none 0 0] :: vs) (in_rel (N_rd W)) (in_dom _) ⟨in_fld (N_rd W), hvs vs⟩).mono fun e W' ⟨v, β', he, _, hx, hh, _⟩ => ?_
  cases hx
  exact ⟨he, hh.gr⟩
theorem N_val : Val [] where
  len := by decide
  ok := fun p hp => (by cases hp)
  up := fun k p q h1 _ => (by simp at h1)
theorem N_new : Pure Try.prog 18 #[] (.agg #[.slice none 0 0]) := pure_run (args := []) 200 [] (And.intro rfl True.intro) (by kernel_rfl)
theorem N_lead : Pure Try.prog 14 #[.agg #[.slice none 0 0], ratioV 0 1] (.tuple #[.int .i64 0, .int .i64 42]) :=
  N_pure (vs := [ratioV 0 1]) (plead_no (by
    have c := CWT_any (l := []) F_tm.hn F_tm.hd
    rw [tE_ok N_val F_tm.ok] at c
    exact c) rfl)
theorem N_lead8 : Pure Try.prog 14 #[.agg #[.slice none 0 0], ratioV 0 0] (.tuple #[.int .i64 0, .int .i64 8]) :=
  N_pure (vs := [ratioV 0 0]) (plead_err (by
    have c := CWT_any (l := []) (tn := 0) (td := 0) ⟨by decide, by decide⟩ ⟨by decide, by decide⟩
    have e1 : tE [] 0 0 = 8 := by unfold tE; rw [if_pos (err_val.2 N_val), if_neg (by decide)]
    rw [e1] at c
    exact c) (by decide))
theorem new_row {W w' : World} {β : Bl} {u : Value} {e : TypeId} {es n : Nat} {xs : List Value} (H : HRel W 0 β [] W) (hd : β.dom 0) (hg : Gr W w') (ho : w'.ownsRow W.heap.size e es u n xs) (h1 : ∀ v ∈ xs, v.oneCell' = true) :
    HRel W 0 (β.setG 0 u) [(0, 0, .row e es n xs)] w' where
  gr := hg
  live := fun b r h => Nat.lt_of_lt_of_le (H.live b r h) hg.size
  inj := H.inj
  new := fun b r hb h => by
    have h' : β b = some r := h
    rw [(hd b hb).1] at h'; cases h'
  sep := fun b r h => by
    have h' : β b = some r := h
    rw [(hd b (Nat.zero_le _)).1] at h'; cases h'
  cells := fun b o sv hl hs => by
    simp only [lookH] at hl
    cases hc : (Nat.beq 0 b && Nat.beq 0 o) <;> rw [hc] at hl
    · cases hl
    · cases hl; cases hs
  rows := fun b o e es n xs hl => by
    simp only [lookH] at hl
    cases hc : (Nat.beq 0 b && Nat.beq 0 o) <;> rw [hc] at hl
    · cases hl
    · cases hl
      rw [Bool.and_eq_true] at hc
      have hb : 0 = b := Nat.eq_of_beq_eq_true hc.1
      subst hb
      exact ⟨u, Bl.setG_same β 0 u, owns_rd ho, h1, fun h => by omega, fun _ => ho, fun _ c r hc hu => by
        have h' : β c = some r := hc
        rw [(hd c (Nat.zero_le _)).1] at h'; cases h'⟩
  rinj := fun b o e es n xs c o' e' es' n' xs' u v hl hl' h1 h2 hne => by
    simp only [lookH] at hl hl'
    cases hc : (Nat.beq 0 b && Nat.beq 0 o) <;> rw [hc] at hl
    · cases hl
    · cases hc' : (Nat.beq 0 c && Nat.beq 0 o') <;> rw [hc'] at hl'
      · cases hl'
      · rw [Bool.and_eq_true] at hc hc'
        have e1 := Nat.eq_of_beq_eq_true hc.1
        have e2 := Nat.eq_of_beq_eq_true hc'.1
        exact (hne (e1.symm.trans e2)).elim
/-- The order of no points. -/
theorem N_ord : FnL Try.prog 15 0 [.pv (.agg #[.slice none 0 0]), .pv (ratioV 0 1)] [] (.tu [.one (.ls 0 0), .one (.pv (.int .i64 0))]) 1 [(0, 0, .row 3 1 0 (idsV []))] := by
  have h := POrder_ok N_val F_tm (s := []) ⟨List.Perm.refl _, List.Pairwise.nil⟩
  intro W β us H hd ha
  have hus := SV.isl_v_eq (l := [.agg #[.slice none 0 0], ratioV 0 1]) ha
  subst hus
  refine (h W (inB (.slice none 0 0)) [.agg #[.slice none 0 0], ratioV 0 1] (in_rel (N_rd W)) (in_dom _) ⟨in_fld (N_rd W), rfl, True.intro⟩).mono fun e w' ⟨v, β', he, _, hx, hh, _⟩ => ?_
  obtain ⟨ws, hw, hv⟩ := hx
  match ws, hw with
  | [y, z], ⟨⟨hy, a, c, hyv⟩, hz, _⟩ =>
    obtain ⟨u, hu, hrow⟩ := hh.rows 1 0 _ _ _ _ rfl
    rw [hy] at hu
    cases hu
    have hd1 := hd 0 (Nat.le_refl _)
    exact ⟨v, β.setG 0 y, he, Bl.le_setG hd1.1 hd1.2, ⟨[y, z], ⟨⟨Bl.setG_same _ _ _, a, c, hyv⟩, hz, True.intro⟩, hv⟩, new_row H hd hh.gr (hrow.own (Nat.le_refl _)) (ids_one []), fun b hb => by
      obtain ⟨d1, d2⟩ := hd b (by omega)
      refine ⟨d1, ?_⟩
      unfold Bl.setG
      simp only
      rw [if_neg (by omega)]
      exact d2⟩
end Go.Proofs.Ytgpbofinbpcceaa
