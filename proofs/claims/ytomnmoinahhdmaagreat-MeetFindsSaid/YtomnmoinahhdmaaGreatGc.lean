/-
  All of package meet, for any field. Conditions: none.
-/
import Derived.Test.YtomnmoinahhdmaaGreatGa
import Derived.Test.YtomnmoinahhdmaaGreatGb
namespace Go.Proofs.YtomnmoinahhdmaaGreat
open Go.RowKit
/-- One new list, and nothing else kept. -/
theorem new_relK {W w' : World} {k : Nat} {β : Bl} {pre : List (Nat × Nat × SV)} {u : Value} {e : TypeId} {es n : Nat} {xs : List Value} (H : HRel W k β pre W) (hd : β.dom k) (hg : Gr W w') (ho : w'.ownsRow W.heap.size e es u n xs) (h1 : ∀ v ∈ xs, v.oneCell' = true) :
    HRel W k (β.setG k u) [(k, 0, .row e es n xs)] w' where
  gr := hg
  live := fun b r h => Nat.lt_of_lt_of_le (H.live b r h) hg.size
  inj := H.inj
  new := fun b r hb h => by
    have h' : β b = some r := h
    rw [(hd b hb).1] at h'; cases h'
  sep := fun b r h => by
    have hb : b ≠ k := fun e => by
      subst e
      have h' : β b = some r := h
      rw [(hd b (Nat.le_refl _)).1] at h'; cases h'
    unfold Bl.setG
    simp only [if_neg hb]
    exact H.sep b r h
  cells := fun b o sv hl hs => by
    rw [lookH_cons] at hl
    split at hl
    · cases hl; cases hs
    · cases hl
  rows := fun b o e' es' n' xs' hl => by
    rw [lookH_cons] at hl
    split at hl
    · rename_i hb
      obtain ⟨rfl, rfl⟩ := hb
      cases hl
      exact ⟨u, Bl.setG_same β _ u, owns_rd ho, h1, fun h => by omega, fun _ => ho, fun _ c r hc hu => by
        have h1 := (ownsRow_lt ho r hu).1
        have h2 := H.live c r hc
        omega⟩
    · cases hl
  rinj := fun b o e es n xs c o' e' es' n' xs' u v hl hl' h1 h2 hne => by
    rw [lookH_cons] at hl hl'
    split at hl
    · rename_i hb
      split at hl'
      · rename_i hb'
        exact (hne (hb.1.symm.trans hb'.1)).elim
      · cases hl'
    · cases hl
theorem setG_domK {k : Nat} {β : Bl} {u : Value} (hd : β.dom k) : (β.setG k u).dom (k + 1) := fun b hb => ⟨(hd b (by omega)).1, by unfold Bl.setG; simp only [if_neg (show b ≠ k by omega)]; exact (hd b (by omega)).2⟩

/-- What is there when the meetings between two times are asked for. -/
abbrev bwH (l : List Pt) (fn fd tn td : Int) : List (Nat × Nat × SV) := [(1, 0, .ls 0 l.length), (2, 0, .pv (.int .i64 fn)), (2, 1, .pv (.int .i64 fd)), (3, 0, .pv (.int .i64 tn)), (3, 1, .pv (.int .i64 td)),
  (4, 0, .pc 97 [.pp 1 0]), (5, 0, .pc 99 [.pp 2 0]), (6, 0, .pc 137 [.pp 4 0, .pp 5 0]), (7, 0, .pc 86 [.pp 3 0]), (0, 0, rowP l)]
abbrev bwS : SV := .pc 137 [.pp 6 0, .pp 7 0]
theorem AppendSeq_raw {l : List Pt} {f : Pt × Pt → Option Mt} {fn fd tn td : Int} (hM : Meets l f) (ht : TmOk fn fd) (hs : TmOk tn td) {X : List Mt} (hX : X = (((pairsOf l).filterMap f).filter (kpA fn fd)).filter (kpB tn td)) (hN : X.length ≤ 100000) :
    ∀ (W : World) (β : Bl) (us : List Value), HRel W 8 β (bwH l fn fd tn td) W → β.dom 8 → SV.isl β [.pv nilV, bwS] us →
      Calls Tryz.prog 135 us.toArray W fun e w' => ∃ v, e = .returned v ∧ Gr W w' ∧ w'.ownsRow W.heap.size 50 4 v X.length (msV X) ∧ (X = [] → v = nilV) := by
  intro W β us H hdm hu
  obtain ⟨u, g0⟩ := row_g H (b := 0) (o := 0) rfl
  obtain ⟨rt, et⟩ := lt_of_lookup H (b := 3) (o := 0) rfl rfl
  obtain ⟨rf, ef⟩ := lt_of_lookup H (b := 2) (o := 0) rfl rfl
  obtain ⟨rb, eb⟩ := lt_of_lookup H (b := 1) (o := 0) rfl rfl
  obtain ⟨ra, ea⟩ := lt_of_lookup H (b := 4) (o := 0) rfl rfl
  obtain ⟨rk, ek⟩ := lt_of_lookup H (b := 5) (o := 0) rfl rfl
  obtain ⟨rc, ec⟩ := lt_of_lookup H (b := 6) (o := 0) rfl rfl
  obtain ⟨rj, ej⟩ := lt_of_lookup H (b := 7) (o := 0) rfl rfl
  have t0 := cel_of H (b := 3) (o := 0) rfl et
  have t1 := cel_of H (b := 3) (o := 1) rfl et
  have f0 := cel_of H (b := 2) (o := 0) rfl ef
  have f1 := cel_of H (b := 2) (o := 1) rfl ef
  have cb : Cel W rb 0 u := box_of H (b := 1) rfl eb g0
  have hrd := row_of H (b := 0) (o := 0) rfl g0
  obtain ⟨_, p1, ca⟩ := cel_pc H (b := 4) (o := 0) rfl ea
  obtain ⟨r', e', rfl⟩ := pps_one p1; rw [eb] at e'; cases e'
  obtain ⟨_, p2, ck⟩ := cel_pc H (b := 5) (o := 0) rfl ek
  obtain ⟨r', e', rfl⟩ := pps_one p2; rw [ef] at e'; cases e'
  obtain ⟨_, p3, cc⟩ := cel_pc H (b := 6) (o := 0) rfl ec
  obtain ⟨r', s', e', e'', rfl⟩ := pps_two p3; rw [ea] at e'; rw [ek] at e''; cases e'; cases e''
  obtain ⟨_, p4, cj⟩ := cel_pc H (b := 7) (o := 0) rfl ej
  obtain ⟨r', e', rfl⟩ := pps_one p4; rw [et] at e'; cases e'
  have ne1 : ra ≠ rk := fun h => by subst h; have := H.inj 4 5 _ ea ek; omega
  have ne2 : rc ≠ rj := fun h => by subst h; have := H.inj 6 7 _ ec ej; omega
  have hown : ∀ b, bkB l u rb rf ra rk rt rc rj b → b < W.heap.size := fun b h => by
    rcases h with ((((rfl | ⟨hx, h⟩) | rfl) | rfl | rfl) | rfl) | rfl | rfl
    · exact cb.lt
    · exact hrd.lt hx b h
    · exact f0.lt
    · exact ca.lt
    · exact ck.lt
    · exact t0.lt
    · exact cc.lt
    · exact cj.lt
  have hseq := betw_at hM ht hs cb hrd f0 f1 ca ck ne1 t0 t1 cc cj ne2
  rw [← hX] at hseq
  obtain rfl : us = [nilV, fv 137 #[ptr rc, ptr rj]] := by
    match us, hu with
    | [x, y], ⟨h3, ⟨vs, h1, h2⟩, _⟩ =>
      obtain ⟨r, s, e1, e2, rfl⟩ := pps_two h1
      rw [ec] at e1; rw [ej] at e2; cases e1; cases e2
      rw [h2, show x = nilV from h3]
  exact appendSeq_calls (by kernel_rfl) hseq hown hN
theorem AppendSeq_betw {l : List Pt} {f : Pt × Pt → Option Mt} {fn fd tn td : Int} (hM : Meets l f) (ht : TmOk fn fd) (hs : TmOk tn td) {X : List Mt} (hX : X = (((pairsOf l).filterMap f).filter (kpA fn fd)).filter (kpB tn td)) (hN : X.length ≤ 100000) :
    FnL Tryz.prog 135 8 [.pv nilV, bwS] (bwH l fn fd tn td) (.ls 8 X.length) 1 [(8, 0, rowM X)] := by
  intro W β us H hdm hu
  refine (AppendSeq_raw hM ht hs hX hN W β us H hdm hu).mono fun e w' ⟨v, he, hg, ho, _⟩ => ?_
  have hd8 := hdm 8 (Nat.le_refl _)
  have hsl : ∃ a c, v = .slice a X.length c := owns_sl ho
  exact ⟨v, β.setG 8 v, he, Bl.le_setG hd8.1 hd8.2, ⟨Bl.setG_same _ _ _, hsl⟩, new_relK H hdm hg ho (ms_one X), setG_domK hdm⟩
section
variable {l : List Pt} {fn fd tn td : Int} {X s : List Mt}
set_option maxRecDepth 100000 in
theorem collect_path (h : FnL Tryz.prog 135 8 [.pv nilV, bwS] (bwH l fn fd tn td) (.ls 8 X.length) 1 [(8, 0, rowM X)]) :
    FnL Tryz.prog 83 8 [bwS] (bwH l fn fd tn td) (.ls 8 X.length) 1 [(8, 0, rowM X)] :=
  fnl_run 300 [] [.f [0,1,2,3,4,5,6,7] [.pv nilV, bwS] (bwH l fn fd tn td) (.ls 8 X.length) 1 [(8, 0, rowM X)]]
    (reflH (renN []) [(8, 0, rowM X)]) (And.intro h (And.intro (Eq.refl (List.map (SV.ren (renU [0,1,2,3,4,5,6,7] 8)) [.pv nilV, bwS])) (And.intro (reflH (renU [0,1,2,3,4,5,6,7] 8) (bwH l fn fd tn td)) True.intro))) (by kernel_rfl)
set_option maxRecDepth 100000 in
theorem sorted_path (h : FnL Tryz.prog 83 8 [bwS] (bwH l fn fd tn td) (.ls 8 X.length) 1 [(8, 0, rowM X)])
    (hso : FnM Tryz.prog 84 1 [.ls 0 X.length, .pv inV] [(0, 0, rowM X)] (.tuple #[]) 0 ⟨50, 4, X.length, msV X⟩ (msV s)) :
    FnL Tryz.prog 38 8 [bwS, .pv inV] (bwH l fn fd tn td) (.ls 8 X.length) 1 [(8, 0, .row 50 4 X.length (msV s))] :=
  fnl_run 300 [] [.f [0,1,2,3,4,5,6,7] [bwS] (bwH l fn fd tn td) (.ls 8 X.length) 1 [(8, 0, rowM X)], .m [8] [.ls 0 X.length, .pv inV] [(0, 0, rowM X)] (.tuple #[]) 0 (msV s)]
    (reflH (renN []) [(8, 0, .row 50 4 X.length (msV s))]) (And.intro h (And.intro (Eq.refl (List.map (SV.ren (renU [0,1,2,3,4,5,6,7] 8)) [bwS])) (And.intro (reflH (renU [0,1,2,3,4,5,6,7] 8) (bwH l fn fd tn td))
      (And.intro hso (And.intro (Eq.refl (List.map (SV.ren (renU [8] 9)) [.ls 0 X.length, .pv inV])) (And.intro (reflH (renU [8] 9) [(0, 0, rowM X)]) True.intro)))))) (by kernel_rfl)
set_option maxRecDepth 100000 in
theorem all_path (hc : FnL Tryz.prog 37 1 [fldS 0 l, .pv (ratioV fn fd), .pv (ratioV tn td)] [(0, 0, rowP l)] (.pv (.int .i64 0)) 0 [])
    (h : FnL Tryz.prog 38 8 [bwS, .pv inV] (bwH l fn fd tn td) (.ls 8 s.length) 1 [(8, 0, rowM s)]) (h0 : 0 ≤ (s.length : Int)) (h1 : s.length ≤ s.length) :
    FnL Tryz.prog 9 1 [fldS 0 l, .pv (ratioV fn fd), .pv (ratioV tn td)] [(0, 0, rowP l)] (.tu [.one (.lq 1 4 0 s.length), .one (.pv (.int .i64 0))]) 1 [(1, 0, rowM s)] :=
  fnl_run 300 [(1, 14)] [.f [0] [fldS 0 l, .pv (ratioV fn fd), .pv (ratioV tn td)] [(0, 0, rowP l)] (.pv (.int .i64 0)) 0 [], .k, .k, .k, .k, .k, .k, .f [0,9,8,6,10,11,12,13] [bwS, .pv inV] (bwH l fn fd tn td) (.ls 8 s.length) 1 [(8, 0, rowM s)], .k]
    (reflH (renN [(1, 14)]) [(1, 0, rowM s)]) (And.intro hc (And.intro (Eq.refl (List.map (SV.ren (renU [0] 4)) [fldS 0 l, .pv (ratioV fn fd), .pv (ratioV tn td)])) (And.intro (reflH (renU [0] 4) [(0, 0, rowP l)])
      (And.intro h (And.intro (Eq.refl (List.map (SV.ren (renU [0,9,8,6,10,11,12,13] 14)) [bwS, .pv inV])) (And.intro (reflH (renU [0,9,8,6,10,11,12,13] 14) (bwH l fn fd tn td)) (And.intro True.intro (And.intro h0 (And.intro h0 (And.intro (Nat.zero_le s.length) (And.intro h1 (And.intro h1 True.intro)))))))))))) (by kernel_rfl)
set_option maxRecDepth 100000 in
theorem all_err {er : Int} (hc : FnL Tryz.prog 37 1 [fldS 0 l, .pv (ratioV fn fd), .pv (ratioV tn td)] [(0, 0, rowP l)] (.pv (.int .i64 er)) 0 []) (he : (er != 0) = true) :
    FnL Tryz.prog 9 1 [fldS 0 l, .pv (ratioV fn fd), .pv (ratioV tn td)] [(0, 0, rowP l)] (.pv (.tuple #[.slice none 0 0, .int .i64 er])) 0 [] :=
  fnl_run 300 [] [.f [0] [fldS 0 l, .pv (ratioV fn fd), .pv (ratioV tn td)] [(0, 0, rowP l)] (.pv (.int .i64 er)) 0 [], .t true]
    True.intro (And.intro hc (And.intro (Eq.refl (List.map (SV.ren (renU [0] 4)) [fldS 0 l, .pv (ratioV fn fd), .pv (ratioV tn td)])) (And.intro (reflH (renU [0] 4) [(0, 0, rowP l)]) (And.intro he True.intro)))) (by kernel_rfl)
end
/-- **All, between valid times in order: a new list, in order.** -/
theorem All_ok {fn fd tn td : Int} (h1 : I64 fn) (h2 : I64 fd) (h3 : I64 tn) (h4 : I64 td) (l : List Pt) (h : mE l fn fd tn td = 0) :
    FnL Tryz.prog 9 1 [fldS 0 l, .pv (ratioV fn fd), .pv (ratioV tn td)] [(0, 0, rowP l)] (.tu [.one (.lq 1 4 0 (btwS l fn fd tn td).length), .one (.pv (.int .i64 0))]) 1 [(1, 0, rowM (btwS l fn fd tn td))] := by
  have c := CB_any h1 h2 h3 h4 l
  rw [h] at c
  obtain ⟨hv, g1, g2, _⟩ := mE_ok h
  have hp := btwS_perm l fn fd tn td
  have hlen := hp.length_eq
  have hl2 := btwS_len hv fn fd tn td
  have hX : ∀ m ∈ btw l fn fd tn td, MtOk m := fun m hm => ms_ok hv m (List.mem_filter.1 (List.mem_filter.1 hm).1).1
  have a1 := AppendSeq_betw (meets_val hv) (fn := fn) (fd := fd) (tn := tn) (td := td) ⟨h1, h2, g1⟩ ⟨h3, h4, g2⟩ (X := btw l fn fd tn td) rfl (by omega)
  have a2 := sorted_path (collect_path a1) (SortM_any hX (by omega) hp (btwS_pw hv fn fd tn td))
  rw [← hlen] at a2
  exact all_path c a2 (by omega) (Nat.le_refl _)
theorem All_err {fn fd tn td : Int} (h1 : I64 fn) (h2 : I64 fd) (h3 : I64 tn) (h4 : I64 td) (l : List Pt) (h : mE l fn fd tn td ≠ 0) :
    FnL Tryz.prog 9 1 [fldS 0 l, .pv (ratioV fn fd), .pv (ratioV tn td)] [(0, 0, rowP l)] (.pv (.tuple #[.slice none 0 0, .int .i64 (mE l fn fd tn td)])) 0 [] :=
  all_err (CB_any h1 h2 h3 h4 l) (by simpa using h)
end Go.Proofs.YtomnmoinahhdmaaGreat
