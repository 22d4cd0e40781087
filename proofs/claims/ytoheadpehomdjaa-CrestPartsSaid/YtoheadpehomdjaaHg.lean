/-
  What holds along a crest; the chapter's crests, and that the examples hold. Conditions: none.
-/
import Derived.Test.YtoheadpehomdjaaHf
namespace Go.Proofs.Ytoheadpehomdjaa
open Go.RowKit
section
variable {l : List Pt}
theorem Cr.at {p : Pt} {x : Ld} {t : List Ld} (h : Cr l p x t) : ∀ (k : Nat) (y : Ld), (x :: t)[k]? = some y → ∃ q, Cr l q y ((x :: t).drop (k + 1)) := by
  induction h with
  | stop b e =>
    intro k y hy
    cases k with
    | zero => cases hy; exact ⟨_, .stop b e⟩
    | succ k => simp at hy
  | step b e r ih =>
    intro k y hy
    cases k with
    | zero => cases hy; exact ⟨_, .step b e r⟩
    | succ k => exact ih k y (by simpa using hy)
theorem Cr.next {q : Pt} {y z : Ld} {t : List Ld} (hv : Val l) (h : Cr l q y (z :: t)) : ∃ m, nextM q l = some m ∧ z = nxL l m ∧ Cr l (ldr l m.n m.d) z t := by
  cases h with
  | step b e r => exact ⟨_, e, rfl, r⟩
theorem Cr.last {q : Pt} {y : Ld} (h : Cr l q y []) : nextM q l = none := by
  cases h with
  | stop b e => exact e
theorem cr_next {c : List Ld} {k : Nat} {q : Pt} {y z : Ld} (hv : Val l) (h : Cr l q y (c.drop (k + 1))) (hz : c[k + 1]? = some z) : ∃ m, nextM q l = some m ∧ z = nxL l m ∧ Cr l (ldr l m.n m.d) z (c.drop (k + 2)) := by
  have hl := get_lt hz
  have e : c.drop (k + 1) = z :: c.drop (k + 2) := by
    rw [List.drop_eq_getElem_cons hl]
    rw [List.getElem?_eq_getElem hl] at hz
    rw [Option.some.inj hz]
  rw [e] at h
  exact h.next hv
theorem cr_last {c : List Ld} {k : Nat} {q : Pt} {y : Ld} (h : Cr l q y (c.drop (k + 1))) (hk : c.length = k + 1) : nextM q l = none := by
  rw [List.drop_eq_nil_of_le (by omega)] at h
  exact h.last
/-- The chain of a crest, from each of its leads on. -/
theorem crest_at (hv : Val l) (hne : l ≠ []) {n d : Int} (ht : Tm n d) {k : Nat} {y : Ld} (h : (crest l n d)[k]? = some y) : ∃ q, Cr l q y ((crest l n d).drop (k + 1)) := by
  obtain ⟨t, h1, h2, _⟩ := crest_spec hv hne ht
  rw [h1] at h ⊢
  exact h2.at k y h
theorem crest_len (hv : Val l) (hne : l ≠ []) {n d : Int} (ht : Tm n d) : 0 < (crest l n d).length ∧ (crest l n d).length ≤ l.length := by
  obtain ⟨t, h1, _, h3⟩ := crest_spec hv hne ht
  rw [h1, List.length_cons]; omega
theorem crest_zero (hv : Val l) (hne : l ≠ []) {n d : Int} (ht : Tm n d) : (crest l n d)[0]? = some ⟨n, d, (ldr l n d).id⟩ := by
  obtain ⟨t, h1, _, _⟩ := crest_spec hv hne ht
  rw [h1]; rfl
theorem crest_base (hv : Val l) (hne : l ≠ []) {n d : Int} (ht : Tm n d) : ∀ y ∈ crest l n d, ∃ q, Base l q y := by
  intro y hy
  obtain ⟨k, hk, e⟩ := List.getElem_of_mem hy
  obtain ⟨q, h⟩ := crest_at hv hne ht (k := k) (y := y) (by rw [List.getElem?_eq_getElem hk, e])
  exact ⟨q, h.base⟩
theorem crest_i64 (hv : Val l) (hne : l ≠ []) {n d : Int} (ht : Tm n d) : ∀ y ∈ crest l n d, I64L y := by
  intro y hy
  obtain ⟨q, b⟩ := crest_base hv hne ht y hy
  exact ⟨b.tm.hn, b.tm.hd⟩
theorem crest_vc (hv : Val l) (hne : l ≠ []) {n d : Int} (ht : Tm n d) : VC (crest l n d) := by
  have hl := crest_len hv hne ht
  refine ⟨hl.1, by have := hv.len; omega, fun y hy => ?_, fun k x y hx hy => ?_⟩
  · obtain ⟨q, b⟩ := crest_base hv hne ht y hy
    unfold okLd
    have hi : 0 ≤ q.id ∧ q.id ≤ 65535 := by
      have := hv.ok q b.mem
      unfold okPt okP at this
      simp only [Bool.and_eq_true, decide_eq_true_eq] at this
      omega
    have := b.id
    rw [b.tm.ok, dt (show 0 ≤ y.id by omega), dt (show y.id ≤ 65535 by omega)]; rfl
  · obtain ⟨q, h⟩ := crest_at hv hne ht hx
    obtain ⟨m, hm, rfl, _⟩ := cr_next hv h hy
    have b := h.base
    have d0 := okB_den b.tm.ok
    obtain ⟨h1, h2, _, h4⟩ := lead_up hv b.mem (by omega) b.top hm
    unfold folB
    have hne' : (ldr l m.n m.d).id ≠ x.id := fun e => by
      have := val_id hv h4 b.mem (by rw [e, b.id])
      rw [this] at h2; omega
    have e1 : ((nxL l m).id == x.id) = false := beq_eq_false_iff_ne.2 hne'
    rw [e1, dt (show (x.n * (nxL l m).d - (nxL l m).n * x.d).sign < 0 by
      show (x.n * m.d - m.n * x.d).sign < 0
      rcases sg_cases (x.n * m.d - m.n * x.d) with ⟨w, z⟩ | ⟨w, z⟩ | ⟨w, z⟩ <;> omega)]
    rfl
/-- Between a lead and the next one its point goes on leading. -/
theorem top_stay (hv : Val l) {q : Pt} {y : Ld} (b : Base l q y) {tn td : Int} (ht : Tm tn td) (hle : cv y tn td ≤ 0) (hnx : ∀ m, nextM q l = some m → tn * m.d < m.n * td) : ∀ r ∈ l, ld tn td r q = false := by
  intro r hr
  have d0 := okB_den b.tm.ok
  have d1 := okB_den ht.ok
  have hle' : y.n * td - tn * y.d ≤ 0 := by
    have : ¬ cv y tn td > 0 := by omega
    rw [cv_pos] at this; omega
  rcases Int.lt_trichotomy r.b q.b with h | h | h
  · exact ld_stay hv b.mem hr (by omega) (by omega) h (b.top r hr) hle'
  · rw [ld_equal (T' := y.n) (D' := y.d) (by omega) (by omega) h]; exact b.top r hr
  · obtain ⟨m', hm', ok⟩ := nextOf_yes (hv.ok q b.mem) (hv.ok r hr) h
    have hl := least_all (p := q) hv (hv.ok q b.mem)
    have k0 := okB_den ok.ok
    rw [ld_faster ok h]
    cases hm : nextM q l with
    | none => rw [hm] at hl; rw [hl r hr] at hm'; cases hm'
    | some m =>
      rw [hm] at hl
      have h1 := hl.2 r hr m' hm'
      obtain ⟨⟨q', hq', hq2⟩, _⟩ := hl
      have ok2 := (nextOf_some (hv.ok q b.mem) (hv.ok q' hq') hq2).2
      have k2 := okB_den ok2.ok
      have h2 := frac_lt_le (an := tn) (ad := td) (bn := m.n) (bd := m.d) (cn := m'.n) (cd := m'.d) (by omega) (by omega) (by omega) (hnx m hm) (by omega)
      refine df fun g => ?_
      have := (sign_ge _).1 g
      omega
/-- Who leads at a time at which a lead holds. -/
theorem at_leads (hv : Val l) (hne : l ≠ []) {n d tn td : Int} (h0 : Tm n d) (ht : Tm tn td) {k : Nat} {y : Ld} (h : AtK (crest l n d) tn td k y) : ∃ q, Cr l q y ((crest l n d).drop (k + 1)) ∧ ldr l tn td = q := by
  obtain ⟨q, hc⟩ := crest_at hv hne h0 h.get
  refine ⟨q, hc, ldr_of hv hc.base.mem (top_stay hv hc.base ht h.le fun m hm => ?_)⟩
  rcases Nat.lt_or_ge (k + 1) (crest l n d).length with g | g
  · obtain ⟨z, hz⟩ := get_some g
    obtain ⟨m', hm', rfl, _⟩ := cr_next hv hc hz
    rw [hm'] at hm; cases hm
    have := h.hi (k + 1) _ (by omega) hz
    rw [cv_pos] at this
    exact this
  · rw [cr_last hc (by have := get_lt h.get; omega)] at hm; cases hm
end
abbrev gq : List Pt := [⟨2, 6, -1⟩, ⟨5, 0, 0⟩]
theorem gq_val : Val gq := ⟨by decide, by decide, up_of (by decide)⟩
theorem tm1 {n : Int} (h : I64 n) (h1 : okB n 1 = true) : Tm n 1 := ⟨h, by decide, h1⟩
theorem nx_eq {p q : Pt} (h1 : okPt p = true) (h2 : okPt q = true) (hb : p.b < q.b) {n d : Int} (hk : okB n d = true) (he : n * (p.b - q.b) = (q.a - p.a) * d) : nextOf p q = some ⟨n, d, p.id, q.id⟩ :=
  (if_pos hb).trans (fM_eq (x := (p, q)) h1 h2 (by show p.b ≠ q.b; omega) hk he)
theorem nm_none {l : List Pt} {p : Pt} (h : ∀ q ∈ l, ¬ p.b < q.b) : nextM p l = none := by
  have : ∀ (X : List Pt), (∀ q ∈ X, ¬ p.b < q.b) → X.foldl (fstep p) none = none := by
    intro X
    induction X with
    | nil => intro _; rfl
    | cons a r ih =>
      intro hX
      have : fstep p none a = none := by unfold fstep; rw [nextOf_no (hX a (List.mem_cons_self ..))]
      rw [List.foldl_cons, this]
      exact ih fun q hq => hX q (List.mem_cons_of_mem _ hq)
  exact this l h
theorem crest_eq {l : List Pt} (hv : Val l) (hne : l ≠ []) {n d : Int} (ht : Tm n d) {p : Pt} (hp : ldr l n d = p) {t : List Ld} (h : Cr l p ⟨n, d, p.id⟩ t) : crest l n d = ⟨n, d, p.id⟩ :: t := by
  obtain ⟨t', h1, h2, _⟩ := crest_spec hv hne ht
  rw [hp] at h1 h2
  rw [h1, h2.uniq h]
theorem gl_c1 : crest gl (-1) 1 = [⟨-1, 1, 2⟩, ⟨2, 1, 1⟩] := by
  have ht : Tm (-1) 1 := tm1 (by decide) (by decide)
  have e1 : ldr gl (-1) 1 = ⟨2, 6, -1⟩ := ldr_of gl_val (by simp) (by decide)
  have e2 : ldr gl 2 1 = ⟨1, 0, 2⟩ := ldr_of gl_val (by simp) (by decide)
  have n1 : nextM ⟨2, 6, -1⟩ gl = some ⟨2, 1, 2, 1⟩ := by
    show fstep _ (fstep _ (fstep _ none _) _) _ = _
    unfold fstep
    rw [nx_eq (p := ⟨2, 6, -1⟩) (q := ⟨1, 0, 2⟩) (n := 2) (d := 1) (by decide) (by decide) (by decide) (by decide) (by decide), nextOf_no (p := ⟨2, 6, -1⟩) (q := ⟨2, 6, -1⟩) (by decide),
      nx_eq (p := ⟨2, 6, -1⟩) (q := ⟨5, 0, 0⟩) (n := 6) (d := 1) (by decide) (by decide) (by decide) (by decide) (by decide)]
    rfl
  have n2 : nextM ⟨1, 0, 2⟩ gl = none := nm_none (by decide)
  have b1 := base_ldr gl_val (by simp) ht
  rw [e1] at b1
  refine crest_eq gl_val (by simp) ht e1 ?_
  have b2 := base_next gl_val b1 n1
  have s := Cr.step b1 n1 (Cr.stop b2 (by rw [e2]; exact n2))
  rw [show nxL gl ⟨2, 1, 2, 1⟩ = ⟨2, 1, 1⟩ by unfold nxL; rw [e2]] at s
  exact s
theorem gl_c3 : crest gl 3 1 = [⟨3, 1, 1⟩] := by
  have ht : Tm 3 1 := tm1 (by decide) (by decide)
  have e1 : ldr gl 3 1 = ⟨1, 0, 2⟩ := ldr_of gl_val (by simp) (by decide)
  have n2 : nextM ⟨1, 0, 2⟩ gl = none := nm_none (by decide)
  have b1 := base_ldr gl_val (by simp) ht
  rw [e1] at b1
  exact crest_eq gl_val (by simp) ht e1 (Cr.stop b1 n2)
theorem gq_c : crest gq (-1) 1 = [⟨-1, 1, 2⟩, ⟨6, 1, 5⟩] := by
  have ht : Tm (-1) 1 := tm1 (by decide) (by decide)
  have e1 : ldr gq (-1) 1 = ⟨2, 6, -1⟩ := ldr_of gq_val (by simp) (by decide)
  have e2 : ldr gq 6 1 = ⟨5, 0, 0⟩ := ldr_of gq_val (by simp) (by decide)
  have n1 : nextM ⟨2, 6, -1⟩ gq = some ⟨6, 1, 2, 5⟩ := by
    show fstep _ (fstep _ none _) _ = _
    unfold fstep
    rw [nextOf_no (p := ⟨2, 6, -1⟩) (q := ⟨2, 6, -1⟩) (by decide), nx_eq (p := ⟨2, 6, -1⟩) (q := ⟨5, 0, 0⟩) (n := 6) (d := 1) (by decide) (by decide) (by decide) (by decide) (by decide)]
  have n2 : nextM ⟨5, 0, 0⟩ gq = none := nm_none (by decide)
  have b1 := base_ldr gq_val (by simp) ht
  rw [e1] at b1
  refine crest_eq gq_val (by simp) ht e1 ?_
  have b2 := base_next gq_val b1 n1
  have s := Cr.step b1 n1 (Cr.stop b2 (by rw [e2]; exact n2))
  rw [show nxL gq ⟨6, 1, 2, 5⟩ = ⟨6, 1, 5⟩ by unfold nxL; rw [e2]] at s
  exact s
abbrev gc1 : List Ld := [⟨-1, 1, 2⟩, ⟨2, 1, 1⟩]
abbrev gc3 : List Ld := [⟨3, 1, 1⟩]
abbrev gcq : List Ld := [⟨-1, 1, 2⟩, ⟨6, 1, 5⟩]
theorem gl_of1 : FnL Try.prog 5 1 [fldS 0 gl, .pv (ratioV (-1) 1)] [(0, 0, rowP gl)] (.tu [.one (.ls 1 2), .one (.pv (.int .i64 0))]) 1 [(1, 0, rowL gc1)] := by
  have := Of_ok gl_val (by simp) (tm1 (n := -1) (by decide) (by decide))
  rw [gl_c1] at this
  exact this
theorem gl_of3 : FnL Try.prog 5 1 [fldS 0 gl, .pv (ratioV 3 1)] [(0, 0, rowP gl)] (.tu [.one (.ls 1 1), .one (.pv (.int .i64 0))]) 1 [(1, 0, rowL gc3)] := by
  have := Of_ok gl_val (by simp) (tm1 (n := 3) (by decide) (by decide))
  rw [gl_c3] at this
  exact this
theorem gq_of : FnL Try.prog 5 1 [.ag [.lq 0 3 1 2], .pv (ratioV (-1) 1)] [(0, 0, rowP gl)] (.tu [.one (.ls 1 2), .one (.pv (.int .i64 0))]) 1 [(1, 0, rowL gcq)] := by
  have := Of_ok gq_val (by simp) (tm1 (n := -1) (by decide) (by decide))
  rw [gq_c] at this
  exact fnl_part (n := 3) (xs := ptsV gl) this (by decide) (by decide)
theorem gc1_vc : VC gc1 := by have := crest_vc gl_val (by simp) (tm1 (n := -1) (by decide) (by decide)); rwa [gl_c1] at this
theorem gc1_i : ∀ x ∈ gc1, I64L x := by have := crest_i64 gl_val (by simp) (tm1 (n := -1) (by decide) (by decide)); rwa [gl_c1] at this
theorem gl_at2 : FnL Try.prog 9 1 [.ls 0 2, .pv (ratioV 2 1)] [(0, 0, rowL gc1)] (.pv (.tuple #[.int .i64 1, .int .i64 0])) 0 [] :=
  CAt_ok gc1_i gc1_vc (tm1 (by decide) (by decide)) (x0 := ⟨-1, 1, 2⟩) rfl (by decide) (k := 1) (x := ⟨2, 1, 1⟩) ⟨rfl, by decide, fun t y ht hy => by
    have : t = 0 := by omega
    subst this; cases hy; decide, fun t y ht hy => by have := get_lt hy; simp at this; omega⟩
theorem gl_at1 : FnL Try.prog 9 1 [.ls 0 2, .pv (ratioV 1 1)] [(0, 0, rowL gc1)] (.pv (.tuple #[.int .i64 2, .int .i64 0])) 0 [] :=
  CAt_ok gc1_i gc1_vc (tm1 (by decide) (by decide)) (x0 := ⟨-1, 1, 2⟩) rfl (by decide) (k := 0) (x := ⟨-1, 1, 2⟩) ⟨rfl, by decide, fun t y ht hy => by omega, fun t y ht hy => by
    have := get_lt hy
    have : t = 1 := by simp at this; omega
    subst this; cases hy; decide⟩
set_option maxRecDepth 100000 in
theorem Alive5  : FnL Try.prog 13 0 [] [] (.pv (.bool true)) 0 [] :=
  fnl_run 300 [] [.k, .lw, .k, .f [1] [fldS 0 gl, .pv (ratioV (-1) 1)] [(0, 0, rowP gl)] (.tu [.one (.ls 1 2), .one (.pv (.int .i64 0))]) 1 [(1, 0, rowL gc1)],
      .k, .lw, .k, .f [4] [fldS 0 gl, .pv (ratioV 3 1)] [(0, 0, rowP gl)] (.tu [.one (.ls 1 1), .one (.pv (.int .i64 0))]) 1 [(1, 0, rowL gc3)],
      .k, .f [2] [.ls 0 2, .pv (ratioV 2 1)] [(0, 0, rowL gc1)] (.pv (.tuple #[.int .i64 1, .int .i64 0])) 0 [],
      .k, .f [2] [.ls 0 2, .pv (ratioV 1 1)] [(0, 0, rowL gc1)] (.pv (.tuple #[.int .i64 2, .int .i64 0])) 0 [],
      .gr, .k, .lw, .k, .k, .f [7] [.ag [.lq 0 3 1 2], .pv (ratioV (-1) 1)] [(0, 0, rowP gl)] (.tu [.one (.ls 1 2), .one (.pv (.int .i64 0))]) 1 [(1, 0, rowL gcq)],
      .k, .k, .k, .lw, .f [2, 9] [.ls 0 2, .ls 1 2] [(0, 0, rowL gc1), (1, 0, rowL gc1)] (.pv (.bool true)) 0 [],
      .k, .k, .lw, .f [5, 10] [.ls 0 1, .ls 1 1] [(0, 0, rowL gc3), (1, 0, rowL gc3)] (.pv (.bool true)) 0 [],
      .k, .k, .k, .k, .k, .k, .k, .lw, .f [8, 11] [.ls 0 2, .ls 1 2] [(0, 0, rowL gcq), (1, 0, rowL gcq)] (.pv (.bool true)) 0 []]
    True.intro (And.intro gl_of1 (And.intro (Eq.refl (List.map (SV.ren (renU [1] 2)) [fldS 0 gl, .pv (ratioV (-1) 1)])) (And.intro (reflH (renU [1] 2) [(0, 0, rowP gl)])
      (And.intro gl_of3 (And.intro (Eq.refl (List.map (SV.ren (renU [4] 5)) [fldS 0 gl, .pv (ratioV 3 1)])) (And.intro (reflH (renU [4] 5) [(0, 0, rowP gl)])
      (And.intro gl_at2 (And.intro (Eq.refl (List.map (SV.ren (renU [2] 6)) [.ls 0 2, .pv (ratioV 2 1)])) (And.intro (reflH (renU [2] 6) [(0, 0, rowL gc1)])
      (And.intro gl_at1 (And.intro (Eq.refl (List.map (SV.ren (renU [2] 6)) [.ls 0 2, .pv (ratioV 1 1)])) (And.intro (reflH (renU [2] 6) [(0, 0, rowL gc1)])
      (And.intro (by decide : (0 : Int) ≤ 1) (And.intro True.intro (And.intro (by decide : (1 : Nat) ≤ 3) (And.intro (Nat.le_refl 3) (And.intro gq_of (And.intro (Eq.refl (List.map (SV.ren (renU [7] 8)) [.ag [.lq 0 3 1 2], .pv (ratioV (-1) 1)])) (And.intro (reflH (renU [7] 8) [(0, 0, rowP gl)])
      (And.intro (Same5 (s := gc1) (by decide)) (And.intro (Eq.refl (List.map (SV.ren (renU [2, 9] 10)) [.ls 0 2, .ls 1 2])) (And.intro (reflH (renU [2, 9] 10) [(0, 0, rowL gc1), (1, 0, rowL gc1)])
      (And.intro (Same5 (s := gc3) (by decide)) (And.intro (Eq.refl (List.map (SV.ren (renU [5, 10] 11)) [.ls 0 1, .ls 1 1])) (And.intro (reflH (renU [5, 10] 11) [(0, 0, rowL gc3), (1, 0, rowL gc3)])
      (And.intro (Same5 (s := gcq) (by decide)) (And.intro (Eq.refl (List.map (SV.ren (renU [8, 11] 12)) [.ls 0 2, .ls 1 2])) (And.intro (reflH (renU [8, 11] 12) [(0, 0, rowL gcq), (1, 0, rowL gcq)]) True.intro)))))))))))))))))))))))))))) (by kernel_rfl)
end Go.Proofs.Ytoheadpehomdjaa
