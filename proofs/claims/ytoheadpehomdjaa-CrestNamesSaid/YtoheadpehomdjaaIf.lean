/-
  The examples of the chapter on crests: what each call returns. Conditions: none.
-/
import Derived.Test.YtoheadpehomdjaaIe
import Derived.Test.YtoheadpehomdjaaHg
import Derived.Test.YtoheadpehomdjaaW34
import Derived.Test.YtoheadpehomdjaaW31
namespace Go.Proofs.Ytoheadpehomdjaa
open Go.RowKit
/-- A contract over a list of leads serves a first part of one, where the result is plain. -/
theorem fnl_head {P : Program} {f : FuncId} {s : List Ld} {n' : Nat} {t y : Value} (h : FnL P f 1 [.ls 0 (s.take n').length, .pv t] [(0, 0, rowL (s.take n'))] (.pv y) 0 []) (hn : n' ≤ s.length) (h0 : 0 < n') :
    FnL P f 1 [.lq 0 3 0 n', .pv t] [(0, 0, rowL s)] (.pv y) 0 [] := by
  intro w β us H hd hi
  obtain ⟨u, hu, R⟩ := H.rows 0 0 _ _ _ _ rfl
  match us, hi with
  | [v, b1], ⟨⟨a, nn, c, a', c', hg, hle, hc', hv, hp⟩, hb, _⟩ =>
  have hb' : b1 = t := hb
  obtain ⟨r, o, ea, ea'⟩ := hp h0
  subst ea ea' hv hb'
  have hu' : u = .slice (some ⟨r, o, none⟩) nn c := by rw [hu] at hg; exact Option.some.inj hg
  subst hu'
  obtain ⟨hl, a2, c2, he, hnc, hrd⟩ := R.rd
  have hlt : (s.take n').length = n' := by rw [List.length_take]; omega
  have hone : ∀ v ∈ ldsV (s.take n'), v.oneCell' = true := lds_one _
  have hpre : ∀ (j : Nat) (v : Value), (ldsV (s.take n'))[j]? = some v → (ldsV s)[j]? = some v := by
    intro j v hj
    have e : ldsV s = ldsV (s.take n') ++ ldsV (s.drop n') := by rw [← ldsV_append, List.take_append_drop]
    have hjl := (List.getElem?_eq_some_iff.1 hj).1
    rw [e, List.getElem?_append_left hjl]
    exact hj
  have hrd' : Rd w 3 (.slice (some ⟨r, o + 0 * 3, none⟩) n' c') (s.take n').length (ldsV (s.take n')) := by
    refine ⟨ldsV_length _, _, c', by rw [hlt], by rw [hlt]; exact hc', fun j v hj => ⟨r, o + 0 * 3, rfl, ?_⟩⟩
    obtain ⟨r', o', er, hcell⟩ := hrd _ v (hpre j v hj)
    have e1 := he
    simp only [Value.slice.injEq] at e1
    obtain ⟨ea, _, _⟩ := e1
    rw [← ea] at er
    cases er
    rw [Nat.zero_mul, Nat.add_zero]
    exact hcell
  have hI : Ins w [.slice (some ⟨r, o + 0 * 3, none⟩) n' c'] [(34, 3, (s.take n').length, ldsV (s.take n'))] := .cons hrd' hone .nil
  refine (h w (inBs [.slice (some ⟨r, o + 0 * 3, none⟩) n' c']) [_, b1] (ins_rel hI) (ins_dom hI) ⟨⟨rfl, ⟨_, _, by rw [hlt]⟩⟩, rfl, trivial⟩).mono fun e w' hh => ?_
  obtain ⟨v', β', he', _, hx, hH, _⟩ := hh
  exact ⟨v', β, he', Bl.le_refl _, hx, (H.gr_mono hH.gr).imp fun b o s hs => (by cases hs), hd⟩
/-- A contract of a field without points and plain values, of the field that is nil. -/
theorem pure_nil2 {f : FuncId} {v t : Value} (h : FnL Try.prog f 1 [fldS 0 [], .pv t] [(0, 0, rowP [])] (.pv v) 0 []) : Pure Try.prog f #[.agg #[.slice none 0 0], t] v := by
  intro w
  have hr : Rd w 3 (.slice none 0 0) ([] : List Pt).length (ptsV []) := ⟨rfl, none, 0, rfl, Nat.le_refl _, fun j v hj => by cases hj⟩
  refine (h w (inB (.slice none 0 0)) [.agg #[.slice none 0 0], t] (in_rel hr) (in_dom _) ⟨in_fld hr, rfl, True.intro⟩).mono fun e W' ⟨v, β', he, _, hx, hh, _⟩ => ?_
  cases hx
  exact ⟨he, hh.gr⟩
set_option maxRecDepth 100000 in
theorem mgn_r {l : List Pt} {ca : List Ld} (hf : FnL Try.prog 22 1 [fldS 0 l] [(0, 0, rowP l)] (.pv (.int .i64 (0))) 0 []) (ha : FnL Try.prog 11 1 [.ls 0 ca.length] [(0, 0, rowL ca)] (.pv (.int .i64 (0))) 0 []) (hb : Pure Try.prog 11 #[.slice none 0 0] (.int .i64 (8))) :
    FnL Try.prog 10 2 [fldS 0 l, .ls 1 ca.length, .pv (.slice none 0 0)] [(0, 0, rowP l), (1, 0, rowL ca)] (.pv (.tuple #[.slice none 0 0, .int .i64 8])) 0 [] :=
  fnl_run 300 [] [.f [0] [fldS 0 l] [(0, 0, rowP l)] (.pv (.int .i64 (0))) 0 [], .f [1] [.ls 0 ca.length] [(0, 0, rowL ca)] (.pv (.int .i64 (0))) 0 [], .r (.int .i64 (8))]
     True.intro (And.intro hf (And.intro (Eq.refl (List.map (SV.ren (renU [0] 4)) [fldS 0 l])) (And.intro (reflH (renU [0] 4) [(0, 0, rowP l)]) (And.intro ha (And.intro (Eq.refl (List.map (SV.ren (renU [1] 4)) [.ls 0 ca.length])) (And.intro (reflH (renU [1] 4) [(0, 0, rowL ca)]) (And.intro hb True.intro))))))) (by kernel_rfl)

set_option maxRecDepth 100000 in
theorem mgn_l {l : List Pt} {ca : List Ld} (hf : FnL Try.prog 22 1 [fldS 0 l] [(0, 0, rowP l)] (.pv (.int .i64 (0))) 0 []) (hb : Pure Try.prog 11 #[.slice none 0 0] (.int .i64 (8))) (ha : FnL Try.prog 11 1 [.ls 0 ca.length] [(0, 0, rowL ca)] (.pv (.int .i64 (0))) 0 []) :
    FnL Try.prog 10 2 [fldS 0 l, .pv (.slice none 0 0), .ls 1 ca.length] [(0, 0, rowP l), (1, 0, rowL ca)] (.pv (.tuple #[.slice none 0 0, .int .i64 8])) 0 [] :=
  fnl_run 300 [] [.f [0] [fldS 0 l] [(0, 0, rowP l)] (.pv (.int .i64 (0))) 0 [], .r (.int .i64 (8)), .f [1] [.ls 0 ca.length] [(0, 0, rowL ca)] (.pv (.int .i64 (0))) 0 []]
     True.intro (And.intro hf (And.intro (Eq.refl (List.map (SV.ren (renU [0] 4)) [fldS 0 l])) (And.intro (reflH (renU [0] 4) [(0, 0, rowP l)]) (And.intro hb (And.intro ha (And.intro (Eq.refl (List.map (SV.ren (renU [1] 4)) [.ls 0 ca.length])) (And.intro (reflH (renU [1] 4) [(0, 0, rowL ca)]) True.intro))))))) (by kernel_rfl)

set_option maxRecDepth 100000 in
theorem mgn_z {l : List Pt} (hf : FnL Try.prog 22 1 [fldS 0 l] [(0, 0, rowP l)] (.pv (.int .i64 (4))) 0 []) (hb : Pure Try.prog 11 #[.slice none 0 0] (.int .i64 (8))) :
    FnL Try.prog 10 1 [fldS 0 l, .pv (.slice none 0 0), .pv (.slice none 0 0)] [(0, 0, rowP l)] (.pv (.tuple #[.slice none 0 0, .int .i64 4])) 0 [] :=
  fnl_run 300 [] [.f [0] [fldS 0 l] [(0, 0, rowP l)] (.pv (.int .i64 (4))) 0 [], .r (.int .i64 (8)), .r (.int .i64 (8))]
     True.intro (And.intro hf (And.intro (Eq.refl (List.map (SV.ren (renU [0] 4)) [fldS 0 l])) (And.intro (reflH (renU [0] 4) [(0, 0, rowP l)]) (And.intro hb (And.intro hb True.intro))))) (by kernel_rfl)
abbrev one1 : List Ld := [⟨1, 1, 1⟩]
def lgf (i : Nat) : Ld := ⟨i, 1, i⟩
def lg : List Ld := (List.range 301).map lgf
abbrev xb2 : List Ld := [⟨0, 0, 1⟩]
abbrev xb3 : List Ld := [⟨1, 1, -1⟩]
abbrev xb4 : List Ld := [⟨1, 1, 65536⟩]
abbrev xb5 : List Ld := [⟨1, 1, 1⟩, ⟨1, 1, 2⟩]
abbrev xb6 : List Ld := [⟨2, 1, 1⟩, ⟨1, 1, 2⟩]
abbrev xb7 : List Ld := [⟨1, 1, 1⟩, ⟨2, 1, 1⟩]
theorem ck8 {c : List Ld} (hi : ∀ x ∈ c, I64L x) (hn : c.length ≤ 100000) (h : ¬ VC c) : FnL Try.prog 11 1 [.ls 0 c.length] [(0, 0, rowL c)] (.pv (.int .i64 8)) 0 [] := by
  have := PCk_any hi hn
  unfold ckL at this
  rw [if_neg h] at this
  exact this
theorem i1 {a : Ld} (h : I64 a.n ∧ I64 a.d) : ∀ x ∈ [a], I64L x := by
  intro x hx
  rw [List.mem_singleton] at hx
  subst hx
  exact ⟨h.1, h.2⟩
theorem i2 {a b : Ld} (h : I64 a.n ∧ I64 a.d) (k : I64 b.n ∧ I64 b.d) : ∀ x ∈ [a, b], I64L x := by
  intro x hx
  rcases List.mem_cons.1 hx with rfl | hx
  · exact ⟨h.1, h.2⟩
  · exact i1 k x hx
theorem one_i : ∀ x ∈ one1, I64L x := i1 (by decide)
theorem one_vc : VC one1 := ⟨by decide, by decide, by decide, fun k x y _ h => by simp at h⟩
theorem lg_len : lg.length = 301 := by unfold lg; simp
theorem lg_get {k : Nat} (h : k < 301) : lg[k]? = some (lgf k) := by unfold lg; simp [h]
theorem lg_i : ∀ x ∈ lg, I64L x := by
  intro x hx
  unfold lg at hx
  obtain ⟨i, hi, rfl⟩ := List.mem_map.1 hx
  have := List.mem_range.1 hi
  exact ⟨⟨by show (_ : Int) ≤ (i : Int); omega, by show (i : Int) ≤ _; omega⟩, by show I64 1; decide⟩
theorem ckl : FnL Try.prog 11 1 [.ls 0 lg.length] [(0, 0, rowL lg)] (.pv (.int .i64 8)) 0 [] := ck8 lg_i (by rw [lg_len]; omega) fun h => by have := h.len; rw [lg_len] at this; omega
theorem ck2 : FnL Try.prog 11 1 [.ls 0 1] [(0, 0, rowL xb2)] (.pv (.int .i64 8)) 0 [] := ck8 (i1 (by decide)) (by decide) fun h => absurd (h.ok _ List.mem_cons_self) (by decide)
theorem ck3 : FnL Try.prog 11 1 [.ls 0 1] [(0, 0, rowL xb3)] (.pv (.int .i64 8)) 0 [] := ck8 (i1 (by decide)) (by decide) fun h => absurd (h.ok _ List.mem_cons_self) (by decide)
theorem ck4 : FnL Try.prog 11 1 [.ls 0 1] [(0, 0, rowL xb4)] (.pv (.int .i64 8)) 0 [] := ck8 (i1 (by decide)) (by decide) fun h => absurd (h.ok _ List.mem_cons_self) (by decide)
theorem ck5 : FnL Try.prog 11 1 [.ls 0 2] [(0, 0, rowL xb5)] (.pv (.int .i64 8)) 0 [] := ck8 (i2 (by decide) (by decide)) (by decide) fun h => absurd (h.fol 0 _ _ rfl rfl) (by decide)
theorem ck6 : FnL Try.prog 11 1 [.ls 0 2] [(0, 0, rowL xb6)] (.pv (.int .i64 8)) 0 [] := ck8 (i2 (by decide) (by decide)) (by decide) fun h => absurd (h.fol 0 _ _ rfl rfl) (by decide)
theorem ck7 : FnL Try.prog 11 1 [.ls 0 2] [(0, 0, rowL xb7)] (.pv (.int .i64 8)) 0 [] := ck8 (i2 (by decide) (by decide)) (by decide) fun h => absurd (h.fol 0 _ _ rfl rfl) (by decide)
theorem ck1 : FnL Try.prog 11 1 [.ls 0 1] [(0, 0, rowL one1)] (.pv (.int .i64 0)) 0 [] := PCk_ok one_i one_vc
theorem fk0 : FnL Try.prog 22 1 [fldS 0 gl] [(0, 0, rowP gl)] (.pv (.int .i64 0)) 0 [] := by
  have := PCheck_any gl
  rw [err_val.2 gl_val] at this
  exact this
theorem fkz : FnL Try.prog 22 1 [fldS 0 zl] [(0, 0, rowP zl)] (.pv (.int .i64 4)) 0 [] := by
  have := PCheck_any zl
  rw [zl_err] at this
  exact this
set_option maxRecDepth 100000 in
theorem ckn : Pure Try.prog 11 #[.slice none 0 0] (.int .i64 8) := pure_run (args := [.slice none 0 0]) 300 [] (And.intro rfl True.intro) (by kernel_rfl)
set_option maxRecDepth 100000 in
theorem atn : Pure Try.prog 9 #[.slice none 0 0, ratioV 0 0] (.tuple #[.int .i64 0, .int .i64 8]) := pure_run (args := [.slice none 0 0, ratioV 0 0]) 300 [.r (.int .i64 8), .r (.int .i64 8)] (And.intro rfl (And.intro ckn (And.intro (Check_bad (n := 0) (d := 0) (by decide) (by decide) (by decide)) True.intro))) (by kernel_rfl)
theorem rck0 : Pure Try.prog 19 #[ratioV 0 0] (.int .i64 8) := Check_bad (n := 0) (d := 0) (by decide) (by decide) (by decide)
theorem rck2 : Pure Try.prog 19 #[ratioV 2 2] (.int .i64 8) := Check_bad (n := 2) (d := 2) (by decide) (by decide) (by decide)

theorem of_a : Pure Try.prog 5 #[.agg #[.slice none 0 0], ratioV 0 1] (.tuple #[.slice none 0 0, .int .i64 42]) := pure_nil2 (Of_none (tm1 (n := 0) (by decide) (by decide)))
theorem tE_00 : tE [] 0 0 = 8 := by unfold tE; rw [if_pos (err_val.2 nl_val), if_neg (by decide)]
theorem of_d : Pure Try.prog 5 #[.agg #[.slice none 0 0], ratioV 0 0] (.tuple #[.slice none 0 0, .int .i64 8]) := by
  have := Of_err (l := []) (n := 0) (d := 0) (by decide) (by decide) (by rw [tE_00]; decide)
  rw [tE_00] at this
  exact pure_nil2 this
theorem tE_g0 : tE gl 0 0 = 8 := by unfold tE; rw [if_pos (err_val.2 gl_val), if_neg (by decide)]
theorem of_b : FnL Try.prog 5 1 [fldS 0 gl, .pv (ratioV 0 0)] [(0, 0, rowP gl)] (.pv (.tuple #[.slice none 0 0, .int .i64 8])) 0 [] := by
  have := Of_err (l := gl) (n := 0) (d := 0) (by decide) (by decide) (by rw [tE_g0]; decide)
  rw [tE_g0] at this
  exact this
theorem tE_z0 : tE zl 0 0 = 4 := by unfold tE; rw [if_neg (by rw [zl_err]; decide), zl_err]
theorem of_c : FnL Try.prog 5 1 [fldS 0 zl, .pv (ratioV 0 0)] [(0, 0, rowP zl)] (.pv (.tuple #[.slice none 0 0, .int .i64 4])) 0 [] := by
  have := Of_err (l := zl) (n := 0) (d := 0) (by decide) (by decide) (by rw [tE_z0]; decide)
  rw [tE_z0] at this
  exact this
abbrev fa : List Pt := [⟨1, 0, 1⟩, ⟨2, 0, 2⟩, ⟨3, 0, 2⟩, ⟨4, 20, 0⟩]
abbrev fb : List Pt := [⟨1, 0, 1⟩, ⟨2, 0, 2⟩, ⟨3, 0, 2⟩, ⟨4, 0, -1⟩]
theorem fa_val : Val fa := ⟨by decide, by decide, up_of (by decide)⟩
theorem fb_val : Val fb := ⟨by decide, by decide, up_of (by decide)⟩
abbrev fac : List Ld := [⟨-5, 1, 4⟩, ⟨10, 1, 2⟩]
abbrev fbc : List Ld := [⟨-5, 1, 4⟩, ⟨0, 1, 2⟩]
theorem fa_c : crest fa (-5) 1 = fac := by
  have ht : Tm (-5) 1 := tm1 (by decide) (by decide)
  have e1 : ldr fa (-5) 1 = ⟨4, 20, 0⟩ := ldr_of fa_val (by simp) (by decide)
  have e2 : ldr fa 10 1 = ⟨2, 0, 2⟩ := ldr_of fa_val (by simp) (by decide)
  have n1 : nextM ⟨4, 20, 0⟩ fa = some ⟨10, 1, 4, 2⟩ := by
    unfold nextM
    simp only [List.foldl_cons, List.foldl_nil]
    unfold fstep
    rw [nx_eq (p := ⟨4, 20, 0⟩) (q := ⟨1, 0, 1⟩) (n := 20) (d := 1) (by decide) (by decide) (by decide) (by decide) (by decide),
      nx_eq (p := ⟨4, 20, 0⟩) (q := ⟨2, 0, 2⟩) (n := 10) (d := 1) (by decide) (by decide) (by decide) (by decide) (by decide),
      nx_eq (p := ⟨4, 20, 0⟩) (q := ⟨3, 0, 2⟩) (n := 10) (d := 1) (by decide) (by decide) (by decide) (by decide) (by decide), nextOf_no (p := ⟨4, 20, 0⟩) (q := ⟨4, 20, 0⟩) (by decide)]
    rfl
  have n2 : nextM ⟨2, 0, 2⟩ fa = none := nm_none (by decide)
  have b1 := base_ldr fa_val (by simp) ht
  rw [e1] at b1
  refine crest_eq fa_val (by simp) ht e1 ?_
  have b2 := base_next fa_val b1 n1
  have s := Cr.step b1 n1 (Cr.stop b2 (by rw [e2]; exact n2))
  rw [show nxL fa ⟨10, 1, 4, 2⟩ = ⟨10, 1, 2⟩ by unfold nxL; rw [e2]] at s
  exact s
theorem fb_c : crest fb (-5) 1 = fbc := by
  have ht : Tm (-5) 1 := tm1 (by decide) (by decide)
  have e1 : ldr fb (-5) 1 = ⟨4, 0, -1⟩ := ldr_of fb_val (by simp) (by decide)
  have e2 : ldr fb 0 1 = ⟨2, 0, 2⟩ := ldr_of fb_val (by simp) (by decide)
  have n1 : nextM ⟨4, 0, -1⟩ fb = some ⟨0, 1, 4, 1⟩ := by
    unfold nextM
    simp only [List.foldl_cons, List.foldl_nil]
    unfold fstep
    rw [nx_eq (p := ⟨4, 0, -1⟩) (q := ⟨1, 0, 1⟩) (n := 0) (d := 1) (by decide) (by decide) (by decide) (by decide) (by decide),
      nx_eq (p := ⟨4, 0, -1⟩) (q := ⟨2, 0, 2⟩) (n := 0) (d := 1) (by decide) (by decide) (by decide) (by decide) (by decide),
      nx_eq (p := ⟨4, 0, -1⟩) (q := ⟨3, 0, 2⟩) (n := 0) (d := 1) (by decide) (by decide) (by decide) (by decide) (by decide), nextOf_no (p := ⟨4, 0, -1⟩) (q := ⟨4, 0, -1⟩) (by decide)]
    rfl
  have n2 : nextM ⟨2, 0, 2⟩ fb = none := nm_none (by decide)
  have b1 := base_ldr fb_val (by simp) ht
  rw [e1] at b1
  refine crest_eq fb_val (by simp) ht e1 ?_
  have b2 := base_next fb_val b1 n1
  have s := Cr.step b1 n1 (Cr.stop b2 (by rw [e2]; exact n2))
  rw [show nxL fb ⟨0, 1, 4, 1⟩ = ⟨0, 1, 2⟩ by unfold nxL; rw [e2]] at s
  exact s
theorem of_m : FnL Try.prog 5 1 [fldS 0 fa, .pv (ratioV (-5) 1)] [(0, 0, rowP fa)] (.tu [.one (.ls 1 2), .one (.pv (.int .i64 0))]) 1 [(1, 0, rowL fac)] := by
  have := Of_ok fa_val (by simp) (tm1 (n := -5) (by decide) (by decide))
  rw [fa_c] at this
  exact this
theorem of_o : FnL Try.prog 5 1 [fldS 0 fb, .pv (ratioV (-5) 1)] [(0, 0, rowP fb)] (.tu [.one (.ls 1 2), .one (.pv (.int .i64 0))]) 1 [(1, 0, rowL fbc)] := by
  have := Of_ok fb_val (by simp) (tm1 (n := -5) (by decide) (by decide))
  rw [fb_c] at this
  exact this

theorem at_e : FnL Try.prog 9 1 [.ls 0 1, .pv (ratioV 0 1)] [(0, 0, rowL one1)] (.pv (.tuple #[.int .i64 0, .int .i64 44])) 0 [] := CAt_past one_i one_vc (tm1 (by decide) (by decide)) (x0 := ⟨1, 1, 1⟩) rfl (by decide)
theorem at_f : FnL Try.prog 9 1 [.ls 0 1, .pv (ratioV 2 2)] [(0, 0, rowL one1)] (.pv (.tuple #[.int .i64 0, .int .i64 8])) 0 [] := cat_bad2 ck1 rck2
theorem l3_get {k : Nat} {x : Ld} (h : (lg.take 300)[k]? = some x) : k < 300 ∧ x = lgf k := by
  rw [List.getElem?_take] at h
  split at h
  · rename_i hk
    rw [lg_get (by omega)] at h
    cases h
    exact ⟨hk, rfl⟩
  · cases h
theorem l3_len : (lg.take 300).length = 300 := by rw [List.length_take, lg_len]; rfl
theorem l3_vc : VC (lg.take 300) := by
  refine ⟨by rw [l3_len]; omega, by rw [l3_len]; omega, fun x hx => ?_, fun k x y h1 h2 => ?_⟩
  · obtain ⟨k, hk⟩ := List.getElem?_of_mem hx
    obtain ⟨h, rfl⟩ := l3_get hk
    skip
    show (okB (k : Int) 1 && (decide (0 ≤ (k : Int)) && decide ((k : Int) ≤ 65535))) = true
    rw [okB_whole (by omega), dt (by omega), dt (by omega)]
    rfl
  · obtain ⟨_, rfl⟩ := l3_get h1
    obtain ⟨_, rfl⟩ := l3_get h2
    unfold folB lgf
    have e : (((k + 1 : Nat) : Int) == (k : Int)) = false := by rw [beq_eq_false_iff_ne]; omega
    have e2 : (k : Int) * 1 - ((k + 1 : Nat) : Int) * 1 = -1 := by omega
    show ((!(((k + 1 : Nat) : Int) == (k : Int))) && decide (((k : Int) * 1 - ((k + 1 : Nat) : Int) * 1).sign < 0)) = true
    rw [e, e2]
    rfl
theorem at_g : FnL Try.prog 9 1 [.lq 0 3 0 300, .pv (ratioV 1000 1)] [(0, 0, rowL lg)] (.pv (.tuple #[.int .i64 299, .int .i64 0])) 0 [] := by
  refine fnl_head ?_ (by rw [lg_len]; omega) (by decide)
  have h299 : (lg.take 300)[299]? = some (lgf 299) := by rw [List.getElem?_take, if_pos (by decide)]; exact lg_get (by omega)
  have h0 : (lg.take 300)[0]? = some (lgf 0) := by rw [List.getElem?_take, if_pos (by decide)]; exact lg_get (by omega)
  exact CAt_ok (fun x hx => lg_i x (List.mem_of_mem_take hx)) l3_vc (tm1 (n := 1000) (by decide) (by decide)) h0 (by decide) (k := 299) (x := lgf 299) ⟨h299, by decide, fun t y ht hy => by
    obtain ⟨h, rfl⟩ := l3_get hy
    rw [cv_neg]
    show (t : Int) * 1 < 1000 * 1
    omega, fun t y ht hy => by have := (l3_get hy).1; omega⟩

theorem leads_one : ∀ t ∈ [Rn.mk 1 1], LdAt gl one1 t ⟨1, 0, 2⟩ := by
  intro t ht
  rw [List.mem_singleton] at ht
  subst ht
  exact ⟨LA_ok (by decide) one_i (by decide) (tm1 (n := 1) (by decide) (by decide)) (k := 0) (x := ⟨1, 1, 1⟩) ⟨rfl, by decide, fun t y ht hy => by omega, fun t y ht hy => by have := get_lt hy; simp at this; omega⟩, by simp⟩
theorem mrun_one : mrun (fun _ => ⟨1, 0, 2⟩) (fun _ => ⟨1, 0, 2⟩) [] [Rn.mk 1 1] = one1 := by
  unfold mrun mrun hiP loP
  rw [show (if ld 1 1 (Pt.mk 1 0 2) (Pt.mk 1 0 2) = true then Pt.mk 1 0 2 else Pt.mk 1 0 2) = Pt.mk 1 0 2 by split <;> rfl]
  rw [mstep_none (nextOf_no (by decide))]
  rfl
theorem mgd_one : FnL Try.prog 24 3 [fldS 0 gl, .ls 1 1, .ls 2 1] [(0, 0, rowP gl), (1, 0, rowL one1), (2, 0, rowL one1)] (.ls 3 1) 1 [(3, 0, rowL one1)] := by
  have h := Mgd_ok gl_val (ca := one1) (cb := one1) (y := ⟨1, 1⟩) (rs := []) (A := fun _ => ⟨1, 0, 2⟩) (B := fun _ => ⟨1, 0, 2⟩) (fun x hx => by
    have : x = ⟨1, 1, 1⟩ := by simpa using hx
    subst this
    exact ⟨by decide, by decide, by decide⟩) (by decide) (List.Perm.refl _) (by simp [ordR]) leads_one leads_one
  have e : mrun (fun _ => ⟨1, 0, 2⟩) (fun _ => ⟨1, 0, 2⟩) [] (Rn.mk 1 1 :: cmpA ⟨1, 1⟩ []) = one1 := mrun_one
  rw [e] at h
  exact h
theorem all_one : HasAll gl one1 := fun x hx => by
  rw [List.mem_singleton] at hx
  subst hx
  exact ⟨⟨1, 0, 2⟩, by simp, rfl⟩
theorem no_nine (n d : Int) : ¬ HasAll gl [⟨n, d, 9⟩] := fun h => by
  obtain ⟨p, hp, e⟩ := h _ List.mem_cons_self
  have : ∀ p ∈ gl, p.id ≠ 9 := by decide
  exact this p hp e
abbrev n2 : List Ld := [⟨2, 1, 9⟩]
abbrev n1 : List Ld := [⟨1, 1, 9⟩]
theorem vc1 {a : Ld} (h : okLd a = true) : VC [a] := ⟨by simp, by simp, fun x hx => by rw [List.mem_singleton] at hx; rw [hx]; exact h, fun k x y _ h => by simp at h⟩
theorem mg_i : FnL Try.prog 10 3 [fldS 0 gl, .ls 1 1, .ls 2 1] [(0, 0, rowP gl), (1, 0, rowL one1), (2, 0, rowL n2)] (.pv (.tuple #[.slice none 0 0, .int .i64 2])) 0 [] :=
  mg_arg (c := one1) (d := n2) fk0 ck1 (PCk_ok (i1 (by decide)) (vc1 (by decide))) rfl (by decide) rfl (by decide) (by decide)
theorem mg_j : FnL Try.prog 10 3 [fldS 0 gl, .ls 1 1, .ls 2 1] [(0, 0, rowP gl), (1, 0, rowL one1), (2, 0, rowL n1)] (.pv (.tuple #[.slice none 0 0, .int .i64 6])) 0 [] :=
  mg_none2 (c := one1) (d := n1) fk0 ck1 (PCk_ok (i1 (by decide)) (vc1 (by decide))) rfl (by decide) rfl (by decide) (by decide) (FindAll_yes gl_val (by decide) all_one) (FindAll_no gl_val (by decide) (no_nine 1 1))
theorem mg_k : FnL Try.prog 10 3 [fldS 0 gl, .ls 1 1, .ls 2 1] [(0, 0, rowP gl), (1, 0, rowL one1), (2, 0, rowL one1)] (.tu [.one (.ls 3 1), .one (.pv (.int .i64 0))]) 1 [(3, 0, rowL one1)] :=
  mg_ok (s := one1) (c := one1) (d := one1) fk0 ck1 ck1 rfl (by decide) rfl (by decide) (by decide) (FindAll_yes gl_val (by decide) all_one) (FindAll_yes gl_val (by decide) all_one) mgd_one
theorem mgr {c : List Ld} (h : FnL Try.prog 11 1 [.ls 0 c.length] [(0, 0, rowL c)] (.pv (.int .i64 8)) 0 []) : FnL Try.prog 10 3 [fldS 0 gl, .ls 1 1, .ls 2 c.length] [(0, 0, rowP gl), (1, 0, rowL one1), (2, 0, rowL c)] (.pv (.tuple #[.slice none 0 0, .int .i64 8])) 0 [] := mg_bad2 (c := one1) fk0 ck1 h
theorem mgl {c : List Ld} (h : FnL Try.prog 11 1 [.ls 0 c.length] [(0, 0, rowL c)] (.pv (.int .i64 8)) 0 []) : FnL Try.prog 10 3 [fldS 0 gl, .ls 1 c.length, .ls 2 1] [(0, 0, rowP gl), (1, 0, rowL c), (2, 0, rowL one1)] (.pv (.tuple #[.slice none 0 0, .int .i64 8])) 0 [] := mg_bad1 (d := one1) fk0 h ck1
end Go.Proofs.Ytoheadpehomdjaa
