/-
  TopMoves holds of every field and two times. Conditions: none.
-/
import Derived.Test.YtpngjeloiifgnaaGreatW46
import Derived.Test.YtpngjeloiifgnaaGreatJf
import Derived.Test.YtpngjeloiifgnaaGreatW41
import Derived.Test.YtpngjeloiifgnaaGreatW37
import Derived.Test.YtpngjeloiifgnaaGreatFq
import Derived.Test.YtpngjeloiifgnaaGreatW30
import Derived.Test.YtpngjeloiifgnaaGreatW36
namespace Go.Proofs.YtpngjeloiifgnaaGreat
open Go.RowKit
set_option maxRecDepth 100000 in
theorem a5_path (hnew : FnL Tryz.prog 31 0 [] [] (.ag [.ls 0 0]) 1 [(0, 0, rowP [])]) (hput : FnL Tryz.prog 30 1 [fldS 0 [], .pv (pointV 3 1 2)] [(0, 0, rowP [])] (.tu [.ag [.ls 1 1], .one (.pv (.int .i64 0))]) 1 [(1, 0, rowP [Pt.mk 3 1 2])]) (hof : FnL Tryz.prog 32 1 [fldS 0 [Pt.mk 3 1 2], .pv (ratioV 1 2)] [(0, 0, rowP [Pt.mk 3 1 2])] (.tu [.one (.ls 1 1), .one (.pv (.int .i64 0))]) 1 [(1, 0, rowL [Ld.mk 1 2 3])]) (hat : Pure Tryz.prog 33 #[pointV 3 1 2, ratioV 1 2] (.tuple #[ratioV 2 1, .int .i64 0])) (hi : 0 ≤ (0 : Int) ∧ (0 : Int) < (1 : Int)) :
    FnL Tryz.prog 11 0 [] [] (.pv (.bool true)) 0 [] :=
  fnl_run 300 [] [.f [] [] [] (.ag [.ls 0 0]) 1 [(0, 0, rowP [])], .f [0] [fldS 0 [], .pv (pointV 3 1 2)] [(0, 0, rowP [])] (.tu [.ag [.ls 1 1], .one (.pv (.int .i64 0))]) 1 [(1, 0, rowP [Pt.mk 3 1 2])], .f [1] [fldS 0 [Pt.mk 3 1 2], .pv (ratioV 1 2)] [(0, 0, rowP [Pt.mk 3 1 2])] (.tu [.one (.ls 1 1), .one (.pv (.int .i64 0))]) 1 [(1, 0, rowL [Ld.mk 1 2 3])], .r (.tuple #[ratioV 2 1, .int .i64 0]), .k, .k, .k, .k, .r (.int .i64 (3)), .k, .k, .k]
     True.intro (And.intro hnew (And.intro (Eq.refl (List.map (SV.ren (renU [] 0)) [])) (And.intro (reflH (renU [] 0) []) (And.intro hput (And.intro (Eq.refl (List.map (SV.ren (renU [0] 1)) [fldS 0 [], .pv (pointV 3 1 2)])) (And.intro (reflH (renU [0] 1) [(0, 0, rowP [])]) (And.intro hof (And.intro (Eq.refl (List.map (SV.ren (renU [1] 3)) [fldS 0 [Pt.mk 3 1 2], .pv (ratioV 1 2)])) (And.intro (reflH (renU [1] 3) [(0, 0, rowP [Pt.mk 3 1 2])]) (And.intro hat (And.intro hi (And.intro (ra_li (show [Ld.mk 1 2 3][0]? = some (Ld.mk 1 2 3) from rfl)) True.intro)))))))))))) (by kernel_rfl)
theorem jnil_fld {f : FuncId} (h : FnL Tryz.prog f 0 [] [] (.pv (.agg #[.slice none 0 0])) 0 []) : FnL Tryz.prog f 0 [] [] (.ag [.ls 0 0]) 1 [(0, 0, rowP [])] := by
  intro w β us hH hd hi
  refine (h w β us hH hd hi).mono fun e w' ⟨v, β', he, hle, hx, hh, hd'⟩ => ?_
  cases hx
  have hd0 := hd' 0 (by omega)
  have hle0 : β'.le (β'.setG 0 (.slice none 0 0)) := Bl.le_setG hd0.1 hd0.2
  have ho : w'.ownsRow w.heap.size 68 3 (.slice none 0 0) 0 [] := ⟨rfl, Or.inl ⟨rfl, rfl⟩⟩
  have look : ∀ {b o : Nat} {s t : SV}, lookH [(0, 0, s)] b o = some t → b = 0 ∧ o = 0 ∧ t = s := by
    intro b o s t h
    rw [lookH_cons] at h
    split at h
    · rename_i e; cases h; exact ⟨e.1.symm, e.2.symm, rfl⟩
    · cases h
  refine ⟨_, β'.setG 0 (.slice none 0 0), he, Bl.le_trans hle hle0, ⟨[.slice none 0 0], ⟨⟨Bl.setG_same _ _ _, none, 0, rfl⟩, True.intro⟩, rfl⟩, ?_, fun b hb => ⟨(hd' b (by omega)).1, by unfold Bl.setG; simp only [if_neg (show b ≠ 0 by omega)]; exact (hd' b (by omega)).2⟩⟩
  refine ⟨hh.gr, hh.live, hh.inj, hh.new, fun c r hc => ?_, fun c o s hs hsr => ?_, fun c o e es n xs hs => ?_, fun c o e es n xs c' o' e' es' n' xs' u v hs hs' h1 h2 hne => ?_⟩
  · have hc' : β' c = some r := hc
    have : c ≠ 0 := fun e => by subst e; rw [hd0.1] at hc'; cases hc'
    show (if c = 0 then _ else β'.g c) = none
    rw [if_neg this]
    exact hh.sep c r hc'
  · obtain ⟨_, _, rfl⟩ := look hs; cases hsr
  · obtain ⟨rfl, _, e1⟩ := look hs
    cases e1
    exact ⟨_, Bl.setG_same _ _ _, owns_rd ho, (fun v hv => by cases hv), fun h => by omega, fun _ => ho, fun _ c r hc hu => by cases hu⟩
  · exact (hne ((look hs).1.trans (look hs').1.symm)).elim
abbrev p05 : Pt := ⟨3, 1, 2⟩
theorem p05_val : Val [p05] := ⟨by decide, by decide, fun k p q hp hq => by have := get_lt hq; simp at this⟩
theorem val0 : Val [] := ⟨by decide, by decide, fun k p q hp hq => by simp at hp⟩
theorem p05_put : FnL Tryz.prog 30 1 [fldS 0 [], .pv (pointV 3 1 2)] [(0, 0, rowP [])] (.tu [.ag [.ls 1 1], .one (.pv (.int .i64 0))]) 1 [(1, 0, rowP [p05])] := by
  have cw := CWP_any [] 3 1 2
  rw [if_pos (err_val.2 val0), if_pos (show okP 3 1 2 = true by decide)] at cw
  exact pput_ok (l := []) (k := 0) (s1 := 0) (s2 := 1) (s3 := 1) (by decide) cw (find_no val0 (by decide) (fun t p h => by omega) (fun t p _ h => by simp at h)) (by decide) (wrap_sum (by decide) (by decide) (by decide)) (by decide) (wrap_sum (by decide) (by decide) (by decide)) (by decide) (wrap_sum (by decide) (by decide) (by decide)) (by decide) (Grow_pos (by decide) (by decide)) (by decide) (by decide) (by decide)
theorem p05_tm : Tm 1 2 := ⟨by decide, by decide, by decide⟩
theorem p05_crest : crest [p05] 1 2 = [⟨1, 2, 3⟩] := by
  have e1 : ldr [p05] 1 2 = p05 := ldr_of p05_val (by simp) (fun q hq => by rw [List.mem_singleton.1 hq]; exact ld_irr _)
  have b := base_ldr p05_val (by simp) p05_tm
  rw [e1] at b
  exact crest_eq p05_val (by simp) p05_tm e1 (Cr.stop b (nm_none fun q hq => by rw [List.mem_singleton.1 hq]; decide))
theorem p05_of : FnL Tryz.prog 32 1 [fldS 0 [p05], .pv (ratioV 1 2)] [(0, 0, rowP [p05])] (.tu [.one (.ls 1 1), .one (.pv (.int .i64 0))]) 1 [(1, 0, rowL [⟨1, 2, 3⟩])] := by
  have := Of_ok p05_val (by simp) p05_tm
  rw [p05_crest] at this
  exact this
theorem p05_at : Pure Tryz.prog 33 #[pointV 3 1 2, ratioV 1 2] (.tuple #[ratioV 2 1, .int .i64 0]) := by
  obtain ⟨N, D, E, hr, h⟩ := At_res (pi := 3) (pa := 1) (pb := 2) (n := 1) (d := 2) (by decide) (by decide) (by decide) (by decide)
  obtain ⟨rfl, rfl, rfl⟩ := hr.one (n := 2) (d := 1) (by decide) (by decide) (by decide) (by decide) (by decide)
  exact h
theorem Alive05 : FnL Tryz.prog 11 0 [] [] (.pv (.bool true)) 0 [] := a5_path (hnew := jnil_fld new_path) (hput := p05_put) (hof := p05_of) (hat := p05_at) (hi := by decide)
theorem filter_mid {α : Type} {P : α → Bool} {L : List α} {a m : Nat} (ham : a + m ≤ L.length) (h1 : ∀ i x, i < a → L[i]? = some x → P x = false) (h2 : ∀ i x, a ≤ i → i < a + m → L[i]? = some x → P x = true) (h3 : ∀ i x, a + m ≤ i → L[i]? = some x → P x = false) : (L.filter P).length = m := by
  have e : L = L.take a ++ ((L.drop a).take m ++ L.drop (a + m)) := by rw [← List.drop_drop, List.take_append_drop, List.take_append_drop]
  have f1 : (L.take a).filter P = [] := List.filter_eq_nil_iff.2 fun x hx => by
    obtain ⟨i, hi⟩ := List.mem_iff_getElem?.1 hx
    rw [List.getElem?_take] at hi
    split at hi
    · rename_i g; simp [h1 i x g hi]
    · cases hi
  have f2 : ((L.drop a).take m).filter P = (L.drop a).take m := List.filter_eq_self.2 fun x hx => by
    obtain ⟨i, hi⟩ := List.mem_iff_getElem?.1 hx
    rw [List.getElem?_take] at hi
    split at hi
    · rename_i g
      rw [List.getElem?_drop] at hi
      exact h2 (a + i) x (by omega) (by omega) hi
    · cases hi
  have f3 : (L.drop (a + m)).filter P = [] := List.filter_eq_nil_iff.2 fun x hx => by
    obtain ⟨i, hi⟩ := List.mem_iff_getElem?.1 hx
    rw [List.getElem?_drop] at hi
    simp [h3 (a + m + i) x (by omega) hi]
  rw [e, List.filter_append, List.filter_append, f1, f2, f3]
  simp only [List.nil_append, List.append_nil, List.length_take, List.length_drop]
  omega
section
variable {l : List Pt} {fn fd tn td : Int}
theorem bsx_ok (hv : Val l) {x : Mt} (h : x ∈ btwS l fn fd tn td) : MtOk x ∧ x ∈ msOf l ∧ fn * x.d < x.n * fd ∧ x.n * td ≤ tn * x.d := by
  obtain ⟨h1, h2, h3⟩ := btwS_mem.1 h
  have g2 := of_decide_eq_true h2
  have g3 := of_decide_eq_true h3
  have s2 := sg_cases (x.n * fd - fn * x.d)
  have s3 := sg_cases (x.n * td - tn * x.d)
  exact ⟨ms_ok hv x h1, h1, by omega, by omega⟩
theorem bsx_in {x : Mt} (h : x ∈ msOf l) (h1 : fn * x.d < x.n * fd) (h2 : x.n * td ≤ tn * x.d) : x ∈ btwS l fn fd tn td := by
  have s2 := sg_cases (x.n * fd - fn * x.d)
  have s3 := sg_cases (x.n * td - tn * x.d)
  exact btwS_mem.2 ⟨h, dt (by omega), dt (by omega)⟩
theorem bt_of {cn cd wn wd : Int} {x : Mt} (h : x ∈ btw l cn cd wn wd) : x ∈ msOf l ∧ cn * x.d < x.n * cd ∧ x.n * wd ≤ wn * x.d := by
  obtain ⟨h1, h3⟩ := List.mem_filter.1 h
  obtain ⟨h1, h2⟩ := List.mem_filter.1 h1
  have g2 := of_decide_eq_true h2
  have g3 := of_decide_eq_true h3
  have s2 := sg_cases (x.n * cd - cn * x.d)
  have s3 := sg_cases (x.n * wd - wn * x.d)
  exact ⟨h1, by omega, by omega⟩
theorem bsx_up (hv : Val l) {i j : Nat} {x y : Mt} (hij : i ≤ j) (hx : (btwS l fn fd tn td)[i]? = some x) (hy : (btwS l fn fd tn td)[j]? = some y) : x.n * y.d ≤ y.n * x.d := by
  rcases Nat.lt_or_ge i j with g | g
  · have pw : (btwS l fn fd tn td).Pairwise (fun a b => 0 ≤ b.n * a.d - a.n * b.d) := ((srt_time hv).filter _).filter _
    obtain ⟨li, ei⟩ := List.getElem?_eq_some_iff.1 hx
    obtain ⟨lj, ej⟩ := List.getElem?_eq_some_iff.1 hy
    have := List.pairwise_iff_getElem.1 pw i j li lj g
    rw [ei, ej] at this
    omega
  · have : i = j := by omega
    subst this
    rw [hx] at hy; cases hy
    exact Int.le_refl _
/-- At a time up to which all is told. -/
structure Mid5 (l : List Pt) (fn fd tn td cn cd : Int) (a : Nat) (s : List Pt) : Prop where
  tm : Tm cn cd
  lo : fn * cd ≤ cn * fd
  hi : cn * td ≤ tn * cd
  srt : Srt l cn cd s
  bef : ∀ i x, i < a → (btwS l fn fd tn td)[i]? = some x → x.n * cd ≤ cn * x.d
  aft : ∀ i x, a ≤ i → (btwS l fn fd tn td)[i]? = some x → cn * x.d < x.n * cd
theorem bsx_part (hv : Val l) (hf : Tm fn fd) (ht : Tm tn td) {cn cd n d : Int} (hc : Tm cn cd) (hn : Tm n d) (lo : fn * cd ≤ cn * fd) (hi : n * td ≤ tn * d) : btwS l cn cd n d = (btwS l fn fd tn td).filter (fun x => kpA cn cd x && kpB n d x) := by
  unfold btwS
  rw [List.filter_filter, List.filter_filter, List.filter_filter]
  refine List.filter_congr fun x hx => ?_
  have ox := ms_ok hv x (srt_mem.1 hx)
  have x0 := okB_den ox.ok
  have c0 := okB_den hc.ok
  have f0 := okB_den hf.ok
  have d0 := okB_den hn.ok
  have t0 := okB_den ht.ok
  cases h1 : kpA cn cd x with
  | false => simp
  | true =>
    cases h2 : kpB n d x with
    | false => simp
    | true =>
      have g1 := of_decide_eq_true h1
      have g2 := of_decide_eq_true h2
      have s1 := sg_cases (x.n * cd - cn * x.d)
      have s2 := sg_cases (x.n * d - n * x.d)
      have s3 := sg_cases (x.n * fd - fn * x.d)
      have s4 := sg_cases (x.n * td - tn * x.d)
      have k1 := frac_lt_le (an := -x.n) (ad := x.d) (bn := -cn) (bd := cd) (cn := -fn) (cd := fd) (by omega) (by omega) (by omega) (by rw [Int.neg_mul, Int.neg_mul]; omega) (by rw [Int.neg_mul, Int.neg_mul]; omega)
      rw [Int.neg_mul, Int.neg_mul] at k1
      have k2 := frac_ge (an := tn) (ad := td) (bn := n) (bd := d) (cn := x.n) (cd := x.d) (by omega) (by omega) (by omega) (by omega) (by omega)
      have e1 : kpA fn fd x = true := dt (by omega)
      have e2 : kpB tn td x = true := dt (by omega)
      rw [e1, e2]; rfl
abbrev tmT (l : List Pt) (L : List Mt) (r : List (Nat × SV)) : List (Nat × SV) := (3, .pp 1 0) :: (4, .pp 2 0) :: (5, .pp 3 0) :: (7, .lq 4 4 0 L.length) :: (9, .ls 5 l.length) :: (11, .ls 6 l.length) :: r
abbrev tmH (l : List Pt) (fn fd tn td : Int) (L : List Mt) (s e : List Pt) : List (Nat × Nat × SV) := [(1, 0, .ls 0 l.length), (2, 0, .pv (.int .i64 fn)), (2, 1, .pv (.int .i64 fd)), (3, 0, .pv (.int .i64 tn)), (3, 1, .pv (.int .i64 td)), (0, 0, rowP l), (4, 0, rowM L), (5, 0, rowN l.length s), (6, 0, rowN l.length e)]
theorem grp_ex {L : List Mt} {a : Nat} {mm : Mt} (h0 : L[a]? = some mm) {s e : List Pt} (hlen : L.length ≤ 100000) : ∀ (d b : Nat), b + d = L.length → ∃ m, b + m ≤ L.length ∧
    RunsL Tryz.prog 1 1 (loopOf Tryz.prog 4 1) 151 7 (tmT l L [(13, .pv (.int .i64 (a : Int))), (14, .pv (.int .i64 (b : Int)))]) (tmH l fn fd tn td L s e) (.exit 2) (tmT l L [(13, .pv (.int .i64 (a : Int))), (14, .pv (.int .i64 ((b + m : Nat) : Int)))]) (tmH l fn fd tn td L s e) ∧
    (∀ j, j < m → ∃ x, L[b + j]? = some x ∧ x.n = mm.n ∧ x.d = mm.d) ∧ (∀ y, L[b + m]? = some y → ¬ (y.n = mm.n ∧ y.d = mm.d))
  | 0, b, hb => ⟨0, by omega, tmi_end (hlt := df (by omega)), fun j hj => by omega, fun y hy => by have := get_lt hy; omega⟩
  | d + 1, b, hb => by
    obtain ⟨x, hx⟩ := get_some (l := L) (k := b) (by omega)
    have ha := get_lt h0
    by_cases g : x.n = mm.n ∧ x.d = mm.d
    · obtain ⟨m, h1, h2, h3, h4⟩ := grp_ex h0 (s := s) (e := e) hlen d (b + 1) (by omega)
      refine ⟨m + 1, by omega, ?_, fun j hj => ?_, fun y hy => h4 y (by rw [show b + 1 + m = b + (m + 1) by omega]; exact hy)⟩
      · rw [show b + (m + 1) = b + 1 + m by omega]
        exact tmi_yes (hm := hx) (hm0 := h0) (ib := ⟨by omega, by omega⟩) (ia := ⟨by omega, by omega⟩) (hlt := dt (by omega)) (hq := by simp [g.1, g.2]) (hs := i64_succ (by omega)) (r := h2)
      · cases j with
        | zero => exact ⟨x, hx, g⟩
        | succ j =>
          obtain ⟨z, hz, ez⟩ := h3 j (by omega)
          exact ⟨z, by rw [show b + (j + 1) = b + 1 + j by omega]; exact hz, ez⟩
    · refine ⟨0, by omega, tmi_no (hm := hx) (hm0 := h0) (ib := ⟨by omega, by omega⟩) (ia := ⟨by omega, by omega⟩) (hlt := dt (by omega)) (hq := ?_), fun j hj => by omega, fun y hy => ?_⟩
      · by_cases g1 : x.n = mm.n
        · by_cases g2 : x.d = mm.d
          · exact (g ⟨g1, g2⟩).elim
          · simp [g2]
        · simp [g1]
      · rw [Nat.add_zero, hx] at hy; cases hy
        exact g
theorem end_eq (hv : Val l) (hf : Tm fn fd) (ht : Tm tn td) {cn cd : Int} {a : Nat} {s e : List Pt} (M : Mid5 l fn fd tn td cn cd a s) (ha : (btwS l fn fd tn td).length ≤ a) (he : Srt l tn td e) : s = e := by
  refine (srt_keep hv M.tm.ok ht.ok M.hi ?_ M.srt).uniq he
  refine List.eq_nil_iff_forall_not_mem.2 fun x hx => ?_
  obtain ⟨h1, h2, h3⟩ := bt_of hx
  have ox := ms_ok hv x h1
  have x0 := okB_den ox.ok
  have c0 := okB_den M.tm.ok
  have f0 := okB_den hf.ok
  have k1 := frac_lt_le (an := -x.n) (ad := x.d) (bn := -cn) (bd := cd) (cn := -fn) (cd := fd) (by omega) (by omega) (by omega) (by rw [Int.neg_mul, Int.neg_mul]; omega) (by rw [Int.neg_mul, Int.neg_mul]; have := M.lo; omega)
  rw [Int.neg_mul, Int.neg_mul] at k1
  obtain ⟨i, hi⟩ := List.mem_iff_getElem?.1 (bsx_in (fn := fn) (fd := fd) (tn := tn) (td := td) h1 (by omega) h3)
  have := get_lt hi
  have := M.bef i x (by omega) hi
  omega
theorem tm_loop (hv : Val l) (hf : Tm fn fd) (ht : Tm tn td) {e : List Pt} (he : Srt l tn td e) : ∀ (N a : Nat) (cn cd : Int) (s : List Pt), (btwS l fn fd tn td).length ≤ a + N → Mid5 l fn fd tn td cn cd a s →
    RunsL Tryz.prog 1 1 (loopOf Tryz.prog 4 0) 151 7 (tmT l (btwS l fn fd tn td) [(13, .pv (.int .i64 (a : Int)))]) (tmH l fn fd tn td (btwS l fn fd tn td) s e) (.exit 0) [(3, .pp 1 0), (4, .pp 2 0), (5, .pp 3 0), (9, .ls 5 l.length), (11, .ls 6 l.length)] [(1, 0, .ls 0 l.length), (2, 0, .pv (.int .i64 fn)), (2, 1, .pv (.int .i64 fd)), (3, 0, .pv (.int .i64 tn)), (3, 1, .pv (.int .i64 td)), (0, 0, rowP l), (5, 0, rowN l.length e), (6, 0, rowN l.length e)] := by
  intro N
  induction N with
  | zero =>
    intro a cn cd s hN M
    have := end_eq hv hf ht M (by omega) he
    subst this
    exact tm_end (hlt := df (by omega))
  | succ N ih =>
    intro a cn cd s hN M
    by_cases hal : (btwS l fn fd tn td).length ≤ a
    · have := end_eq hv hf ht M hal he
      subst this
      exact tm_end (hlt := df (by omega))
    · have hlen := btwS_len hv fn fd tn td
      obtain ⟨mm, hmm⟩ := get_some (l := btwS l fn fd tn td) (k := a) (by omega)
      obtain ⟨om, hin, hlo, hhi⟩ := bsx_ok hv (List.mem_of_getElem? hmm)
      have tmm : Tm mm.n mm.d := ⟨om.n, om.d, om.ok⟩
      have hck := RCheck_ok om.n om.d om.ok
      have hcm := M.aft a mm (Nat.le_refl _) hmm
      have m0 := okB_den om.ok
      have c0 := okB_den M.tm.ok
      obtain ⟨m, g1, g2, g3, g4⟩ := grp_ex (l := l) (fn := fn) (fd := fd) (tn := tn) (td := td) hmm (s := s) (e := e) (by omega) ((btwS l fn fd tn td).length - a) a (by omega)
      have mpos : 0 < m := by
        rcases Nat.eq_zero_or_pos m with h | h
        · subst h
          exact ((g4 mm (by rw [Nat.add_zero]; exact hmm)) ⟨rfl, rfl⟩).elim
        · exact h
      have beh : ∀ i x, a + m ≤ i → (btwS l fn fd tn td)[i]? = some x → mm.n * x.d < x.n * mm.d := by
        intro i x hi hx
        have li := get_lt hx
        obtain ⟨y, hy⟩ := get_some (l := btwS l fn fd tn td) (k := a + m) (by omega)
        have oy := (bsx_ok hv (List.mem_of_getElem? hy)).1
        have ox := (bsx_ok hv (List.mem_of_getElem? hx)).1
        have y0 := okB_den oy.ok
        have x0 := okB_den ox.ok
        have u1 := bsx_up hv (show a ≤ a + m by omega) hmm hy
        have u2 := bsx_up hv hi hy hx
        have ne : mm.n * y.d ≠ y.n * mm.d := fun e => by
          obtain ⟨e1, e2⟩ := okB_one om.ok oy.ok e
          exact g4 y hy ⟨e1.symm, e2.symm⟩
        exact frac_lt_le (bn := y.n) (bd := y.d) (by omega) (by omega) (by omega) (by omega) u2
      have mid : ∀ i x, a ≤ i → i < a + m → (btwS l fn fd tn td)[i]? = some x → x.n = mm.n ∧ x.d = mm.d := by
        intro i x h1 h2 hx
        obtain ⟨z, hz, ez⟩ := g3 (i - a) (by omega)
        rw [show a + (i - a) = i by omega, hx] at hz
        cases hz
        exact ez
      obtain ⟨s2, hs2⟩ := Srt_ex (X := True) (tn := mm.n) (td := mm.d) hv trivial
      have M2 : Mid5 l fn fd tn td mm.n mm.d (a + m) s2 := ⟨tmm, Int.le_of_lt hlo, hhi, hs2, fun i x hi hx => by
        have ox := (bsx_ok hv (List.mem_of_getElem? hx)).1
        have x0 := okB_den ox.ok
        rcases Nat.lt_or_ge i a with g | g
        · have := M.bef i x g hx
          have := frac_ge (an := mm.n) (ad := mm.d) (bn := cn) (bd := cd) (cn := x.n) (cd := x.d) (by omega) (by omega) (by omega) (by omega) (by omega)
          omega
        · obtain ⟨e1, e2⟩ := mid i x g hi hx
          rw [e1, e2]
          exact Int.le_refl _, beh⟩
      have cnt : m = (btw l cn cd mm.n mm.d).length := by
        rw [← (btwS_perm l cn cd mm.n mm.d).length_eq, bsx_part hv hf ht M.tm tmm M.lo hhi]
        refine (filter_mid g1 (fun i x hi hx => ?_) (fun i x h1 h2 hx => ?_) (fun i x hi hx => ?_)).symm
        · have := M.bef i x hi hx
          have s1 := sg_cases (x.n * cd - cn * x.d)
          have : kpA cn cd x = false := df (by omega)
          rw [this]; rfl
        · obtain ⟨e1, e2⟩ := mid i x h1 h2 hx
          have s1 := sg_cases (x.n * cd - cn * x.d)
          have s2 := sg_cases (x.n * mm.d - mm.n * x.d)
          have k1 : kpA cn cd x = true := dt (by rw [e1, e2] at *; omega)
          have k2 : kpB mm.n mm.d x = true := dt (by rw [e1, e2] at *; omega)
          rw [k1, k2]; rfl
        · have := beh i x hi hx
          have s2 := sg_cases (x.n * mm.d - mm.n * x.d)
          have : kpB mm.n mm.d x = false := df (by omega)
          rw [this, Bool.and_false]
      have hmet := Met05_ok hv M.tm.ok om.ok hcm M.srt hs2 (L := btwS l fn fd tn td) (o := 0 + a) (m := a + m - a) (fun j hj => by
        obtain ⟨x, hx, e1, e2⟩ := g3 j (by omega)
        exact ⟨x, by rw [Nat.zero_add]; exact hx, (bsx_ok hv (List.mem_of_getElem? hx)).2.1, e1, e2⟩) (by omega) (by omega)
      have nomid : ∀ {un ud : Int}, Tm un ud → un * td ≤ tn * ud → (∀ i x, a + m ≤ i → (btwS l fn fd tn td)[i]? = some x → un * x.d ≤ x.n * ud) → ∀ wn wd, okB wn wd = true → mm.n * wd ≤ wn * mm.d → wn * ud < un * wd → btw l mm.n mm.d wn wd = [] := by
        intro un ud hu hut hux wn wd ow _ hwu
        refine List.eq_nil_iff_forall_not_mem.2 fun x hx => ?_
        obtain ⟨h1, h2, h3⟩ := bt_of hx
        have ox := ms_ok hv x h1
        have x0 := okB_den ox.ok
        have f0 := okB_den hf.ok
        have t0 := okB_den ht.ok
        have u0 := okB_den hu.ok
        have w0 := okB_den ow
        have k1 := frac_lt (an := fn) (ad := fd) (bn := mm.n) (bd := mm.d) (cn := x.n) (cd := x.d) (by omega) (by omega) (by omega) hlo h2
        have k2 := frac_ge (an := un) (ad := ud) (bn := wn) (bd := wd) (cn := x.n) (cd := x.d) (by omega) (by omega) (by omega) (by omega) (by omega)
        have k3 := frac_ge (an := tn) (ad := td) (bn := un) (bd := ud) (cn := x.n) (cd := x.d) (by omega) (by omega) (by omega) (by omega) k2
        obtain ⟨i, hi⟩ := List.mem_iff_getElem?.1 (bsx_in (fn := fn) (fd := fd) (tn := tn) (td := td) h1 k1 (by omega))
        rcases Nat.lt_or_ge i (a + m) with g | g
        · have := M2.bef i x g hi; omega
        · have k4 := hux i x g hi
          have k5 := frac_lt_le (an := wn) (ad := wd) (bn := un) (bd := ud) (cn := x.n) (cd := x.d) (by omega) (by omega) (by omega) hwu k4
          omega
      have hhf : FnL Tryz.prog 16 3 [fldS 0 l, .ls 1 l.length, .pv (ratioV mm.n mm.d), .lq 2 4 0 (btwS l fn fd tn td).length, .pv (.int .i64 ((a + m : Nat) : Int)), .pv (ratioV tn td)] [(0, 0, rowP l), (1, 0, rowN l.length s2), (2, 0, rowM (btwS l fn fd tn td))] (.pv (.bool true)) 0 [] := by
        by_cases hk : a + m < (btwS l fn fd tn td).length
        · obtain ⟨y, hy⟩ := get_some (l := btwS l fn fd tn td) (k := a + m) hk
          obtain ⟨oy, _, _, hyt⟩ := bsx_ok hv (List.mem_of_getElem? hy)
          exact Half_ok hv tmm ⟨oy.n, oy.d, oy.ok⟩ hs2 (Or.inl ⟨y, hy, rfl, rfl⟩) (Int.le_of_lt (beh _ _ (Nat.le_refl _) hy)) (nomid ⟨oy.n, oy.d, oy.ok⟩ hyt fun i x hi hx => bsx_up hv hi hy hx)
        · exact Half_ok hv tmm ht hs2 (Or.inr ⟨hk, rfl, rfl⟩) hhi (nomid ht (Int.le_refl _) fun i x hi hx => by have := get_lt hx; omega)
      have r := ih (a + m) mm.n mm.d s2 (by omega) M2
      exact tm_next (hm0 := hmm) (ia := ⟨by omega, by omega⟩) (hlt := dt (by omega)) (hck := hck) (r1 := g2) (hord := POrder_ok hv tmm hs2) (s1 := by omega) (s2 := by omega) (s3 := by omega) (s4 := g1) (hmet := hmet) (hhf := hhf) (r := r)
theorem Moves_any (h1 : I64 fn) (h2 : I64 fd) (h3 : I64 tn) (h4 : I64 td) (l : List Pt) : FnL Tryz.prog 4 1 [fldS 0 l, .pv (ratioV fn fd), .pv (ratioV tn td)] [(0, 0, rowP l)] (.pv (.bool true)) 0 [] := by
  rcases Great_any l with ⟨_, hg⟩ | ⟨_, hg⟩
  · exact tm_g hg
  · by_cases h16 : l.length > 16
    · exact tm_16 hg (dt (by omega))
    · have htm := RTimes_any h1 h2 h3 h4 l
      by_cases hE : mE l fn fd tn td = 0
      · rw [hE] at htm
        obtain ⟨hv, o1, o2, le⟩ := mE_ok hE
        have tf : Tm fn fd := ⟨h1, h2, o1⟩
        have tt : Tm tn td := ⟨h3, h4, o2⟩
        obtain ⟨s, hs⟩ := Srt_ex (X := True) (tn := fn) (td := fd) hv trivial
        obtain ⟨e, he⟩ := Srt_ex (X := True) (tn := tn) (td := td) hv trivial
        have oS := POrder_ok hv tf hs
        have oE := POrder_ok hv tt he
        have hcr := Crest05_ok hv tf tt (by omega) he
        have hsm := SameIDs_ok (g := e.map Pt.id) (n := l.length) (by rw [List.length_map]; exact he.len) (by omega)
        have M : Mid5 l fn fd tn td fn fd 0 s := ⟨tf, Int.le_refl _, by omega, hs, fun i x hi => by omega, fun i x _ hx => (bsx_ok hv (List.mem_of_getElem? hx)).2.2.1⟩
        by_cases hX : btw l fn fd tn td = []
        · have hl0 : (btwS l fn fd tn td).length ≤ 0 := by rw [(btwS_perm l fn fd tn td).length_eq, hX]; exact Nat.le_refl _
          have := end_eq hv tf tt M hl0 he
          subst this
          exact tm_nil (hg := hg) (h16 := df (by omega)) (htm := htm) (hal := Alive05) (hall := All_none h1 h2 h3 h4 l hE hX) (ho1 := oS) (ho2 := oE) (hl := by simp) (hsm := hsm) (hcr := hcr)
        · exact tm_some (hg := hg) (h16 := df (by omega)) (htm := htm) (hal := Alive05) (hall := All_ok h1 h2 h3 h4 l hE) (ho1 := oS) (ho2 := oE) (hl := by simp) (r0 := tm_loop hv tf tt he (btwS l fn fd tn td).length 0 fn fd s (by omega) M) (hsm := hsm) (hcr := hcr)
      · exact tm_t hg (df (by omega)) htm (by simpa using hE)
theorem moves_walk {u : Value} {l : List Pt} {W : World} (hr : Rd W 3 u l.length (ptsV l)) {fn fd : Int} (h5 : -9223372036854775808 ≤ fn ∧ fn ≤ 9223372036854775807) (h6 : -9223372036854775808 ≤ fd ∧ fd ≤ 9223372036854775807) {tn td : Int} (h7 : -9223372036854775808 ≤ tn ∧ tn ≤ 9223372036854775807) (h8 : -9223372036854775808 ≤ td ∧ td ≤ 9223372036854775807) :
    Calls Tryz.prog 4 #[.agg #[u], ratioV fn fd, ratioV tn td] W fun e W' => e = .returned (.bool true) ∧ Gr W W' :=
  fld_run (vs := [ratioV fn fd, ratioV tn td]) (Moves_any h5 h6 h7 h8 l) hr
end
end Go.Proofs.YtpngjeloiifgnaaGreat
