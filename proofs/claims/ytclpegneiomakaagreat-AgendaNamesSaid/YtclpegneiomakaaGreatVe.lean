/-
  AgendaNames holds. Conditions: none.
-/
import Derived.Test.YtclpegneiomakaaGreatW45
import Derived.Test.YtclpegneiomakaaGreatYz
namespace Go.Proofs.YtclpegneiomakaaGreat
open Go.RowKit
section
/-- A nil slice as an empty list of the run's own. -/
theorem nil_own1 {f : FuncId} {args : List SV} {n0 n1 n2 n3 : Nat} {r0 r1 r2 r3 : SV}
    (h : FnL Tryz.prog f 0 args [] (.ag [.ls 0 n0, .ls 1 n1, .ls 2 n2, .pv (.slice none 0 0), .ls 3 n3]) 4 [(0, 0, r0), (1, 0, r1), (2, 0, r2), (3, 0, r3)]) (hr : r0.isRow = true ∧ r1.isRow = true ∧ r2.isRow = true ∧ r3.isRow = true) :
    FnL Tryz.prog f 0 args [] (.ag [.ls 0 n0, .ls 1 n1, .ls 2 n2, .ls 4 0, .ls 3 n3]) 5 [(0, 0, r0), (1, 0, r1), (2, 0, r2), (3, 0, r3), (4, 0, rowE [])] := by
  intro w β us hH hd hi
  refine (h w β us hH hd hi).mono fun e w' ⟨v, β', he, hle, hx, hh, hd'⟩ => ?_
  obtain ⟨ws, hws, h0⟩ := hx
  match ws, hws with
  | [a0, a1, a2, a3, a4], ⟨k0, k1, k2, k3, k4, _⟩ =>
  have k3' : a3 = .slice none 0 0 := k3
  subst k3' h0
  have hd4 := hd' 4 (by omega)
  have hle4 : β'.le (β'.setG 4 (.slice none 0 0)) := Bl.le_setG hd4.1 hd4.2
  refine ⟨_, β'.setG 4 (.slice none 0 0), he, Bl.le_trans hle hle4, ⟨[a0, a1, a2, .slice none 0 0, a4], ⟨S0.is_mono hle4 k0, S0.is_mono hle4 k1, S0.is_mono hle4 k2, ⟨Bl.setG_same _ _ _, none, 0, rfl⟩, S0.is_mono hle4 k4, True.intro⟩, rfl⟩, ?_, zsetG_dom hd'⟩
  have ho : w'.ownsRow w.heap.size 43 5 (.slice none 0 0) 0 [] := ⟨rfl, Or.inl ⟨rfl, rfl⟩⟩
  have look : ∀ c o s, lookH [(0, 0, r0), (1, 0, r1), (2, 0, r2), (3, 0, r3), (4, 0, rowE [])] c o = some s → (c = 4 ∧ o = 0 ∧ s = rowE []) ∨ (c ≠ 4 ∧ lookH [(0, 0, r0), (1, 0, r1), (2, 0, r2), (3, 0, r3)] c o = some s) := by
    intro c o s hs
    by_cases hc : c = 4
    · subst hc
      simp only [lookH_cons, if_neg (show ¬ ((0 : Nat) = 4 ∧ (0 : Nat) = o) by omega), if_neg (show ¬ ((1 : Nat) = 4 ∧ (0 : Nat) = o) by omega), if_neg (show ¬ ((2 : Nat) = 4 ∧ (0 : Nat) = o) by omega), if_neg (show ¬ ((3 : Nat) = 4 ∧ (0 : Nat) = o) by omega)] at hs
      split at hs
      · rename_i e4
        exact Or.inl ⟨rfl, e4.2.symm, (Option.some.inj hs).symm⟩
      · cases hs
    · refine Or.inr ⟨hc, ?_⟩
      have e4 : ¬ ((4 : Nat) = c ∧ (0 : Nat) = o) := fun e => hc e.1.symm
      simp only [lookH_cons] at hs ⊢
      rw [if_neg e4] at hs
      exact hs
  refine ⟨hh.gr, hh.live, hh.inj, hh.new, fun c r hc => ?_, fun c o s hs hsr => ?_, fun c o e es n xs hs => ?_, fun c o e es n xs c' o' e' es' n' xs' u v hs hs' h1 h2 hne gu gv k hu hv => ?_⟩
  · have hc' : β' c = some r := hc
    have : c ≠ 4 := fun e => by subst e; rw [hd4.1] at hc'; cases hc'
    show (if c = 4 then _ else β'.g c) = none
    rw [if_neg this]
    exact hh.sep c r hc'
  · rcases look _ _ _ hs with ⟨_, _, rfl⟩ | ⟨_, hs⟩
    · cases hsr
    · obtain ⟨r, uu, g1, g2, g3⟩ := hh.cells c o s hs hsr
      exact ⟨r, uu, g1, SV.is_mono hle4 g2, g3⟩
  · rcases look _ _ _ hs with ⟨rfl, _, e1⟩ | ⟨hc, hs⟩
    · cases e1
      refine ⟨_, Bl.setG_same _ _ _, owns_rd ho, (fun v hv => by cases hv), fun h => by omega, fun _ => ho, fun _ c r hc hu => by cases hu⟩
    · obtain ⟨uu, g1, g2⟩ := hh.rows c o e es n xs hs
      exact ⟨uu, hle4.g g1, g2.rd, g2.one, g2.low, g2.own, fun h c' r hc' hu => g2.apart h c' r hc' hu⟩
  · rcases look _ _ _ hs with ⟨rfl, _, e1⟩ | ⟨hc, hs⟩
    · have gu' := gu
      rw [Bl.setG_same] at gu'
      cases gu'; cases hu
    · rcases look _ _ _ hs' with ⟨rfl, _, e1⟩ | ⟨hc2, hs2⟩
      · have gv' := gv
        rw [Bl.setG_same] at gv'
        cases gv'; cases hv
      · have e1 : β'.g c = some u := by
          have g' : (if c = 4 then some (Value.slice none 0 0) else β'.g c) = some u := gu
          rwa [if_neg hc] at g'
        have e2 : β'.g c' = some v := by
          have g' : (if c' = 4 then some (Value.slice none 0 0) else β'.g c') = some v := gv
          rwa [if_neg hc2] at g'
        exact hh.rinj c o e es n xs c' o' e' es' n' xs' u v hs hs2 h1 h2 hne e1 e2 k hu hv
end
set_option maxRecDepth 100000 in
theorem bg7 (hb : FnL Tryz.prog 44 0 [.pv (.int .i64 (2))] [] (.ag [.ls 0 2, .ls 1 2, .ls 2 2]) 3 [(0, 0, zrI [0, 0]), (1, 0, zrB [false, false]), (2, 0, zrI [1, 0])]) :
    FnL Tryz.prog 11 0 [.pv (.int .i64 (2))] [] (.ag [.ls 0 2, .ls 1 2, .ls 2 2, .pv (.slice none 0 0), .ls 3 2]) 4 [(0, 0, zrI [0, 0]), (1, 0, zrB [false, false]), (2, 0, zrI [1, 0]), (3, 0, zrI [-1, -1])] :=
  fnl_run 300 [(0, 1), (1, 2), (2, 3), (3, 8)] [.f [] [.pv (.int .i64 (2))] [] (.ag [.ls 0 2, .ls 1 2, .ls 2 2]) 3 [(0, 0, zrI [0, 0]), (1, 0, zrB [false, false]), (2, 0, zrI [1, 0])], .k, .k, .k, .k, .k]
     (reflH (renN [(0, 1), (1, 2), (2, 3), (3, 8)]) [(0, 0, zrI [0, 0]), (1, 0, zrB [false, false]), (2, 0, zrI [1, 0]), (3, 0, zrI [-1, -1])]) (And.intro hb (And.intro (Eq.refl (List.map (SV.ren (renU [] 1)) [.pv (.int .i64 (2))])) (And.intro (reflH (renU [] 1) []) (And.intro (show 0 + 1 ≤ 1000000 from by decide) (And.intro (show 1 + 1 ≤ 1000000 from by decide) True.intro))))) (by kernel_rfl)

abbrev vE0 : Ev := Ev.mk 1 1 0 0 1
abbrev vE1 : Ev := Ev.mk 2 1 1000000 1 1
theorem i64s {a b : Int} (h : -9223372036854775808 ≤ a ∧ a ≤ 9223372036854775807 ∧ -9223372036854775808 ≤ b ∧ b ≤ 9223372036854775807) : I64 a ∧ I64 b := ⟨⟨h.1, h.2.1⟩, ⟨h.2.2.1, h.2.2.2⟩⟩
theorem Begin6_two : FnL Tryz.prog 44 0 [.pv (.int .i64 2)] [] (.ag [.ls 0 2, .ls 1 2, .ls 2 2]) 3 [(0, 0, zrI [0, 0]), (1, 0, zrB [false, false]), (2, 0, zrI [1, 0])] := by
  have hb := bg_all (n := 2) (g := descZ 2) (by omega) (by omega) (wrapZ (by omega) (by omega)) (by
    have := bg_loop (n := 2) (by omega) 2 0 (by omega)
    rw [show ((2 : Nat) : Int) - 1 - ((0 : Nat) : Int) = ((2 : Nat) : Int) - 1 by omega] at this
    exact this) (descZ_length 2)
  have e : descZ 2 = [1, 0] := by decide
  rw [e] at hb
  exact hb
theorem Begin7_two : FnL Tryz.prog 11 0 [.pv (.int .i64 2)] [] (.ag [.ls 0 2, .ls 1 2, .ls 2 2, .ls 4 0, .ls 3 2]) 5 [(0, 0, zrI [0, 0]), (1, 0, zrB [false, false]), (2, 0, zrI [1, 0]), (3, 0, zrI [-1, -1]), (4, 0, rowE [])] :=
  nil_own1 (bg7 Begin6_two) ⟨rfl, rfl, rfl, rfl⟩
theorem va_0 : VA [0, 0] [false, false] [1, 0] [] [-1, -1] := by
  have := VA.new (n := 2) (by decide) (by decide)
  have e : descZ 2 = [1, 0] := by decide
  rw [e] at this
  exact this
theorem tk_0 : takeZ [0, 0] [false, false] [1, 0] = some ([1, 0], [true, false], [1], 0, 1) := by rfl
theorem pm_0 : pushM [] [-1, -1] vE0 = ([vE0], [0, -1]) := by rfl
theorem cn_0 : cnE [] 0 = 0 := by simp [cnE]
theorem va_1 : VA [1, 0] [true, false] [1] [vE0] [0, -1] := by
  have := (VA.push (tn := 1) (td := 1) (i64s (by omega)) (by decide) va_0 cn_0 tk_0).1
  rw [pm_0] at this
  exact this
theorem tk_1 : takeZ [1, 0] [true, false] [1] = some ([1, 1], [true, true], [], 1, 1) := by rfl
theorem pm_1 : pushM [vE0] [0, -1] vE1 = ([vE0, vE1], [0, 1]) := by rfl
theorem cn_1 : cnE [vE0] 1000000 = 0 := by simp [cnE]
theorem va_2 : VA [1, 1] [true, true] [] [vE0, vE1] [0, 1] := by
  have := (VA.push (tn := 2) (td := 1) (i64s (by omega)) (by decide) va_1 cn_1 tk_1).1
  rw [pm_1] at this
  exact this
theorem cn_a : cnE [vE0, vE1] (-1) = 2 := by simp [cnE]
theorem cn_b : cnE [vE0, vE1] 1000001 = 2 := by simp [cnE]
theorem cn_c : cnE [vE0, vE1] 0 = 14 := by simp [cnE]
theorem cn_d : cnE [vE0, vE1] 7 = 0 := by simp [cnE]
theorem wm_2 : withoutM [vE0, vE1] [0, 1] 0 vE0 = ([vE1], [-1, 0]) := by rfl
/-- What the functions say of an agenda that is not valid. -/
structure Bad7 (u : List Int) (b : List Bool) (fr : List Int) (ev : List Ev) (wh : List Int) : Prop where
  s : ASm u b fr ev wh
  n : ¬ VA u b fr ev wh
theorem sm_2 {u wh : List Int} {b : List Bool} {x y : Ev} (h1 : u.length ≤ 210) (h2 : b.length ≤ 210) (h3 : wh.length ≤ 210) (hx : EvI x) (hy : EvI y) : ASm u b [] [x, y] wh :=
  ⟨h1, h2, by decide, by simp, h3, fun z hz => by
    simp only [List.mem_cons, List.not_mem_nil, or_false] at hz
    rcases hz with rfl | rfl
    · exact hx
    · exact hy⟩
theorem abad_0 : Bad7 [1, 1] [true, true] [] [vE0, vE1] [1, 1] := ⟨sm_2 (by decide) (by decide) (by decide) (i64s (by simp)) (i64s (by simp)), fun h => absurd (h.own (j := 0) (x := vE0) rfl).2 (by decide)⟩
theorem abad_1 : Bad7 [1, 1] [true, true] [] [vE0, vE1] [0] := ⟨sm_2 (by decide) (by decide) (by decide) (i64s (by simp)) (i64s (by simp)), fun h => absurd h.lens.2.2.1 (by decide)⟩
theorem abad_2 : Bad7 [1, 1] [true, true] [] [vE0, Ev.mk 0 1 1000000 1 1] [0, 1] := ⟨sm_2 (by decide) (by decide) (by decide) (i64s (by simp)) (i64s (by simp)), fun h => absurd (h.hp 1 (by decide) (by decide)) (by decide)⟩
theorem abad_3 : Bad7 [1, 1] [true, true] [] [vE0, Ev.mk 2 1 0 1 1] [0, 1] := ⟨sm_2 (by decide) (by decide) (by decide) (i64s (by simp)) (i64s (by simp)), fun h => absurd h.ef.nod (by decide)⟩
theorem abad_4 : Bad7 [1, 1] [true, true] [] [Ev.mk 1 1 0 0 2, vE1] [0, 1] := ⟨sm_2 (by decide) (by decide) (by decide) (i64s (by simp)) (i64s (by simp)), fun h => absurd (h.own (j := 0) (x := Ev.mk 1 1 0 0 2) rfl).1.use (by decide)⟩
theorem abad_5 : Bad7 [1, 1] [true, true] [] [Ev.mk 1 0 0 0 1, vE1] [0, 1] := ⟨sm_2 (by decide) (by decide) (by decide) (i64s (by simp)) (i64s (by simp)), fun h => absurd (h.ef.ok (Ev.mk 1 0 0 0 1) (by simp)).ok (by decide)⟩
theorem abad_6 : Bad7 [1, 1] [true, true] [] [vE0, Ev.mk 2 1 1000001 1 1] [0, 1] := ⟨sm_2 (by decide) (by decide) (by decide) (i64s (by simp)) (i64s (by simp)), fun h => absurd (h.ef.ok (Ev.mk 2 1 1000001 1 1) (by simp)).k1 (by decide)⟩
theorem abad_7 : Bad7 [1, 1] [false, true] [] [vE0, vE1] [0, 1] := ⟨sm_2 (by decide) (by decide) (by decide) (i64s (by simp)) (i64s (by simp)), fun h => absurd (h.own (j := 0) (x := vE0) rfl).1.used (by decide)⟩
theorem z00 : I64 0 ∧ I64 0 := i64s (by omega)
theorem Twin6_two : FnL Tryz.prog 47 3 [.ag [.ls 0 ([1, 1] : List Int).length, .ls 1 [true, true].length, .ls 2 ([] : List Int).length]] [(0, 0, zrI [1, 1]), (1, 0, zrB [true, true]), (2, 0, zrI [])] (.ag [.ls 3 ([1, 1] : List Int).length, .ls 4 [true, true].length, .ls 5 ([] : List Int).length]) 3 [(3, 0, zrI [1, 1]), (4, 0, zrB [true, true]), (5, 0, zrI [])] :=
  RTwin_any va_2.vd.small
section
variable {u0 fr0 wh0 : List Int} {b0 : List Bool}
theorem nm_loop : RunsL Tryz.prog 0 0 (loopOf Tryz.prog 3 0) 397 26 [(2, .pv (.int .i64 2)), (4, .pv (.int .i64 2)), (5, .pp 7 0), (7, .pp 18 0), (8, .pp 19 0), (10, .pp 25 0), (12, .pv (.int .i64 0))] [(7, 0, .ls 2 u0.length), (7, 1, .ls 3 b0.length), (7, 2, .ls 4 fr0.length), (7, 3, .ls 6 0), (7, 4, .ls 5 wh0.length), (18, 0, .ls 20 ([1, 1]).length), (18, 1, .ls 21 ([true, true]).length), (18, 2, .ls 22 (([] : List Int)).length), (18, 3, .ls 23 ([vE0, vE1]).length), (18, 4, .ls 24 ([0, 1]).length), (19, 0, .pv (.int .i64 0)), (19, 1, .pv (.int .i64 1)), (25, 0, .pv (.int .i64 1)), (25, 1, .pv (.int .i64 1)), (2, 0, zrI u0), (3, 0, zrB b0), (4, 0, zrI fr0), (6, 0, rowE ([] : List Ev)), (5, 0, zrI wh0), (20, 0, zrI ([1, 1])), (21, 0, zrB ([true, true])), (22, 0, zrI (([] : List Int))), (23, 0, rowE ([vE0, vE1])), (24, 0, zrI ([0, 1]))] (.exit 0) [(2, .pv (.int .i64 2)), (4, .pv (.int .i64 2)), (5, .pp 7 0), (7, .pp 18 0), (8, .pp 19 0), (10, .pp 25 0)] [(7, 0, .ls 2 u0.length), (7, 1, .ls 3 b0.length), (7, 2, .ls 4 fr0.length), (7, 3, .ls 6 0), (7, 4, .ls 5 wh0.length), (18, 0, .ls 20 ([1, 1]).length), (18, 1, .ls 21 ([true, true]).length), (18, 2, .ls 22 (([] : List Int)).length), (18, 3, .ls 23 ([vE0, vE1]).length), (18, 4, .ls 24 ([0, 1]).length), (19, 0, .pv (.int .i64 0)), (19, 1, .pv (.int .i64 1)), (25, 0, .pv (.int .i64 1)), (25, 1, .pv (.int .i64 1)), (2, 0, zrI u0), (3, 0, zrB b0), (4, 0, zrI fr0), (6, 0, rowE ([] : List Ev)), (5, 0, zrI wh0), (20, 0, zrI ([1, 1])), (21, 0, zrB ([true, true])), (22, 0, zrI (([] : List Int))), (23, 0, rowE ([vE0, vE1])), (24, 0, zrI ([0, 1]))] :=
  nm_0 (tw7 Twin6_two) (APush_bad z00 abad_0.s abad_0.n) (ATop_bad abad_0.s abad_0.n) (APop_bad abad_0.s abad_0.n) (ARemove_bad abad_0.s abad_0.n) (ARekey_bad z00 abad_0.s abad_0.n) (AFind_bad abad_0.s abad_0.n) (ACk_bad abad_0.s abad_0.n) <|
  nm_1 (tw7 Twin6_two) (APush_bad z00 abad_1.s abad_1.n) (ATop_bad abad_1.s abad_1.n) (APop_bad abad_1.s abad_1.n) (ARemove_bad abad_1.s abad_1.n) (ARekey_bad z00 abad_1.s abad_1.n) (AFind_bad abad_1.s abad_1.n) (ACk_bad abad_1.s abad_1.n) <|
  nm_2 (tw7 Twin6_two) (at_pure 0) (APush_bad z00 abad_2.s abad_2.n) (ATop_bad abad_2.s abad_2.n) (APop_bad abad_2.s abad_2.n) (ARemove_bad abad_2.s abad_2.n) (ARekey_bad z00 abad_2.s abad_2.n) (AFind_bad abad_2.s abad_2.n) (ACk_bad abad_2.s abad_2.n) <|
  nm_3 (tw7 Twin6_two) (APush_bad z00 abad_3.s abad_3.n) (ATop_bad abad_3.s abad_3.n) (APop_bad abad_3.s abad_3.n) (ARemove_bad abad_3.s abad_3.n) (ARekey_bad z00 abad_3.s abad_3.n) (AFind_bad abad_3.s abad_3.n) (ACk_bad abad_3.s abad_3.n) <|
  nm_4 (tw7 Twin6_two) (APush_bad z00 abad_4.s abad_4.n) (ATop_bad abad_4.s abad_4.n) (APop_bad abad_4.s abad_4.n) (ARemove_bad abad_4.s abad_4.n) (ARekey_bad z00 abad_4.s abad_4.n) (AFind_bad abad_4.s abad_4.n) (ACk_bad abad_4.s abad_4.n) <|
  nm_5 (tw7 Twin6_two) (APush_bad z00 abad_5.s abad_5.n) (ATop_bad abad_5.s abad_5.n) (APop_bad abad_5.s abad_5.n) (ARemove_bad abad_5.s abad_5.n) (ARekey_bad z00 abad_5.s abad_5.n) (AFind_bad abad_5.s abad_5.n) (ACk_bad abad_5.s abad_5.n) <|
  nm_6 (tw7 Twin6_two) (APush_bad z00 abad_6.s abad_6.n) (ATop_bad abad_6.s abad_6.n) (APop_bad abad_6.s abad_6.n) (ARemove_bad abad_6.s abad_6.n) (ARekey_bad z00 abad_6.s abad_6.n) (AFind_bad abad_6.s abad_6.n) (ACk_bad abad_6.s abad_6.n) <|
  nm_7 (tw7 Twin6_two) (APush_bad z00 abad_7.s abad_7.n) (ATop_bad abad_7.s abad_7.n) (APop_bad abad_7.s abad_7.n) (ARemove_bad abad_7.s abad_7.n) (ARekey_bad z00 abad_7.s abad_7.n) (AFind_bad abad_7.s abad_7.n) (ACk_bad abad_7.s abad_7.n) <|
  nm_end
end
theorem Names_any : FnL Tryz.prog 3 0 [] [] (.pv (.bool true)) 0 [] := by
  have n2 : FnL Tryz.prog 9 0 [.pv (.int .i64 200)] [] (.tu [.ag [.ls 0 (List.replicate 200 (0 : Int)).length, .ls 1 (List.replicate 200 false).length, .ls 2 (descZ 200).length, .ls 4 0, .ls 3 (List.replicate 200 (-1 : Int)).length], .one (.pv (.int .i64 0))]) 5
      [(0, 0, zrI (List.replicate 200 0)), (1, 0, zrB (List.replicate 200 false)), (2, 0, zrI (descZ 200)), (3, 0, zrI (List.replicate 200 (-1))), (4, 0, rowE [])] := by
    have := ANew_ok (n := 200) (by decide) (by decide)
    simp only [zrI, zrB, List.length_replicate, descZ_length]
    exact this
  have vN := VA.new (n := 200) (by decide) (by decide)
  have p1 := APush_some (tn := 1) (td := 1) (i64s (by omega)) (by decide) va_0 cn_0 tk_0
  rw [pm_0] at p1
  have p2 := APush_some (tn := 2) (td := 1) (i64s (by omega)) (by decide) va_1 cn_1 tk_1
  rw [pm_1] at p2
  have lv : Live [1, 1] [true, true] 0 1 := (va_2.own (j := 0) (x := vE0) rfl).1
  have q8 := ARemove_some (hi := 0) (hw := 1) (j := 0) (x := vE0) va_2 lv rfl rfl
  rw [wm_2] at q8
  obtain ⟨v4, _, l4⟩ := va_2.without (k := 0) (x := vE0) rfl
  rw [wm_2] at v4
  have hno : ¬ Live [1, 1] ([true, true].set vE0.i.toNat false) 0 1 := fun h => ((l4 0 1).1 h).2 rfl
  have q2 := APush_num (tn := 3) (td := 1) (i64s (by omega)) (by decide) va_2 (z := -1) (by rw [cn_a]; decide)
  have q3 := APush_num (tn := 3) (td := 1) (i64s (by omega)) (by decide) va_2 (z := 1000001) (by rw [cn_b]; decide)
  have q4 := APush_num (tn := 3) (td := 1) (i64s (by omega)) (by decide) va_2 (z := 0) (by rw [cn_c]; decide)
  rw [cn_a] at q2
  rw [cn_b] at q3
  rw [cn_c] at q4
  exact nm_path (x := vE0) (y := vE1) (n0 := ANew_bad (by decide)) (n1 := ANew_bad (by decide)) (n2 := n2) (nb := Begin7_two) (at1 := at_pure 1) (p1 := p1) (at2 := at_pure 2) (p2 := p2) (ck := RACheck_ok va_2) (hle := by decide) (r0 := nm_loop)
    (q1 := APush_time (i64s (by omega)) (by decide) va_2) (at3 := at_pure 3) (q2 := q2) (q3 := q3) (q4 := q4) (q5 := APush_full (i64s (by omega)) (by decide) va_2 cn_d rfl) (q6 := ATop_none vN rfl) (q7 := APop_none vN rfl) (q8 := q8)
    (q9 := ARemove_none v4 hno) (qa := AFind_none v4 hno) (qb := ARekey_none (i64s (by omega)) (by decide) v4 hno) (qc := ARekey_time z00 (by decide) v4) (qd := ATop_some v4 rfl) (t1 := by decide) (t2 := by decide) (t3 := by decide) (hal := Alive7)
theorem ypure {f : FuncId} {v : Value} (h : FnL Tryz.prog f 0 [] [] (.pv v) 0 []) : Pure Tryz.prog f #[] v := by
  intro w
  refine (h w Bl.no [] (zempty_rel w) (fun _ _ => ⟨rfl, rfl⟩) True.intro).mono fun e w' ⟨v', β', he, _, hx, hh, _⟩ => ?_
  cases hx
  exact ⟨he, hh.gr⟩
theorem anames_walk : Pure Tryz.prog 3 #[] (.bool true) := ypure Names_any
end Go.Proofs.YtclpegneiomakaaGreat
