/-
  What Push, Pop, Remove, Rekey, Top and Find of package agenda return, for any agenda. Conditions: none.
-/
import Derived.Test.YtclpegneiomakaaGreatYk
namespace Go.Proofs.YtclpegneiomakaaGreat
open Go.RowKit
section
variable {u fr wh : List Int} {b : List Bool} {ev : List Ev}
theorem ANew_ok {n : Nat} (h1 : 1 ≤ n) (h2 : n ≤ 200) : FnL Tryz.prog 9 0 [.pv (.int .i64 (n : Int))] [] (.tu [.ag [.ls 0 n, .ls 1 n, .ls 2 n, .ls 4 0, .ls 3 n], .one (.pv (.int .i64 0))]) 5
    [(0, 0, .row 3 1 n (ziV (List.replicate n 0))), (1, 0, .row 4 1 n (zbV (List.replicate n false))), (2, 0, .row 3 1 n (ziV (descZ n))), (3, 0, .row 3 1 n (ziV (List.replicate n (-1)))), (4, 0, rowE [])] :=
  nil_own (an_ok (New_ok h1 h2) (Repeat_any (z := -1) h1 h2)) ⟨rfl, rfl, rfl, rfl⟩
theorem ANew_bad {x : Int} (h : ¬ (1 ≤ x ∧ x ≤ 200)) : FnL Tryz.prog 9 0 [.pv (.int .i64 x)] [] (.pv (.tuple #[.agg #[.slice none 0 0, .slice none 0 0, .slice none 0 0, .slice none 0 0, .slice none 0 0], .int .i64 2])) 0 [] := an_bad (New_bad h)

def cnE (ev : List Ev) (z : Int) : Int := if 0 ≤ z ∧ z ≤ 1000000 then (if (∃ m ∈ ev, m.k = z) then 14 else 0) else 2
abbrev cxT (ev : List Ev) (k : Nat) : List (Nat × SV) := [(0, .ls 3 ev.length), (1, .pc 74 [.pp 6 0]), (7, .pv (.int .i64 (ev.length : Int))), (8, .pv (.int .i64 (k : Int)))]
theorem cx_none {z : Int} (hl : ev.length ≤ 1000000) (h : ∀ m ∈ ev, m.k ≠ z) : ∀ (d k : Nat), k + d = ev.length → RunsL Tryz.prog 5 7 (loopOf Tryz.prog 104 0) 19 7 (cxT ev k) [(6, 0, .pv (.int .i64 z)), (3, 0, rowE ev)] (.exit 0) [] [] := by
  intro d
  induction d with
  | zero => intro k hk; exact cx_end (decide_eq_false (by omega))
  | succ d ih =>
    intro k hk
    have hx : ev[k]? = some ev[k] := List.getElem?_eq_getElem (by omega)
    exact cx_next hx (by omega) (decide_eq_true (by omega)) (by simpa using h _ (List.getElem_mem _)) (z_succ (by omega)) (ih (k + 1) (by omega))
theorem cx_some {z : Int} (hl : ev.length ≤ 1000000) : ∀ (d k : Nat), k + d = ev.length → (∃ j m, k ≤ j ∧ ev[j]? = some m ∧ m.k = z) → ∃ q : Nat, RunsL Tryz.prog 5 7 (loopOf Tryz.prog 104 0) 19 7 (cxT ev k) [(6, 0, .pv (.int .i64 z)), (3, 0, rowE ev)] .ret [(4, .pv (.int .i64 (q : Int)))] [] := by
  intro d
  induction d with
  | zero => intro k hk ⟨j, m, a, c, _⟩; have := (List.getElem?_eq_some_iff.1 c).1; omega
  | succ d ih =>
    intro k hk ⟨j, m, a, c, e⟩
    have hx : ev[k]? = some ev[k] := List.getElem?_eq_getElem (by omega)
    by_cases h1 : ev[k].k = z
    · exact ⟨k, cx_hit hx (by omega) (decide_eq_true (by omega)) (by simpa using h1)⟩
    · obtain ⟨q, r⟩ := ih (k + 1) (by omega) ⟨j, m, by
        rcases Nat.lt_or_ge k j with g | g
        · exact g
        · have e' : k = j := by omega
          subst e'
          rw [hx] at c
          exact (h1 (by rw [Option.some.inj c]; exact e)).elim, c, e⟩
      exact ⟨q, cx_next hx (by omega) (decide_eq_true (by omega)) (by simpa using h1) (z_succ (by omega)) r⟩
theorem CheckNew_any (hl : ev.length ≤ 1000000) (z : Int) : FnL Tryz.prog 41 5 [agA u b fr ev wh, .pv (.int .i64 z)] (agP u b fr ev wh) (.pv (.int .i64 (cnE ev z))) 0 [] := by
  have hn := num_any z
  unfold cnE
  by_cases h1 : 0 ≤ z ∧ z ≤ 1000000
  · rw [decide_eq_true h1] at hn
    rw [if_pos h1]
    by_cases h2 : ∃ m ∈ ev, m.k = z
    · rw [if_pos h2]
      obtain ⟨m, hm, e⟩ := h2
      obtain ⟨j, hj⟩ := List.mem_iff_getElem?.1 hm
      obtain ⟨q, r⟩ := cx_some (z := z) hl ev.length 0 (by omega) ⟨j, m, by omega, hj, e⟩
      exact cn_twice hn r (decide_eq_true (by omega))
    · rw [if_neg h2]
      exact cn_ok hn (cx_none hl (fun m hm e => h2 ⟨m, hm, e⟩) ev.length 0 (by omega))
  · rw [decide_eq_false h1] at hn
    rw [if_neg h1]
    exact cn_num hn
theorem CheckLive_yes {hi hw : Int} (h : Vd u b fr) (hl : Live u b hi hw) : FnL Tryz.prog 49 5 [agA u b fr ev wh, .pv (handV hi hw)] (agP u b fr ev wh) (.pv (.int .i64 0)) 0 [] := cl_yes (Has_yes h hl)
theorem CheckLive_no {hi hw : Int} (h : Vd u b fr) (hl : ¬ Live u b hi hw) : FnL Tryz.prog 49 5 [agA u b fr ev wh, .pv (handV hi hw)] (agP u b fr ev wh) (.pv (.int .i64 6)) 0 [] := cl_no (Has_no h hl)
theorem CheckLive_bad {hi hw : Int} (hf : fr.length ≤ 1000000) (h : ¬ Vd u b fr) : FnL Tryz.prog 49 5 [agA u b fr ev wh, .pv (handV hi hw)] (agP u b fr ev wh) (.pv (.int .i64 8)) 0 [] := cl_bad (Has_bad hf h hi hw)
/-- A handle that is live has an event. -/
theorem VA.find {hi hw : Int} (h : VA u b fr ev wh) (hl : Live u b hi hw) : ∃ j x, wh[hi.toNat]? = some ((j : Nat) : Int) ∧ ev[j]? = some x ∧ x.i = hi ∧ x.w = hw := by
  obtain ⟨j, x, h1, h2, h3, h4⟩ := h.used hl.used
  have := hl.lo
  refine ⟨j, x, h1, h2, by omega, ?_⟩
  have h5 := hl.use
  rw [h4] at h5
  exact Option.some.inj h5

abbrev evZ : Value := .agg #[.int .i64 0, .int .i64 0, .int .i64 0, .int .i64 0, .int .i64 0]
abbrev agZ : Value := .agg #[.slice none 0 0, .slice none 0 0, .slice none 0 0, .slice none 0 0, .slice none 0 0]
theorem ATop_bad (s : ASm u b fr ev wh) (h : ¬ VA u b fr ev wh) : FnL Tryz.prog 15 5 [agA u b fr ev wh] (agP u b fr ev wh) (.pv (.tuple #[evZ, .int .i64 8])) 0 [] := tp_bad (ACk_bad s h)
theorem ATop_none (h : VA u b fr ev wh) (he : ev = []) : FnL Tryz.prog 15 5 [agA u b fr ev wh] (agP u b fr ev wh) (.pv (.tuple #[evZ, .int .i64 42])) 0 [] := tp_none (ACheck_ok h) (by subst he; rfl)
theorem ATop_some {x : Ev} (h : VA u b fr ev wh) (hx : ev[0]? = some x) : FnL Tryz.prog 15 5 [agA u b fr ev wh] (agP u b fr ev wh) (.pv (.tuple #[eventV x, .int .i64 0])) 0 [] := by
  have := (List.getElem?_eq_some_iff.1 hx).1
  exact tp_ok (ACheck_ok h) (by simp; intro e; rw [e] at this; simp at this) hx (by omega)
theorem AFind_bad {hi hw : Int} (s : ASm u b fr ev wh) (h : ¬ VA u b fr ev wh) : FnL Tryz.prog 19 5 [agA u b fr ev wh, .pv (handV hi hw)] (agP u b fr ev wh) (.pv (.tuple #[evZ, .int .i64 8])) 0 [] := by
  have hc := ACk_bad s h
  by_cases h1 : Vd u b fr
  · by_cases h2 : Live u b hi hw
    · exact fi_bad0 hc (CheckLive_yes h1 h2) (fe2_0 (by decide))
    · exact fi_bad6 hc (CheckLive_no h1 h2) (fe2_0 (by decide))
  · exact fi_bad hc (CheckLive_bad (by have := s.lf; omega) h1) (fe2_0 (by decide))
theorem AFind_none {hi hw : Int} (h : VA u b fr ev wh) (hl : ¬ Live u b hi hw) : FnL Tryz.prog 19 5 [agA u b fr ev wh, .pv (handV hi hw)] (agP u b fr ev wh) (.pv (.tuple #[evZ, .int .i64 6])) 0 [] := fi_none (ACheck_ok h) (CheckLive_no h.vd hl) (fe2_1 (by decide) (by decide))
theorem AFind_some {hi hw : Int} {j : Nat} {x : Ev} (h : VA u b fr ev wh) (hl : Live u b hi hw) (hj : wh[hi.toNat]? = some (j : Int)) (hx : ev[j]? = some x) : FnL Tryz.prog 19 5 [agA u b fr ev wh, .pv (handV hi hw)] (agP u b fr ev wh) (.pv (.tuple #[eventV x, .int .i64 0])) 0 [] := by
  have := (List.getElem?_eq_some_iff.1 hj).1
  have := (List.getElem?_eq_some_iff.1 hx).1
  have := hl.lo
  exact fi_ok (ACheck_ok h) (CheckLive_yes h.vd hl) (fe2_2 (by decide) (by decide)) (by omega) hj (by omega) hx

abbrev AOut (ev3 : List Ev) (u2 : List Int) (b2 : List Bool) (f2 wh3 : List Int) : S1 := .ag [.ls 5 u2.length, .ls 6 b2.length, .ls 7 f2.length, .ls 8 ev3.length, .ls 9 wh3.length]
abbrev APost (ev3 : List Ev) (u2 : List Int) (b2 : List Bool) (f2 wh3 : List Int) : List (Nat × Nat × SV) := [(5, 0, zrI u2), (6, 0, zrB b2), (7, 0, zrI f2), (8, 0, rowE ev3), (9, 0, zrI wh3)]
theorem ARemove_some {hi hw : Int} {j : Nat} {x : Ev} (h : VA u b fr ev wh) (hl : Live u b hi hw) (hj : wh[hi.toNat]? = some (j : Int)) (hx : ev[j]? = some x) : FnL Tryz.prog 17 5 [agA u b fr ev wh, .pv (handV hi hw)] (agP u b fr ev wh)
    (.tu [AOut (withoutM ev wh j x).1 u (b.set x.i.toNat false) (fr ++ [x.i]) (withoutM ev wh j x).2, .one (.pv (eventV x)), .one (.pv (.int .i64 0))]) 5 (APost (withoutM ev wh j x).1 u (b.set x.i.toNat false) (fr ++ [x.i]) (withoutM ev wh j x).2) := by
  have := (List.getElem?_eq_some_iff.1 hj).1
  have := hl.lo
  exact rm_ok (AFind_some h hl hj hx) (by omega) hj (Without_any h hx)

abbrev psZ (e : Int) : SV := .pv (.tuple #[agZ, handV 0 0, .int .i64 e])
theorem cnE_cases (ev : List Ev) (z : Int) : cnE ev z = 2 ∨ cnE ev z = 14 ∨ cnE ev z = 0 := by
  unfold cnE
  split
  · split
    · exact Or.inr (Or.inl rfl)
    · exact Or.inr (Or.inr rfl)
  · exact Or.inl rfl
theorem APush_bad {tn td z : Int} (ht : I64 tn ∧ I64 td) (s : ASm u b fr ev wh) (h : ¬ VA u b fr ev wh) : FnL Tryz.prog 10 5 [agA u b fr ev wh, .pv (ratioV tn td), .pv (.int .i64 z)] (agP u b fr ev wh) (psZ 8) 0 [] := by
  have hc := ACk_bad s h
  have hn := CheckNew_any (u := u) (b := b) (fr := fr) (ev := ev) (wh := wh) (by have := s.le; omega) z
  by_cases h0 : okB tn td = true
  · have hr := Check_ok ht.1 ht.2 h0
    rcases cnE_cases ev z with e | e | e <;> rw [e] at hn
    · exact ps_8_0_2 hc hr hn (fe3_0 (by decide))
    · exact ps_8_0_14 hc hr hn (fe3_0 (by decide))
    · exact ps_8_0_0 hc hr hn (fe3_0 (by decide))
  · have hr := Check_bad ht.1 ht.2 h0
    rcases cnE_cases ev z with e | e | e <;> rw [e] at hn
    · exact ps_8_8_2 hc hr hn (fe3_0 (by decide))
    · exact ps_8_8_14 hc hr hn (fe3_0 (by decide))
    · exact ps_8_8_0 hc hr hn (fe3_0 (by decide))
theorem APush_time {tn td z : Int} (ht : I64 tn ∧ I64 td) (h0 : ¬ okB tn td = true) (h : VA u b fr ev wh) : FnL Tryz.prog 10 5 [agA u b fr ev wh, .pv (ratioV tn td), .pv (.int .i64 z)] (agP u b fr ev wh) (psZ 8) 0 [] := by
  have hn := CheckNew_any (u := u) (b := b) (fr := fr) (ev := ev) (wh := wh) (by have := h.lens; omega) z
  have hr := Check_bad ht.1 ht.2 h0
  rcases cnE_cases ev z with e | e | e <;> rw [e] at hn
  · exact ps_0_8_2 (ACheck_ok h) hr hn (fe3_1 (by decide) (by decide))
  · exact ps_0_8_14 (ACheck_ok h) hr hn (fe3_1 (by decide) (by decide))
  · exact ps_0_8_0 (ACheck_ok h) hr hn (fe3_1 (by decide) (by decide))
theorem APush_num {tn td z : Int} (ht : I64 tn ∧ I64 td) (h0 : okB tn td = true) (h : VA u b fr ev wh) (hz : cnE ev z ≠ 0) : FnL Tryz.prog 10 5 [agA u b fr ev wh, .pv (ratioV tn td), .pv (.int .i64 z)] (agP u b fr ev wh) (psZ (cnE ev z)) 0 [] := by
  have hn := CheckNew_any (u := u) (b := b) (fr := fr) (ev := ev) (wh := wh) (by have := h.lens; omega) z
  have hr := Check_ok ht.1 ht.2 h0
  rcases cnE_cases ev z with e | e | e
  · rw [e] at hn ⊢; exact ps_0_0_2 (ACheck_ok h) hr hn (fe3_2 (by decide) (by decide) (by decide))
  · rw [e] at hn ⊢; exact ps_0_0_14 (ACheck_ok h) hr hn (fe3_2 (by decide) (by decide) (by decide))
  · exact (hz e).elim
theorem APush_full {tn td z : Int} (ht : I64 tn ∧ I64 td) (h0 : okB tn td = true) (h : VA u b fr ev wh) (hz : cnE ev z = 0) (hk : takeZ u b fr = none) : FnL Tryz.prog 10 5 [agA u b fr ev wh, .pv (ratioV tn td), .pv (.int .i64 z)] (agP u b fr ev wh) (psZ 18) 0 [] := by
  have hn := CheckNew_any (u := u) (b := b) (fr := fr) (ev := ev) (wh := wh) (by have := h.lens; omega) z
  rw [hz] at hn
  exact ps_full (ACheck_ok h) (Check_ok ht.1 ht.2 h0) hn (fe3_3 (by decide) (by decide) (by decide)) (Take_none h.vd hk)
theorem take_in {u2 f2 : List Int} {b2 : List Bool} {hi hw : Int} (h : Vd u b fr) (hk : takeZ u b fr = some (u2, b2, f2, hi, hw)) : 0 ≤ hi ∧ hi < (u.length : Int) := by
  obtain ⟨y, h1, _⟩ := takeZ_spec hk
  obtain ⟨e, _, _⟩ := last_split h1
  exact h.rng hi (by rw [e]; simp)
theorem APush_some {tn td z : Int} {u2 f2 : List Int} {b2 : List Bool} {hi hw : Int} (ht : I64 tn ∧ I64 td) (h0 : okB tn td = true) (h : VA u b fr ev wh) (hz : cnE ev z = 0) (hk : takeZ u b fr = some (u2, b2, f2, hi, hw)) :
    FnL Tryz.prog 10 5 [agA u b fr ev wh, .pv (ratioV tn td), .pv (.int .i64 z)] (agP u b fr ev wh)
      (.tu [AOut (pushM ev wh ⟨tn, td, z, hi, hw⟩).1 u2 b2 f2 (pushM ev wh ⟨tn, td, z, hi, hw⟩).2, .one (.pv (handV hi hw)), .one (.pv (.int .i64 0))]) 5 (APost (pushM ev wh ⟨tn, td, z, hi, hw⟩).1 u2 b2 f2 (pushM ev wh ⟨tn, td, z, hi, hw⟩).2) := by
  have hlen := h.lens
  have hn := CheckNew_any (u := u) (b := b) (fr := fr) (ev := ev) (wh := wh) (by omega) z
  rw [hz] at hn
  have hzr : 0 ≤ z ∧ z ≤ 1000000 := by
    apply Classical.byContradiction
    intro hne
    unfold cnE at hz
    rw [if_neg hne] at hz
    cases hz
  have hin := take_in h.vd hk
  exact ps_ok (ACheck_ok h) (Check_ok ht.1 ht.2 h0) hn (fe3_3 (by decide) (by decide) (by decide)) (Take_some h.vd hk) (Pushed_any (x := ⟨tn, td, z, hi, hw⟩) (by omega) (by omega) h.inv ⟨ht, h0, hzr.1, hzr.2⟩ ⟨hin.1, by have := hin.2; simp only; omega⟩)
end
end Go.Proofs.YtclpegneiomakaaGreat
