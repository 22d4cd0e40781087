/-
  AgendaBack holds of every agenda, time, number and handle. Conditions: none.
-/
import Derived.Test.YtclpegneiomakaaGreatYx
import Derived.Test.YtclpegneiomakaaGreatYs
namespace Go.Proofs.YtclpegneiomakaaGreat
open Go.RowKit

section
variable {u fr wh : List Int} {b : List Bool} {ev : List Ev}
theorem AFind_mem {x : Ev} (h : VA u b fr ev wh) (hm : x ∈ ev) : FnL Tryz.prog 19 5 [agA u b fr ev wh, .pv (handV x.i x.w)] (agP u b fr ev wh) (.pv (.tuple #[eventV x, .int .i64 0])) 0 [] := by
  obtain ⟨j, hj⟩ := List.mem_iff_getElem?.1 hm
  obtain ⟨hl, hw⟩ := h.own hj
  exact AFind_some h hl hw hj
theorem VA.one {x y : Ev} (h : VA u b fr ev wh) (hx : x ∈ ev) (hy : y ∈ ev) (e : x.i = y.i) : x = y := by
  obtain ⟨j, hj⟩ := List.mem_iff_getElem?.1 hx
  obtain ⟨k, hk⟩ := List.mem_iff_getElem?.1 hy
  have := h.con.inj hj hk e
  subst this
  rw [hj] at hk
  exact Option.some.inj hk
/-- The place of an event that is there. -/
theorem VA.place {x : Ev} (h : VA u b fr ev wh) (hm : x ∈ ev) : ∃ j : Nat, ev[j]? = some x ∧ wh[x.i.toNat]? = some (j : Int) ∧ Live u b x.i x.w := by
  obtain ⟨j, hj⟩ := List.mem_iff_getElem?.1 hm
  exact ⟨j, hj, (h.own hj).2, (h.own hj).1⟩
section
variable {u2 f2 wh3 : List Int} {b2 : List Bool} {ev3 : List Ev} {gi gw : Int}
abbrev hdA (u fr wh : List Int) (b : List Bool) (ev : List Ev) (u2 f2 wh3 : List Int) (b2 : List Bool) (ev3 : List Ev) (gi gw : Int) : List SV := [agA u b fr ev wh, .ag [.ls 5 u2.length, .ls 6 b2.length, .ls 7 f2.length, .ls 8 ev3.length, .ls 9 wh3.length], .pv (handV gi gw)]
abbrev hdP (u fr wh : List Int) (b : List Bool) (ev : List Ev) (u2 f2 wh3 : List Int) (b2 : List Bool) (ev3 : List Ev) : List (Nat × Nat × SV) := [(0, 0, zrI u), (1, 0, zrB b), (2, 0, zrI fr), (3, 0, rowE ev), (4, 0, zrI wh), (5, 0, zrI u2), (6, 0, zrB b2), (7, 0, zrI f2), (8, 0, rowE ev3), (9, 0, zrI wh3)]
abbrev hdH (u fr wh : List Int) (b : List Bool) (ev : List Ev) (u2 f2 wh3 : List Int) (b2 : List Bool) (ev3 : List Ev) (gi gw : Int) : List (Nat × Nat × SV) := [(10, 0, .ls 0 u.length), (10, 1, .ls 1 b.length), (10, 2, .ls 2 fr.length), (10, 3, .ls 3 ev.length), (10, 4, .ls 4 wh.length), (11, 0, .ls 5 u2.length), (11, 1, .ls 6 b2.length), (11, 2, .ls 7 f2.length), (11, 3, .ls 8 ev3.length), (11, 4, .ls 9 wh3.length), (12, 0, .pv (.int .i64 gi)), (12, 1, .pv (.int .i64 gw)), (3, 0, rowE ev), (5, 0, zrI u2), (6, 0, zrB b2), (7, 0, zrI f2), (8, 0, rowE ev3), (9, 0, zrI wh3)]
theorem hd_loop (hl : ev.length ≤ 1000000) (h2 : VA u2 b2 f2 ev3 wh3) (hs : ∀ x ∈ ev, ¬ (x.i = gi ∧ x.w = gw) → x ∈ ev3) : ∀ (d k : Nat), k + d = ev.length →
    RunsL Tryz.prog 10 10 (loopOf Tryz.prog 36 0) 47 13 [(3, .pp 10 0), (4, .pp 11 0), (5, .pp 12 0), (7, .pv (.int .i64 (k : Int)))] (hdH u fr wh b ev u2 f2 wh3 b2 ev3 gi gw) (.exit 0) [] [] := by
  intro d
  induction d with
  | zero => intro k hk; exact hd_end (decide_eq_false (by omega))
  | succ d ih =>
    intro k hk
    have hx : ev[k]? = some (ev[k]'(by omega)) := List.getElem?_eq_getElem (by omega)
    generalize ev[k]'(by omega) = x at hx
    by_cases hq : x.i = gi ∧ x.w = gw
    · exact hd_skip hx (by omega) (decide_eq_true (by omega)) (by rw [hq.1, hq.2]; simp) (z_succ (by omega)) (ih (k + 1) (by omega))
    · have hm := hs x (List.mem_of_getElem? hx) hq
      refine hd_go hx (by omega) (decide_eq_true (by omega)) ?_ (AFind_mem h2 hm) ?_ (z_succ (by omega)) (ih (k + 1) (by omega))
      · rw [Bool.eq_false_iff]
        intro e
        simp only [Bool.and_true, Bool.and_eq_true, beq_iff_eq] at e
        exact hq e
      · simp
theorem Held_any (hl : ev.length ≤ 1000000) (h2 : VA u2 b2 f2 ev3 wh3) (hs : ∀ x ∈ ev, ¬ (x.i = gi ∧ x.w = gw) → x ∈ ev3) : FnL Tryz.prog 36 10 (hdA u fr wh b ev u2 f2 wh3 b2 ev3 gi gw) (hdP u fr wh b ev u2 f2 wh3 b2 ev3) (.pv (.bool true)) 0 [] :=
  hd_path (hd_loop hl h2 hs ev.length 0 (by omega))
end
/-- What Push and then Remove lead to. -/
theorem push_remove {tn td z : Int} {u2 f2 : List Int} {b2 : List Bool} {hi hw : Int} (ht : I64 tn ∧ I64 td) (h0 : okB tn td = true) (h : VA u b fr ev wh) (hz : cnE ev z = 0) (hk : takeZ u b fr = some (u2, b2, f2, hi, hw)) :
    ∃ (ev3 : List Ev) (wh3 : List Int) (u4 f4 wh4 : List Int) (b4 : List Bool) (ev4 : List Ev), VA u2 b2 f2 ev3 wh3 ∧ VA u4 b4 f4 ev4 wh4 ∧ (ev3.Perm (ev ++ [⟨tn, td, z, hi, hw⟩])) ∧ ev4.Perm ev ∧
    FnL Tryz.prog 10 5 [agA u b fr ev wh, .pv (ratioV tn td), .pv (.int .i64 z)] (agP u b fr ev wh) (.tu [AOut ev3 u2 b2 f2 wh3, .one (.pv (handV hi hw)), .one (.pv (.int .i64 0))]) 5 (APost ev3 u2 b2 f2 wh3) ∧
    FnL Tryz.prog 17 5 [agA u2 b2 f2 ev3 wh3, .pv (handV hi hw)] (agP u2 b2 f2 ev3 wh3) (.tu [AOut ev4 u4 b4 f4 wh4, .one (.pv (eventV ⟨tn, td, z, hi, hw⟩)), .one (.pv (.int .i64 0))]) 5 (APost ev4 u4 b4 f4 wh4) := by
  obtain ⟨v1, p1, l1, _⟩ := VA.push ht h0 h hz hk
  have hm : (⟨tn, td, z, hi, hw⟩ : Ev) ∈ (pushM ev wh ⟨tn, td, z, hi, hw⟩).1 := p1.mem_iff.2 (by simp)
  obtain ⟨j, hj, hjw, _⟩ := v1.place hm
  obtain ⟨v2, p2, _⟩ := v1.without hj
  refine ⟨_, _, _, _, _, _, _, v1, v2, p1, ?_, APush_some ht h0 h hz hk, ARemove_some v1 l1 hjw hj⟩
  exact (List.perm_append_right_iff [(⟨tn, td, z, hi, hw⟩ : Ev)]).1 (p2.trans p1)
/-- What Rekey leads to. -/
theorem rekey_find {tn td gi gw : Int} (ht : I64 tn ∧ I64 td) (h0 : okB tn td = true) (h : VA u b fr ev wh) (hl : Live u b gi gw) :
    ∃ (y : Ev) (ev5 : List Ev) (wh5 : List Int), y ∈ ev ∧ y.i = gi ∧ y.w = gw ∧ VA u b fr ev5 wh5 ∧ ev5.length = ev.length ∧ (∀ x ∈ ev, ¬ (x.i = gi ∧ x.w = gw) → x ∈ ev5) ∧ (⟨tn, td, y.k, gi, gw⟩ : Ev) ∈ ev5 ∧
    FnL Tryz.prog 19 5 [agA u b fr ev wh, .pv (handV gi gw)] (agP u b fr ev wh) (.pv (.tuple #[eventV y, .int .i64 0])) 0 [] ∧
    FnL Tryz.prog 18 5 [agA u b fr ev wh, .pv (handV gi gw), .pv (ratioV tn td)] (agP u b fr ev wh) (.tu [AOut ev5 u b fr wh5, .one (.pv (.int .i64 0))]) 5 (APost ev5 u b fr wh5) := by
  obtain ⟨j, y, h1, h2, rfl, rfl⟩ := h.find hl
  have hj := (List.getElem?_eq_some_iff.1 h2).1
  obtain ⟨v1, p1⟩ := VA.rekey ht h0 h h2
  refine ⟨y, _, _, List.mem_of_getElem? h2, rfl, rfl, v1, by rw [p1.length_eq, List.length_set], ?_, p1.mem_iff.2 (List.mem_of_getElem? (i := j) (by simp [hj])), AFind_some h hl h1 h2, ARekey_some ht h0 h hl h1 h2⟩
  intro x hx hne
  obtain ⟨q, hq⟩ := List.mem_iff_getElem?.1 hx
  refine p1.mem_iff.2 (List.mem_of_getElem? (i := q) ?_)
  rw [List.getElem?_set, if_neg, hq]
  intro e
  subst e
  rw [h2] at hq
  cases hq
  exact hne ⟨rfl, rfl⟩
theorem Back_any {tn td z gi gw : Int} (hi : ∀ x ∈ ev, EvI x) (ht : I64 tn ∧ I64 td) : FnL Tryz.prog 8 5 [agA u b fr ev wh, .pv (ratioV tn td), .pv (.int .i64 z), .pv (handV gi gw)] (agP u b fr ev wh) (.pv (.bool true)) 0 [] := by
  by_cases h : VA u b fr ev wh
  · have hlen := h.lens
    have hfit := Fit_yes h
    by_cases h0 : okB tn td = true
    · by_cases hg : Live u b gi gw
      · obtain ⟨y, ev5, wh5, m1, rfl, rfl, v5, l5, s5, m5, f5, k5⟩ := rekey_find ht h0 h hg
        have f6 := AFind_mem v5 m5
        have hd5 := Held_any (u := u) (fr := fr) (wh := wh) (b := b) (by omega) v5 s5
        have h5 : ((tn == tn && (td == td && true)) && (y.k == y.k && ((y.i == y.i && (y.w == y.w && true)) && true))) = true := by simp
        by_cases hz : cnE ev z = 0
        · cases hk : takeZ u b fr with
          | none => exact bk_e_ok hfit (APush_full ht h0 h hz hk) (by decide) f5 k5 f6 h5 (by simp [l5]) hd5 Alive7
          | some t =>
            obtain ⟨u2, b2, f2, hi2, hw2⟩ := t
            obtain ⟨ev3, wh3, u4, f4, wh4, b4, ev4, v3, v4, p3, p4, q3, q4⟩ := push_remove ht h0 h hz hk
            have l3 := p3.length_eq
            have l4 := p4.length_eq
            rw [List.length_append, List.length_singleton] at l3
            exact bk_p_ok (nn := ev.length + 1) hfit q3 q4 (by simp) (by simp) (z_succ (by omega)) (by simp [l3]) (by simp [l4])
              (Held_any (by omega) v4 (fun x hx _ => p4.mem_iff.2 hx)) (Held_any (by omega) v3 (fun x hx _ => p3.mem_iff.2 (by simp [hx]))) f5 k5 f6 h5 (by simp [l5]) hd5 Alive7
        · exact bk_e_ok hfit (APush_num ht h0 h hz) (by simpa using hz) f5 k5 f6 h5 (by simp [l5]) hd5 Alive7
      · have f5 := AFind_none h hg
        have k5 := ARekey_none ht h0 h hg
        by_cases hz : cnE ev z = 0
        · cases hk : takeZ u b fr with
          | none => exact bk_e_none hfit (APush_full ht h0 h hz hk) (by decide) f5 k5 Alive7
          | some t =>
            obtain ⟨u2, b2, f2, hi2, hw2⟩ := t
            obtain ⟨ev3, wh3, u4, f4, wh4, b4, ev4, v3, v4, p3, p4, q3, q4⟩ := push_remove ht h0 h hz hk
            have l3 := p3.length_eq
            have l4 := p4.length_eq
            rw [List.length_append, List.length_singleton] at l3
            exact bk_p_none (nn := ev.length + 1) hfit q3 q4 (by simp) (by simp) (z_succ (by omega)) (by simp [l3]) (by simp [l4])
              (Held_any (by omega) v4 (fun x hx _ => p4.mem_iff.2 hx)) (Held_any (by omega) v3 (fun x hx _ => p3.mem_iff.2 (by simp [hx]))) f5 k5 Alive7
        · exact bk_e_none hfit (APush_num ht h0 h hz) (by simpa using hz) f5 k5 Alive7
    · have hp := APush_time (z := z) ht h0 h
      have k5 := ARekey_time (hi := gi) (hw := gw) ht h0 h
      have hc := RCheck_bad ht.1 ht.2 h0
      by_cases hg : Live u b gi gw
      · obtain ⟨j, y, h1, h2, rfl, rfl⟩ := h.find hg
        exact bk_e_time1 hfit hp (by decide) (AFind_some h hg h1 h2) k5 hc (by decide) Alive7
      · exact bk_e_time0 hfit hp (by decide) (AFind_none h hg) k5 hc (by decide) Alive7
  · exact bk_unfit (Fit_no hi h) Alive7
theorem back_walk (u fr : List Int) (b : List Bool) (ev : List Ev) (wh : List Int) (hi : ∀ x ∈ ev, EvI x) (tn td : Int) (ht : I64 tn ∧ I64 td) (z gi gw : Int) : FnL Tryz.prog 8 5 [agA u b fr ev wh, .pv (ratioV tn td), .pv (.int .i64 z), .pv (handV gi gw)] (agP u b fr ev wh) (.pv (.bool true)) 0 [] := Back_any hi ht
end
end Go.Proofs.YtclpegneiomakaaGreat
