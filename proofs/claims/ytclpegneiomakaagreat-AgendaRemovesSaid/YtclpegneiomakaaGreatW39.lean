/-
  Joined: Yk, Yl. Conditions: none.
-/
import Derived.Test.YtclpegneiomakaaGreatYj
namespace Go.Proofs.YtclpegneiomakaaGreat
open Go.RowKit
section
variable {u fr wh : List Int} {b : List Bool} {ev : List Ev}
/-- A list is not too long, its times are of 64 bits. -/
structure ASm (u : List Int) (b : List Bool) (fr : List Int) (ev : List Ev) (wh : List Int) : Prop where
  lu : u.length ≤ 210
  lb : b.length ≤ 210
  lf : fr.length ≤ 210
  le : ev.length ≤ 210
  lw : wh.length ≤ 210
  i : ∀ x ∈ ev, EvI x
theorem VA.sm (h : VA u b fr ev wh) : ASm u b fr ev wh := by
  have := h.lens
  exact ⟨by omega, by omega, by omega, by omega, by omega, fun x hx => (h.ef.ok x hx).i⟩
theorem ACk_bad (s : ASm u b fr ev wh) (h : ¬ VA u b fr ev wh) : FnL Tryz.prog 20 5 [agA u b fr ev wh] (agP u b fr ev wh) (.pv (.int .i64 8)) 0 [] := ACheck_bad (by have := s.lf; omega) (by have := s.le; omega) s.i h

end
end Go.Proofs.YtclpegneiomakaaGreat

namespace Go.Proofs.YtclpegneiomakaaGreat
open Go.RowKit
section
variable {u fr wh : List Int} {b : List Bool} {ev : List Ev}
theorem CheckLive_yes {hi hw : Int} (h : Vd u b fr) (hl : Live u b hi hw) : FnL Tryz.prog 49 5 [agA u b fr ev wh, .pv (handV hi hw)] (agP u b fr ev wh) (.pv (.int .i64 0)) 0 [] := cl_yes (Has_yes h hl)
theorem CheckLive_no {hi hw : Int} (h : Vd u b fr) (hl : ¬ Live u b hi hw) : FnL Tryz.prog 49 5 [agA u b fr ev wh, .pv (handV hi hw)] (agP u b fr ev wh) (.pv (.int .i64 6)) 0 [] := cl_no (Has_no h hl)
theorem CheckLive_bad {hi hw : Int} (hf : fr.length ≤ 1000000) (h : ¬ Vd u b fr) : FnL Tryz.prog 49 5 [agA u b fr ev wh, .pv (handV hi hw)] (agP u b fr ev wh) (.pv (.int .i64 8)) 0 [] := cl_bad (Has_bad hf h hi hw)
/-- A handle that is live has an event. -/
theorem VA.find {hi hw : Int} (h : VA u b fr ev wh) (hl : Live u b hi hw) : ∃ j x, wh[hi.toNat]? = some ((j : Nat) : Int) ∧ ev[j]? = some x ∧ x.i = hi ∧ x.w = hw := by
  obtain ⟨j, x, h1, h2, h3, h4⟩ := h.used hl.used
  have := hl.lo
  refine ⟨j, x, h1, h2, by omega, ?_⟩
  have h5 := hl.use
  rw [h4] at h5
  exact Option.some.inj h5

abbrev evZ : Value := .agg #[.int .i64 0, .int .i64 0, .int .i64 0, .int .i64 0, .int .i64 0]
abbrev agZ : Value := .agg #[.slice none 0 0, .slice none 0 0, .slice none 0 0, .slice none 0 0, .slice none 0 0]
theorem ATop_bad (s : ASm u b fr ev wh) (h : ¬ VA u b fr ev wh) : FnL Tryz.prog 15 5 [agA u b fr ev wh] (agP u b fr ev wh) (.pv (.tuple #[evZ, .int .i64 8])) 0 [] := tp_bad (ACk_bad s h)
theorem ATop_none (h : VA u b fr ev wh) (he : ev = []) : FnL Tryz.prog 15 5 [agA u b fr ev wh] (agP u b fr ev wh) (.pv (.tuple #[evZ, .int .i64 42])) 0 [] := tp_none (ACheck_ok h) (by subst he; rfl)
theorem ATop_some {x : Ev} (h : VA u b fr ev wh) (hx : ev[0]? = some x) : FnL Tryz.prog 15 5 [agA u b fr ev wh] (agP u b fr ev wh) (.pv (.tuple #[eventV x, .int .i64 0])) 0 [] := by
  have := (List.getElem?_eq_some_iff.1 hx).1
  exact tp_ok (ACheck_ok h) (by simp; intro e; rw [e] at this; simp at this) hx (by omega)
theorem AFind_bad {hi hw : Int} (s : ASm u b fr ev wh) (h : ¬ VA u b fr ev wh) : FnL Tryz.prog 19 5 [agA u b fr ev wh, .pv (handV hi hw)] (agP u b fr ev wh) (.pv (.tuple #[evZ, .int .i64 8])) 0 [] := by
  have hc := ACk_bad s h
  by_cases h1 : Vd u b fr
  · by_cases h2 : Live u b hi hw
    · exact fi_bad0 hc (CheckLive_yes h1 h2) (fe2_0 (by decide))
    · exact fi_bad6 hc (CheckLive_no h1 h2) (fe2_0 (by decide))
  · exact fi_bad hc (CheckLive_bad (by have := s.lf; omega) h1) (fe2_0 (by decide))
theorem AFind_none {hi hw : Int} (h : VA u b fr ev wh) (hl : ¬ Live u b hi hw) : FnL Tryz.prog 19 5 [agA u b fr ev wh, .pv (handV hi hw)] (agP u b fr ev wh) (.pv (.tuple #[evZ, .int .i64 6])) 0 [] := fi_none (ACheck_ok h) (CheckLive_no h.vd hl) (fe2_1 (by decide) (by decide))
theorem AFind_some {hi hw : Int} {j : Nat} {x : Ev} (h : VA u b fr ev wh) (hl : Live u b hi hw) (hj : wh[hi.toNat]? = some (j : Int)) (hx : ev[j]? = some x) : FnL Tryz.prog 19 5 [agA u b fr ev wh, .pv (handV hi hw)] (agP u b fr ev wh) (.pv (.tuple #[eventV x, .int .i64 0])) 0 [] := by
  have := (List.getElem?_eq_some_iff.1 hj).1
  have := (List.getElem?_eq_some_iff.1 hx).1
  have := hl.lo
  exact fi_ok (ACheck_ok h) (CheckLive_yes h.vd hl) (fe2_2 (by decide) (by decide)) (by omega) hj (by omega) hx

abbrev AOut (ev3 : List Ev) (u2 : List Int) (b2 : List Bool) (f2 wh3 : List Int) : S1 := .ag [.ls 5 u2.length, .ls 6 b2.length, .ls 7 f2.length, .ls 8 ev3.length, .ls 9 wh3.length]
abbrev APost (ev3 : List Ev) (u2 : List Int) (b2 : List Bool) (f2 wh3 : List Int) : List (Nat × Nat × SV) := [(5, 0, zrI u2), (6, 0, zrB b2), (7, 0, zrI f2), (8, 0, rowE ev3), (9, 0, zrI wh3)]
theorem APop_bad (s : ASm u b fr ev wh) (h : ¬ VA u b fr ev wh) : FnL Tryz.prog 16 5 [agA u b fr ev wh] (agP u b fr ev wh) (.pv (.tuple #[agZ, evZ, .int .i64 8])) 0 [] := po_bad (ATop_bad s h)
theorem APop_none (h : VA u b fr ev wh) (he : ev = []) : FnL Tryz.prog 16 5 [agA u b fr ev wh] (agP u b fr ev wh) (.pv (.tuple #[agZ, evZ, .int .i64 42])) 0 [] := po_none (ATop_none h he)
theorem APop_some {x : Ev} (h : VA u b fr ev wh) (hx : ev[0]? = some x) : FnL Tryz.prog 16 5 [agA u b fr ev wh] (agP u b fr ev wh)
    (.tu [AOut (withoutM ev wh 0 x).1 u (b.set x.i.toNat false) (fr ++ [x.i]) (withoutM ev wh 0 x).2, .one (.pv (eventV x)), .one (.pv (.int .i64 0))]) 5 (APost (withoutM ev wh 0 x).1 u (b.set x.i.toNat false) (fr ++ [x.i]) (withoutM ev wh 0 x).2) :=
  po_ok (ATop_some h hx) (Without_any (k := 0) h hx)
theorem ARemove_bad {hi hw : Int} (s : ASm u b fr ev wh) (h : ¬ VA u b fr ev wh) : FnL Tryz.prog 17 5 [agA u b fr ev wh, .pv (handV hi hw)] (agP u b fr ev wh) (.pv (.tuple #[agZ, evZ, .int .i64 8])) 0 [] := rm_bad (AFind_bad s h)
theorem ARemove_none {hi hw : Int} (h : VA u b fr ev wh) (hl : ¬ Live u b hi hw) : FnL Tryz.prog 17 5 [agA u b fr ev wh, .pv (handV hi hw)] (agP u b fr ev wh) (.pv (.tuple #[agZ, evZ, .int .i64 6])) 0 [] := rm_none (AFind_none h hl)
theorem ARemove_some {hi hw : Int} {j : Nat} {x : Ev} (h : VA u b fr ev wh) (hl : Live u b hi hw) (hj : wh[hi.toNat]? = some (j : Int)) (hx : ev[j]? = some x) : FnL Tryz.prog 17 5 [agA u b fr ev wh, .pv (handV hi hw)] (agP u b fr ev wh)
    (.tu [AOut (withoutM ev wh j x).1 u (b.set x.i.toNat false) (fr ++ [x.i]) (withoutM ev wh j x).2, .one (.pv (eventV x)), .one (.pv (.int .i64 0))]) 5 (APost (withoutM ev wh j x).1 u (b.set x.i.toNat false) (fr ++ [x.i]) (withoutM ev wh j x).2) := by
  have := (List.getElem?_eq_some_iff.1 hj).1
  have := hl.lo
  exact rm_ok (AFind_some h hl hj hx) (by omega) hj (Without_any h hx)

theorem ARekey_bad {hi hw tn td : Int} (ht : I64 tn ∧ I64 td) (s : ASm u b fr ev wh) (h : ¬ VA u b fr ev wh) : FnL Tryz.prog 18 5 [agA u b fr ev wh, .pv (handV hi hw), .pv (ratioV tn td)] (agP u b fr ev wh) (.pv (.tuple #[agZ, .int .i64 8])) 0 [] := by
  have hc := ACk_bad s h
  by_cases h0 : okB tn td = true
  · have hr := Check_ok ht.1 ht.2 h0
    by_cases h1 : Vd u b fr
    · by_cases h2 : Live u b hi hw
      · exact rk_800 hc hr (CheckLive_yes h1 h2) (fe3_0 (by decide))
      · exact rk_806 hc hr (CheckLive_no h1 h2) (fe3_0 (by decide))
    · exact rk_808 hc hr (CheckLive_bad (by have := s.lf; omega) h1) (fe3_0 (by decide))
  · have hr := Check_bad ht.1 ht.2 h0
    by_cases h1 : Vd u b fr
    · by_cases h2 : Live u b hi hw
      · exact rk_880 hc hr (CheckLive_yes h1 h2) (fe3_0 (by decide))
      · exact rk_886 hc hr (CheckLive_no h1 h2) (fe3_0 (by decide))
    · exact rk_888 hc hr (CheckLive_bad (by have := s.lf; omega) h1) (fe3_0 (by decide))
theorem ARekey_time {hi hw tn td : Int} (ht : I64 tn ∧ I64 td) (h0 : ¬ okB tn td = true) (h : VA u b fr ev wh) : FnL Tryz.prog 18 5 [agA u b fr ev wh, .pv (handV hi hw), .pv (ratioV tn td)] (agP u b fr ev wh) (.pv (.tuple #[agZ, .int .i64 8])) 0 [] := by
  have hr := Check_bad ht.1 ht.2 h0
  by_cases h2 : Live u b hi hw
  · exact rk_080 (ACheck_ok h) hr (CheckLive_yes h.vd h2) (fe3_1 (by decide) (by decide))
  · exact rk_086 (ACheck_ok h) hr (CheckLive_no h.vd h2) (fe3_1 (by decide) (by decide))
theorem ARekey_none {hi hw tn td : Int} (ht : I64 tn ∧ I64 td) (h0 : okB tn td = true) (h : VA u b fr ev wh) (hl : ¬ Live u b hi hw) : FnL Tryz.prog 18 5 [agA u b fr ev wh, .pv (handV hi hw), .pv (ratioV tn td)] (agP u b fr ev wh) (.pv (.tuple #[agZ, .int .i64 6])) 0 [] :=
  rk_006 (ACheck_ok h) (Check_ok ht.1 ht.2 h0) (CheckLive_no h.vd hl) (fe3_2 (by decide) (by decide) (by decide))
theorem ARekey_some {hi hw tn td : Int} {j : Nat} {x : Ev} (ht : I64 tn ∧ I64 td) (h0 : okB tn td = true) (h : VA u b fr ev wh) (hl : Live u b hi hw) (hj : wh[hi.toNat]? = some (j : Int)) (hx : ev[j]? = some x) : FnL Tryz.prog 18 5 [agA u b fr ev wh, .pv (handV hi hw), .pv (ratioV tn td)] (agP u b fr ev wh)
    (.tu [AOut (rekeyM ev wh j x tn td).1 u b fr (rekeyM ev wh j x tn td).2, .one (.pv (.int .i64 0))]) 5 (APost (rekeyM ev wh j x tn td).1 u b fr (rekeyM ev wh j x tn td).2) := by
  have := (List.getElem?_eq_some_iff.1 hj).1
  have := hl.lo
  exact rk_ok (ACheck_ok h) (Check_ok ht.1 ht.2 h0) (CheckLive_yes h.vd hl) (fe3_3 (by decide) (by decide) (by decide)) (by omega) hj (Rekeyed_any h hx ht h0)

end
end Go.Proofs.YtclpegneiomakaaGreat
