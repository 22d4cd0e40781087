/-
  AgendaBack holds of every agenda, time, number and handle. Conditions: none.
-/
import Derived.Test.YtclpegneiomakaaGreatW43
import Derived.Test.YtclpegneiomakaaGreatYs
namespace Go.Proofs.YtclpegneiomakaaGreat
open Go.RowKit
section
variable {u fr wh : List Int} {b : List Bool} {ev : List Ev}
theorem AFind_mem {x : Ev} (h : VA u b fr ev wh) (hm : x ∈ ev) : FnL Tryz.prog 19 5 [agA u b fr ev wh, .pv (handV x.i x.w)] (agP u b fr ev wh) (.pv (.tuple #[eventV x, .int .i64 0])) 0 [] := by
  obtain ⟨j, hj⟩ := List.mem_iff_getElem?.1 hm
  obtain ⟨hl, hw⟩ := h.own hj
  exact AFind_some h hl hw hj
theorem VA.one {x y : Ev} (h : VA u b fr ev wh) (hx : x ∈ ev) (hy : y ∈ ev) (e : x.i = y.i) : x = y := by
  obtain ⟨j, hj⟩ := List.mem_iff_getElem?.1 hx
  obtain ⟨k, hk⟩ := List.mem_iff_getElem?.1 hy
  have := h.con.inj hj hk e
  subst this
  rw [hj] at hk
  exact Option.some.inj hk
/-- The place of an event that is there. -/
theorem VA.place {x : Ev} (h : VA u b fr ev wh) (hm : x ∈ ev) : ∃ j : Nat, ev[j]? = some x ∧ wh[x.i.toNat]? = some (j : Int) ∧ Live u b x.i x.w := by
  obtain ⟨j, hj⟩ := List.mem_iff_getElem?.1 hm
  exact ⟨j, hj, (h.own hj).2, (h.own hj).1⟩
section
variable {u2 f2 wh3 : List Int} {b2 : List Bool} {ev3 : List Ev} {gi gw : Int}
end
/-- What Rekey leads to. -/
theorem rekey_find {tn td gi gw : Int} (ht : I64 tn ∧ I64 td) (h0 : okB tn td = true) (h : VA u b fr ev wh) (hl : Live u b gi gw) :
    ∃ (y : Ev) (ev5 : List Ev) (wh5 : List Int), y ∈ ev ∧ y.i = gi ∧ y.w = gw ∧ VA u b fr ev5 wh5 ∧ ev5.length = ev.length ∧ (∀ x ∈ ev, ¬ (x.i = gi ∧ x.w = gw) → x ∈ ev5) ∧ (⟨tn, td, y.k, gi, gw⟩ : Ev) ∈ ev5 ∧
    FnL Tryz.prog 19 5 [agA u b fr ev wh, .pv (handV gi gw)] (agP u b fr ev wh) (.pv (.tuple #[eventV y, .int .i64 0])) 0 [] ∧
    FnL Tryz.prog 18 5 [agA u b fr ev wh, .pv (handV gi gw), .pv (ratioV tn td)] (agP u b fr ev wh) (.tu [AOut ev5 u b fr wh5, .one (.pv (.int .i64 0))]) 5 (APost ev5 u b fr wh5) := by
  obtain ⟨j, y, h1, h2, rfl, rfl⟩ := h.find hl
  have hj := (List.getElem?_eq_some_iff.1 h2).1
  obtain ⟨v1, p1⟩ := VA.rekey ht h0 h h2
  refine ⟨y, _, _, List.mem_of_getElem? h2, rfl, rfl, v1, by rw [p1.length_eq, List.length_set], ?_, p1.mem_iff.2 (List.mem_of_getElem? (i := j) (by simp [hj])), AFind_some h hl h1 h2, ARekey_some ht h0 h hl h1 h2⟩
  intro x hx hne
  obtain ⟨q, hq⟩ := List.mem_iff_getElem?.1 hx
  refine p1.mem_iff.2 (List.mem_of_getElem? (i := q) ?_)
  rw [List.getElem?_set, if_neg, hq]
  intro e
  subst e
  rw [h2] at hq
  cases hq
  exact hne ⟨rfl, rfl⟩
end
end Go.Proofs.YtclpegneiomakaaGreat
