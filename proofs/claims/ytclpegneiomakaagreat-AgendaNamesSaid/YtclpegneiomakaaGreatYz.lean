/-
  AgendaBack holds of every agenda, time, number and handle. Conditions: none.
-/
import Derived.Test.YtclpegneiomakaaGreatZj
import Derived.Test.YtclpegneiomakaaGreatW45
import Derived.Test.YtclpegneiomakaaGreatYs
namespace Go.Proofs.YtclpegneiomakaaGreat
open Go.RowKit
section
variable {u fr wh : List Int} {b : List Bool} {ev : List Ev}
theorem VA.one {x y : Ev} (h : VA u b fr ev wh) (hx : x ∈ ev) (hy : y ∈ ev) (e : x.i = y.i) : x = y := by
  obtain ⟨j, hj⟩ := List.mem_iff_getElem?.1 hx
  obtain ⟨k, hk⟩ := List.mem_iff_getElem?.1 hy
  have := h.con.inj hj hk e
  subst this
  rw [hj] at hk
  exact Option.some.inj hk
/-- The place of an event that is there. -/
theorem VA.place {x : Ev} (h : VA u b fr ev wh) (hm : x ∈ ev) : ∃ j : Nat, ev[j]? = some x ∧ wh[x.i.toNat]? = some (j : Int) ∧ Live u b x.i x.w := by
  obtain ⟨j, hj⟩ := List.mem_iff_getElem?.1 hm
  exact ⟨j, hj, (h.own hj).2, (h.own hj).1⟩
section
variable {u2 f2 wh3 : List Int} {b2 : List Bool} {ev3 : List Ev} {gi gw : Int}
end
end
end Go.Proofs.YtclpegneiomakaaGreat
