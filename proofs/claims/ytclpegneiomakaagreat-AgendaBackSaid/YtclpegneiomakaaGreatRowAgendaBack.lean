/-
  AgendaBack holds of every agenda, time, number and handle. Conditions: none.
-/
import Derived.Test.YtclpegneiomakaaGreatYz
import Derived.ProofKit
import Derived.OpenShut
import Derived.Lib.SmallJoins
namespace Go.Proofs.YtclpegneiomakaaGreat
open Go.ChangeShapes Go.WideShapes Go.ChangeAt Go.RowKit Go.Joins

theorem agendaBack_knob : ownKnob Tryz.prog.godebug = none := by kernel_rfl
theorem agendaBack_shutR {H : Type} {enc : TypeId × Value → H} (a b : Int) (wa : (Lit.int .i64 a).wf = true) (wb : (Lit.int .i64 b).wf = true) (W' : World) (sp : Nat → Bool) :
    DataW.Trod enc Tryz.prog W' 0 sp true 38 (.agg #[.int .i64 a, .int .i64 b]) (.agg [.lit (.int .i64 a), .lit (.int .i64 b)]) [] :=
  shut_agg2 (y0 := (.lit (.int .i64 a), [])) (y1 := (.lit (.int .i64 b), [])) Tryz.underlying38 (by kernel_rfl) yl_ra ⟨1, by simp [DataW.trod, Tryz.underlying2, wa]⟩ ⟨1, by simp [DataW.trod, Tryz.underlying2, wb]⟩
theorem agendaBack_cellsH : Tryz.prog.cellsOf 33 = 2 := by kernel_rfl
theorem agendaBack_shutH {H : Type} {enc : TypeId × Value → H} (a b : Int) (wa : (Lit.int .i64 a).wf = true) (wb : (Lit.int .i64 b).wf = true) (W' : World) (sp : Nat → Bool) :
    DataW.Trod enc Tryz.prog W' 0 sp true 33 (.agg #[.int .i64 a, .int .i64 b]) (.agg [.lit (.int .i64 a), .lit (.int .i64 b)]) [] :=
  shut_agg2 (y0 := (.lit (.int .i64 a), [])) (y1 := (.lit (.int .i64 b), [])) Tryz.underlying33 (by kernel_rfl) agendaBack_cellsH ⟨1, by simp [DataW.trod, Tryz.underlying3, wa]⟩ ⟨1, by simp [DataW.trod, Tryz.underlying3, wb]⟩
set_option maxRecDepth 100000 in
theorem agendaBack_lifted (os : Os) (started : os.Started) (H : Type) (enc : TypeId × Value → H) :
    ReturnsInHanded {} Tryz.checked os 8 .any (Rows.agendaBackSpec.pre6 enc Tryz.prog Tryz.f8 Rows.agendaBackRow.domain false) (Rows.agendaBackSpec.post enc Tryz.prog Tryz.f8 false true false false) := by
  refine returnsInHanded_of_change (C := Tryz.checked) agendaBack_knob started (by kernel_rfl) Tryz.func8
    (ChangeSpec.witness6 (enc := enc) (C := Tryz.checked) false ⟨#[], #[.agg #[.slice none 0 0, .slice none 0 0, .slice none 0 0, .slice none 0 0, .slice none 0 0], .agg #[.int .i64 0, .int .i64 0], .int .i64 0, .agg #[.int .i64 0, .int .i64 0]], []⟩ 8 (by kernel_rfl) (by kernel_rfl) (by kernel_rfl) (by kernel_rfl)) ?_
  intro W base args ds gs before hval0 hW hcnd _
  have hval : ∀ (j : Nat) t v, Tryz.f8.params[j]? = some t → args[j]? = some v → Value.okWide Tryz.prog W .any base t v := hval0
  have hW' := hW
  obtain ⟨p, q, hA0, hV, rfl, hfz, hnd⟩ := hW
  have hA : DataW.TrodAll enc Tryz.prog W 0 (fun _ => true) true Tryz.f8.params.toList args.toList ds p := hA0
  rw [Tryz.params8] at hA hval
  obtain ⟨v0, vs0, d0, ds0, p0, q0, hargs, rfl, rfl, h0, rr0⟩ := trodAll_cons hA
  obtain ⟨v1, vs1, d1, ds1, p1, q1, rfl, rfl, rfl, h1, rr1⟩ := trodAll_cons rr0
  obtain ⟨v2, vs2, d2, ds2, p2, q2, rfl, rfl, rfl, h2, rr2⟩ := trodAll_cons rr1
  obtain ⟨v3, vs3, d3, ds3, p3, q3, rfl, rfl, rfl, h3, rr3⟩ := trodAll_cons rr2
  obtain ⟨rfl, rfl, rfl⟩ := trodAll_nil rr3
  obtain rfl : args = #[v0, v1, v2, v3] := by cases args; simp_all
  obtain ⟨rfl, rfl⟩ := trodVars_none hV
  have h0k := h0
  obtain ⟨ua0, ub0, uc0, ud0, ue0, la0, lb0, lc0, ld0, le0, rfl, ra0, rb0, rc0, rd0, re0, wi0⟩ := open_agenda (hval 0 28 v0 rfl rfl) h0
  obtain ⟨c1, k1, y1, x1, m1, rfl, rfl, rfl, hy1, hx1⟩ := open_agg2 Tryz.underlying38 (by kernel_rfl) yl_ra (hval 1 38 v1 rfl rfl) h1
  obtain ⟨a1, e1, rfl, w1⟩ := DataW.trod_int Tryz.underlying2 hy1
  obtain ⟨b1, g1, rfl, u1⟩ := DataW.trod_int Tryz.underlying2 hx1
  simp at e1 g1
  subst e1 g1
  obtain ⟨a2, rfl, rfl, rfl, w2⟩ := open_int Tryz.underlying3 (hval 2 3 v2 rfl rfl) h2
  obtain ⟨c3, k3, y3, x3, m3, rfl, rfl, rfl, hy3, hx3⟩ := open_agg2 Tryz.underlying33 (by kernel_rfl) agendaBack_cellsH (hval 3 33 v3 rfl rfl) h3
  obtain ⟨a3, e3, rfl, w3⟩ := DataW.trod_int Tryz.underlying3 hy3
  obtain ⟨b3, g3, rfl, u3⟩ := DataW.trod_int Tryz.underlying3 hx3
  simp at e3 g3
  subst e3 g3
  clear hA0 hval0
  simp only [List.append_nil, List.nil_append] at hW'
  have hlt0 : ∀ x ∈ p0, x.block < W.heap.size := fun x hx => by simpa using hW'.lt x (by simp [hx])
  refine (agenda_run (back_walk la0 lc0 lb0 ld0 le0 wi0 a1 b1 ⟨wf64 w1, wf64 u1⟩ a2 a3 b3) ra0 rb0 rc0 rd0 re0).mono fun e W' ⟨he, hgr⟩ => ?_
  subst he
  exact ⟨_, rfl, zpost_of_old (pv := []) hW' (fun _ _ _ => (trodAll_cons_mk (shut_bool Tryz.underlying4 _) trodAll_mk0)) (fun sp hsp => (trodAll_cons_mk (WideElems.Trod_stays zl_laid yl_read yl_row h0k (fun x hx => hgr.1.same (hlt0 x hx)) (fun x hx => hsp x (by simp [hx]))) (trodAll_cons_mk (agendaBack_shutR a1 b1 w1 u1 _ sp) (trodAll_cons_mk (shut_int Tryz.underlying3 w2) (trodAll_cons_mk (agendaBack_shutH a3 b3 w3 u3 _ sp) trodAll_mk0))))) (fun _ _ => rfl) (by simp)
    hgr (ok_one (by kernel_rfl) rfl (okWide_bool_mk Tryz.underlying4 _))⟩

/-- The statement. -/
theorem agendaBack_holds : Rows.AgendaBackSaid :=
  OpenClaim.holds_of_wide 8 Tryz.f8 rfl rfl rfl rfl rfl rfl rfl ⟨rfl, rfl, rfl, rfl, rfl⟩ rfl rfl rfl rfl rfl (by kernel_rfl) Tryz.func8 (by kernel_rfl)
    (of_decide_eq_true (by kernel_rfl)) (by unfold Func.isWrapper; first | (rw [if_pos (by decide +kernel)]; kernel_rfl) | (rw [if_neg (by decide +kernel)]; exact ⟨rfl, rfl⟩))
    (fun os started H enc _ => agendaBack_lifted os started H enc)
#print axioms agendaBack_holds
end Go.Proofs.YtclpegneiomakaaGreat
