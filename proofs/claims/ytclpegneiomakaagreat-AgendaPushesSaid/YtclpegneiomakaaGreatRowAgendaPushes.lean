/-
  AgendaPushes holds of every number, agenda, time, number and handle. Conditions: none.
-/
import Derived.Test.YtclpegneiomakaaGreatW47
import Derived.ProofKit
import Derived.OpenShut
import Derived.Lib.SmallJoins
namespace Go.Proofs.YtclpegneiomakaaGreat
open Go.ChangeShapes Go.WideShapes Go.ChangeAt Go.RowKit Go.Joins

theorem agendaPushes_knob : ownKnob Tryz.prog.godebug = none := by kernel_rfl
theorem agendaPushes_shutR {H : Type} {enc : TypeId × Value → H} (a b : Int) (wa : (Lit.int .i64 a).wf = true) (wb : (Lit.int .i64 b).wf = true) (W' : World) (sp : Nat → Bool) :
    DataW.Trod enc Tryz.prog W' 0 sp true 38 (.agg #[.int .i64 a, .int .i64 b]) (.agg [.lit (.int .i64 a), .lit (.int .i64 b)]) [] :=
  shut_agg2 (y0 := (.lit (.int .i64 a), [])) (y1 := (.lit (.int .i64 b), [])) Tryz.underlying38 (by kernel_rfl) yl_ra ⟨1, by simp [DataW.trod, Tryz.underlying2, wa]⟩ ⟨1, by simp [DataW.trod, Tryz.underlying2, wb]⟩
theorem agendaPushes_cellsH : Tryz.prog.cellsOf 33 = 2 := by kernel_rfl
theorem agendaPushes_shutH {H : Type} {enc : TypeId × Value → H} (a b : Int) (wa : (Lit.int .i64 a).wf = true) (wb : (Lit.int .i64 b).wf = true) (W' : World) (sp : Nat → Bool) :
    DataW.Trod enc Tryz.prog W' 0 sp true 33 (.agg #[.int .i64 a, .int .i64 b]) (.agg [.lit (.int .i64 a), .lit (.int .i64 b)]) [] :=
  shut_agg2 (y0 := (.lit (.int .i64 a), [])) (y1 := (.lit (.int .i64 b), [])) Tryz.underlying33 (by kernel_rfl) agendaPushes_cellsH ⟨1, by simp [DataW.trod, Tryz.underlying3, wa]⟩ ⟨1, by simp [DataW.trod, Tryz.underlying3, wb]⟩
set_option maxRecDepth 100000 in
theorem agendaPushes_lifted (os : Os) (started : os.Started) (H : Type) (enc : TypeId × Value → H) :
    ReturnsInHanded {} Tryz.checked os 4 .any (Rows.agendaPushesSpec.pre6 enc Tryz.prog Tryz.f4 Rows.agendaPushesRow.domain false) (Rows.agendaPushesSpec.post enc Tryz.prog Tryz.f4 false true false false) := by
  refine returnsInHanded_of_change (C := Tryz.checked) agendaPushes_knob started (by kernel_rfl) Tryz.func4
    (ChangeSpec.witness6 (enc := enc) (C := Tryz.checked) false ⟨#[], #[.int .i64 0, .agg #[.slice none 0 0, .slice none 0 0, .slice none 0 0, .slice none 0 0, .slice none 0 0], .agg #[.int .i64 0, .int .i64 0], .int .i64 0, .agg #[.int .i64 0, .int .i64 0]], []⟩ 8 (by kernel_rfl) (by kernel_rfl) (by kernel_rfl) (by kernel_rfl)) ?_
  intro W base args ds gs before hval0 hW hcnd _
  have hval : ∀ (j : Nat) t v, Tryz.f4.params[j]? = some t → args[j]? = some v → Value.okWide Tryz.prog W .any base t v := hval0
  have hW' := hW
  obtain ⟨p, q, hA0, hV, rfl, hfz, hnd⟩ := hW
  have hA : DataW.TrodAll enc Tryz.prog W 0 (fun _ => true) true Tryz.f4.params.toList args.toList ds p := hA0
  rw [Tryz.params4] at hA hval
  obtain ⟨v0, vs0, d0, ds0, p0, q0, hargs, rfl, rfl, h0, rr0⟩ := trodAll_cons hA
  obtain ⟨v1, vs1, d1, ds1, p1, q1, rfl, rfl, rfl, h1, rr1⟩ := trodAll_cons rr0
  obtain ⟨v2, vs2, d2, ds2, p2, q2, rfl, rfl, rfl, h2, rr2⟩ := trodAll_cons rr1
  obtain ⟨v3, vs3, d3, ds3, p3, q3, rfl, rfl, rfl, h3, rr3⟩ := trodAll_cons rr2
  obtain ⟨v4, vs4, d4, ds4, p4, q4, rfl, rfl, rfl, h4, rr4⟩ := trodAll_cons rr3
  obtain ⟨rfl, rfl, rfl⟩ := trodAll_nil rr4
  obtain rfl : args = #[v0, v1, v2, v3, v4] := by cases args; simp_all
  obtain ⟨rfl, rfl⟩ := trodVars_none hV
  obtain ⟨a0, rfl, rfl, rfl, w0⟩ := open_int Tryz.underlying3 (hval 0 3 v0 rfl rfl) h0
  have h1k := h1
  obtain ⟨ua1, ub1, uc1, ud1, ue1, la1, lb1, lc1, ld1, le1, rfl, ra1, rb1, rc1, rd1, re1, wi1⟩ := open_agenda (hval 1 28 v1 rfl rfl) h1
  obtain ⟨c2, k2, y2, x2, m2, rfl, rfl, rfl, hy2, hx2⟩ := open_agg2 Tryz.underlying38 (by kernel_rfl) yl_ra (hval 2 38 v2 rfl rfl) h2
  obtain ⟨a2, e2, rfl, w2⟩ := DataW.trod_int Tryz.underlying2 hy2
  obtain ⟨b2, g2, rfl, u2⟩ := DataW.trod_int Tryz.underlying2 hx2
  simp at e2 g2
  subst e2 g2
  obtain ⟨a3, rfl, rfl, rfl, w3⟩ := open_int Tryz.underlying3 (hval 3 3 v3 rfl rfl) h3
  obtain ⟨c4, k4, y4, x4, m4, rfl, rfl, rfl, hy4, hx4⟩ := open_agg2 Tryz.underlying33 (by kernel_rfl) agendaPushes_cellsH (hval 4 33 v4 rfl rfl) h4
  obtain ⟨a4, e4, rfl, w4⟩ := DataW.trod_int Tryz.underlying3 hy4
  obtain ⟨b4, g4, rfl, u4⟩ := DataW.trod_int Tryz.underlying3 hx4
  simp at e4 g4
  subst e4 g4
  clear hA0 hval0
  simp only [List.append_nil, List.nil_append] at hW'
  have hlt1 : ∀ x ∈ p1, x.block < W.heap.size := fun x hx => by simpa using hW'.lt x (by simp [hx])
  refine (agenda_run1 (pushes_walk a0 la1 lc1 lb1 ld1 le1 wi1 a2 b2 ⟨wf64 w2, wf64 u2⟩ a3 a4 b4) ra1 rb1 rc1 rd1 re1).mono fun e W' ⟨he, hgr⟩ => ?_
  subst he
  exact ⟨_, rfl, zpost_of_old (pv := []) hW' (fun _ _ _ => (trodAll_cons_mk (shut_bool Tryz.underlying4 _) trodAll_mk0)) (fun sp hsp => (trodAll_cons_mk (shut_int Tryz.underlying3 w0) (trodAll_cons_mk (WideElems.Trod_stays zl_laid yl_read yl_row h1k (fun x hx => hgr.1.same (hlt1 x hx)) (fun x hx => hsp x (by simp [hx]))) (trodAll_cons_mk (agendaPushes_shutR a2 b2 w2 u2 _ sp) (trodAll_cons_mk (shut_int Tryz.underlying3 w3) (trodAll_cons_mk (agendaPushes_shutH a4 b4 w4 u4 _ sp) trodAll_mk0)))))) (fun _ _ => rfl) (by simp)
    hgr (ok_one (by kernel_rfl) rfl (okWide_bool_mk Tryz.underlying4 _))⟩

/-- The statement. -/
theorem agendaPushes_holds : Rows.AgendaPushesSaid :=
  OpenClaim.holds_of_wide 4 Tryz.f4 rfl rfl rfl rfl rfl rfl rfl ⟨rfl, rfl, rfl, rfl, rfl⟩ rfl rfl rfl rfl rfl (by kernel_rfl) Tryz.func4 (by kernel_rfl)
    (of_decide_eq_true (by kernel_rfl)) (by unfold Func.isWrapper; first | (rw [if_pos (by decide +kernel)]; kernel_rfl) | (rw [if_neg (by decide +kernel)]; exact ⟨rfl, rfl⟩))
    (fun os started H enc _ => agendaPushes_lifted os started H enc)
#print axioms agendaPushes_holds
end Go.Proofs.YtclpegneiomakaaGreat
