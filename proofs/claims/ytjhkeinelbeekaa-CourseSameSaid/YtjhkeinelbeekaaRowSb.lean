/-
  CourseSame returns true for all points and fractions. Conditions: none.
-/
import Derived.Test.YtjhkeinelbeekaaRows
import Derived.Test.YtjhkeinelbeekaaSb
import Derived.ProofKit
import Derived.OpenShut
import Derived.Lib.SmallJoins
namespace Go.Proofs.Ytjhkeinelbeekaa
open Go.ChangeShapes Go.WideShapes Go.ChangeAt Go.RowKit Go.Joins

theorem courseSame_knob : ownKnob Try.prog.godebug = none := by kernel_rfl
theorem courseSame_cellsR : Try.prog.cellsOf 23 = 2 := by kernel_rfl
theorem courseSame_shutR {H : Type} {enc : TypeId × Value → H} (a b : Int) (wa : (Lit.int .i64 a).wf = true) (wb : (Lit.int .i64 b).wf = true) (W' : World) (sp : Nat → Bool) :
    DataW.Trod enc Try.prog W' 0 sp true 23 (.agg #[.int .i64 a, .int .i64 b]) (.agg [.lit (.int .i64 a), .lit (.int .i64 b)]) [] :=
  shut_agg2 (y0 := (.lit (.int .i64 a), [])) (y1 := (.lit (.int .i64 b), [])) Try.underlying23 (by kernel_rfl) courseSame_cellsR ⟨1, by simp [DataW.trod, Try.underlying2, wa]⟩ ⟨1, by simp [DataW.trod, Try.underlying2, wb]⟩
theorem courseSame_cellsP : Try.prog.cellsOf 53 = 3 := by kernel_rfl
theorem courseSame_shutP {H : Type} {enc : TypeId × Value → H} (a b c : Int) (wa : (Lit.int .i64 a).wf = true) (wb : (Lit.int .i64 b).wf = true) (wc : (Lit.int .i64 c).wf = true) (W' : World) (sp : Nat → Bool) :
    DataW.Trod enc Try.prog W' 0 sp true 53 (.agg #[.int .i64 a, .int .i64 b, .int .i64 c]) (.agg [.lit (.int .i64 a), .lit (.int .i64 b), .lit (.int .i64 c)]) [] :=
  shut_agg3 (y0 := (.lit (.int .i64 a), [])) (y1 := (.lit (.int .i64 b), [])) (y2 := (.lit (.int .i64 c), [])) Try.underlying53 (by kernel_rfl) courseSame_cellsP ⟨1, by simp [DataW.trod, Try.underlying3, wa]⟩ ⟨1, by simp [DataW.trod, Try.underlying2, wb]⟩ ⟨1, by simp [DataW.trod, Try.underlying2, wc]⟩
set_option maxRecDepth 100000 in
theorem courseSame_lifted (os : Os) (started : os.Started) (H : Type) (enc : TypeId × Value → H) :
    ReturnsInHanded {} Try.checked os 15 .any (Rows.courseSameSpec.pre6 enc Try.prog Try.f15 Rows.courseSameRow.domain false) (Rows.courseSameSpec.post enc Try.prog Try.f15 false true false false) := by
  refine returnsInHanded_of_change (C := Try.checked) courseSame_knob started (by kernel_rfl) Try.func15
    (ChangeSpec.witness6 (enc := enc) (C := Try.checked) false ⟨#[], #[.agg #[.int .i64 0, .int .i64 0, .int .i64 0], .agg #[.int .i64 0, .int .i64 0, .int .i64 0], .agg #[.int .i64 0, .int .i64 0]], []⟩ 8 (by kernel_rfl) (by kernel_rfl) (by kernel_rfl) (by kernel_rfl)) ?_
  intro W base args ds gs before hval0 hW hcnd _
  have hval : ∀ (j : Nat) t v, Try.f15.params[j]? = some t → args[j]? = some v → Value.okWide Try.prog W .any base t v := hval0
  have hW' := hW
  obtain ⟨p, q, hA0, hV, rfl, hfz, hnd⟩ := hW
  have hA : DataW.TrodAll enc Try.prog W 0 (fun _ => true) true Try.f15.params.toList args.toList ds p := hA0
  rw [Try.params15] at hA hval
  obtain ⟨v0, vs0, d0, ds0, p0, q0, hargs, rfl, rfl, h0, rr0⟩ := trodAll_cons hA
  obtain ⟨v1, vs1, d1, ds1, p1, q1, rfl, rfl, rfl, h1, rr1⟩ := trodAll_cons rr0
  obtain ⟨v2, vs2, d2, ds2, p2, q2, rfl, rfl, rfl, h2, rr2⟩ := trodAll_cons rr1
  obtain ⟨rfl, rfl, rfl⟩ := trodAll_nil rr2
  obtain rfl : args = #[v0, v1, v2] := by cases args; simp_all
  obtain ⟨rfl, rfl⟩ := trodVars_none hV
  obtain ⟨c0, k0, o0, y0, x0, z0, m0, rfl, rfl, rfl, hy0, hx0, hz0⟩ := open_agg3 Try.underlying53 (by kernel_rfl) courseSame_cellsP (hval 0 53 v0 rfl rfl) h0
  obtain ⟨a0, e0, rfl, w0⟩ := DataW.trod_int Try.underlying3 hy0
  obtain ⟨b0, g0, rfl, u0⟩ := DataW.trod_int Try.underlying2 hx0
  obtain ⟨f0, l0, rfl, s0⟩ := DataW.trod_int Try.underlying2 hz0
  simp at e0 g0 l0
  subst e0 g0 l0
  obtain ⟨c1, k1, o1, y1, x1, z1, m1, rfl, rfl, rfl, hy1, hx1, hz1⟩ := open_agg3 Try.underlying53 (by kernel_rfl) courseSame_cellsP (hval 1 53 v1 rfl rfl) h1
  obtain ⟨a1, e1, rfl, w1⟩ := DataW.trod_int Try.underlying3 hy1
  obtain ⟨b1, g1, rfl, u1⟩ := DataW.trod_int Try.underlying2 hx1
  obtain ⟨f1, l1, rfl, s1⟩ := DataW.trod_int Try.underlying2 hz1
  simp at e1 g1 l1
  subst e1 g1 l1
  obtain ⟨c2, k2, y2, x2, m2, rfl, rfl, rfl, hy2, hx2⟩ := open_agg2 Try.underlying23 (by kernel_rfl) courseSame_cellsR (hval 2 23 v2 rfl rfl) h2
  obtain ⟨a2, e2, rfl, w2⟩ := DataW.trod_int Try.underlying2 hy2
  obtain ⟨b2, g2, rfl, u2⟩ := DataW.trod_int Try.underlying2 hx2
  simp at e2 g2
  subst e2 g2
  clear hA0 hval0
  simp only [List.append_nil] at hW'
  refine (same_law (bounds_i64 w0) (bounds_i64 u0) (bounds_i64 s0) (bounds_i64 w1) (bounds_i64 u1) (bounds_i64 s1) (bounds_i64 w2) (bounds_i64 u2) W).mono fun e W' ⟨he, hgr⟩ => ?_
  subst he
  have hg := hgr.grown
  exact ⟨_, rfl, post_of_same (pa := []) (pv := []) hW' (fun _ _ _ => (trodAll_cons_mk (shut_bool Try.underlying4 _) trodAll_mk0)) (fun sp _ => (trodAll_cons_mk (courseSame_shutP a0 b0 f0 w0 u0 s0 _ sp) (trodAll_cons_mk (courseSame_shutP a1 b1 f1 w1 u1 s1 _ sp) (trodAll_cons_mk (courseSame_shutR a2 b2 w2 u2 _ sp) trodAll_mk0)))) (fun _ _ => rfl) rfl
    (hg.frame _) hg.2.1 (ok_one (by kernel_rfl) rfl (okWide_bool_mk Try.underlying4 _))⟩

/-- The statement. -/
theorem courseSame_holds : Rows.CourseSameSaid :=
  OpenClaim.holds_of_wide 15 Try.f15 rfl rfl rfl rfl rfl rfl rfl ⟨rfl, rfl, rfl, rfl, rfl⟩ rfl rfl rfl rfl rfl (by kernel_rfl) Try.func15 (by kernel_rfl)
    (of_decide_eq_true (by kernel_rfl)) (by unfold Func.isWrapper; first | (rw [if_pos (by decide +kernel)]; kernel_rfl) | (rw [if_neg (by decide +kernel)]; exact ⟨rfl, rfl⟩))
    (fun os started H enc _ => courseSame_lifted os started H enc)
#print axioms courseSame_holds
end Go.Proofs.Ytjhkeinelbeekaa

