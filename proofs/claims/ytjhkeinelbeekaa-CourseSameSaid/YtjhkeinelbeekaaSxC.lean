/-
  One operation over blocks by name: a real run yields what was worked out. Conditions: none.
-/
import Derived.Test.YtjhkeinelbeekaaSxB
namespace Go.Proofs.Ytjhkeinelbeekaa
open Go.RowKit

/-- A new block's pointer, or the slice of it. -/
def realP (r : Nat) : Option Nat → Value
  | none => .pointer (some ⟨r, 0, none⟩)
  | some n => .slice (some ⟨r, 0, none⟩) n n
/-- What a real run of an operation has to do with what was worked out. -/
def OutOk (P : Program) (β : Bl) (w : World) (s : Sem Next) : Out → Prop
  | .val x => ∃ u, x.is β u ∧ s.run P w = .ok (.value u) w
  | .new t cells len => ∃ us, SV.isl β cells us ∧ (∀ u ∈ us, u.oneCell' = true) ∧
      s.run P w = .ok (.value (realP w.heap.size len)) (w.alloc (.cells us.toArray t))
  | .sto b o cells => ∃ r us, β b = some r ∧ SV.isl β cells us ∧ (∀ u ∈ us, u.oneCell' = true) ∧ w.there r o us.length ∧ s.run P w = .ok .skip (w.setCells r o us)
  | .call f args => ∃ us, SV.isl β args us ∧ s.run P w = .ok (.enter f us.toArray) w

theorem isV_is {β : Bl} {s : SV} {x : Value} (h : s.isV = true) (k : s.is β x) : x = s.raw := by
  cases s <;> simp [SV.isV] at h
  exact k
theorem oneS_one {β : Bl} {s : SV} {x : Value} (h : oneS s = true) (k : s.is β x) : x.oneCell' = true := by
  cases s with
  | pv y => simp only [SV.is] at k; subst k; exact h
  | pp b o => obtain ⟨r, _, rfl⟩ := k; rfl
  | ps b o l c => obtain ⟨r, _, rfl⟩ := k; rfl
  | pc f cap => obtain ⟨r, _, rfl⟩ := k; rfl
  | any => cases h
theorem cellsOf_is {β : Bl} {s : SV} {x : Value} (h : (cellsOf s).all oneS = true) (k : s.is β x) : SV.isl β (cellsOf s) x.cells.toList := by
  cases s with
  | pv y => simp only [SV.is] at k; subst k; exact SV.isl_v _
  | pp b o => have k' := k; obtain ⟨r, _, rfl⟩ := k; exact ⟨k', trivial⟩
  | ps b o l c => have k' := k; obtain ⟨r, _, rfl⟩ := k; exact ⟨k', trivial⟩
  | pc f cap => have k' := k; obtain ⟨r, _, rfl⟩ := k; exact ⟨k', trivial⟩
  | any => cases h
theorem isl_one {β : Bl} : ∀ {ss : List SV} {us : List Value}, ss.all oneS = true → SV.isl β ss us → ∀ u ∈ us, u.oneCell' = true
  | [], [], _, _ => by simp
  | [], _ :: _, _, k => k.elim
  | _ :: _, [], _, k => k.elim
  | s :: ss, v :: vs, h, k => by
    simp only [List.all_cons, Bool.and_eq_true] at h
    intro u hu
    rcases List.mem_cons.1 hu with rfl | hu
    · exact oneS_one h.1 k.1
    · exact isl_one h.2 k.2 u hu
theorem takeH_get {hp : List (Nat × Nat × SV)} {b : Nat} : ∀ {n o : Nat} {l : List Value}, takeH hp b o n = some l → l.length = n ∧ ∀ j v, l[j]? = some v → lookH hp b (o + j) = some (.pv v)
  | 0, o, l, h => by simp [takeH] at h; subst h; simp
  | n + 1, o, l, h => by
    simp only [takeH] at h
    split at h
    · rename_i x hx
      split at h
      · rename_i m hm
        simp only [Option.some.injEq] at h
        subst h
        obtain ⟨h1, h2⟩ := takeH_get hm
        refine ⟨by simp [h1], fun j v hj => ?_⟩
        cases j with
        | zero => simp at hj; subst hj; simpa using hx
        | succ j => rw [show o + (j + 1) = o + 1 + j by omega]; exact h2 j v (by simpa using hj)
      · cases h
    · cases h
theorem haveH_get {hp : List (Nat × Nat × SV)} {b : Nat} : ∀ {n o : Nat}, haveH hp b o n = true → ∀ j, j < n → ∃ s, lookH hp b (o + j) = some s
  | 0, o, _, j, hj => by omega
  | n + 1, o, h, j, hj => by
    simp only [haveH] at h
    split at h
    · rename_i s hs
      cases j with
      | zero => exact ⟨s, by simpa using hs⟩
      | succ j => rw [show o + (j + 1) = o + 1 + j by omega]; exact haveH_get h j (by omega)
    · cases h
section
variable {P : Program} {W0 : World} {lo : Nat} {β : Bl} {st : St} {w : World} {ρ : Operand → Value}

theorem HRel.range {hp : List (Nat × Nat × SV)} (H : HRel W0 lo β hp w) {b o n r : Nat} {l : List Value} (hr : β b = some r) (h : takeH hp b o n = some l) : w.rangeAt r o l := by
  intro j v hj
  obtain ⟨r', u, h1, h2, _, h4, _⟩ := H.cells _ _ _ ((takeH_get h).2 j v hj)
  rw [hr] at h1
  cases h1
  rw [show u = v from h2] at h4
  exact h4
theorem HRel.there {hp : List (Nat × Nat × SV)} (H : HRel W0 lo β hp w) {b o n r : Nat} (hr : β b = some r) (h : haveH hp b o n = true) : w.there r o n := by
  intro j hj
  obtain ⟨s, hs⟩ := haveH_get h j hj
  obtain ⟨r', u, h1, _, _, h4, h5⟩ := H.cells _ _ _ hs
  rw [hr] at h1
  cases h1
  exact ⟨by rw [h4]; rfl, h5⟩

theorem resolve1_ok {u : Value} {c : Ch} {out : Out} {q : List Prop} (h : resolve1 u c = some (out, q)) (hq : AllP q) {s : Sem Next} (hs : s.run P w = .ok (.value u) w) : OutOk P β w s out := by
  cases c with
  | k => simp only [resolve1, Option.some.injEq, Prod.mk.injEq] at h; obtain ⟨rfl, rfl⟩ := h; exact ⟨u, rfl, hs⟩
  | t b =>
    simp only [resolve1] at h
    split at h
    · rename_i e
      simp only [Option.some.injEq, Prod.mk.injEq] at h
      obtain ⟨rfl, rfl⟩ := h
      have := hq.1
      subst this
      exact ⟨_, rfl, hs⟩
    · cases h
  | r v =>
    simp only [resolve1, Option.some.injEq, Prod.mk.injEq] at h
    obtain ⟨rfl, rfl⟩ := h
    have := hq.1
    subst this
    exact ⟨_, rfl, hs⟩
  | l => cases h
theorem allV_congr {o : Oper} (hn : ∀ cs b, o.op ≠ .select cs b) (hx : ∀ x ∈ o.op.operands, (st.ev x).is β (ρ x)) (hv : (o.op.operands.toList.all fun x => (st.ev x).isV) = true) :
    execOp ρ o = execOp (fun x => (st.ev x).raw) o := by
  refine execOp_congr o hn fun x hm => ?_
  exact isV_is (List.all_eq_true.1 hv x (by simpa using hm)) (hx x hm)
theorem generic_ok {o : Oper} {c : Ch} {out : Out} {q : List Prop} (h : generic P st o c = some (out, q)) (hq : AllP q) (hx : ∀ x ∈ o.op.operands, (st.ev x).is β (ρ x)) : OutOk P β w (execOp ρ o) out := by
  unfold generic at h
  cases hv : o.op.operands.toList.all fun x => (st.ev x).isV
  · rw [hv] at h; simp at h
  · rw [hv, cond_true] at h
    split at h
    · cases h
    · rename_i hn
      split at h
      · rename_i u hu
        rw [allV_congr (fun cs b e => hn cs b e) hx hv]
        exact resolve1_ok h hq (prun_run hu w)
      · cases h

theorem run_value {s : Sem Value} {u : Value} {w' : World} (h : s.run P w = .ok u w') : ((do pure (.value (← s))) : Sem Next).run P w = .ok (.value u) w' := by
  simp [h]
theorem run_unit {s : Sem Unit} {w' : World} (h : s.run P w = .ok () w') : ((do s; pure .skip) : Sem Next).run P w = .ok .skip w' := by
  simp [h]

theorem binS_ok {o : Oper} {op : BinOp} {t t' : TypeId} {x y : Operand} {c : Ch} {out : Out} {q : List Prop} (ho : o.op = .binOp op t x y t') (h : binS P st o op t (st.ev x) (st.ev y) c = some (out, q)) (hq : AllP q)
    (hx : ∀ x ∈ o.op.operands, (st.ev x).is β (ρ x)) : OutOk P β w (execOp ρ o) out := by
  have ha : (st.ev x).is β (ρ x) := hx x (by simp [ho, Op.operands])
  have hb : (st.ev y).is β (ρ y) := hx y (by simp [ho, Op.operands])
  have gd : ∀ xs ys, P.eqGuardType P.depth t = false → (eqGuard op t x y (.agg xs) (.agg ys)).run P w = .ok () w := by
    intro xs ys hg
    unfold eqGuard
    cases op <;> simp [hg]
  have gi : ∀ k a l b, (eqGuard op t x y (.int k a) (.int l b)).run P w = .ok () w := by
    intro k a l b
    unfold eqGuard
    cases op <;> simp
  unfold binS at h
  split at h
  · rename_i xs ys e h1 h2
    rw [h1] at ha
    rw [h2] at hb
    cases hg : P.eqGuardType P.depth t
    · rw [hg, cond_false] at h
      split at h
      · rename_i r hr
        simp only [Option.some.injEq, Prod.mk.injEq] at h
        obtain ⟨rfl, rfl⟩ := h
        have he := hq.1
        subst he
        refine ⟨_, rfl, ?_⟩
        simp only [execOp, ho]
        refine run_value ?_
        rw [show ρ x = _ from ha, show ρ y = _ from hb]
        simp [gd _ _ hg, binOp, Op.equal, eqB_run w 40 _ _ _ _ hr Op.maxDepth (by decide)]
      · cases h
    · rw [hg, cond_true] at h; cases h
  · rename_i xs ys e h1 h2
    rw [h1] at ha
    rw [h2] at hb
    cases hg : P.eqGuardType P.depth t
    · rw [hg, cond_false] at h
      split at h
      · rename_i r hr
        simp only [Option.some.injEq, Prod.mk.injEq] at h
        obtain ⟨rfl, rfl⟩ := h
        have he := hq.1
        subst he
        refine ⟨_, rfl, ?_⟩
        simp only [execOp, ho]
        refine run_value ?_
        rw [show ρ x = _ from ha, show ρ y = _ from hb]
        simp [gd _ _ hg, binOp, Op.equal, eqB_run w 40 _ _ _ _ hr Op.maxDepth (by decide)]
      · cases h
    · rw [hg, cond_true] at h; cases h
  all_goals
    first
    | exact generic_ok h hq hx
    | (rename_i h1 h2
       rw [h1] at ha
       rw [h2] at hb
       first
       | (split at h
          · rename_i hk
            subst hk
            simp only [Option.some.injEq, Prod.mk.injEq] at h
            obtain ⟨rfl, rfl⟩ := h
            have he := hq.1
            have hv := hq.2.1
            subst hv
            refine ⟨_, rfl, ?_⟩
            simp only [execOp, ho]
            refine run_value ?_
            rw [show ρ x = _ from ha, show ρ y = _ from hb]
            simp [gi, binOp, Op.intDiv, he]
          · cases h)
       | (simp only [Option.some.injEq, Prod.mk.injEq] at h
          obtain ⟨rfl, rfl⟩ := h
          have he := hq.1
          have hv := hq.2.1
          subst hv
          refine ⟨_, rfl, ?_⟩
          simp only [execOp, ho]
          refine run_value ?_
          rw [show ρ x = _ from ha, show ρ y = _ from hb]
          simp [gi, binOp, Op.shift, he]))
end
end Go.Proofs.Ytjhkeinelbeekaa
