/-
  One operation over blocks by name: a real run yields what was worked out. Conditions: none.
-/
import Derived.Test.YtjjmnoiffpnphaaSxB
namespace Go.Proofs.Ytjjmnoiffpnphaa
open Go.RowKit

/-- A new block's pointer, or the slice of it. -/
def realP (r : Nat) : Option Nat → Value
  | none => .pointer (some ⟨r, 0, none⟩)
  | some n => .slice (some ⟨r, 0, none⟩) n n
/-- Only this block is another one, and there may be new ones. -/
structure Upd (w w' : World) (row : Option Nat) : Prop where
  g : w.grownBy w' row
  fz : ∀ a, a.block < w.heap.size → w'.frozen? a = w.frozen? a
  dr : w.drawn ≤ w'.drawn
def isSl (u : Value) (n : Nat) : Prop := ∃ a c, u = .slice a n c
/-- What a real run of an operation has to do with what was worked out. -/
def OutOk (P : Program) (W0 : World) (lo : Nat) (β : Bl) (w : World) (s : Sem Next) : Out → Prop
  | .stl b e es n ys r => lo ≤ b → ∃ u w', β.g b = some u ∧ ((r = undef ∧ s.run P w = .ok .skip w') ∨ s.run P w = .ok (.value r) w') ∧ Upd w w' u.ownBlock ∧ w'.ownsRow W0.heap.size e es u n ys ∧ (∀ v ∈ ys, v.oneCell' = true)
  | .app old e es n ys => (∀ b, old = some b → lo ≤ b) → ∃ u w' row, s.run P w = .ok (.value u) w' ∧ isSl u n ∧ Upd w w' row ∧ (row = none ∨ ∃ b v, old = some b ∧ β.g b = some v ∧ row = v.ownBlock) ∧ w'.ownsRow W0.heap.size e es u n ys ∧
      (∀ v ∈ ys, v.oneCell' = true) ∧ (∀ k, u.ownBlock = some k → row = some k ∨ w.heap.size ≤ k)
  | .val x => ∃ u, x.is β u ∧ s.run P w = .ok (.value u) w
  | .new t cells len => ∃ us, SV.isl β cells us ∧ (∀ u ∈ us, u.oneCell' = true) ∧
      s.run P w = .ok (.value (realP w.heap.size len)) (w.alloc (.cells us.toArray t))
  | .sto b o cells => ∃ r us, β b = some r ∧ SV.isl β cells us ∧ (∀ u ∈ us, u.oneCell' = true) ∧ w.there r o us.length ∧ s.run P w = .ok .skip (w.setCells r o us)
  | .call f args => ∃ us, SV.isl β args us ∧ s.run P w = .ok (.enter f us.toArray) w
  | .mnew => s.run P w = .ok (.value (.map (some w.heap.size))) (w.alloc (.map #[] 0))
  | .mset b ys => ∃ r xs en clock, β b = some r ∧ MapIs w r xs ∧ s.run P w = .ok .skip { w with heap := w.heap.setIfInBounds r (.map en clock) } ∧ (en.toList.flatMap fun e => [e.key, e.val]) = ys

theorem isV_is {β : Bl} {s : SV} {x : Value} (h : s.isV = true) (k : s.is β x) : x = s.raw := by
  cases s <;> simp [SV.isV] at h
  exact k
theorem oneS_one {β : Bl} {s : SV} {x : Value} (h : oneS s = true) (k : s.is β x) : x.oneCell' = true := by
  cases s with
  | pv y => simp only [SV.is] at k; subst k; exact h
  | pp b o => obtain ⟨r, _, rfl⟩ := k; rfl
  | ps b o l c => obtain ⟨r, _, rfl⟩ := k; rfl
  | pc f cap => obtain ⟨r, _, rfl⟩ := k; rfl
  | ls b l => obtain ⟨_, a, c, rfl⟩ := k; rfl
  | lq b es kk l => obtain ⟨a, n, c, a', c', _, _, _, rfl, _⟩ := k; rfl
  | lp b q => obtain ⟨r, o, n, c, _, rfl⟩ := k; rfl
  | mp b => obtain ⟨r, _, rfl⟩ := k; rfl
  | ag l => cases h
  | tu l => cases h
  | row e es n xs => cases h
  | mrow xs => cases h
  | any => cases h
theorem cellsOf_is {β : Bl} {s : SV} {x : Value} (h : (cellsOf s).all oneS = true) (k : s.is β x) : SV.isl β (cellsOf s) x.cells.toList := by
  cases s with
  | pv y => simp only [SV.is] at k; subst k; exact SV.isl_v _
  | pp b o => have k' := k; obtain ⟨r, _, rfl⟩ := k; exact ⟨k', trivial⟩
  | ps b o l c => have k' := k; obtain ⟨r, _, rfl⟩ := k; exact ⟨k', trivial⟩
  | pc f cap => have k' := k; obtain ⟨r, _, rfl⟩ := k; exact ⟨k', trivial⟩
  | ls b l => have k' := k; obtain ⟨_, a, c, rfl⟩ := k; exact ⟨k', trivial⟩
  | lq b es kk l => have k' := k; obtain ⟨a, n, c, a', c', _, _, _, rfl, _⟩ := k; exact ⟨k', trivial⟩
  | lp b q => have k' := k; obtain ⟨r, o, n, c, _, rfl⟩ := k; exact ⟨k', trivial⟩
  | mp b => have k' := k; obtain ⟨r, _, rfl⟩ := k; exact ⟨k', trivial⟩
  | ag l => obtain ⟨vs, k, rfl⟩ := k; exact S0.isl_up k
  | tu l => simp [cellsOf, oneS] at h
  | row e es n xs => simp [cellsOf, oneS] at h
  | mrow xs => simp [cellsOf, oneS] at h
  | any => cases h
theorem isl_one {β : Bl} : ∀ {ss : List SV} {us : List Value}, ss.all oneS = true → SV.isl β ss us → ∀ u ∈ us, u.oneCell' = true
  | [], [], _, _ => by simp
  | [], _ :: _, _, k => k.elim
  | _ :: _, [], _, k => k.elim
  | s :: ss, v :: vs, h, k => by
    simp only [List.all_cons, Bool.and_eq_true] at h
    intro u hu
    rcases List.mem_cons.1 hu with rfl | hu
    · exact oneS_one h.1 k.1
    · exact isl_one h.2 k.2 u hu
theorem takeH_get {hp : List (Nat × Nat × SV)} {b : Nat} : ∀ {n o : Nat} {l : List Value}, takeH hp b o n = some l → l.length = n ∧ ∀ j v, l[j]? = some v → lookH hp b (o + j) = some (.pv v)
  | 0, o, l, h => by simp [takeH] at h; subst h; simp
  | n + 1, o, l, h => by
    simp only [takeH] at h
    split at h
    · rename_i x hx
      split at h
      · rename_i m hm
        simp only [Option.some.injEq] at h
        subst h
        obtain ⟨h1, h2⟩ := takeH_get hm
        refine ⟨by simp [h1], fun j v hj => ?_⟩
        cases j with
        | zero => simp at hj; subst hj; simpa using hx
        | succ j => rw [show o + (j + 1) = o + 1 + j by omega]; exact h2 j v (by simpa using hj)
      · cases h
    · cases h
theorem takeD_get {hp : List (Nat × Nat × SV)} {b : Nat} : ∀ {n o : Nat} {l : List S0}, takeD hp b o n = some l → l.length = n ∧ ∀ j d, l[j]? = some d → ∃ s, lookH hp b (o + j) = some s ∧ s.down = some d
  | 0, o, l, h => by simp [takeD] at h; subst h; simp
  | n + 1, o, l, h => by
    simp only [takeD] at h
    split at h
    · rename_i x hx
      split at h
      · rename_i d m hd hm
        simp only [Option.some.injEq] at h
        subst h
        obtain ⟨h1, h2⟩ := takeD_get hm
        refine ⟨by simp [h1], fun j v hj => ?_⟩
        cases j with
        | zero => simp at hj; subst hj; exact ⟨x, by simpa using hx, hd⟩
        | succ j => rw [show o + (j + 1) = o + 1 + j by omega]; exact h2 j v (by simpa using hj)
      · cases h
    · cases h
theorem haveH_get {hp : List (Nat × Nat × SV)} {b : Nat} : ∀ {n o : Nat}, haveH hp b o n = true → ∀ j, j < n → ∃ s, lookH hp b (o + j) = some s ∧ s.isRow = false
  | 0, o, _, j, hj => by omega
  | n + 1, o, h, j, hj => by
    simp only [haveH] at h
    split at h
    · rename_i s hs
      rw [Bool.and_eq_true, Bool.not_eq_true'] at h
      cases j with
      | zero => exact ⟨s, by simpa using hs, h.1⟩
      | succ j => rw [show o + (j + 1) = o + 1 + j by omega]; exact haveH_get h.2 j (by omega)
    · cases h
section
variable {P : Program} {W0 : World} {lo : Nat} {β : Bl} {st : St} {w : World} {ρ : Operand → Value}

theorem HRel.range {hp : List (Nat × Nat × SV)} (H : HRel W0 lo β hp w) {b o n r : Nat} {l : List Value} (hr : β b = some r) (h : takeH hp b o n = some l) : w.rangeAt r o l := by
  intro j v hj
  obtain ⟨r', u, h1, h2, _, h4, _⟩ := H.cells _ _ _ ((takeH_get h).2 j v hj) rfl
  rw [hr] at h1
  cases h1
  rw [show u = v from h2] at h4
  exact h4
theorem HRel.there {hp : List (Nat × Nat × SV)} (H : HRel W0 lo β hp w) {b o n r : Nat} (hr : β b = some r) (h : haveH hp b o n = true) : w.there r o n := by
  intro j hj
  obtain ⟨s, hs, hnr⟩ := haveH_get h j hj
  obtain ⟨r', u, h1, _, _, h4, h5⟩ := H.cells _ _ _ hs hnr
  rw [hr] at h1
  cases h1
  exact ⟨by rw [h4]; rfl, h5⟩

theorem S0.isl_pick {β : Bl} : ∀ {l : List S0} (g : Nat → Value), (∀ (j : Nat) (d : S0), l[j]? = some d → d.is β (g j)) → S0.isl β l ((List.range l.length).map g)
  | [], _, _ => trivial
  | d :: l, g, h => by
    rw [List.length_cons, List.range_succ_eq_map, List.map_cons, List.map_map]
    exact ⟨h 0 d rfl, S0.isl_pick (fun j => g (j + 1)) fun j d' hj => h (j + 1) d' (by simpa using hj)⟩
theorem HRel.rangeD {hp : List (Nat × Nat × SV)} (H : HRel W0 lo β hp w) {b o n r : Nat} {l : List S0} (hr : β b = some r) (h : takeD hp b o n = some l) : ∃ us, S0.isl β l us ∧ us.length = n ∧ w.rangeAt r o us := by
  obtain ⟨h1, h2⟩ := takeD_get h
  have key : ∀ j d, l[j]? = some d → d.is β ((w.cell? ⟨r, o + j, none⟩).getD undef) ∧ w.cell? ⟨r, o + j, none⟩ ≠ none := by
    intro j d hj
    obtain ⟨s, e1, e2⟩ := h2 j d hj
    obtain ⟨r', u, a1, a2, _, a4, _⟩ := H.cells _ _ _ e1 (by cases s <;> first | rfl | cases e2)
    rw [hr] at a1
    cases a1
    rw [a4]
    exact ⟨(SV.down_is e2).1 a2, by simp⟩
  refine ⟨(List.range l.length).map fun j => (w.cell? ⟨r, o + j, none⟩).getD undef, S0.isl_pick _ fun j d hj => (key j d hj).1, by simp [h1], fun j v hj => ?_⟩
  rw [List.getElem?_map] at hj
  by_cases hjl : j < l.length
  · rw [List.getElem?_range hjl] at hj
    simp only [Option.map_some, Option.some.injEq] at hj
    have := (key j l[j] (List.getElem?_eq_getElem hjl)).2
    cases e : w.cell? ⟨r, o + j, none⟩ with
    | none => exact (this e).elim
    | some y => rw [e] at hj; simp at hj; rw [hj]
  · rw [List.getElem?_eq_none (by simp; omega)] at hj
    cases hj
theorem HRel.takeA {hp : List (Nat × Nat × SV)} (H : HRel W0 lo β hp w) {b o n r : Nat} {s : SV} (hr : β b = some r) (h : takeA hp b o n = some s) : ∃ us, s.is β (.agg us.toArray) ∧ us.length = n ∧ w.rangeAt r o us := by
  unfold Go.Proofs.Ytjjmnoiffpnphaa.takeA at h
  split at h
  · rename_i l hl
    simp only [Option.some.injEq] at h
    subst h
    exact ⟨l, rfl, (takeH_get hl).1, H.range hr hl⟩
  · split at h
    · rename_i l hl
      simp only [Option.some.injEq] at h
      subst h
      obtain ⟨us, h1, h2, h3⟩ := H.rangeD hr hl
      exact ⟨us, ⟨us, h1, rfl⟩, h2, h3⟩
    · cases h

theorem resolve1_ok {u : Value} {c : Ch} {out : Out} {q : List Prop} (h : resolve1 u c = some (out, q)) (hq : AllP q) {s : Sem Next} (hs : s.run P w = .ok (.value u) w) : OutOk P W0 lo β w s out := by
  cases c with
  | k => simp only [resolve1, Option.some.injEq, Prod.mk.injEq] at h; obtain ⟨rfl, rfl⟩ := h; exact ⟨u, rfl, hs⟩
  | t b =>
    simp only [resolve1] at h
    split at h
    · rename_i e
      simp only [Option.some.injEq, Prod.mk.injEq] at h
      obtain ⟨rfl, rfl⟩ := h
      have := hq.1
      subst this
      exact ⟨_, rfl, hs⟩
    · cases h
  | r v =>
    simp only [resolve1, Option.some.injEq, Prod.mk.injEq] at h
    obtain ⟨rfl, rfl⟩ := h
    have := hq.1
    subst this
    exact ⟨_, rfl, hs⟩
  | _ => cases h
theorem allV_congr {o : Oper} (hn : ∀ cs b, o.op ≠ .select cs b) (hx : ∀ x ∈ o.op.operands, (st.ev x).is β (ρ x)) (hv : (o.op.operands.toList.all fun x => (st.ev x).isV) = true) :
    execOp ρ o = execOp (fun x => (st.ev x).raw) o := by
  refine execOp_congr o hn fun x hm => ?_
  exact isV_is (List.all_eq_true.1 hv x (by simpa using hm)) (hx x hm)
theorem generic_ok {o : Oper} {c : Ch} {out : Out} {q : List Prop} (h : generic P st o c = some (out, q)) (hq : AllP q) (hx : ∀ x ∈ o.op.operands, (st.ev x).is β (ρ x)) : OutOk P W0 lo β w (execOp ρ o) out := by
  unfold generic at h
  cases hv : o.op.operands.toList.all fun x => (st.ev x).isV
  · rw [hv] at h; simp at h
  · rw [hv, cond_true] at h
    split at h
    · cases h
    · rename_i hn
      split at h
      · rename_i u hu
        rw [allV_congr (fun cs b e => hn cs b e) hx hv]
        exact resolve1_ok h hq (prun_run hu w)
      · cases h

theorem run_value {s : Sem Value} {u : Value} {w' : World} (h : s.run P w = .ok u w') : ((do pure (.value (← s))) : Sem Next).run P w = .ok (.value u) w' := by
  simp [h]
theorem run_unit {s : Sem Unit} {w' : World} (h : s.run P w = .ok () w') : ((do s; pure .skip) : Sem Next).run P w = .ok .skip w' := by
  simp [h]

theorem binS_ok {o : Oper} {op : BinOp} {t t' : TypeId} {x y : Operand} {c : Ch} {out : Out} {q : List Prop} (ho : o.op = .binOp op t x y t') (h : binS P st o op t (st.ev x) (st.ev y) c = some (out, q)) (hq : AllP q)
    (hx : ∀ x ∈ o.op.operands, (st.ev x).is β (ρ x)) : OutOk P W0 lo β w (execOp ρ o) out := by
  have ha : (st.ev x).is β (ρ x) := hx x (by simp [ho, Op.operands])
  have hb : (st.ev y).is β (ρ y) := hx y (by simp [ho, Op.operands])
  have gd : ∀ xs ys, P.eqGuardType P.depth t = false → (eqGuard op t x y (.agg xs) (.agg ys)).run P w = .ok () w := by
    intro xs ys hg
    unfold eqGuard
    cases op <;> simp [hg]
  have gi : ∀ k a l b, (eqGuard op t x y (.int k a) (.int l b)).run P w = .ok () w := by
    intro k a l b
    unfold eqGuard
    cases op <;> simp
  unfold binS at h
  split at h
  · rename_i xs ys e h1 h2
    rw [h1] at ha
    rw [h2] at hb
    cases hg : P.eqGuardType P.depth t
    · rw [hg, cond_false] at h
      split at h
      · rename_i r hr
        simp only [Option.some.injEq, Prod.mk.injEq] at h
        obtain ⟨rfl, rfl⟩ := h
        have he := hq.1
        subst he
        refine ⟨_, rfl, ?_⟩
        simp only [execOp, ho]
        refine run_value ?_
        rw [show ρ x = _ from ha, show ρ y = _ from hb]
        simp [gd _ _ hg, binOp, Op.equal, eqB_run w 40 _ _ _ _ hr Op.maxDepth (by decide)]
      · cases h
    · rw [hg, cond_true] at h; cases h
  · rename_i xs ys e h1 h2
    rw [h1] at ha
    rw [h2] at hb
    cases hg : P.eqGuardType P.depth t
    · rw [hg, cond_false] at h
      split at h
      · rename_i r hr
        simp only [Option.some.injEq, Prod.mk.injEq] at h
        obtain ⟨rfl, rfl⟩ := h
        have he := hq.1
        subst he
        refine ⟨_, rfl, ?_⟩
        simp only [execOp, ho]
        refine run_value ?_
        rw [show ρ x = _ from ha, show ρ y = _ from hb]
        simp [gd _ _ hg, binOp, Op.equal, eqB_run w 40 _ _ _ _ hr Op.maxDepth (by decide)]
      · cases h
    · rw [hg, cond_true] at h; cases h
  all_goals
    first
    | exact generic_ok h hq hx
    | (rename_i h1 h2
       rw [h1] at ha
       rw [h2] at hb
       first
       | (split at h
          · rename_i hk
            subst hk
            simp only [Option.some.injEq, Prod.mk.injEq] at h
            obtain ⟨rfl, rfl⟩ := h
            have he := hq.1
            have hv := hq.2.1
            subst hv
            refine ⟨_, rfl, ?_⟩
            simp only [execOp, ho]
            refine run_value ?_
            rw [show ρ x = _ from ha, show ρ y = _ from hb]
            simp [gi, binOp, Op.intDiv, he]
          · cases h)
       | (simp only [Option.some.injEq, Prod.mk.injEq] at h
          obtain ⟨rfl, rfl⟩ := h
          have he := hq.1
          have hv := hq.2.1
          subst hv
          refine ⟨_, rfl, ?_⟩
          simp only [execOp, ho]
          refine run_value ?_
          rw [show ρ x = _ from ha, show ρ y = _ from hb]
          simp [gi, binOp, Op.shift, he]))
end
end Go.Proofs.Ytjjmnoiffpnphaa
