/-
  A run of Go code over plain values and blocks by name: the theorem. Conditions: none.
-/
import Derived.Test.YtjhkeinelbeekaaSxI
namespace Go.Proofs.Ytjhkeinelbeekaa
open Go.RowKit

theorem loop_unroll {P : Program} {c : Code} {Q : Exit → Act → World → Prop} {a : Act} {w : World} (h : c.wp P (Exit.then (wpRound P c Q) Q) a w) : (Code.loop c).wp P Q a w ∧ wpRound P c Q a w := by
  have key : ∀ (b : Frame) (k : List Item) (cs : List Frame) (m : Machine), Steps P m (lone (b.at a (.code c :: .inLoop c :: k)) cs w) → ∃ e a' w', Q e a' w' ∧ Arrives P m b k cs e a' w' := by
    intro b k cs m hm
    obtain ⟨e, a₁, w₁, hq, harr⟩ := h b (.inLoop c :: k) cs
    cases e with
    | normal =>
      obtain ⟨e₂, a₂, w₂, hq₂, harr₂⟩ := hq b k cs
      exact ⟨e₂, a₂, w₂, hq₂, .of_steps (hm.trans harr) harr₂⟩
    | exit id => exact ⟨_, a₁, w₁, hq, .of_steps hm (.pass (x := .inLoop c) rfl (fun _ _ => .inl (by simp)) harr)⟩
    | goto l => exact ⟨_, a₁, w₁, hq, .of_steps hm (.pass (x := .inLoop c) rfl (fun _ _ => .inl (by simp)) harr)⟩
    | ret => exact ⟨_, a₁, w₁, hq, .of_steps hm (.pass (x := .inLoop c) rfl (fun _ _ => .inl (by simp)) harr)⟩
    | panic ch => exact ⟨_, a₁, w₁, hq, .of_steps hm (.pass (x := .inLoop c) rfl (fun _ _ => .inl (by simp)) harr)⟩
    | outgrown => exact ⟨_, a₁, w₁, hq, .of_steps hm (.pass (x := .inLoop c) rfl (fun _ _ => .inl (by simp)) harr)⟩
  exact ⟨fun b k cs => key b k cs _ (.one step_loop), fun b k cs => key b k cs _ (.one step_inLoop)⟩

/-- Only the names below nb. -/
def Bl.cut (β : Bl) (nb : Nat) : Bl := fun b => if b < nb then β b else none
theorem Bl.cut_some {β : Bl} {nb b r : Nat} (h : β.cut nb b = some r) : b < nb ∧ β b = some r := by
  unfold Bl.cut at h
  split at h
  · exact ⟨by assumption, h⟩
  · cases h
theorem Bl.le_cut {β γ : Bl} {nb : Nat} (h : β.le γ) (hd : ∀ b, nb ≤ b → β b = none) : β.le (γ.cut nb) := fun b r e => by
  unfold Bl.cut
  split
  · exact h b r e
  · rw [hd b (by omega)] at e; cases e
theorem lookT_any : ∀ (n d : Nat), lookT (anyT n) d = if d < n then .any else .pv undef
  | 0, d => by rw [if_neg (by omega)]; rfl
  | n + 1, d => by
    rw [anyT, lookT_cons, lookT_any n d]
    by_cases e : n = d
    · subst e; rw [if_pos rfl, if_pos (by omega)]
    · rw [if_neg e]
      by_cases h : d < n
      · rw [if_pos h, if_pos (by omega)]
      · rw [if_neg h, if_neg (by omega)]
theorem AllP_map {α : Type} {f : α → Prop} : ∀ {l : List α}, AllP (l.map f) → ∀ x ∈ l, f x
  | [], _, x, hx => by cases hx
  | y :: r, h, x, hx => by
    rcases List.mem_cons.1 hx with rfl | hx
    · exact h.1
    · exact AllP_map (l := r) h.2 x hx
theorem lookT_told {st : St} {n : Nat} : ∀ {tm : List (Nat × SV)}, (∀ e ∈ tm, lookT st.tm e.1 = e.2) → ∀ d, (lookT (tm ++ anyT n) d = lookT st.tm d ∧ ∃ e ∈ tm, e.1 = d) ∨ lookT (tm ++ anyT n) d = lookT (anyT n) d
  | [], _, d => Or.inr rfl
  | (k, x) :: r, h, d => by
    rw [List.cons_append, lookT_cons]
    by_cases e : k = d
    · subst e
      rw [if_pos rfl]
      exact Or.inl ⟨(h (k, x) (by simp)).symm, (k, x), by simp, rfl⟩
    · rw [if_neg e]
      rcases lookT_told (tm := r) (fun y hy => h y (by simp [hy])) d with ⟨h1, y, hy, h2⟩ | h1
      · exact Or.inl ⟨h1, y, by simp [hy], h2⟩
      · exact Or.inr h1
theorem Rel.cut {W0 : World} {lo : Nat} {β : Bl} {st : St} {a : Act} {w : World} {n nb : Nat} {tm : List (Nat × SV)} {hp : List (Nat × Nat × SV)} (ch : List Ch) (R : Rel W0 lo β st a w) (hn : st.n = n) (hlo : lo ≤ nb) (ht : AllP (eqT st tm)) (hh : AllP (eqH st hp))
    (ot : ownT nb tm = true) (oh : ownH nb hp = true) : Rel W0 lo (β.cut nb) (rndSt n nb tm hp ch) a w := by
  have own : ∀ b r, b < nb → β b = some r → (β.cut nb) b = some r := fun b r hb e => by unfold Bl.cut; rw [if_pos hb]; exact e
  refine ⟨⟨R.t.size.trans hn, R.t.defers, fun d => ?_⟩, ⟨R.h.gr, fun b r e => R.h.live b r (Bl.cut_some e).2, fun b c r e1 e2 => R.h.inj b c r (Bl.cut_some e1).2 (Bl.cut_some e2).2, fun b r hb e => R.h.new b r hb (Bl.cut_some e).2, fun b o sv e => ?_⟩,
    fun b hb => (by unfold Bl.cut; exact if_neg (by have : nb ≤ b := hb; omega)), hlo⟩
  · show (lookT (tm ++ anyT n) d).is _ _
    rcases lookT_told (n := n) (AllP_map ht) d with ⟨h1, e, he, h2⟩ | h1
    · rw [h1]
      refine SV.own_is own ?_ (R.t.tmps d)
      rw [← h2, AllP_map ht e he]
      exact List.all_eq_true.1 ot e he
    · rw [h1, lookT_any]
      split
      · trivial
      · rename_i hd
        show _ = _
        rw [Array.getD_eq_getD_getElem?, Array.getElem?_eq_none (by rw [R.t.size]; omega)]
        rfl
  · have hm := lookH_mem e
    have h1 := AllP_map hh _ hm
    obtain ⟨r, u, a1, a2, a3, a4, a5⟩ := R.h.cells b o sv h1
    have h2 := List.all_eq_true.1 oh _ hm
    simp only [Bool.and_eq_true] at h2
    exact ⟨r, u, own _ _ (Nat.le_of_ble_eq_true h2.1) a1, SV.own_is own h2.2 a2, a3, a4, a5⟩
theorem loopS_ok {P : Program} {lo : Nat} {c : Code} {st st' : St} {e e' : Exit} {tm0 tm1 : List (Nat × SV)} {hp0 hp1 : List (Nat × Nat × SV)} {ch : List Ch} {q : List Prop} (h : loopS P lo c st e tm0 hp0 tm1 hp1 ch = some (e', st', q)) (hq : AllP q)
    {W0 : World} {β : Bl} {a : Act} {w : World} {Q : Exit → Act → World → Prop} (R : Rel W0 lo β st a w) (hQ : ∀ β' a' w', β.le β' → Rel W0 lo β' st' a' w' → Q e' a' w') : (Code.loop c).wp P Q a w ∧ wpRound P c Q a w := by
  unfold loopS at h
  cases hb : (ownT st.nb tm0 && ownH st.nb hp0)
  · rw [hb] at h; cases h
  · rw [hb, cond_true] at h
    simp only [Option.some.injEq, Prod.mk.injEq] at h
    obtain ⟨rfl, rfl, rfl⟩ := h
    obtain ⟨h1, h2, h3, _⟩ := hq
    simp only [Bool.and_eq_true] at hb
    exact h3 W0 (β.cut st.nb) a w Q (R.cut [] rfl R.lo h1 h2 hb.1 hb.2) fun β' a' w' hle R' =>
      hQ β' a' w' (Bl.le_trans (Bl.le_cut (Bl.le_refl _) R.dom) hle) ⟨R'.t, R'.h, R'.dom, R'.lo⟩

def ExecOk (P : Program) (ex : ExecF) : Prop :=
  ∀ {lo : Nat} {c : Code} {st st' : St} {e : Exit} {q : List Prop}, ex lo c st = some (e, st', q) → AllP q → ∀ (W0 : World) (β : Bl) (a : Act) (w : World) (Q : Exit → Act → World → Prop), Rel W0 lo β st a w →
    (∀ β' a' w', β.le β' → Rel W0 lo β' st' a' w' → Q e a' w') → c.wp P Q a w ∧ ∀ body, c = .loop body → wpRound P body Q a w

theorem argsT_is {β : Bl} : ∀ {args : List SV} {us : List Value} (k : Nat), SV.isl β args us → ∀ d, (lookT (argsT k args) d).is β (if k ≤ d then us.getD (d - k) undef else undef)
  | [], [], k, _, d => by
    show (SV.pv undef).is β _
    split
    · simp [SV.is]
    · rfl
  | [], _ :: _, _, h, _ => h.elim
  | _ :: _, [], _, h, _ => h.elim
  | x :: r, u :: us, k, h, d => by
    rw [argsT, lookT_cons]
    by_cases e : k = d
    · subst e
      rw [if_pos rfl, if_pos (Nat.le_refl _)]
      simpa using h.1
    · rw [if_neg e]
      have := argsT_is (k + 1) h.2 d
      by_cases hk : k ≤ d
      · rw [if_pos (show k + 1 ≤ d by omega)] at this
        rw [if_pos hk, show d - k = (d - (k + 1)) + 1 by omega]
        simpa using this
      · rw [if_neg (show ¬ k + 1 ≤ d by omega)] at this
        rw [if_neg hk]
        exact this

theorem bodyS_ok {P : Program} {ex : ExecF} (hex : ExecOk P ex) {lo : Nat} {f : FuncId} {args : List SV} {st st' : St} {x : SV} {q : List Prop} (h : bodyS P ex lo f args st = some (x, st', q)) (hq : AllP q) :
    st'.tm = st.tm ∧ st'.n = st.n ∧ ∀ (W0 : World) (β : Bl) (us : List Value) (w : World), HRel W0 lo β st.hp w → (∀ b, st.nb ≤ b → β b = none) → lo ≤ st.nb → SV.isl β args us →
      Calls P f us.toArray w fun e w' => ∃ v β', e = .returned v ∧ β.le β' ∧ x.is β' v ∧ HRel W0 lo β' st'.hp w' ∧ (∀ b, st'.nb ≤ b → β' b = none) ∧ lo ≤ st'.nb := by
  unfold bodyS at h
  split at h
  · rename_i fn hfn
    split at h
    · rename_i code hcode
      have fin : ∀ {e : Exit} {s : St}, ex lo code { st with tm := argsT 0 args, n := args.length + (fn.ntmps - args.length) } = some (e, s, q) → (e = .ret ∨ e = .normal) → resS P fn s = some x → st' = { s with tm := st.tm, n := st.n } →
          st'.tm = st.tm ∧ st'.n = st.n ∧ ∀ (W0 : World) (β : Bl) (us : List Value) (w : World), HRel W0 lo β st.hp w → (∀ b, st.nb ≤ b → β b = none) → lo ≤ st.nb → SV.isl β args us →
            Calls P f us.toArray w fun e w' => ∃ v β', e = .returned v ∧ β.le β' ∧ x.is β' v ∧ HRel W0 lo β' st'.hp w' ∧ (∀ b, st'.nb ≤ b → β' b = none) ∧ lo ≤ st'.nb := by
        intro e s he hor hres hst
        subst hst
        refine ⟨rfl, rfl, fun W0 β us w H hdom hlo hu => ?_⟩
        refine calls_of_wp hfn hcode ?_
        have hlen := (SV.isl_get hu).1
        have R : Rel W0 lo β { st with tm := argsT 0 args, n := args.length + (fn.ntmps - args.length) } { tmps := us.toArray ++ Array.replicate (fn.ntmps - us.toArray.size) undef, defers := [] } w := by
          refine ⟨⟨by simp [hlen], rfl, fun d => ?_⟩, H, hdom, hlo⟩
          have := argsT_is 0 hu d
          rw [if_pos (Nat.zero_le _), Nat.sub_zero] at this
          have hg : (us.toArray ++ Array.replicate (fn.ntmps - us.toArray.size) undef).getD d undef = us.getD d undef := by
            rw [Array.getD_eq_getD_getElem?, List.getD_eq_getElem?_getD, Array.getElem?_append]
            split
            · simp
            · rename_i hge
              rw [Array.getElem?_replicate]
              have : us[d]? = none := List.getElem?_eq_none (by simpa using hge)
              rw [this]
              split <;> rfl
          show (lookT (argsT 0 args) d).is β _
          rw [hg]
          exact this
        refine (hex he hq W0 β _ w _ R fun β' a' w' hle R' => ?_).1
        obtain ⟨v, hv, hx⟩ := resS_ok R' hres
        have post : a'.defers = [] ∧ ∃ v, (results fn a'.tmps).run P w' = .ok v w' ∧ ∃ v' β', Ending.returned v = .returned v' ∧ β.le β' ∧ x.is β' v' ∧ HRel W0 lo β' s.hp w' ∧ (∀ b, s.nb ≤ b → β' b = none) ∧ lo ≤ s.nb :=
          ⟨R'.t.defers, v, hv, v, β', rfl, hle, hx, R'.h, R'.dom, R'.lo⟩
        rcases hor with rfl | rfl
        · exact post
        · exact post
      split at h
      · rename_i s q' he
        split at h
        · rename_i y hy
          simp only [Option.some.injEq, Prod.mk.injEq] at h
          obtain ⟨rfl, h2, rfl⟩ := h
          exact fin he (Or.inl rfl) hy h2.symm
        · cases h
      · rename_i s q' he
        split at h
        · rename_i y hy
          simp only [Option.some.injEq, Prod.mk.injEq] at h
          obtain ⟨rfl, h2, rfl⟩ := h
          exact fin he (Or.inr rfl) hy h2.symm
        · cases h
      · cases h
    · cases h
  · cases h

theorem callS_ok {P : Program} {ex : ExecF} (hex : ExecOk P ex) : CallOk P (callS P ex) := by
  intro lo f args c st x st' q h hq
  have inl : (bif args.all SV.isV then
      match bodyS P ex st.nb f args st with
      | some (.pv v, s, q) => some (.pv v, { st with ch := s.ch }, q)
      | _ => bodyS P ex lo f args st
    else bodyS P ex lo f args st) = some (x, st', q) → st'.tm = st.tm ∧ st'.n = st.n ∧ ∀ (W0 : World) (β : Bl) (us : List Value) (w : World), HRel W0 lo β st.hp w → (∀ b, st.nb ≤ b → β b = none) → lo ≤ st.nb → SV.isl β args us →
      Calls P f us.toArray w fun e w' => ∃ v β', e = .returned v ∧ β.le β' ∧ x.is β' v ∧ HRel W0 lo β' st'.hp w' ∧ (∀ b, st'.nb ≤ b → β' b = none) ∧ lo ≤ st'.nb := by
    intro h
    cases hb : args.all SV.isV
    · rw [hb, cond_false] at h; exact bodyS_ok hex h hq
    · rw [hb, cond_true] at h
      split at h
      · rename_i v s q' hbody
        simp only [Option.some.injEq, Prod.mk.injEq] at h
        obtain ⟨rfl, rfl, rfl⟩ := h
        obtain ⟨_, _, e3⟩ := bodyS_ok hex hbody hq
        refine ⟨rfl, rfl, fun W0 β us w H hdom hlo hu => ?_⟩
        refine (e3 w β us w (H.mono_lo (Gr.refl w) fun b r hb e => (by rw [hdom b hb] at e; cases e)) hdom (Nat.le_refl _) hu).mono fun e w' hh => ?_
        obtain ⟨v', β', rfl, hle, hx, hH, _, _⟩ := hh
        exact ⟨v', β, rfl, Bl.le_refl _, hx, H.gr_mono hH.gr, hdom, hlo⟩
      · exact bodyS_ok hex h hq
  cases c with
  | r v =>
    simp only [callS] at h
    split at h
    · rename_i us hg
      simp only [Option.some.injEq, Prod.mk.injEq] at h
      obtain ⟨rfl, rfl, rfl⟩ := h
      refine ⟨rfl, rfl, fun W0 β us' w H hdom hlo hu => ?_⟩
      rw [allGet_eq hg] at hu
      have := SV.isl_v_eq hu
      subst this
      exact (hq.1 w).mono fun e w' ⟨he, hgr⟩ => ⟨v, β, he, Bl.le_refl _, rfl, H.gr_mono hgr, hdom, hlo⟩
    · cases h
  | k => exact inl h
  | t b => exact inl h
  | l => exact inl h

theorem exec_ok {P : Program} : ∀ (n : Nat), ExecOk P (exec P n) := by
  intro n
  induction n with
  | zero => intro lo c st st' e q h; simp [exec] at h
  | succ n ih =>
    intro lo c st st' e q h hq W0 β a w Q R hQ
    cases c with
    | skip =>
      simp only [exec, Option.some.injEq, Prod.mk.injEq] at h
      obtain ⟨rfl, rfl, rfl⟩ := h
      exact ⟨wp_skip (hQ β a w (Bl.le_refl _) R), fun _ e => by cases e⟩
    | label l =>
      simp only [exec, Option.some.injEq, Prod.mk.injEq] at h
      obtain ⟨rfl, rfl, rfl⟩ := h
      exact ⟨wp_label (hQ β a w (Bl.le_refl _) R), fun _ e => by cases e⟩
    | region id ops draw =>
      refine ⟨?_, fun _ e => by cases e⟩
      simp only [exec] at h
      cases draw
      · simp only [cond_false] at h
        split at h
        · rename_i s q' hs
          simp only [Option.some.injEq, Prod.mk.injEq] at h
          obtain ⟨rfl, rfl, rfl⟩ := h
          exact wp_region_list (seqS_ok (callS_ok ih) hs hq R hQ)
        · cases h
      · simp only [cond_true] at h
        split at h
        · rename_i s q' hs
          simp only [Option.some.injEq, Prod.mk.injEq] at h
          obtain ⟨rfl, rfl, rfl⟩ := h
          exact drawS_ok (callS_ok ih) hs hq R hQ
        · cases h
    | seq x y =>
      refine ⟨?_, fun _ e => by cases e⟩
      simp only [exec] at h
      split at h
      · rename_i s q1 h1
        split at h
        · rename_i e2 s2 q2 h2
          simp only [Option.some.injEq, Prod.mk.injEq] at h
          obtain ⟨rfl, rfl, rfl⟩ := h
          obtain ⟨a1, a2⟩ := AllP_append hq
          refine wp_seq (ih h1 a1 W0 β a w _ R fun β' a' w' hle R' => ?_).1
          exact (ih h2 a2 W0 β' a' w' Q R' fun β'' a'' w'' hle' R'' => hQ β'' a'' w'' (Bl.le_trans hle hle') R'').1
        · cases h
      · rename_i i s q1 h1
        simp only [Option.some.injEq, Prod.mk.injEq] at h
        obtain ⟨rfl, rfl, rfl⟩ := h
        exact wp_seq (ih h1 hq W0 β a w (Exit.then (y.wp P Q) Q) R (fun β' a' w' hle R' => hQ β' a' w' hle R')).1
      · rename_i s q1 h1
        simp only [Option.some.injEq, Prod.mk.injEq] at h
        obtain ⟨rfl, rfl, rfl⟩ := h
        exact wp_seq (ih h1 hq W0 β a w (Exit.then (y.wp P Q) Q) R (fun β' a' w' hle R' => hQ β' a' w' hle R')).1
      · cases h
    | cond c x y =>
      refine ⟨?_, fun _ e => by cases e⟩
      simp only [exec] at h
      split at h
      · rename_i b hb
        have k := R.t.ev c
        rw [hb] at k
        cases b
        · exact wp_cond_false k (ih h hq W0 β a w Q R hQ).1
        · exact wp_cond_true k (ih h hq W0 β a w Q R hQ).1
      · cases h
    | block id c =>
      refine ⟨?_, fun _ e => by cases e⟩
      simp only [exec] at h
      split at h
      · rename_i s q1 h1
        simp only [Option.some.injEq, Prod.mk.injEq] at h
        obtain ⟨rfl, rfl, rfl⟩ := h
        exact wp_block (ih h1 hq W0 β a w (Exit.inBlock id Q) R (fun β' a' w' hle R' => hQ β' a' w' hle R')).1
      · rename_i i s q1 h1
        cases hb : Nat.beq i id
        · rw [hb, cond_false] at h
          simp only [Option.some.injEq, Prod.mk.injEq] at h
          obtain ⟨rfl, rfl, rfl⟩ := h
          have hne : ¬ i = id := fun e => by subst e; rw [Nat.beq_refl] at hb; cases hb
          refine wp_block (ih h1 hq W0 β a w _ R fun β' a' w' hle R' => ?_).1
          show (if i = id then _ else _)
          rw [if_neg hne]
          exact hQ β' a' w' hle R'
        · rw [hb, cond_true] at h
          simp only [Option.some.injEq, Prod.mk.injEq] at h
          obtain ⟨rfl, rfl, rfl⟩ := h
          have he := Nat.eq_of_beq_eq_true hb
          refine wp_block (ih h1 hq W0 β a w _ R fun β' a' w' hle R' => ?_).1
          show (if i = id then _ else _)
          rw [if_pos he]
          exact hQ β' a' w' hle R'
      · rename_i s q1 h1
        simp only [Option.some.injEq, Prod.mk.injEq] at h
        obtain ⟨rfl, rfl, rfl⟩ := h
        exact wp_block (ih h1 hq W0 β a w (Exit.inBlock id Q) R (fun β' a' w' hle R' => hQ β' a' w' hle R')).1
      · cases h
    | loop c =>
      simp only [exec] at h
      split at h
      · obtain ⟨k1, k2⟩ := loopS_ok h hq R hQ
        exact ⟨k1, fun b e => by cases e; exact k2⟩
      have key : c.wp P (Exit.then (wpRound P c Q) Q) a w := by
        split at h
        · rename_i s q1 h1
          split at h
          · rename_i e2 s2 q2 h2
            simp only [Option.some.injEq, Prod.mk.injEq] at h
            obtain ⟨rfl, rfl, rfl⟩ := h
            obtain ⟨a1, a2⟩ := AllP_append hq
            refine (ih h1 a1 W0 β a w _ R fun β' a' w' hle R' => ?_).1
            exact (ih h2 a2 W0 β' a' w' Q R' fun β'' a'' w'' hle' R'' => hQ β'' a'' w'' (Bl.le_trans hle hle') R'').2 c rfl
          · cases h
        · rename_i i s q1 h1
          simp only [Option.some.injEq, Prod.mk.injEq] at h
          obtain ⟨rfl, rfl, rfl⟩ := h
          exact (ih h1 hq W0 β a w (Exit.then (wpRound P c Q) Q) R (fun β' a' w' hle R' => hQ β' a' w' hle R')).1
        · rename_i s q1 h1
          simp only [Option.some.injEq, Prod.mk.injEq] at h
          obtain ⟨rfl, rfl, rfl⟩ := h
          exact (ih h1 hq W0 β a w (Exit.then (wpRound P c Q) Q) R (fun β' a' w' hle R' => hQ β' a' w' hle R')).1
        · cases h
      obtain ⟨k1, k2⟩ := loop_unroll key
      exact ⟨k1, fun b e => by cases e; exact k2⟩
    | exit id =>
      simp only [exec, Option.some.injEq, Prod.mk.injEq] at h
      obtain ⟨rfl, rfl, rfl⟩ := h
      exact ⟨wp_exit (hQ β a w (Bl.le_refl _) R), fun _ e => by cases e⟩
    | ret =>
      simp only [exec, Option.some.injEq, Prod.mk.injEq] at h
      obtain ⟨rfl, rfl, rfl⟩ := h
      exact ⟨wp_ret (hQ β a w (Bl.le_refl _) R), fun _ e => by cases e⟩
    | _ => simp [exec] at h

/-- A call of plain values, worked out: its result, and what is to be shown. -/
def runS (P : Program) (n : Nat) (f : FuncId) (args : List Value) (ch : List Ch) : Option (SV × St × List Prop) :=
  bodyS P (exec P n) 0 f (args.map .pv) ⟨[], 0, [], 0, ch⟩
def Good (v : Value) : Option (SV × St × List Prop) → Prop
  | some (.pv u, _, q) => u = v ∧ AllP q
  | _ => False
/-- **What is worked out is what a real call returns, in whatever world.** -/
theorem pure_of {P : Program} (n : Nat) {f : FuncId} {args : List Value} (ch : List Ch) {v : Value} (h : Good v (runS P n f args ch)) : Pure P f args.toArray v := by
  intro w
  cases hr : runS P n f args ch with
  | none => rw [hr] at h; exact h.elim
  | some z =>
    obtain ⟨x, s, q⟩ := z
    rw [hr] at h
    cases x with
    | pv u =>
      obtain ⟨hu, hq⟩ := h
      subst hu
      obtain ⟨_, _, e3⟩ := bodyS_ok (exec_ok n) hr hq
      refine (e3 w (fun _ => none) args w ⟨Gr.refl w, fun _ _ e => (by cases e), fun _ _ _ e => (by cases e), fun _ _ _ e => (by cases e), fun _ _ _ e => (by cases e)⟩ (fun _ _ => rfl) (Nat.le_refl _) (SV.isl_v _)).mono fun e w' hh => ?_
      obtain ⟨v', β', rfl, _, hx, hH, _, _⟩ := hh
      exact ⟨by rw [show v' = u from hx], hH.gr⟩
    | pp b o => exact h.elim
    | ps b o l c => exact h.elim
    | pc g cap => exact h.elim
    | any => exact h.elim

/-! ### Rounds -/
/-- The loops of some code, in the text's order. -/
def loopsOf : Nat → Code → List Code
  | 0, _ => []
  | n + 1, c => match c with
    | .seq x y => loopsOf n x ++ loopsOf n y
    | .cond _ x y => loopsOf n x ++ loopsOf n y
    | .block _ x => loopsOf n x
    | .loop x => x :: loopsOf n x
    | _ => []
def loopOf (P : Program) (f : FuncId) (k : Nat) : Code :=
  match P.funcs[f]? with
  | some fn => match fn.body with
    | some c => (loopsOf 200 c).getD k .skip
    | none => .skip
  | none => .skip
/-- What a round leaves, and what is to be shown. -/
def Round (n nb : Nat) (e : Exit) (tm : List (Nat × SV)) (hp : List (Nat × Nat × SV)) : Option (Exit × St × List Prop) → Prop
  | some (e', s, q) => e' = e ∧ (ownT nb tm && ownH nb hp && Nat.beq s.n n) = true ∧ AllP (eqT s tm) ∧ AllP (eqH s hp) ∧ AllP q
  | none => False
theorem reflT : ∀ (tm : List (Nat × SV)), AllP (tm.map fun e => e.2 = e.2)
  | [] => trivial
  | _ :: r => ⟨rfl, reflT r⟩
theorem reflH : ∀ (hp : List (Nat × Nat × SV)), AllP (hp.map fun e => some e.2.2 = some e.2.2)
  | [] => trivial
  | _ :: r => ⟨rfl, reflH r⟩
theorem round_of {n nb : Nat} {e : Exit} {tm : List (Nat × SV)} {hp : List (Nat × Nat × SV)} {r : Option (Exit × St × List Prop)} {T : Prop} (ht : T)
    (h : Round n nb e tm hp r = (e = e ∧ true = true ∧ AllP (tm.map fun e => e.2 = e.2) ∧ AllP (hp.map fun e => some e.2.2 = some e.2.2) ∧ T)) : Round n nb e tm hp r := h ▸ ⟨rfl, rfl, reflT tm, reflH hp, ht⟩
theorem RunsL.next {P : Program} {lo : Nat} {c : Code} {n nb : Nat} {tm0 tm1 tm2 : List (Nat × SV)} {hp0 hp1 hp2 : List (Nat × Nat × SV)} {e : Exit} (k : Nat) (ch : List Ch)
    (h : Round n nb .normal tm1 hp1 (exec P k lo c (rndSt n nb tm0 hp0 ch))) (r : RunsL P lo c n nb tm1 hp1 e tm2 hp2) : RunsL P lo c n nb tm0 hp0 e tm2 hp2 := by
  intro W0 β a w Q R hQ
  cases he : exec P k lo c (rndSt n nb tm0 hp0 ch) with
  | none => rw [he] at h; exact h.elim
  | some z =>
    obtain ⟨e', s, q⟩ := z
    rw [he] at h
    obtain ⟨rfl, h1, h2, h3, h4⟩ := h
    simp only [Bool.and_eq_true] at h1
    have hlo : lo ≤ nb := R.lo
    have hd : ∀ b, nb ≤ b → β b = none := R.dom
    have R0 : Rel W0 lo β (rndSt n nb tm0 hp0 ch) a w := ⟨R.t, R.h, R.dom, R.lo⟩
    refine loop_unroll ((exec_ok k he h4 W0 β a w _ R0 fun β' a' w' hle R' => ?_).1)
    exact (r W0 (β'.cut nb) a' w' Q (R'.cut [] (Nat.eq_of_beq_eq_true h1.2) hlo h2 h3 h1.1.1 h1.1.2) fun β'' a'' w'' hle' R'' => hQ β'' a'' w'' (Bl.le_trans (Bl.le_cut hle hd) hle') R'').2
theorem RunsL.stop {P : Program} {lo : Nat} {c : Code} {n nb : Nat} {tm0 tm1 : List (Nat × SV)} {hp0 hp1 : List (Nat × Nat × SV)} {e : Exit} (k : Nat) (ch : List Ch) (ne : e = .normal → False)
    (h : Round n nb e tm1 hp1 (exec P k lo c (rndSt n nb tm0 hp0 ch))) : RunsL P lo c n nb tm0 hp0 e tm1 hp1 := by
  intro W0 β a w Q R hQ
  cases he : exec P k lo c (rndSt n nb tm0 hp0 ch) with
  | none => rw [he] at h; exact h.elim
  | some z =>
    obtain ⟨e', s, q⟩ := z
    rw [he] at h
    obtain ⟨rfl, h1, h2, h3, h4⟩ := h
    simp only [Bool.and_eq_true] at h1
    have hlo : lo ≤ nb := R.lo
    have hd : ∀ b, nb ≤ b → β b = none := R.dom
    have R0 : Rel W0 lo β (rndSt n nb tm0 hp0 ch) a w := ⟨R.t, R.h, R.dom, R.lo⟩
    refine loop_unroll ((exec_ok k he h4 W0 β a w _ R0 fun β' a' w' hle R' => ?_).1)
    have fin := hQ (β'.cut nb) a' w' (Bl.le_cut hle hd) (R'.cut [] (Nat.eq_of_beq_eq_true h1.2) hlo h2 h3 h1.1.1 h1.1.2)
    cases e' with
    | normal => exact (ne rfl).elim
    | _ => exact fin
attribute [irreducible] Good Round
end Go.Proofs.Ytjhkeinelbeekaa
