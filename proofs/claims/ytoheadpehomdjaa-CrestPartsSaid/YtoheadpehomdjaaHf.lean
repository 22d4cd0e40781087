/-
  A part of a list handed on as a list of its own; the chapter's crests. Conditions: none.
-/
import Derived.Test.YtoheadpehomdjaaHe
import Derived.Test.YtoheadpehomdjaaW33
namespace Go.Proofs.Ytoheadpehomdjaa
open Go.RowKit
theorem fnl_part {P : Program} {f : FuncId} {e e2 : TypeId} {es es2 n n' k n2 : Nat} {xs ys : List Value} {t y : Value}
    (h : FnL P f 1 [.ag [.ls 0 n'], .pv t] [(0, 0, .row e es n' ((xs.drop (k * es)).take (n' * es)))] (.tu [.one (.ls 1 n2), .one (.pv y)]) 1 [(1, 0, .row e2 es2 n2 ys)]) (hk : k + n' ≤ n) (h0 : 0 < n') :
    FnL P f 1 [.ag [.lq 0 es k n'], .pv t] [(0, 0, .row e es n xs)] (.tu [.one (.ls 1 n2), .one (.pv y)]) 1 [(1, 0, .row e2 es2 n2 ys)] := by
  intro w β us H hd hi
  obtain ⟨u, hu, R⟩ := H.rows 0 0 e es n xs rfl
  match us, hi with
  | [a1, b1], ⟨⟨vs, hvs, ha⟩, hb, _⟩ =>
  match vs, hvs with
  | [v], ⟨⟨a, nn, c, a', c', hg, hle, hc', hv, hp⟩, _⟩ =>
  obtain ⟨r, o, ea, ea'⟩ := hp h0
  subst ea ea' hv
  have hu' : u = .slice (some ⟨r, o, none⟩) nn c := by rw [hu] at hg; exact Option.some.inj hg
  subst hu'
  obtain ⟨hl, a2, c2, he, hnc, hrd⟩ := R.rd
  have e1 := he
  simp only [Value.slice.injEq] at e1
  obtain ⟨rfl, rfl, rfl⟩ := e1
  have hw : ∀ b, b ≠ 0 → β.f b = none ∧ β.g b = none := fun b hb => hd b (by omega)
  have hm : (k + n') * es ≤ nn * es := Nat.mul_le_mul_right es hk
  rw [Nat.add_mul] at hm
  have hlen : ((xs.drop (k * es)).take (n' * es)).length = n' * es := by rw [List.length_take, List.length_drop]; omega
  have hrd' : Rd w es (.slice (some ⟨r, o + k * es, none⟩) n' c') n' ((xs.drop (k * es)).take (n' * es)) := by
    refine ⟨hlen, _, _, rfl, hc', fun j v hj => ⟨r, o + k * es, rfl, ?_⟩⟩
    have hj' : xs[k * es + j]? = some v := by
      rw [List.getElem?_take] at hj
      split at hj
      · rw [List.getElem?_drop] at hj; exact hj
      · cases hj
    obtain ⟨r', o', er, hcell⟩ := hrd _ v hj'
    cases er
    rw [show o + k * es + j = o + (k * es + j) by omega]
    exact hcell
  let β1 : Bl := ⟨β.f, fun b => if b = 0 then some (.slice (some ⟨r, o + k * es, none⟩) n' c') else none⟩
  have H1 : HRel w 1 β1 [(0, 0, .row e es n' ((xs.drop (k * es)).take (n' * es)))] w := by
    refine ⟨H.gr, H.live, H.inj, H.new, fun b r' hb' => ?_, fun b o' sv hs hr => ?_, fun b o' e' es' n2' xs' hs => ?_, fun b o' e' es' n2' xs' c o2 e2' es2' n3 xs3 u' v' hs _ hlo => ?_⟩
    · by_cases h : b = 0
      · subst h
        have := H.sep 0 r' hb'
        rw [hu] at this; cases this
      · exact if_neg h
    · by_cases h : b = 0
      · subst h
        by_cases h2 : o' = 0
        · subst h2; cases hs; cases hr
        · have : lookH [(0, 0, SV.row e es n' ((xs.drop (k * es)).take (n' * es)))] 0 o' = none := by
            cases o' with
            | zero => exact (h2 rfl).elim
            | succ o' => rfl
          rw [this] at hs; cases hs
      · have : lookH [(0, 0, SV.row e es n' ((xs.drop (k * es)).take (n' * es)))] b o' = none := by
          cases b with
          | zero => exact (h rfl).elim
          | succ b => rfl
        rw [this] at hs; cases hs
    · by_cases h : b = 0
      · subst h
        by_cases h2 : o' = 0
        · subst h2
          cases hs
          refine ⟨_, rfl, hrd', fun v hv => R.one v (List.mem_of_mem_drop (List.mem_of_mem_take hv)), fun _ hx j hj => hrd'.lt hx j hj, fun hlo => by omega, fun hlo => by omega⟩
        · have : lookH [(0, 0, SV.row e es n' ((xs.drop (k * es)).take (n' * es)))] 0 o' = none := by
            cases o' with
            | zero => exact (h2 rfl).elim
            | succ o' => rfl
          rw [this] at hs; cases hs
      · have : lookH [(0, 0, SV.row e es n' ((xs.drop (k * es)).take (n' * es)))] b o' = none := by
          cases b with
          | zero => exact (h rfl).elim
          | succ b => rfl
        rw [this] at hs; cases hs
    · have : lookH [(0, 0, SV.row e es n' ((xs.drop (k * es)).take (n' * es)))] b o' = none := by
        cases b with
        | zero => omega
        | succ b => rfl
      rw [this] at hs; cases hs
  have hdom : β1.dom 1 := fun b hb => ⟨(hd b hb).1, if_neg (by omega)⟩
  refine (h w β1 [a1, b1] H1 hdom ⟨⟨[_], ⟨⟨rfl, _, _, rfl⟩, trivial⟩, ha⟩, hb, trivial⟩).mono fun x w' hh => ?_
  obtain ⟨v', β2, hx, hle2, ⟨vs2, hvs2, hv2⟩, HP, hd2⟩ := hh
  have hb0 : β.f 0 = none := by
    cases hb0 : β.f 0 with
    | none => rfl
    | some r' => have := H.sep 0 r' hb0; rw [hu] at this; cases this
  have hb2 : β2.f 0 = none := (hle2 0 (Or.inr (fun h => by have e : β1.g 0 = some _ := rfl; rw [e] at h; cases h))).1.trans hb0
  let β3 : Bl := ⟨β2.f, fun b => if b = 0 then β.g 0 else β2.g b⟩
  refine ⟨v', β3, hx, fun b hb => ?_, ⟨vs2, ?_, hv2⟩, ?_, fun b hb => ⟨(hd2 b hb).1, (if_neg (by omega)).trans (hd2 b hb).2⟩⟩
  · by_cases h : b = 0
    · subst h; exact ⟨hb2.trans hb0.symm, rfl⟩
    · have := hw b h
      rcases hb with hb | hb
      · exact (hb this.1).elim
      · exact (hb this.2).elim
  · match vs2, hvs2 with
    | [w1, w2], ⟨⟨g1, g2⟩, g3, _⟩ => exact ⟨⟨g1, g2⟩, g3, trivial⟩
  · have hno : ∀ b o', (b ≠ 1 ∨ o' ≠ 0) → lookH [(1, 0, SV.row e2 es2 n2 ys)] b o' = none := by
      intro b o' hbo
      match b, o', hbo with
      | 0, _, _ => rfl
      | 1, 0, hbo => omega
      | 1, _ + 1, _ => rfl
      | _ + 2, _, _ => rfl
    refine ⟨HP.gr, HP.live, HP.inj, HP.new, fun b r' hb' => ?_, fun b o' sv hs hr => ?_, fun b o' e' es' n2' xs' hs => ?_, fun b o' e' es' n2' xs' c o2 e2' es2' n3 xs3 u' v' hs hs2 _ _ hne => ?_⟩
    · by_cases h : b = 0
      · subst h; rw [show β3.f 0 = none from hb2] at hb'; cases hb'
      · exact (if_neg h).trans (HP.sep b r' hb')
    · by_cases h : b = 1 ∧ o' = 0
      · obtain ⟨rfl, rfl⟩ := h; cases hs; cases hr
      · rw [hno b o' (by omega)] at hs; cases hs
    · by_cases h : b = 1 ∧ o' = 0
      · obtain ⟨rfl, rfl⟩ := h
        obtain ⟨u', g1, g2⟩ := HP.rows 1 0 e' es' n2' xs' hs
        exact ⟨u', g1, g2.rd, g2.one, g2.low, g2.own, g2.apart⟩
      · rw [hno b o' (by omega)] at hs; cases hs
    · by_cases h : b = 1 ∧ o' = 0
      · by_cases h2 : c = 1 ∧ o2 = 0
        · omega
        · rw [hno c o2 (by omega)] at hs2; cases hs2
      · rw [hno b o' (by omega)] at hs; cases hs
end Go.Proofs.Ytoheadpehomdjaa
