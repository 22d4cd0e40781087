/-
  As many slots can be taken as there is room for, each one another one, and giving them back leaves all as it was. Conditions: none.
-/
import Derived.Test.YtpccpohcjjjnlaaZk
namespace Go.Proofs.Ytpccpohcjjjnlaa
open Go.RowKit

theorem SameI_self {l : List Int} (hn : l.length ≤ 1000000) : FnL Try.prog 27 1 [.ls 0 l.length, .ls 0 l.length] [(0, 0, zrI l)] (.pv (.bool true)) 0 [] := by
  refine si1_true (by simp) (RunsL.roundsZ (N := l.length) (fun k => [(0, .ls 0 l.length), (1, .ls 0 l.length), (5, .pv (.int .i64 (k : Int)))]) (fun _ => [(0, 0, zrI l)]) l.length 0 (by omega) (fun k _ hk r => ?_) (si1_end (by simp)))
  exact si1_next (List.getElem?_eq_getElem hk) (by omega) (by simp; omega) (by simp) (z_succ (by omega)) r
theorem SameB_self {l : List Bool} (hn : l.length ≤ 1000000) : FnL Try.prog 28 1 [.ls 0 l.length, .ls 0 l.length] [(0, 0, zrB l)] (.pv (.bool true)) 0 [] := by
  refine sb1_true (by simp) (RunsL.roundsZ (N := l.length) (fun k => [(0, .ls 0 l.length), (1, .ls 0 l.length), (5, .pv (.int .i64 (k : Int)))]) (fun _ => [(0, 0, zrB l)]) l.length 0 (by omega) (fun k _ hk r => ?_) (sb1_end (by simp)))
  obtain ⟨c, hc⟩ : ∃ c, l[k]? = some c := ⟨_, List.getElem?_eq_getElem hk⟩
  cases c with
  | true => exact sb1_next_true hc (by omega) (by simp; omega) (z_succ (by omega)) r
  | false => exact sb1_next_false hc (by omega) (by simp; omega) (z_succ (by omega)) r
/-- Slots taken one after another, with their handles. -/
inductive Tk (u : List Int) (b : List Bool) (fr : List Int) : List (Int × Int) → List Int → List Bool → List Int → Prop where
  | nil : Tk u b fr [] u b fr
  | snoc {q : List (Int × Int)} {u1 u2 f1 f2 : List Int} {b1 b2 : List Bool} {x z : Int} (h : Tk u b fr q u1 b1 f1) (t : takeZ u1 b1 f1 = some (u2, b2, f2, x, z)) : Tk u b fr (q ++ [(x, z)]) u2 b2 f2
section
variable {u fr : List Int} {b : List Bool}
theorem Tk.good {q : List (Int × Int)} {u1 f1 : List Int} {b1 : List Bool} (h : Tk u b fr q u1 b1 f1) (hv : Vd u b fr) : Vd u1 b1 f1 ∧ (∀ x z, (x, z) ∈ q → Live u1 b1 x z) ∧ q.length + f1.length = fr.length := by
  induction h with
  | nil => exact ⟨hv, fun x z h => by simp at h, by simp⟩
  | snoc h t ih =>
    rename_i q u1 u2 f1 f2 b1 b2 x z
    obtain ⟨i1, i2, i3⟩ := ih
    have v2 := i1.take t
    obtain ⟨y, h1, h2, h3, e1, e2, e3, e4⟩ := takeZ_spec t
    obtain ⟨es, hg, h4⟩ := last_split h1
    have hx : x ∈ f1 := by rw [es]; simp
    obtain ⟨r1, r2⟩ := i1.rng x hx
    have hk : x.toNat < u1.length := by omega
    have hkb : x.toNat < b1.length := by rw [i1.len]; exact hk
    refine ⟨v2, fun a c hm => ?_, by subst e3; simp; omega⟩
    subst e1; subst e2
    rcases List.mem_append.1 hm with hm | hm
    · have l := i2 a c hm
      have l0 := l.lo
      have hne : x.toNat ≠ a.toNat := fun e => by
        have : b1[a.toNat]? = some false := by
          have := List.getElem?_eq_getElem (l := b1) (i := x.toNat) hkb
          have e5 := (i1.part x.toNat _ this).2 (by rw [Int.toNat_of_nonneg r1]; exact hx)
          rw [← e, this, e5]
        rw [l.used] at this; cases this
      exact ⟨l0, by rw [List.length_set]; exact l.lt, by rw [List.getElem?_set, if_neg hne]; exact l.used, by rw [List.getElem?_set, if_neg hne]; exact l.use⟩
    · simp at hm
      obtain ⟨rfl, rfl⟩ := hm
      exact ⟨r1, by rw [List.length_set]; exact r2, by rw [List.getElem?_set, if_pos rfl, if_pos hkb], by rw [List.getElem?_set, if_pos rfl, if_pos hk]⟩
/-- Before the last one was taken. -/
theorem Tk.back {q : List (Int × Int)} {u2 f2 : List Int} {b2 : List Bool} {x z : Int} (h : Tk u b fr (q ++ [(x, z)]) u2 b2 f2) (hv : Vd u b fr) : ∃ u1 b1 f1, Tk u b fr q u1 b1 f1 ∧ f1 = f2 ++ [x] ∧ b1 = b2.set x.toNat false ∧ b2[x.toNat]? = some true ∧ u1.length = u2.length := by
  generalize hq : q ++ [(x, z)] = q' at h
  cases h with
  | nil => simp at hq
  | snoc h t =>
    rename_i q1 u1 f1 b1 x1 z1
    obtain ⟨e1, e2⟩ := List.append_inj' hq rfl
    simp at e2
    obtain ⟨rfl, rfl⟩ := e2
    subst e1
    obtain ⟨i1, i2, _⟩ := h.good hv
    obtain ⟨y, h1, h2, h3, e1, e2, e3, e4⟩ := takeZ_spec t
    obtain ⟨es, hg, h4⟩ := last_split h1
    have hx : x ∈ f1 := by rw [es]; simp
    obtain ⟨r1, r2⟩ := i1.rng x hx
    have hk : x.toNat < u1.length := by omega
    have hkb : x.toNat < b1.length := by rw [i1.len]; exact hk
    refine ⟨u1, b1, f1, h, by rw [e3]; exact es, ?_, by rw [e2, List.getElem?_set, if_pos rfl, if_pos hkb], by rw [e1, List.length_set]⟩
    have hb : b1[x.toNat] = false := (i1.part x.toNat _ (List.getElem?_eq_getElem hkb)).2 (by rw [Int.toNat_of_nonneg r1]; exact hx)
    rw [e2]
    apply List.ext_getElem?
    intro j
    rw [List.getElem?_set]
    by_cases e : x.toNat = j
    · subst e
      rw [if_pos rfl, List.length_set, if_pos hkb, List.getElem?_eq_getElem hkb, hb]
    · rw [if_neg e, List.getElem?_set, if_neg e]
abbrev flH (u : List Int) (b : List Bool) (fr u2 : List Int) (b2 : List Bool) (f2 : List Int) (k : Nat) (q : List (Int × Int)) : List (Nat × Nat × SV) := [(3, 0, .ls 0 u.length), (3, 1, .ls 1 b.length), (3, 2, .ls 2 fr.length), (0, 0, zrI u), (1, 0, zrB b), (2, 0, zrI fr), (4, 0, .ls 5 u2.length), (4, 1, .ls 6 b2.length), (4, 2, .ls 7 f2.length), (5, 0, zrI u2), (6, 0, zrB b2), (7, 0, zrI f2), (11, 0, .row 31 2 k (zhV q))]
abbrev flT (x : Int) (k : Nat) : List (Nat × SV) := [(1, .pp 3 0), (3, .pv (.int .i64 x)), (5, .pp 4 0), (6, .ls 11 k), (7, .pv (.int .i64 (k : Int)))]
theorem fl_loop0 (hv : Vd u b fr) : ∀ (d k : Nat) (q : List (Int × Int)) (u1 f1 : List Int) (b1 : List Bool), Tk u b fr q u1 b1 f1 → q.length = k → f1.length = d →
    RunsL Try.prog 3 3 (loopOf Try.prog 7 0) 129 12 (flT (fr.length : Int) k) (flH u b fr u1 b1 f1 k q) .ret [(2, .pv (.bool true))] [] ∨
    ∃ (q2 : List (Int × Int)) (u2 f2 : List Int) (b2 : List Bool), Tk u b fr q2 u2 b2 f2 ∧ q2.length = fr.length ∧ f2 = [] ∧
      RunsL Try.prog 3 3 (loopOf Try.prog 7 0) 129 12 (flT (fr.length : Int) k) (flH u b fr u1 b1 f1 k q) (.exit 0) [(1, .pp 3 0), (5, .pp 4 0), (6, .ls 11 fr.length)] (flH u b fr u2 b2 f2 fr.length q2)
  | 0, k, q, u1, f1, b1, h, hk, hf => by
    obtain ⟨_, _, h3⟩ := h.good hv
    have e : k = fr.length := by omega
    subst e
    exact Or.inr ⟨q, u1, f1, b1, h, hk, List.eq_nil_of_length_eq_zero hf, fl0_end (by simp)⟩
  | d + 1, k, q, u1, f1, b1, h, hk, hf => by
    have hfl := hv.frlen
    obtain ⟨v1, _, h3⟩ := h.good hv
    have lt : decide ((k : Int) < (fr.length : Int)) = true := by simp; omega
    cases ht : takeZ u1 b1 f1 with
    | none => exact Or.inl (fl0_full lt (Take_none v1 ht) (RSCheck_ok v1) (ROpen_none v1 ht) Alive6)
    | some w =>
      obtain ⟨u2, b2, f2, x, z⟩ := w
      have h2 := h.snoc ht
      obtain ⟨_, _, h4⟩ := h2.good hv
      have go : ∀ {e : Exit} {tm2 : List (Nat × SV)} {hp2 : List (Nat × Nat × SV)}, RunsL Try.prog 3 3 (loopOf Try.prog 7 0) 129 12 (flT (fr.length : Int) (k + 1)) (flH u b fr u2 b2 f2 (k + 1) (q ++ [(x, z)])) e tm2 hp2 →
          RunsL Try.prog 3 3 (loopOf Try.prog 7 0) 129 12 (flT (fr.length : Int) k) (flH u b fr u1 b1 f1 k q) e tm2 hp2 := fun r => fl0_next lt (Take_some v1 ht) (by omega) (z_succ (by omega)) r
      have hl2 : (q ++ [(x, z)]).length = k + 1 := by simp [hk]
      rcases fl_loop0 hv d (k + 1) _ u2 f2 b2 h2 hl2 (by omega) with r | ⟨q2, u3, f3, b3, c1, c2, c3, r⟩
      · exact Or.inl (go r)
      · exact Or.inr ⟨q2, u3, f3, b3, c1, c2, c3, go r⟩
theorem fl_loop1 (hv : Vd u b fr) {U : List Int} {hs : List (Int × Int)} {n : Nat} (hn : hs.length = n) (hn2 : n ≤ 1000000) : ∀ (k : Nat) (q r : List (Int × Int)) (u1 f1 : List Int) (b1 : List Bool), q.length = k → hs = q ++ r → Tk u b fr q u1 b1 f1 → Vd U b1 f1 → (∀ x z, (x, z) ∈ q → 0 ≤ x ∧ x < (U.length : Int) ∧ U[x.toNat]? = some z) →
    RunsL Try.prog 3 3 (loopOf Try.prog 7 1) 129 14 [(1, .pp 3 0), (5, .pp 4 0), (6, .ls 11 n), (16, .pv (.int .i64 ((k : Int) - 1)))] (flH u b fr U b1 f1 n hs) (.exit 2) [(1, .pp 3 0), (5, .pp 4 0)] (flH u b fr U b fr n hs)
  | 0, q, r, u1, f1, b1, hq, he, h, hV, hU => by
    obtain rfl := List.eq_nil_of_length_eq_zero hq
    generalize hq2 : ([] : List (Int × Int)) = q' at h
    cases h with
    | nil => exact fl1_end (by simp)
    | snoc h t => simp at hq2
  | k + 1, q, r, u1, f1, b1, hq, he, h, hV, hU => by
    have hne : q ≠ [] := fun e => by subst e; simp at hq
    obtain ⟨q', ⟨x, z⟩, rfl⟩ : ∃ q' a, q = q' ++ [a] := ⟨q.dropLast, q.getLast hne, (List.dropLast_concat_getLast hne).symm⟩
    have hql : q'.length = k := by simpa using hq
    obtain ⟨u0, b0, f0, t1, e1, e2, e3, _⟩ := h.back hv
    obtain ⟨x0, x1, x2⟩ := hU x z (by simp)
    have hlive : Live U b1 x z := ⟨x0, x1, e3, x2⟩
    have hg := Give_some hV hlive
    rw [← e2, ← e1] at hg
    have hV0 := hV.give hlive
    rw [← e2, ← e1] at hV0
    have ih := fl_loop1 hv (U := U) hn hn2 k q' ((x, z) :: r) u0 f0 b0 hql (by rw [he]; simp) t1 hV0 (fun a c hm => hU a c (by simp [hm]))
    have hk : hs[k]? = some (x, z) := by rw [he, ← hql]; simp
    have hkn : k < n := by rw [← hn, he]; simp; omega
    rw [show ((k + 1 : Nat) : Int) - 1 = (k : Int) by omega]
    exact fl1_next (by simp) hk (by omega) hg (wrapZ (by omega) (by omega)) ih
theorem full_walk (u fr : List Int) (b : List Bool) : FnL Try.prog 7 3 [slA u b fr] (slP u b fr) (.pv (.bool true)) 0 [] := by
  by_cases hb : u.length > 40
  · exact fl_big (by simp; omega) Alive6
  · have nb : decide ((u.length : Int) > 40) = false := by simp; omega
    cases hg : greatB u b fr with
    | true => exact fl_great nb (Great_yes hg) Alive6
    | false =>
      obtain ⟨_, _, hf⟩ := great_lens hg
      by_cases h : Vd u b fr
      · have hG := Great_no hg
        have hC := RSCheck_ok h
        have hR := Room_ok h
        have hbl := h.len
        rcases Nat.eq_zero_or_pos fr.length with h0 | h0
        · have e0 := List.eq_nil_of_length_eq_zero h0
          have ht : takeZ u b fr = none := by rw [e0]; rfl
          exact fl_zero nb hG hC hR (by simp [h0]) (Take_none h ht) hR (by simp [h0]) (SameI_self (by omega)) (SameB_self (by omega)) Alive6
        · have lt : decide ((0 : Int) < (fr.length : Int)) = true := by simp; omega
          cases ht : takeZ u b fr with
          | none => exact fl_full1 nb hG hC hR lt (Take_none h ht) hC (ROpen_none h ht) Alive6
          | some w =>
            obtain ⟨u1, b1, f1, x, z⟩ := w
            have t1 : Tk u b fr [(x, z)] u1 b1 f1 := Tk.nil.snoc ht
            rcases fl_loop0 h f1.length 1 [(x, z)] u1 f1 b1 t1 rfl rfl with r | ⟨q2, u2, f2, b2, c1, c2, c3, r⟩
            · exact fl_ret nb hG hC hR lt (Take_some h ht) r
            · obtain ⟨v2, l2, _⟩ := c1.good h
              have ht2 : takeZ u2 b2 f2 = none := by rw [c3]; rfl
              have hr2 := Room_ok v2
              have r1 := fl_loop1 h (U := u2) c2 (by omega) fr.length q2 [] u2 f2 b2 c2 (by simp) c1 v2 (fun a c hm => ⟨(l2 a c hm).lo, (l2 a c hm).lt, (l2 a c hm).use⟩)
              exact fl_all nb hG hC hR lt (Take_some h ht) r (Take_none v2 ht2) hr2 (by simp [c3]) (wrapZ (by omega) (by omega)) r1 (SameI_eq (by omega)) (SameB_eq (by omega)) Alive6
      · exact fl_bad nb (Great_no hg) (RSCheck_bad (by omega) h) Alive6
end
end Go.Proofs.Ytpccpohcjjjnlaa
