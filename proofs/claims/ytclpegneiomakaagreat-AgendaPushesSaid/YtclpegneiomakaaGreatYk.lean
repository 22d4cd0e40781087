/-
  What package agenda's functions return, for any agenda. Conditions: none.
-/
import Derived.Test.YtclpegneiomakaaGreatYj
namespace Go.Proofs.YtclpegneiomakaaGreat
open Go.RowKit
section
variable {u fr wh : List Int} {b : List Bool} {ev : List Ev}
/-- A list is not too long, its times are of 64 bits. -/
structure ASm (u : List Int) (b : List Bool) (fr : List Int) (ev : List Ev) (wh : List Int) : Prop where
  lu : u.length ≤ 210
  lb : b.length ≤ 210
  lf : fr.length ≤ 210
  le : ev.length ≤ 210
  lw : wh.length ≤ 210
  i : ∀ x ∈ ev, EvI x
theorem VA.sm (h : VA u b fr ev wh) : ASm u b fr ev wh := by
  have := h.lens
  exact ⟨by omega, by omega, by omega, by omega, by omega, fun x hx => (h.ef.ok x hx).i⟩
theorem ACk_bad (s : ASm u b fr ev wh) (h : ¬ VA u b fr ev wh) : FnL Tryz.prog 20 5 [agA u b fr ev wh] (agP u b fr ev wh) (.pv (.int .i64 8)) 0 [] := ACheck_bad (by have := s.lf; omega) (by have := s.le; omega) s.i h

theorem an_mul {n : Nat} (h1 : 1 ≤ n) (h2 : n ≤ 200) : Pure Tryz.prog 69 #[.int .u64 1, .int .u64 (n : Int)] (.tuple #[.int .u64 0, .int .u64 (n : Int)]) := by
  refine mul_path fun w => (Tryz.bits_Mul64 1 n (by omega) (by omega) w).mono fun e w' ⟨he, hw⟩ => ?_
  subst hw
  refine ⟨?_, Gr.refl _⟩
  rw [he]
  have e1 : 1 * n / 18446744073709551616 = 0 := by omega
  have e2 : 1 * n % 18446744073709551616 = n := by omega
  rw [e1, e2]
  rfl
theorem rep_set (z : Int) (k m r : Nat) (hm : m ≤ r) : ziV (List.replicate (k + m) z ++ List.replicate (r - m) 0) = setL (ziV (List.replicate k z ++ List.replicate r 0)) ((0 + k) * 1) (ziV (List.replicate m z)) := by
  unfold setL
  rw [Nat.zero_add, Nat.mul_one, ziV_length, List.length_replicate]
  have e1 : (ziV (List.replicate k z ++ List.replicate r 0)).take k = ziV (List.replicate k z) := by
    rw [ziV_append, List.take_append_of_le_length (by rw [ziV_length, List.length_replicate]; omega), List.take_of_length_le (by rw [ziV_length, List.length_replicate]; omega)]
  have e2 : (ziV (List.replicate k z ++ List.replicate r 0)).drop (k + m) = ziV (List.replicate (r - m) 0) := by
    rw [ziV_append, List.drop_append, ziV_length, List.length_replicate, List.drop_of_length_le (by rw [ziV_length, List.length_replicate]; omega), List.nil_append, show k + m - k = m by omega]
    unfold ziV
    rw [List.map_replicate, List.map_replicate, List.drop_replicate]
  rw [e1, e2, ← ziV_append, ← ziV_append, ← List.replicate_append_replicate]
theorem rp_loop {z : Int} {n : Nat} (hn : n ≤ 1000000) : ∀ (d k : Nat), 1 ≤ k → k ≤ n → n ≤ k + d → RunsL Tryz.prog 1 1 (loopOf Tryz.prog 38 0) 48 2 [(7, .ls 1 n), (8, .pv (.int .i64 (k : Int)))] [(1, 0, .row 3 1 n (ziV (List.replicate k z ++ List.replicate (n - k) 0)))] (.exit 0) [(7, .ls 1 n)] [(1, 0, .row 3 1 n (ziV (List.replicate n z)))] := by
  intro d
  induction d with
  | zero =>
    intro k h1 h2 h3
    have : k = n := by omega
    subst this
    have := rp_end (g := List.replicate k z ++ List.replicate (k - k) 0) (k := k) (n := k) (decide_eq_false (by omega))
    rwa [show List.replicate k z ++ List.replicate (k - k) (0 : Int) = List.replicate k z by simp] at this ⊢
  | succ d ih =>
    intro k h1 h2 h3
    by_cases hk : k < n
    · have hmin : Nat.min k (n - k) ≤ n - k := Nat.min_le_right _ _
      have hmin2 : Nat.min k (n - k) ≤ k := Nat.min_le_left _ _
      have hpos : 0 < Nat.min k (n - k) := Nat.lt_min.2 ⟨by omega, by omega⟩
      generalize hm : Nat.min k (n - k) = m at *
      have r := ih (k + m) (by omega) (by omega) (by omega)
      have esrc : List.take (m * 1) (List.take (k * 1) (List.drop (0 * 1) (ziV (List.replicate k z ++ List.replicate (n - k) 0)))) = ziV (List.replicate m z) := by
        rw [Nat.zero_mul, List.drop_zero, Nat.mul_one, Nat.mul_one, ziV_append, List.take_append_of_le_length (by rw [ziV_length, List.length_replicate]; omega), List.take_of_length_le (l := ziV (List.replicate k z)) (by rw [ziV_length, List.length_replicate]; omega)]
        unfold ziV
        rw [List.map_replicate, List.map_replicate, List.take_replicate]
        congr 1
        omega
      rw [show n - (k + m) = n - k - m by omega] at r
      refine rp_next (g := List.replicate k z ++ List.replicate (n - k) 0) (j := k + m) (by omega) (by omega) (decide_eq_true (by omega)) ?_ (by rw [hm]; exact hpos) ?_ (by rw [hm, show (k : Int) + (m : Int) = ((k + m : Nat) : Int) by omega]; exact wrapZ (by omega) (by omega)) r
      · rw [hm, esrc]
        exact rep_set z k m (n - k) hmin
      · rw [hm, esrc, ziV_length, ziV_length, List.length_append, List.length_replicate, List.length_replicate, List.length_replicate]
        omega
    · have : k = n := by omega
      subst this
      have := rp_end (g := List.replicate k z ++ List.replicate (k - k) 0) (k := k) (n := k) (decide_eq_false (by omega))
      rwa [show List.replicate k z ++ List.replicate (k - k) (0 : Int) = List.replicate k z by simp] at this ⊢
theorem Repeat_any {z : Int} {n : Nat} (h1 : 1 ≤ n) (h2 : n ≤ 200) : FnL Tryz.prog 38 1 [.ps 0 0 1 1, .pv (.int .i64 (n : Int))] [(0, 0, .pv (.int .i64 z))] (.ls 1 n) 1 [(1, 0, .row 3 1 n (ziV (List.replicate n z)))] := by
  have hmin : Nat.min 1 n = 1 := Nat.min_eq_left h1
  refine rp_path (g := List.replicate 1 z ++ List.replicate (n - 1) 0) (decide_eq_false (by omega)) ?_ (an_mul h1 h2) (decide_eq_false (by omega)) (wrapZ (by omega) (by omega)) (by omega) (by omega) ?_ (by rw [hmin]; omega) ?_ (by rw [hmin]; rfl) (rp_loop (by omega) n 1 (by omega) (by omega) (by omega))
  · rw [show IntKind.u64.wrap (n : Int) = n by rw [IntKind.wrap_u64]; omega]
  · rw [hmin, zrep_i, Nat.one_mul]
    have := rep_set z 0 1 n h1
    simpa [ziV] using this
  · rw [hmin, zrep_i, ziV_length, List.length_replicate]
    simp
    omega
/-- A nil slice as an empty list of the run's own. -/
theorem nil_own {f : FuncId} {args : List SV} {n0 n1 n2 n3 : Nat} {r0 r1 r2 r3 : SV} {e0 : Value}
    (h : FnL Tryz.prog f 0 args [] (.tu [.ag [.ls 0 n0, .ls 1 n1, .ls 2 n2, .pv (.slice none 0 0), .ls 3 n3], .one (.pv e0)]) 4 [(0, 0, r0), (1, 0, r1), (2, 0, r2), (3, 0, r3)]) (hr : r0.isRow = true ∧ r1.isRow = true ∧ r2.isRow = true ∧ r3.isRow = true) :
    FnL Tryz.prog f 0 args [] (.tu [.ag [.ls 0 n0, .ls 1 n1, .ls 2 n2, .ls 4 0, .ls 3 n3], .one (.pv e0)]) 5 [(0, 0, r0), (1, 0, r1), (2, 0, r2), (3, 0, r3), (4, 0, rowE [])] := by
  intro w β us hH hd hi
  refine (h w β us hH hd hi).mono fun e w' ⟨v, β', he, hle, hx, hh, hd'⟩ => ?_
  obtain ⟨vs, hvs, rfl⟩ := hx
  match vs, hvs with
  | [v0, v1], ⟨⟨ws, hws, h0⟩, hv1, _⟩ =>
  match ws, hws with
  | [a0, a1, a2, a3, a4], ⟨k0, k1, k2, k3, k4, _⟩ =>
  have k3' : a3 = .slice none 0 0 := k3
  subst k3' h0
  have hd4 := hd' 4 (by omega)
  have hle4 : β'.le (β'.setG 4 (.slice none 0 0)) := Bl.le_setG hd4.1 hd4.2
  refine ⟨_, β'.setG 4 (.slice none 0 0), he, Bl.le_trans hle hle4, ⟨[.agg #[a0, a1, a2, .slice none 0 0, a4], v1], ⟨⟨[a0, a1, a2, .slice none 0 0, a4], ⟨S0.is_mono hle4 k0, S0.is_mono hle4 k1, S0.is_mono hle4 k2, ⟨Bl.setG_same _ _ _, none, 0, rfl⟩, S0.is_mono hle4 k4, True.intro⟩, rfl⟩, hv1, True.intro⟩, rfl⟩, ?_, zsetG_dom hd'⟩
  have ho : w'.ownsRow w.heap.size 43 5 (.slice none 0 0) 0 [] := ⟨rfl, Or.inl ⟨rfl, rfl⟩⟩
  have look : ∀ c o s, lookH [(0, 0, r0), (1, 0, r1), (2, 0, r2), (3, 0, r3), (4, 0, rowE [])] c o = some s → (c = 4 ∧ o = 0 ∧ s = rowE []) ∨ (c ≠ 4 ∧ lookH [(0, 0, r0), (1, 0, r1), (2, 0, r2), (3, 0, r3)] c o = some s) := by
    intro c o s hs
    by_cases hc : c = 4
    · subst hc
      simp only [lookH_cons, if_neg (show ¬ ((0 : Nat) = 4 ∧ (0 : Nat) = o) by omega), if_neg (show ¬ ((1 : Nat) = 4 ∧ (0 : Nat) = o) by omega), if_neg (show ¬ ((2 : Nat) = 4 ∧ (0 : Nat) = o) by omega), if_neg (show ¬ ((3 : Nat) = 4 ∧ (0 : Nat) = o) by omega)] at hs
      split at hs
      · rename_i e4
        exact Or.inl ⟨rfl, e4.2.symm, (Option.some.inj hs).symm⟩
      · cases hs
    · refine Or.inr ⟨hc, ?_⟩
      have e4 : ¬ ((4 : Nat) = c ∧ (0 : Nat) = o) := fun e => hc e.1.symm
      simp only [lookH_cons] at hs ⊢
      rw [if_neg e4] at hs
      exact hs
  refine ⟨hh.gr, hh.live, hh.inj, hh.new, fun c r hc => ?_, fun c o s hs hsr => ?_, fun c o e es n xs hs => ?_, fun c o e es n xs c' o' e' es' n' xs' u v hs hs' h1 h2 hne gu gv k hu hv => ?_⟩
  · have hc' : β' c = some r := hc
    have : c ≠ 4 := fun e => by subst e; rw [hd4.1] at hc'; cases hc'
    show (if c = 4 then _ else β'.g c) = none
    rw [if_neg this]
    exact hh.sep c r hc'
  · rcases look _ _ _ hs with ⟨_, _, rfl⟩ | ⟨_, hs⟩
    · cases hsr
    · obtain ⟨r, uu, g1, g2, g3⟩ := hh.cells c o s hs hsr
      exact ⟨r, uu, g1, SV.is_mono hle4 g2, g3⟩
  · rcases look _ _ _ hs with ⟨rfl, _, e1⟩ | ⟨hc, hs⟩
    · cases e1
      refine ⟨_, Bl.setG_same _ _ _, owns_rd ho, (fun v hv => by cases hv), fun h => by omega, fun _ => ho, fun _ c r hc hu => by cases hu⟩
    · obtain ⟨uu, g1, g2⟩ := hh.rows c o e es n xs hs
      exact ⟨uu, hle4.g g1, g2.rd, g2.one, g2.low, g2.own, fun h c' r hc' hu => g2.apart h c' r hc' hu⟩
  · rcases look _ _ _ hs with ⟨rfl, _, e1⟩ | ⟨hc, hs⟩
    · have gu' := gu
      rw [Bl.setG_same] at gu'
      cases gu'; cases hu
    · rcases look _ _ _ hs' with ⟨rfl, _, e1⟩ | ⟨hc2, hs2⟩
      · have gv' := gv
        rw [Bl.setG_same] at gv'
        cases gv'; cases hv
      · have e1 : β'.g c = some u := by
          have g' : (if c = 4 then some (Value.slice none 0 0) else β'.g c) = some u := gu
          rwa [if_neg hc] at g'
        have e2 : β'.g c' = some v := by
          have g' : (if c' = 4 then some (Value.slice none 0 0) else β'.g c') = some v := gv
          rwa [if_neg hc2] at g'
        exact hh.rinj c o e es n xs c' o' e' es' n' xs' u v hs hs2 h1 h2 hne e1 e2 k hu hv
end
end Go.Proofs.YtclpegneiomakaaGreat
