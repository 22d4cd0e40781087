/-
  What the functions of package field and its reference return, for a list of points whatever: checking, finding. Conditions: none.
-/
import Derived.Test.YtpngjeloiifgnaaGreatW30
import Derived.Test.YtpngjeloiifgnaaGreatW29
namespace Go.Proofs.YtpngjeloiifgnaaGreat
open Go.RowKit
def okPt (p : Pt) : Bool := okP p.id p.a p.b
def Up (l : List Pt) : Prop := ∀ (k : Nat) (p q : Pt), l[k]? = some p → l[k + 1]? = some q → p.id < q.id
noncomputable def errL (l : List Pt) : Int := open Classical in if 64 < l.length then 4 else if ∀ p ∈ l, okPt p = true then (if Up l then 0 else 32) else 8
theorem first_nat (P : Nat → Prop) : ∀ (N : Nat), (∀ k, k < N → P k) ∨ ∃ j, j < N ∧ ¬ P j ∧ ∀ i, i < j → P i
  | 0 => Or.inl fun k hk => by omega
  | N + 1 => by
    rcases first_nat P N with h | ⟨j, h1, h2⟩
    · by_cases hN : P N
      · exact Or.inl fun k hk => by
          rcases Nat.lt_or_ge k N with h' | h'
          · exact h k h'
          · have : k = N := by omega
            subst this; exact hN
      · exact Or.inr ⟨N, by omega, hN, h⟩
    · exact Or.inr ⟨j, by omega, h2⟩
theorem get_some {α : Type} {l : List α} {k : Nat} (h : k < l.length) : ∃ p, l[k]? = some p := ⟨l[k], List.getElem?_eq_getElem h⟩
theorem get_lt {α : Type} {l : List α} {k : Nat} {p : α} (h : l[k]? = some p) : k < l.length := (List.getElem?_eq_some_iff.1 h).1
theorem in_of {k n : Nat} (h : k < n) : 0 ≤ (k : Int) ∧ (k : Int) < (n : Int) := ⟨by omega, by omega⟩
theorem Up.mono {l : List Pt} (h : Up l) : ∀ {i j : Nat} {p q : Pt}, i < j → l[i]? = some p → l[j]? = some q → p.id < q.id := by
  intro i j
  induction j with
  | zero => intro p q hij; omega
  | succ j ih =>
    intro p q hij hp hq
    by_cases e : i = j
    · subst e; exact h i p q hp hq
    · obtain ⟨r, hr⟩ := get_some (l := l) (k := j) (by have := get_lt hq; omega)
      exact Int.lt_trans (ih (by omega) hp hr) (h j r q hr hq)
theorem i64s {k n : Nat} (h : k < n) (hn : n ≤ 64) : Value.int .i64 (IntKind.i64.wrap ((k : Int) + 1)) = .int .i64 ((k + 1 : Nat) : Int) := i64_succ (by omega)

theorem kc_loop0 {l : List Pt} (hn : l.length ≤ 64) (h : ∀ p ∈ l, okPt p = true) : RunsL Tryz.prog 1 1 (loopOf Tryz.prog 24 0) 44 2 [(1, .pp 1 0), (3, .pv (.int .i64 ((0 : Nat) : Int)))] [(1, 0, .ls 0 l.length), (0, 0, rowP l)] (.exit 0) [(1, .pp 1 0)] [(1, 0, .ls 0 l.length), (0, 0, rowP l)] :=
  RunsL.rounds (fun k => [(1, .pp 1 0), (3, .pv (.int .i64 (k : Int)))]) (fun _ => [(1, 0, .ls 0 l.length), (0, 0, rowP l)]) l.length 0 (Nat.zero_add _)
    (fun k _ hk r => by
      obtain ⟨p, hp⟩ := get_some hk
      exact kc0_next hp (in_of hk) (dt (by omega)) (RCheck02_ok (h p (List.mem_of_getElem? hp))) (i64s hk hn) r)
    (kc0_end (df (by omega)))
theorem kc_loop0_bad {l : List Pt} (hn : l.length ≤ 64) {j : Nat} {p : Pt} (hp : l[j]? = some p) (hb : ¬ okPt p = true) (h : ∀ i, i < j → ∀ q, l[i]? = some q → okPt q = true) : RunsL Tryz.prog 1 1 (loopOf Tryz.prog 24 0) 44 2 [(1, .pp 1 0), (3, .pv (.int .i64 ((0 : Nat) : Int)))] [(1, 0, .ls 0 l.length), (0, 0, rowP l)] .ret [(2, .pv (.int .i64 8))] [] := by
  have hj := get_lt hp
  refine RunsL.rounds (fun k => [(1, .pp 1 0), (3, .pv (.int .i64 (k : Int)))]) (fun _ => [(1, 0, .ls 0 l.length), (0, 0, rowP l)]) j 0 (Nat.zero_add _) (fun k _ hk r => ?_) (kc0_bad hp (in_of hj) (dt (by omega)) (RCheck02_bad hb))
  obtain ⟨q, hq⟩ := get_some (l := l) (k := k) (by omega)
  exact kc0_next hq (in_of (get_lt hq)) (dt (by omega)) (RCheck02_ok (h k hk q hq)) (i64s (get_lt hq) hn) r
theorem i64_pred (k : Nat) (h : k ≤ 1000000) : Value.int .i64 (IntKind.i64.wrap (((k + 1 : Nat) : Int) - 1)) = .int .i64 (k : Int) := by rw [show ((k + 1 : Nat) : Int) - 1 = (k : Int) by omega, wrap_i64_in (by omega) (by omega)]
theorem kc_loop1 {l : List Pt} (hn : l.length ≤ 64) (h : Up l) : RunsL Tryz.prog 1 1 (loopOf Tryz.prog 24 1) 44 2 [(1, .pp 1 0), (4, .pv (.int .i64 ((0 + 1 : Nat) : Int)))] [(1, 0, .ls 0 l.length), (0, 0, rowP l)] (.exit 2) [] [] := by
  by_cases h0 : l.length = 0
  · exact kc1_end (k := 0 + 1) (df (by omega))
  refine RunsL.rounds (fun k => [(1, .pp 1 0), (4, .pv (.int .i64 (k : Int)))]) (fun _ => [(1, 0, .ls 0 l.length), (0, 0, rowP l)]) (N := l.length) (l.length - 1) (0 + 1) (by omega) (fun k h1 hk r => ?_) (kc1_end (df (by omega)))
  obtain ⟨m, rfl⟩ : ∃ m, k = m + 1 := ⟨k - 1, by omega⟩
  obtain ⟨q, hq⟩ := get_some (l := l) (k := m) (by omega)
  obtain ⟨p, hp⟩ := get_some hk
  exact kc1_next hq hp (in_of (by omega)) (in_of hk) (dt (by omega)) (i64_pred m (by omega)) (df (by have := h m q p hq hp; omega)) (i64s hk hn) r
theorem kc_loop1_bad {l : List Pt} (hn : l.length ≤ 64) {j : Nat} {p q : Pt} (hq : l[j]? = some q) (hp : l[j + 1]? = some p) (hb : ¬ q.id < p.id) (h : ∀ i, i < j → ∀ p q, l[i]? = some p → l[i + 1]? = some q → p.id < q.id) : RunsL Tryz.prog 1 1 (loopOf Tryz.prog 24 1) 44 2 [(1, .pp 1 0), (4, .pv (.int .i64 ((0 + 1 : Nat) : Int)))] [(1, 0, .ls 0 l.length), (0, 0, rowP l)] .ret [(2, .pv (.int .i64 32))] [] := by
  have hj := get_lt hp
  refine RunsL.rounds (fun k => [(1, .pp 1 0), (4, .pv (.int .i64 (k : Int)))]) (fun _ => [(1, 0, .ls 0 l.length), (0, 0, rowP l)]) (N := j + 1) j (0 + 1) (by omega) (fun k h1 hk r => ?_) (kc1_bad hq hp (in_of (by omega)) (in_of hj) (dt (by omega)) (i64_pred j (by omega)) (dt (by omega)))
  obtain ⟨m, rfl⟩ : ∃ m, k = m + 1 := ⟨k - 1, by omega⟩
  obtain ⟨q', hq'⟩ := get_some (l := l) (k := m) (by omega)
  obtain ⟨p', hp'⟩ := get_some (l := l) (k := m + 1) (by omega)
  exact kc1_next hq' hp' (in_of (by omega)) (in_of (by omega)) (dt (by omega)) (i64_pred m (by omega)) (df (by have := h m (by omega) q' p' hq' hp'; omega)) (i64s (n := l.length) (by omega) hn) r
theorem err_cases (l : List Pt) : (64 < l.length ∧ errL l = 4) ∨ (l.length ≤ 64 ∧ (∃ (j : Nat) (p : Pt), l[j]? = some p ∧ ¬ okPt p = true ∧ ∀ i, i < j → ∀ q, l[i]? = some q → okPt q = true) ∧ errL l = 8) ∨
    (l.length ≤ 64 ∧ (∀ p ∈ l, okPt p = true) ∧ (∃ (j : Nat) (p q : Pt), l[j]? = some q ∧ l[j + 1]? = some p ∧ ¬ q.id < p.id ∧ ∀ i, i < j → ∀ p q, l[i]? = some p → l[i + 1]? = some q → p.id < q.id) ∧ errL l = 32) ∨
    (l.length ≤ 64 ∧ (∀ p ∈ l, okPt p = true) ∧ Up l ∧ errL l = 0) := by
  by_cases h0 : 64 < l.length
  · exact Or.inl ⟨h0, by unfold errL; rw [if_pos h0]⟩
  refine Or.inr ?_
  by_cases h1 : ∀ p ∈ l, okPt p = true
  · refine Or.inr ?_
    by_cases h2 : Up l
    · exact Or.inr ⟨by omega, h1, h2, by unfold errL; rw [if_neg h0, if_pos h1, if_pos h2]⟩
    · refine Or.inl ⟨by omega, h1, ?_, by unfold errL; rw [if_neg h0, if_pos h1, if_neg h2]⟩
      rcases first_nat (fun k => ∀ p q, l[k]? = some p → l[k + 1]? = some q → p.id < q.id) l.length with h | ⟨j, hj, hn, hb⟩
      · exact (h2 fun k p q hp hq => h k (get_lt hp) p q hp hq).elim
      · simp only [Classical.not_forall, not_imp] at hn
        obtain ⟨p, q, hp, hq, hpq⟩ := hn
        exact ⟨j, q, p, hp, hq, hpq, hb⟩
  · refine Or.inl ⟨by omega, ?_, by unfold errL; rw [if_neg h0, if_neg h1]⟩
    rcases first_nat (fun k => ∀ q, l[k]? = some q → okPt q = true) l.length with h | ⟨j, hj, hn, hb⟩
    · exact (h1 fun p hp => by obtain ⟨k, hk, rfl⟩ := List.getElem_of_mem hp; exact h k hk _ (List.getElem?_eq_getElem hk)).elim
    · simp only [Classical.not_forall, not_imp] at hn
      obtain ⟨p, hp, hpq⟩ := hn
      exact ⟨j, p, hp, hpq, hb⟩
theorem RCheck_any (l : List Pt) : FnL Tryz.prog 24 1 [fldS 0 l] [(0, 0, rowP l)] (.pv (.int .i64 (errL l))) 0 [] := by
  rcases err_cases l with ⟨h, e⟩ | ⟨h, ⟨j, p, hp, hb, hf⟩, e⟩ | ⟨h, h1, ⟨j, p, q, hq, hp, hb, hf⟩, e⟩ | ⟨h, h1, h2, e⟩ <;> rw [e]
  · exact kc_many (dt (by omega))
  · exact kc_bad (df (by omega)) (kc_loop0_bad h hp hb hf)
  · exact kc_ord (df (by omega)) (kc_loop0 h h1) (kc_loop1_bad h hq hp hb hf)
  · exact kc_ok (df (by omega)) (kc_loop0 h h1) (kc_loop1 h h2)
abbrev pcT (l : List Pt) (k : Nat) : List (Nat × SV) := [(1, .pp 1 0), (12, .ls 0 l.length), (13, .pv (.int .i64 (l.length : Int))), (14, .pv (.int .i64 (k : Int)))]
theorem pc_loop0 {l : List Pt} (hn : l.length ≤ 64) (h : ∀ p ∈ l, okPt p = true) : RunsL Tryz.prog 1 1 (loopOf Tryz.prog 20 0) 45 2 (pcT l 0) [(1, 0, .ls 0 l.length), (0, 0, rowP l)] (.exit 0) [(1, .pp 1 0)] [(1, 0, .ls 0 l.length), (0, 0, rowP l)] :=
  RunsL.rounds (pcT l) (fun _ => [(1, 0, .ls 0 l.length), (0, 0, rowP l)]) l.length 0 (Nat.zero_add _)
    (fun k _ hk r => by
      obtain ⟨p, hp⟩ := get_some hk
      exact pc0_next hp (in_of hk) (dt (by omega)) (Check02_ok (h p (List.mem_of_getElem? hp))) (i64s hk hn) r)
    (pc0_end (df (by omega)))
theorem pc_loop0_bad {l : List Pt} (hn : l.length ≤ 64) {j : Nat} {p : Pt} (hp : l[j]? = some p) (hb : ¬ okPt p = true) (h : ∀ i, i < j → ∀ q, l[i]? = some q → okPt q = true) : RunsL Tryz.prog 1 1 (loopOf Tryz.prog 20 0) 45 2 (pcT l 0) [(1, 0, .ls 0 l.length), (0, 0, rowP l)] .ret [(2, .pv (.int .i64 8))] [] := by
  have hj := get_lt hp
  refine RunsL.rounds (pcT l) (fun _ => [(1, 0, .ls 0 l.length), (0, 0, rowP l)]) j 0 (Nat.zero_add _) (fun k _ hk r => ?_) (pc0_bad hp (in_of hj) (dt (by omega)) (Check02_bad hb))
  obtain ⟨q, hq⟩ := get_some (l := l) (k := k) (by omega)
  exact pc0_next hq (in_of (get_lt hq)) (dt (by omega)) (Check02_ok (h k hk q hq)) (i64s (get_lt hq) hn) r
theorem pc_loop1 {l : List Pt} (hn : l.length ≤ 64) (h : Up l) : RunsL Tryz.prog 1 1 (loopOf Tryz.prog 20 1) 45 2 [(1, .pp 1 0), (6, .pv (.int .i64 ((0 + 1 : Nat) : Int)))] [(1, 0, .ls 0 l.length), (0, 0, rowP l)] (.exit 2) [] [] := by
  by_cases h0 : l.length = 0
  · exact pc1_end (k := 0 + 1) (df (by omega))
  refine RunsL.rounds (fun k => [(1, .pp 1 0), (6, .pv (.int .i64 (k : Int)))]) (fun _ => [(1, 0, .ls 0 l.length), (0, 0, rowP l)]) (N := l.length) (l.length - 1) (0 + 1) (by omega) (fun k h1 hk r => ?_) (pc1_end (df (by omega)))
  obtain ⟨m, rfl⟩ : ∃ m, k = m + 1 := ⟨k - 1, by omega⟩
  obtain ⟨q, hq⟩ := get_some (l := l) (k := m) (by omega)
  obtain ⟨p, hp⟩ := get_some hk
  exact pc1_next hq hp (in_of (by omega)) (in_of hk) (dt (by omega)) (i64_pred m (by omega)) (df (by have := h m q p hq hp; omega)) (i64s hk hn) r
theorem pc_loop1_bad {l : List Pt} (hn : l.length ≤ 64) {j : Nat} {p q : Pt} (hq : l[j]? = some q) (hp : l[j + 1]? = some p) (hb : ¬ q.id < p.id) (h : ∀ i, i < j → ∀ p q, l[i]? = some p → l[i + 1]? = some q → p.id < q.id) : RunsL Tryz.prog 1 1 (loopOf Tryz.prog 20 1) 45 2 [(1, .pp 1 0), (6, .pv (.int .i64 ((0 + 1 : Nat) : Int)))] [(1, 0, .ls 0 l.length), (0, 0, rowP l)] .ret [(2, .pv (.int .i64 32))] [] := by
  have hj := get_lt hp
  refine RunsL.rounds (fun k => [(1, .pp 1 0), (6, .pv (.int .i64 (k : Int)))]) (fun _ => [(1, 0, .ls 0 l.length), (0, 0, rowP l)]) (N := j + 1) j (0 + 1) (by omega) (fun k h1 hk r => ?_) (pc1_bad hq hp (in_of (by omega)) (in_of hj) (dt (by omega)) (i64_pred j (by omega)) (dt (by omega)))
  obtain ⟨m, rfl⟩ : ∃ m, k = m + 1 := ⟨k - 1, by omega⟩
  obtain ⟨q', hq'⟩ := get_some (l := l) (k := m) (by omega)
  obtain ⟨p', hp'⟩ := get_some (l := l) (k := m + 1) (by omega)
  exact pc1_next hq' hp' (in_of (by omega)) (in_of (by omega)) (dt (by omega)) (i64_pred m (by omega)) (df (by have := h m (by omega) q' p' hq' hp'; omega)) (i64s (n := l.length) (by omega) hn) r
theorem PCheck_any (l : List Pt) : FnL Tryz.prog 20 1 [fldS 0 l] [(0, 0, rowP l)] (.pv (.int .i64 (errL l))) 0 [] := by
  rcases err_cases l with ⟨h, e⟩ | ⟨h, ⟨j, p, hp, hb, hf⟩, e⟩ | ⟨h, h1, ⟨j, p, q, hq, hp, hb, hf⟩, e⟩ | ⟨h, h1, h2, e⟩ <;> rw [e]
  · exact pc_many (dt (by omega))
  · exact pc_bad (df (by omega)) (pc_loop0_bad h hp hb hf)
  · exact pc_ord (df (by omega)) (pc_loop0 h h1) (pc_loop1_bad h hq hp hb hf)
  · exact pc_ok (df (by omega)) (pc_loop0 h h1) (pc_loop1 h h2)

structure Val (l : List Pt) : Prop where
  len : l.length ≤ 64
  ok : ∀ p ∈ l, okPt p = true
  up : Up l
theorem err_val {l : List Pt} : errL l = 0 ↔ Val l := by
  rcases err_cases l with ⟨h, e⟩ | ⟨h, ⟨j, p, hp, hb, hf⟩, e⟩ | ⟨h, h1, ⟨j, p, q, hq, hp, hb, hf⟩, e⟩ | ⟨h, h1, h2, e⟩ <;> rw [e]
  · exact ⟨fun h => by omega, fun v => by have := v.len; omega⟩
  · exact ⟨fun h => by omega, fun v => (hb (v.ok p (List.mem_of_getElem? hp))).elim⟩
  · exact ⟨fun h => by omega, fun v => (hb (v.up j q p hq hp)).elim⟩
  · exact ⟨fun _ => ⟨h, h1, h2⟩, fun _ => rfl⟩
/-- Where an ID is, or where it would be. -/
theorem place (l : List Pt) (hv : Val l) (id : Int) : (∃ (k : Nat) (p : Pt), l[k]? = some p ∧ p.id = id) ∨ ((∀ p ∈ l, p.id ≠ id) ∧ ∃ k, k ≤ l.length ∧ (∀ (t : Nat) (p : Pt), t < k → l[t]? = some p → p.id < id) ∧ ∀ (t : Nat) (p : Pt), k ≤ t → l[t]? = some p → id < p.id) := by
  by_cases h : ∃ (k : Nat) (p : Pt), l[k]? = some p ∧ p.id = id
  · exact Or.inl h
  · refine Or.inr ⟨fun p hp e => ?_, ?_⟩
    · obtain ⟨k, hk, rfl⟩ := List.getElem_of_mem hp
      exact h ⟨k, _, List.getElem?_eq_getElem hk, e⟩
    · rcases first_nat (fun k => ∀ p, l[k]? = some p → p.id < id) l.length with hh | ⟨j, hj, hn, hb⟩
      · exact ⟨l.length, Nat.le_refl _, fun t p ht hp => hh t ht p hp, fun t p ht hp => by have := get_lt hp; omega⟩
      · refine ⟨j, by omega, fun t p ht hp => hb t ht p hp, fun t p ht hp => ?_⟩
        simp only [Classical.not_forall, not_imp] at hn
        obtain ⟨q, hq, hlt⟩ := hn
        have hne : q.id ≠ id := fun e => h ⟨j, q, hq, e⟩
        rcases Nat.lt_or_ge j t with h' | h'
        · have := hv.up.mono h' hq hp; omega
        · have : t = j := by omega
          subst this
          rw [hq] at hp
          cases hp
          omega

theorem find1 (a pa pb id : Int) : ∃ c, Pure Tryz.prog 114 #[pointV a pa pb, .int .i64 id] (.int .i64 c) ∧ (c < 0 ↔ a < id) ∧ (c = 0 ↔ a = id) := by
  rcases Int.lt_trichotomy a id with h | h | h
  · exact ⟨-1, find1_lt (by simp) (by simp) (dt h), ⟨fun _ => h, fun _ => by omega⟩, ⟨fun h => by omega, fun h => by omega⟩⟩
  · exact ⟨0, find1_eq (by simp) (by simp) (df (by omega)) (df (by omega)), ⟨fun h => by omega, fun h => by omega⟩, ⟨fun _ => h, fun _ => rfl⟩⟩
  · exact ⟨1, find1_gt (by simp) (by simp) (df (by omega)) (dt (by omega)), ⟨fun h => by omega, fun h => by omega⟩, ⟨fun h => by omega, fun h => by omega⟩⟩
abbrev bsT (l : List Pt) (id : Int) (i j : Nat) : List (Nat × SV) := [(0, .ls 0 l.length), (1, .pv (.int .i64 id)), (2, .pv (.func (.func 114) #[] #[])), (8, .pv (.int .i64 (l.length : Int))), (9, .pv (.int .i64 (i : Int))), (10, .pv (.int .i64 (j : Int)))]
theorem bs_loop {l : List Pt} (hn : l.length ≤ 64) {id : Int} {k : Nat} (hlo : ∀ (t : Nat) (p : Pt), t < k → l[t]? = some p → p.id < id) (hhi : ∀ (t : Nat) (p : Pt), k ≤ t → l[t]? = some p → ¬ p.id < id) : ∀ (d i j : Nat), j - i ≤ d → i ≤ k → k ≤ j → j ≤ l.length →
    RunsL Tryz.prog 1 1 (loopOf Tryz.prog 113 0) 49 1 (bsT l id i j) [(0, 0, rowP l)] (.exit 0) (bsT l id k k) [(0, 0, rowP l)] := by
  intro d
  induction d with
  | zero =>
    intro i j hd h1 h2 h3
    have : i = k := by omega
    have : j = k := by omega
    subst i j
    exact bs_end (df (by omega))
  | succ d ih =>
    intro i j hd h1 h2 h3
    by_cases hij : i < j
    · obtain ⟨p, hp⟩ := get_some (l := l) (k := (i + j) / 2) (by omega)
      obtain ⟨c, hc, hc1, hc2⟩ := find1 p.id p.a p.b id
      have a1 : Value.int .i64 (IntKind.i64.wrap ((i : Int) + (j : Int))) = .int .i64 ((i : Int) + (j : Int)) := by rw [wrap_i64_in (by omega) (by omega)]
      have a2 : Value.int .u64 (IntKind.u64.wrap ((i : Int) + (j : Int))) = .int .u64 ((i : Int) + (j : Int)) := by rw [wrap_in (by omega) (by omega)]
      have a3 : Value.int .u64 (((i : Int) + (j : Int)).fdiv (2 ^ (min (1 : Int).toNat IntKind.u64.bits))) = .int .u64 (((i + j) / 2 : Nat) : Int) := by
        have : (2 : Int) ^ (min (1 : Int).toNat IntKind.u64.bits) = 2 := rfl
        rw [this, Int.fdiv_eq_ediv_of_nonneg _ (by omega)]
        congr 1
      have a4 : Value.int .i64 (IntKind.i64.wrap (((i + j) / 2 : Nat) : Int)) = .int .i64 (((i + j) / 2 : Nat) : Int) := by rw [wrap_i64_in (by omega) (by omega)]
      by_cases hlt : p.id < id
      · refine bs_up hp (in_of (get_lt hp)) (dt (by omega)) a1 a2 (by omega) a3 a4 hc (dt (hc1.2 hlt)) (i64_succ (by omega)) (ih _ _ (by omega) ?_ h2 h3)
        rcases Nat.lt_or_ge ((i + j) / 2) k with h | h
        · exact h
        · exact (hhi _ p h hp hlt).elim
      · refine bs_dn hp (in_of (get_lt hp)) (dt (by omega)) a1 a2 (by omega) a3 a4 hc (df (fun h => hlt (hc1.1 h))) (ih _ _ (by omega) h1 ?_ (by omega))
        rcases Nat.lt_or_ge ((i + j) / 2) k with h | h
        · exact (hlt (hlo _ p h hp)).elim
        · exact h
    · have : i = k := by omega
      have : j = k := by omega
      subst i j
      exact bs_end (df (by omega))
theorem find_yes {l : List Pt} (hv : Val l) {id : Int} {k : Nat} {p : Pt} (hk : l[k]? = some p) (he : p.id = id) : FnL Tryz.prog 72 1 [fldS 0 l, .pv (.int .i64 id)] [(0, 0, rowP l)] (.pv (.tuple #[.int .i64 (k : Int), .bool true])) 0 [] := by
  subst he
  obtain ⟨c, hc, hc1, hc2⟩ := find1 p.id p.a p.b p.id
  have hl := get_lt hk
  refine find_path (bsf_hit (bs_loop hv.len (fun t q ht hq => hv.up.mono ht hq hk) (fun t q ht hq => ?_) l.length 0 l.length (by omega) (Nat.zero_le _) (by omega) (Nat.le_refl _)) hk (in_of hl) (dt (by omega)) hc (by simpa using hc2.2 rfl))
  rcases Nat.lt_or_ge k t with h | h
  · have := hv.up.mono h hk hq; omega
  · have : t = k := by omega
    subst this
    rw [hk] at hq; cases hq; omega
theorem find_no {l : List Pt} (hv : Val l) {id : Int} {k : Nat} (hkl : k ≤ l.length) (hlo : ∀ (t : Nat) (p : Pt), t < k → l[t]? = some p → p.id < id) (hhi : ∀ (t : Nat) (p : Pt), k ≤ t → l[t]? = some p → id < p.id) : FnL Tryz.prog 72 1 [fldS 0 l, .pv (.int .i64 id)] [(0, 0, rowP l)] (.pv (.tuple #[.int .i64 (k : Int), .bool false])) 0 [] := by
  have hb := bs_loop hv.len hlo (fun t p ht hp => by have := hhi t p ht hp; omega) l.length 0 l.length (by omega) (Nat.zero_le _) hkl (Nat.le_refl _)
  by_cases h : k < l.length
  · obtain ⟨p, hp⟩ := get_some h
    obtain ⟨c, hc, hc1, hc2⟩ := find1 p.id p.a p.b id
    refine find_path (bsf_no hb hp (in_of h) (dt (by omega)) hc ?_)
    have := hhi k p (Nat.le_refl _) hp
    simp only [beq_eq_false_iff_ne, ne_eq]
    exact fun e => by have := hc2.1 e; omega
  · exact find_path (bsf_out hb (df (by omega)))
end Go.Proofs.YtpngjeloiifgnaaGreat
