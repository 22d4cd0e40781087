/-
  What the functions of package field and its reference return, for a list of points whatever: checking, finding. Conditions: none.
-/
import Derived.Test.YtjjmnoiffpnphaaW29
namespace Go.Proofs.Ytjjmnoiffpnphaa
open Go.RowKit
def okPt (p : Pt) : Bool := okP p.id p.a p.b
def Up (l : List Pt) : Prop := ∀ (k : Nat) (p q : Pt), l[k]? = some p → l[k + 1]? = some q → p.id < q.id
noncomputable def errL (l : List Pt) : Int := open Classical in if 64 < l.length then 4 else if ∀ p ∈ l, okPt p = true then (if Up l then 0 else 32) else 8
theorem first_nat (P : Nat → Prop) : ∀ (N : Nat), (∀ k, k < N → P k) ∨ ∃ j, j < N ∧ ¬ P j ∧ ∀ i, i < j → P i
  | 0 => Or.inl fun k hk => by omega
  | N + 1 => by
    rcases first_nat P N with h | ⟨j, h1, h2⟩
    · by_cases hN : P N
      · exact Or.inl fun k hk => by
          rcases Nat.lt_or_ge k N with h' | h'
          · exact h k h'
          · have : k = N := by omega
            subst this; exact hN
      · exact Or.inr ⟨N, by omega, hN, h⟩
    · exact Or.inr ⟨j, by omega, h2⟩
theorem get_some {α : Type} {l : List α} {k : Nat} (h : k < l.length) : ∃ p, l[k]? = some p := ⟨l[k], List.getElem?_eq_getElem h⟩
theorem get_lt {α : Type} {l : List α} {k : Nat} {p : α} (h : l[k]? = some p) : k < l.length := (List.getElem?_eq_some_iff.1 h).1
theorem in_of {k n : Nat} (h : k < n) : 0 ≤ (k : Int) ∧ (k : Int) < (n : Int) := ⟨by omega, by omega⟩
theorem Up.mono {l : List Pt} (h : Up l) : ∀ {i j : Nat} {p q : Pt}, i < j → l[i]? = some p → l[j]? = some q → p.id < q.id := by
  intro i j
  induction j with
  | zero => intro p q hij; omega
  | succ j ih =>
    intro p q hij hp hq
    by_cases e : i = j
    · subst e; exact h i p q hp hq
    · obtain ⟨r, hr⟩ := get_some (l := l) (k := j) (by have := get_lt hq; omega)
      exact Int.lt_trans (ih (by omega) hp hr) (h j r q hr hq)
theorem i64s {k n : Nat} (h : k < n) (hn : n ≤ 64) : Value.int .i64 (IntKind.i64.wrap ((k : Int) + 1)) = .int .i64 ((k + 1 : Nat) : Int) := i64_succ (by omega)

theorem kc_loop0 {l : List Pt} (hn : l.length ≤ 64) (h : ∀ p ∈ l, okPt p = true) : RunsL Try.prog 1 1 (loopOf Try.prog 57 0) 44 2 [(1, .pp 1 0), (3, .pv (.int .i64 ((0 : Nat) : Int)))] [(1, 0, .ls 0 l.length), (0, 0, rowP l)] (.exit 0) [(1, .pp 1 0)] [(1, 0, .ls 0 l.length), (0, 0, rowP l)] :=
  RunsL.rounds (fun k => [(1, .pp 1 0), (3, .pv (.int .i64 (k : Int)))]) (fun _ => [(1, 0, .ls 0 l.length), (0, 0, rowP l)]) l.length 0 (Nat.zero_add _)
    (fun k _ hk r => by
      obtain ⟨p, hp⟩ := get_some hk
      exact kc0_next hp (in_of hk) (dt (by omega)) (RCheck02_ok (h p (List.mem_of_getElem? hp))) (i64s hk hn) r)
    (kc0_end (df (by omega)))
theorem kc_loop0_bad {l : List Pt} (hn : l.length ≤ 64) {j : Nat} {p : Pt} (hp : l[j]? = some p) (hb : ¬ okPt p = true) (h : ∀ i, i < j → ∀ q, l[i]? = some q → okPt q = true) : RunsL Try.prog 1 1 (loopOf Try.prog 57 0) 44 2 [(1, .pp 1 0), (3, .pv (.int .i64 ((0 : Nat) : Int)))] [(1, 0, .ls 0 l.length), (0, 0, rowP l)] .ret [(2, .pv (.int .i64 8))] [] := by
  have hj := get_lt hp
  refine RunsL.rounds (fun k => [(1, .pp 1 0), (3, .pv (.int .i64 (k : Int)))]) (fun _ => [(1, 0, .ls 0 l.length), (0, 0, rowP l)]) j 0 (Nat.zero_add _) (fun k _ hk r => ?_) (kc0_bad hp (in_of hj) (dt (by omega)) (RCheck02_bad hb))
  obtain ⟨q, hq⟩ := get_some (l := l) (k := k) (by omega)
  exact kc0_next hq (in_of (get_lt hq)) (dt (by omega)) (RCheck02_ok (h k hk q hq)) (i64s (get_lt hq) hn) r
theorem i64_pred (k : Nat) (h : k ≤ 1000000) : Value.int .i64 (IntKind.i64.wrap (((k + 1 : Nat) : Int) - 1)) = .int .i64 (k : Int) := by rw [show ((k + 1 : Nat) : Int) - 1 = (k : Int) by omega, wrap_i64_in (by omega) (by omega)]
theorem kc_loop1 {l : List Pt} (hn : l.length ≤ 64) (h : Up l) : RunsL Try.prog 1 1 (loopOf Try.prog 57 1) 44 2 [(1, .pp 1 0), (4, .pv (.int .i64 ((0 + 1 : Nat) : Int)))] [(1, 0, .ls 0 l.length), (0, 0, rowP l)] (.exit 2) [] [] := by
  by_cases h0 : l.length = 0
  · exact kc1_end (k := 0 + 1) (df (by omega))
  refine RunsL.rounds (fun k => [(1, .pp 1 0), (4, .pv (.int .i64 (k : Int)))]) (fun _ => [(1, 0, .ls 0 l.length), (0, 0, rowP l)]) (N := l.length) (l.length - 1) (0 + 1) (by omega) (fun k h1 hk r => ?_) (kc1_end (df (by omega)))
  obtain ⟨m, rfl⟩ : ∃ m, k = m + 1 := ⟨k - 1, by omega⟩
  obtain ⟨q, hq⟩ := get_some (l := l) (k := m) (by omega)
  obtain ⟨p, hp⟩ := get_some hk
  exact kc1_next hq hp (in_of (by omega)) (in_of hk) (dt (by omega)) (i64_pred m (by omega)) (df (by have := h m q p hq hp; omega)) (i64s hk hn) r
theorem kc_loop1_bad {l : List Pt} (hn : l.length ≤ 64) {j : Nat} {p q : Pt} (hq : l[j]? = some q) (hp : l[j + 1]? = some p) (hb : ¬ q.id < p.id) (h : ∀ i, i < j → ∀ p q, l[i]? = some p → l[i + 1]? = some q → p.id < q.id) : RunsL Try.prog 1 1 (loopOf Try.prog 57 1) 44 2 [(1, .pp 1 0), (4, .pv (.int .i64 ((0 + 1 : Nat) : Int)))] [(1, 0, .ls 0 l.length), (0, 0, rowP l)] .ret [(2, .pv (.int .i64 32))] [] := by
  have hj := get_lt hp
  refine RunsL.rounds (fun k => [(1, .pp 1 0), (4, .pv (.int .i64 (k : Int)))]) (fun _ => [(1, 0, .ls 0 l.length), (0, 0, rowP l)]) (N := j + 1) j (0 + 1) (by omega) (fun k h1 hk r => ?_) (kc1_bad hq hp (in_of (by omega)) (in_of hj) (dt (by omega)) (i64_pred j (by omega)) (dt (by omega)))
  obtain ⟨m, rfl⟩ : ∃ m, k = m + 1 := ⟨k - 1, by omega⟩
  obtain ⟨q', hq'⟩ := get_some (l := l) (k := m) (by omega)
  obtain ⟨p', hp'⟩ := get_some (l := l) (k := m + 1) (by omega)
  exact kc1_next hq' hp' (in_of (by omega)) (in_of (by omega)) (dt (by omega)) (i64_pred m (by omega)) (df (by have := h m (by omega) q' p' hq' hp'; omega)) (i64s (n := l.length) (by omega) hn) r
theorem err_cases (l : List Pt) : (64 < l.length ∧ errL l = 4) ∨ (l.length ≤ 64 ∧ (∃ (j : Nat) (p : Pt), l[j]? = some p ∧ ¬ okPt p = true ∧ ∀ i, i < j → ∀ q, l[i]? = some q → okPt q = true) ∧ errL l = 8) ∨
    (l.length ≤ 64 ∧ (∀ p ∈ l, okPt p = true) ∧ (∃ (j : Nat) (p q : Pt), l[j]? = some q ∧ l[j + 1]? = some p ∧ ¬ q.id < p.id ∧ ∀ i, i < j → ∀ p q, l[i]? = some p → l[i + 1]? = some q → p.id < q.id) ∧ errL l = 32) ∨
    (l.length ≤ 64 ∧ (∀ p ∈ l, okPt p = true) ∧ Up l ∧ errL l = 0) := by
  by_cases h0 : 64 < l.length
  · exact Or.inl ⟨h0, by unfold errL; rw [if_pos h0]⟩
  refine Or.inr ?_
  by_cases h1 : ∀ p ∈ l, okPt p = true
  · refine Or.inr ?_
    by_cases h2 : Up l
    · exact Or.inr ⟨by omega, h1, h2, by unfold errL; rw [if_neg h0, if_pos h1, if_pos h2]⟩
    · refine Or.inl ⟨by omega, h1, ?_, by unfold errL; rw [if_neg h0, if_pos h1, if_neg h2]⟩
      rcases first_nat (fun k => ∀ p q, l[k]? = some p → l[k + 1]? = some q → p.id < q.id) l.length with h | ⟨j, hj, hn, hb⟩
      · exact (h2 fun k p q hp hq => h k (get_lt hp) p q hp hq).elim
      · simp only [Classical.not_forall, not_imp] at hn
        obtain ⟨p, q, hp, hq, hpq⟩ := hn
        exact ⟨j, q, p, hp, hq, hpq, hb⟩
  · refine Or.inl ⟨by omega, ?_, by unfold errL; rw [if_neg h0, if_neg h1]⟩
    rcases first_nat (fun k => ∀ q, l[k]? = some q → okPt q = true) l.length with h | ⟨j, hj, hn, hb⟩
    · exact (h1 fun p hp => by obtain ⟨k, hk, rfl⟩ := List.getElem_of_mem hp; exact h k hk _ (List.getElem?_eq_getElem hk)).elim
    · simp only [Classical.not_forall, not_imp] at hn
      obtain ⟨p, hp, hpq⟩ := hn
      exact ⟨j, p, hp, hpq, hb⟩
theorem RCheck_any (l : List Pt) : FnL Try.prog 57 1 [fldS 0 l] [(0, 0, rowP l)] (.pv (.int .i64 (errL l))) 0 [] := by
  rcases err_cases l with ⟨h, e⟩ | ⟨h, ⟨j, p, hp, hb, hf⟩, e⟩ | ⟨h, h1, ⟨j, p, q, hq, hp, hb, hf⟩, e⟩ | ⟨h, h1, h2, e⟩ <;> rw [e]
  · exact kc_many (dt (by omega))
  · exact kc_bad (df (by omega)) (kc_loop0_bad h hp hb hf)
  · exact kc_ord (df (by omega)) (kc_loop0 h h1) (kc_loop1_bad h hq hp hb hf)
  · exact kc_ok (df (by omega)) (kc_loop0 h h1) (kc_loop1 h h2)
abbrev pcT (l : List Pt) (k : Nat) : List (Nat × SV) := [(1, .pp 1 0), (12, .ls 0 l.length), (13, .pv (.int .i64 (l.length : Int))), (14, .pv (.int .i64 (k : Int)))]
theorem pc_loop0 {l : List Pt} (hn : l.length ≤ 64) (h : ∀ p ∈ l, okPt p = true) : RunsL Try.prog 1 1 (loopOf Try.prog 46 0) 45 2 (pcT l 0) [(1, 0, .ls 0 l.length), (0, 0, rowP l)] (.exit 0) [(1, .pp 1 0)] [(1, 0, .ls 0 l.length), (0, 0, rowP l)] :=
  RunsL.rounds (pcT l) (fun _ => [(1, 0, .ls 0 l.length), (0, 0, rowP l)]) l.length 0 (Nat.zero_add _)
    (fun k _ hk r => by
      obtain ⟨p, hp⟩ := get_some hk
      exact pc0_next hp (in_of hk) (dt (by omega)) (Check02_ok (h p (List.mem_of_getElem? hp))) (i64s hk hn) r)
    (pc0_end (df (by omega)))
theorem pc_loop0_bad {l : List Pt} (hn : l.length ≤ 64) {j : Nat} {p : Pt} (hp : l[j]? = some p) (hb : ¬ okPt p = true) (h : ∀ i, i < j → ∀ q, l[i]? = some q → okPt q = true) : RunsL Try.prog 1 1 (loopOf Try.prog 46 0) 45 2 (pcT l 0) [(1, 0, .ls 0 l.length), (0, 0, rowP l)] .ret [(2, .pv (.int .i64 8))] [] := by
  have hj := get_lt hp
  refine RunsL.rounds (pcT l) (fun _ => [(1, 0, .ls 0 l.length), (0, 0, rowP l)]) j 0 (Nat.zero_add _) (fun k _ hk r => ?_) (pc0_bad hp (in_of hj) (dt (by omega)) (Check02_bad hb))
  obtain ⟨q, hq⟩ := get_some (l := l) (k := k) (by omega)
  exact pc0_next hq (in_of (get_lt hq)) (dt (by omega)) (Check02_ok (h k hk q hq)) (i64s (get_lt hq) hn) r
theorem pc_loop1 {l : List Pt} (hn : l.length ≤ 64) (h : Up l) : RunsL Try.prog 1 1 (loopOf Try.prog 46 1) 45 2 [(1, .pp 1 0), (6, .pv (.int .i64 ((0 + 1 : Nat) : Int)))] [(1, 0, .ls 0 l.length), (0, 0, rowP l)] (.exit 2) [] [] := by
  by_cases h0 : l.length = 0
  · exact pc1_end (k := 0 + 1) (df (by omega))
  refine RunsL.rounds (fun k => [(1, .pp 1 0), (6, .pv (.int .i64 (k : Int)))]) (fun _ => [(1, 0, .ls 0 l.length), (0, 0, rowP l)]) (N := l.length) (l.length - 1) (0 + 1) (by omega) (fun k h1 hk r => ?_) (pc1_end (df (by omega)))
  obtain ⟨m, rfl⟩ : ∃ m, k = m + 1 := ⟨k - 1, by omega⟩
  obtain ⟨q, hq⟩ := get_some (l := l) (k := m) (by omega)
  obtain ⟨p, hp⟩ := get_some hk
  exact pc1_next hq hp (in_of (by omega)) (in_of hk) (dt (by omega)) (i64_pred m (by omega)) (df (by have := h m q p hq hp; omega)) (i64s hk hn) r
theorem pc_loop1_bad {l : List Pt} (hn : l.length ≤ 64) {j : Nat} {p q : Pt} (hq : l[j]? = some q) (hp : l[j + 1]? = some p) (hb : ¬ q.id < p.id) (h : ∀ i, i < j → ∀ p q, l[i]? = some p → l[i + 1]? = some q → p.id < q.id) : RunsL Try.prog 1 1 (loopOf Try.prog 46 1) 45 2 [(1, .pp 1 0), (6, .pv (.int .i64 ((0 + 1 : Nat) : Int)))] [(1, 0, .ls 0 l.length), (0, 0, rowP l)] .ret [(2, .pv (.int .i64 32))] [] := by
  have hj := get_lt hp
  refine RunsL.rounds (fun k => [(1, .pp 1 0), (6, .pv (.int .i64 (k : Int)))]) (fun _ => [(1, 0, .ls 0 l.length), (0, 0, rowP l)]) (N := j + 1) j (0 + 1) (by omega) (fun k h1 hk r => ?_) (pc1_bad hq hp (in_of (by omega)) (in_of hj) (dt (by omega)) (i64_pred j (by omega)) (dt (by omega)))
  obtain ⟨m, rfl⟩ : ∃ m, k = m + 1 := ⟨k - 1, by omega⟩
  obtain ⟨q', hq'⟩ := get_some (l := l) (k := m) (by omega)
  obtain ⟨p', hp'⟩ := get_some (l := l) (k := m + 1) (by omega)
  exact pc1_next hq' hp' (in_of (by omega)) (in_of (by omega)) (dt (by omega)) (i64_pred m (by omega)) (df (by have := h m (by omega) q' p' hq' hp'; omega)) (i64s (n := l.length) (by omega) hn) r
theorem PCheck_any (l : List Pt) : FnL Try.prog 46 1 [fldS 0 l] [(0, 0, rowP l)] (.pv (.int .i64 (errL l))) 0 [] := by
  rcases err_cases l with ⟨h, e⟩ | ⟨h, ⟨j, p, hp, hb, hf⟩, e⟩ | ⟨h, h1, ⟨j, p, q, hq, hp, hb, hf⟩, e⟩ | ⟨h, h1, h2, e⟩ <;> rw [e]
  · exact pc_many (dt (by omega))
  · exact pc_bad (df (by omega)) (pc_loop0_bad h hp hb hf)
  · exact pc_ord (df (by omega)) (pc_loop0 h h1) (pc_loop1_bad h hq hp hb hf)
  · exact pc_ok (df (by omega)) (pc_loop0 h h1) (pc_loop1 h h2)

structure Val (l : List Pt) : Prop where
  len : l.length ≤ 64
  ok : ∀ p ∈ l, okPt p = true
  up : Up l
theorem err_val {l : List Pt} : errL l = 0 ↔ Val l := by
  rcases err_cases l with ⟨h, e⟩ | ⟨h, ⟨j, p, hp, hb, hf⟩, e⟩ | ⟨h, h1, ⟨j, p, q, hq, hp, hb, hf⟩, e⟩ | ⟨h, h1, h2, e⟩ <;> rw [e]
  · exact ⟨fun h => by omega, fun v => by have := v.len; omega⟩
  · exact ⟨fun h => by omega, fun v => (hb (v.ok p (List.mem_of_getElem? hp))).elim⟩
  · exact ⟨fun h => by omega, fun v => (hb (v.up j q p hq hp)).elim⟩
  · exact ⟨fun _ => ⟨h, h1, h2⟩, fun _ => rfl⟩
/-- Where an ID is, or where it would be. -/
theorem place (l : List Pt) (hv : Val l) (id : Int) : (∃ (k : Nat) (p : Pt), l[k]? = some p ∧ p.id = id) ∨ ((∀ p ∈ l, p.id ≠ id) ∧ ∃ k, k ≤ l.length ∧ (∀ (t : Nat) (p : Pt), t < k → l[t]? = some p → p.id < id) ∧ ∀ (t : Nat) (p : Pt), k ≤ t → l[t]? = some p → id < p.id) := by
  by_cases h : ∃ (k : Nat) (p : Pt), l[k]? = some p ∧ p.id = id
  · exact Or.inl h
  · refine Or.inr ⟨fun p hp e => ?_, ?_⟩
    · obtain ⟨k, hk, rfl⟩ := List.getElem_of_mem hp
      exact h ⟨k, _, List.getElem?_eq_getElem hk, e⟩
    · rcases first_nat (fun k => ∀ p, l[k]? = some p → p.id < id) l.length with hh | ⟨j, hj, hn, hb⟩
      · exact ⟨l.length, Nat.le_refl _, fun t p ht hp => hh t ht p hp, fun t p ht hp => by have := get_lt hp; omega⟩
      · refine ⟨j, by omega, fun t p ht hp => hb t ht p hp, fun t p ht hp => ?_⟩
        simp only [Classical.not_forall, not_imp] at hn
        obtain ⟨q, hq, hlt⟩ := hn
        have hne : q.id ≠ id := fun e => h ⟨j, q, hq, e⟩
        rcases Nat.lt_or_ge j t with h' | h'
        · have := hv.up.mono h' hq hp; omega
        · have : t = j := by omega
          subst this
          rw [hq] at hp
          cases hp
          omega

abbrev atT (id : Int) (k : Nat) : List (Nat × SV) := [(1, .pv (.int .i64 id)), (2, .pp 1 0), (5, .pv (.int .i64 (k : Int)))]
theorem At_no {l : List Pt} (hn : l.length ≤ 64) {id : Int} (h : ∀ p ∈ l, p.id ≠ id) : FnL Try.prog 37 1 [fldS 0 l, .pv (.int .i64 id)] [(0, 0, rowP l)] (.pv (.int .i64 (-1))) 0 [] :=
  at_no (RunsL.rounds (atT id) (fun _ => [(1, 0, .ls 0 l.length), (0, 0, rowP l)]) l.length 0 (Nat.zero_add _)
    (fun k _ hk r => by
      obtain ⟨p, hp⟩ := get_some hk
      exact at_next hp (in_of hk) (dt (by omega)) (by simpa using h p (List.mem_of_getElem? hp)) (i64s hk hn) r)
    (at_end (df (by omega))))
theorem At_yes {l : List Pt} (hv : Val l) {id : Int} {k : Nat} {p : Pt} (hk : l[k]? = some p) (he : p.id = id) : FnL Try.prog 37 1 [fldS 0 l, .pv (.int .i64 id)] [(0, 0, rowP l)] (.pv (.int .i64 (k : Int))) 0 [] := by
  refine at_yes (RunsL.rounds (atT id) (fun _ => [(1, 0, .ls 0 l.length), (0, 0, rowP l)]) k 0 (Nat.zero_add _) (fun j _ hj r => ?_) (at_hit hk (in_of (get_lt hk)) (dt (by have := get_lt hk; omega)) (by simpa using he)))
  have hl := get_lt hk
  obtain ⟨q, hq⟩ := get_some (l := l) (k := j) (by omega)
  exact at_next hq (in_of (get_lt hq)) (dt (by omega)) (by have := hv.up.mono hj hq hk; simp; omega) (i64s (get_lt hq) hv.len) r
end Go.Proofs.Ytjjmnoiffpnphaa
