/-
  The reference's checks, and its places: right of every store. Conditions: none.
-/
import Derived.Test.YtjjmnoiffpnphaaKc
import Derived.Test.YtjjmnoiffpnphaaKd
import Derived.Test.YtjjmnoiffpnphaaKe
namespace Go.Proofs.Ytjjmnoiffpnphaa
open Go.RowKit
theorem Rv_any (a b : Int) : Pure Try.prog 34 #[certV a b] (.bool (crtB a b)) := by
  have no : ∀ {P : Prop}, ¬ P → (crtB a b = true → P) → crtB a b = false := fun h k => by
    cases e : crtB a b
    · rfl
    · exact (h (k e)).elim
  by_cases h1 : 0 ≤ a
  · by_cases h2 : a ≤ 65535
    · by_cases h3 : 0 ≤ b
      · by_cases h4 : b ≤ 65535
        · by_cases h5 : a = b
          · rw [no (P := a ≠ b) (fun h => h h5) (fun h => (crtB_iff.1 h).2.2.2.2)]
            exact rv_eq (dt h1) (dt h2) (dt h3) (dt h4) (by simpa using h5)
          · rw [crtB_iff.2 ⟨h1, h2, h3, h4, h5⟩]
            exact rv_ok (dt h1) (dt h2) (dt h3) (dt h4) (by simpa using h5)
        · rw [no h4 (fun h => (crtB_iff.1 h).2.2.2.1)]
          exact rv_4 (dt h1) (dt h2) (dt h3) (df h4)
      · rw [no h3 (fun h => (crtB_iff.1 h).2.2.1)]
        exact rv_3 (dt h1) (dt h2) (df (by omega))
    · rw [no h2 (fun h => (crtB_iff.1 h).2.1)]
      exact rv_2 (dt h1) (df h2)
  · rw [no h1 (fun h => (crtB_iff.1 h).1)]
    exact rv_1 (df (by omega))

abbrev rcT (k : Nat) : List (Nat × SV) := [(1, .pp 1 0), (3, .pv (.int .i64 (k : Int)))]
abbrev rcT2 (k j : Nat) : List (Nat × SV) := [(1, .pp 1 0), (3, .pv (.int .i64 (k : Int))), (4, .pp 2 0), (5, .pv (.int .i64 (j : Int)))]
abbrev rcH (x : Int) (l : List Pt) : List (Nat × Nat × SV) := [(1, 0, .pv (.int .i64 x)), (1, 1, .ls 0 l.length), (0, 0, rowC l)]
abbrev rcH2 (x : Int) (l : List Pt) (p : Pt) : List (Nat × Nat × SV) := [(1, 0, .pv (.int .i64 x)), (1, 1, .ls 0 l.length), (2, 0, .pv (.int .i64 p.id)), (2, 1, .pv (.int .i64 p.a)), (2, 2, .pv (.int .i64 p.b)), (0, 0, rowC l)]
theorem same_f {p q : Pt} (h : ¬ (q.a = p.a ∧ q.b = p.b)) : (q.a == p.a && (q.b == p.b && true)) = false := by
  rw [Bool.and_true]
  cases e : (q.a == p.a && q.b == p.b)
  · rfl
  · rw [Bool.and_eq_true, beq_iff_eq, beq_iff_eq] at e; exact (h e).elim
theorem same_t {p q : Pt} (h : q.a = p.a ∧ q.b = p.b) : (q.a == p.a && (q.b == p.b && true)) = true := by rw [h.1, h.2]; simp
theorem rci_step {x : Int} {l : List Pt} {p : Pt} {k : Nat} (hn : l.length ≤ 1000000) (hkl : k ≤ l.length) {j : Nat} (hj : j ≤ k) (h : ∀ i, i < j → ∀ q, l[i]? = some q → ¬ (q.a = p.a ∧ q.b = p.b)) {e : Exit} {tm2 : List (Nat × SV)} {hp2 : List (Nat × Nat × SV)}
    (r : RunsL Try.prog 1 1 (loopOf Try.prog 24 1) 78 3 (rcT2 k j) (rcH2 x l p) e tm2 hp2) : RunsL Try.prog 1 1 (loopOf Try.prog 24 1) 78 3 (rcT2 k 0) (rcH2 x l p) e tm2 hp2 := by
  refine RunsL.rounds (fun i => rcT2 k i) (fun _ => rcH2 x l p) (N := j) j 0 (Nat.zero_add _) (fun i _ hi r => ?_) r
  obtain ⟨q, hq⟩ := get_some (l := l) (k := i) (by omega)
  exact rc8i_next hq (in_of (get_lt hq)) (dt (by omega)) (same_f (h i hi q hq)) (i64_succ (by omega)) r
theorem rci_ok {x : Int} {l : List Pt} {p : Pt} {k : Nat} (hn : l.length ≤ 1000000) (hkl : k ≤ l.length) (h : ∀ i, i < k → ∀ q, l[i]? = some q → ¬ (q.a = p.a ∧ q.b = p.b)) :
    RunsL Try.prog 1 1 (loopOf Try.prog 24 1) 78 3 (rcT2 k 0) (rcH2 x l p) (.exit 2) (rcT k) (rcH x l) :=
  rci_step hn hkl (Nat.le_refl k) h (rc8i_end (df (by omega)))
theorem rci_bad {x : Int} {l : List Pt} {p : Pt} {k : Nat} (hn : l.length ≤ 1000000) (hkl : k ≤ l.length) (h : ¬ ∀ i, i < k → ∀ q, l[i]? = some q → ¬ (q.a = p.a ∧ q.b = p.b)) :
    RunsL Try.prog 1 1 (loopOf Try.prog 24 1) 78 3 (rcT2 k 0) (rcH2 x l p) .ret [(2, .pv (.int .i64 8))] [] := by
  rcases first_nat (fun i => ∀ q, l[i]? = some q → ¬ (q.a = p.a ∧ q.b = p.b)) k with h1 | ⟨j, hj, hb, hf⟩
  · exact (h h1).elim
  · simp only [Classical.not_forall, Classical.not_not] at hb
    obtain ⟨q, hq, he⟩ := hb
    exact rci_step hn hkl (by omega) hf (rc8i_hit hq (in_of (get_lt hq)) (dt (by omega)) (same_t he))
/-- What is asked of the k-th one. -/
def At8 (x : Int) (l : List Pt) (k : Nat) : Prop := ∀ p, l[k]? = some p → crtB p.a p.b = true ∧ 0 ≤ p.id ∧ p.id < x ∧ (∀ j q, k = j + 1 → l[j]? = some q → q.id < p.id) ∧ ∀ i, i < k → ∀ q, l[i]? = some q → ¬ (q.a = p.a ∧ q.b = p.b)
theorem RC8_any (x : Int) (l : List Pt) : FnL Try.prog 24 1 [crtS 0 x l] [(0, 0, rowC l)] (.pv (.int .i64 (errC x l))) 0 [] := by
  by_cases h0 : l.length ≤ 200
  · by_cases h1 : 0 ≤ x
    · by_cases h2 : x ≤ 1000000
      · have step : ∀ k, (∀ j, j < k → At8 x l j) → ∀ {e : Exit} {tm2 : List (Nat × SV)} {hp2 : List (Nat × Nat × SV)}, k ≤ l.length →
            RunsL Try.prog 1 1 (loopOf Try.prog 24 0) 78 2 (rcT k) (rcH x l) e tm2 hp2 → RunsL Try.prog 1 1 (loopOf Try.prog 24 0) 78 2 (rcT 0) (rcH x l) e tm2 hp2 := by
          intro k hk e tm2 hp2 hkl r
          refine RunsL.rounds (fun j => rcT j) (fun _ => rcH x l) (N := k) k 0 (Nat.zero_add _) (fun j _ hj r => ?_) r
          obtain ⟨p, hp⟩ := get_some (l := l) (k := j) (by omega)
          obtain ⟨a1, a2, a3, a4, a5⟩ := hk j hj p hp
          have hjl := get_lt hp
          cases j with
          | zero => exact rc8_z (hk := hp) (hin := in_of hjl) (hlt := dt (by omega)) (hv := a1 ▸ Rv_any p.a p.b) (h1 := df (by omega)) (h2 := df (by omega)) (hz := df (by omega)) (r1 := rci_ok (by omega) (by omega) a5) (hs := i64_succ (by omega)) r
          | succ i =>
            obtain ⟨q, hq⟩ := get_some (l := l) (k := i) (by omega)
            exact rc8_s (hk := hp) (hin := in_of hjl) (hlt := dt (by omega)) (hv := a1 ▸ Rv_any p.a p.b) (h1 := df (by omega)) (h2 := df (by omega)) (hz := dt (by omega)) (hq := hq) (hin0 := in_of (get_lt hq)) (hm := i64_pred i (by omega)) (hg := df (by have := a4 i q rfl hq; omega)) (r1 := rci_ok (by omega) (by omega) a5) (hs := i64_succ (by omega)) r
        rcases first_nat (At8 x l) l.length with h | ⟨j, hj, hb, hf⟩
        · have hv : V8 x l := ⟨h0, fun p hp => by
              obtain ⟨k, hk, rfl⟩ := List.getElem_of_mem hp
              exact (h k hk _ (List.getElem?_eq_getElem hk)).1, fun k p q hp hq => (h (k + 1) (get_lt hq) q hq).2.2.2.1 k p rfl hp, fun p hp => by
              obtain ⟨k, hk, rfl⟩ := List.getElem_of_mem hp
              exact (h k hk _ (List.getElem?_eq_getElem hk)).2.1, fun p hp => by
              obtain ⟨k, hk, rfl⟩ := List.getElem_of_mem hp
              exact (h k hk _ (List.getElem?_eq_getElem hk)).2.2.1, ⟨h1, h2⟩, fun i k p q hik hp hq => (h k (get_lt hq) q hq).2.2.2.2 i hik p hp⟩
          rw [errC_ok hv]
          exact rc8_ok (df (by omega)) (df (by omega)) (df (by omega)) (step l.length h (Nat.le_refl _) (rc8_end (df (by omega))))
        · rw [errC_bad fun hv => hb fun p hp => ⟨hv.ok p (List.mem_of_getElem? hp), hv.lo p (List.mem_of_getElem? hp), hv.hi p (List.mem_of_getElem? hp), fun i q e hq => by subst e; exact hv.up i q p hq hp, fun i hi q hq => hv.dis i j q p hi hq hp⟩]
          refine rc8_bad (df (by omega)) (df (by omega)) (df (by omega)) (step j hf (by omega) ?_)
          obtain ⟨p, hp⟩ := get_some hj
          by_cases c1 : crtB p.a p.b = true
          · by_cases c2 : 0 ≤ p.id
            · by_cases c3 : p.id < x
              · cases j with
                | zero => exact (hb fun p' hp' => by rw [hp] at hp'; cases hp'; exact ⟨c1, c2, c3, fun i q e => by omega, fun i hi => by omega⟩).elim
                | succ i =>
                  obtain ⟨q, hq⟩ := get_some (l := l) (k := i) (by omega)
                  by_cases c4 : q.id < p.id
                  · refine rc8_s_two (hk := hp) (hin := in_of hj) (hlt := dt (by omega)) (hv := c1 ▸ Rv_any p.a p.b) (h1 := df (by omega)) (h2 := df (by omega)) (hz := dt (by omega)) (hq := hq) (hin0 := in_of (get_lt hq)) (hm := i64_pred i (by omega)) (hg := df (by omega)) (r1 := rci_bad (by omega) (by omega) fun hno => hb fun p' hp' => ?_)
                    rw [hp] at hp'; cases hp'
                    exact ⟨c1, c2, c3, fun i' q' e hq' => by cases e; rw [hq] at hq'; cases hq'; exact c4, hno⟩
                  · exact rc8_3 (hk := hp) (hin := in_of hj) (hlt := dt (by omega)) (hv := c1 ▸ Rv_any p.a p.b) (h1 := df (by omega)) (h2 := df (by omega)) (hz := dt (by omega)) (hq := hq) (hin0 := in_of (get_lt hq)) (hm := i64_pred i (by omega)) (hg := dt (by omega))
              · exact rc8_2 (hk := hp) (hin := in_of hj) (hlt := dt (by omega)) (hv := c1 ▸ Rv_any p.a p.b) (h1 := df (by omega)) (h2 := dt (by omega))
            · exact rc8_1 (hk := hp) (hin := in_of hj) (hlt := dt (by omega)) (hv := c1 ▸ Rv_any p.a p.b) (h1 := dt (by omega))
          · have c1' : crtB p.a p.b = false := by simpa using c1
            exact rc8_0 (hk := hp) (hin := in_of hj) (hlt := dt (by omega)) (hv := c1' ▸ Rv_any p.a p.b)
      · rw [errC_bad fun h => h2 h.nx.2]
        exact rc8_big (df (by omega)) (df (by omega)) (dt (by omega))
    · rw [errC_bad fun h => h1 h.nx.1]
      exact rc8_neg (df (by omega)) (dt (by omega))
  · rw [errC_bad fun h => h0 h.len]
    exact rc8_many (dt (by omega))

theorem Twin8_any (x : Int) {l : List Pt} (hn : l.length ≤ 1000000) : FnL Try.prog 9 1 [crtS 0 x l] [(0, 0, rowC l)] (.ag [.pv (.int .i64 x), .ls 1 l.length]) 1 [(1, 0, rowC l)] := tw8_path (by omega)
/-- Where a number is, or where it would be. -/
theorem place8 {l : List Pt} (hu : Up l) (n : Int) : (∃ (k : Nat) (p : Pt), l[k]? = some p ∧ p.id = n) ∨ ((∀ p ∈ l, p.id ≠ n) ∧ ∃ k, k ≤ l.length ∧ (∀ (t : Nat) (p : Pt), t < k → l[t]? = some p → p.id < n) ∧ ∀ (t : Nat) (p : Pt), k ≤ t → l[t]? = some p → n < p.id) := by
  by_cases h : ∃ (k : Nat) (p : Pt), l[k]? = some p ∧ p.id = n
  · exact Or.inl h
  · refine Or.inr ⟨fun p hp e => ?_, ?_⟩
    · obtain ⟨k, hk, rfl⟩ := List.getElem_of_mem hp
      exact h ⟨k, _, List.getElem?_eq_getElem hk, e⟩
    · rcases first_nat (fun k => ∀ p, l[k]? = some p → p.id < n) l.length with hh | ⟨j, hj, hn, hb⟩
      · exact ⟨l.length, Nat.le_refl _, fun t p ht hp => hh t ht p hp, fun t p ht hp => by have := get_lt hp; omega⟩
      · refine ⟨j, by omega, fun t p ht hp => hb t ht p hp, fun t p ht hp => ?_⟩
        simp only [Classical.not_forall] at hn
        obtain ⟨q, hq, hlt⟩ := hn
        have hne : q.id ≠ n := fun e => h ⟨j, q, hq, e⟩
        rcases Nat.lt_or_ge j t with h' | h'
        · have := hu.mono h' hq hp; omega
        · have : t = j := by omega
          subst this
          rw [hq] at hp
          cases hp
          omega
theorem one_at {l : List Pt} (hu : Up l) {i j : Nat} {p q : Pt} (hp : l[i]? = some p) (hq : l[j]? = some q) (h : p.id = q.id) : i = j ∧ p = q := by
  rcases Nat.lt_trichotomy i j with e | e | e
  · have := hu.mono e hp hq; omega
  · subst e; rw [hp] at hq; cases hq; exact ⟨rfl, rfl⟩
  · have := hu.mono e hq hp; omega
theorem filter_at8 {l : List Pt} (hu : Up l) {k : Nat} {p : Pt} (hk : l[k]? = some p) : (l.filter fun q => decide (q.id ≠ p.id)) = l.take k ++ l.drop (k + 1) := by
  obtain ⟨hkl, e⟩ := List.getElem?_eq_some_iff.1 hk
  have h1 : l = l.take k ++ p :: l.drop (k + 1) := by rw [← e]; simp
  have h2 : ∀ q ∈ l.take k, decide (q.id ≠ p.id) = true := fun q hq => by
    obtain ⟨i, hi, hq'⟩ := mem_take hq
    have := hu.mono hi hq' hk
    exact dt (by omega)
  have h3 : ∀ q ∈ l.drop (k + 1), decide (q.id ≠ p.id) = true := fun q hq => by
    obtain ⟨i, hi, rfl⟩ := List.getElem_of_mem hq
    have hq' : l[k + 1 + i]? = some (l.drop (k + 1))[i] := by rw [← List.getElem?_drop]; exact List.getElem?_eq_getElem hi
    have := hu.mono (show k < k + 1 + i by omega) hk hq'
    exact dt (by omega)
  conv => lhs; rw [h1]
  rw [List.filter_append, List.filter_cons_of_neg (by simp), List.filter_eq_self.2 h2, List.filter_eq_self.2 h3]
theorem RAt_no (x : Int) {l : List Pt} (hn : l.length ≤ 1000000) {n : Int} (h : ∀ p ∈ l, p.id ≠ n) : FnL Try.prog 54 1 [crtS 0 x l, .pv (.int .i64 n)] [(0, 0, rowC l)] (.pv (.int .i64 (-1))) 0 [] :=
  at8_no (RunsL.rounds (fun k => [(1, .pv (.int .i64 n)), (2, .pp 1 0), (5, .pv (.int .i64 (k : Int)))]) (fun _ => rcH x l) l.length 0 (Nat.zero_add _)
    (fun k _ hk r => by
      obtain ⟨p, hp⟩ := get_some hk
      exact at8_next hp (in_of hk) (dt (by omega)) (by simpa using h p (List.mem_of_getElem? hp)) (i64_succ (by omega)) r)
    (at8_end (df (by omega))))
theorem RAt_yes (x : Int) {l : List Pt} (hn : l.length ≤ 1000000) (hu : Up l) {n : Int} {k : Nat} {p : Pt} (hk : l[k]? = some p) (he : p.id = n) : FnL Try.prog 54 1 [crtS 0 x l, .pv (.int .i64 n)] [(0, 0, rowC l)] (.pv (.int .i64 (k : Int))) 0 [] := by
  have hl := get_lt hk
  refine at8_yes (RunsL.rounds (fun k => [(1, .pv (.int .i64 n)), (2, .pp 1 0), (5, .pv (.int .i64 (k : Int)))]) (fun _ => rcH x l) k 0 (Nat.zero_add _) (fun j _ hj r => ?_) (at8_hit hk (in_of hl) (dt (by omega)) (by simpa using he)))
  obtain ⟨q, hq⟩ := get_some (l := l) (k := j) (by omega)
  exact at8_next hq (in_of (get_lt hq)) (dt (by omega)) (by have := hu.mono hj hq hk; simp; omega) (i64_succ (by omega)) r
noncomputable def hasC (l : List Pt) (a b : Int) : Bool := open Classical in decide (∃ p ∈ l, p.a = a ∧ p.b = b)
theorem hasC_iff {l : List Pt} {a b : Int} : hasC l a b = true ↔ ∃ p ∈ l, p.a = a ∧ p.b = b := by unfold hasC; exact decide_eq_true_iff
theorem hasC_no {l : List Pt} {a b : Int} (h : ∀ (k : Nat) (p : Pt), l[k]? = some p → ¬ (p.a = a ∧ p.b = b)) : hasC l a b = false := by
  cases e : hasC l a b
  · rfl
  · obtain ⟨p, hp, he⟩ := hasC_iff.1 e
    obtain ⟨k, hk, rfl⟩ := List.getElem_of_mem hp
    exact (h k _ (List.getElem?_eq_getElem hk) he).elim
theorem Has_any (x : Int) {l : List Pt} (hn : l.length ≤ 1000000) (a b : Int) : FnL Try.prog 35 1 [crtS 0 x l, .pv (certV a b)] [(0, 0, rowC l)] (.pv (.bool (hasC l a b))) 0 [] := by
  have step : ∀ k, (∀ j, j < k → ∀ p, l[j]? = some p → ¬ (p.a = a ∧ p.b = b)) → ∀ {e : Exit} {tm2 : List (Nat × SV)} {hp2 : List (Nat × Nat × SV)}, k ≤ l.length →
      RunsL Try.prog 1 1 (loopOf Try.prog 35 0) 21 3 [(2, .pp 1 0), (3, .pp 2 0), (5, .pv (.int .i64 (k : Int)))] [(1, 0, .pv (.int .i64 x)), (1, 1, .ls 0 l.length), (2, 0, .pv (.int .i64 a)), (2, 1, .pv (.int .i64 b)), (0, 0, rowC l)] e tm2 hp2 →
      RunsL Try.prog 1 1 (loopOf Try.prog 35 0) 21 3 [(2, .pp 1 0), (3, .pp 2 0), (5, .pv (.int .i64 ((0 : Nat) : Int)))] [(1, 0, .pv (.int .i64 x)), (1, 1, .ls 0 l.length), (2, 0, .pv (.int .i64 a)), (2, 1, .pv (.int .i64 b)), (0, 0, rowC l)] e tm2 hp2 := by
    intro k hk e tm2 hp2 hkl r
    refine RunsL.rounds (fun j => [(2, .pp 1 0), (3, .pp 2 0), (5, .pv (.int .i64 (j : Int)))]) (fun _ => [(1, 0, .pv (.int .i64 x)), (1, 1, .ls 0 l.length), (2, 0, .pv (.int .i64 a)), (2, 1, .pv (.int .i64 b)), (0, 0, rowC l)]) (N := k) k 0 (Nat.zero_add _) (fun j _ hj r => ?_) r
    obtain ⟨p, hp⟩ := get_some (l := l) (k := j) (by omega)
    exact hs8_next hp (in_of (get_lt hp)) (dt (by have := get_lt hp; omega)) (same_f (p := ⟨0, a, b⟩) (hk j hj p hp)) (i64_succ (by omega)) r
  rcases first_nat (fun j => ∀ p, l[j]? = some p → ¬ (p.a = a ∧ p.b = b)) l.length with h | ⟨j, hj, hb, hf⟩
  · rw [hasC_no fun k p hp => h k (get_lt hp) p hp]
    exact hs8_no (step l.length h (Nat.le_refl _) (hs8_end (df (by omega))))
  · simp only [Classical.not_forall, Classical.not_not] at hb
    obtain ⟨p, hp, he⟩ := hb
    rw [hasC_iff.2 ⟨p, List.mem_of_getElem? hp, he⟩]
    exact hs8_yes (step j hf (by omega) (hs8_hit hp (in_of hj) (dt (by omega)) (same_t (p := ⟨0, a, b⟩) he)))
theorem Wo8_any (x : Int) {l : List Pt} (hn : l.length ≤ 210) (n : Int) : FnL Try.prog 53 1 [crtS 0 x l, .pv (.int .i64 n)] [(0, 0, rowC l)] (.ag [.pv (.int .i64 x), .ls 1 (l.filter fun p => decide (p.id ≠ n)).length]) 1 [(1, 0, rowC (l.filter fun p => decide (p.id ≠ n)))] := by
  refine wo8_path ?_
  have := RunsL.rounds (P := Try.prog) (lo := 1) (fr := 1) (c := loopOf Try.prog 53 0) (n := 36) (nb := 5) (fun k => [(1, .pv (.int .i64 n)), (2, .pp 1 0), (4, .pp 2 0), (5, .pp 3 0), (6, .pv (.int .i64 (k : Int)))])
    (fun k => [(1, 0, .pv (.int .i64 x)), (1, 1, .ls 0 l.length), (0, 0, rowC l), (3, 0, .pv (.int .i64 x)), (3, 1, .ls 4 ((l.take k).filter fun p => decide (p.id ≠ n)).length), (4, 0, rowC ((l.take k).filter fun p => decide (p.id ≠ n))), (2, 0, .pv (.int .i64 0)), (2, 1, .pv (.slice none 0 0))])
    (e := .exit 0) (tm2 := [(4, .pp 2 0), (5, .pp 3 0)]) (hp2 := [(1, 0, .pv (.int .i64 x)), (1, 1, .ls 0 l.length), (0, 0, rowC l), (3, 0, .pv (.int .i64 x)), (3, 1, .ls 4 (l.filter fun p => decide (p.id ≠ n)).length), (4, 0, rowC (l.filter fun p => decide (p.id ≠ n))), (2, 0, .pv (.int .i64 0)), (2, 1, .pv (.slice none 0 0))])
    l.length 0 (Nat.zero_add _) (fun k _ hk r => ?_) (by rw [List.take_length]; exact wo8_end (df (by omega)))
  · simpa using this
  · obtain ⟨p, hp⟩ := get_some hk
    rw [take_succ hp, List.filter_append] at r
    have hlen : ((l.take k).filter fun p => decide (p.id ≠ n)).length ≤ l.length := Nat.le_trans (List.length_filter_le _ _) (by simp; omega)
    by_cases hne : p.id = n
    · rw [List.filter_cons_of_neg (by simp [hne]), List.filter_nil, List.append_nil] at r
      exact wo8_skip hp (in_of hk) (dt (by omega)) (by simp [hne]) (i64_succ (by omega)) r
    · rw [List.filter_cons_of_pos (by simp [hne]), List.filter_nil] at r
      exact wo8_keep hp (in_of hk) (dt (by omega)) (by simp [hne]) (by omega) (i64_succ (by omega)) r
end Go.Proofs.Ytjjmnoiffpnphaa
