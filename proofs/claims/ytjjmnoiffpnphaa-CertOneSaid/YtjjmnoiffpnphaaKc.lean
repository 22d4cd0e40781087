/-
  Check of package cert: it is right of every store. Conditions: none.
-/
import Derived.Test.YtjjmnoiffpnphaaKb
namespace Go.Proofs.Ytjjmnoiffpnphaa
open Go.RowKit
theorem ID_any (a : Int) : ∃ b, Pure Try.prog 84 #[.int .i64 a] (.bool b) ∧ (b = true ↔ 0 ≤ a ∧ a ≤ 65535) := by
  by_cases h0 : 0 ≤ a
  · by_cases h1 : a ≤ 65535
    · exact ⟨true, id_ok (dt h0) (dt h1), ⟨fun _ => ⟨h0, h1⟩, fun _ => rfl⟩⟩
    · exact ⟨false, id_hi (dt h0) (df h1), ⟨fun h => (by cases h), fun h => (h1 h.2).elim⟩⟩
  · exact ⟨false, id_lo (df h0), ⟨fun h => (by cases h), fun h => (h0 h.1).elim⟩⟩
theorem Iv_any (a b : Int) : Pure Try.prog 63 #[certV a b] (.bool (crtB a b)) := by
  obtain ⟨u, hu, hu2⟩ := ID_any a
  obtain ⟨v, hv, hv2⟩ := ID_any b
  cases u
  · rw [show crtB a b = false by
      cases h : crtB a b
      · rfl
      · have := crtB_iff.1 h; have := hu2.2 ⟨this.1, this.2.1⟩; cases this]
    exact iv_a hu
  · cases v
    · rw [show crtB a b = false by
        cases h : crtB a b
        · rfl
        · have := crtB_iff.1 h; have := hv2.2 ⟨this.2.2.1, this.2.2.2.1⟩; cases this]
      exact iv_b hu hv
    · have h1 := hu2.1 rfl
      have h2 := hv2.1 rfl
      by_cases hab : a = b
      · rw [show crtB a b = false by
          cases h : crtB a b
          · rfl
          · exact ((crtB_iff.1 h).2.2.2.2 hab).elim]
        exact iv_eq hu hv (by simpa using hab)
      · rw [crtB_iff.2 ⟨h1.1, h1.2, h2.1, h2.2, hab⟩]
        exact iv_ok hu hv (by simpa using hab)

def lst (m : List Pt) : Int := match m.getLast? with
  | none => -1
  | some p => p.id
theorem lst_nil : lst [] = -1 := rfl
theorem lst_snoc (m : List Pt) (p : Pt) : lst (m ++ [p]) = p.id := by simp [lst]
abbrev nfT (l : List Pt) (k : Nat) (y : Int) : List (Nat × SV) := [(1, .pp 1 0), (3, .pv (.int .i64 (y))), (7, .ls 0 l.length), (8, .pv (.int .i64 (l.length : Int))), (9, .pv (.int .i64 (k : Int)))]
abbrev nfH (x : Int) (l : List Pt) : List (Nat × Nat × SV) := [(1, 0, .pv (.int .i64 x)), (1, 1, .ls 0 l.length), (0, 0, rowC l)]
/-- The numbers increase from 0 on. -/
def Inc (l : List Pt) : Prop := ∀ (k : Nat) (p : Pt), l[k]? = some p → lst (l.take k) < p.id
theorem Inc.up {l : List Pt} (h : Inc l) : Up l := fun k p q hp hq => by
  have := h (k + 1) q hq
  rw [take_succ hp, lst_snoc] at this
  exact this
theorem Inc.lo {l : List Pt} (h : Inc l) : ∀ p ∈ l, 0 ≤ p.id := by
  have key : ∀ (k : Nat) (p : Pt), l[k]? = some p → 0 ≤ p.id := by
    intro k
    induction k with
    | zero => intro p hp; have := h 0 p hp; rw [List.take_zero, lst_nil] at this; omega
    | succ k ih =>
      intro p hp
      obtain ⟨q, hq⟩ := get_some (l := l) (k := k) (by have := get_lt hp; omega)
      have := ih q hq
      have := h.up k q p hq hp
      omega
  intro p hp
  obtain ⟨k, hk, rfl⟩ := List.getElem_of_mem hp
  exact key k _ (List.getElem?_eq_getElem hk)
theorem Inc.of {l : List Pt} (h : Up l) (h0 : ∀ p ∈ l, 0 ≤ p.id) : Inc l := fun k p hp => by
  cases k with
  | zero => rw [List.take_zero, lst_nil]; have := h0 p (List.mem_of_getElem? hp); omega
  | succ k =>
    obtain ⟨q, hq⟩ := get_some (l := l) (k := k) (by have := get_lt hp; omega)
    rw [take_succ hq, lst_snoc]
    exact h k q p hq hp
theorem Inc.lt {l : List Pt} (h : Inc l) {x : Int} : lst l < x ↔ (∀ p ∈ l, p.id < x) ∧ 0 ≤ x := by
  have hup := h.up
  have hlo := h.lo
  rcases List.eq_nil_or_concat l with rfl | ⟨m, q, rfl⟩
  · rw [lst_nil]; exact ⟨fun h => ⟨fun p hp => by simp at hp, by omega⟩, fun h => by omega⟩
  · rw [List.concat_eq_append, lst_snoc]
    rw [List.concat_eq_append] at hup hlo
    refine ⟨fun hx => ⟨fun p hp => ?_, by have := hlo q (by simp); omega⟩, fun hx => hx.1 q (by simp)⟩
    obtain ⟨k, hk, rfl⟩ := List.getElem_of_mem hp
    rcases Nat.lt_or_ge k m.length with h1 | h1
    · have := hup.mono h1 (List.getElem?_eq_getElem hk) (show (m ++ [q])[m.length]? = some q by simp)
      omega
    · have hkm : k = m.length := by simp at hk; omega
      subst hkm
      simpa using hx
theorem NF_any (x : Int) {l : List Pt} (hn : l.length ≤ 1000000) : ∃ b, FnL Try.prog 51 1 [crtS 0 x l] [(0, 0, rowC l)] (.pv (.bool b)) 0 [] ∧ (b = true ↔ Inc l ∧ (∀ p ∈ l, p.id < x) ∧ 0 ≤ x ∧ x ≤ 1000000) := by
  have step : ∀ k, (∀ j, j < k → ∀ p, l[j]? = some p → lst (l.take j) < p.id) → ∀ {e : Exit} {tm2 : List (Nat × SV)} {hp2 : List (Nat × Nat × SV)}, k ≤ l.length →
      RunsL Try.prog 1 1 (loopOf Try.prog 51 0) 29 2 (nfT l k (lst (l.take k))) (nfH x l) e tm2 hp2 → RunsL Try.prog 1 1 (loopOf Try.prog 51 0) 29 2 (nfT l 0 (-1)) (nfH x l) e tm2 hp2 := by
    intro k hk e tm2 hp2 hkl r
    refine RunsL.rounds (fun j => nfT l j (lst (l.take j))) (fun _ => nfH x l) (N := k) k 0 (Nat.zero_add _) (fun j _ hj r => ?_) r
    obtain ⟨p, hp⟩ := get_some (l := l) (k := j) (by omega)
    refine nf_next hp (in_of (get_lt hp)) (dt (by have := get_lt hp; omega)) (df (by have := hk j hj p hp; omega)) (i64_succ (by omega)) ?_
    have e1 : lst (l.take (j + 1)) = p.id := by rw [take_succ hp, lst_snoc]
    rw [← e1]
    exact r
  rcases first_nat (fun j => ∀ p, l[j]? = some p → lst (l.take j) < p.id) l.length with h | ⟨j, hj, hb, hf⟩
  · have hi : Inc l := fun k p hp => h k (get_lt hp) p hp
    have hend := step l.length (fun j hj => h j hj) (Nat.le_refl _) (e := .exit 0) (nf_end (df (by omega)))
    rw [List.take_length] at hend
    by_cases h1 : lst l < x
    · by_cases h2 : x ≤ 1000000
      · exact ⟨true, nf_ok hend (dt h1) (dt h2), ⟨fun _ => ⟨hi, (hi.lt.1 h1).1, (hi.lt.1 h1).2, h2⟩, fun _ => rfl⟩⟩
      · exact ⟨false, nf_hi hend (dt h1) (df h2), ⟨fun h => (by cases h), fun h => (h2 h.2.2.2).elim⟩⟩
    · exact ⟨false, nf_lo hend (df h1), ⟨fun h => (by cases h), fun h => (h1 (hi.lt.2 ⟨h.2.1, h.2.2.1⟩)).elim⟩⟩
  · simp only [Classical.not_forall, not_imp] at hb
    obtain ⟨p, hp, hlt⟩ := hb
    exact ⟨false, nf_no (step j hf (by omega) (nf_bad hp (in_of (get_lt hp)) (dt (by omega)) (dt (by omega)))), ⟨fun h => (by cases h), fun h => (hlt (h.1 j p hp)).elim⟩⟩

abbrev cfT (l : List Pt) (k : Nat) : List (Nat × SV) := [(3, .mp 1), (9, .ls 0 l.length), (10, .pv (.int .i64 (l.length : Int))), (11, .pv (.int .i64 (k : Int)))]
abbrev cfH (l m : List Pt) : List (Nat × Nat × SV) := [(1, 0, .mrow (seenV (m))), (0, 0, rowC l)]
theorem mem_take {l : List Pt} {k : Nat} {q : Pt} (h : q ∈ l.take k) : ∃ i, i < k ∧ l[i]? = some q := by
  obtain ⟨i, hi, rfl⟩ := List.getElem_of_mem h
  have hi' : i < k ∧ i < l.length := by simp at hi; omega
  exact ⟨i, hi'.1, by rw [List.getElem_take]; exact List.getElem?_eq_getElem hi'.2⟩
theorem take_mem {l : List Pt} {i k : Nat} {q : Pt} (h : l[i]? = some q) (hik : i < k) : q ∈ l.take k := List.mem_of_getElem? (i := i) (by rw [List.getElem?_take, if_pos hik]; exact h)
theorem CF_any {l : List Pt} (hn : l.length ≤ 1000000) : ∃ b, FnL Try.prog 52 1 [.ls 0 l.length] [(0, 0, rowC l)] (.pv (.bool b)) 0 [] ∧ (b = true ↔ (∀ p ∈ l, crtB p.a p.b = true) ∧ Dis l) := by
  have step : ∀ k, (∀ j, j < k → ∀ p, l[j]? = some p → crtB p.a p.b = true ∧ ∀ q ∈ l.take j, ¬ (q.a = p.a ∧ q.b = p.b)) → ∀ {e : Exit} {tm2 : List (Nat × SV)} {hp2 : List (Nat × Nat × SV)}, k ≤ l.length →
      RunsL Try.prog 1 1 (loopOf Try.prog 52 0) 29 2 (cfT l k) (cfH l (l.take k)) e tm2 hp2 → RunsL Try.prog 1 1 (loopOf Try.prog 52 0) 29 2 (cfT l 0) (cfH l []) e tm2 hp2 := by
    intro k hk e tm2 hp2 hkl r
    refine RunsL.rounds (fun j => cfT l j) (fun j => cfH l (l.take j)) (N := k) k 0 (Nat.zero_add _) (fun j _ hj r => ?_) r
    obtain ⟨p, hp⟩ := get_some (l := l) (k := j) (by omega)
    obtain ⟨h1, h2⟩ := hk j hj p hp
    refine cf_next hp (in_of (get_lt hp)) (dt (by have := get_lt hp; omega)) (h1 ▸ Iv_any p.a p.b) (seen_no h2) (seen_put h2) (i64_succ (by omega)) ?_
    rw [← take_succ hp]
    exact r
  rcases first_nat (fun j => ∀ p, l[j]? = some p → crtB p.a p.b = true ∧ ∀ q ∈ l.take j, ¬ (q.a = p.a ∧ q.b = p.b)) l.length with h | ⟨j, hj, hb, hf⟩
  · refine ⟨true, cf_ok (step l.length (fun j hj => h j hj) (Nat.le_refl _) (cf_end (df (by omega)))), ⟨fun _ => ⟨fun p hp => ?_, fun i k p q hik hp hq => ?_⟩, fun _ => rfl⟩⟩
    · obtain ⟨k, hk, rfl⟩ := List.getElem_of_mem hp
      exact (h k hk _ (List.getElem?_eq_getElem hk)).1
    · exact (h k (get_lt hq) q hq).2 p (take_mem hp hik)
  · simp only [Classical.not_forall, not_imp] at hb
    obtain ⟨p, hp, hnp⟩ := hb
    by_cases hv : crtB p.a p.b = true
    · have : ∃ q ∈ l.take j, q.a = p.a ∧ q.b = p.b := Classical.byContradiction fun hno => hnp ⟨hv, fun q hq e => hno ⟨q, hq, e⟩⟩
      obtain ⟨q, hq, he⟩ := this
      refine ⟨false, cf_no (step j hf (by omega) (cf_two hp (in_of hj) (dt (by omega)) (hv ▸ Iv_any p.a p.b) (seen_yes hq he))), ⟨fun h => (by cases h), fun h => ?_⟩⟩
      obtain ⟨i, hi, hq'⟩ := mem_take hq
      exact (h.2 i j q p hi hq' hp he).elim
    · have hv' : crtB p.a p.b = false := by simpa using hv
      exact ⟨false, cf_no (step j hf (by omega) (cf_bad hp (in_of hj) (dt (by omega)) (hv' ▸ Iv_any p.a p.b))), ⟨fun h => (by cases h), fun h => (hv (h.1 p (List.mem_of_getElem? hp))).elim⟩⟩

/-- Check. -/
theorem PC8_any (x : Int) (l : List Pt) : FnL Try.prog 16 1 [crtS 0 x l] [(0, 0, rowC l)] (.pv (.int .i64 (errC x l))) 0 [] := by
  by_cases h0 : l.length ≤ 200
  · obtain ⟨u, hu, hu2⟩ := NF_any x (l := l) (by omega)
    obtain ⟨v, hv, hv2⟩ := CF_any (l := l) (by omega)
    cases u
    · rw [errC_bad fun h => by have := hu2.2 ⟨Inc.of h.up h.lo, h.hi, h.nx.1, h.nx.2⟩; cases this]
      exact ck8_num (df (by omega)) hu
    · cases v
      · rw [errC_bad fun h => by have := hv2.2 ⟨h.ok, h.dis⟩; cases this]
        exact ck8_cer (df (by omega)) hu hv
      · obtain ⟨a1, a2, a3, a4⟩ := hu2.1 rfl
        obtain ⟨b1, b2⟩ := hv2.1 rfl
        rw [errC_ok ⟨h0, b1, a1.up, a1.lo, a2, ⟨a3, a4⟩, b2⟩]
        exact ck8_ok (df (by omega)) hu hv
  · rw [errC_bad fun h => h0 h.len]
    exact ck8_many (dt (by omega))
end Go.Proofs.Ytjjmnoiffpnphaa
