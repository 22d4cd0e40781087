/-
  Of and Holds of package cert and of its reference: the same of every store. Conditions: none.
-/
import Derived.Test.YtjjmnoiffpnphaaKi
import Derived.Test.YtjjmnoiffpnphaaKh
import Derived.Test.YtjjmnoiffpnphaaW31
namespace Go.Proofs.Ytjjmnoiffpnphaa
open Go.RowKit
def sel (d : Pt → Bool) (l : List Pt) : List Int := (l.filter d).map Pt.id
theorem sel_len (d : Pt → Bool) (l : List Pt) : (sel d l).length ≤ l.length := by unfold sel; rw [List.length_map]; exact List.length_filter_le _ _
theorem sel_no {d : Pt → Bool} {l : List Pt} {k : Nat} {p : Pt} (hk : l[k]? = some p) (h : d p = false) : sel d (l.take (k + 1)) = sel d (l.take k) := by
  unfold sel
  rw [take_succ hk, List.filter_append, List.filter_cons_of_neg (by rw [h]; decide), List.filter_nil, List.append_nil]
theorem sel_yes {d : Pt → Bool} {l : List Pt} {k : Nat} {p : Pt} (hk : l[k]? = some p) (h : d p = true) : sel d (l.take (k + 1)) = sel d (l.take k) ++ [p.id] := by
  unfold sel
  rw [take_succ hk, List.filter_append, List.filter_cons_of_pos h, List.filter_nil, List.map_append]
  rfl
theorem ids_snoc (m : List Int) (n : Int) : idsV (m ++ [n]) = idsV m ++ [.int .i64 n] := by simp [idsV]
/-- Rounds that gather numbers. -/
theorem gather {lo fr nb nt : Nat} {c : Code} {d : Pt → Bool} {l : List Pt} (tm : Nat → Nat → List (Nat × SV)) (hp : Nat → List Value → List (Nat × Nat × SV)) {e : Exit} {tm2 : List (Nat × SV)} {hp2 : List (Nat × Nat × SV)}
    (no : ∀ (k m : Nat) (vs : List Value) (p : Pt), l[k]? = some p → d p = false → RunsL Try.prog lo fr c nt nb (tm m (k + 1)) (hp m vs) e tm2 hp2 → RunsL Try.prog lo fr c nt nb (tm m k) (hp m vs) e tm2 hp2)
    (yes : ∀ (k m : Nat) (vs : List Value) (p : Pt), l[k]? = some p → d p = true → m + 1 ≤ l.length → RunsL Try.prog lo fr c nt nb (tm (m + 1) (k + 1)) (hp (m + 1) (vs ++ [.int .i64 p.id])) e tm2 hp2 → RunsL Try.prog lo fr c nt nb (tm m k) (hp m vs) e tm2 hp2)
    (last : RunsL Try.prog lo fr c nt nb (tm (sel d l).length l.length) (hp (sel d l).length (idsV (sel d l))) e tm2 hp2) : RunsL Try.prog lo fr c nt nb (tm 0 0) (hp 0 []) e tm2 hp2 := by
  have := RunsL.rounds (P := Try.prog) (lo := lo) (fr := fr) (c := c) (n := nt) (nb := nb) (fun k => tm (sel d (l.take k)).length k) (fun k => hp (sel d (l.take k)).length (idsV (sel d (l.take k)))) (e := e) (tm2 := tm2) (hp2 := hp2) l.length 0 (Nat.zero_add _) (fun k _ hk r => ?_) (by rw [List.take_length]; exact last)
  · simpa [sel, idsV] using this
  · obtain ⟨p, hp'⟩ := get_some hk
    cases h : d p
    · rw [sel_no hp' h] at r
      exact no k _ _ p hp' h r
    · rw [sel_yes hp' h, ids_snoc, List.length_append] at r
      have h1 := sel_len d (l.take (k + 1))
      rw [sel_yes hp' h, List.length_append, List.length_take] at h1
      exact yes k _ _ p hp' h (by simp at h1; omega) r

abbrev OfErr (f : FuncId) (x : Int) (l : List Pt) (n e : Int) : Prop := FnL Try.prog f 1 [crtS 0 x l, .pv (.int .i64 n)] [(0, 0, rowC l)] (.pv (.tuple #[.slice none 0 0, .int .i64 e])) 0 []
abbrev OfOk (f : FuncId) (x : Int) (l : List Pt) (n : Int) (m : List Int) : Prop := FnL Try.prog f 1 [crtS 0 x l, .pv (.int .i64 n)] [(0, 0, rowC l)] (.tu [.one (.ls 1 m.length), .one (.pv (.int .i64 0))]) 1 [(1, 0, rowI m)]
def names (n : Int) (p : Pt) : Bool := decide (p.a = n ∨ p.b = n)
theorem names_no {n : Int} {p : Pt} (h : names n p = false) : (p.a == n) = false ∧ (p.b == n) = false := by
  have := of_decide_eq_false h
  constructor <;> simp <;> omega
theorem Nu_any (x : Int) {l : List Pt} (hn : l.length ≤ 210) (n : Int) : FnL Try.prog 44 2 [crtS 0 x l, .pc 45 [.pp 1 0]] [(0, 0, rowC l), (1, 0, .pv (.int .i64 n))] (.ls 2 (sel (names n) l).length) 1 [(2, 0, rowI (sel (names n) l))] :=
  nu_path (gather (d := names n) (l := l) (fun m k => [(1, .pc 45 [.pp 1 0]), (5, .ls 3 m), (9, .ls 0 l.length), (10, .pv (.int .i64 (l.length : Int))), (11, .pv (.int .i64 (k : Int)))]) (fun m vs => [(0, 0, rowC l), (1, 0, .pv (.int .i64 n)), (3, 0, .row 3 1 m vs)])
    (fun k m vs p hp h r => by
      obtain ⟨h1, h2⟩ := names_no h
      exact nu_skip (hk := hp) (hin := in_of (get_lt hp)) (hlt := dt (by have := get_lt hp; omega)) (hl := h1) (hh := h2) (hs := i64_succ (by have := get_lt hp; omega)) r)
    (fun k m vs p hp h hm r => by
      by_cases h1 : p.a = n
      · exact nu_lo (hk := hp) (hin := in_of (get_lt hp)) (hlt := dt (by have := get_lt hp; omega)) (hl := by simpa using h1) (hm := by omega) (hs := i64_succ (by have := get_lt hp; omega)) r
      · have h2 := (of_decide_eq_true h).resolve_left h1
        exact nu_hi (hk := hp) (hin := in_of (get_lt hp)) (hlt := dt (by have := get_lt hp; omega)) (hl := by simpa using h1) (hh := by simpa using h2) (hm := by omega) (hs := i64_succ (by have := get_lt hp; omega)) r)
    (nu_end (hge := df (by omega))))
theorem Of8_any (x : Int) {l : List Pt} (hn : l.length ≤ 210) (n : Int) : (¬ V8 x l ∧ OfErr 13 x l n 8 ∧ OfErr 23 x l n 8) ∨
    (V8 x l ∧ OfOk 13 x l n (sel (names n) l) ∧ OfOk 23 x l n (sel (names n) l)) := by
  have c1 := PC8_any x l
  have c2 := RC8_any x l
  by_cases hv : V8 x l
  · rw [errC_ok hv] at c1 c2
    refine Or.inr ⟨hv, po8_ok (hc := c1) (hn := Nu_any x hn n), ro8_ok (hc := c2) (r0 := ?_)⟩
    exact gather (d := names n) (l := l) (fun m k => [(1, .pv (.int .i64 n)), (2, .pp 1 0), (6, .ls 2 m), (7, .pv (.int .i64 (k : Int)))]) (fun m vs => [(1, 0, .pv (.int .i64 x)), (1, 1, .ls 0 l.length), (0, 0, rowC l), (2, 0, .row 3 1 m vs)])
      (fun k m vs p hp h r => by
        obtain ⟨h1, h2⟩ := names_no h
        exact of8_skip (hk := hp) (hin := in_of (get_lt hp)) (hlt := dt (by have := get_lt hp; omega)) (hl := h1) (hh := h2) (hs := i64_succ (by have := get_lt hp; omega)) r)
      (fun k m vs p hp h hm r => by
        by_cases h1 : p.a = n
        · exact of8_lo (hk := hp) (hin := in_of (get_lt hp)) (hlt := dt (by have := get_lt hp; omega)) (hl := by simpa using h1) (hm := by omega) (hs := i64_succ (by have := get_lt hp; omega)) r
        · have h2 := (of_decide_eq_true h).resolve_left h1
          exact of8_hi (hk := hp) (hin := in_of (get_lt hp)) (hlt := dt (by have := get_lt hp; omega)) (hl := by simpa using h1) (hh := by simpa using h2) (hm := by omega) (hs := i64_succ (by have := get_lt hp; omega)) r)
      (of8_end (hge := df (by omega)))
  · rw [errC_bad hv] at c1 c2
    exact Or.inl ⟨hv, po8_bad (hc := c1), ro8_bad (hc := c2)⟩

theorem val_one {s : List Pt} (hs : Val s) {p q : Pt} (hp : p ∈ s) (hq : q ∈ s) (h : p.id = q.id) : p = q := by
  obtain ⟨i, hi, rfl⟩ := List.getElem_of_mem hp
  obtain ⟨j, hj, rfl⟩ := List.getElem_of_mem hq
  exact (one_at hs.up (List.getElem?_eq_getElem hi) (List.getElem?_eq_getElem hj) h).2
/-- The point with an ID. -/
def ptOf (s : List Pt) (i : Int) : Pt := (s.find? fun q => q.id == i).getD ⟨0, 0, 0⟩
theorem ptOf_at {s : List Pt} (hs : Val s) {q : Pt} (hq : q ∈ s) : ptOf s q.id = q := by
  unfold ptOf
  cases h : s.find? fun r => r.id == q.id with
  | none => have := List.find?_eq_none.1 h q hq; simp at this
  | some r =>
    have h1 := List.mem_of_find?_eq_some h
    have h2 := List.find?_some h
    simp only [beq_iff_eq] at h2
    exact val_one hs h1 hq h2
def holdB (s : List Pt) (tn td : Int) (p : Pt) : Bool := leadsB ((ptOf s p.b).a * td + (ptOf s p.b).b * tn) ((ptOf s p.a).a * td + (ptOf s p.a).b * tn) (ptOf s p.b).b (ptOf s p.a).b (ptOf s p.b).id (ptOf s p.a).id
/-- All points that are named are there. -/
def Known (l s : List Pt) : Prop := ∀ p ∈ l, (∃ q ∈ s, q.id = p.a) ∧ ∃ g ∈ s, g.id = p.b
theorem By_any {s : List Pt} (hs : Val s) : FnL Try.prog 48 1 [fldS 0 s] [(0, 0, rowP s)] (.mp 1) 1 [(1, 0, .mrow (byV s))] := by
  have hlen := hs.len
  refine by_path (s := s) ?_
  have := RunsL.rounds (P := Try.prog) (lo := 1) (fr := 1) (c := loopOf Try.prog 48 0) (n := 23) (nb := 3) (fun k => [(3, .mp 2), (11, .ls 0 s.length), (12, .pv (.int .i64 (s.length : Int))), (13, .pv (.int .i64 (k : Int)))]) (fun k => [(2, 0, .mrow (byV (s.take k))), (0, 0, rowP s)])
    (e := .exit 0) (tm2 := [(3, .mp 2)]) (hp2 := [(2, 0, .mrow (byV s)), (0, 0, rowP s)]) s.length 0 (Nat.zero_add _) (fun k _ hk r => ?_) (by rw [List.take_length]; exact by_end (hge := df (by omega)))
  · simpa using this
  · obtain ⟨p, hp⟩ := get_some hk
    rw [take_succ hp] at r
    exact by_next (hk := hp) (hin := in_of hk) (hlt := dt (by omega)) (hP := by_put fun q hq => by
      obtain ⟨i, hi, hq'⟩ := mem_take hq
      have := hs.up.mono hi hq' hp
      omega) (hs := i64_succ (by omega)) r
theorem look_t {s : List Pt} (hs : Val s) {q : Pt} (hq : q ∈ s) {i : Int} (h : q.id = i) (ok : Bool) : LookIs Try.prog 90 (byV s) (.int .i64 i) ok (if ok = true then .tuple #[ptV q, .bool true] else ptV q) := by
  subst h
  exact by_yes hq (fun r hr e => val_one hs hr hq e) ok
theorem look_f {s : List Pt} {i : Int} (h : ¬ ∃ q ∈ s, q.id = i) : LookIs Try.prog 90 (byV s) (.int .i64 i) true (.tuple #[pointV 0 0 0, .bool false]) := by_no (fun q hq e => h ⟨q, hq, e⟩) true
noncomputable def knownB (l s : List Pt) : Bool := open Classical in decide (Known l s)
open Classical in
theorem knownB_iff {l s : List Pt} : knownB l s = true ↔ Known l s := by unfold knownB; exact decide_eq_true_iff
theorem knownB_no {l s : List Pt} (h : ¬ Known l s) : knownB l s = false := by
  cases e : knownB l s
  · rfl
  · exact (h (knownB_iff.1 e)).elim
theorem Ha_any (x : Int) {l s : List Pt} (hn : l.length ≤ 210) (hs : Val s) : FnL Try.prog 49 2 [.mp 1, crtS 0 x l] [(0, 0, rowC l), (1, 0, .mrow (byV s))] (.pv (.bool (knownB l s))) 0 [] := by
  have step : ∀ k, (∀ j, j < k → ∀ p, l[j]? = some p → (∃ q ∈ s, q.id = p.a) ∧ ∃ g ∈ s, g.id = p.b) → ∀ {e : Exit} {tm2 : List (Nat × SV)} {hp2 : List (Nat × Nat × SV)}, k ≤ l.length →
      RunsL Try.prog 3 3 (loopOf Try.prog 85 0) 19 3 [(0, .ls 0 l.length), (1, .pc 72 [.pp 2 0]), (7, .pv (.int .i64 (l.length : Int))), (8, .pv (.int .i64 (k : Int)))] [(0, 0, rowC l), (1, 0, .mrow (byV s)), (2, 0, .mp 1)] e tm2 hp2 →
      RunsL Try.prog 3 3 (loopOf Try.prog 85 0) 19 3 [(0, .ls 0 l.length), (1, .pc 72 [.pp 2 0]), (7, .pv (.int .i64 (l.length : Int))), (8, .pv (.int .i64 ((0 : Nat) : Int)))] [(0, 0, rowC l), (1, 0, .mrow (byV s)), (2, 0, .mp 1)] e tm2 hp2 := by
    intro k hk e tm2 hp2 hkl r
    refine RunsL.rounds (fun j => [(0, .ls 0 l.length), (1, .pc 72 [.pp 2 0]), (7, .pv (.int .i64 (l.length : Int))), (8, .pv (.int .i64 (j : Int)))]) (fun _ => [(0, 0, rowC l), (1, 0, .mrow (byV s)), (2, 0, .mp 1)]) (N := k) k 0 (Nat.zero_add _) (fun j _ hj r => ?_) r
    obtain ⟨p, hp⟩ := get_some (l := l) (k := j) (by omega)
    obtain ⟨⟨q, hq, hqa⟩, ⟨g, hg, hgb⟩⟩ := hk j hj p hp
    exact mi_next (hk := hp) (hin := in_of (get_lt hp)) (hlt := dt (by have := get_lt hp; omega)) (hA := look_t hs hq hqa true) (hB := look_t hs hg hgb true) (hs := i64_succ (by omega)) r
  rcases first_nat (fun j => ∀ p, l[j]? = some p → (∃ q ∈ s, q.id = p.a) ∧ ∃ g ∈ s, g.id = p.b) l.length with h | ⟨j, hj, hb, hf⟩
  · rw [knownB_iff.2 fun p hp => by
      obtain ⟨k, hk, rfl⟩ := List.getElem_of_mem hp
      exact h k hk _ (List.getElem?_eq_getElem hk)]
    exact ha_yes (ht := mc_no (hi := mi_no (r0 := step l.length h (Nat.le_refl _) (mi_end (hge := df (by omega))))))
  · simp only [Classical.not_forall] at hb
    obtain ⟨p, hp, hnp⟩ := hb
    rw [knownB_no fun h => hnp (h p (List.mem_of_getElem? hp))]
    refine ha_no (ht := mc_yes (k := j) (hi := mi_yes (r0 := step j hf (by omega) ?_)) (h0 := dt (by omega)))
    by_cases h1 : ∃ q ∈ s, q.id = p.a
    · have h2 : ¬ ∃ g ∈ s, g.id = p.b := fun h2 => hnp ⟨h1, h2⟩
      obtain ⟨q, hq, hqa⟩ := h1
      exact mi_yn (hk := hp) (hin := in_of hj) (hlt := dt (by omega)) (hA := look_t hs hq hqa true) (hB := look_f h2)
    · by_cases h2 : ∃ g ∈ s, g.id = p.b
      · obtain ⟨g, hg, hgb⟩ := h2
        exact mi_ny (hk := hp) (hin := in_of hj) (hlt := dt (by omega)) (hA := look_f h1) (hB := look_t hs hg hgb true)
      · exact mi_nn (hk := hp) (hin := in_of hj) (hlt := dt (by omega)) (hA := look_f h1) (hB := look_f h2)
/-- Who holds, of valid certificates and points that are there. -/
theorem holds_at {l s : List Pt} {tn td : Int} (hs : Val s) (hk : Known l s) (ho : ∀ p ∈ l, crtB p.a p.b = true) {p : Pt} (hp : p ∈ l) : ∃ q g, q ∈ s ∧ g ∈ s ∧ q.id = p.a ∧ g.id = p.b ∧ g.id ≠ q.id ∧ holdB s tn td p = leadsB (g.a * td + g.b * tn) (q.a * td + q.b * tn) g.b q.b g.id q.id := by
  obtain ⟨⟨q, hq, hqa⟩, ⟨g, hg, hgb⟩⟩ := hk p hp
  refine ⟨q, g, hq, hg, hqa, hgb, fun e => ?_, ?_⟩
  · exact (crtB_iff.1 (ho p hp)).2.2.2.2 (by omega)
  · unfold holdB
    rw [← hqa, ← hgb, ptOf_at hs hq, ptOf_at hs hg]
section
variable {tn td : Int} (htn : I64 tn) (htd : I64 td)
theorem Ho_any (x : Int) {l s : List Pt} (hn : l.length ≤ 210) (ht : okB tn td = true) (hs : Val s) (hk : Known l s) (ho : ∀ p ∈ l, crtB p.a p.b = true) (htn : I64 tn) (htd : I64 td) :
    FnL Try.prog 44 4 [crtS 0 x l, .pc 50 [.pp 2 0, .pp 3 0]] [(0, 0, rowC l), (1, 0, .mrow (byV s)), (2, 0, .mp 1), (3, 0, .pv (.int .i64 tn)), (3, 1, .pv (.int .i64 td))] (.ls 4 (sel (holdB s tn td) l).length) 1 [(4, 0, rowI (sel (holdB s tn td) l))] :=
  ho_path (gather (d := holdB s tn td) (l := l) (fun m k => [(1, .pc 50 [.pp 2 0, .pp 3 0]), (5, .ls 5 m), (9, .ls 0 l.length), (10, .pv (.int .i64 (l.length : Int))), (11, .pv (.int .i64 (k : Int)))]) (fun m vs => [(0, 0, rowC l), (1, 0, .mrow (byV s)), (2, 0, .mp 1), (3, 0, .pv (.int .i64 tn)), (3, 1, .pv (.int .i64 td)), (5, 0, .row 3 1 m vs)])
    (fun k m vs p hp h r => by
      obtain ⟨q, g, hq, hg, hqa, hgb, hne, he⟩ := holds_at (tn := tn) (td := td) hs hk ho (List.mem_of_getElem? hp)
      have ha := Ahead_ok htn htd (hs.ok g hg) (hs.ok q hq) ht hne
      rw [← he, h] at ha
      exact ho_skip (hk := hp) (hin := in_of (get_lt hp)) (hlt := dt (by have := get_lt hp; omega)) (hB := look_t hs hg hgb false) (hA := look_t hs hq hqa false) (ha := ha) (hs := i64_succ (by have := get_lt hp; omega)) r)
    (fun k m vs p hp h hm r => by
      obtain ⟨q, g, hq, hg, hqa, hgb, hne, he⟩ := holds_at (tn := tn) (td := td) hs hk ho (List.mem_of_getElem? hp)
      have ha := Ahead_ok htn htd (hs.ok g hg) (hs.ok q hq) ht hne
      rw [← he, h] at ha
      exact ho_keep (hk := hp) (hin := in_of (get_lt hp)) (hlt := dt (by have := get_lt hp; omega)) (hB := look_t hs hg hgb false) (hA := look_t hs hq hqa false) (ha := ha) (hm := by omega) (hs := i64_succ (by have := get_lt hp; omega)) r)
    (ho_end (hge := df (by omega))))
theorem AtS_any {s : List Pt} (hs : Val s) (i : Int) : ∃ u, FnL Try.prog 37 1 [fldS 0 s, .pv (.int .i64 i)] [(0, 0, rowP s)] (.pv (.int .i64 u)) 0 [] ∧ ((u < 0 ∧ ¬ ∃ q ∈ s, q.id = i) ∨ ∃ (k : Nat) (q : Pt), u = (k : Int) ∧ s[k]? = some q ∧ q.id = i) := by
  rcases place s hs i with ⟨k, q, hk, he⟩ | ⟨hno, _⟩
  · exact ⟨k, At_yes hs hk he, Or.inr ⟨k, q, rfl, hk, he⟩⟩
  · exact ⟨-1, At_no hs.len hno, Or.inl ⟨by omega, fun ⟨q, hq, he⟩ => hno q hq he⟩⟩
theorem Kn_any (x : Int) {l s : List Pt} (hn : l.length ≤ 210) (hs : Val s) : FnL Try.prog 55 2 [crtS 0 x l, fldS 1 s] [(0, 0, rowC l), (1, 0, rowP s)] (.pv (.bool (knownB l s))) 0 [] := by
  have step : ∀ k, (∀ j, j < k → ∀ p, l[j]? = some p → (∃ q ∈ s, q.id = p.a) ∧ ∃ g ∈ s, g.id = p.b) → ∀ {e : Exit} {tm2 : List (Nat × SV)} {hp2 : List (Nat × Nat × SV)}, k ≤ l.length →
      RunsL Try.prog 2 2 (loopOf Try.prog 55 0) 35 4 [(2, .pp 2 0), (3, .pp 3 0), (5, .pv (.int .i64 (k : Int)))] [(2, 0, .pv (.int .i64 x)), (2, 1, .ls 0 l.length), (3, 0, .ls 1 s.length), (0, 0, rowC l), (1, 0, rowP s)] e tm2 hp2 →
      RunsL Try.prog 2 2 (loopOf Try.prog 55 0) 35 4 [(2, .pp 2 0), (3, .pp 3 0), (5, .pv (.int .i64 ((0 : Nat) : Int)))] [(2, 0, .pv (.int .i64 x)), (2, 1, .ls 0 l.length), (3, 0, .ls 1 s.length), (0, 0, rowC l), (1, 0, rowP s)] e tm2 hp2 := by
    intro k hk e tm2 hp2 hkl r
    refine RunsL.rounds (fun j => [(2, .pp 2 0), (3, .pp 3 0), (5, .pv (.int .i64 (j : Int)))]) (fun _ => [(2, 0, .pv (.int .i64 x)), (2, 1, .ls 0 l.length), (3, 0, .ls 1 s.length), (0, 0, rowC l), (1, 0, rowP s)]) (N := k) k 0 (Nat.zero_add _) (fun j _ hj r => ?_) r
    obtain ⟨p, hp⟩ := get_some (l := l) (k := j) (by omega)
    obtain ⟨h1, h2⟩ := hk j hj p hp
    obtain ⟨u, a1, a2⟩ := AtS_any hs p.a
    obtain ⟨v, b1, b2⟩ := AtS_any hs p.b
    rcases a2 with ⟨_, a2⟩ | ⟨i, q, rfl, _⟩
    · exact (a2 h1).elim
    · rcases b2 with ⟨_, b2⟩ | ⟨i', g, rfl, _⟩
      · exact (b2 h2).elim
      · exact kn8_next (hk := hp) (hin := in_of (get_lt hp)) (hlt := dt (by have := get_lt hp; omega)) (ha := a1) (h1 := df (by omega)) (hb := b1) (h2 := df (by omega)) (hs := i64_succ (by omega)) r
  rcases first_nat (fun j => ∀ p, l[j]? = some p → (∃ q ∈ s, q.id = p.a) ∧ ∃ g ∈ s, g.id = p.b) l.length with h | ⟨j, hj, hb, hf⟩
  · rw [knownB_iff.2 fun p hp => by
      obtain ⟨k, hk, rfl⟩ := List.getElem_of_mem hp
      exact h k hk _ (List.getElem?_eq_getElem hk)]
    exact kn8_yes (r0 := step l.length h (Nat.le_refl _) (kn8_end (hge := df (by omega))))
  · simp only [Classical.not_forall] at hb
    obtain ⟨p, hp, hnp⟩ := hb
    rw [knownB_no fun h => hnp (h p (List.mem_of_getElem? hp))]
    refine kn8_no (r0 := step j hf (by omega) ?_)
    obtain ⟨u, a1, a2⟩ := AtS_any hs p.a
    obtain ⟨v, b1, b2⟩ := AtS_any hs p.b
    rcases a2 with ⟨a2, _⟩ | ⟨i, q, rfl, hq, hqa⟩
    · exact kn8_lo (hk := hp) (hin := in_of hj) (hlt := dt (by omega)) (ha := a1) (h1 := dt a2)
    · rcases b2 with ⟨b2, _⟩ | ⟨i', g, rfl, hg, hgb⟩
      · exact kn8_hi (hk := hp) (hin := in_of hj) (hlt := dt (by omega)) (ha := a1) (h1 := df (by omega)) (hb := b1) (h2 := dt b2)
      · exact (hnp ⟨⟨q, List.mem_of_getElem? hq, hqa⟩, ⟨g, List.mem_of_getElem? hg, hgb⟩⟩).elim
theorem Tr_any {l s : List Pt} (hs : Val s) (hk : Known l s) (ho : ∀ p ∈ l, crtB p.a p.b = true) (htn : I64 tn) (htd : I64 td) {p : Pt} (hp : p ∈ l) : FnL Try.prog 56 1 [.pv (certV p.a p.b), fldS 0 s, .pv (ratioV tn td)] [(0, 0, rowP s)] (.pv (.bool (holdB s tn td p))) 0 [] := by
  obtain ⟨q, g, hq, hg, hqa, hgb, hne, he⟩ := holds_at (tn := tn) (td := td) hs hk ho hp
  rw [he]
  obtain ⟨j, hj, rfl⟩ := List.getElem_of_mem hq
  obtain ⟨i, hi, rfl⟩ := List.getElem_of_mem hg
  exact tr8_path (hr := List.getElem?_eq_getElem hi) (hq := List.getElem?_eq_getElem hj) (hi := in_of hi) (hj := in_of hj) (ha := At_yes hs (List.getElem?_eq_getElem hi) hgb) (hb := At_yes hs (List.getElem?_eq_getElem hj) hqa) (hl := Leads_ok htn htd (hs.ok _ (List.getElem_mem hi)) (hs.ok _ (List.getElem_mem hj)))
abbrev HoErr (f : FuncId) (x : Int) (l s : List Pt) (tn td e : Int) : Prop := FnL Try.prog f 2 [crtS 0 x l, fldS 1 s, .pv (ratioV tn td)] [(0, 0, rowC l), (1, 0, rowP s)] (.pv (.tuple #[.slice none 0 0, .int .i64 e])) 0 []
abbrev HoOk (f : FuncId) (x : Int) (l s : List Pt) (tn td : Int) (m : List Int) : Prop := FnL Try.prog f 2 [crtS 0 x l, fldS 1 s, .pv (ratioV tn td)] [(0, 0, rowC l), (1, 0, rowP s)] (.tu [.one (.ls 2 m.length), .one (.pv (.int .i64 0))]) 1 [(2, 0, rowI m)]
/-- What Holds says. -/
def HoR (x : Int) (l s : List Pt) (tn td e : Int) : Prop := (¬ V8 x l ∧ e = 8) ∨ (V8 x l ∧ tE s tn td ≠ 0 ∧ e = tE s tn td) ∨ (V8 x l ∧ tE s tn td = 0 ∧ ¬ Known l s ∧ e = 6)
theorem tE_zero {s : List Pt} {tn td : Int} (h : tE s tn td = 0) : Val s ∧ okB tn td = true := by
  unfold tE at h
  by_cases h1 : errL s = 0
  · rw [if_pos h1] at h
    by_cases h2 : okB tn td = true
    · exact ⟨err_val.1 h1, h2⟩
    · rw [if_neg h2] at h; omega
  · rw [if_neg h1] at h; exact (h1 h).elim
include htn htd in
theorem Ho8_any (x : Int) {l : List Pt} (hn : l.length ≤ 210) (s : List Pt) : (∃ e, e ≠ 0 ∧ HoErr 14 x l s tn td e ∧ HoErr 30 x l s tn td e ∧ HoR x l s tn td e) ∨
    (V8 x l ∧ tE s tn td = 0 ∧ Known l s ∧ HoOk 14 x l s tn td (sel (holdB s tn td) l) ∧ HoOk 30 x l s tn td (sel (holdB s tn td) l)) := by
  have c1 := PC8_any x l
  have r1 := RC8_any x l
  have c2 := PCheck_any s
  have r2 := Timed_any htn htd s
  have c3 : ∃ e3, Pure Try.prog 47 #[ratioV tn td] (.int .i64 e3) ∧ (e3 = if okB tn td = true then 0 else 8) := by
    by_cases h : okB tn td = true
    · exact ⟨0, Check_ok htn htd h, by rw [if_pos h]⟩
    · exact ⟨8, Check_bad htn htd h, by rw [if_neg h]⟩
  obtain ⟨e3, c3, he3⟩ := c3
  by_cases hv : V8 x l
  · rw [errC_ok hv] at c1 r1
    by_cases ht : tE s tn td = 0
    · obtain ⟨hs, hok⟩ := tE_zero ht
      rw [ht] at r2
      rw [err_val.2 hs] at c2
      rw [if_pos hok] at he3
      rw [he3] at c3
      by_cases hk : Known l s
      · have hb := knownB_iff.2 hk
        have h1 := Ha_any x hn hs
        have h2 := Kn_any x hn hs
        rw [hb] at h1 h2
        refine Or.inr ⟨hv, ht, hk, ph8_ok (c1 := c1) (c2 := c2) (c3 := c3) (hb := By_any hs) (hh := h1) (hn := Ho_any x hn hok hs hk hv.ok htn htd), rh8_ok (hc := r1) (ht := r2) (hk8 := h2) (r0 := ?_)⟩
        exact gather (d := holdB s tn td) (l := l) (fun m k => [(3, .pp 2 0), (4, .pp 3 0), (5, .pp 4 0), (9, .ls 5 m), (10, .pv (.int .i64 (k : Int)))]) (fun m vs => [(2, 0, .pv (.int .i64 x)), (2, 1, .ls 0 l.length), (3, 0, .ls 1 s.length), (4, 0, .pv (.int .i64 tn)), (4, 1, .pv (.int .i64 td)), (0, 0, rowC l), (1, 0, rowP s), (5, 0, .row 3 1 m vs)])
          (fun k m vs p hp h r => by
            have ht' := Tr_any (tn := tn) (td := td) hs hk hv.ok htn htd (List.mem_of_getElem? hp)
            rw [h] at ht'
            exact rh8_skip (hk := hp) (hin := in_of (get_lt hp)) (hlt := dt (by have := get_lt hp; omega)) (ht := ht') (hs := i64_succ (by have := get_lt hp; omega)) r)
          (fun k m vs p hp h hm r => by
            have ht' := Tr_any (tn := tn) (td := td) hs hk hv.ok htn htd (List.mem_of_getElem? hp)
            rw [h] at ht'
            exact rh8_keep (hk := hp) (hin := in_of (get_lt hp)) (hlt := dt (by have := get_lt hp; omega)) (ht := ht') (hm := by omega) (hs := i64_succ (by have := get_lt hp; omega)) r)
          (rh8_end (hge := df (by omega)))
      · have h1 := Ha_any x hn hs
        have h2 := Kn_any x hn hs
        rw [knownB_no hk] at h1 h2
        exact Or.inl ⟨6, by omega, ph8_no (c1 := c1) (c2 := c2) (c3 := c3) (hb := By_any hs) (hh := h1), rh8_no (hc := r1) (ht := r2) (hk8 := h2), Or.inr (Or.inr ⟨hv, ht, hk, rfl⟩)⟩
    · refine Or.inl ⟨tE s tn td, ht, ?_, rh8_time (hc := r1) (ht := r2) (he := by simpa using ht), Or.inr (Or.inl ⟨hv, ht, rfl⟩)⟩
      unfold tE at ht ⊢
      by_cases h1 : errL s = 0
      · rw [if_pos h1] at ht ⊢
        rw [h1] at c2
        rw [← he3] at ht ⊢
        exact ph8_e3 (c1 := c1) (c2 := c2) (c3 := c3) (he := by simpa using ht)
      · rw [if_neg h1]
        exact ph8_e2 (c1 := c1) (c2 := c2) (c3 := c3) (he := by simpa using h1)
  · rw [errC_bad hv] at c1 r1
    exact Or.inl ⟨8, by omega, ph8_e1 (c1 := c1) (c2 := c2) (c3 := c3) (he := by decide), rh8_bad (hc := r1), Or.inl ⟨hv, rfl⟩⟩
end
end Go.Proofs.Ytjjmnoiffpnphaa
