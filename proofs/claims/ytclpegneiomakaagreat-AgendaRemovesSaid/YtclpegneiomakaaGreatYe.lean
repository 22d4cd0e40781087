/-
  What Check of package agenda returns, for any agenda; what a valid one is. Conditions: none.
-/
import Derived.Test.YtclpegneiomakaaGreatYd
namespace Go.Proofs.YtclpegneiomakaaGreat
open Go.RowKit
theorem pw_nodup {l : List Int} (h : l.Pairwise (fun x y => x ≤ y)) (hd : ∀ k x y, l[k]? = some x → l[k + 1]? = some y → x ≠ y) : l.Nodup := by
  rw [List.nodup_iff_pairwise_ne, List.pairwise_iff_getElem]
  rw [List.pairwise_iff_getElem] at h
  intro i j hi hj hij e
  have h1 := h i (i + 1)
  have hi1 : i + 1 < l.length := by omega
  have a1 := h i (i + 1) hi hi1 (by omega)
  have a2 : l[i + 1] ≤ l[j] := by
    rcases Nat.lt_or_ge (i + 1) j with c | c
    · exact h (i + 1) j hi1 hj c
    · have : j = i + 1 := by omega
      subst this; exact Int.le_refl _
  have := hd i l[i] l[i + 1] (List.getElem?_eq_getElem hi) (List.getElem?_eq_getElem hi1)
  omega
theorem nodup_next {l : List Int} (h : l.Nodup) {k : Nat} {x y : Int} (hx : l[k]? = some x) (hy : l[k + 1]? = some y) : x ≠ y := by
  intro e
  subst e
  have := (List.getElem?_inj (i := k) (j := k + 1) (List.getElem?_eq_some_iff.1 hx).1 h).1 (hx.trans hy.symm)
  omega
theorem find_dup {l : List Int} (h : l.Pairwise (fun x y => x ≤ y)) (hn : ¬ l.Nodup) : ∃ k x, l[k]? = some x ∧ l[k + 1]? = some x ∧ ∀ j, j < k → ∀ y z, l[j]? = some y → l[j + 1]? = some z → z ≠ y := by
  have hex : ∃ k, ∃ x, l[k]? = some x ∧ l[k + 1]? = some x := by
    apply Classical.byContradiction
    intro hne
    exact hn (pw_nodup h fun k x y hx hy e => hne ⟨k, x, hx, by rw [hy, e]⟩)
  have key : ∀ n k, k ≤ n → (∃ x, l[k]? = some x ∧ l[k + 1]? = some x) → ∃ k x, l[k]? = some x ∧ l[k + 1]? = some x ∧ ∀ j, j < k → ∀ y z, l[j]? = some y → l[j + 1]? = some z → z ≠ y := by
    intro n
    induction n with
    | zero =>
      intro k hk ⟨x, h1, h2⟩
      exact ⟨k, x, h1, h2, fun j hj => by omega⟩
    | succ n ih =>
      intro k hk ⟨x, h1, h2⟩
      by_cases hc : ∃ j, j < k ∧ ∃ x, l[j]? = some x ∧ l[j + 1]? = some x
      · obtain ⟨j, hj, hx⟩ := hc
        exact ih j (by omega) hx
      · exact ⟨k, x, h1, h2, fun j hj y z hy hz e => hc ⟨j, hj, y, hy, by rw [hz, e]⟩⟩
  obtain ⟨k, hk⟩ := hex
  exact key k k (Nat.le_refl _) hk

section
variable {nn : Nat}
abbrev cmH (nn : Nat) (wv : List Int) : List (Nat × Nat × SV) := [(1, 0, .row 3 1 nn (ziV wv))]
theorem co_good {s : List Int} (hs : s.length = nn) (hl : nn ≤ 1000000) (hd : s.Nodup) : ∀ (d k : Nat), k + 1 + d = nn → RunsL Tryz.prog 1 2 (loopOf Tryz.prog 90 0) 61 2 [(0, .ls 1 nn), (3, .pv (.int .i64 ((k + 1 : Nat) : Int)))] (cmH nn s) (.exit 0) [(0, .ls 1 nn)] (cmH nn s) := by
  intro d
  induction d with
  | zero => intro k hk; exact co_end (decide_eq_false (by omega))
  | succ d ih =>
    intro k hk
    have hx : s[k + 1]? = some s[k + 1] := List.getElem?_eq_getElem (by omega)
    have hy : s[k]? = some s[k] := List.getElem?_eq_getElem (by omega)
    have hne := nodup_next hd hy hx
    exact co_next hx (by omega) hy (by omega) (decide_eq_true (by omega)) (by rw [show ((k + 1 : Nat) : Int) - 1 = (k : Int) by omega]; exact wrapZ (by omega) (by omega)) (by simpa using fun e => hne e.symm) (z_succ (by omega)) (ih (k + 1) (by omega))
theorem ci_loop {k : Nat} (hl : nn ≤ 1000000) : ∀ (d j c : Nat) (wv : List Int), k + (j + 1) + d = nn → wv.length = nn → c ≤ k + j → ∃ c' wv', c' < nn ∧ wv'.length = nn ∧ RunsL Tryz.prog 1 2 (loopOf Tryz.prog 90 1) 61 2 [(0, .ls 1 nn), (3, .pv (.int .i64 (c : Int))), (4, .lq 1 1 (0 + k) (nn - k)), (5, .pv (.int .i64 ((j + 1 : Nat) : Int)))] (cmH nn wv) (.exit 2) [(0, .ls 1 nn), (3, .pv (.int .i64 (c' : Int)))] (cmH nn wv') := by
  intro d
  induction d with
  | zero => intro j c wv hd hw hc; exact ⟨c, wv, by omega, hw, ci_end (decide_eq_false (by omega))⟩
  | succ d ih =>
    intro j c wv hd hw hc
    have hx : wv[k + (j + 1)]? = some wv[k + (j + 1)] := List.getElem?_eq_getElem (by omega)
    have hy : wv[k + j]? = some wv[k + j] := List.getElem?_eq_getElem (by omega)
    have hm : Value.int .i64 (IntKind.i64.wrap (((j + 1 : Nat) : Int) - 1)) = .int .i64 (j : Int) := by rw [show ((j + 1 : Nat) : Int) - 1 = (j : Int) by omega]; exact wrapZ (by omega) (by omega)
    by_cases e : wv[k + (j + 1)] = wv[k + j]
    · obtain ⟨c', wv', h1, h2, r⟩ := ih (j + 1) c wv (by omega) hw (by omega)
      exact ⟨c', wv', h1, h2, ci_same (by omega) (by omega) hx hy (decide_eq_true (by omega)) hm (by simpa using e) (z_succ (by omega)) r⟩
    · obtain ⟨c', wv', h1, h2, r⟩ := ih (j + 1) (c + 1) (wv.set c wv[k + (j + 1)]) (by omega) (by rw [List.length_set]; exact hw) (by omega)
      exact ⟨c', wv', h1, h2, ci_new (by omega) (by omega) hx hy (decide_eq_true (by omega)) hm (by simpa using e) (by omega) (by omega) (z_succ (by omega)) (z_succ (by omega)) r⟩
theorem co_wrong {s : List Int} (hs : s.length = nn) (hl : nn ≤ 1000000) {k : Nat} {x : Int} (h1 : s[k]? = some x) (h2 : s[k + 1]? = some x) (hb : ∀ j, j < k → ∀ y z, s[j]? = some y → s[j + 1]? = some z → z ≠ y) :
    ∃ c ys, c < nn ∧ ∀ (d q : Nat), q + d = k → RunsL Tryz.prog 1 2 (loopOf Tryz.prog 90 0) 61 2 [(0, .ls 1 nn), (3, .pv (.int .i64 ((q + 1 : Nat) : Int)))] (cmH nn s) .ret [(2, .lq 1 1 0 c)] [(1, 0, .row 3 1 nn ys)] := by
  have hk1 : k + 1 < nn := by rw [← hs]; exact (List.getElem?_eq_some_iff.1 h2).1
  obtain ⟨c, wv, hc, hw, r⟩ := ci_loop (nn := nn) (k := k + 1) hl (nn - (k + 1 + 1)) 0 (k + 1) s (by omega) hs (by omega)
  refine ⟨c, setL (ziV wv) ((0 + c) * 1) (repL [.int .i64 0] (nn - c)), hc, ?_⟩
  have hrl : (repL [Value.int .i64 0] (nn - c)).length = nn - c := by rw [repL_length]; simp
  intro d
  induction d with
  | zero =>
    intro q hq
    have : q = k := by omega
    subst this
    exact co_dup h2 (by omega) h1 (by omega) (decide_eq_true (by omega)) (by rw [show ((q + 1 : Nat) : Int) - 1 = (q : Int) by omega]; exact wrapZ (by omega) (by omega)) (by simp) (by omega) r (by omega) rfl (by omega) (by rw [hrl, ziV_length]; omega)
  | succ d ih =>
    intro q hq
    have hx : s[q + 1]? = some s[q + 1] := List.getElem?_eq_getElem (by omega)
    have hy : s[q]? = some s[q] := List.getElem?_eq_getElem (by omega)
    have hne := hb q (by omega) _ _ hy hx
    exact co_next hx (by omega) hy (by omega) (decide_eq_true (by omega)) (by rw [show ((q + 1 : Nat) : Int) - 1 = (q : Int) by omega]; exact wrapZ (by omega) (by omega)) (by simpa using hne) (z_succ (by omega)) (ih (q + 1) (by omega))
end
def evB (x : Ev) : Bool := okB x.n x.d && decide (0 ≤ x.k ∧ x.k ≤ 1000000)
theorem evB_ok {x : Ev} (hi : EvI x) : evB x = true ↔ EvOk x := by
  simp only [evB, Bool.and_eq_true, decide_eq_true_eq]
  exact ⟨fun ⟨h1, h2, h3⟩ => ⟨hi, h1, h2, h3⟩, fun h => ⟨h.ok, h.k0, h.k1⟩⟩
section
variable {ev : List Ev}
abbrev efT (ev : List Ev) (g : List Int) (k : Nat) : List (Nat × SV) := [(0, .ls 0 ev.length), (3, .ls 1 g.length), (6, .ls 0 ev.length), (7, .pv (.int .i64 (ev.length : Int))), (8, .pv (.int .i64 (k : Int)))]
abbrev efH (ev : List Ev) (g : List Int) : List (Nat × Nat × SV) := [(0, 0, rowE ev), (1, 0, zrI g)]
theorem ef_good (hl : ev.length ≤ 999999) (h : ∀ x ∈ ev, EvOk x) : ∀ (d k : Nat), k + d = ev.length → RunsL Tryz.prog 1 1 (loopOf Tryz.prog 53 0) 36 2 (efT ev ((ev.map (·.k)).take k) k) (efH ev ((ev.map (·.k)).take k)) (.exit 0) [(0, .ls 0 ev.length), (3, .ls 1 (ev.map (·.k)).length)] (efH ev (ev.map (·.k))) := by
  intro d
  induction d with
  | zero =>
    intro k hk
    rw [List.take_of_length_le (by rw [List.length_map]; omega)]
    exact ef_end (decide_eq_false (by omega))
  | succ d ih =>
    intro k hk
    have hx : ev[k]? = some ev[k] := List.getElem?_eq_getElem (by omega)
    have ok := h _ (List.getElem_mem (show k < ev.length by omega))
    have r := ih (k + 1) (by omega)
    rw [List.take_add_one, List.getElem?_map, hx] at r
    have hn := num_any ev[k].k
    rw [decide_eq_true ⟨ok.k0, ok.k1⟩] at hn
    exact ef_next hx (by omega) (decide_eq_true (by omega)) (Check_ok ok.i.1 ok.i.2 ok.ok) hn (by rw [List.length_take]; omega) (z_succ (by omega)) r
theorem ef_wrong (hl : ev.length ≤ 999999) (hi : ∀ x ∈ ev, EvI x) : ∀ (d k : Nat), k + d = ev.length → (∃ j x, k ≤ j ∧ ev[j]? = some x ∧ evB x = false) → RunsL Tryz.prog 1 1 (loopOf Tryz.prog 53 0) 36 2 (efT ev ((ev.map (·.k)).take k) k) (efH ev ((ev.map (·.k)).take k)) .ret [(2, .pv (.bool false))] [] := by
  intro d
  induction d with
  | zero => intro k hk ⟨j, x, a, b, _⟩; have := (List.getElem?_eq_some_iff.1 b).1; omega
  | succ d ih =>
    intro k hk ⟨j, x, a, b, c⟩
    have hx : ev[k]? = some ev[k] := List.getElem?_eq_getElem (by omega)
    have oi := hi _ (List.getElem_mem (show k < ev.length by omega))
    by_cases h1 : okB ev[k].n ev[k].d = true
    · have hc := Check_ok oi.1 oi.2 h1
      by_cases h2 : 0 ≤ ev[k].k ∧ ev[k].k ≤ 1000000
      · have hn := num_any ev[k].k
        rw [decide_eq_true h2] at hn
        have r := ih (k + 1) (by omega) ⟨j, x, by
          rcases Nat.lt_or_ge k j with q | q
          · exact q
          · have e : k = j := by omega
            subst e
            rw [hx] at b
            cases b
            simp [evB, h1, h2] at c, b, c⟩
        rw [List.take_add_one, List.getElem?_map, hx] at r
        exact ef_next hx (by omega) (decide_eq_true (by omega)) hc hn (by rw [List.length_take]; omega) (z_succ (by omega)) r
      · have hn := num_any ev[k].k
        rw [decide_eq_false h2] at hn
        exact ef_num hx (by omega) (decide_eq_true (by omega)) hc hn
    · exact ef_bad hx (by omega) (decide_eq_true (by omega)) (Check_bad oi.1 oi.2 h1)
structure EvF (ev : List Ev) : Prop where
  ok : ∀ x ∈ ev, EvOk x
  nod : (ev.map (·.k)).Nodup
theorem EventsFit_yes (hl : ev.length ≤ 999999) (h : EvF ev) : FnL Tryz.prog 53 1 [.ls 0 ev.length] [(0, 0, rowE ev)] (.pv (.bool true)) 0 [] := by
  have r := ef_good hl h.ok ev.length 0 (by omega)
  rw [List.take_zero] at r
  have hlen : (ev.map (·.k)).length = ev.length := List.length_map _
  have hso := SortI_any (ev.map (·.k)) (by omega)
  have hnd : (sortI (ev.map (·.k))).Nodup := (sortI_perm _).nodup_iff.2 h.nod
  have hsl := sortI_length (ev.map (·.k))
  by_cases h2 : (ev.map (·.k)).length < 2
  · exact ef_few_true r hso (decide_eq_true (by omega)) (by simp)
  · exact ef_all_true r hso (decide_eq_false (by omega)) (co_good hsl (by omega) hnd ((ev.map (·.k)).length - 1) 0 (by omega)) (by simp)
theorem EventsFit_no (hl : ev.length ≤ 999999) (hi : ∀ x ∈ ev, EvI x) (h : ¬ EvF ev) : FnL Tryz.prog 53 1 [.ls 0 ev.length] [(0, 0, rowE ev)] (.pv (.bool false)) 0 [] := by
  have hlen : (ev.map (·.k)).length = ev.length := List.length_map _
  by_cases h1 : ∀ x ∈ ev, EvOk x
  · have r := ef_good hl h1 ev.length 0 (by omega)
    rw [List.take_zero] at r
    have hso := SortI_any (ev.map (·.k)) (by omega)
    have hnn : ¬ (ev.map (·.k)).Nodup := fun e => h ⟨h1, e⟩
    have hnd : ¬ (sortI (ev.map (·.k))).Nodup := fun e => hnn ((sortI_perm _).nodup_iff.1 e)
    have hsl := sortI_length (ev.map (·.k))
    obtain ⟨k, x, a1, a2, a3⟩ := find_dup (sortI_pw _) hnd
    have hk : k + 1 < (sortI (ev.map (·.k))).length := (List.getElem?_eq_some_iff.1 a2).1
    obtain ⟨c, ys, hc, hr⟩ := co_wrong hsl (by omega) a1 a2 a3
    exact ef_dup r hso (decide_eq_false (by omega)) (hr k 0 (by omega)) (by simp; omega)
  · refine ef_no ?_
    have r := ef_wrong hl hi ev.length 0 (by omega) (by
      simp only [Classical.not_forall] at h1
      obtain ⟨x, hx, hn⟩ := h1
      obtain ⟨j, hj⟩ := List.mem_iff_getElem?.1 hx
      exact ⟨j, x, by omega, hj, by
        cases e : evB x with
        | false => rfl
        | true => exact (hn ((evB_ok (hi x hx)).1 e)).elim⟩)
    rw [List.take_zero] at r
    exact r
end
structure VA (u : List Int) (b : List Bool) (fr : List Int) (ev : List Ev) (wh : List Int) : Prop where
  vd : Vd u b fr
  wf : WhF u b ev wh
  ef : EvF ev
  hp : ∀ k, 1 ≤ k → k < ev.length → heapAt ev k = true
section
variable {u fr wh : List Int} {b : List Bool} {ev : List Ev}
theorem VA.lens (h : VA u b fr ev wh) : u.length ≤ 200 ∧ b.length = u.length ∧ wh.length = u.length ∧ ev.length ≤ 200 ∧ fr.length ≤ 200 ∧ 1 ≤ u.length := by
  have h1 := h.vd.le
  have h2 := h.vd.len
  have h3 := h.wf.len
  have h4 := h.wf.cnt
  have h5 := List.count_le_length (a := true) (l := b)
  have h6 := h.vd.frlen
  have h7 := h.vd.pos
  omega
theorem ACheck_ok (h : VA u b fr ev wh) : FnL Tryz.prog 20 5 [agA u b fr ev wh] (agP u b fr ev wh) (.pv (.int .i64 0)) 0 [] := by
  have hl := h.lens
  exact ck_yes (SCheck_ok h.vd) (WhereFits_yes (by omega) (by omega) h.wf) (EventsFit_yes (by omega) h.ef) (IsHeap_yes h.ef.ok (by omega) h.hp)
theorem ACheck_bad (hf : fr.length ≤ 1000000) (he : ev.length ≤ 999999) (hi : ∀ x ∈ ev, EvI x) (h : ¬ VA u b fr ev wh) : FnL Tryz.prog 20 5 [agA u b fr ev wh] (agP u b fr ev wh) (.pv (.int .i64 8)) 0 [] := by
  by_cases h1 : Vd u b fr
  · have a1 := h1.le
    have a2 := h1.len
    by_cases h2 : WhF u b ev wh
    · by_cases h3 : EvF ev
      · refine ck_hea (SCheck_ok h1) (WhereFits_yes (by omega) (by omega) h2) (EventsFit_yes he h3) (IsHeap_no h3.ok (by omega) ?_)
        apply Classical.byContradiction
        intro hn
        exact h ⟨h1, h2, h3, fun k b1 b2 => by
          cases e : heapAt ev k with
          | true => rfl
          | false => exact (hn ⟨k, b1, b2, e⟩).elim⟩
      · exact ck_evs (SCheck_ok h1) (WhereFits_yes (by omega) (by omega) h2) (EventsFit_no he hi h3)
    · exact ck_whe (SCheck_ok h1) (WhereFits_no (by omega) (by omega) h2)
  · exact ck_tab (SCheck_bad hf h1)
end
end Go.Proofs.YtclpegneiomakaaGreat
