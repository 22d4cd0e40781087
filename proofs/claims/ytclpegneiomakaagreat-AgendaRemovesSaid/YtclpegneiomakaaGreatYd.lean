/-
  What package agenda's checks return, for any agenda. Conditions: none.
-/
import Derived.Test.YtclpegneiomakaaGreatW32
import Derived.Test.YtclpegneiomakaaGreatW22
namespace Go.Proofs.YtclpegneiomakaaGreat
open Go.RowKit
theorem less_any {x y : Ev} (hx : EvOk x) (hy : EvOk y) : Pure Tryz.prog 91 #[eventV x, eventV y] (.bool (ltE x y)) := by
  by_cases e : x.n = y.n ∧ x.d = y.d
  · have h1 : (x.n == y.n && (x.d == y.d && true)) = true := by simp [e.1, e.2]
    have h2 : ltE x y = decide (x.k < y.k) := by simp [ltE, e.1, e.2]
    rw [h2]
    cases h3 : decide (x.k < y.k)
    · exact less_eq_false h1 h3
    · exact less_eq_true h1 h3
  · have h1 : (x.n == y.n && (x.d == y.d && true)) = false := by
      rw [Bool.and_true, Bool.and_eq_false_iff]
      by_cases e1 : x.n = y.n
      · right; simp; exact fun e2 => e ⟨e1, e2⟩
      · left; simpa using e1
    have hne : x.n * y.d ≠ y.n * x.d := fun h => e (okB_one hx.ok hy.ok h)
    have hc := Cmp_ok hx.i.1 hx.i.2 hy.i.1 hy.i.2 hx.ok hy.ok
    have h2 : ltE x y = decide ((x.n * y.d - y.n * x.d).sign < 0) := by
      simp only [ltE, hne, decide_false, Bool.false_and, Bool.or_false]
      by_cases h3 : x.n * y.d < y.n * x.d
      · rw [decide_eq_true h3, decide_eq_true (by rw [Int.sign_eq_neg_one_of_neg (by omega)]; omega)]
      · rw [decide_eq_false h3, decide_eq_false (by rw [Int.sign_eq_one_of_pos (by omega)]; omega)]
    rw [h2]
    cases h3 : decide ((x.n * y.d - y.n * x.d).sign < 0)
    · exact less_ne_false h1 hc h3
    · exact less_ne_true h1 hc h3
theorem parent_any {k : Nat} (h : 1 ≤ k) (hk : k ≤ 1000000) : Pure Tryz.prog 92 #[.int .i64 (k : Int)] (.int .i64 (((k - 1) / 2 : Nat) : Int)) := by
  refine parent_path (y := ((k - 1 : Nat) : Int)) (by rw [show (k : Int) - 1 = ((k - 1 : Nat) : Int) by omega]; exact wrapZ (by omega) (by omega)) (by decide) ?_
  have e : Int.tdiv ((k - 1 : Nat) : Int) 2 = (((k - 1) / 2 : Nat) : Int) := by rw [Int.tdiv_eq_ediv_of_nonneg (by omega)]; omega
  rw [e]
  exact wrapZ (by omega) (by omega)
theorem num_any (z : Int) : Pure Tryz.prog 72 #[.int .i64 z] (.bool (decide (0 ≤ z ∧ z ≤ 1000000))) := by
  by_cases h1 : 0 ≤ z
  · by_cases h2 : z ≤ 1000000
    · rw [decide_eq_true ⟨h1, h2⟩]; exact num_ok (decide_eq_true h1) (decide_eq_true h2)
    · rw [decide_eq_false (fun h => h2 h.2)]; exact num_hi (decide_eq_true h1) (decide_eq_false h2)
  · rw [decide_eq_false (fun h => h1 h.1)]; exact num_lo (decide_eq_false h1)

def leastA (ev : List Ev) (i : Nat) : Nat := match ev[2 * i + 1]?, ev[i]? with
  | some x, some m => if ltE x m = true then 2 * i + 1 else i
  | _, _ => i
def leastM (ev : List Ev) (i : Nat) : Nat := match ev[2 * i + 2]?, ev[leastA ev i]? with
  | some y, some m => if ltE y m = true then 2 * i + 2 else leastA ev i
  | _, _ => leastA ev i
theorem Least_any {ev : List Ev} {i : Nat} (h : ∀ x ∈ ev, EvOk x) (hl : ev.length ≤ 1000000) (hi : i < ev.length) : FnL Tryz.prog 122 1 [.ls 0 ev.length, .pv (.int .i64 (i : Int))] [(0, 0, rowE ev)] (.pv (.int .i64 ((leastM ev i : Nat) : Int))) 0 [] := by
  obtain ⟨m, hm⟩ : ∃ m, ev[i]? = some m := ⟨_, List.getElem?_eq_getElem hi⟩
  have om := h m (List.mem_of_getElem? hm)
  have hq : Value.int .i64 (IntKind.i64.wrap (2 * (i : Int))) = .int .i64 ((2 * i : Nat) : Int) := by rw [show 2 * (i : Int) = ((2 * i : Nat) : Int) by omega]; exact wrapZ (by omega) (by omega)
  have hq1 : Value.int .i64 (IntKind.i64.wrap (((2 * i : Nat) : Int) + 1)) = .int .i64 ((2 * i + 1 : Nat) : Int) := by rw [show ((2 * i : Nat) : Int) + 1 = ((2 * i + 1 : Nat) : Int) by omega]; exact wrapZ (by omega) (by omega)
  have hq2 : Value.int .i64 (IntKind.i64.wrap (((2 * i : Nat) : Int) + 2)) = .int .i64 ((2 * i + 2 : Nat) : Int) := by rw [show ((2 * i : Nat) : Int) + 2 = ((2 * i + 2 : Nat) : Int) by omega]; exact wrapZ (by omega) (by omega)
  have hs1 : Value.int .i64 (IntKind.i64.wrap (((2 * i + 1 : Nat) : Int) + 1)) = .int .i64 ((2 * i + 2 : Nat) : Int) := by rw [show ((2 * i + 1 : Nat) : Int) + 1 = ((2 * i + 2 : Nat) : Int) by omega]; exact wrapZ (by omega) (by omega)
  have hs2 : Value.int .i64 (IntKind.i64.wrap (((2 * i + 2 : Nat) : Int) + 1)) = .int .i64 ((2 * i + 3 : Nat) : Int) := by rw [show ((2 * i + 2 : Nat) : Int) + 1 = ((2 * i + 3 : Nat) : Int) by omega]; exact wrapZ (by omega) (by omega)
  have b1 : decide (((2 * i + 1 : Nat) : Int) ≤ ((2 * i + 2 : Nat) : Int)) = true := decide_eq_true (by omega)
  have b2 : decide (((2 * i + 2 : Nat) : Int) ≤ ((2 * i + 2 : Nat) : Int)) = true := decide_eq_true (by omega)
  have b3 : decide (((2 * i + 3 : Nat) : Int) ≤ ((2 * i + 2 : Nat) : Int)) = false := decide_eq_false (by omega)
  have hin : 0 ≤ (i : Int) ∧ (i : Int) < (ev.length : Int) := by omega
  by_cases c1 : 2 * i + 1 < ev.length
  · obtain ⟨x, hx⟩ : ∃ x, ev[2 * i + 1]? = some x := ⟨_, List.getElem?_eq_getElem c1⟩
    have ox := h x (List.mem_of_getElem? hx)
    have l1 : decide (((2 * i + 1 : Nat) : Int) < (ev.length : Int)) = true := decide_eq_true (by omega)
    have hix : 0 ≤ ((2 * i + 1 : Nat) : Int) ∧ ((2 * i + 1 : Nat) : Int) < (ev.length : Int) := by omega
    have hc1 := less_any ox om
    by_cases c2 : 2 * i + 2 < ev.length
    · obtain ⟨y, hy⟩ : ∃ y, ev[2 * i + 2]? = some y := ⟨_, List.getElem?_eq_getElem c2⟩
      have oy := h y (List.mem_of_getElem? hy)
      have l2 : decide (((2 * i + 2 : Nat) : Int) < (ev.length : Int)) = true := decide_eq_true (by omega)
      have hiy : 0 ≤ ((2 * i + 2 : Nat) : Int) ∧ ((2 * i + 2 : Nat) : Int) < (ev.length : Int) := by omega
      cases e1 : ltE x m
      · rw [e1] at hc1
        have hc2 := less_any oy om
        cases e2 : ltE y m <;> rw [e2] at hc2
        · have e : leastM ev i = i := by simp [leastM, leastA, hx, hm, hy, e1, e2]
          rw [e]; exact lo_2ff hq hq1 hq2 b1 l1 hix hx hin hm hc1 hs1 b2 l2 hiy hy hc2 hs2 b3
        · have e : leastM ev i = 2 * i + 2 := by simp [leastM, leastA, hx, hm, hy, e1, e2]
          rw [e]; exact lo_2ft hq hq1 hq2 b1 l1 hix hx hin hm hc1 hs1 b2 l2 hiy hy hc2 hs2 b3
      · rw [e1] at hc1
        have hc2 := less_any oy ox
        cases e2 : ltE y x <;> rw [e2] at hc2
        · have e : leastM ev i = 2 * i + 1 := by simp [leastM, leastA, hx, hm, hy, e1, e2]
          rw [e]; exact lo_2tf hq hq1 hq2 b1 l1 hix hx hin hm hc1 hs1 b2 l2 hiy hy hc2 hs2 b3
        · have e : leastM ev i = 2 * i + 2 := by simp [leastM, leastA, hx, hm, hy, e1, e2]
          rw [e]; exact lo_2tt hq hq1 hq2 b1 l1 hix hx hin hm hc1 hs1 b2 l2 hiy hy hc2 hs2 b3
    · have hy : ev[2 * i + 2]? = none := List.getElem?_eq_none (by omega)
      have l2 : decide (((2 * i + 2 : Nat) : Int) < (ev.length : Int)) = false := decide_eq_false (by omega)
      cases e1 : ltE x m <;> rw [e1] at hc1
      · have e : leastM ev i = i := by simp [leastM, leastA, hx, hm, hy, e1]
        rw [e]; exact lo_1f hq hq1 hq2 b1 l1 hix hx hin hm hc1 hs1 b2 l2
      · have e : leastM ev i = 2 * i + 1 := by simp [leastM, leastA, hx, hm, hy, e1]
        rw [e]; exact lo_1t hq hq1 hq2 b1 l1 hix hx hin hm hc1 hs1 b2 l2
  · have hx : ev[2 * i + 1]? = none := List.getElem?_eq_none (by omega)
    have hy : ev[2 * i + 2]? = none := List.getElem?_eq_none (by omega)
    have e : leastM ev i = i := by simp [leastM, leastA, hx, hy]
    rw [e]; exact lo_0 hq hq1 hq2 b1 (decide_eq_false (by omega))

def heapAt (ev : List Ev) (k : Nat) : Bool := match ev[k]?, ev[(k - 1) / 2]? with
  | some x, some y => !ltE x y
  | _, _ => true
abbrev ihT (ev : List Ev) (k : Nat) : List (Nat × SV) := [(0, .ls 0 ev.length), (3, .pv (.int .i64 (k : Int)))]
theorem ih_round {ev : List Ev} {k : Nat} (h : ∀ x ∈ ev, EvOk x) (hl : ev.length ≤ 1000000) (h1 : 1 ≤ k) (hk : k < ev.length) : ∃ x y, ev[k]? = some x ∧ ev[(k - 1) / 2]? = some y ∧ Pure Tryz.prog 91 #[eventV x, eventV y] (.bool (ltE x y)) ∧ heapAt ev k = !ltE x y := by
  have hj : (k - 1) / 2 < ev.length := by omega
  refine ⟨_, _, List.getElem?_eq_getElem hk, List.getElem?_eq_getElem hj, less_any (h _ (List.getElem_mem hk)) (h _ (List.getElem_mem hj)), ?_⟩
  simp [heapAt, hk, hj]
theorem ih_good {ev : List Ev} (h : ∀ x ∈ ev, EvOk x) (hl : ev.length ≤ 1000000) : ∀ (d k : Nat), ev.length ≤ k + d → 1 ≤ k → (∀ j, k ≤ j → j < ev.length → heapAt ev j = true) → RunsL Tryz.prog 1 1 (loopOf Tryz.prog 54 0) 20 1 (ihT ev k) [(0, 0, rowE ev)] (.exit 0) [] [] := by
  intro d
  induction d with
  | zero => intro k hd h1 hg; exact ih_end (decide_eq_false (by omega))
  | succ d ih =>
    intro k hd h1 hg
    by_cases hk : k < ev.length
    · obtain ⟨x, y, hx, hy, hc, e⟩ := ih_round h hl h1 hk
      rw [hg k (Nat.le_refl _) hk] at e
      have e' : ltE x y = false := by simpa using e.symm
      rw [e'] at hc
      exact ih_next hx (by omega) hy (by omega) (decide_eq_true (by omega)) (parent_any h1 (by omega)) hc (z_succ (by omega)) (ih (k + 1) (by omega) (by omega) (fun j a b => hg j (by omega) b))
    · exact ih_end (decide_eq_false (by omega))
theorem ih_wrong {ev : List Ev} (h : ∀ x ∈ ev, EvOk x) (hl : ev.length ≤ 1000000) : ∀ (d k : Nat), ev.length ≤ k + d → 1 ≤ k → (∃ j, k ≤ j ∧ j < ev.length ∧ heapAt ev j = false) → RunsL Tryz.prog 1 1 (loopOf Tryz.prog 54 0) 20 1 (ihT ev k) [(0, 0, rowE ev)] .ret [(2, .pv (.bool false))] [] := by
  intro d
  induction d with
  | zero => intro k hd h1 ⟨j, a, b, _⟩; omega
  | succ d ih =>
    intro k hd h1 ⟨j, a, b, hj⟩
    obtain ⟨x, y, hx, hy, hc, e⟩ := ih_round h hl h1 (show k < ev.length by omega)
    cases e' : ltE x y <;> rw [e'] at hc e
    · refine ih_next hx (by omega) hy (by omega) (decide_eq_true (by omega)) (parent_any h1 (by omega)) hc (z_succ (by omega)) (ih (k + 1) (by omega) (by omega) ⟨j, ?_, b, hj⟩)
      rcases Nat.lt_or_ge k j with c | c
      · exact c
      · have : k = j := by omega
        subst this; rw [hj] at e; cases e
    · exact ih_bad hx (by omega) hy (by omega) (decide_eq_true (by omega)) (parent_any h1 (by omega)) hc
theorem IsHeap_yes {ev : List Ev} (h : ∀ x ∈ ev, EvOk x) (hl : ev.length ≤ 1000000) (hg : ∀ j, 1 ≤ j → j < ev.length → heapAt ev j = true) : FnL Tryz.prog 54 1 [.ls 0 ev.length] [(0, 0, rowE ev)] (.pv (.bool true)) 0 [] := ih_yes (ih_good h hl ev.length 1 (by omega) (by omega) hg)
theorem IsHeap_no {ev : List Ev} (h : ∀ x ∈ ev, EvOk x) (hl : ev.length ≤ 1000000) (hg : ∃ j, 1 ≤ j ∧ j < ev.length ∧ heapAt ev j = false) : FnL Tryz.prog 54 1 [.ls 0 ev.length] [(0, 0, rowE ev)] (.pv (.bool false)) 0 [] := ih_no (ih_wrong h hl ev.length 1 (by omega) (by omega) hg)

section
variable {u fr wh : List Int} {b : List Bool} {ev : List Ev}
def hasEvB (u : List Int) (ev : List Ev) (wh : List Int) (k : Nat) : Bool := match wh[k]?, u[k]? with
  | some z, some c => decide (0 ≤ z) && (match ev[z.toNat]? with
    | some x => decide (x.i = (k : Int)) && decide (x.w = c)
    | none => false)
  | _, _ => false
theorem HasEv_any {k : Nat} (hw : k < wh.length) (hu : k < u.length) : FnL Tryz.prog 88 5 [agA u b fr ev wh, .pv (.int .i64 (k : Int))] (agP u b fr ev wh) (.pv (.bool (hasEvB u ev wh k))) 0 [] := by
  obtain ⟨z, hz⟩ : ∃ z, wh[k]? = some z := ⟨_, List.getElem?_eq_getElem hw⟩
  obtain ⟨c, hc⟩ : ∃ c, u[k]? = some c := ⟨_, List.getElem?_eq_getElem hu⟩
  by_cases h0 : 0 ≤ z
  · by_cases h1 : z < (ev.length : Int)
    · obtain ⟨x, hx⟩ : ∃ x, ev[z.toNat]? = some x := ⟨_, List.getElem?_eq_getElem (by omega)⟩
      have e : hasEvB u ev wh k = (x.i == (k : Int) && (x.w == c && true)) := by
        simp only [hasEvB, hz, hc, hx, decide_eq_true h0, Bool.true_and, Bool.and_true]
        rfl
      rw [e]
      cases e2 : (x.i == (k : Int) && (x.w == c && true))
      · exact he_false (by omega) hz (by omega) hc (decide_eq_true h0) (decide_eq_true h1) ⟨h0, h1⟩ hx e2
      · exact he_true (by omega) hz (by omega) hc (decide_eq_true h0) (decide_eq_true h1) ⟨h0, h1⟩ hx e2
    · have hx : ev[z.toNat]? = none := List.getElem?_eq_none (by omega)
      have e : hasEvB u ev wh k = false := by simp [hasEvB, hz, hc, hx]
      rw [e]
      exact he_big (by omega) hz (by omega) hc (decide_eq_true h0) (decide_eq_false h1)
  · have e : hasEvB u ev wh k = false := by simp [hasEvB, hz, hc, h0]
    rw [e]
    exact he_neg (by omega) hz (by omega) hc (decide_eq_false h0)
def whB (u : List Int) (b : List Bool) (ev : List Ev) (wh : List Int) (k : Nat) : Bool := match b[k]? with
  | some true => hasEvB u ev wh k
  | some false => wh[k]? == some (-1)
  | none => true
abbrev wfT (b : List Bool) (j k : Nat) : List (Nat × SV) := [(1, .pp 5 0), (3, .pv (.int .i64 (j : Int))), (16, .ls 1 b.length), (17, .pv (.int .i64 (b.length : Int))), (18, .pv (.int .i64 (k : Int)))]
abbrev wfH (u : List Int) (b : List Bool) (fr : List Int) (ev : List Ev) (wh : List Int) : List (Nat × Nat × SV) := [(5, 0, .ls 0 u.length), (5, 1, .ls 1 b.length), (5, 2, .ls 2 fr.length), (5, 3, .ls 3 ev.length), (5, 4, .ls 4 wh.length), (0, 0, zrI u), (1, 0, zrB b), (2, 0, zrI fr), (3, 0, rowE ev), (4, 0, zrI wh)]
theorem wf_good (hw : wh.length = b.length) (hu : u.length = b.length) (hl : b.length ≤ 1000000) : ∀ (d k j : Nat), k + d = b.length → j ≤ k → (∀ i, k ≤ i → i < b.length → whB u b ev wh i = true) →
    RunsL Tryz.prog 5 5 (loopOf Tryz.prog 52 0) 51 6 (wfT b j k) (wfH u b fr ev wh) (.exit 0) [(1, .pp 5 0), (3, .pv (.int .i64 ((j + (b.drop k).count true : Nat) : Int)))] (wfH u b fr ev wh) := by
  intro d
  induction d with
  | zero =>
    intro k j hd hj _
    rw [List.drop_of_length_le (by omega)]
    exact wf_end (decide_eq_false (by omega))
  | succ d ih =>
    intro k j hd hj hg
    have hk : k < b.length := by omega
    have g := hg k (Nat.le_refl _) hk
    have hb : b[k]? = some b[k] := List.getElem?_eq_getElem hk
    have hdr : b.drop k = b[k] :: b.drop (k + 1) := List.drop_eq_getElem_cons hk
    rw [hdr]
    cases e : b[k] <;> rw [e] at hb
    · have hz : wh[k]? = some (-1) := by simpa [whB, hb] using g
      rw [List.count_cons_of_ne (by decide)]
      exact wf_free hb (by omega) (decide_eq_true (by omega)) (by omega) hz (by decide) (z_succ (by omega)) (ih (k + 1) j (by omega) (by omega) (fun i a c => hg i (by omega) c))
    · have hh : hasEvB u ev wh k = true := by simpa [whB, hb] using g
      have hc := HasEv_any (b := b) (fr := fr) (ev := ev) (show k < wh.length by omega) (show k < u.length by omega)
      rw [hh] at hc
      rw [List.count_cons_self, show j + ((b.drop (k + 1)).count true + 1) = (j + 1) + (b.drop (k + 1)).count true by omega]
      exact wf_used hb (by omega) (decide_eq_true (by omega)) hc (z_succ (by omega)) (z_succ (by omega)) (ih (k + 1) (j + 1) (by omega) (by omega) (fun i a c => hg i (by omega) c))
theorem wf_wrong (hw : wh.length = b.length) (hu : u.length = b.length) (hl : b.length ≤ 1000000) : ∀ (d k j : Nat), k + d = b.length → j ≤ k → (∃ i, k ≤ i ∧ i < b.length ∧ whB u b ev wh i = false) →
    RunsL Tryz.prog 5 5 (loopOf Tryz.prog 52 0) 51 6 (wfT b j k) (wfH u b fr ev wh) .ret [(2, .pv (.bool false))] [] := by
  intro d
  induction d with
  | zero => intro k j hd hj ⟨i, a, c, _⟩; omega
  | succ d ih =>
    intro k j hd hj ⟨i, a, c, hi⟩
    have hk : k < b.length := by omega
    have hb : b[k]? = some b[k] := List.getElem?_eq_getElem hk
    obtain ⟨z, hz⟩ : ∃ z, wh[k]? = some z := ⟨_, List.getElem?_eq_getElem (by omega)⟩
    have hc := HasEv_any (b := b) (fr := fr) (ev := ev) (show k < wh.length by omega) (show k < u.length by omega)
    have more : whB u b ev wh k = true → ∃ i, k + 1 ≤ i ∧ i < b.length ∧ whB u b ev wh i = false := fun h => by
      refine ⟨i, ?_, c, hi⟩
      rcases Nat.lt_or_ge k i with q | q
      · exact q
      · have : k = i := by omega
        subst this; rw [hi] at h; cases h
    cases e : b[k] <;> rw [e] at hb
    · by_cases h1 : z = -1
      · subst h1
        exact wf_free hb (by omega) (decide_eq_true (by omega)) (by omega) hz (by decide) (z_succ (by omega)) (ih (k + 1) j (by omega) (by omega) (more (by simp [whB, hb, hz])))
      · exact wf_lost hb (by omega) (decide_eq_true (by omega)) (by omega) hz (by simpa using h1)
    · cases hh : hasEvB u ev wh k <;> rw [hh] at hc
      · exact wf_gone hb (by omega) (decide_eq_true (by omega)) hc
      · exact wf_used hb (by omega) (decide_eq_true (by omega)) hc (z_succ (by omega)) (z_succ (by omega)) (ih (k + 1) (j + 1) (by omega) (by omega) (more (by simp [whB, hb, hh])))
structure WhF (u : List Int) (b : List Bool) (ev : List Ev) (wh : List Int) : Prop where
  len : wh.length = b.length
  at_ : ∀ i, i < b.length → whB u b ev wh i = true
  cnt : b.count true = ev.length
theorem WhereFits_yes (hu : u.length = b.length) (hl : b.length ≤ 1000000) (h : WhF u b ev wh) : FnL Tryz.prog 52 5 [agA u b fr ev wh] (agP u b fr ev wh) (.pv (.bool true)) 0 [] := by
  have r := wf_good (fr := fr) (ev := ev) h.len hu hl b.length 0 0 (by omega) (by omega) (fun i _ c => h.at_ i c)
  rw [List.drop_zero, Nat.zero_add, h.cnt] at r
  exact wf_yes_true (by simp [h.len]) r (by simp)
theorem WhereFits_no (hu : u.length = b.length) (hl : b.length ≤ 1000000) (h : ¬ WhF u b ev wh) : FnL Tryz.prog 52 5 [agA u b fr ev wh] (agP u b fr ev wh) (.pv (.bool false)) 0 [] := by
  by_cases h1 : wh.length = b.length
  · have hn : (!((wh.length : Int) == (b.length : Int))) = false := by simp [h1]
    by_cases h2 : ∀ i, i < b.length → whB u b ev wh i = true
    · have r := wf_good (fr := fr) (ev := ev) h1 hu hl b.length 0 0 (by omega) (by omega) (fun i _ c => h2 i c)
      rw [List.drop_zero, Nat.zero_add] at r
      refine wf_yes_false hn r ?_
      have : b.count true ≠ ev.length := fun e => h ⟨h1, h2, e⟩
      simp; omega
    · refine wf_no hn (wf_wrong h1 hu hl b.length 0 0 (by omega) (by omega) ?_)
      simp only [Classical.not_forall] at h2
      obtain ⟨i, hi, e⟩ := h2
      exact ⟨i, by omega, hi, by simpa using e⟩
  · exact wf_len (by simp; omega)
end
end Go.Proofs.YtclpegneiomakaaGreat
