/-
  What the reference's functions return, for a table whatever. Conditions: none.
-/
import Derived.Test.YtclpegneiomakaaGreatZf
namespace Go.Proofs.YtclpegneiomakaaGreat
open Go.RowKit
def mark : List Bool → List Int → Option (List Bool)
  | g, [] => some g
  | g, x :: r => if 0 ≤ x ∧ x < (g.length : Int) ∧ g[x.toNat]? = some false then mark (g.set x.toNat true) r else none
theorem mark_strike : ∀ (f : List Int) (g : List Bool), mark g f = (strike (g.map not) f).map (List.map not)
  | [], g => by simp [mark, strike, List.map_map, Function.comp_def]
  | x :: r, g => by
    unfold mark strike
    have e1 : (g.map not).length = g.length := by simp
    have e2 : ((g.map not)[x.toNat]? = some true) ↔ (g[x.toNat]? = some false) := by
      rw [List.getElem?_map]
      cases g[x.toNat]? with
      | none => simp
      | some c => cases c <;> simp
    have e3 : (g.set x.toNat true).map not = (g.map not).set x.toNat false := by rw [List.map_set]; rfl
    rw [e1]
    by_cases h : 0 ≤ x ∧ x < (g.length : Int) ∧ g[x.toNat]? = some false
    · rw [if_pos h, if_pos ⟨h.1, h.2.1, e2.2 h.2.2⟩, mark_strike r, e3]
    · rw [if_neg h, if_neg (fun h' => h ⟨h'.1, h'.2.1, e2.1 h'.2.2⟩)]; rfl
theorem mark_len {f : List Int} {g g' : List Bool} (h : mark g f = some g') : g'.length = g.length := by
  rw [mark_strike] at h
  cases hs : strike (g.map not) f with
  | none => rw [hs] at h; cases h
  | some k => rw [hs] at h; cases h; rw [List.length_map, strike_len hs, List.length_map]
theorem mark_ok {n : Nat} {f : List Int} {g : List Bool} (h : mark (List.replicate n false) f = some g) : (∀ x ∈ f, 0 ≤ x ∧ x < (n : Int)) ∧ f.Nodup ∧ ∀ k, k < n → (g[k]? = some true ↔ (k : Int) ∈ f) := by
  rw [mark_strike] at h
  cases hs : strike ((List.replicate n false).map not) f with
  | none => rw [hs] at h; cases h
  | some t =>
    rw [hs] at h
    cases h
    obtain ⟨h1, h2, h3⟩ := strike_ok hs
    refine ⟨fun x hx => ?_, h2, fun k hk => ?_⟩
    · obtain ⟨a1, a2, _⟩ := h1 x hx
      exact ⟨a1, by simpa using a2⟩
    · rw [List.getElem?_map, h3]
      by_cases hm : (k : Int) ∈ f
      · rw [if_pos hm]; simp [hm]
      · rw [if_neg hm]
        simp [hm, hk]
theorem mark_yes {n : Nat} {f : List Int} (h1 : ∀ x ∈ f, 0 ≤ x ∧ x < (n : Int)) (h2 : f.Nodup) : ∃ g, mark (List.replicate n false) f = some g := by
  obtain ⟨g, hg⟩ := strike_yes (f := f) (g := (List.replicate n false).map not) (fun x hx => by
    obtain ⟨a1, a2⟩ := h1 x hx
    refine ⟨a1, by simpa using a2, ?_⟩
    rw [List.getElem?_map, List.getElem?_replicate, if_pos (by omega)]; rfl) h2
  exact ⟨g.map not, by rw [mark_strike, hg]; rfl⟩
/-- What a round of the second loop asks. -/
def okAt (u : List Int) (b g : List Bool) (k : Nat) : Prop := ∀ (y : Int) (c d : Bool), u[k]? = some y → b[k]? = some c → g[k]? = some d → 0 ≤ y ∧ y ≤ 1000000 ∧ c ≠ d ∧ (c = true → 1 ≤ y)
section
variable {u fr : List Int} {b : List Bool}
abbrev rcH (u : List Int) (b : List Bool) (fr : List Int) (g : List Bool) : List (Nat × Nat × SV) := [(3, 0, .ls 0 u.length), (3, 1, .ls 1 b.length), (3, 2, .ls 2 fr.length), (0, 0, zrI u), (1, 0, zrB b), (2, 0, zrI fr), (4, 0, .row 4 1 u.length (zbV g))]
theorem rck_loop0 (hf : fr.length ≤ 1000000) : ∀ (d k : Nat) (g : List Bool), k + d = fr.length → g.length = u.length →
    (∀ g', mark g (fr.drop k) = some g' → RunsL Tryz.prog 3 3 (loopOf Tryz.prog 45 0) 117 5 [(1, .pp 3 0), (3, .pv (.int .i64 (u.length : Int))), (4, .ls 4 u.length), (5, .pv (.int .i64 (k : Int)))] (rcH u b fr g) (.exit 0) [(1, .pp 3 0), (3, .pv (.int .i64 (u.length : Int))), (4, .ls 4 u.length)] (rcH u b fr g')) ∧
    (mark g (fr.drop k) = none → RunsL Tryz.prog 3 3 (loopOf Tryz.prog 45 0) 117 5 [(1, .pp 3 0), (3, .pv (.int .i64 (u.length : Int))), (4, .ls 4 u.length), (5, .pv (.int .i64 (k : Int)))] (rcH u b fr g) .ret [(2, .pv (.int .i64 8))] [])
  | 0, k, g, h, hg => by
    have e : fr.drop k = [] := List.drop_eq_nil_iff.2 (by omega)
    rw [e]
    refine ⟨fun g' h' => ?_, fun h' => (by cases h')⟩
    cases h'
    exact rc0_end (by simp; omega)
  | d + 1, k, g, h, hg => by
    have hk : k < fr.length := by omega
    obtain ⟨x, hx⟩ : ∃ x, fr[k]? = some x := ⟨_, List.getElem?_eq_getElem hk⟩
    have e : fr.drop k = x :: fr.drop (k + 1) := by
      rw [List.drop_eq_getElem_cons hk]
      rw [List.getElem?_eq_getElem hk] at hx
      cases hx; rfl
    have i1 : 0 ≤ (k : Int) ∧ (k : Int) < (fr.length : Int) := by omega
    have lt : decide ((k : Int) < (fr.length : Int)) = true := by simp; omega
    rw [e]
    unfold mark
    by_cases h0 : x < 0
    · rw [if_neg (by omega)]
      exact ⟨fun g' h' => (by cases h'), fun _ => rc0_neg hx i1 lt (by simpa using h0)⟩
    · have n0 : decide (x < 0) = false := by simpa using h0
      by_cases h1 : x ≥ (u.length : Int)
      · rw [if_neg (by omega)]
        exact ⟨fun g' h' => (by cases h'), fun _ => rc0_big hx i1 lt n0 (by simpa using h1)⟩
      · have n1 : decide (x ≥ (u.length : Int)) = false := decide_eq_false h1
        have hxl : x.toNat < g.length := by omega
        have hix : 0 ≤ x ∧ x < (u.length : Int) := by omega
        obtain ⟨c, hc⟩ : ∃ c, g[x.toNat]? = some c := ⟨_, List.getElem?_eq_getElem hxl⟩
        cases c with
        | true =>
          rw [if_neg (fun h' => by rw [hc] at h'; cases h'.2.2)]
          exact ⟨fun g' h' => (by cases h'), fun _ => rc0_twice hx i1 lt n0 n1 hix hc⟩
        | false =>
          rw [if_pos ⟨hix.1, by omega, hc⟩]
          obtain ⟨i3, i4⟩ := rck_loop0 hf d (k + 1) (g.set x.toNat true) (by omega) (by rw [List.length_set]; exact hg)
          exact ⟨fun g' h' => rc0_next hx i1 lt n0 n1 hix hc hxl (z_succ (by omega)) (i3 g' h'), fun h' => rc0_next hx i1 lt n0 n1 hix hc hxl (z_succ (by omega)) (i4 h')⟩
theorem rck_loop1 {g : List Bool} (hn : u.length ≤ 1000000) (hb : b.length = u.length) (hg : g.length = u.length) : ∀ (d k : Nat), k + d = u.length →
    ((∀ j, k ≤ j → j < u.length → okAt u b g j) → RunsL Tryz.prog 3 3 (loopOf Tryz.prog 45 1) 117 5 [(1, .pp 3 0), (3, .pv (.int .i64 (u.length : Int))), (4, .ls 4 u.length), (6, .pv (.int .i64 (k : Int)))] (rcH u b fr g) (.exit 2) [] []) ∧
    (¬ (∀ j, k ≤ j → j < u.length → okAt u b g j) → RunsL Tryz.prog 3 3 (loopOf Tryz.prog 45 1) 117 5 [(1, .pp 3 0), (3, .pv (.int .i64 (u.length : Int))), (4, .ls 4 u.length), (6, .pv (.int .i64 (k : Int)))] (rcH u b fr g) .ret [(2, .pv (.int .i64 8))] [])
  | 0, k, h => ⟨fun _ => rc1_end (by simp; omega), fun hno => (hno fun j h1 h2 => by omega).elim⟩
  | d + 1, k, h => by
    have hk : k < u.length := by omega
    obtain ⟨y, hy⟩ : ∃ y, u[k]? = some y := ⟨_, List.getElem?_eq_getElem hk⟩
    obtain ⟨c, hc⟩ : ∃ c, b[k]? = some c := ⟨_, List.getElem?_eq_getElem (by omega)⟩
    obtain ⟨q, hq⟩ : ∃ q, g[k]? = some q := ⟨_, List.getElem?_eq_getElem (by omega)⟩
    obtain ⟨i3, i4⟩ := rck_loop1 hn hb hg d (k + 1) (by omega)
    have i1 : 0 ≤ (k : Int) ∧ (k : Int) < (u.length : Int) := by omega
    have i2 : 0 ≤ (k : Int) ∧ (k : Int) < (b.length : Int) := by omega
    have lt : decide ((k : Int) < (u.length : Int)) = true := by simp; omega
    have split : (∀ j, k ≤ j → j < u.length → okAt u b g j) ↔ (0 ≤ y ∧ y ≤ 1000000 ∧ c ≠ q ∧ (c = true → 1 ≤ y)) ∧ ∀ j, k + 1 ≤ j → j < u.length → okAt u b g j := by
      constructor
      · intro H
        exact ⟨H k (Nat.le_refl _) hk y c q hy hc hq, fun j h1 h2 => H j (by omega) h2⟩
      · rintro ⟨H1, H2⟩ j h1 h2
        by_cases e : j = k
        · subst e
          intro y' c' q' hy' hc' hq'
          rw [hy] at hy'; rw [hc] at hc'; rw [hq] at hq'
          cases hy'; cases hc'; cases hq'
          exact H1
        · exact H2 j (by omega) h2
    by_cases h0 : y < 0
    · exact ⟨fun H => by have := (split.1 H).1.1; omega, fun _ => rc1_neg hy i1 lt (by simpa using h0)⟩
    · have n0 : decide (y < 0) = false := by simpa using h0
      by_cases h1 : y > 1000000
      · exact ⟨fun H => by have := (split.1 H).1.2.1; omega, fun _ => rc1_big hy i1 lt n0 (by simpa using h1)⟩
      · have n1 : decide (y > 1000000) = false := decide_eq_false h1
        cases c with
        | true =>
          cases q with
          | true => exact ⟨fun H => ((split.1 H).1.2.2.1 rfl).elim, fun _ => rc1_eq_true hy i1 lt n0 n1 hc i2 hq⟩
          | false =>
            by_cases h2 : y < 1
            · exact ⟨fun H => by have := (split.1 H).1.2.2.2 rfl; omega, fun _ => rc1_one hy i1 lt n0 n1 hc i2 hq (by simpa using h2)⟩
            · have n2 : decide (y < 1) = false := by simpa using h2
              exact ⟨fun H => rc1_next_t hy i1 lt n0 n1 hc i2 hq n2 (z_succ (by omega)) (i3 (split.1 H).2), fun H => rc1_next_t hy i1 lt n0 n1 hc i2 hq n2 (z_succ (by omega)) (i4 fun H2 => H (split.2 ⟨⟨by omega, by omega, by decide, fun _ => by omega⟩, H2⟩))⟩
        | false =>
          cases q with
          | true => exact ⟨fun H => rc1_next_f hy i1 lt n0 n1 hc i2 hq (z_succ (by omega)) (i3 (split.1 H).2), fun H => rc1_next_f hy i1 lt n0 n1 hc i2 hq (z_succ (by omega)) (i4 fun H2 => H (split.2 ⟨⟨by omega, by omega, by decide, fun h => (by cases h)⟩, H2⟩))⟩
          | false => exact ⟨fun H => ((split.1 H).1.2.2.1 rfl).elim, fun _ => rc1_eq_false hy i1 lt n0 n1 hc i2 hq⟩
theorem RSCheck_ok (h : Vd u b fr) : FnL Tryz.prog 45 3 [slA u b fr] (slP u b fr) (.pv (.int .i64 0)) 0 [] := by
  have hp := h.pos
  have hle := h.le
  obtain ⟨g, hg⟩ := mark_yes h.rng h.nod
  obtain ⟨_, _, m3⟩ := mark_ok hg
  have hgl : g.length = u.length := by rw [mark_len hg]; simp
  obtain ⟨l0, _⟩ := rck_loop0 (u := u) (b := b) (fr := fr) (by have := h.frlen; omega) fr.length 0 (List.replicate u.length false) (by omega) (by simp)
  have hfl : fr.length ≤ u.length := by
    have hs : freeB b fr = true := by
      have := validB_iff.2 h
      unfold validB at this
      simp only [Bool.and_eq_true] at this
      exact this.2
    unfold freeB at hs
    split at hs
    · rename_i g2 hg2
      have := strike_count hg2
      have := List.count_le_length (a := true) (l := b.map not)
      rw [List.length_map, h.len] at this
      omega
    · cases hs
  obtain ⟨l1, _⟩ := rck_loop1 (fr := fr) (by omega) h.len hgl u.length 0 (by omega)
  refine rck_ok (by simp; omega) (by simp; omega) (by simp [h.len]) (by simp; omega) (by omega) (by omega) (l0 g (by rw [List.drop_zero]; exact hg)) (l1 fun j _ hj y c q hy hc hq => ?_)
  have h1 := h.use j y c hy hc
  have h2 := h.part j c hc
  have h3 := m3 j hj
  rw [hq] at h3
  cases c with
  | true =>
    simp at h1 h2 h3
    refine ⟨by omega, h1.2, fun e => ?_, fun _ => h1.1⟩
    subst e
    exact h2 (h3.1 rfl)
  | false =>
    simp at h1 h2 h3
    refine ⟨h1.1, h1.2, fun e => ?_, fun e => by cases e⟩
    subst e
    have := h3.2 h2
    cases this
theorem RSCheck_bad (hf : fr.length ≤ 1000000) (h : ¬ Vd u b fr) : FnL Tryz.prog 45 3 [slA u b fr] (slP u b fr) (.pv (.int .i64 8)) 0 [] := by
  by_cases h1 : u.length < 1
  · exact rck_a (by simp; omega)
  have n1 : decide ((u.length : Int) < 1) = false := by simp; omega
  by_cases h2 : 200 < u.length
  · exact rck_b n1 (by simp; omega)
  have n2 : decide ((u.length : Int) > 200) = false := by simp; omega
  by_cases h3 : b.length = u.length
  · have n3 : (!((b.length : Int) == (u.length : Int))) = false := by simp [h3]
    by_cases h4 : u.length < fr.length
    · exact rck_d n1 n2 n3 (by simp; omega)
    have n4 : decide ((fr.length : Int) > (u.length : Int)) = false := by simp; omega
    obtain ⟨l0, l0'⟩ := rck_loop0 (u := u) (b := b) (fr := fr) hf fr.length 0 (List.replicate u.length false) (by omega) (by simp)
    rw [List.drop_zero] at l0 l0'
    cases hm : mark (List.replicate u.length false) fr with
    | none => exact rck_e n1 n2 n3 n4 (by omega) (by omega) (l0' hm)
    | some g =>
      have hgl : g.length = u.length := by rw [mark_len hm]; simp
      obtain ⟨m1, m2, m3⟩ := mark_ok hm
      obtain ⟨_, l1⟩ := rck_loop1 (fr := fr) (by omega) h3 hgl u.length 0 (by omega)
      refine rck_f n1 n2 n3 n4 (by omega) (by omega) (l0 g hm) (l1 fun H => h ⟨by omega, by omega, h3, fun k y c hy hc => ?_, m1, m2, fun k c hc => ?_⟩)
      · have hk : k < u.length := (List.getElem?_eq_some_iff.1 hy).1
        obtain ⟨q, hq⟩ : ∃ q, g[k]? = some q := ⟨_, List.getElem?_eq_getElem (by omega)⟩
        obtain ⟨a1, a2, a3, a4⟩ := H k (Nat.zero_le _) hk y c q hy hc hq
        cases c with
        | true => exact ⟨by have := a4 rfl; simpa using this, a2⟩
        | false => exact ⟨by simpa using a1, a2⟩
      · have hk : k < u.length := by have := (List.getElem?_eq_some_iff.1 hc).1; omega
        obtain ⟨q, hq⟩ : ∃ q, g[k]? = some q := ⟨_, List.getElem?_eq_getElem (by omega)⟩
        obtain ⟨y, hy⟩ : ∃ y, u[k]? = some y := ⟨_, List.getElem?_eq_getElem hk⟩
        obtain ⟨a1, a2, a3, a4⟩ := H k (Nat.zero_le _) hk y c q hy hc hq
        rw [← m3 k hk, hq]
        cases c <;> cases q <;> simp at a3 ⊢
  · exact rck_c n1 n2 (by simp; omega)
def greatB (u : List Int) (b : List Bool) (fr : List Int) : Bool := decide (u.length > 210) || decide (b.length > 210) || decide (fr.length > 210)
theorem Great_yes (h : greatB u b fr = true) : FnL Tryz.prog 56 3 [slA u b fr] (slP u b fr) (.pv (.bool true)) 0 [] := by
  unfold greatB at h
  by_cases h1 : u.length > 210
  · exact zg_u (by simp; omega)
  · have n1 : decide ((u.length : Int) > 210) = false := by simp; omega
    by_cases h2 : b.length > 210
    · exact zg_b n1 (by simp; omega)
    · have n2 : decide ((b.length : Int) > 210) = false := by simp; omega
      have h3 : fr.length > 210 := by simp at h; omega
      exact zg_f n1 n2 (by simp; omega)
theorem Great_no (h : greatB u b fr = false) : FnL Tryz.prog 56 3 [slA u b fr] (slP u b fr) (.pv (.bool false)) 0 [] := by
  unfold greatB at h
  simp at h
  exact zg_no (by simp; omega) (by simp; omega) (by simp; omega)
theorem great_lens (h : greatB u b fr = false) : u.length ≤ 210 ∧ b.length ≤ 210 ∧ fr.length ≤ 210 := by
  unfold greatB at h
  simp at h
  omega
theorem RTwin_any (h : greatB u b fr = false) : FnL Tryz.prog 47 3 [slA u b fr] (slP u b fr) (.ag [.ls 3 u.length, .ls 4 b.length, .ls 5 fr.length]) 3 [(3, 0, zrI u), (4, 0, zrB b), (5, 0, zrI fr)] := by
  obtain ⟨h1, h2, h3⟩ := great_lens h
  exact rtw (by omega) (by omega) (by omega)
theorem Vd.small (h : Vd u b fr) : greatB u b fr = false := by
  have h1 := h.le
  have h2 := h.len
  have h3 := h.frlen
  unfold greatB
  simp
  omega
theorem RLive_yes {hi hw : Int} (h : Vd u b fr) (hl : Live u b hi hw) : FnL Tryz.prog 60 3 [slA u b fr, .pv (.agg #[.int .i64 hi, .int .i64 hw])] (slP u b fr) (.pv (.bool true)) 0 [] :=
  rli_true (by simpa using hl.lo) (by simpa using hl.lt) ⟨hl.lo, by rw [h.len]; exact hl.lt⟩ hl.used ⟨hl.lo, hl.lt⟩ hl.use (by simp)
theorem RLive_no {hi hw : Int} (h : Vd u b fr) (hl : ¬ Live u b hi hw) : FnL Tryz.prog 60 3 [slA u b fr, .pv (.agg #[.int .i64 hi, .int .i64 hw])] (slP u b fr) (.pv (.bool false)) 0 [] := by
  by_cases h0 : hi ≥ 0
  · have n0 : decide (hi ≥ 0) = true := by simpa using h0
    by_cases h1 : hi < (u.length : Int)
    · have n1 : decide (hi < (u.length : Int)) = true := by simpa using h1
      have hlb : hi < (b.length : Int) := by rw [h.len]; exact h1
      obtain ⟨c, hc⟩ : ∃ c, b[hi.toNat]? = some c := ⟨_, List.getElem?_eq_getElem (by omega)⟩
      obtain ⟨y, hy⟩ : ∃ y, u[hi.toNat]? = some y := ⟨_, List.getElem?_eq_getElem (by omega)⟩
      cases c with
      | false => exact rli_free n0 n1 ⟨h0, hlb⟩ hc
      | true =>
        have hne : y ≠ hw := fun e => hl ⟨h0, h1, hc, by rw [hy, e]⟩
        exact rli_false n0 n1 ⟨h0, hlb⟩ hc ⟨h0, h1⟩ hy (by simpa using hne)
    · exact rli_big n0 (by simpa using h1)
  · exact rli_neg (by simpa using h0)
end
theorem SameI_eq {l : List Int} (hn : l.length ≤ 1000000) : FnL Tryz.prog 62 2 [.ls 0 l.length, .ls 1 l.length] [(0, 0, zrI l), (1, 0, zrI l)] (.pv (.bool true)) 0 [] := by
  refine si_true (by simp) (RunsL.roundsZ (N := l.length) (fun k => [(0, .ls 0 l.length), (1, .ls 1 l.length), (5, .pv (.int .i64 (k : Int)))]) (fun _ => [(0, 0, zrI l), (1, 0, zrI l)]) l.length 0 (by omega) (fun k _ hk r => ?_) (si_end (by simp)))
  exact si_next (List.getElem?_eq_getElem hk) (List.getElem?_eq_getElem hk) (by omega) (by omega) (by simp; omega) (by simp) (z_succ (by omega)) r
theorem SameB_eq {l : List Bool} (hn : l.length ≤ 1000000) : FnL Tryz.prog 95 2 [.ls 0 l.length, .ls 1 l.length] [(0, 0, zrB l), (1, 0, zrB l)] (.pv (.bool true)) 0 [] := by
  refine sb_true (by simp) (RunsL.roundsZ (N := l.length) (fun k => [(0, .ls 0 l.length), (1, .ls 1 l.length), (5, .pv (.int .i64 (k : Int)))]) (fun _ => [(0, 0, zrB l), (1, 0, zrB l)]) l.length 0 (by omega) (fun k _ hk r => ?_) (sb_end (by simp)))
  obtain ⟨c, hc⟩ : ∃ c, l[k]? = some c := ⟨_, List.getElem?_eq_getElem hk⟩
  cases c with
  | true => exact sb_next_true hc hc (by omega) (by omega) (by simp; omega) (z_succ (by omega)) r
  | false => exact sb_next_false hc hc (by omega) (by omega) (by simp; omega) (z_succ (by omega)) r
theorem Same_eq6 {u fr : List Int} {b : List Bool} (h : greatB u b fr = false) : FnL Tryz.prog 61 6 [slA u b fr, .ag [.ls 3 u.length, .ls 4 b.length, .ls 5 fr.length]] [(0, 0, zrI u), (1, 0, zrB b), (2, 0, zrI fr), (3, 0, zrI u), (4, 0, zrB b), (5, 0, zrI fr)] (.pv (.bool true)) 0 [] := by
  obtain ⟨h1, h2, h3⟩ := great_lens h
  exact sm_ok (SameI_eq (by omega)) (SameB_eq (by omega)) (SameI_eq (by omega))
end Go.Proofs.YtclpegneiomakaaGreat
