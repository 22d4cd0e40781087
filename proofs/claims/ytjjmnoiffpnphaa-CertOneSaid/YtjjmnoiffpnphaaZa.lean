/-
  Tables of slots: lists of numbers and of bools, and what holds of them. Conditions: none.
-/
import Derived.Test.YtjjmnoiffpnphaaSxJ
import Derived.Test.YtjjmnoiffpnphaaProg
namespace Go.Proofs.Ytjjmnoiffpnphaa
open Go.RowKit
def ziV (l : List Int) : List Value := l.map fun x => .int .i64 x
def zbV (l : List Bool) : List Value := l.map fun x => .bool x
abbrev zrI (l : List Int) : SV := .row 3 1 l.length (ziV l)
abbrev zrB (l : List Bool) : SV := .row 4 1 l.length (zbV l)
theorem zrep_b : ∀ n : Nat, repL [Value.bool false] n = zbV (List.replicate n false)
  | 0 => rfl
  | n + 1 => by rw [repL, zrep_b n]; rfl
/-- Cross these off, one after another: each one has to be there still. -/
def strike : List Bool → List Int → Option (List Bool)
  | g, [] => some g
  | g, x :: r => if 0 ≤ x ∧ x < (g.length : Int) ∧ g[x.toNat]? = some true then strike (g.set x.toNat false) r else none
structure Vd (u : List Int) (b : List Bool) (f : List Int) : Prop where
  pos : 1 ≤ u.length
  le : u.length ≤ 200
  len : b.length = u.length
  use : ∀ (k : Nat) (x : Int) (c : Bool), u[k]? = some x → b[k]? = some c → (if c = true then 1 else 0) ≤ x ∧ x ≤ 1000000
  rng : ∀ x ∈ f, 0 ≤ x ∧ x < (u.length : Int)
  nod : f.Nodup
  part : ∀ (k : Nat) (c : Bool), b[k]? = some c → (c = false ↔ (k : Int) ∈ f)
theorem strike_ok : ∀ {f : List Int} {g g' : List Bool}, strike g f = some g' → (∀ x ∈ f, 0 ≤ x ∧ x < (g.length : Int) ∧ g[x.toNat]? = some true) ∧ f.Nodup ∧ ∀ k : Nat, g'[k]? = if (k : Int) ∈ f then some false else g[k]?
  | [], g, g', h => by cases h; exact ⟨by simp, by simp, by simp⟩
  | x :: r, g, g', h => by
    unfold strike at h
    split at h
    · rename_i hx
      obtain ⟨h1, h2, h3⟩ := strike_ok h
      have hn : x ∉ r := fun hm => by
        have := (h1 x hm).2.2
        rw [List.getElem?_set] at this
        rw [if_pos rfl] at this
        split at this <;> cases this
      refine ⟨fun y hy => ?_, List.nodup_cons.2 ⟨hn, h2⟩, fun k => ?_⟩
      · rcases List.mem_cons.1 hy with rfl | hy
        · exact hx
        · obtain ⟨a1, a2, a3⟩ := h1 y hy
          rw [List.length_set] at a2
          refine ⟨a1, a2, ?_⟩
          rw [List.getElem?_set] at a3
          split at a3
          · split at a3 <;> cases a3
          · exact a3
      · rw [h3]
        by_cases hk : (k : Int) ∈ r
        · rw [if_pos hk, if_pos (List.mem_cons_of_mem _ hk)]
        · rw [if_neg hk, List.getElem?_set]
          by_cases e : (k : Int) = x
          · rw [if_pos (show x.toNat = k by omega), if_pos (by omega), if_pos (by rw [e]; exact List.mem_cons_self)]
          · rw [if_neg (show ¬ x.toNat = k by omega), if_neg (fun hm => by rcases List.mem_cons.1 hm with h | h; exact e h; exact hk h)]
    · cases h
theorem strike_yes : ∀ {f : List Int} {g : List Bool}, (∀ x ∈ f, 0 ≤ x ∧ x < (g.length : Int) ∧ g[x.toNat]? = some true) → f.Nodup → ∃ g', strike g f = some g'
  | [], g, _, _ => ⟨g, rfl⟩
  | x :: r, g, h, hn => by
    obtain ⟨h1, h2⟩ := List.nodup_cons.1 hn
    unfold strike
    rw [if_pos (h x List.mem_cons_self)]
    refine strike_yes (fun y hy => ?_) h2
    obtain ⟨a1, a2, a3⟩ := h y (List.mem_cons_of_mem _ hy)
    refine ⟨a1, by rw [List.length_set]; exact a2, ?_⟩
    rw [List.getElem?_set, if_neg]
    · exact a3
    · intro e
      have hx := (h x List.mem_cons_self).1
      have : x = y := by omega
      subst this
      exact h1 hy
/-- What the program's check tells is what a valid table is. -/
def freeB (b : List Bool) (f : List Int) : Bool := match strike (b.map not) f with
  | some g => !g.contains true
  | none => false
def useB (u : List Int) (b : List Bool) : Bool := (List.range b.length).all fun k => match u[k]?, b[k]? with
  | some x, some c => decide ((if c = true then 1 else 0) ≤ x) && decide (x ≤ 1000000)
  | _, _ => false
def validB (u : List Int) (b : List Bool) (f : List Int) : Bool := decide (1 ≤ u.length) && decide (u.length ≤ 200) && decide (b.length = u.length) && useB u b && freeB b f
theorem useB_iff {u : List Int} {b : List Bool} (h : b.length = u.length) : useB u b = true ↔ ∀ (k : Nat) (x : Int) (c : Bool), u[k]? = some x → b[k]? = some c → (if c = true then 1 else 0) ≤ x ∧ x ≤ 1000000 := by
  unfold useB
  rw [List.all_eq_true]
  constructor
  · intro h1 k x c hx hc
    have hk : k < b.length := (List.getElem?_eq_some_iff.1 hc).1
    have := h1 k (List.mem_range.2 hk)
    rw [hx, hc] at this
    simpa using this
  · intro h1 k hk
    have hk' := List.mem_range.1 hk
    rw [List.getElem?_eq_getElem (by omega : k < u.length), List.getElem?_eq_getElem hk']
    simpa using h1 k _ _ (List.getElem?_eq_getElem (by omega : k < u.length)) (List.getElem?_eq_getElem hk')
theorem freeB_iff {b : List Bool} {f : List Int} : freeB b f = true ↔ (∀ x ∈ f, 0 ≤ x ∧ x < (b.length : Int)) ∧ f.Nodup ∧ ∀ (k : Nat) (c : Bool), b[k]? = some c → (c = false ↔ (k : Int) ∈ f) := by
  unfold freeB
  constructor
  · intro h
    split at h
    · rename_i g hg
      obtain ⟨h1, h2, h3⟩ := strike_ok hg
      refine ⟨fun x hx => ?_, h2, fun k c hc => ⟨fun e => ?_, fun hm => ?_⟩⟩
      · obtain ⟨a1, a2, _⟩ := h1 x hx
        exact ⟨a1, by simpa using a2⟩
      · subst e
        by_cases hm : (k : Int) ∈ f
        · exact hm
        · have := h3 k
          rw [if_neg hm, List.getElem?_map, hc] at this
          have hin : true ∈ g := List.mem_of_getElem? this
          simp [hin] at h
      · obtain ⟨_, _, a3⟩ := h1 _ hm
        rw [Int.toNat_natCast, List.getElem?_map, hc] at a3
        simpa using a3
    · cases h
  · rintro ⟨h1, h2, h3⟩
    obtain ⟨g, hg⟩ := strike_yes (g := b.map not) (f := f) (fun x hx => by
      obtain ⟨a1, a2⟩ := h1 x hx
      have hk : x.toNat < b.length := by omega
      refine ⟨a1, by simpa using a2, ?_⟩
      rw [List.getElem?_map, List.getElem?_eq_getElem hk]
      have := (h3 x.toNat _ (List.getElem?_eq_getElem hk)).2 (by rw [Int.toNat_of_nonneg a1]; exact hx)
      rw [this]; rfl) h2
    rw [hg]
    obtain ⟨_, _, h6⟩ := strike_ok hg
    have : true ∉ g := by
      intro hm
      obtain ⟨k, hk⟩ := List.mem_iff_getElem?.1 hm
      have e := h6 k
      rw [hk] at e
      split at e
      · cases e
      · rename_i hn
        rw [List.getElem?_map] at e
        cases hb : b[k]? with
        | none => rw [hb] at e; cases e
        | some c =>
          rw [hb] at e
          cases c
          · exact hn ((h3 k _ hb).1 rfl)
          · cases e
    simp [this]
theorem validB_iff {u : List Int} {b : List Bool} {f : List Int} : validB u b f = true ↔ Vd u b f := by
  unfold validB
  simp only [Bool.and_eq_true, decide_eq_true_eq]
  constructor
  · rintro ⟨⟨⟨⟨h1, h2⟩, h3⟩, h4⟩, h5⟩
    obtain ⟨a1, a2, a3⟩ := freeB_iff.1 h5
    exact ⟨h1, h2, h3, (useB_iff h3).1 h4, by rw [← h3]; exact a1, a2, a3⟩
  · intro h
    exact ⟨⟨⟨⟨h.pos, h.le⟩, h.len⟩, (useB_iff h.len).2 h.use⟩, freeB_iff.2 ⟨by rw [h.len]; exact h.rng, h.nod, h.part⟩⟩
end Go.Proofs.Ytjjmnoiffpnphaa
