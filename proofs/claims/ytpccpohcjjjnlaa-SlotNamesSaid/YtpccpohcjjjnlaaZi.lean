/-
  The chapter's examples, and what is given back is taken next. Conditions: none.
-/
import Derived.Test.YtpccpohcjjjnlaaZh
namespace Go.Proofs.Ytpccpohcjjjnlaa
open Go.RowKit

theorem zpure {f : FuncId} {v : Value} (h : FnL Try.prog f 0 [] [] (.pv v) 0 []) : Pure Try.prog f #[] v := by
  intro w
  refine (h w Bl.no [] (zempty_rel w) (fun _ _ => ⟨rfl, rfl⟩) True.intro).mono fun e w' ⟨v', β', he, _, hx, hh, _⟩ => ?_
  cases hx
  exact ⟨he, hh.gr⟩
section
variable {u fr : List Int} {b : List Bool}
theorem Hv_yes {hi hw : Int} (h : Vd u b fr) (hl : Live u b hi hw) : FnL Try.prog 14 3 [slA u b fr, .pv (.agg #[.int .i64 hi, .int .i64 hw]), .pv (.bool true)] (slP u b fr) (.pv (.bool true)) 0 [] := hv_true (Has_yes h hl)
theorem Hv_no {hi hw : Int} (h : Vd u b fr) (hl : ¬ Live u b hi hw) : FnL Try.prog 14 3 [slA u b fr, .pv (.agg #[.int .i64 hi, .int .i64 hw]), .pv (.bool false)] (slP u b fr) (.pv (.bool true)) 0 [] := hv_false (Has_no h hl)
/-! ### The examples -/
theorem exV0 : Vd [0, 0, 0] [false, false, false] [2, 1, 0] := Vd.new (n := 3) (by decide) (by decide)
theorem exT1 : takeZ [0, 0, 0] [false, false, false] [2, 1, 0] = some ([1, 0, 0], [true, false, false], [2, 1], 0, 1) := rfl
theorem exT2 : takeZ [1, 0, 0] [true, false, false] [2, 1] = some ([1, 1, 0], [true, true, false], [2], 1, 1) := rfl
theorem exT3 : takeZ [1, 1, 0] [true, true, false] [2] = some ([1, 1, 1], [true, true, true], [], 2, 1) := rfl
theorem exT4 : takeZ [1, 1, 1] [true, true, true] [] = none := rfl
theorem exT6 : takeZ [1, 1, 1] [true, false, true] [1] = some ([1, 2, 1], [true, true, true], [], 1, 2) := rfl
theorem exV1 : Vd [1, 0, 0] [true, false, false] [2, 1] := exV0.take exT1
theorem exV2 : Vd [1, 1, 0] [true, true, false] [2] := exV1.take exT2
theorem exV3 : Vd [1, 1, 1] [true, true, true] [] := exV2.take exT3
theorem exL5 : Live [1, 1, 1] [true, true, true] 1 1 := ⟨by decide, by decide, rfl, rfl⟩
theorem exV4 : Vd [1, 1, 1] [true, false, true] [1] := exV3.give exL5
theorem exV5 : Vd [1, 2, 1] [true, true, true] [] := exV4.take exT6
theorem Alive6 : Pure Try.prog 15 #[] (.bool true) := by
  refine zpure (alive_p (New_ok (n := 3) (by decide) (by decide)) (Take_some exV0 exT1) (Take_some exV1 exT2) (Take_some exV2 exT3) (Take_none exV3 exT4) (Give_some exV3 exL5) (Take_some exV4 exT6) ?_ ?_ ?_)
  · exact Hv_no exV5 fun h => by have := h.use; cases this
  · exact Hv_yes exV5 ⟨by decide, by decide, rfl, rfl⟩
  · exact Hv_no exV4 fun h => by have := h.used; cases this

/-! ### What is given back is taken next -/
theorem give_take {hi hw : Int} (hl : Live u b hi hw) : takeZ u (b.set hi.toNat false) (fr ++ [hi]) = if hw = 1000000 then none else some (u.set hi.toNat (hw + 1), (b.set hi.toNat false).set hi.toNat true, fr, hi, hw + 1) := by
  unfold takeZ
  rw [List.getLast?_concat]
  simp only [hl.use, List.dropLast_concat]
theorem live_give {hi hw oi ow : Int} (h : Vd u b fr) (hl : Live u b hi hw) : Live u (b.set hi.toNat false) oi ow ↔ Live u b oi ow ∧ ¬ (oi = hi ∧ ow = hw) := by
  have h0 := hl.lo
  constructor
  · intro g
    have g0 := g.lo
    have hne : hi.toNat ≠ oi.toNat := fun e => by
      have := g.used
      rw [List.getElem?_set, if_pos e] at this
      split at this <;> cases this
    refine ⟨⟨g.lo, g.lt, ?_, g.use⟩, fun e => hne (by rw [e.1])⟩
    have := g.used
    rwa [List.getElem?_set, if_neg hne] at this
  · rintro ⟨g, hne⟩
    have g0 := g.lo
    have hn : hi.toNat ≠ oi.toNat := fun e => by
      have e2 : oi = hi := by omega
      subst e2
      have := g.use
      rw [hl.use] at this
      exact hne ⟨rfl, (Option.some.inj this).symm⟩
    exact ⟨g.lo, g.lt, by rw [List.getElem?_set, if_neg hn]; exact g.used, g.use⟩
theorem live_again {hi hw oi ow : Int} (h : Vd u b fr) (hl : Live u b hi hw) : Live (u.set hi.toNat (hw + 1)) ((b.set hi.toNat false).set hi.toNat true) oi ow ↔ (oi = hi ∧ ow = hw + 1) ∨ (Live u b oi ow ∧ ¬ (oi = hi ∧ ow = hw)) := by
  have h0 := hl.lo
  have hk : hi.toNat < u.length := by have := hl.lt; omega
  have hkb : hi.toNat < b.length := by rw [h.len]; exact hk
  constructor
  · intro g
    have g0 := g.lo
    have g1 := g.lt
    rw [List.length_set] at g1
    have g2 := g.used
    have g3 := g.use
    rw [List.getElem?_set] at g3
    by_cases e : hi.toNat = oi.toNat
    · have e2 : oi = hi := by omega
      rw [if_pos e, if_pos (by omega)] at g3
      exact Or.inl ⟨e2, (Option.some.inj g3).symm⟩
    · rw [if_neg e] at g3
      rw [List.getElem?_set, if_neg e, List.getElem?_set, if_neg e] at g2
      exact Or.inr ⟨⟨g0, g1, g2, g3⟩, fun e2 => e (by rw [e2.1])⟩
  · rintro (⟨rfl, rfl⟩ | ⟨g, hne⟩)
    · exact ⟨h0, by rw [List.length_set]; exact hl.lt, by rw [List.getElem?_set, if_pos rfl, if_pos (by simpa using hkb)], by rw [List.getElem?_set, if_pos rfl, if_pos (by omega)]⟩
    · have g0 := g.lo
      have hn : hi.toNat ≠ oi.toNat := fun e => by
        have e2 : oi = hi := by omega
        subst e2
        have := g.use
        rw [hl.use] at this
        exact hne ⟨rfl, (Option.some.inj this).symm⟩
      exact ⟨g.lo, by rw [List.length_set]; exact g.lt, by rw [List.getElem?_set, if_neg hn, List.getElem?_set, if_neg hn]; exact g.used, by rw [List.getElem?_set, if_neg hn]; exact g.use⟩
theorem eq_pair {a b c d : Int} : (a == c && (b == d && true)) = decide (a = c ∧ b = d) := by
  by_cases h : a = c <;> by_cases k : b = d <;> simp [h, k]
theorem back_walk (u fr : List Int) (b : List Bool) (hi hw oi ow : Int) : FnL Try.prog 6 3 [slA u b fr, .pv (.agg #[.int .i64 hi, .int .i64 hw]), .pv (.agg #[.int .i64 oi, .int .i64 ow])] (slP u b fr) (.pv (.bool true)) 0 [] := by
  cases hg : greatB u b fr with
  | true => exact sk_great (Great_yes hg) Alive6
  | false =>
    obtain ⟨_, _, hf⟩ := great_lens hg
    by_cases h : Vd u b fr
    · have hG := Great_no hg
      have hC := RSCheck_ok h
      by_cases hl : Live u b hi hw
      · have hY := Has_yes h hl
        have hv2 := h.give hl
        have hgv := Give_some h hl
        have hr1 := Room_ok h
        have hr2 := Room_ok hv2
        rw [show ((fr ++ [hi]).length : Int) = ((fr.length + 1 : Nat) : Int) by simp] at hr2
        have ha := z_succ (k := fr.length) (by omega)
        have hyy : (!(((fr.length + 1 : Nat) : Int) == ((fr.length + 1 : Nat) : Int))) = false := by simp
        have hgt := give_take (fr := fr) hl
        have hi2 := hl.use
        have hk : hi.toNat < u.length := by have := hl.lt; have := hl.lo; omega
        have huse := h.use hi.toNat hw true hl.use hl.used
        simp at huse
        by_cases hfull : hw = 1000000
        · rw [if_pos hfull] at hgt
          have tk := Take_none hv2 hgt
          have hu : (hw == 1000000) = true := by simpa using hfull
          by_cases ho : Live u b oi ow
          · have hO := Has_yes h ho
            by_cases e : oi = hi ∧ ow = hw
            · have hq : (!(oi == hi && (ow == hw && true))) = false := by rw [eq_pair]; simp [e]
              exact sk_full_e hG hC hO hY hgv hr1 hr2 tk ha hyy hq (Hv_no hv2 fun g => ((live_give h hl).1 g).2 e) hu Alive6
            · have hq : (!(oi == hi && (ow == hw && true))) = true := by rw [eq_pair, decide_eq_false e]; rfl
              exact sk_full_d hG hC hO hY hgv hr1 hr2 tk ha hyy hq (Hv_yes hv2 ((live_give h hl).2 ⟨ho, e⟩)) hu Alive6
          · exact sk_full_n hG hC (Has_no h ho) hY hgv hr1 hr2 tk ha hyy (Hv_no hv2 fun g => ho ((live_give h hl).1 g).1) hu Alive6
        · rw [if_neg hfull] at hgt
          have tk := Take_some hv2 hgt
          have hv3 := hv2.take hgt
          have hn : Value.int .i64 (IntKind.i64.wrap (hw + 1)) = .int .i64 (hw + 1) := wrapZ (by omega) (by omega)
          have he : (hi == hi && (hw + 1 == hw + 1 && true)) = true := by simp
          have h2 := Hv_yes hv3 ((live_again h hl).2 (Or.inl ⟨rfl, rfl⟩))
          have h3 : FnL Try.prog 14 3 [slA (u.set hi.toNat (hw + 1)) ((b.set hi.toNat false).set hi.toNat true) fr, .pv (.agg #[.int .i64 hi, .int .i64 hw]), .pv (.bool false)] (slP (u.set hi.toNat (hw + 1)) ((b.set hi.toNat false).set hi.toNat true) fr) (.pv (.bool true)) 0 [] := Hv_no hv3 fun g => by
            rcases (live_again h hl).1 g with ⟨_, e⟩ | ⟨_, e⟩
            · omega
            · exact e ⟨rfl, rfl⟩
          by_cases es : oi = hi ∧ ow = hw + 1
          · have hs : (oi == hi && (ow == hw + 1 && true)) = true := by rw [eq_pair]; simpa using es
            by_cases ho : Live u b oi ow
            · have : u[oi.toNat]? = some ow := ho.use
              rw [es.1, hl.use] at this
              have := Option.some.inj this
              omega
            · exact sk_ok_ns hG hC (Has_no h ho) hY hgv hr1 hr2 tk ha hyy (Hv_no hv2 fun g => ho ((live_give h hl).1 g).1) hn he h2 h3 hs Alive6
          · have hs : (oi == hi && (ow == hw + 1 && true)) = false := by rw [eq_pair]; simpa using es
            by_cases ho : Live u b oi ow
            · have hO := Has_yes h ho
              by_cases e : oi = hi ∧ ow = hw
              · have hq : (!(oi == hi && (ow == hw && true))) = false := by rw [eq_pair]; simp [e]
                exact sk_ok_eo hG hC hO hY hgv hr1 hr2 tk ha hyy hq (Hv_no hv2 fun g => ((live_give h hl).1 g).2 e) hn he h2 h3 hs (Hv_no hv3 fun g => by
                  rcases (live_again h hl).1 g with g | g
                  · exact es g
                  · exact g.2 e) Alive6
              · have hq : (!(oi == hi && (ow == hw && true))) = true := by rw [eq_pair, decide_eq_false e]; rfl
                exact sk_ok_do hG hC hO hY hgv hr1 hr2 tk ha hyy hq (Hv_yes hv2 ((live_give h hl).2 ⟨ho, e⟩)) hn he h2 h3 hs (Hv_yes hv3 ((live_again h hl).2 (Or.inr ⟨ho, e⟩))) Alive6
            · exact sk_ok_no hG hC (Has_no h ho) hY hgv hr1 hr2 tk ha hyy (Hv_no hv2 fun g => ho ((live_give h hl).1 g).1) hn he h2 h3 hs (Hv_no hv3 fun g => by
                rcases (live_again h hl).1 g with g | g
                · exact es g
                · exact ho g.1) Alive6
      · have hN := Has_no h hl
        have hgv := Give_none h hl
        by_cases ho : Live u b oi ow
        · exact sk_none_true hG hC (Has_yes h ho) hN hgv Alive6
        · exact sk_none_false hG hC (Has_no h ho) hN hgv Alive6
    · exact sk_bad (Great_no hg) (RSCheck_bad (by omega) h) Alive6
end
end Go.Proofs.Ytpccpohcjjjnlaa
