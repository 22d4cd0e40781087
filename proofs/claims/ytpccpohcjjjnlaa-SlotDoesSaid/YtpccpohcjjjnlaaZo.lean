/-
  New, Check, Take, Give, Has and Room return what the reference returns, and share no memory with the table. Conditions: none.
-/
import Derived.Test.YtpccpohcjjjnlaaZn
namespace Go.Proofs.Ytpccpohcjjjnlaa
open Go.RowKit
theorem Same_new {n : Nat} (h2 : n ≤ 200) : FnL Try.prog 23 6 [.ag [.ls 0 n, .ls 1 n, .ls 2 n], .ag [.ls 3 n, .ls 4 n, .ls 5 n]] [(0, 0, .row 3 1 n (ziV (List.replicate n 0))), (1, 0, .row 4 1 n (zbV (List.replicate n false))), (2, 0, .row 3 1 n (ziV (descZ n))), (3, 0, .row 3 1 n (ziV (List.replicate n 0))), (4, 0, .row 4 1 n (zbV (List.replicate n false))), (5, 0, .row 3 1 n (ziV (descZ n)))] (.pv (.bool true)) 0 [] := by
  have := Same_eq6 (u := List.replicate n 0) (b := List.replicate n false) (fr := descZ n) (by unfold greatB; simp [descZ_length]; omega)
  simp only [slA, zrI, zrB, List.length_replicate, descZ_length] at this
  exact this
theorem does_walk (nn : Int) (u fr : List Int) (b : List Bool) (hi hw : Int) : FnL Try.prog 4 3 [.pv (.int .i64 nn), slA u b fr, .pv (.agg #[.int .i64 hi, .int .i64 hw])] (slP u b fr) (.pv (.bool true)) 0 [] := by
  cases hg : greatB u b fr with
  | true => exact sd_great (Great_yes hg)
  | false =>
    have hG := Great_no hg
    obtain ⟨l1, l2, l3⟩ := great_lens hg
    have hT := RTwin_any hg
    have hS := Same_eq6 hg
    by_cases hn : 1 ≤ nn ∧ nn ≤ 200
    · obtain ⟨n, rfl⟩ : ∃ n : Nat, nn = (n : Int) := ⟨nn.toNat, by omega⟩
      have m1 : 1 ≤ n := by omega
      have m2 : n ≤ 200 := by omega
      by_cases h : Vd u b fr
      · cases ht : takeZ u b fr with
        | none =>
          by_cases hl : Live u b hi hw
          · refine Exists.elim (sdL0_1101 (by omega : u.length ≤ 1000000)) fun g1 q0 => Exists.elim (sdL1_1101 (by omega : b.length ≤ 1000000)) fun h1 q1 => Exists.elim (sdL2_1101 (by omega : fr.length ≤ 1000000)) fun g2 q2 => sd_1101 hG hT (New_ok m1 m2) (RNew_ok m1 m2) (Take_none h ht) (RTake_none h ht) (Give_some h hl) (RGive_some h hl) (Has_yes h hl) (RHas_yes h hl) (Room_ok h) (RRoom_ok h) (Same_new m2) (SCheck_ok h) (RSCheck_ok h) (by simp) hS q0 q1 q2 (Same_eq6 (h.give hl).small)
          · refine Exists.elim (sdL0_1100 (by omega : u.length ≤ 1000000)) fun g1 q0 => Exists.elim (sdL1_1100 (by omega : b.length ≤ 1000000)) fun h1 q1 => Exists.elim (sdL2_1100 (by omega : fr.length ≤ 1000000)) fun g2 q2 => sd_1100 hG hT (New_ok m1 m2) (RNew_ok m1 m2) (Take_none h ht) (RTake_none h ht) (Give_none h hl) (RGive_none h hl) (Has_no h hl) (RHas_no h hl) (Room_ok h) (RRoom_ok h) (Same_new m2) (SCheck_ok h) (RSCheck_ok h) (by simp) hS q0 q1 q2 
        | some w =>
          obtain ⟨u3, b3, f3, x, z⟩ := w
          by_cases hl : Live u b hi hw
          · refine Exists.elim (sdL0_1111 (by omega : u.length ≤ 1000000)) fun g1 q0 => Exists.elim (sdL1_1111 (by omega : b.length ≤ 1000000)) fun h1 q1 => Exists.elim (sdL2_1111 (by omega : fr.length ≤ 1000000)) fun g2 q2 => sd_1111 hG hT (New_ok m1 m2) (RNew_ok m1 m2) (Take_some h ht) (RTake_some h ht) (Give_some h hl) (RGive_some h hl) (Has_yes h hl) (RHas_yes h hl) (Room_ok h) (RRoom_ok h) (Same_new m2) (SCheck_ok h) (RSCheck_ok h) (by simp) hS q0 q1 q2 (Same_eq6 (h.take ht).small) (by simp) (Same_eq6 (h.give hl).small)
          · refine Exists.elim (sdL0_1110 (by omega : u.length ≤ 1000000)) fun g1 q0 => Exists.elim (sdL1_1110 (by omega : b.length ≤ 1000000)) fun h1 q1 => Exists.elim (sdL2_1110 (by omega : fr.length ≤ 1000000)) fun g2 q2 => sd_1110 hG hT (New_ok m1 m2) (RNew_ok m1 m2) (Take_some h ht) (RTake_some h ht) (Give_none h hl) (RGive_none h hl) (Has_no h hl) (RHas_no h hl) (Room_ok h) (RRoom_ok h) (Same_new m2) (SCheck_ok h) (RSCheck_ok h) (by simp) hS q0 q1 q2 (Same_eq6 (h.take ht).small) (by simp)
      · have hf : fr.length ≤ 1000000 := by omega
        refine Exists.elim (sdL0_1000 (by omega : u.length ≤ 1000000)) fun g1 q0 => Exists.elim (sdL1_1000 (by omega : b.length ≤ 1000000)) fun h1 q1 => Exists.elim (sdL2_1000 (by omega : fr.length ≤ 1000000)) fun g2 q2 => sd_1000 hG hT (New_ok m1 m2) (RNew_ok m1 m2) (Take_bad hf h) (RTake_bad hf h) (Give_bad hf h hi hw) (RGive_bad hf h hi hw) (Has_bad hf h hi hw) (RHas_bad hf h hi hw) (Room_bad hf h) (RRoom_bad hf h) (Same_new m2) (SCheck_bad hf h) (RSCheck_bad hf h) hS q0 q1 q2 
    · skip
      by_cases h : Vd u b fr
      · cases ht : takeZ u b fr with
        | none =>
          by_cases hl : Live u b hi hw
          · refine Exists.elim (sdL0_0101 (by omega : u.length ≤ 1000000)) fun g1 q0 => Exists.elim (sdL1_0101 (by omega : b.length ≤ 1000000)) fun h1 q1 => Exists.elim (sdL2_0101 (by omega : fr.length ≤ 1000000)) fun g2 q2 => sd_0101 hG hT (New_bad hn) (RNew_bad hn) (Take_none h ht) (RTake_none h ht) (Give_some h hl) (RGive_some h hl) (Has_yes h hl) (RHas_yes h hl) (Room_ok h) (RRoom_ok h) (SCheck_ok h) (RSCheck_ok h) (by simp) hS q0 q1 q2 (Same_eq6 (h.give hl).small)
          · refine Exists.elim (sdL0_0100 (by omega : u.length ≤ 1000000)) fun g1 q0 => Exists.elim (sdL1_0100 (by omega : b.length ≤ 1000000)) fun h1 q1 => Exists.elim (sdL2_0100 (by omega : fr.length ≤ 1000000)) fun g2 q2 => sd_0100 hG hT (New_bad hn) (RNew_bad hn) (Take_none h ht) (RTake_none h ht) (Give_none h hl) (RGive_none h hl) (Has_no h hl) (RHas_no h hl) (Room_ok h) (RRoom_ok h) (SCheck_ok h) (RSCheck_ok h) (by simp) hS q0 q1 q2 
        | some w =>
          obtain ⟨u3, b3, f3, x, z⟩ := w
          by_cases hl : Live u b hi hw
          · refine Exists.elim (sdL0_0111 (by omega : u.length ≤ 1000000)) fun g1 q0 => Exists.elim (sdL1_0111 (by omega : b.length ≤ 1000000)) fun h1 q1 => Exists.elim (sdL2_0111 (by omega : fr.length ≤ 1000000)) fun g2 q2 => sd_0111 hG hT (New_bad hn) (RNew_bad hn) (Take_some h ht) (RTake_some h ht) (Give_some h hl) (RGive_some h hl) (Has_yes h hl) (RHas_yes h hl) (Room_ok h) (RRoom_ok h) (SCheck_ok h) (RSCheck_ok h) (by simp) hS q0 q1 q2 (Same_eq6 (h.take ht).small) (by simp) (Same_eq6 (h.give hl).small)
          · refine Exists.elim (sdL0_0110 (by omega : u.length ≤ 1000000)) fun g1 q0 => Exists.elim (sdL1_0110 (by omega : b.length ≤ 1000000)) fun h1 q1 => Exists.elim (sdL2_0110 (by omega : fr.length ≤ 1000000)) fun g2 q2 => sd_0110 hG hT (New_bad hn) (RNew_bad hn) (Take_some h ht) (RTake_some h ht) (Give_none h hl) (RGive_none h hl) (Has_no h hl) (RHas_no h hl) (Room_ok h) (RRoom_ok h) (SCheck_ok h) (RSCheck_ok h) (by simp) hS q0 q1 q2 (Same_eq6 (h.take ht).small) (by simp)
      · have hf : fr.length ≤ 1000000 := by omega
        refine Exists.elim (sdL0_0000 (by omega : u.length ≤ 1000000)) fun g1 q0 => Exists.elim (sdL1_0000 (by omega : b.length ≤ 1000000)) fun h1 q1 => Exists.elim (sdL2_0000 (by omega : fr.length ≤ 1000000)) fun g2 q2 => sd_0000 hG hT (New_bad hn) (RNew_bad hn) (Take_bad hf h) (RTake_bad hf h) (Give_bad hf h hi hw) (RGive_bad hf h hi hw) (Has_bad hf h hi hw) (RHas_bad hf h hi hw) (Room_bad hf h) (RRoom_bad hf h) (SCheck_bad hf h) (RSCheck_bad hf h) hS q0 q1 q2 
end Go.Proofs.Ytpccpohcjjjnlaa
