/-
  CertTrue; CertLists, if the examples hold. Conditions: none.
-/
import Derived.Test.YtjjmnoiffpnphaaKj
import Derived.Test.YtjjmnoiffpnphaaKn
import Derived.Test.YtjjmnoiffpnphaaW32
namespace Go.Proofs.Ytjjmnoiffpnphaa
open Go.RowKit
/-- CertTrue. -/
theorem True_any (x : Int) (l s : List Pt) {tn td : Int} (htn : I64 tn) (htd : I64 td) : FnL Try.prog 5 2 [crtS 0 x l, fldS 1 s, .pv (ratioV tn td)] [(0, 0, rowC l), (1, 0, rowP s)] (.pv (.bool true)) 0 [] := by
  have hG := Great8_any x l
  cases hg : greatC l
  · rw [hg] at hG
    have hn := great_len hg
    rcases Great_any s with ⟨_, hF⟩ | ⟨hs, hF⟩
    · exact tu_g2 (hG := hG) (hF := hF)
    · have hT := Twin8_any x (l := l) (by omega)
      have hU := Twin_any (l := s) (by omega)
      have hS := Same8_ok x (l := l) (by omega)
      have hS3 := Same_ok (l := s) (by omega)
      rcases Ho8_any htn htd x hn s with ⟨e, _, h1, h2, _⟩ | ⟨_, _, _, h1, h2⟩
      · exact tu_err (hG := hG) (hF := hF) (hT := hT) (hU := hU) (hHp := h1) (hHr := h2) (hI := sid_nil8) (hS := hS) (hS3 := hS3)
      · exact tu_ok (hG := hG) (hF := hF) (hT := hT) (hU := hU) (hHp := h1) (hHr := h2) (hI := SameI_ok (Nat.le_trans (sel_len _ _) (by omega))) (hS := hS) (hS3 := hS3)
  · rw [hg] at hG
    exact tu_g1 (hG := hG)
theorem true_walk (x : Int) (l s : List Pt) (tn td : Int) (htn : I64 tn) (htd : I64 td) : FnL Try.prog 5 2 (crtS 0 x l :: fldS 1 s :: [ratioV tn td].map .pv) [(0, 0, rowC l), (1, 0, rowP s)] (.pv (.bool true)) 0 [] := True_any x l s htn htd

end Go.Proofs.Ytjjmnoiffpnphaa
