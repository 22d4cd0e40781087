/-
  CertTrue; CertLists, if the examples hold. Conditions: none.
-/
import Derived.Test.YtjjmnoiffpnphaaKj
import Derived.Test.YtjjmnoiffpnphaaW34
import Derived.Test.YtjjmnoiffpnphaaW33
namespace Go.Proofs.Ytjjmnoiffpnphaa
open Go.RowKit
theorem Fit8_any (x : Int) (l : List Pt) : ∃ b, FnL Try.prog 32 1 [crtS 0 x l] [(0, 0, rowC l)] (.pv (.bool b)) 0 [] ∧ (b = true → V8 x l) := by
  have hG := Great8_any x l
  have hc := RC8_any x l
  cases hg : greatC l
  · rw [hg] at hG
    by_cases hv : V8 x l
    · rw [errC_ok hv] at hc
      exact ⟨true, fi8_t (hG := hG) (hc := hc) (he := by decide), fun _ => hv⟩
    · rw [errC_bad hv] at hc
      exact ⟨false, fi8_f (hG := hG) (hc := hc) (he := by decide), fun h => by cases h⟩
  · rw [hg] at hG
    exact ⟨false, fi8_g (hG := hG), fun h => by cases h⟩
theorem Get_at {x : Int} {l : List Pt} (hv : V8 x l) {k : Nat} {p : Pt} (hk : l[k]? = some p) : GetIs 12 x l p.id p.a p.b 0 := by
  have c1 := PC8_any x l
  rw [errC_ok hv] at c1
  have := hv.len
  exact pg8_yes (hk := hk) (hin := in_of (get_lt hk)) (hc := c1) (hf := find8_yes x (by omega) hv.up hk rfl)
end Go.Proofs.Ytjjmnoiffpnphaa
