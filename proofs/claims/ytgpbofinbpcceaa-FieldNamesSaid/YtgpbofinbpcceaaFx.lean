/-
  FieldBack, for all arguments. Conditions: none.
-/
import Derived.Test.YtgpbofinbpcceaaFw
namespace Go.Proofs.Ytgpbofinbpcceaa
open Go.RowKit
theorem up_iff {l : List Pt} : Up l ↔ l.Pairwise (fun p q => p.id < q.id) := by
  constructor
  · intro h
    rw [List.pairwise_iff_getElem]
    intro i j hi hj hij
    exact h.mono hij (List.getElem?_eq_getElem hi) (List.getElem?_eq_getElem hj)
  · intro h k p q h1 h2
    rw [List.pairwise_iff_getElem] at h
    obtain ⟨hk, rfl⟩ := List.getElem?_eq_some_iff.1 h1
    obtain ⟨hk2, rfl⟩ := List.getElem?_eq_some_iff.1 h2
    exact h k (k + 1) hk hk2 (by omega)
theorem split_at {l : List Pt} {k : Nat} {p : Pt} (hk : l[k]? = some p) : l = l.take k ++ p :: l.drop (k + 1) := by
  have hl := get_lt hk
  conv => lhs; rw [← List.take_append_drop k l]
  rw [List.drop_eq_getElem_cons hl]
  have : l[k] = p := by rw [List.getElem?_eq_getElem hl] at hk; exact Option.some.inj hk
  rw [this]
theorem FindP_no {l : List Pt} (hv : Val l) {id : Int} (hno : ∀ p ∈ l, p.id ≠ id) : FindIs 10 l id ⟨0, 0, 0⟩ 6 := by
  have c := PCheck_any l
  rw [err_val.2 hv] at c
  rcases place l hv id with ⟨k, p, hk, he⟩ | ⟨_, k, hkl, hlo, hhi⟩
  · exact (hno p (List.mem_of_getElem? hk) he).elim
  · exact pfind_no c (find_no hv hkl hlo hhi)

end Go.Proofs.Ytgpbofinbpcceaa
