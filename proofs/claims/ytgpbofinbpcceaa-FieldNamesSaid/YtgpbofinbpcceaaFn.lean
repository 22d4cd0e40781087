/-
  What Find, Put, Take and Change of package field and of the reference return, for a list of points whatever. Conditions: none.
-/
import Derived.Test.YtgpbofinbpcceaaFm
import Derived.Test.YtgpbofinbpcceaaFe
namespace Go.Proofs.Ytgpbofinbpcceaa
open Go.RowKit
theorem Great_any (l : List Pt) : (¬ (l.length ≤ 16 ∨ 64 ≤ l.length ∧ l.length ≤ 70) ∧ FnL Try.prog 52 1 [fldS 0 l] [(0, 0, rowP l)] (.pv (.bool true)) 0 []) ∨
    ((l.length ≤ 16 ∨ 64 ≤ l.length ∧ l.length ≤ 70) ∧ FnL Try.prog 52 1 [fldS 0 l] [(0, 0, rowP l)] (.pv (.bool false)) 0 []) := by
  by_cases h1 : l.length > 16
  · by_cases h2 : l.length < 64
    · exact Or.inl ⟨by omega, great_t (dt (by omega)) (dt (by omega))⟩
    · by_cases h3 : l.length > 70
      · exact Or.inl ⟨by omega, great_t2 (dt (by omega)) (df (by omega)) (dt (by omega))⟩
      · exact Or.inr ⟨by omega, great_f2 (dt (by omega)) (df (by omega)) (df (by omega))⟩
  · exact Or.inr ⟨by omega, great_f (df (by omega)) (df (by omega))⟩
abbrev FindIs (f : FuncId) (l : List Pt) (id : Int) (p : Pt) (e : Int) : Prop := FnL Try.prog f 1 [fldS 0 l, .pv (.int .i64 id)] [(0, 0, rowP l)] (.pv (.tuple #[ptV p, .int .i64 e])) 0 []
theorem take_succ {α : Type} {l : List α} {k : Nat} {p : α} (h : l[k]? = some p) : l.take (k + 1) = l.take k ++ [p] := by rw [List.take_add_one, h]; rfl
abbrev ErrIs (f : FuncId) (l : List Pt) (x : Value) (e : Int) : Prop := FnL Try.prog f 1 [fldS 0 l, .pv x] [(0, 0, rowP l)] (.pv (.tuple #[.agg #[.slice none 0 0], .int .i64 e])) 0 []
abbrev ListIs (f : FuncId) (l : List Pt) (x : Value) (m : List Pt) : Prop := FnL Try.prog f 1 [fldS 0 l, .pv x] [(0, 0, rowP l)] (.tu [.ag [.ls 1 m.length], .one (.pv (.int .i64 0))]) 1 [(1, 0, rowP m)]
theorem wrap_sum {a b c : Int} (h : a + b = c) (h0 : 0 ≤ c) (h1 : c ≤ 1000000) : Value.int .i64 (IntKind.i64.wrap (a + b)) = .int .i64 c := by rw [h, wrap_i64_in (by omega) (by omega)]
theorem Grow_pos {s : Int} (h0 : 0 < s) (h1 : s ≤ 1000000) : FnL Try.prog 112 0 [.pv (.slice none 0 0), .pv (.int .i64 s)] [] (.ls 0 0) 1 [(0, 0, rowP ([] : List Pt))] :=
  grow_s (df (by omega)) (by rw [Int.sub_zero, wrap_i64_in (by omega) (by omega)]) (dt (by omega)) (by omega) h1
theorem Grow_zero : FnL Try.prog 112 0 [.pv (.slice none 0 0), .pv (.int .i64 0)] [] (.pv (.slice none 0 0)) 0 [] :=
  grow_0 (df (by omega)) (by rw [Int.sub_zero, wrap_i64_in (by omega) (by omega)]) (df (by omega))
theorem PTake_any (l : List Pt) (id : Int) : (∃ e, ErrIs 12 l (.int .i64 id) e ∧ ((errL l ≠ 0 ∧ e = errL l) ∨ (Val l ∧ (∀ p ∈ l, p.id ≠ id) ∧ e = 6))) ∨
    (∃ k p, Val l ∧ l[k]? = some p ∧ p.id = id ∧ ListIs 12 l (.int .i64 id) (l.take k ++ l.drop (k + 1))) := by
  by_cases h0 : errL l = 0
  · have hv := err_val.1 h0
    have c1 := PCheck_any l
    rw [h0] at c1
    rcases place l hv id with ⟨k, p, hk, he⟩ | ⟨hno, k, hkl, hlo, hhi⟩
    · refine Or.inr ⟨k, p, hv, hk, he, ?_⟩
      have hl := get_lt hk
      have hn := hv.len
      by_cases h1 : l.length = 1
      · exact ptake_one (s1 := 0) (s2 := 0) (by omega) (by omega) c1 (find_yes hv hk he) (by rw [wrap_i64_in (by omega) (by omega)]; rfl) (wrap_sum (by omega) (by omega) (by omega)) (df (by omega)) (wrap_sum (by omega) (by omega) (by omega)) (df (by omega)) Grow_zero (by omega) (by omega)
      · exact ptake_yes (s1 := (k : Int)) (s2 := (l.length : Int) - 1) (by omega) (by omega) c1 (find_yes hv hk he) (by rw [wrap_i64_in (by omega) (by omega)]; rfl) (wrap_sum (by omega) (by omega) (by omega)) (df (by omega)) (wrap_sum (by omega) (by omega) (by omega)) (df (by omega)) (Grow_pos (by omega) (by omega)) (by omega) (by omega)
    · exact Or.inl ⟨6, ptake_no c1 (find_no hv hkl hlo hhi), Or.inr ⟨hv, hno, rfl⟩⟩
  · exact Or.inl ⟨errL l, ptake_err (PCheck_any l) (by simp [h0]), Or.inl ⟨h0, rfl⟩⟩
theorem CWP_any (l : List Pt) (pi pa pb : Int) : FnL Try.prog 44 1 [fldS 0 l, .pv (pointV pi pa pb)] [(0, 0, rowP l)] (.pv (.int .i64 (if errL l = 0 then (if okP pi pa pb then 0 else 8) else errL l))) 0 [] := by
  by_cases h0 : errL l = 0
  · have c1 := PCheck_any l
    rw [h0] at c1
    rw [if_pos h0]
    by_cases hp : okP pi pa pb = true
    · rw [if_pos hp]; exact cwp_ok c1 (Check02_ok hp)
    · rw [if_neg hp]; exact cwp_ok c1 (Check02_bad hp)
  · rw [if_neg h0]
    exact cwp_err (PCheck_any l) (by simp [h0])
end Go.Proofs.Ytgpbofinbpcceaa
