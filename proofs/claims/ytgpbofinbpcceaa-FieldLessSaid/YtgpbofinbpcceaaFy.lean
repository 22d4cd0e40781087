/-
  FieldOnce, for all arguments. Conditions: none.
-/
import Derived.Test.YtgpbofinbpcceaaFx
namespace Go.Proofs.Ytgpbofinbpcceaa
open Go.RowKit
set_option maxRecDepth 100000 in
theorem fit_great {l : List Pt} {tn td : Int} (hg : FnL Try.prog 52 1 [fldS 0 l] [(0, 0, rowP l)] (.pv (.bool true)) 0 []) :
    FnL Try.prog 22 1 [fldS 0 l, .pv (ratioV tn td)] [(0, 0, rowP l)] (.pv (.bool false)) 0 [] :=
  fnl_run 300 [] [.f [0] [fldS 0 l] [(0, 0, rowP l)] (.pv (.bool true)) 0 [], .k]
     True.intro (And.intro hg (And.intro (Eq.refl (List.map (SV.ren (renU [0] 3)) [fldS 0 l])) (And.intro (reflH (renU [0] 3) [(0, 0, rowP l)]) True.intro))) (by kernel_rfl)

set_option maxRecDepth 100000 in
theorem fit_no {l : List Pt} {ec : Int} {tn td : Int} (hg : FnL Try.prog 52 1 [fldS 0 l] [(0, 0, rowP l)] (.pv (.bool false)) 0 []) (ht : FnL Try.prog 53 1 [fldS 0 l, .pv (ratioV tn td)] [(0, 0, rowP l)] (.pv (.int .i64 (ec))) 0 []) (he : (ec == 0) = false) :
    FnL Try.prog 22 1 [fldS 0 l, .pv (ratioV tn td)] [(0, 0, rowP l)] (.pv (.bool false)) 0 [] :=
  fnl_run 300 [] [.f [0] [fldS 0 l] [(0, 0, rowP l)] (.pv (.bool false)) 0 [], .k, .f [0] [fldS 0 l, .pv (ratioV tn td)] [(0, 0, rowP l)] (.pv (.int .i64 (ec))) 0 [], .t false]
     True.intro (And.intro hg (And.intro (Eq.refl (List.map (SV.ren (renU [0] 3)) [fldS 0 l])) (And.intro (reflH (renU [0] 3) [(0, 0, rowP l)]) (And.intro ht (And.intro (Eq.refl (List.map (SV.ren (renU [0] 3)) [fldS 0 l, .pv (ratioV tn td)])) (And.intro (reflH (renU [0] 3) [(0, 0, rowP l)]) (And.intro he True.intro))))))) (by kernel_rfl)

set_option maxRecDepth 100000 in
theorem fit_yes {l : List Pt} {ec : Int} {tn td : Int} (hg : FnL Try.prog 52 1 [fldS 0 l] [(0, 0, rowP l)] (.pv (.bool false)) 0 []) (ht : FnL Try.prog 53 1 [fldS 0 l, .pv (ratioV tn td)] [(0, 0, rowP l)] (.pv (.int .i64 (ec))) 0 []) (he : (ec == 0) = true) :
    FnL Try.prog 22 1 [fldS 0 l, .pv (ratioV tn td)] [(0, 0, rowP l)] (.pv (.bool true)) 0 [] :=
  fnl_run 300 [] [.f [0] [fldS 0 l] [(0, 0, rowP l)] (.pv (.bool false)) 0 [], .k, .f [0] [fldS 0 l, .pv (ratioV tn td)] [(0, 0, rowP l)] (.pv (.int .i64 (ec))) 0 [], .t true]
     True.intro (And.intro hg (And.intro (Eq.refl (List.map (SV.ren (renU [0] 3)) [fldS 0 l])) (And.intro (reflH (renU [0] 3) [(0, 0, rowP l)]) (And.intro ht (And.intro (Eq.refl (List.map (SV.ren (renU [0] 3)) [fldS 0 l, .pv (ratioV tn td)])) (And.intro (reflH (renU [0] 3) [(0, 0, rowP l)]) (And.intro he True.intro))))))) (by kernel_rfl)

theorem fit_any {tn td : Int} (hn : I64 tn) (hd : I64 td) (l : List Pt) : FnL Try.prog 22 1 [fldS 0 l, .pv (ratioV tn td)] [(0, 0, rowP l)] (.pv (.bool false)) 0 [] ∨ (Val l ∧ Tm tn td ∧ FnL Try.prog 22 1 [fldS 0 l, .pv (ratioV tn td)] [(0, 0, rowP l)] (.pv (.bool true)) 0 []) := by
  rcases Great_any l with ⟨_, hg⟩ | ⟨hl, hg⟩
  · exact Or.inl (fit_great hg)
  by_cases h : tE l tn td = 0
  · obtain ⟨hv, hb⟩ := tE_val h
    exact Or.inr ⟨hv, ⟨hn, hd, hb⟩, fit_yes hg (Timed_any hn hd l) (by simp [h])⟩
  · exact Or.inl (fit_no hg (Timed_any hn hd l) (by simp [h]))
end Go.Proofs.Ytgpbofinbpcceaa
