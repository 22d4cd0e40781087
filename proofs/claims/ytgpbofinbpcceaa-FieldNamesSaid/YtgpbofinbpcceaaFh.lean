/-
  Put, Take and Change of package field, path by path. Conditions: none.
-/
import Derived.Test.YtgpbofinbpcceaaFg
namespace Go.Proofs.Ytgpbofinbpcceaa
open Go.RowKit
set_option maxRecDepth 100000 in
theorem pput_err {l : List Pt} {pi pa pb : Int} {e : Int} (hc : FnL Try.prog 44 1 [fldS 0 l, .pv (pointV pi pa pb)] [(0, 0, rowP l)] (.pv (.int .i64 (e))) 0 []) (he : (e != 0) = true) :
    FnL Try.prog 11 1 [fldS 0 l, .pv (pointV pi pa pb)] [(0, 0, rowP l)] (.pv (.tuple #[.agg #[.slice none 0 0], .int .i64 (e)])) 0 [] :=
  fnl_run 300 [] [.f [0] [fldS 0 l, .pv (pointV pi pa pb)] [(0, 0, rowP l)] (.pv (.int .i64 (e))) 0 [], .t true]
     True.intro (And.intro hc (And.intro (Eq.refl (List.map (SV.ren (renU [0] 4)) [fldS 0 l, .pv (pointV pi pa pb)])) (And.intro (reflH (renU [0] 4) [(0, 0, rowP l)]) (And.intro he True.intro)))) (by kernel_rfl)

set_option maxRecDepth 100000 in
theorem pput_twice {l : List Pt} {k : Nat} {pi pa pb : Int} (hc : FnL Try.prog 44 1 [fldS 0 l, .pv (pointV pi pa pb)] [(0, 0, rowP l)] (.pv (.int .i64 (0))) 0 []) (hf : FnL Try.prog 43 1 [fldS 0 l, .pv (.int .i64 (pi))] [(0, 0, rowP l)] (.pv (.tuple #[.int .i64 (k : Int), .bool true])) 0 []) :
    FnL Try.prog 11 1 [fldS 0 l, .pv (pointV pi pa pb)] [(0, 0, rowP l)] (.pv (.tuple #[.agg #[.slice none 0 0], .int .i64 (14)])) 0 [] :=
  fnl_run 300 [] [.f [0] [fldS 0 l, .pv (pointV pi pa pb)] [(0, 0, rowP l)] (.pv (.int .i64 (0))) 0 [], .k, .f [0] [fldS 0 l, .pv (.int .i64 (pi))] [(0, 0, rowP l)] (.pv (.tuple #[.int .i64 (k : Int), .bool true])) 0 []]
     True.intro (And.intro hc (And.intro (Eq.refl (List.map (SV.ren (renU [0] 4)) [fldS 0 l, .pv (pointV pi pa pb)])) (And.intro (reflH (renU [0] 4) [(0, 0, rowP l)]) (And.intro hf (And.intro (Eq.refl (List.map (SV.ren (renU [0] 4)) [fldS 0 l, .pv (.int .i64 (pi))])) (And.intro (reflH (renU [0] 4) [(0, 0, rowP l)]) True.intro)))))) (by kernel_rfl)

set_option maxRecDepth 100000 in
theorem pput_full {l : List Pt} {k : Nat} {pi pa pb : Int} (hc : FnL Try.prog 44 1 [fldS 0 l, .pv (pointV pi pa pb)] [(0, 0, rowP l)] (.pv (.int .i64 (0))) 0 []) (hf : FnL Try.prog 43 1 [fldS 0 l, .pv (.int .i64 (pi))] [(0, 0, rowP l)] (.pv (.tuple #[.int .i64 (k : Int), .bool false])) 0 []) (h64 : ((l.length : Int) == 64) = true) :
    FnL Try.prog 11 1 [fldS 0 l, .pv (pointV pi pa pb)] [(0, 0, rowP l)] (.pv (.tuple #[.agg #[.slice none 0 0], .int .i64 (18)])) 0 [] :=
  fnl_run 300 [] [.f [0] [fldS 0 l, .pv (pointV pi pa pb)] [(0, 0, rowP l)] (.pv (.int .i64 (0))) 0 [], .k, .f [0] [fldS 0 l, .pv (.int .i64 (pi))] [(0, 0, rowP l)] (.pv (.tuple #[.int .i64 (k : Int), .bool false])) 0 [], .t true]
     True.intro (And.intro hc (And.intro (Eq.refl (List.map (SV.ren (renU [0] 4)) [fldS 0 l, .pv (pointV pi pa pb)])) (And.intro (reflH (renU [0] 4) [(0, 0, rowP l)]) (And.intro hf (And.intro (Eq.refl (List.map (SV.ren (renU [0] 4)) [fldS 0 l, .pv (.int .i64 (pi))])) (And.intro (reflH (renU [0] 4) [(0, 0, rowP l)]) (And.intro h64 True.intro))))))) (by kernel_rfl)

set_option maxRecDepth 100000 in
theorem ptake_err {l : List Pt} {id : Int} {e : Int} (hc : FnL Try.prog 17 1 [fldS 0 l] [(0, 0, rowP l)] (.pv (.int .i64 (e))) 0 []) (he : (e != 0) = true) :
    FnL Try.prog 12 1 [fldS 0 l, .pv (.int .i64 (id))] [(0, 0, rowP l)] (.pv (.tuple #[.agg #[.slice none 0 0], .int .i64 (e)])) 0 [] :=
  fnl_run 300 [] [.f [0] [fldS 0 l] [(0, 0, rowP l)] (.pv (.int .i64 (e))) 0 [], .t true]
     True.intro (And.intro hc (And.intro (Eq.refl (List.map (SV.ren (renU [0] 3)) [fldS 0 l])) (And.intro (reflH (renU [0] 3) [(0, 0, rowP l)]) (And.intro he True.intro)))) (by kernel_rfl)

set_option maxRecDepth 100000 in
theorem ptake_no {l : List Pt} {k : Nat} {id : Int} (hc : FnL Try.prog 17 1 [fldS 0 l] [(0, 0, rowP l)] (.pv (.int .i64 (0))) 0 []) (hf : FnL Try.prog 43 1 [fldS 0 l, .pv (.int .i64 (id))] [(0, 0, rowP l)] (.pv (.tuple #[.int .i64 (k : Int), .bool false])) 0 []) :
    FnL Try.prog 12 1 [fldS 0 l, .pv (.int .i64 (id))] [(0, 0, rowP l)] (.pv (.tuple #[.agg #[.slice none 0 0], .int .i64 (6)])) 0 [] :=
  fnl_run 300 [] [.f [0] [fldS 0 l] [(0, 0, rowP l)] (.pv (.int .i64 (0))) 0 [], .k, .f [0] [fldS 0 l, .pv (.int .i64 (id))] [(0, 0, rowP l)] (.pv (.tuple #[.int .i64 (k : Int), .bool false])) 0 [], .k]
     True.intro (And.intro hc (And.intro (Eq.refl (List.map (SV.ren (renU [0] 3)) [fldS 0 l])) (And.intro (reflH (renU [0] 3) [(0, 0, rowP l)]) (And.intro hf (And.intro (Eq.refl (List.map (SV.ren (renU [0] 3)) [fldS 0 l, .pv (.int .i64 (id))])) (And.intro (reflH (renU [0] 3) [(0, 0, rowP l)]) True.intro)))))) (by kernel_rfl)

set_option maxRecDepth 100000 in
theorem ptake_yes {l : List Pt} {k : Nat} {id : Int} {s1 s2 : Int} (hkl : k ≤ l.length) (hkl1 : k + 1 ≤ l.length) (hc : FnL Try.prog 17 1 [fldS 0 l] [(0, 0, rowP l)] (.pv (.int .i64 (0))) 0 []) (hf : FnL Try.prog 43 1 [fldS 0 l, .pv (.int .i64 (id))] [(0, 0, rowP l)] (.pv (.tuple #[.int .i64 (k : Int), .bool true])) 0 []) (hk1 : Value.int .i64 (IntKind.i64.wrap ((k : Int) + 1)) = .int .i64 (((k + 1 : Nat) : Int))) (q1 : Value.int .i64 (IntKind.i64.wrap ((0 : Int) + ((k : Nat) : Int))) = .int .i64 s1) (n1 : decide (s1 < 0) = false) (q2 : Value.int .i64 (IntKind.i64.wrap (s1 + ((l.length - (k + 1) : Nat) : Int))) = .int .i64 s2) (n2 : decide (s2 < 0) = false) (hgr : FnL Try.prog 112 0 [.pv (.slice none 0 0), .pv (.int .i64 (s2))] [] (.ls 0 0) 1 [(0, 0, rowP ([] : List Pt))]) (m1 : 0 + k ≤ 1000000) (m2 : 0 + k + (l.length - (k + 1)) ≤ 1000000) :
    FnL Try.prog 12 1 [fldS 0 l, .pv (.int .i64 (id))] [(0, 0, rowP l)] (.tu [.ag [.ls 1 (l.take k ++ l.drop (k + 1)).length], .one (.pv (.int .i64 0))]) 1 [(1, 0, rowP (l.take k ++ l.drop (k + 1)))] :=
  fnl_runX 300 [(1, 7)] [.f [0] [fldS 0 l] [(0, 0, rowP l)] (.pv (.int .i64 (0))) 0 [], .k, .f [0] [fldS 0 l, .pv (.int .i64 (id))] [(0, 0, rowP l)] (.pv (.tuple #[.int .i64 (k : Int), .bool true])) 0 [], .k, .k, .r (.int .i64 (((k + 1 : Nat) : Int))), .k, .k, .k, .k, .r (.int .i64 s1), .t false, .k, .k, .r (.int .i64 s2), .t false, .k, .k, .f [] [.pv (.slice none 0 0), .pv (.int .i64 (s2))] [] (.ls 0 0) 1 [(0, 0, rowP ([] : List Pt))], .k, .k, .k, .k, .k]
    (take_tu 7 l k hkl1) (And.intro (take_row l k hkl1) True.intro) (And.intro hc (And.intro (Eq.refl (List.map (SV.ren (renU [0] 3)) [fldS 0 l])) (And.intro (reflH (renU [0] 3) [(0, 0, rowP l)]) (And.intro hf (And.intro (Eq.refl (List.map (SV.ren (renU [0] 3)) [fldS 0 l, .pv (.int .i64 (id))])) (And.intro (reflH (renU [0] 3) [(0, 0, rowP l)]) (And.intro True.intro (And.intro (Int.natCast_nonneg k) (And.intro (Nat.zero_le k) (And.intro hkl (And.intro hk1 (And.intro (Int.natCast_nonneg (k + 1)) (And.intro True.intro (And.intro hkl1 (And.intro (Nat.le_refl l.length) (And.intro q1 (And.intro n1 (And.intro q2 (And.intro n2 (And.intro hgr (And.intro (Eq.refl (List.map (SV.ren (renU [] 5)) [.pv (.slice none 0 0), .pv (.int .i64 (s2))])) (And.intro (reflH (renU [] 5) []) (And.intro m1 (And.intro m2 True.intro)))))))))))))))))))))))) (by kernel_rfl)

set_option maxRecDepth 100000 in
theorem ptake_one {l : List Pt} {k : Nat} {id : Int} {s1 s2 : Int} (hkl : k ≤ l.length) (hkl1 : k + 1 ≤ l.length) (hc : FnL Try.prog 17 1 [fldS 0 l] [(0, 0, rowP l)] (.pv (.int .i64 (0))) 0 []) (hf : FnL Try.prog 43 1 [fldS 0 l, .pv (.int .i64 (id))] [(0, 0, rowP l)] (.pv (.tuple #[.int .i64 (k : Int), .bool true])) 0 []) (hk1 : Value.int .i64 (IntKind.i64.wrap ((k : Int) + 1)) = .int .i64 (((k + 1 : Nat) : Int))) (q1 : Value.int .i64 (IntKind.i64.wrap ((0 : Int) + ((k : Nat) : Int))) = .int .i64 s1) (n1 : decide (s1 < 0) = false) (q2 : Value.int .i64 (IntKind.i64.wrap (s1 + ((l.length - (k + 1) : Nat) : Int))) = .int .i64 s2) (n2 : decide (s2 < 0) = false) (hgr : FnL Try.prog 112 0 [.pv (.slice none 0 0), .pv (.int .i64 (s2))] [] (.pv (.slice none 0 0)) 0 []) (m1 : 0 + k ≤ 1000000) (m2 : 0 + k + (l.length - (k + 1)) ≤ 1000000) :
    FnL Try.prog 12 1 [fldS 0 l, .pv (.int .i64 (id))] [(0, 0, rowP l)] (.tu [.ag [.ls 1 (l.take k ++ l.drop (k + 1)).length], .one (.pv (.int .i64 0))]) 1 [(1, 0, rowP (l.take k ++ l.drop (k + 1)))] :=
  fnl_runX 300 [(1, 6)] [.f [0] [fldS 0 l] [(0, 0, rowP l)] (.pv (.int .i64 (0))) 0 [], .k, .f [0] [fldS 0 l, .pv (.int .i64 (id))] [(0, 0, rowP l)] (.pv (.tuple #[.int .i64 (k : Int), .bool true])) 0 [], .k, .k, .r (.int .i64 (((k + 1 : Nat) : Int))), .k, .k, .k, .k, .r (.int .i64 s1), .t false, .k, .k, .r (.int .i64 s2), .t false, .k, .k, .f [] [.pv (.slice none 0 0), .pv (.int .i64 (s2))] [] (.pv (.slice none 0 0)) 0 [], .k, .k, .k, .k, .k]
    (take_tu 6 l k hkl1) (And.intro (take_row l k hkl1) True.intro) (And.intro hc (And.intro (Eq.refl (List.map (SV.ren (renU [0] 3)) [fldS 0 l])) (And.intro (reflH (renU [0] 3) [(0, 0, rowP l)]) (And.intro hf (And.intro (Eq.refl (List.map (SV.ren (renU [0] 3)) [fldS 0 l, .pv (.int .i64 (id))])) (And.intro (reflH (renU [0] 3) [(0, 0, rowP l)]) (And.intro True.intro (And.intro (Int.natCast_nonneg k) (And.intro (Nat.zero_le k) (And.intro hkl (And.intro hk1 (And.intro (Int.natCast_nonneg (k + 1)) (And.intro True.intro (And.intro hkl1 (And.intro (Nat.le_refl l.length) (And.intro q1 (And.intro n1 (And.intro q2 (And.intro n2 (And.intro hgr (And.intro (Eq.refl (List.map (SV.ren (renU [] 5)) [.pv (.slice none 0 0), .pv (.int .i64 (s2))])) (And.intro (reflH (renU [] 5) []) (And.intro m1 (And.intro m2 True.intro)))))))))))))))))))))))) (by kernel_rfl)

set_option maxRecDepth 100000 in
theorem pchange_err {l : List Pt} {pi pa pb : Int} {e : Int} (hc : FnL Try.prog 44 1 [fldS 0 l, .pv (pointV pi pa pb)] [(0, 0, rowP l)] (.pv (.int .i64 (e))) 0 []) (he : (e != 0) = true) :
    FnL Try.prog 13 1 [fldS 0 l, .pv (pointV pi pa pb)] [(0, 0, rowP l)] (.pv (.tuple #[.agg #[.slice none 0 0], .int .i64 (e)])) 0 [] :=
  fnl_run 300 [] [.f [0] [fldS 0 l, .pv (pointV pi pa pb)] [(0, 0, rowP l)] (.pv (.int .i64 (e))) 0 [], .t true]
     True.intro (And.intro hc (And.intro (Eq.refl (List.map (SV.ren (renU [0] 4)) [fldS 0 l, .pv (pointV pi pa pb)])) (And.intro (reflH (renU [0] 4) [(0, 0, rowP l)]) (And.intro he True.intro)))) (by kernel_rfl)

set_option maxRecDepth 100000 in
theorem pchange_no {l : List Pt} {k : Nat} {pi pa pb : Int} (hc : FnL Try.prog 44 1 [fldS 0 l, .pv (pointV pi pa pb)] [(0, 0, rowP l)] (.pv (.int .i64 (0))) 0 []) (hf : FnL Try.prog 43 1 [fldS 0 l, .pv (.int .i64 (pi))] [(0, 0, rowP l)] (.pv (.tuple #[.int .i64 (k : Int), .bool false])) 0 []) :
    FnL Try.prog 13 1 [fldS 0 l, .pv (pointV pi pa pb)] [(0, 0, rowP l)] (.pv (.tuple #[.agg #[.slice none 0 0], .int .i64 (6)])) 0 [] :=
  fnl_run 300 [] [.f [0] [fldS 0 l, .pv (pointV pi pa pb)] [(0, 0, rowP l)] (.pv (.int .i64 (0))) 0 [], .k, .f [0] [fldS 0 l, .pv (.int .i64 (pi))] [(0, 0, rowP l)] (.pv (.tuple #[.int .i64 (k : Int), .bool false])) 0 [], .k]
     True.intro (And.intro hc (And.intro (Eq.refl (List.map (SV.ren (renU [0] 4)) [fldS 0 l, .pv (pointV pi pa pb)])) (And.intro (reflH (renU [0] 4) [(0, 0, rowP l)]) (And.intro hf (And.intro (Eq.refl (List.map (SV.ren (renU [0] 4)) [fldS 0 l, .pv (.int .i64 (pi))])) (And.intro (reflH (renU [0] 4) [(0, 0, rowP l)]) True.intro)))))) (by kernel_rfl)

end Go.Proofs.Ytgpbofinbpcceaa
