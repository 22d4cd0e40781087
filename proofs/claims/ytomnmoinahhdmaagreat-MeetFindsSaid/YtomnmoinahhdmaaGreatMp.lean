/-
  Next and Last of the reference. Conditions: none.
-/
import Derived.Test.YtomnmoinahhdmaaGreatMo
import Derived.Test.YtomnmoinahhdmaaGreatW24
namespace Go.Proofs.YtomnmoinahhdmaaGreat
open Go.RowKit
set_option maxRecDepth 100000 in
theorem ti_field {l : List Pt} {fn fd tn td : Int} {e : Int} (hc : FnL Tryz.prog 66 1 [fldS 0 l] [(0, 0, rowP l)] (.pv (.int .i64 (e))) 0 []) (he : (e != 0) = true) :
    FnL Tryz.prog 32 1 [fldS 0 l, .pv (ratioV fn fd), .pv (ratioV tn td)] [(0, 0, rowP l)] (.pv (.int .i64 (e))) 0 [] :=
  fnl_run 300 [] [.f [0] [fldS 0 l] [(0, 0, rowP l)] (.pv (.int .i64 (e))) 0 [], .t true]
     True.intro (And.intro hc (And.intro (Eq.refl (List.map (SV.ren (renU [0] 4)) [fldS 0 l])) (And.intro (reflH (renU [0] 4) [(0, 0, rowP l)]) (And.intro he True.intro)))) (by kernel_rfl)

set_option maxRecDepth 100000 in
theorem ti_bad {l : List Pt} {fn fd tn td : Int} (hc : FnL Tryz.prog 66 1 [fldS 0 l] [(0, 0, rowP l)] (.pv (.int .i64 (0))) 0 []) (hb : Pure Tryz.prog 70 #[ratioV fn fd, ratioV tn td] (.int .i64 (8))) :
    FnL Tryz.prog 32 1 [fldS 0 l, .pv (ratioV fn fd), .pv (ratioV tn td)] [(0, 0, rowP l)] (.pv (.int .i64 (8))) 0 [] :=
  fnl_run 300 [] [.f [0] [fldS 0 l] [(0, 0, rowP l)] (.pv (.int .i64 (0))) 0 [], .k, .r (.int .i64 (8)), .k]
     True.intro (And.intro hc (And.intro (Eq.refl (List.map (SV.ren (renU [0] 4)) [fldS 0 l])) (And.intro (reflH (renU [0] 4) [(0, 0, rowP l)]) (And.intro hb True.intro)))) (by kernel_rfl)

set_option maxRecDepth 100000 in
theorem ti_arg {l : List Pt} {fn fd tn td : Int} {c : Int} (hc : FnL Tryz.prog 66 1 [fldS 0 l] [(0, 0, rowP l)] (.pv (.int .i64 (0))) 0 []) (hb : Pure Tryz.prog 70 #[ratioV fn fd, ratioV tn td] (.int .i64 (0))) (hk : Pure Tryz.prog 23 #[ratioV fn fd, ratioV tn td] (.int .i64 (c))) (ht : decide (c > 0) = true) :
    FnL Tryz.prog 32 1 [fldS 0 l, .pv (ratioV fn fd), .pv (ratioV tn td)] [(0, 0, rowP l)] (.pv (.int .i64 (2))) 0 [] :=
  fnl_run 300 [] [.f [0] [fldS 0 l] [(0, 0, rowP l)] (.pv (.int .i64 (0))) 0 [], .k, .r (.int .i64 (0)), .k, .r (.int .i64 (c)), .t true]
     True.intro (And.intro hc (And.intro (Eq.refl (List.map (SV.ren (renU [0] 4)) [fldS 0 l])) (And.intro (reflH (renU [0] 4) [(0, 0, rowP l)]) (And.intro hb (And.intro hk (And.intro ht True.intro)))))) (by kernel_rfl)

set_option maxRecDepth 100000 in
theorem ti_ok {l : List Pt} {fn fd tn td : Int} {c : Int} (hc : FnL Tryz.prog 66 1 [fldS 0 l] [(0, 0, rowP l)] (.pv (.int .i64 (0))) 0 []) (hb : Pure Tryz.prog 70 #[ratioV fn fd, ratioV tn td] (.int .i64 (0))) (hk : Pure Tryz.prog 23 #[ratioV fn fd, ratioV tn td] (.int .i64 (c))) (ht : decide (c > 0) = false) :
    FnL Tryz.prog 32 1 [fldS 0 l, .pv (ratioV fn fd), .pv (ratioV tn td)] [(0, 0, rowP l)] (.pv (.int .i64 (0))) 0 [] :=
  fnl_run 300 [] [.f [0] [fldS 0 l] [(0, 0, rowP l)] (.pv (.int .i64 (0))) 0 [], .k, .r (.int .i64 (0)), .k, .r (.int .i64 (c)), .t false]
     True.intro (And.intro hc (And.intro (Eq.refl (List.map (SV.ren (renU [0] 4)) [fldS 0 l])) (And.intro (reflH (renU [0] 4) [(0, 0, rowP l)]) (And.intro hb (And.intro hk (And.intro ht True.intro)))))) (by kernel_rfl)

end Go.Proofs.YtomnmoinahhdmaaGreat
