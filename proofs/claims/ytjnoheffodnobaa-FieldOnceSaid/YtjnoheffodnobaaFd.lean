/-
  At, Find of the reference, checks with a point or a time, path by path. Conditions: none.
-/
import Derived.Test.YtjnoheffodnobaaFa
namespace Go.Proofs.Ytjnoheffodnobaa
open Go.RowKit

set_option maxRecDepth 100000 in
theorem at_next {l : List Pt} {k : Nat} {p : Pt} {id : Int} (hk : l[k]? = some p) (hin : 0 ≤ (k : Int) ∧ (k : Int) < (l.length : Int)) (hlt : decide ((k : Int) < (l.length : Int)) = true) (he : (p.id == id) = false) (hs : Value.int .i64 (IntKind.i64.wrap ((k : Int) + 1)) = .int .i64 (((k + 1 : Nat) : Int))) {e : Exit} {tm2 : List (Nat × SV)} {hp2 : List (Nat × Nat × SV)}
    (r : RunsL Try.prog 1 1 (loopOf Try.prog 46 0) 22 2 ([(1, .pv (.int .i64 id)), (2, .pp 1 0), (5, .pv (.int .i64 ((k + 1 : Nat) : Int)))]) ([(1, 0, .ls 0 l.length), (0, 0, rowP l)]) e tm2 hp2) : RunsL Try.prog 1 1 (loopOf Try.prog 46 0) 22 2 ([(1, .pv (.int .i64 id)), (2, .pp 1 0), (5, .pv (.int .i64 (k : Int)))]) ([(1, 0, .ls 0 l.length), (0, 0, rowP l)]) e tm2 hp2 :=
  RunsL.next [] 300 [.t true, .r (Value.int .i64 p.id), .t false, .r (.int .i64 (((k + 1 : Nat) : Int)))]
    (round_of (And.intro hlt (And.intro hin (And.intro (ra_id hk) (And.intro he (And.intro hs True.intro))))) (by kernel_rfl)) r

set_option maxRecDepth 100000 in
theorem at_hit {l : List Pt} {k : Nat} {p : Pt} {id : Int} (hk : l[k]? = some p) (hin : 0 ≤ (k : Int) ∧ (k : Int) < (l.length : Int)) (hlt : decide ((k : Int) < (l.length : Int)) = true) (he : (p.id == id) = true) : RunsL Try.prog 1 1 (loopOf Try.prog 46 0) 22 2 ([(1, .pv (.int .i64 id)), (2, .pp 1 0), (5, .pv (.int .i64 (k : Int)))]) ([(1, 0, .ls 0 l.length), (0, 0, rowP l)]) (.ret) ([(4, .pv (.int .i64 (k : Int)))]) ([]) :=
  RunsL.stop [] 300 [.t true, .r (Value.int .i64 p.id), .t true] (fun h => by cases h)
    (round_of (And.intro hlt (And.intro hin (And.intro (ra_id hk) (And.intro he True.intro)))) (by kernel_rfl))

set_option maxRecDepth 100000 in
theorem at_end {l : List Pt} {k : Nat} {id : Int} (hge : decide ((k : Int) < (l.length : Int)) = false) : RunsL Try.prog 1 1 (loopOf Try.prog 46 0) 22 2 ([(1, .pv (.int .i64 id)), (2, .pp 1 0), (5, .pv (.int .i64 (k : Int)))]) ([(1, 0, .ls 0 l.length), (0, 0, rowP l)]) (.exit 0) ([]) ([]) :=
  RunsL.stop [] 300 [.t false] (fun h => by cases h)
    (round_of (And.intro hge True.intro) (by kernel_rfl))

set_option maxRecDepth 100000 in
theorem at_no {l : List Pt} {id : Int} (r0 : RunsL Try.prog 1 1 (loopOf Try.prog 46 0) 22 2 ([(1, .pv (.int .i64 id)), (2, .pp 1 0), (5, .pv (.int .i64 ((0 : Nat) : Int)))]) ([(1, 0, .ls 0 l.length), (0, 0, rowP l)]) (.exit 0) ([]) ([])) :
    FnL Try.prog 46 1 [fldS 0 l, .pv (.int .i64 (id))] [(0, 0, rowP l)] (.pv (.int .i64 (-1))) 0 [] :=
  fnl_run 300 [] [.l (.exit 0) ([(1, .pv (.int .i64 id)), (2, .pp 1 0), (5, .pv (.int .i64 ((0 : Nat) : Int)))]) ([(1, 0, .ls 0 l.length), (0, 0, rowP l)]) ([]) ([])]
     True.intro (And.intro (reflT (renN []) ([(1, .pv (.int .i64 id)), (2, .pp 1 0), (5, .pv (.int .i64 ((0 : Nat) : Int)))])) (And.intro (reflH (renN []) ([(1, 0, .ls 0 l.length), (0, 0, rowP l)])) (And.intro r0 True.intro))) (by kernel_rfl)

set_option maxRecDepth 100000 in
theorem at_yes {l : List Pt} {k : Nat} {id : Int} (r0 : RunsL Try.prog 1 1 (loopOf Try.prog 46 0) 22 2 ([(1, .pv (.int .i64 id)), (2, .pp 1 0), (5, .pv (.int .i64 ((0 : Nat) : Int)))]) ([(1, 0, .ls 0 l.length), (0, 0, rowP l)]) (.ret) ([(4, .pv (.int .i64 (k : Int)))]) ([])) :
    FnL Try.prog 46 1 [fldS 0 l, .pv (.int .i64 (id))] [(0, 0, rowP l)] (.pv (.int .i64 ((k : Int)))) 0 [] :=
  fnl_run 300 [] [.l (.ret) ([(1, .pv (.int .i64 id)), (2, .pp 1 0), (5, .pv (.int .i64 ((0 : Nat) : Int)))]) ([(1, 0, .ls 0 l.length), (0, 0, rowP l)]) ([(4, .pv (.int .i64 (k : Int)))]) ([])]
     True.intro (And.intro (reflT (renN []) ([(1, .pv (.int .i64 id)), (2, .pp 1 0), (5, .pv (.int .i64 ((0 : Nat) : Int)))])) (And.intro (reflH (renN []) ([(1, 0, .ls 0 l.length), (0, 0, rowP l)])) (And.intro r0 True.intro))) (by kernel_rfl)

set_option maxRecDepth 100000 in
theorem rfind_err {l : List Pt} {id : Int} {e : Int} (hc : FnL Try.prog 28 1 [fldS 0 l] [(0, 0, rowP l)] (.pv (.int .i64 (e))) 0 []) (he : (e != 0) = true) :
    FnL Try.prog 24 1 [fldS 0 l, .pv (.int .i64 (id))] [(0, 0, rowP l)] (.pv (.tuple #[pointV 0 0 0, .int .i64 (e)])) 0 [] :=
  fnl_run 300 [] [.f [0] [fldS 0 l] [(0, 0, rowP l)] (.pv (.int .i64 (e))) 0 [], .t true]
     True.intro (And.intro hc (And.intro (Eq.refl (List.map (SV.ren (renU [0] 3)) [fldS 0 l])) (And.intro (reflH (renU [0] 3) [(0, 0, rowP l)]) (And.intro he True.intro)))) (by kernel_rfl)

set_option maxRecDepth 100000 in
theorem rfind_no {l : List Pt} {id : Int} (hc : FnL Try.prog 28 1 [fldS 0 l] [(0, 0, rowP l)] (.pv (.int .i64 (0))) 0 []) (ha : FnL Try.prog 46 1 [fldS 0 l, .pv (.int .i64 (id))] [(0, 0, rowP l)] (.pv (.int .i64 (-1))) 0 []) :
    FnL Try.prog 24 1 [fldS 0 l, .pv (.int .i64 (id))] [(0, 0, rowP l)] (.pv (.tuple #[pointV 0 0 0, .int .i64 (6)])) 0 [] :=
  fnl_run 300 [] [.f [0] [fldS 0 l] [(0, 0, rowP l)] (.pv (.int .i64 (0))) 0 [], .k, .f [0] [fldS 0 l, .pv (.int .i64 (id))] [(0, 0, rowP l)] (.pv (.int .i64 (-1))) 0 [], .k]
     True.intro (And.intro hc (And.intro (Eq.refl (List.map (SV.ren (renU [0] 3)) [fldS 0 l])) (And.intro (reflH (renU [0] 3) [(0, 0, rowP l)]) (And.intro ha (And.intro (Eq.refl (List.map (SV.ren (renU [0] 3)) [fldS 0 l, .pv (.int .i64 (id))])) (And.intro (reflH (renU [0] 3) [(0, 0, rowP l)]) True.intro)))))) (by kernel_rfl)

set_option maxRecDepth 100000 in
theorem rfind_yes {l : List Pt} {k : Nat} {p : Pt} {id : Int} (hk : l[k]? = some p) (hin : 0 ≤ (k : Int) ∧ (k : Int) < (l.length : Int)) (hc : FnL Try.prog 28 1 [fldS 0 l] [(0, 0, rowP l)] (.pv (.int .i64 (0))) 0 []) (ha : FnL Try.prog 46 1 [fldS 0 l, .pv (.int .i64 (id))] [(0, 0, rowP l)] (.pv (.int .i64 ((k : Int)))) 0 []) (h0 : decide ((k : Int) < 0) = false) :
    FnL Try.prog 24 1 [fldS 0 l, .pv (.int .i64 (id))] [(0, 0, rowP l)] (.pv (.tuple #[ptV p, .int .i64 (0)])) 0 [] :=
  fnl_run 300 [] [.f [0] [fldS 0 l] [(0, 0, rowP l)] (.pv (.int .i64 (0))) 0 [], .k, .f [0] [fldS 0 l, .pv (.int .i64 (id))] [(0, 0, rowP l)] (.pv (.int .i64 ((k : Int)))) 0 [], .t false, .r (ptV p)]
     True.intro (And.intro hc (And.intro (Eq.refl (List.map (SV.ren (renU [0] 3)) [fldS 0 l])) (And.intro (reflH (renU [0] 3) [(0, 0, rowP l)]) (And.intro ha (And.intro (Eq.refl (List.map (SV.ren (renU [0] 3)) [fldS 0 l, .pv (.int .i64 (id))])) (And.intro (reflH (renU [0] 3) [(0, 0, rowP l)]) (And.intro h0 (And.intro hin (And.intro (ra_pt hk) True.intro))))))))) (by kernel_rfl)

set_option maxRecDepth 100000 in
theorem cwp_err {l : List Pt} {pi pa pb : Int} {e : Int} (hc : FnL Try.prog 17 1 [fldS 0 l] [(0, 0, rowP l)] (.pv (.int .i64 (e))) 0 []) (he : (e != 0) = true) :
    FnL Try.prog 38 1 [fldS 0 l, .pv (pointV pi pa pb)] [(0, 0, rowP l)] (.pv (.int .i64 (e))) 0 [] :=
  fnl_run 300 [] [.f [0] [fldS 0 l] [(0, 0, rowP l)] (.pv (.int .i64 (e))) 0 [], .t true]
     True.intro (And.intro hc (And.intro (Eq.refl (List.map (SV.ren (renU [0] 3)) [fldS 0 l])) (And.intro (reflH (renU [0] 3) [(0, 0, rowP l)]) (And.intro he True.intro)))) (by kernel_rfl)

set_option maxRecDepth 100000 in
theorem cwp_ok {l : List Pt} {pi pa pb : Int} {e : Int} (hc : FnL Try.prog 17 1 [fldS 0 l] [(0, 0, rowP l)] (.pv (.int .i64 (0))) 0 []) (hp : Pure Try.prog 45 #[pointV pi pa pb] (.int .i64 (e))) :
    FnL Try.prog 38 1 [fldS 0 l, .pv (pointV pi pa pb)] [(0, 0, rowP l)] (.pv (.int .i64 (e))) 0 [] :=
  fnl_run 300 [] [.f [0] [fldS 0 l] [(0, 0, rowP l)] (.pv (.int .i64 (0))) 0 [], .k, .r (.int .i64 (e))]
     True.intro (And.intro hc (And.intro (Eq.refl (List.map (SV.ren (renU [0] 3)) [fldS 0 l])) (And.intro (reflH (renU [0] 3) [(0, 0, rowP l)]) (And.intro hp True.intro)))) (by kernel_rfl)

set_option maxRecDepth 100000 in
theorem cwt_err {l : List Pt} {tn td : Int} {e : Int} (hc : FnL Try.prog 17 1 [fldS 0 l] [(0, 0, rowP l)] (.pv (.int .i64 (e))) 0 []) (he : (e != 0) = true) :
    FnL Try.prog 40 1 [fldS 0 l, .pv (ratioV tn td)] [(0, 0, rowP l)] (.pv (.int .i64 (e))) 0 [] :=
  fnl_run 300 [] [.f [0] [fldS 0 l] [(0, 0, rowP l)] (.pv (.int .i64 (e))) 0 [], .t true]
     True.intro (And.intro hc (And.intro (Eq.refl (List.map (SV.ren (renU [0] 3)) [fldS 0 l])) (And.intro (reflH (renU [0] 3) [(0, 0, rowP l)]) (And.intro he True.intro)))) (by kernel_rfl)

set_option maxRecDepth 100000 in
theorem cwt_ok {l : List Pt} {tn td : Int} {e : Int} (hc : FnL Try.prog 17 1 [fldS 0 l] [(0, 0, rowP l)] (.pv (.int .i64 (0))) 0 []) (ht : Pure Try.prog 52 #[ratioV tn td] (.int .i64 (e))) :
    FnL Try.prog 40 1 [fldS 0 l, .pv (ratioV tn td)] [(0, 0, rowP l)] (.pv (.int .i64 (e))) 0 [] :=
  fnl_run 300 [] [.f [0] [fldS 0 l] [(0, 0, rowP l)] (.pv (.int .i64 (0))) 0 [], .k, .r (.int .i64 (e))]
     True.intro (And.intro hc (And.intro (Eq.refl (List.map (SV.ren (renU [0] 3)) [fldS 0 l])) (And.intro (reflH (renU [0] 3) [(0, 0, rowP l)]) (And.intro ht True.intro)))) (by kernel_rfl)

set_option maxRecDepth 100000 in
theorem tmd_err {l : List Pt} {tn td : Int} {e : Int} (hc : FnL Try.prog 28 1 [fldS 0 l] [(0, 0, rowP l)] (.pv (.int .i64 (e))) 0 []) (he : (e != 0) = true) :
    FnL Try.prog 48 1 [fldS 0 l, .pv (ratioV tn td)] [(0, 0, rowP l)] (.pv (.int .i64 (e))) 0 [] :=
  fnl_run 300 [] [.f [0] [fldS 0 l] [(0, 0, rowP l)] (.pv (.int .i64 (e))) 0 [], .t true]
     True.intro (And.intro hc (And.intro (Eq.refl (List.map (SV.ren (renU [0] 3)) [fldS 0 l])) (And.intro (reflH (renU [0] 3) [(0, 0, rowP l)]) (And.intro he True.intro)))) (by kernel_rfl)

set_option maxRecDepth 100000 in
theorem tmd_ok {l : List Pt} {tn td : Int} {e : Int} (hc : FnL Try.prog 28 1 [fldS 0 l] [(0, 0, rowP l)] (.pv (.int .i64 (0))) 0 []) (ht : Pure Try.prog 63 #[ratioV tn td] (.int .i64 (e))) :
    FnL Try.prog 48 1 [fldS 0 l, .pv (ratioV tn td)] [(0, 0, rowP l)] (.pv (.int .i64 (e))) 0 [] :=
  fnl_run 300 [] [.f [0] [fldS 0 l] [(0, 0, rowP l)] (.pv (.int .i64 (0))) 0 [], .k, .r (.int .i64 (e))]
     True.intro (And.intro hc (And.intro (Eq.refl (List.map (SV.ren (renU [0] 3)) [fldS 0 l])) (And.intro (reflH (renU [0] 3) [(0, 0, rowP l)]) (And.intro ht True.intro)))) (by kernel_rfl)

end Go.Proofs.Ytjnoheffodnobaa
