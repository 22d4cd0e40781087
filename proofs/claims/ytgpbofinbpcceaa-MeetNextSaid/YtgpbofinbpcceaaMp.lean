/-
  Next and Last of the reference. Conditions: none.
-/
import Derived.Test.YtgpbofinbpcceaaMo
import Derived.Test.YtgpbofinbpcceaaW24
namespace Go.Proofs.Ytgpbofinbpcceaa
open Go.RowKit
theorem ra_ma {l : List Mt} {k : Nat} {m : Mt} (h : l[k]? = some m) : rowAt (msV l) (0 * 4 + k * 4) [.int .i64 m.n, .int .i64 m.d] := by
  obtain ⟨h1, h2, _, _⟩ := msV_get h
  intro j v hj
  rw [show 0 * 4 + k * 4 + j = k * 4 + j by omega]
  match j, hj with
  | 0, hj => cases hj; exact h1
  | 1, hj => cases hj; exact h2
  | j + 2, hj => simp at hj

set_option maxRecDepth 100000 in
theorem ti_field {l : List Pt} {fn fd tn td : Int} {e : Int} (hc : FnL Try.prog 66 1 [fldS 0 l] [(0, 0, rowP l)] (.pv (.int .i64 (e))) 0 []) (he : (e != 0) = true) :
    FnL Try.prog 64 1 [fldS 0 l, .pv (ratioV fn fd), .pv (ratioV tn td)] [(0, 0, rowP l)] (.pv (.int .i64 (e))) 0 [] :=
  fnl_run 300 [] [.f [0] [fldS 0 l] [(0, 0, rowP l)] (.pv (.int .i64 (e))) 0 [], .t true]
     True.intro (And.intro hc (And.intro (Eq.refl (List.map (SV.ren (renU [0] 4)) [fldS 0 l])) (And.intro (reflH (renU [0] 4) [(0, 0, rowP l)]) (And.intro he True.intro)))) (by kernel_rfl)

set_option maxRecDepth 100000 in
theorem ti_bad {l : List Pt} {fn fd tn td : Int} (hc : FnL Try.prog 66 1 [fldS 0 l] [(0, 0, rowP l)] (.pv (.int .i64 (0))) 0 []) (hb : Pure Try.prog 95 #[ratioV fn fd, ratioV tn td] (.int .i64 (8))) :
    FnL Try.prog 64 1 [fldS 0 l, .pv (ratioV fn fd), .pv (ratioV tn td)] [(0, 0, rowP l)] (.pv (.int .i64 (8))) 0 [] :=
  fnl_run 300 [] [.f [0] [fldS 0 l] [(0, 0, rowP l)] (.pv (.int .i64 (0))) 0 [], .k, .r (.int .i64 (8)), .k]
     True.intro (And.intro hc (And.intro (Eq.refl (List.map (SV.ren (renU [0] 4)) [fldS 0 l])) (And.intro (reflH (renU [0] 4) [(0, 0, rowP l)]) (And.intro hb True.intro)))) (by kernel_rfl)

set_option maxRecDepth 100000 in
theorem ti_ok {l : List Pt} {fn fd tn td : Int} {c : Int} (hc : FnL Try.prog 66 1 [fldS 0 l] [(0, 0, rowP l)] (.pv (.int .i64 (0))) 0 []) (hb : Pure Try.prog 95 #[ratioV fn fd, ratioV tn td] (.int .i64 (0))) (hk : Pure Try.prog 38 #[ratioV fn fd, ratioV tn td] (.int .i64 (c))) (ht : decide (c > 0) = false) :
    FnL Try.prog 64 1 [fldS 0 l, .pv (ratioV fn fd), .pv (ratioV tn td)] [(0, 0, rowP l)] (.pv (.int .i64 (0))) 0 [] :=
  fnl_run 300 [] [.f [0] [fldS 0 l] [(0, 0, rowP l)] (.pv (.int .i64 (0))) 0 [], .k, .r (.int .i64 (0)), .k, .r (.int .i64 (c)), .t false]
     True.intro (And.intro hc (And.intro (Eq.refl (List.map (SV.ren (renU [0] 4)) [fldS 0 l])) (And.intro (reflH (renU [0] 4) [(0, 0, rowP l)]) (And.intro hb (And.intro hk (And.intro ht True.intro)))))) (by kernel_rfl)

set_option maxRecDepth 100000 in
theorem rn_next {fn fd : Int} {c : Int} {k n : Nat} {s : List Mt} {m : Mt} (hk : s[k]? = some m) (hin : 0 ≤ (k : Int) ∧ (k : Int) < (n : Int)) (hlt : decide ((k : Int) < (n : Int)) = true) (hc : Pure Try.prog 38 #[ratioV m.n m.d, ratioV fn fd] (.int .i64 (c))) (hg : decide (c > 0) = false) (hs : Value.int .i64 (IntKind.i64.wrap ((k : Int) + 1)) = .int .i64 (((k + 1 : Nat) : Int))) {e : Exit} {tm2 : List (Nat × SV)} {hp2 : List (Nat × Nat × SV)}
    (r : RunsL Try.prog 1 1 (loopOf Try.prog 33 0) 38 5 ([(3, .pp 2 0), (4, .pp 3 0), (7, .ls 4 n), (8, .pv (.int .i64 ((k + 1 : Nat) : Int)))]) ([(2, 0, .pv (.int .i64 fn)), (2, 1, .pv (.int .i64 fd)), (3, 0, .pv (.int .i64 0)), (3, 1, .pv (.int .i64 0)), (3, 2, .pv (.int .i64 0)), (3, 3, .pv (.int .i64 0)), (4, 0, .row 56 4 n (msV s))]) e tm2 hp2) : RunsL Try.prog 1 1 (loopOf Try.prog 33 0) 38 5 ([(3, .pp 2 0), (4, .pp 3 0), (7, .ls 4 n), (8, .pv (.int .i64 (k : Int)))]) ([(2, 0, .pv (.int .i64 fn)), (2, 1, .pv (.int .i64 fd)), (3, 0, .pv (.int .i64 0)), (3, 1, .pv (.int .i64 0)), (3, 2, .pv (.int .i64 0)), (3, 3, .pv (.int .i64 0)), (4, 0, .row 56 4 n (msV s))]) e tm2 hp2 :=
  RunsL.next [] 300 [.t true, .r (ratioV m.n m.d), .r (.int .i64 (c)), .t false, .r (.int .i64 (((k + 1 : Nat) : Int)))]
    (round_of (And.intro hlt (And.intro hin (And.intro (ra_ma hk) (And.intro hc (And.intro hg (And.intro hs True.intro)))))) (by kernel_rfl)) r

set_option maxRecDepth 100000 in
theorem rn_hit {fn fd : Int} {c : Int} {k n : Nat} {s : List Mt} {m : Mt} (hk : s[k]? = some m) (hin : 0 ≤ (k : Int) ∧ (k : Int) < (n : Int)) (hlt : decide ((k : Int) < (n : Int)) = true) (hc : Pure Try.prog 38 #[ratioV m.n m.d, ratioV fn fd] (.int .i64 (c))) (hg : decide (c > 0) = true) : RunsL Try.prog 1 1 (loopOf Try.prog 33 0) 38 5 ([(3, .pp 2 0), (4, .pp 3 0), (7, .ls 4 n), (8, .pv (.int .i64 (k : Int)))]) ([(2, 0, .pv (.int .i64 fn)), (2, 1, .pv (.int .i64 fd)), (3, 0, .pv (.int .i64 0)), (3, 1, .pv (.int .i64 0)), (3, 2, .pv (.int .i64 0)), (3, 3, .pv (.int .i64 0)), (4, 0, .row 56 4 n (msV s))]) (.ret) ([(4, .pp 3 0), (5, .pv (.int .i64 0))]) ([(3, 0, .pv (.int .i64 m.n)), (3, 1, .pv (.int .i64 m.d)), (3, 2, .pv (.int .i64 m.i)), (3, 3, .pv (.int .i64 m.j))]) :=
  RunsL.stop [] 300 [.t true, .r (ratioV m.n m.d), .r (.int .i64 (c)), .t true, .r (meetV m)] (fun h => by cases h)
    (round_of (And.intro hlt (And.intro hin (And.intro (ra_ma hk) (And.intro hc (And.intro hg (And.intro hin (And.intro (ra_mt hk) True.intro))))))) (by kernel_rfl))

set_option maxRecDepth 100000 in
theorem rn_end {fn fd : Int} {k n : Nat} {s : List Mt} (hlt : decide ((k : Int) < (n : Int)) = false) : RunsL Try.prog 1 1 (loopOf Try.prog 33 0) 38 5 ([(3, .pp 2 0), (4, .pp 3 0), (7, .ls 4 n), (8, .pv (.int .i64 (k : Int)))]) ([(2, 0, .pv (.int .i64 fn)), (2, 1, .pv (.int .i64 fd)), (3, 0, .pv (.int .i64 0)), (3, 1, .pv (.int .i64 0)), (3, 2, .pv (.int .i64 0)), (3, 3, .pv (.int .i64 0)), (4, 0, .row 56 4 n (msV s))]) (.exit 0) ([(4, .pp 3 0)]) ([(3, 0, .pv (.int .i64 0)), (3, 1, .pv (.int .i64 0)), (3, 2, .pv (.int .i64 0)), (3, 3, .pv (.int .i64 0))]) :=
  RunsL.stop [] 300 [.t false] (fun h => by cases h)
    (round_of (And.intro hlt True.intro) (by kernel_rfl))

set_option maxRecDepth 100000 in
theorem rn_err {l : List Pt} {fn fd : Int} {er : Int} (ht : FnL Try.prog 64 1 [fldS 0 l, .pv (ratioV fn fd), .pv (ratioV fn fd)] [(0, 0, rowP l)] (.pv (.int .i64 (er))) 0 []) (he : (er != 0) = true) :
    FnL Try.prog 33 1 [fldS 0 l, .pv (ratioV fn fd)] [(0, 0, rowP l)] (.pv (.tuple #[meetV z0, .int .i64 (er)])) 0 [] :=
  fnl_run 300 [] [.f [0] [fldS 0 l, .pv (ratioV fn fd), .pv (ratioV fn fd)] [(0, 0, rowP l)] (.pv (.int .i64 (er))) 0 [], .t true]
     True.intro (And.intro ht (And.intro (Eq.refl (List.map (SV.ren (renU [0] 4)) [fldS 0 l, .pv (ratioV fn fd), .pv (ratioV fn fd)])) (And.intro (reflH (renU [0] 4) [(0, 0, rowP l)]) (And.intro he True.intro)))) (by kernel_rfl)

set_option maxRecDepth 100000 in
theorem rn_none {l : List Pt} {fn fd : Int} {n : Nat} {s : List Mt} (ht : FnL Try.prog 64 1 [fldS 0 l, .pv (ratioV fn fd), .pv (ratioV fn fd)] [(0, 0, rowP l)] (.pv (.int .i64 (0))) 0 []) (hp : FnL Try.prog 65 1 [fldS 0 l] [(0, 0, rowP l)] (.ls 1 n) 1 [(1, 0, .row 56 4 n (msV s))]) (r0 : RunsL Try.prog 1 1 (loopOf Try.prog 33 0) 38 5 ([(3, .pp 2 0), (4, .pp 3 0), (7, .ls 4 n), (8, .pv (.int .i64 ((0 : Nat) : Int)))]) ([(2, 0, .pv (.int .i64 fn)), (2, 1, .pv (.int .i64 fd)), (3, 0, .pv (.int .i64 0)), (3, 1, .pv (.int .i64 0)), (3, 2, .pv (.int .i64 0)), (3, 3, .pv (.int .i64 0)), (4, 0, .row 56 4 n (msV s))]) (.exit 0) ([(4, .pp 3 0)]) ([(3, 0, .pv (.int .i64 0)), (3, 1, .pv (.int .i64 0)), (3, 2, .pv (.int .i64 0)), (3, 3, .pv (.int .i64 0))])) :
    FnL Try.prog 33 1 [fldS 0 l, .pv (ratioV fn fd)] [(0, 0, rowP l)] (.pv (.tuple #[meetV z0, .int .i64 (6)])) 0 [] :=
  fnl_run 300 [] [.f [0] [fldS 0 l, .pv (ratioV fn fd), .pv (ratioV fn fd)] [(0, 0, rowP l)] (.pv (.int .i64 (0))) 0 [], .k, .f [0] [fldS 0 l] [(0, 0, rowP l)] (.ls 1 n) 1 [(1, 0, .row 56 4 n (msV s))], .l (.exit 0) ([(3, .pp 2 0), (4, .pp 3 0), (7, .ls 4 n), (8, .pv (.int .i64 ((0 : Nat) : Int)))]) ([(2, 0, .pv (.int .i64 fn)), (2, 1, .pv (.int .i64 fd)), (3, 0, .pv (.int .i64 0)), (3, 1, .pv (.int .i64 0)), (3, 2, .pv (.int .i64 0)), (3, 3, .pv (.int .i64 0)), (4, 0, .row 56 4 n (msV s))]) ([(4, .pp 3 0)]) ([(3, 0, .pv (.int .i64 0)), (3, 1, .pv (.int .i64 0)), (3, 2, .pv (.int .i64 0)), (3, 3, .pv (.int .i64 0))])]
     True.intro (And.intro ht (And.intro (Eq.refl (List.map (SV.ren (renU [0] 4)) [fldS 0 l, .pv (ratioV fn fd), .pv (ratioV fn fd)])) (And.intro (reflH (renU [0] 4) [(0, 0, rowP l)]) (And.intro hp (And.intro (Eq.refl (List.map (SV.ren (renU [0] 4)) [fldS 0 l])) (And.intro (reflH (renU [0] 4) [(0, 0, rowP l)]) (And.intro (reflT (renN []) ([(3, .pp 2 0), (4, .pp 3 0), (7, .ls 4 n), (8, .pv (.int .i64 ((0 : Nat) : Int)))])) (And.intro (reflH (renN []) ([(2, 0, .pv (.int .i64 fn)), (2, 1, .pv (.int .i64 fd)), (3, 0, .pv (.int .i64 0)), (3, 1, .pv (.int .i64 0)), (3, 2, .pv (.int .i64 0)), (3, 3, .pv (.int .i64 0)), (4, 0, .row 56 4 n (msV s))])) (And.intro r0 True.intro))))))))) (by kernel_rfl)

set_option maxRecDepth 100000 in
theorem rn_some {l : List Pt} {fn fd : Int} {n : Nat} {s : List Mt} {m : Mt} (ht : FnL Try.prog 64 1 [fldS 0 l, .pv (ratioV fn fd), .pv (ratioV fn fd)] [(0, 0, rowP l)] (.pv (.int .i64 (0))) 0 []) (hp : FnL Try.prog 65 1 [fldS 0 l] [(0, 0, rowP l)] (.ls 1 n) 1 [(1, 0, .row 56 4 n (msV s))]) (r0 : RunsL Try.prog 1 1 (loopOf Try.prog 33 0) 38 5 ([(3, .pp 2 0), (4, .pp 3 0), (7, .ls 4 n), (8, .pv (.int .i64 ((0 : Nat) : Int)))]) ([(2, 0, .pv (.int .i64 fn)), (2, 1, .pv (.int .i64 fd)), (3, 0, .pv (.int .i64 0)), (3, 1, .pv (.int .i64 0)), (3, 2, .pv (.int .i64 0)), (3, 3, .pv (.int .i64 0)), (4, 0, .row 56 4 n (msV s))]) (.ret) ([(4, .pp 3 0), (5, .pv (.int .i64 0))]) ([(3, 0, .pv (.int .i64 m.n)), (3, 1, .pv (.int .i64 m.d)), (3, 2, .pv (.int .i64 m.i)), (3, 3, .pv (.int .i64 m.j))])) :
    FnL Try.prog 33 1 [fldS 0 l, .pv (ratioV fn fd)] [(0, 0, rowP l)] (.pv (.tuple #[meetV m, .int .i64 (0)])) 0 [] :=
  fnl_run 300 [] [.f [0] [fldS 0 l, .pv (ratioV fn fd), .pv (ratioV fn fd)] [(0, 0, rowP l)] (.pv (.int .i64 (0))) 0 [], .k, .f [0] [fldS 0 l] [(0, 0, rowP l)] (.ls 1 n) 1 [(1, 0, .row 56 4 n (msV s))], .l (.ret) ([(3, .pp 2 0), (4, .pp 3 0), (7, .ls 4 n), (8, .pv (.int .i64 ((0 : Nat) : Int)))]) ([(2, 0, .pv (.int .i64 fn)), (2, 1, .pv (.int .i64 fd)), (3, 0, .pv (.int .i64 0)), (3, 1, .pv (.int .i64 0)), (3, 2, .pv (.int .i64 0)), (3, 3, .pv (.int .i64 0)), (4, 0, .row 56 4 n (msV s))]) ([(4, .pp 3 0), (5, .pv (.int .i64 0))]) ([(3, 0, .pv (.int .i64 m.n)), (3, 1, .pv (.int .i64 m.d)), (3, 2, .pv (.int .i64 m.i)), (3, 3, .pv (.int .i64 m.j))])]
     True.intro (And.intro ht (And.intro (Eq.refl (List.map (SV.ren (renU [0] 4)) [fldS 0 l, .pv (ratioV fn fd), .pv (ratioV fn fd)])) (And.intro (reflH (renU [0] 4) [(0, 0, rowP l)]) (And.intro hp (And.intro (Eq.refl (List.map (SV.ren (renU [0] 4)) [fldS 0 l])) (And.intro (reflH (renU [0] 4) [(0, 0, rowP l)]) (And.intro (reflT (renN []) ([(3, .pp 2 0), (4, .pp 3 0), (7, .ls 4 n), (8, .pv (.int .i64 ((0 : Nat) : Int)))])) (And.intro (reflH (renN []) ([(2, 0, .pv (.int .i64 fn)), (2, 1, .pv (.int .i64 fd)), (3, 0, .pv (.int .i64 0)), (3, 1, .pv (.int .i64 0)), (3, 2, .pv (.int .i64 0)), (3, 3, .pv (.int .i64 0)), (4, 0, .row 56 4 n (msV s))])) (And.intro r0 True.intro))))))))) (by kernel_rfl)

set_option maxRecDepth 100000 in
theorem rl_err {l : List Pt} {er : Int} (hc : FnL Try.prog 66 1 [fldS 0 l] [(0, 0, rowP l)] (.pv (.int .i64 (er))) 0 []) (he : (er != 0) = true) :
    FnL Try.prog 34 1 [fldS 0 l] [(0, 0, rowP l)] (.pv (.tuple #[ratioV 0 0, .int .i64 (er)])) 0 [] :=
  fnl_run 300 [] [.f [0] [fldS 0 l] [(0, 0, rowP l)] (.pv (.int .i64 (er))) 0 [], .t true]
     True.intro (And.intro hc (And.intro (Eq.refl (List.map (SV.ren (renU [0] 3)) [fldS 0 l])) (And.intro (reflH (renU [0] 3) [(0, 0, rowP l)]) (And.intro he True.intro)))) (by kernel_rfl)

set_option maxRecDepth 100000 in
theorem rl_none {l : List Pt} {n : Nat} {s : List Mt} (hc : FnL Try.prog 66 1 [fldS 0 l] [(0, 0, rowP l)] (.pv (.int .i64 (0))) 0 []) (hp : FnL Try.prog 65 1 [fldS 0 l] [(0, 0, rowP l)] (.ls 1 n) 1 [(1, 0, .row 56 4 n (msV s))]) (hz : ((n : Int) == 0) = true) :
    FnL Try.prog 34 1 [fldS 0 l] [(0, 0, rowP l)] (.pv (.tuple #[ratioV 0 0, .int .i64 (6)])) 0 [] :=
  fnl_run 300 [] [.f [0] [fldS 0 l] [(0, 0, rowP l)] (.pv (.int .i64 (0))) 0 [], .k, .f [0] [fldS 0 l] [(0, 0, rowP l)] (.ls 1 n) 1 [(1, 0, .row 56 4 n (msV s))], .t true]
     True.intro (And.intro hc (And.intro (Eq.refl (List.map (SV.ren (renU [0] 3)) [fldS 0 l])) (And.intro (reflH (renU [0] 3) [(0, 0, rowP l)]) (And.intro hp (And.intro (Eq.refl (List.map (SV.ren (renU [0] 3)) [fldS 0 l])) (And.intro (reflH (renU [0] 3) [(0, 0, rowP l)]) (And.intro hz True.intro))))))) (by kernel_rfl)

set_option maxRecDepth 100000 in
theorem rl_some {l : List Pt} {k n : Nat} {s : List Mt} {m : Mt} (hc : FnL Try.prog 66 1 [fldS 0 l] [(0, 0, rowP l)] (.pv (.int .i64 (0))) 0 []) (hp : FnL Try.prog 65 1 [fldS 0 l] [(0, 0, rowP l)] (.ls 1 n) 1 [(1, 0, .row 56 4 n (msV s))]) (hk : s[k]? = some m) (hin : 0 ≤ (k : Int) ∧ (k : Int) < (n : Int)) (hz : ((n : Int) == 0) = false) (hm : Value.int .i64 (IntKind.i64.wrap ((n : Int) - 1)) = .int .i64 ((k : Int))) :
    FnL Try.prog 34 1 [fldS 0 l] [(0, 0, rowP l)] (.pv (.tuple #[ratioV m.n m.d, .int .i64 (0)])) 0 [] :=
  fnl_run 300 [] [.f [0] [fldS 0 l] [(0, 0, rowP l)] (.pv (.int .i64 (0))) 0 [], .k, .f [0] [fldS 0 l] [(0, 0, rowP l)] (.ls 1 n) 1 [(1, 0, .row 56 4 n (msV s))], .t false, .r (.int .i64 ((k : Int))), .r (ratioV m.n m.d)]
     True.intro (And.intro hc (And.intro (Eq.refl (List.map (SV.ren (renU [0] 3)) [fldS 0 l])) (And.intro (reflH (renU [0] 3) [(0, 0, rowP l)]) (And.intro hp (And.intro (Eq.refl (List.map (SV.ren (renU [0] 3)) [fldS 0 l])) (And.intro (reflH (renU [0] 3) [(0, 0, rowP l)]) (And.intro hz (And.intro hm (And.intro hin (And.intro (ra_ma hk) True.intro)))))))))) (by kernel_rfl)
end Go.Proofs.Ytgpbofinbpcceaa
