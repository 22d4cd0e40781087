/-
  Joined: Gd, Gh, Gk, Gf, Hc, Gl. Conditions: none.
-/
import Derived.Test.YtomnmoinahhdmaaGreatGc
import Derived.Test.YtomnmoinahhdmaaGreatW46
import Derived.Test.YtomnmoinahhdmaaGreatW40
import Derived.Test.YtomnmoinahhdmaaGreatW42
import Derived.Test.YtomnmoinahhdmaaGreatW29
namespace Go.Proofs.YtomnmoinahhdmaaGreat
open Go.RowKit
set_option maxRecDepth 100000 in
theorem smq_next {s : List Mt} {n k : Nat} {m : Mt} (hk : s[k]? = some m) (hin : 0 ≤ (k : Int) ∧ (k : Int) < (n : Int)) (hlt : decide ((k : Int) < (n : Int)) = true) (he : (!((m.n == m.n && (m.d == m.d && true)) && (m.i == m.i && (m.j == m.j && true)))) = false) (hs : Value.int .i64 (IntKind.i64.wrap ((k : Int) + 1)) = .int .i64 (((k + 1 : Nat) : Int))) {e : Exit} {tm2 : List (Nat × SV)} {hp2 : List (Nat × Nat × SV)}
    (r : RunsL Tryz.prog 2 2 (loopOf Tryz.prog 15 0) 26 2 ([(0, .lq 0 4 0 n), (1, .ls 1 n), (5, .pv (.int .i64 ((k + 1 : Nat) : Int)))]) ([(0, 0, .row 50 4 n (msV s)), (1, 0, .row 50 4 n (msV s))]) e tm2 hp2) : RunsL Tryz.prog 2 2 (loopOf Tryz.prog 15 0) 26 2 ([(0, .lq 0 4 0 n), (1, .ls 1 n), (5, .pv (.int .i64 (k : Int)))]) ([(0, 0, .row 50 4 n (msV s)), (1, 0, .row 50 4 n (msV s))]) e tm2 hp2 :=
  RunsL.next [] 300 [.t true, .r (meetV m), .r (meetV m), .t false, .r (.int .i64 (((k + 1 : Nat) : Int)))]
    (round_of (And.intro hlt (And.intro hin (And.intro (ra_mt hk) (And.intro hin (And.intro (ra_mt hk) (And.intro he (And.intro hs True.intro))))))) (by kernel_rfl)) r

set_option maxRecDepth 100000 in
theorem smq_end {s : List Mt} {n k : Nat} (hlt : decide ((k : Int) < (n : Int)) = false) : RunsL Tryz.prog 2 2 (loopOf Tryz.prog 15 0) 26 2 ([(0, .lq 0 4 0 n), (1, .ls 1 n), (5, .pv (.int .i64 (k : Int)))]) ([(0, 0, .row 50 4 n (msV s)), (1, 0, .row 50 4 n (msV s))]) (.exit 0) ([]) ([]) :=
  RunsL.stop [] 300 [.t false] (fun h => by cases h)
    (round_of (And.intro hlt True.intro) (by kernel_rfl))

set_option maxRecDepth 100000 in
theorem smq_path {s : List Mt} {n : Nat} (hn : (!((n : Int) == (n : Int))) = false) (r0 : RunsL Tryz.prog 2 2 (loopOf Tryz.prog 15 0) 26 2 ([(0, .lq 0 4 0 n), (1, .ls 1 n), (5, .pv (.int .i64 ((0 : Nat) : Int)))]) ([(0, 0, .row 50 4 n (msV s)), (1, 0, .row 50 4 n (msV s))]) (.exit 0) ([]) ([])) :
    FnL Tryz.prog 15 2 [.lq 0 4 0 n, .ls 1 n] [(0, 0, .row 50 4 n (msV s)), (1, 0, .row 50 4 n (msV s))] (.pv (.bool true)) 0 [] :=
  fnl_run 300 [] [.t false, .l (.exit 0) ([(0, .lq 0 4 0 n), (1, .ls 1 n), (5, .pv (.int .i64 ((0 : Nat) : Int)))]) ([(0, 0, .row 50 4 n (msV s)), (1, 0, .row 50 4 n (msV s))]) ([]) ([])]
     True.intro (And.intro hn (And.intro (reflT (renN []) ([(0, .lq 0 4 0 n), (1, .ls 1 n), (5, .pv (.int .i64 ((0 : Nat) : Int)))])) (And.intro (reflH (renN []) ([(0, 0, .row 50 4 n (msV s)), (1, 0, .row 50 4 n (msV s))])) (And.intro r0 True.intro)))) (by kernel_rfl)

theorem Same_lq {s : List Mt} {n : Nat} (hs : s.length = n) (hn : n ≤ 100000) : FnL Tryz.prog 15 2 [.lq 0 4 0 n, .ls 1 n] [(0, 0, .row 50 4 n (msV s)), (1, 0, .row 50 4 n (msV s))] (.pv (.bool true)) 0 [] := by
  refine smq_path (by simp) (RunsL.rounds (fun k => [(0, .lq 0 4 0 n), (1, .ls 1 n), (5, .pv (.int .i64 (k : Int)))]) (fun _ => [(0, 0, .row 50 4 n (msV s)), (1, 0, .row 50 4 n (msV s))]) n 0 (Nat.zero_add _) (fun k _ hk r => ?_) (smq_end (df (by omega))))
  obtain ⟨m, hm⟩ := get_some (l := s) (k := k) (by omega)
  exact smq_next hm (in_of hk) (dt (by omega)) (by simp) (by rw [wrap_i64_in (by omega) (by omega)]; rfl) r
end Go.Proofs.YtomnmoinahhdmaaGreat

namespace Go.Proofs.YtomnmoinahhdmaaGreat
open Go.RowKit
theorem ra_mat {l : List Mt} {k : Nat} {m : Mt} (h : l[k]? = some m) : rowAt (msV l) (0 * 4 + k * 4) [.int .i64 m.n, .int .i64 m.d] := by
  obtain ⟨h1, h2, h3, h4⟩ := msV_get h
  intro j v hj
  match j, hj with
  | 0, hj => cases hj; rw [show 0 * 4 + k * 4 + 0 = k * 4 by omega]; exact h1
  | 1, hj => cases hj; rw [show 0 * 4 + k * 4 + 1 = k * 4 + 1 by omega]; exact h2
  | j + 2, hj => simp at hj

end Go.Proofs.YtomnmoinahhdmaaGreat

namespace Go.Proofs.YtomnmoinahhdmaaGreat
open Go.RowKit
theorem ra_b {l : List Pt} {k : Nat} {p : Pt} (h : l[k]? = some p) : rowAt (ptsV l) (0 * 3 + k * 3 + 2) [.int .i64 p.b] := by
  obtain ⟨h1, h2, h3⟩ := ptsV_get h
  intro j v hj
  match j, hj with
  | 0, hj => cases hj; rw [show 0 * 3 + k * 3 + 2 + 0 = k * 3 + 2 by omega]; exact h3
  | j + 1, hj => simp at hj

set_option maxRecDepth 100000 in
theorem ml_no {l : List Pt} {tn td : Int} (f1 : FnL Tryz.prog 17 1 [fldS 0 l, .pv (ratioV tn td), .pv (ratioV tn td)] [(0, 0, rowP l)] (.pv (.bool false)) 0 []) (hal : FnL Tryz.prog 18 0 [] [] (.pv (.bool true)) 0 []) :
    FnL Tryz.prog 4 1 [fldS 0 l, .pv (ratioV tn td)] [(0, 0, rowP l)] (.pv (.bool true)) 0 [] :=
  fnl_run 300 [] [.f [0] [fldS 0 l, .pv (ratioV tn td), .pv (ratioV tn td)] [(0, 0, rowP l)] (.pv (.bool false)) 0 [], .k, .f [] [] [] (.pv (.bool true)) 0 []]
     True.intro (And.intro f1 (And.intro (Eq.refl (List.map (SV.ren (renU [0] 3)) [fldS 0 l, .pv (ratioV tn td), .pv (ratioV tn td)])) (And.intro (reflH (renU [0] 3) [(0, 0, rowP l)]) (And.intro hal (And.intro (Eq.refl (List.map (SV.ren (renU [] 3)) [])) (And.intro (reflH (renU [] 3) []) True.intro)))))) (by kernel_rfl)

set_option maxRecDepth 100000 in
theorem ml_b_next {l : List Pt} {p p0 : Pt} {k : Nat} (hk : l[k + 1]? = some p) (hin : 0 ≤ ((k + 1 : Nat) : Int) ∧ ((k + 1 : Nat) : Int) < (l.length : Int)) (hk0 : l[0]? = some p0) (hin0 : 0 ≤ (0 : Int) ∧ (0 : Int) < (l.length : Int)) (hlt : decide (((k + 1 : Nat) : Int) < (l.length : Int)) = true) (hb : (!(p.b == p0.b)) = false) (hs : Value.int .i64 (IntKind.i64.wrap (((k + 1 : Nat) : Int) + 1)) = .int .i64 (((k + 1 + 1 : Nat) : Int))) {e : Exit} {tm2 : List (Nat × SV)} {hp2 : List (Nat × Nat × SV)}
    (r : RunsL Tryz.prog 1 1 (loopOf Tryz.prog 4 0) 152 4 ([(2, .pp 1 0), (6, .pv (.int .i64 6)), (7, .pv (.int .i64 ((k + 1 + 1 : Nat) : Int)))]) ([(1, 0, .ls 0 l.length), (0, 0, rowP l)]) e tm2 hp2) : RunsL Tryz.prog 1 1 (loopOf Tryz.prog 4 0) 152 4 ([(2, .pp 1 0), (6, .pv (.int .i64 6)), (7, .pv (.int .i64 ((k + 1 : Nat) : Int)))]) ([(1, 0, .ls 0 l.length), (0, 0, rowP l)]) e tm2 hp2 :=
  RunsL.next [] 300 [.t true, .r (.int .i64 (p.b)), .r (.int .i64 (p0.b)), .t false, .r (.int .i64 (((k + 1 + 1 : Nat) : Int)))]
    (round_of (And.intro hlt (And.intro hin (And.intro (ra_b hk) (And.intro hin0 (And.intro (ra_b hk0) (And.intro hb (And.intro hs True.intro))))))) (by kernel_rfl)) r

set_option maxRecDepth 100000 in
theorem ml_b_end {l : List Pt} {k : Nat} (hge : decide ((k : Int) < (l.length : Int)) = false) : RunsL Tryz.prog 1 1 (loopOf Tryz.prog 4 0) 152 4 ([(2, .pp 1 0), (6, .pv (.int .i64 6)), (7, .pv (.int .i64 (k : Int)))]) ([(1, 0, .ls 0 l.length), (0, 0, rowP l)]) (.exit 0) ([(6, .pv (.int .i64 6))]) ([]) :=
  RunsL.stop [] 300 [.t false] (fun h => by cases h)
    (round_of (And.intro hge True.intro) (by kernel_rfl))

set_option maxRecDepth 100000 in
theorem ml_none {l : List Pt} {tn td : Int} (f1 : FnL Tryz.prog 17 1 [fldS 0 l, .pv (ratioV tn td), .pv (ratioV tn td)] [(0, 0, rowP l)] (.pv (.bool true)) 0 []) (hL : FnL Tryz.prog 19 1 [fldS 0 l] [(0, 0, rowP l)] (.pv (.tuple #[ratioV 0 0, .int .i64 6])) 0 []) (r0 : RunsL Tryz.prog 1 1 (loopOf Tryz.prog 4 0) 152 4 ([(2, .pp 1 0), (6, .pv (.int .i64 6)), (7, .pv (.int .i64 ((0 + 1 : Nat) : Int)))]) ([(1, 0, .ls 0 l.length), (0, 0, rowP l)]) (.exit 0) ([(6, .pv (.int .i64 6))]) ([])) (hal : FnL Tryz.prog 18 0 [] [] (.pv (.bool true)) 0 []) :
    FnL Tryz.prog 4 1 [fldS 0 l, .pv (ratioV tn td)] [(0, 0, rowP l)] (.pv (.bool true)) 0 [] :=
  fnl_run 300 [] [.f [0] [fldS 0 l, .pv (ratioV tn td), .pv (ratioV tn td)] [(0, 0, rowP l)] (.pv (.bool true)) 0 [], .k, .f [0] [fldS 0 l] [(0, 0, rowP l)] (.pv (.tuple #[ratioV 0 0, .int .i64 6])) 0 [], .k, .l (.exit 0) ([(2, .pp 1 0), (6, .pv (.int .i64 6)), (7, .pv (.int .i64 ((0 + 1 : Nat) : Int)))]) ([(1, 0, .ls 0 l.length), (0, 0, rowP l)]) ([(6, .pv (.int .i64 6))]) ([]), .k, .f [] [] [] (.pv (.bool true)) 0 []]
     True.intro (And.intro f1 (And.intro (Eq.refl (List.map (SV.ren (renU [0] 3)) [fldS 0 l, .pv (ratioV tn td), .pv (ratioV tn td)])) (And.intro (reflH (renU [0] 3) [(0, 0, rowP l)]) (And.intro hL (And.intro (Eq.refl (List.map (SV.ren (renU [0] 3)) [fldS 0 l])) (And.intro (reflH (renU [0] 3) [(0, 0, rowP l)]) (And.intro (reflT (renN []) ([(2, .pp 1 0), (6, .pv (.int .i64 6)), (7, .pv (.int .i64 ((0 + 1 : Nat) : Int)))])) (And.intro (reflH (renN []) ([(1, 0, .ls 0 l.length), (0, 0, rowP l)])) (And.intro r0 (And.intro hal (And.intro (Eq.refl (List.map (SV.ren (renU [] 4)) [])) (And.intro (reflH (renU [] 4) []) True.intro)))))))))))) (by kernel_rfl)

set_option maxRecDepth 100000 in
theorem ml_before {l : List Pt} {tn td n d c : Int} (f1 : FnL Tryz.prog 17 1 [fldS 0 l, .pv (ratioV tn td), .pv (ratioV tn td)] [(0, 0, rowP l)] (.pv (.bool true)) 0 []) (hL : FnL Tryz.prog 19 1 [fldS 0 l] [(0, 0, rowP l)] (.pv (.tuple #[ratioV n d, .int .i64 0])) 0 []) (hck : Pure Tryz.prog 20 #[ratioV n d] (.int .i64 (0))) (hC : FnL Tryz.prog 11 1 [fldS 0 l, .pv (ratioV n d), .pv (ratioV 9223372036854775807 1)] [(0, 0, rowP l)] (.pv (.tuple #[.int .i64 0, .int .i64 0])) 0 []) (hN : FnL Tryz.prog 22 1 [fldS 0 l, .pv (ratioV n d)] [(0, 0, rowP l)] (.pv (.tuple #[meetV ⟨0, 0, 0, 0⟩, .int .i64 6])) 0 []) (hcm : Pure Tryz.prog 23 #[ratioV tn td, ratioV n d] (.int .i64 (c))) (hlt : decide (c < 0) = true) (hal : FnL Tryz.prog 18 0 [] [] (.pv (.bool true)) 0 []) :
    FnL Tryz.prog 4 1 [fldS 0 l, .pv (ratioV tn td)] [(0, 0, rowP l)] (.pv (.bool true)) 0 [] :=
  fnl_run 300 [] [.f [0] [fldS 0 l, .pv (ratioV tn td), .pv (ratioV tn td)] [(0, 0, rowP l)] (.pv (.bool true)) 0 [], .k, .f [0] [fldS 0 l] [(0, 0, rowP l)] (.pv (.tuple #[ratioV n d, .int .i64 0])) 0 [], .k, .r (.int .i64 (0)), .k, .k, .f [0] [fldS 0 l, .pv (ratioV n d), .pv (ratioV 9223372036854775807 1)] [(0, 0, rowP l)] (.pv (.tuple #[.int .i64 0, .int .i64 0])) 0 [], .f [0] [fldS 0 l, .pv (ratioV n d)] [(0, 0, rowP l)] (.pv (.tuple #[meetV ⟨0, 0, 0, 0⟩, .int .i64 6])) 0 [], .k, .k, .k, .r (.int .i64 (c)), .t true, .f [] [] [] (.pv (.bool true)) 0 []]
     True.intro (And.intro f1 (And.intro (Eq.refl (List.map (SV.ren (renU [0] 3)) [fldS 0 l, .pv (ratioV tn td), .pv (ratioV tn td)])) (And.intro (reflH (renU [0] 3) [(0, 0, rowP l)]) (And.intro hL (And.intro (Eq.refl (List.map (SV.ren (renU [0] 3)) [fldS 0 l])) (And.intro (reflH (renU [0] 3) [(0, 0, rowP l)]) (And.intro hck (And.intro hC (And.intro (Eq.refl (List.map (SV.ren (renU [0] 4)) [fldS 0 l, .pv (ratioV n d), .pv (ratioV 9223372036854775807 1)])) (And.intro (reflH (renU [0] 4) [(0, 0, rowP l)]) (And.intro hN (And.intro (Eq.refl (List.map (SV.ren (renU [0] 4)) [fldS 0 l, .pv (ratioV n d)])) (And.intro (reflH (renU [0] 4) [(0, 0, rowP l)]) (And.intro hcm (And.intro hlt (And.intro hal (And.intro (Eq.refl (List.map (SV.ren (renU [] 5)) [])) (And.intro (reflH (renU [] 5) []) True.intro)))))))))))))))))) (by kernel_rfl)

set_option maxRecDepth 100000 in
theorem ml_o_next {l : List Pt} {g : List Int} {p q : Pt} {k : Nat} (hg0 : g[k]? = some p.id) (hg1 : g[k + 1]? = some q.id) (hin0 : 0 ≤ (k : Int) ∧ (k : Int) < (l.length : Int)) (hin : 0 ≤ ((k + 1 : Nat) : Int) ∧ ((k + 1 : Nat) : Int) < (l.length : Int)) (hlt : decide (((k + 1 : Nat) : Int) < (l.length : Int)) = true) (hm : Value.int .i64 (IntKind.i64.wrap (((k + 1 : Nat) : Int) - 1)) = .int .i64 ((k : Int))) (hF : FnL Tryz.prog 26 1 [fldS 0 l, .pv (.int .i64 (p.id))] [(0, 0, rowP l)] (.pv (.tuple #[ptV p, .int .i64 0])) 0 []) (hG : FnL Tryz.prog 26 1 [fldS 0 l, .pv (.int .i64 (q.id))] [(0, 0, rowP l)] (.pv (.tuple #[ptV q, .int .i64 0])) 0 []) (hb : decide (p.b < q.b) = false) (hs : Value.int .i64 (IntKind.i64.wrap (((k + 1 : Nat) : Int) + 1)) = .int .i64 (((k + 1 + 1 : Nat) : Int))) {e : Exit} {tm2 : List (Nat × SV)} {hp2 : List (Nat × Nat × SV)}
    (r : RunsL Tryz.prog 1 1 (loopOf Tryz.prog 4 1) 152 7 ([(2, .pp 1 0), (14, .ls 6 l.length), (16, .pv (.int .i64 ((k + 1 + 1 : Nat) : Int)))]) ([(1, 0, .ls 0 l.length), (0, 0, rowP l), (6, 0, .row 3 1 l.length (idsV g))]) e tm2 hp2) : RunsL Tryz.prog 1 1 (loopOf Tryz.prog 4 1) 152 7 ([(2, .pp 1 0), (14, .ls 6 l.length), (16, .pv (.int .i64 ((k + 1 : Nat) : Int)))]) ([(1, 0, .ls 0 l.length), (0, 0, rowP l), (6, 0, .row 3 1 l.length (idsV g))]) e tm2 hp2 :=
  RunsL.next [] 300 [.t true, .r (.int .i64 ((k : Int))), .r (.int .i64 (p.id)), .f [0] [fldS 0 l, .pv (.int .i64 (p.id))] [(0, 0, rowP l)] (.pv (.tuple #[ptV p, .int .i64 0])) 0 [], .r (.int .i64 (q.id)), .f [0] [fldS 0 l, .pv (.int .i64 (q.id))] [(0, 0, rowP l)] (.pv (.tuple #[ptV q, .int .i64 0])) 0 [], .k, .k, .t false, .r (.int .i64 (((k + 1 + 1 : Nat) : Int)))]
    (round_of (And.intro hlt (And.intro hm (And.intro hin0 (And.intro (ra_int hg0) (And.intro hF (And.intro (Eq.refl (List.map (SV.ren (renU [0] 7)) [fldS 0 l, .pv (.int .i64 (p.id))])) (And.intro (reflH (renU [0] 7) [(0, 0, rowP l)]) (And.intro hin (And.intro (ra_int hg1) (And.intro hG (And.intro (Eq.refl (List.map (SV.ren (renU [0] 7)) [fldS 0 l, .pv (.int .i64 (q.id))])) (And.intro (reflH (renU [0] 7) [(0, 0, rowP l)]) (And.intro hb (And.intro hs True.intro)))))))))))))) (by kernel_rfl)) r

set_option maxRecDepth 100000 in
theorem ml_o_end {l : List Pt} {g : List Int} {k : Nat} (hge : decide ((k : Int) < (l.length : Int)) = false) : RunsL Tryz.prog 1 1 (loopOf Tryz.prog 4 1) 152 7 ([(2, .pp 1 0), (14, .ls 6 l.length), (16, .pv (.int .i64 (k : Int)))]) ([(1, 0, .ls 0 l.length), (0, 0, rowP l), (6, 0, .row 3 1 l.length (idsV g))]) (.exit 2) ([]) ([]) :=
  RunsL.stop [] 300 [.t false] (fun h => by cases h)
    (round_of (And.intro hge True.intro) (by kernel_rfl))

set_option maxRecDepth 100000 in
theorem ml_after {l : List Pt} {tn td n d c : Int} {g : List Int} (f1 : FnL Tryz.prog 17 1 [fldS 0 l, .pv (ratioV tn td), .pv (ratioV tn td)] [(0, 0, rowP l)] (.pv (.bool true)) 0 []) (hL : FnL Tryz.prog 19 1 [fldS 0 l] [(0, 0, rowP l)] (.pv (.tuple #[ratioV n d, .int .i64 0])) 0 []) (hck : Pure Tryz.prog 20 #[ratioV n d] (.int .i64 (0))) (hC : FnL Tryz.prog 11 1 [fldS 0 l, .pv (ratioV n d), .pv (ratioV 9223372036854775807 1)] [(0, 0, rowP l)] (.pv (.tuple #[.int .i64 0, .int .i64 0])) 0 []) (hN : FnL Tryz.prog 22 1 [fldS 0 l, .pv (ratioV n d)] [(0, 0, rowP l)] (.pv (.tuple #[meetV ⟨0, 0, 0, 0⟩, .int .i64 6])) 0 []) (hcm : Pure Tryz.prog 23 #[ratioV tn td, ratioV n d] (.int .i64 (c))) (hlt : decide (c < 0) = false) (hO1 : FnL Tryz.prog 24 1 [fldS 0 l, .pv (ratioV n d)] [(0, 0, rowP l)] (.tu [.one (.ls 1 l.length), .one (.pv (.int .i64 0))]) 1 [(1, 0, .row 3 1 l.length (idsV g))]) (hO2 : FnL Tryz.prog 24 1 [fldS 0 l, .pv (ratioV tn td)] [(0, 0, rowP l)] (.tu [.one (.ls 1 l.length), .one (.pv (.int .i64 0))]) 1 [(1, 0, .row 3 1 l.length (idsV g))]) (hS : FnL Tryz.prog 25 2 [.ls 0 l.length, .ls 1 l.length] [(0, 0, .row 3 1 l.length (idsV g)), (1, 0, .row 3 1 l.length (idsV g))] (.pv (.bool true)) 0 []) (r1 : RunsL Tryz.prog 1 1 (loopOf Tryz.prog 4 1) 152 7 ([(2, .pp 1 0), (14, .ls 6 l.length), (16, .pv (.int .i64 ((0 + 1 : Nat) : Int)))]) ([(1, 0, .ls 0 l.length), (0, 0, rowP l), (6, 0, .row 3 1 l.length (idsV g))]) (.exit 2) ([]) ([])) (hal : FnL Tryz.prog 18 0 [] [] (.pv (.bool true)) 0 []) :
    FnL Tryz.prog 4 1 [fldS 0 l, .pv (ratioV tn td)] [(0, 0, rowP l)] (.pv (.bool true)) 0 [] :=
  fnl_run 300 [] [.f [0] [fldS 0 l, .pv (ratioV tn td), .pv (ratioV tn td)] [(0, 0, rowP l)] (.pv (.bool true)) 0 [], .k, .f [0] [fldS 0 l] [(0, 0, rowP l)] (.pv (.tuple #[ratioV n d, .int .i64 0])) 0 [], .k, .r (.int .i64 (0)), .k, .k, .f [0] [fldS 0 l, .pv (ratioV n d), .pv (ratioV 9223372036854775807 1)] [(0, 0, rowP l)] (.pv (.tuple #[.int .i64 0, .int .i64 0])) 0 [], .f [0] [fldS 0 l, .pv (ratioV n d)] [(0, 0, rowP l)] (.pv (.tuple #[meetV ⟨0, 0, 0, 0⟩, .int .i64 6])) 0 [], .k, .k, .k, .r (.int .i64 (c)), .t false, .f [0] [fldS 0 l, .pv (ratioV n d)] [(0, 0, rowP l)] (.tu [.one (.ls 1 l.length), .one (.pv (.int .i64 0))]) 1 [(1, 0, .row 3 1 l.length (idsV g))], .f [0] [fldS 0 l, .pv (ratioV tn td)] [(0, 0, rowP l)] (.tu [.one (.ls 1 l.length), .one (.pv (.int .i64 0))]) 1 [(1, 0, .row 3 1 l.length (idsV g))], .k, .k, .f [5,6] [.ls 0 l.length, .ls 1 l.length] [(0, 0, .row 3 1 l.length (idsV g)), (1, 0, .row 3 1 l.length (idsV g))] (.pv (.bool true)) 0 [], .k, .l (.exit 2) ([(2, .pp 1 0), (14, .ls 6 l.length), (16, .pv (.int .i64 ((0 + 1 : Nat) : Int)))]) ([(1, 0, .ls 0 l.length), (0, 0, rowP l), (6, 0, .row 3 1 l.length (idsV g))]) ([]) ([]), .f [] [] [] (.pv (.bool true)) 0 []]
     True.intro (And.intro f1 (And.intro (Eq.refl (List.map (SV.ren (renU [0] 3)) [fldS 0 l, .pv (ratioV tn td), .pv (ratioV tn td)])) (And.intro (reflH (renU [0] 3) [(0, 0, rowP l)]) (And.intro hL (And.intro (Eq.refl (List.map (SV.ren (renU [0] 3)) [fldS 0 l])) (And.intro (reflH (renU [0] 3) [(0, 0, rowP l)]) (And.intro hck (And.intro hC (And.intro (Eq.refl (List.map (SV.ren (renU [0] 4)) [fldS 0 l, .pv (ratioV n d), .pv (ratioV 9223372036854775807 1)])) (And.intro (reflH (renU [0] 4) [(0, 0, rowP l)]) (And.intro hN (And.intro (Eq.refl (List.map (SV.ren (renU [0] 4)) [fldS 0 l, .pv (ratioV n d)])) (And.intro (reflH (renU [0] 4) [(0, 0, rowP l)]) (And.intro hcm (And.intro hlt (And.intro hO1 (And.intro (Eq.refl (List.map (SV.ren (renU [0] 5)) [fldS 0 l, .pv (ratioV n d)])) (And.intro (reflH (renU [0] 5) [(0, 0, rowP l)]) (And.intro hO2 (And.intro (Eq.refl (List.map (SV.ren (renU [0] 6)) [fldS 0 l, .pv (ratioV tn td)])) (And.intro (reflH (renU [0] 6) [(0, 0, rowP l)]) (And.intro hS (And.intro (Eq.refl (List.map (SV.ren (renU [5,6] 7)) [.ls 0 l.length, .ls 1 l.length])) (And.intro (reflH (renU [5,6] 7) [(0, 0, .row 3 1 l.length (idsV g)), (1, 0, .row 3 1 l.length (idsV g))]) (And.intro (reflT (renN []) ([(2, .pp 1 0), (14, .ls 6 l.length), (16, .pv (.int .i64 ((0 + 1 : Nat) : Int)))])) (And.intro (reflH (renN []) ([(1, 0, .ls 0 l.length), (0, 0, rowP l), (6, 0, .row 3 1 l.length (idsV g))])) (And.intro r1 (And.intro hal (And.intro (Eq.refl (List.map (SV.ren (renU [] 7)) [])) (And.intro (reflH (renU [] 7) []) True.intro)))))))))))))))))))))))))))))) (by kernel_rfl)
end Go.Proofs.YtomnmoinahhdmaaGreat

namespace Go.Proofs.YtomnmoinahhdmaaGreat
open Go.RowKit
instance decI64 (n : Int) : Decidable (I64 n) := by unfold I64; infer_instance
theorem fM_eq {x : Pt × Pt} (h1 : okPt x.1 = true) (h2 : okPt x.2 = true) (hb : x.1.b ≠ x.2.b) {n d : Int} (hk : okB n d = true) (he : n * (x.1.b - x.2.b) = (x.2.a - x.1.a) * d) : fM x = some ⟨n, d, x.1.id, x.2.id⟩ := by
  obtain ⟨m, h, hm⟩ := fM_diff h1 h2 hb
  have e := hm.eq
  have e2 : (m.n * d) * (x.1.b - x.2.b) = (n * m.d) * (x.1.b - x.2.b) := by
    have a1 : (m.n * d) * (x.1.b - x.2.b) = (m.n * (x.1.b - x.2.b)) * d := by rw [Int.mul_assoc, Int.mul_comm d, ← Int.mul_assoc]
    have a2 : (n * m.d) * (x.1.b - x.2.b) = (n * (x.1.b - x.2.b)) * m.d := by rw [Int.mul_assoc, Int.mul_comm m.d, ← Int.mul_assoc]
    rw [a1, a2, e, he, Int.mul_assoc, Int.mul_assoc, Int.mul_comm d]
  have e3 : m.n * d = n * m.d := Int.eq_of_mul_eq_mul_right (by omega) e2
  obtain ⟨e4, e5⟩ := okB_one hm.ok hk (by omega)
  rw [h, ← e4, ← e5, ← hm.i, ← hm.j]
abbrev gl : List Pt := [⟨1, 0, 2⟩, ⟨2, 6, -1⟩, ⟨5, 0, 0⟩]
abbrev gm : List Mt := [⟨2, 1, 1, 2⟩, ⟨0, 1, 1, 5⟩, ⟨6, 1, 2, 5⟩]
abbrev gw : List Mt := [⟨0, 1, 1, 5⟩, ⟨2, 1, 1, 2⟩, ⟨6, 1, 2, 5⟩]
theorem up_of : ∀ {l : List Pt}, (l.zip l.tail).all (fun x => decide (x.1.id < x.2.id)) = true → Up l := by
  intro l h k p q hp hq
  have h2 := List.all_eq_true.1 h (p, q) (by
    refine List.mem_of_getElem? (i := k) ?_
    rw [List.getElem?_zip_eq_some]
    exact ⟨hp, by rw [List.getElem?_tail]; exact hq⟩)
  exact of_decide_eq_true h2
theorem gl_val : Val gl := ⟨by decide, by decide, up_of (by decide)⟩
theorem gl_ms : msOf gl = gm := by
  unfold msOf
  show List.filterMap fM [(⟨1, 0, 2⟩, ⟨2, 6, -1⟩), (⟨1, 0, 2⟩, ⟨5, 0, 0⟩), (⟨2, 6, -1⟩, ⟨5, 0, 0⟩)] = gm
  rw [List.filterMap_cons_some (fM_eq (n := 2) (d := 1) (by decide) (by decide) (by decide) (by decide) (by decide)), List.filterMap_cons_some (fM_eq (n := 0) (d := 1) (by decide) (by decide) (by decide) (by decide) (by decide)),
    List.filterMap_cons_some (fM_eq (n := 6) (d := 1) (by decide) (by decide) (by decide) (by decide) (by decide))]
  rfl
theorem gl_btw : btwS gl (-1) 1 6 1 = gw := by
  unfold btwS srt
  rw [gl_ms]
  rfl
theorem mE_ok0 {l : List Pt} {fn fd tn td : Int} (hv : Val l) (g1 : okB fn fd = true) (g2 : okB tn td = true) (h : fn * td - tn * fd ≤ 0) : mE l fn fd tn td = 0 := by
  unfold mE
  rw [if_pos (err_val.2 hv), if_pos ⟨g1, g2⟩, if_neg (by omega)]
theorem gl_all : FnL Tryz.prog 9 1 [fldS 0 gl, .pv (ratioV (-1) 1), .pv (ratioV 6 1)] [(0, 0, rowP gl)] (.tu [.one (.lq 1 4 0 3), .one (.pv (.int .i64 0))]) 1 [(1, 0, rowM gw)] := by
  have := All_ok (fn := -1) (fd := 1) (tn := 6) (td := 1) (by decide) (by decide) (by decide) (by decide) gl (mE_ok0 gl_val (by decide) (by decide) (by decide))
  rw [gl_btw] at this
  exact this
theorem gl_count {fn tn : Int} {n : Nat} (h1 : I64 fn) (h3 : I64 tn) (g1 : okB fn 1 = true) (g2 : okB tn 1 = true) (h : fn * 1 - tn * 1 ≤ 0) (hn : ((gm.filter (kpA fn 1)).filter (kpB tn 1)).length = n) :
    FnL Tryz.prog 11 1 [fldS 0 gl, .pv (ratioV fn 1), .pv (ratioV tn 1)] [(0, 0, rowP gl)] (.pv (.tuple #[.int .i64 (n : Int), .int .i64 0])) 0 [] := by
  have := Count_any h1 (by decide) h3 (by decide) gl (fd := 1) (td := 1)
  unfold countV at this
  rw [if_pos (mE_ok0 gl_val g1 g2 h), show btw gl fn 1 tn 1 = (gm.filter (kpA fn 1)).filter (kpB tn 1) by unfold btw; rw [gl_ms], hn] at this
  exact this
theorem gl_last : FnL Tryz.prog 19 1 [fldS 0 gl] [(0, 0, rowP gl)] (.pv (.tuple #[ratioV 6 1, .int .i64 0])) 0 [] := by
  have := Last_any gl
  unfold lastV at this
  rw [if_pos (err_val.2 gl_val), gl_ms] at this
  exact this
theorem gl_same : FnL Tryz.prog 15 2 [.lq 0 4 0 3, .ls 1 3] [(0, 0, rowM gw), (1, 0, rowM gw)] (.pv (.bool true)) 0 [] := Same_lq (s := gw) rfl (by decide)
set_option maxRecDepth 100000 in
theorem Alive4 : FnL Tryz.prog 18 0 [] [] (.pv (.bool true)) 0 [] :=
  fnl_run 300 [] [.k, .lw, .k, .k, .f [1] [fldS 0 gl, .pv (ratioV (-1) 1), .pv (ratioV 6 1)] [(0, 0, rowP gl)] (.tu [.one (.lq 1 4 0 3), .one (.pv (.int .i64 0))]) 1 [(1, 0, rowM gw)],
      .k, .lw, .k, .k, .f [4] [fldS 0 gl, .pv (ratioV 0 1), .pv (ratioV 5 1)] [(0, 0, rowP gl)] (.pv (.tuple #[.int .i64 1, .int .i64 0])) 0 [],
      .k, .lw, .f [6] [fldS 0 gl] [(0, 0, rowP gl)] (.pv (.tuple #[ratioV 6 1, .int .i64 0])) 0 [], .k, .k, .k, .lw, .k, .f [2, 8] [.lq 0 4 0 3, .ls 1 3] [(0, 0, rowM gw), (1, 0, rowM gw)] (.pv (.bool true)) 0 [], .k, .k, .k, .k, .k]
    True.intro (And.intro gl_all (And.intro (Eq.refl (List.map (SV.ren (renU [1] 2)) [fldS 0 gl, .pv (ratioV (-1) 1), .pv (ratioV 6 1)])) (And.intro (reflH (renU [1] 2) [(0, 0, rowP gl)])
      (And.intro (gl_count (fn := 0) (tn := 5) (n := 1) (by decide) (by decide) (by decide) (by decide) (by decide) (by decide)) (And.intro (Eq.refl (List.map (SV.ren (renU [4] 5)) [fldS 0 gl, .pv (ratioV 0 1), .pv (ratioV 5 1)])) (And.intro (reflH (renU [4] 5) [(0, 0, rowP gl)])
      (And.intro gl_last (And.intro (Eq.refl (List.map (SV.ren (renU [6] 7)) [fldS 0 gl])) (And.intro (reflH (renU [6] 7) [(0, 0, rowP gl)])
      (And.intro gl_same (And.intro (Eq.refl (List.map (SV.ren (renU [2, 8] 9)) [.lq 0 4 0 3, .ls 1 3])) (And.intro (reflH (renU [2, 8] 9) [(0, 0, rowM gw), (1, 0, rowM gw)]) True.intro)))))))))))) (by kernel_rfl)
end Go.Proofs.YtomnmoinahhdmaaGreat

namespace Go.Proofs.YtomnmoinahhdmaaGreat
open Go.RowKit
noncomputable def ldr (l : List Pt) (n d : Int) : Pt := open Classical in if h : ∃ s, Srt l n d s then h.choose.headD ⟨0, 0, 0⟩ else ⟨0, 0, 0⟩
noncomputable def nextOf (p q : Pt) : Option Mt := if p.b < q.b then fM (p, q) else none
noncomputable def fstep (p : Pt) (acc : Option Mt) (q : Pt) : Option Mt :=
  match nextOf p q with
  | none => acc
  | some m => match acc with
    | none => some m
    | some f => if (m.n * f.d - f.n * m.d).sign < 0 then some m else some f
noncomputable def nextM (p : Pt) (l : List Pt) : Option Mt := l.foldl (fstep p) none
end Go.Proofs.YtomnmoinahhdmaaGreat

namespace Go.Proofs.YtomnmoinahhdmaaGreat
open Go.RowKit
set_option maxRecDepth 100000 in
theorem bt_no1 {s o : List Mt} {m : Mt} {k n : Nat} {fn fd tn td c1 : Int} (hk : s[k]? = some m) (hin : 0 ≤ (k : Int) ∧ (k : Int) < (n : Int)) (hlt : decide ((k : Int) < (n : Int)) = true) (hc1 : Pure Tryz.prog 23 #[ratioV m.n m.d, ratioV fn fd] (.int .i64 (c1))) (g1 : decide (c1 > 0) = false) (hs : Value.int .i64 (IntKind.i64.wrap ((k : Int) + 1)) = .int .i64 (((k + 1 : Nat) : Int))) {e : Exit} {tm2 : List (Nat × SV)} {hp2 : List (Nat × Nat × SV)}
    (r : RunsL Tryz.prog 1 1 (loopOf Tryz.prog 41 0) 44 6 ([(4, .pp 2 0), (5, .pp 3 0), (7, .ls 5 (o).length), (8, .ls 4 n), (9, .pv (.int .i64 ((k + 1 : Nat) : Int)))]) ([(2, 0, .pv (.int .i64 fn)), (2, 1, .pv (.int .i64 fd)), (3, 0, .pv (.int .i64 tn)), (3, 1, .pv (.int .i64 td)), (4, 0, .row 50 4 n (msV s)), (5, 0, rowM (o))]) e tm2 hp2) : RunsL Tryz.prog 1 1 (loopOf Tryz.prog 41 0) 44 6 ([(4, .pp 2 0), (5, .pp 3 0), (7, .ls 5 (o).length), (8, .ls 4 n), (9, .pv (.int .i64 (k : Int)))]) ([(2, 0, .pv (.int .i64 fn)), (2, 1, .pv (.int .i64 fd)), (3, 0, .pv (.int .i64 tn)), (3, 1, .pv (.int .i64 td)), (4, 0, .row 50 4 n (msV s)), (5, 0, rowM (o))]) e tm2 hp2 :=
  RunsL.next [] 300 [.t true, .r (ratioV m.n m.d), .r (.int .i64 (c1)), .t false, .r (.int .i64 (((k + 1 : Nat) : Int)))]
    (round_of (And.intro hlt (And.intro hin (And.intro (ra_mat hk) (And.intro hc1 (And.intro g1 (And.intro hs True.intro)))))) (by kernel_rfl)) r

set_option maxRecDepth 100000 in
theorem bt_no2 {s o : List Mt} {m : Mt} {k n : Nat} {fn fd tn td c1 c2 : Int} (hk : s[k]? = some m) (hin : 0 ≤ (k : Int) ∧ (k : Int) < (n : Int)) (hlt : decide ((k : Int) < (n : Int)) = true) (hc1 : Pure Tryz.prog 23 #[ratioV m.n m.d, ratioV fn fd] (.int .i64 (c1))) (g1 : decide (c1 > 0) = true) (hc2 : Pure Tryz.prog 23 #[ratioV m.n m.d, ratioV tn td] (.int .i64 (c2))) (g2 : decide (c2 ≤ 0) = false) (hs : Value.int .i64 (IntKind.i64.wrap ((k : Int) + 1)) = .int .i64 (((k + 1 : Nat) : Int))) {e : Exit} {tm2 : List (Nat × SV)} {hp2 : List (Nat × Nat × SV)}
    (r : RunsL Tryz.prog 1 1 (loopOf Tryz.prog 41 0) 44 6 ([(4, .pp 2 0), (5, .pp 3 0), (7, .ls 5 (o).length), (8, .ls 4 n), (9, .pv (.int .i64 ((k + 1 : Nat) : Int)))]) ([(2, 0, .pv (.int .i64 fn)), (2, 1, .pv (.int .i64 fd)), (3, 0, .pv (.int .i64 tn)), (3, 1, .pv (.int .i64 td)), (4, 0, .row 50 4 n (msV s)), (5, 0, rowM (o))]) e tm2 hp2) : RunsL Tryz.prog 1 1 (loopOf Tryz.prog 41 0) 44 6 ([(4, .pp 2 0), (5, .pp 3 0), (7, .ls 5 (o).length), (8, .ls 4 n), (9, .pv (.int .i64 (k : Int)))]) ([(2, 0, .pv (.int .i64 fn)), (2, 1, .pv (.int .i64 fd)), (3, 0, .pv (.int .i64 tn)), (3, 1, .pv (.int .i64 td)), (4, 0, .row 50 4 n (msV s)), (5, 0, rowM (o))]) e tm2 hp2 :=
  RunsL.next [] 300 [.t true, .r (ratioV m.n m.d), .r (.int .i64 (c1)), .t true, .r (ratioV m.n m.d), .r (.int .i64 (c2)), .t false, .r (.int .i64 (((k + 1 : Nat) : Int)))]
    (round_of (And.intro hlt (And.intro hin (And.intro (ra_mat hk) (And.intro hc1 (And.intro g1 (And.intro hin (And.intro (ra_mat hk) (And.intro hc2 (And.intro g2 (And.intro hs True.intro)))))))))) (by kernel_rfl)) r

set_option maxRecDepth 100000 in
theorem bt_yes {s o : List Mt} {m : Mt} {k n : Nat} {fn fd tn td c1 c2 : Int} (hk : s[k]? = some m) (hin : 0 ≤ (k : Int) ∧ (k : Int) < (n : Int)) (hlt : decide ((k : Int) < (n : Int)) = true) (hc1 : Pure Tryz.prog 23 #[ratioV m.n m.d, ratioV fn fd] (.int .i64 (c1))) (g1 : decide (c1 > 0) = true) (hc2 : Pure Tryz.prog 23 #[ratioV m.n m.d, ratioV tn td] (.int .i64 (c2))) (g2 : decide (c2 ≤ 0) = true) (hl : o.length + 1 ≤ 1000000) (hs : Value.int .i64 (IntKind.i64.wrap ((k : Int) + 1)) = .int .i64 (((k + 1 : Nat) : Int))) {e : Exit} {tm2 : List (Nat × SV)} {hp2 : List (Nat × Nat × SV)}
    (r : RunsL Tryz.prog 1 1 (loopOf Tryz.prog 41 0) 44 6 ([(4, .pp 2 0), (5, .pp 3 0), (7, .ls 5 (o ++ [m]).length), (8, .ls 4 n), (9, .pv (.int .i64 ((k + 1 : Nat) : Int)))]) ([(2, 0, .pv (.int .i64 fn)), (2, 1, .pv (.int .i64 fd)), (3, 0, .pv (.int .i64 tn)), (3, 1, .pv (.int .i64 td)), (4, 0, .row 50 4 n (msV s)), (5, 0, rowM (o ++ [m]))]) e tm2 hp2) : RunsL Tryz.prog 1 1 (loopOf Tryz.prog 41 0) 44 6 ([(4, .pp 2 0), (5, .pp 3 0), (7, .ls 5 (o).length), (8, .ls 4 n), (9, .pv (.int .i64 (k : Int)))]) ([(2, 0, .pv (.int .i64 fn)), (2, 1, .pv (.int .i64 fd)), (3, 0, .pv (.int .i64 tn)), (3, 1, .pv (.int .i64 td)), (4, 0, .row 50 4 n (msV s)), (5, 0, rowM (o))]) e tm2 hp2 :=
  RunsL.next [(5, 7)] 300 [.t true, .r (ratioV m.n m.d), .r (.int .i64 (c1)), .t true, .r (ratioV m.n m.d), .r (.int .i64 (c2)), .t true, .r (meetV m), .r (.int .i64 (((k + 1 : Nat) : Int)))]
    (round_ofTH (And.intro (Eq.refl (SV.pp 2 0)) (And.intro (Eq.refl (SV.pp 3 0)) (And.intro (snocm_lsT 7 o m) (And.intro (Eq.refl (SV.ls 4 n)) (And.intro (Eq.refl (SV.pv (.int .i64 ((k + 1 : Nat) : Int)))) True.intro))))) (And.intro (Eq.refl (some (SV.pv (.int .i64 fn)))) (And.intro (Eq.refl (some (SV.pv (.int .i64 fd)))) (And.intro (Eq.refl (some (SV.pv (.int .i64 tn)))) (And.intro (Eq.refl (some (SV.pv (.int .i64 td)))) (And.intro (Eq.refl (some (SV.row 50 4 n (msV s)))) (And.intro (snocm_row o m) True.intro)))))) (And.intro hlt (And.intro hin (And.intro (ra_mat hk) (And.intro hc1 (And.intro g1 (And.intro hin (And.intro (ra_mat hk) (And.intro hc2 (And.intro g2 (And.intro hin (And.intro (ra_mt hk) (And.intro hl (And.intro hs True.intro))))))))))))) (by kernel_rfl)) r

set_option maxRecDepth 100000 in
theorem bt_end {s o : List Mt} {k n : Nat} {fn fd tn td : Int} (hge : decide ((k : Int) < (n : Int)) = false) : RunsL Tryz.prog 1 1 (loopOf Tryz.prog 41 0) 44 6 ([(4, .pp 2 0), (5, .pp 3 0), (7, .ls 5 (o).length), (8, .ls 4 n), (9, .pv (.int .i64 (k : Int)))]) ([(2, 0, .pv (.int .i64 fn)), (2, 1, .pv (.int .i64 fd)), (3, 0, .pv (.int .i64 tn)), (3, 1, .pv (.int .i64 td)), (4, 0, .row 50 4 n (msV s)), (5, 0, rowM (o))]) (.exit 0) ([(7, .ls 5 o.length)]) ([(5, 0, rowM o)]) :=
  RunsL.stop [] 300 [.t false] (fun h => by cases h)
    (round_of (And.intro hge True.intro) (by kernel_rfl))

set_option maxRecDepth 100000 in
theorem bt_path {l : List Pt} {s o : List Mt} {n : Nat} {fn fd tn td : Int} (hP : FnL Tryz.prog 89 1 [fldS 0 l] [(0, 0, rowP l)] (.ls 1 n) 1 [(1, 0, .row 50 4 n (msV s))]) (r0 : RunsL Tryz.prog 1 1 (loopOf Tryz.prog 41 0) 44 6 ([(4, .pp 2 0), (5, .pp 3 0), (7, .ls 5 (([] : List Mt)).length), (8, .ls 4 n), (9, .pv (.int .i64 ((0 : Nat) : Int)))]) ([(2, 0, .pv (.int .i64 fn)), (2, 1, .pv (.int .i64 fd)), (3, 0, .pv (.int .i64 tn)), (3, 1, .pv (.int .i64 td)), (4, 0, .row 50 4 n (msV s)), (5, 0, rowM (([] : List Mt)))]) (.exit 0) ([(7, .ls 5 o.length)]) ([(5, 0, rowM o)])) :
    FnL Tryz.prog 41 1 [fldS 0 l, .pv (ratioV fn fd), .pv (ratioV tn td)] [(0, 0, rowP l)] (.ls 1 o.length) 1 [(1, 0, rowM o)] :=
  fnl_run 300 [(1, 5)] [.f [0] [fldS 0 l] [(0, 0, rowP l)] (.ls 1 n) 1 [(1, 0, .row 50 4 n (msV s))], .ln true 7 0 50 4, .l (.exit 0) ([(4, .pp 2 0), (5, .pp 3 0), (7, .ls 5 (([] : List Mt)).length), (8, .ls 4 n), (9, .pv (.int .i64 ((0 : Nat) : Int)))]) ([(2, 0, .pv (.int .i64 fn)), (2, 1, .pv (.int .i64 fd)), (3, 0, .pv (.int .i64 tn)), (3, 1, .pv (.int .i64 td)), (4, 0, .row 50 4 n (msV s)), (5, 0, rowM (([] : List Mt)))]) ([(7, .ls 5 o.length)]) ([(5, 0, rowM o)])]
     (reflH (renN [(1, 5)]) [(1, 0, rowM o)]) (And.intro hP (And.intro (Eq.refl (List.map (SV.ren (renU [0] 4)) [fldS 0 l])) (And.intro (reflH (renU [0] 4) [(0, 0, rowP l)]) (And.intro (reflT (renN []) ([(4, .pp 2 0), (5, .pp 3 0), (7, .ls 5 (([] : List Mt)).length), (8, .ls 4 n), (9, .pv (.int .i64 ((0 : Nat) : Int)))])) (And.intro (reflH (renN []) ([(2, 0, .pv (.int .i64 fn)), (2, 1, .pv (.int .i64 fd)), (3, 0, .pv (.int .i64 tn)), (3, 1, .pv (.int .i64 td)), (4, 0, .row 50 4 n (msV s)), (5, 0, rowM (([] : List Mt)))])) (And.intro r0 True.intro)))))) (by kernel_rfl)

set_option maxRecDepth 100000 in
theorem ra4_err {l : List Pt} {fn fd tn td er : Int} (ht : FnL Tryz.prog 32 1 [fldS 0 l, .pv (ratioV fn fd), .pv (ratioV tn td)] [(0, 0, rowP l)] (.pv (.int .i64 (er))) 0 []) (he : (er != 0) = true) :
    FnL Tryz.prog 10 1 [fldS 0 l, .pv (ratioV fn fd), .pv (ratioV tn td)] [(0, 0, rowP l)] (.pv (.tuple #[.slice none 0 0, .int .i64 er])) 0 [] :=
  fnl_run 300 [] [.f [0] [fldS 0 l, .pv (ratioV fn fd), .pv (ratioV tn td)] [(0, 0, rowP l)] (.pv (.int .i64 (er))) 0 [], .t true]
     True.intro (And.intro ht (And.intro (Eq.refl (List.map (SV.ren (renU [0] 4)) [fldS 0 l, .pv (ratioV fn fd), .pv (ratioV tn td)])) (And.intro (reflH (renU [0] 4) [(0, 0, rowP l)]) (And.intro he True.intro)))) (by kernel_rfl)

set_option maxRecDepth 100000 in
theorem rc4_err {l : List Pt} {fn fd tn td er : Int} (ht : FnL Tryz.prog 32 1 [fldS 0 l, .pv (ratioV fn fd), .pv (ratioV tn td)] [(0, 0, rowP l)] (.pv (.int .i64 (er))) 0 []) (he : (er != 0) = true) :
    FnL Tryz.prog 12 1 [fldS 0 l, .pv (ratioV fn fd), .pv (ratioV tn td)] [(0, 0, rowP l)] (.pv (.tuple #[.int .i64 0, .int .i64 er])) 0 [] :=
  fnl_run 300 [] [.f [0] [fldS 0 l, .pv (ratioV fn fd), .pv (ratioV tn td)] [(0, 0, rowP l)] (.pv (.int .i64 (er))) 0 [], .t true]
     True.intro (And.intro ht (And.intro (Eq.refl (List.map (SV.ren (renU [0] 4)) [fldS 0 l, .pv (ratioV fn fd), .pv (ratioV tn td)])) (And.intro (reflH (renU [0] 4) [(0, 0, rowP l)]) (And.intro he True.intro)))) (by kernel_rfl)

set_option maxRecDepth 100000 in
theorem rs4_err {l : List Pt} {fn fd tn td er : Int} (ht : FnL Tryz.prog 32 1 [fldS 0 l, .pv (ratioV fn fd), .pv (ratioV tn td)] [(0, 0, rowP l)] (.pv (.int .i64 (er))) 0 []) (he : (er != 0) = true) :
    FnL Tryz.prog 14 1 [fldS 0 l, .pv (ratioV fn fd), .pv (ratioV tn td)] [(0, 0, rowP l)] (.pv (.tuple #[.int .i64 0, .int .i64 er])) 0 [] :=
  fnl_run 300 [] [.f [0] [fldS 0 l, .pv (ratioV fn fd), .pv (ratioV tn td)] [(0, 0, rowP l)] (.pv (.int .i64 (er))) 0 [], .t true]
     True.intro (And.intro ht (And.intro (Eq.refl (List.map (SV.ren (renU [0] 4)) [fldS 0 l, .pv (ratioV fn fd), .pv (ratioV tn td)])) (And.intro (reflH (renU [0] 4) [(0, 0, rowP l)]) (And.intro he True.intro)))) (by kernel_rfl)

set_option maxRecDepth 100000 in
theorem ra4_ok {l : List Pt} {o : List Mt} {fn fd tn td : Int} (ht : FnL Tryz.prog 32 1 [fldS 0 l, .pv (ratioV fn fd), .pv (ratioV tn td)] [(0, 0, rowP l)] (.pv (.int .i64 (0))) 0 []) (hB : FnL Tryz.prog 41 1 [fldS 0 l, .pv (ratioV fn fd), .pv (ratioV tn td)] [(0, 0, rowP l)] (.ls 1 o.length) 1 [(1, 0, rowM o)]) :
    FnL Tryz.prog 10 1 [fldS 0 l, .pv (ratioV fn fd), .pv (ratioV tn td)] [(0, 0, rowP l)] (.tu [.one (.ls 1 o.length), .one (.pv (.int .i64 0))]) 1 [(1, 0, rowM o)] :=
  fnl_run 300 [(1, 4)] [.f [0] [fldS 0 l, .pv (ratioV fn fd), .pv (ratioV tn td)] [(0, 0, rowP l)] (.pv (.int .i64 (0))) 0 [], .k, .f [0] [fldS 0 l, .pv (ratioV fn fd), .pv (ratioV tn td)] [(0, 0, rowP l)] (.ls 1 o.length) 1 [(1, 0, rowM o)]]
     (reflH (renN [(1, 4)]) [(1, 0, rowM o)]) (And.intro ht (And.intro (Eq.refl (List.map (SV.ren (renU [0] 4)) [fldS 0 l, .pv (ratioV fn fd), .pv (ratioV tn td)])) (And.intro (reflH (renU [0] 4) [(0, 0, rowP l)]) (And.intro hB (And.intro (Eq.refl (List.map (SV.ren (renU [0] 4)) [fldS 0 l, .pv (ratioV fn fd), .pv (ratioV tn td)])) (And.intro (reflH (renU [0] 4) [(0, 0, rowP l)]) True.intro)))))) (by kernel_rfl)

set_option maxRecDepth 100000 in
theorem rc4_ok {l : List Pt} {o : List Mt} {fn fd tn td : Int} (ht : FnL Tryz.prog 32 1 [fldS 0 l, .pv (ratioV fn fd), .pv (ratioV tn td)] [(0, 0, rowP l)] (.pv (.int .i64 (0))) 0 []) (hB : FnL Tryz.prog 41 1 [fldS 0 l, .pv (ratioV fn fd), .pv (ratioV tn td)] [(0, 0, rowP l)] (.ls 1 o.length) 1 [(1, 0, rowM o)]) :
    FnL Tryz.prog 12 1 [fldS 0 l, .pv (ratioV fn fd), .pv (ratioV tn td)] [(0, 0, rowP l)] (.pv (.tuple #[.int .i64 (o.length : Int), .int .i64 0])) 0 [] :=
  fnl_run 300 [] [.f [0] [fldS 0 l, .pv (ratioV fn fd), .pv (ratioV tn td)] [(0, 0, rowP l)] (.pv (.int .i64 (0))) 0 [], .k, .f [0] [fldS 0 l, .pv (ratioV fn fd), .pv (ratioV tn td)] [(0, 0, rowP l)] (.ls 1 o.length) 1 [(1, 0, rowM o)]]
     True.intro (And.intro ht (And.intro (Eq.refl (List.map (SV.ren (renU [0] 4)) [fldS 0 l, .pv (ratioV fn fd), .pv (ratioV tn td)])) (And.intro (reflH (renU [0] 4) [(0, 0, rowP l)]) (And.intro hB (And.intro (Eq.refl (List.map (SV.ren (renU [0] 4)) [fldS 0 l, .pv (ratioV fn fd), .pv (ratioV tn td)])) (And.intro (reflH (renU [0] 4) [(0, 0, rowP l)]) True.intro)))))) (by kernel_rfl)

set_option maxRecDepth 100000 in
theorem sw4_no {l : List Pt} {i k n : Nat} {p q : Pt} {fn fd tn td : Int} {w1 w2 : Bool} (hi : l[i]? = some p) (hk : l[k]? = some q) (hii : 0 ≤ (i : Int) ∧ (i : Int) < (l.length : Int)) (hin : 0 ≤ (k : Int) ∧ (k : Int) < (l.length : Int)) (hlt : decide ((k : Int) < (l.length : Int)) = true) (h1 : Pure Tryz.prog 44 #[ptV p, ptV q, ratioV fn fd] (.bool w1)) (h2 : Pure Tryz.prog 44 #[ptV p, ptV q, ratioV tn td] (.bool w2)) (hw : (!(w1 == w2)) = false) (hs : Value.int .i64 (IntKind.i64.wrap ((k : Int) + 1)) = .int .i64 (((k + 1 : Nat) : Int))) {e : Exit} {tm2 : List (Nat × SV)} {hp2 : List (Nat × Nat × SV)}
    (r : RunsL Tryz.prog 1 1 (loopOf Tryz.prog 14 1) 59 4 ([(3, .pp 1 0), (4, .pp 2 0), (5, .pp 3 0), (9, .pv (.int .i64 (n : Int))), (10, .pv (.int .i64 (i : Int))), (11, .pv (.int .i64 ((k + 1 : Nat) : Int)))]) ([(1, 0, .ls 0 l.length), (2, 0, .pv (.int .i64 fn)), (2, 1, .pv (.int .i64 fd)), (3, 0, .pv (.int .i64 tn)), (3, 1, .pv (.int .i64 td)), (0, 0, rowP l)]) e tm2 hp2) : RunsL Tryz.prog 1 1 (loopOf Tryz.prog 14 1) 59 4 ([(3, .pp 1 0), (4, .pp 2 0), (5, .pp 3 0), (9, .pv (.int .i64 (n : Int))), (10, .pv (.int .i64 (i : Int))), (11, .pv (.int .i64 (k : Int)))]) ([(1, 0, .ls 0 l.length), (2, 0, .pv (.int .i64 fn)), (2, 1, .pv (.int .i64 fd)), (3, 0, .pv (.int .i64 tn)), (3, 1, .pv (.int .i64 td)), (0, 0, rowP l)]) e tm2 hp2 :=
  RunsL.next [] 300 [.t true, .r (ptV p), .r (ptV q), .r (.bool w1), .r (.bool w2), .t false, .r (.int .i64 (((k + 1 : Nat) : Int)))]
    (round_of (And.intro hlt (And.intro hii (And.intro (ra_pt hi) (And.intro hin (And.intro (ra_pt hk) (And.intro h1 (And.intro h2 (And.intro hw (And.intro hs True.intro))))))))) (by kernel_rfl)) r

set_option maxRecDepth 100000 in
theorem sw4_yes {l : List Pt} {i k n : Nat} {p q : Pt} {fn fd tn td : Int} {w1 w2 : Bool} (hi : l[i]? = some p) (hk : l[k]? = some q) (hii : 0 ≤ (i : Int) ∧ (i : Int) < (l.length : Int)) (hin : 0 ≤ (k : Int) ∧ (k : Int) < (l.length : Int)) (hlt : decide ((k : Int) < (l.length : Int)) = true) (h1 : Pure Tryz.prog 44 #[ptV p, ptV q, ratioV fn fd] (.bool w1)) (h2 : Pure Tryz.prog 44 #[ptV p, ptV q, ratioV tn td] (.bool w2)) (hw : (!(w1 == w2)) = true) (hn : Value.int .i64 (IntKind.i64.wrap ((n : Int) + 1)) = .int .i64 (((n + 1 : Nat) : Int))) (hs : Value.int .i64 (IntKind.i64.wrap ((k : Int) + 1)) = .int .i64 (((k + 1 : Nat) : Int))) {e : Exit} {tm2 : List (Nat × SV)} {hp2 : List (Nat × Nat × SV)}
    (r : RunsL Tryz.prog 1 1 (loopOf Tryz.prog 14 1) 59 4 ([(3, .pp 1 0), (4, .pp 2 0), (5, .pp 3 0), (9, .pv (.int .i64 ((n + 1 : Nat) : Int))), (10, .pv (.int .i64 (i : Int))), (11, .pv (.int .i64 ((k + 1 : Nat) : Int)))]) ([(1, 0, .ls 0 l.length), (2, 0, .pv (.int .i64 fn)), (2, 1, .pv (.int .i64 fd)), (3, 0, .pv (.int .i64 tn)), (3, 1, .pv (.int .i64 td)), (0, 0, rowP l)]) e tm2 hp2) : RunsL Tryz.prog 1 1 (loopOf Tryz.prog 14 1) 59 4 ([(3, .pp 1 0), (4, .pp 2 0), (5, .pp 3 0), (9, .pv (.int .i64 (n : Int))), (10, .pv (.int .i64 (i : Int))), (11, .pv (.int .i64 (k : Int)))]) ([(1, 0, .ls 0 l.length), (2, 0, .pv (.int .i64 fn)), (2, 1, .pv (.int .i64 fd)), (3, 0, .pv (.int .i64 tn)), (3, 1, .pv (.int .i64 td)), (0, 0, rowP l)]) e tm2 hp2 :=
  RunsL.next [] 300 [.t true, .r (ptV p), .r (ptV q), .r (.bool w1), .r (.bool w2), .t true, .r (.int .i64 (((n + 1 : Nat) : Int))), .r (.int .i64 (((k + 1 : Nat) : Int)))]
    (round_of (And.intro hlt (And.intro hii (And.intro (ra_pt hi) (And.intro hin (And.intro (ra_pt hk) (And.intro h1 (And.intro h2 (And.intro hw (And.intro hn (And.intro hs True.intro)))))))))) (by kernel_rfl)) r

set_option maxRecDepth 100000 in
theorem sw4_end {l : List Pt} {i k n : Nat} {fn fd tn td : Int} (hge : decide ((k : Int) < (l.length : Int)) = false) : RunsL Tryz.prog 1 1 (loopOf Tryz.prog 14 1) 59 4 ([(3, .pp 1 0), (4, .pp 2 0), (5, .pp 3 0), (9, .pv (.int .i64 (n : Int))), (10, .pv (.int .i64 (i : Int))), (11, .pv (.int .i64 (k : Int)))]) ([(1, 0, .ls 0 l.length), (2, 0, .pv (.int .i64 fn)), (2, 1, .pv (.int .i64 fd)), (3, 0, .pv (.int .i64 tn)), (3, 1, .pv (.int .i64 td)), (0, 0, rowP l)]) (.exit 2) ([(3, .pp 1 0), (4, .pp 2 0), (5, .pp 3 0), (9, .pv (.int .i64 (n : Int))), (10, .pv (.int .i64 (i : Int)))]) ([(1, 0, .ls 0 l.length), (2, 0, .pv (.int .i64 fn)), (2, 1, .pv (.int .i64 fd)), (3, 0, .pv (.int .i64 tn)), (3, 1, .pv (.int .i64 td)), (0, 0, rowP l)]) :=
  RunsL.stop [] 300 [.t false] (fun h => by cases h)
    (round_of (And.intro hge True.intro) (by kernel_rfl))

set_option maxRecDepth 100000 in
theorem so4_next {l : List Pt} {i n n2 : Nat} {fn fd tn td : Int} (hlt : decide ((i : Int) < (l.length : Int)) = true) (hs : Value.int .i64 (IntKind.i64.wrap ((i : Int) + 1)) = .int .i64 (((i + 1 : Nat) : Int))) (r1 : RunsL Tryz.prog 1 1 (loopOf Tryz.prog 14 1) 59 4 ([(3, .pp 1 0), (4, .pp 2 0), (5, .pp 3 0), (9, .pv (.int .i64 (n : Int))), (10, .pv (.int .i64 (i : Int))), (11, .pv (.int .i64 ((i + 1 : Nat) : Int)))]) ([(1, 0, .ls 0 l.length), (2, 0, .pv (.int .i64 fn)), (2, 1, .pv (.int .i64 fd)), (3, 0, .pv (.int .i64 tn)), (3, 1, .pv (.int .i64 td)), (0, 0, rowP l)]) (.exit 2) ([(3, .pp 1 0), (4, .pp 2 0), (5, .pp 3 0), (9, .pv (.int .i64 (n2 : Int))), (10, .pv (.int .i64 (i : Int)))]) ([(1, 0, .ls 0 l.length), (2, 0, .pv (.int .i64 fn)), (2, 1, .pv (.int .i64 fd)), (3, 0, .pv (.int .i64 tn)), (3, 1, .pv (.int .i64 td)), (0, 0, rowP l)])) {e : Exit} {tm2 : List (Nat × SV)} {hp2 : List (Nat × Nat × SV)}
    (r : RunsL Tryz.prog 1 1 (loopOf Tryz.prog 14 0) 59 4 ([(3, .pp 1 0), (4, .pp 2 0), (5, .pp 3 0), (9, .pv (.int .i64 (n2 : Int))), (10, .pv (.int .i64 ((i + 1 : Nat) : Int)))]) ([(1, 0, .ls 0 l.length), (2, 0, .pv (.int .i64 fn)), (2, 1, .pv (.int .i64 fd)), (3, 0, .pv (.int .i64 tn)), (3, 1, .pv (.int .i64 td)), (0, 0, rowP l)]) e tm2 hp2) : RunsL Tryz.prog 1 1 (loopOf Tryz.prog 14 0) 59 4 ([(3, .pp 1 0), (4, .pp 2 0), (5, .pp 3 0), (9, .pv (.int .i64 (n : Int))), (10, .pv (.int .i64 (i : Int)))]) ([(1, 0, .ls 0 l.length), (2, 0, .pv (.int .i64 fn)), (2, 1, .pv (.int .i64 fd)), (3, 0, .pv (.int .i64 tn)), (3, 1, .pv (.int .i64 td)), (0, 0, rowP l)]) e tm2 hp2 :=
  RunsL.next [] 300 [.t true, .r (.int .i64 (((i + 1 : Nat) : Int))), .l (.exit 2) ([(3, .pp 1 0), (4, .pp 2 0), (5, .pp 3 0), (9, .pv (.int .i64 (n : Int))), (10, .pv (.int .i64 (i : Int))), (11, .pv (.int .i64 ((i + 1 : Nat) : Int)))]) ([(1, 0, .ls 0 l.length), (2, 0, .pv (.int .i64 fn)), (2, 1, .pv (.int .i64 fd)), (3, 0, .pv (.int .i64 tn)), (3, 1, .pv (.int .i64 td)), (0, 0, rowP l)]) ([(3, .pp 1 0), (4, .pp 2 0), (5, .pp 3 0), (9, .pv (.int .i64 (n2 : Int))), (10, .pv (.int .i64 (i : Int)))]) ([(1, 0, .ls 0 l.length), (2, 0, .pv (.int .i64 fn)), (2, 1, .pv (.int .i64 fd)), (3, 0, .pv (.int .i64 tn)), (3, 1, .pv (.int .i64 td)), (0, 0, rowP l)]), .r (.int .i64 (((i + 1 : Nat) : Int)))]
    (round_of (And.intro hlt (And.intro hs (And.intro (reflT (renN []) ([(3, .pp 1 0), (4, .pp 2 0), (5, .pp 3 0), (9, .pv (.int .i64 (n : Int))), (10, .pv (.int .i64 (i : Int))), (11, .pv (.int .i64 ((i + 1 : Nat) : Int)))])) (And.intro (reflH (renN []) ([(1, 0, .ls 0 l.length), (2, 0, .pv (.int .i64 fn)), (2, 1, .pv (.int .i64 fd)), (3, 0, .pv (.int .i64 tn)), (3, 1, .pv (.int .i64 td)), (0, 0, rowP l)])) (And.intro r1 (And.intro hs True.intro)))))) (by kernel_rfl)) r

set_option maxRecDepth 100000 in
theorem so4_end {l : List Pt} {i n : Nat} {fn fd tn td : Int} (hlt : decide ((i : Int) < (l.length : Int)) = false) : RunsL Tryz.prog 1 1 (loopOf Tryz.prog 14 0) 59 4 ([(3, .pp 1 0), (4, .pp 2 0), (5, .pp 3 0), (9, .pv (.int .i64 (n : Int))), (10, .pv (.int .i64 (i : Int)))]) ([(1, 0, .ls 0 l.length), (2, 0, .pv (.int .i64 fn)), (2, 1, .pv (.int .i64 fd)), (3, 0, .pv (.int .i64 tn)), (3, 1, .pv (.int .i64 td)), (0, 0, rowP l)]) (.exit 0) ([(9, .pv (.int .i64 (n : Int)))]) ([]) :=
  RunsL.stop [] 300 [.t false] (fun h => by cases h)
    (round_of (And.intro hlt True.intro) (by kernel_rfl))

set_option maxRecDepth 100000 in
theorem rs4_ok {l : List Pt} {n : Nat} {fn fd tn td : Int} (ht : FnL Tryz.prog 32 1 [fldS 0 l, .pv (ratioV fn fd), .pv (ratioV tn td)] [(0, 0, rowP l)] (.pv (.int .i64 (0))) 0 []) (r0 : RunsL Tryz.prog 1 1 (loopOf Tryz.prog 14 0) 59 4 ([(3, .pp 1 0), (4, .pp 2 0), (5, .pp 3 0), (9, .pv (.int .i64 ((0 : Nat) : Int))), (10, .pv (.int .i64 ((0 : Nat) : Int)))]) ([(1, 0, .ls 0 l.length), (2, 0, .pv (.int .i64 fn)), (2, 1, .pv (.int .i64 fd)), (3, 0, .pv (.int .i64 tn)), (3, 1, .pv (.int .i64 td)), (0, 0, rowP l)]) (.exit 0) ([(9, .pv (.int .i64 (n : Int)))]) ([])) :
    FnL Tryz.prog 14 1 [fldS 0 l, .pv (ratioV fn fd), .pv (ratioV tn td)] [(0, 0, rowP l)] (.pv (.tuple #[.int .i64 (n : Int), .int .i64 0])) 0 [] :=
  fnl_run 300 [] [.f [0] [fldS 0 l, .pv (ratioV fn fd), .pv (ratioV tn td)] [(0, 0, rowP l)] (.pv (.int .i64 (0))) 0 [], .k, .l (.exit 0) ([(3, .pp 1 0), (4, .pp 2 0), (5, .pp 3 0), (9, .pv (.int .i64 ((0 : Nat) : Int))), (10, .pv (.int .i64 ((0 : Nat) : Int)))]) ([(1, 0, .ls 0 l.length), (2, 0, .pv (.int .i64 fn)), (2, 1, .pv (.int .i64 fd)), (3, 0, .pv (.int .i64 tn)), (3, 1, .pv (.int .i64 td)), (0, 0, rowP l)]) ([(9, .pv (.int .i64 (n : Int)))]) ([])]
     True.intro (And.intro ht (And.intro (Eq.refl (List.map (SV.ren (renU [0] 4)) [fldS 0 l, .pv (ratioV fn fd), .pv (ratioV tn td)])) (And.intro (reflH (renU [0] 4) [(0, 0, rowP l)]) (And.intro (reflT (renN []) ([(3, .pp 1 0), (4, .pp 2 0), (5, .pp 3 0), (9, .pv (.int .i64 ((0 : Nat) : Int))), (10, .pv (.int .i64 ((0 : Nat) : Int)))])) (And.intro (reflH (renN []) ([(1, 0, .ls 0 l.length), (2, 0, .pv (.int .i64 fn)), (2, 1, .pv (.int .i64 fd)), (3, 0, .pv (.int .i64 tn)), (3, 1, .pv (.int .i64 td)), (0, 0, rowP l)])) (And.intro r0 True.intro)))))) (by kernel_rfl)

set_option maxRecDepth 100000 in
theorem mf_great {l : List Pt} {fn fd tn td : Int} (hg : FnL Tryz.prog 7 1 [fldS 0 l] [(0, 0, rowP l)] (.pv (.bool true)) 0 []) :
    FnL Tryz.prog 3 1 [fldS 0 l, .pv (ratioV fn fd), .pv (ratioV tn td)] [(0, 0, rowP l)] (.pv (.bool true)) 0 [] :=
  fnl_run 300 [] [.f [0] [fldS 0 l] [(0, 0, rowP l)] (.pv (.bool true)) 0 []]
     True.intro (And.intro hg (And.intro (Eq.refl (List.map (SV.ren (renU [0] 4)) [fldS 0 l])) (And.intro (reflH (renU [0] 4) [(0, 0, rowP l)]) True.intro))) (by kernel_rfl)

set_option maxRecDepth 100000 in
theorem mf_err {l : List Pt} {fn fd tn td er : Int} (hg : FnL Tryz.prog 7 1 [fldS 0 l] [(0, 0, rowP l)] (.pv (.bool false)) 0 []) (hT : FnL Tryz.prog 8 1 [fldS 0 l] [(0, 0, rowP l)] (.ag [.ls 1 l.length]) 1 [(1, 0, rowP l)]) (hA : FnL Tryz.prog 9 1 [fldS 0 l, .pv (ratioV fn fd), .pv (ratioV tn td)] [(0, 0, rowP l)] (.pv (.tuple #[.slice none 0 0, .int .i64 er])) 0 []) (hA2 : FnL Tryz.prog 10 1 [fldS 0 l, .pv (ratioV fn fd), .pv (ratioV tn td)] [(0, 0, rowP l)] (.pv (.tuple #[.slice none 0 0, .int .i64 er])) 0 []) (hC : FnL Tryz.prog 11 1 [fldS 0 l, .pv (ratioV fn fd), .pv (ratioV tn td)] [(0, 0, rowP l)] (.pv (.tuple #[.int .i64 (0), .int .i64 er])) 0 []) (hC2 : FnL Tryz.prog 12 1 [fldS 0 l, .pv (ratioV fn fd), .pv (ratioV tn td)] [(0, 0, rowP l)] (.pv (.tuple #[.int .i64 (0), .int .i64 er])) 0 []) (hS : FnL Tryz.prog 13 1 [fldS 0 l, .pv (ratioV fn fd), .pv (ratioV tn td)] [(0, 0, rowP l)] (.pv (.tuple #[.int .i64 (0), .int .i64 er])) 0 []) (hS2 : FnL Tryz.prog 14 1 [fldS 0 l, .pv (ratioV fn fd), .pv (ratioV tn td)] [(0, 0, rowP l)] (.pv (.tuple #[.int .i64 (0), .int .i64 er])) 0 []) (hq : Pure Tryz.prog 15 #[.slice none 0 0, .slice none 0 0] (.bool true)) (e1 : (er == er) = true) (hF : FnL Tryz.prog 16 2 [fldS 0 l, fldS 1 l] [(0, 0, rowP l), (1, 0, rowP l)] (.pv (.bool true)) 0 []) :
    FnL Tryz.prog 3 1 [fldS 0 l, .pv (ratioV fn fd), .pv (ratioV tn td)] [(0, 0, rowP l)] (.pv (.bool true)) 0 [] :=
  fnl_run 300 [] [.f [0] [fldS 0 l] [(0, 0, rowP l)] (.pv (.bool false)) 0 [], .f [0] [fldS 0 l] [(0, 0, rowP l)] (.ag [.ls 1 l.length]) 1 [(1, 0, rowP l)], .f [4] [fldS 0 l, .pv (ratioV fn fd), .pv (ratioV tn td)] [(0, 0, rowP l)] (.pv (.tuple #[.slice none 0 0, .int .i64 er])) 0 [], .f [0] [fldS 0 l, .pv (ratioV fn fd), .pv (ratioV tn td)] [(0, 0, rowP l)] (.pv (.tuple #[.slice none 0 0, .int .i64 er])) 0 [], .f [4] [fldS 0 l, .pv (ratioV fn fd), .pv (ratioV tn td)] [(0, 0, rowP l)] (.pv (.tuple #[.int .i64 (0), .int .i64 er])) 0 [], .f [0] [fldS 0 l, .pv (ratioV fn fd), .pv (ratioV tn td)] [(0, 0, rowP l)] (.pv (.tuple #[.int .i64 (0), .int .i64 er])) 0 [], .f [4] [fldS 0 l, .pv (ratioV fn fd), .pv (ratioV tn td)] [(0, 0, rowP l)] (.pv (.tuple #[.int .i64 (0), .int .i64 er])) 0 [], .f [0] [fldS 0 l, .pv (ratioV fn fd), .pv (ratioV tn td)] [(0, 0, rowP l)] (.pv (.tuple #[.int .i64 (0), .int .i64 er])) 0 [], .r (.bool true), .t true, .k, .t true, .k, .t true, .f [4,0] [fldS 0 l, fldS 1 l] [(0, 0, rowP l), (1, 0, rowP l)] (.pv (.bool true)) 0 []]
     True.intro (And.intro hg (And.intro (Eq.refl (List.map (SV.ren (renU [0] 4)) [fldS 0 l])) (And.intro (reflH (renU [0] 4) [(0, 0, rowP l)]) (And.intro hT (And.intro (Eq.refl (List.map (SV.ren (renU [0] 4)) [fldS 0 l])) (And.intro (reflH (renU [0] 4) [(0, 0, rowP l)]) (And.intro hA (And.intro (Eq.refl (List.map (SV.ren (renU [4] 6)) [fldS 0 l, .pv (ratioV fn fd), .pv (ratioV tn td)])) (And.intro (reflH (renU [4] 6) [(0, 0, rowP l)]) (And.intro hA2 (And.intro (Eq.refl (List.map (SV.ren (renU [0] 6)) [fldS 0 l, .pv (ratioV fn fd), .pv (ratioV tn td)])) (And.intro (reflH (renU [0] 6) [(0, 0, rowP l)]) (And.intro hC (And.intro (Eq.refl (List.map (SV.ren (renU [4] 6)) [fldS 0 l, .pv (ratioV fn fd), .pv (ratioV tn td)])) (And.intro (reflH (renU [4] 6) [(0, 0, rowP l)]) (And.intro hC2 (And.intro (Eq.refl (List.map (SV.ren (renU [0] 6)) [fldS 0 l, .pv (ratioV fn fd), .pv (ratioV tn td)])) (And.intro (reflH (renU [0] 6) [(0, 0, rowP l)]) (And.intro hS (And.intro (Eq.refl (List.map (SV.ren (renU [4] 6)) [fldS 0 l, .pv (ratioV fn fd), .pv (ratioV tn td)])) (And.intro (reflH (renU [4] 6) [(0, 0, rowP l)]) (And.intro hS2 (And.intro (Eq.refl (List.map (SV.ren (renU [0] 6)) [fldS 0 l, .pv (ratioV fn fd), .pv (ratioV tn td)])) (And.intro (reflH (renU [0] 6) [(0, 0, rowP l)]) (And.intro hq (And.intro e1 (And.intro e1 (And.intro e1 (And.intro hF (And.intro (Eq.refl (List.map (SV.ren (renU [4,0] 6)) [fldS 0 l, fldS 1 l])) (And.intro (reflH (renU [4,0] 6) [(0, 0, rowP l), (1, 0, rowP l)]) True.intro))))))))))))))))))))))))))))))) (by kernel_rfl)

set_option maxRecDepth 100000 in
theorem mf_ok {l : List Pt} {s : List Mt} {fn fd tn td nc ns : Int} (hg : FnL Tryz.prog 7 1 [fldS 0 l] [(0, 0, rowP l)] (.pv (.bool false)) 0 []) (hT : FnL Tryz.prog 8 1 [fldS 0 l] [(0, 0, rowP l)] (.ag [.ls 1 l.length]) 1 [(1, 0, rowP l)]) (hA : FnL Tryz.prog 9 1 [fldS 0 l, .pv (ratioV fn fd), .pv (ratioV tn td)] [(0, 0, rowP l)] (.tu [.one (.lq 1 4 0 s.length), .one (.pv (.int .i64 0))]) 1 [(1, 0, rowM s)]) (hA2 : FnL Tryz.prog 10 1 [fldS 0 l, .pv (ratioV fn fd), .pv (ratioV tn td)] [(0, 0, rowP l)] (.tu [.one (.ls 1 s.length), .one (.pv (.int .i64 0))]) 1 [(1, 0, rowM s)]) (hC : FnL Tryz.prog 11 1 [fldS 0 l, .pv (ratioV fn fd), .pv (ratioV tn td)] [(0, 0, rowP l)] (.pv (.tuple #[.int .i64 (nc), .int .i64 0])) 0 []) (hC2 : FnL Tryz.prog 12 1 [fldS 0 l, .pv (ratioV fn fd), .pv (ratioV tn td)] [(0, 0, rowP l)] (.pv (.tuple #[.int .i64 (nc), .int .i64 0])) 0 []) (hS : FnL Tryz.prog 13 1 [fldS 0 l, .pv (ratioV fn fd), .pv (ratioV tn td)] [(0, 0, rowP l)] (.pv (.tuple #[.int .i64 (ns), .int .i64 0])) 0 []) (hS2 : FnL Tryz.prog 14 1 [fldS 0 l, .pv (ratioV fn fd), .pv (ratioV tn td)] [(0, 0, rowP l)] (.pv (.tuple #[.int .i64 (ns), .int .i64 0])) 0 []) (hq : FnL Tryz.prog 15 2 [.lq 0 4 0 s.length, .ls 1 s.length] [(0, 0, rowM s), (1, 0, rowM s)] (.pv (.bool true)) 0 []) (e1 : (nc == nc) = true) (e2 : (ns == ns) = true) (hF : FnL Tryz.prog 16 2 [fldS 0 l, fldS 1 l] [(0, 0, rowP l), (1, 0, rowP l)] (.pv (.bool true)) 0 []) :
    FnL Tryz.prog 3 1 [fldS 0 l, .pv (ratioV fn fd), .pv (ratioV tn td)] [(0, 0, rowP l)] (.pv (.bool true)) 0 [] :=
  fnl_run 300 [] [.f [0] [fldS 0 l] [(0, 0, rowP l)] (.pv (.bool false)) 0 [], .f [0] [fldS 0 l] [(0, 0, rowP l)] (.ag [.ls 1 l.length]) 1 [(1, 0, rowP l)], .f [4] [fldS 0 l, .pv (ratioV fn fd), .pv (ratioV tn td)] [(0, 0, rowP l)] (.tu [.one (.lq 1 4 0 s.length), .one (.pv (.int .i64 0))]) 1 [(1, 0, rowM s)], .f [0] [fldS 0 l, .pv (ratioV fn fd), .pv (ratioV tn td)] [(0, 0, rowP l)] (.tu [.one (.ls 1 s.length), .one (.pv (.int .i64 0))]) 1 [(1, 0, rowM s)], .f [4] [fldS 0 l, .pv (ratioV fn fd), .pv (ratioV tn td)] [(0, 0, rowP l)] (.pv (.tuple #[.int .i64 (nc), .int .i64 0])) 0 [], .f [0] [fldS 0 l, .pv (ratioV fn fd), .pv (ratioV tn td)] [(0, 0, rowP l)] (.pv (.tuple #[.int .i64 (nc), .int .i64 0])) 0 [], .f [4] [fldS 0 l, .pv (ratioV fn fd), .pv (ratioV tn td)] [(0, 0, rowP l)] (.pv (.tuple #[.int .i64 (ns), .int .i64 0])) 0 [], .f [0] [fldS 0 l, .pv (ratioV fn fd), .pv (ratioV tn td)] [(0, 0, rowP l)] (.pv (.tuple #[.int .i64 (ns), .int .i64 0])) 0 [], .f [6,7] [.lq 0 4 0 s.length, .ls 1 s.length] [(0, 0, rowM s), (1, 0, rowM s)] (.pv (.bool true)) 0 [], .k, .t true, .k, .t true, .k, .f [4,0] [fldS 0 l, fldS 1 l] [(0, 0, rowP l), (1, 0, rowP l)] (.pv (.bool true)) 0 []]
     True.intro (And.intro hg (And.intro (Eq.refl (List.map (SV.ren (renU [0] 4)) [fldS 0 l])) (And.intro (reflH (renU [0] 4) [(0, 0, rowP l)]) (And.intro hT (And.intro (Eq.refl (List.map (SV.ren (renU [0] 4)) [fldS 0 l])) (And.intro (reflH (renU [0] 4) [(0, 0, rowP l)]) (And.intro hA (And.intro (Eq.refl (List.map (SV.ren (renU [4] 6)) [fldS 0 l, .pv (ratioV fn fd), .pv (ratioV tn td)])) (And.intro (reflH (renU [4] 6) [(0, 0, rowP l)]) (And.intro hA2 (And.intro (Eq.refl (List.map (SV.ren (renU [0] 7)) [fldS 0 l, .pv (ratioV fn fd), .pv (ratioV tn td)])) (And.intro (reflH (renU [0] 7) [(0, 0, rowP l)]) (And.intro hC (And.intro (Eq.refl (List.map (SV.ren (renU [4] 8)) [fldS 0 l, .pv (ratioV fn fd), .pv (ratioV tn td)])) (And.intro (reflH (renU [4] 8) [(0, 0, rowP l)]) (And.intro hC2 (And.intro (Eq.refl (List.map (SV.ren (renU [0] 8)) [fldS 0 l, .pv (ratioV fn fd), .pv (ratioV tn td)])) (And.intro (reflH (renU [0] 8) [(0, 0, rowP l)]) (And.intro hS (And.intro (Eq.refl (List.map (SV.ren (renU [4] 8)) [fldS 0 l, .pv (ratioV fn fd), .pv (ratioV tn td)])) (And.intro (reflH (renU [4] 8) [(0, 0, rowP l)]) (And.intro hS2 (And.intro (Eq.refl (List.map (SV.ren (renU [0] 8)) [fldS 0 l, .pv (ratioV fn fd), .pv (ratioV tn td)])) (And.intro (reflH (renU [0] 8) [(0, 0, rowP l)]) (And.intro hq (And.intro (Eq.refl (List.map (SV.ren (renU [6,7] 8)) [.lq 0 4 0 s.length, .ls 1 s.length])) (And.intro (reflH (renU [6,7] 8) [(0, 0, rowM s), (1, 0, rowM s)]) (And.intro e1 (And.intro e2 (And.intro hF (And.intro (Eq.refl (List.map (SV.ren (renU [4,0] 8)) [fldS 0 l, fldS 1 l])) (And.intro (reflH (renU [4,0] 8) [(0, 0, rowP l), (1, 0, rowP l)]) True.intro)))))))))))))))))))))))))))))))) (by kernel_rfl)
end Go.Proofs.YtomnmoinahhdmaaGreat
