/-
  Joined: Gd, Gh, Gf, Gj, Ge, Gg. Conditions: none.
-/
import Derived.Test.YtomnmoinahhdmaaGc
import Derived.Test.YtomnmoinahhdmaaW42
import Derived.Test.YtomnmoinahhdmaaW34
import Derived.Shelf.SlSortCmp.NoneTotal
import Derived.Test.YtomnmoinahhdmaaFq
namespace Go.Proofs.Ytomnmoinahhdmaa
open Go.RowKit
set_option maxRecDepth 100000 in
theorem smq_next {s : List Mt} {n k : Nat} {m : Mt} (hk : s[k]? = some m) (hin : 0 ≤ (k : Int) ∧ (k : Int) < (n : Int)) (hlt : decide ((k : Int) < (n : Int)) = true) (he : (!((m.n == m.n && (m.d == m.d && true)) && (m.i == m.i && (m.j == m.j && true)))) = false) (hs : Value.int .i64 (IntKind.i64.wrap ((k : Int) + 1)) = .int .i64 (((k + 1 : Nat) : Int))) {e : Exit} {tm2 : List (Nat × SV)} {hp2 : List (Nat × Nat × SV)}
    (r : RunsL Try.prog 2 2 (loopOf Try.prog 28 0) 26 2 ([(0, .lq 0 4 0 n), (1, .ls 1 n), (5, .pv (.int .i64 ((k + 1 : Nat) : Int)))]) ([(0, 0, .row 36 4 n (msV s)), (1, 0, .row 36 4 n (msV s))]) e tm2 hp2) : RunsL Try.prog 2 2 (loopOf Try.prog 28 0) 26 2 ([(0, .lq 0 4 0 n), (1, .ls 1 n), (5, .pv (.int .i64 (k : Int)))]) ([(0, 0, .row 36 4 n (msV s)), (1, 0, .row 36 4 n (msV s))]) e tm2 hp2 :=
  RunsL.next [] 300 [.t true, .r (meetV m), .r (meetV m), .t false, .r (.int .i64 (((k + 1 : Nat) : Int)))]
    (round_of (And.intro hlt (And.intro hin (And.intro (ra_mt hk) (And.intro hin (And.intro (ra_mt hk) (And.intro he (And.intro hs True.intro))))))) (by kernel_rfl)) r

set_option maxRecDepth 100000 in
theorem smq_end {s : List Mt} {n k : Nat} (hlt : decide ((k : Int) < (n : Int)) = false) : RunsL Try.prog 2 2 (loopOf Try.prog 28 0) 26 2 ([(0, .lq 0 4 0 n), (1, .ls 1 n), (5, .pv (.int .i64 (k : Int)))]) ([(0, 0, .row 36 4 n (msV s)), (1, 0, .row 36 4 n (msV s))]) (.exit 0) ([]) ([]) :=
  RunsL.stop [] 300 [.t false] (fun h => by cases h)
    (round_of (And.intro hlt True.intro) (by kernel_rfl))

set_option maxRecDepth 100000 in
theorem smq_path {s : List Mt} {n : Nat} (hn : (!((n : Int) == (n : Int))) = false) (r0 : RunsL Try.prog 2 2 (loopOf Try.prog 28 0) 26 2 ([(0, .lq 0 4 0 n), (1, .ls 1 n), (5, .pv (.int .i64 ((0 : Nat) : Int)))]) ([(0, 0, .row 36 4 n (msV s)), (1, 0, .row 36 4 n (msV s))]) (.exit 0) ([]) ([])) :
    FnL Try.prog 28 2 [.lq 0 4 0 n, .ls 1 n] [(0, 0, .row 36 4 n (msV s)), (1, 0, .row 36 4 n (msV s))] (.pv (.bool true)) 0 [] :=
  fnl_run 300 [] [.t false, .l (.exit 0) ([(0, .lq 0 4 0 n), (1, .ls 1 n), (5, .pv (.int .i64 ((0 : Nat) : Int)))]) ([(0, 0, .row 36 4 n (msV s)), (1, 0, .row 36 4 n (msV s))]) ([]) ([])]
     True.intro (And.intro hn (And.intro (reflT (renN []) ([(0, .lq 0 4 0 n), (1, .ls 1 n), (5, .pv (.int .i64 ((0 : Nat) : Int)))])) (And.intro (reflH (renN []) ([(0, 0, .row 36 4 n (msV s)), (1, 0, .row 36 4 n (msV s))])) (And.intro r0 True.intro)))) (by kernel_rfl)

theorem Same_lq {s : List Mt} {n : Nat} (hs : s.length = n) (hn : n ≤ 100000) : FnL Try.prog 28 2 [.lq 0 4 0 n, .ls 1 n] [(0, 0, .row 36 4 n (msV s)), (1, 0, .row 36 4 n (msV s))] (.pv (.bool true)) 0 [] := by
  refine smq_path (by simp) (RunsL.rounds (fun k => [(0, .lq 0 4 0 n), (1, .ls 1 n), (5, .pv (.int .i64 (k : Int)))]) (fun _ => [(0, 0, .row 36 4 n (msV s)), (1, 0, .row 36 4 n (msV s))]) n 0 (Nat.zero_add _) (fun k _ hk r => ?_) (smq_end (df (by omega))))
  obtain ⟨m, hm⟩ := get_some (l := s) (k := k) (by omega)
  exact smq_next hm (in_of hk) (dt (by omega)) (by simp) (by rw [wrap_i64_in (by omega) (by omega)]; rfl) r
end Go.Proofs.Ytomnmoinahhdmaa

namespace Go.Proofs.Ytomnmoinahhdmaa
open Go.RowKit
theorem ra_mi {l : List Mt} {k : Nat} {m : Mt} (h : l[k]? = some m) : rowAt (msV l) (0 * 4 + k * 4 + 2) [.int .i64 m.i] := by
  obtain ⟨h1, h2, h3, h4⟩ := msV_get h
  intro j v hj
  match j, hj with
  | 0, hj => cases hj; rw [show 0 * 4 + k * 4 + 2 + 0 = k * 4 + 2 by omega]; exact h3
  | j + 1, hj => simp at hj
theorem ra_mj {l : List Mt} {k : Nat} {m : Mt} (h : l[k]? = some m) : rowAt (msV l) (0 * 4 + k * 4 + 3) [.int .i64 m.j] := by
  obtain ⟨h1, h2, h3, h4⟩ := msV_get h
  intro j v hj
  match j, hj with
  | 0, hj => cases hj; rw [show 0 * 4 + k * 4 + 3 + 0 = k * 4 + 3 by omega]; exact h4
  | j + 1, hj => simp at hj
theorem ra_mat {l : List Mt} {k : Nat} {m : Mt} (h : l[k]? = some m) : rowAt (msV l) (0 * 4 + k * 4) [.int .i64 m.n, .int .i64 m.d] := by
  obtain ⟨h1, h2, h3, h4⟩ := msV_get h
  intro j v hj
  match j, hj with
  | 0, hj => cases hj; rw [show 0 * 4 + k * 4 + 0 = k * 4 by omega]; exact h1
  | 1, hj => cases hj; rw [show 0 * 4 + k * 4 + 1 = k * 4 + 1 by omega]; exact h2
  | j + 2, hj => simp at hj

set_option maxRecDepth 100000 in
theorem ms_no {l : List Pt} {fn fd tn td : Int} (f1 : FnL Try.prog 21 1 [fldS 0 l, .pv (ratioV fn fd), .pv (ratioV tn td)] [(0, 0, rowP l)] (.pv (.bool false)) 0 []) (hal : FnL Try.prog 20 0 [] [] (.pv (.bool true)) 0 []) :
    FnL Try.prog 4 1 [fldS 0 l, .pv (ratioV fn fd), .pv (ratioV tn td)] [(0, 0, rowP l)] (.pv (.bool true)) 0 [] :=
  fnl_run 300 [] [.f [0] [fldS 0 l, .pv (ratioV fn fd), .pv (ratioV tn td)] [(0, 0, rowP l)] (.pv (.bool false)) 0 [], .k, .f [] [] [] (.pv (.bool true)) 0 []]
     True.intro (And.intro f1 (And.intro (Eq.refl (List.map (SV.ren (renU [0] 4)) [fldS 0 l, .pv (ratioV fn fd), .pv (ratioV tn td)])) (And.intro (reflH (renU [0] 4) [(0, 0, rowP l)]) (And.intro hal (And.intro (Eq.refl (List.map (SV.ren (renU [] 4)) [])) (And.intro (reflH (renU [] 4) []) True.intro)))))) (by kernel_rfl)

set_option maxRecDepth 100000 in
theorem ms_first {l : List Pt} {fn fd tn td c1 c2 N D : Int} {s : List Mt} {m : Mt} {p q : Pt} {a b : Nat} {w1 w2 : Bool} (hm : s[0]? = some m) (hin : 0 ≤ ((0 : Nat) : Int) ∧ ((0 : Nat) : Int) < (s.length : Int)) (hlt : decide (((0 : Nat) : Int) < (s.length : Int)) = true) (ha : FnL Try.prog 22 1 [fldS 0 l, .pv (.int .i64 (m.i))] [(0, 0, rowP l)] (.pv (.int .i64 ((a : Int)))) 0 []) (hb : FnL Try.prog 22 1 [fldS 0 l, .pv (.int .i64 (m.j))] [(0, 0, rowP l)] (.pv (.int .i64 ((b : Int)))) 0 []) (h0 : decide ((a : Int) < 0) = false) (h1 : decide ((b : Int) ≤ (a : Int)) = false) (hck : Pure Try.prog 23 #[ratioV m.n m.d] (.int .i64 (0))) (hc1 : Pure Try.prog 24 #[ratioV m.n m.d, ratioV fn fd] (.int .i64 (c1))) (hc1' : decide (c1 ≤ 0) = false) (hc2 : Pure Try.prog 24 #[ratioV m.n m.d, ratioV tn td] (.int .i64 (c2))) (hc2' : decide (c2 > 0) = false) (hp : l[a]? = some p) (hq : l[b]? = some q) (hia : 0 ≤ (a : Int) ∧ (a : Int) < (l.length : Int)) (hib : 0 ≤ (b : Int) ∧ (b : Int) < (l.length : Int)) (hx : Pure Try.prog 26 #[ptV p, ratioV m.n m.d] (.tuple #[ratioV N D, .int .i64 0])) (hy : Pure Try.prog 26 #[ptV q, ratioV m.n m.d] (.tuple #[ratioV N D, .int .i64 0])) (hw1 : Pure Try.prog 27 #[ptV p, ptV q, ratioV fn fd] (.tuple #[.bool w1, .int .i64 0])) (hw2 : Pure Try.prog 27 #[ptV p, ptV q, ratioV tn td] (.tuple #[.bool w2, .int .i64 0])) (hne : (!((N == N && (D == D && true)))) = false) (hw : (w1 == w2) = false) (hs : Value.int .i64 (IntKind.i64.wrap (((0 : Nat) : Int) + 1)) = .int .i64 (((0 + 1 : Nat) : Int))) {e : Exit} {tm2 : List (Nat × SV)} {hp2 : List (Nat × Nat × SV)}
    (r : RunsL Try.prog 1 1 (loopOf Try.prog 4 0) 216 5 ([(3, .pp 1 0), (4, .pp 2 0), (5, .pp 3 0), (7, .lq 4 4 0 s.length), (13, .pv (.int .i64 ((0 + 1 : Nat) : Int)))]) ([(1, 0, .ls 0 l.length), (2, 0, .pv (.int .i64 fn)), (2, 1, .pv (.int .i64 fd)), (3, 0, .pv (.int .i64 tn)), (3, 1, .pv (.int .i64 td)), (0, 0, rowP l), (4, 0, rowM s)]) e tm2 hp2) : RunsL Try.prog 1 1 (loopOf Try.prog 4 0) 216 5 ([(3, .pp 1 0), (4, .pp 2 0), (5, .pp 3 0), (7, .lq 4 4 0 s.length), (13, .pv (.int .i64 ((0 : Nat) : Int)))]) ([(1, 0, .ls 0 l.length), (2, 0, .pv (.int .i64 fn)), (2, 1, .pv (.int .i64 fd)), (3, 0, .pv (.int .i64 tn)), (3, 1, .pv (.int .i64 td)), (0, 0, rowP l), (4, 0, rowM s)]) e tm2 hp2 :=
  RunsL.next [] 300 [.t true, .r (.int .i64 (m.i)), .f [0] [fldS 0 l, .pv (.int .i64 (m.i))] [(0, 0, rowP l)] (.pv (.int .i64 ((a : Int)))) 0 [], .r (.int .i64 (m.j)), .f [0] [fldS 0 l, .pv (.int .i64 (m.j))] [(0, 0, rowP l)] (.pv (.int .i64 ((b : Int)))) 0 [], .t false, .t false, .r (ratioV m.n m.d), .r (.int .i64 (0)), .k, .r (ratioV m.n m.d), .r (.int .i64 (c1)), .t false, .r (ratioV m.n m.d), .r (.int .i64 (c2)), .t false, .k, .r (ptV p), .r (ptV q), .r (ratioV m.n m.d), .r (.tuple #[ratioV N D, .int .i64 0]), .r (ratioV m.n m.d), .r (.tuple #[ratioV N D, .int .i64 0]), .r (.tuple #[.bool w1, .int .i64 0]), .r (.tuple #[.bool w2, .int .i64 0]), .k, .k, .t false, .k, .k, .t false, .r (.int .i64 (((0 + 1 : Nat) : Int)))]
    (round_of (And.intro hlt (And.intro hin (And.intro (ra_mi hm) (And.intro ha (And.intro (Eq.refl (List.map (SV.ren (renU [0] 5)) [fldS 0 l, .pv (.int .i64 (m.i))])) (And.intro (reflH (renU [0] 5) [(0, 0, rowP l)]) (And.intro hin (And.intro (ra_mj hm) (And.intro hb (And.intro (Eq.refl (List.map (SV.ren (renU [0] 5)) [fldS 0 l, .pv (.int .i64 (m.j))])) (And.intro (reflH (renU [0] 5) [(0, 0, rowP l)]) (And.intro h0 (And.intro h1 (And.intro hin (And.intro (ra_mat hm) (And.intro hck (And.intro hin (And.intro (ra_mat hm) (And.intro hc1 (And.intro hc1' (And.intro hin (And.intro (ra_mat hm) (And.intro hc2 (And.intro hc2' (And.intro hia (And.intro (ra_pt hp) (And.intro hib (And.intro (ra_pt hq) (And.intro hin (And.intro (ra_mat hm) (And.intro hx (And.intro hin (And.intro (ra_mat hm) (And.intro hy (And.intro hw1 (And.intro hw2 (And.intro hne (And.intro hw (And.intro hs True.intro))))))))))))))))))))))))))))))))))))))) (by kernel_rfl)) r

set_option maxRecDepth 100000 in
theorem ms_next {l : List Pt} {fn fd tn td c1 c2 N D : Int} {s : List Mt} {m m0 : Mt} {p q : Pt} {k a b : Nat} {w1 w2 : Bool} (hm : s[k + 1]? = some m) (hin : 0 ≤ ((k + 1 : Nat) : Int) ∧ ((k + 1 : Nat) : Int) < (s.length : Int)) (hlt : decide (((k + 1 : Nat) : Int) < (s.length : Int)) = true) (ha : FnL Try.prog 22 1 [fldS 0 l, .pv (.int .i64 (m.i))] [(0, 0, rowP l)] (.pv (.int .i64 ((a : Int)))) 0 []) (hb : FnL Try.prog 22 1 [fldS 0 l, .pv (.int .i64 (m.j))] [(0, 0, rowP l)] (.pv (.int .i64 ((b : Int)))) 0 []) (h0 : decide ((a : Int) < 0) = false) (h1 : decide ((b : Int) ≤ (a : Int)) = false) (hck : Pure Try.prog 23 #[ratioV m.n m.d] (.int .i64 (0))) (hc1 : Pure Try.prog 24 #[ratioV m.n m.d, ratioV fn fd] (.int .i64 (c1))) (hc1' : decide (c1 ≤ 0) = false) (hc2 : Pure Try.prog 24 #[ratioV m.n m.d, ratioV tn td] (.int .i64 (c2))) (hc2' : decide (c2 > 0) = false) (hpos : decide (((k + 1 : Nat) : Int) > 0) = true) (hpre : Value.int .i64 (IntKind.i64.wrap (((k + 1 : Nat) : Int) - 1)) = .int .i64 ((k : Int))) (hm0 : s[k]? = some m0) (hin0 : 0 ≤ (k : Int) ∧ (k : Int) < (s.length : Int)) (hbf : Pure Try.prog 25 #[meetV m0, meetV m] (.bool true)) (hp : l[a]? = some p) (hq : l[b]? = some q) (hia : 0 ≤ (a : Int) ∧ (a : Int) < (l.length : Int)) (hib : 0 ≤ (b : Int) ∧ (b : Int) < (l.length : Int)) (hx : Pure Try.prog 26 #[ptV p, ratioV m.n m.d] (.tuple #[ratioV N D, .int .i64 0])) (hy : Pure Try.prog 26 #[ptV q, ratioV m.n m.d] (.tuple #[ratioV N D, .int .i64 0])) (hw1 : Pure Try.prog 27 #[ptV p, ptV q, ratioV fn fd] (.tuple #[.bool w1, .int .i64 0])) (hw2 : Pure Try.prog 27 #[ptV p, ptV q, ratioV tn td] (.tuple #[.bool w2, .int .i64 0])) (hne : (!((N == N && (D == D && true)))) = false) (hw : (w1 == w2) = false) (hs : Value.int .i64 (IntKind.i64.wrap (((k + 1 : Nat) : Int) + 1)) = .int .i64 (((k + 1 + 1 : Nat) : Int))) {e : Exit} {tm2 : List (Nat × SV)} {hp2 : List (Nat × Nat × SV)}
    (r : RunsL Try.prog 1 1 (loopOf Try.prog 4 0) 216 5 ([(3, .pp 1 0), (4, .pp 2 0), (5, .pp 3 0), (7, .lq 4 4 0 s.length), (13, .pv (.int .i64 ((k + 1 + 1 : Nat) : Int)))]) ([(1, 0, .ls 0 l.length), (2, 0, .pv (.int .i64 fn)), (2, 1, .pv (.int .i64 fd)), (3, 0, .pv (.int .i64 tn)), (3, 1, .pv (.int .i64 td)), (0, 0, rowP l), (4, 0, rowM s)]) e tm2 hp2) : RunsL Try.prog 1 1 (loopOf Try.prog 4 0) 216 5 ([(3, .pp 1 0), (4, .pp 2 0), (5, .pp 3 0), (7, .lq 4 4 0 s.length), (13, .pv (.int .i64 ((k + 1 : Nat) : Int)))]) ([(1, 0, .ls 0 l.length), (2, 0, .pv (.int .i64 fn)), (2, 1, .pv (.int .i64 fd)), (3, 0, .pv (.int .i64 tn)), (3, 1, .pv (.int .i64 td)), (0, 0, rowP l), (4, 0, rowM s)]) e tm2 hp2 :=
  RunsL.next [] 300 [.t true, .r (.int .i64 (m.i)), .f [0] [fldS 0 l, .pv (.int .i64 (m.i))] [(0, 0, rowP l)] (.pv (.int .i64 ((a : Int)))) 0 [], .r (.int .i64 (m.j)), .f [0] [fldS 0 l, .pv (.int .i64 (m.j))] [(0, 0, rowP l)] (.pv (.int .i64 ((b : Int)))) 0 [], .t false, .t false, .r (ratioV m.n m.d), .r (.int .i64 (0)), .k, .r (ratioV m.n m.d), .r (.int .i64 (c1)), .t false, .r (ratioV m.n m.d), .r (.int .i64 (c2)), .t false, .t true, .r (.int .i64 ((k : Int))), .r (meetV m0), .r (meetV m), .r (.bool true), .k, .r (ptV p), .r (ptV q), .r (ratioV m.n m.d), .r (.tuple #[ratioV N D, .int .i64 0]), .r (ratioV m.n m.d), .r (.tuple #[ratioV N D, .int .i64 0]), .r (.tuple #[.bool w1, .int .i64 0]), .r (.tuple #[.bool w2, .int .i64 0]), .k, .k, .t false, .k, .k, .t false, .r (.int .i64 (((k + 1 + 1 : Nat) : Int)))]
    (round_of (And.intro hlt (And.intro hin (And.intro (ra_mi hm) (And.intro ha (And.intro (Eq.refl (List.map (SV.ren (renU [0] 5)) [fldS 0 l, .pv (.int .i64 (m.i))])) (And.intro (reflH (renU [0] 5) [(0, 0, rowP l)]) (And.intro hin (And.intro (ra_mj hm) (And.intro hb (And.intro (Eq.refl (List.map (SV.ren (renU [0] 5)) [fldS 0 l, .pv (.int .i64 (m.j))])) (And.intro (reflH (renU [0] 5) [(0, 0, rowP l)]) (And.intro h0 (And.intro h1 (And.intro hin (And.intro (ra_mat hm) (And.intro hck (And.intro hin (And.intro (ra_mat hm) (And.intro hc1 (And.intro hc1' (And.intro hin (And.intro (ra_mat hm) (And.intro hc2 (And.intro hc2' (And.intro hpos (And.intro hpre (And.intro hin0 (And.intro (ra_mt hm0) (And.intro hin (And.intro (ra_mt hm) (And.intro hbf (And.intro hia (And.intro (ra_pt hp) (And.intro hib (And.intro (ra_pt hq) (And.intro hin (And.intro (ra_mat hm) (And.intro hx (And.intro hin (And.intro (ra_mat hm) (And.intro hy (And.intro hw1 (And.intro hw2 (And.intro hne (And.intro hw (And.intro hs True.intro)))))))))))))))))))))))))))))))))))))))))))))) (by kernel_rfl)) r

set_option maxRecDepth 100000 in
theorem ms_end {l : List Pt} {fn fd tn td : Int} {s : List Mt} {k : Nat} (hge : decide ((k : Int) < (s.length : Int)) = false) : RunsL Try.prog 1 1 (loopOf Try.prog 4 0) 216 5 ([(3, .pp 1 0), (4, .pp 2 0), (5, .pp 3 0), (7, .lq 4 4 0 s.length), (13, .pv (.int .i64 (k : Int)))]) ([(1, 0, .ls 0 l.length), (2, 0, .pv (.int .i64 fn)), (2, 1, .pv (.int .i64 fd)), (3, 0, .pv (.int .i64 tn)), (3, 1, .pv (.int .i64 td)), (0, 0, rowP l), (4, 0, rowM s)]) (.exit 0) ([]) ([]) :=
  RunsL.stop [] 300 [.t false] (fun h => by cases h)
    (round_of (And.intro hge True.intro) (by kernel_rfl))

set_option maxRecDepth 100000 in
theorem ms_yes {l : List Pt} {fn fd tn td : Int} {s : List Mt} (f1 : FnL Try.prog 21 1 [fldS 0 l, .pv (ratioV fn fd), .pv (ratioV tn td)] [(0, 0, rowP l)] (.pv (.bool true)) 0 []) (hA : FnL Try.prog 12 1 [fldS 0 l, .pv (ratioV fn fd), .pv (ratioV tn td)] [(0, 0, rowP l)] (.tu [.one (.lq 1 4 0 s.length), .one (.pv (.int .i64 0))]) 1 [(1, 0, rowM s)]) (hC : FnL Try.prog 14 1 [fldS 0 l, .pv (ratioV fn fd), .pv (ratioV tn td)] [(0, 0, rowP l)] (.pv (.tuple #[.int .i64 (s.length : Int), .int .i64 0])) 0 []) (hS : FnL Try.prog 16 1 [fldS 0 l, .pv (ratioV fn fd), .pv (ratioV tn td)] [(0, 0, rowP l)] (.pv (.tuple #[.int .i64 (s.length : Int), .int .i64 0])) 0 []) (e1 : (!((s.length : Int) == (s.length : Int))) = false) (e2 : (!((s.length : Int) == (s.length : Int))) = false) (r0 : RunsL Try.prog 1 1 (loopOf Try.prog 4 0) 216 5 ([(3, .pp 1 0), (4, .pp 2 0), (5, .pp 3 0), (7, .lq 4 4 0 s.length), (13, .pv (.int .i64 ((0 : Nat) : Int)))]) ([(1, 0, .ls 0 l.length), (2, 0, .pv (.int .i64 fn)), (2, 1, .pv (.int .i64 fd)), (3, 0, .pv (.int .i64 tn)), (3, 1, .pv (.int .i64 td)), (0, 0, rowP l), (4, 0, rowM s)]) (.exit 0) ([]) ([])) (hal : FnL Try.prog 20 0 [] [] (.pv (.bool true)) 0 []) :
    FnL Try.prog 4 1 [fldS 0 l, .pv (ratioV fn fd), .pv (ratioV tn td)] [(0, 0, rowP l)] (.pv (.bool true)) 0 [] :=
  fnl_run 300 [] [.f [0] [fldS 0 l, .pv (ratioV fn fd), .pv (ratioV tn td)] [(0, 0, rowP l)] (.pv (.bool true)) 0 [], .k, .f [0] [fldS 0 l, .pv (ratioV fn fd), .pv (ratioV tn td)] [(0, 0, rowP l)] (.tu [.one (.lq 1 4 0 s.length), .one (.pv (.int .i64 0))]) 1 [(1, 0, rowM s)], .f [0] [fldS 0 l, .pv (ratioV fn fd), .pv (ratioV tn td)] [(0, 0, rowP l)] (.pv (.tuple #[.int .i64 (s.length : Int), .int .i64 0])) 0 [], .f [0] [fldS 0 l, .pv (ratioV fn fd), .pv (ratioV tn td)] [(0, 0, rowP l)] (.pv (.tuple #[.int .i64 (s.length : Int), .int .i64 0])) 0 [], .k, .k, .k, .t false, .t false, .l (.exit 0) ([(3, .pp 1 0), (4, .pp 2 0), (5, .pp 3 0), (7, .lq 4 4 0 s.length), (13, .pv (.int .i64 ((0 : Nat) : Int)))]) ([(1, 0, .ls 0 l.length), (2, 0, .pv (.int .i64 fn)), (2, 1, .pv (.int .i64 fd)), (3, 0, .pv (.int .i64 tn)), (3, 1, .pv (.int .i64 td)), (0, 0, rowP l), (4, 0, rowM s)]) ([]) ([]), .f [] [] [] (.pv (.bool true)) 0 []]
     True.intro (And.intro f1 (And.intro (Eq.refl (List.map (SV.ren (renU [0] 4)) [fldS 0 l, .pv (ratioV fn fd), .pv (ratioV tn td)])) (And.intro (reflH (renU [0] 4) [(0, 0, rowP l)]) (And.intro hA (And.intro (Eq.refl (List.map (SV.ren (renU [0] 4)) [fldS 0 l, .pv (ratioV fn fd), .pv (ratioV tn td)])) (And.intro (reflH (renU [0] 4) [(0, 0, rowP l)]) (And.intro hC (And.intro (Eq.refl (List.map (SV.ren (renU [0] 5)) [fldS 0 l, .pv (ratioV fn fd), .pv (ratioV tn td)])) (And.intro (reflH (renU [0] 5) [(0, 0, rowP l)]) (And.intro hS (And.intro (Eq.refl (List.map (SV.ren (renU [0] 5)) [fldS 0 l, .pv (ratioV fn fd), .pv (ratioV tn td)])) (And.intro (reflH (renU [0] 5) [(0, 0, rowP l)]) (And.intro e1 (And.intro e2 (And.intro (reflT (renN []) ([(3, .pp 1 0), (4, .pp 2 0), (5, .pp 3 0), (7, .lq 4 4 0 s.length), (13, .pv (.int .i64 ((0 : Nat) : Int)))])) (And.intro (reflH (renN []) ([(1, 0, .ls 0 l.length), (2, 0, .pv (.int .i64 fn)), (2, 1, .pv (.int .i64 fd)), (3, 0, .pv (.int .i64 tn)), (3, 1, .pv (.int .i64 td)), (0, 0, rowP l), (4, 0, rowM s)])) (And.intro r0 (And.intro hal (And.intro (Eq.refl (List.map (SV.ren (renU [] 5)) [])) (And.intro (reflH (renU [] 5) []) True.intro)))))))))))))))))))) (by kernel_rfl)
end Go.Proofs.Ytomnmoinahhdmaa

namespace Go.Proofs.Ytomnmoinahhdmaa
open Go.RowKit
instance decI64 (n : Int) : Decidable (I64 n) := by unfold I64; infer_instance
theorem fM_eq {x : Pt × Pt} (h1 : okPt x.1 = true) (h2 : okPt x.2 = true) (hb : x.1.b ≠ x.2.b) {n d : Int} (hk : okB n d = true) (he : n * (x.1.b - x.2.b) = (x.2.a - x.1.a) * d) : fM x = some ⟨n, d, x.1.id, x.2.id⟩ := by
  obtain ⟨m, h, hm⟩ := fM_diff h1 h2 hb
  have e := hm.eq
  have e2 : (m.n * d) * (x.1.b - x.2.b) = (n * m.d) * (x.1.b - x.2.b) := by
    have a1 : (m.n * d) * (x.1.b - x.2.b) = (m.n * (x.1.b - x.2.b)) * d := by rw [Int.mul_assoc, Int.mul_comm d, ← Int.mul_assoc]
    have a2 : (n * m.d) * (x.1.b - x.2.b) = (n * (x.1.b - x.2.b)) * m.d := by rw [Int.mul_assoc, Int.mul_comm m.d, ← Int.mul_assoc]
    rw [a1, a2, e, he, Int.mul_assoc, Int.mul_assoc, Int.mul_comm d]
  have e3 : m.n * d = n * m.d := Int.eq_of_mul_eq_mul_right (by omega) e2
  obtain ⟨e4, e5⟩ := okB_one hm.ok hk (by omega)
  rw [h, ← e4, ← e5, ← hm.i, ← hm.j]
abbrev gl : List Pt := [⟨1, 0, 2⟩, ⟨2, 6, -1⟩, ⟨5, 0, 0⟩]
abbrev gm : List Mt := [⟨2, 1, 1, 2⟩, ⟨0, 1, 1, 5⟩, ⟨6, 1, 2, 5⟩]
abbrev gw : List Mt := [⟨0, 1, 1, 5⟩, ⟨2, 1, 1, 2⟩, ⟨6, 1, 2, 5⟩]
theorem up_of : ∀ {l : List Pt}, (l.zip l.tail).all (fun x => decide (x.1.id < x.2.id)) = true → Up l := by
  intro l h k p q hp hq
  have h2 := List.all_eq_true.1 h (p, q) (by
    refine List.mem_of_getElem? (i := k) ?_
    rw [List.getElem?_zip_eq_some]
    exact ⟨hp, by rw [List.getElem?_tail]; exact hq⟩)
  exact of_decide_eq_true h2
theorem gl_val : Val gl := ⟨by decide, by decide, up_of (by decide)⟩
theorem gl_ms : msOf gl = gm := by
  unfold msOf
  show List.filterMap fM [(⟨1, 0, 2⟩, ⟨2, 6, -1⟩), (⟨1, 0, 2⟩, ⟨5, 0, 0⟩), (⟨2, 6, -1⟩, ⟨5, 0, 0⟩)] = gm
  rw [List.filterMap_cons_some (fM_eq (n := 2) (d := 1) (by decide) (by decide) (by decide) (by decide) (by decide)), List.filterMap_cons_some (fM_eq (n := 0) (d := 1) (by decide) (by decide) (by decide) (by decide) (by decide)),
    List.filterMap_cons_some (fM_eq (n := 6) (d := 1) (by decide) (by decide) (by decide) (by decide) (by decide))]
  rfl
theorem gl_btw : btwS gl (-1) 1 6 1 = gw := by
  unfold btwS srt
  rw [gl_ms]
  rfl
theorem mE_ok0 {l : List Pt} {fn fd tn td : Int} (hv : Val l) (g1 : okB fn fd = true) (g2 : okB tn td = true) (h : fn * td - tn * fd ≤ 0) : mE l fn fd tn td = 0 := by
  unfold mE
  rw [if_pos (err_val.2 hv), if_pos ⟨g1, g2⟩, if_neg (by omega)]
theorem gl_all : FnL Try.prog 12 1 [fldS 0 gl, .pv (ratioV (-1) 1), .pv (ratioV 6 1)] [(0, 0, rowP gl)] (.tu [.one (.lq 1 4 0 3), .one (.pv (.int .i64 0))]) 1 [(1, 0, rowM gw)] := by
  have := All_ok (fn := -1) (fd := 1) (tn := 6) (td := 1) (by decide) (by decide) (by decide) (by decide) gl (mE_ok0 gl_val (by decide) (by decide) (by decide))
  rw [gl_btw] at this
  exact this
theorem gl_count {fn tn : Int} {n : Nat} (h1 : I64 fn) (h3 : I64 tn) (g1 : okB fn 1 = true) (g2 : okB tn 1 = true) (h : fn * 1 - tn * 1 ≤ 0) (hn : ((gm.filter (kpA fn 1)).filter (kpB tn 1)).length = n) :
    FnL Try.prog 14 1 [fldS 0 gl, .pv (ratioV fn 1), .pv (ratioV tn 1)] [(0, 0, rowP gl)] (.pv (.tuple #[.int .i64 (n : Int), .int .i64 0])) 0 [] := by
  have := Count_any h1 (by decide) h3 (by decide) gl (fd := 1) (td := 1)
  unfold countV at this
  rw [if_pos (mE_ok0 gl_val g1 g2 h), show btw gl fn 1 tn 1 = (gm.filter (kpA fn 1)).filter (kpB tn 1) by unfold btw; rw [gl_ms], hn] at this
  exact this
theorem gl_last : FnL Try.prog 18 1 [fldS 0 gl] [(0, 0, rowP gl)] (.pv (.tuple #[ratioV 6 1, .int .i64 0])) 0 [] := by
  have := Last_any gl
  unfold lastV at this
  rw [if_pos (err_val.2 gl_val), gl_ms] at this
  exact this
theorem gl_same : FnL Try.prog 28 2 [.lq 0 4 0 3, .ls 1 3] [(0, 0, rowM gw), (1, 0, rowM gw)] (.pv (.bool true)) 0 [] := Same_lq (s := gw) rfl (by decide)
set_option maxRecDepth 100000 in
theorem Alive4 : FnL Try.prog 20 0 [] [] (.pv (.bool true)) 0 [] :=
  fnl_run 300 [] [.k, .lw, .k, .k, .f [1] [fldS 0 gl, .pv (ratioV (-1) 1), .pv (ratioV 6 1)] [(0, 0, rowP gl)] (.tu [.one (.lq 1 4 0 3), .one (.pv (.int .i64 0))]) 1 [(1, 0, rowM gw)],
      .k, .lw, .k, .k, .f [4] [fldS 0 gl, .pv (ratioV 0 1), .pv (ratioV 5 1)] [(0, 0, rowP gl)] (.pv (.tuple #[.int .i64 1, .int .i64 0])) 0 [],
      .k, .lw, .f [6] [fldS 0 gl] [(0, 0, rowP gl)] (.pv (.tuple #[ratioV 6 1, .int .i64 0])) 0 [], .k, .k, .k, .lw, .k, .f [2, 8] [.lq 0 4 0 3, .ls 1 3] [(0, 0, rowM gw), (1, 0, rowM gw)] (.pv (.bool true)) 0 [], .k, .k, .k, .k, .k]
    True.intro (And.intro gl_all (And.intro (Eq.refl (List.map (SV.ren (renU [1] 2)) [fldS 0 gl, .pv (ratioV (-1) 1), .pv (ratioV 6 1)])) (And.intro (reflH (renU [1] 2) [(0, 0, rowP gl)])
      (And.intro (gl_count (fn := 0) (tn := 5) (n := 1) (by decide) (by decide) (by decide) (by decide) (by decide) (by decide)) (And.intro (Eq.refl (List.map (SV.ren (renU [4] 5)) [fldS 0 gl, .pv (ratioV 0 1), .pv (ratioV 5 1)])) (And.intro (reflH (renU [4] 5) [(0, 0, rowP gl)])
      (And.intro gl_last (And.intro (Eq.refl (List.map (SV.ren (renU [6] 7)) [fldS 0 gl])) (And.intro (reflH (renU [6] 7) [(0, 0, rowP gl)])
      (And.intro gl_same (And.intro (Eq.refl (List.map (SV.ren (renU [2, 8] 9)) [.lq 0 4 0 3, .ls 1 3])) (And.intro (reflH (renU [2, 8] 9) [(0, 0, rowM gw), (1, 0, rowM gw)]) True.intro)))))))))))) (by kernel_rfl)
end Go.Proofs.Ytomnmoinahhdmaa

namespace Go.Proofs.Ytomnmoinahhdmaa
open Go.RowKit
/-- A contract of a field without points, of the field that is nil. -/
theorem pure_nil {f : FuncId} {v : Value} (h : FnL Try.prog f 1 [fldS 0 []] [(0, 0, rowP [])] (.pv v) 0 []) : Pure Try.prog f #[.agg #[.slice none 0 0]] v := by
  intro w
  have hr : Rd w 3 (.slice none 0 0) ([] : List Pt).length (ptsV []) := ⟨rfl, none, 0, rfl, Nat.le_refl _, fun j v hj => by cases hj⟩
  refine (h w (inB (.slice none 0 0)) [.agg #[.slice none 0 0]] (in_rel hr) (in_dom _) ⟨in_fld hr, True.intro⟩).mono fun e W' ⟨v, β', he, _, hx, hh, _⟩ => ?_
  cases hx
  exact ⟨he, hh.gr⟩
abbrev zl : List Pt := List.replicate 65 ⟨0, 0, 0⟩
abbrev sl : List Pt := [⟨1, 4, 3⟩, ⟨2, 4, 3⟩]
theorem zl_err : errL zl = 4 := by unfold errL; rw [if_pos (by decide)]
theorem sl_val : Val sl := ⟨by decide, by decide, up_of (by decide)⟩
theorem nl_val : Val [] := ⟨by decide, by simp, up_of (by decide)⟩
theorem sl_ms : msOf sl = [] := by
  unfold msOf
  show List.filterMap fM [(⟨1, 4, 3⟩, ⟨2, 4, 3⟩)] = []
  rw [List.filterMap_cons_none (fM_same rfl)]
  rfl
theorem mn4_a : FnL Try.prog 12 1 [fldS 0 zl, .pv (ratioV (0) (0)), .pv (ratioV (0) (1))] [(0, 0, rowP zl)] (.pv (.tuple #[.slice none 0 0, .int .i64 4])) 0 [] := by
  have h := All_err (fn := 0) (fd := 0) (tn := 0) (td := 1) (by decide) (by decide) (by decide) (by decide) zl (by rw [(show mE zl (0) (0) (0) (1) = 4 by unfold mE; rw [zl_err]; rfl)]; decide)
  rw [(show mE zl (0) (0) (0) (1) = 4 by unfold mE; rw [zl_err]; rfl)] at h
  exact h
theorem mn4_b : FnL Try.prog 14 1 [fldS 0 gl, .pv (ratioV (0) (1)), .pv (ratioV (0) (0))] [(0, 0, rowP gl)] (.pv (.tuple #[.int .i64 0, .int .i64 8])) 0 [] := by
  have h := Count_any (fn := 0) (fd := 1) (tn := 0) (td := 0) (by decide) (by decide) (by decide) (by decide) gl
  unfold countV at h
  rw [(show mE gl (0) (1) (0) (0) = 8 by unfold mE; rw [if_pos (err_val.2 gl_val), if_neg (by decide)])] at h
  exact h
theorem mn4_c : FnL Try.prog 16 1 [fldS 0 gl, .pv (ratioV (1) (1)), .pv (ratioV (0) (1))] [(0, 0, rowP gl)] (.pv (.tuple #[.int .i64 0, .int .i64 2])) 0 [] := by
  have h := Swaps_any (fn := 1) (fd := 1) (tn := 0) (td := 1) (by decide) (by decide) (by decide) (by decide) gl
  unfold swapsV at h
  rw [(show mE gl (1) (1) (0) (1) = 2 by unfold mE; rw [if_pos (err_val.2 gl_val), if_pos (by decide), if_pos (by decide)])] at h
  exact h
theorem mn4_d : FnL Try.prog 12 1 [fldS 0 gl, .pv (ratioV (1) (1)), .pv (ratioV (1) (2))] [(0, 0, rowP gl)] (.pv (.tuple #[.slice none 0 0, .int .i64 2])) 0 [] := by
  have h := All_err (fn := 1) (fd := 1) (tn := 1) (td := 2) (by decide) (by decide) (by decide) (by decide) gl (by rw [(show mE gl (1) (1) (1) (2) = 2 by unfold mE; rw [if_pos (err_val.2 gl_val), if_pos (by decide), if_pos (by decide)])]; decide)
  rw [(show mE gl (1) (1) (1) (2) = 2 by unfold mE; rw [if_pos (err_val.2 gl_val), if_pos (by decide), if_pos (by decide)])] at h
  exact h
theorem mn4_e : FnL Try.prog 17 1 [fldS 0 gl, .pv (ratioV (2) (4))] [(0, 0, rowP gl)] (.pv (.tuple #[meetV z0, .int .i64 8])) 0 [] := by
  have h := Next_any (fn := 2) (fd := 4) (by decide) (by decide) gl
  unfold nextV at h
  rw [if_pos (err_val.2 gl_val), if_neg (by decide)] at h
  exact h
theorem mn4_f : FnL Try.prog 17 1 [fldS 0 gl, .pv (ratioV (6) (1))] [(0, 0, rowP gl)] (.pv (.tuple #[meetV z0, .int .i64 6])) 0 [] := by
  have h := Next_any (fn := 6) (fd := 1) (by decide) (by decide) gl
  unfold nextV at h
  rw [if_pos (err_val.2 gl_val), if_pos (by decide), gl_ms] at h
  exact h
theorem mn4_g : FnL Try.prog 18 1 [fldS 0 zl] [(0, 0, rowP zl)] (.pv (.tuple #[ratioV 0 0, .int .i64 4])) 0 [] := by
  have h := Last_any zl
  unfold lastV at h
  rw [if_neg (by rw [zl_err]; decide), zl_err] at h
  exact h
theorem mn4_hh : FnL Try.prog 18 1 [fldS 0 []] [(0, 0, rowP [])] (.pv (.tuple #[ratioV 0 0, .int .i64 6])) 0 [] := by
  have h := Last_any []
  unfold lastV at h
  rw [if_pos (err_val.2 nl_val)] at h
  exact h
theorem mn4_h : Pure Try.prog 18 #[.agg #[.slice none 0 0]] (.tuple #[ratioV 0 0, .int .i64 6]) := pure_nil mn4_hh
theorem mn4_i : FnL Try.prog 17 1 [fldS 0 zl, .pv (ratioV (0) (0))] [(0, 0, rowP zl)] (.pv (.tuple #[meetV z0, .int .i64 4])) 0 [] := by
  have h := Next_any (fn := 0) (fd := 0) (by decide) (by decide) zl
  unfold nextV at h
  rw [if_neg (by rw [zl_err]; decide), zl_err] at h
  exact h
theorem mn4_j : FnL Try.prog 12 1 [fldS 0 sl, .pv (ratioV (-1000) (1)), .pv (ratioV (1000) (1))] [(0, 0, rowP sl)] (.pv (.tuple #[.slice none 0 0, .int .i64 0])) 0 [] := All_none (by decide) (by decide) (by decide) (by decide) sl (mE_ok0 sl_val (by decide) (by decide) (by decide)) (by unfold btw; rw [sl_ms]; rfl)
theorem mn4_k : FnL Try.prog 17 1 [fldS 0 sl, .pv (ratioV (-9223372036854775807) (1))] [(0, 0, rowP sl)] (.pv (.tuple #[meetV z0, .int .i64 6])) 0 [] := by
  have h := Next_any (fn := -9223372036854775807) (fd := 1) (by decide) (by decide) sl
  unfold nextV at h
  rw [if_pos (err_val.2 sl_val), if_pos (by decide), sl_ms] at h
  exact h
theorem mn4_l : FnL Try.prog 14 1 [fldS 0 gl, .pv (ratioV (2) (1)), .pv (ratioV (2) (1))] [(0, 0, rowP gl)] (.pv (.tuple #[.int .i64 0, .int .i64 0])) 0 [] := gl_count (n := 0) (by decide) (by decide) (by decide) (by decide) (by decide) (by decide)
theorem mn4_m : FnL Try.prog 17 1 [fldS 0 gl, .pv (ratioV (-9223372036854775807) (1))] [(0, 0, rowP gl)] (.pv (.tuple #[meetV ⟨0, 1, 1, 5⟩, .int .i64 0])) 0 [] := by
  have h := Next_any (fn := -9223372036854775807) (fd := 1) (by decide) (by decide) gl
  unfold nextV at h
  rw [if_pos (err_val.2 gl_val), if_pos (by decide), gl_ms] at h
  exact h
theorem mn4_n : FnL Try.prog 14 1 [fldS 0 gl, .pv (ratioV (-9223372036854775807) (1)), .pv (ratioV (9223372036854775807) (1))] [(0, 0, rowP gl)] (.pv (.tuple #[.int .i64 3, .int .i64 0])) 0 [] := gl_count (n := 3) (by decide) (by decide) (by decide) (by decide) (by decide) (by decide)
set_option maxRecDepth 100000 in
theorem MeetNames_any : FnL Try.prog 3 0 [] [] (.pv (.bool true)) 0 [] :=
  fnl_run 400 [] [.k, .f [0] [fldS 0 zl, .pv (ratioV (0) (0)), .pv (ratioV (0) (1))] [(0, 0, rowP zl)] (.pv (.tuple #[.slice none 0 0, .int .i64 4])) 0 [], .k, .lw, .k, .f [3] [fldS 0 gl, .pv (ratioV (0) (1)), .pv (ratioV (0) (0))] [(0, 0, rowP gl)] (.pv (.tuple #[.int .i64 0, .int .i64 8])) 0 [], .k, .lw, .k, .k, .f [5] [fldS 0 gl, .pv (ratioV (1) (1)), .pv (ratioV (0) (1))] [(0, 0, rowP gl)] (.pv (.tuple #[.int .i64 0, .int .i64 2])) 0 [], .k, .lw, .k, .f [7] [fldS 0 gl, .pv (ratioV (1) (1)), .pv (ratioV (1) (2))] [(0, 0, rowP gl)] (.pv (.tuple #[.slice none 0 0, .int .i64 2])) 0 [], .k, .lw, .f [9] [fldS 0 gl, .pv (ratioV (2) (4))] [(0, 0, rowP gl)] (.pv (.tuple #[meetV z0, .int .i64 8])) 0 [], .k, .lw, .k, .f [12] [fldS 0 gl, .pv (ratioV (6) (1))] [(0, 0, rowP gl)] (.pv (.tuple #[meetV z0, .int .i64 6])) 0 [], .f [0] [fldS 0 zl] [(0, 0, rowP zl)] (.pv (.tuple #[ratioV 0 0, .int .i64 4])) 0 [], .k, .r (.tuple #[ratioV 0 0, .int .i64 6]), .f [0] [fldS 0 zl, .pv (ratioV (0) (0))] [(0, 0, rowP zl)] (.pv (.tuple #[meetV z0, .int .i64 4])) 0 [], .lw, .k, .k, .f [17] [fldS 0 sl, .pv (ratioV (-1000) (1)), .pv (ratioV (1000) (1))] [(0, 0, rowP sl)] (.pv (.tuple #[.slice none 0 0, .int .i64 0])) 0 [], .k, .f [17] [fldS 0 sl, .pv (ratioV (-9223372036854775807) (1))] [(0, 0, rowP sl)] (.pv (.tuple #[meetV z0, .int .i64 6])) 0 [], .k, .lw, .k, .k, .f [21] [fldS 0 gl, .pv (ratioV (2) (1)), .pv (ratioV (2) (1))] [(0, 0, rowP gl)] (.pv (.tuple #[.int .i64 0, .int .i64 0])) 0 [], .k, .lw, .k, .f [23] [fldS 0 gl, .pv (ratioV (-9223372036854775807) (1))] [(0, 0, rowP gl)] (.pv (.tuple #[meetV ⟨0, 1, 1, 5⟩, .int .i64 0])) 0 [], .k, .lw, .k, .k, .f [26] [fldS 0 gl, .pv (ratioV (-9223372036854775807) (1)), .pv (ratioV (9223372036854775807) (1))] [(0, 0, rowP gl)] (.pv (.tuple #[.int .i64 3, .int .i64 0])) 0 [], .k, .k, .k, .k, .k, .k, .k, .k, .k, .k, .k, .k, .k, .k, .k, .k, .k, .k, .k, .f [] [] [] (.pv (.bool true)) 0 []]
    True.intro (And.intro (show (0 : Int) ≤ 65 by decide) (And.intro (Eq.refl (65 : Int)) (And.intro (show (65 : Int) ≤ 1000000 by decide) (And.intro mn4_a (And.intro (Eq.refl (List.map (SV.ren (renU [0] 2)) [fldS 0 zl, .pv (ratioV (0) (0)), .pv (ratioV (0) (1))])) (And.intro (reflH (renU [0] 2) [(0, 0, rowP zl)]) (And.intro mn4_b (And.intro (Eq.refl (List.map (SV.ren (renU [3] 4)) [fldS 0 gl, .pv (ratioV (0) (1)), .pv (ratioV (0) (0))])) (And.intro (reflH (renU [3] 4) [(0, 0, rowP gl)]) (And.intro mn4_c (And.intro (Eq.refl (List.map (SV.ren (renU [5] 6)) [fldS 0 gl, .pv (ratioV (1) (1)), .pv (ratioV (0) (1))])) (And.intro (reflH (renU [5] 6) [(0, 0, rowP gl)]) (And.intro mn4_d (And.intro (Eq.refl (List.map (SV.ren (renU [7] 8)) [fldS 0 gl, .pv (ratioV (1) (1)), .pv (ratioV (1) (2))])) (And.intro (reflH (renU [7] 8) [(0, 0, rowP gl)]) (And.intro mn4_e (And.intro (Eq.refl (List.map (SV.ren (renU [9] 10)) [fldS 0 gl, .pv (ratioV (2) (4))])) (And.intro (reflH (renU [9] 10) [(0, 0, rowP gl)]) (And.intro mn4_f (And.intro (Eq.refl (List.map (SV.ren (renU [12] 13)) [fldS 0 gl, .pv (ratioV (6) (1))])) (And.intro (reflH (renU [12] 13) [(0, 0, rowP gl)]) (And.intro mn4_g (And.intro (Eq.refl (List.map (SV.ren (renU [0] 14)) [fldS 0 zl])) (And.intro (reflH (renU [0] 14) [(0, 0, rowP zl)]) (And.intro mn4_h (And.intro mn4_i (And.intro (Eq.refl (List.map (SV.ren (renU [0] 16)) [fldS 0 zl, .pv (ratioV (0) (0))])) (And.intro (reflH (renU [0] 16) [(0, 0, rowP zl)]) (And.intro mn4_j (And.intro (Eq.refl (List.map (SV.ren (renU [17] 19)) [fldS 0 sl, .pv (ratioV (-1000) (1)), .pv (ratioV (1000) (1))])) (And.intro (reflH (renU [17] 19) [(0, 0, rowP sl)]) (And.intro mn4_k (And.intro (Eq.refl (List.map (SV.ren (renU [17] 19)) [fldS 0 sl, .pv (ratioV (-9223372036854775807) (1))])) (And.intro (reflH (renU [17] 19) [(0, 0, rowP sl)]) (And.intro mn4_l (And.intro (Eq.refl (List.map (SV.ren (renU [21] 22)) [fldS 0 gl, .pv (ratioV (2) (1)), .pv (ratioV (2) (1))])) (And.intro (reflH (renU [21] 22) [(0, 0, rowP gl)]) (And.intro mn4_m (And.intro (Eq.refl (List.map (SV.ren (renU [23] 24)) [fldS 0 gl, .pv (ratioV (-9223372036854775807) (1))])) (And.intro (reflH (renU [23] 24) [(0, 0, rowP gl)]) (And.intro mn4_n (And.intro (Eq.refl (List.map (SV.ren (renU [26] 27)) [fldS 0 gl, .pv (ratioV (-9223372036854775807) (1)), .pv (ratioV (9223372036854775807) (1))])) (And.intro (reflH (renU [26] 27) [(0, 0, rowP gl)]) (And.intro Alive4 (And.intro (Eq.refl (List.map (SV.ren (renU [] 27)) [])) (And.intro (reflH (renU [] 27) []) True.intro)))))))))))))))))))))))))))))))))))))))))))))) (by kernel_rfl)
theorem names4_walk (W : World) : Calls Try.prog 3 #[] W fun e W' => e = .returned (.bool true) ∧ Gr W W' := by
  have H0 : HRel W 0 (boxesL []) [] W := boxes_rel (rs := []) (by simp) (by simp) trivial
  exact (MeetNames_any W (boxesL []) [] H0 (boxesL_dom []) trivial).mono fun e w' ⟨v, β', he, _, hx, hh, _⟩ => ⟨by rw [he, show v = _ from hx], hh.gr⟩
end Go.Proofs.Ytomnmoinahhdmaa

namespace Go.Proofs.Ytomnmoinahhdmaa
open Go.RowKit
set_option maxRecDepth 100000 in
theorem mp_no1 {l : List Pt} {fn fd mn md tn td : Int} (f1 : FnL Try.prog 21 1 [fldS 0 l, .pv (ratioV fn fd), .pv (ratioV mn md)] [(0, 0, rowP l)] (.pv (.bool false)) 0 []) (hal : FnL Try.prog 20 0 [] [] (.pv (.bool true)) 0 []) :
    FnL Try.prog 5 1 [fldS 0 l, .pv (ratioV fn fd), .pv (ratioV mn md), .pv (ratioV tn td)] [(0, 0, rowP l)] (.pv (.bool true)) 0 [] :=
  fnl_run 300 [] [.f [0] [fldS 0 l, .pv (ratioV fn fd), .pv (ratioV mn md)] [(0, 0, rowP l)] (.pv (.bool false)) 0 [], .k, .f [] [] [] (.pv (.bool true)) 0 []]
     True.intro (And.intro f1 (And.intro (Eq.refl (List.map (SV.ren (renU [0] 5)) [fldS 0 l, .pv (ratioV fn fd), .pv (ratioV mn md)])) (And.intro (reflH (renU [0] 5) [(0, 0, rowP l)]) (And.intro hal (And.intro (Eq.refl (List.map (SV.ren (renU [] 5)) [])) (And.intro (reflH (renU [] 5) []) True.intro)))))) (by kernel_rfl)

set_option maxRecDepth 100000 in
theorem mp_no2 {l : List Pt} {fn fd mn md tn td : Int} (f1 : FnL Try.prog 21 1 [fldS 0 l, .pv (ratioV fn fd), .pv (ratioV mn md)] [(0, 0, rowP l)] (.pv (.bool true)) 0 []) (f2 : FnL Try.prog 21 1 [fldS 0 l, .pv (ratioV mn md), .pv (ratioV tn td)] [(0, 0, rowP l)] (.pv (.bool false)) 0 []) (hal : FnL Try.prog 20 0 [] [] (.pv (.bool true)) 0 []) :
    FnL Try.prog 5 1 [fldS 0 l, .pv (ratioV fn fd), .pv (ratioV mn md), .pv (ratioV tn td)] [(0, 0, rowP l)] (.pv (.bool true)) 0 [] :=
  fnl_run 300 [] [.f [0] [fldS 0 l, .pv (ratioV fn fd), .pv (ratioV mn md)] [(0, 0, rowP l)] (.pv (.bool true)) 0 [], .k, .f [0] [fldS 0 l, .pv (ratioV mn md), .pv (ratioV tn td)] [(0, 0, rowP l)] (.pv (.bool false)) 0 [], .k, .f [] [] [] (.pv (.bool true)) 0 []]
     True.intro (And.intro f1 (And.intro (Eq.refl (List.map (SV.ren (renU [0] 5)) [fldS 0 l, .pv (ratioV fn fd), .pv (ratioV mn md)])) (And.intro (reflH (renU [0] 5) [(0, 0, rowP l)]) (And.intro f2 (And.intro (Eq.refl (List.map (SV.ren (renU [0] 5)) [fldS 0 l, .pv (ratioV mn md), .pv (ratioV tn td)])) (And.intro (reflH (renU [0] 5) [(0, 0, rowP l)]) (And.intro hal (And.intro (Eq.refl (List.map (SV.ren (renU [] 5)) [])) (And.intro (reflH (renU [] 5) []) True.intro))))))))) (by kernel_rfl)

theorem ra_mt0 {l : List Mt} {m : Mt} (h : l[0]? = some m) : rowAt (msV l) (0 * 4 + 0 * 4) (mcV m) := ra_mt h
theorem take_ms (a : List Mt) : ((msV a).drop (0 * 4)).take (a.length * 4) = msV a := by rw [Nat.zero_mul, List.drop_zero, ← msV_length, List.take_length]

set_option maxRecDepth 100000 in
theorem mp_hit {l : List Pt} {fn fd mn md tn td : Int} {a b : List Mt} {m : Mt} (f1 : FnL Try.prog 21 1 [fldS 0 l, .pv (ratioV fn fd), .pv (ratioV mn md)] [(0, 0, rowP l)] (.pv (.bool true)) 0 []) (f2 : FnL Try.prog 21 1 [fldS 0 l, .pv (ratioV mn md), .pv (ratioV tn td)] [(0, 0, rowP l)] (.pv (.bool true)) 0 []) (h1 : FnL Try.prog 12 1 [fldS 0 l, .pv (ratioV fn fd), .pv (ratioV mn md)] [(0, 0, rowP l)] (.tu [.one (.lq 1 4 0 (a).length), .one (.pv (.int .i64 0))]) 1 [(1, 0, rowM (a))]) (h2 : FnL Try.prog 12 1 [fldS 0 l, .pv (ratioV mn md), .pv (ratioV tn td)] [(0, 0, rowP l)] (.tu [.one (.lq 1 4 0 (b).length), .one (.pv (.int .i64 0))]) 1 [(1, 0, rowM (b))]) (h3 : FnL Try.prog 12 1 [fldS 0 l, .pv (ratioV fn fd), .pv (ratioV tn td)] [(0, 0, rowP l)] (.tu [.one (.lq 1 4 0 (a ++ b).length), .one (.pv (.int .i64 0))]) 1 [(1, 0, rowM (a ++ b))]) (hl1 : 0 + a.length ≤ 1000000) (hl2 : 0 + a.length + b.length ≤ 1000000) (hs : FnL Try.prog 28 2 [.lq 0 4 0 (a ++ b).length, .ls 1 (0 + a.length + b.length)] [(0, 0, rowM (a ++ b)), (1, 0, .row 36 4 (0 + a.length + b.length) ([] ++ ((msV a).drop (0 * 4)).take (a.length * 4) ++ ((msV b).drop (0 * 4)).take (b.length * 4)))] (.pv (.bool true)) 0 []) (hn : FnL Try.prog 17 1 [fldS 0 l, .pv (ratioV fn fd)] [(0, 0, rowP l)] (.pv (.tuple #[meetV m, .int .i64 0])) 0 []) (hz : (((a ++ b).length : Int) == 0) = false) (hk : (a ++ b)[0]? = some m) (hin : 0 ≤ (0 : Int) ∧ (0 : Int) < ((a ++ b).length : Int)) (he : ((m.n == m.n && (m.d == m.d && true)) && (m.i == m.i && (m.j == m.j && true))) = true) (hal : FnL Try.prog 20 0 [] [] (.pv (.bool true)) 0 []) :
    FnL Try.prog 5 1 [fldS 0 l, .pv (ratioV fn fd), .pv (ratioV mn md), .pv (ratioV tn td)] [(0, 0, rowP l)] (.pv (.bool true)) 0 [] :=
  fnl_run 300 [] [.f [0] [fldS 0 l, .pv (ratioV fn fd), .pv (ratioV mn md)] [(0, 0, rowP l)] (.pv (.bool true)) 0 [], .k, .f [0] [fldS 0 l, .pv (ratioV mn md), .pv (ratioV tn td)] [(0, 0, rowP l)] (.pv (.bool true)) 0 [], .k, .f [0] [fldS 0 l, .pv (ratioV fn fd), .pv (ratioV mn md)] [(0, 0, rowP l)] (.tu [.one (.lq 1 4 0 (a).length), .one (.pv (.int .i64 0))]) 1 [(1, 0, rowM (a))], .f [0] [fldS 0 l, .pv (ratioV mn md), .pv (ratioV tn td)] [(0, 0, rowP l)] (.tu [.one (.lq 1 4 0 (b).length), .one (.pv (.int .i64 0))]) 1 [(1, 0, rowM (b))], .f [0] [fldS 0 l, .pv (ratioV fn fd), .pv (ratioV tn td)] [(0, 0, rowP l)] (.tu [.one (.lq 1 4 0 (a ++ b).length), .one (.pv (.int .i64 0))]) 1 [(1, 0, rowM (a ++ b))], .k, .k, .k, .f [7,10] [.lq 0 4 0 (a ++ b).length, .ls 1 (0 + a.length + b.length)] [(0, 0, rowM (a ++ b)), (1, 0, .row 36 4 (0 + a.length + b.length) ([] ++ ((msV a).drop (0 * 4)).take (a.length * 4) ++ ((msV b).drop (0 * 4)).take (b.length * 4)))] (.pv (.bool true)) 0 [], .k, .f [0] [fldS 0 l, .pv (ratioV fn fd)] [(0, 0, rowP l)] (.pv (.tuple #[meetV m, .int .i64 0])) 0 [], .t false, .k, .r (meetV m), .t true, .f [] [] [] (.pv (.bool true)) 0 []]
     True.intro (And.intro f1 (And.intro (Eq.refl (List.map (SV.ren (renU [0] 5)) [fldS 0 l, .pv (ratioV fn fd), .pv (ratioV mn md)])) (And.intro (reflH (renU [0] 5) [(0, 0, rowP l)]) (And.intro f2 (And.intro (Eq.refl (List.map (SV.ren (renU [0] 5)) [fldS 0 l, .pv (ratioV mn md), .pv (ratioV tn td)])) (And.intro (reflH (renU [0] 5) [(0, 0, rowP l)]) (And.intro h1 (And.intro (Eq.refl (List.map (SV.ren (renU [0] 5)) [fldS 0 l, .pv (ratioV fn fd), .pv (ratioV mn md)])) (And.intro (reflH (renU [0] 5) [(0, 0, rowP l)]) (And.intro h2 (And.intro (Eq.refl (List.map (SV.ren (renU [0] 6)) [fldS 0 l, .pv (ratioV mn md), .pv (ratioV tn td)])) (And.intro (reflH (renU [0] 6) [(0, 0, rowP l)]) (And.intro h3 (And.intro (Eq.refl (List.map (SV.ren (renU [0] 7)) [fldS 0 l, .pv (ratioV fn fd), .pv (ratioV tn td)])) (And.intro (reflH (renU [0] 7) [(0, 0, rowP l)]) (And.intro hl1 (And.intro hl2 (And.intro hs (And.intro (Eq.refl (List.map (SV.ren (renU [7,10] 11)) [.lq 0 4 0 (a ++ b).length, .ls 1 (0 + a.length + b.length)])) (And.intro (reflH (renU [7,10] 11) [(0, 0, rowM (a ++ b)), (1, 0, .row 36 4 (0 + a.length + b.length) ([] ++ ((msV a).drop (0 * 4)).take (a.length * 4) ++ ((msV b).drop (0 * 4)).take (b.length * 4)))]) (And.intro hn (And.intro (Eq.refl (List.map (SV.ren (renU [0] 11)) [fldS 0 l, .pv (ratioV fn fd)])) (And.intro (reflH (renU [0] 11) [(0, 0, rowP l)]) (And.intro hz (And.intro hin (And.intro (ra_mt0 hk) (And.intro he (And.intro hal (And.intro (Eq.refl (List.map (SV.ren (renU [] 12)) [])) (And.intro (reflH (renU [] 12) []) True.intro)))))))))))))))))))))))))))))) (by kernel_rfl)

set_option maxRecDepth 100000 in
theorem mp_none {l : List Pt} {fn fd mn md tn td : Int} {a b : List Mt} {m : Mt} (f1 : FnL Try.prog 21 1 [fldS 0 l, .pv (ratioV fn fd), .pv (ratioV mn md)] [(0, 0, rowP l)] (.pv (.bool true)) 0 []) (f2 : FnL Try.prog 21 1 [fldS 0 l, .pv (ratioV mn md), .pv (ratioV tn td)] [(0, 0, rowP l)] (.pv (.bool true)) 0 []) (h1 : FnL Try.prog 12 1 [fldS 0 l, .pv (ratioV fn fd), .pv (ratioV mn md)] [(0, 0, rowP l)] (.tu [.one (.lq 1 4 0 (a).length), .one (.pv (.int .i64 0))]) 1 [(1, 0, rowM (a))]) (h2 : FnL Try.prog 12 1 [fldS 0 l, .pv (ratioV mn md), .pv (ratioV tn td)] [(0, 0, rowP l)] (.tu [.one (.lq 1 4 0 (b).length), .one (.pv (.int .i64 0))]) 1 [(1, 0, rowM (b))]) (h3 : FnL Try.prog 12 1 [fldS 0 l, .pv (ratioV fn fd), .pv (ratioV tn td)] [(0, 0, rowP l)] (.tu [.one (.lq 1 4 0 (a ++ b).length), .one (.pv (.int .i64 0))]) 1 [(1, 0, rowM (a ++ b))]) (hl1 : 0 + a.length ≤ 1000000) (hl2 : 0 + a.length + b.length ≤ 1000000) (hs : FnL Try.prog 28 2 [.lq 0 4 0 (a ++ b).length, .ls 1 (0 + a.length + b.length)] [(0, 0, rowM (a ++ b)), (1, 0, .row 36 4 (0 + a.length + b.length) ([] ++ ((msV a).drop (0 * 4)).take (a.length * 4) ++ ((msV b).drop (0 * 4)).take (b.length * 4)))] (.pv (.bool true)) 0 []) (hn : FnL Try.prog 17 1 [fldS 0 l, .pv (ratioV fn fd)] [(0, 0, rowP l)] (.pv (.tuple #[meetV m, .int .i64 6])) 0 []) (hz : (((a ++ b).length : Int) == 0) = true) (hal : FnL Try.prog 20 0 [] [] (.pv (.bool true)) 0 []) :
    FnL Try.prog 5 1 [fldS 0 l, .pv (ratioV fn fd), .pv (ratioV mn md), .pv (ratioV tn td)] [(0, 0, rowP l)] (.pv (.bool true)) 0 [] :=
  fnl_run 300 [] [.f [0] [fldS 0 l, .pv (ratioV fn fd), .pv (ratioV mn md)] [(0, 0, rowP l)] (.pv (.bool true)) 0 [], .k, .f [0] [fldS 0 l, .pv (ratioV mn md), .pv (ratioV tn td)] [(0, 0, rowP l)] (.pv (.bool true)) 0 [], .k, .f [0] [fldS 0 l, .pv (ratioV fn fd), .pv (ratioV mn md)] [(0, 0, rowP l)] (.tu [.one (.lq 1 4 0 (a).length), .one (.pv (.int .i64 0))]) 1 [(1, 0, rowM (a))], .f [0] [fldS 0 l, .pv (ratioV mn md), .pv (ratioV tn td)] [(0, 0, rowP l)] (.tu [.one (.lq 1 4 0 (b).length), .one (.pv (.int .i64 0))]) 1 [(1, 0, rowM (b))], .f [0] [fldS 0 l, .pv (ratioV fn fd), .pv (ratioV tn td)] [(0, 0, rowP l)] (.tu [.one (.lq 1 4 0 (a ++ b).length), .one (.pv (.int .i64 0))]) 1 [(1, 0, rowM (a ++ b))], .k, .k, .k, .f [7,10] [.lq 0 4 0 (a ++ b).length, .ls 1 (0 + a.length + b.length)] [(0, 0, rowM (a ++ b)), (1, 0, .row 36 4 (0 + a.length + b.length) ([] ++ ((msV a).drop (0 * 4)).take (a.length * 4) ++ ((msV b).drop (0 * 4)).take (b.length * 4)))] (.pv (.bool true)) 0 [], .k, .f [0] [fldS 0 l, .pv (ratioV fn fd)] [(0, 0, rowP l)] (.pv (.tuple #[meetV m, .int .i64 6])) 0 [], .t true, .k, .f [] [] [] (.pv (.bool true)) 0 []]
     True.intro (And.intro f1 (And.intro (Eq.refl (List.map (SV.ren (renU [0] 5)) [fldS 0 l, .pv (ratioV fn fd), .pv (ratioV mn md)])) (And.intro (reflH (renU [0] 5) [(0, 0, rowP l)]) (And.intro f2 (And.intro (Eq.refl (List.map (SV.ren (renU [0] 5)) [fldS 0 l, .pv (ratioV mn md), .pv (ratioV tn td)])) (And.intro (reflH (renU [0] 5) [(0, 0, rowP l)]) (And.intro h1 (And.intro (Eq.refl (List.map (SV.ren (renU [0] 5)) [fldS 0 l, .pv (ratioV fn fd), .pv (ratioV mn md)])) (And.intro (reflH (renU [0] 5) [(0, 0, rowP l)]) (And.intro h2 (And.intro (Eq.refl (List.map (SV.ren (renU [0] 6)) [fldS 0 l, .pv (ratioV mn md), .pv (ratioV tn td)])) (And.intro (reflH (renU [0] 6) [(0, 0, rowP l)]) (And.intro h3 (And.intro (Eq.refl (List.map (SV.ren (renU [0] 7)) [fldS 0 l, .pv (ratioV fn fd), .pv (ratioV tn td)])) (And.intro (reflH (renU [0] 7) [(0, 0, rowP l)]) (And.intro hl1 (And.intro hl2 (And.intro hs (And.intro (Eq.refl (List.map (SV.ren (renU [7,10] 11)) [.lq 0 4 0 (a ++ b).length, .ls 1 (0 + a.length + b.length)])) (And.intro (reflH (renU [7,10] 11) [(0, 0, rowM (a ++ b)), (1, 0, .row 36 4 (0 + a.length + b.length) ([] ++ ((msV a).drop (0 * 4)).take (a.length * 4) ++ ((msV b).drop (0 * 4)).take (b.length * 4)))]) (And.intro hn (And.intro (Eq.refl (List.map (SV.ren (renU [0] 11)) [fldS 0 l, .pv (ratioV fn fd)])) (And.intro (reflH (renU [0] 11) [(0, 0, rowP l)]) (And.intro hz (And.intro hal (And.intro (Eq.refl (List.map (SV.ren (renU [] 12)) [])) (And.intro (reflH (renU [] 12) []) True.intro))))))))))))))))))))))))))) (by kernel_rfl)

set_option maxRecDepth 100000 in
theorem mp_later {l : List Pt} {fn fd mn md tn td c : Int} {a b : List Mt} {m : Mt} (f1 : FnL Try.prog 21 1 [fldS 0 l, .pv (ratioV fn fd), .pv (ratioV mn md)] [(0, 0, rowP l)] (.pv (.bool true)) 0 []) (f2 : FnL Try.prog 21 1 [fldS 0 l, .pv (ratioV mn md), .pv (ratioV tn td)] [(0, 0, rowP l)] (.pv (.bool true)) 0 []) (h1 : FnL Try.prog 12 1 [fldS 0 l, .pv (ratioV fn fd), .pv (ratioV mn md)] [(0, 0, rowP l)] (.tu [.one (.lq 1 4 0 (a).length), .one (.pv (.int .i64 0))]) 1 [(1, 0, rowM (a))]) (h2 : FnL Try.prog 12 1 [fldS 0 l, .pv (ratioV mn md), .pv (ratioV tn td)] [(0, 0, rowP l)] (.tu [.one (.lq 1 4 0 (b).length), .one (.pv (.int .i64 0))]) 1 [(1, 0, rowM (b))]) (h3 : FnL Try.prog 12 1 [fldS 0 l, .pv (ratioV fn fd), .pv (ratioV tn td)] [(0, 0, rowP l)] (.tu [.one (.lq 1 4 0 (a ++ b).length), .one (.pv (.int .i64 0))]) 1 [(1, 0, rowM (a ++ b))]) (hl1 : 0 + a.length ≤ 1000000) (hl2 : 0 + a.length + b.length ≤ 1000000) (hs : FnL Try.prog 28 2 [.lq 0 4 0 (a ++ b).length, .ls 1 (0 + a.length + b.length)] [(0, 0, rowM (a ++ b)), (1, 0, .row 36 4 (0 + a.length + b.length) ([] ++ ((msV a).drop (0 * 4)).take (a.length * 4) ++ ((msV b).drop (0 * 4)).take (b.length * 4)))] (.pv (.bool true)) 0 []) (hn : FnL Try.prog 17 1 [fldS 0 l, .pv (ratioV fn fd)] [(0, 0, rowP l)] (.pv (.tuple #[meetV m, .int .i64 0])) 0 []) (hz : (((a ++ b).length : Int) == 0) = true) (hck : Pure Try.prog 23 #[ratioV m.n m.d] (.int .i64 (0))) (hcm : Pure Try.prog 24 #[ratioV m.n m.d, ratioV tn td] (.int .i64 (c))) (hg : decide (c > 0) = true) (hal : FnL Try.prog 20 0 [] [] (.pv (.bool true)) 0 []) :
    FnL Try.prog 5 1 [fldS 0 l, .pv (ratioV fn fd), .pv (ratioV mn md), .pv (ratioV tn td)] [(0, 0, rowP l)] (.pv (.bool true)) 0 [] :=
  fnl_run 300 [] [.f [0] [fldS 0 l, .pv (ratioV fn fd), .pv (ratioV mn md)] [(0, 0, rowP l)] (.pv (.bool true)) 0 [], .k, .f [0] [fldS 0 l, .pv (ratioV mn md), .pv (ratioV tn td)] [(0, 0, rowP l)] (.pv (.bool true)) 0 [], .k, .f [0] [fldS 0 l, .pv (ratioV fn fd), .pv (ratioV mn md)] [(0, 0, rowP l)] (.tu [.one (.lq 1 4 0 (a).length), .one (.pv (.int .i64 0))]) 1 [(1, 0, rowM (a))], .f [0] [fldS 0 l, .pv (ratioV mn md), .pv (ratioV tn td)] [(0, 0, rowP l)] (.tu [.one (.lq 1 4 0 (b).length), .one (.pv (.int .i64 0))]) 1 [(1, 0, rowM (b))], .f [0] [fldS 0 l, .pv (ratioV fn fd), .pv (ratioV tn td)] [(0, 0, rowP l)] (.tu [.one (.lq 1 4 0 (a ++ b).length), .one (.pv (.int .i64 0))]) 1 [(1, 0, rowM (a ++ b))], .k, .k, .k, .f [7,10] [.lq 0 4 0 (a ++ b).length, .ls 1 (0 + a.length + b.length)] [(0, 0, rowM (a ++ b)), (1, 0, .row 36 4 (0 + a.length + b.length) ([] ++ ((msV a).drop (0 * 4)).take (a.length * 4) ++ ((msV b).drop (0 * 4)).take (b.length * 4)))] (.pv (.bool true)) 0 [], .k, .f [0] [fldS 0 l, .pv (ratioV fn fd)] [(0, 0, rowP l)] (.pv (.tuple #[meetV m, .int .i64 0])) 0 [], .t true, .k, .k, .r (.int .i64 (0)), .k, .r (.int .i64 (c)), .t true, .f [] [] [] (.pv (.bool true)) 0 []]
     True.intro (And.intro f1 (And.intro (Eq.refl (List.map (SV.ren (renU [0] 5)) [fldS 0 l, .pv (ratioV fn fd), .pv (ratioV mn md)])) (And.intro (reflH (renU [0] 5) [(0, 0, rowP l)]) (And.intro f2 (And.intro (Eq.refl (List.map (SV.ren (renU [0] 5)) [fldS 0 l, .pv (ratioV mn md), .pv (ratioV tn td)])) (And.intro (reflH (renU [0] 5) [(0, 0, rowP l)]) (And.intro h1 (And.intro (Eq.refl (List.map (SV.ren (renU [0] 5)) [fldS 0 l, .pv (ratioV fn fd), .pv (ratioV mn md)])) (And.intro (reflH (renU [0] 5) [(0, 0, rowP l)]) (And.intro h2 (And.intro (Eq.refl (List.map (SV.ren (renU [0] 6)) [fldS 0 l, .pv (ratioV mn md), .pv (ratioV tn td)])) (And.intro (reflH (renU [0] 6) [(0, 0, rowP l)]) (And.intro h3 (And.intro (Eq.refl (List.map (SV.ren (renU [0] 7)) [fldS 0 l, .pv (ratioV fn fd), .pv (ratioV tn td)])) (And.intro (reflH (renU [0] 7) [(0, 0, rowP l)]) (And.intro hl1 (And.intro hl2 (And.intro hs (And.intro (Eq.refl (List.map (SV.ren (renU [7,10] 11)) [.lq 0 4 0 (a ++ b).length, .ls 1 (0 + a.length + b.length)])) (And.intro (reflH (renU [7,10] 11) [(0, 0, rowM (a ++ b)), (1, 0, .row 36 4 (0 + a.length + b.length) ([] ++ ((msV a).drop (0 * 4)).take (a.length * 4) ++ ((msV b).drop (0 * 4)).take (b.length * 4)))]) (And.intro hn (And.intro (Eq.refl (List.map (SV.ren (renU [0] 11)) [fldS 0 l, .pv (ratioV fn fd)])) (And.intro (reflH (renU [0] 11) [(0, 0, rowP l)]) (And.intro hz (And.intro hck (And.intro hcm (And.intro hg (And.intro hal (And.intro (Eq.refl (List.map (SV.ren (renU [] 12)) [])) (And.intro (reflH (renU [] 12) []) True.intro)))))))))))))))))))))))))))))) (by kernel_rfl)
theorem mE_zero {l : List Pt} {fn fd tn td : Int} (hv : Val l) (g1 : okB fn fd = true) (g2 : okB tn td = true) (h : ¬ fn * td - tn * fd > 0) : mE l fn fd tn td = 0 := by
  unfold mE
  rw [if_pos (err_val.2 hv), if_pos ⟨g1, g2⟩, if_neg h]
theorem Parts_law (hal : FnL Try.prog 20 0 [] [] (.pv (.bool true)) 0 []) {fn fd mn md tn td : Int} (h1 : I64 fn) (h2 : I64 fd) (h3 : I64 mn) (h4 : I64 md) (h5 : I64 tn) (h6 : I64 td) (l : List Pt) :
    FnL Try.prog 5 1 [fldS 0 l, .pv (ratioV fn fd), .pv (ratioV mn md), .pv (ratioV tn td)] [(0, 0, rowP l)] (.pv (.bool true)) 0 [] := by
  obtain ⟨b1, f1, k1⟩ := Fit_any h1 h2 h3 h4 l
  obtain ⟨b2, f2, k2⟩ := Fit_any h3 h4 h5 h6 l
  cases b1 with
  | false => exact mp_no1 f1 hal
  | true =>
    cases b2 with
    | false => exact mp_no2 f1 f2 hal
    | true =>
      have z1 := k1 rfl
      have z2 := k2 rfl
      obtain ⟨hv, g1, g2, o1⟩ := mE_ok z1
      obtain ⟨_, _, g3, o2⟩ := mE_ok z2
      have e1 := okB_den g1
      have e2 := okB_den g2
      have e3 := okB_den g3
      have o3 : ¬ fn * td - tn * fd > 0 := by
        have := frac_ge (an := tn) (bn := mn) (cn := fn) (ad := td) (bd := md) (cd := fd) (by omega) (by omega) (by omega) (by omega) (by omega)
        omega
      have z3 := mE_zero hv g1 g3 o3
      have a1 := All_ok h1 h2 h3 h4 l z1
      have a2 := All_ok h3 h4 h5 h6 l z2
      have a3 := All_ok h1 h2 h5 h6 l z3
      have cut : btwS l fn fd tn td = btwS l fn fd mn md ++ btwS l mn md tn td := btw_cut (by omega) (by omega) (by omega) (by omega) (by omega) (srt_ok hv) (srt_time hv)
      have first := fun m => best_btw hv (fn := fn) (fd := fd) (m := m) g3
      have mem := fun m => btwS_mem (l := l) (fn := fn) (fd := fd) (tn := tn) (td := td) (m := m)
      have l1 := btwS_len hv fn fd mn md
      have l2 := btwS_len hv mn md tn td
      rw [cut] at a3 first mem
      have hn := Next_any h1 h2 l
      unfold nextV at hn
      rw [if_pos (err_val.2 hv), if_pos g1] at hn
      generalize btwS l fn fd mn md = a at *
      generalize btwS l mn md tn td = b at *
      have hs : FnL Try.prog 28 2 [.lq 0 4 0 (a ++ b).length, .ls 1 (0 + a.length + b.length)] [(0, 0, rowM (a ++ b)), (1, 0, .row 36 4 (0 + a.length + b.length) ([] ++ ((msV a).drop (0 * 4)).take (a.length * 4) ++ ((msV b).drop (0 * 4)).take (b.length * 4)))] (.pv (.bool true)) 0 [] := by
        rw [take_ms, take_ms, show 0 + a.length + b.length = (a ++ b).length by rw [List.length_append]; omega, List.nil_append, ← msV_append]
        exact Same_lq rfl (by rw [List.length_append]; omega)
      cases hl : a ++ b with
      | nil =>
        have hz : (((a ++ b).length : Int) == 0) = true := by rw [hl]; rfl
        cases hb : bestOf ordM ((msOf l).filter (kpA fn fd)) with
        | none =>
          rw [hb] at hn
          exact mp_none f1 f2 a1 a2 a3 (by omega) (by omega) hs hn hz hal
        | some m =>
          rw [hb] at hn
          have hm := List.mem_filter.1 (bestOf_mem hb)
          have ok := ms_ok hv m hm.1
          have hgt : m.n * td - tn * m.d > 0 := by
            by_cases h : m.n * td - tn * m.d > 0
            · exact h
            · have := (mem m).2 ⟨hm.1, hm.2, kpB_iff.2 (by omega)⟩
              rw [hl] at this; cases this
          exact mp_later f1 f2 a1 a2 a3 (by omega) (by omega) hs hn hz (RCheck_ok ok.n ok.d ok.ok) (RCompare_any ok.n ok.d h5 h6) (dt (by rw [Int.sign_eq_one_of_pos hgt]; decide)) hal
      | cons m r =>
        have hk : (a ++ b)[0]? = some m := by rw [hl]; rfl
        rw [first m hk] at hn
        have hlen : (a ++ b).length = r.length + 1 := by rw [hl]; rfl
        exact mp_hit f1 f2 a1 a2 a3 (by omega) (by omega) hs hn (by rw [beq_eq_false_iff_ne]; omega) hk ⟨by omega, by omega⟩ (by simp) hal
end Go.Proofs.Ytomnmoinahhdmaa

namespace Go.Proofs.Ytomnmoinahhdmaa
open Go.RowKit
theorem parts_walk {u : Value} {l : List Pt} {W : World} (hr : Rd W 3 u l.length (ptsV l)) {fn fd mn md tn td : Int} (h1 : -9223372036854775808 ≤ fn ∧ fn ≤ 9223372036854775807) (h2 : -9223372036854775808 ≤ fd ∧ fd ≤ 9223372036854775807)
    (h3 : -9223372036854775808 ≤ mn ∧ mn ≤ 9223372036854775807) (h4 : -9223372036854775808 ≤ md ∧ md ≤ 9223372036854775807) (h5 : -9223372036854775808 ≤ tn ∧ tn ≤ 9223372036854775807) (h6 : -9223372036854775808 ≤ td ∧ td ≤ 9223372036854775807) :
    Calls Try.prog 5 #[.agg #[u], ratioV fn fd, ratioV mn md, ratioV tn td] W fun e W' => e = .returned (.bool true) ∧ Gr W W' :=
  fld_run (vs := [ratioV fn fd, ratioV mn md, ratioV tn td]) (Parts_law Alive4 h1 h2 h3 h4 h5 h6 l) hr
end Go.Proofs.Ytomnmoinahhdmaa
