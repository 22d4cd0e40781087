/-
  The reference's crest of a field. Conditions: none.
-/
import Derived.Test.YtomnmoinahhdmaaHj
namespace Go.Proofs.Ytomnmoinahhdmaa
open Go.RowKit
set_option maxRecDepth 100000 in
theorem rc_skip_true {l : List Pt} {s : List Ld} {p q : Pt} {k : Nat} {fn fd : Int} (hk : l[k]? = some q) (hin : 0 ≤ (k : Int) ∧ (k : Int) < (l.length : Int)) (hlt : decide ((k : Int) < (l.length : Int)) = true) (hb : decide (q.b ≤ p.b) = true) (hs : Value.int .i64 (IntKind.i64.wrap ((k : Int) + 1)) = .int .i64 (((k + 1 : Nat) : Int))) {e : Exit} {tm2 : List (Nat × SV)} {hp2 : List (Nat × Nat × SV)}
    (r : RunsL Try.prog 1 1 (loopOf Try.prog 82 1) 80 8 ([(2, .pp 1 0), (6, .ls 5 s.length), (7, .pp 6 0), (8, .pp 7 0), (9, .pv (.bool true)), (10, .pv (.int .i64 ((k + 1 : Nat) : Int)))]) ([(1, 0, .ls 0 l.length), (6, 0, .pv (.int .i64 p.id)), (6, 1, .pv (.int .i64 p.a)), (6, 2, .pv (.int .i64 p.b)), (7, 0, .pv (.int .i64 (fn))), (7, 1, .pv (.int .i64 (fd))), (0, 0, rowP l), (5, 0, rowL s)]) e tm2 hp2) : RunsL Try.prog 1 1 (loopOf Try.prog 82 1) 80 8 ([(2, .pp 1 0), (6, .ls 5 s.length), (7, .pp 6 0), (8, .pp 7 0), (9, .pv (.bool true)), (10, .pv (.int .i64 (k : Int)))]) ([(1, 0, .ls 0 l.length), (6, 0, .pv (.int .i64 p.id)), (6, 1, .pv (.int .i64 p.a)), (6, 2, .pv (.int .i64 p.b)), (7, 0, .pv (.int .i64 (fn))), (7, 1, .pv (.int .i64 (fd))), (0, 0, rowP l), (5, 0, rowL s)]) e tm2 hp2 :=
  RunsL.next [] 300 [.t true, .r (.int .i64 (q.b)), .t true, .r (.int .i64 (((k + 1 : Nat) : Int)))]
    (round_of (And.intro hlt (And.intro hin (And.intro (ra_pb hk) (And.intro hb (And.intro hs True.intro))))) (by kernel_rfl)) r

set_option maxRecDepth 100000 in
theorem rc_skip_false {l : List Pt} {s : List Ld} {p q : Pt} {k : Nat} {fn fd : Int} (hk : l[k]? = some q) (hin : 0 ≤ (k : Int) ∧ (k : Int) < (l.length : Int)) (hlt : decide ((k : Int) < (l.length : Int)) = true) (hb : decide (q.b ≤ p.b) = true) (hs : Value.int .i64 (IntKind.i64.wrap ((k : Int) + 1)) = .int .i64 (((k + 1 : Nat) : Int))) {e : Exit} {tm2 : List (Nat × SV)} {hp2 : List (Nat × Nat × SV)}
    (r : RunsL Try.prog 1 1 (loopOf Try.prog 82 1) 80 8 ([(2, .pp 1 0), (6, .ls 5 s.length), (7, .pp 6 0), (8, .pp 7 0), (9, .pv (.bool false)), (10, .pv (.int .i64 ((k + 1 : Nat) : Int)))]) ([(1, 0, .ls 0 l.length), (6, 0, .pv (.int .i64 p.id)), (6, 1, .pv (.int .i64 p.a)), (6, 2, .pv (.int .i64 p.b)), (7, 0, .pv (.int .i64 (fn))), (7, 1, .pv (.int .i64 (fd))), (0, 0, rowP l), (5, 0, rowL s)]) e tm2 hp2) : RunsL Try.prog 1 1 (loopOf Try.prog 82 1) 80 8 ([(2, .pp 1 0), (6, .ls 5 s.length), (7, .pp 6 0), (8, .pp 7 0), (9, .pv (.bool false)), (10, .pv (.int .i64 (k : Int)))]) ([(1, 0, .ls 0 l.length), (6, 0, .pv (.int .i64 p.id)), (6, 1, .pv (.int .i64 p.a)), (6, 2, .pv (.int .i64 p.b)), (7, 0, .pv (.int .i64 (fn))), (7, 1, .pv (.int .i64 (fd))), (0, 0, rowP l), (5, 0, rowL s)]) e tm2 hp2 :=
  RunsL.next [] 300 [.t true, .r (.int .i64 (q.b)), .t true, .r (.int .i64 (((k + 1 : Nat) : Int)))]
    (round_of (And.intro hlt (And.intro hin (And.intro (ra_pb hk) (And.intro hb (And.intro hs True.intro))))) (by kernel_rfl)) r

set_option maxRecDepth 100000 in
theorem rc_first {l : List Pt} {s : List Ld} {p q : Pt} {k : Nat} {fn fd m k' : Int} (hk : l[k]? = some q) (hin : 0 ≤ (k : Int) ∧ (k : Int) < (l.length : Int)) (hlt : decide ((k : Int) < (l.length : Int)) = true) (hb : decide (q.b ≤ p.b) = false) (hm : Pure Try.prog 123 #[ptV p, ptV q] (ratioV m k')) (hs : Value.int .i64 (IntKind.i64.wrap ((k : Int) + 1)) = .int .i64 (((k + 1 : Nat) : Int))) {e : Exit} {tm2 : List (Nat × SV)} {hp2 : List (Nat × Nat × SV)}
    (r : RunsL Try.prog 1 1 (loopOf Try.prog 82 1) 80 8 ([(2, .pp 1 0), (6, .ls 5 s.length), (7, .pp 6 0), (8, .pp 7 0), (9, .pv (.bool true)), (10, .pv (.int .i64 ((k + 1 : Nat) : Int)))]) ([(1, 0, .ls 0 l.length), (6, 0, .pv (.int .i64 p.id)), (6, 1, .pv (.int .i64 p.a)), (6, 2, .pv (.int .i64 p.b)), (7, 0, .pv (.int .i64 (m))), (7, 1, .pv (.int .i64 (k'))), (0, 0, rowP l), (5, 0, rowL s)]) e tm2 hp2) : RunsL Try.prog 1 1 (loopOf Try.prog 82 1) 80 8 ([(2, .pp 1 0), (6, .ls 5 s.length), (7, .pp 6 0), (8, .pp 7 0), (9, .pv (.bool false)), (10, .pv (.int .i64 (k : Int)))]) ([(1, 0, .ls 0 l.length), (6, 0, .pv (.int .i64 p.id)), (6, 1, .pv (.int .i64 p.a)), (6, 2, .pv (.int .i64 p.b)), (7, 0, .pv (.int .i64 (fn))), (7, 1, .pv (.int .i64 (fd))), (0, 0, rowP l), (5, 0, rowL s)]) e tm2 hp2 :=
  RunsL.next [] 300 [.t true, .r (.int .i64 (q.b)), .t false, .pm [0,1,2,3,4,5,7,6,8], .r (ptV q), .r (ratioV m k'), .k, .r (.int .i64 (((k + 1 : Nat) : Int)))]
    (round_of (And.intro hlt (And.intro hin (And.intro (ra_pb hk) (And.intro hb (And.intro hin (And.intro (ra_pt hk) (And.intro hm (And.intro hs True.intro)))))))) (by kernel_rfl)) r

set_option maxRecDepth 100000 in
theorem rc_less {l : List Pt} {s : List Ld} {p q : Pt} {k : Nat} {fn fd m k' c : Int} (hk : l[k]? = some q) (hin : 0 ≤ (k : Int) ∧ (k : Int) < (l.length : Int)) (hlt : decide ((k : Int) < (l.length : Int)) = true) (hb : decide (q.b ≤ p.b) = false) (hm : Pure Try.prog 123 #[ptV p, ptV q] (ratioV m k')) (hc : Pure Try.prog 24 #[ratioV m k', ratioV fn fd] (.int .i64 (c))) (hz : decide (c < 0) = true) (hs : Value.int .i64 (IntKind.i64.wrap ((k : Int) + 1)) = .int .i64 (((k + 1 : Nat) : Int))) {e : Exit} {tm2 : List (Nat × SV)} {hp2 : List (Nat × Nat × SV)}
    (r : RunsL Try.prog 1 1 (loopOf Try.prog 82 1) 80 8 ([(2, .pp 1 0), (6, .ls 5 s.length), (7, .pp 6 0), (8, .pp 7 0), (9, .pv (.bool true)), (10, .pv (.int .i64 ((k + 1 : Nat) : Int)))]) ([(1, 0, .ls 0 l.length), (6, 0, .pv (.int .i64 p.id)), (6, 1, .pv (.int .i64 p.a)), (6, 2, .pv (.int .i64 p.b)), (7, 0, .pv (.int .i64 (m))), (7, 1, .pv (.int .i64 (k'))), (0, 0, rowP l), (5, 0, rowL s)]) e tm2 hp2) : RunsL Try.prog 1 1 (loopOf Try.prog 82 1) 80 8 ([(2, .pp 1 0), (6, .ls 5 s.length), (7, .pp 6 0), (8, .pp 7 0), (9, .pv (.bool true)), (10, .pv (.int .i64 (k : Int)))]) ([(1, 0, .ls 0 l.length), (6, 0, .pv (.int .i64 p.id)), (6, 1, .pv (.int .i64 p.a)), (6, 2, .pv (.int .i64 p.b)), (7, 0, .pv (.int .i64 (fn))), (7, 1, .pv (.int .i64 (fd))), (0, 0, rowP l), (5, 0, rowL s)]) e tm2 hp2 :=
  RunsL.next [] 300 [.t true, .r (.int .i64 (q.b)), .t false, .pm [0,1,2,3,4,5,7,6,8], .r (ptV q), .r (ratioV m k'), .k, .r (.int .i64 (c)), .t true, .r (.int .i64 (((k + 1 : Nat) : Int)))]
    (round_of (And.intro hlt (And.intro hin (And.intro (ra_pb hk) (And.intro hb (And.intro hin (And.intro (ra_pt hk) (And.intro hm (And.intro hc (And.intro hz (And.intro hs True.intro)))))))))) (by kernel_rfl)) r

set_option maxRecDepth 100000 in
theorem rc_keep {l : List Pt} {s : List Ld} {p q : Pt} {k : Nat} {fn fd m k' c : Int} (hk : l[k]? = some q) (hin : 0 ≤ (k : Int) ∧ (k : Int) < (l.length : Int)) (hlt : decide ((k : Int) < (l.length : Int)) = true) (hb : decide (q.b ≤ p.b) = false) (hm : Pure Try.prog 123 #[ptV p, ptV q] (ratioV m k')) (hc : Pure Try.prog 24 #[ratioV m k', ratioV fn fd] (.int .i64 (c))) (hz : decide (c < 0) = false) (hs : Value.int .i64 (IntKind.i64.wrap ((k : Int) + 1)) = .int .i64 (((k + 1 : Nat) : Int))) {e : Exit} {tm2 : List (Nat × SV)} {hp2 : List (Nat × Nat × SV)}
    (r : RunsL Try.prog 1 1 (loopOf Try.prog 82 1) 80 8 ([(2, .pp 1 0), (6, .ls 5 s.length), (7, .pp 6 0), (8, .pp 7 0), (9, .pv (.bool true)), (10, .pv (.int .i64 ((k + 1 : Nat) : Int)))]) ([(1, 0, .ls 0 l.length), (6, 0, .pv (.int .i64 p.id)), (6, 1, .pv (.int .i64 p.a)), (6, 2, .pv (.int .i64 p.b)), (7, 0, .pv (.int .i64 (fn))), (7, 1, .pv (.int .i64 (fd))), (0, 0, rowP l), (5, 0, rowL s)]) e tm2 hp2) : RunsL Try.prog 1 1 (loopOf Try.prog 82 1) 80 8 ([(2, .pp 1 0), (6, .ls 5 s.length), (7, .pp 6 0), (8, .pp 7 0), (9, .pv (.bool true)), (10, .pv (.int .i64 (k : Int)))]) ([(1, 0, .ls 0 l.length), (6, 0, .pv (.int .i64 p.id)), (6, 1, .pv (.int .i64 p.a)), (6, 2, .pv (.int .i64 p.b)), (7, 0, .pv (.int .i64 (fn))), (7, 1, .pv (.int .i64 (fd))), (0, 0, rowP l), (5, 0, rowL s)]) e tm2 hp2 :=
  RunsL.next [] 300 [.t true, .r (.int .i64 (q.b)), .t false, .pm [0,1,2,3,4,5,7,6,8], .r (ptV q), .r (ratioV m k'), .k, .r (.int .i64 (c)), .t false, .r (.int .i64 (((k + 1 : Nat) : Int)))]
    (round_of (And.intro hlt (And.intro hin (And.intro (ra_pb hk) (And.intro hb (And.intro hin (And.intro (ra_pt hk) (And.intro hm (And.intro hc (And.intro hz (And.intro hs True.intro)))))))))) (by kernel_rfl)) r

set_option maxRecDepth 100000 in
theorem rc_end_true {l : List Pt} {s : List Ld} {p : Pt} {k : Nat} {fn fd : Int} (hge : decide ((k : Int) < (l.length : Int)) = false) : RunsL Try.prog 1 1 (loopOf Try.prog 82 1) 80 8 ([(2, .pp 1 0), (6, .ls 5 s.length), (7, .pp 6 0), (8, .pp 7 0), (9, .pv (.bool true)), (10, .pv (.int .i64 (k : Int)))]) ([(1, 0, .ls 0 l.length), (6, 0, .pv (.int .i64 p.id)), (6, 1, .pv (.int .i64 p.a)), (6, 2, .pv (.int .i64 p.b)), (7, 0, .pv (.int .i64 (fn))), (7, 1, .pv (.int .i64 (fd))), (0, 0, rowP l), (5, 0, rowL s)]) (.exit 2) ([(2, .pp 1 0), (6, .ls 5 s.length), (8, .pp 7 0), (9, .pv (.bool true))]) ([(1, 0, .ls 0 l.length), (7, 0, .pv (.int .i64 (fn))), (7, 1, .pv (.int .i64 (fd))), (0, 0, rowP l), (5, 0, rowL s)]) :=
  RunsL.stop [] 300 [.t false] (fun h => by cases h)
    (round_of (And.intro hge True.intro) (by kernel_rfl))

set_option maxRecDepth 100000 in
theorem rc_end_false {l : List Pt} {s : List Ld} {p : Pt} {k : Nat} {fn fd : Int} (hge : decide ((k : Int) < (l.length : Int)) = false) : RunsL Try.prog 1 1 (loopOf Try.prog 82 1) 80 8 ([(2, .pp 1 0), (6, .ls 5 s.length), (7, .pp 6 0), (8, .pp 7 0), (9, .pv (.bool false)), (10, .pv (.int .i64 (k : Int)))]) ([(1, 0, .ls 0 l.length), (6, 0, .pv (.int .i64 p.id)), (6, 1, .pv (.int .i64 p.a)), (6, 2, .pv (.int .i64 p.b)), (7, 0, .pv (.int .i64 (fn))), (7, 1, .pv (.int .i64 (fd))), (0, 0, rowP l), (5, 0, rowL s)]) (.exit 2) ([(2, .pp 1 0), (6, .ls 5 s.length), (8, .pp 7 0), (9, .pv (.bool false))]) ([(1, 0, .ls 0 l.length), (7, 0, .pv (.int .i64 (fn))), (7, 1, .pv (.int .i64 (fd))), (0, 0, rowP l), (5, 0, rowL s)]) :=
  RunsL.stop [] 300 [.t false] (fun h => by cases h)
    (round_of (And.intro hge True.intro) (by kernel_rfl))

set_option maxRecDepth 100000 in
theorem ro_stop {l : List Pt} {s : List Ld} {x : Ld} {p : Pt} {k j : Nat} {gn gd : Int} (hx : s[k]? = some x) (hkin : 0 ≤ (k : Int) ∧ (k : Int) < (s.length : Int)) (hp : l[j]? = some p) (hj : 0 ≤ (j : Int) ∧ (j : Int) < (l.length : Int)) (hw : Value.int .i64 (IntKind.i64.wrap ((s.length : Int) - 1)) = .int .i64 ((k : Int))) (ha : FnL Try.prog 22 1 [fldS 0 l, .pv (.int .i64 (x.id))] [(0, 0, rowP l)] (.pv (.int .i64 ((j : Int)))) 0 []) (r1 : RunsL Try.prog 1 1 (loopOf Try.prog 82 1) 80 8 ([(2, .pp 1 0), (6, .ls 5 s.length), (7, .pp 6 0), (8, .pp 7 0), (9, .pv (.bool false)), (10, .pv (.int .i64 ((0 : Nat) : Int)))]) ([(1, 0, .ls 0 l.length), (6, 0, .pv (.int .i64 p.id)), (6, 1, .pv (.int .i64 p.a)), (6, 2, .pv (.int .i64 p.b)), (7, 0, .pv (.int .i64 (0))), (7, 1, .pv (.int .i64 (0))), (0, 0, rowP l), (5, 0, rowL s)]) (.exit 2) ([(2, .pp 1 0), (6, .ls 5 s.length), (8, .pp 7 0), (9, .pv (.bool false))]) ([(1, 0, .ls 0 l.length), (7, 0, .pv (.int .i64 (gn))), (7, 1, .pv (.int .i64 (gd))), (0, 0, rowP l), (5, 0, rowL s)])) : RunsL Try.prog 1 1 (loopOf Try.prog 82 0) 80 6 ([(2, .pp 1 0), (6, .ls 5 (s).length)]) ([(1, 0, .ls 0 l.length), (0, 0, rowP l), (5, 0, rowL (s))]) (.ret) ([(4, .ls 5 s.length)]) ([(5, 0, rowL s)]) :=
  RunsL.stop [] 300 [.pm [0,1,2,3,4,5,6,7,8,9,13,10,11,12,14], .r (.int .i64 ((k : Int))), .r (.int .i64 (x.id)), .f [0] [fldS 0 l, .pv (.int .i64 (x.id))] [(0, 0, rowP l)] (.pv (.int .i64 ((j : Int)))) 0 [], .r (ptV p), .l (.exit 2) ([(2, .pp 1 0), (6, .ls 5 s.length), (7, .pp 6 0), (8, .pp 7 0), (9, .pv (.bool false)), (10, .pv (.int .i64 ((0 : Nat) : Int)))]) ([(1, 0, .ls 0 l.length), (6, 0, .pv (.int .i64 p.id)), (6, 1, .pv (.int .i64 p.a)), (6, 2, .pv (.int .i64 p.b)), (7, 0, .pv (.int .i64 (0))), (7, 1, .pv (.int .i64 (0))), (0, 0, rowP l), (5, 0, rowL s)]) ([(2, .pp 1 0), (6, .ls 5 s.length), (8, .pp 7 0), (9, .pv (.bool false))]) ([(1, 0, .ls 0 l.length), (7, 0, .pv (.int .i64 (gn))), (7, 1, .pv (.int .i64 (gd))), (0, 0, rowP l), (5, 0, rowL s)]), .k] (fun h => by cases h)
    (round_of (And.intro hw (And.intro hkin (And.intro (ra_li hx) (And.intro ha (And.intro (Eq.refl (List.map (SV.ren (renU [0] 7)) [fldS 0 l, .pv (.int .i64 (x.id))])) (And.intro (reflH (renU [0] 7) [(0, 0, rowP l)]) (And.intro hj (And.intro (ra_pt hp) (And.intro (reflT (renN []) ([(2, .pp 1 0), (6, .ls 5 s.length), (7, .pp 6 0), (8, .pp 7 0), (9, .pv (.bool false)), (10, .pv (.int .i64 ((0 : Nat) : Int)))])) (And.intro (reflH (renN []) ([(1, 0, .ls 0 l.length), (6, 0, .pv (.int .i64 p.id)), (6, 1, .pv (.int .i64 p.a)), (6, 2, .pv (.int .i64 p.b)), (7, 0, .pv (.int .i64 (0))), (7, 1, .pv (.int .i64 (0))), (0, 0, rowP l), (5, 0, rowL s)])) (And.intro r1 True.intro))))))))))) (by kernel_rfl))

set_option maxRecDepth 100000 in
theorem ro_next {l : List Pt} {s : List Ld} {g : List Int} {x : Ld} {p : Pt} {k j : Nat} {lid gn gd : Int} (hx : s[k]? = some x) (hkin : 0 ≤ (k : Int) ∧ (k : Int) < (s.length : Int)) (hp : l[j]? = some p) (hj : 0 ≤ (j : Int) ∧ (j : Int) < (l.length : Int)) (hw : Value.int .i64 (IntKind.i64.wrap ((s.length : Int) - 1)) = .int .i64 ((k : Int))) (ha : FnL Try.prog 22 1 [fldS 0 l, .pv (.int .i64 (x.id))] [(0, 0, rowP l)] (.pv (.int .i64 ((j : Int)))) 0 []) (r1 : RunsL Try.prog 1 1 (loopOf Try.prog 82 1) 80 8 ([(2, .pp 1 0), (6, .ls 5 s.length), (7, .pp 6 0), (8, .pp 7 0), (9, .pv (.bool false)), (10, .pv (.int .i64 ((0 : Nat) : Int)))]) ([(1, 0, .ls 0 l.length), (6, 0, .pv (.int .i64 p.id)), (6, 1, .pv (.int .i64 p.a)), (6, 2, .pv (.int .i64 p.b)), (7, 0, .pv (.int .i64 (0))), (7, 1, .pv (.int .i64 (0))), (0, 0, rowP l), (5, 0, rowL s)]) (.exit 2) ([(2, .pp 1 0), (6, .ls 5 s.length), (8, .pp 7 0), (9, .pv (.bool true))]) ([(1, 0, .ls 0 l.length), (7, 0, .pv (.int .i64 (gn))), (7, 1, .pv (.int .i64 (gd))), (0, 0, rowP l), (5, 0, rowL s)])) (ho : FnL Try.prog 122 1 [fldS 0 l, .pv (ratioV gn gd)] [(0, 0, rowP l)] (.ls 1 l.length) 1 [(1, 0, .row 3 1 l.length (idsV g))]) (hg : g[0]? = some lid) (hgi : 0 ≤ (0 : Int) ∧ (0 : Int) < (l.length : Int)) (hl : s.length + 1 ≤ 1000000) {e : Exit} {tm2 : List (Nat × SV)} {hp2 : List (Nat × Nat × SV)}
    (r : RunsL Try.prog 1 1 (loopOf Try.prog 82 0) 80 6 ([(2, .pp 1 0), (6, .ls 5 (s ++ [(Ld.mk gn gd lid)]).length)]) ([(1, 0, .ls 0 l.length), (0, 0, rowP l), (5, 0, rowL (s ++ [(Ld.mk gn gd lid)]))]) e tm2 hp2) : RunsL Try.prog 1 1 (loopOf Try.prog 82 0) 80 6 ([(2, .pp 1 0), (6, .ls 5 (s).length)]) ([(1, 0, .ls 0 l.length), (0, 0, rowP l), (5, 0, rowL (s))]) e tm2 hp2 :=
  RunsL.next [(5, 10)] 300 [.pm [0,1,2,3,4,5,6,7,8,9,13,10,11,12,14], .r (.int .i64 ((k : Int))), .r (.int .i64 (x.id)), .f [0] [fldS 0 l, .pv (.int .i64 (x.id))] [(0, 0, rowP l)] (.pv (.int .i64 ((j : Int)))) 0 [], .r (ptV p), .l (.exit 2) ([(2, .pp 1 0), (6, .ls 5 s.length), (7, .pp 6 0), (8, .pp 7 0), (9, .pv (.bool false)), (10, .pv (.int .i64 ((0 : Nat) : Int)))]) ([(1, 0, .ls 0 l.length), (6, 0, .pv (.int .i64 p.id)), (6, 1, .pv (.int .i64 p.a)), (6, 2, .pv (.int .i64 p.b)), (7, 0, .pv (.int .i64 (0))), (7, 1, .pv (.int .i64 (0))), (0, 0, rowP l), (5, 0, rowL s)]) ([(2, .pp 1 0), (6, .ls 5 s.length), (8, .pp 7 0), (9, .pv (.bool true))]) ([(1, 0, .ls 0 l.length), (7, 0, .pv (.int .i64 (gn))), (7, 1, .pv (.int .i64 (gd))), (0, 0, rowP l), (5, 0, rowL s)]), .k, .gh [(7, 0), (7, 1)], .f [0] [fldS 0 l, .pv (ratioV gn gd)] [(0, 0, rowP l)] (.ls 1 l.length) 1 [(1, 0, .row 3 1 l.length (idsV g))], .r (Value.int .i64 lid)]
    (round_ofTH (And.intro (Eq.refl (SV.pp 1 0)) (And.intro (snocl_ls 10 s (Ld.mk gn gd lid)) True.intro)) (And.intro (Eq.refl (some (SV.ls 0 l.length))) (And.intro (Eq.refl (some (rowP l))) (And.intro (snocl_row s (Ld.mk gn gd lid)) True.intro))) (And.intro hw (And.intro hkin (And.intro (ra_li hx) (And.intro ha (And.intro (Eq.refl (List.map (SV.ren (renU [0] 7)) [fldS 0 l, .pv (.int .i64 (x.id))])) (And.intro (reflH (renU [0] 7) [(0, 0, rowP l)]) (And.intro hj (And.intro (ra_pt hp) (And.intro (reflT (renN []) ([(2, .pp 1 0), (6, .ls 5 s.length), (7, .pp 6 0), (8, .pp 7 0), (9, .pv (.bool false)), (10, .pv (.int .i64 ((0 : Nat) : Int)))])) (And.intro (reflH (renN []) ([(1, 0, .ls 0 l.length), (6, 0, .pv (.int .i64 p.id)), (6, 1, .pv (.int .i64 p.a)), (6, 2, .pv (.int .i64 p.b)), (7, 0, .pv (.int .i64 (0))), (7, 1, .pv (.int .i64 (0))), (0, 0, rowP l), (5, 0, rowL s)])) (And.intro r1 (And.intro (Eq.refl (some (SV.pv (.int .i64 gn)))) (And.intro (Eq.refl (some (SV.pv (.int .i64 gd)))) (And.intro ho (And.intro (Eq.refl (List.map (SV.ren (renU [0] 8)) [fldS 0 l, .pv (ratioV gn gd)])) (And.intro (reflH (renU [0] 8) [(0, 0, rowP l)]) (And.intro (Eq.refl (some (SV.pv (.int .i64 gn)))) (And.intro (Eq.refl (some (SV.pv (.int .i64 gd)))) (And.intro hgi (And.intro (Eq.refl (some (SV.pv (.int .i64 gn)))) (And.intro (Eq.refl (some (SV.pv (.int .i64 gd)))) (And.intro (ra_int hg) (And.intro (Eq.refl (some (SV.pv (.int .i64 gn)))) (And.intro (Eq.refl (some (SV.pv (.int .i64 gd)))) (And.intro (Eq.refl (some (SV.pv (.int .i64 gn)))) (And.intro (Eq.refl (some (SV.pv (.int .i64 gd)))) (And.intro (Eq.refl (some (SV.pv (.int .i64 gn)))) (And.intro (Eq.refl (some (SV.pv (.int .i64 gd)))) (And.intro hl (And.intro (Eq.refl (some (SV.pv (.int .i64 gn)))) (And.intro (Eq.refl (some (SV.pv (.int .i64 gd)))) (And.intro (Eq.refl (some (SV.pv (.int .i64 gn)))) (And.intro (Eq.refl (some (SV.pv (.int .i64 gd)))) True.intro))))))))))))))))))))))))))))))))) (by kernel_rfl)) r

set_option maxRecDepth 100000 in
theorem ro_path {l : List Pt} {zt : List Ld} {g : List Int} {fn fd lid : Int} (ho : FnL Try.prog 122 1 [fldS 0 l, .pv (ratioV fn fd)] [(0, 0, rowP l)] (.ls 1 l.length) 1 [(1, 0, .row 3 1 l.length (idsV g))]) (hg : g[0]? = some lid) (hgi : 0 ≤ (0 : Int) ∧ (0 : Int) < (l.length : Int)) (r0 : RunsL Try.prog 1 1 (loopOf Try.prog 82 0) 80 6 ([(2, .pp 1 0), (6, .ls 5 ([Ld.mk fn fd lid]).length)]) ([(1, 0, .ls 0 l.length), (0, 0, rowP l), (5, 0, rowL ([Ld.mk fn fd lid]))]) (.ret) ([(4, .ls 5 zt.length)]) ([(5, 0, rowL zt)])) :
    FnL Try.prog 82 1 [fldS 0 l, .pv (ratioV fn fd)] [(0, 0, rowP l)] (.ls 1 zt.length) 1 [(1, 0, rowL zt)] :=
  fnl_run 300 [(1, 5)] [.gh [(3, 0), (3, 1)], .f [0] [fldS 0 l, .pv (ratioV fn fd)] [(0, 0, rowP l)] (.ls 1 l.length) 1 [(1, 0, .row 3 1 l.length (idsV g))], .r (Value.int .i64 lid), .lw, .l (.ret) ([(2, .pp 1 0), (6, .ls 5 ([Ld.mk fn fd lid]).length)]) ([(1, 0, .ls 0 l.length), (0, 0, rowP l), (5, 0, rowL ([Ld.mk fn fd lid]))]) ([(4, .ls 5 zt.length)]) ([(5, 0, rowL zt)])]
     (reflH (renN [(1, 5)]) [(1, 0, rowL zt)]) (And.intro (Eq.refl (some (SV.pv (.int .i64 fn)))) (And.intro (Eq.refl (some (SV.pv (.int .i64 fd)))) (And.intro ho (And.intro (Eq.refl (List.map (SV.ren (renU [0] 4)) [fldS 0 l, .pv (ratioV fn fd)])) (And.intro (reflH (renU [0] 4) [(0, 0, rowP l)]) (And.intro (Eq.refl (some (SV.pv (.int .i64 fn)))) (And.intro (Eq.refl (some (SV.pv (.int .i64 fd)))) (And.intro hgi (And.intro (Eq.refl (some (SV.pv (.int .i64 fn)))) (And.intro (Eq.refl (some (SV.pv (.int .i64 fd)))) (And.intro (ra_int hg) (And.intro (Eq.refl (some (SV.pv (.int .i64 fn)))) (And.intro (Eq.refl (some (SV.pv (.int .i64 fd)))) (And.intro (Eq.refl (some (SV.pv (.int .i64 fn)))) (And.intro (Eq.refl (some (SV.pv (.int .i64 fd)))) (And.intro (Eq.refl (some (SV.pv (.int .i64 fn)))) (And.intro (Eq.refl (some (SV.pv (.int .i64 fd)))) (And.intro (Eq.refl (some (SV.pv (.int .i64 fn)))) (And.intro (Eq.refl (some (SV.pv (.int .i64 fd)))) (And.intro (reflT (renN []) ([(2, .pp 1 0), (6, .ls 5 ([Ld.mk fn fd lid]).length)])) (And.intro (reflH (renN []) ([(1, 0, .ls 0 l.length), (0, 0, rowP l), (5, 0, rowL ([Ld.mk fn fd lid]))])) (And.intro r0 True.intro)))))))))))))))))))))) (by kernel_rfl)

set_option maxRecDepth 100000 in
theorem rof_err {l : List Pt} {fn fd er : Int} (ht : FnL Try.prog 81 1 [fldS 0 l, .pv (ratioV fn fd)] [(0, 0, rowP l)] (.pv (.int .i64 (er))) 0 []) (he : (er != 0) = true) :
    FnL Try.prog 40 1 [fldS 0 l, .pv (ratioV fn fd)] [(0, 0, rowP l)] (.pv (.tuple #[.slice none 0 0, .int .i64 er])) 0 [] :=
  fnl_run 300 [] [.f [0] [fldS 0 l, .pv (ratioV fn fd)] [(0, 0, rowP l)] (.pv (.int .i64 (er))) 0 [], .t true]
     True.intro (And.intro ht (And.intro (Eq.refl (List.map (SV.ren (renU [0] 3)) [fldS 0 l, .pv (ratioV fn fd)])) (And.intro (reflH (renU [0] 3) [(0, 0, rowP l)]) (And.intro he True.intro)))) (by kernel_rfl)

set_option maxRecDepth 100000 in
theorem rof_none {l : List Pt} {fn fd : Int} (ht : FnL Try.prog 81 1 [fldS 0 l, .pv (ratioV fn fd)] [(0, 0, rowP l)] (.pv (.int .i64 (0))) 0 []) (h0 : ((l.length : Int) == 0) = true) :
    FnL Try.prog 40 1 [fldS 0 l, .pv (ratioV fn fd)] [(0, 0, rowP l)] (.pv (.tuple #[.slice none 0 0, .int .i64 42])) 0 [] :=
  fnl_run 300 [] [.f [0] [fldS 0 l, .pv (ratioV fn fd)] [(0, 0, rowP l)] (.pv (.int .i64 (0))) 0 [], .k, .t true]
     True.intro (And.intro ht (And.intro (Eq.refl (List.map (SV.ren (renU [0] 3)) [fldS 0 l, .pv (ratioV fn fd)])) (And.intro (reflH (renU [0] 3) [(0, 0, rowP l)]) (And.intro h0 True.intro)))) (by kernel_rfl)

set_option maxRecDepth 100000 in
theorem rof_ok {l : List Pt} {t : List Ld} {fn fd : Int} (ht : FnL Try.prog 81 1 [fldS 0 l, .pv (ratioV fn fd)] [(0, 0, rowP l)] (.pv (.int .i64 (0))) 0 []) (h0 : ((l.length : Int) == 0) = false) (hc : FnL Try.prog 82 1 [fldS 0 l, .pv (ratioV fn fd)] [(0, 0, rowP l)] (.ls 1 t.length) 1 [(1, 0, rowL t)]) :
    FnL Try.prog 40 1 [fldS 0 l, .pv (ratioV fn fd)] [(0, 0, rowP l)] (.tu [.one (.ls 1 t.length), .one (.pv (.int .i64 0))]) 1 [(1, 0, rowL t)] :=
  fnl_run 300 [(1, 3)] [.f [0] [fldS 0 l, .pv (ratioV fn fd)] [(0, 0, rowP l)] (.pv (.int .i64 (0))) 0 [], .k, .t false, .f [0] [fldS 0 l, .pv (ratioV fn fd)] [(0, 0, rowP l)] (.ls 1 t.length) 1 [(1, 0, rowL t)]]
     (reflH (renN [(1, 3)]) [(1, 0, rowL t)]) (And.intro ht (And.intro (Eq.refl (List.map (SV.ren (renU [0] 3)) [fldS 0 l, .pv (ratioV fn fd)])) (And.intro (reflH (renU [0] 3) [(0, 0, rowP l)]) (And.intro h0 (And.intro hc (And.intro (Eq.refl (List.map (SV.ren (renU [0] 3)) [fldS 0 l, .pv (ratioV fn fd)])) (And.intro (reflH (renU [0] 3) [(0, 0, rowP l)]) True.intro))))))) (by kernel_rfl)

/-- The time that the reference takes is the next lead's. -/
theorem rcrest_inner {l : List Pt} (hv : Val l) {s : List Ld} {p : Pt} (hp : p ∈ l) : RunsL Try.prog 1 1 (loopOf Try.prog 82 1) 80 8 [(2, .pp 1 0), (6, .ls 5 s.length), (7, .pp 6 0), (8, .pp 7 0), (9, .pv (.bool false)), (10, .pv (.int .i64 ((0 : Nat) : Int)))]
    [(1, 0, .ls 0 l.length), (6, 0, .pv (.int .i64 p.id)), (6, 1, .pv (.int .i64 p.a)), (6, 2, .pv (.int .i64 p.b)), (7, 0, .pv (.int .i64 0)), (7, 1, .pv (.int .i64 0)), (0, 0, rowP l), (5, 0, rowL s)] (.exit 2)
    [(2, .pp 1 0), (6, .ls 5 s.length), (8, .pp 7 0), (9, .pv (.bool (nextM p l).isSome))] [(1, 0, .ls 0 l.length), (7, 0, .pv (.int .i64 (accN (nextM p l)))), (7, 1, .pv (.int .i64 (accD (nextM p l)))), (0, 0, rowP l), (5, 0, rowL s)] := by
  have h64 := hv.len
  have acc : ∀ k, k ≤ l.length → ∀ m, (l.take k).foldl (fstep p) none = some m → I64 m.n ∧ I64 m.d := fun k hk m hm => by
    have hl := least_take (p := p) hv (hv.ok p hp) k hk
    rw [hm] at hl
    obtain ⟨⟨q, hq, h1⟩, _⟩ := hl
    have := (nextOf_some (hv.ok p hp) (hv.ok q (List.mem_of_mem_take hq)) h1).2
    exact ⟨this.n, this.d⟩
  refine RunsL.rounds (fun k => [(2, .pp 1 0), (6, .ls 5 s.length), (7, .pp 6 0), (8, .pp 7 0), (9, .pv (.bool ((l.take k).foldl (fstep p) none).isSome)), (10, .pv (.int .i64 (k : Int)))])
    (fun k => [(1, 0, .ls 0 l.length), (6, 0, .pv (.int .i64 p.id)), (6, 1, .pv (.int .i64 p.a)), (6, 2, .pv (.int .i64 p.b)), (7, 0, .pv (.int .i64 (accN ((l.take k).foldl (fstep p) none)))), (7, 1, .pv (.int .i64 (accD ((l.take k).foldl (fstep p) none)))), (0, 0, rowP l), (5, 0, rowL s)]) l.length 0 (Nat.zero_add _) (fun k _ hk r => ?_) ?_
  · obtain ⟨q, hq⟩ := get_some (l := l) (k := k) hk
    have hm := List.mem_of_getElem? hq
    have he : (l.take (k + 1)).foldl (fstep p) none = fstep p ((l.take k).foldl (fstep p) none) q := by
      rw [List.take_add_one, hq, List.foldl_append]; rfl
    rw [he] at r
    have ha := acc k (by omega)
    generalize (l.take k).foldl (fstep p) none = A at *
    by_cases hb : p.b < q.b
    · obtain ⟨m, hn, ok⟩ := nextOf_yes (hv.ok p hp) (hv.ok q hm) hb
      have mm := Met_ok (pi := p.id) (pa := p.a) (pb := p.b) (qi := q.id) (qa := q.a) (qb := q.b) (hv.ok p hp) (hv.ok q hm) (by omega) ok.ok ok.n ok.d ok.eq
      unfold fstep at r
      rw [hn] at r
      cases A with
      | none => exact rc_first hq ⟨by omega, by omega⟩ (dt (by omega)) (df (by omega)) mm (i64_succ (by omega)) r
      | some f =>
        obtain ⟨f1, f2⟩ := ha f rfl
        have hc := RCompare_any ok.n ok.d f1 f2
        by_cases hz : (m.n * f.d - f.n * m.d).sign < 0
        · simp only [if_pos hz] at r
          exact rc_less hq ⟨by omega, by omega⟩ (dt (by omega)) (df (by omega)) mm hc (dt hz) (i64_succ (by omega)) r
        · simp only [if_neg hz] at r
          exact rc_keep hq ⟨by omega, by omega⟩ (dt (by omega)) (df (by omega)) mm hc (df hz) (i64_succ (by omega)) r
    · unfold fstep at r
      rw [nextOf_no hb] at r
      cases A with
      | none => exact rc_skip_false hq ⟨by omega, by omega⟩ (dt (by omega)) (dt (by omega)) (i64_succ (by omega)) r
      | some f => exact rc_skip_true hq ⟨by omega, by omega⟩ (dt (by omega)) (dt (by omega)) (i64_succ (by omega)) r
  · unfold nextM
    rw [List.take_length]
    cases l.foldl (fstep p) none with
    | none => exact rc_end_false (df (by omega))
    | some f => exact rc_end_true (df (by omega))
theorem rcrest_loop {l : List Pt} (hv : Val l) (hne : l ≠ []) : ∀ {p : Pt} {x : Ld} {t : List Ld}, Cr l p x t → ∀ (s : List Ld), s[s.length - 1]? = some x → s.length + t.length ≤ 1000 →
    RunsL Try.prog 1 1 (loopOf Try.prog 82 0) 80 6 [(2, .pp 1 0), (6, .ls 5 s.length)] [(1, 0, .ls 0 l.length), (0, 0, rowP l), (5, 0, rowL s)] .ret [(4, .ls 5 (s ++ t).length)] [(5, 0, rowL (s ++ t))] := by
  intro p x t h
  induction h with
  | @stop p x b e =>
    intro s hs hl
    rw [List.append_nil]
    obtain ⟨i, hi, ei⟩ := List.getElem_of_mem b.mem
    have hpi : l[i]? = some p := by rw [List.getElem?_eq_getElem hi, ei]
    have r := rcrest_inner hv (s := s) b.mem
    rw [e] at r
    have h0 := get_lt hs
    exact ro_stop hs ⟨by omega, by omega⟩ hpi ⟨by omega, by omega⟩ (by rw [wrap_i64_in (by omega) (by omega)]; congr 1; omega) (At_yes hv hpi b.id) r
  | @step p x m t b e r ih =>
    intro s hs hl
    obtain ⟨i, hi, ei⟩ := List.getElem_of_mem b.mem
    have hpi : l[i]? = some p := by rw [List.getElem?_eq_getElem hi, ei]
    have ri := rcrest_inner hv (s := s) b.mem
    rw [e] at ri
    have h0 := get_lt hs
    have B := base_next hv b e
    rw [List.length_cons] at hl
    have r' := ih (s ++ [nxL l m]) (by rw [List.length_append, List.length_singleton, Nat.add_sub_cancel, List.getElem?_append_right (Nat.le_refl _), Nat.sub_self]; rfl) (by rw [List.length_append, List.length_singleton]; omega)
    rw [List.append_assoc, List.singleton_append] at r'
    obtain ⟨w, hw⟩ := Srt_ex hv B.tm
    have hg : (w.map Pt.id)[0]? = some (ldr l m.n m.d).id := by rw [List.getElem?_map, ldr_srt hw hne]; rfl
    exact ro_next (gn := m.n) (gd := m.d) (lid := (ldr l m.n m.d).id) hs ⟨by omega, by omega⟩ hpi ⟨by omega, by omega⟩ (by rw [wrap_i64_in (by omega) (by omega)]; congr 1; omega) (At_yes hv hpi b.id) ri (Ordered_any hv B.tm hw) hg ⟨by omega, by have := List.length_pos_iff.2 hne; omega⟩ (by omega) r'
theorem RCrest_ok {l : List Pt} (hv : Val l) (hne : l ≠ []) {n d : Int} (ht : Tm n d) : FnL Try.prog 82 1 [fldS 0 l, .pv (ratioV n d)] [(0, 0, rowP l)] (.ls 1 (crest l n d).length) 1 [(1, 0, rowL (crest l n d))] := by
  obtain ⟨t, h1, h2, h3⟩ := crest_spec hv hne ht
  rw [h1]
  have h64 := hv.len
  obtain ⟨w, hw⟩ := Srt_ex hv ht
  have hg : (w.map Pt.id)[0]? = some (ldr l n d).id := by rw [List.getElem?_map, ldr_srt hw hne]; rfl
  have r := rcrest_loop hv hne h2 [⟨n, d, (ldr l n d).id⟩] rfl (by simp; omega)
  exact ro_path (Ordered_any hv ht hw) hg ⟨by omega, by have := List.length_pos_iff.2 hne; omega⟩ r
/-- Of of the program and of the reference, at any field and time: both give the same list (by name), or the same error. -/
theorem ROf_ok {l : List Pt} (hv : Val l) (hne : l ≠ []) {n d : Int} (ht : Tm n d) : FnL Try.prog 40 1 [fldS 0 l, .pv (ratioV n d)] [(0, 0, rowP l)] (.tu [.one (.ls 1 (crest l n d).length), .one (.pv (.int .i64 0))]) 1 [(1, 0, rowL (crest l n d))] := by
  have c := Timed_any ht.hn ht.hd l
  rw [tE_ok hv ht.ok] at c
  exact rof_ok c (by rw [beq_eq_false_iff_ne]; have := List.length_pos_iff.2 hne; omega) (RCrest_ok hv hne ht)
theorem ROf_err {l : List Pt} {n d : Int} (hn : I64 n) (hd : I64 d) (h : tE l n d ≠ 0) : FnL Try.prog 40 1 [fldS 0 l, .pv (ratioV n d)] [(0, 0, rowP l)] (.pv (.tuple #[.slice none 0 0, .int .i64 (tE l n d)])) 0 [] := rof_err (Timed_any hn hd l) (by simpa using h)
theorem ROf_none {n d : Int} (ht : Tm n d) : FnL Try.prog 40 1 [fldS 0 [], .pv (ratioV n d)] [(0, 0, rowP [])] (.pv (.tuple #[.slice none 0 0, .int .i64 42])) 0 [] := by
  have c := Timed_any ht.hn ht.hd []
  rw [tE_ok ⟨by decide, by simp, up_of rfl⟩ ht.ok] at c
  exact rof_none c rfl
end Go.Proofs.Ytomnmoinahhdmaa
