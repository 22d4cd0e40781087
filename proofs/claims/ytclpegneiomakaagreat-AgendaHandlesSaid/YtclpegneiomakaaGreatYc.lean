/-
  Package agenda's eventsFit, path by path. Conditions: none.
-/
import Derived.Test.YtclpegneiomakaaGreatYb
namespace Go.Proofs.YtclpegneiomakaaGreat
open Go.RowKit
theorem ysn_row (g : List Int) (x : Int) : some (SV.row 3 1 (g.length + 1) (ziV g ++ [.int .i64 x])) = some (zrI (g ++ [x])) := by rw [zrI, ziV_append, List.length_append]; rfl
theorem ysn_ls (b : Nat) (g : List Int) (x : Int) : SV.ls b (g.length + 1) = SV.ls b (g ++ [x]).length := by rw [List.length_append]; rfl
set_option maxRecDepth 100000 in
theorem ef_next {g : List Int} {ev : List Ev} {m : Ev} {k : Nat} (hk : ev[k]? = some m) (hin : 0 ≤ (k : Int) ∧ (k : Int) < (ev.length : Int)) (hlt : decide ((k : Int) < (ev.length : Int)) = true) (hc : Pure Tryz.prog 40 #[ratioV m.n m.d] (.int .i64 (0))) (hn : Pure Tryz.prog 72 #[.int .i64 (m.k)] (.bool true)) (hl : g.length + 1 ≤ 1000000) (hs : Value.int .i64 (IntKind.i64.wrap ((k : Int) + 1)) = .int .i64 (((k + 1 : Nat) : Int))) {e : Exit} {tm2 : List (Nat × SV)} {hp2 : List (Nat × Nat × SV)}
    (r : RunsL Tryz.prog 1 1 (loopOf Tryz.prog 53 0) 36 2 ([(0, .ls 0 ev.length), (3, .ls 1 (g ++ [m.k]).length), (6, .ls 0 ev.length), (7, .pv (.int .i64 (ev.length : Int))), (8, .pv (.int .i64 ((k + 1 : Nat) : Int)))]) ([(0, 0, rowE ev), (1, 0, zrI (g ++ [m.k]))]) e tm2 hp2) : RunsL Tryz.prog 1 1 (loopOf Tryz.prog 53 0) 36 2 ([(0, .ls 0 ev.length), (3, .ls 1 (g).length), (6, .ls 0 ev.length), (7, .pv (.int .i64 (ev.length : Int))), (8, .pv (.int .i64 (k : Int)))]) ([(0, 0, rowE ev), (1, 0, zrI (g))]) e tm2 hp2 :=
  RunsL.next [(1, 4)] 300 [.t true, .r (eventV m), .r (.int .i64 (0)), .k, .r (.bool true), .k, .r (.int .i64 (((k + 1 : Nat) : Int)))]
    (round_ofTH (And.intro (Eq.refl (SV.ls 0 ev.length)) (And.intro (ysn_ls 4 g m.k) (And.intro (Eq.refl (SV.ls 0 ev.length)) (And.intro (Eq.refl (SV.pv (.int .i64 (ev.length : Int)))) (And.intro (Eq.refl (SV.pv (.int .i64 ((k + 1 : Nat) : Int)))) True.intro))))) (And.intro (Eq.refl (some (rowE ev))) (And.intro (ysn_row g m.k) True.intro)) (And.intro hlt (And.intro hin (And.intro (ya_e hk) (And.intro hc (And.intro hn (And.intro hl (And.intro hs True.intro))))))) (by kernel_rfl)) r

set_option maxRecDepth 100000 in
theorem ef_end {g : List Int} {ev : List Ev} {k : Nat} (hge : decide ((k : Int) < (ev.length : Int)) = false) : RunsL Tryz.prog 1 1 (loopOf Tryz.prog 53 0) 36 2 ([(0, .ls 0 ev.length), (3, .ls 1 (g).length), (6, .ls 0 ev.length), (7, .pv (.int .i64 (ev.length : Int))), (8, .pv (.int .i64 (k : Int)))]) ([(0, 0, rowE ev), (1, 0, zrI (g))]) (.exit 0) ([(0, .ls 0 ev.length), (3, .ls 1 g.length)]) ([(0, 0, rowE ev), (1, 0, zrI (g))]) :=
  RunsL.stop [] 300 [.t false] (fun h => by cases h)
    (round_of (And.intro hge True.intro) (by kernel_rfl))

set_option maxRecDepth 100000 in
theorem co_next {wv : List Int} {x y : Int} {k j nn : Nat} (hx : wv[k]? = some x) (hin : 0 ≤ (k : Int) ∧ (k : Int) < (nn : Int)) (hy : wv[j]? = some y) (hij : 0 ≤ (j : Int) ∧ (j : Int) < (nn : Int)) (hlt : decide ((k : Int) < (nn : Int)) = true) (hm : Value.int .i64 (IntKind.i64.wrap ((k : Int) - 1)) = .int .i64 ((j : Int))) (hq : (x == y) = false) (hs : Value.int .i64 (IntKind.i64.wrap ((k : Int) + 1)) = .int .i64 (((k + 1 : Nat) : Int))) {e : Exit} {tm2 : List (Nat × SV)} {hp2 : List (Nat × Nat × SV)}
    (r : RunsL Tryz.prog 1 2 (loopOf Tryz.prog 90 0) 61 2 ([(0, .ls 1 nn), (3, .pv (.int .i64 ((k + 1 : Nat) : Int)))]) ([(1, 0, .row 3 1 nn (ziV (wv)))]) e tm2 hp2) : RunsL Tryz.prog 1 2 (loopOf Tryz.prog 90 0) 61 2 ([(0, .ls 1 nn), (3, .pv (.int .i64 (k : Int)))]) ([(1, 0, .row 3 1 nn (ziV (wv)))]) e tm2 hp2 :=
  RunsL.next [] 300 [.t true, .r (.int .i64 (x)), .r (.int .i64 ((j : Int))), .r (.int .i64 (y)), .t false, .r (.int .i64 (((k + 1 : Nat) : Int)))]
    (round_of (And.intro hlt (And.intro hin (And.intro (za_i hx) (And.intro hm (And.intro hij (And.intro (za_i hy) (And.intro hq (And.intro hs True.intro)))))))) (by kernel_rfl)) r

set_option maxRecDepth 100000 in
theorem co_end {wv : List Int} {k nn : Nat} (hge : decide ((k : Int) < (nn : Int)) = false) : RunsL Tryz.prog 1 2 (loopOf Tryz.prog 90 0) 61 2 ([(0, .ls 1 nn), (3, .pv (.int .i64 (k : Int)))]) ([(1, 0, .row 3 1 nn (ziV (wv)))]) (.exit 0) ([(0, .ls 1 nn)]) ([(1, 0, .row 3 1 nn (ziV (wv)))]) :=
  RunsL.stop [] 300 [.t false] (fun h => by cases h)
    (round_of (And.intro hge True.intro) (by kernel_rfl))

set_option maxRecDepth 100000 in
theorem ef_few_true {g s : List Int} {ev : List Ev} (r0 : RunsL Tryz.prog 1 1 (loopOf Tryz.prog 53 0) 36 2 ([(0, .ls 0 ev.length), (3, .ls 1 (([] : List Int)).length), (6, .ls 0 ev.length), (7, .pv (.int .i64 (ev.length : Int))), (8, .pv (.int .i64 ((0 : Nat) : Int)))]) ([(0, 0, rowE ev), (1, 0, zrI (([] : List Int)))]) (.exit 0) ([(0, .ls 0 ev.length), (3, .ls 1 g.length)]) ([(0, 0, rowE ev), (1, 0, zrI (g))])) (hso : FnM Tryz.prog 89 1 [.ls 0 g.length] [(0, 0, zrI g)] (.tuple #[]) 0 ⟨3, 1, g.length, ziV g⟩ (ziV s)) (h2 : decide ((g.length : Int) < 2) = true) (hl : ((g.length : Int) == (ev.length : Int)) = true) :
    FnL Tryz.prog 53 1 [.ls 0 ev.length] [(0, 0, rowE ev)] (.pv (.bool true)) 0 [] :=
  fnl_run 300 [] [.ln true 3 0 3 1, .l (.exit 0) ([(0, .ls 0 ev.length), (3, .ls 1 (([] : List Int)).length), (6, .ls 0 ev.length), (7, .pv (.int .i64 (ev.length : Int))), (8, .pv (.int .i64 ((0 : Nat) : Int)))]) ([(0, 0, rowE ev), (1, 0, zrI (([] : List Int)))]) ([(0, .ls 0 ev.length), (3, .ls 1 g.length)]) ([(0, 0, rowE ev), (1, 0, zrI (g))]), .m [1] [.ls 0 g.length] [(0, 0, zrI g)] (.tuple #[]) 0 (ziV s), .k, .t true, .t true]
     True.intro (And.intro (reflT (renN []) ([(0, .ls 0 ev.length), (3, .ls 1 (([] : List Int)).length), (6, .ls 0 ev.length), (7, .pv (.int .i64 (ev.length : Int))), (8, .pv (.int .i64 ((0 : Nat) : Int)))])) (And.intro (reflH (renN []) ([(0, 0, rowE ev), (1, 0, zrI (([] : List Int)))])) (And.intro r0 (And.intro hso (And.intro (Eq.refl (List.map (SV.ren (renU [1] 2)) [.ls 0 g.length])) (And.intro (reflH (renU [1] 2) [(0, 0, zrI g)]) (And.intro h2 (And.intro hl True.intro)))))))) (by kernel_rfl)

set_option maxRecDepth 100000 in
theorem ef_all_true {g s : List Int} {ev : List Ev} (r0 : RunsL Tryz.prog 1 1 (loopOf Tryz.prog 53 0) 36 2 ([(0, .ls 0 ev.length), (3, .ls 1 (([] : List Int)).length), (6, .ls 0 ev.length), (7, .pv (.int .i64 (ev.length : Int))), (8, .pv (.int .i64 ((0 : Nat) : Int)))]) ([(0, 0, rowE ev), (1, 0, zrI (([] : List Int)))]) (.exit 0) ([(0, .ls 0 ev.length), (3, .ls 1 g.length)]) ([(0, 0, rowE ev), (1, 0, zrI (g))])) (hso : FnM Tryz.prog 89 1 [.ls 0 g.length] [(0, 0, zrI g)] (.tuple #[]) 0 ⟨3, 1, g.length, ziV g⟩ (ziV s)) (h2 : decide ((g.length : Int) < 2) = false) (r2 : RunsL Tryz.prog 1 2 (loopOf Tryz.prog 90 0) 61 2 ([(0, .ls 1 g.length), (3, .pv (.int .i64 ((1 : Nat) : Int)))]) ([(1, 0, .row 3 1 g.length (ziV (s)))]) (.exit 0) ([(0, .ls 1 g.length)]) ([(1, 0, .row 3 1 g.length (ziV (s)))])) (hl : ((g.length : Int) == (ev.length : Int)) = true) :
    FnL Tryz.prog 53 1 [.ls 0 ev.length] [(0, 0, rowE ev)] (.pv (.bool true)) 0 [] :=
  fnl_run 300 [] [.ln true 3 0 3 1, .l (.exit 0) ([(0, .ls 0 ev.length), (3, .ls 1 (([] : List Int)).length), (6, .ls 0 ev.length), (7, .pv (.int .i64 (ev.length : Int))), (8, .pv (.int .i64 ((0 : Nat) : Int)))]) ([(0, 0, rowE ev), (1, 0, zrI (([] : List Int)))]) ([(0, .ls 0 ev.length), (3, .ls 1 g.length)]) ([(0, 0, rowE ev), (1, 0, zrI (g))]), .m [1] [.ls 0 g.length] [(0, 0, zrI g)] (.tuple #[]) 0 (ziV s), .k, .t false, .l (.exit 0) ([(0, .ls 1 g.length), (3, .pv (.int .i64 ((1 : Nat) : Int)))]) ([(1, 0, .row 3 1 g.length (ziV (s)))]) ([(0, .ls 1 g.length)]) ([(1, 0, .row 3 1 g.length (ziV (s)))]), .t true]
     True.intro (And.intro (reflT (renN []) ([(0, .ls 0 ev.length), (3, .ls 1 (([] : List Int)).length), (6, .ls 0 ev.length), (7, .pv (.int .i64 (ev.length : Int))), (8, .pv (.int .i64 ((0 : Nat) : Int)))])) (And.intro (reflH (renN []) ([(0, 0, rowE ev), (1, 0, zrI (([] : List Int)))])) (And.intro r0 (And.intro hso (And.intro (Eq.refl (List.map (SV.ren (renU [1] 2)) [.ls 0 g.length])) (And.intro (reflH (renU [1] 2) [(0, 0, zrI g)]) (And.intro h2 (And.intro (reflT (renN []) ([(0, .ls 1 g.length), (3, .pv (.int .i64 ((1 : Nat) : Int)))])) (And.intro (reflH (renN []) ([(1, 0, .row 3 1 g.length (ziV (s)))])) (And.intro r2 (And.intro hl True.intro))))))))))) (by kernel_rfl)

end Go.Proofs.YtclpegneiomakaaGreat
