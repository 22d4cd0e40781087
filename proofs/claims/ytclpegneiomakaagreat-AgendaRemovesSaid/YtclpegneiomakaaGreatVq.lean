/-
  The law AgendaRemoves: its loops. Conditions: none.
-/
import Derived.Test.YtclpegneiomakaaGreatW32
namespace Go.Proofs.YtclpegneiomakaaGreat
open Go.RowKit
theorem vloopE {Q : Nat → List Ev → List Ev → Prop} {n : Nat} (hn : n ≤ 1000000) (next : ∀ k g g' m, k < n → k < g.length → g[k]? = some m → Q (k + 1) (g.set k ⟨m.n, m.d, IntKind.i64.wrap (m.k + 1), m.i, m.w⟩) g' → Q k g g') (stop : ∀ k g, ¬ k < n → Q k g g) : ∀ (d k : Nat) (g : List Ev), k + d = n → g.length = n → ∃ g', Q k g g'
  | 0, k, g, hk, _ => ⟨g, stop k g (by omega)⟩
  | d + 1, k, g, hk, hl => by
    have hx : g[k]? = some (g[k]'(by omega)) := List.getElem?_eq_getElem (by omega)
    obtain ⟨g', r⟩ := vloopE hn next stop d (k + 1) (g.set k ⟨g[k].n, g[k].d, IntKind.i64.wrap (g[k].k + 1), g[k].i, g[k].w⟩) (by omega) (by rw [List.length_set]; exact hl)
    exact ⟨g', next k g g' _ (by omega) (by omega) hx r⟩
theorem vloopI {Q : Nat → List Int → List Int → Prop} {n : Nat} (hn : n ≤ 1000000) (next : ∀ k g g' x, k < n → k < g.length → g[k]? = some x → Q (k + 1) (g.set k (IntKind.i64.wrap (x + 1))) g' → Q k g g') (stop : ∀ k g, ¬ k < n → Q k g g) : ∀ (d k : Nat) (g : List Int), k + d = n → g.length = n → ∃ g', Q k g g'
  | 0, k, g, h, _ => ⟨g, stop k g (by omega)⟩
  | d + 1, k, g, h, hl => by
    have hk : k < g.length := by omega
    obtain ⟨g', r⟩ := vloopI hn next stop d (k + 1) (g.set k (IntKind.i64.wrap (g[k] + 1))) (by omega) (by rw [List.length_set]; exact hl)
    exact ⟨g', next k g g' g[k] (by omega) hk (List.getElem?_eq_getElem hk) r⟩

theorem arL0_111 {u fr wh u2 f2 wh3 u4 f4 wh4 u5 f5 wh5 : List Int} {b b2 b4 b5 : List Bool} {ev ev3 ev4 ev5 : List Ev} {x y : Ev} (hn : ev.length ≤ 1000000) : ∃ v', RunsL Tryz.prog 5 5 (loopOf Tryz.prog 5 0) 142 54 ((7, .pp 13 0) :: (24, vpI ((0 : Nat) : Int)) :: (vt111)) (vpB u b fr ev wh ev wh ++ (vh111 u2 f2 wh3 u4 f4 wh4 u5 f5 wh5 b2 b4 b5 ev3 ev4 ev5 x y)) (.exit 0) ((7, .pp 13 0) :: (vt111)) (vpB u b fr ev wh v' wh ++ (vh111 u2 f2 wh3 u4 f4 wh4 u5 f5 wh5 b2 b4 b5 ev3 ev4 ev5 x y)) :=
  vloopE (Q := fun q v v' => RunsL Tryz.prog 5 5 (loopOf Tryz.prog 5 0) 142 54 ((7, .pp 13 0) :: (24, vpI (q : Int)) :: (vt111)) (vpB u b fr ev wh v wh ++ (vh111 u2 f2 wh3 u4 f4 wh4 u5 f5 wh5 b2 b4 b5 ev3 ev4 ev5 x y)) (.exit 0) ((7, .pp 13 0) :: (vt111)) (vpB u b fr ev wh v' wh ++ (vh111 u2 f2 wh3 u4 f4 wh4 u5 f5 wh5 b2 b4 b5 ev3 ev4 ev5 x y))) hn
    (fun k g g' x h1 h2 h3 r => ar0_111 (by omega) h2 (decide_eq_true (by omega)) h3 rfl (z_succ (by omega)) r) (fun k g h => ar0e_111 (decide_eq_false (by omega))) ev.length 0 ev (by omega) rfl

theorem arL1_111 {u fr wh u2 f2 wh3 u4 f4 wh4 u5 f5 wh5 : List Int} {b b2 b4 b5 : List Bool} {ev ev3 ev4 ev5 g1 : List Ev} {x y : Ev} (hn : wh.length ≤ 1000000) : ∃ v', RunsL Tryz.prog 5 5 (loopOf Tryz.prog 5 1) 142 54 ((7, .pp 13 0) :: (25, vpI ((0 : Nat) : Int)) :: (vt111)) (vpB u b fr ev wh g1 wh ++ (vh111 u2 f2 wh3 u4 f4 wh4 u5 f5 wh5 b2 b4 b5 ev3 ev4 ev5 x y)) (.exit 2) ((7, .pp 13 0) :: (vt111)) (vpB u b fr ev wh g1 v' ++ (vh111 u2 f2 wh3 u4 f4 wh4 u5 f5 wh5 b2 b4 b5 ev3 ev4 ev5 x y)) :=
  vloopI (Q := fun q v v' => RunsL Tryz.prog 5 5 (loopOf Tryz.prog 5 1) 142 54 ((7, .pp 13 0) :: (25, vpI (q : Int)) :: (vt111)) (vpB u b fr ev wh g1 v ++ (vh111 u2 f2 wh3 u4 f4 wh4 u5 f5 wh5 b2 b4 b5 ev3 ev4 ev5 x y)) (.exit 2) ((7, .pp 13 0) :: (vt111)) (vpB u b fr ev wh g1 v' ++ (vh111 u2 f2 wh3 u4 f4 wh4 u5 f5 wh5 b2 b4 b5 ev3 ev4 ev5 x y))) hn
    (fun k g g' x h1 h2 h3 r => ar1_111 (by omega) h2 (decide_eq_true (by omega)) h3 rfl (z_succ (by omega)) r) (fun k g h => ar1e_111 (decide_eq_false (by omega))) wh.length 0 wh (by omega) rfl

theorem arL0_110 {u fr wh u2 f2 wh3 u4 f4 wh4 : List Int} {b b2 b4 : List Bool} {ev ev3 ev4 : List Ev} {x y : Ev} {e3 : Int} (hn : ev.length ≤ 1000000) : ∃ v', RunsL Tryz.prog 5 5 (loopOf Tryz.prog 5 0) 142 44 ((7, .pp 13 0) :: (24, vpI ((0 : Nat) : Int)) :: (vt110 e3)) (vpB u b fr ev wh ev wh ++ (vh110 u2 f2 wh3 u4 f4 wh4 b2 b4 ev3 ev4 x y)) (.exit 0) ((7, .pp 13 0) :: (vt110 e3)) (vpB u b fr ev wh v' wh ++ (vh110 u2 f2 wh3 u4 f4 wh4 b2 b4 ev3 ev4 x y)) :=
  vloopE (Q := fun q v v' => RunsL Tryz.prog 5 5 (loopOf Tryz.prog 5 0) 142 44 ((7, .pp 13 0) :: (24, vpI (q : Int)) :: (vt110 e3)) (vpB u b fr ev wh v wh ++ (vh110 u2 f2 wh3 u4 f4 wh4 b2 b4 ev3 ev4 x y)) (.exit 0) ((7, .pp 13 0) :: (vt110 e3)) (vpB u b fr ev wh v' wh ++ (vh110 u2 f2 wh3 u4 f4 wh4 b2 b4 ev3 ev4 x y))) hn
    (fun k g g' x h1 h2 h3 r => ar0_110 (by omega) h2 (decide_eq_true (by omega)) h3 rfl (z_succ (by omega)) r) (fun k g h => ar0e_110 (decide_eq_false (by omega))) ev.length 0 ev (by omega) rfl

theorem arL1_110 {u fr wh u2 f2 wh3 u4 f4 wh4 : List Int} {b b2 b4 : List Bool} {ev ev3 ev4 g1 : List Ev} {x y : Ev} {e3 : Int} (hn : wh.length ≤ 1000000) : ∃ v', RunsL Tryz.prog 5 5 (loopOf Tryz.prog 5 1) 142 44 ((7, .pp 13 0) :: (25, vpI ((0 : Nat) : Int)) :: (vt110 e3)) (vpB u b fr ev wh g1 wh ++ (vh110 u2 f2 wh3 u4 f4 wh4 b2 b4 ev3 ev4 x y)) (.exit 2) ((7, .pp 13 0) :: (vt110 e3)) (vpB u b fr ev wh g1 v' ++ (vh110 u2 f2 wh3 u4 f4 wh4 b2 b4 ev3 ev4 x y)) :=
  vloopI (Q := fun q v v' => RunsL Tryz.prog 5 5 (loopOf Tryz.prog 5 1) 142 44 ((7, .pp 13 0) :: (25, vpI (q : Int)) :: (vt110 e3)) (vpB u b fr ev wh g1 v ++ (vh110 u2 f2 wh3 u4 f4 wh4 b2 b4 ev3 ev4 x y)) (.exit 2) ((7, .pp 13 0) :: (vt110 e3)) (vpB u b fr ev wh g1 v' ++ (vh110 u2 f2 wh3 u4 f4 wh4 b2 b4 ev3 ev4 x y))) hn
    (fun k g g' x h1 h2 h3 r => ar1_110 (by omega) h2 (decide_eq_true (by omega)) h3 rfl (z_succ (by omega)) r) (fun k g h => ar1e_110 (decide_eq_false (by omega))) wh.length 0 wh (by omega) rfl

theorem arL0_101 {u fr wh u2 f2 wh3 u5 f5 wh5 : List Int} {b b2 b5 : List Bool} {ev ev3 ev5 : List Ev} {x : Ev} {e2 : Int} (hn : ev.length ≤ 1000000) : ∃ v', RunsL Tryz.prog 5 5 (loopOf Tryz.prog 5 0) 142 44 ((7, .pp 13 0) :: (24, vpI ((0 : Nat) : Int)) :: (vt101 e2)) (vpB u b fr ev wh ev wh ++ (vh101 u2 f2 wh3 u5 f5 wh5 b2 b5 ev3 ev5 x)) (.exit 0) ((7, .pp 13 0) :: (vt101 e2)) (vpB u b fr ev wh v' wh ++ (vh101 u2 f2 wh3 u5 f5 wh5 b2 b5 ev3 ev5 x)) :=
  vloopE (Q := fun q v v' => RunsL Tryz.prog 5 5 (loopOf Tryz.prog 5 0) 142 44 ((7, .pp 13 0) :: (24, vpI (q : Int)) :: (vt101 e2)) (vpB u b fr ev wh v wh ++ (vh101 u2 f2 wh3 u5 f5 wh5 b2 b5 ev3 ev5 x)) (.exit 0) ((7, .pp 13 0) :: (vt101 e2)) (vpB u b fr ev wh v' wh ++ (vh101 u2 f2 wh3 u5 f5 wh5 b2 b5 ev3 ev5 x))) hn
    (fun k g g' x h1 h2 h3 r => ar0_101 (by omega) h2 (decide_eq_true (by omega)) h3 rfl (z_succ (by omega)) r) (fun k g h => ar0e_101 (decide_eq_false (by omega))) ev.length 0 ev (by omega) rfl

theorem arL1_101 {u fr wh u2 f2 wh3 u5 f5 wh5 : List Int} {b b2 b5 : List Bool} {ev ev3 ev5 g1 : List Ev} {x : Ev} {e2 : Int} (hn : wh.length ≤ 1000000) : ∃ v', RunsL Tryz.prog 5 5 (loopOf Tryz.prog 5 1) 142 44 ((7, .pp 13 0) :: (25, vpI ((0 : Nat) : Int)) :: (vt101 e2)) (vpB u b fr ev wh g1 wh ++ (vh101 u2 f2 wh3 u5 f5 wh5 b2 b5 ev3 ev5 x)) (.exit 2) ((7, .pp 13 0) :: (vt101 e2)) (vpB u b fr ev wh g1 v' ++ (vh101 u2 f2 wh3 u5 f5 wh5 b2 b5 ev3 ev5 x)) :=
  vloopI (Q := fun q v v' => RunsL Tryz.prog 5 5 (loopOf Tryz.prog 5 1) 142 44 ((7, .pp 13 0) :: (25, vpI (q : Int)) :: (vt101 e2)) (vpB u b fr ev wh g1 v ++ (vh101 u2 f2 wh3 u5 f5 wh5 b2 b5 ev3 ev5 x)) (.exit 2) ((7, .pp 13 0) :: (vt101 e2)) (vpB u b fr ev wh g1 v' ++ (vh101 u2 f2 wh3 u5 f5 wh5 b2 b5 ev3 ev5 x))) hn
    (fun k g g' x h1 h2 h3 r => ar1_101 (by omega) h2 (decide_eq_true (by omega)) h3 rfl (z_succ (by omega)) r) (fun k g h => ar1e_101 (decide_eq_false (by omega))) wh.length 0 wh (by omega) rfl

theorem arL0_100 {u fr wh u2 f2 wh3 : List Int} {b b2 : List Bool} {ev ev3 : List Ev} {x : Ev} {e2 e3 : Int} (hn : ev.length ≤ 1000000) : ∃ v', RunsL Tryz.prog 5 5 (loopOf Tryz.prog 5 0) 142 34 ((7, .pp 13 0) :: (24, vpI ((0 : Nat) : Int)) :: (vt100 e2 e3)) (vpB u b fr ev wh ev wh ++ (vh100 u2 f2 wh3 b2 ev3 x)) (.exit 0) ((7, .pp 13 0) :: (vt100 e2 e3)) (vpB u b fr ev wh v' wh ++ (vh100 u2 f2 wh3 b2 ev3 x)) :=
  vloopE (Q := fun q v v' => RunsL Tryz.prog 5 5 (loopOf Tryz.prog 5 0) 142 34 ((7, .pp 13 0) :: (24, vpI (q : Int)) :: (vt100 e2 e3)) (vpB u b fr ev wh v wh ++ (vh100 u2 f2 wh3 b2 ev3 x)) (.exit 0) ((7, .pp 13 0) :: (vt100 e2 e3)) (vpB u b fr ev wh v' wh ++ (vh100 u2 f2 wh3 b2 ev3 x))) hn
    (fun k g g' x h1 h2 h3 r => ar0_100 (by omega) h2 (decide_eq_true (by omega)) h3 rfl (z_succ (by omega)) r) (fun k g h => ar0e_100 (decide_eq_false (by omega))) ev.length 0 ev (by omega) rfl

theorem arL1_100 {u fr wh u2 f2 wh3 : List Int} {b b2 : List Bool} {ev ev3 g1 : List Ev} {x : Ev} {e2 e3 : Int} (hn : wh.length ≤ 1000000) : ∃ v', RunsL Tryz.prog 5 5 (loopOf Tryz.prog 5 1) 142 34 ((7, .pp 13 0) :: (25, vpI ((0 : Nat) : Int)) :: (vt100 e2 e3)) (vpB u b fr ev wh g1 wh ++ (vh100 u2 f2 wh3 b2 ev3 x)) (.exit 2) ((7, .pp 13 0) :: (vt100 e2 e3)) (vpB u b fr ev wh g1 v' ++ (vh100 u2 f2 wh3 b2 ev3 x)) :=
  vloopI (Q := fun q v v' => RunsL Tryz.prog 5 5 (loopOf Tryz.prog 5 1) 142 34 ((7, .pp 13 0) :: (25, vpI (q : Int)) :: (vt100 e2 e3)) (vpB u b fr ev wh g1 v ++ (vh100 u2 f2 wh3 b2 ev3 x)) (.exit 2) ((7, .pp 13 0) :: (vt100 e2 e3)) (vpB u b fr ev wh g1 v' ++ (vh100 u2 f2 wh3 b2 ev3 x))) hn
    (fun k g g' x h1 h2 h3 r => ar1_100 (by omega) h2 (decide_eq_true (by omega)) h3 rfl (z_succ (by omega)) r) (fun k g h => ar1e_100 (decide_eq_false (by omega))) wh.length 0 wh (by omega) rfl

theorem arL0_011 {u fr wh u4 f4 wh4 u5 f5 wh5 : List Int} {b b4 b5 : List Bool} {ev ev4 ev5 : List Ev} {y : Ev} {e1 : Int} (hn : ev.length ≤ 1000000) : ∃ v', RunsL Tryz.prog 5 5 (loopOf Tryz.prog 5 0) 142 44 ((7, .pp 13 0) :: (24, vpI ((0 : Nat) : Int)) :: (vt011 e1)) (vpB u b fr ev wh ev wh ++ (vh011 u4 f4 wh4 u5 f5 wh5 b4 b5 ev4 ev5 y)) (.exit 0) ((7, .pp 13 0) :: (vt011 e1)) (vpB u b fr ev wh v' wh ++ (vh011 u4 f4 wh4 u5 f5 wh5 b4 b5 ev4 ev5 y)) :=
  vloopE (Q := fun q v v' => RunsL Tryz.prog 5 5 (loopOf Tryz.prog 5 0) 142 44 ((7, .pp 13 0) :: (24, vpI (q : Int)) :: (vt011 e1)) (vpB u b fr ev wh v wh ++ (vh011 u4 f4 wh4 u5 f5 wh5 b4 b5 ev4 ev5 y)) (.exit 0) ((7, .pp 13 0) :: (vt011 e1)) (vpB u b fr ev wh v' wh ++ (vh011 u4 f4 wh4 u5 f5 wh5 b4 b5 ev4 ev5 y))) hn
    (fun k g g' x h1 h2 h3 r => ar0_011 (by omega) h2 (decide_eq_true (by omega)) h3 rfl (z_succ (by omega)) r) (fun k g h => ar0e_011 (decide_eq_false (by omega))) ev.length 0 ev (by omega) rfl

theorem arL1_011 {u fr wh u4 f4 wh4 u5 f5 wh5 : List Int} {b b4 b5 : List Bool} {ev ev4 ev5 g1 : List Ev} {y : Ev} {e1 : Int} (hn : wh.length ≤ 1000000) : ∃ v', RunsL Tryz.prog 5 5 (loopOf Tryz.prog 5 1) 142 44 ((7, .pp 13 0) :: (25, vpI ((0 : Nat) : Int)) :: (vt011 e1)) (vpB u b fr ev wh g1 wh ++ (vh011 u4 f4 wh4 u5 f5 wh5 b4 b5 ev4 ev5 y)) (.exit 2) ((7, .pp 13 0) :: (vt011 e1)) (vpB u b fr ev wh g1 v' ++ (vh011 u4 f4 wh4 u5 f5 wh5 b4 b5 ev4 ev5 y)) :=
  vloopI (Q := fun q v v' => RunsL Tryz.prog 5 5 (loopOf Tryz.prog 5 1) 142 44 ((7, .pp 13 0) :: (25, vpI (q : Int)) :: (vt011 e1)) (vpB u b fr ev wh g1 v ++ (vh011 u4 f4 wh4 u5 f5 wh5 b4 b5 ev4 ev5 y)) (.exit 2) ((7, .pp 13 0) :: (vt011 e1)) (vpB u b fr ev wh g1 v' ++ (vh011 u4 f4 wh4 u5 f5 wh5 b4 b5 ev4 ev5 y))) hn
    (fun k g g' x h1 h2 h3 r => ar1_011 (by omega) h2 (decide_eq_true (by omega)) h3 rfl (z_succ (by omega)) r) (fun k g h => ar1e_011 (decide_eq_false (by omega))) wh.length 0 wh (by omega) rfl

theorem arL0_010 {u fr wh u4 f4 wh4 : List Int} {b b4 : List Bool} {ev ev4 : List Ev} {y : Ev} {e1 e3 : Int} (hn : ev.length ≤ 1000000) : ∃ v', RunsL Tryz.prog 5 5 (loopOf Tryz.prog 5 0) 142 34 ((7, .pp 13 0) :: (24, vpI ((0 : Nat) : Int)) :: (vt010 e1 e3)) (vpB u b fr ev wh ev wh ++ (vh010 u4 f4 wh4 b4 ev4 y)) (.exit 0) ((7, .pp 13 0) :: (vt010 e1 e3)) (vpB u b fr ev wh v' wh ++ (vh010 u4 f4 wh4 b4 ev4 y)) :=
  vloopE (Q := fun q v v' => RunsL Tryz.prog 5 5 (loopOf Tryz.prog 5 0) 142 34 ((7, .pp 13 0) :: (24, vpI (q : Int)) :: (vt010 e1 e3)) (vpB u b fr ev wh v wh ++ (vh010 u4 f4 wh4 b4 ev4 y)) (.exit 0) ((7, .pp 13 0) :: (vt010 e1 e3)) (vpB u b fr ev wh v' wh ++ (vh010 u4 f4 wh4 b4 ev4 y))) hn
    (fun k g g' x h1 h2 h3 r => ar0_010 (by omega) h2 (decide_eq_true (by omega)) h3 rfl (z_succ (by omega)) r) (fun k g h => ar0e_010 (decide_eq_false (by omega))) ev.length 0 ev (by omega) rfl

theorem arL1_010 {u fr wh u4 f4 wh4 : List Int} {b b4 : List Bool} {ev ev4 g1 : List Ev} {y : Ev} {e1 e3 : Int} (hn : wh.length ≤ 1000000) : ∃ v', RunsL Tryz.prog 5 5 (loopOf Tryz.prog 5 1) 142 34 ((7, .pp 13 0) :: (25, vpI ((0 : Nat) : Int)) :: (vt010 e1 e3)) (vpB u b fr ev wh g1 wh ++ (vh010 u4 f4 wh4 b4 ev4 y)) (.exit 2) ((7, .pp 13 0) :: (vt010 e1 e3)) (vpB u b fr ev wh g1 v' ++ (vh010 u4 f4 wh4 b4 ev4 y)) :=
  vloopI (Q := fun q v v' => RunsL Tryz.prog 5 5 (loopOf Tryz.prog 5 1) 142 34 ((7, .pp 13 0) :: (25, vpI (q : Int)) :: (vt010 e1 e3)) (vpB u b fr ev wh g1 v ++ (vh010 u4 f4 wh4 b4 ev4 y)) (.exit 2) ((7, .pp 13 0) :: (vt010 e1 e3)) (vpB u b fr ev wh g1 v' ++ (vh010 u4 f4 wh4 b4 ev4 y))) hn
    (fun k g g' x h1 h2 h3 r => ar1_010 (by omega) h2 (decide_eq_true (by omega)) h3 rfl (z_succ (by omega)) r) (fun k g h => ar1e_010 (decide_eq_false (by omega))) wh.length 0 wh (by omega) rfl

theorem arL0_001 {u fr wh u5 f5 wh5 : List Int} {b b5 : List Bool} {ev ev5 : List Ev} {e1 e2 : Int} (hn : ev.length ≤ 1000000) : ∃ v', RunsL Tryz.prog 5 5 (loopOf Tryz.prog 5 0) 142 34 ((7, .pp 13 0) :: (24, vpI ((0 : Nat) : Int)) :: (vt001 e1 e2)) (vpB u b fr ev wh ev wh ++ (vh001 u5 f5 wh5 b5 ev5)) (.exit 0) ((7, .pp 13 0) :: (vt001 e1 e2)) (vpB u b fr ev wh v' wh ++ (vh001 u5 f5 wh5 b5 ev5)) :=
  vloopE (Q := fun q v v' => RunsL Tryz.prog 5 5 (loopOf Tryz.prog 5 0) 142 34 ((7, .pp 13 0) :: (24, vpI (q : Int)) :: (vt001 e1 e2)) (vpB u b fr ev wh v wh ++ (vh001 u5 f5 wh5 b5 ev5)) (.exit 0) ((7, .pp 13 0) :: (vt001 e1 e2)) (vpB u b fr ev wh v' wh ++ (vh001 u5 f5 wh5 b5 ev5))) hn
    (fun k g g' x h1 h2 h3 r => ar0_001 (by omega) h2 (decide_eq_true (by omega)) h3 rfl (z_succ (by omega)) r) (fun k g h => ar0e_001 (decide_eq_false (by omega))) ev.length 0 ev (by omega) rfl

theorem arL1_001 {u fr wh u5 f5 wh5 : List Int} {b b5 : List Bool} {ev ev5 g1 : List Ev} {e1 e2 : Int} (hn : wh.length ≤ 1000000) : ∃ v', RunsL Tryz.prog 5 5 (loopOf Tryz.prog 5 1) 142 34 ((7, .pp 13 0) :: (25, vpI ((0 : Nat) : Int)) :: (vt001 e1 e2)) (vpB u b fr ev wh g1 wh ++ (vh001 u5 f5 wh5 b5 ev5)) (.exit 2) ((7, .pp 13 0) :: (vt001 e1 e2)) (vpB u b fr ev wh g1 v' ++ (vh001 u5 f5 wh5 b5 ev5)) :=
  vloopI (Q := fun q v v' => RunsL Tryz.prog 5 5 (loopOf Tryz.prog 5 1) 142 34 ((7, .pp 13 0) :: (25, vpI (q : Int)) :: (vt001 e1 e2)) (vpB u b fr ev wh g1 v ++ (vh001 u5 f5 wh5 b5 ev5)) (.exit 2) ((7, .pp 13 0) :: (vt001 e1 e2)) (vpB u b fr ev wh g1 v' ++ (vh001 u5 f5 wh5 b5 ev5))) hn
    (fun k g g' x h1 h2 h3 r => ar1_001 (by omega) h2 (decide_eq_true (by omega)) h3 rfl (z_succ (by omega)) r) (fun k g h => ar1e_001 (decide_eq_false (by omega))) wh.length 0 wh (by omega) rfl

theorem arL0_000 {u fr wh : List Int} {b : List Bool} {ev : List Ev} {e1 e2 e3 : Int} (hn : ev.length ≤ 1000000) : ∃ v', RunsL Tryz.prog 5 5 (loopOf Tryz.prog 5 0) 142 24 ((7, .pp 13 0) :: (24, vpI ((0 : Nat) : Int)) :: (vt000 e1 e2 e3)) (vpB u b fr ev wh ev wh ++ (vh000)) (.exit 0) ((7, .pp 13 0) :: (vt000 e1 e2 e3)) (vpB u b fr ev wh v' wh ++ (vh000)) :=
  vloopE (Q := fun q v v' => RunsL Tryz.prog 5 5 (loopOf Tryz.prog 5 0) 142 24 ((7, .pp 13 0) :: (24, vpI (q : Int)) :: (vt000 e1 e2 e3)) (vpB u b fr ev wh v wh ++ (vh000)) (.exit 0) ((7, .pp 13 0) :: (vt000 e1 e2 e3)) (vpB u b fr ev wh v' wh ++ (vh000))) hn
    (fun k g g' x h1 h2 h3 r => ar0_000 (by omega) h2 (decide_eq_true (by omega)) h3 rfl (z_succ (by omega)) r) (fun k g h => ar0e_000 (decide_eq_false (by omega))) ev.length 0 ev (by omega) rfl

theorem arL1_000 {u fr wh : List Int} {b : List Bool} {ev g1 : List Ev} {e1 e2 e3 : Int} (hn : wh.length ≤ 1000000) : ∃ v', RunsL Tryz.prog 5 5 (loopOf Tryz.prog 5 1) 142 24 ((7, .pp 13 0) :: (25, vpI ((0 : Nat) : Int)) :: (vt000 e1 e2 e3)) (vpB u b fr ev wh g1 wh ++ (vh000)) (.exit 2) ((7, .pp 13 0) :: (vt000 e1 e2 e3)) (vpB u b fr ev wh g1 v' ++ (vh000)) :=
  vloopI (Q := fun q v v' => RunsL Tryz.prog 5 5 (loopOf Tryz.prog 5 1) 142 24 ((7, .pp 13 0) :: (25, vpI (q : Int)) :: (vt000 e1 e2 e3)) (vpB u b fr ev wh g1 v ++ (vh000)) (.exit 2) ((7, .pp 13 0) :: (vt000 e1 e2 e3)) (vpB u b fr ev wh g1 v' ++ (vh000))) hn
    (fun k g g' x h1 h2 h3 r => ar1_000 (by omega) h2 (decide_eq_true (by omega)) h3 rfl (z_succ (by omega)) r) (fun k g h => ar1e_000 (decide_eq_false (by omega))) wh.length 0 wh (by omega) rfl

end Go.Proofs.YtclpegneiomakaaGreat
