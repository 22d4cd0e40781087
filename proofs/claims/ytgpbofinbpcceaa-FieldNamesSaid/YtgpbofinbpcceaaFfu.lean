/-
  The law's full field. Conditions: none.
-/
import Derived.Test.YtgpbofinbpcceaaFm
namespace Go.Proofs.Ytgpbofinbpcceaa
open Go.RowKit
set_option maxRecDepth 100000 in
theorem full_next {n k : Nat} {m : List Pt} {c : Int} (hlt : decide ((k : Int) < (n : Int)) = true) (hc : Value.int .i64 (IntKind.i64.wrap (2 * (k : Int))) = .int .i64 (c)) (hm : m.length + 1 ≤ 1000000) (hs : Value.int .i64 (IntKind.i64.wrap ((k : Int) + 1)) = .int .i64 (((k + 1 : Nat) : Int))) {e : Exit} {tm2 : List (Nat × SV)} {hp2 : List (Nat × Nat × SV)}
    (r : RunsL Try.prog 0 0 (loopOf Try.prog 9 0) 19 3 ([(0, .pv (.int .i64 (n : Int))), (2, .pp 0 0), (3, .pp 1 0), (4, .pv (.int .i64 ((k + 1 : Nat) : Int)))]) ([(0, 0, .pv (.slice none 0 0)), (1, 0, .ls 2 (m ++ [(Pt.mk c 0 0)]).length), (2, 0, rowP (m ++ [(Pt.mk c 0 0)]))]) e tm2 hp2) : RunsL Try.prog 0 0 (loopOf Try.prog 9 0) 19 3 ([(0, .pv (.int .i64 (n : Int))), (2, .pp 0 0), (3, .pp 1 0), (4, .pv (.int .i64 (k : Int)))]) ([(0, 0, .pv (.slice none 0 0)), (1, 0, .ls 2 (m).length), (2, 0, rowP (m))]) e tm2 hp2 :=
  RunsL.next [(2, 4)] 300 [.t true, .r (.int .i64 (c)), .r (.int .i64 (((k + 1 : Nat) : Int)))]
    (round_ofH (And.intro (Eq.refl (some (SV.pv (.slice none 0 0)))) (And.intro (snoc_ls 4 m (Pt.mk c 0 0)) (And.intro (snoc_row m (Pt.mk c 0 0)) True.intro))) (And.intro hlt (And.intro hc (And.intro hm (And.intro hs True.intro)))) (by kernel_rfl)) r

set_option maxRecDepth 100000 in
theorem full_end {n k : Nat} {m : List Pt} (hge : decide ((k : Int) < (n : Int)) = false) : RunsL Try.prog 0 0 (loopOf Try.prog 9 0) 19 3 ([(0, .pv (.int .i64 (n : Int))), (2, .pp 0 0), (3, .pp 1 0), (4, .pv (.int .i64 (k : Int)))]) ([(0, 0, .pv (.slice none 0 0)), (1, 0, .ls 2 (m).length), (2, 0, rowP (m))]) (.exit 0) ([(2, .pp 0 0), (3, .pp 1 0)]) ([(0, 0, .pv (.slice none 0 0)), (1, 0, .ls 2 (m).length), (2, 0, rowP (m))]) :=
  RunsL.stop [] 300 [.t false] (fun h => by cases h)
    (round_of (And.intro hge True.intro) (by kernel_rfl))

set_option maxRecDepth 100000 in
theorem full_path {n : Nat} {m : List Pt} (r0 : RunsL Try.prog 0 0 (loopOf Try.prog 9 0) 19 3 ([(0, .pv (.int .i64 (n : Int))), (2, .pp 0 0), (3, .pp 1 0), (4, .pv (.int .i64 ((0 : Nat) : Int)))]) ([(0, 0, .pv (.slice none 0 0)), (1, 0, .ls 2 (([] : List Pt)).length), (2, 0, rowP (([] : List Pt)))]) (.exit 0) ([(2, .pp 0 0), (3, .pp 1 0)]) ([(0, 0, .pv (.slice none 0 0)), (1, 0, .ls 2 (m).length), (2, 0, rowP (m))])) :
    FnL Try.prog 9 0 [.pv (.int .i64 ((n : Int)))] [] (.ag [.ls 0 m.length]) 1 [(0, 0, rowP m)] :=
  fnl_run 300 [(0, 2)] [.ln false 1 0 27 3, .l (.exit 0) ([(0, .pv (.int .i64 (n : Int))), (2, .pp 0 0), (3, .pp 1 0), (4, .pv (.int .i64 ((0 : Nat) : Int)))]) ([(0, 0, .pv (.slice none 0 0)), (1, 0, .ls 2 (([] : List Pt)).length), (2, 0, rowP (([] : List Pt)))]) ([(2, .pp 0 0), (3, .pp 1 0)]) ([(0, 0, .pv (.slice none 0 0)), (1, 0, .ls 2 (m).length), (2, 0, rowP (m))])]
     (reflH (renN [(0, 2)]) [(0, 0, rowP m)]) (And.intro (reflT (renN []) ([(0, .pv (.int .i64 (n : Int))), (2, .pp 0 0), (3, .pp 1 0), (4, .pv (.int .i64 ((0 : Nat) : Int)))])) (And.intro (reflH (renN []) ([(0, 0, .pv (.slice none 0 0)), (1, 0, .ls 2 (([] : List Pt)).length), (2, 0, rowP (([] : List Pt)))])) (And.intro r0 True.intro))) (by kernel_rfl)


/-- What full(n) holds. -/
def fullL (n : Nat) : List Pt := (List.range n).map fun (i : Nat) => ⟨2 * (i : Int), 0, 0⟩
theorem fullL_succ (n : Nat) : fullL (n + 1) = fullL n ++ [⟨2 * (n : Int), 0, 0⟩] := by unfold fullL; rw [List.range_succ, List.map_append]; rfl
theorem fullL_len (n : Nat) : (fullL n).length = n := by unfold fullL; simp
theorem Full_any {n : Nat} (hn : n ≤ 1000) : FnL Try.prog 9 0 [.pv (.int .i64 (n : Int))] [] (.ag [.ls 0 (fullL n).length]) 1 [(0, 0, rowP (fullL n))] :=
  full_path (RunsL.rounds (fun k => [(0, .pv (.int .i64 (n : Int))), (2, .pp 0 0), (3, .pp 1 0), (4, .pv (.int .i64 (k : Int)))]) (fun k => [(0, 0, .pv (.slice none 0 0)), (1, 0, .ls 2 (fullL k).length), (2, 0, rowP (fullL k))]) n 0 (Nat.zero_add _)
    (fun k _ hk r => by
      rw [fullL_succ] at r
      exact full_next (dt (by omega)) (by rw [wrap_i64_in (by omega) (by omega)]) (by rw [fullL_len]; omega) (i64_succ (by omega)) r)
    (full_end (df (by omega))))

end Go.Proofs.Ytgpbofinbpcceaa
