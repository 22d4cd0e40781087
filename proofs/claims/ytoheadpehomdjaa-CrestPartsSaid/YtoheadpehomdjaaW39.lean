/-
  Joined: Hn, Hp. Conditions: none.
-/
import Derived.Test.YtoheadpehomdjaaHg
import Derived.Test.YtoheadpehomdjaaW32
namespace Go.Proofs.Ytoheadpehomdjaa
open Go.RowKit
set_option maxRecDepth 100000 in
theorem fa_next {l : List Pt} {s : List Ld} {k : Nat} {x : Ld} {p : Pt} (hk : s[k]? = some x) (hin : 0 ≤ (k : Int) ∧ (k : Int) < (s.length : Int)) (hlt : decide ((k : Int) < (s.length : Int)) = true) (hf : FnL Try.prog 40 1 [fldS 0 l, .pv (.int .i64 (x.id))] [(0, 0, rowP l)] (.pv (.tuple #[ptV p, .int .i64 0])) 0 []) (hs : Value.int .i64 (IntKind.i64.wrap ((k : Int) + 1)) = .int .i64 (((k + 1 : Nat) : Int))) {e : Exit} {tm2 : List (Nat × SV)} {hp2 : List (Nat × Nat × SV)}
    (r : RunsL Try.prog 2 2 (loopOf Try.prog 23 0) 26 3 ([(2, .pp 2 0), (9, .ls 1 s.length), (10, .pv (.int .i64 (s.length : Int))), (11, .pv (.int .i64 ((k + 1 : Nat) : Int)))]) ([(2, 0, .ls 0 l.length), (0, 0, rowP l), (1, 0, rowL s)]) e tm2 hp2) : RunsL Try.prog 2 2 (loopOf Try.prog 23 0) 26 3 ([(2, .pp 2 0), (9, .ls 1 s.length), (10, .pv (.int .i64 (s.length : Int))), (11, .pv (.int .i64 (k : Int)))]) ([(2, 0, .ls 0 l.length), (0, 0, rowP l), (1, 0, rowL s)]) e tm2 hp2 :=
  RunsL.next [] 300 [.t true, .r (leadV x), .f [0] [fldS 0 l, .pv (.int .i64 (x.id))] [(0, 0, rowP l)] (.pv (.tuple #[ptV p, .int .i64 0])) 0 [], .k, .r (.int .i64 (((k + 1 : Nat) : Int)))]
    (round_of (And.intro hlt (And.intro hin (And.intro (ra_ld hk) (And.intro hf (And.intro (Eq.refl (List.map (SV.ren (renU [0] 4)) [fldS 0 l, .pv (.int .i64 (x.id))])) (And.intro (reflH (renU [0] 4) [(0, 0, rowP l)]) (And.intro hs True.intro))))))) (by kernel_rfl)) r

set_option maxRecDepth 100000 in
theorem fa_end {l : List Pt} {s : List Ld} {k : Nat} (hge : decide ((k : Int) < (s.length : Int)) = false) : RunsL Try.prog 2 2 (loopOf Try.prog 23 0) 26 3 ([(2, .pp 2 0), (9, .ls 1 s.length), (10, .pv (.int .i64 (s.length : Int))), (11, .pv (.int .i64 (k : Int)))]) ([(2, 0, .ls 0 l.length), (0, 0, rowP l), (1, 0, rowL s)]) (.exit 0) ([]) ([]) :=
  RunsL.stop [] 300 [.t false] (fun h => by cases h)
    (round_of (And.intro hge True.intro) (by kernel_rfl))

set_option maxRecDepth 100000 in
theorem fa_path {l : List Pt} {s : List Ld} (r0 : RunsL Try.prog 2 2 (loopOf Try.prog 23 0) 26 3 ([(2, .pp 2 0), (9, .ls 1 s.length), (10, .pv (.int .i64 (s.length : Int))), (11, .pv (.int .i64 ((0 : Nat) : Int)))]) ([(2, 0, .ls 0 l.length), (0, 0, rowP l), (1, 0, rowL s)]) (.exit 0) ([]) ([])) :
    FnL Try.prog 23 2 [fldS 0 l, .ls 1 s.length] [(0, 0, rowP l), (1, 0, rowL s)] (.pv (.int .i64 (0))) 0 [] :=
  fnl_run 300 [] [.l (.exit 0) ([(2, .pp 2 0), (9, .ls 1 s.length), (10, .pv (.int .i64 (s.length : Int))), (11, .pv (.int .i64 ((0 : Nat) : Int)))]) ([(2, 0, .ls 0 l.length), (0, 0, rowP l), (1, 0, rowL s)]) ([]) ([])]
     True.intro (And.intro (reflT (renN []) ([(2, .pp 2 0), (9, .ls 1 s.length), (10, .pv (.int .i64 (s.length : Int))), (11, .pv (.int .i64 ((0 : Nat) : Int)))])) (And.intro (reflH (renN []) ([(2, 0, .ls 0 l.length), (0, 0, rowP l), (1, 0, rowL s)])) (And.intro r0 True.intro))) (by kernel_rfl)

/-- A field has all points of a crest. -/
def HasAll (l : List Pt) (c : List Ld) : Prop := ∀ x ∈ c, ∃ p ∈ l, p.id = x.id
theorem FindAll_yes {l : List Pt} (hv : Val l) {c : List Ld} (hn : c.length ≤ 100000) (h : HasAll l c) : FnL Try.prog 23 2 [fldS 0 l, .ls 1 c.length] [(0, 0, rowP l), (1, 0, rowL c)] (.pv (.int .i64 0)) 0 [] := by
  refine fa_path (RunsL.rounds (fun k => [(2, .pp 2 0), (9, .ls 1 c.length), (10, .pv (.int .i64 (c.length : Int))), (11, .pv (.int .i64 (k : Int)))]) (fun _ => [(2, 0, .ls 0 l.length), (0, 0, rowP l), (1, 0, rowL c)]) c.length 0 (Nat.zero_add _) (fun k _ hk r => ?_) (fa_end (df (by omega))))
  obtain ⟨x, hx⟩ := get_some (l := c) (k := k) hk
  obtain ⟨p, hp, he⟩ := h x (List.mem_of_getElem? hx)
  obtain ⟨j, hj, ej⟩ := List.getElem_of_mem hp
  exact fa_next hx ⟨by omega, by omega⟩ (dt (by omega)) (FindP_yes hv (k := j) (by rw [List.getElem?_eq_getElem hj, ej]) he) (i64_succ (by omega)) r
end Go.Proofs.Ytoheadpehomdjaa

namespace Go.Proofs.Ytoheadpehomdjaa
open Go.RowKit
set_option maxRecDepth 100000 in
theorem mg_ok {l : List Pt} {s c d : List Ld} {x y : Ld} (hf : FnL Try.prog 22 1 [fldS 0 l] [(0, 0, rowP l)] (.pv (.int .i64 (0))) 0 []) (ha : FnL Try.prog 11 1 [.ls 0 c.length] [(0, 0, rowL c)] (.pv (.int .i64 (0))) 0 []) (hb : FnL Try.prog 11 1 [.ls 0 d.length] [(0, 0, rowL d)] (.pv (.int .i64 (0))) 0 []) (hx : c[0]? = some x) (hxi : 0 ≤ (0 : Int) ∧ (0 : Int) < (c.length : Int)) (hy : d[0]? = some y) (hyi : 0 ≤ (0 : Int) ∧ (0 : Int) < (d.length : Int)) (hq : (!(x.n == y.n && (x.d == y.d && true))) = false) (hka : FnL Try.prog 23 2 [fldS 0 l, .ls 1 c.length] [(0, 0, rowP l), (1, 0, rowL c)] (.pv (.int .i64 (0))) 0 []) (hkb : FnL Try.prog 23 2 [fldS 0 l, .ls 1 d.length] [(0, 0, rowP l), (1, 0, rowL d)] (.pv (.int .i64 (0))) 0 []) (hm : FnL Try.prog 24 3 [fldS 0 l, .ls 1 c.length, .ls 2 d.length] [(0, 0, rowP l), (1, 0, rowL c), (2, 0, rowL d)] (.ls 3 s.length) 1 [(3, 0, rowL s)]) :
    FnL Try.prog 10 3 [fldS 0 l, .ls 1 c.length, .ls 2 d.length] [(0, 0, rowP l), (1, 0, rowL c), (2, 0, rowL d)] (.tu [.one (.ls 3 s.length), .one (.pv (.int .i64 0))]) 1 [(3, 0, rowL s)] :=
  fnl_run 300 [(3, 6)] [.f [0] [fldS 0 l] [(0, 0, rowP l)] (.pv (.int .i64 (0))) 0 [], .f [1] [.ls 0 c.length] [(0, 0, rowL c)] (.pv (.int .i64 (0))) 0 [], .f [2] [.ls 0 d.length] [(0, 0, rowL d)] (.pv (.int .i64 (0))) 0 [], .k, .k, .k, .k, .k, .k, .k, .k, .k, .k, .k, .k, .r (ratioV x.n x.d), .r (ratioV y.n y.d), .t false, .pm [0,1,3,4,2,5,6,7,8], .f [0,1] [fldS 0 l, .ls 1 c.length] [(0, 0, rowP l), (1, 0, rowL c)] (.pv (.int .i64 (0))) 0 [], .f [0,2] [fldS 0 l, .ls 1 d.length] [(0, 0, rowP l), (1, 0, rowL d)] (.pv (.int .i64 (0))) 0 [], .k, .k, .k, .k, .k, .k, .k, .k, .k, .f [0,1,2] [fldS 0 l, .ls 1 c.length, .ls 2 d.length] [(0, 0, rowP l), (1, 0, rowL c), (2, 0, rowL d)] (.ls 3 s.length) 1 [(3, 0, rowL s)]]
     (reflH (renN [(3, 6)]) [(3, 0, rowL s)]) (And.intro hf (And.intro (Eq.refl (List.map (SV.ren (renU [0] 4)) [fldS 0 l])) (And.intro (reflH (renU [0] 4) [(0, 0, rowP l)]) (And.intro ha (And.intro (Eq.refl (List.map (SV.ren (renU [1] 4)) [.ls 0 c.length])) (And.intro (reflH (renU [1] 4) [(0, 0, rowL c)]) (And.intro hb (And.intro (Eq.refl (List.map (SV.ren (renU [2] 4)) [.ls 0 d.length])) (And.intro (reflH (renU [2] 4) [(0, 0, rowL d)]) (And.intro hxi (And.intro (ra_lf hx) (And.intro hyi (And.intro (ra_lf hy) (And.intro hq (And.intro hka (And.intro (Eq.refl (List.map (SV.ren (renU [0,1] 5)) [fldS 0 l, .ls 1 c.length])) (And.intro (reflH (renU [0,1] 5) [(0, 0, rowP l), (1, 0, rowL c)]) (And.intro hkb (And.intro (Eq.refl (List.map (SV.ren (renU [0,2] 5)) [fldS 0 l, .ls 1 d.length])) (And.intro (reflH (renU [0,2] 5) [(0, 0, rowP l), (1, 0, rowL d)]) (And.intro hm (And.intro (Eq.refl (List.map (SV.ren (renU [0,1,2] 6)) [fldS 0 l, .ls 1 c.length, .ls 2 d.length])) (And.intro (reflH (renU [0,1,2] 6) [(0, 0, rowP l), (1, 0, rowL c), (2, 0, rowL d)]) True.intro))))))))))))))))))))))) (by kernel_rfl)

end Go.Proofs.Ytoheadpehomdjaa
