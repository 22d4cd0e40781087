/-
  Crests of package crest: Of, path by path. Conditions: none.
-/
import Derived.Test.YtoheadpehomdjaaW31
import Derived.Test.YtoheadpehomdjaaW30
namespace Go.Proofs.Ytoheadpehomdjaa
open Go.RowKit
structure Ld where
  n : Int
  d : Int
  id : Int
abbrev leadV (x : Ld) : Value := .agg #[.int .i64 x.n, .int .i64 x.d, .int .i64 x.id]
abbrev lcV (x : Ld) : List Value := [.int .i64 x.n, .int .i64 x.d, .int .i64 x.id]
def ldsV : List Ld → List Value
  | [] => []
  | m :: r => .int .i64 m.n :: .int .i64 m.d :: .int .i64 m.id :: ldsV r
theorem ldsV_append : ∀ (a b : List Ld), ldsV (a ++ b) = ldsV a ++ ldsV b
  | [], _ => rfl
  | p :: r, b => by simp [ldsV, ldsV_append r b]
theorem ldsV_length : ∀ (l : List Ld), (ldsV l).length = l.length * 3
  | [] => rfl
  | p :: r => by simp [ldsV, ldsV_length r]; omega
theorem ldsV_get : ∀ {l : List Ld} {k : Nat} {m : Ld}, l[k]? = some m → (ldsV l)[k * 3]? = some (.int .i64 m.n) ∧ (ldsV l)[k * 3 + 1]? = some (.int .i64 m.d) ∧ (ldsV l)[k * 3 + 2]? = some (.int .i64 m.id)
  | [], k, p, h => by simp at h
  | q :: r, 0, p, h => by simp at h; subst h; exact ⟨rfl, rfl, rfl⟩
  | q :: r, k + 1, p, h => by
    have := ldsV_get (l := r) (k := k) (m := p) (by simpa using h)
    rw [show (k + 1) * 3 = k * 3 + 1 + 1 + 1 by omega]
    exact this
theorem ra_ld {l : List Ld} {k : Nat} {m : Ld} (h : l[k]? = some m) : rowAt (ldsV l) (0 * 3 + k * 3) (lcV m) := by
  obtain ⟨h1, h2, h3⟩ := ldsV_get h
  intro j v hj
  rw [show 0 * 3 + k * 3 + j = k * 3 + j by omega]
  match j, hj with
  | 0, hj => cases hj; exact h1
  | 1, hj => cases hj; exact h2
  | 2, hj => cases hj; exact h3
  | j + 3, hj => simp at hj
theorem ra_lf {l : List Ld} {k : Nat} {m : Ld} (h : l[k]? = some m) : rowAt (ldsV l) (0 * 3 + k * 3) [.int .i64 m.n, .int .i64 m.d] := by
  obtain ⟨h1, h2, h3⟩ := ldsV_get h
  intro j v hj
  rw [show 0 * 3 + k * 3 + j = k * 3 + j by omega]
  match j, hj with
  | 0, hj => cases hj; exact h1
  | 1, hj => cases hj; exact h2
  | j + 2, hj => simp at hj
theorem ra_li {l : List Ld} {k : Nat} {m : Ld} (h : l[k]? = some m) : rowAt (ldsV l) (0 * 3 + k * 3 + 2) [.int .i64 m.id] := by
  obtain ⟨h1, h2, h3⟩ := ldsV_get h
  intro j v hj
  match j, hj with
  | 0, hj => cases hj; rw [show 0 * 3 + k * 3 + 2 + 0 = k * 3 + 2 by omega]; exact h3
  | j + 1, hj => simp at hj
theorem lds_one : ∀ (l : List Ld), ∀ v ∈ ldsV l, v.oneCell' = true
  | [], v, h => by cases h
  | m :: r, v, h => by
    simp only [ldsV, List.mem_cons] at h
    rcases h with rfl | rfl | rfl | h
    · rfl
    · rfl
    · rfl
    · exact lds_one r v h
abbrev rowL (l : List Ld) : SV := .row 34 3 l.length (ldsV l)
theorem snoc_ld (l : List Ld) (m : Ld) : ldsV l ++ lcV m = ldsV (l ++ [m]) := by rw [ldsV_append]; rfl
theorem snocl_ls (b : Nat) (l : List Ld) (m : Ld) : SV.ls b (l.length + 1) = SV.ls b (l ++ [m]).length := by rw [List.length_append]; rfl
theorem snocl_row (l : List Ld) (m : Ld) : some (SV.row 34 3 (l.length + 1) (ldsV l ++ lcV m)) = some (rowL (l ++ [m])) := by rw [snoc_ld, rowL, List.length_append]; rfl
set_option maxRecDepth 100000 in
theorem ccmp_path {an ad bn bd k e : Int} (h : Pure Try.prog 49 #[ratioV an ad, ratioV bn bd] (.tuple #[.int .i64 k, .int .i64 e])) : Pure Try.prog 36 #[ratioV an ad, ratioV bn bd] (.int .i64 k) :=
  pure_run (args := [ratioV an ad, ratioV bn bd]) 200 [.r (.tuple #[.int .i64 k, .int .i64 e])] (And.intro rfl (And.intro h True.intro)) (by kernel_rfl)
set_option maxRecDepth 100000 in
theorem cbef_path {an ad bn bd k : Int} {b : Bool} (h : Pure Try.prog 36 #[ratioV an ad, ratioV bn bd] (.int .i64 k)) (hb : decide (k < 0) = b) : Pure Try.prog 20 #[ratioV an ad, ratioV bn bd] (.bool b) :=
  pure_run (args := [ratioV an ad, ratioV bn bd]) 200 [.r (.int .i64 k), .t b] (And.intro rfl (And.intro h (And.intro hb True.intro))) (by kernel_rfl)
set_option maxRecDepth 100000 in
theorem clost_path {p q : Pt} {n d m k e : Int} {s : Bool} (h : Pure Try.prog 48 #[ptV p, ptV q, ratioV n d] (.tuple #[ratioV m k, .bool s, .int .i64 e])) : Pure Try.prog 33 #[ptV p, ptV q, ratioV n d] (.tuple #[ratioV m k, .bool s]) :=
  pure_run (args := [ptV p, ptV q, ratioV n d]) 200 [.r (.tuple #[ratioV m k, .bool s, .int .i64 e])] (And.intro rfl (And.intro h True.intro)) (by kernel_rfl)
set_option maxRecDepth 100000 in
theorem clf_path {x : Ld} {n d k : Int} (h : Pure Try.prog 36 #[ratioV x.n x.d, ratioV n d] (.int .i64 k)) : Pure Try.prog 38 #[leadV x, ratioV n d] (.int .i64 k) :=
  pure_run (args := [leadV x, ratioV n d]) 200 [.r (.int .i64 k)] (And.intro rfl (And.intro h True.intro)) (by kernel_rfl)
section
variable {x y : Ld} {e : Int} {a b c : Bool}
set_option maxRecDepth 100000 in
theorem il_bad (h : Pure Try.prog 19 #[ratioV x.n x.d] (.int .i64 e)) (h1 : (e == 0) = false) : Pure Try.prog 25 #[leadV x] (.bool false) :=
  pure_run (args := [leadV x]) 200 [.r (.int .i64 e), .t false] (And.intro rfl (And.intro h (And.intro h1 True.intro))) (by kernel_rfl)
set_option maxRecDepth 100000 in
theorem il_lo (h : Pure Try.prog 19 #[ratioV x.n x.d] (.int .i64 0)) (h1 : decide (0 ≤ x.id) = false) : Pure Try.prog 25 #[leadV x] (.bool false) :=
  pure_run (args := [leadV x]) 200 [.r (.int .i64 0), .k, .t false] (And.intro rfl (And.intro h (And.intro h1 True.intro))) (by kernel_rfl)
set_option maxRecDepth 100000 in
theorem il_hi (h : Pure Try.prog 19 #[ratioV x.n x.d] (.int .i64 0)) (h1 : decide (0 ≤ x.id) = true) (h2 : decide (x.id ≤ 65535) = b) : Pure Try.prog 25 #[leadV x] (.bool b) :=
  pure_run (args := [leadV x]) 200 [.r (.int .i64 0), .k, .t true, .t b] (And.intro rfl (And.intro h (And.intro h1 (And.intro h2 True.intro)))) (by kernel_rfl)
set_option maxRecDepth 100000 in
theorem fo_no (h1 : (!(y.id == x.id)) = false) : Pure Try.prog 26 #[leadV y, leadV x] (.bool false) :=
  pure_run (args := [leadV y, leadV x]) 200 [.t false] (And.intro rfl (And.intro h1 True.intro)) (by kernel_rfl)
set_option maxRecDepth 100000 in
theorem fo_yes (h1 : (!(y.id == x.id)) = true) (h : Pure Try.prog 20 #[ratioV x.n x.d, ratioV y.n y.d] (.bool b)) : Pure Try.prog 26 #[leadV y, leadV x] (.bool b) :=
  pure_run (args := [leadV y, leadV x]) 200 [.t true, .r (.bool b)] (And.intro rfl (And.intro h1 (And.intro h True.intro))) (by kernel_rfl)
end
set_option maxRecDepth 100000 in
theorem cpt_path {l : List Pt} {p : Pt} {e : Int} {id : Int} (hf : FnL Try.prog 40 1 [fldS 0 l, .pv (.int .i64 (id))] [(0, 0, rowP l)] (.pv (.tuple #[ptV p, .int .i64 e])) 0 []) :
    FnL Try.prog 32 1 [fldS 0 l, .pv (.int .i64 (id))] [(0, 0, rowP l)] (.pv (ptV p)) 0 [] :=
  fnl_run 300 [] [.f [0] [fldS 0 l, .pv (.int .i64 (id))] [(0, 0, rowP l)] (.pv (.tuple #[ptV p, .int .i64 e])) 0 []]
     True.intro (And.intro hf (And.intro (Eq.refl (List.map (SV.ren (renU [0] 3)) [fldS 0 l, .pv (.int .i64 (id))])) (And.intro (reflH (renU [0] 3) [(0, 0, rowP l)]) True.intro))) (by kernel_rfl)

set_option maxRecDepth 100000 in
theorem ov_skip_true {l : List Pt} {x : Ld} {p q : Pt} {k : Nat} {fn fd m k' : Int} (hk : l[k]? = some q) (hin : 0 ≤ (k : Int) ∧ (k : Int) < (l.length : Int)) (hlt : decide ((k : Int) < (l.length : Int)) = true) (hl : Pure Try.prog 33 #[ptV p, ptV q, ratioV x.n x.d] (.tuple #[ratioV m k', .bool false])) (hs : Value.int .i64 (IntKind.i64.wrap ((k : Int) + 1)) = .int .i64 (((k + 1 : Nat) : Int))) {e : Exit} {tm2 : List (Nat × SV)} {hp2 : List (Nat × Nat × SV)}
    (r : RunsL Try.prog 1 1 (loopOf Try.prog 17 0) 59 6 ([(2, .pp 1 0), (3, .pp 2 0), (4, .pp 3 0), (6, .pp 4 0), (7, .pp 5 0), (8, .pv (.bool true)), (21, .ls 0 l.length), (22, .pv (.int .i64 (l.length : Int))), (23, .pv (.int .i64 ((k + 1 : Nat) : Int)))]) ([(1, 0, .ls 0 l.length), (2, 0, .pv (.int .i64 x.n)), (2, 1, .pv (.int .i64 x.d)), (2, 2, .pv (.int .i64 x.id)), (3, 0, .pv (.int .i64 0)), (3, 1, .pv (.int .i64 0)), (3, 2, .pv (.int .i64 0)), (4, 0, .pv (.int .i64 p.id)), (4, 1, .pv (.int .i64 p.a)), (4, 2, .pv (.int .i64 p.b)), (5, 0, .pv (.int .i64 (fn))), (5, 1, .pv (.int .i64 (fd))), (0, 0, rowP l)]) e tm2 hp2) : RunsL Try.prog 1 1 (loopOf Try.prog 17 0) 59 6 ([(2, .pp 1 0), (3, .pp 2 0), (4, .pp 3 0), (6, .pp 4 0), (7, .pp 5 0), (8, .pv (.bool true)), (21, .ls 0 l.length), (22, .pv (.int .i64 (l.length : Int))), (23, .pv (.int .i64 (k : Int)))]) ([(1, 0, .ls 0 l.length), (2, 0, .pv (.int .i64 x.n)), (2, 1, .pv (.int .i64 x.d)), (2, 2, .pv (.int .i64 x.id)), (3, 0, .pv (.int .i64 0)), (3, 1, .pv (.int .i64 0)), (3, 2, .pv (.int .i64 0)), (4, 0, .pv (.int .i64 p.id)), (4, 1, .pv (.int .i64 p.a)), (4, 2, .pv (.int .i64 p.b)), (5, 0, .pv (.int .i64 (fn))), (5, 1, .pv (.int .i64 (fd))), (0, 0, rowP l)]) e tm2 hp2 :=
  RunsL.next [] 300 [.t true, .r (ptV q), .r (.tuple #[ratioV m k', .bool false]), .r (.int .i64 (((k + 1 : Nat) : Int)))]
    (round_of (And.intro hlt (And.intro hin (And.intro (ra_pt hk) (And.intro hl (And.intro hs True.intro))))) (by kernel_rfl)) r

set_option maxRecDepth 100000 in
theorem ov_skip_false {l : List Pt} {x : Ld} {p q : Pt} {k : Nat} {fn fd m k' : Int} (hk : l[k]? = some q) (hin : 0 ≤ (k : Int) ∧ (k : Int) < (l.length : Int)) (hlt : decide ((k : Int) < (l.length : Int)) = true) (hl : Pure Try.prog 33 #[ptV p, ptV q, ratioV x.n x.d] (.tuple #[ratioV m k', .bool false])) (hs : Value.int .i64 (IntKind.i64.wrap ((k : Int) + 1)) = .int .i64 (((k + 1 : Nat) : Int))) {e : Exit} {tm2 : List (Nat × SV)} {hp2 : List (Nat × Nat × SV)}
    (r : RunsL Try.prog 1 1 (loopOf Try.prog 17 0) 59 6 ([(2, .pp 1 0), (3, .pp 2 0), (4, .pp 3 0), (6, .pp 4 0), (7, .pp 5 0), (8, .pv (.bool false)), (21, .ls 0 l.length), (22, .pv (.int .i64 (l.length : Int))), (23, .pv (.int .i64 ((k + 1 : Nat) : Int)))]) ([(1, 0, .ls 0 l.length), (2, 0, .pv (.int .i64 x.n)), (2, 1, .pv (.int .i64 x.d)), (2, 2, .pv (.int .i64 x.id)), (3, 0, .pv (.int .i64 0)), (3, 1, .pv (.int .i64 0)), (3, 2, .pv (.int .i64 0)), (4, 0, .pv (.int .i64 p.id)), (4, 1, .pv (.int .i64 p.a)), (4, 2, .pv (.int .i64 p.b)), (5, 0, .pv (.int .i64 (fn))), (5, 1, .pv (.int .i64 (fd))), (0, 0, rowP l)]) e tm2 hp2) : RunsL Try.prog 1 1 (loopOf Try.prog 17 0) 59 6 ([(2, .pp 1 0), (3, .pp 2 0), (4, .pp 3 0), (6, .pp 4 0), (7, .pp 5 0), (8, .pv (.bool false)), (21, .ls 0 l.length), (22, .pv (.int .i64 (l.length : Int))), (23, .pv (.int .i64 (k : Int)))]) ([(1, 0, .ls 0 l.length), (2, 0, .pv (.int .i64 x.n)), (2, 1, .pv (.int .i64 x.d)), (2, 2, .pv (.int .i64 x.id)), (3, 0, .pv (.int .i64 0)), (3, 1, .pv (.int .i64 0)), (3, 2, .pv (.int .i64 0)), (4, 0, .pv (.int .i64 p.id)), (4, 1, .pv (.int .i64 p.a)), (4, 2, .pv (.int .i64 p.b)), (5, 0, .pv (.int .i64 (fn))), (5, 1, .pv (.int .i64 (fd))), (0, 0, rowP l)]) e tm2 hp2 :=
  RunsL.next [] 300 [.t true, .r (ptV q), .r (.tuple #[ratioV m k', .bool false]), .r (.int .i64 (((k + 1 : Nat) : Int)))]
    (round_of (And.intro hlt (And.intro hin (And.intro (ra_pt hk) (And.intro hl (And.intro hs True.intro))))) (by kernel_rfl)) r

set_option maxRecDepth 100000 in
theorem ov_first {l : List Pt} {x : Ld} {p q : Pt} {k : Nat} {fn fd m k' : Int} (hk : l[k]? = some q) (hin : 0 ≤ (k : Int) ∧ (k : Int) < (l.length : Int)) (hlt : decide ((k : Int) < (l.length : Int)) = true) (hl : Pure Try.prog 33 #[ptV p, ptV q, ratioV x.n x.d] (.tuple #[ratioV m k', .bool true])) (hs : Value.int .i64 (IntKind.i64.wrap ((k : Int) + 1)) = .int .i64 (((k + 1 : Nat) : Int))) {e : Exit} {tm2 : List (Nat × SV)} {hp2 : List (Nat × Nat × SV)}
    (r : RunsL Try.prog 1 1 (loopOf Try.prog 17 0) 59 6 ([(2, .pp 1 0), (3, .pp 2 0), (4, .pp 3 0), (6, .pp 4 0), (7, .pp 5 0), (8, .pv (.bool true)), (21, .ls 0 l.length), (22, .pv (.int .i64 (l.length : Int))), (23, .pv (.int .i64 ((k + 1 : Nat) : Int)))]) ([(1, 0, .ls 0 l.length), (2, 0, .pv (.int .i64 x.n)), (2, 1, .pv (.int .i64 x.d)), (2, 2, .pv (.int .i64 x.id)), (3, 0, .pv (.int .i64 0)), (3, 1, .pv (.int .i64 0)), (3, 2, .pv (.int .i64 0)), (4, 0, .pv (.int .i64 p.id)), (4, 1, .pv (.int .i64 p.a)), (4, 2, .pv (.int .i64 p.b)), (5, 0, .pv (.int .i64 (m))), (5, 1, .pv (.int .i64 (k'))), (0, 0, rowP l)]) e tm2 hp2) : RunsL Try.prog 1 1 (loopOf Try.prog 17 0) 59 6 ([(2, .pp 1 0), (3, .pp 2 0), (4, .pp 3 0), (6, .pp 4 0), (7, .pp 5 0), (8, .pv (.bool false)), (21, .ls 0 l.length), (22, .pv (.int .i64 (l.length : Int))), (23, .pv (.int .i64 (k : Int)))]) ([(1, 0, .ls 0 l.length), (2, 0, .pv (.int .i64 x.n)), (2, 1, .pv (.int .i64 x.d)), (2, 2, .pv (.int .i64 x.id)), (3, 0, .pv (.int .i64 0)), (3, 1, .pv (.int .i64 0)), (3, 2, .pv (.int .i64 0)), (4, 0, .pv (.int .i64 p.id)), (4, 1, .pv (.int .i64 p.a)), (4, 2, .pv (.int .i64 p.b)), (5, 0, .pv (.int .i64 (fn))), (5, 1, .pv (.int .i64 (fd))), (0, 0, rowP l)]) e tm2 hp2 :=
  RunsL.next [] 300 [.t true, .r (ptV q), .r (.tuple #[ratioV m k', .bool true]), .k, .r (.int .i64 (((k + 1 : Nat) : Int)))]
    (round_of (And.intro hlt (And.intro hin (And.intro (ra_pt hk) (And.intro hl (And.intro hs True.intro))))) (by kernel_rfl)) r

set_option maxRecDepth 100000 in
theorem ov_less {l : List Pt} {x : Ld} {p q : Pt} {k : Nat} {fn fd m k' : Int} (hk : l[k]? = some q) (hin : 0 ≤ (k : Int) ∧ (k : Int) < (l.length : Int)) (hlt : decide ((k : Int) < (l.length : Int)) = true) (hl : Pure Try.prog 33 #[ptV p, ptV q, ratioV x.n x.d] (.tuple #[ratioV m k', .bool true])) (hb : Pure Try.prog 20 #[ratioV m k', ratioV fn fd] (.bool true)) (hs : Value.int .i64 (IntKind.i64.wrap ((k : Int) + 1)) = .int .i64 (((k + 1 : Nat) : Int))) {e : Exit} {tm2 : List (Nat × SV)} {hp2 : List (Nat × Nat × SV)}
    (r : RunsL Try.prog 1 1 (loopOf Try.prog 17 0) 59 6 ([(2, .pp 1 0), (3, .pp 2 0), (4, .pp 3 0), (6, .pp 4 0), (7, .pp 5 0), (8, .pv (.bool true)), (21, .ls 0 l.length), (22, .pv (.int .i64 (l.length : Int))), (23, .pv (.int .i64 ((k + 1 : Nat) : Int)))]) ([(1, 0, .ls 0 l.length), (2, 0, .pv (.int .i64 x.n)), (2, 1, .pv (.int .i64 x.d)), (2, 2, .pv (.int .i64 x.id)), (3, 0, .pv (.int .i64 0)), (3, 1, .pv (.int .i64 0)), (3, 2, .pv (.int .i64 0)), (4, 0, .pv (.int .i64 p.id)), (4, 1, .pv (.int .i64 p.a)), (4, 2, .pv (.int .i64 p.b)), (5, 0, .pv (.int .i64 (m))), (5, 1, .pv (.int .i64 (k'))), (0, 0, rowP l)]) e tm2 hp2) : RunsL Try.prog 1 1 (loopOf Try.prog 17 0) 59 6 ([(2, .pp 1 0), (3, .pp 2 0), (4, .pp 3 0), (6, .pp 4 0), (7, .pp 5 0), (8, .pv (.bool true)), (21, .ls 0 l.length), (22, .pv (.int .i64 (l.length : Int))), (23, .pv (.int .i64 (k : Int)))]) ([(1, 0, .ls 0 l.length), (2, 0, .pv (.int .i64 x.n)), (2, 1, .pv (.int .i64 x.d)), (2, 2, .pv (.int .i64 x.id)), (3, 0, .pv (.int .i64 0)), (3, 1, .pv (.int .i64 0)), (3, 2, .pv (.int .i64 0)), (4, 0, .pv (.int .i64 p.id)), (4, 1, .pv (.int .i64 p.a)), (4, 2, .pv (.int .i64 p.b)), (5, 0, .pv (.int .i64 (fn))), (5, 1, .pv (.int .i64 (fd))), (0, 0, rowP l)]) e tm2 hp2 :=
  RunsL.next [] 300 [.t true, .r (ptV q), .r (.tuple #[ratioV m k', .bool true]), .k, .r (.bool true), .r (.int .i64 (((k + 1 : Nat) : Int)))]
    (round_of (And.intro hlt (And.intro hin (And.intro (ra_pt hk) (And.intro hl (And.intro hb (And.intro hs True.intro)))))) (by kernel_rfl)) r

set_option maxRecDepth 100000 in
theorem ov_keep {l : List Pt} {x : Ld} {p q : Pt} {k : Nat} {fn fd m k' : Int} (hk : l[k]? = some q) (hin : 0 ≤ (k : Int) ∧ (k : Int) < (l.length : Int)) (hlt : decide ((k : Int) < (l.length : Int)) = true) (hl : Pure Try.prog 33 #[ptV p, ptV q, ratioV x.n x.d] (.tuple #[ratioV m k', .bool true])) (hb : Pure Try.prog 20 #[ratioV m k', ratioV fn fd] (.bool false)) (hs : Value.int .i64 (IntKind.i64.wrap ((k : Int) + 1)) = .int .i64 (((k + 1 : Nat) : Int))) {e : Exit} {tm2 : List (Nat × SV)} {hp2 : List (Nat × Nat × SV)}
    (r : RunsL Try.prog 1 1 (loopOf Try.prog 17 0) 59 6 ([(2, .pp 1 0), (3, .pp 2 0), (4, .pp 3 0), (6, .pp 4 0), (7, .pp 5 0), (8, .pv (.bool true)), (21, .ls 0 l.length), (22, .pv (.int .i64 (l.length : Int))), (23, .pv (.int .i64 ((k + 1 : Nat) : Int)))]) ([(1, 0, .ls 0 l.length), (2, 0, .pv (.int .i64 x.n)), (2, 1, .pv (.int .i64 x.d)), (2, 2, .pv (.int .i64 x.id)), (3, 0, .pv (.int .i64 0)), (3, 1, .pv (.int .i64 0)), (3, 2, .pv (.int .i64 0)), (4, 0, .pv (.int .i64 p.id)), (4, 1, .pv (.int .i64 p.a)), (4, 2, .pv (.int .i64 p.b)), (5, 0, .pv (.int .i64 (fn))), (5, 1, .pv (.int .i64 (fd))), (0, 0, rowP l)]) e tm2 hp2) : RunsL Try.prog 1 1 (loopOf Try.prog 17 0) 59 6 ([(2, .pp 1 0), (3, .pp 2 0), (4, .pp 3 0), (6, .pp 4 0), (7, .pp 5 0), (8, .pv (.bool true)), (21, .ls 0 l.length), (22, .pv (.int .i64 (l.length : Int))), (23, .pv (.int .i64 (k : Int)))]) ([(1, 0, .ls 0 l.length), (2, 0, .pv (.int .i64 x.n)), (2, 1, .pv (.int .i64 x.d)), (2, 2, .pv (.int .i64 x.id)), (3, 0, .pv (.int .i64 0)), (3, 1, .pv (.int .i64 0)), (3, 2, .pv (.int .i64 0)), (4, 0, .pv (.int .i64 p.id)), (4, 1, .pv (.int .i64 p.a)), (4, 2, .pv (.int .i64 p.b)), (5, 0, .pv (.int .i64 (fn))), (5, 1, .pv (.int .i64 (fd))), (0, 0, rowP l)]) e tm2 hp2 :=
  RunsL.next [] 300 [.t true, .r (ptV q), .r (.tuple #[ratioV m k', .bool true]), .k, .r (.bool false), .r (.int .i64 (((k + 1 : Nat) : Int)))]
    (round_of (And.intro hlt (And.intro hin (And.intro (ra_pt hk) (And.intro hl (And.intro hb (And.intro hs True.intro)))))) (by kernel_rfl)) r

set_option maxRecDepth 100000 in
theorem ov_end_true {l : List Pt} {x : Ld} {p : Pt} {k : Nat} {fn fd : Int} (hge : decide ((k : Int) < (l.length : Int)) = false) : RunsL Try.prog 1 1 (loopOf Try.prog 17 0) 59 6 ([(2, .pp 1 0), (3, .pp 2 0), (4, .pp 3 0), (6, .pp 4 0), (7, .pp 5 0), (8, .pv (.bool true)), (21, .ls 0 l.length), (22, .pv (.int .i64 (l.length : Int))), (23, .pv (.int .i64 (k : Int)))]) ([(1, 0, .ls 0 l.length), (2, 0, .pv (.int .i64 x.n)), (2, 1, .pv (.int .i64 x.d)), (2, 2, .pv (.int .i64 x.id)), (3, 0, .pv (.int .i64 0)), (3, 1, .pv (.int .i64 0)), (3, 2, .pv (.int .i64 0)), (4, 0, .pv (.int .i64 p.id)), (4, 1, .pv (.int .i64 p.a)), (4, 2, .pv (.int .i64 p.b)), (5, 0, .pv (.int .i64 (fn))), (5, 1, .pv (.int .i64 (fd))), (0, 0, rowP l)]) (.exit 0) ([(2, .pp 1 0), (3, .pp 2 0), (4, .pp 3 0), (6, .pp 4 0), (7, .pp 5 0), (8, .pv (.bool true)), (21, .ls 0 l.length), (22, .pv (.int .i64 (l.length : Int))), (23, .pv (.int .i64 (k : Int)))]) ([(1, 0, .ls 0 l.length), (2, 0, .pv (.int .i64 x.n)), (2, 1, .pv (.int .i64 x.d)), (2, 2, .pv (.int .i64 x.id)), (3, 0, .pv (.int .i64 0)), (3, 1, .pv (.int .i64 0)), (3, 2, .pv (.int .i64 0)), (4, 0, .pv (.int .i64 p.id)), (4, 1, .pv (.int .i64 p.a)), (4, 2, .pv (.int .i64 p.b)), (5, 0, .pv (.int .i64 (fn))), (5, 1, .pv (.int .i64 (fd))), (0, 0, rowP l)]) :=
  RunsL.stop [] 300 [.t false] (fun h => by cases h)
    (round_of (And.intro hge True.intro) (by kernel_rfl))

set_option maxRecDepth 100000 in
theorem ov_end_false {l : List Pt} {x : Ld} {p : Pt} {k : Nat} {fn fd : Int} (hge : decide ((k : Int) < (l.length : Int)) = false) : RunsL Try.prog 1 1 (loopOf Try.prog 17 0) 59 6 ([(2, .pp 1 0), (3, .pp 2 0), (4, .pp 3 0), (6, .pp 4 0), (7, .pp 5 0), (8, .pv (.bool false)), (21, .ls 0 l.length), (22, .pv (.int .i64 (l.length : Int))), (23, .pv (.int .i64 (k : Int)))]) ([(1, 0, .ls 0 l.length), (2, 0, .pv (.int .i64 x.n)), (2, 1, .pv (.int .i64 x.d)), (2, 2, .pv (.int .i64 x.id)), (3, 0, .pv (.int .i64 0)), (3, 1, .pv (.int .i64 0)), (3, 2, .pv (.int .i64 0)), (4, 0, .pv (.int .i64 p.id)), (4, 1, .pv (.int .i64 p.a)), (4, 2, .pv (.int .i64 p.b)), (5, 0, .pv (.int .i64 (fn))), (5, 1, .pv (.int .i64 (fd))), (0, 0, rowP l)]) (.exit 0) ([(2, .pp 1 0), (3, .pp 2 0), (4, .pp 3 0), (6, .pp 4 0), (7, .pp 5 0), (8, .pv (.bool false)), (21, .ls 0 l.length), (22, .pv (.int .i64 (l.length : Int))), (23, .pv (.int .i64 (k : Int)))]) ([(1, 0, .ls 0 l.length), (2, 0, .pv (.int .i64 x.n)), (2, 1, .pv (.int .i64 x.d)), (2, 2, .pv (.int .i64 x.id)), (3, 0, .pv (.int .i64 0)), (3, 1, .pv (.int .i64 0)), (3, 2, .pv (.int .i64 0)), (4, 0, .pv (.int .i64 p.id)), (4, 1, .pv (.int .i64 p.a)), (4, 2, .pv (.int .i64 p.b)), (5, 0, .pv (.int .i64 (fn))), (5, 1, .pv (.int .i64 (fd))), (0, 0, rowP l)]) :=
  RunsL.stop [] 300 [.t false] (fun h => by cases h)
    (round_of (And.intro hge True.intro) (by kernel_rfl))

set_option maxRecDepth 100000 in
theorem ov_none {l : List Pt} {x : Ld} {p : Pt} {fn fd : Int} (hp : FnL Try.prog 32 1 [fldS 0 l, .pv (.int .i64 (x.id))] [(0, 0, rowP l)] (.pv (ptV p)) 0 []) (r0 : RunsL Try.prog 1 1 (loopOf Try.prog 17 0) 59 6 ([(2, .pp 1 0), (3, .pp 2 0), (4, .pp 3 0), (6, .pp 4 0), (7, .pp 5 0), (8, .pv (.bool false)), (21, .ls 0 l.length), (22, .pv (.int .i64 (l.length : Int))), (23, .pv (.int .i64 ((0 : Nat) : Int)))]) ([(1, 0, .ls 0 l.length), (2, 0, .pv (.int .i64 x.n)), (2, 1, .pv (.int .i64 x.d)), (2, 2, .pv (.int .i64 x.id)), (3, 0, .pv (.int .i64 0)), (3, 1, .pv (.int .i64 0)), (3, 2, .pv (.int .i64 0)), (4, 0, .pv (.int .i64 p.id)), (4, 1, .pv (.int .i64 p.a)), (4, 2, .pv (.int .i64 p.b)), (5, 0, .pv (.int .i64 (0))), (5, 1, .pv (.int .i64 (0))), (0, 0, rowP l)]) (.exit 0) ([(2, .pp 1 0), (3, .pp 2 0), (4, .pp 3 0), (6, .pp 4 0), (7, .pp 5 0), (8, .pv (.bool false)), (21, .ls 0 l.length), (22, .pv (.int .i64 (l.length : Int))), (23, .pv (.int .i64 (l.length : Int)))]) ([(1, 0, .ls 0 l.length), (2, 0, .pv (.int .i64 x.n)), (2, 1, .pv (.int .i64 x.d)), (2, 2, .pv (.int .i64 x.id)), (3, 0, .pv (.int .i64 0)), (3, 1, .pv (.int .i64 0)), (3, 2, .pv (.int .i64 0)), (4, 0, .pv (.int .i64 p.id)), (4, 1, .pv (.int .i64 p.a)), (4, 2, .pv (.int .i64 p.b)), (5, 0, .pv (.int .i64 (fn))), (5, 1, .pv (.int .i64 (fd))), (0, 0, rowP l)])) :
    FnL Try.prog 17 1 [fldS 0 l, .pv (leadV x)] [(0, 0, rowP l)] (.pv (.tuple #[leadV ⟨0, 0, 0⟩, .bool false])) 0 [] :=
  fnl_run 300 [] [.f [0] [fldS 0 l, .pv (.int .i64 (x.id))] [(0, 0, rowP l)] (.pv (ptV p)) 0 [], .l (.exit 0) ([(2, .pp 1 0), (3, .pp 2 0), (4, .pp 3 0), (6, .pp 4 0), (7, .pp 5 0), (8, .pv (.bool false)), (21, .ls 0 l.length), (22, .pv (.int .i64 (l.length : Int))), (23, .pv (.int .i64 ((0 : Nat) : Int)))]) ([(1, 0, .ls 0 l.length), (2, 0, .pv (.int .i64 x.n)), (2, 1, .pv (.int .i64 x.d)), (2, 2, .pv (.int .i64 x.id)), (3, 0, .pv (.int .i64 0)), (3, 1, .pv (.int .i64 0)), (3, 2, .pv (.int .i64 0)), (4, 0, .pv (.int .i64 p.id)), (4, 1, .pv (.int .i64 p.a)), (4, 2, .pv (.int .i64 p.b)), (5, 0, .pv (.int .i64 (0))), (5, 1, .pv (.int .i64 (0))), (0, 0, rowP l)]) ([(2, .pp 1 0), (3, .pp 2 0), (4, .pp 3 0), (6, .pp 4 0), (7, .pp 5 0), (8, .pv (.bool false)), (21, .ls 0 l.length), (22, .pv (.int .i64 (l.length : Int))), (23, .pv (.int .i64 (l.length : Int)))]) ([(1, 0, .ls 0 l.length), (2, 0, .pv (.int .i64 x.n)), (2, 1, .pv (.int .i64 x.d)), (2, 2, .pv (.int .i64 x.id)), (3, 0, .pv (.int .i64 0)), (3, 1, .pv (.int .i64 0)), (3, 2, .pv (.int .i64 0)), (4, 0, .pv (.int .i64 p.id)), (4, 1, .pv (.int .i64 p.a)), (4, 2, .pv (.int .i64 p.b)), (5, 0, .pv (.int .i64 (fn))), (5, 1, .pv (.int .i64 (fd))), (0, 0, rowP l)]), .k]
     True.intro (And.intro hp (And.intro (Eq.refl (List.map (SV.ren (renU [0] 4)) [fldS 0 l, .pv (.int .i64 (x.id))])) (And.intro (reflH (renU [0] 4) [(0, 0, rowP l)]) (And.intro (reflT (renN []) ([(2, .pp 1 0), (3, .pp 2 0), (4, .pp 3 0), (6, .pp 4 0), (7, .pp 5 0), (8, .pv (.bool false)), (21, .ls 0 l.length), (22, .pv (.int .i64 (l.length : Int))), (23, .pv (.int .i64 ((0 : Nat) : Int)))])) (And.intro (reflH (renN []) ([(1, 0, .ls 0 l.length), (2, 0, .pv (.int .i64 x.n)), (2, 1, .pv (.int .i64 x.d)), (2, 2, .pv (.int .i64 x.id)), (3, 0, .pv (.int .i64 0)), (3, 1, .pv (.int .i64 0)), (3, 2, .pv (.int .i64 0)), (4, 0, .pv (.int .i64 p.id)), (4, 1, .pv (.int .i64 p.a)), (4, 2, .pv (.int .i64 p.b)), (5, 0, .pv (.int .i64 (0))), (5, 1, .pv (.int .i64 (0))), (0, 0, rowP l)])) (And.intro r0 True.intro)))))) (by kernel_rfl)

set_option maxRecDepth 100000 in
theorem ov_some {l : List Pt} {x : Ld} {p : Pt} {fn fd lid : Int} (hp : FnL Try.prog 32 1 [fldS 0 l, .pv (.int .i64 (x.id))] [(0, 0, rowP l)] (.pv (ptV p)) 0 []) (r0 : RunsL Try.prog 1 1 (loopOf Try.prog 17 0) 59 6 ([(2, .pp 1 0), (3, .pp 2 0), (4, .pp 3 0), (6, .pp 4 0), (7, .pp 5 0), (8, .pv (.bool false)), (21, .ls 0 l.length), (22, .pv (.int .i64 (l.length : Int))), (23, .pv (.int .i64 ((0 : Nat) : Int)))]) ([(1, 0, .ls 0 l.length), (2, 0, .pv (.int .i64 x.n)), (2, 1, .pv (.int .i64 x.d)), (2, 2, .pv (.int .i64 x.id)), (3, 0, .pv (.int .i64 0)), (3, 1, .pv (.int .i64 0)), (3, 2, .pv (.int .i64 0)), (4, 0, .pv (.int .i64 p.id)), (4, 1, .pv (.int .i64 p.a)), (4, 2, .pv (.int .i64 p.b)), (5, 0, .pv (.int .i64 (0))), (5, 1, .pv (.int .i64 (0))), (0, 0, rowP l)]) (.exit 0) ([(2, .pp 1 0), (3, .pp 2 0), (4, .pp 3 0), (6, .pp 4 0), (7, .pp 5 0), (8, .pv (.bool true)), (21, .ls 0 l.length), (22, .pv (.int .i64 (l.length : Int))), (23, .pv (.int .i64 (l.length : Int)))]) ([(1, 0, .ls 0 l.length), (2, 0, .pv (.int .i64 x.n)), (2, 1, .pv (.int .i64 x.d)), (2, 2, .pv (.int .i64 x.id)), (3, 0, .pv (.int .i64 0)), (3, 1, .pv (.int .i64 0)), (3, 2, .pv (.int .i64 0)), (4, 0, .pv (.int .i64 p.id)), (4, 1, .pv (.int .i64 p.a)), (4, 2, .pv (.int .i64 p.b)), (5, 0, .pv (.int .i64 (fn))), (5, 1, .pv (.int .i64 (fd))), (0, 0, rowP l)])) (hle : FnL Try.prog 16 1 [fldS 0 l, .pv (ratioV fn fd)] [(0, 0, rowP l)] (.pv (.tuple #[.int .i64 lid, .int .i64 0])) 0 []) :
    FnL Try.prog 17 1 [fldS 0 l, .pv (leadV x)] [(0, 0, rowP l)] (.pv (.tuple #[leadV ⟨fn, fd, lid⟩, .bool true])) 0 [] :=
  fnl_run 300 [] [.f [0] [fldS 0 l, .pv (.int .i64 (x.id))] [(0, 0, rowP l)] (.pv (ptV p)) 0 [], .l (.exit 0) ([(2, .pp 1 0), (3, .pp 2 0), (4, .pp 3 0), (6, .pp 4 0), (7, .pp 5 0), (8, .pv (.bool false)), (21, .ls 0 l.length), (22, .pv (.int .i64 (l.length : Int))), (23, .pv (.int .i64 ((0 : Nat) : Int)))]) ([(1, 0, .ls 0 l.length), (2, 0, .pv (.int .i64 x.n)), (2, 1, .pv (.int .i64 x.d)), (2, 2, .pv (.int .i64 x.id)), (3, 0, .pv (.int .i64 0)), (3, 1, .pv (.int .i64 0)), (3, 2, .pv (.int .i64 0)), (4, 0, .pv (.int .i64 p.id)), (4, 1, .pv (.int .i64 p.a)), (4, 2, .pv (.int .i64 p.b)), (5, 0, .pv (.int .i64 (0))), (5, 1, .pv (.int .i64 (0))), (0, 0, rowP l)]) ([(2, .pp 1 0), (3, .pp 2 0), (4, .pp 3 0), (6, .pp 4 0), (7, .pp 5 0), (8, .pv (.bool true)), (21, .ls 0 l.length), (22, .pv (.int .i64 (l.length : Int))), (23, .pv (.int .i64 (l.length : Int)))]) ([(1, 0, .ls 0 l.length), (2, 0, .pv (.int .i64 x.n)), (2, 1, .pv (.int .i64 x.d)), (2, 2, .pv (.int .i64 x.id)), (3, 0, .pv (.int .i64 0)), (3, 1, .pv (.int .i64 0)), (3, 2, .pv (.int .i64 0)), (4, 0, .pv (.int .i64 p.id)), (4, 1, .pv (.int .i64 p.a)), (4, 2, .pv (.int .i64 p.b)), (5, 0, .pv (.int .i64 (fn))), (5, 1, .pv (.int .i64 (fd))), (0, 0, rowP l)]), .k, .f [0] [fldS 0 l, .pv (ratioV fn fd)] [(0, 0, rowP l)] (.pv (.tuple #[.int .i64 lid, .int .i64 0])) 0 []]
     True.intro (And.intro hp (And.intro (Eq.refl (List.map (SV.ren (renU [0] 4)) [fldS 0 l, .pv (.int .i64 (x.id))])) (And.intro (reflH (renU [0] 4) [(0, 0, rowP l)]) (And.intro (reflT (renN []) ([(2, .pp 1 0), (3, .pp 2 0), (4, .pp 3 0), (6, .pp 4 0), (7, .pp 5 0), (8, .pv (.bool false)), (21, .ls 0 l.length), (22, .pv (.int .i64 (l.length : Int))), (23, .pv (.int .i64 ((0 : Nat) : Int)))])) (And.intro (reflH (renN []) ([(1, 0, .ls 0 l.length), (2, 0, .pv (.int .i64 x.n)), (2, 1, .pv (.int .i64 x.d)), (2, 2, .pv (.int .i64 x.id)), (3, 0, .pv (.int .i64 0)), (3, 1, .pv (.int .i64 0)), (3, 2, .pv (.int .i64 0)), (4, 0, .pv (.int .i64 p.id)), (4, 1, .pv (.int .i64 p.a)), (4, 2, .pv (.int .i64 p.b)), (5, 0, .pv (.int .i64 (0))), (5, 1, .pv (.int .i64 (0))), (0, 0, rowP l)])) (And.intro r0 (And.intro hle (And.intro (Eq.refl (List.map (SV.ren (renU [0] 6)) [fldS 0 l, .pv (ratioV fn fd)])) (And.intro (reflH (renU [0] 6) [(0, 0, rowP l)]) True.intro))))))))) (by kernel_rfl)

set_option maxRecDepth 100000 in
theorem of_end {l : List Pt} {x : Ld} {s : List Ld} {k : Nat} (hk : s[k]? = some x) (hin : 0 ≤ (k : Int) ∧ (k : Int) < (s.length : Int)) (hm : Value.int .i64 (IntKind.i64.wrap ((s.length : Int) - 1)) = .int .i64 ((k : Int))) (ho : FnL Try.prog 17 1 [fldS 0 l, .pv (leadV x)] [(0, 0, rowP l)] (.pv (.tuple #[leadV ⟨0, 0, 0⟩, .bool false])) 0 []) : RunsL Try.prog 1 1 (loopOf Try.prog 5 0) 42 4 ([(2, .pp 1 0), (8, .ls 3 (s).length)]) ([(1, 0, .ls 0 l.length), (0, 0, rowP l), (3, 0, rowL (s))]) (.ret) ([(4, .ls 3 s.length), (5, .pv (.int .i64 0))]) ([(3, 0, rowL s)]) :=
  RunsL.stop [] 300 [.r (.int .i64 ((k : Int))), .r (leadV x), .f [0] [fldS 0 l, .pv (leadV x)] [(0, 0, rowP l)] (.pv (.tuple #[leadV ⟨0, 0, 0⟩, .bool false])) 0 [], .k] (fun h => by cases h)
    (round_of (And.intro hm (And.intro hin (And.intro (ra_ld hk) (And.intro ho (And.intro (Eq.refl (List.map (SV.ren (renU [0] 4)) [fldS 0 l, .pv (leadV x)])) (And.intro (reflH (renU [0] 4) [(0, 0, rowP l)]) True.intro)))))) (by kernel_rfl))

set_option maxRecDepth 100000 in
theorem of_next {l : List Pt} {x y : Ld} {s : List Ld} {k : Nat} (hk : s[k]? = some x) (hin : 0 ≤ (k : Int) ∧ (k : Int) < (s.length : Int)) (hm : Value.int .i64 (IntKind.i64.wrap ((s.length : Int) - 1)) = .int .i64 ((k : Int))) (ho : FnL Try.prog 17 1 [fldS 0 l, .pv (leadV x)] [(0, 0, rowP l)] (.pv (.tuple #[leadV y, .bool true])) 0 []) (hl : s.length + 1 ≤ 1000000) {e : Exit} {tm2 : List (Nat × SV)} {hp2 : List (Nat × Nat × SV)}
    (r : RunsL Try.prog 1 1 (loopOf Try.prog 5 0) 42 4 ([(2, .pp 1 0), (8, .ls 3 (s ++ [y]).length)]) ([(1, 0, .ls 0 l.length), (0, 0, rowP l), (3, 0, rowL (s ++ [y]))]) e tm2 hp2) : RunsL Try.prog 1 1 (loopOf Try.prog 5 0) 42 4 ([(2, .pp 1 0), (8, .ls 3 (s).length)]) ([(1, 0, .ls 0 l.length), (0, 0, rowP l), (3, 0, rowL (s))]) e tm2 hp2 :=
  RunsL.next [(3, 6)] 300 [.r (.int .i64 ((k : Int))), .r (leadV x), .f [0] [fldS 0 l, .pv (leadV x)] [(0, 0, rowP l)] (.pv (.tuple #[leadV y, .bool true])) 0 [], .k]
    (round_ofTH (And.intro (Eq.refl (SV.pp 1 0)) (And.intro (snocl_ls 6 s y) True.intro)) (And.intro (Eq.refl (some (SV.ls 0 l.length))) (And.intro (Eq.refl (some (rowP l))) (And.intro (snocl_row s y) True.intro))) (And.intro hm (And.intro hin (And.intro (ra_ld hk) (And.intro ho (And.intro (Eq.refl (List.map (SV.ren (renU [0] 4)) [fldS 0 l, .pv (leadV x)])) (And.intro (reflH (renU [0] 4) [(0, 0, rowP l)]) (And.intro hl True.intro))))))) (by kernel_rfl)) r

set_option maxRecDepth 100000 in
theorem of_err {l : List Pt} {fn fd lid er : Int} (hle : FnL Try.prog 16 1 [fldS 0 l, .pv (ratioV fn fd)] [(0, 0, rowP l)] (.pv (.tuple #[.int .i64 lid, .int .i64 er])) 0 []) (he : (er != 0) = true) :
    FnL Try.prog 5 1 [fldS 0 l, .pv (ratioV fn fd)] [(0, 0, rowP l)] (.pv (.tuple #[.slice none 0 0, .int .i64 er])) 0 [] :=
  fnl_run 300 [] [.f [0] [fldS 0 l, .pv (ratioV fn fd)] [(0, 0, rowP l)] (.pv (.tuple #[.int .i64 lid, .int .i64 er])) 0 [], .t true]
     True.intro (And.intro hle (And.intro (Eq.refl (List.map (SV.ren (renU [0] 3)) [fldS 0 l, .pv (ratioV fn fd)])) (And.intro (reflH (renU [0] 3) [(0, 0, rowP l)]) (And.intro he True.intro)))) (by kernel_rfl)

set_option maxRecDepth 100000 in
theorem of_path {l : List Pt} {t : List Ld} {fn fd lid : Int} (hle : FnL Try.prog 16 1 [fldS 0 l, .pv (ratioV fn fd)] [(0, 0, rowP l)] (.pv (.tuple #[.int .i64 lid, .int .i64 0])) 0 []) (r0 : RunsL Try.prog 1 1 (loopOf Try.prog 5 0) 42 4 ([(2, .pp 1 0), (8, .ls 3 ([Ld.mk fn fd lid]).length)]) ([(1, 0, .ls 0 l.length), (0, 0, rowP l), (3, 0, rowL ([Ld.mk fn fd lid]))]) (.ret) ([(4, .ls 3 t.length), (5, .pv (.int .i64 0))]) ([(3, 0, rowL t)])) :
    FnL Try.prog 5 1 [fldS 0 l, .pv (ratioV fn fd)] [(0, 0, rowP l)] (.tu [.one (.ls 1 t.length), .one (.pv (.int .i64 0))]) 1 [(1, 0, rowL t)] :=
  fnl_run 300 [(1, 3)] [.f [0] [fldS 0 l, .pv (ratioV fn fd)] [(0, 0, rowP l)] (.pv (.tuple #[.int .i64 lid, .int .i64 0])) 0 [], .k, .lw, .l (.ret) ([(2, .pp 1 0), (8, .ls 3 ([Ld.mk fn fd lid]).length)]) ([(1, 0, .ls 0 l.length), (0, 0, rowP l), (3, 0, rowL ([Ld.mk fn fd lid]))]) ([(4, .ls 3 t.length), (5, .pv (.int .i64 0))]) ([(3, 0, rowL t)])]
     (reflH (renN [(1, 3)]) [(1, 0, rowL t)]) (And.intro hle (And.intro (Eq.refl (List.map (SV.ren (renU [0] 3)) [fldS 0 l, .pv (ratioV fn fd)])) (And.intro (reflH (renU [0] 3) [(0, 0, rowP l)]) (And.intro (reflT (renN []) ([(2, .pp 1 0), (8, .ls 3 ([Ld.mk fn fd lid]).length)])) (And.intro (reflH (renN []) ([(1, 0, .ls 0 l.length), (0, 0, rowP l), (3, 0, rowL ([Ld.mk fn fd lid]))])) (And.intro r0 True.intro)))))) (by kernel_rfl)
end Go.Proofs.Ytoheadpehomdjaa
