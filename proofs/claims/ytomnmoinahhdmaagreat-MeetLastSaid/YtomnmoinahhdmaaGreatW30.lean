/-
  Joined: Fa, Fd, Fe, Fg, Fi, Fc, Fb. Conditions: none.
-/
import Derived.Test.YtomnmoinahhdmaaGreatW29
namespace Go.Proofs.YtomnmoinahhdmaaGreat
open Go.RowKit
structure Pt where
  id : Int
  a : Int
  b : Int
abbrev ptV (p : Pt) : Value := pointV p.id p.a p.b
def ptsV : List Pt → List Value
  | [] => []
  | p :: r => .int .i64 p.id :: .int .i64 p.a :: .int .i64 p.b :: ptsV r
theorem ptsV_length : ∀ (l : List Pt), (ptsV l).length = l.length * 3
  | [] => rfl
  | p :: r => by simp [ptsV, ptsV_length r]; omega
theorem ptsV_get : ∀ {l : List Pt} {k : Nat} {p : Pt}, l[k]? = some p → (ptsV l)[k * 3]? = some (.int .i64 p.id) ∧ (ptsV l)[k * 3 + 1]? = some (.int .i64 p.a) ∧ (ptsV l)[k * 3 + 2]? = some (.int .i64 p.b)
  | [], k, p, h => by simp at h
  | q :: r, 0, p, h => by simp at h; subst h; exact ⟨rfl, rfl, rfl⟩
  | q :: r, k + 1, p, h => by
    have := ptsV_get (l := r) (k := k) (p := p) (by simpa using h)
    rw [show (k + 1) * 3 = k * 3 + 1 + 1 + 1 by omega]
    exact this
theorem ra_pt {l : List Pt} {k : Nat} {p : Pt} (h : l[k]? = some p) : rowAt (ptsV l) (0 * 3 + k * 3) [.int .i64 p.id, .int .i64 p.a, .int .i64 p.b] := by
  obtain ⟨h1, h2, h3⟩ := ptsV_get h
  intro j v hj
  rw [show 0 * 3 + k * 3 + j = k * 3 + j by omega]
  match j, hj with
  | 0, hj => cases hj; exact h1
  | 1, hj => cases hj; exact h2
  | 2, hj => cases hj; exact h3
  | j + 3, hj => simp at hj
theorem ra_id {l : List Pt} {k : Nat} {p : Pt} (h : l[k]? = some p) : rowAt (ptsV l) (0 * 3 + k * 3) [.int .i64 p.id] := by
  intro j v hj
  rw [show 0 * 3 + k * 3 + j = k * 3 + j by omega]
  match j, hj with
  | 0, hj => cases hj; exact (ptsV_get h).1
  | j + 1, hj => simp at hj

/-- Rounds, one after another. -/
theorem RunsL.rounds {P : Program} {lo fr : Nat} {c : Code} {n nb : Nat} (tm : Nat → List (Nat × SV)) (hp : Nat → List (Nat × Nat × SV)) {e : Exit} {tm2 : List (Nat × SV)} {hp2 : List (Nat × Nat × SV)} {N : Nat} :
    ∀ (d i : Nat), i + d = N → (∀ j, i ≤ j → j < N → RunsL P lo fr c n nb (tm (j + 1)) (hp (j + 1)) e tm2 hp2 → RunsL P lo fr c n nb (tm j) (hp j) e tm2 hp2) → RunsL P lo fr c n nb (tm N) (hp N) e tm2 hp2 → RunsL P lo fr c n nb (tm i) (hp i) e tm2 hp2
  | 0, i, h, _, last => by have : i = N := by omega
                           subst this; exact last
  | d + 1, i, h, step, last => step i (Nat.le_refl i) (by omega) (RunsL.rounds tm hp d (i + 1) (by omega) (fun j h1 h2 => step j (by omega) h2) last)

abbrev rowP (l : List Pt) : SV := .row 46 3 l.length (ptsV l)
abbrev fldS (b : Nat) (l : List Pt) : SV := .ag [.ls b l.length]
theorem i64_succ {k : Nat} (h : k ≤ 1000000) : Value.int .i64 (IntKind.i64.wrap ((k : Int) + 1)) = .int .i64 ((k + 1 : Nat) : Int) := by rw [wrap_i64_in (by omega) (by omega)]; rfl

set_option maxRecDepth 100000 in
theorem great_t {l : List Pt} (h1 : decide ((l.length : Int) > 16) = true) (h2 : decide ((l.length : Int) < 64) = true) : FnL Tryz.prog 27 1 [fldS 0 l] [(0, 0, rowP l)] (.pv (.bool true)) 0 [] :=
  fnl_run 200 [] [.t true, .t true] True.intro (And.intro h1 (And.intro h2 True.intro)) (by kernel_rfl)
set_option maxRecDepth 100000 in
theorem great_f {l : List Pt} (h1 : decide ((l.length : Int) > 16) = false) (h2 : decide ((l.length : Int) > 70) = false) : FnL Tryz.prog 27 1 [fldS 0 l] [(0, 0, rowP l)] (.pv (.bool false)) 0 [] :=
  fnl_run 200 [] [.t false, .t false] True.intro (And.intro h1 (And.intro h2 True.intro)) (by kernel_rfl)
set_option maxRecDepth 100000 in
theorem great_t2 {l : List Pt} (h1 : decide ((l.length : Int) > 16) = true) (h2 : decide ((l.length : Int) < 64) = false) (h3 : decide ((l.length : Int) > 70) = true) : FnL Tryz.prog 27 1 [fldS 0 l] [(0, 0, rowP l)] (.pv (.bool true)) 0 [] :=
  fnl_run 200 [] [.t true, .t false, .t true] True.intro (And.intro h1 (And.intro h2 (And.intro h3 True.intro))) (by kernel_rfl)
set_option maxRecDepth 100000 in
theorem great_f2 {l : List Pt} (h1 : decide ((l.length : Int) > 16) = true) (h2 : decide ((l.length : Int) < 64) = false) (h3 : decide ((l.length : Int) > 70) = false) : FnL Tryz.prog 27 1 [fldS 0 l] [(0, 0, rowP l)] (.pv (.bool false)) 0 [] :=
  fnl_run 200 [] [.t true, .t false, .t false] True.intro (And.intro h1 (And.intro h2 (And.intro h3 True.intro))) (by kernel_rfl)

theorem twin_x (l : List Pt) : SV.ag [.ls 4 (0 + l.length)] = (SV.ag [.ls 1 l.length]).ren (renN [(1, 4)]) := by rw [Nat.zero_add]; rfl
theorem twin_row (l : List Pt) : some (SV.row 46 3 (0 + l.length) ([] ++ ptsV l)) = some (rowP l) := by rw [Nat.zero_add, List.nil_append]
def idsV (l : List Int) : List Value := l.map fun x => .int .i64 x
abbrev rowI (l : List Int) : SV := .row 3 1 l.length (idsV l)
theorem ra_int {l : List Int} {k : Nat} {x : Int} (h : l[k]? = some x) : rowAt (idsV l) (0 * 1 + k * 1) [.int .i64 x] := by
  intro j v hj
  match j, hj with
  | 0, hj => cases hj; simp [idsV, h]
  | j + 1, hj => simp at hj
theorem seti : ∀ (l : List Int) (k : Nat) (x : Int), k < l.length → idsV (l.set k x) = setL (idsV l) k [.int .i64 x]
  | [], k, x, h => by simp at h
  | y :: r, 0, x, _ => rfl
  | y :: r, k + 1, x, h => by
    have := seti r k x (by simpa using h)
    simp only [idsV, List.set_cons_succ, List.map_cons] at this ⊢
    rw [this]
    simp [setL, Nat.add_right_comm]
theorem seti_row (l : List Int) (k : Nat) (x : Int) (h : k < l.length) : idsV (l.set k x) = setL (idsV l) (0 * 1 + k * 1) [.int .i64 x] := by
  rw [Nat.zero_mul, Nat.zero_add, Nat.mul_one]; exact seti l k x h
theorem seti_in (l : List Int) (k : Nat) (h : k < l.length) : 0 * 1 + k * 1 + 1 ≤ (idsV l).length := by simp [idsV]; omega
theorem rep_ids : ∀ n : Nat, repL [Value.int .i64 0] n = idsV (List.replicate n 0)
  | 0 => rfl
  | n + 1 => by rw [repL, rep_ids n]; rfl
theorem rep_row (n : Nat) : some (SV.row 3 1 n (repL [Value.int .i64 0] n)) = some (SV.row 3 1 n (idsV (List.replicate n 0))) := by rw [rep_ids]
theorem clone_x (l : List Pt) : SV.ls 2 (0 + l.length) = (SV.ls 1 l.length).ren (renN [(1, 2)]) := by rw [Nat.zero_add]; rfl
end Go.Proofs.YtomnmoinahhdmaaGreat

namespace Go.Proofs.YtomnmoinahhdmaaGreat
open Go.RowKit
set_option maxRecDepth 100000 in
theorem cwt_err {l : List Pt} {tn td : Int} {e : Int} (hc : FnL Tryz.prog 60 1 [fldS 0 l] [(0, 0, rowP l)] (.pv (.int .i64 (e))) 0 []) (he : (e != 0) = true) :
    FnL Tryz.prog 56 1 [fldS 0 l, .pv (ratioV tn td)] [(0, 0, rowP l)] (.pv (.int .i64 (e))) 0 [] :=
  fnl_run 300 [] [.f [0] [fldS 0 l] [(0, 0, rowP l)] (.pv (.int .i64 (e))) 0 [], .t true]
     True.intro (And.intro hc (And.intro (Eq.refl (List.map (SV.ren (renU [0] 3)) [fldS 0 l])) (And.intro (reflH (renU [0] 3) [(0, 0, rowP l)]) (And.intro he True.intro)))) (by kernel_rfl)

set_option maxRecDepth 100000 in
theorem cwt_ok {l : List Pt} {tn td : Int} {e : Int} (hc : FnL Tryz.prog 60 1 [fldS 0 l] [(0, 0, rowP l)] (.pv (.int .i64 (0))) 0 []) (ht : Pure Tryz.prog 93 #[ratioV tn td] (.int .i64 (e))) :
    FnL Tryz.prog 56 1 [fldS 0 l, .pv (ratioV tn td)] [(0, 0, rowP l)] (.pv (.int .i64 (e))) 0 [] :=
  fnl_run 300 [] [.f [0] [fldS 0 l] [(0, 0, rowP l)] (.pv (.int .i64 (0))) 0 [], .k, .r (.int .i64 (e))]
     True.intro (And.intro hc (And.intro (Eq.refl (List.map (SV.ren (renU [0] 3)) [fldS 0 l])) (And.intro (reflH (renU [0] 3) [(0, 0, rowP l)]) (And.intro ht True.intro)))) (by kernel_rfl)

end Go.Proofs.YtomnmoinahhdmaaGreat

namespace Go.Proofs.YtomnmoinahhdmaaGreat
open Go.RowKit
set_option maxRecDepth 100000 in
theorem twin_path {l : List Pt} (hn : 0 + l.length ≤ 1000000) :
    FnL Tryz.prog 8 1 [fldS 0 l] [(0, 0, rowP l)] (.ag [.ls 1 l.length]) 1 [(1, 0, rowP l)] :=
  fnl_runX 300 [(1, 4)] []
    (twin_x l) (And.intro (twin_row l) True.intro) (And.intro hn True.intro) (by kernel_rfl)

set_option maxRecDepth 100000 in
theorem same_next {l m : List Pt} {k : Nat} {p q : Pt} (hk : l[k]? = some p) (hin : 0 ≤ (k : Int) ∧ (k : Int) < (l.length : Int)) (hq : m[k]? = some q) (hin2 : 0 ≤ (k : Int) ∧ (k : Int) < (m.length : Int)) (hlt : decide ((k : Int) < (l.length : Int)) = true) (hne : (!(p.id == q.id && (p.a == q.a && (p.b == q.b && true)))) = false) (hs : Value.int .i64 (IntKind.i64.wrap ((k : Int) + 1)) = .int .i64 (((k + 1 : Nat) : Int))) {e : Exit} {tm2 : List (Nat × SV)} {hp2 : List (Nat × Nat × SV)}
    (r : RunsL Tryz.prog 2 2 (loopOf Tryz.prog 16 0) 31 4 ([(2, .pp 2 0), (3, .pp 3 0), (5, .pv (.int .i64 ((k + 1 : Nat) : Int)))]) ([(2, 0, .ls 0 l.length), (3, 0, .ls 1 m.length), (0, 0, rowP l), (1, 0, rowP m)]) e tm2 hp2) : RunsL Tryz.prog 2 2 (loopOf Tryz.prog 16 0) 31 4 ([(2, .pp 2 0), (3, .pp 3 0), (5, .pv (.int .i64 (k : Int)))]) ([(2, 0, .ls 0 l.length), (3, 0, .ls 1 m.length), (0, 0, rowP l), (1, 0, rowP m)]) e tm2 hp2 :=
  RunsL.next [] 300 [.t true, .r (ptV p), .r (ptV q), .t false, .r (.int .i64 (((k + 1 : Nat) : Int)))]
    (round_of (And.intro hlt (And.intro hin (And.intro (ra_pt hk) (And.intro hin2 (And.intro (ra_pt hq) (And.intro hne (And.intro hs True.intro))))))) (by kernel_rfl)) r

set_option maxRecDepth 100000 in
theorem same_end {l m : List Pt} {k : Nat} (hge : decide ((k : Int) < (l.length : Int)) = false) : RunsL Tryz.prog 2 2 (loopOf Tryz.prog 16 0) 31 4 ([(2, .pp 2 0), (3, .pp 3 0), (5, .pv (.int .i64 (k : Int)))]) ([(2, 0, .ls 0 l.length), (3, 0, .ls 1 m.length), (0, 0, rowP l), (1, 0, rowP m)]) (.exit 0) ([]) ([]) :=
  RunsL.stop [] 300 [.t false] (fun h => by cases h)
    (round_of (And.intro hge True.intro) (by kernel_rfl))

set_option maxRecDepth 100000 in
theorem same_yes {l m : List Pt} (hl : (!((l.length : Int) == (m.length : Int))) = false) (r0 : RunsL Tryz.prog 2 2 (loopOf Tryz.prog 16 0) 31 4 ([(2, .pp 2 0), (3, .pp 3 0), (5, .pv (.int .i64 ((0 : Nat) : Int)))]) ([(2, 0, .ls 0 l.length), (3, 0, .ls 1 m.length), (0, 0, rowP l), (1, 0, rowP m)]) (.exit 0) ([]) ([])) :
    FnL Tryz.prog 16 2 [fldS 0 l, fldS 1 m] [(0, 0, rowP l), (1, 0, rowP m)] (.pv (.bool true)) 0 [] :=
  fnl_run 300 [] [.t false, .l (.exit 0) ([(2, .pp 2 0), (3, .pp 3 0), (5, .pv (.int .i64 ((0 : Nat) : Int)))]) ([(2, 0, .ls 0 l.length), (3, 0, .ls 1 m.length), (0, 0, rowP l), (1, 0, rowP m)]) ([]) ([])]
     True.intro (And.intro hl (And.intro (reflT (renN []) ([(2, .pp 2 0), (3, .pp 3 0), (5, .pv (.int .i64 ((0 : Nat) : Int)))])) (And.intro (reflH (renN []) ([(2, 0, .ls 0 l.length), (3, 0, .ls 1 m.length), (0, 0, rowP l), (1, 0, rowP m)])) (And.intro r0 True.intro)))) (by kernel_rfl)

set_option maxRecDepth 100000 in
theorem sid_next {l m : List Int} {k : Nat} {x y : Int} (hk : l[k]? = some x) (hin : 0 ≤ (k : Int) ∧ (k : Int) < (l.length : Int)) (hq : m[k]? = some y) (hin2 : 0 ≤ (k : Int) ∧ (k : Int) < (m.length : Int)) (hlt : decide ((k : Int) < (l.length : Int)) = true) (hne : (!(x == y)) = false) (hs : Value.int .i64 (IntKind.i64.wrap ((k : Int) + 1)) = .int .i64 (((k + 1 : Nat) : Int))) {e : Exit} {tm2 : List (Nat × SV)} {hp2 : List (Nat × Nat × SV)}
    (r : RunsL Tryz.prog 2 2 (loopOf Tryz.prog 25 0) 26 2 ([(0, .ls 0 l.length), (1, .ls 1 m.length), (5, .pv (.int .i64 ((k + 1 : Nat) : Int)))]) ([(0, 0, rowI l), (1, 0, rowI m)]) e tm2 hp2) : RunsL Tryz.prog 2 2 (loopOf Tryz.prog 25 0) 26 2 ([(0, .ls 0 l.length), (1, .ls 1 m.length), (5, .pv (.int .i64 (k : Int)))]) ([(0, 0, rowI l), (1, 0, rowI m)]) e tm2 hp2 :=
  RunsL.next [] 300 [.t true, .r (Value.int .i64 x), .r (Value.int .i64 y), .t false, .r (.int .i64 (((k + 1 : Nat) : Int)))]
    (round_of (And.intro hlt (And.intro hin (And.intro (ra_int hk) (And.intro hin2 (And.intro (ra_int hq) (And.intro hne (And.intro hs True.intro))))))) (by kernel_rfl)) r

set_option maxRecDepth 100000 in
theorem sid_end {l m : List Int} {k : Nat} (hge : decide ((k : Int) < (l.length : Int)) = false) : RunsL Tryz.prog 2 2 (loopOf Tryz.prog 25 0) 26 2 ([(0, .ls 0 l.length), (1, .ls 1 m.length), (5, .pv (.int .i64 (k : Int)))]) ([(0, 0, rowI l), (1, 0, rowI m)]) (.exit 0) ([]) ([]) :=
  RunsL.stop [] 300 [.t false] (fun h => by cases h)
    (round_of (And.intro hge True.intro) (by kernel_rfl))

set_option maxRecDepth 100000 in
theorem sid_yes {l m : List Int} (hl : (!((l.length : Int) == (m.length : Int))) = false) (r0 : RunsL Tryz.prog 2 2 (loopOf Tryz.prog 25 0) 26 2 ([(0, .ls 0 l.length), (1, .ls 1 m.length), (5, .pv (.int .i64 ((0 : Nat) : Int)))]) ([(0, 0, rowI l), (1, 0, rowI m)]) (.exit 0) ([]) ([])) :
    FnL Tryz.prog 25 2 [.ls 0 l.length, .ls 1 m.length] [(0, 0, rowI l), (1, 0, rowI m)] (.pv (.bool true)) 0 [] :=
  fnl_run 300 [] [.t false, .l (.exit 0) ([(0, .ls 0 l.length), (1, .ls 1 m.length), (5, .pv (.int .i64 ((0 : Nat) : Int)))]) ([(0, 0, rowI l), (1, 0, rowI m)]) ([]) ([])]
     True.intro (And.intro hl (And.intro (reflT (renN []) ([(0, .ls 0 l.length), (1, .ls 1 m.length), (5, .pv (.int .i64 ((0 : Nat) : Int)))])) (And.intro (reflH (renN []) ([(0, 0, rowI l), (1, 0, rowI m)])) (And.intro r0 True.intro)))) (by kernel_rfl)

end Go.Proofs.YtomnmoinahhdmaaGreat

namespace Go.Proofs.YtomnmoinahhdmaaGreat
open Go.RowKit
set_option maxRecDepth 100000 in
theorem find1_lt {a pa pb id : Int} (n1 : (!(a == a)) = false) (n2 : (!(id == id)) = false) (h1 : decide (a < id) = true) : Pure Tryz.prog 105 #[pointV a pa pb, .int .i64 id] (.int .i64 (-1)) :=
  pure_run (args := [pointV a pa pb, .int .i64 id]) 200 [.k, .k, .t false, .k, .t false, .t true] (And.intro rfl (And.intro n1 (And.intro n2 (And.intro h1 True.intro)))) (by kernel_rfl)

set_option maxRecDepth 100000 in
theorem find1_gt {a pa pb id : Int} (n1 : (!(a == a)) = false) (n2 : (!(id == id)) = false) (h1 : decide (a < id) = false) (h2 : decide (a > id) = true) : Pure Tryz.prog 105 #[pointV a pa pb, .int .i64 id] (.int .i64 (1)) :=
  pure_run (args := [pointV a pa pb, .int .i64 id]) 200 [.k, .k, .t false, .k, .t false, .t false, .t true] (And.intro rfl (And.intro n1 (And.intro n2 (And.intro h1 (And.intro h2 True.intro))))) (by kernel_rfl)

set_option maxRecDepth 100000 in
theorem find1_eq {a pa pb id : Int} (n1 : (!(a == a)) = false) (n2 : (!(id == id)) = false) (h1 : decide (a < id) = false) (h2 : decide (a > id) = false) : Pure Tryz.prog 105 #[pointV a pa pb, .int .i64 id] (.int .i64 (0)) :=
  pure_run (args := [pointV a pa pb, .int .i64 id]) 200 [.k, .k, .t false, .k, .t false, .t false, .t false] (And.intro rfl (And.intro n1 (And.intro n2 (And.intro h1 (And.intro h2 True.intro))))) (by kernel_rfl)

set_option maxRecDepth 100000 in
theorem bs_up {l : List Pt} {i j h : Nat} {p : Pt} {c : Int} {id : Int} (hk : l[h]? = some p) (hin : 0 ≤ (h : Int) ∧ (h : Int) < (l.length : Int)) (hlt : decide ((i : Int) < (j : Int)) = true) (ha : Value.int .i64 (IntKind.i64.wrap ((i : Int) + (j : Int))) = .int .i64 ((i : Int) + (j : Int))) (hu : Value.int .u64 (IntKind.u64.wrap ((i : Int) + (j : Int))) = .int .u64 ((i : Int) + (j : Int))) (h1 : ¬ (1 : Int) < 0) (hs : Value.int .u64 (((i : Int) + (j : Int)).fdiv (2 ^ (min (1 : Int).toNat IntKind.u64.bits))) = .int .u64 (h : Int)) (hb : Value.int .i64 (IntKind.i64.wrap (h : Int)) = .int .i64 ((h : Int))) (hc : Pure Tryz.prog 105 #[pointV p.id p.a p.b, .int .i64 id] (.int .i64 (c))) (hz : decide (c < 0) = true) (hh : Value.int .i64 (IntKind.i64.wrap ((h : Int) + 1)) = .int .i64 (((h + 1 : Nat) : Int))) {e : Exit} {tm2 : List (Nat × SV)} {hp2 : List (Nat × Nat × SV)}
    (r : RunsL Tryz.prog 1 1 (loopOf Tryz.prog 104 0) 49 1 ([(0, .ls 0 l.length), (1, .pv (.int .i64 id)), (2, .pv (.func (.func 105) #[] #[])), (8, .pv (.int .i64 (l.length : Int))), (9, .pv (.int .i64 ((h + 1 : Nat) : Int))), (10, .pv (.int .i64 (j : Int)))]) ([(0, 0, rowP l)]) e tm2 hp2) : RunsL Tryz.prog 1 1 (loopOf Tryz.prog 104 0) 49 1 ([(0, .ls 0 l.length), (1, .pv (.int .i64 id)), (2, .pv (.func (.func 105) #[] #[])), (8, .pv (.int .i64 (l.length : Int))), (9, .pv (.int .i64 (i : Int))), (10, .pv (.int .i64 (j : Int)))]) ([(0, 0, rowP l)]) e tm2 hp2 :=
  RunsL.next [] 300 [.t true, .r (.int .i64 ((i : Int) + (j : Int))), .r (.int .u64 ((i : Int) + (j : Int))), .r (.int .u64 (h : Int)), .r (.int .i64 ((h : Int))), .r (ptV p), .r (.int .i64 (c)), .t true, .r (.int .i64 (((h + 1 : Nat) : Int)))]
    (round_of (And.intro hlt (And.intro ha (And.intro hu (And.intro h1 (And.intro hs (And.intro hb (And.intro hin (And.intro (ra_pt hk) (And.intro hc (And.intro hz (And.intro hh True.intro))))))))))) (by kernel_rfl)) r

set_option maxRecDepth 100000 in
theorem bs_dn {l : List Pt} {i j h : Nat} {p : Pt} {c : Int} {id : Int} (hk : l[h]? = some p) (hin : 0 ≤ (h : Int) ∧ (h : Int) < (l.length : Int)) (hlt : decide ((i : Int) < (j : Int)) = true) (ha : Value.int .i64 (IntKind.i64.wrap ((i : Int) + (j : Int))) = .int .i64 ((i : Int) + (j : Int))) (hu : Value.int .u64 (IntKind.u64.wrap ((i : Int) + (j : Int))) = .int .u64 ((i : Int) + (j : Int))) (h1 : ¬ (1 : Int) < 0) (hs : Value.int .u64 (((i : Int) + (j : Int)).fdiv (2 ^ (min (1 : Int).toNat IntKind.u64.bits))) = .int .u64 (h : Int)) (hb : Value.int .i64 (IntKind.i64.wrap (h : Int)) = .int .i64 ((h : Int))) (hc : Pure Tryz.prog 105 #[pointV p.id p.a p.b, .int .i64 id] (.int .i64 (c))) (hz : decide (c < 0) = false) {e : Exit} {tm2 : List (Nat × SV)} {hp2 : List (Nat × Nat × SV)}
    (r : RunsL Tryz.prog 1 1 (loopOf Tryz.prog 104 0) 49 1 ([(0, .ls 0 l.length), (1, .pv (.int .i64 id)), (2, .pv (.func (.func 105) #[] #[])), (8, .pv (.int .i64 (l.length : Int))), (9, .pv (.int .i64 (i : Int))), (10, .pv (.int .i64 (h : Int)))]) ([(0, 0, rowP l)]) e tm2 hp2) : RunsL Tryz.prog 1 1 (loopOf Tryz.prog 104 0) 49 1 ([(0, .ls 0 l.length), (1, .pv (.int .i64 id)), (2, .pv (.func (.func 105) #[] #[])), (8, .pv (.int .i64 (l.length : Int))), (9, .pv (.int .i64 (i : Int))), (10, .pv (.int .i64 (j : Int)))]) ([(0, 0, rowP l)]) e tm2 hp2 :=
  RunsL.next [] 300 [.t true, .r (.int .i64 ((i : Int) + (j : Int))), .r (.int .u64 ((i : Int) + (j : Int))), .r (.int .u64 (h : Int)), .r (.int .i64 ((h : Int))), .r (ptV p), .r (.int .i64 (c)), .t false]
    (round_of (And.intro hlt (And.intro ha (And.intro hu (And.intro h1 (And.intro hs (And.intro hb (And.intro hin (And.intro (ra_pt hk) (And.intro hc (And.intro hz True.intro)))))))))) (by kernel_rfl)) r

set_option maxRecDepth 100000 in
theorem bs_end {l : List Pt} {i j : Nat} {id : Int} (hge : decide ((i : Int) < (j : Int)) = false) : RunsL Tryz.prog 1 1 (loopOf Tryz.prog 104 0) 49 1 ([(0, .ls 0 l.length), (1, .pv (.int .i64 id)), (2, .pv (.func (.func 105) #[] #[])), (8, .pv (.int .i64 (l.length : Int))), (9, .pv (.int .i64 (i : Int))), (10, .pv (.int .i64 (j : Int)))]) ([(0, 0, rowP l)]) (.exit 0) ([(0, .ls 0 l.length), (1, .pv (.int .i64 id)), (2, .pv (.func (.func 105) #[] #[])), (8, .pv (.int .i64 (l.length : Int))), (9, .pv (.int .i64 (i : Int))), (10, .pv (.int .i64 (j : Int)))]) ([(0, 0, rowP l)]) :=
  RunsL.stop [] 300 [.t false] (fun h => by cases h)
    (round_of (And.intro hge True.intro) (by kernel_rfl))

set_option maxRecDepth 100000 in
theorem bsf_hit {l : List Pt} {k : Nat} {p : Pt} {c : Int} {id : Int} (r0 : RunsL Tryz.prog 1 1 (loopOf Tryz.prog 104 0) 49 1 ([(0, .ls 0 l.length), (1, .pv (.int .i64 id)), (2, .pv (.func (.func 105) #[] #[])), (8, .pv (.int .i64 (l.length : Int))), (9, .pv (.int .i64 ((0 : Nat) : Int))), (10, .pv (.int .i64 (l.length : Int)))]) ([(0, 0, rowP l)]) (.exit 0) ([(0, .ls 0 l.length), (1, .pv (.int .i64 id)), (2, .pv (.func (.func 105) #[] #[])), (8, .pv (.int .i64 (l.length : Int))), (9, .pv (.int .i64 (k : Int))), (10, .pv (.int .i64 (k : Int)))]) ([(0, 0, rowP l)])) (hk : l[k]? = some p) (hin : 0 ≤ (k : Int) ∧ (k : Int) < (l.length : Int)) (hlt : decide ((k : Int) < (l.length : Int)) = true) (hc : Pure Tryz.prog 105 #[pointV p.id p.a p.b, .int .i64 id] (.int .i64 (c))) (hz : (c == 0) = true) :
    FnL Tryz.prog 104 1 [.ls 0 l.length, .pv (.int .i64 (id)), .pv (.func (.func 105) #[] #[])] [(0, 0, rowP l)] (.pv (.tuple #[.int .i64 (k : Int), .bool true])) 0 [] :=
  fnl_run 300 [] [.l (.exit 0) ([(0, .ls 0 l.length), (1, .pv (.int .i64 id)), (2, .pv (.func (.func 105) #[] #[])), (8, .pv (.int .i64 (l.length : Int))), (9, .pv (.int .i64 ((0 : Nat) : Int))), (10, .pv (.int .i64 (l.length : Int)))]) ([(0, 0, rowP l)]) ([(0, .ls 0 l.length), (1, .pv (.int .i64 id)), (2, .pv (.func (.func 105) #[] #[])), (8, .pv (.int .i64 (l.length : Int))), (9, .pv (.int .i64 (k : Int))), (10, .pv (.int .i64 (k : Int)))]) ([(0, 0, rowP l)]), .t true, .r (ptV p), .r (.int .i64 (c)), .t true]
     True.intro (And.intro (reflT (renN []) ([(0, .ls 0 l.length), (1, .pv (.int .i64 id)), (2, .pv (.func (.func 105) #[] #[])), (8, .pv (.int .i64 (l.length : Int))), (9, .pv (.int .i64 ((0 : Nat) : Int))), (10, .pv (.int .i64 (l.length : Int)))])) (And.intro (reflH (renN []) ([(0, 0, rowP l)])) (And.intro r0 (And.intro hlt (And.intro hin (And.intro (ra_pt hk) (And.intro hc (And.intro hz True.intro)))))))) (by kernel_rfl)

set_option maxRecDepth 100000 in
theorem find_path {l : List Pt} {k : Nat} {b : Bool} {id : Int} (hb : FnL Tryz.prog 104 1 [.ls 0 l.length, .pv (.int .i64 (id)), .pv (.func (.func 105) #[] #[])] [(0, 0, rowP l)] (.pv (.tuple #[.int .i64 (k : Int), .bool b])) 0 []) :
    FnL Tryz.prog 61 1 [fldS 0 l, .pv (.int .i64 (id))] [(0, 0, rowP l)] (.pv (.tuple #[.int .i64 (k : Int), .bool b])) 0 [] :=
  fnl_run 300 [] [.f [0] [.ls 0 l.length, .pv (.int .i64 (id)), .pv (.func (.func 105) #[] #[])] [(0, 0, rowP l)] (.pv (.tuple #[.int .i64 (k : Int), .bool b])) 0 []]
     True.intro (And.intro hb (And.intro (Eq.refl (List.map (SV.ren (renU [0] 2)) [.ls 0 l.length, .pv (.int .i64 (id)), .pv (.func (.func 105) #[] #[])])) (And.intro (reflH (renU [0] 2) [(0, 0, rowP l)]) True.intro))) (by kernel_rfl)

set_option maxRecDepth 100000 in
theorem pfind_yes {l : List Pt} {k : Nat} {p : Pt} {id : Int} (hk : l[k]? = some p) (hin : 0 ≤ (k : Int) ∧ (k : Int) < (l.length : Int)) (hc : FnL Tryz.prog 60 1 [fldS 0 l] [(0, 0, rowP l)] (.pv (.int .i64 (0))) 0 []) (hf : FnL Tryz.prog 61 1 [fldS 0 l, .pv (.int .i64 (id))] [(0, 0, rowP l)] (.pv (.tuple #[.int .i64 (k : Int), .bool true])) 0 []) :
    FnL Tryz.prog 26 1 [fldS 0 l, .pv (.int .i64 (id))] [(0, 0, rowP l)] (.pv (.tuple #[ptV p, .int .i64 (0)])) 0 [] :=
  fnl_run 300 [] [.f [0] [fldS 0 l] [(0, 0, rowP l)] (.pv (.int .i64 (0))) 0 [], .k, .f [0] [fldS 0 l, .pv (.int .i64 (id))] [(0, 0, rowP l)] (.pv (.tuple #[.int .i64 (k : Int), .bool true])) 0 [], .k, .r (ptV p)]
     True.intro (And.intro hc (And.intro (Eq.refl (List.map (SV.ren (renU [0] 3)) [fldS 0 l])) (And.intro (reflH (renU [0] 3) [(0, 0, rowP l)]) (And.intro hf (And.intro (Eq.refl (List.map (SV.ren (renU [0] 3)) [fldS 0 l, .pv (.int .i64 (id))])) (And.intro (reflH (renU [0] 3) [(0, 0, rowP l)]) (And.intro hin (And.intro (ra_pt hk) True.intro)))))))) (by kernel_rfl)

end Go.Proofs.YtomnmoinahhdmaaGreat

namespace Go.Proofs.YtomnmoinahhdmaaGreat
open Go.RowKit
set_option maxRecDepth 100000 in
theorem lf_eq {p q : Pt} {tn td : Int} (he : (p.id == q.id) = true) :
    FnL Tryz.prog 103 1 [.pv (ptV p), .pv (ptV q), .pp 0 0] [(0, 0, .pv (.int .i64 tn)), (0, 1, .pv (.int .i64 td))] (.pv (.int .i64 (0))) 0 [] :=
  fnl_run 300 [] [.t true]
     True.intro (And.intro he True.intro) (by kernel_rfl)

set_option maxRecDepth 100000 in
theorem lf_lt {p q : Pt} {tn td : Int} (he : (p.id == q.id) = false) (ha : Pure Tryz.prog 43 #[pointV p.id p.a p.b, pointV q.id q.a q.b, ratioV tn td] (.tuple #[.bool true, .int .i64 0])) :
    FnL Tryz.prog 103 1 [.pv (ptV p), .pv (ptV q), .pp 0 0] [(0, 0, .pv (.int .i64 tn)), (0, 1, .pv (.int .i64 td))] (.pv (.int .i64 (-1))) 0 [] :=
  fnl_run 300 [] [.t false, .r (.tuple #[.bool true, .int .i64 0])]
     True.intro (And.intro he (And.intro ha True.intro)) (by kernel_rfl)

set_option maxRecDepth 100000 in
theorem lf_gt {p q : Pt} {tn td : Int} (he : (p.id == q.id) = false) (ha : Pure Tryz.prog 43 #[pointV p.id p.a p.b, pointV q.id q.a q.b, ratioV tn td] (.tuple #[.bool false, .int .i64 0])) :
    FnL Tryz.prog 103 1 [.pv (ptV p), .pv (ptV q), .pp 0 0] [(0, 0, .pv (.int .i64 tn)), (0, 1, .pv (.int .i64 td))] (.pv (.int .i64 (1))) 0 [] :=
  fnl_run 300 [] [.t false, .r (.tuple #[.bool false, .int .i64 0])]
     True.intro (And.intro he (And.intro ha True.intro)) (by kernel_rfl)

set_option maxRecDepth 100000 in
theorem clone_path {l : List Pt} (h0 : 0 < l.length) (hn : 0 + l.length ≤ 1000000) :
    FnL Tryz.prog 57 1 [.ls 0 l.length] [(0, 0, rowP l)] (.ls 1 l.length) 1 [(1, 0, rowP l)] :=
  fnl_runX 300 [(1, 2)] [.t false]
    (clone_x l) (And.intro (twin_row l) True.intro) (And.intro h0 (And.intro hn True.intro)) (by kernel_rfl)

set_option maxRecDepth 100000 in
theorem clone_e {ad : Addr} {c : Nat} :
    FnL Tryz.prog 57 0 [.pv (.slice (some ad) 0 c)] [] (.ls 0 0) 1 [(0, 0, rowP ([] : List Pt))] :=
  fnl_run 300 [(0, 1)] [.k]
     (reflH (renN [(0, 1)]) [(0, 0, rowP ([] : List Pt))]) (And.intro (Nat.zero_le _ : 0 + 0 ≤ 1000000) True.intro) (by kernel_rfl)

theorem clone_nil {c : Nat} : Pure Tryz.prog 57 #[.slice none 0 c] (.slice none 0 0) :=
  pure_run (args := [.slice none 0 c]) 200 [] (And.intro rfl True.intro) (by kernel_rfl)

set_option maxRecDepth 100000 in
theorem ord_next {l s : List Pt} {g : List Int} {k : Nat} {p : Pt} (hk : s[k]? = some p) (hin : 0 ≤ (k : Int) ∧ (k : Int) < (l.length : Int)) (hg : k < g.length) (hlt : decide ((k : Int) < (l.length : Int)) = true) (hs : Value.int .i64 (IntKind.i64.wrap ((k : Int) + 1)) = .int .i64 (((k + 1 : Nat) : Int))) {e : Exit} {tm2 : List (Nat × SV)} {hp2 : List (Nat × Nat × SV)}
    (r : RunsL Tryz.prog 1 1 (loopOf Tryz.prog 24 0) 41 6 ([(8, .ls 5 l.length), (27, .ls 3 l.length), (28, .pv (.int .i64 (l.length : Int))), (29, .pv (.int .i64 ((k + 1 : Nat) : Int)))]) ([(3, 0, .row 46 3 l.length (ptsV s)), (5, 0, .row 3 1 l.length (idsV (g.set k p.id)))]) e tm2 hp2) : RunsL Tryz.prog 1 1 (loopOf Tryz.prog 24 0) 41 6 ([(8, .ls 5 l.length), (27, .ls 3 l.length), (28, .pv (.int .i64 (l.length : Int))), (29, .pv (.int .i64 (k : Int)))]) ([(3, 0, .row 46 3 l.length (ptsV s)), (5, 0, .row 3 1 l.length (idsV g))]) e tm2 hp2 :=
  RunsL.next [] 300 [.t true, .r (ptV p), .w (idsV (g.set k p.id)), .r (.int .i64 (((k + 1 : Nat) : Int)))]
    (round_of (And.intro hlt (And.intro hin (And.intro (ra_pt hk) (And.intro hin (And.intro (seti_row g k p.id hg) (And.intro (seti_in g k hg) (And.intro hs True.intro))))))) (by kernel_rfl)) r

set_option maxRecDepth 100000 in
theorem ord_end {l s : List Pt} {g : List Int} {k : Nat} (hge : decide ((k : Int) < (l.length : Int)) = false) : RunsL Tryz.prog 1 1 (loopOf Tryz.prog 24 0) 41 6 ([(8, .ls 5 l.length), (27, .ls 3 l.length), (28, .pv (.int .i64 (l.length : Int))), (29, .pv (.int .i64 (k : Int)))]) ([(3, 0, .row 46 3 l.length (ptsV s)), (5, 0, .row 3 1 l.length (idsV g))]) (.exit 0) ([(8, .ls 5 l.length)]) ([(3, 0, .row 46 3 l.length (ptsV s)), (5, 0, .row 3 1 l.length (idsV g))]) :=
  RunsL.stop [] 300 [.t false] (fun h => by cases h)
    (round_of (And.intro hge True.intro) (by kernel_rfl))

set_option maxRecDepth 100000 in
theorem pord_yes {l s : List Pt} {g : List Int} {tn td : Int} (hc : FnL Tryz.prog 56 1 [fldS 0 l, .pv (ratioV tn td)] [(0, 0, rowP l)] (.pv (.int .i64 (0))) 0 []) (hcl : FnL Tryz.prog 57 1 [.ls 0 l.length] [(0, 0, rowP l)] (.ls 1 l.length) 1 [(1, 0, rowP l)]) (hso : FnM Tryz.prog 58 2 [.ls 0 l.length, .pc 103 [.pp 1 0]] [(0, 0, rowP l), (1, 0, .pv (.int .i64 tn)), (1, 1, .pv (.int .i64 td))] (.tuple #[]) 0 ⟨46, 3, l.length, ptsV l⟩ (ptsV s)) (hn0 : 0 ≤ (l.length : Int)) (hn1 : (l.length : Int) ≤ 1000000) (r0 : RunsL Tryz.prog 1 1 (loopOf Tryz.prog 24 0) 41 6 ([(8, .ls 5 l.length), (27, .ls 3 l.length), (28, .pv (.int .i64 (l.length : Int))), (29, .pv (.int .i64 ((0 : Nat) : Int)))]) ([(3, 0, .row 46 3 l.length (ptsV s)), (5, 0, .row 3 1 l.length (idsV (List.replicate l.length (0 : Int))))]) (.exit 0) ([(8, .ls 5 l.length)]) ([(3, 0, .row 46 3 l.length (ptsV s)), (5, 0, .row 3 1 l.length (idsV g))])) :
    FnL Tryz.prog 24 1 [fldS 0 l, .pv (ratioV tn td)] [(0, 0, rowP l)] (.tu [.one (.ls 1 l.length), .one (.pv (.int .i64 0))]) 1 [(1, 0, .row 3 1 l.length (idsV g))] :=
  fnl_run 300 [(1, 5)] [.f [0] [fldS 0 l, .pv (ratioV tn td)] [(0, 0, rowP l)] (.pv (.int .i64 (0))) 0 [], .k, .f [0] [.ls 0 l.length] [(0, 0, rowP l)] (.ls 1 l.length) 1 [(1, 0, rowP l)], .k, .m [3,4] [.ls 0 l.length, .pc 103 [.pp 1 0]] [(0, 0, rowP l), (1, 0, .pv (.int .i64 tn)), (1, 1, .pv (.int .i64 td))] (.tuple #[]) 0 (ptsV s), .l (.exit 0) ([(8, .ls 5 l.length), (27, .ls 3 l.length), (28, .pv (.int .i64 (l.length : Int))), (29, .pv (.int .i64 ((0 : Nat) : Int)))]) ([(3, 0, .row 46 3 l.length (ptsV s)), (5, 0, .row 3 1 l.length (idsV (List.replicate l.length (0 : Int))))]) ([(8, .ls 5 l.length)]) ([(3, 0, .row 46 3 l.length (ptsV s)), (5, 0, .row 3 1 l.length (idsV g))])]
     (reflH (renN [(1, 5)]) [(1, 0, .row 3 1 l.length (idsV g))]) (And.intro hc (And.intro (Eq.refl (List.map (SV.ren (renU [0] 3)) [fldS 0 l, .pv (ratioV tn td)])) (And.intro (reflH (renU [0] 3) [(0, 0, rowP l)]) (And.intro hcl (And.intro (Eq.refl (List.map (SV.ren (renU [0] 3)) [.ls 0 l.length])) (And.intro (reflH (renU [0] 3) [(0, 0, rowP l)]) (And.intro hso (And.intro (Eq.refl (List.map (SV.ren (renU [3,4] 5)) [.ls 0 l.length, .pc 103 [.pp 1 0]])) (And.intro (reflH (renU [3,4] 5) [(0, 0, rowP l), (1, 0, .pv (.int .i64 tn)), (1, 1, .pv (.int .i64 td))]) (And.intro hn0 (And.intro (Eq.refl (l.length : Int)) (And.intro hn1 (And.intro (reflT (renN []) ([(8, .ls 5 l.length), (27, .ls 3 l.length), (28, .pv (.int .i64 (l.length : Int))), (29, .pv (.int .i64 ((0 : Nat) : Int)))])) (And.intro (And.intro (Eq.refl (some (SV.row 46 3 l.length (ptsV s)))) (And.intro (rep_row l.length) True.intro)) (And.intro r0 True.intro))))))))))))))) (by kernel_rfl)

end Go.Proofs.YtomnmoinahhdmaaGreat

namespace Go.Proofs.YtomnmoinahhdmaaGreat
open Go.RowKit
set_option maxRecDepth 100000 in
theorem pc0_next {l : List Pt} {k : Nat} {p : Pt} (hk : l[k]? = some p) (hin : 0 ≤ (k : Int) ∧ (k : Int) < (l.length : Int)) (hlt : decide ((k : Int) < (l.length : Int)) = true) (hc : Pure Tryz.prog 92 #[pointV p.id p.a p.b] (.int .i64 (0))) (hs : Value.int .i64 (IntKind.i64.wrap ((k : Int) + 1)) = .int .i64 (((k + 1 : Nat) : Int))) {e : Exit} {tm2 : List (Nat × SV)} {hp2 : List (Nat × Nat × SV)}
    (r : RunsL Tryz.prog 1 1 (loopOf Tryz.prog 60 0) 45 2 ([(1, .pp 1 0), (12, .ls 0 l.length), (13, .pv (.int .i64 (l.length : Int))), (14, .pv (.int .i64 ((k + 1 : Nat) : Int)))]) ([(1, 0, .ls 0 l.length), (0, 0, rowP l)]) e tm2 hp2) : RunsL Tryz.prog 1 1 (loopOf Tryz.prog 60 0) 45 2 ([(1, .pp 1 0), (12, .ls 0 l.length), (13, .pv (.int .i64 (l.length : Int))), (14, .pv (.int .i64 (k : Int)))]) ([(1, 0, .ls 0 l.length), (0, 0, rowP l)]) e tm2 hp2 :=
  RunsL.next [] 300 [.t true, .r (ptV p), .r (.int .i64 (0)), .k, .r (.int .i64 (((k + 1 : Nat) : Int)))]
    (round_of (And.intro hlt (And.intro hin (And.intro (ra_pt hk) (And.intro hc (And.intro hs True.intro))))) (by kernel_rfl)) r

set_option maxRecDepth 100000 in
theorem pc0_bad {l : List Pt} {k : Nat} {p : Pt} (hk : l[k]? = some p) (hin : 0 ≤ (k : Int) ∧ (k : Int) < (l.length : Int)) (hlt : decide ((k : Int) < (l.length : Int)) = true) (hc : Pure Tryz.prog 92 #[pointV p.id p.a p.b] (.int .i64 (8))) : RunsL Tryz.prog 1 1 (loopOf Tryz.prog 60 0) 45 2 ([(1, .pp 1 0), (12, .ls 0 l.length), (13, .pv (.int .i64 (l.length : Int))), (14, .pv (.int .i64 (k : Int)))]) ([(1, 0, .ls 0 l.length), (0, 0, rowP l)]) (.ret) ([(2, .pv (.int .i64 8))]) ([]) :=
  RunsL.stop [] 300 [.t true, .r (ptV p), .r (.int .i64 (8)), .k] (fun h => by cases h)
    (round_of (And.intro hlt (And.intro hin (And.intro (ra_pt hk) (And.intro hc True.intro)))) (by kernel_rfl))

set_option maxRecDepth 100000 in
theorem pc0_end {l : List Pt} {k : Nat} (hge : decide ((k : Int) < (l.length : Int)) = false) : RunsL Tryz.prog 1 1 (loopOf Tryz.prog 60 0) 45 2 ([(1, .pp 1 0), (12, .ls 0 l.length), (13, .pv (.int .i64 (l.length : Int))), (14, .pv (.int .i64 (k : Int)))]) ([(1, 0, .ls 0 l.length), (0, 0, rowP l)]) (.exit 0) ([(1, .pp 1 0)]) ([(1, 0, .ls 0 l.length), (0, 0, rowP l)]) :=
  RunsL.stop [] 300 [.t false] (fun h => by cases h)
    (round_of (And.intro hge True.intro) (by kernel_rfl))

set_option maxRecDepth 100000 in
theorem pc1_next {l : List Pt} {k : Nat} {p q : Pt} (hq : l[k]? = some q) (hk : l[k + 1]? = some p) (hi0 : 0 ≤ (k : Int) ∧ (k : Int) < (l.length : Int)) (hi1 : 0 ≤ ((k + 1 : Nat) : Int) ∧ ((k + 1 : Nat) : Int) < (l.length : Int)) (hlt : decide (((k + 1 : Nat) : Int) < (l.length : Int)) = true) (hm : Value.int .i64 (IntKind.i64.wrap (((k + 1 : Nat) : Int) - 1)) = .int .i64 ((k : Int))) (hg : decide (q.id ≥ p.id) = false) (hs : Value.int .i64 (IntKind.i64.wrap (((k + 1 : Nat) : Int) + 1)) = .int .i64 (((k + 1 + 1 : Nat) : Int))) {e : Exit} {tm2 : List (Nat × SV)} {hp2 : List (Nat × Nat × SV)}
    (r : RunsL Tryz.prog 1 1 (loopOf Tryz.prog 60 1) 45 2 ([(1, .pp 1 0), (6, .pv (.int .i64 ((k + 1 + 1 : Nat) : Int)))]) ([(1, 0, .ls 0 l.length), (0, 0, rowP l)]) e tm2 hp2) : RunsL Tryz.prog 1 1 (loopOf Tryz.prog 60 1) 45 2 ([(1, .pp 1 0), (6, .pv (.int .i64 ((k + 1 : Nat) : Int)))]) ([(1, 0, .ls 0 l.length), (0, 0, rowP l)]) e tm2 hp2 :=
  RunsL.next [] 300 [.t true, .r (.int .i64 ((k : Int))), .r (Value.int .i64 q.id), .r (Value.int .i64 p.id), .t false, .r (.int .i64 (((k + 1 + 1 : Nat) : Int)))]
    (round_of (And.intro hlt (And.intro hm (And.intro hi0 (And.intro (ra_id hq) (And.intro hi1 (And.intro (ra_id hk) (And.intro hg (And.intro hs True.intro)))))))) (by kernel_rfl)) r

set_option maxRecDepth 100000 in
theorem pc1_bad {l : List Pt} {k : Nat} {p q : Pt} (hq : l[k]? = some q) (hk : l[k + 1]? = some p) (hi0 : 0 ≤ (k : Int) ∧ (k : Int) < (l.length : Int)) (hi1 : 0 ≤ ((k + 1 : Nat) : Int) ∧ ((k + 1 : Nat) : Int) < (l.length : Int)) (hlt : decide (((k + 1 : Nat) : Int) < (l.length : Int)) = true) (hm : Value.int .i64 (IntKind.i64.wrap (((k + 1 : Nat) : Int) - 1)) = .int .i64 ((k : Int))) (hg : decide (q.id ≥ p.id) = true) : RunsL Tryz.prog 1 1 (loopOf Tryz.prog 60 1) 45 2 ([(1, .pp 1 0), (6, .pv (.int .i64 ((k + 1 : Nat) : Int)))]) ([(1, 0, .ls 0 l.length), (0, 0, rowP l)]) (.ret) ([(2, .pv (.int .i64 32))]) ([]) :=
  RunsL.stop [] 300 [.t true, .r (.int .i64 ((k : Int))), .r (Value.int .i64 q.id), .r (Value.int .i64 p.id), .t true] (fun h => by cases h)
    (round_of (And.intro hlt (And.intro hm (And.intro hi0 (And.intro (ra_id hq) (And.intro hi1 (And.intro (ra_id hk) (And.intro hg True.intro))))))) (by kernel_rfl))

set_option maxRecDepth 100000 in
theorem pc1_end {l : List Pt} {k : Nat} (hge : decide ((k : Int) < (l.length : Int)) = false) : RunsL Tryz.prog 1 1 (loopOf Tryz.prog 60 1) 45 2 ([(1, .pp 1 0), (6, .pv (.int .i64 ((k : Nat) : Int)))]) ([(1, 0, .ls 0 l.length), (0, 0, rowP l)]) (.exit 2) ([]) ([]) :=
  RunsL.stop [] 300 [.t false] (fun h => by cases h)
    (round_of (And.intro hge True.intro) (by kernel_rfl))

set_option maxRecDepth 100000 in
theorem pc_many {l : List Pt} (h64 : decide ((l.length : Int) > 64) = true) :
    FnL Tryz.prog 60 1 [fldS 0 l] [(0, 0, rowP l)] (.pv (.int .i64 (4))) 0 [] :=
  fnl_run 300 [] [.t true]
     True.intro (And.intro h64 True.intro) (by kernel_rfl)

set_option maxRecDepth 100000 in
theorem pc_bad {l : List Pt} (h64 : decide ((l.length : Int) > 64) = false) (r0 : RunsL Tryz.prog 1 1 (loopOf Tryz.prog 60 0) 45 2 ([(1, .pp 1 0), (12, .ls 0 l.length), (13, .pv (.int .i64 (l.length : Int))), (14, .pv (.int .i64 ((0 : Nat) : Int)))]) ([(1, 0, .ls 0 l.length), (0, 0, rowP l)]) (.ret) ([(2, .pv (.int .i64 8))]) ([])) :
    FnL Tryz.prog 60 1 [fldS 0 l] [(0, 0, rowP l)] (.pv (.int .i64 (8))) 0 [] :=
  fnl_run 300 [] [.t false, .l (.ret) ([(1, .pp 1 0), (12, .ls 0 l.length), (13, .pv (.int .i64 (l.length : Int))), (14, .pv (.int .i64 ((0 : Nat) : Int)))]) ([(1, 0, .ls 0 l.length), (0, 0, rowP l)]) ([(2, .pv (.int .i64 8))]) ([])]
     True.intro (And.intro h64 (And.intro (reflT (renN []) ([(1, .pp 1 0), (12, .ls 0 l.length), (13, .pv (.int .i64 (l.length : Int))), (14, .pv (.int .i64 ((0 : Nat) : Int)))])) (And.intro (reflH (renN []) ([(1, 0, .ls 0 l.length), (0, 0, rowP l)])) (And.intro r0 True.intro)))) (by kernel_rfl)

set_option maxRecDepth 100000 in
theorem pc_ord {l : List Pt} (h64 : decide ((l.length : Int) > 64) = false) (r0 : RunsL Tryz.prog 1 1 (loopOf Tryz.prog 60 0) 45 2 ([(1, .pp 1 0), (12, .ls 0 l.length), (13, .pv (.int .i64 (l.length : Int))), (14, .pv (.int .i64 ((0 : Nat) : Int)))]) ([(1, 0, .ls 0 l.length), (0, 0, rowP l)]) (.exit 0) ([(1, .pp 1 0)]) ([(1, 0, .ls 0 l.length), (0, 0, rowP l)])) (r1 : RunsL Tryz.prog 1 1 (loopOf Tryz.prog 60 1) 45 2 ([(1, .pp 1 0), (6, .pv (.int .i64 ((0 + 1 : Nat) : Int)))]) ([(1, 0, .ls 0 l.length), (0, 0, rowP l)]) (.ret) ([(2, .pv (.int .i64 32))]) ([])) :
    FnL Tryz.prog 60 1 [fldS 0 l] [(0, 0, rowP l)] (.pv (.int .i64 (32))) 0 [] :=
  fnl_run 300 [] [.t false, .l (.exit 0) ([(1, .pp 1 0), (12, .ls 0 l.length), (13, .pv (.int .i64 (l.length : Int))), (14, .pv (.int .i64 ((0 : Nat) : Int)))]) ([(1, 0, .ls 0 l.length), (0, 0, rowP l)]) ([(1, .pp 1 0)]) ([(1, 0, .ls 0 l.length), (0, 0, rowP l)]), .l (.ret) ([(1, .pp 1 0), (6, .pv (.int .i64 ((0 + 1 : Nat) : Int)))]) ([(1, 0, .ls 0 l.length), (0, 0, rowP l)]) ([(2, .pv (.int .i64 32))]) ([])]
     True.intro (And.intro h64 (And.intro (reflT (renN []) ([(1, .pp 1 0), (12, .ls 0 l.length), (13, .pv (.int .i64 (l.length : Int))), (14, .pv (.int .i64 ((0 : Nat) : Int)))])) (And.intro (reflH (renN []) ([(1, 0, .ls 0 l.length), (0, 0, rowP l)])) (And.intro r0 (And.intro (reflT (renN []) ([(1, .pp 1 0), (6, .pv (.int .i64 ((0 + 1 : Nat) : Int)))])) (And.intro (reflH (renN []) ([(1, 0, .ls 0 l.length), (0, 0, rowP l)])) (And.intro r1 True.intro))))))) (by kernel_rfl)

set_option maxRecDepth 100000 in
theorem pc_ok {l : List Pt} (h64 : decide ((l.length : Int) > 64) = false) (r0 : RunsL Tryz.prog 1 1 (loopOf Tryz.prog 60 0) 45 2 ([(1, .pp 1 0), (12, .ls 0 l.length), (13, .pv (.int .i64 (l.length : Int))), (14, .pv (.int .i64 ((0 : Nat) : Int)))]) ([(1, 0, .ls 0 l.length), (0, 0, rowP l)]) (.exit 0) ([(1, .pp 1 0)]) ([(1, 0, .ls 0 l.length), (0, 0, rowP l)])) (r1 : RunsL Tryz.prog 1 1 (loopOf Tryz.prog 60 1) 45 2 ([(1, .pp 1 0), (6, .pv (.int .i64 ((0 + 1 : Nat) : Int)))]) ([(1, 0, .ls 0 l.length), (0, 0, rowP l)]) (.exit 2) ([]) ([])) :
    FnL Tryz.prog 60 1 [fldS 0 l] [(0, 0, rowP l)] (.pv (.int .i64 (0))) 0 [] :=
  fnl_run 300 [] [.t false, .l (.exit 0) ([(1, .pp 1 0), (12, .ls 0 l.length), (13, .pv (.int .i64 (l.length : Int))), (14, .pv (.int .i64 ((0 : Nat) : Int)))]) ([(1, 0, .ls 0 l.length), (0, 0, rowP l)]) ([(1, .pp 1 0)]) ([(1, 0, .ls 0 l.length), (0, 0, rowP l)]), .l (.exit 2) ([(1, .pp 1 0), (6, .pv (.int .i64 ((0 + 1 : Nat) : Int)))]) ([(1, 0, .ls 0 l.length), (0, 0, rowP l)]) ([]) ([])]
     True.intro (And.intro h64 (And.intro (reflT (renN []) ([(1, .pp 1 0), (12, .ls 0 l.length), (13, .pv (.int .i64 (l.length : Int))), (14, .pv (.int .i64 ((0 : Nat) : Int)))])) (And.intro (reflH (renN []) ([(1, 0, .ls 0 l.length), (0, 0, rowP l)])) (And.intro r0 (And.intro (reflT (renN []) ([(1, .pp 1 0), (6, .pv (.int .i64 ((0 + 1 : Nat) : Int)))])) (And.intro (reflH (renN []) ([(1, 0, .ls 0 l.length), (0, 0, rowP l)])) (And.intro r1 True.intro))))))) (by kernel_rfl)

end Go.Proofs.YtomnmoinahhdmaaGreat

namespace Go.Proofs.YtomnmoinahhdmaaGreat
open Go.RowKit
set_option maxRecDepth 100000 in
theorem kc0_next {l : List Pt} {k : Nat} {p : Pt} (hk : l[k]? = some p) (hin : 0 ≤ (k : Int) ∧ (k : Int) < (l.length : Int)) (hlt : decide ((k : Int) < (l.length : Int)) = true) (hc : Pure Tryz.prog 115 #[pointV p.id p.a p.b] (.int .i64 (0))) (hs : Value.int .i64 (IntKind.i64.wrap ((k : Int) + 1)) = .int .i64 (((k + 1 : Nat) : Int))) {e : Exit} {tm2 : List (Nat × SV)} {hp2 : List (Nat × Nat × SV)}
    (r : RunsL Tryz.prog 1 1 (loopOf Tryz.prog 66 0) 44 2 ([(1, .pp 1 0), (3, .pv (.int .i64 ((k + 1 : Nat) : Int)))]) ([(1, 0, .ls 0 l.length), (0, 0, rowP l)]) e tm2 hp2) : RunsL Tryz.prog 1 1 (loopOf Tryz.prog 66 0) 44 2 ([(1, .pp 1 0), (3, .pv (.int .i64 (k : Int)))]) ([(1, 0, .ls 0 l.length), (0, 0, rowP l)]) e tm2 hp2 :=
  RunsL.next [] 300 [.t true, .r (ptV p), .r (.int .i64 (0)), .k, .r (.int .i64 (((k + 1 : Nat) : Int)))]
    (round_of (And.intro hlt (And.intro hin (And.intro (ra_pt hk) (And.intro hc (And.intro hs True.intro))))) (by kernel_rfl)) r

set_option maxRecDepth 100000 in
theorem kc0_bad {l : List Pt} {k : Nat} {p : Pt} (hk : l[k]? = some p) (hin : 0 ≤ (k : Int) ∧ (k : Int) < (l.length : Int)) (hlt : decide ((k : Int) < (l.length : Int)) = true) (hc : Pure Tryz.prog 115 #[pointV p.id p.a p.b] (.int .i64 (8))) : RunsL Tryz.prog 1 1 (loopOf Tryz.prog 66 0) 44 2 ([(1, .pp 1 0), (3, .pv (.int .i64 (k : Int)))]) ([(1, 0, .ls 0 l.length), (0, 0, rowP l)]) (.ret) ([(2, .pv (.int .i64 8))]) ([]) :=
  RunsL.stop [] 300 [.t true, .r (ptV p), .r (.int .i64 (8)), .k] (fun h => by cases h)
    (round_of (And.intro hlt (And.intro hin (And.intro (ra_pt hk) (And.intro hc True.intro)))) (by kernel_rfl))

set_option maxRecDepth 100000 in
theorem kc0_end {l : List Pt} {k : Nat} (hge : decide ((k : Int) < (l.length : Int)) = false) : RunsL Tryz.prog 1 1 (loopOf Tryz.prog 66 0) 44 2 ([(1, .pp 1 0), (3, .pv (.int .i64 (k : Int)))]) ([(1, 0, .ls 0 l.length), (0, 0, rowP l)]) (.exit 0) ([(1, .pp 1 0)]) ([(1, 0, .ls 0 l.length), (0, 0, rowP l)]) :=
  RunsL.stop [] 300 [.t false] (fun h => by cases h)
    (round_of (And.intro hge True.intro) (by kernel_rfl))

set_option maxRecDepth 100000 in
theorem kc1_next {l : List Pt} {k : Nat} {p q : Pt} (hq : l[k]? = some q) (hk : l[k + 1]? = some p) (hi0 : 0 ≤ (k : Int) ∧ (k : Int) < (l.length : Int)) (hi1 : 0 ≤ ((k + 1 : Nat) : Int) ∧ ((k + 1 : Nat) : Int) < (l.length : Int)) (hlt : decide (((k + 1 : Nat) : Int) < (l.length : Int)) = true) (hm : Value.int .i64 (IntKind.i64.wrap (((k + 1 : Nat) : Int) - 1)) = .int .i64 ((k : Int))) (hg : decide (q.id ≥ p.id) = false) (hs : Value.int .i64 (IntKind.i64.wrap (((k + 1 : Nat) : Int) + 1)) = .int .i64 (((k + 1 + 1 : Nat) : Int))) {e : Exit} {tm2 : List (Nat × SV)} {hp2 : List (Nat × Nat × SV)}
    (r : RunsL Tryz.prog 1 1 (loopOf Tryz.prog 66 1) 44 2 ([(1, .pp 1 0), (4, .pv (.int .i64 ((k + 1 + 1 : Nat) : Int)))]) ([(1, 0, .ls 0 l.length), (0, 0, rowP l)]) e tm2 hp2) : RunsL Tryz.prog 1 1 (loopOf Tryz.prog 66 1) 44 2 ([(1, .pp 1 0), (4, .pv (.int .i64 ((k + 1 : Nat) : Int)))]) ([(1, 0, .ls 0 l.length), (0, 0, rowP l)]) e tm2 hp2 :=
  RunsL.next [] 300 [.t true, .r (.int .i64 ((k : Int))), .r (Value.int .i64 q.id), .r (Value.int .i64 p.id), .t false, .r (.int .i64 (((k + 1 + 1 : Nat) : Int)))]
    (round_of (And.intro hlt (And.intro hm (And.intro hi0 (And.intro (ra_id hq) (And.intro hi1 (And.intro (ra_id hk) (And.intro hg (And.intro hs True.intro)))))))) (by kernel_rfl)) r

set_option maxRecDepth 100000 in
theorem kc1_bad {l : List Pt} {k : Nat} {p q : Pt} (hq : l[k]? = some q) (hk : l[k + 1]? = some p) (hi0 : 0 ≤ (k : Int) ∧ (k : Int) < (l.length : Int)) (hi1 : 0 ≤ ((k + 1 : Nat) : Int) ∧ ((k + 1 : Nat) : Int) < (l.length : Int)) (hlt : decide (((k + 1 : Nat) : Int) < (l.length : Int)) = true) (hm : Value.int .i64 (IntKind.i64.wrap (((k + 1 : Nat) : Int) - 1)) = .int .i64 ((k : Int))) (hg : decide (q.id ≥ p.id) = true) : RunsL Tryz.prog 1 1 (loopOf Tryz.prog 66 1) 44 2 ([(1, .pp 1 0), (4, .pv (.int .i64 ((k + 1 : Nat) : Int)))]) ([(1, 0, .ls 0 l.length), (0, 0, rowP l)]) (.ret) ([(2, .pv (.int .i64 32))]) ([]) :=
  RunsL.stop [] 300 [.t true, .r (.int .i64 ((k : Int))), .r (Value.int .i64 q.id), .r (Value.int .i64 p.id), .t true] (fun h => by cases h)
    (round_of (And.intro hlt (And.intro hm (And.intro hi0 (And.intro (ra_id hq) (And.intro hi1 (And.intro (ra_id hk) (And.intro hg True.intro))))))) (by kernel_rfl))

set_option maxRecDepth 100000 in
theorem kc1_end {l : List Pt} {k : Nat} (hge : decide (((k : Nat) : Int) < (l.length : Int)) = false) : RunsL Tryz.prog 1 1 (loopOf Tryz.prog 66 1) 44 2 ([(1, .pp 1 0), (4, .pv (.int .i64 ((k : Nat) : Int)))]) ([(1, 0, .ls 0 l.length), (0, 0, rowP l)]) (.exit 2) ([]) ([]) :=
  RunsL.stop [] 300 [.t false] (fun h => by cases h)
    (round_of (And.intro hge True.intro) (by kernel_rfl))

set_option maxRecDepth 100000 in
theorem kc_many {l : List Pt} (h64 : decide ((l.length : Int) > 64) = true) :
    FnL Tryz.prog 66 1 [fldS 0 l] [(0, 0, rowP l)] (.pv (.int .i64 4)) 0 [] :=
  fnl_run 300 [] [.t true]
     True.intro (And.intro h64 True.intro) (by kernel_rfl)

set_option maxRecDepth 100000 in
theorem kc_bad {l : List Pt} (h64 : decide ((l.length : Int) > 64) = false) (r0 : RunsL Tryz.prog 1 1 (loopOf Tryz.prog 66 0) 44 2 ([(1, .pp 1 0), (3, .pv (.int .i64 (((0 : Nat) : Int) : Int)))]) ([(1, 0, .ls 0 l.length), (0, 0, rowP l)]) (.ret) ([(2, .pv (.int .i64 8))]) ([])) :
    FnL Tryz.prog 66 1 [fldS 0 l] [(0, 0, rowP l)] (.pv (.int .i64 8)) 0 [] :=
  fnl_run 300 [] [.t false, .l (.ret) ([(1, .pp 1 0), (3, .pv (.int .i64 (((0 : Nat) : Int) : Int)))]) ([(1, 0, .ls 0 l.length), (0, 0, rowP l)]) ([(2, .pv (.int .i64 8))]) ([])]
     True.intro (And.intro h64 (And.intro (reflT (renN []) ([(1, .pp 1 0), (3, .pv (.int .i64 (((0 : Nat) : Int) : Int)))])) (And.intro (reflH (renN []) ([(1, 0, .ls 0 l.length), (0, 0, rowP l)])) (And.intro r0 True.intro)))) (by kernel_rfl)

set_option maxRecDepth 100000 in
theorem kc_ord {l : List Pt} (h64 : decide ((l.length : Int) > 64) = false) (r0 : RunsL Tryz.prog 1 1 (loopOf Tryz.prog 66 0) 44 2 ([(1, .pp 1 0), (3, .pv (.int .i64 (((0 : Nat) : Int) : Int)))]) ([(1, 0, .ls 0 l.length), (0, 0, rowP l)]) (.exit 0) ([(1, .pp 1 0)]) ([(1, 0, .ls 0 l.length), (0, 0, rowP l)])) (r1 : RunsL Tryz.prog 1 1 (loopOf Tryz.prog 66 1) 44 2 ([(1, .pp 1 0), (4, .pv (.int .i64 (((0 + 1 : Nat) : Int) : Int)))]) ([(1, 0, .ls 0 l.length), (0, 0, rowP l)]) (.ret) ([(2, .pv (.int .i64 32))]) ([])) :
    FnL Tryz.prog 66 1 [fldS 0 l] [(0, 0, rowP l)] (.pv (.int .i64 32)) 0 [] :=
  fnl_run 300 [] [.t false, .l (.exit 0) ([(1, .pp 1 0), (3, .pv (.int .i64 (((0 : Nat) : Int) : Int)))]) ([(1, 0, .ls 0 l.length), (0, 0, rowP l)]) ([(1, .pp 1 0)]) ([(1, 0, .ls 0 l.length), (0, 0, rowP l)]), .l (.ret) ([(1, .pp 1 0), (4, .pv (.int .i64 (((0 + 1 : Nat) : Int) : Int)))]) ([(1, 0, .ls 0 l.length), (0, 0, rowP l)]) ([(2, .pv (.int .i64 32))]) ([])]
     True.intro (And.intro h64 (And.intro (reflT (renN []) ([(1, .pp 1 0), (3, .pv (.int .i64 (((0 : Nat) : Int) : Int)))])) (And.intro (reflH (renN []) ([(1, 0, .ls 0 l.length), (0, 0, rowP l)])) (And.intro r0 (And.intro (reflT (renN []) ([(1, .pp 1 0), (4, .pv (.int .i64 (((0 + 1 : Nat) : Int) : Int)))])) (And.intro (reflH (renN []) ([(1, 0, .ls 0 l.length), (0, 0, rowP l)])) (And.intro r1 True.intro))))))) (by kernel_rfl)

set_option maxRecDepth 100000 in
theorem kc_ok {l : List Pt} (h64 : decide ((l.length : Int) > 64) = false) (r0 : RunsL Tryz.prog 1 1 (loopOf Tryz.prog 66 0) 44 2 ([(1, .pp 1 0), (3, .pv (.int .i64 (((0 : Nat) : Int) : Int)))]) ([(1, 0, .ls 0 l.length), (0, 0, rowP l)]) (.exit 0) ([(1, .pp 1 0)]) ([(1, 0, .ls 0 l.length), (0, 0, rowP l)])) (r1 : RunsL Tryz.prog 1 1 (loopOf Tryz.prog 66 1) 44 2 ([(1, .pp 1 0), (4, .pv (.int .i64 (((0 + 1 : Nat) : Int) : Int)))]) ([(1, 0, .ls 0 l.length), (0, 0, rowP l)]) (.exit 2) ([]) ([])) :
    FnL Tryz.prog 66 1 [fldS 0 l] [(0, 0, rowP l)] (.pv (.int .i64 0)) 0 [] :=
  fnl_run 300 [] [.t false, .l (.exit 0) ([(1, .pp 1 0), (3, .pv (.int .i64 (((0 : Nat) : Int) : Int)))]) ([(1, 0, .ls 0 l.length), (0, 0, rowP l)]) ([(1, .pp 1 0)]) ([(1, 0, .ls 0 l.length), (0, 0, rowP l)]), .l (.exit 2) ([(1, .pp 1 0), (4, .pv (.int .i64 (((0 + 1 : Nat) : Int) : Int)))]) ([(1, 0, .ls 0 l.length), (0, 0, rowP l)]) ([]) ([])]
     True.intro (And.intro h64 (And.intro (reflT (renN []) ([(1, .pp 1 0), (3, .pv (.int .i64 (((0 : Nat) : Int) : Int)))])) (And.intro (reflH (renN []) ([(1, 0, .ls 0 l.length), (0, 0, rowP l)])) (And.intro r0 (And.intro (reflT (renN []) ([(1, .pp 1 0), (4, .pv (.int .i64 (((0 + 1 : Nat) : Int) : Int)))])) (And.intro (reflH (renN []) ([(1, 0, .ls 0 l.length), (0, 0, rowP l)])) (And.intro r1 True.intro))))))) (by kernel_rfl)

end Go.Proofs.YtomnmoinahhdmaaGreat
