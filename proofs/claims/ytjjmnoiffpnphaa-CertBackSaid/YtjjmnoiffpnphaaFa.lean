/-
  Fields: lists of points, and the loops over them. Conditions: none.
-/
import Derived.Test.YtjjmnoiffpnphaaW29
namespace Go.Proofs.Ytjjmnoiffpnphaa
open Go.RowKit
structure Pt where
  id : Int
  a : Int
  b : Int
abbrev ptV (p : Pt) : Value := pointV p.id p.a p.b
def ptsV : List Pt → List Value
  | [] => []
  | p :: r => .int .i64 p.id :: .int .i64 p.a :: .int .i64 p.b :: ptsV r
theorem ptsV_append : ∀ (a b : List Pt), ptsV (a ++ b) = ptsV a ++ ptsV b
  | [], _ => rfl
  | p :: r, b => by simp [ptsV, ptsV_append r b]
theorem ptsV_length : ∀ (l : List Pt), (ptsV l).length = l.length * 3
  | [] => rfl
  | p :: r => by simp [ptsV, ptsV_length r]; omega
theorem ptsV_get : ∀ {l : List Pt} {k : Nat} {p : Pt}, l[k]? = some p → (ptsV l)[k * 3]? = some (.int .i64 p.id) ∧ (ptsV l)[k * 3 + 1]? = some (.int .i64 p.a) ∧ (ptsV l)[k * 3 + 2]? = some (.int .i64 p.b)
  | [], k, p, h => by simp at h
  | q :: r, 0, p, h => by simp at h; subst h; exact ⟨rfl, rfl, rfl⟩
  | q :: r, k + 1, p, h => by
    have := ptsV_get (l := r) (k := k) (p := p) (by simpa using h)
    rw [show (k + 1) * 3 = k * 3 + 1 + 1 + 1 by omega]
    exact this
theorem ra_pt {l : List Pt} {k : Nat} {p : Pt} (h : l[k]? = some p) : rowAt (ptsV l) (0 * 3 + k * 3) [.int .i64 p.id, .int .i64 p.a, .int .i64 p.b] := by
  obtain ⟨h1, h2, h3⟩ := ptsV_get h
  intro j v hj
  rw [show 0 * 3 + k * 3 + j = k * 3 + j by omega]
  match j, hj with
  | 0, hj => cases hj; exact h1
  | 1, hj => cases hj; exact h2
  | 2, hj => cases hj; exact h3
  | j + 3, hj => simp at hj
theorem ra_id {l : List Pt} {k : Nat} {p : Pt} (h : l[k]? = some p) : rowAt (ptsV l) (0 * 3 + k * 3) [.int .i64 p.id] := by
  intro j v hj
  rw [show 0 * 3 + k * 3 + j = k * 3 + j by omega]
  match j, hj with
  | 0, hj => cases hj; exact (ptsV_get h).1
  | j + 1, hj => simp at hj

/-- Rounds, one after another. -/
theorem RunsL.rounds {P : Program} {lo fr : Nat} {c : Code} {n nb : Nat} (tm : Nat → List (Nat × SV)) (hp : Nat → List (Nat × Nat × SV)) {e : Exit} {tm2 : List (Nat × SV)} {hp2 : List (Nat × Nat × SV)} {N : Nat} :
    ∀ (d i : Nat), i + d = N → (∀ j, i ≤ j → j < N → RunsL P lo fr c n nb (tm (j + 1)) (hp (j + 1)) e tm2 hp2 → RunsL P lo fr c n nb (tm j) (hp j) e tm2 hp2) → RunsL P lo fr c n nb (tm N) (hp N) e tm2 hp2 → RunsL P lo fr c n nb (tm i) (hp i) e tm2 hp2
  | 0, i, h, _, last => by have : i = N := by omega
                           subst this; exact last
  | d + 1, i, h, step, last => step i (Nat.le_refl i) (by omega) (RunsL.rounds tm hp d (i + 1) (by omega) (fun j h1 h2 => step j (by omega) h2) last)

abbrev rowP (l : List Pt) : SV := .row 50 3 l.length (ptsV l)
abbrev fldS (b : Nat) (l : List Pt) : SV := .ag [.ls b l.length]
theorem i64_succ {k : Nat} (h : k ≤ 1000000) : Value.int .i64 (IntKind.i64.wrap ((k : Int) + 1)) = .int .i64 ((k + 1 : Nat) : Int) := by rw [wrap_i64_in (by omega) (by omega)]; rfl

set_option maxRecDepth 100000 in
theorem great_t {l : List Pt} (h1 : decide ((l.length : Int) > 16) = true) (h2 : decide ((l.length : Int) < 64) = true) : FnL Try.prog 28 1 [fldS 0 l] [(0, 0, rowP l)] (.pv (.bool true)) 0 [] :=
  fnl_run 200 [] [.t true, .t true] True.intro (And.intro h1 (And.intro h2 True.intro)) (by kernel_rfl)
set_option maxRecDepth 100000 in
theorem great_f {l : List Pt} (h1 : decide ((l.length : Int) > 16) = false) (h2 : decide ((l.length : Int) > 70) = false) : FnL Try.prog 28 1 [fldS 0 l] [(0, 0, rowP l)] (.pv (.bool false)) 0 [] :=
  fnl_run 200 [] [.t false, .t false] True.intro (And.intro h1 (And.intro h2 True.intro)) (by kernel_rfl)
set_option maxRecDepth 100000 in
theorem great_t2 {l : List Pt} (h1 : decide ((l.length : Int) > 16) = true) (h2 : decide ((l.length : Int) < 64) = false) (h3 : decide ((l.length : Int) > 70) = true) : FnL Try.prog 28 1 [fldS 0 l] [(0, 0, rowP l)] (.pv (.bool true)) 0 [] :=
  fnl_run 200 [] [.t true, .t false, .t true] True.intro (And.intro h1 (And.intro h2 (And.intro h3 True.intro))) (by kernel_rfl)
set_option maxRecDepth 100000 in
theorem great_f2 {l : List Pt} (h1 : decide ((l.length : Int) > 16) = true) (h2 : decide ((l.length : Int) < 64) = false) (h3 : decide ((l.length : Int) > 70) = false) : FnL Try.prog 28 1 [fldS 0 l] [(0, 0, rowP l)] (.pv (.bool false)) 0 [] :=
  fnl_run 200 [] [.t true, .t false, .t false] True.intro (And.intro h1 (And.intro h2 (And.intro h3 True.intro))) (by kernel_rfl)

theorem twin_x (l : List Pt) : SV.ag [.ls 4 (0 + l.length)] = (SV.ag [.ls 1 l.length]).ren (renN [(1, 4)]) := by rw [Nat.zero_add]; rfl
theorem twin_row (l : List Pt) : some (SV.row 50 3 (0 + l.length) ([] ++ ptsV l)) = some (rowP l) := by rw [Nat.zero_add, List.nil_append]
theorem snoc_pts (m : List Pt) (p : Pt) : ptsV m ++ [.int .i64 p.id, .int .i64 p.a, .int .i64 p.b] = ptsV (m ++ [p]) := by rw [ptsV_append]; rfl
theorem snoc_ls (b : Nat) (m : List Pt) (p : Pt) : some (SV.ls b (m.length + 1)) = some (SV.ls b (m ++ [p]).length) := by rw [List.length_append]; rfl
theorem snoc_row (m : List Pt) (p : Pt) : some (SV.row 50 3 (m.length + 1) (ptsV m ++ [.int .i64 p.id, .int .i64 p.a, .int .i64 p.b])) = some (rowP (m ++ [p])) := by rw [snoc_pts, rowP, List.length_append]; rfl
theorem snoc2_ls (b : Nat) (m : List Pt) (p q : Pt) : some (SV.ls b (m.length + 1 + 1)) = some (SV.ls b (m ++ [p] ++ [q]).length) := by rw [List.length_append, List.length_append]; rfl
theorem snoc2_row (m : List Pt) (p q : Pt) : some (SV.row 50 3 (m.length + 1 + 1) (ptsV m ++ [.int .i64 p.id, .int .i64 p.a, .int .i64 p.b] ++ [.int .i64 q.id, .int .i64 q.a, .int .i64 q.b])) = some (rowP (m ++ [p] ++ [q])) := by
  rw [snoc_pts, snoc_pts, rowP, List.length_append, List.length_append]; rfl
theorem snoc_tu (b : Nat) (m : List Pt) (p : Pt) : SV.tu [.ag [.ls b (m.length + 1)], .one (.pv (.int .i64 0))] = (SV.tu [.ag [.ls 1 (m ++ [p]).length], .one (.pv (.int .i64 0))]).ren (renN [(1, b)]) := by rw [List.length_append]; rfl
theorem set_pts : ∀ (l : List Pt) (k : Nat) (p : Pt), k < l.length → ptsV (l.set k p) = setL (ptsV l) (k * 3) [.int .i64 p.id, .int .i64 p.a, .int .i64 p.b]
  | [], k, p, h => by simp at h
  | q :: r, 0, p, _ => rfl
  | q :: r, k + 1, p, h => by
    rw [List.set_cons_succ, ptsV, set_pts r k p (by simpa using h), show (k + 1) * 3 = k * 3 + 1 + 1 + 1 by omega]
    simp [setL, ptsV, Nat.add_right_comm]
theorem set_row (l : List Pt) (k : Nat) (p : Pt) (h : k < l.length) : ptsV (l.set k p) = setL (ptsV l) (0 * 3 + k * 3) [.int .i64 p.id, .int .i64 p.a, .int .i64 p.b] := by
  rw [Nat.zero_mul, Nat.zero_add]; exact set_pts l k p h
theorem set_in (l : List Pt) (k : Nat) (h : k < l.length) : 0 * 3 + k * 3 + 3 ≤ (ptsV l).length := by rw [ptsV_length]; omega
theorem set_tu (b : Nat) (l : List Pt) (k : Nat) (p : Pt) : SV.tu [.ag [.ls b l.length], .one (.pv (.int .i64 0))] = (SV.tu [.ag [.ls 1 (l.set k p).length], .one (.pv (.int .i64 0))]).ren (renN [(1, b)]) := by rw [List.length_set]; rfl
theorem set_rowP (l : List Pt) (k : Nat) (p : Pt) : some (SV.row 50 3 l.length (ptsV (l.set k p))) = some (rowP (l.set k p)) := by rw [rowP, List.length_set]
theorem ptsV_drop : ∀ (l : List Pt) (k : Nat), (ptsV l).drop (k * 3) = ptsV (l.drop k)
  | l, 0 => by simp
  | [], k + 1 => by simp [ptsV]
  | p :: r, k + 1 => by rw [show (k + 1) * 3 = k * 3 + 1 + 1 + 1 by omega, List.drop_succ_cons]; exact ptsV_drop r k
theorem ptsV_take : ∀ (l : List Pt) (k : Nat), (ptsV l).take (k * 3) = ptsV (l.take k)
  | l, 0 => by simp [ptsV]
  | [], k + 1 => by simp [ptsV]
  | p :: r, k + 1 => by rw [show (k + 1) * 3 = k * 3 + 1 + 1 + 1 by omega, List.take_succ_cons]; exact congrArg (fun z => Value.int .i64 p.id :: .int .i64 p.a :: .int .i64 p.b :: z) (ptsV_take r k)
theorem part_lo (l : List Pt) (k : Nat) : ((ptsV l).drop ((0 + 0) * 3)).take (k * 3) = ptsV (l.take k) := by rw [Nat.zero_add, ptsV_drop, ptsV_take]; rfl
theorem part_hi (l : List Pt) (k : Nat) : ((ptsV l).drop ((0 + k) * 3)).take ((l.length - k) * 3) = ptsV (l.drop k) := by rw [Nat.zero_add, ptsV_drop, ptsV_take, List.take_of_length_le (by simp)]
theorem put_len (l : List Pt) (k : Nat) (p : Pt) (h : k ≤ l.length) : (l.take k ++ p :: l.drop k).length = 0 + k + 1 + (l.length - k) := by simp; omega
theorem put_tu (b : Nat) (l : List Pt) (k : Nat) (p : Pt) (h : k ≤ l.length) : SV.tu [.ag [.ls b (0 + k + 1 + (l.length - k))], .one (.pv (.int .i64 0))] = (SV.tu [.ag [.ls 1 (l.take k ++ p :: l.drop k).length], .one (.pv (.int .i64 0))]).ren (renN [(1, b)]) := by rw [put_len l k p h]; rfl
theorem put_row (l : List Pt) (k : Nat) (p : Pt) (h : k ≤ l.length) : some (SV.row 50 3 (0 + k + 1 + (l.length - k)) ([] ++ ((ptsV l).drop ((0 + 0) * 3)).take (k * 3) ++ [.int .i64 p.id, .int .i64 p.a, .int .i64 p.b] ++ ((ptsV l).drop ((0 + k) * 3)).take ((l.length - k) * 3))) = some (rowP (l.take k ++ p :: l.drop k)) := by
  rw [part_lo, part_hi, rowP, put_len l k p h, ptsV_append]; simp [ptsV]
theorem take_len (l : List Pt) (k : Nat) (h : k + 1 ≤ l.length) : (l.take k ++ l.drop (k + 1)).length = 0 + k + (l.length - (k + 1)) := by simp; omega
theorem take_tu (b : Nat) (l : List Pt) (k : Nat) (h : k + 1 ≤ l.length) : SV.tu [.ag [.ls b (0 + k + (l.length - (k + 1)))], .one (.pv (.int .i64 0))] = (SV.tu [.ag [.ls 1 (l.take k ++ l.drop (k + 1)).length], .one (.pv (.int .i64 0))]).ren (renN [(1, b)]) := by rw [take_len l k h]; rfl
theorem take_row (l : List Pt) (k : Nat) (h : k + 1 ≤ l.length) : some (SV.row 50 3 (0 + k + (l.length - (k + 1))) ([] ++ ((ptsV l).drop ((0 + 0) * 3)).take (k * 3) ++ ((ptsV l).drop ((0 + (k + 1)) * 3)).take ((l.length - (k + 1)) * 3))) = some (rowP (l.take k ++ l.drop (k + 1))) := by
  rw [part_lo, part_hi, rowP, take_len l k h, ptsV_append]; simp
theorem chg_len (l : List Pt) (k : Nat) (p : Pt) (h : k + 1 ≤ l.length) : (l.take k ++ p :: l.drop (k + 1)).length = 0 + k + 1 + (l.length - (k + 1)) := by simp; omega
theorem chg_tu (b : Nat) (l : List Pt) (k : Nat) (p : Pt) (h : k + 1 ≤ l.length) : SV.tu [.ag [.ls b (0 + k + 1 + (l.length - (k + 1)))], .one (.pv (.int .i64 0))] = (SV.tu [.ag [.ls 1 (l.take k ++ p :: l.drop (k + 1)).length], .one (.pv (.int .i64 0))]).ren (renN [(1, b)]) := by rw [chg_len l k p h]; rfl
theorem chg_row (l : List Pt) (k : Nat) (p : Pt) (h : k + 1 ≤ l.length) : some (SV.row 50 3 (0 + k + 1 + (l.length - (k + 1))) ([] ++ ((ptsV l).drop ((0 + 0) * 3)).take (k * 3) ++ [.int .i64 p.id, .int .i64 p.a, .int .i64 p.b] ++ ((ptsV l).drop ((0 + (k + 1)) * 3)).take ((l.length - (k + 1)) * 3))) = some (rowP (l.take k ++ p :: l.drop (k + 1))) := by
  rw [part_lo, part_hi, rowP, chg_len l k p h, ptsV_append]; simp [ptsV]
theorem ne_self (x : Int) : (!(x == x)) = false := by simp
theorem eq_self (x : Int) : (x == x) = true := by simp
def idsV (l : List Int) : List Value := l.map fun x => .int .i64 x
abbrev rowI (l : List Int) : SV := .row 3 1 l.length (idsV l)
theorem ra_int {l : List Int} {k : Nat} {x : Int} (h : l[k]? = some x) : rowAt (idsV l) (0 * 1 + k * 1) [.int .i64 x] := by
  intro j v hj
  match j, hj with
  | 0, hj => cases hj; simp [idsV, h]
  | j + 1, hj => simp at hj
theorem seti : ∀ (l : List Int) (k : Nat) (x : Int), k < l.length → idsV (l.set k x) = setL (idsV l) k [.int .i64 x]
  | [], k, x, h => by simp at h
  | y :: r, 0, x, _ => rfl
  | y :: r, k + 1, x, h => by
    have := seti r k x (by simpa using h)
    simp only [idsV, List.set_cons_succ, List.map_cons] at this ⊢
    rw [this]
    simp [setL, Nat.add_right_comm]
theorem seti_row (l : List Int) (k : Nat) (x : Int) (h : k < l.length) : idsV (l.set k x) = setL (idsV l) (0 * 1 + k * 1) [.int .i64 x] := by
  rw [Nat.zero_mul, Nat.zero_add, Nat.mul_one]; exact seti l k x h
theorem seti_in (l : List Int) (k : Nat) (h : k < l.length) : 0 * 1 + k * 1 + 1 ≤ (idsV l).length := by simp [idsV]; omega
theorem rep_ids : ∀ n : Nat, repL [Value.int .i64 0] n = idsV (List.replicate n 0)
  | 0 => rfl
  | n + 1 => by rw [repL, rep_ids n]; rfl
theorem rep_row (n : Nat) : some (SV.row 3 1 n (repL [Value.int .i64 0] n)) = some (SV.row 3 1 n (idsV (List.replicate n 0))) := by rw [rep_ids]
theorem clone_x (l : List Pt) : SV.ls 2 (0 + l.length) = (SV.ls 1 l.length).ren (renN [(1, 2)]) := by rw [Nat.zero_add]; rfl
end Go.Proofs.Ytjjmnoiffpnphaa
