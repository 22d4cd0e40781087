/-
  Joined: Cu, Cv, Fa, Fe, Fd, Fc, Fb. Conditions: none.
-/
import Derived.Test.YtjjmnoiffpnphaaCp
import Derived.Test.YtjjmnoiffpnphaaRt
import Derived.Test.YtjjmnoiffpnphaaCr
import Derived.Test.YtjjmnoiffpnphaaW24
namespace Go.Proofs.Ytjjmnoiffpnphaa
open Go.RowKit
set_option maxRecDepth 100000 in
theorem far_path {pi pa pb qi qa qb n d u v x y s : Int} (v1 : Value.int .i64 (IntKind.i64.wrap (pa - qa)) = .int .i64 u) (c1 : Pure Try.prog 96 #[.int .i64 u, .int .i64 d] (bigI x)) (v2 : Value.int .i64 (IntKind.i64.wrap (pb - qb)) = .int .i64 v) (c2 : Pure Try.prog 96 #[.int .i64 v, .int .i64 n] (bigI y)) (c3 : Pure Try.prog 95 #[bigI x, bigI y] (bigI s)) (c4 : Pure Try.prog 94 #[bigI s] (.int .i64 s.sign)) :
    Pure Try.prog 87 #[pointV pi pa pb, pointV qi qa qb, ratioV n d] (.int .i64 s.sign) :=
  pure_run (args := [pointV pi pa pb, pointV qi qa qb, ratioV n d]) 200 [.r (.int .i64 u), .r (bigI x), .r (.int .i64 v), .r (bigI y), .r (bigI s), .r (.int .i64 s.sign)]
    (And.intro rfl (And.intro v1 (And.intro c1 (And.intro v2 (And.intro c2 (And.intro c3 (And.intro c4 True.intro))))))) (by kernel_rfl)

set_option maxRecDepth 100000 in
theorem leads_far_t {pi pa pb qi qa qb n d f : Int} (c : Pure Try.prog 87 #[pointV pi pa pb, pointV qi qa qb, ratioV n d] (.int .i64 f)) (z : (f != 0) = true) (g : decide (f > 0) = true) :
    Pure Try.prog 73 #[pointV pi pa pb, pointV qi qa qb, ratioV n d] (.bool true) :=
  pure_run (args := [pointV pi pa pb, pointV qi qa qb, ratioV n d]) 200 [.r (.int .i64 f), .t true, .t true]
    (And.intro rfl (And.intro c (And.intro z (And.intro g True.intro)))) (by kernel_rfl)

set_option maxRecDepth 100000 in
theorem leads_b_t {pi pa pb qi qa qb n d f : Int} (c : Pure Try.prog 87 #[pointV pi pa pb, pointV qi qa qb, ratioV n d] (.int .i64 f)) (z : (f != 0) = false) (bb : (pb != qb) = true) (g : decide (pb > qb) = true) :
    Pure Try.prog 73 #[pointV pi pa pb, pointV qi qa qb, ratioV n d] (.bool true) :=
  pure_run (args := [pointV pi pa pb, pointV qi qa qb, ratioV n d]) 200 [.r (.int .i64 f), .t false, .t true, .t true]
    (And.intro rfl (And.intro c (And.intro z (And.intro bb (And.intro g True.intro))))) (by kernel_rfl)

set_option maxRecDepth 100000 in
theorem leads_i_t {pi pa pb qi qa qb n d f : Int} (c : Pure Try.prog 87 #[pointV pi pa pb, pointV qi qa qb, ratioV n d] (.int .i64 f)) (z : (f != 0) = false) (bb : (pb != qb) = false) (g : decide (pi < qi) = true) :
    Pure Try.prog 73 #[pointV pi pa pb, pointV qi qa qb, ratioV n d] (.bool true) :=
  pure_run (args := [pointV pi pa pb, pointV qi qa qb, ratioV n d]) 200 [.r (.int .i64 f), .t false, .t false, .t true]
    (And.intro rfl (And.intro c (And.intro z (And.intro bb (And.intro g True.intro))))) (by kernel_rfl)

set_option maxRecDepth 100000 in
theorem leads_far_f {pi pa pb qi qa qb n d f : Int} (c : Pure Try.prog 87 #[pointV pi pa pb, pointV qi qa qb, ratioV n d] (.int .i64 f)) (z : (f != 0) = true) (g : decide (f > 0) = false) :
    Pure Try.prog 73 #[pointV pi pa pb, pointV qi qa qb, ratioV n d] (.bool false) :=
  pure_run (args := [pointV pi pa pb, pointV qi qa qb, ratioV n d]) 200 [.r (.int .i64 f), .t true, .t false]
    (And.intro rfl (And.intro c (And.intro z (And.intro g True.intro)))) (by kernel_rfl)

set_option maxRecDepth 100000 in
theorem leads_b_f {pi pa pb qi qa qb n d f : Int} (c : Pure Try.prog 87 #[pointV pi pa pb, pointV qi qa qb, ratioV n d] (.int .i64 f)) (z : (f != 0) = false) (bb : (pb != qb) = true) (g : decide (pb > qb) = false) :
    Pure Try.prog 73 #[pointV pi pa pb, pointV qi qa qb, ratioV n d] (.bool false) :=
  pure_run (args := [pointV pi pa pb, pointV qi qa qb, ratioV n d]) 200 [.r (.int .i64 f), .t false, .t true, .t false]
    (And.intro rfl (And.intro c (And.intro z (And.intro bb (And.intro g True.intro))))) (by kernel_rfl)

set_option maxRecDepth 100000 in
theorem leads_i_f {pi pa pb qi qa qb n d f : Int} (c : Pure Try.prog 87 #[pointV pi pa pb, pointV qi qa qb, ratioV n d] (.int .i64 f)) (z : (f != 0) = false) (bb : (pb != qb) = false) (g : decide (pi < qi) = false) :
    Pure Try.prog 73 #[pointV pi pa pb, pointV qi qa qb, ratioV n d] (.bool false) :=
  pure_run (args := [pointV pi pa pb, pointV qi qa qb, ratioV n d]) 200 [.r (.int .i64 f), .t false, .t false, .t false]
    (And.intro rfl (And.intro c (And.intro z (And.intro bb (And.intro g True.intro))))) (by kernel_rfl)

end Go.Proofs.Ytjjmnoiffpnphaa

namespace Go.Proofs.Ytjjmnoiffpnphaa
open Go.RowKit
theorem Leads_ok {pi pa pb qi qa qb n d : Int} (hn : I64 n) (hd : I64 d) (hp : okP pi pa pb = true) (hq : okP qi qa qb = true) :
    Pure Try.prog 73 #[pointV pi pa pb, pointV qi qa qb, ratioV n d] (.bool (leadsB (pa * d + pb * n) (qa * d + qb * n) pb qb pi qi)) := by
  have hp' := okP_iff.1 hp
  have hq' := okP_iff.1 hq
  have c1 := RProduct_any (pa - qa) d (by unfold I64; omega) hd
  have c2 := RProduct_any (pb - qb) n (by unfold I64; omega) hn
  have b1 : ((pa - qa) * d).natAbs ≤ 2097152 * 9223372036854775808 := by rw [Int.natAbs_mul]; unfold I64 at hd; exact Nat.mul_le_mul (by omega) (by omega)
  have b2 : ((pb - qb) * n).natAbs ≤ 2097152 * 9223372036854775808 := by rw [Int.natAbs_mul]; unfold I64 at hn; exact Nat.mul_le_mul (by omega) (by omega)
  have c3 := RPlus_any ((pa - qa) * d) ((pb - qb) * n) (by omega) (by omega)
  have e : (pa - qa) * d + (pb - qb) * n = pa * d + pb * n - (qa * d + qb * n) := by rw [Int.sub_mul, Int.sub_mul]; omega
  rw [e] at c3
  have c4 := RSign_any (pa * d + pb * n - (qa * d + qb * n))
  have far := far_path (pi := pi) (pa := pa) (pb := pb) (qi := qi) (qa := qa) (qb := qb) (by rw [wrap_i64_in (by omega) (by omega)]) c1 (by rw [wrap_i64_in (by omega) (by omega)]) c2 c3 c4
  generalize pa * d + pb * n = P at *
  generalize qa * d + qb * n = Q at *
  rcases Int.lt_trichotomy (P - Q) 0 with h | h | h
  · rw [Int.sign_eq_neg_one_of_neg h] at far
    rw [leads_f (by omega)]
    exact leads_far_f far (by decide) (by decide)
  · rw [h] at far
    by_cases hb : pb = qb
    · by_cases hi : pi < qi
      · rw [leads_t (by omega)]; exact leads_i_t far (by decide) (by simp [hb]) (dt hi)
      · rw [leads_f (by omega)]; exact leads_i_f far (by decide) (by simp [hb]) (df hi)
    · by_cases hg : pb > qb
      · rw [leads_t (by omega)]; exact leads_b_t far (by decide) (by simp [hb]) (dt hg)
      · rw [leads_f (by omega)]; exact leads_b_f far (by decide) (by simp [hb]) (df hg)
  · rw [Int.sign_eq_one_of_pos h] at far
    rw [leads_t (by omega)]
    exact leads_far_t far (by decide) (by decide)

end Go.Proofs.Ytjjmnoiffpnphaa

namespace Go.Proofs.Ytjjmnoiffpnphaa
open Go.RowKit
structure Pt where
  id : Int
  a : Int
  b : Int
abbrev ptV (p : Pt) : Value := pointV p.id p.a p.b
def ptsV : List Pt → List Value
  | [] => []
  | p :: r => .int .i64 p.id :: .int .i64 p.a :: .int .i64 p.b :: ptsV r
theorem ptsV_append : ∀ (a b : List Pt), ptsV (a ++ b) = ptsV a ++ ptsV b
  | [], _ => rfl
  | p :: r, b => by simp [ptsV, ptsV_append r b]
theorem ptsV_length : ∀ (l : List Pt), (ptsV l).length = l.length * 3
  | [] => rfl
  | p :: r => by simp [ptsV, ptsV_length r]; omega
theorem ptsV_get : ∀ {l : List Pt} {k : Nat} {p : Pt}, l[k]? = some p → (ptsV l)[k * 3]? = some (.int .i64 p.id) ∧ (ptsV l)[k * 3 + 1]? = some (.int .i64 p.a) ∧ (ptsV l)[k * 3 + 2]? = some (.int .i64 p.b)
  | [], k, p, h => by simp at h
  | q :: r, 0, p, h => by simp at h; subst h; exact ⟨rfl, rfl, rfl⟩
  | q :: r, k + 1, p, h => by
    have := ptsV_get (l := r) (k := k) (p := p) (by simpa using h)
    rw [show (k + 1) * 3 = k * 3 + 1 + 1 + 1 by omega]
    exact this
theorem ra_pt {l : List Pt} {k : Nat} {p : Pt} (h : l[k]? = some p) : rowAt (ptsV l) (0 * 3 + k * 3) [.int .i64 p.id, .int .i64 p.a, .int .i64 p.b] := by
  obtain ⟨h1, h2, h3⟩ := ptsV_get h
  intro j v hj
  rw [show 0 * 3 + k * 3 + j = k * 3 + j by omega]
  match j, hj with
  | 0, hj => cases hj; exact h1
  | 1, hj => cases hj; exact h2
  | 2, hj => cases hj; exact h3
  | j + 3, hj => simp at hj
theorem ra_id {l : List Pt} {k : Nat} {p : Pt} (h : l[k]? = some p) : rowAt (ptsV l) (0 * 3 + k * 3) [.int .i64 p.id] := by
  intro j v hj
  rw [show 0 * 3 + k * 3 + j = k * 3 + j by omega]
  match j, hj with
  | 0, hj => cases hj; exact (ptsV_get h).1
  | j + 1, hj => simp at hj

/-- Rounds, one after another. -/
theorem RunsL.rounds {P : Program} {lo fr : Nat} {c : Code} {n nb : Nat} (tm : Nat → List (Nat × SV)) (hp : Nat → List (Nat × Nat × SV)) {e : Exit} {tm2 : List (Nat × SV)} {hp2 : List (Nat × Nat × SV)} {N : Nat} :
    ∀ (d i : Nat), i + d = N → (∀ j, i ≤ j → j < N → RunsL P lo fr c n nb (tm (j + 1)) (hp (j + 1)) e tm2 hp2 → RunsL P lo fr c n nb (tm j) (hp j) e tm2 hp2) → RunsL P lo fr c n nb (tm N) (hp N) e tm2 hp2 → RunsL P lo fr c n nb (tm i) (hp i) e tm2 hp2
  | 0, i, h, _, last => by have : i = N := by omega
                           subst this; exact last
  | d + 1, i, h, step, last => step i (Nat.le_refl i) (by omega) (RunsL.rounds tm hp d (i + 1) (by omega) (fun j h1 h2 => step j (by omega) h2) last)

abbrev rowP (l : List Pt) : SV := .row 50 3 l.length (ptsV l)
abbrev fldS (b : Nat) (l : List Pt) : SV := .ag [.ls b l.length]
theorem i64_succ {k : Nat} (h : k ≤ 1000000) : Value.int .i64 (IntKind.i64.wrap ((k : Int) + 1)) = .int .i64 ((k + 1 : Nat) : Int) := by rw [wrap_i64_in (by omega) (by omega)]; rfl

set_option maxRecDepth 100000 in
theorem great_t {l : List Pt} (h1 : decide ((l.length : Int) > 16) = true) (h2 : decide ((l.length : Int) < 64) = true) : FnL Try.prog 28 1 [fldS 0 l] [(0, 0, rowP l)] (.pv (.bool true)) 0 [] :=
  fnl_run 200 [] [.t true, .t true] True.intro (And.intro h1 (And.intro h2 True.intro)) (by kernel_rfl)
set_option maxRecDepth 100000 in
theorem great_f {l : List Pt} (h1 : decide ((l.length : Int) > 16) = false) (h2 : decide ((l.length : Int) > 70) = false) : FnL Try.prog 28 1 [fldS 0 l] [(0, 0, rowP l)] (.pv (.bool false)) 0 [] :=
  fnl_run 200 [] [.t false, .t false] True.intro (And.intro h1 (And.intro h2 True.intro)) (by kernel_rfl)
set_option maxRecDepth 100000 in
theorem great_t2 {l : List Pt} (h1 : decide ((l.length : Int) > 16) = true) (h2 : decide ((l.length : Int) < 64) = false) (h3 : decide ((l.length : Int) > 70) = true) : FnL Try.prog 28 1 [fldS 0 l] [(0, 0, rowP l)] (.pv (.bool true)) 0 [] :=
  fnl_run 200 [] [.t true, .t false, .t true] True.intro (And.intro h1 (And.intro h2 (And.intro h3 True.intro))) (by kernel_rfl)
set_option maxRecDepth 100000 in
theorem great_f2 {l : List Pt} (h1 : decide ((l.length : Int) > 16) = true) (h2 : decide ((l.length : Int) < 64) = false) (h3 : decide ((l.length : Int) > 70) = false) : FnL Try.prog 28 1 [fldS 0 l] [(0, 0, rowP l)] (.pv (.bool false)) 0 [] :=
  fnl_run 200 [] [.t true, .t false, .t false] True.intro (And.intro h1 (And.intro h2 (And.intro h3 True.intro))) (by kernel_rfl)

theorem snoc_pts (m : List Pt) (p : Pt) : ptsV m ++ [.int .i64 p.id, .int .i64 p.a, .int .i64 p.b] = ptsV (m ++ [p]) := by rw [ptsV_append]; rfl
theorem snoc_ls (b : Nat) (m : List Pt) (p : Pt) : some (SV.ls b (m.length + 1)) = some (SV.ls b (m ++ [p]).length) := by rw [List.length_append]; rfl
theorem ptsV_drop : ∀ (l : List Pt) (k : Nat), (ptsV l).drop (k * 3) = ptsV (l.drop k)
  | l, 0 => by simp
  | [], k + 1 => by simp [ptsV]
  | p :: r, k + 1 => by rw [show (k + 1) * 3 = k * 3 + 1 + 1 + 1 by omega, List.drop_succ_cons]; exact ptsV_drop r k
theorem ptsV_take : ∀ (l : List Pt) (k : Nat), (ptsV l).take (k * 3) = ptsV (l.take k)
  | l, 0 => by simp [ptsV]
  | [], k + 1 => by simp [ptsV]
  | p :: r, k + 1 => by rw [show (k + 1) * 3 = k * 3 + 1 + 1 + 1 by omega, List.take_succ_cons]; exact congrArg (fun z => Value.int .i64 p.id :: .int .i64 p.a :: .int .i64 p.b :: z) (ptsV_take r k)
theorem part_lo (l : List Pt) (k : Nat) : ((ptsV l).drop ((0 + 0) * 3)).take (k * 3) = ptsV (l.take k) := by rw [Nat.zero_add, ptsV_drop, ptsV_take]; rfl
theorem part_hi (l : List Pt) (k : Nat) : ((ptsV l).drop ((0 + k) * 3)).take ((l.length - k) * 3) = ptsV (l.drop k) := by rw [Nat.zero_add, ptsV_drop, ptsV_take, List.take_of_length_le (by simp)]
theorem take_len (l : List Pt) (k : Nat) (h : k + 1 ≤ l.length) : (l.take k ++ l.drop (k + 1)).length = 0 + k + (l.length - (k + 1)) := by simp; omega
def idsV (l : List Int) : List Value := l.map fun x => .int .i64 x
abbrev rowI (l : List Int) : SV := .row 3 1 l.length (idsV l)
theorem ra_int {l : List Int} {k : Nat} {x : Int} (h : l[k]? = some x) : rowAt (idsV l) (0 * 1 + k * 1) [.int .i64 x] := by
  intro j v hj
  match j, hj with
  | 0, hj => cases hj; simp [idsV, h]
  | j + 1, hj => simp at hj
end Go.Proofs.Ytjjmnoiffpnphaa

namespace Go.Proofs.Ytjjmnoiffpnphaa
open Go.RowKit
set_option maxRecDepth 100000 in
theorem sid_next {l m : List Int} {k : Nat} {x y : Int} (hk : l[k]? = some x) (hin : 0 ≤ (k : Int) ∧ (k : Int) < (l.length : Int)) (hq : m[k]? = some y) (hin2 : 0 ≤ (k : Int) ∧ (k : Int) < (m.length : Int)) (hlt : decide ((k : Int) < (l.length : Int)) = true) (hne : (!(x == y)) = false) (hs : Value.int .i64 (IntKind.i64.wrap ((k : Int) + 1)) = .int .i64 (((k + 1 : Nat) : Int))) {e : Exit} {tm2 : List (Nat × SV)} {hp2 : List (Nat × Nat × SV)}
    (r : RunsL Try.prog 2 2 (loopOf Try.prog 27 0) 26 2 ([(0, .ls 0 l.length), (1, .ls 1 m.length), (5, .pv (.int .i64 ((k + 1 : Nat) : Int)))]) ([(0, 0, rowI l), (1, 0, rowI m)]) e tm2 hp2) : RunsL Try.prog 2 2 (loopOf Try.prog 27 0) 26 2 ([(0, .ls 0 l.length), (1, .ls 1 m.length), (5, .pv (.int .i64 (k : Int)))]) ([(0, 0, rowI l), (1, 0, rowI m)]) e tm2 hp2 :=
  RunsL.next [] 300 [.t true, .r (Value.int .i64 x), .r (Value.int .i64 y), .t false, .r (.int .i64 (((k + 1 : Nat) : Int)))]
    (round_of (And.intro hlt (And.intro hin (And.intro (ra_int hk) (And.intro hin2 (And.intro (ra_int hq) (And.intro hne (And.intro hs True.intro))))))) (by kernel_rfl)) r

set_option maxRecDepth 100000 in
theorem sid_end {l m : List Int} {k : Nat} (hge : decide ((k : Int) < (l.length : Int)) = false) : RunsL Try.prog 2 2 (loopOf Try.prog 27 0) 26 2 ([(0, .ls 0 l.length), (1, .ls 1 m.length), (5, .pv (.int .i64 (k : Int)))]) ([(0, 0, rowI l), (1, 0, rowI m)]) (.exit 0) ([]) ([]) :=
  RunsL.stop [] 300 [.t false] (fun h => by cases h)
    (round_of (And.intro hge True.intro) (by kernel_rfl))

set_option maxRecDepth 100000 in
theorem sid_yes {l m : List Int} (hl : (!((l.length : Int) == (m.length : Int))) = false) (r0 : RunsL Try.prog 2 2 (loopOf Try.prog 27 0) 26 2 ([(0, .ls 0 l.length), (1, .ls 1 m.length), (5, .pv (.int .i64 ((0 : Nat) : Int)))]) ([(0, 0, rowI l), (1, 0, rowI m)]) (.exit 0) ([]) ([])) :
    FnL Try.prog 27 2 [.ls 0 l.length, .ls 1 m.length] [(0, 0, rowI l), (1, 0, rowI m)] (.pv (.bool true)) 0 [] :=
  fnl_run 300 [] [.t false, .l (.exit 0) ([(0, .ls 0 l.length), (1, .ls 1 m.length), (5, .pv (.int .i64 ((0 : Nat) : Int)))]) ([(0, 0, rowI l), (1, 0, rowI m)]) ([]) ([])]
     True.intro (And.intro hl (And.intro (reflT (renN []) ([(0, .ls 0 l.length), (1, .ls 1 m.length), (5, .pv (.int .i64 ((0 : Nat) : Int)))])) (And.intro (reflH (renN []) ([(0, 0, rowI l), (1, 0, rowI m)])) (And.intro r0 True.intro)))) (by kernel_rfl)

end Go.Proofs.Ytjjmnoiffpnphaa

namespace Go.Proofs.Ytjjmnoiffpnphaa
open Go.RowKit
set_option maxRecDepth 100000 in
theorem at_next {l : List Pt} {k : Nat} {p : Pt} {id : Int} (hk : l[k]? = some p) (hin : 0 ≤ (k : Int) ∧ (k : Int) < (l.length : Int)) (hlt : decide ((k : Int) < (l.length : Int)) = true) (he : (p.id == id) = false) (hs : Value.int .i64 (IntKind.i64.wrap ((k : Int) + 1)) = .int .i64 (((k + 1 : Nat) : Int))) {e : Exit} {tm2 : List (Nat × SV)} {hp2 : List (Nat × Nat × SV)}
    (r : RunsL Try.prog 1 1 (loopOf Try.prog 37 0) 22 2 ([(1, .pv (.int .i64 id)), (2, .pp 1 0), (5, .pv (.int .i64 ((k + 1 : Nat) : Int)))]) ([(1, 0, .ls 0 l.length), (0, 0, rowP l)]) e tm2 hp2) : RunsL Try.prog 1 1 (loopOf Try.prog 37 0) 22 2 ([(1, .pv (.int .i64 id)), (2, .pp 1 0), (5, .pv (.int .i64 (k : Int)))]) ([(1, 0, .ls 0 l.length), (0, 0, rowP l)]) e tm2 hp2 :=
  RunsL.next [] 300 [.t true, .r (Value.int .i64 p.id), .t false, .r (.int .i64 (((k + 1 : Nat) : Int)))]
    (round_of (And.intro hlt (And.intro hin (And.intro (ra_id hk) (And.intro he (And.intro hs True.intro))))) (by kernel_rfl)) r

set_option maxRecDepth 100000 in
theorem at_hit {l : List Pt} {k : Nat} {p : Pt} {id : Int} (hk : l[k]? = some p) (hin : 0 ≤ (k : Int) ∧ (k : Int) < (l.length : Int)) (hlt : decide ((k : Int) < (l.length : Int)) = true) (he : (p.id == id) = true) : RunsL Try.prog 1 1 (loopOf Try.prog 37 0) 22 2 ([(1, .pv (.int .i64 id)), (2, .pp 1 0), (5, .pv (.int .i64 (k : Int)))]) ([(1, 0, .ls 0 l.length), (0, 0, rowP l)]) (.ret) ([(4, .pv (.int .i64 (k : Int)))]) ([]) :=
  RunsL.stop [] 300 [.t true, .r (Value.int .i64 p.id), .t true] (fun h => by cases h)
    (round_of (And.intro hlt (And.intro hin (And.intro (ra_id hk) (And.intro he True.intro)))) (by kernel_rfl))

set_option maxRecDepth 100000 in
theorem at_end {l : List Pt} {k : Nat} {id : Int} (hge : decide ((k : Int) < (l.length : Int)) = false) : RunsL Try.prog 1 1 (loopOf Try.prog 37 0) 22 2 ([(1, .pv (.int .i64 id)), (2, .pp 1 0), (5, .pv (.int .i64 (k : Int)))]) ([(1, 0, .ls 0 l.length), (0, 0, rowP l)]) (.exit 0) ([]) ([]) :=
  RunsL.stop [] 300 [.t false] (fun h => by cases h)
    (round_of (And.intro hge True.intro) (by kernel_rfl))

set_option maxRecDepth 100000 in
theorem at_no {l : List Pt} {id : Int} (r0 : RunsL Try.prog 1 1 (loopOf Try.prog 37 0) 22 2 ([(1, .pv (.int .i64 id)), (2, .pp 1 0), (5, .pv (.int .i64 ((0 : Nat) : Int)))]) ([(1, 0, .ls 0 l.length), (0, 0, rowP l)]) (.exit 0) ([]) ([])) :
    FnL Try.prog 37 1 [fldS 0 l, .pv (.int .i64 (id))] [(0, 0, rowP l)] (.pv (.int .i64 (-1))) 0 [] :=
  fnl_run 300 [] [.l (.exit 0) ([(1, .pv (.int .i64 id)), (2, .pp 1 0), (5, .pv (.int .i64 ((0 : Nat) : Int)))]) ([(1, 0, .ls 0 l.length), (0, 0, rowP l)]) ([]) ([])]
     True.intro (And.intro (reflT (renN []) ([(1, .pv (.int .i64 id)), (2, .pp 1 0), (5, .pv (.int .i64 ((0 : Nat) : Int)))])) (And.intro (reflH (renN []) ([(1, 0, .ls 0 l.length), (0, 0, rowP l)])) (And.intro r0 True.intro))) (by kernel_rfl)

set_option maxRecDepth 100000 in
theorem at_yes {l : List Pt} {k : Nat} {id : Int} (r0 : RunsL Try.prog 1 1 (loopOf Try.prog 37 0) 22 2 ([(1, .pv (.int .i64 id)), (2, .pp 1 0), (5, .pv (.int .i64 ((0 : Nat) : Int)))]) ([(1, 0, .ls 0 l.length), (0, 0, rowP l)]) (.ret) ([(4, .pv (.int .i64 (k : Int)))]) ([])) :
    FnL Try.prog 37 1 [fldS 0 l, .pv (.int .i64 (id))] [(0, 0, rowP l)] (.pv (.int .i64 ((k : Int)))) 0 [] :=
  fnl_run 300 [] [.l (.ret) ([(1, .pv (.int .i64 id)), (2, .pp 1 0), (5, .pv (.int .i64 ((0 : Nat) : Int)))]) ([(1, 0, .ls 0 l.length), (0, 0, rowP l)]) ([(4, .pv (.int .i64 (k : Int)))]) ([])]
     True.intro (And.intro (reflT (renN []) ([(1, .pv (.int .i64 id)), (2, .pp 1 0), (5, .pv (.int .i64 ((0 : Nat) : Int)))])) (And.intro (reflH (renN []) ([(1, 0, .ls 0 l.length), (0, 0, rowP l)])) (And.intro r0 True.intro))) (by kernel_rfl)

set_option maxRecDepth 100000 in
theorem tmd_err {l : List Pt} {tn td : Int} {e : Int} (hc : FnL Try.prog 57 1 [fldS 0 l] [(0, 0, rowP l)] (.pv (.int .i64 (e))) 0 []) (he : (e != 0) = true) :
    FnL Try.prog 36 1 [fldS 0 l, .pv (ratioV tn td)] [(0, 0, rowP l)] (.pv (.int .i64 (e))) 0 [] :=
  fnl_run 300 [] [.f [0] [fldS 0 l] [(0, 0, rowP l)] (.pv (.int .i64 (e))) 0 [], .t true]
     True.intro (And.intro hc (And.intro (Eq.refl (List.map (SV.ren (renU [0] 3)) [fldS 0 l])) (And.intro (reflH (renU [0] 3) [(0, 0, rowP l)]) (And.intro he True.intro)))) (by kernel_rfl)

set_option maxRecDepth 100000 in
theorem tmd_ok {l : List Pt} {tn td : Int} {e : Int} (hc : FnL Try.prog 57 1 [fldS 0 l] [(0, 0, rowP l)] (.pv (.int .i64 (0))) 0 []) (ht : Pure Try.prog 58 #[ratioV tn td] (.int .i64 (e))) :
    FnL Try.prog 36 1 [fldS 0 l, .pv (ratioV tn td)] [(0, 0, rowP l)] (.pv (.int .i64 (e))) 0 [] :=
  fnl_run 300 [] [.f [0] [fldS 0 l] [(0, 0, rowP l)] (.pv (.int .i64 (0))) 0 [], .k, .r (.int .i64 (e))]
     True.intro (And.intro hc (And.intro (Eq.refl (List.map (SV.ren (renU [0] 3)) [fldS 0 l])) (And.intro (reflH (renU [0] 3) [(0, 0, rowP l)]) (And.intro ht True.intro)))) (by kernel_rfl)

end Go.Proofs.Ytjjmnoiffpnphaa

namespace Go.Proofs.Ytjjmnoiffpnphaa
open Go.RowKit
set_option maxRecDepth 100000 in
theorem pc0_next {l : List Pt} {k : Nat} {p : Pt} (hk : l[k]? = some p) (hin : 0 ≤ (k : Int) ∧ (k : Int) < (l.length : Int)) (hlt : decide ((k : Int) < (l.length : Int)) = true) (hc : Pure Try.prog 60 #[pointV p.id p.a p.b] (.int .i64 (0))) (hs : Value.int .i64 (IntKind.i64.wrap ((k : Int) + 1)) = .int .i64 (((k + 1 : Nat) : Int))) {e : Exit} {tm2 : List (Nat × SV)} {hp2 : List (Nat × Nat × SV)}
    (r : RunsL Try.prog 1 1 (loopOf Try.prog 46 0) 45 2 ([(1, .pp 1 0), (12, .ls 0 l.length), (13, .pv (.int .i64 (l.length : Int))), (14, .pv (.int .i64 ((k + 1 : Nat) : Int)))]) ([(1, 0, .ls 0 l.length), (0, 0, rowP l)]) e tm2 hp2) : RunsL Try.prog 1 1 (loopOf Try.prog 46 0) 45 2 ([(1, .pp 1 0), (12, .ls 0 l.length), (13, .pv (.int .i64 (l.length : Int))), (14, .pv (.int .i64 (k : Int)))]) ([(1, 0, .ls 0 l.length), (0, 0, rowP l)]) e tm2 hp2 :=
  RunsL.next [] 300 [.t true, .r (ptV p), .r (.int .i64 (0)), .k, .r (.int .i64 (((k + 1 : Nat) : Int)))]
    (round_of (And.intro hlt (And.intro hin (And.intro (ra_pt hk) (And.intro hc (And.intro hs True.intro))))) (by kernel_rfl)) r

set_option maxRecDepth 100000 in
theorem pc0_bad {l : List Pt} {k : Nat} {p : Pt} (hk : l[k]? = some p) (hin : 0 ≤ (k : Int) ∧ (k : Int) < (l.length : Int)) (hlt : decide ((k : Int) < (l.length : Int)) = true) (hc : Pure Try.prog 60 #[pointV p.id p.a p.b] (.int .i64 (8))) : RunsL Try.prog 1 1 (loopOf Try.prog 46 0) 45 2 ([(1, .pp 1 0), (12, .ls 0 l.length), (13, .pv (.int .i64 (l.length : Int))), (14, .pv (.int .i64 (k : Int)))]) ([(1, 0, .ls 0 l.length), (0, 0, rowP l)]) (.ret) ([(2, .pv (.int .i64 8))]) ([]) :=
  RunsL.stop [] 300 [.t true, .r (ptV p), .r (.int .i64 (8)), .k] (fun h => by cases h)
    (round_of (And.intro hlt (And.intro hin (And.intro (ra_pt hk) (And.intro hc True.intro)))) (by kernel_rfl))

set_option maxRecDepth 100000 in
theorem pc0_end {l : List Pt} {k : Nat} (hge : decide ((k : Int) < (l.length : Int)) = false) : RunsL Try.prog 1 1 (loopOf Try.prog 46 0) 45 2 ([(1, .pp 1 0), (12, .ls 0 l.length), (13, .pv (.int .i64 (l.length : Int))), (14, .pv (.int .i64 (k : Int)))]) ([(1, 0, .ls 0 l.length), (0, 0, rowP l)]) (.exit 0) ([(1, .pp 1 0)]) ([(1, 0, .ls 0 l.length), (0, 0, rowP l)]) :=
  RunsL.stop [] 300 [.t false] (fun h => by cases h)
    (round_of (And.intro hge True.intro) (by kernel_rfl))

set_option maxRecDepth 100000 in
theorem pc1_next {l : List Pt} {k : Nat} {p q : Pt} (hq : l[k]? = some q) (hk : l[k + 1]? = some p) (hi0 : 0 ≤ (k : Int) ∧ (k : Int) < (l.length : Int)) (hi1 : 0 ≤ ((k + 1 : Nat) : Int) ∧ ((k + 1 : Nat) : Int) < (l.length : Int)) (hlt : decide (((k + 1 : Nat) : Int) < (l.length : Int)) = true) (hm : Value.int .i64 (IntKind.i64.wrap (((k + 1 : Nat) : Int) - 1)) = .int .i64 ((k : Int))) (hg : decide (q.id ≥ p.id) = false) (hs : Value.int .i64 (IntKind.i64.wrap (((k + 1 : Nat) : Int) + 1)) = .int .i64 (((k + 1 + 1 : Nat) : Int))) {e : Exit} {tm2 : List (Nat × SV)} {hp2 : List (Nat × Nat × SV)}
    (r : RunsL Try.prog 1 1 (loopOf Try.prog 46 1) 45 2 ([(1, .pp 1 0), (6, .pv (.int .i64 ((k + 1 + 1 : Nat) : Int)))]) ([(1, 0, .ls 0 l.length), (0, 0, rowP l)]) e tm2 hp2) : RunsL Try.prog 1 1 (loopOf Try.prog 46 1) 45 2 ([(1, .pp 1 0), (6, .pv (.int .i64 ((k + 1 : Nat) : Int)))]) ([(1, 0, .ls 0 l.length), (0, 0, rowP l)]) e tm2 hp2 :=
  RunsL.next [] 300 [.t true, .r (.int .i64 ((k : Int))), .r (Value.int .i64 q.id), .r (Value.int .i64 p.id), .t false, .r (.int .i64 (((k + 1 + 1 : Nat) : Int)))]
    (round_of (And.intro hlt (And.intro hm (And.intro hi0 (And.intro (ra_id hq) (And.intro hi1 (And.intro (ra_id hk) (And.intro hg (And.intro hs True.intro)))))))) (by kernel_rfl)) r

set_option maxRecDepth 100000 in
theorem pc1_bad {l : List Pt} {k : Nat} {p q : Pt} (hq : l[k]? = some q) (hk : l[k + 1]? = some p) (hi0 : 0 ≤ (k : Int) ∧ (k : Int) < (l.length : Int)) (hi1 : 0 ≤ ((k + 1 : Nat) : Int) ∧ ((k + 1 : Nat) : Int) < (l.length : Int)) (hlt : decide (((k + 1 : Nat) : Int) < (l.length : Int)) = true) (hm : Value.int .i64 (IntKind.i64.wrap (((k + 1 : Nat) : Int) - 1)) = .int .i64 ((k : Int))) (hg : decide (q.id ≥ p.id) = true) : RunsL Try.prog 1 1 (loopOf Try.prog 46 1) 45 2 ([(1, .pp 1 0), (6, .pv (.int .i64 ((k + 1 : Nat) : Int)))]) ([(1, 0, .ls 0 l.length), (0, 0, rowP l)]) (.ret) ([(2, .pv (.int .i64 32))]) ([]) :=
  RunsL.stop [] 300 [.t true, .r (.int .i64 ((k : Int))), .r (Value.int .i64 q.id), .r (Value.int .i64 p.id), .t true] (fun h => by cases h)
    (round_of (And.intro hlt (And.intro hm (And.intro hi0 (And.intro (ra_id hq) (And.intro hi1 (And.intro (ra_id hk) (And.intro hg True.intro))))))) (by kernel_rfl))

set_option maxRecDepth 100000 in
theorem pc1_end {l : List Pt} {k : Nat} (hge : decide ((k : Int) < (l.length : Int)) = false) : RunsL Try.prog 1 1 (loopOf Try.prog 46 1) 45 2 ([(1, .pp 1 0), (6, .pv (.int .i64 ((k : Nat) : Int)))]) ([(1, 0, .ls 0 l.length), (0, 0, rowP l)]) (.exit 2) ([]) ([]) :=
  RunsL.stop [] 300 [.t false] (fun h => by cases h)
    (round_of (And.intro hge True.intro) (by kernel_rfl))

set_option maxRecDepth 100000 in
theorem pc_many {l : List Pt} (h64 : decide ((l.length : Int) > 64) = true) :
    FnL Try.prog 46 1 [fldS 0 l] [(0, 0, rowP l)] (.pv (.int .i64 (4))) 0 [] :=
  fnl_run 300 [] [.t true]
     True.intro (And.intro h64 True.intro) (by kernel_rfl)

set_option maxRecDepth 100000 in
theorem pc_bad {l : List Pt} (h64 : decide ((l.length : Int) > 64) = false) (r0 : RunsL Try.prog 1 1 (loopOf Try.prog 46 0) 45 2 ([(1, .pp 1 0), (12, .ls 0 l.length), (13, .pv (.int .i64 (l.length : Int))), (14, .pv (.int .i64 ((0 : Nat) : Int)))]) ([(1, 0, .ls 0 l.length), (0, 0, rowP l)]) (.ret) ([(2, .pv (.int .i64 8))]) ([])) :
    FnL Try.prog 46 1 [fldS 0 l] [(0, 0, rowP l)] (.pv (.int .i64 (8))) 0 [] :=
  fnl_run 300 [] [.t false, .l (.ret) ([(1, .pp 1 0), (12, .ls 0 l.length), (13, .pv (.int .i64 (l.length : Int))), (14, .pv (.int .i64 ((0 : Nat) : Int)))]) ([(1, 0, .ls 0 l.length), (0, 0, rowP l)]) ([(2, .pv (.int .i64 8))]) ([])]
     True.intro (And.intro h64 (And.intro (reflT (renN []) ([(1, .pp 1 0), (12, .ls 0 l.length), (13, .pv (.int .i64 (l.length : Int))), (14, .pv (.int .i64 ((0 : Nat) : Int)))])) (And.intro (reflH (renN []) ([(1, 0, .ls 0 l.length), (0, 0, rowP l)])) (And.intro r0 True.intro)))) (by kernel_rfl)

set_option maxRecDepth 100000 in
theorem pc_ord {l : List Pt} (h64 : decide ((l.length : Int) > 64) = false) (r0 : RunsL Try.prog 1 1 (loopOf Try.prog 46 0) 45 2 ([(1, .pp 1 0), (12, .ls 0 l.length), (13, .pv (.int .i64 (l.length : Int))), (14, .pv (.int .i64 ((0 : Nat) : Int)))]) ([(1, 0, .ls 0 l.length), (0, 0, rowP l)]) (.exit 0) ([(1, .pp 1 0)]) ([(1, 0, .ls 0 l.length), (0, 0, rowP l)])) (r1 : RunsL Try.prog 1 1 (loopOf Try.prog 46 1) 45 2 ([(1, .pp 1 0), (6, .pv (.int .i64 ((0 + 1 : Nat) : Int)))]) ([(1, 0, .ls 0 l.length), (0, 0, rowP l)]) (.ret) ([(2, .pv (.int .i64 32))]) ([])) :
    FnL Try.prog 46 1 [fldS 0 l] [(0, 0, rowP l)] (.pv (.int .i64 (32))) 0 [] :=
  fnl_run 300 [] [.t false, .l (.exit 0) ([(1, .pp 1 0), (12, .ls 0 l.length), (13, .pv (.int .i64 (l.length : Int))), (14, .pv (.int .i64 ((0 : Nat) : Int)))]) ([(1, 0, .ls 0 l.length), (0, 0, rowP l)]) ([(1, .pp 1 0)]) ([(1, 0, .ls 0 l.length), (0, 0, rowP l)]), .l (.ret) ([(1, .pp 1 0), (6, .pv (.int .i64 ((0 + 1 : Nat) : Int)))]) ([(1, 0, .ls 0 l.length), (0, 0, rowP l)]) ([(2, .pv (.int .i64 32))]) ([])]
     True.intro (And.intro h64 (And.intro (reflT (renN []) ([(1, .pp 1 0), (12, .ls 0 l.length), (13, .pv (.int .i64 (l.length : Int))), (14, .pv (.int .i64 ((0 : Nat) : Int)))])) (And.intro (reflH (renN []) ([(1, 0, .ls 0 l.length), (0, 0, rowP l)])) (And.intro r0 (And.intro (reflT (renN []) ([(1, .pp 1 0), (6, .pv (.int .i64 ((0 + 1 : Nat) : Int)))])) (And.intro (reflH (renN []) ([(1, 0, .ls 0 l.length), (0, 0, rowP l)])) (And.intro r1 True.intro))))))) (by kernel_rfl)

set_option maxRecDepth 100000 in
theorem pc_ok {l : List Pt} (h64 : decide ((l.length : Int) > 64) = false) (r0 : RunsL Try.prog 1 1 (loopOf Try.prog 46 0) 45 2 ([(1, .pp 1 0), (12, .ls 0 l.length), (13, .pv (.int .i64 (l.length : Int))), (14, .pv (.int .i64 ((0 : Nat) : Int)))]) ([(1, 0, .ls 0 l.length), (0, 0, rowP l)]) (.exit 0) ([(1, .pp 1 0)]) ([(1, 0, .ls 0 l.length), (0, 0, rowP l)])) (r1 : RunsL Try.prog 1 1 (loopOf Try.prog 46 1) 45 2 ([(1, .pp 1 0), (6, .pv (.int .i64 ((0 + 1 : Nat) : Int)))]) ([(1, 0, .ls 0 l.length), (0, 0, rowP l)]) (.exit 2) ([]) ([])) :
    FnL Try.prog 46 1 [fldS 0 l] [(0, 0, rowP l)] (.pv (.int .i64 (0))) 0 [] :=
  fnl_run 300 [] [.t false, .l (.exit 0) ([(1, .pp 1 0), (12, .ls 0 l.length), (13, .pv (.int .i64 (l.length : Int))), (14, .pv (.int .i64 ((0 : Nat) : Int)))]) ([(1, 0, .ls 0 l.length), (0, 0, rowP l)]) ([(1, .pp 1 0)]) ([(1, 0, .ls 0 l.length), (0, 0, rowP l)]), .l (.exit 2) ([(1, .pp 1 0), (6, .pv (.int .i64 ((0 + 1 : Nat) : Int)))]) ([(1, 0, .ls 0 l.length), (0, 0, rowP l)]) ([]) ([])]
     True.intro (And.intro h64 (And.intro (reflT (renN []) ([(1, .pp 1 0), (12, .ls 0 l.length), (13, .pv (.int .i64 (l.length : Int))), (14, .pv (.int .i64 ((0 : Nat) : Int)))])) (And.intro (reflH (renN []) ([(1, 0, .ls 0 l.length), (0, 0, rowP l)])) (And.intro r0 (And.intro (reflT (renN []) ([(1, .pp 1 0), (6, .pv (.int .i64 ((0 + 1 : Nat) : Int)))])) (And.intro (reflH (renN []) ([(1, 0, .ls 0 l.length), (0, 0, rowP l)])) (And.intro r1 True.intro))))))) (by kernel_rfl)

end Go.Proofs.Ytjjmnoiffpnphaa

namespace Go.Proofs.Ytjjmnoiffpnphaa
open Go.RowKit
set_option maxRecDepth 100000 in
theorem kc0_next {l : List Pt} {k : Nat} {p : Pt} (hk : l[k]? = some p) (hin : 0 ≤ (k : Int) ∧ (k : Int) < (l.length : Int)) (hlt : decide ((k : Int) < (l.length : Int)) = true) (hc : Pure Try.prog 74 #[pointV p.id p.a p.b] (.int .i64 (0))) (hs : Value.int .i64 (IntKind.i64.wrap ((k : Int) + 1)) = .int .i64 (((k + 1 : Nat) : Int))) {e : Exit} {tm2 : List (Nat × SV)} {hp2 : List (Nat × Nat × SV)}
    (r : RunsL Try.prog 1 1 (loopOf Try.prog 57 0) 44 2 ([(1, .pp 1 0), (3, .pv (.int .i64 ((k + 1 : Nat) : Int)))]) ([(1, 0, .ls 0 l.length), (0, 0, rowP l)]) e tm2 hp2) : RunsL Try.prog 1 1 (loopOf Try.prog 57 0) 44 2 ([(1, .pp 1 0), (3, .pv (.int .i64 (k : Int)))]) ([(1, 0, .ls 0 l.length), (0, 0, rowP l)]) e tm2 hp2 :=
  RunsL.next [] 300 [.t true, .r (ptV p), .r (.int .i64 (0)), .k, .r (.int .i64 (((k + 1 : Nat) : Int)))]
    (round_of (And.intro hlt (And.intro hin (And.intro (ra_pt hk) (And.intro hc (And.intro hs True.intro))))) (by kernel_rfl)) r

set_option maxRecDepth 100000 in
theorem kc0_bad {l : List Pt} {k : Nat} {p : Pt} (hk : l[k]? = some p) (hin : 0 ≤ (k : Int) ∧ (k : Int) < (l.length : Int)) (hlt : decide ((k : Int) < (l.length : Int)) = true) (hc : Pure Try.prog 74 #[pointV p.id p.a p.b] (.int .i64 (8))) : RunsL Try.prog 1 1 (loopOf Try.prog 57 0) 44 2 ([(1, .pp 1 0), (3, .pv (.int .i64 (k : Int)))]) ([(1, 0, .ls 0 l.length), (0, 0, rowP l)]) (.ret) ([(2, .pv (.int .i64 8))]) ([]) :=
  RunsL.stop [] 300 [.t true, .r (ptV p), .r (.int .i64 (8)), .k] (fun h => by cases h)
    (round_of (And.intro hlt (And.intro hin (And.intro (ra_pt hk) (And.intro hc True.intro)))) (by kernel_rfl))

set_option maxRecDepth 100000 in
theorem kc0_end {l : List Pt} {k : Nat} (hge : decide ((k : Int) < (l.length : Int)) = false) : RunsL Try.prog 1 1 (loopOf Try.prog 57 0) 44 2 ([(1, .pp 1 0), (3, .pv (.int .i64 (k : Int)))]) ([(1, 0, .ls 0 l.length), (0, 0, rowP l)]) (.exit 0) ([(1, .pp 1 0)]) ([(1, 0, .ls 0 l.length), (0, 0, rowP l)]) :=
  RunsL.stop [] 300 [.t false] (fun h => by cases h)
    (round_of (And.intro hge True.intro) (by kernel_rfl))

set_option maxRecDepth 100000 in
theorem kc1_next {l : List Pt} {k : Nat} {p q : Pt} (hq : l[k]? = some q) (hk : l[k + 1]? = some p) (hi0 : 0 ≤ (k : Int) ∧ (k : Int) < (l.length : Int)) (hi1 : 0 ≤ ((k + 1 : Nat) : Int) ∧ ((k + 1 : Nat) : Int) < (l.length : Int)) (hlt : decide (((k + 1 : Nat) : Int) < (l.length : Int)) = true) (hm : Value.int .i64 (IntKind.i64.wrap (((k + 1 : Nat) : Int) - 1)) = .int .i64 ((k : Int))) (hg : decide (q.id ≥ p.id) = false) (hs : Value.int .i64 (IntKind.i64.wrap (((k + 1 : Nat) : Int) + 1)) = .int .i64 (((k + 1 + 1 : Nat) : Int))) {e : Exit} {tm2 : List (Nat × SV)} {hp2 : List (Nat × Nat × SV)}
    (r : RunsL Try.prog 1 1 (loopOf Try.prog 57 1) 44 2 ([(1, .pp 1 0), (4, .pv (.int .i64 ((k + 1 + 1 : Nat) : Int)))]) ([(1, 0, .ls 0 l.length), (0, 0, rowP l)]) e tm2 hp2) : RunsL Try.prog 1 1 (loopOf Try.prog 57 1) 44 2 ([(1, .pp 1 0), (4, .pv (.int .i64 ((k + 1 : Nat) : Int)))]) ([(1, 0, .ls 0 l.length), (0, 0, rowP l)]) e tm2 hp2 :=
  RunsL.next [] 300 [.t true, .r (.int .i64 ((k : Int))), .r (Value.int .i64 q.id), .r (Value.int .i64 p.id), .t false, .r (.int .i64 (((k + 1 + 1 : Nat) : Int)))]
    (round_of (And.intro hlt (And.intro hm (And.intro hi0 (And.intro (ra_id hq) (And.intro hi1 (And.intro (ra_id hk) (And.intro hg (And.intro hs True.intro)))))))) (by kernel_rfl)) r

set_option maxRecDepth 100000 in
theorem kc1_bad {l : List Pt} {k : Nat} {p q : Pt} (hq : l[k]? = some q) (hk : l[k + 1]? = some p) (hi0 : 0 ≤ (k : Int) ∧ (k : Int) < (l.length : Int)) (hi1 : 0 ≤ ((k + 1 : Nat) : Int) ∧ ((k + 1 : Nat) : Int) < (l.length : Int)) (hlt : decide (((k + 1 : Nat) : Int) < (l.length : Int)) = true) (hm : Value.int .i64 (IntKind.i64.wrap (((k + 1 : Nat) : Int) - 1)) = .int .i64 ((k : Int))) (hg : decide (q.id ≥ p.id) = true) : RunsL Try.prog 1 1 (loopOf Try.prog 57 1) 44 2 ([(1, .pp 1 0), (4, .pv (.int .i64 ((k + 1 : Nat) : Int)))]) ([(1, 0, .ls 0 l.length), (0, 0, rowP l)]) (.ret) ([(2, .pv (.int .i64 32))]) ([]) :=
  RunsL.stop [] 300 [.t true, .r (.int .i64 ((k : Int))), .r (Value.int .i64 q.id), .r (Value.int .i64 p.id), .t true] (fun h => by cases h)
    (round_of (And.intro hlt (And.intro hm (And.intro hi0 (And.intro (ra_id hq) (And.intro hi1 (And.intro (ra_id hk) (And.intro hg True.intro))))))) (by kernel_rfl))

set_option maxRecDepth 100000 in
theorem kc1_end {l : List Pt} {k : Nat} (hge : decide (((k : Nat) : Int) < (l.length : Int)) = false) : RunsL Try.prog 1 1 (loopOf Try.prog 57 1) 44 2 ([(1, .pp 1 0), (4, .pv (.int .i64 ((k : Nat) : Int)))]) ([(1, 0, .ls 0 l.length), (0, 0, rowP l)]) (.exit 2) ([]) ([]) :=
  RunsL.stop [] 300 [.t false] (fun h => by cases h)
    (round_of (And.intro hge True.intro) (by kernel_rfl))

set_option maxRecDepth 100000 in
theorem kc_many {l : List Pt} (h64 : decide ((l.length : Int) > 64) = true) :
    FnL Try.prog 57 1 [fldS 0 l] [(0, 0, rowP l)] (.pv (.int .i64 4)) 0 [] :=
  fnl_run 300 [] [.t true]
     True.intro (And.intro h64 True.intro) (by kernel_rfl)

set_option maxRecDepth 100000 in
theorem kc_bad {l : List Pt} (h64 : decide ((l.length : Int) > 64) = false) (r0 : RunsL Try.prog 1 1 (loopOf Try.prog 57 0) 44 2 ([(1, .pp 1 0), (3, .pv (.int .i64 (((0 : Nat) : Int) : Int)))]) ([(1, 0, .ls 0 l.length), (0, 0, rowP l)]) (.ret) ([(2, .pv (.int .i64 8))]) ([])) :
    FnL Try.prog 57 1 [fldS 0 l] [(0, 0, rowP l)] (.pv (.int .i64 8)) 0 [] :=
  fnl_run 300 [] [.t false, .l (.ret) ([(1, .pp 1 0), (3, .pv (.int .i64 (((0 : Nat) : Int) : Int)))]) ([(1, 0, .ls 0 l.length), (0, 0, rowP l)]) ([(2, .pv (.int .i64 8))]) ([])]
     True.intro (And.intro h64 (And.intro (reflT (renN []) ([(1, .pp 1 0), (3, .pv (.int .i64 (((0 : Nat) : Int) : Int)))])) (And.intro (reflH (renN []) ([(1, 0, .ls 0 l.length), (0, 0, rowP l)])) (And.intro r0 True.intro)))) (by kernel_rfl)

set_option maxRecDepth 100000 in
theorem kc_ord {l : List Pt} (h64 : decide ((l.length : Int) > 64) = false) (r0 : RunsL Try.prog 1 1 (loopOf Try.prog 57 0) 44 2 ([(1, .pp 1 0), (3, .pv (.int .i64 (((0 : Nat) : Int) : Int)))]) ([(1, 0, .ls 0 l.length), (0, 0, rowP l)]) (.exit 0) ([(1, .pp 1 0)]) ([(1, 0, .ls 0 l.length), (0, 0, rowP l)])) (r1 : RunsL Try.prog 1 1 (loopOf Try.prog 57 1) 44 2 ([(1, .pp 1 0), (4, .pv (.int .i64 (((0 + 1 : Nat) : Int) : Int)))]) ([(1, 0, .ls 0 l.length), (0, 0, rowP l)]) (.ret) ([(2, .pv (.int .i64 32))]) ([])) :
    FnL Try.prog 57 1 [fldS 0 l] [(0, 0, rowP l)] (.pv (.int .i64 32)) 0 [] :=
  fnl_run 300 [] [.t false, .l (.exit 0) ([(1, .pp 1 0), (3, .pv (.int .i64 (((0 : Nat) : Int) : Int)))]) ([(1, 0, .ls 0 l.length), (0, 0, rowP l)]) ([(1, .pp 1 0)]) ([(1, 0, .ls 0 l.length), (0, 0, rowP l)]), .l (.ret) ([(1, .pp 1 0), (4, .pv (.int .i64 (((0 + 1 : Nat) : Int) : Int)))]) ([(1, 0, .ls 0 l.length), (0, 0, rowP l)]) ([(2, .pv (.int .i64 32))]) ([])]
     True.intro (And.intro h64 (And.intro (reflT (renN []) ([(1, .pp 1 0), (3, .pv (.int .i64 (((0 : Nat) : Int) : Int)))])) (And.intro (reflH (renN []) ([(1, 0, .ls 0 l.length), (0, 0, rowP l)])) (And.intro r0 (And.intro (reflT (renN []) ([(1, .pp 1 0), (4, .pv (.int .i64 (((0 + 1 : Nat) : Int) : Int)))])) (And.intro (reflH (renN []) ([(1, 0, .ls 0 l.length), (0, 0, rowP l)])) (And.intro r1 True.intro))))))) (by kernel_rfl)

set_option maxRecDepth 100000 in
theorem kc_ok {l : List Pt} (h64 : decide ((l.length : Int) > 64) = false) (r0 : RunsL Try.prog 1 1 (loopOf Try.prog 57 0) 44 2 ([(1, .pp 1 0), (3, .pv (.int .i64 (((0 : Nat) : Int) : Int)))]) ([(1, 0, .ls 0 l.length), (0, 0, rowP l)]) (.exit 0) ([(1, .pp 1 0)]) ([(1, 0, .ls 0 l.length), (0, 0, rowP l)])) (r1 : RunsL Try.prog 1 1 (loopOf Try.prog 57 1) 44 2 ([(1, .pp 1 0), (4, .pv (.int .i64 (((0 + 1 : Nat) : Int) : Int)))]) ([(1, 0, .ls 0 l.length), (0, 0, rowP l)]) (.exit 2) ([]) ([])) :
    FnL Try.prog 57 1 [fldS 0 l] [(0, 0, rowP l)] (.pv (.int .i64 0)) 0 [] :=
  fnl_run 300 [] [.t false, .l (.exit 0) ([(1, .pp 1 0), (3, .pv (.int .i64 (((0 : Nat) : Int) : Int)))]) ([(1, 0, .ls 0 l.length), (0, 0, rowP l)]) ([(1, .pp 1 0)]) ([(1, 0, .ls 0 l.length), (0, 0, rowP l)]), .l (.exit 2) ([(1, .pp 1 0), (4, .pv (.int .i64 (((0 + 1 : Nat) : Int) : Int)))]) ([(1, 0, .ls 0 l.length), (0, 0, rowP l)]) ([]) ([])]
     True.intro (And.intro h64 (And.intro (reflT (renN []) ([(1, .pp 1 0), (3, .pv (.int .i64 (((0 : Nat) : Int) : Int)))])) (And.intro (reflH (renN []) ([(1, 0, .ls 0 l.length), (0, 0, rowP l)])) (And.intro r0 (And.intro (reflT (renN []) ([(1, .pp 1 0), (4, .pv (.int .i64 (((0 + 1 : Nat) : Int) : Int)))])) (And.intro (reflH (renN []) ([(1, 0, .ls 0 l.length), (0, 0, rowP l)])) (And.intro r1 True.intro))))))) (by kernel_rfl)

end Go.Proofs.Ytjjmnoiffpnphaa
