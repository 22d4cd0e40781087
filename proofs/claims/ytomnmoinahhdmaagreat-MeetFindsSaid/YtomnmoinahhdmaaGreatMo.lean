/-
  The reference's pairs, in order. Conditions: none.
-/
import Derived.Test.YtomnmoinahhdmaaGreatW42
import Derived.Test.YtomnmoinahhdmaaGreatW29
namespace Go.Proofs.YtomnmoinahhdmaaGreat
open Go.RowKit
abbrev mcV (m : Mt) : List Value := [.int .i64 m.n, .int .i64 m.d, .int .i64 m.i, .int .i64 m.j]
def msV : List Mt → List Value
  | [] => []
  | m :: r => .int .i64 m.n :: .int .i64 m.d :: .int .i64 m.i :: .int .i64 m.j :: msV r
theorem msV_append : ∀ (a b : List Mt), msV (a ++ b) = msV a ++ msV b
  | [], _ => rfl
  | p :: r, b => by simp [msV, msV_append r b]
theorem msV_length : ∀ (l : List Mt), (msV l).length = l.length * 4
  | [] => rfl
  | p :: r => by simp [msV, msV_length r]; omega
theorem msV_get : ∀ {l : List Mt} {k : Nat} {m : Mt}, l[k]? = some m → (msV l)[k * 4]? = some (.int .i64 m.n) ∧ (msV l)[k * 4 + 1]? = some (.int .i64 m.d) ∧ (msV l)[k * 4 + 2]? = some (.int .i64 m.i) ∧ (msV l)[k * 4 + 3]? = some (.int .i64 m.j)
  | [], k, p, h => by simp at h
  | q :: r, 0, p, h => by simp at h; subst h; exact ⟨rfl, rfl, rfl, rfl⟩
  | q :: r, k + 1, p, h => by
    have := msV_get (l := r) (k := k) (m := p) (by simpa using h)
    rw [show (k + 1) * 4 = k * 4 + 1 + 1 + 1 + 1 by omega]
    exact this
theorem ra_mt {l : List Mt} {k : Nat} {m : Mt} (h : l[k]? = some m) : rowAt (msV l) (0 * 4 + k * 4) (mcV m) := by
  obtain ⟨h1, h2, h3, h4⟩ := msV_get h
  intro j v hj
  rw [show 0 * 4 + k * 4 + j = k * 4 + j by omega]
  match j, hj with
  | 0, hj => cases hj; exact h1
  | 1, hj => cases hj; exact h2
  | 2, hj => cases hj; exact h3
  | 3, hj => cases hj; exact h4
  | j + 4, hj => simp at hj
abbrev rowM (l : List Mt) : SV := .row 50 4 l.length (msV l)
theorem snoc_ms (l : List Mt) (m : Mt) : msV l ++ mcV m = msV (l ++ [m]) := by rw [msV_append]; rfl
theorem snocm_lsT (b : Nat) (l : List Mt) (m : Mt) : SV.ls b (l.length + 1) = SV.ls b (l ++ [m]).length := by rw [List.length_append]; rfl
theorem snocm_row (l : List Mt) (m : Mt) : some (SV.row 50 4 (l.length + 1) (msV l ++ mcV m)) = some (rowM (l ++ [m])) := by rw [snoc_ms, rowM, List.length_append]; rfl
theorem set_ms : ∀ (l : List Mt) (k : Nat) (m : Mt), k < l.length → msV (l.set k m) = setL (msV l) (k * 4) (mcV m)
  | [], k, m, h => by simp at h
  | q :: r, 0, m, h => by cases q; rfl
  | q :: r, k + 1, m, h => by
    rw [List.set_cons_succ, msV, msV, show (k + 1) * 4 = k * 4 + 1 + 1 + 1 + 1 by omega, set_ms r k m (by simpa using h)]
    rfl
theorem setm_row (l : List Mt) (k : Nat) (m : Mt) (h : k < l.length) : msV (l.set k m) = setL (msV l) (0 * 4 + k * 4) (mcV m) := by rw [show 0 * 4 + k * 4 = k * 4 by omega]; exact set_ms l k m h
theorem setm_in (l : List Mt) (k : Nat) (h : k < l.length) : 0 * 4 + k * 4 + 4 ≤ (msV l).length := by rw [msV_length]; omega

def befB (a b : Mt) : Bool := if (a.n * b.d - b.n * a.d).sign = 0 then (if a.i = b.i then decide (a.j < b.j) else decide (a.i < b.i)) else decide ((a.n * b.d - b.n * a.d).sign < 0)
section
variable {a b : Mt} {c : Int} {t : Bool}
set_option maxRecDepth 100000 in
theorem be_t (h : Pure Tryz.prog 23 #[ratioV a.n a.d, ratioV b.n b.d] (.int .i64 c)) (h1 : (c != 0) = true) (h2 : decide (c < 0) = t) : Pure Tryz.prog 140 #[meetV a, meetV b] (.bool t) :=
  pure_run (args := [meetV a, meetV b]) 200 [.r (.int .i64 c), .t true, .t t] (And.intro rfl (And.intro h (And.intro h1 (And.intro h2 True.intro)))) (by kernel_rfl)
set_option maxRecDepth 100000 in
theorem be_i (h : Pure Tryz.prog 23 #[ratioV a.n a.d, ratioV b.n b.d] (.int .i64 0)) (h1 : (a.i != b.i) = true) (h2 : decide (a.i < b.i) = t) : Pure Tryz.prog 140 #[meetV a, meetV b] (.bool t) :=
  pure_run (args := [meetV a, meetV b]) 200 [.r (.int .i64 0), .k, .t true, .t t] (And.intro rfl (And.intro h (And.intro h1 (And.intro h2 True.intro)))) (by kernel_rfl)
set_option maxRecDepth 100000 in
theorem be_j (h : Pure Tryz.prog 23 #[ratioV a.n a.d, ratioV b.n b.d] (.int .i64 0)) (h1 : (a.i != b.i) = false) (h2 : decide (a.j < b.j) = t) : Pure Tryz.prog 140 #[meetV a, meetV b] (.bool t) :=
  pure_run (args := [meetV a, meetV b]) 200 [.r (.int .i64 0), .k, .t false, .t t] (And.intro rfl (And.intro h (And.intro h1 (And.intro h2 True.intro)))) (by kernel_rfl)
end
theorem Before_ok {a b : Mt} (ha : MtOk a) (hb : MtOk b) : Pure Tryz.prog 140 #[meetV a, meetV b] (.bool (befB a b)) := by
  have h := RCompare_any ha.n ha.d hb.n hb.d
  unfold befB
  by_cases g : (a.n * b.d - b.n * a.d).sign = 0
  · rw [if_pos g]
    rw [g] at h
    by_cases g1 : a.i = b.i
    · rw [if_pos g1]; exact be_j h (by simpa using g1) rfl
    · rw [if_neg g1]; exact be_i h (by simpa using g1) rfl
  · rw [if_neg g]; exact be_t h (by simpa using g) rfl

set_option maxRecDepth 100000 in
theorem pi_no {l : List Pt} {i k : Nat} {p q : Pt} {m : List Mt} (hi : l[i]? = some p) (hk : l[k]? = some q) (hii : 0 ≤ (i : Int) ∧ (i : Int) < (l.length : Int)) (hin : 0 ≤ (k : Int) ∧ (k : Int) < (l.length : Int)) (hlt : decide ((k : Int) < (l.length : Int)) = true) (hb : (!(p.b == q.b)) = false) (hs : Value.int .i64 (IntKind.i64.wrap ((k : Int) + 1)) = .int .i64 (((k + 1 : Nat) : Int))) {e : Exit} {tm2 : List (Nat × SV)} {hp2 : List (Nat × Nat × SV)}
    (r : RunsL Tryz.prog 1 1 (loopOf Tryz.prog 89 1) 92 3 ([(1, .pp 1 0), (3, .ls 2 (m).length), (4, .pv (.int .i64 (i : Int))), (5, .pv (.int .i64 ((k + 1 : Nat) : Int)))]) ([(1, 0, .ls 0 l.length), (0, 0, rowP l), (2, 0, rowM (m))]) e tm2 hp2) : RunsL Tryz.prog 1 1 (loopOf Tryz.prog 89 1) 92 3 ([(1, .pp 1 0), (3, .ls 2 (m).length), (4, .pv (.int .i64 (i : Int))), (5, .pv (.int .i64 (k : Int)))]) ([(1, 0, .ls 0 l.length), (0, 0, rowP l), (2, 0, rowM (m))]) e tm2 hp2 :=
  RunsL.next [] 300 [.t true, .r (ptV p), .r (ptV q), .t false, .r (.int .i64 (((k + 1 : Nat) : Int)))]
    (round_of (And.intro hlt (And.intro hii (And.intro (ra_pt hi) (And.intro hin (And.intro (ra_pt hk) (And.intro hb (And.intro hs True.intro))))))) (by kernel_rfl)) r

set_option maxRecDepth 100000 in
theorem pi_yes {l : List Pt} {i k : Nat} {p q : Pt} {m : List Mt} {n d : Int} (hi : l[i]? = some p) (hk : l[k]? = some q) (hii : 0 ≤ (i : Int) ∧ (i : Int) < (l.length : Int)) (hin : 0 ≤ (k : Int) ∧ (k : Int) < (l.length : Int)) (hlt : decide ((k : Int) < (l.length : Int)) = true) (hb : (!(p.b == q.b)) = true) (hm : Pure Tryz.prog 139 #[ptV p, ptV q] (ratioV n d)) (hl : m.length + 1 ≤ 1000000) (hs : Value.int .i64 (IntKind.i64.wrap ((k : Int) + 1)) = .int .i64 (((k + 1 : Nat) : Int))) {e : Exit} {tm2 : List (Nat × SV)} {hp2 : List (Nat × Nat × SV)}
    (r : RunsL Tryz.prog 1 1 (loopOf Tryz.prog 89 1) 92 3 ([(1, .pp 1 0), (3, .ls 2 (m ++ [Mt.mk n d p.id q.id]).length), (4, .pv (.int .i64 (i : Int))), (5, .pv (.int .i64 ((k + 1 : Nat) : Int)))]) ([(1, 0, .ls 0 l.length), (0, 0, rowP l), (2, 0, rowM (m ++ [Mt.mk n d p.id q.id]))]) e tm2 hp2) : RunsL Tryz.prog 1 1 (loopOf Tryz.prog 89 1) 92 3 ([(1, .pp 1 0), (3, .ls 2 (m).length), (4, .pv (.int .i64 (i : Int))), (5, .pv (.int .i64 (k : Int)))]) ([(1, 0, .ls 0 l.length), (0, 0, rowP l), (2, 0, rowM (m))]) e tm2 hp2 :=
  RunsL.next [(2, 6)] 300 [.t true, .r (ptV p), .r (ptV q), .t true, .r (ratioV n d), .r (.int .i64 (((k + 1 : Nat) : Int)))]
    (round_ofTH (And.intro (Eq.refl (SV.pp 1 0)) (And.intro (snocm_lsT 6 m (Mt.mk n d p.id q.id)) (And.intro (Eq.refl (SV.pv (.int .i64 (i : Int)))) (And.intro (Eq.refl (SV.pv (.int .i64 ((k + 1 : Nat) : Int)))) True.intro)))) (And.intro (Eq.refl (some (SV.ls 0 l.length))) (And.intro (Eq.refl (some (rowP l))) (And.intro (snocm_row m (Mt.mk n d p.id q.id)) True.intro))) (And.intro hlt (And.intro hii (And.intro (ra_pt hi) (And.intro hin (And.intro (ra_pt hk) (And.intro hb (And.intro hm (And.intro hl (And.intro hs True.intro))))))))) (by kernel_rfl)) r

set_option maxRecDepth 100000 in
theorem pi_end {l : List Pt} {i k : Nat} {m : List Mt} (hge : decide ((k : Int) < (l.length : Int)) = false) : RunsL Tryz.prog 1 1 (loopOf Tryz.prog 89 1) 92 3 ([(1, .pp 1 0), (3, .ls 2 (m).length), (4, .pv (.int .i64 (i : Int))), (5, .pv (.int .i64 (k : Int)))]) ([(1, 0, .ls 0 l.length), (0, 0, rowP l), (2, 0, rowM (m))]) (.exit 2) ([(1, .pp 1 0), (3, .ls 2 (m).length), (4, .pv (.int .i64 (i : Int)))]) ([(1, 0, .ls 0 l.length), (0, 0, rowP l), (2, 0, rowM (m))]) :=
  RunsL.stop [] 300 [.t false] (fun h => by cases h)
    (round_of (And.intro hge True.intro) (by kernel_rfl))

set_option maxRecDepth 100000 in
theorem po_next {l : List Pt} {i : Nat} {m m2 : List Mt} (hlt : decide ((i : Int) < (l.length : Int)) = true) (hs : Value.int .i64 (IntKind.i64.wrap ((i : Int) + 1)) = .int .i64 (((i + 1 : Nat) : Int))) (r1 : RunsL Tryz.prog 1 1 (loopOf Tryz.prog 89 1) 92 3 ([(1, .pp 1 0), (3, .ls 2 (m).length), (4, .pv (.int .i64 (i : Int))), (5, .pv (.int .i64 ((i + 1 : Nat) : Int)))]) ([(1, 0, .ls 0 l.length), (0, 0, rowP l), (2, 0, rowM (m))]) (.exit 2) ([(1, .pp 1 0), (3, .ls 2 (m2).length), (4, .pv (.int .i64 (i : Int)))]) ([(1, 0, .ls 0 l.length), (0, 0, rowP l), (2, 0, rowM (m2))])) {e : Exit} {tm2 : List (Nat × SV)} {hp2 : List (Nat × Nat × SV)}
    (r : RunsL Tryz.prog 1 1 (loopOf Tryz.prog 89 0) 92 3 ([(1, .pp 1 0), (3, .ls 2 (m2).length), (4, .pv (.int .i64 ((i + 1 : Nat) : Int)))]) ([(1, 0, .ls 0 l.length), (0, 0, rowP l), (2, 0, rowM (m2))]) e tm2 hp2) : RunsL Tryz.prog 1 1 (loopOf Tryz.prog 89 0) 92 3 ([(1, .pp 1 0), (3, .ls 2 (m).length), (4, .pv (.int .i64 (i : Int)))]) ([(1, 0, .ls 0 l.length), (0, 0, rowP l), (2, 0, rowM (m))]) e tm2 hp2 :=
  RunsL.next [] 300 [.t true, .r (.int .i64 (((i + 1 : Nat) : Int))), .l (.exit 2) ([(1, .pp 1 0), (3, .ls 2 (m).length), (4, .pv (.int .i64 (i : Int))), (5, .pv (.int .i64 ((i + 1 : Nat) : Int)))]) ([(1, 0, .ls 0 l.length), (0, 0, rowP l), (2, 0, rowM (m))]) ([(1, .pp 1 0), (3, .ls 2 (m2).length), (4, .pv (.int .i64 (i : Int)))]) ([(1, 0, .ls 0 l.length), (0, 0, rowP l), (2, 0, rowM (m2))]), .r (.int .i64 (((i + 1 : Nat) : Int)))]
    (round_of (And.intro hlt (And.intro hs (And.intro (reflT (renN []) ([(1, .pp 1 0), (3, .ls 2 (m).length), (4, .pv (.int .i64 (i : Int))), (5, .pv (.int .i64 ((i + 1 : Nat) : Int)))])) (And.intro (reflH (renN []) ([(1, 0, .ls 0 l.length), (0, 0, rowP l), (2, 0, rowM (m))])) (And.intro r1 (And.intro hs True.intro)))))) (by kernel_rfl)) r

set_option maxRecDepth 100000 in
theorem po_end {l : List Pt} {i : Nat} {m : List Mt} (hlt : decide ((i : Int) < (l.length : Int)) = false) : RunsL Tryz.prog 1 1 (loopOf Tryz.prog 89 0) 92 3 ([(1, .pp 1 0), (3, .ls 2 (m).length), (4, .pv (.int .i64 (i : Int)))]) ([(1, 0, .ls 0 l.length), (0, 0, rowP l), (2, 0, rowM (m))]) (.exit 0) ([(3, .ls 2 (m).length)]) ([(2, 0, .row 50 4 m.length (msV m))]) :=
  RunsL.stop [] 300 [.t false] (fun h => by cases h)
    (round_of (And.intro hlt True.intro) (by kernel_rfl))

set_option maxRecDepth 100000 in
theorem so_next {j n : Nat} {m m2 : List Mt} (hlt : decide ((j : Int) < (n : Int)) = true) (r1 : RunsL Tryz.prog 1 1 (loopOf Tryz.prog 89 3) 92 3 ([(3, .ls 2 n), (8, .pv (.int .i64 (j : Int))), (9, .pv (.int .i64 (j : Int)))]) ([(2, 0, .row 50 4 n (msV (m)))]) (.exit 6) ([(3, .ls 2 n), (8, .pv (.int .i64 (j : Int)))]) ([(2, 0, .row 50 4 n (msV (m2)))])) (hs : Value.int .i64 (IntKind.i64.wrap ((j : Int) + 1)) = .int .i64 (((j + 1 : Nat) : Int))) {e : Exit} {tm2 : List (Nat × SV)} {hp2 : List (Nat × Nat × SV)}
    (r : RunsL Tryz.prog 1 1 (loopOf Tryz.prog 89 2) 92 3 ([(3, .ls 2 n), (8, .pv (.int .i64 ((j + 1 : Nat) : Int)))]) ([(2, 0, .row 50 4 n (msV (m2)))]) e tm2 hp2) : RunsL Tryz.prog 1 1 (loopOf Tryz.prog 89 2) 92 3 ([(3, .ls 2 n), (8, .pv (.int .i64 (j : Int)))]) ([(2, 0, .row 50 4 n (msV (m)))]) e tm2 hp2 :=
  RunsL.next [] 300 [.t true, .l (.exit 6) ([(3, .ls 2 n), (8, .pv (.int .i64 (j : Int))), (9, .pv (.int .i64 (j : Int)))]) ([(2, 0, .row 50 4 n (msV (m)))]) ([(3, .ls 2 n), (8, .pv (.int .i64 (j : Int)))]) ([(2, 0, .row 50 4 n (msV (m2)))]), .r (.int .i64 (((j + 1 : Nat) : Int)))]
    (round_of (And.intro hlt (And.intro (reflT (renN []) ([(3, .ls 2 n), (8, .pv (.int .i64 (j : Int))), (9, .pv (.int .i64 (j : Int)))])) (And.intro (reflH (renN []) ([(2, 0, .row 50 4 n (msV (m)))])) (And.intro r1 (And.intro hs True.intro))))) (by kernel_rfl)) r

set_option maxRecDepth 100000 in
theorem so_end {j n : Nat} {m : List Mt} (hlt : decide ((j : Int) < (n : Int)) = false) : RunsL Tryz.prog 1 1 (loopOf Tryz.prog 89 2) 92 3 ([(3, .ls 2 n), (8, .pv (.int .i64 (j : Int)))]) ([(2, 0, .row 50 4 n (msV (m)))]) (.exit 4) ([(3, .ls 2 n)]) ([(2, 0, .row 50 4 n (msV (m)))]) :=
  RunsL.stop [] 300 [.t false] (fun h => by cases h)
    (round_of (And.intro hlt True.intro) (by kernel_rfl))

set_option maxRecDepth 100000 in
theorem si_zero {j n : Nat} {m : List Mt} (h0 : decide (((0 : Nat) : Int) > 0) = false) : RunsL Tryz.prog 1 1 (loopOf Tryz.prog 89 3) 92 3 ([(3, .ls 2 n), (8, .pv (.int .i64 (j : Int))), (9, .pv (.int .i64 ((0 : Nat) : Int)))]) ([(2, 0, .row 50 4 n (msV (m)))]) (.exit 6) ([(3, .ls 2 n), (8, .pv (.int .i64 (j : Int)))]) ([(2, 0, .row 50 4 n (msV (m)))]) :=
  RunsL.stop [] 300 [.t false] (fun h => by cases h)
    (round_of (And.intro h0 True.intro) (by kernel_rfl))

set_option maxRecDepth 100000 in
theorem si_no {j k n : Nat} {m : List Mt} {a b : Mt} (hq : m[k]? = some b) (hk : m[k + 1]? = some a) (hi0 : 0 ≤ (k : Int) ∧ (k : Int) < (n : Int)) (hi1 : 0 ≤ ((k + 1 : Nat) : Int) ∧ ((k + 1 : Nat) : Int) < (n : Int)) (h0 : decide (((k + 1 : Nat) : Int) > 0) = true) (hm : Value.int .i64 (IntKind.i64.wrap (((k + 1 : Nat) : Int) - 1)) = .int .i64 ((k : Int))) (hb : Pure Tryz.prog 140 #[meetV a, meetV b] (.bool false)) : RunsL Tryz.prog 1 1 (loopOf Tryz.prog 89 3) 92 3 ([(3, .ls 2 n), (8, .pv (.int .i64 (j : Int))), (9, .pv (.int .i64 ((k + 1 : Nat) : Int)))]) ([(2, 0, .row 50 4 n (msV (m)))]) (.exit 6) ([(3, .ls 2 n), (8, .pv (.int .i64 (j : Int)))]) ([(2, 0, .row 50 4 n (msV (m)))]) :=
  RunsL.stop [] 300 [.t true, .r (meetV a), .r (.int .i64 ((k : Int))), .r (meetV b), .r (.bool false)] (fun h => by cases h)
    (round_of (And.intro h0 (And.intro hi1 (And.intro (ra_mt hk) (And.intro hm (And.intro hi0 (And.intro (ra_mt hq) (And.intro hb True.intro))))))) (by kernel_rfl))

set_option maxRecDepth 100000 in
theorem si_yes {j k n : Nat} {m : List Mt} {a b : Mt} (hq : m[k]? = some b) (hk : m[k + 1]? = some a) (hi0 : 0 ≤ (k : Int) ∧ (k : Int) < (n : Int)) (hi1 : 0 ≤ ((k + 1 : Nat) : Int) ∧ ((k + 1 : Nat) : Int) < (n : Int)) (h0 : decide (((k + 1 : Nat) : Int) > 0) = true) (hm : Value.int .i64 (IntKind.i64.wrap (((k + 1 : Nat) : Int) - 1)) = .int .i64 ((k : Int))) (hb : Pure Tryz.prog 140 #[meetV a, meetV b] (.bool true)) (hl0 : k + 1 < m.length) {e : Exit} {tm2 : List (Nat × SV)} {hp2 : List (Nat × Nat × SV)}
    (r : RunsL Tryz.prog 1 1 (loopOf Tryz.prog 89 3) 92 3 ([(3, .ls 2 n), (8, .pv (.int .i64 (j : Int))), (9, .pv (.int .i64 (k : Int)))]) ([(2, 0, .row 50 4 n (msV ((m.set (k + 1) b).set k a)))]) e tm2 hp2) : RunsL Tryz.prog 1 1 (loopOf Tryz.prog 89 3) 92 3 ([(3, .ls 2 n), (8, .pv (.int .i64 (j : Int))), (9, .pv (.int .i64 ((k + 1 : Nat) : Int)))]) ([(2, 0, .row 50 4 n (msV (m)))]) e tm2 hp2 :=
  RunsL.next [] 300 [.t true, .r (meetV a), .r (.int .i64 ((k : Int))), .r (meetV b), .r (.bool true), .gr, .r (.int .i64 ((k : Int))), .r (.int .i64 ((k : Int))), .r (meetV b), .r (meetV a), .w (msV (m.set (k + 1) b)), .w (msV ((m.set (k + 1) b).set k a)), .r (.int .i64 ((k : Int)))]
    (round_of (And.intro h0 (And.intro hi1 (And.intro (ra_mt hk) (And.intro hm (And.intro hi0 (And.intro (ra_mt hq) (And.intro hb (And.intro hm (And.intro hm (And.intro hi0 (And.intro hi1 (And.intro (ra_mt hq) (And.intro (ra_mt hk) (And.intro hi1 (And.intro (setm_row m (k + 1) b hl0) (And.intro (setm_in m (k + 1) hl0) (And.intro hi0 (And.intro (setm_row (m.set (k + 1) b) k a (by rw [List.length_set]; omega)) (And.intro (setm_in (m.set (k + 1) b) k (by rw [List.length_set]; omega)) (And.intro hm True.intro)))))))))))))))))))) (by kernel_rfl)) r

set_option maxRecDepth 100000 in
theorem pr_path {l : List Pt} {m m2 : List Mt} (r0 : RunsL Tryz.prog 1 1 (loopOf Tryz.prog 89 0) 92 3 ([(1, .pp 1 0), (3, .ls 2 (([] : List Mt)).length), (4, .pv (.int .i64 ((0 : Nat) : Int)))]) ([(1, 0, .ls 0 l.length), (0, 0, rowP l), (2, 0, rowM (([] : List Mt)))]) (.exit 0) ([(3, .ls 2 (m).length)]) ([(2, 0, .row 50 4 m.length (msV m))])) (r2 : RunsL Tryz.prog 1 1 (loopOf Tryz.prog 89 2) 92 3 ([(3, .ls 2 m.length), (8, .pv (.int .i64 ((1 : Nat) : Int)))]) ([(2, 0, .row 50 4 m.length (msV (m)))]) (.exit 4) ([(3, .ls 2 m.length)]) ([(2, 0, .row 50 4 m.length (msV (m2)))])) :
    FnL Tryz.prog 89 1 [fldS 0 l] [(0, 0, rowP l)] (.ls 1 m.length) 1 [(1, 0, .row 50 4 m.length (msV m2))] :=
  fnl_run 300 [(1, 2)] [.ln true 3 0 50 4, .l (.exit 0) ([(1, .pp 1 0), (3, .ls 2 (([] : List Mt)).length), (4, .pv (.int .i64 ((0 : Nat) : Int)))]) ([(1, 0, .ls 0 l.length), (0, 0, rowP l), (2, 0, rowM (([] : List Mt)))]) ([(3, .ls 2 (m).length)]) ([(2, 0, .row 50 4 m.length (msV m))]), .l (.exit 4) ([(3, .ls 2 m.length), (8, .pv (.int .i64 ((1 : Nat) : Int)))]) ([(2, 0, .row 50 4 m.length (msV (m)))]) ([(3, .ls 2 m.length)]) ([(2, 0, .row 50 4 m.length (msV (m2)))])]
     (reflH (renN [(1, 2)]) [(1, 0, .row 50 4 m.length (msV m2))]) (And.intro (reflT (renN []) ([(1, .pp 1 0), (3, .ls 2 (([] : List Mt)).length), (4, .pv (.int .i64 ((0 : Nat) : Int)))])) (And.intro (reflH (renN []) ([(1, 0, .ls 0 l.length), (0, 0, rowP l), (2, 0, rowM (([] : List Mt)))])) (And.intro r0 (And.intro (reflT (renN []) ([(3, .ls 2 m.length), (8, .pv (.int .i64 ((1 : Nat) : Int)))])) (And.intro (reflH (renN []) ([(2, 0, .row 50 4 m.length (msV (m)))])) (And.intro r2 True.intro)))))) (by kernel_rfl)

theorem pin_loop {l : List Pt} (hv : Val l) {i : Nat} {p : Pt} (hi : l[i]? = some p) : ∀ (d k : Nat) (m : List Mt), k + d = l.length → i < k → m.length + d ≤ 6000 →
    RunsL Tryz.prog 1 1 (loopOf Tryz.prog 89 1) 92 3 ([(1, .pp 1 0), (3, .ls 2 (m).length), (4, .pv (.int .i64 (i : Int))), (5, .pv (.int .i64 (k : Int)))]) ([(1, 0, .ls 0 l.length), (0, 0, rowP l), (2, 0, rowM (m))]) (.exit 2)
      ([(1, .pp 1 0), (3, .ls 2 (m ++ ((l.drop k).map fun q => (p, q)).filterMap fM).length), (4, .pv (.int .i64 (i : Int)))]) ([(1, 0, .ls 0 l.length), (0, 0, rowP l), (2, 0, rowM (m ++ ((l.drop k).map fun q => (p, q)).filterMap fM))])
  | 0, k, m, hd, hik, hm => by
    rw [List.drop_eq_nil_of_le (by omega), List.map_nil, List.filterMap_nil, List.append_nil]
    exact pi_end (df (by omega))
  | d + 1, k, m, hd, hik, hm => by
    obtain ⟨q, hq⟩ := get_some (l := l) (k := k) (by omega)
    have hkl := get_lt hq
    have hil := get_lt hi
    have e : l.drop k = q :: l.drop (k + 1) := by
      obtain ⟨h1, rfl⟩ := List.getElem?_eq_some_iff.1 hq
      exact List.drop_eq_getElem_cons h1
    have o1 := hv.ok _ (List.mem_of_getElem? hi)
    have o2 := hv.ok _ (List.mem_of_getElem? hq)
    rw [e, List.map_cons]
    by_cases hb : p.b = q.b
    · rw [List.filterMap_cons_none (fM_same (x := (p, q)) hb)]
      exact pi_no hi hq (in_of hil) (in_of hkl) (dt (by omega)) (by simp [hb]) (i64s hkl hv.len) (pin_loop hv hi d (k + 1) m (by omega) (by omega) (by omega))
    · obtain ⟨mt, h1, h2⟩ := fM_diff (x := (p, q)) o1 o2 hb
      rw [List.filterMap_cons_some h1]
      have r := pin_loop hv hi d (k + 1) (m ++ [mt]) (by omega) (by omega) (by rw [List.length_append]; simp; omega)
      rw [List.append_assoc, List.singleton_append] at r
      have em : Mt.mk mt.n mt.d p.id q.id = mt := by rw [← h2.i, ← h2.j]
      have mm := Met_ok (pi := p.id) (pa := p.a) (pb := p.b) (qi := q.id) (qa := q.a) (qb := q.b) o1 o2 hb h2.ok h2.n h2.d h2.eq
      exact pi_yes hi hq (in_of hil) (in_of hkl) (dt (by omega)) (by simp [hb]) mm (by omega) (i64s hkl hv.len) (by rw [em]; exact r)
theorem pout_loop {l : List Pt} (hv : Val l) : ∀ (d i : Nat) (m : List Mt), i + d = l.length → m.length + d * 64 ≤ 5000 →
    RunsL Tryz.prog 1 1 (loopOf Tryz.prog 89 0) 92 3 ([(1, .pp 1 0), (3, .ls 2 (m).length), (4, .pv (.int .i64 (i : Int)))]) ([(1, 0, .ls 0 l.length), (0, 0, rowP l), (2, 0, rowM (m))]) (.exit 0)
      ([(3, .ls 2 (m ++ (pairsOf (l.drop i)).filterMap fM).length)]) ([(2, 0, .row 50 4 (m ++ (pairsOf (l.drop i)).filterMap fM).length (msV (m ++ (pairsOf (l.drop i)).filterMap fM)))])
  | 0, i, m, hd, hm => by
    rw [List.drop_eq_nil_of_le (by omega), pairsOf, List.filterMap_nil, List.append_nil]
    exact po_end (df (by omega))
  | d + 1, i, m, hd, hm => by
    obtain ⟨p, hp⟩ := get_some (l := l) (k := i) (by omega)
    have hil := get_lt hp
    have hlen := hv.len
    have e : l.drop i = p :: l.drop (i + 1) := by
      obtain ⟨h1, rfl⟩ := List.getElem?_eq_some_iff.1 hp
      exact List.drop_eq_getElem_cons h1
    have r1 := pin_loop hv hp d (i + 1) m (by omega) (by omega) (by omega)
    have hfl : (((l.drop (i + 1)).map fun q => (p, q)).filterMap fM).length ≤ 64 := by
      refine Nat.le_trans (List.length_filterMap_le _ _) ?_
      rw [List.length_map, List.length_drop]; omega
    rw [e, pairsOf, List.filterMap_append, ← List.append_assoc]
    exact po_next (dt (by omega)) (i64s hil hlen) r1 (pout_loop hv d (i + 1) _ (by omega) (by rw [List.length_append]; omega))

/-- Into a list, the last one first. -/
def insD (x : Mt) : List Mt → List Mt
  | [] => [x]
  | a :: R => if befB x a = true then a :: insD x R else x :: a :: R
theorem insD_len (x : Mt) : ∀ (R : List Mt), (insD x R).length = R.length + 1
  | [] => rfl
  | a :: R => by
    unfold insD
    split
    · simp [insD_len x R]
    · rfl
theorem sink_loop {n j : Nat} (hn : n ≤ 100000) {x : Mt} (hx : MtOk x) : ∀ (R C : List Mt), R.length + 1 + C.length = n → (∀ a ∈ R, MtOk a) →
    RunsL Tryz.prog 1 1 (loopOf Tryz.prog 89 3) 92 3 ([(3, .ls 2 n), (8, .pv (.int .i64 (j : Int))), (9, .pv (.int .i64 (R.length : Int)))]) ([(2, 0, .row 50 4 n (msV (R.reverse ++ x :: C)))]) (.exit 6)
      ([(3, .ls 2 n), (8, .pv (.int .i64 (j : Int)))]) ([(2, 0, .row 50 4 n (msV ((insD x R).reverse ++ C)))])
  | [], C, hl, _ => si_zero (df (by decide))
  | a :: R, C, hl, hR => by
    simp only [List.length_cons] at hl
    have e0 : (a :: R).reverse ++ x :: C = R.reverse ++ a :: x :: C := by simp
    have hq : ((a :: R).reverse ++ x :: C)[R.length]? = some a := by
      rw [e0, List.getElem?_append_right (by simp)]; simp
    have hk : ((a :: R).reverse ++ x :: C)[R.length + 1]? = some x := by
      rw [e0, List.getElem?_append_right (by simp)]; simp
    have hbf := Before_ok hx (hR a List.mem_cons_self)
    have hw : Value.int .i64 (IntKind.i64.wrap (((R.length + 1 : Nat) : Int) - 1)) = .int .i64 (R.length : Int) := by rw [wrap_i64_in (by omega) (by omega), show ((R.length + 1 : Nat) : Int) - 1 = (R.length : Int) by omega]
    show RunsL Tryz.prog 1 1 _ 92 3 ([(3, .ls 2 n), (8, .pv (.int .i64 (j : Int))), (9, .pv (.int .i64 ((R.length + 1 : Nat) : Int)))]) _ _ _ _
    unfold insD
    cases hb : befB x a with
    | false =>
      rw [hb] at hbf
      rw [if_neg (by simp)]
      have e1 : (x :: a :: R).reverse ++ C = (a :: R).reverse ++ x :: C := by simp
      rw [e1]
      exact si_no hq hk (in_of (by omega)) (in_of (by omega)) (dt (by omega)) hw hbf
    | true =>
      rw [hb] at hbf
      rw [if_pos rfl]
      have e1 : (a :: insD x R).reverse ++ C = (insD x R).reverse ++ a :: C := by simp
      rw [e1]
      have r := sink_loop (j := j) hn hx R (a :: C) (by simp; omega) (fun b hb => hR b (List.mem_cons_of_mem _ hb))
      have e2 : (((a :: R).reverse ++ x :: C).set (R.length + 1) a).set R.length x = R.reverse ++ x :: a :: C := by
        rw [e0, List.set_append_right _ _ (by simp), List.set_append_right _ _ (by simp)]
        simp
      exact si_yes hq hk (in_of (by omega)) (in_of (by omega)) (dt (by omega)) hw hbf (get_lt hk) (by rw [e2]; exact r)
def sortD (S : List Mt) (C : List Mt) : List Mt := C.foldl (fun S x => insD x S) S
theorem insD_mem {x y : Mt} : ∀ {R : List Mt}, y ∈ insD x R ↔ y = x ∨ y ∈ R
  | [] => by simp [insD]
  | a :: R => by
    unfold insD
    split
    · rw [List.mem_cons, insD_mem, List.mem_cons]; constructor <;> rintro (h | h | h) <;> simp [h]
    · simp
theorem sort_loop {n : Nat} (hn : n ≤ 100000) : ∀ (C S : List Mt), S.length + C.length = n → (∀ a ∈ S, MtOk a) → (∀ a ∈ C, MtOk a) →
    RunsL Tryz.prog 1 1 (loopOf Tryz.prog 89 2) 92 3 ([(3, .ls 2 n), (8, .pv (.int .i64 (S.length : Int)))]) ([(2, 0, .row 50 4 n (msV (S.reverse ++ C)))]) (.exit 4)
      ([(3, .ls 2 n)]) ([(2, 0, .row 50 4 n (msV ((sortD S C).reverse)))])
  | [], S, hl, _, _ => by
    rw [List.append_nil]
    simp only [List.length_nil] at hl
    exact so_end (df (by omega))
  | x :: C, S, hl, hS, hC => by
    simp only [List.length_cons] at hl
    have r1 := sink_loop (n := n) (j := S.length) hn (hC x List.mem_cons_self) S C (by omega) hS
    have r2 := sort_loop hn C (insD x S) (by rw [insD_len]; omega) (fun a ha => by
      rcases insD_mem.1 ha with rfl | h
      · exact hC _ List.mem_cons_self
      · exact hS _ h) (fun a ha => hC a (List.mem_cons_of_mem _ ha))
    rw [insD_len] at r2
    exact so_next (dt (by omega)) r1 (by rw [wrap_i64_in (by omega) (by omega)]; rfl) r2
/-- All meetings of a valid field, in order. -/
noncomputable def srt (l : List Pt) : List Mt := (sortD [] (msOf l)).reverse
theorem sortD_len : ∀ (C S : List Mt), (sortD S C).length = S.length + C.length
  | [], S => rfl
  | x :: C, S => by
    show (sortD (insD x S) C).length = _
    rw [sortD_len C, insD_len, List.length_cons]; omega
theorem srt_len (l : List Pt) : (srt l).length = (msOf l).length := by
  unfold srt
  rw [List.length_reverse, sortD_len]; simp
theorem pairs_len : ∀ (l : List Pt), (pairsOf l).length ≤ l.length * l.length
  | [] => Nat.le_refl _
  | p :: r => by
    have := pairs_len r
    rw [pairsOf, List.length_append, List.length_map, List.length_cons, Nat.add_mul, Nat.mul_add]
    omega
theorem ms_len {l : List Pt} (hv : Val l) : (msOf l).length ≤ 4096 := by
  refine Nat.le_trans (List.length_filterMap_le _ _) (Nat.le_trans (pairs_len l) ?_)
  exact Nat.mul_le_mul hv.len hv.len
theorem RPairs_any {l : List Pt} (hv : Val l) : FnL Tryz.prog 89 1 [fldS 0 l] [(0, 0, rowP l)] (.ls 1 (msOf l).length) 1 [(1, 0, .row 50 4 (msOf l).length (msV (srt l)))] := by
  have r0 := pout_loop hv l.length 0 [] (by omega) (by have := hv.len; simp; omega)
  rw [List.drop_zero, List.nil_append] at r0
  refine pr_path r0 ?_
  have hl := ms_len hv
  have hok := ms_ok hv
  unfold srt
  show RunsL Tryz.prog 1 1 _ 92 3 ([(3, .ls 2 (msOf l).length), _]) ([(2, 0, .row 50 4 (msOf l).length (msV (msOf l)))]) _ _ _
  generalize msOf l = ms at *
  cases ms with
  | nil => exact so_end (df (by decide))
  | cons c r => exact sort_loop (n := (c :: r).length) (by omega) r [c] (by simp; omega) (fun a ha => hok a (by simp at ha; simp [ha])) (fun a ha => hok a (List.mem_cons_of_mem _ ha))
end Go.Proofs.YtomnmoinahhdmaaGreat
