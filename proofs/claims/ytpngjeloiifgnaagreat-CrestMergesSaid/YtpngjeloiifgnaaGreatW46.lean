/-
  Joined: Ia, Ic. Conditions: none.
-/
import Derived.Test.YtpngjeloiifgnaaGreatHq
import Derived.Test.YtpngjeloiifgnaaGreatW43
namespace Go.Proofs.YtpngjeloiifgnaaGreat
open Go.RowKit
theorem rsV_append : ∀ (a b : List Rn), rsV (a ++ b) = rsV a ++ rsV b
  | [], _ => rfl
  | p :: r, b => by simp [rsV, rsV_append r b]
theorem ra_rs {l : List Rn} {k : Nat} {m : Rn} (h : l[k]? = some m) : rowAt (rsV l) (0 * 2 + k * 2) (rcV m) := by
  obtain ⟨h1, h2⟩ := rsV_get h
  intro j v hj
  rw [show 0 * 2 + k * 2 + j = k * 2 + j by omega]
  match j, hj with
  | 0, hj => cases hj; exact h1
  | 1, hj => cases hj; exact h2
  | j + 2, hj => simp at hj
theorem ra_rs1 {l : List Rn} {k : Nat} {m : Rn} (h : l[k + 1]? = some m) : rowAt (rsV l) ((0 + 1) * 2 + k * 2) (rcV m) := by
  have := ra_rs h
  rwa [show 0 * 2 + (k + 1) * 2 = (0 + 1) * 2 + k * 2 by omega] at this
theorem setR_row : ∀ (l : List Rn) (k : Nat) (m : Rn), k < l.length → rsV (l.set k m) = setL (rsV l) (0 * 2 + k * 2) (rcV m)
  | [], _, _, h => by simp at h
  | q :: r, 0, m, _ => by simp [rsV, setL]
  | q :: r, k + 1, m, h => by
    rw [show 0 * 2 + (k + 1) * 2 = (0 * 2 + k * 2) + 1 + 1 by omega, List.set_cons_succ]
    show Value.int .i64 q.n :: Value.int .i64 q.d :: rsV (r.set k m) = _
    rw [setR_row r k m (by simpa using h)]
    simp [rsV, setL]
theorem setR_in (l : List Rn) (k : Nat) (h : k < l.length) : 0 * 2 + k * 2 + 2 ≤ (rsV l).length := by rw [rsV_length]; omega
theorem snoc_rs (l : List Rn) (m : Rn) : rsV l ++ rcV m = rsV (l ++ [m]) := by rw [rsV_append]; rfl
theorem snocr_ls (b : Nat) (l : List Rn) (m : Rn) : SV.ls b (l.length + 1) = SV.ls b (l ++ [m]).length := by rw [List.length_append]; rfl
theorem snocr_row (l : List Rn) (m : Rn) : some (SV.row 36 2 (l.length + 1) (rsV l ++ rcV m)) = some (rowRs (l ++ [m])) := by rw [snoc_rs, rowRs, List.length_append]; rfl
theorem chx {uu : List Rn} {k : Nat} (h : uu.length = k) : SV.ls 5 ((k : Int).toNat) = (SV.ls 2 uu.length).ren (renN [(2, 5)]) := by subst h; rfl
theorem chrow {uu : List Rn} {k : Nat} {ys : List Value} (h : uu.length = k) (hy : ys.take (k * 2) = rsV uu) : some (SV.row 36 2 ((k : Int).toNat) (ys.take ((k : Int).toNat * 2))) = some (rowRs uu) := by
  subst h
  show some (SV.row _ 2 uu.length (ys.take (uu.length * 2))) = _
  rw [hy]
theorem lcat_x (c d : List Ld) : SV.ls 5 (0 + c.length + d.length) = (SV.ls 3 (c ++ d).length).ren (renN [(3, 5)]) := by rw [Nat.zero_add, ← List.length_append]; rfl
theorem lcat_row (c d : List Ld) : some (SV.row 57 3 (0 + c.length + d.length) ([] ++ ldsV c ++ ldsV d)) = some (rowL (c ++ d)) := by rw [Nat.zero_add, List.nil_append, ← ldsV_append, rowL, List.length_append]
set_option maxRecDepth 100000 in
theorem lgrow {z : Int} (h0 : decide (z < 0) = false) (hs : Value.int .i64 (IntKind.i64.wrap (z - 0)) = .int .i64 (z)) (hg : decide (z > 0) = true) (a0 : 0 ≤ z) (a1 : z ≤ 1000000) :
    FnL Tryz.prog 145 0 [.pv (.slice none 0 0), .pv (.int .i64 (z))] [] (.ls 0 0) 1 [(0, 0, .row 57 3 0 [])] :=
  fnl_run 300 [(0, 1)] [.t false, .k, .r (.int .i64 (z)), .t true, .w []]
     (reflH (renN [(0, 1)]) [(0, 0, .row 57 3 0 [])]) (And.intro h0 (And.intro hs (And.intro hg (And.intro a0 (And.intro a1 (And.intro (Int.le_refl (0 : Int)) (And.intro (Nat.zero_le z.toNat) True.intro))))))) (by kernel_rfl)

set_option maxRecDepth 100000 in
theorem lcat {ca cb : List Ld} (q1 : Value.int .i64 (IntKind.i64.wrap ((0 : Int) + (ca.length : Int))) = .int .i64 ((ca.length : Int))) (n1 : decide ((ca.length : Int) < 0) = false) (q2 : Value.int .i64 (IntKind.i64.wrap ((ca.length : Int) + (cb.length : Int))) = .int .i64 (((ca.length + cb.length : Nat) : Int))) (n2 : decide (((ca.length + cb.length : Nat) : Int) < 0) = false) (hgr : FnL Tryz.prog 145 0 [.pv (.slice none 0 0), .pv (.int .i64 (((ca.length + cb.length : Nat) : Int)))] [] (.ls 0 0) 1 [(0, 0, .row 57 3 0 [])]) (a1 : 0 + ca.length ≤ 1000000) (a2 : 0 + ca.length + cb.length ≤ 1000000) :
    FnL Tryz.prog 103 3 [.ps 2 0 2 2] [(2, 0, .ls 0 ca.length), (2, 1, .ls 1 cb.length), (0, 0, rowL ca), (1, 0, rowL cb)] (.ls 3 (ca ++ cb).length) 1 [(3, 0, rowL (ca ++ cb))] :=
  fnl_runX 300 [(3, 5)] [.k, .r (.int .i64 ((ca.length : Int))), .t false, .k, .k, .r (.int .i64 (((ca.length + cb.length : Nat) : Int))), .t false, .k, .k, .f [] [.pv (.slice none 0 0), .pv (.int .i64 (((ca.length + cb.length : Nat) : Int)))] [] (.ls 0 0) 1 [(0, 0, .row 57 3 0 [])], .k, .k, .k, .k, .k]
    (lcat_x ca cb) (And.intro (lcat_row ca cb) True.intro) (And.intro q1 (And.intro n1 (And.intro q2 (And.intro n2 (And.intro hgr (And.intro (Eq.refl (List.map (SV.ren (renU [] 3)) [.pv (.slice none 0 0), .pv (.int .i64 (((ca.length + cb.length : Nat) : Int)))])) (And.intro (reflH (renU [] 3) []) (And.intro a1 (And.intro a2 True.intro))))))))) (by kernel_rfl)

set_option maxRecDepth 100000 in
theorem ch_next {zl : List Ld} {sa : List Rn} {m : Ld} {k : Nat} (hk : zl[k]? = some m) (hin : 0 ≤ (k : Int) ∧ (k : Int) < (zl.length : Int)) (hl : sa.length + 1 ≤ 1000000) (hlt : decide ((k : Int) < (zl.length : Int)) = true) (hs : Value.int .i64 (IntKind.i64.wrap ((k : Int) + 1)) = .int .i64 (((k + 1 : Nat) : Int))) {e : Exit} {tm2 : List (Nat × SV)} {hp2 : List (Nat × Nat × SV)}
    (r : RunsL Tryz.prog 2 2 (loopOf Tryz.prog 56 0) 27 5 ([(5, .ls 4 (sa ++ [(Rn.mk m.n m.d)]).length), (11, .ls 3 zl.length), (12, .pv (.int .i64 (zl.length : Int))), (13, .pv (.int .i64 ((k + 1 : Nat) : Int)))]) ([(3, 0, rowL zl), (4, 0, rowRs (sa ++ [(Rn.mk m.n m.d)]))]) e tm2 hp2) : RunsL Tryz.prog 2 2 (loopOf Tryz.prog 56 0) 27 5 ([(5, .ls 4 (sa).length), (11, .ls 3 zl.length), (12, .pv (.int .i64 (zl.length : Int))), (13, .pv (.int .i64 (k : Int)))]) ([(3, 0, rowL zl), (4, 0, rowRs (sa))]) e tm2 hp2 :=
  RunsL.next [(4, 7)] 300 [.t true, .r (leadV m), .r (.int .i64 (((k + 1 : Nat) : Int)))]
    (round_ofTH (And.intro (snocr_ls 7 sa (Rn.mk m.n m.d)) (And.intro (Eq.refl (SV.ls 3 zl.length)) (And.intro (Eq.refl (SV.pv (.int .i64 (zl.length : Int)))) (And.intro (Eq.refl (SV.pv (.int .i64 ((k + 1 : Nat) : Int)))) True.intro)))) (And.intro (Eq.refl (some (rowL zl))) (And.intro (snocr_row sa (Rn.mk m.n m.d)) True.intro)) (And.intro hlt (And.intro hin (And.intro (ra_ld hk) (And.intro hl (And.intro hs True.intro))))) (by kernel_rfl)) r

set_option maxRecDepth 100000 in
theorem ch_end {zl : List Ld} {sa : List Rn} {k : Nat} (hge : decide ((k : Int) < (zl.length : Int)) = false) : RunsL Tryz.prog 2 2 (loopOf Tryz.prog 56 0) 27 5 ([(5, .ls 4 (sa).length), (11, .ls 3 zl.length), (12, .pv (.int .i64 (zl.length : Int))), (13, .pv (.int .i64 (k : Int)))]) ([(3, 0, rowL zl), (4, 0, rowRs (sa))]) (.exit 0) ([(5, .ls 4 sa.length)]) ([(4, 0, rowRs sa)]) :=
  RunsL.stop [] 300 [.t false] (fun h => by cases h)
    (round_of (And.intro hge True.intro) (by kernel_rfl))

set_option maxRecDepth 100000 in
theorem cp_same {wv : List Rn} {rx ry : Rn} {k jj nn : Nat} (hj : 0 ≤ ((jj + 1 : Nat) : Int) ∧ ((jj + 1 : Nat) : Int) < ((nn - 1 : Nat) : Int)) (hj0 : 0 ≤ (jj : Int) ∧ (jj : Int) < ((nn - 1 : Nat) : Int)) (hx : wv[jj + 1 + 1]? = some rx) (hy : wv[jj + 1]? = some ry) (hlt : decide (((jj + 1 : Nat) : Int) < ((nn - 1 : Nat) : Int)) = true) (hm : Value.int .i64 (IntKind.i64.wrap (((jj + 1 : Nat) : Int) - 1)) = .int .i64 ((jj : Int))) (hq : (!(rx.n == ry.n && (rx.d == ry.d && true))) = false) (hsj : Value.int .i64 (IntKind.i64.wrap (((jj + 1 : Nat) : Int) + 1)) = .int .i64 (((jj + 1 + 1 : Nat) : Int))) {e : Exit} {tm2 : List (Nat × SV)} {hp2 : List (Nat × Nat × SV)}
    (r : RunsL Tryz.prog 2 5 (loopOf Tryz.prog 106 1) 61 5 ([(0, .ls 4 nn), (3, .pv (.int .i64 (k : Int))), (4, .lq 4 2 (0 + 1) (nn - 1)), (5, .pv (.int .i64 ((jj + 1 + 1 : Nat) : Int)))]) ([(4, 0, .row 36 2 nn (rsV (wv)))]) e tm2 hp2) : RunsL Tryz.prog 2 5 (loopOf Tryz.prog 106 1) 61 5 ([(0, .ls 4 nn), (3, .pv (.int .i64 (k : Int))), (4, .lq 4 2 (0 + 1) (nn - 1)), (5, .pv (.int .i64 ((jj + 1 : Nat) : Int)))]) ([(4, 0, .row 36 2 nn (rsV (wv)))]) e tm2 hp2 :=
  RunsL.next [] 300 [.t true, .r (ratioV rx.n rx.d), .r (.int .i64 ((jj : Int))), .r (ratioV ry.n ry.d), .t false, .r (.int .i64 (((jj + 1 + 1 : Nat) : Int)))]
    (round_of (And.intro hlt (And.intro hj (And.intro (ra_rs1 hx) (And.intro hm (And.intro hj0 (And.intro (ra_rs1 hy) (And.intro hq (And.intro hsj True.intro)))))))) (by kernel_rfl)) r

set_option maxRecDepth 100000 in
theorem cp_new {wv : List Rn} {rx ry : Rn} {k jj nn : Nat} (hj : 0 ≤ ((jj + 1 : Nat) : Int) ∧ ((jj + 1 : Nat) : Int) < ((nn - 1 : Nat) : Int)) (hj0 : 0 ≤ (jj : Int) ∧ (jj : Int) < ((nn - 1 : Nat) : Int)) (hx : wv[jj + 1 + 1]? = some rx) (hy : wv[jj + 1]? = some ry) (hlt : decide (((jj + 1 : Nat) : Int) < ((nn - 1 : Nat) : Int)) = true) (hm : Value.int .i64 (IntKind.i64.wrap (((jj + 1 : Nat) : Int) - 1)) = .int .i64 ((jj : Int))) (hq : (!(rx.n == ry.n && (rx.d == ry.d && true))) = true) (hk : 0 ≤ (k : Int) ∧ (k : Int) < (nn : Int)) (hkl : k < wv.length) (hs : Value.int .i64 (IntKind.i64.wrap ((k : Int) + 1)) = .int .i64 (((k + 1 : Nat) : Int))) (hsj : Value.int .i64 (IntKind.i64.wrap (((jj + 1 : Nat) : Int) + 1)) = .int .i64 (((jj + 1 + 1 : Nat) : Int))) {e : Exit} {tm2 : List (Nat × SV)} {hp2 : List (Nat × Nat × SV)}
    (r : RunsL Tryz.prog 2 5 (loopOf Tryz.prog 106 1) 61 5 ([(0, .ls 4 nn), (3, .pv (.int .i64 ((k + 1 : Nat) : Int))), (4, .lq 4 2 (0 + 1) (nn - 1)), (5, .pv (.int .i64 ((jj + 1 + 1 : Nat) : Int)))]) ([(4, 0, .row 36 2 nn (rsV (wv.set k rx)))]) e tm2 hp2) : RunsL Tryz.prog 2 5 (loopOf Tryz.prog 106 1) 61 5 ([(0, .ls 4 nn), (3, .pv (.int .i64 (k : Int))), (4, .lq 4 2 (0 + 1) (nn - 1)), (5, .pv (.int .i64 ((jj + 1 : Nat) : Int)))]) ([(4, 0, .row 36 2 nn (rsV (wv)))]) e tm2 hp2 :=
  RunsL.next [] 300 [.t true, .r (ratioV rx.n rx.d), .r (.int .i64 ((jj : Int))), .r (ratioV ry.n ry.d), .t true, .r (ratioV rx.n rx.d), .w (rsV (wv.set k rx)), .r (.int .i64 (((k + 1 : Nat) : Int))), .r (.int .i64 (((jj + 1 + 1 : Nat) : Int)))]
    (round_of (And.intro hlt (And.intro hj (And.intro (ra_rs1 hx) (And.intro hm (And.intro hj0 (And.intro (ra_rs1 hy) (And.intro hq (And.intro hj (And.intro (ra_rs1 hx) (And.intro hk (And.intro (setR_row wv k rx hkl) (And.intro (setR_in wv k hkl) (And.intro hs (And.intro hsj True.intro)))))))))))))) (by kernel_rfl)) r

set_option maxRecDepth 100000 in
theorem cp_end {wv : List Rn} {k jj nn : Nat} (hge : decide (((jj + 1 : Nat) : Int) < ((nn - 1 : Nat) : Int)) = false) : RunsL Tryz.prog 2 5 (loopOf Tryz.prog 106 1) 61 5 ([(0, .ls 4 nn), (3, .pv (.int .i64 (k : Int))), (4, .lq 4 2 (0 + 1) (nn - 1)), (5, .pv (.int .i64 ((jj + 1 : Nat) : Int)))]) ([(4, 0, .row 36 2 nn (rsV (wv)))]) (.exit 2) ([(0, .ls 4 nn), (3, .pv (.int .i64 (k : Int)))]) ([(4, 0, .row 36 2 nn (rsV (wv)))]) :=
  RunsL.stop [] 300 [.t false] (fun h => by cases h)
    (round_of (And.intro hge True.intro) (by kernel_rfl))

set_option maxRecDepth 100000 in
theorem ch_path {ca cb : List Ld} {sb su sw uu : List Rn} {rx ry : Rn} {k : Nat} {ys : List Value} (hcat : FnL Tryz.prog 103 3 [.ps 2 0 2 2] [(2, 0, .ls 0 ca.length), (2, 1, .ls 1 cb.length), (0, 0, rowL ca), (1, 0, rowL cb)] (.ls 3 (ca ++ cb).length) 1 [(3, 0, rowL (ca ++ cb))]) (r0 : RunsL Tryz.prog 2 2 (loopOf Tryz.prog 56 0) 27 5 ([(5, .ls 4 (([] : List Rn)).length), (11, .ls 3 (ca ++ cb).length), (12, .pv (.int .i64 ((ca ++ cb).length : Int))), (13, .pv (.int .i64 ((0 : Nat) : Int)))]) ([(3, 0, rowL (ca ++ cb)), (4, 0, rowRs (([] : List Rn)))]) (.exit 0) ([(5, .ls 4 sb.length)]) ([(4, 0, rowRs sb)])) (hso : FnM Tryz.prog 104 1 [.ls 0 sb.length, .pv cmpV] [(0, 0, rowRs sb)] (.tuple #[]) 0 ⟨36, 2, sb.length, rsV sb⟩ (rsV su)) (c0 : decide ((sb.length : Int) < 2) = false) (c1 : decide (1 < (sb.length : Int)) = true) (i1 : 0 ≤ (1 : Int) ∧ (1 : Int) < (sb.length : Int)) (i0 : 0 ≤ (0 : Int) ∧ (0 : Int) < (sb.length : Int)) (hx1 : su[1]? = some rx) (hx0 : su[0]? = some ry) (hq : (rx.n == ry.n && (rx.d == ry.d && true)) = true) (hn : 1 ≤ sb.length) (r1 : RunsL Tryz.prog 2 5 (loopOf Tryz.prog 106 1) 61 5 ([(0, .ls 4 sb.length), (3, .pv (.int .i64 ((1 : Nat) : Int))), (4, .lq 4 2 (0 + 1) (sb.length - 1)), (5, .pv (.int .i64 ((0 + 1 : Nat) : Int)))]) ([(4, 0, .row 36 2 sb.length (rsV (su)))]) (.exit 2) ([(0, .ls 4 sb.length), (3, .pv (.int .i64 (k : Int)))]) ([(4, 0, .row 36 2 sb.length (rsV (sw)))])) (hk : k ≤ sb.length) (hy : ys = setL (rsV sw) ((0 + k) * 2) (repL [.int .i64 0, .int .i64 0] (sb.length - k))) (hp : 0 < sb.length - k) (hb : (0 + k) * 2 + ((repL [.int .i64 0, .int .i64 0] (sb.length - k))).length ≤ (rsV sw).length) (hu : uu.length = k) (hyu : ys.take (k * 2) = rsV uu) :
    FnL Tryz.prog 56 2 [.ls 0 ca.length, .ls 1 cb.length] [(0, 0, rowL ca), (1, 0, rowL cb)] (.ls 2 uu.length) 1 [(2, 0, rowRs uu)] :=
  fnl_runX 300 [(2, 5)] [.f [0,1,2] [.ps 2 0 2 2] [(2, 0, .ls 0 ca.length), (2, 1, .ls 1 cb.length), (0, 0, rowL ca), (1, 0, rowL cb)] (.ls 3 (ca ++ cb).length) 1 [(3, 0, rowL (ca ++ cb))], .ln true 5 0 36 2, .l (.exit 0) ([(5, .ls 4 (([] : List Rn)).length), (11, .ls 3 (ca ++ cb).length), (12, .pv (.int .i64 ((ca ++ cb).length : Int))), (13, .pv (.int .i64 ((0 : Nat) : Int)))]) ([(3, 0, rowL (ca ++ cb)), (4, 0, rowRs (([] : List Rn)))]) ([(5, .ls 4 sb.length)]) ([(4, 0, rowRs sb)]), .m [4] [.ls 0 sb.length, .pv cmpV] [(0, 0, rowRs sb)] (.tuple #[]) 0 (rsV su), .k, .t false, .t true, .r (ratioV rx.n rx.d), .k, .r (ratioV ry.n ry.d), .t true, .k, .l (.exit 2) ([(0, .ls 4 sb.length), (3, .pv (.int .i64 ((1 : Nat) : Int))), (4, .lq 4 2 (0 + 1) (sb.length - 1)), (5, .pv (.int .i64 ((0 + 1 : Nat) : Int)))]) ([(4, 0, .row 36 2 sb.length (rsV (su)))]) ([(0, .ls 4 sb.length), (3, .pv (.int .i64 (k : Int)))]) ([(4, 0, .row 36 2 sb.length (rsV (sw)))]), .k, .w ys, .w []]
    (chx hu) (And.intro (chrow hu hyu) True.intro) (And.intro hcat (And.intro (Eq.refl (List.map (SV.ren (renU [0,1,2] 3)) [.ps 2 0 2 2])) (And.intro (reflH (renU [0,1,2] 3) [(2, 0, .ls 0 ca.length), (2, 1, .ls 1 cb.length), (0, 0, rowL ca), (1, 0, rowL cb)]) (And.intro (reflT (renN []) ([(5, .ls 4 (([] : List Rn)).length), (11, .ls 3 (ca ++ cb).length), (12, .pv (.int .i64 ((ca ++ cb).length : Int))), (13, .pv (.int .i64 ((0 : Nat) : Int)))])) (And.intro (reflH (renN []) ([(3, 0, rowL (ca ++ cb)), (4, 0, rowRs (([] : List Rn)))])) (And.intro r0 (And.intro hso (And.intro (Eq.refl (List.map (SV.ren (renU [4] 5)) [.ls 0 sb.length, .pv cmpV])) (And.intro (reflH (renU [4] 5) [(0, 0, rowRs sb)]) (And.intro c0 (And.intro c1 (And.intro i1 (And.intro (ra_rs hx1) (And.intro i0 (And.intro (ra_rs hx0) (And.intro hq (And.intro (Int.le_of_lt Int.zero_lt_one) (And.intro True.intro (And.intro hn (And.intro (Nat.le_refl sb.length) (And.intro (reflT (renN []) ([(0, .ls 4 sb.length), (3, .pv (.int .i64 ((1 : Nat) : Int))), (4, .lq 4 2 (0 + 1) (sb.length - 1)), (5, .pv (.int .i64 ((0 + 1 : Nat) : Int)))])) (And.intro (reflH (renN []) ([(4, 0, .row 36 2 sb.length (rsV (su)))])) (And.intro r1 (And.intro (Int.natCast_nonneg k) (And.intro True.intro (And.intro hk (And.intro (Nat.le_refl sb.length) (And.intro hy (And.intro hp (And.intro hb (And.intro (Int.natCast_nonneg k) (And.intro hk True.intro)))))))))))))))))))))))))))))))) (by kernel_rfl)
end Go.Proofs.YtpngjeloiifgnaaGreat

namespace Go.Proofs.YtpngjeloiifgnaaGreat
open Go.RowKit Go.Sort
def frm (x : Ld) : Rn := ⟨x.n, x.d⟩
def sameR (x y : Rn) : Bool := x.n == y.n && (x.d == y.d && true)
theorem sameR_eq {x y : Rn} : sameR x y = true ↔ x = y := by
  cases x; cases y
  simp [sameR]
/-- A list without the values that are as the one before. -/
def cmpA (y : Rn) : List Rn → List Rn
  | [] => []
  | x :: r => if sameR x y = true then cmpA x r else x :: cmpA x r
theorem cmpA_len : ∀ (r : List Rn) (y : Rn), (cmpA y r).length ≤ r.length
  | [], _ => Nat.le_refl _
  | x :: r, y => by
    unfold cmpA
    split
    · have := cmpA_len r x; simp; omega
    · have := cmpA_len r x; simp; omega
theorem rsV_take : ∀ (l : List Rn) (k : Nat), (rsV l).take (k * 2) = rsV (l.take k)
  | [], k => by simp [rsV]
  | m :: r, 0 => by simp [rsV]
  | m :: r, k + 1 => by
    rw [show (k + 1) * 2 = k * 2 + 1 + 1 by omega]
    simp only [rsV, List.take_succ_cons]
    rw [rsV_take r k]
theorem cp_run {n : Nat} (hbig : n ≤ 100000) : ∀ (r : List Rn) (y : Rn) (j k : Nat) (wv : List Rn), wv.length = n → wv.drop (j + 1) = y :: r → k ≤ j + 1 →
    ∃ k' sw, RunsL Tryz.prog 2 5 (loopOf Tryz.prog 106 1) 61 5 ([(0, .ls 4 n), (3, .pv (.int .i64 (k : Int))), (4, .lq 4 2 (0 + 1) (n - 1)), (5, .pv (.int .i64 ((j + 1 : Nat) : Int)))]) ([(4, 0, .row 36 2 n (rsV (wv)))]) (.exit 2) ([(0, .ls 4 n), (3, .pv (.int .i64 ((k' : Nat) : Int)))]) ([(4, 0, .row 36 2 n (rsV (sw)))]) ∧
      sw.length = n ∧ sw.take k' = wv.take k ++ cmpA y r ∧ k' = k + (cmpA y r).length := by
  intro r
  induction r with
  | nil =>
    intro y j k wv hl hd hk
    have hlen : wv.length - (j + 1) = 1 := by rw [← List.length_drop, hd]; rfl
    exact ⟨k, wv, cp_end (df (by omega)), hl, by simp [cmpA], by simp [cmpA]⟩
  | cons x r ih =>
    intro y j k wv hl hd hk
    have hlen : wv.length - (j + 1) = r.length + 2 := by rw [← List.length_drop, hd]; simp
    have hy : wv[j + 1]? = some y := by have := congrArg (·[0]?) hd; simpa using this
    have hx : wv[j + 1 + 1]? = some x := by have := congrArg (·[1]?) hd; simpa [Nat.add_assoc] using this
    have hd2 : wv.drop (j + 1 + 1) = x :: r := by rw [← List.drop_drop, hd]; rfl
    have h1 : 0 ≤ ((j + 1 : Nat) : Int) ∧ ((j + 1 : Nat) : Int) < ((n - 1 : Nat) : Int) := ⟨by omega, by omega⟩
    have h0 : 0 ≤ (j : Int) ∧ (j : Int) < ((n - 1 : Nat) : Int) := ⟨by omega, by omega⟩
    have w1 : Value.int .i64 (IntKind.i64.wrap (((j + 1 : Nat) : Int) - 1)) = .int .i64 ((j : Int)) := by rw [wrap_i64_in (by omega) (by omega)]; congr 1; omega
    have w2 : Value.int .i64 (IntKind.i64.wrap (((j + 1 : Nat) : Int) + 1)) = .int .i64 (((j + 1 + 1 : Nat) : Int)) := by rw [wrap_i64_in (by omega) (by omega)]; congr 1
    by_cases hs : sameR x y = true
    · obtain ⟨k', sw, h2, h3, h4, h5⟩ := ih x (j + 1) k wv hl hd2 (by omega)
      refine ⟨k', sw, cp_same h1 h0 hx hy (dt h1.2) w1 (by rw [show (x.n == y.n && (x.d == y.d && true)) = true from hs]; rfl) w2 h2, h3, ?_, ?_⟩
      · rw [h4]; conv => rhs; rw [cmpA, if_pos hs]
      · rw [h5]; conv => rhs; rw [cmpA, if_pos hs]
    · have hs' : (x.n == y.n && (x.d == y.d && true)) = false := by simpa [sameR] using hs
      have hkl : k < wv.length := by omega
      have w3 : Value.int .i64 (IntKind.i64.wrap ((k : Int) + 1)) = .int .i64 (((k + 1 : Nat) : Int)) := by rw [wrap_i64_in (by omega) (by omega)]; congr 1
      obtain ⟨k', sw, h2, h3, h4, h5⟩ := ih x (j + 1) (k + 1) (wv.set k x) (by simpa using hl) (by rw [List.drop_set_of_lt (by omega)]; exact hd2) (by omega)
      refine ⟨k', sw, cp_new h1 h0 hx hy (dt h1.2) w1 (by rw [hs']; rfl) ⟨by omega, by omega⟩ hkl w3 w2 h2, h3, ?_, ?_⟩
      · rw [h4]
        conv => rhs; rw [cmpA, if_neg hs]
        rw [List.take_add_one, List.getElem?_set_self hkl, List.take_set_of_le (Nat.le_refl k)]
        simp
      · rw [h5]; conv => rhs; rw [cmpA, if_neg hs]
        simp; omega
theorem chA_run {zl : List Ld} (hz : zl.length ≤ 100000) : RunsL Tryz.prog 2 2 (loopOf Tryz.prog 56 0) 27 5 ([(5, .ls 4 (([] : List Rn)).length), (11, .ls 3 zl.length), (12, .pv (.int .i64 (zl.length : Int))), (13, .pv (.int .i64 ((0 : Nat) : Int)))]) ([(3, 0, rowL zl), (4, 0, rowRs (([] : List Rn)))]) (.exit 0) ([(5, .ls 4 (zl.map frm).length)]) ([(4, 0, rowRs (zl.map frm))]) := by
  have key : ∀ (r : Nat) (k : Nat), k + r = zl.length → RunsL Tryz.prog 2 2 (loopOf Tryz.prog 56 0) 27 5 ([(5, .ls 4 ((zl.take k).map frm).length), (11, .ls 3 zl.length), (12, .pv (.int .i64 (zl.length : Int))), (13, .pv (.int .i64 (k : Int)))]) ([(3, 0, rowL zl), (4, 0, rowRs ((zl.take k).map frm))]) (.exit 0) ([(5, .ls 4 (zl.map frm).length)]) ([(4, 0, rowRs (zl.map frm))]) := by
    intro r
    induction r with
    | zero =>
      intro k hk
      rw [List.take_of_length_le (by omega)]
      exact ch_end (df (by omega))
    | succ r ih =>
      intro k hk
      obtain ⟨m, hm⟩ := get_some (l := zl) (k := k) (by omega)
      refine ch_next hm ⟨by omega, by omega⟩ (by simp; omega) (dt (by omega)) (by rw [wrap_i64_in (by omega) (by omega)]; congr 1) ?_
      have e : (zl.take (k + 1)).map frm = (zl.take k).map frm ++ [Rn.mk m.n m.d] := by
        rw [List.take_add_one, hm, List.map_append]; rfl
      rw [← e]
      exact ih (k + 1) (by omega)
  exact key zl.length 0 (by omega)
theorem Lcat_ok {ca cb : List Ld} (h : (ca ++ cb).length ≤ 100000) (h0 : 0 < (ca ++ cb).length) : FnL Tryz.prog 103 3 [.ps 2 0 2 2] [(2, 0, .ls 0 ca.length), (2, 1, .ls 1 cb.length), (0, 0, rowL ca), (1, 0, rowL cb)] (.ls 3 (ca ++ cb).length) 1 [(3, 0, rowL (ca ++ cb))] := by
  rw [List.length_append] at h h0
  exact lcat (by rw [wrap_i64_in (by omega) (by omega)]; congr 1; omega) (df (by omega)) (by rw [wrap_i64_in (by omega) (by omega)]; congr 1) (df (by omega))
    (lgrow (df (by omega)) (by rw [Int.sub_zero, wrap_i64_in (by omega) (by omega)]) (dt (by omega)) (by omega) (by omega)) (by omega) (by omega)
theorem setL_takeq (xs us : List Value) (q : Nat) (h : q ≤ xs.length) : (setL xs q us).take q = xs.take q := by
  unfold setL
  rw [List.append_assoc, List.take_append_of_le_length (by rw [List.length_take]; omega), List.take_take, Nat.min_self]
/-- The contract of changes: two crests that begin at the same time. -/
theorem Chg_ok {ca cb : List Ld} {y : Rn} {rs : List Rn} (hok : ∀ x ∈ ca ++ cb, RnOk (frm x)) (hlen : (ca ++ cb).length ≤ 100000) (hp : (y :: y :: rs).Perm ((ca ++ cb).map frm)) (hs : (y :: y :: rs).Pairwise (fun a b => 0 ≤ ordR b a)) :
    FnL Tryz.prog 56 2 [.ls 0 ca.length, .ls 1 cb.length] [(0, 0, rowL ca), (1, 0, rowL cb)] (.ls 2 (y :: cmpA y rs).length) 1 [(2, 0, rowRs (y :: cmpA y rs))] := by
  have hl : rs.length + 2 = (ca ++ cb).length := by have := hp.length_eq; simpa using this
  have hsb : ((ca ++ cb).map frm).length = (ca ++ cb).length := by simp
  have hX : ∀ m ∈ (ca ++ cb).map frm, RnOk m := by
    intro m hm
    obtain ⟨x, hx, rfl⟩ := List.mem_map.1 hm
    exact hok x hx
  obtain ⟨k', sw, h1, h2, h3, h4⟩ := cp_run (n := ((ca ++ cb).map frm).length) (by omega) rs y 0 1 (y :: y :: rs) (by rw [hsb]; simpa using hl) rfl (by omega)
  have h3' : sw.take k' = y :: cmpA y rs := h3
  have hcl := cmpA_len rs y
  have hkb : k' ≤ ((ca ++ cb).map frm).length := by omega
  refine ch_path (sb := (ca ++ cb).map frm) (su := y :: y :: rs) (sw := sw) (rx := y) (ry := y) (k := k') (Lcat_ok hlen (by omega)) (chA_run hlen) (SortR_any hX (by omega) hp hs) (df (by omega)) (dt (by omega)) ⟨by omega, by omega⟩ ⟨by omega, by omega⟩ rfl rfl (sameR_eq.2 rfl) (by omega) h1 hkb rfl (by omega) ?_ (by simp; omega) ?_
  · rw [repL_length, rsV_length, h2]
    simp only [List.length_cons, List.length_nil]
    omega
  · rw [Nat.zero_add, setL_takeq _ _ _ (by rw [rsV_length, h2]; omega), rsV_take, h3']
end Go.Proofs.YtpngjeloiifgnaaGreat
