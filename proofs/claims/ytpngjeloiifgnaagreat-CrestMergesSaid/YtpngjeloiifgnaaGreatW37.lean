/-
  Joined: Ha, Hc, Hb. Conditions: none.
-/
import Derived.Test.YtpngjeloiifgnaaGreatW36
import Derived.Shelf.SlSortCmp.NoneTotal
import Derived.Test.YtpngjeloiifgnaaGreatW31
namespace Go.Proofs.YtpngjeloiifgnaaGreat
open Go.RowKit
structure Ld where
  n : Int
  d : Int
  id : Int
abbrev leadV (x : Ld) : Value := .agg #[.int .i64 x.n, .int .i64 x.d, .int .i64 x.id]
abbrev lcV (x : Ld) : List Value := [.int .i64 x.n, .int .i64 x.d, .int .i64 x.id]
def ldsV : List Ld → List Value
  | [] => []
  | m :: r => .int .i64 m.n :: .int .i64 m.d :: .int .i64 m.id :: ldsV r
theorem ldsV_append : ∀ (a b : List Ld), ldsV (a ++ b) = ldsV a ++ ldsV b
  | [], _ => rfl
  | p :: r, b => by simp [ldsV, ldsV_append r b]
theorem ldsV_length : ∀ (l : List Ld), (ldsV l).length = l.length * 3
  | [] => rfl
  | p :: r => by simp [ldsV, ldsV_length r]; omega
theorem ldsV_get : ∀ {l : List Ld} {k : Nat} {m : Ld}, l[k]? = some m → (ldsV l)[k * 3]? = some (.int .i64 m.n) ∧ (ldsV l)[k * 3 + 1]? = some (.int .i64 m.d) ∧ (ldsV l)[k * 3 + 2]? = some (.int .i64 m.id)
  | [], k, p, h => by simp at h
  | q :: r, 0, p, h => by simp at h; subst h; exact ⟨rfl, rfl, rfl⟩
  | q :: r, k + 1, p, h => by
    have := ldsV_get (l := r) (k := k) (m := p) (by simpa using h)
    rw [show (k + 1) * 3 = k * 3 + 1 + 1 + 1 by omega]
    exact this
theorem ra_ld {l : List Ld} {k : Nat} {m : Ld} (h : l[k]? = some m) : rowAt (ldsV l) (0 * 3 + k * 3) (lcV m) := by
  obtain ⟨h1, h2, h3⟩ := ldsV_get h
  intro j v hj
  rw [show 0 * 3 + k * 3 + j = k * 3 + j by omega]
  match j, hj with
  | 0, hj => cases hj; exact h1
  | 1, hj => cases hj; exact h2
  | 2, hj => cases hj; exact h3
  | j + 3, hj => simp at hj
theorem ra_lf {l : List Ld} {k : Nat} {m : Ld} (h : l[k]? = some m) : rowAt (ldsV l) (0 * 3 + k * 3) [.int .i64 m.n, .int .i64 m.d] := by
  obtain ⟨h1, h2, h3⟩ := ldsV_get h
  intro j v hj
  rw [show 0 * 3 + k * 3 + j = k * 3 + j by omega]
  match j, hj with
  | 0, hj => cases hj; exact h1
  | 1, hj => cases hj; exact h2
  | j + 2, hj => simp at hj
theorem ra_li {l : List Ld} {k : Nat} {m : Ld} (h : l[k]? = some m) : rowAt (ldsV l) (0 * 3 + k * 3 + 2) [.int .i64 m.id] := by
  obtain ⟨h1, h2, h3⟩ := ldsV_get h
  intro j v hj
  match j, hj with
  | 0, hj => cases hj; rw [show 0 * 3 + k * 3 + 2 + 0 = k * 3 + 2 by omega]; exact h3
  | j + 1, hj => simp at hj
theorem lds_one : ∀ (l : List Ld), ∀ v ∈ ldsV l, v.oneCell' = true
  | [], v, h => by cases h
  | m :: r, v, h => by
    simp only [ldsV, List.mem_cons] at h
    rcases h with rfl | rfl | rfl | h
    · rfl
    · rfl
    · rfl
    · exact lds_one r v h
abbrev rowL (l : List Ld) : SV := .row 57 3 l.length (ldsV l)
theorem snoc_ld (l : List Ld) (m : Ld) : ldsV l ++ lcV m = ldsV (l ++ [m]) := by rw [ldsV_append]; rfl
theorem snocl_ls (b : Nat) (l : List Ld) (m : Ld) : SV.ls b (l.length + 1) = SV.ls b (l ++ [m]).length := by rw [List.length_append]; rfl
theorem snocl_row (l : List Ld) (m : Ld) : some (SV.row 57 3 (l.length + 1) (ldsV l ++ lcV m)) = some (rowL (l ++ [m])) := by rw [snoc_ld, rowL, List.length_append]; rfl
set_option maxRecDepth 100000 in
theorem ccmp_path {an ad bn bd k e : Int} (h : Pure Tryz.prog 49 #[ratioV an ad, ratioV bn bd] (.tuple #[.int .i64 k, .int .i64 e])) : Pure Tryz.prog 105 #[ratioV an ad, ratioV bn bd] (.int .i64 k) :=
  pure_run (args := [ratioV an ad, ratioV bn bd]) 200 [.r (.tuple #[.int .i64 k, .int .i64 e])] (And.intro rfl (And.intro h True.intro)) (by kernel_rfl)
set_option maxRecDepth 100000 in
theorem cbef_path {an ad bn bd k : Int} {b : Bool} (h : Pure Tryz.prog 105 #[ratioV an ad, ratioV bn bd] (.int .i64 k)) (hb : decide (k < 0) = b) : Pure Tryz.prog 61 #[ratioV an ad, ratioV bn bd] (.bool b) :=
  pure_run (args := [ratioV an ad, ratioV bn bd]) 200 [.r (.int .i64 k), .t b] (And.intro rfl (And.intro h (And.intro hb True.intro))) (by kernel_rfl)
set_option maxRecDepth 100000 in
theorem clost_path {p q : Pt} {n d m k e : Int} {s : Bool} (h : Pure Tryz.prog 109 #[ptV p, ptV q, ratioV n d] (.tuple #[ratioV m k, .bool s, .int .i64 e])) : Pure Tryz.prog 60 #[ptV p, ptV q, ratioV n d] (.tuple #[ratioV m k, .bool s]) :=
  pure_run (args := [ptV p, ptV q, ratioV n d]) 200 [.r (.tuple #[ratioV m k, .bool s, .int .i64 e])] (And.intro rfl (And.intro h True.intro)) (by kernel_rfl)
set_option maxRecDepth 100000 in
theorem clf_path {x : Ld} {n d k : Int} (h : Pure Tryz.prog 105 #[ratioV x.n x.d, ratioV n d] (.int .i64 k)) : Pure Tryz.prog 108 #[leadV x, ratioV n d] (.int .i64 k) :=
  pure_run (args := [leadV x, ratioV n d]) 200 [.r (.int .i64 k)] (And.intro rfl (And.intro h True.intro)) (by kernel_rfl)
section
variable {x y : Ld} {e : Int} {a b c : Bool}
set_option maxRecDepth 100000 in
theorem il_bad (h : Pure Tryz.prog 76 #[ratioV x.n x.d] (.int .i64 e)) (h1 : (e == 0) = false) : Pure Tryz.prog 53 #[leadV x] (.bool false) :=
  pure_run (args := [leadV x]) 200 [.r (.int .i64 e), .t false] (And.intro rfl (And.intro h (And.intro h1 True.intro))) (by kernel_rfl)
set_option maxRecDepth 100000 in
theorem il_lo (h : Pure Tryz.prog 76 #[ratioV x.n x.d] (.int .i64 0)) (h1 : decide (0 ≤ x.id) = false) : Pure Tryz.prog 53 #[leadV x] (.bool false) :=
  pure_run (args := [leadV x]) 200 [.r (.int .i64 0), .k, .t false] (And.intro rfl (And.intro h (And.intro h1 True.intro))) (by kernel_rfl)
set_option maxRecDepth 100000 in
theorem il_hi (h : Pure Tryz.prog 76 #[ratioV x.n x.d] (.int .i64 0)) (h1 : decide (0 ≤ x.id) = true) (h2 : decide (x.id ≤ 65535) = b) : Pure Tryz.prog 53 #[leadV x] (.bool b) :=
  pure_run (args := [leadV x]) 200 [.r (.int .i64 0), .k, .t true, .t b] (And.intro rfl (And.intro h (And.intro h1 (And.intro h2 True.intro)))) (by kernel_rfl)
set_option maxRecDepth 100000 in
theorem fo_no (h1 : (!(y.id == x.id)) = false) : Pure Tryz.prog 54 #[leadV y, leadV x] (.bool false) :=
  pure_run (args := [leadV y, leadV x]) 200 [.t false] (And.intro rfl (And.intro h1 True.intro)) (by kernel_rfl)
set_option maxRecDepth 100000 in
theorem fo_yes (h1 : (!(y.id == x.id)) = true) (h : Pure Tryz.prog 61 #[ratioV x.n x.d, ratioV y.n y.d] (.bool b)) : Pure Tryz.prog 54 #[leadV y, leadV x] (.bool b) :=
  pure_run (args := [leadV y, leadV x]) 200 [.t true, .r (.bool b)] (And.intro rfl (And.intro h1 (And.intro h True.intro))) (by kernel_rfl)
end
set_option maxRecDepth 100000 in
theorem cpt_path {l : List Pt} {p : Pt} {e : Int} {id : Int} (hf : FnL Tryz.prog 45 1 [fldS 0 l, .pv (.int .i64 (id))] [(0, 0, rowP l)] (.pv (.tuple #[ptV p, .int .i64 e])) 0 []) :
    FnL Tryz.prog 57 1 [fldS 0 l, .pv (.int .i64 (id))] [(0, 0, rowP l)] (.pv (ptV p)) 0 [] :=
  fnl_run 300 [] [.f [0] [fldS 0 l, .pv (.int .i64 (id))] [(0, 0, rowP l)] (.pv (.tuple #[ptV p, .int .i64 e])) 0 []]
     True.intro (And.intro hf (And.intro (Eq.refl (List.map (SV.ren (renU [0] 3)) [fldS 0 l, .pv (.int .i64 (id))])) (And.intro (reflH (renU [0] 3) [(0, 0, rowP l)]) True.intro))) (by kernel_rfl)

end Go.Proofs.YtpngjeloiifgnaaGreat

namespace Go.Proofs.YtpngjeloiifgnaaGreat
open Go.RowKit
theorem CCmp_ok {an ad bn bd : Int} (ha : I64 an) (hb : I64 ad) (hc : I64 bn) (hd : I64 bd) (h1 : okB an ad = true) (h2 : okB bn bd = true) : Pure Tryz.prog 105 #[ratioV an ad, ratioV bn bd] (.int .i64 (an * bd - bn * ad).sign) := ccmp_path (Cmp_ok ha hb hc hd h1 h2)
theorem CBef_ok {an ad bn bd : Int} (ha : I64 an) (hb : I64 ad) (hc : I64 bn) (hd : I64 bd) (h1 : okB an ad = true) (h2 : okB bn bd = true) : Pure Tryz.prog 61 #[ratioV an ad, ratioV bn bd] (.bool (decide ((an * bd - bn * ad).sign < 0))) := cbef_path (CCmp_ok ha hb hc hd h1 h2) rfl
theorem PT_ok {l : List Pt} (hv : Val l) {k : Nat} {p : Pt} (hk : l[k]? = some p) {id : Int} (he : p.id = id) : FnL Tryz.prog 57 1 [fldS 0 l, .pv (.int .i64 id)] [(0, 0, rowP l)] (.pv (ptV p)) 0 [] := cpt_path (FindP_yes hv hk he)

noncomputable def ldr (l : List Pt) (n d : Int) : Pt := open Classical in if h : ∃ s, Srt l n d s then h.choose.headD ⟨0, 0, 0⟩ else ⟨0, 0, 0⟩
noncomputable def nextOf (p q : Pt) : Option Mt := if p.b < q.b then fM (p, q) else none
theorem nextOf_no {p q : Pt} (h : ¬ p.b < q.b) : nextOf p q = none := if_neg h
theorem nextOf_yes {p q : Pt} (h1 : okPt p = true) (h2 : okPt q = true) (h : p.b < q.b) : ∃ m, nextOf p q = some m ∧ MSpec p q m := by
  unfold nextOf
  rw [if_pos h]
  exact fM_diff (x := (p, q)) h1 h2 (by show p.b ≠ q.b; omega)
theorem nextOf_some {p q : Pt} (h1 : okPt p = true) (h2 : okPt q = true) {m : Mt} (h : nextOf p q = some m) : p.b < q.b ∧ MSpec p q m := by
  by_cases hb : p.b < q.b
  · obtain ⟨m', h3, h4⟩ := nextOf_yes h1 h2 hb
    rw [h] at h3; cases h3
    exact ⟨hb, h4⟩
  · rw [nextOf_no hb] at h; cases h
theorem Fails_self {p : Pt} {n d : Int} (hn : I64 n) (hd : I64 d) (h1 : okPt p = true) (h3 : okB n d = true) : Pure Tryz.prog 109 #[ptV p, ptV p, ratioV n d] (.tuple #[ratioV 0 0, .bool false, .int .i64 2]) :=
  fails_e3 (Check02_ok h1) (Check02_ok h1) (Check_ok hn hd h3) (ids_e (by simp))
theorem Fails_lead {p q : Pt} {n d : Int} (hn : I64 n) (hd : I64 d) (h1 : okPt p = true) (h2 : okPt q = true) (h3 : okB n d = true) (h4 : p.id ≠ q.id) (hl : ld n d q p = false) :
    Pure Tryz.prog 109 #[ptV p, ptV q, ratioV n d] (match nextOf p q with | some m => .tuple #[ratioV m.n m.d, .bool true, .int .i64 0] | none => .tuple #[ratioV 0 0, .bool false, .int .i64 0]) := by
  have c1 := Check02_ok h1
  have c2 := Check02_ok h2
  have c3 := Check_ok hn hd h3
  have c4 := checkIDs_n (pa := p.a) (pb := p.b) (qa := q.a) (qb := q.b) h4
  have d0 : 0 < d := by have := okB_den h3; omega
  unfold ld at hl
  by_cases hb : q.b = p.b
  · rw [nextOf_no (by omega)]
    rw [hb, leads_same d0] at hl
    by_cases ha : q.a = p.a
    · by_cases hi : q.id < p.id
      · rw [ha, leads_t (by omega)] at hl; cases hl
      · exact fails_wf c1 c2 c3 c4 (by simp [ha, hb]) (df hi) (df (by omega))
    · by_cases hg : q.a > p.a
      · rw [leads_t (by omega)] at hl; cases hl
      · exact fails_bf c1 c2 c3 c4 (by simp [ha]) (by simp [hb]) (df hg) (df (by omega))
  · obtain ⟨m, k, k1, k2, k3, k4, k5, k6⟩ := meeting_both h2 h1 hb
    have k0 : 0 < k := by have := okB_den k1; omega
    have cc := Cmp_ok hn hd k2 k3 h3 k1
    rw [leads_meet k0 k4 hb] at hl
    have w : (q.a == p.a && (q.b == p.b && true)) = false := by simp [hb]
    have bb : (q.b == p.b) = false := by simp [hb]
    by_cases g : q.b > p.b <;> by_cases l : (n * k - m * d).sign ≥ 0
    · rw [dt g, dt l] at hl; cases hl
    · have hm : nextOf p q = some ⟨m, k, p.id, q.id⟩ := by
        unfold nextOf
        rw [if_pos g]
        refine fM_eq (x := (p, q)) h1 h2 (by show p.b ≠ q.b; omega) k1 ?_
        show m * (p.b - q.b) = (q.a - p.a) * k
        have e1 : m * (p.b - q.b) = -(m * (q.b - p.b)) := by rw [← Int.mul_neg]; congr 1; omega
        have e2 : (q.a - p.a) * k = -((p.a - q.a) * k) := by rw [← Int.neg_mul]; congr 1; omega
        rw [e1, e2, k4]
      rw [hm]
      exact fails_mft c1 c2 c3 c4 w bb k5 cc (df l) (dt g) k6
    · rw [nextOf_no (by omega)]
      exact fails_mtf c1 c2 c3 c4 w bb k5 cc (dt l) (df g)
    · rw [df g, df l] at hl; cases hl
noncomputable def fstep (p : Pt) (acc : Option Mt) (q : Pt) : Option Mt :=
  match nextOf p q with
  | none => acc
  | some m => match acc with
    | none => some m
    | some f => if (m.n * f.d - f.n * m.d).sign < 0 then some m else some f
noncomputable def nextM (p : Pt) (l : List Pt) : Option Mt := l.foldl (fstep p) none
end Go.Proofs.YtpngjeloiifgnaaGreat

namespace Go.Proofs.YtpngjeloiifgnaaGreat
open Go.RowKit
set_option maxRecDepth 100000 in
theorem ck_bad {s : List Ld} {k : Nat} {x : Ld} (hk : s[k]? = some x) (hin : 0 ≤ (k : Int) ∧ (k : Int) < (s.length : Int)) (hlt : decide ((k : Int) < (s.length : Int)) = true) (hi : Pure Tryz.prog 53 #[leadV x] (.bool false)) : RunsL Tryz.prog 1 1 (loopOf Tryz.prog 21 0) 38 1 ([(0, .ls 0 s.length), (13, .ls 0 s.length), (14, .pv (.int .i64 (s.length : Int))), (15, .pv (.int .i64 (k : Int)))]) ([(0, 0, rowL s)]) (.ret) ([(2, .pv (.int .i64 8))]) ([]) :=
  RunsL.stop [] 300 [.t true, .r (leadV x), .r (.bool false), .k] (fun h => by cases h)
    (round_of (And.intro hlt (And.intro hin (And.intro (ra_ld hk) (And.intro hi True.intro)))) (by kernel_rfl))

set_option maxRecDepth 100000 in
theorem ck_zero {s : List Ld} {x : Ld} (hk : s[0]? = some x) (hin : 0 ≤ ((0 : Nat) : Int) ∧ ((0 : Nat) : Int) < (s.length : Int)) (hlt : decide (((0 : Nat) : Int) < (s.length : Int)) = true) (hi : Pure Tryz.prog 53 #[leadV x] (.bool true)) (hs : Value.int .i64 (IntKind.i64.wrap (((0 : Nat) : Int) + 1)) = .int .i64 (((0 + 1 : Nat) : Int))) {e : Exit} {tm2 : List (Nat × SV)} {hp2 : List (Nat × Nat × SV)}
    (r : RunsL Tryz.prog 1 1 (loopOf Tryz.prog 21 0) 38 1 ([(0, .ls 0 s.length), (13, .ls 0 s.length), (14, .pv (.int .i64 (s.length : Int))), (15, .pv (.int .i64 ((0 + 1 : Nat) : Int)))]) ([(0, 0, rowL s)]) e tm2 hp2) : RunsL Tryz.prog 1 1 (loopOf Tryz.prog 21 0) 38 1 ([(0, .ls 0 s.length), (13, .ls 0 s.length), (14, .pv (.int .i64 (s.length : Int))), (15, .pv (.int .i64 ((0 : Nat) : Int)))]) ([(0, 0, rowL s)]) e tm2 hp2 :=
  RunsL.next [] 300 [.t true, .r (leadV x), .r (.bool true), .k, .k, .r (.int .i64 (((0 + 1 : Nat) : Int)))]
    (round_of (And.intro hlt (And.intro hin (And.intro (ra_ld hk) (And.intro hi (And.intro hs True.intro))))) (by kernel_rfl)) r

set_option maxRecDepth 100000 in
theorem ck_next {s : List Ld} {k : Nat} {x y : Ld} (hk : s[k + 1]? = some y) (hin : 0 ≤ ((k + 1 : Nat) : Int) ∧ ((k + 1 : Nat) : Int) < (s.length : Int)) (hk0 : s[k]? = some x) (hin0 : 0 ≤ (k : Int) ∧ (k : Int) < (s.length : Int)) (hlt : decide (((k + 1 : Nat) : Int) < (s.length : Int)) = true) (hi : Pure Tryz.prog 53 #[leadV y] (.bool true)) (hpos : decide (((k + 1 : Nat) : Int) > 0) = true) (hm : Value.int .i64 (IntKind.i64.wrap (((k + 1 : Nat) : Int) - 1)) = .int .i64 ((k : Int))) (hfo : Pure Tryz.prog 54 #[leadV y, leadV x] (.bool true)) (hs : Value.int .i64 (IntKind.i64.wrap (((k + 1 : Nat) : Int) + 1)) = .int .i64 (((k + 1 + 1 : Nat) : Int))) {e : Exit} {tm2 : List (Nat × SV)} {hp2 : List (Nat × Nat × SV)}
    (r : RunsL Tryz.prog 1 1 (loopOf Tryz.prog 21 0) 38 1 ([(0, .ls 0 s.length), (13, .ls 0 s.length), (14, .pv (.int .i64 (s.length : Int))), (15, .pv (.int .i64 ((k + 1 + 1 : Nat) : Int)))]) ([(0, 0, rowL s)]) e tm2 hp2) : RunsL Tryz.prog 1 1 (loopOf Tryz.prog 21 0) 38 1 ([(0, .ls 0 s.length), (13, .ls 0 s.length), (14, .pv (.int .i64 (s.length : Int))), (15, .pv (.int .i64 ((k + 1 : Nat) : Int)))]) ([(0, 0, rowL s)]) e tm2 hp2 :=
  RunsL.next [] 300 [.t true, .r (leadV y), .r (.bool true), .k, .t true, .r (.int .i64 ((k : Int))), .r (leadV x), .r (.bool true), .k, .r (.int .i64 (((k + 1 + 1 : Nat) : Int)))]
    (round_of (And.intro hlt (And.intro hin (And.intro (ra_ld hk) (And.intro hi (And.intro hpos (And.intro hm (And.intro hin0 (And.intro (ra_ld hk0) (And.intro hfo (And.intro hs True.intro)))))))))) (by kernel_rfl)) r

set_option maxRecDepth 100000 in
theorem ck_order {s : List Ld} {k : Nat} {x y : Ld} (hk : s[k + 1]? = some y) (hin : 0 ≤ ((k + 1 : Nat) : Int) ∧ ((k + 1 : Nat) : Int) < (s.length : Int)) (hk0 : s[k]? = some x) (hin0 : 0 ≤ (k : Int) ∧ (k : Int) < (s.length : Int)) (hlt : decide (((k + 1 : Nat) : Int) < (s.length : Int)) = true) (hi : Pure Tryz.prog 53 #[leadV y] (.bool true)) (hpos : decide (((k + 1 : Nat) : Int) > 0) = true) (hm : Value.int .i64 (IntKind.i64.wrap (((k + 1 : Nat) : Int) - 1)) = .int .i64 ((k : Int))) (hfo : Pure Tryz.prog 54 #[leadV y, leadV x] (.bool false)) : RunsL Tryz.prog 1 1 (loopOf Tryz.prog 21 0) 38 1 ([(0, .ls 0 s.length), (13, .ls 0 s.length), (14, .pv (.int .i64 (s.length : Int))), (15, .pv (.int .i64 ((k + 1 : Nat) : Int)))]) ([(0, 0, rowL s)]) (.ret) ([(2, .pv (.int .i64 8))]) ([]) :=
  RunsL.stop [] 300 [.t true, .r (leadV y), .r (.bool true), .k, .t true, .r (.int .i64 ((k : Int))), .r (leadV x), .r (.bool false), .k] (fun h => by cases h)
    (round_of (And.intro hlt (And.intro hin (And.intro (ra_ld hk) (And.intro hi (And.intro hpos (And.intro hm (And.intro hin0 (And.intro (ra_ld hk0) (And.intro hfo True.intro))))))))) (by kernel_rfl))

set_option maxRecDepth 100000 in
theorem ck_end {s : List Ld} {k : Nat} (hge : decide ((k : Int) < (s.length : Int)) = false) : RunsL Tryz.prog 1 1 (loopOf Tryz.prog 21 0) 38 1 ([(0, .ls 0 s.length), (13, .ls 0 s.length), (14, .pv (.int .i64 (s.length : Int))), (15, .pv (.int .i64 (k : Int)))]) ([(0, 0, rowL s)]) (.exit 0) ([]) ([]) :=
  RunsL.stop [] 300 [.t false] (fun h => by cases h)
    (round_of (And.intro hge True.intro) (by kernel_rfl))

set_option maxRecDepth 100000 in
theorem ck_none {s : List Ld} (h0 : ((s.length : Int) == 0) = true) :
    FnL Tryz.prog 21 1 [.ls 0 s.length] [(0, 0, rowL s)] (.pv (.int .i64 (8))) 0 [] :=
  fnl_run 300 [] [.t true]
     True.intro (And.intro h0 True.intro) (by kernel_rfl)

set_option maxRecDepth 100000 in
theorem ck_many {s : List Ld} (h0 : ((s.length : Int) == 0) = false) (h3 : decide ((s.length : Int) > 300) = true) :
    FnL Tryz.prog 21 1 [.ls 0 s.length] [(0, 0, rowL s)] (.pv (.int .i64 (8))) 0 [] :=
  fnl_run 300 [] [.t false, .t true]
     True.intro (And.intro h0 (And.intro h3 True.intro)) (by kernel_rfl)

set_option maxRecDepth 100000 in
theorem ck_no {s : List Ld} (h0 : ((s.length : Int) == 0) = false) (h3 : decide ((s.length : Int) > 300) = false) (r0 : RunsL Tryz.prog 1 1 (loopOf Tryz.prog 21 0) 38 1 ([(0, .ls 0 s.length), (13, .ls 0 s.length), (14, .pv (.int .i64 (s.length : Int))), (15, .pv (.int .i64 ((0 : Nat) : Int)))]) ([(0, 0, rowL s)]) (.ret) ([(2, .pv (.int .i64 8))]) ([])) :
    FnL Tryz.prog 21 1 [.ls 0 s.length] [(0, 0, rowL s)] (.pv (.int .i64 (8))) 0 [] :=
  fnl_run 300 [] [.t false, .t false, .l (.ret) ([(0, .ls 0 s.length), (13, .ls 0 s.length), (14, .pv (.int .i64 (s.length : Int))), (15, .pv (.int .i64 ((0 : Nat) : Int)))]) ([(0, 0, rowL s)]) ([(2, .pv (.int .i64 8))]) ([])]
     True.intro (And.intro h0 (And.intro h3 (And.intro (reflT (renN []) ([(0, .ls 0 s.length), (13, .ls 0 s.length), (14, .pv (.int .i64 (s.length : Int))), (15, .pv (.int .i64 ((0 : Nat) : Int)))])) (And.intro (reflH (renN []) ([(0, 0, rowL s)])) (And.intro r0 True.intro))))) (by kernel_rfl)

set_option maxRecDepth 100000 in
theorem ck_yes {s : List Ld} (h0 : ((s.length : Int) == 0) = false) (h3 : decide ((s.length : Int) > 300) = false) (r0 : RunsL Tryz.prog 1 1 (loopOf Tryz.prog 21 0) 38 1 ([(0, .ls 0 s.length), (13, .ls 0 s.length), (14, .pv (.int .i64 (s.length : Int))), (15, .pv (.int .i64 ((0 : Nat) : Int)))]) ([(0, 0, rowL s)]) (.exit 0) ([]) ([])) :
    FnL Tryz.prog 21 1 [.ls 0 s.length] [(0, 0, rowL s)] (.pv (.int .i64 (0))) 0 [] :=
  fnl_run 300 [] [.t false, .t false, .l (.exit 0) ([(0, .ls 0 s.length), (13, .ls 0 s.length), (14, .pv (.int .i64 (s.length : Int))), (15, .pv (.int .i64 ((0 : Nat) : Int)))]) ([(0, 0, rowL s)]) ([]) ([])]
     True.intro (And.intro h0 (And.intro h3 (And.intro (reflT (renN []) ([(0, .ls 0 s.length), (13, .ls 0 s.length), (14, .pv (.int .i64 (s.length : Int))), (15, .pv (.int .i64 ((0 : Nat) : Int)))])) (And.intro (reflH (renN []) ([(0, 0, rowL s)])) (And.intro r0 True.intro))))) (by kernel_rfl)

set_option maxRecDepth 100000 in
theorem lbs_up {s : List Ld} {i j h : Nat} {x : Ld} {c tn td : Int} (hk : s[h]? = some x) (hin : 0 ≤ (h : Int) ∧ (h : Int) < (s.length : Int)) (hlt : decide ((i : Int) < (j : Int)) = true) (ha : Value.int .i64 (IntKind.i64.wrap ((i : Int) + (j : Int))) = .int .i64 ((i : Int) + (j : Int))) (hu : Value.int .u64 (IntKind.u64.wrap ((i : Int) + (j : Int))) = .int .u64 ((i : Int) + (j : Int))) (h1 : ¬ (1 : Int) < 0) (hs : Value.int .u64 (((i : Int) + (j : Int)).fdiv (2 ^ (min (1 : Int).toNat IntKind.u64.bits))) = .int .u64 (h : Int)) (hb : Value.int .i64 (IntKind.i64.wrap (h : Int)) = .int .i64 ((h : Int))) (hc : Pure Tryz.prog 108 #[leadV x, ratioV tn td] (.int .i64 (c))) (hz : decide (c < 0) = true) (hh : Value.int .i64 (IntKind.i64.wrap ((h : Int) + 1)) = .int .i64 (((h + 1 : Nat) : Int))) {e : Exit} {tm2 : List (Nat × SV)} {hp2 : List (Nat × Nat × SV)}
    (r : RunsL Tryz.prog 1 1 (loopOf Tryz.prog 107 0) 49 2 ([(0, .ls 0 s.length), (2, .pv (.func (.func 108) #[] #[])), (4, .pp 1 0), (8, .pv (.int .i64 (s.length : Int))), (9, .pv (.int .i64 ((h + 1 : Nat) : Int))), (10, .pv (.int .i64 (j : Int)))]) ([(1, 0, .pv (.int .i64 tn)), (1, 1, .pv (.int .i64 td)), (0, 0, rowL s)]) e tm2 hp2) : RunsL Tryz.prog 1 1 (loopOf Tryz.prog 107 0) 49 2 ([(0, .ls 0 s.length), (2, .pv (.func (.func 108) #[] #[])), (4, .pp 1 0), (8, .pv (.int .i64 (s.length : Int))), (9, .pv (.int .i64 (i : Int))), (10, .pv (.int .i64 (j : Int)))]) ([(1, 0, .pv (.int .i64 tn)), (1, 1, .pv (.int .i64 td)), (0, 0, rowL s)]) e tm2 hp2 :=
  RunsL.next [] 300 [.t true, .r (.int .i64 ((i : Int) + (j : Int))), .r (.int .u64 ((i : Int) + (j : Int))), .r (.int .u64 (h : Int)), .r (.int .i64 ((h : Int))), .r (leadV x), .r (.int .i64 (c)), .t true, .r (.int .i64 (((h + 1 : Nat) : Int)))]
    (round_of (And.intro hlt (And.intro ha (And.intro hu (And.intro h1 (And.intro hs (And.intro hb (And.intro hin (And.intro (ra_ld hk) (And.intro hc (And.intro hz (And.intro hh True.intro))))))))))) (by kernel_rfl)) r

set_option maxRecDepth 100000 in
theorem lbs_dn {s : List Ld} {i j h : Nat} {x : Ld} {c tn td : Int} (hk : s[h]? = some x) (hin : 0 ≤ (h : Int) ∧ (h : Int) < (s.length : Int)) (hlt : decide ((i : Int) < (j : Int)) = true) (ha : Value.int .i64 (IntKind.i64.wrap ((i : Int) + (j : Int))) = .int .i64 ((i : Int) + (j : Int))) (hu : Value.int .u64 (IntKind.u64.wrap ((i : Int) + (j : Int))) = .int .u64 ((i : Int) + (j : Int))) (h1 : ¬ (1 : Int) < 0) (hs : Value.int .u64 (((i : Int) + (j : Int)).fdiv (2 ^ (min (1 : Int).toNat IntKind.u64.bits))) = .int .u64 (h : Int)) (hb : Value.int .i64 (IntKind.i64.wrap (h : Int)) = .int .i64 ((h : Int))) (hc : Pure Tryz.prog 108 #[leadV x, ratioV tn td] (.int .i64 (c))) (hz : decide (c < 0) = false) {e : Exit} {tm2 : List (Nat × SV)} {hp2 : List (Nat × Nat × SV)}
    (r : RunsL Tryz.prog 1 1 (loopOf Tryz.prog 107 0) 49 2 ([(0, .ls 0 s.length), (2, .pv (.func (.func 108) #[] #[])), (4, .pp 1 0), (8, .pv (.int .i64 (s.length : Int))), (9, .pv (.int .i64 (i : Int))), (10, .pv (.int .i64 (h : Int)))]) ([(1, 0, .pv (.int .i64 tn)), (1, 1, .pv (.int .i64 td)), (0, 0, rowL s)]) e tm2 hp2) : RunsL Tryz.prog 1 1 (loopOf Tryz.prog 107 0) 49 2 ([(0, .ls 0 s.length), (2, .pv (.func (.func 108) #[] #[])), (4, .pp 1 0), (8, .pv (.int .i64 (s.length : Int))), (9, .pv (.int .i64 (i : Int))), (10, .pv (.int .i64 (j : Int)))]) ([(1, 0, .pv (.int .i64 tn)), (1, 1, .pv (.int .i64 td)), (0, 0, rowL s)]) e tm2 hp2 :=
  RunsL.next [] 300 [.t true, .r (.int .i64 ((i : Int) + (j : Int))), .r (.int .u64 ((i : Int) + (j : Int))), .r (.int .u64 (h : Int)), .r (.int .i64 ((h : Int))), .r (leadV x), .r (.int .i64 (c)), .t false]
    (round_of (And.intro hlt (And.intro ha (And.intro hu (And.intro h1 (And.intro hs (And.intro hb (And.intro hin (And.intro (ra_ld hk) (And.intro hc (And.intro hz True.intro)))))))))) (by kernel_rfl)) r

set_option maxRecDepth 100000 in
theorem lbs_end {s : List Ld} {i j : Nat} {tn td : Int} (hge : decide ((i : Int) < (j : Int)) = false) : RunsL Tryz.prog 1 1 (loopOf Tryz.prog 107 0) 49 2 ([(0, .ls 0 s.length), (2, .pv (.func (.func 108) #[] #[])), (4, .pp 1 0), (8, .pv (.int .i64 (s.length : Int))), (9, .pv (.int .i64 (i : Int))), (10, .pv (.int .i64 (j : Int)))]) ([(1, 0, .pv (.int .i64 tn)), (1, 1, .pv (.int .i64 td)), (0, 0, rowL s)]) (.exit 0) ([(0, .ls 0 s.length), (2, .pv (.func (.func 108) #[] #[])), (4, .pp 1 0), (8, .pv (.int .i64 (s.length : Int))), (9, .pv (.int .i64 (i : Int))), (10, .pv (.int .i64 (j : Int)))]) ([(1, 0, .pv (.int .i64 tn)), (1, 1, .pv (.int .i64 td)), (0, 0, rowL s)]) :=
  RunsL.stop [] 300 [.t false] (fun h => by cases h)
    (round_of (And.intro hge True.intro) (by kernel_rfl))

set_option maxRecDepth 100000 in
theorem lbf_out {s : List Ld} {k : Nat} {tn td : Int} (r0 : RunsL Tryz.prog 1 1 (loopOf Tryz.prog 107 0) 49 2 ([(0, .ls 0 s.length), (2, .pv (.func (.func 108) #[] #[])), (4, .pp 1 0), (8, .pv (.int .i64 (s.length : Int))), (9, .pv (.int .i64 ((0 : Nat) : Int))), (10, .pv (.int .i64 (s.length : Int)))]) ([(1, 0, .pv (.int .i64 tn)), (1, 1, .pv (.int .i64 td)), (0, 0, rowL s)]) (.exit 0) ([(0, .ls 0 s.length), (2, .pv (.func (.func 108) #[] #[])), (4, .pp 1 0), (8, .pv (.int .i64 (s.length : Int))), (9, .pv (.int .i64 (k : Int))), (10, .pv (.int .i64 (k : Int)))]) ([(1, 0, .pv (.int .i64 tn)), (1, 1, .pv (.int .i64 td)), (0, 0, rowL s)])) (hge : decide ((k : Int) < (s.length : Int)) = false) :
    FnL Tryz.prog 107 1 [.ls 0 s.length, .pv (ratioV tn td), .pv (.func (.func 108) #[] #[])] [(0, 0, rowL s)] (.pv (.tuple #[.int .i64 (k : Int), .bool false])) 0 [] :=
  fnl_run 300 [] [.l (.exit 0) ([(0, .ls 0 s.length), (2, .pv (.func (.func 108) #[] #[])), (4, .pp 1 0), (8, .pv (.int .i64 (s.length : Int))), (9, .pv (.int .i64 ((0 : Nat) : Int))), (10, .pv (.int .i64 (s.length : Int)))]) ([(1, 0, .pv (.int .i64 tn)), (1, 1, .pv (.int .i64 td)), (0, 0, rowL s)]) ([(0, .ls 0 s.length), (2, .pv (.func (.func 108) #[] #[])), (4, .pp 1 0), (8, .pv (.int .i64 (s.length : Int))), (9, .pv (.int .i64 (k : Int))), (10, .pv (.int .i64 (k : Int)))]) ([(1, 0, .pv (.int .i64 tn)), (1, 1, .pv (.int .i64 td)), (0, 0, rowL s)]), .t false]
     True.intro (And.intro (reflT (renN []) ([(0, .ls 0 s.length), (2, .pv (.func (.func 108) #[] #[])), (4, .pp 1 0), (8, .pv (.int .i64 (s.length : Int))), (9, .pv (.int .i64 ((0 : Nat) : Int))), (10, .pv (.int .i64 (s.length : Int)))])) (And.intro (reflH (renN []) ([(1, 0, .pv (.int .i64 tn)), (1, 1, .pv (.int .i64 td)), (0, 0, rowL s)])) (And.intro r0 (And.intro hge True.intro)))) (by kernel_rfl)

set_option maxRecDepth 100000 in
theorem lbf_hit {s : List Ld} {k : Nat} {x : Ld} {c tn td : Int} (r0 : RunsL Tryz.prog 1 1 (loopOf Tryz.prog 107 0) 49 2 ([(0, .ls 0 s.length), (2, .pv (.func (.func 108) #[] #[])), (4, .pp 1 0), (8, .pv (.int .i64 (s.length : Int))), (9, .pv (.int .i64 ((0 : Nat) : Int))), (10, .pv (.int .i64 (s.length : Int)))]) ([(1, 0, .pv (.int .i64 tn)), (1, 1, .pv (.int .i64 td)), (0, 0, rowL s)]) (.exit 0) ([(0, .ls 0 s.length), (2, .pv (.func (.func 108) #[] #[])), (4, .pp 1 0), (8, .pv (.int .i64 (s.length : Int))), (9, .pv (.int .i64 (k : Int))), (10, .pv (.int .i64 (k : Int)))]) ([(1, 0, .pv (.int .i64 tn)), (1, 1, .pv (.int .i64 td)), (0, 0, rowL s)])) (hk : s[k]? = some x) (hin : 0 ≤ (k : Int) ∧ (k : Int) < (s.length : Int)) (hlt : decide ((k : Int) < (s.length : Int)) = true) (hc : Pure Tryz.prog 108 #[leadV x, ratioV tn td] (.int .i64 (c))) (hz : (c == 0) = true) :
    FnL Tryz.prog 107 1 [.ls 0 s.length, .pv (ratioV tn td), .pv (.func (.func 108) #[] #[])] [(0, 0, rowL s)] (.pv (.tuple #[.int .i64 (k : Int), .bool true])) 0 [] :=
  fnl_run 300 [] [.l (.exit 0) ([(0, .ls 0 s.length), (2, .pv (.func (.func 108) #[] #[])), (4, .pp 1 0), (8, .pv (.int .i64 (s.length : Int))), (9, .pv (.int .i64 ((0 : Nat) : Int))), (10, .pv (.int .i64 (s.length : Int)))]) ([(1, 0, .pv (.int .i64 tn)), (1, 1, .pv (.int .i64 td)), (0, 0, rowL s)]) ([(0, .ls 0 s.length), (2, .pv (.func (.func 108) #[] #[])), (4, .pp 1 0), (8, .pv (.int .i64 (s.length : Int))), (9, .pv (.int .i64 (k : Int))), (10, .pv (.int .i64 (k : Int)))]) ([(1, 0, .pv (.int .i64 tn)), (1, 1, .pv (.int .i64 td)), (0, 0, rowL s)]), .t true, .r (leadV x), .r (.int .i64 (c)), .t true]
     True.intro (And.intro (reflT (renN []) ([(0, .ls 0 s.length), (2, .pv (.func (.func 108) #[] #[])), (4, .pp 1 0), (8, .pv (.int .i64 (s.length : Int))), (9, .pv (.int .i64 ((0 : Nat) : Int))), (10, .pv (.int .i64 (s.length : Int)))])) (And.intro (reflH (renN []) ([(1, 0, .pv (.int .i64 tn)), (1, 1, .pv (.int .i64 td)), (0, 0, rowL s)])) (And.intro r0 (And.intro hlt (And.intro hin (And.intro (ra_ld hk) (And.intro hc (And.intro hz True.intro)))))))) (by kernel_rfl)

set_option maxRecDepth 100000 in
theorem lbf_no {s : List Ld} {k : Nat} {x : Ld} {c tn td : Int} (r0 : RunsL Tryz.prog 1 1 (loopOf Tryz.prog 107 0) 49 2 ([(0, .ls 0 s.length), (2, .pv (.func (.func 108) #[] #[])), (4, .pp 1 0), (8, .pv (.int .i64 (s.length : Int))), (9, .pv (.int .i64 ((0 : Nat) : Int))), (10, .pv (.int .i64 (s.length : Int)))]) ([(1, 0, .pv (.int .i64 tn)), (1, 1, .pv (.int .i64 td)), (0, 0, rowL s)]) (.exit 0) ([(0, .ls 0 s.length), (2, .pv (.func (.func 108) #[] #[])), (4, .pp 1 0), (8, .pv (.int .i64 (s.length : Int))), (9, .pv (.int .i64 (k : Int))), (10, .pv (.int .i64 (k : Int)))]) ([(1, 0, .pv (.int .i64 tn)), (1, 1, .pv (.int .i64 td)), (0, 0, rowL s)])) (hk : s[k]? = some x) (hin : 0 ≤ (k : Int) ∧ (k : Int) < (s.length : Int)) (hlt : decide ((k : Int) < (s.length : Int)) = true) (hc : Pure Tryz.prog 108 #[leadV x, ratioV tn td] (.int .i64 (c))) (hz : (c == 0) = false) :
    FnL Tryz.prog 107 1 [.ls 0 s.length, .pv (ratioV tn td), .pv (.func (.func 108) #[] #[])] [(0, 0, rowL s)] (.pv (.tuple #[.int .i64 (k : Int), .bool false])) 0 [] :=
  fnl_run 300 [] [.l (.exit 0) ([(0, .ls 0 s.length), (2, .pv (.func (.func 108) #[] #[])), (4, .pp 1 0), (8, .pv (.int .i64 (s.length : Int))), (9, .pv (.int .i64 ((0 : Nat) : Int))), (10, .pv (.int .i64 (s.length : Int)))]) ([(1, 0, .pv (.int .i64 tn)), (1, 1, .pv (.int .i64 td)), (0, 0, rowL s)]) ([(0, .ls 0 s.length), (2, .pv (.func (.func 108) #[] #[])), (4, .pp 1 0), (8, .pv (.int .i64 (s.length : Int))), (9, .pv (.int .i64 (k : Int))), (10, .pv (.int .i64 (k : Int)))]) ([(1, 0, .pv (.int .i64 tn)), (1, 1, .pv (.int .i64 td)), (0, 0, rowL s)]), .t true, .r (leadV x), .r (.int .i64 (c)), .t false]
     True.intro (And.intro (reflT (renN []) ([(0, .ls 0 s.length), (2, .pv (.func (.func 108) #[] #[])), (4, .pp 1 0), (8, .pv (.int .i64 (s.length : Int))), (9, .pv (.int .i64 ((0 : Nat) : Int))), (10, .pv (.int .i64 (s.length : Int)))])) (And.intro (reflH (renN []) ([(1, 0, .pv (.int .i64 tn)), (1, 1, .pv (.int .i64 td)), (0, 0, rowL s)])) (And.intro r0 (And.intro hlt (And.intro hin (And.intro (ra_ld hk) (And.intro hc (And.intro hz True.intro)))))))) (by kernel_rfl)

set_option maxRecDepth 100000 in
theorem lat_hit {s : List Ld} {k : Nat} {x : Ld} {tn td : Int} (hb : FnL Tryz.prog 107 1 [.ls 0 s.length, .pv (ratioV tn td), .pv (.func (.func 108) #[] #[])] [(0, 0, rowL s)] (.pv (.tuple #[.int .i64 (k : Int), .bool true])) 0 []) (hk : s[k]? = some x) (hin : 0 ≤ (k : Int) ∧ (k : Int) < (s.length : Int)) :
    FnL Tryz.prog 58 1 [.ls 0 s.length, .pv (ratioV tn td)] [(0, 0, rowL s)] (.pv (.int .i64 (x.id))) 0 [] :=
  fnl_run 300 [] [.f [0] [.ls 0 s.length, .pv (ratioV tn td), .pv (.func (.func 108) #[] #[])] [(0, 0, rowL s)] (.pv (.tuple #[.int .i64 (k : Int), .bool true])) 0 [], .k, .r (.int .i64 (x.id))]
     True.intro (And.intro hb (And.intro (Eq.refl (List.map (SV.ren (renU [0] 2)) [.ls 0 s.length, .pv (ratioV tn td), .pv (.func (.func 108) #[] #[])])) (And.intro (reflH (renU [0] 2) [(0, 0, rowL s)]) (And.intro hin (And.intro (ra_li hk) True.intro))))) (by kernel_rfl)

set_option maxRecDepth 100000 in
theorem lat_no {s : List Ld} {k : Nat} {x : Ld} {tn td : Int} (hb : FnL Tryz.prog 107 1 [.ls 0 s.length, .pv (ratioV tn td), .pv (.func (.func 108) #[] #[])] [(0, 0, rowL s)] (.pv (.tuple #[.int .i64 ((k + 1 : Nat) : Int), .bool false])) 0 []) (hm : Value.int .i64 (IntKind.i64.wrap (((k + 1 : Nat) : Int) - 1)) = .int .i64 ((k : Int))) (hk : s[k]? = some x) (hin : 0 ≤ (k : Int) ∧ (k : Int) < (s.length : Int)) :
    FnL Tryz.prog 58 1 [.ls 0 s.length, .pv (ratioV tn td)] [(0, 0, rowL s)] (.pv (.int .i64 (x.id))) 0 [] :=
  fnl_run 300 [] [.f [0] [.ls 0 s.length, .pv (ratioV tn td), .pv (.func (.func 108) #[] #[])] [(0, 0, rowL s)] (.pv (.tuple #[.int .i64 ((k + 1 : Nat) : Int), .bool false])) 0 [], .k, .r (.int .i64 ((k : Int))), .r (.int .i64 (x.id))]
     True.intro (And.intro hb (And.intro (Eq.refl (List.map (SV.ren (renU [0] 2)) [.ls 0 s.length, .pv (ratioV tn td), .pv (.func (.func 108) #[] #[])])) (And.intro (reflH (renU [0] 2) [(0, 0, rowL s)]) (And.intro hm (And.intro hin (And.intro (ra_li hk) True.intro)))))) (by kernel_rfl)

end Go.Proofs.YtpngjeloiifgnaaGreat
