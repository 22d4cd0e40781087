/-
  Joined: Yp, Yv, Vc, Yq, Yr. Conditions: none.
-/
import Derived.Test.YtclpegneiomakaaGreatYo
import Derived.Test.YtclpegneiomakaaGreatZj
namespace Go.Proofs.YtclpegneiomakaaGreat
open Go.RowKit
structure P2 where
  a : Int
  b : Int
deriving DecidableEq
def p2V : List P2 → List Value
  | [] => []
  | m :: r => .int .i64 m.a :: .int .i64 m.b :: p2V r
abbrev rowR (l : List P2) : SV := .row 38 2 l.length (p2V l)
abbrev rowH (l : List P2) : SV := .row 33 2 l.length (p2V l)
theorem p2V_append : ∀ (a b : List P2), p2V (a ++ b) = p2V a ++ p2V b
  | [], _ => rfl
  | p :: r, b => by simp [p2V, p2V_append r b]
theorem p2V_length : ∀ (l : List P2), (p2V l).length = l.length * 2
  | [] => rfl
  | p :: r => by simp [p2V, p2V_length r]; omega
theorem p2V_get : ∀ {l : List P2} {k : Nat} {m : P2}, l[k]? = some m → (p2V l)[k * 2]? = some (.int .i64 m.a) ∧ (p2V l)[k * 2 + 1]? = some (.int .i64 m.b)
  | [], k, p, h => by simp at h
  | q :: r, 0, p, h => by simp at h; subst h; exact ⟨rfl, rfl⟩
  | q :: r, k + 1, p, h => by
    have := p2V_get (l := r) (k := k) (m := p) (by simpa using h)
    rw [show (k + 1) * 2 = k * 2 + 1 + 1 by omega]
    exact this
theorem ya_p {l : List P2} {k : Nat} {m : P2} (h : l[k]? = some m) : rowAt (p2V l) (0 * 2 + k * 2) [.int .i64 m.a, .int .i64 m.b] := by
  obtain ⟨h1, h2⟩ := p2V_get h
  intro j v hj
  rw [show 0 * 2 + k * 2 + j = k * 2 + j by omega]
  match j, hj with
  | 0, hj => cases hj; exact h1
  | 1, hj => cases hj; exact h2
  | j + 2, hj => simp at hj
theorem p2_one : ∀ (l : List P2), ∀ v ∈ p2V l, v.oneCell' = true
  | [], v, h => by cases h
  | m :: r, v, h => by
    simp only [p2V, List.mem_cons] at h
    rcases h with rfl | rfl | h
    · rfl
    · rfl
    · exact p2_one r v h
theorem yse_row (g : List Ev) (x : Ev) : some (SV.row 43 5 (g.length + 1) (evsV g ++ ecV x)) = some (rowE (g ++ [x])) := by rw [rowE, evsV_append, List.length_append]; rfl
theorem yse_ls (b : Nat) (g : List Ev) (x : Ev) : SV.ls b (g.length + 1) = SV.ls b (g ++ [x]).length := by rw [List.length_append]; rfl
theorem ysh_row (g : List P2) (x : P2) : some (SV.row 33 2 (g.length + 1) (p2V g ++ [.int .i64 x.a, .int .i64 x.b])) = some (rowH (g ++ [x])) := by rw [rowH, p2V_append, List.length_append]; rfl
theorem ysh_ls (b : Nat) (g : List P2) (x : P2) : SV.ls b (g.length + 1) = SV.ls b (g ++ [x]).length := by rw [List.length_append]; rfl

set_option maxRecDepth 100000 in
theorem em_stop {u fr wh : List Int} {b : List Bool} {ev zs : List Ev} {k : Nat} (hlt : decide ((k : Int) ≤ 210) = true) (hp : FnL Tryz.prog 16 5 [agA u b fr ev wh] [(0, 0, zrI u), (1, 0, zrB b), (2, 0, zrI fr), (3, 0, rowE ev), (4, 0, zrI wh)] (.pv (.tuple #[.agg #[.slice none 0 0, .slice none 0 0, .slice none 0 0, .slice none 0 0, .slice none 0 0], .agg #[.int .i64 0, .int .i64 0, .int .i64 0, .int .i64 0, .int .i64 0], .int .i64 42])) 0 []) : RunsL Tryz.prog 5 5 (loopOf Tryz.prog 32 0) 30 16 ([(1, .pp 5 0), (4, .ls 15 (zs).length), (5, .pv (.int .i64 (k : Int)))]) ([(5, 0, .ls 7 u.length), (5, 1, .ls 8 b.length), (5, 2, .ls 9 fr.length), (5, 3, .ls 10 ev.length), (5, 4, .ls 11 wh.length), (7, 0, zrI u), (8, 0, zrB b), (9, 0, zrI fr), (10, 0, rowE ev), (11, 0, zrI wh), (15, 0, rowE (zs))]) (.ret) ([(2, .ls 15 (zs).length), (3, .pv (.bool true))]) ([(15, 0, rowE zs)]) :=
  RunsL.stop [] 300 [.t true, .f [7,8,9,10,11] [agA u b fr ev wh] [(0, 0, zrI u), (1, 0, zrB b), (2, 0, zrI fr), (3, 0, rowE ev), (4, 0, zrI wh)] (.pv (.tuple #[.agg #[.slice none 0 0, .slice none 0 0, .slice none 0 0, .slice none 0 0, .slice none 0 0], .agg #[.int .i64 0, .int .i64 0, .int .i64 0, .int .i64 0, .int .i64 0], .int .i64 42])) 0 [], .k, .k] (fun h => by cases h)
    (round_of (And.intro hlt (And.intro hp (And.intro (Eq.refl (List.map (SV.ren (renU [7,8,9,10,11] 16)) [agA u b fr ev wh])) (And.intro (reflH (renU [7,8,9,10,11] 16) [(0, 0, zrI u), (1, 0, zrB b), (2, 0, zrI fr), (3, 0, rowE ev), (4, 0, zrI wh)]) True.intro)))) (by kernel_rfl))

set_option maxRecDepth 100000 in
theorem em_next {u fr wh u2 f2 wh3 : List Int} {b b2 : List Bool} {ev ev3 zs : List Ev} {x : Ev} {k : Nat} (hlt : decide ((k : Int) ≤ 210) = true) (hp : FnL Tryz.prog 16 5 [agA u b fr ev wh] [(0, 0, zrI u), (1, 0, zrB b), (2, 0, zrI fr), (3, 0, rowE ev), (4, 0, zrI wh)] (.tu [.ag [.ls 5 u2.length, .ls 6 b2.length, .ls 7 f2.length, .ls 8 ev3.length, .ls 9 wh3.length], .one (.pv (eventV x)), .one (.pv (.int .i64 0))]) 5 [(5, 0, zrI u2), (6, 0, zrB b2), (7, 0, zrI f2), (8, 0, rowE ev3), (9, 0, zrI wh3)]) (hl : zs.length + 1 ≤ 1000000) (hs : Value.int .i64 (IntKind.i64.wrap ((k : Int) + 1)) = .int .i64 (((k + 1 : Nat) : Int))) {e : Exit} {tm2 : List (Nat × SV)} {hp2 : List (Nat × Nat × SV)}
    (r : RunsL Tryz.prog 5 5 (loopOf Tryz.prog 32 0) 30 16 ([(1, .pp 5 0), (4, .ls 15 (zs ++ [x]).length), (5, .pv (.int .i64 ((k + 1 : Nat) : Int)))]) ([(5, 0, .ls 7 u2.length), (5, 1, .ls 8 b2.length), (5, 2, .ls 9 f2.length), (5, 3, .ls 10 ev3.length), (5, 4, .ls 11 wh3.length), (7, 0, zrI u2), (8, 0, zrB b2), (9, 0, zrI f2), (10, 0, rowE ev3), (11, 0, zrI wh3), (15, 0, rowE (zs ++ [x]))]) e tm2 hp2) : RunsL Tryz.prog 5 5 (loopOf Tryz.prog 32 0) 30 16 ([(1, .pp 5 0), (4, .ls 15 (zs).length), (5, .pv (.int .i64 (k : Int)))]) ([(5, 0, .ls 7 u.length), (5, 1, .ls 8 b.length), (5, 2, .ls 9 fr.length), (5, 3, .ls 10 ev.length), (5, 4, .ls 11 wh.length), (7, 0, zrI u), (8, 0, zrB b), (9, 0, zrI fr), (10, 0, rowE ev), (11, 0, zrI wh), (15, 0, rowE (zs))]) e tm2 hp2 :=
  RunsL.next [(7, 16), (8, 17), (9, 18), (10, 19), (11, 20), (15, 24)] 300 [.t true, .f [7,8,9,10,11] [agA u b fr ev wh] [(0, 0, zrI u), (1, 0, zrB b), (2, 0, zrI fr), (3, 0, rowE ev), (4, 0, zrI wh)] (.tu [.ag [.ls 5 u2.length, .ls 6 b2.length, .ls 7 f2.length, .ls 8 ev3.length, .ls 9 wh3.length], .one (.pv (eventV x)), .one (.pv (.int .i64 0))]) 5 [(5, 0, zrI u2), (6, 0, zrB b2), (7, 0, zrI f2), (8, 0, rowE ev3), (9, 0, zrI wh3)], .k, .md, .r (.int .i64 (((k + 1 : Nat) : Int)))]
    (round_ofTH (And.intro (Eq.refl (SV.pp 5 0)) (And.intro (yse_ls 24 zs x) (And.intro (Eq.refl (SV.pv (.int .i64 ((k + 1 : Nat) : Int)))) True.intro))) (And.intro (Eq.refl (some (SV.ls 16 u2.length))) (And.intro (Eq.refl (some (SV.ls 17 b2.length))) (And.intro (Eq.refl (some (SV.ls 18 f2.length))) (And.intro (Eq.refl (some (SV.ls 19 ev3.length))) (And.intro (Eq.refl (some (SV.ls 20 wh3.length))) (And.intro (Eq.refl (some (zrI u2))) (And.intro (Eq.refl (some (zrB b2))) (And.intro (Eq.refl (some (zrI f2))) (And.intro (Eq.refl (some (rowE ev3))) (And.intro (Eq.refl (some (zrI wh3))) (And.intro (yse_row zs x) True.intro))))))))))) (And.intro hlt (And.intro hp (And.intro (Eq.refl (List.map (SV.ren (renU [7,8,9,10,11] 16)) [agA u b fr ev wh])) (And.intro (reflH (renU [7,8,9,10,11] 16) [(0, 0, zrI u), (1, 0, zrB b), (2, 0, zrI fr), (3, 0, rowE ev), (4, 0, zrI wh)]) (And.intro hl (And.intro hs True.intro)))))) (by kernel_rfl)) r

set_option maxRecDepth 100000 in
theorem em_none {u fr wh : List Int} {b : List Bool} {ev : List Ev} (hp : FnL Tryz.prog 16 5 [agA u b fr ev wh] [(0, 0, zrI u), (1, 0, zrB b), (2, 0, zrI fr), (3, 0, rowE ev), (4, 0, zrI wh)] (.pv (.tuple #[.agg #[.slice none 0 0, .slice none 0 0, .slice none 0 0, .slice none 0 0, .slice none 0 0], .agg #[.int .i64 0, .int .i64 0, .int .i64 0, .int .i64 0, .int .i64 0], .int .i64 42])) 0 []) :
    FnL Tryz.prog 32 5 [agA u b fr ev wh] [(0, 0, zrI u), (1, 0, zrB b), (2, 0, zrI fr), (3, 0, rowE ev), (4, 0, zrI wh)] (.tu [.one (.ls 5 0), .one (.pv (.bool true))]) 1 [(5, 0, .row 43 5 0 [])] :=
  fnl_run 300 [(5, 6)] [.ln true 4 0 43 5, .k, .f [0,1,2,3,4] [agA u b fr ev wh] [(0, 0, zrI u), (1, 0, zrB b), (2, 0, zrI fr), (3, 0, rowE ev), (4, 0, zrI wh)] (.pv (.tuple #[.agg #[.slice none 0 0, .slice none 0 0, .slice none 0 0, .slice none 0 0, .slice none 0 0], .agg #[.int .i64 0, .int .i64 0, .int .i64 0, .int .i64 0, .int .i64 0], .int .i64 42])) 0 [], .k, .k]
     (reflH (renN [(5, 6)]) [(5, 0, .row 43 5 0 [])]) (And.intro hp (And.intro (Eq.refl (List.map (SV.ren (renU [0,1,2,3,4] 7)) [agA u b fr ev wh])) (And.intro (reflH (renU [0,1,2,3,4] 7) [(0, 0, zrI u), (1, 0, zrB b), (2, 0, zrI fr), (3, 0, rowE ev), (4, 0, zrI wh)]) True.intro))) (by kernel_rfl)

set_option maxRecDepth 100000 in
theorem em_some {u fr wh u2 f2 wh3 : List Int} {b b2 : List Bool} {ev ev3 zs : List Ev} {x : Ev} (hp : FnL Tryz.prog 16 5 [agA u b fr ev wh] [(0, 0, zrI u), (1, 0, zrB b), (2, 0, zrI fr), (3, 0, rowE ev), (4, 0, zrI wh)] (.tu [.ag [.ls 5 u2.length, .ls 6 b2.length, .ls 7 f2.length, .ls 8 ev3.length, .ls 9 wh3.length], .one (.pv (eventV x)), .one (.pv (.int .i64 0))]) 5 [(5, 0, zrI u2), (6, 0, zrB b2), (7, 0, zrI f2), (8, 0, rowE ev3), (9, 0, zrI wh3)]) (r0 : RunsL Tryz.prog 5 5 (loopOf Tryz.prog 32 0) 30 16 ([(1, .pp 5 0), (4, .ls 15 ([x]).length), (5, .pv (.int .i64 ((1 : Nat) : Int)))]) ([(5, 0, .ls 7 u2.length), (5, 1, .ls 8 b2.length), (5, 2, .ls 9 f2.length), (5, 3, .ls 10 ev3.length), (5, 4, .ls 11 wh3.length), (7, 0, zrI u2), (8, 0, zrB b2), (9, 0, zrI f2), (10, 0, rowE ev3), (11, 0, zrI wh3), (15, 0, rowE ([x]))]) (.ret) ([(2, .ls 15 (zs).length), (3, .pv (.bool true))]) ([(15, 0, rowE zs)])) :
    FnL Tryz.prog 32 5 [agA u b fr ev wh] [(0, 0, zrI u), (1, 0, zrB b), (2, 0, zrI fr), (3, 0, rowE ev), (4, 0, zrI wh)] (.tu [.one (.ls 5 zs.length), .one (.pv (.bool true))]) 1 [(5, 0, rowE zs)] :=
  fnl_run 300 [(5, 15)] [.ln true 4 0 43 5, .k, .f [0,1,2,3,4] [agA u b fr ev wh] [(0, 0, zrI u), (1, 0, zrB b), (2, 0, zrI fr), (3, 0, rowE ev), (4, 0, zrI wh)] (.tu [.ag [.ls 5 u2.length, .ls 6 b2.length, .ls 7 f2.length, .ls 8 ev3.length, .ls 9 wh3.length], .one (.pv (eventV x)), .one (.pv (.int .i64 0))]) 5 [(5, 0, zrI u2), (6, 0, zrB b2), (7, 0, zrI f2), (8, 0, rowE ev3), (9, 0, zrI wh3)], .k, .md, .k, .l (.ret) ([(1, .pp 5 0), (4, .ls 15 ([x]).length), (5, .pv (.int .i64 ((1 : Nat) : Int)))]) ([(5, 0, .ls 7 u2.length), (5, 1, .ls 8 b2.length), (5, 2, .ls 9 f2.length), (5, 3, .ls 10 ev3.length), (5, 4, .ls 11 wh3.length), (7, 0, zrI u2), (8, 0, zrB b2), (9, 0, zrI f2), (10, 0, rowE ev3), (11, 0, zrI wh3), (15, 0, rowE ([x]))]) ([(2, .ls 15 (zs).length), (3, .pv (.bool true))]) ([(15, 0, rowE zs)])]
     (reflH (renN [(5, 15)]) [(5, 0, rowE zs)]) (And.intro hp (And.intro (Eq.refl (List.map (SV.ren (renU [0,1,2,3,4] 7)) [agA u b fr ev wh])) (And.intro (reflH (renU [0,1,2,3,4] 7) [(0, 0, zrI u), (1, 0, zrB b), (2, 0, zrI fr), (3, 0, rowE ev), (4, 0, zrI wh)]) (And.intro (by decide : 0 + 1 ≤ 1000000) (And.intro (reflT (renN []) ([(1, .pp 5 0), (4, .ls 15 ([x]).length), (5, .pv (.int .i64 ((1 : Nat) : Int)))])) (And.intro (reflH (renN []) ([(5, 0, .ls 7 u2.length), (5, 1, .ls 8 b2.length), (5, 2, .ls 9 f2.length), (5, 3, .ls 10 ev3.length), (5, 4, .ls 11 wh3.length), (7, 0, zrI u2), (8, 0, zrB b2), (9, 0, zrI f2), (10, 0, rowE ev3), (11, 0, zrI wh3), (15, 0, rowE ([x]))])) (And.intro r0 True.intro))))))) (by kernel_rfl)

end Go.Proofs.YtclpegneiomakaaGreat

namespace Go.Proofs.YtclpegneiomakaaGreat
open Go.ChangeShapes Go.WideShapes Go.ChangeAt Go.RowKit Go.Joins Go.Deep
theorem yl_ra : Tryz.prog.cellsOf 38 = 2 := by kernel_rfl
theorem yl_i64 : Tryz.prog.cellsOf 2 = 1 := by kernel_rfl
theorem wf64 {n : Int} (h : (Lit.int .i64 n).wf = true) : I64 n := by
  simp only [Lit.wf, Bool.and_eq_true, decide_eq_true_eq] at h
  have h1 : IntKind.i64.min = -9223372036854775808 := by decide
  have h2 : IntKind.i64.max = 9223372036854775807 := by decide
  rw [h1, h2] at h
  exact h
section
variable {H : Type} {enc : TypeId × Value → H} {W : World} {base : Nat} {spare : Nat → Bool} {held : Bool}
end
end Go.Proofs.YtclpegneiomakaaGreat

namespace Go.Proofs.YtclpegneiomakaaGreat
open Go.ChangeShapes Go.WideShapes Go.ChangeAt Go.RowKit Go.Joins Go.Deep
theorem yl_rread : Tryz.prog.readableRec 72 = true := by kernel_rfl
theorem yl_rrow : 72 < Tryz.prog.types.size := of_decide_eq_true (by kernel_rfl)
section
variable {H : Type} {enc : TypeId × Value → H} {W : World} {base : Nat} {spare : Nat → Bool} {held : Bool}
theorem p2s_of (f : Nat → P2) : ∀ (n j : Nat) (v : Value), (p2V ((List.range n).map f))[j]? = some v → j / 2 < n ∧ ([Value.int .i64 (f (j / 2)).a, .int .i64 (f (j / 2)).b])[j % 2]? = some v := by
  intro n j v h
  have hj : j < n * 2 := by
    have := (List.getElem?_eq_some_iff.1 h).1
    rw [p2V_length] at this
    simpa using this
  have hk : j / 2 < n := by omega
  obtain ⟨g0, g1⟩ := p2V_get (l := (List.range n).map f) (k := j / 2) (m := f (j / 2)) (by simp [hk])
  refine ⟨hk, ?_⟩
  have h2 : j % 2 = 0 ∨ j % 2 = 1 := by omega
  have e : j = j / 2 * 2 + j % 2 := by omega
  rw [e] at h
  rcases h2 with e3 | e3 <;> rw [e3] at h ⊢
  · rw [Nat.add_zero, g0] at h; exact h
  · rw [g1] at h; exact h
set_option maxRecDepth 100000 in
theorem open_p2s {v : Value} {d : DataW H} {p : List MemPlace} {r : Reach} {b0 : Nat} (hv : Value.okWide Tryz.prog W r b0 72 v) (h : DataW.Trod enc Tryz.prog W base spare held 72 v d p) :
    ∃ (l : List P2), Rd W 2 v l.length (p2V l) ∧ ∀ p ∈ l, I64 p.a ∧ I64 p.b := by
  obtain ⟨a0, len0, cap0, rfl⟩ := okWide_slice Tryz.underlying72 hv
  obtain ⟨fuel, hf⟩ := h
  rcases open_slice Tryz.underlying72 hf with ⟨hc, _⟩ | ⟨a, len, cap, m, n, D, Pl, hc, _, hlc, _, hm, _, hi⟩
  · simp [Value.cells] at hc
    obtain ⟨rfl, rfl, rfl⟩ := hc
    exact ⟨[], ⟨rfl, none, 0, rfl, Nat.le_refl _, fun j v hv => by simp [p2V] at hv⟩, fun p hp => by simp at hp⟩
  simp [Value.cells] at hc
  obtain ⟨rfl, rfl, rfl⟩ := hc
  have hlm : len0 ≤ m := by rw [hm]; split <;> omega
  have each : ∀ i, i < len0 → ∃ p : P2, (W.cell? (a.add (i * 2)) = some (.int .i64 p.a) ∧ W.cell? (a.add (i * 2 + 1)) = some (.int .i64 p.b)) ∧ I64 p.a ∧ I64 p.b := by
    intro i hil
    obtain ⟨cs', hc, ht⟩ := hi i (by omega)
    rw [yl_ra] at hc
    obtain ⟨z0, z1, n2, _, hlen2, s0, s1⟩ := trod_struct2 Tryz.underlying38 ht
    obtain ⟨_, hcl, hat⟩ := World.cells?_some hc
    match cs', hcl with
    | [c0, c1], _ =>
      obtain ⟨pn, e0, _, w0⟩ := DataW.trod_int Tryz.underlying2 s0
      obtain ⟨pd, e1, _, w1⟩ := DataW.trod_int Tryz.underlying2 s1
      simp [yl_i64] at e0 e1
      refine ⟨⟨pn, pd⟩, ⟨?_, ?_⟩, wf64 w0, wf64 w1⟩
      · have := hat 0 (by omega); rw [add_add] at this; simpa [e0] using this
      · have := hat 1 (by omega); rw [add_add] at this; simpa [e1] using this
  haveI : Inhabited P2 := ⟨⟨0, 0⟩⟩
  obtain ⟨f, hf⟩ := choose_lt (α := P2) each
  refine ⟨(List.range len0).map f, ⟨p2V_length _, some a, cap0, by simp, by simpa using hlc, fun j v hv => ?_⟩, fun p hp => ?_⟩
  · obtain ⟨hk, he⟩ := p2s_of f len0 j v hv
    obtain ⟨c0, c1⟩ := (hf _ hk).1
    have hcell : W.cell? (a.add j) = some v := by
      have h5 : j % 2 = 0 ∨ j % 2 = 1 := by omega
      have e : j = j / 2 * 2 + j % 2 := by omega
      rcases h5 with e3 | e3 <;> rw [e3] at he e <;> rw [e] <;> simp at he <;> subst he
      · exact c0
      · exact c1
    obtain ⟨b, off, spot⟩ := a
    have hs : spot = none := by simpa [Addr.add] using World.cell?_spot (hf 0 (by omega)).1.1
    subst hs
    exact ⟨b, off, rfl, by rw [← Go.WideShapes.add_plain]; exact hcell⟩
  · obtain ⟨i, hi', rfl⟩ := List.mem_map.1 hp
    exact (hf i (List.mem_range.1 hi')).2
end
theorem rii_run {W : World} {v0 v1 v2 : Value} {rs : List P2} {os tu : List Int} {f : FuncId} (h : FnL Tryz.prog f 3 [.ls 0 rs.length, .ls 1 os.length, .ls 2 tu.length] [(0, 0, rowR rs), (1, 0, zrI os), (2, 0, zrI tu)] (.pv (.bool true)) 0 [])
    (h0 : Rd W 2 v0 rs.length (p2V rs)) (h1 : Rd W 1 v1 os.length (ziV os)) (h2 : Rd W 1 v2 tu.length (ziV tu)) : Calls Tryz.prog f #[v0, v1, v2] W fun e W' => e = .returned (.bool true) ∧ Gr W W' :=
  zins_run (rs := [(38, 2, rs.length, p2V rs), (3, 1, os.length, ziV os), (3, 1, tu.length, ziV tu)]) (us := [v0, v1, v2]) (vs := [v0, v1, v2]) h
    (.cons h0 (p2_one rs) (.cons h1 (zi_one os) (.cons h2 (zi_one tu) .nil))) ⟨⟨rfl, h0.zsl⟩, ⟨rfl, h1.zsl⟩, ⟨rfl, h2.zsl⟩, True.intro⟩
end Go.Proofs.YtclpegneiomakaaGreat

namespace Go.Proofs.YtclpegneiomakaaGreat
open Go.RowKit
def emptyM : Nat → List Ev → List Int → List Ev
  | 0, _, _ => []
  | d + 1, ev, wh => match ev[0]? with
    | none => []
    | some x => x :: emptyM d (withoutM ev wh 0 x).1 (withoutM ev wh 0 x).2
/-- Of two events one is less, or they have one number. -/
theorem ltE_total {x y : Ev} (h : ltE x y = false) (k : x.k ≠ y.k) : ltE y x = true := by
  simp only [ltE, Bool.or_eq_false_iff, Bool.and_eq_false_iff, decide_eq_false_iff_not, Bool.or_eq_true, Bool.and_eq_true, decide_eq_true_eq] at h ⊢
  obtain ⟨h1, h2⟩ := h
  rcases h2 with h2 | h2
  · left; omega
  · by_cases e : x.n * y.d = y.n * x.d
    · right; exact ⟨e.symm, by omega⟩
    · left; omega
theorem full_least {ev : List Ev} (ok : ∀ x ∈ ev, EvOk x) (h : Full ev) {x : Ev} (hx : ev[0]? = some x) : ∀ (n k : Nat) (y : Ev), k ≤ n → ev[k]? = some y → ltE y x = false
  | 0, k, y, hk, hy => by
    have : k = 0 := by omega
    subst this
    rw [hx] at hy; cases hy
    exact ltE_irr _
  | n + 1, k, y, hk, hy => by
    rcases Nat.eq_zero_or_pos k with h0 | h0
    · subst h0; rw [hx] at hy; cases hy; exact ltE_irr _
    · have hl := (List.getElem?_eq_some_iff.1 hy).1
      have hp : ev[(k - 1) / 2]? = some (ev[(k - 1) / 2]'(by omega)) := List.getElem?_eq_getElem (by omega)
      generalize ev[(k - 1) / 2]'(by omega) = p at hp
      exact ltE_ntr (ok y (List.mem_of_getElem? hy)) (ok p (List.mem_of_getElem? hp)) (ok x (List.mem_of_getElem? hx)) (h k h0 y p hy hp) (full_least ok h hx n ((k - 1) / 2) p (by omega) hp)
section
variable {u fr wh : List Int} {b : List Bool} {ev : List Ev}
theorem VA.least (h : VA u b fr ev wh) {x y : Ev} (hx : ev[0]? = some x) (hy : y ∈ ev) (hne : y.k ≠ x.k) : ltE x y = true := by
  obtain ⟨j, hj⟩ := List.mem_iff_getElem?.1 hy
  exact ltE_total (full_least h.ef.ok h.full hx j j y (Nat.le_refl _) hj) hne
theorem emptyM_spec : ∀ (d : Nat) {u : List Int} {b : List Bool} {fr : List Int} {ev : List Ev} {wh : List Int}, VA u b fr ev wh → ev.length = d → (emptyM d ev wh).Perm ev ∧ (emptyM d ev wh).Pairwise (fun x y => ltE x y = true)
  | 0, u, b, fr, ev, wh, h, hd => by
    have : ev = [] := List.eq_nil_of_length_eq_zero hd
    subst this
    exact ⟨List.Perm.refl _, List.Pairwise.nil⟩
  | d + 1, u, b, fr, ev, wh, h, hd => by
    have hx : ev[0]? = some (ev[0]'(by omega)) := List.getElem?_eq_getElem (by omega)
    generalize ev[0]'(by omega) = x at hx
    obtain ⟨h1, h2, _⟩ := h.without hx
    have hl := h2.length_eq
    rw [List.length_append, List.length_singleton] at hl
    obtain ⟨r1, r2⟩ := emptyM_spec d h1 (by omega)
    have e : emptyM (d + 1) ev wh = x :: emptyM d (withoutM ev wh 0 x).1 (withoutM ev wh 0 x).2 := by simp [emptyM, hx]
    rw [e]
    refine ⟨?_, List.pairwise_cons.2 ⟨fun y hy => ?_, r2⟩⟩
    · exact ((r1.cons x).trans (List.perm_append_singleton x _).symm).trans h2
    · have hy' : y ∈ (withoutM ev wh 0 x).1 := r1.mem_iff.1 hy
      have hnd := (h2.map (·.k)).nodup_iff.2 h.ef.nod
      rw [List.map_append, List.nodup_append] at hnd
      exact h.least hx (h2.mem_iff.1 (List.mem_append.2 (Or.inl hy'))) (hnd.2.2 y.k (List.mem_map.2 ⟨y, hy', rfl⟩) x.k (by simp))
abbrev emT (zs : List Ev) (k : Nat) : List (Nat × SV) := [(1, .pp 5 0), (4, .ls 15 zs.length), (5, .pv (.int .i64 (k : Int)))]
abbrev emH (u : List Int) (b : List Bool) (fr : List Int) (ev : List Ev) (wh : List Int) (zs : List Ev) : List (Nat × Nat × SV) := [(5, 0, .ls 7 u.length), (5, 1, .ls 8 b.length), (5, 2, .ls 9 fr.length), (5, 3, .ls 10 ev.length), (5, 4, .ls 11 wh.length), (7, 0, zrI u), (8, 0, zrB b), (9, 0, zrI fr), (10, 0, rowE ev), (11, 0, zrI wh), (15, 0, rowE zs)]
theorem em_loop : ∀ (d k : Nat) {u : List Int} {b : List Bool} {fr : List Int} {ev : List Ev} {wh : List Int} (zs : List Ev), VA u b fr ev wh → ev.length = d → k + d ≤ 210 → zs.length + d ≤ 1000 →
    RunsL Tryz.prog 5 5 (loopOf Tryz.prog 32 0) 30 16 (emT zs k) (emH u b fr ev wh zs) .ret [(2, .ls 15 (zs ++ emptyM d ev wh).length), (3, .pv (.bool true))] [(15, 0, rowE (zs ++ emptyM d ev wh))]
  | 0, k, u, b, fr, ev, wh, zs, h, hd, hk, hz => by
    have : ev = [] := List.eq_nil_of_length_eq_zero hd
    rw [show zs ++ emptyM 0 ev wh = zs by simp [emptyM]]
    exact em_stop (decide_eq_true (by omega)) (APop_none h this)
  | d + 1, k, u, b, fr, ev, wh, zs, h, hd, hk, hz => by
    have hx : ev[0]? = some (ev[0]'(by omega)) := List.getElem?_eq_getElem (by omega)
    generalize ev[0]'(by omega) = x at hx
    obtain ⟨h1, h2, _⟩ := h.without hx
    have hl := h2.length_eq
    rw [List.length_append, List.length_singleton] at hl
    have e : emptyM (d + 1) ev wh = x :: emptyM d (withoutM ev wh 0 x).1 (withoutM ev wh 0 x).2 := by simp [emptyM, hx]
    have hlen := h.lens
    have r := em_loop d (k + 1) (zs ++ [x]) h1 (by omega) (by omega) (by simp; omega)
    rw [List.append_assoc, List.singleton_append, ← e] at r
    exact em_next (decide_eq_true (by omega)) (APop_some h hx) (by omega) (z_succ (by omega)) r
theorem Emptied_any (h : VA u b fr ev wh) : FnL Tryz.prog 32 5 [agA u b fr ev wh] (agP u b fr ev wh) (.tu [.one (.ls 5 (emptyM ev.length ev wh).length), .one (.pv (.bool true))]) 1 [(5, 0, rowE (emptyM ev.length ev wh))] := by
  have hlen := h.lens
  rcases Nat.eq_zero_or_pos ev.length with h0 | h0
  · have he : ev = [] := List.eq_nil_of_length_eq_zero h0
    have := em_none (APop_none h he)
    subst he
    exact this
  · have hx : ev[0]? = some (ev[0]'h0) := List.getElem?_eq_getElem h0
    generalize ev[0]'h0 = x at hx
    obtain ⟨h1, h2, _⟩ := h.without hx
    have hl := h2.length_eq
    rw [List.length_append, List.length_singleton] at hl
    have r := em_loop (ev.length - 1) 1 [x] h1 (by omega) (by omega) (by simp; omega)
    have e : [x] ++ emptyM (ev.length - 1) (withoutM ev wh 0 x).1 (withoutM ev wh 0 x).2 = emptyM ev.length ev wh := by
      obtain ⟨d, hd⟩ : ∃ d, ev.length = d + 1 := ⟨ev.length - 1, by omega⟩
      rw [hd]
      simp [emptyM, hx]
    rw [e] at r
    exact em_some (APop_some h hx) r
end
end Go.Proofs.YtclpegneiomakaaGreat

namespace Go.Proofs.YtclpegneiomakaaGreat
open Go.RowKit
set_option maxRecDepth 100000 in
theorem fl_next {u fr wh u2 f2 wh3 : List Int} {b b2 : List Bool} {ev ev3 : List Ev} {ra rb : P2} {rs hv : List P2} {k : Nat} (hk : rs[k]? = some ra) (hin : 0 ≤ (k : Int) ∧ (k : Int) < (rs.length : Int)) (hlt : decide ((k : Int) < (rs.length : Int)) = true) (hp : FnL Tryz.prog 10 5 [agA u b fr ev wh, .pv (ratioV ra.a ra.b), .pv (.int .i64 ((k : Int)))] [(0, 0, zrI u), (1, 0, zrB b), (2, 0, zrI fr), (3, 0, rowE ev), (4, 0, zrI wh)] (.tu [.ag [.ls 5 u2.length, .ls 6 b2.length, .ls 7 f2.length, .ls 8 ev3.length, .ls 9 wh3.length], .one (.pv (handV rb.a rb.b)), .one (.pv (.int .i64 0))]) 5 [(5, 0, zrI u2), (6, 0, zrB b2), (7, 0, zrI f2), (8, 0, rowE ev3), (9, 0, zrI wh3)]) (hl : hv.length + 1 ≤ 1000000) (hs : Value.int .i64 (IntKind.i64.wrap ((k : Int) + 1)) = .int .i64 (((k + 1 : Nat) : Int))) {e : Exit} {tm2 : List (Nat × SV)} {hp2 : List (Nat × Nat × SV)}
    (r : RunsL Tryz.prog 1 1 (loopOf Tryz.prog 35 0) 46 9 ([(0, .ls 0 rs.length), (2, .pp 1 0), (5, .pp 7 0), (7, .ls 8 (hv ++ [rb]).length), (8, .pv (.int .i64 ((k + 1 : Nat) : Int)))]) ([(1, 0, .pv (.slice none 0 0)), (1, 1, .pv (.slice none 0 0)), (1, 2, .pv (.slice none 0 0)), (1, 3, .pv (.slice none 0 0)), (1, 4, .pv (.slice none 0 0)), (7, 0, .ls 2 u2.length), (7, 1, .ls 3 b2.length), (7, 2, .ls 4 f2.length), (7, 3, .ls 6 ev3.length), (7, 4, .ls 5 wh3.length), (0, 0, rowR rs), (2, 0, zrI u2), (3, 0, zrB b2), (4, 0, zrI f2), (6, 0, rowE ev3), (5, 0, zrI wh3), (8, 0, rowH (hv ++ [rb]))]) e tm2 hp2) : RunsL Tryz.prog 1 1 (loopOf Tryz.prog 35 0) 46 9 ([(0, .ls 0 rs.length), (2, .pp 1 0), (5, .pp 7 0), (7, .ls 8 (hv).length), (8, .pv (.int .i64 (k : Int)))]) ([(1, 0, .pv (.slice none 0 0)), (1, 1, .pv (.slice none 0 0)), (1, 2, .pv (.slice none 0 0)), (1, 3, .pv (.slice none 0 0)), (1, 4, .pv (.slice none 0 0)), (7, 0, .ls 2 u.length), (7, 1, .ls 3 b.length), (7, 2, .ls 4 fr.length), (7, 3, .ls 6 ev.length), (7, 4, .ls 5 wh.length), (0, 0, rowR rs), (2, 0, zrI u), (3, 0, zrB b), (4, 0, zrI fr), (6, 0, rowE ev), (5, 0, zrI wh), (8, 0, rowH (hv))]) e tm2 hp2 :=
  RunsL.next [(2, 9), (3, 10), (4, 11), (6, 12), (5, 13), (8, 17)] 300 [.t true, .md, .r (ratioV ra.a ra.b), .f [2,3,4,6,5] [agA u b fr ev wh, .pv (ratioV ra.a ra.b), .pv (.int .i64 ((k : Int)))] [(0, 0, zrI u), (1, 0, zrB b), (2, 0, zrI fr), (3, 0, rowE ev), (4, 0, zrI wh)] (.tu [.ag [.ls 5 u2.length, .ls 6 b2.length, .ls 7 f2.length, .ls 8 ev3.length, .ls 9 wh3.length], .one (.pv (handV rb.a rb.b)), .one (.pv (.int .i64 0))]) 5 [(5, 0, zrI u2), (6, 0, zrB b2), (7, 0, zrI f2), (8, 0, rowE ev3), (9, 0, zrI wh3)], .k, .md, .r (.int .i64 (((k + 1 : Nat) : Int)))]
    (round_ofTH (And.intro (Eq.refl (SV.ls 0 rs.length)) (And.intro (Eq.refl (SV.pp 1 0)) (And.intro (Eq.refl (SV.pp 7 0)) (And.intro (ysh_ls 17 hv rb) (And.intro (Eq.refl (SV.pv (.int .i64 ((k + 1 : Nat) : Int)))) True.intro))))) (And.intro (Eq.refl (some (SV.pv (.slice none 0 0)))) (And.intro (Eq.refl (some (SV.pv (.slice none 0 0)))) (And.intro (Eq.refl (some (SV.pv (.slice none 0 0)))) (And.intro (Eq.refl (some (SV.pv (.slice none 0 0)))) (And.intro (Eq.refl (some (SV.pv (.slice none 0 0)))) (And.intro (Eq.refl (some (SV.ls 9 u2.length))) (And.intro (Eq.refl (some (SV.ls 10 b2.length))) (And.intro (Eq.refl (some (SV.ls 11 f2.length))) (And.intro (Eq.refl (some (SV.ls 12 ev3.length))) (And.intro (Eq.refl (some (SV.ls 13 wh3.length))) (And.intro (Eq.refl (some (rowR rs))) (And.intro (Eq.refl (some (zrI u2))) (And.intro (Eq.refl (some (zrB b2))) (And.intro (Eq.refl (some (zrI f2))) (And.intro (Eq.refl (some (rowE ev3))) (And.intro (Eq.refl (some (zrI wh3))) (And.intro (ysh_row hv rb) True.intro))))))))))))))))) (And.intro hlt (And.intro hin (And.intro (ya_p hk) (And.intro hp (And.intro (Eq.refl (List.map (SV.ren (renU [2,3,4,6,5] 9)) [agA u b fr ev wh, .pv (ratioV ra.a ra.b), .pv (.int .i64 ((k : Int)))])) (And.intro (reflH (renU [2,3,4,6,5] 9) [(0, 0, zrI u), (1, 0, zrB b), (2, 0, zrI fr), (3, 0, rowE ev), (4, 0, zrI wh)]) (And.intro hl (And.intro hs True.intro)))))))) (by kernel_rfl)) r

set_option maxRecDepth 100000 in
theorem fl_end {u fr wh : List Int} {b : List Bool} {ev : List Ev} {rs hv : List P2} {k : Nat} (hge : decide ((k : Int) < (rs.length : Int)) = false) : RunsL Tryz.prog 1 1 (loopOf Tryz.prog 35 0) 46 9 ([(0, .ls 0 rs.length), (2, .pp 1 0), (5, .pp 7 0), (7, .ls 8 (hv).length), (8, .pv (.int .i64 (k : Int)))]) ([(1, 0, .pv (.slice none 0 0)), (1, 1, .pv (.slice none 0 0)), (1, 2, .pv (.slice none 0 0)), (1, 3, .pv (.slice none 0 0)), (1, 4, .pv (.slice none 0 0)), (7, 0, .ls 2 u.length), (7, 1, .ls 3 b.length), (7, 2, .ls 4 fr.length), (7, 3, .ls 6 ev.length), (7, 4, .ls 5 wh.length), (0, 0, rowR rs), (2, 0, zrI u), (3, 0, zrB b), (4, 0, zrI fr), (6, 0, rowE ev), (5, 0, zrI wh), (8, 0, rowH (hv))]) (.exit 0) ([(2, .pp 1 0), (5, .pp 7 0), (7, .ls 8 hv.length)]) ([(1, 0, .pv (.slice none 0 0)), (1, 1, .pv (.slice none 0 0)), (1, 2, .pv (.slice none 0 0)), (1, 3, .pv (.slice none 0 0)), (1, 4, .pv (.slice none 0 0)), (7, 0, .ls 2 u.length), (7, 1, .ls 3 b.length), (7, 2, .ls 4 fr.length), (7, 3, .ls 6 ev.length), (7, 4, .ls 5 wh.length), (0, 0, rowR rs), (2, 0, zrI u), (3, 0, zrB b), (4, 0, zrI fr), (6, 0, rowE ev), (5, 0, zrI wh), (8, 0, rowH (hv))]) :=
  RunsL.stop [] 300 [.t false] (fun h => by cases h)
    (round_of (And.intro hge True.intro) (by kernel_rfl))

set_option maxRecDepth 100000 in
theorem fl_path {u fr wh u1 f1 wh1 : List Int} {b b1 : List Bool} {ev1 : List Ev} {rs hv : List P2} (hn : FnL Tryz.prog 9 0 [.pv (.int .i64 (50))] [] (.tu [.ag [.ls 0 u.length, .ls 1 b.length, .ls 2 fr.length, .ls 4 0, .ls 3 wh.length], .one (.pv (.int .i64 0))]) 5 [(0, 0, zrI u), (1, 0, zrB b), (2, 0, zrI fr), (3, 0, zrI wh), (4, 0, rowE [])]) (r0 : RunsL Tryz.prog 1 1 (loopOf Tryz.prog 35 0) 46 9 ([(0, .ls 0 rs.length), (2, .pp 1 0), (5, .pp 7 0), (7, .ls 8 (([] : List P2)).length), (8, .pv (.int .i64 ((0 : Nat) : Int)))]) ([(1, 0, .pv (.slice none 0 0)), (1, 1, .pv (.slice none 0 0)), (1, 2, .pv (.slice none 0 0)), (1, 3, .pv (.slice none 0 0)), (1, 4, .pv (.slice none 0 0)), (7, 0, .ls 2 u.length), (7, 1, .ls 3 b.length), (7, 2, .ls 4 fr.length), (7, 3, .ls 6 0), (7, 4, .ls 5 wh.length), (0, 0, rowR rs), (2, 0, zrI u), (3, 0, zrB b), (4, 0, zrI fr), (6, 0, rowE []), (5, 0, zrI wh), (8, 0, rowH (([] : List P2)))]) (.exit 0) ([(2, .pp 1 0), (5, .pp 7 0), (7, .ls 8 hv.length)]) ([(1, 0, .pv (.slice none 0 0)), (1, 1, .pv (.slice none 0 0)), (1, 2, .pv (.slice none 0 0)), (1, 3, .pv (.slice none 0 0)), (1, 4, .pv (.slice none 0 0)), (7, 0, .ls 2 u1.length), (7, 1, .ls 3 b1.length), (7, 2, .ls 4 f1.length), (7, 3, .ls 6 ev1.length), (7, 4, .ls 5 wh1.length), (0, 0, rowR rs), (2, 0, zrI u1), (3, 0, zrB b1), (4, 0, zrI f1), (6, 0, rowE ev1), (5, 0, zrI wh1), (8, 0, rowH (hv))])) :
    FnL Tryz.prog 35 1 [.ls 0 rs.length] [(0, 0, rowR rs)] (.tu [.ag [.ls 1 u1.length, .ls 2 b1.length, .ls 3 f1.length, .ls 4 ev1.length, .ls 5 wh1.length], .one (.ls 6 hv.length), .one (.pv (.bool true))]) 6 [(1, 0, zrI u1), (2, 0, zrB b1), (3, 0, zrI f1), (4, 0, rowE ev1), (5, 0, zrI wh1), (6, 0, rowH hv)] :=
  fnl_run 300 [(1, 2), (2, 3), (3, 4), (4, 6), (5, 5), (6, 8)] [.f [] [.pv (.int .i64 (50))] [] (.tu [.ag [.ls 0 u.length, .ls 1 b.length, .ls 2 fr.length, .ls 4 0, .ls 3 wh.length], .one (.pv (.int .i64 0))]) 5 [(0, 0, zrI u), (1, 0, zrB b), (2, 0, zrI fr), (3, 0, zrI wh), (4, 0, rowE [])], .k, .ln true 7 0 33 2, .l (.exit 0) ([(0, .ls 0 rs.length), (2, .pp 1 0), (5, .pp 7 0), (7, .ls 8 (([] : List P2)).length), (8, .pv (.int .i64 ((0 : Nat) : Int)))]) ([(1, 0, .pv (.slice none 0 0)), (1, 1, .pv (.slice none 0 0)), (1, 2, .pv (.slice none 0 0)), (1, 3, .pv (.slice none 0 0)), (1, 4, .pv (.slice none 0 0)), (7, 0, .ls 2 u.length), (7, 1, .ls 3 b.length), (7, 2, .ls 4 fr.length), (7, 3, .ls 6 0), (7, 4, .ls 5 wh.length), (0, 0, rowR rs), (2, 0, zrI u), (3, 0, zrB b), (4, 0, zrI fr), (6, 0, rowE []), (5, 0, zrI wh), (8, 0, rowH (([] : List P2)))]) ([(2, .pp 1 0), (5, .pp 7 0), (7, .ls 8 hv.length)]) ([(1, 0, .pv (.slice none 0 0)), (1, 1, .pv (.slice none 0 0)), (1, 2, .pv (.slice none 0 0)), (1, 3, .pv (.slice none 0 0)), (1, 4, .pv (.slice none 0 0)), (7, 0, .ls 2 u1.length), (7, 1, .ls 3 b1.length), (7, 2, .ls 4 f1.length), (7, 3, .ls 6 ev1.length), (7, 4, .ls 5 wh1.length), (0, 0, rowR rs), (2, 0, zrI u1), (3, 0, zrB b1), (4, 0, zrI f1), (6, 0, rowE ev1), (5, 0, zrI wh1), (8, 0, rowH (hv))])]
     (reflH (renN [(1, 2), (2, 3), (3, 4), (4, 6), (5, 5), (6, 8)]) [(1, 0, zrI u1), (2, 0, zrB b1), (3, 0, zrI f1), (4, 0, rowE ev1), (5, 0, zrI wh1), (6, 0, rowH hv)]) (And.intro hn (And.intro (Eq.refl (List.map (SV.ren (renU [] 2)) [.pv (.int .i64 (50))])) (And.intro (reflH (renU [] 2) []) (And.intro (reflT (renN []) ([(0, .ls 0 rs.length), (2, .pp 1 0), (5, .pp 7 0), (7, .ls 8 (([] : List P2)).length), (8, .pv (.int .i64 ((0 : Nat) : Int)))])) (And.intro (reflH (renN []) ([(1, 0, .pv (.slice none 0 0)), (1, 1, .pv (.slice none 0 0)), (1, 2, .pv (.slice none 0 0)), (1, 3, .pv (.slice none 0 0)), (1, 4, .pv (.slice none 0 0)), (7, 0, .ls 2 u.length), (7, 1, .ls 3 b.length), (7, 2, .ls 4 fr.length), (7, 3, .ls 6 0), (7, 4, .ls 5 wh.length), (0, 0, rowR rs), (2, 0, zrI u), (3, 0, zrB b), (4, 0, zrI fr), (6, 0, rowE []), (5, 0, zrI wh), (8, 0, rowH (([] : List P2)))])) (And.intro r0 True.intro)))))) (by kernel_rfl)

set_option maxRecDepth 100000 in
theorem pp_four {zs : List Ev} {m0 m1 m2 m3 : Ev} {y0 y1 y2 y3 : Int} (hx0 : zs[0]? = some m0) (hi0 : 0 ≤ ((0 : Nat) : Int) ∧ ((0 : Nat) : Int) < ((4 : Nat) : Int)) (he0 : (!(m0.k == y0)) = false) (hx1 : zs[1]? = some m1) (hi1 : 0 ≤ ((1 : Nat) : Int) ∧ ((1 : Nat) : Int) < ((4 : Nat) : Int)) (he1 : (!(m1.k == y1)) = false) (hx2 : zs[2]? = some m2) (hi2 : 0 ≤ ((2 : Nat) : Int) ∧ ((2 : Nat) : Int) < ((4 : Nat) : Int)) (he2 : (!(m2.k == y2)) = false) (hx3 : zs[3]? = some m3) (hi3 : 0 ≤ ((3 : Nat) : Int) ∧ ((3 : Nat) : Int) < ((4 : Nat) : Int)) (he3 : (!(m3.k == y3)) = false) :
    FnL Tryz.prog 55 2 [.ls 0 4, .ps 1 0 4 4] [(0, 0, .row 43 5 4 (evsV zs)), (1, 0, .pv (.int .i64 y0)), (1, 1, .pv (.int .i64 y1)), (1, 2, .pv (.int .i64 y2)), (1, 3, .pv (.int .i64 y3))] (.pv (.bool true)) 0 [] :=
  fnl_run 300 [] [.k, .k, .r (.int .i64 (m0.k)), .t false, .k, .k, .r (.int .i64 (m1.k)), .t false, .k, .k, .r (.int .i64 (m2.k)), .t false, .k, .k, .r (.int .i64 (m3.k)), .t false, .k, .k]
     True.intro (And.intro hi0 (And.intro (ya_k hx0) (And.intro he0 (And.intro hi1 (And.intro (ya_k hx1) (And.intro he1 (And.intro hi2 (And.intro (ya_k hx2) (And.intro he2 (And.intro hi3 (And.intro (ya_k hx3) (And.intro he3 True.intro)))))))))))) (by kernel_rfl)

abbrev rs4 : List P2 := [⟨5, 1⟩, ⟨3, 1⟩, ⟨4, 1⟩, ⟨3, 1⟩]

set_option maxRecDepth 100000 in
theorem al_path {u fr wh wh3 : List Int} {b : List Bool} {ev ev3 : List Ev} {ra : P2} {hv : List P2} {zs1 zs2 : List Ev} (hf : FnL Tryz.prog 35 1 [.ls 0 4] [(0, 0, rowR rs4)] (.tu [.ag [.ls 1 u.length, .ls 2 b.length, .ls 3 fr.length, .ls 4 ev.length, .ls 5 wh.length], .one (.ls 6 hv.length), .one (.pv (.bool true))]) 6 [(1, 0, zrI u), (2, 0, zrB b), (3, 0, zrI fr), (4, 0, rowE ev), (5, 0, zrI wh), (6, 0, rowH hv)]) (h4 : (!((hv.length : Int) == 4)) = false) (hz1 : FnL Tryz.prog 32 5 [agA u b fr ev wh] [(0, 0, zrI u), (1, 0, zrB b), (2, 0, zrI fr), (3, 0, rowE ev), (4, 0, zrI wh)] (.tu [.one (.ls 5 4), .one (.pv (.bool true))]) 1 [(5, 0, .row 43 5 4 (evsV zs1))]) (h0 : hv[0]? = some ra) (hi0 : 0 ≤ ((0 : Nat) : Int) ∧ ((0 : Nat) : Int) < (hv.length : Int)) (hrk : FnL Tryz.prog 18 5 [agA u b fr ev wh, .pv (handV ra.a ra.b), .pv (ratioV 7 2)] [(0, 0, zrI u), (1, 0, zrB b), (2, 0, zrI fr), (3, 0, rowE ev), (4, 0, zrI wh)] (.tu [.ag [.ls 5 u.length, .ls 6 b.length, .ls 7 fr.length, .ls 8 ev3.length, .ls 9 wh3.length], .one (.pv (.int .i64 0))]) 5 [(5, 0, zrI u), (6, 0, zrB b), (7, 0, zrI fr), (8, 0, rowE ev3), (9, 0, zrI wh3)]) (hz2 : FnL Tryz.prog 32 5 [agA u b fr ev3 wh3] [(0, 0, zrI u), (1, 0, zrB b), (2, 0, zrI fr), (3, 0, rowE ev3), (4, 0, zrI wh3)] (.tu [.one (.ls 5 4), .one (.pv (.bool true))]) 1 [(5, 0, .row 43 5 4 (evsV zs2))]) (hp1 : FnL Tryz.prog 55 2 [.ls 0 4, .ps 1 0 4 4] [(0, 0, .row 43 5 4 (evsV zs1)), (1, 0, .pv (.int .i64 1)), (1, 1, .pv (.int .i64 3)), (1, 2, .pv (.int .i64 2)), (1, 3, .pv (.int .i64 0))] (.pv (.bool true)) 0 []) (hp2 : FnL Tryz.prog 55 2 [.ls 0 4, .ps 1 0 4 4] [(0, 0, .row 43 5 4 (evsV zs2)), (1, 0, .pv (.int .i64 1)), (1, 1, .pv (.int .i64 3)), (1, 2, .pv (.int .i64 0)), (1, 3, .pv (.int .i64 2))] (.pv (.bool true)) 0 []) :
    FnL Tryz.prog 21 0 [] [] (.pv (.bool true)) 0 [] :=
  fnl_run 400 [] [.k, .k, .k, .k, .lw, .f [0] [.ls 0 4] [(0, 0, rowR rs4)] (.tu [.ag [.ls 1 u.length, .ls 2 b.length, .ls 3 fr.length, .ls 4 ev.length, .ls 5 wh.length], .one (.ls 6 hv.length), .one (.pv (.bool true))]) 6 [(1, 0, zrI u), (2, 0, zrB b), (3, 0, zrI fr), (4, 0, rowE ev), (5, 0, zrI wh), (6, 0, rowH hv)], .k, .t false, .f [1,2,3,4,5] [agA u b fr ev wh] [(0, 0, zrI u), (1, 0, zrB b), (2, 0, zrI fr), (3, 0, rowE ev), (4, 0, zrI wh)] (.tu [.one (.ls 5 4), .one (.pv (.bool true))]) 1 [(5, 0, .row 43 5 4 (evsV zs1))], .md, .r (handV ra.a ra.b), .f [1,2,3,4,5] [agA u b fr ev wh, .pv (handV ra.a ra.b), .pv (ratioV 7 2)] [(0, 0, zrI u), (1, 0, zrB b), (2, 0, zrI fr), (3, 0, rowE ev), (4, 0, zrI wh)] (.tu [.ag [.ls 5 u.length, .ls 6 b.length, .ls 7 fr.length, .ls 8 ev3.length, .ls 9 wh3.length], .one (.pv (.int .i64 0))]) 5 [(5, 0, zrI u), (6, 0, zrB b), (7, 0, zrI fr), (8, 0, rowE ev3), (9, 0, zrI wh3)], .f [9,10,11,12,13] [agA u b fr ev3 wh3] [(0, 0, zrI u), (1, 0, zrB b), (2, 0, zrI fr), (3, 0, rowE ev3), (4, 0, zrI wh3)] (.tu [.one (.ls 5 4), .one (.pv (.bool true))]) 1 [(5, 0, .row 43 5 4 (evsV zs2))], .f [8,16] [.ls 0 4, .ps 1 0 4 4] [(0, 0, .row 43 5 4 (evsV zs1)), (1, 0, .pv (.int .i64 1)), (1, 1, .pv (.int .i64 3)), (1, 2, .pv (.int .i64 2)), (1, 3, .pv (.int .i64 0))] (.pv (.bool true)) 0 [], .k, .f [15,17] [.ls 0 4, .ps 1 0 4 4] [(0, 0, .row 43 5 4 (evsV zs2)), (1, 0, .pv (.int .i64 1)), (1, 1, .pv (.int .i64 3)), (1, 2, .pv (.int .i64 0)), (1, 3, .pv (.int .i64 2))] (.pv (.bool true)) 0 []]
     True.intro (And.intro hf (And.intro (Eq.refl (List.map (SV.ren (renU [0] 1)) [.ls 0 4])) (And.intro (reflH (renU [0] 1) [(0, 0, rowR rs4)]) (And.intro h4 (And.intro hz1 (And.intro (Eq.refl (List.map (SV.ren (renU [1,2,3,4,5] 8)) [agA u b fr ev wh])) (And.intro (reflH (renU [1,2,3,4,5] 8) [(0, 0, zrI u), (1, 0, zrB b), (2, 0, zrI fr), (3, 0, rowE ev), (4, 0, zrI wh)]) (And.intro hi0 (And.intro (ya_p h0) (And.intro hrk (And.intro (Eq.refl (List.map (SV.ren (renU [1,2,3,4,5] 9)) [agA u b fr ev wh, .pv (handV ra.a ra.b), .pv (ratioV 7 2)])) (And.intro (reflH (renU [1,2,3,4,5] 9) [(0, 0, zrI u), (1, 0, zrB b), (2, 0, zrI fr), (3, 0, rowE ev), (4, 0, zrI wh)]) (And.intro hz2 (And.intro (Eq.refl (List.map (SV.ren (renU [9,10,11,12,13] 15)) [agA u b fr ev3 wh3])) (And.intro (reflH (renU [9,10,11,12,13] 15) [(0, 0, zrI u), (1, 0, zrB b), (2, 0, zrI fr), (3, 0, rowE ev3), (4, 0, zrI wh3)]) (And.intro hp1 (And.intro (Eq.refl (List.map (SV.ren (renU [8,16] 17)) [.ls 0 4, .ps 1 0 4 4])) (And.intro (reflH (renU [8,16] 17) [(0, 0, .row 43 5 4 (evsV zs1)), (1, 0, .pv (.int .i64 1)), (1, 1, .pv (.int .i64 3)), (1, 2, .pv (.int .i64 2)), (1, 3, .pv (.int .i64 0))]) (And.intro hp2 (And.intro (Eq.refl (List.map (SV.ren (renU [15,17] 18)) [.ls 0 4, .ps 1 0 4 4])) (And.intro (reflH (renU [15,17] 18) [(0, 0, .row 43 5 4 (evsV zs2)), (1, 0, .pv (.int .i64 1)), (1, 1, .pv (.int .i64 3)), (1, 2, .pv (.int .i64 0)), (1, 3, .pv (.int .i64 2))]) True.intro))))))))))))))))))))) (by kernel_rfl)

end Go.Proofs.YtclpegneiomakaaGreat
