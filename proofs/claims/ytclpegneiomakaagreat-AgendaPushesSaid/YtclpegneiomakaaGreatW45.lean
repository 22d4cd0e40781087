/-
  Joined: Yp, Ys, Yv, Yz, Ve. Conditions: none.
-/
import Derived.Test.YtclpegneiomakaaGreatYo
import Derived.Test.YtclpegneiomakaaGreatZj
namespace Go.Proofs.YtclpegneiomakaaGreat
open Go.RowKit
structure P2 where
  a : Int
  b : Int
deriving DecidableEq
def p2V : List P2 → List Value
  | [] => []
  | m :: r => .int .i64 m.a :: .int .i64 m.b :: p2V r
abbrev rowR (l : List P2) : SV := .row 38 2 l.length (p2V l)
abbrev rowH (l : List P2) : SV := .row 33 2 l.length (p2V l)
end Go.Proofs.YtclpegneiomakaaGreat

namespace Go.Proofs.YtclpegneiomakaaGreat
open Go.RowKit
theorem VA.new {n : Nat} (h1 : 1 ≤ n) (h2 : n ≤ 200) : VA (List.replicate n 0) (List.replicate n false) (descZ n) [] (List.replicate n (-1)) := by
  refine VA.of (Vd.new h1 h2) (by simp) (fun j x hx => by simp at hx) (fun x hx => by simp at hx) (fun k hk => ?_) (fun k hk => ?_) (by simp [List.count_replicate]) (fun x hx => by simp at hx) (by simp) (fun k _ x y hx => by simp at hx)
  · have := List.eq_of_mem_replicate (List.mem_of_getElem? hk)
    cases this
  · have := (List.getElem?_eq_some_iff.1 hk).1
    simp at this
    simp [this]
end Go.Proofs.YtclpegneiomakaaGreat

namespace Go.Proofs.YtclpegneiomakaaGreat
open Go.ChangeShapes Go.WideShapes Go.ChangeAt Go.RowKit Go.Joins Go.Deep
theorem yl_ev : Tryz.prog.cellsOf 43 = 5 := by kernel_rfl
theorem yl_ra : Tryz.prog.cellsOf 38 = 2 := by kernel_rfl
theorem yl_ha : Tryz.prog.cellsOf 33 = 2 := by kernel_rfl
theorem yl_i64 : Tryz.prog.cellsOf 2 = 1 := by kernel_rfl
theorem yl_es : Tryz.prog.cellsOf 26 = 1 := by kernel_rfl
theorem yl_ag : Tryz.prog.cellsOf 28 = 5 := by kernel_rfl
theorem yl_read : Tryz.prog.readableRec 28 = true := by kernel_rfl
theorem yl_row : 28 < Tryz.prog.types.size := of_decide_eq_true (by kernel_rfl)
theorem wf64 {n : Int} (h : (Lit.int .i64 n).wf = true) : I64 n := by
  simp only [Lit.wf, Bool.and_eq_true, decide_eq_true_eq] at h
  have h1 : IntKind.i64.min = -9223372036854775808 := by decide
  have h2 : IntKind.i64.max = 9223372036854775807 := by decide
  rw [h1, h2] at h
  exact h
section
variable {H : Type} {enc : TypeId × Value → H} {W : World} {base : Nat} {spare : Nat → Bool} {held : Bool}
theorem evs_of (f : Nat → Ev) : ∀ (n j : Nat) (v : Value), (evsV ((List.range n).map f))[j]? = some v → j / 5 < n ∧ (ecV (f (j / 5)))[j % 5]? = some v := by
  intro n j v h
  have hj : j < n * 5 := by
    have := (List.getElem?_eq_some_iff.1 h).1
    rw [evsV_length] at this
    simpa using this
  have hk : j / 5 < n := by omega
  obtain ⟨g0, g1, g2, g3, g4⟩ := evsV_get (l := (List.range n).map f) (k := j / 5) (m := f (j / 5)) (by simp [hk])
  refine ⟨hk, ?_⟩
  have h5 : j % 5 = 0 ∨ j % 5 = 1 ∨ j % 5 = 2 ∨ j % 5 = 3 ∨ j % 5 = 4 := by omega
  have e : j = j / 5 * 5 + j % 5 := by omega
  rw [e] at h
  rcases h5 with e3 | e3 | e3 | e3 | e3 <;> rw [e3] at h ⊢
  · rw [Nat.add_zero, g0] at h; exact h
  · rw [g1] at h; exact h
  · rw [g2] at h; exact h
  · rw [g3] at h; exact h
  · rw [g4] at h; exact h
set_option maxRecDepth 100000 in
theorem open_evs {fuel : Nat} {cs : List Value} {x : DataW H × List MemPlace} (h : DataW.trod enc Tryz.prog W base spare held fuel 26 cs = some x) :
    ∃ (u : Value) (l : List Ev), cs = [u] ∧ Rd W 5 u l.length (evsV l) ∧ ∀ p ∈ l, EvI p := by
  rcases open_slice Tryz.underlying26 h with ⟨rfl, _⟩ | ⟨a, len, cap, m, n, D, Pl, rfl, _, hlc, _, hm, _, hi⟩
  · exact ⟨_, [], rfl, ⟨rfl, none, 0, rfl, Nat.le_refl _, fun j v hv => by simp [evsV] at hv⟩, fun p hp => by simp at hp⟩
  have hlm : len ≤ m := by rw [hm]; split <;> omega
  have each : ∀ i, i < len → ∃ p : Ev, (W.cell? (a.add (i * 5)) = some (.int .i64 p.n) ∧ W.cell? (a.add (i * 5 + 1)) = some (.int .i64 p.d) ∧ W.cell? (a.add (i * 5 + 2)) = some (.int .i64 p.k) ∧ W.cell? (a.add (i * 5 + 3)) = some (.int .i64 p.i) ∧ W.cell? (a.add (i * 5 + 4)) = some (.int .i64 p.w)) ∧ EvI p := by
    intro i hil
    obtain ⟨cs', hc, ht⟩ := hi i (by omega)
    rw [yl_ev] at hc
    obtain ⟨y0, y1, y2, n', _, hlen, t0, t1, t2⟩ := trod_struct3 Tryz.underlying43 ht
    obtain ⟨z0, z1, n2, _, hlen2, s0, s1⟩ := trod_struct2 Tryz.underlying38 t0
    obtain ⟨z2, z3, n3, _, hlen3, s2, s3⟩ := trod_struct2 Tryz.underlying33 t2
    obtain ⟨_, hcl, hat⟩ := World.cells?_some hc
    match cs', hcl with
    | [c0, c1, c2, c3, c4], _ =>
      obtain ⟨pn, e0, _, w0⟩ := DataW.trod_int Tryz.underlying2 s0
      obtain ⟨pd, e1, _, w1⟩ := DataW.trod_int Tryz.underlying2 s1
      obtain ⟨pk, e2, _, w2⟩ := DataW.trod_int Tryz.underlying3 t1
      obtain ⟨pi, e3, _, w3⟩ := DataW.trod_int Tryz.underlying3 s2
      obtain ⟨pw, e4, _, w4⟩ := DataW.trod_int Tryz.underlying3 s3
      simp [zl_i, yl_i64, yl_ra, yl_ha] at e0 e1 e2 e3 e4
      refine ⟨⟨pn, pd, pk, pi, pw⟩, ⟨?_, ?_, ?_, ?_, ?_⟩, wf64 w0, wf64 w1⟩
      · have := hat 0 (by omega); rw [add_add] at this; simpa [e0] using this
      · have := hat 1 (by omega); rw [add_add] at this; simpa [e1] using this
      · have := hat 2 (by omega); rw [add_add] at this; simpa [e2] using this
      · have := hat 3 (by omega); rw [add_add] at this; simpa [e3] using this
      · have := hat 4 (by omega); rw [add_add] at this; simpa [e4] using this
  haveI : Inhabited Ev := ⟨⟨0, 0, 0, 0, 0⟩⟩
  obtain ⟨f, hf⟩ := choose_lt (α := Ev) each
  refine ⟨_, (List.range len).map f, rfl, ⟨evsV_length _, some a, cap, by simp, by simpa using hlc, fun j v hv => ?_⟩, fun p hp => ?_⟩
  · obtain ⟨hk, he⟩ := evs_of f len j v hv
    obtain ⟨c0, c1, c2, c3, c4⟩ := (hf _ hk).1
    have hcell : W.cell? (a.add j) = some v := by
      have h5 : j % 5 = 0 ∨ j % 5 = 1 ∨ j % 5 = 2 ∨ j % 5 = 3 ∨ j % 5 = 4 := by omega
      have e : j = j / 5 * 5 + j % 5 := by omega
      rcases h5 with e3 | e3 | e3 | e3 | e3 <;> rw [e3] at he e <;> rw [e] <;> simp at he <;> subst he
      · exact c0
      · exact c1
      · exact c2
      · exact c3
      · exact c4
    obtain ⟨b, off, spot⟩ := a
    have hs : spot = none := by simpa [Addr.add] using World.cell?_spot (hf 0 (by omega)).1.1
    subst hs
    exact ⟨b, off, rfl, by rw [← Go.WideShapes.add_plain]; exact hcell⟩
  · obtain ⟨i, hi', rfl⟩ := List.mem_map.1 hp
    exact (hf i (List.mem_range.1 hi')).2
set_option maxRecDepth 100000 in
theorem open_agenda {r : Reach} {b0 : Nat} {v : Value} {d : DataW H} {p : List MemPlace} (hv : Value.okWide Tryz.prog W r b0 28 v) (h : DataW.Trod enc Tryz.prog W base spare held 28 v d p) :
    ∃ (u0 u1 u2 u3 u4 : Value) (lu : List Int) (lb : List Bool) (lf : List Int) (le : List Ev) (lw : List Int), v = .agg #[u0, u1, u2, u3, u4] ∧ Rd W 1 u0 lu.length (ziV lu) ∧ Rd W 1 u1 lb.length (zbV lb) ∧ Rd W 1 u2 lf.length (ziV lf) ∧ Rd W 5 u3 le.length (evsV le) ∧ Rd W 1 u4 lw.length (ziV lw) ∧ ∀ x ∈ le, EvI x := by
  obtain ⟨cs, rfl, hsz⟩ := okWide_struct Tryz.underlying28 hv
  obtain ⟨fuel, hf⟩ := h
  obtain ⟨y0, y1, y2, n, _, hlen, h0, h1, h2⟩ := trod_struct3 Tryz.underlying28 hf
  obtain ⟨x0, x1, x2, n2, _, hlen2, k0, k1, k2⟩ := trod_struct3 Tryz.underlying25 h0
  obtain ⟨u0, l0, hc0, r0, _⟩ := zopen_ints k0
  obtain ⟨u1, l1, hc1, r1⟩ := zopen_bools k1
  obtain ⟨u2, l2, hc2, r2, _⟩ := zopen_ints k2
  obtain ⟨u3, l3, hc3, r3, w3⟩ := open_evs h1
  obtain ⟨u4, l4, hc4, r4, _⟩ := zopen_ints h2
  refine ⟨u0, u1, u2, u3, u4, l0, l1, l2, l3, l4, ?_, r0, r1, r2, r3, r4, w3⟩
  rw [zl_is] at hc0 hc2 hc4
  rw [zl_bs] at hc1
  rw [yl_es] at hc3
  rw [zl_sl] at hc0 hc1 hc2
  have hs : cs.size = 5 := hsz.trans yl_ag
  obtain ⟨L⟩ := cs
  match L, hs with
  | [c0, c1, c2, c3, c4], _ =>
    simp [Value.cells] at hc0 hc1 hc2 hc3 hc4
    rw [hc0, hc1, hc2, hc3, hc4]
end
theorem agenda_in {W : World} {u0 u1 u2 u3 u4 : Value} {lu lf lw : List Int} {lb : List Bool} {le : List Ev} {us : List Value} (h0 : Rd W 1 u0 lu.length (ziV lu)) (h1 : Rd W 1 u1 lb.length (zbV lb)) (h2 : Rd W 1 u2 lf.length (ziV lf)) (h3 : Rd W 5 u3 le.length (evsV le)) (h4 : Rd W 1 u4 lw.length (ziV lw)) :
    SV.is (zinBs (u0 :: u1 :: u2 :: u3 :: u4 :: us)) (agA lu lb lf le lw) (.agg #[u0, u1, u2, u3, u4]) :=
  ⟨[u0, u1, u2, u3, u4], ⟨⟨rfl, h0.zsl⟩, ⟨rfl, h1.zsl⟩, ⟨rfl, h2.zsl⟩, ⟨rfl, h3.zsl⟩, ⟨rfl, h4.zsl⟩, True.intro⟩, rfl⟩
end Go.Proofs.YtclpegneiomakaaGreat

namespace Go.Proofs.YtclpegneiomakaaGreat
open Go.RowKit
section
variable {u fr wh : List Int} {b : List Bool} {ev : List Ev}
theorem VA.one {x y : Ev} (h : VA u b fr ev wh) (hx : x ∈ ev) (hy : y ∈ ev) (e : x.i = y.i) : x = y := by
  obtain ⟨j, hj⟩ := List.mem_iff_getElem?.1 hx
  obtain ⟨k, hk⟩ := List.mem_iff_getElem?.1 hy
  have := h.con.inj hj hk e
  subst this
  rw [hj] at hk
  exact Option.some.inj hk
/-- The place of an event that is there. -/
theorem VA.place {x : Ev} (h : VA u b fr ev wh) (hm : x ∈ ev) : ∃ j : Nat, ev[j]? = some x ∧ wh[x.i.toNat]? = some (j : Int) ∧ Live u b x.i x.w := by
  obtain ⟨j, hj⟩ := List.mem_iff_getElem?.1 hm
  exact ⟨j, hj, (h.own hj).2, (h.own hj).1⟩
section
variable {u2 f2 wh3 : List Int} {b2 : List Bool} {ev3 : List Ev} {gi gw : Int}
end
end
end Go.Proofs.YtclpegneiomakaaGreat

namespace Go.Proofs.YtclpegneiomakaaGreat
open Go.RowKit
section
/-- A nil slice as an empty list of the run's own. -/
theorem nil_own1 {f : FuncId} {args : List SV} {n0 n1 n2 n3 : Nat} {r0 r1 r2 r3 : SV}
    (h : FnL Tryz.prog f 0 args [] (.ag [.ls 0 n0, .ls 1 n1, .ls 2 n2, .pv (.slice none 0 0), .ls 3 n3]) 4 [(0, 0, r0), (1, 0, r1), (2, 0, r2), (3, 0, r3)]) (hr : r0.isRow = true ∧ r1.isRow = true ∧ r2.isRow = true ∧ r3.isRow = true) :
    FnL Tryz.prog f 0 args [] (.ag [.ls 0 n0, .ls 1 n1, .ls 2 n2, .ls 4 0, .ls 3 n3]) 5 [(0, 0, r0), (1, 0, r1), (2, 0, r2), (3, 0, r3), (4, 0, rowE [])] := by
  intro w β us hH hd hi
  refine (h w β us hH hd hi).mono fun e w' ⟨v, β', he, hle, hx, hh, hd'⟩ => ?_
  obtain ⟨ws, hws, h0⟩ := hx
  match ws, hws with
  | [a0, a1, a2, a3, a4], ⟨k0, k1, k2, k3, k4, _⟩ =>
  have k3' : a3 = .slice none 0 0 := k3
  subst k3' h0
  have hd4 := hd' 4 (by omega)
  have hle4 : β'.le (β'.setG 4 (.slice none 0 0)) := Bl.le_setG hd4.1 hd4.2
  refine ⟨_, β'.setG 4 (.slice none 0 0), he, Bl.le_trans hle hle4, ⟨[a0, a1, a2, .slice none 0 0, a4], ⟨S0.is_mono hle4 k0, S0.is_mono hle4 k1, S0.is_mono hle4 k2, ⟨Bl.setG_same _ _ _, none, 0, rfl⟩, S0.is_mono hle4 k4, True.intro⟩, rfl⟩, ?_, zsetG_dom hd'⟩
  have ho : w'.ownsRow w.heap.size 43 5 (.slice none 0 0) 0 [] := ⟨rfl, Or.inl ⟨rfl, rfl⟩⟩
  have look : ∀ c o s, lookH [(0, 0, r0), (1, 0, r1), (2, 0, r2), (3, 0, r3), (4, 0, rowE [])] c o = some s → (c = 4 ∧ o = 0 ∧ s = rowE []) ∨ (c ≠ 4 ∧ lookH [(0, 0, r0), (1, 0, r1), (2, 0, r2), (3, 0, r3)] c o = some s) := by
    intro c o s hs
    by_cases hc : c = 4
    · subst hc
      simp only [lookH_cons, if_neg (show ¬ ((0 : Nat) = 4 ∧ (0 : Nat) = o) by omega), if_neg (show ¬ ((1 : Nat) = 4 ∧ (0 : Nat) = o) by omega), if_neg (show ¬ ((2 : Nat) = 4 ∧ (0 : Nat) = o) by omega), if_neg (show ¬ ((3 : Nat) = 4 ∧ (0 : Nat) = o) by omega)] at hs
      split at hs
      · rename_i e4
        exact Or.inl ⟨rfl, e4.2.symm, (Option.some.inj hs).symm⟩
      · cases hs
    · refine Or.inr ⟨hc, ?_⟩
      have e4 : ¬ ((4 : Nat) = c ∧ (0 : Nat) = o) := fun e => hc e.1.symm
      simp only [lookH_cons] at hs ⊢
      rw [if_neg e4] at hs
      exact hs
  refine ⟨hh.gr, hh.live, hh.inj, hh.new, fun c r hc => ?_, fun c o s hs hsr => ?_, fun c o e es n xs hs => ?_, fun c o e es n xs c' o' e' es' n' xs' u v hs hs' h1 h2 hne gu gv k hu hv => ?_⟩
  · have hc' : β' c = some r := hc
    have : c ≠ 4 := fun e => by subst e; rw [hd4.1] at hc'; cases hc'
    show (if c = 4 then _ else β'.g c) = none
    rw [if_neg this]
    exact hh.sep c r hc'
  · rcases look _ _ _ hs with ⟨_, _, rfl⟩ | ⟨_, hs⟩
    · cases hsr
    · obtain ⟨r, uu, g1, g2, g3⟩ := hh.cells c o s hs hsr
      exact ⟨r, uu, g1, SV.is_mono hle4 g2, g3⟩
  · rcases look _ _ _ hs with ⟨rfl, _, e1⟩ | ⟨hc, hs⟩
    · cases e1
      refine ⟨_, Bl.setG_same _ _ _, owns_rd ho, (fun v hv => by cases hv), fun h => by omega, fun _ => ho, fun _ c r hc hu => by cases hu⟩
    · obtain ⟨uu, g1, g2⟩ := hh.rows c o e es n xs hs
      exact ⟨uu, hle4.g g1, g2.rd, g2.one, g2.low, g2.own, fun h c' r hc' hu => g2.apart h c' r hc' hu⟩
  · rcases look _ _ _ hs with ⟨rfl, _, e1⟩ | ⟨hc, hs⟩
    · have gu' := gu
      rw [Bl.setG_same] at gu'
      cases gu'; cases hu
    · rcases look _ _ _ hs' with ⟨rfl, _, e1⟩ | ⟨hc2, hs2⟩
      · have gv' := gv
        rw [Bl.setG_same] at gv'
        cases gv'; cases hv
      · have e1 : β'.g c = some u := by
          have g' : (if c = 4 then some (Value.slice none 0 0) else β'.g c) = some u := gu
          rwa [if_neg hc] at g'
        have e2 : β'.g c' = some v := by
          have g' : (if c' = 4 then some (Value.slice none 0 0) else β'.g c') = some v := gv
          rwa [if_neg hc2] at g'
        exact hh.rinj c o e es n xs c' o' e' es' n' xs' u v hs hs2 h1 h2 hne e1 e2 k hu hv
end
section
variable {u0 fr0 wh0 : List Int} {b0 : List Bool}
end
end Go.Proofs.YtclpegneiomakaaGreat
