/-
  A field that came in: its list of points, read; a call run on it. Conditions: none.
-/
import Derived.Test.YtjjmnoiffpnphaaW29
import Derived.ProofKit
import Derived.OpenShut
import Derived.Lib.SmallJoins
import Derived.Deep.Slices
import Derived.Deep.Strs
import Derived.Deep.Fields
import Derived.Carry
namespace Go.Proofs.Ytjjmnoiffpnphaa
open Go.ChangeShapes Go.WideShapes Go.ChangeAt Go.RowKit Go.Joins Go.Deep
theorem fld_cells : Try.prog.cellsOf 44 = 1 := by kernel_rfl
theorem fld_sl : Try.prog.cellsOf 42 = 1 := by kernel_rfl
theorem fld_pt : Try.prog.cellsOf 50 = 3 := by kernel_rfl
theorem fld_int : Try.prog.cellsOf 3 = 1 := by kernel_rfl
theorem fld_i64 : Try.prog.cellsOf 2 = 1 := by kernel_rfl
theorem fld_read : Try.prog.readableRec 44 = true := by kernel_rfl
theorem fld_row : 44 < Try.prog.types.size := of_decide_eq_true (by kernel_rfl)

section
variable {H : Type} {enc : TypeId × Value → H} {W : World} {base : Nat} {spare : Nat → Bool} {held : Bool}
theorem pts_of (f : Nat → Pt) : ∀ (n j : Nat) (v : Value), (ptsV ((List.range n).map f))[j]? = some v → j / 3 < n ∧ [Value.int .i64 (f (j / 3)).id, .int .i64 (f (j / 3)).a, .int .i64 (f (j / 3)).b][j % 3]? = some v := by
  intro n j v h
  have hj : j < n * 3 := by
    have := (List.getElem?_eq_some_iff.1 h).1
    rw [ptsV_length] at this
    simpa using this
  have hk : j / 3 < n := by omega
  have hg := ptsV_get (l := (List.range n).map f) (k := j / 3) (p := f (j / 3)) (by simp [hk])
  refine ⟨hk, ?_⟩
  have h3 : j % 3 = 0 ∨ j % 3 = 1 ∨ j % 3 = 2 := by omega
  have e : j = j / 3 * 3 + j % 3 := by omega
  rw [e] at h
  rcases h3 with e3 | e3 | e3 <;> rw [e3] at h ⊢
  · rw [Nat.add_zero, hg.1] at h; exact h
  · rw [hg.2.1] at h; exact h
  · rw [hg.2.2] at h; exact h
set_option maxRecDepth 100000 in
theorem open_pts {fuel : Nat} {cs : List Value} {x : DataW H × List MemPlace} (h : DataW.trod enc Try.prog W base spare held fuel 42 cs = some x) :
    ∃ (u : Value) (l : List Pt), cs = [u] ∧ Rd W 3 u l.length (ptsV l) ∧ ∀ p ∈ l, ((Lit.int .i64 p.id).wf = true ∧ (Lit.int .i64 p.a).wf = true ∧ (Lit.int .i64 p.b).wf = true) := by
  rcases open_slice Try.underlying42 h with ⟨rfl, _⟩ | ⟨a, len, cap, m, n, D, Pl, rfl, _, hlc, _, hm, _, hi⟩
  · exact ⟨_, [], rfl, ⟨rfl, none, 0, rfl, Nat.le_refl _, fun j v hv => by simp [ptsV] at hv⟩, fun p hp => by simp at hp⟩
  have hlm : len ≤ m := by rw [hm]; split <;> omega
  have each : ∀ i, i < len → ∃ p : Pt, W.cell? (a.add (i * 3)) = some (.int .i64 p.id) ∧ W.cell? (a.add (i * 3 + 1)) = some (.int .i64 p.a) ∧ W.cell? (a.add (i * 3 + 2)) = some (.int .i64 p.b) ∧
      ((Lit.int .i64 p.id).wf = true ∧ (Lit.int .i64 p.a).wf = true ∧ (Lit.int .i64 p.b).wf = true) := by
    intro i hil
    obtain ⟨cs', hc, ht⟩ := hi i (by omega)
    rw [fld_pt] at hc
    obtain ⟨y0, y1, y2, n', _, hlen, t0, t1, t2⟩ := trod_struct3 Try.underlying50 ht
    obtain ⟨_, hcl, hat⟩ := World.cells?_some hc
    match cs', hcl with
    | [c0, c1, c2], _ =>
      obtain ⟨pi, e0, _, w0⟩ := DataW.trod_int Try.underlying3 t0
      obtain ⟨pa, e1, _, w1⟩ := DataW.trod_int Try.underlying2 t1
      obtain ⟨pb, e2, _, w2⟩ := DataW.trod_int Try.underlying2 t2
      simp [fld_int, fld_i64] at e0 e1 e2
      refine ⟨⟨pi, pa, pb⟩, ?_, ?_, ?_, w0, w1, w2⟩
      · have := hat 0 (by omega); rw [add_add] at this; simpa [e0] using this
      · have := hat 1 (by omega); rw [add_add] at this; simpa [e1] using this
      · have := hat 2 (by omega); rw [add_add] at this; simpa [e2] using this
  haveI : Inhabited Pt := ⟨⟨0, 0, 0⟩⟩
  obtain ⟨f, hf⟩ := choose_lt (α := Pt) each
  refine ⟨_, (List.range len).map f, rfl, ⟨ptsV_length _, some a, cap, by simp, by simpa using hlc, fun j v hv => ?_⟩, fun p hp => ?_⟩
  · obtain ⟨hk, he⟩ := pts_of f len j v hv
    obtain ⟨c0, c1, c2, _⟩ := hf _ hk
    have hcell : W.cell? (a.add j) = some v := by
      have h3 : j % 3 = 0 ∨ j % 3 = 1 ∨ j % 3 = 2 := by omega
      have e : j = j / 3 * 3 + j % 3 := by omega
      rcases h3 with e3 | e3 | e3 <;> rw [e3] at he e <;> rw [e] <;> simp at he <;> subst he
      · exact c0
      · exact c1
      · exact c2
    obtain ⟨b, off, spot⟩ := a
    have hs : spot = none := by simpa [Addr.add] using World.cell?_spot (hf 0 (by omega)).1
    subst hs
    exact ⟨b, off, rfl, by rw [← Go.WideShapes.add_plain]; exact hcell⟩
  · obtain ⟨i, hi', rfl⟩ := List.mem_map.1 hp
    exact (hf i (List.mem_range.1 hi')).2.2.2
set_option maxRecDepth 100000 in
theorem open_fld {r : Reach} {b0 : Nat} {v : Value} {d : DataW H} {p : List MemPlace} (hv : Value.okWide Try.prog W r b0 44 v) (h : DataW.Trod enc Try.prog W base spare held 44 v d p) :
    ∃ (u : Value) (l : List Pt), v = .agg #[u] ∧ Rd W 3 u l.length (ptsV l) ∧ ∀ p ∈ l, ((Lit.int .i64 p.id).wf = true ∧ (Lit.int .i64 p.a).wf = true ∧ (Lit.int .i64 p.b).wf = true) := by
  obtain ⟨cs, rfl, hsz⟩ := okWide_struct Try.underlying44 hv
  obtain ⟨fuel, hf⟩ := h
  obtain ⟨y0, n, _, hlen, h0⟩ := trod_struct1 Try.underlying44 hf
  obtain ⟨u, l, hc, hr, hb⟩ := open_pts h0
  refine ⟨u, l, ?_, hr, hb⟩
  rw [fld_sl] at hc
  have h1 : cs.size = 1 := hsz.trans fld_cells
  obtain ⟨c0, rfl⟩ : ∃ c0, cs = #[c0] := by
    obtain ⟨L⟩ := cs
    match L, h1 with
    | [c0], _ => exact ⟨c0, rfl⟩
  simp [Value.cells] at hc
  rw [hc]
end
/-- The name 0 stands for the list that came in. -/
def inB (u : Value) : Bl := ⟨fun _ => none, fun b => if b = 0 then some u else none⟩
theorem pts_one : ∀ (l : List Pt) (v : Value), v ∈ ptsV l → v.oneCell' = true
  | [], _, h => by simp [ptsV] at h
  | p :: r, v, h => by
    simp only [ptsV, List.mem_cons] at h
    rcases h with rfl | rfl | rfl | h
    · rfl
    · rfl
    · rfl
    · exact pts_one r v h
theorem in_rel {W : World} {u : Value} {l : List Pt} (h : Rd W 3 u l.length (ptsV l)) : HRel W 1 (inB u) [(0, 0, rowP l)] W where
  gr := Gr.refl W
  live := fun b r h => by cases h
  inj := fun b c r h => by cases h
  new := fun b r _ h => by cases h
  sep := fun b r h => by cases h
  cells := fun b o sv hl hs => by
    simp only [lookH] at hl
    cases hc : (Nat.beq 0 b && Nat.beq 0 o) <;> rw [hc] at hl
    · cases hl
    · cases hl; cases hs
  rows := fun b o e es n xs hl => by
    simp only [lookH] at hl
    cases hc : (Nat.beq 0 b && Nat.beq 0 o) <;> rw [hc] at hl
    · cases hl
    · cases hl
      rw [Bool.and_eq_true] at hc
      have hb : 0 = b := Nat.eq_of_beq_eq_true hc.1
      subst hb
      exact ⟨u, rfl, h, pts_one l, fun _ hx => h.lt hx, fun h => by omega, fun h => by omega⟩
  rinj := fun b o e es n xs c o' e' es' n' xs' u v hl hl' h1 h2 => by
    simp only [lookH] at hl
    cases hc : (Nat.beq 0 b && Nat.beq 0 o) <;> rw [hc] at hl
    · cases hl
    · rw [Bool.and_eq_true] at hc
      have hb : 0 = b := Nat.eq_of_beq_eq_true hc.1
      omega
  maps := fun b o xs hl => (noMaps (by rfl) hl).elim
theorem in_dom (u : Value) : (inB u).dom 1 := fun b hb => ⟨rfl, if_neg (by omega)⟩
theorem in_fld {W : World} {u : Value} {l : List Pt} (h : Rd W 3 u l.length (ptsV l)) : SV.is (inB u) (fldS 0 l) (.agg #[u]) := by
  obtain ⟨_, a, c, hu, _⟩ := h
  exact ⟨[u], ⟨⟨rfl, a, c, hu⟩, True.intro⟩, rfl⟩
/-- A law over a field and plain arguments, run. -/
theorem fld_run {W : World} {u : Value} {l : List Pt} {f : FuncId} {vs : List Value} (h : FnL Try.prog f 1 (fldS 0 l :: vs.map .pv) [(0, 0, rowP l)] (.pv (.bool true)) 0 []) (hr : Rd W 3 u l.length (ptsV l)) :
    Calls Try.prog f (.agg #[u] :: vs).toArray W fun e W' => e = .returned (.bool true) ∧ Gr W W' := by
  have hvs : ∀ vs : List Value, SV.isl (inB u) (vs.map .pv) vs := by
    intro vs
    induction vs with
    | nil => exact True.intro
    | cons v r ih => exact ⟨rfl, ih⟩
  refine (h W (inB u) (.agg #[u] :: vs) (in_rel hr) (in_dom u) ⟨in_fld hr, hvs vs⟩).mono fun e W' ⟨v, β', he, _, hx, hh, _⟩ => ?_
  cases hx
  exact ⟨he, hh.gr⟩
end Go.Proofs.Ytjjmnoiffpnphaa
