/-
  Lists of leads that came in; a call run on a field and lists. Conditions: none.
-/
import Derived.Test.YtpngjeloiifgnaaGreatFq
import Derived.Test.YtpngjeloiifgnaaGreatW37
namespace Go.Proofs.YtpngjeloiifgnaaGreat
open Go.ChangeShapes Go.WideShapes Go.ChangeAt Go.RowKit Go.Joins Go.Deep
theorem lds_ld : Tryz.prog.cellsOf 57 = 3 := by kernel_rfl
theorem lds_ra : Tryz.prog.cellsOf 36 = 2 := by kernel_rfl
theorem lds_read : Tryz.prog.readableRec 25 = true := by kernel_rfl
theorem lds_row : 25 < Tryz.prog.types.size := of_decide_eq_true (by kernel_rfl)

section
variable {H : Type} {enc : TypeId × Value → H} {W : World} {base : Nat} {spare : Nat → Bool} {held : Bool}
theorem lds_of (f : Nat → Ld) : ∀ (n j : Nat) (v : Value), (ldsV ((List.range n).map f))[j]? = some v → j / 3 < n ∧ [Value.int .i64 (f (j / 3)).n, .int .i64 (f (j / 3)).d, .int .i64 (f (j / 3)).id][j % 3]? = some v := by
  intro n j v h
  have hj : j < n * 3 := by
    have := (List.getElem?_eq_some_iff.1 h).1
    rw [ldsV_length] at this
    simpa using this
  have hk : j / 3 < n := by omega
  have hg := ldsV_get (l := (List.range n).map f) (k := j / 3) (m := f (j / 3)) (by simp [hk])
  refine ⟨hk, ?_⟩
  have h3 : j % 3 = 0 ∨ j % 3 = 1 ∨ j % 3 = 2 := by omega
  have e : j = j / 3 * 3 + j % 3 := by omega
  rw [e] at h
  rcases h3 with e3 | e3 | e3 <;> rw [e3] at h ⊢
  · rw [Nat.add_zero, hg.1] at h; exact h
  · rw [hg.2.1] at h; exact h
  · rw [hg.2.2] at h; exact h
set_option maxRecDepth 100000 in
theorem open_lds0 {fuel : Nat} {cs : List Value} {x : DataW H × List MemPlace} (h : DataW.trod enc Tryz.prog W base spare held fuel 25 cs = some x) :
    ∃ (u : Value) (l : List Ld), cs = [u] ∧ Rd W 3 u l.length (ldsV l) ∧ ∀ p ∈ l, ((Lit.int .i64 p.n).wf = true ∧ (Lit.int .i64 p.d).wf = true ∧ (Lit.int .i64 p.id).wf = true) := by
  rcases open_slice Tryz.underlying25 h with ⟨rfl, _⟩ | ⟨a, len, cap, m, n, D, Pl, rfl, _, hlc, _, hm, _, hi⟩
  · exact ⟨_, [], rfl, ⟨rfl, none, 0, rfl, Nat.le_refl _, fun j v hv => by simp [ldsV] at hv⟩, fun p hp => by simp at hp⟩
  have hlm : len ≤ m := by rw [hm]; split <;> omega
  have each : ∀ i, i < len → ∃ p : Ld, W.cell? (a.add (i * 3)) = some (.int .i64 p.n) ∧ W.cell? (a.add (i * 3 + 1)) = some (.int .i64 p.d) ∧ W.cell? (a.add (i * 3 + 2)) = some (.int .i64 p.id) ∧
      ((Lit.int .i64 p.n).wf = true ∧ (Lit.int .i64 p.d).wf = true ∧ (Lit.int .i64 p.id).wf = true) := by
    intro i hil
    obtain ⟨cs', hc, ht⟩ := hi i (by omega)
    rw [lds_ld] at hc
    obtain ⟨y0, y1, n', _, hlen, t0, t1⟩ := trod_struct2 Tryz.underlying57 ht
    obtain ⟨z0, z1, n2, _, hlen2, s0, s1⟩ := trod_struct2 Tryz.underlying36 t0
    obtain ⟨_, hcl, hat⟩ := World.cells?_some hc
    match cs', hcl with
    | [c0, c1, c2], _ =>
      obtain ⟨pn, e0, _, w0⟩ := DataW.trod_int Tryz.underlying2 s0
      obtain ⟨pd, e1, _, w1⟩ := DataW.trod_int Tryz.underlying2 s1
      obtain ⟨pi, e2, _, w2⟩ := DataW.trod_int Tryz.underlying3 t1
      simp [fld_int, fld_i64, lds_ra] at e0 e1 e2
      refine ⟨⟨pn, pd, pi⟩, ?_, ?_, ?_, w0, w1, w2⟩
      · have := hat 0 (by omega); rw [add_add] at this; simpa [e0] using this
      · have := hat 1 (by omega); rw [add_add] at this; simpa [e1] using this
      · have := hat 2 (by omega); rw [add_add] at this; simpa [e2] using this
  haveI : Inhabited Ld := ⟨⟨0, 0, 0⟩⟩
  obtain ⟨f, hf⟩ := choose_lt (α := Ld) each
  refine ⟨_, (List.range len).map f, rfl, ⟨ldsV_length _, some a, cap, by simp, by simpa using hlc, fun j v hv => ?_⟩, fun p hp => ?_⟩
  · obtain ⟨hk, he⟩ := lds_of f len j v hv
    obtain ⟨c0, c1, c2, _⟩ := hf _ hk
    have hcell : W.cell? (a.add j) = some v := by
      have h3 : j % 3 = 0 ∨ j % 3 = 1 ∨ j % 3 = 2 := by omega
      have e : j = j / 3 * 3 + j % 3 := by omega
      rcases h3 with e3 | e3 | e3 <;> rw [e3] at he e <;> rw [e] <;> simp at he <;> subst he
      · exact c0
      · exact c1
      · exact c2
    obtain ⟨b, off, spot⟩ := a
    have hs : spot = none := by simpa [Addr.add] using World.cell?_spot (hf 0 (by omega)).1
    subst hs
    exact ⟨b, off, rfl, by rw [← Go.WideShapes.add_plain]; exact hcell⟩
  · obtain ⟨i, hi', rfl⟩ := List.mem_map.1 hp
    exact (hf i (List.mem_range.1 hi')).2.2.2
set_option maxRecDepth 100000 in
theorem open_lds {r : Reach} {b0 : Nat} {v : Value} {d : DataW H} {p : List MemPlace} (hv : Value.okWide Tryz.prog W r b0 25 v) (h : DataW.Trod enc Tryz.prog W base spare held 25 v d p) :
    ∃ l : List Ld, Rd W 3 v l.length (ldsV l) ∧ ∀ p ∈ l, ((Lit.int .i64 p.n).wf = true ∧ (Lit.int .i64 p.d).wf = true ∧ (Lit.int .i64 p.id).wf = true) := by
  obtain ⟨a, len, cap, rfl⟩ := okWide_slice Tryz.underlying25 hv
  obtain ⟨fuel, hf⟩ := h
  obtain ⟨u, l, hc, hr, hb⟩ := open_lds0 hf
  simp [Value.cells] at hc
  subst hc
  exact ⟨l, hr, hb⟩
end
/-- The rows of what came in: names from j on. -/
def rowsH : Nat → List (TypeId × Nat × Nat × List Value) → List (Nat × Nat × SV)
  | _, [] => []
  | j, (e, es, n, xs) :: r => (j, 0, .row e es n xs) :: rowsH (j + 1) r
theorem rowsH_get : ∀ (rs : List (TypeId × Nat × Nat × List Value)) (j b o : Nat) (sv : SV), lookH (rowsH j rs) b o = some sv → ∃ k e es n xs, b = j + k ∧ rs[k]? = some (e, es, n, xs) ∧ sv = .row e es n xs
  | [], j, b, o, sv, h => by cases h
  | (e, es, n, xs) :: r, j, b, o, sv, h => by
    simp only [rowsH, lookH] at h
    cases hc : (Nat.beq j b && Nat.beq 0 o)
    · rw [hc, cond_false] at h
      obtain ⟨k, e', es', n', xs', h1, h2, h3⟩ := rowsH_get r (j + 1) b o sv h
      exact ⟨k + 1, e', es', n', xs', by omega, by simpa using h2, h3⟩
    · rw [hc, cond_true] at h
      rw [Bool.and_eq_true] at hc
      have := Nat.eq_of_beq_eq_true hc.1
      cases h
      exact ⟨0, e, es, n, xs, by omega, rfl, rfl⟩
def inBs (us : List Value) : Bl := ⟨fun _ => none, fun b => us[b]?⟩
/-- What came in can be read: a real slice for each row. -/
inductive Ins (W : World) : List Value → List (TypeId × Nat × Nat × List Value) → Prop where
  | nil : Ins W [] []
  | cons {u : Value} {us : List Value} {e : TypeId} {es n : Nat} {xs : List Value} {rs : List (TypeId × Nat × Nat × List Value)} (h : Rd W es u n xs) (h1 : ∀ v ∈ xs, v.oneCell' = true) (r : Ins W us rs) : Ins W (u :: us) ((e, es, n, xs) :: rs)
theorem Ins.get {W : World} {us : List Value} {rs : List (TypeId × Nat × Nat × List Value)} (h : Ins W us rs) : ∀ (k : Nat) (e : TypeId) (es n : Nat) (xs : List Value), rs[k]? = some (e, es, n, xs) → ∃ u, us[k]? = some u ∧ Rd W es u n xs ∧ ∀ v ∈ xs, v.oneCell' = true := by
  induction h with
  | nil => intro k e es n xs h; simp at h
  | cons h h1 r ih =>
    intro k e es n xs hk
    cases k with
    | zero => cases hk; exact ⟨_, rfl, h, h1⟩
    | succ k => exact ih k e es n xs (by simpa using hk)
theorem Ins.len {W : World} {us : List Value} {rs : List (TypeId × Nat × Nat × List Value)} (h : Ins W us rs) : us.length = rs.length := by
  induction h with
  | nil => rfl
  | cons _ _ _ ih => simp [ih]
theorem ins_rel {W : World} {us : List Value} {rs : List (TypeId × Nat × Nat × List Value)} (h : Ins W us rs) : HRel W rs.length (inBs us) (rowsH 0 rs) W where
  gr := Gr.refl W
  live := fun b r h => by cases h
  inj := fun b c r h => by cases h
  new := fun b r _ h => by cases h
  sep := fun b r h => by cases h
  cells := fun b o sv hl hs => by
    obtain ⟨k, e, es, n, xs, _, _, rfl⟩ := rowsH_get rs 0 b o sv hl
    cases hs
  rows := fun b o e es n xs hl => by
    obtain ⟨k, e', es', n', xs', hb, hk, he⟩ := rowsH_get rs 0 b o _ hl
    cases he
    obtain ⟨u, h1, h2, h3⟩ := h.get k e es n xs hk
    have hlt : k < rs.length := (List.getElem?_eq_some_iff.1 hk).1
    have e0 : b = k := by omega
    subst e0
    exact ⟨u, h1, h2, h3, fun _ hx => h2.lt hx, fun h => by omega, fun h => by omega⟩
  rinj := fun b o e es n xs c o' e' es' n' xs' u v hl hl' h1 h2 => by
    obtain ⟨k, _, _, _, _, hb, hk, _⟩ := rowsH_get rs 0 b o _ hl
    have hlt : k < rs.length := (List.getElem?_eq_some_iff.1 hk).1
    omega
theorem ins_dom {W : World} {us : List Value} {rs : List (TypeId × Nat × Nat × List Value)} (h : Ins W us rs) : (inBs us).dom rs.length := fun b hb => ⟨rfl, List.getElem?_eq_none (by rw [h.len]; exact hb)⟩
/-- A law over lists and plain values that came in, run. -/
theorem ins_run {W : World} {f : FuncId} {us : List Value} {rs : List (TypeId × Nat × Nat × List Value)} {args : List SV} {vs : List Value} (h : FnL Tryz.prog f rs.length args (rowsH 0 rs) (.pv (.bool true)) 0 []) (hr : Ins W us rs) (ha : SV.isl (inBs us) args vs) :
    Calls Tryz.prog f vs.toArray W fun e W' => e = .returned (.bool true) ∧ Gr W W' := by
  refine (h W (inBs us) vs (ins_rel hr) (ins_dom hr) ha).mono fun e W' ⟨v, β', he, _, hx, hh, _⟩ => ?_
  cases hx
  exact ⟨he, hh.gr⟩
theorem Rd.sl {W : World} {es n : Nat} {u : Value} {xs : List Value} (h : Rd W es u n xs) : ∃ a c, u = .slice a n c := by
  obtain ⟨_, a, c, e, _⟩ := h
  exact ⟨a, c, e⟩
end Go.Proofs.YtpngjeloiifgnaaGreat
