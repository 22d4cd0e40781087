/-
  Stores of certificates that came in; a call run on them; lists of numbers compared. Conditions: none.
-/
import Derived.Test.YtjjmnoiffpnphaaZj
import Derived.Test.YtjjmnoiffpnphaaFq
import Derived.Test.YtjjmnoiffpnphaaW32
namespace Go.Proofs.Ytjjmnoiffpnphaa
open Go.ChangeShapes Go.WideShapes Go.ChangeAt Go.RowKit Go.Joins Go.Deep
theorem sid_nil8 : Pure Try.prog 27 #[.slice none 0 0, .slice none 0 0] (.bool true) :=
  pure_runZ (args := [.slice none 0 0, .slice none 0 0]) 200 [] (And.intro rfl True.intro) (by kernel_rfl)
theorem SameI_ok {g : List Int} (hn : g.length ≤ 1000000) : FnL Try.prog 27 2 [.ls 0 g.length, .ls 1 g.length] [(0, 0, rowI g), (1, 0, rowI g)] (.pv (.bool true)) 0 [] :=
  sid_yes (by simp) (RunsL.rounds (fun k => [(0, .ls 0 g.length), (1, .ls 1 g.length), (5, .pv (.int .i64 (k : Int)))]) (fun _ => [(0, 0, rowI g), (1, 0, rowI g)]) g.length 0 (Nat.zero_add _)
    (fun k _ hk r => by
      obtain ⟨p, hp⟩ := get_some hk
      exact sid_next hp (in_of hk) hp (in_of hk) (dt (by omega)) (by simp) (i64_succ (by omega)) r)
    (sid_end (df (by omega))))

theorem cs_held : Try.prog.cellsOf 28 = 3 := by kernel_rfl
theorem cs_cert : Try.prog.cellsOf 23 = 2 := by kernel_rfl
theorem cs_list : Try.prog.cellsOf 24 = 1 := by kernel_rfl
theorem cs_certs : Try.prog.cellsOf 26 = 2 := by kernel_rfl
theorem cs_read : Try.prog.readableRec 26 = true := by kernel_rfl
theorem cs_row : 26 < Try.prog.types.size := of_decide_eq_true (by kernel_rfl)
section
variable {H : Type} {enc : TypeId × Value → H} {W : World} {base : Nat} {spare : Nat → Bool} {held : Bool}
set_option maxRecDepth 100000 in
theorem open_held {fuel : Nat} {cs : List Value} {x : DataW H × List MemPlace} (h : DataW.trod enc Try.prog W base spare held fuel 24 cs = some x) :
    ∃ (u : Value) (l : List Pt), cs = [u] ∧ Rd W 3 u l.length (ptsV l) := by
  rcases open_slice Try.underlying24 h with ⟨rfl, _⟩ | ⟨a, len, cap, m, n, D, Pl, rfl, _, hlc, _, hm, _, hi⟩
  · exact ⟨_, [], rfl, ⟨rfl, none, 0, rfl, Nat.le_refl _, fun j v hv => by simp [ptsV] at hv⟩⟩
  have hlm : len ≤ m := by rw [hm]; split <;> omega
  have each : ∀ i, i < len → ∃ p : Pt, W.cell? (a.add (i * 3)) = some (.int .i64 p.id) ∧ W.cell? (a.add (i * 3 + 1)) = some (.int .i64 p.a) ∧ W.cell? (a.add (i * 3 + 2)) = some (.int .i64 p.b) := by
    intro i hil
    obtain ⟨cs', hc, ht⟩ := hi i (by omega)
    rw [cs_held] at hc
    obtain ⟨y0, y1, n', _, hlen, t0, t1⟩ := trod_struct2 Try.underlying28 ht
    obtain ⟨z0, z1, n2, _, hlen2, s0, s1⟩ := trod_struct2 Try.underlying23 t1
    obtain ⟨_, hcl, hat⟩ := World.cells?_some hc
    match cs', hcl with
    | [c0, c1, c2], _ =>
      obtain ⟨pi, e0, _, w0⟩ := DataW.trod_int Try.underlying3 t0
      obtain ⟨pa, e1, _, w1⟩ := DataW.trod_int Try.underlying3 s0
      obtain ⟨pb, e2, _, w2⟩ := DataW.trod_int Try.underlying3 s1
      simp [zl_i, cs_cert] at e0 e1 e2
      refine ⟨⟨pi, pa, pb⟩, ?_, ?_, ?_⟩
      · have := hat 0 (by omega); rw [add_add] at this; simpa [e0] using this
      · have := hat 1 (by omega); rw [add_add] at this; simpa [e1] using this
      · have := hat 2 (by omega); rw [add_add] at this; simpa [e2] using this
  haveI : Inhabited Pt := ⟨⟨0, 0, 0⟩⟩
  obtain ⟨f, hf⟩ := choose_lt (α := Pt) each
  refine ⟨_, (List.range len).map f, rfl, ⟨ptsV_length _, some a, cap, by simp, by simpa using hlc, fun j v hv => ?_⟩⟩
  obtain ⟨hk, he⟩ := pts_of f len j v hv
  obtain ⟨c0, c1, c2⟩ := hf _ hk
  have hcell : W.cell? (a.add j) = some v := by
    have h3 : j % 3 = 0 ∨ j % 3 = 1 ∨ j % 3 = 2 := by omega
    have e : j = j / 3 * 3 + j % 3 := by omega
    rcases h3 with e3 | e3 | e3 <;> rw [e3] at he e <;> rw [e] <;> simp at he <;> subst he
    · exact c0
    · exact c1
    · exact c2
  obtain ⟨b, off, spot⟩ := a
  have hs : spot = none := by simpa [Addr.add] using World.cell?_spot (hf 0 (by omega)).1
  subst hs
  exact ⟨b, off, rfl, by rw [← Go.WideShapes.add_plain]; exact hcell⟩
set_option maxRecDepth 100000 in
theorem open_certs {r : Reach} {b0 : Nat} {v : Value} {d : DataW H} {p : List MemPlace} (hv : Value.okWide Try.prog W r b0 26 v) (h : DataW.Trod enc Try.prog W base spare held 26 v d p) :
    ∃ (x : Int) (u : Value) (l : List Pt), v = .agg #[.int .i64 x, u] ∧ Rd W 3 u l.length (ptsV l) := by
  obtain ⟨cs, rfl, hsz⟩ := okWide_struct Try.underlying26 hv
  obtain ⟨fuel, hf⟩ := h
  obtain ⟨y0, y1, n, _, hlen, h0, h1⟩ := trod_struct2 Try.underlying26 hf
  obtain ⟨x, e0, _, _⟩ := DataW.trod_int Try.underlying3 h0
  obtain ⟨u, l, hc, hr⟩ := open_held h1
  refine ⟨x, u, l, ?_, hr⟩
  rw [cs_list] at hc
  rw [zl_i] at e0
  have hs : cs.size = 2 := hsz.trans cs_certs
  obtain ⟨L⟩ := cs
  match L, hs with
  | [c0, c1], _ =>
    simp [Value.cells] at hc e0
    rw [hc, e0]
end
theorem certs_in {W : World} {x : Int} {u : Value} {l : List Pt} {us : List Value} (h : Rd W 3 u l.length (ptsV l)) : SV.is (zinBs (u :: us)) (crtS 0 x l) (.agg #[.int .i64 x, u]) :=
  ⟨[.int .i64 x, u], ⟨rfl, ⟨rfl, h.zsl⟩, True.intro⟩, rfl⟩
/-- The same, a field behind the store. -/
theorem certs_run2 {W : World} {x : Int} {u v : Value} {l s : List Pt} {f : FuncId} {vs : List Value} (h : FnL Try.prog f 2 (crtS 0 x l :: fldS 1 s :: vs.map .pv) [(0, 0, rowC l), (1, 0, rowP s)] (.pv (.bool true)) 0 []) (hr : Rd W 3 u l.length (ptsV l)) (hs : Rd W 3 v s.length (ptsV s)) :
    Calls Try.prog f (.agg #[.int .i64 x, u] :: .agg #[v] :: vs).toArray W fun e W' => e = .returned (.bool true) ∧ Gr W W' :=
  zins_run (rs := [(28, 3, l.length, ptsV l), (50, 3, s.length, ptsV s)]) (us := [u, v]) h (.cons hr (pts_one l) (.cons hs (pts_one s) .nil)) ⟨certs_in hr, ⟨[v], ⟨⟨rfl, hs.zsl⟩, True.intro⟩, rfl⟩, SV.isl_v vs⟩
end Go.Proofs.Ytjjmnoiffpnphaa
