/-
  The library's sort at lists of fractions, by its contract. Conditions: none.
-/
import Derived.Shelf.SlSortCmp.WholeK
import Derived.Shelf.SlSortCmp.NoneTotal
import Derived.Test.YtpngjeloiifgnaaGreatSr5
import Derived.Test.YtpngjeloiifgnaaGreatW36
import Derived.Test.YtpngjeloiifgnaaGreatW43
namespace Go.Proofs.YtpngjeloiifgnaaGreat
open Go.RowKit Go.Sort
structure Rn where
  n : Int
  d : Int
structure RnOk (x : Rn) : Prop where
  n : I64 x.n
  d : I64 x.d
  ok : okB x.n x.d = true
abbrev rcV (x : Rn) : List Value := [.int .i64 x.n, .int .i64 x.d]
def rsV : List Rn → List Value
  | [] => []
  | m :: r => .int .i64 m.n :: .int .i64 m.d :: rsV r
theorem rsV_length : ∀ (l : List Rn), (rsV l).length = l.length * 2
  | [] => rfl
  | p :: r => by simp [rsV, rsV_length r]; omega
theorem rsV_get : ∀ {l : List Rn} {k : Nat} {m : Rn}, l[k]? = some m → (rsV l)[k * 2]? = some (.int .i64 m.n) ∧ (rsV l)[k * 2 + 1]? = some (.int .i64 m.d)
  | [], k, p, h => by simp at h
  | q :: r, 0, p, h => by simp at h; subst h; exact ⟨rfl, rfl⟩
  | q :: r, k + 1, p, h => by
    have := rsV_get (l := r) (k := k) (m := p) (by simpa using h)
    rw [show (k + 1) * 2 = k * 2 + 1 + 1 by omega]
    exact this
abbrev rowRs (l : List Rn) : SV := .row 36 2 l.length (rsV l)
abbrev cmpV : Value := .func (.func 105) #[] #[]
def ordR (a b : Rn) : Int := (a.n * b.d - b.n * a.d).sign
theorem ordR_neg (a b : Rn) : ordR b a = -ordR a b := by
  unfold ordR
  rw [show b.n * a.d - a.n * b.d = -(a.n * b.d - b.n * a.d) by omega, Int.sign_neg]
theorem ordR_ge {a b : Rn} : 0 ≤ ordR a b ↔ a.n * b.d - b.n * a.d ≥ 0 := by unfold ordR; exact sign_ge _
theorem ordR_tr {a b c : Rn} (ha : RnOk a) (hb : RnOk b) (hc : RnOk c) (h1 : 0 ≤ ordR a b) (h2 : 0 ≤ ordR b c) : 0 ≤ ordR a c := by
  rw [ordR_ge] at *
  have da := okB_den ha.ok
  have db := okB_den hb.ok
  have dc := okB_den hc.ok
  exact frac_ge (by omega) (by omega) (by omega) h1 h2
theorem ordR_eq {a b : Rn} (ha : RnOk a) (hb : RnOk b) (h : ordR a b = 0) : a = b := by
  unfold ordR at h
  have h0 := Int.sign_eq_zero_iff_zero.1 h
  obtain ⟨e1, e2⟩ := okB_one ha.ok hb.ok (by omega)
  cases a; cases b
  simp only at e1 e2
  rw [e1, e2]
theorem ordR_anti {a b : Rn} (ha : RnOk a) (hb : RnOk b) (h1 : 0 ≤ ordR b a) (h2 : 0 ≤ ordR a b) : a = b := by
  have := ordR_neg a b
  exact ordR_eq ha hb (by omega)
theorem ordR_pure {a b : Rn} (ha : RnOk a) (hb : RnOk b) : Pure Tryz.prog 105 #[ratioV a.n a.d, ratioV b.n b.d] (.int .i64 (ordR a b)) := CCmp_ok ha.n ha.d hb.n hb.d ha.ok hb.ok

abbrev MemR (X : List Rn) : Type := { m : Rn // m ∈ X }
def encR (X : List Rn) (x : MemR X) : List Value := rcV x.1
theorem flat_rs {X : List Rn} [Inhabited (MemR X)] (d : Array (MemR X)) : (flatK (encR X) 2 d).toList = rsV (d.toList.map (·.1)) := by
  apply List.ext_getElem?
  intro t
  by_cases ht : t < d.size * 2
  · have e1 : (flatK (encR X) 2 d).toList[t]? = some ((encR X d[t / 2]!)[t % 2]!) := by
      rw [Array.getElem?_toList, Array.getElem?_eq_getElem (by simpa using ht), ← get_flatK (encR X) 2 d t ht, getElem!_pos _ t (by simpa using ht)]
    have hk : t / 2 < d.size := by omega
    have hp : (d.toList.map (·.1))[t / 2]? = some d[t / 2]!.1 := by
      rw [List.getElem?_map, Array.getElem?_toList, Array.getElem?_eq_getElem hk, getElem!_pos d _ hk]; rfl
    obtain ⟨g0, g1⟩ := rsV_get hp
    rw [e1]
    have h4 : t % 2 = 0 ∨ t % 2 = 1 := by omega
    have e : t = t / 2 * 2 + t % 2 := by omega
    rcases h4 with h | h <;> rw [h] at e ⊢ <;> rw [e]
    · rw [Nat.add_zero, show (t / 2 * 2) / 2 = t / 2 by omega, g0]; rfl
    · rw [show (t / 2 * 2 + 1) / 2 = t / 2 by omega, g1]; rfl
  · rw [List.getElem?_eq_none (by simpa using ht), List.getElem?_eq_none (by rw [rsV_length]; simpa using ht)]
theorem rs_one : ∀ (l : List Rn), ∀ v ∈ rsV l, v.oneCell' = true
  | [], v, h => by cases h
  | m :: r, v, h => by
    simp only [rsV, List.mem_cons] at h
    rcases h with rfl | rfl | h
    · rfl
    · rfl
    · exact rs_one r v h
section
variable {X : List Rn}
theorem ir_lays (hX : ∀ m ∈ X, RnOk m) [Inhabited (MemR X)] (w : World) (g size : Nat) :
    CmpLays Tryz.prog 105 #[] (encR X) 2 (fun x y => ordR x.1 y.1) g 0 size w := by
  intro m os dk _ x y
  exact (ordR_pure (hX _ x.2) (hX _ y.2) _).mono fun e w' ⟨he, hg⟩ => ⟨he, gr_grow hg⟩
theorem ir_swo (hX : ∀ m ∈ X, RnOk m) : SWO (ltOf fun x y : MemR X => ordR x.1 y.1) := by
  refine ⟨fun x => ?_, fun x y z h k => ?_, fun x y z h k => ?_⟩
  · have := ordR_neg x.1 x.1
    simp only [ltOf, decide_eq_false_iff_not]
    omega
  · simp only [ltOf, decide_eq_true_eq] at *
    have e1 := ordR_neg x.1 y.1
    have e2 := ordR_neg y.1 z.1
    have e3 := ordR_neg x.1 z.1
    have e4 := ordR_tr (hX _ z.2) (hX _ y.2) (hX _ x.2) (by omega) (by omega)
    by_cases h0 : ordR x.1 z.1 = 0
    · have := ordR_eq (hX _ x.2) (hX _ z.2) h0
      rw [← this] at e2 k
      omega
    · omega
  · simp only [ltOf, decide_eq_false_iff_not, Int.not_lt] at *
    exact ordR_tr (hX _ x.2) (hX _ y.2) (hX _ z.2) h k
theorem agg_ra (w : World) : (isAgg (Tryz.sortRa_ren.t 24)).run Tryz.prog w = .ok true w := Tryz.isAgg36 w
theorem siz_ra (w : World) : (Go.sizeOf (Tryz.sortRa_ren.t 24)).run Tryz.prog w = .ok 2 w := Tryz.sizeOf36 w
set_option maxRecDepth 100000 in
theorem ir_enters : ∀ args w, (callFunc 105 args).run Tryz.prog w = .ok (.enter 105 args) w := enters_of Tryz.func105 (by kernel_rfl) rfl
theorem isl_ir {β : Bl} {n : Nat} {us : List Value} (h : SV.isl β [.ls 0 n, .pv cmpV] us) : ∃ v, us = [v, cmpV] ∧ β.g 0 = some v := by
  match us, h with
  | [v0, v1], ⟨⟨h0, _⟩, h1, _⟩ => exact ⟨v0, by rw [show v1 = cmpV from h1], h0⟩
theorem SortR_some (hX : ∀ m ∈ X, RnOk m) (hn : X.length ≤ 100000) (hne : X ≠ []) {s : List Rn} (hsp : s.Perm X) (hss : s.Pairwise (fun a b => 0 ≤ ordR b a)) :
    FnM Tryz.prog 104 1 [.ls 0 X.length, .pv cmpV] [(0, 0, rowRs X)] (.tuple #[]) 0 ⟨36, 2, X.length, rsV X⟩ (rsV s) := by
  haveI : Inhabited (MemR X) := ⟨⟨X.head hne, List.head_mem hne⟩⟩
  obtain ⟨d, hd⟩ : ∃ d : Array (MemR X), d = X.attach.toArray := ⟨_, rfl⟩
  have hdl : d.toList.map (·.1) = X := by rw [hd]; simp
  have hds : d.size = X.length := by rw [hd]; simp
  have hO := ir_swo hX
  obtain ⟨d', hd'⟩ : ∃ d', d' = pdq (ltOf fun x y : MemR X => ordR x.1 y.1) d 0 d.size (Lib.bitLen d.size) true true := ⟨_, rfl⟩
  obtain ⟨hperm, hsort⟩ := pdq_sorts (ltOf fun x y : MemR X => ordR x.1 y.1) hO d 0 d.size (Lib.bitLen d.size) true true (Nat.zero_le _) (Nat.le_refl _) (Or.inl rfl)
  rw [← hd'] at hperm hsort
  obtain ⟨hs1, _, hs2⟩ := hperm
  have hpd : d'.toList.Perm d.toList := by
    have e1 : d'.extract 0 d.size = d' := by rw [← hs1]; simp
    have e2 : d.extract 0 d.size = d := by simp
    rw [e1, e2] at hs2; exact hs2
  have hp2 : (d'.toList.map (·.1)).Perm X := (hpd.map _).trans (List.Perm.of_eq hdl)
  have hsl : (d'.toList.map (·.1)).length = X.length := by simp [hs1, hds]
  have hpw : (d'.toList.map (·.1)).Pairwise (fun a b => 0 ≤ ordR b a) := by
    rw [List.pairwise_map, List.pairwise_iff_getElem]
    intro i j hi hj hij
    have := hsort i j (Nat.zero_le _) hij (by rw [← hs1]; simpa using hj)
    rw [getElem!_pos d' i (by simpa using hi), getElem!_pos d' j (by simpa using hj)] at this
    simpa [ltOf] using this
  have hse : d'.toList.map (·.1) = s := pw_uniq (hp2.trans hsp.symm) (fun x hx y hy h1 h2 => ordR_anti (hX x (hp2.subset hx)) (hX y (hp2.subset hy)) h1 h2) hpw hss
  · intro w β us base u hH hdom hargs hu hown hbase hap
    obtain ⟨v, rfl, hv0⟩ := isl_ir hargs
    rw [hu] at hv0
    cases hv0
    obtain ⟨hlen, hnil | ⟨g, cap, cur, rfl, hg, hgc, hnc, hcm, hcs, htk⟩⟩ := hown
    · exact (hne (List.eq_nil_of_length_eq_zero hnil.2)).elim
    dsimp only at hlen hgc hnc hcs htk
    have hgs : g < w.heap.size := (Array.getElem?_eq_some_iff.1 hgc).1
    have hfl : (flatK (encR X) 2 d).toList = rsV X := by rw [flat_rs, hdl]
    have hfs : (flatK (encR X) 2 d).size = X.length * 2 := by rw [size_flatK, hds]
    have hfl' : (flatK (encR X) 2 d').toList = rsV s := by rw [flat_rs d', hse]
    have hfs' : (flatK (encR X) 2 d').size = X.length * 2 := by rw [size_flatK, hs1, hds]
    have hHold : HoldsK (encR X) 2 w g 0 d := by
      intro j hj
      rw [hfs] at hj
      have hjc : j < cur.size := by rw [hcs]; omega
      have h1 : cur[j]? = some ((flatK (encR X) 2 d)[j]!) := by
        have h2 : (cur.toList.take (X.length * 2))[j]? = (flatK (encR X) 2 d).toList[j]? := by rw [htk, hfl]
        rw [List.getElem?_take, if_pos hj, Array.getElem?_toList, Array.getElem?_toList] at h2
        rw [h2, getElem!_pos _ j (by omega), Array.getElem?_eq_getElem]
      constructor
      · simp only [World.cell?, hgc, Nat.zero_add, Option.isSome_none, id]
        exact h1
      · simp [World.frozen?, hgc]
    have hcon := AnyQ.slices_SortFunc_eq Tryz.sortRa 2 agg_ra siz_ra (encR X) (fun _ => rfl) (fun x v hv => by simp [encR] at hv; rcases hv with rfl | rfl <;> rfl) (fun x y => ordR x.1 y.1) hO 105 #[] g 0 cap d w ir_enters
      (ir_lays hX w g d.size) hHold hgs (by omega)
    rw [← hd', hds] at hcon
    refine Calls.mono (show Calls Tryz.prog 104 _ w _ from hcon) fun e w' ⟨he, n, os, hw⟩ => ?_
    have hsz : (putRow id (Sort.ahead w n) g 0 (flatK (encR X) 2 d')).heap.size = w.heap.size := by rw [size_putRow]; rfl
    have hblk : ∀ k, k < w.heap.size → w'.heap[k]? = (putRow id (Sort.ahead w n) g 0 (flatK (encR X) 2 d')).heap[k]? := fun k hk => by
      rw [hw]
      unfold sortWorldK Sort.grow putRowK
      exact Array.getElem?_append_left (by rw [hsz]; exact hk)
    have hself := (hblk g hgs).trans (put_cells (w := Sort.ahead w n) (fr := (0, 0)) hgc _)
    refine ⟨he, ⟨⟨?_, ?_, ?_, ?_, ?_⟩, ?_, ?_⟩, ⟨?_, .inr ⟨g, cap, _, rfl, hg, hself, hnc, hcm, ?_, ?_⟩⟩, rs_one _⟩
    · rw [hw]; rfl
    · rw [hw]; rfl
    · rw [hw]; rfl
    · rw [hw]; unfold sortWorldK putRowK; rw [size_grow, hsz]; omega
    · intro k hk hkr
      rw [hblk k hk]
      exact put_other (Sort.ahead w n) g _ fun e => hkr (by rw [e]; rfl)
    · intro a ha
      rw [hw]
      unfold sortWorldK putRowK
      rw [frozen?_grow _ _ _ (by rw [hsz]; exact ha), frozen?_putRow]; rfl
    · rw [hw]; show w.drawn ≤ w.drawn + n; omega
    · rw [rsV_length, ← hse, hsl]
    · rw [putCells_size]; exact hcs
    · rw [← hfs', putCells_take _ _ (by rw [hfs', hcs]; omega), hfl']
theorem SortR_any (hX : ∀ m ∈ X, RnOk m) (hn : X.length ≤ 100000) {s : List Rn} (hsp : s.Perm X) (hss : s.Pairwise (fun a b => 0 ≤ ordR b a)) :
    FnM Tryz.prog 104 1 [.ls 0 X.length, .pv cmpV] [(0, 0, rowRs X)] (.tuple #[]) 0 ⟨36, 2, X.length, rsV X⟩ (rsV s) := by
  by_cases h : X = []
  · subst h
    have : s = [] := hsp.eq_nil
    subst this
    intro w β us base u hH hdom hargs hu hown hbase hap
    obtain ⟨v, rfl, hv0⟩ := isl_ir hargs
    rw [hu] at hv0
    cases hv0
    have hsl : ∃ p c, u = .slice p 0 c := by
      obtain ⟨_, ⟨rfl, _⟩ | ⟨g, cap, cur, rfl, _⟩⟩ := hown
      · exact ⟨_, _, rfl⟩
      · exact ⟨_, _, rfl⟩
    obtain ⟨p, c, rfl⟩ := hsl
    refine Calls.mono (show Calls Tryz.prog 104 _ w _ from AnyF.slices_SortFunc_none Tryz.sortRa p c _ w) fun e w' ⟨he, hw⟩ => ?_
    subst hw
    exact ⟨he, Upd.refl _ _, hown, rs_one _⟩
  · exact SortR_some hX hn h hsp hss
end
end Go.Proofs.YtpngjeloiifgnaaGreat
