/-
  The library's sort at lists of meetings, by its contract. Conditions: none.
-/
import Derived.Shelf.SlSortCmp.WholeK
import Derived.Shelf.SlSortCmp.NoneTotal
import Derived.Test.YtomnmoinahhdmaaGreatSm4
import Derived.Test.YtomnmoinahhdmaaGreatFt
import Derived.Test.YtomnmoinahhdmaaGreatW46
namespace Go.Proofs.YtomnmoinahhdmaaGreat
open Go.RowKit Go.Sort
theorem pw_uniq {α : Type} {r : α → α → Prop} : ∀ {a b : List α}, a.Perm b → (∀ x ∈ a, ∀ y ∈ a, r x y → r y x → x = y) → a.Pairwise r → b.Pairwise r → a = b
  | [], b, h, _, _, _ => h.nil_eq
  | x :: a, b, h, hr, ha, hb => by
    cases b with
    | nil => exact (List.not_perm_cons_nil h).elim
    | cons y b =>
      have hx : x ∈ y :: b := h.subset List.mem_cons_self
      have hy : y ∈ x :: a := h.symm.subset List.mem_cons_self
      have e : x = y := by
        rcases List.mem_cons.1 hx with e | hx
        · exact e
        · rcases List.mem_cons.1 hy with e | hy
          · exact e.symm
          · exact hr x List.mem_cons_self y (List.mem_cons_of_mem _ hy) ((List.pairwise_cons.1 ha).1 y hy) ((List.pairwise_cons.1 hb).1 x hx)
      subst e
      rw [pw_uniq h.cons_inv (fun u hu v hv => hr u (List.mem_cons_of_mem _ hu) v (List.mem_cons_of_mem _ hv)) (List.pairwise_cons.1 ha).2 (List.pairwise_cons.1 hb).2]
theorem insD_perm (x : Mt) : ∀ (R : List Mt), (insD x R).Perm (x :: R)
  | [] => List.Perm.refl _
  | b :: R => by
    unfold insD
    split
    · exact (List.Perm.cons b (insD_perm x R)).trans (List.Perm.swap x b R)
    · exact List.Perm.refl _
theorem sortD_perm : ∀ (C S : List Mt), (sortD S C).Perm (S ++ C)
  | [], S => by rw [List.append_nil]; exact List.Perm.refl _
  | x :: C, S => by
    show (sortD (insD x S) C).Perm _
    refine (sortD_perm C (insD x S)).trans ?_
    refine ((insD_perm x S).append_right C).trans ?_
    exact (List.perm_middle (a := x) (l₁ := S) (l₂ := C)).symm
theorem srt_perm (l : List Pt) : (srt l).Perm (msOf l) := by
  unfold srt
  exact (List.reverse_perm _).trans (by simpa using sortD_perm (msOf l) [])
theorem btwS_perm (l : List Pt) (fn fd tn td : Int) : (btwS l fn fd tn td).Perm (btw l fn fd tn td) := ((srt_perm l).filter _).filter _
theorem btwS_pw {l : List Pt} (hv : Val l) (fn fd tn td : Int) : (btwS l fn fd tn td).Pairwise (fun a b => 0 ≤ ordM b a) := ((srt_pw hv).filter _).filter _
theorem ord_anti {a b : Mt} (ha : MtOk a) (hb : MtOk b) (h1 : 0 ≤ ordM b a) (h2 : 0 ≤ ordM a b) : a = b := by
  have := ord_neg a b
  exact ord_eq ha hb (by omega)

abbrev MemM (X : List Mt) : Type := { m : Mt // m ∈ X }
def encT (X : List Mt) (x : MemM X) : List Value := mcV x.1
theorem flat_ms {X : List Mt} [Inhabited (MemM X)] (d : Array (MemM X)) : (flatK (encT X) 4 d).toList = msV (d.toList.map (·.1)) := by
  apply List.ext_getElem?
  intro t
  by_cases ht : t < d.size * 4
  · have e1 : (flatK (encT X) 4 d).toList[t]? = some ((encT X d[t / 4]!)[t % 4]!) := by
      rw [Array.getElem?_toList, Array.getElem?_eq_getElem (by simpa using ht), ← get_flatK (encT X) 4 d t ht, getElem!_pos _ t (by simpa using ht)]
    have hk : t / 4 < d.size := by omega
    have hp : (d.toList.map (·.1))[t / 4]? = some d[t / 4]!.1 := by
      rw [List.getElem?_map, Array.getElem?_toList, Array.getElem?_eq_getElem hk, getElem!_pos d _ hk]; rfl
    obtain ⟨g0, g1, g2, g3⟩ := msV_get hp
    rw [e1]
    have h4 : t % 4 = 0 ∨ t % 4 = 1 ∨ t % 4 = 2 ∨ t % 4 = 3 := by omega
    have e : t = t / 4 * 4 + t % 4 := by omega
    rcases h4 with h | h | h | h <;> rw [h] at e ⊢ <;> rw [e]
    · rw [Nat.add_zero, show (t / 4 * 4) / 4 = t / 4 by omega, g0]; rfl
    · rw [show (t / 4 * 4 + 1) / 4 = t / 4 by omega, g1]; rfl
    · rw [show (t / 4 * 4 + 2) / 4 = t / 4 by omega, g2]; rfl
    · rw [show (t / 4 * 4 + 3) / 4 = t / 4 by omega, g3]; rfl
  · rw [List.getElem?_eq_none (by simpa using ht), List.getElem?_eq_none (by rw [msV_length]; simpa using ht)]
theorem ms_one : ∀ (l : List Mt), ∀ v ∈ msV l, v.oneCell' = true
  | [], v, h => by cases h
  | m :: r, v, h => by
    simp only [msV, List.mem_cons] at h
    rcases h with rfl | rfl | rfl | rfl | h
    · rfl
    · rfl
    · rfl
    · rfl
    · exact ms_one r v h
section
variable {X : List Mt}
theorem io_lays (hX : ∀ m ∈ X, MtOk m) [Inhabited (MemM X)] (w : World) (g size : Nat) :
    CmpLays Tryz.prog 40 #[] (encT X) 4 (fun x y => ordM x.1 y.1) g 0 size w := by
  intro m os dk _ x y
  exact (ord_pure (hX _ x.2) (hX _ y.2) _).mono fun e w' ⟨he, hg⟩ => ⟨he, gr_grow hg⟩
theorem io_swo (hX : ∀ m ∈ X, MtOk m) : SWO (ltOf fun x y : MemM X => ordM x.1 y.1) := by
  refine ⟨fun x => ?_, fun x y z h k => ?_, fun x y z h k => ?_⟩
  · have := ord_neg x.1 x.1
    simp only [ltOf, decide_eq_false_iff_not]
    omega
  · simp only [ltOf, decide_eq_true_eq] at *
    have e1 := ord_neg x.1 y.1
    have e2 := ord_neg y.1 z.1
    have e3 := ord_neg x.1 z.1
    have e4 := ord_tr (hX _ z.2) (hX _ y.2) (hX _ x.2) (by omega) (by omega)
    by_cases h0 : ordM x.1 z.1 = 0
    · have := ord_eq (hX _ x.2) (hX _ z.2) h0
      rw [← this] at e2 k
      omega
    · omega
  · simp only [ltOf, decide_eq_false_iff_not, Int.not_lt] at *
    exact ord_tr (hX _ x.2) (hX _ y.2) (hX _ z.2) h k
theorem agg_mt (w : World) : (isAgg (Tryz.sortMt_ren.t 24)).run Tryz.prog w = .ok true w := Tryz.isAgg50 w
theorem siz_mt (w : World) : (Go.sizeOf (Tryz.sortMt_ren.t 24)).run Tryz.prog w = .ok 4 w := Tryz.sizeOf50 w
set_option maxRecDepth 100000 in
theorem io_enters : ∀ args w, (callFunc 40 args).run Tryz.prog w = .ok (.enter 40 args) w := enters_of Tryz.func40 (by kernel_rfl) rfl
theorem isl_io {β : Bl} {n : Nat} {us : List Value} (h : SV.isl β [.ls 0 n, .pv inV] us) : ∃ v, us = [v, inV] ∧ β.g 0 = some v := by
  match us, h with
  | [v0, v1], ⟨⟨h0, _⟩, h1, _⟩ => exact ⟨v0, by rw [show v1 = inV from h1], h0⟩
theorem SortM_some (hX : ∀ m ∈ X, MtOk m) (hn : X.length ≤ 100000) (hne : X ≠ []) {s : List Mt} (hsp : s.Perm X) (hss : s.Pairwise (fun a b => 0 ≤ ordM b a)) :
    FnM Tryz.prog 84 1 [.ls 0 X.length, .pv inV] [(0, 0, rowM X)] (.tuple #[]) 0 ⟨50, 4, X.length, msV X⟩ (msV s) := by
  haveI : Inhabited (MemM X) := ⟨⟨X.head hne, List.head_mem hne⟩⟩
  obtain ⟨d, hd⟩ : ∃ d : Array (MemM X), d = X.attach.toArray := ⟨_, rfl⟩
  have hdl : d.toList.map (·.1) = X := by rw [hd]; simp
  have hds : d.size = X.length := by rw [hd]; simp
  have hO := io_swo hX
  obtain ⟨d', hd'⟩ : ∃ d', d' = pdq (ltOf fun x y : MemM X => ordM x.1 y.1) d 0 d.size (Lib.bitLen d.size) true true := ⟨_, rfl⟩
  obtain ⟨hperm, hsort⟩ := pdq_sorts (ltOf fun x y : MemM X => ordM x.1 y.1) hO d 0 d.size (Lib.bitLen d.size) true true (Nat.zero_le _) (Nat.le_refl _) (Or.inl rfl)
  rw [← hd'] at hperm hsort
  obtain ⟨hs1, _, hs2⟩ := hperm
  have hpd : d'.toList.Perm d.toList := by
    have e1 : d'.extract 0 d.size = d' := by rw [← hs1]; simp
    have e2 : d.extract 0 d.size = d := by simp
    rw [e1, e2] at hs2; exact hs2
  have hp2 : (d'.toList.map (·.1)).Perm X := (hpd.map _).trans (List.Perm.of_eq hdl)
  have hsl : (d'.toList.map (·.1)).length = X.length := by simp [hs1, hds]
  have hpw : (d'.toList.map (·.1)).Pairwise (fun a b => 0 ≤ ordM b a) := by
    rw [List.pairwise_map, List.pairwise_iff_getElem]
    intro i j hi hj hij
    have := hsort i j (Nat.zero_le _) hij (by rw [← hs1]; simpa using hj)
    rw [getElem!_pos d' i (by simpa using hi), getElem!_pos d' j (by simpa using hj)] at this
    simpa [ltOf] using this
  have hse : d'.toList.map (·.1) = s := pw_uniq (hp2.trans hsp.symm) (fun x hx y hy h1 h2 => ord_anti (hX x (hp2.subset hx)) (hX y (hp2.subset hy)) h1 h2) hpw hss
  · intro w β us base u hH hdom hargs hu hown hbase hap
    obtain ⟨v, rfl, hv0⟩ := isl_io hargs
    rw [hu] at hv0
    cases hv0
    obtain ⟨hlen, hnil | ⟨g, cap, cur, rfl, hg, hgc, hnc, hcm, hcs, htk⟩⟩ := hown
    · exact (hne (List.eq_nil_of_length_eq_zero hnil.2)).elim
    dsimp only at hlen hgc hnc hcs htk
    have hgs : g < w.heap.size := (Array.getElem?_eq_some_iff.1 hgc).1
    have hfl : (flatK (encT X) 4 d).toList = msV X := by rw [flat_ms, hdl]
    have hfs : (flatK (encT X) 4 d).size = X.length * 4 := by rw [size_flatK, hds]
    have hfl' : (flatK (encT X) 4 d').toList = msV s := by rw [flat_ms d', hse]
    have hfs' : (flatK (encT X) 4 d').size = X.length * 4 := by rw [size_flatK, hs1, hds]
    have hHold : HoldsK (encT X) 4 w g 0 d := by
      intro j hj
      rw [hfs] at hj
      have hjc : j < cur.size := by rw [hcs]; omega
      have h1 : cur[j]? = some ((flatK (encT X) 4 d)[j]!) := by
        have h2 : (cur.toList.take (X.length * 4))[j]? = (flatK (encT X) 4 d).toList[j]? := by rw [htk, hfl]
        rw [List.getElem?_take, if_pos hj, Array.getElem?_toList, Array.getElem?_toList] at h2
        rw [h2, getElem!_pos _ j (by omega), Array.getElem?_eq_getElem]
      constructor
      · simp only [World.cell?, hgc, Nat.zero_add, Option.isSome_none, id]
        exact h1
      · simp [World.frozen?, hgc]
    have hcon := AnyQ.slices_SortFunc_eq Tryz.sortMt 4 agg_mt siz_mt (encT X) (fun _ => rfl) (fun x v hv => by simp [encT] at hv; rcases hv with rfl | rfl | rfl | rfl <;> rfl) (fun x y => ordM x.1 y.1) hO 40 #[] g 0 cap d w io_enters
      (io_lays hX w g d.size) hHold hgs (by omega)
    rw [← hd', hds] at hcon
    refine Calls.mono (show Calls Tryz.prog 84 _ w _ from hcon) fun e w' ⟨he, n, os, hw⟩ => ?_
    have hsz : (putRow id (Sort.ahead w n) g 0 (flatK (encT X) 4 d')).heap.size = w.heap.size := by rw [size_putRow]; rfl
    have hblk : ∀ k, k < w.heap.size → w'.heap[k]? = (putRow id (Sort.ahead w n) g 0 (flatK (encT X) 4 d')).heap[k]? := fun k hk => by
      rw [hw]
      unfold sortWorldK Sort.grow putRowK
      exact Array.getElem?_append_left (by rw [hsz]; exact hk)
    have hself := (hblk g hgs).trans (put_cells (w := Sort.ahead w n) (fr := (0, 0)) hgc _)
    refine ⟨he, ⟨⟨?_, ?_, ?_, ?_, ?_⟩, ?_, ?_⟩, ⟨?_, .inr ⟨g, cap, _, rfl, hg, hself, hnc, hcm, ?_, ?_⟩⟩, ms_one _⟩
    · rw [hw]; rfl
    · rw [hw]; rfl
    · rw [hw]; rfl
    · rw [hw]; unfold sortWorldK putRowK; rw [size_grow, hsz]; omega
    · intro k hk hkr
      rw [hblk k hk]
      exact put_other (Sort.ahead w n) g _ fun e => hkr (by rw [e]; rfl)
    · intro a ha
      rw [hw]
      unfold sortWorldK putRowK
      rw [frozen?_grow _ _ _ (by rw [hsz]; exact ha), frozen?_putRow]; rfl
    · rw [hw]; show w.drawn ≤ w.drawn + n; omega
    · rw [msV_length, ← hse, hsl]
    · rw [putCells_size]; exact hcs
    · rw [← hfs', putCells_take _ _ (by rw [hfs', hcs]; omega), hfl']
theorem SortM_any (hX : ∀ m ∈ X, MtOk m) (hn : X.length ≤ 100000) {s : List Mt} (hsp : s.Perm X) (hss : s.Pairwise (fun a b => 0 ≤ ordM b a)) :
    FnM Tryz.prog 84 1 [.ls 0 X.length, .pv inV] [(0, 0, rowM X)] (.tuple #[]) 0 ⟨50, 4, X.length, msV X⟩ (msV s) := by
  by_cases h : X = []
  · subst h
    have : s = [] := hsp.eq_nil
    subst this
    intro w β us base u hH hdom hargs hu hown hbase hap
    obtain ⟨v, rfl, hv0⟩ := isl_io hargs
    rw [hu] at hv0
    cases hv0
    have hsl : ∃ p c, u = .slice p 0 c := by
      obtain ⟨_, ⟨rfl, _⟩ | ⟨g, cap, cur, rfl, _⟩⟩ := hown
      · exact ⟨_, _, rfl⟩
      · exact ⟨_, _, rfl⟩
    obtain ⟨p, c, rfl⟩ := hsl
    refine Calls.mono (show Calls Tryz.prog 84 _ w _ from AnyF.slices_SortFunc_none Tryz.sortMt p c _ w) fun e w' ⟨he, hw⟩ => ?_
    subst hw
    exact ⟨he, Upd.refl _ _, hown, ms_one _⟩
  · exact SortM_some hX hn h hsp hss
end
end Go.Proofs.YtomnmoinahhdmaaGreat
