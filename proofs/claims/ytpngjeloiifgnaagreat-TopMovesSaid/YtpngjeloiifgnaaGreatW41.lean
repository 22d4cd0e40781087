/-
  Joined: Gb, Gc, Gf, Gh, Gm, Gi. Conditions: none.
-/
import Derived.Shelf.SlSortCmp.WholeK
import Derived.Shelf.SlSortCmp.NoneTotal
import Derived.Test.YtpngjeloiifgnaaGreatSm4
import Derived.Test.YtpngjeloiifgnaaGreatFt
import Derived.Test.YtpngjeloiifgnaaGreatW40
import Derived.Test.YtpngjeloiifgnaaGreatW37
import Derived.Test.YtpngjeloiifgnaaGreatGa
import Derived.Test.YtpngjeloiifgnaaGreatFq
import Derived.Test.YtpngjeloiifgnaaGreatW30
namespace Go.Proofs.YtpngjeloiifgnaaGreat
open Go.RowKit Go.Sort
theorem insD_perm (x : Mt) : ∀ (R : List Mt), (insD x R).Perm (x :: R)
  | [] => List.Perm.refl _
  | b :: R => by
    unfold insD
    split
    · exact (List.Perm.cons b (insD_perm x R)).trans (List.Perm.swap x b R)
    · exact List.Perm.refl _
theorem sortD_perm : ∀ (C S : List Mt), (sortD S C).Perm (S ++ C)
  | [], S => by rw [List.append_nil]; exact List.Perm.refl _
  | x :: C, S => by
    show (sortD (insD x S) C).Perm _
    refine (sortD_perm C (insD x S)).trans ?_
    refine ((insD_perm x S).append_right C).trans ?_
    exact (List.perm_middle (a := x) (l₁ := S) (l₂ := C)).symm
theorem srt_perm (l : List Pt) : (srt l).Perm (msOf l) := by
  unfold srt
  exact (List.reverse_perm _).trans (by simpa using sortD_perm (msOf l) [])
theorem btwS_perm (l : List Pt) (fn fd tn td : Int) : (btwS l fn fd tn td).Perm (btw l fn fd tn td) := ((srt_perm l).filter _).filter _
theorem btwS_pw {l : List Pt} (hv : Val l) (fn fd tn td : Int) : (btwS l fn fd tn td).Pairwise (fun a b => 0 ≤ ordM b a) := ((srt_pw hv).filter _).filter _
theorem ord_anti {a b : Mt} (ha : MtOk a) (hb : MtOk b) (h1 : 0 ≤ ordM b a) (h2 : 0 ≤ ordM a b) : a = b := by
  have := ord_neg a b
  exact ord_eq ha hb (by omega)

abbrev MemM (X : List Mt) : Type := { m : Mt // m ∈ X }
def encT (X : List Mt) (x : MemM X) : List Value := mcV x.1
theorem flat_ms {X : List Mt} [Inhabited (MemM X)] (d : Array (MemM X)) : (flatK (encT X) 4 d).toList = msV (d.toList.map (·.1)) := by
  apply List.ext_getElem?
  intro t
  by_cases ht : t < d.size * 4
  · have e1 : (flatK (encT X) 4 d).toList[t]? = some ((encT X d[t / 4]!)[t % 4]!) := by
      rw [Array.getElem?_toList, Array.getElem?_eq_getElem (by simpa using ht), ← get_flatK (encT X) 4 d t ht, getElem!_pos _ t (by simpa using ht)]
    have hk : t / 4 < d.size := by omega
    have hp : (d.toList.map (·.1))[t / 4]? = some d[t / 4]!.1 := by
      rw [List.getElem?_map, Array.getElem?_toList, Array.getElem?_eq_getElem hk, getElem!_pos d _ hk]; rfl
    obtain ⟨g0, g1, g2, g3⟩ := msV_get hp
    rw [e1]
    have h4 : t % 4 = 0 ∨ t % 4 = 1 ∨ t % 4 = 2 ∨ t % 4 = 3 := by omega
    have e : t = t / 4 * 4 + t % 4 := by omega
    rcases h4 with h | h | h | h <;> rw [h] at e ⊢ <;> rw [e]
    · rw [Nat.add_zero, show (t / 4 * 4) / 4 = t / 4 by omega, g0]; rfl
    · rw [show (t / 4 * 4 + 1) / 4 = t / 4 by omega, g1]; rfl
    · rw [show (t / 4 * 4 + 2) / 4 = t / 4 by omega, g2]; rfl
    · rw [show (t / 4 * 4 + 3) / 4 = t / 4 by omega, g3]; rfl
  · rw [List.getElem?_eq_none (by simpa using ht), List.getElem?_eq_none (by rw [msV_length]; simpa using ht)]
theorem ms_one : ∀ (l : List Mt), ∀ v ∈ msV l, v.oneCell' = true
  | [], v, h => by cases h
  | m :: r, v, h => by
    simp only [msV, List.mem_cons] at h
    rcases h with rfl | rfl | rfl | rfl | h
    · rfl
    · rfl
    · rfl
    · rfl
    · exact ms_one r v h
section
variable {X : List Mt}
theorem io_lays (hX : ∀ m ∈ X, MtOk m) [Inhabited (MemM X)] (w : World) (g size : Nat) :
    CmpLays Tryz.prog 37 #[] (encT X) 4 (fun x y => ordM x.1 y.1) g 0 size w := by
  intro m os dk _ x y
  exact (ord_pure (hX _ x.2) (hX _ y.2) _).mono fun e w' ⟨he, hg⟩ => ⟨he, gr_grow hg⟩
theorem io_swo (hX : ∀ m ∈ X, MtOk m) : SWO (ltOf fun x y : MemM X => ordM x.1 y.1) := by
  refine ⟨fun x => ?_, fun x y z h k => ?_, fun x y z h k => ?_⟩
  · have := ord_neg x.1 x.1
    simp only [ltOf, decide_eq_false_iff_not]
    omega
  · simp only [ltOf, decide_eq_true_eq] at *
    have e1 := ord_neg x.1 y.1
    have e2 := ord_neg y.1 z.1
    have e3 := ord_neg x.1 z.1
    have e4 := ord_tr (hX _ z.2) (hX _ y.2) (hX _ x.2) (by omega) (by omega)
    by_cases h0 : ordM x.1 z.1 = 0
    · have := ord_eq (hX _ x.2) (hX _ z.2) h0
      rw [← this] at e2 k
      omega
    · omega
  · simp only [ltOf, decide_eq_false_iff_not, Int.not_lt] at *
    exact ord_tr (hX _ x.2) (hX _ y.2) (hX _ z.2) h k
theorem agg_mt (w : World) : (isAgg (Tryz.sortMt_ren.t 24)).run Tryz.prog w = .ok true w := Tryz.isAgg47 w
theorem siz_mt (w : World) : (Go.sizeOf (Tryz.sortMt_ren.t 24)).run Tryz.prog w = .ok 4 w := Tryz.sizeOf47 w
set_option maxRecDepth 100000 in
theorem io_enters : ∀ args w, (callFunc 37 args).run Tryz.prog w = .ok (.enter 37 args) w := enters_of Tryz.func37 (by kernel_rfl) rfl
theorem isl_io {β : Bl} {n : Nat} {us : List Value} (h : SV.isl β [.ls 0 n, .pv inV] us) : ∃ v, us = [v, inV] ∧ β.g 0 = some v := by
  match us, h with
  | [v0, v1], ⟨⟨h0, _⟩, h1, _⟩ => exact ⟨v0, by rw [show v1 = inV from h1], h0⟩
theorem SortM_some (hX : ∀ m ∈ X, MtOk m) (hn : X.length ≤ 100000) (hne : X ≠ []) {s : List Mt} (hsp : s.Perm X) (hss : s.Pairwise (fun a b => 0 ≤ ordM b a)) :
    FnM Tryz.prog 81 1 [.ls 0 X.length, .pv inV] [(0, 0, rowM X)] (.tuple #[]) 0 ⟨47, 4, X.length, msV X⟩ (msV s) := by
  haveI : Inhabited (MemM X) := ⟨⟨X.head hne, List.head_mem hne⟩⟩
  obtain ⟨d, hd⟩ : ∃ d : Array (MemM X), d = X.attach.toArray := ⟨_, rfl⟩
  have hdl : d.toList.map (·.1) = X := by rw [hd]; simp
  have hds : d.size = X.length := by rw [hd]; simp
  have hO := io_swo hX
  obtain ⟨d', hd'⟩ : ∃ d', d' = pdq (ltOf fun x y : MemM X => ordM x.1 y.1) d 0 d.size (Lib.bitLen d.size) true true := ⟨_, rfl⟩
  obtain ⟨hperm, hsort⟩ := pdq_sorts (ltOf fun x y : MemM X => ordM x.1 y.1) hO d 0 d.size (Lib.bitLen d.size) true true (Nat.zero_le _) (Nat.le_refl _) (Or.inl rfl)
  rw [← hd'] at hperm hsort
  obtain ⟨hs1, _, hs2⟩ := hperm
  have hpd : d'.toList.Perm d.toList := by
    have e1 : d'.extract 0 d.size = d' := by rw [← hs1]; simp
    have e2 : d.extract 0 d.size = d := by simp
    rw [e1, e2] at hs2; exact hs2
  have hp2 : (d'.toList.map (·.1)).Perm X := (hpd.map _).trans (List.Perm.of_eq hdl)
  have hsl : (d'.toList.map (·.1)).length = X.length := by simp [hs1, hds]
  have hpw : (d'.toList.map (·.1)).Pairwise (fun a b => 0 ≤ ordM b a) := by
    rw [List.pairwise_map, List.pairwise_iff_getElem]
    intro i j hi hj hij
    have := hsort i j (Nat.zero_le _) hij (by rw [← hs1]; simpa using hj)
    rw [getElem!_pos d' i (by simpa using hi), getElem!_pos d' j (by simpa using hj)] at this
    simpa [ltOf] using this
  have hse : d'.toList.map (·.1) = s := pw_uniq (hp2.trans hsp.symm) (fun x hx y hy h1 h2 => ord_anti (hX x (hp2.subset hx)) (hX y (hp2.subset hy)) h1 h2) hpw hss
  · intro w β us base u hH hdom hargs hu hown hbase hap
    obtain ⟨v, rfl, hv0⟩ := isl_io hargs
    rw [hu] at hv0
    cases hv0
    obtain ⟨hlen, hnil | ⟨g, cap, cur, rfl, hg, hgc, hnc, hcm, hcs, htk⟩⟩ := hown
    · exact (hne (List.eq_nil_of_length_eq_zero hnil.2)).elim
    dsimp only at hlen hgc hnc hcs htk
    have hgs : g < w.heap.size := (Array.getElem?_eq_some_iff.1 hgc).1
    have hfl : (flatK (encT X) 4 d).toList = msV X := by rw [flat_ms, hdl]
    have hfs : (flatK (encT X) 4 d).size = X.length * 4 := by rw [size_flatK, hds]
    have hfl' : (flatK (encT X) 4 d').toList = msV s := by rw [flat_ms d', hse]
    have hfs' : (flatK (encT X) 4 d').size = X.length * 4 := by rw [size_flatK, hs1, hds]
    have hHold : HoldsK (encT X) 4 w g 0 d := by
      intro j hj
      rw [hfs] at hj
      have hjc : j < cur.size := by rw [hcs]; omega
      have h1 : cur[j]? = some ((flatK (encT X) 4 d)[j]!) := by
        have h2 : (cur.toList.take (X.length * 4))[j]? = (flatK (encT X) 4 d).toList[j]? := by rw [htk, hfl]
        rw [List.getElem?_take, if_pos hj, Array.getElem?_toList, Array.getElem?_toList] at h2
        rw [h2, getElem!_pos _ j (by omega), Array.getElem?_eq_getElem]
      constructor
      · simp only [World.cell?, hgc, Nat.zero_add, Option.isSome_none, id]
        exact h1
      · simp [World.frozen?, hgc]
    have hcon := AnyQ.slices_SortFunc_eq Tryz.sortMt 4 agg_mt siz_mt (encT X) (fun _ => rfl) (fun x v hv => by simp [encT] at hv; rcases hv with rfl | rfl | rfl | rfl <;> rfl) (fun x y => ordM x.1 y.1) hO 37 #[] g 0 cap d w io_enters
      (io_lays hX w g d.size) hHold hgs (by omega)
    rw [← hd', hds] at hcon
    refine Calls.mono (show Calls Tryz.prog 81 _ w _ from hcon) fun e w' ⟨he, n, os, hw⟩ => ?_
    have hsz : (putRow id (Sort.ahead w n) g 0 (flatK (encT X) 4 d')).heap.size = w.heap.size := by rw [size_putRow]; rfl
    have hblk : ∀ k, k < w.heap.size → w'.heap[k]? = (putRow id (Sort.ahead w n) g 0 (flatK (encT X) 4 d')).heap[k]? := fun k hk => by
      rw [hw]
      unfold sortWorldK Sort.grow putRowK
      exact Array.getElem?_append_left (by rw [hsz]; exact hk)
    have hself := (hblk g hgs).trans (put_cells (w := Sort.ahead w n) (fr := (0, 0)) hgc _)
    refine ⟨he, ⟨⟨?_, ?_, ?_, ?_, ?_⟩, ?_, ?_⟩, ⟨?_, .inr ⟨g, cap, _, rfl, hg, hself, hnc, hcm, ?_, ?_⟩⟩, ms_one _⟩
    · rw [hw]; rfl
    · rw [hw]; rfl
    · rw [hw]; rfl
    · rw [hw]; unfold sortWorldK putRowK; rw [size_grow, hsz]; omega
    · intro k hk hkr
      rw [hblk k hk]
      exact put_other (Sort.ahead w n) g _ fun e => hkr (by rw [e]; rfl)
    · intro a ha
      rw [hw]
      unfold sortWorldK putRowK
      rw [frozen?_grow _ _ _ (by rw [hsz]; exact ha), frozen?_putRow]; rfl
    · rw [hw]; show w.drawn ≤ w.drawn + n; omega
    · rw [msV_length, ← hse, hsl]
    · rw [putCells_size]; exact hcs
    · rw [← hfs', putCells_take _ _ (by rw [hfs', hcs]; omega), hfl']
theorem SortM_any (hX : ∀ m ∈ X, MtOk m) (hn : X.length ≤ 100000) {s : List Mt} (hsp : s.Perm X) (hss : s.Pairwise (fun a b => 0 ≤ ordM b a)) :
    FnM Tryz.prog 81 1 [.ls 0 X.length, .pv inV] [(0, 0, rowM X)] (.tuple #[]) 0 ⟨47, 4, X.length, msV X⟩ (msV s) := by
  by_cases h : X = []
  · subst h
    have : s = [] := hsp.eq_nil
    subst this
    intro w β us base u hH hdom hargs hu hown hbase hap
    obtain ⟨v, rfl, hv0⟩ := isl_io hargs
    rw [hu] at hv0
    cases hv0
    have hsl : ∃ p c, u = .slice p 0 c := by
      obtain ⟨_, ⟨rfl, _⟩ | ⟨g, cap, cur, rfl, _⟩⟩ := hown
      · exact ⟨_, _, rfl⟩
      · exact ⟨_, _, rfl⟩
    obtain ⟨p, c, rfl⟩ := hsl
    refine Calls.mono (show Calls Tryz.prog 81 _ w _ from AnyF.slices_SortFunc_none Tryz.sortMt p c _ w) fun e w' ⟨he, hw⟩ => ?_
    subst hw
    exact ⟨he, Upd.refl _ _, hown, ms_one _⟩
  · exact SortM_some hX hn h hsp hss
end
end Go.Proofs.YtpngjeloiifgnaaGreat

namespace Go.Proofs.YtpngjeloiifgnaaGreat
open Go.RowKit
/-- One new list, and nothing else kept. -/
theorem new_relK {W w' : World} {k : Nat} {β : Bl} {pre : List (Nat × Nat × SV)} {u : Value} {e : TypeId} {es n : Nat} {xs : List Value} (H : HRel W k β pre W) (hd : β.dom k) (hg : Gr W w') (ho : w'.ownsRow W.heap.size e es u n xs) (h1 : ∀ v ∈ xs, v.oneCell' = true) :
    HRel W k (β.setG k u) [(k, 0, .row e es n xs)] w' where
  gr := hg
  live := fun b r h => Nat.lt_of_lt_of_le (H.live b r h) hg.size
  inj := H.inj
  new := fun b r hb h => by
    have h' : β b = some r := h
    rw [(hd b hb).1] at h'; cases h'
  sep := fun b r h => by
    have hb : b ≠ k := fun e => by
      subst e
      have h' : β b = some r := h
      rw [(hd b (Nat.le_refl _)).1] at h'; cases h'
    unfold Bl.setG
    simp only [if_neg hb]
    exact H.sep b r h
  cells := fun b o sv hl hs => by
    rw [lookH_cons] at hl
    split at hl
    · cases hl; cases hs
    · cases hl
  rows := fun b o e' es' n' xs' hl => by
    rw [lookH_cons] at hl
    split at hl
    · rename_i hb
      obtain ⟨rfl, rfl⟩ := hb
      cases hl
      exact ⟨u, Bl.setG_same β _ u, owns_rd ho, h1, fun h => by omega, fun _ => ho, fun _ c r hc hu => by
        have h1 := (ownsRow_lt ho r hu).1
        have h2 := H.live c r hc
        omega⟩
    · cases hl
  rinj := fun b o e es n xs c o' e' es' n' xs' u v hl hl' h1 h2 hne => by
    rw [lookH_cons] at hl hl'
    split at hl
    · rename_i hb
      split at hl'
      · rename_i hb'
        exact (hne (hb.1.symm.trans hb'.1)).elim
      · cases hl'
    · cases hl
theorem setG_domK {k : Nat} {β : Bl} {u : Value} (hd : β.dom k) : (β.setG k u).dom (k + 1) := fun b hb => ⟨(hd b (by omega)).1, by unfold Bl.setG; simp only [if_neg (show b ≠ k by omega)]; exact (hd b (by omega)).2⟩

/-- What is there when the meetings between two times are asked for. -/
abbrev bwH (l : List Pt) (fn fd tn td : Int) : List (Nat × Nat × SV) := [(1, 0, .ls 0 l.length), (2, 0, .pv (.int .i64 fn)), (2, 1, .pv (.int .i64 fd)), (3, 0, .pv (.int .i64 tn)), (3, 1, .pv (.int .i64 td)),
  (4, 0, .pc 159 [.pp 1 0]), (5, 0, .pc 124 [.pp 2 0]), (6, 0, .pc 122 [.pp 4 0, .pp 5 0]), (7, 0, .pc 84 [.pp 3 0]), (0, 0, rowP l)]
abbrev bwS : SV := .pc 122 [.pp 6 0, .pp 7 0]
theorem AppendSeq_raw {l : List Pt} {f : Pt × Pt → Option Mt} {fn fd tn td : Int} (hM : Meets l f) (ht : TmOk fn fd) (hs : TmOk tn td) {X : List Mt} (hX : X = (((pairsOf l).filterMap f).filter (kpA fn fd)).filter (kpB tn td)) (hN : X.length ≤ 100000) :
    ∀ (W : World) (β : Bl) (us : List Value), HRel W 8 β (bwH l fn fd tn td) W → β.dom 8 → SV.isl β [.pv nilV, bwS] us →
      Calls Tryz.prog 120 us.toArray W fun e w' => ∃ v, e = .returned v ∧ Gr W w' ∧ w'.ownsRow W.heap.size 47 4 v X.length (msV X) ∧ (X = [] → v = nilV) := by
  intro W β us H hdm hu
  obtain ⟨u, g0⟩ := row_g H (b := 0) (o := 0) rfl
  obtain ⟨rt, et⟩ := lt_of_lookup H (b := 3) (o := 0) rfl rfl
  obtain ⟨rf, ef⟩ := lt_of_lookup H (b := 2) (o := 0) rfl rfl
  obtain ⟨rb, eb⟩ := lt_of_lookup H (b := 1) (o := 0) rfl rfl
  obtain ⟨ra, ea⟩ := lt_of_lookup H (b := 4) (o := 0) rfl rfl
  obtain ⟨rk, ek⟩ := lt_of_lookup H (b := 5) (o := 0) rfl rfl
  obtain ⟨rc, ec⟩ := lt_of_lookup H (b := 6) (o := 0) rfl rfl
  obtain ⟨rj, ej⟩ := lt_of_lookup H (b := 7) (o := 0) rfl rfl
  have t0 := cel_of H (b := 3) (o := 0) rfl et
  have t1 := cel_of H (b := 3) (o := 1) rfl et
  have f0 := cel_of H (b := 2) (o := 0) rfl ef
  have f1 := cel_of H (b := 2) (o := 1) rfl ef
  have cb : Cel W rb 0 u := box_of H (b := 1) rfl eb g0
  have hrd := row_of H (b := 0) (o := 0) rfl g0
  obtain ⟨_, p1, ca⟩ := cel_pc H (b := 4) (o := 0) rfl ea
  obtain ⟨r', e', rfl⟩ := pps_one p1; rw [eb] at e'; cases e'
  obtain ⟨_, p2, ck⟩ := cel_pc H (b := 5) (o := 0) rfl ek
  obtain ⟨r', e', rfl⟩ := pps_one p2; rw [ef] at e'; cases e'
  obtain ⟨_, p3, cc⟩ := cel_pc H (b := 6) (o := 0) rfl ec
  obtain ⟨r', s', e', e'', rfl⟩ := pps_two p3; rw [ea] at e'; rw [ek] at e''; cases e'; cases e''
  obtain ⟨_, p4, cj⟩ := cel_pc H (b := 7) (o := 0) rfl ej
  obtain ⟨r', e', rfl⟩ := pps_one p4; rw [et] at e'; cases e'
  have ne1 : ra ≠ rk := fun h => by subst h; have := H.inj 4 5 _ ea ek; omega
  have ne2 : rc ≠ rj := fun h => by subst h; have := H.inj 6 7 _ ec ej; omega
  have hown : ∀ b, bkB l u rb rf ra rk rt rc rj b → b < W.heap.size := fun b h => by
    rcases h with ((((rfl | ⟨hx, h⟩) | rfl) | rfl | rfl) | rfl) | rfl | rfl
    · exact cb.lt
    · exact hrd.lt hx b h
    · exact f0.lt
    · exact ca.lt
    · exact ck.lt
    · exact t0.lt
    · exact cc.lt
    · exact cj.lt
  have hseq := betw_at hM ht hs cb hrd f0 f1 ca ck ne1 t0 t1 cc cj ne2
  rw [← hX] at hseq
  obtain rfl : us = [nilV, fv 122 #[ptr rc, ptr rj]] := by
    match us, hu with
    | [x, y], ⟨h3, ⟨vs, h1, h2⟩, _⟩ =>
      obtain ⟨r, s, e1, e2, rfl⟩ := pps_two h1
      rw [ec] at e1; rw [ej] at e2; cases e1; cases e2
      rw [h2, show x = nilV from h3]
  exact appendSeq_calls (by kernel_rfl) hseq hown hN
theorem AppendSeq_betw {l : List Pt} {f : Pt × Pt → Option Mt} {fn fd tn td : Int} (hM : Meets l f) (ht : TmOk fn fd) (hs : TmOk tn td) {X : List Mt} (hX : X = (((pairsOf l).filterMap f).filter (kpA fn fd)).filter (kpB tn td)) (hN : X.length ≤ 100000) :
    FnL Tryz.prog 120 8 [.pv nilV, bwS] (bwH l fn fd tn td) (.ls 8 X.length) 1 [(8, 0, rowM X)] := by
  intro W β us H hdm hu
  refine (AppendSeq_raw hM ht hs hX hN W β us H hdm hu).mono fun e w' ⟨v, he, hg, ho, _⟩ => ?_
  have hd8 := hdm 8 (Nat.le_refl _)
  have hsl : ∃ a c, v = .slice a X.length c := owns_sl ho
  exact ⟨v, β.setG 8 v, he, Bl.le_setG hd8.1 hd8.2, ⟨Bl.setG_same _ _ _, hsl⟩, new_relK H hdm hg ho (ms_one X), setG_domK hdm⟩
theorem AppendSeq_none {l : List Pt} {f : Pt × Pt → Option Mt} {fn fd tn td : Int} (hM : Meets l f) (ht : TmOk fn fd) (hs : TmOk tn td) (hX : (((pairsOf l).filterMap f).filter (kpA fn fd)).filter (kpB tn td) = []) :
    FnL Tryz.prog 120 8 [.pv nilV, bwS] (bwH l fn fd tn td) (.pv nilV) 0 [] := by
  intro W β us H hdm hu
  exact (AppendSeq_raw (X := []) hM ht hs hX.symm (by decide) W β us H hdm hu).mono fun e w' ⟨v, he, hg, _, hem⟩ => ⟨v, β, he, Bl.le_refl _, hem rfl, (H.gr_mono hg).imp (fun _ _ _ h => (by cases h)), hdm⟩
section
variable {l : List Pt} {fn fd tn td : Int} {X s : List Mt}
set_option maxRecDepth 100000 in
theorem collect_path (h : FnL Tryz.prog 120 8 [.pv nilV, bwS] (bwH l fn fd tn td) (.ls 8 X.length) 1 [(8, 0, rowM X)]) :
    FnL Tryz.prog 80 8 [bwS] (bwH l fn fd tn td) (.ls 8 X.length) 1 [(8, 0, rowM X)] :=
  fnl_run 300 [] [.f [0,1,2,3,4,5,6,7] [.pv nilV, bwS] (bwH l fn fd tn td) (.ls 8 X.length) 1 [(8, 0, rowM X)]]
    (reflH (renN []) [(8, 0, rowM X)]) (And.intro h (And.intro (Eq.refl (List.map (SV.ren (renU [0,1,2,3,4,5,6,7] 8)) [.pv nilV, bwS])) (And.intro (reflH (renU [0,1,2,3,4,5,6,7] 8) (bwH l fn fd tn td)) True.intro))) (by kernel_rfl)
set_option maxRecDepth 100000 in
theorem sorted_path (h : FnL Tryz.prog 80 8 [bwS] (bwH l fn fd tn td) (.ls 8 X.length) 1 [(8, 0, rowM X)])
    (hso : FnM Tryz.prog 81 1 [.ls 0 X.length, .pv inV] [(0, 0, rowM X)] (.tuple #[]) 0 ⟨47, 4, X.length, msV X⟩ (msV s)) :
    FnL Tryz.prog 35 8 [bwS, .pv inV] (bwH l fn fd tn td) (.ls 8 X.length) 1 [(8, 0, .row 47 4 X.length (msV s))] :=
  fnl_run 300 [] [.f [0,1,2,3,4,5,6,7] [bwS] (bwH l fn fd tn td) (.ls 8 X.length) 1 [(8, 0, rowM X)], .m [8] [.ls 0 X.length, .pv inV] [(0, 0, rowM X)] (.tuple #[]) 0 (msV s)]
    (reflH (renN []) [(8, 0, .row 47 4 X.length (msV s))]) (And.intro h (And.intro (Eq.refl (List.map (SV.ren (renU [0,1,2,3,4,5,6,7] 8)) [bwS])) (And.intro (reflH (renU [0,1,2,3,4,5,6,7] 8) (bwH l fn fd tn td))
      (And.intro hso (And.intro (Eq.refl (List.map (SV.ren (renU [8] 9)) [.ls 0 X.length, .pv inV])) (And.intro (reflH (renU [8] 9) [(0, 0, rowM X)]) True.intro)))))) (by kernel_rfl)
set_option maxRecDepth 100000 in
theorem all_path (hc : FnL Tryz.prog 34 1 [fldS 0 l, .pv (ratioV fn fd), .pv (ratioV tn td)] [(0, 0, rowP l)] (.pv (.int .i64 0)) 0 [])
    (h : FnL Tryz.prog 35 8 [bwS, .pv inV] (bwH l fn fd tn td) (.ls 8 s.length) 1 [(8, 0, rowM s)]) (h0 : 0 ≤ (s.length : Int)) (h1 : s.length ≤ s.length) :
    FnL Tryz.prog 12 1 [fldS 0 l, .pv (ratioV fn fd), .pv (ratioV tn td)] [(0, 0, rowP l)] (.tu [.one (.lq 1 4 0 s.length), .one (.pv (.int .i64 0))]) 1 [(1, 0, rowM s)] :=
  fnl_run 300 [(1, 14)] [.f [0] [fldS 0 l, .pv (ratioV fn fd), .pv (ratioV tn td)] [(0, 0, rowP l)] (.pv (.int .i64 0)) 0 [], .k, .k, .k, .k, .k, .k, .f [0,9,8,6,10,11,12,13] [bwS, .pv inV] (bwH l fn fd tn td) (.ls 8 s.length) 1 [(8, 0, rowM s)], .k]
    (reflH (renN [(1, 14)]) [(1, 0, rowM s)]) (And.intro hc (And.intro (Eq.refl (List.map (SV.ren (renU [0] 4)) [fldS 0 l, .pv (ratioV fn fd), .pv (ratioV tn td)])) (And.intro (reflH (renU [0] 4) [(0, 0, rowP l)])
      (And.intro h (And.intro (Eq.refl (List.map (SV.ren (renU [0,9,8,6,10,11,12,13] 14)) [bwS, .pv inV])) (And.intro (reflH (renU [0,9,8,6,10,11,12,13] 14) (bwH l fn fd tn td)) (And.intro True.intro (And.intro h0 (And.intro h0 (And.intro (Nat.zero_le s.length) (And.intro h1 (And.intro h1 True.intro)))))))))))) (by kernel_rfl)
set_option maxRecDepth 100000 in
theorem collect_none (h : FnL Tryz.prog 120 8 [.pv nilV, bwS] (bwH l fn fd tn td) (.pv nilV) 0 []) :
    FnL Tryz.prog 80 8 [bwS] (bwH l fn fd tn td) (.pv nilV) 0 [] :=
  fnl_run 300 [] [.f [0,1,2,3,4,5,6,7] [.pv nilV, bwS] (bwH l fn fd tn td) (.pv nilV) 0 []]
    True.intro (And.intro h (And.intro (Eq.refl (List.map (SV.ren (renU [0,1,2,3,4,5,6,7] 8)) [.pv nilV, bwS])) (And.intro (reflH (renU [0,1,2,3,4,5,6,7] 8) (bwH l fn fd tn td)) True.intro))) (by kernel_rfl)
set_option maxRecDepth 100000 in
theorem sorted_none (h : FnL Tryz.prog 80 8 [bwS] (bwH l fn fd tn td) (.pv nilV) 0 [])
    (hso : Pure Tryz.prog 81 #[nilV, inV] (.tuple #[])) :
    FnL Tryz.prog 35 8 [bwS, .pv inV] (bwH l fn fd tn td) (.pv nilV) 0 [] :=
  fnl_run 300 [] [.f [0,1,2,3,4,5,6,7] [bwS] (bwH l fn fd tn td) (.pv nilV) 0 [], .r (.tuple #[])]
    True.intro (And.intro h (And.intro (Eq.refl (List.map (SV.ren (renU [0,1,2,3,4,5,6,7] 8)) [bwS])) (And.intro (reflH (renU [0,1,2,3,4,5,6,7] 8) (bwH l fn fd tn td)) (And.intro hso True.intro)))) (by kernel_rfl)
set_option maxRecDepth 100000 in
theorem all_none (hc : FnL Tryz.prog 34 1 [fldS 0 l, .pv (ratioV fn fd), .pv (ratioV tn td)] [(0, 0, rowP l)] (.pv (.int .i64 0)) 0 [])
    (h : FnL Tryz.prog 35 8 [bwS, .pv inV] (bwH l fn fd tn td) (.pv nilV) 0 []) :
    FnL Tryz.prog 12 1 [fldS 0 l, .pv (ratioV fn fd), .pv (ratioV tn td)] [(0, 0, rowP l)] (.pv (.tuple #[nilV, .int .i64 0])) 0 [] :=
  fnl_run 300 [] [.f [0] [fldS 0 l, .pv (ratioV fn fd), .pv (ratioV tn td)] [(0, 0, rowP l)] (.pv (.int .i64 0)) 0 [], .k, .k, .k, .k, .k, .k, .f [0,9,8,6,10,11,12,13] [bwS, .pv inV] (bwH l fn fd tn td) (.pv nilV) 0 []]
    True.intro (And.intro hc (And.intro (Eq.refl (List.map (SV.ren (renU [0] 4)) [fldS 0 l, .pv (ratioV fn fd), .pv (ratioV tn td)])) (And.intro (reflH (renU [0] 4) [(0, 0, rowP l)])
      (And.intro h (And.intro (Eq.refl (List.map (SV.ren (renU [0,9,8,6,10,11,12,13] 14)) [bwS, .pv inV])) (And.intro (reflH (renU [0,9,8,6,10,11,12,13] 14) (bwH l fn fd tn td)) True.intro)))))) (by kernel_rfl)
end
/-- **All, between valid times in order: a new list, in order.** -/
theorem All_ok {fn fd tn td : Int} (h1 : I64 fn) (h2 : I64 fd) (h3 : I64 tn) (h4 : I64 td) (l : List Pt) (h : mE l fn fd tn td = 0) :
    FnL Tryz.prog 12 1 [fldS 0 l, .pv (ratioV fn fd), .pv (ratioV tn td)] [(0, 0, rowP l)] (.tu [.one (.lq 1 4 0 (btwS l fn fd tn td).length), .one (.pv (.int .i64 0))]) 1 [(1, 0, rowM (btwS l fn fd tn td))] := by
  have c := CB_any h1 h2 h3 h4 l
  rw [h] at c
  obtain ⟨hv, g1, g2, _⟩ := mE_ok h
  have hp := btwS_perm l fn fd tn td
  have hlen := hp.length_eq
  have hl2 := btwS_len hv fn fd tn td
  have hX : ∀ m ∈ btw l fn fd tn td, MtOk m := fun m hm => ms_ok hv m (List.mem_filter.1 (List.mem_filter.1 hm).1).1
  have a1 := AppendSeq_betw (meets_val hv) (fn := fn) (fd := fd) (tn := tn) (td := td) ⟨h1, h2, g1⟩ ⟨h3, h4, g2⟩ (X := btw l fn fd tn td) rfl (by omega)
  have a2 := sorted_path (collect_path a1) (SortM_any hX (by omega) hp (btwS_pw hv fn fd tn td))
  rw [← hlen] at a2
  exact all_path c a2 (by omega) (Nat.le_refl _)
/-- Where there are none, a nil list. -/
theorem All_none {fn fd tn td : Int} (h1 : I64 fn) (h2 : I64 fd) (h3 : I64 tn) (h4 : I64 td) (l : List Pt) (h : mE l fn fd tn td = 0) (hX : btw l fn fd tn td = []) :
    FnL Tryz.prog 12 1 [fldS 0 l, .pv (ratioV fn fd), .pv (ratioV tn td)] [(0, 0, rowP l)] (.pv (.tuple #[nilV, .int .i64 0])) 0 [] := by
  have c := CB_any h1 h2 h3 h4 l
  rw [h] at c
  obtain ⟨hv, g1, g2, _⟩ := mE_ok h
  refine all_none c (sorted_none (collect_none (AppendSeq_none (meets_val hv) (fn := fn) (fd := fd) (tn := tn) (td := td) ⟨h1, h2, g1⟩ ⟨h3, h4, g2⟩ hX)) fun w => ?_)
  exact Calls.mono (show Calls Tryz.prog 81 _ w _ from AnyF.slices_SortFunc_none Tryz.sortMt none 0 _ w) fun e w' ⟨he, hw⟩ => ⟨he, Gr.of_eq hw.symm⟩
end Go.Proofs.YtpngjeloiifgnaaGreat

namespace Go.Proofs.YtpngjeloiifgnaaGreat
open Go.RowKit
instance decI64 (n : Int) : Decidable (I64 n) := by unfold I64; infer_instance
theorem fM_eq {x : Pt × Pt} (h1 : okPt x.1 = true) (h2 : okPt x.2 = true) (hb : x.1.b ≠ x.2.b) {n d : Int} (hk : okB n d = true) (he : n * (x.1.b - x.2.b) = (x.2.a - x.1.a) * d) : fM x = some ⟨n, d, x.1.id, x.2.id⟩ := by
  obtain ⟨m, h, hm⟩ := fM_diff h1 h2 hb
  have e := hm.eq
  have e2 : (m.n * d) * (x.1.b - x.2.b) = (n * m.d) * (x.1.b - x.2.b) := by
    have a1 : (m.n * d) * (x.1.b - x.2.b) = (m.n * (x.1.b - x.2.b)) * d := by rw [Int.mul_assoc, Int.mul_comm d, ← Int.mul_assoc]
    have a2 : (n * m.d) * (x.1.b - x.2.b) = (n * (x.1.b - x.2.b)) * m.d := by rw [Int.mul_assoc, Int.mul_comm m.d, ← Int.mul_assoc]
    rw [a1, a2, e, he, Int.mul_assoc, Int.mul_assoc, Int.mul_comm d]
  have e3 : m.n * d = n * m.d := Int.eq_of_mul_eq_mul_right (by omega) e2
  obtain ⟨e4, e5⟩ := okB_one hm.ok hk (by omega)
  rw [h, ← e4, ← e5, ← hm.i, ← hm.j]
abbrev gl : List Pt := [⟨1, 0, 2⟩, ⟨2, 6, -1⟩, ⟨5, 0, 0⟩]
theorem up_of : ∀ {l : List Pt}, (l.zip l.tail).all (fun x => decide (x.1.id < x.2.id)) = true → Up l := by
  intro l h k p q hp hq
  have h2 := List.all_eq_true.1 h (p, q) (by
    refine List.mem_of_getElem? (i := k) ?_
    rw [List.getElem?_zip_eq_some]
    exact ⟨hp, by rw [List.getElem?_tail]; exact hq⟩)
  exact of_decide_eq_true h2
end Go.Proofs.YtpngjeloiifgnaaGreat

namespace Go.Proofs.YtpngjeloiifgnaaGreat
open Go.RowKit
theorem ra_mi {l : List Mt} {k : Nat} {m : Mt} (h : l[k]? = some m) : rowAt (msV l) (0 * 4 + k * 4 + 2) [.int .i64 m.i] := by
  obtain ⟨h1, h2, h3, h4⟩ := msV_get h
  intro j v hj
  match j, hj with
  | 0, hj => cases hj; rw [show 0 * 4 + k * 4 + 2 + 0 = k * 4 + 2 by omega]; exact h3
  | j + 1, hj => simp at hj
theorem ra_mj {l : List Mt} {k : Nat} {m : Mt} (h : l[k]? = some m) : rowAt (msV l) (0 * 4 + k * 4 + 3) [.int .i64 m.j] := by
  obtain ⟨h1, h2, h3, h4⟩ := msV_get h
  intro j v hj
  match j, hj with
  | 0, hj => cases hj; rw [show 0 * 4 + k * 4 + 3 + 0 = k * 4 + 3 by omega]; exact h4
  | j + 1, hj => simp at hj
theorem ra_mat {l : List Mt} {k : Nat} {m : Mt} (h : l[k]? = some m) : rowAt (msV l) (0 * 4 + k * 4) [.int .i64 m.n, .int .i64 m.d] := by
  obtain ⟨h1, h2, h3, h4⟩ := msV_get h
  intro j v hj
  match j, hj with
  | 0, hj => cases hj; rw [show 0 * 4 + k * 4 + 0 = k * 4 by omega]; exact h1
  | 1, hj => cases hj; rw [show 0 * 4 + k * 4 + 1 = k * 4 + 1 by omega]; exact h2
  | j + 2, hj => simp at hj

end Go.Proofs.YtpngjeloiifgnaaGreat

namespace Go.Proofs.YtpngjeloiifgnaaGreat
open Go.RowKit
theorem pairs_of : ∀ {l : List Pt} {i j : Nat} {p q : Pt}, i < j → l[i]? = some p → l[j]? = some q → (p, q) ∈ pairsOf l
  | [], i, j, p, q, _, h, _ => by simp at h
  | a :: r, 0, j, p, q, hij, hi, hj => by
    simp at hi
    subst hi
    rw [pairsOf]
    cases j with
    | zero => omega
    | succ j => exact List.mem_append_left _ (List.mem_map.2 ⟨q, List.mem_of_getElem? (i := j) (by simpa using hj), rfl⟩)
  | a :: r, i + 1, j, p, q, hij, hi, hj => by
    rw [pairsOf]
    cases j with
    | zero => omega
    | succ j => exact List.mem_append_right _ (pairs_of (i := i) (j := j) (by omega) (by simpa using hi) (by simpa using hj))
/-- Two points of a field with different speeds meet. -/
theorem ms_pair {l : List Pt} (hv : Val l) {p q : Pt} (hp : p ∈ l) (hq : q ∈ l) (hb : p.b ≠ q.b) : ∃ m ∈ msOf l, m.n * (p.b - q.b) = (q.a - p.a) * m.d := by
  obtain ⟨i, hi, rfl⟩ := List.getElem_of_mem hp
  obtain ⟨j, hj, rfl⟩ := List.getElem_of_mem hq
  rcases Nat.lt_trichotomy i j with h | h | h
  · have hx := pairs_of h (List.getElem?_eq_getElem hi) (List.getElem?_eq_getElem hj)
    rcases fM_any hv hx with ⟨e, _⟩ | ⟨_, m, hf, hm⟩
    · exact (hb e).elim
    · exact ⟨m, List.mem_filterMap.2 ⟨_, hx, hf⟩, hm.eq⟩
  · subst h; exact (hb rfl).elim
  · have hx := pairs_of h (List.getElem?_eq_getElem hj) (List.getElem?_eq_getElem hi)
    rcases fM_any hv hx with ⟨e, _⟩ | ⟨_, m, hf, hm⟩
    · exact (hb e.symm).elim
    · refine ⟨m, List.mem_filterMap.2 ⟨_, hx, hf⟩, ?_⟩
      have e := hm.eq
      have e0 : m.n * (l[j].b - l[i].b) = (l[i].a - l[j].a) * m.d := e
      have e1 : m.n * (l[i].b - l[j].b) = -(m.n * (l[j].b - l[i].b)) := by rw [← Int.mul_neg]; congr 1; omega
      have e2 : (l[j].a - l[i].a) * m.d = -((l[i].a - l[j].a) * m.d) := by rw [← Int.neg_mul]; congr 1; omega
      rw [e1, e2, e0]
theorem ld_equal {p q : Pt} {T D T' D' : Int} (h : 0 < D) (h' : 0 < D') (hb : p.b = q.b) : ld T D p q = ld T' D' p q := by
  unfold ld
  rw [hb, leads_same h, leads_same h']
end Go.Proofs.YtpngjeloiifgnaaGreat

namespace Go.Proofs.YtpngjeloiifgnaaGreat
open Go.RowKit
theorem mul_bdM {x y : Int} (h1 : -1048576 ≤ x) (h2 : x ≤ 1048576) (h3 : -1048576 ≤ y) (h4 : y ≤ 1048576) : -1099511627776 ≤ x * y ∧ x * y ≤ 1099511627776 := by
  have : (x * y).natAbs ≤ 1099511627776 := by
    rw [Int.natAbs_mul]
    exact Nat.le_trans (Nat.mul_le_mul (show x.natAbs ≤ 1048576 by omega) (show y.natAbs ≤ 1048576 by omega)) (by decide)
  omega
/-- At their meeting both points are at one place, which is in range. -/
theorem meet_placeV {p q : Pt} (hp : okPt p = true) (hq : okPt q = true) {m : Mt} (hm : MSpec p q m) (hb : p.b ≠ q.b) :
    ∃ N D, (okB N D = true ∧ I64 N ∧ I64 D) ∧ Pure Tryz.prog 33 #[ptV p, ratioV m.n m.d] (.tuple #[ratioV N D, .int .i64 0]) ∧ Pure Tryz.prog 33 #[ptV q, ratioV m.n m.d] (.tuple #[ratioV N D, .int .i64 0]) := by
  have d0 := okB_den hm.ok
  obtain ⟨N, D, E, hr, ha⟩ := At_res hm.n hm.d hp hm.ok
  obtain ⟨N', D', E', hr', ha'⟩ := At_res hm.n hm.d hq hm.ok
  have hp' := okP_iff.1 hp
  have hq' := okP_iff.1 hq
  have b1 := mul_bdM (x := p.b) (y := q.a) (by omega) (by omega) (by omega) (by omega)
  have b2 := mul_bdM (x := p.a) (y := q.b) (by omega) (by omega) (by omega) (by omega)
  have e := hm.eq
  have k1 : (p.a * m.d + p.b * m.n) * (p.b - q.b) = (p.b * q.a - p.a * q.b) * m.d := by
    have : (p.a * m.d + p.b * m.n) * (p.b - q.b) = p.a * m.d * (p.b - q.b) + p.b * (m.n * (p.b - q.b)) := by rw [Int.add_mul, Int.mul_assoc p.b]
    rw [this, e]
    simp only [Int.mul_sub, Int.sub_mul, Int.mul_assoc, Int.mul_comm m.d, Int.mul_left_comm]
    simp only [Int.mul_comm, Int.mul_left_comm]
    omega
  have k2 : (q.a * m.d + q.b * m.n) * (p.b - q.b) = (p.b * q.a - p.a * q.b) * m.d := by
    have : (q.a * m.d + q.b * m.n) * (p.b - q.b) = q.a * m.d * (p.b - q.b) + q.b * (m.n * (p.b - q.b)) := by rw [Int.add_mul, Int.mul_assoc q.b]
    rw [this, e]
    simp only [Int.mul_sub, Int.sub_mul, Int.mul_assoc, Int.mul_comm m.d, Int.mul_left_comm]
    simp only [Int.mul_comm, Int.mul_left_comm]
    omega
  have c1 := hr.congr (by omega) (by omega) k1
  have c2 := hr'.congr (by omega) (by omega) k2
  have fit : ∀ {N D E : Int}, IsRes (p.b * q.a - p.a * q.b) (p.b - q.b) N D E → E = 0 ∧ (okB N D = true ∧ I64 N ∧ I64 D) ∧ N * (p.b - q.b) = (p.b * q.a - p.a * q.b) * D := by
    intro N D E h
    by_cases hs : 0 < p.b - q.b
    · obtain ⟨h1, h2, h3, h4, h5⟩ := h.fits hs (by omega) (by omega) (by omega)
      exact ⟨h1, ⟨h2, h3, h4⟩, h5⟩
    · have h2 := h.congr (p' := -(p.b * q.a - p.a * q.b)) (q' := -(p.b - q.b)) (by omega) (by omega) (by rw [Int.mul_neg, Int.neg_mul])
      obtain ⟨e1, e2, e3, e4, e5⟩ := h2.fits (by omega) (by omega) (by omega) (by omega)
      refine ⟨e1, ⟨e2, e3, e4⟩, ?_⟩
      rw [Int.mul_neg, Int.neg_mul] at e5
      omega
  obtain ⟨e0, o1, f1⟩ := fit c1
  obtain ⟨e0', o2, f2⟩ := fit c2
  have hne : p.b - q.b ≠ 0 := by omega
  have e3 : N * D' = N' * D := by
    refine Int.eq_of_mul_eq_mul_right hne ?_
    rw [Int.mul_right_comm, f1, Int.mul_right_comm N' D, f2, Int.mul_right_comm]
  obtain ⟨g1, g2⟩ := okB_one o1.1 o2.1 e3
  subst e0 e0' g1 g2
  exact ⟨N, D, o1, ha, ha'⟩
end Go.Proofs.YtpngjeloiifgnaaGreat
