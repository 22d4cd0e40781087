/-
  What Leader, Order and Rank of package field and of the reference return, for a list of points and a time whatever. Conditions: none.
-/
import Derived.Shelf.SlSortCmp.NoneTotal
import Derived.Test.YtgpbofinbpcceaaFt
namespace Go.Proofs.Ytgpbofinbpcceaa
open Go.RowKit Go.Sort
/-- One new list, and nothing else kept. -/
theorem new_rel {W w' : World} {β : Bl} {pre : List (Nat × Nat × SV)} {u : Value} {l : List Pt} (H : HRel W 1 β pre W) (hd : β.dom 1) (hg : Gr W w') (ho : w'.ownsRow W.heap.size 27 3 u l.length (ptsV l)) :
    HRel W 1 (β.setG 1 u) [(1, 0, rowP l)] w' where
  gr := hg
  live := fun b r h => Nat.lt_of_lt_of_le (H.live b r h) hg.size
  inj := H.inj
  new := fun b r hb h => by
    have h' : β b = some r := h
    rw [(hd b hb).1] at h'; cases h'
  sep := fun b r h => by
    have hb : b ≠ 1 := fun e => by
      subst e
      have h' : β 1 = some r := h
      rw [(hd 1 (Nat.le_refl _)).1] at h'; cases h'
    unfold Bl.setG
    simp only [if_neg hb]
    exact H.sep b r h
  cells := fun b o sv hl hs => by
    simp only [lookH] at hl
    cases hc : (Nat.beq 1 b && Nat.beq 0 o) <;> rw [hc] at hl
    · cases hl
    · cases hl; cases hs
  rows := fun b o e es n xs hl => by
    simp only [lookH] at hl
    cases hc : (Nat.beq 1 b && Nat.beq 0 o) <;> rw [hc] at hl
    · cases hl
    · cases hl
      rw [Bool.and_eq_true] at hc
      have hb : 1 = b := Nat.eq_of_beq_eq_true hc.1
      subst hb
      exact ⟨u, Bl.setG_same β 1 u, owns_rd ho, pts_one l, fun h => by omega, fun _ => ho, fun _ c r hc hu => by
        have h1 := (ownsRow_lt ho r hu).1
        have h2 := H.live c r hc
        omega⟩
  rinj := fun b o e es n xs c o' e' es' n' xs' u v hl hl' h1 h2 hne => by
    simp only [lookH] at hl hl'
    cases hc : (Nat.beq 1 b && Nat.beq 0 o) <;> rw [hc] at hl
    · cases hl
    · cases hc' : (Nat.beq 1 c && Nat.beq 0 o') <;> rw [hc'] at hl'
      · cases hl'
      · rw [Bool.and_eq_true] at hc hc'
        have e1 := Nat.eq_of_beq_eq_true hc.1
        have e2 := Nat.eq_of_beq_eq_true hc'.1
        exact (hne (e1.symm.trans e2)).elim
theorem setG_dom {β : Bl} {u : Value} (hd : β.dom 1) : (β.setG 1 u).dom (1 + 1) := fun b hb => ⟨(hd b (by omega)).1, by unfold Bl.setG; simp only [if_neg (show b ≠ 1 by omega)]; exact (hd b (by omega)).2⟩
theorem Clone_any {l : List Pt} (hn : l.length ≤ 1000000) : FnL Try.prog 49 1 [.ls 0 l.length] [(0, 0, rowP l)] (.ls 1 l.length) 1 [(1, 0, rowP l)] := by
  by_cases h : l = []
  · subst h
    intro w β us hH hd hargs
    match us, hargs with
    | [v], ⟨⟨_, a, c, hv⟩, _⟩ =>
      have hd1 := hd 1 (Nat.le_refl _)
      cases a with
      | none =>
        subst hv
        refine (clone_nil w).mono fun e w' ⟨he, hg⟩ => ?_
        have ho : w'.ownsRow w.heap.size 27 3 (.slice none 0 0) ([] : List Pt).length (ptsV []) := ⟨rfl, Or.inl ⟨rfl, rfl⟩⟩
        exact ⟨_, β.setG 1 (.slice none 0 0), he, Bl.le_setG hd1.1 hd1.2, ⟨Bl.setG_same _ _ _, none, 0, rfl⟩, new_rel hH hd hg ho, setG_dom hd⟩
      | some ad =>
        subst hv
        have h0 : HRel w 0 Bl.no [] w := ⟨Gr.refl w, fun _ _ h => (by cases h), fun _ _ _ h => (by cases h), fun _ _ _ h => (by cases h), fun _ _ h => (by cases h), fun _ _ _ h => (by cases h), fun _ _ _ _ _ _ h => (by cases h), fun _ _ _ _ _ _ _ _ _ _ _ _ _ _ h => (by cases h)⟩
        refine (clone_e (ad := ad) (c := c) w Bl.no [.slice (some ad) 0 c] h0 (fun _ _ => ⟨rfl, rfl⟩) ⟨rfl, True.intro⟩).mono fun e w' ⟨v, β', he, _, ⟨hx, a', c', hv⟩, hh, _⟩ => ?_
        obtain ⟨u, hu, hr⟩ := hh.rows 0 0 _ _ _ _ rfl
        rw [hx] at hu
        cases hu
        exact ⟨_, β.setG 1 v, he, Bl.le_setG hd1.1 hd1.2, ⟨Bl.setG_same _ _ _, a', c', hv⟩, new_rel hH hd hh.gr (hr.own (Nat.le_refl _)), setG_dom hd⟩
  · have : 0 < l.length := List.length_pos_iff.2 h
    exact clone_path this (by omega)
section
variable {l : List Pt} {tn td : Int}
theorem Sort_any (hv : Val l) (ht : Tm tn td) : ∃ s, Srt l tn td s ∧ FnM Try.prog 50 2 [.ls 0 l.length, .pc 81 [.pp 1 0]] [(0, 0, rowP l), (1, 0, .pv (.int .i64 tn)), (1, 1, .pv (.int .i64 td))] (.tuple #[]) 0 ⟨27, 3, l.length, ptsV l⟩ (ptsV s) := by
  by_cases h : l = []
  · subst h
    refine ⟨[], ⟨List.Perm.refl _, List.Pairwise.nil⟩, ?_⟩
    intro w β us base u hH hdom hargs hu hown hbase hap
    obtain ⟨v, r, rfl, hv0, hr1⟩ := isl_two hargs
    rw [hu] at hv0
    cases hv0
    have hsl : ∃ p c, u = .slice p 0 c := by
      obtain ⟨_, ⟨rfl, _⟩ | ⟨g, cap, cur, rfl, _⟩⟩ := hown
      · exact ⟨_, _, rfl⟩
      · exact ⟨_, _, rfl⟩
    obtain ⟨p, c, rfl⟩ := hsl
    refine Calls.mono (show Calls Try.prog 50 _ w _ from AnyF.slices_SortFunc_none Try.sortPt p c _ w) fun e w' ⟨he, hw⟩ => ?_
    subst hw
    exact ⟨he, Upd.refl _ _, hown, pts_one _⟩
  · exact Sort_some hv ht h

abbrev OrdIs (f : FuncId) (l : List Pt) (tn td : Int) (s : List Pt) : Prop := FnL Try.prog f 1 [fldS 0 l, .pv (ratioV tn td)] [(0, 0, rowP l)] (.tu [.one (.ls 1 l.length), .one (.pv (.int .i64 0))]) 1 [(1, 0, .row 3 1 l.length (idsV (s.map Pt.id)))]
theorem POrder_ok (hv : Val l) (ht : Tm tn td) {s : List Pt} (hs : Srt l tn td s) : OrdIs 15 l tn td s := by
  obtain ⟨t, h1, h2⟩ := Sort_any hv ht
  have := h1.uniq hs
  subst this
  have hn := hv.len
  have c := CWT_any ht.hn ht.hd l
  rw [tE_ok hv ht.ok] at c
  exact pord_yes c (Clone_any (by omega)) h2 (by omega) (by omega) (POrder_loop h1.len hn)
theorem Srt_ex (hv : Val l) (ht : Tm tn td) : ∃ s, Srt l tn td s := let ⟨s, h, _⟩ := Sort_any hv ht; ⟨s, h⟩
abbrev RankIs (f : FuncId) (l : List Pt) (id tn td x e : Int) : Prop := FnL Try.prog f 1 [fldS 0 l, .pv (.int .i64 id), .pv (ratioV tn td)] [(0, 0, rowP l)] (.pv (.tuple #[.int .i64 x, .int .i64 e])) 0 []
theorem PRank_yes (hv : Val l) (ht : Tm tn td) {k : Nat} {p : Pt} (hk : l[k]? = some p) : RankIs 16 l p.id tn td ((rk tn td l p : Nat) : Int) 0 := by
  have c := CWT_any ht.hn ht.hd l
  rw [tE_ok hv ht.ok] at c
  exact prank_yes c (find_yes hv hk rfl) (PRank_loop hv ht hk)
theorem PRank_none (hv : Val l) (ht : Tm tn td) {id : Int} (hno : ∀ p ∈ l, p.id ≠ id) : RankIs 16 l id tn td 0 6 := by
  have c := CWT_any ht.hn ht.hd l
  rw [tE_ok hv ht.ok] at c
  rcases place l hv id with ⟨k, p, hk, he⟩ | ⟨_, k, hkl, hlo, hhi⟩
  · exact (hno p (List.mem_of_getElem? hk) he).elim
  · exact prank_no c (find_no hv hkl hlo hhi)
theorem SameIDs_ok {g : List Int} {n : Nat} (hg : g.length = n) (hn : n ≤ 1000000) : FnL Try.prog 23 2 [.ls 0 n, .ls 1 n] [(0, 0, .row 3 1 n (idsV g)), (1, 0, .row 3 1 n (idsV g))] (.pv (.bool true)) 0 [] := by
  subst hg
  exact sid_yes (by simp) (RunsL.rounds (fun k => [(0, .ls 0 g.length), (1, .ls 1 g.length), (5, .pv (.int .i64 (k : Int)))]) (fun _ => [(0, 0, rowI g), (1, 0, rowI g)]) g.length 0 (Nat.zero_add _)
    (fun k _ hk r => by
      obtain ⟨p, hp⟩ := get_some hk
      exact sid_next hp (in_of hk) hp (in_of hk) (dt (by omega)) (by simp) (i64_succ (by omega)) r)
    (sid_end (df (by omega))))
end
end Go.Proofs.Ytgpbofinbpcceaa
