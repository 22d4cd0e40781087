/-
  Joined: Fu, Fx, Mi. Conditions: none.
-/
import Derived.Shelf.SlSortCmp.NoneTotal
import Derived.Test.YtomnmoinahhdmaaGreatFt
import Derived.Test.YtomnmoinahhdmaaGreatMg
namespace Go.Proofs.YtomnmoinahhdmaaGreat
open Go.RowKit Go.Sort
/-- One new list, and nothing else kept. -/
theorem new_rel {W w' : World} {β : Bl} {pre : List (Nat × Nat × SV)} {u : Value} {l : List Pt} (H : HRel W 1 β pre W) (hd : β.dom 1) (hg : Gr W w') (ho : w'.ownsRow W.heap.size 46 3 u l.length (ptsV l)) :
    HRel W 1 (β.setG 1 u) [(1, 0, rowP l)] w' where
  gr := hg
  live := fun b r h => Nat.lt_of_lt_of_le (H.live b r h) hg.size
  inj := H.inj
  new := fun b r hb h => by
    have h' : β b = some r := h
    rw [(hd b hb).1] at h'; cases h'
  sep := fun b r h => by
    have hb : b ≠ 1 := fun e => by
      subst e
      have h' : β 1 = some r := h
      rw [(hd 1 (Nat.le_refl _)).1] at h'; cases h'
    unfold Bl.setG
    simp only [if_neg hb]
    exact H.sep b r h
  cells := fun b o sv hl hs => by
    simp only [lookH] at hl
    cases hc : (Nat.beq 1 b && Nat.beq 0 o) <;> rw [hc] at hl
    · cases hl
    · cases hl; cases hs
  rows := fun b o e es n xs hl => by
    simp only [lookH] at hl
    cases hc : (Nat.beq 1 b && Nat.beq 0 o) <;> rw [hc] at hl
    · cases hl
    · cases hl
      rw [Bool.and_eq_true] at hc
      have hb : 1 = b := Nat.eq_of_beq_eq_true hc.1
      subst hb
      exact ⟨u, Bl.setG_same β 1 u, owns_rd ho, pts_one l, fun h => by omega, fun _ => ho, fun _ c r hc hu => by
        have h1 := (ownsRow_lt ho r hu).1
        have h2 := H.live c r hc
        omega⟩
  rinj := fun b o e es n xs c o' e' es' n' xs' u v hl hl' h1 h2 hne => by
    simp only [lookH] at hl hl'
    cases hc : (Nat.beq 1 b && Nat.beq 0 o) <;> rw [hc] at hl
    · cases hl
    · cases hc' : (Nat.beq 1 c && Nat.beq 0 o') <;> rw [hc'] at hl'
      · cases hl'
      · rw [Bool.and_eq_true] at hc hc'
        have e1 := Nat.eq_of_beq_eq_true hc.1
        have e2 := Nat.eq_of_beq_eq_true hc'.1
        exact (hne (e1.symm.trans e2)).elim
theorem setG_dom {β : Bl} {u : Value} (hd : β.dom 1) : (β.setG 1 u).dom (1 + 1) := fun b hb => ⟨(hd b (by omega)).1, by unfold Bl.setG; simp only [if_neg (show b ≠ 1 by omega)]; exact (hd b (by omega)).2⟩
theorem Clone_any {l : List Pt} (hn : l.length ≤ 1000000) : FnL Tryz.prog 57 1 [.ls 0 l.length] [(0, 0, rowP l)] (.ls 1 l.length) 1 [(1, 0, rowP l)] := by
  by_cases h : l = []
  · subst h
    intro w β us hH hd hargs
    match us, hargs with
    | [v], ⟨⟨_, a, c, hv⟩, _⟩ =>
      have hd1 := hd 1 (Nat.le_refl _)
      cases a with
      | none =>
        subst hv
        refine (clone_nil w).mono fun e w' ⟨he, hg⟩ => ?_
        have ho : w'.ownsRow w.heap.size 46 3 (.slice none 0 0) ([] : List Pt).length (ptsV []) := ⟨rfl, Or.inl ⟨rfl, rfl⟩⟩
        exact ⟨_, β.setG 1 (.slice none 0 0), he, Bl.le_setG hd1.1 hd1.2, ⟨Bl.setG_same _ _ _, none, 0, rfl⟩, new_rel hH hd hg ho, setG_dom hd⟩
      | some ad =>
        subst hv
        have h0 : HRel w 0 Bl.no [] w := ⟨Gr.refl w, fun _ _ h => (by cases h), fun _ _ _ h => (by cases h), fun _ _ _ h => (by cases h), fun _ _ h => (by cases h), fun _ _ _ h => (by cases h), fun _ _ _ _ _ _ h => (by cases h), fun _ _ _ _ _ _ _ _ _ _ _ _ _ _ h => (by cases h)⟩
        refine (clone_e (ad := ad) (c := c) w Bl.no [.slice (some ad) 0 c] h0 (fun _ _ => ⟨rfl, rfl⟩) ⟨rfl, True.intro⟩).mono fun e w' ⟨v, β', he, _, ⟨hx, a', c', hv⟩, hh, _⟩ => ?_
        obtain ⟨u, hu, hr⟩ := hh.rows 0 0 _ _ _ _ rfl
        rw [hx] at hu
        cases hu
        exact ⟨_, β.setG 1 v, he, Bl.le_setG hd1.1 hd1.2, ⟨Bl.setG_same _ _ _, a', c', hv⟩, new_rel hH hd hh.gr (hr.own (Nat.le_refl _)), setG_dom hd⟩
  · have : 0 < l.length := List.length_pos_iff.2 h
    exact clone_path this (by omega)
section
variable {l : List Pt} {tn td : Int}
theorem Sort_any (hv : Val l) (ht : Tm tn td) : ∃ s, Srt l tn td s ∧ FnM Tryz.prog 58 2 [.ls 0 l.length, .pc 103 [.pp 1 0]] [(0, 0, rowP l), (1, 0, .pv (.int .i64 tn)), (1, 1, .pv (.int .i64 td))] (.tuple #[]) 0 ⟨46, 3, l.length, ptsV l⟩ (ptsV s) := by
  by_cases h : l = []
  · subst h
    refine ⟨[], ⟨List.Perm.refl _, List.Pairwise.nil⟩, ?_⟩
    intro w β us base u hH hdom hargs hu hown hbase hap
    obtain ⟨v, r, rfl, hv0, hr1⟩ := isl_two hargs
    rw [hu] at hv0
    cases hv0
    have hsl : ∃ p c, u = .slice p 0 c := by
      obtain ⟨_, ⟨rfl, _⟩ | ⟨g, cap, cur, rfl, _⟩⟩ := hown
      · exact ⟨_, _, rfl⟩
      · exact ⟨_, _, rfl⟩
    obtain ⟨p, c, rfl⟩ := hsl
    refine Calls.mono (show Calls Tryz.prog 58 _ w _ from AnyF.slices_SortFunc_none Tryz.sortPt p c _ w) fun e w' ⟨he, hw⟩ => ?_
    subst hw
    exact ⟨he, Upd.refl _ _, hown, pts_one _⟩
  · exact Sort_some hv ht h

abbrev OrdIs (f : FuncId) (l : List Pt) (tn td : Int) (s : List Pt) : Prop := FnL Tryz.prog f 1 [fldS 0 l, .pv (ratioV tn td)] [(0, 0, rowP l)] (.tu [.one (.ls 1 l.length), .one (.pv (.int .i64 0))]) 1 [(1, 0, .row 3 1 l.length (idsV (s.map Pt.id)))]
theorem POrder_ok (hv : Val l) (ht : Tm tn td) {s : List Pt} (hs : Srt l tn td s) : OrdIs 24 l tn td s := by
  obtain ⟨t, h1, h2⟩ := Sort_any hv ht
  have := h1.uniq hs
  subst this
  have hn := hv.len
  have c := CWT_any ht.hn ht.hd l
  rw [tE_ok hv ht.ok] at c
  exact pord_yes c (Clone_any (by omega)) h2 (by omega) (by omega) (POrder_loop h1.len hn)
theorem SameIDs_ok {g : List Int} {n : Nat} (hg : g.length = n) (hn : n ≤ 1000000) : FnL Tryz.prog 25 2 [.ls 0 n, .ls 1 n] [(0, 0, .row 3 1 n (idsV g)), (1, 0, .row 3 1 n (idsV g))] (.pv (.bool true)) 0 [] := by
  subst hg
  exact sid_yes (by simp) (RunsL.rounds (fun k => [(0, .ls 0 g.length), (1, .ls 1 g.length), (5, .pv (.int .i64 (k : Int)))]) (fun _ => [(0, 0, rowI g), (1, 0, rowI g)]) g.length 0 (Nat.zero_add _)
    (fun k _ hk r => by
      obtain ⟨p, hp⟩ := get_some hk
      exact sid_next hp (in_of hk) hp (in_of hk) (dt (by omega)) (by simp) (i64_succ (by omega)) r)
    (sid_end (df (by omega))))
end
end Go.Proofs.YtomnmoinahhdmaaGreat

namespace Go.Proofs.YtomnmoinahhdmaaGreat
open Go.RowKit
theorem FindP_yes {l : List Pt} (hv : Val l) {k : Nat} {p : Pt} {id : Int} (hk : l[k]? = some p) (he : p.id = id) : FindIs 26 l id p 0 := by
  have c := PCheck_any l
  rw [err_val.2 hv] at c
  exact pfind_yes hk (in_of (get_lt hk)) c (find_yes hv hk he)
end Go.Proofs.YtomnmoinahhdmaaGreat

namespace Go.Proofs.YtomnmoinahhdmaaGreat
open Go.RowKit
def bestStep (c : Mt → Mt → Int) (acc : Option Mt) (m : Mt) : Option Mt :=
  match acc with
  | none => some m
  | some b => if c m b < 0 then some m else some b
def bestOf (c : Mt → Mt → Int) (X : List Mt) : Option Mt := X.foldl (bestStep c) none
theorem bestOf_snoc (c : Mt → Mt → Int) (X : List Mt) (m : Mt) : bestOf c (X ++ [m]) = bestStep c (bestOf c X) m := by
  unfold bestOf
  rw [List.foldl_append]; rfl
theorem bestOf_mem {c : Mt → Mt → Int} {X : List Mt} {b : Mt} (h : bestOf c X = some b) : b ∈ X := by
  have key : ∀ (X : List Mt) (acc : Option Mt) (b : Mt), X.foldl (bestStep c) acc = some b → b ∈ X ∨ acc = some b := by
    intro X
    induction X with
    | nil => intro acc b h; exact Or.inr h
    | cons m r ih =>
      intro acc b h
      rw [List.foldl_cons] at h
      rcases ih _ b h with h1 | h1
      · exact Or.inl (List.mem_cons_of_mem _ h1)
      · unfold bestStep at h1
        split at h1
        · cases h1; exact Or.inl List.mem_cons_self
        · split at h1
          · cases h1; exact Or.inl List.mem_cons_self
          · exact Or.inr h1
  rcases key X none b h with h1 | h1
  · exact h1
  · cases h1
def z0 : Mt := ⟨0, 0, 0, 0⟩
def isIn (go : FuncId) : Prop := go = 40 ∨ go = 49

noncomputable abbrev fc (p : List Nat) : Code := codeOf Tryz.prog 47 p
noncomputable abbrev fo : Array Oper := opsOf (fc [1, 1, 1, 0, 1, 0, 1, 0, 1, 0])
theorem first_code : fc [] = .seq (fc [0]) (.seq (fc [1, 0]) (.seq (fc [1, 1, 0]) (.seq (.seq (fc [1, 1, 1, 0, 0]) (.block 0 (.rangeFunc (.tmp 9) #[10] (fc [1, 1, 1, 0, 1, 0, 0]) (.block 1 (.seq (fc [1, 1, 1, 0, 1, 0, 1, 0, 0]) (.cond (.tmp 19) (.region 6 fo false) .skip)))))) (fc [1, 1, 1, 1])))) := by kernel_rfl
abbrev mH (b : Nat) (m : Mt) : List (Nat × Nat × SV) := [(b, 0, .pv (.int .i64 m.n)), (b, 1, .pv (.int .i64 m.d)), (b, 2, .pv (.int .i64 m.i)), (b, 3, .pv (.int .i64 m.j))]
abbrev gH (go : FuncId) (b : Mt) (fd : Bool) (m : Mt) : List (Nat × Nat × SV) := [(0, 0, .pv (fv go #[])), (1, 0, .pv (.int .i64 b.n)), (1, 1, .pv (.int .i64 b.d)), (1, 2, .pv (.int .i64 b.i)), (1, 3, .pv (.int .i64 b.j)), (2, 0, .pv (.bool fd)),
  (3, 0, .pv (.int .i64 m.n)), (3, 1, .pv (.int .i64 m.d)), (3, 2, .pv (.int .i64 m.i)), (3, 3, .pv (.int .i64 m.j))]
abbrev fT : List (Nat × SV) := [(3, .pp 0 0), (6, .pp 1 0), (7, .pp 2 0), (8, .pp 3 0)]
section
variable (av : Value) (go : FuncId) (m b : Mt)
set_option maxRecDepth 100000 in
theorem fi_0 : Seg Tryz.prog 0 0 (fc [0]) 23 0 (argsT 0 [.pv av, .pv (fv go #[])]) [] .normal 2 [(0, .pv av), (3, .pp 0 0), (4, .pp 1 0)] ((0, 0, .pv (fv go #[])) :: mH 1 z0) :=
  seg_of [] 100 [] (by decide) (by kernel_rfl) (round_of True.intro (by kernel_rfl))
set_option maxRecDepth 100000 in
theorem fi_1 : Seg Tryz.prog 0 2 (fc [1, 0]) 23 2 [(0, .pv av), (3, .pp 0 0), (4, .pp 1 0)] ((0, 0, .pv (fv go #[])) :: mH 1 z0) .normal 3 [(0, .pv av), (3, .pp 0 0), (4, .pp 1 0), (6, .pp 2 0)] ((0, 0, .pv (fv go #[])) :: mH 1 z0 ++ mH 2 z0) :=
  seg_of [] 100 [] (by decide) (by kernel_rfl) (round_of True.intro (by kernel_rfl))
set_option maxRecDepth 100000 in
theorem fi_2 : Seg Tryz.prog 0 3 (fc [1, 1, 0]) 23 3 [(0, .pv av), (3, .pp 0 0), (4, .pp 1 0), (6, .pp 2 0)] ((0, 0, .pv (fv go #[])) :: mH 1 z0 ++ mH 2 z0) .normal 4 [(0, .pv av), (3, .pp 0 0), (4, .pp 1 0), (6, .pp 2 0), (7, .pp 3 0)] ((0, 0, .pv (fv go #[])) :: (3, 0, .pv (.bool false)) :: mH 1 z0 ++ mH 2 z0) :=
  seg_of [] 100 [] (by decide) (by kernel_rfl) (round_of True.intro (by kernel_rfl))
set_option maxRecDepth 100000 in
theorem fi_3 : Seg Tryz.prog 0 4 (fc [1, 1, 1, 0, 0]) 23 4 [(0, .pv av), (3, .pp 0 0), (4, .pp 1 0), (6, .pp 2 0), (7, .pp 3 0)] ((0, 0, .pv (fv go #[])) :: (3, 0, .pv (.bool false)) :: mH 1 z0 ++ mH 2 z0) .normal 4 [(3, .pp 0 0), (4, .pp 1 0), (6, .pp 2 0), (7, .pp 3 0), (9, .pv av)] ((0, 0, .pv (fv go #[])) :: (3, 0, .pv (.bool false)) :: mH 1 z0 ++ mH 2 z0) :=
  seg_of [] 100 [] (by decide) (by kernel_rfl) (round_of True.intro (by kernel_rfl))
set_option maxRecDepth 100000 in
theorem fi_assign (v3 v6 v7 : Value) : Seg Tryz.prog 0 0 (fc [1, 1, 1, 0, 1, 0, 0]) 23 0 [(3, .pv v3), (6, .pv v6), (7, .pv v7), (10, .pv (meetV m))] [] .normal 1 [(3, .pv v3), (6, .pv v6), (7, .pv v7), (8, .pp 0 0)] (mH 0 m) :=
  seg_of [] 100 [] (by decide) (by kernel_rfl) (round_of True.intro (by kernel_rfl))
set_option maxRecDepth 100000 in
theorem fi_new : Seg Tryz.prog 4 4 (fc [1, 1, 1, 0, 1, 0, 1, 0, 0]) 23 4 fT (gH go b false m) .normal 4 ((19, .pv (.bool true)) :: fT) (gH go b false m) :=
  seg_of [] 100 [] (by decide) (by kernel_rfl) (round_of True.intro (by kernel_rfl))
set_option maxRecDepth 100000 in
theorem fi_cmp (hgo : isIn go) (c : Int) (t : Bool) (h : Pure Tryz.prog go #[meetV m, meetV b] (.int .i64 c)) (ht : decide (c < 0) = t) : Seg Tryz.prog 4 4 (fc [1, 1, 1, 0, 1, 0, 1, 0, 0]) 23 4 fT (gH go b true m) .normal 4 ((19, .pv (.bool t)) :: fT) (gH go b true m) := by
  rcases hgo with rfl | rfl
  · cases t
    · exact seg_of [] 100 [.k, .r (.int .i64 c), .t false] (by decide) (by kernel_rfl) (round_of (And.intro h (And.intro ht True.intro)) (by kernel_rfl))
    · exact seg_of [] 100 [.k, .r (.int .i64 c), .t true] (by decide) (by kernel_rfl) (round_of (And.intro h (And.intro ht True.intro)) (by kernel_rfl))
  · cases t
    · exact seg_of [] 100 [.k, .r (.int .i64 c), .t false] (by decide) (by kernel_rfl) (round_of (And.intro h (And.intro ht True.intro)) (by kernel_rfl))
    · exact seg_of [] 100 [.k, .r (.int .i64 c), .t true] (by decide) (by kernel_rfl) (round_of (And.intro h (And.intro ht True.intro)) (by kernel_rfl))
set_option maxRecDepth 100000 in
theorem fi_load (fd : Bool) : SegL Tryz.prog 4 4 fo (fo.toList.take 1) 23 4 ((19, .pv (.bool true)) :: fT) (gH go b fd m) 4 ((20, .pv (meetV m)) :: fT) (gH go b fd m) :=
  segl_of [] 100 [] (by decide) (by kernel_rfl) (round_of True.intro (by kernel_rfl))
end
end Go.Proofs.YtomnmoinahhdmaaGreat
