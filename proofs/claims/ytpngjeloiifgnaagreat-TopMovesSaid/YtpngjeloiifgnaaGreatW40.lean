/-
  Joined: Fu, Fx, Gb0, Ha, Hb. Conditions: none.
-/
import Derived.Shelf.SlSortCmp.NoneTotal
import Derived.Test.YtpngjeloiifgnaaGreatFt
import Derived.Test.YtpngjeloiifgnaaGreatW36
namespace Go.Proofs.YtpngjeloiifgnaaGreat
open Go.RowKit Go.Sort
/-- One new list, and nothing else kept. -/
theorem new_rel {W w' : World} {β : Bl} {pre : List (Nat × Nat × SV)} {u : Value} {l : List Pt} (H : HRel W 1 β pre W) (hd : β.dom 1) (hg : Gr W w') (ho : w'.ownsRow W.heap.size 68 3 u l.length (ptsV l)) :
    HRel W 1 (β.setG 1 u) [(1, 0, rowP l)] w' where
  gr := hg
  live := fun b r h => Nat.lt_of_lt_of_le (H.live b r h) hg.size
  inj := H.inj
  new := fun b r hb h => by
    have h' : β b = some r := h
    rw [(hd b hb).1] at h'; cases h'
  sep := fun b r h => by
    have hb : b ≠ 1 := fun e => by
      subst e
      have h' : β 1 = some r := h
      rw [(hd 1 (Nat.le_refl _)).1] at h'; cases h'
    unfold Bl.setG
    simp only [if_neg hb]
    exact H.sep b r h
  cells := fun b o sv hl hs => by
    simp only [lookH] at hl
    cases hc : (Nat.beq 1 b && Nat.beq 0 o) <;> rw [hc] at hl
    · cases hl
    · cases hl; cases hs
  rows := fun b o e es n xs hl => by
    simp only [lookH] at hl
    cases hc : (Nat.beq 1 b && Nat.beq 0 o) <;> rw [hc] at hl
    · cases hl
    · cases hl
      rw [Bool.and_eq_true] at hc
      have hb : 1 = b := Nat.eq_of_beq_eq_true hc.1
      subst hb
      exact ⟨u, Bl.setG_same β 1 u, owns_rd ho, pts_one l, fun h => by omega, fun _ => ho, fun _ c r hc hu => by
        have h1 := (ownsRow_lt ho r hu).1
        have h2 := H.live c r hc
        omega⟩
  rinj := fun b o e es n xs c o' e' es' n' xs' u v hl hl' h1 h2 hne => by
    simp only [lookH] at hl hl'
    cases hc : (Nat.beq 1 b && Nat.beq 0 o) <;> rw [hc] at hl
    · cases hl
    · cases hc' : (Nat.beq 1 c && Nat.beq 0 o') <;> rw [hc'] at hl'
      · cases hl'
      · rw [Bool.and_eq_true] at hc hc'
        have e1 := Nat.eq_of_beq_eq_true hc.1
        have e2 := Nat.eq_of_beq_eq_true hc'.1
        exact (hne (e1.symm.trans e2)).elim
theorem setG_dom {β : Bl} {u : Value} (hd : β.dom 1) : (β.setG 1 u).dom (1 + 1) := fun b hb => ⟨(hd b (by omega)).1, by unfold Bl.setG; simp only [if_neg (show b ≠ 1 by omega)]; exact (hd b (by omega)).2⟩
theorem Clone_any {l : List Pt} (hn : l.length ≤ 1000000) : FnL Tryz.prog 39 1 [.ls 0 l.length] [(0, 0, rowP l)] (.ls 1 l.length) 1 [(1, 0, rowP l)] := by
  by_cases h : l = []
  · subst h
    intro w β us hH hd hargs
    match us, hargs with
    | [v], ⟨⟨_, a, c, hv⟩, _⟩ =>
      have hd1 := hd 1 (Nat.le_refl _)
      cases a with
      | none =>
        subst hv
        refine (clone_nil w).mono fun e w' ⟨he, hg⟩ => ?_
        have ho : w'.ownsRow w.heap.size 68 3 (.slice none 0 0) ([] : List Pt).length (ptsV []) := ⟨rfl, Or.inl ⟨rfl, rfl⟩⟩
        exact ⟨_, β.setG 1 (.slice none 0 0), he, Bl.le_setG hd1.1 hd1.2, ⟨Bl.setG_same _ _ _, none, 0, rfl⟩, new_rel hH hd hg ho, setG_dom hd⟩
      | some ad =>
        subst hv
        have h0 : HRel w 0 Bl.no [] w := ⟨Gr.refl w, fun _ _ h => (by cases h), fun _ _ _ h => (by cases h), fun _ _ _ h => (by cases h), fun _ _ h => (by cases h), fun _ _ _ h => (by cases h), fun _ _ _ _ _ _ h => (by cases h), fun _ _ _ _ _ _ _ _ _ _ _ _ _ _ h => (by cases h)⟩
        refine (clone_e (ad := ad) (c := c) w Bl.no [.slice (some ad) 0 c] h0 (fun _ _ => ⟨rfl, rfl⟩) ⟨rfl, True.intro⟩).mono fun e w' ⟨v, β', he, _, ⟨hx, a', c', hv⟩, hh, _⟩ => ?_
        obtain ⟨u, hu, hr⟩ := hh.rows 0 0 _ _ _ _ rfl
        rw [hx] at hu
        cases hu
        exact ⟨_, β.setG 1 v, he, Bl.le_setG hd1.1 hd1.2, ⟨Bl.setG_same _ _ _, a', c', hv⟩, new_rel hH hd hh.gr (hr.own (Nat.le_refl _)), setG_dom hd⟩
  · have : 0 < l.length := List.length_pos_iff.2 h
    exact clone_path this (by omega)
section
variable {l : List Pt} {tn td : Int}
theorem Sort_any (hv : Val l) (ht : Tm tn td) : ∃ s, Srt l tn td s ∧ FnM Tryz.prog 40 2 [.ls 0 l.length, .pc 89 [.pp 1 0]] [(0, 0, rowP l), (1, 0, .pv (.int .i64 tn)), (1, 1, .pv (.int .i64 td))] (.tuple #[]) 0 ⟨68, 3, l.length, ptsV l⟩ (ptsV s) := by
  by_cases h : l = []
  · subst h
    refine ⟨[], ⟨List.Perm.refl _, List.Pairwise.nil⟩, ?_⟩
    intro w β us base u hH hdom hargs hu hown hbase hap
    obtain ⟨v, r, rfl, hv0, hr1⟩ := isl_two hargs
    rw [hu] at hv0
    cases hv0
    have hsl : ∃ p c, u = .slice p 0 c := by
      obtain ⟨_, ⟨rfl, _⟩ | ⟨g, cap, cur, rfl, _⟩⟩ := hown
      · exact ⟨_, _, rfl⟩
      · exact ⟨_, _, rfl⟩
    obtain ⟨p, c, rfl⟩ := hsl
    refine Calls.mono (show Calls Tryz.prog 40 _ w _ from AnyF.slices_SortFunc_none Tryz.sortPt p c _ w) fun e w' ⟨he, hw⟩ => ?_
    subst hw
    exact ⟨he, Upd.refl _ _, hown, pts_one _⟩
  · exact Sort_some hv ht h

abbrev OrdIs (f : FuncId) (l : List Pt) (tn td : Int) (s : List Pt) : Prop := FnL Tryz.prog f 1 [fldS 0 l, .pv (ratioV tn td)] [(0, 0, rowP l)] (.tu [.one (.ls 1 l.length), .one (.pv (.int .i64 0))]) 1 [(1, 0, .row 3 1 l.length (idsV (s.map Pt.id)))]
theorem POrder_ok (hv : Val l) (ht : Tm tn td) {s : List Pt} (hs : Srt l tn td s) : OrdIs 13 l tn td s := by
  obtain ⟨t, h1, h2⟩ := Sort_any hv ht
  have := h1.uniq hs
  subst this
  have hn := hv.len
  have c := CWT_any ht.hn ht.hd l
  rw [tE_ok hv ht.ok] at c
  exact pord_yes c (Clone_any (by omega)) h2 (by omega) (by omega) (POrder_loop h1.len hn)
abbrev LeadIs (f : FuncId) (l : List Pt) (tn td x e : Int) : Prop := FnL Tryz.prog f 1 [fldS 0 l, .pv (ratioV tn td)] [(0, 0, rowP l)] (.pv (.tuple #[.int .i64 x, .int .i64 e])) 0 []
theorem SameIDs_ok {g : List Int} {n : Nat} (hg : g.length = n) (hn : n ≤ 1000000) : FnL Tryz.prog 17 2 [.ls 0 n, .ls 1 n] [(0, 0, .row 3 1 n (idsV g)), (1, 0, .row 3 1 n (idsV g))] (.pv (.bool true)) 0 [] := by
  subst hg
  exact sid_yes (by simp) (RunsL.rounds (fun k => [(0, .ls 0 g.length), (1, .ls 1 g.length), (5, .pv (.int .i64 (k : Int)))]) (fun _ => [(0, 0, rowI g), (1, 0, rowI g)]) g.length 0 (Nat.zero_add _)
    (fun k _ hk r => by
      obtain ⟨p, hp⟩ := get_some hk
      exact sid_next hp (in_of hk) hp (in_of hk) (dt (by omega)) (by simp) (i64_succ (by omega)) r)
    (sid_end (df (by omega))))
end
end Go.Proofs.YtpngjeloiifgnaaGreat

namespace Go.Proofs.YtpngjeloiifgnaaGreat
open Go.RowKit
theorem FindP_yes {l : List Pt} (hv : Val l) {k : Nat} {p : Pt} {id : Int} (hk : l[k]? = some p) (he : p.id = id) : FindIs 45 l id p 0 := by
  have c := PCheck_any l
  rw [err_val.2 hv] at c
  exact pfind_yes hk (in_of (get_lt hk)) c (find_yes hv hk he)
end Go.Proofs.YtpngjeloiifgnaaGreat

namespace Go.Proofs.YtpngjeloiifgnaaGreat
theorem pw_uniq {α : Type} {r : α → α → Prop} : ∀ {a b : List α}, a.Perm b → (∀ x ∈ a, ∀ y ∈ a, r x y → r y x → x = y) → a.Pairwise r → b.Pairwise r → a = b
  | [], b, h, _, _, _ => h.nil_eq
  | x :: a, b, h, hr, ha, hb => by
    cases b with
    | nil => exact (List.not_perm_cons_nil h).elim
    | cons y b =>
      have hx : x ∈ y :: b := h.subset List.mem_cons_self
      have hy : y ∈ x :: a := h.symm.subset List.mem_cons_self
      have e : x = y := by
        rcases List.mem_cons.1 hx with e | hx
        · exact e
        · rcases List.mem_cons.1 hy with e | hy
          · exact e.symm
          · exact hr x List.mem_cons_self y (List.mem_cons_of_mem _ hy) ((List.pairwise_cons.1 ha).1 y hy) ((List.pairwise_cons.1 hb).1 x hx)
      subst e
      rw [pw_uniq h.cons_inv (fun u hu v hv => hr u (List.mem_cons_of_mem _ hu) v (List.mem_cons_of_mem _ hv)) (List.pairwise_cons.1 ha).2 (List.pairwise_cons.1 hb).2]

end Go.Proofs.YtpngjeloiifgnaaGreat

namespace Go.Proofs.YtpngjeloiifgnaaGreat
open Go.RowKit
structure Ld where
  n : Int
  d : Int
  id : Int
abbrev leadV (x : Ld) : Value := .agg #[.int .i64 x.n, .int .i64 x.d, .int .i64 x.id]
abbrev lcV (x : Ld) : List Value := [.int .i64 x.n, .int .i64 x.d, .int .i64 x.id]
def ldsV : List Ld → List Value
  | [] => []
  | m :: r => .int .i64 m.n :: .int .i64 m.d :: .int .i64 m.id :: ldsV r
theorem ldsV_append : ∀ (a b : List Ld), ldsV (a ++ b) = ldsV a ++ ldsV b
  | [], _ => rfl
  | p :: r, b => by simp [ldsV, ldsV_append r b]
theorem ldsV_get : ∀ {l : List Ld} {k : Nat} {m : Ld}, l[k]? = some m → (ldsV l)[k * 3]? = some (.int .i64 m.n) ∧ (ldsV l)[k * 3 + 1]? = some (.int .i64 m.d) ∧ (ldsV l)[k * 3 + 2]? = some (.int .i64 m.id)
  | [], k, p, h => by simp at h
  | q :: r, 0, p, h => by simp at h; subst h; exact ⟨rfl, rfl, rfl⟩
  | q :: r, k + 1, p, h => by
    have := ldsV_get (l := r) (k := k) (m := p) (by simpa using h)
    rw [show (k + 1) * 3 = k * 3 + 1 + 1 + 1 by omega]
    exact this
theorem ra_ld {l : List Ld} {k : Nat} {m : Ld} (h : l[k]? = some m) : rowAt (ldsV l) (0 * 3 + k * 3) (lcV m) := by
  obtain ⟨h1, h2, h3⟩ := ldsV_get h
  intro j v hj
  rw [show 0 * 3 + k * 3 + j = k * 3 + j by omega]
  match j, hj with
  | 0, hj => cases hj; exact h1
  | 1, hj => cases hj; exact h2
  | 2, hj => cases hj; exact h3
  | j + 3, hj => simp at hj
theorem ra_lf {l : List Ld} {k : Nat} {m : Ld} (h : l[k]? = some m) : rowAt (ldsV l) (0 * 3 + k * 3) [.int .i64 m.n, .int .i64 m.d] := by
  obtain ⟨h1, h2, h3⟩ := ldsV_get h
  intro j v hj
  rw [show 0 * 3 + k * 3 + j = k * 3 + j by omega]
  match j, hj with
  | 0, hj => cases hj; exact h1
  | 1, hj => cases hj; exact h2
  | j + 2, hj => simp at hj
theorem ra_li {l : List Ld} {k : Nat} {m : Ld} (h : l[k]? = some m) : rowAt (ldsV l) (0 * 3 + k * 3 + 2) [.int .i64 m.id] := by
  obtain ⟨h1, h2, h3⟩ := ldsV_get h
  intro j v hj
  match j, hj with
  | 0, hj => cases hj; rw [show 0 * 3 + k * 3 + 2 + 0 = k * 3 + 2 by omega]; exact h3
  | j + 1, hj => simp at hj
abbrev rowL (l : List Ld) : SV := .row 57 3 l.length (ldsV l)
theorem snoc_ld (l : List Ld) (m : Ld) : ldsV l ++ lcV m = ldsV (l ++ [m]) := by rw [ldsV_append]; rfl
theorem snocl_ls (b : Nat) (l : List Ld) (m : Ld) : SV.ls b (l.length + 1) = SV.ls b (l ++ [m]).length := by rw [List.length_append]; rfl
theorem snocl_row (l : List Ld) (m : Ld) : some (SV.row 57 3 (l.length + 1) (ldsV l ++ lcV m)) = some (rowL (l ++ [m])) := by rw [snoc_ld, rowL, List.length_append]; rfl
set_option maxRecDepth 100000 in
theorem ccmp_path {an ad bn bd k e : Int} (h : Pure Tryz.prog 49 #[ratioV an ad, ratioV bn bd] (.tuple #[.int .i64 k, .int .i64 e])) : Pure Tryz.prog 105 #[ratioV an ad, ratioV bn bd] (.int .i64 k) :=
  pure_run (args := [ratioV an ad, ratioV bn bd]) 200 [.r (.tuple #[.int .i64 k, .int .i64 e])] (And.intro rfl (And.intro h True.intro)) (by kernel_rfl)
set_option maxRecDepth 100000 in
theorem cbef_path {an ad bn bd k : Int} {b : Bool} (h : Pure Tryz.prog 105 #[ratioV an ad, ratioV bn bd] (.int .i64 k)) (hb : decide (k < 0) = b) : Pure Tryz.prog 61 #[ratioV an ad, ratioV bn bd] (.bool b) :=
  pure_run (args := [ratioV an ad, ratioV bn bd]) 200 [.r (.int .i64 k), .t b] (And.intro rfl (And.intro h (And.intro hb True.intro))) (by kernel_rfl)
set_option maxRecDepth 100000 in
theorem clost_path {p q : Pt} {n d m k e : Int} {s : Bool} (h : Pure Tryz.prog 109 #[ptV p, ptV q, ratioV n d] (.tuple #[ratioV m k, .bool s, .int .i64 e])) : Pure Tryz.prog 60 #[ptV p, ptV q, ratioV n d] (.tuple #[ratioV m k, .bool s]) :=
  pure_run (args := [ptV p, ptV q, ratioV n d]) 200 [.r (.tuple #[ratioV m k, .bool s, .int .i64 e])] (And.intro rfl (And.intro h True.intro)) (by kernel_rfl)
set_option maxRecDepth 100000 in
theorem clf_path {x : Ld} {n d k : Int} (h : Pure Tryz.prog 105 #[ratioV x.n x.d, ratioV n d] (.int .i64 k)) : Pure Tryz.prog 108 #[leadV x, ratioV n d] (.int .i64 k) :=
  pure_run (args := [leadV x, ratioV n d]) 200 [.r (.int .i64 k)] (And.intro rfl (And.intro h True.intro)) (by kernel_rfl)
section
variable {x y : Ld} {e : Int} {a b c : Bool}
set_option maxRecDepth 100000 in
theorem il_bad (h : Pure Tryz.prog 76 #[ratioV x.n x.d] (.int .i64 e)) (h1 : (e == 0) = false) : Pure Tryz.prog 53 #[leadV x] (.bool false) :=
  pure_run (args := [leadV x]) 200 [.r (.int .i64 e), .t false] (And.intro rfl (And.intro h (And.intro h1 True.intro))) (by kernel_rfl)
set_option maxRecDepth 100000 in
theorem il_lo (h : Pure Tryz.prog 76 #[ratioV x.n x.d] (.int .i64 0)) (h1 : decide (0 ≤ x.id) = false) : Pure Tryz.prog 53 #[leadV x] (.bool false) :=
  pure_run (args := [leadV x]) 200 [.r (.int .i64 0), .k, .t false] (And.intro rfl (And.intro h (And.intro h1 True.intro))) (by kernel_rfl)
set_option maxRecDepth 100000 in
theorem il_hi (h : Pure Tryz.prog 76 #[ratioV x.n x.d] (.int .i64 0)) (h1 : decide (0 ≤ x.id) = true) (h2 : decide (x.id ≤ 65535) = b) : Pure Tryz.prog 53 #[leadV x] (.bool b) :=
  pure_run (args := [leadV x]) 200 [.r (.int .i64 0), .k, .t true, .t b] (And.intro rfl (And.intro h (And.intro h1 (And.intro h2 True.intro)))) (by kernel_rfl)
set_option maxRecDepth 100000 in
theorem fo_no (h1 : (!(y.id == x.id)) = false) : Pure Tryz.prog 54 #[leadV y, leadV x] (.bool false) :=
  pure_run (args := [leadV y, leadV x]) 200 [.t false] (And.intro rfl (And.intro h1 True.intro)) (by kernel_rfl)
set_option maxRecDepth 100000 in
theorem fo_yes (h1 : (!(y.id == x.id)) = true) (h : Pure Tryz.prog 61 #[ratioV x.n x.d, ratioV y.n y.d] (.bool b)) : Pure Tryz.prog 54 #[leadV y, leadV x] (.bool b) :=
  pure_run (args := [leadV y, leadV x]) 200 [.t true, .r (.bool b)] (And.intro rfl (And.intro h1 (And.intro h True.intro))) (by kernel_rfl)
end
set_option maxRecDepth 100000 in
theorem cpt_path {l : List Pt} {p : Pt} {e : Int} {id : Int} (hf : FnL Tryz.prog 45 1 [fldS 0 l, .pv (.int .i64 (id))] [(0, 0, rowP l)] (.pv (.tuple #[ptV p, .int .i64 e])) 0 []) :
    FnL Tryz.prog 57 1 [fldS 0 l, .pv (.int .i64 (id))] [(0, 0, rowP l)] (.pv (ptV p)) 0 [] :=
  fnl_run 300 [] [.f [0] [fldS 0 l, .pv (.int .i64 (id))] [(0, 0, rowP l)] (.pv (.tuple #[ptV p, .int .i64 e])) 0 []]
     True.intro (And.intro hf (And.intro (Eq.refl (List.map (SV.ren (renU [0] 3)) [fldS 0 l, .pv (.int .i64 (id))])) (And.intro (reflH (renU [0] 3) [(0, 0, rowP l)]) True.intro))) (by kernel_rfl)

set_option maxRecDepth 100000 in
theorem ov_skip_true {l : List Pt} {x : Ld} {p q : Pt} {k : Nat} {fn fd m k' : Int} (hk : l[k]? = some q) (hin : 0 ≤ (k : Int) ∧ (k : Int) < (l.length : Int)) (hlt : decide ((k : Int) < (l.length : Int)) = true) (hl : Pure Tryz.prog 60 #[ptV p, ptV q, ratioV x.n x.d] (.tuple #[ratioV m k', .bool false])) (hs : Value.int .i64 (IntKind.i64.wrap ((k : Int) + 1)) = .int .i64 (((k + 1 : Nat) : Int))) {e : Exit} {tm2 : List (Nat × SV)} {hp2 : List (Nat × Nat × SV)}
    (r : RunsL Tryz.prog 1 1 (loopOf Tryz.prog 74 0) 59 6 ([(2, .pp 1 0), (3, .pp 2 0), (4, .pp 3 0), (6, .pp 4 0), (7, .pp 5 0), (8, .pv (.bool true)), (21, .ls 0 l.length), (22, .pv (.int .i64 (l.length : Int))), (23, .pv (.int .i64 ((k + 1 : Nat) : Int)))]) ([(1, 0, .ls 0 l.length), (2, 0, .pv (.int .i64 x.n)), (2, 1, .pv (.int .i64 x.d)), (2, 2, .pv (.int .i64 x.id)), (3, 0, .pv (.int .i64 0)), (3, 1, .pv (.int .i64 0)), (3, 2, .pv (.int .i64 0)), (4, 0, .pv (.int .i64 p.id)), (4, 1, .pv (.int .i64 p.a)), (4, 2, .pv (.int .i64 p.b)), (5, 0, .pv (.int .i64 (fn))), (5, 1, .pv (.int .i64 (fd))), (0, 0, rowP l)]) e tm2 hp2) : RunsL Tryz.prog 1 1 (loopOf Tryz.prog 74 0) 59 6 ([(2, .pp 1 0), (3, .pp 2 0), (4, .pp 3 0), (6, .pp 4 0), (7, .pp 5 0), (8, .pv (.bool true)), (21, .ls 0 l.length), (22, .pv (.int .i64 (l.length : Int))), (23, .pv (.int .i64 (k : Int)))]) ([(1, 0, .ls 0 l.length), (2, 0, .pv (.int .i64 x.n)), (2, 1, .pv (.int .i64 x.d)), (2, 2, .pv (.int .i64 x.id)), (3, 0, .pv (.int .i64 0)), (3, 1, .pv (.int .i64 0)), (3, 2, .pv (.int .i64 0)), (4, 0, .pv (.int .i64 p.id)), (4, 1, .pv (.int .i64 p.a)), (4, 2, .pv (.int .i64 p.b)), (5, 0, .pv (.int .i64 (fn))), (5, 1, .pv (.int .i64 (fd))), (0, 0, rowP l)]) e tm2 hp2 :=
  RunsL.next [] 300 [.t true, .r (ptV q), .r (.tuple #[ratioV m k', .bool false]), .r (.int .i64 (((k + 1 : Nat) : Int)))]
    (round_of (And.intro hlt (And.intro hin (And.intro (ra_pt hk) (And.intro hl (And.intro hs True.intro))))) (by kernel_rfl)) r

set_option maxRecDepth 100000 in
theorem ov_skip_false {l : List Pt} {x : Ld} {p q : Pt} {k : Nat} {fn fd m k' : Int} (hk : l[k]? = some q) (hin : 0 ≤ (k : Int) ∧ (k : Int) < (l.length : Int)) (hlt : decide ((k : Int) < (l.length : Int)) = true) (hl : Pure Tryz.prog 60 #[ptV p, ptV q, ratioV x.n x.d] (.tuple #[ratioV m k', .bool false])) (hs : Value.int .i64 (IntKind.i64.wrap ((k : Int) + 1)) = .int .i64 (((k + 1 : Nat) : Int))) {e : Exit} {tm2 : List (Nat × SV)} {hp2 : List (Nat × Nat × SV)}
    (r : RunsL Tryz.prog 1 1 (loopOf Tryz.prog 74 0) 59 6 ([(2, .pp 1 0), (3, .pp 2 0), (4, .pp 3 0), (6, .pp 4 0), (7, .pp 5 0), (8, .pv (.bool false)), (21, .ls 0 l.length), (22, .pv (.int .i64 (l.length : Int))), (23, .pv (.int .i64 ((k + 1 : Nat) : Int)))]) ([(1, 0, .ls 0 l.length), (2, 0, .pv (.int .i64 x.n)), (2, 1, .pv (.int .i64 x.d)), (2, 2, .pv (.int .i64 x.id)), (3, 0, .pv (.int .i64 0)), (3, 1, .pv (.int .i64 0)), (3, 2, .pv (.int .i64 0)), (4, 0, .pv (.int .i64 p.id)), (4, 1, .pv (.int .i64 p.a)), (4, 2, .pv (.int .i64 p.b)), (5, 0, .pv (.int .i64 (fn))), (5, 1, .pv (.int .i64 (fd))), (0, 0, rowP l)]) e tm2 hp2) : RunsL Tryz.prog 1 1 (loopOf Tryz.prog 74 0) 59 6 ([(2, .pp 1 0), (3, .pp 2 0), (4, .pp 3 0), (6, .pp 4 0), (7, .pp 5 0), (8, .pv (.bool false)), (21, .ls 0 l.length), (22, .pv (.int .i64 (l.length : Int))), (23, .pv (.int .i64 (k : Int)))]) ([(1, 0, .ls 0 l.length), (2, 0, .pv (.int .i64 x.n)), (2, 1, .pv (.int .i64 x.d)), (2, 2, .pv (.int .i64 x.id)), (3, 0, .pv (.int .i64 0)), (3, 1, .pv (.int .i64 0)), (3, 2, .pv (.int .i64 0)), (4, 0, .pv (.int .i64 p.id)), (4, 1, .pv (.int .i64 p.a)), (4, 2, .pv (.int .i64 p.b)), (5, 0, .pv (.int .i64 (fn))), (5, 1, .pv (.int .i64 (fd))), (0, 0, rowP l)]) e tm2 hp2 :=
  RunsL.next [] 300 [.t true, .r (ptV q), .r (.tuple #[ratioV m k', .bool false]), .r (.int .i64 (((k + 1 : Nat) : Int)))]
    (round_of (And.intro hlt (And.intro hin (And.intro (ra_pt hk) (And.intro hl (And.intro hs True.intro))))) (by kernel_rfl)) r

set_option maxRecDepth 100000 in
theorem ov_first {l : List Pt} {x : Ld} {p q : Pt} {k : Nat} {fn fd m k' : Int} (hk : l[k]? = some q) (hin : 0 ≤ (k : Int) ∧ (k : Int) < (l.length : Int)) (hlt : decide ((k : Int) < (l.length : Int)) = true) (hl : Pure Tryz.prog 60 #[ptV p, ptV q, ratioV x.n x.d] (.tuple #[ratioV m k', .bool true])) (hs : Value.int .i64 (IntKind.i64.wrap ((k : Int) + 1)) = .int .i64 (((k + 1 : Nat) : Int))) {e : Exit} {tm2 : List (Nat × SV)} {hp2 : List (Nat × Nat × SV)}
    (r : RunsL Tryz.prog 1 1 (loopOf Tryz.prog 74 0) 59 6 ([(2, .pp 1 0), (3, .pp 2 0), (4, .pp 3 0), (6, .pp 4 0), (7, .pp 5 0), (8, .pv (.bool true)), (21, .ls 0 l.length), (22, .pv (.int .i64 (l.length : Int))), (23, .pv (.int .i64 ((k + 1 : Nat) : Int)))]) ([(1, 0, .ls 0 l.length), (2, 0, .pv (.int .i64 x.n)), (2, 1, .pv (.int .i64 x.d)), (2, 2, .pv (.int .i64 x.id)), (3, 0, .pv (.int .i64 0)), (3, 1, .pv (.int .i64 0)), (3, 2, .pv (.int .i64 0)), (4, 0, .pv (.int .i64 p.id)), (4, 1, .pv (.int .i64 p.a)), (4, 2, .pv (.int .i64 p.b)), (5, 0, .pv (.int .i64 (m))), (5, 1, .pv (.int .i64 (k'))), (0, 0, rowP l)]) e tm2 hp2) : RunsL Tryz.prog 1 1 (loopOf Tryz.prog 74 0) 59 6 ([(2, .pp 1 0), (3, .pp 2 0), (4, .pp 3 0), (6, .pp 4 0), (7, .pp 5 0), (8, .pv (.bool false)), (21, .ls 0 l.length), (22, .pv (.int .i64 (l.length : Int))), (23, .pv (.int .i64 (k : Int)))]) ([(1, 0, .ls 0 l.length), (2, 0, .pv (.int .i64 x.n)), (2, 1, .pv (.int .i64 x.d)), (2, 2, .pv (.int .i64 x.id)), (3, 0, .pv (.int .i64 0)), (3, 1, .pv (.int .i64 0)), (3, 2, .pv (.int .i64 0)), (4, 0, .pv (.int .i64 p.id)), (4, 1, .pv (.int .i64 p.a)), (4, 2, .pv (.int .i64 p.b)), (5, 0, .pv (.int .i64 (fn))), (5, 1, .pv (.int .i64 (fd))), (0, 0, rowP l)]) e tm2 hp2 :=
  RunsL.next [] 300 [.t true, .r (ptV q), .r (.tuple #[ratioV m k', .bool true]), .k, .r (.int .i64 (((k + 1 : Nat) : Int)))]
    (round_of (And.intro hlt (And.intro hin (And.intro (ra_pt hk) (And.intro hl (And.intro hs True.intro))))) (by kernel_rfl)) r

set_option maxRecDepth 100000 in
theorem ov_less {l : List Pt} {x : Ld} {p q : Pt} {k : Nat} {fn fd m k' : Int} (hk : l[k]? = some q) (hin : 0 ≤ (k : Int) ∧ (k : Int) < (l.length : Int)) (hlt : decide ((k : Int) < (l.length : Int)) = true) (hl : Pure Tryz.prog 60 #[ptV p, ptV q, ratioV x.n x.d] (.tuple #[ratioV m k', .bool true])) (hb : Pure Tryz.prog 61 #[ratioV m k', ratioV fn fd] (.bool true)) (hs : Value.int .i64 (IntKind.i64.wrap ((k : Int) + 1)) = .int .i64 (((k + 1 : Nat) : Int))) {e : Exit} {tm2 : List (Nat × SV)} {hp2 : List (Nat × Nat × SV)}
    (r : RunsL Tryz.prog 1 1 (loopOf Tryz.prog 74 0) 59 6 ([(2, .pp 1 0), (3, .pp 2 0), (4, .pp 3 0), (6, .pp 4 0), (7, .pp 5 0), (8, .pv (.bool true)), (21, .ls 0 l.length), (22, .pv (.int .i64 (l.length : Int))), (23, .pv (.int .i64 ((k + 1 : Nat) : Int)))]) ([(1, 0, .ls 0 l.length), (2, 0, .pv (.int .i64 x.n)), (2, 1, .pv (.int .i64 x.d)), (2, 2, .pv (.int .i64 x.id)), (3, 0, .pv (.int .i64 0)), (3, 1, .pv (.int .i64 0)), (3, 2, .pv (.int .i64 0)), (4, 0, .pv (.int .i64 p.id)), (4, 1, .pv (.int .i64 p.a)), (4, 2, .pv (.int .i64 p.b)), (5, 0, .pv (.int .i64 (m))), (5, 1, .pv (.int .i64 (k'))), (0, 0, rowP l)]) e tm2 hp2) : RunsL Tryz.prog 1 1 (loopOf Tryz.prog 74 0) 59 6 ([(2, .pp 1 0), (3, .pp 2 0), (4, .pp 3 0), (6, .pp 4 0), (7, .pp 5 0), (8, .pv (.bool true)), (21, .ls 0 l.length), (22, .pv (.int .i64 (l.length : Int))), (23, .pv (.int .i64 (k : Int)))]) ([(1, 0, .ls 0 l.length), (2, 0, .pv (.int .i64 x.n)), (2, 1, .pv (.int .i64 x.d)), (2, 2, .pv (.int .i64 x.id)), (3, 0, .pv (.int .i64 0)), (3, 1, .pv (.int .i64 0)), (3, 2, .pv (.int .i64 0)), (4, 0, .pv (.int .i64 p.id)), (4, 1, .pv (.int .i64 p.a)), (4, 2, .pv (.int .i64 p.b)), (5, 0, .pv (.int .i64 (fn))), (5, 1, .pv (.int .i64 (fd))), (0, 0, rowP l)]) e tm2 hp2 :=
  RunsL.next [] 300 [.t true, .r (ptV q), .r (.tuple #[ratioV m k', .bool true]), .k, .r (.bool true), .r (.int .i64 (((k + 1 : Nat) : Int)))]
    (round_of (And.intro hlt (And.intro hin (And.intro (ra_pt hk) (And.intro hl (And.intro hb (And.intro hs True.intro)))))) (by kernel_rfl)) r

set_option maxRecDepth 100000 in
theorem ov_keep {l : List Pt} {x : Ld} {p q : Pt} {k : Nat} {fn fd m k' : Int} (hk : l[k]? = some q) (hin : 0 ≤ (k : Int) ∧ (k : Int) < (l.length : Int)) (hlt : decide ((k : Int) < (l.length : Int)) = true) (hl : Pure Tryz.prog 60 #[ptV p, ptV q, ratioV x.n x.d] (.tuple #[ratioV m k', .bool true])) (hb : Pure Tryz.prog 61 #[ratioV m k', ratioV fn fd] (.bool false)) (hs : Value.int .i64 (IntKind.i64.wrap ((k : Int) + 1)) = .int .i64 (((k + 1 : Nat) : Int))) {e : Exit} {tm2 : List (Nat × SV)} {hp2 : List (Nat × Nat × SV)}
    (r : RunsL Tryz.prog 1 1 (loopOf Tryz.prog 74 0) 59 6 ([(2, .pp 1 0), (3, .pp 2 0), (4, .pp 3 0), (6, .pp 4 0), (7, .pp 5 0), (8, .pv (.bool true)), (21, .ls 0 l.length), (22, .pv (.int .i64 (l.length : Int))), (23, .pv (.int .i64 ((k + 1 : Nat) : Int)))]) ([(1, 0, .ls 0 l.length), (2, 0, .pv (.int .i64 x.n)), (2, 1, .pv (.int .i64 x.d)), (2, 2, .pv (.int .i64 x.id)), (3, 0, .pv (.int .i64 0)), (3, 1, .pv (.int .i64 0)), (3, 2, .pv (.int .i64 0)), (4, 0, .pv (.int .i64 p.id)), (4, 1, .pv (.int .i64 p.a)), (4, 2, .pv (.int .i64 p.b)), (5, 0, .pv (.int .i64 (fn))), (5, 1, .pv (.int .i64 (fd))), (0, 0, rowP l)]) e tm2 hp2) : RunsL Tryz.prog 1 1 (loopOf Tryz.prog 74 0) 59 6 ([(2, .pp 1 0), (3, .pp 2 0), (4, .pp 3 0), (6, .pp 4 0), (7, .pp 5 0), (8, .pv (.bool true)), (21, .ls 0 l.length), (22, .pv (.int .i64 (l.length : Int))), (23, .pv (.int .i64 (k : Int)))]) ([(1, 0, .ls 0 l.length), (2, 0, .pv (.int .i64 x.n)), (2, 1, .pv (.int .i64 x.d)), (2, 2, .pv (.int .i64 x.id)), (3, 0, .pv (.int .i64 0)), (3, 1, .pv (.int .i64 0)), (3, 2, .pv (.int .i64 0)), (4, 0, .pv (.int .i64 p.id)), (4, 1, .pv (.int .i64 p.a)), (4, 2, .pv (.int .i64 p.b)), (5, 0, .pv (.int .i64 (fn))), (5, 1, .pv (.int .i64 (fd))), (0, 0, rowP l)]) e tm2 hp2 :=
  RunsL.next [] 300 [.t true, .r (ptV q), .r (.tuple #[ratioV m k', .bool true]), .k, .r (.bool false), .r (.int .i64 (((k + 1 : Nat) : Int)))]
    (round_of (And.intro hlt (And.intro hin (And.intro (ra_pt hk) (And.intro hl (And.intro hb (And.intro hs True.intro)))))) (by kernel_rfl)) r

set_option maxRecDepth 100000 in
theorem ov_end_true {l : List Pt} {x : Ld} {p : Pt} {k : Nat} {fn fd : Int} (hge : decide ((k : Int) < (l.length : Int)) = false) : RunsL Tryz.prog 1 1 (loopOf Tryz.prog 74 0) 59 6 ([(2, .pp 1 0), (3, .pp 2 0), (4, .pp 3 0), (6, .pp 4 0), (7, .pp 5 0), (8, .pv (.bool true)), (21, .ls 0 l.length), (22, .pv (.int .i64 (l.length : Int))), (23, .pv (.int .i64 (k : Int)))]) ([(1, 0, .ls 0 l.length), (2, 0, .pv (.int .i64 x.n)), (2, 1, .pv (.int .i64 x.d)), (2, 2, .pv (.int .i64 x.id)), (3, 0, .pv (.int .i64 0)), (3, 1, .pv (.int .i64 0)), (3, 2, .pv (.int .i64 0)), (4, 0, .pv (.int .i64 p.id)), (4, 1, .pv (.int .i64 p.a)), (4, 2, .pv (.int .i64 p.b)), (5, 0, .pv (.int .i64 (fn))), (5, 1, .pv (.int .i64 (fd))), (0, 0, rowP l)]) (.exit 0) ([(2, .pp 1 0), (3, .pp 2 0), (4, .pp 3 0), (6, .pp 4 0), (7, .pp 5 0), (8, .pv (.bool true)), (21, .ls 0 l.length), (22, .pv (.int .i64 (l.length : Int))), (23, .pv (.int .i64 (k : Int)))]) ([(1, 0, .ls 0 l.length), (2, 0, .pv (.int .i64 x.n)), (2, 1, .pv (.int .i64 x.d)), (2, 2, .pv (.int .i64 x.id)), (3, 0, .pv (.int .i64 0)), (3, 1, .pv (.int .i64 0)), (3, 2, .pv (.int .i64 0)), (4, 0, .pv (.int .i64 p.id)), (4, 1, .pv (.int .i64 p.a)), (4, 2, .pv (.int .i64 p.b)), (5, 0, .pv (.int .i64 (fn))), (5, 1, .pv (.int .i64 (fd))), (0, 0, rowP l)]) :=
  RunsL.stop [] 300 [.t false] (fun h => by cases h)
    (round_of (And.intro hge True.intro) (by kernel_rfl))

set_option maxRecDepth 100000 in
theorem ov_end_false {l : List Pt} {x : Ld} {p : Pt} {k : Nat} {fn fd : Int} (hge : decide ((k : Int) < (l.length : Int)) = false) : RunsL Tryz.prog 1 1 (loopOf Tryz.prog 74 0) 59 6 ([(2, .pp 1 0), (3, .pp 2 0), (4, .pp 3 0), (6, .pp 4 0), (7, .pp 5 0), (8, .pv (.bool false)), (21, .ls 0 l.length), (22, .pv (.int .i64 (l.length : Int))), (23, .pv (.int .i64 (k : Int)))]) ([(1, 0, .ls 0 l.length), (2, 0, .pv (.int .i64 x.n)), (2, 1, .pv (.int .i64 x.d)), (2, 2, .pv (.int .i64 x.id)), (3, 0, .pv (.int .i64 0)), (3, 1, .pv (.int .i64 0)), (3, 2, .pv (.int .i64 0)), (4, 0, .pv (.int .i64 p.id)), (4, 1, .pv (.int .i64 p.a)), (4, 2, .pv (.int .i64 p.b)), (5, 0, .pv (.int .i64 (fn))), (5, 1, .pv (.int .i64 (fd))), (0, 0, rowP l)]) (.exit 0) ([(2, .pp 1 0), (3, .pp 2 0), (4, .pp 3 0), (6, .pp 4 0), (7, .pp 5 0), (8, .pv (.bool false)), (21, .ls 0 l.length), (22, .pv (.int .i64 (l.length : Int))), (23, .pv (.int .i64 (k : Int)))]) ([(1, 0, .ls 0 l.length), (2, 0, .pv (.int .i64 x.n)), (2, 1, .pv (.int .i64 x.d)), (2, 2, .pv (.int .i64 x.id)), (3, 0, .pv (.int .i64 0)), (3, 1, .pv (.int .i64 0)), (3, 2, .pv (.int .i64 0)), (4, 0, .pv (.int .i64 p.id)), (4, 1, .pv (.int .i64 p.a)), (4, 2, .pv (.int .i64 p.b)), (5, 0, .pv (.int .i64 (fn))), (5, 1, .pv (.int .i64 (fd))), (0, 0, rowP l)]) :=
  RunsL.stop [] 300 [.t false] (fun h => by cases h)
    (round_of (And.intro hge True.intro) (by kernel_rfl))

set_option maxRecDepth 100000 in
theorem ov_none {l : List Pt} {x : Ld} {p : Pt} {fn fd : Int} (hp : FnL Tryz.prog 57 1 [fldS 0 l, .pv (.int .i64 (x.id))] [(0, 0, rowP l)] (.pv (ptV p)) 0 []) (r0 : RunsL Tryz.prog 1 1 (loopOf Tryz.prog 74 0) 59 6 ([(2, .pp 1 0), (3, .pp 2 0), (4, .pp 3 0), (6, .pp 4 0), (7, .pp 5 0), (8, .pv (.bool false)), (21, .ls 0 l.length), (22, .pv (.int .i64 (l.length : Int))), (23, .pv (.int .i64 ((0 : Nat) : Int)))]) ([(1, 0, .ls 0 l.length), (2, 0, .pv (.int .i64 x.n)), (2, 1, .pv (.int .i64 x.d)), (2, 2, .pv (.int .i64 x.id)), (3, 0, .pv (.int .i64 0)), (3, 1, .pv (.int .i64 0)), (3, 2, .pv (.int .i64 0)), (4, 0, .pv (.int .i64 p.id)), (4, 1, .pv (.int .i64 p.a)), (4, 2, .pv (.int .i64 p.b)), (5, 0, .pv (.int .i64 (0))), (5, 1, .pv (.int .i64 (0))), (0, 0, rowP l)]) (.exit 0) ([(2, .pp 1 0), (3, .pp 2 0), (4, .pp 3 0), (6, .pp 4 0), (7, .pp 5 0), (8, .pv (.bool false)), (21, .ls 0 l.length), (22, .pv (.int .i64 (l.length : Int))), (23, .pv (.int .i64 (l.length : Int)))]) ([(1, 0, .ls 0 l.length), (2, 0, .pv (.int .i64 x.n)), (2, 1, .pv (.int .i64 x.d)), (2, 2, .pv (.int .i64 x.id)), (3, 0, .pv (.int .i64 0)), (3, 1, .pv (.int .i64 0)), (3, 2, .pv (.int .i64 0)), (4, 0, .pv (.int .i64 p.id)), (4, 1, .pv (.int .i64 p.a)), (4, 2, .pv (.int .i64 p.b)), (5, 0, .pv (.int .i64 (fn))), (5, 1, .pv (.int .i64 (fd))), (0, 0, rowP l)])) :
    FnL Tryz.prog 74 1 [fldS 0 l, .pv (leadV x)] [(0, 0, rowP l)] (.pv (.tuple #[leadV ⟨0, 0, 0⟩, .bool false])) 0 [] :=
  fnl_run 300 [] [.f [0] [fldS 0 l, .pv (.int .i64 (x.id))] [(0, 0, rowP l)] (.pv (ptV p)) 0 [], .l (.exit 0) ([(2, .pp 1 0), (3, .pp 2 0), (4, .pp 3 0), (6, .pp 4 0), (7, .pp 5 0), (8, .pv (.bool false)), (21, .ls 0 l.length), (22, .pv (.int .i64 (l.length : Int))), (23, .pv (.int .i64 ((0 : Nat) : Int)))]) ([(1, 0, .ls 0 l.length), (2, 0, .pv (.int .i64 x.n)), (2, 1, .pv (.int .i64 x.d)), (2, 2, .pv (.int .i64 x.id)), (3, 0, .pv (.int .i64 0)), (3, 1, .pv (.int .i64 0)), (3, 2, .pv (.int .i64 0)), (4, 0, .pv (.int .i64 p.id)), (4, 1, .pv (.int .i64 p.a)), (4, 2, .pv (.int .i64 p.b)), (5, 0, .pv (.int .i64 (0))), (5, 1, .pv (.int .i64 (0))), (0, 0, rowP l)]) ([(2, .pp 1 0), (3, .pp 2 0), (4, .pp 3 0), (6, .pp 4 0), (7, .pp 5 0), (8, .pv (.bool false)), (21, .ls 0 l.length), (22, .pv (.int .i64 (l.length : Int))), (23, .pv (.int .i64 (l.length : Int)))]) ([(1, 0, .ls 0 l.length), (2, 0, .pv (.int .i64 x.n)), (2, 1, .pv (.int .i64 x.d)), (2, 2, .pv (.int .i64 x.id)), (3, 0, .pv (.int .i64 0)), (3, 1, .pv (.int .i64 0)), (3, 2, .pv (.int .i64 0)), (4, 0, .pv (.int .i64 p.id)), (4, 1, .pv (.int .i64 p.a)), (4, 2, .pv (.int .i64 p.b)), (5, 0, .pv (.int .i64 (fn))), (5, 1, .pv (.int .i64 (fd))), (0, 0, rowP l)]), .k]
     True.intro (And.intro hp (And.intro (Eq.refl (List.map (SV.ren (renU [0] 4)) [fldS 0 l, .pv (.int .i64 (x.id))])) (And.intro (reflH (renU [0] 4) [(0, 0, rowP l)]) (And.intro (reflT (renN []) ([(2, .pp 1 0), (3, .pp 2 0), (4, .pp 3 0), (6, .pp 4 0), (7, .pp 5 0), (8, .pv (.bool false)), (21, .ls 0 l.length), (22, .pv (.int .i64 (l.length : Int))), (23, .pv (.int .i64 ((0 : Nat) : Int)))])) (And.intro (reflH (renN []) ([(1, 0, .ls 0 l.length), (2, 0, .pv (.int .i64 x.n)), (2, 1, .pv (.int .i64 x.d)), (2, 2, .pv (.int .i64 x.id)), (3, 0, .pv (.int .i64 0)), (3, 1, .pv (.int .i64 0)), (3, 2, .pv (.int .i64 0)), (4, 0, .pv (.int .i64 p.id)), (4, 1, .pv (.int .i64 p.a)), (4, 2, .pv (.int .i64 p.b)), (5, 0, .pv (.int .i64 (0))), (5, 1, .pv (.int .i64 (0))), (0, 0, rowP l)])) (And.intro r0 True.intro)))))) (by kernel_rfl)

set_option maxRecDepth 100000 in
theorem ov_some {l : List Pt} {x : Ld} {p : Pt} {fn fd lid : Int} (hp : FnL Tryz.prog 57 1 [fldS 0 l, .pv (.int .i64 (x.id))] [(0, 0, rowP l)] (.pv (ptV p)) 0 []) (r0 : RunsL Tryz.prog 1 1 (loopOf Tryz.prog 74 0) 59 6 ([(2, .pp 1 0), (3, .pp 2 0), (4, .pp 3 0), (6, .pp 4 0), (7, .pp 5 0), (8, .pv (.bool false)), (21, .ls 0 l.length), (22, .pv (.int .i64 (l.length : Int))), (23, .pv (.int .i64 ((0 : Nat) : Int)))]) ([(1, 0, .ls 0 l.length), (2, 0, .pv (.int .i64 x.n)), (2, 1, .pv (.int .i64 x.d)), (2, 2, .pv (.int .i64 x.id)), (3, 0, .pv (.int .i64 0)), (3, 1, .pv (.int .i64 0)), (3, 2, .pv (.int .i64 0)), (4, 0, .pv (.int .i64 p.id)), (4, 1, .pv (.int .i64 p.a)), (4, 2, .pv (.int .i64 p.b)), (5, 0, .pv (.int .i64 (0))), (5, 1, .pv (.int .i64 (0))), (0, 0, rowP l)]) (.exit 0) ([(2, .pp 1 0), (3, .pp 2 0), (4, .pp 3 0), (6, .pp 4 0), (7, .pp 5 0), (8, .pv (.bool true)), (21, .ls 0 l.length), (22, .pv (.int .i64 (l.length : Int))), (23, .pv (.int .i64 (l.length : Int)))]) ([(1, 0, .ls 0 l.length), (2, 0, .pv (.int .i64 x.n)), (2, 1, .pv (.int .i64 x.d)), (2, 2, .pv (.int .i64 x.id)), (3, 0, .pv (.int .i64 0)), (3, 1, .pv (.int .i64 0)), (3, 2, .pv (.int .i64 0)), (4, 0, .pv (.int .i64 p.id)), (4, 1, .pv (.int .i64 p.a)), (4, 2, .pv (.int .i64 p.b)), (5, 0, .pv (.int .i64 (fn))), (5, 1, .pv (.int .i64 (fd))), (0, 0, rowP l)])) (hle : FnL Tryz.prog 51 1 [fldS 0 l, .pv (ratioV fn fd)] [(0, 0, rowP l)] (.pv (.tuple #[.int .i64 lid, .int .i64 0])) 0 []) :
    FnL Tryz.prog 74 1 [fldS 0 l, .pv (leadV x)] [(0, 0, rowP l)] (.pv (.tuple #[leadV ⟨fn, fd, lid⟩, .bool true])) 0 [] :=
  fnl_run 300 [] [.f [0] [fldS 0 l, .pv (.int .i64 (x.id))] [(0, 0, rowP l)] (.pv (ptV p)) 0 [], .l (.exit 0) ([(2, .pp 1 0), (3, .pp 2 0), (4, .pp 3 0), (6, .pp 4 0), (7, .pp 5 0), (8, .pv (.bool false)), (21, .ls 0 l.length), (22, .pv (.int .i64 (l.length : Int))), (23, .pv (.int .i64 ((0 : Nat) : Int)))]) ([(1, 0, .ls 0 l.length), (2, 0, .pv (.int .i64 x.n)), (2, 1, .pv (.int .i64 x.d)), (2, 2, .pv (.int .i64 x.id)), (3, 0, .pv (.int .i64 0)), (3, 1, .pv (.int .i64 0)), (3, 2, .pv (.int .i64 0)), (4, 0, .pv (.int .i64 p.id)), (4, 1, .pv (.int .i64 p.a)), (4, 2, .pv (.int .i64 p.b)), (5, 0, .pv (.int .i64 (0))), (5, 1, .pv (.int .i64 (0))), (0, 0, rowP l)]) ([(2, .pp 1 0), (3, .pp 2 0), (4, .pp 3 0), (6, .pp 4 0), (7, .pp 5 0), (8, .pv (.bool true)), (21, .ls 0 l.length), (22, .pv (.int .i64 (l.length : Int))), (23, .pv (.int .i64 (l.length : Int)))]) ([(1, 0, .ls 0 l.length), (2, 0, .pv (.int .i64 x.n)), (2, 1, .pv (.int .i64 x.d)), (2, 2, .pv (.int .i64 x.id)), (3, 0, .pv (.int .i64 0)), (3, 1, .pv (.int .i64 0)), (3, 2, .pv (.int .i64 0)), (4, 0, .pv (.int .i64 p.id)), (4, 1, .pv (.int .i64 p.a)), (4, 2, .pv (.int .i64 p.b)), (5, 0, .pv (.int .i64 (fn))), (5, 1, .pv (.int .i64 (fd))), (0, 0, rowP l)]), .k, .f [0] [fldS 0 l, .pv (ratioV fn fd)] [(0, 0, rowP l)] (.pv (.tuple #[.int .i64 lid, .int .i64 0])) 0 []]
     True.intro (And.intro hp (And.intro (Eq.refl (List.map (SV.ren (renU [0] 4)) [fldS 0 l, .pv (.int .i64 (x.id))])) (And.intro (reflH (renU [0] 4) [(0, 0, rowP l)]) (And.intro (reflT (renN []) ([(2, .pp 1 0), (3, .pp 2 0), (4, .pp 3 0), (6, .pp 4 0), (7, .pp 5 0), (8, .pv (.bool false)), (21, .ls 0 l.length), (22, .pv (.int .i64 (l.length : Int))), (23, .pv (.int .i64 ((0 : Nat) : Int)))])) (And.intro (reflH (renN []) ([(1, 0, .ls 0 l.length), (2, 0, .pv (.int .i64 x.n)), (2, 1, .pv (.int .i64 x.d)), (2, 2, .pv (.int .i64 x.id)), (3, 0, .pv (.int .i64 0)), (3, 1, .pv (.int .i64 0)), (3, 2, .pv (.int .i64 0)), (4, 0, .pv (.int .i64 p.id)), (4, 1, .pv (.int .i64 p.a)), (4, 2, .pv (.int .i64 p.b)), (5, 0, .pv (.int .i64 (0))), (5, 1, .pv (.int .i64 (0))), (0, 0, rowP l)])) (And.intro r0 (And.intro hle (And.intro (Eq.refl (List.map (SV.ren (renU [0] 6)) [fldS 0 l, .pv (ratioV fn fd)])) (And.intro (reflH (renU [0] 6) [(0, 0, rowP l)]) True.intro))))))))) (by kernel_rfl)

set_option maxRecDepth 100000 in
theorem of_end {l : List Pt} {x : Ld} {s : List Ld} {k : Nat} (hk : s[k]? = some x) (hin : 0 ≤ (k : Int) ∧ (k : Int) < (s.length : Int)) (hm : Value.int .i64 (IntKind.i64.wrap ((s.length : Int) - 1)) = .int .i64 ((k : Int))) (ho : FnL Tryz.prog 74 1 [fldS 0 l, .pv (leadV x)] [(0, 0, rowP l)] (.pv (.tuple #[leadV ⟨0, 0, 0⟩, .bool false])) 0 []) : RunsL Tryz.prog 1 1 (loopOf Tryz.prog 32 0) 42 4 ([(2, .pp 1 0), (8, .ls 3 (s).length)]) ([(1, 0, .ls 0 l.length), (0, 0, rowP l), (3, 0, rowL (s))]) (.ret) ([(4, .ls 3 s.length), (5, .pv (.int .i64 0))]) ([(3, 0, rowL s)]) :=
  RunsL.stop [] 300 [.r (.int .i64 ((k : Int))), .r (leadV x), .f [0] [fldS 0 l, .pv (leadV x)] [(0, 0, rowP l)] (.pv (.tuple #[leadV ⟨0, 0, 0⟩, .bool false])) 0 [], .k] (fun h => by cases h)
    (round_of (And.intro hm (And.intro hin (And.intro (ra_ld hk) (And.intro ho (And.intro (Eq.refl (List.map (SV.ren (renU [0] 4)) [fldS 0 l, .pv (leadV x)])) (And.intro (reflH (renU [0] 4) [(0, 0, rowP l)]) True.intro)))))) (by kernel_rfl))

set_option maxRecDepth 100000 in
theorem of_next {l : List Pt} {x y : Ld} {s : List Ld} {k : Nat} (hk : s[k]? = some x) (hin : 0 ≤ (k : Int) ∧ (k : Int) < (s.length : Int)) (hm : Value.int .i64 (IntKind.i64.wrap ((s.length : Int) - 1)) = .int .i64 ((k : Int))) (ho : FnL Tryz.prog 74 1 [fldS 0 l, .pv (leadV x)] [(0, 0, rowP l)] (.pv (.tuple #[leadV y, .bool true])) 0 []) (hl : s.length + 1 ≤ 1000000) {e : Exit} {tm2 : List (Nat × SV)} {hp2 : List (Nat × Nat × SV)}
    (r : RunsL Tryz.prog 1 1 (loopOf Tryz.prog 32 0) 42 4 ([(2, .pp 1 0), (8, .ls 3 (s ++ [y]).length)]) ([(1, 0, .ls 0 l.length), (0, 0, rowP l), (3, 0, rowL (s ++ [y]))]) e tm2 hp2) : RunsL Tryz.prog 1 1 (loopOf Tryz.prog 32 0) 42 4 ([(2, .pp 1 0), (8, .ls 3 (s).length)]) ([(1, 0, .ls 0 l.length), (0, 0, rowP l), (3, 0, rowL (s))]) e tm2 hp2 :=
  RunsL.next [(3, 6)] 300 [.r (.int .i64 ((k : Int))), .r (leadV x), .f [0] [fldS 0 l, .pv (leadV x)] [(0, 0, rowP l)] (.pv (.tuple #[leadV y, .bool true])) 0 [], .k]
    (round_ofTH (And.intro (Eq.refl (SV.pp 1 0)) (And.intro (snocl_ls 6 s y) True.intro)) (And.intro (Eq.refl (some (SV.ls 0 l.length))) (And.intro (Eq.refl (some (rowP l))) (And.intro (snocl_row s y) True.intro))) (And.intro hm (And.intro hin (And.intro (ra_ld hk) (And.intro ho (And.intro (Eq.refl (List.map (SV.ren (renU [0] 4)) [fldS 0 l, .pv (leadV x)])) (And.intro (reflH (renU [0] 4) [(0, 0, rowP l)]) (And.intro hl True.intro))))))) (by kernel_rfl)) r

set_option maxRecDepth 100000 in
theorem of_err {l : List Pt} {fn fd lid er : Int} (hle : FnL Tryz.prog 51 1 [fldS 0 l, .pv (ratioV fn fd)] [(0, 0, rowP l)] (.pv (.tuple #[.int .i64 lid, .int .i64 er])) 0 []) (he : (er != 0) = true) :
    FnL Tryz.prog 32 1 [fldS 0 l, .pv (ratioV fn fd)] [(0, 0, rowP l)] (.pv (.tuple #[.slice none 0 0, .int .i64 er])) 0 [] :=
  fnl_run 300 [] [.f [0] [fldS 0 l, .pv (ratioV fn fd)] [(0, 0, rowP l)] (.pv (.tuple #[.int .i64 lid, .int .i64 er])) 0 [], .t true]
     True.intro (And.intro hle (And.intro (Eq.refl (List.map (SV.ren (renU [0] 3)) [fldS 0 l, .pv (ratioV fn fd)])) (And.intro (reflH (renU [0] 3) [(0, 0, rowP l)]) (And.intro he True.intro)))) (by kernel_rfl)

set_option maxRecDepth 100000 in
theorem of_path {l : List Pt} {t : List Ld} {fn fd lid : Int} (hle : FnL Tryz.prog 51 1 [fldS 0 l, .pv (ratioV fn fd)] [(0, 0, rowP l)] (.pv (.tuple #[.int .i64 lid, .int .i64 0])) 0 []) (r0 : RunsL Tryz.prog 1 1 (loopOf Tryz.prog 32 0) 42 4 ([(2, .pp 1 0), (8, .ls 3 ([Ld.mk fn fd lid]).length)]) ([(1, 0, .ls 0 l.length), (0, 0, rowP l), (3, 0, rowL ([Ld.mk fn fd lid]))]) (.ret) ([(4, .ls 3 t.length), (5, .pv (.int .i64 0))]) ([(3, 0, rowL t)])) :
    FnL Tryz.prog 32 1 [fldS 0 l, .pv (ratioV fn fd)] [(0, 0, rowP l)] (.tu [.one (.ls 1 t.length), .one (.pv (.int .i64 0))]) 1 [(1, 0, rowL t)] :=
  fnl_run 300 [(1, 3)] [.f [0] [fldS 0 l, .pv (ratioV fn fd)] [(0, 0, rowP l)] (.pv (.tuple #[.int .i64 lid, .int .i64 0])) 0 [], .k, .lw, .l (.ret) ([(2, .pp 1 0), (8, .ls 3 ([Ld.mk fn fd lid]).length)]) ([(1, 0, .ls 0 l.length), (0, 0, rowP l), (3, 0, rowL ([Ld.mk fn fd lid]))]) ([(4, .ls 3 t.length), (5, .pv (.int .i64 0))]) ([(3, 0, rowL t)])]
     (reflH (renN [(1, 3)]) [(1, 0, rowL t)]) (And.intro hle (And.intro (Eq.refl (List.map (SV.ren (renU [0] 3)) [fldS 0 l, .pv (ratioV fn fd)])) (And.intro (reflH (renU [0] 3) [(0, 0, rowP l)]) (And.intro (reflT (renN []) ([(2, .pp 1 0), (8, .ls 3 ([Ld.mk fn fd lid]).length)])) (And.intro (reflH (renN []) ([(1, 0, .ls 0 l.length), (0, 0, rowP l), (3, 0, rowL ([Ld.mk fn fd lid]))])) (And.intro r0 True.intro)))))) (by kernel_rfl)
end Go.Proofs.YtpngjeloiifgnaaGreat

namespace Go.Proofs.YtpngjeloiifgnaaGreat
open Go.RowKit
set_option maxRecDepth 100000 in
theorem ck_bad {s : List Ld} {k : Nat} {x : Ld} (hk : s[k]? = some x) (hin : 0 ≤ (k : Int) ∧ (k : Int) < (s.length : Int)) (hlt : decide ((k : Int) < (s.length : Int)) = true) (hi : Pure Tryz.prog 53 #[leadV x] (.bool false)) : RunsL Tryz.prog 1 1 (loopOf Tryz.prog 21 0) 38 1 ([(0, .ls 0 s.length), (13, .ls 0 s.length), (14, .pv (.int .i64 (s.length : Int))), (15, .pv (.int .i64 (k : Int)))]) ([(0, 0, rowL s)]) (.ret) ([(2, .pv (.int .i64 8))]) ([]) :=
  RunsL.stop [] 300 [.t true, .r (leadV x), .r (.bool false), .k] (fun h => by cases h)
    (round_of (And.intro hlt (And.intro hin (And.intro (ra_ld hk) (And.intro hi True.intro)))) (by kernel_rfl))

set_option maxRecDepth 100000 in
theorem ck_zero {s : List Ld} {x : Ld} (hk : s[0]? = some x) (hin : 0 ≤ ((0 : Nat) : Int) ∧ ((0 : Nat) : Int) < (s.length : Int)) (hlt : decide (((0 : Nat) : Int) < (s.length : Int)) = true) (hi : Pure Tryz.prog 53 #[leadV x] (.bool true)) (hs : Value.int .i64 (IntKind.i64.wrap (((0 : Nat) : Int) + 1)) = .int .i64 (((0 + 1 : Nat) : Int))) {e : Exit} {tm2 : List (Nat × SV)} {hp2 : List (Nat × Nat × SV)}
    (r : RunsL Tryz.prog 1 1 (loopOf Tryz.prog 21 0) 38 1 ([(0, .ls 0 s.length), (13, .ls 0 s.length), (14, .pv (.int .i64 (s.length : Int))), (15, .pv (.int .i64 ((0 + 1 : Nat) : Int)))]) ([(0, 0, rowL s)]) e tm2 hp2) : RunsL Tryz.prog 1 1 (loopOf Tryz.prog 21 0) 38 1 ([(0, .ls 0 s.length), (13, .ls 0 s.length), (14, .pv (.int .i64 (s.length : Int))), (15, .pv (.int .i64 ((0 : Nat) : Int)))]) ([(0, 0, rowL s)]) e tm2 hp2 :=
  RunsL.next [] 300 [.t true, .r (leadV x), .r (.bool true), .k, .k, .r (.int .i64 (((0 + 1 : Nat) : Int)))]
    (round_of (And.intro hlt (And.intro hin (And.intro (ra_ld hk) (And.intro hi (And.intro hs True.intro))))) (by kernel_rfl)) r

set_option maxRecDepth 100000 in
theorem ck_next {s : List Ld} {k : Nat} {x y : Ld} (hk : s[k + 1]? = some y) (hin : 0 ≤ ((k + 1 : Nat) : Int) ∧ ((k + 1 : Nat) : Int) < (s.length : Int)) (hk0 : s[k]? = some x) (hin0 : 0 ≤ (k : Int) ∧ (k : Int) < (s.length : Int)) (hlt : decide (((k + 1 : Nat) : Int) < (s.length : Int)) = true) (hi : Pure Tryz.prog 53 #[leadV y] (.bool true)) (hpos : decide (((k + 1 : Nat) : Int) > 0) = true) (hm : Value.int .i64 (IntKind.i64.wrap (((k + 1 : Nat) : Int) - 1)) = .int .i64 ((k : Int))) (hfo : Pure Tryz.prog 54 #[leadV y, leadV x] (.bool true)) (hs : Value.int .i64 (IntKind.i64.wrap (((k + 1 : Nat) : Int) + 1)) = .int .i64 (((k + 1 + 1 : Nat) : Int))) {e : Exit} {tm2 : List (Nat × SV)} {hp2 : List (Nat × Nat × SV)}
    (r : RunsL Tryz.prog 1 1 (loopOf Tryz.prog 21 0) 38 1 ([(0, .ls 0 s.length), (13, .ls 0 s.length), (14, .pv (.int .i64 (s.length : Int))), (15, .pv (.int .i64 ((k + 1 + 1 : Nat) : Int)))]) ([(0, 0, rowL s)]) e tm2 hp2) : RunsL Tryz.prog 1 1 (loopOf Tryz.prog 21 0) 38 1 ([(0, .ls 0 s.length), (13, .ls 0 s.length), (14, .pv (.int .i64 (s.length : Int))), (15, .pv (.int .i64 ((k + 1 : Nat) : Int)))]) ([(0, 0, rowL s)]) e tm2 hp2 :=
  RunsL.next [] 300 [.t true, .r (leadV y), .r (.bool true), .k, .t true, .r (.int .i64 ((k : Int))), .r (leadV x), .r (.bool true), .k, .r (.int .i64 (((k + 1 + 1 : Nat) : Int)))]
    (round_of (And.intro hlt (And.intro hin (And.intro (ra_ld hk) (And.intro hi (And.intro hpos (And.intro hm (And.intro hin0 (And.intro (ra_ld hk0) (And.intro hfo (And.intro hs True.intro)))))))))) (by kernel_rfl)) r

set_option maxRecDepth 100000 in
theorem ck_order {s : List Ld} {k : Nat} {x y : Ld} (hk : s[k + 1]? = some y) (hin : 0 ≤ ((k + 1 : Nat) : Int) ∧ ((k + 1 : Nat) : Int) < (s.length : Int)) (hk0 : s[k]? = some x) (hin0 : 0 ≤ (k : Int) ∧ (k : Int) < (s.length : Int)) (hlt : decide (((k + 1 : Nat) : Int) < (s.length : Int)) = true) (hi : Pure Tryz.prog 53 #[leadV y] (.bool true)) (hpos : decide (((k + 1 : Nat) : Int) > 0) = true) (hm : Value.int .i64 (IntKind.i64.wrap (((k + 1 : Nat) : Int) - 1)) = .int .i64 ((k : Int))) (hfo : Pure Tryz.prog 54 #[leadV y, leadV x] (.bool false)) : RunsL Tryz.prog 1 1 (loopOf Tryz.prog 21 0) 38 1 ([(0, .ls 0 s.length), (13, .ls 0 s.length), (14, .pv (.int .i64 (s.length : Int))), (15, .pv (.int .i64 ((k + 1 : Nat) : Int)))]) ([(0, 0, rowL s)]) (.ret) ([(2, .pv (.int .i64 8))]) ([]) :=
  RunsL.stop [] 300 [.t true, .r (leadV y), .r (.bool true), .k, .t true, .r (.int .i64 ((k : Int))), .r (leadV x), .r (.bool false), .k] (fun h => by cases h)
    (round_of (And.intro hlt (And.intro hin (And.intro (ra_ld hk) (And.intro hi (And.intro hpos (And.intro hm (And.intro hin0 (And.intro (ra_ld hk0) (And.intro hfo True.intro))))))))) (by kernel_rfl))

set_option maxRecDepth 100000 in
theorem ck_end {s : List Ld} {k : Nat} (hge : decide ((k : Int) < (s.length : Int)) = false) : RunsL Tryz.prog 1 1 (loopOf Tryz.prog 21 0) 38 1 ([(0, .ls 0 s.length), (13, .ls 0 s.length), (14, .pv (.int .i64 (s.length : Int))), (15, .pv (.int .i64 (k : Int)))]) ([(0, 0, rowL s)]) (.exit 0) ([]) ([]) :=
  RunsL.stop [] 300 [.t false] (fun h => by cases h)
    (round_of (And.intro hge True.intro) (by kernel_rfl))

set_option maxRecDepth 100000 in
theorem ck_none {s : List Ld} (h0 : ((s.length : Int) == 0) = true) :
    FnL Tryz.prog 21 1 [.ls 0 s.length] [(0, 0, rowL s)] (.pv (.int .i64 (8))) 0 [] :=
  fnl_run 300 [] [.t true]
     True.intro (And.intro h0 True.intro) (by kernel_rfl)

set_option maxRecDepth 100000 in
theorem ck_many {s : List Ld} (h0 : ((s.length : Int) == 0) = false) (h3 : decide ((s.length : Int) > 300) = true) :
    FnL Tryz.prog 21 1 [.ls 0 s.length] [(0, 0, rowL s)] (.pv (.int .i64 (8))) 0 [] :=
  fnl_run 300 [] [.t false, .t true]
     True.intro (And.intro h0 (And.intro h3 True.intro)) (by kernel_rfl)

set_option maxRecDepth 100000 in
theorem ck_no {s : List Ld} (h0 : ((s.length : Int) == 0) = false) (h3 : decide ((s.length : Int) > 300) = false) (r0 : RunsL Tryz.prog 1 1 (loopOf Tryz.prog 21 0) 38 1 ([(0, .ls 0 s.length), (13, .ls 0 s.length), (14, .pv (.int .i64 (s.length : Int))), (15, .pv (.int .i64 ((0 : Nat) : Int)))]) ([(0, 0, rowL s)]) (.ret) ([(2, .pv (.int .i64 8))]) ([])) :
    FnL Tryz.prog 21 1 [.ls 0 s.length] [(0, 0, rowL s)] (.pv (.int .i64 (8))) 0 [] :=
  fnl_run 300 [] [.t false, .t false, .l (.ret) ([(0, .ls 0 s.length), (13, .ls 0 s.length), (14, .pv (.int .i64 (s.length : Int))), (15, .pv (.int .i64 ((0 : Nat) : Int)))]) ([(0, 0, rowL s)]) ([(2, .pv (.int .i64 8))]) ([])]
     True.intro (And.intro h0 (And.intro h3 (And.intro (reflT (renN []) ([(0, .ls 0 s.length), (13, .ls 0 s.length), (14, .pv (.int .i64 (s.length : Int))), (15, .pv (.int .i64 ((0 : Nat) : Int)))])) (And.intro (reflH (renN []) ([(0, 0, rowL s)])) (And.intro r0 True.intro))))) (by kernel_rfl)

set_option maxRecDepth 100000 in
theorem ck_yes {s : List Ld} (h0 : ((s.length : Int) == 0) = false) (h3 : decide ((s.length : Int) > 300) = false) (r0 : RunsL Tryz.prog 1 1 (loopOf Tryz.prog 21 0) 38 1 ([(0, .ls 0 s.length), (13, .ls 0 s.length), (14, .pv (.int .i64 (s.length : Int))), (15, .pv (.int .i64 ((0 : Nat) : Int)))]) ([(0, 0, rowL s)]) (.exit 0) ([]) ([])) :
    FnL Tryz.prog 21 1 [.ls 0 s.length] [(0, 0, rowL s)] (.pv (.int .i64 (0))) 0 [] :=
  fnl_run 300 [] [.t false, .t false, .l (.exit 0) ([(0, .ls 0 s.length), (13, .ls 0 s.length), (14, .pv (.int .i64 (s.length : Int))), (15, .pv (.int .i64 ((0 : Nat) : Int)))]) ([(0, 0, rowL s)]) ([]) ([])]
     True.intro (And.intro h0 (And.intro h3 (And.intro (reflT (renN []) ([(0, .ls 0 s.length), (13, .ls 0 s.length), (14, .pv (.int .i64 (s.length : Int))), (15, .pv (.int .i64 ((0 : Nat) : Int)))])) (And.intro (reflH (renN []) ([(0, 0, rowL s)])) (And.intro r0 True.intro))))) (by kernel_rfl)

set_option maxRecDepth 100000 in
theorem lbs_up {s : List Ld} {i j h : Nat} {x : Ld} {c tn td : Int} (hk : s[h]? = some x) (hin : 0 ≤ (h : Int) ∧ (h : Int) < (s.length : Int)) (hlt : decide ((i : Int) < (j : Int)) = true) (ha : Value.int .i64 (IntKind.i64.wrap ((i : Int) + (j : Int))) = .int .i64 ((i : Int) + (j : Int))) (hu : Value.int .u64 (IntKind.u64.wrap ((i : Int) + (j : Int))) = .int .u64 ((i : Int) + (j : Int))) (h1 : ¬ (1 : Int) < 0) (hs : Value.int .u64 (((i : Int) + (j : Int)).fdiv (2 ^ (min (1 : Int).toNat IntKind.u64.bits))) = .int .u64 (h : Int)) (hb : Value.int .i64 (IntKind.i64.wrap (h : Int)) = .int .i64 ((h : Int))) (hc : Pure Tryz.prog 108 #[leadV x, ratioV tn td] (.int .i64 (c))) (hz : decide (c < 0) = true) (hh : Value.int .i64 (IntKind.i64.wrap ((h : Int) + 1)) = .int .i64 (((h + 1 : Nat) : Int))) {e : Exit} {tm2 : List (Nat × SV)} {hp2 : List (Nat × Nat × SV)}
    (r : RunsL Tryz.prog 1 1 (loopOf Tryz.prog 107 0) 49 2 ([(0, .ls 0 s.length), (2, .pv (.func (.func 108) #[] #[])), (4, .pp 1 0), (8, .pv (.int .i64 (s.length : Int))), (9, .pv (.int .i64 ((h + 1 : Nat) : Int))), (10, .pv (.int .i64 (j : Int)))]) ([(1, 0, .pv (.int .i64 tn)), (1, 1, .pv (.int .i64 td)), (0, 0, rowL s)]) e tm2 hp2) : RunsL Tryz.prog 1 1 (loopOf Tryz.prog 107 0) 49 2 ([(0, .ls 0 s.length), (2, .pv (.func (.func 108) #[] #[])), (4, .pp 1 0), (8, .pv (.int .i64 (s.length : Int))), (9, .pv (.int .i64 (i : Int))), (10, .pv (.int .i64 (j : Int)))]) ([(1, 0, .pv (.int .i64 tn)), (1, 1, .pv (.int .i64 td)), (0, 0, rowL s)]) e tm2 hp2 :=
  RunsL.next [] 300 [.t true, .r (.int .i64 ((i : Int) + (j : Int))), .r (.int .u64 ((i : Int) + (j : Int))), .r (.int .u64 (h : Int)), .r (.int .i64 ((h : Int))), .r (leadV x), .r (.int .i64 (c)), .t true, .r (.int .i64 (((h + 1 : Nat) : Int)))]
    (round_of (And.intro hlt (And.intro ha (And.intro hu (And.intro h1 (And.intro hs (And.intro hb (And.intro hin (And.intro (ra_ld hk) (And.intro hc (And.intro hz (And.intro hh True.intro))))))))))) (by kernel_rfl)) r

set_option maxRecDepth 100000 in
theorem lbs_dn {s : List Ld} {i j h : Nat} {x : Ld} {c tn td : Int} (hk : s[h]? = some x) (hin : 0 ≤ (h : Int) ∧ (h : Int) < (s.length : Int)) (hlt : decide ((i : Int) < (j : Int)) = true) (ha : Value.int .i64 (IntKind.i64.wrap ((i : Int) + (j : Int))) = .int .i64 ((i : Int) + (j : Int))) (hu : Value.int .u64 (IntKind.u64.wrap ((i : Int) + (j : Int))) = .int .u64 ((i : Int) + (j : Int))) (h1 : ¬ (1 : Int) < 0) (hs : Value.int .u64 (((i : Int) + (j : Int)).fdiv (2 ^ (min (1 : Int).toNat IntKind.u64.bits))) = .int .u64 (h : Int)) (hb : Value.int .i64 (IntKind.i64.wrap (h : Int)) = .int .i64 ((h : Int))) (hc : Pure Tryz.prog 108 #[leadV x, ratioV tn td] (.int .i64 (c))) (hz : decide (c < 0) = false) {e : Exit} {tm2 : List (Nat × SV)} {hp2 : List (Nat × Nat × SV)}
    (r : RunsL Tryz.prog 1 1 (loopOf Tryz.prog 107 0) 49 2 ([(0, .ls 0 s.length), (2, .pv (.func (.func 108) #[] #[])), (4, .pp 1 0), (8, .pv (.int .i64 (s.length : Int))), (9, .pv (.int .i64 (i : Int))), (10, .pv (.int .i64 (h : Int)))]) ([(1, 0, .pv (.int .i64 tn)), (1, 1, .pv (.int .i64 td)), (0, 0, rowL s)]) e tm2 hp2) : RunsL Tryz.prog 1 1 (loopOf Tryz.prog 107 0) 49 2 ([(0, .ls 0 s.length), (2, .pv (.func (.func 108) #[] #[])), (4, .pp 1 0), (8, .pv (.int .i64 (s.length : Int))), (9, .pv (.int .i64 (i : Int))), (10, .pv (.int .i64 (j : Int)))]) ([(1, 0, .pv (.int .i64 tn)), (1, 1, .pv (.int .i64 td)), (0, 0, rowL s)]) e tm2 hp2 :=
  RunsL.next [] 300 [.t true, .r (.int .i64 ((i : Int) + (j : Int))), .r (.int .u64 ((i : Int) + (j : Int))), .r (.int .u64 (h : Int)), .r (.int .i64 ((h : Int))), .r (leadV x), .r (.int .i64 (c)), .t false]
    (round_of (And.intro hlt (And.intro ha (And.intro hu (And.intro h1 (And.intro hs (And.intro hb (And.intro hin (And.intro (ra_ld hk) (And.intro hc (And.intro hz True.intro)))))))))) (by kernel_rfl)) r

set_option maxRecDepth 100000 in
theorem lbs_end {s : List Ld} {i j : Nat} {tn td : Int} (hge : decide ((i : Int) < (j : Int)) = false) : RunsL Tryz.prog 1 1 (loopOf Tryz.prog 107 0) 49 2 ([(0, .ls 0 s.length), (2, .pv (.func (.func 108) #[] #[])), (4, .pp 1 0), (8, .pv (.int .i64 (s.length : Int))), (9, .pv (.int .i64 (i : Int))), (10, .pv (.int .i64 (j : Int)))]) ([(1, 0, .pv (.int .i64 tn)), (1, 1, .pv (.int .i64 td)), (0, 0, rowL s)]) (.exit 0) ([(0, .ls 0 s.length), (2, .pv (.func (.func 108) #[] #[])), (4, .pp 1 0), (8, .pv (.int .i64 (s.length : Int))), (9, .pv (.int .i64 (i : Int))), (10, .pv (.int .i64 (j : Int)))]) ([(1, 0, .pv (.int .i64 tn)), (1, 1, .pv (.int .i64 td)), (0, 0, rowL s)]) :=
  RunsL.stop [] 300 [.t false] (fun h => by cases h)
    (round_of (And.intro hge True.intro) (by kernel_rfl))

set_option maxRecDepth 100000 in
theorem lbf_out {s : List Ld} {k : Nat} {tn td : Int} (r0 : RunsL Tryz.prog 1 1 (loopOf Tryz.prog 107 0) 49 2 ([(0, .ls 0 s.length), (2, .pv (.func (.func 108) #[] #[])), (4, .pp 1 0), (8, .pv (.int .i64 (s.length : Int))), (9, .pv (.int .i64 ((0 : Nat) : Int))), (10, .pv (.int .i64 (s.length : Int)))]) ([(1, 0, .pv (.int .i64 tn)), (1, 1, .pv (.int .i64 td)), (0, 0, rowL s)]) (.exit 0) ([(0, .ls 0 s.length), (2, .pv (.func (.func 108) #[] #[])), (4, .pp 1 0), (8, .pv (.int .i64 (s.length : Int))), (9, .pv (.int .i64 (k : Int))), (10, .pv (.int .i64 (k : Int)))]) ([(1, 0, .pv (.int .i64 tn)), (1, 1, .pv (.int .i64 td)), (0, 0, rowL s)])) (hge : decide ((k : Int) < (s.length : Int)) = false) :
    FnL Tryz.prog 107 1 [.ls 0 s.length, .pv (ratioV tn td), .pv (.func (.func 108) #[] #[])] [(0, 0, rowL s)] (.pv (.tuple #[.int .i64 (k : Int), .bool false])) 0 [] :=
  fnl_run 300 [] [.l (.exit 0) ([(0, .ls 0 s.length), (2, .pv (.func (.func 108) #[] #[])), (4, .pp 1 0), (8, .pv (.int .i64 (s.length : Int))), (9, .pv (.int .i64 ((0 : Nat) : Int))), (10, .pv (.int .i64 (s.length : Int)))]) ([(1, 0, .pv (.int .i64 tn)), (1, 1, .pv (.int .i64 td)), (0, 0, rowL s)]) ([(0, .ls 0 s.length), (2, .pv (.func (.func 108) #[] #[])), (4, .pp 1 0), (8, .pv (.int .i64 (s.length : Int))), (9, .pv (.int .i64 (k : Int))), (10, .pv (.int .i64 (k : Int)))]) ([(1, 0, .pv (.int .i64 tn)), (1, 1, .pv (.int .i64 td)), (0, 0, rowL s)]), .t false]
     True.intro (And.intro (reflT (renN []) ([(0, .ls 0 s.length), (2, .pv (.func (.func 108) #[] #[])), (4, .pp 1 0), (8, .pv (.int .i64 (s.length : Int))), (9, .pv (.int .i64 ((0 : Nat) : Int))), (10, .pv (.int .i64 (s.length : Int)))])) (And.intro (reflH (renN []) ([(1, 0, .pv (.int .i64 tn)), (1, 1, .pv (.int .i64 td)), (0, 0, rowL s)])) (And.intro r0 (And.intro hge True.intro)))) (by kernel_rfl)

set_option maxRecDepth 100000 in
theorem lbf_hit {s : List Ld} {k : Nat} {x : Ld} {c tn td : Int} (r0 : RunsL Tryz.prog 1 1 (loopOf Tryz.prog 107 0) 49 2 ([(0, .ls 0 s.length), (2, .pv (.func (.func 108) #[] #[])), (4, .pp 1 0), (8, .pv (.int .i64 (s.length : Int))), (9, .pv (.int .i64 ((0 : Nat) : Int))), (10, .pv (.int .i64 (s.length : Int)))]) ([(1, 0, .pv (.int .i64 tn)), (1, 1, .pv (.int .i64 td)), (0, 0, rowL s)]) (.exit 0) ([(0, .ls 0 s.length), (2, .pv (.func (.func 108) #[] #[])), (4, .pp 1 0), (8, .pv (.int .i64 (s.length : Int))), (9, .pv (.int .i64 (k : Int))), (10, .pv (.int .i64 (k : Int)))]) ([(1, 0, .pv (.int .i64 tn)), (1, 1, .pv (.int .i64 td)), (0, 0, rowL s)])) (hk : s[k]? = some x) (hin : 0 ≤ (k : Int) ∧ (k : Int) < (s.length : Int)) (hlt : decide ((k : Int) < (s.length : Int)) = true) (hc : Pure Tryz.prog 108 #[leadV x, ratioV tn td] (.int .i64 (c))) (hz : (c == 0) = true) :
    FnL Tryz.prog 107 1 [.ls 0 s.length, .pv (ratioV tn td), .pv (.func (.func 108) #[] #[])] [(0, 0, rowL s)] (.pv (.tuple #[.int .i64 (k : Int), .bool true])) 0 [] :=
  fnl_run 300 [] [.l (.exit 0) ([(0, .ls 0 s.length), (2, .pv (.func (.func 108) #[] #[])), (4, .pp 1 0), (8, .pv (.int .i64 (s.length : Int))), (9, .pv (.int .i64 ((0 : Nat) : Int))), (10, .pv (.int .i64 (s.length : Int)))]) ([(1, 0, .pv (.int .i64 tn)), (1, 1, .pv (.int .i64 td)), (0, 0, rowL s)]) ([(0, .ls 0 s.length), (2, .pv (.func (.func 108) #[] #[])), (4, .pp 1 0), (8, .pv (.int .i64 (s.length : Int))), (9, .pv (.int .i64 (k : Int))), (10, .pv (.int .i64 (k : Int)))]) ([(1, 0, .pv (.int .i64 tn)), (1, 1, .pv (.int .i64 td)), (0, 0, rowL s)]), .t true, .r (leadV x), .r (.int .i64 (c)), .t true]
     True.intro (And.intro (reflT (renN []) ([(0, .ls 0 s.length), (2, .pv (.func (.func 108) #[] #[])), (4, .pp 1 0), (8, .pv (.int .i64 (s.length : Int))), (9, .pv (.int .i64 ((0 : Nat) : Int))), (10, .pv (.int .i64 (s.length : Int)))])) (And.intro (reflH (renN []) ([(1, 0, .pv (.int .i64 tn)), (1, 1, .pv (.int .i64 td)), (0, 0, rowL s)])) (And.intro r0 (And.intro hlt (And.intro hin (And.intro (ra_ld hk) (And.intro hc (And.intro hz True.intro)))))))) (by kernel_rfl)

set_option maxRecDepth 100000 in
theorem lbf_no {s : List Ld} {k : Nat} {x : Ld} {c tn td : Int} (r0 : RunsL Tryz.prog 1 1 (loopOf Tryz.prog 107 0) 49 2 ([(0, .ls 0 s.length), (2, .pv (.func (.func 108) #[] #[])), (4, .pp 1 0), (8, .pv (.int .i64 (s.length : Int))), (9, .pv (.int .i64 ((0 : Nat) : Int))), (10, .pv (.int .i64 (s.length : Int)))]) ([(1, 0, .pv (.int .i64 tn)), (1, 1, .pv (.int .i64 td)), (0, 0, rowL s)]) (.exit 0) ([(0, .ls 0 s.length), (2, .pv (.func (.func 108) #[] #[])), (4, .pp 1 0), (8, .pv (.int .i64 (s.length : Int))), (9, .pv (.int .i64 (k : Int))), (10, .pv (.int .i64 (k : Int)))]) ([(1, 0, .pv (.int .i64 tn)), (1, 1, .pv (.int .i64 td)), (0, 0, rowL s)])) (hk : s[k]? = some x) (hin : 0 ≤ (k : Int) ∧ (k : Int) < (s.length : Int)) (hlt : decide ((k : Int) < (s.length : Int)) = true) (hc : Pure Tryz.prog 108 #[leadV x, ratioV tn td] (.int .i64 (c))) (hz : (c == 0) = false) :
    FnL Tryz.prog 107 1 [.ls 0 s.length, .pv (ratioV tn td), .pv (.func (.func 108) #[] #[])] [(0, 0, rowL s)] (.pv (.tuple #[.int .i64 (k : Int), .bool false])) 0 [] :=
  fnl_run 300 [] [.l (.exit 0) ([(0, .ls 0 s.length), (2, .pv (.func (.func 108) #[] #[])), (4, .pp 1 0), (8, .pv (.int .i64 (s.length : Int))), (9, .pv (.int .i64 ((0 : Nat) : Int))), (10, .pv (.int .i64 (s.length : Int)))]) ([(1, 0, .pv (.int .i64 tn)), (1, 1, .pv (.int .i64 td)), (0, 0, rowL s)]) ([(0, .ls 0 s.length), (2, .pv (.func (.func 108) #[] #[])), (4, .pp 1 0), (8, .pv (.int .i64 (s.length : Int))), (9, .pv (.int .i64 (k : Int))), (10, .pv (.int .i64 (k : Int)))]) ([(1, 0, .pv (.int .i64 tn)), (1, 1, .pv (.int .i64 td)), (0, 0, rowL s)]), .t true, .r (leadV x), .r (.int .i64 (c)), .t false]
     True.intro (And.intro (reflT (renN []) ([(0, .ls 0 s.length), (2, .pv (.func (.func 108) #[] #[])), (4, .pp 1 0), (8, .pv (.int .i64 (s.length : Int))), (9, .pv (.int .i64 ((0 : Nat) : Int))), (10, .pv (.int .i64 (s.length : Int)))])) (And.intro (reflH (renN []) ([(1, 0, .pv (.int .i64 tn)), (1, 1, .pv (.int .i64 td)), (0, 0, rowL s)])) (And.intro r0 (And.intro hlt (And.intro hin (And.intro (ra_ld hk) (And.intro hc (And.intro hz True.intro)))))))) (by kernel_rfl)

set_option maxRecDepth 100000 in
theorem lat_hit {s : List Ld} {k : Nat} {x : Ld} {tn td : Int} (hb : FnL Tryz.prog 107 1 [.ls 0 s.length, .pv (ratioV tn td), .pv (.func (.func 108) #[] #[])] [(0, 0, rowL s)] (.pv (.tuple #[.int .i64 (k : Int), .bool true])) 0 []) (hk : s[k]? = some x) (hin : 0 ≤ (k : Int) ∧ (k : Int) < (s.length : Int)) :
    FnL Tryz.prog 58 1 [.ls 0 s.length, .pv (ratioV tn td)] [(0, 0, rowL s)] (.pv (.int .i64 (x.id))) 0 [] :=
  fnl_run 300 [] [.f [0] [.ls 0 s.length, .pv (ratioV tn td), .pv (.func (.func 108) #[] #[])] [(0, 0, rowL s)] (.pv (.tuple #[.int .i64 (k : Int), .bool true])) 0 [], .k, .r (.int .i64 (x.id))]
     True.intro (And.intro hb (And.intro (Eq.refl (List.map (SV.ren (renU [0] 2)) [.ls 0 s.length, .pv (ratioV tn td), .pv (.func (.func 108) #[] #[])])) (And.intro (reflH (renU [0] 2) [(0, 0, rowL s)]) (And.intro hin (And.intro (ra_li hk) True.intro))))) (by kernel_rfl)

set_option maxRecDepth 100000 in
theorem lat_no {s : List Ld} {k : Nat} {x : Ld} {tn td : Int} (hb : FnL Tryz.prog 107 1 [.ls 0 s.length, .pv (ratioV tn td), .pv (.func (.func 108) #[] #[])] [(0, 0, rowL s)] (.pv (.tuple #[.int .i64 ((k + 1 : Nat) : Int), .bool false])) 0 []) (hm : Value.int .i64 (IntKind.i64.wrap (((k + 1 : Nat) : Int) - 1)) = .int .i64 ((k : Int))) (hk : s[k]? = some x) (hin : 0 ≤ (k : Int) ∧ (k : Int) < (s.length : Int)) :
    FnL Tryz.prog 58 1 [.ls 0 s.length, .pv (ratioV tn td)] [(0, 0, rowL s)] (.pv (.int .i64 (x.id))) 0 [] :=
  fnl_run 300 [] [.f [0] [.ls 0 s.length, .pv (ratioV tn td), .pv (.func (.func 108) #[] #[])] [(0, 0, rowL s)] (.pv (.tuple #[.int .i64 ((k + 1 : Nat) : Int), .bool false])) 0 [], .k, .r (.int .i64 ((k : Int))), .r (.int .i64 (x.id))]
     True.intro (And.intro hb (And.intro (Eq.refl (List.map (SV.ren (renU [0] 2)) [.ls 0 s.length, .pv (ratioV tn td), .pv (.func (.func 108) #[] #[])])) (And.intro (reflH (renU [0] 2) [(0, 0, rowL s)]) (And.intro hm (And.intro hin (And.intro (ra_li hk) True.intro)))))) (by kernel_rfl)

set_option maxRecDepth 100000 in
theorem cat_ok {s : List Ld} {x : Ld} {tn td id : Int} (hc : FnL Tryz.prog 21 1 [.ls 0 s.length] [(0, 0, rowL s)] (.pv (.int .i64 (0))) 0 []) (ht : Pure Tryz.prog 76 #[ratioV tn td] (.int .i64 (0))) (hk : s[0]? = some x) (hin : 0 ≤ (0 : Int) ∧ (0 : Int) < (s.length : Int)) (hb : Pure Tryz.prog 61 #[ratioV tn td, ratioV x.n x.d] (.bool false)) (hla : FnL Tryz.prog 58 1 [.ls 0 s.length, .pv (ratioV tn td)] [(0, 0, rowL s)] (.pv (.int .i64 (id))) 0 []) :
    FnL Tryz.prog 50 1 [.ls 0 s.length, .pv (ratioV tn td)] [(0, 0, rowL s)] (.pv (.tuple #[.int .i64 (id), .int .i64 (0)])) 0 [] :=
  fnl_run 300 [] [.f [0] [.ls 0 s.length] [(0, 0, rowL s)] (.pv (.int .i64 (0))) 0 [], .r (.int .i64 (0)), .k, .k, .k, .k, .k, .k, .k, .k, .k, .r (ratioV x.n x.d), .r (.bool false), .f [0] [.ls 0 s.length, .pv (ratioV tn td)] [(0, 0, rowL s)] (.pv (.int .i64 (id))) 0 []]
     True.intro (And.intro hc (And.intro (Eq.refl (List.map (SV.ren (renU [0] 2)) [.ls 0 s.length])) (And.intro (reflH (renU [0] 2) [(0, 0, rowL s)]) (And.intro ht (And.intro hin (And.intro (ra_lf hk) (And.intro hb (And.intro hla (And.intro (Eq.refl (List.map (SV.ren (renU [0] 2)) [.ls 0 s.length, .pv (ratioV tn td)])) (And.intro (reflH (renU [0] 2) [(0, 0, rowL s)]) True.intro)))))))))) (by kernel_rfl)
end Go.Proofs.YtpngjeloiifgnaaGreat
