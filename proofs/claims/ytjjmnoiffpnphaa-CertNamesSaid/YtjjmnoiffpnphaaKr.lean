/-
  Valid stores after a change; the chapter's examples hold; CertLists. Conditions: none.
-/
import Derived.Test.YtjjmnoiffpnphaaKj
import Derived.Test.YtjjmnoiffpnphaaW31
namespace Go.Proofs.Ytjjmnoiffpnphaa
open Go.RowKit
/-- An error-free nil list in a new store, as a list of the run's own. -/
theorem knil {f : FuncId} {y : Int} (h : FnL Try.prog f 0 [] [] (.pv (.agg #[.int .i64 y, .slice none 0 0])) 0 []) : FnL Try.prog f 0 [] [] (.ag [.pv (.int .i64 y), .ls 0 0]) 1 [(0, 0, rowC [])] := by
  intro w β us hH hd hi
  refine (h w β us hH hd hi).mono fun e w' ⟨v, β', he, hle, hx, hh, hd'⟩ => ?_
  cases hx
  have hd0 := hd' 0 (by omega)
  have hle0 : β'.le (β'.setG 0 (.slice none 0 0)) := Bl.le_setG hd0.1 hd0.2
  have ho : w'.ownsRow w.heap.size 28 3 (.slice none 0 0) 0 [] := ⟨rfl, Or.inl ⟨rfl, rfl⟩⟩
  have look : ∀ {b o : Nat} {s t : SV}, lookH [(0, 0, s)] b o = some t → b = 0 ∧ o = 0 ∧ t = s := by
    intro b o s t h
    rw [lookH_cons] at h
    split at h
    · rename_i e; cases h; exact ⟨e.1.symm, e.2.symm, rfl⟩
    · cases h
  refine ⟨_, β'.setG 0 (.slice none 0 0), he, Bl.le_trans hle hle0, ⟨[.int .i64 y, .slice none 0 0], ⟨rfl, ⟨Bl.setG_same _ _ _, none, 0, rfl⟩, True.intro⟩, rfl⟩, ?_, fun b hb => ⟨(hd' b (by omega)).1, by unfold Bl.setG; simp only [if_neg (show b ≠ 0 by omega)]; exact (hd' b (by omega)).2⟩⟩
  refine ⟨hh.gr, hh.live, hh.inj, hh.new, fun c r hc => ?_, fun c o s hs hsr => ?_, fun c o e es n xs hs => ?_, fun c o e es n xs c' o' e' es' n' xs' u v hs hs' h1 h2 hne => ?_, fun c o xs hs => ?_⟩
  · have hc' : β' c = some r := hc
    have : c ≠ 0 := fun e => by subst e; rw [hd0.1] at hc'; cases hc'
    show (if c = 0 then _ else β'.g c) = none
    rw [if_neg this]
    exact hh.sep c r hc'
  · obtain ⟨_, _, rfl⟩ := look hs; cases hsr
  · obtain ⟨rfl, _, e1⟩ := look hs
    cases e1
    exact ⟨_, Bl.setG_same _ _ _, owns_rd ho, (fun v hv => by cases hv), fun h => by omega, fun _ => ho, fun _ c r hc hu => by cases hu⟩
  · exact (hne ((look hs).1.trans (look hs').1.symm)).elim
  · obtain ⟨_, _, e1⟩ := look hs; cases e1
theorem fnl_of_pure {f : FuncId} {v : Value} (h : Pure Try.prog f #[] v) : FnL Try.prog f 0 [] [] (.pv v) 0 [] := by
  intro w β us hH hd hi
  match us, hi with
  | [], _ =>
    refine (h w).mono fun e w' ⟨he, hg⟩ => ⟨v, β, he, Bl.le_refl β, rfl, hH.gr_mono hg, hd⟩
theorem pure_of_fnl {f : FuncId} {v : Value} (h : FnL Try.prog f 0 [] [] (.pv v) 0 []) : Pure Try.prog f #[] v := by
  intro w
  have H0 : HRel w 0 Bl.no [] w := ⟨Gr.refl w, fun _ _ e => (by cases e), fun _ _ _ e => (by cases e), fun _ _ _ e => (by cases e), fun _ _ e => (by cases e), fun _ _ _ e => (by cases e), fun _ _ _ _ _ _ e => (by cases e), fun _ _ _ _ _ _ _ _ _ _ _ _ _ _ e => (by cases e), fun _ _ _ e => (by cases e)⟩
  refine (h w Bl.no [] H0 (fun _ _ => ⟨rfl, rfl⟩) True.intro).mono fun e w' ⟨u, β', he, _, hx, hh, _⟩ => ?_
  cases hx
  exact ⟨he, hh.gr⟩
theorem New_own : FnL Try.prog 26 0 [] [] (.ag [.pv (.int .i64 0), .ls 0 0]) 1 [(0, 0, rowC [])] := knil (fnl_of_pure new8)

theorem V8.none {x : Int} (h : 0 ≤ x ∧ x ≤ 1000000) : V8 x [] := ⟨by simp, by simp, fun k p q hp => by simp at hp, by simp, by simp, h, fun i k p q _ hp => by simp at hp⟩
theorem get_snoc {l : List Pt} {r p : Pt} {k : Nat} (h : (l ++ [r])[k]? = some p) : l[k]? = some p ∨ (k = l.length ∧ p = r) := by
  rcases Nat.lt_or_ge k l.length with h1 | h1
  · rw [List.getElem?_append_left h1] at h; exact Or.inl h
  · have := get_lt h
    have e : k = l.length := by simp at this; omega
    subst e
    simp at h
    exact Or.inr ⟨rfl, h.symm⟩
theorem V8.add {x a b : Int} {l : List Pt} (h : V8 x l) (hc : crtB a b = true) (hh : hasC l a b = false) (hn : l.length < 200) (hx : x < 1000000) : V8 (x + 1) (l ++ [Pt.mk x a b]) where
  len := by simp; omega
  ok := fun p hp => by
    rcases List.mem_append.1 hp with hp | hp
    · exact h.ok p hp
    · simp at hp; subst hp; exact hc
  up := fun k p q hp hq => by
    rcases get_snoc hq with hq | ⟨e, rfl⟩
    · rcases get_snoc hp with hp | ⟨e, _⟩
      · exact h.up k p q hp hq
      · have := get_lt hq; omega
    · rcases get_snoc hp with hp | ⟨e', _⟩
      · exact h.hi p (List.mem_of_getElem? hp)
      · omega
  lo := fun p hp => by
    rcases List.mem_append.1 hp with hp | hp
    · exact h.lo p hp
    · simp at hp; subst hp; exact h.nx.1
  hi := fun p hp => by
    rcases List.mem_append.1 hp with hp | hp
    · have := h.hi p hp; omega
    · simp at hp; subst hp; show x < x + 1; omega
  nx := by have := h.nx; omega
  dis := fun i k p q hik hp hq => by
    rcases get_snoc hq with hq | ⟨e, rfl⟩
    · rcases get_snoc hp with hp | ⟨e, _⟩
      · exact h.dis i k p q hik hp hq
      · have := get_lt hq; omega
    · rcases get_snoc hp with hp | ⟨e', _⟩
      · intro he
        have : hasC l a b = true := hasC_iff.2 ⟨p, List.mem_of_getElem? hp, he⟩
        rw [hh] at this; cases this
      · omega
theorem get_cut {l : List Pt} {k i : Nat} {p : Pt} (h : (l.take k ++ l.drop (k + 1))[i]? = some p) : ∃ j, l[j]? = some p ∧ j ≠ k ∧ (i < k ∧ j = i ∨ k ≤ i ∧ j = i + 1) := by
  rcases Nat.lt_or_ge i (l.take k).length with h1 | h1
  · rw [List.getElem?_append_left h1, List.getElem?_take] at h
    split at h
    · rename_i hik
      exact ⟨i, h, by omega, Or.inl ⟨hik, rfl⟩⟩
    · cases h
  · rw [List.getElem?_append_right h1, List.getElem?_drop] at h
    have hl := get_lt h
    rw [List.length_take] at h1 hl h
    have hk : k ≤ i := by omega
    refine ⟨i + 1, ?_, by omega, Or.inr ⟨hk, rfl⟩⟩
    rw [show k + 1 + (i - min k l.length) = i + 1 by omega] at h
    exact h
theorem V8.cut {x : Int} {l : List Pt} (h : V8 x l) (k : Nat) : V8 x (l.take k ++ l.drop (k + 1)) := by
  have hm : ∀ p ∈ l.take k ++ l.drop (k + 1), p ∈ l := fun p hp => by
    rcases List.mem_append.1 hp with hp | hp
    · exact List.mem_of_mem_take hp
    · exact List.mem_of_mem_drop hp
  refine ⟨?_, fun p hp => h.ok p (hm p hp), fun i p q hp hq => ?_, fun p hp => h.lo p (hm p hp), fun p hp => h.hi p (hm p hp), h.nx, fun i j p q hij hp hq => ?_⟩
  · have := h.len
    simp; omega
  · obtain ⟨i1, h1, _, c1⟩ := get_cut hp
    obtain ⟨j1, h2, _, c2⟩ := get_cut hq
    exact h.up.mono (by omega) h1 h2
  · obtain ⟨i1, h1, _, c1⟩ := get_cut hp
    obtain ⟨j1, h2, _, c2⟩ := get_cut hq
    exact h.dis i1 j1 p q (by omega) h1 h2

theorem Add_yes {x a b : Int} {l : List Pt} (h : V8 x l) (hc : crtB a b = true) (hh : hasC l a b = false) (hn : l.length < 200) (hx : x < 1000000) : AddOk 10 x l a b := by
  rcases Add8_any x (l := l) (by omega) a b with ⟨e, _, _, h1 | h1 | h1⟩ | ⟨_, _, _, _, _, h1, _⟩
  · rcases h1.2 with h2 | h2
    · exact (h2 h).elim
    · exact (h2 hc).elim
  · rw [h1.2.2.2] at hh; cases hh
  · have := h1.2.2.2.2; omega
  · exact h1
theorem Rem_yes {x : Int} {l : List Pt} (h : V8 x l) {k : Nat} {p : Pt} (hk : l[k]? = some p) : RemOk 11 x l p.id (l.take k ++ l.drop (k + 1)) p.a p.b := by
  have := h.len
  rcases Rem8_any x (l := l) (by omega) p.id with ⟨e, he, _, _, h1 | h1 | h1⟩ | ⟨k', p', _, hk', he, h1, _⟩
  · exact (h1.1 h).elim
  · exact (h1.2.1 p (List.mem_of_getElem? hk) rfl).elim
  · exact (he h1.2.1).elim
  · obtain ⟨rfl, rfl⟩ := one_at h.up hk' hk he
    exact h1
theorem Of_yes {x : Int} {l : List Pt} (h : V8 x l) (n : Int) : OfOk 13 x l n (sel (names n) l) := by
  have := h.len
  rcases Of8_any x (l := l) (by omega) n with ⟨h1, _⟩ | ⟨_, h1, _⟩
  · exact (h1 h).elim
  · exact h1
theorem Holds_yes {x : Int} {l s : List Pt} {tn td : Int} (htn : I64 tn) (htd : I64 td) (h : V8 x l) (ht : tE s tn td = 0) (hk : Known l s) : HoOk 14 x l s tn td (sel (holdB s tn td) l) := by
  have := h.len
  rcases Ho8_any htn htd x (l := l) (by omega) s with ⟨e, he, _, _, h1 | h1 | h1⟩ | ⟨_, _, _, h1, _⟩
  · exact (h1.1 h).elim
  · exact (h1.2.1 ht).elim
  · exact (h1.2.2.1 hk).elim
  · exact h1
theorem hasC_dec {l : List Pt} {a b : Int} (h : (l.all fun p => !(p.a == a && p.b == b)) = true) : hasC l a b = false := by
  cases e : hasC l a b
  · rfl
  · obtain ⟨p, hp, h1, h2⟩ := hasC_iff.1 e
    have := List.all_eq_true.1 h p hp
    rw [h1, h2] at this
    simp at this

theorem v0 : V8 0 [] := V8.none (by omega)
theorem v1 : V8 1 [Pt.mk 0 1 2] := V8.add v0 (by decide) (hasC_dec (by decide)) (by decide) (by decide)
theorem v2 : V8 2 [Pt.mk 0 1 2, Pt.mk 1 3 2] := V8.add v1 (by decide) (hasC_dec (by decide)) (by decide) (by decide)
theorem v3 : V8 2 [Pt.mk 1 3 2] := V8.cut v2 0
abbrev s3 : List Pt := [Pt.mk 1 5 0, Pt.mk 2 6 0, Pt.mk 3 7 0]
theorem s3_val : Val s3 := ⟨by decide, by decide, fun k p q hp hq => by
  match k, hp, hq with
  | 0, hp, hq => cases hp; cases hq; decide
  | 1, hp, hq => cases hp; cases hq; decide
  | k + 2, hp, hq => simp at hq⟩
theorem s3_t : tE s3 0 1 = 0 := by unfold tE; rw [if_pos (err_val.2 s3_val), if_pos (by decide)]
theorem s3_k : Known [Pt.mk 0 1 2, Pt.mk 1 3 2] s3 := by
  intro p hp
  simp at hp
  rcases hp with rfl | rfl <;> simp
theorem Alive8 : Pure Try.prog 18 #[] (.bool true) := by
  have h := al8_path (hN := New_own) (hA := Add_yes (a := 1) (b := 2) v0 (by decide) (hasC_dec (by decide)) (by decide) (by decide)) (hB := Add_yes (a := 3) (b := 2) v1 (by decide) (hasC_dec (by decide)) (by decide) (by decide))
    (ho2 := Of_yes v2 2) (ho1 := Of_yes v2 1) (hat := at8_pure) (hH := Holds_yes (tn := 0) (td := 1) (by unfold I64; omega) (by unfold I64; omega) v2 s3_t s3_k) (hR := Rem_yes v2 (k := 0) rfl) (hC := Add_yes (a := 1) (b := 2) v3 (by decide) (hasC_dec (by decide)) (by decide) (by decide))
    (hs1 := SameI_ok (g := [0, 1]) (by decide)) (hs2 := SameI_ok (g := [0]) (by decide)) (hs3 := SameI_ok (g := [0]) (by decide))
  exact pure_of_fnl h
end Go.Proofs.Ytjjmnoiffpnphaa
