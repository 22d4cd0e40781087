/-
  Calls at nil fields; what the functions say of a store that is not valid; CertNames. Conditions: none.
-/
import Derived.Test.YtjjmnoiffpnphaaW31
import Derived.Test.YtjjmnoiffpnphaaKr
import Derived.Test.YtjjmnoiffpnphaaKt
namespace Go.Proofs.Ytjjmnoiffpnphaa
open Go.RowKit
theorem nrd (W : World) : Rd W 3 (.slice none 0 0) ([] : List Pt).length (ptsV []) := ⟨rfl, none, 0, rfl, Nat.le_refl _, fun j v hj => by simp [ptsV] at hj⟩
theorem kni1 {f : FuncId} {x : Int} {vs : List Value} {v : Value} (h : FnL Try.prog f 1 (crtS 0 x [] :: vs.map .pv) [(0, 0, rowC [])] (.pv v) 0 []) : Pure Try.prog f (.agg #[.int .i64 x, .slice none 0 0] :: vs).toArray v := by
  intro w
  have hI : ZIns w [.slice none 0 0] [(28, 3, ([] : List Pt).length, ptsV [])] := .cons (nrd w) (pts_one []) .nil
  refine (h w _ (.agg #[.int .i64 x, .slice none 0 0] :: vs) (zins_rel hI) (zins_dom hI) ⟨certs_in (nrd w), SV.isl_v _⟩).mono fun e w' ⟨v', β', he, _, hx, hH, _⟩ => ?_
  cases hx
  exact ⟨he, hH.gr⟩
theorem kni2 {f : FuncId} {x : Int} {vs : List Value} {v : Value} (h : FnL Try.prog f 2 (crtS 0 x [] :: fldS 1 [] :: vs.map .pv) [(0, 0, rowC []), (1, 0, rowP [])] (.pv v) 0 []) : Pure Try.prog f (.agg #[.int .i64 x, .slice none 0 0] :: .agg #[.slice none 0 0] :: vs).toArray v := by
  intro w
  have hI : ZIns w [.slice none 0 0, .slice none 0 0] [(28, 3, ([] : List Pt).length, ptsV []), (50, 3, ([] : List Pt).length, ptsV [])] := .cons (nrd w) (pts_one []) (.cons (nrd w) (pts_one []) .nil)
  refine (h w _ (.agg #[.int .i64 x, .slice none 0 0] :: .agg #[.slice none 0 0] :: vs) (zins_rel hI) (zins_dom hI) ⟨certs_in (nrd w), ⟨[.slice none 0 0], ⟨⟨rfl, (nrd w).zsl⟩, True.intro⟩, rfl⟩, SV.isl_v _⟩).mono fun e w' ⟨v', β', he, _, hx, hH, _⟩ => ?_
  cases hx
  exact ⟨he, hH.gr⟩
theorem kni3 {f : FuncId} {x : Int} {l : List Pt} {vs : List Value} {v : Value} (h : FnL Try.prog f 2 (crtS 0 x l :: fldS 1 [] :: vs.map .pv) [(0, 0, rowC l), (1, 0, rowP [])] (.pv v) 0 []) : FnL Try.prog f 1 (crtS 0 x l :: .pv (.agg #[.slice none 0 0]) :: vs.map .pv) [(0, 0, rowC l)] (.pv v) 0 [] := by
  intro w β us H hd hi
  match us, hi with
  | a :: b :: r, ⟨⟨ws, hws, ha⟩, hb, hr⟩ =>
  match ws, hws with
  | [y, u], ⟨hy, ⟨g0, _⟩, _⟩ =>
  cases hy
  cases hb
  subst ha
  have e := SV.isl_v_eq hr
  subst e
  obtain ⟨v0, e0, R0⟩ := H.rows 0 0 _ _ _ _ rfl
  rw [g0] at e0
  cases e0
  have hI : ZIns w [u, .slice none 0 0] [(28, 3, l.length, ptsV l), (50, 3, ([] : List Pt).length, ptsV [])] := .cons R0.rd (pts_one l) (.cons (nrd w) (pts_one []) .nil)
  refine (h w _ (.agg #[.int .i64 x, u] :: .agg #[.slice none 0 0] :: r) (zins_rel hI) (zins_dom hI) ⟨certs_in R0.rd, ⟨[.slice none 0 0], ⟨⟨rfl, (nrd w).zsl⟩, True.intro⟩, rfl⟩, SV.isl_v _⟩).mono fun e w' ⟨v', β', he, _, hx, hH, _⟩ => ?_
  cases hx
  exact ⟨_, β, he, Bl.le_refl _, rfl, (H.gr_mono hH.gr).imp fun b o s hs => (by cases hs), hd⟩
theorem nrow8 {W w' : World} {β : Bl} {u : Value} {e : TypeId} {es n : Nat} {xs : List Value} (H : HRel W 0 β [] W) (hd : β.dom 0) (hg : Gr W w') (ho : w'.ownsRow W.heap.size e es u n xs) (h1 : ∀ v ∈ xs, v.oneCell' = true) :
    HRel W 0 (β.setG 0 u) [(0, 0, .row e es n xs)] w' where
  gr := hg
  live := fun b r h => Nat.lt_of_lt_of_le (H.live b r h) hg.size
  inj := H.inj
  new := fun b r hb h => by
    have h' : β b = some r := h
    rw [(hd b hb).1] at h'; cases h'
  sep := fun b r h => by
    have h' : β b = some r := h
    rw [(hd b (Nat.zero_le _)).1] at h'; cases h'
  cells := fun b o sv hl hs => by
    simp only [lookH] at hl
    cases hc : (Nat.beq 0 b && Nat.beq 0 o) <;> rw [hc] at hl
    · cases hl
    · cases hl; cases hs
  rows := fun b o e es n xs hl => by
    simp only [lookH] at hl
    cases hc : (Nat.beq 0 b && Nat.beq 0 o) <;> rw [hc] at hl
    · cases hl
    · cases hl
      rw [Bool.and_eq_true] at hc
      have hb : 0 = b := Nat.eq_of_beq_eq_true hc.1
      subst hb
      exact ⟨u, Bl.setG_same β 0 u, owns_rd ho, h1, fun h => by omega, fun _ => ho, fun _ c r hc hu => by
        have h' : β c = some r := hc
        rw [(hd c (Nat.zero_le _)).1] at h'; cases h'⟩
  rinj := fun b o e es n xs c o' e' es' n' xs' u v hl hl' h1 h2 hne => by
    simp only [lookH] at hl hl'
    cases hc : (Nat.beq 0 b && Nat.beq 0 o) <;> rw [hc] at hl
    · cases hl
    · cases hc' : (Nat.beq 0 c && Nat.beq 0 o') <;> rw [hc'] at hl'
      · cases hl'
      · rw [Bool.and_eq_true] at hc hc'
        have e1 := Nat.eq_of_beq_eq_true hc.1
        have e2 := Nat.eq_of_beq_eq_true hc'.1
        exact (hne (e1.symm.trans e2)).elim
  maps := fun b o xs hl => (noMaps (by rfl) hl).elim
/-- A certificate put into a nil store. -/
theorem kni4 {f : FuncId} {x y z : Int} {vs : List Value} {m : List Pt} (h : FnL Try.prog f 1 (crtS 0 x [] :: vs.map .pv) [(0, 0, rowC [])] (.tu [.ag [.pv (.int .i64 y), .ls 1 m.length], .one (.pv (.int .i64 z)), .one (.pv (.int .i64 0))]) 1 [(1, 0, rowC m)]) :
    FnL Try.prog f 0 (.pv (.agg #[.int .i64 x, .slice none 0 0]) :: vs.map .pv) [] (.tu [.ag [.pv (.int .i64 y), .ls 0 m.length], .one (.pv (.int .i64 z)), .one (.pv (.int .i64 0))]) 1 [(0, 0, rowC m)] := by
  intro W β us H hd ha
  have hus := SV.isl_v_eq (l := .agg #[.int .i64 x, .slice none 0 0] :: vs) ha
  subst hus
  have hI : ZIns W [.slice none 0 0] [(28, 3, ([] : List Pt).length, ptsV [])] := .cons (nrd W) (pts_one []) .nil
  refine (h W _ (.agg #[.int .i64 x, .slice none 0 0] :: vs) (zins_rel hI) (zins_dom hI) ⟨certs_in (nrd W), SV.isl_v _⟩).mono fun e w' ⟨v, β', he, _, hx, hh, _⟩ => ?_
  obtain ⟨ws, hw, hv⟩ := hx
  match ws, hw with
  | [c, p, q], ⟨⟨cs, hcs, hc⟩, hp, hq, _⟩ =>
  match cs, hcs with
  | [y0, t], ⟨hy0, ⟨ht, a, k, htv⟩, _⟩ =>
    obtain ⟨u, hu, hrow⟩ := hh.rows 1 0 _ _ _ _ rfl
    rw [ht] at hu
    cases hu
    have hd1 := hd 0 (Nat.le_refl _)
    exact ⟨v, β.setG 0 t, he, Bl.le_setG hd1.1 hd1.2, ⟨[c, p, q], ⟨⟨[y0, t], ⟨hy0, ⟨Bl.setG_same _ _ _, a, k, htv⟩, True.intro⟩, hc⟩, hp, hq, True.intro⟩, hv⟩, nrow8 H hd hh.gr (hrow.own (Nat.le_refl _)) (pts_one m), fun b hb => by
      obtain ⟨d1, d2⟩ := hd b (by omega)
      refine ⟨d1, ?_⟩
      unfold Bl.setG
      simp only
      rw [if_neg (by omega)]
      exact d2⟩

section
variable {x : Int} {l : List Pt} (hn : l.length ≤ 210) (hv : ¬ V8 x l)
include hn hv
theorem Add_bad (a b : Int) : AddErr 10 x l a b 8 := by
  rcases Add8_any x hn a b with ⟨e, h, _, h1 | h1 | h1⟩ | h1
  · rw [h1.1] at h; exact h
  · exact (hv h1.2.1).elim
  · exact (hv h1.2.1).elim
  · exact (hv h1.1).elim
theorem Rem_bad (n : Int) : RemErr 11 x l n 8 := by
  rcases Rem8_any x hn n with ⟨e, _, h, _, h1 | h1 | h1⟩ | ⟨_, _, h1, _⟩
  · rw [h1.2.2.2] at h; exact h
  · exact (hv h1.1).elim
  · exact (hv h1.1).elim
  · exact (hv h1).elim
theorem Get_bad (n : Int) : GetIs 12 x l n 0 0 8 := by
  obtain ⟨a, b, e, h, _, h1 | h1 | h1⟩ := Get8_any x hn n
  · obtain ⟨_, rfl, rfl, rfl⟩ := h1; exact h
  · exact (hv h1.1).elim
  · exact (hv h1.1).elim
theorem Of_bad (n : Int) : OfErr 13 x l n 8 := by
  rcases Of8_any x hn n with ⟨_, h, _⟩ | ⟨h, _⟩
  · exact h
  · exact (hv h).elim
theorem Ho_bad : HoErr 14 x l [] 0 0 8 := by
  rcases Ho8_any (tn := 0) (td := 0) ⟨by decide, by decide⟩ ⟨by decide, by decide⟩ x hn [] with ⟨e, _, h, _, h1 | h1 | h1⟩ | ⟨h1, _⟩
  · rw [h1.2] at h; exact h
  · exact (hv h1.1).elim
  · exact (hv h1.1).elim
  · exact (hv h1).elim
omit hn in
theorem Ck_bad : FnL Try.prog 16 1 [crtS 0 x l] [(0, 0, rowC l)] (.pv (.int .i64 8)) 0 [] := by
  have h := PC8_any x l
  rw [errC_bad hv] at h
  exact h
end
def fullC (n : Nat) : List Pt := (List.range n).map fun (i : Nat) => ⟨(i : Int), (i : Int), 65535⟩
theorem fullC_succ (n : Nat) : fullC (n + 1) = fullC n ++ [⟨(n : Int), (n : Int), 65535⟩] := by unfold fullC; rw [List.range_succ, List.map_append]; rfl
theorem fullC_len (n : Nat) : (fullC n).length = n := by unfold fullC; simp
theorem fullC_get {n k : Nat} {p : Pt} (h : (fullC n)[k]? = some p) : k < n ∧ p = ⟨(k : Int), (k : Int), 65535⟩ := by
  unfold fullC at h
  rw [List.getElem?_map] at h
  have hk : k < n := by
    rcases Nat.lt_or_ge k n with h1 | h1
    · exact h1
    · rw [List.getElem?_eq_none (by simpa using h1)] at h; cases h
  rw [List.getElem?_range hk] at h
  exact ⟨hk, (Option.some.inj h).symm⟩
theorem fullC_mem {n : Nat} {p : Pt} (h : p ∈ fullC n) : ∃ k, k < n ∧ p = ⟨(k : Int), (k : Int), 65535⟩ := by
  obtain ⟨k, hk⟩ := List.getElem?_of_mem h
  exact ⟨k, fullC_get hk⟩
theorem V8.full : V8 200 (fullC 200) where
  len := by rw [fullC_len]; omega
  ok := fun p hp => by
    obtain ⟨k, hk, rfl⟩ := fullC_mem hp
    exact crtB_iff.2 (by simp only; omega)
  up := fun k p q hp hq => by
    obtain ⟨_, rfl⟩ := fullC_get hp
    obtain ⟨_, rfl⟩ := fullC_get hq
    simp only; omega
  lo := fun p hp => by
    obtain ⟨k, hk, rfl⟩ := fullC_mem hp
    simp only; omega
  hi := fun p hp => by
    obtain ⟨k, hk, rfl⟩ := fullC_mem hp
    simp only; omega
  nx := by omega
  dis := fun i k p q hik hp hq => by
    obtain ⟨_, rfl⟩ := fullC_get hp
    obtain ⟨_, rfl⟩ := fullC_get hq
    simp only; omega
theorem F_n : (fullC 200).length ≤ 210 := by rw [fullC_len]; omega
theorem F_no (n : Int) (h : n < 0 ∨ 200 ≤ n) : ∀ p ∈ fullC 200, p.id ≠ n := fun p hp => by
  obtain ⟨k, hk, rfl⟩ := fullC_mem hp
  simp only; omega
theorem Add_55 : AddErr 10 200 (fullC 200) 5 5 8 := by
  rcases Add8_any 200 F_n 5 5 with ⟨e, h, _, h1 | h1 | h1⟩ | h1
  · rw [h1.1] at h; exact h
  · exact absurd h1.2.2.1 (by decide)
  · exact absurd h1.2.2.1 (by decide)
  · exact absurd h1.2.1 (by decide)
theorem Add_199 : AddErr 10 200 (fullC 200) 199 65535 14 := by
  have hh : hasC (fullC 200) 199 65535 = true := hasC_iff.2 ⟨⟨199, 199, 65535⟩, by unfold fullC; exact List.mem_map.2 ⟨199, by simp, rfl⟩, rfl, rfl⟩
  rcases Add8_any 200 F_n 199 65535 with ⟨e, h, _, h1 | h1 | h1⟩ | h1
  · rcases h1.2 with h2 | h2
    · exact (h2 V8.full).elim
    · exact absurd (show crtB 199 65535 = true by decide) h2
  · rw [h1.1] at h; exact h
  · rw [h1.2.2.2.1] at hh; cases hh
  · rw [h1.2.2.1] at hh; cases hh
theorem Add_12 : AddErr 10 200 (fullC 200) 1 2 18 := by
  rcases Add8_any 200 F_n 1 2 with ⟨e, h, _, h1 | h1 | h1⟩ | h1
  · rcases h1.2 with h2 | h2
    · exact (h2 V8.full).elim
    · exact absurd (show crtB 1 2 = true by decide) h2
  · obtain ⟨p, hp, h2, h3⟩ := hasC_iff.1 h1.2.2.2
    obtain ⟨k, hk, rfl⟩ := fullC_mem hp
    simp only at h3
    omega
  · rw [h1.1] at h; exact h
  · have := h1.2.2.2.1
    rw [fullC_len] at this
    omega
theorem Add_worn : AddErr 10 1000000 [] 1 2 18 := by
  rcases Add8_any 1000000 (l := []) (by simp) 1 2 with ⟨e, h, _, h1 | h1 | h1⟩ | h1
  · rcases h1.2 with h2 | h2
    · exact (h2 (V8.none (by omega))).elim
    · exact absurd (show crtB 1 2 = true by decide) h2
  · exact absurd h1.2.2.2 (by decide)
  · rw [h1.1] at h; exact h
  · have := h1.2.2.2.2.1
    omega
theorem Add_last : AddOk 10 999999 [] 1 2 := Add_yes (V8.none (by omega)) (by decide) (hasC_dec (by decide)) (by decide) (by decide)
theorem Rem_200 : RemErr 11 200 (fullC 200) 200 6 := by
  rcases Rem8_any 200 F_n 200 with ⟨e, he, h, _, h1 | h1 | h1⟩ | ⟨_, p, _, h1, h2, _⟩
  · exact (h1.1 V8.full).elim
  · rw [h1.2.2.2.2] at h; exact h
  · exact (he h1.2.1).elim
  · exact (F_no 200 (by omega) p (List.mem_of_getElem? h1) h2).elim
theorem Get_m1 : GetIs 12 200 (fullC 200) (-1) 0 0 6 := by
  obtain ⟨a, b, e, h, _, h1 | h1 | h1⟩ := Get8_any 200 F_n (-1)
  · exact (h1.1 V8.full).elim
  · obtain ⟨_, _, rfl, rfl, rfl⟩ := h1; exact h
  · obtain ⟨_, _, k, p, hk, he, _⟩ := h1
    exact (F_no (-1) (by omega) p (List.mem_of_getElem? hk) he).elim
theorem sel_5 : sel (names (-5)) (fullC 200) = [] := by
  unfold sel
  rw [List.filter_eq_nil_iff.2 fun p hp => ?_, List.map_nil]
  obtain ⟨k, hk, rfl⟩ := fullC_mem hp
  unfold names
  simp only [decide_eq_true_eq]
  omega
theorem sel_all : (sel (names 65535) (fullC 200)).length = 200 := by
  unfold sel
  rw [List.length_map, List.filter_eq_self.2 fun p hp => ?_, fullC_len]
  obtain ⟨k, hk, rfl⟩ := fullC_mem hp
  unfold names
  simp
theorem Of_m5 : OfOk 13 200 (fullC 200) (-5) [] := by
  have h := Of_yes V8.full (-5)
  rw [sel_5] at h
  exact h
abbrev lastC : List Pt := [Pt.mk 999999 1 2]
theorem V8.last : V8 1000000 lastC := V8.add (x := 999999) (l := []) (V8.none (by omega)) (by decide) (hasC_dec (by decide)) (by decide) (by decide)
abbrev oneP : List Pt := [Pt.mk 1 0 0]
theorem oneP_val : Val oneP := ⟨by decide, by decide, fun k p q hp hq => by simp at hq⟩
theorem Ho_6 : HoErr 14 1000000 lastC oneP 0 1 6 := by
  have ht : tE oneP 0 1 = 0 := by unfold tE; rw [if_pos (err_val.2 oneP_val), if_pos (by decide)]
  have hk : ¬ Known lastC oneP := fun h => by
    obtain ⟨_, g, hg, he⟩ := h ⟨999999, 1, 2⟩ (by simp)
    simp at hg
    subst hg
    simp at he
  rcases Ho8_any (tn := 0) (td := 1) ⟨by decide, by decide⟩ ⟨by decide, by decide⟩ 1000000 (l := lastC) (by decide) oneP with ⟨e, _, h, _, h1 | h1 | h1⟩ | ⟨_, _, h1, _⟩
  · exact (h1.1 V8.last).elim
  · exact (h1.2.1 ht).elim
  · rw [h1.2.2.2] at h; exact h
  · exact (hk h1).elim
theorem Ho_t {s : List Pt} {tn td e0 : Int} (htn : I64 tn) (htd : I64 td) (he0 : e0 ≠ 0) (ht : tE s tn td = e0) : HoErr 14 1000000 lastC s tn td e0 := by
  rcases Ho8_any htn htd 1000000 (l := lastC) (by decide) s with ⟨e, _, h, _, h1 | h1 | h1⟩ | ⟨_, h1, _⟩
  · exact (h1.1 V8.last).elim
  · rw [h1.2.2, ht] at h; exact h
  · exact (he0 (ht.symm.trans h1.2.1)).elim
  · exact (he0 (ht.symm.trans h1)).elim
theorem Ho_8 : HoErr 14 1000000 lastC oneP 0 2 8 := Ho_t ⟨by decide, by decide⟩ ⟨by decide, by decide⟩ (by decide) (by unfold tE; rw [if_pos (err_val.2 oneP_val), if_neg (by decide)])
theorem Ho_4 : HoErr 14 1000000 lastC zerosP 0 1 4 := by
  have e4 : errL zerosP = 4 := by unfold errL; rw [if_pos (by unfold zerosP; rw [List.length_replicate]; omega)]
  exact Ho_t ⟨by decide, by decide⟩ ⟨by decide, by decide⟩ (by decide) (by unfold tE; rw [if_neg (by rw [e4]; decide), e4])

theorem k_0 : ¬ V8 201 (fullC 200 ++ [Pt.mk 200 1 2]) := fun h => by
  have := h.len
  rw [List.length_append, fullC_len] at this
  simp at this
theorem k_0n : (fullC 200 ++ [Pt.mk 200 1 2]).length ≤ 210 := by rw [List.length_append, fullC_len]; simp
theorem k_1 : ¬ V8 (-1) [] := fun h => by have := h.nx; omega
theorem k_2 : ¬ V8 1000001 [] := fun h => by have := h.nx; omega
theorem k_3 : ¬ V8 1 [Pt.mk 1 1 2] := fun h => by have := h.hi _ (by simp : Pt.mk 1 1 2 ∈ [Pt.mk 1 1 2]); simp at this
theorem k_4 : ¬ V8 1 [Pt.mk (-1) 1 2] := fun h => by have := h.lo _ (by simp : Pt.mk (-1) 1 2 ∈ [Pt.mk (-1) 1 2]); simp at this
theorem k_5 : ¬ V8 3 [Pt.mk 2 1 2, Pt.mk 1 2 1] := fun h => by have := h.up 0 _ _ rfl rfl; simp at this
theorem k_6 : ¬ V8 3 [Pt.mk 1 1 2, Pt.mk 2 1 2] := fun h => h.dis 0 1 _ _ (by omega) rfl rfl ⟨rfl, rfl⟩
theorem k_7 : ¬ V8 1 [Pt.mk 0 3 3] := fun h => absurd (h.ok _ (by simp : Pt.mk 0 3 3 ∈ [Pt.mk 0 3 3])) (by decide)
theorem k_8 : ¬ V8 1 [Pt.mk 0 (-1) 3] := fun h => absurd (h.ok _ (by simp : Pt.mk 0 (-1) 3 ∈ [Pt.mk 0 (-1) 3])) (by decide)
theorem k_9 : ¬ V8 1 [Pt.mk 0 1 65536] := fun h => absurd (h.ok _ (by simp : Pt.mk 0 1 65536 ∈ [Pt.mk 0 1 65536])) (by decide)
theorem new_f8 : Pure Try.prog 15 #[] (.agg #[.slice none 0 0]) := pure_run (args := []) 200 [] (And.intro rfl True.intro) (by kernel_rfl)
theorem names8_any : FnL Try.prog 3 0 [] [] (.pv (.bool true)) 0 [] := by
  refine n8_path (l := fullC 200) (g := sel (names 65535) (fullC 200)) (r0 := ?_) (htw := Twin8_any 200 (by rw [fullC_len]; omega)) (hm := by rw [fullC_len]; omega) (r1 := ?_)
    (a1 := Add_55) (a2 := Add_199) (a3 := Add_12) (a4 := kni1 (vs := [certV 1 2]) Add_worn) (a5 := kni4 (vs := [certV 1 2]) (m := lastC) Add_last) (b1 := Rem_200) (b2 := Get_m1) (b3 := Of_m5) (hat := at8_pure) (d1 := Ho_6) (d2 := Ho_8) (d3 := Ho_4)
    (b4 := Of_yes V8.full 65535) (hg := by rw [sel_all]; decide) (hal := Alive8)
  · exact RunsL.rounds (fun k => [(1, .pp 0 0), (2, .pp 1 0), (3, .pv (.int .i64 (k : Int)))]) (fun k => [(0, 0, .pv (.int .i64 1)), (0, 1, .pv (.int .i64 2)), (1, 0, .pv (.int .i64 0)), (1, 1, .ls 2 (fullC k).length), (2, 0, rowC (fullC k))]) 200 0 (Nat.zero_add _)
      (fun k _ hk r => by
        rw [fullC_succ] at r
        exact n8_next (dt (by omega)) (by rw [fullC_len]; omega) (i64_succ (by omega)) r)
      (n8_end (df (by omega)))
  · exact n8_0 (Add_bad k_0n k_0 1 2) (Rem_bad k_0n k_0 9) (Get_bad k_0n k_0 9) (Of_bad k_0n k_0 9) new_f8 (kni3 (vs := [ratioV 0 0]) (Ho_bad k_0n k_0)) (Ck_bad k_0) <|
      n8_1 (kni1 (vs := [certV 1 2]) (Add_bad (by simp) k_1 1 2)) (kni1 (vs := [.int .i64 9]) (Rem_bad (by simp) k_1 9)) (kni1 (vs := [.int .i64 9]) (Get_bad (by simp) k_1 9)) (kni1 (vs := [.int .i64 9]) (Of_bad (by simp) k_1 9)) new_f8 (kni2 (vs := [ratioV 0 0]) (Ho_bad (by simp) k_1)) (kni1 (vs := []) (Ck_bad k_1)) <|
      n8_2 (kni1 (vs := [certV 1 2]) (Add_bad (by simp) k_2 1 2)) (kni1 (vs := [.int .i64 9]) (Rem_bad (by simp) k_2 9)) (kni1 (vs := [.int .i64 9]) (Get_bad (by simp) k_2 9)) (kni1 (vs := [.int .i64 9]) (Of_bad (by simp) k_2 9)) new_f8 (kni2 (vs := [ratioV 0 0]) (Ho_bad (by simp) k_2)) (kni1 (vs := []) (Ck_bad k_2)) <|
      n8_3 (Add_bad (by simp) k_3 1 2) (Rem_bad (by simp) k_3 9) (Get_bad (by simp) k_3 9) (Of_bad (by simp) k_3 9) new_f8 (kni3 (vs := [ratioV 0 0]) (Ho_bad (by simp) k_3)) (Ck_bad k_3) <|
      n8_4 (Add_bad (by simp) k_4 1 2) (Rem_bad (by simp) k_4 9) (Get_bad (by simp) k_4 9) (Of_bad (by simp) k_4 9) new_f8 (kni3 (vs := [ratioV 0 0]) (Ho_bad (by simp) k_4)) (Ck_bad k_4) <|
      n8_5 (Add_bad (by simp) k_5 1 2) (Rem_bad (by simp) k_5 9) (Get_bad (by simp) k_5 9) (Of_bad (by simp) k_5 9) new_f8 (kni3 (vs := [ratioV 0 0]) (Ho_bad (by simp) k_5)) (Ck_bad k_5) <|
      n8_6 (Add_bad (by simp) k_6 1 2) (Rem_bad (by simp) k_6 9) (Get_bad (by simp) k_6 9) (Of_bad (by simp) k_6 9) new_f8 (kni3 (vs := [ratioV 0 0]) (Ho_bad (by simp) k_6)) (Ck_bad k_6) <|
      n8_7 (Add_bad (by simp) k_7 1 2) (Rem_bad (by simp) k_7 9) (Get_bad (by simp) k_7 9) (Of_bad (by simp) k_7 9) new_f8 (kni3 (vs := [ratioV 0 0]) (Ho_bad (by simp) k_7)) (Ck_bad k_7) <|
      n8_8 (Add_bad (by simp) k_8 1 2) (Rem_bad (by simp) k_8 9) (Get_bad (by simp) k_8 9) (Of_bad (by simp) k_8 9) new_f8 (kni3 (vs := [ratioV 0 0]) (Ho_bad (by simp) k_8)) (Ck_bad k_8) <|
      n8_9 (Add_bad (by simp) k_9 1 2) (Rem_bad (by simp) k_9 9) (Get_bad (by simp) k_9 9) (Of_bad (by simp) k_9 9) new_f8 (kni3 (vs := [ratioV 0 0]) (Ho_bad (by simp) k_9)) (Ck_bad k_9) <|
      n8_stop
theorem names8_walk : Pure Try.prog 3 #[] (.bool true) := pure_of_fnl names8_any
end Go.Proofs.Ytjjmnoiffpnphaa
