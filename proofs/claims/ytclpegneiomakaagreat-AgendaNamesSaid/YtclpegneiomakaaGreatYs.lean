/-
  What the laws' filled returns; the chapter's examples hold. Conditions: none.
-/
import Derived.Test.YtclpegneiomakaaGreatW45
namespace Go.Proofs.YtclpegneiomakaaGreat
open Go.RowKit
def mkEv : Int → List P2 → List P2 → List Ev
  | i, r :: rs, h :: hs => ⟨r.a, r.b, i, h.a, h.b⟩ :: mkEv (i + 1) rs hs
  | _, _, _ => []
theorem mkEv_snoc : ∀ (i : Int) (rs hs : List P2) (r h : P2), rs.length = hs.length → mkEv i (rs ++ [r]) (hs ++ [h]) = mkEv i rs hs ++ [⟨r.a, r.b, i + (rs.length : Int), h.a, h.b⟩]
  | i, [], [], r, h, _ => by simp [mkEv]
  | i, [], _ :: _, r, h, e => by simp at e
  | i, _ :: _, [], r, h, e => by simp at e
  | i, a :: rs, c :: hs, r, h, e => by
    have := mkEv_snoc (i + 1) rs hs r h (by simpa using e)
    simp only [List.cons_append, mkEv, this, List.length_cons]
    congr 3
    congr 1
    omega
theorem mkEv_k : ∀ {i : Int} {rs hs : List P2} {x : Ev}, x ∈ mkEv i rs hs → i ≤ x.k ∧ x.k < i + (rs.length : Int)
  | i, [], _, x, h => by simp [mkEv] at h
  | i, _ :: _, [], x, h => by simp [mkEv] at h
  | i, r :: rs, c :: hs, x, h => by
    simp only [mkEv, List.mem_cons] at h
    rcases h with rfl | h
    · simp only [List.length_cons]; omega
    · have := mkEv_k h
      simp only [List.length_cons]; omega
structure FS (rs : List P2) (k : Nat) (u : List Int) (b : List Bool) (fr : List Int) (ev : List Ev) (wh : List Int) (hv : List P2) : Prop where
  va : VA u b fr ev wh
  len : hv.length = k
  ul : u.length = 50
  ub : ∀ y ∈ u, y ≤ (k : Int)
  perm : ev.Perm (mkEv 0 (rs.take k) hv)
  live : ∀ h ∈ hv, Live u b h.a h.b
def RsOk (rs : List P2) : Prop := ∀ r ∈ rs, (I64 r.a ∧ I64 r.b) ∧ okB r.a r.b = true
theorem FS.step {rs : List P2} {k : Nat} {u : List Int} {b : List Bool} {fr : List Int} {ev : List Ev} {wh : List Int} {hv : List P2} (h : FS rs k u b fr ev wh hv) (ho : RsOk rs) (hk : k < rs.length) (hl : rs.length ≤ 30) {ra : P2} (hr : rs[k]? = some ra) :
    ∃ u2 b2 f2 hi hw, takeZ u b fr = some (u2, b2, f2, hi, hw) ∧ cnE ev (k : Int) = 0 ∧ FS rs (k + 1) u2 b2 f2 (pushM ev wh ⟨ra.a, ra.b, (k : Int), hi, hw⟩).1 (pushM ev wh ⟨ra.a, ra.b, (k : Int), hi, hw⟩).2 (hv ++ [⟨hi, hw⟩]) := by
  obtain ⟨ht, h0⟩ := ho ra (List.mem_of_getElem? hr)
  have hcnt := h.va.vd.count
  have hel : ev.length = k := by
    have h1 := h.perm.length_eq
    have : ∀ (i : Int) (rs hs : List P2), rs.length = hs.length → (mkEv i rs hs).length = hs.length := by
      intro i rs hs
      induction rs generalizing i hs with
      | nil => intro e; cases hs with
        | nil => rfl
        | cons a r => simp at e
      | cons a r ih => intro e; cases hs with
        | nil => simp at e
        | cons c q => simp only [mkEv, List.length_cons]; rw [ih (i + 1) q (by simpa using e)]
    rw [this 0 (rs.take k) hv (by rw [List.length_take, h.len]; omega), h.len] at h1
    exact h1
  have hc2 := h.va.wf.cnt
  have hul := h.ul
  have hne : fr ≠ [] := fun e => by rw [e] at hcnt; simp at hcnt; omega
  have hlast := List.getLast?_eq_some_getLast hne
  generalize fr.getLast hne = hi at hlast
  have hin := h.va.vd.rng hi (by obtain ⟨e, _, _⟩ := last_split hlast; rw [e]; simp)
  have hy : u[hi.toNat]? = some (u[hi.toNat]'(by omega)) := List.getElem?_eq_getElem (by omega)
  generalize u[hi.toNat]'(by omega) = y at hy
  have hyb := h.ub y (List.mem_of_getElem? hy)
  have htk : takeZ u b fr = some (u.set hi.toNat (y + 1), b.set hi.toNat true, fr.dropLast, hi, y + 1) := by
    unfold takeZ
    simp only [hlast, hy]
    rw [if_neg (by omega)]
  have hcn : cnE ev (k : Int) = 0 := by
    unfold cnE
    rw [if_pos (by omega), if_neg]
    rintro ⟨m, hm, e⟩
    have := mkEv_k (h.perm.mem_iff.1 hm)
    rw [List.length_take] at this
    omega
  obtain ⟨v1, v2, v3, v4⟩ := h.va.push (z := (k : Int)) ht h0 hcn htk
  refine ⟨_, _, _, _, _, htk, hcn, v1, by simp [h.len], by rw [List.length_set]; exact hul, fun q hq => ?_, ?_, fun q hq => ?_⟩
  · rcases List.mem_or_eq_of_mem_set hq with hq | hq
    · have := h.ub q hq; omega
    · omega
  · rw [List.take_add_one, hr]
    have e := mkEv_snoc 0 (rs.take k) hv ra ⟨hi, y + 1⟩ (by rw [List.length_take, h.len]; omega)
    rw [show (some ra).toList = [ra] from rfl, e, List.length_take, show (0 : Int) + ((min k rs.length : Nat) : Int) = (k : Int) by omega]
    exact v2.trans (h.perm.append_right _)
  · rcases List.mem_append.1 hq with hq | hq
    · exact v4 _ _ (h.live q hq)
    · rw [List.mem_singleton] at hq
      subst hq
      exact v3
abbrev gflT (rs hv : List P2) (k : Nat) : List (Nat × SV) := [(0, .ls 0 rs.length), (2, .pp 1 0), (5, .pp 7 0), (7, .ls 8 hv.length), (8, .pv (.int .i64 (k : Int)))]
abbrev gflH (rs : List P2) (u : List Int) (b : List Bool) (fr : List Int) (ev : List Ev) (wh : List Int) (hv : List P2) : List (Nat × Nat × SV) := [(1, 0, .pv (.slice none 0 0)), (1, 1, .pv (.slice none 0 0)), (1, 2, .pv (.slice none 0 0)), (1, 3, .pv (.slice none 0 0)), (1, 4, .pv (.slice none 0 0)), (7, 0, .ls 2 u.length), (7, 1, .ls 3 b.length), (7, 2, .ls 4 fr.length), (7, 3, .ls 6 ev.length), (7, 4, .ls 5 wh.length), (0, 0, rowR rs), (2, 0, zrI u), (3, 0, zrB b), (4, 0, zrI fr), (6, 0, rowE ev), (5, 0, zrI wh), (8, 0, rowH hv)]
theorem fl_loop {rs : List P2} (ho : RsOk rs) (hl : rs.length ≤ 30) : ∀ (d k : Nat) {u : List Int} {b : List Bool} {fr : List Int} {ev : List Ev} {wh : List Int} {hv : List P2}, k + d = rs.length → FS rs k u b fr ev wh hv →
    ∃ u1 b1 f1 ev1 wh1 hv1, FS rs rs.length u1 b1 f1 ev1 wh1 hv1 ∧ RunsL Tryz.prog 1 1 (loopOf Tryz.prog 35 0) 46 9 (gflT rs hv k) (gflH rs u b fr ev wh hv) (.exit 0) [(2, .pp 1 0), (5, .pp 7 0), (7, .ls 8 hv1.length)] (gflH rs u1 b1 f1 ev1 wh1 hv1)
  | 0, k, u, b, fr, ev, wh, hv, hk, h => by
    have : k = rs.length := by omega
    subst this
    exact ⟨u, b, fr, ev, wh, hv, h, fl_end (decide_eq_false (by omega))⟩
  | d + 1, k, u, b, fr, ev, wh, hv, hk, h => by
    have hr : rs[k]? = some (rs[k]'(by omega)) := List.getElem?_eq_getElem (by omega)
    generalize rs[k]'(by omega) = ra at hr
    obtain ⟨ht, h0⟩ := ho ra (List.mem_of_getElem? hr)
    obtain ⟨u2, b2, f2, hi, hw, q1, q2, q3⟩ := h.step ho (by omega) hl hr
    obtain ⟨u1, b1, f1, ev1, wh1, hv1, r1, r2⟩ := fl_loop ho hl d (k + 1) (by omega) q3
    have := h.len
    exact ⟨u1, b1, f1, ev1, wh1, hv1, r1, fl_next (rb := ⟨hi, hw⟩) hr (by omega) (decide_eq_true (by omega)) (APush_some ht h0 h.va q2 q1) (by omega) (z_succ (by omega)) r2⟩
theorem VA.new {n : Nat} (h1 : 1 ≤ n) (h2 : n ≤ 200) : VA (List.replicate n 0) (List.replicate n false) (descZ n) [] (List.replicate n (-1)) := by
  refine VA.of (Vd.new h1 h2) (by simp) (fun j x hx => by simp at hx) (fun x hx => by simp at hx) (fun k hk => ?_) (fun k hk => ?_) (by simp [List.count_replicate]) (fun x hx => by simp at hx) (by simp) (fun k _ x y hx => by simp at hx)
  · have := List.eq_of_mem_replicate (List.mem_of_getElem? hk)
    cases this
  · have := (List.getElem?_eq_some_iff.1 hk).1
    simp at this
    simp [this]
theorem Filled_any {rs : List P2} (ho : RsOk rs) (hl : rs.length ≤ 30) : ∃ u b fr ev wh hv, FS rs rs.length u b fr ev wh hv ∧ FnL Tryz.prog 35 1 [.ls 0 rs.length] [(0, 0, rowR rs)]
    (.tu [.ag [.ls 1 u.length, .ls 2 b.length, .ls 3 fr.length, .ls 4 ev.length, .ls 5 wh.length], .one (.ls 6 hv.length), .one (.pv (.bool true))]) 6 [(1, 0, zrI u), (2, 0, zrB b), (3, 0, zrI fr), (4, 0, rowE ev), (5, 0, zrI wh), (6, 0, rowH hv)] := by
  have hs : FS rs 0 (List.replicate 50 0) (List.replicate 50 false) (descZ 50) [] (List.replicate 50 (-1)) [] :=
    ⟨VA.new (by decide) (by decide), rfl, by simp, fun y hy => by have := List.eq_of_mem_replicate hy; omega, by simp [mkEv], fun h hh => by simp at hh⟩
  obtain ⟨u1, b1, f1, ev1, wh1, hv1, r1, r2⟩ := fl_loop ho hl rs.length 0 (by omega) hs
  refine ⟨u1, b1, f1, ev1, wh1, hv1, r1, fl_path ?_ r2⟩
  have := ANew_ok (n := 50) (by decide) (by decide)
  simp only [zrI, zrB, List.length_replicate, descZ_length]
  exact this
theorem sorted_uniq : ∀ {l m : List Ev}, l.Perm m → l.Pairwise (fun x y => ltE x y = true) → m.Pairwise (fun x y => ltE x y = true) → l = m
  | [], m, h, _, _ => (List.Perm.nil_eq h)
  | x :: l, [], h, _, _ => by have := h.length_eq; simp at this
  | x :: l, y :: m, h, hl, hm => by
    obtain ⟨a1, a2⟩ := List.pairwise_cons.1 hl
    obtain ⟨c1, c2⟩ := List.pairwise_cons.1 hm
    have hxy : x = y := by
      rcases List.mem_cons.1 (h.mem_iff.1 List.mem_cons_self) with e | e
      · exact e
      · rcases List.mem_cons.1 (h.mem_iff.2 List.mem_cons_self) with e2 | e2
        · exact e2.symm
        · have g1 := ltE_asym (a1 y e2)
          rw [c1 x e] at g1
          cases g1
    subst hxy
    rw [sorted_uniq h.cons_inv a2 c2]
theorem set_perm : ∀ {l : List Ev} {j : Nat} {x : Ev}, l[j]? = some x → ∃ r, l.Perm (x :: r) ∧ ∀ y, (l.set j y).Perm (y :: r)
  | [], j, x, h => by simp at h
  | a :: l, 0, x, h => by
    simp at h
    subst h
    exact ⟨l, List.Perm.refl _, fun y => List.Perm.refl _⟩
  | a :: l, j + 1, x, h => by
    obtain ⟨r, h1, h2⟩ := set_perm (l := l) (j := j) (by simpa using h)
    exact ⟨a :: r, (h1.cons a).trans (List.Perm.swap _ _ _), fun y => ((h2 y).cons a).trans (List.Perm.swap _ _ _)⟩
theorem Alive7 : FnL Tryz.prog 21 0 [] [] (.pv (.bool true)) 0 [] := by
  have ho : RsOk rs4 := by
    intro r hr
    simp only [rs4, List.mem_cons, List.not_mem_nil, or_false] at hr
    rcases hr with rfl | rfl | rfl | rfl <;> exact ⟨⟨⟨by decide, by decide⟩, ⟨by decide, by decide⟩⟩, by decide⟩
  obtain ⟨u, b, fr, ev, wh, hv, hs, hf⟩ := Filled_any ho (by decide)
  have hl4 : hv.length = 4 := hs.len
  match hv, hl4, hs, hf with
  | [h0, h1, h2, h3], _, hs, hf =>
  have hp : ev.Perm [⟨5, 1, 0, h0.a, h0.b⟩, ⟨3, 1, 1, h1.a, h1.b⟩, ⟨4, 1, 2, h2.a, h2.b⟩, ⟨3, 1, 3, h3.a, h3.b⟩] := hs.perm
  have hel : ev.length = 4 := hp.length_eq
  have hlv := hs.live h0 (by simp)
  have h4 : I64 7 ∧ I64 2 := ⟨⟨by decide, by decide⟩, ⟨by decide, by decide⟩⟩
  have h5 : okB 7 2 = true := by decide
  obtain ⟨j, x, f1, f2, f3, f4⟩ := hs.va.find hlv
  have hm0 : (⟨5, 1, 0, h0.a, h0.b⟩ : Ev) ∈ ev := hp.mem_iff.2 (by simp)
  obtain ⟨j', hj'⟩ := List.mem_iff_getElem?.1 hm0
  have ej := hs.va.con.inj hj' f2 f3.symm
  subst ej
  have ex : x = ⟨5, 1, 0, h0.a, h0.b⟩ := Option.some.inj (f2.symm.trans hj')
  subst ex
  obtain ⟨v1, v2⟩ := hs.va.rekey h4 h5 f2
  have hrk := ARekey_some (hi := h0.a) (hw := h0.b) h4 h5 hs.va hlv f1 f2
  generalize hR : rekeyM ev wh j' ⟨5, 1, 0, h0.a, h0.b⟩ 7 2 = R at *
  obtain ⟨ev3, wh3⟩ := R
  have hp3 : ev3.Perm [⟨7, 2, 0, h0.a, h0.b⟩, ⟨3, 1, 1, h1.a, h1.b⟩, ⟨4, 1, 2, h2.a, h2.b⟩, ⟨3, 1, 3, h3.a, h3.b⟩] := by
    obtain ⟨r, s1, s2⟩ := set_perm f2
    exact v2.trans ((s2 _).trans (List.Perm.cons _ (s1.symm.trans hp).cons_inv))
  have hel3 : ev3.length = 4 := hp3.length_eq
  obtain ⟨z1, z2⟩ := emptyM_spec 4 hs.va hel
  obtain ⟨y1, y2⟩ := emptyM_spec 4 v1 hel3
  have hz : emptyM 4 ev wh = [⟨3, 1, 1, h1.a, h1.b⟩, ⟨3, 1, 3, h3.a, h3.b⟩, ⟨4, 1, 2, h2.a, h2.b⟩, ⟨5, 1, 0, h0.a, h0.b⟩] := by
    refine sorted_uniq (z1.trans (hp.trans ?_)) z2 ?_
    · refine ((List.Perm.swap _ _ _).trans (List.Perm.cons _ ?_))
      refine ((List.perm_append_comm (l₁ := [_, _]) (l₂ := [_])).trans ?_)
      exact List.Perm.cons _ (List.Perm.swap _ _ _)
    · simp only [List.pairwise_cons, List.mem_cons, List.not_mem_nil, or_false, forall_eq_or_imp, forall_eq, List.Pairwise.nil, and_true, false_implies, implies_true]
      exact ⟨⟨rfl, rfl, rfl⟩, ⟨rfl, rfl⟩, rfl⟩
  have hy : emptyM 4 ev3 wh3 = [⟨3, 1, 1, h1.a, h1.b⟩, ⟨3, 1, 3, h3.a, h3.b⟩, ⟨7, 2, 0, h0.a, h0.b⟩, ⟨4, 1, 2, h2.a, h2.b⟩] := by
    refine sorted_uniq (y1.trans (hp3.trans ?_)) y2 ?_
    · refine ((List.Perm.swap _ _ _).trans (List.Perm.cons _ ?_))
      exact List.perm_append_comm (l₁ := [_, _]) (l₂ := [_])
    · simp only [List.pairwise_cons, List.mem_cons, List.not_mem_nil, or_false, forall_eq_or_imp, forall_eq, List.Pairwise.nil, and_true, false_implies, implies_true]
      exact ⟨⟨rfl, rfl, rfl⟩, ⟨rfl, rfl⟩, rfl⟩
  have e1 := Emptied_any hs.va
  have e2 := Emptied_any v1
  rw [hel, hz] at e1
  rw [hel3, hy] at e2
  have p1 := pp_four (zs := [⟨3, 1, 1, h1.a, h1.b⟩, ⟨3, 1, 3, h3.a, h3.b⟩, ⟨4, 1, 2, h2.a, h2.b⟩, ⟨5, 1, 0, h0.a, h0.b⟩]) (y0 := 1) (y1 := 3) (y2 := 2) (y3 := 0) rfl (by decide) rfl rfl (by decide) rfl rfl (by decide) rfl rfl (by decide) rfl
  have p2 := pp_four (zs := [⟨3, 1, 1, h1.a, h1.b⟩, ⟨3, 1, 3, h3.a, h3.b⟩, ⟨7, 2, 0, h0.a, h0.b⟩, ⟨4, 1, 2, h2.a, h2.b⟩]) (y0 := 1) (y1 := 3) (y2 := 0) (y3 := 2) rfl (by decide) rfl rfl (by decide) rfl rfl (by decide) rfl rfl (by decide) rfl
  exact al_path hf rfl e1 rfl ⟨by simp, by simp⟩ hrk e2 p1 p2
end Go.Proofs.YtclpegneiomakaaGreat
