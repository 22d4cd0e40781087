/-
  What Leader, Order and Rank of package field and of the reference return, but for the sort. Conditions: none.
-/
import Derived.Test.YtomnmoinahhdmaaW33
import Derived.Test.YtomnmoinahhdmaaW30
import Derived.Test.YtomnmoinahhdmaaW29
import Derived.Test.YtomnmoinahhdmaaW23
namespace Go.Proofs.Ytomnmoinahhdmaa
open Go.RowKit
/-- A valid time. -/
structure Tm (tn td : Int) : Prop where
  hn : I64 tn
  hd : I64 td
  ok : okB tn td = true
noncomputable def tE (l : List Pt) (tn td : Int) : Int := if errL l = 0 then (if okB tn td = true then 0 else 8) else errL l
theorem CWT_any {tn td : Int} (hn : I64 tn) (hd : I64 td) (l : List Pt) : FnL Try.prog 83 1 [fldS 0 l, .pv (ratioV tn td)] [(0, 0, rowP l)] (.pv (.int .i64 (tE l tn td))) 0 [] := by
  unfold tE
  by_cases h0 : errL l = 0
  · have c1 := PCheck_any l
    rw [h0] at c1
    rw [if_pos h0]
    by_cases hp : okB tn td = true
    · rw [if_pos hp]; exact cwt_ok c1 (Check_ok hn hd hp)
    · rw [if_neg hp]; exact cwt_ok c1 (Check_bad hn hd hp)
  · rw [if_neg h0]
    exact cwt_err (PCheck_any l) (by simp [h0])
theorem Timed_any {tn td : Int} (hn : I64 tn) (hd : I64 td) (l : List Pt) : FnL Try.prog 81 1 [fldS 0 l, .pv (ratioV tn td)] [(0, 0, rowP l)] (.pv (.int .i64 (tE l tn td))) 0 [] := by
  unfold tE
  by_cases h0 : errL l = 0
  · have c1 := RCheck_any l
    rw [h0] at c1
    rw [if_pos h0]
    by_cases hp : okB tn td = true
    · rw [if_pos hp]; exact tmd_ok c1 (RCheck_ok hn hd hp)
    · rw [if_neg hp]; exact tmd_ok c1 (RCheck_bad hn hd hp)
  · rw [if_neg h0]
    exact tmd_err (RCheck_any l) (by simp [h0])
theorem tE_ok {l : List Pt} {tn td : Int} (hv : Val l) (ht : okB tn td = true) : tE l tn td = 0 := by unfold tE; rw [if_pos (err_val.2 hv), if_pos ht]
theorem tE_val {l : List Pt} {tn td : Int} (h : tE l tn td = 0) : Val l ∧ okB tn td = true := by
  unfold tE at h
  by_cases h0 : errL l = 0
  · rw [if_pos h0] at h
    by_cases hp : okB tn td = true
    · exact ⟨err_val.1 h0, hp⟩
    · rw [if_neg hp] at h; cases h
  · rw [if_neg h0] at h; exact (h0 h).elim

section
variable {l : List Pt} {tn td : Int}
theorem lf_any (ht : Tm tn td) {p q : Pt} (hp : okPt p = true) (hq : okPt q = true) :
    FnL Try.prog 124 1 [.pv (ptV p), .pv (ptV q), .pp 0 0] [(0, 0, .pv (.int .i64 tn)), (0, 1, .pv (.int .i64 td))] (.pv (.int .i64 (cfL tn td p q))) 0 [] := by
  unfold cfL
  by_cases e : p.id = q.id
  · rw [if_pos e]; exact lf_eq (by simp [e])
  · rw [if_neg e]
    have a := Ahead_ok ht.hn ht.hd hp hq ht.ok e
    have hl : leadsB (p.a * td + p.b * tn) (q.a * td + q.b * tn) p.b q.b p.id q.id = ld tn td p q := rfl
    rw [hl] at a
    cases hc : ld tn td p q <;> rw [hc] at a
    · rw [if_neg (by decide)]; exact lf_gt (by simp [e]) a
    · rw [if_pos rfl]; exact lf_lt (by simp [e]) a

theorem Ranked_any (hv : Val l) (ht : Tm tn td) {p : Pt} (hp : p ∈ l) : FnL Try.prog 143 1 [fldS 0 l, .pv (ptV p), .pv (ratioV tn td)] [(0, 0, rowP l)] (.pv (.int .i64 ((rk tn td l p : Nat) : Int))) 0 [] := by
  have hn := hv.len
  refine ra_path ?_
  have h0 : rk tn td (l.take 0) p = 0 := rfl
  rw [← h0]
  refine RunsL.rounds (fun k => [(3, .pp 1 0), (4, .pp 2 0), (5, .pp 3 0), (7, .pv (.int .i64 ((rk tn td (l.take k) p : Nat) : Int))), (8, .pv (.int .i64 (k : Int)))])
    (fun _ => [(1, 0, .ls 0 l.length), (0, 0, rowP l), (2, 0, .pv (.int .i64 p.id)), (2, 1, .pv (.int .i64 p.a)), (2, 2, .pv (.int .i64 p.b)), (3, 0, .pv (.int .i64 tn)), (3, 1, .pv (.int .i64 td))]) l.length 0 (Nat.zero_add _) (fun k _ hk r => ?_) ?_
  · obtain ⟨q, hq⟩ := get_some hk
    have hqm := List.mem_of_getElem? hq
    rw [rk_succ hq] at r
    have hle : rk tn td (l.take k) p ≤ 64 := by
      unfold rk
      exact Nat.le_trans List.countP_le_length (by rw [List.length_take]; omega)
    by_cases e : q.id = p.id
    · have : q = p := val_id hv hqm hp e
      subst this
      rw [ld_irr, if_neg (by decide), Nat.add_zero] at r
      exact ra_self hq (in_of hk) (dt (by omega)) (by simp) (i64s hk hn) r
    · have hl := Leads_ok ht.hn ht.hd (hv.ok q hqm) (hv.ok p hp)
      have he : leadsB (q.a * td + q.b * tn) (p.a * td + p.b * tn) q.b p.b q.id p.id = ld tn td q p := rfl
      rw [he] at hl
      cases hc : ld tn td q p <;> rw [hc] at hl r
      · rw [if_neg (by decide), Nat.add_zero] at r
        exact ra_no hq (in_of hk) (dt (by omega)) (by simp [e]) hl (i64s hk hn) r
      · rw [if_pos rfl] at r
        exact ra_up hq (in_of hk) (dt (by omega)) (by simp [e]) hl (i64_succ (by omega)) (i64s hk hn) r
  · simp only [List.take_length]
    exact ra_end (df (by omega))
theorem Min_loop (hv : Val l) (ht : Tm tn td) {s : List Pt} (hs : Srt l tn td s) {m : Pt} (hm : s[0]? = some m) : ∀ (d k : Nat) (c : Pt), k + d = l.length → c ∈ l → (∀ (j : Nat) (q : Pt), j < k → l[j]? = some q → ld tn td q c = false) →
    RunsL Try.prog 2 2 (loopOf Try.prog 84 0) 33 4 ([(0, .ls 0 l.length), (1, .pc 124 [.pp 1 0]), (4, .pp 2 0), (5, .pp 3 0), (6, .pv (.int .i64 (k : Int)))]) ([(0, 0, rowP l), (1, 0, .pv (.int .i64 tn)), (1, 1, .pv (.int .i64 td)), (3, 0, .pv (.int .i64 (c).id)), (3, 1, .pv (.int .i64 (c).a)), (3, 2, .pv (.int .i64 (c).b)), (2, 0, .pv (.int .i64 0)), (2, 1, .pv (.int .i64 0)), (2, 2, .pv (.int .i64 0))]) (.exit 0) ([(4, .pp 2 0), (5, .pp 3 0)]) ([(0, 0, rowP l), (1, 0, .pv (.int .i64 tn)), (1, 1, .pv (.int .i64 td)), (3, 0, .pv (.int .i64 (m).id)), (3, 1, .pv (.int .i64 (m).a)), (3, 2, .pv (.int .i64 (m).b)), (2, 0, .pv (.int .i64 0)), (2, 1, .pv (.int .i64 0)), (2, 2, .pv (.int .i64 0))])
  | 0, k, c, hd, hc, hf => by
    have h0 : rk tn td l c = 0 := by
      unfold rk
      rw [List.countP_eq_zero]
      intro q hq
      obtain ⟨j, hj, rfl⟩ := List.getElem_of_mem hq
      rw [hf j _ (by omega) (List.getElem?_eq_getElem hj)]; decide
    have := hs.at hc
    rw [h0, hm] at this
    cases this
    exact mf_end (df (by omega))
  | d + 1, k, c, hd, hc, hf => by
    obtain ⟨p, hp⟩ := get_some (l := l) (k := k) (by omega)
    have hpm := List.mem_of_getElem? hp
    have hcf := cfL_neg (tn := tn) (td := td) (p := p) (q := c) (fun e => val_id hv hpm hc e)
    have hl := lf_any ht (hv.ok p hpm) (hv.ok c hc)
    cases hx : ld tn td p c <;> rw [hx] at hcf
    · exact mf_no hp (in_of (get_lt hp)) (dt (by omega)) hl hcf (i64s (get_lt hp) hv.len) (Min_loop hv ht hs hm d (k + 1) c (by omega) hc fun j q hj hq => by
        by_cases e : j = k
        · subst e; rw [hp] at hq; cases hq; exact hx
        · exact hf j q (by omega) hq)
    · exact mf_up hp (in_of (get_lt hp)) (dt (by omega)) hl hcf (i64s (get_lt hp) hv.len) (Min_loop hv ht hs hm d (k + 1) p (by omega) hpm fun j q hj hq => by
        by_cases e : j = k
        · subst e; rw [hp] at hq; cases hq; exact ld_irr _
        · cases hh : ld tn td q p
          · rfl
          · have h1 := ld_trans hh hx
            have h2 := hf j q (by omega) hq
            rw [h1] at h2; cases h2)
theorem Min_any (hv : Val l) (ht : Tm tn td) {s : List Pt} (hs : Srt l tn td s) {m : Pt} (hm : s[0]? = some m) :
    FnL Try.prog 84 2 [.ls 0 l.length, .pc 124 [.pp 1 0]] [(0, 0, rowP l), (1, 0, .pv (.int .i64 tn)), (1, 1, .pv (.int .i64 td))] (.pv (ptV m)) 0 [] := by
  have hl : 0 < l.length := by have := get_lt hm; rw [hs.len] at this; exact this
  obtain ⟨p, hp⟩ := get_some hl
  exact mf_path hp (in_of (k := 0) hl) (df (by omega)) (Min_loop hv ht hs hm (l.length - 1) (0 + 1) p (by omega) (List.mem_of_getElem? hp) fun j q hj hq => by
    have : j = 0 := by omega
    subst this
    rw [hp] at hq; cases hq; exact ld_irr _)

theorem ids_len (s : List Pt) : (s.map Pt.id).length = s.length := List.length_map _
theorem Ordered_loop (hv : Val l) (ht : Tm tn td) {s : List Pt} (hs : Srt l tn td s) : ∀ (d k : Nat) (g : List Int), k + d = l.length → g.length = l.length → (∀ (i : Nat) (p : Pt), i < k → l[i]? = some p → g[rk tn td l p]? = some p.id) →
    RunsL Try.prog 1 1 (loopOf Try.prog 122 0) 35 4 ([(2, .pp 1 0), (3, .pp 2 0), (5, .ls 3 l.length), (6, .pv (.int .i64 (k : Int)))]) ([(1, 0, .ls 0 l.length), (0, 0, rowP l), (2, 0, .pv (.int .i64 tn)), (2, 1, .pv (.int .i64 td)), (3, 0, .row 3 1 l.length (idsV g))]) (.exit 0) ([(5, .ls 3 l.length)]) ([(1, 0, .ls 0 l.length), (0, 0, rowP l), (2, 0, .pv (.int .i64 tn)), (2, 1, .pv (.int .i64 td)), (3, 0, .row 3 1 l.length (idsV (s.map Pt.id)))])
  | 0, k, g, hd, hg, hf => by
    have : g = s.map Pt.id := by
      apply List.ext_getElem?
      intro i
      by_cases hi : i < s.length
      · obtain ⟨p, hp⟩ := get_some hi
        obtain ⟨j, hj, e⟩ := List.getElem_of_mem (hs.perm.mem_iff.1 (List.mem_of_getElem? hp))
        have := hf j p (by omega) (by rw [List.getElem?_eq_getElem hj, e])
        rw [hs.rank hp] at this
        rw [this, List.getElem?_map, hp]; rfl
      · have e1 : g[i]? = none := List.getElem?_eq_none (by have := hs.len; omega)
        have e2 : (s.map Pt.id)[i]? = none := List.getElem?_eq_none (by rw [ids_len]; omega)
        rw [e1, e2]
    subst this
    exact od_end (df (by omega))
  | d + 1, k, g, hd, hg, hf => by
    obtain ⟨p, hp⟩ := get_some (l := l) (k := k) (by omega)
    have hpm := List.mem_of_getElem? hp
    have hr := hs.lt hpm
    exact od_next hp (in_of (get_lt hp)) (by omega) (in_of hr) (dt (by omega)) (Ranked_any hv ht hpm) (i64s (get_lt hp) hv.len) (Ordered_loop hv ht hs d (k + 1) _ (by omega) (by rw [List.length_set]; exact hg) fun i q hi hq => by
      by_cases e : rk tn td l p = rk tn td l q
      · have h1 := hs.at hpm
        have h2 := hs.at (List.mem_of_getElem? hq)
        rw [← e, h1] at h2
        cases h2
        rw [List.getElem?_set_self (by omega)]
      · rw [List.getElem?_set_ne e]
        by_cases ek : i = k
        · subst ek; rw [hp] at hq; cases hq; exact (e rfl).elim
        · exact hf i q (by omega) hq)
theorem Ordered_any (hv : Val l) (ht : Tm tn td) {s : List Pt} (hs : Srt l tn td s) : FnL Try.prog 122 1 [fldS 0 l, .pv (ratioV tn td)] [(0, 0, rowP l)] (.ls 1 l.length) 1 [(1, 0, .row 3 1 l.length (idsV (s.map Pt.id)))] :=
  od_path (by omega) (by have := hv.len; omega) (Ordered_loop hv ht hs l.length 0 _ (Nat.zero_add _) List.length_replicate fun i p hi => by omega)

end
end Go.Proofs.Ytomnmoinahhdmaa
