/-
  What Leader, Order and Rank of package field and of the reference return, but for the sort. Conditions: none.
-/
import Derived.Test.YtgpbofinbpcceaaFr
import Derived.Test.YtgpbofinbpcceaaFi
import Derived.Test.YtgpbofinbpcceaaFa
import Derived.Test.YtgpbofinbpcceaaFe
import Derived.Test.YtgpbofinbpcceaaCon
import Derived.Test.YtgpbofinbpcceaaFn
namespace Go.Proofs.Ytgpbofinbpcceaa
open Go.RowKit
/-- A valid time. -/
structure Tm (tn td : Int) : Prop where
  hn : I64 tn
  hd : I64 td
  ok : okB tn td = true
noncomputable def tE (l : List Pt) (tn td : Int) : Int := if errL l = 0 then (if okB tn td = true then 0 else 8) else errL l
theorem CWT_any {tn td : Int} (hn : I64 tn) (hd : I64 td) (l : List Pt) : FnL Try.prog 46 1 [fldS 0 l, .pv (ratioV tn td)] [(0, 0, rowP l)] (.pv (.int .i64 (tE l tn td))) 0 [] := by
  unfold tE
  by_cases h0 : errL l = 0
  · have c1 := PCheck_any l
    rw [h0] at c1
    rw [if_pos h0]
    by_cases hp : okB tn td = true
    · rw [if_pos hp]; exact cwt_ok c1 (Check_ok hn hd hp)
    · rw [if_neg hp]; exact cwt_ok c1 (Check_bad hn hd hp)
  · rw [if_neg h0]
    exact cwt_err (PCheck_any l) (by simp [h0])
theorem Timed_any {tn td : Int} (hn : I64 tn) (hd : I64 td) (l : List Pt) : FnL Try.prog 53 1 [fldS 0 l, .pv (ratioV tn td)] [(0, 0, rowP l)] (.pv (.int .i64 (tE l tn td))) 0 [] := by
  unfold tE
  by_cases h0 : errL l = 0
  · have c1 := RCheck_any l
    rw [h0] at c1
    rw [if_pos h0]
    by_cases hp : okB tn td = true
    · rw [if_pos hp]; exact tmd_ok c1 (RCheck_ok hn hd hp)
    · rw [if_neg hp]; exact tmd_ok c1 (RCheck_bad hn hd hp)
  · rw [if_neg h0]
    exact tmd_err (RCheck_any l) (by simp [h0])
theorem tE_ok {l : List Pt} {tn td : Int} (hv : Val l) (ht : okB tn td = true) : tE l tn td = 0 := by unfold tE; rw [if_pos (err_val.2 hv), if_pos ht]
theorem tE_val {l : List Pt} {tn td : Int} (h : tE l tn td = 0) : Val l ∧ okB tn td = true := by
  unfold tE at h
  by_cases h0 : errL l = 0
  · rw [if_pos h0] at h
    by_cases hp : okB tn td = true
    · exact ⟨err_val.1 h0, hp⟩
    · rw [if_neg hp] at h; cases h
  · rw [if_neg h0] at h; exact (h0 h).elim

section
variable {l : List Pt} {tn td : Int}
theorem lf_any (ht : Tm tn td) {p q : Pt} (hp : okPt p = true) (hq : okPt q = true) :
    FnL Try.prog 81 1 [.pv (ptV p), .pv (ptV q), .pp 0 0] [(0, 0, .pv (.int .i64 tn)), (0, 1, .pv (.int .i64 td))] (.pv (.int .i64 (cfL tn td p q))) 0 [] := by
  unfold cfL
  by_cases e : p.id = q.id
  · rw [if_pos e]; exact lf_eq (by simp [e])
  · rw [if_neg e]
    have a := Ahead_ok ht.hn ht.hd hp hq ht.ok e
    have hl : leadsB (p.a * td + p.b * tn) (q.a * td + q.b * tn) p.b q.b p.id q.id = ld tn td p q := rfl
    rw [hl] at a
    cases hc : ld tn td p q <;> rw [hc] at a
    · rw [if_neg (by decide)]; exact lf_gt (by simp [e]) a
    · rw [if_pos rfl]; exact lf_lt (by simp [e]) a

theorem PRank_loop (hv : Val l) (ht : Tm tn td) {a : Nat} {p : Pt} (ha : l[a]? = some p) : RunsL Try.prog 1 1 (loopOf Try.prog 16 0) 51 4 ([(3, .pp 1 0), (9, .pv (.int .i64 (a : Int))), (11, .pc 81 [.pp 3 0]), (12, .pv (.int .i64 ((0 : Nat) : Int))), (32, .ls 0 l.length), (33, .pv (.int .i64 (l.length : Int))), (34, .pv (.int .i64 ((0 : Nat) : Int)))]) ([(1, 0, .ls 0 l.length), (0, 0, rowP l), (3, 0, .pv (.int .i64 tn)), (3, 1, .pv (.int .i64 td))]) (.exit 0) ([(12, .pv (.int .i64 ((rk tn td l p : Nat) : Int)))]) ([]) := by
  have hn := hv.len
  have hp := List.mem_of_getElem? ha
  have h0 : rk tn td (l.take 0) p = 0 := rfl
  rw [← h0]
  refine RunsL.rounds (fun k => [(3, .pp 1 0), (9, .pv (.int .i64 (a : Int))), (11, .pc 81 [.pp 3 0]), (12, .pv (.int .i64 ((rk tn td (l.take k) p : Nat) : Int))), (32, .ls 0 l.length), (33, .pv (.int .i64 (l.length : Int))), (34, .pv (.int .i64 (k : Int)))])
    (fun _ => [(1, 0, .ls 0 l.length), (0, 0, rowP l), (3, 0, .pv (.int .i64 tn)), (3, 1, .pv (.int .i64 td))]) l.length 0 (Nat.zero_add _) (fun k _ hk r => ?_) ?_
  · obtain ⟨q, hq⟩ := get_some hk
    have hqm := List.mem_of_getElem? hq
    rw [rk_succ hq] at r
    have hle : rk tn td (l.take k) p ≤ 64 := by
      unfold rk
      exact Nat.le_trans List.countP_le_length (by rw [List.length_take]; omega)
    have hcf := cfL_neg (tn := tn) (td := td) (p := q) (q := p) (fun e => val_id hv hqm hp e)
    have hl := lf_any ht (hv.ok q hqm) (hv.ok p hp)
    cases hc : ld tn td q p <;> rw [hc] at hcf r
    · rw [if_neg (by decide), Nat.add_zero] at r
      exact rk_no hq (in_of hk) ha (in_of (get_lt ha)) (dt (by omega)) hl hcf (i64s hk hn) r
    · rw [if_pos rfl] at r
      exact rk_up hq (in_of hk) ha (in_of (get_lt ha)) (dt (by omega)) hl hcf (i64_succ (by omega)) (i64s hk hn) r
  · simp only [List.take_length]
    exact rk_end (df (by omega))

theorem ids_len (s : List Pt) : (s.map Pt.id).length = s.length := List.length_map _
theorem ord_step (s : List Pt) (n k : Nat) (p : Pt) (hk : s[k]? = some p) (hn : s.length = n) : ((s.take k).map Pt.id ++ List.replicate (n - k) 0).set k p.id = (s.take (k + 1)).map Pt.id ++ List.replicate (n - (k + 1)) 0 := by
  have hl := get_lt hk
  have e : ((s.take k).map Pt.id).length = k := by rw [List.length_map, List.length_take]; omega
  rw [List.set_append_right _ _ (by omega), e, Nat.sub_self, show n - k = (n - (k + 1)) + 1 by omega, List.replicate_succ, List.set_cons_zero, take_succ hk, List.map_append, List.append_assoc]
  rfl
theorem POrder_loop {s : List Pt} (hl : s.length = l.length) (hn : l.length ≤ 64) : RunsL Try.prog 1 1 (loopOf Try.prog 15 0) 41 6 ([(8, .ls 5 l.length), (27, .ls 3 l.length), (28, .pv (.int .i64 (l.length : Int))), (29, .pv (.int .i64 ((0 : Nat) : Int)))]) ([(3, 0, .row 27 3 l.length (ptsV s)), (5, 0, .row 3 1 l.length (idsV (List.replicate l.length (0 : Int))))]) (.exit 0) ([(8, .ls 5 l.length)]) ([(3, 0, .row 27 3 l.length (ptsV s)), (5, 0, .row 3 1 l.length (idsV (s.map Pt.id)))]) := by
  have h0 : List.replicate l.length (0 : Int) = (s.take 0).map Pt.id ++ List.replicate (l.length - 0) 0 := rfl
  rw [h0]
  refine RunsL.rounds (fun k => [(8, .ls 5 l.length), (27, .ls 3 l.length), (28, .pv (.int .i64 (l.length : Int))), (29, .pv (.int .i64 (k : Int)))])
    (fun k => [(3, 0, .row 27 3 l.length (ptsV s)), (5, 0, .row 3 1 l.length (idsV ((s.take k).map Pt.id ++ List.replicate (l.length - k) 0)))]) l.length 0 (Nat.zero_add _) (fun k _ hk r => ?_) ?_
  · obtain ⟨p, hp⟩ := get_some (l := s) (k := k) (by omega)
    rw [← ord_step s l.length k p hp hl] at r
    exact ord_next hp (in_of hk) (by simp; omega) (dt (by omega)) (i64s hk hn) r
  · have e1 : s.take l.length = s := List.take_of_length_le (by omega)
    simp only [e1, Nat.sub_self, List.replicate_zero, List.append_nil]
    exact ord_end (df (by omega))
end
end Go.Proofs.Ytgpbofinbpcceaa
