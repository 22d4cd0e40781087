/-
  MeetFinds for any field. Conditions: none.
-/
import Derived.Test.YtomnmoinahhdmaaGreatW50
import Derived.Test.YtomnmoinahhdmaaGreatGm
import Derived.Test.YtomnmoinahhdmaaGreatW46
namespace Go.Proofs.YtomnmoinahhdmaaGreat
open Go.RowKit
theorem RBetween_any {fn fd tn td : Int} (h1 : I64 fn) (h2 : I64 fd) (h3 : I64 tn) (h4 : I64 td) {l : List Pt} (hv : Val l) : FnL Tryz.prog 41 1 [fldS 0 l, .pv (ratioV fn fd), .pv (ratioV tn td)] [(0, 0, rowP l)] (.ls 1 (btwS l fn fd tn td).length) 1 [(1, 0, rowM (btwS l fn fd tn td))] := by
  have hp := RPairs_any hv
  have hl := ms_len hv
  have hsl := srt_len l
  have hok := srt_ok hv
  unfold btwS
  generalize hs : srt l = s at *
  have len : ∀ k, (((s.take k).filter (kpA fn fd)).filter (kpB tn td)).length ≤ 4096 := fun k => by
    have e1 := List.length_filter_le (kpB tn td) ((s.take k).filter (kpA fn fd))
    have e2 := List.length_filter_le (kpA fn fd) (s.take k)
    rw [List.length_take] at e2
    omega
  refine bt_path hp (RunsL.rounds (N := (msOf l).length) (fun k => [(4, .pp 2 0), (5, .pp 3 0), (7, .ls 5 (((s.take k).filter (kpA fn fd)).filter (kpB tn td)).length), (8, .ls 4 (msOf l).length), (9, .pv (.int .i64 (k : Int)))])
    (fun k => [(2, 0, .pv (.int .i64 fn)), (2, 1, .pv (.int .i64 fd)), (3, 0, .pv (.int .i64 tn)), (3, 1, .pv (.int .i64 td)), (4, 0, .row 50 4 (msOf l).length (msV s)), (5, 0, rowM (((s.take k).filter (kpA fn fd)).filter (kpB tn td)))]) (msOf l).length 0 (Nat.zero_add _) (fun k _ hk r => ?_) ?_)
  · obtain ⟨m, hm⟩ := get_some (l := s) (k := k) (by omega)
    have ok := hok m (List.mem_of_getElem? hm)
    have c1 := RCompare_any ok.n ok.d h1 h2
    have c2 := RCompare_any ok.n ok.d h3 h4
    have hlk := len k
    have hs := i64_succ (k := k) (by omega)
    rw [take_next hm, List.filter_append, List.filter_append] at r
    cases ha : kpA fn fd m with
    | false =>
      rw [List.filter_cons_of_neg (by rw [ha]; decide), List.filter_nil, List.filter_nil, List.append_nil] at r
      exact bt_no1 hm (in_of hk) (dt (by omega)) c1 ha hs r
    | true =>
      rw [List.filter_cons_of_pos ha, List.filter_nil] at r
      cases hb : kpB tn td m with
      | false =>
        rw [List.filter_cons_of_neg (by rw [hb]; decide), List.filter_nil, List.append_nil] at r
        exact bt_no2 hm (in_of hk) (dt (by omega)) c1 ha c2 hb hs r
      | true =>
        rw [List.filter_cons_of_pos hb, List.filter_nil] at r
        exact bt_yes hm (in_of hk) (dt (by omega)) c1 ha c2 hb (by omega) hs r
  · have e : s.take (msOf l).length = s := by rw [← hsl]; exact List.take_length
    simp only [e]
    exact bt_end (df (by omega))
theorem RSwaps_loop {fn fd tn td : Int} (h1 : I64 fn) (h2 : I64 fd) (h3 : I64 tn) (h4 : I64 td) {l : List Pt} (hv : Val l) {i : Nat} {p : Pt} (hi : l[i]? = some p) :
    ∀ (d k n : Nat), k + d = l.length → n + d ≤ 100000 → RunsL Tryz.prog 1 1 (loopOf Tryz.prog 14 1) 59 4
      [(3, .pp 1 0), (4, .pp 2 0), (5, .pp 3 0), (9, .pv (.int .i64 (n : Int))), (10, .pv (.int .i64 (i : Int))), (11, .pv (.int .i64 (k : Int)))] [(1, 0, .ls 0 l.length), (2, 0, .pv (.int .i64 fn)), (2, 1, .pv (.int .i64 fd)), (3, 0, .pv (.int .i64 tn)), (3, 1, .pv (.int .i64 td)), (0, 0, rowP l)] (.exit 2)
      [(3, .pp 1 0), (4, .pp 2 0), (5, .pp 3 0), (9, .pv (.int .i64 ((n + (((l.drop k).map fun q => (p, q)).filter fun x => ldB fn fd x != ldB tn td x).length : Nat) : Int))), (10, .pv (.int .i64 (i : Int)))] [(1, 0, .ls 0 l.length), (2, 0, .pv (.int .i64 fn)), (2, 1, .pv (.int .i64 fd)), (3, 0, .pv (.int .i64 tn)), (3, 1, .pv (.int .i64 td)), (0, 0, rowP l)]
  | 0, k, n, hk, _ => by
    rw [List.drop_eq_nil_of_le (by omega)]
    exact sw4_end (df (by omega))
  | d + 1, k, n, hk, hn => by
    have h64 := hv.len
    have hil := get_lt hi
    obtain ⟨q, hq⟩ := get_some (l := l) (k := k) (by omega)
    have okp := hv.ok p (List.mem_of_getElem? hi)
    have okq := hv.ok q (List.mem_of_getElem? hq)
    have w1 := Leads_ok (n := fn) (d := fd) h1 h2 okp okq
    have w2 := Leads_ok (n := tn) (d := td) h3 h4 okp okq
    have hs := i64_succ (k := k) (by omega)
    have e : l.drop k = q :: l.drop (k + 1) := by
      obtain ⟨hl, rfl⟩ := List.getElem?_eq_some_iff.1 hq
      exact List.drop_eq_getElem_cons hl
    rw [e, List.map_cons]
    cases hw : (ldB fn fd (p, q) != ldB tn td (p, q)) with
    | false =>
      rw [List.filter_cons_of_neg (by rw [hw]; decide)]
      have hw' : (!(ldB fn fd (p, q) == ldB tn td (p, q))) = false := hw
      exact sw4_no hi hq (in_of hil) (in_of (by omega)) (dt (by omega)) w1 w2 hw' hs (RSwaps_loop h1 h2 h3 h4 hv hi d (k + 1) n (by omega) (by omega))
    | true =>
      rw [List.filter_cons_of_pos (p := fun x => ldB fn fd x != ldB tn td x) hw, List.length_cons]
      have hw' : (!(ldB fn fd (p, q) == ldB tn td (p, q))) = true := hw
      have r := RSwaps_loop h1 h2 h3 h4 hv hi d (k + 1) (n + 1) (by omega) (by omega)
      rw [show n + 1 + (((l.drop (k + 1)).map fun q => (p, q)).filter fun x => ldB fn fd x != ldB tn td x).length = n + ((((l.drop (k + 1)).map fun q => (p, q)).filter fun x => ldB fn fd x != ldB tn td x).length + 1) by omega] at r
      exact sw4_yes hi hq (in_of hil) (in_of (by omega)) (dt (by omega)) w1 w2 hw' (i64_succ (k := n) (by omega)) hs r
theorem RSwaps_out {fn fd tn td : Int} (h1 : I64 fn) (h2 : I64 fd) (h3 : I64 tn) (h4 : I64 td) {l : List Pt} (hv : Val l) :
    ∀ (d i n : Nat), i + d = l.length → n + d * 64 ≤ 50000 → RunsL Tryz.prog 1 1 (loopOf Tryz.prog 14 0) 59 4
      [(3, .pp 1 0), (4, .pp 2 0), (5, .pp 3 0), (9, .pv (.int .i64 (n : Int))), (10, .pv (.int .i64 (i : Int)))] [(1, 0, .ls 0 l.length), (2, 0, .pv (.int .i64 fn)), (2, 1, .pv (.int .i64 fd)), (3, 0, .pv (.int .i64 tn)), (3, 1, .pv (.int .i64 td)), (0, 0, rowP l)] (.exit 0)
      [(9, .pv (.int .i64 ((n + ((pairsOf (l.drop i)).filter fun x => ldB fn fd x != ldB tn td x).length : Nat) : Int)))] []
  | 0, i, n, hi, _ => by
    rw [List.drop_eq_nil_of_le (by omega)]
    exact so4_end (df (by omega))
  | d + 1, i, n, hi, hn => by
    have h64 := hv.len
    obtain ⟨p, hp⟩ := get_some (l := l) (k := i) (by omega)
    have hs := i64_succ (k := i) (by omega)
    have r1 := RSwaps_loop h1 h2 h3 h4 hv hp (l.length - (i + 1)) (i + 1) n (by omega) (by omega)
    have hb : (((l.drop (i + 1)).map fun q => (p, q)).filter fun x => ldB fn fd x != ldB tn td x).length ≤ 64 := by
      refine Nat.le_trans (List.length_filter_le _ _) ?_
      rw [List.length_map, List.length_drop]; omega
    have r2 := RSwaps_out h1 h2 h3 h4 hv d (i + 1) (n + (((l.drop (i + 1)).map fun q => (p, q)).filter fun x => ldB fn fd x != ldB tn td x).length) (by omega) (by omega)
    rw [pair_drop hp, List.filter_append, List.length_append, ← Nat.add_assoc]
    exact so4_next (dt (by omega)) hs r1 r2
theorem LGreat_two (l : List Pt) : FnL Tryz.prog 7 1 [fldS 0 l] [(0, 0, rowP l)] (.pv (.bool true)) 0 [] ∨ (l.length ≤ 70 ∧ FnL Tryz.prog 7 1 [fldS 0 l] [(0, 0, rowP l)] (.pv (.bool false)) 0 []) := by
  rcases Great_any l with ⟨_, h⟩ | ⟨hl, h⟩
  · exact Or.inl (lg_t h)
  · by_cases e : ((l.length : Int) == 64) = true
    · exact Or.inl (lg_64 h e)
    · exact Or.inr ⟨by omega, lg_f h (by simpa using e)⟩
theorem same4_nil : Pure Tryz.prog 15 #[.slice none 0 0, .slice none 0 0] (.bool true) :=
  pure_run (args := [.slice none 0 0, .slice none 0 0]) 200 [] (And.intro rfl True.intro) (by kernel_rfl)
theorem MeetFinds_any {fn fd tn td : Int} (h1 : I64 fn) (h2 : I64 fd) (h3 : I64 tn) (h4 : I64 td) (l : List Pt) : FnL Tryz.prog 3 1 [fldS 0 l, .pv (ratioV fn fd), .pv (ratioV tn td)] [(0, 0, rowP l)] (.pv (.bool true)) 0 [] := by
  rcases LGreat_two l with hg | ⟨h70, hg⟩
  · exact mf_great hg
  · have hlen : l.length ≤ 1000000 := by omega
    have hT := Twin_any hlen
    have ht := RTimes_any h1 h2 h3 h4 l
    have hC := Count_any h1 h2 h3 h4 l
    have hS := Swaps_any h1 h2 h3 h4 l
    unfold countV at hC
    unfold swapsV at hS
    by_cases h : mE l fn fd tn td = 0
    · obtain ⟨hv, g1, g2, hle⟩ := mE_ok h
      have h64 := hv.len
      rw [if_pos h] at hC hS
      have hA := All_ok h1 h2 h3 h4 l h
      rw [h] at ht
      have hB := RBetween_any h1 h2 h3 h4 hv
      have hpl := (btwS_perm l fn fd tn td).length_eq
      have hl2 := btwS_len hv fn fd tn td
      have hC2 := rc4_ok ht hB
      rw [hpl] at hC2
      have r0 := RSwaps_out h1 h2 h3 h4 hv l.length 0 0 (by omega) (by omega)
      rw [List.drop_zero, Nat.zero_add] at r0
      have hS2 := rs4_ok ht r0
      have hA2 := ra4_ok ht hB
      have hq := Same_lq (s := btwS l fn fd tn td) rfl (by omega)
      exact mf_ok hg hT hA hA2 hC hC2 hS hS2 hq (by simp) (by simp) (Same_ok hlen)
    · rw [if_neg h] at hC hS
      have e : (mE l fn fd tn td != 0) = true := by simpa using h
      exact mf_err hg hT (All_err h1 h2 h3 h4 l h) (ra4_err ht e) hC (rc4_err ht e) hS (rs4_err ht e) same4_nil (by simp) (Same_ok hlen)
theorem finds_walk {u : Value} {l : List Pt} {W : World} (hr : Rd W 3 u l.length (ptsV l)) {fn fd tn td : Int} (h1 : -9223372036854775808 ≤ fn ∧ fn ≤ 9223372036854775807) (h2 : -9223372036854775808 ≤ fd ∧ fd ≤ 9223372036854775807) (h5 : -9223372036854775808 ≤ tn ∧ tn ≤ 9223372036854775807) (h6 : -9223372036854775808 ≤ td ∧ td ≤ 9223372036854775807) :
    Calls Tryz.prog 3 #[.agg #[u], ratioV fn fd, ratioV tn td] W fun e W' => e = .returned (.bool true) ∧ Gr W W' :=
  fld_run (vs := [ratioV fn fd, ratioV tn td]) (MeetFinds_any h1 h2 h5 h6 l) hr
end Go.Proofs.YtomnmoinahhdmaaGreat
