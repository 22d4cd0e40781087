/-
  Joined: Mr, Ms. Conditions: none.
-/
import Derived.Test.YtgpbofinbpcceaaMq
import Derived.Test.YtgpbofinbpcceaaFq
import Derived.Test.YtgpbofinbpcceaaW34
namespace Go.Proofs.Ytgpbofinbpcceaa
open Go.RowKit
noncomputable def nE (l : List Pt) (fn fd : Int) : Int := if errL l = 0 then (if okB fn fd = true then 0 else 8) else errL l
theorem RTimes1 {fn fd : Int} (h1 : I64 fn) (h2 : I64 fd) (l : List Pt) : FnL Try.prog 64 1 [fldS 0 l, .pv (ratioV fn fd), .pv (ratioV fn fd)] [(0, 0, rowP l)] (.pv (.int .i64 (nE l fn fd))) 0 [] := by
  unfold nE
  have c := RCheck_any l
  by_cases h0 : errL l = 0
  · rw [if_pos h0]
    rw [h0] at c
    by_cases g : okB fn fd = true
    · rw [if_pos g]
      exact ti_ok c (RBoth_ok h1 h2 h1 h2 g g) (RCompare_any h1 h2 h1 h2) (df (by rw [Int.sub_self]; decide))
    · rw [if_neg g]
      exact ti_bad c (RBoth_bad h1 h2 h1 h2 (fun h => g h.1))
  · rw [if_neg h0]
    exact ti_field c (by simpa using h0)
section
variable {fn fd : Int} (h1 : I64 fn) (h2 : I64 fd) {s : List Mt} {n : Nat} (hn : s.length = n) (hl : n ≤ 100000) (hs : ∀ m ∈ s, MtOk m)
include h1 h2 hn hl hs
theorem rn_step {k : Nat} {m : Mt} (hk : s[k]? = some m) (hf : kpA fn fd m = false) {e : Exit} {tm2 : List (Nat × SV)} {hp2 : List (Nat × Nat × SV)}
    (r : RunsL Try.prog 1 1 (loopOf Try.prog 33 0) 38 5 ([(3, .pp 2 0), (4, .pp 3 0), (7, .ls 4 n), (8, .pv (.int .i64 ((k + 1 : Nat) : Int)))]) ([(2, 0, .pv (.int .i64 fn)), (2, 1, .pv (.int .i64 fd)), (3, 0, .pv (.int .i64 0)), (3, 1, .pv (.int .i64 0)), (3, 2, .pv (.int .i64 0)), (3, 3, .pv (.int .i64 0)), (4, 0, .row 56 4 n (msV s))]) e tm2 hp2) :
    RunsL Try.prog 1 1 (loopOf Try.prog 33 0) 38 5 ([(3, .pp 2 0), (4, .pp 3 0), (7, .ls 4 n), (8, .pv (.int .i64 (k : Int)))]) ([(2, 0, .pv (.int .i64 fn)), (2, 1, .pv (.int .i64 fd)), (3, 0, .pv (.int .i64 0)), (3, 1, .pv (.int .i64 0)), (3, 2, .pv (.int .i64 0)), (3, 3, .pv (.int .i64 0)), (4, 0, .row 56 4 n (msV s))]) e tm2 hp2 := by
  have ok := hs m (List.mem_of_getElem? hk)
  have hlt := get_lt hk
  exact rn_next hk (in_of (by omega)) (dt (by omega)) (RCompare_any ok.n ok.d h1 h2) hf (by rw [wrap_i64_in (by omega) (by omega)]; rfl) r
end
theorem RNext_any {fn fd : Int} (h1 : I64 fn) (h2 : I64 fd) (l : List Pt) : FnL Try.prog 33 1 [fldS 0 l, .pv (ratioV fn fd)] [(0, 0, rowP l)] (.pv (nextV l fn fd)) 0 [] := by
  have ht := RTimes1 h1 h2 l
  unfold nE at ht
  unfold nextV
  by_cases h0 : errL l = 0
  · rw [if_pos h0] at ht ⊢
    have hv := err_val.1 h0
    by_cases g : okB fn fd = true
    · rw [if_pos g] at ht ⊢
      have hp := RPairs_any hv
      have hl := ms_len hv
      have hsl := srt_len l
      rcases first_nat (fun k => ∀ m, (srt l)[k]? = some m → kpA fn fd m = false) (srt l).length with hno | ⟨j, hj, hhit, hbef⟩
      · rw [best_none (fun x hx => by
          obtain ⟨k, hk, rfl⟩ := List.getElem_of_mem hx
          exact hno k hk _ (List.getElem?_eq_getElem hk))]
        refine rn_none ht hp (RunsL.rounds (fun k => [(3, .pp 2 0), (4, .pp 3 0), (7, .ls 4 (msOf l).length), (8, .pv (.int .i64 (k : Int)))]) (fun _ => [(2, 0, .pv (.int .i64 fn)), (2, 1, .pv (.int .i64 fd)), (3, 0, .pv (.int .i64 0)), (3, 1, .pv (.int .i64 0)), (3, 2, .pv (.int .i64 0)), (3, 3, .pv (.int .i64 0)), (4, 0, .row 56 4 (msOf l).length (msV (srt l)))]) (msOf l).length 0 (Nat.zero_add _) (fun k _ hk r => ?_) (rn_end (df (by omega))))
        obtain ⟨m, hm⟩ := get_some (l := srt l) (k := k) (by omega)
        exact rn_step h1 h2 hsl (by omega) (srt_ok hv) hm (hno k (by omega) m hm) r
      · simp only [Classical.not_forall, Bool.not_eq_false] at hhit
        obtain ⟨m, hm, hk⟩ := hhit
        rw [best_hit hv hm hk (fun i x hi hx => hbef i hi x hx)]
        have ok := srt_ok hv m (List.mem_of_getElem? hm)
        refine rn_some ht hp (RunsL.rounds (fun k => [(3, .pp 2 0), (4, .pp 3 0), (7, .ls 4 (msOf l).length), (8, .pv (.int .i64 (k : Int)))]) (fun _ => [(2, 0, .pv (.int .i64 fn)), (2, 1, .pv (.int .i64 fd)), (3, 0, .pv (.int .i64 0)), (3, 1, .pv (.int .i64 0)), (3, 2, .pv (.int .i64 0)), (3, 3, .pv (.int .i64 0)), (4, 0, .row 56 4 (msOf l).length (msV (srt l)))]) j 0 (Nat.zero_add _) (fun k _ hk r => ?_) (rn_hit hm (in_of (by omega)) (dt (by omega)) (RCompare_any ok.n ok.d h1 h2) hk))
        obtain ⟨x, hx⟩ := get_some (l := srt l) (k := k) (by omega)
        exact rn_step h1 h2 hsl (by omega) (srt_ok hv) hx (hbef k hk x hx) r
    · rw [if_neg g] at ht ⊢
      exact rn_err ht (by decide)
  · rw [if_neg h0] at ht ⊢
    exact rn_err ht (by simpa using h0)
theorem RLast_any (l : List Pt) : FnL Try.prog 34 1 [fldS 0 l] [(0, 0, rowP l)] (.pv (lastV l)) 0 [] := by
  have c := RCheck_any l
  unfold lastV
  by_cases h0 : errL l = 0
  · rw [if_pos h0]
    rw [h0] at c
    have hv := err_val.1 h0
    have hp := RPairs_any hv
    have hl := ms_len hv
    have hsl := srt_len l
    by_cases hz : (msOf l).length = 0
    · have : msOf l = [] := List.eq_nil_of_length_eq_zero hz
      rw [this]
      exact rl_none c hp (by rw [hz]; decide)
    · obtain ⟨k, hk⟩ : ∃ k, k + 1 = (srt l).length := ⟨(srt l).length - 1, by omega⟩
      obtain ⟨m, hm⟩ := get_some (l := srt l) (k := k) (by omega)
      obtain ⟨b, e, e1, e2⟩ := best_last hv hk hm
      rw [e]
      show FnL _ _ _ _ _ (.pv (.tuple #[ratioV b.n b.d, _])) _ _
      rw [e1, e2]
      exact rl_some c hp hm (in_of (by omega)) (by rw [beq_eq_false_iff_ne]; omega) (by rw [wrap_i64_in (by omega) (by omega), show ((msOf l).length : Int) - 1 = (k : Int) by omega])
  · rw [if_neg h0]
    exact rl_err c (by simpa using h0)
end Go.Proofs.Ytgpbofinbpcceaa

namespace Go.Proofs.Ytgpbofinbpcceaa
open Go.RowKit
set_option maxRecDepth 100000 in
theorem lg_t {l : List Pt} (hg : FnL Try.prog 52 1 [fldS 0 l] [(0, 0, rowP l)] (.pv (.bool true)) 0 []) :
    FnL Try.prog 32 1 [fldS 0 l] [(0, 0, rowP l)] (.pv (.bool true)) 0 [] :=
  fnl_run 300 [] [.f [0] [fldS 0 l] [(0, 0, rowP l)] (.pv (.bool true)) 0 []]
     True.intro (And.intro hg (And.intro (Eq.refl (List.map (SV.ren (renU [0] 2)) [fldS 0 l])) (And.intro (reflH (renU [0] 2) [(0, 0, rowP l)]) True.intro))) (by kernel_rfl)

set_option maxRecDepth 100000 in
theorem lg_64 {l : List Pt} (hg : FnL Try.prog 52 1 [fldS 0 l] [(0, 0, rowP l)] (.pv (.bool false)) 0 []) (hz : ((l.length : Int) == 64) = true) :
    FnL Try.prog 32 1 [fldS 0 l] [(0, 0, rowP l)] (.pv (.bool true)) 0 [] :=
  fnl_run 300 [] [.f [0] [fldS 0 l] [(0, 0, rowP l)] (.pv (.bool false)) 0 [], .t true]
     True.intro (And.intro hg (And.intro (Eq.refl (List.map (SV.ren (renU [0] 2)) [fldS 0 l])) (And.intro (reflH (renU [0] 2) [(0, 0, rowP l)]) (And.intro hz True.intro)))) (by kernel_rfl)

set_option maxRecDepth 100000 in
theorem lg_f {l : List Pt} (hg : FnL Try.prog 52 1 [fldS 0 l] [(0, 0, rowP l)] (.pv (.bool false)) 0 []) (hz : ((l.length : Int) == 64) = false) :
    FnL Try.prog 32 1 [fldS 0 l] [(0, 0, rowP l)] (.pv (.bool false)) 0 [] :=
  fnl_run 300 [] [.f [0] [fldS 0 l] [(0, 0, rowP l)] (.pv (.bool false)) 0 [], .t false]
     True.intro (And.intro hg (And.intro (Eq.refl (List.map (SV.ren (renU [0] 2)) [fldS 0 l])) (And.intro (reflH (renU [0] 2) [(0, 0, rowP l)]) (And.intro hz True.intro)))) (by kernel_rfl)

set_option maxRecDepth 100000 in
theorem mn_great {l : List Pt} {fn fd : Int} (hg : FnL Try.prog 32 1 [fldS 0 l] [(0, 0, rowP l)] (.pv (.bool true)) 0 []) :
    FnL Try.prog 6 1 [fldS 0 l, .pv (ratioV fn fd)] [(0, 0, rowP l)] (.pv (.bool true)) 0 [] :=
  fnl_run 300 [] [.f [0] [fldS 0 l] [(0, 0, rowP l)] (.pv (.bool true)) 0 []]
     True.intro (And.intro hg (And.intro (Eq.refl (List.map (SV.ren (renU [0] 3)) [fldS 0 l])) (And.intro (reflH (renU [0] 3) [(0, 0, rowP l)]) True.intro))) (by kernel_rfl)

set_option maxRecDepth 100000 in
theorem mn_all {l : List Pt} {fn fd a0 b0 c0 d0 : Int} {m : Mt} (hg : FnL Try.prog 32 1 [fldS 0 l] [(0, 0, rowP l)] (.pv (.bool false)) 0 []) (h1 : FnL Try.prog 29 1 [fldS 0 l, .pv (ratioV fn fd)] [(0, 0, rowP l)] (.pv (.tuple #[meetV m, .int .i64 a0])) 0 []) (h2 : FnL Try.prog 33 1 [fldS 0 l, .pv (ratioV fn fd)] [(0, 0, rowP l)] (.pv (.tuple #[meetV m, .int .i64 a0])) 0 []) (h3 : FnL Try.prog 30 1 [fldS 0 l] [(0, 0, rowP l)] (.pv (.tuple #[ratioV b0 c0, .int .i64 d0])) 0 []) (h4 : FnL Try.prog 34 1 [fldS 0 l] [(0, 0, rowP l)] (.pv (.tuple #[ratioV b0 c0, .int .i64 d0])) 0 []) (e1 : ((m.n == m.n && (m.d == m.d && true)) && (m.i == m.i && (m.j == m.j && true))) = true) (e2 : (a0 == a0) = true) (e3 : (b0 == b0 && (c0 == c0 && true)) = true) (e4 : (d0 == d0) = true) :
    FnL Try.prog 6 1 [fldS 0 l, .pv (ratioV fn fd)] [(0, 0, rowP l)] (.pv (.bool true)) 0 [] :=
  fnl_run 300 [] [.f [0] [fldS 0 l] [(0, 0, rowP l)] (.pv (.bool false)) 0 [], .f [0] [fldS 0 l, .pv (ratioV fn fd)] [(0, 0, rowP l)] (.pv (.tuple #[meetV m, .int .i64 a0])) 0 [], .f [0] [fldS 0 l, .pv (ratioV fn fd)] [(0, 0, rowP l)] (.pv (.tuple #[meetV m, .int .i64 a0])) 0 [], .f [0] [fldS 0 l] [(0, 0, rowP l)] (.pv (.tuple #[ratioV b0 c0, .int .i64 d0])) 0 [], .f [0] [fldS 0 l] [(0, 0, rowP l)] (.pv (.tuple #[ratioV b0 c0, .int .i64 d0])) 0 [], .t true, .t true, .t true, .t true]
     True.intro (And.intro hg (And.intro (Eq.refl (List.map (SV.ren (renU [0] 3)) [fldS 0 l])) (And.intro (reflH (renU [0] 3) [(0, 0, rowP l)]) (And.intro h1 (And.intro (Eq.refl (List.map (SV.ren (renU [0] 3)) [fldS 0 l, .pv (ratioV fn fd)])) (And.intro (reflH (renU [0] 3) [(0, 0, rowP l)]) (And.intro h2 (And.intro (Eq.refl (List.map (SV.ren (renU [0] 4)) [fldS 0 l, .pv (ratioV fn fd)])) (And.intro (reflH (renU [0] 4) [(0, 0, rowP l)]) (And.intro h3 (And.intro (Eq.refl (List.map (SV.ren (renU [0] 5)) [fldS 0 l])) (And.intro (reflH (renU [0] 5) [(0, 0, rowP l)]) (And.intro h4 (And.intro (Eq.refl (List.map (SV.ren (renU [0] 6)) [fldS 0 l])) (And.intro (reflH (renU [0] 6) [(0, 0, rowP l)]) (And.intro e1 (And.intro e2 (And.intro e3 (And.intro e4 True.intro))))))))))))))))))) (by kernel_rfl)

theorem LGreat_any (l : List Pt) : ∃ b, FnL Try.prog 32 1 [fldS 0 l] [(0, 0, rowP l)] (.pv (.bool b)) 0 [] := by
  rcases Great_any l with ⟨_, h⟩ | ⟨_, h⟩
  · exact ⟨true, lg_t h⟩
  · by_cases e : ((l.length : Int) == 64) = true
    · exact ⟨true, lg_64 h e⟩
    · exact ⟨false, lg_f h (by simpa using e)⟩
theorem nextV_head (l : List Pt) (fn fd : Int) : ∃ m e, nextV l fn fd = .tuple #[meetV m, .int .i64 e] := by
  unfold nextV
  split
  · split
    · split
      · exact ⟨_, _, rfl⟩
      · exact ⟨_, _, rfl⟩
    · exact ⟨_, _, rfl⟩
  · exact ⟨_, _, rfl⟩
theorem lastV_head (l : List Pt) : ∃ n d e, lastV l = .tuple #[ratioV n d, .int .i64 e] := by
  unfold lastV
  split
  · split
    · exact ⟨_, _, _, rfl⟩
    · exact ⟨_, _, _, rfl⟩
  · exact ⟨_, _, _, rfl⟩
theorem MeetNext_any {fn fd : Int} (h1 : I64 fn) (h2 : I64 fd) (l : List Pt) : FnL Try.prog 6 1 [fldS 0 l, .pv (ratioV fn fd)] [(0, 0, rowP l)] (.pv (.bool true)) 0 [] := by
  obtain ⟨b, hg⟩ := LGreat_any l
  cases b with
  | true => exact mn_great hg
  | false =>
    have n1 := Next_any h1 h2 l
    have n2 := RNext_any h1 h2 l
    have l1 := Last_any l
    have l2 := RLast_any l
    obtain ⟨m, e, he⟩ := nextV_head l fn fd
    obtain ⟨n, d, g, hg2⟩ := lastV_head l
    rw [he] at n1 n2
    rw [hg2] at l1 l2
    exact mn_all hg n1 n2 l1 l2 (by simp) (by simp) (by simp) (by simp)
theorem next_walk {u : Value} {l : List Pt} {W : World} (hr : Rd W 3 u l.length (ptsV l)) {tn td : Int} (hn : -9223372036854775808 ≤ tn ∧ tn ≤ 9223372036854775807) (hd : -9223372036854775808 ≤ td ∧ td ≤ 9223372036854775807) :
    Calls Try.prog 6 #[.agg #[u], ratioV tn td] W fun e W' => e = .returned (.bool true) ∧ Gr W W' :=
  fld_run (vs := [ratioV tn td]) (MeetNext_any hn hd l) hr
end Go.Proofs.Ytgpbofinbpcceaa
