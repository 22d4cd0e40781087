/-
  Joined: Ms, Mu, Mv, Mx. Conditions: none.
-/
import Derived.Test.YtomnmoinahhdmaaGreatMq
import Derived.Test.YtomnmoinahhdmaaGreatFq
import Derived.Test.YtomnmoinahhdmaaGreatW36
import Derived.Test.YtomnmoinahhdmaaGreatMh
namespace Go.Proofs.YtomnmoinahhdmaaGreat
open Go.RowKit
set_option maxRecDepth 100000 in
theorem lg_t {l : List Pt} (hg : FnL Tryz.prog 27 1 [fldS 0 l] [(0, 0, rowP l)] (.pv (.bool true)) 0 []) :
    FnL Tryz.prog 7 1 [fldS 0 l] [(0, 0, rowP l)] (.pv (.bool true)) 0 [] :=
  fnl_run 300 [] [.f [0] [fldS 0 l] [(0, 0, rowP l)] (.pv (.bool true)) 0 []]
     True.intro (And.intro hg (And.intro (Eq.refl (List.map (SV.ren (renU [0] 2)) [fldS 0 l])) (And.intro (reflH (renU [0] 2) [(0, 0, rowP l)]) True.intro))) (by kernel_rfl)

set_option maxRecDepth 100000 in
theorem lg_64 {l : List Pt} (hg : FnL Tryz.prog 27 1 [fldS 0 l] [(0, 0, rowP l)] (.pv (.bool false)) 0 []) (hz : ((l.length : Int) == 64) = true) :
    FnL Tryz.prog 7 1 [fldS 0 l] [(0, 0, rowP l)] (.pv (.bool true)) 0 [] :=
  fnl_run 300 [] [.f [0] [fldS 0 l] [(0, 0, rowP l)] (.pv (.bool false)) 0 [], .t true]
     True.intro (And.intro hg (And.intro (Eq.refl (List.map (SV.ren (renU [0] 2)) [fldS 0 l])) (And.intro (reflH (renU [0] 2) [(0, 0, rowP l)]) (And.intro hz True.intro)))) (by kernel_rfl)

set_option maxRecDepth 100000 in
theorem lg_f {l : List Pt} (hg : FnL Tryz.prog 27 1 [fldS 0 l] [(0, 0, rowP l)] (.pv (.bool false)) 0 []) (hz : ((l.length : Int) == 64) = false) :
    FnL Tryz.prog 7 1 [fldS 0 l] [(0, 0, rowP l)] (.pv (.bool false)) 0 [] :=
  fnl_run 300 [] [.f [0] [fldS 0 l] [(0, 0, rowP l)] (.pv (.bool false)) 0 [], .t false]
     True.intro (And.intro hg (And.intro (Eq.refl (List.map (SV.ren (renU [0] 2)) [fldS 0 l])) (And.intro (reflH (renU [0] 2) [(0, 0, rowP l)]) (And.intro hz True.intro)))) (by kernel_rfl)

theorem LGreat_any (l : List Pt) : ∃ b, FnL Tryz.prog 7 1 [fldS 0 l] [(0, 0, rowP l)] (.pv (.bool b)) 0 [] := by
  rcases Great_any l with ⟨_, h⟩ | ⟨_, h⟩
  · exact ⟨true, lg_t h⟩
  · by_cases e : ((l.length : Int) == 64) = true
    · exact ⟨true, lg_64 h e⟩
    · exact ⟨false, lg_f h (by simpa using e)⟩
end Go.Proofs.YtomnmoinahhdmaaGreat

namespace Go.Proofs.YtomnmoinahhdmaaGreat
open Go.RowKit
set_option maxRecDepth 100000 in
theorem ct_err {l : List Pt} {fn fd tn td er : Int} (hc : FnL Tryz.prog 37 1 [fldS 0 l, .pv (ratioV fn fd), .pv (ratioV tn td)] [(0, 0, rowP l)] (.pv (.int .i64 (er))) 0 []) (he : (er != 0) = true) :
    FnL Tryz.prog 11 1 [fldS 0 l, .pv (ratioV fn fd), .pv (ratioV tn td)] [(0, 0, rowP l)] (.pv (.tuple #[.int .i64 0, .int .i64 er])) 0 [] :=
  fnl_run 300 [] [.f [0] [fldS 0 l, .pv (ratioV fn fd), .pv (ratioV tn td)] [(0, 0, rowP l)] (.pv (.int .i64 (er))) 0 [], .t true]
     True.intro (And.intro hc (And.intro (Eq.refl (List.map (SV.ren (renU [0] 4)) [fldS 0 l, .pv (ratioV fn fd), .pv (ratioV tn td)])) (And.intro (reflH (renU [0] 4) [(0, 0, rowP l)]) (And.intro he True.intro)))) (by kernel_rfl)

set_option maxRecDepth 100000 in
theorem sw_err {l : List Pt} {fn fd tn td er : Int} (hc : FnL Tryz.prog 37 1 [fldS 0 l, .pv (ratioV fn fd), .pv (ratioV tn td)] [(0, 0, rowP l)] (.pv (.int .i64 (er))) 0 []) (he : (er != 0) = true) :
    FnL Tryz.prog 13 1 [fldS 0 l, .pv (ratioV fn fd), .pv (ratioV tn td)] [(0, 0, rowP l)] (.pv (.tuple #[.int .i64 0, .int .i64 er])) 0 [] :=
  fnl_run 300 [] [.f [0] [fldS 0 l, .pv (ratioV fn fd), .pv (ratioV tn td)] [(0, 0, rowP l)] (.pv (.int .i64 (er))) 0 [], .t true]
     True.intro (And.intro hc (And.intro (Eq.refl (List.map (SV.ren (renU [0] 4)) [fldS 0 l, .pv (ratioV fn fd), .pv (ratioV tn td)])) (And.intro (reflH (renU [0] 4) [(0, 0, rowP l)]) (And.intro he True.intro)))) (by kernel_rfl)

theorem mE_ok {l : List Pt} {fn fd tn td : Int} (h : mE l fn fd tn td = 0) : Val l ∧ okB fn fd = true ∧ okB tn td = true ∧ ¬ fn * td - tn * fd > 0 := by
  unfold mE at h
  split at h
  · rename_i h0
    split at h
    · rename_i g
      split at h
      · cases h
      · rename_i g3; exact ⟨err_val.1 h0, g.1, g.2, g3⟩
    · cases h
  · rename_i h0; exact (h0 h).elim
/-- Those between two times, pair by pair. -/
noncomputable abbrev btw (l : List Pt) (fn fd tn td : Int) : List Mt := ((msOf l).filter (kpA fn fd)).filter (kpB tn td)
noncomputable def countV (l : List Pt) (fn fd tn td : Int) : Value := if mE l fn fd tn td = 0 then .tuple #[.int .i64 ((btw l fn fd tn td).length : Int), .int .i64 0] else .tuple #[.int .i64 0, .int .i64 (mE l fn fd tn td)]
theorem Count_any {fn fd tn td : Int} (h1 : I64 fn) (h2 : I64 fd) (h3 : I64 tn) (h4 : I64 td) (l : List Pt) : FnL Tryz.prog 11 1 [fldS 0 l, .pv (ratioV fn fd), .pv (ratioV tn td)] [(0, 0, rowP l)] (.pv (countV l fn fd tn td)) 0 [] := by
  unfold countV
  have c := CB_any h1 h2 h3 h4 l
  by_cases h : mE l fn fd tn td = 0
  · rw [if_pos h]
    rw [h] at c
    obtain ⟨hv, g1, g2, _⟩ := mE_ok h
    have hlen : (((pairsOf l).filterMap fM).filter (kpA fn fd)).length ≤ 1000000 := Nat.le_trans (List.length_filter_le (kpA fn fd) (msOf l)) (Nat.le_trans (ms_len hv) (by decide))
    exact Count_ok (meets_val hv) ⟨h1, h2, g1⟩ ⟨h3, h4, g2⟩ hlen c
  · rw [if_neg h]; exact ct_err c (by simpa using h)
/-- Who of a pair leads at a time. -/
def ldB (n d : Int) (x : Pt × Pt) : Bool := leadsB (x.1.a * d + x.1.b * n) (x.2.a * d + x.2.b * n) x.1.b x.2.b x.1.id x.2.id
noncomputable def swapsV (l : List Pt) (fn fd tn td : Int) : Value := if mE l fn fd tn td = 0 then .tuple #[.int .i64 (((pairsOf l).filter fun x => ldB fn fd x != ldB tn td x).length : Int), .int .i64 0] else .tuple #[.int .i64 0, .int .i64 (mE l fn fd tn td)]
theorem Swaps_any {fn fd tn td : Int} (h1 : I64 fn) (h2 : I64 fd) (h3 : I64 tn) (h4 : I64 td) (l : List Pt) : FnL Tryz.prog 13 1 [fldS 0 l, .pv (ratioV fn fd), .pv (ratioV tn td)] [(0, 0, rowP l)] (.pv (swapsV l fn fd tn td)) 0 [] := by
  unfold swapsV
  have c := CB_any h1 h2 h3 h4 l
  by_cases h : mE l fn fd tn td = 0
  · rw [if_pos h]
    rw [h] at c
    obtain ⟨hv, g1, g2, _⟩ := mE_ok h
    have hlen := hv.len
    have hp : (pairsOf l).length ≤ 1000000 := Nat.le_trans (pairs_len l) (Nat.le_trans (Nat.mul_le_mul hlen hlen) (by decide))
    refine Swaps_ok (was := ldB fn fd) (is := ldB tn td) (by omega) hp (fun x hx => ?_) (fun x hx => ?_) c
    · exact Ahead_ok h1 h2 (hv.ok _ (pairs_mem hx).1) (hv.ok _ (pairs_mem hx).2) g1 (by have := pairs_lt hv.up hx; omega)
    · exact Ahead_ok h3 h4 (hv.ok _ (pairs_mem hx).1) (hv.ok _ (pairs_mem hx).2) g2 (by have := pairs_lt hv.up hx; omega)
  · rw [if_neg h]; exact sw_err c (by simpa using h)
end Go.Proofs.YtomnmoinahhdmaaGreat

namespace Go.Proofs.YtomnmoinahhdmaaGreat
open Go.RowKit
set_option maxRecDepth 100000 in
theorem ft_great {l : List Pt} {fn fd tn td : Int} (hg : FnL Tryz.prog 7 1 [fldS 0 l] [(0, 0, rowP l)] (.pv (.bool true)) 0 []) :
    FnL Tryz.prog 17 1 [fldS 0 l, .pv (ratioV fn fd), .pv (ratioV tn td)] [(0, 0, rowP l)] (.pv (.bool false)) 0 [] :=
  fnl_run 300 [] [.f [0] [fldS 0 l] [(0, 0, rowP l)] (.pv (.bool true)) 0 [], .k]
     True.intro (And.intro hg (And.intro (Eq.refl (List.map (SV.ren (renU [0] 4)) [fldS 0 l])) (And.intro (reflH (renU [0] 4) [(0, 0, rowP l)]) True.intro))) (by kernel_rfl)

set_option maxRecDepth 100000 in
theorem ft_yes {l : List Pt} {fn fd tn td er : Int} (hg : FnL Tryz.prog 7 1 [fldS 0 l] [(0, 0, rowP l)] (.pv (.bool false)) 0 []) (ht : FnL Tryz.prog 32 1 [fldS 0 l, .pv (ratioV fn fd), .pv (ratioV tn td)] [(0, 0, rowP l)] (.pv (.int .i64 (er))) 0 []) (he : (er == 0) = true) :
    FnL Tryz.prog 17 1 [fldS 0 l, .pv (ratioV fn fd), .pv (ratioV tn td)] [(0, 0, rowP l)] (.pv (.bool true)) 0 [] :=
  fnl_run 300 [] [.f [0] [fldS 0 l] [(0, 0, rowP l)] (.pv (.bool false)) 0 [], .k, .f [0] [fldS 0 l, .pv (ratioV fn fd), .pv (ratioV tn td)] [(0, 0, rowP l)] (.pv (.int .i64 (er))) 0 [], .t true]
     True.intro (And.intro hg (And.intro (Eq.refl (List.map (SV.ren (renU [0] 4)) [fldS 0 l])) (And.intro (reflH (renU [0] 4) [(0, 0, rowP l)]) (And.intro ht (And.intro (Eq.refl (List.map (SV.ren (renU [0] 4)) [fldS 0 l, .pv (ratioV fn fd), .pv (ratioV tn td)])) (And.intro (reflH (renU [0] 4) [(0, 0, rowP l)]) (And.intro he True.intro))))))) (by kernel_rfl)

set_option maxRecDepth 100000 in
theorem ft_no {l : List Pt} {fn fd tn td er : Int} (hg : FnL Tryz.prog 7 1 [fldS 0 l] [(0, 0, rowP l)] (.pv (.bool false)) 0 []) (ht : FnL Tryz.prog 32 1 [fldS 0 l, .pv (ratioV fn fd), .pv (ratioV tn td)] [(0, 0, rowP l)] (.pv (.int .i64 (er))) 0 []) (he : (er == 0) = false) :
    FnL Tryz.prog 17 1 [fldS 0 l, .pv (ratioV fn fd), .pv (ratioV tn td)] [(0, 0, rowP l)] (.pv (.bool false)) 0 [] :=
  fnl_run 300 [] [.f [0] [fldS 0 l] [(0, 0, rowP l)] (.pv (.bool false)) 0 [], .k, .f [0] [fldS 0 l, .pv (ratioV fn fd), .pv (ratioV tn td)] [(0, 0, rowP l)] (.pv (.int .i64 (er))) 0 [], .t false]
     True.intro (And.intro hg (And.intro (Eq.refl (List.map (SV.ren (renU [0] 4)) [fldS 0 l])) (And.intro (reflH (renU [0] 4) [(0, 0, rowP l)]) (And.intro ht (And.intro (Eq.refl (List.map (SV.ren (renU [0] 4)) [fldS 0 l, .pv (ratioV fn fd), .pv (ratioV tn td)])) (And.intro (reflH (renU [0] 4) [(0, 0, rowP l)]) (And.intro he True.intro))))))) (by kernel_rfl)

theorem RTimes_any {fn fd tn td : Int} (h1 : I64 fn) (h2 : I64 fd) (h3 : I64 tn) (h4 : I64 td) (l : List Pt) : FnL Tryz.prog 32 1 [fldS 0 l, .pv (ratioV fn fd), .pv (ratioV tn td)] [(0, 0, rowP l)] (.pv (.int .i64 (mE l fn fd tn td))) 0 [] := by
  unfold mE
  have c := RCheck_any l
  by_cases h0 : errL l = 0
  · rw [if_pos h0]
    rw [h0] at c
    by_cases g : okB fn fd = true ∧ okB tn td = true
    · rw [if_pos g]
      have k := RCompare_any h1 h2 h3 h4
      have b := RBoth_ok h1 h2 h3 h4 g.1 g.2
      by_cases g3 : fn * td - tn * fd > 0
      · rw [if_pos g3]; exact ti_arg c b k (dt (by rw [Int.sign_eq_one_of_pos g3]; decide))
      · rw [if_neg g3]
        refine ti_ok c b k (df ?_)
        rcases sg_cases (fn * td - tn * fd) with ⟨w, z⟩ | ⟨w, z⟩ | ⟨w, z⟩ <;> omega
    · rw [if_neg g]; exact ti_bad c (RBoth_bad h1 h2 h3 h4 g)
  · rw [if_neg h0]; exact ti_field c (by simpa using h0)
theorem Fit_any {fn fd tn td : Int} (h1 : I64 fn) (h2 : I64 fd) (h3 : I64 tn) (h4 : I64 td) (l : List Pt) : ∃ b, FnL Tryz.prog 17 1 [fldS 0 l, .pv (ratioV fn fd), .pv (ratioV tn td)] [(0, 0, rowP l)] (.pv (.bool b)) 0 [] ∧ (b = true → mE l fn fd tn td = 0) := by
  obtain ⟨b, hg⟩ := LGreat_any l
  cases b with
  | true => exact ⟨false, ft_great hg, fun h => by cases h⟩
  | false =>
    have t := RTimes_any h1 h2 h3 h4 l
    by_cases h : mE l fn fd tn td = 0
    · exact ⟨true, ft_yes hg t (by rw [h]; rfl), fun _ => h⟩
    · exact ⟨false, ft_no hg t (by simpa using h), fun h => by cases h⟩
end Go.Proofs.YtomnmoinahhdmaaGreat

namespace Go.Proofs.YtomnmoinahhdmaaGreat
open Go.RowKit
theorem frac_ge {an ad bn bd cn cd : Int} (h1 : 0 < ad) (h2 : 0 < bd) (h3 : 0 < cd) (a : an * bd - bn * ad ≥ 0) (b : bn * cd - cn * bd ≥ 0) : an * cd - cn * ad ≥ 0 := by
  obtain ⟨t1, t2, t3⟩ := frac_tr (an := an) (bn := bn) (cn := cn) h1 h2 h3
  by_cases a0 : an * bd - bn * ad = 0
  · by_cases b0 : bn * cd - cn * bd = 0
    · have := t3 a0 b0; omega
    · have := t2 a (by omega); omega
  · have := t1 (by omega) b; omega
theorem kpA_iff {fn fd : Int} {m : Mt} : kpA fn fd m = true ↔ m.n * fd - fn * m.d > 0 := by
  unfold kpA
  rw [decide_eq_true_eq]
  rcases sg_cases (m.n * fd - fn * m.d) with ⟨h, e⟩ | ⟨h, e⟩ | ⟨h, e⟩ <;> rw [e] <;> omega
noncomputable def btwS (l : List Pt) (fn fd tn td : Int) : List Mt := ((srt l).filter (kpA fn fd)).filter (kpB tn td)
theorem btwS_len {l : List Pt} (hv : Val l) (fn fd tn td : Int) : (btwS l fn fd tn td).length ≤ 4096 :=
  Nat.le_trans (List.length_filter_le _ _) (Nat.le_trans (List.length_filter_le _ _) (by rw [srt_len]; exact ms_len hv))
theorem srt_pw {l : List Pt} (hv : Val l) : (srt l).Pairwise (fun a b => 0 ≤ ordM b a) := List.pairwise_reverse.2 (sortD_desc (by simp) (ms_ok hv) (by simp))
end Go.Proofs.YtomnmoinahhdmaaGreat
