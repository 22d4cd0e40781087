/-
  Joined: Ms, Mu, Mv, Mx. Conditions: none.
-/
import Derived.Test.YtomnmoinahhdmaaMq
import Derived.Test.YtomnmoinahhdmaaFq
import Derived.Test.YtomnmoinahhdmaaW34
import Derived.Test.YtomnmoinahhdmaaMh
namespace Go.Proofs.Ytomnmoinahhdmaa
open Go.RowKit
set_option maxRecDepth 100000 in
theorem lg_t {l : List Pt} (hg : FnL Try.prog 37 1 [fldS 0 l] [(0, 0, rowP l)] (.pv (.bool true)) 0 []) :
    FnL Try.prog 59 1 [fldS 0 l] [(0, 0, rowP l)] (.pv (.bool true)) 0 [] :=
  fnl_run 300 [] [.f [0] [fldS 0 l] [(0, 0, rowP l)] (.pv (.bool true)) 0 []]
     True.intro (And.intro hg (And.intro (Eq.refl (List.map (SV.ren (renU [0] 2)) [fldS 0 l])) (And.intro (reflH (renU [0] 2) [(0, 0, rowP l)]) True.intro))) (by kernel_rfl)

set_option maxRecDepth 100000 in
theorem lg_64 {l : List Pt} (hg : FnL Try.prog 37 1 [fldS 0 l] [(0, 0, rowP l)] (.pv (.bool false)) 0 []) (hz : ((l.length : Int) == 64) = true) :
    FnL Try.prog 59 1 [fldS 0 l] [(0, 0, rowP l)] (.pv (.bool true)) 0 [] :=
  fnl_run 300 [] [.f [0] [fldS 0 l] [(0, 0, rowP l)] (.pv (.bool false)) 0 [], .t true]
     True.intro (And.intro hg (And.intro (Eq.refl (List.map (SV.ren (renU [0] 2)) [fldS 0 l])) (And.intro (reflH (renU [0] 2) [(0, 0, rowP l)]) (And.intro hz True.intro)))) (by kernel_rfl)

set_option maxRecDepth 100000 in
theorem lg_f {l : List Pt} (hg : FnL Try.prog 37 1 [fldS 0 l] [(0, 0, rowP l)] (.pv (.bool false)) 0 []) (hz : ((l.length : Int) == 64) = false) :
    FnL Try.prog 59 1 [fldS 0 l] [(0, 0, rowP l)] (.pv (.bool false)) 0 [] :=
  fnl_run 300 [] [.f [0] [fldS 0 l] [(0, 0, rowP l)] (.pv (.bool false)) 0 [], .t false]
     True.intro (And.intro hg (And.intro (Eq.refl (List.map (SV.ren (renU [0] 2)) [fldS 0 l])) (And.intro (reflH (renU [0] 2) [(0, 0, rowP l)]) (And.intro hz True.intro)))) (by kernel_rfl)

theorem LGreat_any (l : List Pt) : ∃ b, FnL Try.prog 59 1 [fldS 0 l] [(0, 0, rowP l)] (.pv (.bool b)) 0 [] := by
  rcases Great_any l with ⟨_, h⟩ | ⟨_, h⟩
  · exact ⟨true, lg_t h⟩
  · by_cases e : ((l.length : Int) == 64) = true
    · exact ⟨true, lg_64 h e⟩
    · exact ⟨false, lg_f h (by simpa using e)⟩
end Go.Proofs.Ytomnmoinahhdmaa

namespace Go.Proofs.Ytomnmoinahhdmaa
open Go.RowKit
set_option maxRecDepth 100000 in
theorem ct_err {l : List Pt} {fn fd tn td er : Int} (hc : FnL Try.prog 49 1 [fldS 0 l, .pv (ratioV fn fd), .pv (ratioV tn td)] [(0, 0, rowP l)] (.pv (.int .i64 (er))) 0 []) (he : (er != 0) = true) :
    FnL Try.prog 14 1 [fldS 0 l, .pv (ratioV fn fd), .pv (ratioV tn td)] [(0, 0, rowP l)] (.pv (.tuple #[.int .i64 0, .int .i64 er])) 0 [] :=
  fnl_run 300 [] [.f [0] [fldS 0 l, .pv (ratioV fn fd), .pv (ratioV tn td)] [(0, 0, rowP l)] (.pv (.int .i64 (er))) 0 [], .t true]
     True.intro (And.intro hc (And.intro (Eq.refl (List.map (SV.ren (renU [0] 4)) [fldS 0 l, .pv (ratioV fn fd), .pv (ratioV tn td)])) (And.intro (reflH (renU [0] 4) [(0, 0, rowP l)]) (And.intro he True.intro)))) (by kernel_rfl)

set_option maxRecDepth 100000 in
theorem sw_err {l : List Pt} {fn fd tn td er : Int} (hc : FnL Try.prog 49 1 [fldS 0 l, .pv (ratioV fn fd), .pv (ratioV tn td)] [(0, 0, rowP l)] (.pv (.int .i64 (er))) 0 []) (he : (er != 0) = true) :
    FnL Try.prog 16 1 [fldS 0 l, .pv (ratioV fn fd), .pv (ratioV tn td)] [(0, 0, rowP l)] (.pv (.tuple #[.int .i64 0, .int .i64 er])) 0 [] :=
  fnl_run 300 [] [.f [0] [fldS 0 l, .pv (ratioV fn fd), .pv (ratioV tn td)] [(0, 0, rowP l)] (.pv (.int .i64 (er))) 0 [], .t true]
     True.intro (And.intro hc (And.intro (Eq.refl (List.map (SV.ren (renU [0] 4)) [fldS 0 l, .pv (ratioV fn fd), .pv (ratioV tn td)])) (And.intro (reflH (renU [0] 4) [(0, 0, rowP l)]) (And.intro he True.intro)))) (by kernel_rfl)

theorem mE_ok {l : List Pt} {fn fd tn td : Int} (h : mE l fn fd tn td = 0) : Val l ∧ okB fn fd = true ∧ okB tn td = true ∧ ¬ fn * td - tn * fd > 0 := by
  unfold mE at h
  split at h
  · rename_i h0
    split at h
    · rename_i g
      split at h
      · cases h
      · rename_i g3; exact ⟨err_val.1 h0, g.1, g.2, g3⟩
    · cases h
  · rename_i h0; exact (h0 h).elim
/-- Those between two times, pair by pair. -/
noncomputable abbrev btw (l : List Pt) (fn fd tn td : Int) : List Mt := ((msOf l).filter (kpA fn fd)).filter (kpB tn td)
noncomputable def countV (l : List Pt) (fn fd tn td : Int) : Value := if mE l fn fd tn td = 0 then .tuple #[.int .i64 ((btw l fn fd tn td).length : Int), .int .i64 0] else .tuple #[.int .i64 0, .int .i64 (mE l fn fd tn td)]
theorem Count_any {fn fd tn td : Int} (h1 : I64 fn) (h2 : I64 fd) (h3 : I64 tn) (h4 : I64 td) (l : List Pt) : FnL Try.prog 14 1 [fldS 0 l, .pv (ratioV fn fd), .pv (ratioV tn td)] [(0, 0, rowP l)] (.pv (countV l fn fd tn td)) 0 [] := by
  unfold countV
  have c := CB_any h1 h2 h3 h4 l
  by_cases h : mE l fn fd tn td = 0
  · rw [if_pos h]
    rw [h] at c
    obtain ⟨hv, g1, g2, _⟩ := mE_ok h
    have hlen : (((pairsOf l).filterMap fM).filter (kpA fn fd)).length ≤ 1000000 := Nat.le_trans (List.length_filter_le (kpA fn fd) (msOf l)) (Nat.le_trans (ms_len hv) (by decide))
    exact Count_ok (meets_val hv) ⟨h1, h2, g1⟩ ⟨h3, h4, g2⟩ hlen c
  · rw [if_neg h]; exact ct_err c (by simpa using h)
/-- Who of a pair leads at a time. -/
def ldB (n d : Int) (x : Pt × Pt) : Bool := leadsB (x.1.a * d + x.1.b * n) (x.2.a * d + x.2.b * n) x.1.b x.2.b x.1.id x.2.id
noncomputable def swapsV (l : List Pt) (fn fd tn td : Int) : Value := if mE l fn fd tn td = 0 then .tuple #[.int .i64 (((pairsOf l).filter fun x => ldB fn fd x != ldB tn td x).length : Int), .int .i64 0] else .tuple #[.int .i64 0, .int .i64 (mE l fn fd tn td)]
theorem Swaps_any {fn fd tn td : Int} (h1 : I64 fn) (h2 : I64 fd) (h3 : I64 tn) (h4 : I64 td) (l : List Pt) : FnL Try.prog 16 1 [fldS 0 l, .pv (ratioV fn fd), .pv (ratioV tn td)] [(0, 0, rowP l)] (.pv (swapsV l fn fd tn td)) 0 [] := by
  unfold swapsV
  have c := CB_any h1 h2 h3 h4 l
  by_cases h : mE l fn fd tn td = 0
  · rw [if_pos h]
    rw [h] at c
    obtain ⟨hv, g1, g2, _⟩ := mE_ok h
    have hlen := hv.len
    have hp : (pairsOf l).length ≤ 1000000 := Nat.le_trans (pairs_len l) (Nat.le_trans (Nat.mul_le_mul hlen hlen) (by decide))
    refine Swaps_ok (was := ldB fn fd) (is := ldB tn td) (by omega) hp (fun x hx => ?_) (fun x hx => ?_) c
    · exact Ahead_ok h1 h2 (hv.ok _ (pairs_mem hx).1) (hv.ok _ (pairs_mem hx).2) g1 (by have := pairs_lt hv.up hx; omega)
    · exact Ahead_ok h3 h4 (hv.ok _ (pairs_mem hx).1) (hv.ok _ (pairs_mem hx).2) g2 (by have := pairs_lt hv.up hx; omega)
  · rw [if_neg h]; exact sw_err c (by simpa using h)
/-- **A pair is swapped exactly if it meets after the one time and up to the other.** -/
theorem swap_meets {l : List Pt} (hv : Val l) {fn fd tn td : Int} (g1 : okB fn fd = true) (g2 : okB tn td = true) (hle : ¬ fn * td - tn * fd > 0) {x : Pt × Pt} (hx : x ∈ pairsOf l) :
    (ldB fn fd x != ldB tn td x) = ((fM x).elim false fun m => kpA fn fd m && kpB tn td m) := by
  have d1 := okB_den g1
  have d2 := okB_den g2
  rcases fM_any hv hx with ⟨hb, h⟩ | ⟨hb, m, h, hm⟩
  · rw [h]
    have e1 : ldB fn fd x = leadsB x.1.a x.2.a x.1.b x.1.b x.1.id x.2.id := by unfold ldB; rw [← hb]; exact leads_same (by omega)
    have e2 : ldB tn td x = leadsB x.1.a x.2.a x.1.b x.1.b x.1.id x.2.id := by unfold ldB; rw [← hb]; exact leads_same (by omega)
    rw [e1, e2]; simp
  · rw [h]
    have k0 : 0 < m.d := by have := okB_den hm.ok; omega
    have e1 : ldB fn fd x = (decide (x.1.b > x.2.b) == decide ((fn * m.d - m.n * fd).sign ≥ 0)) := leads_meet k0 hm.eq hb
    have e2 : ldB tn td x = (decide (x.1.b > x.2.b) == decide ((tn * m.d - m.n * td).sign ≥ 0)) := leads_meet k0 hm.eq hb
    show _ = (kpA fn fd m && kpB tn td m)
    rw [e1, e2]
    unfold kpA kpB
    obtain ⟨t1, t2, t3⟩ := frac_tr (an := tn) (bn := fn) (cn := m.n) (ad := td) (bd := fd) (cd := m.d) (by omega) (by omega) k0
    have n1 : m.n * fd - fn * m.d = -(fn * m.d - m.n * fd) := by omega
    have n2 : m.n * td - tn * m.d = -(tn * m.d - m.n * td) := by omega
    rw [n1, n2, Int.sign_neg, Int.sign_neg]
    rcases sg_cases (fn * m.d - m.n * fd) with ⟨w, z⟩ | ⟨w, z⟩ | ⟨w, z⟩ <;> rcases sg_cases (tn * m.d - m.n * td) with ⟨u, v⟩ | ⟨u, v⟩ | ⟨u, v⟩ <;> rw [z, v] <;>
      first
      | (cases decide (x.1.b > x.2.b) <;> rfl)
      | (exfalso; have k := t2 (by omega) w; omega)
      | (exfalso; rcases Int.lt_trichotomy (tn * fd - fn * td) 0 with q | q | q
         · omega
         · have k := t3 q w; omega
         · have k := t1 q (by omega); omega)
theorem swaps_len {l : List Pt} (hv : Val l) {fn fd tn td : Int} (g1 : okB fn fd = true) (g2 : okB tn td = true) (hle : ¬ fn * td - tn * fd > 0) :
    ((pairsOf l).filter fun x => ldB fn fd x != ldB tn td x).length = (btw l fn fd tn td).length := by
  have key : ∀ (X : List (Pt × Pt)), (∀ x ∈ X, x ∈ pairsOf l) → (X.filter fun x => ldB fn fd x != ldB tn td x).length = (((X.filterMap fM).filter (kpA fn fd)).filter (kpB tn td)).length := by
    intro X
    induction X with
    | nil => intro _; rfl
    | cons x r ih =>
      intro h
      have e := swap_meets hv g1 g2 hle (h x List.mem_cons_self)
      have i := ih fun y hy => h y (List.mem_cons_of_mem _ hy)
      cases hf : fM x with
      | none =>
        rw [hf] at e
        rw [List.filterMap_cons_none hf, List.filter_cons_of_neg (by rw [e]; exact Bool.false_ne_true)]
        exact i
      | some m =>
        rw [hf] at e
        rw [List.filterMap_cons_some hf]
        have e' : (ldB fn fd x != ldB tn td x) = (kpA fn fd m && kpB tn td m) := e
        cases ha : kpA fn fd m with
        | false =>
          rw [ha, Bool.false_and] at e'
          rw [List.filter_cons_of_neg (by rw [e']; decide), List.filter_cons_of_neg (p := kpA fn fd) (by rw [ha]; decide)]
          exact i
        | true =>
          rw [ha, Bool.true_and] at e'
          rw [List.filter_cons_of_pos (p := kpA fn fd) ha]
          cases hb : kpB tn td m with
          | false =>
            rw [hb] at e'
            rw [List.filter_cons_of_neg (by rw [e']; decide), List.filter_cons_of_neg (p := kpB tn td) (by rw [hb]; decide)]
            exact i
          | true =>
            rw [hb] at e'
            rw [List.filter_cons_of_pos (p := fun x => ldB fn fd x != ldB tn td x) e', List.filter_cons_of_pos (p := kpB tn td) hb, List.length_cons, List.length_cons, i]
  exact key _ fun x hx => hx
end Go.Proofs.Ytomnmoinahhdmaa

namespace Go.Proofs.Ytomnmoinahhdmaa
open Go.RowKit
set_option maxRecDepth 100000 in
theorem ft_great {l : List Pt} {fn fd tn td : Int} (hg : FnL Try.prog 59 1 [fldS 0 l] [(0, 0, rowP l)] (.pv (.bool true)) 0 []) :
    FnL Try.prog 21 1 [fldS 0 l, .pv (ratioV fn fd), .pv (ratioV tn td)] [(0, 0, rowP l)] (.pv (.bool false)) 0 [] :=
  fnl_run 300 [] [.f [0] [fldS 0 l] [(0, 0, rowP l)] (.pv (.bool true)) 0 [], .k]
     True.intro (And.intro hg (And.intro (Eq.refl (List.map (SV.ren (renU [0] 4)) [fldS 0 l])) (And.intro (reflH (renU [0] 4) [(0, 0, rowP l)]) True.intro))) (by kernel_rfl)

set_option maxRecDepth 100000 in
theorem ft_yes {l : List Pt} {fn fd tn td er : Int} (hg : FnL Try.prog 59 1 [fldS 0 l] [(0, 0, rowP l)] (.pv (.bool false)) 0 []) (ht : FnL Try.prog 60 1 [fldS 0 l, .pv (ratioV fn fd), .pv (ratioV tn td)] [(0, 0, rowP l)] (.pv (.int .i64 (er))) 0 []) (he : (er == 0) = true) :
    FnL Try.prog 21 1 [fldS 0 l, .pv (ratioV fn fd), .pv (ratioV tn td)] [(0, 0, rowP l)] (.pv (.bool true)) 0 [] :=
  fnl_run 300 [] [.f [0] [fldS 0 l] [(0, 0, rowP l)] (.pv (.bool false)) 0 [], .k, .f [0] [fldS 0 l, .pv (ratioV fn fd), .pv (ratioV tn td)] [(0, 0, rowP l)] (.pv (.int .i64 (er))) 0 [], .t true]
     True.intro (And.intro hg (And.intro (Eq.refl (List.map (SV.ren (renU [0] 4)) [fldS 0 l])) (And.intro (reflH (renU [0] 4) [(0, 0, rowP l)]) (And.intro ht (And.intro (Eq.refl (List.map (SV.ren (renU [0] 4)) [fldS 0 l, .pv (ratioV fn fd), .pv (ratioV tn td)])) (And.intro (reflH (renU [0] 4) [(0, 0, rowP l)]) (And.intro he True.intro))))))) (by kernel_rfl)

set_option maxRecDepth 100000 in
theorem ft_no {l : List Pt} {fn fd tn td er : Int} (hg : FnL Try.prog 59 1 [fldS 0 l] [(0, 0, rowP l)] (.pv (.bool false)) 0 []) (ht : FnL Try.prog 60 1 [fldS 0 l, .pv (ratioV fn fd), .pv (ratioV tn td)] [(0, 0, rowP l)] (.pv (.int .i64 (er))) 0 []) (he : (er == 0) = false) :
    FnL Try.prog 21 1 [fldS 0 l, .pv (ratioV fn fd), .pv (ratioV tn td)] [(0, 0, rowP l)] (.pv (.bool false)) 0 [] :=
  fnl_run 300 [] [.f [0] [fldS 0 l] [(0, 0, rowP l)] (.pv (.bool false)) 0 [], .k, .f [0] [fldS 0 l, .pv (ratioV fn fd), .pv (ratioV tn td)] [(0, 0, rowP l)] (.pv (.int .i64 (er))) 0 [], .t false]
     True.intro (And.intro hg (And.intro (Eq.refl (List.map (SV.ren (renU [0] 4)) [fldS 0 l])) (And.intro (reflH (renU [0] 4) [(0, 0, rowP l)]) (And.intro ht (And.intro (Eq.refl (List.map (SV.ren (renU [0] 4)) [fldS 0 l, .pv (ratioV fn fd), .pv (ratioV tn td)])) (And.intro (reflH (renU [0] 4) [(0, 0, rowP l)]) (And.intro he True.intro))))))) (by kernel_rfl)

theorem RTimes_any {fn fd tn td : Int} (h1 : I64 fn) (h2 : I64 fd) (h3 : I64 tn) (h4 : I64 td) (l : List Pt) : FnL Try.prog 60 1 [fldS 0 l, .pv (ratioV fn fd), .pv (ratioV tn td)] [(0, 0, rowP l)] (.pv (.int .i64 (mE l fn fd tn td))) 0 [] := by
  unfold mE
  have c := RCheck_any l
  by_cases h0 : errL l = 0
  · rw [if_pos h0]
    rw [h0] at c
    by_cases g : okB fn fd = true ∧ okB tn td = true
    · rw [if_pos g]
      have k := RCompare_any h1 h2 h3 h4
      have b := RBoth_ok h1 h2 h3 h4 g.1 g.2
      by_cases g3 : fn * td - tn * fd > 0
      · rw [if_pos g3]; exact ti_arg c b k (dt (by rw [Int.sign_eq_one_of_pos g3]; decide))
      · rw [if_neg g3]
        refine ti_ok c b k (df ?_)
        rcases sg_cases (fn * td - tn * fd) with ⟨w, z⟩ | ⟨w, z⟩ | ⟨w, z⟩ <;> omega
    · rw [if_neg g]; exact ti_bad c (RBoth_bad h1 h2 h3 h4 g)
  · rw [if_neg h0]; exact ti_field c (by simpa using h0)
theorem Fit_any {fn fd tn td : Int} (h1 : I64 fn) (h2 : I64 fd) (h3 : I64 tn) (h4 : I64 td) (l : List Pt) : ∃ b, FnL Try.prog 21 1 [fldS 0 l, .pv (ratioV fn fd), .pv (ratioV tn td)] [(0, 0, rowP l)] (.pv (.bool b)) 0 [] ∧ (b = true → mE l fn fd tn td = 0) := by
  obtain ⟨b, hg⟩ := LGreat_any l
  cases b with
  | true => exact ⟨false, ft_great hg, fun h => by cases h⟩
  | false =>
    have t := RTimes_any h1 h2 h3 h4 l
    by_cases h : mE l fn fd tn td = 0
    · exact ⟨true, ft_yes hg t (by rw [h]; rfl), fun _ => h⟩
    · exact ⟨false, ft_no hg t (by simpa using h), fun h => by cases h⟩
end Go.Proofs.Ytomnmoinahhdmaa

namespace Go.Proofs.Ytomnmoinahhdmaa
open Go.RowKit
theorem frac_ge {an ad bn bd cn cd : Int} (h1 : 0 < ad) (h2 : 0 < bd) (h3 : 0 < cd) (a : an * bd - bn * ad ≥ 0) (b : bn * cd - cn * bd ≥ 0) : an * cd - cn * ad ≥ 0 := by
  obtain ⟨t1, t2, t3⟩ := frac_tr (an := an) (bn := bn) (cn := cn) h1 h2 h3
  by_cases a0 : an * bd - bn * ad = 0
  · by_cases b0 : bn * cd - cn * bd = 0
    · have := t3 a0 b0; omega
    · have := t2 a (by omega); omega
  · have := t1 (by omega) b; omega
theorem kpA_iff {fn fd : Int} {m : Mt} : kpA fn fd m = true ↔ m.n * fd - fn * m.d > 0 := by
  unfold kpA
  rw [decide_eq_true_eq]
  rcases sg_cases (m.n * fd - fn * m.d) with ⟨h, e⟩ | ⟨h, e⟩ | ⟨h, e⟩ <;> rw [e] <;> omega
theorem kpB_iff {fn fd : Int} {m : Mt} : kpB fn fd m = true ↔ m.n * fd - fn * m.d ≤ 0 := by
  unfold kpB
  rw [decide_eq_true_eq]
  rcases sg_cases (m.n * fd - fn * m.d) with ⟨h, e⟩ | ⟨h, e⟩ | ⟨h, e⟩ <;> rw [e] <;> omega
theorem btw_cut {fn fd mn md tn td : Int} (f0 : 0 < fd) (m0 : 0 < md) (t0 : 0 < td) (h1 : mn * fd - fn * md ≥ 0) (h2 : tn * md - mn * td ≥ 0) : ∀ {s : List Mt}, (∀ m ∈ s, MtOk m) → s.Pairwise (fun a b => 0 ≤ b.n * a.d - a.n * b.d) →
    (s.filter (kpA fn fd)).filter (kpB tn td) = (s.filter (kpA fn fd)).filter (kpB mn md) ++ (s.filter (kpA mn md)).filter (kpB tn td)
  | [], _, _ => rfl
  | m :: r, hok, hp => by
    obtain ⟨p1, p2⟩ := List.pairwise_cons.1 hp
    have d0 : 0 < m.d := by have := okB_den (hok m List.mem_cons_self).ok; omega
    by_cases hm : m.n * md - mn * m.d ≤ 0
    · have ih := btw_cut f0 m0 t0 h1 h2 (fun x hx => hok x (List.mem_cons_of_mem _ hx)) p2
      have b1 : kpB mn md m = true := kpB_iff.2 hm
      have b2 : kpB tn td m = true := kpB_iff.2 (by have := frac_ge (an := tn) (bn := mn) (cn := m.n) t0 m0 d0 h2 (by omega); omega)
      have b3 : ¬ kpA mn md m = true := fun h => by have := kpA_iff.1 h; omega
      rw [List.filter_cons_of_neg (p := kpA mn md) b3]
      by_cases a1 : kpA fn fd m = true
      · rw [List.filter_cons_of_pos a1, List.filter_cons_of_pos b2, List.filter_cons_of_pos b1, ih]; rfl
      · rw [List.filter_cons_of_neg a1, ih]
    · have late : ∀ x ∈ m :: r, x.n * md - mn * x.d > 0 := fun x hx => by
        rcases List.mem_cons.1 hx with rfl | hx
        · omega
        · exact (frac_tr (an := x.n) (bn := m.n) (cn := mn) (by have := okB_den (hok x (List.mem_cons_of_mem _ hx)).ok; omega) d0 m0).2.1 (by have := p1 x hx; omega) (by omega)
      have e1 : (m :: r).filter (kpA fn fd) = m :: r := List.filter_eq_self.2 fun x hx => kpA_iff.2 ((frac_tr (an := x.n) (bn := mn) (cn := fn) (by have := okB_den (hok x hx).ok; omega) m0 f0).1 (late x hx) h1)
      have e2 : (m :: r).filter (kpA mn md) = m :: r := List.filter_eq_self.2 fun x hx => kpA_iff.2 (late x hx)
      have e3 : (m :: r).filter (kpB mn md) = [] := List.filter_eq_nil_iff.2 fun x hx h => by have := kpB_iff.1 h; have := late x hx; omega
      rw [e1, e2, e3, List.nil_append]
noncomputable def btwS (l : List Pt) (fn fd tn td : Int) : List Mt := ((srt l).filter (kpA fn fd)).filter (kpB tn td)
theorem btwS_mem {l : List Pt} {fn fd tn td : Int} {m : Mt} : m ∈ btwS l fn fd tn td ↔ m ∈ msOf l ∧ kpA fn fd m = true ∧ kpB tn td m = true := by
  unfold btwS
  rw [List.mem_filter, List.mem_filter, srt_mem, and_assoc]
theorem btwS_len {l : List Pt} (hv : Val l) (fn fd tn td : Int) : (btwS l fn fd tn td).length ≤ 4096 :=
  Nat.le_trans (List.length_filter_le _ _) (Nat.le_trans (List.length_filter_le _ _) (by rw [srt_len]; exact ms_len hv))
theorem srt_pw {l : List Pt} (hv : Val l) : (srt l).Pairwise (fun a b => 0 ≤ ordM b a) := List.pairwise_reverse.2 (sortD_desc (by simp) (ms_ok hv) (by simp))
theorem srt_time {l : List Pt} (hv : Val l) : (srt l).Pairwise (fun a b => 0 ≤ b.n * a.d - a.n * b.d) := (srt_pw hv).imp fun {a b} h => by
  rcases ord_cases b a with ⟨w, z⟩ | ⟨w, z⟩ | ⟨w, _⟩ <;> omega
/-- The first one between two times is the next one. -/
theorem best_btw {l : List Pt} (hv : Val l) {fn fd tn td : Int} (g2 : okB tn td = true) {m : Mt} (h : (btwS l fn fd tn td)[0]? = some m) : bestOf ordM ((msOf l).filter (kpA fn fd)) = some m := by
  have hmem := List.mem_of_getElem? h
  obtain ⟨q1, q2, q3⟩ := btwS_mem.1 hmem
  have hY : m ∈ (msOf l).filter (kpA fn fd) := List.mem_filter.2 ⟨q1, q2⟩
  have hne : (msOf l).filter (kpA fn fd) ≠ [] := fun e => by rw [e] at hY; cases hY
  obtain ⟨b, hbest⟩ := Option.isSome_iff_exists.1 (best_some (c := ordM) ((msOf l).filter (kpA fn fd)) none (Or.inr hne))
  have hok : ∀ a ∈ (msOf l).filter (kpA fn fd), MtOk a := fun a ha => ms_ok hv a (List.mem_filter.1 ha).1
  obtain ⟨b1, _, b3⟩ := best_min ord_neg _ none b ((msOf l).filter (kpA fn fd)) (fun a ha b hb d hd => ord_tr (hok a ha) (hok b hb) (hok d hd)) (fun a ha => ha) (fun a ha => by cases ha) hbest
  rw [show bestOf ordM ((msOf l).filter (kpA fn fd)) = some b from hbest]
  have hmb := b3 m hY
  have dm := okB_den (hok m hY).ok
  have db := okB_den (hok b b1).ok
  have dt' := okB_den g2
  have hbt : kpB tn td b = true := kpB_iff.2 (by
    have k1 : m.n * b.d - b.n * m.d ≥ 0 := by rcases ord_cases m b with ⟨w, z⟩ | ⟨w, z⟩ | ⟨w, _⟩ <;> omega
    have k2 := kpB_iff.1 q3
    have := frac_ge (an := tn) (bn := m.n) (cn := b.n) (ad := td) (bd := m.d) (cd := b.d) (by omega) (by omega) (by omega) (by omega) k1
    omega)
  have hbm : b ∈ btwS l fn fd tn td := btwS_mem.2 ⟨(List.mem_filter.1 b1).1, (List.mem_filter.1 b1).2, hbt⟩
  have hpw : (btwS l fn fd tn td).Pairwise (fun a b => 0 ≤ ordM b a) := ((srt_pw hv).filter _).filter _
  cases hl : btwS l fn fd tn td with
  | nil => rw [hl] at hbm; cases hbm
  | cons x r =>
    rw [hl] at h hbm hpw
    simp only [List.getElem?_cons_zero, Option.some.injEq] at h
    subst h
    rcases List.mem_cons.1 hbm with rfl | hb
    · rfl
    · have h2 := (List.pairwise_cons.1 hpw).1 b hb
      have := ord_neg b x
      rw [ord_eq (hok b b1) (hok x hY) (by omega)]
end Go.Proofs.Ytomnmoinahhdmaa
