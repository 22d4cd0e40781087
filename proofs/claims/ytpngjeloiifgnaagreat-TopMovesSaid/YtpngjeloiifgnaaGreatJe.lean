/-
  met05 of TopMoves: as many pairs change as meet. Conditions: none.
-/
import Derived.Test.YtpngjeloiifgnaaGreatJa
import Derived.Test.YtpngjeloiifgnaaGreatW41
import Derived.Test.YtpngjeloiifgnaaGreatW37
import Derived.Test.YtpngjeloiifgnaaGreatW29
import Derived.Test.YtpngjeloiifgnaaGreatW40
namespace Go.Proofs.YtpngjeloiifgnaaGreat
open Go.RowKit
section
variable {l : List Pt}
abbrev rowN (n : Nat) (s : List Pt) : SV := .row 3 1 n (idsV (s.map Pt.id))
theorem rk_lt {tn td : Int} {s : List Pt} (hs : Srt l tn td s) {x y : Pt} (hx : x ∈ l) (hy : y ∈ l) : rk tn td l x < rk tn td l y ↔ ld tn td x y = true := by
  have ax := hs.at hx
  have ay := hs.at hy
  obtain ⟨lx, ex⟩ := List.getElem?_eq_some_iff.1 ax
  obtain ⟨ly, ey⟩ := List.getElem?_eq_some_iff.1 ay
  have pw := List.pairwise_iff_getElem.1 hs.pw
  constructor
  · intro h
    have := pw _ _ lx ly h
    rwa [ex, ey] at this
  · intro h
    rcases Nat.lt_trichotomy (rk tn td l x) (rk tn td l y) with g | g | g
    · exact g
    · have e : x = y := by
        rw [g, ay] at ax
        exact (Option.some.inj ax).symm
      subst e; rw [ld_irr] at h; cases h
    · have := pw _ _ ly lx g
      rw [ex, ey] at this
      rw [ld_asym this] at h; cases h
theorem Pl5_ok (hv : Val l) {tn td : Int} {s : List Pt} (hs : Srt l tn td s) {p : Pt} (hp : p ∈ l) : FnL Tryz.prog 44 1 [.ls 0 l.length, .pv (.int .i64 p.id)] [(0, 0, rowN l.length s)] (.pv (.int .i64 ((rk tn td l p : Nat) : Int))) 0 [] := by
  have ap := hs.at hp
  have lp := get_lt ap
  have le := hs.len
  have h64 := hv.len
  refine pl5_path (RunsL.rounds (fun k => [(0, .ls 0 l.length), (1, .pv (.int .i64 p.id)), (5, .pv (.int .i64 (k : Int)))]) (fun _ => [(0, 0, rowN l.length s)]) (rk tn td l p) 0 (Nat.zero_add _) (fun j _ hj r => ?_) (pl5_hit (x := p.id) (by rw [List.getElem?_map, ap]; rfl) ⟨by omega, by omega⟩ (dt (by omega)) (by simp)))
  obtain ⟨q, hq⟩ := get_some (l := s) (k := j) (by omega)
  refine pl5_next (x := q.id) (by rw [List.getElem?_map, hq]; rfl) ⟨by omega, by omega⟩ (dt (by omega)) ?_ (i64_succ (by omega)) r
  rw [beq_eq_false_iff_ne]
  intro e
  have hqm : q ∈ l := hs.perm.mem_iff.1 (List.mem_of_getElem? hq)
  have := val_id hv hqm hp e
  subst this
  have := hs.rank hq
  omega
def cntP (P : Pt → Pt → Bool) : List Pt → Nat
  | [] => 0
  | x :: r => (r.filter (P x)).length + cntP P r
theorem cntP_pairs (P : Pt → Pt → Bool) : ∀ l : List Pt, ((pairsOf l).filter (fun z => P z.1 z.2)).length = cntP P l
  | [] => rfl
  | x :: r => by
    rw [pairsOf, List.filter_append, List.length_append, cntP_pairs P r, List.filter_map, List.length_map]; rfl
theorem cntP_congr {P Q : Pt → Pt → Bool} : ∀ {s : List Pt}, s.Pairwise (fun x y => P x y = Q x y) → cntP P s = cntP Q s
  | [], _ => rfl
  | x :: r, h => by
    rw [List.pairwise_cons] at h
    simp only [cntP]
    rw [cntP_congr h.2, List.filter_congr h.1]
theorem cntP_perm {P : Pt → Pt → Bool} {S : Pt → Prop} (sym : ∀ x y, S x → S y → P x y = P y x) {s t : List Pt} (h : s.Perm t) : (∀ x ∈ s, S x) → cntP P s = cntP P t := by
  induction h with
  | nil => intro _; rfl
  | cons x h ih => intro hs; simp only [cntP]; rw [ih (fun y hy => hs y (List.mem_cons_of_mem _ hy)), (h.filter _).length_eq]
  | swap x y r =>
    intro hs
    have e := sym y x (hs y (by simp)) (hs x (by simp))
    simp only [cntP, List.filter_cons]
    rw [e]
    split
    · simp only [List.length_cons]; omega
    · omega
  | trans h1 h2 ih1 ih2 => intro hs; rw [ih1 hs]; exact ih2 (fun x hx => hs x (h1.mem_iff.2 hx))
theorem ld_not (hv : Val l) {n d : Int} {p q : Pt} (hp : p ∈ l) (hq : q ∈ l) (hne : p ≠ q) : ld n d q p = !ld n d p q := by
  cases h : ld n d p q with
  | true => exact ld_asym h
  | false => exact ld_tot (fun e => hne (val_id hv hp hq e)) h
abbrev Rk5 (l : List Pt) (tn td : Int) (x y : Pt) : Bool := decide (((rk tn td l x : Nat) : Int) > ((rk tn td l y : Nat) : Int))
theorem swapped_len (hv : Val l) {cn cd tn td : Int} (oc : okB cn cd = true) (ot : okB tn td = true) (hle : ¬ cn * td - tn * cd > 0) {s s2 : List Pt} (hs : Srt l cn cd s) (h2 : Srt l tn td s2) : cntP (Rk5 l tn td) s = (btw l cn cd tn td).length := by
  have e1 : cntP (Rk5 l tn td) s = cntP (fun x y => ld cn cd x y != ld tn td x y) s := by
    refine cntP_congr (hs.pw.imp_of_mem fun {x y} hx hy h => ?_)
    have hx' := hs.perm.mem_iff.1 hx
    have hy' := hs.perm.mem_iff.1 hy
    have hne : x ≠ y := fun e => by subst e; rw [ld_irr] at h; cases h
    rw [h]
    have n := ld_not hv (n := tn) (d := td) hx' hy' hne
    have a := rk_lt h2 hx' hy'
    have b := rk_lt h2 hy' hx'
    cases g : ld tn td x y with
    | true =>
      have := a.2 g
      exact decide_eq_false (by omega)
    | false =>
      rw [g] at n
      have := b.2 n
      exact decide_eq_true (by omega)
  rw [e1, cntP_perm (S := fun x => x ∈ l) (fun x y hx hy => ?_) hs.perm (fun x hx => hs.perm.mem_iff.1 hx), ← cntP_pairs]
  · exact swaps_len hv oc ot hle
  · by_cases e : x = y
    · rw [e]
    · show (ld cn cd x y != ld tn td x y) = (ld cn cd y x != ld tn td y x)
      rw [ld_not hv (n := cn) (d := cd) hx hy e, ld_not hv (n := tn) (d := td) hx hy e]
      cases ld cn cd x y <;> cases ld tn td x y <;> rfl
abbrev m5H (l s s2 : List Pt) (L : List Mt) : List (Nat × Nat × SV) := [(4, 0, .ls 0 l.length), (0, 0, rowP l), (1, 0, rowN l.length s), (2, 0, rowN l.length s2), (3, 0, rowM L)]
abbrev m5T (n o m v : Nat) (r : List (Nat × SV)) : List (Nat × SV) := (1, .ls 1 n) :: (2, .ls 2 n) :: (3, .lq 3 4 o m) :: (4, .pp 4 0) :: (9, .pv (.int .i64 (v : Int))) :: r
theorem m5_inner (hv : Val l) {cn cd tn td : Int} {s s2 : List Pt} (hs : Srt l cn cd s) (h2 : Srt l tn td s2) {L : List Mt} {o m a : Nat} {x : Pt} (hx : s[a]? = some x) : ∀ (d b v : Nat), b + d = l.length → v + d ≤ 100000 →
    RunsL Tryz.prog 4 4 (loopOf Tryz.prog 15 1) 184 5 (m5T l.length o m v [(10, .pv (.int .i64 (a : Int))), (11, .pv (.int .i64 (b : Int)))]) (m5H l s s2 L) (.exit 2) (m5T l.length o m (v + ((s.drop b).filter (Rk5 l tn td x)).length) [(10, .pv (.int .i64 (a : Int)))]) (m5H l s s2 L)
  | 0, b, v, hb, _ => by
    have e : s.drop b = [] := List.drop_eq_nil_iff.2 (by rw [hs.len]; omega)
    rw [e]
    exact m5i_end (hge := df (by omega))
  | d + 1, b, v, hb, hvd => by
    have hl := hs.len
    have ha := get_lt hx
    have h64 := hv.len
    obtain ⟨y, hy⟩ := get_some (l := s) (k := b) (by omega)
    obtain ⟨lb, eb⟩ := List.getElem?_eq_some_iff.1 hy
    have hxm := hs.perm.mem_iff.1 (List.mem_of_getElem? hx)
    have hym := hs.perm.mem_iff.1 (List.mem_of_getElem? hy)
    have ed : s.drop b = y :: s.drop (b + 1) := by rw [List.drop_eq_getElem_cons lb, eb]
    rw [ed, List.filter_cons]
    have hxi : (s.map Pt.id)[a]? = some x.id := by rw [List.getElem?_map, hx]; rfl
    have hyi : (s.map Pt.id)[b]? = some y.id := by rw [List.getElem?_map, hy]; rfl
    by_cases g : Rk5 l tn td x y = true
    · have ih := m5_inner hv hs h2 (L := L) (o := o) (m := m) hx d (b + 1) (v + 1) (by omega) (by omega)
      rw [if_pos g, List.length_cons, show v + (((s.drop (b + 1)).filter (Rk5 l tn td x)).length + 1) = v + 1 + ((s.drop (b + 1)).filter (Rk5 l tn td x)).length by omega]
      exact m5i_yes (hx := hxi) (hy := hyi) (ia := ⟨by omega, by omega⟩) (ib := ⟨by omega, by omega⟩) (hlt := dt (by omega)) (hpa := Pl5_ok hv h2 hxm) (hpb := Pl5_ok hv h2 hym) (hgt := g) (hv := i64_succ (by omega)) (hs := i64_succ (by omega)) (r := ih)
    · have ih := m5_inner hv hs h2 (L := L) (o := o) (m := m) hx d (b + 1) v (by omega) (by omega)
      rw [if_neg g]
      exact m5i_no (hx := hxi) (hy := hyi) (ia := ⟨by omega, by omega⟩) (ib := ⟨by omega, by omega⟩) (hlt := dt (by omega)) (hpa := Pl5_ok hv h2 hxm) (hpb := Pl5_ok hv h2 hym) (hgt := by simpa using g) (hs := i64_succ (by omega)) (r := ih)
theorem m5_outer (hv : Val l) {cn cd tn td : Int} {s s2 : List Pt} (hs : Srt l cn cd s) (h2 : Srt l tn td s2) {L : List Mt} {o m : Nat} : ∀ (d a v : Nat), a + d = l.length → v ≤ a * 64 →
    RunsL Tryz.prog 4 4 (loopOf Tryz.prog 15 0) 184 5 (m5T l.length o m v [(10, .pv (.int .i64 (a : Int)))]) (m5H l s s2 L) (.exit 0) (m5T l.length o m (v + cntP (Rk5 l tn td) (s.drop a)) []) (m5H l s s2 L)
  | 0, a, v, hb, _ => by
    have e : s.drop a = [] := List.drop_eq_nil_iff.2 (by rw [hs.len]; omega)
    rw [e]
    exact m5o_end (hge := df (by omega))
  | d + 1, a, v, hb, hva => by
    have hl := hs.len
    have h64 := hv.len
    obtain ⟨x, hx⟩ := get_some (l := s) (k := a) (by omega)
    obtain ⟨la, ea⟩ := List.getElem?_eq_some_iff.1 hx
    have ed : s.drop a = x :: s.drop (a + 1) := by rw [List.drop_eq_getElem_cons la, ea]
    have hfl := List.length_filter_le (Rk5 l tn td x) (s.drop (a + 1))
    rw [List.length_drop] at hfl
    have r1 := m5_inner hv hs h2 (L := L) (o := o) (m := m) hx (l.length - (a + 1)) (a + 1) v (by omega) (by omega)
    have ih := m5_outer hv hs h2 (L := L) (o := o) (m := m) d (a + 1) (v + ((s.drop (a + 1)).filter (Rk5 l tn td x)).length) (by omega) (by omega)
    rw [ed]
    simp only [cntP]
    rw [← Nat.add_assoc]
    exact m5o_next (hlt := dt (by omega)) (hs := i64_succ (by omega)) (r1 := r1) (r := ih)
theorem ms_memF (hv : Val l) {m : Mt} (h : m ∈ msOf l) : ∃ p q, p ∈ l ∧ q ∈ l ∧ MSpec p q m ∧ p.b ≠ q.b := by
  obtain ⟨x, hx, h2, hb⟩ := ms_mem hv h
  exact ⟨x.1, x.2, (pairs_mem hx).1, (pairs_mem hx).2, h2, hb⟩
theorem m5_third (hv : Val l) {cn cd tn td : Int} (oc : okB cn cd = true) (hlt : cn * td < tn * cd) {s s2 : List Pt} (hs : Srt l cn cd s) (h2 : Srt l tn td s2) {L : List Mt} {o m : Nat} (hL : ∀ a, a < m → ∃ mm, L[o + a]? = some mm ∧ mm ∈ msOf l ∧ mm.n = tn ∧ mm.d = td) (hm : m ≤ 100000) (v : Nat) :
    RunsL Tryz.prog 4 4 (loopOf Tryz.prog 15 2) 184 5 (m5T l.length o m v [(12, .pv (.int .i64 ((0 : Nat) : Int)))]) (m5H l s s2 L) (.exit 4) (m5T l.length o m v []) (m5H l s s2 L) := by
  refine RunsL.rounds (fun a => m5T l.length o m v [(12, .pv (.int .i64 (a : Int)))]) (fun _ => m5H l s s2 L) m 0 (Nat.zero_add _) (fun a _ ha r => ?_) (m5t_end (hge := df (by omega)))
  obtain ⟨mm, hmm, hin, rfl, rfl⟩ := hL a ha
  obtain ⟨p, q, hp, hq, ok, hb⟩ := ms_memF hv hin
  obtain ⟨N, D, ⟨oN, iN, iD⟩, a1, a2⟩ := meet_placeV (hv.ok _ hp) (hv.ok _ hq) ok hb
  obtain ⟨jp, hjp⟩ := List.getElem?_of_mem hp
  obtain ⟨jq, hjq⟩ := List.getElem?_of_mem hq
  have f1 := FindP_yes hv hjp ok.i.symm
  have f2 := FindP_yes hv hjq ok.j.symm
  obtain ⟨N', D', E', hr, hsub⟩ := Sub_res iN iD iN iD oN oN
  have oD := okB_den oN
  obtain ⟨rfl, rfl, rfl⟩ := hr.one (n := 0) (d := 1) (by have := Int.mul_pos (show 0 < D by omega) (show 0 < D by omega); omega) (by decide) (by decide) (by decide) (by rw [Int.sub_self]; simp)
  have k0 := okB_den ok.ok
  have c0 := okB_den oc
  have hne : p ≠ q := fun e => hb (by rw [e])
  have pa := Pl5_ok hv hs hp
  have pb := Pl5_ok hv hs hq
  have pc := Pl5_ok hv h2 hp
  have pd := Pl5_ok hv h2 hq
  rw [← ok.i] at pa pc
  rw [← ok.j] at pb pd
  have lc : ld cn cd p q = (decide (p.b > q.b) == decide ((cn * mm.d - mm.n * cd).sign ≥ 0)) := leads_meet (by omega) ok.eq hb
  have lt' : ld mm.n mm.d p q = (decide (p.b > q.b) == decide ((mm.n * mm.d - mm.n * mm.d).sign ≥ 0)) := leads_meet (by omega) ok.eq hb
  have sg := sg_cases (cn * mm.d - mm.n * cd)
  rw [df (show ¬ (cn * mm.d - mm.n * cd).sign ≥ 0 by omega)] at lc
  rw [Int.sub_self, dt (show Int.sign 0 ≥ 0 by decide)] at lt'
  have r1 := rk_lt hs hp hq
  have r2 := rk_lt hs hq hp
  have r3 := rk_lt h2 hp hq
  have r4 := rk_lt h2 hq hp
  have n1 := ld_not hv (n := cn) (d := cd) hp hq hne
  have n2 := ld_not hv (n := mm.n) (d := mm.d) hp hq hne
  by_cases w : p.b > q.b
  · rw [dt w] at lc lt'
    have e1 : ld cn cd p q = false := lc
    have e2 : ld mm.n mm.d p q = true := lt'
    have w1 : ¬ rk cn cd l p < rk cn cd l q := fun h => by rw [r1.1 h] at e1; cases e1
    have w2 := r3.2 e2
    exact m5t_yes (b := 0) (hm := hmm) (ia := ⟨by omega, by omega⟩) (hlt := dt (by omega)) (hfp := f1) (hfq := f2) (hxp := a1) (hxq := a2) (hsb := hsub) (hq10 := pa) (hq20 := pb) (hw0 := df (by omega)) (hq11 := pc) (hq21 := pd) (hw1 := dt (by omega)) (hb := dt w) (hs := i64_succ (by omega)) (r := r)
  · rw [df w] at lc lt'
    have e1 : ld cn cd p q = true := lc
    have e2 : ld mm.n mm.d p q = false := lt'
    have w1 := r1.2 e1
    have w2 : ¬ rk mm.n mm.d l p < rk mm.n mm.d l q := fun h => by rw [r3.1 h] at e2; cases e2
    exact m5t_no (b := 0) (hm := hmm) (ia := ⟨by omega, by omega⟩) (hlt := dt (by omega)) (hfp := f1) (hfq := f2) (hxp := a1) (hxq := a2) (hsb := hsub) (hq10 := pa) (hq20 := pb) (hw0 := dt (by omega)) (hq11 := pc) (hq21 := pd) (hw1 := df (by omega)) (hb := df w) (hs := i64_succ (by omega)) (r := r)
theorem Met05_ok (hv : Val l) {cn cd tn td : Int} (oc : okB cn cd = true) (ot : okB tn td = true) (hlt : cn * td < tn * cd) {s s2 : List Pt} (hs : Srt l cn cd s) (h2 : Srt l tn td s2) {L : List Mt} {o m : Nat} (hL : ∀ a, a < m → ∃ mm, L[o + a]? = some mm ∧ mm ∈ msOf l ∧ mm.n = tn ∧ mm.d = td) (hm : m ≤ 100000) (he : m = (btw l cn cd tn td).length) :
    FnL Tryz.prog 15 4 [fldS 0 l, .ls 1 l.length, .ls 2 l.length, .lq 3 4 o m] [(0, 0, rowP l), (1, 0, rowN l.length s), (2, 0, rowN l.length s2), (3, 0, rowM L)] (.pv (.bool true)) 0 [] := by
  have r0 := m5_outer hv hs h2 (L := L) (o := o) (m := m) l.length 0 0 (by omega) (by omega)
  rw [List.drop_zero, swapped_len hv oc ot (by omega) hs h2, Nat.zero_add, ← he] at r0
  exact m5_path (r0 := r0) (r2 := m5_third hv oc hlt hs h2 hL hm m) (hvm := by simp) (hnn := by simp)
end
end Go.Proofs.YtpngjeloiifgnaaGreat
