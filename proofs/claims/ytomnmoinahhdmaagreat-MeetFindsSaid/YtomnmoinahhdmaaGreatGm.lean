/-
  MeetLast for any field. Conditions: none.
-/
import Derived.Test.YtomnmoinahhdmaaGreatW50
import Derived.Test.YtomnmoinahhdmaaGreatFq
namespace Go.Proofs.YtomnmoinahhdmaaGreat
open Go.RowKit
theorem best_nil {c : Mt → Mt → Int} {X : List Mt} (h : bestOf c X = none) : X = [] := by
  cases X with
  | nil => rfl
  | cons a r =>
    have := best_some (c := c) (a :: r) none (Or.inr (by simp))
    unfold bestOf at h
    rw [h] at this
    cases this
theorem best_lat {X : List Mt} (hX : ∀ m ∈ X, MtOk m) {b : Mt} (h : bestOf latM X = some b) : ∀ a ∈ X, 0 ≤ latM a b :=
  (best_min (c := latM) lat_neg X none b X (fun a ha b hb d hd h1 h2 => lat_tr (hX a ha) (hX b hb) (hX d hd) h1 h2) (fun a ha => ha) (fun a ha => by cases ha) h).2.2
theorem pairs_of : ∀ {l : List Pt} {i j : Nat} {p q : Pt}, i < j → l[i]? = some p → l[j]? = some q → (p, q) ∈ pairsOf l
  | [], i, j, p, q, _, h, _ => by simp at h
  | a :: r, 0, j, p, q, hij, hi, hj => by
    simp at hi
    subst hi
    rw [pairsOf]
    cases j with
    | zero => omega
    | succ j => exact List.mem_append_left _ (List.mem_map.2 ⟨q, List.mem_of_getElem? (i := j) (by simpa using hj), rfl⟩)
  | a :: r, i + 1, j, p, q, hij, hi, hj => by
    rw [pairsOf]
    cases j with
    | zero => omega
    | succ j => exact List.mem_append_right _ (pairs_of (i := i) (j := j) (by omega) (by simpa using hi) (by simpa using hj))
/-- Two points of a field with different speeds meet. -/
theorem ms_pair {l : List Pt} (hv : Val l) {p q : Pt} (hp : p ∈ l) (hq : q ∈ l) (hb : p.b ≠ q.b) : ∃ m ∈ msOf l, m.n * (p.b - q.b) = (q.a - p.a) * m.d := by
  obtain ⟨i, hi, rfl⟩ := List.getElem_of_mem hp
  obtain ⟨j, hj, rfl⟩ := List.getElem_of_mem hq
  rcases Nat.lt_trichotomy i j with h | h | h
  · have hx := pairs_of h (List.getElem?_eq_getElem hi) (List.getElem?_eq_getElem hj)
    rcases fM_any hv hx with ⟨e, _⟩ | ⟨_, m, hf, hm⟩
    · exact (hb e).elim
    · exact ⟨m, List.mem_filterMap.2 ⟨_, hx, hf⟩, hm.eq⟩
  · subst h; exact (hb rfl).elim
  · have hx := pairs_of h (List.getElem?_eq_getElem hj) (List.getElem?_eq_getElem hi)
    rcases fM_any hv hx with ⟨e, _⟩ | ⟨_, m, hf, hm⟩
    · exact (hb e.symm).elim
    · refine ⟨m, List.mem_filterMap.2 ⟨_, hx, hf⟩, ?_⟩
      have e := hm.eq
      have e0 : m.n * (l[j].b - l[i].b) = (l[i].a - l[j].a) * m.d := e
      have e1 : m.n * (l[i].b - l[j].b) = -(m.n * (l[j].b - l[i].b)) := by rw [← Int.mul_neg]; congr 1; omega
      have e2 : (l[j].a - l[i].a) * m.d = -((l[i].a - l[j].a) * m.d) := by rw [← Int.neg_mul]; congr 1; omega
      rw [e1, e2, e0]
/-- From the last meeting on the faster one is ahead. -/
theorem ld_after {l : List Pt} (hv : Val l) {T D : Int} (hd : 0 < D) (hT : ∀ m ∈ msOf l, 0 ≤ T * m.d - m.n * D) {p q : Pt} (hp : p ∈ l) (hq : q ∈ l) (hb : p.b ≠ q.b) : ld T D p q = decide (p.b > q.b) := by
  obtain ⟨m, hm, he⟩ := ms_pair hv hp hq hb
  have ok := ms_ok hv m hm
  have k0 := okB_den ok.ok
  unfold ld
  rw [leads_meet (m := m.n) (k := m.d) (by omega) he hb, dt ((sign_ge _).2 (hT m hm))]
  cases decide (p.b > q.b) <;> rfl
theorem ld_equal {p q : Pt} {T D T' D' : Int} (h : 0 < D) (h' : 0 < D') (hb : p.b = q.b) : ld T D p q = ld T' D' p q := by
  unfold ld
  rw [hb, leads_same h, leads_same h']
set_option maxRecDepth 100000 in
theorem MeetLast_any {tn td : Int} (h1 : I64 tn) (h2 : I64 td) (l : List Pt) : FnL Tryz.prog 4 1 [fldS 0 l, .pv (ratioV tn td)] [(0, 0, rowP l)] (.pv (.bool true)) 0 [] := by
  obtain ⟨b, f1, k1⟩ := Fit_any h1 h2 h1 h2 l
  cases b with
  | false => exact ml_no f1 Alive4
  | true =>
    obtain ⟨hv, g1, _, _⟩ := mE_ok (k1 rfl)
    have h64 := hv.len
    have hL := Last_any l
    unfold lastV at hL
    rw [if_pos (err_val.2 hv)] at hL
    cases hb : bestOf latM (msOf l) with
    | none =>
      rw [hb] at hL
      have hnil := best_nil hb
      have hsame : ∀ p ∈ l, ∀ q ∈ l, p.b = q.b := fun p hp q hq => by
        by_cases e : p.b = q.b
        · exact e
        · obtain ⟨m, hm, _⟩ := ms_pair hv hp hq e
          rw [hnil] at hm; cases hm
      refine ml_none f1 hL ?_ Alive4
      by_cases hl : l.length ≤ 1
      · exact ml_b_end (df (by omega))
      · refine RunsL.rounds (N := l.length) (fun k => [(2, .pp 1 0), (6, .pv (.int .i64 6)), (7, .pv (.int .i64 (k : Int)))]) (fun _ => [(1, 0, .ls 0 l.length), (0, 0, rowP l)]) (l.length - 1) 1 (by omega) (fun k h1k hk r => ?_) (ml_b_end (df (by omega)))
        obtain ⟨j, rfl⟩ : ∃ j, k = j + 1 := ⟨k - 1, by omega⟩
        obtain ⟨p, hp⟩ := get_some (l := l) (k := j + 1) (by omega)
        obtain ⟨p0, hp0⟩ := get_some (l := l) (k := 0) (by omega)
        exact ml_b_next hp ⟨by omega, by omega⟩ hp0 ⟨by omega, by omega⟩ (dt (by omega)) (by simp [hsame p (List.mem_of_getElem? hp) p0 (List.mem_of_getElem? hp0)]) (i64_succ (by omega)) r
    | some m =>
      rw [hb] at hL
      have hmm := bestOf_mem hb
      have okm := ms_ok hv m hmm
      have dm := okB_den okm.ok
      have hlat := best_lat (ms_ok hv) hb
      have hmax : ∀ a ∈ msOf l, 0 ≤ m.n * a.d - a.n * m.d := fun a ha => by
        have := hlat a ha
        unfold latM at this
        exact (sign_ge _).1 this
      have hno : (msOf l).filter (kpA m.n m.d) = [] := by
        rw [List.filter_eq_nil_iff]
        intro a ha h
        have := kpA_iff.1 h
        have := hmax a ha
        omega
      have i1 := okm.n
      have i2 := okm.d
      have z : mE l m.n m.d 9223372036854775807 1 = 0 := mE_ok0 hv okm.ok (by decide) (by unfold I64 at i1; omega)
      have hC := Count_any okm.n okm.d (show I64 9223372036854775807 by decide) (show I64 1 by decide) l
      unfold countV at hC
      rw [if_pos z, show btw l m.n m.d 9223372036854775807 1 = [] by unfold btw; rw [hno]; rfl] at hC
      have hN := Next_any okm.n okm.d l
      unfold nextV at hN
      rw [if_pos (err_val.2 hv), if_pos okm.ok, hno] at hN
      have hcm := RCompare_any h1 h2 okm.n okm.d
      have hck := RCheck_ok okm.n okm.d okm.ok
      have dt' := okB_den g1
      by_cases hlt : (tn * m.d - m.n * td).sign < 0
      · exact ml_before f1 hL hck hC hN hcm (dt hlt) Alive4
      · have hge : 0 ≤ tn * m.d - m.n * td := by rcases sg_cases (tn * m.d - m.n * td) with ⟨w, z⟩ | ⟨w, z⟩ | ⟨w, z⟩ <;> omega
        have hmax2 : ∀ a ∈ msOf l, 0 ≤ tn * a.d - a.n * td := fun a ha => by
          have da := okB_den (ms_ok hv a ha).ok
          have := frac_ge (an := tn) (ad := td) (bn := m.n) (bd := m.d) (cn := a.n) (cd := a.d) (by omega) (by omega) (by omega) (by omega) (by have := hmax a ha; omega)
          omega
        obtain ⟨s, hs⟩ := Srt_pure (tn := m.n) (td := m.d) hv
        have hs2 : Srt l tn td s := by
          refine ⟨hs.perm, hs.pw.imp_of_mem fun {p q} hp hq h => ?_⟩
          have hp' := hs.perm.mem_iff.1 hp
          have hq' := hs.perm.mem_iff.1 hq
          by_cases e : p.b = q.b
          · rw [← h]; exact ld_equal (by omega) (by omega) e
          · rw [ld_after hv (by omega) hmax hp' hq' e] at h
            rw [ld_after hv (by omega) hmax2 hp' hq' e]
            exact h
        have o1 := POrder_ok hv ⟨okm.n, okm.d, okm.ok⟩ hs
        have o2 := POrder_ok hv ⟨h1, h2, g1⟩ hs2
        have hsl := hs.len
        refine ml_after f1 hL hck hC hN hcm (df hlt) o1 o2 (SameIDs_ok (by rw [List.length_map]; exact hsl) (by omega)) ?_ Alive4
        by_cases hl : l.length ≤ 1
        · exact ml_o_end (df (by omega))
        · refine RunsL.rounds (N := l.length) (fun k => [(2, .pp 1 0), (14, .ls 6 l.length), (16, .pv (.int .i64 (k : Int)))]) (fun _ => [(1, 0, .ls 0 l.length), (0, 0, rowP l), (6, 0, .row 3 1 l.length (idsV (s.map Pt.id)))]) (l.length - 1) 1 (by omega) (fun k h1k hk r => ?_) (ml_o_end (df (by omega)))
          obtain ⟨j, rfl⟩ : ∃ j, k = j + 1 := ⟨k - 1, by omega⟩
          obtain ⟨p, hp⟩ := get_some (l := s) (k := j) (by omega)
          obtain ⟨q, hq⟩ := get_some (l := s) (k := j + 1) (by omega)
          have hp' := hs.perm.mem_iff.1 (List.mem_of_getElem? hp)
          have hq' := hs.perm.mem_iff.1 (List.mem_of_getElem? hq)
          obtain ⟨a, ha, ea⟩ := List.getElem_of_mem hp'
          obtain ⟨c, hc, ec⟩ := List.getElem_of_mem hq'
          have hpq : ld m.n m.d p q = true := by
            have hj : j < s.length := get_lt hp
            have hj1 : j + 1 < s.length := get_lt hq
            have h := (List.pairwise_iff_getElem.1 hs.pw) j (j + 1) hj hj1 (by omega)
            have e1 : s[j] = p := by rw [List.getElem?_eq_getElem hj] at hp; exact Option.some.inj hp
            have e2 : s[j + 1] = q := by rw [List.getElem?_eq_getElem hj1] at hq; exact Option.some.inj hq
            rw [e1, e2] at h
            exact h
          have hbb : ¬ p.b < q.b := fun hlt => by
            rw [ld_after hv (by omega) hmax hp' hq' (by omega)] at hpq
            have := of_decide_eq_true hpq
            omega
          exact ml_o_next (by rw [List.getElem?_map, hp]; rfl) (by rw [List.getElem?_map, hq]; rfl) ⟨by omega, by omega⟩ ⟨by omega, by omega⟩ (dt (by omega)) (i64_pred j (by omega)) (FindP_yes hv (k := a) (by rw [List.getElem?_eq_getElem ha, ea]) rfl) (FindP_yes hv (k := c) (by rw [List.getElem?_eq_getElem hc, ec]) rfl) (df hbb) (i64_succ (by omega)) r
theorem last_walk {u : Value} {l : List Pt} {W : World} (hr : Rd W 3 u l.length (ptsV l)) {tn td : Int} (h5 : -9223372036854775808 ≤ tn ∧ tn ≤ 9223372036854775807) (h6 : -9223372036854775808 ≤ td ∧ td ≤ 9223372036854775807) :
    Calls Tryz.prog 4 #[.agg #[u], ratioV tn td] W fun e W' => e = .returned (.bool true) ∧ Gr W W' :=
  fld_run (vs := [ratioV tn td]) (MeetLast_any h5 h6 l) hr
end Go.Proofs.YtomnmoinahhdmaaGreat
