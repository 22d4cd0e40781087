/-
  MeetSwaps for any field. Conditions: none.
-/
import Derived.Test.YtomnmoinahhdmaaW46
import Derived.Test.YtomnmoinahhdmaaFq
import Derived.Test.YtomnmoinahhdmaaW29
namespace Go.Proofs.Ytomnmoinahhdmaa
open Go.RowKit
theorem pairs_idx : ∀ {l : List Pt} {x : Pt × Pt}, x ∈ pairsOf l → ∃ a b : Nat, a < b ∧ l[a]? = some x.1 ∧ l[b]? = some x.2
  | [], x, h => by cases h
  | p :: r, x, h => by
    rw [pairsOf] at h
    rcases List.mem_append.1 h with h | h
    · obtain ⟨q, hq, rfl⟩ := List.mem_map.1 h
      obtain ⟨k, hk, rfl⟩ := List.getElem_of_mem hq
      exact ⟨0, k + 1, by omega, rfl, by simp [hk]⟩
    · obtain ⟨a, b, hab, ha, hb⟩ := pairs_idx h
      exact ⟨a + 1, b + 1, by omega, by simpa using ha, by simpa using hb⟩
theorem mul_bdM {x y : Int} (h1 : -1048576 ≤ x) (h2 : x ≤ 1048576) (h3 : -1048576 ≤ y) (h4 : y ≤ 1048576) : -1099511627776 ≤ x * y ∧ x * y ≤ 1099511627776 := by
  have : (x * y).natAbs ≤ 1099511627776 := by
    rw [Int.natAbs_mul]
    exact Nat.le_trans (Nat.mul_le_mul (show x.natAbs ≤ 1048576 by omega) (show y.natAbs ≤ 1048576 by omega)) (by decide)
  omega
/-- At their meeting both points are at one place, which is in range. -/
theorem meet_place {p q : Pt} (hp : okPt p = true) (hq : okPt q = true) {m : Mt} (hm : MSpec p q m) (hb : p.b ≠ q.b) :
    ∃ N D, Pure Try.prog 26 #[ptV p, ratioV m.n m.d] (.tuple #[ratioV N D, .int .i64 0]) ∧ Pure Try.prog 26 #[ptV q, ratioV m.n m.d] (.tuple #[ratioV N D, .int .i64 0]) := by
  have d0 := okB_den hm.ok
  obtain ⟨N, D, E, hr, ha⟩ := At_res hm.n hm.d hp hm.ok
  obtain ⟨N', D', E', hr', ha'⟩ := At_res hm.n hm.d hq hm.ok
  have hp' := okP_iff.1 hp
  have hq' := okP_iff.1 hq
  have b1 := mul_bdM (x := p.b) (y := q.a) (by omega) (by omega) (by omega) (by omega)
  have b2 := mul_bdM (x := p.a) (y := q.b) (by omega) (by omega) (by omega) (by omega)
  have e := hm.eq
  have k1 : (p.a * m.d + p.b * m.n) * (p.b - q.b) = (p.b * q.a - p.a * q.b) * m.d := by
    have : (p.a * m.d + p.b * m.n) * (p.b - q.b) = p.a * m.d * (p.b - q.b) + p.b * (m.n * (p.b - q.b)) := by rw [Int.add_mul, Int.mul_assoc p.b]
    rw [this, e]
    simp only [Int.mul_sub, Int.sub_mul, Int.mul_assoc, Int.mul_comm m.d, Int.mul_left_comm]
    simp only [Int.mul_comm, Int.mul_left_comm]
    omega
  have k2 : (q.a * m.d + q.b * m.n) * (p.b - q.b) = (p.b * q.a - p.a * q.b) * m.d := by
    have : (q.a * m.d + q.b * m.n) * (p.b - q.b) = q.a * m.d * (p.b - q.b) + q.b * (m.n * (p.b - q.b)) := by rw [Int.add_mul, Int.mul_assoc q.b]
    rw [this, e]
    simp only [Int.mul_sub, Int.sub_mul, Int.mul_assoc, Int.mul_comm m.d, Int.mul_left_comm]
    simp only [Int.mul_comm, Int.mul_left_comm]
    omega
  have c1 := hr.congr (by omega) (by omega) k1
  have c2 := hr'.congr (by omega) (by omega) k2
  have fit : ∀ {N D E : Int}, IsRes (p.b * q.a - p.a * q.b) (p.b - q.b) N D E → E = 0 ∧ okB N D = true ∧ N * (p.b - q.b) = (p.b * q.a - p.a * q.b) * D := by
    intro N D E h
    by_cases hs : 0 < p.b - q.b
    · obtain ⟨h1, h2, _, _, h5⟩ := h.fits hs (by omega) (by omega) (by omega)
      exact ⟨h1, h2, h5⟩
    · have h2 := h.congr (p' := -(p.b * q.a - p.a * q.b)) (q' := -(p.b - q.b)) (by omega) (by omega) (by rw [Int.mul_neg, Int.neg_mul])
      obtain ⟨e1, e2, _, _, e5⟩ := h2.fits (by omega) (by omega) (by omega) (by omega)
      refine ⟨e1, e2, ?_⟩
      rw [Int.mul_neg, Int.neg_mul] at e5
      omega
  obtain ⟨e0, o1, f1⟩ := fit c1
  obtain ⟨e0', o2, f2⟩ := fit c2
  have hne : p.b - q.b ≠ 0 := by omega
  have e3 : N * D' = N' * D := by
    refine Int.eq_of_mul_eq_mul_right hne ?_
    rw [Int.mul_right_comm, f1, Int.mul_right_comm N' D, f2, Int.mul_right_comm]
  obtain ⟨g1, g2⟩ := okB_one o1 o2 e3
  subst e0 e0' g1 g2
  exact ⟨N, D, ha, ha'⟩
theorem btwS_lt {l : List Pt} (hv : Val l) {fn fd tn td : Int} {i : Nat} {a b : Mt} (ha : (btwS l fn fd tn td)[i]? = some a) (hb : (btwS l fn fd tn td)[i + 1]? = some b) : befB a b = true := by
  have hp := btwS_pw hv fn fd tn td
  have hnd : (btwS l fn fd tn td).Nodup := by
    have h1 : (msOf l).Nodup := by
      unfold msOf
      have key : ∀ (X : List (Pt × Pt)), (∀ x ∈ X, x ∈ pairsOf l) → X.Pairwise (fun x y => x.1.id ≠ y.1.id ∨ x.2.id ≠ y.2.id) → (X.filterMap fM).Nodup := by
        intro X
        induction X with
        | nil => intro _ _; exact List.nodup_nil
        | cons x r ih =>
          intro hX hw
          have i := ih (fun y hy => hX y (List.mem_cons_of_mem _ hy)) (List.pairwise_cons.1 hw).2
          rcases fM_any hv (hX x List.mem_cons_self) with ⟨_, h⟩ | ⟨_, m, h, hm⟩
          · rw [List.filterMap_cons_none h]; exact i
          · rw [List.filterMap_cons_some h]
            refine List.nodup_cons.2 ⟨fun hin => ?_, i⟩
            obtain ⟨y, hy, e⟩ := List.mem_filterMap.1 hin
            rcases fM_any hv (hX y (List.mem_cons_of_mem _ hy)) with ⟨_, h'⟩ | ⟨_, m', h', hm'⟩
            · rw [h'] at e; cases e
            · rw [h'] at e; cases e
              have := (List.pairwise_cons.1 hw).1 y hy
              have e1 : x.1.id = y.1.id := hm.i.symm.trans hm'.i
              have e2 : x.2.id = y.2.id := hm.j.symm.trans hm'.j
              rcases this with h | h
              · exact h e1
              · exact h e2
      refine key _ (fun x hx => hx) ?_
      have : ∀ (r : List Pt), Up r → (pairsOf r).Pairwise (fun x y => x.1.id ≠ y.1.id ∨ x.2.id ≠ y.2.id) := by
        intro r
        induction r with
        | nil => intro _; exact List.Pairwise.nil
        | cons p r ih =>
          intro hu
          rw [pairsOf]
          refine List.pairwise_append.2 ⟨?_, ih (up_tail hu), ?_⟩
          · rw [List.pairwise_map, List.pairwise_iff_getElem]
            intro i j hi hj hij
            have := (up_tail hu).mono hij (List.getElem?_eq_getElem hi) (List.getElem?_eq_getElem hj)
            exact Or.inr fun e => by
              have e' : r[i].id = r[j].id := e
              omega
          · intro x hx y hy
            obtain ⟨q, hq, rfl⟩ := List.mem_map.1 hx
            obtain ⟨k, hk, e⟩ := List.getElem_of_mem (pairs_mem hy).1
            have := hu.mono (i := 0) (j := k + 1) (p := p) (q := y.1) (by omega) rfl (by simp [hk, e])
            exact Or.inl (by show p.id ≠ y.1.id; omega)
      exact this l hv.up
    exact (btwS_perm l fn fd tn td).nodup_iff.2 ((h1.filter _).filter _)
  have hi : i < (btwS l fn fd tn td).length := get_lt ha
  have hj : i + 1 < (btwS l fn fd tn td).length := get_lt hb
  have ea : (btwS l fn fd tn td)[i] = a := by rw [List.getElem?_eq_getElem hi] at ha; exact Option.some.inj ha
  have eb : (btwS l fn fd tn td)[i + 1] = b := by rw [List.getElem?_eq_getElem hj] at hb; exact Option.some.inj hb
  have h1 := (List.pairwise_iff_getElem.1 hp) i (i + 1) hi hj (by omega)
  have h2 := (List.pairwise_iff_getElem.1 hnd) i (i + 1) hi hj (by omega)
  rw [ea, eb] at h1 h2
  rw [bef_ord]
  have oka : MtOk a := ms_ok hv a (btwS_mem.1 (List.mem_of_getElem? ha)).1
  have okb : MtOk b := ms_ok hv b (btwS_mem.1 (List.mem_of_getElem? hb)).1
  have e := ord_neg a b
  refine decide_eq_true ?_
  rcases Int.lt_trichotomy (ordM a b) 0 with h | h | h
  · exact h
  · exact (h2 (ord_eq oka okb h)).elim
  · omega
theorem MeetSwaps_any {fn fd tn td : Int} (h1 : I64 fn) (h2 : I64 fd) (h3 : I64 tn) (h4 : I64 td) (l : List Pt) : FnL Try.prog 4 1 [fldS 0 l, .pv (ratioV fn fd), .pv (ratioV tn td)] [(0, 0, rowP l)] (.pv (.bool true)) 0 [] := by
  obtain ⟨b, f1, k1⟩ := Fit_any h1 h2 h3 h4 l
  cases b with
  | false => exact ms_no f1 Alive4
  | true =>
    have z := k1 rfl
    obtain ⟨hv, g1, g2, hle⟩ := mE_ok z
    have hA := All_ok h1 h2 h3 h4 l z
    have hC := Count_any h1 h2 h3 h4 l
    have hS := Swaps_any h1 h2 h3 h4 l
    unfold countV at hC
    unfold swapsV at hS
    rw [if_pos z] at hC hS
    rw [swaps_len hv g1 g2 hle] at hS
    have hlen := (btwS_perm l fn fd tn td).length_eq
    rw [← hlen] at hC hS
    have hl2 := btwS_len hv fn fd tn td
    have hlt := fun i a b => btwS_lt (i := i) (a := a) (b := b) hv (fn := fn) (fd := fd) (tn := tn) (td := td)
    have hmem := fun m => btwS_mem (l := l) (fn := fn) (fd := fd) (tn := tn) (td := td) (m := m)
    generalize btwS l fn fd tn td = s at *
    have h64 := hv.len
    refine ms_yes f1 hA hC hS (by simp) (by simp) (RunsL.rounds (fun k => [(3, .pp 1 0), (4, .pp 2 0), (5, .pp 3 0), (7, .lq 4 4 0 s.length), (13, .pv (.int .i64 (k : Int)))]) (fun _ => [(1, 0, .ls 0 l.length), (2, 0, .pv (.int .i64 fn)), (2, 1, .pv (.int .i64 fd)), (3, 0, .pv (.int .i64 tn)), (3, 1, .pv (.int .i64 td)), (0, 0, rowP l), (4, 0, rowM s)]) s.length 0 (Nat.zero_add _) (fun k _ hk r => ?_) (ms_end (df (by omega)))) Alive4
    obtain ⟨m, hm⟩ := get_some (l := s) (k := k) (by omega)
    obtain ⟨hms, ka, kb⟩ := (hmem m).1 (List.mem_of_getElem? hm)
    obtain ⟨x, hx, hsp, hb⟩ := ms_mem hv hms
    obtain ⟨a, c, hac, hpa, hqc⟩ := pairs_idx hx
    have okp := hv.ok _ (pairs_mem hx).1
    have okq := hv.ok _ (pairs_mem hx).2
    have hid := pairs_lt hv.up hx
    obtain ⟨N, D, p1, p2⟩ := meet_place okp okq hsp hb
    have hai := At_yes hv hpa hsp.i.symm
    have haj := At_yes hv hqc hsp.j.symm
    have ok := ms_ok hv m hms
    have w1 := Ahead_ok h1 h2 okp okq g1 (show x.1.id ≠ x.2.id by omega)
    have w2 := Ahead_ok h3 h4 okp okq g2 (show x.1.id ≠ x.2.id by omega)
    have hsw := swap_meets hv g1 g2 hle hx
    have hfm : fM x = some m := by
      rcases fM_any hv hx with ⟨hb', _⟩ | ⟨_, m', hf, hm'⟩
      · exact (hb hb').elim
      · have e1 : m.n * m'.d = m'.n * m.d := by
          refine Int.eq_of_mul_eq_mul_right (show x.1.b - x.2.b ≠ 0 by omega) ?_
          rw [Int.mul_right_comm, hsp.eq, Int.mul_right_comm m'.n, hm'.eq, Int.mul_right_comm]
        obtain ⟨e2, e3⟩ := okB_one hsp.ok hm'.ok e1
        rw [hf]
        congr 1
        have e4 := hsp.i; have e5 := hsp.j; have e6 := hm'.i; have e7 := hm'.j
        cases m; cases m'
        simp only at *
        subst e2 e3
        simp [e4, e5, e6, e7]
    rw [hfm] at hsw
    have hsw' : (ldB fn fd x != ldB tn td x) = (kpA fn fd m && kpB tn td m) := hsw
    rw [ka, kb] at hsw'
    have hw : (ldB fn fd x == ldB tn td x) = false := by
      cases h1 : ldB fn fd x <;> cases h2 : ldB tn td x <;> rw [h1, h2] at hsw' <;> simp at hsw' ⊢
    have q1 := kpA_iff.1 ka
    have q2 := kpB_iff.1 kb
    have hck := RCheck_ok ok.n ok.d ok.ok
    have hc1 := RCompare_any ok.n ok.d h1 h2
    have hc2 := RCompare_any ok.n ok.d h3 h4
    have s1 : decide ((m.n * fd - fn * m.d).sign ≤ 0) = false := df (by rw [Int.sign_eq_one_of_pos q1]; decide)
    have s2 : decide ((m.n * td - tn * m.d).sign > 0) = false := df (by rcases sg_cases (m.n * td - tn * m.d) with ⟨w, z⟩ | ⟨w, z⟩ | ⟨w, z⟩ <;> omega)
    have hla := get_lt hpa
    have hlc := get_lt hqc
    cases k with
    | zero =>
      exact ms_first hm ⟨by omega, by omega⟩ (dt (by omega)) hai haj (df (by omega)) (df (by omega)) hck hc1 s1 hc2 s2 hpa hqc ⟨by omega, by omega⟩ ⟨by omega, by omega⟩ p1 p2 w1 w2 (by simp) hw (by rw [wrap_i64_in (by omega) (by omega)]; rfl) r
    | succ k =>
      obtain ⟨m0, hm0⟩ := get_some (l := s) (k := k) (by omega)
      have ok0 := ms_ok hv m0 ((hmem m0).1 (List.mem_of_getElem? hm0)).1
      have hbf := Before_ok ok0 ok
      rw [hlt k m0 m hm0 hm] at hbf
      exact ms_next hm ⟨by omega, by omega⟩ (dt (by omega)) hai haj (df (by omega)) (df (by omega)) hck hc1 s1 hc2 s2 (dt (by omega)) (i64_pred k (by omega)) hm0 ⟨by omega, by omega⟩ hbf hpa hqc ⟨by omega, by omega⟩ ⟨by omega, by omega⟩ p1 p2 w1 w2 (by simp) hw (by rw [wrap_i64_in (by omega) (by omega)]; rfl) r
theorem swaps_walk {u : Value} {l : List Pt} {W : World} (hr : Rd W 3 u l.length (ptsV l)) {fn fd tn td : Int} (h1 : -9223372036854775808 ≤ fn ∧ fn ≤ 9223372036854775807) (h2 : -9223372036854775808 ≤ fd ∧ fd ≤ 9223372036854775807) (h5 : -9223372036854775808 ≤ tn ∧ tn ≤ 9223372036854775807) (h6 : -9223372036854775808 ≤ td ∧ td ≤ 9223372036854775807) :
    Calls Try.prog 4 #[.agg #[u], ratioV fn fd, ratioV tn td] W fun e W' => e = .returned (.bool true) ∧ Gr W W' :=
  fld_run (vs := [ratioV fn fd, ratioV tn td]) (MeetSwaps_any h1 h2 h5 h6 l) hr
end Go.Proofs.Ytomnmoinahhdmaa
