/-
  half05 and crest05 of TopMoves. Conditions: none.
-/
import Derived.Test.YtpngjeloiifgnaaGreatW46
import Derived.Test.YtpngjeloiifgnaaGreatJe
import Derived.Test.YtpngjeloiifgnaaGreatW41
import Derived.Test.YtpngjeloiifgnaaGreatW37
import Derived.Test.YtpngjeloiifgnaaGreatW29
import Derived.Test.YtpngjeloiifgnaaGreatW26
namespace Go.Proofs.YtpngjeloiifgnaaGreat
open Go.RowKit
section
variable {l : List Pt}
theorem ld_keep (hv : Val l) {an ad wn wd : Int} (oa : okB an ad = true) (ow : okB wn wd = true) (hle : an * wd ≤ wn * ad) (hb : btw l an ad wn wd = []) {p q : Pt} (hp : p ∈ l) (hq : q ∈ l) : ld wn wd p q = ld an ad p q := by
  have a0 := okB_den oa
  have w0 := okB_den ow
  by_cases hbb : p.b = q.b
  · exact ld_equal (by omega) (by omega) hbb
  · obtain ⟨m, hm, he⟩ := ms_pair hv hp hq hbb
    have ok := ms_ok hv m hm
    have k0 := okB_den ok.ok
    have e1 : ld an ad p q = (decide (p.b > q.b) == decide ((an * m.d - m.n * ad).sign ≥ 0)) := leads_meet (by omega) he hbb
    have e2 : ld wn wd p q = (decide (p.b > q.b) == decide ((wn * m.d - m.n * wd).sign ≥ 0)) := leads_meet (by omega) he hbb
    have s1 := sg_cases (an * m.d - m.n * ad)
    have s2 := sg_cases (wn * m.d - m.n * wd)
    rw [e1, e2]
    congr 1
    by_cases g : an * m.d - m.n * ad ≥ 0
    · have g2 := frac_ge (an := wn) (ad := wd) (bn := an) (bd := ad) (cn := m.n) (cd := m.d) (by omega) (by omega) (by omega) (by omega) g
      rw [dt (show (an * m.d - m.n * ad).sign ≥ 0 by omega), dt (show (wn * m.d - m.n * wd).sign ≥ 0 by omega)]
    · by_cases g2 : wn * m.d - m.n * wd ≥ 0
      · have : m ∈ btw l an ad wn wd := by
          refine List.mem_filter.2 ⟨List.mem_filter.2 ⟨hm, ?_⟩, ?_⟩
          · have s3 := sg_cases (m.n * ad - an * m.d)
            exact dt (by omega)
          · have s3 := sg_cases (m.n * wd - wn * m.d)
            exact dt (by omega)
        rw [hb] at this; cases this
      · rw [df (show ¬ (an * m.d - m.n * ad).sign ≥ 0 by omega), df (show ¬ (wn * m.d - m.n * wd).sign ≥ 0 by omega)]
theorem srt_keep (hv : Val l) {an ad wn wd : Int} (oa : okB an ad = true) (ow : okB wn wd = true) (hle : an * wd ≤ wn * ad) (hb : btw l an ad wn wd = []) {s : List Pt} (hs : Srt l an ad s) : Srt l wn wd s :=
  ⟨hs.perm, hs.pw.imp_of_mem fun {p q} hp hq h => by rw [ld_keep hv oa ow hle hb (hs.perm.mem_iff.1 hp) (hs.perm.mem_iff.1 hq)]; exact h⟩
theorem mid_between {an ad un ud sn sd hn hd : Int} (a0 : 0 < ad) (u0 : 0 < ud) (s0 : 0 < sd) (h0 : 0 < hd) (e1 : hn * (sd * 2) = sn * 1 * hd) (e2 : sn * (ad * ud) = (an * ud + un * ad) * sd) (le : an * ud ≤ un * ad) : an * hd ≤ hn * ad ∧ hn * ud ≤ un * hd := by
  have e1' : hn * sd + hn * sd = sn * hd := by
    rw [Int.mul_one, ← Int.mul_assoc] at e1
    omega
  have e3 : hn * (ad * ud) + hn * (ad * ud) = (an * ud + un * ad) * hd := by
    refine Int.eq_of_mul_eq_mul_right (show sd ≠ 0 by omega) ?_
    have f1 := congrArg (· * (ad * ud)) e1'
    have f2 := congrArg (· * hd) e2
    simp only [Int.mul_one, Int.add_mul, Int.mul_add, Int.mul_assoc, Int.mul_comm, Int.mul_left_comm] at f1 f2 ⊢
    omega
  have le' := Int.mul_le_mul_of_nonneg_right le (Int.le_of_lt h0)
  constructor
  · refine Int.not_lt.1 fun g => ?_
    have g' := Int.mul_lt_mul_of_pos_right g u0
    simp only [Int.add_mul, Int.mul_add, Int.mul_assoc, Int.mul_comm, Int.mul_left_comm] at g' le' e3
    omega
  · refine Int.not_lt.1 fun g => ?_
    have g' := Int.mul_lt_mul_of_pos_right g a0
    simp only [Int.add_mul, Int.mul_add, Int.mul_assoc, Int.mul_comm, Int.mul_left_comm] at g' le' e3
    omega
theorem Mul_bad {c d : Int} (hc : I64 c) (hd : I64 d) : Pure Tryz.prog 48 #[ratioV 0 0, ratioV c d] (.tuple #[ratioV 0 0, .int .i64 8]) := fun w => by
  have := mul_any 0 0 c d w (by decide) (by decide) hc hd
  rwa [if_neg (fun h => by exact absurd h.1 (by decide))] at this
theorem Half_ok (hv : Val l) {an ad tn td un ud : Int} (ha : Tm an ad) (hu : Tm un ud) {s : List Pt} (hs : Srt l an ad s) {L : List Mt} {k : Nat}
    (hup : (∃ mm, L[k]? = some mm ∧ mm.n = un ∧ mm.d = ud) ∨ (¬ k < L.length ∧ un = tn ∧ ud = td)) (le : an * ud ≤ un * ad) (hno : ∀ wn wd, okB wn wd = true → an * wd ≤ wn * ad → wn * ud < un * wd → btw l an ad wn wd = []) :
    FnL Tryz.prog 16 3 [fldS 0 l, .ls 1 l.length, .pv (ratioV an ad), .lq 2 4 0 L.length, .pv (.int .i64 (k : Int)), .pv (ratioV tn td)] [(0, 0, rowP l), (1, 0, rowN l.length s), (2, 0, rowM L)] (.pv (.bool true)) 0 [] := by
  have a0 := okB_den ha.ok
  have u0 := okB_den hu.ok
  obtain ⟨sn, sd, e1, r1, hadd⟩ := Add_res ha.hn ha.hd hu.hn hu.hd ha.ok hu.ok
  have h64 := hv.len
  rcases r1 with ⟨rfl, o1, i1, i2, q1⟩ | ⟨rfl, rfl, rfl, _⟩
  · obtain ⟨hn, hd, e2, r2, hmul⟩ := Mul_res i1 i2 (show I64 1 by decide) (show I64 2 by decide) o1 (show okB 1 2 = true by decide)
    have s0 := okB_den o1
    rcases r2 with ⟨rfl, o2, j1, j2, q2⟩ | ⟨rfl, rfl, rfl, _⟩
    · have h0 := okB_den o2
      have mb := mid_between (by omega) (by omega) (by omega) (by omega) q2 q1 le
      have hcmp := Cmp_ok j1 j2 hu.hn hu.hd o2 hu.ok
      have sg := sg_cases (hn * ud - un * hd)
      have tm : Tm hn hd := ⟨j1, j2, o2⟩
      by_cases hc : (hn * ud - un * hd).sign = 0
      · obtain ⟨s', hs'⟩ := Srt_ex (X := True) (tn := hn) (td := hd) hv trivial
        have ho := POrder_ok hv tm hs'
        rcases hup with ⟨mm, hmm, rfl, rfl⟩ | ⟨hk, rfl, rfl⟩
        · have := get_lt hmm
          exact hf_y_c0 (hlt := dt (by omega)) (hm := hmm) (ik := ⟨by omega, by omega⟩) (hadd := hadd) (hmul := hmul) (hcmp := hcmp) (hord := ho) (hc0 := by simpa using hc)
        · exact hf_n_c0 (hlt := df (by omega)) (hadd := hadd) (hmul := hmul) (hcmp := hcmp) (hord := ho) (hc0 := by simpa using hc)
      · have hs' := srt_keep hv ha.ok o2 mb.1 (hno hn hd o2 mb.1 (by omega)) hs
        have ho := POrder_ok hv tm hs'
        have hsm := SameIDs_ok (g := s.map Pt.id) (n := l.length) (by rw [List.length_map]; exact hs.len) (by omega)
        rcases hup with ⟨mm, hmm, rfl, rfl⟩ | ⟨hk, rfl, rfl⟩
        · have := get_lt hmm
          exact hf_y_same (hlt := dt (by omega)) (hm := hmm) (ik := ⟨by omega, by omega⟩) (hadd := hadd) (hmul := hmul) (hcmp := hcmp) (hord := ho) (hc0 := by simpa using hc) (hsm := hsm)
        · exact hf_n_same (hlt := df (by omega)) (hadd := hadd) (hmul := hmul) (hcmp := hcmp) (hord := ho) (hc0 := by simpa using hc) (hsm := hsm)
    · rcases hup with ⟨mm, hmm, rfl, rfl⟩ | ⟨hk, rfl, rfl⟩
      · have := get_lt hmm
        exact hf_y_e2 (hlt := dt (by omega)) (hm := hmm) (ik := ⟨by omega, by omega⟩) (hadd := hadd) (hmul := hmul) (h2 := by decide)
      · exact hf_n_e2 (hlt := df (by omega)) (hadd := hadd) (hmul := hmul) (h2 := by decide)
  · have hmul := Mul_bad (c := 1) (d := 2) (by decide) (by decide)
    rcases hup with ⟨mm, hmm, rfl, rfl⟩ | ⟨hk, rfl, rfl⟩
    · have := get_lt hmm
      exact hf_y_e1 (hlt := dt (by omega)) (hm := hmm) (ik := ⟨by omega, by omega⟩) (hadd := hadd) (hmul := hmul) (h1 := by decide)
    · exact hf_n_e1 (hlt := df (by omega)) (hadd := hadd) (hmul := hmul) (h1 := by decide)
theorem Crest05_ok (hv : Val l) {fn fd tn td : Int} (hf : Tm fn fd) (ht : Tm tn td) (le : fn * td ≤ tn * fd) {s : List Pt} (hs : Srt l tn td s) :
    FnL Tryz.prog 18 2 [fldS 0 l, .pv (ratioV fn fd), .pv (ratioV tn td), .ls 1 l.length] [(0, 0, rowP l), (1, 0, rowN l.length s)] (.pv (.bool true)) 0 [] := by
  by_cases hne : l = []
  · subst hne
    exact ct_none (hof := Of_none hf) (h0 := by simp)
  · have hc := crest_base hv hne hf
    have vc := crest_vc hv hne hf
    have hi := crest_i64 hv hne hf
    have hlen := crest_len hv hne hf
    have h64 := hv.len
    have hpos : 0 < l.length := List.length_pos_iff.2 hne
    have hof := Of_ok hv hne hf
    have f0 := okB_den hf.ok
    have t0 := okB_den ht.ok
    have z := crest_zero hv hne hf
    have zle : cv ⟨fn, fd, (ldr l fn fd).id⟩ tn td ≤ 0 := by
      have : ¬ cv (Ld.mk fn fd (ldr l fn fd).id) tn td > 0 := by rw [cv_pos]; show ¬ tn * fd < fn * td; omega
      omega
    obtain ⟨k, y, hk⟩ := at_ex vc (tn := tn) (td := td) (by omega) z zle
    obtain ⟨q, hcr, hq⟩ := at_leads hv hne hf ht hk
    have hat := CAt_ok hi vc ht z zle hk
    have hy := ldr_srt hs hne
    have eid : y.id = (ldr l tn td).id := by rw [hq, hcr.base.id]
    have hck := RCk_ok hi vc
    generalize crest l fn fd = c at *
    refine ct_path (hof := hof) (h0 := by simpa using hne) (hat := hat) (hn0 := by simpa using hne) (y := (ldr l tn td).id) (hy := by rw [List.getElem?_map, hy]; rfl) (iy := ⟨Int.le_refl _, by omega⟩) (hid := by simp [eid]) (hck := hck)
      (r0 := RunsL.rounds (fun k => [(4, .pp 2 0), (5, .pp 3 0), (6, .pp 4 0), (9, .ls 5 c.length), (13, .pv (.int .i64 (k : Int)))]) (fun _ => [(2, 0, .ls 0 l.length), (3, 0, .pv (.int .i64 fn)), (3, 1, .pv (.int .i64 fd)), (4, 0, .pv (.int .i64 tn)), (4, 1, .pv (.int .i64 td)), (0, 0, rowP l), (1, 0, rowN l.length s), (5, 0, rowL c)]) c.length 0 (Nat.zero_add _) (fun k _ hk r => ?_) (ct_end (hge := df (by omega))))
    obtain ⟨x, hx⟩ := get_some (l := c) (k := k) hk
    obtain ⟨p, B⟩ := hc x (List.mem_of_getElem? hx)
    have hL := PLeader_ok hv B.tm hne
    rw [ldr_of hv B.mem B.top, B.id] at hL
    exact ct_next (id := 0) (hx := hx) (ik := ⟨by omega, by omega⟩) (hlt := dt (by omega)) (hld := hL) (hne := by simp) (hs := i64_succ (by omega)) (r := r)
end
end Go.Proofs.YtpngjeloiifgnaaGreat
