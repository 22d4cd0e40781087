/-
  CertBack and CertOne hold. Conditions: none.
-/
import Derived.Test.YtjjmnoiffpnphaaKr
import Derived.Test.YtjjmnoiffpnphaaW34
namespace Go.Proofs.Ytjjmnoiffpnphaa
open Go.RowKit
theorem flt_no {d : Pt → Bool} {m : List Pt} {k : Nat} {p : Pt} (hk : m[k]? = some p) (h : d p = false) : (m.take (k + 1)).filter d = (m.take k).filter d := by
  rw [take_succ hk, List.filter_append, List.filter_cons_of_neg (by rw [h]; decide), List.filter_nil, List.append_nil]
theorem flt_yes {d : Pt → Bool} {m : List Pt} {k : Nat} {p : Pt} (hk : m[k]? = some p) (h : d p = true) : (m.take (k + 1)).filter d = (m.take k).filter d ++ [p] := by
  rw [take_succ hk, List.filter_append, List.filter_cons_of_pos h, List.filter_nil]
theorem flt_at {d : Pt → Bool} {m : List Pt} {k : Nat} {p : Pt} (hk : m[k]? = some p) (h : d p = true) : (m.filter d)[((m.take k).filter d).length]? = some p := by
  conv => lhs; rw [← List.take_append_drop (k + 1) m]
  rw [List.filter_append, flt_yes hk h, List.append_assoc]
  simp
theorem Part_any (x y n : Int) {l m : List Pt} (hn : m.length ≤ 1000000) (h : (m.filter fun p => decide (p.id ≠ n)) = l) : FnL Try.prog 33 2 [crtS 0 x l, crtS 1 y m, .pv (.int .i64 n)] [(0, 0, rowC l), (1, 0, rowC m)] (.pv (.bool true)) 0 [] := by
  subst h
  generalize hd : (fun p : Pt => decide (p.id ≠ n)) = d
  have hdt : ∀ p, d p = true ↔ p.id ≠ n := fun p => by rw [← hd]; simp
  refine pa_path (q := (m.filter d).length) (he := by simp) (r0 := ?_)
  have := RunsL.rounds (P := Try.prog) (lo := 2) (fr := 2) (c := loopOf Try.prog 33 0) (n := 49) (nb := 4) (fun k => [(2, .pv (.int .i64 n)), (3, .pp 2 0), (4, .pp 3 0), (7, .pv (.int .i64 (((m.take k).filter d).length : Int))), (8, .pv (.int .i64 (k : Int)))])
    (fun _ => [(2, 0, .pv (.int .i64 x)), (2, 1, .ls 0 (m.filter d).length), (3, 0, .pv (.int .i64 y)), (3, 1, .ls 1 m.length), (0, 0, rowC (m.filter d)), (1, 0, rowC m)]) (e := .exit 0) (tm2 := [(3, .pp 2 0), (7, .pv (.int .i64 ((m.filter d).length : Int)))])
    (hp2 := [(2, 0, .pv (.int .i64 x)), (2, 1, .ls 0 (m.filter d).length), (3, 0, .pv (.int .i64 y)), (3, 1, .ls 1 m.length), (0, 0, rowC (m.filter d)), (1, 0, rowC m)]) m.length 0 (Nat.zero_add _) (fun k _ hk r => ?_) (by rw [List.take_length]; exact pa_end (hge := df (by omega)))
  · simpa using this
  · obtain ⟨p, hp⟩ := get_some hk
    cases h : d p
    · rw [flt_no hp h] at r
      have : p.id = n := Classical.byContradiction fun hne => by rw [(hdt p).2 hne] at h; cases h
      exact pa_skip (hk := hp) (hin := in_of hk) (hlt := dt (by omega)) (he := by simpa using this) (hs := i64_succ (by omega)) r
    · have hq := flt_at hp h
      have hql := get_lt hq
      have hml : (m.filter d).length ≤ m.length := List.length_filter_le _ _
      rw [flt_yes hp h, List.length_append] at r
      exact pa_keep (hk := hp) (hin := in_of hk) (hlt := dt (by omega)) (he := by simpa using (hdt p).1 h) (h3 := df (by omega)) (hq := hq) (hiq := in_of hql) (hq1 := i64_succ (by omega)) (hs := i64_succ (by omega)) r

theorem Back_any (x : Int) (l : List Pt) (a b n : Int) : FnL Try.prog 7 1 [crtS 0 x l, .pv (certV a b), .pv (.int .i64 n)] [(0, 0, rowC l)] (.pv (.bool true)) 0 [] := by
  obtain ⟨u, hf, hb⟩ := Fit8_any x l
  cases u
  · exact bk_no (hf := hf) (hal := Alive8)
  · have hv := hb rfl
    have hl := hv.len
    have hx := hv.nx
    -- what is removed
    have R : (∃ e, e ≠ 0 ∧ RemErr 11 x l n e ∧ GetIs 12 x l n 0 0 e) ∨ ∃ (m : List Pt) (p : Pt), RemOk 11 x l n m p.a p.b ∧ GetIs 12 x l n p.a p.b 0 ∧ m.length + 1 = l.length ∧ (l.filter fun q => decide (q.id ≠ n)) = m ∧ crtB p.a p.b = true := by
      rcases Rem8_any x (l := l) (by omega) n with ⟨e, he, h1, _, h2⟩ | ⟨k, p, _, hk, he, h1, _⟩
      · refine Or.inl ⟨e, he, h1, ?_⟩
        obtain ⟨a', b', e', g1, _, h3⟩ := Get8_any x (l := l) (by omega) n
        have : a' = 0 ∧ b' = 0 ∧ e' = e := by
          rcases h2 with h2 | h2 | h2
          · exact (h2.1 hv).elim
          · rcases h3 with h3 | h3 | h3
            · exact (h3.1 hv).elim
            · exact ⟨h3.2.2.1, h3.2.2.2.1, by rw [h3.2.2.2.2, h2.2.2.2.2]⟩
            · obtain ⟨k, p, hk, hp, _⟩ := h3.2.2
              exact (h2.2.1 p (List.mem_of_getElem? hk) hp).elim
          · exact (he h2.2.1).elim
        obtain ⟨rfl, rfl, rfl⟩ := this
        exact g1
      · have hkl := get_lt hk
        refine Or.inr ⟨l.take k ++ l.drop (k + 1), p, h1, he ▸ Get_at hv hk, by simp; omega, ?_, hv.ok p (List.mem_of_getElem? hk)⟩
        rw [← he]; exact filter_at8 hv.up hk
    have hal := Alive8
    rcases Add8_any x (l := l) (by omega) a b with ⟨e, hA, _, h1 | h1 | h1⟩ | ⟨_, hc, hh, hn, hx', hA, _⟩
    · obtain ⟨rfl, h1⟩ := h1
      have hc : crtB a b = false := by
        rcases h1 with h1 | h1
        · exact (h1 hv).elim
        · simpa using h1
      have hcv := Rv_any a b
      rw [hc] at hcv
      rcases R with ⟨e, he, r1, g1⟩ | ⟨m, p, r1, g1, hm, hfl, hcr⟩
      · exact bk_n_8 (hf := hf) (hR := r1) (hg := g1) (he0 := by simpa using he) (hA := hA) (hcv := hcv) (hal := hal)
      · exact bk_y_8 (la := (m.length : Int)) (hf := hf) (hR := r1) (hg := g1) (hla := by rw [← hm, wrap_i64_in (by omega) (by omega)]; congr 1; omega) (hml := by simp) (hp1 := Part_any x x n (by omega) hfl) (hv := hcr ▸ Rv_any p.a p.b) (hA := hA) (hcv := hcv) (hal := hal)
    · obtain ⟨rfl, _, hc, hhs⟩ := h1
      have hh := Has_any x (l := l) (by omega) a b
      rw [hhs] at hh
      rcases R with ⟨e, he, r1, g1⟩ | ⟨m, p, r1, g1, hm, hfl, hcr⟩
      · exact bk_n_14 (hf := hf) (hR := r1) (hg := g1) (he0 := by simpa using he) (hA := hA) (hh := hh) (hal := hal)
      · exact bk_y_14 (la := (m.length : Int)) (hf := hf) (hR := r1) (hg := g1) (hla := by rw [← hm, wrap_i64_in (by omega) (by omega)]; congr 1; omega) (hml := by simp) (hp1 := Part_any x x n (by omega) hfl) (hv := hcr ▸ Rv_any p.a p.b) (hA := hA) (hh := hh) (hal := hal)
    · obtain ⟨rfl, _, _, _, hfw⟩ := h1
      by_cases h200 : l.length = 200
      · rcases R with ⟨e, he, r1, g1⟩ | ⟨m, p, r1, g1, hm, hfl, hcr⟩
        · exact bk_n_18a (hf := hf) (hR := r1) (hg := g1) (he0 := by simpa using he) (hA := hA) (hl := by simp [h200]) (hal := hal)
        · exact bk_y_18a (la := (m.length : Int)) (hf := hf) (hR := r1) (hg := g1) (hla := by rw [← hm, wrap_i64_in (by omega) (by omega)]; congr 1; omega) (hml := by simp) (hp1 := Part_any x x n (by omega) hfl) (hv := hcr ▸ Rv_any p.a p.b) (hA := hA) (hl := by simp [h200]) (hal := hal)
      · have hxw := hfw.resolve_left h200
        rcases R with ⟨e, he, r1, g1⟩ | ⟨m, p, r1, g1, hm, hfl, hcr⟩
        · exact bk_n_18b (hf := hf) (hR := r1) (hg := g1) (he0 := by simpa using he) (hA := hA) (hl := by simp; omega) (hx := by simp [hxw]) (hal := hal)
        · exact bk_y_18b (la := (m.length : Int)) (hf := hf) (hR := r1) (hg := g1) (hla := by rw [← hm, wrap_i64_in (by omega) (by omega)]; congr 1; omega) (hml := by simp) (hp1 := Part_any x x n (by omega) hfl) (hv := hcr ▸ Rv_any p.a p.b) (hA := hA) (hl := by simp; omega) (hx := by simp [hxw]) (hal := hal)
    · have hv' := V8.add hv hc hh hn hx'
      have hlast : (l ++ [Pt.mk x a b])[l.length]? = some (Pt.mk x a b) := by simp
      have hG2 := Get_at hv' hlast
      have hR2 := Rem_yes hv' hlast
      have hcut : (l ++ [Pt.mk x a b]).take l.length ++ (l ++ [Pt.mk x a b]).drop (l.length + 1) = l := by simp
      rw [hcut] at hR2
      have hflt : ((l ++ [Pt.mk x a b]).filter fun q => decide (q.id ≠ x)) = l := by
        have := filter_at8 hv'.up hlast
        rw [hcut] at this
        exact this
      have hvb : V8 (x + 1) l := by
        have := V8.cut hv' l.length
        rw [hcut] at this
        exact this
      have hG3 : GetIs 12 (x + 1) l x 0 0 6 := by
        obtain ⟨a', b', e', g1, _, h3⟩ := Get8_any (x + 1) (l := l) (by omega) x
        rcases h3 with h3 | h3 | h3
        · exact (h3.1 hvb).elim
        · obtain ⟨_, _, rfl, rfl, rfl⟩ := h3; exact g1
        · obtain ⟨k, p, hk, hp, _⟩ := h3.2.2
          have := hv.hi p (List.mem_of_getElem? hk)
          omega
      have hp2 := Part_any x (x + 1) x (l := l) (m := l ++ [Pt.mk x a b]) (by simp; omega) hflt
      have hp3 := Part_any (x + 1) (x + 1) x (l := l) (m := l ++ [Pt.mk x a b]) (by simp; omega) hflt
      have hx1 : Value.int .i64 (IntKind.i64.wrap (x + 1)) = .int .i64 (x + 1) := wrap_c rfl (by omega) (by omega)
      rcases R with ⟨e, he, r1, g1⟩ | ⟨m, p, r1, g1, hm, hfl, hcr⟩
      · exact bk_n_ok (hf := hf) (hR := r1) (hg := g1) (he0 := by simpa using he) (hA := hA) (hG2 := hG2) (hR2 := hR2) (hG3 := hG3) (hx1 := hx1) (hp2 := hp2) (hll := i64_succ (by omega)) (hlen := by simp) (hp3 := hp3) (hal := hal)
      · exact bk_y_ok (la := (m.length : Int)) (hf := hf) (hR := r1) (hg := g1) (hla := by rw [← hm, wrap_i64_in (by omega) (by omega)]; congr 1; omega) (hml := by simp) (hp1 := Part_any x x n (by omega) hfl) (hv := hcr ▸ Rv_any p.a p.b) (hA := hA) (hG2 := hG2) (hR2 := hR2) (hG3 := hG3) (hx1 := hx1) (hp2 := hp2) (hll := i64_succ (by omega)) (hlen := by simp) (hp3 := hp3) (hal := hal)
theorem back_walk (x : Int) (l : List Pt) (a b n : Int) : FnL Try.prog 7 1 (crtS 0 x l :: [certV a b, .int .i64 n].map .pv) [(0, 0, rowC l)] (.pv (.bool true)) 0 [] := Back_any x l a b n

end Go.Proofs.Ytjjmnoiffpnphaa
