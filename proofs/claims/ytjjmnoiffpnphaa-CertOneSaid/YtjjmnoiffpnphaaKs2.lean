/-
  CertBack and CertOne hold. Conditions: none.
-/
import Derived.Test.YtjjmnoiffpnphaaKr
import Derived.Test.YtjjmnoiffpnphaaW32
namespace Go.Proofs.Ytjjmnoiffpnphaa
open Go.RowKit
theorem leads_not {P Q pb qb pi qi : Int} (h : pi ≠ qi) : leadsB Q P qb pb qi pi = !leadsB P Q pb qb pi qi := by
  cases e : leadsB P Q pb qb pi qi
  · have := of_decide_eq_false e
    exact leads_t (by omega)
  · have := of_decide_eq_true e
    exact leads_f (by omega)
theorem One_any (s : List Pt) {tn td : Int} (htn : I64 tn) (htd : I64 td) (lo hi : Int) : FnL Try.prog 8 1 [fldS 0 s, .pv (ratioV tn td), .pv (.int .i64 lo), .pv (.int .i64 hi)] [(0, 0, rowP s)] (.pv (.bool true)) 0 [] := by
  have hal := Alive8
  rcases Great_any s with ⟨_, hG⟩ | ⟨_, hG⟩
  · exact on_0 (hG := hG) (hal := hal)
  · have hT := Timed_any htn htd s
    by_cases ht : tE s tn td = 0
    · obtain ⟨hs, hok⟩ := tE_zero ht
      have hT' := hT
      rw [ht] at hT
      by_cases hlh : lo = hi
      · exact on_2 (hG := hG) (hT := hT) (hlh := by simpa using hlh) (hal := hal)
      · have hlh' : (lo == hi) = false := by simpa using hlh
        obtain ⟨u1, a1, a2⟩ := AtS_any hs lo
        obtain ⟨u2, b1, b2⟩ := AtS_any hs hi
        rcases a2 with ⟨h1, _⟩ | ⟨j, q, rfl, hj, hq⟩
        · exact on_3 (hG := hG) (hT := hT) (hlh := hlh') (hlo := a1) (h1 := dt h1) (hal := hal)
        · rcases b2 with ⟨h2, _⟩ | ⟨k, g, rfl, hk, hg⟩
          · exact on_4 (hG := hG) (hT := hT) (hlh := hlh') (hlo := a1) (h1 := df (by omega)) (hhi := b1) (h2 := dt h2) (hal := hal)
          · have oq := okP_iff.1 (hs.ok q (List.mem_of_getElem? hj))
            have og := okP_iff.1 (hs.ok g (List.mem_of_getElem? hk))
            have c0 : crtB lo hi = true := crtB_iff.2 ⟨by omega, by omega, by omega, by omega, hlh⟩
            have c1 : crtB hi lo = true := crtB_iff.2 ⟨by omega, by omega, by omega, by omega, fun e => hlh e.symm⟩
            have v0' : V8 0 [] := v0
            have hh0 : hasC [] lo hi = false := by simp [hasC]
            have v1' : V8 1 [Pt.mk 0 lo hi] := V8.add v0' c0 hh0 (by simp) (by simp)
            have hh1 : hasC [Pt.mk 0 lo hi] hi lo = false := by
              cases e : hasC [Pt.mk 0 lo hi] hi lo
              · rfl
              · obtain ⟨p, hp, h1, _⟩ := hasC_iff.1 e
                simp at hp; subst hp; exact (hlh h1).elim
            have v2' : V8 2 [Pt.mk 0 lo hi, Pt.mk 1 hi lo] := V8.add v1' c1 hh1 (by simp) (by simp)
            have hA := Add_yes v0' c0 hh0 (by simp) (by simp)
            have hB := Add_yes v1' c1 hh1 (by simp) (by simp)
            have hkn : Known [Pt.mk 0 lo hi, Pt.mk 1 hi lo] s := by
              intro p hp
              simp at hp
              rcases hp with rfl | rfl
              · exact ⟨⟨q, List.mem_of_getElem? hj, hq⟩, ⟨g, List.mem_of_getElem? hk, hg⟩⟩
              · exact ⟨⟨g, List.mem_of_getElem? hk, hg⟩, ⟨q, List.mem_of_getElem? hj, hq⟩⟩
            have hH := Holds_yes htn htd v2' ht hkn
            have pq : ptOf s lo = q := by rw [← hq]; exact ptOf_at hs (List.mem_of_getElem? hj)
            have pg : ptOf s hi = g := by rw [← hg]; exact ptOf_at hs (List.mem_of_getElem? hk)
            have hne : g.id ≠ q.id := by omega
            have ha := Ahead_ok htn htd (hs.ok g (List.mem_of_getElem? hk)) (hs.ok q (List.mem_of_getElem? hj)) hok hne
            have d0 : holdB s tn td (Pt.mk 0 lo hi) = leadsB (g.a * td + g.b * tn) (q.a * td + q.b * tn) g.b q.b g.id q.id := by unfold holdB; simp only [pq, pg]
            have d1 : holdB s tn td (Pt.mk 1 hi lo) = !leadsB (g.a * td + g.b * tn) (q.a * td + q.b * tn) g.b q.b g.id q.id := by unfold holdB; simp only [pq, pg]; exact leads_not hne
            cases e : leadsB (g.a * td + g.b * tn) (q.a * td + q.b * tn) g.b q.b g.id q.id
            · rw [e] at d0 d1 ha
              have hsel : sel (holdB s tn td) [Pt.mk 0 lo hi, Pt.mk 1 hi lo] = [1] := by simp [sel, d0, d1]
              rw [hsel] at hH
              exact on_w1 (hG := hG) (hT := hT) (hlh := hlh') (hlo := a1) (h1 := df (by omega)) (hhi := b1) (h2 := df (by omega)) (hN := New_own) (hA := hA) (hB := hB) (hH := hH) (hg := hk) (hq := hj) (hik := in_of (get_lt hk)) (hij := in_of (get_lt hj)) (ha := ha) (hal := hal)
            · rw [e] at d0 d1 ha
              have hsel : sel (holdB s tn td) [Pt.mk 0 lo hi, Pt.mk 1 hi lo] = [0] := by simp [sel, d0, d1]
              rw [hsel] at hH
              exact on_w0 (hG := hG) (hT := hT) (hlh := hlh') (hlo := a1) (h1 := df (by omega)) (hhi := b1) (h2 := df (by omega)) (hN := New_own) (hA := hA) (hB := hB) (hH := hH) (hg := hk) (hq := hj) (hik := in_of (get_lt hk)) (hij := in_of (get_lt hj)) (ha := ha) (hal := hal)
    · exact on_1 (hG := hG) (hT := hT) (he := by simpa using ht) (hal := hal)
theorem one_walk (s : List Pt) (tn td : Int) (htn : I64 tn) (htd : I64 td) (lo hi : Int) : FnL Try.prog 8 1 (fldS 0 s :: [ratioV tn td, .int .i64 lo, .int .i64 hi].map .pv) [(0, 0, rowP s)] (.pv (.bool true)) 0 [] := One_any s htn htd lo hi
end Go.Proofs.Ytjjmnoiffpnphaa
