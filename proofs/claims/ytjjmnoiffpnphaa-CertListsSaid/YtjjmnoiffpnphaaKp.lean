/-
  CertTrue; CertLists, if the examples hold. Conditions: none.
-/
import Derived.Test.YtjjmnoiffpnphaaKj
import Derived.Test.YtjjmnoiffpnphaaW32
namespace Go.Proofs.Ytjjmnoiffpnphaa
open Go.RowKit
theorem Fit8_any (x : Int) (l : List Pt) : ∃ b, FnL Try.prog 32 1 [crtS 0 x l] [(0, 0, rowC l)] (.pv (.bool b)) 0 [] ∧ (b = true → V8 x l) := by
  have hG := Great8_any x l
  have hc := RC8_any x l
  cases hg : greatC l
  · rw [hg] at hG
    by_cases hv : V8 x l
    · rw [errC_ok hv] at hc
      exact ⟨true, fi8_t (hG := hG) (hc := hc) (he := by decide), fun _ => hv⟩
    · rw [errC_bad hv] at hc
      exact ⟨false, fi8_f (hG := hG) (hc := hc) (he := by decide), fun h => by cases h⟩
  · rw [hg] at hG
    exact ⟨false, fi8_g (hG := hG), fun h => by cases h⟩
theorem Get_at {x : Int} {l : List Pt} (hv : V8 x l) {k : Nat} {p : Pt} (hk : l[k]? = some p) : GetIs 12 x l p.id p.a p.b 0 := by
  have c1 := PC8_any x l
  rw [errC_ok hv] at c1
  have := hv.len
  exact pg8_yes (hk := hk) (hin := in_of (get_lt hk)) (hc := c1) (hf := find8_yes x (by omega) hv.up hk rfl)
theorem sel_pre (d : Pt → Bool) (l : List Pt) (k : Nat) : sel d l = sel d (l.take k) ++ sel d (l.drop k) := by
  conv => lhs; rw [← List.take_append_drop k l]
  unfold sel
  rw [List.filter_append, List.map_append]
theorem sel_at {d : Pt → Bool} {l : List Pt} {k : Nat} {p : Pt} (hk : l[k]? = some p) (h : d p = true) : (sel d l)[(sel d (l.take k)).length]? = some p.id := by
  rw [sel_pre d l (k + 1), sel_yes hk h, List.append_assoc]
  simp
/-- CertLists, if the examples hold. -/
theorem Lists_any (hal : Pure Try.prog 18 #[] (.bool true)) (x : Int) (l : List Pt) (n : Int) : FnL Try.prog 6 1 [crtS 0 x l, .pv (.int .i64 n)] [(0, 0, rowC l)] (.pv (.bool true)) 0 [] := by
  obtain ⟨b, hf, hb⟩ := Fit8_any x l
  cases b
  · exact li_no (hf := hf) (hal := hal)
  · have hv := hb rfl
    have hl := hv.len
    rcases Of8_any x (l := l) (by omega) n with ⟨h, _⟩ | ⟨_, ho, _⟩
    · exact (h hv).elim
    · refine li_path (q := (sel (names n) l).length) (hf := hf) (ho := ho) (hq := by simp) (hal := hal) (r0 := ?_)
      have := RunsL.rounds (P := Try.prog) (lo := 1) (fr := 1) (c := loopOf Try.prog 6 0) (n := 89) (nb := 3) (fun k => [(1, .pv (.int .i64 n)), (2, .pp 1 0), (5, .ls 2 (sel (names n) l).length), (7, .pv (.int .i64 ((sel (names n) (l.take k)).length : Int))), (8, .pv (.int .i64 (k : Int)))])
        (fun _ => [(1, 0, .pv (.int .i64 x)), (1, 1, .ls 0 l.length), (0, 0, rowC l), (2, 0, rowI (sel (names n) l))]) (e := .exit 0) (tm2 := [(5, .ls 2 (sel (names n) l).length), (7, .pv (.int .i64 ((sel (names n) l).length : Int)))]) (hp2 := [(1, 0, .pv (.int .i64 x)), (1, 1, .ls 0 l.length), (0, 0, rowC l), (2, 0, rowI (sel (names n) l))])
        l.length 0 (Nat.zero_add _) (fun k _ hk r => ?_) (by rw [List.take_length]; exact li_end (hge := df (by omega)))
      · simpa [sel] using this
      · obtain ⟨p, hp⟩ := get_some hk
        have hg := Get_at hv hp
        cases h : names n p
        · rw [sel_no hp h] at r
          have h' := of_decide_eq_false h
          exact li_skip (hk := hp) (hin := in_of hk) (hlt := dt (by omega)) (hg := hg) (h1 := by simp; omega) (h2 := by simp; omega) (hs := i64_succ (by omega)) r
        · have ho' := sel_at hp h
          have hql := get_lt ho'
          have hqn := sel_len (names n) l
          rw [sel_yes hp h, List.length_append] at r
          by_cases h1 : p.a = n
          · exact li_lo (hk := hp) (hin := in_of hk) (hlt := dt (by omega)) (hg := hg) (h1 := by simpa using h1) (h3 := df (by omega)) (ho := ho') (hio := in_of hql) (hq := i64_succ (by omega)) (hs := i64_succ (by omega)) r
          · have h2 := (of_decide_eq_true h).resolve_left h1
            exact li_hi (hk := hp) (hin := in_of hk) (hlt := dt (by omega)) (hg := hg) (h1 := by simpa using h1) (h2 := by simpa using h2) (h3 := df (by omega)) (ho := ho') (hio := in_of hql) (hq := i64_succ (by omega)) (hs := i64_succ (by omega)) r
end Go.Proofs.Ytjjmnoiffpnphaa
