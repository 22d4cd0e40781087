/-
  Joined: Kj, Kl. Conditions: none.
-/
import Derived.Test.YtjjmnoiffpnphaaKi
import Derived.Test.YtjjmnoiffpnphaaW22
namespace Go.Proofs.Ytjjmnoiffpnphaa
open Go.RowKit
def sel (d : Pt → Bool) (l : List Pt) : List Int := (l.filter d).map Pt.id
theorem sel_len (d : Pt → Bool) (l : List Pt) : (sel d l).length ≤ l.length := by unfold sel; rw [List.length_map]; exact List.length_filter_le _ _
theorem sel_no {d : Pt → Bool} {l : List Pt} {k : Nat} {p : Pt} (hk : l[k]? = some p) (h : d p = false) : sel d (l.take (k + 1)) = sel d (l.take k) := by
  unfold sel
  rw [take_succ hk, List.filter_append, List.filter_cons_of_neg (by rw [h]; decide), List.filter_nil, List.append_nil]
theorem sel_yes {d : Pt → Bool} {l : List Pt} {k : Nat} {p : Pt} (hk : l[k]? = some p) (h : d p = true) : sel d (l.take (k + 1)) = sel d (l.take k) ++ [p.id] := by
  unfold sel
  rw [take_succ hk, List.filter_append, List.filter_cons_of_pos h, List.filter_nil, List.map_append]
  rfl
theorem ids_snoc (m : List Int) (n : Int) : idsV (m ++ [n]) = idsV m ++ [.int .i64 n] := by simp [idsV]
/-- Rounds that gather numbers. -/
theorem gather {lo fr nb nt : Nat} {c : Code} {d : Pt → Bool} {l : List Pt} (tm : Nat → Nat → List (Nat × SV)) (hp : Nat → List Value → List (Nat × Nat × SV)) {e : Exit} {tm2 : List (Nat × SV)} {hp2 : List (Nat × Nat × SV)}
    (no : ∀ (k m : Nat) (vs : List Value) (p : Pt), l[k]? = some p → d p = false → RunsL Try.prog lo fr c nt nb (tm m (k + 1)) (hp m vs) e tm2 hp2 → RunsL Try.prog lo fr c nt nb (tm m k) (hp m vs) e tm2 hp2)
    (yes : ∀ (k m : Nat) (vs : List Value) (p : Pt), l[k]? = some p → d p = true → m + 1 ≤ l.length → RunsL Try.prog lo fr c nt nb (tm (m + 1) (k + 1)) (hp (m + 1) (vs ++ [.int .i64 p.id])) e tm2 hp2 → RunsL Try.prog lo fr c nt nb (tm m k) (hp m vs) e tm2 hp2)
    (last : RunsL Try.prog lo fr c nt nb (tm (sel d l).length l.length) (hp (sel d l).length (idsV (sel d l))) e tm2 hp2) : RunsL Try.prog lo fr c nt nb (tm 0 0) (hp 0 []) e tm2 hp2 := by
  have := RunsL.rounds (P := Try.prog) (lo := lo) (fr := fr) (c := c) (n := nt) (nb := nb) (fun k => tm (sel d (l.take k)).length k) (fun k => hp (sel d (l.take k)).length (idsV (sel d (l.take k)))) (e := e) (tm2 := tm2) (hp2 := hp2) l.length 0 (Nat.zero_add _) (fun k _ hk r => ?_) (by rw [List.take_length]; exact last)
  · simpa [sel, idsV] using this
  · obtain ⟨p, hp'⟩ := get_some hk
    cases h : d p
    · rw [sel_no hp' h] at r
      exact no k _ _ p hp' h r
    · rw [sel_yes hp' h, ids_snoc, List.length_append] at r
      have h1 := sel_len d (l.take (k + 1))
      rw [sel_yes hp' h, List.length_append, List.length_take] at h1
      exact yes k _ _ p hp' h (by simp at h1; omega) r

abbrev OfErr (f : FuncId) (x : Int) (l : List Pt) (n e : Int) : Prop := FnL Try.prog f 1 [crtS 0 x l, .pv (.int .i64 n)] [(0, 0, rowC l)] (.pv (.tuple #[.slice none 0 0, .int .i64 e])) 0 []
abbrev OfOk (f : FuncId) (x : Int) (l : List Pt) (n : Int) (m : List Int) : Prop := FnL Try.prog f 1 [crtS 0 x l, .pv (.int .i64 n)] [(0, 0, rowC l)] (.tu [.one (.ls 1 m.length), .one (.pv (.int .i64 0))]) 1 [(1, 0, rowI m)]
def names (n : Int) (p : Pt) : Bool := decide (p.a = n ∨ p.b = n)
theorem names_no {n : Int} {p : Pt} (h : names n p = false) : (p.a == n) = false ∧ (p.b == n) = false := by
  have := of_decide_eq_false h
  constructor <;> simp <;> omega
theorem Nu_any (x : Int) {l : List Pt} (hn : l.length ≤ 210) (n : Int) : FnL Try.prog 44 2 [crtS 0 x l, .pc 45 [.pp 1 0]] [(0, 0, rowC l), (1, 0, .pv (.int .i64 n))] (.ls 2 (sel (names n) l).length) 1 [(2, 0, rowI (sel (names n) l))] :=
  nu_path (gather (d := names n) (l := l) (fun m k => [(1, .pc 45 [.pp 1 0]), (5, .ls 3 m), (9, .ls 0 l.length), (10, .pv (.int .i64 (l.length : Int))), (11, .pv (.int .i64 (k : Int)))]) (fun m vs => [(0, 0, rowC l), (1, 0, .pv (.int .i64 n)), (3, 0, .row 3 1 m vs)])
    (fun k m vs p hp h r => by
      obtain ⟨h1, h2⟩ := names_no h
      exact nu_skip (hk := hp) (hin := in_of (get_lt hp)) (hlt := dt (by have := get_lt hp; omega)) (hl := h1) (hh := h2) (hs := i64_succ (by have := get_lt hp; omega)) r)
    (fun k m vs p hp h hm r => by
      by_cases h1 : p.a = n
      · exact nu_lo (hk := hp) (hin := in_of (get_lt hp)) (hlt := dt (by have := get_lt hp; omega)) (hl := by simpa using h1) (hm := by omega) (hs := i64_succ (by have := get_lt hp; omega)) r
      · have h2 := (of_decide_eq_true h).resolve_left h1
        exact nu_hi (hk := hp) (hin := in_of (get_lt hp)) (hlt := dt (by have := get_lt hp; omega)) (hl := by simpa using h1) (hh := by simpa using h2) (hm := by omega) (hs := i64_succ (by have := get_lt hp; omega)) r)
    (nu_end (hge := df (by omega))))
theorem Of8_any (x : Int) {l : List Pt} (hn : l.length ≤ 210) (n : Int) : (¬ V8 x l ∧ OfErr 13 x l n 8 ∧ OfErr 23 x l n 8) ∨
    (V8 x l ∧ OfOk 13 x l n (sel (names n) l) ∧ OfOk 23 x l n (sel (names n) l)) := by
  have c1 := PC8_any x l
  have c2 := RC8_any x l
  by_cases hv : V8 x l
  · rw [errC_ok hv] at c1 c2
    refine Or.inr ⟨hv, po8_ok (hc := c1) (hn := Nu_any x hn n), ro8_ok (hc := c2) (r0 := ?_)⟩
    exact gather (d := names n) (l := l) (fun m k => [(1, .pv (.int .i64 n)), (2, .pp 1 0), (6, .ls 2 m), (7, .pv (.int .i64 (k : Int)))]) (fun m vs => [(1, 0, .pv (.int .i64 x)), (1, 1, .ls 0 l.length), (0, 0, rowC l), (2, 0, .row 3 1 m vs)])
      (fun k m vs p hp h r => by
        obtain ⟨h1, h2⟩ := names_no h
        exact of8_skip (hk := hp) (hin := in_of (get_lt hp)) (hlt := dt (by have := get_lt hp; omega)) (hl := h1) (hh := h2) (hs := i64_succ (by have := get_lt hp; omega)) r)
      (fun k m vs p hp h hm r => by
        by_cases h1 : p.a = n
        · exact of8_lo (hk := hp) (hin := in_of (get_lt hp)) (hlt := dt (by have := get_lt hp; omega)) (hl := by simpa using h1) (hm := by omega) (hs := i64_succ (by have := get_lt hp; omega)) r
        · have h2 := (of_decide_eq_true h).resolve_left h1
          exact of8_hi (hk := hp) (hin := in_of (get_lt hp)) (hlt := dt (by have := get_lt hp; omega)) (hl := by simpa using h1) (hh := by simpa using h2) (hm := by omega) (hs := i64_succ (by have := get_lt hp; omega)) r)
      (of8_end (hge := df (by omega)))
  · rw [errC_bad hv] at c1 c2
    exact Or.inl ⟨hv, po8_bad (hc := c1), ro8_bad (hc := c2)⟩

open Classical in
section
variable {tn td : Int} (htn : I64 tn) (htd : I64 td)
end
end Go.Proofs.Ytjjmnoiffpnphaa

namespace Go.Proofs.Ytjjmnoiffpnphaa
open Go.RowKit
/-- Each number one more, up to a place. -/
def bumped (l : List Pt) : Nat → List Pt
  | 0 => l
  | k + 1 => match (bumped l k)[k]? with
    | some p => (bumped l k).set k ⟨IntKind.i64.wrap (p.id + 1), p.a, p.b⟩
    | none => bumped l k
theorem bumped_len (l : List Pt) : ∀ k, (bumped l k).length = l.length
  | 0 => rfl
  | k + 1 => by
    rw [bumped]
    split
    · rw [List.length_set]; exact bumped_len l k
    · exact bumped_len l k
theorem bumped_at {l : List Pt} {k : Nat} (hk : k < l.length) : ∃ p, (bumped l k)[k]? = some p ∧ bumped l (k + 1) = (bumped l k).set k ⟨IntKind.i64.wrap (p.id + 1), p.a, p.b⟩ := by
  obtain ⟨p, hp⟩ := get_some (l := bumped l k) (k := k) (by rw [bumped_len]; exact hk)
  exact ⟨p, hp, by rw [bumped, hp]⟩
section
variable {l m : List Pt} {o : List Int} {x a b ra rb ga gb e1 e2 e3 e4 : Int}
theorem ke_bad_loop (hn : l.length ≤ 210) : RunsL Try.prog 1 1 (loopOf Try.prog 4 0) 168 13 (ke_bad_T 0 e1 e2 e3 e4) (ke_bad_H l l x ga gb) (.exit 0) (ke_bad_E e1 e2 e3 e4) (ke_bad_H l (bumped l l.length) x ga gb) :=
  RunsL.rounds (fun k => (ke_bad_T k e1 e2 e3 e4)) (fun k => (ke_bad_H l (bumped l k) x ga gb)) l.length 0 (Nat.zero_add _)
    (fun k _ hk r => by
      obtain ⟨p, hp, hb⟩ := bumped_at hk
      rw [hb] at r
      exact ke_bad_next (a := 0) (b := 0) (hk := hp) (hin := in_of hk) (hset := by rw [bumped_len]; exact hk) (hlt := dt (by omega)) (hw := rfl) (hs := i64_succ (by omega)) r)
    (ke_bad_end (hge := df (by omega)))
theorem ke_00_loop (hn : l.length ≤ 210) : RunsL Try.prog 1 1 (loopOf Try.prog 4 0) 168 15 (ke_00_T 0 o e1 e2 e3) (ke_00_H l l o x ga gb) (.exit 0) (ke_00_E o e1 e2 e3) (ke_00_H l (bumped l l.length) o x ga gb) :=
  RunsL.rounds (fun k => (ke_00_T k o e1 e2 e3)) (fun k => (ke_00_H l (bumped l k) o x ga gb)) l.length 0 (Nat.zero_add _)
    (fun k _ hk r => by
      obtain ⟨p, hp, hb⟩ := bumped_at hk
      rw [hb] at r
      exact ke_00_next (a := 0) (b := 0) (hk := hp) (hin := in_of hk) (hset := by rw [bumped_len]; exact hk) (hlt := dt (by omega)) (hw := rfl) (hs := i64_succ (by omega)) r)
    (ke_00_end (hge := df (by omega)))
theorem ke_01_loop (hn : l.length ≤ 210) : RunsL Try.prog 1 1 (loopOf Try.prog 4 0) 168 17 (ke_01_T 0 o e1 e3) (ke_01_H l l m o x ra rb ga gb) (.exit 0) (ke_01_E o e1 e3) (ke_01_H l (bumped l l.length) m o x ra rb ga gb) :=
  RunsL.rounds (fun k => (ke_01_T k o e1 e3)) (fun k => (ke_01_H l (bumped l k) m o x ra rb ga gb)) l.length 0 (Nat.zero_add _)
    (fun k _ hk r => by
      obtain ⟨p, hp, hb⟩ := bumped_at hk
      rw [hb] at r
      exact ke_01_next (a := 0) (b := 0) (hk := hp) (hin := in_of hk) (hset := by rw [bumped_len]; exact hk) (hlt := dt (by omega)) (hw := rfl) (hs := i64_succ (by omega)) r)
    (ke_01_end (hge := df (by omega)))
theorem ke_10_loop (hn : l.length ≤ 210) : RunsL Try.prog 1 1 (loopOf Try.prog 4 0) 168 17 (ke_10_T 0 o x e2 e3) (ke_10_H l l o x a b ga gb) (.exit 0) (ke_10_E o x e2 e3) (ke_10_H l (bumped l l.length) o x a b ga gb) :=
  RunsL.rounds (fun k => (ke_10_T k o x e2 e3)) (fun k => (ke_10_H l (bumped l k) o x a b ga gb)) l.length 0 (Nat.zero_add _)
    (fun k _ hk r => by
      obtain ⟨p, hp, hb⟩ := bumped_at hk
      rw [hb] at r
      exact ke_10_next (hk := hp) (hin := in_of hk) (hset := by rw [bumped_len]; exact hk) (hlt := dt (by omega)) (hw := rfl) (hs := i64_succ (by omega)) r)
    (ke_10_end (hge := df (by omega)))
theorem ke_11_loop (hn : l.length ≤ 210) : RunsL Try.prog 1 1 (loopOf Try.prog 4 0) 168 19 (ke_11_T 0 o x e3) (ke_11_H l l m o x a b ra rb ga gb) (.exit 0) (ke_11_E o x e3) (ke_11_H l (bumped l l.length) m o x a b ra rb ga gb) :=
  RunsL.rounds (fun k => (ke_11_T k o x e3)) (fun k => (ke_11_H l (bumped l k) m o x a b ra rb ga gb)) l.length 0 (Nat.zero_add _)
    (fun k _ hk r => by
      obtain ⟨p, hp, hb⟩ := bumped_at hk
      rw [hb] at r
      exact ke_11_next (hk := hp) (hin := in_of hk) (hset := by rw [bumped_len]; exact hk) (hlt := dt (by omega)) (hw := rfl) (hs := i64_succ (by omega)) r)
    (ke_11_end (hge := df (by omega)))
end
/-- CertKeeps. -/
theorem Keeps_any (x : Int) (l : List Pt) (a b n id : Int) : FnL Try.prog 4 1 [crtS 0 x l, .pv (certV a b), .pv (.int .i64 n), .pv (.int .i64 id)] [(0, 0, rowC l)] (.pv (.bool true)) 0 [] := by
  have hG := Great8_any x l
  cases hg : greatC l
  · rw [hg] at hG
    have hn := great_len hg
    have hT := Twin8_any x (l := l) (by omega)
    have c1 := PC8_any x l
    have c2 := RC8_any x l
    have hS := Same8_ok x (l := l) (by omega)
    obtain ⟨ga, gb, e3, g1, g2, _⟩ := Get8_any x hn n
    by_cases hv : V8 x l
    · rcases Of8_any x hn id with ⟨h, _⟩ | ⟨_, o1, o2⟩
      · exact (h hv).elim
      have hSI := SameI_ok (g := sel (names id) l) (Nat.le_trans (sel_len _ _) (by omega))
      rcases Add8_any x hn a b with ⟨e1, a1, a2, _⟩ | ⟨_, _, _, hl, _, a1, a2⟩
      · rcases Rem8_any x hn n with ⟨e2, _, r1, r2, _⟩ | ⟨k, p, _, hk, _, r1, r2⟩
        · exact ke_00 (hG := hG) (hT := hT) (hAp := a1) (hAr := a2) (hRp := r1) (hRr := r2) (hgp := g1) (hgr := g2) (hop := o1) (hor := o2) (hc1 := c1) (hc2 := c2) (hS := hS) (hN := new8) (hSN := sm8_nil) (r0 := ke_00_loop hn) (hSI := hSI)
        · exact ke_01 (hG := hG) (hT := hT) (hAp := a1) (hAr := a2) (hRp := r1) (hRr := r2) (hgp := g1) (hgr := g2) (hop := o1) (hor := o2) (hc1 := c1) (hc2 := c2) (hS := hS) (hN := new8) (hSN := sm8_nil) (r0 := ke_01_loop hn) (hSR := Same8_ok x (by simp; omega)) (hSI := hSI)
      · rcases Rem8_any x hn n with ⟨e2, _, r1, r2, _⟩ | ⟨k, p, _, hk, _, r1, r2⟩
        · exact ke_10 (hG := hG) (hT := hT) (hAp := a1) (hAr := a2) (hRp := r1) (hRr := r2) (hgp := g1) (hgr := g2) (hop := o1) (hor := o2) (hc1 := c1) (hc2 := c2) (hS := hS) (hN := new8) (hSN := sm8_nil) (r0 := ke_10_loop hn) (hSA := Same8_ok (x + 1) (by simp; omega)) (hSI := hSI)
        · exact ke_11 (hG := hG) (hT := hT) (hAp := a1) (hAr := a2) (hRp := r1) (hRr := r2) (hgp := g1) (hgr := g2) (hop := o1) (hor := o2) (hc1 := c1) (hc2 := c2) (hS := hS) (hN := new8) (hSN := sm8_nil) (r0 := ke_11_loop hn) (hSA := Same8_ok (x + 1) (by simp; omega)) (hSR := Same8_ok x (by simp; omega)) (hSI := hSI)
    · rcases Of8_any x hn id with ⟨_, o1, o2⟩ | ⟨h, _⟩
      · rcases Add8_any x hn a b with ⟨e1, a1, a2, _⟩ | ⟨h, _⟩
        · rcases Rem8_any x hn n with ⟨e2, _, r1, r2, _⟩ | ⟨k, p, h, _⟩
          · exact ke_bad (hG := hG) (hT := hT) (hAp := a1) (hAr := a2) (hRp := r1) (hRr := r2) (hgp := g1) (hgr := g2) (hop := o1) (hor := o2) (hc1 := c1) (hc2 := c2) (hS := hS) (hN := new8) (hSN := sm8_nil) (r0 := ke_bad_loop hn) (hSL := sid_nil8)
          · exact (hv h).elim
        · exact (hv h).elim
      · exact (hv h).elim
  · rw [hg] at hG
    exact ke_great (hG := hG)
theorem keeps_walk (x : Int) (l : List Pt) (a b n id : Int) : FnL Try.prog 4 1 (crtS 0 x l :: [certV a b, .int .i64 n, .int .i64 id].map .pv) [(0, 0, rowC l)] (.pv (.bool true)) 0 [] := Keeps_any x l a b n id
end Go.Proofs.Ytjjmnoiffpnphaa
