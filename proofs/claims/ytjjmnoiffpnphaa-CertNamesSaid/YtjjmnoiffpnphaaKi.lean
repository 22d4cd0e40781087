/-
  Get, Remove and Add of package cert and of its reference: the same of every store. Conditions: none.
-/
import Derived.Test.YtjjmnoiffpnphaaKf
import Derived.Test.YtjjmnoiffpnphaaKg
namespace Go.Proofs.Ytjjmnoiffpnphaa
open Go.RowKit
theorem fc1 (a pa pb n : Int) : ∃ c, Pure Try.prog 68 #[pointV a pa pb, .int .i64 n] (.int .i64 c) ∧ (c < 0 ↔ a < n) ∧ (c = 0 ↔ a = n) := by
  rcases Int.lt_trichotomy a n with h | h | h
  · exact ⟨-1, fc1_lt (by simp) (by simp) (dt h), ⟨fun _ => h, fun _ => by omega⟩, ⟨fun h => by omega, fun h => by omega⟩⟩
  · exact ⟨0, fc1_eq (by simp) (by simp) (df (by omega)) (df (by omega)), ⟨fun h => by omega, fun h => by omega⟩, ⟨fun _ => h, fun _ => rfl⟩⟩
  · exact ⟨1, fc1_gt (by simp) (by simp) (df (by omega)) (dt (by omega)), ⟨fun h => by omega, fun h => by omega⟩, ⟨fun h => by omega, fun h => by omega⟩⟩
abbrev bs8T (l : List Pt) (n : Int) (i j : Nat) : List (Nat × SV) := [(0, .ls 0 l.length), (1, .pv (.int .i64 n)), (2, .pv (.func (.func 68) #[] #[])), (8, .pv (.int .i64 (l.length : Int))), (9, .pv (.int .i64 (i : Int))), (10, .pv (.int .i64 (j : Int)))]
theorem bs8_loop {l : List Pt} (hn : l.length ≤ 210) {n : Int} {k : Nat} (hlo : ∀ (t : Nat) (p : Pt), t < k → l[t]? = some p → p.id < n) (hhi : ∀ (t : Nat) (p : Pt), k ≤ t → l[t]? = some p → ¬ p.id < n) : ∀ (d i j : Nat), j - i ≤ d → i ≤ k → k ≤ j → j ≤ l.length →
    RunsL Try.prog 1 1 (loopOf Try.prog 67 0) 49 1 (bs8T l n i j) [(0, 0, rowC l)] (.exit 0) (bs8T l n k k) [(0, 0, rowC l)] := by
  intro d
  induction d with
  | zero =>
    intro i j hd h1 h2 h3
    have : i = k := by omega
    have : j = k := by omega
    subst i j
    exact bs8_end (df (by omega))
  | succ d ih =>
    intro i j hd h1 h2 h3
    by_cases hij : i < j
    · obtain ⟨p, hp⟩ := get_some (l := l) (k := (i + j) / 2) (by omega)
      obtain ⟨c, hc, hc1, hc2⟩ := fc1 p.id p.a p.b n
      have a1 : Value.int .i64 (IntKind.i64.wrap ((i : Int) + (j : Int))) = .int .i64 ((i : Int) + (j : Int)) := by rw [wrap_i64_in (by omega) (by omega)]
      have a2 : Value.int .u64 (IntKind.u64.wrap ((i : Int) + (j : Int))) = .int .u64 ((i : Int) + (j : Int)) := by rw [wrap_in (by omega) (by omega)]
      have a3 : Value.int .u64 (((i : Int) + (j : Int)).fdiv (2 ^ (min (1 : Int).toNat IntKind.u64.bits))) = .int .u64 (((i + j) / 2 : Nat) : Int) := by
        have : (2 : Int) ^ (min (1 : Int).toNat IntKind.u64.bits) = 2 := rfl
        rw [this, Int.fdiv_eq_ediv_of_nonneg _ (by omega)]
        congr 1
      have a4 : Value.int .i64 (IntKind.i64.wrap (((i + j) / 2 : Nat) : Int)) = .int .i64 (((i + j) / 2 : Nat) : Int) := by rw [wrap_i64_in (by omega) (by omega)]
      by_cases hlt : p.id < n
      · refine bs8_up hp (in_of (get_lt hp)) (dt (by omega)) a1 a2 (by omega) a3 a4 hc (dt (hc1.2 hlt)) (i64_succ (by omega)) (ih _ _ (by omega) ?_ h2 h3)
        rcases Nat.lt_or_ge ((i + j) / 2) k with h | h
        · exact h
        · exact (hhi _ p h hp hlt).elim
      · refine bs8_dn hp (in_of (get_lt hp)) (dt (by omega)) a1 a2 (by omega) a3 a4 hc (df (fun h => hlt (hc1.1 h))) (ih _ _ (by omega) h1 ?_ (by omega))
        rcases Nat.lt_or_ge ((i + j) / 2) k with h | h
        · exact (hlt (hlo _ p h hp)).elim
        · exact h
    · have : i = k := by omega
      have : j = k := by omega
      subst i j
      exact bs8_end (df (by omega))
theorem find8_yes (x : Int) {l : List Pt} (hn : l.length ≤ 210) (hu : Up l) {n : Int} {k : Nat} {p : Pt} (hk : l[k]? = some p) (he : p.id = n) : FnL Try.prog 43 1 [crtS 0 x l, .pv (.int .i64 n)] [(0, 0, rowC l)] (.pv (.tuple #[.int .i64 (k : Int), .bool true])) 0 [] := by
  subst he
  obtain ⟨c, hc, hc1, hc2⟩ := fc1 p.id p.a p.b p.id
  have hl := get_lt hk
  refine find8_path (bsf8_hit (bs8_loop hn (fun t q ht hq => hu.mono ht hq hk) (fun t q ht hq => ?_) l.length 0 l.length (by omega) (Nat.zero_le _) (by omega) (Nat.le_refl _)) hk (in_of hl) (dt (by omega)) hc (by simpa using hc2.2 rfl))
  rcases Nat.lt_or_ge k t with h | h
  · have := hu.mono h hk hq; omega
  · have : t = k := by omega
    subst this
    rw [hk] at hq; cases hq; omega
theorem find8_no (x : Int) {l : List Pt} (hn : l.length ≤ 210) {n : Int} {k : Nat} (hkl : k ≤ l.length) (hlo : ∀ (t : Nat) (p : Pt), t < k → l[t]? = some p → p.id < n) (hhi : ∀ (t : Nat) (p : Pt), k ≤ t → l[t]? = some p → n < p.id) : FnL Try.prog 43 1 [crtS 0 x l, .pv (.int .i64 n)] [(0, 0, rowC l)] (.pv (.tuple #[.int .i64 (k : Int), .bool false])) 0 [] := by
  have hb := bs8_loop hn hlo (fun t p ht hp => by have := hhi t p ht hp; omega) l.length 0 l.length (by omega) (Nat.zero_le _) hkl (Nat.le_refl _)
  by_cases h : k < l.length
  · obtain ⟨p, hp⟩ := get_some h
    obtain ⟨c, hc, hc1, hc2⟩ := fc1 p.id p.a p.b n
    refine find8_path (bsf8_no hb hp (in_of h) (dt (by omega)) hc ?_)
    have := hhi k p (Nat.le_refl _) hp
    simp only [beq_eq_false_iff_ne, ne_eq]
    exact fun e => by have := hc2.1 e; omega
  · exact find8_path (bsf8_out hb (df (by omega)))

abbrev nilC : Value := .agg #[.int .i64 0, .slice none 0 0]
abbrev GetIs (f : FuncId) (x : Int) (l : List Pt) (n a b e : Int) : Prop := FnL Try.prog f 1 [crtS 0 x l, .pv (.int .i64 n)] [(0, 0, rowC l)] (.pv (.tuple #[certV a b, .int .i64 e])) 0 []
/-- What Get yields. -/
def GetR (x : Int) (l : List Pt) (n a b e : Int) : Prop := (¬ V8 x l ∧ a = 0 ∧ b = 0 ∧ e = 8) ∨ (V8 x l ∧ (∀ p ∈ l, p.id ≠ n) ∧ a = 0 ∧ b = 0 ∧ e = 6) ∨ (V8 x l ∧ e = 0 ∧ ∃ (k : Nat) (p : Pt), l[k]? = some p ∧ p.id = n ∧ a = p.a ∧ b = p.b)
theorem Get8_any (x : Int) {l : List Pt} (hn : l.length ≤ 210) (n : Int) : ∃ a b e, GetIs 12 x l n a b e ∧ GetIs 22 x l n a b e ∧ GetR x l n a b e := by
  by_cases hv : V8 x l
  · have c1 := PC8_any x l
    have c2 := RC8_any x l
    rw [errC_ok hv] at c1 c2
    rcases place8 hv.up n with ⟨k, p, hk, he⟩ | ⟨hno, k, hkl, hlo, hhi⟩
    · have hl := get_lt hk
      exact ⟨p.a, p.b, 0, pg8_yes (hk := hk) (hin := in_of hl) (hc := c1) (hf := find8_yes x hn hv.up hk he), rg8_yes (hk := hk) (hin := in_of hl) (hc := c2) (ha := RAt_yes x (by omega) hv.up hk he) (h0 := df (by omega)), Or.inr (Or.inr ⟨hv, rfl, k, p, hk, he, rfl, rfl⟩)⟩
    · exact ⟨0, 0, 6, pg8_no (hc := c1) (hf := find8_no x hn hkl hlo hhi), rg8_no (hc := c2) (ha := RAt_no x (by omega) hno), Or.inr (Or.inl ⟨hv, hno, rfl, rfl, rfl⟩)⟩
  · have c1 := PC8_any x l
    have c2 := RC8_any x l
    rw [errC_bad hv] at c1 c2
    exact ⟨0, 0, 8, pg8_bad (hc := c1), rg8_bad (hc := c2), Or.inl ⟨hv, rfl, rfl, rfl⟩⟩

abbrev RemErr (f : FuncId) (x : Int) (l : List Pt) (n e : Int) : Prop := FnL Try.prog f 1 [crtS 0 x l, .pv (.int .i64 n)] [(0, 0, rowC l)] (.pv (.tuple #[nilC, certV 0 0, .int .i64 e])) 0 []
abbrev RemOk (f : FuncId) (x : Int) (l : List Pt) (n : Int) (m : List Pt) (a b : Int) : Prop := FnL Try.prog f 1 [crtS 0 x l, .pv (.int .i64 n)] [(0, 0, rowC l)] (.tu [.ag [.pv (.int .i64 x), .ls 1 m.length], .one (.pv (certV a b)), .one (.pv (.int .i64 0))]) 1 [(1, 0, rowC m)]
theorem wrap_c {a b c : Int} (h : a + b = c) (h0 : 0 ≤ c) (h1 : c ≤ 2000000) : Value.int .i64 (IntKind.i64.wrap (a + b)) = .int .i64 c := by rw [h, wrap_i64_in (by omega) (by omega)]
theorem Cut8 {l : List Pt} (hn : l.length ≤ 210) {k : Nat} (hk : k < l.length) : FnL Try.prog 42 2 [.ps 1 0 2 2] [(1, 0, .lq 0 3 0 k), (1, 1, .lq 0 3 (0 + (k + 1)) (l.length - (k + 1))), (0, 0, rowC l)] (.ls 2 (l.take k ++ l.drop (k + 1)).length) 1 [(2, 0, rowC (l.take k ++ l.drop (k + 1)))] := by
  by_cases hz : l.length = 1
  · refine cut8_0 (s1 := (k : Int)) (s2 := ((k + (l.length - (k + 1)) : Nat) : Int)) (q1 := wrap_c (by omega) (by omega) (by omega)) (n1 := df (by omega)) (q2 := wrap_c (by omega) (by omega) (by omega)) (n2 := df (by omega)) (hgr := ?_) (a1 := by omega) (a2 := by omega) (hkl1 := by omega)
    rw [show ((k + (l.length - (k + 1)) : Nat) : Int) = 0 by omega]
    exact gr8_0 (h0 := df (by omega)) (hs := by rw [wrap_i64_in (by omega) (by omega)]; rfl) (hg := df (by omega))
  · exact cut8_s (s1 := (k : Int)) (s2 := ((k + (l.length - (k + 1)) : Nat) : Int)) (q1 := wrap_c (by omega) (by omega) (by omega)) (n1 := df (by omega)) (q2 := wrap_c (by omega) (by omega) (by omega)) (n2 := df (by omega))
      (hgr := gr8_s (h0 := df (by omega)) (hs := by rw [wrap_i64_in (by omega) (by omega)]; congr 1 <;> omega) (hg := dt (by omega)) (a0 := by omega) (a1 := by omega)) (a1 := by omega) (a2 := by omega) (hkl1 := by omega)
theorem Rem8_any (x : Int) {l : List Pt} (hn : l.length ≤ 210) (n : Int) : (∃ e, e ≠ 0 ∧ RemErr 11 x l n e ∧ RemErr 21 x l n e ∧ GetR x l n 0 0 e) ∨
    (∃ (k : Nat) (p : Pt), V8 x l ∧ l[k]? = some p ∧ p.id = n ∧ RemOk 11 x l n (l.take k ++ l.drop (k + 1)) p.a p.b ∧ RemOk 21 x l n (l.take k ++ l.drop (k + 1)) p.a p.b) := by
  obtain ⟨a, b, e, g1, g2, h⟩ := Get8_any x hn n
  rcases h with ⟨hv, rfl, rfl, rfl⟩ | ⟨hv, hno, rfl, rfl, rfl⟩ | ⟨hv, rfl, k, p, hk, he, rfl, rfl⟩
  · exact Or.inl ⟨8, by omega, pr8_err (hg := g1) (he := by decide), rr8_err (hg := g2) (he := by decide), Or.inl ⟨hv, rfl, rfl, rfl⟩⟩
  · exact Or.inl ⟨6, by omega, pr8_err (hg := g1) (he := by decide), rr8_err (hg := g2) (he := by decide), Or.inr (Or.inl ⟨hv, hno, rfl, rfl, rfl⟩)⟩
  · have hl := get_lt hk
    refine Or.inr ⟨k, p, hv, hk, he, pr8_ok (hg := g1) (hf := find8_yes x hn hv.up hk he) (hkl := by omega) (hkl1 := by omega) (hk1 := i64_succ (by omega)) (hcut := Cut8 hn hl), rr8_ok (hg := g2) (hw := ?_)⟩
    have := Wo8_any x hn n
    rw [← he, filter_at8 hv.up hk] at this
    rw [← he]
    exact this

abbrev AddErr (f : FuncId) (x : Int) (l : List Pt) (a b e : Int) : Prop := FnL Try.prog f 1 [crtS 0 x l, .pv (certV a b)] [(0, 0, rowC l)] (.pv (.tuple #[nilC, .int .i64 0, .int .i64 e])) 0 []
abbrev AddOk (f : FuncId) (x : Int) (l : List Pt) (a b : Int) : Prop := FnL Try.prog f 1 [crtS 0 x l, .pv (certV a b)] [(0, 0, rowC l)] (.tu [.ag [.pv (.int .i64 (x + 1)), .ls 1 (l ++ [Pt.mk x a b]).length], .one (.pv (.int .i64 x)), .one (.pv (.int .i64 0))]) 1 [(1, 0, rowC (l ++ [Pt.mk x a b]))]
theorem Ix_any {l : List Pt} (hn : l.length ≤ 210) (a b : Int) : FnL Try.prog 64 2 [.ls 0 l.length, .pc 65 [.pp 1 0]] [(0, 0, rowC l), (1, 0, .pv (.int .i64 a)), (1, 1, .pv (.int .i64 b))] (.pv (.bool (hasC l a b))) 0 [] := by
  have step : ∀ k, (∀ j, j < k → ∀ p, l[j]? = some p → ¬ (p.a = a ∧ p.b = b)) → ∀ {e : Exit} {tm2 : List (Nat × SV)} {hp2 : List (Nat × Nat × SV)}, k ≤ l.length →
      RunsL Try.prog 2 2 (loopOf Try.prog 85 0) 19 2 [(0, .ls 0 l.length), (1, .pc 65 [.pp 1 0]), (7, .pv (.int .i64 (l.length : Int))), (8, .pv (.int .i64 (k : Int)))] [(0, 0, rowC l), (1, 0, .pv (.int .i64 a)), (1, 1, .pv (.int .i64 b))] e tm2 hp2 →
      RunsL Try.prog 2 2 (loopOf Try.prog 85 0) 19 2 [(0, .ls 0 l.length), (1, .pc 65 [.pp 1 0]), (7, .pv (.int .i64 (l.length : Int))), (8, .pv (.int .i64 ((0 : Nat) : Int)))] [(0, 0, rowC l), (1, 0, .pv (.int .i64 a)), (1, 1, .pv (.int .i64 b))] e tm2 hp2 := by
    intro k hk e tm2 hp2 hkl r
    refine RunsL.rounds (fun j => [(0, .ls 0 l.length), (1, .pc 65 [.pp 1 0]), (7, .pv (.int .i64 (l.length : Int))), (8, .pv (.int .i64 (j : Int)))]) (fun _ => [(0, 0, rowC l), (1, 0, .pv (.int .i64 a)), (1, 1, .pv (.int .i64 b))]) (N := k) k 0 (Nat.zero_add _) (fun j _ hj r => ?_) r
    obtain ⟨p, hp⟩ := get_some (l := l) (k := j) (by omega)
    exact ix8_next hp (in_of (get_lt hp)) (dt (by have := get_lt hp; omega)) (same_f (p := ⟨0, a, b⟩) (hk j hj p hp)) (i64_succ (by omega)) r
  rcases first_nat (fun j => ∀ p, l[j]? = some p → ¬ (p.a = a ∧ p.b = b)) l.length with h | ⟨j, hj, hb, hf⟩
  · rw [hasC_no fun k p hp => h k (get_lt hp) p hp]
    exact ct8_no (ix8_no (step l.length h (Nat.le_refl _) (ix8_end (df (by omega)))))
  · simp only [Classical.not_forall, Classical.not_not] at hb
    obtain ⟨p, hp, he⟩ := hb
    rw [hasC_iff.2 ⟨p, List.mem_of_getElem? hp, he⟩]
    exact ct8_yes (k := j) (ix8_yes (step j hf (by omega) (ix8_hit hp (in_of hj) (dt (by omega)) (same_t (p := ⟨0, a, b⟩) he)))) (dt (by omega))
noncomputable def newE (l : List Pt) (a b : Int) : Int := if crtB a b = true then (if hasC l a b = true then 14 else 0) else 8
def roomE (x : Int) (l : List Pt) : Int := if l.length = 200 ∨ x = 1000000 then 18 else 0
theorem Cn_any (x : Int) {l : List Pt} (hn : l.length ≤ 210) (a b : Int) : FnL Try.prog 40 1 [crtS 0 x l, .pv (certV a b)] [(0, 0, rowC l)] (.pv (.int .i64 (newE l a b))) 0 [] := by
  have h1 := Iv_any a b
  have h2 := Ix_any hn a b
  unfold newE
  cases c : crtB a b
  · rw [c] at h1; rw [if_neg (by decide)]; exact cn8_bad h1
  · rw [c] at h1
    rw [if_pos rfl]
    cases d : hasC l a b
    · rw [d] at h2; rw [if_neg (by decide)]; exact cn8_ok h1 h2
    · rw [d] at h2; rw [if_pos rfl]; exact cn8_two h1 h2
theorem Room_any8 (x : Int) (l : List Pt) : FnL Try.prog 41 1 [crtS 0 x l] [(0, 0, rowC l)] (.pv (.int .i64 (roomE x l))) 0 [] := by
  unfold roomE
  by_cases h1 : l.length = 200
  · rw [if_pos (Or.inl h1)]; exact cr8_full (by simp [h1])
  · by_cases h2 : x = 1000000
    · rw [if_pos (Or.inr h2)]; exact cr8_worn (by simp; omega) (by simp [h2])
    · rw [if_neg (by omega)]; exact cr8_ok (by simp; omega) (by simp [h2])
theorem Cat8 {l : List Pt} (hn : l.length ≤ 210) (x a b : Int) : FnL Try.prog 42 3 [.ps 2 0 2 2] [(2, 0, .ls 0 l.length), (2, 1, .ps 1 0 1 1), (1, 0, .pv (.int .i64 x)), (1, 1, .pv (.int .i64 a)), (1, 2, .pv (.int .i64 b)), (0, 0, rowC l)] (.ls 3 (l ++ [Pt.mk x a b]).length) 1 [(3, 0, rowC (l ++ [Pt.mk x a b]))] :=
  cat8 (s1 := (l.length : Int)) (s2 := ((l.length + 1 : Nat) : Int)) (q1 := wrap_c (by omega) (by omega) (by omega)) (n1 := df (by omega)) (q2 := wrap_c (by omega) (by omega) (by omega)) (n2 := df (by omega))
    (hgr := gr8_s (h0 := df (by omega)) (hs := by rw [wrap_i64_in (by omega) (by omega)]; congr 1 <;> omega) (hg := dt (by omega)) (a0 := by omega) (a1 := by omega)) (a1 := by omega) (a2 := by omega)
/-- What Add says. -/
def AddR (x : Int) (l : List Pt) (a b e : Int) : Prop := (e = 8 ∧ (¬ V8 x l ∨ ¬ crtB a b = true)) ∨ (e = 14 ∧ V8 x l ∧ crtB a b = true ∧ hasC l a b = true) ∨ (e = 18 ∧ V8 x l ∧ crtB a b = true ∧ hasC l a b = false ∧ (l.length = 200 ∨ x = 1000000))
theorem Add8_any (x : Int) {l : List Pt} (hn : l.length ≤ 210) (a b : Int) : (∃ e, AddErr 10 x l a b e ∧ AddErr 20 x l a b e ∧ AddR x l a b e) ∨
    (V8 x l ∧ crtB a b = true ∧ hasC l a b = false ∧ l.length < 200 ∧ x < 1000000 ∧ AddOk 10 x l a b ∧ AddOk 20 x l a b) := by
  have p1 := PC8_any x l
  have p2 := Cn_any x hn a b
  have p3 := Room_any8 x l
  have r1 := RC8_any x l
  have r2 := Rv_any a b
  have r3 := Has_any x (l := l) (by omega) a b
  by_cases hv : V8 x l
  · rw [errC_ok hv] at p1 r1
    cases hc : crtB a b
    · rw [hc] at r2
      have e2 : newE l a b = 8 := by unfold newE; rw [hc, if_neg (by decide)]
      rw [e2] at p2
      exact Or.inl ⟨8, pa8_e2 (c1 := p1) (c2 := p2) (c3 := p3) (he := by decide), ra8_inv (hc := r1) (hv := r2), Or.inl ⟨rfl, Or.inr (by rw [hc]; decide)⟩⟩
    · rw [hc] at r2
      cases hh : hasC l a b
      · rw [hh] at r3
        have e2 : newE l a b = 0 := by unfold newE; rw [hc, if_pos rfl, hh, if_neg (by decide)]
        rw [e2] at p2
        by_cases hf : l.length = 200
        · have e3 : roomE x l = 18 := by unfold roomE; rw [if_pos (Or.inl hf)]
          rw [e3] at p3
          exact Or.inl ⟨18, pa8_e3 (c1 := p1) (c2 := p2) (c3 := p3) (he := by decide), ra8_full (hc := r1) (hv := r2) (hh := r3) (hf := by simp; omega), Or.inr (Or.inr ⟨rfl, hv, hc, hh, Or.inl hf⟩)⟩
        · by_cases hw : x = 1000000
          · have e3 : roomE x l = 18 := by unfold roomE; rw [if_pos (Or.inr hw)]
            rw [e3] at p3
            exact Or.inl ⟨18, pa8_e3 (c1 := p1) (c2 := p2) (c3 := p3) (he := by decide), ra8_worn (hc := r1) (hv := r2) (hh := r3) (hf := by simp; omega) (hu := by simp [hw]), Or.inr (Or.inr ⟨rfl, hv, hc, hh, Or.inr hw⟩)⟩
          · have e3 : roomE x l = 0 := by unfold roomE; rw [if_neg (by omega)]
            rw [e3] at p3
            have hl := hv.len
            have hx := hv.nx
            have hy : Value.int .i64 (IntKind.i64.wrap (x + 1)) = .int .i64 (x + 1) := wrap_c rfl (by omega) (by omega)
            refine Or.inr ⟨hv, rfl, rfl, by omega, by omega, pa8_ok (c1 := p1) (c2 := p2) (c3 := p3) (hcat := Cat8 hn x a b) (hy := hy), ra8_ok (hc := r1) (hv := r2) (hh := r3) (hf := by simp; omega) (hu := by simpa using hw) (ht := Twin8_any x (by omega)) (hn := by omega) (hy := hy)⟩
      · rw [hh] at r3
        have e2 : newE l a b = 14 := by unfold newE; rw [hc, if_pos rfl, hh, if_pos rfl]
        rw [e2] at p2
        exact Or.inl ⟨14, pa8_e2 (c1 := p1) (c2 := p2) (c3 := p3) (he := by decide), ra8_two (hc := r1) (hv := r2) (hh := r3), Or.inr (Or.inl ⟨rfl, hv, hc, hh⟩)⟩
  · rw [errC_bad hv] at p1 r1
    exact Or.inl ⟨8, pa8_e1 (c1 := p1) (c2 := p2) (c3 := p3) (he := by decide), ra8_bad (hc := r1), Or.inl ⟨rfl, Or.inl hv⟩⟩
end Go.Proofs.Ytjjmnoiffpnphaa
