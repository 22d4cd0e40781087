/-
  Joined: Fn, Fr, Fs, Ka, Ks, Kn, Kq, Kh2. Conditions: none.
-/
import Derived.Test.YtjjmnoiffpnphaaFm
import Derived.Test.YtjjmnoiffpnphaaW29
import Derived.Test.YtjjmnoiffpnphaaW24
import Derived.Test.YtjjmnoiffpnphaaSxN
import Derived.Test.YtjjmnoiffpnphaaZj
import Derived.Test.YtjjmnoiffpnphaaFq
namespace Go.Proofs.Ytjjmnoiffpnphaa
open Go.RowKit
theorem Great_any (l : List Pt) : (¬ (l.length ≤ 16 ∨ 64 ≤ l.length ∧ l.length ≤ 70) ∧ FnL Try.prog 28 1 [fldS 0 l] [(0, 0, rowP l)] (.pv (.bool true)) 0 []) ∨
    ((l.length ≤ 16 ∨ 64 ≤ l.length ∧ l.length ≤ 70) ∧ FnL Try.prog 28 1 [fldS 0 l] [(0, 0, rowP l)] (.pv (.bool false)) 0 []) := by
  by_cases h1 : l.length > 16
  · by_cases h2 : l.length < 64
    · exact Or.inl ⟨by omega, great_t (dt (by omega)) (dt (by omega))⟩
    · by_cases h3 : l.length > 70
      · exact Or.inl ⟨by omega, great_t2 (dt (by omega)) (df (by omega)) (dt (by omega))⟩
      · exact Or.inr ⟨by omega, great_f2 (dt (by omega)) (df (by omega)) (df (by omega))⟩
  · exact Or.inr ⟨by omega, great_f (df (by omega)) (df (by omega))⟩
theorem take_succ {α : Type} {l : List α} {k : Nat} {p : α} (h : l[k]? = some p) : l.take (k + 1) = l.take k ++ [p] := by rw [List.take_add_one, h]; rfl
end Go.Proofs.Ytjjmnoiffpnphaa

namespace Go.Proofs.Ytjjmnoiffpnphaa
open Go.RowKit
def ld (tn td : Int) (p q : Pt) : Bool := leadsB (p.a * td + p.b * tn) (q.a * td + q.b * tn) p.b q.b p.id q.id
theorem leadsB_iff {P Q pb qb pi qi : Int} : leadsB P Q pb qb pi qi = true ↔ (P > Q ∨ P = Q ∧ (pb > qb ∨ pb = qb ∧ pi < qi)) := by unfold leadsB; exact decide_eq_true_iff
theorem leadsB_niff {P Q pb qb pi qi : Int} : leadsB P Q pb qb pi qi = false ↔ ¬ (P > Q ∨ P = Q ∧ (pb > qb ∨ pb = qb ∧ pi < qi)) := by unfold leadsB; exact decide_eq_false_iff_not
section
variable {tn td : Int} {p q r : Pt}
theorem ld_irr (p : Pt) : ld tn td p p = false := leadsB_niff.2 (by omega)
theorem ld_trans (h : ld tn td p q = true) (k : ld tn td q r = true) : ld tn td p r = true := by
  unfold ld at *
  generalize p.a * td + p.b * tn = P at *
  generalize q.a * td + q.b * tn = Q at *
  generalize r.a * td + r.b * tn = R at *
  rw [leadsB_iff] at *
  omega
theorem ld_asym (h : ld tn td p q = true) : ld tn td q p = false := by
  cases hh : ld tn td q p
  · rfl
  · have := ld_trans h hh; rw [ld_irr] at this; cases this
end
/-- How many lead. -/
def rk (tn td : Int) (l : List Pt) (p : Pt) : Nat := l.countP fun q => ld tn td q p
theorem rk_aux {tn td : Int} : ∀ (s : List Pt) (k : Nat) (p : Pt), s.Pairwise (fun p q => ld tn td p q = true) → s[k]? = some p → rk tn td s p = k
  | [], _, _, _, h => by simp at h
  | a :: r, 0, p, hp, h => by
    simp only [List.getElem?_cons_zero, Option.some.injEq] at h
    subst h
    rw [List.pairwise_cons] at hp
    unfold rk
    rw [List.countP_eq_zero]
    intro q hq
    rcases List.mem_cons.1 hq with rfl | hq
    · rw [ld_irr]; decide
    · rw [ld_asym (hp.1 q hq)]; decide
  | a :: r, k + 1, p, hp, h => by
    rw [List.getElem?_cons_succ] at h
    rw [List.pairwise_cons] at hp
    have := rk_aux r k p hp.2 h
    unfold rk at this ⊢
    rw [List.countP_cons, this, if_pos (hp.1 p (List.mem_of_getElem? h))]
structure Srt (l : List Pt) (tn td : Int) (s : List Pt) : Prop where
  perm : s.Perm l
  pw : s.Pairwise (fun p q => ld tn td p q = true)
theorem Srt.len {l s : List Pt} {tn td : Int} (h : Srt l tn td s) : s.length = l.length := h.perm.length_eq
theorem Srt.rank {l s : List Pt} {tn td : Int} (h : Srt l tn td s) {k : Nat} {p : Pt} (hk : s[k]? = some p) : rk tn td l p = k := by
  have := rk_aux s k p h.pw hk
  unfold rk at this ⊢
  rw [← h.perm.countP_eq]; exact this
theorem Srt.at {l s : List Pt} {tn td : Int} (h : Srt l tn td s) {p : Pt} (hp : p ∈ l) : s[rk tn td l p]? = some p := by
  obtain ⟨k, hk, e⟩ := List.getElem_of_mem (h.perm.mem_iff.2 hp)
  have hk' : s[k]? = some p := by rw [List.getElem?_eq_getElem hk, e]
  rw [h.rank hk']; exact hk'
theorem Srt.lt {l s : List Pt} {tn td : Int} (h : Srt l tn td s) {p : Pt} (hp : p ∈ l) : rk tn td l p < l.length := by rw [← h.len]; exact get_lt (h.at hp)
end Go.Proofs.Ytjjmnoiffpnphaa

namespace Go.Proofs.Ytjjmnoiffpnphaa
open Go.RowKit
noncomputable def tE (l : List Pt) (tn td : Int) : Int := if errL l = 0 then (if okB tn td = true then 0 else 8) else errL l
theorem Timed_any {tn td : Int} (hn : I64 tn) (hd : I64 td) (l : List Pt) : FnL Try.prog 36 1 [fldS 0 l, .pv (ratioV tn td)] [(0, 0, rowP l)] (.pv (.int .i64 (tE l tn td))) 0 [] := by
  unfold tE
  by_cases h0 : errL l = 0
  · have c1 := RCheck_any l
    rw [h0] at c1
    rw [if_pos h0]
    by_cases hp : okB tn td = true
    · rw [if_pos hp]; exact tmd_ok c1 (RCheck_ok hn hd hp)
    · rw [if_neg hp]; exact tmd_ok c1 (RCheck_bad hn hd hp)
  · rw [if_neg h0]
    exact tmd_err (RCheck_any l) (by simp [h0])
section
variable {l : List Pt} {tn td : Int}
end
end Go.Proofs.Ytjjmnoiffpnphaa

namespace Go.Proofs.Ytjjmnoiffpnphaa
open Go.RowKit
abbrev certV (a b : Int) : Value := .agg #[.int .i64 a, .int .i64 b]
abbrev rowC (l : List Pt) : SV := .row 28 3 l.length (ptsV l)
abbrev crtS (b : Nat) (x : Int) (l : List Pt) : SV := .ag [.pv (.int .i64 x), .ls b l.length]
theorem ra_ce {l : List Pt} {k : Nat} {p : Pt} (h : l[k]? = some p) : rowAt (ptsV l) (0 * 3 + k * 3 + 1) [.int .i64 p.a, .int .i64 p.b] := by
  obtain ⟨_, h2, h3⟩ := ptsV_get h
  intro j v hj
  rw [show 0 * 3 + k * 3 + 1 + j = k * 3 + 1 + j by omega]
  match j, hj with
  | 0, hj => cases hj; exact h2
  | 1, hj => cases hj; exact h3
  | j + 2, hj => simp at hj
theorem ra_nu {l : List Pt} {k : Nat} {p : Pt} (h : l[k]? = some p) : rowAt (ptsV l) (0 * 3 + k * 3 + 0) [.int .i64 p.id] := ra_id h
theorem ra_lo {l : List Pt} {k : Nat} {p : Pt} (h : l[k]? = some p) : rowAt (ptsV l) (0 * 3 + k * 3 + 1 + 0) [.int .i64 p.a] := by
  intro j v hj
  rw [show 0 * 3 + k * 3 + 1 + 0 + j = k * 3 + 1 + j by omega]
  match j, hj with
  | 0, hj => cases hj; exact (ptsV_get h).2.1
  | j + 1, hj => simp at hj
theorem ra_hi {l : List Pt} {k : Nat} {p : Pt} (h : l[k]? = some p) : rowAt (ptsV l) (0 * 3 + k * 3 + 1 + 1) [.int .i64 p.b] := by
  intro j v hj
  rw [show 0 * 3 + k * 3 + 1 + 1 + j = k * 3 + 2 + j by omega]
  match j, hj with
  | 0, hj => cases hj; exact (ptsV_get h).2.2
  | j + 1, hj => simp at hj

def crtB (a b : Int) : Bool := decide (0 ≤ a ∧ a ≤ 65535 ∧ 0 ≤ b ∧ b ≤ 65535 ∧ a ≠ b)
theorem crtB_iff {a b : Int} : crtB a b = true ↔ 0 ≤ a ∧ a ≤ 65535 ∧ 0 ≤ b ∧ b ≤ 65535 ∧ a ≠ b := by simp [crtB]
/-- No two the same, and all of them valid. -/
def Dis (l : List Pt) : Prop := ∀ (i k : Nat) (p q : Pt), i < k → l[i]? = some p → l[k]? = some q → ¬ (p.a = q.a ∧ p.b = q.b)
structure V8 (x : Int) (l : List Pt) : Prop where
  len : l.length ≤ 200
  ok : ∀ p ∈ l, crtB p.a p.b = true
  up : Up l
  lo : ∀ p ∈ l, 0 ≤ p.id
  hi : ∀ p ∈ l, p.id < x
  nx : 0 ≤ x ∧ x ≤ 1000000
  dis : Dis l
noncomputable def errC (x : Int) (l : List Pt) : Int := open Classical in if V8 x l then 0 else 8
theorem errC_ok {x : Int} {l : List Pt} (h : V8 x l) : errC x l = 0 := by unfold errC; rw [if_pos h]
theorem errC_bad {x : Int} {l : List Pt} (h : ¬ V8 x l) : errC x l = 8 := by unfold errC; rw [if_neg h]
def seenP (m : List Pt) : List (Value × Value) := m.map fun p => (certV p.a p.b, .bool true)
abbrev seenV (m : List Pt) : List Value := kvL (seenP m)
theorem cert_inj {a b c d : Int} (h : certV a b = certV c d) : a = c ∧ b = d := by
  injection h with h
  injection h with h
  injection h with h1 h2
  injection h2 with h2 _
  injection h1 with _ h1
  injection h2 with _ h2
  exact ⟨h1, h2⟩
theorem cert_key (a b : Int) : MapK Try.prog 116 23 4 (certV a b) (fun x => ∃ c d, x = certV c d) (.bool false) :=
  struct_key (by kernel_rfl) Try.underlying23 (fun w => prun_run (by kernel_rfl) w)
    (fun e w => by cases e <;> exact prun_run (by kernel_rfl) w)
    (fun w x ⟨c, d, hx⟩ => by
      subst hx
      refine ⟨(a == c && (b == d && true)), eqB_run w 40 _ _ _ _ (by kernel_rfl) Op.maxDepth (by decide), ?_⟩
      rw [Bool.and_true, Bool.and_eq_true, beq_iff_eq, beq_iff_eq]
      exact ⟨fun h => by rw [h.1, h.2], fun h => (cert_inj h).imp Eq.symm Eq.symm⟩)
theorem seen_k (m : List Pt) : ∀ p ∈ seenP m, ∃ c d, p.1 = certV c d := fun p hp => by
  obtain ⟨q, _, rfl⟩ := List.mem_map.1 hp
  exact ⟨q.a, q.b, rfl⟩
theorem seen_no {m : List Pt} {p : Pt} (h : ∀ q ∈ m, ¬ (q.a = p.a ∧ q.b = p.b)) : LookIs Try.prog 116 (seenV m) (certV p.a p.b) false (.bool false) :=
  look_no (cert_key p.a p.b) (seen_k m) (fun q hq e => by
    obtain ⟨r, hr, rfl⟩ := List.mem_map.1 hq
    exact h r hr (cert_inj e)) false
theorem seen_yes {m : List Pt} {p q : Pt} (hq : q ∈ m) (h : q.a = p.a ∧ q.b = p.b) : LookIs Try.prog 116 (seenV m) (certV p.a p.b) false (.bool true) :=
  look_yes (v := .bool true) (cert_key p.a p.b) (seen_k m) (List.mem_map.2 ⟨q, hq, by rw [h.1, h.2]⟩) (fun r hr _ => by
    obtain ⟨s, _, rfl⟩ := List.mem_map.1 hr
    rfl) false
theorem seen_put {m : List Pt} {p : Pt} (h : ∀ q ∈ m, ¬ (q.a = p.a ∧ q.b = p.b)) : PutIs Try.prog 116 (seenV m) (certV p.a p.b) (.bool true) (seenV (m ++ [p])) := by
  have := put_new (cert_key p.a p.b) (seen_k m) (fun q hq e => by
    obtain ⟨r, hr, rfl⟩ := List.mem_map.1 hq
    exact h r hr (cert_inj e)) (.bool true)
  show PutIs _ _ _ _ _ (kvL (seenP (m ++ [p])))
  rw [show seenP (m ++ [p]) = seenP m ++ [(certV p.a p.b, .bool true)] by simp [seenP]]
  exact this

def ptsM (l : List Pt) : List (Value × Value) := l.map fun p => (.int .i64 p.id, ptV p)
abbrev byV (l : List Pt) : List Value := kvL (ptsM l)
theorem id_key (a : Int) : MapK Try.prog 90 3 50 (.int .i64 a) (fun x => ∃ b, x = .int .i64 b) (pointV 0 0 0) :=
  int_key (by kernel_rfl) Try.underlying3 (fun w => prun_run (by kernel_rfl) w) a
theorem by_k (l : List Pt) : ∀ p ∈ ptsM l, ∃ b, p.1 = .int .i64 b := fun p hp => by
  obtain ⟨q, _, rfl⟩ := List.mem_map.1 hp
  exact ⟨q.id, rfl⟩
theorem int_inj {a b : Int} (h : Value.int .i64 a = .int .i64 b) : a = b := by injection h
theorem by_no {l : List Pt} {a : Int} (h : ∀ q ∈ l, q.id ≠ a) (ok : Bool) : LookIs Try.prog 90 (byV l) (.int .i64 a) ok (if ok = true then .tuple #[pointV 0 0 0, .bool false] else pointV 0 0 0) :=
  look_no (id_key a) (by_k l) (fun q hq e => by
    obtain ⟨r, hr, rfl⟩ := List.mem_map.1 hq
    exact h r hr (int_inj e)) ok
theorem by_yes {l : List Pt} {p : Pt} (hp : p ∈ l) (hu : ∀ q ∈ l, q.id = p.id → q = p) (ok : Bool) : LookIs Try.prog 90 (byV l) (.int .i64 p.id) ok (if ok = true then .tuple #[ptV p, .bool true] else ptV p) :=
  look_yes (v := ptV p) (id_key p.id) (by_k l) (List.mem_map.2 ⟨p, hp, rfl⟩) (fun r hr e => by
    obtain ⟨s, hs, rfl⟩ := List.mem_map.1 hr
    rw [hu s hs (int_inj e)]) ok
theorem by_put {l : List Pt} {p : Pt} (h : ∀ q ∈ l, q.id ≠ p.id) : PutIs Try.prog 90 (byV l) (.int .i64 p.id) (ptV p) (byV (l ++ [p])) := by
  have := put_new (id_key p.id) (by_k l) (fun q hq e => by
    obtain ⟨r, hr, rfl⟩ := List.mem_map.1 hq
    exact h r hr (int_inj e)) (ptV p)
  show PutIs _ _ _ _ _ (kvL (ptsM (l ++ [p])))
  rw [show ptsM (l ++ [p]) = ptsM l ++ [(.int .i64 p.id, ptV p)] by simp [ptsM]]
  exact this
end Go.Proofs.Ytjjmnoiffpnphaa

namespace Go.Proofs.Ytjjmnoiffpnphaa
open Go.RowKit
set_option maxRecDepth 100000 in
theorem al8_path (hN : FnL Try.prog 26 0 [] [] (.ag [.pv (.int .i64 0), .ls 0 0]) 1 [(0, 0, rowC [])]) (hA : FnL Try.prog 10 1 [crtS 0 0 [], .pv (certV 1 2)] [(0, 0, rowC [])] (.tu [.ag [.pv (.int .i64 1), .ls 1 1], .one (.pv (.int .i64 0)), .one (.pv (.int .i64 0))]) 1 [(1, 0, rowC [(Pt.mk 0 1 2)])]) (hB : FnL Try.prog 10 1 [crtS 0 1 [(Pt.mk 0 1 2)], .pv (certV 3 2)] [(0, 0, rowC [(Pt.mk 0 1 2)])] (.tu [.ag [.pv (.int .i64 2), .ls 1 2], .one (.pv (.int .i64 1)), .one (.pv (.int .i64 0))]) 1 [(1, 0, rowC [(Pt.mk 0 1 2), (Pt.mk 1 3 2)])]) (ho2 : FnL Try.prog 13 1 [crtS 0 2 [(Pt.mk 0 1 2), (Pt.mk 1 3 2)], .pv (.int .i64 (2))] [(0, 0, rowC [(Pt.mk 0 1 2), (Pt.mk 1 3 2)])] (.tu [.one (.ls 1 2), .one (.pv (.int .i64 0))]) 1 [(1, 0, rowI [0, 1])]) (ho1 : FnL Try.prog 13 1 [crtS 0 2 [(Pt.mk 0 1 2), (Pt.mk 1 3 2)], .pv (.int .i64 (1))] [(0, 0, rowC [(Pt.mk 0 1 2), (Pt.mk 1 3 2)])] (.tu [.one (.ls 1 1), .one (.pv (.int .i64 0))]) 1 [(1, 0, rowI [0])]) (hat : Pure Try.prog 17 #[.int .i64 0] (ratioV 0 1)) (hH : FnL Try.prog 14 2 [crtS 0 2 [(Pt.mk 0 1 2), (Pt.mk 1 3 2)], fldS 1 [Pt.mk 1 5 0, Pt.mk 2 6 0, Pt.mk 3 7 0], .pv (ratioV 0 1)] [(0, 0, rowC [(Pt.mk 0 1 2), (Pt.mk 1 3 2)]), (1, 0, rowP [Pt.mk 1 5 0, Pt.mk 2 6 0, Pt.mk 3 7 0])] (.tu [.one (.ls 2 1), .one (.pv (.int .i64 0))]) 1 [(2, 0, rowI [0])]) (hR : FnL Try.prog 11 1 [crtS 0 2 [(Pt.mk 0 1 2), (Pt.mk 1 3 2)], .pv (.int .i64 (0))] [(0, 0, rowC [(Pt.mk 0 1 2), (Pt.mk 1 3 2)])] (.tu [.ag [.pv (.int .i64 2), .ls 1 1], .one (.pv (certV 1 2)), .one (.pv (.int .i64 0))]) 1 [(1, 0, rowC [(Pt.mk 1 3 2)])]) (hC : FnL Try.prog 10 1 [crtS 0 2 [(Pt.mk 1 3 2)], .pv (certV 1 2)] [(0, 0, rowC [(Pt.mk 1 3 2)])] (.tu [.ag [.pv (.int .i64 3), .ls 1 2], .one (.pv (.int .i64 2)), .one (.pv (.int .i64 0))]) 1 [(1, 0, rowC [(Pt.mk 1 3 2), (Pt.mk 2 1 2)])]) (hs1 : FnL Try.prog 27 2 [.ls 0 2, .ls 1 2] [(0, 0, rowI [0, 1]), (1, 0, rowI [0, 1])] (.pv (.bool true)) 0 []) (hs2 : FnL Try.prog 27 2 [.ls 0 1, .ls 1 1] [(0, 0, rowI [0]), (1, 0, rowI [0])] (.pv (.bool true)) 0 []) (hs3 : FnL Try.prog 27 2 [.ls 0 1, .ls 1 1] [(0, 0, rowI [0]), (1, 0, rowI [0])] (.pv (.bool true)) 0 []) :
    FnL Try.prog 18 0 [] [] (.pv (.bool true)) 0 [] :=
  fnl_run 300 [] [.f [] [] [] (.ag [.pv (.int .i64 0), .ls 0 0]) 1 [(0, 0, rowC [])], .f [0] [crtS 0 0 [], .pv (certV 1 2)] [(0, 0, rowC [])] (.tu [.ag [.pv (.int .i64 1), .ls 1 1], .one (.pv (.int .i64 0)), .one (.pv (.int .i64 0))]) 1 [(1, 0, rowC [(Pt.mk 0 1 2)])], .f [1] [crtS 0 1 [(Pt.mk 0 1 2)], .pv (certV 3 2)] [(0, 0, rowC [(Pt.mk 0 1 2)])] (.tu [.ag [.pv (.int .i64 2), .ls 1 2], .one (.pv (.int .i64 1)), .one (.pv (.int .i64 0))]) 1 [(1, 0, rowC [(Pt.mk 0 1 2), (Pt.mk 1 3 2)])], .f [3] [crtS 0 2 [(Pt.mk 0 1 2), (Pt.mk 1 3 2)], .pv (.int .i64 (2))] [(0, 0, rowC [(Pt.mk 0 1 2), (Pt.mk 1 3 2)])] (.tu [.one (.ls 1 2), .one (.pv (.int .i64 0))]) 1 [(1, 0, rowI [0, 1])], .f [3] [crtS 0 2 [(Pt.mk 0 1 2), (Pt.mk 1 3 2)], .pv (.int .i64 (1))] [(0, 0, rowC [(Pt.mk 0 1 2), (Pt.mk 1 3 2)])] (.tu [.one (.ls 1 1), .one (.pv (.int .i64 0))]) 1 [(1, 0, rowI [0])], .md, .lw, .r (ratioV 0 1), .f [3,7] [crtS 0 2 [(Pt.mk 0 1 2), (Pt.mk 1 3 2)], fldS 1 [Pt.mk 1 5 0, Pt.mk 2 6 0, Pt.mk 3 7 0], .pv (ratioV 0 1)] [(0, 0, rowC [(Pt.mk 0 1 2), (Pt.mk 1 3 2)]), (1, 0, rowP [Pt.mk 1 5 0, Pt.mk 2 6 0, Pt.mk 3 7 0])] (.tu [.one (.ls 2 1), .one (.pv (.int .i64 0))]) 1 [(2, 0, rowI [0])], .f [3] [crtS 0 2 [(Pt.mk 0 1 2), (Pt.mk 1 3 2)], .pv (.int .i64 (0))] [(0, 0, rowC [(Pt.mk 0 1 2), (Pt.mk 1 3 2)])] (.tu [.ag [.pv (.int .i64 2), .ls 1 1], .one (.pv (certV 1 2)), .one (.pv (.int .i64 0))]) 1 [(1, 0, rowC [(Pt.mk 1 3 2)])], .f [9] [crtS 0 2 [(Pt.mk 1 3 2)], .pv (certV 1 2)] [(0, 0, rowC [(Pt.mk 1 3 2)])] (.tu [.ag [.pv (.int .i64 3), .ls 1 2], .one (.pv (.int .i64 2)), .one (.pv (.int .i64 0))]) 1 [(1, 0, rowC [(Pt.mk 1 3 2), (Pt.mk 2 1 2)])], .k, .k, .k, .k, .k, .lw, .f [5,14] [.ls 0 2, .ls 1 2] [(0, 0, rowI [0, 1]), (1, 0, rowI [0, 1])] (.pv (.bool true)) 0 [], .k, .lw, .f [6,15] [.ls 0 1, .ls 1 1] [(0, 0, rowI [0]), (1, 0, rowI [0])] (.pv (.bool true)) 0 [], .k, .lw, .f [8,16] [.ls 0 1, .ls 1 1] [(0, 0, rowI [0]), (1, 0, rowI [0])] (.pv (.bool true)) 0 [], .k, .k, .k, .k]
     True.intro (And.intro hN (And.intro (Eq.refl (List.map (SV.ren (renU [] 0)) [])) (And.intro (reflH (renU [] 0) []) (And.intro hA (And.intro (Eq.refl (List.map (SV.ren (renU [0] 1)) [crtS 0 0 [], .pv (certV 1 2)])) (And.intro (reflH (renU [0] 1) [(0, 0, rowC [])]) (And.intro hB (And.intro (Eq.refl (List.map (SV.ren (renU [1] 3)) [crtS 0 1 [(Pt.mk 0 1 2)], .pv (certV 3 2)])) (And.intro (reflH (renU [1] 3) [(0, 0, rowC [(Pt.mk 0 1 2)])]) (And.intro ho2 (And.intro (Eq.refl (List.map (SV.ren (renU [3] 5)) [crtS 0 2 [(Pt.mk 0 1 2), (Pt.mk 1 3 2)], .pv (.int .i64 (2))])) (And.intro (reflH (renU [3] 5) [(0, 0, rowC [(Pt.mk 0 1 2), (Pt.mk 1 3 2)])]) (And.intro ho1 (And.intro (Eq.refl (List.map (SV.ren (renU [3] 6)) [crtS 0 2 [(Pt.mk 0 1 2), (Pt.mk 1 3 2)], .pv (.int .i64 (1))])) (And.intro (reflH (renU [3] 6) [(0, 0, rowC [(Pt.mk 0 1 2), (Pt.mk 1 3 2)])]) (And.intro hat (And.intro hH (And.intro (Eq.refl (List.map (SV.ren (renU [3,7] 8)) [crtS 0 2 [(Pt.mk 0 1 2), (Pt.mk 1 3 2)], fldS 1 [Pt.mk 1 5 0, Pt.mk 2 6 0, Pt.mk 3 7 0], .pv (ratioV 0 1)])) (And.intro (reflH (renU [3,7] 8) [(0, 0, rowC [(Pt.mk 0 1 2), (Pt.mk 1 3 2)]), (1, 0, rowP [Pt.mk 1 5 0, Pt.mk 2 6 0, Pt.mk 3 7 0])]) (And.intro hR (And.intro (Eq.refl (List.map (SV.ren (renU [3] 9)) [crtS 0 2 [(Pt.mk 0 1 2), (Pt.mk 1 3 2)], .pv (.int .i64 (0))])) (And.intro (reflH (renU [3] 9) [(0, 0, rowC [(Pt.mk 0 1 2), (Pt.mk 1 3 2)])]) (And.intro hC (And.intro (Eq.refl (List.map (SV.ren (renU [9] 12)) [crtS 0 2 [(Pt.mk 1 3 2)], .pv (certV 1 2)])) (And.intro (reflH (renU [9] 12) [(0, 0, rowC [(Pt.mk 1 3 2)])]) (And.intro hs1 (And.intro (Eq.refl (List.map (SV.ren (renU [5,14] 15)) [.ls 0 2, .ls 1 2])) (And.intro (reflH (renU [5,14] 15) [(0, 0, rowI [0, 1]), (1, 0, rowI [0, 1])]) (And.intro hs2 (And.intro (Eq.refl (List.map (SV.ren (renU [6,15] 16)) [.ls 0 1, .ls 1 1])) (And.intro (reflH (renU [6,15] 16) [(0, 0, rowI [0]), (1, 0, rowI [0])]) (And.intro hs3 (And.intro (Eq.refl (List.map (SV.ren (renU [8,16] 17)) [.ls 0 1, .ls 1 1])) (And.intro (reflH (renU [8,16] 17) [(0, 0, rowI [0]), (1, 0, rowI [0])]) True.intro)))))))))))))))))))))))))))))))))) (by kernel_rfl)

set_option maxRecDepth 100000 in
theorem at8_pure  :
    Pure Try.prog 17 #[.int .i64 0] (ratioV 0 1) :=
  pure_run (args := [.int .i64 0]) 300 []
    (And.intro rfl True.intro) (by kernel_rfl)

end Go.Proofs.Ytjjmnoiffpnphaa

namespace Go.Proofs.Ytjjmnoiffpnphaa
open Go.ChangeShapes Go.WideShapes Go.ChangeAt Go.RowKit Go.Joins Go.Deep
theorem SameI_ok {g : List Int} (hn : g.length ≤ 1000000) : FnL Try.prog 27 2 [.ls 0 g.length, .ls 1 g.length] [(0, 0, rowI g), (1, 0, rowI g)] (.pv (.bool true)) 0 [] :=
  sid_yes (by simp) (RunsL.rounds (fun k => [(0, .ls 0 g.length), (1, .ls 1 g.length), (5, .pv (.int .i64 (k : Int)))]) (fun _ => [(0, 0, rowI g), (1, 0, rowI g)]) g.length 0 (Nat.zero_add _)
    (fun k _ hk r => by
      obtain ⟨p, hp⟩ := get_some hk
      exact sid_next hp (in_of hk) hp (in_of hk) (dt (by omega)) (by simp) (i64_succ (by omega)) r)
    (sid_end (df (by omega))))

section
variable {H : Type} {enc : TypeId × Value → H} {W : World} {base : Nat} {spare : Nat → Bool} {held : Bool}
end
end Go.Proofs.Ytjjmnoiffpnphaa

namespace Go.Proofs.Ytjjmnoiffpnphaa
open Go.RowKit
theorem one_in : 0 ≤ (0 : Int) ∧ (0 : Int) < ((1 : Nat) : Int) := by decide

set_option maxRecDepth 100000 in
theorem on_0 {s : List Pt} {tn td lo hi : Int} (hG : FnL Try.prog 28 1 [fldS 0 s] [(0, 0, rowP s)] (.pv (.bool true)) 0 []) (hal : Pure Try.prog 18 #[] (.bool true)) :
    FnL Try.prog 8 1 [fldS 0 s, .pv (ratioV tn td), .pv (.int .i64 (lo)), .pv (.int .i64 (hi))] [(0, 0, rowP s)] (.pv (.bool true)) 0 [] :=
  fnl_run 300 [] [.f [0] [fldS 0 s] [(0, 0, rowP s)] (.pv (.bool true)) 0 [], .r (.bool true)]
     True.intro (And.intro hG (And.intro (Eq.refl (List.map (SV.ren (renU [0] 3)) [fldS 0 s])) (And.intro (reflH (renU [0] 3) [(0, 0, rowP s)]) (And.intro hal True.intro)))) (by kernel_rfl)

set_option maxRecDepth 100000 in
theorem on_1 {s : List Pt} {tn td lo hi er : Int} (hG : FnL Try.prog 28 1 [fldS 0 s] [(0, 0, rowP s)] (.pv (.bool false)) 0 []) (hT : FnL Try.prog 36 1 [fldS 0 s, .pv (ratioV tn td)] [(0, 0, rowP s)] (.pv (.int .i64 (er))) 0 []) (he : (er != 0) = true) (hal : Pure Try.prog 18 #[] (.bool true)) :
    FnL Try.prog 8 1 [fldS 0 s, .pv (ratioV tn td), .pv (.int .i64 (lo)), .pv (.int .i64 (hi))] [(0, 0, rowP s)] (.pv (.bool true)) 0 [] :=
  fnl_run 300 [] [.f [0] [fldS 0 s] [(0, 0, rowP s)] (.pv (.bool false)) 0 [], .f [0] [fldS 0 s, .pv (ratioV tn td)] [(0, 0, rowP s)] (.pv (.int .i64 (er))) 0 [], .t true, .r (.bool true)]
     True.intro (And.intro hG (And.intro (Eq.refl (List.map (SV.ren (renU [0] 3)) [fldS 0 s])) (And.intro (reflH (renU [0] 3) [(0, 0, rowP s)]) (And.intro hT (And.intro (Eq.refl (List.map (SV.ren (renU [0] 3)) [fldS 0 s, .pv (ratioV tn td)])) (And.intro (reflH (renU [0] 3) [(0, 0, rowP s)]) (And.intro he (And.intro hal True.intro)))))))) (by kernel_rfl)

set_option maxRecDepth 100000 in
theorem on_2 {s : List Pt} {tn td lo hi : Int} (hG : FnL Try.prog 28 1 [fldS 0 s] [(0, 0, rowP s)] (.pv (.bool false)) 0 []) (hT : FnL Try.prog 36 1 [fldS 0 s, .pv (ratioV tn td)] [(0, 0, rowP s)] (.pv (.int .i64 (0))) 0 []) (hlh : (lo == hi) = true) (hal : Pure Try.prog 18 #[] (.bool true)) :
    FnL Try.prog 8 1 [fldS 0 s, .pv (ratioV tn td), .pv (.int .i64 (lo)), .pv (.int .i64 (hi))] [(0, 0, rowP s)] (.pv (.bool true)) 0 [] :=
  fnl_run 300 [] [.f [0] [fldS 0 s] [(0, 0, rowP s)] (.pv (.bool false)) 0 [], .f [0] [fldS 0 s, .pv (ratioV tn td)] [(0, 0, rowP s)] (.pv (.int .i64 (0))) 0 [], .k, .t true, .r (.bool true)]
     True.intro (And.intro hG (And.intro (Eq.refl (List.map (SV.ren (renU [0] 3)) [fldS 0 s])) (And.intro (reflH (renU [0] 3) [(0, 0, rowP s)]) (And.intro hT (And.intro (Eq.refl (List.map (SV.ren (renU [0] 3)) [fldS 0 s, .pv (ratioV tn td)])) (And.intro (reflH (renU [0] 3) [(0, 0, rowP s)]) (And.intro hlh (And.intro hal True.intro)))))))) (by kernel_rfl)

set_option maxRecDepth 100000 in
theorem on_3 {s : List Pt} {tn td lo hi u1 : Int} (hG : FnL Try.prog 28 1 [fldS 0 s] [(0, 0, rowP s)] (.pv (.bool false)) 0 []) (hT : FnL Try.prog 36 1 [fldS 0 s, .pv (ratioV tn td)] [(0, 0, rowP s)] (.pv (.int .i64 (0))) 0 []) (hlh : (lo == hi) = false) (hlo : FnL Try.prog 37 1 [fldS 0 s, .pv (.int .i64 (lo))] [(0, 0, rowP s)] (.pv (.int .i64 (u1))) 0 []) (h1 : decide (u1 < 0) = true) (hal : Pure Try.prog 18 #[] (.bool true)) :
    FnL Try.prog 8 1 [fldS 0 s, .pv (ratioV tn td), .pv (.int .i64 (lo)), .pv (.int .i64 (hi))] [(0, 0, rowP s)] (.pv (.bool true)) 0 [] :=
  fnl_run 300 [] [.f [0] [fldS 0 s] [(0, 0, rowP s)] (.pv (.bool false)) 0 [], .f [0] [fldS 0 s, .pv (ratioV tn td)] [(0, 0, rowP s)] (.pv (.int .i64 (0))) 0 [], .k, .t false, .f [0] [fldS 0 s, .pv (.int .i64 (lo))] [(0, 0, rowP s)] (.pv (.int .i64 (u1))) 0 [], .t true, .r (.bool true)]
     True.intro (And.intro hG (And.intro (Eq.refl (List.map (SV.ren (renU [0] 3)) [fldS 0 s])) (And.intro (reflH (renU [0] 3) [(0, 0, rowP s)]) (And.intro hT (And.intro (Eq.refl (List.map (SV.ren (renU [0] 3)) [fldS 0 s, .pv (ratioV tn td)])) (And.intro (reflH (renU [0] 3) [(0, 0, rowP s)]) (And.intro hlh (And.intro hlo (And.intro (Eq.refl (List.map (SV.ren (renU [0] 3)) [fldS 0 s, .pv (.int .i64 (lo))])) (And.intro (reflH (renU [0] 3) [(0, 0, rowP s)]) (And.intro h1 (And.intro hal True.intro)))))))))))) (by kernel_rfl)

set_option maxRecDepth 100000 in
theorem on_4 {s : List Pt} {j : Nat} {tn td lo hi u2 : Int} (hG : FnL Try.prog 28 1 [fldS 0 s] [(0, 0, rowP s)] (.pv (.bool false)) 0 []) (hT : FnL Try.prog 36 1 [fldS 0 s, .pv (ratioV tn td)] [(0, 0, rowP s)] (.pv (.int .i64 (0))) 0 []) (hlh : (lo == hi) = false) (hlo : FnL Try.prog 37 1 [fldS 0 s, .pv (.int .i64 (lo))] [(0, 0, rowP s)] (.pv (.int .i64 ((j : Int)))) 0 []) (h1 : decide ((j : Int) < 0) = false) (hhi : FnL Try.prog 37 1 [fldS 0 s, .pv (.int .i64 (hi))] [(0, 0, rowP s)] (.pv (.int .i64 (u2))) 0 []) (h2 : decide (u2 < 0) = true) (hal : Pure Try.prog 18 #[] (.bool true)) :
    FnL Try.prog 8 1 [fldS 0 s, .pv (ratioV tn td), .pv (.int .i64 (lo)), .pv (.int .i64 (hi))] [(0, 0, rowP s)] (.pv (.bool true)) 0 [] :=
  fnl_run 300 [] [.f [0] [fldS 0 s] [(0, 0, rowP s)] (.pv (.bool false)) 0 [], .f [0] [fldS 0 s, .pv (ratioV tn td)] [(0, 0, rowP s)] (.pv (.int .i64 (0))) 0 [], .k, .t false, .f [0] [fldS 0 s, .pv (.int .i64 (lo))] [(0, 0, rowP s)] (.pv (.int .i64 ((j : Int)))) 0 [], .t false, .f [0] [fldS 0 s, .pv (.int .i64 (hi))] [(0, 0, rowP s)] (.pv (.int .i64 (u2))) 0 [], .t true, .r (.bool true)]
     True.intro (And.intro hG (And.intro (Eq.refl (List.map (SV.ren (renU [0] 3)) [fldS 0 s])) (And.intro (reflH (renU [0] 3) [(0, 0, rowP s)]) (And.intro hT (And.intro (Eq.refl (List.map (SV.ren (renU [0] 3)) [fldS 0 s, .pv (ratioV tn td)])) (And.intro (reflH (renU [0] 3) [(0, 0, rowP s)]) (And.intro hlh (And.intro hlo (And.intro (Eq.refl (List.map (SV.ren (renU [0] 3)) [fldS 0 s, .pv (.int .i64 (lo))])) (And.intro (reflH (renU [0] 3) [(0, 0, rowP s)]) (And.intro h1 (And.intro hhi (And.intro (Eq.refl (List.map (SV.ren (renU [0] 3)) [fldS 0 s, .pv (.int .i64 (hi))])) (And.intro (reflH (renU [0] 3) [(0, 0, rowP s)]) (And.intro h2 (And.intro hal True.intro)))))))))))))))) (by kernel_rfl)

set_option maxRecDepth 100000 in
theorem on_w0 {s : List Pt} {j k : Nat} {g q : Pt} {tn td lo hi : Int} (hG : FnL Try.prog 28 1 [fldS 0 s] [(0, 0, rowP s)] (.pv (.bool false)) 0 []) (hT : FnL Try.prog 36 1 [fldS 0 s, .pv (ratioV tn td)] [(0, 0, rowP s)] (.pv (.int .i64 (0))) 0 []) (hlh : (lo == hi) = false) (hlo : FnL Try.prog 37 1 [fldS 0 s, .pv (.int .i64 (lo))] [(0, 0, rowP s)] (.pv (.int .i64 ((j : Int)))) 0 []) (h1 : decide ((j : Int) < 0) = false) (hhi : FnL Try.prog 37 1 [fldS 0 s, .pv (.int .i64 (hi))] [(0, 0, rowP s)] (.pv (.int .i64 ((k : Int)))) 0 []) (h2 : decide ((k : Int) < 0) = false) (hN : FnL Try.prog 26 0 [] [] (.ag [.pv (.int .i64 0), .ls 0 0]) 1 [(0, 0, rowC [])]) (hA : FnL Try.prog 10 1 [crtS 0 0 [], .pv (certV lo hi)] [(0, 0, rowC [])] (.tu [.ag [.pv (.int .i64 1), .ls 1 1], .one (.pv (.int .i64 0)), .one (.pv (.int .i64 0))]) 1 [(1, 0, rowC [(Pt.mk 0 lo hi)])]) (hB : FnL Try.prog 10 1 [crtS 0 1 [(Pt.mk 0 lo hi)], .pv (certV hi lo)] [(0, 0, rowC [(Pt.mk 0 lo hi)])] (.tu [.ag [.pv (.int .i64 2), .ls 1 2], .one (.pv (.int .i64 1)), .one (.pv (.int .i64 0))]) 1 [(1, 0, rowC [(Pt.mk 0 lo hi), (Pt.mk 1 hi lo)])]) (hH : FnL Try.prog 14 2 [crtS 0 2 [(Pt.mk 0 lo hi), (Pt.mk 1 hi lo)], fldS 1 s, .pv (ratioV tn td)] [(0, 0, rowC [(Pt.mk 0 lo hi), (Pt.mk 1 hi lo)]), (1, 0, rowP s)] (.tu [.one (.ls 2 1), .one (.pv (.int .i64 0))]) 1 [(2, 0, rowI [0])]) (hg : s[k]? = some g) (hq : s[j]? = some q) (hik : 0 ≤ (k : Int) ∧ (k : Int) < (s.length : Int)) (hij : 0 ≤ (j : Int) ∧ (j : Int) < (s.length : Int)) (ha : Pure Try.prog 38 #[ptV g, ptV q, ratioV tn td] (.tuple #[.bool true, .int .i64 0])) (hal : Pure Try.prog 18 #[] (.bool true)) :
    FnL Try.prog 8 1 [fldS 0 s, .pv (ratioV tn td), .pv (.int .i64 (lo)), .pv (.int .i64 (hi))] [(0, 0, rowP s)] (.pv (.bool true)) 0 [] :=
  fnl_run 300 [] [.f [0] [fldS 0 s] [(0, 0, rowP s)] (.pv (.bool false)) 0 [], .f [0] [fldS 0 s, .pv (ratioV tn td)] [(0, 0, rowP s)] (.pv (.int .i64 (0))) 0 [], .k, .t false, .f [0] [fldS 0 s, .pv (.int .i64 (lo))] [(0, 0, rowP s)] (.pv (.int .i64 ((j : Int)))) 0 [], .t false, .f [0] [fldS 0 s, .pv (.int .i64 (hi))] [(0, 0, rowP s)] (.pv (.int .i64 ((k : Int)))) 0 [], .t false, .f [] [] [] (.ag [.pv (.int .i64 0), .ls 0 0]) 1 [(0, 0, rowC [])], .f [3] [crtS 0 0 [], .pv (certV lo hi)] [(0, 0, rowC [])] (.tu [.ag [.pv (.int .i64 1), .ls 1 1], .one (.pv (.int .i64 0)), .one (.pv (.int .i64 0))]) 1 [(1, 0, rowC [(Pt.mk 0 lo hi)])], .f [4] [crtS 0 1 [(Pt.mk 0 lo hi)], .pv (certV hi lo)] [(0, 0, rowC [(Pt.mk 0 lo hi)])] (.tu [.ag [.pv (.int .i64 2), .ls 1 2], .one (.pv (.int .i64 1)), .one (.pv (.int .i64 0))]) 1 [(1, 0, rowC [(Pt.mk 0 lo hi), (Pt.mk 1 hi lo)])], .f [6,0] [crtS 0 2 [(Pt.mk 0 lo hi), (Pt.mk 1 hi lo)], fldS 1 s, .pv (ratioV tn td)] [(0, 0, rowC [(Pt.mk 0 lo hi), (Pt.mk 1 hi lo)]), (1, 0, rowP s)] (.tu [.one (.ls 2 1), .one (.pv (.int .i64 0))]) 1 [(2, 0, rowI [0])], .k, .k, .k, .k, .r (Value.int .i64 0), .k, .f [0] [fldS 0 s, .pv (.int .i64 (hi))] [(0, 0, rowP s)] (.pv (.int .i64 ((k : Int)))) 0 [], .r (ptV g), .f [0] [fldS 0 s, .pv (.int .i64 (lo))] [(0, 0, rowP s)] (.pv (.int .i64 ((j : Int)))) 0 [], .r (ptV q), .r (.tuple #[.bool true, .int .i64 0]), .k, .r (Value.int .i64 0), .k, .k, .k, .r (.bool true)]
     True.intro (And.intro hG (And.intro (Eq.refl (List.map (SV.ren (renU [0] 3)) [fldS 0 s])) (And.intro (reflH (renU [0] 3) [(0, 0, rowP s)]) (And.intro hT (And.intro (Eq.refl (List.map (SV.ren (renU [0] 3)) [fldS 0 s, .pv (ratioV tn td)])) (And.intro (reflH (renU [0] 3) [(0, 0, rowP s)]) (And.intro hlh (And.intro hlo (And.intro (Eq.refl (List.map (SV.ren (renU [0] 3)) [fldS 0 s, .pv (.int .i64 (lo))])) (And.intro (reflH (renU [0] 3) [(0, 0, rowP s)]) (And.intro h1 (And.intro hhi (And.intro (Eq.refl (List.map (SV.ren (renU [0] 3)) [fldS 0 s, .pv (.int .i64 (hi))])) (And.intro (reflH (renU [0] 3) [(0, 0, rowP s)]) (And.intro h2 (And.intro hN (And.intro (Eq.refl (List.map (SV.ren (renU [] 3)) [])) (And.intro (reflH (renU [] 3) []) (And.intro hA (And.intro (Eq.refl (List.map (SV.ren (renU [3] 4)) [crtS 0 0 [], .pv (certV lo hi)])) (And.intro (reflH (renU [3] 4) [(0, 0, rowC [])]) (And.intro hB (And.intro (Eq.refl (List.map (SV.ren (renU [4] 6)) [crtS 0 1 [(Pt.mk 0 lo hi)], .pv (certV hi lo)])) (And.intro (reflH (renU [4] 6) [(0, 0, rowC [(Pt.mk 0 lo hi)])]) (And.intro hH (And.intro (Eq.refl (List.map (SV.ren (renU [6,0] 8)) [crtS 0 2 [(Pt.mk 0 lo hi), (Pt.mk 1 hi lo)], fldS 1 s, .pv (ratioV tn td)])) (And.intro (reflH (renU [6,0] 8) [(0, 0, rowC [(Pt.mk 0 lo hi), (Pt.mk 1 hi lo)]), (1, 0, rowP s)]) (And.intro one_in (And.intro (ra_int (l := [0]) (k := 0) rfl) (And.intro hhi (And.intro (Eq.refl (List.map (SV.ren (renU [0] 9)) [fldS 0 s, .pv (.int .i64 (hi))])) (And.intro (reflH (renU [0] 9) [(0, 0, rowP s)]) (And.intro hik (And.intro (ra_pt hg) (And.intro hlo (And.intro (Eq.refl (List.map (SV.ren (renU [0] 9)) [fldS 0 s, .pv (.int .i64 (lo))])) (And.intro (reflH (renU [0] 9) [(0, 0, rowP s)]) (And.intro hij (And.intro (ra_pt hq) (And.intro ha (And.intro one_in (And.intro (ra_int (l := [0]) (k := 0) rfl) (And.intro hal True.intro))))))))))))))))))))))))))))))))))))))))))) (by kernel_rfl)

set_option maxRecDepth 100000 in
theorem on_w1 {s : List Pt} {j k : Nat} {g q : Pt} {tn td lo hi : Int} (hG : FnL Try.prog 28 1 [fldS 0 s] [(0, 0, rowP s)] (.pv (.bool false)) 0 []) (hT : FnL Try.prog 36 1 [fldS 0 s, .pv (ratioV tn td)] [(0, 0, rowP s)] (.pv (.int .i64 (0))) 0 []) (hlh : (lo == hi) = false) (hlo : FnL Try.prog 37 1 [fldS 0 s, .pv (.int .i64 (lo))] [(0, 0, rowP s)] (.pv (.int .i64 ((j : Int)))) 0 []) (h1 : decide ((j : Int) < 0) = false) (hhi : FnL Try.prog 37 1 [fldS 0 s, .pv (.int .i64 (hi))] [(0, 0, rowP s)] (.pv (.int .i64 ((k : Int)))) 0 []) (h2 : decide ((k : Int) < 0) = false) (hN : FnL Try.prog 26 0 [] [] (.ag [.pv (.int .i64 0), .ls 0 0]) 1 [(0, 0, rowC [])]) (hA : FnL Try.prog 10 1 [crtS 0 0 [], .pv (certV lo hi)] [(0, 0, rowC [])] (.tu [.ag [.pv (.int .i64 1), .ls 1 1], .one (.pv (.int .i64 0)), .one (.pv (.int .i64 0))]) 1 [(1, 0, rowC [(Pt.mk 0 lo hi)])]) (hB : FnL Try.prog 10 1 [crtS 0 1 [(Pt.mk 0 lo hi)], .pv (certV hi lo)] [(0, 0, rowC [(Pt.mk 0 lo hi)])] (.tu [.ag [.pv (.int .i64 2), .ls 1 2], .one (.pv (.int .i64 1)), .one (.pv (.int .i64 0))]) 1 [(1, 0, rowC [(Pt.mk 0 lo hi), (Pt.mk 1 hi lo)])]) (hH : FnL Try.prog 14 2 [crtS 0 2 [(Pt.mk 0 lo hi), (Pt.mk 1 hi lo)], fldS 1 s, .pv (ratioV tn td)] [(0, 0, rowC [(Pt.mk 0 lo hi), (Pt.mk 1 hi lo)]), (1, 0, rowP s)] (.tu [.one (.ls 2 1), .one (.pv (.int .i64 0))]) 1 [(2, 0, rowI [1])]) (hg : s[k]? = some g) (hq : s[j]? = some q) (hik : 0 ≤ (k : Int) ∧ (k : Int) < (s.length : Int)) (hij : 0 ≤ (j : Int) ∧ (j : Int) < (s.length : Int)) (ha : Pure Try.prog 38 #[ptV g, ptV q, ratioV tn td] (.tuple #[.bool false, .int .i64 0])) (hal : Pure Try.prog 18 #[] (.bool true)) :
    FnL Try.prog 8 1 [fldS 0 s, .pv (ratioV tn td), .pv (.int .i64 (lo)), .pv (.int .i64 (hi))] [(0, 0, rowP s)] (.pv (.bool true)) 0 [] :=
  fnl_run 300 [] [.f [0] [fldS 0 s] [(0, 0, rowP s)] (.pv (.bool false)) 0 [], .f [0] [fldS 0 s, .pv (ratioV tn td)] [(0, 0, rowP s)] (.pv (.int .i64 (0))) 0 [], .k, .t false, .f [0] [fldS 0 s, .pv (.int .i64 (lo))] [(0, 0, rowP s)] (.pv (.int .i64 ((j : Int)))) 0 [], .t false, .f [0] [fldS 0 s, .pv (.int .i64 (hi))] [(0, 0, rowP s)] (.pv (.int .i64 ((k : Int)))) 0 [], .t false, .f [] [] [] (.ag [.pv (.int .i64 0), .ls 0 0]) 1 [(0, 0, rowC [])], .f [3] [crtS 0 0 [], .pv (certV lo hi)] [(0, 0, rowC [])] (.tu [.ag [.pv (.int .i64 1), .ls 1 1], .one (.pv (.int .i64 0)), .one (.pv (.int .i64 0))]) 1 [(1, 0, rowC [(Pt.mk 0 lo hi)])], .f [4] [crtS 0 1 [(Pt.mk 0 lo hi)], .pv (certV hi lo)] [(0, 0, rowC [(Pt.mk 0 lo hi)])] (.tu [.ag [.pv (.int .i64 2), .ls 1 2], .one (.pv (.int .i64 1)), .one (.pv (.int .i64 0))]) 1 [(1, 0, rowC [(Pt.mk 0 lo hi), (Pt.mk 1 hi lo)])], .f [6,0] [crtS 0 2 [(Pt.mk 0 lo hi), (Pt.mk 1 hi lo)], fldS 1 s, .pv (ratioV tn td)] [(0, 0, rowC [(Pt.mk 0 lo hi), (Pt.mk 1 hi lo)]), (1, 0, rowP s)] (.tu [.one (.ls 2 1), .one (.pv (.int .i64 0))]) 1 [(2, 0, rowI [1])], .k, .k, .k, .k, .r (Value.int .i64 1), .k, .r (Value.int .i64 1), .k, .f [0] [fldS 0 s, .pv (.int .i64 (hi))] [(0, 0, rowP s)] (.pv (.int .i64 ((k : Int)))) 0 [], .r (ptV g), .f [0] [fldS 0 s, .pv (.int .i64 (lo))] [(0, 0, rowP s)] (.pv (.int .i64 ((j : Int)))) 0 [], .r (ptV q), .r (.tuple #[.bool false, .int .i64 0]), .k, .r (Value.int .i64 1), .k, .k, .k, .r (.bool true)]
     True.intro (And.intro hG (And.intro (Eq.refl (List.map (SV.ren (renU [0] 3)) [fldS 0 s])) (And.intro (reflH (renU [0] 3) [(0, 0, rowP s)]) (And.intro hT (And.intro (Eq.refl (List.map (SV.ren (renU [0] 3)) [fldS 0 s, .pv (ratioV tn td)])) (And.intro (reflH (renU [0] 3) [(0, 0, rowP s)]) (And.intro hlh (And.intro hlo (And.intro (Eq.refl (List.map (SV.ren (renU [0] 3)) [fldS 0 s, .pv (.int .i64 (lo))])) (And.intro (reflH (renU [0] 3) [(0, 0, rowP s)]) (And.intro h1 (And.intro hhi (And.intro (Eq.refl (List.map (SV.ren (renU [0] 3)) [fldS 0 s, .pv (.int .i64 (hi))])) (And.intro (reflH (renU [0] 3) [(0, 0, rowP s)]) (And.intro h2 (And.intro hN (And.intro (Eq.refl (List.map (SV.ren (renU [] 3)) [])) (And.intro (reflH (renU [] 3) []) (And.intro hA (And.intro (Eq.refl (List.map (SV.ren (renU [3] 4)) [crtS 0 0 [], .pv (certV lo hi)])) (And.intro (reflH (renU [3] 4) [(0, 0, rowC [])]) (And.intro hB (And.intro (Eq.refl (List.map (SV.ren (renU [4] 6)) [crtS 0 1 [(Pt.mk 0 lo hi)], .pv (certV hi lo)])) (And.intro (reflH (renU [4] 6) [(0, 0, rowC [(Pt.mk 0 lo hi)])]) (And.intro hH (And.intro (Eq.refl (List.map (SV.ren (renU [6,0] 8)) [crtS 0 2 [(Pt.mk 0 lo hi), (Pt.mk 1 hi lo)], fldS 1 s, .pv (ratioV tn td)])) (And.intro (reflH (renU [6,0] 8) [(0, 0, rowC [(Pt.mk 0 lo hi), (Pt.mk 1 hi lo)]), (1, 0, rowP s)]) (And.intro one_in (And.intro (ra_int (l := [1]) (k := 0) rfl) (And.intro one_in (And.intro (ra_int (l := [1]) (k := 0) rfl) (And.intro hhi (And.intro (Eq.refl (List.map (SV.ren (renU [0] 9)) [fldS 0 s, .pv (.int .i64 (hi))])) (And.intro (reflH (renU [0] 9) [(0, 0, rowP s)]) (And.intro hik (And.intro (ra_pt hg) (And.intro hlo (And.intro (Eq.refl (List.map (SV.ren (renU [0] 9)) [fldS 0 s, .pv (.int .i64 (lo))])) (And.intro (reflH (renU [0] 9) [(0, 0, rowP s)]) (And.intro hij (And.intro (ra_pt hq) (And.intro ha (And.intro one_in (And.intro (ra_int (l := [1]) (k := 0) rfl) (And.intro hal True.intro))))))))))))))))))))))))))))))))))))))))))))) (by kernel_rfl)

end Go.Proofs.Ytjjmnoiffpnphaa

namespace Go.Proofs.Ytjjmnoiffpnphaa
open Go.RowKit
set_option maxRecDepth 100000 in
theorem kn8_next {l s : List Pt} {k : Nat} {p : Pt} {x u1 u2 : Int} (hk : l[k]? = some p) (hin : 0 ≤ (k : Int) ∧ (k : Int) < (l.length : Int)) (hlt : decide ((k : Int) < (l.length : Int)) = true) (ha : FnL Try.prog 37 1 [fldS 0 s, .pv (.int .i64 (p.a))] [(0, 0, rowP s)] (.pv (.int .i64 (u1))) 0 []) (h1 : decide (u1 < 0) = false) (hb : FnL Try.prog 37 1 [fldS 0 s, .pv (.int .i64 (p.b))] [(0, 0, rowP s)] (.pv (.int .i64 (u2))) 0 []) (h2 : decide (u2 < 0) = false) (hs : Value.int .i64 (IntKind.i64.wrap ((k : Int) + 1)) = .int .i64 (((k + 1 : Nat) : Int))) {e : Exit} {tm2 : List (Nat × SV)} {hp2 : List (Nat × Nat × SV)}
    (r : RunsL Try.prog 2 2 (loopOf Try.prog 55 0) 35 4 ([(2, .pp 2 0), (3, .pp 3 0), (5, .pv (.int .i64 ((k + 1 : Nat) : Int)))]) ([(2, 0, .pv (.int .i64 x)), (2, 1, .ls 0 l.length), (3, 0, .ls 1 s.length), (0, 0, rowC l), (1, 0, rowP s)]) e tm2 hp2) : RunsL Try.prog 2 2 (loopOf Try.prog 55 0) 35 4 ([(2, .pp 2 0), (3, .pp 3 0), (5, .pv (.int .i64 (k : Int)))]) ([(2, 0, .pv (.int .i64 x)), (2, 1, .ls 0 l.length), (3, 0, .ls 1 s.length), (0, 0, rowC l), (1, 0, rowP s)]) e tm2 hp2 :=
  RunsL.next [] 300 [.t true, .r (Value.int .i64 p.a), .f [1] [fldS 0 s, .pv (.int .i64 (p.a))] [(0, 0, rowP s)] (.pv (.int .i64 (u1))) 0 [], .t false, .r (Value.int .i64 p.b), .f [1] [fldS 0 s, .pv (.int .i64 (p.b))] [(0, 0, rowP s)] (.pv (.int .i64 (u2))) 0 [], .t false, .r (.int .i64 (((k + 1 : Nat) : Int)))]
    (round_of (And.intro hlt (And.intro hin (And.intro (ra_lo hk) (And.intro ha (And.intro (Eq.refl (List.map (SV.ren (renU [1] 4)) [fldS 0 s, .pv (.int .i64 (p.a))])) (And.intro (reflH (renU [1] 4) [(0, 0, rowP s)]) (And.intro h1 (And.intro hin (And.intro (ra_hi hk) (And.intro hb (And.intro (Eq.refl (List.map (SV.ren (renU [1] 4)) [fldS 0 s, .pv (.int .i64 (p.b))])) (And.intro (reflH (renU [1] 4) [(0, 0, rowP s)]) (And.intro h2 (And.intro hs True.intro)))))))))))))) (by kernel_rfl)) r

set_option maxRecDepth 100000 in
theorem kn8_lo {l s : List Pt} {k : Nat} {p : Pt} {x u1 : Int} (hk : l[k]? = some p) (hin : 0 ≤ (k : Int) ∧ (k : Int) < (l.length : Int)) (hlt : decide ((k : Int) < (l.length : Int)) = true) (ha : FnL Try.prog 37 1 [fldS 0 s, .pv (.int .i64 (p.a))] [(0, 0, rowP s)] (.pv (.int .i64 (u1))) 0 []) (h1 : decide (u1 < 0) = true) : RunsL Try.prog 2 2 (loopOf Try.prog 55 0) 35 4 ([(2, .pp 2 0), (3, .pp 3 0), (5, .pv (.int .i64 (k : Int)))]) ([(2, 0, .pv (.int .i64 x)), (2, 1, .ls 0 l.length), (3, 0, .ls 1 s.length), (0, 0, rowC l), (1, 0, rowP s)]) (.ret) ([(4, .pv (.bool false))]) ([]) :=
  RunsL.stop [] 300 [.t true, .r (Value.int .i64 p.a), .f [1] [fldS 0 s, .pv (.int .i64 (p.a))] [(0, 0, rowP s)] (.pv (.int .i64 (u1))) 0 [], .t true] (fun h => by cases h)
    (round_of (And.intro hlt (And.intro hin (And.intro (ra_lo hk) (And.intro ha (And.intro (Eq.refl (List.map (SV.ren (renU [1] 4)) [fldS 0 s, .pv (.int .i64 (p.a))])) (And.intro (reflH (renU [1] 4) [(0, 0, rowP s)]) (And.intro h1 True.intro))))))) (by kernel_rfl))

set_option maxRecDepth 100000 in
theorem kn8_hi {l s : List Pt} {k : Nat} {p : Pt} {x u1 u2 : Int} (hk : l[k]? = some p) (hin : 0 ≤ (k : Int) ∧ (k : Int) < (l.length : Int)) (hlt : decide ((k : Int) < (l.length : Int)) = true) (ha : FnL Try.prog 37 1 [fldS 0 s, .pv (.int .i64 (p.a))] [(0, 0, rowP s)] (.pv (.int .i64 (u1))) 0 []) (h1 : decide (u1 < 0) = false) (hb : FnL Try.prog 37 1 [fldS 0 s, .pv (.int .i64 (p.b))] [(0, 0, rowP s)] (.pv (.int .i64 (u2))) 0 []) (h2 : decide (u2 < 0) = true) : RunsL Try.prog 2 2 (loopOf Try.prog 55 0) 35 4 ([(2, .pp 2 0), (3, .pp 3 0), (5, .pv (.int .i64 (k : Int)))]) ([(2, 0, .pv (.int .i64 x)), (2, 1, .ls 0 l.length), (3, 0, .ls 1 s.length), (0, 0, rowC l), (1, 0, rowP s)]) (.ret) ([(4, .pv (.bool false))]) ([]) :=
  RunsL.stop [] 300 [.t true, .r (Value.int .i64 p.a), .f [1] [fldS 0 s, .pv (.int .i64 (p.a))] [(0, 0, rowP s)] (.pv (.int .i64 (u1))) 0 [], .t false, .r (Value.int .i64 p.b), .f [1] [fldS 0 s, .pv (.int .i64 (p.b))] [(0, 0, rowP s)] (.pv (.int .i64 (u2))) 0 [], .t true] (fun h => by cases h)
    (round_of (And.intro hlt (And.intro hin (And.intro (ra_lo hk) (And.intro ha (And.intro (Eq.refl (List.map (SV.ren (renU [1] 4)) [fldS 0 s, .pv (.int .i64 (p.a))])) (And.intro (reflH (renU [1] 4) [(0, 0, rowP s)]) (And.intro h1 (And.intro hin (And.intro (ra_hi hk) (And.intro hb (And.intro (Eq.refl (List.map (SV.ren (renU [1] 4)) [fldS 0 s, .pv (.int .i64 (p.b))])) (And.intro (reflH (renU [1] 4) [(0, 0, rowP s)]) (And.intro h2 True.intro))))))))))))) (by kernel_rfl))

set_option maxRecDepth 100000 in
theorem kn8_end {l s : List Pt} {k : Nat} {x : Int} (hge : decide ((k : Int) < (l.length : Int)) = false) : RunsL Try.prog 2 2 (loopOf Try.prog 55 0) 35 4 ([(2, .pp 2 0), (3, .pp 3 0), (5, .pv (.int .i64 (k : Int)))]) ([(2, 0, .pv (.int .i64 x)), (2, 1, .ls 0 l.length), (3, 0, .ls 1 s.length), (0, 0, rowC l), (1, 0, rowP s)]) (.exit 0) ([]) ([]) :=
  RunsL.stop [] 300 [.t false] (fun h => by cases h)
    (round_of (And.intro hge True.intro) (by kernel_rfl))

set_option maxRecDepth 100000 in
theorem kn8_no {l s : List Pt} {x : Int} (r0 : RunsL Try.prog 2 2 (loopOf Try.prog 55 0) 35 4 ([(2, .pp 2 0), (3, .pp 3 0), (5, .pv (.int .i64 ((0 : Nat) : Int)))]) ([(2, 0, .pv (.int .i64 x)), (2, 1, .ls 0 l.length), (3, 0, .ls 1 s.length), (0, 0, rowC l), (1, 0, rowP s)]) (.ret) ([(4, .pv (.bool false))]) ([])) :
    FnL Try.prog 55 2 [crtS 0 x l, fldS 1 s] [(0, 0, rowC l), (1, 0, rowP s)] (.pv (.bool false)) 0 [] :=
  fnl_run 300 [] [.l (.ret) ([(2, .pp 2 0), (3, .pp 3 0), (5, .pv (.int .i64 ((0 : Nat) : Int)))]) ([(2, 0, .pv (.int .i64 x)), (2, 1, .ls 0 l.length), (3, 0, .ls 1 s.length), (0, 0, rowC l), (1, 0, rowP s)]) ([(4, .pv (.bool false))]) ([])]
     True.intro (And.intro (reflT (renN []) ([(2, .pp 2 0), (3, .pp 3 0), (5, .pv (.int .i64 ((0 : Nat) : Int)))])) (And.intro (reflH (renN []) ([(2, 0, .pv (.int .i64 x)), (2, 1, .ls 0 l.length), (3, 0, .ls 1 s.length), (0, 0, rowC l), (1, 0, rowP s)])) (And.intro r0 True.intro))) (by kernel_rfl)

set_option maxRecDepth 100000 in
theorem kn8_yes {l s : List Pt} {x : Int} (r0 : RunsL Try.prog 2 2 (loopOf Try.prog 55 0) 35 4 ([(2, .pp 2 0), (3, .pp 3 0), (5, .pv (.int .i64 ((0 : Nat) : Int)))]) ([(2, 0, .pv (.int .i64 x)), (2, 1, .ls 0 l.length), (3, 0, .ls 1 s.length), (0, 0, rowC l), (1, 0, rowP s)]) (.exit 0) ([]) ([])) :
    FnL Try.prog 55 2 [crtS 0 x l, fldS 1 s] [(0, 0, rowC l), (1, 0, rowP s)] (.pv (.bool true)) 0 [] :=
  fnl_run 300 [] [.l (.exit 0) ([(2, .pp 2 0), (3, .pp 3 0), (5, .pv (.int .i64 ((0 : Nat) : Int)))]) ([(2, 0, .pv (.int .i64 x)), (2, 1, .ls 0 l.length), (3, 0, .ls 1 s.length), (0, 0, rowC l), (1, 0, rowP s)]) ([]) ([])]
     True.intro (And.intro (reflT (renN []) ([(2, .pp 2 0), (3, .pp 3 0), (5, .pv (.int .i64 ((0 : Nat) : Int)))])) (And.intro (reflH (renN []) ([(2, 0, .pv (.int .i64 x)), (2, 1, .ls 0 l.length), (3, 0, .ls 1 s.length), (0, 0, rowC l), (1, 0, rowP s)])) (And.intro r0 True.intro))) (by kernel_rfl)

set_option maxRecDepth 100000 in
theorem tr8_path {s : List Pt} {i j : Nat} {q g : Pt} {a b tn td : Int} {w : Bool} (hr : s[i]? = some g) (hq : s[j]? = some q) (hi : 0 ≤ (i : Int) ∧ (i : Int) < (s.length : Int)) (hj : 0 ≤ (j : Int) ∧ (j : Int) < (s.length : Int)) (ha : FnL Try.prog 37 1 [fldS 0 s, .pv (.int .i64 (b))] [(0, 0, rowP s)] (.pv (.int .i64 ((i : Int)))) 0 []) (hb : FnL Try.prog 37 1 [fldS 0 s, .pv (.int .i64 (a))] [(0, 0, rowP s)] (.pv (.int .i64 ((j : Int)))) 0 []) (hl : Pure Try.prog 73 #[ptV g, ptV q, ratioV tn td] (.bool w)) :
    FnL Try.prog 56 1 [.pv (certV a b), fldS 0 s, .pv (ratioV tn td)] [(0, 0, rowP s)] (.pv (.bool w)) 0 [] :=
  fnl_run 300 [] [.f [0] [fldS 0 s, .pv (.int .i64 (b))] [(0, 0, rowP s)] (.pv (.int .i64 ((i : Int)))) 0 [], .r (ptV g), .f [0] [fldS 0 s, .pv (.int .i64 (a))] [(0, 0, rowP s)] (.pv (.int .i64 ((j : Int)))) 0 [], .r (ptV q), .r (.bool w)]
     True.intro (And.intro ha (And.intro (Eq.refl (List.map (SV.ren (renU [0] 4)) [fldS 0 s, .pv (.int .i64 (b))])) (And.intro (reflH (renU [0] 4) [(0, 0, rowP s)]) (And.intro hi (And.intro (ra_pt hr) (And.intro hb (And.intro (Eq.refl (List.map (SV.ren (renU [0] 4)) [fldS 0 s, .pv (.int .i64 (a))])) (And.intro (reflH (renU [0] 4) [(0, 0, rowP s)]) (And.intro hj (And.intro (ra_pt hq) (And.intro hl True.intro))))))))))) (by kernel_rfl)

set_option maxRecDepth 100000 in
theorem rh8_skip {l s : List Pt} {vs : List Value} {k m : Nat} {p : Pt} {x tn td : Int} (hk : l[k]? = some p) (hin : 0 ≤ (k : Int) ∧ (k : Int) < (l.length : Int)) (hlt : decide ((k : Int) < (l.length : Int)) = true) (ht : FnL Try.prog 56 1 [.pv (certV p.a p.b), fldS 0 s, .pv (ratioV tn td)] [(0, 0, rowP s)] (.pv (.bool false)) 0 []) (hs : Value.int .i64 (IntKind.i64.wrap ((k : Int) + 1)) = .int .i64 (((k + 1 : Nat) : Int))) {e : Exit} {tm2 : List (Nat × SV)} {hp2 : List (Nat × Nat × SV)}
    (r : RunsL Try.prog 2 2 (loopOf Try.prog 30 0) 50 6 ([(3, .pp 2 0), (4, .pp 3 0), (5, .pp 4 0), (9, .ls 5 (m)), (10, .pv (.int .i64 ((k + 1 : Nat) : Int)))]) ([(2, 0, .pv (.int .i64 x)), (2, 1, .ls 0 l.length), (3, 0, .ls 1 s.length), (4, 0, .pv (.int .i64 tn)), (4, 1, .pv (.int .i64 td)), (0, 0, rowC l), (1, 0, rowP s), (5, 0, .row 3 1 (m) (vs))]) e tm2 hp2) : RunsL Try.prog 2 2 (loopOf Try.prog 30 0) 50 6 ([(3, .pp 2 0), (4, .pp 3 0), (5, .pp 4 0), (9, .ls 5 (m)), (10, .pv (.int .i64 (k : Int)))]) ([(2, 0, .pv (.int .i64 x)), (2, 1, .ls 0 l.length), (3, 0, .ls 1 s.length), (4, 0, .pv (.int .i64 tn)), (4, 1, .pv (.int .i64 td)), (0, 0, rowC l), (1, 0, rowP s), (5, 0, .row 3 1 (m) (vs))]) e tm2 hp2 :=
  RunsL.next [] 300 [.t true, .r (certV p.a p.b), .f [1] [.pv (certV p.a p.b), fldS 0 s, .pv (ratioV tn td)] [(0, 0, rowP s)] (.pv (.bool false)) 0 [], .r (.int .i64 (((k + 1 : Nat) : Int)))]
    (round_of (And.intro hlt (And.intro hin (And.intro (ra_ce hk) (And.intro ht (And.intro (Eq.refl (List.map (SV.ren (renU [1] 6)) [.pv (certV p.a p.b), fldS 0 s, .pv (ratioV tn td)])) (And.intro (reflH (renU [1] 6) [(0, 0, rowP s)]) (And.intro hs True.intro))))))) (by kernel_rfl)) r

set_option maxRecDepth 100000 in
theorem rh8_keep {l s : List Pt} {vs : List Value} {k m : Nat} {p : Pt} {x tn td : Int} (hk : l[k]? = some p) (hin : 0 ≤ (k : Int) ∧ (k : Int) < (l.length : Int)) (hlt : decide ((k : Int) < (l.length : Int)) = true) (ht : FnL Try.prog 56 1 [.pv (certV p.a p.b), fldS 0 s, .pv (ratioV tn td)] [(0, 0, rowP s)] (.pv (.bool true)) 0 []) (hm : m + 1 ≤ 1000000) (hs : Value.int .i64 (IntKind.i64.wrap ((k : Int) + 1)) = .int .i64 (((k + 1 : Nat) : Int))) {e : Exit} {tm2 : List (Nat × SV)} {hp2 : List (Nat × Nat × SV)}
    (r : RunsL Try.prog 2 2 (loopOf Try.prog 30 0) 50 6 ([(3, .pp 2 0), (4, .pp 3 0), (5, .pp 4 0), (9, .ls 5 (m + 1)), (10, .pv (.int .i64 ((k + 1 : Nat) : Int)))]) ([(2, 0, .pv (.int .i64 x)), (2, 1, .ls 0 l.length), (3, 0, .ls 1 s.length), (4, 0, .pv (.int .i64 tn)), (4, 1, .pv (.int .i64 td)), (0, 0, rowC l), (1, 0, rowP s), (5, 0, .row 3 1 (m + 1) (vs ++ [.int .i64 p.id]))]) e tm2 hp2) : RunsL Try.prog 2 2 (loopOf Try.prog 30 0) 50 6 ([(3, .pp 2 0), (4, .pp 3 0), (5, .pp 4 0), (9, .ls 5 (m)), (10, .pv (.int .i64 (k : Int)))]) ([(2, 0, .pv (.int .i64 x)), (2, 1, .ls 0 l.length), (3, 0, .ls 1 s.length), (4, 0, .pv (.int .i64 tn)), (4, 1, .pv (.int .i64 td)), (0, 0, rowC l), (1, 0, rowP s), (5, 0, .row 3 1 (m) (vs))]) e tm2 hp2 :=
  RunsL.next [(5, 7)] 300 [.t true, .r (certV p.a p.b), .f [1] [.pv (certV p.a p.b), fldS 0 s, .pv (ratioV tn td)] [(0, 0, rowP s)] (.pv (.bool true)) 0 [], .r (Value.int .i64 p.id), .r (.int .i64 (((k + 1 : Nat) : Int)))]
    (round_of (And.intro hlt (And.intro hin (And.intro (ra_ce hk) (And.intro ht (And.intro (Eq.refl (List.map (SV.ren (renU [1] 6)) [.pv (certV p.a p.b), fldS 0 s, .pv (ratioV tn td)])) (And.intro (reflH (renU [1] 6) [(0, 0, rowP s)]) (And.intro hin (And.intro (ra_nu hk) (And.intro hm (And.intro hs True.intro)))))))))) (by kernel_rfl)) r

set_option maxRecDepth 100000 in
theorem rh8_end {l s : List Pt} {vs : List Value} {k m : Nat} {x tn td : Int} (hge : decide ((k : Int) < (l.length : Int)) = false) : RunsL Try.prog 2 2 (loopOf Try.prog 30 0) 50 6 ([(3, .pp 2 0), (4, .pp 3 0), (5, .pp 4 0), (9, .ls 5 (m)), (10, .pv (.int .i64 (k : Int)))]) ([(2, 0, .pv (.int .i64 x)), (2, 1, .ls 0 l.length), (3, 0, .ls 1 s.length), (4, 0, .pv (.int .i64 tn)), (4, 1, .pv (.int .i64 td)), (0, 0, rowC l), (1, 0, rowP s), (5, 0, .row 3 1 (m) (vs))]) (.exit 0) ([(9, .ls 5 m)]) ([(2, 0, .pv (.int .i64 x)), (2, 1, .ls 0 l.length), (3, 0, .ls 1 s.length), (4, 0, .pv (.int .i64 tn)), (4, 1, .pv (.int .i64 td)), (0, 0, rowC l), (1, 0, rowP s), (5, 0, .row 3 1 (m) (vs))]) :=
  RunsL.stop [] 300 [.t false] (fun h => by cases h)
    (round_of (And.intro hge True.intro) (by kernel_rfl))

set_option maxRecDepth 100000 in
theorem rh8_bad {l s : List Pt} {x tn td : Int} (hc : FnL Try.prog 24 1 [crtS 0 x l] [(0, 0, rowC l)] (.pv (.int .i64 (8))) 0 []) :
    FnL Try.prog 30 2 [crtS 0 x l, fldS 1 s, .pv (ratioV tn td)] [(0, 0, rowC l), (1, 0, rowP s)] (.pv (.tuple #[.slice none 0 0, .int .i64 8])) 0 [] :=
  fnl_run 300 [] [.f [0] [crtS 0 x l] [(0, 0, rowC l)] (.pv (.int .i64 (8))) 0 [], .k]
     True.intro (And.intro hc (And.intro (Eq.refl (List.map (SV.ren (renU [0] 5)) [crtS 0 x l])) (And.intro (reflH (renU [0] 5) [(0, 0, rowC l)]) True.intro))) (by kernel_rfl)

set_option maxRecDepth 100000 in
theorem rh8_time {l s : List Pt} {x tn td er : Int} (hc : FnL Try.prog 24 1 [crtS 0 x l] [(0, 0, rowC l)] (.pv (.int .i64 (0))) 0 []) (ht : FnL Try.prog 36 1 [fldS 0 s, .pv (ratioV tn td)] [(0, 0, rowP s)] (.pv (.int .i64 (er))) 0 []) (he : (er != 0) = true) :
    FnL Try.prog 30 2 [crtS 0 x l, fldS 1 s, .pv (ratioV tn td)] [(0, 0, rowC l), (1, 0, rowP s)] (.pv (.tuple #[.slice none 0 0, .int .i64 er])) 0 [] :=
  fnl_run 300 [] [.f [0] [crtS 0 x l] [(0, 0, rowC l)] (.pv (.int .i64 (0))) 0 [], .k, .f [1] [fldS 0 s, .pv (ratioV tn td)] [(0, 0, rowP s)] (.pv (.int .i64 (er))) 0 [], .t true]
     True.intro (And.intro hc (And.intro (Eq.refl (List.map (SV.ren (renU [0] 5)) [crtS 0 x l])) (And.intro (reflH (renU [0] 5) [(0, 0, rowC l)]) (And.intro ht (And.intro (Eq.refl (List.map (SV.ren (renU [1] 5)) [fldS 0 s, .pv (ratioV tn td)])) (And.intro (reflH (renU [1] 5) [(0, 0, rowP s)]) (And.intro he True.intro))))))) (by kernel_rfl)

set_option maxRecDepth 100000 in
theorem rh8_no {l s : List Pt} {x tn td : Int} (hc : FnL Try.prog 24 1 [crtS 0 x l] [(0, 0, rowC l)] (.pv (.int .i64 (0))) 0 []) (ht : FnL Try.prog 36 1 [fldS 0 s, .pv (ratioV tn td)] [(0, 0, rowP s)] (.pv (.int .i64 (0))) 0 []) (hk8 : FnL Try.prog 55 2 [crtS 0 x l, fldS 1 s] [(0, 0, rowC l), (1, 0, rowP s)] (.pv (.bool false)) 0 []) :
    FnL Try.prog 30 2 [crtS 0 x l, fldS 1 s, .pv (ratioV tn td)] [(0, 0, rowC l), (1, 0, rowP s)] (.pv (.tuple #[.slice none 0 0, .int .i64 6])) 0 [] :=
  fnl_run 300 [] [.f [0] [crtS 0 x l] [(0, 0, rowC l)] (.pv (.int .i64 (0))) 0 [], .k, .f [1] [fldS 0 s, .pv (ratioV tn td)] [(0, 0, rowP s)] (.pv (.int .i64 (0))) 0 [], .k, .f [0,1] [crtS 0 x l, fldS 1 s] [(0, 0, rowC l), (1, 0, rowP s)] (.pv (.bool false)) 0 [], .k]
     True.intro (And.intro hc (And.intro (Eq.refl (List.map (SV.ren (renU [0] 5)) [crtS 0 x l])) (And.intro (reflH (renU [0] 5) [(0, 0, rowC l)]) (And.intro ht (And.intro (Eq.refl (List.map (SV.ren (renU [1] 5)) [fldS 0 s, .pv (ratioV tn td)])) (And.intro (reflH (renU [1] 5) [(0, 0, rowP s)]) (And.intro hk8 (And.intro (Eq.refl (List.map (SV.ren (renU [0,1] 5)) [crtS 0 x l, fldS 1 s])) (And.intro (reflH (renU [0,1] 5) [(0, 0, rowC l), (1, 0, rowP s)]) True.intro))))))))) (by kernel_rfl)

set_option maxRecDepth 100000 in
theorem rh8_ok {l s : List Pt} {vs : List Value} {m : Nat} {x tn td : Int} (hc : FnL Try.prog 24 1 [crtS 0 x l] [(0, 0, rowC l)] (.pv (.int .i64 (0))) 0 []) (ht : FnL Try.prog 36 1 [fldS 0 s, .pv (ratioV tn td)] [(0, 0, rowP s)] (.pv (.int .i64 (0))) 0 []) (hk8 : FnL Try.prog 55 2 [crtS 0 x l, fldS 1 s] [(0, 0, rowC l), (1, 0, rowP s)] (.pv (.bool true)) 0 []) (r0 : RunsL Try.prog 2 2 (loopOf Try.prog 30 0) 50 6 ([(3, .pp 2 0), (4, .pp 3 0), (5, .pp 4 0), (9, .ls 5 (0)), (10, .pv (.int .i64 ((0 : Nat) : Int)))]) ([(2, 0, .pv (.int .i64 x)), (2, 1, .ls 0 l.length), (3, 0, .ls 1 s.length), (4, 0, .pv (.int .i64 tn)), (4, 1, .pv (.int .i64 td)), (0, 0, rowC l), (1, 0, rowP s), (5, 0, .row 3 1 (0) ([]))]) (.exit 0) ([(9, .ls 5 m)]) ([(2, 0, .pv (.int .i64 x)), (2, 1, .ls 0 l.length), (3, 0, .ls 1 s.length), (4, 0, .pv (.int .i64 tn)), (4, 1, .pv (.int .i64 td)), (0, 0, rowC l), (1, 0, rowP s), (5, 0, .row 3 1 (m) (vs))])) :
    FnL Try.prog 30 2 [crtS 0 x l, fldS 1 s, .pv (ratioV tn td)] [(0, 0, rowC l), (1, 0, rowP s)] (.tu [.one (.ls 2 m), .one (.pv (.int .i64 0))]) 1 [(2, 0, .row 3 1 m vs)] :=
  fnl_run 300 [(2, 5)] [.f [0] [crtS 0 x l] [(0, 0, rowC l)] (.pv (.int .i64 (0))) 0 [], .k, .f [1] [fldS 0 s, .pv (ratioV tn td)] [(0, 0, rowP s)] (.pv (.int .i64 (0))) 0 [], .k, .f [0,1] [crtS 0 x l, fldS 1 s] [(0, 0, rowC l), (1, 0, rowP s)] (.pv (.bool true)) 0 [], .k, .ln true 9 0 3 1, .l (.exit 0) ([(3, .pp 2 0), (4, .pp 3 0), (5, .pp 4 0), (9, .ls 5 (0)), (10, .pv (.int .i64 ((0 : Nat) : Int)))]) ([(2, 0, .pv (.int .i64 x)), (2, 1, .ls 0 l.length), (3, 0, .ls 1 s.length), (4, 0, .pv (.int .i64 tn)), (4, 1, .pv (.int .i64 td)), (0, 0, rowC l), (1, 0, rowP s), (5, 0, .row 3 1 (0) ([]))]) ([(9, .ls 5 m)]) ([(2, 0, .pv (.int .i64 x)), (2, 1, .ls 0 l.length), (3, 0, .ls 1 s.length), (4, 0, .pv (.int .i64 tn)), (4, 1, .pv (.int .i64 td)), (0, 0, rowC l), (1, 0, rowP s), (5, 0, .row 3 1 (m) (vs))])]
     (reflH (renN [(2, 5)]) [(2, 0, .row 3 1 m vs)]) (And.intro hc (And.intro (Eq.refl (List.map (SV.ren (renU [0] 5)) [crtS 0 x l])) (And.intro (reflH (renU [0] 5) [(0, 0, rowC l)]) (And.intro ht (And.intro (Eq.refl (List.map (SV.ren (renU [1] 5)) [fldS 0 s, .pv (ratioV tn td)])) (And.intro (reflH (renU [1] 5) [(0, 0, rowP s)]) (And.intro hk8 (And.intro (Eq.refl (List.map (SV.ren (renU [0,1] 5)) [crtS 0 x l, fldS 1 s])) (And.intro (reflH (renU [0,1] 5) [(0, 0, rowC l), (1, 0, rowP s)]) (And.intro (reflT (renN []) ([(3, .pp 2 0), (4, .pp 3 0), (5, .pp 4 0), (9, .ls 5 (0)), (10, .pv (.int .i64 ((0 : Nat) : Int)))])) (And.intro (reflH (renN []) ([(2, 0, .pv (.int .i64 x)), (2, 1, .ls 0 l.length), (3, 0, .ls 1 s.length), (4, 0, .pv (.int .i64 tn)), (4, 1, .pv (.int .i64 td)), (0, 0, rowC l), (1, 0, rowP s), (5, 0, .row 3 1 (0) ([]))])) (And.intro r0 True.intro)))))))))))) (by kernel_rfl)

end Go.Proofs.Ytjjmnoiffpnphaa
