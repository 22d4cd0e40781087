/-
  Joined: Fn, Mf, Mi, Mj, Mn, Mq, Mx, Fr, Fs. Conditions: none.
-/
import Derived.Test.YtoheadpehomdjaaFm
import Derived.Test.YtoheadpehomdjaaW25
import Derived.Test.YtoheadpehomdjaaMa
import Derived.Test.YtoheadpehomdjaaFq
import Derived.Test.YtoheadpehomdjaaMc
import Derived.Test.YtoheadpehomdjaaSxU
import Derived.Test.YtoheadpehomdjaaW24
import Derived.Test.YtoheadpehomdjaaW26
namespace Go.Proofs.Ytoheadpehomdjaa
open Go.RowKit
abbrev FindIs (f : FuncId) (l : List Pt) (id : Int) (p : Pt) (e : Int) : Prop := FnL Try.prog f 1 [fldS 0 l, .pv (.int .i64 id)] [(0, 0, rowP l)] (.pv (.tuple #[ptV p, .int .i64 e])) 0 []
end Go.Proofs.Ytoheadpehomdjaa

namespace Go.Proofs.Ytoheadpehomdjaa
open Go.RowKit
/-- A meeting at a valid time. -/
structure MtOk (m : Mt) : Prop where
  n : I64 m.n
  d : I64 m.d
  ok : okB m.n m.d = true
end Go.Proofs.Ytoheadpehomdjaa

namespace Go.Proofs.Ytoheadpehomdjaa
open Go.RowKit
def z0 : Mt := ⟨0, 0, 0, 0⟩
section
variable (av : Value) (go : FuncId) (m b : Mt)
end
end Go.Proofs.Ytoheadpehomdjaa

namespace Go.Proofs.Ytoheadpehomdjaa
open Go.RowKit
structure MCel (w : World) (r : Nat) (m : Mt) : Prop where
  c0 : Cel w r 0 (.int .i64 m.n)
  c1 : Cel w r 1 (.int .i64 m.d)
  c2 : Cel w r 2 (.int .i64 m.i)
  c3 : Cel w r 3 (.int .i64 m.j)
theorem MCel.keep {S : Nat → Prop} {w w' : World} {r : Nat} {m : Mt} (h : MCel w r m) (k : Keep S w w') (hs : S r) : MCel w' r m := ⟨h.c0.keep k hs, h.c1.keep k hs, h.c2.keep k hs, h.c3.keep k hs⟩
theorem MCel.gr {w w' : World} {r : Nat} {m : Mt} (h : MCel w r m) (k : Gr w w') : MCel w' r m := h.keep (Keep.of_gr k (fun _ => True)) trivial
theorem MCel.lt {w : World} {r : Nat} {m : Mt} (h : MCel w r m) : r < w.heap.size := h.c0.lt
theorem MCel.us {w : World} {r : Nat} {m : Mt} (h : MCel w r m) : ∀ j u, [Value.int .i64 m.n, .int .i64 m.d, .int .i64 m.i, .int .i64 m.j][j]? = some u → Cel w r (0 + j) u := fun j u hj => by
  match j, hj with
  | 0, hj => cases hj; exact h.c0
  | 1, hj => cases hj; exact h.c1
  | 2, hj => cases hj; exact h.c2
  | 3, hj => cases hj; exact h.c3
  | j + 4, hj => simp at hj
theorem MCel.set {w : World} {r : Nat} {b : Mt} (h : MCel w r b) (m : Mt) : MCel (w.setCells r 0 [.int .i64 m.n, .int .i64 m.d, .int .i64 m.i, .int .i64 m.j]) r m := by
  have key : ∀ j v, [Value.int .i64 m.n, .int .i64 m.d, .int .i64 m.i, .int .i64 m.j][j]? = some v → Cel (w.setCells r 0 [.int .i64 m.n, .int .i64 m.d, .int .i64 m.i, .int .i64 m.j]) r (0 + j) v :=
    fun j v hj => cel_set (us := [.int .i64 b.n, .int .i64 b.d, .int .i64 b.i, .int .i64 b.j]) h.us (by simp) hj
  exact ⟨key 0 _ rfl, key 1 _ rfl, key 2 _ rfl, key 3 _ rfl⟩
section
variable {w6 : World} {df : List Deferred} {rb rf r1 : Nat} {b : Mt} {fd s0 s1 s2 : Bool} {a : Act} {w : World} {Q : Exit → Act → World → Prop} {K : Act → World → Prop}
end
end Go.Proofs.Ytoheadpehomdjaa

namespace Go.Proofs.Ytoheadpehomdjaa
open Go.RowKit
/-- The meeting of two points that meet. -/
structure MSpec (p q : Pt) (m : Mt) : Prop where
  n : I64 m.n
  d : I64 m.d
  ok : okB m.n m.d = true
  eq : m.n * (p.b - q.b) = (q.a - p.a) * m.d
  i : m.i = p.id
  j : m.j = q.id
  run : Pure Try.prog 61 #[ptV p, ptV q] (ratioV m.n m.d)
noncomputable def fM (x : Pt × Pt) : Option Mt := open Classical in if x.1.b = x.2.b then none else if h : ∃ m, MSpec x.1 x.2 m then some h.choose else none
theorem fM_same {x : Pt × Pt} (h : x.1.b = x.2.b) : fM x = none := by unfold fM; rw [if_pos h]
theorem fM_diff {x : Pt × Pt} (h1 : okPt x.1 = true) (h2 : okPt x.2 = true) (h : x.1.b ≠ x.2.b) : ∃ m, fM x = some m ∧ MSpec x.1 x.2 m := by
  have hex : ∃ m, MSpec x.1 x.2 m := by
    obtain ⟨n, d, k1, k2, k3, k4, k5, _⟩ := meeting_both h1 h2 h
    exact ⟨⟨n, d, x.1.id, x.2.id⟩, k2, k3, k1, k4, rfl, rfl, k5⟩
  unfold fM
  rw [if_neg h, dif_pos hex]
  exact ⟨_, rfl, hex.choose_spec⟩
theorem pairs_mem {l : List Pt} {x : Pt × Pt} (h : x ∈ pairsOf l) : x.1 ∈ l ∧ x.2 ∈ l := by
  induction l with
  | nil => cases h
  | cons p r ih =>
    rw [pairsOf] at h
    rcases List.mem_append.1 h with h | h
    · obtain ⟨q, hq, rfl⟩ := List.mem_map.1 h
      exact ⟨List.mem_cons_self, List.mem_cons_of_mem _ hq⟩
    · exact ⟨List.mem_cons_of_mem _ (ih h).1, List.mem_cons_of_mem _ (ih h).2⟩
theorem fM_any {l : List Pt} (hv : Val l) {x : Pt × Pt} (h : x ∈ pairsOf l) : (x.1.b = x.2.b ∧ fM x = none) ∨ (x.1.b ≠ x.2.b ∧ ∃ m, fM x = some m ∧ MSpec x.1 x.2 m) := by
  by_cases hb : x.1.b = x.2.b
  · exact Or.inl ⟨hb, fM_same hb⟩
  · exact Or.inr ⟨hb, fM_diff (hv.ok _ (pairs_mem h).1) (hv.ok _ (pairs_mem h).2) hb⟩
/-- All meetings, pair by pair. -/
noncomputable abbrev msOf (l : List Pt) : List Mt := (pairsOf l).filterMap fM
theorem ms_mem {l : List Pt} (hv : Val l) {m : Mt} (h : m ∈ msOf l) : ∃ x ∈ pairsOf l, MSpec x.1 x.2 m ∧ x.1.b ≠ x.2.b := by
  obtain ⟨x, hx, e⟩ := List.mem_filterMap.1 h
  rcases fM_any hv hx with ⟨_, h1⟩ | ⟨hb, m', h1, h2⟩
  · rw [h1] at e; cases e
  · rw [h1] at e; cases e; exact ⟨x, hx, h2, hb⟩
theorem ms_ok {l : List Pt} (hv : Val l) : ∀ m ∈ msOf l, MtOk m := fun m h => by
  obtain ⟨x, _, h2, _⟩ := ms_mem hv h
  exact ⟨h2.n, h2.d, h2.ok⟩
end Go.Proofs.Ytoheadpehomdjaa

namespace Go.Proofs.Ytoheadpehomdjaa
open Go.RowKit
theorem sg_cases (x : Int) : (x < 0 ∧ x.sign = -1) ∨ (x = 0 ∧ x.sign = 0) ∨ (0 < x ∧ x.sign = 1) := by
  rcases Int.lt_trichotomy x 0 with h | h | h
  · exact Or.inl ⟨h, Int.sign_eq_neg_one_of_neg h⟩
  · exact Or.inr (Or.inl ⟨h, by rw [h]; rfl⟩)
  · exact Or.inr (Or.inr ⟨h, Int.sign_eq_one_of_pos h⟩)
theorem frac_tr {an ad bn bd cn cd : Int} (h1 : 0 < ad) (h2 : 0 < bd) (h3 : 0 < cd) :
    (an * bd - bn * ad > 0 → bn * cd - cn * bd ≥ 0 → an * cd - cn * ad > 0) ∧ (an * bd - bn * ad ≥ 0 → bn * cd - cn * bd > 0 → an * cd - cn * ad > 0) ∧ (an * bd - bn * ad = 0 → bn * cd - cn * bd = 0 → an * cd - cn * ad = 0) := by
  have key : (an * cd - cn * ad) * bd = (an * bd - bn * ad) * cd + (bn * cd - cn * bd) * ad := by
    rw [Int.sub_mul, Int.sub_mul, Int.sub_mul, Int.mul_right_comm an cd bd, Int.mul_right_comm bn ad cd, Int.mul_right_comm cn ad bd]
    omega
  generalize an * bd - bn * ad = A at *
  generalize bn * cd - cn * bd = B at *
  generalize an * cd - cn * ad = C at *
  have pos : ∀ {x : Int}, 0 < x * bd → 0 < x := fun {x} h => by
    rcases Int.lt_trichotomy x 0 with g | g | g
    · have := Int.mul_neg_of_neg_of_pos g h2; omega
    · rw [g, Int.zero_mul] at h; omega
    · exact g
  refine ⟨fun a b => pos ?_, fun a b => pos ?_, fun a b => ?_⟩
  · have := Int.mul_pos a h3; have := Int.mul_nonneg b (Int.le_of_lt h1); omega
  · have := Int.mul_nonneg a (Int.le_of_lt h3); have := Int.mul_pos b h1; omega
  · rw [a, b, Int.zero_mul, Int.zero_mul, Int.add_zero] at key
    rcases Int.mul_eq_zero.1 key with h | h
    · exact h
    · omega
end Go.Proofs.Ytoheadpehomdjaa

namespace Go.Proofs.Ytoheadpehomdjaa
open Go.RowKit
theorem frac_ge {an ad bn bd cn cd : Int} (h1 : 0 < ad) (h2 : 0 < bd) (h3 : 0 < cd) (a : an * bd - bn * ad ≥ 0) (b : bn * cd - cn * bd ≥ 0) : an * cd - cn * ad ≥ 0 := by
  obtain ⟨t1, t2, t3⟩ := frac_tr (an := an) (bn := bn) (cn := cn) h1 h2 h3
  by_cases a0 : an * bd - bn * ad = 0
  · by_cases b0 : bn * cd - cn * bd = 0
    · have := t3 a0 b0; omega
    · have := t2 a (by omega); omega
  · have := t1 (by omega) b; omega
end Go.Proofs.Ytoheadpehomdjaa

namespace Go.Proofs.Ytoheadpehomdjaa
open Go.RowKit
def ld (tn td : Int) (p q : Pt) : Bool := leadsB (p.a * td + p.b * tn) (q.a * td + q.b * tn) p.b q.b p.id q.id
theorem leadsB_iff {P Q pb qb pi qi : Int} : leadsB P Q pb qb pi qi = true ↔ (P > Q ∨ P = Q ∧ (pb > qb ∨ pb = qb ∧ pi < qi)) := by unfold leadsB; exact decide_eq_true_iff
theorem leadsB_niff {P Q pb qb pi qi : Int} : leadsB P Q pb qb pi qi = false ↔ ¬ (P > Q ∨ P = Q ∧ (pb > qb ∨ pb = qb ∧ pi < qi)) := by unfold leadsB; exact decide_eq_false_iff_not
section
variable {tn td : Int} {p q r : Pt}
theorem ld_irr (p : Pt) : ld tn td p p = false := leadsB_niff.2 (by omega)
theorem ld_trans (h : ld tn td p q = true) (k : ld tn td q r = true) : ld tn td p r = true := by
  unfold ld at *
  generalize p.a * td + p.b * tn = P at *
  generalize q.a * td + q.b * tn = Q at *
  generalize r.a * td + r.b * tn = R at *
  rw [leadsB_iff] at *
  omega
theorem ld_ntrans (h : ld tn td p q = false) (k : ld tn td q r = false) : ld tn td p r = false := by
  unfold ld at *
  generalize p.a * td + p.b * tn = P at *
  generalize q.a * td + q.b * tn = Q at *
  generalize r.a * td + r.b * tn = R at *
  rw [leadsB_niff] at *
  omega
theorem ld_asym (h : ld tn td p q = true) : ld tn td q p = false := by
  cases hh : ld tn td q p
  · rfl
  · have := ld_trans h hh; rw [ld_irr] at this; cases this
theorem ld_tot (hi : p.id ≠ q.id) (h : ld tn td p q = false) : ld tn td q p = true := by
  unfold ld at *
  generalize p.a * td + p.b * tn = P at *
  generalize q.a * td + q.b * tn = Q at *
  rw [leadsB_niff] at h
  rw [leadsB_iff]
  omega
end
/-- How many lead. -/
def rk (tn td : Int) (l : List Pt) (p : Pt) : Nat := l.countP fun q => ld tn td q p
theorem rk_aux {tn td : Int} : ∀ (s : List Pt) (k : Nat) (p : Pt), s.Pairwise (fun p q => ld tn td p q = true) → s[k]? = some p → rk tn td s p = k
  | [], _, _, _, h => by simp at h
  | a :: r, 0, p, hp, h => by
    simp only [List.getElem?_cons_zero, Option.some.injEq] at h
    subst h
    rw [List.pairwise_cons] at hp
    unfold rk
    rw [List.countP_eq_zero]
    intro q hq
    rcases List.mem_cons.1 hq with rfl | hq
    · rw [ld_irr]; decide
    · rw [ld_asym (hp.1 q hq)]; decide
  | a :: r, k + 1, p, hp, h => by
    rw [List.getElem?_cons_succ] at h
    rw [List.pairwise_cons] at hp
    have := rk_aux r k p hp.2 h
    unfold rk at this ⊢
    rw [List.countP_cons, this, if_pos (hp.1 p (List.mem_of_getElem? h))]
structure Srt (l : List Pt) (tn td : Int) (s : List Pt) : Prop where
  perm : s.Perm l
  pw : s.Pairwise (fun p q => ld tn td p q = true)
theorem Srt.len {l s : List Pt} {tn td : Int} (h : Srt l tn td s) : s.length = l.length := h.perm.length_eq
theorem Srt.rank {l s : List Pt} {tn td : Int} (h : Srt l tn td s) {k : Nat} {p : Pt} (hk : s[k]? = some p) : rk tn td l p = k := by
  have := rk_aux s k p h.pw hk
  unfold rk at this ⊢
  rw [← h.perm.countP_eq]; exact this
theorem Srt.at {l s : List Pt} {tn td : Int} (h : Srt l tn td s) {p : Pt} (hp : p ∈ l) : s[rk tn td l p]? = some p := by
  obtain ⟨k, hk, e⟩ := List.getElem_of_mem (h.perm.mem_iff.2 hp)
  have hk' : s[k]? = some p := by rw [List.getElem?_eq_getElem hk, e]
  rw [h.rank hk']; exact hk'
theorem Srt.lt {l s : List Pt} {tn td : Int} (h : Srt l tn td s) {p : Pt} (hp : p ∈ l) : rk tn td l p < l.length := by rw [← h.len]; exact get_lt (h.at hp)
theorem Srt.uniq {l s t : List Pt} {tn td : Int} (h : Srt l tn td s) (k : Srt l tn td t) : s = t := by
  apply List.ext_getElem?
  intro i
  by_cases hi : i < t.length
  · obtain ⟨p, hp⟩ := get_some hi
    rw [hp]
    have := h.at (k.perm.mem_iff.1 (List.mem_of_getElem? hp))
    rw [k.rank hp] at this
    exact this
  · have e1 : t[i]? = none := List.getElem?_eq_none (by omega)
    have e2 : s[i]? = none := List.getElem?_eq_none (by have := h.len; have := k.len; omega)
    rw [e1, e2]
/-- A list in order from one that is in no wrong order. -/
theorem Srt.mk_of {l s : List Pt} {tn td : Int} (hv : Val l) (hp : s.Perm l) (h : s.Pairwise (fun p q => ld tn td q p = false)) : Srt l tn td s := by
  have hne : l.Pairwise (fun p q => p.id ≠ q.id) := by
    rw [List.pairwise_iff_getElem]
    intro i j hi hj hij
    have := hv.up.mono hij (List.getElem?_eq_getElem hi) (List.getElem?_eq_getElem hj)
    omega
  have hns : s.Pairwise (fun p q => p.id ≠ q.id) := (hp.pairwise_iff (fun h e => h e.symm)).2 hne
  exact ⟨hp, (h.and hns).imp fun ⟨a, b⟩ => ld_tot (fun e => b e.symm) a⟩
theorem Srt_pure {l : List Pt} {tn td : Int} (hv : Val l) : ∃ s, Srt l tn td s := by
  refine ⟨l.mergeSort (fun p q => !ld tn td q p), Srt.mk_of hv (List.mergeSort_perm _ _) ?_⟩
  have h := List.pairwise_mergeSort (le := fun p q : Pt => !ld tn td q p) (fun a b c h1 h2 => ?_) (fun a b => ?_) l
  · exact h.imp fun {a b} h => by simpa using h
  · have h1' : ld tn td b a = false := by simpa using h1
    have h2' : ld tn td c b = false := by simpa using h2
    simp [ld_ntrans h2' h1']
  · cases h : ld tn td b a
    · simp
    · simp [ld_asym h]
theorem val_id {l : List Pt} (hv : Val l) {p q : Pt} (hp : p ∈ l) (hq : q ∈ l) (e : p.id = q.id) : p = q := by
  obtain ⟨i, hi, rfl⟩ := List.getElem_of_mem hp
  obtain ⟨j, hj, rfl⟩ := List.getElem_of_mem hq
  rcases Nat.lt_trichotomy i j with h | h | h
  · have := hv.up.mono h (List.getElem?_eq_getElem hi) (List.getElem?_eq_getElem hj); omega
  · subst h; rfl
  · have := hv.up.mono h (List.getElem?_eq_getElem hj) (List.getElem?_eq_getElem hi); omega
/-- What the program's comparison returns. -/
def cfL (tn td : Int) (p q : Pt) : Int := if p.id = q.id then 0 else if ld tn td p q = true then -1 else 1
theorem cfL_neg {tn td : Int} {p q : Pt} (h : p.id = q.id → p = q) : decide (cfL tn td p q < 0) = ld tn td p q := by
  unfold cfL
  by_cases e : p.id = q.id
  · rw [if_pos e, h e, ld_irr]; rfl
  · rw [if_neg e]
    cases ld tn td p q <;> rfl
end Go.Proofs.Ytoheadpehomdjaa

namespace Go.Proofs.Ytoheadpehomdjaa
open Go.RowKit
/-- A valid time. -/
structure Tm (tn td : Int) : Prop where
  hn : I64 tn
  hd : I64 td
  ok : okB tn td = true
noncomputable def tE (l : List Pt) (tn td : Int) : Int := if errL l = 0 then (if okB tn td = true then 0 else 8) else errL l
theorem CWT_any {tn td : Int} (hn : I64 tn) (hd : I64 td) (l : List Pt) : FnL Try.prog 29 1 [fldS 0 l, .pv (ratioV tn td)] [(0, 0, rowP l)] (.pv (.int .i64 (tE l tn td))) 0 [] := by
  unfold tE
  by_cases h0 : errL l = 0
  · have c1 := PCheck_any l
    rw [h0] at c1
    rw [if_pos h0]
    by_cases hp : okB tn td = true
    · rw [if_pos hp]; exact cwt_ok c1 (Check_ok hn hd hp)
    · rw [if_neg hp]; exact cwt_ok c1 (Check_bad hn hd hp)
  · rw [if_neg h0]
    exact cwt_err (PCheck_any l) (by simp [h0])
theorem tE_ok {l : List Pt} {tn td : Int} (hv : Val l) (ht : okB tn td = true) : tE l tn td = 0 := by unfold tE; rw [if_pos (err_val.2 hv), if_pos ht]
section
variable {l : List Pt} {tn td : Int}
theorem lf_any (ht : Tm tn td) {p q : Pt} (hp : okPt p = true) (hq : okPt q = true) :
    FnL Try.prog 46 1 [.pv (ptV p), .pv (ptV q), .pp 0 0] [(0, 0, .pv (.int .i64 tn)), (0, 1, .pv (.int .i64 td))] (.pv (.int .i64 (cfL tn td p q))) 0 [] := by
  unfold cfL
  by_cases e : p.id = q.id
  · rw [if_pos e]; exact lf_eq (by simp [e])
  · rw [if_neg e]
    have a := Ahead_ok ht.hn ht.hd hp hq ht.ok e
    have hl : leadsB (p.a * td + p.b * tn) (q.a * td + q.b * tn) p.b q.b p.id q.id = ld tn td p q := rfl
    rw [hl] at a
    cases hc : ld tn td p q <;> rw [hc] at a
    · rw [if_neg (by decide)]; exact lf_gt (by simp [e]) a
    · rw [if_pos rfl]; exact lf_lt (by simp [e]) a

theorem Min_loop (hv : Val l) (ht : Tm tn td) {s : List Pt} (hs : Srt l tn td s) {m : Pt} (hm : s[0]? = some m) : ∀ (d k : Nat) (c : Pt), k + d = l.length → c ∈ l → (∀ (j : Nat) (q : Pt), j < k → l[j]? = some q → ld tn td q c = false) →
    RunsL Try.prog 2 2 (loopOf Try.prog 30 0) 33 4 ([(0, .ls 0 l.length), (1, .pc 46 [.pp 1 0]), (4, .pp 2 0), (5, .pp 3 0), (6, .pv (.int .i64 (k : Int)))]) ([(0, 0, rowP l), (1, 0, .pv (.int .i64 tn)), (1, 1, .pv (.int .i64 td)), (3, 0, .pv (.int .i64 (c).id)), (3, 1, .pv (.int .i64 (c).a)), (3, 2, .pv (.int .i64 (c).b)), (2, 0, .pv (.int .i64 0)), (2, 1, .pv (.int .i64 0)), (2, 2, .pv (.int .i64 0))]) (.exit 0) ([(4, .pp 2 0), (5, .pp 3 0)]) ([(0, 0, rowP l), (1, 0, .pv (.int .i64 tn)), (1, 1, .pv (.int .i64 td)), (3, 0, .pv (.int .i64 (m).id)), (3, 1, .pv (.int .i64 (m).a)), (3, 2, .pv (.int .i64 (m).b)), (2, 0, .pv (.int .i64 0)), (2, 1, .pv (.int .i64 0)), (2, 2, .pv (.int .i64 0))])
  | 0, k, c, hd, hc, hf => by
    have h0 : rk tn td l c = 0 := by
      unfold rk
      rw [List.countP_eq_zero]
      intro q hq
      obtain ⟨j, hj, rfl⟩ := List.getElem_of_mem hq
      rw [hf j _ (by omega) (List.getElem?_eq_getElem hj)]; decide
    have := hs.at hc
    rw [h0, hm] at this
    cases this
    exact mf_end (df (by omega))
  | d + 1, k, c, hd, hc, hf => by
    obtain ⟨p, hp⟩ := get_some (l := l) (k := k) (by omega)
    have hpm := List.mem_of_getElem? hp
    have hcf := cfL_neg (tn := tn) (td := td) (p := p) (q := c) (fun e => val_id hv hpm hc e)
    have hl := lf_any ht (hv.ok p hpm) (hv.ok c hc)
    cases hx : ld tn td p c <;> rw [hx] at hcf
    · exact mf_no hp (in_of (get_lt hp)) (dt (by omega)) hl hcf (i64s (get_lt hp) hv.len) (Min_loop hv ht hs hm d (k + 1) c (by omega) hc fun j q hj hq => by
        by_cases e : j = k
        · subst e; rw [hp] at hq; cases hq; exact hx
        · exact hf j q (by omega) hq)
    · exact mf_up hp (in_of (get_lt hp)) (dt (by omega)) hl hcf (i64s (get_lt hp) hv.len) (Min_loop hv ht hs hm d (k + 1) p (by omega) hpm fun j q hj hq => by
        by_cases e : j = k
        · subst e; rw [hp] at hq; cases hq; exact ld_irr _
        · cases hh : ld tn td q p
          · rfl
          · have h1 := ld_trans hh hx
            have h2 := hf j q (by omega) hq
            rw [h1] at h2; cases h2)
theorem Min_any (hv : Val l) (ht : Tm tn td) {s : List Pt} (hs : Srt l tn td s) {m : Pt} (hm : s[0]? = some m) :
    FnL Try.prog 30 2 [.ls 0 l.length, .pc 46 [.pp 1 0]] [(0, 0, rowP l), (1, 0, .pv (.int .i64 tn)), (1, 1, .pv (.int .i64 td))] (.pv (ptV m)) 0 [] := by
  have hl : 0 < l.length := by have := get_lt hm; rw [hs.len] at this; exact this
  obtain ⟨p, hp⟩ := get_some hl
  exact mf_path hp (in_of (k := 0) hl) (df (by omega)) (Min_loop hv ht hs hm (l.length - 1) (0 + 1) p (by omega) (List.mem_of_getElem? hp) fun j q hj hq => by
    have : j = 0 := by omega
    subst this
    rw [hp] at hq; cases hq; exact ld_irr _)

end
end Go.Proofs.Ytoheadpehomdjaa
