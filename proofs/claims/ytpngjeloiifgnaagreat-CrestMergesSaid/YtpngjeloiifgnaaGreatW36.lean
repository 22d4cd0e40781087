/-
  Joined: Fn, Mi, Mj, Mn, Mq, Mx, Fr, Fs, Ft, Fx, Gb0, Gf. Conditions: none.
-/
import Derived.Test.YtpngjeloiifgnaaGreatFm
import Derived.Test.YtpngjeloiifgnaaGreatW31
import Derived.Test.YtpngjeloiifgnaaGreatMa
import Derived.Test.YtpngjeloiifgnaaGreatFq
import Derived.Test.YtpngjeloiifgnaaGreatMc
import Derived.Test.YtpngjeloiifgnaaGreatSxU
import Derived.Test.YtpngjeloiifgnaaGreatW25
import Derived.Shelf.SlSortCmp.WholeK
import Derived.Test.YtpngjeloiifgnaaGreatProg
import Derived.Shelf.SlLaysF0
import Derived.Shelf.SlSortCmp.NoneTotal
import Derived.Test.YtpngjeloiifgnaaGreatSm4
namespace Go.Proofs.YtpngjeloiifgnaaGreat
open Go.RowKit
theorem Great_any (l : List Pt) : (¬ (l.length ≤ 16 ∨ 64 ≤ l.length ∧ l.length ≤ 70) ∧ FnL Tryz.prog 5 1 [fldS 0 l] [(0, 0, rowP l)] (.pv (.bool true)) 0 []) ∨
    ((l.length ≤ 16 ∨ 64 ≤ l.length ∧ l.length ≤ 70) ∧ FnL Tryz.prog 5 1 [fldS 0 l] [(0, 0, rowP l)] (.pv (.bool false)) 0 []) := by
  by_cases h1 : l.length > 16
  · by_cases h2 : l.length < 64
    · exact Or.inl ⟨by omega, great_t (dt (by omega)) (dt (by omega))⟩
    · by_cases h3 : l.length > 70
      · exact Or.inl ⟨by omega, great_t2 (dt (by omega)) (df (by omega)) (dt (by omega))⟩
      · exact Or.inr ⟨by omega, great_f2 (dt (by omega)) (df (by omega)) (df (by omega))⟩
  · exact Or.inr ⟨by omega, great_f (df (by omega)) (df (by omega))⟩
abbrev FindIs (f : FuncId) (l : List Pt) (id : Int) (p : Pt) (e : Int) : Prop := FnL Tryz.prog f 1 [fldS 0 l, .pv (.int .i64 id)] [(0, 0, rowP l)] (.pv (.tuple #[ptV p, .int .i64 e])) 0 []
end Go.Proofs.YtpngjeloiifgnaaGreat

namespace Go.Proofs.YtpngjeloiifgnaaGreat
open Go.RowKit
def z0 : Mt := ⟨0, 0, 0, 0⟩
section
variable (av : Value) (go : FuncId) (m b : Mt)
end
end Go.Proofs.YtpngjeloiifgnaaGreat

namespace Go.Proofs.YtpngjeloiifgnaaGreat
open Go.RowKit
structure MCel (w : World) (r : Nat) (m : Mt) : Prop where
  c0 : Cel w r 0 (.int .i64 m.n)
  c1 : Cel w r 1 (.int .i64 m.d)
  c2 : Cel w r 2 (.int .i64 m.i)
  c3 : Cel w r 3 (.int .i64 m.j)
theorem MCel.keep {S : Nat → Prop} {w w' : World} {r : Nat} {m : Mt} (h : MCel w r m) (k : Keep S w w') (hs : S r) : MCel w' r m := ⟨h.c0.keep k hs, h.c1.keep k hs, h.c2.keep k hs, h.c3.keep k hs⟩
theorem MCel.gr {w w' : World} {r : Nat} {m : Mt} (h : MCel w r m) (k : Gr w w') : MCel w' r m := h.keep (Keep.of_gr k (fun _ => True)) trivial
theorem MCel.lt {w : World} {r : Nat} {m : Mt} (h : MCel w r m) : r < w.heap.size := h.c0.lt
theorem MCel.us {w : World} {r : Nat} {m : Mt} (h : MCel w r m) : ∀ j u, [Value.int .i64 m.n, .int .i64 m.d, .int .i64 m.i, .int .i64 m.j][j]? = some u → Cel w r (0 + j) u := fun j u hj => by
  match j, hj with
  | 0, hj => cases hj; exact h.c0
  | 1, hj => cases hj; exact h.c1
  | 2, hj => cases hj; exact h.c2
  | 3, hj => cases hj; exact h.c3
  | j + 4, hj => simp at hj
theorem MCel.set {w : World} {r : Nat} {b : Mt} (h : MCel w r b) (m : Mt) : MCel (w.setCells r 0 [.int .i64 m.n, .int .i64 m.d, .int .i64 m.i, .int .i64 m.j]) r m := by
  have key : ∀ j v, [Value.int .i64 m.n, .int .i64 m.d, .int .i64 m.i, .int .i64 m.j][j]? = some v → Cel (w.setCells r 0 [.int .i64 m.n, .int .i64 m.d, .int .i64 m.i, .int .i64 m.j]) r (0 + j) v :=
    fun j v hj => cel_set (us := [.int .i64 b.n, .int .i64 b.d, .int .i64 b.i, .int .i64 b.j]) h.us (by simp) hj
  exact ⟨key 0 _ rfl, key 1 _ rfl, key 2 _ rfl, key 3 _ rfl⟩
section
variable {w6 : World} {df : List Deferred} {rb rf r1 : Nat} {b : Mt} {fd s0 s1 s2 : Bool} {a : Act} {w : World} {Q : Exit → Act → World → Prop} {K : Act → World → Prop}
end
end Go.Proofs.YtpngjeloiifgnaaGreat

namespace Go.Proofs.YtpngjeloiifgnaaGreat
open Go.RowKit
/-- The meeting of two points that meet. -/
structure MSpec (p q : Pt) (m : Mt) : Prop where
  n : I64 m.n
  d : I64 m.d
  ok : okB m.n m.d = true
  eq : m.n * (p.b - q.b) = (q.a - p.a) * m.d
  i : m.i = p.id
  j : m.j = q.id
  run : Pure Tryz.prog 147 #[ptV p, ptV q] (ratioV m.n m.d)
noncomputable def fM (x : Pt × Pt) : Option Mt := open Classical in if x.1.b = x.2.b then none else if h : ∃ m, MSpec x.1 x.2 m then some h.choose else none
theorem fM_diff {x : Pt × Pt} (h1 : okPt x.1 = true) (h2 : okPt x.2 = true) (h : x.1.b ≠ x.2.b) : ∃ m, fM x = some m ∧ MSpec x.1 x.2 m := by
  have hex : ∃ m, MSpec x.1 x.2 m := by
    obtain ⟨n, d, k1, k2, k3, k4, k5, _⟩ := meeting_both h1 h2 h
    exact ⟨⟨n, d, x.1.id, x.2.id⟩, k2, k3, k1, k4, rfl, rfl, k5⟩
  unfold fM
  rw [if_neg h, dif_pos hex]
  exact ⟨_, rfl, hex.choose_spec⟩
end Go.Proofs.YtpngjeloiifgnaaGreat

namespace Go.Proofs.YtpngjeloiifgnaaGreat
open Go.RowKit
theorem sg_cases (x : Int) : (x < 0 ∧ x.sign = -1) ∨ (x = 0 ∧ x.sign = 0) ∨ (0 < x ∧ x.sign = 1) := by
  rcases Int.lt_trichotomy x 0 with h | h | h
  · exact Or.inl ⟨h, Int.sign_eq_neg_one_of_neg h⟩
  · exact Or.inr (Or.inl ⟨h, by rw [h]; rfl⟩)
  · exact Or.inr (Or.inr ⟨h, Int.sign_eq_one_of_pos h⟩)
theorem frac_tr {an ad bn bd cn cd : Int} (h1 : 0 < ad) (h2 : 0 < bd) (h3 : 0 < cd) :
    (an * bd - bn * ad > 0 → bn * cd - cn * bd ≥ 0 → an * cd - cn * ad > 0) ∧ (an * bd - bn * ad ≥ 0 → bn * cd - cn * bd > 0 → an * cd - cn * ad > 0) ∧ (an * bd - bn * ad = 0 → bn * cd - cn * bd = 0 → an * cd - cn * ad = 0) := by
  have key : (an * cd - cn * ad) * bd = (an * bd - bn * ad) * cd + (bn * cd - cn * bd) * ad := by
    rw [Int.sub_mul, Int.sub_mul, Int.sub_mul, Int.mul_right_comm an cd bd, Int.mul_right_comm bn ad cd, Int.mul_right_comm cn ad bd]
    omega
  generalize an * bd - bn * ad = A at *
  generalize bn * cd - cn * bd = B at *
  generalize an * cd - cn * ad = C at *
  have pos : ∀ {x : Int}, 0 < x * bd → 0 < x := fun {x} h => by
    rcases Int.lt_trichotomy x 0 with g | g | g
    · have := Int.mul_neg_of_neg_of_pos g h2; omega
    · rw [g, Int.zero_mul] at h; omega
    · exact g
  refine ⟨fun a b => pos ?_, fun a b => pos ?_, fun a b => ?_⟩
  · have := Int.mul_pos a h3; have := Int.mul_nonneg b (Int.le_of_lt h1); omega
  · have := Int.mul_nonneg a (Int.le_of_lt h3); have := Int.mul_pos b h1; omega
  · rw [a, b, Int.zero_mul, Int.zero_mul, Int.add_zero] at key
    rcases Int.mul_eq_zero.1 key with h | h
    · exact h
    · omega
end Go.Proofs.YtpngjeloiifgnaaGreat

namespace Go.Proofs.YtpngjeloiifgnaaGreat
open Go.RowKit
theorem frac_ge {an ad bn bd cn cd : Int} (h1 : 0 < ad) (h2 : 0 < bd) (h3 : 0 < cd) (a : an * bd - bn * ad ≥ 0) (b : bn * cd - cn * bd ≥ 0) : an * cd - cn * ad ≥ 0 := by
  obtain ⟨t1, t2, t3⟩ := frac_tr (an := an) (bn := bn) (cn := cn) h1 h2 h3
  by_cases a0 : an * bd - bn * ad = 0
  · by_cases b0 : bn * cd - cn * bd = 0
    · have := t3 a0 b0; omega
    · have := t2 a (by omega); omega
  · have := t1 (by omega) b; omega
end Go.Proofs.YtpngjeloiifgnaaGreat

namespace Go.Proofs.YtpngjeloiifgnaaGreat
open Go.RowKit
def ld (tn td : Int) (p q : Pt) : Bool := leadsB (p.a * td + p.b * tn) (q.a * td + q.b * tn) p.b q.b p.id q.id
theorem leadsB_iff {P Q pb qb pi qi : Int} : leadsB P Q pb qb pi qi = true ↔ (P > Q ∨ P = Q ∧ (pb > qb ∨ pb = qb ∧ pi < qi)) := by unfold leadsB; exact decide_eq_true_iff
theorem leadsB_niff {P Q pb qb pi qi : Int} : leadsB P Q pb qb pi qi = false ↔ ¬ (P > Q ∨ P = Q ∧ (pb > qb ∨ pb = qb ∧ pi < qi)) := by unfold leadsB; exact decide_eq_false_iff_not
section
variable {tn td : Int} {p q r : Pt}
theorem ld_irr (p : Pt) : ld tn td p p = false := leadsB_niff.2 (by omega)
theorem ld_trans (h : ld tn td p q = true) (k : ld tn td q r = true) : ld tn td p r = true := by
  unfold ld at *
  generalize p.a * td + p.b * tn = P at *
  generalize q.a * td + q.b * tn = Q at *
  generalize r.a * td + r.b * tn = R at *
  rw [leadsB_iff] at *
  omega
theorem ld_asym (h : ld tn td p q = true) : ld tn td q p = false := by
  cases hh : ld tn td q p
  · rfl
  · have := ld_trans h hh; rw [ld_irr] at this; cases this
end
/-- How many lead. -/
def rk (tn td : Int) (l : List Pt) (p : Pt) : Nat := l.countP fun q => ld tn td q p
theorem rk_aux {tn td : Int} : ∀ (s : List Pt) (k : Nat) (p : Pt), s.Pairwise (fun p q => ld tn td p q = true) → s[k]? = some p → rk tn td s p = k
  | [], _, _, _, h => by simp at h
  | a :: r, 0, p, hp, h => by
    simp only [List.getElem?_cons_zero, Option.some.injEq] at h
    subst h
    rw [List.pairwise_cons] at hp
    unfold rk
    rw [List.countP_eq_zero]
    intro q hq
    rcases List.mem_cons.1 hq with rfl | hq
    · rw [ld_irr]; decide
    · rw [ld_asym (hp.1 q hq)]; decide
  | a :: r, k + 1, p, hp, h => by
    rw [List.getElem?_cons_succ] at h
    rw [List.pairwise_cons] at hp
    have := rk_aux r k p hp.2 h
    unfold rk at this ⊢
    rw [List.countP_cons, this, if_pos (hp.1 p (List.mem_of_getElem? h))]
structure Srt (l : List Pt) (tn td : Int) (s : List Pt) : Prop where
  perm : s.Perm l
  pw : s.Pairwise (fun p q => ld tn td p q = true)
theorem Srt.len {l s : List Pt} {tn td : Int} (h : Srt l tn td s) : s.length = l.length := h.perm.length_eq
theorem Srt.rank {l s : List Pt} {tn td : Int} (h : Srt l tn td s) {k : Nat} {p : Pt} (hk : s[k]? = some p) : rk tn td l p = k := by
  have := rk_aux s k p h.pw hk
  unfold rk at this ⊢
  rw [← h.perm.countP_eq]; exact this
theorem Srt.at {l s : List Pt} {tn td : Int} (h : Srt l tn td s) {p : Pt} (hp : p ∈ l) : s[rk tn td l p]? = some p := by
  obtain ⟨k, hk, e⟩ := List.getElem_of_mem (h.perm.mem_iff.2 hp)
  have hk' : s[k]? = some p := by rw [List.getElem?_eq_getElem hk, e]
  rw [h.rank hk']; exact hk'
theorem Srt.lt {l s : List Pt} {tn td : Int} (h : Srt l tn td s) {p : Pt} (hp : p ∈ l) : rk tn td l p < l.length := by rw [← h.len]; exact get_lt (h.at hp)
theorem val_id {l : List Pt} (hv : Val l) {p q : Pt} (hp : p ∈ l) (hq : q ∈ l) (e : p.id = q.id) : p = q := by
  obtain ⟨i, hi, rfl⟩ := List.getElem_of_mem hp
  obtain ⟨j, hj, rfl⟩ := List.getElem_of_mem hq
  rcases Nat.lt_trichotomy i j with h | h | h
  · have := hv.up.mono h (List.getElem?_eq_getElem hi) (List.getElem?_eq_getElem hj); omega
  · subst h; rfl
  · have := hv.up.mono h (List.getElem?_eq_getElem hj) (List.getElem?_eq_getElem hi); omega
end Go.Proofs.YtpngjeloiifgnaaGreat

namespace Go.Proofs.YtpngjeloiifgnaaGreat
open Go.RowKit
/-- A valid time. -/
structure Tm (tn td : Int) : Prop where
  hn : I64 tn
  hd : I64 td
  ok : okB tn td = true
section
variable {l : List Pt} {tn td : Int}
end
end Go.Proofs.YtpngjeloiifgnaaGreat

namespace Go.Proofs.YtpngjeloiifgnaaGreat
open Go.RowKit Go.Sort
/-- A world that has only grown is the old one with draws and blocks behind it. -/
theorem gr_grow {w w' : World} (h : Gr w w') : ∃ (q : Nat) (os : Array Obj), w' = Sort.grow (w.drewN q) os := by
  obtain ⟨⟨h1, h2, h3, h4, h5⟩, _, h7⟩ := h
  refine ⟨w'.drawn - w.drawn, w'.heap.extract w.heap.size w'.heap.size, ?_⟩
  obtain ⟨heap, tape, drawn, os, output⟩ := w
  obtain ⟨heap', tape', drawn', os', output'⟩ := w'
  simp only at h1 h2 h3 h4 h5 h7
  subst h1 h2 h3
  unfold Sort.grow World.drewN
  simp only [World.mk.injEq, and_true, true_and]
  refine ⟨?_, by omega⟩
  apply Array.ext_getElem?
  intro i
  by_cases hi : i < heap.size
  · rw [Array.getElem?_append_left hi]; exact h5 i hi
  · rw [Array.getElem?_append_right (by omega), Array.getElem?_extract]
    by_cases hj : i < heap'.size
    · rw [if_pos (by omega), show heap.size + (i - heap.size) = i by omega]
    · rw [if_neg (by omega), Array.getElem?_eq_none (by omega)]
theorem put_cells {w : World} {g : Nat} {cur : Array Value} {e : TypeId} {fr : Nat × Nat} (hg : w.heap[g]? = some (.cells cur e fr)) (F : Array Value) :
    (putRow id w g 0 F).heap[g]? = some (.cells (putCells id 0 F cur) e fr) := by
  unfold putRow mapBlock
  simp only [Array.getElem?_modify, if_true, hg, Option.map_some, onCells]
theorem put_other (w : World) (g : Nat) (F : Array Value) {k : Nat} (h : k ≠ g) : (putRow id w g 0 F).heap[k]? = w.heap[k]? := by
  unfold putRow mapBlock
  simp only [Array.getElem?_modify, if_neg (fun e : g = k => h e.symm)]
theorem putCells_take (F cur : Array Value) (h : F.size ≤ cur.size) : (putCells id 0 F cur).toList.take F.size = F.toList := by
  apply List.ext_getElem?
  intro i
  rw [List.getElem?_take]
  by_cases hi : i < F.size
  · rw [if_pos hi]
    unfold putCells
    simp only [Array.getElem?_toList, Array.getElem?_mapIdx]
    rw [Array.getElem?_eq_getElem (show i < cur.size by omega), Option.map_some, if_pos (by omega), Nat.sub_zero, getElem!_pos F i hi, Array.getElem?_eq_getElem hi]
    rfl
  · rw [if_neg hi, List.getElem?_eq_none (by simpa using hi)]
theorem putCells_size (F cur : Array Value) : (putCells id 0 F cur).size = cur.size := by unfold putCells; simp

section
variable {l : List Pt} {tn td : Int}
end
end Go.Proofs.YtpngjeloiifgnaaGreat

namespace Go.Proofs.YtpngjeloiifgnaaGreat
open Go.RowKit
theorem FindP_yes {l : List Pt} (hv : Val l) {k : Nat} {p : Pt} {id : Int} (hk : l[k]? = some p) (he : p.id = id) : FindIs 45 l id p 0 := by
  have c := PCheck_any l
  rw [err_val.2 hv] at c
  exact pfind_yes hk (in_of (get_lt hk)) c (find_yes hv hk he)
theorem FindP_no {l : List Pt} (hv : Val l) {id : Int} (hno : ∀ p ∈ l, p.id ≠ id) : FindIs 45 l id ⟨0, 0, 0⟩ 6 := by
  have c := PCheck_any l
  rw [err_val.2 hv] at c
  rcases place l hv id with ⟨k, p, hk, he⟩ | ⟨_, k, hkl, hlo, hhi⟩
  · exact (hno p (List.mem_of_getElem? hk) he).elim
  · exact pfind_no c (find_no hv hkl hlo hhi)

end Go.Proofs.YtpngjeloiifgnaaGreat

namespace Go.Proofs.YtpngjeloiifgnaaGreat
theorem pw_uniq {α : Type} {r : α → α → Prop} : ∀ {a b : List α}, a.Perm b → (∀ x ∈ a, ∀ y ∈ a, r x y → r y x → x = y) → a.Pairwise r → b.Pairwise r → a = b
  | [], b, h, _, _, _ => h.nil_eq
  | x :: a, b, h, hr, ha, hb => by
    cases b with
    | nil => exact (List.not_perm_cons_nil h).elim
    | cons y b =>
      have hx : x ∈ y :: b := h.subset List.mem_cons_self
      have hy : y ∈ x :: a := h.symm.subset List.mem_cons_self
      have e : x = y := by
        rcases List.mem_cons.1 hx with e | hx
        · exact e
        · rcases List.mem_cons.1 hy with e | hy
          · exact e.symm
          · exact hr x List.mem_cons_self y (List.mem_cons_of_mem _ hy) ((List.pairwise_cons.1 ha).1 y hy) ((List.pairwise_cons.1 hb).1 x hx)
      subst e
      rw [pw_uniq h.cons_inv (fun u hu v hv => hr u (List.mem_cons_of_mem _ hu) v (List.mem_cons_of_mem _ hv)) (List.pairwise_cons.1 ha).2 (List.pairwise_cons.1 hb).2]

end Go.Proofs.YtpngjeloiifgnaaGreat

namespace Go.Proofs.YtpngjeloiifgnaaGreat
open Go.RowKit
instance decI64 (n : Int) : Decidable (I64 n) := by unfold I64; infer_instance
theorem fM_eq {x : Pt × Pt} (h1 : okPt x.1 = true) (h2 : okPt x.2 = true) (hb : x.1.b ≠ x.2.b) {n d : Int} (hk : okB n d = true) (he : n * (x.1.b - x.2.b) = (x.2.a - x.1.a) * d) : fM x = some ⟨n, d, x.1.id, x.2.id⟩ := by
  obtain ⟨m, h, hm⟩ := fM_diff h1 h2 hb
  have e := hm.eq
  have e2 : (m.n * d) * (x.1.b - x.2.b) = (n * m.d) * (x.1.b - x.2.b) := by
    have a1 : (m.n * d) * (x.1.b - x.2.b) = (m.n * (x.1.b - x.2.b)) * d := by rw [Int.mul_assoc, Int.mul_comm d, ← Int.mul_assoc]
    have a2 : (n * m.d) * (x.1.b - x.2.b) = (n * (x.1.b - x.2.b)) * m.d := by rw [Int.mul_assoc, Int.mul_comm m.d, ← Int.mul_assoc]
    rw [a1, a2, e, he, Int.mul_assoc, Int.mul_assoc, Int.mul_comm d]
  have e3 : m.n * d = n * m.d := Int.eq_of_mul_eq_mul_right (by omega) e2
  obtain ⟨e4, e5⟩ := okB_one hm.ok hk (by omega)
  rw [h, ← e4, ← e5, ← hm.i, ← hm.j]
end Go.Proofs.YtpngjeloiifgnaaGreat
