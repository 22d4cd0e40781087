/-
  The crest of a field from the crests of two parts of it: the numbers. Conditions: none.
-/
import Derived.Test.YtoheadpehomdjaaW44
import Derived.Test.YtoheadpehomdjaaHg
namespace Go.Proofs.Ytoheadpehomdjaa
open Go.RowKit
section
variable {l : List Pt}
/-- Who leads is overtaken later only. -/
theorem next_gt (hv : Val l) {p : Pt} (hp : p ∈ l) {n d : Int} (htop : ∀ q ∈ l, ld n d q p = false) {m : Mt} (hm : nextM p l = some m) : Tm m.n m.d ∧ n * m.d < m.n * d := by
  have hL := least_all hv (hv.ok _ hp)
  rw [hm] at hL
  obtain ⟨⟨q, hq, h1⟩, _⟩ := hL
  obtain ⟨hb, ok⟩ := nextOf_some (hv.ok _ hp) (hv.ok _ hq) h1
  refine ⟨⟨ok.n, ok.d, ok.ok⟩, ?_⟩
  have h2 := htop q hq
  rw [ld_faster ok hb] at h2
  have h3 : ¬ (n * m.d - m.n * d).sign ≥ 0 := by simpa using h2
  rcases sg_cases (n * m.d - m.n * d) with ⟨w, z⟩ | ⟨w, z⟩ | ⟨w, z⟩ <;> omega
/-- A first part of a crest: who leads in its last lead. -/
structure Fw (l : List Pt) (p : Pt) (x : Ld) (s C : List Ld) : Prop where
  ex : ∃ t, Cr l p x t ∧ C = s ++ t
  last : s.getLast? = some x
theorem push_fw (hv : Val l) {p : Pt} {x : Ld} {s C : List Ld} (h : Fw l p x s C) {n d : Int} (ht : Tm n d) (hle : cv x n d ≤ 0) (hup : ∀ m, nextM p l = some m → n * m.d ≤ m.n * d) :
    ∃ x', Fw l (ldr l n d) x' (pushL s n d (ldr l n d).id) C ∧ cv x' n d ≤ 0 ∧ (∀ m, nextM (ldr l n d) l = some m → n * m.d < m.n * d) := by
  obtain ⟨⟨t, hc, rfl⟩, hlast⟩ := h
  have b := hc.base
  have d0 := okB_den ht.ok
  have x0 := okB_den b.tm.ok
  by_cases he : ∃ m, nextM p l = some m ∧ n * m.d = m.n * d
  · obtain ⟨m, hm, e⟩ := he
    obtain ⟨hmt, _⟩ := next_gt hv b.mem b.top hm
    obtain ⟨e1, e2⟩ := okB_one ht.ok hmt.ok (by omega)
    subst e1 e2
    have hup2 := lead_up hv b.mem (by omega) b.top hm
    have hne : ¬ (ldr l m.n m.d).id = x.id := fun e => by
      have hq := val_id hv hup2.2.2.2 b.mem (by rw [e, b.id])
      have := hup2.2.1
      rw [hq] at this
      omega
    cases hc with
    | stop _ hn => rw [hn] at hm; cases hm
    | step _ hm' r =>
      rw [hm'] at hm
      cases hm
      refine ⟨nxL l m, ⟨⟨_, r, ?_⟩, ?_⟩, by show (m.n * m.d - m.n * m.d).sign ≤ 0; rw [Int.sub_self]; decide, fun m' hm2 => (next_gt hv r.base.mem r.base.top hm2).2⟩
      · rw [pushL_new (by rw [hlast]; simpa using fun e => hne e.symm)]
        simp
      · rw [pushL_new (by rw [hlast]; simpa using fun e => hne e.symm)]
        simp
  · have hst : ∀ m, nextM p l = some m → n * m.d < m.n * d := fun m hm => by
      have h1 := hup m hm
      have h2 : ¬ n * m.d = m.n * d := fun e => he ⟨m, hm, e⟩
      omega
    have htop := top_stay hv b ht hle hst
    have e := ldr_of hv b.mem htop
    rw [e]
    refine ⟨x, ⟨⟨t, hc, ?_⟩, ?_⟩, hle, hst⟩
    · rw [pushL_same (by rw [hlast, b.id]; rfl)]
    · rw [pushL_same (by rw [hlast, b.id]; rfl)]; exact hlast
/-- Before a time, or at any time at all. -/
def Bf (a b : Int) : Option Rn → Prop
  | none => True
  | some u => a * u.d < u.n * b
/-- Not before a time, or never. -/
def NB (l : List Pt) (p : Pt) (x : Ld) : Option Rn → Prop
  | none => nextM p l = none
  | some u => cv x u.n u.d ≤ 0 ∧ ∀ m, nextM p l = some m → u.n * m.d ≤ m.n * u.d
/-- The second half of a change. -/
noncomputable def mtail (hi lo : Pt) (s : List Ld) (nx : Option Rn) : List Ld :=
  match nextOf hi lo with
  | none => s
  | some m => match nx with
    | none => pushL s m.n m.d lo.id
    | some u => if (m.n * u.d - u.n * m.d).sign < 0 then pushL s m.n m.d lo.id else s
theorem mstep_tail (hi lo : Pt) (s : List Ld) (t : Rn) (nx : Option Rn) : mstep hi lo s t nx = mtail hi lo (pushL s t.n t.d hi.id) nx := by
  unfold mstep mtail
  cases nextOf hi lo with
  | none => rfl
  | some m => cases nx with
    | none => rfl
    | some u => rfl
/-- From a change to the next one: two points take turns. -/
theorem turn_fw (hv : Val l) {hi lo : Pt} {x : Ld} {s C : List Ld} {t : Rn} {nx : Option Rn} (h : Fw l hi x s C) (ht : Tm t.n t.d) (hu : ∀ u, nx = some u → Tm u.n u.d ∧ t.n * u.d < u.n * t.d) (hle : cv x t.n t.d ≤ 0) (hst : ∀ m, nextM hi l = some m → t.n * m.d < m.n * t.d)
    (hlo : lo ∈ l) (hl0 : ld t.n t.d lo hi = false) (hpair : ∀ a b, Tm a b → t.n * b ≤ a * t.d → Bf a b nx → ldr l a b = if ld a b lo hi = true then lo else hi) :
    ∃ p' x', Fw l p' x' (mtail hi lo s nx) C ∧ NB l p' x' nx := by
  unfold mtail
  have hc := h.ex.choose_spec.1
  have b := hc.base
  have t0 := okB_den ht.ok
  have hL := least_all hv (hv.ok _ b.mem)
  have sgn : ∀ z : Int, z.sign < 0 ↔ z < 0 := fun z => by rcases sg_cases z with ⟨w, y⟩ | ⟨w, y⟩ | ⟨w, y⟩ <;> omega
  -- the field's next one before the next change is the other point
  have key : ∀ m', nextM hi l = some m' → Bf m'.n m'.d nx → ∃ m, nextOf hi lo = some m ∧ m.n * m'.d ≤ m'.n * m.d := by
    intro m' hm' hbf
    obtain ⟨hmt, _⟩ := next_gt hv b.mem b.top hm'
    have hlt := hst m' hm'
    have hup2 := lead_up hv b.mem (by have := okB_den b.tm.ok; omega) b.top hm'
    have hp := hpair m'.n m'.d hmt (by omega) hbf
    by_cases hld : ld m'.n m'.d lo hi = true
    · rw [if_pos hld] at hp
      have hb : hi.b < lo.b := by have := hup2.2.1; rw [hp] at this; exact this
      obtain ⟨m, h1, ok⟩ := nextOf_yes (hv.ok _ b.mem) (hv.ok _ hlo) hb
      refine ⟨m, h1, ?_⟩
      rw [ld_faster ok hb] at hld
      have h3 : (m'.n * m.d - m.n * m'.d).sign ≥ 0 := by simpa using hld
      rcases sg_cases (m'.n * m.d - m.n * m'.d) with ⟨w, z⟩ | ⟨w, z⟩ | ⟨w, z⟩ <;> omega
    · rw [if_neg hld] at hp
      have := hup2.2.1
      rw [hp] at this
      omega
  have stay : (∀ m', nextM hi l = some m' → ¬ Bf m'.n m'.d nx) → NB l hi x nx := by
    intro hno
    cases nx with
    | none =>
      show nextM hi l = none
      cases hm : nextM hi l with
      | none => rfl
      | some m' => exact (hno m' hm trivial).elim
    | some u =>
      obtain ⟨hut, hlt⟩ := hu u rfl
      refine ⟨?_, fun m' hm' => ?_⟩
      · have x0 := okB_den b.tm.ok
        have u0 := okB_den hut.ok
        have h1 : ¬ cv x t.n t.d > 0 := by omega
        rw [cv_pos] at h1
        have h2 : ¬ cv x u.n u.d > 0 := fun hg => by
          rw [cv_pos] at hg
          have := frac_lt (by omega) (by omega) (by omega) hlt hg
          omega
        omega
      · have := hno m' hm'
        have h3 : ¬ m'.n * u.d < u.n * m'.d := this
        omega
  cases hm : nextOf hi lo with
  | none =>
    refine ⟨hi, x, h, stay fun m' hm' hbf => ?_⟩
    obtain ⟨m, h1, _⟩ := key m' hm' hbf
    rw [hm] at h1; cases h1
  | some m =>
    obtain ⟨hb, ok⟩ := nextOf_some (hv.ok _ b.mem) (hv.ok _ hlo) hm
    have m0 := okB_den ok.ok
    have hmt : Tm m.n m.d := ⟨ok.n, ok.d, ok.ok⟩
    have htm : t.n * m.d < m.n * t.d := by
      rw [ld_faster ok hb] at hl0
      have h3 : ¬ (t.n * m.d - m.n * t.d).sign ≥ 0 := by simpa using hl0
      rcases sg_cases (t.n * m.d - m.n * t.d) with ⟨w, z⟩ | ⟨w, z⟩ | ⟨w, z⟩ <;> omega
    -- the push of the other point
    have psh : Bf m.n m.d nx → ∃ p' x', Fw l p' x' (pushL s m.n m.d lo.id) C ∧ NB l p' x' nx := by
      intro hbf
      have el : ldr l m.n m.d = lo := by
        rw [hpair m.n m.d hmt (by omega) hbf, if_pos]
        rw [ld_faster ok hb]
        simp
      have hxm : cv x m.n m.d ≤ 0 := by
        have x0 := okB_den b.tm.ok
        have h1 : ¬ cv x t.n t.d > 0 := by omega
        rw [cv_pos] at h1
        have h2 : ¬ cv x m.n m.d > 0 := fun hg => by
          rw [cv_pos] at hg
          have := frac_lt (by omega) (by omega) (by omega) htm hg
          omega
        omega
      obtain ⟨x', f1, f2, f3⟩ := push_fw hv h hmt hxm fun m' hm' => by
        rcases Int.lt_or_le (m'.n * m.d) (m.n * m'.d) with g | g
        · have m0' := okB_den (next_gt hv b.mem b.top hm').1.ok
          have hbf' : Bf m'.n m'.d nx := by
            cases nx with
            | none => trivial
            | some u => exact frac_lt (by omega) (by omega) (by have := okB_den (hu u rfl).1.ok; omega) g hbf
          obtain ⟨m2, g1, g2⟩ := key m' hm' hbf'
          rw [hm] at g1; cases g1
          omega
        · exact g
      rw [el] at f1 f3
      refine ⟨lo, x', f1, ?_⟩
      have c' := f1.ex.choose_spec.1
      have b' := c'.base
      have noo : ∀ m', nextM lo l = some m' → ¬ Bf m'.n m'.d nx := by
        intro m' hm' hbf'
        obtain ⟨hmt', _⟩ := next_gt hv b'.mem b'.top hm'
        have m0' := okB_den hmt'.ok
        have hup2 := lead_up hv b'.mem (by have := okB_den b'.tm.ok; omega) b'.top hm'
        have h5 := f3 m' hm'
        have hp := hpair m'.n m'.d hmt' (by
          have := frac_lt (by omega) (by omega) (by omega) htm h5
          omega) hbf'
        have h6 := hup2.2.1
        rw [hp] at h6
        split at h6 <;> omega
      cases nx with
      | none =>
        show nextM lo l = none
        cases hmm : nextM lo l with
        | none => rfl
        | some m' => exact (noo m' hmm trivial).elim
      | some u =>
        obtain ⟨hut, hlt⟩ := hu u rfl
        have u0 := okB_den hut.ok
        refine ⟨?_, fun m' hm' => ?_⟩
        · have x0 := okB_den b'.tm.ok
          have h1 : ¬ cv x' m.n m.d > 0 := by omega
          rw [cv_pos] at h1
          have h2 : ¬ cv x' u.n u.d > 0 := fun hg => by
            rw [cv_pos] at hg
            have := frac_lt (by omega) (by omega) (by omega) (show m.n * u.d < u.n * m.d from hbf) hg
            omega
          omega
        · have h3 : ¬ m'.n * u.d < u.n * m'.d := noo m' hm'
          omega
    cases nx with
    | none => exact psh trivial
    | some u =>
      show ∃ p' x', Fw l p' x' (if (m.n * u.d - u.n * m.d).sign < 0 then pushL s m.n m.d lo.id else s) C ∧ _
      by_cases hs : (m.n * u.d - u.n * m.d).sign < 0
      · rw [if_pos hs]
        rw [sgn] at hs
        exact psh (show m.n * u.d < u.n * m.d by omega)
      · rw [if_neg hs]
        rw [sgn] at hs
        refine ⟨hi, x, h, stay fun m' hm' hbf => ?_⟩
        obtain ⟨m2, g1, g2⟩ := key m' hm' hbf
        rw [hm] at g1; cases g1
        have m0' := okB_den (next_gt hv b.mem b.top hm').1.ok
        have u0 := okB_den (hu u rfl).1.ok
        have h7 : m'.n * u.d < u.n * m'.d := hbf
        have := frac_lt_le (by omega) (by omega) (by omega) h7 (show u.n * m.d ≤ m.n * u.d by omega)
        omega
end
end Go.Proofs.Ytoheadpehomdjaa
