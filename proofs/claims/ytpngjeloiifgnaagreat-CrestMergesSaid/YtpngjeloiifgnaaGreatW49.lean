/-
  Joined: Ie, Ij, Ik. Conditions: none.
-/
import Derived.Test.YtpngjeloiifgnaaGreatId
import Derived.Test.YtpngjeloiifgnaaGreatW41
namespace Go.Proofs.YtpngjeloiifgnaaGreat
open Go.RowKit
theorem cmpA_mem : ∀ {r : List Rn} {y m : Rn}, m ∈ cmpA y r → m ∈ r
  | [], _, _, h => by cases h
  | x :: r, y, m, h => by
    unfold cmpA at h
    split at h
    · exact List.mem_cons_of_mem _ (cmpA_mem h)
    · rcases List.mem_cons.1 h with h | h
      · rw [h]; exact List.mem_cons_self
      · exact List.mem_cons_of_mem _ (cmpA_mem h)

theorem CAh_ok {p q : Pt} {n d : Int} (hn : I64 n) (hd : I64 d) (h1 : okPt p = true) (h2 : okPt q = true) (h3 : okB n d = true) (hid : p.id = q.id → p = q) : Pure Tryz.prog 59 #[ptV p, ptV q, ratioV n d] (.bool (ld n d p q)) := by
  by_cases h : p.id = q.id
  · have := hid h
    subst this
    rw [ld_irr]
    exact cah_path (ahead_e3 (Check02_ok h1) (Check02_ok h1) (Check_ok hn hd h3) (ids_e (by simp)))
  · exact cah_path (Ahead_ok hn hd h1 h2 h3 h)
theorem CLost_ok {p q : Pt} {n d : Int} (hn : I64 n) (hd : I64 d) (h1 : okPt p = true) (h2 : okPt q = true) (h3 : okB n d = true) (hid : p.id = q.id → p = q) (hl : ld n d q p = false) : Pure Tryz.prog 60 #[ptV p, ptV q, ratioV n d] (lostV p q) := by
  by_cases h : p.id = q.id
  · have := hid h
    subst this
    unfold lostV
    rw [nextOf_no (by omega)]
    exact clost_path (Fails_self hn hd h1 h3)
  · have f := Fails_lead hn hd h1 h2 h3 h hl
    unfold lostV
    cases hm : nextOf p q with
    | none => rw [hm] at f; exact clost_path f
    | some m => rw [hm] at f; exact clost_path f

def hiP (t : Rn) (p q : Pt) : Pt := if ld t.n t.d q p = true then q else p
def loP (t : Rn) (p q : Pt) : Pt := if ld t.n t.d q p = true then p else q
noncomputable def mrun (A B : Rn → Pt) : List Ld → List Rn → List Ld
  | s, [] => s
  | s, t :: r => mrun A B (mstep (hiP t (A t) (B t)) (loP t (A t) (B t)) s t r.head?) r
theorem pushL_len (s : List Ld) (n d id : Int) : (pushL s n d id).length ≤ s.length + 1 := by
  unfold pushL
  split
  · omega
  · simp
theorem mstep_len (hi lo : Pt) (s : List Ld) (t : Rn) (nx : Option Rn) : (mstep hi lo s t nx).length ≤ s.length + 2 := by
  have h1 := pushL_len s t.n t.d hi.id
  unfold mstep
  split
  · omega
  · rename_i m _
    have h2 := pushL_len (pushL s t.n t.d hi.id) m.n m.d lo.id
    split
    · omega
    · split <;> omega
/-- Who leads a crest at a time. -/
structure LdAt (l : List Pt) (c : List Ld) (t : Rn) (p : Pt) : Prop where
  run : FnL Tryz.prog 58 1 [.ls 0 c.length, .pv (ratioV t.n t.d)] [(0, 0, rowL c)] (.pv (.int .i64 p.id)) 0 []
  mem : p ∈ l
theorem mg_loop {l : List Pt} (hv : Val l) {ca cb : List Ld} {uu : List Rn} {A B : Rn → Pt} (hn : uu.length ≤ 1000) (hu : ∀ x ∈ uu, RnOk x) (ha : ∀ t ∈ uu, LdAt l ca t (A t)) (hb : ∀ t ∈ uu, LdAt l cb t (B t)) :
    ∀ (r : List Rn) (k : Nat) (zs : List Ld), uu.drop k = r → zs.length ≤ 2 * k →
      RunsL Tryz.prog 3 3 (loopOf Tryz.prog 23 0) 77 7 (mgT ca cb uu k) (mgH l ca cb uu zs) (.exit 0) [(7, .pp 4 0)] [(4, 0, .ls 6 (mrun A B zs r).length), (6, 0, rowL (mrun A B zs r))] := by
  intro r
  induction r with
  | nil =>
    intro k zs hd hz
    have hle := List.drop_eq_nil_iff.1 hd
    exact mr_end (df (by omega))
  | cons t r ih =>
    intro k zs hd hz
    have hk : uu[k]? = some t := by have := congrArg (·[0]?) hd; simpa using this
    have hd' : uu.drop (k + 1) = r := by rw [← List.drop_drop, hd]; rfl
    have hx : uu[k + 1]? = r.head? := by
      have := congrArg (·[0]?) hd'
      rw [List.getElem?_drop] at this
      simpa [List.head?_eq_getElem?] using this
    have hkl := get_lt hk
    have hm := List.mem_of_getElem? hk
    have ot := hu t hm
    obtain ⟨a1, a2⟩ := ha t hm
    obtain ⟨b1, b2⟩ := hb t hm
    obtain ⟨ja, hja⟩ := List.getElem?_of_mem a2
    obtain ⟨jb, hjb⟩ := List.getElem?_of_mem b2
    have okA := hv.ok _ a2
    have okQ := hv.ok _ b2
    have hAB : (A t).id = (B t).id → A t = B t := fun e => val_id hv a2 b2 e
    have hBA : (B t).id = (A t).id → B t = A t := fun e => val_id hv b2 a2 e
    have hah := CAh_ok ot.n ot.d okQ okA ot.ok hBA
    have r1 := ih (k + 1) (mstep (hiP t (A t) (B t)) (loP t (A t) (B t)) zs t r.head?) hd' (by have := mstep_len (hiP t (A t) (B t)) (loP t (A t) (B t)) zs t r.head?; omega)
    rw [mrun]
    rw [← hx] at r1 ⊢
    by_cases hs : ld t.n t.d (B t) (A t) = true
    · rw [hs] at hah
      have e1 : hiP t (A t) (B t) = B t := if_pos hs
      have e2 : loP t (A t) (B t) = A t := if_pos hs
      rw [e1, e2] at r1 ⊢
      exact mrs_y (by omega) (by omega) hk hu a1 (PT_ok hv hja rfl) b1 (PT_ok hv hjb rfl) hah (CLost_ok ot.n ot.d okQ okA ot.ok hBA (ld_asym hs)) okQ okA hBA r1
    · have hs' : ld t.n t.d (B t) (A t) = false := by simpa using hs
      rw [hs'] at hah
      have e1 : hiP t (A t) (B t) = A t := if_neg hs
      have e2 : loP t (A t) (B t) = B t := if_neg hs
      rw [e1, e2] at r1 ⊢
      exact mrs_n (by omega) (by omega) hk hu a1 (PT_ok hv hja rfl) b1 (PT_ok hv hjb rfl) hah (CLost_ok ot.n ot.d okA okQ ot.ok hAB hs') okA okQ hAB r1
/-- The contract of merged. -/
theorem Mgd_ok {l : List Pt} (hv : Val l) {ca cb : List Ld} {y : Rn} {rs : List Rn} {A B : Rn → Pt} (hok : ∀ x ∈ ca ++ cb, RnOk (frm x)) (hlen : (ca ++ cb).length ≤ 1000) (hp : (y :: y :: rs).Perm ((ca ++ cb).map frm)) (hs : (y :: y :: rs).Pairwise (fun a b => 0 ≤ ordR b a))
    (ha : ∀ t ∈ y :: cmpA y rs, LdAt l ca t (A t)) (hb : ∀ t ∈ y :: cmpA y rs, LdAt l cb t (B t)) :
    FnL Tryz.prog 23 3 [fldS 0 l, .ls 1 ca.length, .ls 2 cb.length] [(0, 0, rowP l), (1, 0, rowL ca), (2, 0, rowL cb)] (.ls 3 (mrun A B [] (y :: cmpA y rs)).length) 1 [(3, 0, rowL (mrun A B [] (y :: cmpA y rs)))] := by
  have hl : rs.length + 2 = (ca ++ cb).length := by have := hp.length_eq; simpa using this
  have hcl := cmpA_len rs y
  have hX : ∀ m ∈ y :: cmpA y rs, RnOk m := by
    intro m hm
    have h1 : m ∈ y :: y :: rs := by
      rcases List.mem_cons.1 hm with h | h
      · rw [h]; simp
      · exact List.mem_cons_of_mem _ (List.mem_cons_of_mem _ (cmpA_mem h))
    obtain ⟨x, hx, rfl⟩ := List.mem_map.1 (hp.mem_iff.1 h1)
    exact hok x hx
  exact mr_path (Chg_ok hok (by omega) hp hs) (mg_loop hv (by simp; omega) hX ha hb _ 0 [] rfl (by simp))
end Go.Proofs.YtpngjeloiifgnaaGreat

namespace Go.Proofs.YtpngjeloiifgnaaGreat
open Go.RowKit
theorem cmpA_keep : ∀ {r : List Rn} {y m : Rn}, m ∈ r → m = y ∨ m ∈ cmpA y r
  | [], _, _, h => by cases h
  | x :: r, y, m, h => by
    unfold cmpA
    by_cases hs : sameR x y = true
    · rw [if_pos hs]
      have e := sameR_eq.1 hs
      rcases List.mem_cons.1 h with h | h
      · exact Or.inl (h.trans e)
      · rcases cmpA_keep (y := x) h with g | g
        · exact Or.inl (g.trans e)
        · exact Or.inr g
    · rw [if_neg hs]
      rcases List.mem_cons.1 h with h | h
      · exact Or.inr (by rw [h]; exact List.mem_cons_self)
      · rcases cmpA_keep (y := x) h with g | g
        · exact Or.inr (by rw [g]; exact List.mem_cons_self)
        · exact Or.inr (List.mem_cons_of_mem _ g)
abbrev ltR (a b : Rn) : Prop := a.n * b.d < b.n * a.d
theorem ltR_of {a b : Rn} (ha : RnOk a) (hb : RnOk b) (h : 0 ≤ ordR b a) (hne : ¬ a = b) : ltR a b := by
  have h1 := ordR_ge.1 h
  have h2 : ¬ a.n * b.d = b.n * a.d := fun e => hne (by
    obtain ⟨e1, e2⟩ := okB_one ha.ok hb.ok e
    cases a; cases b
    simp only at e1 e2
    rw [e1, e2])
  show a.n * b.d < b.n * a.d
  omega
theorem cmpA_lt : ∀ {r : List Rn} {y : Rn}, (∀ m ∈ y :: r, RnOk m) → (y :: r).Pairwise (fun a b => 0 ≤ ordR b a) → (y :: cmpA y r).Pairwise ltR
  | [], y, _, _ => by simp [cmpA]
  | x :: r, y, hok, hs => by
    have h1 := List.pairwise_cons.1 hs
    have ih := cmpA_lt (r := r) (y := x) (fun m hm => hok m (List.mem_cons_of_mem _ hm)) h1.2
    unfold cmpA
    by_cases he : sameR x y = true
    · rw [if_pos he, ← sameR_eq.1 he]
      exact ih
    · rw [if_neg he]
      have ox := hok x (by simp)
      have oy := hok y (by simp)
      have hyx : ltR y x := ltR_of oy ox (h1.1 x (by simp)) fun e => he (sameR_eq.2 e.symm)
      refine List.pairwise_cons.2 ⟨fun b hb => ?_, ih⟩
      rcases List.mem_cons.1 hb with rfl | hb
      · exact hyx
      · have h2 := (List.pairwise_cons.1 ih).1 b hb
        have ob := hok b (List.mem_cons_of_mem _ (List.mem_cons_of_mem _ (cmpA_mem hb)))
        have y0 := okB_den oy.ok
        have x0 := okB_den ox.ok
        have b0 := okB_den ob.ok
        exact frac_lt (by omega) (by omega) (by omega) hyx h2
/-- In a list in order: what is in it is not behind one of it, or not before the next one. -/
theorem pw_split {U : List Rn} (h : U.Pairwise ltR) {k : Nat} {t v : Rn} (hk : U[k]? = some t) (hv : v ∈ U) : v.n * t.d ≤ t.n * v.d ∨ ∃ u, U[k + 1]? = some u ∧ u.n * v.d ≤ v.n * u.d := by
  obtain ⟨j, hj⟩ := List.getElem?_of_mem hv
  have hjl := get_lt hj
  have hkl := get_lt hk
  have pw := List.pairwise_iff_getElem.1 h
  have ej : U[j] = v := by rw [List.getElem?_eq_getElem hjl] at hj; exact Option.some.inj hj
  have ek : U[k] = t := by rw [List.getElem?_eq_getElem hkl] at hk; exact Option.some.inj hk
  rcases Nat.lt_trichotomy j k with g | g | g
  · have := pw j k hjl hkl g
    rw [ej, ek] at this
    exact Or.inl (Int.le_of_lt this)
  · subst g
    rw [ej] at ek
    subst ek
    exact Or.inl (Int.le_refl _)
  · have hk1 : k + 1 < U.length := by omega
    refine Or.inr ⟨U[k + 1], List.getElem?_eq_getElem hk1, ?_⟩
    rcases Nat.lt_or_ge (k + 1) j with g2 | g2
    · have := pw (k + 1) j hk1 hjl g2
      rw [ej] at this
      exact Int.le_of_lt this
    · have e : j = k + 1 := by omega
      subst e
      rw [ej]
      exact Int.le_refl _
section
variable {l la lb : List Pt}
end
end Go.Proofs.YtpngjeloiifgnaaGreat

namespace Go.Proofs.YtpngjeloiifgnaaGreat
open Go.RowKit
/-- A list of fractions can be put in order. -/
theorem sortR_ex {R : List Rn} (hR : ∀ m ∈ R, RnOk m) : ∃ rs : List Rn, rs.Perm R ∧ rs.Pairwise (fun a b => 0 ≤ ordR b a) := by
  have hp := List.mergeSort_perm (R.attachWith RnOk hR) (fun a b => decide (0 ≤ ordR b.1 a.1))
  refine ⟨((R.attachWith RnOk hR).mergeSort (fun a b => decide (0 ≤ ordR b.1 a.1))).map (·.1), ?_, ?_⟩
  · have := hp.map (·.1)
    rwa [show (R.attachWith RnOk hR).map (·.1) = R by simp] at this
  · have h := List.pairwise_mergeSort (le := fun a b : { x // RnOk x } => decide (0 ≤ ordR b.1 a.1)) (fun a b c h1 h2 => ?_) (fun a b => ?_) (R.attachWith RnOk hR)
    · rw [List.pairwise_map]
      exact h.imp fun {a b} g => by simpa using g
    · have g1 : 0 ≤ ordR b.1 a.1 := by simpa using h1
      have g2 : 0 ≤ ordR c.1 b.1 := by simpa using h2
      simpa using ordR_tr c.2 b.2 a.2 g2 g1
    · have := ordR_neg a.1 b.1
      by_cases g : 0 ≤ ordR b.1 a.1
      · simp [g]
      · have : 0 ≤ ordR a.1 b.1 := by omega
        simp [this]
section
variable {l : List Pt}
end
end Go.Proofs.YtpngjeloiifgnaaGreat
