/-
  Joined: Ii, Ij, Ik, Il. Conditions: none.
-/
import Derived.Test.YtoheadpehomdjaaIh
namespace Go.Proofs.Ytoheadpehomdjaa
open Go.RowKit
/-- What is asked of a change, and the next one. -/
structure OkT (l : List Pt) (A B : Rn → Pt) (t : Rn) (nx : Option Rn) : Prop where
  tm : Tm t.n t.d
  nxt : ∀ u, nx = some u → Tm u.n u.d ∧ t.n * u.d < u.n * t.d
  hi : ldr l t.n t.d = hiP t (A t) (B t)
  lo : loP t (A t) (B t) ∈ l
  ld0 : ld t.n t.d (loP t (A t) (B t)) (hiP t (A t) (B t)) = false
  pair : ∀ a b, Tm a b → t.n * b ≤ a * t.d → Bf a b nx → ldr l a b = if ld a b (loP t (A t) (B t)) (hiP t (A t) (B t)) = true then loP t (A t) (B t) else hiP t (A t) (B t)
section
variable {l : List Pt}
theorem mrun_fw (hv : Val l) {A B : Rn → Pt} {C : List Ld} : ∀ (ts : List Rn) {p : Pt} {x : Ld} {s : List Ld}, Fw l p x s C → NB l p x ts.head? → (∀ k t, ts[k]? = some t → OkT l A B t ts[k + 1]?) → mrun A B s ts = C
  | [], p, x, s, h, hn, _ => by
    obtain ⟨⟨t, hc, rfl⟩, _⟩ := h
    cases hc with
    | stop _ _ => simp [mrun]
    | step _ h2 _ => rw [show nextM p l = none from hn] at h2; cases h2
  | t :: r, p, x, s, h, hn, hok => by
    have o := hok 0 t rfl
    have e : (t :: r)[0 + 1]? = r.head? := by rw [List.getElem?_cons_succ, List.head?_eq_getElem?]
    rw [e] at o
    obtain ⟨hle, hup⟩ := hn
    obtain ⟨x', f1, f2, f3⟩ := push_fw hv h o.tm hle hup
    rw [o.hi] at f1 f3
    obtain ⟨p2, x2, g1, g2⟩ := turn_fw hv f1 o.tm o.nxt f2 f3 o.lo o.ld0 o.pair
    rw [mrun]
    exact mrun_fw hv r (by rw [mstep_tail]; exact g1) g2 fun k t' hk => by
      have := hok (k + 1) t' (by simpa using hk)
      simpa using this
theorem mrun_start (hv : Val l) (hne : l ≠ []) {A B : Rn → Pt} {n d : Int} (ht : Tm n d) {r : List Rn} (hok : ∀ k t, (Rn.mk n d :: r)[k]? = some t → OkT l A B t (Rn.mk n d :: r)[k + 1]?) : mrun A B [] (Rn.mk n d :: r) = crest l n d := by
  have o := hok 0 _ rfl
  have e : (Rn.mk n d :: r)[0 + 1]? = r.head? := by rw [List.getElem?_cons_succ, List.head?_eq_getElem?]
  rw [e] at o
  obtain ⟨t, h1, h2, _⟩ := crest_spec hv hne ht
  have hi := o.hi
  have f1 : Fw l (ldr l n d) ⟨n, d, (ldr l n d).id⟩ (pushL [] n d (ldr l n d).id) (crest l n d) := ⟨⟨t, h2, by rw [h1]; rfl⟩, rfl⟩
  have f3 : ∀ m, nextM (ldr l n d) l = some m → n * m.d < m.n * d := fun m hm => (next_gt hv h2.base.mem h2.base.top hm).2
  have f2 : cv (Ld.mk n d (ldr l n d).id) n d ≤ 0 := by show (n * d - n * d).sign ≤ 0; rw [Int.sub_self]; decide
  rw [show ldr l n d = hiP (Rn.mk n d) (A ⟨n, d⟩) (B ⟨n, d⟩) from hi] at f1 f3 f2
  obtain ⟨p2, x2, g1, g2⟩ := turn_fw hv f1 o.tm o.nxt f2 f3 o.lo o.ld0 o.pair
  rw [mrun]
  exact mrun_fw hv r (by rw [mstep_tail]; exact g1) g2 fun k t' hk => by
    have := hok (k + 1) t' (by simpa using hk)
    simpa using this
/-- The leader of a field is that of one of two parts. -/
theorem hi_ldr {la lb : List Pt} (hv : Val l) (ha : Val la) (hb : Val lb) (na : la ≠ []) (nb : lb ≠ []) (sa : ∀ q ∈ la, q ∈ l) (sb : ∀ q ∈ lb, q ∈ l) (cov : ∀ q ∈ l, q ∈ la ∨ q ∈ lb) (a b : Int) :
    ldr l a b = if ld a b (ldr lb a b) (ldr la a b) = true then ldr lb a b else ldr la a b := by
  have mA := ldr_mem ha a b na
  have mB := ldr_mem hb a b nb
  by_cases h : ld a b (ldr lb a b) (ldr la a b) = true
  · rw [if_pos h]
    refine ldr_of hv (sb _ mB) fun q hq => ?_
    rcases cov q hq with hq | hq
    · cases hc : ld a b q (ldr lb a b) with
      | false => rfl
      | true => have := ld_trans hc h; rw [ldr_top ha hq] at this; cases this
    · exact ldr_top hb hq
  · rw [if_neg h]
    have h' : ld a b (ldr lb a b) (ldr la a b) = false := by simpa using h
    refine ldr_of hv (sa _ mA) fun q hq => ?_
    rcases cov q hq with hq | hq
    · exact ldr_top ha hq
    · exact ld_ntrans (ldr_top hb hq) h'
/-- Between two changes of a crest its leader stays. -/
theorem ldr_stay {la : List Pt} (ha : Val la) (na : la ≠ []) {n d : Int} (h0 : Tm n d) {t : Rn} (ht : Tm t.n t.d) (hnt : n * t.d ≤ t.n * d) {a b : Int} (hab : Tm a b) (hle : t.n * b ≤ a * t.d)
    (hno : ∀ y ∈ crest la n d, y.n * t.d ≤ t.n * y.d ∨ a * y.d < y.n * b) : ldr la a b = ldr la t.n t.d := by
  have t0 := okB_den ht.ok
  have b0 := okB_den hab.ok
  have d0 := okB_den h0.ok
  have vc := crest_vc ha na h0
  obtain ⟨k, y, hk⟩ := at_ex vc (tn := t.n) (td := t.d) (by omega) (crest_zero ha na h0) (by
    have : ¬ cv (Ld.mk n d (ldr la n d).id) t.n t.d > 0 := by rw [cv_pos]; show ¬ t.n * d < n * t.d; omega
    omega)
  have hden : ∀ z ∈ crest la n d, 1 ≤ z.d := fun z hz => by have := vc.den hz; omega
  have hk2 : AtK (crest la n d) a b k y := by
    have y0 := hden y (List.mem_of_getElem? hk.get)
    refine ⟨hk.get, ?_, fun i z hi hz => ?_, fun i z hi hz => ?_⟩
    · have h1 : ¬ cv y t.n t.d > 0 := by have := hk.le; omega
      rw [cv_pos] at h1
      have h2 : ¬ cv y a b > 0 := fun hg => by
        rw [cv_pos] at hg
        have := frac_lt_le (an := a) (ad := b) (bn := y.n) (bd := y.d) (cn := t.n) (cd := t.d) (by omega) (by omega) (by omega) hg (by omega)
        omega
      omega
    · have h1 := hk.lo i z hi hz
      have z0 := hden z (List.mem_of_getElem? hz)
      rw [cv_neg] at *
      exact frac_lt_le (by omega) (by omega) (by omega) h1 hle
    · have h1 := hk.hi i z hi hz
      rw [cv_pos] at *
      rcases hno z (List.mem_of_getElem? hz) with g | g
      · omega
      · exact g
  obtain ⟨q, c1, e1⟩ := at_leads ha na h0 ht hk
  obtain ⟨q', c2, e2⟩ := at_leads ha na h0 hab hk2
  rw [e1, e2]
  exact val_id ha c2.base.mem c1.base.mem (by rw [c2.base.id, c1.base.id])
end
end Go.Proofs.Ytoheadpehomdjaa

namespace Go.Proofs.Ytoheadpehomdjaa
open Go.RowKit
theorem cmpA_keep : ∀ {r : List Rn} {y m : Rn}, m ∈ r → m = y ∨ m ∈ cmpA y r
  | [], _, _, h => by cases h
  | x :: r, y, m, h => by
    unfold cmpA
    by_cases hs : sameR x y = true
    · rw [if_pos hs]
      have e := sameR_eq.1 hs
      rcases List.mem_cons.1 h with h | h
      · exact Or.inl (h.trans e)
      · rcases cmpA_keep (y := x) h with g | g
        · exact Or.inl (g.trans e)
        · exact Or.inr g
    · rw [if_neg hs]
      rcases List.mem_cons.1 h with h | h
      · exact Or.inr (by rw [h]; exact List.mem_cons_self)
      · rcases cmpA_keep (y := x) h with g | g
        · exact Or.inr (by rw [g]; exact List.mem_cons_self)
        · exact Or.inr (List.mem_cons_of_mem _ g)
abbrev ltR (a b : Rn) : Prop := a.n * b.d < b.n * a.d
theorem ltR_of {a b : Rn} (ha : RnOk a) (hb : RnOk b) (h : 0 ≤ ordR b a) (hne : ¬ a = b) : ltR a b := by
  have h1 := ordR_ge.1 h
  have h2 : ¬ a.n * b.d = b.n * a.d := fun e => hne (by
    obtain ⟨e1, e2⟩ := okB_one ha.ok hb.ok e
    cases a; cases b
    simp only at e1 e2
    rw [e1, e2])
  show a.n * b.d < b.n * a.d
  omega
theorem cmpA_lt : ∀ {r : List Rn} {y : Rn}, (∀ m ∈ y :: r, RnOk m) → (y :: r).Pairwise (fun a b => 0 ≤ ordR b a) → (y :: cmpA y r).Pairwise ltR
  | [], y, _, _ => by simp [cmpA]
  | x :: r, y, hok, hs => by
    have h1 := List.pairwise_cons.1 hs
    have ih := cmpA_lt (r := r) (y := x) (fun m hm => hok m (List.mem_cons_of_mem _ hm)) h1.2
    unfold cmpA
    by_cases he : sameR x y = true
    · rw [if_pos he, ← sameR_eq.1 he]
      exact ih
    · rw [if_neg he]
      have ox := hok x (by simp)
      have oy := hok y (by simp)
      have hyx : ltR y x := ltR_of oy ox (h1.1 x (by simp)) fun e => he (sameR_eq.2 e.symm)
      refine List.pairwise_cons.2 ⟨fun b hb => ?_, ih⟩
      rcases List.mem_cons.1 hb with rfl | hb
      · exact hyx
      · have h2 := (List.pairwise_cons.1 ih).1 b hb
        have ob := hok b (List.mem_cons_of_mem _ (List.mem_cons_of_mem _ (cmpA_mem hb)))
        have y0 := okB_den oy.ok
        have x0 := okB_den ox.ok
        have b0 := okB_den ob.ok
        exact frac_lt (by omega) (by omega) (by omega) hyx h2
/-- In a list in order: what is in it is not behind one of it, or not before the next one. -/
theorem pw_split {U : List Rn} (h : U.Pairwise ltR) {k : Nat} {t v : Rn} (hk : U[k]? = some t) (hv : v ∈ U) : v.n * t.d ≤ t.n * v.d ∨ ∃ u, U[k + 1]? = some u ∧ u.n * v.d ≤ v.n * u.d := by
  obtain ⟨j, hj⟩ := List.getElem?_of_mem hv
  have hjl := get_lt hj
  have hkl := get_lt hk
  have pw := List.pairwise_iff_getElem.1 h
  have ej : U[j] = v := by rw [List.getElem?_eq_getElem hjl] at hj; exact Option.some.inj hj
  have ek : U[k] = t := by rw [List.getElem?_eq_getElem hkl] at hk; exact Option.some.inj hk
  rcases Nat.lt_trichotomy j k with g | g | g
  · have := pw j k hjl hkl g
    rw [ej, ek] at this
    exact Or.inl (Int.le_of_lt this)
  · subst g
    rw [ej] at ek
    subst ek
    exact Or.inl (Int.le_refl _)
  · have hk1 : k + 1 < U.length := by omega
    refine Or.inr ⟨U[k + 1], List.getElem?_eq_getElem hk1, ?_⟩
    rcases Nat.lt_or_ge (k + 1) j with g2 | g2
    · have := pw (k + 1) j hk1 hjl g2
      rw [ej] at this
      exact Int.le_of_lt this
    · have e : j = k + 1 := by omega
      subst e
      rw [ej]
      exact Int.le_refl _
section
variable {l la lb : List Pt}
theorem okT_parts (hv : Val l) (ha : Val la) (hb : Val lb) (na : la ≠ []) (nb : lb ≠ []) (sa : ∀ q ∈ la, q ∈ l) (sb : ∀ q ∈ lb, q ∈ l) (cov : ∀ q ∈ l, q ∈ la ∨ q ∈ lb) {n d : Int} (h0 : Tm n d) {U : List Rn} (hU : U.Pairwise ltR) (hok : ∀ m ∈ U, RnOk m) (hge : ∀ m ∈ U, n * m.d ≤ m.n * d)
    (ca : ∀ y ∈ crest la n d, frm y ∈ U) (cb : ∀ y ∈ crest lb n d, frm y ∈ U) {k : Nat} {t : Rn} (hk : U[k]? = some t) : OkT l (fun t => ldr la t.n t.d) (fun t => ldr lb t.n t.d) t U[k + 1]? := by
  have ht := List.mem_of_getElem? hk
  have ot := hok t ht
  have tt : Tm t.n t.d := ⟨ot.n, ot.d, ot.ok⟩
  have t0 := okB_den ot.ok
  have hi := hi_ldr hv ha hb na nb sa sb cov t.n t.d
  have stay : ∀ (a b : Int), Tm a b → t.n * b ≤ a * t.d → Bf a b U[k + 1]? → ∀ {C : List Ld}, (∀ y ∈ C, frm y ∈ U) → ∀ y ∈ C, y.n * t.d ≤ t.n * y.d ∨ a * y.d < y.n * b := by
    intro a b hab hle hbf C hC y hy
    have b0 := okB_den hab.ok
    have oy := hok _ (hC y hy)
    have y0 := okB_den oy.ok
    rcases pw_split hU hk (hC y hy) with g | ⟨u, hu, g⟩
    · exact Or.inl g
    · rw [hu] at hbf
      have u0 := okB_den (hok u (List.mem_of_getElem? hu)).ok
      have y0' : 1 ≤ y.d := y0
      have g' : u.n * y.d ≤ y.n * u.d := g
      exact Or.inr (frac_lt_le (by omega) (by omega) (by omega) (show a * u.d < u.n * b from hbf) g')
  refine ⟨tt, fun u hu => ?_, ?_, ?_, ?_, fun a b hab hle hbf => ?_⟩
  · have ou := hok u (List.mem_of_getElem? hu)
    refine ⟨⟨ou.n, ou.d, ou.ok⟩, ?_⟩
    have hkl := get_lt hk
    have hul := get_lt hu
    have := List.pairwise_iff_getElem.1 hU k (k + 1) hkl hul (by omega)
    rw [List.getElem?_eq_getElem hkl] at hk
    rw [List.getElem?_eq_getElem hul] at hu
    rw [Option.some.inj hk, Option.some.inj hu] at this
    exact this
  · exact hi
  · unfold loP
    split
    · exact sa _ (ldr_mem ha _ _ na)
    · exact sb _ (ldr_mem hb _ _ nb)
  · unfold loP hiP
    by_cases h : ld t.n t.d (ldr lb t.n t.d) (ldr la t.n t.d) = true
    · rw [if_pos h, if_pos h]; exact ld_asym h
    · rw [if_neg h, if_neg h]; simpa using h
  · have h1 := hi_ldr hv ha hb na nb sa sb cov a b
    rw [ldr_stay ha na h0 tt (hge t ht) hab hle (stay a b hab hle hbf ca), ldr_stay hb nb h0 tt (hge t ht) hab hle (stay a b hab hle hbf cb)] at h1
    rw [h1]
    unfold loP hiP
    by_cases h : ld t.n t.d (ldr lb t.n t.d) (ldr la t.n t.d) = true
    · rw [if_pos h, if_pos h]
      by_cases he : ldr la t.n t.d = ldr lb t.n t.d
      · rw [he]
      · have hid : ¬ (ldr la t.n t.d).id = (ldr lb t.n t.d).id := fun e => he (val_id hv (sa _ (ldr_mem ha _ _ na)) (sb _ (ldr_mem hb _ _ nb)) e)
        by_cases g : ld a b (ldr lb t.n t.d) (ldr la t.n t.d) = true
        · rw [if_pos g, if_neg (by rw [ld_asym g]; decide)]
        · rw [if_neg g, if_pos (ld_tot (fun e => hid e.symm) (by simpa using g))]
    · rw [if_neg h, if_neg h]
end
end Go.Proofs.Ytoheadpehomdjaa

namespace Go.Proofs.Ytoheadpehomdjaa
open Go.RowKit
/-- A list of fractions can be put in order. -/
theorem sortR_ex {R : List Rn} (hR : ∀ m ∈ R, RnOk m) : ∃ rs : List Rn, rs.Perm R ∧ rs.Pairwise (fun a b => 0 ≤ ordR b a) := by
  have hp := List.mergeSort_perm (R.attachWith RnOk hR) (fun a b => decide (0 ≤ ordR b.1 a.1))
  refine ⟨((R.attachWith RnOk hR).mergeSort (fun a b => decide (0 ≤ ordR b.1 a.1))).map (·.1), ?_, ?_⟩
  · have := hp.map (·.1)
    rwa [show (R.attachWith RnOk hR).map (·.1) = R by simp] at this
  · have h := List.pairwise_mergeSort (le := fun a b : { x // RnOk x } => decide (0 ≤ ordR b.1 a.1)) (fun a b c h1 h2 => ?_) (fun a b => ?_) (R.attachWith RnOk hR)
    · rw [List.pairwise_map]
      exact h.imp fun {a b} g => by simpa using g
    · have g1 : 0 ≤ ordR b.1 a.1 := by simpa using h1
      have g2 : 0 ≤ ordR c.1 b.1 := by simpa using h2
      simpa using ordR_tr c.2 b.2 a.2 g2 g1
    · have := ordR_neg a.1 b.1
      by_cases g : 0 ≤ ordR b.1 a.1
      · simp [g]
      · have : 0 ≤ ordR a.1 b.1 := by omega
        simp [this]
section
variable {l : List Pt}
theorem crest_rn (hv : Val l) (hne : l ≠ []) {n d : Int} (h0 : Tm n d) : ∀ x ∈ crest l n d, RnOk (frm x) := fun x hx =>
  ⟨(crest_i64 hv hne h0 x hx).n, (crest_i64 hv hne h0 x hx).d, (crest_vc hv hne h0).tm hx⟩
theorem crest_ge (hv : Val l) (hne : l ≠ []) {n d : Int} (h0 : Tm n d) : ∀ x ∈ crest l n d, n * x.d ≤ x.n * d := by
  intro x hx
  obtain ⟨k, hk⟩ := List.getElem?_of_mem hx
  have h := crest_zero hv hne h0
  cases k with
  | zero => rw [h] at hk; cases hk; exact Int.le_refl _
  | succ k =>
    have := (crest_vc hv hne h0).mono h k (by rw [Nat.zero_add]; exact hk)
    exact Int.le_of_lt this
/-- Who leads a part's crest. -/
theorem crest_ldAt {l' : List Pt} (hv : Val l) (hne : l ≠ []) (sub : ∀ q ∈ l, q ∈ l') {n d : Int} (h0 : Tm n d) {t : Rn} (ht : Tm t.n t.d) (hge : n * t.d ≤ t.n * d) : LdAt l' (crest l n d) t (ldr l t.n t.d) := by
  have vc := crest_vc hv hne h0
  have t0 := okB_den ht.ok
  obtain ⟨k, y, hk⟩ := at_ex vc (tn := t.n) (td := t.d) (by omega) (crest_zero hv hne h0) (by
    have : ¬ cv (Ld.mk n d (ldr l n d).id) t.n t.d > 0 := by rw [cv_pos]; show ¬ t.n * d < n * t.d; omega
    omega)
  obtain ⟨q, c, e⟩ := at_leads hv hne h0 ht hk
  have r := LA_ok (by have := vc.len; omega) (crest_i64 hv hne h0) (fun x hx => vc.tm hx) ht hk
  rw [e]
  rw [← c.base.id] at r
  exact ⟨r, sub _ c.base.mem⟩
theorem Mgd_parts {la lb : List Pt} (hv : Val l) (ha : Val la) (hb : Val lb) (na : la ≠ []) (nb : lb ≠ []) (sa : ∀ q ∈ la, q ∈ l) (sb : ∀ q ∈ lb, q ∈ l) (cov : ∀ q ∈ l, q ∈ la ∨ q ∈ lb) {n d : Int} (h0 : Tm n d) :
    FnL Try.prog 24 3 [fldS 0 l, .ls 1 (crest la n d).length, .ls 2 (crest lb n d).length] [(0, 0, rowP l), (1, 0, rowL (crest la n d)), (2, 0, rowL (crest lb n d))] (.ls 3 (crest l n d).length) 1 [(3, 0, rowL (crest l n d))] := by
  have hne : l ≠ [] := fun e => by
    cases la with
    | nil => exact na rfl
    | cons q r => have := sa q List.mem_cons_self; rw [e] at this; cases this
  have ra := crest_rn ha na h0
  have rb := crest_rn hb nb h0
  have ga := crest_ge ha na h0
  have gb := crest_ge hb nb h0
  have va := (crest_vc ha na h0).len
  have vb := (crest_vc hb nb h0).len
  obtain ⟨ta, a1, _, _⟩ := crest_spec ha na h0
  obtain ⟨tb, b1, _, _⟩ := crest_spec hb nb h0
  have hok : ∀ x ∈ crest la n d ++ crest lb n d, RnOk (frm x) := fun x hx => (List.mem_append.1 hx).elim (ra x) (rb x)
  have hgeq : ∀ x ∈ crest la n d ++ crest lb n d, n * (frm x).d ≤ (frm x).n * d := fun x hx => (List.mem_append.1 hx).elim (ga x) (gb x)
  have hR : ∀ m ∈ (ta ++ tb).map frm, RnOk m ∧ n * m.d ≤ m.n * d := by
    intro m hm
    obtain ⟨x, hx, rfl⟩ := List.mem_map.1 hm
    have hx' : x ∈ crest la n d ++ crest lb n d := by
      rw [a1, b1]
      rcases List.mem_append.1 hx with h | h
      · exact List.mem_append_left _ (List.mem_cons_of_mem _ h)
      · exact List.mem_append_right _ (List.mem_cons_of_mem _ h)
    exact ⟨hok x hx', hgeq x hx'⟩
  obtain ⟨rs, p1, p2⟩ := sortR_ex fun m hm => (hR m hm).1
  have hp : (Rn.mk n d :: Rn.mk n d :: rs).Perm ((crest la n d ++ crest lb n d).map frm) := by
    rw [a1, b1, List.map_append, List.map_cons, List.map_cons]
    show (Rn.mk n d :: Rn.mk n d :: rs).Perm (Rn.mk n d :: (ta.map frm ++ Rn.mk n d :: tb.map frm))
    refine List.Perm.cons _ ?_
    refine (List.Perm.cons _ p1).trans ?_
    rw [List.map_append]
    exact List.perm_middle.symm
  have y0 : RnOk (Rn.mk n d) := ⟨h0.hn, h0.hd, h0.ok⟩
  have hle : ∀ m ∈ rs, 0 ≤ ordR m ⟨n, d⟩ := fun m hm => by
    rw [ordR_ge]
    have := (hR m (p1.mem_iff.1 hm)).2
    show m.n * d - n * m.d ≥ 0
    omega
  have hyy : 0 ≤ ordR (Rn.mk n d) ⟨n, d⟩ := by rw [ordR_ge]; show n * d - n * d ≥ 0; omega
  have hs1 : (Rn.mk n d :: rs).Pairwise (fun a b => 0 ≤ ordR b a) := List.pairwise_cons.2 ⟨fun m hm => hle m hm, p2⟩
  have hs : (Rn.mk n d :: Rn.mk n d :: rs).Pairwise (fun a b => 0 ≤ ordR b a) := List.pairwise_cons.2 ⟨fun m hm => by
    rcases List.mem_cons.1 hm with rfl | hm
    · exact hyy
    · exact hle m hm, hs1⟩
  have hokU : ∀ m ∈ Rn.mk n d :: rs, RnOk m := fun m hm => by
    rcases List.mem_cons.1 hm with rfl | hm
    · exact y0
    · exact (hR m (p1.mem_iff.1 hm)).1
  have hU := cmpA_lt hokU hs1
  have sub : ∀ m ∈ Rn.mk n d :: cmpA ⟨n, d⟩ rs, m ∈ Rn.mk n d :: rs := fun m hm => by
    rcases List.mem_cons.1 hm with rfl | hm
    · exact List.mem_cons_self
    · exact List.mem_cons_of_mem _ (cmpA_mem hm)
  have hgeU : ∀ m ∈ Rn.mk n d :: cmpA ⟨n, d⟩ rs, n * m.d ≤ m.n * d := fun m hm => by
    rcases List.mem_cons.1 (sub m hm) with rfl | hm
    · exact Int.le_refl _
    · exact (hR m (p1.mem_iff.1 hm)).2
  have hin : ∀ x ∈ crest la n d ++ crest lb n d, frm x ∈ Rn.mk n d :: cmpA ⟨n, d⟩ rs := fun x hx => by
    have h1 := hp.mem_iff.2 (List.mem_map.2 ⟨x, hx, rfl⟩)
    rcases List.mem_cons.1 h1 with h1 | h1
    · rw [h1]; exact List.mem_cons_self
    · rcases List.mem_cons.1 h1 with h1 | h1
      · rw [h1]; exact List.mem_cons_self
      · rcases cmpA_keep (y := ⟨n, d⟩) h1 with h1 | h1
        · rw [h1]; exact List.mem_cons_self
        · exact List.mem_cons_of_mem _ h1
  have tmU : ∀ m ∈ Rn.mk n d :: cmpA ⟨n, d⟩ rs, Tm m.n m.d := fun m hm => ⟨(hokU m (sub m hm)).n, (hokU m (sub m hm)).d, (hokU m (sub m hm)).ok⟩
  have h := Mgd_ok hv (A := fun t => ldr la t.n t.d) (B := fun t => ldr lb t.n t.d) hok (by rw [List.length_append]; omega) hp hs
    (fun t ht => crest_ldAt ha na sa h0 (tmU t ht) (hgeU t ht)) (fun t ht => crest_ldAt hb nb sb h0 (tmU t ht) (hgeU t ht))
  rw [mrun_start hv hne h0 fun k t hk => okT_parts hv ha hb na nb sa sb cov h0 hU (fun m hm => hokU m (sub m hm)) hgeU (fun y hy => hin y (List.mem_append_left _ hy)) (fun y hy => hin y (List.mem_append_right _ hy)) hk] at h
  exact h
end
end Go.Proofs.Ytoheadpehomdjaa

namespace Go.Proofs.Ytoheadpehomdjaa
open Go.RowKit
theorem ptsV_app : ∀ (a b : List Pt), ptsV (a ++ b) = ptsV a ++ ptsV b
  | [], _ => rfl
  | p :: r, b => by simp [ptsV, ptsV_app r b]
theorem snocq_lsS (b : Nat) (l : List Pt) (m : Pt) : some (SV.ls b (l.length + 1)) = some (SV.ls b (l ++ [m]).length) := by rw [List.length_append]; rfl
theorem snocq_row (l : List Pt) (m : Pt) : some (SV.row 41 3 (l.length + 1) (ptsV l ++ [.int .i64 m.id, .int .i64 m.a, .int .i64 m.b])) = some (rowP (l ++ [m])) := by
  rw [rowP, ptsV_app, List.length_append]; rfl
set_option maxRecDepth 100000 in
theorem am_next {is : List Int} {k : Nat} {xx yy : Int} (hk : is[k]? = some yy) (hin : 0 ≤ (k : Int) ∧ (k : Int) < (is.length : Int)) (hlt : decide ((k : Int) < (is.length : Int)) = true) (hy : (yy == xx) = false) (hs : Value.int .i64 (IntKind.i64.wrap ((k : Int) + 1)) = .int .i64 (((k + 1 : Nat) : Int))) {e : Exit} {tm2 : List (Nat × SV)} {hp2 : List (Nat × Nat × SV)}
    (r : RunsL Try.prog 1 1 (loopOf Try.prog 15 0) 18 1 ([(0, .ls 0 is.length), (1, .pv (.int .i64 xx)), (5, .pv (.int .i64 ((k + 1 : Nat) : Int)))]) ([(0, 0, rowI is)]) e tm2 hp2) : RunsL Try.prog 1 1 (loopOf Try.prog 15 0) 18 1 ([(0, .ls 0 is.length), (1, .pv (.int .i64 xx)), (5, .pv (.int .i64 (k : Int)))]) ([(0, 0, rowI is)]) e tm2 hp2 :=
  RunsL.next [] 300 [.t true, .r (.int .i64 yy), .t false, .r (.int .i64 (((k + 1 : Nat) : Int)))]
    (round_of (And.intro hlt (And.intro hin (And.intro (ra_int hk) (And.intro hy (And.intro hs True.intro))))) (by kernel_rfl)) r

set_option maxRecDepth 100000 in
theorem am_hit {is : List Int} {k : Nat} {xx yy : Int} (hk : is[k]? = some yy) (hin : 0 ≤ (k : Int) ∧ (k : Int) < (is.length : Int)) (hlt : decide ((k : Int) < (is.length : Int)) = true) (hy : (yy == xx) = true) : RunsL Try.prog 1 1 (loopOf Try.prog 15 0) 18 1 ([(0, .ls 0 is.length), (1, .pv (.int .i64 xx)), (5, .pv (.int .i64 (k : Int)))]) ([(0, 0, rowI is)]) (.ret) ([(4, .pv (.bool true))]) ([]) :=
  RunsL.stop [] 300 [.t true, .r (.int .i64 yy), .t true] (fun h => by cases h)
    (round_of (And.intro hlt (And.intro hin (And.intro (ra_int hk) (And.intro hy True.intro)))) (by kernel_rfl))

set_option maxRecDepth 100000 in
theorem am_end {is : List Int} {k : Nat} {xx : Int} (hge : decide ((k : Int) < (is.length : Int)) = false) : RunsL Try.prog 1 1 (loopOf Try.prog 15 0) 18 1 ([(0, .ls 0 is.length), (1, .pv (.int .i64 xx)), (5, .pv (.int .i64 (k : Int)))]) ([(0, 0, rowI is)]) (.exit 0) ([]) ([]) :=
  RunsL.stop [] 300 [.t false] (fun h => by cases h)
    (round_of (And.intro hge True.intro) (by kernel_rfl))

set_option maxRecDepth 100000 in
theorem am_yes {is : List Int} {xx : Int} (r0 : RunsL Try.prog 1 1 (loopOf Try.prog 15 0) 18 1 ([(0, .ls 0 is.length), (1, .pv (.int .i64 xx)), (5, .pv (.int .i64 ((0 : Nat) : Int)))]) ([(0, 0, rowI is)]) (.ret) ([(4, .pv (.bool true))]) ([])) :
    FnL Try.prog 15 1 [.ls 0 is.length, .pv (.int .i64 (xx))] [(0, 0, rowI is)] (.pv (.bool true)) 0 [] :=
  fnl_run 300 [] [.l (.ret) ([(0, .ls 0 is.length), (1, .pv (.int .i64 xx)), (5, .pv (.int .i64 ((0 : Nat) : Int)))]) ([(0, 0, rowI is)]) ([(4, .pv (.bool true))]) ([])]
     True.intro (And.intro (reflT (renN []) ([(0, .ls 0 is.length), (1, .pv (.int .i64 xx)), (5, .pv (.int .i64 ((0 : Nat) : Int)))])) (And.intro (reflH (renN []) ([(0, 0, rowI is)])) (And.intro r0 True.intro))) (by kernel_rfl)

set_option maxRecDepth 100000 in
theorem am_no {is : List Int} {xx : Int} (r0 : RunsL Try.prog 1 1 (loopOf Try.prog 15 0) 18 1 ([(0, .ls 0 is.length), (1, .pv (.int .i64 xx)), (5, .pv (.int .i64 ((0 : Nat) : Int)))]) ([(0, 0, rowI is)]) (.exit 0) ([]) ([])) :
    FnL Try.prog 15 1 [.ls 0 is.length, .pv (.int .i64 (xx))] [(0, 0, rowI is)] (.pv (.bool false)) 0 [] :=
  fnl_run 300 [] [.l (.exit 0) ([(0, .ls 0 is.length), (1, .pv (.int .i64 xx)), (5, .pv (.int .i64 ((0 : Nat) : Int)))]) ([(0, 0, rowI is)]) ([]) ([])]
     True.intro (And.intro (reflT (renN []) ([(0, .ls 0 is.length), (1, .pv (.int .i64 xx)), (5, .pv (.int .i64 ((0 : Nat) : Int)))])) (And.intro (reflH (renN []) ([(0, 0, rowI is)])) (And.intro r0 True.intro))) (by kernel_rfl)

set_option maxRecDepth 100000 in
theorem pt_no {l : List Pt} {i1 i2 : List Int} {fn fd : Int} (hf : FnL Try.prog 14 1 [fldS 0 l, .pv (ratioV fn fd)] [(0, 0, rowP l)] (.pv (.bool false)) 0 []) (hal : FnL Try.prog 13 0 [] [] (.pv (.bool true)) 0 []) :
    FnL Try.prog 4 3 [fldS 0 l, .pv (ratioV fn fd), .ls 1 i1.length, .ls 2 i2.length] [(0, 0, rowP l), (1, 0, rowI i1), (2, 0, rowI i2)] (.pv (.bool true)) 0 [] :=
  fnl_run 300 [] [.f [0] [fldS 0 l, .pv (ratioV fn fd)] [(0, 0, rowP l)] (.pv (.bool false)) 0 [], .k, .f [] [] [] (.pv (.bool true)) 0 []]
     True.intro (And.intro hf (And.intro (Eq.refl (List.map (SV.ren (renU [0] 5)) [fldS 0 l, .pv (ratioV fn fd)])) (And.intro (reflH (renU [0] 5) [(0, 0, rowP l)]) (And.intro hal (And.intro (Eq.refl (List.map (SV.ren (renU [] 5)) [])) (And.intro (reflH (renU [] 5) []) True.intro)))))) (by kernel_rfl)

set_option maxRecDepth 100000 in
theorem pt_l1 {l : List Pt} {i1 i2 : List Int} {fn fd : Int} (hf : FnL Try.prog 14 1 [fldS 0 l, .pv (ratioV fn fd)] [(0, 0, rowP l)] (.pv (.bool true)) 0 []) (h1 : decide ((i1.length : Int) > 16) = true) (hal : FnL Try.prog 13 0 [] [] (.pv (.bool true)) 0 []) :
    FnL Try.prog 4 3 [fldS 0 l, .pv (ratioV fn fd), .ls 1 i1.length, .ls 2 i2.length] [(0, 0, rowP l), (1, 0, rowI i1), (2, 0, rowI i2)] (.pv (.bool true)) 0 [] :=
  fnl_run 300 [] [.f [0] [fldS 0 l, .pv (ratioV fn fd)] [(0, 0, rowP l)] (.pv (.bool true)) 0 [], .k, .t true, .f [] [] [] (.pv (.bool true)) 0 []]
     True.intro (And.intro hf (And.intro (Eq.refl (List.map (SV.ren (renU [0] 5)) [fldS 0 l, .pv (ratioV fn fd)])) (And.intro (reflH (renU [0] 5) [(0, 0, rowP l)]) (And.intro h1 (And.intro hal (And.intro (Eq.refl (List.map (SV.ren (renU [] 5)) [])) (And.intro (reflH (renU [] 5) []) True.intro))))))) (by kernel_rfl)

set_option maxRecDepth 100000 in
theorem pt_l2 {l : List Pt} {i1 i2 : List Int} {fn fd : Int} (hf : FnL Try.prog 14 1 [fldS 0 l, .pv (ratioV fn fd)] [(0, 0, rowP l)] (.pv (.bool true)) 0 []) (h1 : decide ((i1.length : Int) > 16) = false) (h2 : decide ((i2.length : Int) > 16) = true) (hal : FnL Try.prog 13 0 [] [] (.pv (.bool true)) 0 []) :
    FnL Try.prog 4 3 [fldS 0 l, .pv (ratioV fn fd), .ls 1 i1.length, .ls 2 i2.length] [(0, 0, rowP l), (1, 0, rowI i1), (2, 0, rowI i2)] (.pv (.bool true)) 0 [] :=
  fnl_run 300 [] [.f [0] [fldS 0 l, .pv (ratioV fn fd)] [(0, 0, rowP l)] (.pv (.bool true)) 0 [], .k, .t false, .t true, .f [] [] [] (.pv (.bool true)) 0 []]
     True.intro (And.intro hf (And.intro (Eq.refl (List.map (SV.ren (renU [0] 5)) [fldS 0 l, .pv (ratioV fn fd)])) (And.intro (reflH (renU [0] 5) [(0, 0, rowP l)]) (And.intro h1 (And.intro h2 (And.intro hal (And.intro (Eq.refl (List.map (SV.ren (renU [] 5)) [])) (And.intro (reflH (renU [] 5) []) True.intro)))))))) (by kernel_rfl)

set_option maxRecDepth 100000 in
theorem pt_ff {l la lb : List Pt} {i1 i2 : List Int} {k : Nat} {fn fd : Int} (hlt : decide ((k : Int) < (l.length : Int)) = true) (ha : FnL Try.prog 15 1 [.ls 0 i1.length, .pv (.int .i64 ((k : Int)))] [(0, 0, rowI i1)] (.pv (.bool false)) 0 []) (hb : FnL Try.prog 15 1 [.ls 0 i2.length, .pv (.int .i64 ((k : Int)))] [(0, 0, rowI i2)] (.pv (.bool false)) 0 []) (hal : FnL Try.prog 13 0 [] [] (.pv (.bool true)) 0 []) : RunsL Try.prog 3 3 (loopOf Try.prog 4 0) 155 9 ([(2, .ls 1 i1.length), (3, .ls 2 i2.length), (4, .pp 3 0), (5, .pp 4 0), (9, .pp 5 0), (10, .pp 6 0), (11, .pv (.int .i64 (k : Int)))]) ([(3, 0, .ls 0 l.length), (4, 0, .pv (.int .i64 fn)), (4, 1, .pv (.int .i64 fd)), (5, 0, .ls 7 (la).length), (6, 0, .ls 8 (lb).length), (0, 0, rowP l), (1, 0, rowI i1), (2, 0, rowI i2), (7, 0, rowP (la)), (8, 0, rowP (lb))]) (.ret) ([(8, .pv (.bool true))]) ([]) :=
  RunsL.stop [] 300 [.t true, .f [1] [.ls 0 i1.length, .pv (.int .i64 ((k : Int)))] [(0, 0, rowI i1)] (.pv (.bool false)) 0 [], .f [2] [.ls 0 i2.length, .pv (.int .i64 ((k : Int)))] [(0, 0, rowI i2)] (.pv (.bool false)) 0 [], .k, .k, .f [] [] [] (.pv (.bool true)) 0 []] (fun h => by cases h)
    (round_of (And.intro hlt (And.intro ha (And.intro (Eq.refl (List.map (SV.ren (renU [1] 9)) [.ls 0 i1.length, .pv (.int .i64 ((k : Int)))])) (And.intro (reflH (renU [1] 9) [(0, 0, rowI i1)]) (And.intro hb (And.intro (Eq.refl (List.map (SV.ren (renU [2] 9)) [.ls 0 i2.length, .pv (.int .i64 ((k : Int)))])) (And.intro (reflH (renU [2] 9) [(0, 0, rowI i2)]) (And.intro hal (And.intro (Eq.refl (List.map (SV.ren (renU [] 9)) [])) (And.intro (reflH (renU [] 9) []) True.intro)))))))))) (by kernel_rfl))

set_option maxRecDepth 100000 in
theorem pt_tf {l la lb : List Pt} {i1 i2 : List Int} {pA : Pt} {k : Nat} {fn fd : Int} (hlt : decide ((k : Int) < (l.length : Int)) = true) (ha : FnL Try.prog 15 1 [.ls 0 i1.length, .pv (.int .i64 ((k : Int)))] [(0, 0, rowI i1)] (.pv (.bool true)) 0 []) (hb : FnL Try.prog 15 1 [.ls 0 i2.length, .pv (.int .i64 ((k : Int)))] [(0, 0, rowI i2)] (.pv (.bool false)) 0 []) (hk : l[k]? = some pA) (hin : 0 ≤ (k : Int) ∧ (k : Int) < (l.length : Int)) (hla : la.length + 1 ≤ 1000000) (hs : Value.int .i64 (IntKind.i64.wrap ((k : Int) + 1)) = .int .i64 (((k + 1 : Nat) : Int))) {e : Exit} {tm2 : List (Nat × SV)} {hp2 : List (Nat × Nat × SV)}
    (r : RunsL Try.prog 3 3 (loopOf Try.prog 4 0) 155 9 ([(2, .ls 1 i1.length), (3, .ls 2 i2.length), (4, .pp 3 0), (5, .pp 4 0), (9, .pp 5 0), (10, .pp 6 0), (11, .pv (.int .i64 ((k + 1 : Nat) : Int)))]) ([(3, 0, .ls 0 l.length), (4, 0, .pv (.int .i64 fn)), (4, 1, .pv (.int .i64 fd)), (5, 0, .ls 7 (la ++ [pA]).length), (6, 0, .ls 8 (lb).length), (0, 0, rowP l), (1, 0, rowI i1), (2, 0, rowI i2), (7, 0, rowP (la ++ [pA])), (8, 0, rowP (lb))]) e tm2 hp2) : RunsL Try.prog 3 3 (loopOf Try.prog 4 0) 155 9 ([(2, .ls 1 i1.length), (3, .ls 2 i2.length), (4, .pp 3 0), (5, .pp 4 0), (9, .pp 5 0), (10, .pp 6 0), (11, .pv (.int .i64 (k : Int)))]) ([(3, 0, .ls 0 l.length), (4, 0, .pv (.int .i64 fn)), (4, 1, .pv (.int .i64 fd)), (5, 0, .ls 7 (la).length), (6, 0, .ls 8 (lb).length), (0, 0, rowP l), (1, 0, rowI i1), (2, 0, rowI i2), (7, 0, rowP (la)), (8, 0, rowP (lb))]) e tm2 hp2 :=
  RunsL.next [(7, 10)] 300 [.t true, .f [1] [.ls 0 i1.length, .pv (.int .i64 ((k : Int)))] [(0, 0, rowI i1)] (.pv (.bool true)) 0 [], .f [2] [.ls 0 i2.length, .pv (.int .i64 ((k : Int)))] [(0, 0, rowI i2)] (.pv (.bool false)) 0 [], .k, .md, .r (ptV pA), .r (.int .i64 (((k + 1 : Nat) : Int)))]
    (round_ofH (And.intro (Eq.refl (some (SV.ls 0 l.length))) (And.intro (Eq.refl (some (SV.pv (.int .i64 fn)))) (And.intro (Eq.refl (some (SV.pv (.int .i64 fd)))) (And.intro (snocq_lsS 10 la pA) (And.intro (Eq.refl (some (SV.ls 8 lb.length))) (And.intro (Eq.refl (some (rowP l))) (And.intro (Eq.refl (some (rowI i1))) (And.intro (Eq.refl (some (rowI i2))) (And.intro (snocq_row la pA) (And.intro (Eq.refl (some (rowP lb))) True.intro)))))))))) (And.intro hlt (And.intro ha (And.intro (Eq.refl (List.map (SV.ren (renU [1] 9)) [.ls 0 i1.length, .pv (.int .i64 ((k : Int)))])) (And.intro (reflH (renU [1] 9) [(0, 0, rowI i1)]) (And.intro hb (And.intro (Eq.refl (List.map (SV.ren (renU [2] 9)) [.ls 0 i2.length, .pv (.int .i64 ((k : Int)))])) (And.intro (reflH (renU [2] 9) [(0, 0, rowI i2)]) (And.intro hin (And.intro (ra_pt hk) (And.intro hla (And.intro hs True.intro))))))))))) (by kernel_rfl)) r

set_option maxRecDepth 100000 in
theorem pt_ft {l la lb : List Pt} {i1 i2 : List Int} {pA : Pt} {k : Nat} {fn fd : Int} (hlt : decide ((k : Int) < (l.length : Int)) = true) (ha : FnL Try.prog 15 1 [.ls 0 i1.length, .pv (.int .i64 ((k : Int)))] [(0, 0, rowI i1)] (.pv (.bool false)) 0 []) (hb : FnL Try.prog 15 1 [.ls 0 i2.length, .pv (.int .i64 ((k : Int)))] [(0, 0, rowI i2)] (.pv (.bool true)) 0 []) (hk : l[k]? = some pA) (hin : 0 ≤ (k : Int) ∧ (k : Int) < (l.length : Int)) (hlb : lb.length + 1 ≤ 1000000) (hs : Value.int .i64 (IntKind.i64.wrap ((k : Int) + 1)) = .int .i64 (((k + 1 : Nat) : Int))) {e : Exit} {tm2 : List (Nat × SV)} {hp2 : List (Nat × Nat × SV)}
    (r : RunsL Try.prog 3 3 (loopOf Try.prog 4 0) 155 9 ([(2, .ls 1 i1.length), (3, .ls 2 i2.length), (4, .pp 3 0), (5, .pp 4 0), (9, .pp 5 0), (10, .pp 6 0), (11, .pv (.int .i64 ((k + 1 : Nat) : Int)))]) ([(3, 0, .ls 0 l.length), (4, 0, .pv (.int .i64 fn)), (4, 1, .pv (.int .i64 fd)), (5, 0, .ls 7 (la).length), (6, 0, .ls 8 (lb ++ [pA]).length), (0, 0, rowP l), (1, 0, rowI i1), (2, 0, rowI i2), (7, 0, rowP (la)), (8, 0, rowP (lb ++ [pA]))]) e tm2 hp2) : RunsL Try.prog 3 3 (loopOf Try.prog 4 0) 155 9 ([(2, .ls 1 i1.length), (3, .ls 2 i2.length), (4, .pp 3 0), (5, .pp 4 0), (9, .pp 5 0), (10, .pp 6 0), (11, .pv (.int .i64 (k : Int)))]) ([(3, 0, .ls 0 l.length), (4, 0, .pv (.int .i64 fn)), (4, 1, .pv (.int .i64 fd)), (5, 0, .ls 7 (la).length), (6, 0, .ls 8 (lb).length), (0, 0, rowP l), (1, 0, rowI i1), (2, 0, rowI i2), (7, 0, rowP (la)), (8, 0, rowP (lb))]) e tm2 hp2 :=
  RunsL.next [(8, 10)] 300 [.t true, .f [1] [.ls 0 i1.length, .pv (.int .i64 ((k : Int)))] [(0, 0, rowI i1)] (.pv (.bool false)) 0 [], .f [2] [.ls 0 i2.length, .pv (.int .i64 ((k : Int)))] [(0, 0, rowI i2)] (.pv (.bool true)) 0 [], .k, .k, .md, .r (ptV pA), .r (.int .i64 (((k + 1 : Nat) : Int)))]
    (round_ofH (And.intro (Eq.refl (some (SV.ls 0 l.length))) (And.intro (Eq.refl (some (SV.pv (.int .i64 fn)))) (And.intro (Eq.refl (some (SV.pv (.int .i64 fd)))) (And.intro (Eq.refl (some (SV.ls 7 la.length))) (And.intro (snocq_lsS 10 lb pA) (And.intro (Eq.refl (some (rowP l))) (And.intro (Eq.refl (some (rowI i1))) (And.intro (Eq.refl (some (rowI i2))) (And.intro (Eq.refl (some (rowP la))) (And.intro (snocq_row lb pA) True.intro)))))))))) (And.intro hlt (And.intro ha (And.intro (Eq.refl (List.map (SV.ren (renU [1] 9)) [.ls 0 i1.length, .pv (.int .i64 ((k : Int)))])) (And.intro (reflH (renU [1] 9) [(0, 0, rowI i1)]) (And.intro hb (And.intro (Eq.refl (List.map (SV.ren (renU [2] 9)) [.ls 0 i2.length, .pv (.int .i64 ((k : Int)))])) (And.intro (reflH (renU [2] 9) [(0, 0, rowI i2)]) (And.intro hin (And.intro (ra_pt hk) (And.intro hlb (And.intro hs True.intro))))))))))) (by kernel_rfl)) r

set_option maxRecDepth 100000 in
theorem pt_tt {l la lb : List Pt} {i1 i2 : List Int} {pA : Pt} {k : Nat} {fn fd : Int} (hlt : decide ((k : Int) < (l.length : Int)) = true) (ha : FnL Try.prog 15 1 [.ls 0 i1.length, .pv (.int .i64 ((k : Int)))] [(0, 0, rowI i1)] (.pv (.bool true)) 0 []) (hb : FnL Try.prog 15 1 [.ls 0 i2.length, .pv (.int .i64 ((k : Int)))] [(0, 0, rowI i2)] (.pv (.bool true)) 0 []) (hk : l[k]? = some pA) (hin : 0 ≤ (k : Int) ∧ (k : Int) < (l.length : Int)) (hla : la.length + 1 ≤ 1000000) (hlb : lb.length + 1 ≤ 1000000) (hs : Value.int .i64 (IntKind.i64.wrap ((k : Int) + 1)) = .int .i64 (((k + 1 : Nat) : Int))) {e : Exit} {tm2 : List (Nat × SV)} {hp2 : List (Nat × Nat × SV)}
    (r : RunsL Try.prog 3 3 (loopOf Try.prog 4 0) 155 9 ([(2, .ls 1 i1.length), (3, .ls 2 i2.length), (4, .pp 3 0), (5, .pp 4 0), (9, .pp 5 0), (10, .pp 6 0), (11, .pv (.int .i64 ((k + 1 : Nat) : Int)))]) ([(3, 0, .ls 0 l.length), (4, 0, .pv (.int .i64 fn)), (4, 1, .pv (.int .i64 fd)), (5, 0, .ls 7 (la ++ [pA]).length), (6, 0, .ls 8 (lb ++ [pA]).length), (0, 0, rowP l), (1, 0, rowI i1), (2, 0, rowI i2), (7, 0, rowP (la ++ [pA])), (8, 0, rowP (lb ++ [pA]))]) e tm2 hp2) : RunsL Try.prog 3 3 (loopOf Try.prog 4 0) 155 9 ([(2, .ls 1 i1.length), (3, .ls 2 i2.length), (4, .pp 3 0), (5, .pp 4 0), (9, .pp 5 0), (10, .pp 6 0), (11, .pv (.int .i64 (k : Int)))]) ([(3, 0, .ls 0 l.length), (4, 0, .pv (.int .i64 fn)), (4, 1, .pv (.int .i64 fd)), (5, 0, .ls 7 (la).length), (6, 0, .ls 8 (lb).length), (0, 0, rowP l), (1, 0, rowI i1), (2, 0, rowI i2), (7, 0, rowP (la)), (8, 0, rowP (lb))]) e tm2 hp2 :=
  RunsL.next [(7, 10), (8, 12)] 300 [.t true, .f [1] [.ls 0 i1.length, .pv (.int .i64 ((k : Int)))] [(0, 0, rowI i1)] (.pv (.bool true)) 0 [], .f [2] [.ls 0 i2.length, .pv (.int .i64 ((k : Int)))] [(0, 0, rowI i2)] (.pv (.bool true)) 0 [], .k, .md, .r (ptV pA), .md, .r (ptV pA), .r (.int .i64 (((k + 1 : Nat) : Int)))]
    (round_ofH (And.intro (Eq.refl (some (SV.ls 0 l.length))) (And.intro (Eq.refl (some (SV.pv (.int .i64 fn)))) (And.intro (Eq.refl (some (SV.pv (.int .i64 fd)))) (And.intro (snocq_lsS 10 la pA) (And.intro (snocq_lsS 12 lb pA) (And.intro (Eq.refl (some (rowP l))) (And.intro (Eq.refl (some (rowI i1))) (And.intro (Eq.refl (some (rowI i2))) (And.intro (snocq_row la pA) (And.intro (snocq_row lb pA) True.intro)))))))))) (And.intro hlt (And.intro ha (And.intro (Eq.refl (List.map (SV.ren (renU [1] 9)) [.ls 0 i1.length, .pv (.int .i64 ((k : Int)))])) (And.intro (reflH (renU [1] 9) [(0, 0, rowI i1)]) (And.intro hb (And.intro (Eq.refl (List.map (SV.ren (renU [2] 9)) [.ls 0 i2.length, .pv (.int .i64 ((k : Int)))])) (And.intro (reflH (renU [2] 9) [(0, 0, rowI i2)]) (And.intro hin (And.intro (ra_pt hk) (And.intro hla (And.intro hin (And.intro (ra_pt hk) (And.intro hlb (And.intro hs True.intro)))))))))))))) (by kernel_rfl)) r

set_option maxRecDepth 100000 in
theorem pt_end {l la lb : List Pt} {i1 i2 : List Int} {k : Nat} {fn fd : Int} (hge : decide ((k : Int) < (l.length : Int)) = false) : RunsL Try.prog 3 3 (loopOf Try.prog 4 0) 155 9 ([(2, .ls 1 i1.length), (3, .ls 2 i2.length), (4, .pp 3 0), (5, .pp 4 0), (9, .pp 5 0), (10, .pp 6 0), (11, .pv (.int .i64 (k : Int)))]) ([(3, 0, .ls 0 l.length), (4, 0, .pv (.int .i64 fn)), (4, 1, .pv (.int .i64 fd)), (5, 0, .ls 7 (la).length), (6, 0, .ls 8 (lb).length), (0, 0, rowP l), (1, 0, rowI i1), (2, 0, rowI i2), (7, 0, rowP (la)), (8, 0, rowP (lb))]) (.exit 0) ([(4, .pp 3 0), (5, .pp 4 0), (9, .pp 5 0), (10, .pp 6 0)]) ([(3, 0, .ls 0 l.length), (4, 0, .pv (.int .i64 fn)), (4, 1, .pv (.int .i64 fd)), (5, 0, .ls 7 (la).length), (6, 0, .ls 8 (lb).length), (0, 0, rowP l), (1, 0, rowI i1), (2, 0, rowI i2), (7, 0, rowP (la)), (8, 0, rowP (lb))]) :=
  RunsL.stop [] 300 [.t false] (fun h => by cases h)
    (round_of (And.intro hge True.intro) (by kernel_rfl))

set_option maxRecDepth 100000 in
theorem pt_ret {l : List Pt} {i1 i2 : List Int} {fn fd : Int} (hf : FnL Try.prog 14 1 [fldS 0 l, .pv (ratioV fn fd)] [(0, 0, rowP l)] (.pv (.bool true)) 0 []) (h1 : decide ((i1.length : Int) > 16) = false) (h2 : decide ((i2.length : Int) > 16) = false) (r0 : RunsL Try.prog 3 3 (loopOf Try.prog 4 0) 155 9 ([(2, .ls 1 i1.length), (3, .ls 2 i2.length), (4, .pp 3 0), (5, .pp 4 0), (9, .pp 5 0), (10, .pp 6 0), (11, .pv (.int .i64 ((0 : Nat) : Int)))]) ([(3, 0, .ls 0 l.length), (4, 0, .pv (.int .i64 fn)), (4, 1, .pv (.int .i64 fd)), (5, 0, .ls 7 (([] : List Pt)).length), (6, 0, .ls 8 (([] : List Pt)).length), (0, 0, rowP l), (1, 0, rowI i1), (2, 0, rowI i2), (7, 0, rowP (([] : List Pt))), (8, 0, rowP (([] : List Pt)))]) (.ret) ([(8, .pv (.bool true))]) ([])) :
    FnL Try.prog 4 3 [fldS 0 l, .pv (ratioV fn fd), .ls 1 i1.length, .ls 2 i2.length] [(0, 0, rowP l), (1, 0, rowI i1), (2, 0, rowI i2)] (.pv (.bool true)) 0 [] :=
  fnl_run 300 [] [.f [0] [fldS 0 l, .pv (ratioV fn fd)] [(0, 0, rowP l)] (.pv (.bool true)) 0 [], .k, .t false, .t false, .ln false 5 0 41 3, .ln false 6 0 41 3, .l (.ret) ([(2, .ls 1 i1.length), (3, .ls 2 i2.length), (4, .pp 3 0), (5, .pp 4 0), (9, .pp 5 0), (10, .pp 6 0), (11, .pv (.int .i64 ((0 : Nat) : Int)))]) ([(3, 0, .ls 0 l.length), (4, 0, .pv (.int .i64 fn)), (4, 1, .pv (.int .i64 fd)), (5, 0, .ls 7 (([] : List Pt)).length), (6, 0, .ls 8 (([] : List Pt)).length), (0, 0, rowP l), (1, 0, rowI i1), (2, 0, rowI i2), (7, 0, rowP (([] : List Pt))), (8, 0, rowP (([] : List Pt)))]) ([(8, .pv (.bool true))]) ([])]
     True.intro (And.intro hf (And.intro (Eq.refl (List.map (SV.ren (renU [0] 5)) [fldS 0 l, .pv (ratioV fn fd)])) (And.intro (reflH (renU [0] 5) [(0, 0, rowP l)]) (And.intro h1 (And.intro h2 (And.intro (reflT (renN []) ([(2, .ls 1 i1.length), (3, .ls 2 i2.length), (4, .pp 3 0), (5, .pp 4 0), (9, .pp 5 0), (10, .pp 6 0), (11, .pv (.int .i64 ((0 : Nat) : Int)))])) (And.intro (reflH (renN []) ([(3, 0, .ls 0 l.length), (4, 0, .pv (.int .i64 fn)), (4, 1, .pv (.int .i64 fd)), (5, 0, .ls 7 (([] : List Pt)).length), (6, 0, .ls 8 (([] : List Pt)).length), (0, 0, rowP l), (1, 0, rowI i1), (2, 0, rowI i2), (7, 0, rowP (([] : List Pt))), (8, 0, rowP (([] : List Pt)))])) (And.intro r0 True.intro)))))))) (by kernel_rfl)

set_option maxRecDepth 100000 in
theorem pt_e1 {l la lb : List Pt} {i1 i2 : List Int} {fn fd : Int} (hf : FnL Try.prog 14 1 [fldS 0 l, .pv (ratioV fn fd)] [(0, 0, rowP l)] (.pv (.bool true)) 0 []) (h1 : decide ((i1.length : Int) > 16) = false) (h2 : decide ((i2.length : Int) > 16) = false) (r0 : RunsL Try.prog 3 3 (loopOf Try.prog 4 0) 155 9 ([(2, .ls 1 i1.length), (3, .ls 2 i2.length), (4, .pp 3 0), (5, .pp 4 0), (9, .pp 5 0), (10, .pp 6 0), (11, .pv (.int .i64 ((0 : Nat) : Int)))]) ([(3, 0, .ls 0 l.length), (4, 0, .pv (.int .i64 fn)), (4, 1, .pv (.int .i64 fd)), (5, 0, .ls 7 (([] : List Pt)).length), (6, 0, .ls 8 (([] : List Pt)).length), (0, 0, rowP l), (1, 0, rowI i1), (2, 0, rowI i2), (7, 0, rowP (([] : List Pt))), (8, 0, rowP (([] : List Pt)))]) (.exit 0) ([(4, .pp 3 0), (5, .pp 4 0), (9, .pp 5 0), (10, .pp 6 0)]) ([(3, 0, .ls 0 l.length), (4, 0, .pv (.int .i64 fn)), (4, 1, .pv (.int .i64 fd)), (5, 0, .ls 7 (la).length), (6, 0, .ls 8 (lb).length), (0, 0, rowP l), (1, 0, rowI i1), (2, 0, rowI i2), (7, 0, rowP (la)), (8, 0, rowP (lb))])) (ea : ((la.length : Int) == 0) = true) (hal : FnL Try.prog 13 0 [] [] (.pv (.bool true)) 0 []) :
    FnL Try.prog 4 3 [fldS 0 l, .pv (ratioV fn fd), .ls 1 i1.length, .ls 2 i2.length] [(0, 0, rowP l), (1, 0, rowI i1), (2, 0, rowI i2)] (.pv (.bool true)) 0 [] :=
  fnl_run 300 [] [.f [0] [fldS 0 l, .pv (ratioV fn fd)] [(0, 0, rowP l)] (.pv (.bool true)) 0 [], .k, .t false, .t false, .ln false 5 0 41 3, .ln false 6 0 41 3, .l (.exit 0) ([(2, .ls 1 i1.length), (3, .ls 2 i2.length), (4, .pp 3 0), (5, .pp 4 0), (9, .pp 5 0), (10, .pp 6 0), (11, .pv (.int .i64 ((0 : Nat) : Int)))]) ([(3, 0, .ls 0 l.length), (4, 0, .pv (.int .i64 fn)), (4, 1, .pv (.int .i64 fd)), (5, 0, .ls 7 (([] : List Pt)).length), (6, 0, .ls 8 (([] : List Pt)).length), (0, 0, rowP l), (1, 0, rowI i1), (2, 0, rowI i2), (7, 0, rowP (([] : List Pt))), (8, 0, rowP (([] : List Pt)))]) ([(4, .pp 3 0), (5, .pp 4 0), (9, .pp 5 0), (10, .pp 6 0)]) ([(3, 0, .ls 0 l.length), (4, 0, .pv (.int .i64 fn)), (4, 1, .pv (.int .i64 fd)), (5, 0, .ls 7 (la).length), (6, 0, .ls 8 (lb).length), (0, 0, rowP l), (1, 0, rowI i1), (2, 0, rowI i2), (7, 0, rowP (la)), (8, 0, rowP (lb))]), .t true, .f [] [] [] (.pv (.bool true)) 0 []]
     True.intro (And.intro hf (And.intro (Eq.refl (List.map (SV.ren (renU [0] 5)) [fldS 0 l, .pv (ratioV fn fd)])) (And.intro (reflH (renU [0] 5) [(0, 0, rowP l)]) (And.intro h1 (And.intro h2 (And.intro (reflT (renN []) ([(2, .ls 1 i1.length), (3, .ls 2 i2.length), (4, .pp 3 0), (5, .pp 4 0), (9, .pp 5 0), (10, .pp 6 0), (11, .pv (.int .i64 ((0 : Nat) : Int)))])) (And.intro (reflH (renN []) ([(3, 0, .ls 0 l.length), (4, 0, .pv (.int .i64 fn)), (4, 1, .pv (.int .i64 fd)), (5, 0, .ls 7 (([] : List Pt)).length), (6, 0, .ls 8 (([] : List Pt)).length), (0, 0, rowP l), (1, 0, rowI i1), (2, 0, rowI i2), (7, 0, rowP (([] : List Pt))), (8, 0, rowP (([] : List Pt)))])) (And.intro r0 (And.intro ea (And.intro hal (And.intro (Eq.refl (List.map (SV.ren (renU [] 9)) [])) (And.intro (reflH (renU [] 9) []) True.intro)))))))))))) (by kernel_rfl)

set_option maxRecDepth 100000 in
theorem pt_e2 {l la lb : List Pt} {i1 i2 : List Int} {fn fd : Int} (hf : FnL Try.prog 14 1 [fldS 0 l, .pv (ratioV fn fd)] [(0, 0, rowP l)] (.pv (.bool true)) 0 []) (h1 : decide ((i1.length : Int) > 16) = false) (h2 : decide ((i2.length : Int) > 16) = false) (r0 : RunsL Try.prog 3 3 (loopOf Try.prog 4 0) 155 9 ([(2, .ls 1 i1.length), (3, .ls 2 i2.length), (4, .pp 3 0), (5, .pp 4 0), (9, .pp 5 0), (10, .pp 6 0), (11, .pv (.int .i64 ((0 : Nat) : Int)))]) ([(3, 0, .ls 0 l.length), (4, 0, .pv (.int .i64 fn)), (4, 1, .pv (.int .i64 fd)), (5, 0, .ls 7 (([] : List Pt)).length), (6, 0, .ls 8 (([] : List Pt)).length), (0, 0, rowP l), (1, 0, rowI i1), (2, 0, rowI i2), (7, 0, rowP (([] : List Pt))), (8, 0, rowP (([] : List Pt)))]) (.exit 0) ([(4, .pp 3 0), (5, .pp 4 0), (9, .pp 5 0), (10, .pp 6 0)]) ([(3, 0, .ls 0 l.length), (4, 0, .pv (.int .i64 fn)), (4, 1, .pv (.int .i64 fd)), (5, 0, .ls 7 (la).length), (6, 0, .ls 8 (lb).length), (0, 0, rowP l), (1, 0, rowI i1), (2, 0, rowI i2), (7, 0, rowP (la)), (8, 0, rowP (lb))])) (ea : ((la.length : Int) == 0) = false) (eb : ((lb.length : Int) == 0) = true) (hal : FnL Try.prog 13 0 [] [] (.pv (.bool true)) 0 []) :
    FnL Try.prog 4 3 [fldS 0 l, .pv (ratioV fn fd), .ls 1 i1.length, .ls 2 i2.length] [(0, 0, rowP l), (1, 0, rowI i1), (2, 0, rowI i2)] (.pv (.bool true)) 0 [] :=
  fnl_run 300 [] [.f [0] [fldS 0 l, .pv (ratioV fn fd)] [(0, 0, rowP l)] (.pv (.bool true)) 0 [], .k, .t false, .t false, .ln false 5 0 41 3, .ln false 6 0 41 3, .l (.exit 0) ([(2, .ls 1 i1.length), (3, .ls 2 i2.length), (4, .pp 3 0), (5, .pp 4 0), (9, .pp 5 0), (10, .pp 6 0), (11, .pv (.int .i64 ((0 : Nat) : Int)))]) ([(3, 0, .ls 0 l.length), (4, 0, .pv (.int .i64 fn)), (4, 1, .pv (.int .i64 fd)), (5, 0, .ls 7 (([] : List Pt)).length), (6, 0, .ls 8 (([] : List Pt)).length), (0, 0, rowP l), (1, 0, rowI i1), (2, 0, rowI i2), (7, 0, rowP (([] : List Pt))), (8, 0, rowP (([] : List Pt)))]) ([(4, .pp 3 0), (5, .pp 4 0), (9, .pp 5 0), (10, .pp 6 0)]) ([(3, 0, .ls 0 l.length), (4, 0, .pv (.int .i64 fn)), (4, 1, .pv (.int .i64 fd)), (5, 0, .ls 7 (la).length), (6, 0, .ls 8 (lb).length), (0, 0, rowP l), (1, 0, rowI i1), (2, 0, rowI i2), (7, 0, rowP (la)), (8, 0, rowP (lb))]), .t false, .t true, .f [] [] [] (.pv (.bool true)) 0 []]
     True.intro (And.intro hf (And.intro (Eq.refl (List.map (SV.ren (renU [0] 5)) [fldS 0 l, .pv (ratioV fn fd)])) (And.intro (reflH (renU [0] 5) [(0, 0, rowP l)]) (And.intro h1 (And.intro h2 (And.intro (reflT (renN []) ([(2, .ls 1 i1.length), (3, .ls 2 i2.length), (4, .pp 3 0), (5, .pp 4 0), (9, .pp 5 0), (10, .pp 6 0), (11, .pv (.int .i64 ((0 : Nat) : Int)))])) (And.intro (reflH (renN []) ([(3, 0, .ls 0 l.length), (4, 0, .pv (.int .i64 fn)), (4, 1, .pv (.int .i64 fd)), (5, 0, .ls 7 (([] : List Pt)).length), (6, 0, .ls 8 (([] : List Pt)).length), (0, 0, rowP l), (1, 0, rowI i1), (2, 0, rowI i2), (7, 0, rowP (([] : List Pt))), (8, 0, rowP (([] : List Pt)))])) (And.intro r0 (And.intro ea (And.intro eb (And.intro hal (And.intro (Eq.refl (List.map (SV.ren (renU [] 9)) [])) (And.intro (reflH (renU [] 9) []) True.intro))))))))))))) (by kernel_rfl)

set_option maxRecDepth 100000 in
theorem pt_all {l la lb : List Pt} {i1 i2 : List Int} {fn fd : Int} {ca cb cc : List Ld} (hf : FnL Try.prog 14 1 [fldS 0 l, .pv (ratioV fn fd)] [(0, 0, rowP l)] (.pv (.bool true)) 0 []) (h1 : decide ((i1.length : Int) > 16) = false) (h2 : decide ((i2.length : Int) > 16) = false) (r0 : RunsL Try.prog 3 3 (loopOf Try.prog 4 0) 155 9 ([(2, .ls 1 i1.length), (3, .ls 2 i2.length), (4, .pp 3 0), (5, .pp 4 0), (9, .pp 5 0), (10, .pp 6 0), (11, .pv (.int .i64 ((0 : Nat) : Int)))]) ([(3, 0, .ls 0 l.length), (4, 0, .pv (.int .i64 fn)), (4, 1, .pv (.int .i64 fd)), (5, 0, .ls 7 (([] : List Pt)).length), (6, 0, .ls 8 (([] : List Pt)).length), (0, 0, rowP l), (1, 0, rowI i1), (2, 0, rowI i2), (7, 0, rowP (([] : List Pt))), (8, 0, rowP (([] : List Pt)))]) (.exit 0) ([(4, .pp 3 0), (5, .pp 4 0), (9, .pp 5 0), (10, .pp 6 0)]) ([(3, 0, .ls 0 l.length), (4, 0, .pv (.int .i64 fn)), (4, 1, .pv (.int .i64 fd)), (5, 0, .ls 7 (la).length), (6, 0, .ls 8 (lb).length), (0, 0, rowP l), (1, 0, rowI i1), (2, 0, rowI i2), (7, 0, rowP (la)), (8, 0, rowP (lb))])) (ea : ((la.length : Int) == 0) = false) (eb : ((lb.length : Int) == 0) = false) (hoa : FnL Try.prog 5 1 [fldS 0 la, .pv (ratioV fn fd)] [(0, 0, rowP la)] (.tu [.one (.ls 1 ca.length), .one (.pv (.int .i64 0))]) 1 [(1, 0, rowL ca)]) (hob : FnL Try.prog 5 1 [fldS 0 lb, .pv (ratioV fn fd)] [(0, 0, rowP lb)] (.tu [.one (.ls 1 cb.length), .one (.pv (.int .i64 0))]) 1 [(1, 0, rowL cb)]) (hoc : FnL Try.prog 5 1 [fldS 0 l, .pv (ratioV fn fd)] [(0, 0, rowP l)] (.tu [.one (.ls 1 cc.length), .one (.pv (.int .i64 0))]) 1 [(1, 0, rowL cc)]) (hm1 : FnL Try.prog 10 3 [fldS 0 l, .ls 1 ca.length, .ls 2 cb.length] [(0, 0, rowP l), (1, 0, rowL ca), (2, 0, rowL cb)] (.tu [.one (.ls 3 cc.length), .one (.pv (.int .i64 0))]) 1 [(3, 0, rowL cc)]) (hm2 : FnL Try.prog 10 3 [fldS 0 l, .ls 1 cb.length, .ls 2 ca.length] [(0, 0, rowP l), (1, 0, rowL cb), (2, 0, rowL ca)] (.tu [.one (.ls 3 cc.length), .one (.pv (.int .i64 0))]) 1 [(3, 0, rowL cc)]) (hs : FnL Try.prog 12 2 [.ls 0 cc.length, .ls 1 cc.length] [(0, 0, rowL cc), (1, 0, rowL cc)] (.pv (.bool true)) 0 []) (hal : FnL Try.prog 13 0 [] [] (.pv (.bool true)) 0 []) :
    FnL Try.prog 4 3 [fldS 0 l, .pv (ratioV fn fd), .ls 1 i1.length, .ls 2 i2.length] [(0, 0, rowP l), (1, 0, rowI i1), (2, 0, rowI i2)] (.pv (.bool true)) 0 [] :=
  fnl_run 300 [] [.f [0] [fldS 0 l, .pv (ratioV fn fd)] [(0, 0, rowP l)] (.pv (.bool true)) 0 [], .k, .t false, .t false, .ln false 5 0 41 3, .ln false 6 0 41 3, .l (.exit 0) ([(2, .ls 1 i1.length), (3, .ls 2 i2.length), (4, .pp 3 0), (5, .pp 4 0), (9, .pp 5 0), (10, .pp 6 0), (11, .pv (.int .i64 ((0 : Nat) : Int)))]) ([(3, 0, .ls 0 l.length), (4, 0, .pv (.int .i64 fn)), (4, 1, .pv (.int .i64 fd)), (5, 0, .ls 7 (([] : List Pt)).length), (6, 0, .ls 8 (([] : List Pt)).length), (0, 0, rowP l), (1, 0, rowI i1), (2, 0, rowI i2), (7, 0, rowP (([] : List Pt))), (8, 0, rowP (([] : List Pt)))]) ([(4, .pp 3 0), (5, .pp 4 0), (9, .pp 5 0), (10, .pp 6 0)]) ([(3, 0, .ls 0 l.length), (4, 0, .pv (.int .i64 fn)), (4, 1, .pv (.int .i64 fd)), (5, 0, .ls 7 (la).length), (6, 0, .ls 8 (lb).length), (0, 0, rowP l), (1, 0, rowI i1), (2, 0, rowI i2), (7, 0, rowP (la)), (8, 0, rowP (lb))]), .t false, .t false, .f [7] [fldS 0 la, .pv (ratioV fn fd)] [(0, 0, rowP la)] (.tu [.one (.ls 1 ca.length), .one (.pv (.int .i64 0))]) 1 [(1, 0, rowL ca)], .f [8] [fldS 0 lb, .pv (ratioV fn fd)] [(0, 0, rowP lb)] (.tu [.one (.ls 1 cb.length), .one (.pv (.int .i64 0))]) 1 [(1, 0, rowL cb)], .f [0] [fldS 0 l, .pv (ratioV fn fd)] [(0, 0, rowP l)] (.tu [.one (.ls 1 cc.length), .one (.pv (.int .i64 0))]) 1 [(1, 0, rowL cc)], .f [0,9,10] [fldS 0 l, .ls 1 ca.length, .ls 2 cb.length] [(0, 0, rowP l), (1, 0, rowL ca), (2, 0, rowL cb)] (.tu [.one (.ls 3 cc.length), .one (.pv (.int .i64 0))]) 1 [(3, 0, rowL cc)], .f [0,10,9] [fldS 0 l, .ls 1 cb.length, .ls 2 ca.length] [(0, 0, rowP l), (1, 0, rowL cb), (2, 0, rowL ca)] (.tu [.one (.ls 3 cc.length), .one (.pv (.int .i64 0))]) 1 [(3, 0, rowL cc)], .k, .k, .k, .k, .k, .f [12,11] [.ls 0 cc.length, .ls 1 cc.length] [(0, 0, rowL cc), (1, 0, rowL cc)] (.pv (.bool true)) 0 [], .f [13,11] [.ls 0 cc.length, .ls 1 cc.length] [(0, 0, rowL cc), (1, 0, rowL cc)] (.pv (.bool true)) 0 [], .f [] [] [] (.pv (.bool true)) 0 []]
     True.intro (And.intro hf (And.intro (Eq.refl (List.map (SV.ren (renU [0] 5)) [fldS 0 l, .pv (ratioV fn fd)])) (And.intro (reflH (renU [0] 5) [(0, 0, rowP l)]) (And.intro h1 (And.intro h2 (And.intro (reflT (renN []) ([(2, .ls 1 i1.length), (3, .ls 2 i2.length), (4, .pp 3 0), (5, .pp 4 0), (9, .pp 5 0), (10, .pp 6 0), (11, .pv (.int .i64 ((0 : Nat) : Int)))])) (And.intro (reflH (renN []) ([(3, 0, .ls 0 l.length), (4, 0, .pv (.int .i64 fn)), (4, 1, .pv (.int .i64 fd)), (5, 0, .ls 7 (([] : List Pt)).length), (6, 0, .ls 8 (([] : List Pt)).length), (0, 0, rowP l), (1, 0, rowI i1), (2, 0, rowI i2), (7, 0, rowP (([] : List Pt))), (8, 0, rowP (([] : List Pt)))])) (And.intro r0 (And.intro ea (And.intro eb (And.intro hoa (And.intro (Eq.refl (List.map (SV.ren (renU [7] 9)) [fldS 0 la, .pv (ratioV fn fd)])) (And.intro (reflH (renU [7] 9) [(0, 0, rowP la)]) (And.intro hob (And.intro (Eq.refl (List.map (SV.ren (renU [8] 10)) [fldS 0 lb, .pv (ratioV fn fd)])) (And.intro (reflH (renU [8] 10) [(0, 0, rowP lb)]) (And.intro hoc (And.intro (Eq.refl (List.map (SV.ren (renU [0] 11)) [fldS 0 l, .pv (ratioV fn fd)])) (And.intro (reflH (renU [0] 11) [(0, 0, rowP l)]) (And.intro hm1 (And.intro (Eq.refl (List.map (SV.ren (renU [0,9,10] 12)) [fldS 0 l, .ls 1 ca.length, .ls 2 cb.length])) (And.intro (reflH (renU [0,9,10] 12) [(0, 0, rowP l), (1, 0, rowL ca), (2, 0, rowL cb)]) (And.intro hm2 (And.intro (Eq.refl (List.map (SV.ren (renU [0,10,9] 13)) [fldS 0 l, .ls 1 cb.length, .ls 2 ca.length])) (And.intro (reflH (renU [0,10,9] 13) [(0, 0, rowP l), (1, 0, rowL cb), (2, 0, rowL ca)]) (And.intro hs (And.intro (Eq.refl (List.map (SV.ren (renU [12,11] 14)) [.ls 0 cc.length, .ls 1 cc.length])) (And.intro (reflH (renU [12,11] 14) [(0, 0, rowL cc), (1, 0, rowL cc)]) (And.intro hs (And.intro (Eq.refl (List.map (SV.ren (renU [13,11] 14)) [.ls 0 cc.length, .ls 1 cc.length])) (And.intro (reflH (renU [13,11] 14) [(0, 0, rowL cc), (1, 0, rowL cc)]) (And.intro hal (And.intro (Eq.refl (List.map (SV.ren (renU [] 14)) [])) (And.intro (reflH (renU [] 14) []) True.intro)))))))))))))))))))))))))))))))))) (by kernel_rfl)
end Go.Proofs.Ytoheadpehomdjaa
