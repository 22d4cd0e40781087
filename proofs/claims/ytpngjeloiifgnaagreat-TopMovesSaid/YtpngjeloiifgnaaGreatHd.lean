/-
  The crest of a field: Of of package crest, and what a crest is. Conditions: none.
-/
import Derived.Test.YtpngjeloiifgnaaGreatHc
import Derived.Test.YtpngjeloiifgnaaGreatW41
import Derived.Test.YtpngjeloiifgnaaGreatW40
namespace Go.Proofs.YtpngjeloiifgnaaGreat
open Go.RowKit
section
variable {l : List Pt}
theorem ld_stay (hv : Val l) {p r : Pt} (hp : p ∈ l) (hr : r ∈ l) {T D T' D' : Int} (h0 : 0 < D) (h0' : 0 < D') (hb : r.b < p.b) (h : ld T D r p = false) (hle : T * D' - T' * D ≤ 0) : ld T' D' r p = false := by
  obtain ⟨m, hm, he⟩ := ms_pair hv hr hp (by omega)
  have ok := ms_ok hv m hm
  have k0 := okB_den ok.ok
  unfold ld at *
  rw [leads_meet (m := m.n) (k := m.d) (by omega) he (by omega)] at *
  rw [df (show ¬ r.b > p.b by omega)] at *
  have h1 : (T * m.d - m.n * D).sign ≥ 0 := by
    by_cases h1 : (T * m.d - m.n * D).sign ≥ 0
    · exact h1
    · rw [df h1] at h; cases h
  have h2 := (sign_ge _).1 h1
  have := frac_ge (an := T') (ad := D') (bn := T) (bd := D) (cn := m.n) (cd := m.d) (by omega) (by omega) (by omega) (by omega) (by omega)
  rw [dt ((sign_ge _).2 (by omega))]
  rfl
theorem meet_turn {p q : Pt} {m : Mt} (h : m.n * (p.b - q.b) = (q.a - p.a) * m.d) : m.n * (q.b - p.b) = (p.a - q.a) * m.d := by
  have e1 : m.n * (q.b - p.b) = -(m.n * (p.b - q.b)) := by rw [← Int.mul_neg]; congr 1; omega
  have e2 : (p.a - q.a) * m.d = -((q.a - p.a) * m.d) := by rw [← Int.neg_mul]; congr 1; omega
  rw [e1, e2, h]
/-- A faster point is behind just before their meeting. -/
theorem ld_faster {p q : Pt} {m : Mt} (ok : MSpec p q m) (hb : p.b < q.b) {T D : Int} : ld T D q p = decide ((T * m.d - m.n * D).sign ≥ 0) := by
  have k0 := okB_den ok.ok
  unfold ld
  rw [leads_meet (m := m.n) (k := m.d) (by omega) (meet_turn ok.eq) (by omega), dt (show q.b > p.b by omega)]
  cases decide ((T * m.d - m.n * D).sign ≥ 0) <;> rfl
theorem lead_up (hv : Val l) {p : Pt} (hp : p ∈ l) {T D : Int} (hD : 0 < D) (htop : ∀ q ∈ l, ld T D q p = false) {m : Mt} (hm : nextM p l = some m) :
    T * m.d - m.n * D < 0 ∧ p.b < (ldr l m.n m.d).b ∧ Tm m.n m.d ∧ ldr l m.n m.d ∈ l := by
  have hne : l ≠ [] := fun e => by rw [e] at hp; cases hp
  have hl := least_all (p := p) hv (hv.ok p hp)
  rw [hm] at hl
  obtain ⟨⟨q, hq, h1⟩, _⟩ := hl
  obtain ⟨hb, ok⟩ := nextOf_some (hv.ok p hp) (hv.ok q hq) h1
  have k0 := okB_den ok.ok
  have hlt : T * m.d - m.n * D < 0 := by
    have := htop q hq
    rw [ld_faster ok hb] at this
    have := of_decide_eq_false this
    rcases Int.lt_or_le (T * m.d - m.n * D) 0 with h | h
    · exact h
    · exact (this ((sign_ge _).2 h)).elim
  refine ⟨hlt, ?_, ⟨ok.n, ok.d, ok.ok⟩, ldr_mem hv _ _ hne⟩
  have hp' := ldr_mem hv m.n m.d hne
  have htop' : ∀ r ∈ l, ld m.n m.d r (ldr l m.n m.d) = false := fun r hr => ldr_top hv hr
  generalize ldr l m.n m.d = p' at *
  rcases Int.lt_or_le p.b p'.b with h | h
  · exact h
  · exfalso
    by_cases e : p'.id = p.id
    · have := val_id hv hp' hp e
      subst this
      have h2 := htop' q hq
      rw [ld_faster ok hb, dt ((sign_ge _).2 (by omega))] at h2
      cases h2
    · have h2 : ld m.n m.d p' p = true := ld_tot (fun e' => e e'.symm) (htop' p hp)
      by_cases hb' : p'.b = p.b
      · rw [ld_equal (T' := T) (D' := D) (by omega) hD hb', htop p' hp'] at h2; cases h2
      · rw [ld_stay hv hp hp' hD (by omega) (by omega) (htop p' hp') (by omega)] at h2; cases h2
/-- How many are faster. -/
def fcP (p : Pt) (l : List Pt) : Nat := (l.filter fun q => decide (p.b < q.b)).length
theorem fcP_lt {p p' : Pt} (hp' : p' ∈ l) (h : p.b < p'.b) : fcP p' l < fcP p l := by
  have e : (l.filter fun q => decide (p'.b < q.b)) = (l.filter fun q => decide (p.b < q.b)).filter fun q => decide (p'.b < q.b) := by
    rw [List.filter_filter]
    refine List.filter_congr fun q _ => ?_
    by_cases h1 : p'.b < q.b
    · rw [dt h1, dt (show p.b < q.b by omega)]; rfl
    · rw [df h1]; rfl
  unfold fcP
  rw [e]
  exact List.length_filter_lt_length_iff_exists.2 ⟨p', List.mem_filter.2 ⟨hp', dt h⟩, by simp⟩
theorem fcP_zero (hv : Val l) {p : Pt} (hp : p ∈ l) (h : fcP p l = 0) : nextM p l = none := by
  have hl := least_all (p := p) hv (hv.ok p hp)
  cases hm : nextM p l with
  | none => rfl
  | some m =>
    rw [hm] at hl
    obtain ⟨⟨q, hq, h1⟩, _⟩ := hl
    have hb := (nextOf_some (hv.ok p hp) (hv.ok q hq) h1).1
    have : q ∈ l.filter fun q => decide (p.b < q.b) := List.mem_filter.2 ⟨hq, dt hb⟩
    unfold fcP at h
    rw [List.length_eq_zero_iff.1 h] at this
    cases this
/-- A lead of a point that leads. -/
structure Base (l : List Pt) (p : Pt) (x : Ld) : Prop where
  mem : p ∈ l
  id : p.id = x.id
  tm : Tm x.n x.d
  top : ∀ q ∈ l, ld x.n x.d q p = false
noncomputable abbrev nxL (l : List Pt) (m : Mt) : Ld := ⟨m.n, m.d, (ldr l m.n m.d).id⟩
/-- A lead, and those that come behind it. -/
inductive Cr (l : List Pt) : Pt → Ld → List Ld → Prop where
  | stop {p : Pt} {x : Ld} (b : Base l p x) (h : nextM p l = none) : Cr l p x []
  | step {p : Pt} {x : Ld} {m : Mt} {t : List Ld} (b : Base l p x) (h : nextM p l = some m) (r : Cr l (ldr l m.n m.d) (nxL l m) t) : Cr l p x (nxL l m :: t)
theorem Cr.base {p : Pt} {x : Ld} {t : List Ld} (h : Cr l p x t) : Base l p x := by cases h <;> assumption
theorem base_next (hv : Val l) {p : Pt} {x : Ld} {m : Mt} (b : Base l p x) (h : nextM p l = some m) : Base l (ldr l m.n m.d) (nxL l m) := by
  have d0 := okB_den b.tm.ok
  obtain ⟨_, _, h3, h4⟩ := lead_up hv b.mem (by omega) b.top h
  exact ⟨h4, rfl, h3, fun q hq => ldr_top hv hq⟩
theorem cr_ex (hv : Val l) : ∀ (k : Nat) (p : Pt) (x : Ld), Base l p x → fcP p l ≤ k → ∃ t, Cr l p x t ∧ t.length ≤ fcP p l
  | k, p, x, b, hk => by
    cases hm : nextM p l with
    | none => exact ⟨[], .stop b hm, Nat.zero_le _⟩
    | some m =>
      have d0 := okB_den b.tm.ok
      obtain ⟨_, h2, _, h4⟩ := lead_up hv b.mem (by omega) b.top hm
      have hf := fcP_lt h4 h2
      cases k with
      | zero => rw [fcP_zero hv b.mem (by omega)] at hm; cases hm
      | succ k =>
        obtain ⟨t, ht, hl⟩ := cr_ex hv k _ _ (base_next hv b hm) (by omega)
        exact ⟨nxL l m :: t, .step b hm ht, by rw [List.length_cons]; omega⟩
theorem Cr.uniq {p : Pt} {x x' : Ld} {t t' : List Ld} (h : Cr l p x t) (h' : Cr l p x' t') : t = t' := by
  induction h generalizing x' t' with
  | stop b e =>
    cases h' with
    | stop => rfl
    | step _ e' _ => rw [e] at e'; cases e'
  | step b e r ih =>
    cases h' with
    | stop _ e' => rw [e] at e'; cases e'
    | step _ e' r' =>
      rw [e] at e'
      cases e'
      rw [ih r']
/-- The crest of a field from a time on. -/
noncomputable def crest (l : List Pt) (n d : Int) : List Ld := open Classical in if h : ∃ t, Cr l (ldr l n d) ⟨n, d, (ldr l n d).id⟩ t then ⟨n, d, (ldr l n d).id⟩ :: h.choose else []
theorem base_ldr (hv : Val l) (hne : l ≠ []) {n d : Int} (ht : Tm n d) : Base l (ldr l n d) ⟨n, d, (ldr l n d).id⟩ := ⟨ldr_mem hv n d hne, rfl, ht, fun q hq => ldr_top hv hq⟩
theorem fcP_mem {p : Pt} (hp : p ∈ l) : fcP p l < l.length := List.length_filter_lt_length_iff_exists.2 ⟨p, hp, by simp⟩
theorem crest_spec (hv : Val l) (hne : l ≠ []) {n d : Int} (ht : Tm n d) : ∃ t, crest l n d = ⟨n, d, (ldr l n d).id⟩ :: t ∧ Cr l (ldr l n d) ⟨n, d, (ldr l n d).id⟩ t ∧ t.length < l.length := by
  have b := base_ldr hv hne ht
  obtain ⟨t, h, hl⟩ := cr_ex hv (fcP (ldr l n d) l) _ _ b (Nat.le_refl _)
  have hex : ∃ t, Cr l (ldr l n d) ⟨n, d, (ldr l n d).id⟩ t := ⟨t, h⟩
  have e := hex.choose_spec.uniq h
  refine ⟨t, ?_, h, ?_⟩
  · unfold crest
    rw [dif_pos hex, e]
  · have := fcP_mem b.mem; omega
theorem of_loop (hv : Val l) : ∀ {p : Pt} {x : Ld} {t : List Ld}, Cr l p x t → ∀ (s : List Ld), s[s.length - 1]? = some x → s.length + t.length ≤ 1000 →
    RunsL Tryz.prog 1 1 (loopOf Tryz.prog 32 0) 42 4 [(2, .pp 1 0), (8, .ls 3 s.length)] [(1, 0, .ls 0 l.length), (0, 0, rowP l), (3, 0, rowL s)] .ret [(4, .ls 3 (s ++ t).length), (5, .pv (.int .i64 0))] [(3, 0, rowL (s ++ t))] := by
  intro p x t h
  induction h with
  | @stop p x b e =>
    intro s hs hl
    rw [List.append_nil]
    obtain ⟨i, hi, ei⟩ := List.getElem_of_mem b.mem
    have ho := Ovt_ok hv (i := i) (p := p) (x := x) (by rw [List.getElem?_eq_getElem hi, ei]) b.id b.tm b.top
    rw [e] at ho
    have h0 := get_lt hs
    exact of_end hs ⟨by omega, by omega⟩ (by rw [wrap_i64_in (by omega) (by omega)]; congr 1; omega) ho
  | @step p x m t b e r ih =>
    intro s hs hl
    obtain ⟨i, hi, ei⟩ := List.getElem_of_mem b.mem
    have ho := Ovt_ok hv (i := i) (p := p) (x := x) (by rw [List.getElem?_eq_getElem hi, ei]) b.id b.tm b.top
    rw [e] at ho
    have h0 := get_lt hs
    rw [List.length_cons] at hl
    have r' := ih (s ++ [nxL l m]) (by rw [List.length_append, List.length_singleton, Nat.add_sub_cancel, List.getElem?_append_right (Nat.le_refl _), Nat.sub_self]; rfl) (by rw [List.length_append, List.length_singleton]; omega)
    rw [List.append_assoc, List.singleton_append] at r'
    exact of_next hs ⟨by omega, by omega⟩ (by rw [wrap_i64_in (by omega) (by omega)]; congr 1; omega) ho (by omega) r'
theorem Of_ok (hv : Val l) (hne : l ≠ []) {n d : Int} (ht : Tm n d) : FnL Tryz.prog 32 1 [fldS 0 l, .pv (ratioV n d)] [(0, 0, rowP l)] (.tu [.one (.ls 1 (crest l n d).length), .one (.pv (.int .i64 0))]) 1 [(1, 0, rowL (crest l n d))] := by
  obtain ⟨t, h1, h2, h3⟩ := crest_spec hv hne ht
  rw [h1]
  have h64 := hv.len
  have r := of_loop hv h2 [⟨n, d, (ldr l n d).id⟩] rfl (by simp; omega)
  exact of_path (PLeader_ok hv ht hne) r
theorem Of_none {n d : Int} (ht : Tm n d) : FnL Tryz.prog 32 1 [fldS 0 [], .pv (ratioV n d)] [(0, 0, rowP [])] (.pv (.tuple #[.slice none 0 0, .int .i64 42])) 0 [] := of_err (PLeader_none ht) (by decide)
end
def okLd (x : Ld) : Bool := okB x.n x.d && (decide (0 ≤ x.id) && decide (x.id ≤ 65535))
/-- A lead may come behind another one. -/
def folB (x y : Ld) : Bool := (!(y.id == x.id)) && decide ((x.n * y.d - y.n * x.d).sign < 0)
structure I64L (x : Ld) : Prop where
  n : I64 x.n
  d : I64 x.d
structure VC (c : List Ld) : Prop where
  pos : 0 < c.length
  len : c.length ≤ 300
  ok : ∀ x ∈ c, okLd x = true
  fol : ∀ (k : Nat) (x y : Ld), c[k]? = some x → c[k + 1]? = some y → folB x y = true
theorem IsLead_any {x : Ld} (h : I64L x) : Pure Tryz.prog 53 #[leadV x] (.bool (okLd x)) := by
  unfold okLd
  by_cases h1 : okB x.n x.d = true
  · rw [h1]
    have c := Check_ok h.n h.d h1
    by_cases h2 : 0 ≤ x.id
    · rw [dt h2]
      exact il_hi c (dt h2) (by simp)
    · rw [df h2]; exact il_lo c (df h2)
  · have e : okB x.n x.d = false := by simpa using h1
    rw [e]
    exact il_bad (Check_bad h.n h.d h1) (by decide)
theorem Follows_any {x y : Ld} (hx : I64L x) (hy : I64L y) (ox : okLd x = true) (oy : okLd y = true) : Pure Tryz.prog 54 #[leadV y, leadV x] (.bool (folB x y)) := by
  unfold folB
  unfold okLd at ox oy
  simp only [Bool.and_eq_true] at ox oy
  by_cases h : (y.id == x.id) = true
  · rw [h]; exact fo_no (by rw [h]; rfl)
  · have e : (y.id == x.id) = false := by simpa using h
    rw [e]
    exact fo_yes (by rw [e]; rfl) (CBef_ok hx.n hx.d hy.n hy.d ox.1 oy.1)
/-- The error of Check. -/
noncomputable def ckL (c : List Ld) : Int := open Classical in if VC c then 0 else 8
theorem PCk_any {c : List Ld} (hi : ∀ x ∈ c, I64L x) (hn : c.length ≤ 100000) : FnL Tryz.prog 21 1 [.ls 0 c.length] [(0, 0, rowL c)] (.pv (.int .i64 (ckL c))) 0 [] := by
  unfold ckL
  by_cases h0 : c.length = 0
  · rw [if_neg (fun h => by have := h.pos; omega)]
    exact ck_none (by simp [h0])
  have e0 : ((c.length : Int) == 0) = false := by rw [beq_eq_false_iff_ne]; omega
  by_cases h3 : c.length > 300
  · rw [if_neg (fun h => by have := h.len; omega)]
    exact ck_many e0 (dt (by omega))
  have hL := fun (N : Nat) (hN : N ≤ c.length) (hok : ∀ k x, k < N → c[k]? = some x → okLd x = true) (hfo : ∀ k x y, k + 1 < N → c[k]? = some x → c[k + 1]? = some y → folB x y = true) {e : Exit} {tm2 : List (Nat × SV)} {hp2 : List (Nat × Nat × SV)}
      (last : RunsL Tryz.prog 1 1 (loopOf Tryz.prog 21 0) 38 1 [(0, .ls 0 c.length), (13, .ls 0 c.length), (14, .pv (.int .i64 (c.length : Int))), (15, .pv (.int .i64 (N : Int)))] [(0, 0, rowL c)] e tm2 hp2) =>
    RunsL.rounds (N := N) (fun k => [(0, .ls 0 c.length), (13, .ls 0 c.length), (14, .pv (.int .i64 (c.length : Int))), (15, .pv (.int .i64 (k : Int)))]) (fun _ => [(0, 0, rowL c)]) N 0 (Nat.zero_add _) (fun k _ hk r => by
      obtain ⟨x, hx⟩ := get_some (l := c) (k := k) (by omega)
      have il := IsLead_any (hi x (List.mem_of_getElem? hx))
      rw [hok k x hk hx] at il
      cases k with
      | zero => exact ck_zero hx ⟨by omega, by omega⟩ (dt (by omega)) il (i64_succ (by omega)) r
      | succ k =>
        obtain ⟨y, hy⟩ := get_some (l := c) (k := k) (by omega)
        have fo := Follows_any (hi y (List.mem_of_getElem? hy)) (hi x (List.mem_of_getElem? hx)) (hok k y (by omega) hy) (hok (k + 1) x hk hx)
        rw [hfo k y x hk hy hx] at fo
        exact ck_next hx ⟨by omega, by omega⟩ hy ⟨by omega, by omega⟩ (dt (by omega)) il (dt (by omega)) (i64_pred k (by omega)) fo (i64_succ (by omega)) r) last
  rcases first_nat (fun k => ∀ x, c[k]? = some x → okLd x = true ∧ ∀ j y, k = j + 1 → c[j]? = some y → folB y x = true) c.length with hall | ⟨j, hj, hbad, hbef⟩
  · have hv : VC c := ⟨by omega, by omega, fun x hx => by
      obtain ⟨k, hk, rfl⟩ := List.getElem_of_mem hx
      exact (hall k hk _ (List.getElem?_eq_getElem hk)).1, fun k x y hx hy => (hall (k + 1) (get_lt hy) y hy).2 k x rfl hx⟩
    rw [if_pos hv]
    exact ck_yes e0 (df (by omega)) (hL c.length (Nat.le_refl _) (fun k x hk hx => (hall k hk x hx).1) (fun k x y hk hx hy => (hall (k + 1) hk y hy).2 k x rfl hx) (ck_end (df (by omega))))
  · have hno : ¬ VC c := fun hv => hbad fun x hx => ⟨hv.ok x (List.mem_of_getElem? hx), fun i y e hy => by subst e; exact hv.fol i y x hy hx⟩
    rw [if_neg hno]
    obtain ⟨x, hx⟩ := get_some (l := c) (k := j) hj
    refine ck_no e0 (df (by omega)) (hL j (by omega) (fun k x hk hx => (hbef k hk x hx).1) (fun k x y hk hx hy => (hbef (k + 1) hk y hy).2 k x rfl hx) ?_)
    have il := IsLead_any (hi x (List.mem_of_getElem? hx))
    by_cases ho : okLd x = true
    · rw [ho] at il
      cases j with
      | zero => exact (hbad fun x' hx' => by rw [hx] at hx'; cases hx'; exact ⟨ho, fun j y e => by omega⟩).elim
      | succ j =>
        obtain ⟨y, hy⟩ := get_some (l := c) (k := j) (by omega)
        have fo := Follows_any (hi y (List.mem_of_getElem? hy)) (hi x (List.mem_of_getElem? hx)) ((hbef j (by omega) y hy).1) ho
        have hf : folB y x = false := by
          cases hf : folB y x with
          | false => rfl
          | true => exact (hbad fun x' hx' => by
              rw [hx] at hx'; cases hx'
              exact ⟨ho, fun i z e hz => by
                have : i = j := by omega
                subst this
                rw [hy] at hz; cases hz; exact hf⟩).elim
        rw [hf] at fo
        exact ck_order hx ⟨by omega, by omega⟩ hy ⟨by omega, by omega⟩ (dt (by omega)) il (dt (by omega)) (i64_pred j (by omega)) fo
    · have ho' : okLd x = false := by simpa using ho
      rw [ho'] at il
      exact ck_bad hx ⟨by omega, by omega⟩ (dt (by omega)) il
end Go.Proofs.YtpngjeloiifgnaaGreat
