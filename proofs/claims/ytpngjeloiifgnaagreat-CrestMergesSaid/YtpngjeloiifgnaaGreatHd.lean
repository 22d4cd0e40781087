/-
  The crest of a field: Of of package crest, and what a crest is. Conditions: none.
-/
import Derived.Test.YtpngjeloiifgnaaGreatW37
import Derived.Test.YtpngjeloiifgnaaGreatW36
import Derived.Test.YtpngjeloiifgnaaGreatMa
import Derived.Test.YtpngjeloiifgnaaGreatFq
import Derived.Test.YtpngjeloiifgnaaGreatMc
import Derived.Test.YtpngjeloiifgnaaGreatSxU
import Derived.Test.YtpngjeloiifgnaaGreatSm4
import Derived.Shelf.SlSortCmp.NoneTotal
import Derived.Shelf.SlSortCmp.WholeK
namespace Go.Proofs.YtpngjeloiifgnaaGreat
open Go.RowKit
section
variable {l : List Pt}
theorem meet_turn {p q : Pt} {m : Mt} (h : m.n * (p.b - q.b) = (q.a - p.a) * m.d) : m.n * (q.b - p.b) = (p.a - q.a) * m.d := by
  have e1 : m.n * (q.b - p.b) = -(m.n * (p.b - q.b)) := by rw [← Int.mul_neg]; congr 1; omega
  have e2 : (p.a - q.a) * m.d = -((q.a - p.a) * m.d) := by rw [← Int.neg_mul]; congr 1; omega
  rw [e1, e2, h]
/-- A faster point is behind just before their meeting. -/
theorem ld_faster {p q : Pt} {m : Mt} (ok : MSpec p q m) (hb : p.b < q.b) {T D : Int} : ld T D q p = decide ((T * m.d - m.n * D).sign ≥ 0) := by
  have k0 := okB_den ok.ok
  unfold ld
  rw [leads_meet (m := m.n) (k := m.d) (by omega) (meet_turn ok.eq) (by omega), dt (show q.b > p.b by omega)]
  cases decide ((T * m.d - m.n * D).sign ≥ 0) <;> rfl
/-- A lead of a point that leads. -/
structure Base (l : List Pt) (p : Pt) (x : Ld) : Prop where
  mem : p ∈ l
  id : p.id = x.id
  tm : Tm x.n x.d
  top : ∀ q ∈ l, ld x.n x.d q p = false
noncomputable abbrev nxL (l : List Pt) (m : Mt) : Ld := ⟨m.n, m.d, (ldr l m.n m.d).id⟩
/-- A lead, and those that come behind it. -/
inductive Cr (l : List Pt) : Pt → Ld → List Ld → Prop where
  | stop {p : Pt} {x : Ld} (b : Base l p x) (h : nextM p l = none) : Cr l p x []
  | step {p : Pt} {x : Ld} {m : Mt} {t : List Ld} (b : Base l p x) (h : nextM p l = some m) (r : Cr l (ldr l m.n m.d) (nxL l m) t) : Cr l p x (nxL l m :: t)
/-- The crest of a field from a time on. -/
noncomputable def crest (l : List Pt) (n d : Int) : List Ld := open Classical in if h : ∃ t, Cr l (ldr l n d) ⟨n, d, (ldr l n d).id⟩ t then ⟨n, d, (ldr l n d).id⟩ :: h.choose else []
end
def okLd (x : Ld) : Bool := okB x.n x.d && (decide (0 ≤ x.id) && decide (x.id ≤ 65535))
/-- A lead may come behind another one. -/
def folB (x y : Ld) : Bool := (!(y.id == x.id)) && decide ((x.n * y.d - y.n * x.d).sign < 0)
structure I64L (x : Ld) : Prop where
  n : I64 x.n
  d : I64 x.d
structure VC (c : List Ld) : Prop where
  pos : 0 < c.length
  len : c.length ≤ 300
  ok : ∀ x ∈ c, okLd x = true
  fol : ∀ (k : Nat) (x y : Ld), c[k]? = some x → c[k + 1]? = some y → folB x y = true
theorem IsLead_any {x : Ld} (h : I64L x) : Pure Tryz.prog 53 #[leadV x] (.bool (okLd x)) := by
  unfold okLd
  by_cases h1 : okB x.n x.d = true
  · rw [h1]
    have c := Check_ok h.n h.d h1
    by_cases h2 : 0 ≤ x.id
    · rw [dt h2]
      exact il_hi c (dt h2) (by simp)
    · rw [df h2]; exact il_lo c (df h2)
  · have e : okB x.n x.d = false := by simpa using h1
    rw [e]
    exact il_bad (Check_bad h.n h.d h1) (by decide)
theorem Follows_any {x y : Ld} (hx : I64L x) (hy : I64L y) (ox : okLd x = true) (oy : okLd y = true) : Pure Tryz.prog 54 #[leadV y, leadV x] (.bool (folB x y)) := by
  unfold folB
  unfold okLd at ox oy
  simp only [Bool.and_eq_true] at ox oy
  by_cases h : (y.id == x.id) = true
  · rw [h]; exact fo_no (by rw [h]; rfl)
  · have e : (y.id == x.id) = false := by simpa using h
    rw [e]
    exact fo_yes (by rw [e]; rfl) (CBef_ok hx.n hx.d hy.n hy.d ox.1 oy.1)
/-- The error of Check. -/
noncomputable def ckL (c : List Ld) : Int := open Classical in if VC c then 0 else 8
theorem PCk_any {c : List Ld} (hi : ∀ x ∈ c, I64L x) (hn : c.length ≤ 100000) : FnL Tryz.prog 21 1 [.ls 0 c.length] [(0, 0, rowL c)] (.pv (.int .i64 (ckL c))) 0 [] := by
  unfold ckL
  by_cases h0 : c.length = 0
  · rw [if_neg (fun h => by have := h.pos; omega)]
    exact ck_none (by simp [h0])
  have e0 : ((c.length : Int) == 0) = false := by rw [beq_eq_false_iff_ne]; omega
  by_cases h3 : c.length > 300
  · rw [if_neg (fun h => by have := h.len; omega)]
    exact ck_many e0 (dt (by omega))
  have hL := fun (N : Nat) (hN : N ≤ c.length) (hok : ∀ k x, k < N → c[k]? = some x → okLd x = true) (hfo : ∀ k x y, k + 1 < N → c[k]? = some x → c[k + 1]? = some y → folB x y = true) {e : Exit} {tm2 : List (Nat × SV)} {hp2 : List (Nat × Nat × SV)}
      (last : RunsL Tryz.prog 1 1 (loopOf Tryz.prog 21 0) 38 1 [(0, .ls 0 c.length), (13, .ls 0 c.length), (14, .pv (.int .i64 (c.length : Int))), (15, .pv (.int .i64 (N : Int)))] [(0, 0, rowL c)] e tm2 hp2) =>
    RunsL.rounds (N := N) (fun k => [(0, .ls 0 c.length), (13, .ls 0 c.length), (14, .pv (.int .i64 (c.length : Int))), (15, .pv (.int .i64 (k : Int)))]) (fun _ => [(0, 0, rowL c)]) N 0 (Nat.zero_add _) (fun k _ hk r => by
      obtain ⟨x, hx⟩ := get_some (l := c) (k := k) (by omega)
      have il := IsLead_any (hi x (List.mem_of_getElem? hx))
      rw [hok k x hk hx] at il
      cases k with
      | zero => exact ck_zero hx ⟨by omega, by omega⟩ (dt (by omega)) il (i64_succ (by omega)) r
      | succ k =>
        obtain ⟨y, hy⟩ := get_some (l := c) (k := k) (by omega)
        have fo := Follows_any (hi y (List.mem_of_getElem? hy)) (hi x (List.mem_of_getElem? hx)) (hok k y (by omega) hy) (hok (k + 1) x hk hx)
        rw [hfo k y x hk hy hx] at fo
        exact ck_next hx ⟨by omega, by omega⟩ hy ⟨by omega, by omega⟩ (dt (by omega)) il (dt (by omega)) (i64_pred k (by omega)) fo (i64_succ (by omega)) r) last
  rcases first_nat (fun k => ∀ x, c[k]? = some x → okLd x = true ∧ ∀ j y, k = j + 1 → c[j]? = some y → folB y x = true) c.length with hall | ⟨j, hj, hbad, hbef⟩
  · have hv : VC c := ⟨by omega, by omega, fun x hx => by
      obtain ⟨k, hk, rfl⟩ := List.getElem_of_mem hx
      exact (hall k hk _ (List.getElem?_eq_getElem hk)).1, fun k x y hx hy => (hall (k + 1) (get_lt hy) y hy).2 k x rfl hx⟩
    rw [if_pos hv]
    exact ck_yes e0 (df (by omega)) (hL c.length (Nat.le_refl _) (fun k x hk hx => (hall k hk x hx).1) (fun k x y hk hx hy => (hall (k + 1) hk y hy).2 k x rfl hx) (ck_end (df (by omega))))
  · have hno : ¬ VC c := fun hv => hbad fun x hx => ⟨hv.ok x (List.mem_of_getElem? hx), fun i y e hy => by subst e; exact hv.fol i y x hy hx⟩
    rw [if_neg hno]
    obtain ⟨x, hx⟩ := get_some (l := c) (k := j) hj
    refine ck_no e0 (df (by omega)) (hL j (by omega) (fun k x hk hx => (hbef k hk x hx).1) (fun k x y hk hx hy => (hbef (k + 1) hk y hy).2 k x rfl hx) ?_)
    have il := IsLead_any (hi x (List.mem_of_getElem? hx))
    by_cases ho : okLd x = true
    · rw [ho] at il
      cases j with
      | zero => exact (hbad fun x' hx' => by rw [hx] at hx'; cases hx'; exact ⟨ho, fun j y e => by omega⟩).elim
      | succ j =>
        obtain ⟨y, hy⟩ := get_some (l := c) (k := j) (by omega)
        have fo := Follows_any (hi y (List.mem_of_getElem? hy)) (hi x (List.mem_of_getElem? hx)) ((hbef j (by omega) y hy).1) ho
        have hf : folB y x = false := by
          cases hf : folB y x with
          | false => rfl
          | true => exact (hbad fun x' hx' => by
              rw [hx] at hx'; cases hx'
              exact ⟨ho, fun i z e hz => by
                have : i = j := by omega
                subst this
                rw [hy] at hz; cases hz; exact hf⟩).elim
        rw [hf] at fo
        exact ck_order hx ⟨by omega, by omega⟩ hy ⟨by omega, by omega⟩ (dt (by omega)) il (dt (by omega)) (i64_pred j (by omega)) fo
    · have ho' : okLd x = false := by simpa using ho
      rw [ho'] at il
      exact ck_bad hx ⟨by omega, by omega⟩ (dt (by omega)) il
end Go.Proofs.YtpngjeloiifgnaaGreat
