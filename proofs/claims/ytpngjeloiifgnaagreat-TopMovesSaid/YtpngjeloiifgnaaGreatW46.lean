/-
  Joined: He, Hg, Jb, Jc. Conditions: none.
-/
import Derived.Test.YtpngjeloiifgnaaGreatHd
import Derived.Test.YtpngjeloiifgnaaGreatW37
import Derived.Test.YtpngjeloiifgnaaGreatFm
import Derived.Test.YtpngjeloiifgnaaGreatW41
import Derived.Test.YtpngjeloiifgnaaGreatJa
namespace Go.Proofs.YtpngjeloiifgnaaGreat
open Go.RowKit
set_option maxRecDepth 100000 in
theorem rk_zero {s : List Ld} {x : Ld} (hk : s[0]? = some x) (hin : 0 ≤ ((0 : Nat) : Int) ∧ ((0 : Nat) : Int) < (s.length : Int)) (hlt : decide (((0 : Nat) : Int) < (s.length : Int)) = true) (hc : Pure Tryz.prog 14 #[ratioV x.n x.d] (.int .i64 (0))) (h1 : decide (x.id < 0) = false) (h2 : decide (x.id > 65535) = false) (hs : Value.int .i64 (IntKind.i64.wrap (((0 : Nat) : Int) + 1)) = .int .i64 (((0 + 1 : Nat) : Int))) {e : Exit} {tm2 : List (Nat × SV)} {hp2 : List (Nat × Nat × SV)}
    (r : RunsL Tryz.prog 1 1 (loopOf Tryz.prog 25 0) 72 1 ([(0, .ls 0 s.length), (3, .pv (.int .i64 ((0 + 1 : Nat) : Int)))]) ([(0, 0, rowL s)]) e tm2 hp2) : RunsL Tryz.prog 1 1 (loopOf Tryz.prog 25 0) 72 1 ([(0, .ls 0 s.length), (3, .pv (.int .i64 ((0 : Nat) : Int)))]) ([(0, 0, rowL s)]) e tm2 hp2 :=
  RunsL.next [] 300 [.t true, .r (ratioV x.n x.d), .r (.int .i64 (0)), .k, .r (.int .i64 (x.id)), .t false, .r (.int .i64 (x.id)), .t false, .k, .r (.int .i64 (((0 + 1 : Nat) : Int)))]
    (round_of (And.intro hlt (And.intro hin (And.intro (ra_lf hk) (And.intro hc (And.intro hin (And.intro (ra_li hk) (And.intro h1 (And.intro hin (And.intro (ra_li hk) (And.intro h2 (And.intro hs True.intro))))))))))) (by kernel_rfl)) r

set_option maxRecDepth 100000 in
theorem rk_next {s : List Ld} {k : Nat} {x y : Ld} {c : Int} (hk : s[k + 1]? = some y) (hin : 0 ≤ ((k + 1 : Nat) : Int) ∧ ((k + 1 : Nat) : Int) < (s.length : Int)) (hk0 : s[k]? = some x) (hin0 : 0 ≤ (k : Int) ∧ (k : Int) < (s.length : Int)) (hlt : decide (((k + 1 : Nat) : Int) < (s.length : Int)) = true) (hc : Pure Tryz.prog 14 #[ratioV y.n y.d] (.int .i64 (0))) (h1 : decide (y.id < 0) = false) (h2 : decide (y.id > 65535) = false) (hpos : decide (((k + 1 : Nat) : Int) > 0) = true) (hm : Value.int .i64 (IntKind.i64.wrap (((k + 1 : Nat) : Int) - 1)) = .int .i64 ((k : Int))) (hcc : Pure Tryz.prog 29 #[ratioV x.n x.d, ratioV y.n y.d] (.int .i64 (c))) (hcz : decide (c ≥ 0) = false) (hid : (x.id == y.id) = false) (hs : Value.int .i64 (IntKind.i64.wrap (((k + 1 : Nat) : Int) + 1)) = .int .i64 (((k + 1 + 1 : Nat) : Int))) {e : Exit} {tm2 : List (Nat × SV)} {hp2 : List (Nat × Nat × SV)}
    (r : RunsL Tryz.prog 1 1 (loopOf Tryz.prog 25 0) 72 1 ([(0, .ls 0 s.length), (3, .pv (.int .i64 ((k + 1 + 1 : Nat) : Int)))]) ([(0, 0, rowL s)]) e tm2 hp2) : RunsL Tryz.prog 1 1 (loopOf Tryz.prog 25 0) 72 1 ([(0, .ls 0 s.length), (3, .pv (.int .i64 ((k + 1 : Nat) : Int)))]) ([(0, 0, rowL s)]) e tm2 hp2 :=
  RunsL.next [] 300 [.t true, .r (ratioV y.n y.d), .r (.int .i64 (0)), .k, .r (.int .i64 (y.id)), .t false, .r (.int .i64 (y.id)), .t false, .t true, .r (.int .i64 ((k : Int))), .r (ratioV x.n x.d), .r (ratioV y.n y.d), .r (.int .i64 (c)), .t false, .r (.int .i64 ((k : Int))), .r (.int .i64 (x.id)), .r (.int .i64 (y.id)), .t false, .r (.int .i64 (((k + 1 + 1 : Nat) : Int)))]
    (round_of (And.intro hlt (And.intro hin (And.intro (ra_lf hk) (And.intro hc (And.intro hin (And.intro (ra_li hk) (And.intro h1 (And.intro hin (And.intro (ra_li hk) (And.intro h2 (And.intro hpos (And.intro hm (And.intro hin0 (And.intro (ra_lf hk0) (And.intro hin (And.intro (ra_lf hk) (And.intro hcc (And.intro hcz (And.intro hm (And.intro hin0 (And.intro (ra_li hk0) (And.intro hin (And.intro (ra_li hk) (And.intro hid (And.intro hs True.intro))))))))))))))))))))))))) (by kernel_rfl)) r

set_option maxRecDepth 100000 in
theorem rk_end {s : List Ld} {k : Nat} (hge : decide ((k : Int) < (s.length : Int)) = false) : RunsL Tryz.prog 1 1 (loopOf Tryz.prog 25 0) 72 1 ([(0, .ls 0 s.length), (3, .pv (.int .i64 (k : Int)))]) ([(0, 0, rowL s)]) (.exit 0) ([]) ([]) :=
  RunsL.stop [] 300 [.t false] (fun h => by cases h)
    (round_of (And.intro hge True.intro) (by kernel_rfl))

set_option maxRecDepth 100000 in
theorem rk_path {s : List Ld} (h0 : decide ((s.length : Int) < 1) = false) (h3 : decide ((s.length : Int) > 300) = false) (r0 : RunsL Tryz.prog 1 1 (loopOf Tryz.prog 25 0) 72 1 ([(0, .ls 0 s.length), (3, .pv (.int .i64 ((0 : Nat) : Int)))]) ([(0, 0, rowL s)]) (.exit 0) ([]) ([])) :
    FnL Tryz.prog 25 1 [.ls 0 s.length] [(0, 0, rowL s)] (.pv (.int .i64 (0))) 0 [] :=
  fnl_run 300 [] [.t false, .t false, .l (.exit 0) ([(0, .ls 0 s.length), (3, .pv (.int .i64 ((0 : Nat) : Int)))]) ([(0, 0, rowL s)]) ([]) ([])]
     True.intro (And.intro h0 (And.intro h3 (And.intro (reflT (renN []) ([(0, .ls 0 s.length), (3, .pv (.int .i64 ((0 : Nat) : Int)))])) (And.intro (reflH (renN []) ([(0, 0, rowL s)])) (And.intro r0 True.intro))))) (by kernel_rfl)

theorem frac_lt_le {an ad bn bd cn cd : Int} (h1 : 0 < ad) (h2 : 0 < bd) (h3 : 0 < cd) (a : an * bd < bn * ad) (b : bn * cd ≤ cn * bd) : an * cd < cn * ad := by
  have e1 : an * bd * cd < bn * ad * cd := Int.mul_lt_mul_of_pos_right a h3
  have e2 : bn * cd * ad ≤ cn * bd * ad := Int.mul_le_mul_of_nonneg_right b (by omega)
  have e3 : an * cd * bd < cn * ad * bd := by grind
  exact Int.lt_of_mul_lt_mul_right e3 (by omega)
theorem frac_lt {an ad bn bd cn cd : Int} (h1 : 0 < ad) (h2 : 0 < bd) (h3 : 0 < cd) (a : an * bd < bn * ad) (b : bn * cd < cn * bd) : an * cd < cn * ad := frac_lt_le h1 h2 h3 a (by omega)

abbrev lbT (s : List Ld) (i j : Nat) : List (Nat × SV) := [(0, .ls 0 s.length), (2, .pv (.func (.func 108) #[] #[])), (4, .pp 1 0), (8, .pv (.int .i64 (s.length : Int))), (9, .pv (.int .i64 (i : Int))), (10, .pv (.int .i64 (j : Int)))]
/-- How a lead's time lies to a time. -/
def cv (x : Ld) (tn td : Int) : Int := (x.n * td - tn * x.d).sign
theorem Lf_ok {x : Ld} {tn td : Int} (hx : I64L x) (ht : Tm tn td) (h : okB x.n x.d = true) : Pure Tryz.prog 108 #[leadV x, ratioV tn td] (.int .i64 (cv x tn td)) := clf_path (CCmp_ok hx.n hx.d ht.hn ht.hd h ht.ok)
theorem lbs_loop {s : List Ld} (hn : s.length ≤ 1000) (hi : ∀ x ∈ s, I64L x) (ho : ∀ x ∈ s, okB x.n x.d = true) {tn td : Int} (ht : Tm tn td) {k : Nat} (hlo : ∀ (t : Nat) (x : Ld), t < k → s[t]? = some x → cv x tn td < 0) (hhi : ∀ (t : Nat) (x : Ld), k ≤ t → s[t]? = some x → ¬ cv x tn td < 0) : ∀ (d i j : Nat), j - i ≤ d → i ≤ k → k ≤ j → j ≤ s.length →
    RunsL Tryz.prog 1 1 (loopOf Tryz.prog 107 0) 49 2 (lbT s i j) [(1, 0, .pv (.int .i64 tn)), (1, 1, .pv (.int .i64 td)), (0, 0, rowL s)] (.exit 0) (lbT s k k) [(1, 0, .pv (.int .i64 tn)), (1, 1, .pv (.int .i64 td)), (0, 0, rowL s)] := by
  intro d
  induction d with
  | zero =>
    intro i j hd h1 h2 h3
    have : i = k := by omega
    have : j = k := by omega
    subst i j
    exact lbs_end (df (by omega))
  | succ d ih =>
    intro i j hd h1 h2 h3
    by_cases hij : i < j
    · obtain ⟨x, hx⟩ := get_some (l := s) (k := (i + j) / 2) (by omega)
      have hc := Lf_ok (hi x (List.mem_of_getElem? hx)) ht (ho x (List.mem_of_getElem? hx))
      have a1 : Value.int .i64 (IntKind.i64.wrap ((i : Int) + (j : Int))) = .int .i64 ((i : Int) + (j : Int)) := by rw [wrap_i64_in (by omega) (by omega)]
      have a2 : Value.int .u64 (IntKind.u64.wrap ((i : Int) + (j : Int))) = .int .u64 ((i : Int) + (j : Int)) := by rw [wrap_in (by omega) (by omega)]
      have a3 : Value.int .u64 (((i : Int) + (j : Int)).fdiv (2 ^ (min (1 : Int).toNat IntKind.u64.bits))) = .int .u64 (((i + j) / 2 : Nat) : Int) := by
        have : (2 : Int) ^ (min (1 : Int).toNat IntKind.u64.bits) = 2 := rfl
        rw [this, Int.fdiv_eq_ediv_of_nonneg _ (by omega)]
        congr 1
      have a4 : Value.int .i64 (IntKind.i64.wrap (((i + j) / 2 : Nat) : Int)) = .int .i64 (((i + j) / 2 : Nat) : Int) := by rw [wrap_i64_in (by omega) (by omega)]
      by_cases hlt : cv x tn td < 0
      · refine lbs_up hx ⟨by omega, by have := get_lt hx; omega⟩ (dt (by omega)) a1 a2 (by omega) a3 a4 hc (dt hlt) (i64_succ (by omega)) (ih _ _ (by omega) ?_ h2 h3)
        rcases Nat.lt_or_ge ((i + j) / 2) k with h | h
        · exact h
        · exact (hhi _ x h hx hlt).elim
      · refine lbs_dn hx ⟨by omega, by have := get_lt hx; omega⟩ (dt (by omega)) a1 a2 (by omega) a3 a4 hc (df hlt) (ih _ _ (by omega) h1 ?_ (by omega))
        rcases Nat.lt_or_ge ((i + j) / 2) k with h | h
        · exact (hlt (hlo _ x h hx)).elim
        · exact h
    · have : i = k := by omega
      have : j = k := by omega
      subst i j
      exact lbs_end (df (by omega))
/-- The lead at a time: number k's time is not behind it, that of number k + 1 is. -/
structure AtK (s : List Ld) (tn td : Int) (k : Nat) (x : Ld) : Prop where
  get : s[k]? = some x
  le : cv x tn td ≤ 0
  lo : ∀ (t : Nat) (y : Ld), t < k → s[t]? = some y → cv y tn td < 0
  hi : ∀ (t : Nat) (y : Ld), k < t → s[t]? = some y → cv y tn td > 0
theorem LA_ok {s : List Ld} (hn : s.length ≤ 1000) (hi : ∀ x ∈ s, I64L x) (ho : ∀ x ∈ s, okB x.n x.d = true) {tn td : Int} (ht : Tm tn td) {k : Nat} {x : Ld} (h : AtK s tn td k x) : FnL Tryz.prog 58 1 [.ls 0 s.length, .pv (ratioV tn td)] [(0, 0, rowL s)] (.pv (.int .i64 x.id)) 0 [] := by
  have hk := get_lt h.get
  have hm := List.mem_of_getElem? h.get
  by_cases h0 : cv x tn td = 0
  · have hb := lbs_loop hn hi ho ht (k := k) h.lo (fun t y ht' hy => by
      rcases Nat.lt_or_ge k t with g | g
      · have := h.hi t y g hy; omega
      · have : t = k := by omega
        subst this
        rw [h.get] at hy; cases hy; omega) s.length 0 s.length (by omega) (Nat.zero_le _) (by omega) (Nat.le_refl _)
    exact lat_hit (lbf_hit hb h.get ⟨by omega, by omega⟩ (dt (by omega)) (Lf_ok (hi x hm) ht (ho x hm)) (by rw [h0]; rfl)) h.get ⟨by omega, by omega⟩
  · have hb := lbs_loop hn hi ho ht (k := k + 1) (fun t y ht' hy => by
      rcases Nat.lt_or_ge t k with g | g
      · exact h.lo t y g hy
      · have : t = k := by omega
        subst this
        rw [h.get] at hy; cases hy; have := h.le; omega) (fun t y ht' hy => by have := h.hi t y (by omega) hy; omega) s.length 0 s.length (by omega) (Nat.zero_le _) (by omega) (Nat.le_refl _)
    by_cases hl : k + 1 < s.length
    · obtain ⟨y, hy⟩ := get_some (l := s) (k := k + 1) hl
      have hy' := List.mem_of_getElem? hy
      have hp := h.hi (k + 1) y (by omega) hy
      exact lat_no (lbf_no hb hy ⟨by omega, by omega⟩ (dt (by omega)) (Lf_ok (hi y hy') ht (ho y hy')) (by rw [beq_eq_false_iff_ne]; omega)) (i64_pred k (by omega)) h.get ⟨by omega, by omega⟩
    · exact lat_no (lbf_out hb (df (by omega))) (i64_pred k (by omega)) h.get ⟨by omega, by omega⟩
theorem VC.tm {c : List Ld} (h : VC c) {x : Ld} (hx : x ∈ c) : okB x.n x.d = true := by
  have := h.ok x hx
  unfold okLd at this
  simp only [Bool.and_eq_true] at this
  exact this.1
theorem VC.den {c : List Ld} (h : VC c) {x : Ld} (hx : x ∈ c) : 0 < x.d := by have := okB_den (h.tm hx); omega
theorem VC.step {c : List Ld} (h : VC c) {k : Nat} {x y : Ld} (hx : c[k]? = some x) (hy : c[k + 1]? = some y) : x.n * y.d < y.n * x.d := by
  have := h.fol k x y hx hy
  unfold folB at this
  simp only [Bool.and_eq_true] at this
  have h2 := of_decide_eq_true this.2
  rcases sg_cases (x.n * y.d - y.n * x.d) with ⟨w, z⟩ | ⟨w, z⟩ | ⟨w, z⟩ <;> omega
theorem VC.mono {c : List Ld} (h : VC c) {i : Nat} {x : Ld} (hx : c[i]? = some x) : ∀ (d : Nat) {y : Ld}, c[i + d + 1]? = some y → x.n * y.d < y.n * x.d
  | 0, y, hy => h.step hx hy
  | d + 1, y, hy => by
    have hl := get_lt hy
    obtain ⟨z, hz⟩ := get_some (l := c) (k := i + d + 1) (by omega)
    have h1 := VC.mono h hx d hz
    have h2 := h.step hz hy
    exact frac_lt (h.den (List.mem_of_getElem? hx)) (h.den (List.mem_of_getElem? hz)) (h.den (List.mem_of_getElem? hy)) h1 h2
theorem cv_neg {x : Ld} {tn td : Int} : cv x tn td < 0 ↔ x.n * td < tn * x.d := by
  unfold cv; rcases sg_cases (x.n * td - tn * x.d) with ⟨w, z⟩ | ⟨w, z⟩ | ⟨w, z⟩ <;> omega
theorem cv_pos {x : Ld} {tn td : Int} : cv x tn td > 0 ↔ tn * x.d < x.n * td := by
  unfold cv; rcases sg_cases (x.n * td - tn * x.d) with ⟨w, z⟩ | ⟨w, z⟩ | ⟨w, z⟩ <;> omega
/-- At each time that is not before the first lead there is a lead. -/
theorem at_ex {c : List Ld} (h : VC c) {tn td : Int} (hd : 0 < td) {x0 : Ld} (h0 : c[0]? = some x0) (hle : cv x0 tn td ≤ 0) : ∃ k x, AtK c tn td k x := by
  rcases first_nat (fun k => ∀ x, c[k]? = some x → cv x tn td ≤ 0) c.length with hall | ⟨j, hj, hbad, hbef⟩
  · obtain ⟨x, hx⟩ := get_some (l := c) (k := c.length - 1) (by have := h.pos; omega)
    refine ⟨c.length - 1, x, hx, hall _ (by have := h.pos; omega) x hx, fun t y ht hy => ?_, fun t y ht hy => by have := get_lt hy; omega⟩
    have h1 := h.mono hy (c.length - 1 - t - 1) (by rw [show t + (c.length - 1 - t - 1) + 1 = c.length - 1 by omega]; exact hx)
    have h2 := hall _ (by have := h.pos; omega) x hx
    have h3 : ¬ cv x tn td > 0 := by omega
    rw [cv_pos] at h3
    rw [cv_neg]
    exact frac_lt_le (h.den (List.mem_of_getElem? hy)) (h.den (List.mem_of_getElem? hx)) hd h1 (by omega)
  · cases j with
    | zero => exact (hbad fun x hx => by rw [h0] at hx; cases hx; exact hle).elim
    | succ j =>
      obtain ⟨x, hx⟩ := get_some (l := c) (k := j) (by omega)
      obtain ⟨z, hz⟩ := get_some (l := c) (k := j + 1) hj
      have hzp : cv z tn td > 0 := by
        rcases Int.lt_or_le 0 (cv z tn td) with g | g
        · exact g
        · exact (hbad fun x' hx' => by rw [hz] at hx'; cases hx'; exact g).elim
      have hle' := hbef j (by omega) x hx
      refine ⟨j, x, hx, hle', fun t y ht hy => ?_, fun t y ht hy => ?_⟩
      · have h1 := h.mono hy (j - t - 1) (by rw [show t + (j - t - 1) + 1 = j by omega]; exact hx)
        have h3 : ¬ cv x tn td > 0 := by omega
        rw [cv_pos] at h3
        rw [cv_neg]
        exact frac_lt_le (h.den (List.mem_of_getElem? hy)) (h.den (List.mem_of_getElem? hx)) hd h1 (by omega)
      · rcases Nat.lt_or_ge (j + 1) t with g | g
        · have h1 := h.mono hz (t - (j + 1) - 1) (by rw [show j + 1 + (t - (j + 1) - 1) + 1 = t by omega]; exact hy)
          rw [cv_pos] at *
          exact frac_lt hd (h.den (List.mem_of_getElem? hz)) (h.den (List.mem_of_getElem? hy)) hzp h1
        · have : t = j + 1 := by omega
          subst this
          rw [hz] at hy; cases hy; exact hzp
theorem PCk_ok {c : List Ld} (hi : ∀ x ∈ c, I64L x) (h : VC c) : FnL Tryz.prog 21 1 [.ls 0 c.length] [(0, 0, rowL c)] (.pv (.int .i64 0)) 0 [] := by
  have := PCk_any hi (by have := h.len; omega)
  unfold ckL at this
  rw [if_pos h] at this
  exact this
theorem CAt_ok {c : List Ld} (hi : ∀ x ∈ c, I64L x) (h : VC c) {tn td : Int} (ht : Tm tn td) {x0 : Ld} (h0 : c[0]? = some x0) (hp : cv x0 tn td ≤ 0) {k : Nat} {x : Ld} (hk : AtK c tn td k x) : FnL Tryz.prog 50 1 [.ls 0 c.length, .pv (ratioV tn td)] [(0, 0, rowL c)] (.pv (.tuple #[.int .i64 x.id, .int .i64 0])) 0 [] := by
  have hm := List.mem_of_getElem? h0
  have b := CBef_ok ht.hn ht.hd (hi x0 hm).n (hi x0 hm).d ht.ok (h.tm hm)
  rw [df (show ¬ (tn * x0.d - x0.n * td).sign < 0 by
    have : ¬ cv x0 tn td > 0 := by omega
    rw [cv_pos] at this
    rcases sg_cases (tn * x0.d - x0.n * td) with ⟨w, z⟩ | ⟨w, z⟩ | ⟨w, z⟩ <;> omega)] at b
  exact cat_ok (PCk_ok hi h) (Check_ok ht.hn ht.hd ht.ok) h0 ⟨by omega, by have := get_lt h0; omega⟩ b (LA_ok (by have := h.len; omega) hi (fun y hy => h.tm hy) ht hk)
theorem RCk_ok {c : List Ld} (hi : ∀ x ∈ c, I64L x) (h : VC c) : FnL Tryz.prog 25 1 [.ls 0 c.length] [(0, 0, rowL c)] (.pv (.int .i64 0)) 0 [] := by
  have h1 := h.pos
  have h2 := h.len
  have id : ∀ x ∈ c, 0 ≤ x.id ∧ x.id ≤ 65535 := fun x hx => by
    have := h.ok x hx
    unfold okLd at this
    simp only [Bool.and_eq_true] at this
    exact ⟨of_decide_eq_true this.2.1, of_decide_eq_true this.2.2⟩
  refine rk_path (df (by omega)) (df (by omega)) (RunsL.rounds (fun k => [(0, .ls 0 c.length), (3, .pv (.int .i64 (k : Int)))]) (fun _ => [(0, 0, rowL c)]) c.length 0 (Nat.zero_add _) (fun k _ hk r => ?_) (rk_end (df (by omega))))
  obtain ⟨x, hx⟩ := get_some (l := c) (k := k) hk
  have hm := List.mem_of_getElem? hx
  cases k with
  | zero => exact rk_zero hx ⟨by omega, by omega⟩ (dt (by omega)) (RCheck_ok (hi x hm).n (hi x hm).d (h.tm hm)) (df (by have := id x hm; omega)) (df (by have := id x hm; omega)) (i64_succ (by omega)) r
  | succ k =>
    obtain ⟨y, hy⟩ := get_some (l := c) (k := k) (by omega)
    have hm' := List.mem_of_getElem? hy
    have hf := h.fol k y x hy hx
    unfold folB at hf
    simp only [Bool.and_eq_true] at hf
    have g2 := of_decide_eq_true hf.2
    have g1 := hf.1
    exact rk_next hx ⟨by omega, by omega⟩ hy ⟨by omega, by omega⟩ (dt (by omega)) (RCheck_ok (hi x hm).n (hi x hm).d (h.tm hm)) (df (by have := id x hm; omega)) (df (by have := id x hm; omega)) (dt (by omega)) (i64_pred k (by omega)) (RCompare_any (hi y hm').n (hi y hm').d (hi x hm).n (hi x hm).d) (df (by omega)) (by rw [beq_eq_false_iff_ne]; intro e; rw [e] at g1; simp at g1) (i64_succ (by omega)) r
end Go.Proofs.YtpngjeloiifgnaaGreat

namespace Go.Proofs.YtpngjeloiifgnaaGreat
open Go.RowKit
section
variable {l : List Pt}
theorem Cr.at {p : Pt} {x : Ld} {t : List Ld} (h : Cr l p x t) : ∀ (k : Nat) (y : Ld), (x :: t)[k]? = some y → ∃ q, Cr l q y ((x :: t).drop (k + 1)) := by
  induction h with
  | stop b e =>
    intro k y hy
    cases k with
    | zero => cases hy; exact ⟨_, .stop b e⟩
    | succ k => simp at hy
  | step b e r ih =>
    intro k y hy
    cases k with
    | zero => cases hy; exact ⟨_, .step b e r⟩
    | succ k => exact ih k y (by simpa using hy)
theorem Cr.next {q : Pt} {y z : Ld} {t : List Ld} (hv : Val l) (h : Cr l q y (z :: t)) : ∃ m, nextM q l = some m ∧ z = nxL l m ∧ Cr l (ldr l m.n m.d) z t := by
  cases h with
  | step b e r => exact ⟨_, e, rfl, r⟩
theorem Cr.last {q : Pt} {y : Ld} (h : Cr l q y []) : nextM q l = none := by
  cases h with
  | stop b e => exact e
theorem cr_next {c : List Ld} {k : Nat} {q : Pt} {y z : Ld} (hv : Val l) (h : Cr l q y (c.drop (k + 1))) (hz : c[k + 1]? = some z) : ∃ m, nextM q l = some m ∧ z = nxL l m ∧ Cr l (ldr l m.n m.d) z (c.drop (k + 2)) := by
  have hl := get_lt hz
  have e : c.drop (k + 1) = z :: c.drop (k + 2) := by
    rw [List.drop_eq_getElem_cons hl]
    rw [List.getElem?_eq_getElem hl] at hz
    rw [Option.some.inj hz]
  rw [e] at h
  exact h.next hv
theorem cr_last {c : List Ld} {k : Nat} {q : Pt} {y : Ld} (h : Cr l q y (c.drop (k + 1))) (hk : c.length = k + 1) : nextM q l = none := by
  rw [List.drop_eq_nil_of_le (by omega)] at h
  exact h.last
/-- The chain of a crest, from each of its leads on. -/
theorem crest_at (hv : Val l) (hne : l ≠ []) {n d : Int} (ht : Tm n d) {k : Nat} {y : Ld} (h : (crest l n d)[k]? = some y) : ∃ q, Cr l q y ((crest l n d).drop (k + 1)) := by
  obtain ⟨t, h1, h2, _⟩ := crest_spec hv hne ht
  rw [h1] at h ⊢
  exact h2.at k y h
theorem crest_len (hv : Val l) (hne : l ≠ []) {n d : Int} (ht : Tm n d) : 0 < (crest l n d).length ∧ (crest l n d).length ≤ l.length := by
  obtain ⟨t, h1, _, h3⟩ := crest_spec hv hne ht
  rw [h1, List.length_cons]; omega
theorem crest_zero (hv : Val l) (hne : l ≠ []) {n d : Int} (ht : Tm n d) : (crest l n d)[0]? = some ⟨n, d, (ldr l n d).id⟩ := by
  obtain ⟨t, h1, _, _⟩ := crest_spec hv hne ht
  rw [h1]; rfl
theorem crest_base (hv : Val l) (hne : l ≠ []) {n d : Int} (ht : Tm n d) : ∀ y ∈ crest l n d, ∃ q, Base l q y := by
  intro y hy
  obtain ⟨k, hk, e⟩ := List.getElem_of_mem hy
  obtain ⟨q, h⟩ := crest_at hv hne ht (k := k) (y := y) (by rw [List.getElem?_eq_getElem hk, e])
  exact ⟨q, h.base⟩
theorem crest_i64 (hv : Val l) (hne : l ≠ []) {n d : Int} (ht : Tm n d) : ∀ y ∈ crest l n d, I64L y := by
  intro y hy
  obtain ⟨q, b⟩ := crest_base hv hne ht y hy
  exact ⟨b.tm.hn, b.tm.hd⟩
theorem crest_vc (hv : Val l) (hne : l ≠ []) {n d : Int} (ht : Tm n d) : VC (crest l n d) := by
  have hl := crest_len hv hne ht
  refine ⟨hl.1, by have := hv.len; omega, fun y hy => ?_, fun k x y hx hy => ?_⟩
  · obtain ⟨q, b⟩ := crest_base hv hne ht y hy
    unfold okLd
    have hi : 0 ≤ q.id ∧ q.id ≤ 65535 := by
      have := hv.ok q b.mem
      unfold okPt okP at this
      simp only [Bool.and_eq_true, decide_eq_true_eq] at this
      omega
    have := b.id
    rw [b.tm.ok, dt (show 0 ≤ y.id by omega), dt (show y.id ≤ 65535 by omega)]; rfl
  · obtain ⟨q, h⟩ := crest_at hv hne ht hx
    obtain ⟨m, hm, rfl, _⟩ := cr_next hv h hy
    have b := h.base
    have d0 := okB_den b.tm.ok
    obtain ⟨h1, h2, _, h4⟩ := lead_up hv b.mem (by omega) b.top hm
    unfold folB
    have hne' : (ldr l m.n m.d).id ≠ x.id := fun e => by
      have := val_id hv h4 b.mem (by rw [e, b.id])
      rw [this] at h2; omega
    have e1 : ((nxL l m).id == x.id) = false := beq_eq_false_iff_ne.2 hne'
    rw [e1, dt (show (x.n * (nxL l m).d - (nxL l m).n * x.d).sign < 0 by
      show (x.n * m.d - m.n * x.d).sign < 0
      rcases sg_cases (x.n * m.d - m.n * x.d) with ⟨w, z⟩ | ⟨w, z⟩ | ⟨w, z⟩ <;> omega)]
    rfl
/-- Between a lead and the next one its point goes on leading. -/
theorem top_stay (hv : Val l) {q : Pt} {y : Ld} (b : Base l q y) {tn td : Int} (ht : Tm tn td) (hle : cv y tn td ≤ 0) (hnx : ∀ m, nextM q l = some m → tn * m.d < m.n * td) : ∀ r ∈ l, ld tn td r q = false := by
  intro r hr
  have d0 := okB_den b.tm.ok
  have d1 := okB_den ht.ok
  have hle' : y.n * td - tn * y.d ≤ 0 := by
    have : ¬ cv y tn td > 0 := by omega
    rw [cv_pos] at this; omega
  rcases Int.lt_trichotomy r.b q.b with h | h | h
  · exact ld_stay hv b.mem hr (by omega) (by omega) h (b.top r hr) hle'
  · rw [ld_equal (T' := y.n) (D' := y.d) (by omega) (by omega) h]; exact b.top r hr
  · obtain ⟨m', hm', ok⟩ := nextOf_yes (hv.ok q b.mem) (hv.ok r hr) h
    have hl := least_all (p := q) hv (hv.ok q b.mem)
    have k0 := okB_den ok.ok
    rw [ld_faster ok h]
    cases hm : nextM q l with
    | none => rw [hm] at hl; rw [hl r hr] at hm'; cases hm'
    | some m =>
      rw [hm] at hl
      have h1 := hl.2 r hr m' hm'
      obtain ⟨⟨q', hq', hq2⟩, _⟩ := hl
      have ok2 := (nextOf_some (hv.ok q b.mem) (hv.ok q' hq') hq2).2
      have k2 := okB_den ok2.ok
      have h2 := frac_lt_le (an := tn) (ad := td) (bn := m.n) (bd := m.d) (cn := m'.n) (cd := m'.d) (by omega) (by omega) (by omega) (hnx m hm) (by omega)
      refine df fun g => ?_
      have := (sign_ge _).1 g
      omega
/-- Who leads at a time at which a lead holds. -/
theorem at_leads (hv : Val l) (hne : l ≠ []) {n d tn td : Int} (h0 : Tm n d) (ht : Tm tn td) {k : Nat} {y : Ld} (h : AtK (crest l n d) tn td k y) : ∃ q, Cr l q y ((crest l n d).drop (k + 1)) ∧ ldr l tn td = q := by
  obtain ⟨q, hc⟩ := crest_at hv hne h0 h.get
  refine ⟨q, hc, ldr_of hv hc.base.mem (top_stay hv hc.base ht h.le fun m hm => ?_)⟩
  rcases Nat.lt_or_ge (k + 1) (crest l n d).length with g | g
  · obtain ⟨z, hz⟩ := get_some g
    obtain ⟨m', hm', rfl, _⟩ := cr_next hv hc hz
    rw [hm'] at hm; cases hm
    have := h.hi (k + 1) _ (by omega) hz
    rw [cv_pos] at this
    exact this
  · rw [cr_last hc (by have := get_lt h.get; omega)] at hm; cases hm
end
theorem nm_none {l : List Pt} {p : Pt} (h : ∀ q ∈ l, ¬ p.b < q.b) : nextM p l = none := by
  have : ∀ (X : List Pt), (∀ q ∈ X, ¬ p.b < q.b) → X.foldl (fstep p) none = none := by
    intro X
    induction X with
    | nil => intro _; rfl
    | cons a r ih =>
      intro hX
      have : fstep p none a = none := by unfold fstep; rw [nextOf_no (hX a (List.mem_cons_self ..))]
      rw [List.foldl_cons, this]
      exact ih fun q hq => hX q (List.mem_cons_of_mem _ hq)
  exact this l h
theorem crest_eq {l : List Pt} (hv : Val l) (hne : l ≠ []) {n d : Int} (ht : Tm n d) {p : Pt} (hp : ldr l n d = p) {t : List Ld} (h : Cr l p ⟨n, d, p.id⟩ t) : crest l n d = ⟨n, d, p.id⟩ :: t := by
  obtain ⟨t', h1, h2, _⟩ := crest_spec hv hne ht
  rw [hp] at h1 h2
  rw [h1, h2.uniq h]
end Go.Proofs.YtpngjeloiifgnaaGreat

namespace Go.Proofs.YtpngjeloiifgnaaGreat
open Go.RowKit
set_option maxRecDepth 100000 in
theorem hf_y_e1 {l : List Pt} {g : List Int} {s : List Mt} {mm : Mt} {n m k : Nat} {an ad tn td sn sd e1 e2 hn hd : Int} (hlt : decide ((k : Int) < (m : Int)) = true) (hm : s[k]? = some mm) (ik : 0 ≤ (k : Int) ∧ (k : Int) < (m : Int)) (hadd : Pure Tryz.prog 47 #[ratioV an ad, ratioV mm.n mm.d] (.tuple #[ratioV sn sd, .int .i64 e1])) (hmul : Pure Tryz.prog 48 #[ratioV sn sd, ratioV 1 2] (.tuple #[ratioV hn hd, .int .i64 e2])) (h1 : (e1 != 0) = true) :
    FnL Tryz.prog 16 3 [fldS 0 l, .ls 1 n, .pv (ratioV an ad), .lq 2 4 0 m, .pv (.int .i64 (k : Int)), .pv (ratioV tn td)] [(0, 0, rowP l), (1, 0, .row 3 1 n (idsV g)), (2, 0, rowM s)] (.pv (.bool true)) 0 [] :=
  fnl_run 300 [] [.t true, .r (ratioV mm.n mm.d), .r (.tuple #[ratioV sn sd, .int .i64 e1]), .r (.tuple #[ratioV hn hd, .int .i64 e2]), .t true]
     True.intro (And.intro hlt (And.intro ik (And.intro (ra_mat hm) (And.intro hadd (And.intro hmul (And.intro h1 True.intro)))))) (by kernel_rfl)

set_option maxRecDepth 100000 in
theorem hf_y_e2 {l : List Pt} {g : List Int} {s : List Mt} {mm : Mt} {n m k : Nat} {an ad tn td sn sd e2 hn hd : Int} (hlt : decide ((k : Int) < (m : Int)) = true) (hm : s[k]? = some mm) (ik : 0 ≤ (k : Int) ∧ (k : Int) < (m : Int)) (hadd : Pure Tryz.prog 47 #[ratioV an ad, ratioV mm.n mm.d] (.tuple #[ratioV sn sd, .int .i64 0])) (hmul : Pure Tryz.prog 48 #[ratioV sn sd, ratioV 1 2] (.tuple #[ratioV hn hd, .int .i64 e2])) (h2 : (e2 != 0) = true) :
    FnL Tryz.prog 16 3 [fldS 0 l, .ls 1 n, .pv (ratioV an ad), .lq 2 4 0 m, .pv (.int .i64 (k : Int)), .pv (ratioV tn td)] [(0, 0, rowP l), (1, 0, .row 3 1 n (idsV g)), (2, 0, rowM s)] (.pv (.bool true)) 0 [] :=
  fnl_run 300 [] [.t true, .r (ratioV mm.n mm.d), .r (.tuple #[ratioV sn sd, .int .i64 0]), .r (.tuple #[ratioV hn hd, .int .i64 e2]), .k, .t true]
     True.intro (And.intro hlt (And.intro ik (And.intro (ra_mat hm) (And.intro hadd (And.intro hmul (And.intro h2 True.intro)))))) (by kernel_rfl)

set_option maxRecDepth 100000 in
theorem hf_y_c0 {l : List Pt} {g h : List Int} {s : List Mt} {mm : Mt} {n m k : Nat} {an ad tn td sn sd hn hd cc : Int} (hlt : decide ((k : Int) < (m : Int)) = true) (hm : s[k]? = some mm) (ik : 0 ≤ (k : Int) ∧ (k : Int) < (m : Int)) (hadd : Pure Tryz.prog 47 #[ratioV an ad, ratioV mm.n mm.d] (.tuple #[ratioV sn sd, .int .i64 0])) (hmul : Pure Tryz.prog 48 #[ratioV sn sd, ratioV 1 2] (.tuple #[ratioV hn hd, .int .i64 0])) (hcmp : Pure Tryz.prog 49 #[ratioV hn hd, ratioV mm.n mm.d] (.tuple #[.int .i64 cc, .int .i64 0])) (hord : FnL Tryz.prog 13 1 [fldS 0 l, .pv (ratioV hn hd)] [(0, 0, rowP l)] (.tu [.one (.ls 1 n), .one (.pv (.int .i64 0))]) 1 [(1, 0, .row 3 1 n (idsV h))]) (hc0 : (cc == 0) = true) :
    FnL Tryz.prog 16 3 [fldS 0 l, .ls 1 n, .pv (ratioV an ad), .lq 2 4 0 m, .pv (.int .i64 (k : Int)), .pv (ratioV tn td)] [(0, 0, rowP l), (1, 0, .row 3 1 n (idsV g)), (2, 0, rowM s)] (.pv (.bool true)) 0 [] :=
  fnl_run 300 [] [.t true, .r (ratioV mm.n mm.d), .r (.tuple #[ratioV sn sd, .int .i64 0]), .r (.tuple #[ratioV hn hd, .int .i64 0]), .k, .k, .r (.tuple #[.int .i64 cc, .int .i64 0]), .f [0] [fldS 0 l, .pv (ratioV hn hd)] [(0, 0, rowP l)] (.tu [.one (.ls 1 n), .one (.pv (.int .i64 0))]) 1 [(1, 0, .row 3 1 n (idsV h))], .k, .k, .t true]
     True.intro (And.intro hlt (And.intro ik (And.intro (ra_mat hm) (And.intro hadd (And.intro hmul (And.intro hcmp (And.intro hord (And.intro (Eq.refl (List.map (SV.ren (renU [0] 8)) [fldS 0 l, .pv (ratioV hn hd)])) (And.intro (reflH (renU [0] 8) [(0, 0, rowP l)]) (And.intro hc0 True.intro)))))))))) (by kernel_rfl)

set_option maxRecDepth 100000 in
theorem hf_y_same {l : List Pt} {g h : List Int} {s : List Mt} {mm : Mt} {n m k : Nat} {an ad tn td sn sd hn hd cc : Int} (hlt : decide ((k : Int) < (m : Int)) = true) (hm : s[k]? = some mm) (ik : 0 ≤ (k : Int) ∧ (k : Int) < (m : Int)) (hadd : Pure Tryz.prog 47 #[ratioV an ad, ratioV mm.n mm.d] (.tuple #[ratioV sn sd, .int .i64 0])) (hmul : Pure Tryz.prog 48 #[ratioV sn sd, ratioV 1 2] (.tuple #[ratioV hn hd, .int .i64 0])) (hcmp : Pure Tryz.prog 49 #[ratioV hn hd, ratioV mm.n mm.d] (.tuple #[.int .i64 cc, .int .i64 0])) (hord : FnL Tryz.prog 13 1 [fldS 0 l, .pv (ratioV hn hd)] [(0, 0, rowP l)] (.tu [.one (.ls 1 n), .one (.pv (.int .i64 0))]) 1 [(1, 0, .row 3 1 n (idsV h))]) (hc0 : (cc == 0) = false) (hsm : FnL Tryz.prog 17 2 [.ls 0 n, .ls 1 n] [(0, 0, .row 3 1 n (idsV h)), (1, 0, .row 3 1 n (idsV g))] (.pv (.bool true)) 0 []) :
    FnL Tryz.prog 16 3 [fldS 0 l, .ls 1 n, .pv (ratioV an ad), .lq 2 4 0 m, .pv (.int .i64 (k : Int)), .pv (ratioV tn td)] [(0, 0, rowP l), (1, 0, .row 3 1 n (idsV g)), (2, 0, rowM s)] (.pv (.bool true)) 0 [] :=
  fnl_run 300 [] [.t true, .r (ratioV mm.n mm.d), .r (.tuple #[ratioV sn sd, .int .i64 0]), .r (.tuple #[ratioV hn hd, .int .i64 0]), .k, .k, .r (.tuple #[.int .i64 cc, .int .i64 0]), .f [0] [fldS 0 l, .pv (ratioV hn hd)] [(0, 0, rowP l)] (.tu [.one (.ls 1 n), .one (.pv (.int .i64 0))]) 1 [(1, 0, .row 3 1 n (idsV h))], .k, .k, .t false, .f [8,1] [.ls 0 n, .ls 1 n] [(0, 0, .row 3 1 n (idsV h)), (1, 0, .row 3 1 n (idsV g))] (.pv (.bool true)) 0 []]
     True.intro (And.intro hlt (And.intro ik (And.intro (ra_mat hm) (And.intro hadd (And.intro hmul (And.intro hcmp (And.intro hord (And.intro (Eq.refl (List.map (SV.ren (renU [0] 8)) [fldS 0 l, .pv (ratioV hn hd)])) (And.intro (reflH (renU [0] 8) [(0, 0, rowP l)]) (And.intro hc0 (And.intro hsm (And.intro (Eq.refl (List.map (SV.ren (renU [8,1] 9)) [.ls 0 n, .ls 1 n])) (And.intro (reflH (renU [8,1] 9) [(0, 0, .row 3 1 n (idsV h)), (1, 0, .row 3 1 n (idsV g))]) True.intro))))))))))))) (by kernel_rfl)

set_option maxRecDepth 100000 in
theorem hf_n_e1 {l : List Pt} {g : List Int} {s : List Mt} {n m k : Nat} {an ad tn td sn sd e1 e2 hn hd : Int} (hlt : decide ((k : Int) < (m : Int)) = false) (hadd : Pure Tryz.prog 47 #[ratioV an ad, ratioV tn td] (.tuple #[ratioV sn sd, .int .i64 e1])) (hmul : Pure Tryz.prog 48 #[ratioV sn sd, ratioV 1 2] (.tuple #[ratioV hn hd, .int .i64 e2])) (h1 : (e1 != 0) = true) :
    FnL Tryz.prog 16 3 [fldS 0 l, .ls 1 n, .pv (ratioV an ad), .lq 2 4 0 m, .pv (.int .i64 (k : Int)), .pv (ratioV tn td)] [(0, 0, rowP l), (1, 0, .row 3 1 n (idsV g)), (2, 0, rowM s)] (.pv (.bool true)) 0 [] :=
  fnl_run 300 [] [.t false, .r (.tuple #[ratioV sn sd, .int .i64 e1]), .r (.tuple #[ratioV hn hd, .int .i64 e2]), .t true]
     True.intro (And.intro hlt (And.intro hadd (And.intro hmul (And.intro h1 True.intro)))) (by kernel_rfl)

set_option maxRecDepth 100000 in
theorem hf_n_e2 {l : List Pt} {g : List Int} {s : List Mt} {n m k : Nat} {an ad tn td sn sd e2 hn hd : Int} (hlt : decide ((k : Int) < (m : Int)) = false) (hadd : Pure Tryz.prog 47 #[ratioV an ad, ratioV tn td] (.tuple #[ratioV sn sd, .int .i64 0])) (hmul : Pure Tryz.prog 48 #[ratioV sn sd, ratioV 1 2] (.tuple #[ratioV hn hd, .int .i64 e2])) (h2 : (e2 != 0) = true) :
    FnL Tryz.prog 16 3 [fldS 0 l, .ls 1 n, .pv (ratioV an ad), .lq 2 4 0 m, .pv (.int .i64 (k : Int)), .pv (ratioV tn td)] [(0, 0, rowP l), (1, 0, .row 3 1 n (idsV g)), (2, 0, rowM s)] (.pv (.bool true)) 0 [] :=
  fnl_run 300 [] [.t false, .r (.tuple #[ratioV sn sd, .int .i64 0]), .r (.tuple #[ratioV hn hd, .int .i64 e2]), .k, .t true]
     True.intro (And.intro hlt (And.intro hadd (And.intro hmul (And.intro h2 True.intro)))) (by kernel_rfl)

set_option maxRecDepth 100000 in
theorem hf_n_c0 {l : List Pt} {g h : List Int} {s : List Mt} {n m k : Nat} {an ad tn td sn sd hn hd cc : Int} (hlt : decide ((k : Int) < (m : Int)) = false) (hadd : Pure Tryz.prog 47 #[ratioV an ad, ratioV tn td] (.tuple #[ratioV sn sd, .int .i64 0])) (hmul : Pure Tryz.prog 48 #[ratioV sn sd, ratioV 1 2] (.tuple #[ratioV hn hd, .int .i64 0])) (hcmp : Pure Tryz.prog 49 #[ratioV hn hd, ratioV tn td] (.tuple #[.int .i64 cc, .int .i64 0])) (hord : FnL Tryz.prog 13 1 [fldS 0 l, .pv (ratioV hn hd)] [(0, 0, rowP l)] (.tu [.one (.ls 1 n), .one (.pv (.int .i64 0))]) 1 [(1, 0, .row 3 1 n (idsV h))]) (hc0 : (cc == 0) = true) :
    FnL Tryz.prog 16 3 [fldS 0 l, .ls 1 n, .pv (ratioV an ad), .lq 2 4 0 m, .pv (.int .i64 (k : Int)), .pv (ratioV tn td)] [(0, 0, rowP l), (1, 0, .row 3 1 n (idsV g)), (2, 0, rowM s)] (.pv (.bool true)) 0 [] :=
  fnl_run 300 [] [.t false, .r (.tuple #[ratioV sn sd, .int .i64 0]), .r (.tuple #[ratioV hn hd, .int .i64 0]), .k, .k, .r (.tuple #[.int .i64 cc, .int .i64 0]), .f [0] [fldS 0 l, .pv (ratioV hn hd)] [(0, 0, rowP l)] (.tu [.one (.ls 1 n), .one (.pv (.int .i64 0))]) 1 [(1, 0, .row 3 1 n (idsV h))], .k, .k, .t true]
     True.intro (And.intro hlt (And.intro hadd (And.intro hmul (And.intro hcmp (And.intro hord (And.intro (Eq.refl (List.map (SV.ren (renU [0] 8)) [fldS 0 l, .pv (ratioV hn hd)])) (And.intro (reflH (renU [0] 8) [(0, 0, rowP l)]) (And.intro hc0 True.intro)))))))) (by kernel_rfl)

set_option maxRecDepth 100000 in
theorem hf_n_same {l : List Pt} {g h : List Int} {s : List Mt} {n m k : Nat} {an ad tn td sn sd hn hd cc : Int} (hlt : decide ((k : Int) < (m : Int)) = false) (hadd : Pure Tryz.prog 47 #[ratioV an ad, ratioV tn td] (.tuple #[ratioV sn sd, .int .i64 0])) (hmul : Pure Tryz.prog 48 #[ratioV sn sd, ratioV 1 2] (.tuple #[ratioV hn hd, .int .i64 0])) (hcmp : Pure Tryz.prog 49 #[ratioV hn hd, ratioV tn td] (.tuple #[.int .i64 cc, .int .i64 0])) (hord : FnL Tryz.prog 13 1 [fldS 0 l, .pv (ratioV hn hd)] [(0, 0, rowP l)] (.tu [.one (.ls 1 n), .one (.pv (.int .i64 0))]) 1 [(1, 0, .row 3 1 n (idsV h))]) (hc0 : (cc == 0) = false) (hsm : FnL Tryz.prog 17 2 [.ls 0 n, .ls 1 n] [(0, 0, .row 3 1 n (idsV h)), (1, 0, .row 3 1 n (idsV g))] (.pv (.bool true)) 0 []) :
    FnL Tryz.prog 16 3 [fldS 0 l, .ls 1 n, .pv (ratioV an ad), .lq 2 4 0 m, .pv (.int .i64 (k : Int)), .pv (ratioV tn td)] [(0, 0, rowP l), (1, 0, .row 3 1 n (idsV g)), (2, 0, rowM s)] (.pv (.bool true)) 0 [] :=
  fnl_run 300 [] [.t false, .r (.tuple #[ratioV sn sd, .int .i64 0]), .r (.tuple #[ratioV hn hd, .int .i64 0]), .k, .k, .r (.tuple #[.int .i64 cc, .int .i64 0]), .f [0] [fldS 0 l, .pv (ratioV hn hd)] [(0, 0, rowP l)] (.tu [.one (.ls 1 n), .one (.pv (.int .i64 0))]) 1 [(1, 0, .row 3 1 n (idsV h))], .k, .k, .t false, .f [8,1] [.ls 0 n, .ls 1 n] [(0, 0, .row 3 1 n (idsV h)), (1, 0, .row 3 1 n (idsV g))] (.pv (.bool true)) 0 []]
     True.intro (And.intro hlt (And.intro hadd (And.intro hmul (And.intro hcmp (And.intro hord (And.intro (Eq.refl (List.map (SV.ren (renU [0] 8)) [fldS 0 l, .pv (ratioV hn hd)])) (And.intro (reflH (renU [0] 8) [(0, 0, rowP l)]) (And.intro hc0 (And.intro hsm (And.intro (Eq.refl (List.map (SV.ren (renU [8,1] 9)) [.ls 0 n, .ls 1 n])) (And.intro (reflH (renU [8,1] 9) [(0, 0, .row 3 1 n (idsV h)), (1, 0, .row 3 1 n (idsV g))]) True.intro))))))))))) (by kernel_rfl)

set_option maxRecDepth 100000 in
theorem ct_none {l : List Pt} {g : List Int} {n : Nat} {fn fd tn td : Int} (hof : FnL Tryz.prog 32 1 [fldS 0 l, .pv (ratioV fn fd)] [(0, 0, rowP l)] (.pv (.tuple #[.slice none 0 0, .int .i64 42])) 0 []) (h0 : ((l.length : Int) == 0) = true) :
    FnL Tryz.prog 18 2 [fldS 0 l, .pv (ratioV fn fd), .pv (ratioV tn td), .ls 1 n] [(0, 0, rowP l), (1, 0, .row 3 1 n (idsV g))] (.pv (.bool true)) 0 [] :=
  fnl_run 300 [] [.f [0] [fldS 0 l, .pv (ratioV fn fd)] [(0, 0, rowP l)] (.pv (.tuple #[.slice none 0 0, .int .i64 42])) 0 [], .t true, .k]
     True.intro (And.intro hof (And.intro (Eq.refl (List.map (SV.ren (renU [0] 5)) [fldS 0 l, .pv (ratioV fn fd)])) (And.intro (reflH (renU [0] 5) [(0, 0, rowP l)]) (And.intro h0 True.intro)))) (by kernel_rfl)

set_option maxRecDepth 100000 in
theorem ct_next {l : List Pt} {g : List Int} {s : List Ld} {x : Ld} {n k : Nat} {fn fd tn td id : Int} (hx : s[k]? = some x) (ik : 0 ≤ (k : Int) ∧ (k : Int) < (s.length : Int)) (hlt : decide ((k : Int) < (s.length : Int)) = true) (hld : FnL Tryz.prog 51 1 [fldS 0 l, .pv (ratioV x.n x.d)] [(0, 0, rowP l)] (.pv (.tuple #[.int .i64 x.id, .int .i64 0])) 0 []) (hne : (!(x.id == x.id)) = false) (hs : Value.int .i64 (IntKind.i64.wrap ((k : Int) + 1)) = .int .i64 (((k + 1 : Nat) : Int))) {e : Exit} {tm2 : List (Nat × SV)} {hp2 : List (Nat × Nat × SV)}
    (r : RunsL Tryz.prog 2 2 (loopOf Tryz.prog 18 0) 84 6 ([(4, .pp 2 0), (5, .pp 3 0), (6, .pp 4 0), (9, .ls 5 s.length), (13, .pv (.int .i64 ((k + 1 : Nat) : Int)))]) ([(2, 0, .ls 0 l.length), (3, 0, .pv (.int .i64 fn)), (3, 1, .pv (.int .i64 fd)), (4, 0, .pv (.int .i64 tn)), (4, 1, .pv (.int .i64 td)), (0, 0, rowP l), (1, 0, .row 3 1 n (idsV g)), (5, 0, rowL s)]) e tm2 hp2) : RunsL Tryz.prog 2 2 (loopOf Tryz.prog 18 0) 84 6 ([(4, .pp 2 0), (5, .pp 3 0), (6, .pp 4 0), (9, .ls 5 s.length), (13, .pv (.int .i64 (k : Int)))]) ([(2, 0, .ls 0 l.length), (3, 0, .pv (.int .i64 fn)), (3, 1, .pv (.int .i64 fd)), (4, 0, .pv (.int .i64 tn)), (4, 1, .pv (.int .i64 td)), (0, 0, rowP l), (1, 0, .row 3 1 n (idsV g)), (5, 0, rowL s)]) e tm2 hp2 :=
  RunsL.next [] 300 [.t true, .md, .r (ratioV x.n x.d), .f [0] [fldS 0 l, .pv (ratioV x.n x.d)] [(0, 0, rowP l)] (.pv (.tuple #[.int .i64 x.id, .int .i64 0])) 0 [], .k, .r (.int .i64 (x.id)), .t false, .r (.int .i64 (((k + 1 : Nat) : Int)))]
    (round_of (And.intro hlt (And.intro ik (And.intro (ra_lf hx) (And.intro hld (And.intro (Eq.refl (List.map (SV.ren (renU [0] 6)) [fldS 0 l, .pv (ratioV x.n x.d)])) (And.intro (reflH (renU [0] 6) [(0, 0, rowP l)]) (And.intro ik (And.intro (ra_li hx) (And.intro hne (And.intro hs True.intro)))))))))) (by kernel_rfl)) r

set_option maxRecDepth 100000 in
theorem ct_end {l : List Pt} {g : List Int} {s : List Ld} {n k : Nat} {fn fd tn td : Int} (hge : decide ((k : Int) < (s.length : Int)) = false) : RunsL Tryz.prog 2 2 (loopOf Tryz.prog 18 0) 84 6 ([(4, .pp 2 0), (5, .pp 3 0), (6, .pp 4 0), (9, .ls 5 s.length), (13, .pv (.int .i64 (k : Int)))]) ([(2, 0, .ls 0 l.length), (3, 0, .pv (.int .i64 fn)), (3, 1, .pv (.int .i64 fd)), (4, 0, .pv (.int .i64 tn)), (4, 1, .pv (.int .i64 td)), (0, 0, rowP l), (1, 0, .row 3 1 n (idsV g)), (5, 0, rowL s)]) (.exit 0) ([]) ([]) :=
  RunsL.stop [] 300 [.t false] (fun h => by cases h)
    (round_of (And.intro hge True.intro) (by kernel_rfl))

set_option maxRecDepth 100000 in
theorem ct_path {l : List Pt} {g : List Int} {s : List Ld} {n : Nat} {fn fd tn td id y : Int} (hof : FnL Tryz.prog 32 1 [fldS 0 l, .pv (ratioV fn fd)] [(0, 0, rowP l)] (.tu [.one (.ls 1 s.length), .one (.pv (.int .i64 0))]) 1 [(1, 0, rowL s)]) (h0 : ((l.length : Int) == 0) = false) (hat : FnL Tryz.prog 50 1 [.ls 0 s.length, .pv (ratioV tn td)] [(0, 0, rowL s)] (.pv (.tuple #[.int .i64 (id), .int .i64 0])) 0 []) (hn0 : ((n : Int) == 0) = false) (hy : g[0]? = some y) (iy : 0 ≤ (0 : Int) ∧ (0 : Int) < (n : Int)) (hid : (!(id == y)) = false) (hck : FnL Tryz.prog 25 1 [.ls 0 s.length] [(0, 0, rowL s)] (.pv (.int .i64 (0))) 0 []) (r0 : RunsL Tryz.prog 2 2 (loopOf Tryz.prog 18 0) 84 6 ([(4, .pp 2 0), (5, .pp 3 0), (6, .pp 4 0), (9, .ls 5 s.length), (13, .pv (.int .i64 ((0 : Nat) : Int)))]) ([(2, 0, .ls 0 l.length), (3, 0, .pv (.int .i64 fn)), (3, 1, .pv (.int .i64 fd)), (4, 0, .pv (.int .i64 tn)), (4, 1, .pv (.int .i64 td)), (0, 0, rowP l), (1, 0, .row 3 1 n (idsV g)), (5, 0, rowL s)]) (.exit 0) ([]) ([])) :
    FnL Tryz.prog 18 2 [fldS 0 l, .pv (ratioV fn fd), .pv (ratioV tn td), .ls 1 n] [(0, 0, rowP l), (1, 0, .row 3 1 n (idsV g))] (.pv (.bool true)) 0 [] :=
  fnl_run 300 [] [.f [0] [fldS 0 l, .pv (ratioV fn fd)] [(0, 0, rowP l)] (.tu [.one (.ls 1 s.length), .one (.pv (.int .i64 0))]) 1 [(1, 0, rowL s)], .t false, .f [5] [.ls 0 s.length, .pv (ratioV tn td)] [(0, 0, rowL s)] (.pv (.tuple #[.int .i64 (id), .int .i64 0])) 0 [], .k, .k, .t false, .r (.int .i64 (y)), .t false, .f [5] [.ls 0 s.length] [(0, 0, rowL s)] (.pv (.int .i64 (0))) 0 [], .k, .l (.exit 0) ([(4, .pp 2 0), (5, .pp 3 0), (6, .pp 4 0), (9, .ls 5 s.length), (13, .pv (.int .i64 ((0 : Nat) : Int)))]) ([(2, 0, .ls 0 l.length), (3, 0, .pv (.int .i64 fn)), (3, 1, .pv (.int .i64 fd)), (4, 0, .pv (.int .i64 tn)), (4, 1, .pv (.int .i64 td)), (0, 0, rowP l), (1, 0, .row 3 1 n (idsV g)), (5, 0, rowL s)]) ([]) ([])]
     True.intro (And.intro hof (And.intro (Eq.refl (List.map (SV.ren (renU [0] 5)) [fldS 0 l, .pv (ratioV fn fd)])) (And.intro (reflH (renU [0] 5) [(0, 0, rowP l)]) (And.intro h0 (And.intro hat (And.intro (Eq.refl (List.map (SV.ren (renU [5] 6)) [.ls 0 s.length, .pv (ratioV tn td)])) (And.intro (reflH (renU [5] 6) [(0, 0, rowL s)]) (And.intro hn0 (And.intro iy (And.intro (ra_int hy) (And.intro hid (And.intro hck (And.intro (Eq.refl (List.map (SV.ren (renU [5] 6)) [.ls 0 s.length])) (And.intro (reflH (renU [5] 6) [(0, 0, rowL s)]) (And.intro (reflT (renN []) ([(4, .pp 2 0), (5, .pp 3 0), (6, .pp 4 0), (9, .ls 5 s.length), (13, .pv (.int .i64 ((0 : Nat) : Int)))])) (And.intro (reflH (renN []) ([(2, 0, .ls 0 l.length), (3, 0, .pv (.int .i64 fn)), (3, 1, .pv (.int .i64 fd)), (4, 0, .pv (.int .i64 tn)), (4, 1, .pv (.int .i64 td)), (0, 0, rowP l), (1, 0, .row 3 1 n (idsV g)), (5, 0, rowL s)])) (And.intro r0 True.intro))))))))))))))))) (by kernel_rfl)
end Go.Proofs.YtpngjeloiifgnaaGreat

namespace Go.Proofs.YtpngjeloiifgnaaGreat
open Go.RowKit
set_option maxRecDepth 100000 in
theorem tm_g {l : List Pt} {fn fd tn td : Int} (hg : FnL Tryz.prog 5 1 [fldS 0 l] [(0, 0, rowP l)] (.pv (.bool true)) 0 []) :
    FnL Tryz.prog 4 1 [fldS 0 l, .pv (ratioV fn fd), .pv (ratioV tn td)] [(0, 0, rowP l)] (.pv (.bool true)) 0 [] :=
  fnl_run 300 [] [.f [0] [fldS 0 l] [(0, 0, rowP l)] (.pv (.bool true)) 0 []]
     True.intro (And.intro hg (And.intro (Eq.refl (List.map (SV.ren (renU [0] 4)) [fldS 0 l])) (And.intro (reflH (renU [0] 4) [(0, 0, rowP l)]) True.intro))) (by kernel_rfl)

set_option maxRecDepth 100000 in
theorem tm_16 {l : List Pt} {fn fd tn td : Int} (hg : FnL Tryz.prog 5 1 [fldS 0 l] [(0, 0, rowP l)] (.pv (.bool false)) 0 []) (h16 : decide ((l.length : Int) > 16) = true) :
    FnL Tryz.prog 4 1 [fldS 0 l, .pv (ratioV fn fd), .pv (ratioV tn td)] [(0, 0, rowP l)] (.pv (.bool true)) 0 [] :=
  fnl_run 300 [] [.f [0] [fldS 0 l] [(0, 0, rowP l)] (.pv (.bool false)) 0 [], .t true]
     True.intro (And.intro hg (And.intro (Eq.refl (List.map (SV.ren (renU [0] 4)) [fldS 0 l])) (And.intro (reflH (renU [0] 4) [(0, 0, rowP l)]) (And.intro h16 True.intro)))) (by kernel_rfl)

set_option maxRecDepth 100000 in
theorem tm_t {l : List Pt} {fn fd tn td er : Int} (hg : FnL Tryz.prog 5 1 [fldS 0 l] [(0, 0, rowP l)] (.pv (.bool false)) 0 []) (h16 : decide ((l.length : Int) > 16) = false) (htm : FnL Tryz.prog 10 1 [fldS 0 l, .pv (ratioV fn fd), .pv (ratioV tn td)] [(0, 0, rowP l)] (.pv (.int .i64 (er))) 0 []) (her : (er != 0) = true) :
    FnL Tryz.prog 4 1 [fldS 0 l, .pv (ratioV fn fd), .pv (ratioV tn td)] [(0, 0, rowP l)] (.pv (.bool true)) 0 [] :=
  fnl_run 300 [] [.f [0] [fldS 0 l] [(0, 0, rowP l)] (.pv (.bool false)) 0 [], .t false, .f [0] [fldS 0 l, .pv (ratioV fn fd), .pv (ratioV tn td)] [(0, 0, rowP l)] (.pv (.int .i64 (er))) 0 [], .t true]
     True.intro (And.intro hg (And.intro (Eq.refl (List.map (SV.ren (renU [0] 4)) [fldS 0 l])) (And.intro (reflH (renU [0] 4) [(0, 0, rowP l)]) (And.intro h16 (And.intro htm (And.intro (Eq.refl (List.map (SV.ren (renU [0] 4)) [fldS 0 l, .pv (ratioV fn fd), .pv (ratioV tn td)])) (And.intro (reflH (renU [0] 4) [(0, 0, rowP l)]) (And.intro her True.intro)))))))) (by kernel_rfl)

set_option maxRecDepth 100000 in
theorem tm_nil {l : List Pt} {h q : List Int} {fn fd tn td : Int} (hg : FnL Tryz.prog 5 1 [fldS 0 l] [(0, 0, rowP l)] (.pv (.bool false)) 0 []) (h16 : decide ((l.length : Int) > 16) = false) (htm : FnL Tryz.prog 10 1 [fldS 0 l, .pv (ratioV fn fd), .pv (ratioV tn td)] [(0, 0, rowP l)] (.pv (.int .i64 (0))) 0 []) (hal : FnL Tryz.prog 11 0 [] [] (.pv (.bool true)) 0 []) (hall : FnL Tryz.prog 12 1 [fldS 0 l, .pv (ratioV fn fd), .pv (ratioV tn td)] [(0, 0, rowP l)] (.pv (.tuple #[nilV, .int .i64 0])) 0 []) (ho1 : FnL Tryz.prog 13 1 [fldS 0 l, .pv (ratioV fn fd)] [(0, 0, rowP l)] (.tu [.one (.ls 1 l.length), .one (.pv (.int .i64 0))]) 1 [(1, 0, .row 3 1 l.length (idsV q))]) (ho2 : FnL Tryz.prog 13 1 [fldS 0 l, .pv (ratioV tn td)] [(0, 0, rowP l)] (.tu [.one (.ls 1 l.length), .one (.pv (.int .i64 0))]) 1 [(1, 0, .row 3 1 l.length (idsV h))]) (hl : (!((l.length : Int) == (l.length : Int))) = false) (hsm : FnL Tryz.prog 17 2 [.ls 0 l.length, .ls 1 l.length] [(0, 0, .row 3 1 l.length (idsV q)), (1, 0, .row 3 1 l.length (idsV h))] (.pv (.bool true)) 0 []) (hcr : FnL Tryz.prog 18 2 [fldS 0 l, .pv (ratioV fn fd), .pv (ratioV tn td), .ls 1 l.length] [(0, 0, rowP l), (1, 0, .row 3 1 l.length (idsV h))] (.pv (.bool true)) 0 []) :
    FnL Tryz.prog 4 1 [fldS 0 l, .pv (ratioV fn fd), .pv (ratioV tn td)] [(0, 0, rowP l)] (.pv (.bool true)) 0 [] :=
  fnl_run 300 [] [.f [0] [fldS 0 l] [(0, 0, rowP l)] (.pv (.bool false)) 0 [], .t false, .f [0] [fldS 0 l, .pv (ratioV fn fd), .pv (ratioV tn td)] [(0, 0, rowP l)] (.pv (.int .i64 (0))) 0 [], .k, .f [] [] [] (.pv (.bool true)) 0 [], .k, .f [0] [fldS 0 l, .pv (ratioV fn fd), .pv (ratioV tn td)] [(0, 0, rowP l)] (.pv (.tuple #[nilV, .int .i64 0])) 0 [], .f [0] [fldS 0 l, .pv (ratioV fn fd)] [(0, 0, rowP l)] (.tu [.one (.ls 1 l.length), .one (.pv (.int .i64 0))]) 1 [(1, 0, .row 3 1 l.length (idsV q))], .f [0] [fldS 0 l, .pv (ratioV tn td)] [(0, 0, rowP l)] (.tu [.one (.ls 1 l.length), .one (.pv (.int .i64 0))]) 1 [(1, 0, .row 3 1 l.length (idsV h))], .k, .k, .k, .t false, .k, .f [4,5] [.ls 0 l.length, .ls 1 l.length] [(0, 0, .row 3 1 l.length (idsV q)), (1, 0, .row 3 1 l.length (idsV h))] (.pv (.bool true)) 0 [], .f [0,5] [fldS 0 l, .pv (ratioV fn fd), .pv (ratioV tn td), .ls 1 l.length] [(0, 0, rowP l), (1, 0, .row 3 1 l.length (idsV h))] (.pv (.bool true)) 0 []]
     True.intro (And.intro hg (And.intro (Eq.refl (List.map (SV.ren (renU [0] 4)) [fldS 0 l])) (And.intro (reflH (renU [0] 4) [(0, 0, rowP l)]) (And.intro h16 (And.intro htm (And.intro (Eq.refl (List.map (SV.ren (renU [0] 4)) [fldS 0 l, .pv (ratioV fn fd), .pv (ratioV tn td)])) (And.intro (reflH (renU [0] 4) [(0, 0, rowP l)]) (And.intro hal (And.intro (Eq.refl (List.map (SV.ren (renU [] 4)) [])) (And.intro (reflH (renU [] 4) []) (And.intro hall (And.intro (Eq.refl (List.map (SV.ren (renU [0] 4)) [fldS 0 l, .pv (ratioV fn fd), .pv (ratioV tn td)])) (And.intro (reflH (renU [0] 4) [(0, 0, rowP l)]) (And.intro ho1 (And.intro (Eq.refl (List.map (SV.ren (renU [0] 4)) [fldS 0 l, .pv (ratioV fn fd)])) (And.intro (reflH (renU [0] 4) [(0, 0, rowP l)]) (And.intro ho2 (And.intro (Eq.refl (List.map (SV.ren (renU [0] 5)) [fldS 0 l, .pv (ratioV tn td)])) (And.intro (reflH (renU [0] 5) [(0, 0, rowP l)]) (And.intro hl (And.intro hsm (And.intro (Eq.refl (List.map (SV.ren (renU [4,5] 6)) [.ls 0 l.length, .ls 1 l.length])) (And.intro (reflH (renU [4,5] 6) [(0, 0, .row 3 1 l.length (idsV q)), (1, 0, .row 3 1 l.length (idsV h))]) (And.intro hcr (And.intro (Eq.refl (List.map (SV.ren (renU [0,5] 6)) [fldS 0 l, .pv (ratioV fn fd), .pv (ratioV tn td), .ls 1 l.length])) (And.intro (reflH (renU [0,5] 6) [(0, 0, rowP l), (1, 0, .row 3 1 l.length (idsV h))]) True.intro)))))))))))))))))))))))))) (by kernel_rfl)

set_option maxRecDepth 100000 in
theorem tmi_yes {l : List Pt} {g h : List Int} {s : List Mt} {mm m2 : Mt} {a b : Nat} {fn fd tn td : Int} (hm : s[b]? = some m2) (hm0 : s[a]? = some mm) (ib : 0 ≤ (b : Int) ∧ (b : Int) < (s.length : Int)) (ia : 0 ≤ (a : Int) ∧ (a : Int) < (s.length : Int)) (hlt : decide ((b : Int) < (s.length : Int)) = true) (hq : (m2.n == mm.n && (m2.d == mm.d && true)) = true) (hs : Value.int .i64 (IntKind.i64.wrap ((b : Int) + 1)) = .int .i64 (((b + 1 : Nat) : Int))) {e : Exit} {tm2 : List (Nat × SV)} {hp2 : List (Nat × Nat × SV)}
    (r : RunsL Tryz.prog 1 1 (loopOf Tryz.prog 4 1) 151 7 ([(3, .pp 1 0), (4, .pp 2 0), (5, .pp 3 0), (7, .lq 4 4 0 s.length), (9, .ls 5 l.length), (11, .ls 6 l.length), (13, .pv (.int .i64 (a : Int))), (14, .pv (.int .i64 ((b + 1 : Nat) : Int)))]) ([(1, 0, .ls 0 l.length), (2, 0, .pv (.int .i64 fn)), (2, 1, .pv (.int .i64 fd)), (3, 0, .pv (.int .i64 tn)), (3, 1, .pv (.int .i64 td)), (0, 0, rowP l), (4, 0, rowM s), (5, 0, .row 3 1 l.length (idsV g)), (6, 0, .row 3 1 l.length (idsV h))]) e tm2 hp2) : RunsL Tryz.prog 1 1 (loopOf Tryz.prog 4 1) 151 7 ([(3, .pp 1 0), (4, .pp 2 0), (5, .pp 3 0), (7, .lq 4 4 0 s.length), (9, .ls 5 l.length), (11, .ls 6 l.length), (13, .pv (.int .i64 (a : Int))), (14, .pv (.int .i64 (b : Int)))]) ([(1, 0, .ls 0 l.length), (2, 0, .pv (.int .i64 fn)), (2, 1, .pv (.int .i64 fd)), (3, 0, .pv (.int .i64 tn)), (3, 1, .pv (.int .i64 td)), (0, 0, rowP l), (4, 0, rowM s), (5, 0, .row 3 1 l.length (idsV g)), (6, 0, .row 3 1 l.length (idsV h))]) e tm2 hp2 :=
  RunsL.next [] 300 [.md, .t true, .r (ratioV m2.n m2.d), .r (ratioV mm.n mm.d), .t true, .r (.int .i64 (((b + 1 : Nat) : Int)))]
    (round_of (And.intro hlt (And.intro ib (And.intro (ra_mat hm) (And.intro ia (And.intro (ra_mat hm0) (And.intro hq (And.intro hs True.intro))))))) (by kernel_rfl)) r

set_option maxRecDepth 100000 in
theorem tmi_no {l : List Pt} {g h : List Int} {s : List Mt} {mm m2 : Mt} {a b : Nat} {fn fd tn td : Int} (hm : s[b]? = some m2) (hm0 : s[a]? = some mm) (ib : 0 ≤ (b : Int) ∧ (b : Int) < (s.length : Int)) (ia : 0 ≤ (a : Int) ∧ (a : Int) < (s.length : Int)) (hlt : decide ((b : Int) < (s.length : Int)) = true) (hq : (m2.n == mm.n && (m2.d == mm.d && true)) = false) : RunsL Tryz.prog 1 1 (loopOf Tryz.prog 4 1) 151 7 ([(3, .pp 1 0), (4, .pp 2 0), (5, .pp 3 0), (7, .lq 4 4 0 s.length), (9, .ls 5 l.length), (11, .ls 6 l.length), (13, .pv (.int .i64 (a : Int))), (14, .pv (.int .i64 (b : Int)))]) ([(1, 0, .ls 0 l.length), (2, 0, .pv (.int .i64 fn)), (2, 1, .pv (.int .i64 fd)), (3, 0, .pv (.int .i64 tn)), (3, 1, .pv (.int .i64 td)), (0, 0, rowP l), (4, 0, rowM s), (5, 0, .row 3 1 l.length (idsV g)), (6, 0, .row 3 1 l.length (idsV h))]) (.exit 2) ([(3, .pp 1 0), (4, .pp 2 0), (5, .pp 3 0), (7, .lq 4 4 0 s.length), (9, .ls 5 l.length), (11, .ls 6 l.length), (13, .pv (.int .i64 (a : Int))), (14, .pv (.int .i64 (b : Int)))]) ([(1, 0, .ls 0 l.length), (2, 0, .pv (.int .i64 fn)), (2, 1, .pv (.int .i64 fd)), (3, 0, .pv (.int .i64 tn)), (3, 1, .pv (.int .i64 td)), (0, 0, rowP l), (4, 0, rowM s), (5, 0, .row 3 1 l.length (idsV g)), (6, 0, .row 3 1 l.length (idsV h))]) :=
  RunsL.stop [] 300 [.md, .t true, .r (ratioV m2.n m2.d), .r (ratioV mm.n mm.d), .t false] (fun h => by cases h)
    (round_of (And.intro hlt (And.intro ib (And.intro (ra_mat hm) (And.intro ia (And.intro (ra_mat hm0) (And.intro hq True.intro)))))) (by kernel_rfl))

set_option maxRecDepth 100000 in
theorem tmi_end {l : List Pt} {g h : List Int} {s : List Mt} {a b : Nat} {fn fd tn td : Int} (hlt : decide ((b : Int) < (s.length : Int)) = false) : RunsL Tryz.prog 1 1 (loopOf Tryz.prog 4 1) 151 7 ([(3, .pp 1 0), (4, .pp 2 0), (5, .pp 3 0), (7, .lq 4 4 0 s.length), (9, .ls 5 l.length), (11, .ls 6 l.length), (13, .pv (.int .i64 (a : Int))), (14, .pv (.int .i64 (b : Int)))]) ([(1, 0, .ls 0 l.length), (2, 0, .pv (.int .i64 fn)), (2, 1, .pv (.int .i64 fd)), (3, 0, .pv (.int .i64 tn)), (3, 1, .pv (.int .i64 td)), (0, 0, rowP l), (4, 0, rowM s), (5, 0, .row 3 1 l.length (idsV g)), (6, 0, .row 3 1 l.length (idsV h))]) (.exit 2) ([(3, .pp 1 0), (4, .pp 2 0), (5, .pp 3 0), (7, .lq 4 4 0 s.length), (9, .ls 5 l.length), (11, .ls 6 l.length), (13, .pv (.int .i64 (a : Int))), (14, .pv (.int .i64 (b : Int)))]) ([(1, 0, .ls 0 l.length), (2, 0, .pv (.int .i64 fn)), (2, 1, .pv (.int .i64 fd)), (3, 0, .pv (.int .i64 tn)), (3, 1, .pv (.int .i64 td)), (0, 0, rowP l), (4, 0, rowM s), (5, 0, .row 3 1 l.length (idsV g)), (6, 0, .row 3 1 l.length (idsV h))]) :=
  RunsL.stop [] 300 [.md, .t false] (fun h => by cases h)
    (round_of (And.intro hlt True.intro) (by kernel_rfl))

set_option maxRecDepth 100000 in
theorem tm_next {l : List Pt} {g h q : List Int} {s : List Mt} {mm : Mt} {a b : Nat} {fn fd tn td : Int} (hm0 : s[a]? = some mm) (ia : 0 ≤ (a : Int) ∧ (a : Int) < (s.length : Int)) (hlt : decide ((a : Int) < (s.length : Int)) = true) (hck : Pure Tryz.prog 14 #[ratioV mm.n mm.d] (.int .i64 (0))) (r1 : RunsL Tryz.prog 1 1 (loopOf Tryz.prog 4 1) 151 7 ([(3, .pp 1 0), (4, .pp 2 0), (5, .pp 3 0), (7, .lq 4 4 0 s.length), (9, .ls 5 l.length), (11, .ls 6 l.length), (13, .pv (.int .i64 (a : Int))), (14, .pv (.int .i64 (a : Int)))]) ([(1, 0, .ls 0 l.length), (2, 0, .pv (.int .i64 fn)), (2, 1, .pv (.int .i64 fd)), (3, 0, .pv (.int .i64 tn)), (3, 1, .pv (.int .i64 td)), (0, 0, rowP l), (4, 0, rowM s), (5, 0, .row 3 1 l.length (idsV g)), (6, 0, .row 3 1 l.length (idsV h))]) (.exit 2) ([(3, .pp 1 0), (4, .pp 2 0), (5, .pp 3 0), (7, .lq 4 4 0 s.length), (9, .ls 5 l.length), (11, .ls 6 l.length), (13, .pv (.int .i64 (a : Int))), (14, .pv (.int .i64 ((a + b : Nat) : Int)))]) ([(1, 0, .ls 0 l.length), (2, 0, .pv (.int .i64 fn)), (2, 1, .pv (.int .i64 fd)), (3, 0, .pv (.int .i64 tn)), (3, 1, .pv (.int .i64 td)), (0, 0, rowP l), (4, 0, rowM s), (5, 0, .row 3 1 l.length (idsV g)), (6, 0, .row 3 1 l.length (idsV h))])) (hord : FnL Tryz.prog 13 1 [fldS 0 l, .pv (ratioV mm.n mm.d)] [(0, 0, rowP l)] (.tu [.one (.ls 1 l.length), .one (.pv (.int .i64 0))]) 1 [(1, 0, .row 3 1 l.length (idsV q))]) (s1 : (0 : Int) ≤ (a : Int)) (s2 : (0 : Int) ≤ ((a + b : Nat) : Int)) (s3 : a ≤ a + b) (s4 : a + b ≤ s.length) (hmet : FnL Tryz.prog 15 4 [fldS 0 l, .ls 1 l.length, .ls 2 l.length, .lq 3 4 (0 + a) (a + b - a)] [(0, 0, rowP l), (1, 0, .row 3 1 l.length (idsV g)), (2, 0, .row 3 1 l.length (idsV q)), (3, 0, rowM s)] (.pv (.bool true)) 0 []) (hhf : FnL Tryz.prog 16 3 [fldS 0 l, .ls 1 l.length, .pv (ratioV mm.n mm.d), .lq 2 4 0 s.length, .pv (.int .i64 ((a + b : Nat) : Int)), .pv (ratioV tn td)] [(0, 0, rowP l), (1, 0, .row 3 1 l.length (idsV q)), (2, 0, rowM s)] (.pv (.bool true)) 0 []) {e : Exit} {tm2 : List (Nat × SV)} {hp2 : List (Nat × Nat × SV)}
    (r : RunsL Tryz.prog 1 1 (loopOf Tryz.prog 4 0) 151 7 ([(3, .pp 1 0), (4, .pp 2 0), (5, .pp 3 0), (7, .lq 4 4 0 s.length), (9, .ls 5 l.length), (11, .ls 6 l.length), (13, .pv (.int .i64 ((a + b : Nat) : Int)))]) ([(1, 0, .ls 0 l.length), (2, 0, .pv (.int .i64 fn)), (2, 1, .pv (.int .i64 fd)), (3, 0, .pv (.int .i64 tn)), (3, 1, .pv (.int .i64 td)), (0, 0, rowP l), (4, 0, rowM s), (5, 0, .row 3 1 l.length (idsV q)), (6, 0, .row 3 1 l.length (idsV h))]) e tm2 hp2) : RunsL Tryz.prog 1 1 (loopOf Tryz.prog 4 0) 151 7 ([(3, .pp 1 0), (4, .pp 2 0), (5, .pp 3 0), (7, .lq 4 4 0 s.length), (9, .ls 5 l.length), (11, .ls 6 l.length), (13, .pv (.int .i64 (a : Int)))]) ([(1, 0, .ls 0 l.length), (2, 0, .pv (.int .i64 fn)), (2, 1, .pv (.int .i64 fd)), (3, 0, .pv (.int .i64 tn)), (3, 1, .pv (.int .i64 td)), (0, 0, rowP l), (4, 0, rowM s), (5, 0, .row 3 1 l.length (idsV g)), (6, 0, .row 3 1 l.length (idsV h))]) e tm2 hp2 :=
  RunsL.next [(5, 7)] 300 [.t true, .r (ratioV mm.n mm.d), .r (.int .i64 (0)), .k, .l (.exit 2) ([(3, .pp 1 0), (4, .pp 2 0), (5, .pp 3 0), (7, .lq 4 4 0 s.length), (9, .ls 5 l.length), (11, .ls 6 l.length), (13, .pv (.int .i64 (a : Int))), (14, .pv (.int .i64 (a : Int)))]) ([(1, 0, .ls 0 l.length), (2, 0, .pv (.int .i64 fn)), (2, 1, .pv (.int .i64 fd)), (3, 0, .pv (.int .i64 tn)), (3, 1, .pv (.int .i64 td)), (0, 0, rowP l), (4, 0, rowM s), (5, 0, .row 3 1 l.length (idsV g)), (6, 0, .row 3 1 l.length (idsV h))]) ([(3, .pp 1 0), (4, .pp 2 0), (5, .pp 3 0), (7, .lq 4 4 0 s.length), (9, .ls 5 l.length), (11, .ls 6 l.length), (13, .pv (.int .i64 (a : Int))), (14, .pv (.int .i64 ((a + b : Nat) : Int)))]) ([(1, 0, .ls 0 l.length), (2, 0, .pv (.int .i64 fn)), (2, 1, .pv (.int .i64 fd)), (3, 0, .pv (.int .i64 tn)), (3, 1, .pv (.int .i64 td)), (0, 0, rowP l), (4, 0, rowM s), (5, 0, .row 3 1 l.length (idsV g)), (6, 0, .row 3 1 l.length (idsV h))]), .md, .r (ratioV mm.n mm.d), .f [0] [fldS 0 l, .pv (ratioV mm.n mm.d)] [(0, 0, rowP l)] (.tu [.one (.ls 1 l.length), .one (.pv (.int .i64 0))]) 1 [(1, 0, .row 3 1 l.length (idsV q))], .md, .k, .f [0,5,7,4] [fldS 0 l, .ls 1 l.length, .ls 2 l.length, .lq 3 4 (0 + a) (a + b - a)] [(0, 0, rowP l), (1, 0, .row 3 1 l.length (idsV g)), (2, 0, .row 3 1 l.length (idsV q)), (3, 0, rowM s)] (.pv (.bool true)) 0 [], .k, .r (ratioV mm.n mm.d), .f [0,7,4] [fldS 0 l, .ls 1 l.length, .pv (ratioV mm.n mm.d), .lq 2 4 0 s.length, .pv (.int .i64 ((a + b : Nat) : Int)), .pv (ratioV tn td)] [(0, 0, rowP l), (1, 0, .row 3 1 l.length (idsV q)), (2, 0, rowM s)] (.pv (.bool true)) 0 [], .k]
    (round_of (And.intro hlt (And.intro ia (And.intro (ra_mat hm0) (And.intro hck (And.intro (reflT (renN []) ([(3, .pp 1 0), (4, .pp 2 0), (5, .pp 3 0), (7, .lq 4 4 0 s.length), (9, .ls 5 l.length), (11, .ls 6 l.length), (13, .pv (.int .i64 (a : Int))), (14, .pv (.int .i64 (a : Int)))])) (And.intro (reflH (renN []) ([(1, 0, .ls 0 l.length), (2, 0, .pv (.int .i64 fn)), (2, 1, .pv (.int .i64 fd)), (3, 0, .pv (.int .i64 tn)), (3, 1, .pv (.int .i64 td)), (0, 0, rowP l), (4, 0, rowM s), (5, 0, .row 3 1 l.length (idsV g)), (6, 0, .row 3 1 l.length (idsV h))])) (And.intro r1 (And.intro ia (And.intro (ra_mat hm0) (And.intro hord (And.intro (Eq.refl (List.map (SV.ren (renU [0] 7)) [fldS 0 l, .pv (ratioV mm.n mm.d)])) (And.intro (reflH (renU [0] 7) [(0, 0, rowP l)]) (And.intro s1 (And.intro s2 (And.intro s3 (And.intro s4 (And.intro hmet (And.intro (Eq.refl (List.map (SV.ren (renU [0,5,7,4] 8)) [fldS 0 l, .ls 1 l.length, .ls 2 l.length, .lq 3 4 (0 + a) (a + b - a)])) (And.intro (reflH (renU [0,5,7,4] 8) [(0, 0, rowP l), (1, 0, .row 3 1 l.length (idsV g)), (2, 0, .row 3 1 l.length (idsV q)), (3, 0, rowM s)]) (And.intro ia (And.intro (ra_mat hm0) (And.intro hhf (And.intro (Eq.refl (List.map (SV.ren (renU [0,7,4] 8)) [fldS 0 l, .ls 1 l.length, .pv (ratioV mm.n mm.d), .lq 2 4 0 s.length, .pv (.int .i64 ((a + b : Nat) : Int)), .pv (ratioV tn td)])) (And.intro (reflH (renU [0,7,4] 8) [(0, 0, rowP l), (1, 0, .row 3 1 l.length (idsV q)), (2, 0, rowM s)]) True.intro)))))))))))))))))))))))) (by kernel_rfl)) r

set_option maxRecDepth 100000 in
theorem tm_end {l : List Pt} {h q : List Int} {s : List Mt} {a : Nat} {fn fd tn td : Int} (hlt : decide ((a : Int) < (s.length : Int)) = false) : RunsL Tryz.prog 1 1 (loopOf Tryz.prog 4 0) 151 7 ([(3, .pp 1 0), (4, .pp 2 0), (5, .pp 3 0), (7, .lq 4 4 0 s.length), (9, .ls 5 l.length), (11, .ls 6 l.length), (13, .pv (.int .i64 (a : Int)))]) ([(1, 0, .ls 0 l.length), (2, 0, .pv (.int .i64 fn)), (2, 1, .pv (.int .i64 fd)), (3, 0, .pv (.int .i64 tn)), (3, 1, .pv (.int .i64 td)), (0, 0, rowP l), (4, 0, rowM s), (5, 0, .row 3 1 l.length (idsV q)), (6, 0, .row 3 1 l.length (idsV h))]) (.exit 0) ([(3, .pp 1 0), (4, .pp 2 0), (5, .pp 3 0), (9, .ls 5 l.length), (11, .ls 6 l.length)]) ([(1, 0, .ls 0 l.length), (2, 0, .pv (.int .i64 fn)), (2, 1, .pv (.int .i64 fd)), (3, 0, .pv (.int .i64 tn)), (3, 1, .pv (.int .i64 td)), (0, 0, rowP l), (5, 0, .row 3 1 l.length (idsV q)), (6, 0, .row 3 1 l.length (idsV h))]) :=
  RunsL.stop [] 300 [.t false] (fun h => by cases h)
    (round_of (And.intro hlt True.intro) (by kernel_rfl))

set_option maxRecDepth 100000 in
theorem tm_some {l : List Pt} {g h q : List Int} {s : List Mt} {fn fd tn td : Int} (hg : FnL Tryz.prog 5 1 [fldS 0 l] [(0, 0, rowP l)] (.pv (.bool false)) 0 []) (h16 : decide ((l.length : Int) > 16) = false) (htm : FnL Tryz.prog 10 1 [fldS 0 l, .pv (ratioV fn fd), .pv (ratioV tn td)] [(0, 0, rowP l)] (.pv (.int .i64 (0))) 0 []) (hal : FnL Tryz.prog 11 0 [] [] (.pv (.bool true)) 0 []) (hall : FnL Tryz.prog 12 1 [fldS 0 l, .pv (ratioV fn fd), .pv (ratioV tn td)] [(0, 0, rowP l)] (.tu [.one (.lq 1 4 0 s.length), .one (.pv (.int .i64 0))]) 1 [(1, 0, rowM s)]) (ho1 : FnL Tryz.prog 13 1 [fldS 0 l, .pv (ratioV fn fd)] [(0, 0, rowP l)] (.tu [.one (.ls 1 l.length), .one (.pv (.int .i64 0))]) 1 [(1, 0, .row 3 1 l.length (idsV g))]) (ho2 : FnL Tryz.prog 13 1 [fldS 0 l, .pv (ratioV tn td)] [(0, 0, rowP l)] (.tu [.one (.ls 1 l.length), .one (.pv (.int .i64 0))]) 1 [(1, 0, .row 3 1 l.length (idsV h))]) (hl : (!((l.length : Int) == (l.length : Int))) = false) (r0 : RunsL Tryz.prog 1 1 (loopOf Tryz.prog 4 0) 151 7 ([(3, .pp 1 0), (4, .pp 2 0), (5, .pp 3 0), (7, .lq 4 4 0 s.length), (9, .ls 5 l.length), (11, .ls 6 l.length), (13, .pv (.int .i64 ((0 : Nat) : Int)))]) ([(1, 0, .ls 0 l.length), (2, 0, .pv (.int .i64 fn)), (2, 1, .pv (.int .i64 fd)), (3, 0, .pv (.int .i64 tn)), (3, 1, .pv (.int .i64 td)), (0, 0, rowP l), (4, 0, rowM s), (5, 0, .row 3 1 l.length (idsV g)), (6, 0, .row 3 1 l.length (idsV h))]) (.exit 0) ([(3, .pp 1 0), (4, .pp 2 0), (5, .pp 3 0), (9, .ls 5 l.length), (11, .ls 6 l.length)]) ([(1, 0, .ls 0 l.length), (2, 0, .pv (.int .i64 fn)), (2, 1, .pv (.int .i64 fd)), (3, 0, .pv (.int .i64 tn)), (3, 1, .pv (.int .i64 td)), (0, 0, rowP l), (5, 0, .row 3 1 l.length (idsV q)), (6, 0, .row 3 1 l.length (idsV h))])) (hsm : FnL Tryz.prog 17 2 [.ls 0 l.length, .ls 1 l.length] [(0, 0, .row 3 1 l.length (idsV q)), (1, 0, .row 3 1 l.length (idsV h))] (.pv (.bool true)) 0 []) (hcr : FnL Tryz.prog 18 2 [fldS 0 l, .pv (ratioV fn fd), .pv (ratioV tn td), .ls 1 l.length] [(0, 0, rowP l), (1, 0, .row 3 1 l.length (idsV h))] (.pv (.bool true)) 0 []) :
    FnL Tryz.prog 4 1 [fldS 0 l, .pv (ratioV fn fd), .pv (ratioV tn td)] [(0, 0, rowP l)] (.pv (.bool true)) 0 [] :=
  fnl_run 300 [] [.f [0] [fldS 0 l] [(0, 0, rowP l)] (.pv (.bool false)) 0 [], .t false, .f [0] [fldS 0 l, .pv (ratioV fn fd), .pv (ratioV tn td)] [(0, 0, rowP l)] (.pv (.int .i64 (0))) 0 [], .k, .f [] [] [] (.pv (.bool true)) 0 [], .k, .f [0] [fldS 0 l, .pv (ratioV fn fd), .pv (ratioV tn td)] [(0, 0, rowP l)] (.tu [.one (.lq 1 4 0 s.length), .one (.pv (.int .i64 0))]) 1 [(1, 0, rowM s)], .f [0] [fldS 0 l, .pv (ratioV fn fd)] [(0, 0, rowP l)] (.tu [.one (.ls 1 l.length), .one (.pv (.int .i64 0))]) 1 [(1, 0, .row 3 1 l.length (idsV g))], .f [0] [fldS 0 l, .pv (ratioV tn td)] [(0, 0, rowP l)] (.tu [.one (.ls 1 l.length), .one (.pv (.int .i64 0))]) 1 [(1, 0, .row 3 1 l.length (idsV h))], .k, .k, .k, .t false, .l (.exit 0) ([(3, .pp 1 0), (4, .pp 2 0), (5, .pp 3 0), (7, .lq 4 4 0 s.length), (9, .ls 5 l.length), (11, .ls 6 l.length), (13, .pv (.int .i64 ((0 : Nat) : Int)))]) ([(1, 0, .ls 0 l.length), (2, 0, .pv (.int .i64 fn)), (2, 1, .pv (.int .i64 fd)), (3, 0, .pv (.int .i64 tn)), (3, 1, .pv (.int .i64 td)), (0, 0, rowP l), (4, 0, rowM s), (5, 0, .row 3 1 l.length (idsV g)), (6, 0, .row 3 1 l.length (idsV h))]) ([(3, .pp 1 0), (4, .pp 2 0), (5, .pp 3 0), (9, .ls 5 l.length), (11, .ls 6 l.length)]) ([(1, 0, .ls 0 l.length), (2, 0, .pv (.int .i64 fn)), (2, 1, .pv (.int .i64 fd)), (3, 0, .pv (.int .i64 tn)), (3, 1, .pv (.int .i64 td)), (0, 0, rowP l), (5, 0, .row 3 1 l.length (idsV q)), (6, 0, .row 3 1 l.length (idsV h))]), .f [5,6] [.ls 0 l.length, .ls 1 l.length] [(0, 0, .row 3 1 l.length (idsV q)), (1, 0, .row 3 1 l.length (idsV h))] (.pv (.bool true)) 0 [], .f [0,6] [fldS 0 l, .pv (ratioV fn fd), .pv (ratioV tn td), .ls 1 l.length] [(0, 0, rowP l), (1, 0, .row 3 1 l.length (idsV h))] (.pv (.bool true)) 0 []]
     True.intro (And.intro hg (And.intro (Eq.refl (List.map (SV.ren (renU [0] 4)) [fldS 0 l])) (And.intro (reflH (renU [0] 4) [(0, 0, rowP l)]) (And.intro h16 (And.intro htm (And.intro (Eq.refl (List.map (SV.ren (renU [0] 4)) [fldS 0 l, .pv (ratioV fn fd), .pv (ratioV tn td)])) (And.intro (reflH (renU [0] 4) [(0, 0, rowP l)]) (And.intro hal (And.intro (Eq.refl (List.map (SV.ren (renU [] 4)) [])) (And.intro (reflH (renU [] 4) []) (And.intro hall (And.intro (Eq.refl (List.map (SV.ren (renU [0] 4)) [fldS 0 l, .pv (ratioV fn fd), .pv (ratioV tn td)])) (And.intro (reflH (renU [0] 4) [(0, 0, rowP l)]) (And.intro ho1 (And.intro (Eq.refl (List.map (SV.ren (renU [0] 5)) [fldS 0 l, .pv (ratioV fn fd)])) (And.intro (reflH (renU [0] 5) [(0, 0, rowP l)]) (And.intro ho2 (And.intro (Eq.refl (List.map (SV.ren (renU [0] 6)) [fldS 0 l, .pv (ratioV tn td)])) (And.intro (reflH (renU [0] 6) [(0, 0, rowP l)]) (And.intro hl (And.intro (reflT (renN []) ([(3, .pp 1 0), (4, .pp 2 0), (5, .pp 3 0), (7, .lq 4 4 0 s.length), (9, .ls 5 l.length), (11, .ls 6 l.length), (13, .pv (.int .i64 ((0 : Nat) : Int)))])) (And.intro (reflH (renN []) ([(1, 0, .ls 0 l.length), (2, 0, .pv (.int .i64 fn)), (2, 1, .pv (.int .i64 fd)), (3, 0, .pv (.int .i64 tn)), (3, 1, .pv (.int .i64 td)), (0, 0, rowP l), (4, 0, rowM s), (5, 0, .row 3 1 l.length (idsV g)), (6, 0, .row 3 1 l.length (idsV h))])) (And.intro r0 (And.intro hsm (And.intro (Eq.refl (List.map (SV.ren (renU [5,6] 7)) [.ls 0 l.length, .ls 1 l.length])) (And.intro (reflH (renU [5,6] 7) [(0, 0, .row 3 1 l.length (idsV q)), (1, 0, .row 3 1 l.length (idsV h))]) (And.intro hcr (And.intro (Eq.refl (List.map (SV.ren (renU [0,6] 7)) [fldS 0 l, .pv (ratioV fn fd), .pv (ratioV tn td), .ls 1 l.length])) (And.intro (reflH (renU [0,6] 7) [(0, 0, rowP l), (1, 0, .row 3 1 l.length (idsV h))]) True.intro))))))))))))))))))))))))))))) (by kernel_rfl)
end Go.Proofs.YtpngjeloiifgnaaGreat
