/-
  Who leads from a time on: the next meeting with a faster point; Of of package crest. Conditions: none.
-/
import Derived.Test.YtpngjeloiifgnaaGreatW40
import Derived.Test.YtpngjeloiifgnaaGreatW37
import Derived.Test.YtpngjeloiifgnaaGreatW41
import Derived.Test.YtpngjeloiifgnaaGreatW29
import Derived.Test.YtpngjeloiifgnaaGreatW27
namespace Go.Proofs.YtpngjeloiifgnaaGreat
open Go.RowKit
theorem CCmp_ok {an ad bn bd : Int} (ha : I64 an) (hb : I64 ad) (hc : I64 bn) (hd : I64 bd) (h1 : okB an ad = true) (h2 : okB bn bd = true) : Pure Tryz.prog 105 #[ratioV an ad, ratioV bn bd] (.int .i64 (an * bd - bn * ad).sign) := ccmp_path (Cmp_ok ha hb hc hd h1 h2)
theorem CBef_ok {an ad bn bd : Int} (ha : I64 an) (hb : I64 ad) (hc : I64 bn) (hd : I64 bd) (h1 : okB an ad = true) (h2 : okB bn bd = true) : Pure Tryz.prog 61 #[ratioV an ad, ratioV bn bd] (.bool (decide ((an * bd - bn * ad).sign < 0))) := cbef_path (CCmp_ok ha hb hc hd h1 h2) rfl
theorem PT_ok {l : List Pt} (hv : Val l) {k : Nat} {p : Pt} (hk : l[k]? = some p) {id : Int} (he : p.id = id) : FnL Tryz.prog 57 1 [fldS 0 l, .pv (.int .i64 id)] [(0, 0, rowP l)] (.pv (ptV p)) 0 [] := cpt_path (FindP_yes hv hk he)

noncomputable def ldr (l : List Pt) (n d : Int) : Pt := open Classical in if h : ∃ s, Srt l n d s then h.choose.headD ⟨0, 0, 0⟩ else ⟨0, 0, 0⟩
theorem ldr_srt {l s : List Pt} {n d : Int} (h : Srt l n d s) (hne : l ≠ []) : s[0]? = some (ldr l n d) := by
  have hex : ∃ s, Srt l n d s := ⟨s, h⟩
  have e := hex.choose_spec.uniq h
  unfold ldr
  rw [dif_pos hex, e]
  cases s with
  | nil => have := h.perm.length_eq; exact (hne (List.length_eq_zero_iff.1 this.symm)).elim
  | cons a r => rfl
theorem ldr_mem {l : List Pt} (hv : Val l) (n d : Int) (hne : l ≠ []) : ldr l n d ∈ l := by
  obtain ⟨s, hs⟩ := Srt_pure (tn := n) (td := d) hv
  exact hs.perm.mem_iff.1 (List.mem_of_getElem? (ldr_srt hs hne))
theorem ldr_top {l : List Pt} (hv : Val l) {n d : Int} {q : Pt} (hq : q ∈ l) : ld n d q (ldr l n d) = false := by
  have hne : l ≠ [] := fun e => by rw [e] at hq; cases hq
  obtain ⟨s, hs⟩ := Srt_pure (tn := n) (td := d) hv
  have h0 := ldr_srt hs hne
  cases s with
  | nil => cases h0
  | cons a r =>
    simp at h0
    rw [← h0]
    have hq' := hs.perm.mem_iff.2 hq
    rcases List.mem_cons.1 hq' with e | hr
    · rw [e]; exact ld_irr _
    · exact ld_asym ((List.pairwise_cons.1 hs.pw).1 q hr)
theorem ldr_of {l : List Pt} (hv : Val l) {n d : Int} {p : Pt} (hp : p ∈ l) (h : ∀ q ∈ l, ld n d q p = false) : ldr l n d = p := by
  have hne : l ≠ [] := fun e => by rw [e] at hp; cases hp
  have hm := ldr_mem hv n d hne
  by_cases e : (ldr l n d).id = p.id
  · exact val_id hv hm hp e
  · have h1 := ldr_top hv (n := n) (d := d) hp
    have h2 := ld_tot (fun e' => e e'.symm) h1
    rw [h _ hm] at h2
    cases h2
theorem PLeader_ok {l : List Pt} {n d : Int} (hv : Val l) (ht : Tm n d) (hne : l ≠ []) : LeadIs 51 l n d (ldr l n d).id 0 := by
  obtain ⟨s, hs⟩ := Srt_pure (tn := n) (td := d) hv
  have hl : 0 < l.length := List.length_pos_iff.2 hne
  have c := CWT_any ht.hn ht.hd l
  rw [tE_ok hv ht.ok] at c
  exact plead_yes c (by rw [beq_eq_false_iff_ne]; omega) (Min_any hv ht hs (ldr_srt hs hne))
theorem PLeader_none {n d : Int} (ht : Tm n d) : LeadIs 51 [] n d 0 42 := by
  have c := CWT_any ht.hn ht.hd []
  rw [tE_ok nlv ht.ok] at c
  exact plead_no c (by decide)
where nlv : Val ([] : List Pt) := ⟨by decide, by simp, up_of (by decide)⟩

noncomputable def nextOf (p q : Pt) : Option Mt := if p.b < q.b then fM (p, q) else none
theorem nextOf_no {p q : Pt} (h : ¬ p.b < q.b) : nextOf p q = none := if_neg h
theorem nextOf_yes {p q : Pt} (h1 : okPt p = true) (h2 : okPt q = true) (h : p.b < q.b) : ∃ m, nextOf p q = some m ∧ MSpec p q m := by
  unfold nextOf
  rw [if_pos h]
  exact fM_diff (x := (p, q)) h1 h2 (by show p.b ≠ q.b; omega)
theorem nextOf_some {p q : Pt} (h1 : okPt p = true) (h2 : okPt q = true) {m : Mt} (h : nextOf p q = some m) : p.b < q.b ∧ MSpec p q m := by
  by_cases hb : p.b < q.b
  · obtain ⟨m', h3, h4⟩ := nextOf_yes h1 h2 hb
    rw [h] at h3; cases h3
    exact ⟨hb, h4⟩
  · rw [nextOf_no hb] at h; cases h
theorem Fails_self {p : Pt} {n d : Int} (hn : I64 n) (hd : I64 d) (h1 : okPt p = true) (h3 : okB n d = true) : Pure Tryz.prog 109 #[ptV p, ptV p, ratioV n d] (.tuple #[ratioV 0 0, .bool false, .int .i64 2]) :=
  fails_e3 (Check02_ok h1) (Check02_ok h1) (Check_ok hn hd h3) (ids_e (by simp))
theorem Fails_lead {p q : Pt} {n d : Int} (hn : I64 n) (hd : I64 d) (h1 : okPt p = true) (h2 : okPt q = true) (h3 : okB n d = true) (h4 : p.id ≠ q.id) (hl : ld n d q p = false) :
    Pure Tryz.prog 109 #[ptV p, ptV q, ratioV n d] (match nextOf p q with | some m => .tuple #[ratioV m.n m.d, .bool true, .int .i64 0] | none => .tuple #[ratioV 0 0, .bool false, .int .i64 0]) := by
  have c1 := Check02_ok h1
  have c2 := Check02_ok h2
  have c3 := Check_ok hn hd h3
  have c4 := checkIDs_n (pa := p.a) (pb := p.b) (qa := q.a) (qb := q.b) h4
  have d0 : 0 < d := by have := okB_den h3; omega
  unfold ld at hl
  by_cases hb : q.b = p.b
  · rw [nextOf_no (by omega)]
    rw [hb, leads_same d0] at hl
    by_cases ha : q.a = p.a
    · by_cases hi : q.id < p.id
      · rw [ha, leads_t (by omega)] at hl; cases hl
      · exact fails_wf c1 c2 c3 c4 (by simp [ha, hb]) (df hi) (df (by omega))
    · by_cases hg : q.a > p.a
      · rw [leads_t (by omega)] at hl; cases hl
      · exact fails_bf c1 c2 c3 c4 (by simp [ha]) (by simp [hb]) (df hg) (df (by omega))
  · obtain ⟨m, k, k1, k2, k3, k4, k5, k6⟩ := meeting_both h2 h1 hb
    have k0 : 0 < k := by have := okB_den k1; omega
    have cc := Cmp_ok hn hd k2 k3 h3 k1
    rw [leads_meet k0 k4 hb] at hl
    have w : (q.a == p.a && (q.b == p.b && true)) = false := by simp [hb]
    have bb : (q.b == p.b) = false := by simp [hb]
    by_cases g : q.b > p.b <;> by_cases l : (n * k - m * d).sign ≥ 0
    · rw [dt g, dt l] at hl; cases hl
    · have hm : nextOf p q = some ⟨m, k, p.id, q.id⟩ := by
        unfold nextOf
        rw [if_pos g]
        refine fM_eq (x := (p, q)) h1 h2 (by show p.b ≠ q.b; omega) k1 ?_
        show m * (p.b - q.b) = (q.a - p.a) * k
        have e1 : m * (p.b - q.b) = -(m * (q.b - p.b)) := by rw [← Int.mul_neg]; congr 1; omega
        have e2 : (q.a - p.a) * k = -((p.a - q.a) * k) := by rw [← Int.neg_mul]; congr 1; omega
        rw [e1, e2, k4]
      rw [hm]
      exact fails_mft c1 c2 c3 c4 w bb k5 cc (df l) (dt g) k6
    · rw [nextOf_no (by omega)]
      exact fails_mtf c1 c2 c3 c4 w bb k5 cc (dt l) (df g)
    · rw [df g, df l] at hl; cases hl
noncomputable def fstep (p : Pt) (acc : Option Mt) (q : Pt) : Option Mt :=
  match nextOf p q with
  | none => acc
  | some m => match acc with
    | none => some m
    | some f => if (m.n * f.d - f.n * m.d).sign < 0 then some m else some f
noncomputable def nextM (p : Pt) (l : List Pt) : Option Mt := l.foldl (fstep p) none
/-- The least one of these. -/
def Least (p : Pt) (X : List Pt) : Option Mt → Prop
  | none => ∀ q ∈ X, nextOf p q = none
  | some m => (∃ q ∈ X, nextOf p q = some m) ∧ ∀ q ∈ X, ∀ m', nextOf p q = some m' → m.n * m'.d - m'.n * m.d ≤ 0
theorem least_step {p : Pt} {X : List Pt} {acc : Option Mt} {q : Pt} (hp : okPt p = true) (hX : ∀ q ∈ X, okPt q = true) (hq : okPt q = true) (h : Least p X acc) : Least p (X ++ [q]) (fstep p acc q) := by
  unfold fstep
  cases hn : nextOf p q with
  | none =>
    cases acc with
    | none => intro r hr; rcases List.mem_append.1 hr with hr | hr
              · exact h r hr
              · simp at hr; rw [hr]; exact hn
    | some f =>
      obtain ⟨⟨r, hr, h1⟩, h2⟩ := h
      refine ⟨⟨r, List.mem_append_left _ hr, h1⟩, fun r hr m' hm' => ?_⟩
      rcases List.mem_append.1 hr with hr | hr
      · exact h2 r hr m' hm'
      · simp at hr; rw [hr, hn] at hm'; cases hm'
  | some m =>
    have okm := (nextOf_some hp hq hn).2
    have dm := okB_den okm.ok
    cases acc with
    | none =>
      refine ⟨⟨q, by simp, hn⟩, fun r hr m' hm' => ?_⟩
      rcases List.mem_append.1 hr with hr | hr
      · rw [h r hr] at hm'; cases hm'
      · simp at hr; rw [hr, hn] at hm'; cases hm'; omega
    | some f =>
      obtain ⟨⟨r, hr, h1⟩, h2⟩ := h
      have okf := (nextOf_some hp (hX r hr) h1).2
      have df' := okB_den okf.ok
      show Least p (X ++ [q]) (if (m.n * f.d - f.n * m.d).sign < 0 then some m else some f)
      by_cases hs : (m.n * f.d - f.n * m.d).sign < 0
      · rw [if_pos hs]
        have hneg : m.n * f.d - f.n * m.d < 0 := by rcases sg_cases (m.n * f.d - f.n * m.d) with ⟨w, z⟩ | ⟨w, z⟩ | ⟨w, z⟩ <;> omega
        refine ⟨⟨q, by simp, hn⟩, fun r' hr' m' hm' => ?_⟩
        rcases List.mem_append.1 hr' with hr' | hr'
        · have okm' := (nextOf_some hp (hX r' hr') hm').2
          have dm' := okB_den okm'.ok
          have e1 := h2 r' hr' m' hm'
          have := frac_ge (an := m'.n) (ad := m'.d) (bn := f.n) (bd := f.d) (cn := m.n) (cd := m.d) (by omega) (by omega) (by omega) (by omega) (by omega)
          omega
        · simp at hr'; rw [hr', hn] at hm'; cases hm'; omega
      · rw [if_neg hs]
        have hge : m.n * f.d - f.n * m.d ≥ 0 := by rcases sg_cases (m.n * f.d - f.n * m.d) with ⟨w, z⟩ | ⟨w, z⟩ | ⟨w, z⟩ <;> omega
        refine ⟨⟨r, List.mem_append_left _ hr, h1⟩, fun r' hr' m' hm' => ?_⟩
        rcases List.mem_append.1 hr' with hr' | hr'
        · exact h2 r' hr' m' hm'
        · simp at hr'; rw [hr', hn] at hm'; cases hm'; omega
theorem least_take {p : Pt} {l : List Pt} (hv : Val l) (hp : okPt p = true) : ∀ k, k ≤ l.length → Least p (l.take k) ((l.take k).foldl (fstep p) none)
  | 0, _ => by intro q hq; simp at hq
  | k + 1, h => by
    obtain ⟨q, hq⟩ := get_some (l := l) (k := k) (by omega)
    rw [take_next hq, List.foldl_append]
    exact least_step hp (fun r hr => hv.ok r (List.mem_of_mem_take hr)) (hv.ok q (List.mem_of_getElem? hq)) (least_take hv hp k (by omega))
theorem least_all {p : Pt} {l : List Pt} (hv : Val l) (hp : okPt p = true) : Least p l (nextM p l) := by
  have := least_take hv hp l.length (Nat.le_refl _)
  rw [List.take_length] at this
  exact this
abbrev accN (a : Option Mt) : Int := match a with | some m => m.n | none => 0
abbrev accD (a : Option Mt) : Int := match a with | some m => m.d | none => 0
theorem Ovt_ok {l : List Pt} (hv : Val l) {i : Nat} {p : Pt} {x : Ld} (hi : l[i]? = some p) (hx : p.id = x.id) (ht : Tm x.n x.d) (hlead : ∀ q ∈ l, ld x.n x.d q p = false) :
    FnL Tryz.prog 74 1 [fldS 0 l, .pv (leadV x)] [(0, 0, rowP l)] (.pv (match nextM p l with | some m => .tuple #[leadV ⟨m.n, m.d, (ldr l m.n m.d).id⟩, .bool true] | none => .tuple #[leadV ⟨0, 0, 0⟩, .bool false])) 0 [] := by
  have h64 := hv.len
  have hp := hv.ok p (List.mem_of_getElem? hi)
  have hne : l ≠ [] := fun e => by rw [e] at hi; cases hi
  have lost : ∀ q ∈ l, Pure Tryz.prog 60 #[ptV p, ptV q, ratioV x.n x.d] (match nextOf p q with | some m => .tuple #[ratioV m.n m.d, .bool true] | none => .tuple #[ratioV 0 0, .bool false]) := by
    intro q hq
    by_cases e : p.id = q.id
    · have := val_id hv (List.mem_of_getElem? hi) hq e
      subst this
      rw [nextOf_no (by omega)]
      exact clost_path (Fails_self ht.hn ht.hd hp ht.ok)
    · have hf := Fails_lead ht.hn ht.hd hp (hv.ok q hq) ht.ok e (hlead q hq)
      cases hn : nextOf p q with
      | none => rw [hn] at hf; exact clost_path hf
      | some m => rw [hn] at hf; exact clost_path hf
  have cells : ∀ k, k ≤ l.length → ∀ m, (l.take k).foldl (fstep p) none = some m → I64 m.n ∧ I64 m.d ∧ okB m.n m.d = true := fun k hk m hm => by
    have h := least_take hv hp k hk
    rw [hm] at h
    obtain ⟨⟨q, hq, h1⟩, _⟩ := h
    have := (nextOf_some hp (hv.ok q (List.mem_of_mem_take hq)) h1).2
    exact ⟨this.n, this.d, this.ok⟩
  have loop : ∀ (d k : Nat), k + d = l.length → RunsL Tryz.prog 1 1 (loopOf Tryz.prog 74 0) 59 6
      [(2, .pp 1 0), (3, .pp 2 0), (4, .pp 3 0), (6, .pp 4 0), (7, .pp 5 0), (8, .pv (.bool ((l.take k).foldl (fstep p) none).isSome)), (21, .ls 0 l.length), (22, .pv (.int .i64 (l.length : Int))), (23, .pv (.int .i64 (k : Int)))]
      [(1, 0, .ls 0 l.length), (2, 0, .pv (.int .i64 x.n)), (2, 1, .pv (.int .i64 x.d)), (2, 2, .pv (.int .i64 x.id)), (3, 0, .pv (.int .i64 0)), (3, 1, .pv (.int .i64 0)), (3, 2, .pv (.int .i64 0)), (4, 0, .pv (.int .i64 p.id)), (4, 1, .pv (.int .i64 p.a)), (4, 2, .pv (.int .i64 p.b)), (5, 0, .pv (.int .i64 (accN ((l.take k).foldl (fstep p) none)))), (5, 1, .pv (.int .i64 (accD ((l.take k).foldl (fstep p) none)))), (0, 0, rowP l)] (.exit 0)
      [(2, .pp 1 0), (3, .pp 2 0), (4, .pp 3 0), (6, .pp 4 0), (7, .pp 5 0), (8, .pv (.bool (nextM p l).isSome)), (21, .ls 0 l.length), (22, .pv (.int .i64 (l.length : Int))), (23, .pv (.int .i64 (l.length : Int)))]
      [(1, 0, .ls 0 l.length), (2, 0, .pv (.int .i64 x.n)), (2, 1, .pv (.int .i64 x.d)), (2, 2, .pv (.int .i64 x.id)), (3, 0, .pv (.int .i64 0)), (3, 1, .pv (.int .i64 0)), (3, 2, .pv (.int .i64 0)), (4, 0, .pv (.int .i64 p.id)), (4, 1, .pv (.int .i64 p.a)), (4, 2, .pv (.int .i64 p.b)), (5, 0, .pv (.int .i64 (accN (nextM p l)))), (5, 1, .pv (.int .i64 (accD (nextM p l)))), (0, 0, rowP l)] := by
    intro d
    induction d with
    | zero =>
      intro k hk
      have hk' : k = l.length := by omega
      subst hk'
      rw [List.take_length]
      show RunsL _ _ _ _ _ _ [(2, .pp 1 0), (3, .pp 2 0), (4, .pp 3 0), (6, .pp 4 0), (7, .pp 5 0), (8, .pv (.bool (nextM p l).isSome)), (21, .ls 0 l.length), (22, .pv (.int .i64 (l.length : Int))), (23, .pv (.int .i64 (l.length : Int)))] _ _ _ _
      unfold nextM
      cases (l.foldl (fstep p) none) with
      | none => exact ov_end_false (df (by omega))
      | some m => exact ov_end_true (df (by omega))
    | succ d ih =>
      intro k hk
      have r := ih (k + 1) (by omega)
      obtain ⟨q, hq⟩ := get_some (l := l) (k := k) (by omega)
      have hqm := List.mem_of_getElem? hq
      rw [take_next hq, List.foldl_append] at r
      simp only [List.foldl_cons, List.foldl_nil] at r
      have hl := lost q hqm
      have hc := cells k (by omega)
      generalize (l.take k).foldl (fstep p) none = acc at *
      have hs := i64_succ (k := k) (by omega)
      unfold fstep at r
      cases hn : nextOf p q with
      | none =>
        rw [hn] at hl r
        cases acc with
        | none => exact ov_skip_false hq (in_of (by omega)) (dt (by omega)) hl hs r
        | some f => exact ov_skip_true hq (in_of (by omega)) (dt (by omega)) hl hs r
      | some m =>
        rw [hn] at hl r
        have okm := (nextOf_some hp (hv.ok q hqm) hn).2
        cases acc with
        | none => exact ov_first hq (in_of (by omega)) (dt (by omega)) hl hs r
        | some f =>
          obtain ⟨f1, f2, f3⟩ := hc f rfl
          have hb := CBef_ok okm.n okm.d f1 f2 okm.ok f3
          by_cases hs' : (m.n * f.d - f.n * m.d).sign < 0
          · rw [dt hs'] at hb
            simp only [if_pos hs'] at r
            exact ov_less hq (in_of (by omega)) (dt (by omega)) hl hb hs r
          · rw [df hs'] at hb
            simp only [if_neg hs'] at r
            exact ov_keep hq (in_of (by omega)) (dt (by omega)) hl hb hs r
  have r0 := loop l.length 0 (Nat.zero_add _)
  have hpt := PT_ok hv hi hx
  have hall := cells l.length (Nat.le_refl _)
  rw [List.take_length] at hall
  have hall' : ∀ m, nextM p l = some m → I64 m.n ∧ I64 m.d ∧ okB m.n m.d = true := hall
  cases hm : nextM p l with
  | none => rw [hm] at r0; exact ov_none hpt r0
  | some m =>
    rw [hm] at r0
    obtain ⟨m1, m2, m3⟩ := hall' m hm
    exact ov_some hpt r0 (PLeader_ok hv ⟨m1, m2, m3⟩ hne)
end Go.Proofs.YtpngjeloiifgnaaGreat
