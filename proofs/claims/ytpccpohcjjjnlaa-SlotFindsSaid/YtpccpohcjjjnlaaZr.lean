/-
  A handle finds what it was given for, or nothing. Conditions: none.
-/
import Derived.Test.YtpccpohcjjjnlaaZq
namespace Go.Proofs.Ytpccpohcjjjnlaa
open Go.RowKit

/-- What holds of all handles that were given out, and of those that should be live. -/
structure Fi (n i : Nat) (u : List Int) (b : List Bool) (fr : List Int) (q : List (Int × Int)) (lv : List Bool) : Prop where
  vd : Vd u b fr
  len : u.length = n
  ql : lv.length = q.length
  qi : q.length ≤ i
  live : ∀ (k : Nat) (x z : Int) (c : Bool), q[k]? = some (x, z) → lv[k]? = some c → (c = true ↔ Live u b x z)
  dist : ∀ (k j : Nat) (a : Int × Int), q[k]? = some a → q[j]? = some a → k = j
  bound : ∀ (k : Nat) (x z : Int), q[k]? = some (x, z) → 0 ≤ x ∧ x < (n : Int) ∧ ∃ y, u[x.toNat]? = some y ∧ z ≤ y
  small : ∀ (k : Nat) (y : Int), u[k]? = some y → y ≤ (i : Int)
section
variable {n i : Nat} {u fr : List Int} {b lv : List Bool} {q : List (Int × Int)}
theorem Fi.start (h1 : 1 ≤ n) (h2 : n ≤ 200) : Fi n 0 (List.replicate n 0) (List.replicate n false) (descZ n) [] [] :=
  ⟨Vd.new h1 h2, by simp, rfl, Nat.le_refl _, fun k x z c h => by simp at h, fun k j a h => by simp at h, fun k x z h => by simp at h, fun k y h => by
    have := List.eq_of_mem_replicate (List.mem_of_getElem? h)
    subst this; simp⟩
theorem Fi.on (h : Fi n i u b fr q lv) : Fi n (i + 1) u b fr q lv :=
  ⟨h.vd, h.len, h.ql, by have := h.qi; omega, h.live, h.dist, h.bound, fun k y hy => by have := h.small k y hy; omega⟩
theorem Fi.take {u' fr' : List Int} {b' : List Bool} {x z : Int} (h : Fi n i u b fr q lv) (ht : takeZ u b fr = some (u', b', fr', x, z)) : Fi n (i + 1) u' b' fr' (q ++ [(x, z)]) (lv ++ [true]) ∧ fr'.length + 1 = fr.length := by
  have v2 := h.vd.take ht
  obtain ⟨y, h1, h2, h3, rfl, rfl, rfl, rfl⟩ := takeZ_spec ht
  obtain ⟨es, hg, h4⟩ := last_split h1
  have hx : x ∈ fr := by rw [es]; simp
  obtain ⟨r1, r2⟩ := h.vd.rng x hx
  have hk : x.toNat < u.length := by omega
  have hkb : x.toNat < b.length := by rw [h.vd.len]; exact hk
  have hbx : b[x.toNat]? = some false := by
    have e := List.getElem?_eq_getElem hkb
    rw [e, (h.vd.part x.toNat _ e).2 (by rw [Int.toNat_of_nonneg r1]; exact hx)]
  have old : ∀ (k : Nat) (a c : Int), q[k]? = some (a, c) → (Live (u.set x.toNat (y + 1)) (b.set x.toNat true) a c ↔ Live u b a c) := by
    intro k a c hq
    obtain ⟨a0, a1, w, hw, hcw⟩ := h.bound k a c hq
    by_cases e : x.toNat = a.toNat
    · constructor
      · intro l
        have := l.use
        rw [List.getElem?_set, if_pos e, if_pos hk] at this
        have := Option.some.inj this
        rw [← e, h2] at hw
        have := Option.some.inj hw
        omega
      · intro l
        have := l.used
        rw [← e, hbx] at this
        cases this
    · constructor
      · intro l
        have l1 := l.lt
        have l2 := l.used
        have l3 := l.use
        rw [List.length_set] at l1
        rw [List.getElem?_set, if_neg e] at l2 l3
        exact ⟨l.lo, l1, l2, l3⟩
      · intro l
        exact ⟨l.lo, by rw [List.length_set]; exact l.lt, by rw [List.getElem?_set, if_neg e]; exact l.used, by rw [List.getElem?_set, if_neg e]; exact l.use⟩
  have hnew : ∀ k : Nat, q[k]? ≠ some (x, y + 1) := fun k hq => by
    obtain ⟨_, _, w, hw, hcw⟩ := h.bound k x (y + 1) hq
    rw [h2] at hw
    have := Option.some.inj hw
    omega
  have hql := h.ql
  have getq : ∀ (k : Nat) (a : Int × Int), (q ++ [(x, y + 1)])[k]? = some a → q[k]? = some a ∧ k < q.length ∨ k = q.length ∧ a = (x, y + 1) := by
    intro k a hq
    rw [List.getElem?_append] at hq
    split at hq
    · rename_i hlt; exact Or.inl ⟨hq, hlt⟩
    · rename_i hge
      have : k - q.length = 0 := by
        have := (List.getElem?_eq_some_iff.1 hq).1
        simp at this; omega
      rw [this] at hq
      exact Or.inr ⟨by omega, by simpa using hq.symm⟩
  refine ⟨⟨v2, by rw [List.length_set]; exact h.len, by simp [hql], by have := h.qi; simp; omega, fun k a c e hq hl => ?_, fun k j a hq hj => ?_, fun k a c hq => ?_, fun k w hw => ?_⟩, by simp; omega⟩
  · rcases getq k _ hq with ⟨hq, hlt⟩ | ⟨hkq, ea⟩
    · rw [List.getElem?_append_left (by omega)] at hl
      rw [old k a c hq]
      exact h.live k a c e hq hl
    · cases ea
      rw [hkq, ← hql, List.getElem?_append_right (Nat.le_refl _), Nat.sub_self] at hl
      simp at hl
      subst hl
      simp only [true_iff]
      exact ⟨r1, by rw [List.length_set]; exact r2, by rw [List.getElem?_set, if_pos rfl, if_pos hkb], by rw [List.getElem?_set, if_pos rfl, if_pos hk]⟩
  · rcases getq k _ hq with ⟨hq, _⟩ | ⟨hkq, ea⟩ <;> rcases getq j _ hj with ⟨hj, _⟩ | ⟨hjq, ea'⟩
    · exact h.dist k j a hq hj
    · subst ea'; exact (hnew k hq).elim
    · subst ea; exact (hnew j hj).elim
    · omega
  · rcases getq k _ hq with ⟨hq, _⟩ | ⟨_, ea⟩
    · obtain ⟨a0, a1, w, hw, hcw⟩ := h.bound k a c hq
      refine ⟨a0, a1, ?_⟩
      by_cases e : x.toNat = a.toNat
      · rw [← e, h2] at hw
        have := Option.some.inj hw
        exact ⟨y + 1, by rw [List.getElem?_set, if_pos e, if_pos hk], by omega⟩
      · exact ⟨w, by rw [List.getElem?_set, if_neg e]; exact hw, hcw⟩
    · cases ea
      exact ⟨r1, by rw [← h.len]; exact r2, y + 1, by rw [List.getElem?_set, if_pos rfl, if_pos hk], Int.le_refl _⟩
  · rw [List.getElem?_set] at hw
    by_cases ek : x.toNat = k
    · rw [if_pos ek, if_pos hk] at hw
      have := Option.some.inj hw
      have := h.small _ y h2
      omega
    · rw [if_neg ek] at hw
      have := h.small k w hw; omega
theorem Fi.give {k : Nat} {hi hw : Int} (h : Fi n i u b fr q lv) (hq : q[k]? = some (hi, hw)) (hl : Live u b hi hw) : Fi n (i + 1) u (b.set hi.toNat false) (fr ++ [hi]) q (lv.set k false) := by
  refine ⟨h.vd.give hl, h.len, by rw [List.length_set]; exact h.ql, by have := h.qi; omega, fun j a c e hj hlj => ?_, h.dist, h.bound, fun j y hy => by have := h.small j y hy; omega⟩
  rw [live_give h.vd hl]
  rw [List.getElem?_set] at hlj
  by_cases ek : k = j
  · subst ek
    rw [hq] at hj
    cases hj
    have hk : k < lv.length := by rw [h.ql]; exact (List.getElem?_eq_some_iff.1 hq).1
    rw [if_pos rfl, if_pos hk] at hlj
    cases hlj
    simp
  · rw [if_neg ek] at hlj
    rw [h.live j a c e hj hlj]
    constructor
    · intro l
      exact ⟨l, fun e2 => ek (h.dist k j (hi, hw) hq (by rw [hj, e2.1, e2.2]))⟩
    · exact fun l => l.1
/-! ### agrees -/
abbrev agH (u : List Int) (b : List Bool) (fr : List Int) (m : Nat) (q : List (Int × Int)) (lv : List Bool) : List (Nat × Nat × SV) := [(5, 0, .ls 0 u.length), (5, 1, .ls 1 b.length), (5, 2, .ls 2 fr.length), (0, 0, zrI u), (1, 0, zrB b), (2, 0, zrI fr), (3, 0, .row 31 2 m (zhV q)), (4, 0, .row 4 1 m (zbV lv))]
theorem ag_inner {m j : Nat} (h : Fi n i u b fr q lv) (hm : q.length = m) (hm2 : m ≤ 1000000) (hj : j < m) : ∀ (d k : Nat), k + d = j → RunsL Try.prog 5 5 (loopOf Try.prog 25 1) 65 6 [(1, .ls 3 m), (2, .ls 4 m), (3, .pp 5 0), (7, .pv (.int .i64 (j : Int))), (8, .pv (.int .i64 (k : Int)))] (agH u b fr m q lv) (.exit 2) [(1, .ls 3 m), (2, .ls 4 m), (3, .pp 5 0), (7, .pv (.int .i64 (j : Int)))] (agH u b fr m q lv)
  | 0, k, hk => ag_ie (by simp; omega)
  | d + 1, k, hk => by
    have ih := ag_inner h hm hm2 hj d (k + 1) (by omega)
    have hql := h.ql
    obtain ⟨⟨hi, hw⟩, hqk⟩ : ∃ a, q[k]? = some a := ⟨_, List.getElem?_eq_getElem (by omega)⟩
    obtain ⟨⟨ti, tw⟩, hqj⟩ : ∃ a, q[j]? = some a := ⟨_, List.getElem?_eq_getElem (by omega)⟩
    obtain ⟨c, hc⟩ : ∃ c, lv[j]? = some c := ⟨_, List.getElem?_eq_getElem (by omega)⟩
    obtain ⟨e, he⟩ : ∃ e, lv[k]? = some e := ⟨_, List.getElem?_eq_getElem (by omega)⟩
    have ik : 0 ≤ (k : Int) ∧ (k : Int) < (m : Int) := by omega
    have ij : 0 ≤ (j : Int) ∧ (j : Int) < (m : Int) := by omega
    have lt : decide ((k : Int) < (j : Int)) = true := by simp; omega
    have hne : ¬ (hi = ti ∧ hw = tw) := fun e2 => by
      have := h.dist k j (hi, hw) hqk (by rw [hqj, e2.1, e2.2])
      omega
    have hn : (hi == ti && (hw == tw && true)) = false := by rw [eq_pair, decide_eq_false hne]
    have hs := z_succ (k := k) (by omega)
    cases c with
    | false => exact ag_f ik ij hqk hqj lt hn hc hs ih
    | true =>
      cases e with
      | false => exact ag_tf ik ij hqk hqj lt hn hc he hs ih
      | true =>
        have l1 := (h.live j ti tw true hqj hc).1 rfl
        have l2 := (h.live k hi hw true hqk he).1 rfl
        have hii : (hi == ti) = false := by
          rw [beq_eq_false_iff_ne]
          intro e2
          subst e2
          have a1 := l1.use
          rw [l2.use] at a1
          exact hne ⟨rfl, Option.some.inj a1⟩
        exact ag_tt ik ij hqk hqj lt hn hc he hii hs ih
theorem ag_outer {m : Nat} (h : Fi n i u b fr q lv) (hm : q.length = m) (hm2 : m ≤ 1000000) : ∀ (d j : Nat), j + d = m → RunsL Try.prog 5 5 (loopOf Try.prog 25 0) 65 6 [(1, .ls 3 m), (2, .ls 4 m), (3, .pp 5 0), (7, .pv (.int .i64 (j : Int)))] (agH u b fr m q lv) (.exit 0) [] []
  | 0, j, hj => ag_oe (by simp; omega)
  | d + 1, j, hj => by
    have ih := ag_outer h hm hm2 d (j + 1) (by omega)
    have hql := h.ql
    obtain ⟨⟨ti, tw⟩, hqj⟩ : ∃ a, q[j]? = some a := ⟨_, List.getElem?_eq_getElem (by omega)⟩
    obtain ⟨c, hc⟩ : ∃ c, lv[j]? = some c := ⟨_, List.getElem?_eq_getElem (by omega)⟩
    have ij : 0 ≤ (j : Int) ∧ (j : Int) < (m : Int) := by omega
    have lt : decide ((j : Int) < (m : Int)) = true := by simp; omega
    have hl := h.live j ti tw c hqj hc
    have r := ag_inner h hm hm2 (j := j) (by omega) j 0 (by omega)
    have hs := z_succ (k := j) (by omega)
    cases c with
    | true => exact ag_o_true ij hqj hc lt (Hv_yes h.vd (hl.1 rfl)) r hs ih
    | false => exact ag_o_false ij hqj hc lt (Hv_no h.vd fun l => by have := hl.2 l; cases this) r hs ih
theorem Agrees_ok {m : Nat} (h : Fi n i u b fr q lv) (hm : q.length = m) (hm2 : m ≤ 1000000) : FnL Try.prog 25 5 [slA u b fr, .ls 3 m, .ls 4 m] [(0, 0, zrI u), (1, 0, zrB b), (2, 0, zrI fr), (3, 0, .row 31 2 m (zhV q)), (4, 0, .row 4 1 m (zbV lv))] (.pv (.bool true)) 0 [] :=
  ag_ok (ag_outer h hm hm2 m 0 (by omega))
/-! ### The law -/
abbrev fiT (n : Nat) (l : List Int) (m : Nat) (us : Int) (k : Nat) : List (Nat × SV) := [(0, .pv (.int .i64 (n : Int))), (1, .ls 0 l.length), (5, .pp 4 0), (7, .ls 5 m), (8, .ls 6 m), (9, .pv (.int .i64 us)), (10, .pv (.int .i64 (k : Int)))]
abbrev fiH (l u : List Int) (b : List Bool) (fr : List Int) (m : Nat) (q : List (Int × Int)) (lv : List Bool) : List (Nat × Nat × SV) := [(0, 0, zrI l), (4, 0, .ls 1 u.length), (4, 1, .ls 2 b.length), (4, 2, .ls 3 fr.length), (1, 0, zrI u), (2, 0, zrB b), (3, 0, zrI fr), (5, 0, .row 31 2 m (zhV q)), (6, 0, .row 4 1 m (zbV lv))]
theorem finds_loop {l : List Int} (hl : l.length ≤ 60) (hn : n ≤ 20) : ∀ (d k : Nat) (u fr : List Int) (b lv : List Bool) (q : List (Int × Int)), k + d = l.length → Fi n k u b fr q lv →
    RunsL Try.prog 1 1 (loopOf Try.prog 5 0) 150 7 (fiT n l q.length ((n : Int) - (fr.length : Int)) k) (fiH l u b fr q.length q lv) (.exit 0) [] []
  | 0, k, u, fr, b, lv, q, hk, h => sf_end (by simp; omega)
  | d + 1, k, u, fr, b, lv, q, hk, h => by
    have hql := h.ql
    have hqi := h.qi
    have hfl := h.vd.frlen
    obtain ⟨x, hx⟩ : ∃ x, l[k]? = some x := ⟨_, List.getElem?_eq_getElem (by omega)⟩
    have ik : 0 ≤ (k : Int) ∧ (k : Int) < (l.length : Int) := by omega
    have lt : decide ((k : Int) < (l.length : Int)) = true := by simp; omega
    have hs := z_succ (k := k) (by omega)
    have room : ∀ (w : Nat), w ≤ 200 → Value.int .i64 (IntKind.i64.wrap ((n : Int) - ((n : Int) - (w : Int)))) = .int .i64 (w : Int) := fun w hw => by
      rw [show (n : Int) - ((n : Int) - (w : Int)) = (w : Int) by omega]
      exact wrapZ (by omega) (by omega)
    have self : ∀ w : Int, (!(w == w)) = false := fun w => by simp
    have h' := h.on
    have ih := finds_loop hl hn d (k + 1) u fr b lv q (by omega) h'
    by_cases hneg : x < 0
    · have hxn : decide (x < 0) = true := by simpa using hneg
      cases ht : takeZ u b fr with
      | none =>
        have hfr : fr = [] := by
          cases hlast : fr.getLast? with
          | none => exact List.getLast?_eq_none_iff.1 hlast
          | some w =>
            obtain ⟨es, hg, h4⟩ := last_split hlast
            have hw : w ∈ fr := by rw [es]; simp
            obtain ⟨r1, r2⟩ := h.vd.rng w hw
            have hkw : w.toNat < u.length := by omega
            have hy := List.getElem?_eq_getElem hkw
            have := h.small _ _ hy
            unfold takeZ at ht
            rw [hlast] at ht
            simp only [hy] at ht
            split at ht
            · omega
            · cases ht
        have hu : decide ((n : Int) - (fr.length : Int) < (n : Int)) = false := by rw [hfr]; simp
        exact sf_none ik hx lt hxn (Take_none h.vd ht) hu (Room_ok h.vd) (room fr.length hfl) (self _) (Agrees_ok h rfl (by omega)) hs ih
      | some w =>
        obtain ⟨u3, b3, f3, ti, tw⟩ := w
        obtain ⟨h3, hlen⟩ := h.take ht
        have hfl3 := h3.vd.frlen
        have hu : decide ((n : Int) - (fr.length : Int) < (n : Int)) = true := by simp; omega
        have hy : Value.int .i64 (IntKind.i64.wrap ((n : Int) - (fr.length : Int) + 1)) = .int .i64 ((n : Int) - (f3.length : Int)) := by
          rw [show (n : Int) - (fr.length : Int) + 1 = (n : Int) - (f3.length : Int) by omega]
          exact wrapZ (by omega) (by omega)
        have ih3 := finds_loop hl hn d (k + 1) u3 f3 b3 (lv ++ [true]) (q ++ [(ti, tw)]) (by omega) h3
        have hq1 : (q ++ [(ti, tw)]).length = q.length + 1 := by simp
        rw [hq1] at ih3
        have ha := Agrees_ok h3 hq1 (by omega)
        rw [zhV_append, zbV_append] at ha
        exact sf_take ik hx lt hxn (Take_some h.vd ht) hu hy (by omega) (Room_ok h3.vd) (room f3.length hfl3) (self _) ha hs ih3
    · have hxn : decide (x < 0) = false := by simpa using hneg
      by_cases hm : x < (q.length : Int)
      · have hxm : decide (x < (q.length : Int)) = true := by simpa using hm
        have ix : 0 ≤ x ∧ x < (q.length : Int) := by omega
        obtain ⟨⟨hi, hw⟩, hq⟩ : ∃ a, q[x.toNat]? = some a := ⟨_, List.getElem?_eq_getElem (by omega)⟩
        obtain ⟨c, hc⟩ : ∃ c, lv[x.toNat]? = some c := ⟨_, List.getElem?_eq_getElem (by omega)⟩
        have hlive := h.live x.toNat hi hw c hq hc
        cases c with
        | false =>
          have hno : ¬ Live u b hi hw := fun g => by have := hlive.2 g; cases this
          exact sf_dead ik hx lt hxn hxm ix hq hc (Give_none h.vd hno) (Room_ok h.vd) (room fr.length hfl) (self _) (Agrees_ok h rfl (by omega)) hs ih
        | true =>
          have hyes := hlive.1 rfl
          have h3 := h.give hq hyes
          have hfl3 := h3.vd.frlen
          have hy : Value.int .i64 (IntKind.i64.wrap ((n : Int) - (fr.length : Int) - 1)) = .int .i64 ((n : Int) - ((fr ++ [hi]).length : Int)) := by
            rw [show (n : Int) - (fr.length : Int) - 1 = (n : Int) - ((fr ++ [hi]).length : Int) by simp; omega]
            exact wrapZ (by simp; omega) (by simp; omega)
          have ih3 := finds_loop hl hn d (k + 1) u (fr ++ [hi]) (b.set hi.toNat false) (lv.set x.toNat false) q (by omega) h3
          exact sf_give ik hx lt hxn hxm ix hq hc (Give_some h.vd hyes) (by omega) hy (Room_ok h3.vd) (room _ hfl3) (self _) (Agrees_ok h3 rfl (by omega)) hs ih3
      · exact sf_skip ik hx lt hxn (by simpa using hm) (Room_ok h.vd) (room fr.length hfl) (self _) (Agrees_ok h rfl (by omega)) hs ih
theorem finds_walk (nn : Int) (l : List Int) (_ : ∀ p ∈ l, (Lit.int .i64 p).wf = true) : FnL Try.prog 5 1 [.pv (.int .i64 nn), .ls 0 l.length] [(0, 0, zrI l)] (.pv (.bool true)) 0 [] := by
  by_cases h1 : nn < 1
  · exact sf_lo (by simpa using h1) Alive6
  · have n1 : decide (nn < 1) = false := by simpa using h1
    by_cases h2 : nn > 20
    · exact sf_hi n1 (by simpa using h2) Alive6
    · have n2 : decide (nn > 20) = false := by simpa using h2
      by_cases h3 : l.length > 60
      · exact sf_long n1 n2 (by simp; omega) Alive6
      · obtain ⟨n, rfl⟩ : ∃ n : Nat, nn = (n : Int) := ⟨nn.toNat, by omega⟩
        have h0 := Fi.start (n := n) (by omega) (by omega)
        have r := finds_loop (l := l) (by omega) (by omega) l.length 0 _ _ _ _ _ (by omega) h0
        rw [descZ_length, Int.sub_self] at r
        simp only [fiH, zrI, zrB, List.length_replicate, descZ_length] at r
        exact sf_all n1 n2 (by simp; omega) (New_ok (by omega) (by omega)) r Alive6
end
end Go.Proofs.Ytpccpohcjjjnlaa
