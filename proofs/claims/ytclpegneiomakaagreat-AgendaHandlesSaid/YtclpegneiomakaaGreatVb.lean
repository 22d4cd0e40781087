/-
  AgendaHandles holds of every list of times and every two lists of numbers. Conditions: none.
-/
import Derived.Test.YtclpegneiomakaaGreatVa
import Derived.Test.YtclpegneiomakaaGreatYz
namespace Go.Proofs.YtclpegneiomakaaGreat
open Go.RowKit
theorem mkEv_get : ∀ {i : Int} {rs hs : List P2} {k : Nat} {r h : P2}, rs[k]? = some r → hs[k]? = some h → (⟨r.a, r.b, i + (k : Int), h.a, h.b⟩ : Ev) ∈ mkEv i rs hs
  | i, [], _, k, r, h, h1, _ => by simp at h1
  | i, _ :: _, [], k, r, h, _, h2 => by simp at h2
  | i, a :: rs, c :: hs, 0, r, h, h1, h2 => by
    simp at h1 h2
    subst h1 h2
    simp [mkEv]
  | i, a :: rs, c :: hs, k + 1, r, h, h1, h2 => by
    have := mkEv_get (i := i + 1) (rs := rs) (hs := hs) (k := k) (r := r) (h := h) (by simpa using h1) (by simpa using h2)
    rw [mkEv, List.mem_cons]
    right
    rw [show i + ((k + 1 : Nat) : Int) = i + 1 + (k : Int) by omega]
    exact this
structure Hs (rs hv tms : List P2) (lv : List Bool) (u : List Int) (b : List Bool) (fr : List Int) (ev : List Ev) (wh : List Int) : Prop where
  va : VA u b fr ev wh
  hl : hv.length = rs.length
  tl : tms.length = rs.length
  ll : lv.length = rs.length
  yes : ∀ (k : Nat) (ha tm : P2), lv[k]? = some true → hv[k]? = some ha → tms[k]? = some tm → Live u b ha.a ha.b ∧ (⟨tm.a, tm.b, (k : Int), ha.a, ha.b⟩ : Ev) ∈ ev
  no : ∀ (k : Nat) (ha : P2), lv[k]? = some false → hv[k]? = some ha → ¬ Live u b ha.a ha.b
section
variable {rs hv tms : List P2} {lv : List Bool} {u fr wh : List Int} {b : List Bool} {ev : List Ev}
theorem Hs.get {l : List P2} {n k : Nat} (h : l.length = n) (hk : k < n) : ∃ m, l[k]? = some m := ⟨l[k]'(by omega), List.getElem?_eq_getElem (by omega)⟩
/-- Two that are live have two events. -/
theorem Hs.ne (h : Hs rs hv tms lv u b fr ev wh) {j k : Nat} {ha hb tm tj : P2} (h1 : lv[k]? = some true) (h2 : hv[k]? = some ha) (h3 : tms[k]? = some tm) (k1 : lv[j]? = some true) (k2 : hv[j]? = some hb) (k3 : tms[j]? = some tj) (e : hb.a = ha.a) : j = k := by
  have e1 := (h.yes k ha tm h1 h2 h3).2
  have e2 := (h.yes j hb tj k1 k2 k3).2
  have := h.va.one e2 e1 e
  have := congrArg Ev.k this
  simp only at this
  omega
theorem Hs.out (h : Hs rs hv tms lv u b fr ev wh) {k : Nat} {ha tm : P2} (h1 : lv[k]? = some true) (h2 : hv[k]? = some ha) (h3 : tms[k]? = some tm) :
    ∃ (u2 f2 wh3 : List Int) (b2 : List Bool) (ev3 : List Ev), Hs rs hv tms (lv.set k false) u2 b2 f2 ev3 wh3 ∧
    FnL Tryz.prog 17 5 [agA u b fr ev wh, .pv (handV ha.a ha.b)] (agP u b fr ev wh) (.tu [AOut ev3 u2 b2 f2 wh3, .one (.pv (eventV ⟨tm.a, tm.b, (k : Int), ha.a, ha.b⟩)), .one (.pv (.int .i64 0))]) 5 (APost ev3 u2 b2 f2 wh3) := by
  obtain ⟨hl, hm⟩ := h.yes k ha tm h1 h2 h3
  obtain ⟨j, hj, hjw, _⟩ := h.va.place hm
  obtain ⟨v2, p2, l2⟩ := h.va.without hj
  refine ⟨_, _, _, _, _, ⟨v2, h.hl, h.tl, by rw [List.length_set]; exact h.ll, ?_, ?_⟩, ARemove_some h.va hl hjw hj⟩
  · intro q hb tq q1 q2 q3
    have hne : q ≠ k := fun e => by
      subst e
      rw [List.getElem?_set] at q1
      simp at q1
    rw [List.getElem?_set, if_neg (fun e => hne e.symm)] at q1
    obtain ⟨ql, qm⟩ := h.yes q hb tq q1 q2 q3
    refine ⟨(l2 hb.a hb.b).2 ⟨ql, fun e => hne (h.ne h1 h2 h3 q1 q2 q3 e)⟩, ?_⟩
    have := p2.mem_iff.2 qm
    rw [List.mem_append, List.mem_singleton] at this
    rcases this with g | g
    · exact g
    · exact (hne (h.ne h1 h2 h3 q1 q2 q3 (congrArg Ev.i g))).elim
  · intro q hb q1 q2 ql
    by_cases hne : k = q
    · subst hne
      rw [h2] at q2
      cases q2
      exact ((l2 ha.a ha.b).1 ql).2 rfl
    · rw [List.getElem?_set, if_neg hne] at q1
      exact h.no q hb q1 q2 ((l2 hb.a hb.b).1 ql).1
theorem Hs.turn (h : Hs rs hv tms lv u b fr ev wh) {k : Nat} {ha to : P2} (ht : I64 to.a ∧ I64 to.b) (h0 : okB to.a to.b = true) (h1 : lv[k]? = some true) (h2 : hv[k]? = some ha) :
    ∃ (wh3 : List Int) (ev3 : List Ev), Hs rs hv (tms.set k to) lv u b fr ev3 wh3 ∧
    FnL Tryz.prog 18 5 [agA u b fr ev wh, .pv (handV ha.a ha.b), .pv (ratioV to.a to.b)] (agP u b fr ev wh) (.tu [AOut ev3 u b fr wh3, .one (.pv (.int .i64 0))]) 5 (APost ev3 u b fr wh3) := by
  have hk := (List.getElem?_eq_some_iff.1 h1).1
  obtain ⟨tm, h3⟩ := Hs.get h.tl (k := k) (by have := h.ll; omega)
  obtain ⟨hl, hm⟩ := h.yes k ha tm h1 h2 h3
  obtain ⟨y, ev5, wh5, m1, y1, y2, v5, l5, s5, m5, f5, k5⟩ := rekey_find ht h0 h.va hl
  have hy := h.va.one m1 hm y1
  refine ⟨wh5, ev5, ⟨v5, h.hl, by rw [List.length_set]; exact h.tl, h.ll, ?_, h.no⟩, k5⟩
  intro q hb tq q1 q2 q3
  by_cases hne : k = q
  · subst hne
    rw [h2] at q2
    cases q2
    rw [List.getElem?_set, if_pos rfl, if_pos (by rw [h.tl]; have := h.ll; omega)] at q3
    cases q3
    refine ⟨hl, ?_⟩
    rw [hy] at m5
    exact m5
  · rw [List.getElem?_set, if_neg hne] at q3
    obtain ⟨ql, qm⟩ := h.yes q hb tq q1 q2 q3
    exact ⟨ql, s5 _ qm (fun e => hne (h.ne h1 h2 h3 q1 q2 q3 e.1).symm)⟩
theorem toN {z : Int} (h : 0 ≤ z) : ((z.toNat : Nat) : Int) = z := Int.toNat_of_nonneg h
/-- What the first half of a round does. -/
theorem Hs.first (h : Hs rs hv tms lv u b fr ev wh) (z : Int) : z < 0 ∨ (0 ≤ z ∧ (rs.length : Int) ≤ z) ∨ (0 ≤ z ∧ z < (rs.length : Int) ∧ ∃ ha tm, hv[z.toNat]? = some ha ∧ tms[z.toNat]? = some tm ∧
    ((lv[z.toNat]? = some true ∧ ∃ (u2 f2 wh3 : List Int) (b2 : List Bool) (ev3 : List Ev), Hs rs hv tms (lv.set z.toNat false) u2 b2 f2 ev3 wh3 ∧
      FnL Tryz.prog 17 5 [agA u b fr ev wh, .pv (handV ha.a ha.b)] (agP u b fr ev wh) (.tu [AOut ev3 u2 b2 f2 wh3, .one (.pv (eventV ⟨tm.a, tm.b, z, ha.a, ha.b⟩)), .one (.pv (.int .i64 0))]) 5 (APost ev3 u2 b2 f2 wh3)) ∨
     (lv[z.toNat]? = some false ∧ FnL Tryz.prog 17 5 [agA u b fr ev wh, .pv (handV ha.a ha.b)] (agP u b fr ev wh) (.pv (.tuple #[agZ, evZ, .int .i64 6])) 0 []))) := by
  by_cases c0 : z < 0
  · exact .inl c0
  by_cases c1 : (rs.length : Int) ≤ z
  · exact .inr (.inl ⟨by omega, c1⟩)
  refine .inr (.inr ⟨by omega, by omega, ?_⟩)
  obtain ⟨ha, h2⟩ := Hs.get h.hl (k := z.toNat) (by omega)
  obtain ⟨tm, h3⟩ := Hs.get h.tl (k := z.toNat) (by omega)
  have hlv : lv[z.toNat]? = some (lv[z.toNat]'(by rw [h.ll]; omega)) := List.getElem?_eq_getElem _
  refine ⟨ha, tm, h2, h3, ?_⟩
  cases e : lv[z.toNat]'(by rw [h.ll]; omega) <;> rw [e] at hlv
  · exact .inr ⟨hlv, ARemove_none h.va (h.no _ ha hlv h2)⟩
  · obtain ⟨u2, f2, wh3, b2, ev3, q1, q2⟩ := h.out hlv h2 h3
    rw [toN (by omega)] at q2
    exact .inl ⟨hlv, u2, f2, wh3, b2, ev3, q1, q2⟩
/-- What the second half of a round does. -/
theorem Hs.second (h : Hs rs hv tms lv u b fr ev wh) (ho : RsOk rs) (hr30 : rs.length ≤ 30) (tu : List Int) (k : Nat) : (tu.length ≤ k) ∨ ∃ y, tu[k]? = some y ∧ k < tu.length ∧ (y < 0 ∨ (0 ≤ y ∧ (rs.length : Int) ≤ y) ∨ (0 ≤ y ∧ y < (rs.length : Int) ∧ ∃ hb to w, hv[y.toNat]? = some hb ∧ rs[w.toNat]? = some to ∧ Int.tmod (y + 1) (rs.length : Int) = w ∧ (0 ≤ w ∧ w < (rs.length : Int)) ∧
    ((lv[y.toNat]? = some true ∧ ∃ (wh3 : List Int) (ev3 : List Ev), Hs rs hv (tms.set y.toNat to) lv u b fr ev3 wh3 ∧
      FnL Tryz.prog 18 5 [agA u b fr ev wh, .pv (handV hb.a hb.b), .pv (ratioV to.a to.b)] (agP u b fr ev wh) (.tu [AOut ev3 u b fr wh3, .one (.pv (.int .i64 0))]) 5 (APost ev3 u b fr wh3)) ∨
     (lv[y.toNat]? = some false ∧ FnL Tryz.prog 18 5 [agA u b fr ev wh, .pv (handV hb.a hb.b), .pv (ratioV to.a to.b)] (agP u b fr ev wh) (.pv (.tuple #[agZ, .int .i64 6])) 0 [])))) := by
  by_cases c : tu.length ≤ k
  · exact .inl c
  refine .inr ⟨tu[k]'(by omega), List.getElem?_eq_getElem (by omega), by omega, ?_⟩
  generalize tu[k]'(by omega) = y
  by_cases c0 : y < 0
  · exact .inl c0
  by_cases c1 : (rs.length : Int) ≤ y
  · exact .inr (.inl ⟨by omega, c1⟩)
  refine .inr (.inr ⟨by omega, by omega, ?_⟩)
  obtain ⟨hb, h2⟩ := Hs.get h.hl (k := y.toNat) (by omega)
  have w0 : 0 ≤ Int.tmod (y + 1) (rs.length : Int) := Int.tmod_nonneg _ (by omega)
  have w1 : Int.tmod (y + 1) (rs.length : Int) < (rs.length : Int) := Int.tmod_lt_of_pos _ (by omega)
  obtain ⟨to, h3⟩ := Hs.get (l := rs) rfl (k := (Int.tmod (y + 1) (rs.length : Int)).toNat) (by omega)
  obtain ⟨ht, h0⟩ := ho to (List.mem_of_getElem? h3)
  have hlv : lv[y.toNat]? = some (lv[y.toNat]'(by rw [h.ll]; omega)) := List.getElem?_eq_getElem _
  refine ⟨hb, to, _, h2, h3, rfl, ⟨w0, w1⟩, ?_⟩
  cases e : lv[y.toNat]'(by rw [h.ll]; omega) <;> rw [e] at hlv
  · exact .inr ⟨hlv, ARekey_none ht h0 h.va (h.no _ hb hlv h2)⟩
  · exact .inl ⟨hlv, h.turn ht h0 hlv h2⟩
end
abbrev hT (rs hv : List P2) (os tu : List Int) : List (Nat × SV) := [(0, .ls 0 rs.length), (1, .ls 1 os.length), (2, .ls 2 tu.length), (8, .pp 9 0), (9, .ls 8 hv.length), (11, .ls 11 rs.length), (12, .ls 12 rs.length)]
abbrev hT1 (rs hv : List P2) (os tu : List Int) (j k : Nat) : List (Nat × SV) := [(0, .ls 0 rs.length), (1, .ls 1 os.length), (2, .ls 2 tu.length), (8, .pp 9 0), (9, .ls 8 hv.length), (11, .ls 11 rs.length), (12, .ls 12 rs.length), (j, .pv (.int .i64 (k : Int)))]
abbrev hH (rs hv : List P2) (os tu : List Int) (u fr wh : List Int) (b : List Bool) (ev : List Ev) (tms : List P2) (lv : List Bool) : List (Nat × Nat × SV) := [(9, 0, .ls 3 u.length), (9, 1, .ls 4 b.length), (9, 2, .ls 5 fr.length), (9, 3, .ls 6 ev.length), (9, 4, .ls 7 wh.length), (0, 0, rowR rs), (1, 0, zrI os), (2, 0, zrI tu), (3, 0, zrI u), (4, 0, zrB b), (5, 0, zrI fr), (6, 0, rowE ev), (7, 0, zrI wh), (8, 0, rowH hv), (11, 0, .row 38 2 rs.length (p2V tms)), (12, 0, .row 4 1 rs.length (zbV lv))]
section
variable {rs hv : List P2} {os tu : List Int}
theorem h2_loop (ho : RsOk rs) (hr : rs.length ≤ 30) (hO : os.length ≤ 30) (hT0 : tu.length ≤ 30) : ∀ (d k : Nat) {u fr wh : List Int} {b : List Bool} {ev : List Ev} {tms : List P2} {lv : List Bool}, k + d = os.length → Hs rs hv tms lv u b fr ev wh →
    ∃ (u2 f2 wh3 : List Int) (b2 : List Bool) (ev3 : List Ev) (tms2 : List P2) (lv2 : List Bool), Hs rs hv tms2 lv2 u2 b2 f2 ev3 wh3 ∧ RunsL Tryz.prog 3 3 (loopOf Tryz.prog 7 2) 238 13 (hT1 rs hv os tu 14 k) (hH rs hv os tu u fr wh b ev tms lv) (.exit 4) (hT rs hv os tu) (hH rs hv os tu u2 f2 wh3 b2 ev3 tms2 lv2)
  | 0, k, u, fr, wh, b, ev, tms, lv, hk, h => ⟨u, fr, wh, b, ev, tms, lv, h, h2_end (decide_eq_false (by omega))⟩
  | d + 1, k, u, fr, wh, b, ev, tms, lv, hk, h => by
    have hz : os[k]? = some (os[k]'(by omega)) := List.getElem?_eq_getElem (by omega)
    generalize os[k]'(by omega) = z at hz
    have hhl := h.hl
    have htl := h.tl
    have hll := h.ll
    have hlt : decide ((k : Int) < (os.length : Int)) = true := decide_eq_true (by omega)
    have hik : 0 ≤ (k : Int) ∧ (k : Int) < (os.length : Int) := by omega
    rcases h.first z with c0 | ⟨c0, c00⟩ | ⟨c0, c00, ha, tm, a1, a2, ⟨a3, u2, f2, wh3, b2, ev3, a4, a5⟩ | ⟨a3, a5⟩⟩
    · rcases h.second ho hr tu k with cy | ⟨y, c1, c2, d0 | ⟨d0, d1⟩ | ⟨d0, d1, hb, to, w, e1, e2, e3, e4, ⟨e5, wh5, ev5, e6, e7⟩ | ⟨e5, e7⟩⟩⟩
      · obtain ⟨u9, f9, w9, b9, ev9, t9, l9, g9, r⟩ := h2_loop ho hr hO hT0 d (k + 1) (by omega) h
        exact ⟨u9, f9, w9, b9, ev9, t9, l9, g9, h2_neg_end (hlt := hlt) (hk := hz) (hik := hik) (hs := z_succ (by omega)) (r := r) (hz0 := decide_eq_false (by omega)) (hy := decide_eq_true (by omega))⟩
      · obtain ⟨u9, f9, w9, b9, ev9, t9, l9, g9, r⟩ := h2_loop ho hr hO hT0 d (k + 1) (by omega) h
        exact ⟨u9, f9, w9, b9, ev9, t9, l9, g9, h2_neg_neg (hlt := hlt) (hk := hz) (hik := hik) (hs := z_succ (by omega)) (r := r) (hz0 := decide_eq_false (by omega)) (hy := decide_eq_false (by omega)) (hky := c1) (hiy := by omega) (hy0 := decide_eq_true (by omega))⟩
      · obtain ⟨u9, f9, w9, b9, ev9, t9, l9, g9, r⟩ := h2_loop ho hr hO hT0 d (k + 1) (by omega) h
        exact ⟨u9, f9, w9, b9, ev9, t9, l9, g9, h2_neg_big (hlt := hlt) (hk := hz) (hik := hik) (hs := z_succ (by omega)) (r := r) (hz0 := decide_eq_false (by omega)) (hy := decide_eq_false (by omega)) (hky := c1) (hiy := by omega) (hy0 := decide_eq_false (by omega)) (hy1 := decide_eq_true (by omega))⟩
      · obtain ⟨u9, f9, w9, b9, ev9, t9, l9, g9, r⟩ := h2_loop ho hr hO hT0 d (k + 1) (by omega) e6
        exact ⟨u9, f9, w9, b9, ev9, t9, l9, g9, h2_neg_live (hlt := hlt) (hk := hz) (hik := hik) (hs := z_succ (by omega)) (r := r) (hz0 := decide_eq_false (by omega)) (hy := decide_eq_false (by omega)) (hky := c1) (hiy := by omega) (hy0 := decide_eq_false (by omega)) (hy1 := decide_eq_false (by omega)) (hy2 := wrapZ (by omega) (by omega)) (nz := by omega) (hw := congrArg (Value.int .i64) e3) (hto := e2) (hiw := e4) (hhy := e1) (hih := by omega) (hirr := by omega) (hly := e5) (hre := e7) (hyl := by omega)⟩
      · obtain ⟨u9, f9, w9, b9, ev9, t9, l9, g9, r⟩ := h2_loop ho hr hO hT0 d (k + 1) (by omega) h
        exact ⟨u9, f9, w9, b9, ev9, t9, l9, g9, h2_neg_dead (hlt := hlt) (hk := hz) (hik := hik) (hs := z_succ (by omega)) (r := r) (hz0 := decide_eq_false (by omega)) (hy := decide_eq_false (by omega)) (hky := c1) (hiy := by omega) (hy0 := decide_eq_false (by omega)) (hy1 := decide_eq_false (by omega)) (hy2 := wrapZ (by omega) (by omega)) (nz := by omega) (hw := congrArg (Value.int .i64) e3) (hto := e2) (hiw := e4) (hhy := e1) (hih := by omega) (hirr := by omega) (hly := e5) (hre := e7)⟩
    · rcases h.second ho hr tu k with cy | ⟨y, c1, c2, d0 | ⟨d0, d1⟩ | ⟨d0, d1, hb, to, w, e1, e2, e3, e4, ⟨e5, wh5, ev5, e6, e7⟩ | ⟨e5, e7⟩⟩⟩
      · obtain ⟨u9, f9, w9, b9, ev9, t9, l9, g9, r⟩ := h2_loop ho hr hO hT0 d (k + 1) (by omega) h
        exact ⟨u9, f9, w9, b9, ev9, t9, l9, g9, h2_big_end (hlt := hlt) (hk := hz) (hik := hik) (hs := z_succ (by omega)) (r := r) (hz0 := decide_eq_true (by omega)) (hz1 := decide_eq_false (by omega)) (hy := decide_eq_true (by omega))⟩
      · obtain ⟨u9, f9, w9, b9, ev9, t9, l9, g9, r⟩ := h2_loop ho hr hO hT0 d (k + 1) (by omega) h
        exact ⟨u9, f9, w9, b9, ev9, t9, l9, g9, h2_big_neg (hlt := hlt) (hk := hz) (hik := hik) (hs := z_succ (by omega)) (r := r) (hz0 := decide_eq_true (by omega)) (hz1 := decide_eq_false (by omega)) (hy := decide_eq_false (by omega)) (hky := c1) (hiy := by omega) (hy0 := decide_eq_true (by omega))⟩
      · obtain ⟨u9, f9, w9, b9, ev9, t9, l9, g9, r⟩ := h2_loop ho hr hO hT0 d (k + 1) (by omega) h
        exact ⟨u9, f9, w9, b9, ev9, t9, l9, g9, h2_big_big (hlt := hlt) (hk := hz) (hik := hik) (hs := z_succ (by omega)) (r := r) (hz0 := decide_eq_true (by omega)) (hz1 := decide_eq_false (by omega)) (hy := decide_eq_false (by omega)) (hky := c1) (hiy := by omega) (hy0 := decide_eq_false (by omega)) (hy1 := decide_eq_true (by omega))⟩
      · obtain ⟨u9, f9, w9, b9, ev9, t9, l9, g9, r⟩ := h2_loop ho hr hO hT0 d (k + 1) (by omega) e6
        exact ⟨u9, f9, w9, b9, ev9, t9, l9, g9, h2_big_live (hlt := hlt) (hk := hz) (hik := hik) (hs := z_succ (by omega)) (r := r) (hz0 := decide_eq_true (by omega)) (hz1 := decide_eq_false (by omega)) (hy := decide_eq_false (by omega)) (hky := c1) (hiy := by omega) (hy0 := decide_eq_false (by omega)) (hy1 := decide_eq_false (by omega)) (hy2 := wrapZ (by omega) (by omega)) (nz := by omega) (hw := congrArg (Value.int .i64) e3) (hto := e2) (hiw := e4) (hhy := e1) (hih := by omega) (hirr := by omega) (hly := e5) (hre := e7) (hyl := by omega)⟩
      · obtain ⟨u9, f9, w9, b9, ev9, t9, l9, g9, r⟩ := h2_loop ho hr hO hT0 d (k + 1) (by omega) h
        exact ⟨u9, f9, w9, b9, ev9, t9, l9, g9, h2_big_dead (hlt := hlt) (hk := hz) (hik := hik) (hs := z_succ (by omega)) (r := r) (hz0 := decide_eq_true (by omega)) (hz1 := decide_eq_false (by omega)) (hy := decide_eq_false (by omega)) (hky := c1) (hiy := by omega) (hy0 := decide_eq_false (by omega)) (hy1 := decide_eq_false (by omega)) (hy2 := wrapZ (by omega) (by omega)) (nz := by omega) (hw := congrArg (Value.int .i64) e3) (hto := e2) (hiw := e4) (hhy := e1) (hih := by omega) (hirr := by omega) (hly := e5) (hre := e7)⟩
    · rcases a4.second ho hr tu k with cy | ⟨y, c1, c2, d0 | ⟨d0, d1⟩ | ⟨d0, d1, hb, to, w, e1, e2, e3, e4, ⟨e5, wh5, ev5, e6, e7⟩ | ⟨e5, e7⟩⟩⟩
      · obtain ⟨u9, f9, w9, b9, ev9, t9, l9, g9, r⟩ := h2_loop ho hr hO hT0 d (k + 1) (by omega) a4
        exact ⟨u9, f9, w9, b9, ev9, t9, l9, g9, h2_live_end (hlt := hlt) (hk := hz) (hik := hik) (hs := z_succ (by omega)) (r := r) (hz0 := decide_eq_true (by omega)) (hz1 := decide_eq_true (by omega)) (hhz := a1) (hiz := by omega) (hlz := a3) (hir := by omega) (hrm := a5) (x := ⟨tm.a, tm.b, z, ha.a, ha.b⟩) (hn := by simp) (htz := a2) (ht := by simp) (hzl := by omega) (hy := decide_eq_true (by omega))⟩
      · obtain ⟨u9, f9, w9, b9, ev9, t9, l9, g9, r⟩ := h2_loop ho hr hO hT0 d (k + 1) (by omega) a4
        exact ⟨u9, f9, w9, b9, ev9, t9, l9, g9, h2_live_neg (hlt := hlt) (hk := hz) (hik := hik) (hs := z_succ (by omega)) (r := r) (hz0 := decide_eq_true (by omega)) (hz1 := decide_eq_true (by omega)) (hhz := a1) (hiz := by omega) (hlz := a3) (hir := by omega) (hrm := a5) (x := ⟨tm.a, tm.b, z, ha.a, ha.b⟩) (hn := by simp) (htz := a2) (ht := by simp) (hzl := by omega) (hy := decide_eq_false (by omega)) (hky := c1) (hiy := by omega) (hy0 := decide_eq_true (by omega))⟩
      · obtain ⟨u9, f9, w9, b9, ev9, t9, l9, g9, r⟩ := h2_loop ho hr hO hT0 d (k + 1) (by omega) a4
        exact ⟨u9, f9, w9, b9, ev9, t9, l9, g9, h2_live_big (hlt := hlt) (hk := hz) (hik := hik) (hs := z_succ (by omega)) (r := r) (hz0 := decide_eq_true (by omega)) (hz1 := decide_eq_true (by omega)) (hhz := a1) (hiz := by omega) (hlz := a3) (hir := by omega) (hrm := a5) (x := ⟨tm.a, tm.b, z, ha.a, ha.b⟩) (hn := by simp) (htz := a2) (ht := by simp) (hzl := by omega) (hy := decide_eq_false (by omega)) (hky := c1) (hiy := by omega) (hy0 := decide_eq_false (by omega)) (hy1 := decide_eq_true (by omega))⟩
      · obtain ⟨u9, f9, w9, b9, ev9, t9, l9, g9, r⟩ := h2_loop ho hr hO hT0 d (k + 1) (by omega) e6
        exact ⟨u9, f9, w9, b9, ev9, t9, l9, g9, h2_live_live (hlt := hlt) (hk := hz) (hik := hik) (hs := z_succ (by omega)) (r := r) (hz0 := decide_eq_true (by omega)) (hz1 := decide_eq_true (by omega)) (hhz := a1) (hiz := by omega) (hlz := a3) (hir := by omega) (hrm := a5) (x := ⟨tm.a, tm.b, z, ha.a, ha.b⟩) (hn := by simp) (htz := a2) (ht := by simp) (hzl := by omega) (hy := decide_eq_false (by omega)) (hky := c1) (hiy := by omega) (hy0 := decide_eq_false (by omega)) (hy1 := decide_eq_false (by omega)) (hy2 := wrapZ (by omega) (by omega)) (nz := by omega) (hw := congrArg (Value.int .i64) e3) (hto := e2) (hiw := e4) (hhy := e1) (hih := by omega) (hirr := by omega) (hly := e5) (hre := e7) (hyl := by omega)⟩
      · obtain ⟨u9, f9, w9, b9, ev9, t9, l9, g9, r⟩ := h2_loop ho hr hO hT0 d (k + 1) (by omega) a4
        exact ⟨u9, f9, w9, b9, ev9, t9, l9, g9, h2_live_dead (hlt := hlt) (hk := hz) (hik := hik) (hs := z_succ (by omega)) (r := r) (hz0 := decide_eq_true (by omega)) (hz1 := decide_eq_true (by omega)) (hhz := a1) (hiz := by omega) (hlz := a3) (hir := by omega) (hrm := a5) (x := ⟨tm.a, tm.b, z, ha.a, ha.b⟩) (hn := by simp) (htz := a2) (ht := by simp) (hzl := by omega) (hy := decide_eq_false (by omega)) (hky := c1) (hiy := by omega) (hy0 := decide_eq_false (by omega)) (hy1 := decide_eq_false (by omega)) (hy2 := wrapZ (by omega) (by omega)) (nz := by omega) (hw := congrArg (Value.int .i64) e3) (hto := e2) (hiw := e4) (hhy := e1) (hih := by omega) (hirr := by omega) (hly := e5) (hre := e7)⟩
    · rcases h.second ho hr tu k with cy | ⟨y, c1, c2, d0 | ⟨d0, d1⟩ | ⟨d0, d1, hb, to, w, e1, e2, e3, e4, ⟨e5, wh5, ev5, e6, e7⟩ | ⟨e5, e7⟩⟩⟩
      · obtain ⟨u9, f9, w9, b9, ev9, t9, l9, g9, r⟩ := h2_loop ho hr hO hT0 d (k + 1) (by omega) h
        exact ⟨u9, f9, w9, b9, ev9, t9, l9, g9, h2_dead_end (hlt := hlt) (hk := hz) (hik := hik) (hs := z_succ (by omega)) (r := r) (hz0 := decide_eq_true (by omega)) (hz1 := decide_eq_true (by omega)) (hhz := a1) (hiz := by omega) (hlz := a3) (hir := by omega) (hrm := a5) (hy := decide_eq_true (by omega))⟩
      · obtain ⟨u9, f9, w9, b9, ev9, t9, l9, g9, r⟩ := h2_loop ho hr hO hT0 d (k + 1) (by omega) h
        exact ⟨u9, f9, w9, b9, ev9, t9, l9, g9, h2_dead_neg (hlt := hlt) (hk := hz) (hik := hik) (hs := z_succ (by omega)) (r := r) (hz0 := decide_eq_true (by omega)) (hz1 := decide_eq_true (by omega)) (hhz := a1) (hiz := by omega) (hlz := a3) (hir := by omega) (hrm := a5) (hy := decide_eq_false (by omega)) (hky := c1) (hiy := by omega) (hy0 := decide_eq_true (by omega))⟩
      · obtain ⟨u9, f9, w9, b9, ev9, t9, l9, g9, r⟩ := h2_loop ho hr hO hT0 d (k + 1) (by omega) h
        exact ⟨u9, f9, w9, b9, ev9, t9, l9, g9, h2_dead_big (hlt := hlt) (hk := hz) (hik := hik) (hs := z_succ (by omega)) (r := r) (hz0 := decide_eq_true (by omega)) (hz1 := decide_eq_true (by omega)) (hhz := a1) (hiz := by omega) (hlz := a3) (hir := by omega) (hrm := a5) (hy := decide_eq_false (by omega)) (hky := c1) (hiy := by omega) (hy0 := decide_eq_false (by omega)) (hy1 := decide_eq_true (by omega))⟩
      · obtain ⟨u9, f9, w9, b9, ev9, t9, l9, g9, r⟩ := h2_loop ho hr hO hT0 d (k + 1) (by omega) e6
        exact ⟨u9, f9, w9, b9, ev9, t9, l9, g9, h2_dead_live (hlt := hlt) (hk := hz) (hik := hik) (hs := z_succ (by omega)) (r := r) (hz0 := decide_eq_true (by omega)) (hz1 := decide_eq_true (by omega)) (hhz := a1) (hiz := by omega) (hlz := a3) (hir := by omega) (hrm := a5) (hy := decide_eq_false (by omega)) (hky := c1) (hiy := by omega) (hy0 := decide_eq_false (by omega)) (hy1 := decide_eq_false (by omega)) (hy2 := wrapZ (by omega) (by omega)) (nz := by omega) (hw := congrArg (Value.int .i64) e3) (hto := e2) (hiw := e4) (hhy := e1) (hih := by omega) (hirr := by omega) (hly := e5) (hre := e7) (hyl := by omega)⟩
      · obtain ⟨u9, f9, w9, b9, ev9, t9, l9, g9, r⟩ := h2_loop ho hr hO hT0 d (k + 1) (by omega) h
        exact ⟨u9, f9, w9, b9, ev9, t9, l9, g9, h2_dead_dead (hlt := hlt) (hk := hz) (hik := hik) (hs := z_succ (by omega)) (r := r) (hz0 := decide_eq_true (by omega)) (hz1 := decide_eq_true (by omega)) (hhz := a1) (hiz := by omega) (hlz := a3) (hir := by omega) (hrm := a5) (hy := decide_eq_false (by omega)) (hky := c1) (hiy := by omega) (hy0 := decide_eq_false (by omega)) (hy1 := decide_eq_false (by omega)) (hy2 := wrapZ (by omega) (by omega)) (nz := by omega) (hw := congrArg (Value.int .i64) e3) (hto := e2) (hiw := e4) (hhy := e1) (hih := by omega) (hirr := by omega) (hly := e5) (hre := e7)⟩
theorem h1_loop (hr : rs.length ≤ 30) {u fr wh : List Int} {b : List Bool} {ev : List Ev} {tms : List P2} : ∀ (d k : Nat) {lv : List Bool}, k + d = rs.length → lv.length = rs.length → (∀ j, j < k → lv[j]? = some true) →
    ∃ lv2 : List Bool, lv2.length = rs.length ∧ (∀ j, j < rs.length → lv2[j]? = some true) ∧ RunsL Tryz.prog 3 3 (loopOf Tryz.prog 7 1) 238 13 (hT1 rs hv os tu 13 k) (hH rs hv os tu u fr wh b ev tms lv) (.exit 2) (hT rs hv os tu) (hH rs hv os tu u fr wh b ev tms lv2)
  | 0, k, lv, hk, hl, h => ⟨lv, hl, fun j hj => h j (by omega), h1_end (decide_eq_false (by omega))⟩
  | d + 1, k, lv, hk, hl, h => by
    obtain ⟨lv2, g1, g2, r⟩ := h1_loop hr (u := u) (fr := fr) (wh := wh) (b := b) (ev := ev) (tms := tms) d (k + 1) (lv := lv.set k true) (by omega) (by rw [List.length_set]; exact hl) (fun j hj => by
      rw [List.getElem?_set]
      by_cases e : k = j
      · rw [if_pos e, if_pos (by omega)]
      · rw [if_neg e]; exact h j (by omega))
    exact ⟨lv2, g1, g2, h1_next (hlt := decide_eq_true (by omega)) (hin := by omega) (hll := by omega) (hs := z_succ (by omega)) (r := r)⟩
theorem h0_loop (hr : rs.length ≤ 30) (hi : ∀ r ∈ rs, I64 r.a ∧ I64 r.b) : ∀ (d k : Nat), k + d = rs.length → ((∀ j m, k ≤ j → rs[j]? = some m → okB m.a m.b = true) ∧ RunsL Tryz.prog 3 3 (loopOf Tryz.prog 7 0) 238 3 [(0, .ls 0 rs.length), (1, .ls 1 os.length), (2, .ls 2 tu.length), (7, .pv (.int .i64 (k : Int)))] [(0, 0, rowR rs), (1, 0, zrI os), (2, 0, zrI tu)] (.exit 0) [(0, .ls 0 rs.length), (1, .ls 1 os.length), (2, .ls 2 tu.length)] [(0, 0, rowR rs), (1, 0, zrI os), (2, 0, zrI tu)]) ∨
    RunsL Tryz.prog 3 3 (loopOf Tryz.prog 7 0) 238 3 [(0, .ls 0 rs.length), (1, .ls 1 os.length), (2, .ls 2 tu.length), (7, .pv (.int .i64 (k : Int)))] [(0, 0, rowR rs), (1, 0, zrI os), (2, 0, zrI tu)] .ret [(6, .pv (.bool true))] []
  | 0, k, hk => .inl ⟨fun j m hj hm => by have := (List.getElem?_eq_some_iff.1 hm).1; omega, h0_end (decide_eq_false (by omega))⟩
  | d + 1, k, hk => by
    have hx : rs[k]? = some (rs[k]'(by omega)) := List.getElem?_eq_getElem (by omega)
    generalize rs[k]'(by omega) = m at hx
    obtain ⟨i1, i2⟩ := hi m (List.mem_of_getElem? hx)
    by_cases h0 : okB m.a m.b = true
    · rcases h0_loop hr hi d (k + 1) (by omega) with ⟨g, r⟩ | r
      · refine .inl ⟨fun j q hj hq => ?_, h0_next (b := []) (hk := hx) (hlt := decide_eq_true (by omega)) (hin := by omega) (hc := RCheck_ok i1 i2 h0) (hs := z_succ (by omega)) (r := r)⟩
        by_cases e : k = j
        · subst e
          rw [hx] at hq
          cases hq
          exact h0
        · exact g j q (by omega) hq
      · exact .inr (h0_next (b := []) (hk := hx) (hlt := decide_eq_true (by omega)) (hin := by omega) (hc := RCheck_ok i1 i2 h0) (hs := z_succ (by omega)) (r := r))
    · exact .inr (h0_bad (b := []) (hk := hx) (hlt := decide_eq_true (by omega)) (hin := by omega) (hc := RCheck_bad i1 i2 h0) (hal := Alive7))
theorem h3_loop (hr : rs.length ≤ 30) {u fr wh : List Int} {b : List Bool} {ev : List Ev} {tms : List P2} {lv : List Bool} (h : Hs rs hv tms lv u b fr ev wh) : ∀ (d k : Nat), k + d = rs.length →
    RunsL Tryz.prog 3 3 (loopOf Tryz.prog 7 3) 238 13 (hT1 rs hv os tu 23 k) (hH rs hv os tu u fr wh b ev tms lv) (.exit 6) (hT rs hv os tu) (hH rs hv os tu u fr wh b ev tms lv)
  | 0, k, hk => h3_end (decide_eq_false (by omega))
  | d + 1, k, hk => by
    have hhl := h.hl
    have htl := h.tl
    have hll := h.ll
    have r := h3_loop hr h d (k + 1) (by omega)
    obtain ⟨ha, h2⟩ := Hs.get h.hl (k := k) (by omega)
    obtain ⟨tm, h3⟩ := Hs.get h.tl (k := k) (by omega)
    have hlv : lv[k]? = some (lv[k]'(by omega)) := List.getElem?_eq_getElem (by omega)
    cases e : lv[k]'(by omega) <;> rw [e] at hlv
    · exact h3_dead (hlt := decide_eq_true (by omega)) (hhk := h2) (hih := by omega) (hf := AFind_none h.va (h.no k ha hlv h2)) (hl := hlv) (hir := by omega) (hs := z_succ (by omega)) (r := r)
    · have g := AFind_mem h.va (h.yes k ha tm hlv h2 h3).2
      exact h3_live (w := 0) (hlt := decide_eq_true (by omega)) (hhk := h2) (hih := by omega) (hf := g) (hl := hlv) (hir := by omega) (htm := h3) (hq := by simp) (hs := z_succ (by omega)) (r := r)
theorem Handles_any (hi : ∀ r ∈ rs, I64 r.a ∧ I64 r.b) : FnL Tryz.prog 7 3 [.ls 0 rs.length, .ls 1 os.length, .ls 2 tu.length] [(0, 0, rowR rs), (1, 0, zrI os), (2, 0, zrI tu)] (.pv (.bool true)) 0 [] := by
  by_cases b0 : rs.length ≤ 30
  · by_cases b1 : os.length ≤ 30
    · by_cases b2 : tu.length ≤ 30
      · rcases h0_loop (os := os) (tu := tu) b0 hi rs.length 0 (by omega) with ⟨g, r0⟩ | r0
        · have ho : RsOk rs := fun r hr => by
            obtain ⟨j, hj⟩ := List.mem_iff_getElem?.1 hr
            exact ⟨hi r hr, g j r (by omega) hj⟩
          obtain ⟨u, b, fr, ev, wh, hv, hF, hf⟩ := Filled_any ho b0
          obtain ⟨lv, l1, l2, r1⟩ := h1_loop (hv := hv) (os := os) (tu := tu) b0 (u := u) (fr := fr) (wh := wh) (b := b) (ev := ev) (tms := rs) rs.length 0 (lv := List.replicate rs.length false) (by omega) (by simp) (fun j hj => by omega)
          have hS : Hs rs hv rs lv u b fr ev wh := ⟨hF.va, hF.len, rfl, l1, fun k ha tm k1 k2 k3 => ⟨hF.live ha (List.mem_of_getElem? k2), hF.perm.mem_iff.2 (by
            rw [List.take_length]
            have := mkEv_get (i := 0) k3 k2
            rwa [Int.zero_add] at this)⟩, fun k ha k1 k2 => by
              have := (List.getElem?_eq_some_iff.1 k1).1
              rw [l2 k (by omega)] at k1
              cases k1⟩
          obtain ⟨u2, f2, wh3, b2', ev3, tms, lv2, hS2, r2⟩ := h2_loop ho b0 b1 b2 os.length 0 (by omega) hS
          exact hw_path (g0 := decide_eq_false (by omega)) (g1 := decide_eq_false (by omega)) (g2 := decide_eq_false (by omega)) (r0 := r0) (hf := hf) (hl := by omega) (hl2 := by omega) (r1 := r1) (r2 := r2) (r3 := h3_loop b0 hS2 rs.length 0 (by omega)) (hck := RACheck_ok hS2.va) (hal := Alive7)
        · exact hw_bad (g0 := decide_eq_false (by omega)) (g1 := decide_eq_false (by omega)) (g2 := decide_eq_false (by omega)) (r0 := r0)
      · exact hw_big2 (g0 := decide_eq_false (by omega)) (g1 := decide_eq_false (by omega)) (g2 := decide_eq_true (by omega)) (hal := Alive7)
    · exact hw_big1 (g0 := decide_eq_false (by omega)) (g1 := decide_eq_true (by omega)) (hal := Alive7)
  · exact hw_big0 (g0 := decide_eq_true (by omega)) (hal := Alive7)
theorem handles_walk (rs : List P2) (hi : ∀ r ∈ rs, I64 r.a ∧ I64 r.b) (os : List Int) (_ : ∀ p ∈ os, (Lit.int .i64 p).wf = true) (tu : List Int) (_ : ∀ p ∈ tu, (Lit.int .i64 p).wf = true) : FnL Tryz.prog 7 3 [.ls 0 rs.length, .ls 1 os.length, .ls 2 tu.length] [(0, 0, rowR rs), (1, 0, zrI os), (2, 0, zrI tu)] (.pv (.bool true)) 0 [] := Handles_any hi
end
end Go.Proofs.YtclpegneiomakaaGreat
