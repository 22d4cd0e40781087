/-
  The reference's up and down go as the package's. Conditions: none.
-/
import Derived.Test.YtclpegneiomakaaGreatVi
import Derived.Test.YtclpegneiomakaaGreatYo
namespace Go.Proofs.YtclpegneiomakaaGreat
open Go.RowKit
theorem half_1 {i : Nat} (h : 1 ≤ i) (hk : i ≤ 1000000) : Value.int .i64 (IntKind.i64.wrap ((i : Int) - 1)) = .int .i64 ((i - 1 : Nat) : Int) := by
  rw [show (i : Int) - 1 = ((i - 1 : Nat) : Int) by omega]; exact wrapZ (by omega) (by omega)
theorem half_2 {i : Nat} (hk : i ≤ 1000000) : Value.int .i64 (IntKind.i64.wrap (Int.tdiv ((i - 1 : Nat) : Int) 2)) = .int .i64 (((i - 1) / 2 : Nat) : Int) := by
  have e : Int.tdiv ((i - 1 : Nat) : Int) 2 = (((i - 1) / 2 : Nat) : Int) := by rw [Int.tdiv_eq_ediv_of_nonneg (by omega)]; omega
  rw [e]
  exact wrapZ (by omega) (by omega)
theorem kid_0 {i : Nat} (h : i ≤ 1000000) : Value.int .i64 (IntKind.i64.wrap (2 * (i : Int))) = .int .i64 ((2 * i : Nat) : Int) := by rw [show 2 * (i : Int) = ((2 * i : Nat) : Int) by omega]; exact wrapZ (by omega) (by omega)
theorem kid_1 {i : Nat} (h : i ≤ 1000000) : Value.int .i64 (IntKind.i64.wrap (((2 * i : Nat) : Int) + 1)) = .int .i64 ((2 * i + 1 : Nat) : Int) := by rw [show ((2 * i : Nat) : Int) + 1 = ((2 * i + 1 : Nat) : Int) by omega]; exact wrapZ (by omega) (by omega)
theorem kid_2 {i : Nat} (h : i ≤ 1000000) : Value.int .i64 (IntKind.i64.wrap (((2 * i + 1 : Nat) : Int) + 1)) = .int .i64 ((2 * i + 2 : Nat) : Int) := by rw [show ((2 * i + 1 : Nat) : Int) + 1 = ((2 * i + 2 : Nat) : Int) by omega]; exact wrapZ (by omega) (by omega)
theorem sw_a {ev : List Ev} {n i j : Nat} {x y : Ev} (l : ev.length = n) (hi : i < n) (hj : j < n) (h : i ≠ j) : ((ev.set i y).set j x)[i]? = some y := by
  rw [List.getElem?_set, if_neg (fun e => h e.symm), List.getElem?_set, if_pos rfl, if_pos (by omega)]
theorem sw_b {ev : List Ev} {n i j : Nat} {x y : Ev} (l : ev.length = n) (hi : i < n) (hj : j < n) (h : i ≠ j) : ((ev.set i y).set j x)[j]? = some x := by
  rw [List.getElem?_set, if_pos rfl, if_pos (by rw [List.length_set]; omega)]
/-- The least of three, where it is not the first: it is less than the first, and the one of the two others that the reference takes. -/
theorem least_next {ev : List Ev} {i : Nat} {x y : Ev} (ok : ∀ x ∈ ev, EvOk x) (hl : leastM ev i ≠ i) (hx : ev[i]? = some x) (hy : ev[leastM ev i]? = some y) :
    ltE y x = true ∧ ((leastM ev i = 2 * i + 1 ∧ ∀ b, ev[2 * i + 2]? = some b → ltE b y = false) ∨ (leastM ev i = 2 * i + 2 ∧ ∃ m, ev[2 * i + 1]? = some m ∧ ltE y m = true)) := by
  have ox := ok x (List.mem_of_getElem? hx)
  have oy := ok y (List.mem_of_getElem? hy)
  have sp := fun c hc z hz => least_spec ok (i := i) (c := c) hc z y hz hy
  have hA : (leastA ev i = i ∧ ∀ m, ev[2 * i + 1]? = some m → ltE m x = false) ∨ (leastA ev i = 2 * i + 1 ∧ ∃ m, ev[2 * i + 1]? = some m ∧ ltE m x = true) := by
    unfold leastA
    rw [hx]
    cases hm : ev[2 * i + 1]? with
    | none => exact .inl ⟨rfl, fun m h => by cases h⟩
    | some m =>
      cases e : ltE m x
      · exact .inl ⟨by simp [e], fun m' h => by cases h; exact e⟩
      · exact .inr ⟨by simp [e], m, rfl, e⟩
  have hM : (leastM ev i = leastA ev i) ∨ (leastM ev i = 2 * i + 2 ∧ ∃ b w, ev[2 * i + 2]? = some b ∧ ev[leastA ev i]? = some w ∧ ltE b w = true) := by
    unfold leastM
    cases hb : ev[2 * i + 2]? with
    | none => exact .inl rfl
    | some b =>
      cases hw : ev[leastA ev i]? with
      | none => exact .inl rfl
      | some w =>
        cases e : ltE b w
        · exact .inl (by simp [e])
        · exact .inr ⟨by simp [e], b, w, rfl, rfl, e⟩
  rcases hM with h | ⟨h, b, w, hb, hw, e⟩
  · rcases hA with ⟨h1, h2⟩ | ⟨h1, m, h2, h3⟩
    · exact (hl (h.trans h1)).elim
    · rw [h, h1, h2] at hy
      cases hy
      exact ⟨h3, .inl ⟨h.trans h1, fun b hb => sp _ (.inr (.inr rfl)) b hb⟩⟩
  · rw [h, hb] at hy
    cases hy
    rcases hA with ⟨h1, h2⟩ | ⟨h1, m, h2, h3⟩
    · rw [h1, hx] at hw
      cases hw
      refine ⟨e, .inr ⟨h, ?_⟩⟩
      have h4 : 2 * i + 1 < ev.length := by have := (List.getElem?_eq_some_iff.1 hb).1; omega
      have hm : ev[2 * i + 1]? = some (ev[2 * i + 1]'h4) := List.getElem?_eq_getElem h4
      generalize ev[2 * i + 1]'h4 = m at hm
      refine ⟨m, hm, ?_⟩
      cases e2 : ltE y m with
      | true => rfl
      | false =>
        have := ltE_ntr oy (ok m (List.mem_of_getElem? hm)) ox e2 (h2 m hm)
        rw [e] at this
        cases this
    · rw [h1, h2] at hw
      cases hw
      exact ⟨ltE_tr oy (ok _ (List.mem_of_getElem? h2)) ox e h3, .inr ⟨h, _, h2, e⟩⟩

theorem rr_upA {u : List Int} {b : List Bool} {fr : List Int} {n mm : Nat} (hn : n ≤ 1000000) (d ii : Nat) (ev : List Ev) (wh : List Int) (a : ii ≤ d) (c : ii < n) (I : AInv n mm ev wh) : RunsL Tryz.prog 5 15 (loopOf Tryz.prog 94 0) 32 16 ([(1, .pv (.int .i64 (ii : Int))), (2, .pp 15 0)]) ([(15, 0, .ls 9 u.length), (15, 1, .ls 10 b.length), (15, 2, .ls 11 fr.length), (15, 3, .ls 12 n), (15, 4, .ls 13 mm), (14, 0, .ls 9 u.length), (14, 1, .ls 10 b.length), (14, 2, .ls 11 fr.length), (14, 3, .ls 12 n), (14, 4, .ls 13 mm), (8, 0, .pv (.slice none 0 0)), (8, 1, .pv (.slice none 0 0)), (8, 2, .pv (.slice none 0 0)), (8, 3, .pv (.slice none 0 0)), (8, 4, .pv (.slice none 0 0)), (9, 0, zrI u), (10, 0, zrB b), (11, 0, zrI fr), (12, 0, .row 43 5 n (evsV (ev))), (13, 0, .row 3 1 mm (ziV (wh)))]) (.exit 0) [(1, .pv (.int .i64 ((upM d ev wh ii).2.2 : Int)))] ([(14, 0, .ls 9 u.length), (14, 1, .ls 10 b.length), (14, 2, .ls 11 fr.length), (14, 3, .ls 12 n), (14, 4, .ls 13 mm), (8, 0, .pv (.slice none 0 0)), (8, 1, .pv (.slice none 0 0)), (8, 2, .pv (.slice none 0 0)), (8, 3, .pv (.slice none 0 0)), (8, 4, .pv (.slice none 0 0)), (9, 0, zrI u), (10, 0, zrB b), (11, 0, zrI fr), (12, 0, .row 43 5 n (evsV ((upM d ev wh ii).1))), (13, 0, .row 3 1 mm (ziV ((upM d ev wh ii).2.1)))]) := by
  refine (up_ind (n := n) (mm := mm) (Q := fun (ii : Nat) ev wh (ii' : Nat) ev' wh' => RunsL Tryz.prog 5 15 (loopOf Tryz.prog 94 0) 32 16 ([(1, .pv (.int .i64 (ii : Int))), (2, .pp 15 0)]) ([(15, 0, .ls 9 u.length), (15, 1, .ls 10 b.length), (15, 2, .ls 11 fr.length), (15, 3, .ls 12 n), (15, 4, .ls 13 mm), (14, 0, .ls 9 u.length), (14, 1, .ls 10 b.length), (14, 2, .ls 11 fr.length), (14, 3, .ls 12 n), (14, 4, .ls 13 mm), (8, 0, .pv (.slice none 0 0)), (8, 1, .pv (.slice none 0 0)), (8, 2, .pv (.slice none 0 0)), (8, 3, .pv (.slice none 0 0)), (8, 4, .pv (.slice none 0 0)), (9, 0, zrI u), (10, 0, zrB b), (11, 0, zrI fr), (12, 0, .row 43 5 n (evsV (ev))), (13, 0, .row 3 1 mm (ziV (wh)))]) (.exit 0) [(1, .pv (.int .i64 (ii' : Int)))] ([(14, 0, .ls 9 u.length), (14, 1, .ls 10 b.length), (14, 2, .ls 11 fr.length), (14, 3, .ls 12 n), (14, 4, .ls 13 mm), (8, 0, .pv (.slice none 0 0)), (8, 1, .pv (.slice none 0 0)), (8, 2, .pv (.slice none 0 0)), (8, 3, .pv (.slice none 0 0)), (8, 4, .pv (.slice none 0 0)), (9, 0, zrI u), (10, 0, zrB b), (11, 0, zrI fr), (12, 0, .row 43 5 n (evsV (ev'))), (13, 0, .row 3 1 mm (ziV (wh')))])) ?_ ?_ ?_ d ii ev wh a c I).1
  · intro i ev wh x y i' ev' wh' I h0 hi hx hy hl r
    have ox := I.ok x (List.mem_of_getElem? hx); have oy := I.ok y (List.mem_of_getElem? hy); have ix := I.ix x (List.mem_of_getElem? hx); have iy := I.ix y (List.mem_of_getElem? hy)
    have l1 := I.len; have l2 := I.wl; have hc := RLess7_any ox.i oy.i; rw [hl] at hc
    exact rr_up_next (q := i - 1) (j := (i - 1) / 2) (x := x) (y := y) (n2 := by decide) (hm1 := half_1 (by omega) (by omega)) (hm2 := half_2 (by omega)) (hin_x := ⟨by omega, by omega⟩) (he_x := hx) (hin_y := ⟨by omega, by omega⟩) (he_y := hy) (h0 := decide_eq_true (by omega)) (hl := hc) (hsa := by omega) (hsb := by rw [List.length_set]; omega) (h2a := sw_a l1 (by omega) (by omega) (by omega)) (h2b := sw_b l1 (by omega) (by omega) (by omega)) (hwb := iy) (hwbl := by omega) (hwa := ix) (hwal := by rw [List.length_set]; omega) (r := r)
  · intro i ev wh x y I h0 hi hx hy hl
    have ox := I.ok x (List.mem_of_getElem? hx); have oy := I.ok y (List.mem_of_getElem? hy)
    have hc := RLess7_any ox.i oy.i; rw [hl] at hc
    exact rr_up_stop (q := i - 1) (j := (i - 1) / 2) (x := x) (y := y) (n2 := by decide) (hm1 := half_1 (by omega) (by omega)) (hm2 := half_2 (by omega)) (hin_x := ⟨by omega, by omega⟩) (he_x := hx) (hin_y := ⟨by omega, by omega⟩) (he_y := hy) (h0 := decide_eq_true (by omega)) (hl := hc)
  · intro ev wh I
    exact rr_up_zero (k := 0) (decide_eq_false (by omega))

theorem rr_dnA {u : List Int} {b : List Bool} {fr : List Int} {n mm : Nat} (hn : n ≤ 1000000) (d ii : Nat) (ev : List Ev) (wh : List Int) (a : n ≤ ii + d) (c : ii < n) (I : AInv n mm ev wh) : RunsL Tryz.prog 5 16 (loopOf Tryz.prog 98 0) 52 17 ([(1, .pv (.int .i64 (ii : Int))), (2, .pp 16 0)]) ([(16, 0, .ls 9 u.length), (16, 1, .ls 10 b.length), (16, 2, .ls 11 fr.length), (16, 3, .ls 12 n), (16, 4, .ls 13 mm), (14, 0, .ls 9 u.length), (14, 1, .ls 10 b.length), (14, 2, .ls 11 fr.length), (14, 3, .ls 12 n), (14, 4, .ls 13 mm), (8, 0, .pv (.slice none 0 0)), (8, 1, .pv (.slice none 0 0)), (8, 2, .pv (.slice none 0 0)), (8, 3, .pv (.slice none 0 0)), (8, 4, .pv (.slice none 0 0)), (9, 0, zrI u), (10, 0, zrB b), (11, 0, zrI fr), (12, 0, .row 43 5 n (evsV (ev))), (13, 0, .row 3 1 mm (ziV (wh)))]) .ret [] ([(14, 0, .ls 9 u.length), (14, 1, .ls 10 b.length), (14, 2, .ls 11 fr.length), (14, 3, .ls 12 n), (14, 4, .ls 13 mm), (8, 0, .pv (.slice none 0 0)), (8, 1, .pv (.slice none 0 0)), (8, 2, .pv (.slice none 0 0)), (8, 3, .pv (.slice none 0 0)), (8, 4, .pv (.slice none 0 0)), (9, 0, zrI u), (10, 0, zrB b), (11, 0, zrI fr), (12, 0, .row 43 5 n (evsV ((dnM d ev wh ii).1))), (13, 0, .row 3 1 mm (ziV ((dnM d ev wh ii).2)))]) := by
  refine (dn_ind (n := n) (mm := mm) (Q := fun (ii : Nat) ev wh ev' wh' => RunsL Tryz.prog 5 16 (loopOf Tryz.prog 98 0) 52 17 ([(1, .pv (.int .i64 (ii : Int))), (2, .pp 16 0)]) ([(16, 0, .ls 9 u.length), (16, 1, .ls 10 b.length), (16, 2, .ls 11 fr.length), (16, 3, .ls 12 n), (16, 4, .ls 13 mm), (14, 0, .ls 9 u.length), (14, 1, .ls 10 b.length), (14, 2, .ls 11 fr.length), (14, 3, .ls 12 n), (14, 4, .ls 13 mm), (8, 0, .pv (.slice none 0 0)), (8, 1, .pv (.slice none 0 0)), (8, 2, .pv (.slice none 0 0)), (8, 3, .pv (.slice none 0 0)), (8, 4, .pv (.slice none 0 0)), (9, 0, zrI u), (10, 0, zrB b), (11, 0, zrI fr), (12, 0, .row 43 5 n (evsV (ev))), (13, 0, .row 3 1 mm (ziV (wh)))]) .ret [] ([(14, 0, .ls 9 u.length), (14, 1, .ls 10 b.length), (14, 2, .ls 11 fr.length), (14, 3, .ls 12 n), (14, 4, .ls 13 mm), (8, 0, .pv (.slice none 0 0)), (8, 1, .pv (.slice none 0 0)), (8, 2, .pv (.slice none 0 0)), (8, 3, .pv (.slice none 0 0)), (8, 4, .pv (.slice none 0 0)), (9, 0, zrI u), (10, 0, zrB b), (11, 0, zrI fr), (12, 0, .row 43 5 n (evsV (ev'))), (13, 0, .row 3 1 mm (ziV (wh')))])) ?_ ?_ d ii ev wh a c I).1
  · intro i ev wh x y ev' wh' I hi hl hx hy hlt r
    have ix := I.ix x (List.mem_of_getElem? hx); have iy := I.ix y (List.mem_of_getElem? hy)
    have ox := I.ok x (List.mem_of_getElem? hx); have oy := I.ok y (List.mem_of_getElem? hy)
    have l1 := I.len; have l2 := I.wl
    obtain ⟨hyx, ⟨hc, hb'⟩ | ⟨hc, m, hm, hbm⟩⟩ := least_next I.ok hl hx hy
    · rw [hc] at r hy hlt
      have hm := hy
      have hlx := RLess7_any oy.i ox.i; rw [hyx] at hlx
      by_cases h2 : 2 * i + 2 < n
      · have hb : ev[2 * i + 2]? = some (ev[2 * i + 2]'(by omega)) := List.getElem?_eq_getElem (by omega)
        generalize ev[2 * i + 2]'(by omega) = b at hb
        have ob := I.ok b (List.mem_of_getElem? hb)
        have hl2 := RLess7_any ob.i oy.i; rw [hb' b hb] at hl2
        exact rr_dn_left_next (q := 2 * i) (hq := kid_0 (by omega)) (hq1 := kid_1 (by omega)) (hge := decide_eq_false (by omega)) (hq2 := kid_2 (by omega)) (hin_x := ⟨by omega, by omega⟩) (he_x := hx) (h2 := decide_eq_true (by omega)) (hin_y := ⟨by omega, by omega⟩) (he_y := hb) (hin_m := ⟨by omega, by omega⟩) (he_m := hm) (hl2 := hl2) (hl := hlx) (hsa := by omega) (hsb := by rw [List.length_set]; omega) (h2a := sw_a l1 (by omega) (by omega) (by omega)) (h2b := sw_b l1 (by omega) (by omega) (by omega)) (hwb := iy) (hwbl := by omega) (hwa := ix) (hwal := by rw [List.length_set]; omega) (r := r)
      · exact rr_dn_one_next (q := 2 * i) (hq := kid_0 (by omega)) (hq1 := kid_1 (by omega)) (hge := decide_eq_false (by omega)) (hq2 := kid_2 (by omega)) (hin_x := ⟨by omega, by omega⟩) (he_x := hx) (h2 := decide_eq_false (by omega)) (hin_m := ⟨by omega, by omega⟩) (he_m := hm) (hl := hlx) (hsa := by omega) (hsb := by rw [List.length_set]; omega) (h2a := sw_a l1 (by omega) (by omega) (by omega)) (h2b := sw_b l1 (by omega) (by omega) (by omega)) (hwb := iy) (hwbl := by omega) (hwa := ix) (hwal := by rw [List.length_set]; omega) (r := r)
    · rw [hc] at r hy hlt
      have hb := hy
      have hlx := RLess7_any oy.i ox.i; rw [hyx] at hlx
      have om := I.ok m (List.mem_of_getElem? hm)
      have hl2 := RLess7_any oy.i om.i; rw [hbm] at hl2
      exact rr_dn_right_next (q := 2 * i) (hq := kid_0 (by omega)) (hq1 := kid_1 (by omega)) (hge := decide_eq_false (by omega)) (hq2 := kid_2 (by omega)) (hin_x := ⟨by omega, by omega⟩) (he_x := hx) (h2 := decide_eq_true (by omega)) (hin_y := ⟨by omega, by omega⟩) (he_y := hb) (hin_m := ⟨by omega, by omega⟩) (he_m := hm) (hl2 := hl2) (hl := hlx) (hsa := by omega) (hsb := by rw [List.length_set]; omega) (h2a := sw_a l1 (by omega) (by omega) (by omega)) (h2b := sw_b l1 (by omega) (by omega) (by omega)) (hwb := iy) (hwbl := by omega) (hwa := ix) (hwal := by rw [List.length_set]; omega) (r := r)
  · intro i ev wh I hi hl
    have l1 := I.len
    obtain ⟨x, hx⟩ : ∃ x, ev[i]? = some x := ⟨_, List.getElem?_eq_getElem (by omega)⟩
    have ox := I.ok x (List.mem_of_getElem? hx)
    have sp : ∀ c, (c = i ∨ c = 2 * i + 1 ∨ c = 2 * i + 2) → ∀ z, ev[c]? = some z → ltE z x = false := fun c hc z hz => least_spec I.ok hc z x hz (by rw [hl]; exact hx)
    by_cases h1 : 2 * i + 1 < n
    · have hm : ev[2 * i + 1]? = some (ev[2 * i + 1]'(by omega)) := List.getElem?_eq_getElem (by omega)
      generalize ev[2 * i + 1]'(by omega) = m at hm
      have om := I.ok m (List.mem_of_getElem? hm)
      have hlm := RLess7_any om.i ox.i; rw [sp _ (.inr (.inl rfl)) m hm] at hlm
      by_cases h2 : 2 * i + 2 < n
      · have hb : ev[2 * i + 2]? = some (ev[2 * i + 2]'(by omega)) := List.getElem?_eq_getElem (by omega)
        generalize ev[2 * i + 2]'(by omega) = b at hb
        have ob := I.ok b (List.mem_of_getElem? hb)
        have hlb := RLess7_any ob.i ox.i; rw [sp _ (.inr (.inr rfl)) b hb] at hlb
        have hl2 := RLess7_any ob.i om.i
        cases e : ltE b m <;> rw [e] at hl2
        · exact rr_dn_left_stop (q := 2 * i) (hq := kid_0 (by omega)) (hq1 := kid_1 (by omega)) (hge := decide_eq_false (by omega)) (hq2 := kid_2 (by omega)) (hin_x := ⟨by omega, by omega⟩) (he_x := hx) (h2 := decide_eq_true (by omega)) (hin_y := ⟨by omega, by omega⟩) (he_y := hb) (hin_m := ⟨by omega, by omega⟩) (he_m := hm) (hl2 := hl2) (hl := hlm)
        · exact rr_dn_right_stop (q := 2 * i) (hq := kid_0 (by omega)) (hq1 := kid_1 (by omega)) (hge := decide_eq_false (by omega)) (hq2 := kid_2 (by omega)) (hin_x := ⟨by omega, by omega⟩) (he_x := hx) (h2 := decide_eq_true (by omega)) (hin_y := ⟨by omega, by omega⟩) (he_y := hb) (hin_m := ⟨by omega, by omega⟩) (he_m := hm) (hl2 := hl2) (hl := hlb)
      · exact rr_dn_one_stop (q := 2 * i) (hq := kid_0 (by omega)) (hq1 := kid_1 (by omega)) (hge := decide_eq_false (by omega)) (hq2 := kid_2 (by omega)) (hin_x := ⟨by omega, by omega⟩) (he_x := hx) (h2 := decide_eq_false (by omega)) (hin_m := ⟨by omega, by omega⟩) (he_m := hm) (hl := hlm)
    · exact rr_dn_leaf (q := 2 * i) (hq := kid_0 (by omega)) (hq1 := kid_1 (by omega)) (hge := decide_eq_true (by omega))

theorem rvm_upA {u2 : List Int} {b2 : List Bool} {f2 : List Int} {n mm : Nat} (hn : n ≤ 1000000) (d ii : Nat) (ev : List Ev) (wh : List Int) (a : ii ≤ d) (c : ii < n) (I : AInv n mm ev wh) : RunsL Tryz.prog 5 19 (loopOf Tryz.prog 94 0) 32 20 ([(1, .pv (.int .i64 (ii : Int))), (2, .pp 19 0)]) ([(19, 0, .ls 16 u2.length), (19, 1, .ls 17 b2.length), (19, 2, .ls 18 f2.length), (19, 3, .ls 15 n), (19, 4, .ls 12 mm), (13, 0, .ls 16 u2.length), (13, 1, .ls 17 b2.length), (13, 2, .ls 18 f2.length), (13, 3, .ls 15 n), (13, 4, .ls 12 mm), (7, 0, .pv (.slice none 0 0)), (7, 1, .pv (.slice none 0 0)), (7, 2, .pv (.slice none 0 0)), (7, 3, .pv (.slice none 0 0)), (7, 4, .pv (.slice none 0 0)), (16, 0, zrI u2), (17, 0, zrB b2), (18, 0, zrI f2), (15, 0, .row 43 5 n (evsV (ev))), (12, 0, .row 3 1 mm (ziV (wh)))]) (.exit 0) [(1, .pv (.int .i64 ((upM d ev wh ii).2.2 : Int)))] ([(13, 0, .ls 16 u2.length), (13, 1, .ls 17 b2.length), (13, 2, .ls 18 f2.length), (13, 3, .ls 15 n), (13, 4, .ls 12 mm), (7, 0, .pv (.slice none 0 0)), (7, 1, .pv (.slice none 0 0)), (7, 2, .pv (.slice none 0 0)), (7, 3, .pv (.slice none 0 0)), (7, 4, .pv (.slice none 0 0)), (16, 0, zrI u2), (17, 0, zrB b2), (18, 0, zrI f2), (15, 0, .row 43 5 n (evsV ((upM d ev wh ii).1))), (12, 0, .row 3 1 mm (ziV ((upM d ev wh ii).2.1)))]) := by
  refine (up_ind (n := n) (mm := mm) (Q := fun (ii : Nat) ev wh (ii' : Nat) ev' wh' => RunsL Tryz.prog 5 19 (loopOf Tryz.prog 94 0) 32 20 ([(1, .pv (.int .i64 (ii : Int))), (2, .pp 19 0)]) ([(19, 0, .ls 16 u2.length), (19, 1, .ls 17 b2.length), (19, 2, .ls 18 f2.length), (19, 3, .ls 15 n), (19, 4, .ls 12 mm), (13, 0, .ls 16 u2.length), (13, 1, .ls 17 b2.length), (13, 2, .ls 18 f2.length), (13, 3, .ls 15 n), (13, 4, .ls 12 mm), (7, 0, .pv (.slice none 0 0)), (7, 1, .pv (.slice none 0 0)), (7, 2, .pv (.slice none 0 0)), (7, 3, .pv (.slice none 0 0)), (7, 4, .pv (.slice none 0 0)), (16, 0, zrI u2), (17, 0, zrB b2), (18, 0, zrI f2), (15, 0, .row 43 5 n (evsV (ev))), (12, 0, .row 3 1 mm (ziV (wh)))]) (.exit 0) [(1, .pv (.int .i64 (ii' : Int)))] ([(13, 0, .ls 16 u2.length), (13, 1, .ls 17 b2.length), (13, 2, .ls 18 f2.length), (13, 3, .ls 15 n), (13, 4, .ls 12 mm), (7, 0, .pv (.slice none 0 0)), (7, 1, .pv (.slice none 0 0)), (7, 2, .pv (.slice none 0 0)), (7, 3, .pv (.slice none 0 0)), (7, 4, .pv (.slice none 0 0)), (16, 0, zrI u2), (17, 0, zrB b2), (18, 0, zrI f2), (15, 0, .row 43 5 n (evsV (ev'))), (12, 0, .row 3 1 mm (ziV (wh')))])) ?_ ?_ ?_ d ii ev wh a c I).1
  · intro i ev wh x y i' ev' wh' I h0 hi hx hy hl r
    have ox := I.ok x (List.mem_of_getElem? hx); have oy := I.ok y (List.mem_of_getElem? hy); have ix := I.ix x (List.mem_of_getElem? hx); have iy := I.ix y (List.mem_of_getElem? hy)
    have l1 := I.len; have l2 := I.wl; have hc := RLess7_any ox.i oy.i; rw [hl] at hc
    exact rvm_up_next (q := i - 1) (j := (i - 1) / 2) (x := x) (y := y) (n2 := by decide) (hm1 := half_1 (by omega) (by omega)) (hm2 := half_2 (by omega)) (hin_x := ⟨by omega, by omega⟩) (he_x := hx) (hin_y := ⟨by omega, by omega⟩) (he_y := hy) (h0 := decide_eq_true (by omega)) (hl := hc) (hsa := by omega) (hsb := by rw [List.length_set]; omega) (h2a := sw_a l1 (by omega) (by omega) (by omega)) (h2b := sw_b l1 (by omega) (by omega) (by omega)) (hwb := iy) (hwbl := by omega) (hwa := ix) (hwal := by rw [List.length_set]; omega) (r := r)
  · intro i ev wh x y I h0 hi hx hy hl
    have ox := I.ok x (List.mem_of_getElem? hx); have oy := I.ok y (List.mem_of_getElem? hy)
    have hc := RLess7_any ox.i oy.i; rw [hl] at hc
    exact rvm_up_stop (q := i - 1) (j := (i - 1) / 2) (x := x) (y := y) (n2 := by decide) (hm1 := half_1 (by omega) (by omega)) (hm2 := half_2 (by omega)) (hin_x := ⟨by omega, by omega⟩) (he_x := hx) (hin_y := ⟨by omega, by omega⟩) (he_y := hy) (h0 := decide_eq_true (by omega)) (hl := hc)
  · intro ev wh I
    exact rvm_up_zero (k := 0) (decide_eq_false (by omega))

theorem rvm_dnA {u2 : List Int} {b2 : List Bool} {f2 : List Int} {n mm : Nat} (hn : n ≤ 1000000) (d ii : Nat) (ev : List Ev) (wh : List Int) (a : n ≤ ii + d) (c : ii < n) (I : AInv n mm ev wh) : RunsL Tryz.prog 5 20 (loopOf Tryz.prog 98 0) 52 21 ([(1, .pv (.int .i64 (ii : Int))), (2, .pp 20 0)]) ([(20, 0, .ls 16 u2.length), (20, 1, .ls 17 b2.length), (20, 2, .ls 18 f2.length), (20, 3, .ls 15 n), (20, 4, .ls 12 mm), (13, 0, .ls 16 u2.length), (13, 1, .ls 17 b2.length), (13, 2, .ls 18 f2.length), (13, 3, .ls 15 n), (13, 4, .ls 12 mm), (7, 0, .pv (.slice none 0 0)), (7, 1, .pv (.slice none 0 0)), (7, 2, .pv (.slice none 0 0)), (7, 3, .pv (.slice none 0 0)), (7, 4, .pv (.slice none 0 0)), (16, 0, zrI u2), (17, 0, zrB b2), (18, 0, zrI f2), (15, 0, .row 43 5 n (evsV (ev))), (12, 0, .row 3 1 mm (ziV (wh)))]) .ret [] ([(13, 0, .ls 16 u2.length), (13, 1, .ls 17 b2.length), (13, 2, .ls 18 f2.length), (13, 3, .ls 15 n), (13, 4, .ls 12 mm), (7, 0, .pv (.slice none 0 0)), (7, 1, .pv (.slice none 0 0)), (7, 2, .pv (.slice none 0 0)), (7, 3, .pv (.slice none 0 0)), (7, 4, .pv (.slice none 0 0)), (16, 0, zrI u2), (17, 0, zrB b2), (18, 0, zrI f2), (15, 0, .row 43 5 n (evsV ((dnM d ev wh ii).1))), (12, 0, .row 3 1 mm (ziV ((dnM d ev wh ii).2)))]) := by
  refine (dn_ind (n := n) (mm := mm) (Q := fun (ii : Nat) ev wh ev' wh' => RunsL Tryz.prog 5 20 (loopOf Tryz.prog 98 0) 52 21 ([(1, .pv (.int .i64 (ii : Int))), (2, .pp 20 0)]) ([(20, 0, .ls 16 u2.length), (20, 1, .ls 17 b2.length), (20, 2, .ls 18 f2.length), (20, 3, .ls 15 n), (20, 4, .ls 12 mm), (13, 0, .ls 16 u2.length), (13, 1, .ls 17 b2.length), (13, 2, .ls 18 f2.length), (13, 3, .ls 15 n), (13, 4, .ls 12 mm), (7, 0, .pv (.slice none 0 0)), (7, 1, .pv (.slice none 0 0)), (7, 2, .pv (.slice none 0 0)), (7, 3, .pv (.slice none 0 0)), (7, 4, .pv (.slice none 0 0)), (16, 0, zrI u2), (17, 0, zrB b2), (18, 0, zrI f2), (15, 0, .row 43 5 n (evsV (ev))), (12, 0, .row 3 1 mm (ziV (wh)))]) .ret [] ([(13, 0, .ls 16 u2.length), (13, 1, .ls 17 b2.length), (13, 2, .ls 18 f2.length), (13, 3, .ls 15 n), (13, 4, .ls 12 mm), (7, 0, .pv (.slice none 0 0)), (7, 1, .pv (.slice none 0 0)), (7, 2, .pv (.slice none 0 0)), (7, 3, .pv (.slice none 0 0)), (7, 4, .pv (.slice none 0 0)), (16, 0, zrI u2), (17, 0, zrB b2), (18, 0, zrI f2), (15, 0, .row 43 5 n (evsV (ev'))), (12, 0, .row 3 1 mm (ziV (wh')))])) ?_ ?_ d ii ev wh a c I).1
  · intro i ev wh x y ev' wh' I hi hl hx hy hlt r
    have ix := I.ix x (List.mem_of_getElem? hx); have iy := I.ix y (List.mem_of_getElem? hy)
    have ox := I.ok x (List.mem_of_getElem? hx); have oy := I.ok y (List.mem_of_getElem? hy)
    have l1 := I.len; have l2 := I.wl
    obtain ⟨hyx, ⟨hc, hb'⟩ | ⟨hc, m, hm, hbm⟩⟩ := least_next I.ok hl hx hy
    · rw [hc] at r hy hlt
      have hm := hy
      have hlx := RLess7_any oy.i ox.i; rw [hyx] at hlx
      by_cases h2 : 2 * i + 2 < n
      · have hb : ev[2 * i + 2]? = some (ev[2 * i + 2]'(by omega)) := List.getElem?_eq_getElem (by omega)
        generalize ev[2 * i + 2]'(by omega) = b at hb
        have ob := I.ok b (List.mem_of_getElem? hb)
        have hl2 := RLess7_any ob.i oy.i; rw [hb' b hb] at hl2
        exact rvm_dn_left_next (q := 2 * i) (hq := kid_0 (by omega)) (hq1 := kid_1 (by omega)) (hge := decide_eq_false (by omega)) (hq2 := kid_2 (by omega)) (hin_x := ⟨by omega, by omega⟩) (he_x := hx) (h2 := decide_eq_true (by omega)) (hin_y := ⟨by omega, by omega⟩) (he_y := hb) (hin_m := ⟨by omega, by omega⟩) (he_m := hm) (hl2 := hl2) (hl := hlx) (hsa := by omega) (hsb := by rw [List.length_set]; omega) (h2a := sw_a l1 (by omega) (by omega) (by omega)) (h2b := sw_b l1 (by omega) (by omega) (by omega)) (hwb := iy) (hwbl := by omega) (hwa := ix) (hwal := by rw [List.length_set]; omega) (r := r)
      · exact rvm_dn_one_next (q := 2 * i) (hq := kid_0 (by omega)) (hq1 := kid_1 (by omega)) (hge := decide_eq_false (by omega)) (hq2 := kid_2 (by omega)) (hin_x := ⟨by omega, by omega⟩) (he_x := hx) (h2 := decide_eq_false (by omega)) (hin_m := ⟨by omega, by omega⟩) (he_m := hm) (hl := hlx) (hsa := by omega) (hsb := by rw [List.length_set]; omega) (h2a := sw_a l1 (by omega) (by omega) (by omega)) (h2b := sw_b l1 (by omega) (by omega) (by omega)) (hwb := iy) (hwbl := by omega) (hwa := ix) (hwal := by rw [List.length_set]; omega) (r := r)
    · rw [hc] at r hy hlt
      have hb := hy
      have hlx := RLess7_any oy.i ox.i; rw [hyx] at hlx
      have om := I.ok m (List.mem_of_getElem? hm)
      have hl2 := RLess7_any oy.i om.i; rw [hbm] at hl2
      exact rvm_dn_right_next (q := 2 * i) (hq := kid_0 (by omega)) (hq1 := kid_1 (by omega)) (hge := decide_eq_false (by omega)) (hq2 := kid_2 (by omega)) (hin_x := ⟨by omega, by omega⟩) (he_x := hx) (h2 := decide_eq_true (by omega)) (hin_y := ⟨by omega, by omega⟩) (he_y := hb) (hin_m := ⟨by omega, by omega⟩) (he_m := hm) (hl2 := hl2) (hl := hlx) (hsa := by omega) (hsb := by rw [List.length_set]; omega) (h2a := sw_a l1 (by omega) (by omega) (by omega)) (h2b := sw_b l1 (by omega) (by omega) (by omega)) (hwb := iy) (hwbl := by omega) (hwa := ix) (hwal := by rw [List.length_set]; omega) (r := r)
  · intro i ev wh I hi hl
    have l1 := I.len
    obtain ⟨x, hx⟩ : ∃ x, ev[i]? = some x := ⟨_, List.getElem?_eq_getElem (by omega)⟩
    have ox := I.ok x (List.mem_of_getElem? hx)
    have sp : ∀ c, (c = i ∨ c = 2 * i + 1 ∨ c = 2 * i + 2) → ∀ z, ev[c]? = some z → ltE z x = false := fun c hc z hz => least_spec I.ok hc z x hz (by rw [hl]; exact hx)
    by_cases h1 : 2 * i + 1 < n
    · have hm : ev[2 * i + 1]? = some (ev[2 * i + 1]'(by omega)) := List.getElem?_eq_getElem (by omega)
      generalize ev[2 * i + 1]'(by omega) = m at hm
      have om := I.ok m (List.mem_of_getElem? hm)
      have hlm := RLess7_any om.i ox.i; rw [sp _ (.inr (.inl rfl)) m hm] at hlm
      by_cases h2 : 2 * i + 2 < n
      · have hb : ev[2 * i + 2]? = some (ev[2 * i + 2]'(by omega)) := List.getElem?_eq_getElem (by omega)
        generalize ev[2 * i + 2]'(by omega) = b at hb
        have ob := I.ok b (List.mem_of_getElem? hb)
        have hlb := RLess7_any ob.i ox.i; rw [sp _ (.inr (.inr rfl)) b hb] at hlb
        have hl2 := RLess7_any ob.i om.i
        cases e : ltE b m <;> rw [e] at hl2
        · exact rvm_dn_left_stop (q := 2 * i) (hq := kid_0 (by omega)) (hq1 := kid_1 (by omega)) (hge := decide_eq_false (by omega)) (hq2 := kid_2 (by omega)) (hin_x := ⟨by omega, by omega⟩) (he_x := hx) (h2 := decide_eq_true (by omega)) (hin_y := ⟨by omega, by omega⟩) (he_y := hb) (hin_m := ⟨by omega, by omega⟩) (he_m := hm) (hl2 := hl2) (hl := hlm)
        · exact rvm_dn_right_stop (q := 2 * i) (hq := kid_0 (by omega)) (hq1 := kid_1 (by omega)) (hge := decide_eq_false (by omega)) (hq2 := kid_2 (by omega)) (hin_x := ⟨by omega, by omega⟩) (he_x := hx) (h2 := decide_eq_true (by omega)) (hin_y := ⟨by omega, by omega⟩) (he_y := hb) (hin_m := ⟨by omega, by omega⟩) (he_m := hm) (hl2 := hl2) (hl := hlb)
      · exact rvm_dn_one_stop (q := 2 * i) (hq := kid_0 (by omega)) (hq1 := kid_1 (by omega)) (hge := decide_eq_false (by omega)) (hq2 := kid_2 (by omega)) (hin_x := ⟨by omega, by omega⟩) (he_x := hx) (h2 := decide_eq_false (by omega)) (hin_m := ⟨by omega, by omega⟩) (he_m := hm) (hl := hlm)
    · exact rvm_dn_leaf (q := 2 * i) (hq := kid_0 (by omega)) (hq1 := kid_1 (by omega)) (hge := decide_eq_true (by omega))

end Go.Proofs.YtclpegneiomakaaGreat
