/-
  The chapter's examples, limits and errors. Conditions: none.
-/
import Derived.Test.YtpccpohcjjjnlaaZs
import Derived.Test.YtpccpohcjjjnlaaZj
namespace Go.Proofs.Ytpccpohcjjjnlaa
open Go.RowKit

/-- A contract over a table serves one whose list of free slots is nil. -/
theorem znil2 {f : FuncId} {u : List Int} {b : List Bool} {vs : List Value} {x : Value} (h : FnL Try.prog f 3 (slA u b [] :: vs.map .pv) (slP u b []) (.pv x) 0 []) : FnL Try.prog f 2 (.ag [.ls 0 u.length, .ls 1 b.length, .pv (.slice none 0 0)] :: vs.map .pv) [(0, 0, zrI u), (1, 0, zrB b)] (.pv x) 0 [] := by
  intro w β us H hd hi
  match us, hi with
  | a :: r, ⟨⟨ws, hws, ha⟩, hr⟩ =>
  match ws, hws with
  | [u0, u1, u2], ⟨⟨g0, k0⟩, ⟨g1, k1⟩, hn, _⟩ =>
  have hn' : u2 = .slice none 0 0 := hn
  subst hn' ha
  have e := SV.isl_v_eq hr
  subst e
  obtain ⟨v0, e0, R0⟩ := H.rows 0 0 _ _ _ _ rfl
  obtain ⟨v1, e1, R1⟩ := H.rows 1 0 _ _ _ _ rfl
  rw [g0] at e0
  rw [g1] at e1
  cases e0
  cases e1
  have hrn : Rd w 1 (.slice none 0 0) ([] : List Int).length (ziV []) := ⟨rfl, none, 0, rfl, Nat.le_refl _, fun j v hv => by simp [ziV] at hv⟩
  have hI : ZIns w [u0, u1, .slice none 0 0] [(3, 1, u.length, ziV u), (4, 1, b.length, zbV b), (3, 1, ([] : List Int).length, ziV [])] := .cons R0.rd (zi_one u) (.cons R1.rd (zb_one b) (.cons hrn (zi_one []) .nil))
  refine (h w (zinBs [u0, u1, .slice none 0 0]) (.agg #[u0, u1, .slice none 0 0] :: r) (zins_rel hI) (zins_dom hI) ⟨zslots_in R0.rd R1.rd hrn, SV.isl_v _⟩).mono fun e w' hh => ?_
  obtain ⟨v', β', he, _, hx, hH, _⟩ := hh
  exact ⟨v', β, he, Bl.le_refl _, hx, (H.gr_mono hH.gr).imp fun b o s hs => (by cases hs), hd⟩
/-- .. and one whose lists are all nil. -/
theorem znil3 {f : FuncId} {vs : List Value} {x : Value} (h : FnL Try.prog f 3 (slA [] [] [] :: vs.map .pv) (slP [] [] []) (.pv x) 0 []) : Pure Try.prog f (.agg #[.slice none 0 0, .slice none 0 0, .slice none 0 0] :: vs).toArray x := by
  intro w
  have hrn : Rd w 1 (.slice none 0 0) ([] : List Int).length (ziV []) := ⟨rfl, none, 0, rfl, Nat.le_refl _, fun j v hv => by simp [ziV] at hv⟩
  have hrb : Rd w 1 (.slice none 0 0) ([] : List Bool).length (zbV []) := ⟨rfl, none, 0, rfl, Nat.le_refl _, fun j v hv => by simp [zbV] at hv⟩
  have hI : ZIns w [.slice none 0 0, .slice none 0 0, .slice none 0 0] [(3, 1, ([] : List Int).length, ziV []), (4, 1, ([] : List Bool).length, zbV []), (3, 1, ([] : List Int).length, ziV [])] := .cons hrn (zi_one []) (.cons hrb (zb_one []) (.cons hrn (zi_one []) .nil))
  refine (h w _ (.agg #[.slice none 0 0, .slice none 0 0, .slice none 0 0] :: vs) (zins_rel hI) (zins_dom hI) ⟨zslots_in hrn hrb hrn, SV.isl_v _⟩).mono fun e w' hh => ?_
  obtain ⟨v', β', he, _, hx, hH, _⟩ := hh
  cases hx
  exact ⟨he, hH.gr⟩
theorem newP {x : Int} (h : ¬ (1 ≤ x ∧ x ≤ 200)) : Pure Try.prog 8 #[.int .i64 x] (.tuple #[.agg #[.slice none 0 0, .slice none 0 0, .slice none 0 0], .int .i64 2]) := by
  intro w
  refine (New_bad h w Bl.no [.int .i64 x] (zempty_rel w) (fun _ _ => ⟨rfl, rfl⟩) ⟨rfl, True.intro⟩).mono fun e w' hh => ?_
  obtain ⟨v', β', he, _, hx, hH, _⟩ := hh
  cases hx
  exact ⟨he, hH.gr⟩
theorem no_of {u fr : List Int} {b : List Bool} (h : validB u b fr = false) : ¬ Vd u b fr := fun v => by
  have := validB_iff.2 v
  rw [h] at this
  cases this
theorem bad_0 : ¬ Vd [] [] [] := no_of (by decide)
theorem bad_1 : ¬ Vd (List.replicate 201 (0 : Int)) (List.replicate 201 false) [] := fun h => by have h2 := h.le; rw [List.length_replicate] at h2; omega
theorem bad_2 : ¬ Vd ([0] : List Int) ([false] : List Bool) [] := no_of (by decide)
theorem bad_3 : ¬ Vd ([0] : List Int) ([false] : List Bool) ([1] : List Int) := no_of (by decide)
theorem bad_4 : ¬ Vd ([0] : List Int) ([false] : List Bool) ([-1] : List Int) := no_of (by decide)
theorem bad_5 : ¬ Vd ([0] : List Int) ([false] : List Bool) ([0, 0] : List Int) := no_of (by decide)
theorem bad_6 : ¬ Vd ([0] : List Int) ([true] : List Bool) [] := no_of (by decide)
theorem bad_7 : ¬ Vd ([1] : List Int) ([true] : List Bool) ([0] : List Int) := no_of (by decide)
theorem bad_8 : ¬ Vd ([1000001] : List Int) ([true] : List Bool) [] := no_of (by decide)
theorem bad_9 : ¬ Vd ([-1] : List Int) ([false] : List Bool) ([0] : List Int) := no_of (by decide)
theorem bad_10 : ¬ Vd ([0, 0] : List Int) ([false] : List Bool) ([0, 1] : List Int) := no_of (by decide)
theorem vd_w : Vd [0, 1000000] [false, false] [0, 1] := validB_iff.1 (by decide)
theorem vd_q : Vd [999999] [false] [0] := validB_iff.1 (by decide)
theorem tk_q : takeZ [999999] [false] [0] = some ([1000000], [true], [], 0, 1000000) := rfl
theorem vd_q2 : Vd [1000000] [true] [] := vd_q.take tk_q
theorem hm_most : FnL Try.prog 14 3 [.ag [.ls 0 200, .ls 1 200, .ls 2 200], .pv (.agg #[.int .i64 0, .int .i64 0]), .pv (.bool false)] [(0, 0, .row 3 1 200 (ziV (List.replicate 200 0))), (1, 0, .row 4 1 200 (zbV (List.replicate 200 false))), (2, 0, .row 3 1 200 (ziV (descZ 200)))] (.pv (.bool true)) 0 [] := by
  have := Hv_no (Vd.new (n := 200) (by decide) (by decide)) (hi := 0) (hw := 0) fun l => by have := l.used; cases this
  simp only [slA, slP, zrI, zrB, List.length_replicate, descZ_length] at this
  exact this
theorem names_walk : Pure Try.prog 3 #[] (.bool true) :=
  zpure (names_p (newP (by decide))
    (newP (by decide))
    (New_ok (n := 200) (by decide) (by decide))
    rfl
    rfl
    (znil3 (vs := []) (Take_bad (by simp) bad_0))
    (znil3 (vs := [.agg #[.int .i64 9, .int .i64 0]]) (Give_bad (by simp) bad_0 9 0))
    (znil3 (vs := [.agg #[.int .i64 0, .int .i64 0]]) (Has_bad (by simp) bad_0 0 0))
    (znil3 (vs := []) (Room_bad (by simp) bad_0))
    (znil3 (vs := []) (SCheck_bad (by simp) bad_0))
    (znil2 (vs := []) (Take_bad (by simp) bad_1))
    (znil2 (vs := [.agg #[.int .i64 9, .int .i64 0]]) (Give_bad (by simp) bad_1 9 0))
    (znil2 (vs := [.agg #[.int .i64 0, .int .i64 0]]) (Has_bad (by simp) bad_1 0 0))
    (znil2 (vs := []) (Room_bad (by simp) bad_1))
    (znil2 (vs := []) (SCheck_bad (by simp) bad_1))
    (znil2 (vs := []) (Take_bad (by simp) bad_2))
    (znil2 (vs := [.agg #[.int .i64 9, .int .i64 0]]) (Give_bad (by simp) bad_2 9 0))
    (znil2 (vs := [.agg #[.int .i64 0, .int .i64 0]]) (Has_bad (by simp) bad_2 0 0))
    (znil2 (vs := []) (Room_bad (by simp) bad_2))
    (znil2 (vs := []) (SCheck_bad (by simp) bad_2))
    (Take_bad (by simp) bad_3)
    (Give_bad (by simp) bad_3 9 0)
    (Has_bad (by simp) bad_3 0 0)
    (Room_bad (by simp) bad_3)
    (SCheck_bad (by simp) bad_3)
    (Take_bad (by simp) bad_4)
    (Give_bad (by simp) bad_4 9 0)
    (Has_bad (by simp) bad_4 0 0)
    (Room_bad (by simp) bad_4)
    (SCheck_bad (by simp) bad_4)
    (Take_bad (by simp) bad_5)
    (Give_bad (by simp) bad_5 9 0)
    (Has_bad (by simp) bad_5 0 0)
    (Room_bad (by simp) bad_5)
    (SCheck_bad (by simp) bad_5)
    (znil2 (vs := []) (Take_bad (by simp) bad_6))
    (znil2 (vs := [.agg #[.int .i64 9, .int .i64 0]]) (Give_bad (by simp) bad_6 9 0))
    (znil2 (vs := [.agg #[.int .i64 0, .int .i64 0]]) (Has_bad (by simp) bad_6 0 0))
    (znil2 (vs := []) (Room_bad (by simp) bad_6))
    (znil2 (vs := []) (SCheck_bad (by simp) bad_6))
    (Take_bad (by simp) bad_7)
    (Give_bad (by simp) bad_7 9 0)
    (Has_bad (by simp) bad_7 0 0)
    (Room_bad (by simp) bad_7)
    (SCheck_bad (by simp) bad_7)
    (znil2 (vs := []) (Take_bad (by simp) bad_8))
    (znil2 (vs := [.agg #[.int .i64 9, .int .i64 0]]) (Give_bad (by simp) bad_8 9 0))
    (znil2 (vs := [.agg #[.int .i64 0, .int .i64 0]]) (Has_bad (by simp) bad_8 0 0))
    (znil2 (vs := []) (Room_bad (by simp) bad_8))
    (znil2 (vs := []) (SCheck_bad (by simp) bad_8))
    (Take_bad (by simp) bad_9)
    (Give_bad (by simp) bad_9 9 0)
    (Has_bad (by simp) bad_9 0 0)
    (Room_bad (by simp) bad_9)
    (SCheck_bad (by simp) bad_9)
    (Take_bad (by simp) bad_10)
    (Give_bad (by simp) bad_10 9 0)
    (Has_bad (by simp) bad_10 0 0)
    (Room_bad (by simp) bad_10)
    (SCheck_bad (by simp) bad_10)
    (Take_none vd_w rfl)
    (Take_some vd_q tk_q)
    (Give_none vd_q2 fun l => by have := l.use; cases this)
    (Give_none vd_q2 fun l => by have := l.lt; revert this; decide)
    (Give_none vd_q2 fun l => by have := l.lo; revert this; decide)
    (Room_ok vd_q2)
    (Hv_no vd_w fun l => by have := l.used; cases this)
    hm_most
    Alive6)
end Go.Proofs.Ytpccpohcjjjnlaa
