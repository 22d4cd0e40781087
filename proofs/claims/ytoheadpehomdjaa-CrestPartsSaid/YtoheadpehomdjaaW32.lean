/-
  Joined: Hm, Hb, Mq, Mu, Ga, Mx. Conditions: none.
-/
import Derived.Test.YtoheadpehomdjaaFq
import Derived.Test.YtoheadpehomdjaaW31
import Derived.Test.YtoheadpehomdjaaW30
import Derived.Test.YtoheadpehomdjaaW24
namespace Go.Proofs.Ytoheadpehomdjaa
open Go.ChangeShapes Go.WideShapes Go.ChangeAt Go.RowKit Go.Joins Go.Deep
section
variable {H : Type} {enc : TypeId × Value → H} {W : World} {base : Nat} {spare : Nat → Bool} {held : Bool}
end
/-- The rows of what came in: names from j on. -/
def rowsH : Nat → List (TypeId × Nat × Nat × List Value) → List (Nat × Nat × SV)
  | _, [] => []
  | j, (e, es, n, xs) :: r => (j, 0, .row e es n xs) :: rowsH (j + 1) r
theorem rowsH_get : ∀ (rs : List (TypeId × Nat × Nat × List Value)) (j b o : Nat) (sv : SV), lookH (rowsH j rs) b o = some sv → ∃ k e es n xs, b = j + k ∧ rs[k]? = some (e, es, n, xs) ∧ sv = .row e es n xs
  | [], j, b, o, sv, h => by cases h
  | (e, es, n, xs) :: r, j, b, o, sv, h => by
    simp only [rowsH, lookH] at h
    cases hc : (Nat.beq j b && Nat.beq 0 o)
    · rw [hc, cond_false] at h
      obtain ⟨k, e', es', n', xs', h1, h2, h3⟩ := rowsH_get r (j + 1) b o sv h
      exact ⟨k + 1, e', es', n', xs', by omega, by simpa using h2, h3⟩
    · rw [hc, cond_true] at h
      rw [Bool.and_eq_true] at hc
      have := Nat.eq_of_beq_eq_true hc.1
      cases h
      exact ⟨0, e, es, n, xs, by omega, rfl, rfl⟩
def inBs (us : List Value) : Bl := ⟨fun _ => none, fun b => us[b]?⟩
/-- What came in can be read: a real slice for each row. -/
inductive Ins (W : World) : List Value → List (TypeId × Nat × Nat × List Value) → Prop where
  | nil : Ins W [] []
  | cons {u : Value} {us : List Value} {e : TypeId} {es n : Nat} {xs : List Value} {rs : List (TypeId × Nat × Nat × List Value)} (h : Rd W es u n xs) (h1 : ∀ v ∈ xs, v.oneCell' = true) (r : Ins W us rs) : Ins W (u :: us) ((e, es, n, xs) :: rs)
theorem Ins.get {W : World} {us : List Value} {rs : List (TypeId × Nat × Nat × List Value)} (h : Ins W us rs) : ∀ (k : Nat) (e : TypeId) (es n : Nat) (xs : List Value), rs[k]? = some (e, es, n, xs) → ∃ u, us[k]? = some u ∧ Rd W es u n xs ∧ ∀ v ∈ xs, v.oneCell' = true := by
  induction h with
  | nil => intro k e es n xs h; simp at h
  | cons h h1 r ih =>
    intro k e es n xs hk
    cases k with
    | zero => cases hk; exact ⟨_, rfl, h, h1⟩
    | succ k => exact ih k e es n xs (by simpa using hk)
theorem Ins.len {W : World} {us : List Value} {rs : List (TypeId × Nat × Nat × List Value)} (h : Ins W us rs) : us.length = rs.length := by
  induction h with
  | nil => rfl
  | cons _ _ _ ih => simp [ih]
theorem ins_rel {W : World} {us : List Value} {rs : List (TypeId × Nat × Nat × List Value)} (h : Ins W us rs) : HRel W rs.length (inBs us) (rowsH 0 rs) W where
  gr := Gr.refl W
  live := fun b r h => by cases h
  inj := fun b c r h => by cases h
  new := fun b r _ h => by cases h
  sep := fun b r h => by cases h
  cells := fun b o sv hl hs => by
    obtain ⟨k, e, es, n, xs, _, _, rfl⟩ := rowsH_get rs 0 b o sv hl
    cases hs
  rows := fun b o e es n xs hl => by
    obtain ⟨k, e', es', n', xs', hb, hk, he⟩ := rowsH_get rs 0 b o _ hl
    cases he
    obtain ⟨u, h1, h2, h3⟩ := h.get k e es n xs hk
    have hlt : k < rs.length := (List.getElem?_eq_some_iff.1 hk).1
    have e0 : b = k := by omega
    subst e0
    exact ⟨u, h1, h2, h3, fun _ hx => h2.lt hx, fun h => by omega, fun h => by omega⟩
  rinj := fun b o e es n xs c o' e' es' n' xs' u v hl hl' h1 h2 => by
    obtain ⟨k, _, _, _, _, hb, hk, _⟩ := rowsH_get rs 0 b o _ hl
    have hlt : k < rs.length := (List.getElem?_eq_some_iff.1 hk).1
    omega
theorem ins_dom {W : World} {us : List Value} {rs : List (TypeId × Nat × Nat × List Value)} (h : Ins W us rs) : (inBs us).dom rs.length := fun b hb => ⟨rfl, List.getElem?_eq_none (by rw [h.len]; exact hb)⟩
/-- A law over lists and plain values that came in, run. -/
theorem ins_run {W : World} {f : FuncId} {us : List Value} {rs : List (TypeId × Nat × Nat × List Value)} {args : List SV} {vs : List Value} (h : FnL Try.prog f rs.length args (rowsH 0 rs) (.pv (.bool true)) 0 []) (hr : Ins W us rs) (ha : SV.isl (inBs us) args vs) :
    Calls Try.prog f vs.toArray W fun e W' => e = .returned (.bool true) ∧ Gr W W' := by
  refine (h W (inBs us) vs (ins_rel hr) (ins_dom hr) ha).mono fun e W' ⟨v, β', he, _, hx, hh, _⟩ => ?_
  cases hx
  exact ⟨he, hh.gr⟩
theorem Rd.sl {W : World} {es n : Nat} {u : Value} {xs : List Value} (h : Rd W es u n xs) : ∃ a c, u = .slice a n c := by
  obtain ⟨_, a, c, e, _⟩ := h
  exact ⟨a, c, e⟩
end Go.Proofs.Ytoheadpehomdjaa

namespace Go.Proofs.Ytoheadpehomdjaa
open Go.RowKit
set_option maxRecDepth 100000 in
theorem ck_bad {s : List Ld} {k : Nat} {x : Ld} (hk : s[k]? = some x) (hin : 0 ≤ (k : Int) ∧ (k : Int) < (s.length : Int)) (hlt : decide ((k : Int) < (s.length : Int)) = true) (hi : Pure Try.prog 25 #[leadV x] (.bool false)) : RunsL Try.prog 1 1 (loopOf Try.prog 11 0) 38 1 ([(0, .ls 0 s.length), (13, .ls 0 s.length), (14, .pv (.int .i64 (s.length : Int))), (15, .pv (.int .i64 (k : Int)))]) ([(0, 0, rowL s)]) (.ret) ([(2, .pv (.int .i64 8))]) ([]) :=
  RunsL.stop [] 300 [.t true, .r (leadV x), .r (.bool false), .k] (fun h => by cases h)
    (round_of (And.intro hlt (And.intro hin (And.intro (ra_ld hk) (And.intro hi True.intro)))) (by kernel_rfl))

set_option maxRecDepth 100000 in
theorem ck_zero {s : List Ld} {x : Ld} (hk : s[0]? = some x) (hin : 0 ≤ ((0 : Nat) : Int) ∧ ((0 : Nat) : Int) < (s.length : Int)) (hlt : decide (((0 : Nat) : Int) < (s.length : Int)) = true) (hi : Pure Try.prog 25 #[leadV x] (.bool true)) (hs : Value.int .i64 (IntKind.i64.wrap (((0 : Nat) : Int) + 1)) = .int .i64 (((0 + 1 : Nat) : Int))) {e : Exit} {tm2 : List (Nat × SV)} {hp2 : List (Nat × Nat × SV)}
    (r : RunsL Try.prog 1 1 (loopOf Try.prog 11 0) 38 1 ([(0, .ls 0 s.length), (13, .ls 0 s.length), (14, .pv (.int .i64 (s.length : Int))), (15, .pv (.int .i64 ((0 + 1 : Nat) : Int)))]) ([(0, 0, rowL s)]) e tm2 hp2) : RunsL Try.prog 1 1 (loopOf Try.prog 11 0) 38 1 ([(0, .ls 0 s.length), (13, .ls 0 s.length), (14, .pv (.int .i64 (s.length : Int))), (15, .pv (.int .i64 ((0 : Nat) : Int)))]) ([(0, 0, rowL s)]) e tm2 hp2 :=
  RunsL.next [] 300 [.t true, .r (leadV x), .r (.bool true), .k, .k, .r (.int .i64 (((0 + 1 : Nat) : Int)))]
    (round_of (And.intro hlt (And.intro hin (And.intro (ra_ld hk) (And.intro hi (And.intro hs True.intro))))) (by kernel_rfl)) r

set_option maxRecDepth 100000 in
theorem ck_next {s : List Ld} {k : Nat} {x y : Ld} (hk : s[k + 1]? = some y) (hin : 0 ≤ ((k + 1 : Nat) : Int) ∧ ((k + 1 : Nat) : Int) < (s.length : Int)) (hk0 : s[k]? = some x) (hin0 : 0 ≤ (k : Int) ∧ (k : Int) < (s.length : Int)) (hlt : decide (((k + 1 : Nat) : Int) < (s.length : Int)) = true) (hi : Pure Try.prog 25 #[leadV y] (.bool true)) (hpos : decide (((k + 1 : Nat) : Int) > 0) = true) (hm : Value.int .i64 (IntKind.i64.wrap (((k + 1 : Nat) : Int) - 1)) = .int .i64 ((k : Int))) (hfo : Pure Try.prog 26 #[leadV y, leadV x] (.bool true)) (hs : Value.int .i64 (IntKind.i64.wrap (((k + 1 : Nat) : Int) + 1)) = .int .i64 (((k + 1 + 1 : Nat) : Int))) {e : Exit} {tm2 : List (Nat × SV)} {hp2 : List (Nat × Nat × SV)}
    (r : RunsL Try.prog 1 1 (loopOf Try.prog 11 0) 38 1 ([(0, .ls 0 s.length), (13, .ls 0 s.length), (14, .pv (.int .i64 (s.length : Int))), (15, .pv (.int .i64 ((k + 1 + 1 : Nat) : Int)))]) ([(0, 0, rowL s)]) e tm2 hp2) : RunsL Try.prog 1 1 (loopOf Try.prog 11 0) 38 1 ([(0, .ls 0 s.length), (13, .ls 0 s.length), (14, .pv (.int .i64 (s.length : Int))), (15, .pv (.int .i64 ((k + 1 : Nat) : Int)))]) ([(0, 0, rowL s)]) e tm2 hp2 :=
  RunsL.next [] 300 [.t true, .r (leadV y), .r (.bool true), .k, .t true, .r (.int .i64 ((k : Int))), .r (leadV x), .r (.bool true), .k, .r (.int .i64 (((k + 1 + 1 : Nat) : Int)))]
    (round_of (And.intro hlt (And.intro hin (And.intro (ra_ld hk) (And.intro hi (And.intro hpos (And.intro hm (And.intro hin0 (And.intro (ra_ld hk0) (And.intro hfo (And.intro hs True.intro)))))))))) (by kernel_rfl)) r

set_option maxRecDepth 100000 in
theorem ck_order {s : List Ld} {k : Nat} {x y : Ld} (hk : s[k + 1]? = some y) (hin : 0 ≤ ((k + 1 : Nat) : Int) ∧ ((k + 1 : Nat) : Int) < (s.length : Int)) (hk0 : s[k]? = some x) (hin0 : 0 ≤ (k : Int) ∧ (k : Int) < (s.length : Int)) (hlt : decide (((k + 1 : Nat) : Int) < (s.length : Int)) = true) (hi : Pure Try.prog 25 #[leadV y] (.bool true)) (hpos : decide (((k + 1 : Nat) : Int) > 0) = true) (hm : Value.int .i64 (IntKind.i64.wrap (((k + 1 : Nat) : Int) - 1)) = .int .i64 ((k : Int))) (hfo : Pure Try.prog 26 #[leadV y, leadV x] (.bool false)) : RunsL Try.prog 1 1 (loopOf Try.prog 11 0) 38 1 ([(0, .ls 0 s.length), (13, .ls 0 s.length), (14, .pv (.int .i64 (s.length : Int))), (15, .pv (.int .i64 ((k + 1 : Nat) : Int)))]) ([(0, 0, rowL s)]) (.ret) ([(2, .pv (.int .i64 8))]) ([]) :=
  RunsL.stop [] 300 [.t true, .r (leadV y), .r (.bool true), .k, .t true, .r (.int .i64 ((k : Int))), .r (leadV x), .r (.bool false), .k] (fun h => by cases h)
    (round_of (And.intro hlt (And.intro hin (And.intro (ra_ld hk) (And.intro hi (And.intro hpos (And.intro hm (And.intro hin0 (And.intro (ra_ld hk0) (And.intro hfo True.intro))))))))) (by kernel_rfl))

set_option maxRecDepth 100000 in
theorem ck_end {s : List Ld} {k : Nat} (hge : decide ((k : Int) < (s.length : Int)) = false) : RunsL Try.prog 1 1 (loopOf Try.prog 11 0) 38 1 ([(0, .ls 0 s.length), (13, .ls 0 s.length), (14, .pv (.int .i64 (s.length : Int))), (15, .pv (.int .i64 (k : Int)))]) ([(0, 0, rowL s)]) (.exit 0) ([]) ([]) :=
  RunsL.stop [] 300 [.t false] (fun h => by cases h)
    (round_of (And.intro hge True.intro) (by kernel_rfl))

set_option maxRecDepth 100000 in
theorem ck_none {s : List Ld} (h0 : ((s.length : Int) == 0) = true) :
    FnL Try.prog 11 1 [.ls 0 s.length] [(0, 0, rowL s)] (.pv (.int .i64 (8))) 0 [] :=
  fnl_run 300 [] [.t true]
     True.intro (And.intro h0 True.intro) (by kernel_rfl)

set_option maxRecDepth 100000 in
theorem ck_many {s : List Ld} (h0 : ((s.length : Int) == 0) = false) (h3 : decide ((s.length : Int) > 300) = true) :
    FnL Try.prog 11 1 [.ls 0 s.length] [(0, 0, rowL s)] (.pv (.int .i64 (8))) 0 [] :=
  fnl_run 300 [] [.t false, .t true]
     True.intro (And.intro h0 (And.intro h3 True.intro)) (by kernel_rfl)

set_option maxRecDepth 100000 in
theorem ck_no {s : List Ld} (h0 : ((s.length : Int) == 0) = false) (h3 : decide ((s.length : Int) > 300) = false) (r0 : RunsL Try.prog 1 1 (loopOf Try.prog 11 0) 38 1 ([(0, .ls 0 s.length), (13, .ls 0 s.length), (14, .pv (.int .i64 (s.length : Int))), (15, .pv (.int .i64 ((0 : Nat) : Int)))]) ([(0, 0, rowL s)]) (.ret) ([(2, .pv (.int .i64 8))]) ([])) :
    FnL Try.prog 11 1 [.ls 0 s.length] [(0, 0, rowL s)] (.pv (.int .i64 (8))) 0 [] :=
  fnl_run 300 [] [.t false, .t false, .l (.ret) ([(0, .ls 0 s.length), (13, .ls 0 s.length), (14, .pv (.int .i64 (s.length : Int))), (15, .pv (.int .i64 ((0 : Nat) : Int)))]) ([(0, 0, rowL s)]) ([(2, .pv (.int .i64 8))]) ([])]
     True.intro (And.intro h0 (And.intro h3 (And.intro (reflT (renN []) ([(0, .ls 0 s.length), (13, .ls 0 s.length), (14, .pv (.int .i64 (s.length : Int))), (15, .pv (.int .i64 ((0 : Nat) : Int)))])) (And.intro (reflH (renN []) ([(0, 0, rowL s)])) (And.intro r0 True.intro))))) (by kernel_rfl)

set_option maxRecDepth 100000 in
theorem ck_yes {s : List Ld} (h0 : ((s.length : Int) == 0) = false) (h3 : decide ((s.length : Int) > 300) = false) (r0 : RunsL Try.prog 1 1 (loopOf Try.prog 11 0) 38 1 ([(0, .ls 0 s.length), (13, .ls 0 s.length), (14, .pv (.int .i64 (s.length : Int))), (15, .pv (.int .i64 ((0 : Nat) : Int)))]) ([(0, 0, rowL s)]) (.exit 0) ([]) ([])) :
    FnL Try.prog 11 1 [.ls 0 s.length] [(0, 0, rowL s)] (.pv (.int .i64 (0))) 0 [] :=
  fnl_run 300 [] [.t false, .t false, .l (.exit 0) ([(0, .ls 0 s.length), (13, .ls 0 s.length), (14, .pv (.int .i64 (s.length : Int))), (15, .pv (.int .i64 ((0 : Nat) : Int)))]) ([(0, 0, rowL s)]) ([]) ([])]
     True.intro (And.intro h0 (And.intro h3 (And.intro (reflT (renN []) ([(0, .ls 0 s.length), (13, .ls 0 s.length), (14, .pv (.int .i64 (s.length : Int))), (15, .pv (.int .i64 ((0 : Nat) : Int)))])) (And.intro (reflH (renN []) ([(0, 0, rowL s)])) (And.intro r0 True.intro))))) (by kernel_rfl)

set_option maxRecDepth 100000 in
theorem lbs_up {s : List Ld} {i j h : Nat} {x : Ld} {c tn td : Int} (hk : s[h]? = some x) (hin : 0 ≤ (h : Int) ∧ (h : Int) < (s.length : Int)) (hlt : decide ((i : Int) < (j : Int)) = true) (ha : Value.int .i64 (IntKind.i64.wrap ((i : Int) + (j : Int))) = .int .i64 ((i : Int) + (j : Int))) (hu : Value.int .u64 (IntKind.u64.wrap ((i : Int) + (j : Int))) = .int .u64 ((i : Int) + (j : Int))) (h1 : ¬ (1 : Int) < 0) (hs : Value.int .u64 (((i : Int) + (j : Int)).fdiv (2 ^ (min (1 : Int).toNat IntKind.u64.bits))) = .int .u64 (h : Int)) (hb : Value.int .i64 (IntKind.i64.wrap (h : Int)) = .int .i64 ((h : Int))) (hc : Pure Try.prog 38 #[leadV x, ratioV tn td] (.int .i64 (c))) (hz : decide (c < 0) = true) (hh : Value.int .i64 (IntKind.i64.wrap ((h : Int) + 1)) = .int .i64 (((h + 1 : Nat) : Int))) {e : Exit} {tm2 : List (Nat × SV)} {hp2 : List (Nat × Nat × SV)}
    (r : RunsL Try.prog 1 1 (loopOf Try.prog 37 0) 49 2 ([(0, .ls 0 s.length), (2, .pv (.func (.func 38) #[] #[])), (4, .pp 1 0), (8, .pv (.int .i64 (s.length : Int))), (9, .pv (.int .i64 ((h + 1 : Nat) : Int))), (10, .pv (.int .i64 (j : Int)))]) ([(1, 0, .pv (.int .i64 tn)), (1, 1, .pv (.int .i64 td)), (0, 0, rowL s)]) e tm2 hp2) : RunsL Try.prog 1 1 (loopOf Try.prog 37 0) 49 2 ([(0, .ls 0 s.length), (2, .pv (.func (.func 38) #[] #[])), (4, .pp 1 0), (8, .pv (.int .i64 (s.length : Int))), (9, .pv (.int .i64 (i : Int))), (10, .pv (.int .i64 (j : Int)))]) ([(1, 0, .pv (.int .i64 tn)), (1, 1, .pv (.int .i64 td)), (0, 0, rowL s)]) e tm2 hp2 :=
  RunsL.next [] 300 [.t true, .r (.int .i64 ((i : Int) + (j : Int))), .r (.int .u64 ((i : Int) + (j : Int))), .r (.int .u64 (h : Int)), .r (.int .i64 ((h : Int))), .r (leadV x), .r (.int .i64 (c)), .t true, .r (.int .i64 (((h + 1 : Nat) : Int)))]
    (round_of (And.intro hlt (And.intro ha (And.intro hu (And.intro h1 (And.intro hs (And.intro hb (And.intro hin (And.intro (ra_ld hk) (And.intro hc (And.intro hz (And.intro hh True.intro))))))))))) (by kernel_rfl)) r

set_option maxRecDepth 100000 in
theorem lbs_dn {s : List Ld} {i j h : Nat} {x : Ld} {c tn td : Int} (hk : s[h]? = some x) (hin : 0 ≤ (h : Int) ∧ (h : Int) < (s.length : Int)) (hlt : decide ((i : Int) < (j : Int)) = true) (ha : Value.int .i64 (IntKind.i64.wrap ((i : Int) + (j : Int))) = .int .i64 ((i : Int) + (j : Int))) (hu : Value.int .u64 (IntKind.u64.wrap ((i : Int) + (j : Int))) = .int .u64 ((i : Int) + (j : Int))) (h1 : ¬ (1 : Int) < 0) (hs : Value.int .u64 (((i : Int) + (j : Int)).fdiv (2 ^ (min (1 : Int).toNat IntKind.u64.bits))) = .int .u64 (h : Int)) (hb : Value.int .i64 (IntKind.i64.wrap (h : Int)) = .int .i64 ((h : Int))) (hc : Pure Try.prog 38 #[leadV x, ratioV tn td] (.int .i64 (c))) (hz : decide (c < 0) = false) {e : Exit} {tm2 : List (Nat × SV)} {hp2 : List (Nat × Nat × SV)}
    (r : RunsL Try.prog 1 1 (loopOf Try.prog 37 0) 49 2 ([(0, .ls 0 s.length), (2, .pv (.func (.func 38) #[] #[])), (4, .pp 1 0), (8, .pv (.int .i64 (s.length : Int))), (9, .pv (.int .i64 (i : Int))), (10, .pv (.int .i64 (h : Int)))]) ([(1, 0, .pv (.int .i64 tn)), (1, 1, .pv (.int .i64 td)), (0, 0, rowL s)]) e tm2 hp2) : RunsL Try.prog 1 1 (loopOf Try.prog 37 0) 49 2 ([(0, .ls 0 s.length), (2, .pv (.func (.func 38) #[] #[])), (4, .pp 1 0), (8, .pv (.int .i64 (s.length : Int))), (9, .pv (.int .i64 (i : Int))), (10, .pv (.int .i64 (j : Int)))]) ([(1, 0, .pv (.int .i64 tn)), (1, 1, .pv (.int .i64 td)), (0, 0, rowL s)]) e tm2 hp2 :=
  RunsL.next [] 300 [.t true, .r (.int .i64 ((i : Int) + (j : Int))), .r (.int .u64 ((i : Int) + (j : Int))), .r (.int .u64 (h : Int)), .r (.int .i64 ((h : Int))), .r (leadV x), .r (.int .i64 (c)), .t false]
    (round_of (And.intro hlt (And.intro ha (And.intro hu (And.intro h1 (And.intro hs (And.intro hb (And.intro hin (And.intro (ra_ld hk) (And.intro hc (And.intro hz True.intro)))))))))) (by kernel_rfl)) r

set_option maxRecDepth 100000 in
theorem lbs_end {s : List Ld} {i j : Nat} {tn td : Int} (hge : decide ((i : Int) < (j : Int)) = false) : RunsL Try.prog 1 1 (loopOf Try.prog 37 0) 49 2 ([(0, .ls 0 s.length), (2, .pv (.func (.func 38) #[] #[])), (4, .pp 1 0), (8, .pv (.int .i64 (s.length : Int))), (9, .pv (.int .i64 (i : Int))), (10, .pv (.int .i64 (j : Int)))]) ([(1, 0, .pv (.int .i64 tn)), (1, 1, .pv (.int .i64 td)), (0, 0, rowL s)]) (.exit 0) ([(0, .ls 0 s.length), (2, .pv (.func (.func 38) #[] #[])), (4, .pp 1 0), (8, .pv (.int .i64 (s.length : Int))), (9, .pv (.int .i64 (i : Int))), (10, .pv (.int .i64 (j : Int)))]) ([(1, 0, .pv (.int .i64 tn)), (1, 1, .pv (.int .i64 td)), (0, 0, rowL s)]) :=
  RunsL.stop [] 300 [.t false] (fun h => by cases h)
    (round_of (And.intro hge True.intro) (by kernel_rfl))

set_option maxRecDepth 100000 in
theorem lbf_out {s : List Ld} {k : Nat} {tn td : Int} (r0 : RunsL Try.prog 1 1 (loopOf Try.prog 37 0) 49 2 ([(0, .ls 0 s.length), (2, .pv (.func (.func 38) #[] #[])), (4, .pp 1 0), (8, .pv (.int .i64 (s.length : Int))), (9, .pv (.int .i64 ((0 : Nat) : Int))), (10, .pv (.int .i64 (s.length : Int)))]) ([(1, 0, .pv (.int .i64 tn)), (1, 1, .pv (.int .i64 td)), (0, 0, rowL s)]) (.exit 0) ([(0, .ls 0 s.length), (2, .pv (.func (.func 38) #[] #[])), (4, .pp 1 0), (8, .pv (.int .i64 (s.length : Int))), (9, .pv (.int .i64 (k : Int))), (10, .pv (.int .i64 (k : Int)))]) ([(1, 0, .pv (.int .i64 tn)), (1, 1, .pv (.int .i64 td)), (0, 0, rowL s)])) (hge : decide ((k : Int) < (s.length : Int)) = false) :
    FnL Try.prog 37 1 [.ls 0 s.length, .pv (ratioV tn td), .pv (.func (.func 38) #[] #[])] [(0, 0, rowL s)] (.pv (.tuple #[.int .i64 (k : Int), .bool false])) 0 [] :=
  fnl_run 300 [] [.l (.exit 0) ([(0, .ls 0 s.length), (2, .pv (.func (.func 38) #[] #[])), (4, .pp 1 0), (8, .pv (.int .i64 (s.length : Int))), (9, .pv (.int .i64 ((0 : Nat) : Int))), (10, .pv (.int .i64 (s.length : Int)))]) ([(1, 0, .pv (.int .i64 tn)), (1, 1, .pv (.int .i64 td)), (0, 0, rowL s)]) ([(0, .ls 0 s.length), (2, .pv (.func (.func 38) #[] #[])), (4, .pp 1 0), (8, .pv (.int .i64 (s.length : Int))), (9, .pv (.int .i64 (k : Int))), (10, .pv (.int .i64 (k : Int)))]) ([(1, 0, .pv (.int .i64 tn)), (1, 1, .pv (.int .i64 td)), (0, 0, rowL s)]), .t false]
     True.intro (And.intro (reflT (renN []) ([(0, .ls 0 s.length), (2, .pv (.func (.func 38) #[] #[])), (4, .pp 1 0), (8, .pv (.int .i64 (s.length : Int))), (9, .pv (.int .i64 ((0 : Nat) : Int))), (10, .pv (.int .i64 (s.length : Int)))])) (And.intro (reflH (renN []) ([(1, 0, .pv (.int .i64 tn)), (1, 1, .pv (.int .i64 td)), (0, 0, rowL s)])) (And.intro r0 (And.intro hge True.intro)))) (by kernel_rfl)

set_option maxRecDepth 100000 in
theorem lbf_hit {s : List Ld} {k : Nat} {x : Ld} {c tn td : Int} (r0 : RunsL Try.prog 1 1 (loopOf Try.prog 37 0) 49 2 ([(0, .ls 0 s.length), (2, .pv (.func (.func 38) #[] #[])), (4, .pp 1 0), (8, .pv (.int .i64 (s.length : Int))), (9, .pv (.int .i64 ((0 : Nat) : Int))), (10, .pv (.int .i64 (s.length : Int)))]) ([(1, 0, .pv (.int .i64 tn)), (1, 1, .pv (.int .i64 td)), (0, 0, rowL s)]) (.exit 0) ([(0, .ls 0 s.length), (2, .pv (.func (.func 38) #[] #[])), (4, .pp 1 0), (8, .pv (.int .i64 (s.length : Int))), (9, .pv (.int .i64 (k : Int))), (10, .pv (.int .i64 (k : Int)))]) ([(1, 0, .pv (.int .i64 tn)), (1, 1, .pv (.int .i64 td)), (0, 0, rowL s)])) (hk : s[k]? = some x) (hin : 0 ≤ (k : Int) ∧ (k : Int) < (s.length : Int)) (hlt : decide ((k : Int) < (s.length : Int)) = true) (hc : Pure Try.prog 38 #[leadV x, ratioV tn td] (.int .i64 (c))) (hz : (c == 0) = true) :
    FnL Try.prog 37 1 [.ls 0 s.length, .pv (ratioV tn td), .pv (.func (.func 38) #[] #[])] [(0, 0, rowL s)] (.pv (.tuple #[.int .i64 (k : Int), .bool true])) 0 [] :=
  fnl_run 300 [] [.l (.exit 0) ([(0, .ls 0 s.length), (2, .pv (.func (.func 38) #[] #[])), (4, .pp 1 0), (8, .pv (.int .i64 (s.length : Int))), (9, .pv (.int .i64 ((0 : Nat) : Int))), (10, .pv (.int .i64 (s.length : Int)))]) ([(1, 0, .pv (.int .i64 tn)), (1, 1, .pv (.int .i64 td)), (0, 0, rowL s)]) ([(0, .ls 0 s.length), (2, .pv (.func (.func 38) #[] #[])), (4, .pp 1 0), (8, .pv (.int .i64 (s.length : Int))), (9, .pv (.int .i64 (k : Int))), (10, .pv (.int .i64 (k : Int)))]) ([(1, 0, .pv (.int .i64 tn)), (1, 1, .pv (.int .i64 td)), (0, 0, rowL s)]), .t true, .r (leadV x), .r (.int .i64 (c)), .t true]
     True.intro (And.intro (reflT (renN []) ([(0, .ls 0 s.length), (2, .pv (.func (.func 38) #[] #[])), (4, .pp 1 0), (8, .pv (.int .i64 (s.length : Int))), (9, .pv (.int .i64 ((0 : Nat) : Int))), (10, .pv (.int .i64 (s.length : Int)))])) (And.intro (reflH (renN []) ([(1, 0, .pv (.int .i64 tn)), (1, 1, .pv (.int .i64 td)), (0, 0, rowL s)])) (And.intro r0 (And.intro hlt (And.intro hin (And.intro (ra_ld hk) (And.intro hc (And.intro hz True.intro)))))))) (by kernel_rfl)

set_option maxRecDepth 100000 in
theorem lbf_no {s : List Ld} {k : Nat} {x : Ld} {c tn td : Int} (r0 : RunsL Try.prog 1 1 (loopOf Try.prog 37 0) 49 2 ([(0, .ls 0 s.length), (2, .pv (.func (.func 38) #[] #[])), (4, .pp 1 0), (8, .pv (.int .i64 (s.length : Int))), (9, .pv (.int .i64 ((0 : Nat) : Int))), (10, .pv (.int .i64 (s.length : Int)))]) ([(1, 0, .pv (.int .i64 tn)), (1, 1, .pv (.int .i64 td)), (0, 0, rowL s)]) (.exit 0) ([(0, .ls 0 s.length), (2, .pv (.func (.func 38) #[] #[])), (4, .pp 1 0), (8, .pv (.int .i64 (s.length : Int))), (9, .pv (.int .i64 (k : Int))), (10, .pv (.int .i64 (k : Int)))]) ([(1, 0, .pv (.int .i64 tn)), (1, 1, .pv (.int .i64 td)), (0, 0, rowL s)])) (hk : s[k]? = some x) (hin : 0 ≤ (k : Int) ∧ (k : Int) < (s.length : Int)) (hlt : decide ((k : Int) < (s.length : Int)) = true) (hc : Pure Try.prog 38 #[leadV x, ratioV tn td] (.int .i64 (c))) (hz : (c == 0) = false) :
    FnL Try.prog 37 1 [.ls 0 s.length, .pv (ratioV tn td), .pv (.func (.func 38) #[] #[])] [(0, 0, rowL s)] (.pv (.tuple #[.int .i64 (k : Int), .bool false])) 0 [] :=
  fnl_run 300 [] [.l (.exit 0) ([(0, .ls 0 s.length), (2, .pv (.func (.func 38) #[] #[])), (4, .pp 1 0), (8, .pv (.int .i64 (s.length : Int))), (9, .pv (.int .i64 ((0 : Nat) : Int))), (10, .pv (.int .i64 (s.length : Int)))]) ([(1, 0, .pv (.int .i64 tn)), (1, 1, .pv (.int .i64 td)), (0, 0, rowL s)]) ([(0, .ls 0 s.length), (2, .pv (.func (.func 38) #[] #[])), (4, .pp 1 0), (8, .pv (.int .i64 (s.length : Int))), (9, .pv (.int .i64 (k : Int))), (10, .pv (.int .i64 (k : Int)))]) ([(1, 0, .pv (.int .i64 tn)), (1, 1, .pv (.int .i64 td)), (0, 0, rowL s)]), .t true, .r (leadV x), .r (.int .i64 (c)), .t false]
     True.intro (And.intro (reflT (renN []) ([(0, .ls 0 s.length), (2, .pv (.func (.func 38) #[] #[])), (4, .pp 1 0), (8, .pv (.int .i64 (s.length : Int))), (9, .pv (.int .i64 ((0 : Nat) : Int))), (10, .pv (.int .i64 (s.length : Int)))])) (And.intro (reflH (renN []) ([(1, 0, .pv (.int .i64 tn)), (1, 1, .pv (.int .i64 td)), (0, 0, rowL s)])) (And.intro r0 (And.intro hlt (And.intro hin (And.intro (ra_ld hk) (And.intro hc (And.intro hz True.intro)))))))) (by kernel_rfl)

set_option maxRecDepth 100000 in
theorem lat_hit {s : List Ld} {k : Nat} {x : Ld} {tn td : Int} (hb : FnL Try.prog 37 1 [.ls 0 s.length, .pv (ratioV tn td), .pv (.func (.func 38) #[] #[])] [(0, 0, rowL s)] (.pv (.tuple #[.int .i64 (k : Int), .bool true])) 0 []) (hk : s[k]? = some x) (hin : 0 ≤ (k : Int) ∧ (k : Int) < (s.length : Int)) :
    FnL Try.prog 21 1 [.ls 0 s.length, .pv (ratioV tn td)] [(0, 0, rowL s)] (.pv (.int .i64 (x.id))) 0 [] :=
  fnl_run 300 [] [.f [0] [.ls 0 s.length, .pv (ratioV tn td), .pv (.func (.func 38) #[] #[])] [(0, 0, rowL s)] (.pv (.tuple #[.int .i64 (k : Int), .bool true])) 0 [], .k, .r (.int .i64 (x.id))]
     True.intro (And.intro hb (And.intro (Eq.refl (List.map (SV.ren (renU [0] 2)) [.ls 0 s.length, .pv (ratioV tn td), .pv (.func (.func 38) #[] #[])])) (And.intro (reflH (renU [0] 2) [(0, 0, rowL s)]) (And.intro hin (And.intro (ra_li hk) True.intro))))) (by kernel_rfl)

set_option maxRecDepth 100000 in
theorem lat_no {s : List Ld} {k : Nat} {x : Ld} {tn td : Int} (hb : FnL Try.prog 37 1 [.ls 0 s.length, .pv (ratioV tn td), .pv (.func (.func 38) #[] #[])] [(0, 0, rowL s)] (.pv (.tuple #[.int .i64 ((k + 1 : Nat) : Int), .bool false])) 0 []) (hm : Value.int .i64 (IntKind.i64.wrap (((k + 1 : Nat) : Int) - 1)) = .int .i64 ((k : Int))) (hk : s[k]? = some x) (hin : 0 ≤ (k : Int) ∧ (k : Int) < (s.length : Int)) :
    FnL Try.prog 21 1 [.ls 0 s.length, .pv (ratioV tn td)] [(0, 0, rowL s)] (.pv (.int .i64 (x.id))) 0 [] :=
  fnl_run 300 [] [.f [0] [.ls 0 s.length, .pv (ratioV tn td), .pv (.func (.func 38) #[] #[])] [(0, 0, rowL s)] (.pv (.tuple #[.int .i64 ((k + 1 : Nat) : Int), .bool false])) 0 [], .k, .r (.int .i64 ((k : Int))), .r (.int .i64 (x.id))]
     True.intro (And.intro hb (And.intro (Eq.refl (List.map (SV.ren (renU [0] 2)) [.ls 0 s.length, .pv (ratioV tn td), .pv (.func (.func 38) #[] #[])])) (And.intro (reflH (renU [0] 2) [(0, 0, rowL s)]) (And.intro hm (And.intro hin (And.intro (ra_li hk) True.intro)))))) (by kernel_rfl)

set_option maxRecDepth 100000 in
theorem cat_ok {s : List Ld} {x : Ld} {tn td id : Int} (hc : FnL Try.prog 11 1 [.ls 0 s.length] [(0, 0, rowL s)] (.pv (.int .i64 (0))) 0 []) (ht : Pure Try.prog 19 #[ratioV tn td] (.int .i64 (0))) (hk : s[0]? = some x) (hin : 0 ≤ (0 : Int) ∧ (0 : Int) < (s.length : Int)) (hb : Pure Try.prog 20 #[ratioV tn td, ratioV x.n x.d] (.bool false)) (hla : FnL Try.prog 21 1 [.ls 0 s.length, .pv (ratioV tn td)] [(0, 0, rowL s)] (.pv (.int .i64 (id))) 0 []) :
    FnL Try.prog 9 1 [.ls 0 s.length, .pv (ratioV tn td)] [(0, 0, rowL s)] (.pv (.tuple #[.int .i64 (id), .int .i64 (0)])) 0 [] :=
  fnl_run 300 [] [.f [0] [.ls 0 s.length] [(0, 0, rowL s)] (.pv (.int .i64 (0))) 0 [], .r (.int .i64 (0)), .k, .k, .k, .k, .k, .k, .k, .k, .k, .r (ratioV x.n x.d), .r (.bool false), .f [0] [.ls 0 s.length, .pv (ratioV tn td)] [(0, 0, rowL s)] (.pv (.int .i64 (id))) 0 []]
     True.intro (And.intro hc (And.intro (Eq.refl (List.map (SV.ren (renU [0] 2)) [.ls 0 s.length])) (And.intro (reflH (renU [0] 2) [(0, 0, rowL s)]) (And.intro ht (And.intro hin (And.intro (ra_lf hk) (And.intro hb (And.intro hla (And.intro (Eq.refl (List.map (SV.ren (renU [0] 2)) [.ls 0 s.length, .pv (ratioV tn td)])) (And.intro (reflH (renU [0] 2) [(0, 0, rowL s)]) True.intro)))))))))) (by kernel_rfl)
end Go.Proofs.Ytoheadpehomdjaa

namespace Go.Proofs.Ytoheadpehomdjaa
open Go.RowKit
theorem cI_cases (x y : Int) : (x < y ∧ cI x y = -1) ∨ (x = y ∧ cI x y = 0) ∨ (x > y ∧ cI x y = 1) := by
  unfold cI
  by_cases h1 : x < y
  · rw [if_pos h1]; exact Or.inl ⟨h1, rfl⟩
  · by_cases h2 : x > y
    · rw [if_neg h1, if_pos h2]; exact Or.inr (Or.inr ⟨h2, rfl⟩)
    · rw [if_neg h1, if_neg h2]; exact Or.inr (Or.inl ⟨by omega, rfl⟩)
theorem sg_cases (x : Int) : (x < 0 ∧ x.sign = -1) ∨ (x = 0 ∧ x.sign = 0) ∨ (0 < x ∧ x.sign = 1) := by
  rcases Int.lt_trichotomy x 0 with h | h | h
  · exact Or.inl ⟨h, Int.sign_eq_neg_one_of_neg h⟩
  · exact Or.inr (Or.inl ⟨h, by rw [h]; rfl⟩)
  · exact Or.inr (Or.inr ⟨h, Int.sign_eq_one_of_pos h⟩)
/-- The order of two meetings, case by case. -/
theorem ord_cases (a b : Mt) : (a.n * b.d - b.n * a.d < 0 ∧ ordM a b = -1) ∨ (a.n * b.d - b.n * a.d > 0 ∧ ordM a b = 1) ∨
    (a.n * b.d - b.n * a.d = 0 ∧ ((a.i < b.i ∧ ordM a b = -1) ∨ (a.i > b.i ∧ ordM a b = 1) ∨ (a.i = b.i ∧ ((a.j < b.j ∧ ordM a b = -1) ∨ (a.j > b.j ∧ ordM a b = 1) ∨ (a.j = b.j ∧ ordM a b = 0))))) := by
  unfold ordM
  rcases sg_cases (a.n * b.d - b.n * a.d) with ⟨h, e⟩ | ⟨h, e⟩ | ⟨h, e⟩
  · rw [e, if_pos (by decide)]; exact Or.inl ⟨h, rfl⟩
  · rw [e, if_neg (by decide)]
    refine Or.inr (Or.inr ⟨h, ?_⟩)
    rcases cI_cases a.i b.i with ⟨h1, e1⟩ | ⟨h1, e1⟩ | ⟨h1, e1⟩
    · rw [e1, if_pos (by decide)]; exact Or.inl ⟨h1, rfl⟩
    · rw [e1, if_neg (by decide)]
      refine Or.inr (Or.inr ⟨h1, ?_⟩)
      rcases cI_cases a.j b.j with ⟨h2, e2⟩ | ⟨h2, e2⟩ | ⟨h2, e2⟩
      · exact Or.inl ⟨h2, e2⟩
      · exact Or.inr (Or.inr ⟨h2, e2⟩)
      · exact Or.inr (Or.inl ⟨h2, e2⟩)
    · rw [e1, if_pos (by decide)]; exact Or.inr (Or.inl ⟨h1, rfl⟩)
  · rw [e, if_pos (by decide)]; exact Or.inr (Or.inl ⟨h, rfl⟩)
theorem bef_ord (a b : Mt) : befB a b = decide (ordM a b < 0) := by
  unfold befB
  rcases ord_cases a b with ⟨h, e⟩ | ⟨h, e⟩ | ⟨h, ⟨h1, e⟩ | ⟨h1, e⟩ | ⟨h1, ⟨h2, e⟩ | ⟨h2, e⟩ | ⟨h2, e⟩⟩⟩ <;> rw [e]
  · rw [Int.sign_eq_neg_one_of_neg h]; rfl
  · rw [Int.sign_eq_one_of_pos h]; rfl
  · rw [h, Int.sign_zero, if_pos rfl, if_neg (by omega), dt h1]; rfl
  · rw [h, Int.sign_zero, if_pos rfl, if_neg (by omega), df (by omega)]; rfl
  · rw [h, Int.sign_zero, if_pos rfl, if_pos h1, dt h2]; rfl
  · rw [h, Int.sign_zero, if_pos rfl, if_pos h1, df (by omega)]; rfl
  · rw [h, Int.sign_zero, if_pos rfl, if_pos h1, df (by omega)]; rfl
theorem ord_neg (a b : Mt) : ordM a b = -ordM b a := by
  rcases ord_cases a b with ⟨h, e⟩ | ⟨h, e⟩ | ⟨h, ⟨h1, e⟩ | ⟨h1, e⟩ | ⟨h1, ⟨h2, e⟩ | ⟨h2, e⟩ | ⟨h2, e⟩⟩⟩ <;> rcases ord_cases b a with ⟨g, f⟩ | ⟨g, f⟩ | ⟨g, ⟨g1, f⟩ | ⟨g1, f⟩ | ⟨g1, ⟨g2, f⟩ | ⟨g2, f⟩ | ⟨g2, f⟩⟩⟩ <;> omega
theorem frac_tr {an ad bn bd cn cd : Int} (h1 : 0 < ad) (h2 : 0 < bd) (h3 : 0 < cd) :
    (an * bd - bn * ad > 0 → bn * cd - cn * bd ≥ 0 → an * cd - cn * ad > 0) ∧ (an * bd - bn * ad ≥ 0 → bn * cd - cn * bd > 0 → an * cd - cn * ad > 0) ∧ (an * bd - bn * ad = 0 → bn * cd - cn * bd = 0 → an * cd - cn * ad = 0) := by
  have key : (an * cd - cn * ad) * bd = (an * bd - bn * ad) * cd + (bn * cd - cn * bd) * ad := by
    rw [Int.sub_mul, Int.sub_mul, Int.sub_mul, Int.mul_right_comm an cd bd, Int.mul_right_comm bn ad cd, Int.mul_right_comm cn ad bd]
    omega
  generalize an * bd - bn * ad = A at *
  generalize bn * cd - cn * bd = B at *
  generalize an * cd - cn * ad = C at *
  have pos : ∀ {x : Int}, 0 < x * bd → 0 < x := fun {x} h => by
    rcases Int.lt_trichotomy x 0 with g | g | g
    · have := Int.mul_neg_of_neg_of_pos g h2; omega
    · rw [g, Int.zero_mul] at h; omega
    · exact g
  refine ⟨fun a b => pos ?_, fun a b => pos ?_, fun a b => ?_⟩
  · have := Int.mul_pos a h3; have := Int.mul_nonneg b (Int.le_of_lt h1); omega
  · have := Int.mul_nonneg a (Int.le_of_lt h3); have := Int.mul_pos b h1; omega
  · rw [a, b, Int.zero_mul, Int.zero_mul, Int.add_zero] at key
    rcases Int.mul_eq_zero.1 key with h | h
    · exact h
    · omega
theorem ord_tr {a b c : Mt} (ha : MtOk a) (hb : MtOk b) (hc : MtOk c) (h1 : 0 ≤ ordM a b) (h2 : 0 ≤ ordM b c) : 0 ≤ ordM a c := by
  obtain ⟨t1, t2, t3⟩ := frac_tr (an := a.n) (bn := b.n) (cn := c.n) (by have := okB_den ha.ok; omega) (by have := okB_den hb.ok; omega) (by have := okB_den hc.ok; omega) (ad := a.d) (bd := b.d) (cd := c.d)
  rcases ord_cases a b with ⟨h, e⟩ | ⟨h, e⟩ | ⟨h, ⟨h3, e⟩ | ⟨h3, e⟩ | ⟨h3, ⟨h4, e⟩ | ⟨h4, e⟩ | ⟨h4, e⟩⟩⟩ <;> rcases ord_cases b c with ⟨g, f⟩ | ⟨g, f⟩ | ⟨g, ⟨g3, f⟩ | ⟨g3, f⟩ | ⟨g3, ⟨g4, f⟩ | ⟨g4, f⟩ | ⟨g4, f⟩⟩⟩ <;>
    first
    | omega
    | (have k := t1 h (by omega); rcases ord_cases a c with ⟨w, z⟩ | ⟨w, z⟩ | ⟨w, _⟩ <;> omega)
    | (have k := t2 (by omega) g; rcases ord_cases a c with ⟨w, z⟩ | ⟨w, z⟩ | ⟨w, _⟩ <;> omega)
    | (have k := t3 h g; rcases ord_cases a c with ⟨w, z⟩ | ⟨w, z⟩ | ⟨w, ⟨w3, z⟩ | ⟨w3, z⟩ | ⟨w3, ⟨w4, z⟩ | ⟨w4, z⟩ | ⟨w4, z⟩⟩⟩ <;> omega)
theorem ord_eq {a b : Mt} (ha : MtOk a) (hb : MtOk b) (h : ordM a b = 0) : a = b := by
  rcases ord_cases a b with ⟨_, e⟩ | ⟨_, e⟩ | ⟨h0, ⟨_, e⟩ | ⟨_, e⟩ | ⟨h1, ⟨_, e⟩ | ⟨_, e⟩ | ⟨h2, e⟩⟩⟩ <;> try omega
  obtain ⟨e1, e2⟩ := okB_one ha.ok hb.ok (by omega)
  cases a; cases b
  simp_all
theorem best_min {c : Mt → Mt → Int} (hneg : ∀ a b, c a b = -c b a) : ∀ (X : List Mt) (acc : Option Mt) (b : Mt) (all : List Mt), (∀ a ∈ all, ∀ b ∈ all, ∀ d ∈ all, 0 ≤ c a b → 0 ≤ c b d → 0 ≤ c a d) → (∀ a ∈ X, a ∈ all) → (∀ a, acc = some a → a ∈ all) →
    X.foldl (bestStep c) acc = some b → b ∈ all ∧ (∀ a, acc = some a → 0 ≤ c a b) ∧ ∀ a ∈ X, 0 ≤ c a b
  | [], acc, b, all, _, _, hacc, h => by
    have h' : acc = some b := h
    refine ⟨hacc b h', fun a ha => ?_, fun a ha => by cases ha⟩
    rw [h'] at ha; cases ha
    have := hneg b b; omega
  | m :: r, acc, b, all, tr, hX, hacc, h => by
    rw [List.foldl_cons] at h
    have hm := hX m List.mem_cons_self
    have hst : ∀ a, bestStep c acc m = some a → a ∈ all := fun a ha => by
      unfold bestStep at ha
      split at ha
      · cases ha; exact hm
      · rename_i b0
        split at ha <;> cases ha
        · exact hm
        · exact hacc _ rfl
    obtain ⟨h1, h2, h3⟩ := best_min hneg r _ b all tr (fun a ha => hX a (List.mem_cons_of_mem _ ha)) hst h
    have hmid : ∃ z, bestStep c acc m = some z ∧ z ∈ all ∧ 0 ≤ c m z ∧ ∀ a, acc = some a → 0 ≤ c a z := by
      unfold bestStep
      cases acc with
      | none => exact ⟨m, rfl, hm, by have := hneg m m; omega, fun a ha => by cases ha⟩
      | some b0 =>
        simp only
        split
        · rename_i hlt
          exact ⟨m, rfl, hm, by have := hneg m m; omega, fun a ha => by cases ha; have := hneg b0 m; omega⟩
        · exact ⟨b0, rfl, hacc b0 rfl, by omega, fun a ha => by cases ha; have := hneg b0 b0; omega⟩
    obtain ⟨z, e, hz, z1, z2⟩ := hmid
    have hzb := h2 z e
    refine ⟨h1, fun a ha => tr a (hacc a ha) z hz b h1 (z2 a ha) hzb, fun a ha => ?_⟩
    rcases List.mem_cons.1 ha with rfl | ha
    · exact tr _ hm z hz b h1 z1 hzb
    · exact h3 a ha
theorem best_some {c : Mt → Mt → Int} : ∀ (X : List Mt) (acc : Option Mt), (acc.isSome = true ∨ X ≠ []) → (X.foldl (bestStep c) acc).isSome = true
  | [], acc, h => by
    rcases h with h | h
    · exact h
    · exact (h rfl).elim
  | m :: r, acc, _ => by
    rw [List.foldl_cons]
    refine best_some r _ (Or.inl ?_)
    unfold bestStep
    split
    · rfl
    · split <;> rfl

theorem insD_desc {x : Mt} (hx : MtOk x) : ∀ {R : List Mt}, (∀ a ∈ R, MtOk a) → R.Pairwise (fun a b => 0 ≤ ordM a b) → (insD x R).Pairwise (fun a b => 0 ≤ ordM a b)
  | [], _, _ => by simp [insD]
  | a :: R, hR, hp => by
    have ha := hR a List.mem_cons_self
    obtain ⟨p1, p2⟩ := List.pairwise_cons.1 hp
    unfold insD
    rw [bef_ord]
    by_cases h : ordM x a < 0
    · rw [if_pos (decide_eq_true h)]
      refine List.pairwise_cons.2 ⟨fun y hy => ?_, insD_desc hx (fun b hb => hR b (List.mem_cons_of_mem _ hb)) p2⟩
      rcases insD_mem.1 hy with rfl | hy
      · have := ord_neg a y; omega
      · exact p1 y hy
    · rw [if_neg (by simpa using h)]
      refine List.pairwise_cons.2 ⟨fun y hy => ?_, hp⟩
      rcases List.mem_cons.1 hy with rfl | hy
      · omega
      · exact ord_tr hx ha (hR y (List.mem_cons_of_mem _ hy)) (by omega) (p1 y hy)
theorem sortD_mem {y : Mt} : ∀ {C S : List Mt}, y ∈ sortD S C ↔ y ∈ S ∨ y ∈ C
  | [], S => by simp [sortD]
  | x :: C, S => by
    show y ∈ sortD (insD x S) C ↔ _
    rw [sortD_mem, insD_mem, List.mem_cons]
    exact ⟨fun h => by rcases h with (h | h) | h <;> simp [h], fun h => by rcases h with h | h | h <;> simp [h]⟩
theorem sortD_desc : ∀ {C S : List Mt}, (∀ a ∈ S, MtOk a) → (∀ a ∈ C, MtOk a) → S.Pairwise (fun a b => 0 ≤ ordM a b) → (sortD S C).Pairwise (fun a b => 0 ≤ ordM a b)
  | [], S, _, _, h => h
  | x :: C, S, hS, hC, h => by
    have hx := hC x List.mem_cons_self
    exact sortD_desc (C := C) (S := insD x S) (fun a ha => by
      rcases insD_mem.1 ha with rfl | h
      · exact hx
      · exact hS _ h) (fun a ha => hC a (List.mem_cons_of_mem _ ha)) (insD_desc hx hS h)
theorem srt_mem {l : List Pt} {m : Mt} : m ∈ srt l ↔ m ∈ msOf l := by
  unfold srt
  rw [List.mem_reverse, sortD_mem]; simp
theorem srt_ok {l : List Pt} (hv : Val l) : ∀ m ∈ srt l, MtOk m := fun m h => ms_ok hv m (srt_mem.1 h)
end Go.Proofs.Ytoheadpehomdjaa

namespace Go.Proofs.Ytoheadpehomdjaa
open Go.RowKit
theorem mE_ok {l : List Pt} {fn fd tn td : Int} (h : mE l fn fd tn td = 0) : Val l ∧ okB fn fd = true ∧ okB tn td = true ∧ ¬ fn * td - tn * fd > 0 := by
  unfold mE at h
  split at h
  · rename_i h0
    split at h
    · rename_i g
      split at h
      · cases h
      · rename_i g3; exact ⟨err_val.1 h0, g.1, g.2, g3⟩
    · cases h
  · rename_i h0; exact (h0 h).elim
/-- Those between two times, pair by pair. -/
noncomputable abbrev btw (l : List Pt) (fn fd tn td : Int) : List Mt := ((msOf l).filter (kpA fn fd)).filter (kpB tn td)
noncomputable def countV (l : List Pt) (fn fd tn td : Int) : Value := if mE l fn fd tn td = 0 then .tuple #[.int .i64 ((btw l fn fd tn td).length : Int), .int .i64 0] else .tuple #[.int .i64 0, .int .i64 (mE l fn fd tn td)]
end Go.Proofs.Ytoheadpehomdjaa

namespace Go.Proofs.Ytoheadpehomdjaa
open Go.RowKit
abbrev nilV : Value := .slice none 0 0
abbrev meH (b : Nat) (m : Mt) : List (Nat × Nat × SV) := [(b, 0, .pv (.int .i64 m.n)), (b, 1, .pv (.int .i64 m.d)), (b, 2, .pv (.int .i64 m.i)), (b, 3, .pv (.int .i64 m.j))]
section
variable (g : FuncId) (cap : Array Value) (u : Value) (m : Mt)
end
/-- An append to a list of the run's own. -/
theorem app_in {P : Program} {r : Option Nat} {o : Oper} {x y : Operand} {t tx e : TypeId} {a : Act} {w : World} {i : TypeInfo} {z v s : Value} {base n m : Nat} {xs news : List Value} {next : Act → World → Prop} {Q : Exit → Act → World → Prop}
    (ho : o.op = .call { callee := .builtin .append, args := #[x, y], argTypes := #[t, tx] }) (hx : a.eval x = v) (hy : a.eval y = s) (ht : P.underlying t = some (.slice e)) (hi : P.info? e = some i) (hz : i.zero = some z) (hzs : z.cells.size = i.size)
    (hown : w.ownsRow base e i.size v n xs) (hb : base ≤ w.heap.size) (hs : Src P i.size tx s m news w) (hby : i.bytes ≤ 100000000) (hn : n + m ≤ 1000000)
    (h : ∀ u w' row, isSl u (n + m) → Upd w w' row → (row = none ∨ row = v.ownBlock) → w'.ownsRow base e i.size u (n + m) (xs ++ news) → (∀ k, u.ownBlock = some k → row = some k ∨ w.heap.size ≤ k) → next (a.put o.dst u) w') : o.wpIn (FW r) 0 P a w next Q := by
  obtain ⟨u, w', row, hr, h1, h2, h3, h4, h5⟩ := own_app (P := P) (ty := o.type) ht hi hz hzs hown hb hs hby hn
  refine ⟨fun _ _ => trivial, ?_⟩
  rw [Oper.semAt_eq _ _ _ (by simp [ho])]
  have he : (execOp a.eval o).run P w = .ok (.value u) w' := by
    unfold execOp
    simp only [ho, resolve, invoke, builtin, Sem.run_bind, Sem.run_pure, Result.andThen_ok, List.map_toArray, List.map_cons, List.map_nil, hx, hy, hr]
  rw [he, Oper.uponIn_value]
  exact h u w' row h1 h2 h3 h4 h5
theorem Keep.upd {w w' : World} {row : Option Nat} (h : Upd w w' row) : Keep (fun b => some b ≠ row) w w' := ⟨h.g.os, h.g.tape, h.g.output, h.g.size, h.dr, fun k hk hs => h.g.block k hk hs⟩
theorem owns_keep {w w' : World} {base : Nat} {e : TypeId} {es n : Nat} {u : Value} {xs : List Value} (h : w.ownsRow base e es u n xs) {S : Nat → Prop} (k : Keep S w w') (hs : ∀ b, u.ownBlock = some b → S b) : w'.ownsRow base e es u n xs :=
  ownsRow_keep h fun j hj => k.block j (h.lt j hj).2 (hs j hj)
theorem sl_one {u : Value} {n : Nat} (h : isSl u n) : u.oneCell' = true := by obtain ⟨a, c, rfl⟩ := h; rfl
end Go.Proofs.Ytoheadpehomdjaa

namespace Go.Proofs.Ytoheadpehomdjaa
open Go.RowKit
theorem frac_ge {an ad bn bd cn cd : Int} (h1 : 0 < ad) (h2 : 0 < bd) (h3 : 0 < cd) (a : an * bd - bn * ad ≥ 0) (b : bn * cd - cn * bd ≥ 0) : an * cd - cn * ad ≥ 0 := by
  obtain ⟨t1, t2, t3⟩ := frac_tr (an := an) (bn := bn) (cn := cn) h1 h2 h3
  by_cases a0 : an * bd - bn * ad = 0
  · by_cases b0 : bn * cd - cn * bd = 0
    · have := t3 a0 b0; omega
    · have := t2 a (by omega); omega
  · have := t1 (by omega) b; omega
theorem kpA_iff {fn fd : Int} {m : Mt} : kpA fn fd m = true ↔ m.n * fd - fn * m.d > 0 := by
  unfold kpA
  rw [decide_eq_true_eq]
  rcases sg_cases (m.n * fd - fn * m.d) with ⟨h, e⟩ | ⟨h, e⟩ | ⟨h, e⟩ <;> rw [e] <;> omega
theorem kpB_iff {fn fd : Int} {m : Mt} : kpB fn fd m = true ↔ m.n * fd - fn * m.d ≤ 0 := by
  unfold kpB
  rw [decide_eq_true_eq]
  rcases sg_cases (m.n * fd - fn * m.d) with ⟨h, e⟩ | ⟨h, e⟩ | ⟨h, e⟩ <;> rw [e] <;> omega
theorem btw_cut {fn fd mn md tn td : Int} (f0 : 0 < fd) (m0 : 0 < md) (t0 : 0 < td) (h1 : mn * fd - fn * md ≥ 0) (h2 : tn * md - mn * td ≥ 0) : ∀ {s : List Mt}, (∀ m ∈ s, MtOk m) → s.Pairwise (fun a b => 0 ≤ b.n * a.d - a.n * b.d) →
    (s.filter (kpA fn fd)).filter (kpB tn td) = (s.filter (kpA fn fd)).filter (kpB mn md) ++ (s.filter (kpA mn md)).filter (kpB tn td)
  | [], _, _ => rfl
  | m :: r, hok, hp => by
    obtain ⟨p1, p2⟩ := List.pairwise_cons.1 hp
    have d0 : 0 < m.d := by have := okB_den (hok m List.mem_cons_self).ok; omega
    by_cases hm : m.n * md - mn * m.d ≤ 0
    · have ih := btw_cut f0 m0 t0 h1 h2 (fun x hx => hok x (List.mem_cons_of_mem _ hx)) p2
      have b1 : kpB mn md m = true := kpB_iff.2 hm
      have b2 : kpB tn td m = true := kpB_iff.2 (by have := frac_ge (an := tn) (bn := mn) (cn := m.n) t0 m0 d0 h2 (by omega); omega)
      have b3 : ¬ kpA mn md m = true := fun h => by have := kpA_iff.1 h; omega
      rw [List.filter_cons_of_neg (p := kpA mn md) b3]
      by_cases a1 : kpA fn fd m = true
      · rw [List.filter_cons_of_pos a1, List.filter_cons_of_pos b2, List.filter_cons_of_pos b1, ih]; rfl
      · rw [List.filter_cons_of_neg a1, ih]
    · have late : ∀ x ∈ m :: r, x.n * md - mn * x.d > 0 := fun x hx => by
        rcases List.mem_cons.1 hx with rfl | hx
        · omega
        · exact (frac_tr (an := x.n) (bn := m.n) (cn := mn) (by have := okB_den (hok x (List.mem_cons_of_mem _ hx)).ok; omega) d0 m0).2.1 (by have := p1 x hx; omega) (by omega)
      have e1 : (m :: r).filter (kpA fn fd) = m :: r := List.filter_eq_self.2 fun x hx => kpA_iff.2 ((frac_tr (an := x.n) (bn := mn) (cn := fn) (by have := okB_den (hok x hx).ok; omega) m0 f0).1 (late x hx) h1)
      have e2 : (m :: r).filter (kpA mn md) = m :: r := List.filter_eq_self.2 fun x hx => kpA_iff.2 (late x hx)
      have e3 : (m :: r).filter (kpB mn md) = [] := List.filter_eq_nil_iff.2 fun x hx h => by have := kpB_iff.1 h; have := late x hx; omega
      rw [e1, e2, e3, List.nil_append]
noncomputable def btwS (l : List Pt) (fn fd tn td : Int) : List Mt := ((srt l).filter (kpA fn fd)).filter (kpB tn td)
theorem btwS_mem {l : List Pt} {fn fd tn td : Int} {m : Mt} : m ∈ btwS l fn fd tn td ↔ m ∈ msOf l ∧ kpA fn fd m = true ∧ kpB tn td m = true := by
  unfold btwS
  rw [List.mem_filter, List.mem_filter, srt_mem, and_assoc]
theorem btwS_len {l : List Pt} (hv : Val l) (fn fd tn td : Int) : (btwS l fn fd tn td).length ≤ 4096 :=
  Nat.le_trans (List.length_filter_le _ _) (Nat.le_trans (List.length_filter_le _ _) (by rw [srt_len]; exact ms_len hv))
theorem srt_pw {l : List Pt} (hv : Val l) : (srt l).Pairwise (fun a b => 0 ≤ ordM b a) := List.pairwise_reverse.2 (sortD_desc (by simp) (ms_ok hv) (by simp))
theorem srt_time {l : List Pt} (hv : Val l) : (srt l).Pairwise (fun a b => 0 ≤ b.n * a.d - a.n * b.d) := (srt_pw hv).imp fun {a b} h => by
  rcases ord_cases b a with ⟨w, z⟩ | ⟨w, z⟩ | ⟨w, _⟩ <;> omega
/-- The first one between two times is the next one. -/
theorem best_btw {l : List Pt} (hv : Val l) {fn fd tn td : Int} (g2 : okB tn td = true) {m : Mt} (h : (btwS l fn fd tn td)[0]? = some m) : bestOf ordM ((msOf l).filter (kpA fn fd)) = some m := by
  have hmem := List.mem_of_getElem? h
  obtain ⟨q1, q2, q3⟩ := btwS_mem.1 hmem
  have hY : m ∈ (msOf l).filter (kpA fn fd) := List.mem_filter.2 ⟨q1, q2⟩
  have hne : (msOf l).filter (kpA fn fd) ≠ [] := fun e => by rw [e] at hY; cases hY
  obtain ⟨b, hbest⟩ := Option.isSome_iff_exists.1 (best_some (c := ordM) ((msOf l).filter (kpA fn fd)) none (Or.inr hne))
  have hok : ∀ a ∈ (msOf l).filter (kpA fn fd), MtOk a := fun a ha => ms_ok hv a (List.mem_filter.1 ha).1
  obtain ⟨b1, _, b3⟩ := best_min ord_neg _ none b ((msOf l).filter (kpA fn fd)) (fun a ha b hb d hd => ord_tr (hok a ha) (hok b hb) (hok d hd)) (fun a ha => ha) (fun a ha => by cases ha) hbest
  rw [show bestOf ordM ((msOf l).filter (kpA fn fd)) = some b from hbest]
  have hmb := b3 m hY
  have dm := okB_den (hok m hY).ok
  have db := okB_den (hok b b1).ok
  have dt' := okB_den g2
  have hbt : kpB tn td b = true := kpB_iff.2 (by
    have k1 : m.n * b.d - b.n * m.d ≥ 0 := by rcases ord_cases m b with ⟨w, z⟩ | ⟨w, z⟩ | ⟨w, _⟩ <;> omega
    have k2 := kpB_iff.1 q3
    have := frac_ge (an := tn) (bn := m.n) (cn := b.n) (ad := td) (bd := m.d) (cd := b.d) (by omega) (by omega) (by omega) (by omega) k1
    omega)
  have hbm : b ∈ btwS l fn fd tn td := btwS_mem.2 ⟨(List.mem_filter.1 b1).1, (List.mem_filter.1 b1).2, hbt⟩
  have hpw : (btwS l fn fd tn td).Pairwise (fun a b => 0 ≤ ordM b a) := ((srt_pw hv).filter _).filter _
  cases hl : btwS l fn fd tn td with
  | nil => rw [hl] at hbm; cases hbm
  | cons x r =>
    rw [hl] at h hbm hpw
    simp only [List.getElem?_cons_zero, Option.some.injEq] at h
    subst h
    rcases List.mem_cons.1 hbm with rfl | hb
    · rfl
    · have h2 := (List.pairwise_cons.1 hpw).1 b hb
      have := ord_neg b x
      rw [ord_eq (hok b b1) (hok x hY) (by omega)]
end Go.Proofs.Ytoheadpehomdjaa
