/-
  Those of an iterator's meetings that a closure keeps. Conditions: none.
-/
import Derived.Test.YtoheadpehomdjaaSxT
import Derived.Test.YtoheadpehomdjaaW20
namespace Go.Proofs.Ytoheadpehomdjaa
open Go.RowKit
structure Mt where
  n : Int
  d : Int
  i : Int
  j : Int
abbrev meetV (m : Mt) : Value := .agg #[.int .i64 m.n, .int .i64 m.d, .int .i64 m.i, .int .i64 m.j]
abbrev mA (m : Mt) : Array Value := #[meetV m]
/-- A closure that says of each of these whether it is kept. -/
def KeepC (P : Program) (g : FuncId) (caps : Array Value) (kp : Mt → Bool) (X : List Mt) (B : Nat → Prop) (W0 : World) : Prop :=
  ∀ m ∈ X, ∀ W, Keep B W0 W → Calls P g (#[meetV m] ++ caps) W fun e w' => e = .returned (.bool (kp m)) ∧ Gr W w'
theorem take_next {α : Type} {X : List α} {k : Nat} {x : α} (h : X[k]? = some x) : X.take (k + 1) = X.take k ++ [x] := by rw [List.take_add_one, h]; rfl
theorem filterM_at {α : Type} {X : List α} {f : α → Bool} {k : Nat} {x : α} (h : X[k]? = some x) (hf : f x = true) : (X.filter f)[((X.take k).filter f).length]? = some x := by
  have e : X = X.take k ++ x :: X.drop (k + 1) := by
    obtain ⟨hl, rfl⟩ := List.getElem?_eq_some_iff.1 h
    rw [← List.drop_eq_getElem_cons hl, List.take_append_drop]
  have : X.filter f = (X.take k).filter f ++ x :: (X.drop (k + 1)).filter f := by
    conv => lhs; rw [e]
    rw [List.filter_append, List.filter_cons_of_pos hf]
  rw [this, List.getElem?_append_right (Nat.le_refl _), Nat.sub_self]
  rfl

abbrev yvo (l : Nat) : SV := .pv (.func (.yield l) #[] #[])
abbrev fv (g : FuncId) (cap : Array Value) : Value := .func (.func g) #[] cap
abbrev oH (ga gk : FuncId) (ca ck : Array Value) : List (Nat × Nat × SV) := [(0, 0, .pv (fv ga ca)), (1, 0, .pv (fv gk ck))]
abbrev oH1 (y : Nat) (ga gk : FuncId) (ca ck : Array Value) : List (Nat × Nat × SV) := [(0, 0, .pv (fv ga ca)), (1, 0, .pv (fv gk ck)), (2, 0, yvo y)]
abbrev oH2 (y : Nat) (ga gk : FuncId) (ca ck : Array Value) (m : Mt) : List (Nat × Nat × SV) := [(0, 0, .pv (fv ga ca)), (1, 0, .pv (fv gk ck)), (2, 0, yvo y), (3, 0, .pv (.int .i64 m.n)), (3, 1, .pv (.int .i64 m.d)), (3, 2, .pv (.int .i64 m.i)), (3, 3, .pv (.int .i64 m.j))]
abbrev oT0 (y : Nat) : List (Nat × SV) := [(0, yvo y), (1, .pp 0 0), (2, .pp 1 0)]
abbrev oT1 : List (Nat × SV) := [(1, .pp 0 0), (2, .pp 1 0), (3, .pp 2 0)]
abbrev oT2 : List (Nat × SV) := [(1, .pp 0 0), (2, .pp 1 0), (3, .pp 2 0), (4, .pp 3 0)]
section
variable (y : Nat) (ga gk : FuncId) (ca ck : Array Value) (m : Mt)
end
theorem no_rows {hp : List (Nat × Nat × SV)} (h : (hp.all fun e => !e.2.2.isRow) = true) {b o : Nat} {e : TypeId} {es n : Nat} {xs : List Value} (hl : lookH hp b o = some (.row e es n xs)) : False := by
  have := List.all_eq_true.1 h _ (lookH_mem hl)
  cases this
end Go.Proofs.Ytoheadpehomdjaa
