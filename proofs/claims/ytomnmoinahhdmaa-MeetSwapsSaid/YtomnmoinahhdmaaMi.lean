/-
  The meeting that comes first by an order. Conditions: none.
-/
import Derived.Test.YtomnmoinahhdmaaMg
namespace Go.Proofs.Ytomnmoinahhdmaa
open Go.RowKit
def bestStep (c : Mt → Mt → Int) (acc : Option Mt) (m : Mt) : Option Mt :=
  match acc with
  | none => some m
  | some b => if c m b < 0 then some m else some b
def bestOf (c : Mt → Mt → Int) (X : List Mt) : Option Mt := X.foldl (bestStep c) none
theorem bestOf_snoc (c : Mt → Mt → Int) (X : List Mt) (m : Mt) : bestOf c (X ++ [m]) = bestStep c (bestOf c X) m := by
  unfold bestOf
  rw [List.foldl_append]; rfl
theorem bestOf_mem {c : Mt → Mt → Int} {X : List Mt} {b : Mt} (h : bestOf c X = some b) : b ∈ X := by
  have key : ∀ (X : List Mt) (acc : Option Mt) (b : Mt), X.foldl (bestStep c) acc = some b → b ∈ X ∨ acc = some b := by
    intro X
    induction X with
    | nil => intro acc b h; exact Or.inr h
    | cons m r ih =>
      intro acc b h
      rw [List.foldl_cons] at h
      rcases ih _ b h with h1 | h1
      · exact Or.inl (List.mem_cons_of_mem _ h1)
      · unfold bestStep at h1
        split at h1
        · cases h1; exact Or.inl List.mem_cons_self
        · split at h1
          · cases h1; exact Or.inl List.mem_cons_self
          · exact Or.inr h1
  rcases key X none b h with h1 | h1
  · exact h1
  · cases h1
def z0 : Mt := ⟨0, 0, 0, 0⟩
def isIn (go : FuncId) : Prop := go = 52 ∨ go = 58

noncomputable abbrev fc (p : List Nat) : Code := codeOf Try.prog 55 p
noncomputable abbrev fo : Array Oper := opsOf (fc [1, 1, 1, 0, 1, 0, 1, 0, 1, 0])
theorem first_code : fc [] = .seq (fc [0]) (.seq (fc [1, 0]) (.seq (fc [1, 1, 0]) (.seq (.seq (fc [1, 1, 1, 0, 0]) (.block 0 (.rangeFunc (.tmp 9) #[10] (fc [1, 1, 1, 0, 1, 0, 0]) (.block 1 (.seq (fc [1, 1, 1, 0, 1, 0, 1, 0, 0]) (.cond (.tmp 19) (.region 6 fo false) .skip)))))) (fc [1, 1, 1, 1])))) := by kernel_rfl
abbrev mH (b : Nat) (m : Mt) : List (Nat × Nat × SV) := [(b, 0, .pv (.int .i64 m.n)), (b, 1, .pv (.int .i64 m.d)), (b, 2, .pv (.int .i64 m.i)), (b, 3, .pv (.int .i64 m.j))]
abbrev gH (go : FuncId) (b : Mt) (fd : Bool) (m : Mt) : List (Nat × Nat × SV) := [(0, 0, .pv (fv go #[])), (1, 0, .pv (.int .i64 b.n)), (1, 1, .pv (.int .i64 b.d)), (1, 2, .pv (.int .i64 b.i)), (1, 3, .pv (.int .i64 b.j)), (2, 0, .pv (.bool fd)),
  (3, 0, .pv (.int .i64 m.n)), (3, 1, .pv (.int .i64 m.d)), (3, 2, .pv (.int .i64 m.i)), (3, 3, .pv (.int .i64 m.j))]
abbrev fT : List (Nat × SV) := [(3, .pp 0 0), (6, .pp 1 0), (7, .pp 2 0), (8, .pp 3 0)]
section
variable (av : Value) (go : FuncId) (m b : Mt)
set_option maxRecDepth 100000 in
theorem fi_0 : Seg Try.prog 0 0 (fc [0]) 23 0 (argsT 0 [.pv av, .pv (fv go #[])]) [] .normal 2 [(0, .pv av), (3, .pp 0 0), (4, .pp 1 0)] ((0, 0, .pv (fv go #[])) :: mH 1 z0) :=
  seg_of [] 100 [] (by decide) (by kernel_rfl) (round_of True.intro (by kernel_rfl))
set_option maxRecDepth 100000 in
theorem fi_1 : Seg Try.prog 0 2 (fc [1, 0]) 23 2 [(0, .pv av), (3, .pp 0 0), (4, .pp 1 0)] ((0, 0, .pv (fv go #[])) :: mH 1 z0) .normal 3 [(0, .pv av), (3, .pp 0 0), (4, .pp 1 0), (6, .pp 2 0)] ((0, 0, .pv (fv go #[])) :: mH 1 z0 ++ mH 2 z0) :=
  seg_of [] 100 [] (by decide) (by kernel_rfl) (round_of True.intro (by kernel_rfl))
set_option maxRecDepth 100000 in
theorem fi_2 : Seg Try.prog 0 3 (fc [1, 1, 0]) 23 3 [(0, .pv av), (3, .pp 0 0), (4, .pp 1 0), (6, .pp 2 0)] ((0, 0, .pv (fv go #[])) :: mH 1 z0 ++ mH 2 z0) .normal 4 [(0, .pv av), (3, .pp 0 0), (4, .pp 1 0), (6, .pp 2 0), (7, .pp 3 0)] ((0, 0, .pv (fv go #[])) :: (3, 0, .pv (.bool false)) :: mH 1 z0 ++ mH 2 z0) :=
  seg_of [] 100 [] (by decide) (by kernel_rfl) (round_of True.intro (by kernel_rfl))
set_option maxRecDepth 100000 in
theorem fi_3 : Seg Try.prog 0 4 (fc [1, 1, 1, 0, 0]) 23 4 [(0, .pv av), (3, .pp 0 0), (4, .pp 1 0), (6, .pp 2 0), (7, .pp 3 0)] ((0, 0, .pv (fv go #[])) :: (3, 0, .pv (.bool false)) :: mH 1 z0 ++ mH 2 z0) .normal 4 [(3, .pp 0 0), (4, .pp 1 0), (6, .pp 2 0), (7, .pp 3 0), (9, .pv av)] ((0, 0, .pv (fv go #[])) :: (3, 0, .pv (.bool false)) :: mH 1 z0 ++ mH 2 z0) :=
  seg_of [] 100 [] (by decide) (by kernel_rfl) (round_of True.intro (by kernel_rfl))
set_option maxRecDepth 100000 in
theorem fi_assign (v3 v6 v7 : Value) : Seg Try.prog 0 0 (fc [1, 1, 1, 0, 1, 0, 0]) 23 0 [(3, .pv v3), (6, .pv v6), (7, .pv v7), (10, .pv (meetV m))] [] .normal 1 [(3, .pv v3), (6, .pv v6), (7, .pv v7), (8, .pp 0 0)] (mH 0 m) :=
  seg_of [] 100 [] (by decide) (by kernel_rfl) (round_of True.intro (by kernel_rfl))
set_option maxRecDepth 100000 in
theorem fi_new : Seg Try.prog 4 4 (fc [1, 1, 1, 0, 1, 0, 1, 0, 0]) 23 4 fT (gH go b false m) .normal 4 ((19, .pv (.bool true)) :: fT) (gH go b false m) :=
  seg_of [] 100 [] (by decide) (by kernel_rfl) (round_of True.intro (by kernel_rfl))
set_option maxRecDepth 100000 in
theorem fi_cmp (hgo : isIn go) (c : Int) (t : Bool) (h : Pure Try.prog go #[meetV m, meetV b] (.int .i64 c)) (ht : decide (c < 0) = t) : Seg Try.prog 4 4 (fc [1, 1, 1, 0, 1, 0, 1, 0, 0]) 23 4 fT (gH go b true m) .normal 4 ((19, .pv (.bool t)) :: fT) (gH go b true m) := by
  rcases hgo with rfl | rfl
  · cases t
    · exact seg_of [] 100 [.k, .r (.int .i64 c), .t false] (by decide) (by kernel_rfl) (round_of (And.intro h (And.intro ht True.intro)) (by kernel_rfl))
    · exact seg_of [] 100 [.k, .r (.int .i64 c), .t true] (by decide) (by kernel_rfl) (round_of (And.intro h (And.intro ht True.intro)) (by kernel_rfl))
  · cases t
    · exact seg_of [] 100 [.k, .r (.int .i64 c), .t false] (by decide) (by kernel_rfl) (round_of (And.intro h (And.intro ht True.intro)) (by kernel_rfl))
    · exact seg_of [] 100 [.k, .r (.int .i64 c), .t true] (by decide) (by kernel_rfl) (round_of (And.intro h (And.intro ht True.intro)) (by kernel_rfl))
set_option maxRecDepth 100000 in
theorem fi_load (fd : Bool) : SegL Try.prog 4 4 fo (fo.toList.take 1) 23 4 ((19, .pv (.bool true)) :: fT) (gH go b fd m) 4 ((20, .pv (meetV m)) :: fT) (gH go b fd m) :=
  segl_of [] 100 [] (by decide) (by kernel_rfl) (round_of True.intro (by kernel_rfl))
end
end Go.Proofs.Ytomnmoinahhdmaa
