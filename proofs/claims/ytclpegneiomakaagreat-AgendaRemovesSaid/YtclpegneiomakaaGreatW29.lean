/-
  Joined: Rw, Rx. Conditions: none.
-/
import Derived.Test.YtclpegneiomakaaGreatRt
import Derived.Test.YtclpegneiomakaaGreatW27
namespace Go.Proofs.YtclpegneiomakaaGreat
open Go.RowKit
set_option maxRecDepth 100000 in
theorem rCompare_l {a b c d x y : Int} (c1 : Pure Tryz.prog 99 #[.int .i64 a, .int .i64 d] (bigI (x))) (c2 : Pure Tryz.prog 99 #[.int .i64 c, .int .i64 b] (bigI (y))) (s1 : Pure Tryz.prog 100 #[bigI (x)] (.int .i64 x.sign)) (s2 : Pure Tryz.prog 100 #[bigI (y)] (.int .i64 y.sign)) (t1 : (x.sign != y.sign) = true) (t2 : decide (x.sign < y.sign) = true) :
    Pure Tryz.prog 67 #[ratioV a b, ratioV c d] (.int .i64 (-1)) :=
  pure_run (args := [ratioV a b, ratioV c d]) 200 [.r (bigI (x)), .r (bigI (y)), .r (.int .i64 x.sign), .r (.int .i64 y.sign), .t true, .r (.int .i64 x.sign), .r (.int .i64 y.sign), .t true]
    (And.intro rfl (And.intro c1 (And.intro c2 (And.intro s1 (And.intro s2 (And.intro t1 (And.intro s1 (And.intro s2 (And.intro t2 True.intro))))))))) (by kernel_rfl)

set_option maxRecDepth 100000 in
theorem rCompare_g {a b c d x y : Int} (c1 : Pure Tryz.prog 99 #[.int .i64 a, .int .i64 d] (bigI (x))) (c2 : Pure Tryz.prog 99 #[.int .i64 c, .int .i64 b] (bigI (y))) (s1 : Pure Tryz.prog 100 #[bigI (x)] (.int .i64 x.sign)) (s2 : Pure Tryz.prog 100 #[bigI (y)] (.int .i64 y.sign)) (t1 : (x.sign != y.sign) = true) (t2 : decide (x.sign < y.sign) = false) :
    Pure Tryz.prog 67 #[ratioV a b, ratioV c d] (.int .i64 1) :=
  pure_run (args := [ratioV a b, ratioV c d]) 200 [.r (bigI (x)), .r (bigI (y)), .r (.int .i64 x.sign), .r (.int .i64 y.sign), .t true, .r (.int .i64 x.sign), .r (.int .i64 y.sign), .t false]
    (And.intro rfl (And.intro c1 (And.intro c2 (And.intro s1 (And.intro s2 (And.intro t1 (And.intro s1 (And.intro s2 (And.intro t2 True.intro))))))))) (by kernel_rfl)

set_option maxRecDepth 100000 in
theorem rCompare_n {a b c d x y e : Int} (c1 : Pure Tryz.prog 99 #[.int .i64 a, .int .i64 d] (bigI (x))) (c2 : Pure Tryz.prog 99 #[.int .i64 c, .int .i64 b] (bigI (y))) (s1 : Pure Tryz.prog 100 #[bigI (x)] (.int .i64 x.sign)) (s2 : Pure Tryz.prog 100 #[bigI (y)] (.int .i64 y.sign)) (t1 : (x.sign != y.sign) = false) (t3 : decide (x.sign < 0) = true) (l1 : Pure Tryz.prog 101 #[bigI (y), bigI (x)] (.int .i64 e)) :
    Pure Tryz.prog 67 #[ratioV a b, ratioV c d] (.int .i64 e) :=
  pure_run (args := [ratioV a b, ratioV c d]) 200 [.r (bigI (x)), .r (bigI (y)), .r (.int .i64 x.sign), .r (.int .i64 y.sign), .t false, .r (.int .i64 x.sign), .t true, .r (.int .i64 e)]
    (And.intro rfl (And.intro c1 (And.intro c2 (And.intro s1 (And.intro s2 (And.intro t1 (And.intro s1 (And.intro t3 (And.intro l1 True.intro))))))))) (by kernel_rfl)

set_option maxRecDepth 100000 in
theorem rCompare_p {a b c d x y e : Int} (c1 : Pure Tryz.prog 99 #[.int .i64 a, .int .i64 d] (bigI (x))) (c2 : Pure Tryz.prog 99 #[.int .i64 c, .int .i64 b] (bigI (y))) (s1 : Pure Tryz.prog 100 #[bigI (x)] (.int .i64 x.sign)) (s2 : Pure Tryz.prog 100 #[bigI (y)] (.int .i64 y.sign)) (t1 : (x.sign != y.sign) = false) (t3 : decide (x.sign < 0) = false) (l1 : Pure Tryz.prog 101 #[bigI (x), bigI (y)] (.int .i64 e)) :
    Pure Tryz.prog 67 #[ratioV a b, ratioV c d] (.int .i64 e) :=
  pure_run (args := [ratioV a b, ratioV c d]) 200 [.r (bigI (x)), .r (bigI (y)), .r (.int .i64 x.sign), .r (.int .i64 y.sign), .t false, .r (.int .i64 x.sign), .t false, .r (.int .i64 e)]
    (And.intro rfl (And.intro c1 (And.intro c2 (And.intro s1 (And.intro s2 (And.intro t1 (And.intro s1 (And.intro t3 (And.intro l1 True.intro))))))))) (by kernel_rfl)

end Go.Proofs.YtclpegneiomakaaGreat

namespace Go.Proofs.YtclpegneiomakaaGreat
open Go.RowKit
theorem RCompare_any {a b c d : Int} (ha : I64 a) (hb : I64 b) (hc : I64 c) (hd : I64 d) : Pure Tryz.prog 67 #[ratioV a b, ratioV c d] (.int .i64 (a * d - c * b).sign) := by
  have c1 := RProduct_any a d ha hd
  have c2 := RProduct_any c b hc hb
  generalize a * d = x at *
  generalize c * b = y at *
  have s1 := RSign_any x
  have s2 := RSign_any y
  have kx : x < 0 ∧ x.sign = -1 ∨ x = 0 ∧ x.sign = 0 ∨ 0 < x ∧ x.sign = 1 := by
    rcases Int.lt_trichotomy x 0 with h | h | h
    · exact Or.inl ⟨h, Int.sign_eq_neg_one_of_neg h⟩
    · exact Or.inr (Or.inl ⟨h, by rw [h]; rfl⟩)
    · exact Or.inr (Or.inr ⟨h, Int.sign_eq_one_of_pos h⟩)
  have ky : y < 0 ∧ y.sign = -1 ∨ y = 0 ∧ y.sign = 0 ∨ 0 < y ∧ y.sign = 1 := by
    rcases Int.lt_trichotomy y 0 with h | h | h
    · exact Or.inl ⟨h, Int.sign_eq_neg_one_of_neg h⟩
    · exact Or.inr (Or.inl ⟨h, by rw [h]; rfl⟩)
    · exact Or.inr (Or.inr ⟨h, Int.sign_eq_one_of_pos h⟩)
  have kd : x - y < 0 ∧ (x - y).sign = -1 ∨ x - y = 0 ∧ (x - y).sign = 0 ∨ 0 < x - y ∧ (x - y).sign = 1 := by
    rcases Int.lt_trichotomy (x - y) 0 with h | h | h
    · exact Or.inl ⟨h, Int.sign_eq_neg_one_of_neg h⟩
    · exact Or.inr (Or.inl ⟨h, by rw [h]; rfl⟩)
    · exact Or.inr (Or.inr ⟨h, Int.sign_eq_one_of_pos h⟩)
  by_cases he : x.sign = y.sign
  · by_cases hn : x.sign < 0
    · have l := RLess_any (decide (y < 0)) (decide (x < 0)) y.natAbs x.natAbs
      rw [show (x - y).sign = cmpN y.natAbs x.natAbs by unfold cmpN; split <;> (try split) <;> omega]
      exact rCompare_n c1 c2 s1 s2 (by simp [he]) (decide_t hn) l
    · have l := RLess_any (decide (x < 0)) (decide (y < 0)) x.natAbs y.natAbs
      rw [show (x - y).sign = cmpN x.natAbs y.natAbs by unfold cmpN; split <;> (try split) <;> omega]
      exact rCompare_p c1 c2 s1 s2 (by simp [he]) (decide_f hn) l
  · by_cases hl : x.sign < y.sign
    · rw [show (x - y).sign = -1 by omega]
      exact rCompare_l c1 c2 s1 s2 (by simpa using he) (decide_t hl)
    · rw [show (x - y).sign = 1 by omega]
      exact rCompare_g c1 c2 s1 s2 (by simpa using he) (decide_f hl)

end Go.Proofs.YtclpegneiomakaaGreat
