/-
  Package ratio, and the reference's checks: what each function returns, in the words of fractions. Conditions: none.
-/
import Derived.Test.YtgpbofinbpcceaaNum
import Derived.Test.YtgpbofinbpcceaaT
namespace Go.Proofs.Ytgpbofinbpcceaa
open Go.RowKit
theorem IsRes.one {p q N D E n d : Int} (h : IsRes p q N D E) (hq : q ≠ 0) (hk : okB n d = true) (hn : I64 n) (hd : I64 d) (he : n * q = p * d) : N = n ∧ D = d ∧ E = 0 := by
  rcases h with ⟨h1, h2, _, _, h5⟩ | ⟨_, _, _, h4⟩
  · have : N * d = n * D := by
      refine Int.eq_of_mul_eq_mul_right hq ?_
      rw [Int.mul_right_comm, h5, Int.mul_right_comm n D q, he, Int.mul_right_comm]
    obtain ⟨a1, a2⟩ := okB_one h2 hk this
    exact ⟨a1, a2, h1⟩
  · exact absurd he (h4 n d hk hn hd)
theorem Check_ok {n d : Int} (hn : I64 n) (hd : I64 d) (h : okB n d = true) : Pure Try.prog 73 #[ratioV n d] (.int .i64 0) := fun w => ckE_ok h ▸ check_any n d w hn.1 hn.2 hd.1 hd.2
theorem Check_bad {n d : Int} (hn : I64 n) (hd : I64 d) (h : ¬ okB n d = true) : Pure Try.prog 73 #[ratioV n d] (.int .i64 8) := fun w => ckE_bad h ▸ check_any n d w hn.1 hn.2 hd.1 hd.2
theorem RCheck_ok {n d : Int} (hn : I64 n) (hd : I64 d) (h : okB n d = true) : Pure Try.prog 37 #[ratioV n d] (.int .i64 0) := fun w => ckE_ok h ▸ check24_any n d w hn.1 hn.2 hd.1 hd.2
theorem RCheck_bad {n d : Int} (hn : I64 n) (hd : I64 d) (h : ¬ okB n d = true) : Pure Try.prog 37 #[ratioV n d] (.int .i64 8) := fun w => ckE_bad h ▸ check24_any n d w hn.1 hn.2 hd.1 hd.2
theorem Make_res {a b : Int} (ha : I64 a) (hb : I64 b) (h0 : b ≠ 0) : ∃ N D E, IsRes a b N D E ∧ Pure Try.prog 101 #[.int .i64 a, .int .i64 b] (.tuple #[ratioV N D, .int .i64 E]) :=
  ⟨_, _, _, mk_res h0, fun w => make17_any a b w ha hb⟩
theorem Cmp_ok {a b c d : Int} (ha : I64 a) (hb : I64 b) (hc : I64 c) (hd : I64 d) (h1 : okB a b = true) (h2 : okB c d = true) :
    Pure Try.prog 110 #[ratioV a b, ratioV c d] (.tuple #[.int .i64 (a * d - c * b).sign, .int .i64 0]) := cmp_any ha hb hc hd h1 h2
end Go.Proofs.Ytgpbofinbpcceaa
