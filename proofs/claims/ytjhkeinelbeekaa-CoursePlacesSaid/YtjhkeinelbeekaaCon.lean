/-
  Package ratio, and the reference's checks: what each function returns, in the words of fractions. Conditions: none.
-/
import Derived.Test.YtjhkeinelbeekaaNum
import Derived.Test.YtjhkeinelbeekaaT
namespace Go.Proofs.Ytjhkeinelbeekaa
open Go.RowKit

theorem IsRes.one {p q N D E n d : Int} (h : IsRes p q N D E) (hq : q ≠ 0) (hk : okB n d = true) (hn : I64 n) (hd : I64 d) (he : n * q = p * d) : N = n ∧ D = d ∧ E = 0 := by
  rcases h with ⟨h1, h2, _, _, h5⟩ | ⟨_, _, _, h4⟩
  · have : N * d = n * D := by
      refine Int.eq_of_mul_eq_mul_right hq ?_
      rw [Int.mul_right_comm, h5, Int.mul_right_comm n D q, he, Int.mul_right_comm]
    obtain ⟨a1, a2⟩ := okB_one h2 hk this
    exact ⟨a1, a2, h1⟩
  · exact absurd he (h4 n d hk hn hd)
theorem okB_whole {n : Int} (h : n ≠ -9223372036854775808) : okB n 1 = true := okB_iff.2 ⟨by omega, h, by simp⟩
theorem i64_of_ok {n d : Int} (hn : I64 n) (h : okB n d = true) : -9223372036854775807 ≤ n := by
  have := okB_num h; unfold I64 at hn; omega


theorem Check_ok {n d : Int} (hn : I64 n) (hd : I64 d) (h : okB n d = true) : Pure Try.prog 21 #[ratioV n d] (.int .i64 0) := fun w => ckE_ok h ▸ check_any n d w hn.1 hn.2 hd.1 hd.2
theorem Check_bad {n d : Int} (hn : I64 n) (hd : I64 d) (h : ¬ okB n d = true) : Pure Try.prog 21 #[ratioV n d] (.int .i64 8) := fun w => ckE_bad h ▸ check_any n d w hn.1 hn.2 hd.1 hd.2
theorem RCheck_ok {n d : Int} (hn : I64 n) (hd : I64 d) (h : okB n d = true) : Pure Try.prog 30 #[ratioV n d] (.int .i64 0) := fun w => ckE_ok h ▸ check24_any n d w hn.1 hn.2 hd.1 hd.2
theorem RCheck_bad {n d : Int} (hn : I64 n) (hd : I64 d) (h : ¬ okB n d = true) : Pure Try.prog 30 #[ratioV n d] (.int .i64 8) := fun w => ckE_bad h ▸ check24_any n d w hn.1 hn.2 hd.1 hd.2
theorem Floor_ok {n d : Int} (hn : I64 n) (hd : I64 d) (h : okB n d = true) : Pure Try.prog 20 #[ratioV n d] (.tuple #[.int .i64 (n / d), .int .i64 0]) := fun w => by
  have := floor14_any n d w hn hd
  rwa [ckE_ok h, show flV n d = n / d by simp [flV, h]] at this
theorem Make_res {a b : Int} (ha : I64 a) (hb : I64 b) (h0 : b ≠ 0) : ∃ N D E, IsRes a b N D E ∧ Pure Try.prog 23 #[.int .i64 a, .int .i64 b] (.tuple #[ratioV N D, .int .i64 E]) :=
  ⟨_, _, _, mk_res h0, fun w => make17_any a b w ha hb⟩
theorem Make_ok {a b n d : Int} (ha : I64 a) (hb : I64 b) (h0 : b ≠ 0) (hk : okB n d = true) (hn : I64 n) (hd : I64 d) (he : n * b = a * d) : Pure Try.prog 23 #[.int .i64 a, .int .i64 b] (.tuple #[ratioV n d, .int .i64 0]) := by
  obtain ⟨N, D, E, h1, h2⟩ := Make_res ha hb h0
  obtain ⟨rfl, rfl, rfl⟩ := h1.one h0 hk hn hd he
  exact h2
set_option maxRecDepth 100000 in
theorem Of_ok {n : Int} (hn : I64 n) (h : n ≠ -9223372036854775808) : Pure Try.prog 24 #[.int .i64 n] (.tuple #[ratioV n 1, .int .i64 0]) :=
  pure_run (args := [.int .i64 n]) 50 [.r (.tuple #[ratioV n 1, .int .i64 0])] (And.intro rfl (And.intro (Make_ok (a := n) (b := 1) hn (by unfold I64; omega) (by omega) (okB_whole h) hn (by unfold I64; omega) rfl) True.intro)) (by kernel_rfl)
theorem Cmp_ok {a b c d : Int} (ha : I64 a) (hb : I64 b) (hc : I64 c) (hd : I64 d) (h1 : okB a b = true) (h2 : okB c d = true) :
    Pure Try.prog 16 #[ratioV a b, ratioV c d] (.tuple #[.int .i64 (a * d - c * b).sign, .int .i64 0]) := cmp_any ha hb hc hd h1 h2
theorem Mul_res {a b c d : Int} (ha : I64 a) (hb : I64 b) (hc : I64 c) (hd : I64 d) (h1 : okB a b = true) (h2 : okB c d = true) :
    ∃ N D E, IsRes (a * c) (b * d) N D E ∧ Pure Try.prog 19 #[ratioV a b, ratioV c d] (.tuple #[ratioV N D, .int .i64 E]) :=
  ⟨_, _, _, muF_res h1 h2, fun w => by
    have := mul_any a b c d w ha hb hc hd
    rwa [if_pos ⟨h1, h2⟩] at this⟩
theorem Add_res {a b c d : Int} (ha : I64 a) (hb : I64 b) (hc : I64 c) (hd : I64 d) (h1 : okB a b = true) (h2 : okB c d = true) :
    ∃ N D E, IsRes (a * d + c * b) (b * d) N D E ∧ Pure Try.prog 17 #[ratioV a b, ratioV c d] (.tuple #[ratioV N D, .int .i64 E]) :=
  ⟨_, _, _, smF_res h1 h2, add_any ha hb hc hd h1 h2⟩
theorem Sub_res {a b c d : Int} (ha : I64 a) (hb : I64 b) (hc : I64 c) (hd : I64 d) (h1 : okB a b = true) (h2 : okB c d = true) :
    ∃ N D E, IsRes (a * d - c * b) (b * d) N D E ∧ Pure Try.prog 18 #[ratioV a b, ratioV c d] (.tuple #[ratioV N D, .int .i64 E]) :=
  ⟨_, _, _, by
    have := smF_res h1 (okB_neg hc.2 h2)
    rwa [Int.neg_mul] at this, sub_any ha hb hc hd h1 h2⟩
set_option maxRecDepth 100000 in
/-- The chapter's examples hold. -/
theorem alive01 : Pure Try.prog 26 #[] (.bool true) := pure_run (args := []) 1000 [] (And.intro rfl trivial) (by kernel_rfl)
end Go.Proofs.Ytjhkeinelbeekaa
