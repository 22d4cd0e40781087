/-
  Joined: Cu, Cv. Conditions: none.
-/
import Derived.Test.YtjjmnoiffpnphaaCp
import Derived.Test.YtjjmnoiffpnphaaRt
import Derived.Test.YtjjmnoiffpnphaaCr
import Derived.Test.YtjjmnoiffpnphaaW24
namespace Go.Proofs.Ytjjmnoiffpnphaa
open Go.RowKit
set_option maxRecDepth 100000 in
theorem far_path {pi pa pb qi qa qb n d u v x y s : Int} (v1 : Value.int .i64 (IntKind.i64.wrap (pa - qa)) = .int .i64 u) (c1 : Pure Try.prog 96 #[.int .i64 u, .int .i64 d] (bigI x)) (v2 : Value.int .i64 (IntKind.i64.wrap (pb - qb)) = .int .i64 v) (c2 : Pure Try.prog 96 #[.int .i64 v, .int .i64 n] (bigI y)) (c3 : Pure Try.prog 95 #[bigI x, bigI y] (bigI s)) (c4 : Pure Try.prog 94 #[bigI s] (.int .i64 s.sign)) :
    Pure Try.prog 87 #[pointV pi pa pb, pointV qi qa qb, ratioV n d] (.int .i64 s.sign) :=
  pure_run (args := [pointV pi pa pb, pointV qi qa qb, ratioV n d]) 200 [.r (.int .i64 u), .r (bigI x), .r (.int .i64 v), .r (bigI y), .r (bigI s), .r (.int .i64 s.sign)]
    (And.intro rfl (And.intro v1 (And.intro c1 (And.intro v2 (And.intro c2 (And.intro c3 (And.intro c4 True.intro))))))) (by kernel_rfl)

set_option maxRecDepth 100000 in
theorem leads_far_t {pi pa pb qi qa qb n d f : Int} (c : Pure Try.prog 87 #[pointV pi pa pb, pointV qi qa qb, ratioV n d] (.int .i64 f)) (z : (f != 0) = true) (g : decide (f > 0) = true) :
    Pure Try.prog 73 #[pointV pi pa pb, pointV qi qa qb, ratioV n d] (.bool true) :=
  pure_run (args := [pointV pi pa pb, pointV qi qa qb, ratioV n d]) 200 [.r (.int .i64 f), .t true, .t true]
    (And.intro rfl (And.intro c (And.intro z (And.intro g True.intro)))) (by kernel_rfl)

set_option maxRecDepth 100000 in
theorem leads_b_t {pi pa pb qi qa qb n d f : Int} (c : Pure Try.prog 87 #[pointV pi pa pb, pointV qi qa qb, ratioV n d] (.int .i64 f)) (z : (f != 0) = false) (bb : (pb != qb) = true) (g : decide (pb > qb) = true) :
    Pure Try.prog 73 #[pointV pi pa pb, pointV qi qa qb, ratioV n d] (.bool true) :=
  pure_run (args := [pointV pi pa pb, pointV qi qa qb, ratioV n d]) 200 [.r (.int .i64 f), .t false, .t true, .t true]
    (And.intro rfl (And.intro c (And.intro z (And.intro bb (And.intro g True.intro))))) (by kernel_rfl)

set_option maxRecDepth 100000 in
theorem leads_i_t {pi pa pb qi qa qb n d f : Int} (c : Pure Try.prog 87 #[pointV pi pa pb, pointV qi qa qb, ratioV n d] (.int .i64 f)) (z : (f != 0) = false) (bb : (pb != qb) = false) (g : decide (pi < qi) = true) :
    Pure Try.prog 73 #[pointV pi pa pb, pointV qi qa qb, ratioV n d] (.bool true) :=
  pure_run (args := [pointV pi pa pb, pointV qi qa qb, ratioV n d]) 200 [.r (.int .i64 f), .t false, .t false, .t true]
    (And.intro rfl (And.intro c (And.intro z (And.intro bb (And.intro g True.intro))))) (by kernel_rfl)

set_option maxRecDepth 100000 in
theorem leads_far_f {pi pa pb qi qa qb n d f : Int} (c : Pure Try.prog 87 #[pointV pi pa pb, pointV qi qa qb, ratioV n d] (.int .i64 f)) (z : (f != 0) = true) (g : decide (f > 0) = false) :
    Pure Try.prog 73 #[pointV pi pa pb, pointV qi qa qb, ratioV n d] (.bool false) :=
  pure_run (args := [pointV pi pa pb, pointV qi qa qb, ratioV n d]) 200 [.r (.int .i64 f), .t true, .t false]
    (And.intro rfl (And.intro c (And.intro z (And.intro g True.intro)))) (by kernel_rfl)

set_option maxRecDepth 100000 in
theorem leads_b_f {pi pa pb qi qa qb n d f : Int} (c : Pure Try.prog 87 #[pointV pi pa pb, pointV qi qa qb, ratioV n d] (.int .i64 f)) (z : (f != 0) = false) (bb : (pb != qb) = true) (g : decide (pb > qb) = false) :
    Pure Try.prog 73 #[pointV pi pa pb, pointV qi qa qb, ratioV n d] (.bool false) :=
  pure_run (args := [pointV pi pa pb, pointV qi qa qb, ratioV n d]) 200 [.r (.int .i64 f), .t false, .t true, .t false]
    (And.intro rfl (And.intro c (And.intro z (And.intro bb (And.intro g True.intro))))) (by kernel_rfl)

set_option maxRecDepth 100000 in
theorem leads_i_f {pi pa pb qi qa qb n d f : Int} (c : Pure Try.prog 87 #[pointV pi pa pb, pointV qi qa qb, ratioV n d] (.int .i64 f)) (z : (f != 0) = false) (bb : (pb != qb) = false) (g : decide (pi < qi) = false) :
    Pure Try.prog 73 #[pointV pi pa pb, pointV qi qa qb, ratioV n d] (.bool false) :=
  pure_run (args := [pointV pi pa pb, pointV qi qa qb, ratioV n d]) 200 [.r (.int .i64 f), .t false, .t false, .t false]
    (And.intro rfl (And.intro c (And.intro z (And.intro bb (And.intro g True.intro))))) (by kernel_rfl)

end Go.Proofs.Ytjjmnoiffpnphaa

namespace Go.Proofs.Ytjjmnoiffpnphaa
open Go.RowKit
theorem Leads_ok {pi pa pb qi qa qb n d : Int} (hn : I64 n) (hd : I64 d) (hp : okP pi pa pb = true) (hq : okP qi qa qb = true) :
    Pure Try.prog 73 #[pointV pi pa pb, pointV qi qa qb, ratioV n d] (.bool (leadsB (pa * d + pb * n) (qa * d + qb * n) pb qb pi qi)) := by
  have hp' := okP_iff.1 hp
  have hq' := okP_iff.1 hq
  have c1 := RProduct_any (pa - qa) d (by unfold I64; omega) hd
  have c2 := RProduct_any (pb - qb) n (by unfold I64; omega) hn
  have b1 : ((pa - qa) * d).natAbs ≤ 2097152 * 9223372036854775808 := by rw [Int.natAbs_mul]; unfold I64 at hd; exact Nat.mul_le_mul (by omega) (by omega)
  have b2 : ((pb - qb) * n).natAbs ≤ 2097152 * 9223372036854775808 := by rw [Int.natAbs_mul]; unfold I64 at hn; exact Nat.mul_le_mul (by omega) (by omega)
  have c3 := RPlus_any ((pa - qa) * d) ((pb - qb) * n) (by omega) (by omega)
  have e : (pa - qa) * d + (pb - qb) * n = pa * d + pb * n - (qa * d + qb * n) := by rw [Int.sub_mul, Int.sub_mul]; omega
  rw [e] at c3
  have c4 := RSign_any (pa * d + pb * n - (qa * d + qb * n))
  have far := far_path (pi := pi) (pa := pa) (pb := pb) (qi := qi) (qa := qa) (qb := qb) (by rw [wrap_i64_in (by omega) (by omega)]) c1 (by rw [wrap_i64_in (by omega) (by omega)]) c2 c3 c4
  generalize pa * d + pb * n = P at *
  generalize qa * d + qb * n = Q at *
  rcases Int.lt_trichotomy (P - Q) 0 with h | h | h
  · rw [Int.sign_eq_neg_one_of_neg h] at far
    rw [leads_f (by omega)]
    exact leads_far_f far (by decide) (by decide)
  · rw [h] at far
    by_cases hb : pb = qb
    · by_cases hi : pi < qi
      · rw [leads_t (by omega)]; exact leads_i_t far (by decide) (by simp [hb]) (dt hi)
      · rw [leads_f (by omega)]; exact leads_i_f far (by decide) (by simp [hb]) (df hi)
    · by_cases hg : pb > qb
      · rw [leads_t (by omega)]; exact leads_b_t far (by decide) (by simp [hb]) (dt hg)
      · rw [leads_f (by omega)]; exact leads_b_f far (by decide) (by simp [hb]) (df hg)
  · rw [Int.sign_eq_one_of_pos h] at far
    rw [leads_t (by omega)]
    exact leads_far_t far (by decide) (by decide)

end Go.Proofs.Ytjjmnoiffpnphaa
