/-
  CourseMeets: Ahead, Meet and Fails return what the reference returns. Conditions: none.
-/
import Derived.Test.YtjnoheffodnobaaCr
import Derived.Test.YtjnoheffodnobaaCp
import Derived.Test.YtjnoheffodnobaaRt
import Derived.Test.YtjnoheffodnobaaCon
import Derived.Test.YtjnoheffodnobaaSm
import Derived.Test.YtjnoheffodnobaaCu
namespace Go.Proofs.Ytjnoheffodnobaa
open Go.RowKit
theorem Leads_ok {pi pa pb qi qa qb n d : Int} (hn : I64 n) (hd : I64 d) (hp : okP pi pa pb = true) (hq : okP qi qa qb = true) :
    Pure Try.prog 64 #[pointV pi pa pb, pointV qi qa qb, ratioV n d] (.bool (leadsB (pa * d + pb * n) (qa * d + qb * n) pb qb pi qi)) := by
  have hp' := okP_iff.1 hp
  have hq' := okP_iff.1 hq
  have c1 := RProduct_any (pa - qa) d (by unfold I64; omega) hd
  have c2 := RProduct_any (pb - qb) n (by unfold I64; omega) hn
  have b1 : ((pa - qa) * d).natAbs ≤ 2097152 * 9223372036854775808 := by rw [Int.natAbs_mul]; unfold I64 at hd; exact Nat.mul_le_mul (by omega) (by omega)
  have b2 : ((pb - qb) * n).natAbs ≤ 2097152 * 9223372036854775808 := by rw [Int.natAbs_mul]; unfold I64 at hn; exact Nat.mul_le_mul (by omega) (by omega)
  have c3 := RPlus_any ((pa - qa) * d) ((pb - qb) * n) (by omega) (by omega)
  have e : (pa - qa) * d + (pb - qb) * n = pa * d + pb * n - (qa * d + qb * n) := by rw [Int.sub_mul, Int.sub_mul]; omega
  rw [e] at c3
  have c4 := RSign_any (pa * d + pb * n - (qa * d + qb * n))
  have far := far_path (pi := pi) (pa := pa) (pb := pb) (qi := qi) (qa := qa) (qb := qb) (by rw [wrap_i64_in (by omega) (by omega)]) c1 (by rw [wrap_i64_in (by omega) (by omega)]) c2 c3 c4
  generalize pa * d + pb * n = P at *
  generalize qa * d + qb * n = Q at *
  rcases Int.lt_trichotomy (P - Q) 0 with h | h | h
  · rw [Int.sign_eq_neg_one_of_neg h] at far
    rw [leads_f (by omega)]
    exact leads_far_f far (by decide) (by decide)
  · rw [h] at far
    by_cases hb : pb = qb
    · by_cases hi : pi < qi
      · rw [leads_t (by omega)]; exact leads_i_t far (by decide) (by simp [hb]) (dt hi)
      · rw [leads_f (by omega)]; exact leads_i_f far (by decide) (by simp [hb]) (df hi)
    · by_cases hg : pb > qb
      · rw [leads_t (by omega)]; exact leads_b_t far (by decide) (by simp [hb]) (dt hg)
      · rw [leads_f (by omega)]; exact leads_b_f far (by decide) (by simp [hb]) (df hg)
  · rw [Int.sign_eq_one_of_pos h] at far
    rw [leads_t (by omega)]
    exact leads_far_t far (by decide) (by decide)

end Go.Proofs.Ytjnoheffodnobaa
