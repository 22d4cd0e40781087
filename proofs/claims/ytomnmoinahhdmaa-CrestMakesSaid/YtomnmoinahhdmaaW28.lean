/-
  Joined: Cu, Pm, Rw, Rx, Ct. Conditions: none.
-/
import Derived.Test.YtomnmoinahhdmaaCp
import Derived.Test.YtomnmoinahhdmaaRt
import Derived.Test.YtomnmoinahhdmaaCr
import Derived.Laws.Bits64b
import Derived.Test.YtomnmoinahhdmaaW23
namespace Go.Proofs.Ytomnmoinahhdmaa
open Go.RowKit
set_option maxRecDepth 100000 in
theorem rMake_ttx {a b za zb g x y N D E : Int} (b0 : (b == 0) = false) (z1 : Pure Try.prog 62 #[.int .i64 a] (.int .u64 za)) (z2 : Pure Try.prog 62 #[.int .i64 b] (.int .u64 zb)) (g1 : Pure Try.prog 61 #[.int .u64 za, .int .u64 zb] (.int .u64 g)) (t1 : decide (a < 0) = true) (t2 : decide (b < 0) = true) (gz : ¬ (g : Int) = 0) (q1 : Value.int .u64 (IntKind.u64.wrap (za.tdiv g)) = .int .u64 x) (q2 : Value.int .u64 (IntKind.u64.wrap (zb.tdiv g)) = .int .u64 y) (m1 : Pure Try.prog 163 #[.bool false, bigV false 0 x, bigV false 0 y] (.tuple #[ratioV N D, .int .i64 E])) :
    Pure Try.prog 144 #[.int .i64 a, .int .i64 b] (.tuple #[ratioV N D, .int .i64 E]) :=
  pure_run (args := [.int .i64 a, .int .i64 b]) 400 [.t false, .r (.int .u64 za), .r (.int .u64 zb), .r (.int .u64 g), .t true, .t true, .k, .r (.int .u64 za), .r (.int .u64 x), .r (.int .u64 zb), .r (.int .u64 y), .r (.tuple #[ratioV N D, .int .i64 E])]
    (And.intro rfl (And.intro b0 (And.intro z1 (And.intro z2 (And.intro g1 (And.intro t1 (And.intro t2 (And.intro z1 (And.intro gz (And.intro q1 (And.intro z2 (And.intro gz (And.intro q2 (And.intro m1 True.intro)))))))))))))) (by kernel_rfl)

set_option maxRecDepth 100000 in
theorem rMake_tft {a b za zb g x y N D E : Int} (b0 : (b == 0) = false) (z1 : Pure Try.prog 62 #[.int .i64 a] (.int .u64 za)) (z2 : Pure Try.prog 62 #[.int .i64 b] (.int .u64 zb)) (g1 : Pure Try.prog 61 #[.int .u64 za, .int .u64 zb] (.int .u64 g)) (t1 : decide (a < 0) = true) (t2 : decide (b < 0) = false) (t3 : (a != 0) = true) (gz : ¬ (g : Int) = 0) (q1 : Value.int .u64 (IntKind.u64.wrap (za.tdiv g)) = .int .u64 x) (q2 : Value.int .u64 (IntKind.u64.wrap (zb.tdiv g)) = .int .u64 y) (m1 : Pure Try.prog 163 #[.bool true, bigV false 0 x, bigV false 0 y] (.tuple #[ratioV N D, .int .i64 E])) :
    Pure Try.prog 144 #[.int .i64 a, .int .i64 b] (.tuple #[ratioV N D, .int .i64 E]) :=
  pure_run (args := [.int .i64 a, .int .i64 b]) 400 [.t false, .r (.int .u64 za), .r (.int .u64 zb), .r (.int .u64 g), .t true, .t false, .k, .t true, .r (.int .u64 za), .r (.int .u64 x), .r (.int .u64 zb), .r (.int .u64 y), .r (.tuple #[ratioV N D, .int .i64 E])]
    (And.intro rfl (And.intro b0 (And.intro z1 (And.intro z2 (And.intro g1 (And.intro t1 (And.intro t2 (And.intro t3 (And.intro z1 (And.intro gz (And.intro q1 (And.intro z2 (And.intro gz (And.intro q2 (And.intro m1 True.intro))))))))))))))) (by kernel_rfl)

set_option maxRecDepth 100000 in
theorem rMake_ftt {a b za zb g x y N D E : Int} (b0 : (b == 0) = false) (z1 : Pure Try.prog 62 #[.int .i64 a] (.int .u64 za)) (z2 : Pure Try.prog 62 #[.int .i64 b] (.int .u64 zb)) (g1 : Pure Try.prog 61 #[.int .u64 za, .int .u64 zb] (.int .u64 g)) (t1 : decide (a < 0) = false) (t2 : decide (b < 0) = true) (t3 : (a != 0) = true) (gz : ¬ (g : Int) = 0) (q1 : Value.int .u64 (IntKind.u64.wrap (za.tdiv g)) = .int .u64 x) (q2 : Value.int .u64 (IntKind.u64.wrap (zb.tdiv g)) = .int .u64 y) (m1 : Pure Try.prog 163 #[.bool true, bigV false 0 x, bigV false 0 y] (.tuple #[ratioV N D, .int .i64 E])) :
    Pure Try.prog 144 #[.int .i64 a, .int .i64 b] (.tuple #[ratioV N D, .int .i64 E]) :=
  pure_run (args := [.int .i64 a, .int .i64 b]) 400 [.t false, .r (.int .u64 za), .r (.int .u64 zb), .r (.int .u64 g), .t false, .t true, .k, .t true, .r (.int .u64 za), .r (.int .u64 x), .r (.int .u64 zb), .r (.int .u64 y), .r (.tuple #[ratioV N D, .int .i64 E])]
    (And.intro rfl (And.intro b0 (And.intro z1 (And.intro z2 (And.intro g1 (And.intro t1 (And.intro t2 (And.intro t3 (And.intro z1 (And.intro gz (And.intro q1 (And.intro z2 (And.intro gz (And.intro q2 (And.intro m1 True.intro))))))))))))))) (by kernel_rfl)

set_option maxRecDepth 100000 in
theorem rMake_ftf {a b za zb g x y N D E : Int} (b0 : (b == 0) = false) (z1 : Pure Try.prog 62 #[.int .i64 a] (.int .u64 za)) (z2 : Pure Try.prog 62 #[.int .i64 b] (.int .u64 zb)) (g1 : Pure Try.prog 61 #[.int .u64 za, .int .u64 zb] (.int .u64 g)) (t1 : decide (a < 0) = false) (t2 : decide (b < 0) = true) (t3 : (a != 0) = false) (gz : ¬ (g : Int) = 0) (q1 : Value.int .u64 (IntKind.u64.wrap (za.tdiv g)) = .int .u64 x) (q2 : Value.int .u64 (IntKind.u64.wrap (zb.tdiv g)) = .int .u64 y) (m1 : Pure Try.prog 163 #[.bool false, bigV false 0 x, bigV false 0 y] (.tuple #[ratioV N D, .int .i64 E])) :
    Pure Try.prog 144 #[.int .i64 a, .int .i64 b] (.tuple #[ratioV N D, .int .i64 E]) :=
  pure_run (args := [.int .i64 a, .int .i64 b]) 400 [.t false, .r (.int .u64 za), .r (.int .u64 zb), .r (.int .u64 g), .t false, .t true, .k, .t false, .r (.int .u64 za), .r (.int .u64 x), .r (.int .u64 zb), .r (.int .u64 y), .r (.tuple #[ratioV N D, .int .i64 E])]
    (And.intro rfl (And.intro b0 (And.intro z1 (And.intro z2 (And.intro g1 (And.intro t1 (And.intro t2 (And.intro t3 (And.intro z1 (And.intro gz (And.intro q1 (And.intro z2 (And.intro gz (And.intro q2 (And.intro m1 True.intro))))))))))))))) (by kernel_rfl)

set_option maxRecDepth 100000 in
theorem rMake_ffx {a b za zb g x y N D E : Int} (b0 : (b == 0) = false) (z1 : Pure Try.prog 62 #[.int .i64 a] (.int .u64 za)) (z2 : Pure Try.prog 62 #[.int .i64 b] (.int .u64 zb)) (g1 : Pure Try.prog 61 #[.int .u64 za, .int .u64 zb] (.int .u64 g)) (t1 : decide (a < 0) = false) (t2 : decide (b < 0) = false) (gz : ¬ (g : Int) = 0) (q1 : Value.int .u64 (IntKind.u64.wrap (za.tdiv g)) = .int .u64 x) (q2 : Value.int .u64 (IntKind.u64.wrap (zb.tdiv g)) = .int .u64 y) (m1 : Pure Try.prog 163 #[.bool false, bigV false 0 x, bigV false 0 y] (.tuple #[ratioV N D, .int .i64 E])) :
    Pure Try.prog 144 #[.int .i64 a, .int .i64 b] (.tuple #[ratioV N D, .int .i64 E]) :=
  pure_run (args := [.int .i64 a, .int .i64 b]) 400 [.t false, .r (.int .u64 za), .r (.int .u64 zb), .r (.int .u64 g), .t false, .t false, .k, .r (.int .u64 za), .r (.int .u64 x), .r (.int .u64 zb), .r (.int .u64 y), .r (.tuple #[ratioV N D, .int .i64 E])]
    (And.intro rfl (And.intro b0 (And.intro z1 (And.intro z2 (And.intro g1 (And.intro t1 (And.intro t2 (And.intro z1 (And.intro gz (And.intro q1 (And.intro z2 (And.intro gz (And.intro q2 (And.intro m1 True.intro)))))))))))))) (by kernel_rfl)

set_option maxRecDepth 100000 in
theorem far_path {pi pa pb qi qa qb n d u v x y s : Int} (v1 : Value.int .i64 (IntKind.i64.wrap (pa - qa)) = .int .i64 u) (c1 : Pure Try.prog 63 #[.int .i64 u, .int .i64 d] (bigI x)) (v2 : Value.int .i64 (IntKind.i64.wrap (pb - qb)) = .int .i64 v) (c2 : Pure Try.prog 63 #[.int .i64 v, .int .i64 n] (bigI y)) (c3 : Pure Try.prog 182 #[bigI x, bigI y] (bigI s)) (c4 : Pure Try.prog 64 #[bigI s] (.int .i64 s.sign)) :
    Pure Try.prog 177 #[pointV pi pa pb, pointV qi qa qb, ratioV n d] (.int .i64 s.sign) :=
  pure_run (args := [pointV pi pa pb, pointV qi qa qb, ratioV n d]) 200 [.r (.int .i64 u), .r (bigI x), .r (.int .i64 v), .r (bigI y), .r (bigI s), .r (.int .i64 s.sign)]
    (And.intro rfl (And.intro v1 (And.intro c1 (And.intro v2 (And.intro c2 (And.intro c3 (And.intro c4 True.intro))))))) (by kernel_rfl)

set_option maxRecDepth 100000 in
theorem leads_far_t {pi pa pb qi qa qb n d f : Int} (c : Pure Try.prog 177 #[pointV pi pa pb, pointV qi qa qb, ratioV n d] (.int .i64 f)) (z : (f != 0) = true) (g : decide (f > 0) = true) :
    Pure Try.prog 162 #[pointV pi pa pb, pointV qi qa qb, ratioV n d] (.bool true) :=
  pure_run (args := [pointV pi pa pb, pointV qi qa qb, ratioV n d]) 200 [.r (.int .i64 f), .t true, .t true]
    (And.intro rfl (And.intro c (And.intro z (And.intro g True.intro)))) (by kernel_rfl)

set_option maxRecDepth 100000 in
theorem leads_b_t {pi pa pb qi qa qb n d f : Int} (c : Pure Try.prog 177 #[pointV pi pa pb, pointV qi qa qb, ratioV n d] (.int .i64 f)) (z : (f != 0) = false) (bb : (pb != qb) = true) (g : decide (pb > qb) = true) :
    Pure Try.prog 162 #[pointV pi pa pb, pointV qi qa qb, ratioV n d] (.bool true) :=
  pure_run (args := [pointV pi pa pb, pointV qi qa qb, ratioV n d]) 200 [.r (.int .i64 f), .t false, .t true, .t true]
    (And.intro rfl (And.intro c (And.intro z (And.intro bb (And.intro g True.intro))))) (by kernel_rfl)

set_option maxRecDepth 100000 in
theorem leads_i_t {pi pa pb qi qa qb n d f : Int} (c : Pure Try.prog 177 #[pointV pi pa pb, pointV qi qa qb, ratioV n d] (.int .i64 f)) (z : (f != 0) = false) (bb : (pb != qb) = false) (g : decide (pi < qi) = true) :
    Pure Try.prog 162 #[pointV pi pa pb, pointV qi qa qb, ratioV n d] (.bool true) :=
  pure_run (args := [pointV pi pa pb, pointV qi qa qb, ratioV n d]) 200 [.r (.int .i64 f), .t false, .t false, .t true]
    (And.intro rfl (And.intro c (And.intro z (And.intro bb (And.intro g True.intro))))) (by kernel_rfl)

set_option maxRecDepth 100000 in
theorem leads_far_f {pi pa pb qi qa qb n d f : Int} (c : Pure Try.prog 177 #[pointV pi pa pb, pointV qi qa qb, ratioV n d] (.int .i64 f)) (z : (f != 0) = true) (g : decide (f > 0) = false) :
    Pure Try.prog 162 #[pointV pi pa pb, pointV qi qa qb, ratioV n d] (.bool false) :=
  pure_run (args := [pointV pi pa pb, pointV qi qa qb, ratioV n d]) 200 [.r (.int .i64 f), .t true, .t false]
    (And.intro rfl (And.intro c (And.intro z (And.intro g True.intro)))) (by kernel_rfl)

set_option maxRecDepth 100000 in
theorem leads_b_f {pi pa pb qi qa qb n d f : Int} (c : Pure Try.prog 177 #[pointV pi pa pb, pointV qi qa qb, ratioV n d] (.int .i64 f)) (z : (f != 0) = false) (bb : (pb != qb) = true) (g : decide (pb > qb) = false) :
    Pure Try.prog 162 #[pointV pi pa pb, pointV qi qa qb, ratioV n d] (.bool false) :=
  pure_run (args := [pointV pi pa pb, pointV qi qa qb, ratioV n d]) 200 [.r (.int .i64 f), .t false, .t true, .t false]
    (And.intro rfl (And.intro c (And.intro z (And.intro bb (And.intro g True.intro))))) (by kernel_rfl)

set_option maxRecDepth 100000 in
theorem leads_i_f {pi pa pb qi qa qb n d f : Int} (c : Pure Try.prog 177 #[pointV pi pa pb, pointV qi qa qb, ratioV n d] (.int .i64 f)) (z : (f != 0) = false) (bb : (pb != qb) = false) (g : decide (pi < qi) = false) :
    Pure Try.prog 162 #[pointV pi pa pb, pointV qi qa qb, ratioV n d] (.bool false) :=
  pure_run (args := [pointV pi pa pb, pointV qi qa qb, ratioV n d]) 200 [.r (.int .i64 f), .t false, .t false, .t false]
    (And.intro rfl (And.intro c (And.intro z (And.intro bb (And.intro g True.intro))))) (by kernel_rfl)

set_option maxRecDepth 100000 in
theorem met_path {pi pa pb qi qa qb x y m k : Int} (v1 : Value.int .i64 (IntKind.i64.wrap (pa - qa)) = .int .i64 x) (v2 : Value.int .i64 (IntKind.i64.wrap (qb - pb)) = .int .i64 y) (c1 : Pure Try.prog 144 #[.int .i64 x, .int .i64 y] (.tuple #[ratioV m k, .int .i64 0])) :
    Pure Try.prog 123 #[pointV pi pa pb, pointV qi qa qb] (ratioV m k) :=
  pure_run (args := [pointV pi pa pb, pointV qi qa qb]) 200 [.r (.int .i64 x), .r (.int .i64 y), .r (.tuple #[ratioV m k, .int .i64 0])]
    (And.intro rfl (And.intro v1 (And.intro v2 (And.intro c1 True.intro)))) (by kernel_rfl)

set_option maxRecDepth 100000 in
theorem fails_e3 {pi pa pb qi qa qb n d : Int} (cp : Pure Try.prog 67 #[pointV pi pa pb] (.int .i64 0)) (cq : Pure Try.prog 67 #[pointV qi qa qb] (.int .i64 0)) (ct : Pure Try.prog 68 #[ratioV n d] (.int .i64 0)) (ci : Pure Try.prog 70 #[pointV pi pa pb, pointV qi qa qb] (.int .i64 2)) :
    Pure Try.prog 138 #[pointV pi pa pb, pointV qi qa qb, ratioV n d] (.tuple #[ratioV 0 0, .bool false, .int .i64 2]) :=
  pure_run (args := [pointV pi pa pb, pointV qi qa qb, ratioV n d]) 200 [.r (.int .i64 0), .r (.int .i64 0), .r (.int .i64 0), .r (.int .i64 2), .k, .k, .k, .k, .k, .k, .k, .k, .k, .k, .k, .k, .k]
    (And.intro rfl (And.intro cp (And.intro cq (And.intro ct (And.intro ci True.intro))))) (by kernel_rfl)

set_option maxRecDepth 100000 in
theorem fails_wf {pi pa pb qi qa qb n d : Int} (cp : Pure Try.prog 67 #[pointV pi pa pb] (.int .i64 0)) (cq : Pure Try.prog 67 #[pointV qi qa qb] (.int .i64 0)) (ct : Pure Try.prog 68 #[ratioV n d] (.int .i64 0)) (ci : Pure Try.prog 70 #[pointV pi pa pb, pointV qi qa qb] (.int .i64 0)) (w : (qa == pa && (qb == pb && true)) = true) (r : decide (qi < pi) = false) (gb : decide (qb > pb) = false) :
    Pure Try.prog 138 #[pointV pi pa pb, pointV qi qa qb, ratioV n d] (.tuple #[ratioV 0 0, .bool false, .int .i64 0]) :=
  pure_run (args := [pointV pi pa pb, pointV qi qa qb, ratioV n d]) 400 [.r (.int .i64 0), .r (.int .i64 0), .r (.int .i64 0), .r (.int .i64 0), .k, .k, .k, .k, .k, .k, .k, .k, .k, .k, .k, .k, .k, .k, .k, .k, .k, .k, .t true, .k, .t false, .t false]
    (And.intro rfl (And.intro cp (And.intro cq (And.intro ct (And.intro ci (And.intro w (And.intro r (And.intro gb True.intro)))))))) (by kernel_rfl)

set_option maxRecDepth 100000 in
theorem fails_bf {pi pa pb qi qa qb n d : Int} (cp : Pure Try.prog 67 #[pointV pi pa pb] (.int .i64 0)) (cq : Pure Try.prog 67 #[pointV qi qa qb] (.int .i64 0)) (ct : Pure Try.prog 68 #[ratioV n d] (.int .i64 0)) (ci : Pure Try.prog 70 #[pointV pi pa pb, pointV qi qa qb] (.int .i64 0)) (w : (qa == pa && (qb == pb && true)) = false) (bb : (qb == pb) = true) (r : decide (qa > pa) = false) (gb : decide (qb > pb) = false) :
    Pure Try.prog 138 #[pointV pi pa pb, pointV qi qa qb, ratioV n d] (.tuple #[ratioV 0 0, .bool false, .int .i64 0]) :=
  pure_run (args := [pointV pi pa pb, pointV qi qa qb, ratioV n d]) 400 [.r (.int .i64 0), .r (.int .i64 0), .r (.int .i64 0), .r (.int .i64 0), .k, .k, .k, .k, .k, .k, .k, .k, .k, .k, .k, .k, .k, .k, .k, .k, .k, .k, .t false, .t true, .k, .t false, .t false]
    (And.intro rfl (And.intro cp (And.intro cq (And.intro ct (And.intro ci (And.intro w (And.intro bb (And.intro r (And.intro gb True.intro))))))))) (by kernel_rfl)

set_option maxRecDepth 100000 in
theorem fails_mtf {pi pa pb qi qa qb n d mn md c : Int} (cp : Pure Try.prog 67 #[pointV pi pa pb] (.int .i64 0)) (cq : Pure Try.prog 67 #[pointV qi qa qb] (.int .i64 0)) (ct : Pure Try.prog 68 #[ratioV n d] (.int .i64 0)) (ci : Pure Try.prog 70 #[pointV pi pa pb, pointV qi qa qb] (.int .i64 0)) (w : (qa == pa && (qb == pb && true)) = false) (bb : (qb == pb) = false) (cm : Pure Try.prog 110 #[pointV qi qa qb, pointV pi pa pb] (ratioV mn md)) (cc : Pure Try.prog 112 #[ratioV n d, ratioV mn md] (.tuple #[.int .i64 c, .int .i64 0])) (g1 : decide (c ≥ 0) = true) (gb : decide (qb > pb) = false) :
    Pure Try.prog 138 #[pointV pi pa pb, pointV qi qa qb, ratioV n d] (.tuple #[ratioV 0 0, .bool false, .int .i64 0]) :=
  pure_run (args := [pointV pi pa pb, pointV qi qa qb, ratioV n d]) 400 [.r (.int .i64 0), .r (.int .i64 0), .r (.int .i64 0), .r (.int .i64 0), .k, .k, .k, .k, .k, .k, .k, .k, .k, .k, .k, .k, .k, .k, .k, .k, .k, .k, .t false, .t false, .r (ratioV mn md), .k, .r (.tuple #[.int .i64 c, .int .i64 0]), .t true, .t false, .k, .t false]
    (And.intro rfl (And.intro cp (And.intro cq (And.intro ct (And.intro ci (And.intro w (And.intro bb (And.intro cm (And.intro cc (And.intro g1 (And.intro gb (And.intro gb True.intro)))))))))))) (by kernel_rfl)

set_option maxRecDepth 100000 in
theorem fails_mft {pi pa pb qi qa qb n d mn md c m k : Int} (cp : Pure Try.prog 67 #[pointV pi pa pb] (.int .i64 0)) (cq : Pure Try.prog 67 #[pointV qi qa qb] (.int .i64 0)) (ct : Pure Try.prog 68 #[ratioV n d] (.int .i64 0)) (ci : Pure Try.prog 70 #[pointV pi pa pb, pointV qi qa qb] (.int .i64 0)) (w : (qa == pa && (qb == pb && true)) = false) (bb : (qb == pb) = false) (cm : Pure Try.prog 110 #[pointV qi qa qb, pointV pi pa pb] (ratioV mn md)) (cc : Pure Try.prog 112 #[ratioV n d, ratioV mn md] (.tuple #[.int .i64 c, .int .i64 0])) (g1 : decide (c ≥ 0) = false) (gb : decide (qb > pb) = true) (mt : Pure Try.prog 110 #[pointV pi pa pb, pointV qi qa qb] (ratioV m k)) :
    Pure Try.prog 138 #[pointV pi pa pb, pointV qi qa qb, ratioV n d] (.tuple #[ratioV m k, .bool true, .int .i64 0]) :=
  pure_run (args := [pointV pi pa pb, pointV qi qa qb, ratioV n d]) 400 [.r (.int .i64 0), .r (.int .i64 0), .r (.int .i64 0), .r (.int .i64 0), .k, .k, .k, .k, .k, .k, .k, .k, .k, .k, .k, .k, .k, .k, .k, .k, .k, .k, .t false, .t false, .r (ratioV mn md), .k, .r (.tuple #[.int .i64 c, .int .i64 0]), .t false, .t true, .k, .t true, .r (ratioV m k)]
    (And.intro rfl (And.intro cp (And.intro cq (And.intro ct (And.intro ci (And.intro w (And.intro bb (And.intro cm (And.intro cc (And.intro g1 (And.intro gb (And.intro gb (And.intro mt True.intro))))))))))))) (by kernel_rfl)

end Go.Proofs.Ytomnmoinahhdmaa

namespace Go.Proofs.Ytomnmoinahhdmaa
open Go.RowKit
theorem IsRes.uniq {p q N D E N' D' E' : Int} (h : IsRes p q N D E) (h' : IsRes p q N' D' E') (hq : q ≠ 0) : N = N' ∧ D = D' ∧ E = E' := by
  rcases h with ⟨e1, k1, i1, j1, f1⟩ | ⟨e1, n1, d1, g1⟩ <;> rcases h' with ⟨e2, k2, i2, j2, f2⟩ | ⟨e2, n2, d2, g2⟩
  · have e : N * D' = N' * D := by
      refine Int.eq_of_mul_eq_mul_right hq ?_
      rw [Int.mul_right_comm, f1, Int.mul_right_comm N' D q, f2, Int.mul_right_comm]
    obtain ⟨a, b⟩ := okB_one k1 k2 e
    exact ⟨a, b, e1.trans e2.symm⟩
  · exact absurd f1 (g2 N D k1 i1 j1)
  · exact absurd f2 (g1 N' D' k2 i2 j2)
  · exact ⟨n1.trans n2.symm, d1.trans d2.symm, e1.trans e2.symm⟩

end Go.Proofs.Ytomnmoinahhdmaa

namespace Go.Proofs.Ytomnmoinahhdmaa
open Go.RowKit
set_option maxRecDepth 100000 in
theorem rCompare_l {a b c d x y : Int} (c1 : Pure Try.prog 63 #[.int .i64 a, .int .i64 d] (bigI (x))) (c2 : Pure Try.prog 63 #[.int .i64 c, .int .i64 b] (bigI (y))) (s1 : Pure Try.prog 64 #[bigI (x)] (.int .i64 x.sign)) (s2 : Pure Try.prog 64 #[bigI (y)] (.int .i64 y.sign)) (t1 : (x.sign != y.sign) = true) (t2 : decide (x.sign < y.sign) = true) :
    Pure Try.prog 24 #[ratioV a b, ratioV c d] (.int .i64 (-1)) :=
  pure_run (args := [ratioV a b, ratioV c d]) 200 [.r (bigI (x)), .r (bigI (y)), .r (.int .i64 x.sign), .r (.int .i64 y.sign), .t true, .r (.int .i64 x.sign), .r (.int .i64 y.sign), .t true]
    (And.intro rfl (And.intro c1 (And.intro c2 (And.intro s1 (And.intro s2 (And.intro t1 (And.intro s1 (And.intro s2 (And.intro t2 True.intro))))))))) (by kernel_rfl)

set_option maxRecDepth 100000 in
theorem rCompare_g {a b c d x y : Int} (c1 : Pure Try.prog 63 #[.int .i64 a, .int .i64 d] (bigI (x))) (c2 : Pure Try.prog 63 #[.int .i64 c, .int .i64 b] (bigI (y))) (s1 : Pure Try.prog 64 #[bigI (x)] (.int .i64 x.sign)) (s2 : Pure Try.prog 64 #[bigI (y)] (.int .i64 y.sign)) (t1 : (x.sign != y.sign) = true) (t2 : decide (x.sign < y.sign) = false) :
    Pure Try.prog 24 #[ratioV a b, ratioV c d] (.int .i64 1) :=
  pure_run (args := [ratioV a b, ratioV c d]) 200 [.r (bigI (x)), .r (bigI (y)), .r (.int .i64 x.sign), .r (.int .i64 y.sign), .t true, .r (.int .i64 x.sign), .r (.int .i64 y.sign), .t false]
    (And.intro rfl (And.intro c1 (And.intro c2 (And.intro s1 (And.intro s2 (And.intro t1 (And.intro s1 (And.intro s2 (And.intro t2 True.intro))))))))) (by kernel_rfl)

set_option maxRecDepth 100000 in
theorem rCompare_n {a b c d x y e : Int} (c1 : Pure Try.prog 63 #[.int .i64 a, .int .i64 d] (bigI (x))) (c2 : Pure Try.prog 63 #[.int .i64 c, .int .i64 b] (bigI (y))) (s1 : Pure Try.prog 64 #[bigI (x)] (.int .i64 x.sign)) (s2 : Pure Try.prog 64 #[bigI (y)] (.int .i64 y.sign)) (t1 : (x.sign != y.sign) = false) (t3 : decide (x.sign < 0) = true) (l1 : Pure Try.prog 65 #[bigI (y), bigI (x)] (.int .i64 e)) :
    Pure Try.prog 24 #[ratioV a b, ratioV c d] (.int .i64 e) :=
  pure_run (args := [ratioV a b, ratioV c d]) 200 [.r (bigI (x)), .r (bigI (y)), .r (.int .i64 x.sign), .r (.int .i64 y.sign), .t false, .r (.int .i64 x.sign), .t true, .r (.int .i64 e)]
    (And.intro rfl (And.intro c1 (And.intro c2 (And.intro s1 (And.intro s2 (And.intro t1 (And.intro s1 (And.intro t3 (And.intro l1 True.intro))))))))) (by kernel_rfl)

set_option maxRecDepth 100000 in
theorem rCompare_p {a b c d x y e : Int} (c1 : Pure Try.prog 63 #[.int .i64 a, .int .i64 d] (bigI (x))) (c2 : Pure Try.prog 63 #[.int .i64 c, .int .i64 b] (bigI (y))) (s1 : Pure Try.prog 64 #[bigI (x)] (.int .i64 x.sign)) (s2 : Pure Try.prog 64 #[bigI (y)] (.int .i64 y.sign)) (t1 : (x.sign != y.sign) = false) (t3 : decide (x.sign < 0) = false) (l1 : Pure Try.prog 65 #[bigI (x), bigI (y)] (.int .i64 e)) :
    Pure Try.prog 24 #[ratioV a b, ratioV c d] (.int .i64 e) :=
  pure_run (args := [ratioV a b, ratioV c d]) 200 [.r (bigI (x)), .r (bigI (y)), .r (.int .i64 x.sign), .r (.int .i64 y.sign), .t false, .r (.int .i64 x.sign), .t false, .r (.int .i64 e)]
    (And.intro rfl (And.intro c1 (And.intro c2 (And.intro s1 (And.intro s2 (And.intro t1 (And.intro s1 (And.intro t3 (And.intro l1 True.intro))))))))) (by kernel_rfl)

end Go.Proofs.Ytomnmoinahhdmaa

namespace Go.Proofs.Ytomnmoinahhdmaa
open Go.RowKit
theorem RCompare_any {a b c d : Int} (ha : I64 a) (hb : I64 b) (hc : I64 c) (hd : I64 d) : Pure Try.prog 24 #[ratioV a b, ratioV c d] (.int .i64 (a * d - c * b).sign) := by
  have c1 := RProduct_any a d ha hd
  have c2 := RProduct_any c b hc hb
  generalize a * d = x at *
  generalize c * b = y at *
  have s1 := RSign_any x
  have s2 := RSign_any y
  have kx : x < 0 ∧ x.sign = -1 ∨ x = 0 ∧ x.sign = 0 ∨ 0 < x ∧ x.sign = 1 := by
    rcases Int.lt_trichotomy x 0 with h | h | h
    · exact Or.inl ⟨h, Int.sign_eq_neg_one_of_neg h⟩
    · exact Or.inr (Or.inl ⟨h, by rw [h]; rfl⟩)
    · exact Or.inr (Or.inr ⟨h, Int.sign_eq_one_of_pos h⟩)
  have ky : y < 0 ∧ y.sign = -1 ∨ y = 0 ∧ y.sign = 0 ∨ 0 < y ∧ y.sign = 1 := by
    rcases Int.lt_trichotomy y 0 with h | h | h
    · exact Or.inl ⟨h, Int.sign_eq_neg_one_of_neg h⟩
    · exact Or.inr (Or.inl ⟨h, by rw [h]; rfl⟩)
    · exact Or.inr (Or.inr ⟨h, Int.sign_eq_one_of_pos h⟩)
  have kd : x - y < 0 ∧ (x - y).sign = -1 ∨ x - y = 0 ∧ (x - y).sign = 0 ∨ 0 < x - y ∧ (x - y).sign = 1 := by
    rcases Int.lt_trichotomy (x - y) 0 with h | h | h
    · exact Or.inl ⟨h, Int.sign_eq_neg_one_of_neg h⟩
    · exact Or.inr (Or.inl ⟨h, by rw [h]; rfl⟩)
    · exact Or.inr (Or.inr ⟨h, Int.sign_eq_one_of_pos h⟩)
  by_cases he : x.sign = y.sign
  · by_cases hn : x.sign < 0
    · have l := RLess_any (decide (y < 0)) (decide (x < 0)) y.natAbs x.natAbs
      rw [show (x - y).sign = cmpN y.natAbs x.natAbs by unfold cmpN; split <;> (try split) <;> omega]
      exact rCompare_n c1 c2 s1 s2 (by simp [he]) (decide_t hn) l
    · have l := RLess_any (decide (x < 0)) (decide (y < 0)) x.natAbs y.natAbs
      rw [show (x - y).sign = cmpN x.natAbs y.natAbs by unfold cmpN; split <;> (try split) <;> omega]
      exact rCompare_p c1 c2 s1 s2 (by simp [he]) (decide_f hn) l
  · by_cases hl : x.sign < y.sign
    · rw [show (x - y).sign = -1 by omega]
      exact rCompare_l c1 c2 s1 s2 (by simpa using he) (decide_t hl)
    · rw [show (x - y).sign = 1 by omega]
      exact rCompare_g c1 c2 s1 s2 (by simpa using he) (decide_f hl)

theorem Rcommon_any (a b g : Nat) (ha : a < 18446744073709551616) (hb : b < 18446744073709551616) (hg : g = Nat.gcd a b) : Pure Try.prog 61 #[.int .u64 a, .int .u64 b] (.int .u64 (g : Int)) :=
  fun w => hg ▸ common_gr a b w ha hb
theorem quoU {x y : Nat} (h : x < 18446744073709551616) : Value.int .u64 (IntKind.u64.wrap ((x : Int).tdiv (y : Int))) = .int .u64 ((x / y : Nat) : Int) := wrapv (tdivN x y) (Int.natCast_nonneg _) (by have := Nat.div_le_self x y; omega)
theorem selI_sg {f : Bool} {U : Nat} (h : f = true → U < 9223372036854775808) : selI f (sgV U false) = selI f (U : Int) := by
  cases f
  · rfl
  · show sgV U false = (U : Int)
    unfold sgV
    rw [if_pos (h rfl)]
    rfl

end Go.Proofs.Ytomnmoinahhdmaa

namespace Go.Proofs.Ytomnmoinahhdmaa
open Go.RowKit
theorem sign_ge (X : Int) : (X.sign ≥ 0) ↔ 0 ≤ X := by
  rcases Int.lt_trichotomy X 0 with h | h | h
  · rw [Int.sign_eq_neg_one_of_neg h]; omega
  · rw [h]; decide
  · rw [Int.sign_eq_one_of_pos h]; omega
/-- From the meeting on the faster one is ahead, before it the other one. -/
theorem leads_meet {pi pa pb qi qa qb n d m k : Int} (k0 : 0 < k) (h4 : m * (pb - qb) = (qa - pa) * k) (hb : pb ≠ qb) :
    leadsB (pa * d + pb * n) (qa * d + qb * n) pb qb pi qi = (decide (pb > qb) == decide ((n * k - m * d).sign ≥ 0)) := by
  have key : (pa * d + pb * n - (qa * d + qb * n)) * k = (pb - qb) * (n * k - m * d) := by
    have e1 : (pb - qb) * (m * d) = (qa - pa) * k * d := by rw [← h4, ← Int.mul_assoc, Int.mul_comm (pb - qb) m]
    rw [Int.mul_sub, e1, Int.sub_mul, Int.add_mul, Int.add_mul, Int.sub_mul, Int.sub_mul, Int.sub_mul, ← Int.mul_assoc, ← Int.mul_assoc, Int.mul_right_comm qa k d, Int.mul_right_comm pa k d]
    omega
  have hs := sign_ge (n * k - m * d)
  generalize n * k - m * d = X at *
  generalize pa * d + pb * n = P at *
  generalize qa * d + qb * n = Q at *
  have hk : ((P - Q) * k < 0 ↔ P - Q < 0) ∧ (0 < (P - Q) * k ↔ 0 < P - Q) := by
    rcases Int.lt_trichotomy (P - Q) 0 with h | h | h
    · have := Int.mul_neg_of_neg_of_pos h k0; omega
    · rw [h]; simp
    · have := Int.mul_pos h k0; omega
  have hx : ((pb - qb) * X < 0 ↔ (pb > qb ∧ X < 0 ∨ pb < qb ∧ 0 < X)) ∧ (0 < (pb - qb) * X ↔ (pb > qb ∧ 0 < X ∨ pb < qb ∧ X < 0)) := by
    rcases Int.lt_trichotomy X 0 with h | h | h
    · rcases Int.lt_or_gt_of_ne hb with g | g
      · have := Int.mul_pos_of_neg_of_neg (show pb - qb < 0 by omega) h; omega
      · have := Int.mul_neg_of_pos_of_neg (show 0 < pb - qb by omega) h; omega
    · rw [h]; simp
    · rcases Int.lt_or_gt_of_ne hb with g | g
      · have := Int.mul_neg_of_neg_of_pos (show pb - qb < 0 by omega) h; omega
      · have := Int.mul_pos (show 0 < pb - qb by omega) h; omega
  rw [key] at hk
  by_cases g : pb > qb
  · by_cases l : 0 ≤ X
    · rw [dt g, dt (hs.2 l)]; exact leads_t (by omega)
    · rw [dt g, df (fun h => l (hs.1 h))]; exact leads_f (by omega)
  · by_cases l : 0 ≤ X
    · rw [df g, dt (hs.2 l)]; exact leads_f (by omega)
    · rw [df g, df (fun h => l (hs.1 h))]; exact leads_t (by omega)
/-- With the same B the time is of no account. -/
theorem leads_same {pi pa b qi qa n d : Int} (d0 : 0 < d) : leadsB (pa * d + b * n) (qa * d + b * n) b b pi qi = leadsB pa qa b b pi qi := by
  have e : pa * d - qa * d = (pa - qa) * d := (Int.sub_mul _ _ _).symm
  have hk : ((pa - qa) * d < 0 ↔ pa - qa < 0) ∧ (0 < (pa - qa) * d ↔ 0 < pa - qa) := by
    rcases Int.lt_trichotomy (pa - qa) 0 with h | h | h
    · have := Int.mul_neg_of_neg_of_pos h d0; omega
    · rw [h]; simp
    · have := Int.mul_pos h d0; omega
  unfold leadsB
  rw [← e] at hk
  exact decide_eq_decide.2 (by omega)
theorem checkIDs_n {pi pa pb qi qa qb : Int} (h : pi ≠ qi) : Pure Try.prog 70 #[pointV pi pa pb, pointV qi qa qb] (.int .i64 0) := ids_n (by simp [h])
/-- Both orders of two points have one meeting. -/
theorem meeting_both {pi pa pb qi qa qb : Int} (hp : okP pi pa pb = true) (hq : okP qi qa qb = true) (hb : pb ≠ qb) :
    ∃ m k, okB m k = true ∧ I64 m ∧ I64 k ∧ m * (pb - qb) = (qa - pa) * k ∧ Pure Try.prog 110 #[pointV pi pa pb, pointV qi qa qb] (ratioV m k) ∧ Pure Try.prog 110 #[pointV qi qa qb, pointV pi pa pb] (ratioV m k) := by
  obtain ⟨m, k, h1, h2, h3, h4, h5⟩ := meeting_ok hp hq hb
  obtain ⟨m', k', g1, g2, g3, g4, g5⟩ := meeting_ok hq hp (Ne.symm hb)
  have e : m * k' = m' * k := by
    refine Int.eq_of_mul_eq_mul_right (show pb - qb ≠ 0 by omega) ?_
    have a1 : m * k' * (pb - qb) = (qa - pa) * k * k' := by rw [Int.mul_right_comm, h4]
    have a2 : m' * k * (pb - qb) = -((pa - qa) * k' * k) := by
      rw [Int.mul_right_comm, ← Int.neg_mul, ← g4, ← Int.mul_neg]; congr 2; omega
    rw [a1, a2, ← Int.neg_mul, ← Int.neg_mul, Int.mul_right_comm (qa - pa) k k']
    congr 2; omega
  obtain ⟨rfl, rfl⟩ := okB_one h1 g1 e
  exact ⟨m, k, h1, h2, h3, h4, h5, g5⟩
end Go.Proofs.Ytomnmoinahhdmaa
