/-
  CourseMeets, path by path. Conditions: none.
-/
import Derived.Test.YtpngjeloiifgnaaGreatCp
import Derived.Test.YtpngjeloiifgnaaGreatRt
namespace Go.Proofs.YtpngjeloiifgnaaGreat
open Go.RowKit
set_option maxRecDepth 100000 in
theorem rMake_ttx {a b za zb g x y N D E : Int} (b0 : (b == 0) = false) (z1 : Pure Tryz.prog 43 #[.int .i64 a] (.int .u64 za)) (z2 : Pure Tryz.prog 43 #[.int .i64 b] (.int .u64 zb)) (g1 : Pure Tryz.prog 42 #[.int .u64 za, .int .u64 zb] (.int .u64 g)) (t1 : decide (a < 0) = true) (t2 : decide (b < 0) = true) (gz : ¬ (g : Int) = 0) (q1 : Value.int .u64 (IntKind.u64.wrap (za.tdiv g)) = .int .u64 x) (q2 : Value.int .u64 (IntKind.u64.wrap (zb.tdiv g)) = .int .u64 y) (m1 : Pure Tryz.prog 182 #[.bool false, bigV false 0 x, bigV false 0 y] (.tuple #[ratioV N D, .int .i64 E])) :
    Pure Tryz.prog 149 #[.int .i64 a, .int .i64 b] (.tuple #[ratioV N D, .int .i64 E]) :=
  pure_run (args := [.int .i64 a, .int .i64 b]) 400 [.t false, .r (.int .u64 za), .r (.int .u64 zb), .r (.int .u64 g), .t true, .t true, .k, .r (.int .u64 za), .r (.int .u64 x), .r (.int .u64 zb), .r (.int .u64 y), .r (.tuple #[ratioV N D, .int .i64 E])]
    (And.intro rfl (And.intro b0 (And.intro z1 (And.intro z2 (And.intro g1 (And.intro t1 (And.intro t2 (And.intro z1 (And.intro gz (And.intro q1 (And.intro z2 (And.intro gz (And.intro q2 (And.intro m1 True.intro)))))))))))))) (by kernel_rfl)

set_option maxRecDepth 100000 in
theorem rMake_tft {a b za zb g x y N D E : Int} (b0 : (b == 0) = false) (z1 : Pure Tryz.prog 43 #[.int .i64 a] (.int .u64 za)) (z2 : Pure Tryz.prog 43 #[.int .i64 b] (.int .u64 zb)) (g1 : Pure Tryz.prog 42 #[.int .u64 za, .int .u64 zb] (.int .u64 g)) (t1 : decide (a < 0) = true) (t2 : decide (b < 0) = false) (t3 : (a != 0) = true) (gz : ¬ (g : Int) = 0) (q1 : Value.int .u64 (IntKind.u64.wrap (za.tdiv g)) = .int .u64 x) (q2 : Value.int .u64 (IntKind.u64.wrap (zb.tdiv g)) = .int .u64 y) (m1 : Pure Tryz.prog 182 #[.bool true, bigV false 0 x, bigV false 0 y] (.tuple #[ratioV N D, .int .i64 E])) :
    Pure Tryz.prog 149 #[.int .i64 a, .int .i64 b] (.tuple #[ratioV N D, .int .i64 E]) :=
  pure_run (args := [.int .i64 a, .int .i64 b]) 400 [.t false, .r (.int .u64 za), .r (.int .u64 zb), .r (.int .u64 g), .t true, .t false, .k, .t true, .r (.int .u64 za), .r (.int .u64 x), .r (.int .u64 zb), .r (.int .u64 y), .r (.tuple #[ratioV N D, .int .i64 E])]
    (And.intro rfl (And.intro b0 (And.intro z1 (And.intro z2 (And.intro g1 (And.intro t1 (And.intro t2 (And.intro t3 (And.intro z1 (And.intro gz (And.intro q1 (And.intro z2 (And.intro gz (And.intro q2 (And.intro m1 True.intro))))))))))))))) (by kernel_rfl)

set_option maxRecDepth 100000 in
theorem rMake_ftt {a b za zb g x y N D E : Int} (b0 : (b == 0) = false) (z1 : Pure Tryz.prog 43 #[.int .i64 a] (.int .u64 za)) (z2 : Pure Tryz.prog 43 #[.int .i64 b] (.int .u64 zb)) (g1 : Pure Tryz.prog 42 #[.int .u64 za, .int .u64 zb] (.int .u64 g)) (t1 : decide (a < 0) = false) (t2 : decide (b < 0) = true) (t3 : (a != 0) = true) (gz : ¬ (g : Int) = 0) (q1 : Value.int .u64 (IntKind.u64.wrap (za.tdiv g)) = .int .u64 x) (q2 : Value.int .u64 (IntKind.u64.wrap (zb.tdiv g)) = .int .u64 y) (m1 : Pure Tryz.prog 182 #[.bool true, bigV false 0 x, bigV false 0 y] (.tuple #[ratioV N D, .int .i64 E])) :
    Pure Tryz.prog 149 #[.int .i64 a, .int .i64 b] (.tuple #[ratioV N D, .int .i64 E]) :=
  pure_run (args := [.int .i64 a, .int .i64 b]) 400 [.t false, .r (.int .u64 za), .r (.int .u64 zb), .r (.int .u64 g), .t false, .t true, .k, .t true, .r (.int .u64 za), .r (.int .u64 x), .r (.int .u64 zb), .r (.int .u64 y), .r (.tuple #[ratioV N D, .int .i64 E])]
    (And.intro rfl (And.intro b0 (And.intro z1 (And.intro z2 (And.intro g1 (And.intro t1 (And.intro t2 (And.intro t3 (And.intro z1 (And.intro gz (And.intro q1 (And.intro z2 (And.intro gz (And.intro q2 (And.intro m1 True.intro))))))))))))))) (by kernel_rfl)

set_option maxRecDepth 100000 in
theorem rMake_ftf {a b za zb g x y N D E : Int} (b0 : (b == 0) = false) (z1 : Pure Tryz.prog 43 #[.int .i64 a] (.int .u64 za)) (z2 : Pure Tryz.prog 43 #[.int .i64 b] (.int .u64 zb)) (g1 : Pure Tryz.prog 42 #[.int .u64 za, .int .u64 zb] (.int .u64 g)) (t1 : decide (a < 0) = false) (t2 : decide (b < 0) = true) (t3 : (a != 0) = false) (gz : ¬ (g : Int) = 0) (q1 : Value.int .u64 (IntKind.u64.wrap (za.tdiv g)) = .int .u64 x) (q2 : Value.int .u64 (IntKind.u64.wrap (zb.tdiv g)) = .int .u64 y) (m1 : Pure Tryz.prog 182 #[.bool false, bigV false 0 x, bigV false 0 y] (.tuple #[ratioV N D, .int .i64 E])) :
    Pure Tryz.prog 149 #[.int .i64 a, .int .i64 b] (.tuple #[ratioV N D, .int .i64 E]) :=
  pure_run (args := [.int .i64 a, .int .i64 b]) 400 [.t false, .r (.int .u64 za), .r (.int .u64 zb), .r (.int .u64 g), .t false, .t true, .k, .t false, .r (.int .u64 za), .r (.int .u64 x), .r (.int .u64 zb), .r (.int .u64 y), .r (.tuple #[ratioV N D, .int .i64 E])]
    (And.intro rfl (And.intro b0 (And.intro z1 (And.intro z2 (And.intro g1 (And.intro t1 (And.intro t2 (And.intro t3 (And.intro z1 (And.intro gz (And.intro q1 (And.intro z2 (And.intro gz (And.intro q2 (And.intro m1 True.intro))))))))))))))) (by kernel_rfl)

set_option maxRecDepth 100000 in
theorem rMake_ffx {a b za zb g x y N D E : Int} (b0 : (b == 0) = false) (z1 : Pure Tryz.prog 43 #[.int .i64 a] (.int .u64 za)) (z2 : Pure Tryz.prog 43 #[.int .i64 b] (.int .u64 zb)) (g1 : Pure Tryz.prog 42 #[.int .u64 za, .int .u64 zb] (.int .u64 g)) (t1 : decide (a < 0) = false) (t2 : decide (b < 0) = false) (gz : ¬ (g : Int) = 0) (q1 : Value.int .u64 (IntKind.u64.wrap (za.tdiv g)) = .int .u64 x) (q2 : Value.int .u64 (IntKind.u64.wrap (zb.tdiv g)) = .int .u64 y) (m1 : Pure Tryz.prog 182 #[.bool false, bigV false 0 x, bigV false 0 y] (.tuple #[ratioV N D, .int .i64 E])) :
    Pure Tryz.prog 149 #[.int .i64 a, .int .i64 b] (.tuple #[ratioV N D, .int .i64 E]) :=
  pure_run (args := [.int .i64 a, .int .i64 b]) 400 [.t false, .r (.int .u64 za), .r (.int .u64 zb), .r (.int .u64 g), .t false, .t false, .k, .r (.int .u64 za), .r (.int .u64 x), .r (.int .u64 zb), .r (.int .u64 y), .r (.tuple #[ratioV N D, .int .i64 E])]
    (And.intro rfl (And.intro b0 (And.intro z1 (And.intro z2 (And.intro g1 (And.intro t1 (And.intro t2 (And.intro z1 (And.intro gz (And.intro q1 (And.intro z2 (And.intro gz (And.intro q2 (And.intro m1 True.intro)))))))))))))) (by kernel_rfl)

set_option maxRecDepth 100000 in
theorem far_path {pi pa pb qi qa qb n d u v x y s : Int} (v1 : Value.int .i64 (IntKind.i64.wrap (pa - qa)) = .int .i64 u) (c1 : Pure Tryz.prog 68 #[.int .i64 u, .int .i64 d] (bigI x)) (v2 : Value.int .i64 (IntKind.i64.wrap (pb - qb)) = .int .i64 v) (c2 : Pure Tryz.prog 68 #[.int .i64 v, .int .i64 n] (bigI y)) (c3 : Pure Tryz.prog 148 #[bigI x, bigI y] (bigI s)) (c4 : Pure Tryz.prog 69 #[bigI s] (.int .i64 s.sign)) :
    Pure Tryz.prog 110 #[pointV pi pa pb, pointV qi qa qb, ratioV n d] (.int .i64 s.sign) :=
  pure_run (args := [pointV pi pa pb, pointV qi qa qb, ratioV n d]) 200 [.r (.int .i64 u), .r (bigI x), .r (.int .i64 v), .r (bigI y), .r (bigI s), .r (.int .i64 s.sign)]
    (And.intro rfl (And.intro v1 (And.intro c1 (And.intro v2 (And.intro c2 (And.intro c3 (And.intro c4 True.intro))))))) (by kernel_rfl)

set_option maxRecDepth 100000 in
theorem leads_far_t {pi pa pb qi qa qb n d f : Int} (c : Pure Tryz.prog 110 #[pointV pi pa pb, pointV qi qa qb, ratioV n d] (.int .i64 f)) (z : (f != 0) = true) (g : decide (f > 0) = true) :
    Pure Tryz.prog 65 #[pointV pi pa pb, pointV qi qa qb, ratioV n d] (.bool true) :=
  pure_run (args := [pointV pi pa pb, pointV qi qa qb, ratioV n d]) 200 [.r (.int .i64 f), .t true, .t true]
    (And.intro rfl (And.intro c (And.intro z (And.intro g True.intro)))) (by kernel_rfl)

set_option maxRecDepth 100000 in
theorem leads_b_t {pi pa pb qi qa qb n d f : Int} (c : Pure Tryz.prog 110 #[pointV pi pa pb, pointV qi qa qb, ratioV n d] (.int .i64 f)) (z : (f != 0) = false) (bb : (pb != qb) = true) (g : decide (pb > qb) = true) :
    Pure Tryz.prog 65 #[pointV pi pa pb, pointV qi qa qb, ratioV n d] (.bool true) :=
  pure_run (args := [pointV pi pa pb, pointV qi qa qb, ratioV n d]) 200 [.r (.int .i64 f), .t false, .t true, .t true]
    (And.intro rfl (And.intro c (And.intro z (And.intro bb (And.intro g True.intro))))) (by kernel_rfl)

set_option maxRecDepth 100000 in
theorem leads_i_t {pi pa pb qi qa qb n d f : Int} (c : Pure Tryz.prog 110 #[pointV pi pa pb, pointV qi qa qb, ratioV n d] (.int .i64 f)) (z : (f != 0) = false) (bb : (pb != qb) = false) (g : decide (pi < qi) = true) :
    Pure Tryz.prog 65 #[pointV pi pa pb, pointV qi qa qb, ratioV n d] (.bool true) :=
  pure_run (args := [pointV pi pa pb, pointV qi qa qb, ratioV n d]) 200 [.r (.int .i64 f), .t false, .t false, .t true]
    (And.intro rfl (And.intro c (And.intro z (And.intro bb (And.intro g True.intro))))) (by kernel_rfl)

set_option maxRecDepth 100000 in
theorem leads_far_f {pi pa pb qi qa qb n d f : Int} (c : Pure Tryz.prog 110 #[pointV pi pa pb, pointV qi qa qb, ratioV n d] (.int .i64 f)) (z : (f != 0) = true) (g : decide (f > 0) = false) :
    Pure Tryz.prog 65 #[pointV pi pa pb, pointV qi qa qb, ratioV n d] (.bool false) :=
  pure_run (args := [pointV pi pa pb, pointV qi qa qb, ratioV n d]) 200 [.r (.int .i64 f), .t true, .t false]
    (And.intro rfl (And.intro c (And.intro z (And.intro g True.intro)))) (by kernel_rfl)

set_option maxRecDepth 100000 in
theorem leads_b_f {pi pa pb qi qa qb n d f : Int} (c : Pure Tryz.prog 110 #[pointV pi pa pb, pointV qi qa qb, ratioV n d] (.int .i64 f)) (z : (f != 0) = false) (bb : (pb != qb) = true) (g : decide (pb > qb) = false) :
    Pure Tryz.prog 65 #[pointV pi pa pb, pointV qi qa qb, ratioV n d] (.bool false) :=
  pure_run (args := [pointV pi pa pb, pointV qi qa qb, ratioV n d]) 200 [.r (.int .i64 f), .t false, .t true, .t false]
    (And.intro rfl (And.intro c (And.intro z (And.intro bb (And.intro g True.intro))))) (by kernel_rfl)

set_option maxRecDepth 100000 in
theorem leads_i_f {pi pa pb qi qa qb n d f : Int} (c : Pure Tryz.prog 110 #[pointV pi pa pb, pointV qi qa qb, ratioV n d] (.int .i64 f)) (z : (f != 0) = false) (bb : (pb != qb) = false) (g : decide (pi < qi) = false) :
    Pure Tryz.prog 65 #[pointV pi pa pb, pointV qi qa qb, ratioV n d] (.bool false) :=
  pure_run (args := [pointV pi pa pb, pointV qi qa qb, ratioV n d]) 200 [.r (.int .i64 f), .t false, .t false, .t false]
    (And.intro rfl (And.intro c (And.intro z (And.intro bb (And.intro g True.intro))))) (by kernel_rfl)

set_option maxRecDepth 100000 in
theorem met_path {pi pa pb qi qa qb x y m k : Int} (v1 : Value.int .i64 (IntKind.i64.wrap (pa - qa)) = .int .i64 x) (v2 : Value.int .i64 (IntKind.i64.wrap (qb - pb)) = .int .i64 y) (c1 : Pure Tryz.prog 149 #[.int .i64 x, .int .i64 y] (.tuple #[ratioV m k, .int .i64 0])) :
    Pure Tryz.prog 111 #[pointV pi pa pb, pointV qi qa qb] (ratioV m k) :=
  pure_run (args := [pointV pi pa pb, pointV qi qa qb]) 200 [.r (.int .i64 x), .r (.int .i64 y), .r (.tuple #[ratioV m k, .int .i64 0])]
    (And.intro rfl (And.intro v1 (And.intro v2 (And.intro c1 True.intro)))) (by kernel_rfl)

set_option maxRecDepth 100000 in
theorem failure_met {pi pa pb qi qa qb n d m k : Int} (l : Pure Tryz.prog 65 #[pointV qi qa qb, pointV pi pa pb, ratioV n d] (.bool false)) (g : decide (qb > pb) = true) (m1 : Pure Tryz.prog 111 #[pointV pi pa pb, pointV qi qa qb] (ratioV m k)) :
    Pure Tryz.prog 66 #[pointV pi pa pb, pointV qi qa qb, ratioV n d] (.tuple #[ratioV m k, .bool true]) :=
  pure_run (args := [pointV pi pa pb, pointV qi qa qb, ratioV n d]) 200 [.r (.bool false), .t true, .r (ratioV m k)]
    (And.intro rfl (And.intro l (And.intro g (And.intro m1 True.intro)))) (by kernel_rfl)

set_option maxRecDepth 100000 in
theorem failure_no {pi pa pb qi qa qb n d : Int} (l : Pure Tryz.prog 65 #[pointV qi qa qb, pointV pi pa pb, ratioV n d] (.bool false)) (g : decide (qb > pb) = false) :
    Pure Tryz.prog 66 #[pointV pi pa pb, pointV qi qa qb, ratioV n d] (.tuple #[ratioV 0 0, .bool false]) :=
  pure_run (args := [pointV pi pa pb, pointV qi qa qb, ratioV n d]) 200 [.r (.bool false), .t false]
    (And.intro rfl (And.intro l (And.intro g True.intro))) (by kernel_rfl)

set_option maxRecDepth 100000 in
theorem ahead_e3 {pi pa pb qi qa qb n d : Int} (cp : Pure Tryz.prog 52 #[pointV pi pa pb] (.int .i64 0)) (cq : Pure Tryz.prog 52 #[pointV qi qa qb] (.int .i64 0)) (ct : Pure Tryz.prog 76 #[ratioV n d] (.int .i64 0)) (ci : Pure Tryz.prog 136 #[pointV pi pa pb, pointV qi qa qb] (.int .i64 2)) :
    Pure Tryz.prog 90 #[pointV pi pa pb, pointV qi qa qb, ratioV n d] (.tuple #[.bool false, .int .i64 2]) :=
  pure_run (args := [pointV pi pa pb, pointV qi qa qb, ratioV n d]) 200 [.r (.int .i64 0), .r (.int .i64 0), .r (.int .i64 0), .r (.int .i64 2), .k, .k, .k, .k, .k, .k, .k, .k, .k, .k, .k, .k, .k]
    (And.intro rfl (And.intro cp (And.intro cq (And.intro ct (And.intro ci True.intro))))) (by kernel_rfl)

set_option maxRecDepth 100000 in
theorem fails_e3 {pi pa pb qi qa qb n d : Int} (cp : Pure Tryz.prog 52 #[pointV pi pa pb] (.int .i64 0)) (cq : Pure Tryz.prog 52 #[pointV qi qa qb] (.int .i64 0)) (ct : Pure Tryz.prog 76 #[ratioV n d] (.int .i64 0)) (ci : Pure Tryz.prog 136 #[pointV pi pa pb, pointV qi qa qb] (.int .i64 2)) :
    Pure Tryz.prog 109 #[pointV pi pa pb, pointV qi qa qb, ratioV n d] (.tuple #[ratioV 0 0, .bool false, .int .i64 2]) :=
  pure_run (args := [pointV pi pa pb, pointV qi qa qb, ratioV n d]) 200 [.r (.int .i64 0), .r (.int .i64 0), .r (.int .i64 0), .r (.int .i64 2), .k, .k, .k, .k, .k, .k, .k, .k, .k, .k, .k, .k, .k]
    (And.intro rfl (And.intro cp (And.intro cq (And.intro ct (And.intro ci True.intro))))) (by kernel_rfl)

set_option maxRecDepth 100000 in
theorem fails_wf {pi pa pb qi qa qb n d : Int} (cp : Pure Tryz.prog 52 #[pointV pi pa pb] (.int .i64 0)) (cq : Pure Tryz.prog 52 #[pointV qi qa qb] (.int .i64 0)) (ct : Pure Tryz.prog 76 #[ratioV n d] (.int .i64 0)) (ci : Pure Tryz.prog 136 #[pointV pi pa pb, pointV qi qa qb] (.int .i64 0)) (w : (qa == pa && (qb == pb && true)) = true) (r : decide (qi < pi) = false) (gb : decide (qb > pb) = false) :
    Pure Tryz.prog 109 #[pointV pi pa pb, pointV qi qa qb, ratioV n d] (.tuple #[ratioV 0 0, .bool false, .int .i64 0]) :=
  pure_run (args := [pointV pi pa pb, pointV qi qa qb, ratioV n d]) 400 [.r (.int .i64 0), .r (.int .i64 0), .r (.int .i64 0), .r (.int .i64 0), .k, .k, .k, .k, .k, .k, .k, .k, .k, .k, .k, .k, .k, .k, .k, .k, .k, .k, .t true, .k, .t false, .t false]
    (And.intro rfl (And.intro cp (And.intro cq (And.intro ct (And.intro ci (And.intro w (And.intro r (And.intro gb True.intro)))))))) (by kernel_rfl)

set_option maxRecDepth 100000 in
theorem fails_bf {pi pa pb qi qa qb n d : Int} (cp : Pure Tryz.prog 52 #[pointV pi pa pb] (.int .i64 0)) (cq : Pure Tryz.prog 52 #[pointV qi qa qb] (.int .i64 0)) (ct : Pure Tryz.prog 76 #[ratioV n d] (.int .i64 0)) (ci : Pure Tryz.prog 136 #[pointV pi pa pb, pointV qi qa qb] (.int .i64 0)) (w : (qa == pa && (qb == pb && true)) = false) (bb : (qb == pb) = true) (r : decide (qa > pa) = false) (gb : decide (qb > pb) = false) :
    Pure Tryz.prog 109 #[pointV pi pa pb, pointV qi qa qb, ratioV n d] (.tuple #[ratioV 0 0, .bool false, .int .i64 0]) :=
  pure_run (args := [pointV pi pa pb, pointV qi qa qb, ratioV n d]) 400 [.r (.int .i64 0), .r (.int .i64 0), .r (.int .i64 0), .r (.int .i64 0), .k, .k, .k, .k, .k, .k, .k, .k, .k, .k, .k, .k, .k, .k, .k, .k, .k, .k, .t false, .t true, .k, .t false, .t false]
    (And.intro rfl (And.intro cp (And.intro cq (And.intro ct (And.intro ci (And.intro w (And.intro bb (And.intro r (And.intro gb True.intro))))))))) (by kernel_rfl)

set_option maxRecDepth 100000 in
theorem fails_mtf {pi pa pb qi qa qb n d mn md c : Int} (cp : Pure Tryz.prog 52 #[pointV pi pa pb] (.int .i64 0)) (cq : Pure Tryz.prog 52 #[pointV qi qa qb] (.int .i64 0)) (ct : Pure Tryz.prog 76 #[ratioV n d] (.int .i64 0)) (ci : Pure Tryz.prog 136 #[pointV pi pa pb, pointV qi qa qb] (.int .i64 0)) (w : (qa == pa && (qb == pb && true)) = false) (bb : (qb == pb) = false) (cm : Pure Tryz.prog 147 #[pointV qi qa qb, pointV pi pa pb] (ratioV mn md)) (cc : Pure Tryz.prog 49 #[ratioV n d, ratioV mn md] (.tuple #[.int .i64 c, .int .i64 0])) (g1 : decide (c ≥ 0) = true) (gb : decide (qb > pb) = false) :
    Pure Tryz.prog 109 #[pointV pi pa pb, pointV qi qa qb, ratioV n d] (.tuple #[ratioV 0 0, .bool false, .int .i64 0]) :=
  pure_run (args := [pointV pi pa pb, pointV qi qa qb, ratioV n d]) 400 [.r (.int .i64 0), .r (.int .i64 0), .r (.int .i64 0), .r (.int .i64 0), .k, .k, .k, .k, .k, .k, .k, .k, .k, .k, .k, .k, .k, .k, .k, .k, .k, .k, .t false, .t false, .r (ratioV mn md), .k, .r (.tuple #[.int .i64 c, .int .i64 0]), .t true, .t false, .k, .t false]
    (And.intro rfl (And.intro cp (And.intro cq (And.intro ct (And.intro ci (And.intro w (And.intro bb (And.intro cm (And.intro cc (And.intro g1 (And.intro gb (And.intro gb True.intro)))))))))))) (by kernel_rfl)

set_option maxRecDepth 100000 in
theorem fails_mft {pi pa pb qi qa qb n d mn md c m k : Int} (cp : Pure Tryz.prog 52 #[pointV pi pa pb] (.int .i64 0)) (cq : Pure Tryz.prog 52 #[pointV qi qa qb] (.int .i64 0)) (ct : Pure Tryz.prog 76 #[ratioV n d] (.int .i64 0)) (ci : Pure Tryz.prog 136 #[pointV pi pa pb, pointV qi qa qb] (.int .i64 0)) (w : (qa == pa && (qb == pb && true)) = false) (bb : (qb == pb) = false) (cm : Pure Tryz.prog 147 #[pointV qi qa qb, pointV pi pa pb] (ratioV mn md)) (cc : Pure Tryz.prog 49 #[ratioV n d, ratioV mn md] (.tuple #[.int .i64 c, .int .i64 0])) (g1 : decide (c ≥ 0) = false) (gb : decide (qb > pb) = true) (mt : Pure Tryz.prog 147 #[pointV pi pa pb, pointV qi qa qb] (ratioV m k)) :
    Pure Tryz.prog 109 #[pointV pi pa pb, pointV qi qa qb, ratioV n d] (.tuple #[ratioV m k, .bool true, .int .i64 0]) :=
  pure_run (args := [pointV pi pa pb, pointV qi qa qb, ratioV n d]) 400 [.r (.int .i64 0), .r (.int .i64 0), .r (.int .i64 0), .r (.int .i64 0), .k, .k, .k, .k, .k, .k, .k, .k, .k, .k, .k, .k, .k, .k, .k, .k, .k, .k, .t false, .t false, .r (ratioV mn md), .k, .r (.tuple #[.int .i64 c, .int .i64 0]), .t false, .t true, .k, .t true, .r (ratioV m k)]
    (And.intro rfl (And.intro cp (And.intro cq (And.intro ct (And.intro ci (And.intro w (And.intro bb (And.intro cm (And.intro cc (And.intro g1 (And.intro gb (And.intro gb (And.intro mt True.intro))))))))))))) (by kernel_rfl)

end Go.Proofs.YtpngjeloiifgnaaGreat
