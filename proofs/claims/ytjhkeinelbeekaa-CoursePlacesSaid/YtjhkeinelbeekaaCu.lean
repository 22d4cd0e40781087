/-
  CourseMeets, path by path.
-/
import Derived.Test.YtjhkeinelbeekaaCp
import Derived.Test.YtjhkeinelbeekaaRt
namespace Go.Proofs.Ytjhkeinelbeekaa
open Go.RowKit

set_option maxRecDepth 100000 in
theorem rMake_ttx {a b za zb g x y N D E : Int} (b0 : (b == 0) = false) (z1 : Pure Try.prog 66 #[.int .i64 a] (.int .u64 za)) (z2 : Pure Try.prog 66 #[.int .i64 b] (.int .u64 zb)) (g1 : Pure Try.prog 65 #[.int .u64 za, .int .u64 zb] (.int .u64 g)) (t1 : decide (a < 0) = true) (t2 : decide (b < 0) = true) (gz : ¬ (g : Int) = 0) (q1 : Value.int .u64 (IntKind.u64.wrap (za.tdiv g)) = .int .u64 x) (q2 : Value.int .u64 (IntKind.u64.wrap (zb.tdiv g)) = .int .u64 y) (m1 : Pure Try.prog 67 #[.bool false, bigV false 0 x, bigV false 0 y] (.tuple #[ratioV N D, .int .i64 E])) :
    Pure Try.prog 27 #[.int .i64 a, .int .i64 b] (.tuple #[ratioV N D, .int .i64 E]) :=
  pure_run (args := [.int .i64 a, .int .i64 b]) 400 [.t false, .r (.int .u64 za), .r (.int .u64 zb), .r (.int .u64 g), .t true, .t true, .k, .r (.int .u64 za), .r (.int .u64 x), .r (.int .u64 zb), .r (.int .u64 y), .r (.tuple #[ratioV N D, .int .i64 E])]
    (And.intro rfl (And.intro b0 (And.intro z1 (And.intro z2 (And.intro g1 (And.intro t1 (And.intro t2 (And.intro z1 (And.intro gz (And.intro q1 (And.intro z2 (And.intro gz (And.intro q2 (And.intro m1 True.intro)))))))))))))) (by kernel_rfl)

set_option maxRecDepth 100000 in
theorem rMake_tft {a b za zb g x y N D E : Int} (b0 : (b == 0) = false) (z1 : Pure Try.prog 66 #[.int .i64 a] (.int .u64 za)) (z2 : Pure Try.prog 66 #[.int .i64 b] (.int .u64 zb)) (g1 : Pure Try.prog 65 #[.int .u64 za, .int .u64 zb] (.int .u64 g)) (t1 : decide (a < 0) = true) (t2 : decide (b < 0) = false) (t3 : (a != 0) = true) (gz : ¬ (g : Int) = 0) (q1 : Value.int .u64 (IntKind.u64.wrap (za.tdiv g)) = .int .u64 x) (q2 : Value.int .u64 (IntKind.u64.wrap (zb.tdiv g)) = .int .u64 y) (m1 : Pure Try.prog 67 #[.bool true, bigV false 0 x, bigV false 0 y] (.tuple #[ratioV N D, .int .i64 E])) :
    Pure Try.prog 27 #[.int .i64 a, .int .i64 b] (.tuple #[ratioV N D, .int .i64 E]) :=
  pure_run (args := [.int .i64 a, .int .i64 b]) 400 [.t false, .r (.int .u64 za), .r (.int .u64 zb), .r (.int .u64 g), .t true, .t false, .k, .t true, .r (.int .u64 za), .r (.int .u64 x), .r (.int .u64 zb), .r (.int .u64 y), .r (.tuple #[ratioV N D, .int .i64 E])]
    (And.intro rfl (And.intro b0 (And.intro z1 (And.intro z2 (And.intro g1 (And.intro t1 (And.intro t2 (And.intro t3 (And.intro z1 (And.intro gz (And.intro q1 (And.intro z2 (And.intro gz (And.intro q2 (And.intro m1 True.intro))))))))))))))) (by kernel_rfl)

set_option maxRecDepth 100000 in
theorem rMake_tff {a b za zb g x y N D E : Int} (b0 : (b == 0) = false) (z1 : Pure Try.prog 66 #[.int .i64 a] (.int .u64 za)) (z2 : Pure Try.prog 66 #[.int .i64 b] (.int .u64 zb)) (g1 : Pure Try.prog 65 #[.int .u64 za, .int .u64 zb] (.int .u64 g)) (t1 : decide (a < 0) = true) (t2 : decide (b < 0) = false) (t3 : (a != 0) = false) (gz : ¬ (g : Int) = 0) (q1 : Value.int .u64 (IntKind.u64.wrap (za.tdiv g)) = .int .u64 x) (q2 : Value.int .u64 (IntKind.u64.wrap (zb.tdiv g)) = .int .u64 y) (m1 : Pure Try.prog 67 #[.bool false, bigV false 0 x, bigV false 0 y] (.tuple #[ratioV N D, .int .i64 E])) :
    Pure Try.prog 27 #[.int .i64 a, .int .i64 b] (.tuple #[ratioV N D, .int .i64 E]) :=
  pure_run (args := [.int .i64 a, .int .i64 b]) 400 [.t false, .r (.int .u64 za), .r (.int .u64 zb), .r (.int .u64 g), .t true, .t false, .k, .t false, .r (.int .u64 za), .r (.int .u64 x), .r (.int .u64 zb), .r (.int .u64 y), .r (.tuple #[ratioV N D, .int .i64 E])]
    (And.intro rfl (And.intro b0 (And.intro z1 (And.intro z2 (And.intro g1 (And.intro t1 (And.intro t2 (And.intro t3 (And.intro z1 (And.intro gz (And.intro q1 (And.intro z2 (And.intro gz (And.intro q2 (And.intro m1 True.intro))))))))))))))) (by kernel_rfl)

set_option maxRecDepth 100000 in
theorem rMake_ftt {a b za zb g x y N D E : Int} (b0 : (b == 0) = false) (z1 : Pure Try.prog 66 #[.int .i64 a] (.int .u64 za)) (z2 : Pure Try.prog 66 #[.int .i64 b] (.int .u64 zb)) (g1 : Pure Try.prog 65 #[.int .u64 za, .int .u64 zb] (.int .u64 g)) (t1 : decide (a < 0) = false) (t2 : decide (b < 0) = true) (t3 : (a != 0) = true) (gz : ¬ (g : Int) = 0) (q1 : Value.int .u64 (IntKind.u64.wrap (za.tdiv g)) = .int .u64 x) (q2 : Value.int .u64 (IntKind.u64.wrap (zb.tdiv g)) = .int .u64 y) (m1 : Pure Try.prog 67 #[.bool true, bigV false 0 x, bigV false 0 y] (.tuple #[ratioV N D, .int .i64 E])) :
    Pure Try.prog 27 #[.int .i64 a, .int .i64 b] (.tuple #[ratioV N D, .int .i64 E]) :=
  pure_run (args := [.int .i64 a, .int .i64 b]) 400 [.t false, .r (.int .u64 za), .r (.int .u64 zb), .r (.int .u64 g), .t false, .t true, .k, .t true, .r (.int .u64 za), .r (.int .u64 x), .r (.int .u64 zb), .r (.int .u64 y), .r (.tuple #[ratioV N D, .int .i64 E])]
    (And.intro rfl (And.intro b0 (And.intro z1 (And.intro z2 (And.intro g1 (And.intro t1 (And.intro t2 (And.intro t3 (And.intro z1 (And.intro gz (And.intro q1 (And.intro z2 (And.intro gz (And.intro q2 (And.intro m1 True.intro))))))))))))))) (by kernel_rfl)

set_option maxRecDepth 100000 in
theorem rMake_ftf {a b za zb g x y N D E : Int} (b0 : (b == 0) = false) (z1 : Pure Try.prog 66 #[.int .i64 a] (.int .u64 za)) (z2 : Pure Try.prog 66 #[.int .i64 b] (.int .u64 zb)) (g1 : Pure Try.prog 65 #[.int .u64 za, .int .u64 zb] (.int .u64 g)) (t1 : decide (a < 0) = false) (t2 : decide (b < 0) = true) (t3 : (a != 0) = false) (gz : ¬ (g : Int) = 0) (q1 : Value.int .u64 (IntKind.u64.wrap (za.tdiv g)) = .int .u64 x) (q2 : Value.int .u64 (IntKind.u64.wrap (zb.tdiv g)) = .int .u64 y) (m1 : Pure Try.prog 67 #[.bool false, bigV false 0 x, bigV false 0 y] (.tuple #[ratioV N D, .int .i64 E])) :
    Pure Try.prog 27 #[.int .i64 a, .int .i64 b] (.tuple #[ratioV N D, .int .i64 E]) :=
  pure_run (args := [.int .i64 a, .int .i64 b]) 400 [.t false, .r (.int .u64 za), .r (.int .u64 zb), .r (.int .u64 g), .t false, .t true, .k, .t false, .r (.int .u64 za), .r (.int .u64 x), .r (.int .u64 zb), .r (.int .u64 y), .r (.tuple #[ratioV N D, .int .i64 E])]
    (And.intro rfl (And.intro b0 (And.intro z1 (And.intro z2 (And.intro g1 (And.intro t1 (And.intro t2 (And.intro t3 (And.intro z1 (And.intro gz (And.intro q1 (And.intro z2 (And.intro gz (And.intro q2 (And.intro m1 True.intro))))))))))))))) (by kernel_rfl)

set_option maxRecDepth 100000 in
theorem rMake_ffx {a b za zb g x y N D E : Int} (b0 : (b == 0) = false) (z1 : Pure Try.prog 66 #[.int .i64 a] (.int .u64 za)) (z2 : Pure Try.prog 66 #[.int .i64 b] (.int .u64 zb)) (g1 : Pure Try.prog 65 #[.int .u64 za, .int .u64 zb] (.int .u64 g)) (t1 : decide (a < 0) = false) (t2 : decide (b < 0) = false) (gz : ¬ (g : Int) = 0) (q1 : Value.int .u64 (IntKind.u64.wrap (za.tdiv g)) = .int .u64 x) (q2 : Value.int .u64 (IntKind.u64.wrap (zb.tdiv g)) = .int .u64 y) (m1 : Pure Try.prog 67 #[.bool false, bigV false 0 x, bigV false 0 y] (.tuple #[ratioV N D, .int .i64 E])) :
    Pure Try.prog 27 #[.int .i64 a, .int .i64 b] (.tuple #[ratioV N D, .int .i64 E]) :=
  pure_run (args := [.int .i64 a, .int .i64 b]) 400 [.t false, .r (.int .u64 za), .r (.int .u64 zb), .r (.int .u64 g), .t false, .t false, .k, .r (.int .u64 za), .r (.int .u64 x), .r (.int .u64 zb), .r (.int .u64 y), .r (.tuple #[ratioV N D, .int .i64 E])]
    (And.intro rfl (And.intro b0 (And.intro z1 (And.intro z2 (And.intro g1 (And.intro t1 (And.intro t2 (And.intro z1 (And.intro gz (And.intro q1 (And.intro z2 (And.intro gz (And.intro q2 (And.intro m1 True.intro)))))))))))))) (by kernel_rfl)

set_option maxRecDepth 100000 in
theorem far_path {pi pa pb qi qa qb n d u v x y s : Int} (v1 : Value.int .i64 (IntKind.i64.wrap (pa - qa)) = .int .i64 u) (c1 : Pure Try.prog 69 #[.int .i64 u, .int .i64 d] (bigI x)) (v2 : Value.int .i64 (IntKind.i64.wrap (pb - qb)) = .int .i64 v) (c2 : Pure Try.prog 69 #[.int .i64 v, .int .i64 n] (bigI y)) (c3 : Pure Try.prog 68 #[bigI x, bigI y] (bigI s)) (c4 : Pure Try.prog 83 #[bigI s] (.int .i64 s.sign)) :
    Pure Try.prog 99 #[pointV pi pa pb, pointV qi qa qb, ratioV n d] (.int .i64 s.sign) :=
  pure_run (args := [pointV pi pa pb, pointV qi qa qb, ratioV n d]) 200 [.r (.int .i64 u), .r (bigI x), .r (.int .i64 v), .r (bigI y), .r (bigI s), .r (.int .i64 s.sign)]
    (And.intro rfl (And.intro v1 (And.intro c1 (And.intro v2 (And.intro c2 (And.intro c3 (And.intro c4 True.intro))))))) (by kernel_rfl)

set_option maxRecDepth 100000 in
theorem leads_far_t {pi pa pb qi qa qb n d f : Int} (c : Pure Try.prog 99 #[pointV pi pa pb, pointV qi qa qb, ratioV n d] (.int .i64 f)) (z : (f != 0) = true) (g : decide (f > 0) = true) :
    Pure Try.prog 80 #[pointV pi pa pb, pointV qi qa qb, ratioV n d] (.bool true) :=
  pure_run (args := [pointV pi pa pb, pointV qi qa qb, ratioV n d]) 200 [.r (.int .i64 f), .t true, .t true]
    (And.intro rfl (And.intro c (And.intro z (And.intro g True.intro)))) (by kernel_rfl)

set_option maxRecDepth 100000 in
theorem leads_b_t {pi pa pb qi qa qb n d f : Int} (c : Pure Try.prog 99 #[pointV pi pa pb, pointV qi qa qb, ratioV n d] (.int .i64 f)) (z : (f != 0) = false) (bb : (pb != qb) = true) (g : decide (pb > qb) = true) :
    Pure Try.prog 80 #[pointV pi pa pb, pointV qi qa qb, ratioV n d] (.bool true) :=
  pure_run (args := [pointV pi pa pb, pointV qi qa qb, ratioV n d]) 200 [.r (.int .i64 f), .t false, .t true, .t true]
    (And.intro rfl (And.intro c (And.intro z (And.intro bb (And.intro g True.intro))))) (by kernel_rfl)

set_option maxRecDepth 100000 in
theorem leads_i_t {pi pa pb qi qa qb n d f : Int} (c : Pure Try.prog 99 #[pointV pi pa pb, pointV qi qa qb, ratioV n d] (.int .i64 f)) (z : (f != 0) = false) (bb : (pb != qb) = false) (g : decide (pi < qi) = true) :
    Pure Try.prog 80 #[pointV pi pa pb, pointV qi qa qb, ratioV n d] (.bool true) :=
  pure_run (args := [pointV pi pa pb, pointV qi qa qb, ratioV n d]) 200 [.r (.int .i64 f), .t false, .t false, .t true]
    (And.intro rfl (And.intro c (And.intro z (And.intro bb (And.intro g True.intro))))) (by kernel_rfl)

set_option maxRecDepth 100000 in
theorem leads_far_f {pi pa pb qi qa qb n d f : Int} (c : Pure Try.prog 99 #[pointV pi pa pb, pointV qi qa qb, ratioV n d] (.int .i64 f)) (z : (f != 0) = true) (g : decide (f > 0) = false) :
    Pure Try.prog 80 #[pointV pi pa pb, pointV qi qa qb, ratioV n d] (.bool false) :=
  pure_run (args := [pointV pi pa pb, pointV qi qa qb, ratioV n d]) 200 [.r (.int .i64 f), .t true, .t false]
    (And.intro rfl (And.intro c (And.intro z (And.intro g True.intro)))) (by kernel_rfl)

set_option maxRecDepth 100000 in
theorem leads_b_f {pi pa pb qi qa qb n d f : Int} (c : Pure Try.prog 99 #[pointV pi pa pb, pointV qi qa qb, ratioV n d] (.int .i64 f)) (z : (f != 0) = false) (bb : (pb != qb) = true) (g : decide (pb > qb) = false) :
    Pure Try.prog 80 #[pointV pi pa pb, pointV qi qa qb, ratioV n d] (.bool false) :=
  pure_run (args := [pointV pi pa pb, pointV qi qa qb, ratioV n d]) 200 [.r (.int .i64 f), .t false, .t true, .t false]
    (And.intro rfl (And.intro c (And.intro z (And.intro bb (And.intro g True.intro))))) (by kernel_rfl)

set_option maxRecDepth 100000 in
theorem leads_i_f {pi pa pb qi qa qb n d f : Int} (c : Pure Try.prog 99 #[pointV pi pa pb, pointV qi qa qb, ratioV n d] (.int .i64 f)) (z : (f != 0) = false) (bb : (pb != qb) = false) (g : decide (pi < qi) = false) :
    Pure Try.prog 80 #[pointV pi pa pb, pointV qi qa qb, ratioV n d] (.bool false) :=
  pure_run (args := [pointV pi pa pb, pointV qi qa qb, ratioV n d]) 200 [.r (.int .i64 f), .t false, .t false, .t false]
    (And.intro rfl (And.intro c (And.intro z (And.intro bb (And.intro g True.intro))))) (by kernel_rfl)

set_option maxRecDepth 100000 in
theorem met_path {pi pa pb qi qa qb x y m k : Int} (v1 : Value.int .i64 (IntKind.i64.wrap (pa - qa)) = .int .i64 x) (v2 : Value.int .i64 (IntKind.i64.wrap (qb - pb)) = .int .i64 y) (c1 : Pure Try.prog 27 #[.int .i64 x, .int .i64 y] (.tuple #[ratioV m k, .int .i64 0])) :
    Pure Try.prog 81 #[pointV pi pa pb, pointV qi qa qb] (ratioV m k) :=
  pure_run (args := [pointV pi pa pb, pointV qi qa qb]) 200 [.r (.int .i64 x), .r (.int .i64 y), .r (.tuple #[ratioV m k, .int .i64 0])]
    (And.intro rfl (And.intro v1 (And.intro v2 (And.intro c1 True.intro)))) (by kernel_rfl)

set_option maxRecDepth 100000 in
theorem rahead_bad {pi pa pb qi qa qb n d e : Int} (w : Pure Try.prog 52 #[pointV pi pa pb, pointV qi qa qb, ratioV n d] (.int .i64 e)) (z : (e != 0) = true) :
    Pure Try.prog 48 #[pointV pi pa pb, pointV qi qa qb, ratioV n d] (.tuple #[.bool false, .int .i64 e]) :=
  pure_run (args := [pointV pi pa pb, pointV qi qa qb, ratioV n d]) 200 [.r (.int .i64 e), .t true]
    (And.intro rfl (And.intro w (And.intro z True.intro))) (by kernel_rfl)

set_option maxRecDepth 100000 in
theorem rahead_t {pi pa pb qi qa qb n d : Int} (w : Pure Try.prog 52 #[pointV pi pa pb, pointV qi qa qb, ratioV n d] (.int .i64 0)) (l : Pure Try.prog 80 #[pointV pi pa pb, pointV qi qa qb, ratioV n d] (.bool true)) :
    Pure Try.prog 48 #[pointV pi pa pb, pointV qi qa qb, ratioV n d] (.tuple #[.bool true, .int .i64 0]) :=
  pure_run (args := [pointV pi pa pb, pointV qi qa qb, ratioV n d]) 200 [.r (.int .i64 0), .k, .r (.bool true)]
    (And.intro rfl (And.intro w (And.intro l True.intro))) (by kernel_rfl)

set_option maxRecDepth 100000 in
theorem rahead_f {pi pa pb qi qa qb n d : Int} (w : Pure Try.prog 52 #[pointV pi pa pb, pointV qi qa qb, ratioV n d] (.int .i64 0)) (l : Pure Try.prog 80 #[pointV pi pa pb, pointV qi qa qb, ratioV n d] (.bool false)) :
    Pure Try.prog 48 #[pointV pi pa pb, pointV qi qa qb, ratioV n d] (.tuple #[.bool false, .int .i64 0]) :=
  pure_run (args := [pointV pi pa pb, pointV qi qa qb, ratioV n d]) 200 [.r (.int .i64 0), .k, .r (.bool false)]
    (And.intro rfl (And.intro w (And.intro l True.intro))) (by kernel_rfl)

set_option maxRecDepth 100000 in
theorem rmeet_bad {pi pa pb qi qa qb e : Int} (w : Pure Try.prog 52 #[pointV pi pa pb, pointV qi qa qb, ratioV 0 1] (.int .i64 e)) (z : (e != 0) = true) :
    Pure Try.prog 49 #[pointV pi pa pb, pointV qi qa qb] (.tuple #[ratioV 0 0, .int .i64 e]) :=
  pure_run (args := [pointV pi pa pb, pointV qi qa qb]) 200 [.r (.int .i64 e), .t true]
    (And.intro rfl (And.intro w (And.intro z True.intro))) (by kernel_rfl)

set_option maxRecDepth 100000 in
theorem rmeet_same {pi pa pb qi qa qb : Int} (w : Pure Try.prog 52 #[pointV pi pa pb, pointV qi qa qb, ratioV 0 1] (.int .i64 0)) (bb : (pb == qb) = true) :
    Pure Try.prog 49 #[pointV pi pa pb, pointV qi qa qb] (.tuple #[ratioV 0 0, .int .i64 6]) :=
  pure_run (args := [pointV pi pa pb, pointV qi qa qb]) 200 [.r (.int .i64 0), .k, .t true]
    (And.intro rfl (And.intro w (And.intro bb True.intro))) (by kernel_rfl)

set_option maxRecDepth 100000 in
theorem rmeet_diff {pi pa pb qi qa qb m k : Int} (w : Pure Try.prog 52 #[pointV pi pa pb, pointV qi qa qb, ratioV 0 1] (.int .i64 0)) (bb : (pb == qb) = false) (m1 : Pure Try.prog 81 #[pointV pi pa pb, pointV qi qa qb] (ratioV m k)) :
    Pure Try.prog 49 #[pointV pi pa pb, pointV qi qa qb] (.tuple #[ratioV m k, .int .i64 0]) :=
  pure_run (args := [pointV pi pa pb, pointV qi qa qb]) 200 [.r (.int .i64 0), .k, .t false, .r (ratioV m k)]
    (And.intro rfl (And.intro w (And.intro bb (And.intro m1 True.intro)))) (by kernel_rfl)

set_option maxRecDepth 100000 in
theorem failure_now {pi pa pb qi qa qb n d : Int} (l : Pure Try.prog 80 #[pointV qi qa qb, pointV pi pa pb, ratioV n d] (.bool true)) :
    Pure Try.prog 82 #[pointV pi pa pb, pointV qi qa qb, ratioV n d] (.tuple #[ratioV n d, .bool true]) :=
  pure_run (args := [pointV pi pa pb, pointV qi qa qb, ratioV n d]) 200 [.r (.bool true)]
    (And.intro rfl (And.intro l True.intro)) (by kernel_rfl)

set_option maxRecDepth 100000 in
theorem failure_met {pi pa pb qi qa qb n d m k : Int} (l : Pure Try.prog 80 #[pointV qi qa qb, pointV pi pa pb, ratioV n d] (.bool false)) (g : decide (qb > pb) = true) (m1 : Pure Try.prog 81 #[pointV pi pa pb, pointV qi qa qb] (ratioV m k)) :
    Pure Try.prog 82 #[pointV pi pa pb, pointV qi qa qb, ratioV n d] (.tuple #[ratioV m k, .bool true]) :=
  pure_run (args := [pointV pi pa pb, pointV qi qa qb, ratioV n d]) 200 [.r (.bool false), .t true, .r (ratioV m k)]
    (And.intro rfl (And.intro l (And.intro g (And.intro m1 True.intro)))) (by kernel_rfl)

set_option maxRecDepth 100000 in
theorem failure_no {pi pa pb qi qa qb n d : Int} (l : Pure Try.prog 80 #[pointV qi qa qb, pointV pi pa pb, ratioV n d] (.bool false)) (g : decide (qb > pb) = false) :
    Pure Try.prog 82 #[pointV pi pa pb, pointV qi qa qb, ratioV n d] (.tuple #[ratioV 0 0, .bool false]) :=
  pure_run (args := [pointV pi pa pb, pointV qi qa qb, ratioV n d]) 200 [.r (.bool false), .t false]
    (And.intro rfl (And.intro l (And.intro g True.intro))) (by kernel_rfl)

set_option maxRecDepth 100000 in
theorem rfails_bad {pi pa pb qi qa qb n d e : Int} (w : Pure Try.prog 52 #[pointV pi pa pb, pointV qi qa qb, ratioV n d] (.int .i64 e)) (z : (e != 0) = true) :
    Pure Try.prog 50 #[pointV pi pa pb, pointV qi qa qb, ratioV n d] (.tuple #[ratioV 0 0, .bool false, .int .i64 e]) :=
  pure_run (args := [pointV pi pa pb, pointV qi qa qb, ratioV n d]) 200 [.r (.int .i64 e), .t true]
    (And.intro rfl (And.intro w (And.intro z True.intro))) (by kernel_rfl)

set_option maxRecDepth 100000 in
theorem rfails_ok {pi pa pb qi qa qb n d m k : Int} {s : Bool} (w : Pure Try.prog 52 #[pointV pi pa pb, pointV qi qa qb, ratioV n d] (.int .i64 0)) (f : Pure Try.prog 82 #[pointV pi pa pb, pointV qi qa qb, ratioV n d] (.tuple #[ratioV m k, .bool s])) :
    Pure Try.prog 50 #[pointV pi pa pb, pointV qi qa qb, ratioV n d] (.tuple #[ratioV m k, .bool s, .int .i64 0]) :=
  pure_run (args := [pointV pi pa pb, pointV qi qa qb, ratioV n d]) 200 [.r (.int .i64 0), .k, .r (.tuple #[ratioV m k, .bool s])]
    (And.intro rfl (And.intro w (And.intro f True.intro))) (by kernel_rfl)

set_option maxRecDepth 100000 in
theorem ahead_e0 {pi pa pb qi qa qb n d e1 e2 e3 : Int} (cp : Pure Try.prog 44 #[pointV pi pa pb] (.int .i64 8)) (cq : Pure Try.prog 44 #[pointV qi qa qb] (.int .i64 e1)) (ct : Pure Try.prog 21 #[ratioV n d] (.int .i64 e2)) (ci : Pure Try.prog 74 #[pointV pi pa pb, pointV qi qa qb] (.int .i64 e3)) :
    Pure Try.prog 40 #[pointV pi pa pb, pointV qi qa qb, ratioV n d] (.tuple #[.bool false, .int .i64 8]) :=
  pure_run (args := [pointV pi pa pb, pointV qi qa qb, ratioV n d]) 200 [.r (.int .i64 8), .r (.int .i64 e1), .r (.int .i64 e2), .r (.int .i64 e3), .k, .k, .k, .k]
    (And.intro rfl (And.intro cp (And.intro cq (And.intro ct (And.intro ci True.intro))))) (by kernel_rfl)

set_option maxRecDepth 100000 in
theorem fails_e0 {pi pa pb qi qa qb n d e1 e2 e3 : Int} (cp : Pure Try.prog 44 #[pointV pi pa pb] (.int .i64 8)) (cq : Pure Try.prog 44 #[pointV qi qa qb] (.int .i64 e1)) (ct : Pure Try.prog 21 #[ratioV n d] (.int .i64 e2)) (ci : Pure Try.prog 74 #[pointV pi pa pb, pointV qi qa qb] (.int .i64 e3)) :
    Pure Try.prog 42 #[pointV pi pa pb, pointV qi qa qb, ratioV n d] (.tuple #[ratioV 0 0, .bool false, .int .i64 8]) :=
  pure_run (args := [pointV pi pa pb, pointV qi qa qb, ratioV n d]) 200 [.r (.int .i64 8), .r (.int .i64 e1), .r (.int .i64 e2), .r (.int .i64 e3), .k, .k, .k, .k]
    (And.intro rfl (And.intro cp (And.intro cq (And.intro ct (And.intro ci True.intro))))) (by kernel_rfl)

set_option maxRecDepth 100000 in
theorem ahead_e1 {pi pa pb qi qa qb n d e2 e3 : Int} (cp : Pure Try.prog 44 #[pointV pi pa pb] (.int .i64 0)) (cq : Pure Try.prog 44 #[pointV qi qa qb] (.int .i64 8)) (ct : Pure Try.prog 21 #[ratioV n d] (.int .i64 e2)) (ci : Pure Try.prog 74 #[pointV pi pa pb, pointV qi qa qb] (.int .i64 e3)) :
    Pure Try.prog 40 #[pointV pi pa pb, pointV qi qa qb, ratioV n d] (.tuple #[.bool false, .int .i64 8]) :=
  pure_run (args := [pointV pi pa pb, pointV qi qa qb, ratioV n d]) 200 [.r (.int .i64 0), .r (.int .i64 8), .r (.int .i64 e2), .r (.int .i64 e3), .k, .k, .k, .k, .k, .k, .k]
    (And.intro rfl (And.intro cp (And.intro cq (And.intro ct (And.intro ci True.intro))))) (by kernel_rfl)

set_option maxRecDepth 100000 in
theorem fails_e1 {pi pa pb qi qa qb n d e2 e3 : Int} (cp : Pure Try.prog 44 #[pointV pi pa pb] (.int .i64 0)) (cq : Pure Try.prog 44 #[pointV qi qa qb] (.int .i64 8)) (ct : Pure Try.prog 21 #[ratioV n d] (.int .i64 e2)) (ci : Pure Try.prog 74 #[pointV pi pa pb, pointV qi qa qb] (.int .i64 e3)) :
    Pure Try.prog 42 #[pointV pi pa pb, pointV qi qa qb, ratioV n d] (.tuple #[ratioV 0 0, .bool false, .int .i64 8]) :=
  pure_run (args := [pointV pi pa pb, pointV qi qa qb, ratioV n d]) 200 [.r (.int .i64 0), .r (.int .i64 8), .r (.int .i64 e2), .r (.int .i64 e3), .k, .k, .k, .k, .k, .k, .k]
    (And.intro rfl (And.intro cp (And.intro cq (And.intro ct (And.intro ci True.intro))))) (by kernel_rfl)

set_option maxRecDepth 100000 in
theorem ahead_e2 {pi pa pb qi qa qb n d e3 : Int} (cp : Pure Try.prog 44 #[pointV pi pa pb] (.int .i64 0)) (cq : Pure Try.prog 44 #[pointV qi qa qb] (.int .i64 0)) (ct : Pure Try.prog 21 #[ratioV n d] (.int .i64 8)) (ci : Pure Try.prog 74 #[pointV pi pa pb, pointV qi qa qb] (.int .i64 e3)) :
    Pure Try.prog 40 #[pointV pi pa pb, pointV qi qa qb, ratioV n d] (.tuple #[.bool false, .int .i64 8]) :=
  pure_run (args := [pointV pi pa pb, pointV qi qa qb, ratioV n d]) 200 [.r (.int .i64 0), .r (.int .i64 0), .r (.int .i64 8), .r (.int .i64 e3), .k, .k, .k, .k, .k, .k, .k, .k, .k, .k]
    (And.intro rfl (And.intro cp (And.intro cq (And.intro ct (And.intro ci True.intro))))) (by kernel_rfl)

set_option maxRecDepth 100000 in
theorem fails_e2 {pi pa pb qi qa qb n d e3 : Int} (cp : Pure Try.prog 44 #[pointV pi pa pb] (.int .i64 0)) (cq : Pure Try.prog 44 #[pointV qi qa qb] (.int .i64 0)) (ct : Pure Try.prog 21 #[ratioV n d] (.int .i64 8)) (ci : Pure Try.prog 74 #[pointV pi pa pb, pointV qi qa qb] (.int .i64 e3)) :
    Pure Try.prog 42 #[pointV pi pa pb, pointV qi qa qb, ratioV n d] (.tuple #[ratioV 0 0, .bool false, .int .i64 8]) :=
  pure_run (args := [pointV pi pa pb, pointV qi qa qb, ratioV n d]) 200 [.r (.int .i64 0), .r (.int .i64 0), .r (.int .i64 8), .r (.int .i64 e3), .k, .k, .k, .k, .k, .k, .k, .k, .k, .k]
    (And.intro rfl (And.intro cp (And.intro cq (And.intro ct (And.intro ci True.intro))))) (by kernel_rfl)

set_option maxRecDepth 100000 in
theorem ahead_e3 {pi pa pb qi qa qb n d : Int} (cp : Pure Try.prog 44 #[pointV pi pa pb] (.int .i64 0)) (cq : Pure Try.prog 44 #[pointV qi qa qb] (.int .i64 0)) (ct : Pure Try.prog 21 #[ratioV n d] (.int .i64 0)) (ci : Pure Try.prog 74 #[pointV pi pa pb, pointV qi qa qb] (.int .i64 2)) :
    Pure Try.prog 40 #[pointV pi pa pb, pointV qi qa qb, ratioV n d] (.tuple #[.bool false, .int .i64 2]) :=
  pure_run (args := [pointV pi pa pb, pointV qi qa qb, ratioV n d]) 200 [.r (.int .i64 0), .r (.int .i64 0), .r (.int .i64 0), .r (.int .i64 2), .k, .k, .k, .k, .k, .k, .k, .k, .k, .k, .k, .k, .k]
    (And.intro rfl (And.intro cp (And.intro cq (And.intro ct (And.intro ci True.intro))))) (by kernel_rfl)

set_option maxRecDepth 100000 in
theorem fails_e3 {pi pa pb qi qa qb n d : Int} (cp : Pure Try.prog 44 #[pointV pi pa pb] (.int .i64 0)) (cq : Pure Try.prog 44 #[pointV qi qa qb] (.int .i64 0)) (ct : Pure Try.prog 21 #[ratioV n d] (.int .i64 0)) (ci : Pure Try.prog 74 #[pointV pi pa pb, pointV qi qa qb] (.int .i64 2)) :
    Pure Try.prog 42 #[pointV pi pa pb, pointV qi qa qb, ratioV n d] (.tuple #[ratioV 0 0, .bool false, .int .i64 2]) :=
  pure_run (args := [pointV pi pa pb, pointV qi qa qb, ratioV n d]) 200 [.r (.int .i64 0), .r (.int .i64 0), .r (.int .i64 0), .r (.int .i64 2), .k, .k, .k, .k, .k, .k, .k, .k, .k, .k, .k, .k, .k]
    (And.intro rfl (And.intro cp (And.intro cq (And.intro ct (And.intro ci True.intro))))) (by kernel_rfl)

set_option maxRecDepth 100000 in
theorem meet_e0 {pi pa pb qi qa qb e1 e2 : Int} (cp : Pure Try.prog 44 #[pointV pi pa pb] (.int .i64 8)) (cq : Pure Try.prog 44 #[pointV qi qa qb] (.int .i64 e1)) (ci : Pure Try.prog 74 #[pointV pi pa pb, pointV qi qa qb] (.int .i64 e2)) :
    Pure Try.prog 41 #[pointV pi pa pb, pointV qi qa qb] (.tuple #[ratioV 0 0, .int .i64 8]) :=
  pure_run (args := [pointV pi pa pb, pointV qi qa qb]) 200 [.r (.int .i64 8), .r (.int .i64 e1), .r (.int .i64 e2), .k, .k, .k, .k]
    (And.intro rfl (And.intro cp (And.intro cq (And.intro ci True.intro)))) (by kernel_rfl)

set_option maxRecDepth 100000 in
theorem meet_e1 {pi pa pb qi qa qb e2 : Int} (cp : Pure Try.prog 44 #[pointV pi pa pb] (.int .i64 0)) (cq : Pure Try.prog 44 #[pointV qi qa qb] (.int .i64 8)) (ci : Pure Try.prog 74 #[pointV pi pa pb, pointV qi qa qb] (.int .i64 e2)) :
    Pure Try.prog 41 #[pointV pi pa pb, pointV qi qa qb] (.tuple #[ratioV 0 0, .int .i64 8]) :=
  pure_run (args := [pointV pi pa pb, pointV qi qa qb]) 200 [.r (.int .i64 0), .r (.int .i64 8), .r (.int .i64 e2), .k, .k, .k, .k, .k, .k, .k]
    (And.intro rfl (And.intro cp (And.intro cq (And.intro ci True.intro)))) (by kernel_rfl)

set_option maxRecDepth 100000 in
theorem meet_e2 {pi pa pb qi qa qb : Int} (cp : Pure Try.prog 44 #[pointV pi pa pb] (.int .i64 0)) (cq : Pure Try.prog 44 #[pointV qi qa qb] (.int .i64 0)) (ci : Pure Try.prog 74 #[pointV pi pa pb, pointV qi qa qb] (.int .i64 2)) :
    Pure Try.prog 41 #[pointV pi pa pb, pointV qi qa qb] (.tuple #[ratioV 0 0, .int .i64 2]) :=
  pure_run (args := [pointV pi pa pb, pointV qi qa qb]) 200 [.r (.int .i64 0), .r (.int .i64 0), .r (.int .i64 2), .k, .k, .k, .k, .k, .k, .k, .k, .k, .k]
    (And.intro rfl (And.intro cp (And.intro cq (And.intro ci True.intro)))) (by kernel_rfl)

set_option maxRecDepth 100000 in
theorem fails_wt {pi pa pb qi qa qb n d : Int} (cp : Pure Try.prog 44 #[pointV pi pa pb] (.int .i64 0)) (cq : Pure Try.prog 44 #[pointV qi qa qb] (.int .i64 0)) (ct : Pure Try.prog 21 #[ratioV n d] (.int .i64 0)) (ci : Pure Try.prog 74 #[pointV pi pa pb, pointV qi qa qb] (.int .i64 0)) (w : (qa == pa && (qb == pb && true)) = true) (r : decide (qi < pi) = true) :
    Pure Try.prog 42 #[pointV pi pa pb, pointV qi qa qb, ratioV n d] (.tuple #[ratioV n d, .bool true, .int .i64 0]) :=
  pure_run (args := [pointV pi pa pb, pointV qi qa qb, ratioV n d]) 400 [.r (.int .i64 0), .r (.int .i64 0), .r (.int .i64 0), .r (.int .i64 0), .k, .k, .k, .k, .k, .k, .k, .k, .k, .k, .k, .k, .k, .k, .k, .k, .k, .k, .t true, .k, .t true]
    (And.intro rfl (And.intro cp (And.intro cq (And.intro ct (And.intro ci (And.intro w (And.intro r True.intro))))))) (by kernel_rfl)

set_option maxRecDepth 100000 in
theorem fails_wf {pi pa pb qi qa qb n d : Int} (cp : Pure Try.prog 44 #[pointV pi pa pb] (.int .i64 0)) (cq : Pure Try.prog 44 #[pointV qi qa qb] (.int .i64 0)) (ct : Pure Try.prog 21 #[ratioV n d] (.int .i64 0)) (ci : Pure Try.prog 74 #[pointV pi pa pb, pointV qi qa qb] (.int .i64 0)) (w : (qa == pa && (qb == pb && true)) = true) (r : decide (qi < pi) = false) (gb : decide (qb > pb) = false) :
    Pure Try.prog 42 #[pointV pi pa pb, pointV qi qa qb, ratioV n d] (.tuple #[ratioV 0 0, .bool false, .int .i64 0]) :=
  pure_run (args := [pointV pi pa pb, pointV qi qa qb, ratioV n d]) 400 [.r (.int .i64 0), .r (.int .i64 0), .r (.int .i64 0), .r (.int .i64 0), .k, .k, .k, .k, .k, .k, .k, .k, .k, .k, .k, .k, .k, .k, .k, .k, .k, .k, .t true, .k, .t false, .t false]
    (And.intro rfl (And.intro cp (And.intro cq (And.intro ct (And.intro ci (And.intro w (And.intro r (And.intro gb True.intro)))))))) (by kernel_rfl)

set_option maxRecDepth 100000 in
theorem fails_bt {pi pa pb qi qa qb n d : Int} (cp : Pure Try.prog 44 #[pointV pi pa pb] (.int .i64 0)) (cq : Pure Try.prog 44 #[pointV qi qa qb] (.int .i64 0)) (ct : Pure Try.prog 21 #[ratioV n d] (.int .i64 0)) (ci : Pure Try.prog 74 #[pointV pi pa pb, pointV qi qa qb] (.int .i64 0)) (w : (qa == pa && (qb == pb && true)) = false) (bb : (qb == pb) = true) (r : decide (qa > pa) = true) :
    Pure Try.prog 42 #[pointV pi pa pb, pointV qi qa qb, ratioV n d] (.tuple #[ratioV n d, .bool true, .int .i64 0]) :=
  pure_run (args := [pointV pi pa pb, pointV qi qa qb, ratioV n d]) 400 [.r (.int .i64 0), .r (.int .i64 0), .r (.int .i64 0), .r (.int .i64 0), .k, .k, .k, .k, .k, .k, .k, .k, .k, .k, .k, .k, .k, .k, .k, .k, .k, .k, .t false, .t true, .k, .t true]
    (And.intro rfl (And.intro cp (And.intro cq (And.intro ct (And.intro ci (And.intro w (And.intro bb (And.intro r True.intro)))))))) (by kernel_rfl)

set_option maxRecDepth 100000 in
theorem fails_bf {pi pa pb qi qa qb n d : Int} (cp : Pure Try.prog 44 #[pointV pi pa pb] (.int .i64 0)) (cq : Pure Try.prog 44 #[pointV qi qa qb] (.int .i64 0)) (ct : Pure Try.prog 21 #[ratioV n d] (.int .i64 0)) (ci : Pure Try.prog 74 #[pointV pi pa pb, pointV qi qa qb] (.int .i64 0)) (w : (qa == pa && (qb == pb && true)) = false) (bb : (qb == pb) = true) (r : decide (qa > pa) = false) (gb : decide (qb > pb) = false) :
    Pure Try.prog 42 #[pointV pi pa pb, pointV qi qa qb, ratioV n d] (.tuple #[ratioV 0 0, .bool false, .int .i64 0]) :=
  pure_run (args := [pointV pi pa pb, pointV qi qa qb, ratioV n d]) 400 [.r (.int .i64 0), .r (.int .i64 0), .r (.int .i64 0), .r (.int .i64 0), .k, .k, .k, .k, .k, .k, .k, .k, .k, .k, .k, .k, .k, .k, .k, .k, .k, .k, .t false, .t true, .k, .t false, .t false]
    (And.intro rfl (And.intro cp (And.intro cq (And.intro ct (And.intro ci (And.intro w (And.intro bb (And.intro r (And.intro gb True.intro))))))))) (by kernel_rfl)

set_option maxRecDepth 100000 in
theorem fails_mtt {pi pa pb qi qa qb n d mn md c : Int} (cp : Pure Try.prog 44 #[pointV pi pa pb] (.int .i64 0)) (cq : Pure Try.prog 44 #[pointV qi qa qb] (.int .i64 0)) (ct : Pure Try.prog 21 #[ratioV n d] (.int .i64 0)) (ci : Pure Try.prog 74 #[pointV pi pa pb, pointV qi qa qb] (.int .i64 0)) (w : (qa == pa && (qb == pb && true)) = false) (bb : (qb == pb) = false) (cm : Pure Try.prog 76 #[pointV qi qa qb, pointV pi pa pb] (ratioV mn md)) (cc : Pure Try.prog 16 #[ratioV n d, ratioV mn md] (.tuple #[.int .i64 c, .int .i64 0])) (g1 : decide (c ≥ 0) = true) (gb : decide (qb > pb) = true) :
    Pure Try.prog 42 #[pointV pi pa pb, pointV qi qa qb, ratioV n d] (.tuple #[ratioV n d, .bool true, .int .i64 0]) :=
  pure_run (args := [pointV pi pa pb, pointV qi qa qb, ratioV n d]) 400 [.r (.int .i64 0), .r (.int .i64 0), .r (.int .i64 0), .r (.int .i64 0), .k, .k, .k, .k, .k, .k, .k, .k, .k, .k, .k, .k, .k, .k, .k, .k, .k, .k, .t false, .t false, .r (ratioV mn md), .k, .r (.tuple #[.int .i64 c, .int .i64 0]), .t true, .t true, .k]
    (And.intro rfl (And.intro cp (And.intro cq (And.intro ct (And.intro ci (And.intro w (And.intro bb (And.intro cm (And.intro cc (And.intro g1 (And.intro gb True.intro))))))))))) (by kernel_rfl)

set_option maxRecDepth 100000 in
theorem fails_mtf {pi pa pb qi qa qb n d mn md c : Int} (cp : Pure Try.prog 44 #[pointV pi pa pb] (.int .i64 0)) (cq : Pure Try.prog 44 #[pointV qi qa qb] (.int .i64 0)) (ct : Pure Try.prog 21 #[ratioV n d] (.int .i64 0)) (ci : Pure Try.prog 74 #[pointV pi pa pb, pointV qi qa qb] (.int .i64 0)) (w : (qa == pa && (qb == pb && true)) = false) (bb : (qb == pb) = false) (cm : Pure Try.prog 76 #[pointV qi qa qb, pointV pi pa pb] (ratioV mn md)) (cc : Pure Try.prog 16 #[ratioV n d, ratioV mn md] (.tuple #[.int .i64 c, .int .i64 0])) (g1 : decide (c ≥ 0) = true) (gb : decide (qb > pb) = false) :
    Pure Try.prog 42 #[pointV pi pa pb, pointV qi qa qb, ratioV n d] (.tuple #[ratioV 0 0, .bool false, .int .i64 0]) :=
  pure_run (args := [pointV pi pa pb, pointV qi qa qb, ratioV n d]) 400 [.r (.int .i64 0), .r (.int .i64 0), .r (.int .i64 0), .r (.int .i64 0), .k, .k, .k, .k, .k, .k, .k, .k, .k, .k, .k, .k, .k, .k, .k, .k, .k, .k, .t false, .t false, .r (ratioV mn md), .k, .r (.tuple #[.int .i64 c, .int .i64 0]), .t true, .t false, .k, .t false]
    (And.intro rfl (And.intro cp (And.intro cq (And.intro ct (And.intro ci (And.intro w (And.intro bb (And.intro cm (And.intro cc (And.intro g1 (And.intro gb (And.intro gb True.intro)))))))))))) (by kernel_rfl)

set_option maxRecDepth 100000 in
theorem fails_mft {pi pa pb qi qa qb n d mn md c m k : Int} (cp : Pure Try.prog 44 #[pointV pi pa pb] (.int .i64 0)) (cq : Pure Try.prog 44 #[pointV qi qa qb] (.int .i64 0)) (ct : Pure Try.prog 21 #[ratioV n d] (.int .i64 0)) (ci : Pure Try.prog 74 #[pointV pi pa pb, pointV qi qa qb] (.int .i64 0)) (w : (qa == pa && (qb == pb && true)) = false) (bb : (qb == pb) = false) (cm : Pure Try.prog 76 #[pointV qi qa qb, pointV pi pa pb] (ratioV mn md)) (cc : Pure Try.prog 16 #[ratioV n d, ratioV mn md] (.tuple #[.int .i64 c, .int .i64 0])) (g1 : decide (c ≥ 0) = false) (gb : decide (qb > pb) = true) (mt : Pure Try.prog 76 #[pointV pi pa pb, pointV qi qa qb] (ratioV m k)) :
    Pure Try.prog 42 #[pointV pi pa pb, pointV qi qa qb, ratioV n d] (.tuple #[ratioV m k, .bool true, .int .i64 0]) :=
  pure_run (args := [pointV pi pa pb, pointV qi qa qb, ratioV n d]) 400 [.r (.int .i64 0), .r (.int .i64 0), .r (.int .i64 0), .r (.int .i64 0), .k, .k, .k, .k, .k, .k, .k, .k, .k, .k, .k, .k, .k, .k, .k, .k, .k, .k, .t false, .t false, .r (ratioV mn md), .k, .r (.tuple #[.int .i64 c, .int .i64 0]), .t false, .t true, .k, .t true, .r (ratioV m k)]
    (And.intro rfl (And.intro cp (And.intro cq (And.intro ct (And.intro ci (And.intro w (And.intro bb (And.intro cm (And.intro cc (And.intro g1 (And.intro gb (And.intro gb (And.intro mt True.intro))))))))))))) (by kernel_rfl)

set_option maxRecDepth 100000 in
theorem fails_mff {pi pa pb qi qa qb n d mn md c : Int} (cp : Pure Try.prog 44 #[pointV pi pa pb] (.int .i64 0)) (cq : Pure Try.prog 44 #[pointV qi qa qb] (.int .i64 0)) (ct : Pure Try.prog 21 #[ratioV n d] (.int .i64 0)) (ci : Pure Try.prog 74 #[pointV pi pa pb, pointV qi qa qb] (.int .i64 0)) (w : (qa == pa && (qb == pb && true)) = false) (bb : (qb == pb) = false) (cm : Pure Try.prog 76 #[pointV qi qa qb, pointV pi pa pb] (ratioV mn md)) (cc : Pure Try.prog 16 #[ratioV n d, ratioV mn md] (.tuple #[.int .i64 c, .int .i64 0])) (g1 : decide (c ≥ 0) = false) (gb : decide (qb > pb) = false) :
    Pure Try.prog 42 #[pointV pi pa pb, pointV qi qa qb, ratioV n d] (.tuple #[ratioV n d, .bool true, .int .i64 0]) :=
  pure_run (args := [pointV pi pa pb, pointV qi qa qb, ratioV n d]) 400 [.r (.int .i64 0), .r (.int .i64 0), .r (.int .i64 0), .r (.int .i64 0), .k, .k, .k, .k, .k, .k, .k, .k, .k, .k, .k, .k, .k, .k, .k, .k, .k, .k, .t false, .t false, .r (ratioV mn md), .k, .r (.tuple #[.int .i64 c, .int .i64 0]), .t false, .t false, .k]
    (And.intro rfl (And.intro cp (And.intro cq (And.intro ct (And.intro ci (And.intro w (And.intro bb (And.intro cm (And.intro cc (And.intro g1 (And.intro gb True.intro))))))))))) (by kernel_rfl)

set_option maxRecDepth 100000 in
theorem meets_tt {pi pa pb qi qa qb n d e1 m1 k1 e2 m2 k2 e3 : Int} (a1 : Pure Try.prog 40 #[pointV pi pa pb, pointV qi qa qb, ratioV n d] (.tuple #[.bool true, .int .i64 e1])) (a2 : Pure Try.prog 48 #[pointV pi pa pb, pointV qi qa qb, ratioV n d] (.tuple #[.bool true, .int .i64 e1])) (b1 : Pure Try.prog 41 #[pointV pi pa pb, pointV qi qa qb] (.tuple #[ratioV m1 k1, .int .i64 e2])) (b2 : Pure Try.prog 49 #[pointV pi pa pb, pointV qi qa qb] (.tuple #[ratioV m1 k1, .int .i64 e2])) (f1 : Pure Try.prog 42 #[pointV pi pa pb, pointV qi qa qb, ratioV n d] (.tuple #[ratioV m2 k2, .bool true, .int .i64 e3])) (f2 : Pure Try.prog 50 #[pointV pi pa pb, pointV qi qa qb, ratioV n d] (.tuple #[ratioV m2 k2, .bool true, .int .i64 e3])) (t1 : (e1 == e1) = true) (t2 : (m1 == m1 && (k1 == k1 && true)) = true) (t3 : (e2 == e2) = true) (t4 : (m2 == m2 && (k2 == k2 && true)) = true) (t5 : (e3 == e3) = true) :
    Pure Try.prog 12 #[pointV pi pa pb, pointV qi qa qb, ratioV n d] (.bool true) :=
  pure_run (args := [pointV pi pa pb, pointV qi qa qb, ratioV n d]) 400 [.r (.tuple #[.bool true, .int .i64 e1]), .r (.tuple #[.bool true, .int .i64 e1]), .r (.tuple #[ratioV m1 k1, .int .i64 e2]), .r (.tuple #[ratioV m1 k1, .int .i64 e2]), .r (.tuple #[ratioV m2 k2, .bool true, .int .i64 e3]), .r (.tuple #[ratioV m2 k2, .bool true, .int .i64 e3]), .k, .t true, .t true, .t true, .t true, .k, .t true]
    (And.intro rfl (And.intro a1 (And.intro a2 (And.intro b1 (And.intro b2 (And.intro f1 (And.intro f2 (And.intro t1 (And.intro t2 (And.intro t3 (And.intro t4 (And.intro t5 True.intro)))))))))))) (by kernel_rfl)

set_option maxRecDepth 100000 in
theorem meets_tf {pi pa pb qi qa qb n d e1 m1 k1 e2 m2 k2 e3 : Int} (a1 : Pure Try.prog 40 #[pointV pi pa pb, pointV qi qa qb, ratioV n d] (.tuple #[.bool true, .int .i64 e1])) (a2 : Pure Try.prog 48 #[pointV pi pa pb, pointV qi qa qb, ratioV n d] (.tuple #[.bool true, .int .i64 e1])) (b1 : Pure Try.prog 41 #[pointV pi pa pb, pointV qi qa qb] (.tuple #[ratioV m1 k1, .int .i64 e2])) (b2 : Pure Try.prog 49 #[pointV pi pa pb, pointV qi qa qb] (.tuple #[ratioV m1 k1, .int .i64 e2])) (f1 : Pure Try.prog 42 #[pointV pi pa pb, pointV qi qa qb, ratioV n d] (.tuple #[ratioV m2 k2, .bool false, .int .i64 e3])) (f2 : Pure Try.prog 50 #[pointV pi pa pb, pointV qi qa qb, ratioV n d] (.tuple #[ratioV m2 k2, .bool false, .int .i64 e3])) (t1 : (e1 == e1) = true) (t2 : (m1 == m1 && (k1 == k1 && true)) = true) (t3 : (e2 == e2) = true) (t4 : (m2 == m2 && (k2 == k2 && true)) = true) (t5 : (e3 == e3) = true) :
    Pure Try.prog 12 #[pointV pi pa pb, pointV qi qa qb, ratioV n d] (.bool true) :=
  pure_run (args := [pointV pi pa pb, pointV qi qa qb, ratioV n d]) 400 [.r (.tuple #[.bool true, .int .i64 e1]), .r (.tuple #[.bool true, .int .i64 e1]), .r (.tuple #[ratioV m1 k1, .int .i64 e2]), .r (.tuple #[ratioV m1 k1, .int .i64 e2]), .r (.tuple #[ratioV m2 k2, .bool false, .int .i64 e3]), .r (.tuple #[ratioV m2 k2, .bool false, .int .i64 e3]), .k, .t true, .t true, .t true, .t true, .k, .t true]
    (And.intro rfl (And.intro a1 (And.intro a2 (And.intro b1 (And.intro b2 (And.intro f1 (And.intro f2 (And.intro t1 (And.intro t2 (And.intro t3 (And.intro t4 (And.intro t5 True.intro)))))))))))) (by kernel_rfl)

set_option maxRecDepth 100000 in
theorem meets_ft {pi pa pb qi qa qb n d e1 m1 k1 e2 m2 k2 e3 : Int} (a1 : Pure Try.prog 40 #[pointV pi pa pb, pointV qi qa qb, ratioV n d] (.tuple #[.bool false, .int .i64 e1])) (a2 : Pure Try.prog 48 #[pointV pi pa pb, pointV qi qa qb, ratioV n d] (.tuple #[.bool false, .int .i64 e1])) (b1 : Pure Try.prog 41 #[pointV pi pa pb, pointV qi qa qb] (.tuple #[ratioV m1 k1, .int .i64 e2])) (b2 : Pure Try.prog 49 #[pointV pi pa pb, pointV qi qa qb] (.tuple #[ratioV m1 k1, .int .i64 e2])) (f1 : Pure Try.prog 42 #[pointV pi pa pb, pointV qi qa qb, ratioV n d] (.tuple #[ratioV m2 k2, .bool true, .int .i64 e3])) (f2 : Pure Try.prog 50 #[pointV pi pa pb, pointV qi qa qb, ratioV n d] (.tuple #[ratioV m2 k2, .bool true, .int .i64 e3])) (t1 : (e1 == e1) = true) (t2 : (m1 == m1 && (k1 == k1 && true)) = true) (t3 : (e2 == e2) = true) (t4 : (m2 == m2 && (k2 == k2 && true)) = true) (t5 : (e3 == e3) = true) :
    Pure Try.prog 12 #[pointV pi pa pb, pointV qi qa qb, ratioV n d] (.bool true) :=
  pure_run (args := [pointV pi pa pb, pointV qi qa qb, ratioV n d]) 400 [.r (.tuple #[.bool false, .int .i64 e1]), .r (.tuple #[.bool false, .int .i64 e1]), .r (.tuple #[ratioV m1 k1, .int .i64 e2]), .r (.tuple #[ratioV m1 k1, .int .i64 e2]), .r (.tuple #[ratioV m2 k2, .bool true, .int .i64 e3]), .r (.tuple #[ratioV m2 k2, .bool true, .int .i64 e3]), .k, .t true, .t true, .t true, .t true, .k, .t true]
    (And.intro rfl (And.intro a1 (And.intro a2 (And.intro b1 (And.intro b2 (And.intro f1 (And.intro f2 (And.intro t1 (And.intro t2 (And.intro t3 (And.intro t4 (And.intro t5 True.intro)))))))))))) (by kernel_rfl)

set_option maxRecDepth 100000 in
theorem meets_ff {pi pa pb qi qa qb n d e1 m1 k1 e2 m2 k2 e3 : Int} (a1 : Pure Try.prog 40 #[pointV pi pa pb, pointV qi qa qb, ratioV n d] (.tuple #[.bool false, .int .i64 e1])) (a2 : Pure Try.prog 48 #[pointV pi pa pb, pointV qi qa qb, ratioV n d] (.tuple #[.bool false, .int .i64 e1])) (b1 : Pure Try.prog 41 #[pointV pi pa pb, pointV qi qa qb] (.tuple #[ratioV m1 k1, .int .i64 e2])) (b2 : Pure Try.prog 49 #[pointV pi pa pb, pointV qi qa qb] (.tuple #[ratioV m1 k1, .int .i64 e2])) (f1 : Pure Try.prog 42 #[pointV pi pa pb, pointV qi qa qb, ratioV n d] (.tuple #[ratioV m2 k2, .bool false, .int .i64 e3])) (f2 : Pure Try.prog 50 #[pointV pi pa pb, pointV qi qa qb, ratioV n d] (.tuple #[ratioV m2 k2, .bool false, .int .i64 e3])) (t1 : (e1 == e1) = true) (t2 : (m1 == m1 && (k1 == k1 && true)) = true) (t3 : (e2 == e2) = true) (t4 : (m2 == m2 && (k2 == k2 && true)) = true) (t5 : (e3 == e3) = true) :
    Pure Try.prog 12 #[pointV pi pa pb, pointV qi qa qb, ratioV n d] (.bool true) :=
  pure_run (args := [pointV pi pa pb, pointV qi qa qb, ratioV n d]) 400 [.r (.tuple #[.bool false, .int .i64 e1]), .r (.tuple #[.bool false, .int .i64 e1]), .r (.tuple #[ratioV m1 k1, .int .i64 e2]), .r (.tuple #[ratioV m1 k1, .int .i64 e2]), .r (.tuple #[ratioV m2 k2, .bool false, .int .i64 e3]), .r (.tuple #[ratioV m2 k2, .bool false, .int .i64 e3]), .k, .t true, .t true, .t true, .t true, .k, .t true]
    (And.intro rfl (And.intro a1 (And.intro a2 (And.intro b1 (And.intro b2 (And.intro f1 (And.intro f2 (And.intro t1 (And.intro t2 (And.intro t3 (And.intro t4 (And.intro t5 True.intro)))))))))))) (by kernel_rfl)
end Go.Proofs.Ytjhkeinelbeekaa
