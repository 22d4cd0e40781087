/-
  CourseMeets, path by path.
-/
import Derived.Test.YtjnoheffodnobaaCp
import Derived.Test.YtjnoheffodnobaaRt
namespace Go.Proofs.Ytjnoheffodnobaa
open Go.RowKit
set_option maxRecDepth 100000 in
theorem far_path {pi pa pb qi qa qb n d u v x y s : Int} (v1 : Value.int .i64 (IntKind.i64.wrap (pa - qa)) = .int .i64 u) (c1 : Pure Try.prog 101 #[.int .i64 u, .int .i64 d] (bigI x)) (v2 : Value.int .i64 (IntKind.i64.wrap (pb - qb)) = .int .i64 v) (c2 : Pure Try.prog 101 #[.int .i64 v, .int .i64 n] (bigI y)) (c3 : Pure Try.prog 100 #[bigI x, bigI y] (bigI s)) (c4 : Pure Try.prog 99 #[bigI s] (.int .i64 s.sign)) :
    Pure Try.prog 87 #[pointV pi pa pb, pointV qi qa qb, ratioV n d] (.int .i64 s.sign) :=
  pure_run (args := [pointV pi pa pb, pointV qi qa qb, ratioV n d]) 200 [.r (.int .i64 u), .r (bigI x), .r (.int .i64 v), .r (bigI y), .r (bigI s), .r (.int .i64 s.sign)]
    (And.intro rfl (And.intro v1 (And.intro c1 (And.intro v2 (And.intro c2 (And.intro c3 (And.intro c4 True.intro))))))) (by kernel_rfl)

set_option maxRecDepth 100000 in
theorem leads_far_t {pi pa pb qi qa qb n d f : Int} (c : Pure Try.prog 87 #[pointV pi pa pb, pointV qi qa qb, ratioV n d] (.int .i64 f)) (z : (f != 0) = true) (g : decide (f > 0) = true) :
    Pure Try.prog 64 #[pointV pi pa pb, pointV qi qa qb, ratioV n d] (.bool true) :=
  pure_run (args := [pointV pi pa pb, pointV qi qa qb, ratioV n d]) 200 [.r (.int .i64 f), .t true, .t true]
    (And.intro rfl (And.intro c (And.intro z (And.intro g True.intro)))) (by kernel_rfl)

set_option maxRecDepth 100000 in
theorem leads_b_t {pi pa pb qi qa qb n d f : Int} (c : Pure Try.prog 87 #[pointV pi pa pb, pointV qi qa qb, ratioV n d] (.int .i64 f)) (z : (f != 0) = false) (bb : (pb != qb) = true) (g : decide (pb > qb) = true) :
    Pure Try.prog 64 #[pointV pi pa pb, pointV qi qa qb, ratioV n d] (.bool true) :=
  pure_run (args := [pointV pi pa pb, pointV qi qa qb, ratioV n d]) 200 [.r (.int .i64 f), .t false, .t true, .t true]
    (And.intro rfl (And.intro c (And.intro z (And.intro bb (And.intro g True.intro))))) (by kernel_rfl)

set_option maxRecDepth 100000 in
theorem leads_i_t {pi pa pb qi qa qb n d f : Int} (c : Pure Try.prog 87 #[pointV pi pa pb, pointV qi qa qb, ratioV n d] (.int .i64 f)) (z : (f != 0) = false) (bb : (pb != qb) = false) (g : decide (pi < qi) = true) :
    Pure Try.prog 64 #[pointV pi pa pb, pointV qi qa qb, ratioV n d] (.bool true) :=
  pure_run (args := [pointV pi pa pb, pointV qi qa qb, ratioV n d]) 200 [.r (.int .i64 f), .t false, .t false, .t true]
    (And.intro rfl (And.intro c (And.intro z (And.intro bb (And.intro g True.intro))))) (by kernel_rfl)

set_option maxRecDepth 100000 in
theorem leads_far_f {pi pa pb qi qa qb n d f : Int} (c : Pure Try.prog 87 #[pointV pi pa pb, pointV qi qa qb, ratioV n d] (.int .i64 f)) (z : (f != 0) = true) (g : decide (f > 0) = false) :
    Pure Try.prog 64 #[pointV pi pa pb, pointV qi qa qb, ratioV n d] (.bool false) :=
  pure_run (args := [pointV pi pa pb, pointV qi qa qb, ratioV n d]) 200 [.r (.int .i64 f), .t true, .t false]
    (And.intro rfl (And.intro c (And.intro z (And.intro g True.intro)))) (by kernel_rfl)

set_option maxRecDepth 100000 in
theorem leads_b_f {pi pa pb qi qa qb n d f : Int} (c : Pure Try.prog 87 #[pointV pi pa pb, pointV qi qa qb, ratioV n d] (.int .i64 f)) (z : (f != 0) = false) (bb : (pb != qb) = true) (g : decide (pb > qb) = false) :
    Pure Try.prog 64 #[pointV pi pa pb, pointV qi qa qb, ratioV n d] (.bool false) :=
  pure_run (args := [pointV pi pa pb, pointV qi qa qb, ratioV n d]) 200 [.r (.int .i64 f), .t false, .t true, .t false]
    (And.intro rfl (And.intro c (And.intro z (And.intro bb (And.intro g True.intro))))) (by kernel_rfl)

set_option maxRecDepth 100000 in
theorem leads_i_f {pi pa pb qi qa qb n d f : Int} (c : Pure Try.prog 87 #[pointV pi pa pb, pointV qi qa qb, ratioV n d] (.int .i64 f)) (z : (f != 0) = false) (bb : (pb != qb) = false) (g : decide (pi < qi) = false) :
    Pure Try.prog 64 #[pointV pi pa pb, pointV qi qa qb, ratioV n d] (.bool false) :=
  pure_run (args := [pointV pi pa pb, pointV qi qa qb, ratioV n d]) 200 [.r (.int .i64 f), .t false, .t false, .t false]
    (And.intro rfl (And.intro c (And.intro z (And.intro bb (And.intro g True.intro))))) (by kernel_rfl)

end Go.Proofs.Ytjnoheffodnobaa
