/-
  CourseChanges, path by path.
-/
import Derived.Test.YtjhkeinelbeekaaCp
namespace Go.Proofs.Ytjhkeinelbeekaa
open Go.RowKit

set_option maxRecDepth 100000 in
theorem meet_same {pi pa pb qi qa qb : Int} (cp : Pure Try.prog 44 #[pointV pi pa pb] (.int .i64 0)) (cq : Pure Try.prog 44 #[pointV qi qa qb] (.int .i64 0)) (ci : Pure Try.prog 74 #[pointV pi pa pb, pointV qi qa qb] (.int .i64 0)) (bb : (pb == qb) = true) :
    Pure Try.prog 41 #[pointV pi pa pb, pointV qi qa qb] (.tuple #[ratioV 0 0, .int .i64 6]) :=
  pure_run (args := [pointV pi pa pb, pointV qi qa qb]) 200 [.r (.int .i64 0), .r (.int .i64 0), .r (.int .i64 0), .k, .k, .k, .k, .k, .k, .k, .k, .k, .k, .k, .k, .t true]
    (And.intro rfl (And.intro cp (And.intro cq (And.intro ci (And.intro bb True.intro))))) (by kernel_rfl)

set_option maxRecDepth 100000 in
theorem meet_diff {pi pa pb qi qa qb m k : Int} (cp : Pure Try.prog 44 #[pointV pi pa pb] (.int .i64 0)) (cq : Pure Try.prog 44 #[pointV qi qa qb] (.int .i64 0)) (ci : Pure Try.prog 74 #[pointV pi pa pb, pointV qi qa qb] (.int .i64 0)) (bb : (pb == qb) = false) (cm : Pure Try.prog 76 #[pointV pi pa pb, pointV qi qa qb] (ratioV m k)) :
    Pure Try.prog 41 #[pointV pi pa pb, pointV qi qa qb] (.tuple #[ratioV m k, .int .i64 0]) :=
  pure_run (args := [pointV pi pa pb, pointV qi qa qb]) 200 [.r (.int .i64 0), .r (.int .i64 0), .r (.int .i64 0), .k, .k, .k, .k, .k, .k, .k, .k, .k, .k, .k, .k, .t false, .r (ratioV m k)]
    (And.intro rfl (And.intro cp (And.intro cq (And.intro ci (And.intro bb (And.intro cm True.intro)))))) (by kernel_rfl)

set_option maxRecDepth 100000 in
theorem at_path {x : Int}  :
    Pure Try.prog 43 #[.int .i64 x] (ratioV x 1) :=
  pure_run (args := [.int .i64 x]) 200 []
    (And.intro rfl True.intro) (by kernel_rfl)

set_option maxRecDepth 100000 in
theorem chg_no {pi pa pb qi qa qb n d e : Int} (w : Pure Try.prog 52 #[pointV pi pa pb, pointV qi qa qb, ratioV n d] (.int .i64 e)) (z : (e != 0) = true) (al : Pure Try.prog 45 #[] (.bool true)) :
    Pure Try.prog 14 #[pointV pi pa pb, pointV qi qa qb, ratioV n d] (.bool true) :=
  pure_run (args := [pointV pi pa pb, pointV qi qa qb, ratioV n d]) 200 [.r (.int .i64 e), .t true, .r (.bool true)]
    (And.intro rfl (And.intro w (And.intro z (And.intro al True.intro)))) (by kernel_rfl)

set_option maxRecDepth 100000 in
theorem chg_same_t {pi pa pb qi qa qb n d : Int} (w : Pure Try.prog 52 #[pointV pi pa pb, pointV qi qa qb, ratioV n d] (.int .i64 0)) (a1 : Pure Try.prog 40 #[pointV pi pa pb, pointV qi qa qb, ratioV n d] (.tuple #[.bool true, .int .i64 0])) (m1 : Pure Try.prog 41 #[pointV pi pa pb, pointV qi qa qb] (.tuple #[ratioV 0 0, .int .i64 6])) (m2 : Pure Try.prog 41 #[pointV qi qa qb, pointV pi pa pb] (.tuple #[ratioV 0 0, .int .i64 6])) (bb : (pb == qb) = true) (t0 : Pure Try.prog 43 #[.int .i64 0] (ratioV 0 1)) (a2 : Pure Try.prog 40 #[pointV pi pa pb, pointV qi qa qb, ratioV 0 1] (.tuple #[.bool true, .int .i64 0])) (al : Pure Try.prog 45 #[] (.bool true)) :
    Pure Try.prog 14 #[pointV pi pa pb, pointV qi qa qb, ratioV n d] (.bool true) :=
  pure_run (args := [pointV pi pa pb, pointV qi qa qb, ratioV n d]) 400 [.r (.int .i64 0), .k, .r (.tuple #[.bool true, .int .i64 0]), .r (.tuple #[ratioV 0 0, .int .i64 6]), .r (.tuple #[ratioV 0 0, .int .i64 6]), .k, .k, .k, .t true, .r (ratioV 0 1), .r (.tuple #[.bool true, .int .i64 0]), .k, .k, .k, .r (.bool true)]
    (And.intro rfl (And.intro w (And.intro a1 (And.intro m1 (And.intro m2 (And.intro bb (And.intro t0 (And.intro a2 (And.intro al True.intro))))))))) (by kernel_rfl)

set_option maxRecDepth 100000 in
theorem chg_same_f {pi pa pb qi qa qb n d : Int} (w : Pure Try.prog 52 #[pointV pi pa pb, pointV qi qa qb, ratioV n d] (.int .i64 0)) (a1 : Pure Try.prog 40 #[pointV pi pa pb, pointV qi qa qb, ratioV n d] (.tuple #[.bool false, .int .i64 0])) (m1 : Pure Try.prog 41 #[pointV pi pa pb, pointV qi qa qb] (.tuple #[ratioV 0 0, .int .i64 6])) (m2 : Pure Try.prog 41 #[pointV qi qa qb, pointV pi pa pb] (.tuple #[ratioV 0 0, .int .i64 6])) (bb : (pb == qb) = true) (t0 : Pure Try.prog 43 #[.int .i64 0] (ratioV 0 1)) (a2 : Pure Try.prog 40 #[pointV pi pa pb, pointV qi qa qb, ratioV 0 1] (.tuple #[.bool false, .int .i64 0])) (al : Pure Try.prog 45 #[] (.bool true)) :
    Pure Try.prog 14 #[pointV pi pa pb, pointV qi qa qb, ratioV n d] (.bool true) :=
  pure_run (args := [pointV pi pa pb, pointV qi qa qb, ratioV n d]) 400 [.r (.int .i64 0), .k, .r (.tuple #[.bool false, .int .i64 0]), .r (.tuple #[ratioV 0 0, .int .i64 6]), .r (.tuple #[ratioV 0 0, .int .i64 6]), .k, .k, .k, .t true, .r (ratioV 0 1), .r (.tuple #[.bool false, .int .i64 0]), .k, .k, .k, .r (.bool true)]
    (And.intro rfl (And.intro w (And.intro a1 (And.intro m1 (And.intro m2 (And.intro bb (And.intro t0 (And.intro a2 (And.intro al True.intro))))))))) (by kernel_rfl)

set_option maxRecDepth 100000 in
theorem chg_tt {pi pa pb qi qa qb n d m k c : Int} (w : Pure Try.prog 52 #[pointV pi pa pb, pointV qi qa qb, ratioV n d] (.int .i64 0)) (a1 : Pure Try.prog 40 #[pointV pi pa pb, pointV qi qa qb, ratioV n d] (.tuple #[.bool true, .int .i64 0])) (m1 : Pure Try.prog 41 #[pointV pi pa pb, pointV qi qa qb] (.tuple #[ratioV m k, .int .i64 0])) (m2 : Pure Try.prog 41 #[pointV qi qa qb, pointV pi pa pb] (.tuple #[ratioV m k, .int .i64 0])) (nn : (!(m == m && (k == k && true))) = false) (bb : (pb == qb) = false) (ck : Pure Try.prog 30 #[ratioV m k] (.int .i64 0)) (cc : Pure Try.prog 53 #[ratioV n d, ratioV m k] (.int .i64 c)) (tl : decide (c ≥ 0) = true) (tg : decide (pb > qb) = true) (al : Pure Try.prog 45 #[] (.bool true)) :
    Pure Try.prog 14 #[pointV pi pa pb, pointV qi qa qb, ratioV n d] (.bool true) :=
  pure_run (args := [pointV pi pa pb, pointV qi qa qb, ratioV n d]) 400 [.r (.int .i64 0), .k, .r (.tuple #[.bool true, .int .i64 0]), .r (.tuple #[ratioV m k, .int .i64 0]), .r (.tuple #[ratioV m k, .int .i64 0]), .k, .k, .t false, .t false, .k, .r (.int .i64 0), .k, .r (.int .i64 c), .t true, .t true, .k, .k, .r (.bool true)]
    (And.intro rfl (And.intro w (And.intro a1 (And.intro m1 (And.intro m2 (And.intro nn (And.intro bb (And.intro ck (And.intro cc (And.intro tl (And.intro tg (And.intro al True.intro)))))))))))) (by kernel_rfl)

set_option maxRecDepth 100000 in
theorem chg_tf {pi pa pb qi qa qb n d m k c : Int} (w : Pure Try.prog 52 #[pointV pi pa pb, pointV qi qa qb, ratioV n d] (.int .i64 0)) (a1 : Pure Try.prog 40 #[pointV pi pa pb, pointV qi qa qb, ratioV n d] (.tuple #[.bool false, .int .i64 0])) (m1 : Pure Try.prog 41 #[pointV pi pa pb, pointV qi qa qb] (.tuple #[ratioV m k, .int .i64 0])) (m2 : Pure Try.prog 41 #[pointV qi qa qb, pointV pi pa pb] (.tuple #[ratioV m k, .int .i64 0])) (nn : (!(m == m && (k == k && true))) = false) (bb : (pb == qb) = false) (ck : Pure Try.prog 30 #[ratioV m k] (.int .i64 0)) (cc : Pure Try.prog 53 #[ratioV n d, ratioV m k] (.int .i64 c)) (tl : decide (c ≥ 0) = false) (tg : decide (pb > qb) = true) (al : Pure Try.prog 45 #[] (.bool true)) :
    Pure Try.prog 14 #[pointV pi pa pb, pointV qi qa qb, ratioV n d] (.bool true) :=
  pure_run (args := [pointV pi pa pb, pointV qi qa qb, ratioV n d]) 400 [.r (.int .i64 0), .k, .r (.tuple #[.bool false, .int .i64 0]), .r (.tuple #[ratioV m k, .int .i64 0]), .r (.tuple #[ratioV m k, .int .i64 0]), .k, .k, .t false, .t false, .k, .r (.int .i64 0), .k, .r (.int .i64 c), .t false, .t true, .k, .k, .r (.bool true)]
    (And.intro rfl (And.intro w (And.intro a1 (And.intro m1 (And.intro m2 (And.intro nn (And.intro bb (And.intro ck (And.intro cc (And.intro tl (And.intro tg (And.intro al True.intro)))))))))))) (by kernel_rfl)

set_option maxRecDepth 100000 in
theorem chg_ft {pi pa pb qi qa qb n d m k c : Int} (w : Pure Try.prog 52 #[pointV pi pa pb, pointV qi qa qb, ratioV n d] (.int .i64 0)) (a1 : Pure Try.prog 40 #[pointV pi pa pb, pointV qi qa qb, ratioV n d] (.tuple #[.bool false, .int .i64 0])) (m1 : Pure Try.prog 41 #[pointV pi pa pb, pointV qi qa qb] (.tuple #[ratioV m k, .int .i64 0])) (m2 : Pure Try.prog 41 #[pointV qi qa qb, pointV pi pa pb] (.tuple #[ratioV m k, .int .i64 0])) (nn : (!(m == m && (k == k && true))) = false) (bb : (pb == qb) = false) (ck : Pure Try.prog 30 #[ratioV m k] (.int .i64 0)) (cc : Pure Try.prog 53 #[ratioV n d, ratioV m k] (.int .i64 c)) (tl : decide (c ≥ 0) = true) (tg : decide (pb > qb) = false) (al : Pure Try.prog 45 #[] (.bool true)) :
    Pure Try.prog 14 #[pointV pi pa pb, pointV qi qa qb, ratioV n d] (.bool true) :=
  pure_run (args := [pointV pi pa pb, pointV qi qa qb, ratioV n d]) 400 [.r (.int .i64 0), .k, .r (.tuple #[.bool false, .int .i64 0]), .r (.tuple #[ratioV m k, .int .i64 0]), .r (.tuple #[ratioV m k, .int .i64 0]), .k, .k, .t false, .t false, .k, .r (.int .i64 0), .k, .r (.int .i64 c), .t true, .t false, .k, .k, .r (.bool true)]
    (And.intro rfl (And.intro w (And.intro a1 (And.intro m1 (And.intro m2 (And.intro nn (And.intro bb (And.intro ck (And.intro cc (And.intro tl (And.intro tg (And.intro al True.intro)))))))))))) (by kernel_rfl)

set_option maxRecDepth 100000 in
theorem chg_ff {pi pa pb qi qa qb n d m k c : Int} (w : Pure Try.prog 52 #[pointV pi pa pb, pointV qi qa qb, ratioV n d] (.int .i64 0)) (a1 : Pure Try.prog 40 #[pointV pi pa pb, pointV qi qa qb, ratioV n d] (.tuple #[.bool true, .int .i64 0])) (m1 : Pure Try.prog 41 #[pointV pi pa pb, pointV qi qa qb] (.tuple #[ratioV m k, .int .i64 0])) (m2 : Pure Try.prog 41 #[pointV qi qa qb, pointV pi pa pb] (.tuple #[ratioV m k, .int .i64 0])) (nn : (!(m == m && (k == k && true))) = false) (bb : (pb == qb) = false) (ck : Pure Try.prog 30 #[ratioV m k] (.int .i64 0)) (cc : Pure Try.prog 53 #[ratioV n d, ratioV m k] (.int .i64 c)) (tl : decide (c ≥ 0) = false) (tg : decide (pb > qb) = false) (al : Pure Try.prog 45 #[] (.bool true)) :
    Pure Try.prog 14 #[pointV pi pa pb, pointV qi qa qb, ratioV n d] (.bool true) :=
  pure_run (args := [pointV pi pa pb, pointV qi qa qb, ratioV n d]) 400 [.r (.int .i64 0), .k, .r (.tuple #[.bool true, .int .i64 0]), .r (.tuple #[ratioV m k, .int .i64 0]), .r (.tuple #[ratioV m k, .int .i64 0]), .k, .k, .t false, .t false, .k, .r (.int .i64 0), .k, .r (.int .i64 c), .t false, .t false, .k, .k, .r (.bool true)]
    (And.intro rfl (And.intro w (And.intro a1 (And.intro m1 (And.intro m2 (And.intro nn (And.intro bb (And.intro ck (And.intro cc (And.intro tl (And.intro tg (And.intro al True.intro)))))))))))) (by kernel_rfl)
end Go.Proofs.Ytjhkeinelbeekaa
