/-
  CourseOrder, path by path.
-/
import Derived.Test.YtjhkeinelbeekaaCp
namespace Go.Proofs.Ytjhkeinelbeekaa
open Go.RowKit

set_option maxRecDepth 100000 in
theorem fit_1 {pi pa pb qi qa qb ri ra rb n d e : Int} (w1 : Pure Try.prog 52 #[pointV pi pa pb, pointV qi qa qb, ratioV n d] (.int .i64 e)) (z : (e == 0) = false) :
    Pure Try.prog 51 #[pointV pi pa pb, pointV qi qa qb, pointV ri ra rb, ratioV n d] (.bool false) :=
  pure_run (args := [pointV pi pa pb, pointV qi qa qb, pointV ri ra rb, ratioV n d]) 200 [.r (.int .i64 e), .t false]
    (And.intro rfl (And.intro w1 (And.intro z True.intro))) (by kernel_rfl)

set_option maxRecDepth 100000 in
theorem fit_2 {pi pa pb qi qa qb ri ra rb n d e : Int} (w1 : Pure Try.prog 52 #[pointV pi pa pb, pointV qi qa qb, ratioV n d] (.int .i64 0)) (w2 : Pure Try.prog 52 #[pointV qi qa qb, pointV ri ra rb, ratioV n d] (.int .i64 e)) (z : (e == 0) = false) :
    Pure Try.prog 51 #[pointV pi pa pb, pointV qi qa qb, pointV ri ra rb, ratioV n d] (.bool false) :=
  pure_run (args := [pointV pi pa pb, pointV qi qa qb, pointV ri ra rb, ratioV n d]) 200 [.r (.int .i64 0), .k, .r (.int .i64 e), .t false]
    (And.intro rfl (And.intro w1 (And.intro w2 (And.intro z True.intro)))) (by kernel_rfl)

set_option maxRecDepth 100000 in
theorem fit_3 {pi pa pb qi qa qb ri ra rb n d : Int} (w1 : Pure Try.prog 52 #[pointV pi pa pb, pointV qi qa qb, ratioV n d] (.int .i64 0)) (w2 : Pure Try.prog 52 #[pointV qi qa qb, pointV ri ra rb, ratioV n d] (.int .i64 0)) (ij : (pi != ri) = false) :
    Pure Try.prog 51 #[pointV pi pa pb, pointV qi qa qb, pointV ri ra rb, ratioV n d] (.bool false) :=
  pure_run (args := [pointV pi pa pb, pointV qi qa qb, pointV ri ra rb, ratioV n d]) 200 [.r (.int .i64 0), .k, .r (.int .i64 0), .k, .t false]
    (And.intro rfl (And.intro w1 (And.intro w2 (And.intro ij True.intro)))) (by kernel_rfl)

set_option maxRecDepth 100000 in
theorem fit_ok {pi pa pb qi qa qb ri ra rb n d : Int} (w1 : Pure Try.prog 52 #[pointV pi pa pb, pointV qi qa qb, ratioV n d] (.int .i64 0)) (w2 : Pure Try.prog 52 #[pointV qi qa qb, pointV ri ra rb, ratioV n d] (.int .i64 0)) (ij : (pi != ri) = true) :
    Pure Try.prog 51 #[pointV pi pa pb, pointV qi qa qb, pointV ri ra rb, ratioV n d] (.bool true) :=
  pure_run (args := [pointV pi pa pb, pointV qi qa qb, pointV ri ra rb, ratioV n d]) 200 [.r (.int .i64 0), .k, .r (.int .i64 0), .k, .t true]
    (And.intro rfl (And.intro w1 (And.intro w2 (And.intro ij True.intro)))) (by kernel_rfl)

set_option maxRecDepth 100000 in
theorem order_no {pi pa pb qi qa qb ri ra rb n d : Int} (f : Pure Try.prog 51 #[pointV pi pa pb, pointV qi qa qb, pointV ri ra rb, ratioV n d] (.bool false)) (al : Pure Try.prog 45 #[] (.bool true)) :
    Pure Try.prog 13 #[pointV pi pa pb, pointV qi qa qb, pointV ri ra rb, ratioV n d] (.bool true) :=
  pure_run (args := [pointV pi pa pb, pointV qi qa qb, pointV ri ra rb, ratioV n d]) 200 [.r (.bool false), .k, .r (.bool true)]
    (And.intro rfl (And.intro f (And.intro al True.intro))) (by kernel_rfl)

set_option maxRecDepth 100000 in
theorem order_ttt {pi pa pb qi qa qb ri ra rb n d : Int} (f : Pure Try.prog 51 #[pointV pi pa pb, pointV qi qa qb, pointV ri ra rb, ratioV n d] (.bool true)) (a1 : Pure Try.prog 40 #[pointV pi pa pb, pointV qi qa qb, ratioV n d] (.tuple #[.bool true, .int .i64 0])) (a2 : Pure Try.prog 40 #[pointV qi qa qb, pointV pi pa pb, ratioV n d] (.tuple #[.bool false, .int .i64 0])) (a3 : Pure Try.prog 40 #[pointV qi qa qb, pointV ri ra rb, ratioV n d] (.tuple #[.bool true, .int .i64 0])) (a4 : Pure Try.prog 40 #[pointV pi pa pb, pointV ri ra rb, ratioV n d] (.tuple #[.bool true, .int .i64 0])) (al : Pure Try.prog 45 #[] (.bool true)) :
    Pure Try.prog 13 #[pointV pi pa pb, pointV qi qa qb, pointV ri ra rb, ratioV n d] (.bool true) :=
  pure_run (args := [pointV pi pa pb, pointV qi qa qb, pointV ri ra rb, ratioV n d]) 400 [.r (.bool true), .k, .r (.tuple #[.bool true, .int .i64 0]), .r (.tuple #[.bool false, .int .i64 0]), .r (.tuple #[.bool true, .int .i64 0]), .r (.tuple #[.bool true, .int .i64 0]), .k, .k, .k, .k, .k, .k, .k, .r (.bool true)]
    (And.intro rfl (And.intro f (And.intro a1 (And.intro a2 (And.intro a3 (And.intro a4 (And.intro al True.intro))))))) (by kernel_rfl)

set_option maxRecDepth 100000 in
theorem order_tft {pi pa pb qi qa qb ri ra rb n d : Int} (f : Pure Try.prog 51 #[pointV pi pa pb, pointV qi qa qb, pointV ri ra rb, ratioV n d] (.bool true)) (a1 : Pure Try.prog 40 #[pointV pi pa pb, pointV qi qa qb, ratioV n d] (.tuple #[.bool true, .int .i64 0])) (a2 : Pure Try.prog 40 #[pointV qi qa qb, pointV pi pa pb, ratioV n d] (.tuple #[.bool false, .int .i64 0])) (a3 : Pure Try.prog 40 #[pointV qi qa qb, pointV ri ra rb, ratioV n d] (.tuple #[.bool false, .int .i64 0])) (a4 : Pure Try.prog 40 #[pointV pi pa pb, pointV ri ra rb, ratioV n d] (.tuple #[.bool true, .int .i64 0])) (al : Pure Try.prog 45 #[] (.bool true)) :
    Pure Try.prog 13 #[pointV pi pa pb, pointV qi qa qb, pointV ri ra rb, ratioV n d] (.bool true) :=
  pure_run (args := [pointV pi pa pb, pointV qi qa qb, pointV ri ra rb, ratioV n d]) 400 [.r (.bool true), .k, .r (.tuple #[.bool true, .int .i64 0]), .r (.tuple #[.bool false, .int .i64 0]), .r (.tuple #[.bool false, .int .i64 0]), .r (.tuple #[.bool true, .int .i64 0]), .k, .k, .k, .k, .k, .k, .k, .r (.bool true)]
    (And.intro rfl (And.intro f (And.intro a1 (And.intro a2 (And.intro a3 (And.intro a4 (And.intro al True.intro))))))) (by kernel_rfl)

set_option maxRecDepth 100000 in
theorem order_tff {pi pa pb qi qa qb ri ra rb n d : Int} (f : Pure Try.prog 51 #[pointV pi pa pb, pointV qi qa qb, pointV ri ra rb, ratioV n d] (.bool true)) (a1 : Pure Try.prog 40 #[pointV pi pa pb, pointV qi qa qb, ratioV n d] (.tuple #[.bool true, .int .i64 0])) (a2 : Pure Try.prog 40 #[pointV qi qa qb, pointV pi pa pb, ratioV n d] (.tuple #[.bool false, .int .i64 0])) (a3 : Pure Try.prog 40 #[pointV qi qa qb, pointV ri ra rb, ratioV n d] (.tuple #[.bool false, .int .i64 0])) (a4 : Pure Try.prog 40 #[pointV pi pa pb, pointV ri ra rb, ratioV n d] (.tuple #[.bool false, .int .i64 0])) (al : Pure Try.prog 45 #[] (.bool true)) :
    Pure Try.prog 13 #[pointV pi pa pb, pointV qi qa qb, pointV ri ra rb, ratioV n d] (.bool true) :=
  pure_run (args := [pointV pi pa pb, pointV qi qa qb, pointV ri ra rb, ratioV n d]) 400 [.r (.bool true), .k, .r (.tuple #[.bool true, .int .i64 0]), .r (.tuple #[.bool false, .int .i64 0]), .r (.tuple #[.bool false, .int .i64 0]), .r (.tuple #[.bool false, .int .i64 0]), .k, .k, .k, .k, .k, .k, .k, .r (.bool true)]
    (And.intro rfl (And.intro f (And.intro a1 (And.intro a2 (And.intro a3 (And.intro a4 (And.intro al True.intro))))))) (by kernel_rfl)

set_option maxRecDepth 100000 in
theorem order_ftt {pi pa pb qi qa qb ri ra rb n d : Int} (f : Pure Try.prog 51 #[pointV pi pa pb, pointV qi qa qb, pointV ri ra rb, ratioV n d] (.bool true)) (a1 : Pure Try.prog 40 #[pointV pi pa pb, pointV qi qa qb, ratioV n d] (.tuple #[.bool false, .int .i64 0])) (a2 : Pure Try.prog 40 #[pointV qi qa qb, pointV pi pa pb, ratioV n d] (.tuple #[.bool true, .int .i64 0])) (a3 : Pure Try.prog 40 #[pointV qi qa qb, pointV ri ra rb, ratioV n d] (.tuple #[.bool true, .int .i64 0])) (a4 : Pure Try.prog 40 #[pointV pi pa pb, pointV ri ra rb, ratioV n d] (.tuple #[.bool true, .int .i64 0])) (al : Pure Try.prog 45 #[] (.bool true)) :
    Pure Try.prog 13 #[pointV pi pa pb, pointV qi qa qb, pointV ri ra rb, ratioV n d] (.bool true) :=
  pure_run (args := [pointV pi pa pb, pointV qi qa qb, pointV ri ra rb, ratioV n d]) 400 [.r (.bool true), .k, .r (.tuple #[.bool false, .int .i64 0]), .r (.tuple #[.bool true, .int .i64 0]), .r (.tuple #[.bool true, .int .i64 0]), .r (.tuple #[.bool true, .int .i64 0]), .k, .k, .k, .k, .k, .k, .r (.bool true)]
    (And.intro rfl (And.intro f (And.intro a1 (And.intro a2 (And.intro a3 (And.intro a4 (And.intro al True.intro))))))) (by kernel_rfl)

set_option maxRecDepth 100000 in
theorem order_ftf {pi pa pb qi qa qb ri ra rb n d : Int} (f : Pure Try.prog 51 #[pointV pi pa pb, pointV qi qa qb, pointV ri ra rb, ratioV n d] (.bool true)) (a1 : Pure Try.prog 40 #[pointV pi pa pb, pointV qi qa qb, ratioV n d] (.tuple #[.bool false, .int .i64 0])) (a2 : Pure Try.prog 40 #[pointV qi qa qb, pointV pi pa pb, ratioV n d] (.tuple #[.bool true, .int .i64 0])) (a3 : Pure Try.prog 40 #[pointV qi qa qb, pointV ri ra rb, ratioV n d] (.tuple #[.bool true, .int .i64 0])) (a4 : Pure Try.prog 40 #[pointV pi pa pb, pointV ri ra rb, ratioV n d] (.tuple #[.bool false, .int .i64 0])) (al : Pure Try.prog 45 #[] (.bool true)) :
    Pure Try.prog 13 #[pointV pi pa pb, pointV qi qa qb, pointV ri ra rb, ratioV n d] (.bool true) :=
  pure_run (args := [pointV pi pa pb, pointV qi qa qb, pointV ri ra rb, ratioV n d]) 400 [.r (.bool true), .k, .r (.tuple #[.bool false, .int .i64 0]), .r (.tuple #[.bool true, .int .i64 0]), .r (.tuple #[.bool true, .int .i64 0]), .r (.tuple #[.bool false, .int .i64 0]), .k, .k, .k, .k, .k, .k, .r (.bool true)]
    (And.intro rfl (And.intro f (And.intro a1 (And.intro a2 (And.intro a3 (And.intro a4 (And.intro al True.intro))))))) (by kernel_rfl)

set_option maxRecDepth 100000 in
theorem order_fff {pi pa pb qi qa qb ri ra rb n d : Int} (f : Pure Try.prog 51 #[pointV pi pa pb, pointV qi qa qb, pointV ri ra rb, ratioV n d] (.bool true)) (a1 : Pure Try.prog 40 #[pointV pi pa pb, pointV qi qa qb, ratioV n d] (.tuple #[.bool false, .int .i64 0])) (a2 : Pure Try.prog 40 #[pointV qi qa qb, pointV pi pa pb, ratioV n d] (.tuple #[.bool true, .int .i64 0])) (a3 : Pure Try.prog 40 #[pointV qi qa qb, pointV ri ra rb, ratioV n d] (.tuple #[.bool false, .int .i64 0])) (a4 : Pure Try.prog 40 #[pointV pi pa pb, pointV ri ra rb, ratioV n d] (.tuple #[.bool false, .int .i64 0])) (al : Pure Try.prog 45 #[] (.bool true)) :
    Pure Try.prog 13 #[pointV pi pa pb, pointV qi qa qb, pointV ri ra rb, ratioV n d] (.bool true) :=
  pure_run (args := [pointV pi pa pb, pointV qi qa qb, pointV ri ra rb, ratioV n d]) 400 [.r (.bool true), .k, .r (.tuple #[.bool false, .int .i64 0]), .r (.tuple #[.bool true, .int .i64 0]), .r (.tuple #[.bool false, .int .i64 0]), .r (.tuple #[.bool false, .int .i64 0]), .k, .k, .k, .k, .k, .k, .k, .r (.bool true)]
    (And.intro rfl (And.intro f (And.intro a1 (And.intro a2 (And.intro a3 (And.intro a4 (And.intro al True.intro))))))) (by kernel_rfl)
end Go.Proofs.Ytjhkeinelbeekaa
