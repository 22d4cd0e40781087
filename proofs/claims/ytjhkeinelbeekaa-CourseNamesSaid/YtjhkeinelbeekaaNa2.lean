/-
  CourseNames: a function without arguments, its calls worked out one by one. Conditions: none.
-/
import Derived.Test.YtjhkeinelbeekaaCp
import Derived.Test.YtjhkeinelbeekaaAl
namespace Go.Proofs.Ytjhkeinelbeekaa
open Go.RowKit
set_option maxRecDepth 100000 in
theorem nf0 : Pure Try.prog 39 #[pointV (-1) 0 0, ratioV 0 0] (.tuple #[ratioV 0 0, .int .i64 8]) := pure_run (args := [pointV (-1) 0 0, ratioV 0 0]) 1000 [] (And.intro rfl True.intro) (by kernel_rfl)

set_option maxRecDepth 100000 in
theorem nf1 : Pure Try.prog 40 #[pointV 65535 1048576 (-1048576), pointV (-1) 0 0, ratioV 0 0] (.tuple #[.bool false, .int .i64 8]) := pure_run (args := [pointV 65535 1048576 (-1048576), pointV (-1) 0 0, ratioV 0 0]) 1000 [] (And.intro rfl True.intro) (by kernel_rfl)

set_option maxRecDepth 100000 in
theorem nf2 : Pure Try.prog 41 #[pointV (-1) 0 0, pointV (-1) 0 0] (.tuple #[ratioV 0 0, .int .i64 8]) := pure_run (args := [pointV (-1) 0 0, pointV (-1) 0 0]) 1000 [] (And.intro rfl True.intro) (by kernel_rfl)

set_option maxRecDepth 100000 in
theorem nf3 : Pure Try.prog 42 #[pointV (-1) 0 0, pointV 65535 1048576 (-1048576), ratioV 0 1] (.tuple #[ratioV 0 0, .bool false, .int .i64 8]) := pure_run (args := [pointV (-1) 0 0, pointV 65535 1048576 (-1048576), ratioV 0 1]) 1000 [] (And.intro rfl True.intro) (by kernel_rfl)

set_option maxRecDepth 100000 in
theorem nf4 : Pure Try.prog 44 #[pointV (-1) 0 0] (.int .i64 8) := pure_run (args := [pointV (-1) 0 0]) 1000 [] (And.intro rfl True.intro) (by kernel_rfl)

set_option maxRecDepth 100000 in
theorem nf5 : Pure Try.prog 39 #[pointV 65536 0 0, ratioV 0 0] (.tuple #[ratioV 0 0, .int .i64 8]) := pure_run (args := [pointV 65536 0 0, ratioV 0 0]) 1000 [] (And.intro rfl True.intro) (by kernel_rfl)

set_option maxRecDepth 100000 in
theorem nf6 : Pure Try.prog 40 #[pointV 65535 1048576 (-1048576), pointV 65536 0 0, ratioV 0 0] (.tuple #[.bool false, .int .i64 8]) := pure_run (args := [pointV 65535 1048576 (-1048576), pointV 65536 0 0, ratioV 0 0]) 1000 [] (And.intro rfl True.intro) (by kernel_rfl)

set_option maxRecDepth 100000 in
theorem nf7 : Pure Try.prog 41 #[pointV 65536 0 0, pointV 65536 0 0] (.tuple #[ratioV 0 0, .int .i64 8]) := pure_run (args := [pointV 65536 0 0, pointV 65536 0 0]) 1000 [] (And.intro rfl True.intro) (by kernel_rfl)

set_option maxRecDepth 100000 in
theorem nf8 : Pure Try.prog 42 #[pointV 65536 0 0, pointV 65535 1048576 (-1048576), ratioV 0 1] (.tuple #[ratioV 0 0, .bool false, .int .i64 8]) := pure_run (args := [pointV 65536 0 0, pointV 65535 1048576 (-1048576), ratioV 0 1]) 1000 [] (And.intro rfl True.intro) (by kernel_rfl)

set_option maxRecDepth 100000 in
theorem nf9 : Pure Try.prog 44 #[pointV 65536 0 0] (.int .i64 8) := pure_run (args := [pointV 65536 0 0]) 1000 [] (And.intro rfl True.intro) (by kernel_rfl)

set_option maxRecDepth 100000 in
theorem nf10 : Pure Try.prog 39 #[pointV 1 1048577 0, ratioV 0 0] (.tuple #[ratioV 0 0, .int .i64 8]) := pure_run (args := [pointV 1 1048577 0, ratioV 0 0]) 1000 [] (And.intro rfl True.intro) (by kernel_rfl)

set_option maxRecDepth 100000 in
theorem nf11 : Pure Try.prog 40 #[pointV 65535 1048576 (-1048576), pointV 1 1048577 0, ratioV 0 0] (.tuple #[.bool false, .int .i64 8]) := pure_run (args := [pointV 65535 1048576 (-1048576), pointV 1 1048577 0, ratioV 0 0]) 1000 [] (And.intro rfl True.intro) (by kernel_rfl)

set_option maxRecDepth 100000 in
theorem nf12 : Pure Try.prog 41 #[pointV 1 1048577 0, pointV 1 1048577 0] (.tuple #[ratioV 0 0, .int .i64 8]) := pure_run (args := [pointV 1 1048577 0, pointV 1 1048577 0]) 1000 [] (And.intro rfl True.intro) (by kernel_rfl)

set_option maxRecDepth 100000 in
theorem nf13 : Pure Try.prog 42 #[pointV 1 1048577 0, pointV 65535 1048576 (-1048576), ratioV 0 1] (.tuple #[ratioV 0 0, .bool false, .int .i64 8]) := pure_run (args := [pointV 1 1048577 0, pointV 65535 1048576 (-1048576), ratioV 0 1]) 1000 [] (And.intro rfl True.intro) (by kernel_rfl)

set_option maxRecDepth 100000 in
theorem nf14 : Pure Try.prog 44 #[pointV 1 1048577 0] (.int .i64 8) := pure_run (args := [pointV 1 1048577 0]) 1000 [] (And.intro rfl True.intro) (by kernel_rfl)

set_option maxRecDepth 100000 in
theorem nf15 : Pure Try.prog 39 #[pointV 1 (-1048577) 0, ratioV 0 0] (.tuple #[ratioV 0 0, .int .i64 8]) := pure_run (args := [pointV 1 (-1048577) 0, ratioV 0 0]) 1000 [] (And.intro rfl True.intro) (by kernel_rfl)

set_option maxRecDepth 100000 in
theorem nf16 : Pure Try.prog 40 #[pointV 65535 1048576 (-1048576), pointV 1 (-1048577) 0, ratioV 0 0] (.tuple #[.bool false, .int .i64 8]) := pure_run (args := [pointV 65535 1048576 (-1048576), pointV 1 (-1048577) 0, ratioV 0 0]) 1000 [] (And.intro rfl True.intro) (by kernel_rfl)

set_option maxRecDepth 100000 in
theorem nf17 : Pure Try.prog 41 #[pointV 1 (-1048577) 0, pointV 1 (-1048577) 0] (.tuple #[ratioV 0 0, .int .i64 8]) := pure_run (args := [pointV 1 (-1048577) 0, pointV 1 (-1048577) 0]) 1000 [] (And.intro rfl True.intro) (by kernel_rfl)

set_option maxRecDepth 100000 in
theorem nf18 : Pure Try.prog 42 #[pointV 1 (-1048577) 0, pointV 65535 1048576 (-1048576), ratioV 0 1] (.tuple #[ratioV 0 0, .bool false, .int .i64 8]) := pure_run (args := [pointV 1 (-1048577) 0, pointV 65535 1048576 (-1048576), ratioV 0 1]) 1000 [] (And.intro rfl True.intro) (by kernel_rfl)

set_option maxRecDepth 100000 in
theorem nf19 : Pure Try.prog 44 #[pointV 1 (-1048577) 0] (.int .i64 8) := pure_run (args := [pointV 1 (-1048577) 0]) 1000 [] (And.intro rfl True.intro) (by kernel_rfl)

set_option maxRecDepth 100000 in
theorem nf20 : Pure Try.prog 39 #[pointV 1 0 1048577, ratioV 0 0] (.tuple #[ratioV 0 0, .int .i64 8]) := pure_run (args := [pointV 1 0 1048577, ratioV 0 0]) 1000 [] (And.intro rfl True.intro) (by kernel_rfl)

set_option maxRecDepth 100000 in
theorem nf21 : Pure Try.prog 40 #[pointV 65535 1048576 (-1048576), pointV 1 0 1048577, ratioV 0 0] (.tuple #[.bool false, .int .i64 8]) := pure_run (args := [pointV 65535 1048576 (-1048576), pointV 1 0 1048577, ratioV 0 0]) 1000 [] (And.intro rfl True.intro) (by kernel_rfl)

set_option maxRecDepth 100000 in
theorem nf22 : Pure Try.prog 41 #[pointV 1 0 1048577, pointV 1 0 1048577] (.tuple #[ratioV 0 0, .int .i64 8]) := pure_run (args := [pointV 1 0 1048577, pointV 1 0 1048577]) 1000 [] (And.intro rfl True.intro) (by kernel_rfl)

set_option maxRecDepth 100000 in
theorem nf23 : Pure Try.prog 42 #[pointV 1 0 1048577, pointV 65535 1048576 (-1048576), ratioV 0 1] (.tuple #[ratioV 0 0, .bool false, .int .i64 8]) := pure_run (args := [pointV 1 0 1048577, pointV 65535 1048576 (-1048576), ratioV 0 1]) 1000 [] (And.intro rfl True.intro) (by kernel_rfl)

set_option maxRecDepth 100000 in
theorem nf24 : Pure Try.prog 44 #[pointV 1 0 1048577] (.int .i64 8) := pure_run (args := [pointV 1 0 1048577]) 1000 [] (And.intro rfl True.intro) (by kernel_rfl)

set_option maxRecDepth 100000 in
theorem nf25 : Pure Try.prog 39 #[pointV 1 0 (-1048577), ratioV 0 0] (.tuple #[ratioV 0 0, .int .i64 8]) := pure_run (args := [pointV 1 0 (-1048577), ratioV 0 0]) 1000 [] (And.intro rfl True.intro) (by kernel_rfl)

set_option maxRecDepth 100000 in
theorem nf26 : Pure Try.prog 40 #[pointV 65535 1048576 (-1048576), pointV 1 0 (-1048577), ratioV 0 0] (.tuple #[.bool false, .int .i64 8]) := pure_run (args := [pointV 65535 1048576 (-1048576), pointV 1 0 (-1048577), ratioV 0 0]) 1000 [] (And.intro rfl True.intro) (by kernel_rfl)

set_option maxRecDepth 100000 in
theorem nf27 : Pure Try.prog 41 #[pointV 1 0 (-1048577), pointV 1 0 (-1048577)] (.tuple #[ratioV 0 0, .int .i64 8]) := pure_run (args := [pointV 1 0 (-1048577), pointV 1 0 (-1048577)]) 1000 [] (And.intro rfl True.intro) (by kernel_rfl)

set_option maxRecDepth 100000 in
theorem nf28 : Pure Try.prog 42 #[pointV 1 0 (-1048577), pointV 65535 1048576 (-1048576), ratioV 0 1] (.tuple #[ratioV 0 0, .bool false, .int .i64 8]) := pure_run (args := [pointV 1 0 (-1048577), pointV 65535 1048576 (-1048576), ratioV 0 1]) 1000 [] (And.intro rfl True.intro) (by kernel_rfl)

set_option maxRecDepth 100000 in
theorem nf29 : Pure Try.prog 44 #[pointV 1 0 (-1048577)] (.int .i64 8) := pure_run (args := [pointV 1 0 (-1048577)]) 1000 [] (And.intro rfl True.intro) (by kernel_rfl)

set_option maxRecDepth 100000 in
theorem nf30 : Pure Try.prog 39 #[pointV 1 (-9223372036854775808) 0, ratioV 0 0] (.tuple #[ratioV 0 0, .int .i64 8]) := pure_run (args := [pointV 1 (-9223372036854775808) 0, ratioV 0 0]) 1000 [] (And.intro rfl True.intro) (by kernel_rfl)

set_option maxRecDepth 100000 in
theorem nf31 : Pure Try.prog 40 #[pointV 65535 1048576 (-1048576), pointV 1 (-9223372036854775808) 0, ratioV 0 0] (.tuple #[.bool false, .int .i64 8]) := pure_run (args := [pointV 65535 1048576 (-1048576), pointV 1 (-9223372036854775808) 0, ratioV 0 0]) 1000 [] (And.intro rfl True.intro) (by kernel_rfl)

set_option maxRecDepth 100000 in
theorem nf32 : Pure Try.prog 41 #[pointV 1 (-9223372036854775808) 0, pointV 1 (-9223372036854775808) 0] (.tuple #[ratioV 0 0, .int .i64 8]) := pure_run (args := [pointV 1 (-9223372036854775808) 0, pointV 1 (-9223372036854775808) 0]) 1000 [] (And.intro rfl True.intro) (by kernel_rfl)

set_option maxRecDepth 100000 in
theorem nf33 : Pure Try.prog 42 #[pointV 1 (-9223372036854775808) 0, pointV 65535 1048576 (-1048576), ratioV 0 1] (.tuple #[ratioV 0 0, .bool false, .int .i64 8]) := pure_run (args := [pointV 1 (-9223372036854775808) 0, pointV 65535 1048576 (-1048576), ratioV 0 1]) 1000 [] (And.intro rfl True.intro) (by kernel_rfl)

set_option maxRecDepth 100000 in
theorem nf34 : Pure Try.prog 44 #[pointV 1 (-9223372036854775808) 0] (.int .i64 8) := pure_run (args := [pointV 1 (-9223372036854775808) 0]) 1000 [] (And.intro rfl True.intro) (by kernel_rfl)

set_option maxRecDepth 100000 in
theorem nf35 : Pure Try.prog 39 #[pointV 65535 1048576 (-1048576), ratioV 2 2] (.tuple #[ratioV 0 0, .int .i64 8]) := pure_run (args := [pointV 65535 1048576 (-1048576), ratioV 2 2]) 1000 [] (And.intro rfl True.intro) (by kernel_rfl)

set_option maxRecDepth 100000 in
theorem nf36 : Pure Try.prog 40 #[pointV 65535 1048576 (-1048576), pointV 65535 1048576 (-1048576), ratioV 0 0] (.tuple #[.bool false, .int .i64 8]) := pure_run (args := [pointV 65535 1048576 (-1048576), pointV 65535 1048576 (-1048576), ratioV 0 0]) 1000 [] (And.intro rfl True.intro) (by kernel_rfl)

set_option maxRecDepth 100000 in
theorem nf37 : Pure Try.prog 40 #[pointV 65535 1048576 (-1048576), pointV 65535 1048576 (-1048576), ratioV 0 1] (.tuple #[.bool false, .int .i64 2]) := pure_run (args := [pointV 65535 1048576 (-1048576), pointV 65535 1048576 (-1048576), ratioV 0 1]) 1000 [] (And.intro rfl True.intro) (by kernel_rfl)

set_option maxRecDepth 100000 in
theorem nf38 : Pure Try.prog 41 #[pointV 65535 1048576 (-1048576), pointV 65535 1048576 (-1048576)] (.tuple #[ratioV 0 0, .int .i64 2]) := pure_run (args := [pointV 65535 1048576 (-1048576), pointV 65535 1048576 (-1048576)]) 1000 [] (And.intro rfl True.intro) (by kernel_rfl)

set_option maxRecDepth 100000 in
theorem nf39 : Pure Try.prog 42 #[pointV 65535 1048576 (-1048576), pointV 65535 1048576 (-1048576), ratioV 0 1] (.tuple #[ratioV 0 0, .bool false, .int .i64 2]) := pure_run (args := [pointV 65535 1048576 (-1048576), pointV 65535 1048576 (-1048576), ratioV 0 1]) 1000 [] (And.intro rfl True.intro) (by kernel_rfl)

set_option maxRecDepth 100000 in
theorem nf40 : Pure Try.prog 41 #[pointV 65535 1048576 (-1048576), pointV 1 0 (-1048576)] (.tuple #[ratioV 0 0, .int .i64 6]) := pure_run (args := [pointV 65535 1048576 (-1048576), pointV 1 0 (-1048576)]) 1000 [] (And.intro rfl True.intro) (by kernel_rfl)

set_option maxRecDepth 100000 in
theorem nf41 : Pure Try.prog 40 #[pointV 1 0 1, pointV 2 0 0, ratioV 9223372036854775807 1] (.tuple #[.bool true, .int .i64 0]) := pure_run (args := [pointV 1 0 1, pointV 2 0 0, ratioV 9223372036854775807 1]) 1000 [] (And.intro rfl True.intro) (by kernel_rfl)

set_option maxRecDepth 100000 in
theorem nf42 : Pure Try.prog 40 #[pointV 1 1048576 (-1048576), pointV 2 (-1048576) 1048576, ratioV 9223372036854775807 1] (.tuple #[.bool false, .int .i64 0]) := pure_run (args := [pointV 1 1048576 (-1048576), pointV 2 (-1048576) 1048576, ratioV 9223372036854775807 1]) 1000 [] (And.intro rfl True.intro) (by kernel_rfl)

set_option maxRecDepth 100000 in
theorem nf43 : Pure Try.prog 39 #[pointV 65535 1048576 (-1048576), ratioV 9223372036854775807 1] (.tuple #[ratioV 0 0, .int .i64 16]) := pure_run (args := [pointV 65535 1048576 (-1048576), ratioV 9223372036854775807 1]) 1000 [] (And.intro rfl True.intro) (by kernel_rfl)

set_option maxRecDepth 100000 in
theorem nf44 : Pure Try.prog 39 #[pointV 1 (-1) 1, ratioV 9223372036854775807 1] (.tuple #[ratioV 9223372036854775806 1, .int .i64 0]) := pure_run (args := [pointV 1 (-1) 1, ratioV 9223372036854775807 1]) 1000 [] (And.intro rfl True.intro) (by kernel_rfl)

set_option maxRecDepth 100000 in
theorem nf45 : Pure Try.prog 39 #[pointV 1 1 2, ratioV (-9223372036854775807) 9223372036854775806] (.tuple #[ratioV (-4611686018427387904) 4611686018427387903, .int .i64 0]) := pure_run (args := [pointV 1 1 2, ratioV (-9223372036854775807) 9223372036854775806]) 1000 [] (And.intro rfl True.intro) (by kernel_rfl)

set_option maxRecDepth 100000 in
theorem nf46 : Pure Try.prog 39 #[pointV 1 1 1, ratioV 9223372036854775807 1] (.tuple #[ratioV 0 0, .int .i64 16]) := pure_run (args := [pointV 1 1 1, ratioV 9223372036854775807 1]) 1000 [] (And.intro rfl True.intro) (by kernel_rfl)

set_option maxRecDepth 100000 in
theorem nf47 : Pure Try.prog 41 #[pointV 1 0 2, pointV 2 1 0] (.tuple #[ratioV 1 2, .int .i64 0]) := pure_run (args := [pointV 1 0 2, pointV 2 1 0]) 1000 [] (And.intro rfl True.intro) (by kernel_rfl)

set_option maxRecDepth 100000 in
theorem nf48 : Pure Try.prog 41 #[pointV 1 0 1, pointV 2 (-7) 0] (.tuple #[ratioV (-7) 1, .int .i64 0]) := pure_run (args := [pointV 1 0 1, pointV 2 (-7) 0]) 1000 [] (And.intro rfl True.intro) (by kernel_rfl)

set_option maxRecDepth 100000 in
theorem nf49 : Pure Try.prog 44 #[pointV 65535 1048576 (-1048576)] (.int .i64 0) := pure_run (args := [pointV 65535 1048576 (-1048576)]) 1000 [] (And.intro rfl True.intro) (by kernel_rfl)

set_option maxRecDepth 100000 in
theorem names02 : Pure Try.prog 10 #[] (.bool true) := pure_run (args := []) 2000 [.k, .k, .k, .k, .k, .k, .k, .k, .k, .r (.tuple #[ratioV 0 0, .int .i64 8]), .r (.tuple #[.bool false, .int .i64 8]), .r (.tuple #[ratioV 0 0, .int .i64 8]), .k, .r (.tuple #[ratioV 0 0, .bool false, .int .i64 8]), .r (.int .i64 8), .k, .k, .k, .k, .k, .k, .k, .r (.tuple #[ratioV 0 0, .int .i64 8]), .r (.tuple #[.bool false, .int .i64 8]), .r (.tuple #[ratioV 0 0, .int .i64 8]), .k, .r (.tuple #[ratioV 0 0, .bool false, .int .i64 8]), .r (.int .i64 8), .k, .k, .k, .k, .k, .k, .k, .r (.tuple #[ratioV 0 0, .int .i64 8]), .r (.tuple #[.bool false, .int .i64 8]), .r (.tuple #[ratioV 0 0, .int .i64 8]), .k, .r (.tuple #[ratioV 0 0, .bool false, .int .i64 8]), .r (.int .i64 8), .k, .k, .k, .k, .k, .k, .k, .r (.tuple #[ratioV 0 0, .int .i64 8]), .r (.tuple #[.bool false, .int .i64 8]), .r (.tuple #[ratioV 0 0, .int .i64 8]), .k, .r (.tuple #[ratioV 0 0, .bool false, .int .i64 8]), .r (.int .i64 8), .k, .k, .k, .k, .k, .k, .k, .r (.tuple #[ratioV 0 0, .int .i64 8]), .r (.tuple #[.bool false, .int .i64 8]), .r (.tuple #[ratioV 0 0, .int .i64 8]), .k, .r (.tuple #[ratioV 0 0, .bool false, .int .i64 8]), .r (.int .i64 8), .k, .k, .k, .k, .k, .k, .k, .r (.tuple #[ratioV 0 0, .int .i64 8]), .r (.tuple #[.bool false, .int .i64 8]), .r (.tuple #[ratioV 0 0, .int .i64 8]), .k, .r (.tuple #[ratioV 0 0, .bool false, .int .i64 8]), .r (.int .i64 8), .k, .k, .k, .k, .k, .k, .k, .r (.tuple #[ratioV 0 0, .int .i64 8]), .r (.tuple #[.bool false, .int .i64 8]), .r (.tuple #[ratioV 0 0, .int .i64 8]), .k, .r (.tuple #[ratioV 0 0, .bool false, .int .i64 8]), .r (.int .i64 8), .k, .k, .k, .k, .k, .k, .k, .r (.tuple #[ratioV 0 0, .int .i64 8]), .r (.tuple #[.bool false, .int .i64 8]), .k, .r (.tuple #[.bool false, .int .i64 2]), .r (.tuple #[ratioV 0 0, .int .i64 2]), .k, .r (.tuple #[ratioV 0 0, .bool false, .int .i64 2]), .k, .r (.tuple #[ratioV 0 0, .int .i64 6]), .k, .k, .k, .r (.tuple #[.bool true, .int .i64 0]), .k, .k, .k, .r (.tuple #[.bool false, .int .i64 0]), .k, .r (.tuple #[ratioV 0 0, .int .i64 16]), .k, .k, .r (.tuple #[ratioV 9223372036854775806 1, .int .i64 0]), .k, .r (.tuple #[ratioV (-4611686018427387904) 4611686018427387903, .int .i64 0]), .k, .k, .r (.tuple #[ratioV 0 0, .int .i64 16]), .k, .k, .r (.tuple #[ratioV 1 2, .int .i64 0]), .k, .k, .r (.tuple #[ratioV (-7) 1, .int .i64 0]), .r (.int .i64 0), .k, .k, .k, .k, .k, .k, .k, .k, .k, .k, .k, .k, .k, .k, .k, .k, .k, .k, .k, .k, .k, .k, .r (.bool true)]
  (And.intro rfl (And.intro nf0 (And.intro nf1 (And.intro nf2 (And.intro nf3 (And.intro nf4 (And.intro nf5 (And.intro nf6 (And.intro nf7 (And.intro nf8 (And.intro nf9 (And.intro nf10 (And.intro nf11 (And.intro nf12 (And.intro nf13 (And.intro nf14 (And.intro nf15 (And.intro nf16 (And.intro nf17 (And.intro nf18 (And.intro nf19 (And.intro nf20 (And.intro nf21 (And.intro nf22 (And.intro nf23 (And.intro nf24 (And.intro nf25 (And.intro nf26 (And.intro nf27 (And.intro nf28 (And.intro nf29 (And.intro nf30 (And.intro nf31 (And.intro nf32 (And.intro nf33 (And.intro nf34 (And.intro nf35 (And.intro nf36 (And.intro nf37 (And.intro nf38 (And.intro nf39 (And.intro nf40 (And.intro nf41 (And.intro nf42 (And.intro nf43 (And.intro nf44 (And.intro nf45 (And.intro nf46 (And.intro nf47 (And.intro nf48 (And.intro nf49 (And.intro alive02 True.intro)))))))))))))))))))))))))))))))))))))))))))))))))))) (by kernel_rfl)
end Go.Proofs.Ytjhkeinelbeekaa
