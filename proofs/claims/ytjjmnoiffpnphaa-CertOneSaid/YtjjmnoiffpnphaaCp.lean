/-
  Package course and its reference, path by path: Check, Two, meeting, Ahead. Conditions: none.
-/
import Derived.Test.YtjjmnoiffpnphaaW24
namespace Go.Proofs.Ytjjmnoiffpnphaa
open Go.RowKit
abbrev pointV (n a b : Int) : Value := .agg #[.int .i64 n, .int .i64 a, .int .i64 b]

set_option maxRecDepth 100000 in
theorem ck_i0 {pi pa pb : Int} (i0 : decide (pi < 0) = true) :
    Pure Try.prog 60 #[pointV pi pa pb] (.int .i64 8) :=
  pure_run (args := [pointV pi pa pb]) 200 [.t true]
    (And.intro rfl (And.intro i0 True.intro)) (by kernel_rfl)

set_option maxRecDepth 100000 in
theorem ck_i1 {pi pa pb : Int} (i0 : decide (pi < 0) = false) (i1 : decide (pi > 65535) = true) :
    Pure Try.prog 60 #[pointV pi pa pb] (.int .i64 8) :=
  pure_run (args := [pointV pi pa pb]) 200 [.t false, .t true]
    (And.intro rfl (And.intro i0 (And.intro i1 True.intro))) (by kernel_rfl)

set_option maxRecDepth 100000 in
theorem ck_al {pi pa pb : Int} (i0 : decide (pi < 0) = false) (i1 : decide (pi > 65535) = false) (la : decide (-1048576 ≤ pa) = false) :
    Pure Try.prog 60 #[pointV pi pa pb] (.int .i64 8) :=
  pure_run (args := [pointV pi pa pb]) 200 [.t false, .t false, .k, .t false, .k]
    (And.intro rfl (And.intro i0 (And.intro i1 (And.intro la True.intro)))) (by kernel_rfl)

set_option maxRecDepth 100000 in
theorem ck_ah {pi pa pb : Int} (i0 : decide (pi < 0) = false) (i1 : decide (pi > 65535) = false) (la : decide (-1048576 ≤ pa) = true) (ha : decide (pa ≤ 1048576) = false) :
    Pure Try.prog 60 #[pointV pi pa pb] (.int .i64 8) :=
  pure_run (args := [pointV pi pa pb]) 200 [.t false, .t false, .k, .t true, .t false, .k]
    (And.intro rfl (And.intro i0 (And.intro i1 (And.intro la (And.intro ha True.intro))))) (by kernel_rfl)

set_option maxRecDepth 100000 in
theorem ck_bl {pi pa pb : Int} (i0 : decide (pi < 0) = false) (i1 : decide (pi > 65535) = false) (la : decide (-1048576 ≤ pa) = true) (ha : decide (pa ≤ 1048576) = true) (lb : decide (-1048576 ≤ pb) = false) :
    Pure Try.prog 60 #[pointV pi pa pb] (.int .i64 8) :=
  pure_run (args := [pointV pi pa pb]) 200 [.t false, .t false, .k, .t true, .t true, .k, .k, .t false, .k]
    (And.intro rfl (And.intro i0 (And.intro i1 (And.intro la (And.intro ha (And.intro lb True.intro)))))) (by kernel_rfl)

set_option maxRecDepth 100000 in
theorem ck_bh {pi pa pb : Int} (i0 : decide (pi < 0) = false) (i1 : decide (pi > 65535) = false) (la : decide (-1048576 ≤ pa) = true) (ha : decide (pa ≤ 1048576) = true) (lb : decide (-1048576 ≤ pb) = true) (hb : decide (pb ≤ 1048576) = false) :
    Pure Try.prog 60 #[pointV pi pa pb] (.int .i64 8) :=
  pure_run (args := [pointV pi pa pb]) 200 [.t false, .t false, .k, .t true, .t true, .k, .k, .t true, .t false, .k]
    (And.intro rfl (And.intro i0 (And.intro i1 (And.intro la (And.intro ha (And.intro lb (And.intro hb True.intro))))))) (by kernel_rfl)

set_option maxRecDepth 100000 in
theorem ck_ok {pi pa pb : Int} (i0 : decide (pi < 0) = false) (i1 : decide (pi > 65535) = false) (la : decide (-1048576 ≤ pa) = true) (ha : decide (pa ≤ 1048576) = true) (lb : decide (-1048576 ≤ pb) = true) (hb : decide (pb ≤ 1048576) = true) :
    Pure Try.prog 60 #[pointV pi pa pb] (.int .i64 0) :=
  pure_run (args := [pointV pi pa pb]) 200 [.t false, .t false, .k, .t true, .t true, .k, .k, .t true, .t true, .k]
    (And.intro rfl (And.intro i0 (And.intro i1 (And.intro la (And.intro ha (And.intro lb (And.intro hb True.intro))))))) (by kernel_rfl)

set_option maxRecDepth 100000 in
theorem rck_0 {pi pa pb : Int} (i0 : decide (pi < 0) = true) :
    Pure Try.prog 74 #[pointV pi pa pb] (.int .i64 8) :=
  pure_run (args := [pointV pi pa pb]) 200 [.t true]
    (And.intro rfl (And.intro i0 True.intro)) (by kernel_rfl)

set_option maxRecDepth 100000 in
theorem rck_1 {pi pa pb : Int} (i0 : decide (pi < 0) = false) (i1 : decide (pi > 65535) = true) :
    Pure Try.prog 74 #[pointV pi pa pb] (.int .i64 8) :=
  pure_run (args := [pointV pi pa pb]) 200 [.t false, .t true]
    (And.intro rfl (And.intro i0 (And.intro i1 True.intro))) (by kernel_rfl)

set_option maxRecDepth 100000 in
theorem rck_2 {pi pa pb : Int} (i0 : decide (pi < 0) = false) (i1 : decide (pi > 65535) = false) (la : decide (pa < -1048576) = true) :
    Pure Try.prog 74 #[pointV pi pa pb] (.int .i64 8) :=
  pure_run (args := [pointV pi pa pb]) 200 [.t false, .t false, .t true]
    (And.intro rfl (And.intro i0 (And.intro i1 (And.intro la True.intro)))) (by kernel_rfl)

set_option maxRecDepth 100000 in
theorem rck_3 {pi pa pb : Int} (i0 : decide (pi < 0) = false) (i1 : decide (pi > 65535) = false) (la : decide (pa < -1048576) = false) (ha : decide (pa > 1048576) = true) :
    Pure Try.prog 74 #[pointV pi pa pb] (.int .i64 8) :=
  pure_run (args := [pointV pi pa pb]) 200 [.t false, .t false, .t false, .t true]
    (And.intro rfl (And.intro i0 (And.intro i1 (And.intro la (And.intro ha True.intro))))) (by kernel_rfl)

set_option maxRecDepth 100000 in
theorem rck_4 {pi pa pb : Int} (i0 : decide (pi < 0) = false) (i1 : decide (pi > 65535) = false) (la : decide (pa < -1048576) = false) (ha : decide (pa > 1048576) = false) (lb : decide (pb < -1048576) = true) :
    Pure Try.prog 74 #[pointV pi pa pb] (.int .i64 8) :=
  pure_run (args := [pointV pi pa pb]) 200 [.t false, .t false, .t false, .t false, .t true]
    (And.intro rfl (And.intro i0 (And.intro i1 (And.intro la (And.intro ha (And.intro lb True.intro)))))) (by kernel_rfl)

set_option maxRecDepth 100000 in
theorem rck_5 {pi pa pb : Int} (i0 : decide (pi < 0) = false) (i1 : decide (pi > 65535) = false) (la : decide (pa < -1048576) = false) (ha : decide (pa > 1048576) = false) (lb : decide (pb < -1048576) = false) (hb : decide (pb > 1048576) = true) :
    Pure Try.prog 74 #[pointV pi pa pb] (.int .i64 8) :=
  pure_run (args := [pointV pi pa pb]) 200 [.t false, .t false, .t false, .t false, .t false, .t true]
    (And.intro rfl (And.intro i0 (And.intro i1 (And.intro la (And.intro ha (And.intro lb (And.intro hb True.intro))))))) (by kernel_rfl)

set_option maxRecDepth 100000 in
theorem rck_ok {pi pa pb : Int} (i0 : decide (pi < 0) = false) (i1 : decide (pi > 65535) = false) (la : decide (pa < -1048576) = false) (ha : decide (pa > 1048576) = false) (lb : decide (pb < -1048576) = false) (hb : decide (pb > 1048576) = false) :
    Pure Try.prog 74 #[pointV pi pa pb] (.int .i64 0) :=
  pure_run (args := [pointV pi pa pb]) 200 [.t false, .t false, .t false, .t false, .t false, .t false]
    (And.intro rfl (And.intro i0 (And.intro i1 (And.intro la (And.intro ha (And.intro lb (And.intro hb True.intro))))))) (by kernel_rfl)

set_option maxRecDepth 100000 in
theorem meeting_path {pi pa pb qi qa qb x y m n : Int} (v1 : Value.int .i64 (IntKind.i64.wrap (qa - pa)) = .int .i64 x) (v2 : Value.int .i64 (IntKind.i64.wrap (pb - qb)) = .int .i64 y) (c1 : Pure Try.prog 88 #[.int .i64 x, .int .i64 y] (.tuple #[ratioV m n, .int .i64 0])) :
    Pure Try.prog 81 #[pointV pi pa pb, pointV qi qa qb] (ratioV m n) :=
  pure_run (args := [pointV pi pa pb, pointV qi qa qb]) 200 [.r (.int .i64 x), .r (.int .i64 y), .r (.tuple #[ratioV m n, .int .i64 0])]
    (And.intro rfl (And.intro v1 (And.intro v2 (And.intro c1 True.intro)))) (by kernel_rfl)

set_option maxRecDepth 100000 in
theorem ahead_wt {pi pa pb qi qa qb n d : Int} (cp : Pure Try.prog 60 #[pointV pi pa pb] (.int .i64 0)) (cq : Pure Try.prog 60 #[pointV qi qa qb] (.int .i64 0)) (ct : Pure Try.prog 47 #[ratioV n d] (.int .i64 0)) (ci : Pure Try.prog 61 #[pointV pi pa pb, pointV qi qa qb] (.int .i64 0)) (w : (pa == qa && (pb == qb && true)) = true) (r : decide (pi < qi) = true) :
    Pure Try.prog 38 #[pointV pi pa pb, pointV qi qa qb, ratioV n d] (.tuple #[.bool true, .int .i64 0]) :=
  pure_run (args := [pointV pi pa pb, pointV qi qa qb, ratioV n d]) 200 [.r (.int .i64 0), .r (.int .i64 0), .r (.int .i64 0), .r (.int .i64 0), .k, .k, .k, .k, .k, .k, .k, .k, .k, .k, .k, .k, .k, .k, .k, .k, .k, .k, .t true, .k, .t true]
    (And.intro rfl (And.intro cp (And.intro cq (And.intro ct (And.intro ci (And.intro w (And.intro r True.intro))))))) (by kernel_rfl)

set_option maxRecDepth 100000 in
theorem ahead_bt {pi pa pb qi qa qb n d : Int} (cp : Pure Try.prog 60 #[pointV pi pa pb] (.int .i64 0)) (cq : Pure Try.prog 60 #[pointV qi qa qb] (.int .i64 0)) (ct : Pure Try.prog 47 #[ratioV n d] (.int .i64 0)) (ci : Pure Try.prog 61 #[pointV pi pa pb, pointV qi qa qb] (.int .i64 0)) (w : (pa == qa && (pb == qb && true)) = false) (bb : (pb == qb) = true) (r : decide (pa > qa) = true) :
    Pure Try.prog 38 #[pointV pi pa pb, pointV qi qa qb, ratioV n d] (.tuple #[.bool true, .int .i64 0]) :=
  pure_run (args := [pointV pi pa pb, pointV qi qa qb, ratioV n d]) 200 [.r (.int .i64 0), .r (.int .i64 0), .r (.int .i64 0), .r (.int .i64 0), .k, .k, .k, .k, .k, .k, .k, .k, .k, .k, .k, .k, .k, .k, .k, .k, .k, .k, .t false, .t true, .k, .t true]
    (And.intro rfl (And.intro cp (And.intro cq (And.intro ct (And.intro ci (And.intro w (And.intro bb (And.intro r True.intro)))))))) (by kernel_rfl)

set_option maxRecDepth 100000 in
theorem ahead_wf {pi pa pb qi qa qb n d : Int} (cp : Pure Try.prog 60 #[pointV pi pa pb] (.int .i64 0)) (cq : Pure Try.prog 60 #[pointV qi qa qb] (.int .i64 0)) (ct : Pure Try.prog 47 #[ratioV n d] (.int .i64 0)) (ci : Pure Try.prog 61 #[pointV pi pa pb, pointV qi qa qb] (.int .i64 0)) (w : (pa == qa && (pb == qb && true)) = true) (r : decide (pi < qi) = false) :
    Pure Try.prog 38 #[pointV pi pa pb, pointV qi qa qb, ratioV n d] (.tuple #[.bool false, .int .i64 0]) :=
  pure_run (args := [pointV pi pa pb, pointV qi qa qb, ratioV n d]) 200 [.r (.int .i64 0), .r (.int .i64 0), .r (.int .i64 0), .r (.int .i64 0), .k, .k, .k, .k, .k, .k, .k, .k, .k, .k, .k, .k, .k, .k, .k, .k, .k, .k, .t true, .k, .t false]
    (And.intro rfl (And.intro cp (And.intro cq (And.intro ct (And.intro ci (And.intro w (And.intro r True.intro))))))) (by kernel_rfl)

set_option maxRecDepth 100000 in
theorem ahead_bf {pi pa pb qi qa qb n d : Int} (cp : Pure Try.prog 60 #[pointV pi pa pb] (.int .i64 0)) (cq : Pure Try.prog 60 #[pointV qi qa qb] (.int .i64 0)) (ct : Pure Try.prog 47 #[ratioV n d] (.int .i64 0)) (ci : Pure Try.prog 61 #[pointV pi pa pb, pointV qi qa qb] (.int .i64 0)) (w : (pa == qa && (pb == qb && true)) = false) (bb : (pb == qb) = true) (r : decide (pa > qa) = false) :
    Pure Try.prog 38 #[pointV pi pa pb, pointV qi qa qb, ratioV n d] (.tuple #[.bool false, .int .i64 0]) :=
  pure_run (args := [pointV pi pa pb, pointV qi qa qb, ratioV n d]) 200 [.r (.int .i64 0), .r (.int .i64 0), .r (.int .i64 0), .r (.int .i64 0), .k, .k, .k, .k, .k, .k, .k, .k, .k, .k, .k, .k, .k, .k, .k, .k, .k, .k, .t false, .t true, .k, .t false]
    (And.intro rfl (And.intro cp (And.intro cq (And.intro ct (And.intro ci (And.intro w (And.intro bb (And.intro r True.intro)))))))) (by kernel_rfl)

set_option maxRecDepth 100000 in
theorem ahead_mtt {pi pa pb qi qa qb n d mn md k : Int} (cp : Pure Try.prog 60 #[pointV pi pa pb] (.int .i64 0)) (cq : Pure Try.prog 60 #[pointV qi qa qb] (.int .i64 0)) (ct : Pure Try.prog 47 #[ratioV n d] (.int .i64 0)) (ci : Pure Try.prog 61 #[pointV pi pa pb, pointV qi qa qb] (.int .i64 0)) (w : (pa == qa && (pb == qb && true)) = false) (bb : (pb == qb) = false) (cm : Pure Try.prog 81 #[pointV pi pa pb, pointV qi qa qb] (ratioV mn md)) (cc : Pure Try.prog 83 #[ratioV n d, ratioV mn md] (.tuple #[.int .i64 k, .int .i64 0])) (g1 : decide (k ≥ 0) = true) (g2 : decide (pb > qb) = true) :
    Pure Try.prog 38 #[pointV pi pa pb, pointV qi qa qb, ratioV n d] (.tuple #[.bool true, .int .i64 0]) :=
  pure_run (args := [pointV pi pa pb, pointV qi qa qb, ratioV n d]) 200 [.r (.int .i64 0), .r (.int .i64 0), .r (.int .i64 0), .r (.int .i64 0), .k, .k, .k, .k, .k, .k, .k, .k, .k, .k, .k, .k, .k, .k, .k, .k, .k, .k, .t false, .t false, .r (ratioV mn md), .k, .r (.tuple #[.int .i64 k, .int .i64 0]), .t true, .t true]
    (And.intro rfl (And.intro cp (And.intro cq (And.intro ct (And.intro ci (And.intro w (And.intro bb (And.intro cm (And.intro cc (And.intro g1 (And.intro g2 True.intro))))))))))) (by kernel_rfl)

set_option maxRecDepth 100000 in
theorem ahead_mtf {pi pa pb qi qa qb n d mn md k : Int} (cp : Pure Try.prog 60 #[pointV pi pa pb] (.int .i64 0)) (cq : Pure Try.prog 60 #[pointV qi qa qb] (.int .i64 0)) (ct : Pure Try.prog 47 #[ratioV n d] (.int .i64 0)) (ci : Pure Try.prog 61 #[pointV pi pa pb, pointV qi qa qb] (.int .i64 0)) (w : (pa == qa && (pb == qb && true)) = false) (bb : (pb == qb) = false) (cm : Pure Try.prog 81 #[pointV pi pa pb, pointV qi qa qb] (ratioV mn md)) (cc : Pure Try.prog 83 #[ratioV n d, ratioV mn md] (.tuple #[.int .i64 k, .int .i64 0])) (g1 : decide (k ≥ 0) = true) (g2 : decide (pb > qb) = false) :
    Pure Try.prog 38 #[pointV pi pa pb, pointV qi qa qb, ratioV n d] (.tuple #[.bool false, .int .i64 0]) :=
  pure_run (args := [pointV pi pa pb, pointV qi qa qb, ratioV n d]) 200 [.r (.int .i64 0), .r (.int .i64 0), .r (.int .i64 0), .r (.int .i64 0), .k, .k, .k, .k, .k, .k, .k, .k, .k, .k, .k, .k, .k, .k, .k, .k, .k, .k, .t false, .t false, .r (ratioV mn md), .k, .r (.tuple #[.int .i64 k, .int .i64 0]), .t true, .t false]
    (And.intro rfl (And.intro cp (And.intro cq (And.intro ct (And.intro ci (And.intro w (And.intro bb (And.intro cm (And.intro cc (And.intro g1 (And.intro g2 True.intro))))))))))) (by kernel_rfl)

set_option maxRecDepth 100000 in
theorem ahead_mft {pi pa pb qi qa qb n d mn md k : Int} (cp : Pure Try.prog 60 #[pointV pi pa pb] (.int .i64 0)) (cq : Pure Try.prog 60 #[pointV qi qa qb] (.int .i64 0)) (ct : Pure Try.prog 47 #[ratioV n d] (.int .i64 0)) (ci : Pure Try.prog 61 #[pointV pi pa pb, pointV qi qa qb] (.int .i64 0)) (w : (pa == qa && (pb == qb && true)) = false) (bb : (pb == qb) = false) (cm : Pure Try.prog 81 #[pointV pi pa pb, pointV qi qa qb] (ratioV mn md)) (cc : Pure Try.prog 83 #[ratioV n d, ratioV mn md] (.tuple #[.int .i64 k, .int .i64 0])) (g1 : decide (k ≥ 0) = false) (g2 : decide (pb > qb) = true) :
    Pure Try.prog 38 #[pointV pi pa pb, pointV qi qa qb, ratioV n d] (.tuple #[.bool false, .int .i64 0]) :=
  pure_run (args := [pointV pi pa pb, pointV qi qa qb, ratioV n d]) 200 [.r (.int .i64 0), .r (.int .i64 0), .r (.int .i64 0), .r (.int .i64 0), .k, .k, .k, .k, .k, .k, .k, .k, .k, .k, .k, .k, .k, .k, .k, .k, .k, .k, .t false, .t false, .r (ratioV mn md), .k, .r (.tuple #[.int .i64 k, .int .i64 0]), .t false, .t true]
    (And.intro rfl (And.intro cp (And.intro cq (And.intro ct (And.intro ci (And.intro w (And.intro bb (And.intro cm (And.intro cc (And.intro g1 (And.intro g2 True.intro))))))))))) (by kernel_rfl)

set_option maxRecDepth 100000 in
theorem ahead_mff {pi pa pb qi qa qb n d mn md k : Int} (cp : Pure Try.prog 60 #[pointV pi pa pb] (.int .i64 0)) (cq : Pure Try.prog 60 #[pointV qi qa qb] (.int .i64 0)) (ct : Pure Try.prog 47 #[ratioV n d] (.int .i64 0)) (ci : Pure Try.prog 61 #[pointV pi pa pb, pointV qi qa qb] (.int .i64 0)) (w : (pa == qa && (pb == qb && true)) = false) (bb : (pb == qb) = false) (cm : Pure Try.prog 81 #[pointV pi pa pb, pointV qi qa qb] (ratioV mn md)) (cc : Pure Try.prog 83 #[ratioV n d, ratioV mn md] (.tuple #[.int .i64 k, .int .i64 0])) (g1 : decide (k ≥ 0) = false) (g2 : decide (pb > qb) = false) :
    Pure Try.prog 38 #[pointV pi pa pb, pointV qi qa qb, ratioV n d] (.tuple #[.bool true, .int .i64 0]) :=
  pure_run (args := [pointV pi pa pb, pointV qi qa qb, ratioV n d]) 200 [.r (.int .i64 0), .r (.int .i64 0), .r (.int .i64 0), .r (.int .i64 0), .k, .k, .k, .k, .k, .k, .k, .k, .k, .k, .k, .k, .k, .k, .k, .k, .k, .k, .t false, .t false, .r (ratioV mn md), .k, .r (.tuple #[.int .i64 k, .int .i64 0]), .t false, .t false]
    (And.intro rfl (And.intro cp (And.intro cq (And.intro ct (And.intro ci (And.intro w (And.intro bb (And.intro cm (And.intro cc (And.intro g1 (And.intro g2 True.intro))))))))))) (by kernel_rfl)

set_option maxRecDepth 100000 in
theorem ids_n {pi pa pb qi qa qb : Int} (ij : (pi == qi) = false) :
    Pure Try.prog 61 #[pointV pi pa pb, pointV qi qa qb] (.int .i64 0) :=
  pure_run (args := [pointV pi pa pb, pointV qi qa qb]) 200 [.t false]
    (And.intro rfl (And.intro ij True.intro)) (by kernel_rfl)
end Go.Proofs.Ytjjmnoiffpnphaa
