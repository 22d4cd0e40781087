/-
  Joined: Cp, Cs, Cu, Pl. Conditions: none.
-/
import Derived.Test.YtpngjeloiifgnaaGreatW26
import Derived.Laws.Bits64b
namespace Go.Proofs.YtpngjeloiifgnaaGreat
open Go.RowKit
abbrev pointV (n a b : Int) : Value := .agg #[.int .i64 n, .int .i64 a, .int .i64 b]

set_option maxRecDepth 100000 in
theorem ck_i0 {pi pa pb : Int} (i0 : decide (pi < 0) = true) :
    Pure Tryz.prog 52 #[pointV pi pa pb] (.int .i64 8) :=
  pure_run (args := [pointV pi pa pb]) 200 [.t true]
    (And.intro rfl (And.intro i0 True.intro)) (by kernel_rfl)

set_option maxRecDepth 100000 in
theorem ck_i1 {pi pa pb : Int} (i0 : decide (pi < 0) = false) (i1 : decide (pi > 65535) = true) :
    Pure Tryz.prog 52 #[pointV pi pa pb] (.int .i64 8) :=
  pure_run (args := [pointV pi pa pb]) 200 [.t false, .t true]
    (And.intro rfl (And.intro i0 (And.intro i1 True.intro))) (by kernel_rfl)

set_option maxRecDepth 100000 in
theorem ck_al {pi pa pb : Int} (i0 : decide (pi < 0) = false) (i1 : decide (pi > 65535) = false) (la : decide (-1048576 ≤ pa) = false) :
    Pure Tryz.prog 52 #[pointV pi pa pb] (.int .i64 8) :=
  pure_run (args := [pointV pi pa pb]) 200 [.t false, .t false, .k, .t false, .k]
    (And.intro rfl (And.intro i0 (And.intro i1 (And.intro la True.intro)))) (by kernel_rfl)

set_option maxRecDepth 100000 in
theorem ck_ah {pi pa pb : Int} (i0 : decide (pi < 0) = false) (i1 : decide (pi > 65535) = false) (la : decide (-1048576 ≤ pa) = true) (ha : decide (pa ≤ 1048576) = false) :
    Pure Tryz.prog 52 #[pointV pi pa pb] (.int .i64 8) :=
  pure_run (args := [pointV pi pa pb]) 200 [.t false, .t false, .k, .t true, .t false, .k]
    (And.intro rfl (And.intro i0 (And.intro i1 (And.intro la (And.intro ha True.intro))))) (by kernel_rfl)

set_option maxRecDepth 100000 in
theorem ck_bl {pi pa pb : Int} (i0 : decide (pi < 0) = false) (i1 : decide (pi > 65535) = false) (la : decide (-1048576 ≤ pa) = true) (ha : decide (pa ≤ 1048576) = true) (lb : decide (-1048576 ≤ pb) = false) :
    Pure Tryz.prog 52 #[pointV pi pa pb] (.int .i64 8) :=
  pure_run (args := [pointV pi pa pb]) 200 [.t false, .t false, .k, .t true, .t true, .k, .k, .t false, .k]
    (And.intro rfl (And.intro i0 (And.intro i1 (And.intro la (And.intro ha (And.intro lb True.intro)))))) (by kernel_rfl)

set_option maxRecDepth 100000 in
theorem ck_bh {pi pa pb : Int} (i0 : decide (pi < 0) = false) (i1 : decide (pi > 65535) = false) (la : decide (-1048576 ≤ pa) = true) (ha : decide (pa ≤ 1048576) = true) (lb : decide (-1048576 ≤ pb) = true) (hb : decide (pb ≤ 1048576) = false) :
    Pure Tryz.prog 52 #[pointV pi pa pb] (.int .i64 8) :=
  pure_run (args := [pointV pi pa pb]) 200 [.t false, .t false, .k, .t true, .t true, .k, .k, .t true, .t false, .k]
    (And.intro rfl (And.intro i0 (And.intro i1 (And.intro la (And.intro ha (And.intro lb (And.intro hb True.intro))))))) (by kernel_rfl)

set_option maxRecDepth 100000 in
theorem ck_ok {pi pa pb : Int} (i0 : decide (pi < 0) = false) (i1 : decide (pi > 65535) = false) (la : decide (-1048576 ≤ pa) = true) (ha : decide (pa ≤ 1048576) = true) (lb : decide (-1048576 ≤ pb) = true) (hb : decide (pb ≤ 1048576) = true) :
    Pure Tryz.prog 52 #[pointV pi pa pb] (.int .i64 0) :=
  pure_run (args := [pointV pi pa pb]) 200 [.t false, .t false, .k, .t true, .t true, .k, .k, .t true, .t true, .k]
    (And.intro rfl (And.intro i0 (And.intro i1 (And.intro la (And.intro ha (And.intro lb (And.intro hb True.intro))))))) (by kernel_rfl)

set_option maxRecDepth 100000 in
theorem rck_0 {pi pa pb : Int} (i0 : decide (pi < 0) = true) :
    Pure Tryz.prog 62 #[pointV pi pa pb] (.int .i64 8) :=
  pure_run (args := [pointV pi pa pb]) 200 [.t true]
    (And.intro rfl (And.intro i0 True.intro)) (by kernel_rfl)

set_option maxRecDepth 100000 in
theorem rck_1 {pi pa pb : Int} (i0 : decide (pi < 0) = false) (i1 : decide (pi > 65535) = true) :
    Pure Tryz.prog 62 #[pointV pi pa pb] (.int .i64 8) :=
  pure_run (args := [pointV pi pa pb]) 200 [.t false, .t true]
    (And.intro rfl (And.intro i0 (And.intro i1 True.intro))) (by kernel_rfl)

set_option maxRecDepth 100000 in
theorem rck_2 {pi pa pb : Int} (i0 : decide (pi < 0) = false) (i1 : decide (pi > 65535) = false) (la : decide (pa < -1048576) = true) :
    Pure Tryz.prog 62 #[pointV pi pa pb] (.int .i64 8) :=
  pure_run (args := [pointV pi pa pb]) 200 [.t false, .t false, .t true]
    (And.intro rfl (And.intro i0 (And.intro i1 (And.intro la True.intro)))) (by kernel_rfl)

set_option maxRecDepth 100000 in
theorem rck_3 {pi pa pb : Int} (i0 : decide (pi < 0) = false) (i1 : decide (pi > 65535) = false) (la : decide (pa < -1048576) = false) (ha : decide (pa > 1048576) = true) :
    Pure Tryz.prog 62 #[pointV pi pa pb] (.int .i64 8) :=
  pure_run (args := [pointV pi pa pb]) 200 [.t false, .t false, .t false, .t true]
    (And.intro rfl (And.intro i0 (And.intro i1 (And.intro la (And.intro ha True.intro))))) (by kernel_rfl)

set_option maxRecDepth 100000 in
theorem rck_4 {pi pa pb : Int} (i0 : decide (pi < 0) = false) (i1 : decide (pi > 65535) = false) (la : decide (pa < -1048576) = false) (ha : decide (pa > 1048576) = false) (lb : decide (pb < -1048576) = true) :
    Pure Tryz.prog 62 #[pointV pi pa pb] (.int .i64 8) :=
  pure_run (args := [pointV pi pa pb]) 200 [.t false, .t false, .t false, .t false, .t true]
    (And.intro rfl (And.intro i0 (And.intro i1 (And.intro la (And.intro ha (And.intro lb True.intro)))))) (by kernel_rfl)

set_option maxRecDepth 100000 in
theorem rck_5 {pi pa pb : Int} (i0 : decide (pi < 0) = false) (i1 : decide (pi > 65535) = false) (la : decide (pa < -1048576) = false) (ha : decide (pa > 1048576) = false) (lb : decide (pb < -1048576) = false) (hb : decide (pb > 1048576) = true) :
    Pure Tryz.prog 62 #[pointV pi pa pb] (.int .i64 8) :=
  pure_run (args := [pointV pi pa pb]) 200 [.t false, .t false, .t false, .t false, .t false, .t true]
    (And.intro rfl (And.intro i0 (And.intro i1 (And.intro la (And.intro ha (And.intro lb (And.intro hb True.intro))))))) (by kernel_rfl)

set_option maxRecDepth 100000 in
theorem rck_ok {pi pa pb : Int} (i0 : decide (pi < 0) = false) (i1 : decide (pi > 65535) = false) (la : decide (pa < -1048576) = false) (ha : decide (pa > 1048576) = false) (lb : decide (pb < -1048576) = false) (hb : decide (pb > 1048576) = false) :
    Pure Tryz.prog 62 #[pointV pi pa pb] (.int .i64 0) :=
  pure_run (args := [pointV pi pa pb]) 200 [.t false, .t false, .t false, .t false, .t false, .t false]
    (And.intro rfl (And.intro i0 (And.intro i1 (And.intro la (And.intro ha (And.intro lb (And.intro hb True.intro))))))) (by kernel_rfl)

set_option maxRecDepth 100000 in
theorem meeting_path {pi pa pb qi qa qb x y m n : Int} (v1 : Value.int .i64 (IntKind.i64.wrap (qa - pa)) = .int .i64 x) (v2 : Value.int .i64 (IntKind.i64.wrap (pb - qb)) = .int .i64 y) (c1 : Pure Tryz.prog 116 #[.int .i64 x, .int .i64 y] (.tuple #[ratioV m n, .int .i64 0])) :
    Pure Tryz.prog 147 #[pointV pi pa pb, pointV qi qa qb] (ratioV m n) :=
  pure_run (args := [pointV pi pa pb, pointV qi qa qb]) 200 [.r (.int .i64 x), .r (.int .i64 y), .r (.tuple #[ratioV m n, .int .i64 0])]
    (And.intro rfl (And.intro v1 (And.intro v2 (And.intro c1 True.intro)))) (by kernel_rfl)

set_option maxRecDepth 100000 in
theorem ahead_wt {pi pa pb qi qa qb n d : Int} (cp : Pure Tryz.prog 52 #[pointV pi pa pb] (.int .i64 0)) (cq : Pure Tryz.prog 52 #[pointV qi qa qb] (.int .i64 0)) (ct : Pure Tryz.prog 76 #[ratioV n d] (.int .i64 0)) (ci : Pure Tryz.prog 136 #[pointV pi pa pb, pointV qi qa qb] (.int .i64 0)) (w : (pa == qa && (pb == qb && true)) = true) (r : decide (pi < qi) = true) :
    Pure Tryz.prog 90 #[pointV pi pa pb, pointV qi qa qb, ratioV n d] (.tuple #[.bool true, .int .i64 0]) :=
  pure_run (args := [pointV pi pa pb, pointV qi qa qb, ratioV n d]) 200 [.r (.int .i64 0), .r (.int .i64 0), .r (.int .i64 0), .r (.int .i64 0), .k, .k, .k, .k, .k, .k, .k, .k, .k, .k, .k, .k, .k, .k, .k, .k, .k, .k, .t true, .k, .t true]
    (And.intro rfl (And.intro cp (And.intro cq (And.intro ct (And.intro ci (And.intro w (And.intro r True.intro))))))) (by kernel_rfl)

set_option maxRecDepth 100000 in
theorem ahead_bt {pi pa pb qi qa qb n d : Int} (cp : Pure Tryz.prog 52 #[pointV pi pa pb] (.int .i64 0)) (cq : Pure Tryz.prog 52 #[pointV qi qa qb] (.int .i64 0)) (ct : Pure Tryz.prog 76 #[ratioV n d] (.int .i64 0)) (ci : Pure Tryz.prog 136 #[pointV pi pa pb, pointV qi qa qb] (.int .i64 0)) (w : (pa == qa && (pb == qb && true)) = false) (bb : (pb == qb) = true) (r : decide (pa > qa) = true) :
    Pure Tryz.prog 90 #[pointV pi pa pb, pointV qi qa qb, ratioV n d] (.tuple #[.bool true, .int .i64 0]) :=
  pure_run (args := [pointV pi pa pb, pointV qi qa qb, ratioV n d]) 200 [.r (.int .i64 0), .r (.int .i64 0), .r (.int .i64 0), .r (.int .i64 0), .k, .k, .k, .k, .k, .k, .k, .k, .k, .k, .k, .k, .k, .k, .k, .k, .k, .k, .t false, .t true, .k, .t true]
    (And.intro rfl (And.intro cp (And.intro cq (And.intro ct (And.intro ci (And.intro w (And.intro bb (And.intro r True.intro)))))))) (by kernel_rfl)

set_option maxRecDepth 100000 in
theorem ahead_wf {pi pa pb qi qa qb n d : Int} (cp : Pure Tryz.prog 52 #[pointV pi pa pb] (.int .i64 0)) (cq : Pure Tryz.prog 52 #[pointV qi qa qb] (.int .i64 0)) (ct : Pure Tryz.prog 76 #[ratioV n d] (.int .i64 0)) (ci : Pure Tryz.prog 136 #[pointV pi pa pb, pointV qi qa qb] (.int .i64 0)) (w : (pa == qa && (pb == qb && true)) = true) (r : decide (pi < qi) = false) :
    Pure Tryz.prog 90 #[pointV pi pa pb, pointV qi qa qb, ratioV n d] (.tuple #[.bool false, .int .i64 0]) :=
  pure_run (args := [pointV pi pa pb, pointV qi qa qb, ratioV n d]) 200 [.r (.int .i64 0), .r (.int .i64 0), .r (.int .i64 0), .r (.int .i64 0), .k, .k, .k, .k, .k, .k, .k, .k, .k, .k, .k, .k, .k, .k, .k, .k, .k, .k, .t true, .k, .t false]
    (And.intro rfl (And.intro cp (And.intro cq (And.intro ct (And.intro ci (And.intro w (And.intro r True.intro))))))) (by kernel_rfl)

set_option maxRecDepth 100000 in
theorem ahead_bf {pi pa pb qi qa qb n d : Int} (cp : Pure Tryz.prog 52 #[pointV pi pa pb] (.int .i64 0)) (cq : Pure Tryz.prog 52 #[pointV qi qa qb] (.int .i64 0)) (ct : Pure Tryz.prog 76 #[ratioV n d] (.int .i64 0)) (ci : Pure Tryz.prog 136 #[pointV pi pa pb, pointV qi qa qb] (.int .i64 0)) (w : (pa == qa && (pb == qb && true)) = false) (bb : (pb == qb) = true) (r : decide (pa > qa) = false) :
    Pure Tryz.prog 90 #[pointV pi pa pb, pointV qi qa qb, ratioV n d] (.tuple #[.bool false, .int .i64 0]) :=
  pure_run (args := [pointV pi pa pb, pointV qi qa qb, ratioV n d]) 200 [.r (.int .i64 0), .r (.int .i64 0), .r (.int .i64 0), .r (.int .i64 0), .k, .k, .k, .k, .k, .k, .k, .k, .k, .k, .k, .k, .k, .k, .k, .k, .k, .k, .t false, .t true, .k, .t false]
    (And.intro rfl (And.intro cp (And.intro cq (And.intro ct (And.intro ci (And.intro w (And.intro bb (And.intro r True.intro)))))))) (by kernel_rfl)

set_option maxRecDepth 100000 in
theorem ahead_mtt {pi pa pb qi qa qb n d mn md k : Int} (cp : Pure Tryz.prog 52 #[pointV pi pa pb] (.int .i64 0)) (cq : Pure Tryz.prog 52 #[pointV qi qa qb] (.int .i64 0)) (ct : Pure Tryz.prog 76 #[ratioV n d] (.int .i64 0)) (ci : Pure Tryz.prog 136 #[pointV pi pa pb, pointV qi qa qb] (.int .i64 0)) (w : (pa == qa && (pb == qb && true)) = false) (bb : (pb == qb) = false) (cm : Pure Tryz.prog 147 #[pointV pi pa pb, pointV qi qa qb] (ratioV mn md)) (cc : Pure Tryz.prog 49 #[ratioV n d, ratioV mn md] (.tuple #[.int .i64 k, .int .i64 0])) (g1 : decide (k ≥ 0) = true) (g2 : decide (pb > qb) = true) :
    Pure Tryz.prog 90 #[pointV pi pa pb, pointV qi qa qb, ratioV n d] (.tuple #[.bool true, .int .i64 0]) :=
  pure_run (args := [pointV pi pa pb, pointV qi qa qb, ratioV n d]) 200 [.r (.int .i64 0), .r (.int .i64 0), .r (.int .i64 0), .r (.int .i64 0), .k, .k, .k, .k, .k, .k, .k, .k, .k, .k, .k, .k, .k, .k, .k, .k, .k, .k, .t false, .t false, .r (ratioV mn md), .k, .r (.tuple #[.int .i64 k, .int .i64 0]), .t true, .t true]
    (And.intro rfl (And.intro cp (And.intro cq (And.intro ct (And.intro ci (And.intro w (And.intro bb (And.intro cm (And.intro cc (And.intro g1 (And.intro g2 True.intro))))))))))) (by kernel_rfl)

set_option maxRecDepth 100000 in
theorem ahead_mtf {pi pa pb qi qa qb n d mn md k : Int} (cp : Pure Tryz.prog 52 #[pointV pi pa pb] (.int .i64 0)) (cq : Pure Tryz.prog 52 #[pointV qi qa qb] (.int .i64 0)) (ct : Pure Tryz.prog 76 #[ratioV n d] (.int .i64 0)) (ci : Pure Tryz.prog 136 #[pointV pi pa pb, pointV qi qa qb] (.int .i64 0)) (w : (pa == qa && (pb == qb && true)) = false) (bb : (pb == qb) = false) (cm : Pure Tryz.prog 147 #[pointV pi pa pb, pointV qi qa qb] (ratioV mn md)) (cc : Pure Tryz.prog 49 #[ratioV n d, ratioV mn md] (.tuple #[.int .i64 k, .int .i64 0])) (g1 : decide (k ≥ 0) = true) (g2 : decide (pb > qb) = false) :
    Pure Tryz.prog 90 #[pointV pi pa pb, pointV qi qa qb, ratioV n d] (.tuple #[.bool false, .int .i64 0]) :=
  pure_run (args := [pointV pi pa pb, pointV qi qa qb, ratioV n d]) 200 [.r (.int .i64 0), .r (.int .i64 0), .r (.int .i64 0), .r (.int .i64 0), .k, .k, .k, .k, .k, .k, .k, .k, .k, .k, .k, .k, .k, .k, .k, .k, .k, .k, .t false, .t false, .r (ratioV mn md), .k, .r (.tuple #[.int .i64 k, .int .i64 0]), .t true, .t false]
    (And.intro rfl (And.intro cp (And.intro cq (And.intro ct (And.intro ci (And.intro w (And.intro bb (And.intro cm (And.intro cc (And.intro g1 (And.intro g2 True.intro))))))))))) (by kernel_rfl)

set_option maxRecDepth 100000 in
theorem ahead_mft {pi pa pb qi qa qb n d mn md k : Int} (cp : Pure Tryz.prog 52 #[pointV pi pa pb] (.int .i64 0)) (cq : Pure Tryz.prog 52 #[pointV qi qa qb] (.int .i64 0)) (ct : Pure Tryz.prog 76 #[ratioV n d] (.int .i64 0)) (ci : Pure Tryz.prog 136 #[pointV pi pa pb, pointV qi qa qb] (.int .i64 0)) (w : (pa == qa && (pb == qb && true)) = false) (bb : (pb == qb) = false) (cm : Pure Tryz.prog 147 #[pointV pi pa pb, pointV qi qa qb] (ratioV mn md)) (cc : Pure Tryz.prog 49 #[ratioV n d, ratioV mn md] (.tuple #[.int .i64 k, .int .i64 0])) (g1 : decide (k ≥ 0) = false) (g2 : decide (pb > qb) = true) :
    Pure Tryz.prog 90 #[pointV pi pa pb, pointV qi qa qb, ratioV n d] (.tuple #[.bool false, .int .i64 0]) :=
  pure_run (args := [pointV pi pa pb, pointV qi qa qb, ratioV n d]) 200 [.r (.int .i64 0), .r (.int .i64 0), .r (.int .i64 0), .r (.int .i64 0), .k, .k, .k, .k, .k, .k, .k, .k, .k, .k, .k, .k, .k, .k, .k, .k, .k, .k, .t false, .t false, .r (ratioV mn md), .k, .r (.tuple #[.int .i64 k, .int .i64 0]), .t false, .t true]
    (And.intro rfl (And.intro cp (And.intro cq (And.intro ct (And.intro ci (And.intro w (And.intro bb (And.intro cm (And.intro cc (And.intro g1 (And.intro g2 True.intro))))))))))) (by kernel_rfl)

set_option maxRecDepth 100000 in
theorem ahead_mff {pi pa pb qi qa qb n d mn md k : Int} (cp : Pure Tryz.prog 52 #[pointV pi pa pb] (.int .i64 0)) (cq : Pure Tryz.prog 52 #[pointV qi qa qb] (.int .i64 0)) (ct : Pure Tryz.prog 76 #[ratioV n d] (.int .i64 0)) (ci : Pure Tryz.prog 136 #[pointV pi pa pb, pointV qi qa qb] (.int .i64 0)) (w : (pa == qa && (pb == qb && true)) = false) (bb : (pb == qb) = false) (cm : Pure Tryz.prog 147 #[pointV pi pa pb, pointV qi qa qb] (ratioV mn md)) (cc : Pure Tryz.prog 49 #[ratioV n d, ratioV mn md] (.tuple #[.int .i64 k, .int .i64 0])) (g1 : decide (k ≥ 0) = false) (g2 : decide (pb > qb) = false) :
    Pure Tryz.prog 90 #[pointV pi pa pb, pointV qi qa qb, ratioV n d] (.tuple #[.bool true, .int .i64 0]) :=
  pure_run (args := [pointV pi pa pb, pointV qi qa qb, ratioV n d]) 200 [.r (.int .i64 0), .r (.int .i64 0), .r (.int .i64 0), .r (.int .i64 0), .k, .k, .k, .k, .k, .k, .k, .k, .k, .k, .k, .k, .k, .k, .k, .k, .k, .k, .t false, .t false, .r (ratioV mn md), .k, .r (.tuple #[.int .i64 k, .int .i64 0]), .t false, .t false]
    (And.intro rfl (And.intro cp (And.intro cq (And.intro ct (And.intro ci (And.intro w (And.intro bb (And.intro cm (And.intro cc (And.intro g1 (And.intro g2 True.intro))))))))))) (by kernel_rfl)

set_option maxRecDepth 100000 in
theorem ids_e {pi pa pb qi qa qb : Int} (ij : (pi == qi) = true) :
    Pure Tryz.prog 136 #[pointV pi pa pb, pointV qi qa qb] (.int .i64 2) :=
  pure_run (args := [pointV pi pa pb, pointV qi qa qb]) 200 [.t true]
    (And.intro rfl (And.intro ij True.intro)) (by kernel_rfl)

set_option maxRecDepth 100000 in
theorem ids_n {pi pa pb qi qa qb : Int} (ij : (pi == qi) = false) :
    Pure Tryz.prog 136 #[pointV pi pa pb, pointV qi qa qb] (.int .i64 0) :=
  pure_run (args := [pointV pi pa pb, pointV qi qa qb]) 200 [.t false]
    (And.intro rfl (And.intro ij True.intro)) (by kernel_rfl)
end Go.Proofs.YtpngjeloiifgnaaGreat

namespace Go.Proofs.YtpngjeloiifgnaaGreat
open Go.RowKit
set_option maxRecDepth 100000 in
theorem meet_same {pi pa pb qi qa qb : Int} (cp : Pure Tryz.prog 52 #[pointV pi pa pb] (.int .i64 0)) (cq : Pure Tryz.prog 52 #[pointV qi qa qb] (.int .i64 0)) (ci : Pure Tryz.prog 136 #[pointV pi pa pb, pointV qi qa qb] (.int .i64 0)) (bb : (pb == qb) = true) :
    Pure Tryz.prog 161 #[pointV pi pa pb, pointV qi qa qb] (.tuple #[ratioV 0 0, .int .i64 6]) :=
  pure_run (args := [pointV pi pa pb, pointV qi qa qb]) 200 [.r (.int .i64 0), .r (.int .i64 0), .r (.int .i64 0), .k, .k, .k, .k, .k, .k, .k, .k, .k, .k, .k, .k, .t true]
    (And.intro rfl (And.intro cp (And.intro cq (And.intro ci (And.intro bb True.intro))))) (by kernel_rfl)

set_option maxRecDepth 100000 in
theorem meet_diff {pi pa pb qi qa qb m k : Int} (cp : Pure Tryz.prog 52 #[pointV pi pa pb] (.int .i64 0)) (cq : Pure Tryz.prog 52 #[pointV qi qa qb] (.int .i64 0)) (ci : Pure Tryz.prog 136 #[pointV pi pa pb, pointV qi qa qb] (.int .i64 0)) (bb : (pb == qb) = false) (cm : Pure Tryz.prog 147 #[pointV pi pa pb, pointV qi qa qb] (ratioV m k)) :
    Pure Tryz.prog 161 #[pointV pi pa pb, pointV qi qa qb] (.tuple #[ratioV m k, .int .i64 0]) :=
  pure_run (args := [pointV pi pa pb, pointV qi qa qb]) 200 [.r (.int .i64 0), .r (.int .i64 0), .r (.int .i64 0), .k, .k, .k, .k, .k, .k, .k, .k, .k, .k, .k, .k, .t false, .r (ratioV m k)]
    (And.intro rfl (And.intro cp (And.intro cq (And.intro ci (And.intro bb (And.intro cm True.intro)))))) (by kernel_rfl)

end Go.Proofs.YtpngjeloiifgnaaGreat

namespace Go.Proofs.YtpngjeloiifgnaaGreat
open Go.RowKit
set_option maxRecDepth 100000 in
theorem fails_e3 {pi pa pb qi qa qb n d : Int} (cp : Pure Tryz.prog 52 #[pointV pi pa pb] (.int .i64 0)) (cq : Pure Tryz.prog 52 #[pointV qi qa qb] (.int .i64 0)) (ct : Pure Tryz.prog 76 #[ratioV n d] (.int .i64 0)) (ci : Pure Tryz.prog 136 #[pointV pi pa pb, pointV qi qa qb] (.int .i64 2)) :
    Pure Tryz.prog 109 #[pointV pi pa pb, pointV qi qa qb, ratioV n d] (.tuple #[ratioV 0 0, .bool false, .int .i64 2]) :=
  pure_run (args := [pointV pi pa pb, pointV qi qa qb, ratioV n d]) 200 [.r (.int .i64 0), .r (.int .i64 0), .r (.int .i64 0), .r (.int .i64 2), .k, .k, .k, .k, .k, .k, .k, .k, .k, .k, .k, .k, .k]
    (And.intro rfl (And.intro cp (And.intro cq (And.intro ct (And.intro ci True.intro))))) (by kernel_rfl)

set_option maxRecDepth 100000 in
theorem fails_wf {pi pa pb qi qa qb n d : Int} (cp : Pure Tryz.prog 52 #[pointV pi pa pb] (.int .i64 0)) (cq : Pure Tryz.prog 52 #[pointV qi qa qb] (.int .i64 0)) (ct : Pure Tryz.prog 76 #[ratioV n d] (.int .i64 0)) (ci : Pure Tryz.prog 136 #[pointV pi pa pb, pointV qi qa qb] (.int .i64 0)) (w : (qa == pa && (qb == pb && true)) = true) (r : decide (qi < pi) = false) (gb : decide (qb > pb) = false) :
    Pure Tryz.prog 109 #[pointV pi pa pb, pointV qi qa qb, ratioV n d] (.tuple #[ratioV 0 0, .bool false, .int .i64 0]) :=
  pure_run (args := [pointV pi pa pb, pointV qi qa qb, ratioV n d]) 400 [.r (.int .i64 0), .r (.int .i64 0), .r (.int .i64 0), .r (.int .i64 0), .k, .k, .k, .k, .k, .k, .k, .k, .k, .k, .k, .k, .k, .k, .k, .k, .k, .k, .t true, .k, .t false, .t false]
    (And.intro rfl (And.intro cp (And.intro cq (And.intro ct (And.intro ci (And.intro w (And.intro r (And.intro gb True.intro)))))))) (by kernel_rfl)

set_option maxRecDepth 100000 in
theorem fails_bf {pi pa pb qi qa qb n d : Int} (cp : Pure Tryz.prog 52 #[pointV pi pa pb] (.int .i64 0)) (cq : Pure Tryz.prog 52 #[pointV qi qa qb] (.int .i64 0)) (ct : Pure Tryz.prog 76 #[ratioV n d] (.int .i64 0)) (ci : Pure Tryz.prog 136 #[pointV pi pa pb, pointV qi qa qb] (.int .i64 0)) (w : (qa == pa && (qb == pb && true)) = false) (bb : (qb == pb) = true) (r : decide (qa > pa) = false) (gb : decide (qb > pb) = false) :
    Pure Tryz.prog 109 #[pointV pi pa pb, pointV qi qa qb, ratioV n d] (.tuple #[ratioV 0 0, .bool false, .int .i64 0]) :=
  pure_run (args := [pointV pi pa pb, pointV qi qa qb, ratioV n d]) 400 [.r (.int .i64 0), .r (.int .i64 0), .r (.int .i64 0), .r (.int .i64 0), .k, .k, .k, .k, .k, .k, .k, .k, .k, .k, .k, .k, .k, .k, .k, .k, .k, .k, .t false, .t true, .k, .t false, .t false]
    (And.intro rfl (And.intro cp (And.intro cq (And.intro ct (And.intro ci (And.intro w (And.intro bb (And.intro r (And.intro gb True.intro))))))))) (by kernel_rfl)

set_option maxRecDepth 100000 in
theorem fails_mtf {pi pa pb qi qa qb n d mn md c : Int} (cp : Pure Tryz.prog 52 #[pointV pi pa pb] (.int .i64 0)) (cq : Pure Tryz.prog 52 #[pointV qi qa qb] (.int .i64 0)) (ct : Pure Tryz.prog 76 #[ratioV n d] (.int .i64 0)) (ci : Pure Tryz.prog 136 #[pointV pi pa pb, pointV qi qa qb] (.int .i64 0)) (w : (qa == pa && (qb == pb && true)) = false) (bb : (qb == pb) = false) (cm : Pure Tryz.prog 147 #[pointV qi qa qb, pointV pi pa pb] (ratioV mn md)) (cc : Pure Tryz.prog 49 #[ratioV n d, ratioV mn md] (.tuple #[.int .i64 c, .int .i64 0])) (g1 : decide (c ≥ 0) = true) (gb : decide (qb > pb) = false) :
    Pure Tryz.prog 109 #[pointV pi pa pb, pointV qi qa qb, ratioV n d] (.tuple #[ratioV 0 0, .bool false, .int .i64 0]) :=
  pure_run (args := [pointV pi pa pb, pointV qi qa qb, ratioV n d]) 400 [.r (.int .i64 0), .r (.int .i64 0), .r (.int .i64 0), .r (.int .i64 0), .k, .k, .k, .k, .k, .k, .k, .k, .k, .k, .k, .k, .k, .k, .k, .k, .k, .k, .t false, .t false, .r (ratioV mn md), .k, .r (.tuple #[.int .i64 c, .int .i64 0]), .t true, .t false, .k, .t false]
    (And.intro rfl (And.intro cp (And.intro cq (And.intro ct (And.intro ci (And.intro w (And.intro bb (And.intro cm (And.intro cc (And.intro g1 (And.intro gb (And.intro gb True.intro)))))))))))) (by kernel_rfl)

set_option maxRecDepth 100000 in
theorem fails_mft {pi pa pb qi qa qb n d mn md c m k : Int} (cp : Pure Tryz.prog 52 #[pointV pi pa pb] (.int .i64 0)) (cq : Pure Tryz.prog 52 #[pointV qi qa qb] (.int .i64 0)) (ct : Pure Tryz.prog 76 #[ratioV n d] (.int .i64 0)) (ci : Pure Tryz.prog 136 #[pointV pi pa pb, pointV qi qa qb] (.int .i64 0)) (w : (qa == pa && (qb == pb && true)) = false) (bb : (qb == pb) = false) (cm : Pure Tryz.prog 147 #[pointV qi qa qb, pointV pi pa pb] (ratioV mn md)) (cc : Pure Tryz.prog 49 #[ratioV n d, ratioV mn md] (.tuple #[.int .i64 c, .int .i64 0])) (g1 : decide (c ≥ 0) = false) (gb : decide (qb > pb) = true) (mt : Pure Tryz.prog 147 #[pointV pi pa pb, pointV qi qa qb] (ratioV m k)) :
    Pure Tryz.prog 109 #[pointV pi pa pb, pointV qi qa qb, ratioV n d] (.tuple #[ratioV m k, .bool true, .int .i64 0]) :=
  pure_run (args := [pointV pi pa pb, pointV qi qa qb, ratioV n d]) 400 [.r (.int .i64 0), .r (.int .i64 0), .r (.int .i64 0), .r (.int .i64 0), .k, .k, .k, .k, .k, .k, .k, .k, .k, .k, .k, .k, .k, .k, .k, .k, .k, .k, .t false, .t false, .r (ratioV mn md), .k, .r (.tuple #[.int .i64 c, .int .i64 0]), .t false, .t true, .k, .t true, .r (ratioV m k)]
    (And.intro rfl (And.intro cp (And.intro cq (And.intro ct (And.intro ci (And.intro w (And.intro bb (And.intro cm (And.intro cc (And.intro g1 (And.intro gb (And.intro gb (And.intro mt True.intro))))))))))))) (by kernel_rfl)

end Go.Proofs.YtpngjeloiifgnaaGreat

namespace Go.Proofs.YtpngjeloiifgnaaGreat
open Go.RowKit
set_option maxRecDepth 100000 in
theorem split_path {n h l : Int} (nz : ¬ (32 : Int) < 0) (v1 : Value.int .i64 (n.fdiv (2 ^ (min (32 : Int).toNat IntKind.i64.bits))) = .int .i64 h) (v2 : Value.int .i64 (bits .and .i64 n 4294967295) = .int .i64 l) :
    Pure Tryz.prog 118 #[.int .i64 n] (.agg #[.int .i64 h, .int .i64 l]) :=
  pure_run (args := [.int .i64 n]) 200 [.r (.int .i64 h), .r (.int .i64 l)]
    (And.intro rfl (And.intro nz (And.intro v1 (And.intro v2 True.intro)))) (by kernel_rfl)

set_option maxRecDepth 100000 in
theorem sum2_path {a b x0 x1 y0 y1 p0 q0 s0 p1 q1 s1 : Int} (m0 : Value.int .i64 (IntKind.i64.wrap (a * x0)) = .int .i64 p0) (n0 : Value.int .i64 (IntKind.i64.wrap (b * y0)) = .int .i64 q0) (s0e : Value.int .i64 (IntKind.i64.wrap (p0 + q0)) = .int .i64 s0) (m1 : Value.int .i64 (IntKind.i64.wrap (a * x1)) = .int .i64 p1) (n1 : Value.int .i64 (IntKind.i64.wrap (b * y1)) = .int .i64 q1) (s1e : Value.int .i64 (IntKind.i64.wrap (p1 + q1)) = .int .i64 s1) :
    Pure Tryz.prog 117 #[.int .i64 a, .agg #[.int .i64 x0, .int .i64 x1], .int .i64 b, .agg #[.int .i64 y0, .int .i64 y1]] (.agg #[.int .i64 s0, .int .i64 s1]) :=
  pure_run (args := [.int .i64 a, .agg #[.int .i64 x0, .int .i64 x1], .int .i64 b, .agg #[.int .i64 y0, .int .i64 y1]]) 200 [.k, .r (.int .i64 p0), .r (.int .i64 q0), .r (.int .i64 s0), .k, .k, .r (.int .i64 p1), .r (.int .i64 q1), .r (.int .i64 s1), .k, .k]
    (And.intro rfl (And.intro m0 (And.intro n0 (And.intro s0e (And.intro m1 (And.intro n1 (And.intro s1e True.intro))))))) (by kernel_rfl)

set_option maxRecDepth 100000 in
theorem joined_lo {s0 s1 c h : Int} (nz : ¬ (32 : Int) < 0) (v1 : Value.int .i64 (s1.fdiv (2 ^ (min (32 : Int).toNat IntKind.i64.bits))) = .int .i64 c) (v2 : Value.int .i64 (IntKind.i64.wrap (s0 + c)) = .int .i64 h) (t1 : decide (h < -2147483648) = true) :
    Pure Tryz.prog 119 #[.agg #[.int .i64 s0, .int .i64 s1]] (.tuple #[.int .i64 0, .bool false]) :=
  pure_run (args := [.agg #[.int .i64 s0, .int .i64 s1]]) 200 [.r (.int .i64 c), .r (.int .i64 h), .t true]
    (And.intro rfl (And.intro nz (And.intro v1 (And.intro v2 (And.intro t1 True.intro))))) (by kernel_rfl)

set_option maxRecDepth 100000 in
theorem joined_hi {s0 s1 c h : Int} (nz : ¬ (32 : Int) < 0) (v1 : Value.int .i64 (s1.fdiv (2 ^ (min (32 : Int).toNat IntKind.i64.bits))) = .int .i64 c) (v2 : Value.int .i64 (IntKind.i64.wrap (s0 + c)) = .int .i64 h) (t1 : decide (h < -2147483648) = false) (t2 : decide (h > 2147483647) = true) :
    Pure Tryz.prog 119 #[.agg #[.int .i64 s0, .int .i64 s1]] (.tuple #[.int .i64 0, .bool false]) :=
  pure_run (args := [.agg #[.int .i64 s0, .int .i64 s1]]) 200 [.r (.int .i64 c), .r (.int .i64 h), .t false, .t true]
    (And.intro rfl (And.intro nz (And.intro v1 (And.intro v2 (And.intro t1 (And.intro t2 True.intro)))))) (by kernel_rfl)

set_option maxRecDepth 100000 in
theorem joined_ok {s0 s1 c h hh l r : Int} (nz : ¬ (32 : Int) < 0) (v1 : Value.int .i64 (s1.fdiv (2 ^ (min (32 : Int).toNat IntKind.i64.bits))) = .int .i64 c) (v2 : Value.int .i64 (IntKind.i64.wrap (s0 + c)) = .int .i64 h) (t1 : decide (h < -2147483648) = false) (t2 : decide (h > 2147483647) = false) (v3 : Value.int .i64 (IntKind.i64.wrap (h * 2 ^ (min (32 : Int).toNat IntKind.i64.bits))) = .int .i64 hh) (v4 : Value.int .i64 (bits .and .i64 s1 4294967295) = .int .i64 l) (v5 : Value.int .i64 (IntKind.i64.wrap (hh + l)) = .int .i64 r) :
    Pure Tryz.prog 119 #[.agg #[.int .i64 s0, .int .i64 s1]] (.tuple #[.int .i64 r, .bool true]) :=
  pure_run (args := [.agg #[.int .i64 s0, .int .i64 s1]]) 200 [.r (.int .i64 c), .r (.int .i64 h), .t false, .t false, .r (.int .i64 hh), .r (.int .i64 l), .r (.int .i64 r)]
    (And.intro rfl (And.intro nz (And.intro v1 (And.intro v2 (And.intro t1 (And.intro t2 (And.intro nz (And.intro v3 (And.intro v4 (And.intro v5 True.intro)))))))))) (by kernel_rfl)

set_option maxRecDepth 100000 in
theorem place_f {pi pa pb n d rn rd x0 x1 y0 y1 s0 s1 r : Int} (c1 : Pure Tryz.prog 116 #[.int .i64 pb, .int .i64 d] (.tuple #[ratioV rn rd, .int .i64 0])) (c2 : Pure Tryz.prog 118 #[.int .i64 rd] (.agg #[.int .i64 x0, .int .i64 x1])) (c3 : Pure Tryz.prog 118 #[.int .i64 n] (.agg #[.int .i64 y0, .int .i64 y1])) (c4 : Pure Tryz.prog 117 #[.int .i64 pa, .agg #[.int .i64 x0, .int .i64 x1], .int .i64 rn, .agg #[.int .i64 y0, .int .i64 y1]] (.agg #[.int .i64 s0, .int .i64 s1])) (c5 : Pure Tryz.prog 119 #[.agg #[.int .i64 s0, .int .i64 s1]] (.tuple #[.int .i64 r, .bool false])) :
    Pure Tryz.prog 77 #[pointV pi pa pb, ratioV n d] (.tuple #[ratioV 0 0, .int .i64 16]) :=
  pure_run (args := [pointV pi pa pb, ratioV n d]) 400 [.r (.tuple #[ratioV rn rd, .int .i64 0]), .r (.agg #[.int .i64 x0, .int .i64 x1]), .r (.agg #[.int .i64 y0, .int .i64 y1]), .r (.agg #[.int .i64 s0, .int .i64 s1]), .r (.tuple #[.int .i64 r, .bool false]), .k]
    (And.intro rfl (And.intro c1 (And.intro c2 (And.intro c3 (And.intro c4 (And.intro c5 True.intro)))))) (by kernel_rfl)

set_option maxRecDepth 100000 in
theorem place_t {pi pa pb n d rn rd x0 x1 y0 y1 s0 s1 r N D E : Int} (c1 : Pure Tryz.prog 116 #[.int .i64 pb, .int .i64 d] (.tuple #[ratioV rn rd, .int .i64 0])) (c2 : Pure Tryz.prog 118 #[.int .i64 rd] (.agg #[.int .i64 x0, .int .i64 x1])) (c3 : Pure Tryz.prog 118 #[.int .i64 n] (.agg #[.int .i64 y0, .int .i64 y1])) (c4 : Pure Tryz.prog 117 #[.int .i64 pa, .agg #[.int .i64 x0, .int .i64 x1], .int .i64 rn, .agg #[.int .i64 y0, .int .i64 y1]] (.agg #[.int .i64 s0, .int .i64 s1])) (c5 : Pure Tryz.prog 119 #[.agg #[.int .i64 s0, .int .i64 s1]] (.tuple #[.int .i64 r, .bool true])) (c6 : Pure Tryz.prog 116 #[.int .i64 r, .int .i64 rd] (.tuple #[ratioV N D, .int .i64 E])) :
    Pure Tryz.prog 77 #[pointV pi pa pb, ratioV n d] (.tuple #[ratioV N D, .int .i64 E]) :=
  pure_run (args := [pointV pi pa pb, ratioV n d]) 400 [.r (.tuple #[ratioV rn rd, .int .i64 0]), .r (.agg #[.int .i64 x0, .int .i64 x1]), .r (.agg #[.int .i64 y0, .int .i64 y1]), .r (.agg #[.int .i64 s0, .int .i64 s1]), .r (.tuple #[.int .i64 r, .bool true]), .k, .r (.tuple #[ratioV N D, .int .i64 E])]
    (And.intro rfl (And.intro c1 (And.intro c2 (And.intro c3 (And.intro c4 (And.intro c5 (And.intro c6 True.intro))))))) (by kernel_rfl)

set_option maxRecDepth 100000 in
theorem at_ok {pi pa pb n d N D E : Int} (c1 : Pure Tryz.prog 52 #[pointV pi pa pb] (.int .i64 0)) (c2 : Pure Tryz.prog 76 #[ratioV n d] (.int .i64 0)) (c3 : Pure Tryz.prog 77 #[pointV pi pa pb, ratioV n d] (.tuple #[ratioV N D, .int .i64 E])) :
    Pure Tryz.prog 33 #[pointV pi pa pb, ratioV n d] (.tuple #[ratioV N D, .int .i64 E]) :=
  pure_run (args := [pointV pi pa pb, ratioV n d]) 200 [.r (.int .i64 0), .r (.int .i64 0), .k, .k, .k, .k, .k, .k, .k, .k, .k, .r (.tuple #[ratioV N D, .int .i64 E])]
    (And.intro rfl (And.intro c1 (And.intro c2 (And.intro c3 True.intro)))) (by kernel_rfl)
end Go.Proofs.YtpngjeloiifgnaaGreat
