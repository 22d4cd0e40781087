/-
  At of package course, path by path.
-/
import Derived.Test.YtjhkeinelbeekaaCp
import Derived.Laws.Bits64b
namespace Go.Proofs.Ytjhkeinelbeekaa
open Go.RowKit

set_option maxRecDepth 100000 in
theorem split_path {n h l : Int} (nz : ¬ (32 : Int) < 0) (v1 : Value.int .i64 (n.fdiv (2 ^ (min (32 : Int).toNat IntKind.i64.bits))) = .int .i64 h) (v2 : Value.int .i64 (bits .and .i64 n 4294967295) = .int .i64 l) :
    Pure Try.prog 93 #[.int .i64 n] (.agg #[.int .i64 h, .int .i64 l]) :=
  pure_run (args := [.int .i64 n]) 200 [.r (.int .i64 h), .r (.int .i64 l)]
    (And.intro rfl (And.intro nz (And.intro v1 (And.intro v2 True.intro)))) (by kernel_rfl)

set_option maxRecDepth 100000 in
theorem sum2_path {a b x0 x1 y0 y1 p0 q0 s0 p1 q1 s1 : Int} (m0 : Value.int .i64 (IntKind.i64.wrap (a * x0)) = .int .i64 p0) (n0 : Value.int .i64 (IntKind.i64.wrap (b * y0)) = .int .i64 q0) (s0e : Value.int .i64 (IntKind.i64.wrap (p0 + q0)) = .int .i64 s0) (m1 : Value.int .i64 (IntKind.i64.wrap (a * x1)) = .int .i64 p1) (n1 : Value.int .i64 (IntKind.i64.wrap (b * y1)) = .int .i64 q1) (s1e : Value.int .i64 (IntKind.i64.wrap (p1 + q1)) = .int .i64 s1) :
    Pure Try.prog 92 #[.int .i64 a, .agg #[.int .i64 x0, .int .i64 x1], .int .i64 b, .agg #[.int .i64 y0, .int .i64 y1]] (.agg #[.int .i64 s0, .int .i64 s1]) :=
  pure_run (args := [.int .i64 a, .agg #[.int .i64 x0, .int .i64 x1], .int .i64 b, .agg #[.int .i64 y0, .int .i64 y1]]) 200 [.k, .r (.int .i64 p0), .r (.int .i64 q0), .r (.int .i64 s0), .k, .k, .r (.int .i64 p1), .r (.int .i64 q1), .r (.int .i64 s1), .k, .k]
    (And.intro rfl (And.intro m0 (And.intro n0 (And.intro s0e (And.intro m1 (And.intro n1 (And.intro s1e True.intro))))))) (by kernel_rfl)

set_option maxRecDepth 100000 in
theorem joined_lo {s0 s1 c h : Int} (nz : ¬ (32 : Int) < 0) (v1 : Value.int .i64 (s1.fdiv (2 ^ (min (32 : Int).toNat IntKind.i64.bits))) = .int .i64 c) (v2 : Value.int .i64 (IntKind.i64.wrap (s0 + c)) = .int .i64 h) (t1 : decide (h < -2147483648) = true) :
    Pure Try.prog 94 #[.agg #[.int .i64 s0, .int .i64 s1]] (.tuple #[.int .i64 0, .bool false]) :=
  pure_run (args := [.agg #[.int .i64 s0, .int .i64 s1]]) 200 [.r (.int .i64 c), .r (.int .i64 h), .t true]
    (And.intro rfl (And.intro nz (And.intro v1 (And.intro v2 (And.intro t1 True.intro))))) (by kernel_rfl)

set_option maxRecDepth 100000 in
theorem joined_hi {s0 s1 c h : Int} (nz : ¬ (32 : Int) < 0) (v1 : Value.int .i64 (s1.fdiv (2 ^ (min (32 : Int).toNat IntKind.i64.bits))) = .int .i64 c) (v2 : Value.int .i64 (IntKind.i64.wrap (s0 + c)) = .int .i64 h) (t1 : decide (h < -2147483648) = false) (t2 : decide (h > 2147483647) = true) :
    Pure Try.prog 94 #[.agg #[.int .i64 s0, .int .i64 s1]] (.tuple #[.int .i64 0, .bool false]) :=
  pure_run (args := [.agg #[.int .i64 s0, .int .i64 s1]]) 200 [.r (.int .i64 c), .r (.int .i64 h), .t false, .t true]
    (And.intro rfl (And.intro nz (And.intro v1 (And.intro v2 (And.intro t1 (And.intro t2 True.intro)))))) (by kernel_rfl)

set_option maxRecDepth 100000 in
theorem joined_ok {s0 s1 c h hh l r : Int} (nz : ¬ (32 : Int) < 0) (v1 : Value.int .i64 (s1.fdiv (2 ^ (min (32 : Int).toNat IntKind.i64.bits))) = .int .i64 c) (v2 : Value.int .i64 (IntKind.i64.wrap (s0 + c)) = .int .i64 h) (t1 : decide (h < -2147483648) = false) (t2 : decide (h > 2147483647) = false) (v3 : Value.int .i64 (IntKind.i64.wrap (h * 2 ^ (min (32 : Int).toNat IntKind.i64.bits))) = .int .i64 hh) (v4 : Value.int .i64 (bits .and .i64 s1 4294967295) = .int .i64 l) (v5 : Value.int .i64 (IntKind.i64.wrap (hh + l)) = .int .i64 r) :
    Pure Try.prog 94 #[.agg #[.int .i64 s0, .int .i64 s1]] (.tuple #[.int .i64 r, .bool true]) :=
  pure_run (args := [.agg #[.int .i64 s0, .int .i64 s1]]) 200 [.r (.int .i64 c), .r (.int .i64 h), .t false, .t false, .r (.int .i64 hh), .r (.int .i64 l), .r (.int .i64 r)]
    (And.intro rfl (And.intro nz (And.intro v1 (And.intro v2 (And.intro t1 (And.intro t2 (And.intro nz (And.intro v3 (And.intro v4 (And.intro v5 True.intro)))))))))) (by kernel_rfl)

set_option maxRecDepth 100000 in
theorem place_f {pi pa pb n d rn rd x0 x1 y0 y1 s0 s1 r : Int} (c1 : Pure Try.prog 23 #[.int .i64 pb, .int .i64 d] (.tuple #[ratioV rn rd, .int .i64 0])) (c2 : Pure Try.prog 93 #[.int .i64 rd] (.agg #[.int .i64 x0, .int .i64 x1])) (c3 : Pure Try.prog 93 #[.int .i64 n] (.agg #[.int .i64 y0, .int .i64 y1])) (c4 : Pure Try.prog 92 #[.int .i64 pa, .agg #[.int .i64 x0, .int .i64 x1], .int .i64 rn, .agg #[.int .i64 y0, .int .i64 y1]] (.agg #[.int .i64 s0, .int .i64 s1])) (c5 : Pure Try.prog 94 #[.agg #[.int .i64 s0, .int .i64 s1]] (.tuple #[.int .i64 r, .bool false])) :
    Pure Try.prog 73 #[pointV pi pa pb, ratioV n d] (.tuple #[ratioV 0 0, .int .i64 16]) :=
  pure_run (args := [pointV pi pa pb, ratioV n d]) 400 [.r (.tuple #[ratioV rn rd, .int .i64 0]), .r (.agg #[.int .i64 x0, .int .i64 x1]), .r (.agg #[.int .i64 y0, .int .i64 y1]), .r (.agg #[.int .i64 s0, .int .i64 s1]), .r (.tuple #[.int .i64 r, .bool false]), .k]
    (And.intro rfl (And.intro c1 (And.intro c2 (And.intro c3 (And.intro c4 (And.intro c5 True.intro)))))) (by kernel_rfl)

set_option maxRecDepth 100000 in
theorem place_t {pi pa pb n d rn rd x0 x1 y0 y1 s0 s1 r N D E : Int} (c1 : Pure Try.prog 23 #[.int .i64 pb, .int .i64 d] (.tuple #[ratioV rn rd, .int .i64 0])) (c2 : Pure Try.prog 93 #[.int .i64 rd] (.agg #[.int .i64 x0, .int .i64 x1])) (c3 : Pure Try.prog 93 #[.int .i64 n] (.agg #[.int .i64 y0, .int .i64 y1])) (c4 : Pure Try.prog 92 #[.int .i64 pa, .agg #[.int .i64 x0, .int .i64 x1], .int .i64 rn, .agg #[.int .i64 y0, .int .i64 y1]] (.agg #[.int .i64 s0, .int .i64 s1])) (c5 : Pure Try.prog 94 #[.agg #[.int .i64 s0, .int .i64 s1]] (.tuple #[.int .i64 r, .bool true])) (c6 : Pure Try.prog 23 #[.int .i64 r, .int .i64 rd] (.tuple #[ratioV N D, .int .i64 E])) :
    Pure Try.prog 73 #[pointV pi pa pb, ratioV n d] (.tuple #[ratioV N D, .int .i64 E]) :=
  pure_run (args := [pointV pi pa pb, ratioV n d]) 400 [.r (.tuple #[ratioV rn rd, .int .i64 0]), .r (.agg #[.int .i64 x0, .int .i64 x1]), .r (.agg #[.int .i64 y0, .int .i64 y1]), .r (.agg #[.int .i64 s0, .int .i64 s1]), .r (.tuple #[.int .i64 r, .bool true]), .k, .r (.tuple #[ratioV N D, .int .i64 E])]
    (And.intro rfl (And.intro c1 (And.intro c2 (And.intro c3 (And.intro c4 (And.intro c5 (And.intro c6 True.intro))))))) (by kernel_rfl)

set_option maxRecDepth 100000 in
theorem at_e0 {pi pa pb n d e1 : Int} (c1 : Pure Try.prog 44 #[pointV pi pa pb] (.int .i64 8)) (c2 : Pure Try.prog 21 #[ratioV n d] (.int .i64 e1)) :
    Pure Try.prog 39 #[pointV pi pa pb, ratioV n d] (.tuple #[ratioV 0 0, .int .i64 8]) :=
  pure_run (args := [pointV pi pa pb, ratioV n d]) 200 [.r (.int .i64 8), .r (.int .i64 e1), .k, .k, .k, .k]
    (And.intro rfl (And.intro c1 (And.intro c2 True.intro))) (by kernel_rfl)

set_option maxRecDepth 100000 in
theorem at_e1 {pi pa pb n d : Int} (c1 : Pure Try.prog 44 #[pointV pi pa pb] (.int .i64 0)) (c2 : Pure Try.prog 21 #[ratioV n d] (.int .i64 8)) :
    Pure Try.prog 39 #[pointV pi pa pb, ratioV n d] (.tuple #[ratioV 0 0, .int .i64 8]) :=
  pure_run (args := [pointV pi pa pb, ratioV n d]) 200 [.r (.int .i64 0), .r (.int .i64 8), .k, .k, .k, .k, .k, .k, .k]
    (And.intro rfl (And.intro c1 (And.intro c2 True.intro))) (by kernel_rfl)

set_option maxRecDepth 100000 in
theorem at_ok {pi pa pb n d N D E : Int} (c1 : Pure Try.prog 44 #[pointV pi pa pb] (.int .i64 0)) (c2 : Pure Try.prog 21 #[ratioV n d] (.int .i64 0)) (c3 : Pure Try.prog 73 #[pointV pi pa pb, ratioV n d] (.tuple #[ratioV N D, .int .i64 E])) :
    Pure Try.prog 39 #[pointV pi pa pb, ratioV n d] (.tuple #[ratioV N D, .int .i64 E]) :=
  pure_run (args := [pointV pi pa pb, ratioV n d]) 200 [.r (.int .i64 0), .r (.int .i64 0), .k, .k, .k, .k, .k, .k, .k, .k, .k, .r (.tuple #[ratioV N D, .int .i64 E])]
    (And.intro rfl (And.intro c1 (And.intro c2 (And.intro c3 True.intro)))) (by kernel_rfl)
end Go.Proofs.Ytjhkeinelbeekaa
