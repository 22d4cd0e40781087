/-
  The reference's At, and CoursePlaces, path by path.
-/
import Derived.Test.YtjhkeinelbeekaaCp
import Derived.Test.YtjhkeinelbeekaaRt
namespace Go.Proofs.Ytjhkeinelbeekaa
open Go.RowKit

set_option maxRecDepth 100000 in
theorem over_path {s d g m m2 e N D E : Int} {Q N2 : Nat} (v1 : Value.int .u64 (IntKind.u64.wrap d) = .int .u64 d) (d1 : Pure Try.prog 70 #[bigI s, .int .u64 d] (.tuple #[bigN false Q, .int .u64 m])) (g1 : Pure Try.prog 65 #[.int .u64 d, .int .u64 m] (.int .u64 g)) (d2 : Pure Try.prog 70 #[bigI s, .int .u64 g] (.tuple #[bigN false N2, .int .u64 m2])) (gz : ¬ (g : Int) = 0) (q1 : Value.int .u64 (IntKind.u64.wrap (d.tdiv g)) = .int .u64 e) (m1 : Pure Try.prog 67 #[.bool (decide (s < 0)), bigN false N2, bigV false 0 e] (.tuple #[ratioV N D, .int .i64 E])) :
    Pure Try.prog 79 #[bigI s, .int .i64 d] (.tuple #[ratioV N D, .int .i64 E]) :=
  pure_run (args := [bigI s, .int .i64 d]) 400 [.r (.int .u64 d), .r (.tuple #[bigN false Q, .int .u64 m]), .r (.int .u64 d), .r (.int .u64 g), .r (.tuple #[bigN false N2, .int .u64 m2]), .r (.int .u64 d), .r (.int .u64 e), .r (.tuple #[ratioV N D, .int .i64 E])]
    (And.intro rfl (And.intro v1 (And.intro d1 (And.intro v1 (And.intro g1 (And.intro d2 (And.intro v1 (And.intro gz (And.intro q1 (And.intro m1 True.intro)))))))))) (by kernel_rfl)

set_option maxRecDepth 100000 in
theorem rat_e0 {pi pa pb n d : Int} (c1 : Pure Try.prog 47 #[pointV pi pa pb] (.int .i64 8)) :
    Pure Try.prog 46 #[pointV pi pa pb, ratioV n d] (.tuple #[ratioV 0 0, .int .i64 8]) :=
  pure_run (args := [pointV pi pa pb, ratioV n d]) 200 [.r (.int .i64 8), .k]
    (And.intro rfl (And.intro c1 True.intro)) (by kernel_rfl)

set_option maxRecDepth 100000 in
theorem rat_e1 {pi pa pb n d : Int} (c1 : Pure Try.prog 47 #[pointV pi pa pb] (.int .i64 0)) (c2 : Pure Try.prog 30 #[ratioV n d] (.int .i64 8)) :
    Pure Try.prog 46 #[pointV pi pa pb, ratioV n d] (.tuple #[ratioV 0 0, .int .i64 8]) :=
  pure_run (args := [pointV pi pa pb, ratioV n d]) 200 [.r (.int .i64 0), .k, .r (.int .i64 8), .k]
    (And.intro rfl (And.intro c1 (And.intro c2 True.intro))) (by kernel_rfl)

set_option maxRecDepth 100000 in
theorem rat_add {pi pa pb n d N1 D1 N D E : Int} (c1 : Pure Try.prog 47 #[pointV pi pa pb] (.int .i64 0)) (c2 : Pure Try.prog 30 #[ratioV n d] (.int .i64 0)) (m : Pure Try.prog 35 #[ratioV pb 1, ratioV n d] (.tuple #[ratioV N1 D1, .int .i64 0])) (a : Pure Try.prog 33 #[ratioV pa 1, ratioV N1 D1] (.tuple #[ratioV N D, .int .i64 E])) :
    Pure Try.prog 46 #[pointV pi pa pb, ratioV n d] (.tuple #[ratioV N D, .int .i64 E]) :=
  pure_run (args := [pointV pi pa pb, ratioV n d]) 400 [.r (.int .i64 0), .k, .r (.int .i64 0), .k, .r (.tuple #[ratioV N1 D1, .int .i64 0]), .k, .r (.tuple #[ratioV N D, .int .i64 E])]
    (And.intro rfl (And.intro c1 (And.intro c2 (And.intro m (And.intro a True.intro))))) (by kernel_rfl)

set_option maxRecDepth 100000 in
theorem rat_over {pi pa pb n d N1 D1 N D E x y s : Int} (c1 : Pure Try.prog 47 #[pointV pi pa pb] (.int .i64 0)) (c2 : Pure Try.prog 30 #[ratioV n d] (.int .i64 0)) (m : Pure Try.prog 35 #[ratioV pb 1, ratioV n d] (.tuple #[ratioV N1 D1, .int .i64 16])) (p1 : Pure Try.prog 69 #[.int .i64 pa, .int .i64 d] (bigI x)) (p2 : Pure Try.prog 69 #[.int .i64 pb, .int .i64 n] (bigI y)) (p3 : Pure Try.prog 68 #[bigI x, bigI y] (bigI s)) (o : Pure Try.prog 79 #[bigI s, .int .i64 d] (.tuple #[ratioV N D, .int .i64 E])) :
    Pure Try.prog 46 #[pointV pi pa pb, ratioV n d] (.tuple #[ratioV N D, .int .i64 E]) :=
  pure_run (args := [pointV pi pa pb, ratioV n d]) 400 [.r (.int .i64 0), .k, .r (.int .i64 0), .k, .r (.tuple #[ratioV N1 D1, .int .i64 16]), .k, .r (bigI x), .r (bigI y), .r (bigI s), .r (.tuple #[ratioV N D, .int .i64 E])]
    (And.intro rfl (And.intro c1 (And.intro c2 (And.intro m (And.intro p1 (And.intro p2 (And.intro p3 (And.intro o True.intro)))))))) (by kernel_rfl)

set_option maxRecDepth 100000 in
theorem places_path {pi pa pb n d N D E e : Int} (a1 : Pure Try.prog 39 #[pointV pi pa pb, ratioV n d] (.tuple #[ratioV N D, .int .i64 E])) (a2 : Pure Try.prog 46 #[pointV pi pa pb, ratioV n d] (.tuple #[ratioV N D, .int .i64 E])) (c1 : Pure Try.prog 44 #[pointV pi pa pb] (.int .i64 e)) (c2 : Pure Try.prog 47 #[pointV pi pa pb] (.int .i64 e)) (t1 : (e == e) = true) (t2 : (N == N && (D == D && true)) = true) (t3 : (E == E) = true) :
    Pure Try.prog 11 #[pointV pi pa pb, ratioV n d] (.bool true) :=
  pure_run (args := [pointV pi pa pb, ratioV n d]) 400 [.r (.tuple #[ratioV N D, .int .i64 E]), .r (.tuple #[ratioV N D, .int .i64 E]), .r (.int .i64 e), .r (.int .i64 e), .t true, .t true, .t true]
    (And.intro rfl (And.intro a1 (And.intro a2 (And.intro c1 (And.intro c2 (And.intro t1 (And.intro t2 (And.intro t3 True.intro)))))))) (by kernel_rfl)
end Go.Proofs.Ytjhkeinelbeekaa
