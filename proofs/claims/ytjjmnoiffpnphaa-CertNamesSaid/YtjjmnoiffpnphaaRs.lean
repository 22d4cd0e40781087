/-
  The reference's whole numbers of two parts: what its functions return, path by path. Conditions: none.
-/
import Derived.Test.YtjjmnoiffpnphaaW24
namespace Go.Proofs.Ytjjmnoiffpnphaa
open Go.RowKit
set_option maxRecDepth 100000 in
theorem rprod_path {a b ah al bh bl low p1 lh m p2 mr n p3 mh s1 nh hi nr nr2 lr lo : Int} (nz : ¬ (4294967296 : Int) = 0) (q1 : Value.int .u64 (IntKind.u64.wrap (Int.tdiv a 4294967296)) = .int .u64 ah) (q2 : Value.int .u64 (Int.tmod a 4294967296) = .int .u64 al) (q3 : Value.int .u64 (IntKind.u64.wrap (Int.tdiv b 4294967296)) = .int .u64 bh) (q4 : Value.int .u64 (Int.tmod b 4294967296) = .int .u64 bl) (x1 : Value.int .u64 (IntKind.u64.wrap (al * bl)) = .int .u64 low) (x2 : Value.int .u64 (IntKind.u64.wrap (ah * bl)) = .int .u64 p1) (q5 : Value.int .u64 (IntKind.u64.wrap (Int.tdiv low 4294967296)) = .int .u64 lh) (x3 : Value.int .u64 (IntKind.u64.wrap (p1 + lh)) = .int .u64 m) (x4 : Value.int .u64 (IntKind.u64.wrap (al * bh)) = .int .u64 p2) (q6 : Value.int .u64 (Int.tmod m 4294967296) = .int .u64 mr) (x5 : Value.int .u64 (IntKind.u64.wrap (p2 + mr)) = .int .u64 n) (x6 : Value.int .u64 (IntKind.u64.wrap (ah * bh)) = .int .u64 p3) (q7 : Value.int .u64 (IntKind.u64.wrap (Int.tdiv m 4294967296)) = .int .u64 mh) (x7 : Value.int .u64 (IntKind.u64.wrap (p3 + mh)) = .int .u64 s1) (q8 : Value.int .u64 (IntKind.u64.wrap (Int.tdiv n 4294967296)) = .int .u64 nh) (x8 : Value.int .u64 (IntKind.u64.wrap (s1 + nh)) = .int .u64 hi) (q9 : Value.int .u64 (Int.tmod n 4294967296) = .int .u64 nr) (x9 : Value.int .u64 (IntKind.u64.wrap (nr * 4294967296)) = .int .u64 nr2) (q10 : Value.int .u64 (Int.tmod low 4294967296) = .int .u64 lr) (x10 : Value.int .u64 (IntKind.u64.wrap (nr2 + lr)) = .int .u64 lo) :
    Pure Try.prog 104 #[.int .u64 a, .int .u64 b] (bigV false hi lo) :=
  pure_run (args := [.int .u64 a, .int .u64 b]) 200 [.r (.int .u64 ah), .r (.int .u64 al), .r (.int .u64 bh), .r (.int .u64 bl), .r (.int .u64 low), .r (.int .u64 p1), .r (.int .u64 lh), .r (.int .u64 m), .r (.int .u64 p2), .r (.int .u64 mr), .r (.int .u64 n), .r (.int .u64 p3), .r (.int .u64 mh), .r (.int .u64 s1), .r (.int .u64 nh), .r (.int .u64 hi), .r (.int .u64 nr), .r (.int .u64 nr2), .r (.int .u64 lr), .r (.int .u64 lo)]
    (And.intro rfl (And.intro nz (And.intro q1 (And.intro nz (And.intro q2 (And.intro nz (And.intro q3 (And.intro nz (And.intro q4 (And.intro x1 (And.intro x2 (And.intro nz (And.intro q5 (And.intro x3 (And.intro x4 (And.intro nz (And.intro q6 (And.intro x5 (And.intro x6 (And.intro nz (And.intro q7 (And.intro x7 (And.intro nz (And.intro q8 (And.intro x8 (And.intro nz (And.intro q9 (And.intro x9 (And.intro nz (And.intro q10 (And.intro x10 True.intro))))))))))))))))))))))))))))))) (by kernel_rfl)

set_option maxRecDepth 100000 in
theorem rProd_ttxx {a b za zb hi lo : Int} (c1 : Pure Try.prog 76 #[.int .i64 a] (.int .u64 za)) (c2 : Pure Try.prog 76 #[.int .i64 b] (.int .u64 zb)) (c3 : Pure Try.prog 104 #[.int .u64 za, .int .u64 zb] (bigV false hi lo)) (t1 : decide (a < 0) = true) (t2 : decide (b < 0) = true) :
    Pure Try.prog 96 #[.int .i64 a, .int .i64 b] (bigV false hi lo) :=
  pure_run (args := [.int .i64 a, .int .i64 b]) 200 [.r (.int .u64 za), .r (.int .u64 zb), .r (bigV false hi lo), .t true, .t true, .k]
    (And.intro rfl (And.intro c1 (And.intro c2 (And.intro c3 (And.intro t1 (And.intro t2 True.intro)))))) (by kernel_rfl)

set_option maxRecDepth 100000 in
theorem rProd_tftf {a b za zb hi lo : Int} (c1 : Pure Try.prog 76 #[.int .i64 a] (.int .u64 za)) (c2 : Pure Try.prog 76 #[.int .i64 b] (.int .u64 zb)) (c3 : Pure Try.prog 104 #[.int .u64 za, .int .u64 zb] (bigV false hi lo)) (t1 : decide (a < 0) = true) (t2 : decide (b < 0) = false) (t3 : (a != 0) = true) (t4 : (b != 0) = false) :
    Pure Try.prog 96 #[.int .i64 a, .int .i64 b] (bigV false hi lo) :=
  pure_run (args := [.int .i64 a, .int .i64 b]) 200 [.r (.int .u64 za), .r (.int .u64 zb), .r (bigV false hi lo), .t true, .t false, .k, .t true, .t false]
    (And.intro rfl (And.intro c1 (And.intro c2 (And.intro c3 (And.intro t1 (And.intro t2 (And.intro t3 (And.intro t4 True.intro)))))))) (by kernel_rfl)

set_option maxRecDepth 100000 in
theorem rProd_tftt {a b za zb hi lo : Int} (c1 : Pure Try.prog 76 #[.int .i64 a] (.int .u64 za)) (c2 : Pure Try.prog 76 #[.int .i64 b] (.int .u64 zb)) (c3 : Pure Try.prog 104 #[.int .u64 za, .int .u64 zb] (bigV false hi lo)) (t1 : decide (a < 0) = true) (t2 : decide (b < 0) = false) (t3 : (a != 0) = true) (t4 : (b != 0) = true) :
    Pure Try.prog 96 #[.int .i64 a, .int .i64 b] (bigV true hi lo) :=
  pure_run (args := [.int .i64 a, .int .i64 b]) 200 [.r (.int .u64 za), .r (.int .u64 zb), .r (bigV false hi lo), .t true, .t false, .k, .t true, .t true]
    (And.intro rfl (And.intro c1 (And.intro c2 (And.intro c3 (And.intro t1 (And.intro t2 (And.intro t3 (And.intro t4 True.intro)))))))) (by kernel_rfl)

set_option maxRecDepth 100000 in
theorem rProd_ftfx {a b za zb hi lo : Int} (c1 : Pure Try.prog 76 #[.int .i64 a] (.int .u64 za)) (c2 : Pure Try.prog 76 #[.int .i64 b] (.int .u64 zb)) (c3 : Pure Try.prog 104 #[.int .u64 za, .int .u64 zb] (bigV false hi lo)) (t1 : decide (a < 0) = false) (t2 : decide (b < 0) = true) (t3 : (a != 0) = false) :
    Pure Try.prog 96 #[.int .i64 a, .int .i64 b] (bigV false hi lo) :=
  pure_run (args := [.int .i64 a, .int .i64 b]) 200 [.r (.int .u64 za), .r (.int .u64 zb), .r (bigV false hi lo), .t false, .t true, .k, .t false]
    (And.intro rfl (And.intro c1 (And.intro c2 (And.intro c3 (And.intro t1 (And.intro t2 (And.intro t3 True.intro))))))) (by kernel_rfl)

set_option maxRecDepth 100000 in
theorem rProd_fttt {a b za zb hi lo : Int} (c1 : Pure Try.prog 76 #[.int .i64 a] (.int .u64 za)) (c2 : Pure Try.prog 76 #[.int .i64 b] (.int .u64 zb)) (c3 : Pure Try.prog 104 #[.int .u64 za, .int .u64 zb] (bigV false hi lo)) (t1 : decide (a < 0) = false) (t2 : decide (b < 0) = true) (t3 : (a != 0) = true) (t4 : (b != 0) = true) :
    Pure Try.prog 96 #[.int .i64 a, .int .i64 b] (bigV true hi lo) :=
  pure_run (args := [.int .i64 a, .int .i64 b]) 200 [.r (.int .u64 za), .r (.int .u64 zb), .r (bigV false hi lo), .t false, .t true, .k, .t true, .t true]
    (And.intro rfl (And.intro c1 (And.intro c2 (And.intro c3 (And.intro t1 (And.intro t2 (And.intro t3 (And.intro t4 True.intro)))))))) (by kernel_rfl)

set_option maxRecDepth 100000 in
theorem rProd_ffxx {a b za zb hi lo : Int} (c1 : Pure Try.prog 76 #[.int .i64 a] (.int .u64 za)) (c2 : Pure Try.prog 76 #[.int .i64 b] (.int .u64 zb)) (c3 : Pure Try.prog 104 #[.int .u64 za, .int .u64 zb] (bigV false hi lo)) (t1 : decide (a < 0) = false) (t2 : decide (b < 0) = false) :
    Pure Try.prog 96 #[.int .i64 a, .int .i64 b] (bigV false hi lo) :=
  pure_run (args := [.int .i64 a, .int .i64 b]) 200 [.r (.int .u64 za), .r (.int .u64 zb), .r (bigV false hi lo), .t false, .t false, .k]
    (And.intro rfl (And.intro c1 (And.intro c2 (And.intro c3 (And.intro t1 (And.intro t2 True.intro)))))) (by kernel_rfl)

set_option maxRecDepth 100000 in
theorem rSign_0 {hi lo : Int} {s : Bool} (t1 : (hi == 0) = true) (t2 : (lo == 0) = true) :
    Pure Try.prog 94 #[bigV s hi lo] (.int .i64 0) :=
  pure_run (args := [bigV s hi lo]) 200 [.t true, .t true]
    (And.intro rfl (And.intro t1 (And.intro t2 True.intro))) (by kernel_rfl)

set_option maxRecDepth 100000 in
theorem rSign_ht {hi lo : Int} (t1 : (hi == 0) = false) :
    Pure Try.prog 94 #[bigV true hi lo] (.int .i64 (-1)) :=
  pure_run (args := [bigV true hi lo]) 200 [.t false]
    (And.intro rfl (And.intro t1 True.intro)) (by kernel_rfl)

set_option maxRecDepth 100000 in
theorem rSign_lt {hi lo : Int} (t1 : (hi == 0) = true) (t2 : (lo == 0) = false) :
    Pure Try.prog 94 #[bigV true hi lo] (.int .i64 (-1)) :=
  pure_run (args := [bigV true hi lo]) 200 [.t true, .t false]
    (And.intro rfl (And.intro t1 (And.intro t2 True.intro))) (by kernel_rfl)

set_option maxRecDepth 100000 in
theorem rSign_hf {hi lo : Int} (t1 : (hi == 0) = false) :
    Pure Try.prog 94 #[bigV false hi lo] (.int .i64 1) :=
  pure_run (args := [bigV false hi lo]) 200 [.t false]
    (And.intro rfl (And.intro t1 True.intro)) (by kernel_rfl)

set_option maxRecDepth 100000 in
theorem rSign_lf {hi lo : Int} (t1 : (hi == 0) = true) (t2 : (lo == 0) = false) :
    Pure Try.prog 94 #[bigV false hi lo] (.int .i64 1) :=
  pure_run (args := [bigV false hi lo]) 200 [.t true, .t false]
    (And.intro rfl (And.intro t1 (And.intro t2 True.intro))) (by kernel_rfl)

set_option maxRecDepth 100000 in
theorem rLess_hl {a b c d : Int} {s t : Bool} (t1 : (a != c) = true) (t2 : decide (a < c) = true) :
    Pure Try.prog 102 #[bigV s a b, bigV t c d] (.int .i64 (-1)) :=
  pure_run (args := [bigV s a b, bigV t c d]) 200 [.t true, .t true]
    (And.intro rfl (And.intro t1 (And.intro t2 True.intro))) (by kernel_rfl)

set_option maxRecDepth 100000 in
theorem rLess_hg {a b c d : Int} {s t : Bool} (t1 : (a != c) = true) (t2 : decide (a < c) = false) :
    Pure Try.prog 102 #[bigV s a b, bigV t c d] (.int .i64 1) :=
  pure_run (args := [bigV s a b, bigV t c d]) 200 [.t true, .t false]
    (And.intro rfl (And.intro t1 (And.intro t2 True.intro))) (by kernel_rfl)

set_option maxRecDepth 100000 in
theorem rLess_ll {a b c d : Int} {s t : Bool} (t1 : (a != c) = false) (t3 : (b != d) = true) (t4 : decide (b < d) = true) :
    Pure Try.prog 102 #[bigV s a b, bigV t c d] (.int .i64 (-1)) :=
  pure_run (args := [bigV s a b, bigV t c d]) 200 [.t false, .t true, .t true]
    (And.intro rfl (And.intro t1 (And.intro t3 (And.intro t4 True.intro)))) (by kernel_rfl)

set_option maxRecDepth 100000 in
theorem rLess_lg {a b c d : Int} {s t : Bool} (t1 : (a != c) = false) (t3 : (b != d) = true) (t4 : decide (b < d) = false) :
    Pure Try.prog 102 #[bigV s a b, bigV t c d] (.int .i64 1) :=
  pure_run (args := [bigV s a b, bigV t c d]) 200 [.t false, .t true, .t false]
    (And.intro rfl (And.intro t1 (And.intro t3 (And.intro t4 True.intro)))) (by kernel_rfl)

set_option maxRecDepth 100000 in
theorem rLess_eq {a b c d : Int} {s t : Bool} (t1 : (a != c) = false) (t3 : (b != d) = false) :
    Pure Try.prog 102 #[bigV s a b, bigV t c d] (.int .i64 0) :=
  pure_run (args := [bigV s a b, bigV t c d]) 200 [.t false, .t false]
    (And.intro rfl (And.intro t1 (And.intro t3 True.intro))) (by kernel_rfl)

set_option maxRecDepth 100000 in
theorem rMin_f {a b c d h l : Int} {s t : Bool} (x1 : Value.int .u64 (IntKind.u64.wrap (a - c)) = .int .u64 h) (x2 : Value.int .u64 (IntKind.u64.wrap (b - d)) = .int .u64 l) (t1 : decide (b < d) = false) :
    Pure Try.prog 103 #[bigV s a b, bigV t c d] (bigV false h l) :=
  pure_run (args := [bigV s a b, bigV t c d]) 200 [.r (.int .u64 h), .r (.int .u64 l), .t false]
    (And.intro rfl (And.intro x1 (And.intro x2 (And.intro t1 True.intro)))) (by kernel_rfl)

set_option maxRecDepth 100000 in
theorem rMin_t {a b c d h l h1 : Int} {s t : Bool} (x1 : Value.int .u64 (IntKind.u64.wrap (a - c)) = .int .u64 h) (x2 : Value.int .u64 (IntKind.u64.wrap (b - d)) = .int .u64 l) (t1 : decide (b < d) = true) (x3 : Value.int .u64 (IntKind.u64.wrap (h - 1)) = .int .u64 h1) :
    Pure Try.prog 103 #[bigV s a b, bigV t c d] (bigV false h1 l) :=
  pure_run (args := [bigV s a b, bigV t c d]) 200 [.r (.int .u64 h), .r (.int .u64 l), .t true, .r (.int .u64 h1)]
    (And.intro rfl (And.intro x1 (And.intro x2 (And.intro t1 (And.intro x3 True.intro))))) (by kernel_rfl)

set_option maxRecDepth 100000 in
theorem rPlus_stf {a b c d h l : Int} (x1 : Value.int .u64 (IntKind.u64.wrap (a + c)) = .int .u64 h) (x2 : Value.int .u64 (IntKind.u64.wrap (b + d)) = .int .u64 l) (t1 : decide (l < b) = false) :
    Pure Try.prog 95 #[bigV true a b, bigV true c d] (bigV true h l) :=
  pure_run (args := [bigV true a b, bigV true c d]) 200 [.k, .r (.int .u64 h), .r (.int .u64 l), .t false]
    (And.intro rfl (And.intro x1 (And.intro x2 (And.intro t1 True.intro)))) (by kernel_rfl)

set_option maxRecDepth 100000 in
theorem rPlus_stt {a b c d h l h1 : Int} (x1 : Value.int .u64 (IntKind.u64.wrap (a + c)) = .int .u64 h) (x2 : Value.int .u64 (IntKind.u64.wrap (b + d)) = .int .u64 l) (t1 : decide (l < b) = true) (x3 : Value.int .u64 (IntKind.u64.wrap (h + 1)) = .int .u64 h1) :
    Pure Try.prog 95 #[bigV true a b, bigV true c d] (bigV true h1 l) :=
  pure_run (args := [bigV true a b, bigV true c d]) 200 [.k, .r (.int .u64 h), .r (.int .u64 l), .t true, .r (.int .u64 h1)]
    (And.intro rfl (And.intro x1 (And.intro x2 (And.intro t1 (And.intro x3 True.intro))))) (by kernel_rfl)

set_option maxRecDepth 100000 in
theorem rPlus_tgh {a b c d h l e : Int} (c1 : Pure Try.prog 102 #[bigV true a b, bigV false c d] (.int .i64 e)) (t1 : decide (e ≥ 0) = true) (c2 : Pure Try.prog 103 #[bigV true a b, bigV false c d] (bigV false h l)) (t2 : decide (h > 0) = true) :
    Pure Try.prog 95 #[bigV true a b, bigV false c d] (bigV true h l) :=
  pure_run (args := [bigV true a b, bigV false c d]) 200 [.k, .r (.int .i64 e), .t true, .r (bigV false h l), .t true]
    (And.intro rfl (And.intro c1 (And.intro t1 (And.intro c2 (And.intro t2 True.intro))))) (by kernel_rfl)

set_option maxRecDepth 100000 in
theorem rPlus_tgl {a b c d h l e : Int} (c1 : Pure Try.prog 102 #[bigV true a b, bigV false c d] (.int .i64 e)) (t1 : decide (e ≥ 0) = true) (c2 : Pure Try.prog 103 #[bigV true a b, bigV false c d] (bigV false h l)) (t2 : decide (h > 0) = false) (t3 : decide (l > 0) = true) :
    Pure Try.prog 95 #[bigV true a b, bigV false c d] (bigV true h l) :=
  pure_run (args := [bigV true a b, bigV false c d]) 200 [.k, .r (.int .i64 e), .t true, .r (bigV false h l), .t false, .t true]
    (And.intro rfl (And.intro c1 (And.intro t1 (And.intro c2 (And.intro t2 (And.intro t3 True.intro)))))) (by kernel_rfl)

set_option maxRecDepth 100000 in
theorem rPlus_tg0 {a b c d h l e : Int} (c1 : Pure Try.prog 102 #[bigV true a b, bigV false c d] (.int .i64 e)) (t1 : decide (e ≥ 0) = true) (c2 : Pure Try.prog 103 #[bigV true a b, bigV false c d] (bigV false h l)) (t2 : decide (h > 0) = false) (t3 : decide (l > 0) = false) :
    Pure Try.prog 95 #[bigV true a b, bigV false c d] (bigV false h l) :=
  pure_run (args := [bigV true a b, bigV false c d]) 200 [.k, .r (.int .i64 e), .t true, .r (bigV false h l), .t false, .t false]
    (And.intro rfl (And.intro c1 (And.intro t1 (And.intro c2 (And.intro t2 (And.intro t3 True.intro)))))) (by kernel_rfl)

set_option maxRecDepth 100000 in
theorem rPlus_tl {a b c d h l e : Int} (c1 : Pure Try.prog 102 #[bigV true a b, bigV false c d] (.int .i64 e)) (t1 : decide (e ≥ 0) = false) (c2 : Pure Try.prog 103 #[bigV false c d, bigV true a b] (bigV false h l)) :
    Pure Try.prog 95 #[bigV true a b, bigV false c d] (bigV false h l) :=
  pure_run (args := [bigV true a b, bigV false c d]) 200 [.k, .r (.int .i64 e), .t false, .r (bigV false h l)]
    (And.intro rfl (And.intro c1 (And.intro t1 (And.intro c2 True.intro)))) (by kernel_rfl)

set_option maxRecDepth 100000 in
theorem rPlus_sff {a b c d h l : Int} (x1 : Value.int .u64 (IntKind.u64.wrap (a + c)) = .int .u64 h) (x2 : Value.int .u64 (IntKind.u64.wrap (b + d)) = .int .u64 l) (t1 : decide (l < b) = false) :
    Pure Try.prog 95 #[bigV false a b, bigV false c d] (bigV false h l) :=
  pure_run (args := [bigV false a b, bigV false c d]) 200 [.k, .r (.int .u64 h), .r (.int .u64 l), .t false]
    (And.intro rfl (And.intro x1 (And.intro x2 (And.intro t1 True.intro)))) (by kernel_rfl)

set_option maxRecDepth 100000 in
theorem rPlus_sft {a b c d h l h1 : Int} (x1 : Value.int .u64 (IntKind.u64.wrap (a + c)) = .int .u64 h) (x2 : Value.int .u64 (IntKind.u64.wrap (b + d)) = .int .u64 l) (t1 : decide (l < b) = true) (x3 : Value.int .u64 (IntKind.u64.wrap (h + 1)) = .int .u64 h1) :
    Pure Try.prog 95 #[bigV false a b, bigV false c d] (bigV false h1 l) :=
  pure_run (args := [bigV false a b, bigV false c d]) 200 [.k, .r (.int .u64 h), .r (.int .u64 l), .t true, .r (.int .u64 h1)]
    (And.intro rfl (And.intro x1 (And.intro x2 (And.intro t1 (And.intro x3 True.intro))))) (by kernel_rfl)

set_option maxRecDepth 100000 in
theorem rPlus_fg {a b c d h l e : Int} (c1 : Pure Try.prog 102 #[bigV false a b, bigV true c d] (.int .i64 e)) (t1 : decide (e ≥ 0) = true) (c2 : Pure Try.prog 103 #[bigV false a b, bigV true c d] (bigV false h l)) :
    Pure Try.prog 95 #[bigV false a b, bigV true c d] (bigV false h l) :=
  pure_run (args := [bigV false a b, bigV true c d]) 200 [.k, .r (.int .i64 e), .t true, .r (bigV false h l)]
    (And.intro rfl (And.intro c1 (And.intro t1 (And.intro c2 True.intro)))) (by kernel_rfl)

set_option maxRecDepth 100000 in
theorem rPlus_fl {a b c d h l e : Int} (c1 : Pure Try.prog 102 #[bigV false a b, bigV true c d] (.int .i64 e)) (t1 : decide (e ≥ 0) = false) (c2 : Pure Try.prog 103 #[bigV true c d, bigV false a b] (bigV false h l)) :
    Pure Try.prog 95 #[bigV false a b, bigV true c d] (bigV true h l) :=
  pure_run (args := [bigV false a b, bigV true c d]) 200 [.k, .r (.int .i64 e), .t false, .r (bigV false h l)]
    (And.intro rfl (And.intro c1 (And.intro t1 (And.intro c2 True.intro)))) (by kernel_rfl)

end Go.Proofs.Ytjjmnoiffpnphaa
