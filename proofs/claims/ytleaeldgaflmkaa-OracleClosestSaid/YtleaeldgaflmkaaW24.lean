/-
  Joined: Rs, Rt, Px, Rw. Conditions: none.
-/
import Derived.Test.YtleaeldgaflmkaaW23
import Derived.Test.YtleaeldgaflmkaaSxQ
namespace Go.Proofs.Ytleaeldgaflmkaa
set_option maxRecDepth 100000
open Go.RowKit
theorem qhc {a b ah al bh bl low p1 lh m p2 mr n p3 mh s1 nh hi nr nr2 lr lo:Int} (nz:¬ (4294967296:Int)=0) (q1:Value.int .u64 (IntKind.u64.wrap (Int.tdiv a 4294967296))=.int .u64 ah) (q2:Value.int .u64 (Int.tmod a 4294967296)=.int .u64 al) (q3:Value.int .u64 (IntKind.u64.wrap (Int.tdiv b 4294967296))=.int .u64 bh) (q4:Value.int .u64 (Int.tmod b 4294967296)=.int .u64 bl) (x1:Value.int .u64 (IntKind.u64.wrap (al*bl))=.int .u64 low) (x2:Value.int .u64 (IntKind.u64.wrap (ah*bl))=.int .u64 p1) (q5:Value.int .u64 (IntKind.u64.wrap (Int.tdiv low 4294967296))=.int .u64 lh) (x3:Value.int .u64 (IntKind.u64.wrap (p1+lh))=.int .u64 m) (x4:Value.int .u64 (IntKind.u64.wrap (al*bh))=.int .u64 p2) (q6:Value.int .u64 (Int.tmod m 4294967296)=.int .u64 mr) (x5:Value.int .u64 (IntKind.u64.wrap (p2+mr))=.int .u64 n) (x6:Value.int .u64 (IntKind.u64.wrap (ah*bh))=.int .u64 p3) (q7:Value.int .u64 (IntKind.u64.wrap (Int.tdiv m 4294967296))=.int .u64 mh) (x7:Value.int .u64 (IntKind.u64.wrap (p3+mh))=.int .u64 s1) (q8:Value.int .u64 (IntKind.u64.wrap (Int.tdiv n 4294967296))=.int .u64 nh) (x8:Value.int .u64 (IntKind.u64.wrap (s1+nh))=.int .u64 hi) (q9:Value.int .u64 (Int.tmod n 4294967296)=.int .u64 nr) (x9:Value.int .u64 (IntKind.u64.wrap (nr*4294967296))=.int .u64 nr2) (q10:Value.int .u64 (Int.tmod low 4294967296)=.int .u64 lr) (x10:Value.int .u64 (IntKind.u64.wrap (nr2+lr))=.int .u64 lo) :
 Pure Try.prog 47 #[.int .u64 a,.int .u64 b] (qal false hi lo):=
 qac (args:=[.int .u64 a,.int .u64 b]) 200 [Re q1,Re q2,Re q3,Re q4,Re x1,Re x2,Re q5,Re x3,Re x4,Re q6,Re x5,Re x6,Re q7,Re x7,Re q8,Re x8,Re q9,Re x9,Re q10,Re x10]
  (Ai rfl (Ai nz (Ai q1 (Ai nz (Ai q2 (Ai nz (Ai q3 (Ai nz (Ai q4 (Ai x1 (Ai x2 (Ai nz (Ai q5 (Ai x3 (Ai x4 (Ai nz (Ai q6 (Ai x5 (Ai x6 (Ai nz (Ai q7 (Ai x7 (Ai nz (Ai q8 (Ai x8 (Ai nz (Ai q9 (Ai x9 (Ai nz (Ai q10 (Ai x10 tI))))))))))))))))))))))))))))))) (by kernel_rfl)
abbrev qlV (hi:Int) (lo:Int) (za:Int) (zb:Int):Prop:=Pure Try.prog 47 #[.int .u64 za,.int .u64 zb] (qal false hi lo)
abbrev ql0 (a:Int) (za:Int):Prop:=Pure Try.prog 30 #[iV a] (.int .u64 za)
abbrev qlY (b:Int) (zb:Int):Prop:=Pure Try.prog 30 #[iV b] (.int .u64 zb)
theorem qgK {a b za zb hi lo:Int} (c1:ql0 a za) (c2:qlY b zb) (c3:qlV hi lo za zb) (t1:decide (a<0)=true) (t2:decide (b<0)=true) :
 Pure Try.prog 33 #[iV a,iV b] (qal false hi lo):=
 qac (args:=[iV a,iV b]) 200 [Rf c1,Rf c2,Rf c3,.t true,.t true,.k]
  (Ai rfl (Ai c1 (Ai c2 (Ai c3 (Ai t1 (Ai t2 tI)))))) (by kernel_rfl)
theorem qgV {a b za zb hi lo:Int} (c1:ql0 a za) (c2:qlY b zb) (c3:qlV hi lo za zb) (t1:decide (a<0)=true) (t2:decide (b<0)=false) (t3:(a !=0)=true) (t4:(b !=0)=false) :
 Pure Try.prog 33 #[iV a,iV b] (qal false hi lo):=
 qac (args:=[iV a,iV b]) 200 [Rf c1,Rf c2,Rf c3,.t true,.t false,.k,.t true,.t false]
  (Ai rfl (Ai c1 (Ai c2 (Ai c3 (Ai t1 (Ai t2 (Ai t3 (Ai t4 tI)))))))) (by kernel_rfl)
theorem qgU {a b za zb hi lo:Int} (c1:ql0 a za) (c2:qlY b zb) (c3:qlV hi lo za zb) (t1:decide (a<0)=true) (t2:decide (b<0)=false) (t3:(a !=0)=true) (t4:(b !=0)=true) :
 Pure Try.prog 33 #[iV a,iV b] (qal true hi lo):=
 qac (args:=[iV a,iV b]) 200 [Rf c1,Rf c2,Rf c3,.t true,.t false,.k,.t true,.t true]
  (Ai rfl (Ai c1 (Ai c2 (Ai c3 (Ai t1 (Ai t2 (Ai t3 (Ai t4 tI)))))))) (by kernel_rfl)
theorem qhr {a b za zb hi lo:Int} (c1:ql0 a za) (c2:qlY b zb) (c3:qlV hi lo za zb) (t1:decide (a<0)=false) (t2:decide (b<0)=true) (t3:(a !=0)=false) :
 Pure Try.prog 33 #[iV a,iV b] (qal false hi lo):=
 qac (args:=[iV a,iV b]) 200 [Rf c1,Rf c2,Rf c3,.t false,.t true,.k,.t false]
  (Ai rfl (Ai c1 (Ai c2 (Ai c3 (Ai t1 (Ai t2 (Ai t3 tI))))))) (by kernel_rfl)
theorem qg9 {a b za zb hi lo:Int} (c1:ql0 a za) (c2:qlY b zb) (c3:qlV hi lo za zb) (t1:decide (a<0)=false) (t2:decide (b<0)=true) (t3:(a !=0)=true) (t4:(b !=0)=true) :
 Pure Try.prog 33 #[iV a,iV b] (qal true hi lo):=
 qac (args:=[iV a,iV b]) 200 [Rf c1,Rf c2,Rf c3,.t false,.t true,.k,.t true,.t true]
  (Ai rfl (Ai c1 (Ai c2 (Ai c3 (Ai t1 (Ai t2 (Ai t3 (Ai t4 tI)))))))) (by kernel_rfl)
theorem qgI {a b za zb hi lo:Int} (c1:ql0 a za) (c2:qlY b zb) (c3:qlV hi lo za zb) (t1:decide (a<0)=false) (t2:decide (b<0)=false) :
 Pure Try.prog 33 #[iV a,iV b] (qal false hi lo):=
 qac (args:=[iV a,iV b]) 200 [Rf c1,Rf c2,Rf c3,.t false,.t false,.k]
  (Ai rfl (Ai c1 (Ai c2 (Ai c3 (Ai t1 (Ai t2 tI)))))) (by kernel_rfl)
theorem qlE {hi lo:Int} {s:Bool} (t1:(hi==0)=true) (t2:(lo==0)=true) :
 Pure Try.prog 34 #[qal s hi lo] (iV 0):=
 qac (args:=[qal s hi lo]) 200 [.t true,.t true]
  (Ai rfl (Ai t1 (Ai t2 tI))) (by kernel_rfl)
theorem qjb {hi lo:Int} (t1:(hi==0)=false) :
 Pure Try.prog 34 #[qal true hi lo] (iV (-1)):=
 qac (args:=[qal true hi lo]) 200 [.t false]
  (Ai rfl (Ai t1 tI)) (by kernel_rfl)
theorem qjR {hi lo:Int} (t1:(hi==0)=true) (t2:(lo==0)=false) :
 Pure Try.prog 34 #[qal true hi lo] (iV (-1)):=
 qac (args:=[qal true hi lo]) 200 [.t true,.t false]
  (Ai rfl (Ai t1 (Ai t2 tI))) (by kernel_rfl)
theorem qkb {hi lo:Int} (t1:(hi==0)=false) :
 Pure Try.prog 34 #[qal false hi lo] (iV 1):=
 qac (args:=[qal false hi lo]) 200 [.t false]
  (Ai rfl (Ai t1 tI)) (by kernel_rfl)
theorem qke {hi lo:Int} (t1:(hi==0)=true) (t2:(lo==0)=false) :
 Pure Try.prog 34 #[qal false hi lo] (iV 1):=
 qac (args:=[qal false hi lo]) 200 [.t true,.t false]
  (Ai rfl (Ai t1 (Ai t2 tI))) (by kernel_rfl)
theorem qj1 {a b c d:Int} {s t:Bool} (t1:(a !=c)=true) (t2:decide (a<c)=true) :
 Pure Try.prog 35 #[qal s a b,qal t c d] (iV (-1)):=
 qac (args:=[qal s a b,qal t c d]) 200 [.t true,.t true]
  (Ai rfl (Ai t1 (Ai t2 tI))) (by kernel_rfl)
theorem qjS {a b c d:Int} {s t:Bool} (t1:(a !=c)=true) (t2:decide (a<c)=false) :
 Pure Try.prog 35 #[qal s a b,qal t c d] (iV 1):=
 qac (args:=[qal s a b,qal t c d]) 200 [.t true,.t false]
  (Ai rfl (Ai t1 (Ai t2 tI))) (by kernel_rfl)
theorem qjw {a b c d:Int} {s t:Bool} (t1:(a !=c)=false) (t3:(b !=d)=true) (t4:decide (b<d)=true) :
 Pure Try.prog 35 #[qal s a b,qal t c d] (iV (-1)):=
 qac (args:=[qal s a b,qal t c d]) 200 [.t false,.t true,.t true]
  (Ai rfl (Ai t1 (Ai t3 (Ai t4 tI)))) (by kernel_rfl)
theorem qi6 {a b c d:Int} {s t:Bool} (t1:(a !=c)=false) (t3:(b !=d)=true) (t4:decide (b<d)=false) :
 Pure Try.prog 35 #[qal s a b,qal t c d] (iV 1):=
 qac (args:=[qal s a b,qal t c d]) 200 [.t false,.t true,.t false]
  (Ai rfl (Ai t1 (Ai t3 (Ai t4 tI)))) (by kernel_rfl)
theorem qjj {a b c d:Int} {s t:Bool} (t1:(a !=c)=false) (t3:(b !=d)=false) :
 Pure Try.prog 35 #[qal s a b,qal t c d] (iV 0):=
 qac (args:=[qal s a b,qal t c d]) 200 [.t false,.t false]
  (Ai rfl (Ai t1 (Ai t3 tI))) (by kernel_rfl)
theorem qmR {a b c d h l:Int} {s t:Bool} (x1:Value.int .u64 (IntKind.u64.wrap (a-c))=.int .u64 h) (x2:Value.int .u64 (IntKind.u64.wrap (b-d))=.int .u64 l) (t1:decide (b<d)=false) :
 Pure Try.prog 67 #[qal s a b,qal t c d] (qal false h l):=
 qac (args:=[qal s a b,qal t c d]) 200 [Re x1,Re x2,.t false]
  (Ai rfl (Ai x1 (Ai x2 (Ai t1 tI)))) (by kernel_rfl)
theorem qmd {a b c d h l h1:Int} {s t:Bool} (x1:Value.int .u64 (IntKind.u64.wrap (a-c))=.int .u64 h) (x2:Value.int .u64 (IntKind.u64.wrap (b-d))=.int .u64 l) (t1:decide (b<d)=true) (x3:Value.int .u64 (IntKind.u64.wrap (h-1))=.int .u64 h1) :
 Pure Try.prog 67 #[qal s a b,qal t c d] (qal false h1 l):=
 qac (args:=[qal s a b,qal t c d]) 200 [Re x1,Re x2,.t true,Re x3]
  (Ai rfl (Ai x1 (Ai x2 (Ai t1 (Ai x3 tI))))) (by kernel_rfl)
theorem qiF {a b c d h l:Int} (x1:Value.int .u64 (IntKind.u64.wrap (a+c))=.int .u64 h) (x2:Value.int .u64 (IntKind.u64.wrap (b+d))=.int .u64 l) (t1:decide (l<b)=false) :
 Pure Try.prog 58 #[qal true a b,qal true c d] (qal true h l):=
 qac (args:=[qal true a b,qal true c d]) 200 [.k,Re x1,Re x2,.t false]
  (Ai rfl (Ai x1 (Ai x2 (Ai t1 tI)))) (by kernel_rfl)
theorem qhK {a b c d h l h1:Int} (x1:Value.int .u64 (IntKind.u64.wrap (a+c))=.int .u64 h) (x2:Value.int .u64 (IntKind.u64.wrap (b+d))=.int .u64 l) (t1:decide (l<b)=true) (x3:Value.int .u64 (IntKind.u64.wrap (h+1))=.int .u64 h1) :
 Pure Try.prog 58 #[qal true a b,qal true c d] (qal true h1 l):=
 qac (args:=[qal true a b,qal true c d]) 200 [.k,Re x1,Re x2,.t true,Re x3]
  (Ai rfl (Ai x1 (Ai x2 (Ai t1 (Ai x3 tI))))) (by kernel_rfl)
theorem qiL {a b c d h l e:Int} (c1:Pure Try.prog 35 #[qal true a b,qal false c d] (iV e)) (t1:decide (e≥0)=true) (c2:Pure Try.prog 67 #[qal true a b,qal false c d] (qal false h l)) (t2:decide (h>0)=true) :
 Pure Try.prog 58 #[qal true a b,qal false c d] (qal true h l):=
 qac (args:=[qal true a b,qal false c d]) 200 [.k,Rf c1,.t true,Rf c2,.t true]
  (Ai rfl (Ai c1 (Ai t1 (Ai c2 (Ai t2 tI))))) (by kernel_rfl)
theorem qh8 {a b c d h l e:Int} (c1:Pure Try.prog 35 #[qal true a b,qal false c d] (iV e)) (t1:decide (e≥0)=true) (c2:Pure Try.prog 67 #[qal true a b,qal false c d] (qal false h l)) (t2:decide (h>0)=false) (t3:decide (l>0)=true) :
 Pure Try.prog 58 #[qal true a b,qal false c d] (qal true h l):=
 qac (args:=[qal true a b,qal false c d]) 200 [.k,Rf c1,.t true,Rf c2,.t false,.t true]
  (Ai rfl (Ai c1 (Ai t1 (Ai c2 (Ai t2 (Ai t3 tI)))))) (by kernel_rfl)
theorem qix {a b c d h l e:Int} (c1:Pure Try.prog 35 #[qal true a b,qal false c d] (iV e)) (t1:decide (e≥0)=true) (c2:Pure Try.prog 67 #[qal true a b,qal false c d] (qal false h l)) (t2:decide (h>0)=false) (t3:decide (l>0)=false) :
 Pure Try.prog 58 #[qal true a b,qal false c d] (qal false h l):=
 qac (args:=[qal true a b,qal false c d]) 200 [.k,Rf c1,.t true,Rf c2,.t false,.t false]
  (Ai rfl (Ai c1 (Ai t1 (Ai c2 (Ai t2 (Ai t3 tI)))))) (by kernel_rfl)
theorem qkg {a b c d h l e:Int} (c1:Pure Try.prog 35 #[qal true a b,qal false c d] (iV e)) (t1:decide (e≥0)=false) (c2:Pure Try.prog 67 #[qal false c d,qal true a b] (qal false h l)) :
 Pure Try.prog 58 #[qal true a b,qal false c d] (qal false h l):=
 qac (args:=[qal true a b,qal false c d]) 200 [.k,Rf c1,.t false,Rf c2]
  (Ai rfl (Ai c1 (Ai t1 (Ai c2 tI)))) (by kernel_rfl)
theorem qh3 {a b c d h l:Int} (x1:Value.int .u64 (IntKind.u64.wrap (a+c))=.int .u64 h) (x2:Value.int .u64 (IntKind.u64.wrap (b+d))=.int .u64 l) (t1:decide (l<b)=false) :
 Pure Try.prog 58 #[qal false a b,qal false c d] (qal false h l):=
 qac (args:=[qal false a b,qal false c d]) 200 [.k,Re x1,Re x2,.t false]
  (Ai rfl (Ai x1 (Ai x2 (Ai t1 tI)))) (by kernel_rfl)
theorem qiM {a b c d h l h1:Int} (x1:Value.int .u64 (IntKind.u64.wrap (a+c))=.int .u64 h) (x2:Value.int .u64 (IntKind.u64.wrap (b+d))=.int .u64 l) (t1:decide (l<b)=true) (x3:Value.int .u64 (IntKind.u64.wrap (h+1))=.int .u64 h1) :
 Pure Try.prog 58 #[qal false a b,qal false c d] (qal false h1 l):=
 qac (args:=[qal false a b,qal false c d]) 200 [.k,Re x1,Re x2,.t true,Re x3]
  (Ai rfl (Ai x1 (Ai x2 (Ai t1 (Ai x3 tI))))) (by kernel_rfl)
theorem qj5 {a b c d h l e:Int} (c1:Pure Try.prog 35 #[qal false a b,qal true c d] (iV e)) (t1:decide (e≥0)=true) (c2:Pure Try.prog 67 #[qal false a b,qal true c d] (qal false h l)) :
 Pure Try.prog 58 #[qal false a b,qal true c d] (qal false h l):=
 qac (args:=[qal false a b,qal true c d]) 200 [.k,Rf c1,.t true,Rf c2]
  (Ai rfl (Ai c1 (Ai t1 (Ai c2 tI)))) (by kernel_rfl)
theorem qjs {a b c d h l e:Int} (c1:Pure Try.prog 35 #[qal false a b,qal true c d] (iV e)) (t1:decide (e≥0)=false) (c2:Pure Try.prog 67 #[qal true c d,qal false a b] (qal false h l)) :
 Pure Try.prog 58 #[qal false a b,qal true c d] (qal true h l):=
 qac (args:=[qal false a b,qal true c d]) 200 [.k,Rf c1,.t false,Rf c2]
  (Ai rfl (Ai c1 (Ai t1 (Ai c2 tI)))) (by kernel_rfl)
theorem qj0 {a b c d:Int} {g s t:Bool} (t1:decide (a>0)=true) :
 Pure Try.prog 60 #[.bool g,qal s a b,qal t c d] (.tuple #[qaa 0 0,iV 16]):=
 qac (args:=[.bool g,qal s a b,qal t c d]) 200 [.t true]
  (Ai rfl (Ai t1 tI)) (by kernel_rfl)
theorem qjd {a b c d:Int} {g s t:Bool} (t1:decide (a>0)=false) (t2:decide (b>9223372036854775807)=true) :
 Pure Try.prog 60 #[.bool g,qal s a b,qal t c d] (.tuple #[qaa 0 0,iV 16]):=
 qac (args:=[.bool g,qal s a b,qal t c d]) 200 [.t false,.t true]
  (Ai rfl (Ai t1 (Ai t2 tI))) (by kernel_rfl)
theorem qjT {a b c d:Int} {g s t:Bool} (t1:decide (a>0)=false) (t2:decide (b>9223372036854775807)=false) (t3:decide (c>0)=true) :
 Pure Try.prog 60 #[.bool g,qal s a b,qal t c d] (.tuple #[qaa 0 0,iV 16]):=
 qac (args:=[.bool g,qal s a b,qal t c d]) 200 [.t false,.t false,.t true]
  (Ai rfl (Ai t1 (Ai t2 (Ai t3 tI)))) (by kernel_rfl)
theorem qki {a b c d:Int} {g s t:Bool} (t1:decide (a>0)=false) (t2:decide (b>9223372036854775807)=false) (t3:decide (c>0)=false) (t4:decide (d>9223372036854775807)=true) :
 Pure Try.prog 60 #[.bool g,qal s a b,qal t c d] (.tuple #[qaa 0 0,iV 16]):=
 qac (args:=[.bool g,qal s a b,qal t c d]) 200 [.t false,.t false,.t false,.t true]
  (Ai rfl (Ai t1 (Ai t2 (Ai t3 (Ai t4 tI))))) (by kernel_rfl)
theorem qlb {a b c d x y z:Int} {s t:Bool} (t1:decide (a>0)=false) (t2:decide (b>9223372036854775807)=false) (t3:decide (c>0)=false) (t4:decide (d>9223372036854775807)=false) (v1:iV (IntKind.i64.wrap b)=iV x) (v2:iV (IntKind.i64.wrap (0-x))=iV z) (v3:iV (IntKind.i64.wrap d)=iV y) :
 Pure Try.prog 60 #[.bool true,qal s a b,qal t c d] (.tuple #[qaa z y,iV 0]):=
 qac (args:=[.bool true,qal s a b,qal t c d]) 200 [.t false,.t false,.t false,.t false,Re v1,Re v2,Re v3]
  (Ai rfl (Ai t1 (Ai t2 (Ai t3 (Ai t4 (Ai v1 (Ai v2 (Ai v3 tI)))))))) (by kernel_rfl)
theorem qk0 {a b c d x y:Int} {s t:Bool} (t1:decide (a>0)=false) (t2:decide (b>9223372036854775807)=false) (t3:decide (c>0)=false) (t4:decide (d>9223372036854775807)=false) (v1:iV (IntKind.i64.wrap b)=iV x) (v3:iV (IntKind.i64.wrap d)=iV y) :
 Pure Try.prog 60 #[.bool false,qal s a b,qal t c d] (.tuple #[qaa x y,iV 0]):=
 qac (args:=[.bool false,qal s a b,qal t c d]) 200 [.t false,.t false,.t false,.t false,Re v1,Re v3]
  (Ai rfl (Ai t1 (Ai t2 (Ai t3 (Ai t4 (Ai v1 (Ai v3 tI))))))) (by kernel_rfl)
end Go.Proofs.Ytleaeldgaflmkaa

namespace Go.Proofs.Ytleaeldgaflmkaa
set_option maxRecDepth 100000
open Go.RowKit
theorem qef (x y:Nat):Int.tdiv (x:Int) (y:Int)=((x/y:Nat):Int):=by rw[Int.tdiv_eq_ediv_of_nonneg (Int.natCast_nonneg x)];simp
theorem qnD (x y:Nat):Int.tmod (x:Int) (y:Int)=((x%y:Nat):Int):=by rw[Int.tmod_eq_emod_of_nonneg (Int.natCast_nonneg x)];simp
theorem qmE (x:Nat) (h:x<18446744073709551616):Value.int .u64 (IntKind.u64.wrap (Int.tdiv (x:Int) 4294967296))=.int .u64 ((x/4294967296:Nat):Int):=by
 rw[show (4294967296:Int)=((4294967296:Nat):Int) from rfl,qef,qcH (by omega) (by omega)]
theorem ql5 (x:Nat):Value.int .u64 (Int.tmod (x:Int) 4294967296)=.int .u64 ((x%4294967296:Nat):Int):=by
 rw[show (4294967296:Int)=((4294967296:Nat):Int) from rfl,qnD]
theorem qmZ {x y:Nat} (h:x*y<18446744073709551616):Value.int .u64 (IntKind.u64.wrap ((x:Int)*(y:Int)))=.int .u64 ((x*y:Nat):Int):=qcq (by simp) (Int.natCast_nonneg _) (by omega)
theorem qln {x y:Nat} (h:x+y<18446744073709551616):Value.int .u64 (IntKind.u64.wrap ((x:Int)+(y:Int)))=.int .u64 ((x+y:Nat):Int):=qcq (by simp) (by omega) (by omega)
theorem halves (ah al bh bl:Nat):(ah*4294967296+al)*(bh*4294967296+bl)=ah*bh*18446744073709551616+(ah*bl+al*bh)*4294967296+al*bl:=by
 have e1:ah*4294967296*(bh*4294967296)=ah*bh*18446744073709551616:=Nat.mul_mul_mul_comm ah 4294967296 bh 4294967296
 have e2:ah*4294967296*bl=ah*bl*4294967296:=Nat.mul_right_comm ah 4294967296 bl
 have e3:al*(bh*4294967296)=al*bh*4294967296:=(Nat.mul_assoc al bh 4294967296).symm
 rw[Nat.add_mul,Nat.mul_add,Nat.mul_add,e1,e2,e3,Nat.add_mul]
 omega
theorem qcz (a b:Nat) (ha:a<18446744073709551616) (hb:b<18446744073709551616):Pure Try.prog 47 #[.int .u64 a,.int .u64 b] (qbU false (a*b)):=by
 obtain⟨ah,hah⟩:∃ x,x=a/4294967296:=⟨_,rfl⟩
 obtain⟨al,hal⟩:∃ x,x=a%4294967296:=⟨_,rfl⟩
 obtain⟨bh,hbh⟩:∃ x,x=b/4294967296:=⟨_,rfl⟩
 obtain⟨bl,hbl⟩:∃ x,x=b%4294967296:=⟨_,rfl⟩
 have e1:a=ah*4294967296+al:=by omega
 have e2:b=bh*4294967296+bl:=by omega
 have key:=halves ah al bh bl
 rw[← e1,← e2] at key
 have m1:ah*bl≤4294967295*4294967295:=Nat.mul_le_mul (by omega) (by omega)
 have m2:al*bh≤4294967295*4294967295:=Nat.mul_le_mul (by omega) (by omega)
 have m3:ah*bh≤4294967295*4294967295:=Nat.mul_le_mul (by omega) (by omega)
 have m4:al*bl≤4294967295*4294967295:=Nat.mul_le_mul (by omega) (by omega)
 have hab:a*b<340282366920938463463374607431768211456:=by
  have:a*b≤18446744073709551615*18446744073709551615:=Nat.mul_le_mul (by omega) (by omega)
  omega
 have x1:=qmZ (x:=al) (y:=bl) (by omega)
 have x2:=qmZ (x:=ah) (y:=bl) (by omega)
 have x4:=qmZ (x:=al) (y:=bh) (by omega)
 have x6:=qmZ (x:=ah) (y:=bh) (by omega)
 have q1:=qmE a ha
 have q2:=ql5 a
 have q3:=qmE b hb
 have q4:=ql5 b
 rw[← hah] at q1
 rw[← hal] at q2
 rw[← hbh] at q3
 rw[← hbl] at q4
 generalize ah*bl=p1 at *
 generalize al*bh=p2 at *
 generalize ah*bh=p3 at *
 generalize al*bl=low at *
 generalize a*b=ab at *
 obtain⟨m,hm⟩:∃ m,m=p1+low/4294967296:=⟨_,rfl⟩
 obtain⟨n,hn⟩:∃ n,n=p2+m%4294967296:=⟨_,rfl⟩
 have r:=qhc (nz:=by decide) q1 q2 q3 q4 x1 x2 (qmE low (by omega)) (qln (by omega)) x4 (ql5 _) (qln (by omega)) x6 (qmE _ (by omega)) (qln (by omega)) (qmE _ (by omega)) (qln (by omega))
  (ql5 _) (qcq (y:=((n%4294967296*4294967296:Nat):Int)) (by rw[hn,hm];simp) (by omega) (by omega)) (ql5 _) (qln (by omega))
 rw[← hm,← hn] at r
 have f1:p3+m/4294967296+n/4294967296=ab/18446744073709551616:=by omega
 have f2:n%4294967296*4294967296+low%4294967296=ab%18446744073709551616:=by omega
 rw[f1,f2] at r
 exact r
abbrev qbI (x:Int):Value:=qbU (decide (x<0)) x.natAbs
theorem qcD (n:Int) (h:I64 n):Pure Try.prog 30 #[iV n] (.int .u64 (n.natAbs:Int)):=
 fun w=>(qd5 n w h.1 h.2).mono fun _ _ ⟨h1,h2⟩=>⟨h1,Gr.of_eq h2⟩
theorem qam {p:Prop} [Decidable p] (h:p):decide p=true:=by simp[h]
theorem qak {p:Prop} [Decidable p] (h:¬ p):decide p=false:=by simp[h]
theorem qaT (a b:Int) (ha:I64 a) (hb:I64 b):Pure Try.prog 33 #[iV a,iV b] (qbI (a*b)):=by
 have ca:=qcD a ha
 have cb:=qcD b hb
 unfold I64 at ha hb
 have cp:=qcz a.natAbs b.natAbs (by omega) (by omega)
 unfold qbI
 rw[Int.natAbs_mul]
 by_cases sa:a<0<;>by_cases sb:b<0
 ·rw[qak (show ¬ a*b<0 by have:=Int.mul_pos_of_neg_of_neg sa sb;omega)]
  exact qgK ca cb cp (qam sa) (qam sb)
 ·by_cases nb:b=0
  ·subst nb
   rw[qak (by simp)]
   exact qgV ca cb cp (qam sa) (qak sb) (by simp;omega) (by simp)
  ·rw[qam (Int.mul_neg_of_neg_of_pos sa (by omega))]
   exact qgU ca cb cp (qam sa) (qak sb) (by simp;omega) (by simpa using nb)
 ·by_cases na:a=0
  ·subst na
   rw[qak (by simp)]
   exact qhr ca cb cp (qak sa) (qam sb) (by simp)
  ·rw[qam (Int.mul_neg_of_pos_of_neg (by omega) sb)]
   exact qg9 ca cb cp (qak sa) (qam sb) (by simpa using na) (by simp;omega)
 ·rw[qak (show ¬ a*b<0 by have:=Int.mul_nonneg (show 0≤a by omega) (show 0≤b by omega);omega)]
  exact qgI ca cb cp (qak sa) (qak sb)
theorem qe3 (x:Int):Pure Try.prog 34 #[qbI x] (iV x.sign):=by
 unfold qbI
 obtain⟨A,hA⟩:∃ A,A=x.natAbs:=⟨_,rfl⟩
 rw[← hA]
 by_cases h0:x=0
 ·subst h0
  subst hA
  exact qlE (by simp) (by simp)
 ·by_cases hs:x<0
  ·rw[qam hs,Int.sign_eq_neg_one_of_neg hs]
   by_cases hh:A/18446744073709551616=0
   ·exact qjR (by simp[hh]) (by simp;omega)
   ·exact qjb (by simp;omega)
  ·rw[qak hs,Int.sign_eq_one_of_pos (by omega)]
   by_cases hh:A/18446744073709551616=0
   ·exact qke (by simp[hh]) (by simp;omega)
   ·exact qkb (by simp;omega)
def qd6 (A B:Nat):Int:=if A<B then -1 else if A=B then 0 else 1
theorem qco (s t:Bool) (A B:Nat):Pure Try.prog 35 #[qbU s A,qbU t B] (iV (qd6 A B)):=by
 by_cases hh:A/18446744073709551616=B/18446744073709551616
 ·by_cases hl:A%18446744073709551616=B%18446744073709551616
  ·have e:A=B:=by omega
   subst e
   rw[show qd6 A A=0 by simp[qd6]]
   exact qjj (by simp) (by simp)
  ·by_cases hlt:A%18446744073709551616<B%18446744073709551616
   ·rw[show qd6 A B = -1 by unfold qd6;rw[if_pos (by omega)]]
    exact qjw (by simp[hh]) (by simp;omega) (by simp;omega)
   ·rw[show qd6 A B=1 by unfold qd6;rw[if_neg (by omega),if_neg (by omega)]]
    exact qi6 (by simp[hh]) (by simp;omega) (by simp;omega)
 ·by_cases hlt:A/18446744073709551616<B/18446744073709551616
  ·rw[show qd6 A B = -1 by unfold qd6;rw[if_pos (by omega)]]
   exact qj1 (by simp;omega) (by simp;omega)
  ·rw[show qd6 A B=1 by unfold qd6;rw[if_neg (by omega),if_neg (by omega)]]
   exact qjS (by simp;omega) (by simp;omega)
theorem qfO {x y:Nat} (h:x<y) (hy:y<18446744073709551616):Value.int .u64 (IntKind.u64.wrap ((x:Int)-(y:Int)))=.int .u64 ((18446744073709551616+x-y:Nat):Int):=by
 rw[IntKind.wrap_u64];congr 1;omega
theorem qdd (s t:Bool) (A B:Nat) (hA:A<340282366920938463463374607431768211456) (h:B≤A):Pure Try.prog 67 #[qbU s A,qbU t B] (qbU false (A-B)):=by
 obtain⟨a1,ha1⟩:∃ x,x=A/18446744073709551616:=⟨_,rfl⟩
 obtain⟨a0,ha0⟩:∃ x,x=A%18446744073709551616:=⟨_,rfl⟩
 obtain⟨b1,hb1⟩:∃ x,x=B/18446744073709551616:=⟨_,rfl⟩
 obtain⟨b0,hb0⟩:∃ x,x=B%18446744073709551616:=⟨_,rfl⟩
 unfold qbU
 rw[← ha1,← ha0,← hb1,← hb0]
 have hs:Value.int .u64 (IntKind.u64.wrap ((a1:Int)-(b1:Int)))=.int .u64 ((a1-b1:Nat):Int):=qcq (by omega) (by omega) (by omega)
 by_cases hl:a0<b0
 ·rw[show (A-B)/18446744073709551616=a1-b1-1 by omega,show (A-B)%18446744073709551616=18446744073709551616+a0-b0 by omega]
  exact qmd hs (qfO hl (by omega)) (by simp;omega) (qcq (by omega) (by omega) (by omega))
 ·rw[show (A-B)/18446744073709551616=a1-b1 by omega,show (A-B)%18446744073709551616=a0-b0 by omega]
  exact qmR hs (qcq (by omega) (by omega) (by omega)) (by simp;omega)
theorem qfP {x y z:Nat} (h:x+y=z+18446744073709551616) (hz:z<18446744073709551616):Value.int .u64 (IntKind.u64.wrap ((x:Int)+(y:Int)))=.int .u64 (z:Int):=by
 rw[IntKind.wrap_u64,show ((x:Int)+(y:Int))%18446744073709551616=(z:Int) by omega]
theorem qmH (s:Bool) (A B:Nat) (h:A+B<340282366920938463463374607431768211456):Pure Try.prog 58 #[qbU s A,qbU s B] (qbU s (A+B)):=by
 obtain⟨a1,ha1⟩:∃ x,x=A/18446744073709551616:=⟨_,rfl⟩
 obtain⟨a0,ha0⟩:∃ x,x=A%18446744073709551616:=⟨_,rfl⟩
 obtain⟨b1,hb1⟩:∃ x,x=B/18446744073709551616:=⟨_,rfl⟩
 obtain⟨b0,hb0⟩:∃ x,x=B%18446744073709551616:=⟨_,rfl⟩
 unfold qbU
 rw[← ha1,← ha0,← hb1,← hb0]
 have hh:Value.int .u64 (IntKind.u64.wrap ((a1:Int)+(b1:Int)))=.int .u64 ((a1+b1:Nat):Int):=qln (by omega)
 by_cases hl:a0+b0<18446744073709551616
 ·have l1:=qln hl
  rw[show (A+B)/18446744073709551616=a1+b1 by omega,show (A+B)%18446744073709551616=a0+b0 by omega]
  cases s
  ·exact qh3 hh l1 (qak (by omega))
  ·exact qiF hh l1 (qak (by omega))
 ·obtain⟨z,hz⟩:∃ z,a0+b0=z+18446744073709551616:=⟨a0+b0-18446744073709551616,by omega⟩
  have l1:=qfP hz (by omega)
  rw[show (A+B)/18446744073709551616=a1+b1+1 by omega,show (A+B)%18446744073709551616=z by omega]
  cases s
  ·exact qiM hh l1 (qam (by omega)) (qcq (by omega) (by omega) (by omega))
  ·exact qhK hh l1 (qam (by omega)) (qcq (by omega) (by omega) (by omega))
theorem qeP (x y:Int) (hx:x.natAbs<170141183460469231731687303715884105728) (hy:y.natAbs<170141183460469231731687303715884105728):Pure Try.prog 58 #[qbI x,qbI y] (qbI (x+y)):=by
 unfold qbI
 by_cases sx:x<0<;>by_cases sy:y<0
 ·rw[qam sx,qam sy,qam (show x+y<0 by omega),show (x+y).natAbs=x.natAbs+y.natAbs by omega]
  exact qmH true _ _ (by omega)
 ·rw[qam sx,qak sy]
  have cl:=qco true false x.natAbs y.natAbs
  by_cases hc:y.natAbs≤x.natAbs
  ·have cm:=qdd true false x.natAbs y.natAbs (by omega) hc
   rw[show (x+y).natAbs=x.natAbs-y.natAbs by omega]
   have hge:decide (qd6 x.natAbs y.natAbs≥0)=true:=by unfold qd6;rw[if_neg (by omega)];split<;>decide
   obtain⟨D,hD⟩:∃ D,D=x.natAbs-y.natAbs:=⟨_,rfl⟩
   rw[← hD] at cm ⊢
   by_cases hd:D=0
   ·rw[qak (show ¬ x+y<0 by omega)]
    exact qix cl hge cm (by simp[hd]) (by simp[hd])
   ·rw[qam (show x+y<0 by omega)]
    by_cases hh:D/18446744073709551616=0
    ·exact qh8 cl hge cm (by simp[hh]) (by simp;omega)
    ·exact qiL cl hge cm (by simp;omega)
  ·have cm:=qdd false true y.natAbs x.natAbs (by omega) (by omega)
   rw[show (x+y).natAbs=y.natAbs-x.natAbs by omega,qak (show ¬ x+y<0 by omega)]
   exact qkg cl (by unfold qd6;rw[if_pos (by omega)];decide) cm
 ·rw[qak sx,qam sy]
  have cl:=qco false true x.natAbs y.natAbs
  by_cases hc:y.natAbs≤x.natAbs
  ·have cm:=qdd false true x.natAbs y.natAbs (by omega) hc
   rw[show (x+y).natAbs=x.natAbs-y.natAbs by omega,qak (show ¬ x+y<0 by omega)]
   exact qj5 cl (by unfold qd6;rw[if_neg (by omega)];split<;>decide) cm
  ·have cm:=qdd true false y.natAbs x.natAbs (by omega) (by omega)
   rw[show (x+y).natAbs=y.natAbs-x.natAbs by omega,qam (show x+y<0 by omega)]
   exact qjs cl (by unfold qd6;rw[if_pos (by omega)];decide) cm
 ·rw[qak sx,qak sy,qak (show ¬ x+y<0 by omega),show (x+y).natAbs=x.natAbs+y.natAbs by omega]
  exact qmH false _ _ (by omega)
theorem qa8 (g s t:Bool) (A B:Nat):Pure Try.prog 60 #[.bool g,qbU s A,qbU t B] (.tuple #[qaa (qbP (qaC A&&qaC B) (sgV A g)) (qbP (qaC A&&qaC B) (B:Int)),iV (qeF (qaC A&&qaC B))]):=by
 by_cases hA:A<9223372036854775808
 ·by_cases hB:B<9223372036854775808
  ·have hf:(qaC A&&qaC B)=true:=by simp[qaC,hA,hB]
   rw[hf,show qbP true (sgV A g)=sgV A g from rfl,show qbP true (B:Int)=(B:Int) from rfl,show qeF true=0 from rfl]
   have v1:iV (IntKind.i64.wrap ((A%18446744073709551616:Nat):Int))=iV (A:Int):=by rw[qao (by omega) (by omega)];congr 1;omega
   have v3:iV (IntKind.i64.wrap ((B%18446744073709551616:Nat):Int))=iV (B:Int):=by rw[qao (by omega) (by omega)];congr 1;omega
   cases g
   ·rw[show sgV A false=(A:Int) by unfold sgV;rw[if_pos hA];rfl]
    exact qk0 (by simp;omega) (by simp;omega) (by simp;omega) (by simp;omega) v1 v3
   ·rw[show sgV A true = -(A:Int) by unfold sgV;rw[if_pos hA];rfl]
    exact qlb (by simp;omega) (by simp;omega) (by simp;omega) (by simp;omega) v1 (by rw[Int.zero_sub,qao (by omega) (by omega)]) v3
  ·rw[show (qaC A&&qaC B)=false by simp[qaC,hB]]
   by_cases hh:B/18446744073709551616=0
   ·exact qki (by simp;omega) (by simp;omega) (by simp;omega) (by simp;omega)
   ·exact qjT (by simp;omega) (by simp;omega) (by simp;omega)
 ·rw[show (qaC A&&qaC B)=false by simp[qaC,hA]]
  by_cases hh:A/18446744073709551616=0
  ·exact qjd (by simp;omega) (by simp;omega)
  ·exact qj0 (by simp;omega)
end Go.Proofs.Ytleaeldgaflmkaa

namespace Go.Proofs.Ytleaeldgaflmkaa
set_option maxRecDepth 100000
open Go.RowKit
theorem qiA {s d g m m2 e N D E:Int} {Q N2:Nat} (v1:Value.int .u64 (IntKind.u64.wrap d)=.int .u64 d) (d1:Pure Try.prog 59 #[qbI s,.int .u64 d] (.tuple #[qbU false Q,.int .u64 m])) (g1:Pure Try.prog 29 #[.int .u64 d,.int .u64 m] (.int .u64 g)) (d2:Pure Try.prog 59 #[qbI s,.int .u64 g] (.tuple #[qbU false N2,.int .u64 m2])) (gz:¬ (g:Int)=0) (q1:Value.int .u64 (IntKind.u64.wrap (d.tdiv g))=.int .u64 e) (m1:Pure Try.prog 60 #[.bool (decide (s<0)),qbU false N2,qal false 0 e] (.tuple #[qaa N D,iV E])) :
 Pure Try.prog 62 #[qbI s,iV d] (.tuple #[qaa N D,iV E]):=
 qac (args:=[qbI s,iV d]) 400 [Re v1,Rf d1,Re v1,Rf g1,Rf d2,Re v1,Re q1,Rf m1]
  (Ai rfl (Ai v1 (Ai d1 (Ai v1 (Ai g1 (Ai d2 (Ai v1 (Ai gz (Ai q1 (Ai m1 tI)))))))))) (by kernel_rfl)
theorem qkO {pi pa pb n d N1 D1 N D E:Int} (c1:Pure Try.prog 19 #[qae pi pa pb] (iV 0)) (c2:Pure Try.prog 20 #[qaa n d] (iV 0)) (m:Pure Try.prog 61 #[qaa pb 1,qaa n d] (.tuple #[qaa N1 D1,iV 0])) (a:Pure Try.prog 45 #[qaa pa 1,qaa N1 D1] (.tuple #[qaa N D,iV E])) :
 Pure Try.prog 46 #[qae pi pa pb,qaa n d] (.tuple #[qaa N D,iV E]):=
 qac (args:=[qae pi pa pb,qaa n d]) 400 [Rf c1,.k,Rf c1,.k,Rf m,.k,Rf a]
  (Ai rfl (Ai c1 (Ai c2 (Ai m (Ai a tI))))) (by kernel_rfl)
theorem qjW {pi pa pb n d N1 D1 N D E x y s:Int} (c1:Pure Try.prog 19 #[qae pi pa pb] (iV 0)) (c2:Pure Try.prog 20 #[qaa n d] (iV 0)) (m:Pure Try.prog 61 #[qaa pb 1,qaa n d] (.tuple #[qaa N1 D1,iV 16])) (p1:Pure Try.prog 33 #[iV pa,iV d] (qbI x)) (p2:Pure Try.prog 33 #[iV pb,iV n] (qbI y)) (p3:Pure Try.prog 58 #[qbI x,qbI y] (qbI s)) (o:Pure Try.prog 62 #[qbI s,iV d] (.tuple #[qaa N D,iV E])) :
 Pure Try.prog 46 #[qae pi pa pb,qaa n d] (.tuple #[qaa N D,iV E]):=
 qac (args:=[qae pi pa pb,qaa n d]) 400 [Rf c1,.k,Rf c1,.k,Rf m,.k,Rf p1,Rf p2,Rf p3,Rf o]
  (Ai rfl (Ai c1 (Ai c2 (Ai m (Ai p1 (Ai p2 (Ai p3 (Ai o tI)))))))) (by kernel_rfl)
end Go.Proofs.Ytleaeldgaflmkaa

namespace Go.Proofs.Ytleaeldgaflmkaa
set_option maxRecDepth 100000
open Go.RowKit
abbrev qm1 (x:Int):Prop:=Pure Try.prog 34 #[qbI (x)] (iV x.sign)
abbrev qjX (y:Int):Prop:=Pure Try.prog 34 #[qbI (y)] (iV y.sign)
theorem qhn {a b c d x y:Int} (c1:Pure Try.prog 33 #[iV a,iV d] (qbI (x))) (c2:Pure Try.prog 33 #[iV c,iV b] (qbI (y))) (s1:qm1 x) (s2:qjX y) (t1:(x.sign !=y.sign)=true) (t2:decide (x.sign<y.sign)=true) :
 Pure Try.prog 22 #[qaa a b,qaa c d] (iV (-1)):=
 qac (args:=[qaa a b,qaa c d]) 200 [Rf c1,Rf c2,Rf s1,Rf s2,.t true,Rf s1,Rf s2,.t true]
  (Ai rfl (Ai c1 (Ai c2 (Ai s1 (Ai s2 (Ai t1 (Ai s1 (Ai s2 (Ai t2 tI))))))))) (by kernel_rfl)
theorem qgH {a b c d x y:Int} (c1:Pure Try.prog 33 #[iV a,iV d] (qbI (x))) (c2:Pure Try.prog 33 #[iV c,iV b] (qbI (y))) (s1:qm1 x) (s2:qjX y) (t1:(x.sign !=y.sign)=true) (t2:decide (x.sign<y.sign)=false) :
 Pure Try.prog 22 #[qaa a b,qaa c d] (iV 1):=
 qac (args:=[qaa a b,qaa c d]) 200 [Rf c1,Rf c2,Rf s1,Rf s2,.t true,Rf s1,Rf s2,.t false]
  (Ai rfl (Ai c1 (Ai c2 (Ai s1 (Ai s2 (Ai t1 (Ai s1 (Ai s2 (Ai t2 tI))))))))) (by kernel_rfl)
theorem qg0 {a b c d x y e:Int} (c1:Pure Try.prog 33 #[iV a,iV d] (qbI (x))) (c2:Pure Try.prog 33 #[iV c,iV b] (qbI (y))) (s1:qm1 x) (s2:qjX y) (t1:(x.sign !=y.sign)=false) (t3:decide (x.sign<0)=true) (l1:Pure Try.prog 35 #[qbI (y),qbI (x)] (iV e)) :
 Pure Try.prog 22 #[qaa a b,qaa c d] (iV e):=
 qac (args:=[qaa a b,qaa c d]) 200 [Rf c1,Rf c2,Rf s1,Rf s2,.t false,Rf s1,.t true,Rf l1]
  (Ai rfl (Ai c1 (Ai c2 (Ai s1 (Ai s2 (Ai t1 (Ai s1 (Ai t3 (Ai l1 tI))))))))) (by kernel_rfl)
theorem qhl {a b c d x y e:Int} (c1:Pure Try.prog 33 #[iV a,iV d] (qbI (x))) (c2:Pure Try.prog 33 #[iV c,iV b] (qbI (y))) (s1:qm1 x) (s2:qjX y) (t1:(x.sign !=y.sign)=false) (t3:decide (x.sign<0)=false) (l1:Pure Try.prog 35 #[qbI (x),qbI (y)] (iV e)) :
 Pure Try.prog 22 #[qaa a b,qaa c d] (iV e):=
 qac (args:=[qaa a b,qaa c d]) 200 [Rf c1,Rf c2,Rf s1,Rf s2,.t false,Rf s1,.t false,Rf l1]
  (Ai rfl (Ai c1 (Ai c2 (Ai s1 (Ai s2 (Ai t1 (Ai s1 (Ai t3 (Ai l1 tI))))))))) (by kernel_rfl)
abbrev qku (a:Int) (b:Int) (c:Int) (d:Int):Prop:=Pure Try.prog 44 #[qaa a b,qaa c d] (iV 0)
theorem qkV {a b c d N D E x y T g k m m2 l r e:Int} {Q N2 U:Nat} (b1:qku a b c d) (v1:Value.int .u64 (IntKind.u64.wrap b)=.int .u64 b) (v2:Value.int .u64 (IntKind.u64.wrap d)=.int .u64 d) (g1:Pure Try.prog 29 #[.int .u64 b,.int .u64 d] (.int .u64 g)) (v3:iV (IntKind.i64.wrap g)=iV g) (nz:¬ (g:Int)=0) (q1:iV (IntKind.i64.wrap (d.tdiv g))=iV r) (c1:Pure Try.prog 33 #[iV a,iV r] (qbI (x))) (q2:iV (IntKind.i64.wrap (b.tdiv g))=iV l) (c2:Pure Try.prog 33 #[iV c,iV l] (qbI (y))) (c3:Pure Try.prog 58 #[qbI (x),qbI (y)] (qbI (T))) (v4:Value.int .u64 (IntKind.u64.wrap g)=.int .u64 g) (d1:Pure Try.prog 59 #[qbI (T),.int .u64 g] (.tuple #[qbU false Q,.int .u64 m])) (g2:Pure Try.prog 29 #[.int .u64 g,.int .u64 m] (.int .u64 k)) (d2:Pure Try.prog 59 #[qbI (T),.int .u64 k] (.tuple #[qbU false N2,.int .u64 m2])) (v5:Value.int .u64 (IntKind.u64.wrap l)=.int .u64 l) (kz:¬ (k:Int)=0) (q3:Value.int .u64 (IntKind.u64.wrap (d.tdiv k))=.int .u64 e) (p1:Pure Try.prog 47 #[.int .u64 l,.int .u64 e] (qbU false U)) (m1:Pure Try.prog 60 #[.bool (decide (T<0)),qbU false N2,qbU false U] (.tuple #[qaa N D,iV E])) :
 Pure Try.prog 45 #[qaa a b,qaa c d] (.tuple #[qaa N D,iV E]):=
 qac (args:=[qaa a b,qaa c d]) 400 [Rf b1,.k,Re v1,Re v2,Rf g1,Re v3,Re q1,Rf c1,Re q2,Rf c2,Rf c3,Rf g1,Rf d1,Rf g1,Rf g2,Rf d2,Re q2,Re v5,Re v2,Re q3,Rf p1,Rf m1]
  (Ai rfl (Ai b1 (Ai v1 (Ai v2 (Ai g1 (Ai v3 (Ai nz (Ai q1 (Ai c1 (Ai nz (Ai q2 (Ai c2 (Ai c3 (Ai v4 (Ai d1 (Ai v4 (Ai g2 (Ai d2 (Ai nz (Ai q2 (Ai v5 (Ai v2 (Ai kz (Ai q3 (Ai p1 (Ai m1 tI)))))))))))))))))))))))))) (by kernel_rfl)
theorem qk5 {a b c d c1 N D E:Int} (b1:qku a b c d) (v1:iV (IntKind.i64.wrap (0-c))=iV c1) (a1:Pure Try.prog 45 #[qaa a b,qaa c1 d] (.tuple #[qaa N D,iV E])) :
 Pure Try.prog 31 #[qaa a b,qaa c d] (.tuple #[qaa N D,iV E]):=
 qac (args:=[qaa a b,qaa c d]) 400 [Rf b1,.k,Re v1,Rf a1]
  (Ai rfl (Ai b1 (Ai v1 (Ai a1 tI)))) (by kernel_rfl)
abbrev qlU (T:Nat) (x:Int) (y:Int):Prop:=Pure Try.prog 47 #[.int .u64 x,.int .u64 y] (qbU false T)
abbrev ql4 (U:Nat) (l:Int) (r:Int):Prop:=Pure Try.prog 47 #[.int .u64 l,.int .u64 r] (qbU false U)
abbrev ql1 (d:Int) (g:Int) (za:Int):Prop:=Pure Try.prog 29 #[.int .u64 za,.int .u64 d] (.int .u64 g)
abbrev qlR (b:Int) (h:Int) (zc:Int):Prop:=Pure Try.prog 29 #[.int .u64 zc,.int .u64 b] (.int .u64 h)
abbrev qmX (D:Int) (E:Int) (N:Int) (T:Nat) (U:Nat):Prop:=Pure Try.prog 60 #[.bool false,qbU false T,qbU false U] (.tuple #[qaa N D,iV E])
abbrev qlZ (a:Int) (za:Int):Prop:=Pure Try.prog 30 #[iV a] (.int .u64 za)
abbrev qlT (c:Int) (zc:Int):Prop:=Pure Try.prog 30 #[iV c] (.int .u64 zc)
theorem qin {a b c d N D E za zc g h x y l r:Int} {T U:Nat} (b1:qku a b c d) (z1:qlZ a za) (v1:Value.int .u64 (IntKind.u64.wrap d)=.int .u64 d) (g1:ql1 d g za) (z2:qlT c zc) (v2:Value.int .u64 (IntKind.u64.wrap b)=.int .u64 b) (g2:qlR b h zc) (t1:decide (a<0)=true) (t2:decide (c<0)=true) (gz:¬ (g:Int)=0) (q1:Value.int .u64 (IntKind.u64.wrap (za.tdiv g))=.int .u64 x) (hz:¬ (h:Int)=0) (q2:Value.int .u64 (IntKind.u64.wrap (zc.tdiv h))=.int .u64 y) (p1:qlU T x y) (q3:Value.int .u64 (IntKind.u64.wrap (b.tdiv h))=.int .u64 l) (q4:Value.int .u64 (IntKind.u64.wrap (d.tdiv g))=.int .u64 r) (p2:ql4 U l r) (m1:qmX D E N T U) :
 Pure Try.prog 61 #[qaa a b,qaa c d] (.tuple #[qaa N D,iV E]):=
 qac (args:=[qaa a b,qaa c d]) 400 [Rf b1,.k,Rf z1,Re v1,Rf g1,Rf z2,Re v2,Rf g2,.t true,.t true,.k,Rf z1,Re q1,Rf z2,Re q2,Rf p1,Re v2,Re q3,Re v1,Re q4,Rf p2,Rf m1]
  (Ai rfl (Ai b1 (Ai z1 (Ai v1 (Ai g1 (Ai z2 (Ai v2 (Ai g2 (Ai t1 (Ai t2 (Ai z1 (Ai gz (Ai q1 (Ai z2 (Ai hz (Ai q2 (Ai p1 (Ai v2 (Ai hz (Ai q3 (Ai v1 (Ai gz (Ai q4 (Ai p2 (Ai m1 tI))))))))))))))))))))))))) (by kernel_rfl)
theorem qhY {a b c d N D E za zc g h x y l r:Int} {T U:Nat} (b1:qku a b c d) (z1:qlZ a za) (v1:Value.int .u64 (IntKind.u64.wrap d)=.int .u64 d) (g1:ql1 d g za) (z2:qlT c zc) (v2:Value.int .u64 (IntKind.u64.wrap b)=.int .u64 b) (g2:qlR b h zc) (t1:decide (a<0)=true) (t2:decide (c<0)=false) (t3:(a !=0)=true) (t4:(c !=0)=false) (gz:¬ (g:Int)=0) (q1:Value.int .u64 (IntKind.u64.wrap (za.tdiv g))=.int .u64 x) (hz:¬ (h:Int)=0) (q2:Value.int .u64 (IntKind.u64.wrap (zc.tdiv h))=.int .u64 y) (p1:qlU T x y) (q3:Value.int .u64 (IntKind.u64.wrap (b.tdiv h))=.int .u64 l) (q4:Value.int .u64 (IntKind.u64.wrap (d.tdiv g))=.int .u64 r) (p2:ql4 U l r) (m1:qmX D E N T U) :
 Pure Try.prog 61 #[qaa a b,qaa c d] (.tuple #[qaa N D,iV E]):=
 qac (args:=[qaa a b,qaa c d]) 400 [Rf b1,.k,Rf z1,Re v1,Rf g1,Rf z2,Re v2,Rf g2,.t true,.t false,.k,.t true,.t false,Rf z1,Re q1,Rf z2,Re q2,Rf p1,Re v2,Re q3,Re v1,Re q4,Rf p2,Rf m1]
  (Ai rfl (Ai b1 (Ai z1 (Ai v1 (Ai g1 (Ai z2 (Ai v2 (Ai g2 (Ai t1 (Ai t2 (Ai t3 (Ai t4 (Ai z1 (Ai gz (Ai q1 (Ai z2 (Ai hz (Ai q2 (Ai p1 (Ai v2 (Ai hz (Ai q3 (Ai v1 (Ai gz (Ai q4 (Ai p2 (Ai m1 tI))))))))))))))))))))))))))) (by kernel_rfl)
theorem qhM {a b c d N D E za zc g h x y l r:Int} {T U:Nat} (b1:qku a b c d) (z1:qlZ a za) (v1:Value.int .u64 (IntKind.u64.wrap d)=.int .u64 d) (g1:ql1 d g za) (z2:qlT c zc) (v2:Value.int .u64 (IntKind.u64.wrap b)=.int .u64 b) (g2:qlR b h zc) (t1:decide (a<0)=true) (t2:decide (c<0)=false) (t3:(a !=0)=true) (t4:(c !=0)=true) (gz:¬ (g:Int)=0) (q1:Value.int .u64 (IntKind.u64.wrap (za.tdiv g))=.int .u64 x) (hz:¬ (h:Int)=0) (q2:Value.int .u64 (IntKind.u64.wrap (zc.tdiv h))=.int .u64 y) (p1:qlU T x y) (q3:Value.int .u64 (IntKind.u64.wrap (b.tdiv h))=.int .u64 l) (q4:Value.int .u64 (IntKind.u64.wrap (d.tdiv g))=.int .u64 r) (p2:ql4 U l r) (m1:Pure Try.prog 60 #[.bool true,qbU false T,qbU false U] (.tuple #[qaa N D,iV E])) :
 Pure Try.prog 61 #[qaa a b,qaa c d] (.tuple #[qaa N D,iV E]):=
 qac (args:=[qaa a b,qaa c d]) 400 [Rf b1,.k,Rf z1,Re v1,Rf g1,Rf z2,Re v2,Rf g2,.t true,.t false,.k,.t true,.t true,Rf z1,Re q1,Rf z2,Re q2,Rf p1,Re v2,Re q3,Re v1,Re q4,Rf p2,Rf m1]
  (Ai rfl (Ai b1 (Ai z1 (Ai v1 (Ai g1 (Ai z2 (Ai v2 (Ai g2 (Ai t1 (Ai t2 (Ai t3 (Ai t4 (Ai z1 (Ai gz (Ai q1 (Ai z2 (Ai hz (Ai q2 (Ai p1 (Ai v2 (Ai hz (Ai q3 (Ai v1 (Ai gz (Ai q4 (Ai p2 (Ai m1 tI))))))))))))))))))))))))))) (by kernel_rfl)
theorem qip {a b c d N D E za zc g h x y l r:Int} {T U:Nat} (b1:qku a b c d) (z1:qlZ a za) (v1:Value.int .u64 (IntKind.u64.wrap d)=.int .u64 d) (g1:ql1 d g za) (z2:qlT c zc) (v2:Value.int .u64 (IntKind.u64.wrap b)=.int .u64 b) (g2:qlR b h zc) (t1:decide (a<0)=false) (t2:decide (c<0)=true) (t3:(a !=0)=false) (gz:¬ (g:Int)=0) (q1:Value.int .u64 (IntKind.u64.wrap (za.tdiv g))=.int .u64 x) (hz:¬ (h:Int)=0) (q2:Value.int .u64 (IntKind.u64.wrap (zc.tdiv h))=.int .u64 y) (p1:qlU T x y) (q3:Value.int .u64 (IntKind.u64.wrap (b.tdiv h))=.int .u64 l) (q4:Value.int .u64 (IntKind.u64.wrap (d.tdiv g))=.int .u64 r) (p2:ql4 U l r) (m1:qmX D E N T U) :
 Pure Try.prog 61 #[qaa a b,qaa c d] (.tuple #[qaa N D,iV E]):=
 qac (args:=[qaa a b,qaa c d]) 400 [Rf b1,.k,Rf z1,Re v1,Rf g1,Rf z2,Re v2,Rf g2,.t false,.t true,.k,.t false,Rf z1,Re q1,Rf z2,Re q2,Rf p1,Re v2,Re q3,Re v1,Re q4,Rf p2,Rf m1]
  (Ai rfl (Ai b1 (Ai z1 (Ai v1 (Ai g1 (Ai z2 (Ai v2 (Ai g2 (Ai t1 (Ai t2 (Ai t3 (Ai z1 (Ai gz (Ai q1 (Ai z2 (Ai hz (Ai q2 (Ai p1 (Ai v2 (Ai hz (Ai q3 (Ai v1 (Ai gz (Ai q4 (Ai p2 (Ai m1 tI)))))))))))))))))))))))))) (by kernel_rfl)
theorem qhH {a b c d N D E za zc g h x y l r:Int} {T U:Nat} (b1:qku a b c d) (z1:qlZ a za) (v1:Value.int .u64 (IntKind.u64.wrap d)=.int .u64 d) (g1:ql1 d g za) (z2:qlT c zc) (v2:Value.int .u64 (IntKind.u64.wrap b)=.int .u64 b) (g2:qlR b h zc) (t1:decide (a<0)=false) (t2:decide (c<0)=true) (t3:(a !=0)=true) (t4:(c !=0)=true) (gz:¬ (g:Int)=0) (q1:Value.int .u64 (IntKind.u64.wrap (za.tdiv g))=.int .u64 x) (hz:¬ (h:Int)=0) (q2:Value.int .u64 (IntKind.u64.wrap (zc.tdiv h))=.int .u64 y) (p1:qlU T x y) (q3:Value.int .u64 (IntKind.u64.wrap (b.tdiv h))=.int .u64 l) (q4:Value.int .u64 (IntKind.u64.wrap (d.tdiv g))=.int .u64 r) (p2:ql4 U l r) (m1:Pure Try.prog 60 #[.bool true,qbU false T,qbU false U] (.tuple #[qaa N D,iV E])) :
 Pure Try.prog 61 #[qaa a b,qaa c d] (.tuple #[qaa N D,iV E]):=
 qac (args:=[qaa a b,qaa c d]) 400 [Rf b1,.k,Rf z1,Re v1,Rf g1,Rf z2,Re v2,Rf g2,.t false,.t true,.k,.t true,.t true,Rf z1,Re q1,Rf z2,Re q2,Rf p1,Re v2,Re q3,Re v1,Re q4,Rf p2,Rf m1]
  (Ai rfl (Ai b1 (Ai z1 (Ai v1 (Ai g1 (Ai z2 (Ai v2 (Ai g2 (Ai t1 (Ai t2 (Ai t3 (Ai t4 (Ai z1 (Ai gz (Ai q1 (Ai z2 (Ai hz (Ai q2 (Ai p1 (Ai v2 (Ai hz (Ai q3 (Ai v1 (Ai gz (Ai q4 (Ai p2 (Ai m1 tI))))))))))))))))))))))))))) (by kernel_rfl)
theorem qis {a b c d N D E za zc g h x y l r:Int} {T U:Nat} (b1:qku a b c d) (z1:qlZ a za) (v1:Value.int .u64 (IntKind.u64.wrap d)=.int .u64 d) (g1:ql1 d g za) (z2:qlT c zc) (v2:Value.int .u64 (IntKind.u64.wrap b)=.int .u64 b) (g2:qlR b h zc) (t1:decide (a<0)=false) (t2:decide (c<0)=false) (gz:¬ (g:Int)=0) (q1:Value.int .u64 (IntKind.u64.wrap (za.tdiv g))=.int .u64 x) (hz:¬ (h:Int)=0) (q2:Value.int .u64 (IntKind.u64.wrap (zc.tdiv h))=.int .u64 y) (p1:qlU T x y) (q3:Value.int .u64 (IntKind.u64.wrap (b.tdiv h))=.int .u64 l) (q4:Value.int .u64 (IntKind.u64.wrap (d.tdiv g))=.int .u64 r) (p2:ql4 U l r) (m1:qmX D E N T U) :
 Pure Try.prog 61 #[qaa a b,qaa c d] (.tuple #[qaa N D,iV E]):=
 qac (args:=[qaa a b,qaa c d]) 400 [Rf b1,.k,Rf z1,Re v1,Rf g1,Rf z2,Re v2,Rf g2,.t false,.t false,.k,Rf z1,Re q1,Rf z2,Re q2,Rf p1,Re v2,Re q3,Re v1,Re q4,Rf p2,Rf m1]
  (Ai rfl (Ai b1 (Ai z1 (Ai v1 (Ai g1 (Ai z2 (Ai v2 (Ai g2 (Ai t1 (Ai t2 (Ai z1 (Ai gz (Ai q1 (Ai z2 (Ai hz (Ai q2 (Ai p1 (Ai v2 (Ai hz (Ai q3 (Ai v1 (Ai gz (Ai q4 (Ai p2 (Ai m1 tI))))))))))))))))))))))))) (by kernel_rfl)
end Go.Proofs.Ytleaeldgaflmkaa
