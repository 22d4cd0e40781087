/-
  Joined: Rs, Za. Conditions: none.
-/
import Derived.Test.YtleaeldgaflmkaaGreatW28
import Derived.Test.YtleaeldgaflmkaaGreatW25
import Derived.Test.YtleaeldgaflmkaaGreatSxJ
import Derived.Test.YtleaeldgaflmkaaGreatProg
namespace Go.Proofs.YtleaeldgaflmkaaGreat
set_option maxRecDepth 100000
open Go.RowKit
theorem qkw {a b ah al bh bl low p1 lh m p2 mr n p3 mh s1 nh hi nr nr2 lr lo:Int} (nz:¬ (4294967296:Int)=0) (q1:Value.int .u64 (IntKind.u64.wrap (Int.tdiv a 4294967296))=.int .u64 ah) (q2:Value.int .u64 (Int.tmod a 4294967296)=.int .u64 al) (q3:Value.int .u64 (IntKind.u64.wrap (Int.tdiv b 4294967296))=.int .u64 bh) (q4:Value.int .u64 (Int.tmod b 4294967296)=.int .u64 bl) (x1:Value.int .u64 (IntKind.u64.wrap (al*bl))=.int .u64 low) (x2:Value.int .u64 (IntKind.u64.wrap (ah*bl))=.int .u64 p1) (q5:Value.int .u64 (IntKind.u64.wrap (Int.tdiv low 4294967296))=.int .u64 lh) (x3:Value.int .u64 (IntKind.u64.wrap (p1+lh))=.int .u64 m) (x4:Value.int .u64 (IntKind.u64.wrap (al*bh))=.int .u64 p2) (q6:Value.int .u64 (Int.tmod m 4294967296)=.int .u64 mr) (x5:Value.int .u64 (IntKind.u64.wrap (p2+mr))=.int .u64 n) (x6:Value.int .u64 (IntKind.u64.wrap (ah*bh))=.int .u64 p3) (q7:Value.int .u64 (IntKind.u64.wrap (Int.tdiv m 4294967296))=.int .u64 mh) (x7:Value.int .u64 (IntKind.u64.wrap (p3+mh))=.int .u64 s1) (q8:Value.int .u64 (IntKind.u64.wrap (Int.tdiv n 4294967296))=.int .u64 nh) (x8:Value.int .u64 (IntKind.u64.wrap (s1+nh))=.int .u64 hi) (q9:Value.int .u64 (Int.tmod n 4294967296)=.int .u64 nr) (x9:Value.int .u64 (IntKind.u64.wrap (nr*4294967296))=.int .u64 nr2) (q10:Value.int .u64 (Int.tmod low 4294967296)=.int .u64 lr) (x10:Value.int .u64 (IntKind.u64.wrap (nr2+lr))=.int .u64 lo) :
 Pure Tryz.prog 79 #[.int .u64 a,.int .u64 b] (qap false hi lo):=
 qac (args:=[.int .u64 a,.int .u64 b]) 200 [Re q1,Re q2,Re q3,Re q4,Re x1,Re x2,Re q5,Re x3,Re x4,Re q6,Re x5,Re x6,Re q7,Re x7,Re q8,Re x8,Re q9,Re x9,Re q10,Re x10]
  (Ai rfl (Ai nz (Ai q1 (Ai nz (Ai q2 (Ai nz (Ai q3 (Ai nz (Ai q4 (Ai x1 (Ai x2 (Ai nz (Ai q5 (Ai x3 (Ai x4 (Ai nz (Ai q6 (Ai x5 (Ai x6 (Ai nz (Ai q7 (Ai x7 (Ai nz (Ai q8 (Ai x8 (Ai nz (Ai q9 (Ai x9 (Ai nz (Ai q10 (Ai x10 tI))))))))))))))))))))))))))))))) (by kernel_rfl)
abbrev qtX (hi:Int) (lo:Int) (za:Int) (zb:Int):Prop:=Pure Tryz.prog 79 #[.int .u64 za,.int .u64 zb] (qap false hi lo)
abbrev qt3 (a:Int) (za:Int):Prop:=Pure Tryz.prog 66 #[iV a] (.int .u64 za)
abbrev qtT (b:Int) (zb:Int):Prop:=Pure Tryz.prog 66 #[iV b] (.int .u64 zb)
theorem qjN {a b za zb hi lo:Int} (c1:qt3 a za) (c2:qtT b zb) (c3:qtX hi lo za zb) (t1:decide (a<0)=true) (t2:decide (b<0)=true) :
 Pure Tryz.prog 52 #[iV a,iV b] (qap false hi lo):=
 qac (args:=[iV a,iV b]) 200 [Rf c1,Rf c2,Rf c3,.t true,.t true,.k]
  (Ai rfl (Ai c1 (Ai c2 (Ai c3 (Ai t1 (Ai t2 tI)))))) (by kernel_rfl)
theorem qki {a b za zb hi lo:Int} (c1:qt3 a za) (c2:qtT b zb) (c3:qtX hi lo za zb) (t1:decide (a<0)=true) (t2:decide (b<0)=false) (t3:(a !=0)=true) (t4:(b !=0)=false) :
 Pure Tryz.prog 52 #[iV a,iV b] (qap false hi lo):=
 qac (args:=[iV a,iV b]) 200 [Rf c1,Rf c2,Rf c3,.t true,.t false,.k,.t true,.t false]
  (Ai rfl (Ai c1 (Ai c2 (Ai c3 (Ai t1 (Ai t2 (Ai t3 (Ai t4 tI)))))))) (by kernel_rfl)
theorem qkn {a b za zb hi lo:Int} (c1:qt3 a za) (c2:qtT b zb) (c3:qtX hi lo za zb) (t1:decide (a<0)=true) (t2:decide (b<0)=false) (t3:(a !=0)=true) (t4:(b !=0)=true) :
 Pure Tryz.prog 52 #[iV a,iV b] (qap true hi lo):=
 qac (args:=[iV a,iV b]) 200 [Rf c1,Rf c2,Rf c3,.t true,.t false,.k,.t true,.t true]
  (Ai rfl (Ai c1 (Ai c2 (Ai c3 (Ai t1 (Ai t2 (Ai t3 (Ai t4 tI)))))))) (by kernel_rfl)
theorem qkN {a b za zb hi lo:Int} (c1:qt3 a za) (c2:qtT b zb) (c3:qtX hi lo za zb) (t1:decide (a<0)=false) (t2:decide (b<0)=true) (t3:(a !=0)=false) :
 Pure Tryz.prog 52 #[iV a,iV b] (qap false hi lo):=
 qac (args:=[iV a,iV b]) 200 [Rf c1,Rf c2,Rf c3,.t false,.t true,.k,.t false]
  (Ai rfl (Ai c1 (Ai c2 (Ai c3 (Ai t1 (Ai t2 (Ai t3 tI))))))) (by kernel_rfl)
theorem qjM {a b za zb hi lo:Int} (c1:qt3 a za) (c2:qtT b zb) (c3:qtX hi lo za zb) (t1:decide (a<0)=false) (t2:decide (b<0)=true) (t3:(a !=0)=true) (t4:(b !=0)=true) :
 Pure Tryz.prog 52 #[iV a,iV b] (qap true hi lo):=
 qac (args:=[iV a,iV b]) 200 [Rf c1,Rf c2,Rf c3,.t false,.t true,.k,.t true,.t true]
  (Ai rfl (Ai c1 (Ai c2 (Ai c3 (Ai t1 (Ai t2 (Ai t3 (Ai t4 tI)))))))) (by kernel_rfl)
theorem qjX {a b za zb hi lo:Int} (c1:qt3 a za) (c2:qtT b zb) (c3:qtX hi lo za zb) (t1:decide (a<0)=false) (t2:decide (b<0)=false) :
 Pure Tryz.prog 52 #[iV a,iV b] (qap false hi lo):=
 qac (args:=[iV a,iV b]) 200 [Rf c1,Rf c2,Rf c3,.t false,.t false,.k]
  (Ai rfl (Ai c1 (Ai c2 (Ai c3 (Ai t1 (Ai t2 tI)))))) (by kernel_rfl)
theorem qrg {hi lo:Int} {s:Bool} (t1:(hi==0)=true) (t2:(lo==0)=true) :
 Pure Tryz.prog 53 #[qap s hi lo] (iV 0):=
 qac (args:=[qap s hi lo]) 200 [.t true,.t true]
  (Ai rfl (Ai t1 (Ai t2 tI))) (by kernel_rfl)
theorem qqi {hi lo:Int} (t1:(hi==0)=false) :
 Pure Tryz.prog 53 #[qap true hi lo] (iV (-1)):=
 qac (args:=[qap true hi lo]) 200 [.t false]
  (Ai rfl (Ai t1 tI)) (by kernel_rfl)
theorem qop {hi lo:Int} (t1:(hi==0)=true) (t2:(lo==0)=false) :
 Pure Tryz.prog 53 #[qap true hi lo] (iV (-1)):=
 qac (args:=[qap true hi lo]) 200 [.t true,.t false]
  (Ai rfl (Ai t1 (Ai t2 tI))) (by kernel_rfl)
theorem qp9 {hi lo:Int} (t1:(hi==0)=false) :
 Pure Tryz.prog 53 #[qap false hi lo] (iV 1):=
 qac (args:=[qap false hi lo]) 200 [.t false]
  (Ai rfl (Ai t1 tI)) (by kernel_rfl)
theorem qog {hi lo:Int} (t1:(hi==0)=true) (t2:(lo==0)=false) :
 Pure Tryz.prog 53 #[qap false hi lo] (iV 1):=
 qac (args:=[qap false hi lo]) 200 [.t true,.t false]
  (Ai rfl (Ai t1 (Ai t2 tI))) (by kernel_rfl)
theorem qpX {a b c d:Int} {s t:Bool} (t1:(a !=c)=true) (t2:decide (a<c)=true) :
 Pure Tryz.prog 54 #[qap s a b,qap t c d] (iV (-1)):=
 qac (args:=[qap s a b,qap t c d]) 200 [.t true,.t true]
  (Ai rfl (Ai t1 (Ai t2 tI))) (by kernel_rfl)
theorem qpA {a b c d:Int} {s t:Bool} (t1:(a !=c)=true) (t2:decide (a<c)=false) :
 Pure Tryz.prog 54 #[qap s a b,qap t c d] (iV 1):=
 qac (args:=[qap s a b,qap t c d]) 200 [.t true,.t false]
  (Ai rfl (Ai t1 (Ai t2 tI))) (by kernel_rfl)
theorem qpB {a b c d:Int} {s t:Bool} (t1:(a !=c)=false) (t3:(b !=d)=true) (t4:decide (b<d)=true) :
 Pure Tryz.prog 54 #[qap s a b,qap t c d] (iV (-1)):=
 qac (args:=[qap s a b,qap t c d]) 200 [.t false,.t true,.t true]
  (Ai rfl (Ai t1 (Ai t3 (Ai t4 tI)))) (by kernel_rfl)
theorem qph {a b c d:Int} {s t:Bool} (t1:(a !=c)=false) (t3:(b !=d)=true) (t4:decide (b<d)=false) :
 Pure Tryz.prog 54 #[qap s a b,qap t c d] (iV 1):=
 qac (args:=[qap s a b,qap t c d]) 200 [.t false,.t true,.t false]
  (Ai rfl (Ai t1 (Ai t3 (Ai t4 tI)))) (by kernel_rfl)
theorem qoX {a b c d:Int} {s t:Bool} (t1:(a !=c)=false) (t3:(b !=d)=false) :
 Pure Tryz.prog 54 #[qap s a b,qap t c d] (iV 0):=
 qac (args:=[qap s a b,qap t c d]) 200 [.t false,.t false]
  (Ai rfl (Ai t1 (Ai t3 tI))) (by kernel_rfl)
theorem qvI {a b c d h l:Int} {s t:Bool} (x1:Value.int .u64 (IntKind.u64.wrap (a-c))=.int .u64 h) (x2:Value.int .u64 (IntKind.u64.wrap (b-d))=.int .u64 l) (t1:decide (b<d)=false) :
 Pure Tryz.prog 115 #[qap s a b,qap t c d] (qap false h l):=
 qac (args:=[qap s a b,qap t c d]) 200 [Re x1,Re x2,.t false]
  (Ai rfl (Ai x1 (Ai x2 (Ai t1 tI)))) (by kernel_rfl)
theorem qvQ {a b c d h l h1:Int} {s t:Bool} (x1:Value.int .u64 (IntKind.u64.wrap (a-c))=.int .u64 h) (x2:Value.int .u64 (IntKind.u64.wrap (b-d))=.int .u64 l) (t1:decide (b<d)=true) (x3:Value.int .u64 (IntKind.u64.wrap (h-1))=.int .u64 h1) :
 Pure Tryz.prog 115 #[qap s a b,qap t c d] (qap false h1 l):=
 qac (args:=[qap s a b,qap t c d]) 200 [Re x1,Re x2,.t true,Re x3]
  (Ai rfl (Ai x1 (Ai x2 (Ai t1 (Ai x3 tI))))) (by kernel_rfl)
theorem qk8 {a b c d h l:Int} (x1:Value.int .u64 (IntKind.u64.wrap (a+c))=.int .u64 h) (x2:Value.int .u64 (IntKind.u64.wrap (b+d))=.int .u64 l) (t1:decide (l<b)=false) :
 Pure Tryz.prog 91 #[qap true a b,qap true c d] (qap true h l):=
 qac (args:=[qap true a b,qap true c d]) 200 [.k,Re x1,Re x2,.t false]
  (Ai rfl (Ai x1 (Ai x2 (Ai t1 tI)))) (by kernel_rfl)
theorem qnm {a b c d h l h1:Int} (x1:Value.int .u64 (IntKind.u64.wrap (a+c))=.int .u64 h) (x2:Value.int .u64 (IntKind.u64.wrap (b+d))=.int .u64 l) (t1:decide (l<b)=true) (x3:Value.int .u64 (IntKind.u64.wrap (h+1))=.int .u64 h1) :
 Pure Tryz.prog 91 #[qap true a b,qap true c d] (qap true h1 l):=
 qac (args:=[qap true a b,qap true c d]) 200 [.k,Re x1,Re x2,.t true,Re x3]
  (Ai rfl (Ai x1 (Ai x2 (Ai t1 (Ai x3 tI))))) (by kernel_rfl)
theorem qmG {a b c d h l e:Int} (c1:Pure Tryz.prog 54 #[qap true a b,qap false c d] (iV e)) (t1:decide (e≥0)=true) (c2:Pure Tryz.prog 115 #[qap true a b,qap false c d] (qap false h l)) (t2:decide (h>0)=true) :
 Pure Tryz.prog 91 #[qap true a b,qap false c d] (qap true h l):=
 qac (args:=[qap true a b,qap false c d]) 200 [.k,Rf c1,.t true,Rf c2,.t true]
  (Ai rfl (Ai c1 (Ai t1 (Ai c2 (Ai t2 tI))))) (by kernel_rfl)
theorem qlQ {a b c d h l e:Int} (c1:Pure Tryz.prog 54 #[qap true a b,qap false c d] (iV e)) (t1:decide (e≥0)=true) (c2:Pure Tryz.prog 115 #[qap true a b,qap false c d] (qap false h l)) (t2:decide (h>0)=false) (t3:decide (l>0)=true) :
 Pure Tryz.prog 91 #[qap true a b,qap false c d] (qap true h l):=
 qac (args:=[qap true a b,qap false c d]) 200 [.k,Rf c1,.t true,Rf c2,.t false,.t true]
  (Ai rfl (Ai c1 (Ai t1 (Ai c2 (Ai t2 (Ai t3 tI)))))) (by kernel_rfl)
theorem qlM {a b c d h l e:Int} (c1:Pure Tryz.prog 54 #[qap true a b,qap false c d] (iV e)) (t1:decide (e≥0)=true) (c2:Pure Tryz.prog 115 #[qap true a b,qap false c d] (qap false h l)) (t2:decide (h>0)=false) (t3:decide (l>0)=false) :
 Pure Tryz.prog 91 #[qap true a b,qap false c d] (qap false h l):=
 qac (args:=[qap true a b,qap false c d]) 200 [.k,Rf c1,.t true,Rf c2,.t false,.t false]
  (Ai rfl (Ai c1 (Ai t1 (Ai c2 (Ai t2 (Ai t3 tI)))))) (by kernel_rfl)
theorem qpn {a b c d h l e:Int} (c1:Pure Tryz.prog 54 #[qap true a b,qap false c d] (iV e)) (t1:decide (e≥0)=false) (c2:Pure Tryz.prog 115 #[qap false c d,qap true a b] (qap false h l)) :
 Pure Tryz.prog 91 #[qap true a b,qap false c d] (qap false h l):=
 qac (args:=[qap true a b,qap false c d]) 200 [.k,Rf c1,.t false,Rf c2]
  (Ai rfl (Ai c1 (Ai t1 (Ai c2 tI)))) (by kernel_rfl)
theorem qk0 {a b c d h l:Int} (x1:Value.int .u64 (IntKind.u64.wrap (a+c))=.int .u64 h) (x2:Value.int .u64 (IntKind.u64.wrap (b+d))=.int .u64 l) (t1:decide (l<b)=false) :
 Pure Tryz.prog 91 #[qap false a b,qap false c d] (qap false h l):=
 qac (args:=[qap false a b,qap false c d]) 200 [.k,Re x1,Re x2,.t false]
  (Ai rfl (Ai x1 (Ai x2 (Ai t1 tI)))) (by kernel_rfl)
theorem qnd {a b c d h l h1:Int} (x1:Value.int .u64 (IntKind.u64.wrap (a+c))=.int .u64 h) (x2:Value.int .u64 (IntKind.u64.wrap (b+d))=.int .u64 l) (t1:decide (l<b)=true) (x3:Value.int .u64 (IntKind.u64.wrap (h+1))=.int .u64 h1) :
 Pure Tryz.prog 91 #[qap false a b,qap false c d] (qap false h1 l):=
 qac (args:=[qap false a b,qap false c d]) 200 [.k,Re x1,Re x2,.t true,Re x3]
  (Ai rfl (Ai x1 (Ai x2 (Ai t1 (Ai x3 tI))))) (by kernel_rfl)
theorem qoT {a b c d h l e:Int} (c1:Pure Tryz.prog 54 #[qap false a b,qap true c d] (iV e)) (t1:decide (e≥0)=true) (c2:Pure Tryz.prog 115 #[qap false a b,qap true c d] (qap false h l)) :
 Pure Tryz.prog 91 #[qap false a b,qap true c d] (qap false h l):=
 qac (args:=[qap false a b,qap true c d]) 200 [.k,Rf c1,.t true,Rf c2]
  (Ai rfl (Ai c1 (Ai t1 (Ai c2 tI)))) (by kernel_rfl)
theorem qpP {a b c d h l e:Int} (c1:Pure Tryz.prog 54 #[qap false a b,qap true c d] (iV e)) (t1:decide (e≥0)=false) (c2:Pure Tryz.prog 115 #[qap true c d,qap false a b] (qap false h l)) :
 Pure Tryz.prog 91 #[qap false a b,qap true c d] (qap true h l):=
 qac (args:=[qap false a b,qap true c d]) 200 [.k,Rf c1,.t false,Rf c2]
  (Ai rfl (Ai c1 (Ai t1 (Ai c2 tI)))) (by kernel_rfl)
theorem qpe {a b c d:Int} {g s t:Bool} (t1:decide (a>0)=true) :
 Pure Tryz.prog 93 #[.bool g,qap s a b,qap t c d] (.tuple #[qaa 0 0,iV 16]):=
 qac (args:=[.bool g,qap s a b,qap t c d]) 200 [.t true]
  (Ai rfl (Ai t1 tI)) (by kernel_rfl)
theorem qpC {a b c d:Int} {g s t:Bool} (t1:decide (a>0)=false) (t2:decide (b>9223372036854775807)=true) :
 Pure Tryz.prog 93 #[.bool g,qap s a b,qap t c d] (.tuple #[qaa 0 0,iV 16]):=
 qac (args:=[.bool g,qap s a b,qap t c d]) 200 [.t false,.t true]
  (Ai rfl (Ai t1 (Ai t2 tI))) (by kernel_rfl)
theorem qqe {a b c d:Int} {g s t:Bool} (t1:decide (a>0)=false) (t2:decide (b>9223372036854775807)=false) (t3:decide (c>0)=true) :
 Pure Tryz.prog 93 #[.bool g,qap s a b,qap t c d] (.tuple #[qaa 0 0,iV 16]):=
 qac (args:=[.bool g,qap s a b,qap t c d]) 200 [.t false,.t false,.t true]
  (Ai rfl (Ai t1 (Ai t2 (Ai t3 tI)))) (by kernel_rfl)
theorem qoQ {a b c d:Int} {g s t:Bool} (t1:decide (a>0)=false) (t2:decide (b>9223372036854775807)=false) (t3:decide (c>0)=false) (t4:decide (d>9223372036854775807)=true) :
 Pure Tryz.prog 93 #[.bool g,qap s a b,qap t c d] (.tuple #[qaa 0 0,iV 16]):=
 qac (args:=[.bool g,qap s a b,qap t c d]) 200 [.t false,.t false,.t false,.t true]
  (Ai rfl (Ai t1 (Ai t2 (Ai t3 (Ai t4 tI))))) (by kernel_rfl)
theorem qtv {a b c d x y z:Int} {s t:Bool} (t1:decide (a>0)=false) (t2:decide (b>9223372036854775807)=false) (t3:decide (c>0)=false) (t4:decide (d>9223372036854775807)=false) (v1:iV (IntKind.i64.wrap b)=iV x) (v2:iV (IntKind.i64.wrap (0-x))=iV z) (v3:iV (IntKind.i64.wrap d)=iV y) :
 Pure Tryz.prog 93 #[.bool true,qap s a b,qap t c d] (.tuple #[qaa z y,iV 0]):=
 qac (args:=[.bool true,qap s a b,qap t c d]) 200 [.t false,.t false,.t false,.t false,Re v1,Re v2,Re v3]
  (Ai rfl (Ai t1 (Ai t2 (Ai t3 (Ai t4 (Ai v1 (Ai v2 (Ai v3 tI)))))))) (by kernel_rfl)
theorem qtz {a b c d x y:Int} {s t:Bool} (t1:decide (a>0)=false) (t2:decide (b>9223372036854775807)=false) (t3:decide (c>0)=false) (t4:decide (d>9223372036854775807)=false) (v1:iV (IntKind.i64.wrap b)=iV x) (v3:iV (IntKind.i64.wrap d)=iV y) :
 Pure Tryz.prog 93 #[.bool false,qap s a b,qap t c d] (.tuple #[qaa x y,iV 0]):=
 qac (args:=[.bool false,qap s a b,qap t c d]) 200 [.t false,.t false,.t false,.t false,Re v1,Re v3]
  (Ai rfl (Ai t1 (Ai t2 (Ai t3 (Ai t4 (Ai v1 (Ai v3 tI))))))) (by kernel_rfl)
end Go.Proofs.YtleaeldgaflmkaaGreat

namespace Go.Proofs.YtleaeldgaflmkaaGreat
set_option maxRecDepth 100000
open Go.RowKit
theorem qvT {P:Program} (n:Nat) {f:FuncId} {args:List Value} (ch:List Ch) {v:Value} {T:Prop} (ht:v=v∧T) (e:qwU v (qwK P n f args ch)=(v=v∧T)):Pure P f args.toArray v:=qnh n ch (e▸ht)
def ziV (l:List Int):List Value:=l.map fun x=>iV x
def zbV (l:List Bool):List Value:=l.map fun x=>.bool x
abbrev zrI (l:List Int):SV:=.row 3 1 l.length (ziV l)
abbrev zrB (l:List Bool):SV:=.row 4 1 l.length (zbV l)
theorem qkQ (l:List Int):(ziV l).length=l.length:=by simp[ziV]
theorem qj0 (l:List Bool):(zbV l).length=l.length:=by simp[zbV]
theorem qz1 {l:List Int} {k:Nat} {x:Int} (h:l[k]?=some x):qc8 (ziV l) (0*1+k*1) [iV x]:=by
 intro j v hj
 match j,hj with
 | 0,hj=>cases hj;simp[ziV,h]
 | j+1,hj=>simp at hj
theorem qz3 {l:List Bool} {k:Nat} {x:Bool} (h:l[k]?=some x):qc8 (zbV l) (0*1+k*1) [.bool x]:=by
 intro j v hj
 match j,hj with
 | 0,hj=>cases hj;simp[zbV,h]
 | j+1,hj=>simp at hj
theorem qzP {l:List Int} {z:Int} {x:Int} (h:l[z.toNat]?=some x):qc8 (ziV l) (0*1+z.toNat*1) [iV x]:=qz1 h
theorem qzS {l:List Bool} {z:Int} {x:Bool} (h:l[z.toNat]?=some x):qc8 (zbV l) (0*1+z.toNat*1) [.bool x]:=qz3 h
theorem qz9 (l:List Int) (k:Nat) (x:Int) (h:k<l.length):ziV (l.set k x)=qes (ziV l) (0*1+k*1) [iV x]:=by
 rw[Nat.zero_mul,Nat.zero_add,Nat.mul_one]
 unfold qes ziV
 rw[List.map_set,List.set_eq_take_append_cons_drop,if_pos (by simpa using h)]
 simp
theorem qz8 (l:List Bool) (k:Nat) (x:Bool) (h:k<l.length):zbV (l.set k x)=qes (zbV l) (0*1+k*1) [.bool x]:=by
 rw[Nat.zero_mul,Nat.zero_add,Nat.mul_one]
 unfold qes zbV
 rw[List.map_set,List.set_eq_take_append_cons_drop,if_pos (by simpa using h)]
 simp
theorem qzE (l:List Int) (k:Nat) (h:k<l.length):0*1+k*1+1≤(ziV l).length:=by rw[qkQ];omega
theorem qzr (l:List Bool) (k:Nat) (h:k<l.length):0*1+k*1+1≤(zbV l).length:=by rw[qj0];omega
theorem qvD:∀ n:Nat,qc0 [iV 0] n=ziV (List.replicate n 0)
 | 0=>rfl
 | n+1=>by rw[qc0,qvD n];rfl
theorem qvW:∀ n:Nat,qc0 [Value.bool false] n=zbV (List.replicate n false)
 | 0=>rfl
 | n+1=>by rw[qc0,qvW n];rfl
theorem qtL (a b:List Int):ziV (a++b)=ziV a++ziV b:=by simp[ziV]
theorem RunsL.roundsZ {P:Program} {lo fr:Nat} {c:Code} {n nb:Nat} (tm:Nat→List (Nat×SV)) (hp:Nat→List (Nat×Nat×SV)) {e:Exit} {tm2:TmL} {hp2:HpL} {N:Nat} :
 ∀ (d i:Nat),i+d=N→(∀ j,i≤j→j<N→RunsL P lo fr c n nb (tm (j+1)) (hp (j+1)) e tm2 hp2→RunsL P lo fr c n nb (tm j) (hp j) e tm2 hp2)→RunsL P lo fr c n nb (tm N) (hp N) e tm2 hp2→RunsL P lo fr c n nb (tm i) (hp i) e tm2 hp2
 | 0,i,h,_,last=>by
  have:i=N:=by omega
  subst this;exact last
 | d+1,i,h,step,last=>step i (Nat.le_refl i) (by omega) (RunsL.roundsZ tm hp d (i+1) (by omega) (fun j h1 h2=>step j (by omega) h2) last)
theorem quX {n:Int} (h0 : -9223372036854775808≤n) (h1:n≤9223372036854775807):IntKind.i64.wrap n=n:=by
 rw[IntKind.wrap_i64];omega
theorem qyE {n:Int} (h0 : -9223372036854775808≤n) (h1:n≤9223372036854775807):iV (IntKind.i64.wrap n)=iV n:=by rw[quX h0 h1]
theorem qzI {k:Nat} (h:k≤1000000):iV (IntKind.i64.wrap ((k:Int)+1))=iV ((k+1:Nat):Int):=by rw[qyE (by omega) (by omega)];rfl
def qek:List Bool→List Int→Option (List Bool)
 | g,[]=>some g
 | g,x::r=>if 0≤x∧x<(g.length:Int)∧g[x.toNat]?=some true then qek (g.set x.toNat false) r else none
structure Vd (u:List Int) (b:List Bool) (f:List Int):Prop where
 pos:1≤u.length
 le:u.length≤200
 len:b.length=u.length
 use:∀ (k:Nat) (x:Int) (c:Bool),u[k]?=some x→b[k]?=some c→(if c=true then 1 else 0)≤x∧x≤1000000
 rng:∀ x∈f,0≤x∧x<(u.length:Int)
 nod:f.Nodup
 part:∀ (k:Nat) (c:Bool),b[k]?=some c→(c=false↔(k:Int)∈f)
theorem qjR:∀ {f:List Int} {g g':List Bool},qek g f=some g'→g'.length=g.length
 | [],g,g',h=>by cases h;rfl
 | x::r,g,g',h=>by
  unfold qek at h
  split at h
  ·rw[qjR h,List.length_set]
  ·cases h
theorem qeX:∀ {f:List Int} {g g':List Bool},qek g f=some g'→(∀ x∈f,0≤x∧x<(g.length:Int)∧g[x.toNat]?=some true)∧f.Nodup∧∀ k:Nat,g'[k]?=if (k:Int)∈f then some false else g[k]?
 | [],g,g',h=>by cases h;exact⟨by simp,by simp,by simp⟩
 | x::r,g,g',h=>by
  unfold qek at h
  split at h
  ·rename_i hx
   obtain⟨h1,h2,h3⟩:=qeX h
   have hn:x∉r:=fun hm=>by
    have:=(h1 x hm).2.2
    rw[List.getElem?_set] at this
    rw[if_pos rfl] at this
    split at this<;>cases this
   refine⟨fun y hy=>?_,List.nodup_cons.2 ⟨hn,h2⟩,fun k=>?_⟩
   ·rcases List.mem_cons.1 hy with rfl | hy
    ·exact hx
    ·obtain⟨a1,a2,a3⟩:=h1 y hy
     rw[List.length_set] at a2
     refine⟨a1,a2,?_⟩
     rw[List.getElem?_set] at a3
     split at a3
     ·split at a3<;>cases a3
     ·exact a3
   ·rw[h3]
    by_cases hk:(k:Int)∈r
    ·rw[if_pos hk,if_pos (List.mem_cons_of_mem _ hk)]
    ·rw[if_neg hk,List.getElem?_set]
     by_cases e:(k:Int)=x
     ·rw[if_pos (show x.toNat=k by omega),if_pos (by omega),if_pos (by rw[e];exact List.mem_cons_self)]
     ·rw[if_neg (show ¬ x.toNat=k by omega),if_neg (fun hm=>by rcases List.mem_cons.1 hm with h | h;exact e h;exact hk h)]
  ·cases h
theorem qfJ:∀ {f:List Int} {g:List Bool},(∀ x∈f,0≤x∧x<(g.length:Int)∧g[x.toNat]?=some true)→f.Nodup→∃ g',qek g f=some g'
 | [],g,_,_=>⟨g,rfl⟩
 | x::r,g,h,hn=>by
  obtain⟨h1,h2⟩:=List.nodup_cons.1 hn
  unfold qek
  rw[if_pos (h x List.mem_cons_self)]
  refine qfJ (fun y hy=>?_) h2
  obtain⟨a1,a2,a3⟩:=h y (List.mem_cons_of_mem _ hy)
  refine⟨a1,by rw[List.length_set];exact a2,?_⟩
  rw[List.getElem?_set,if_neg]
  ·exact a3
  ·intro e
   have hx:=(h x List.mem_cons_self).1
   have:x=y:=by omega
   subst this
   exact h1 hy
def qtq (b:List Bool) (f:List Int):Bool:=match qek (b.map not) f with
 | some g=>!g.contains true
 | none=>false
def qzb (u:List Int) (b:List Bool):Bool:=(List.range b.length).all fun k=>match u[k]?,b[k]? with
 | some x,some c=>decide ((if c=true then 1 else 0)≤x)&&decide (x≤1000000)
 | _,_=>false
def qq8 (u:List Int) (b:List Bool) (f:List Int):Bool:=decide (1≤u.length)&&decide (u.length≤200)&&decide (b.length=u.length)&&qzb u b&&qtq b f
theorem qjd {u:List Int} {b:List Bool} (h:b.length=u.length):qzb u b=true↔∀ (k:Nat) (x:Int) (c:Bool),u[k]?=some x→b[k]?=some c→(if c=true then 1 else 0)≤x∧x≤1000000:=by
 unfold qzb
 rw[List.all_eq_true]
 constructor
 ·intro h1 k x c hx hc
  have hk:k<b.length:=(List.getElem?_eq_some_iff.1 hc).1
  have:=h1 k (List.mem_range.2 hk)
  rw[hx,hc] at this
  simpa using this
 ·intro h1 k hk
  have hk':=List.mem_range.1 hk
  rw[List.getElem?_eq_getElem (by omega:k<u.length),List.getElem?_eq_getElem hk']
  simpa using h1 k _ _ (List.getElem?_eq_getElem (by omega:k<u.length)) (List.getElem?_eq_getElem hk')
theorem qgW {b:List Bool} {f:List Int}:qtq b f=true↔(∀ x∈f,0≤x∧x<(b.length:Int))∧f.Nodup∧∀ (k:Nat) (c:Bool),b[k]?=some c→(c=false↔(k:Int)∈f):=by
 unfold qtq
 constructor
 ·intro h
  split at h
  ·rename_i g hg
   obtain⟨h1,h2,h3⟩:=qeX hg
   refine⟨fun x hx=>?_,h2,fun k c hc=>⟨fun e=>?_,fun hm=>?_⟩⟩
   ·obtain⟨a1,a2,_⟩:=h1 x hx
    exact⟨a1,by simpa using a2⟩
   ·subst e
    by_cases hm:(k:Int)∈f
    ·exact hm
    ·have:=h3 k
     rw[if_neg hm,List.getElem?_map,hc] at this
     have hin:true∈g:=List.mem_of_getElem? this
     simp[hin] at h
   ·obtain⟨_,_,a3⟩:=h1 _ hm
    rw[Int.toNat_natCast,List.getElem?_map,hc] at a3
    simpa using a3
  ·cases h
 ·rintro⟨h1,h2,h3⟩
  obtain⟨g,hg⟩:=qfJ (g:=b.map not) (f:=f) (fun x hx=>by
   obtain⟨a1,a2⟩:=h1 x hx
   have hk:x.toNat<b.length:=by omega
   refine⟨a1,by simpa using a2,?_⟩
   rw[List.getElem?_map,List.getElem?_eq_getElem hk]
   have:=(h3 x.toNat _ (List.getElem?_eq_getElem hk)).2 (by rw[Int.toNat_of_nonneg a1];exact hx)
   rw[this];rfl) h2
  rw[hg]
  obtain⟨_,_,h6⟩:=qeX hg
  have:true∉g:=by
   intro hm
   obtain⟨k,hk⟩:=List.mem_iff_getElem?.1 hm
   have e:=h6 k
   rw[hk] at e
   split at e
   ·cases e
   ·rename_i hn
    rw[List.getElem?_map] at e
    cases hb:b[k]? with
    | none=>rw[hb] at e;cases e
    | some c=>
     rw[hb] at e
     cases c
     ·exact hn ((h3 k _ hb).1 rfl)
     ·cases e
  simp[this]
theorem qt0 {u:List Int} {b:List Bool} {f:List Int}:qq8 u b f=true↔Vd u b f:=by
 unfold qq8
 simp only[Bool.and_eq_true,decide_eq_true_eq]
 constructor
 ·rintro⟨⟨⟨⟨h1,h2⟩,h3⟩,h4⟩,h5⟩
  obtain⟨a1,a2,a3⟩:=qgW.1 h5
  exact⟨h1,h2,h3,(qjd h3).1 h4,by rw[← h3];exact a1,a2,a3⟩
 ·intro h
  exact⟨⟨⟨⟨h.pos,h.le⟩,h.len⟩,(qjd h.len).2 h.use⟩,qgW.2 ⟨by rw[h.len];exact h.rng,h.nod,h.part⟩⟩
end Go.Proofs.YtleaeldgaflmkaaGreat
