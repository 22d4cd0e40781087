/-
  Joined: Cr, Rs, Za. Conditions: none.
-/
import Derived.Test.YtkckcgpmnipnaaaGreatW22
import Derived.Test.YtkckcgpmnipnaaaGreatW21
import Derived.Test.YtkckcgpmnipnaaaGreatSxJ
import Derived.Test.YtkckcgpmnipnaaaGreatProg
namespace Go.Proofs.YtkckcgpmnipnaaaGreat
set_option maxRecDepth 100000
open Go.RowKit
def okP (n a b:Int):Bool:=decide (0≤n∧n≤65535∧-1048576≤a∧a≤1048576∧-1048576≤b∧b≤1048576)
theorem qbI {n a b:Int}:okP n a b=true↔0≤n∧n≤65535∧-1048576≤a∧a≤1048576∧-1048576≤b∧b≤1048576:=by simp[okP]
theorem dt {p:Prop} [Decidable p] (h:p):decide p=true:=by simp[h]
theorem df {p:Prop} [Decidable p] (h:¬ p):decide p=false:=by simp[h]
theorem qbP {n a b:Int} (h:okP n a b=true):Pure Tryz.prog 137 #[qab n a b] (iV 0):=by
 have h':=qbI.1 h
 exact qFl (df (by omega)) (df (by omega)) (dt (by omega)) (dt (by omega)) (dt (by omega)) (dt (by omega))
theorem qfs {n a b:Int} (h:okP n a b=true):Pure Tryz.prog 86 #[qab n a b] (iV 0):=by
 have h':=qbI.1 h
 exact qDt (df (by omega)) (df (by omega)) (df (by omega)) (df (by omega)) (df (by omega)) (df (by omega))
theorem qiM {n a b:Int} (h:¬ okP n a b=true):Pure Tryz.prog 137 #[qab n a b] (iV 8):=by
 rw[qbI] at h
 by_cases h1:n<0
 ·exact qGm (dt h1)
 by_cases h2:n>65535
 ·exact qFO (df h1) (dt h2)
 by_cases h3 : -1048576≤a
 ·by_cases h4:a≤1048576
  ·by_cases h5 : -1048576≤b
   ·exact qE3 (df h1) (df h2) (dt h3) (dt h4) (dt h5) (df (by omega))
   ·exact qFr (df h1) (df h2) (dt h3) (dt h4) (df h5)
  ·exact qF0 (df h1) (df h2) (dt h3) (df h4)
 ·exact qEB (df h1) (df h2) (df h3)
theorem qiB {n a b:Int} (h:¬ okP n a b=true):Pure Tryz.prog 86 #[qab n a b] (iV 8):=by
 rw[qbI] at h
 by_cases h1:n<0
 ·exact qFu (dt h1)
 by_cases h2:n>65535
 ·exact qFn (df h1) (dt h2)
 by_cases h3:a < -1048576
 ·exact qGx (df h1) (df h2) (dt h3)
 by_cases h4:a>1048576
 ·exact qEv (df h1) (df h2) (df h3) (dt h4)
 by_cases h5:b < -1048576
 ·exact qEm (df h1) (df h2) (df h3) (df h4) (dt h5)
 ·exact qG4 (df h1) (df h2) (df h3) (df h4) (df h5) (dt (by omega))
def qbp (P Q pb qb pi qi:Int):Bool:=decide (P>Q∨P=Q∧(pb>qb∨pb=qb∧pi<qi))
theorem qbZ {P Q pb qb pi qi:Int} (h:P>Q∨P=Q∧(pb>qb∨pb=qb∧pi<qi)):qbp P Q pb qb pi qi=true:=dt h
theorem qbU {P Q pb qb pi qi:Int} (h:¬ (P>Q∨P=Q∧(pb>qb∨pb=qb∧pi<qi))):qbp P Q pb qb pi qi=false:=df h
theorem qeo {pi pa pb qi qa qb:Int} (hp:okP pi pa pb=true) (hq:okP qi qa qb=true) (hb:pb≠qb) :
 ∃ m n,okB m n=true∧I64 m∧I64 n∧m*(pb-qb)=(qa-pa)*n∧Pure Tryz.prog 248 #[qab pi pa pb,qab qi qa qb] (qaa m n):=by
 have hp':=qbI.1 hp
 have hq':=qbI.1 hq
 obtain⟨N,D,E,hr,hm⟩:=qss (a:=qa-pa) (b:=pb-qb) (by unfold I64;omega) (by unfold I64;omega) (by omega)
 have key:E=0∧okB N D=true∧I64 N∧I64 D∧N*(pb-qb)=(qa-pa)*D:=by
  by_cases hs:0<pb-qb
  ·exact hr.fits hs (by omega) (by omega) (by omega)
  ·have h2:=hr.congr (p':=-(qa-pa)) (q':=-(pb-qb)) (by omega) (by omega) (by rw[Int.mul_neg,Int.neg_mul])
   obtain⟨e1,e2,e3,e4,e5⟩:=h2.fits (by omega) (by omega) (by omega) (by omega)
   refine⟨e1,e2,e3,e4,?_⟩
   rw[Int.mul_neg,Int.neg_mul] at e5
   omega
 obtain⟨rfl,k1,k2,k3,k4⟩:=key
 exact⟨N,D,k1,k2,k3,k4,qhY (by rw[qap (by omega) (by omega)]) (by rw[qap (by omega) (by omega)]) hm⟩
theorem qp0 {pi pa pb qi qa qb n d:Int} (hn:I64 n) (hd:I64 d) (hp:okP pi pa pb=true) (hq:okP qi qa qb=true) (ht:okB n d=true) (hij:pi≠qi) :
 Pure Tryz.prog 158 #[qab pi pa pb,qab qi qa qb,qaa n d] (.tuple #[.bool (qbp (pa*d+pb*n) (qa*d+qb*n) pb qb pi qi),iV 0]):=by
 have c1:=qbP hp
 have c2:=qbP hq
 have c3:=qcd hn hd ht
 have c4:Pure Tryz.prog 204 #[qab pi pa pb,qab qi qa qb] (iV 0):=qDu (by simp[hij])
 have d0:0<d:=by have:=qcV ht;omega
 by_cases hb:pb=qb
 ·subst hb
  by_cases ha:pa=qa
  ·subst ha
   by_cases hi:pi<qi
   ·rw[qbZ (Or.inr ⟨rfl,Or.inr ⟨rfl,hi⟩⟩)]
    exact qr7 c1 c2 c3 c4 (by simp) (dt hi)
   ·rw[qbU (by omega)]
    exact qsK c1 c2 c3 c4 (by simp) (df hi)
  ·have e:pa*d-qa*d=(pa-qa)*d:=(Int.sub_mul _ _ _).symm
   by_cases hg:pa>qa
   ·have:=Int.mul_pos (show 0<pa-qa by omega) d0
    rw[qbZ (Or.inl (by omega))]
    exact qtS c1 c2 c3 c4 (by simp[ha]) (by simp) (dt hg)
   ·have:=Int.mul_neg_of_neg_of_pos (show pa-qa<0 by omega) d0
    rw[qbU (by omega)]
    exact qpO c1 c2 c3 c4 (by simp[ha]) (by simp) (df hg)
 ·obtain⟨m,k,h1,h2,h3,h4,h5⟩:=qeo hp hq hb
  have cc:=qoc hn hd h2 h3 ht h1
  have k0:0<k:=by have:=qcV h1;omega
  have key:(pa*d+pb*n-(qa*d+qb*n))*k=(pb-qb)*(n*k-m*d):=by
   have e1:(pb-qb)*(m*d)=(qa-pa)*k*d:=by rw[← h4,← Int.mul_assoc,Int.mul_comm (pb-qb) m]
   rw[Int.mul_sub,e1,Int.sub_mul,Int.add_mul,Int.add_mul,Int.sub_mul,Int.sub_mul,Int.sub_mul,← Int.mul_assoc,← Int.mul_assoc,Int.mul_right_comm qa k d,Int.mul_right_comm pa k d]
   omega
  have hs:(0≤n*k-m*d↔(n*k-m*d).sign≥0):=by
   rcases Int.lt_trichotomy (n*k-m*d) 0 with h | h | h
   ·rw[Int.sign_eq_neg_one_of_neg h];omega
   ·rw[h];decide
   ·rw[Int.sign_eq_one_of_pos h];omega
  generalize n*k-m*d=X at *
  generalize hP:pa*d+pb*n=P at *
  generalize hQ:qa*d+qb*n=Q at *
  by_cases hg:pb>qb
  ·by_cases hx:0≤X
   ·have:=Int.mul_nonneg (show 0≤pb-qb by omega) hx
    rw[qbZ (by
     rcases Int.lt_or_le P Q with h | h
     ·have:=Int.mul_neg_of_neg_of_pos (show P-Q<0 by omega) k0;omega
     ·rcases Int.lt_or_eq_of_le h with h | h
      ·exact Or.inl h
      ·exact Or.inr ⟨h.symm,Or.inl hg⟩)]
    exact qmB c1 c2 c3 c4 (by simp[hb]) (by simp[hb]) h5 cc (dt (hs.1 hx)) (dt hg)
   ·have:=Int.mul_neg_of_pos_of_neg (show 0<pb-qb by omega) (show X<0 by omega)
    rw[qbU (by
     intro h
     have hle:0≤P-Q:=by omega
     have:=Int.mul_nonneg hle (Int.le_of_lt k0)
     omega)]
    exact qoQ c1 c2 c3 c4 (by simp[hb]) (by simp[hb]) h5 cc (df (fun h=>hx (hs.2 h))) (dt hg)
  ·by_cases hx:0≤X
   ·have:=Int.mul_nonneg (show 0≤qb-pb by omega) hx
    have e:(pb-qb)*X = -((qb-pb)*X):=by rw[← Int.neg_mul];congr 1;omega
    rw[qbU (by
     intro h
     have hlt:0<P-Q:=by omega
     have:=Int.mul_pos hlt k0
     omega)]
    exact qnE c1 c2 c3 c4 (by simp[hb]) (by simp[hb]) h5 cc (dt (hs.1 hx)) (df hg)
   ·have:=Int.mul_pos_of_neg_of_neg (show pb-qb<0 by omega) (show X<0 by omega)
    rw[qbZ (by
     left
     rcases Int.lt_or_le Q P with h | h
     ·exact h
     ·have:(P-Q)*k≤0:=by
       have:=Int.mul_nonneg (show 0≤Q-P by omega) (Int.le_of_lt k0)
       have e:(P-Q)*k = -((Q-P)*k):=by rw[← Int.neg_mul];congr 1;omega
       omega
      omega)]
    exact qmR c1 c2 c3 c4 (by simp[hb]) (by simp[hb]) h5 cc (df (fun h=>hx (hs.2 h))) (df hg)
end Go.Proofs.YtkckcgpmnipnaaaGreat

namespace Go.Proofs.YtkckcgpmnipnaaaGreat
set_option maxRecDepth 100000
open Go.RowKit
theorem qli {a b ah al bh bl low p1 lh m p2 mr n p3 mh s1 nh hi nr nr2 lr lo:Int} (nz:¬ (4294967296:Int)=0) (q1:Value.int .u64 (IntKind.u64.wrap (Int.tdiv a 4294967296))=.int .u64 ah) (q2:Value.int .u64 (Int.tmod a 4294967296)=.int .u64 al) (q3:Value.int .u64 (IntKind.u64.wrap (Int.tdiv b 4294967296))=.int .u64 bh) (q4:Value.int .u64 (Int.tmod b 4294967296)=.int .u64 bl) (x1:Value.int .u64 (IntKind.u64.wrap (al*bl))=.int .u64 low) (x2:Value.int .u64 (IntKind.u64.wrap (ah*bl))=.int .u64 p1) (q5:Value.int .u64 (IntKind.u64.wrap (Int.tdiv low 4294967296))=.int .u64 lh) (x3:Value.int .u64 (IntKind.u64.wrap (p1+lh))=.int .u64 m) (x4:Value.int .u64 (IntKind.u64.wrap (al*bh))=.int .u64 p2) (q6:Value.int .u64 (Int.tmod m 4294967296)=.int .u64 mr) (x5:Value.int .u64 (IntKind.u64.wrap (p2+mr))=.int .u64 n) (x6:Value.int .u64 (IntKind.u64.wrap (ah*bh))=.int .u64 p3) (q7:Value.int .u64 (IntKind.u64.wrap (Int.tdiv m 4294967296))=.int .u64 mh) (x7:Value.int .u64 (IntKind.u64.wrap (p3+mh))=.int .u64 s1) (q8:Value.int .u64 (IntKind.u64.wrap (Int.tdiv n 4294967296))=.int .u64 nh) (x8:Value.int .u64 (IntKind.u64.wrap (s1+nh))=.int .u64 hi) (q9:Value.int .u64 (Int.tmod n 4294967296)=.int .u64 nr) (x9:Value.int .u64 (IntKind.u64.wrap (nr*4294967296))=.int .u64 nr2) (q10:Value.int .u64 (Int.tmod low 4294967296)=.int .u64 lr) (x10:Value.int .u64 (IntKind.u64.wrap (nr2+lr))=.int .u64 lo) :
 Pure Tryz.prog 155 #[.int .u64 a,.int .u64 b] (qav false hi lo):=
 qac (args:=[.int .u64 a,.int .u64 b]) 200 [Re q1,Re q2,Re q3,Re q4,Re x1,Re x2,Re q5,Re x3,Re x4,Re q6,Re x5,Re x6,Re q7,Re x7,Re q8,Re x8,Re q9,Re x9,Re q10,Re x10]
  (Ai rfl (Ai nz (Ai q1 (Ai nz (Ai q2 (Ai nz (Ai q3 (Ai nz (Ai q4 (Ai x1 (Ai x2 (Ai nz (Ai q5 (Ai x3 (Ai x4 (Ai nz (Ai q6 (Ai x5 (Ai x6 (Ai nz (Ai q7 (Ai x7 (Ai nz (Ai q8 (Ai x8 (Ai nz (Ai q9 (Ai x9 (Ai nz (Ai q10 (Ai x10 tI))))))))))))))))))))))))))))))) (by kernel_rfl)
abbrev qzi (hi:Int) (lo:Int) (za:Int) (zb:Int):Prop:=Pure Tryz.prog 155 #[.int .u64 za,.int .u64 zb] (qav false hi lo)
abbrev qzn (a:Int) (za:Int):Prop:=Pure Tryz.prog 95 #[iV a] (.int .u64 za)
abbrev qy8 (b:Int) (zb:Int):Prop:=Pure Tryz.prog 95 #[iV b] (.int .u64 zb)
theorem ql9 {a b za zb hi lo:Int} (c1:qzn a za) (c2:qy8 b zb) (c3:qzi hi lo za zb) (t1:decide (a<0)=true) (t2:decide (b<0)=true) :
 Pure Tryz.prog 87 #[iV a,iV b] (qav false hi lo):=
 qac (args:=[iV a,iV b]) 200 [Rf c1,Rf c2,Rf c3,.t true,.t true,.k]
  (Ai rfl (Ai c1 (Ai c2 (Ai c3 (Ai t1 (Ai t2 tI)))))) (by kernel_rfl)
theorem qlK {a b za zb hi lo:Int} (c1:qzn a za) (c2:qy8 b zb) (c3:qzi hi lo za zb) (t1:decide (a<0)=true) (t2:decide (b<0)=false) (t3:(a !=0)=true) (t4:(b !=0)=false) :
 Pure Tryz.prog 87 #[iV a,iV b] (qav false hi lo):=
 qac (args:=[iV a,iV b]) 200 [Rf c1,Rf c2,Rf c3,.t true,.t false,.k,.t true,.t false]
  (Ai rfl (Ai c1 (Ai c2 (Ai c3 (Ai t1 (Ai t2 (Ai t3 (Ai t4 tI)))))))) (by kernel_rfl)
theorem qlD {a b za zb hi lo:Int} (c1:qzn a za) (c2:qy8 b zb) (c3:qzi hi lo za zb) (t1:decide (a<0)=true) (t2:decide (b<0)=false) (t3:(a !=0)=true) (t4:(b !=0)=true) :
 Pure Tryz.prog 87 #[iV a,iV b] (qav true hi lo):=
 qac (args:=[iV a,iV b]) 200 [Rf c1,Rf c2,Rf c3,.t true,.t false,.k,.t true,.t true]
  (Ai rfl (Ai c1 (Ai c2 (Ai c3 (Ai t1 (Ai t2 (Ai t3 (Ai t4 tI)))))))) (by kernel_rfl)
theorem qlE {a b za zb hi lo:Int} (c1:qzn a za) (c2:qy8 b zb) (c3:qzi hi lo za zb) (t1:decide (a<0)=false) (t2:decide (b<0)=true) (t3:(a !=0)=false) :
 Pure Tryz.prog 87 #[iV a,iV b] (qav false hi lo):=
 qac (args:=[iV a,iV b]) 200 [Rf c1,Rf c2,Rf c3,.t false,.t true,.k,.t false]
  (Ai rfl (Ai c1 (Ai c2 (Ai c3 (Ai t1 (Ai t2 (Ai t3 tI))))))) (by kernel_rfl)
theorem qlj {a b za zb hi lo:Int} (c1:qzn a za) (c2:qy8 b zb) (c3:qzi hi lo za zb) (t1:decide (a<0)=false) (t2:decide (b<0)=true) (t3:(a !=0)=true) (t4:(b !=0)=true) :
 Pure Tryz.prog 87 #[iV a,iV b] (qav true hi lo):=
 qac (args:=[iV a,iV b]) 200 [Rf c1,Rf c2,Rf c3,.t false,.t true,.k,.t true,.t true]
  (Ai rfl (Ai c1 (Ai c2 (Ai c3 (Ai t1 (Ai t2 (Ai t3 (Ai t4 tI)))))))) (by kernel_rfl)
theorem ql5 {a b za zb hi lo:Int} (c1:qzn a za) (c2:qy8 b zb) (c3:qzi hi lo za zb) (t1:decide (a<0)=false) (t2:decide (b<0)=false) :
 Pure Tryz.prog 87 #[iV a,iV b] (qav false hi lo):=
 qac (args:=[iV a,iV b]) 200 [Rf c1,Rf c2,Rf c3,.t false,.t false,.k]
  (Ai rfl (Ai c1 (Ai c2 (Ai c3 (Ai t1 (Ai t2 tI)))))) (by kernel_rfl)
theorem qvE {hi lo:Int} {s:Bool} (t1:(hi==0)=true) (t2:(lo==0)=true) :
 Pure Tryz.prog 88 #[qav s hi lo] (iV 0):=
 qac (args:=[qav s hi lo]) 200 [.t true,.t true]
  (Ai rfl (Ai t1 (Ai t2 tI))) (by kernel_rfl)
theorem qsj {hi lo:Int} (t1:(hi==0)=false) :
 Pure Tryz.prog 88 #[qav true hi lo] (iV (-1)):=
 qac (args:=[qav true hi lo]) 200 [.t false]
  (Ai rfl (Ai t1 tI)) (by kernel_rfl)
theorem qrf {hi lo:Int} (t1:(hi==0)=true) (t2:(lo==0)=false) :
 Pure Tryz.prog 88 #[qav true hi lo] (iV (-1)):=
 qac (args:=[qav true hi lo]) 200 [.t true,.t false]
  (Ai rfl (Ai t1 (Ai t2 tI))) (by kernel_rfl)
theorem qtB {hi lo:Int} (t1:(hi==0)=false) :
 Pure Tryz.prog 88 #[qav false hi lo] (iV 1):=
 qac (args:=[qav false hi lo]) 200 [.t false]
  (Ai rfl (Ai t1 tI)) (by kernel_rfl)
theorem qq6 {hi lo:Int} (t1:(hi==0)=true) (t2:(lo==0)=false) :
 Pure Tryz.prog 88 #[qav false hi lo] (iV 1):=
 qac (args:=[qav false hi lo]) 200 [.t true,.t false]
  (Ai rfl (Ai t1 (Ai t2 tI))) (by kernel_rfl)
theorem qtz {a b c d:Int} {s t:Bool} (t1:(a !=c)=true) (t2:decide (a<c)=true) :
 Pure Tryz.prog 89 #[qav s a b,qav t c d] (iV (-1)):=
 qac (args:=[qav s a b,qav t c d]) 200 [.t true,.t true]
  (Ai rfl (Ai t1 (Ai t2 tI))) (by kernel_rfl)
theorem qrI {a b c d:Int} {s t:Bool} (t1:(a !=c)=true) (t2:decide (a<c)=false) :
 Pure Tryz.prog 89 #[qav s a b,qav t c d] (iV 1):=
 qac (args:=[qav s a b,qav t c d]) 200 [.t true,.t false]
  (Ai rfl (Ai t1 (Ai t2 tI))) (by kernel_rfl)
theorem qpX {a b c d:Int} {s t:Bool} (t1:(a !=c)=false) (t3:(b !=d)=true) (t4:decide (b<d)=true) :
 Pure Tryz.prog 89 #[qav s a b,qav t c d] (iV (-1)):=
 qac (args:=[qav s a b,qav t c d]) 200 [.t false,.t true,.t true]
  (Ai rfl (Ai t1 (Ai t3 (Ai t4 tI)))) (by kernel_rfl)
theorem qs8 {a b c d:Int} {s t:Bool} (t1:(a !=c)=false) (t3:(b !=d)=true) (t4:decide (b<d)=false) :
 Pure Tryz.prog 89 #[qav s a b,qav t c d] (iV 1):=
 qac (args:=[qav s a b,qav t c d]) 200 [.t false,.t true,.t false]
  (Ai rfl (Ai t1 (Ai t3 (Ai t4 tI)))) (by kernel_rfl)
theorem qpG {a b c d:Int} {s t:Bool} (t1:(a !=c)=false) (t3:(b !=d)=false) :
 Pure Tryz.prog 89 #[qav s a b,qav t c d] (iV 0):=
 qac (args:=[qav s a b,qav t c d]) 200 [.t false,.t false]
  (Ai rfl (Ai t1 (Ai t3 tI))) (by kernel_rfl)
theorem qzL {a b c d h l:Int} {s t:Bool} (x1:Value.int .u64 (IntKind.u64.wrap (a-c))=.int .u64 h) (x2:Value.int .u64 (IntKind.u64.wrap (b-d))=.int .u64 l) (t1:decide (b<d)=false) :
 Pure Tryz.prog 244 #[qav s a b,qav t c d] (qav false h l):=
 qac (args:=[qav s a b,qav t c d]) 200 [Re x1,Re x2,.t false]
  (Ai rfl (Ai x1 (Ai x2 (Ai t1 tI)))) (by kernel_rfl)
theorem qCY {a b c d h l h1:Int} {s t:Bool} (x1:Value.int .u64 (IntKind.u64.wrap (a-c))=.int .u64 h) (x2:Value.int .u64 (IntKind.u64.wrap (b-d))=.int .u64 l) (t1:decide (b<d)=true) (x3:Value.int .u64 (IntKind.u64.wrap (h-1))=.int .u64 h1) :
 Pure Tryz.prog 244 #[qav s a b,qav t c d] (qav false h1 l):=
 qac (args:=[qav s a b,qav t c d]) 200 [Re x1,Re x2,.t true,Re x3]
  (Ai rfl (Ai x1 (Ai x2 (Ai t1 (Ai x3 tI))))) (by kernel_rfl)
theorem qmG {a b c d h l:Int} (x1:Value.int .u64 (IntKind.u64.wrap (a+c))=.int .u64 h) (x2:Value.int .u64 (IntKind.u64.wrap (b+d))=.int .u64 l) (t1:decide (l<b)=false) :
 Pure Tryz.prog 202 #[qav true a b,qav true c d] (qav true h l):=
 qac (args:=[qav true a b,qav true c d]) 200 [.k,Re x1,Re x2,.t false]
  (Ai rfl (Ai x1 (Ai x2 (Ai t1 tI)))) (by kernel_rfl)
theorem qpc {a b c d h l h1:Int} (x1:Value.int .u64 (IntKind.u64.wrap (a+c))=.int .u64 h) (x2:Value.int .u64 (IntKind.u64.wrap (b+d))=.int .u64 l) (t1:decide (l<b)=true) (x3:Value.int .u64 (IntKind.u64.wrap (h+1))=.int .u64 h1) :
 Pure Tryz.prog 202 #[qav true a b,qav true c d] (qav true h1 l):=
 qac (args:=[qav true a b,qav true c d]) 200 [.k,Re x1,Re x2,.t true,Re x3]
  (Ai rfl (Ai x1 (Ai x2 (Ai t1 (Ai x3 tI))))) (by kernel_rfl)
theorem qou {a b c d h l e:Int} (c1:Pure Tryz.prog 89 #[qav true a b,qav false c d] (iV e)) (t1:decide (e≥0)=true) (c2:Pure Tryz.prog 244 #[qav true a b,qav false c d] (qav false h l)) (t2:decide (h>0)=true) :
 Pure Tryz.prog 202 #[qav true a b,qav false c d] (qav true h l):=
 qac (args:=[qav true a b,qav false c d]) 200 [.k,Rf c1,.t true,Rf c2,.t true]
  (Ai rfl (Ai c1 (Ai t1 (Ai c2 (Ai t2 tI))))) (by kernel_rfl)
theorem qmC {a b c d h l e:Int} (c1:Pure Tryz.prog 89 #[qav true a b,qav false c d] (iV e)) (t1:decide (e≥0)=true) (c2:Pure Tryz.prog 244 #[qav true a b,qav false c d] (qav false h l)) (t2:decide (h>0)=false) (t3:decide (l>0)=true) :
 Pure Tryz.prog 202 #[qav true a b,qav false c d] (qav true h l):=
 qac (args:=[qav true a b,qav false c d]) 200 [.k,Rf c1,.t true,Rf c2,.t false,.t true]
  (Ai rfl (Ai c1 (Ai t1 (Ai c2 (Ai t2 (Ai t3 tI)))))) (by kernel_rfl)
theorem qph {a b c d h l e:Int} (c1:Pure Tryz.prog 89 #[qav true a b,qav false c d] (iV e)) (t1:decide (e≥0)=true) (c2:Pure Tryz.prog 244 #[qav true a b,qav false c d] (qav false h l)) (t2:decide (h>0)=false) (t3:decide (l>0)=false) :
 Pure Tryz.prog 202 #[qav true a b,qav false c d] (qav false h l):=
 qac (args:=[qav true a b,qav false c d]) 200 [.k,Rf c1,.t true,Rf c2,.t false,.t false]
  (Ai rfl (Ai c1 (Ai t1 (Ai c2 (Ai t2 (Ai t3 tI)))))) (by kernel_rfl)
theorem qre {a b c d h l e:Int} (c1:Pure Tryz.prog 89 #[qav true a b,qav false c d] (iV e)) (t1:decide (e≥0)=false) (c2:Pure Tryz.prog 244 #[qav false c d,qav true a b] (qav false h l)) :
 Pure Tryz.prog 202 #[qav true a b,qav false c d] (qav false h l):=
 qac (args:=[qav true a b,qav false c d]) 200 [.k,Rf c1,.t false,Rf c2]
  (Ai rfl (Ai c1 (Ai t1 (Ai c2 tI)))) (by kernel_rfl)
theorem qm8 {a b c d h l:Int} (x1:Value.int .u64 (IntKind.u64.wrap (a+c))=.int .u64 h) (x2:Value.int .u64 (IntKind.u64.wrap (b+d))=.int .u64 l) (t1:decide (l<b)=false) :
 Pure Tryz.prog 202 #[qav false a b,qav false c d] (qav false h l):=
 qac (args:=[qav false a b,qav false c d]) 200 [.k,Re x1,Re x2,.t false]
  (Ai rfl (Ai x1 (Ai x2 (Ai t1 tI)))) (by kernel_rfl)
theorem qnh {a b c d h l h1:Int} (x1:Value.int .u64 (IntKind.u64.wrap (a+c))=.int .u64 h) (x2:Value.int .u64 (IntKind.u64.wrap (b+d))=.int .u64 l) (t1:decide (l<b)=true) (x3:Value.int .u64 (IntKind.u64.wrap (h+1))=.int .u64 h1) :
 Pure Tryz.prog 202 #[qav false a b,qav false c d] (qav false h1 l):=
 qac (args:=[qav false a b,qav false c d]) 200 [.k,Re x1,Re x2,.t true,Re x3]
  (Ai rfl (Ai x1 (Ai x2 (Ai t1 (Ai x3 tI))))) (by kernel_rfl)
theorem qqw {a b c d h l e:Int} (c1:Pure Tryz.prog 89 #[qav false a b,qav true c d] (iV e)) (t1:decide (e≥0)=true) (c2:Pure Tryz.prog 244 #[qav false a b,qav true c d] (qav false h l)) :
 Pure Tryz.prog 202 #[qav false a b,qav true c d] (qav false h l):=
 qac (args:=[qav false a b,qav true c d]) 200 [.k,Rf c1,.t true,Rf c2]
  (Ai rfl (Ai c1 (Ai t1 (Ai c2 tI)))) (by kernel_rfl)
theorem qsa {a b c d h l e:Int} (c1:Pure Tryz.prog 89 #[qav false a b,qav true c d] (iV e)) (t1:decide (e≥0)=false) (c2:Pure Tryz.prog 244 #[qav true c d,qav false a b] (qav false h l)) :
 Pure Tryz.prog 202 #[qav false a b,qav true c d] (qav true h l):=
 qac (args:=[qav false a b,qav true c d]) 200 [.k,Rf c1,.t false,Rf c2]
  (Ai rfl (Ai c1 (Ai t1 (Ai c2 tI)))) (by kernel_rfl)
theorem qqU {a b c d:Int} {g s t:Bool} (t1:decide (a>0)=true) :
 Pure Tryz.prog 326 #[.bool g,qav s a b,qav t c d] (.tuple #[qaa 0 0,iV 16]):=
 qac (args:=[.bool g,qav s a b,qav t c d]) 200 [.t true]
  (Ai rfl (Ai t1 tI)) (by kernel_rfl)
theorem qs4 {a b c d:Int} {g s t:Bool} (t1:decide (a>0)=false) (t2:decide (b>9223372036854775807)=true) :
 Pure Tryz.prog 326 #[.bool g,qav s a b,qav t c d] (.tuple #[qaa 0 0,iV 16]):=
 qac (args:=[.bool g,qav s a b,qav t c d]) 200 [.t false,.t true]
  (Ai rfl (Ai t1 (Ai t2 tI))) (by kernel_rfl)
theorem qrj {a b c d:Int} {g s t:Bool} (t1:decide (a>0)=false) (t2:decide (b>9223372036854775807)=false) (t3:decide (c>0)=true) :
 Pure Tryz.prog 326 #[.bool g,qav s a b,qav t c d] (.tuple #[qaa 0 0,iV 16]):=
 qac (args:=[.bool g,qav s a b,qav t c d]) 200 [.t false,.t false,.t true]
  (Ai rfl (Ai t1 (Ai t2 (Ai t3 tI)))) (by kernel_rfl)
theorem qtE {a b c d:Int} {g s t:Bool} (t1:decide (a>0)=false) (t2:decide (b>9223372036854775807)=false) (t3:decide (c>0)=false) (t4:decide (d>9223372036854775807)=true) :
 Pure Tryz.prog 326 #[.bool g,qav s a b,qav t c d] (.tuple #[qaa 0 0,iV 16]):=
 qac (args:=[.bool g,qav s a b,qav t c d]) 200 [.t false,.t false,.t false,.t true]
  (Ai rfl (Ai t1 (Ai t2 (Ai t3 (Ai t4 tI))))) (by kernel_rfl)
theorem qvb {a b c d x y z:Int} {s t:Bool} (t1:decide (a>0)=false) (t2:decide (b>9223372036854775807)=false) (t3:decide (c>0)=false) (t4:decide (d>9223372036854775807)=false) (v1:iV (IntKind.i64.wrap b)=iV x) (v2:iV (IntKind.i64.wrap (0-x))=iV z) (v3:iV (IntKind.i64.wrap d)=iV y) :
 Pure Tryz.prog 326 #[.bool true,qav s a b,qav t c d] (.tuple #[qaa z y,iV 0]):=
 qac (args:=[.bool true,qav s a b,qav t c d]) 200 [.t false,.t false,.t false,.t false,Re v1,Re v2,Re v3]
  (Ai rfl (Ai t1 (Ai t2 (Ai t3 (Ai t4 (Ai v1 (Ai v2 (Ai v3 tI)))))))) (by kernel_rfl)
theorem qwJ {a b c d x y:Int} {s t:Bool} (t1:decide (a>0)=false) (t2:decide (b>9223372036854775807)=false) (t3:decide (c>0)=false) (t4:decide (d>9223372036854775807)=false) (v1:iV (IntKind.i64.wrap b)=iV x) (v3:iV (IntKind.i64.wrap d)=iV y) :
 Pure Tryz.prog 326 #[.bool false,qav s a b,qav t c d] (.tuple #[qaa x y,iV 0]):=
 qac (args:=[.bool false,qav s a b,qav t c d]) 200 [.t false,.t false,.t false,.t false,Re v1,Re v3]
  (Ai rfl (Ai t1 (Ai t2 (Ai t3 (Ai t4 (Ai v1 (Ai v3 tI))))))) (by kernel_rfl)
end Go.Proofs.YtkckcgpmnipnaaaGreat

namespace Go.Proofs.YtkckcgpmnipnaaaGreat
set_option maxRecDepth 100000
open Go.RowKit
theorem qax {P:Program} (n:Nat) {f:FuncId} {args:List Value} (ch:List Ch) {v:Value} {T:Prop} (ht:v=v∧T) (e:qD7 v (qDG P n f args ch)=(v=v∧T)):Pure P f args.toArray v:=qmz n ch (e▸ht)
def ziV (l:List Int):List Value:=l.map fun x=>iV x
def zbV (l:List Bool):List Value:=l.map fun x=>.bool x
abbrev zrI (l:List Int):SV:=.row 3 1 l.length (ziV l)
abbrev zrB (l:List Bool):SV:=.row 4 1 l.length (zbV l)
theorem qaG (l:List Int):(ziV l).length=l.length:=by simp[ziV]
theorem qeg (l:List Bool):(zbV l).length=l.length:=by simp[zbV]
theorem qaQ {l:List Int} {k:Nat} {x:Int} (h:l[k]?=some x):qcO (ziV l) (0*1+k*1) [iV x]:=by
 intro j v hj
 match j,hj with
 | 0,hj=>cases hj;simp[ziV,h]
 | j+1,hj=>simp at hj
theorem qcG {l:List Bool} {k:Nat} {x:Bool} (h:l[k]?=some x):qcO (zbV l) (0*1+k*1) [.bool x]:=by
 intro j v hj
 match j,hj with
 | 0,hj=>cases hj;simp[zbV,h]
 | j+1,hj=>simp at hj
theorem qfM {l:List Int} {z:Int} {x:Int} (h:l[z.toNat]?=some x):qcO (ziV l) (0*1+z.toNat*1) [iV x]:=qaQ h
theorem qjD {l:List Bool} {z:Int} {x:Bool} (h:l[z.toNat]?=some x):qcO (zbV l) (0*1+z.toNat*1) [.bool x]:=qcG h
theorem qmi (l:List Int) (k:Nat) (x:Int) (h:k<l.length):ziV (l.set k x)=qeH (ziV l) (0*1+k*1) [iV x]:=by
 rw[Nat.zero_mul,Nat.zero_add,Nat.mul_one]
 unfold qeH ziV
 rw[List.map_set,List.set_eq_take_append_cons_drop,if_pos (by simpa using h)]
 simp
theorem qzq (l:List Bool) (k:Nat) (x:Bool) (h:k<l.length):zbV (l.set k x)=qeH (zbV l) (0*1+k*1) [.bool x]:=by
 rw[Nat.zero_mul,Nat.zero_add,Nat.mul_one]
 unfold qeH zbV
 rw[List.map_set,List.set_eq_take_append_cons_drop,if_pos (by simpa using h)]
 simp
theorem qcK (l:List Int) (k:Nat) (h:k<l.length):0*1+k*1+1≤(ziV l).length:=by rw[qaG];omega
theorem qf9 (l:List Bool) (k:Nat) (h:k<l.length):0*1+k*1+1≤(zbV l).length:=by rw[qeg];omega
theorem qka:∀ n:Nat,qdh [iV 0] n=ziV (List.replicate n 0)
 | 0=>rfl
 | n+1=>by rw[qdh,qka n];rfl
theorem que:∀ n:Nat,qdh [Value.bool false] n=zbV (List.replicate n false)
 | 0=>rfl
 | n+1=>by rw[qdh,que n];rfl
theorem qaW (a b:List Int):ziV (a++b)=ziV a++ziV b:=by simp[ziV]
theorem qfk (l:List Int):∀ v∈ziV l,v.oneCell'=true:=by
 intro v hv
 obtain⟨x,_,rfl⟩:=List.mem_map.1 hv
 rfl
theorem qAX (l:List Bool):∀ v∈zbV l,v.oneCell'=true:=by
 intro v hv
 obtain⟨x,_,rfl⟩:=List.mem_map.1 hv
 rfl
theorem RunsL.roundsZ {P:Program} {lo fr:Nat} {c:Code} {n nb:Nat} (tm:Nat→List (Nat×SV)) (hp:Nat→List (Nat×Nat×SV)) {e:Exit} {tm2:TmL} {hp2:HpL} {N:Nat} :
 ∀ (d i:Nat),i+d=N→(∀ j,i≤j→j<N→RunsL P lo fr c n nb (tm (j+1)) (hp (j+1)) e tm2 hp2→RunsL P lo fr c n nb (tm j) (hp j) e tm2 hp2)→RunsL P lo fr c n nb (tm N) (hp N) e tm2 hp2→RunsL P lo fr c n nb (tm i) (hp i) e tm2 hp2
 | 0,i,h,_,last=>by
  have:i=N:=by omega
  subst this;exact last
 | d+1,i,h,step,last=>step i (Nat.le_refl i) (by omega) (RunsL.roundsZ tm hp d (i+1) (by omega) (fun j h1 h2=>step j (by omega) h2) last)
theorem qCy {n:Int} (h0 : -9223372036854775808≤n) (h1:n≤9223372036854775807):IntKind.i64.wrap n=n:=by
 rw[IntKind.wrap_i64];omega
theorem qbl {n:Int} (h0 : -9223372036854775808≤n) (h1:n≤9223372036854775807):iV (IntKind.i64.wrap n)=iV n:=by rw[qCy h0 h1]
theorem qaB {k:Nat} (h:k≤1000000):iV (IntKind.i64.wrap ((k:Int)+1))=iV ((k+1:Nat):Int):=by rw[qbl (by omega) (by omega)];rfl
def qbr:List Bool→List Int→Option (List Bool)
 | g,[]=>some g
 | g,x::r=>if 0≤x∧x<(g.length:Int)∧g[x.toNat]?=some true then qbr (g.set x.toNat false) r else none
structure Vd (u:List Int) (b:List Bool) (f:List Int):Prop where
 pos:1≤u.length
 le:u.length≤200
 len:b.length=u.length
 use:∀ (k:Nat) (x:Int) (c:Bool),u[k]?=some x→b[k]?=some c→(if c=true then 1 else 0)≤x∧x≤1000000
 rng:∀ x∈f,0≤x∧x<(u.length:Int)
 nod:f.Nodup
 part:∀ (k:Nat) (c:Bool),b[k]?=some c→(c=false↔(k:Int)∈f)
theorem qep:∀ {f:List Int} {g g':List Bool},qbr g f=some g'→g'.length=g.length
 | [],g,g',h=>by cases h;rfl
 | x::r,g,g',h=>by
  unfold qbr at h
  split at h
  ·rw[qep h,List.length_set]
  ·cases h
theorem qdM:∀ {f:List Int} {g g':List Bool},qbr g f=some g'→(∀ x∈f,0≤x∧x<(g.length:Int)∧g[x.toNat]?=some true)∧f.Nodup∧∀ k:Nat,g'[k]?=if (k:Int)∈f then some false else g[k]?
 | [],g,g',h=>by cases h;exact⟨by simp,by simp,by simp⟩
 | x::r,g,g',h=>by
  unfold qbr at h
  split at h
  ·rename_i hx
   obtain⟨h1,h2,h3⟩:=qdM h
   have hn:x∉r:=fun hm=>by
    have:=(h1 x hm).2.2
    rw[List.getElem?_set] at this
    rw[if_pos rfl] at this
    split at this<;>cases this
   refine⟨fun y hy=>?_,List.nodup_cons.2 ⟨hn,h2⟩,fun k=>?_⟩
   ·rcases List.mem_cons.1 hy with rfl | hy
    ·exact hx
    ·obtain⟨a1,a2,a3⟩:=h1 y hy
     rw[List.length_set] at a2
     refine⟨a1,a2,?_⟩
     rw[List.getElem?_set] at a3
     split at a3
     ·split at a3<;>cases a3
     ·exact a3
   ·rw[h3]
    by_cases hk:(k:Int)∈r
    ·rw[if_pos hk,if_pos (List.mem_cons_of_mem _ hk)]
    ·rw[if_neg hk,List.getElem?_set]
     by_cases e:(k:Int)=x
     ·rw[if_pos (show x.toNat=k by omega),if_pos (by omega),if_pos (by rw[e];exact List.mem_cons_self)]
     ·rw[if_neg (show ¬ x.toNat=k by omega),if_neg (fun hm=>by rcases List.mem_cons.1 hm with h | h;exact e h;exact hk h)]
  ·cases h
theorem qek:∀ {f:List Int} {g:List Bool},(∀ x∈f,0≤x∧x<(g.length:Int)∧g[x.toNat]?=some true)→f.Nodup→∃ g',qbr g f=some g'
 | [],g,_,_=>⟨g,rfl⟩
 | x::r,g,h,hn=>by
  obtain⟨h1,h2⟩:=List.nodup_cons.1 hn
  unfold qbr
  rw[if_pos (h x List.mem_cons_self)]
  refine qek (fun y hy=>?_) h2
  obtain⟨a1,a2,a3⟩:=h y (List.mem_cons_of_mem _ hy)
  refine⟨a1,by rw[List.length_set];exact a2,?_⟩
  rw[List.getElem?_set,if_neg]
  ·exact a3
  ·intro e
   have hx:=(h x List.mem_cons_self).1
   have:x=y:=by omega
   subst this
   exact h1 hy
def qeL (b:List Bool) (f:List Int):Bool:=match qbr (b.map not) f with
 | some g=>!g.contains true
 | none=>false
def qza (u:List Int) (b:List Bool):Bool:=(List.range b.length).all fun k=>match u[k]?,b[k]? with
 | some x,some c=>decide ((if c=true then 1 else 0)≤x)&&decide (x≤1000000)
 | _,_=>false
def qcJ (u:List Int) (b:List Bool) (f:List Int):Bool:=decide (1≤u.length)&&decide (u.length≤200)&&decide (b.length=u.length)&&qza u b&&qeL b f
theorem qeS {u:List Int} {b:List Bool} (h:b.length=u.length):qza u b=true↔∀ (k:Nat) (x:Int) (c:Bool),u[k]?=some x→b[k]?=some c→(if c=true then 1 else 0)≤x∧x≤1000000:=by
 unfold qza
 rw[List.all_eq_true]
 constructor
 ·intro h1 k x c hx hc
  have hk:k<b.length:=(List.getElem?_eq_some_iff.1 hc).1
  have:=h1 k (List.mem_range.2 hk)
  rw[hx,hc] at this
  simpa using this
 ·intro h1 k hk
  have hk':=List.mem_range.1 hk
  rw[List.getElem?_eq_getElem (by omega:k<u.length),List.getElem?_eq_getElem hk']
  simpa using h1 k _ _ (List.getElem?_eq_getElem (by omega:k<u.length)) (List.getElem?_eq_getElem hk')
theorem qhW {b:List Bool} {f:List Int}:qeL b f=true↔(∀ x∈f,0≤x∧x<(b.length:Int))∧f.Nodup∧∀ (k:Nat) (c:Bool),b[k]?=some c→(c=false↔(k:Int)∈f):=by
 unfold qeL
 constructor
 ·intro h
  split at h
  ·rename_i g hg
   obtain⟨h1,h2,h3⟩:=qdM hg
   refine⟨fun x hx=>?_,h2,fun k c hc=>⟨fun e=>?_,fun hm=>?_⟩⟩
   ·obtain⟨a1,a2,_⟩:=h1 x hx
    exact⟨a1,by simpa using a2⟩
   ·subst e
    by_cases hm:(k:Int)∈f
    ·exact hm
    ·have:=h3 k
     rw[if_neg hm,List.getElem?_map,hc] at this
     have hin:true∈g:=List.mem_of_getElem? this
     simp[hin] at h
   ·obtain⟨_,_,a3⟩:=h1 _ hm
    rw[Int.toNat_natCast,List.getElem?_map,hc] at a3
    simpa using a3
  ·cases h
 ·rintro⟨h1,h2,h3⟩
  obtain⟨g,hg⟩:=qek (g:=b.map not) (f:=f) (fun x hx=>by
   obtain⟨a1,a2⟩:=h1 x hx
   have hk:x.toNat<b.length:=by omega
   refine⟨a1,by simpa using a2,?_⟩
   rw[List.getElem?_map,List.getElem?_eq_getElem hk]
   have:=(h3 x.toNat _ (List.getElem?_eq_getElem hk)).2 (by rw[Int.toNat_of_nonneg a1];exact hx)
   rw[this];rfl) h2
  rw[hg]
  obtain⟨_,_,h6⟩:=qdM hg
  have:true∉g:=by
   intro hm
   obtain⟨k,hk⟩:=List.mem_iff_getElem?.1 hm
   have e:=h6 k
   rw[hk] at e
   split at e
   ·cases e
   ·rename_i hn
    rw[List.getElem?_map] at e
    cases hb:b[k]? with
    | none=>rw[hb] at e;cases e
    | some c=>
     rw[hb] at e
     cases c
     ·exact hn ((h3 k _ hb).1 rfl)
     ·cases e
  simp[this]
theorem qcl {u:List Int} {b:List Bool} {f:List Int}:qcJ u b f=true↔Vd u b f:=by
 unfold qcJ
 simp only[Bool.and_eq_true,decide_eq_true_eq]
 constructor
 ·rintro⟨⟨⟨⟨h1,h2⟩,h3⟩,h4⟩,h5⟩
  obtain⟨a1,a2,a3⟩:=qhW.1 h5
  exact⟨h1,h2,h3,(qeS h3).1 h4,by rw[← h3];exact a1,a2,a3⟩
 ·intro h
  exact⟨⟨⟨⟨h.pos,h.le⟩,h.len⟩,(qeS h.len).2 h.use⟩,qhW.2 ⟨by rw[h.len];exact h.rng,h.nod,h.part⟩⟩
end Go.Proofs.YtkckcgpmnipnaaaGreat
