/-
  Joined: Rx, Ct, Cu, Cv, Fa, Fi, Fd, Fe, Fb. Conditions: none.
-/
import Derived.Test.YtkckcgpmnipnaaaGreatW18
import Derived.Test.YtkckcgpmnipnaaaGreatW17
import Derived.Test.YtkckcgpmnipnaaaGreatW16
namespace Go.Proofs.YtkckcgpmnipnaaaGreat
set_option maxRecDepth 100000
open Go.RowKit
theorem qi6 {a b c d:Int} (ha:I64 a) (hb:I64 b) (hc:I64 c) (hd:I64 d):Pure Tryz.prog 40 #[qab a b,qab c d] (iV (a*d-c*b).sign):=by
 have c1:=qci a d ha hd;have c2:=qci c b hc hb;generalize a*d=x at *;generalize c*b=y at *;have s1:=qfW x;have s2:=qfW y
 have kx:x<0∧x.sign = -1∨x=0∧x.sign=0∨0<x∧x.sign=1:=by
  rcases Int.lt_trichotomy x 0 with h | h | h
  ·exact Or.inl ⟨h,Int.sign_eq_neg_one_of_neg h⟩
  ·exact Or.inr (Or.inl ⟨h,by rw[h];rfl⟩)
  ·exact Or.inr (Or.inr ⟨h,Int.sign_eq_one_of_pos h⟩)
 have ky:y<0∧y.sign = -1∨y=0∧y.sign=0∨0<y∧y.sign=1:=by
  rcases Int.lt_trichotomy y 0 with h | h | h
  ·exact Or.inl ⟨h,Int.sign_eq_neg_one_of_neg h⟩
  ·exact Or.inr (Or.inl ⟨h,by rw[h];rfl⟩)
  ·exact Or.inr (Or.inr ⟨h,Int.sign_eq_one_of_pos h⟩)
 have kd:x-y<0∧(x-y).sign = -1∨x-y=0∧(x-y).sign=0∨0<x-y∧(x-y).sign=1:=by
  rcases Int.lt_trichotomy (x-y) 0 with h | h | h
  ·exact Or.inl ⟨h,Int.sign_eq_neg_one_of_neg h⟩
  ·exact Or.inr (Or.inl ⟨h,by rw[h];rfl⟩)
  ·exact Or.inr (Or.inr ⟨h,Int.sign_eq_one_of_pos h⟩)
 by_cases he:x.sign=y.sign
 ·by_cases hn:x.sign<0
  ·have l:=qd2 (decide (y<0)) (decide (x<0)) y.natAbs x.natAbs;rw[show (x-y).sign=qgl y.natAbs x.natAbs by unfold qgl;split<;>(try split)<;>omega];exact ql5 c1 c2 s1 s2 (by simp[he]) (qaX hn) l
  ·have l:=qd2 (decide (x<0)) (decide (y<0)) x.natAbs y.natAbs;rw[show (x-y).sign=qgl x.natAbs y.natAbs by unfold qgl;split<;>(try split)<;>omega];exact ql6 c1 c2 s1 s2 (by simp[he]) (qaR hn) l
 ·by_cases hl:x.sign<y.sign
  ·rw[show (x-y).sign = -1 by omega];exact qmF c1 c2 s1 s2 (by simpa using he) (qaX hl)
  ·rw[show (x-y).sign=1 by omega];exact qmQ c1 c2 s1 s2 (by simpa using he) (qaR hl)
theorem qjP (a b g:Nat) (ha:a<18446744073709551616) (hb:b<18446744073709551616) (hg:g=Nat.gcd a b):Pure Tryz.prog 94 #[.int .u64 a,.int .u64 b] (.int .u64 (g:Int)):=
 fun w=>hg▸qnB a b w ha hb
theorem qI5 {x y:Nat} (h:x<18446744073709551616):Value.int .u64 (IntKind.u64.wrap ((x:Int).tdiv (y:Int)))=.int .u64 ((x/y:Nat):Int):=qhA (qzJ x y) (Int.natCast_nonneg _) (by have:=Nat.div_le_self x y;omega)
theorem qxc {f:Bool} {U:Nat} (h:f=true→U<9223372036854775808):qeH f (sgV U false)=qeH f (U:Int):=by
 cases f
 ·rfl
 ·show sgV U false=(U:Int)
  unfold sgV;rw[if_pos (h rfl)];rfl
end Go.Proofs.YtkckcgpmnipnaaaGreat

namespace Go.Proofs.YtkckcgpmnipnaaaGreat
set_option maxRecDepth 100000
open Go.RowKit
theorem qfo (X:Int):(X.sign≥0)↔0≤X:=by
 rcases Int.lt_trichotomy X 0 with h | h | h
 ·rw[Int.sign_eq_neg_one_of_neg h];omega
 ·rw[h];decide
 ·rw[Int.sign_eq_one_of_pos h];omega
theorem qgU {pi pa pb qi qa qb n d m k:Int} (k0:0<k) (h4:m*(pb-qb)=(qa-pa)*k) (hb:pb≠qb) :
 qb8 (pa*d+pb*n) (qa*d+qb*n) pb qb pi qi=(decide (pb>qb)==decide ((n*k-m*d).sign≥0)):=by
 have key:(pa*d+pb*n-(qa*d+qb*n))*k=(pb-qb)*(n*k-m*d):=by
  have e1:(pb-qb)*(m*d)=(qa-pa)*k*d:=by rw[← h4,← Int.mul_assoc,Int.mul_comm (pb-qb) m]
  rw[Int.mul_sub,e1,Int.sub_mul,Int.add_mul,Int.add_mul,Int.sub_mul,Int.sub_mul,Int.sub_mul,← Int.mul_assoc,← Int.mul_assoc,Int.mul_right_comm qa k d,Int.mul_right_comm pa k d];omega
 have hs:=qfo (n*k-m*d);generalize n*k-m*d=X at *;generalize pa*d+pb*n=P at *;generalize qa*d+qb*n=Q at *
 have hk:((P-Q)*k<0↔P-Q<0)∧(0<(P-Q)*k↔0<P-Q):=by
  rcases Int.lt_trichotomy (P-Q) 0 with h | h | h
  ·have:=Int.mul_neg_of_neg_of_pos h k0;omega
  ·rw[h];simp
  ·have:=Int.mul_pos h k0;omega
 have hx:((pb-qb)*X<0↔(pb>qb∧X<0∨pb<qb∧0<X))∧(0<(pb-qb)*X↔(pb>qb∧0<X∨pb<qb∧X<0)):=by
  rcases Int.lt_trichotomy X 0 with h | h | h
  ·rcases Int.lt_or_gt_of_ne hb with g | g
   ·have:=Int.mul_pos_of_neg_of_neg (show pb-qb<0 by omega) h;omega
   ·have:=Int.mul_neg_of_pos_of_neg (show 0<pb-qb by omega) h;omega
  ·rw[h];simp
  ·rcases Int.lt_or_gt_of_ne hb with g | g
   ·have:=Int.mul_neg_of_neg_of_pos (show pb-qb<0 by omega) h;omega
   ·have:=Int.mul_pos (show 0<pb-qb by omega) h;omega
 rw[key] at hk;by_cases g:pb>qb
 ·by_cases l:0≤X
  ·rw[dt g,dt (hs.2 l)];exact qdv (by omega)
  ·rw[dt g,df (fun h=>l (hs.1 h))];exact qdA (by omega)
 ·by_cases l:0≤X
  ·rw[df g,dt (hs.2 l)];exact qdA (by omega)
  ·rw[df g,df (fun h=>l (hs.1 h))];exact qdv (by omega)
theorem qgH {pi pa b qi qa n d:Int} (d0:0<d):qb8 (pa*d+b*n) (qa*d+b*n) b b pi qi=qb8 pa qa b b pi qi:=by
 have e:pa*d-qa*d=(pa-qa)*d:=(Int.sub_mul _ _ _).symm
 have hk:((pa-qa)*d<0↔pa-qa<0)∧(0<(pa-qa)*d↔0<pa-qa):=by
  rcases Int.lt_trichotomy (pa-qa) 0 with h | h | h
  ·have:=Int.mul_neg_of_neg_of_pos h d0;omega
  ·rw[h];simp
  ·have:=Int.mul_pos h d0;omega
 unfold qb8;rw[← e] at hk;exact decide_eq_decide.2 (by omega)
theorem qmU {pi pa pb qi qa qb:Int} (h:pi≠qi):Pure Tryz.prog 204 #[qac pi pa pb,qac qi qa qb] (iV 0):=qFi (by simp[h])
theorem qh0 {pi pa pb qi qa qb:Int} (hp:okP pi pa pb=true) (hq:okP qi qa qb=true) (hb:pb≠qb) :
 ∃ m k,okB m k=true∧I64 m∧I64 k∧m*(pb-qb)=(qa-pa)*k∧Pure Tryz.prog 248 #[qac pi pa pb,qac qi qa qb] (qab m k)∧Pure Tryz.prog 248 #[qac qi qa qb,qac pi pa pb] (qab m k):=by
 obtain⟨m,k,h1,h2,h3,h4,h5⟩:=qgr hp hq hb;obtain⟨m',k',g1,g2,g3,g4,g5⟩:=qgr hq hp (Ne.symm hb)
 have e:m*k'=m'*k:=by
  refine Int.eq_of_mul_eq_mul_right (show pb-qb≠0 by omega) ?_
  have a1:m*k'*(pb-qb)=(qa-pa)*k*k':=by rw[Int.mul_right_comm,h4]
  have a2:m'*k*(pb-qb) = -((pa-qa)*k'*k):=by
   rw[Int.mul_right_comm,← Int.neg_mul,← g4,← Int.mul_neg];congr 2;omega
  rw[a1,a2,← Int.neg_mul,← Int.neg_mul,Int.mul_right_comm (qa-pa) k k'];congr 2;omega
 obtain⟨rfl,rfl⟩:=qkg h1 g1 e;exact⟨m,k,h1,h2,h3,h4,h5,g5⟩
end Go.Proofs.YtkckcgpmnipnaaaGreat

namespace Go.Proofs.YtkckcgpmnipnaaaGreat
set_option maxRecDepth 100000
open Go.RowKit
variable {a b za zb g x y N D E pi pa pb qi qa qb n d f m k mn md c:Int}
abbrev qD6 (g:Int) (za:Int) (zb:Int):Prop:=Pure Tryz.prog 94 #[.int .u64 za,.int .u64 zb] (.int .u64 g)
abbrev qEj (a:Int) (za:Int):Prop:=Pure Tryz.prog 95 #[iV a] (.int .u64 za)
abbrev qCe (b:Int) (zb:Int):Prop:=Pure Tryz.prog 95 #[iV b] (.int .u64 zb)
abbrev qyN (D:Int) (E:Int) (N:Int) (x:Int) (y:Int):Prop:=Pure Tryz.prog 326 #[.bool false,qaz false 0 x,qaz false 0 y] (.tuple #[qab N D,iV E])
theorem qpr (b0:(b==0)=false) (z1:qEj a za) (z2:qCe b zb) (g1:qD6 g za zb) (t1:decide (a<0)=true) (t2:decide (b<0)=true) (gz:¬ (g:Int)=0) (q1:Value.int .u64 (IntKind.u64.wrap (za.tdiv g))=.int .u64 x) (q2:Value.int .u64 (IntKind.u64.wrap (zb.tdiv g))=.int .u64 y) (m1:qyN D E N x y) :
 Pure Tryz.prog 295 #[iV a,iV b] (.tuple #[qab N D,iV E]):=
 qad (args:=[iV a,iV b]) 400 [.t false,Rf z1,Rf z2,Rf g1,.t true,.t true,.k,Rf z1,Re q1,Rf z2,Re q2,Rf m1]
  (A9 rfl b0 z1 z2 g1 t1 t2 z1 gz (A5 q1 z2 gz q2 m1 tI)) (by kernel_rfl)
theorem qpt (b0:(b==0)=false) (z1:qEj a za) (z2:qCe b zb) (g1:qD6 g za zb) (t1:decide (a<0)=true) (t2:decide (b<0)=false) (t3:(a !=0)=true) (gz:¬ (g:Int)=0) (q1:Value.int .u64 (IntKind.u64.wrap (za.tdiv g))=.int .u64 x) (q2:Value.int .u64 (IntKind.u64.wrap (zb.tdiv g))=.int .u64 y) (m1:Pure Tryz.prog 326 #[.bool true,qaz false 0 x,qaz false 0 y] (.tuple #[qab N D,iV E])) :
 Pure Tryz.prog 295 #[iV a,iV b] (.tuple #[qab N D,iV E]):=
 qad (args:=[iV a,iV b]) 400 [.t false,Rf z1,Rf z2,Rf g1,.t true,.t false,.k,.t true,Rf z1,Re q1,Rf z2,Re q2,Rf m1]
  (A9 rfl b0 z1 z2 g1 t1 t2 t3 z1 (A6 gz q1 z2 gz q2 m1 tI)) (by kernel_rfl)
theorem qnq (b0:(b==0)=false) (z1:qEj a za) (z2:qCe b zb) (g1:qD6 g za zb) (t1:decide (a<0)=false) (t2:decide (b<0)=true) (t3:(a !=0)=true) (gz:¬ (g:Int)=0) (q1:Value.int .u64 (IntKind.u64.wrap (za.tdiv g))=.int .u64 x) (q2:Value.int .u64 (IntKind.u64.wrap (zb.tdiv g))=.int .u64 y) (m1:Pure Tryz.prog 326 #[.bool true,qaz false 0 x,qaz false 0 y] (.tuple #[qab N D,iV E])) :
 Pure Tryz.prog 295 #[iV a,iV b] (.tuple #[qab N D,iV E]):=
 qad (args:=[iV a,iV b]) 400 [.t false,Rf z1,Rf z2,Rf g1,.t false,.t true,.k,.t true,Rf z1,Re q1,Rf z2,Re q2,Rf m1]
  (A9 rfl b0 z1 z2 g1 t1 t2 t3 z1 (A6 gz q1 z2 gz q2 m1 tI)) (by kernel_rfl)
theorem qoE (b0:(b==0)=false) (z1:qEj a za) (z2:qCe b zb) (g1:qD6 g za zb) (t1:decide (a<0)=false) (t2:decide (b<0)=true) (t3:(a !=0)=false) (gz:¬ (g:Int)=0) (q1:Value.int .u64 (IntKind.u64.wrap (za.tdiv g))=.int .u64 x) (q2:Value.int .u64 (IntKind.u64.wrap (zb.tdiv g))=.int .u64 y) (m1:qyN D E N x y) :
 Pure Tryz.prog 295 #[iV a,iV b] (.tuple #[qab N D,iV E]):=
 qad (args:=[iV a,iV b]) 400 [.t false,Rf z1,Rf z2,Rf g1,.t false,.t true,.k,.t false,Rf z1,Re q1,Rf z2,Re q2,Rf m1]
  (A9 rfl b0 z1 z2 g1 t1 t2 t3 z1 (A6 gz q1 z2 gz q2 m1 tI)) (by kernel_rfl)
theorem qnJ (b0:(b==0)=false) (z1:qEj a za) (z2:qCe b zb) (g1:qD6 g za zb) (t1:decide (a<0)=false) (t2:decide (b<0)=false) (gz:¬ (g:Int)=0) (q1:Value.int .u64 (IntKind.u64.wrap (za.tdiv g))=.int .u64 x) (q2:Value.int .u64 (IntKind.u64.wrap (zb.tdiv g))=.int .u64 y) (m1:qyN D E N x y) :
 Pure Tryz.prog 295 #[iV a,iV b] (.tuple #[qab N D,iV E]):=
 qad (args:=[iV a,iV b]) 400 [.t false,Rf z1,Rf z2,Rf g1,.t false,.t false,.k,Rf z1,Re q1,Rf z2,Re q2,Rf m1]
  (A9 rfl b0 z1 z2 g1 t1 t2 z1 gz (A5 q1 z2 gz q2 m1 tI)) (by kernel_rfl)
theorem qtq {u v s:Int} (v1:iV (IntKind.i64.wrap (pa-qa))=iV u) (c1:Pure Tryz.prog 87 #[iV u,iV d] (qd9 x)) (v2:iV (IntKind.i64.wrap (pb-qb))=iV v) (c2:Pure Tryz.prog 87 #[iV v,iV n] (qd9 y)) (c3:Pure Tryz.prog 202 #[qd9 x,qd9 y] (qd9 s)) (c4:Pure Tryz.prog 88 #[qd9 s] (iV s.sign)) :
 Pure Tryz.prog 156 #[qac pi pa pb,qac qi qa qb,qab n d] (iV s.sign):=
 qad (args:=[qac pi pa pb,qac qi qa qb,qab n d]) 200 [Re v1,Rf c1,Re v2,Rf c2,Rf c3,Rf c4]
  (A7 rfl v1 c1 v2 c2 c3 c4 tI) (by kernel_rfl)
abbrev qzi (d:Int) (f:Int) (n:Int) (pa:Int) (pb:Int) (pi:Int) (qa:Int) (qb:Int) (qi:Int):Prop:=Pure Tryz.prog 156 #[qac pi pa pb,qac qi qa qb,qab n d] (iV f)
theorem qji (c:qzi d f n pa pb pi qa qb qi) (z:(f !=0)=true) (g:Dt (f>0)) :
 Pure Tryz.prog 90 #[qac pi pa pb,qac qi qa qb,qab n d] (.bool true):=
 qad (args:=[qac pi pa pb,qac qi qa qb,qab n d]) 200 [Rf c,.t true,.t true]
  (A4 rfl c z g tI) (by kernel_rfl)
theorem qoQ (c:qzi d f n pa pb pi qa qb qi) (z:(f !=0)=false) (bb:(pb !=qb)=true) (g:decide (pb>qb)=true) :
 Pure Tryz.prog 90 #[qac pi pa pb,qac qi qa qb,qab n d] (.bool true):=
 qad (args:=[qac pi pa pb,qac qi qa qb,qab n d]) 200 [Rf c,.t false,.t true,.t true]
  (A5 rfl c z bb g tI) (by kernel_rfl)
theorem qnj (c:qzi d f n pa pb pi qa qb qi) (z:(f !=0)=false) (bb:(pb !=qb)=false) (g:decide (pi<qi)=true) :
 Pure Tryz.prog 90 #[qac pi pa pb,qac qi qa qb,qab n d] (.bool true):=
 qad (args:=[qac pi pa pb,qac qi qa qb,qab n d]) 200 [Rf c,.t false,.t false,.t true]
  (A5 rfl c z bb g tI) (by kernel_rfl)
theorem qj6 (c:qzi d f n pa pb pi qa qb qi) (z:(f !=0)=true) (g:Df (f>0)) :
 Pure Tryz.prog 90 #[qac pi pa pb,qac qi qa qb,qab n d] (.bool false):=
 qad (args:=[qac pi pa pb,qac qi qa qb,qab n d]) 200 [Rf c,.t true,.t false]
  (A4 rfl c z g tI) (by kernel_rfl)
theorem qpu (c:qzi d f n pa pb pi qa qb qi) (z:(f !=0)=false) (bb:(pb !=qb)=true) (g:decide (pb>qb)=false) :
 Pure Tryz.prog 90 #[qac pi pa pb,qac qi qa qb,qab n d] (.bool false):=
 qad (args:=[qac pi pa pb,qac qi qa qb,qab n d]) 200 [Rf c,.t false,.t true,.t false]
  (A5 rfl c z bb g tI) (by kernel_rfl)
theorem qof (c:qzi d f n pa pb pi qa qb qi) (z:(f !=0)=false) (bb:(pb !=qb)=false) (g:decide (pi<qi)=false) :
 Pure Tryz.prog 90 #[qac pi pa pb,qac qi qa qb,qab n d] (.bool false):=
 qad (args:=[qac pi pa pb,qac qi qa qb,qab n d]) 200 [Rf c,.t false,.t false,.t false]
  (A5 rfl c z bb g tI) (by kernel_rfl)
theorem qr8 (v1:iV (IntKind.i64.wrap (pa-qa))=iV x) (v2:iV (IntKind.i64.wrap (qb-pb))=iV y) (c1:Pure Tryz.prog 295 #[iV x,iV y] (.tuple #[qab m k,iV 0])) :
 Pure Tryz.prog 233 #[qac pi pa pb,qac qi qa qb] (qab m k):=
 qad (args:=[qac pi pa pb,qac qi qa qb]) 200 [Re v1,Re v2,Rf c1]
  (A4 rfl v1 v2 c1 tI) (by kernel_rfl)
theorem qkj (l:Pure Tryz.prog 90 #[qac qi qa qb,qac pi pa pb,qab n d] (.bool true)) :
 Pure Tryz.prog 188 #[qac pi pa pb,qac qi qa qb,qab n d] (.tuple #[qab n d,.bool true]):=
 qad (args:=[qac pi pa pb,qac qi qa qb,qab n d]) 200 [Rf l]
  (A2 rfl l tI) (by kernel_rfl)
theorem qjq (l:Pure Tryz.prog 90 #[qac qi qa qb,qac pi pa pb,qab n d] (.bool false)) (g:Dt (qb>pb)) (m1:Pure Tryz.prog 233 #[qac pi pa pb,qac qi qa qb] (qab m k)) :
 Pure Tryz.prog 188 #[qac pi pa pb,qac qi qa qb,qab n d] (.tuple #[qab m k,.bool true]):=
 qad (args:=[qac pi pa pb,qac qi qa qb,qab n d]) 200 [Rf l,.t true,Rf m1]
  (A4 rfl l g m1 tI) (by kernel_rfl)
theorem qgR (l:Pure Tryz.prog 90 #[qac qi qa qb,qac pi pa pb,qab n d] (.bool false)) (g:Df (qb>pb)) :
 Pure Tryz.prog 188 #[qac pi pa pb,qac qi qa qb,qab n d] (.tuple #[qab 0 0,.bool false]):=
 qad (args:=[qac pi pa pb,qac qi qa qb,qab n d]) 200 [Rf l,.t false]
  (A3 rfl l g tI) (by kernel_rfl)
abbrev qtV (d:Int) (n:Int):Prop:=Pure Tryz.prog 101 #[qab n d] (iV 0)
abbrev qt1 (pa:Int) (pb:Int) (pi:Int) (qa:Int) (qb:Int) (qi:Int):Prop:=Pure Tryz.prog 204 #[qac pi pa pb,qac qi qa qb] (iV 0)
abbrev quA (pa:Int) (pb:Int) (pi:Int):Prop:=Pure Tryz.prog 137 #[qac pi pa pb] (iV 0)
abbrev quE (qa:Int) (qb:Int) (qi:Int):Prop:=Pure Tryz.prog 137 #[qac qi qa qb] (iV 0)
theorem qqQ (cp:quA pa pb pi) (cq:quE qa qb qi) (ct:qtV d n) (ci:qt1 pa pb pi qa qb qi) (w:(qa==pa&&(qb==pb&&true))=true) (r:decide (qi<pi)=true) :
 Pure Tryz.prog 266 #[qac pi pa pb,qac qi qa qb,qab n d] (.tuple #[qab n d,.bool true,iV 0]):=
 qad (args:=[qac pi pa pb,qac qi qa qb,qab n d]) 400 [Rf cp,Rf cp,Rf cp,Rf cp,.k,.k,.k,.k,.k,.k,.k,.k,.k,.k,.k,.k,.k,.k,.k,.k,.k,.k,.t true,.k,.t true]
  (A7 rfl cp cq ct ci w r tI) (by kernel_rfl)
theorem qrg (cp:quA pa pb pi) (cq:quE qa qb qi) (ct:qtV d n) (ci:qt1 pa pb pi qa qb qi) (w:(qa==pa&&(qb==pb&&true))=true) (r:decide (qi<pi)=false) (gb:decide (qb>pb)=false) :
 Pure Tryz.prog 266 #[qac pi pa pb,qac qi qa qb,qab n d] (.tuple #[qab 0 0,.bool false,iV 0]):=
 qad (args:=[qac pi pa pb,qac qi qa qb,qab n d]) 400 [Rf cp,Rf cp,Rf cp,Rf cp,.k,.k,.k,.k,.k,.k,.k,.k,.k,.k,.k,.k,.k,.k,.k,.k,.k,.k,.t true,.k,.t false,.t false]
  (A8 rfl cp cq ct ci w r gb tI) (by kernel_rfl)
theorem qtj (cp:quA pa pb pi) (cq:quE qa qb qi) (ct:qtV d n) (ci:qt1 pa pb pi qa qb qi) (w:(qa==pa&&(qb==pb&&true))=false) (bb:(qb==pb)=true) (r:decide (qa>pa)=true) :
 Pure Tryz.prog 266 #[qac pi pa pb,qac qi qa qb,qab n d] (.tuple #[qab n d,.bool true,iV 0]):=
 qad (args:=[qac pi pa pb,qac qi qa qb,qab n d]) 400 [Rf cp,Rf cp,Rf cp,Rf cp,.k,.k,.k,.k,.k,.k,.k,.k,.k,.k,.k,.k,.k,.k,.k,.k,.k,.k,.t false,.t true,.k,.t true]
  (A8 rfl cp cq ct ci w bb r tI) (by kernel_rfl)
theorem qrY (cp:quA pa pb pi) (cq:quE qa qb qi) (ct:qtV d n) (ci:qt1 pa pb pi qa qb qi) (w:(qa==pa&&(qb==pb&&true))=false) (bb:(qb==pb)=true) (r:decide (qa>pa)=false) (gb:decide (qb>pb)=false) :
 Pure Tryz.prog 266 #[qac pi pa pb,qac qi qa qb,qab n d] (.tuple #[qab 0 0,.bool false,iV 0]):=
 qad (args:=[qac pi pa pb,qac qi qa qb,qab n d]) 400 [Rf cp,Rf cp,Rf cp,Rf cp,.k,.k,.k,.k,.k,.k,.k,.k,.k,.k,.k,.k,.k,.k,.k,.k,.k,.k,.t false,.t true,.k,.t false,.t false]
  (A9 rfl cp cq ct ci w bb r gb tI) (by kernel_rfl)
abbrev qE7 (c:Int) (d:Int) (md:Int) (mn:Int) (n:Int):Prop:=Pure Tryz.prog 190 #[qab n d,qab mn md] (.tuple #[iV c,iV 0])
theorem qoU (cp:quA pa pb pi) (cq:quE qa qb qi) (ct:qtV d n) (ci:qt1 pa pb pi qa qb qi) (w:(qa==pa&&(qb==pb&&true))=false) (bb:(qb==pb)=false) (cm:Pure Tryz.prog 248 #[qac qi qa qb,qac pi pa pb] (qab mn md)) (cc:qE7 c d md mn n) (g1:Dt (c≥0)) (gb:Dt (qb>pb)) :
 Pure Tryz.prog 266 #[qac pi pa pb,qac qi qa qb,qab n d] (.tuple #[qab n d,.bool true,iV 0]):=
 qad (args:=[qac pi pa pb,qac qi qa qb,qab n d]) 400 [Rf cp,Rf cp,Rf cp,Rf cp,.k,.k,.k,.k,.k,.k,.k,.k,.k,.k,.k,.k,.k,.k,.k,.k,.k,.k,.t false,.t false,Rf cm,.k,Rf cc,.t true,.t true,.k]
  (A9 rfl cp cq ct ci w bb cm cc (A2 g1 gb tI)) (by kernel_rfl)
theorem qoe (cp:quA pa pb pi) (cq:quE qa qb qi) (ct:qtV d n) (ci:qt1 pa pb pi qa qb qi) (w:(qa==pa&&(qb==pb&&true))=false) (bb:(qb==pb)=false) (cm:Pure Tryz.prog 248 #[qac qi qa qb,qac pi pa pb] (qab mn md)) (cc:qE7 c d md mn n) (g1:Dt (c≥0)) (gb:Df (qb>pb)) :
 Pure Tryz.prog 266 #[qac pi pa pb,qac qi qa qb,qab n d] (.tuple #[qab 0 0,.bool false,iV 0]):=
 qad (args:=[qac pi pa pb,qac qi qa qb,qab n d]) 400 [Rf cp,Rf cp,Rf cp,Rf cp,.k,.k,.k,.k,.k,.k,.k,.k,.k,.k,.k,.k,.k,.k,.k,.k,.k,.k,.t false,.t false,Rf cm,.k,Rf cc,.t true,.t false,.k,.t false]
  (A9 rfl cp cq ct ci w bb cm cc (A3 g1 gb gb tI)) (by kernel_rfl)
theorem qpN (cp:quA pa pb pi) (cq:quE qa qb qi) (ct:qtV d n) (ci:qt1 pa pb pi qa qb qi) (w:(qa==pa&&(qb==pb&&true))=false) (bb:(qb==pb)=false) (cm:Pure Tryz.prog 248 #[qac qi qa qb,qac pi pa pb] (qab mn md)) (cc:qE7 c d md mn n) (g1:Df (c≥0)) (gb:decide (qb>pb)=true) (mt:Pure Tryz.prog 248 #[qac pi pa pb,qac qi qa qb] (qab m k)) :
 Pure Tryz.prog 266 #[qac pi pa pb,qac qi qa qb,qab n d] (.tuple #[qab m k,.bool true,iV 0]):=
 qad (args:=[qac pi pa pb,qac qi qa qb,qab n d]) 400 [Rf cp,Rf cp,Rf cp,Rf cp,.k,.k,.k,.k,.k,.k,.k,.k,.k,.k,.k,.k,.k,.k,.k,.k,.k,.k,.t false,.t false,Rf cm,.k,Rf cc,.t false,.t true,.k,.t true,Rf mt]
  (A9 rfl cp cq ct ci w bb cm cc (A4 g1 gb gb mt tI)) (by kernel_rfl)
theorem qnQ (cp:quA pa pb pi) (cq:quE qa qb qi) (ct:qtV d n) (ci:qt1 pa pb pi qa qb qi) (w:(qa==pa&&(qb==pb&&true))=false) (bb:(qb==pb)=false) (cm:Pure Tryz.prog 248 #[qac qi qa qb,qac pi pa pb] (qab mn md)) (cc:qE7 c d md mn n) (g1:Df (c≥0)) (gb:Df (qb>pb)) :
 Pure Tryz.prog 266 #[qac pi pa pb,qac qi qa qb,qab n d] (.tuple #[qab n d,.bool true,iV 0]):=
 qad (args:=[qac pi pa pb,qac qi qa qb,qab n d]) 400 [Rf cp,Rf cp,Rf cp,Rf cp,.k,.k,.k,.k,.k,.k,.k,.k,.k,.k,.k,.k,.k,.k,.k,.k,.k,.k,.t false,.t false,Rf cm,.k,Rf cc,.t false,.t false,.k]
  (A9 rfl cp cq ct ci w bb cm cc (A2 g1 gb tI)) (by kernel_rfl)
end Go.Proofs.YtkckcgpmnipnaaaGreat

namespace Go.Proofs.YtkckcgpmnipnaaaGreat
set_option maxRecDepth 100000
open Go.RowKit
theorem qk6 {x:Nat} (h:x<18446744073709551616):qjc false x=qaz false 0 (x:Int):=by
 unfold qjc;rw[show x/18446744073709551616=0 by omega,show x%18446744073709551616=x by omega];rfl
theorem qnr {a b:Int} (ha:I64 a) (hb:I64 b) (h0:b≠0):∃ N D E,IsRes a b N D E∧Pure Tryz.prog 295 #[.int .i64 a,.int .i64 b] (.tuple #[qab N D,.int .i64 E]):=by
 have za:=qdI a ha;have zb:=qdI b hb;unfold I64 at ha hb;obtain⟨g,hg⟩:∃ g,g=Nat.gcd a.natAbs b.natAbs:=⟨_,rfl⟩;have g0:0<g:=hg▸Nat.gcd_pos_of_pos_right _ (by omega);have gg:=qjP a.natAbs b.natAbs g (by omega) (by omega) hg;obtain⟨x,hx⟩:∃ x,x=a.natAbs/g:=⟨_,rfl⟩;obtain⟨y,hy⟩:∃ y,y=b.natAbs/g:=⟨_,rfl⟩
 have ax:a.natAbs=g*x:=by rw[hx,hg];exact (Nat.mul_div_cancel' (Nat.gcd_dvd_left _ _)).symm
 have bY:b.natAbs=g*y:=by rw[hy,hg];exact (Nat.mul_div_cancel' (Nat.gcd_dvd_right _ _)).symm
 have hxy:Nat.gcd x y=1:=by rw[hx,hy,hg];exact Nat.gcd_div_gcd_div_gcd_of_pos_right (by omega)
 have y0:0<y:=by
  rcases Nat.eq_zero_or_pos y with e | e
  ·rw[e,Nat.mul_zero] at bY;omega
  ·exact e
 have lx:=Nat.div_le_self a.natAbs g;have ly:=Nat.div_le_self b.natAbs g;rw[← hx] at lx;rw[← hy] at ly;have q1:=qI5 (x:=a.natAbs) (y:=g) (by omega);have q2:=qI5 (x:=b.natAbs) (y:=g) (by omega);rw[← hx] at q1;rw[← hy] at q2
 have md:∀ neg,Pure Tryz.prog 326 #[.bool neg,qaz false 0 (x:Int),qaz false 0 (y:Int)] (.tuple #[qab (qeH (qbr x&&qbr y) (sgV x neg)) (qeH (qbr x&&qbr y) (y:Int)),.int .i64 (qnk (qbr x&&qbr y))]):=by
  intro neg;have:=qpE neg false false x y
  rwa [qk6 (by omega),qk6 (by omega)] at this
 have fin:∀ (T:Int) (neg:Bool),T.natAbs=x→decide (T<0)=neg→T*b=a*(y:Int)→IsRes a b (qeH (qbr x&&qbr y) (sgV x neg)) (qeH (qbr x&&qbr y) (y:Int)) (qnk (qbr x&&qbr y)):=by
  intro T neg h1 h2 h3;have:=qkp (p:=a) (q:=b) (T:=T) (U:=(y:Int)) h0 (by omega) (by rw[h1,Int.natAbs_natCast];exact hxy) h3;rw[h1,h2,Int.natAbs_natCast,df (show ¬ (y:Int)<0 by omega),qxc (fun h=>by simp only[Bool.and_eq_true] at h;simpa [qbr] using h.2)] at this;exact this
 have gz:¬ (g:Int)=0:=by omega
 have cx:(x:Int)*((g*y:Nat):Int)=((g*x:Nat):Int)*(y:Int):=by rw[← Int.natCast_mul,← Int.natCast_mul];congr 1;rw[Nat.mul_left_comm,Nat.mul_assoc]
 by_cases sa:a<0<;>by_cases sb:b<0
 ·refine⟨_,_,_,fin (x:Int) false (by simp) (df (by omega)) ?_,qpr (by simp[h0]) za zb gg (dt sa) (dt sb) gz q1 q2 (md false)⟩;rw[show b = -((g*y:Nat):Int) by omega,show a = -((g*x:Nat):Int) by omega,Int.mul_neg,Int.neg_mul,cx]
 ·refine⟨_,_,_,fin (-(x:Int)) true (by simp) (dt ?_) ?_,qpt (by simp[h0]) za zb gg (dt sa) (df sb) (by simp;omega) gz q1 q2 (md true)⟩
  ·rcases Nat.eq_zero_or_pos x with e | e
   ·rw[e,Nat.mul_zero] at ax;omega
   ·omega
  ·rw[show b=((g*y:Nat):Int) by omega,show a = -((g*x:Nat):Int) by omega,Int.neg_mul,Int.neg_mul,cx]
 ·by_cases z:a=0
  ·refine⟨_,_,_,fin 0 false ?_ rfl (by rw[z];simp),qoE (by simp[h0]) za zb gg (df sa) (dt sb) (by simp[z]) gz q1 q2 (md false)⟩;rw[hx,z];simp
  ·refine⟨_,_,_,fin (-(x:Int)) true (by simp) (dt ?_) ?_,qnq (by simp[h0]) za zb gg (df sa) (dt sb) (by simp[z]) gz q1 q2 (md true)⟩
   ·rcases Nat.eq_zero_or_pos x with e | e
    ·rw[e,Nat.mul_zero] at ax;omega
    ·omega
   ·rw[show b = -((g*y:Nat):Int) by omega,show a=((g*x:Nat):Int) by omega,Int.neg_mul_neg,cx]
 ·refine⟨_,_,_,fin (x:Int) false (by simp) (df (by omega)) ?_,qnJ (by simp[h0]) za zb gg (df sa) (df sb) gz q1 q2 (md false)⟩;rw[show b=((g*y:Nat):Int) by omega,show a=((g*x:Nat):Int) by omega,cx]
theorem qBl {pi pa pb qi qa qb m k:Int} (hp:okP pi pa pb=true) (hq:okP qi qa qb=true) (hb:pb≠qb) (h1:okB m k=true) (h2:I64 m) (h3:I64 k) (h4:m*(pb-qb)=(qa-pa)*k) :
 Pure Tryz.prog 233 #[qac pi pa pb,qac qi qa qb] (qab m k):=by
 have hp':=qcp.1 hp;have hq':=qcp.1 hq;obtain⟨N,D,E,hr,hm⟩:=qnr (a:=pa-qa) (b:=qb-pb) (by unfold I64;omega) (by unfold I64;omega) (by omega)
 obtain⟨rfl,rfl,rfl⟩:=hr.one (by omega) h1 h2 h3 (by
  rw[show qb-pb = -(pb-qb) by omega,show pa-qa = -(qa-pa) by omega,Int.mul_neg,Int.neg_mul,h4])
 exact qr8 (by rw[qas (by omega) (by omega)]) (by rw[qas (by omega) (by omega)]) hm
theorem qry {pi pa pb qi qa qb n d:Int} (hn:I64 n) (hd:I64 d) (hp:okP pi pa pb=true) (hq:okP qi qa qb=true) :
 Pure Tryz.prog 90 #[qac pi pa pb,qac qi qa qb,qab n d] (.bool (qb8 (pa*d+pb*n) (qa*d+qb*n) pb qb pi qi)):=by
 have hp':=qcp.1 hp;have hq':=qcp.1 hq;have c1:=qci (pa-qa) d (by unfold I64;omega) hd;have c2:=qci (pb-qb) n (by unfold I64;omega) hn
 have b1:((pa-qa)*d).natAbs≤2097152*9223372036854775808:=by rw[Int.natAbs_mul];unfold I64 at hd;exact Nat.mul_le_mul (by omega) (by omega)
 have b2:((pb-qb)*n).natAbs≤2097152*9223372036854775808:=by rw[Int.natAbs_mul];unfold I64 at hn;exact Nat.mul_le_mul (by omega) (by omega)
 have c3:=qnw ((pa-qa)*d) ((pb-qb)*n) (by omega) (by omega)
 have e:(pa-qa)*d+(pb-qb)*n=pa*d+pb*n-(qa*d+qb*n):=by rw[Int.sub_mul,Int.sub_mul];omega
 rw[e] at c3;have c4:=qfW (pa*d+pb*n-(qa*d+qb*n));have far:=qtq (pi:=pi) (pa:=pa) (pb:=pb) (qi:=qi) (qa:=qa) (qb:=qb) (by rw[qas (by omega) (by omega)]) c1 (by rw[qas (by omega) (by omega)]) c2 c3 c4;generalize pa*d+pb*n=P at *;generalize qa*d+qb*n=Q at *
 rcases Int.lt_trichotomy (P-Q) 0 with h | h | h
 ·rw[Int.sign_eq_neg_one_of_neg h] at far;rw[qdA (by omega)];exact qj6 far (by decide) (by decide)
 ·rw[h] at far;by_cases hb:pb=qb
  ·by_cases hi:pi<qi
   ·rw[qdv (by omega)];exact qnj far (by decide) (by simp[hb]) (dt hi)
   ·rw[qdA (by omega)];exact qof far (by decide) (by simp[hb]) (df hi)
  ·by_cases hg:pb>qb
   ·rw[qdv (by omega)];exact qoQ far (by decide) (by simp[hb]) (dt hg)
   ·rw[qdA (by omega)];exact qpu far (by decide) (by simp[hb]) (df hg)
 ·rw[Int.sign_eq_one_of_pos h] at far;rw[qdv (by omega)];exact qji far (by decide) (by decide)
end Go.Proofs.YtkckcgpmnipnaaaGreat

namespace Go.Proofs.YtkckcgpmnipnaaaGreat
set_option maxRecDepth 100000
open Go.RowKit
structure Pt where
 id:Int
 a:Int
 b:Int
abbrev ptV (p:Pt):Value:=qac p.id p.a p.b
def qbs:List Pt→List Value
 | []=>[]
 | p::r=>iV p.id::iV p.a::iV p.b::qbs r
theorem qb5:∀ (a b:List Pt),qbs (a++b)=qbs a++qbs b
 | [],_=>rfl
 | p::r,b=>by simp[qbs,qb5 r b]
theorem qbf:∀ (l:List Pt),(qbs l).length=l.length*3
 | []=>rfl
 | p::r=>by simp[qbs,qbf r];omega
theorem qcC:∀ {l:List Pt} {k:Nat} {p:Pt},l[k]?=some p→(qbs l)[k*3]?=some (iV p.id)∧(qbs l)[k*3+1]?=some (iV p.a)∧(qbs l)[k*3+2]?=some (iV p.b)
 | [],k,p,h=>by simp at h
 | q::r,0,p,h=>by simp at h;subst h;exact⟨rfl,rfl,rfl⟩
 | q::r,k+1,p,h=>by
  have:=qcC (l:=r) (k:=k) (p:=p) (by simpa using h);rw[show (k+1)*3=k*3+1+1+1 by omega];exact this
theorem qaB {l:List Pt} {k:Nat} {p:Pt} (h:l[k]?=some p):qcJ (qbs l) (0*3+k*3) [iV p.id,iV p.a,iV p.b]:=by
 obtain⟨h1,h2,h3⟩:=qcC h;intro j v hj;rw[show 0*3+k*3+j=k*3+j by omega]
 match j,hj with
 | 0,hj=>cases hj;exact h1
 | 1,hj=>cases hj;exact h2
 | 2,hj=>cases hj;exact h3
 | j+3,hj=>simp at hj
theorem qcP {l:List Pt} {k:Nat} {p:Pt} (h:l[k]?=some p):qcJ (qbs l) (0*3+k*3) [iV p.id]:=by
 intro j v hj;rw[show 0*3+k*3+j=k*3+j by omega]
 match j,hj with
 | 0,hj=>cases hj;exact (qcC h).1
 | j+1,hj=>simp at hj
theorem RunsL.rounds {P:Program} {lo fr:Nat} {c:Code} {n nb:Nat} (tm:Nat→List (Nat×SV)) (hp:Nat→List (Nat×Nat×SV)) {e:Exit} {tm2:TmL} {hp2:HpL} {N:Nat} :
 ∀ (d i:Nat),i+d=N→(∀ j,i≤j→j<N→RunsL P lo fr c n nb (tm (j+1)) (hp (j+1)) e tm2 hp2→RunsL P lo fr c n nb (tm j) (hp j) e tm2 hp2)→RunsL P lo fr c n nb (tm N) (hp N) e tm2 hp2→RunsL P lo fr c n nb (tm i) (hp i) e tm2 hp2
 | 0,i,h,_,last=>by
  have:i=N:=by omega
  subst this;exact last
 | d+1,i,h,step,last=>step i (Nat.le_refl i) (by omega) (RunsL.rounds tm hp d (i+1) (by omega) (fun j h1 h2=>step j (by omega) h2) last)
abbrev qaf (l:List Pt):SV:=.row 137 3 l.length (qbs l)
abbrev qaq (b:Nat) (l:List Pt):SV:=.ag [.ls b l.length]
theorem qag {k:Nat} (h:k≤1000000):iV (IntKind.i64.wrap ((k:Int)+1))=iV ((k+1:Nat):Int):=by rw[qas (by omega) (by omega)];rfl
theorem qwM {l:List Pt} (h1:Dt ((l.length:Int)>16)) (h2:decide ((l.length:Int)<64)=true):Fn 10 1 [qaq 0 l] [(0,0,qaf l)] (.pv (.bool true)) 0 []:=
 qeh 200 [] [.t true,.t true] tI (A2 h1 h2 tI) (by kernel_rfl)
theorem qzf {l:List Pt} (h1:Df ((l.length:Int)>16)) (h2:decide ((l.length:Int)>70)=false):Fn 10 1 [qaq 0 l] [(0,0,qaf l)] (.pv (.bool false)) 0 []:=
 qeh 200 [] [.t false,.t false] tI (A2 h1 h2 tI) (by kernel_rfl)
theorem qqI {l:List Pt} (h1:Dt ((l.length:Int)>16)) (h2:Df ((l.length:Int)<64)) (h3:decide ((l.length:Int)>70)=true):Fn 10 1 [qaq 0 l] [(0,0,qaf l)] (.pv (.bool true)) 0 []:=
 qeh 200 [] [.t true,.t false,.t true] tI (A3 h1 h2 h3 tI) (by kernel_rfl)
theorem qs7 {l:List Pt} (h1:Dt ((l.length:Int)>16)) (h2:Df ((l.length:Int)<64)) (h3:decide ((l.length:Int)>70)=false):Fn 10 1 [qaq 0 l] [(0,0,qaf l)] (.pv (.bool false)) 0 []:=
 qeh 200 [] [.t true,.t false,.t false] tI (A3 h1 h2 h3 tI) (by kernel_rfl)
theorem qCQ (l:List Pt):SV.ag [.ls 4 (0+l.length)]=(SV.ag [.ls 1 l.length]).ren (qaM [(1,4)]):=by rw[Nat.zero_add];rfl
theorem qkJ (l:List Pt):some (SV.row 137 3 (0+l.length) ([]++qbs l))=some (qaf l):=by rw[Nat.zero_add,List.nil_append]
theorem qhi (m:List Pt) (p:Pt):qbs m++[iV p.id,iV p.a,iV p.b]=qbs (m++[p]):=by rw[qb5];rfl
theorem qjJ (b:Nat) (m:List Pt) (p:Pt):some (SV.ls b (m.length+1))=some (SV.ls b (m++[p]).length):=by rw[List.length_append];rfl
theorem qf3:∀ (l:List Pt) (k:Nat),(qbs l).drop (k*3)=qbs (l.drop k)
 | l,0=>by simp
 | [],k+1=>by simp[qbs]
 | p::r,k+1=>by rw[show (k+1)*3=k*3+1+1+1 by omega,List.drop_succ_cons];exact qf3 r k
theorem qfv:∀ (l:List Pt) (k:Nat),(qbs l).take (k*3)=qbs (l.take k)
 | l,0=>by simp[qbs]
 | [],k+1=>by simp[qbs]
 | p::r,k+1=>by rw[show (k+1)*3=k*3+1+1+1 by omega,List.take_succ_cons];exact congrArg (fun z=>iV p.id::iV p.a::iV p.b::z) (qfv r k)
theorem qjE (l:List Pt) (k:Nat):((qbs l).drop ((0+0)*3)).take (k*3)=qbs (l.take k):=by rw[Nat.zero_add,qf3,qfv];rfl
theorem qjB (l:List Pt) (k:Nat):((qbs l).drop ((0+k)*3)).take ((l.length-k)*3)=qbs (l.drop k):=by rw[Nat.zero_add,qf3,qfv,List.take_of_length_le (by simp)]
theorem qhl (l:List Pt) (k:Nat) (h:k+1≤l.length):(l.take k++l.drop (k+1)).length=0+k+(l.length-(k+1)):=by simp;omega
theorem qw9 (x:Int):(!(x==x))=false:=by simp
theorem qye (l:List Pt):SV.ls 2 (0+l.length)=(SV.ls 1 l.length).ren (qaM [(1,2)]):=by rw[Nat.zero_add];rfl
abbrev yq (a:List Pt) (b:Int) (c:Pt):Prop:=Fn 265 1 [qaq 0 a,.pv (iV (b))] [(0,0,qaf a)] (.pv (.tuple #[ptV c,.bool true])) 0 []
abbrev yaa (a:List Pt):TmL:=[(0,.ls 0 a.length),(1,.pc 275 [.pp 1 0]),(7,.pv (iV (a.length:Int))),(8,.pv (iV ((0:Nat):Int)))]
end Go.Proofs.YtkckcgpmnipnaaaGreat

namespace Go.Proofs.YtkckcgpmnipnaaaGreat
set_option maxRecDepth 100000
open Go.RowKit
theorem qmS {l:List Pt} (h0:0<l.length) (hn:0+l.length≤1000000) :
 Fn 141 1 [.ls 0 l.length] [(0,0,qaf l)] (.ls 1 l.length) 1 [(1,0,qaf l)]:=
 Fx [(1,2)] [.t false]
  (qye l) (Ai (qkJ l) tI) (A2 h0 hn tI)
theorem qwz {ad:Addr} {c:Nat} :
 Fn 141 0 [.pv (.slice (some ad) 0 c)] [] (.ls 0 0) 1 [(0,0,qaf ([]:List Pt))]:=
 Fz [(0,1)] [.k]
  (qaG (qaM [(0,1)]) [(0,0,qaf ([]:List Pt))]) (Ai (Nat.zero_le _:0+0≤1000000) tI)
theorem qpT {c:Nat}:Pure Tryz.prog 141 #[.slice none 0 c] (.slice none 0 0):=
 qad (args:=[.slice none 0 c]) 200 [] (Ai rfl tI) (by kernel_rfl)
end Go.Proofs.YtkckcgpmnipnaaaGreat

namespace Go.Proofs.YtkckcgpmnipnaaaGreat
set_option maxRecDepth 100000
open Go.RowKit
variable {l:List Pt} {k:Nat} {p:Pt} {id:Int}
theorem qoX (hk:l[k]?=some p) (hin:0≤(k:Int)∧(k:Int)<(l.length:Int)) (hlt:decide ((k:Int)<(l.length:Int))=true) (he:(p.id==id)=false) (hs:iV (IntKind.i64.wrap ((k:Int)+1))=iV (((k+1:Nat):Int))) {e:Exit} {tm2:TmL} {hp2:HpL}
 (r:Rl 1 1 61 0 22 2 ([(1,.pv (iV id)),(2,.pp 1 0),(5,.pv (iV ((k+1:Nat):Int)))]) ([(1,0,.ls 0 l.length),(0,0,qaf l)]) e tm2 hp2):Rl 1 1 61 0 22 2 ([(1,.pv (iV id)),(2,.pp 1 0),(5,.pv (iV (k:Int)))]) ([(1,0,.ls 0 l.length),(0,0,qaf l)]) e tm2 hp2:=
 RunsL.next [] 300 [.t true,.r (iV p.id),.t false,Re hs]
  (Ro (A5 hlt hin (qcP hk) he hs tI)) r
theorem qDi (hk:l[k]?=some p) (hin:0≤(k:Int)∧(k:Int)<(l.length:Int)) (hlt:decide ((k:Int)<(l.length:Int))=true) (he:(p.id==id)=true):Rl 1 1 61 0 22 2 ([(1,.pv (iV id)),(2,.pp 1 0),(5,.pv (iV (k:Int)))]) ([(1,0,.ls 0 l.length),(0,0,qaf l)]) (.ret) ([(4,.pv (iV (k:Int)))]) ([]):=
 RunsL.stop [] 300 [.t true,.r (iV p.id),.t true] (fun h=>by cases h)
  (Ro (A4 hlt hin (qcP hk) he tI))
theorem qB5 (hge:decide ((k:Int)<(l.length:Int))=false):Rl 1 1 61 0 22 2 ([(1,.pv (iV id)),(2,.pp 1 0),(5,.pv (iV (k:Int)))]) ([(1,0,.ls 0 l.length),(0,0,qaf l)]) (.exit 0) ([]) ([]):=
 RunsL.stop [] 300 [.t false] (fun h=>by cases h)
  (Ro (Ai hge tI))
theorem qGb (r0:Rl 1 1 61 0 22 2 ([(1,.pv (iV id)),(2,.pp 1 0),(5,.pv (iV ((0:Nat):Int)))]) ([(1,0,.ls 0 l.length),(0,0,qaf l)]) (.exit 0) ([]) ([])) :
 Fn 61 1 [qaq 0 l,.pv (iV (id))] [(0,0,qaf l)] (.pv (iV (-1))) 0 []:=
 Fz [] [Lf r0]
  tI (Lo r0 [] tI)
theorem qC4 (r0:Rl 1 1 61 0 22 2 ([(1,.pv (iV id)),(2,.pp 1 0),(5,.pv (iV ((0:Nat):Int)))]) ([(1,0,.ls 0 l.length),(0,0,qaf l)]) (.ret) ([(4,.pv (iV (k:Int)))]) ([])) :
 Fn 61 1 [qaq 0 l,.pv (iV (id))] [(0,0,qaf l)] (.pv (iV (k:Int))) 0 []:=
 Fz [] [Lf r0]
  tI (Lo r0 [] tI)
end Go.Proofs.YtkckcgpmnipnaaaGreat

namespace Go.Proofs.YtkckcgpmnipnaaaGreat
set_option maxRecDepth 100000
open Go.RowKit
variable {l m:List Pt} {k:Nat} {p q:Pt}
theorem qn0 (hn:0+l.length≤1000000) :
 Fn 70 1 [qaq 0 l] [(0,0,qaf l)] (.ag [.ls 1 l.length]) 1 [(1,0,qaf l)]:=
 Fx [(1,4)] []
  (qCQ l) (Ai (qkJ l) tI) (Ai hn tI)
abbrev qzn (l:List Pt) (m:List Pt):HpL:=[(2,0,.ls 0 l.length),(3,0,.ls 1 m.length),(0,0,qaf l),(1,0,qaf m)]
theorem qfT (hk:l[k]?=some p) (hin:0≤(k:Int)∧(k:Int)<(l.length:Int)) (hq:m[k]?=some q) (hin2:0≤(k:Int)∧(k:Int)<(m.length:Int)) (hlt:decide ((k:Int)<(l.length:Int))=true) (hne:(!(p.id==q.id&&(p.a==q.a&&(p.b==q.b&&true))))=false) (hs:iV (IntKind.i64.wrap ((k:Int)+1))=iV (((k+1:Nat):Int))) {e:Exit} {tm2:TmL} {hp2:HpL}
 (r:Rl 2 2 41 0 31 4 ([(2,.pp 2 0),(3,.pp 3 0),(5,.pv (iV ((k+1:Nat):Int)))]) (qzn l m) e tm2 hp2):Rl 2 2 41 0 31 4 ([(2,.pp 2 0),(3,.pp 3 0),(5,.pv (iV (k:Int)))]) (qzn l m) e tm2 hp2:=
 RunsL.next [] 300 [.t true,.r (ptV p),.r (ptV q),.t false,Re hs]
  (Ro (A7 hlt hin (qaB hk) hin2 (qaB hq) hne hs tI)) r
theorem qte (hk:l[k]?=some p) (hin:Bd k l.length) (hq:m[k]?=some q) (hin2:Bd k m.length) (hlt:Dt ((k:Int)<(l.length:Int))) (hne:(!(p.id==q.id&&(p.a==q.a&&(p.b==q.b&&true))))=true):Rl 2 2 41 0 31 4 ([(2,.pp 2 0),(3,.pp 3 0),(5,.pv (iV (k:Int)))]) (qzn l m) (.ret) ([(4,.pv (.bool false))]) ([]):=
 RunsL.stop [] 300 [.t true,.r (ptV p),.r (ptV q),.t true] (fun h=>by cases h)
  (Ro (A6 hlt hin (qaB hk) hin2 (qaB hq) hne tI))
theorem qlt (hge:decide ((k:Int)<(l.length:Int))=false):Rl 2 2 41 0 31 4 ([(2,.pp 2 0),(3,.pp 3 0),(5,.pv (iV (k:Int)))]) (qzn l m) (.exit 0) ([]) ([]):=
 RunsL.stop [] 300 [.t false] (fun h=>by cases h)
  (Ro (Ai hge tI))
theorem qqu (hl:(!((l.length:Int)==(m.length:Int)))=true) :
 Fn 41 2 [qaq 0 l,qaq 1 m] [(0,0,qaf l),(1,0,qaf m)] (.pv (.bool false)) 0 []:=
 Fz [] [.t true]
  tI (Ai hl tI)
theorem qwr (hl:(!((l.length:Int)==(m.length:Int)))=false) (r0:Rl 2 2 41 0 31 4 (yt) (qzn l m) (.ret) ([(4,.pv (.bool false))]) ([])) :
 Fn 41 2 [qaq 0 l,qaq 1 m] [(0,0,qaf l),(1,0,qaf m)] (.pv (.bool false)) 0 []:=
 Fz [] [.t false,Lf r0]
  tI (Ai hl (Lo r0 [] tI))
theorem qkK (hl:(!((l.length:Int)==(m.length:Int)))=false) (r0:Rl 2 2 41 0 31 4 ([(2,.pp 2 0),(3,.pp 3 0),(5,.pv (iV ((0:Nat):Int)))]) (qzn l m) (.exit 0) ([]) ([])) :
 Fn 41 2 [qaq 0 l,qaq 1 m] [(0,0,qaf l),(1,0,qaf m)] (.pv (.bool true)) 0 []:=
 Fz [] [.t false,Lf r0]
  tI (Ai hl (Lo r0 [] tI))
end Go.Proofs.YtkckcgpmnipnaaaGreat

namespace Go.Proofs.YtkckcgpmnipnaaaGreat
set_option maxRecDepth 100000
open Go.RowKit
variable {l:List Pt} {k:Nat} {p q:Pt}
theorem qkm (hk:l[k]?=some p) (hin:Bd k l.length) (hlt:Dt ((k:Int)<(l.length:Int))) (hc:Pure Tryz.prog 86 #[qac p.id p.a p.b] (iV (0))) (hs:iV (IntKind.i64.wrap ((k:Int)+1))=iV (((k+1:Nat):Int))) {e:Exit} {tm2:TmL} {hp2:HpL}
 (r:Rl 1 1 38 0 44 2 ([(1,.pp 1 0),(3,.pv (iV ((k+1:Nat):Int)))]) ([(1,0,.ls 0 l.length),(0,0,qaf l)]) e tm2 hp2):Rl 1 1 38 0 44 2 ([(1,.pp 1 0),(3,.pv (iV (k:Int)))]) ([(1,0,.ls 0 l.length),(0,0,qaf l)]) e tm2 hp2:=
 RunsL.next [] 300 [.t true,.r (ptV p),Rf hc,.k,Re hs]
  (Ro (A5 hlt hin (qaB hk) hc hs tI)) r
theorem qyh (hk:l[k]?=some p) (hin:Bd k l.length) (hlt:Dt ((k:Int)<(l.length:Int))) (hc:Pure Tryz.prog 86 #[qac p.id p.a p.b] (iV (8))):Rl 1 1 38 0 44 2 ([(1,.pp 1 0),(3,.pv (iV (k:Int)))]) ([(1,0,.ls 0 l.length),(0,0,qaf l)]) (.ret) ([(2,.pv (iV 8))]) ([]):=
 RunsL.stop [] 300 [.t true,.r (ptV p),Rf hc,.k] (fun h=>by cases h)
  (Ro (A4 hlt hin (qaB hk) hc tI))
theorem qxH (hge:decide ((k:Int)<(l.length:Int))=false):Rl 1 1 38 0 44 2 ([(1,.pp 1 0),(3,.pv (iV (k:Int)))]) ([(1,0,.ls 0 l.length),(0,0,qaf l)]) (.exit 0) ([(1,.pp 1 0)]) ([(1,0,.ls 0 l.length),(0,0,qaf l)]):=
 RunsL.stop [] 300 [.t false] (fun h=>by cases h)
  (Ro (Ai hge tI))
theorem qkM (hq:l[k]?=some q) (hk:l[k+1]?=some p) (hi0:Bd k l.length) (hi1:0≤((k+1:Nat):Int)∧((k+1:Nat):Int)<(l.length:Int)) (hlt:Dt (((k+1:Nat):Int)<(l.length:Int))) (hm:iV (IntKind.i64.wrap (((k+1:Nat):Int)-1))=iV (k:Int)) (hg:Df (q.id≥p.id)) (hs:iV (IntKind.i64.wrap (((k+1:Nat):Int)+1))=iV (((k+1+1:Nat):Int))) {e:Exit} {tm2:TmL} {hp2:HpL}
 (r:Rl 1 1 38 1 44 2 ([(1,.pp 1 0),(4,.pv (iV ((k+1+1:Nat):Int)))]) ([(1,0,.ls 0 l.length),(0,0,qaf l)]) e tm2 hp2):Rl 1 1 38 1 44 2 ([(1,.pp 1 0),(4,.pv (iV ((k+1:Nat):Int)))]) ([(1,0,.ls 0 l.length),(0,0,qaf l)]) e tm2 hp2:=
 RunsL.next [] 300 [.t true,.r (iV (k:Int)),.r (iV q.id),.r (iV p.id),.t false,.r (iV (((k+1+1:Nat):Int)))]
  (Ro (A8 hlt hm hi0 (qcP hq) hi1 (qcP hk) hg hs tI)) r
theorem qze (hq:l[k]?=some q) (hk:l[k+1]?=some p) (hi0:Bd k l.length) (hi1:0≤((k+1:Nat):Int)∧((k+1:Nat):Int)<(l.length:Int)) (hlt:Dt (((k+1:Nat):Int)<(l.length:Int))) (hm:iV (IntKind.i64.wrap (((k+1:Nat):Int)-1))=iV (k:Int)) (hg:decide (q.id≥p.id)=true):Rl 1 1 38 1 44 2 ([(1,.pp 1 0),(4,.pv (iV ((k+1:Nat):Int)))]) ([(1,0,.ls 0 l.length),(0,0,qaf l)]) (.ret) ([(2,.pv (iV 32))]) ([]):=
 RunsL.stop [] 300 [.t true,.r (iV (k:Int)),.r (iV q.id),.r (iV p.id),.t true] (fun h=>by cases h)
  (Ro (A7 hlt hm hi0 (qcP hq) hi1 (qcP hk) hg tI))
theorem qoS (hge:decide (((k:Nat):Int)<(l.length:Int))=false):Rl 1 1 38 1 44 2 ([(1,.pp 1 0),(4,.pv (iV ((k:Nat):Int)))]) ([(1,0,.ls 0 l.length),(0,0,qaf l)]) (.exit 2) ([]) ([]):=
 RunsL.stop [] 300 [.t false] (fun h=>by cases h)
  (Ro (Ai hge tI))
theorem qwH (h64:Dt ((l.length:Int)>64)) :
 Fn 38 1 [qaq 0 l] [(0,0,qaf l)] (.pv (iV 4)) 0 []:=
 Fz [] [.t true]
  tI (Ai h64 tI)
theorem qDD (h64:Df ((l.length:Int)>64)) (r0:Rl 1 1 38 0 44 2 ([(1,.pp 1 0),(3,.pv (iV (((0:Nat):Int):Int)))]) ([(1,0,.ls 0 l.length),(0,0,qaf l)]) (.ret) ([(2,.pv (iV 8))]) ([])) :
 Fn 38 1 [qaq 0 l] [(0,0,qaf l)] (.pv (iV 8)) 0 []:=
 Fz [] [.t false,Lf r0]
  tI (Ai h64 (Lo r0 [] tI))
abbrev qJg (l:List Pt):Prop:=Rl 1 1 38 0 44 2 ([(1,.pp 1 0),(3,.pv (iV (((0:Nat):Int):Int)))]) ([(1,0,.ls 0 l.length),(0,0,qaf l)]) (.exit 0) ([(1,.pp 1 0)]) ([(1,0,.ls 0 l.length),(0,0,qaf l)])
theorem qz4 (h64:Df ((l.length:Int)>64)) (r0:qJg l) (r1:Rl 1 1 38 1 44 2 ([(1,.pp 1 0),(4,.pv (iV (((0+1:Nat):Int):Int)))]) ([(1,0,.ls 0 l.length),(0,0,qaf l)]) (.ret) ([(2,.pv (iV 32))]) ([])) :
 Fn 38 1 [qaq 0 l] [(0,0,qaf l)] (.pv (iV 32)) 0 []:=
 Fz [] [.t false,Lf r0,Lf r1]
  tI (Ai h64 (Lo r0 [] (Lo r1 [] tI)))
theorem qHX (h64:Df ((l.length:Int)>64)) (r0:qJg l) (r1:Rl 1 1 38 1 44 2 ([(1,.pp 1 0),(4,.pv (iV (((0+1:Nat):Int):Int)))]) ([(1,0,.ls 0 l.length),(0,0,qaf l)]) (.exit 2) ([]) ([])) :
 Fn 38 1 [qaq 0 l] [(0,0,qaf l)] (.pv (iV 0)) 0 []:=
 Fz [] [.t false,Lf r0,Lf r1]
  tI (Ai h64 (Lo r0 [] (Lo r1 [] tI)))
end Go.Proofs.YtkckcgpmnipnaaaGreat
