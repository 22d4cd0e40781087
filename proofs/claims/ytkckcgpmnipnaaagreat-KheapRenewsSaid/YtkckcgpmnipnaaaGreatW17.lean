/-
  Joined: Q, Rv, T, Cp, Num, Con, Sm, Cr, Za. Conditions: none.
-/
import Derived.Test.YtkckcgpmnipnaaaGreatSxJ
import Derived.Test.YtkckcgpmnipnaaaGreatW3
import Derived.Test.YtkckcgpmnipnaaaGreatW16
import Derived.Laws.Bits64b
import Derived.Test.YtkckcgpmnipnaaaGreatW2
import Derived.Test.YtkckcgpmnipnaaaGreatProg
namespace Go.Proofs.YtkckcgpmnipnaaaGreat
set_option maxRecDepth 100000
open Go.RowKit
theorem qad {P:Program} (n:Nat) {f:FuncId} {args:List Value} (ch:List Ch) {v:Value} {T:Prop} (ht:v=v∧T) (e:qEl v (qEQ P n f args ch)=(v=v∧T)):Pure P f args.toArray v:=qoI n ch (e▸ht)
abbrev qab (n d:Int):Value:=.agg #[iV n,iV d]
abbrev qr2 (x:Int):Value:=.agg #[.int .u64 (wHi x),.int .u64 (wLo x)]
theorem qnV {a b c d:Int} (h0 : -9223372036854775807≤a) (h1:a≤9223372036854775807) (h2 : -9223372036854775807≤b) (h3:b≤9223372036854775807)
 (h4 : -9223372036854775807≤c) (h5:c≤9223372036854775807) (h6 : -9223372036854775807≤d) (h7:d≤9223372036854775807):qep (a*b+c*d):=by
 have h:(a*b).natAbs≤9223372036854775807*9223372036854775807:=by rw[Int.natAbs_mul];exact Nat.mul_le_mul (by omega) (by omega)
 have g:(c*d).natAbs≤9223372036854775807*9223372036854775807:=by rw[Int.natAbs_mul];exact Nat.mul_le_mul (by omega) (by omega)
 unfold qep;generalize a*b=p at *;generalize c*d=q at *;omega
end Go.Proofs.YtkckcgpmnipnaaaGreat

namespace Go.Proofs.YtkckcgpmnipnaaaGreat
set_option maxRecDepth 100000
open Go.RowKit
abbrev qaz (s:Bool) (hi lo:Int):Value:=.agg #[.bool s,.int .u64 hi,.int .u64 lo]
theorem qhA {x y:Int} (h:x=y) (h0:0≤y) (h1:y<18446744073709551616):Value.int .u64 (IntKind.u64.wrap x)=.int .u64 y:=by rw[h,qef h0 h1]
abbrev qjc (s:Bool) (A:Nat):Value:=qaz s ((A/18446744073709551616:Nat):Int) ((A%18446744073709551616:Nat):Int)
end Go.Proofs.YtkckcgpmnipnaaaGreat

namespace Go.Proofs.YtkckcgpmnipnaaaGreat
set_option maxRecDepth 100000
open Go.RowKit
theorem qwZ {a b c d:Int} (ha:I64 a) (hb:I64 b) (hc:I64 c) (hd:I64 d) (h1:okB a b=true) (h2:okB c d=true):Pure Tryz.prog 234 #[qab a b,qab c d] (.int .i64 0):=
 fun w=>qjv h1 h2▸qhz a b c d w ha hb hc hd
set_option maxRecDepth 100000
theorem qyp {a b c d:Int} (ha:I64 a) (hb:I64 b) (hc:I64 c) (hd:I64 d) (h1:okB a b=true) (h2:okB c d=true) :
 Pure Tryz.prog 190 #[qab a b,qab c d] (.tuple #[.int .i64 (a*d-c*b).sign,.int .i64 0]):=by
 have b1:=qer h1;have d1:=qer h2;have a1:=qpG h1;have c1:=qpG h2;have hB:=qwZ ha hb hc hd h1 h2;unfold I64 at ha hb hc hd;have e:a*d + -(c*b)=a*d-c*b:=rfl
 have f:qep (a*d-c*b):=by
  have:=qnV (a:=a) (b:=d) (c:=-c) (d:=b) (by omega) (by omega) (by omega) (by omega) (by omega) (by omega) (by omega) (by omega);rw[Int.neg_mul] at this;exact this
 exact qad (args:=[qab a b,qab c d]) 100 [.r (.int .i64 0),.k,.r (qr2 (a*d)),.r (qr2 (c*b)),.r (qr2 (-(c*b))),.r (qr2 (a*d-c*b)),.r (.int .i64 (a*d-c*b).sign)]
  (Ai rfl (Ai hB (Ai ((fun w=>qfG a d w (by omega) (by omega) (by omega) (by omega):Pure _ _ _ _)) (Ai ((fun w=>qfG c b w (by omega) (by omega) (by omega) (by omega):Pure _ _ _ _)) (Ai ((fun w=>qf7 (c*b) w:Pure _ _ _ _)) (Ai ((fun w=>e▸qqn (a*d) (-(c*b)) w:Pure _ _ _ _)) (Ai (fun w=>qqC _ w f:Pure _ _ _ _) tI))))))) (by kernel_rfl)
end Go.Proofs.YtkckcgpmnipnaaaGreat

namespace Go.Proofs.YtkckcgpmnipnaaaGreat
set_option maxRecDepth 100000
open Go.RowKit
variable {pi pa pb qi qa qb:Int}
abbrev qac (n a b:Int):Value:=.agg #[iV n,iV a,iV b]
theorem qIo (i0:Dt (pi<0)) :
 Pure Tryz.prog 137 #[qac pi pa pb] (iV 8):=
 qad (args:=[qac pi pa pb]) 200 [.t true]
  (A2 rfl i0 tI) (by kernel_rfl)
theorem qFe (i0:Df (pi<0)) (i1:decide (pi>65535)=true) :
 Pure Tryz.prog 137 #[qac pi pa pb] (iV 8):=
 qad (args:=[qac pi pa pb]) 200 [.t false,.t true]
  (A3 rfl i0 i1 tI) (by kernel_rfl)
theorem qHu (i0:Df (pi<0)) (i1:Df (pi>65535)) (la:Df (-1048576≤pa)) :
 Pure Tryz.prog 137 #[qac pi pa pb] (iV 8):=
 qad (args:=[qac pi pa pb]) 200 [.t false,.t false,.k,.t false,.k]
  (A4 rfl i0 i1 la tI) (by kernel_rfl)
theorem qFf (i0:Df (pi<0)) (i1:Df (pi>65535)) (la:decide (-1048576≤pa)=true) (ha:decide (pa≤1048576)=false) :
 Pure Tryz.prog 137 #[qac pi pa pb] (iV 8):=
 qad (args:=[qac pi pa pb]) 200 [.t false,.t false,.k,.t true,.t false,.k]
  (A5 rfl i0 i1 la ha tI) (by kernel_rfl)
theorem qIC (i0:Df (pi<0)) (i1:Df (pi>65535)) (la:decide (-1048576≤pa)=true) (ha:Dt (pa≤1048576)) (lb:decide (-1048576≤pb)=false) :
 Pure Tryz.prog 137 #[qac pi pa pb] (iV 8):=
 qad (args:=[qac pi pa pb]) 200 [.t false,.t false,.k,.t true,.t true,.k,.k,.t false,.k]
  (A6 rfl i0 i1 la ha lb tI) (by kernel_rfl)
theorem qGn (i0:Df (pi<0)) (i1:Df (pi>65535)) (la:decide (-1048576≤pa)=true) (ha:Dt (pa≤1048576)) (lb:Dt (-1048576≤pb)) (hb:decide (pb≤1048576)=false) :
 Pure Tryz.prog 137 #[qac pi pa pb] (iV 8):=
 qad (args:=[qac pi pa pb]) 200 [.t false,.t false,.k,.t true,.t true,.k,.k,.t true,.t false,.k]
  (A7 rfl i0 i1 la ha lb hb tI) (by kernel_rfl)
theorem qG6 (i0:Df (pi<0)) (i1:Df (pi>65535)) (la:decide (-1048576≤pa)=true) (ha:Dt (pa≤1048576)) (lb:Dt (-1048576≤pb)) (hb:Dt (pb≤1048576)) :
 Pure Tryz.prog 137 #[qac pi pa pb] (iV 0):=
 qad (args:=[qac pi pa pb]) 200 [.t false,.t false,.k,.t true,.t true,.k,.k,.t true,.t true,.k]
  (A7 rfl i0 i1 la ha lb hb tI) (by kernel_rfl)
theorem qGY (i0:Dt (pi<0)) :
 Pure Tryz.prog 86 #[qac pi pa pb] (iV 8):=
 qad (args:=[qac pi pa pb]) 200 [.t true]
  (A2 rfl i0 tI) (by kernel_rfl)
theorem qHr (i0:Df (pi<0)) (i1:decide (pi>65535)=true) :
 Pure Tryz.prog 86 #[qac pi pa pb] (iV 8):=
 qad (args:=[qac pi pa pb]) 200 [.t false,.t true]
  (A3 rfl i0 i1 tI) (by kernel_rfl)
theorem qFA (i0:Df (pi<0)) (i1:Df (pi>65535)) (la:decide (pa < -1048576)=true) :
 Pure Tryz.prog 86 #[qac pi pa pb] (iV 8):=
 qad (args:=[qac pi pa pb]) 200 [.t false,.t false,.t true]
  (A4 rfl i0 i1 la tI) (by kernel_rfl)
theorem qGV (i0:Df (pi<0)) (i1:Df (pi>65535)) (la:Df (pa < -1048576)) (ha:decide (pa>1048576)=true) :
 Pure Tryz.prog 86 #[qac pi pa pb] (iV 8):=
 qad (args:=[qac pi pa pb]) 200 [.t false,.t false,.t false,.t true]
  (A5 rfl i0 i1 la ha tI) (by kernel_rfl)
theorem qGS (i0:Df (pi<0)) (i1:Df (pi>65535)) (la:Df (pa < -1048576)) (ha:Df (pa>1048576)) (lb:decide (pb < -1048576)=true) :
 Pure Tryz.prog 86 #[qac pi pa pb] (iV 8):=
 qad (args:=[qac pi pa pb]) 200 [.t false,.t false,.t false,.t false,.t true]
  (A6 rfl i0 i1 la ha lb tI) (by kernel_rfl)
theorem qGk (i0:Df (pi<0)) (i1:Df (pi>65535)) (la:Df (pa < -1048576)) (ha:Df (pa>1048576)) (lb:Df (pb < -1048576)) (hb:decide (pb>1048576)=true) :
 Pure Tryz.prog 86 #[qac pi pa pb] (iV 8):=
 qad (args:=[qac pi pa pb]) 200 [.t false,.t false,.t false,.t false,.t false,.t true]
  (A7 rfl i0 i1 la ha lb hb tI) (by kernel_rfl)
theorem qzV (i0:Df (pi<0)) (i1:Df (pi>65535)) (la:Df (pa < -1048576)) (ha:Df (pa>1048576)) (lb:Df (pb < -1048576)) (hb:Df (pb>1048576)) :
 Pure Tryz.prog 86 #[qac pi pa pb] (iV 0):=
 qad (args:=[qac pi pa pb]) 200 [.t false,.t false,.t false,.t false,.t false,.t false]
  (A7 rfl i0 i1 la ha lb hb tI) (by kernel_rfl)
theorem qij {x y m n:Int} (v1:iV (IntKind.i64.wrap (qa-pa))=iV x) (v2:iV (IntKind.i64.wrap (pb-qb))=iV y) (c1:Pure Tryz.prog 303 #[iV x,iV y] (.tuple #[qab m n,iV 0])) :
 Pure Tryz.prog 248 #[qac pi pa pb,qac qi qa qb] (qab m n):=
 qad (args:=[qac pi pa pb,qac qi qa qb]) 200 [Re v1,Re v2,Rf c1]
  (A4 rfl v1 v2 c1 tI) (by kernel_rfl)
theorem qFi (ij:(pi==qi)=false) :
 Pure Tryz.prog 204 #[qac pi pa pb,qac qi qa qb] (iV 0):=
 qad (args:=[qac pi pa pb,qac qi qa qb]) 200 [.t false]
  (A2 rfl ij tI) (by kernel_rfl)
end Go.Proofs.YtkckcgpmnipnaaaGreat

namespace Go.Proofs.YtkckcgpmnipnaaaGreat
set_option maxRecDepth 100000
def IsRes (p q N D E:Int):Prop:=
 (E=0∧okB N D=true∧I64 N∧I64 D∧N*q=p*D)∨(E=16∧N=0∧D=0∧∀ n d,okB n d=true→I64 n→I64 d→n*q≠p*d)
theorem qdp {T U n d:Int} (hU:0<U) (hd:0<d) (h1:Nat.gcd T.natAbs U.natAbs=1) (h2:Nat.gcd n.natAbs d.natAbs=1) (h:T*d=n*U):T=n∧U=d:=by
 have e:T.natAbs*d.natAbs=n.natAbs*U.natAbs:=by rw[← Int.natAbs_mul,← Int.natAbs_mul,h]
 have a1:U.natAbs ∣ d.natAbs:=Nat.Coprime.dvd_of_dvd_mul_left (show Nat.Coprime U.natAbs T.natAbs by rw[Nat.coprime_comm];exact h1) ⟨n.natAbs,by rw[e,Nat.mul_comm]⟩;have a2:d.natAbs ∣ U.natAbs:=Nat.Coprime.dvd_of_dvd_mul_left (show Nat.Coprime d.natAbs n.natAbs by rw[Nat.coprime_comm];exact h2) ⟨T.natAbs,by rw[← e,Nat.mul_comm]⟩;have a3:=Nat.dvd_antisymm a1 a2
 have hUd:U=d:=by omega
 subst hUd;exact⟨Int.eq_of_mul_eq_mul_right (by omega) h,rfl⟩
theorem qej {n d:Int}:okB n d=true↔1≤d∧n≠-9223372036854775808∧Nat.gcd n.natAbs d.natAbs=1:=by simp[okB]
theorem qkg {n d n' d':Int} (h1:okB n d=true) (h2:okB n' d'=true) (h:n*d'=n'*d):n=n'∧d=d':=by
 obtain⟨a1,_,a2⟩:=qej.1 h1;obtain⟨b1,_,b2⟩:=qej.1 h2;exact qdp (by omega) (by omega) a2 b2 h
theorem qes (T:Int) (h:qbr T.natAbs=true):sgV T.natAbs (decide (T<0))=T:=by
 have h':T.natAbs<9223372036854775808:=by simpa [qbr] using h
 unfold sgV;rw[if_pos h'];by_cases ht:T<0
 ·simp[ht];omega
 ·simp[ht];omega
theorem qkp {p q T U:Int} (hq:q≠0) (hU:0<U) (hg:Nat.gcd T.natAbs U.natAbs=1) (h:T*q=p*U) :
 IsRes p q (qeH (qbr T.natAbs&&qbr U.natAbs) (sgV T.natAbs (decide (T<0)))) (qeH (qbr T.natAbs&&qbr U.natAbs) (sgV U.natAbs (decide (U<0)))) (qnk (qbr T.natAbs&&qbr U.natAbs)):=by
 cases hf:(qbr T.natAbs&&qbr U.natAbs)
 ·refine Or.inr ⟨rfl,rfl,rfl,fun n d hk hn hd he=>?_⟩;obtain⟨a1,a2,a3⟩:=qej.1 hk
  have e:T*d=n*U:=by
   refine Int.eq_of_mul_eq_mul_right hq ?_;rw[Int.mul_right_comm,h,Int.mul_right_comm n U q,he,Int.mul_right_comm]
  obtain⟨rfl,rfl⟩:=qdp hU (by omega) hg a3 e;unfold I64 at hn hd
  have:(qbr T.natAbs&&qbr U.natAbs)=true:=by simp[qbr];omega
  rw[hf] at this;cases this
 ·simp only[Bool.and_eq_true] at hf
  have h1:T.natAbs<9223372036854775808:=by simpa [qbr] using hf.1
  have h2:U.natAbs<9223372036854775808:=by simpa [qbr] using hf.2
  refine Or.inl ⟨rfl,?_,?_,?_,?_⟩
  ·simp only[qeH,if_true,qes T hf.1,qes U hf.2];exact qej.2 ⟨by omega,by omega,hg⟩
  ·simp only[qeH,if_true,qes T hf.1];unfold I64;omega
  ·simp only[qeH,if_true,qes U hf.2];unfold I64;omega
  ·simp only[qeH,if_true,qes T hf.1,qes U hf.2];exact h
theorem qDW {a b:Int} (hb:b≠0):IsRes a b (mkN a b) (mkD a b) (mkE a b):=by
 obtain⟨g,hg⟩:∃ g:Nat,g=Nat.gcd a.natAbs b.natAbs:=⟨_,rfl⟩;have g0:0<g:=hg▸Nat.gcd_pos_of_pos_right _ (by omega)
 have eA:mkQ a b*g=a.natAbs:=by unfold mkQ;rw[hg];exact Nat.div_mul_cancel (Nat.gcd_dvd_left _ _)
 have eB:mkP a b*g=b.natAbs:=by unfold mkP;rw[hg];exact Nat.div_mul_cancel (Nat.gcd_dvd_right _ _)
 have cop:Nat.gcd (mkQ a b) (mkP a b)=1:=by unfold mkQ mkP;exact Nat.coprime_div_gcd_div_gcd (hg▸g0)
 have hp0:0<mkP a b:=by
  rcases Nat.eq_zero_or_pos (mkP a b) with h | h
  ·rw[h] at eB;omega
  ·exact h
 obtain⟨Q,hQ⟩:∃ Q:Int,Q=if mkS a b then -(mkQ a b:Int) else mkQ a b:=⟨_,rfl⟩
 have nQ:Q.natAbs=mkQ a b:=by rw[hQ];split<;>omega
 have heq:Q*b=a*(mkP a b:Nat):=by
  have eA':((mkQ a b:Nat):Int)*(g:Int)=(a.natAbs:Int):=by rw[← Int.natCast_mul,eA]
  have eB':((mkP a b:Nat):Int)*(g:Int)=(b.natAbs:Int):=by rw[← Int.natCast_mul,eB]
  refine Int.eq_of_mul_eq_mul_right (show (g:Int)≠0 by omega) ?_;rw[Int.mul_right_comm,Int.mul_assoc a,eB',hQ];unfold mkS
  by_cases ha:a<0<;>by_cases hb':b<0<;>simp[ha,hb',Int.neg_mul,eA']
  ·rw[show (a.natAbs:Int) = -a by omega,show (b.natAbs:Int) = -b by omega,Int.neg_mul,Int.mul_neg]
  ·rw[show (a.natAbs:Int) = -a by omega,show (b.natAbs:Int)=b by omega,Int.neg_mul,Int.neg_neg]
  ·rw[show (a.natAbs:Int)=a by omega,show (b.natAbs:Int) = -b by omega,Int.mul_neg]
  ·rw[show (a.natAbs:Int)=a by omega,show (b.natAbs:Int)=b by omega]
 have fin:=qkp (p:=a) (q:=b) (T:=Q) (U:=(mkP a b:Nat)) hb (by omega) (by rw[nQ];exact cop) heq
 have u1:mkN a b=qeH (qbr Q.natAbs&&qbr ((mkP a b:Nat):Int).natAbs) (sgV Q.natAbs (decide (Q<0))):=by
  unfold mkN mkF;rw[if_neg hb,nQ,show ((mkP a b:Nat):Int).natAbs=mkP a b from rfl]
  have:sgV (mkQ a b) (mkS a b)=sgV (mkQ a b) (decide (Q<0)):=by
   unfold sgV;split
   ·cases hs:mkS a b
    ·rw[hs] at hQ
     have hQ':Q=mkQ a b:=by simpa using hQ
     have:decide (Q<0)=false:=by simp;omega
     rw[this]
    ·rw[hs] at hQ
     have hQ':Q = -(mkQ a b:Int):=by simpa using hQ
     by_cases h0:mkQ a b=0
     ·rw[h0];simp
     ·have:decide (Q<0)=true:=by simp;omega
      rw[this]
   ·rfl
  rw[this]
 have u2:mkD a b=qeH (qbr Q.natAbs&&qbr ((mkP a b:Nat):Int).natAbs) (sgV ((mkP a b:Nat):Int).natAbs (decide (((mkP a b:Nat):Int)<0))):=by
  unfold mkD mkF;rw[if_neg hb,nQ,show ((mkP a b:Nat):Int).natAbs=mkP a b from rfl,show decide (((mkP a b:Nat):Int)<0)=false by simp]
 have u3:mkE a b=qnk (qbr Q.natAbs&&qbr ((mkP a b:Nat):Int).natAbs):=by
  unfold mkE mkF;rw[if_neg hb,nQ,show ((mkP a b:Nat):Int).natAbs=mkP a b from rfl]
 rw[u1,u2,u3];exact fin
end Go.Proofs.YtkckcgpmnipnaaaGreat

namespace Go.Proofs.YtkckcgpmnipnaaaGreat
set_option maxRecDepth 100000
open Go.RowKit
theorem IsRes.one {p q N D E n d:Int} (h:IsRes p q N D E) (hq:q≠0) (hk:okB n d=true) (hn:I64 n) (hd:I64 d) (he:n*q=p*d):N=n∧D=d∧E=0:=by
 rcases h with ⟨h1,h2,_,_,h5⟩ | ⟨_,_,_,h4⟩
 ·have:N*d=n*D:=by
   refine Int.eq_of_mul_eq_mul_right hq ?_;rw[Int.mul_right_comm,h5,Int.mul_right_comm n D q,he,Int.mul_right_comm]
  obtain⟨a1,a2⟩:=qkg h2 hk this;exact⟨a1,a2,h1⟩
 ·exact absurd he (h4 n d hk hn hd)
theorem qcG {n d:Int} (hn:I64 n) (hd:I64 d) (h:okB n d=true):Pure Tryz.prog 101 #[qab n d] (.int .i64 0):=fun w=>qpA h▸qc4 n d w hn.1 hn.2 hd.1 hd.2
theorem qi0 {n d:Int} (hn:I64 n) (hd:I64 d) (h:¬ okB n d=true):Pure Tryz.prog 101 #[qab n d] (.int .i64 8):=fun w=>qjp h▸qc4 n d w hn.1 hn.2 hd.1 hd.2
theorem qin {n d:Int} (hn:I64 n) (hd:I64 d) (h:okB n d=true):Pure Tryz.prog 45 #[qab n d] (.int .i64 0):=fun w=>qpA h▸qfU n d w hn.1 hn.2 hd.1 hd.2
theorem qgF {n d:Int} (hn:I64 n) (hd:I64 d) (h:¬ okB n d=true):Pure Tryz.prog 45 #[qab n d] (.int .i64 8):=fun w=>qjp h▸qfU n d w hn.1 hn.2 hd.1 hd.2
theorem qrP {a b:Int} (ha:I64 a) (hb:I64 b) (h0:b≠0):∃ N D E,IsRes a b N D E∧Pure Tryz.prog 303 #[iV a,iV b] (.tuple #[qab N D,iV E]):=
 ⟨_,_,_,qDW h0,fun w=>qlE a b w ha hb⟩
theorem qul {a b c d:Int} (ha:I64 a) (hb:I64 b) (hc:I64 c) (hd:I64 d) (h1:okB a b=true) (h2:okB c d=true) :
 Pure Tryz.prog 190 #[qab a b,qab c d] (.tuple #[iV (a*d-c*b).sign,iV 0]):=qyp ha hb hc hd h1 h2
end Go.Proofs.YtkckcgpmnipnaaaGreat

namespace Go.Proofs.YtkckcgpmnipnaaaGreat
set_option maxRecDepth 100000
open Go.RowKit
set_option maxRecDepth 100000
theorem IsRes.fits {p q N D E:Int} (h:IsRes p q N D E) (hq:0<q) (q1:q≤9223372036854775807) (p0 : -9223372036854775807≤p) (p1:p≤9223372036854775807) :
 E=0∧okB N D=true∧I64 N∧I64 D∧N*q=p*D:=by
 rcases h with h | ⟨_,_,_,h4⟩
 ·exact h
 ·exfalso;obtain⟨g,hg⟩:∃ g:Nat,g=Nat.gcd p.natAbs q.natAbs:=⟨_,rfl⟩;have g0:0<g:=hg▸Nat.gcd_pos_of_pos_right _ (by omega);have e1:p.tdiv g*g=p:=Int.tdiv_mul_cancel (Int.ofNat_dvd_left.2 (hg▸Nat.gcd_dvd_left _ _));have e2:q.tdiv g*g=q:=Int.tdiv_mul_cancel (Int.ofNat_dvd_left.2 (hg▸Nat.gcd_dvd_right _ _))
  have n1:(p.tdiv g).natAbs=p.natAbs/g:=by rw[Int.natAbs_tdiv];rfl
  have n2:(q.tdiv g).natAbs=q.natAbs/g:=by rw[Int.natAbs_tdiv];rfl
  have b1:p.natAbs/g≤p.natAbs:=Nat.div_le_self _ _;have b2:q.natAbs/g≤q.natAbs:=Nat.div_le_self _ _
  have cop:Nat.gcd (p.tdiv g).natAbs (q.tdiv g).natAbs=1:=by
   have g0':=g0;rw[hg] at g0';rw[n1,n2,hg];exact Nat.coprime_div_gcd_div_gcd g0'
  generalize p.tdiv (g:Int)=P at *;generalize q.tdiv (g:Int)=Q at *
  have hQ:0<Q:=by
   rcases Int.lt_trichotomy Q 0 with h' | h' | h'
   ·have:=Int.mul_neg_of_neg_of_pos h' (show (0:Int)<g by omega);omega
   ·subst h';omega
   ·exact h'
  refine h4 P Q (qej.2 ⟨by omega,by omega,cop⟩) (by unfold I64;omega) (by unfold I64;omega) ?_;rw[← e1,← e2]
  ac_rfl
theorem IsRes.congr {p q p' q' N D E:Int} (h:IsRes p q N D E) (hq:q≠0) (hq':q'≠0) (e:p*q'=p'*q):IsRes p' q' N D E:=by
 have key:∀ n d:Int,n*q=p*d↔n*q'=p'*d:=by
  intro n d;constructor
  ·intro h;refine Int.eq_of_mul_eq_mul_right hq ?_
   grind
  ·intro h;refine Int.eq_of_mul_eq_mul_right hq' ?_
   grind
 rcases h with ⟨h1,h2,h3,h4,h5⟩ | ⟨h1,h2,h3,h4⟩
 ·exact Or.inl ⟨h1,h2,h3,h4,(key _ _).1 h5⟩
 ·exact Or.inr ⟨h1,h2,h3,fun n d a1 a2 a3 a4=>h4 n d a1 a2 a3 ((key _ _).2 a4)⟩
end Go.Proofs.YtkckcgpmnipnaaaGreat

namespace Go.Proofs.YtkckcgpmnipnaaaGreat
set_option maxRecDepth 100000
open Go.RowKit
def okP (n a b:Int):Bool:=decide (0≤n∧n≤65535∧-1048576≤a∧a≤1048576∧-1048576≤b∧b≤1048576)
theorem qcp {n a b:Int}:okP n a b=true↔0≤n∧n≤65535∧-1048576≤a∧a≤1048576∧-1048576≤b∧b≤1048576:=by simp[okP]
theorem dt {p:Prop} [Decidable p] (h:p):decide p=true:=by simp[h]
theorem df {p:Prop} [Decidable p] (h:¬ p):decide p=false:=by simp[h]
theorem qc7 {n a b:Int} (h:okP n a b=true):Pure Tryz.prog 137 #[qac n a b] (iV 0):=by
 have h':=qcp.1 h;exact qG6 (df (by omega)) (df (by omega)) (dt (by omega)) (dt (by omega)) (dt (by omega)) (dt (by omega))
theorem qfx {n a b:Int} (h:okP n a b=true):Pure Tryz.prog 86 #[qac n a b] (iV 0):=by
 have h':=qcp.1 h;exact qzV (df (by omega)) (df (by omega)) (df (by omega)) (df (by omega)) (df (by omega)) (df (by omega))
theorem qjz {n a b:Int} (h:¬ okP n a b=true):Pure Tryz.prog 137 #[qac n a b] (iV 8):=by
 rw[qcp] at h;by_cases h1:n<0
 ·exact qIo (dt h1)
 by_cases h2:n>65535
 ·exact qFe (df h1) (dt h2)
 by_cases h3 : -1048576≤a
 ·by_cases h4:a≤1048576
  ·by_cases h5 : -1048576≤b
   ·exact qGn (df h1) (df h2) (dt h3) (dt h4) (dt h5) (df (by omega))
   ·exact qIC (df h1) (df h2) (dt h3) (dt h4) (df h5)
  ·exact qFf (df h1) (df h2) (dt h3) (df h4)
 ·exact qHu (df h1) (df h2) (df h3)
theorem qiy {n a b:Int} (h:¬ okP n a b=true):Pure Tryz.prog 86 #[qac n a b] (iV 8):=by
 rw[qcp] at h;by_cases h1:n<0
 ·exact qGY (dt h1)
 by_cases h2:n>65535
 ·exact qHr (df h1) (dt h2)
 by_cases h3:a < -1048576
 ·exact qFA (df h1) (df h2) (dt h3)
 by_cases h4:a>1048576
 ·exact qGV (df h1) (df h2) (df h3) (dt h4)
 by_cases h5:b < -1048576
 ·exact qGS (df h1) (df h2) (df h3) (df h4) (dt h5)
 ·exact qGk (df h1) (df h2) (df h3) (df h4) (df h5) (dt (by omega))
def qb8 (P Q pb qb pi qi:Int):Bool:=decide (P>Q∨P=Q∧(pb>qb∨pb=qb∧pi<qi))
theorem qdv {P Q pb qb pi qi:Int} (h:P>Q∨P=Q∧(pb>qb∨pb=qb∧pi<qi)):qb8 P Q pb qb pi qi=true:=dt h
theorem qdA {P Q pb qb pi qi:Int} (h:¬ (P>Q∨P=Q∧(pb>qb∨pb=qb∧pi<qi))):qb8 P Q pb qb pi qi=false:=df h
theorem qgr {pi pa pb qi qa qb:Int} (hp:okP pi pa pb=true) (hq:okP qi qa qb=true) (hb:pb≠qb) :
 ∃ m n,okB m n=true∧I64 m∧I64 n∧m*(pb-qb)=(qa-pa)*n∧Pure Tryz.prog 248 #[qac pi pa pb,qac qi qa qb] (qab m n):=by
 have hp':=qcp.1 hp;have hq':=qcp.1 hq;obtain⟨N,D,E,hr,hm⟩:=qrP (a:=qa-pa) (b:=pb-qb) (by unfold I64;omega) (by unfold I64;omega) (by omega)
 have key:E=0∧okB N D=true∧I64 N∧I64 D∧N*(pb-qb)=(qa-pa)*D:=by
  by_cases hs:0<pb-qb
  ·exact hr.fits hs (by omega) (by omega) (by omega)
  ·have h2:=hr.congr (p':=-(qa-pa)) (q':=-(pb-qb)) (by omega) (by omega) (by rw[Int.mul_neg,Int.neg_mul]);obtain⟨e1,e2,e3,e4,e5⟩:=h2.fits (by omega) (by omega) (by omega) (by omega);refine⟨e1,e2,e3,e4,?_⟩;rw[Int.mul_neg,Int.neg_mul] at e5;omega
 obtain⟨rfl,k1,k2,k3,k4⟩:=key;exact⟨N,D,k1,k2,k3,k4,qij (by rw[qas (by omega) (by omega)]) (by rw[qas (by omega) (by omega)]) hm⟩
end Go.Proofs.YtkckcgpmnipnaaaGreat

namespace Go.Proofs.YtkckcgpmnipnaaaGreat
set_option maxRecDepth 100000
open Go.RowKit
theorem qaJ {P:Program} (n:Nat) {f:FuncId} {args:List Value} (ch:List Ch) {v:Value} {T:Prop} (ht:v=v∧T) (e:qEl v (qEQ P n f args ch)=(v=v∧T)):Pure P f args.toArray v:=qoI n ch (e▸ht)
def ziV (l:List Int):List Value:=l.map fun x=>iV x
def zbV (l:List Bool):List Value:=l.map fun x=>.bool x
abbrev zrI (l:List Int):SV:=.row 3 1 l.length (ziV l)
abbrev zrB (l:List Bool):SV:=.row 4 1 l.length (zbV l)
theorem qbY (l:List Int):(ziV l).length=l.length:=by simp[ziV]
theorem qez (l:List Bool):(zbV l).length=l.length:=by simp[zbV]
theorem qbb {l:List Int} {k:Nat} {x:Int} (h:l[k]?=some x):qcJ (ziV l) (0*1+k*1) [iV x]:=by
 intro j v hj
 match j,hj with
 | 0,hj=>cases hj;simp[ziV,h]
 | j+1,hj=>simp at hj
theorem qcM {l:List Bool} {k:Nat} {x:Bool} (h:l[k]?=some x):qcJ (zbV l) (0*1+k*1) [.bool x]:=by
 intro j v hj
 match j,hj with
 | 0,hj=>cases hj;simp[zbV,h]
 | j+1,hj=>simp at hj
theorem qc3 {l:List Int} {z:Int} {x:Int} (h:l[z.toNat]?=some x):qcJ (ziV l) (0*1+z.toNat*1) [iV x]:=qbb h
theorem qhY {l:List Bool} {z:Int} {x:Bool} (h:l[z.toNat]?=some x):qcJ (zbV l) (0*1+z.toNat*1) [.bool x]:=qcM h
theorem qcB (l:List Int) (k:Nat) (x:Int) (h:k<l.length):ziV (l.set k x)=qf9 (ziV l) (0*1+k*1) [iV x]:=by
 rw[Nat.zero_mul,Nat.zero_add,Nat.mul_one];unfold qf9 ziV;rw[List.map_set,List.set_eq_take_append_cons_drop,if_pos (by simpa using h)];simp
theorem qug (l:List Bool) (k:Nat) (x:Bool) (h:k<l.length):zbV (l.set k x)=qf9 (zbV l) (0*1+k*1) [.bool x]:=by
 rw[Nat.zero_mul,Nat.zero_add,Nat.mul_one];unfold qf9 zbV;rw[List.map_set,List.set_eq_take_append_cons_drop,if_pos (by simpa using h)];simp
theorem qaQ (l:List Int) (k:Nat) (h:k<l.length):0*1+k*1+1≤(ziV l).length:=by rw[qbY];omega
theorem qeU (l:List Bool) (k:Nat) (h:k<l.length):0*1+k*1+1≤(zbV l).length:=by rw[qez];omega
theorem qtZ:∀ n:Nat,qdR [Value.bool false] n=zbV (List.replicate n false)
 | 0=>rfl
 | n+1=>by rw[qdR,qtZ n];rfl
theorem qeI (a b:List Int):ziV (a++b)=ziV a++ziV b:=by simp[ziV]
theorem qlf (l:List Int):∀ v∈ziV l,v.oneCell'=true:=by
 intro v hv;obtain⟨x,_,rfl⟩:=List.mem_map.1 hv;rfl
theorem qC7 (l:List Bool):∀ v∈zbV l,v.oneCell'=true:=by
 intro v hv;obtain⟨x,_,rfl⟩:=List.mem_map.1 hv;rfl
theorem RunsL.roundsZ {P:Program} {lo fr:Nat} {c:Code} {n nb:Nat} (tm:Nat→List (Nat×SV)) (hp:Nat→List (Nat×Nat×SV)) {e:Exit} {tm2:TmL} {hp2:HpL} {N:Nat} :
 ∀ (d i:Nat),i+d=N→(∀ j,i≤j→j<N→RunsL P lo fr c n nb (tm (j+1)) (hp (j+1)) e tm2 hp2→RunsL P lo fr c n nb (tm j) (hp j) e tm2 hp2)→RunsL P lo fr c n nb (tm N) (hp N) e tm2 hp2→RunsL P lo fr c n nb (tm i) (hp i) e tm2 hp2
 | 0,i,h,_,last=>by
  have:i=N:=by omega
  subst this;exact last
 | d+1,i,h,step,last=>step i (Nat.le_refl i) (by omega) (RunsL.roundsZ tm hp d (i+1) (by omega) (fun j h1 h2=>step j (by omega) h2) last)
theorem qDs {n:Int} (h0 : -9223372036854775808≤n) (h1:n≤9223372036854775807):IntKind.i64.wrap n=n:=by
 rw[IntKind.wrap_i64];omega
theorem qbe {n:Int} (h0 : -9223372036854775808≤n) (h1:n≤9223372036854775807):iV (IntKind.i64.wrap n)=iV n:=by rw[qDs h0 h1]
theorem qaL {k:Nat} (h:k≤1000000):iV (IntKind.i64.wrap ((k:Int)+1))=iV ((k+1:Nat):Int):=by rw[qbe (by omega) (by omega)];rfl
def qbz:List Bool→List Int→Option (List Bool)
 | g,[]=>some g
 | g,x::r=>if 0≤x∧x<(g.length:Int)∧g[x.toNat]?=some true then qbz (g.set x.toNat false) r else none
structure Vd (u:List Int) (b:List Bool) (f:List Int):Prop where
 pos:1≤u.length
 le:u.length≤200
 len:b.length=u.length
 use:∀ (k:Nat) (x:Int) (c:Bool),u[k]?=some x→b[k]?=some c→(if c=true then 1 else 0)≤x∧x≤1000000
 rng:∀ x∈f,0≤x∧x<(u.length:Int)
 nod:f.Nodup
 part:∀ (k:Nat) (c:Bool),b[k]?=some c→(c=false↔(k:Int)∈f)
theorem qek:∀ {f:List Int} {g g':List Bool},qbz g f=some g'→g'.length=g.length
 | [],g,g',h=>by cases h;rfl
 | x::r,g,g',h=>by
  unfold qbz at h;split at h
  ·rw[qek h,List.length_set]
  ·cases h
theorem qdF:∀ {f:List Int} {g g':List Bool},qbz g f=some g'→(∀ x∈f,0≤x∧x<(g.length:Int)∧g[x.toNat]?=some true)∧f.Nodup∧∀ k:Nat,g'[k]?=if (k:Int)∈f then some false else g[k]?
 | [],g,g',h=>by cases h;exact⟨by simp,by simp,by simp⟩
 | x::r,g,g',h=>by
  unfold qbz at h;split at h
  ·rename_i hx;obtain⟨h1,h2,h3⟩:=qdF h
   have hn:x∉r:=fun hm=>by
    have:=(h1 x hm).2.2;rw[List.getElem?_set] at this;rw[if_pos rfl] at this
    split at this<;>cases this
   refine⟨fun y hy=>?_,List.nodup_cons.2 ⟨hn,h2⟩,fun k=>?_⟩
   ·rcases List.mem_cons.1 hy with rfl | hy
    ·exact hx
    ·obtain⟨a1,a2,a3⟩:=h1 y hy;rw[List.length_set] at a2;refine⟨a1,a2,?_⟩;rw[List.getElem?_set] at a3;split at a3
     ·split at a3<;>cases a3
     ·exact a3
   ·rw[h3];by_cases hk:(k:Int)∈r
    ·rw[if_pos hk,if_pos (List.mem_cons_of_mem _ hk)]
    ·rw[if_neg hk,List.getElem?_set];by_cases e:(k:Int)=x
     ·rw[if_pos (show x.toNat=k by omega),if_pos (by omega),if_pos (by rw[e];exact List.mem_cons_self)]
     ·rw[if_neg (show ¬ x.toNat=k by omega),if_neg (fun hm=>by rcases List.mem_cons.1 hm with h | h;exact e h;exact hk h)]
  ·cases h
theorem qea:∀ {f:List Int} {g:List Bool},(∀ x∈f,0≤x∧x<(g.length:Int)∧g[x.toNat]?=some true)→f.Nodup→∃ g',qbz g f=some g'
 | [],g,_,_=>⟨g,rfl⟩
 | x::r,g,h,hn=>by
  obtain⟨h1,h2⟩:=List.nodup_cons.1 hn;unfold qbz;rw[if_pos (h x List.mem_cons_self)];refine qea (fun y hy=>?_) h2;obtain⟨a1,a2,a3⟩:=h y (List.mem_cons_of_mem _ hy);refine⟨a1,by rw[List.length_set];exact a2,?_⟩;rw[List.getElem?_set,if_neg]
  ·exact a3
  ·intro e;have hx:=(h x List.mem_cons_self).1
   have:x=y:=by omega
   subst this;exact h1 hy
def qe2 (b:List Bool) (f:List Int):Bool:=match qbz (b.map not) f with
 | some g=>!g.contains true
 | none=>false
def qzA (u:List Int) (b:List Bool):Bool:=(List.range b.length).all fun k=>match u[k]?,b[k]? with
 | some x,some c=>decide ((if c=true then 1 else 0)≤x)&&decide (x≤1000000)
 | _,_=>false
def qcQ (u:List Int) (b:List Bool) (f:List Int):Bool:=decide (1≤u.length)&&decide (u.length≤200)&&decide (b.length=u.length)&&qzA u b&&qe2 b f
theorem qe6 {u:List Int} {b:List Bool} (h:b.length=u.length):qzA u b=true↔∀ (k:Nat) (x:Int) (c:Bool),u[k]?=some x→b[k]?=some c→(if c=true then 1 else 0)≤x∧x≤1000000:=by
 unfold qzA;rw[List.all_eq_true];constructor
 ·intro h1 k x c hx hc;have hk:k<b.length:=(List.getElem?_eq_some_iff.1 hc).1;have:=h1 k (List.mem_range.2 hk);rw[hx,hc] at this;simpa using this
 ·intro h1 k hk;have hk':=List.mem_range.1 hk;rw[List.getElem?_eq_getElem (by omega:k<u.length),List.getElem?_eq_getElem hk'];simpa using h1 k _ _ (List.getElem?_eq_getElem (by omega:k<u.length)) (List.getElem?_eq_getElem hk')
theorem qh8 {b:List Bool} {f:List Int}:qe2 b f=true↔(∀ x∈f,0≤x∧x<(b.length:Int))∧f.Nodup∧∀ (k:Nat) (c:Bool),b[k]?=some c→(c=false↔(k:Int)∈f):=by
 unfold qe2;constructor
 ·intro h;split at h
  ·rename_i g hg;obtain⟨h1,h2,h3⟩:=qdF hg;refine⟨fun x hx=>?_,h2,fun k c hc=>⟨fun e=>?_,fun hm=>?_⟩⟩
   ·obtain⟨a1,a2,_⟩:=h1 x hx;exact⟨a1,by simpa using a2⟩
   ·subst e;by_cases hm:(k:Int)∈f
    ·exact hm
    ·have:=h3 k;rw[if_neg hm,List.getElem?_map,hc] at this;have hin:true∈g:=List.mem_of_getElem? this;simp[hin] at h
   ·obtain⟨_,_,a3⟩:=h1 _ hm;rw[Int.toNat_natCast,List.getElem?_map,hc] at a3;simpa using a3
  ·cases h
 ·rintro⟨h1,h2,h3⟩
  obtain⟨g,hg⟩:=qea (g:=b.map not) (f:=f) (fun x hx=>by
   obtain⟨a1,a2⟩:=h1 x hx
   have hk:x.toNat<b.length:=by omega
   refine⟨a1,by simpa using a2,?_⟩;rw[List.getElem?_map,List.getElem?_eq_getElem hk];have:=(h3 x.toNat _ (List.getElem?_eq_getElem hk)).2 (by rw[Int.toNat_of_nonneg a1];exact hx)
   rw[this];rfl) h2
  rw[hg];obtain⟨_,_,h6⟩:=qdF hg
  have:true∉g:=by
   intro hm;obtain⟨k,hk⟩:=List.mem_iff_getElem?.1 hm;have e:=h6 k;rw[hk] at e;split at e
   ·cases e
   ·rename_i hn;rw[List.getElem?_map] at e
    cases hb:b[k]? with
    | none=>rw[hb] at e;cases e
    | some c=>
     rw[hb] at e;cases c
     ·exact hn ((h3 k _ hb).1 rfl)
     ·cases e
  simp[this]
theorem qcx {u:List Int} {b:List Bool} {f:List Int}:qcQ u b f=true↔Vd u b f:=by
 unfold qcQ;simp only[Bool.and_eq_true,decide_eq_true_eq];constructor
 ·rintro⟨⟨⟨⟨h1,h2⟩,h3⟩,h4⟩,h5⟩;obtain⟨a1,a2,a3⟩:=qh8.1 h5;exact⟨h1,h2,h3,(qe6 h3).1 h4,by rw[← h3];exact a1,a2,a3⟩
 ·intro h;exact⟨⟨⟨⟨h.pos,h.le⟩,h.len⟩,(qe6 h.len).2 h.use⟩,qh8.2 ⟨by rw[h.len];exact h.rng,h.nod,h.part⟩⟩
abbrev yi (a:List Int) (b:List Bool) (c:List Int):HpL:=[(0,0,zrI a),(1,0,zrB b),(2,0,zrI c)]
abbrev yp (a:List Int):Prop:=Fn 63 1 [.ls 0 a.length] [(0,0,zrI a)] (.ls 1 a.length) 1 [(1,0,zrI a)]
end Go.Proofs.YtkckcgpmnipnaaaGreat
