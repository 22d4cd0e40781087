/-
  Joined: Q, Rv, T, Num, Con, Sm, Cp. Conditions: none.
-/
import Derived.Test.YtkckcgpmnipnaaaGreatSxJ
import Derived.Test.YtkckcgpmnipnaaaGreatW3
import Derived.Test.YtkckcgpmnipnaaaGreatW21
import Derived.Laws.Bits64b
import Derived.Test.YtkckcgpmnipnaaaGreatW2
namespace Go.Proofs.YtkckcgpmnipnaaaGreat
set_option maxRecDepth 100000
open Go.RowKit
theorem qac {P:Program} (n:Nat) {f:FuncId} {args:List Value} (ch:List Ch) {v:Value} {T:Prop} (ht:v=v∧T) (e:qD7 v (qDG P n f args ch)=(v=v∧T)):Pure P f args.toArray v:=qmz n ch (e▸ht)
abbrev qaa (n d:Int):Value:=.agg #[iV n,iV d]
abbrev qp8 (x:Int):Value:=.agg #[.int .u64 (wHi x),.int .u64 (wLo x)]
theorem qmV {a b c d:Int} (h0 : -9223372036854775807≤a) (h1:a≤9223372036854775807) (h2 : -9223372036854775807≤b) (h3:b≤9223372036854775807)
 (h4 : -9223372036854775807≤c) (h5:c≤9223372036854775807) (h6 : -9223372036854775807≤d) (h7:d≤9223372036854775807):qeu (a*b+c*d):=by
 have h:(a*b).natAbs≤9223372036854775807*9223372036854775807:=by rw[Int.natAbs_mul];exact Nat.mul_le_mul (by omega) (by omega)
 have g:(c*d).natAbs≤9223372036854775807*9223372036854775807:=by rw[Int.natAbs_mul];exact Nat.mul_le_mul (by omega) (by omega)
 unfold qeu
 generalize a*b=p at *
 generalize c*d=q at *
 omega
end Go.Proofs.YtkckcgpmnipnaaaGreat

namespace Go.Proofs.YtkckcgpmnipnaaaGreat
set_option maxRecDepth 100000
open Go.RowKit
abbrev qav (s:Bool) (hi lo:Int):Value:=.agg #[.bool s,.int .u64 hi,.int .u64 lo]
theorem qgV {x y:Int} (h:x=y) (h0:0≤y) (h1:y<18446744073709551616):Value.int .u64 (IntKind.u64.wrap x)=.int .u64 y:=by rw[h,qe0 h0 h1]
abbrev qiD (s:Bool) (A:Nat):Value:=qav s ((A/18446744073709551616:Nat):Int) ((A%18446744073709551616:Nat):Int)
end Go.Proofs.YtkckcgpmnipnaaaGreat

namespace Go.Proofs.YtkckcgpmnipnaaaGreat
set_option maxRecDepth 100000
open Go.RowKit
theorem qyl {a b c d:Int} (ha:I64 a) (hb:I64 b) (hc:I64 c) (hd:I64 d) (h1:okB a b=true) (h2:okB c d=true):Pure Tryz.prog 234 #[qaa a b,qaa c d] (.int .i64 0):=
 fun w=>qiZ h1 h2▸qgK a b c d w ha hb hc hd
set_option maxRecDepth 100000
theorem qwa {a b c d:Int} (ha:I64 a) (hb:I64 b) (hc:I64 c) (hd:I64 d) (h1:okB a b=true) (h2:okB c d=true) :
 Pure Tryz.prog 190 #[qaa a b,qaa c d] (.tuple #[.int .i64 (a*d-c*b).sign,.int .i64 0]):=by
 have b1:=qcV h1
 have d1:=qcV h2
 have a1:=qn9 h1
 have c1:=qn9 h2
 have hB:=qyl ha hb hc hd h1 h2
 unfold I64 at ha hb hc hd
 have e:a*d + -(c*b)=a*d-c*b:=rfl
 have f:qeu (a*d-c*b):=by
  have:=qmV (a:=a) (b:=d) (c:=-c) (d:=b) (by omega) (by omega) (by omega) (by omega) (by omega) (by omega) (by omega) (by omega)
  rw[Int.neg_mul] at this
  exact this
 exact qac (args:=[qaa a b,qaa c d]) 100 [.r (.int .i64 0),.k,.r (qp8 (a*d)),.r (qp8 (c*b)),.r (qp8 (-(c*b))),.r (qp8 (a*d-c*b)),.r (.int .i64 (a*d-c*b).sign)]
  (Ai rfl (Ai hB (Ai ((fun w=>qff a d w (by omega) (by omega) (by omega) (by omega):Pure _ _ _ _)) (Ai ((fun w=>qff c b w (by omega) (by omega) (by omega) (by omega):Pure _ _ _ _)) (Ai ((fun w=>qe1 (c*b) w:Pure _ _ _ _)) (Ai ((fun w=>e▸qrR (a*d) (-(c*b)) w:Pure _ _ _ _)) (Ai (fun w=>qtm _ w f:Pure _ _ _ _) tI))))))) (by kernel_rfl)
end Go.Proofs.YtkckcgpmnipnaaaGreat

namespace Go.Proofs.YtkckcgpmnipnaaaGreat
set_option maxRecDepth 100000
def IsRes (p q N D E:Int):Prop:=
 (E=0∧okB N D=true∧I64 N∧I64 D∧N*q=p*D)∨(E=16∧N=0∧D=0∧∀ n d,okB n d=true→I64 n→I64 d→n*q≠p*d)
theorem qdo {T U n d:Int} (hU:0<U) (hd:0<d) (h1:Nat.gcd T.natAbs U.natAbs=1) (h2:Nat.gcd n.natAbs d.natAbs=1) (h:T*d=n*U):T=n∧U=d:=by
 have e:T.natAbs*d.natAbs=n.natAbs*U.natAbs:=by rw[← Int.natAbs_mul,← Int.natAbs_mul,h]
 have a1:U.natAbs ∣ d.natAbs:=Nat.Coprime.dvd_of_dvd_mul_left (show Nat.Coprime U.natAbs T.natAbs by rw[Nat.coprime_comm];exact h1) ⟨n.natAbs,by rw[e,Nat.mul_comm]⟩
 have a2:d.natAbs ∣ U.natAbs:=Nat.Coprime.dvd_of_dvd_mul_left (show Nat.Coprime d.natAbs n.natAbs by rw[Nat.coprime_comm];exact h2) ⟨T.natAbs,by rw[← e,Nat.mul_comm]⟩
 have a3:=Nat.dvd_antisymm a1 a2
 have hUd:U=d:=by omega
 subst hUd
 exact⟨Int.eq_of_mul_eq_mul_right (by omega) h,rfl⟩
theorem qeq {n d:Int}:okB n d=true↔1≤d∧n≠-9223372036854775808∧Nat.gcd n.natAbs d.natAbs=1:=by simp[okB]
theorem qiP {n d n' d':Int} (h1:okB n d=true) (h2:okB n' d'=true) (h:n*d'=n'*d):n=n'∧d=d':=by
 obtain⟨a1,_,a2⟩:=qeq.1 h1
 obtain⟨b1,_,b2⟩:=qeq.1 h2
 exact qdo (by omega) (by omega) a2 b2 h
theorem qei (T:Int) (h:qbn T.natAbs=true):sgV T.natAbs (decide (T<0))=T:=by
 have h':T.natAbs<9223372036854775808:=by simpa [qbn] using h
 unfold sgV
 rw[if_pos h']
 by_cases ht:T<0
 ·simp[ht];omega
 ·simp[ht];omega
theorem qkb {p q T U:Int} (hq:q≠0) (hU:0<U) (hg:Nat.gcd T.natAbs U.natAbs=1) (h:T*q=p*U) :
 IsRes p q (qd8 (qbn T.natAbs&&qbn U.natAbs) (sgV T.natAbs (decide (T<0)))) (qd8 (qbn T.natAbs&&qbn U.natAbs) (sgV U.natAbs (decide (U<0)))) (qm5 (qbn T.natAbs&&qbn U.natAbs)):=by
 cases hf:(qbn T.natAbs&&qbn U.natAbs)
 ·refine Or.inr ⟨rfl,rfl,rfl,fun n d hk hn hd he=>?_⟩
  obtain⟨a1,a2,a3⟩:=qeq.1 hk
  have e:T*d=n*U:=by
   refine Int.eq_of_mul_eq_mul_right hq ?_
   rw[Int.mul_right_comm,h,Int.mul_right_comm n U q,he,Int.mul_right_comm]
  obtain⟨rfl,rfl⟩:=qdo hU (by omega) hg a3 e
  unfold I64 at hn hd
  have:(qbn T.natAbs&&qbn U.natAbs)=true:=by simp[qbn];omega
  rw[hf] at this
  cases this
 ·simp only[Bool.and_eq_true] at hf
  have h1:T.natAbs<9223372036854775808:=by simpa [qbn] using hf.1
  have h2:U.natAbs<9223372036854775808:=by simpa [qbn] using hf.2
  refine Or.inl ⟨rfl,?_,?_,?_,?_⟩
  ·simp only[qd8,if_true,qei T hf.1,qei U hf.2]
   exact qeq.2 ⟨by omega,by omega,hg⟩
  ·simp only[qd8,if_true,qei T hf.1];unfold I64;omega
  ·simp only[qd8,if_true,qei U hf.2];unfold I64;omega
  ·simp only[qd8,if_true,qei T hf.1,qei U hf.2];exact h
theorem qBP {a b:Int} (hb:b≠0):IsRes a b (mkN a b) (mkD a b) (mkE a b):=by
 obtain⟨g,hg⟩:∃ g:Nat,g=Nat.gcd a.natAbs b.natAbs:=⟨_,rfl⟩
 have g0:0<g:=hg▸Nat.gcd_pos_of_pos_right _ (by omega)
 have eA:mkQ a b*g=a.natAbs:=by unfold mkQ;rw[hg];exact Nat.div_mul_cancel (Nat.gcd_dvd_left _ _)
 have eB:mkP a b*g=b.natAbs:=by unfold mkP;rw[hg];exact Nat.div_mul_cancel (Nat.gcd_dvd_right _ _)
 have cop:Nat.gcd (mkQ a b) (mkP a b)=1:=by unfold mkQ mkP;exact Nat.coprime_div_gcd_div_gcd (hg▸g0)
 have hp0:0<mkP a b:=by
  rcases Nat.eq_zero_or_pos (mkP a b) with h | h
  ·rw[h] at eB;omega
  ·exact h
 obtain⟨Q,hQ⟩:∃ Q:Int,Q=if mkS a b then -(mkQ a b:Int) else mkQ a b:=⟨_,rfl⟩
 have nQ:Q.natAbs=mkQ a b:=by rw[hQ];split<;>omega
 have heq:Q*b=a*(mkP a b:Nat):=by
  have eA':((mkQ a b:Nat):Int)*(g:Int)=(a.natAbs:Int):=by rw[← Int.natCast_mul,eA]
  have eB':((mkP a b:Nat):Int)*(g:Int)=(b.natAbs:Int):=by rw[← Int.natCast_mul,eB]
  refine Int.eq_of_mul_eq_mul_right (show (g:Int)≠0 by omega) ?_
  rw[Int.mul_right_comm,Int.mul_assoc a,eB',hQ]
  unfold mkS
  by_cases ha:a<0<;>by_cases hb':b<0<;>simp[ha,hb',Int.neg_mul,eA']
  ·rw[show (a.natAbs:Int) = -a by omega,show (b.natAbs:Int) = -b by omega,Int.neg_mul,Int.mul_neg]
  ·rw[show (a.natAbs:Int) = -a by omega,show (b.natAbs:Int)=b by omega,Int.neg_mul,Int.neg_neg]
  ·rw[show (a.natAbs:Int)=a by omega,show (b.natAbs:Int) = -b by omega,Int.mul_neg]
  ·rw[show (a.natAbs:Int)=a by omega,show (b.natAbs:Int)=b by omega]
 have fin:=qkb (p:=a) (q:=b) (T:=Q) (U:=(mkP a b:Nat)) hb (by omega) (by rw[nQ];exact cop) heq
 have u1:mkN a b=qd8 (qbn Q.natAbs&&qbn ((mkP a b:Nat):Int).natAbs) (sgV Q.natAbs (decide (Q<0))):=by
  unfold mkN mkF
  rw[if_neg hb,nQ,show ((mkP a b:Nat):Int).natAbs=mkP a b from rfl]
  have:sgV (mkQ a b) (mkS a b)=sgV (mkQ a b) (decide (Q<0)):=by
   unfold sgV
   split
   ·cases hs:mkS a b
    ·rw[hs] at hQ
     have hQ':Q=mkQ a b:=by simpa using hQ
     have:decide (Q<0)=false:=by simp;omega
     rw[this]
    ·rw[hs] at hQ
     have hQ':Q = -(mkQ a b:Int):=by simpa using hQ
     by_cases h0:mkQ a b=0
     ·rw[h0];simp
     ·have:decide (Q<0)=true:=by simp;omega
      rw[this]
   ·rfl
  rw[this]
 have u2:mkD a b=qd8 (qbn Q.natAbs&&qbn ((mkP a b:Nat):Int).natAbs) (sgV ((mkP a b:Nat):Int).natAbs (decide (((mkP a b:Nat):Int)<0))):=by
  unfold mkD mkF
  rw[if_neg hb,nQ,show ((mkP a b:Nat):Int).natAbs=mkP a b from rfl,show decide (((mkP a b:Nat):Int)<0)=false by simp]
 have u3:mkE a b=qm5 (qbn Q.natAbs&&qbn ((mkP a b:Nat):Int).natAbs):=by
  unfold mkE mkF
  rw[if_neg hb,nQ,show ((mkP a b:Nat):Int).natAbs=mkP a b from rfl]
 rw[u1,u2,u3]
 exact fin
end Go.Proofs.YtkckcgpmnipnaaaGreat

namespace Go.Proofs.YtkckcgpmnipnaaaGreat
set_option maxRecDepth 100000
open Go.RowKit
theorem IsRes.one {p q N D E n d:Int} (h:IsRes p q N D E) (hq:q≠0) (hk:okB n d=true) (hn:I64 n) (hd:I64 d) (he:n*q=p*d):N=n∧D=d∧E=0:=by
 rcases h with ⟨h1,h2,_,_,h5⟩ | ⟨_,_,_,h4⟩
 ·have:N*d=n*D:=by
   refine Int.eq_of_mul_eq_mul_right hq ?_
   rw[Int.mul_right_comm,h5,Int.mul_right_comm n D q,he,Int.mul_right_comm]
  obtain⟨a1,a2⟩:=qiP h2 hk this
  exact⟨a1,a2,h1⟩
 ·exact absurd he (h4 n d hk hn hd)
theorem qcd {n d:Int} (hn:I64 n) (hd:I64 d) (h:okB n d=true):Pure Tryz.prog 101 #[qaa n d] (.int .i64 0):=fun w=>qpv h▸qc1 n d w hn.1 hn.2 hd.1 hd.2
theorem qfq {n d:Int} (hn:I64 n) (hd:I64 d) (h:¬ okB n d=true):Pure Tryz.prog 101 #[qaa n d] (.int .i64 8):=fun w=>qiR h▸qc1 n d w hn.1 hn.2 hd.1 hd.2
theorem qfo {n d:Int} (hn:I64 n) (hd:I64 d) (h:okB n d=true):Pure Tryz.prog 45 #[qaa n d] (.int .i64 0):=fun w=>qpv h▸qe2 n d w hn.1 hn.2 hd.1 hd.2
theorem qen {n d:Int} (hn:I64 n) (hd:I64 d) (h:¬ okB n d=true):Pure Tryz.prog 45 #[qaa n d] (.int .i64 8):=fun w=>qiR h▸qe2 n d w hn.1 hn.2 hd.1 hd.2
theorem qss {a b:Int} (ha:I64 a) (hb:I64 b) (h0:b≠0):∃ N D E,IsRes a b N D E∧Pure Tryz.prog 303 #[iV a,iV b] (.tuple #[qaa N D,iV E]):=
 ⟨_,_,_,qBP h0,fun w=>qlr a b w ha hb⟩
theorem qoc {a b c d:Int} (ha:I64 a) (hb:I64 b) (hc:I64 c) (hd:I64 d) (h1:okB a b=true) (h2:okB c d=true) :
 Pure Tryz.prog 190 #[qaa a b,qaa c d] (.tuple #[iV (a*d-c*b).sign,iV 0]):=qwa ha hb hc hd h1 h2
end Go.Proofs.YtkckcgpmnipnaaaGreat

namespace Go.Proofs.YtkckcgpmnipnaaaGreat
set_option maxRecDepth 100000
open Go.RowKit
set_option maxRecDepth 100000
theorem IsRes.fits {p q N D E:Int} (h:IsRes p q N D E) (hq:0<q) (q1:q≤9223372036854775807) (p0 : -9223372036854775807≤p) (p1:p≤9223372036854775807) :
 E=0∧okB N D=true∧I64 N∧I64 D∧N*q=p*D:=by
 rcases h with h | ⟨_,_,_,h4⟩
 ·exact h
 ·exfalso
  obtain⟨g,hg⟩:∃ g:Nat,g=Nat.gcd p.natAbs q.natAbs:=⟨_,rfl⟩
  have g0:0<g:=hg▸Nat.gcd_pos_of_pos_right _ (by omega)
  have e1:p.tdiv g*g=p:=Int.tdiv_mul_cancel (Int.ofNat_dvd_left.2 (hg▸Nat.gcd_dvd_left _ _))
  have e2:q.tdiv g*g=q:=Int.tdiv_mul_cancel (Int.ofNat_dvd_left.2 (hg▸Nat.gcd_dvd_right _ _))
  have n1:(p.tdiv g).natAbs=p.natAbs/g:=by rw[Int.natAbs_tdiv];rfl
  have n2:(q.tdiv g).natAbs=q.natAbs/g:=by rw[Int.natAbs_tdiv];rfl
  have b1:p.natAbs/g≤p.natAbs:=Nat.div_le_self _ _
  have b2:q.natAbs/g≤q.natAbs:=Nat.div_le_self _ _
  have cop:Nat.gcd (p.tdiv g).natAbs (q.tdiv g).natAbs=1:=by
   have g0':=g0
   rw[hg] at g0'
   rw[n1,n2,hg]
   exact Nat.coprime_div_gcd_div_gcd g0'
  generalize p.tdiv (g:Int)=P at *
  generalize q.tdiv (g:Int)=Q at *
  have hQ:0<Q:=by
   rcases Int.lt_trichotomy Q 0 with h' | h' | h'
   ·have:=Int.mul_neg_of_neg_of_pos h' (show (0:Int)<g by omega);omega
   ·subst h';omega
   ·exact h'
  refine h4 P Q (qeq.2 ⟨by omega,by omega,cop⟩) (by unfold I64;omega) (by unfold I64;omega) ?_
  rw[← e1,← e2]
  ac_rfl
theorem IsRes.congr {p q p' q' N D E:Int} (h:IsRes p q N D E) (hq:q≠0) (hq':q'≠0) (e:p*q'=p'*q):IsRes p' q' N D E:=by
 have key:∀ n d:Int,n*q=p*d↔n*q'=p'*d:=by
  intro n d
  constructor
  ·intro h
   refine Int.eq_of_mul_eq_mul_right hq ?_
   grind
  ·intro h
   refine Int.eq_of_mul_eq_mul_right hq' ?_
   grind
 rcases h with ⟨h1,h2,h3,h4,h5⟩ | ⟨h1,h2,h3,h4⟩
 ·exact Or.inl ⟨h1,h2,h3,h4,(key _ _).1 h5⟩
 ·exact Or.inr ⟨h1,h2,h3,fun n d a1 a2 a3 a4=>h4 n d a1 a2 a3 ((key _ _).2 a4)⟩
end Go.Proofs.YtkckcgpmnipnaaaGreat

namespace Go.Proofs.YtkckcgpmnipnaaaGreat
set_option maxRecDepth 100000
open Go.RowKit
abbrev qab (n a b:Int):Value:=.agg #[iV n,iV a,iV b]
theorem qGm {pi pa pb:Int} (i0:decide (pi<0)=true) :
 Pure Tryz.prog 137 #[qab pi pa pb] (iV 8):=
 qac (args:=[qab pi pa pb]) 200 [.t true]
  (Ai rfl (Ai i0 tI)) (by kernel_rfl)
theorem qFO {pi pa pb:Int} (i0:decide (pi<0)=false) (i1:decide (pi>65535)=true) :
 Pure Tryz.prog 137 #[qab pi pa pb] (iV 8):=
 qac (args:=[qab pi pa pb]) 200 [.t false,.t true]
  (Ai rfl (Ai i0 (Ai i1 tI))) (by kernel_rfl)
theorem qEB {pi pa pb:Int} (i0:decide (pi<0)=false) (i1:decide (pi>65535)=false) (la:decide (-1048576≤pa)=false) :
 Pure Tryz.prog 137 #[qab pi pa pb] (iV 8):=
 qac (args:=[qab pi pa pb]) 200 [.t false,.t false,.k,.t false,.k]
  (Ai rfl (Ai i0 (Ai i1 (Ai la tI)))) (by kernel_rfl)
theorem qF0 {pi pa pb:Int} (i0:decide (pi<0)=false) (i1:decide (pi>65535)=false) (la:decide (-1048576≤pa)=true) (ha:decide (pa≤1048576)=false) :
 Pure Tryz.prog 137 #[qab pi pa pb] (iV 8):=
 qac (args:=[qab pi pa pb]) 200 [.t false,.t false,.k,.t true,.t false,.k]
  (Ai rfl (Ai i0 (Ai i1 (Ai la (Ai ha tI))))) (by kernel_rfl)
theorem qFr {pi pa pb:Int} (i0:decide (pi<0)=false) (i1:decide (pi>65535)=false) (la:decide (-1048576≤pa)=true) (ha:decide (pa≤1048576)=true) (lb:decide (-1048576≤pb)=false) :
 Pure Tryz.prog 137 #[qab pi pa pb] (iV 8):=
 qac (args:=[qab pi pa pb]) 200 [.t false,.t false,.k,.t true,.t true,.k,.k,.t false,.k]
  (Ai rfl (Ai i0 (Ai i1 (Ai la (Ai ha (Ai lb tI)))))) (by kernel_rfl)
theorem qE3 {pi pa pb:Int} (i0:decide (pi<0)=false) (i1:decide (pi>65535)=false) (la:decide (-1048576≤pa)=true) (ha:decide (pa≤1048576)=true) (lb:decide (-1048576≤pb)=true) (hb:decide (pb≤1048576)=false) :
 Pure Tryz.prog 137 #[qab pi pa pb] (iV 8):=
 qac (args:=[qab pi pa pb]) 200 [.t false,.t false,.k,.t true,.t true,.k,.k,.t true,.t false,.k]
  (Ai rfl (Ai i0 (Ai i1 (Ai la (Ai ha (Ai lb (Ai hb tI))))))) (by kernel_rfl)
theorem qFl {pi pa pb:Int} (i0:decide (pi<0)=false) (i1:decide (pi>65535)=false) (la:decide (-1048576≤pa)=true) (ha:decide (pa≤1048576)=true) (lb:decide (-1048576≤pb)=true) (hb:decide (pb≤1048576)=true) :
 Pure Tryz.prog 137 #[qab pi pa pb] (iV 0):=
 qac (args:=[qab pi pa pb]) 200 [.t false,.t false,.k,.t true,.t true,.k,.k,.t true,.t true,.k]
  (Ai rfl (Ai i0 (Ai i1 (Ai la (Ai ha (Ai lb (Ai hb tI))))))) (by kernel_rfl)
theorem qFu {pi pa pb:Int} (i0:decide (pi<0)=true) :
 Pure Tryz.prog 86 #[qab pi pa pb] (iV 8):=
 qac (args:=[qab pi pa pb]) 200 [.t true]
  (Ai rfl (Ai i0 tI)) (by kernel_rfl)
theorem qFn {pi pa pb:Int} (i0:decide (pi<0)=false) (i1:decide (pi>65535)=true) :
 Pure Tryz.prog 86 #[qab pi pa pb] (iV 8):=
 qac (args:=[qab pi pa pb]) 200 [.t false,.t true]
  (Ai rfl (Ai i0 (Ai i1 tI))) (by kernel_rfl)
theorem qGx {pi pa pb:Int} (i0:decide (pi<0)=false) (i1:decide (pi>65535)=false) (la:decide (pa < -1048576)=true) :
 Pure Tryz.prog 86 #[qab pi pa pb] (iV 8):=
 qac (args:=[qab pi pa pb]) 200 [.t false,.t false,.t true]
  (Ai rfl (Ai i0 (Ai i1 (Ai la tI)))) (by kernel_rfl)
theorem qEv {pi pa pb:Int} (i0:decide (pi<0)=false) (i1:decide (pi>65535)=false) (la:decide (pa < -1048576)=false) (ha:decide (pa>1048576)=true) :
 Pure Tryz.prog 86 #[qab pi pa pb] (iV 8):=
 qac (args:=[qab pi pa pb]) 200 [.t false,.t false,.t false,.t true]
  (Ai rfl (Ai i0 (Ai i1 (Ai la (Ai ha tI))))) (by kernel_rfl)
theorem qEm {pi pa pb:Int} (i0:decide (pi<0)=false) (i1:decide (pi>65535)=false) (la:decide (pa < -1048576)=false) (ha:decide (pa>1048576)=false) (lb:decide (pb < -1048576)=true) :
 Pure Tryz.prog 86 #[qab pi pa pb] (iV 8):=
 qac (args:=[qab pi pa pb]) 200 [.t false,.t false,.t false,.t false,.t true]
  (Ai rfl (Ai i0 (Ai i1 (Ai la (Ai ha (Ai lb tI)))))) (by kernel_rfl)
theorem qG4 {pi pa pb:Int} (i0:decide (pi<0)=false) (i1:decide (pi>65535)=false) (la:decide (pa < -1048576)=false) (ha:decide (pa>1048576)=false) (lb:decide (pb < -1048576)=false) (hb:decide (pb>1048576)=true) :
 Pure Tryz.prog 86 #[qab pi pa pb] (iV 8):=
 qac (args:=[qab pi pa pb]) 200 [.t false,.t false,.t false,.t false,.t false,.t true]
  (Ai rfl (Ai i0 (Ai i1 (Ai la (Ai ha (Ai lb (Ai hb tI))))))) (by kernel_rfl)
theorem qDt {pi pa pb:Int} (i0:decide (pi<0)=false) (i1:decide (pi>65535)=false) (la:decide (pa < -1048576)=false) (ha:decide (pa>1048576)=false) (lb:decide (pb < -1048576)=false) (hb:decide (pb>1048576)=false) :
 Pure Tryz.prog 86 #[qab pi pa pb] (iV 0):=
 qac (args:=[qab pi pa pb]) 200 [.t false,.t false,.t false,.t false,.t false,.t false]
  (Ai rfl (Ai i0 (Ai i1 (Ai la (Ai ha (Ai lb (Ai hb tI))))))) (by kernel_rfl)
theorem qhY {pi pa pb qi qa qb x y m n:Int} (v1:iV (IntKind.i64.wrap (qa-pa))=iV x) (v2:iV (IntKind.i64.wrap (pb-qb))=iV y) (c1:Pure Tryz.prog 303 #[iV x,iV y] (.tuple #[qaa m n,iV 0])) :
 Pure Tryz.prog 248 #[qab pi pa pb,qab qi qa qb] (qaa m n):=
 qac (args:=[qab pi pa pb,qab qi qa qb]) 200 [Re v1,Re v2,Rf c1]
  (Ai rfl (Ai v1 (Ai v2 (Ai c1 tI)))) (by kernel_rfl)
abbrev qt6 (d:Int) (n:Int):Prop:=Pure Tryz.prog 101 #[qaa n d] (iV 0)
abbrev quo (pa:Int) (pb:Int) (pi:Int) (qa:Int) (qb:Int) (qi:Int):Prop:=Pure Tryz.prog 204 #[qab pi pa pb,qab qi qa qb] (iV 0)
abbrev qum (pa:Int) (pb:Int) (pi:Int):Prop:=Pure Tryz.prog 137 #[qab pi pa pb] (iV 0)
abbrev qug (qa:Int) (qb:Int) (qi:Int):Prop:=Pure Tryz.prog 137 #[qab qi qa qb] (iV 0)
theorem qr7 {pi pa pb qi qa qb n d:Int} (cp:qum pa pb pi) (cq:qug qa qb qi) (ct:qt6 d n) (ci:quo pa pb pi qa qb qi) (w:(pa==qa&&(pb==qb&&true))=true) (r:decide (pi<qi)=true) :
 Pure Tryz.prog 158 #[qab pi pa pb,qab qi qa qb,qaa n d] (.tuple #[.bool true,iV 0]):=
 qac (args:=[qab pi pa pb,qab qi qa qb,qaa n d]) 200 [Rf cp,Rf cp,Rf cp,Rf cp,.k,.k,.k,.k,.k,.k,.k,.k,.k,.k,.k,.k,.k,.k,.k,.k,.k,.k,.t true,.k,.t true]
  (Ai rfl (Ai cp (Ai cq (Ai ct (Ai ci (Ai w (Ai r tI))))))) (by kernel_rfl)
theorem qtS {pi pa pb qi qa qb n d:Int} (cp:qum pa pb pi) (cq:qug qa qb qi) (ct:qt6 d n) (ci:quo pa pb pi qa qb qi) (w:(pa==qa&&(pb==qb&&true))=false) (bb:(pb==qb)=true) (r:decide (pa>qa)=true) :
 Pure Tryz.prog 158 #[qab pi pa pb,qab qi qa qb,qaa n d] (.tuple #[.bool true,iV 0]):=
 qac (args:=[qab pi pa pb,qab qi qa qb,qaa n d]) 200 [Rf cp,Rf cp,Rf cp,Rf cp,.k,.k,.k,.k,.k,.k,.k,.k,.k,.k,.k,.k,.k,.k,.k,.k,.k,.k,.t false,.t true,.k,.t true]
  (Ai rfl (Ai cp (Ai cq (Ai ct (Ai ci (Ai w (Ai bb (Ai r tI)))))))) (by kernel_rfl)
theorem qsK {pi pa pb qi qa qb n d:Int} (cp:qum pa pb pi) (cq:qug qa qb qi) (ct:qt6 d n) (ci:quo pa pb pi qa qb qi) (w:(pa==qa&&(pb==qb&&true))=true) (r:decide (pi<qi)=false) :
 Pure Tryz.prog 158 #[qab pi pa pb,qab qi qa qb,qaa n d] (.tuple #[.bool false,iV 0]):=
 qac (args:=[qab pi pa pb,qab qi qa qb,qaa n d]) 200 [Rf cp,Rf cp,Rf cp,Rf cp,.k,.k,.k,.k,.k,.k,.k,.k,.k,.k,.k,.k,.k,.k,.k,.k,.k,.k,.t true,.k,.t false]
  (Ai rfl (Ai cp (Ai cq (Ai ct (Ai ci (Ai w (Ai r tI))))))) (by kernel_rfl)
theorem qpO {pi pa pb qi qa qb n d:Int} (cp:qum pa pb pi) (cq:qug qa qb qi) (ct:qt6 d n) (ci:quo pa pb pi qa qb qi) (w:(pa==qa&&(pb==qb&&true))=false) (bb:(pb==qb)=true) (r:decide (pa>qa)=false) :
 Pure Tryz.prog 158 #[qab pi pa pb,qab qi qa qb,qaa n d] (.tuple #[.bool false,iV 0]):=
 qac (args:=[qab pi pa pb,qab qi qa qb,qaa n d]) 200 [Rf cp,Rf cp,Rf cp,Rf cp,.k,.k,.k,.k,.k,.k,.k,.k,.k,.k,.k,.k,.k,.k,.k,.k,.k,.k,.t false,.t true,.k,.t false]
  (Ai rfl (Ai cp (Ai cq (Ai ct (Ai ci (Ai w (Ai bb (Ai r tI)))))))) (by kernel_rfl)
abbrev qD8 (d:Int) (k:Int) (md:Int) (mn:Int) (n:Int):Prop:=Pure Tryz.prog 190 #[qaa n d,qaa mn md] (.tuple #[iV k,iV 0])
theorem qmB {pi pa pb qi qa qb n d mn md k:Int} (cp:qum pa pb pi) (cq:qug qa qb qi) (ct:qt6 d n) (ci:quo pa pb pi qa qb qi) (w:(pa==qa&&(pb==qb&&true))=false) (bb:(pb==qb)=false) (cm:Pure Tryz.prog 248 #[qab pi pa pb,qab qi qa qb] (qaa mn md)) (cc:qD8 d k md mn n) (g1:decide (k≥0)=true) (g2:decide (pb>qb)=true) :
 Pure Tryz.prog 158 #[qab pi pa pb,qab qi qa qb,qaa n d] (.tuple #[.bool true,iV 0]):=
 qac (args:=[qab pi pa pb,qab qi qa qb,qaa n d]) 200 [Rf cp,Rf cp,Rf cp,Rf cp,.k,.k,.k,.k,.k,.k,.k,.k,.k,.k,.k,.k,.k,.k,.k,.k,.k,.k,.t false,.t false,Rf cm,.k,Rf cc,.t true,.t true]
  (Ai rfl (Ai cp (Ai cq (Ai ct (Ai ci (Ai w (Ai bb (Ai cm (Ai cc (Ai g1 (Ai g2 tI))))))))))) (by kernel_rfl)
theorem qnE {pi pa pb qi qa qb n d mn md k:Int} (cp:qum pa pb pi) (cq:qug qa qb qi) (ct:qt6 d n) (ci:quo pa pb pi qa qb qi) (w:(pa==qa&&(pb==qb&&true))=false) (bb:(pb==qb)=false) (cm:Pure Tryz.prog 248 #[qab pi pa pb,qab qi qa qb] (qaa mn md)) (cc:qD8 d k md mn n) (g1:decide (k≥0)=true) (g2:decide (pb>qb)=false) :
 Pure Tryz.prog 158 #[qab pi pa pb,qab qi qa qb,qaa n d] (.tuple #[.bool false,iV 0]):=
 qac (args:=[qab pi pa pb,qab qi qa qb,qaa n d]) 200 [Rf cp,Rf cp,Rf cp,Rf cp,.k,.k,.k,.k,.k,.k,.k,.k,.k,.k,.k,.k,.k,.k,.k,.k,.k,.k,.t false,.t false,Rf cm,.k,Rf cc,.t true,.t false]
  (Ai rfl (Ai cp (Ai cq (Ai ct (Ai ci (Ai w (Ai bb (Ai cm (Ai cc (Ai g1 (Ai g2 tI))))))))))) (by kernel_rfl)
theorem qoQ {pi pa pb qi qa qb n d mn md k:Int} (cp:qum pa pb pi) (cq:qug qa qb qi) (ct:qt6 d n) (ci:quo pa pb pi qa qb qi) (w:(pa==qa&&(pb==qb&&true))=false) (bb:(pb==qb)=false) (cm:Pure Tryz.prog 248 #[qab pi pa pb,qab qi qa qb] (qaa mn md)) (cc:qD8 d k md mn n) (g1:decide (k≥0)=false) (g2:decide (pb>qb)=true) :
 Pure Tryz.prog 158 #[qab pi pa pb,qab qi qa qb,qaa n d] (.tuple #[.bool false,iV 0]):=
 qac (args:=[qab pi pa pb,qab qi qa qb,qaa n d]) 200 [Rf cp,Rf cp,Rf cp,Rf cp,.k,.k,.k,.k,.k,.k,.k,.k,.k,.k,.k,.k,.k,.k,.k,.k,.k,.k,.t false,.t false,Rf cm,.k,Rf cc,.t false,.t true]
  (Ai rfl (Ai cp (Ai cq (Ai ct (Ai ci (Ai w (Ai bb (Ai cm (Ai cc (Ai g1 (Ai g2 tI))))))))))) (by kernel_rfl)
theorem qmR {pi pa pb qi qa qb n d mn md k:Int} (cp:qum pa pb pi) (cq:qug qa qb qi) (ct:qt6 d n) (ci:quo pa pb pi qa qb qi) (w:(pa==qa&&(pb==qb&&true))=false) (bb:(pb==qb)=false) (cm:Pure Tryz.prog 248 #[qab pi pa pb,qab qi qa qb] (qaa mn md)) (cc:qD8 d k md mn n) (g1:decide (k≥0)=false) (g2:decide (pb>qb)=false) :
 Pure Tryz.prog 158 #[qab pi pa pb,qab qi qa qb,qaa n d] (.tuple #[.bool true,iV 0]):=
 qac (args:=[qab pi pa pb,qab qi qa qb,qaa n d]) 200 [Rf cp,Rf cp,Rf cp,Rf cp,.k,.k,.k,.k,.k,.k,.k,.k,.k,.k,.k,.k,.k,.k,.k,.k,.k,.k,.t false,.t false,Rf cm,.k,Rf cc,.t false,.t false]
  (Ai rfl (Ai cp (Ai cq (Ai ct (Ai ci (Ai w (Ai bb (Ai cm (Ai cc (Ai g1 (Ai g2 tI))))))))))) (by kernel_rfl)
theorem qDu {pi pa pb qi qa qb:Int} (ij:(pi==qi)=false) :
 Pure Tryz.prog 204 #[qab pi pa pb,qab qi qa qb] (iV 0):=
 qac (args:=[qab pi pa pb,qab qi qa qb]) 200 [.t false]
  (Ai rfl (Ai ij tI)) (by kernel_rfl)
end Go.Proofs.YtkckcgpmnipnaaaGreat
