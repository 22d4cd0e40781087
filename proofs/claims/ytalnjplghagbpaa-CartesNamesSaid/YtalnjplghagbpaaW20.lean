/-
  Joined: Q, Rv, T, Num, Con, Sm, Cp, Rs. Conditions: none.
-/
import Derived.Test.YtalnjplghagbpaaSxJ
import Derived.Test.YtalnjplghagbpaaW3
import Derived.Test.YtalnjplghagbpaaW19
import Derived.Laws.Bits64b
namespace Go.Proofs.Ytalnjplghagbpaa
set_option maxRecDepth 100000
open Go.RowKit
theorem qae {P:Program} (n:Nat) {f:FuncId} {args:List Value} (ch:List Ch) {v:Value} {T:Prop} (ht:v=v∧T) (e:qtK v (qtN P n f args ch)=(v=v∧T)):Pure P f args.toArray v:=qjj n ch (e▸ht)
abbrev qab (n d:Int):Value:=.agg #[iV n,iV d]
abbrev qlK (x:Int):Value:=.agg #[.int .u64 (wHi x),.int .u64 (wLo x)]
theorem qk6 {a b c d:Int} (h0 : -9223372036854775807≤a) (h1:a≤9223372036854775807) (h2 : -9223372036854775807≤b) (h3:b≤9223372036854775807)
 (h4 : -9223372036854775807≤c) (h5:c≤9223372036854775807) (h6 : -9223372036854775807≤d) (h7:d≤9223372036854775807):qc7 (a*b+c*d):=by
 have h:(a*b).natAbs≤9223372036854775807*9223372036854775807:=by rw[Int.natAbs_mul];exact Nat.mul_le_mul (by omega) (by omega)
 have g:(c*d).natAbs≤9223372036854775807*9223372036854775807:=by rw[Int.natAbs_mul];exact Nat.mul_le_mul (by omega) (by omega)
 unfold qc7
 generalize a*b=p at *
 generalize c*d=q at *
 omega
end Go.Proofs.Ytalnjplghagbpaa

namespace Go.Proofs.Ytalnjplghagbpaa
set_option maxRecDepth 100000
open Go.RowKit
abbrev qax (s:Bool) (hi lo:Int):Value:=.agg #[.bool s,.int .u64 hi,.int .u64 lo]
theorem qfB {x y:Int} (h:x=y) (h0:0≤y) (h1:y<18446744073709551616):Value.int .u64 (IntKind.u64.wrap x)=.int .u64 y:=by rw[h,qeO h0 h1]
abbrev qi3 (s:Bool) (A:Nat):Value:=qax s ((A/18446744073709551616:Nat):Int) ((A%18446744073709551616:Nat):Int)
end Go.Proofs.Ytalnjplghagbpaa

namespace Go.Proofs.Ytalnjplghagbpaa
set_option maxRecDepth 100000
open Go.RowKit
theorem qoC {a b c d:Int} (ha:I64 a) (hb:I64 b) (hc:I64 c) (hd:I64 d) (h1:okB a b=true) (h2:okB c d=true):Pure Try.prog 122 #[qab a b,qab c d] (.int .i64 0):=
 fun w=>qgO h1 h2▸qe2 a b c d w ha hb hc hd
set_option maxRecDepth 100000
theorem qoE {a b c d:Int} (ha:I64 a) (hb:I64 b) (hc:I64 c) (hd:I64 d) (h1:okB a b=true) (h2:okB c d=true) :
 Pure Try.prog 117 #[qab a b,qab c d] (.tuple #[.int .i64 (a*d-c*b).sign,.int .i64 0]):=by
 have b1:=qeV h1
 have d1:=qeV h2
 have a1:=qjT h1
 have c1:=qjT h2
 have hB:=qoC ha hb hc hd h1 h2
 unfold I64 at ha hb hc hd
 have e:a*d + -(c*b)=a*d-c*b:=rfl
 have f:qc7 (a*d-c*b):=by
  have:=qk6 (a:=a) (b:=d) (c:=-c) (d:=b) (by omega) (by omega) (by omega) (by omega) (by omega) (by omega) (by omega) (by omega)
  rw[Int.neg_mul] at this
  exact this
 exact qae (args:=[qab a b,qab c d]) 100 [.r (.int .i64 0),.k,.r (qlK (a*d)),.r (qlK (c*b)),.r (qlK (-(c*b))),.r (qlK (a*d-c*b)),.r (.int .i64 (a*d-c*b).sign)]
  (Ai rfl (Ai hB (Ai ((fun w=>qdY a d w (by omega) (by omega) (by omega) (by omega):Pure _ _ _ _)) (Ai ((fun w=>qdY c b w (by omega) (by omega) (by omega) (by omega):Pure _ _ _ _)) (Ai ((fun w=>qd5 (c*b) w:Pure _ _ _ _)) (Ai ((fun w=>e▸qmw (a*d) (-(c*b)) w:Pure _ _ _ _)) (Ai (fun w=>ql8 _ w f:Pure _ _ _ _) tI))))))) (by kernel_rfl)
end Go.Proofs.Ytalnjplghagbpaa

namespace Go.Proofs.Ytalnjplghagbpaa
set_option maxRecDepth 100000
def IsRes (p q N D E:Int):Prop:=
 (E=0∧okB N D=true∧I64 N∧I64 D∧N*q=p*D)∨(E=16∧N=0∧D=0∧∀ n d,okB n d=true→I64 n→I64 d→n*q≠p*d)
theorem qcp {T U n d:Int} (hU:0<U) (hd:0<d) (h1:Nat.gcd T.natAbs U.natAbs=1) (h2:Nat.gcd n.natAbs d.natAbs=1) (h:T*d=n*U):T=n∧U=d:=by
 have e:T.natAbs*d.natAbs=n.natAbs*U.natAbs:=by rw[← Int.natAbs_mul,← Int.natAbs_mul,h]
 have a1:U.natAbs ∣ d.natAbs:=Nat.Coprime.dvd_of_dvd_mul_left (show Nat.Coprime U.natAbs T.natAbs by rw[Nat.coprime_comm];exact h1) ⟨n.natAbs,by rw[e,Nat.mul_comm]⟩
 have a2:d.natAbs ∣ U.natAbs:=Nat.Coprime.dvd_of_dvd_mul_left (show Nat.Coprime d.natAbs n.natAbs by rw[Nat.coprime_comm];exact h2) ⟨T.natAbs,by rw[← e,Nat.mul_comm]⟩
 have a3:=Nat.dvd_antisymm a1 a2
 have hUd:U=d:=by omega
 subst hUd
 exact⟨Int.eq_of_mul_eq_mul_right (by omega) h,rfl⟩
theorem qdR {n d:Int}:okB n d=true↔1≤d∧n≠-9223372036854775808∧Nat.gcd n.natAbs d.natAbs=1:=by simp[okB]
theorem qoU {n d n' d':Int} (h1:okB n d=true) (h2:okB n' d'=true) (h:n*d'=n'*d):n=n'∧d=d':=by
 obtain⟨a1,_,a2⟩:=qdR.1 h1
 obtain⟨b1,_,b2⟩:=qdR.1 h2
 exact qcp (by omega) (by omega) a2 b2 h
theorem qc3 (T:Int) (h:qcj T.natAbs=true):sgV T.natAbs (decide (T<0))=T:=by
 have h':T.natAbs<9223372036854775808:=by simpa [qcj] using h
 unfold sgV
 rw[if_pos h']
 by_cases ht:T<0
 ·simp[ht];omega
 ·simp[ht];omega
theorem qmk {p q T U:Int} (hq:q≠0) (hU:0<U) (hg:Nat.gcd T.natAbs U.natAbs=1) (h:T*q=p*U) :
 IsRes p q (qfu (qcj T.natAbs&&qcj U.natAbs) (sgV T.natAbs (decide (T<0)))) (qfu (qcj T.natAbs&&qcj U.natAbs) (sgV U.natAbs (decide (U<0)))) (qoB (qcj T.natAbs&&qcj U.natAbs)):=by
 cases hf:(qcj T.natAbs&&qcj U.natAbs)
 ·refine Or.inr ⟨rfl,rfl,rfl,fun n d hk hn hd he=>?_⟩
  obtain⟨a1,a2,a3⟩:=qdR.1 hk
  have e:T*d=n*U:=by
   refine Int.eq_of_mul_eq_mul_right hq ?_
   rw[Int.mul_right_comm,h,Int.mul_right_comm n U q,he,Int.mul_right_comm]
  obtain⟨rfl,rfl⟩:=qcp hU (by omega) hg a3 e
  unfold I64 at hn hd
  have:(qcj T.natAbs&&qcj U.natAbs)=true:=by simp[qcj];omega
  rw[hf] at this
  cases this
 ·simp only[Bool.and_eq_true] at hf
  have h1:T.natAbs<9223372036854775808:=by simpa [qcj] using hf.1
  have h2:U.natAbs<9223372036854775808:=by simpa [qcj] using hf.2
  refine Or.inl ⟨rfl,?_,?_,?_,?_⟩
  ·simp only[qfu,if_true,qc3 T hf.1,qc3 U hf.2]
   exact qdR.2 ⟨by omega,by omega,hg⟩
  ·simp only[qfu,if_true,qc3 T hf.1];unfold I64;omega
  ·simp only[qfu,if_true,qc3 U hf.2];unfold I64;omega
  ·simp only[qfu,if_true,qc3 T hf.1,qc3 U hf.2];exact h
theorem qtk {a b:Int} (hb:b≠0):IsRes a b (mkN a b) (mkD a b) (mkE a b):=by
 obtain⟨g,hg⟩:∃ g:Nat,g=Nat.gcd a.natAbs b.natAbs:=⟨_,rfl⟩
 have g0:0<g:=hg▸Nat.gcd_pos_of_pos_right _ (by omega)
 have eA:mkQ a b*g=a.natAbs:=by unfold mkQ;rw[hg];exact Nat.div_mul_cancel (Nat.gcd_dvd_left _ _)
 have eB:mkP a b*g=b.natAbs:=by unfold mkP;rw[hg];exact Nat.div_mul_cancel (Nat.gcd_dvd_right _ _)
 have cop:Nat.gcd (mkQ a b) (mkP a b)=1:=by unfold mkQ mkP;exact Nat.coprime_div_gcd_div_gcd (hg▸g0)
 have hp0:0<mkP a b:=by
  rcases Nat.eq_zero_or_pos (mkP a b) with h | h
  ·rw[h] at eB;omega
  ·exact h
 obtain⟨Q,hQ⟩:∃ Q:Int,Q=if mkS a b then -(mkQ a b:Int) else mkQ a b:=⟨_,rfl⟩
 have nQ:Q.natAbs=mkQ a b:=by rw[hQ];split<;>omega
 have heq:Q*b=a*(mkP a b:Nat):=by
  have eA':((mkQ a b:Nat):Int)*(g:Int)=(a.natAbs:Int):=by rw[← Int.natCast_mul,eA]
  have eB':((mkP a b:Nat):Int)*(g:Int)=(b.natAbs:Int):=by rw[← Int.natCast_mul,eB]
  refine Int.eq_of_mul_eq_mul_right (show (g:Int)≠0 by omega) ?_
  rw[Int.mul_right_comm,Int.mul_assoc a,eB',hQ]
  unfold mkS
  by_cases ha:a<0<;>by_cases hb':b<0<;>simp[ha,hb',Int.neg_mul,eA']
  ·rw[show (a.natAbs:Int) = -a by omega,show (b.natAbs:Int) = -b by omega,Int.neg_mul,Int.mul_neg]
  ·rw[show (a.natAbs:Int) = -a by omega,show (b.natAbs:Int)=b by omega,Int.neg_mul,Int.neg_neg]
  ·rw[show (a.natAbs:Int)=a by omega,show (b.natAbs:Int) = -b by omega,Int.mul_neg]
  ·rw[show (a.natAbs:Int)=a by omega,show (b.natAbs:Int)=b by omega]
 have fin:=qmk (p:=a) (q:=b) (T:=Q) (U:=(mkP a b:Nat)) hb (by omega) (by rw[nQ];exact cop) heq
 have u1:mkN a b=qfu (qcj Q.natAbs&&qcj ((mkP a b:Nat):Int).natAbs) (sgV Q.natAbs (decide (Q<0))):=by
  unfold mkN mkF
  rw[if_neg hb,nQ,show ((mkP a b:Nat):Int).natAbs=mkP a b from rfl]
  have:sgV (mkQ a b) (mkS a b)=sgV (mkQ a b) (decide (Q<0)):=by
   unfold sgV
   split
   ·cases hs:mkS a b
    ·rw[hs] at hQ
     have hQ':Q=mkQ a b:=by simpa using hQ
     have:decide (Q<0)=false:=by simp;omega
     rw[this]
    ·rw[hs] at hQ
     have hQ':Q = -(mkQ a b:Int):=by simpa using hQ
     by_cases h0:mkQ a b=0
     ·rw[h0];simp
     ·have:decide (Q<0)=true:=by simp;omega
      rw[this]
   ·rfl
  rw[this]
 have u2:mkD a b=qfu (qcj Q.natAbs&&qcj ((mkP a b:Nat):Int).natAbs) (sgV ((mkP a b:Nat):Int).natAbs (decide (((mkP a b:Nat):Int)<0))):=by
  unfold mkD mkF
  rw[if_neg hb,nQ,show ((mkP a b:Nat):Int).natAbs=mkP a b from rfl,show decide (((mkP a b:Nat):Int)<0)=false by simp]
 have u3:mkE a b=qoB (qcj Q.natAbs&&qcj ((mkP a b:Nat):Int).natAbs):=by
  unfold mkE mkF
  rw[if_neg hb,nQ,show ((mkP a b:Nat):Int).natAbs=mkP a b from rfl]
 rw[u1,u2,u3]
 exact fin
end Go.Proofs.Ytalnjplghagbpaa

namespace Go.Proofs.Ytalnjplghagbpaa
set_option maxRecDepth 100000
open Go.RowKit
theorem IsRes.one {p q N D E n d:Int} (h:IsRes p q N D E) (hq:q≠0) (hk:okB n d=true) (hn:I64 n) (hd:I64 d) (he:n*q=p*d):N=n∧D=d∧E=0:=by
 rcases h with ⟨h1,h2,_,_,h5⟩ | ⟨_,_,_,h4⟩
 ·have:N*d=n*D:=by
   refine Int.eq_of_mul_eq_mul_right hq ?_
   rw[Int.mul_right_comm,h5,Int.mul_right_comm n D q,he,Int.mul_right_comm]
  obtain⟨a1,a2⟩:=qoU h2 hk this
  exact⟨a1,a2,h1⟩
 ·exact absurd he (h4 n d hk hn hd)
theorem qca {n d:Int} (hn:I64 n) (hd:I64 d) (h:okB n d=true):Pure Try.prog 48 #[qab n d] (.int .i64 0):=fun w=>qjq h▸qbY n d w hn.1 hn.2 hd.1 hd.2
theorem qb0 {n d:Int} (hn:I64 n) (hd:I64 d) (h:¬ okB n d=true):Pure Try.prog 48 #[qab n d] (.int .i64 8):=fun w=>qgn h▸qbY n d w hn.1 hn.2 hd.1 hd.2
theorem qkD {n d:Int} (hn:I64 n) (hd:I64 d) (h:okB n d=true):Pure Try.prog 76 #[qab n d] (.int .i64 0):=fun w=>qjq h▸qdW n d w hn.1 hn.2 hd.1 hd.2
theorem qiQ {n d:Int} (hn:I64 n) (hd:I64 d) (h:¬ okB n d=true):Pure Try.prog 76 #[qab n d] (.int .i64 8):=fun w=>qgn h▸qdW n d w hn.1 hn.2 hd.1 hd.2
theorem qnx {a b:Int} (ha:I64 a) (hb:I64 b) (h0:b≠0):∃ N D E,IsRes a b N D E∧Pure Try.prog 121 #[iV a,iV b] (.tuple #[qab N D,iV E]):=
 ⟨_,_,_,qtk h0,fun w=>qh0 a b w ha hb⟩
theorem qsp {a b c d:Int} (ha:I64 a) (hb:I64 b) (hc:I64 c) (hd:I64 d) (h1:okB a b=true) (h2:okB c d=true) :
 Pure Try.prog 117 #[qab a b,qab c d] (.tuple #[iV (a*d-c*b).sign,iV 0]):=qoE ha hb hc hd h1 h2
end Go.Proofs.Ytalnjplghagbpaa

namespace Go.Proofs.Ytalnjplghagbpaa
set_option maxRecDepth 100000
open Go.RowKit
set_option maxRecDepth 100000
theorem IsRes.fits {p q N D E:Int} (h:IsRes p q N D E) (hq:0<q) (q1:q≤9223372036854775807) (p0 : -9223372036854775807≤p) (p1:p≤9223372036854775807) :
 E=0∧okB N D=true∧I64 N∧I64 D∧N*q=p*D:=by
 rcases h with h | ⟨_,_,_,h4⟩
 ·exact h
 ·exfalso
  obtain⟨g,hg⟩:∃ g:Nat,g=Nat.gcd p.natAbs q.natAbs:=⟨_,rfl⟩
  have g0:0<g:=hg▸Nat.gcd_pos_of_pos_right _ (by omega)
  have e1:p.tdiv g*g=p:=Int.tdiv_mul_cancel (Int.ofNat_dvd_left.2 (hg▸Nat.gcd_dvd_left _ _))
  have e2:q.tdiv g*g=q:=Int.tdiv_mul_cancel (Int.ofNat_dvd_left.2 (hg▸Nat.gcd_dvd_right _ _))
  have n1:(p.tdiv g).natAbs=p.natAbs/g:=by rw[Int.natAbs_tdiv];rfl
  have n2:(q.tdiv g).natAbs=q.natAbs/g:=by rw[Int.natAbs_tdiv];rfl
  have b1:p.natAbs/g≤p.natAbs:=Nat.div_le_self _ _
  have b2:q.natAbs/g≤q.natAbs:=Nat.div_le_self _ _
  have cop:Nat.gcd (p.tdiv g).natAbs (q.tdiv g).natAbs=1:=by
   have g0':=g0
   rw[hg] at g0'
   rw[n1,n2,hg]
   exact Nat.coprime_div_gcd_div_gcd g0'
  generalize p.tdiv (g:Int)=P at *
  generalize q.tdiv (g:Int)=Q at *
  have hQ:0<Q:=by
   rcases Int.lt_trichotomy Q 0 with h' | h' | h'
   ·have:=Int.mul_neg_of_neg_of_pos h' (show (0:Int)<g by omega);omega
   ·subst h';omega
   ·exact h'
  refine h4 P Q (qdR.2 ⟨by omega,by omega,cop⟩) (by unfold I64;omega) (by unfold I64;omega) ?_
  rw[← e1,← e2]
  ac_rfl
theorem IsRes.congr {p q p' q' N D E:Int} (h:IsRes p q N D E) (hq:q≠0) (hq':q'≠0) (e:p*q'=p'*q):IsRes p' q' N D E:=by
 have key:∀ n d:Int,n*q=p*d↔n*q'=p'*d:=by
  intro n d
  constructor
  ·intro h
   refine Int.eq_of_mul_eq_mul_right hq ?_
   grind
  ·intro h
   refine Int.eq_of_mul_eq_mul_right hq' ?_
   grind
 rcases h with ⟨h1,h2,h3,h4,h5⟩ | ⟨h1,h2,h3,h4⟩
 ·exact Or.inl ⟨h1,h2,h3,h4,(key _ _).1 h5⟩
 ·exact Or.inr ⟨h1,h2,h3,fun n d a1 a2 a3 a4=>h4 n d a1 a2 a3 ((key _ _).2 a4)⟩
end Go.Proofs.Ytalnjplghagbpaa

namespace Go.Proofs.Ytalnjplghagbpaa
set_option maxRecDepth 100000
open Go.RowKit
abbrev qac (n a b:Int):Value:=.agg #[iV n,iV a,iV b]
theorem qus {pi pa pb:Int} (i0:decide (pi<0)=true) :
 Pure Try.prog 84 #[qac pi pa pb] (iV 8):=
 qae (args:=[qac pi pa pb]) 200 [.t true]
  (Ai rfl (Ai i0 tI)) (by kernel_rfl)
theorem qt7 {pi pa pb:Int} (i0:decide (pi<0)=false) (i1:decide (pi>65535)=true) :
 Pure Try.prog 84 #[qac pi pa pb] (iV 8):=
 qae (args:=[qac pi pa pb]) 200 [.t false,.t true]
  (Ai rfl (Ai i0 (Ai i1 tI))) (by kernel_rfl)
theorem quO {pi pa pb:Int} (i0:decide (pi<0)=false) (i1:decide (pi>65535)=false) (la:decide (-1048576≤pa)=false) :
 Pure Try.prog 84 #[qac pi pa pb] (iV 8):=
 qae (args:=[qac pi pa pb]) 200 [.t false,.t false,.k,.t false,.k]
  (Ai rfl (Ai i0 (Ai i1 (Ai la tI)))) (by kernel_rfl)
theorem que {pi pa pb:Int} (i0:decide (pi<0)=false) (i1:decide (pi>65535)=false) (la:decide (-1048576≤pa)=true) (ha:decide (pa≤1048576)=false) :
 Pure Try.prog 84 #[qac pi pa pb] (iV 8):=
 qae (args:=[qac pi pa pb]) 200 [.t false,.t false,.k,.t true,.t false,.k]
  (Ai rfl (Ai i0 (Ai i1 (Ai la (Ai ha tI))))) (by kernel_rfl)
theorem quM {pi pa pb:Int} (i0:decide (pi<0)=false) (i1:decide (pi>65535)=false) (la:decide (-1048576≤pa)=true) (ha:decide (pa≤1048576)=true) (lb:decide (-1048576≤pb)=false) :
 Pure Try.prog 84 #[qac pi pa pb] (iV 8):=
 qae (args:=[qac pi pa pb]) 200 [.t false,.t false,.k,.t true,.t true,.k,.k,.t false,.k]
  (Ai rfl (Ai i0 (Ai i1 (Ai la (Ai ha (Ai lb tI)))))) (by kernel_rfl)
theorem quy {pi pa pb:Int} (i0:decide (pi<0)=false) (i1:decide (pi>65535)=false) (la:decide (-1048576≤pa)=true) (ha:decide (pa≤1048576)=true) (lb:decide (-1048576≤pb)=true) (hb:decide (pb≤1048576)=false) :
 Pure Try.prog 84 #[qac pi pa pb] (iV 8):=
 qae (args:=[qac pi pa pb]) 200 [.t false,.t false,.k,.t true,.t true,.k,.k,.t true,.t false,.k]
  (Ai rfl (Ai i0 (Ai i1 (Ai la (Ai ha (Ai lb (Ai hb tI))))))) (by kernel_rfl)
theorem qun {pi pa pb:Int} (i0:decide (pi<0)=false) (i1:decide (pi>65535)=false) (la:decide (-1048576≤pa)=true) (ha:decide (pa≤1048576)=true) (lb:decide (-1048576≤pb)=true) (hb:decide (pb≤1048576)=true) :
 Pure Try.prog 84 #[qac pi pa pb] (iV 0):=
 qae (args:=[qac pi pa pb]) 200 [.t false,.t false,.k,.t true,.t true,.k,.k,.t true,.t true,.k]
  (Ai rfl (Ai i0 (Ai i1 (Ai la (Ai ha (Ai lb (Ai hb tI))))))) (by kernel_rfl)
theorem quN {pi pa pb:Int} (i0:decide (pi<0)=true) :
 Pure Try.prog 99 #[qac pi pa pb] (iV 8):=
 qae (args:=[qac pi pa pb]) 200 [.t true]
  (Ai rfl (Ai i0 tI)) (by kernel_rfl)
theorem qul {pi pa pb:Int} (i0:decide (pi<0)=false) (i1:decide (pi>65535)=true) :
 Pure Try.prog 99 #[qac pi pa pb] (iV 8):=
 qae (args:=[qac pi pa pb]) 200 [.t false,.t true]
  (Ai rfl (Ai i0 (Ai i1 tI))) (by kernel_rfl)
theorem quY {pi pa pb:Int} (i0:decide (pi<0)=false) (i1:decide (pi>65535)=false) (la:decide (pa < -1048576)=true) :
 Pure Try.prog 99 #[qac pi pa pb] (iV 8):=
 qae (args:=[qac pi pa pb]) 200 [.t false,.t false,.t true]
  (Ai rfl (Ai i0 (Ai i1 (Ai la tI)))) (by kernel_rfl)
theorem quq {pi pa pb:Int} (i0:decide (pi<0)=false) (i1:decide (pi>65535)=false) (la:decide (pa < -1048576)=false) (ha:decide (pa>1048576)=true) :
 Pure Try.prog 99 #[qac pi pa pb] (iV 8):=
 qae (args:=[qac pi pa pb]) 200 [.t false,.t false,.t false,.t true]
  (Ai rfl (Ai i0 (Ai i1 (Ai la (Ai ha tI))))) (by kernel_rfl)
theorem qvl {pi pa pb:Int} (i0:decide (pi<0)=false) (i1:decide (pi>65535)=false) (la:decide (pa < -1048576)=false) (ha:decide (pa>1048576)=false) (lb:decide (pb < -1048576)=true) :
 Pure Try.prog 99 #[qac pi pa pb] (iV 8):=
 qae (args:=[qac pi pa pb]) 200 [.t false,.t false,.t false,.t false,.t true]
  (Ai rfl (Ai i0 (Ai i1 (Ai la (Ai ha (Ai lb tI)))))) (by kernel_rfl)
theorem qu2 {pi pa pb:Int} (i0:decide (pi<0)=false) (i1:decide (pi>65535)=false) (la:decide (pa < -1048576)=false) (ha:decide (pa>1048576)=false) (lb:decide (pb < -1048576)=false) (hb:decide (pb>1048576)=true) :
 Pure Try.prog 99 #[qac pi pa pb] (iV 8):=
 qae (args:=[qac pi pa pb]) 200 [.t false,.t false,.t false,.t false,.t false,.t true]
  (Ai rfl (Ai i0 (Ai i1 (Ai la (Ai ha (Ai lb (Ai hb tI))))))) (by kernel_rfl)
theorem qsb {pi pa pb:Int} (i0:decide (pi<0)=false) (i1:decide (pi>65535)=false) (la:decide (pa < -1048576)=false) (ha:decide (pa>1048576)=false) (lb:decide (pb < -1048576)=false) (hb:decide (pb>1048576)=false) :
 Pure Try.prog 99 #[qac pi pa pb] (iV 0):=
 qae (args:=[qac pi pa pb]) 200 [.t false,.t false,.t false,.t false,.t false,.t false]
  (Ai rfl (Ai i0 (Ai i1 (Ai la (Ai ha (Ai lb (Ai hb tI))))))) (by kernel_rfl)
theorem qfy {pi pa pb qi qa qb x y m n:Int} (v1:iV (IntKind.i64.wrap (qa-pa))=iV x) (v2:iV (IntKind.i64.wrap (pb-qb))=iV y) (c1:Pure Try.prog 121 #[iV x,iV y] (.tuple #[qab m n,iV 0])) :
 Pure Try.prog 115 #[qac pi pa pb,qac qi qa qb] (qab m n):=
 qae (args:=[qac pi pa pb,qac qi qa qb]) 200 [Re v1,Re v2,Rf c1]
  (Ai rfl (Ai v1 (Ai v2 (Ai c1 tI)))) (by kernel_rfl)
abbrev qok (d:Int) (n:Int):Prop:=Pure Try.prog 48 #[qab n d] (iV 0)
abbrev qox (pa:Int) (pb:Int) (pi:Int) (qa:Int) (qb:Int) (qi:Int):Prop:=Pure Try.prog 104 #[qac pi pa pb,qac qi qa qb] (iV 0)
abbrev qn7 (pa:Int) (pb:Int) (pi:Int):Prop:=Pure Try.prog 84 #[qac pi pa pb] (iV 0)
abbrev qn8 (qa:Int) (qb:Int) (qi:Int):Prop:=Pure Try.prog 84 #[qac qi qa qb] (iV 0)
theorem qne {pi pa pb qi qa qb n d:Int} (cp:qn7 pa pb pi) (cq:qn8 qa qb qi) (ct:qok d n) (ci:qox pa pb pi qa qb qi) (w:(pa==qa&&(pb==qb&&true))=true) (r:decide (pi<qi)=true) :
 Pure Try.prog 79 #[qac pi pa pb,qac qi qa qb,qab n d] (.tuple #[.bool true,iV 0]):=
 qae (args:=[qac pi pa pb,qac qi qa qb,qab n d]) 200 [Rf cp,Rf cp,Rf cp,Rf cp,.k,.k,.k,.k,.k,.k,.k,.k,.k,.k,.k,.k,.k,.k,.k,.k,.k,.k,.t true,.k,.t true]
  (Ai rfl (Ai cp (Ai cq (Ai ct (Ai ci (Ai w (Ai r tI))))))) (by kernel_rfl)
theorem ql1 {pi pa pb qi qa qb n d:Int} (cp:qn7 pa pb pi) (cq:qn8 qa qb qi) (ct:qok d n) (ci:qox pa pb pi qa qb qi) (w:(pa==qa&&(pb==qb&&true))=false) (bb:(pb==qb)=true) (r:decide (pa>qa)=true) :
 Pure Try.prog 79 #[qac pi pa pb,qac qi qa qb,qab n d] (.tuple #[.bool true,iV 0]):=
 qae (args:=[qac pi pa pb,qac qi qa qb,qab n d]) 200 [Rf cp,Rf cp,Rf cp,Rf cp,.k,.k,.k,.k,.k,.k,.k,.k,.k,.k,.k,.k,.k,.k,.k,.k,.k,.k,.t false,.t true,.k,.t true]
  (Ai rfl (Ai cp (Ai cq (Ai ct (Ai ci (Ai w (Ai bb (Ai r tI)))))))) (by kernel_rfl)
theorem qmv {pi pa pb qi qa qb n d:Int} (cp:qn7 pa pb pi) (cq:qn8 qa qb qi) (ct:qok d n) (ci:qox pa pb pi qa qb qi) (w:(pa==qa&&(pb==qb&&true))=true) (r:decide (pi<qi)=false) :
 Pure Try.prog 79 #[qac pi pa pb,qac qi qa qb,qab n d] (.tuple #[.bool false,iV 0]):=
 qae (args:=[qac pi pa pb,qac qi qa qb,qab n d]) 200 [Rf cp,Rf cp,Rf cp,Rf cp,.k,.k,.k,.k,.k,.k,.k,.k,.k,.k,.k,.k,.k,.k,.k,.k,.k,.k,.t true,.k,.t false]
  (Ai rfl (Ai cp (Ai cq (Ai ct (Ai ci (Ai w (Ai r tI))))))) (by kernel_rfl)
theorem qms {pi pa pb qi qa qb n d:Int} (cp:qn7 pa pb pi) (cq:qn8 qa qb qi) (ct:qok d n) (ci:qox pa pb pi qa qb qi) (w:(pa==qa&&(pb==qb&&true))=false) (bb:(pb==qb)=true) (r:decide (pa>qa)=false) :
 Pure Try.prog 79 #[qac pi pa pb,qac qi qa qb,qab n d] (.tuple #[.bool false,iV 0]):=
 qae (args:=[qac pi pa pb,qac qi qa qb,qab n d]) 200 [Rf cp,Rf cp,Rf cp,Rf cp,.k,.k,.k,.k,.k,.k,.k,.k,.k,.k,.k,.k,.k,.k,.k,.k,.k,.k,.t false,.t true,.k,.t false]
  (Ai rfl (Ai cp (Ai cq (Ai ct (Ai ci (Ai w (Ai bb (Ai r tI)))))))) (by kernel_rfl)
abbrev qtF (d:Int) (k:Int) (md:Int) (mn:Int) (n:Int):Prop:=Pure Try.prog 117 #[qab n d,qab mn md] (.tuple #[iV k,iV 0])
theorem qjd {pi pa pb qi qa qb n d mn md k:Int} (cp:qn7 pa pb pi) (cq:qn8 qa qb qi) (ct:qok d n) (ci:qox pa pb pi qa qb qi) (w:(pa==qa&&(pb==qb&&true))=false) (bb:(pb==qb)=false) (cm:Pure Try.prog 115 #[qac pi pa pb,qac qi qa qb] (qab mn md)) (cc:qtF d k md mn n) (g1:decide (k≥0)=true) (g2:decide (pb>qb)=true) :
 Pure Try.prog 79 #[qac pi pa pb,qac qi qa qb,qab n d] (.tuple #[.bool true,iV 0]):=
 qae (args:=[qac pi pa pb,qac qi qa qb,qab n d]) 200 [Rf cp,Rf cp,Rf cp,Rf cp,.k,.k,.k,.k,.k,.k,.k,.k,.k,.k,.k,.k,.k,.k,.k,.k,.k,.k,.t false,.t false,Rf cm,.k,Rf cc,.t true,.t true]
  (Ai rfl (Ai cp (Ai cq (Ai ct (Ai ci (Ai w (Ai bb (Ai cm (Ai cc (Ai g1 (Ai g2 tI))))))))))) (by kernel_rfl)
theorem qjC {pi pa pb qi qa qb n d mn md k:Int} (cp:qn7 pa pb pi) (cq:qn8 qa qb qi) (ct:qok d n) (ci:qox pa pb pi qa qb qi) (w:(pa==qa&&(pb==qb&&true))=false) (bb:(pb==qb)=false) (cm:Pure Try.prog 115 #[qac pi pa pb,qac qi qa qb] (qab mn md)) (cc:qtF d k md mn n) (g1:decide (k≥0)=true) (g2:decide (pb>qb)=false) :
 Pure Try.prog 79 #[qac pi pa pb,qac qi qa qb,qab n d] (.tuple #[.bool false,iV 0]):=
 qae (args:=[qac pi pa pb,qac qi qa qb,qab n d]) 200 [Rf cp,Rf cp,Rf cp,Rf cp,.k,.k,.k,.k,.k,.k,.k,.k,.k,.k,.k,.k,.k,.k,.k,.k,.k,.k,.t false,.t false,Rf cm,.k,Rf cc,.t true,.t false]
  (Ai rfl (Ai cp (Ai cq (Ai ct (Ai ci (Ai w (Ai bb (Ai cm (Ai cc (Ai g1 (Ai g2 tI))))))))))) (by kernel_rfl)
theorem qkG {pi pa pb qi qa qb n d mn md k:Int} (cp:qn7 pa pb pi) (cq:qn8 qa qb qi) (ct:qok d n) (ci:qox pa pb pi qa qb qi) (w:(pa==qa&&(pb==qb&&true))=false) (bb:(pb==qb)=false) (cm:Pure Try.prog 115 #[qac pi pa pb,qac qi qa qb] (qab mn md)) (cc:qtF d k md mn n) (g1:decide (k≥0)=false) (g2:decide (pb>qb)=true) :
 Pure Try.prog 79 #[qac pi pa pb,qac qi qa qb,qab n d] (.tuple #[.bool false,iV 0]):=
 qae (args:=[qac pi pa pb,qac qi qa qb,qab n d]) 200 [Rf cp,Rf cp,Rf cp,Rf cp,.k,.k,.k,.k,.k,.k,.k,.k,.k,.k,.k,.k,.k,.k,.k,.k,.k,.k,.t false,.t false,Rf cm,.k,Rf cc,.t false,.t true]
  (Ai rfl (Ai cp (Ai cq (Ai ct (Ai ci (Ai w (Ai bb (Ai cm (Ai cc (Ai g1 (Ai g2 tI))))))))))) (by kernel_rfl)
theorem qkC {pi pa pb qi qa qb n d mn md k:Int} (cp:qn7 pa pb pi) (cq:qn8 qa qb qi) (ct:qok d n) (ci:qox pa pb pi qa qb qi) (w:(pa==qa&&(pb==qb&&true))=false) (bb:(pb==qb)=false) (cm:Pure Try.prog 115 #[qac pi pa pb,qac qi qa qb] (qab mn md)) (cc:qtF d k md mn n) (g1:decide (k≥0)=false) (g2:decide (pb>qb)=false) :
 Pure Try.prog 79 #[qac pi pa pb,qac qi qa qb,qab n d] (.tuple #[.bool true,iV 0]):=
 qae (args:=[qac pi pa pb,qac qi qa qb,qab n d]) 200 [Rf cp,Rf cp,Rf cp,Rf cp,.k,.k,.k,.k,.k,.k,.k,.k,.k,.k,.k,.k,.k,.k,.k,.k,.k,.k,.t false,.t false,Rf cm,.k,Rf cc,.t false,.t false]
  (Ai rfl (Ai cp (Ai cq (Ai ct (Ai ci (Ai w (Ai bb (Ai cm (Ai cc (Ai g1 (Ai g2 tI))))))))))) (by kernel_rfl)
theorem qtX {pi pa pb qi qa qb:Int} (ij:(pi==qi)=false) :
 Pure Try.prog 104 #[qac pi pa pb,qac qi qa qb] (iV 0):=
 qae (args:=[qac pi pa pb,qac qi qa qb]) 200 [.t false]
  (Ai rfl (Ai ij tI)) (by kernel_rfl)
end Go.Proofs.Ytalnjplghagbpaa

namespace Go.Proofs.Ytalnjplghagbpaa
set_option maxRecDepth 100000
open Go.RowKit
theorem qiy {a b ah al bh bl low p1 lh m p2 mr n p3 mh s1 nh hi nr nr2 lr lo:Int} (nz:¬ (4294967296:Int)=0) (q1:Value.int .u64 (IntKind.u64.wrap (Int.tdiv a 4294967296))=.int .u64 ah) (q2:Value.int .u64 (Int.tmod a 4294967296)=.int .u64 al) (q3:Value.int .u64 (IntKind.u64.wrap (Int.tdiv b 4294967296))=.int .u64 bh) (q4:Value.int .u64 (Int.tmod b 4294967296)=.int .u64 bl) (x1:Value.int .u64 (IntKind.u64.wrap (al*bl))=.int .u64 low) (x2:Value.int .u64 (IntKind.u64.wrap (ah*bl))=.int .u64 p1) (q5:Value.int .u64 (IntKind.u64.wrap (Int.tdiv low 4294967296))=.int .u64 lh) (x3:Value.int .u64 (IntKind.u64.wrap (p1+lh))=.int .u64 m) (x4:Value.int .u64 (IntKind.u64.wrap (al*bh))=.int .u64 p2) (q6:Value.int .u64 (Int.tmod m 4294967296)=.int .u64 mr) (x5:Value.int .u64 (IntKind.u64.wrap (p2+mr))=.int .u64 n) (x6:Value.int .u64 (IntKind.u64.wrap (ah*bh))=.int .u64 p3) (q7:Value.int .u64 (IntKind.u64.wrap (Int.tdiv m 4294967296))=.int .u64 mh) (x7:Value.int .u64 (IntKind.u64.wrap (p3+mh))=.int .u64 s1) (q8:Value.int .u64 (IntKind.u64.wrap (Int.tdiv n 4294967296))=.int .u64 nh) (x8:Value.int .u64 (IntKind.u64.wrap (s1+nh))=.int .u64 hi) (q9:Value.int .u64 (Int.tmod n 4294967296)=.int .u64 nr) (x9:Value.int .u64 (IntKind.u64.wrap (nr*4294967296))=.int .u64 nr2) (q10:Value.int .u64 (Int.tmod low 4294967296)=.int .u64 lr) (x10:Value.int .u64 (IntKind.u64.wrap (nr2+lr))=.int .u64 lo) :
 Pure Try.prog 137 #[.int .u64 a,.int .u64 b] (qax false hi lo):=
 qae (args:=[.int .u64 a,.int .u64 b]) 200 [Re q1,Re q2,Re q3,Re q4,Re x1,Re x2,Re q5,Re x3,Re x4,Re q6,Re x5,Re x6,Re q7,Re x7,Re q8,Re x8,Re q9,Re x9,Re q10,Re x10]
  (Ai rfl (Ai nz (Ai q1 (Ai nz (Ai q2 (Ai nz (Ai q3 (Ai nz (Ai q4 (Ai x1 (Ai x2 (Ai nz (Ai q5 (Ai x3 (Ai x4 (Ai nz (Ai q6 (Ai x5 (Ai x6 (Ai nz (Ai q7 (Ai x7 (Ai nz (Ai q8 (Ai x8 (Ai nz (Ai q9 (Ai x9 (Ai nz (Ai q10 (Ai x10 tI))))))))))))))))))))))))))))))) (by kernel_rfl)
abbrev qqP (hi:Int) (lo:Int) (za:Int) (zb:Int):Prop:=Pure Try.prog 137 #[.int .u64 za,.int .u64 zb] (qax false hi lo)
abbrev qqI (a:Int) (za:Int):Prop:=Pure Try.prog 101 #[iV a] (.int .u64 za)
abbrev qqR (b:Int) (zb:Int):Prop:=Pure Try.prog 101 #[iV b] (.int .u64 zb)
theorem qh6 {a b za zb hi lo:Int} (c1:qqI a za) (c2:qqR b zb) (c3:qqP hi lo za zb) (t1:decide (a<0)=true) (t2:decide (b<0)=true) :
 Pure Try.prog 129 #[iV a,iV b] (qax false hi lo):=
 qae (args:=[iV a,iV b]) 200 [Rf c1,Rf c2,Rf c3,.t true,.t true,.k]
  (Ai rfl (Ai c1 (Ai c2 (Ai c3 (Ai t1 (Ai t2 tI)))))) (by kernel_rfl)
theorem qiD {a b za zb hi lo:Int} (c1:qqI a za) (c2:qqR b zb) (c3:qqP hi lo za zb) (t1:decide (a<0)=true) (t2:decide (b<0)=false) (t3:(a !=0)=true) (t4:(b !=0)=false) :
 Pure Try.prog 129 #[iV a,iV b] (qax false hi lo):=
 qae (args:=[iV a,iV b]) 200 [Rf c1,Rf c2,Rf c3,.t true,.t false,.k,.t true,.t false]
  (Ai rfl (Ai c1 (Ai c2 (Ai c3 (Ai t1 (Ai t2 (Ai t3 (Ai t4 tI)))))))) (by kernel_rfl)
theorem qiJ {a b za zb hi lo:Int} (c1:qqI a za) (c2:qqR b zb) (c3:qqP hi lo za zb) (t1:decide (a<0)=true) (t2:decide (b<0)=false) (t3:(a !=0)=true) (t4:(b !=0)=true) :
 Pure Try.prog 129 #[iV a,iV b] (qax true hi lo):=
 qae (args:=[iV a,iV b]) 200 [Rf c1,Rf c2,Rf c3,.t true,.t false,.k,.t true,.t true]
  (Ai rfl (Ai c1 (Ai c2 (Ai c3 (Ai t1 (Ai t2 (Ai t3 (Ai t4 tI)))))))) (by kernel_rfl)
theorem qiz {a b za zb hi lo:Int} (c1:qqI a za) (c2:qqR b zb) (c3:qqP hi lo za zb) (t1:decide (a<0)=false) (t2:decide (b<0)=true) (t3:(a !=0)=false) :
 Pure Try.prog 129 #[iV a,iV b] (qax false hi lo):=
 qae (args:=[iV a,iV b]) 200 [Rf c1,Rf c2,Rf c3,.t false,.t true,.k,.t false]
  (Ai rfl (Ai c1 (Ai c2 (Ai c3 (Ai t1 (Ai t2 (Ai t3 tI))))))) (by kernel_rfl)
theorem qiv {a b za zb hi lo:Int} (c1:qqI a za) (c2:qqR b zb) (c3:qqP hi lo za zb) (t1:decide (a<0)=false) (t2:decide (b<0)=true) (t3:(a !=0)=true) (t4:(b !=0)=true) :
 Pure Try.prog 129 #[iV a,iV b] (qax true hi lo):=
 qae (args:=[iV a,iV b]) 200 [Rf c1,Rf c2,Rf c3,.t false,.t true,.k,.t true,.t true]
  (Ai rfl (Ai c1 (Ai c2 (Ai c3 (Ai t1 (Ai t2 (Ai t3 (Ai t4 tI)))))))) (by kernel_rfl)
theorem qhY {a b za zb hi lo:Int} (c1:qqI a za) (c2:qqR b zb) (c3:qqP hi lo za zb) (t1:decide (a<0)=false) (t2:decide (b<0)=false) :
 Pure Try.prog 129 #[iV a,iV b] (qax false hi lo):=
 qae (args:=[iV a,iV b]) 200 [Rf c1,Rf c2,Rf c3,.t false,.t false,.k]
  (Ai rfl (Ai c1 (Ai c2 (Ai c3 (Ai t1 (Ai t2 tI)))))) (by kernel_rfl)
theorem qpE {hi lo:Int} {s:Bool} (t1:(hi==0)=true) (t2:(lo==0)=true) :
 Pure Try.prog 127 #[qax s hi lo] (iV 0):=
 qae (args:=[qax s hi lo]) 200 [.t true,.t true]
  (Ai rfl (Ai t1 (Ai t2 tI))) (by kernel_rfl)
theorem qmK {hi lo:Int} (t1:(hi==0)=false) :
 Pure Try.prog 127 #[qax true hi lo] (iV (-1)):=
 qae (args:=[qax true hi lo]) 200 [.t false]
  (Ai rfl (Ai t1 tI)) (by kernel_rfl)
theorem qml {hi lo:Int} (t1:(hi==0)=true) (t2:(lo==0)=false) :
 Pure Try.prog 127 #[qax true hi lo] (iV (-1)):=
 qae (args:=[qax true hi lo]) 200 [.t true,.t false]
  (Ai rfl (Ai t1 (Ai t2 tI))) (by kernel_rfl)
theorem qmh {hi lo:Int} (t1:(hi==0)=false) :
 Pure Try.prog 127 #[qax false hi lo] (iV 1):=
 qae (args:=[qax false hi lo]) 200 [.t false]
  (Ai rfl (Ai t1 tI)) (by kernel_rfl)
theorem qnk {hi lo:Int} (t1:(hi==0)=true) (t2:(lo==0)=false) :
 Pure Try.prog 127 #[qax false hi lo] (iV 1):=
 qae (args:=[qax false hi lo]) 200 [.t true,.t false]
  (Ai rfl (Ai t1 (Ai t2 tI))) (by kernel_rfl)
theorem qni {a b c d:Int} {s t:Bool} (t1:(a !=c)=true) (t2:decide (a<c)=true) :
 Pure Try.prog 135 #[qax s a b,qax t c d] (iV (-1)):=
 qae (args:=[qax s a b,qax t c d]) 200 [.t true,.t true]
  (Ai rfl (Ai t1 (Ai t2 tI))) (by kernel_rfl)
theorem qnu {a b c d:Int} {s t:Bool} (t1:(a !=c)=true) (t2:decide (a<c)=false) :
 Pure Try.prog 135 #[qax s a b,qax t c d] (iV 1):=
 qae (args:=[qax s a b,qax t c d]) 200 [.t true,.t false]
  (Ai rfl (Ai t1 (Ai t2 tI))) (by kernel_rfl)
theorem qlX {a b c d:Int} {s t:Bool} (t1:(a !=c)=false) (t3:(b !=d)=true) (t4:decide (b<d)=true) :
 Pure Try.prog 135 #[qax s a b,qax t c d] (iV (-1)):=
 qae (args:=[qax s a b,qax t c d]) 200 [.t false,.t true,.t true]
  (Ai rfl (Ai t1 (Ai t3 (Ai t4 tI)))) (by kernel_rfl)
theorem qlQ {a b c d:Int} {s t:Bool} (t1:(a !=c)=false) (t3:(b !=d)=true) (t4:decide (b<d)=false) :
 Pure Try.prog 135 #[qax s a b,qax t c d] (iV 1):=
 qae (args:=[qax s a b,qax t c d]) 200 [.t false,.t true,.t false]
  (Ai rfl (Ai t1 (Ai t3 (Ai t4 tI)))) (by kernel_rfl)
theorem qmY {a b c d:Int} {s t:Bool} (t1:(a !=c)=false) (t3:(b !=d)=false) :
 Pure Try.prog 135 #[qax s a b,qax t c d] (iV 0):=
 qae (args:=[qax s a b,qax t c d]) 200 [.t false,.t false]
  (Ai rfl (Ai t1 (Ai t3 tI))) (by kernel_rfl)
theorem qr3 {a b c d h l:Int} {s t:Bool} (x1:Value.int .u64 (IntKind.u64.wrap (a-c))=.int .u64 h) (x2:Value.int .u64 (IntKind.u64.wrap (b-d))=.int .u64 l) (t1:decide (b<d)=false) :
 Pure Try.prog 136 #[qax s a b,qax t c d] (qax false h l):=
 qae (args:=[qax s a b,qax t c d]) 200 [Re x1,Re x2,.t false]
  (Ai rfl (Ai x1 (Ai x2 (Ai t1 tI)))) (by kernel_rfl)
theorem qsR {a b c d h l h1:Int} {s t:Bool} (x1:Value.int .u64 (IntKind.u64.wrap (a-c))=.int .u64 h) (x2:Value.int .u64 (IntKind.u64.wrap (b-d))=.int .u64 l) (t1:decide (b<d)=true) (x3:Value.int .u64 (IntKind.u64.wrap (h-1))=.int .u64 h1) :
 Pure Try.prog 136 #[qax s a b,qax t c d] (qax false h1 l):=
 qae (args:=[qax s a b,qax t c d]) 200 [Re x1,Re x2,.t true,Re x3]
  (Ai rfl (Ai x1 (Ai x2 (Ai t1 (Ai x3 tI))))) (by kernel_rfl)
theorem qj8 {a b c d h l:Int} (x1:Value.int .u64 (IntKind.u64.wrap (a+c))=.int .u64 h) (x2:Value.int .u64 (IntKind.u64.wrap (b+d))=.int .u64 l) (t1:decide (l<b)=false) :
 Pure Try.prog 128 #[qax true a b,qax true c d] (qax true h l):=
 qae (args:=[qax true a b,qax true c d]) 200 [.k,Re x1,Re x2,.t false]
  (Ai rfl (Ai x1 (Ai x2 (Ai t1 tI)))) (by kernel_rfl)
theorem qj3 {a b c d h l h1:Int} (x1:Value.int .u64 (IntKind.u64.wrap (a+c))=.int .u64 h) (x2:Value.int .u64 (IntKind.u64.wrap (b+d))=.int .u64 l) (t1:decide (l<b)=true) (x3:Value.int .u64 (IntKind.u64.wrap (h+1))=.int .u64 h1) :
 Pure Try.prog 128 #[qax true a b,qax true c d] (qax true h1 l):=
 qae (args:=[qax true a b,qax true c d]) 200 [.k,Re x1,Re x2,.t true,Re x3]
  (Ai rfl (Ai x1 (Ai x2 (Ai t1 (Ai x3 tI))))) (by kernel_rfl)
theorem qjX {a b c d h l e:Int} (c1:Pure Try.prog 135 #[qax true a b,qax false c d] (iV e)) (t1:decide (e≥0)=true) (c2:Pure Try.prog 136 #[qax true a b,qax false c d] (qax false h l)) (t2:decide (h>0)=true) :
 Pure Try.prog 128 #[qax true a b,qax false c d] (qax true h l):=
 qae (args:=[qax true a b,qax false c d]) 200 [.k,Rf c1,.t true,Rf c2,.t true]
  (Ai rfl (Ai c1 (Ai t1 (Ai c2 (Ai t2 tI))))) (by kernel_rfl)
theorem qkJ {a b c d h l e:Int} (c1:Pure Try.prog 135 #[qax true a b,qax false c d] (iV e)) (t1:decide (e≥0)=true) (c2:Pure Try.prog 136 #[qax true a b,qax false c d] (qax false h l)) (t2:decide (h>0)=false) (t3:decide (l>0)=true) :
 Pure Try.prog 128 #[qax true a b,qax false c d] (qax true h l):=
 qae (args:=[qax true a b,qax false c d]) 200 [.k,Rf c1,.t true,Rf c2,.t false,.t true]
  (Ai rfl (Ai c1 (Ai t1 (Ai c2 (Ai t2 (Ai t3 tI)))))) (by kernel_rfl)
theorem qkQ {a b c d h l e:Int} (c1:Pure Try.prog 135 #[qax true a b,qax false c d] (iV e)) (t1:decide (e≥0)=true) (c2:Pure Try.prog 136 #[qax true a b,qax false c d] (qax false h l)) (t2:decide (h>0)=false) (t3:decide (l>0)=false) :
 Pure Try.prog 128 #[qax true a b,qax false c d] (qax false h l):=
 qae (args:=[qax true a b,qax false c d]) 200 [.k,Rf c1,.t true,Rf c2,.t false,.t false]
  (Ai rfl (Ai c1 (Ai t1 (Ai c2 (Ai t2 (Ai t3 tI)))))) (by kernel_rfl)
theorem ql4 {a b c d h l e:Int} (c1:Pure Try.prog 135 #[qax true a b,qax false c d] (iV e)) (t1:decide (e≥0)=false) (c2:Pure Try.prog 136 #[qax false c d,qax true a b] (qax false h l)) :
 Pure Try.prog 128 #[qax true a b,qax false c d] (qax false h l):=
 qae (args:=[qax true a b,qax false c d]) 200 [.k,Rf c1,.t false,Rf c2]
  (Ai rfl (Ai c1 (Ai t1 (Ai c2 tI)))) (by kernel_rfl)
theorem qk4 {a b c d h l:Int} (x1:Value.int .u64 (IntKind.u64.wrap (a+c))=.int .u64 h) (x2:Value.int .u64 (IntKind.u64.wrap (b+d))=.int .u64 l) (t1:decide (l<b)=false) :
 Pure Try.prog 128 #[qax false a b,qax false c d] (qax false h l):=
 qae (args:=[qax false a b,qax false c d]) 200 [.k,Re x1,Re x2,.t false]
  (Ai rfl (Ai x1 (Ai x2 (Ai t1 tI)))) (by kernel_rfl)
theorem qjB {a b c d h l h1:Int} (x1:Value.int .u64 (IntKind.u64.wrap (a+c))=.int .u64 h) (x2:Value.int .u64 (IntKind.u64.wrap (b+d))=.int .u64 l) (t1:decide (l<b)=true) (x3:Value.int .u64 (IntKind.u64.wrap (h+1))=.int .u64 h1) :
 Pure Try.prog 128 #[qax false a b,qax false c d] (qax false h1 l):=
 qae (args:=[qax false a b,qax false c d]) 200 [.k,Re x1,Re x2,.t true,Re x3]
  (Ai rfl (Ai x1 (Ai x2 (Ai t1 (Ai x3 tI))))) (by kernel_rfl)
theorem qmr {a b c d h l e:Int} (c1:Pure Try.prog 135 #[qax false a b,qax true c d] (iV e)) (t1:decide (e≥0)=true) (c2:Pure Try.prog 136 #[qax false a b,qax true c d] (qax false h l)) :
 Pure Try.prog 128 #[qax false a b,qax true c d] (qax false h l):=
 qae (args:=[qax false a b,qax true c d]) 200 [.k,Rf c1,.t true,Rf c2]
  (Ai rfl (Ai c1 (Ai t1 (Ai c2 tI)))) (by kernel_rfl)
theorem qna {a b c d h l e:Int} (c1:Pure Try.prog 135 #[qax false a b,qax true c d] (iV e)) (t1:decide (e≥0)=false) (c2:Pure Try.prog 136 #[qax true c d,qax false a b] (qax false h l)) :
 Pure Try.prog 128 #[qax false a b,qax true c d] (qax true h l):=
 qae (args:=[qax false a b,qax true c d]) 200 [.k,Rf c1,.t false,Rf c2]
  (Ai rfl (Ai c1 (Ai t1 (Ai c2 tI)))) (by kernel_rfl)
end Go.Proofs.Ytalnjplghagbpaa
