/-
  Joined: Q, Rt, T, Num, Con, Sm, Cp. Conditions: none.
-/
import Derived.Test.YtgbmdijodlfcaaaSxJ
import Derived.Test.YtgbmdijodlfcaaaW3
import Derived.Test.YtgbmdijodlfcaaaW21
import Derived.Laws.Bits64b
import Derived.Test.YtgbmdijodlfcaaaW2
namespace Go.Proofs.Ytgbmdijodlfcaaa
set_option maxRecDepth 100000
open Go.RowKit
theorem qal {P:Program} (n:Nat) {f:FuncId} {args:List Value} (ch:List Ch) {v:Value} {T:Prop} (ht:v=v∧T) (e:qpw v (qpB P n f args ch)=(v=v∧T)):Pure P f args.toArray v:=qiv n ch (e▸ht)
abbrev qac (n d:Int):Value:=.agg #[iV n,iV d]
abbrev qj2 (x:Int):Value:=.agg #[.int .u64 (wHi x),.int .u64 (wLo x)]
theorem qiW {a b c d:Int} (h0 : -9223372036854775807≤a) (h1:a≤9223372036854775807) (h2 : -9223372036854775807≤b) (h3:b≤9223372036854775807)
 (h4 : -9223372036854775807≤c) (h5:c≤9223372036854775807) (h6 : -9223372036854775807≤d) (h7:d≤9223372036854775807):qcT (a*b+c*d):=by
 have h:(a*b).natAbs≤9223372036854775807*9223372036854775807:=by rw[Int.natAbs_mul];exact Nat.mul_le_mul (by omega) (by omega)
 have g:(c*d).natAbs≤9223372036854775807*9223372036854775807:=by rw[Int.natAbs_mul];exact Nat.mul_le_mul (by omega) (by omega)
 unfold qcT
 generalize a*b=p at *
 generalize c*d=q at *
 omega
end Go.Proofs.Ytgbmdijodlfcaaa

namespace Go.Proofs.Ytgbmdijodlfcaaa
set_option maxRecDepth 100000
open Go.RowKit
theorem qrh (ah al bh bl:Nat):(ah*4294967296+al)*(bh*4294967296+bl)=ah*bh*18446744073709551616+(ah*bl+al*bh)*4294967296+al*bl:=by
 have e1:ah*4294967296*(bh*4294967296)=ah*bh*18446744073709551616:=Nat.mul_mul_mul_comm ah 4294967296 bh 4294967296
 have e2:ah*4294967296*bl=ah*bl*4294967296:=Nat.mul_right_comm ah 4294967296 bl
 have e3:al*(bh*4294967296)=al*bh*4294967296:=(Nat.mul_assoc al bh 4294967296).symm
 rw[Nat.add_mul,Nat.mul_add,Nat.mul_add,e1,e2,e3,Nat.add_mul]
 omega
end Go.Proofs.Ytgbmdijodlfcaaa

namespace Go.Proofs.Ytgbmdijodlfcaaa
set_option maxRecDepth 100000
open Go.RowKit
theorem qmA {a b c d:Int} (ha:I64 a) (hb:I64 b) (hc:I64 c) (hd:I64 d) (h1:okB a b=true) (h2:okB c d=true):Pure Try.prog 94 #[qac a b,qac c d] (.int .i64 0):=
 fun w=>qfZ h1 h2▸qeX a b c d w ha hb hc hd
set_option maxRecDepth 100000
theorem qnp {a b c d:Int} (ha:I64 a) (hb:I64 b) (hc:I64 c) (hd:I64 d) (h1:okB a b=true) (h2:okB c d=true) :
 Pure Try.prog 91 #[qac a b,qac c d] (.tuple #[.int .i64 (a*d-c*b).sign,.int .i64 0]):=by
 have b1:=qeu h1
 have d1:=qeu h2
 have a1:=qjf h1
 have c1:=qjf h2
 have hB:=qmA ha hb hc hd h1 h2
 unfold I64 at ha hb hc hd
 have e:a*d + -(c*b)=a*d-c*b:=rfl
 have f:qcT (a*d-c*b):=by
  have:=qiW (a:=a) (b:=d) (c:=-c) (d:=b) (by omega) (by omega) (by omega) (by omega) (by omega) (by omega) (by omega) (by omega)
  rw[Int.neg_mul] at this
  exact this
 exact qal (args:=[qac a b,qac c d]) 100 [.r (.int .i64 0),.k,.r (qj2 (a*d)),.r (qj2 (c*b)),.r (qj2 (-(c*b))),.r (qj2 (a*d-c*b)),.r (.int .i64 (a*d-c*b).sign)]
  (Ai rfl (Ai hB (Ai ((fun w=>qdB a d w (by omega) (by omega) (by omega) (by omega):Pure _ _ _ _)) (Ai ((fun w=>qdB c b w (by omega) (by omega) (by omega) (by omega):Pure _ _ _ _)) (Ai ((fun w=>qdx (c*b) w:Pure _ _ _ _)) (Ai ((fun w=>e▸qk9 (a*d) (-(c*b)) w:Pure _ _ _ _)) (Ai (fun w=>qki _ w f:Pure _ _ _ _) tI))))))) (by kernel_rfl)
end Go.Proofs.Ytgbmdijodlfcaaa

namespace Go.Proofs.Ytgbmdijodlfcaaa
set_option maxRecDepth 100000
def IsRes (p q N D E:Int):Prop:=
 (E=0∧okB N D=true∧I64 N∧I64 D∧N*q=p*D)∨(E=16∧N=0∧D=0∧∀ n d,okB n d=true→I64 n→I64 d→n*q≠p*d)
theorem qcd {T U n d:Int} (hU:0<U) (hd:0<d) (h1:Nat.gcd T.natAbs U.natAbs=1) (h2:Nat.gcd n.natAbs d.natAbs=1) (h:T*d=n*U):T=n∧U=d:=by
 have e:T.natAbs*d.natAbs=n.natAbs*U.natAbs:=by rw[← Int.natAbs_mul,← Int.natAbs_mul,h]
 have a1:U.natAbs ∣ d.natAbs:=Nat.Coprime.dvd_of_dvd_mul_left (show Nat.Coprime U.natAbs T.natAbs by rw[Nat.coprime_comm];exact h1) ⟨n.natAbs,by rw[e,Nat.mul_comm]⟩
 have a2:d.natAbs ∣ U.natAbs:=Nat.Coprime.dvd_of_dvd_mul_left (show Nat.Coprime d.natAbs n.natAbs by rw[Nat.coprime_comm];exact h2) ⟨T.natAbs,by rw[← e,Nat.mul_comm]⟩
 have a3:=Nat.dvd_antisymm a1 a2
 have hUd:U=d:=by omega
 subst hUd
 exact⟨Int.eq_of_mul_eq_mul_right (by omega) h,rfl⟩
theorem qdQ {n d:Int}:okB n d=true↔1≤d∧n≠-9223372036854775808∧Nat.gcd n.natAbs d.natAbs=1:=by simp[okB]
theorem ql6 {n d n' d':Int} (h1:okB n d=true) (h2:okB n' d'=true) (h:n*d'=n'*d):n=n'∧d=d':=by
 obtain⟨a1,_,a2⟩:=qdQ.1 h1
 obtain⟨b1,_,b2⟩:=qdQ.1 h2
 exact qcd (by omega) (by omega) a2 b2 h
theorem qcQ (T:Int) (h:qce T.natAbs=true):sgV T.natAbs (decide (T<0))=T:=by
 have h':T.natAbs<9223372036854775808:=by simpa [qce] using h
 unfold sgV
 rw[if_pos h']
 by_cases ht:T<0
 ·simp[ht];omega
 ·simp[ht];omega
theorem qlc {p q T U:Int} (hq:q≠0) (hU:0<U) (hg:Nat.gcd T.natAbs U.natAbs=1) (h:T*q=p*U) :
 IsRes p q (qfm (qce T.natAbs&&qce U.natAbs) (sgV T.natAbs (decide (T<0)))) (qfm (qce T.natAbs&&qce U.natAbs) (sgV U.natAbs (decide (U<0)))) (qno (qce T.natAbs&&qce U.natAbs)):=by
 cases hf:(qce T.natAbs&&qce U.natAbs)
 ·refine Or.inr ⟨rfl,rfl,rfl,fun n d hk hn hd he=>?_⟩
  obtain⟨a1,a2,a3⟩:=qdQ.1 hk
  have e:T*d=n*U:=by
   refine Int.eq_of_mul_eq_mul_right hq ?_
   rw[Int.mul_right_comm,h,Int.mul_right_comm n U q,he,Int.mul_right_comm]
  obtain⟨rfl,rfl⟩:=qcd hU (by omega) hg a3 e
  unfold I64 at hn hd
  have:(qce T.natAbs&&qce U.natAbs)=true:=by simp[qce];omega
  rw[hf] at this
  cases this
 ·simp only[Bool.and_eq_true] at hf
  have h1:T.natAbs<9223372036854775808:=by simpa [qce] using hf.1
  have h2:U.natAbs<9223372036854775808:=by simpa [qce] using hf.2
  refine Or.inl ⟨rfl,?_,?_,?_,?_⟩
  ·simp only[qfm,if_true,qcQ T hf.1,qcQ U hf.2]
   exact qdQ.2 ⟨by omega,by omega,hg⟩
  ·simp only[qfm,if_true,qcQ T hf.1];unfold I64;omega
  ·simp only[qfm,if_true,qcQ U hf.2];unfold I64;omega
  ·simp only[qfm,if_true,qcQ T hf.1,qcQ U hf.2];exact h
theorem qoY {a b:Int} (hb:b≠0):IsRes a b (mkN a b) (mkD a b) (mkE a b):=by
 obtain⟨g,hg⟩:∃ g:Nat,g=Nat.gcd a.natAbs b.natAbs:=⟨_,rfl⟩
 have g0:0<g:=hg▸Nat.gcd_pos_of_pos_right _ (by omega)
 have eA:mkQ a b*g=a.natAbs:=by unfold mkQ;rw[hg];exact Nat.div_mul_cancel (Nat.gcd_dvd_left _ _)
 have eB:mkP a b*g=b.natAbs:=by unfold mkP;rw[hg];exact Nat.div_mul_cancel (Nat.gcd_dvd_right _ _)
 have cop:Nat.gcd (mkQ a b) (mkP a b)=1:=by unfold mkQ mkP;exact Nat.coprime_div_gcd_div_gcd (hg▸g0)
 have hp0:0<mkP a b:=by
  rcases Nat.eq_zero_or_pos (mkP a b) with h | h
  ·rw[h] at eB;omega
  ·exact h
 obtain⟨Q,hQ⟩:∃ Q:Int,Q=if mkS a b then -(mkQ a b:Int) else mkQ a b:=⟨_,rfl⟩
 have nQ:Q.natAbs=mkQ a b:=by rw[hQ];split<;>omega
 have heq:Q*b=a*(mkP a b:Nat):=by
  have eA':((mkQ a b:Nat):Int)*(g:Int)=(a.natAbs:Int):=by rw[← Int.natCast_mul,eA]
  have eB':((mkP a b:Nat):Int)*(g:Int)=(b.natAbs:Int):=by rw[← Int.natCast_mul,eB]
  refine Int.eq_of_mul_eq_mul_right (show (g:Int)≠0 by omega) ?_
  rw[Int.mul_right_comm,Int.mul_assoc a,eB',hQ]
  unfold mkS
  by_cases ha:a<0<;>by_cases hb':b<0<;>simp[ha,hb',Int.neg_mul,eA']
  ·rw[show (a.natAbs:Int) = -a by omega,show (b.natAbs:Int) = -b by omega,Int.neg_mul,Int.mul_neg]
  ·rw[show (a.natAbs:Int) = -a by omega,show (b.natAbs:Int)=b by omega,Int.neg_mul,Int.neg_neg]
  ·rw[show (a.natAbs:Int)=a by omega,show (b.natAbs:Int) = -b by omega,Int.mul_neg]
  ·rw[show (a.natAbs:Int)=a by omega,show (b.natAbs:Int)=b by omega]
 have fin:=qlc (p:=a) (q:=b) (T:=Q) (U:=(mkP a b:Nat)) hb (by omega) (by rw[nQ];exact cop) heq
 have u1:mkN a b=qfm (qce Q.natAbs&&qce ((mkP a b:Nat):Int).natAbs) (sgV Q.natAbs (decide (Q<0))):=by
  unfold mkN mkF
  rw[if_neg hb,nQ,show ((mkP a b:Nat):Int).natAbs=mkP a b from rfl]
  have:sgV (mkQ a b) (mkS a b)=sgV (mkQ a b) (decide (Q<0)):=by
   unfold sgV
   split
   ·cases hs:mkS a b
    ·rw[hs] at hQ
     have hQ':Q=mkQ a b:=by simpa using hQ
     have:decide (Q<0)=false:=by simp;omega
     rw[this]
    ·rw[hs] at hQ
     have hQ':Q = -(mkQ a b:Int):=by simpa using hQ
     by_cases h0:mkQ a b=0
     ·rw[h0];simp
     ·have:decide (Q<0)=true:=by simp;omega
      rw[this]
   ·rfl
  rw[this]
 have u2:mkD a b=qfm (qce Q.natAbs&&qce ((mkP a b:Nat):Int).natAbs) (sgV ((mkP a b:Nat):Int).natAbs (decide (((mkP a b:Nat):Int)<0))):=by
  unfold mkD mkF
  rw[if_neg hb,nQ,show ((mkP a b:Nat):Int).natAbs=mkP a b from rfl,show decide (((mkP a b:Nat):Int)<0)=false by simp]
 have u3:mkE a b=qno (qce Q.natAbs&&qce ((mkP a b:Nat):Int).natAbs):=by
  unfold mkE mkF
  rw[if_neg hb,nQ,show ((mkP a b:Nat):Int).natAbs=mkP a b from rfl]
 rw[u1,u2,u3]
 exact fin
end Go.Proofs.Ytgbmdijodlfcaaa

namespace Go.Proofs.Ytgbmdijodlfcaaa
set_option maxRecDepth 100000
open Go.RowKit
theorem IsRes.one {p q N D E n d:Int} (h:IsRes p q N D E) (hq:q≠0) (hk:okB n d=true) (hn:I64 n) (hd:I64 d) (he:n*q=p*d):N=n∧D=d∧E=0:=by
 rcases h with ⟨h1,h2,_,_,h5⟩ | ⟨_,_,_,h4⟩
 ·have:N*d=n*D:=by
   refine Int.eq_of_mul_eq_mul_right hq ?_
   rw[Int.mul_right_comm,h5,Int.mul_right_comm n D q,he,Int.mul_right_comm]
  obtain⟨a1,a2⟩:=ql6 h2 hk this
  exact⟨a1,a2,h1⟩
 ·exact absurd he (h4 n d hk hn hd)
theorem qeL {n d:Int} (hn:I64 n) (hd:I64 d) (h:okB n d=true):Pure Try.prog 36 #[qac n d] (.int .i64 0):=fun w=>qjK h▸qbU n d w hn.1 hn.2 hd.1 hd.2
theorem qiG {n d:Int} (hn:I64 n) (hd:I64 d) (h:¬ okB n d=true):Pure Try.prog 36 #[qac n d] (.int .i64 8):=fun w=>qgg h▸qbU n d w hn.1 hn.2 hd.1 hd.2
theorem qn9 {n d:Int} (hn:I64 n) (hd:I64 d) (h:okB n d=true):Pure Try.prog 57 #[qac n d] (.int .i64 0):=fun w=>qjK h▸qdM n d w hn.1 hn.2 hd.1 hd.2
theorem qnN {n d:Int} (hn:I64 n) (hd:I64 d) (h:¬ okB n d=true):Pure Try.prog 57 #[qac n d] (.int .i64 8):=fun w=>qgg h▸qdM n d w hn.1 hn.2 hd.1 hd.2
theorem qlj {a b:Int} (ha:I64 a) (hb:I64 b) (h0:b≠0):∃ N D E,IsRes a b N D E∧Pure Try.prog 93 #[iV a,iV b] (.tuple #[qac N D,iV E]):=
 ⟨_,_,_,qoY h0,fun w=>qhJ a b w ha hb⟩
theorem qoP {a b c d:Int} (ha:I64 a) (hb:I64 b) (hc:I64 c) (hd:I64 d) (h1:okB a b=true) (h2:okB c d=true) :
 Pure Try.prog 91 #[qac a b,qac c d] (.tuple #[iV (a*d-c*b).sign,iV 0]):=qnp ha hb hc hd h1 h2
end Go.Proofs.Ytgbmdijodlfcaaa

namespace Go.Proofs.Ytgbmdijodlfcaaa
set_option maxRecDepth 100000
open Go.RowKit
set_option maxRecDepth 100000
theorem IsRes.fits {p q N D E:Int} (h:IsRes p q N D E) (hq:0<q) (q1:q≤9223372036854775807) (p0 : -9223372036854775807≤p) (p1:p≤9223372036854775807) :
 E=0∧okB N D=true∧I64 N∧I64 D∧N*q=p*D:=by
 rcases h with h | ⟨_,_,_,h4⟩
 ·exact h
 ·exfalso
  obtain⟨g,hg⟩:∃ g:Nat,g=Nat.gcd p.natAbs q.natAbs:=⟨_,rfl⟩
  have g0:0<g:=hg▸Nat.gcd_pos_of_pos_right _ (by omega)
  have e1:p.tdiv g*g=p:=Int.tdiv_mul_cancel (Int.ofNat_dvd_left.2 (hg▸Nat.gcd_dvd_left _ _))
  have e2:q.tdiv g*g=q:=Int.tdiv_mul_cancel (Int.ofNat_dvd_left.2 (hg▸Nat.gcd_dvd_right _ _))
  have n1:(p.tdiv g).natAbs=p.natAbs/g:=by rw[Int.natAbs_tdiv];rfl
  have n2:(q.tdiv g).natAbs=q.natAbs/g:=by rw[Int.natAbs_tdiv];rfl
  have b1:p.natAbs/g≤p.natAbs:=Nat.div_le_self _ _
  have b2:q.natAbs/g≤q.natAbs:=Nat.div_le_self _ _
  have cop:Nat.gcd (p.tdiv g).natAbs (q.tdiv g).natAbs=1:=by
   have g0':=g0
   rw[hg] at g0'
   rw[n1,n2,hg]
   exact Nat.coprime_div_gcd_div_gcd g0'
  generalize p.tdiv (g:Int)=P at *
  generalize q.tdiv (g:Int)=Q at *
  have hQ:0<Q:=by
   rcases Int.lt_trichotomy Q 0 with h' | h' | h'
   ·have:=Int.mul_neg_of_neg_of_pos h' (show (0:Int)<g by omega);omega
   ·subst h';omega
   ·exact h'
  refine h4 P Q (qdQ.2 ⟨by omega,by omega,cop⟩) (by unfold I64;omega) (by unfold I64;omega) ?_
  rw[← e1,← e2]
  ac_rfl
theorem IsRes.congr {p q p' q' N D E:Int} (h:IsRes p q N D E) (hq:q≠0) (hq':q'≠0) (e:p*q'=p'*q):IsRes p' q' N D E:=by
 have key:∀ n d:Int,n*q=p*d↔n*q'=p'*d:=by
  intro n d
  constructor
  ·intro h
   refine Int.eq_of_mul_eq_mul_right hq ?_
   grind
  ·intro h
   refine Int.eq_of_mul_eq_mul_right hq' ?_
   grind
 rcases h with ⟨h1,h2,h3,h4,h5⟩ | ⟨h1,h2,h3,h4⟩
 ·exact Or.inl ⟨h1,h2,h3,h4,(key _ _).1 h5⟩
 ·exact Or.inr ⟨h1,h2,h3,fun n d a1 a2 a3 a4=>h4 n d a1 a2 a3 ((key _ _).2 a4)⟩
end Go.Proofs.Ytgbmdijodlfcaaa

namespace Go.Proofs.Ytgbmdijodlfcaaa
set_option maxRecDepth 100000
open Go.RowKit
abbrev qad (n a b:Int):Value:=.agg #[iV n,iV a,iV b]
theorem qqu {pi pa pb:Int} (i0:decide (pi<0)=true) :
 Pure Try.prog 62 #[qad pi pa pb] (iV 8):=
 qal (args:=[qad pi pa pb]) 200 [.t true]
  (Ai rfl (Ai i0 tI)) (by kernel_rfl)
theorem qqR {pi pa pb:Int} (i0:decide (pi<0)=false) (i1:decide (pi>65535)=true) :
 Pure Try.prog 62 #[qad pi pa pb] (iV 8):=
 qal (args:=[qad pi pa pb]) 200 [.t false,.t true]
  (Ai rfl (Ai i0 (Ai i1 tI))) (by kernel_rfl)
theorem qqY {pi pa pb:Int} (i0:decide (pi<0)=false) (i1:decide (pi>65535)=false) (la:decide (-1048576≤pa)=false) :
 Pure Try.prog 62 #[qad pi pa pb] (iV 8):=
 qal (args:=[qad pi pa pb]) 200 [.t false,.t false,.k,.t false,.k]
  (Ai rfl (Ai i0 (Ai i1 (Ai la tI)))) (by kernel_rfl)
theorem qqS {pi pa pb:Int} (i0:decide (pi<0)=false) (i1:decide (pi>65535)=false) (la:decide (-1048576≤pa)=true) (ha:decide (pa≤1048576)=false) :
 Pure Try.prog 62 #[qad pi pa pb] (iV 8):=
 qal (args:=[qad pi pa pb]) 200 [.t false,.t false,.k,.t true,.t false,.k]
  (Ai rfl (Ai i0 (Ai i1 (Ai la (Ai ha tI))))) (by kernel_rfl)
theorem qpY {pi pa pb:Int} (i0:decide (pi<0)=false) (i1:decide (pi>65535)=false) (la:decide (-1048576≤pa)=true) (ha:decide (pa≤1048576)=true) (lb:decide (-1048576≤pb)=false) :
 Pure Try.prog 62 #[qad pi pa pb] (iV 8):=
 qal (args:=[qad pi pa pb]) 200 [.t false,.t false,.k,.t true,.t true,.k,.k,.t false,.k]
  (Ai rfl (Ai i0 (Ai i1 (Ai la (Ai ha (Ai lb tI)))))) (by kernel_rfl)
theorem qqw {pi pa pb:Int} (i0:decide (pi<0)=false) (i1:decide (pi>65535)=false) (la:decide (-1048576≤pa)=true) (ha:decide (pa≤1048576)=true) (lb:decide (-1048576≤pb)=true) (hb:decide (pb≤1048576)=false) :
 Pure Try.prog 62 #[qad pi pa pb] (iV 8):=
 qal (args:=[qad pi pa pb]) 200 [.t false,.t false,.k,.t true,.t true,.k,.k,.t true,.t false,.k]
  (Ai rfl (Ai i0 (Ai i1 (Ai la (Ai ha (Ai lb (Ai hb tI))))))) (by kernel_rfl)
theorem qqG {pi pa pb:Int} (i0:decide (pi<0)=false) (i1:decide (pi>65535)=false) (la:decide (-1048576≤pa)=true) (ha:decide (pa≤1048576)=true) (lb:decide (-1048576≤pb)=true) (hb:decide (pb≤1048576)=true) :
 Pure Try.prog 62 #[qad pi pa pb] (iV 0):=
 qal (args:=[qad pi pa pb]) 200 [.t false,.t false,.k,.t true,.t true,.k,.k,.t true,.t true,.k]
  (Ai rfl (Ai i0 (Ai i1 (Ai la (Ai ha (Ai lb (Ai hb tI))))))) (by kernel_rfl)
theorem qqW {pi pa pb:Int} (i0:decide (pi<0)=true) :
 Pure Try.prog 75 #[qad pi pa pb] (iV 8):=
 qal (args:=[qad pi pa pb]) 200 [.t true]
  (Ai rfl (Ai i0 tI)) (by kernel_rfl)
theorem qp9 {pi pa pb:Int} (i0:decide (pi<0)=false) (i1:decide (pi>65535)=true) :
 Pure Try.prog 75 #[qad pi pa pb] (iV 8):=
 qal (args:=[qad pi pa pb]) 200 [.t false,.t true]
  (Ai rfl (Ai i0 (Ai i1 tI))) (by kernel_rfl)
theorem qpW {pi pa pb:Int} (i0:decide (pi<0)=false) (i1:decide (pi>65535)=false) (la:decide (pa < -1048576)=true) :
 Pure Try.prog 75 #[qad pi pa pb] (iV 8):=
 qal (args:=[qad pi pa pb]) 200 [.t false,.t false,.t true]
  (Ai rfl (Ai i0 (Ai i1 (Ai la tI)))) (by kernel_rfl)
theorem qqh {pi pa pb:Int} (i0:decide (pi<0)=false) (i1:decide (pi>65535)=false) (la:decide (pa < -1048576)=false) (ha:decide (pa>1048576)=true) :
 Pure Try.prog 75 #[qad pi pa pb] (iV 8):=
 qal (args:=[qad pi pa pb]) 200 [.t false,.t false,.t false,.t true]
  (Ai rfl (Ai i0 (Ai i1 (Ai la (Ai ha tI))))) (by kernel_rfl)
theorem qqT {pi pa pb:Int} (i0:decide (pi<0)=false) (i1:decide (pi>65535)=false) (la:decide (pa < -1048576)=false) (ha:decide (pa>1048576)=false) (lb:decide (pb < -1048576)=true) :
 Pure Try.prog 75 #[qad pi pa pb] (iV 8):=
 qal (args:=[qad pi pa pb]) 200 [.t false,.t false,.t false,.t false,.t true]
  (Ai rfl (Ai i0 (Ai i1 (Ai la (Ai ha (Ai lb tI)))))) (by kernel_rfl)
theorem qqm {pi pa pb:Int} (i0:decide (pi<0)=false) (i1:decide (pi>65535)=false) (la:decide (pa < -1048576)=false) (ha:decide (pa>1048576)=false) (lb:decide (pb < -1048576)=false) (hb:decide (pb>1048576)=true) :
 Pure Try.prog 75 #[qad pi pa pb] (iV 8):=
 qal (args:=[qad pi pa pb]) 200 [.t false,.t false,.t false,.t false,.t false,.t true]
  (Ai rfl (Ai i0 (Ai i1 (Ai la (Ai ha (Ai lb (Ai hb tI))))))) (by kernel_rfl)
theorem qot {pi pa pb:Int} (i0:decide (pi<0)=false) (i1:decide (pi>65535)=false) (la:decide (pa < -1048576)=false) (ha:decide (pa>1048576)=false) (lb:decide (pb < -1048576)=false) (hb:decide (pb>1048576)=false) :
 Pure Try.prog 75 #[qad pi pa pb] (iV 0):=
 qal (args:=[qad pi pa pb]) 200 [.t false,.t false,.t false,.t false,.t false,.t false]
  (Ai rfl (Ai i0 (Ai i1 (Ai la (Ai ha (Ai lb (Ai hb tI))))))) (by kernel_rfl)
theorem qfu {pi pa pb qi qa qb x y m n:Int} (v1:iV (IntKind.i64.wrap (qa-pa))=iV x) (v2:iV (IntKind.i64.wrap (pb-qb))=iV y) (c1:Pure Try.prog 93 #[iV x,iV y] (.tuple #[qac m n,iV 0])) :
 Pure Try.prog 89 #[qad pi pa pb,qad qi qa qb] (qac m n):=
 qal (args:=[qad pi pa pb,qad qi qa qb]) 200 [Re v1,Re v2,Rf c1]
  (Ai rfl (Ai v1 (Ai v2 (Ai c1 tI)))) (by kernel_rfl)
abbrev qlo (d:Int) (n:Int):Prop:=Pure Try.prog 36 #[qac n d] (iV 0)
abbrev ql1 (pa:Int) (pb:Int) (pi:Int) (qa:Int) (qb:Int) (qi:Int):Prop:=Pure Try.prog 82 #[qad pi pa pb,qad qi qa qb] (iV 0)
abbrev qlF (pa:Int) (pb:Int) (pi:Int):Prop:=Pure Try.prog 62 #[qad pi pa pb] (iV 0)
abbrev qlV (qa:Int) (qb:Int) (qi:Int):Prop:=Pure Try.prog 62 #[qad qi qa qb] (iV 0)
theorem qj8 {pi pa pb qi qa qb n d:Int} (cp:qlF pa pb pi) (cq:qlV qa qb qi) (ct:qlo d n) (ci:ql1 pa pb pi qa qb qi) (w:(pa==qa&&(pb==qb&&true))=true) (r:decide (pi<qi)=true) :
 Pure Try.prog 69 #[qad pi pa pb,qad qi qa qb,qac n d] (.tuple #[.bool true,iV 0]):=
 qal (args:=[qad pi pa pb,qad qi qa qb,qac n d]) 200 [Rf cp,Rf cp,Rf cp,Rf cp,.k,.k,.k,.k,.k,.k,.k,.k,.k,.k,.k,.k,.k,.k,.k,.k,.k,.k,.t true,.k,.t true]
  (Ai rfl (Ai cp (Ai cq (Ai ct (Ai ci (Ai w (Ai r tI))))))) (by kernel_rfl)
theorem qk3 {pi pa pb qi qa qb n d:Int} (cp:qlF pa pb pi) (cq:qlV qa qb qi) (ct:qlo d n) (ci:ql1 pa pb pi qa qb qi) (w:(pa==qa&&(pb==qb&&true))=false) (bb:(pb==qb)=true) (r:decide (pa>qa)=true) :
 Pure Try.prog 69 #[qad pi pa pb,qad qi qa qb,qac n d] (.tuple #[.bool true,iV 0]):=
 qal (args:=[qad pi pa pb,qad qi qa qb,qac n d]) 200 [Rf cp,Rf cp,Rf cp,Rf cp,.k,.k,.k,.k,.k,.k,.k,.k,.k,.k,.k,.k,.k,.k,.k,.k,.k,.k,.t false,.t true,.k,.t true]
  (Ai rfl (Ai cp (Ai cq (Ai ct (Ai ci (Ai w (Ai bb (Ai r tI)))))))) (by kernel_rfl)
theorem qkm {pi pa pb qi qa qb n d:Int} (cp:qlF pa pb pi) (cq:qlV qa qb qi) (ct:qlo d n) (ci:ql1 pa pb pi qa qb qi) (w:(pa==qa&&(pb==qb&&true))=true) (r:decide (pi<qi)=false) :
 Pure Try.prog 69 #[qad pi pa pb,qad qi qa qb,qac n d] (.tuple #[.bool false,iV 0]):=
 qal (args:=[qad pi pa pb,qad qi qa qb,qac n d]) 200 [Rf cp,Rf cp,Rf cp,Rf cp,.k,.k,.k,.k,.k,.k,.k,.k,.k,.k,.k,.k,.k,.k,.k,.k,.k,.k,.t true,.k,.t false]
  (Ai rfl (Ai cp (Ai cq (Ai ct (Ai ci (Ai w (Ai r tI))))))) (by kernel_rfl)
theorem qj3 {pi pa pb qi qa qb n d:Int} (cp:qlF pa pb pi) (cq:qlV qa qb qi) (ct:qlo d n) (ci:ql1 pa pb pi qa qb qi) (w:(pa==qa&&(pb==qb&&true))=false) (bb:(pb==qb)=true) (r:decide (pa>qa)=false) :
 Pure Try.prog 69 #[qad pi pa pb,qad qi qa qb,qac n d] (.tuple #[.bool false,iV 0]):=
 qal (args:=[qad pi pa pb,qad qi qa qb,qac n d]) 200 [Rf cp,Rf cp,Rf cp,Rf cp,.k,.k,.k,.k,.k,.k,.k,.k,.k,.k,.k,.k,.k,.k,.k,.k,.k,.k,.t false,.t true,.k,.t false]
  (Ai rfl (Ai cp (Ai cq (Ai ct (Ai ci (Ai w (Ai bb (Ai r tI)))))))) (by kernel_rfl)
abbrev qpA (d:Int) (k:Int) (md:Int) (mn:Int) (n:Int):Prop:=Pure Try.prog 91 #[qac n d,qac mn md] (.tuple #[iV k,iV 0])
theorem qiN {pi pa pb qi qa qb n d mn md k:Int} (cp:qlF pa pb pi) (cq:qlV qa qb qi) (ct:qlo d n) (ci:ql1 pa pb pi qa qb qi) (w:(pa==qa&&(pb==qb&&true))=false) (bb:(pb==qb)=false) (cm:Pure Try.prog 89 #[qad pi pa pb,qad qi qa qb] (qac mn md)) (cc:qpA d k md mn n) (g1:decide (k≥0)=true) (g2:decide (pb>qb)=true) :
 Pure Try.prog 69 #[qad pi pa pb,qad qi qa qb,qac n d] (.tuple #[.bool true,iV 0]):=
 qal (args:=[qad pi pa pb,qad qi qa qb,qac n d]) 200 [Rf cp,Rf cp,Rf cp,Rf cp,.k,.k,.k,.k,.k,.k,.k,.k,.k,.k,.k,.k,.k,.k,.k,.k,.k,.k,.t false,.t false,Rf cm,.k,Rf cc,.t true,.t true]
  (Ai rfl (Ai cp (Ai cq (Ai ct (Ai ci (Ai w (Ai bb (Ai cm (Ai cc (Ai g1 (Ai g2 tI))))))))))) (by kernel_rfl)
theorem qiH {pi pa pb qi qa qb n d mn md k:Int} (cp:qlF pa pb pi) (cq:qlV qa qb qi) (ct:qlo d n) (ci:ql1 pa pb pi qa qb qi) (w:(pa==qa&&(pb==qb&&true))=false) (bb:(pb==qb)=false) (cm:Pure Try.prog 89 #[qad pi pa pb,qad qi qa qb] (qac mn md)) (cc:qpA d k md mn n) (g1:decide (k≥0)=true) (g2:decide (pb>qb)=false) :
 Pure Try.prog 69 #[qad pi pa pb,qad qi qa qb,qac n d] (.tuple #[.bool false,iV 0]):=
 qal (args:=[qad pi pa pb,qad qi qa qb,qac n d]) 200 [Rf cp,Rf cp,Rf cp,Rf cp,.k,.k,.k,.k,.k,.k,.k,.k,.k,.k,.k,.k,.k,.k,.k,.k,.k,.k,.t false,.t false,Rf cm,.k,Rf cc,.t true,.t false]
  (Ai rfl (Ai cp (Ai cq (Ai ct (Ai ci (Ai w (Ai bb (Ai cm (Ai cc (Ai g1 (Ai g2 tI))))))))))) (by kernel_rfl)
theorem qi5 {pi pa pb qi qa qb n d mn md k:Int} (cp:qlF pa pb pi) (cq:qlV qa qb qi) (ct:qlo d n) (ci:ql1 pa pb pi qa qb qi) (w:(pa==qa&&(pb==qb&&true))=false) (bb:(pb==qb)=false) (cm:Pure Try.prog 89 #[qad pi pa pb,qad qi qa qb] (qac mn md)) (cc:qpA d k md mn n) (g1:decide (k≥0)=false) (g2:decide (pb>qb)=true) :
 Pure Try.prog 69 #[qad pi pa pb,qad qi qa qb,qac n d] (.tuple #[.bool false,iV 0]):=
 qal (args:=[qad pi pa pb,qad qi qa qb,qac n d]) 200 [Rf cp,Rf cp,Rf cp,Rf cp,.k,.k,.k,.k,.k,.k,.k,.k,.k,.k,.k,.k,.k,.k,.k,.k,.k,.k,.t false,.t false,Rf cm,.k,Rf cc,.t false,.t true]
  (Ai rfl (Ai cp (Ai cq (Ai ct (Ai ci (Ai w (Ai bb (Ai cm (Ai cc (Ai g1 (Ai g2 tI))))))))))) (by kernel_rfl)
theorem qja {pi pa pb qi qa qb n d mn md k:Int} (cp:qlF pa pb pi) (cq:qlV qa qb qi) (ct:qlo d n) (ci:ql1 pa pb pi qa qb qi) (w:(pa==qa&&(pb==qb&&true))=false) (bb:(pb==qb)=false) (cm:Pure Try.prog 89 #[qad pi pa pb,qad qi qa qb] (qac mn md)) (cc:qpA d k md mn n) (g1:decide (k≥0)=false) (g2:decide (pb>qb)=false) :
 Pure Try.prog 69 #[qad pi pa pb,qad qi qa qb,qac n d] (.tuple #[.bool true,iV 0]):=
 qal (args:=[qad pi pa pb,qad qi qa qb,qac n d]) 200 [Rf cp,Rf cp,Rf cp,Rf cp,.k,.k,.k,.k,.k,.k,.k,.k,.k,.k,.k,.k,.k,.k,.k,.k,.k,.k,.t false,.t false,Rf cm,.k,Rf cc,.t false,.t false]
  (Ai rfl (Ai cp (Ai cq (Ai ct (Ai ci (Ai w (Ai bb (Ai cm (Ai cc (Ai g1 (Ai g2 tI))))))))))) (by kernel_rfl)
theorem qqi {pi pa pb qi qa qb:Int} (ij:(pi==qi)=false) :
 Pure Try.prog 82 #[qad pi pa pb,qad qi qa qb] (iV 0):=
 qal (args:=[qad pi pa pb,qad qi qa qb]) 200 [.t false]
  (Ai rfl (Ai ij tI)) (by kernel_rfl)
end Go.Proofs.Ytgbmdijodlfcaaa
