/-
  Joined: Num, Con, Sm, Or, Ru, Cr. Conditions: none.
-/
import Derived.Test.YtleaeldgaflmkaaGreatW11
import Derived.Test.YtleaeldgaflmkaaGreatW26
import Derived.Test.YtleaeldgaflmkaaGreatW25
import Derived.Test.YtleaeldgaflmkaaGreatW28
namespace Go.Proofs.YtleaeldgaflmkaaGreat
set_option maxRecDepth 100000
def IsRes (p q N D E:Int):Prop:=
 (E=0∧okB N D=true∧I64 N∧I64 D∧N*q=p*D)∨(E=16∧N=0∧D=0∧∀ n d,okB n d=true→I64 n→I64 d→n*q≠p*d)
theorem qc2 {T U n d:Int} (hU:0<U) (hd:0<d) (h1:Nat.gcd T.natAbs U.natAbs=1) (h2:Nat.gcd n.natAbs d.natAbs=1) (h:T*d=n*U):T=n∧U=d:=by
 have e:T.natAbs*d.natAbs=n.natAbs*U.natAbs:=by rw[← Int.natAbs_mul,← Int.natAbs_mul,h]
 have a1:U.natAbs ∣ d.natAbs:=Nat.Coprime.dvd_of_dvd_mul_left (show Nat.Coprime U.natAbs T.natAbs by rw[Nat.coprime_comm];exact h1) ⟨n.natAbs,by rw[e,Nat.mul_comm]⟩
 have a2:d.natAbs ∣ U.natAbs:=Nat.Coprime.dvd_of_dvd_mul_left (show Nat.Coprime d.natAbs n.natAbs by rw[Nat.coprime_comm];exact h2) ⟨T.natAbs,by rw[← e,Nat.mul_comm]⟩
 have a3:=Nat.dvd_antisymm a1 a2
 have hUd:U=d:=by omega
 subst hUd
 exact⟨Int.eq_of_mul_eq_mul_right (by omega) h,rfl⟩
theorem qbt {n d:Int}:okB n d=true↔1≤d∧n≠-9223372036854775808∧Nat.gcd n.natAbs d.natAbs=1:=by simp[okB]
theorem qda {n d n' d':Int} (h1:okB n d=true) (h2:okB n' d'=true) (h:n*d'=n'*d):n=n'∧d=d':=by
 obtain⟨a1,_,a2⟩:=qbt.1 h1
 obtain⟨b1,_,b2⟩:=qbt.1 h2
 exact qc2 (by omega) (by omega) a2 b2 h
theorem qeg (T:Int) (h:qaJ T.natAbs=true):sgV T.natAbs (decide (T<0))=T:=by
 have h':T.natAbs<9223372036854775808:=by simpa [qaJ] using h
 unfold sgV
 rw[if_pos h']
 by_cases ht:T<0
 ·simp[ht];omega
 ·simp[ht];omega
theorem qcx {p q T U:Int} (hq:q≠0) (hU:0<U) (hg:Nat.gcd T.natAbs U.natAbs=1) (h:T*q=p*U) :
 IsRes p q (qcq (qaJ T.natAbs&&qaJ U.natAbs) (sgV T.natAbs (decide (T<0)))) (qcq (qaJ T.natAbs&&qaJ U.natAbs) (sgV U.natAbs (decide (U<0)))) (qf5 (qaJ T.natAbs&&qaJ U.natAbs)):=by
 cases hf:(qaJ T.natAbs&&qaJ U.natAbs)
 ·refine Or.inr ⟨rfl,rfl,rfl,fun n d hk hn hd he=>?_⟩
  obtain⟨a1,a2,a3⟩:=qbt.1 hk
  have e:T*d=n*U:=by
   refine Int.eq_of_mul_eq_mul_right hq ?_
   rw[Int.mul_right_comm,h,Int.mul_right_comm n U q,he,Int.mul_right_comm]
  obtain⟨rfl,rfl⟩:=qc2 hU (by omega) hg a3 e
  unfold I64 at hn hd
  have:(qaJ T.natAbs&&qaJ U.natAbs)=true:=by simp[qaJ];omega
  rw[hf] at this
  cases this
 ·simp only[Bool.and_eq_true] at hf
  have h1:T.natAbs<9223372036854775808:=by simpa [qaJ] using hf.1
  have h2:U.natAbs<9223372036854775808:=by simpa [qaJ] using hf.2
  refine Or.inl ⟨rfl,?_,?_,?_,?_⟩
  ·simp only[qcq,if_true,qeg T hf.1,qeg U hf.2]
   exact qbt.2 ⟨by omega,by omega,hg⟩
  ·simp only[qcq,if_true,qeg T hf.1];unfold I64;omega
  ·simp only[qcq,if_true,qeg U hf.2];unfold I64;omega
  ·simp only[qcq,if_true,qeg T hf.1,qeg U hf.2];exact h
theorem qts {a b c d:Int} (h1:okB a b=true) (h2:okB c d=true):IsRes (a*c) (b*d) (muN a b c d) (muD a b c d) (qf5 (muF a b c d)):=by
 obtain⟨b1,_,g1⟩:=qbt.1 h1
 obtain⟨d1,_,g2⟩:=qbt.1 h2
 have hg0:0<Nat.gcd a.natAbs d.natAbs:=Nat.gcd_pos_of_pos_right _ (by omega)
 have hh0:0<Nat.gcd c.natAbs b.natAbs:=Nat.gcd_pos_of_pos_right _ (by omega)
 have dA:((Nat.gcd a.natAbs d.natAbs:Nat):Int) ∣ a:=Int.ofNat_dvd_left.2 (Nat.gcd_dvd_left _ _)
 have dD:((Nat.gcd a.natAbs d.natAbs:Nat):Int) ∣ d:=Int.ofNat_dvd_left.2 (Nat.gcd_dvd_right _ _)
 have dC:((Nat.gcd c.natAbs b.natAbs:Nat):Int) ∣ c:=Int.ofNat_dvd_left.2 (Nat.gcd_dvd_left _ _)
 have dB:((Nat.gcd c.natAbs b.natAbs:Nat):Int) ∣ b:=Int.ofNat_dvd_left.2 (Nat.gcd_dvd_right _ _)
 have eA:muA a d*(Nat.gcd a.natAbs d.natAbs:Nat)=a:=Int.tdiv_mul_cancel dA
 have eD:muB a d*(Nat.gcd a.natAbs d.natAbs:Nat)=d:=Int.tdiv_mul_cancel dD
 have eC:muA c b*(Nat.gcd c.natAbs b.natAbs:Nat)=c:=Int.tdiv_mul_cancel dC
 have eB:muB c b*(Nat.gcd c.natAbs b.natAbs:Nat)=b:=Int.tdiv_mul_cancel dB
 have nA:(muA a d).natAbs=a.natAbs/Nat.gcd a.natAbs d.natAbs:=by unfold muA;rw[Int.natAbs_tdiv];rfl
 have nD:(muB a d).natAbs=d.natAbs/Nat.gcd a.natAbs d.natAbs:=by unfold muB;rw[Int.natAbs_tdiv];rfl
 have nC:(muA c b).natAbs=c.natAbs/Nat.gcd c.natAbs b.natAbs:=by unfold muA;rw[Int.natAbs_tdiv];rfl
 have nB:(muB c b).natAbs=b.natAbs/Nat.gcd c.natAbs b.natAbs:=by unfold muB;rw[Int.natAbs_tdiv];rfl
 have cAD:Nat.Coprime (muA a d).natAbs (muB a d).natAbs:=by rw[nA,nD];exact Nat.coprime_div_gcd_div_gcd hg0
 have cCB:Nat.Coprime (muA c b).natAbs (muB c b).natAbs:=by rw[nC,nB];exact Nat.coprime_div_gcd_div_gcd hh0
 have vA:(muA a d).natAbs ∣ a.natAbs:=⟨Nat.gcd a.natAbs d.natAbs,by rw[nA];exact (Nat.div_mul_cancel (Nat.gcd_dvd_left _ _)).symm⟩
 have vD:(muB a d).natAbs ∣ d.natAbs:=⟨Nat.gcd a.natAbs d.natAbs,by rw[nD];exact (Nat.div_mul_cancel (Nat.gcd_dvd_right _ _)).symm⟩
 have vC:(muA c b).natAbs ∣ c.natAbs:=⟨Nat.gcd c.natAbs b.natAbs,by rw[nC];exact (Nat.div_mul_cancel (Nat.gcd_dvd_left _ _)).symm⟩
 have vB:(muB c b).natAbs ∣ b.natAbs:=⟨Nat.gcd c.natAbs b.natAbs,by rw[nB];exact (Nat.div_mul_cancel (Nat.gcd_dvd_right _ _)).symm⟩
 have cAB:Nat.Coprime (muA a d).natAbs (muB c b).natAbs:=Nat.Coprime.coprime_dvd_left vA (Nat.Coprime.coprime_dvd_right vB g1)
 have cCD:Nat.Coprime (muA c b).natAbs (muB a d).natAbs:=Nat.Coprime.coprime_dvd_left vC (Nat.Coprime.coprime_dvd_right vD g2)
 have pD:0<muB a d:=by
  rcases Int.lt_trichotomy (muB a d) 0 with h | h | h
  ·have:=Int.mul_neg_of_neg_of_pos h (show (0:Int)<(Nat.gcd a.natAbs d.natAbs:Nat) by omega);omega
  ·rw[h] at eD;omega
  ·exact h
 have pB:0<muB c b:=by
  rcases Int.lt_trichotomy (muB c b) 0 with h | h | h
  ·have:=Int.mul_neg_of_neg_of_pos h (show (0:Int)<(Nat.gcd c.natAbs b.natAbs:Nat) by omega);omega
  ·rw[h] at eB;omega
  ·exact h
 have hq:b*d≠0:=Int.mul_ne_zero (by omega) (by omega)
 have hU:0<muU a b c d:=Int.mul_pos pB pD
 have hcop:Nat.gcd (muT a b c d).natAbs (muU a b c d).natAbs=1:=by
  unfold muT muU
  rw[Int.natAbs_mul,Int.natAbs_mul]
  exact Nat.Coprime.mul_left (Nat.Coprime.mul_right cAB cAD) (Nat.Coprime.mul_right cCB cCD)
 have heq:muT a b c d*(b*d)=a*c*muU a b c d:=by
  unfold muT muU
  generalize muA a d=A at *
  generalize muA c b=C at *
  generalize muB a d=D at *
  generalize muB c b=B at *
  generalize ((Nat.gcd a.natAbs d.natAbs:Nat):Int)=g at *
  generalize ((Nat.gcd c.natAbs b.natAbs:Nat):Int)=h at *
  rw[← eA,← eB,← eC,← eD]
  ac_rfl
 exact qcx hq hU hcop heq
theorem qiW {a b c d:Int} (h1:okB a b=true) (h2:okB c d=true):IsRes (a*d+c*b) (b*d) (smN a b c d) (smD a b c d) (qf5 (smF a b c d)):=by
 obtain⟨b1,_,g1⟩:=qbt.1 h1
 obtain⟨d1,_,g2⟩:=qbt.1 h2
 obtain⟨g,hg⟩:∃ g:Nat,g=smG b d:=⟨_,rfl⟩
 obtain⟨l,hl⟩:∃ l:Int,b.tdiv (g:Int)=l:=⟨_,rfl⟩
 obtain⟨r,hr⟩:∃ r:Int,d.tdiv (g:Int)=r:=⟨_,rfl⟩
 obtain⟨T,hT⟩:∃ T:Int,a*r+c*l=T:=⟨_,rfl⟩
 obtain⟨k,hk⟩:∃ k:Nat,k=Nat.gcd (T.natAbs%g) g:=⟨_,rfl⟩
 obtain⟨e,he⟩:∃ e:Int,d.tdiv (k:Int)=e:=⟨_,rfl⟩
 have eT:smT a b c d=T:=by rw[← hT,← hl,← hr,hg];rfl
 have eK:smK a b c d=k:=by unfold smK;rw[eT,← hg,← hk]
 have eU:smU a b c d=l*e:=by unfold smU;rw[← hg,eK,hl,he]
 have g0:0<g:=hg▸Nat.gcd_pos_of_pos_right _ (by omega)
 have k0:0<k:=hk▸Nat.gcd_pos_of_pos_right _ g0
 have hk':k=Nat.gcd T.natAbs g:=by rw[hk,← Nat.gcd_rec,Nat.gcd_comm]
 have dvB:(g:Int) ∣ b:=Int.ofNat_dvd_left.2 (hg▸Nat.gcd_dvd_left _ _)
 have dvD:(g:Int) ∣ d:=Int.ofNat_dvd_left.2 (hg▸Nat.gcd_dvd_right _ _)
 have kg:k ∣ g:=hk'▸Nat.gcd_dvd_right _ _
 have kT:(k:Int) ∣ T:=Int.ofNat_dvd_left.2 (hk'▸Nat.gcd_dvd_left _ _)
 have kD:(k:Int) ∣ d:=Int.dvd_trans (Int.natCast_dvd_natCast.2 kg) dvD
 have eB:l*g=b:=by rw[← hl];exact Int.tdiv_mul_cancel dvB
 have eD:r*g=d:=by rw[← hr];exact Int.tdiv_mul_cancel dvD
 have eE:e*k=d:=by rw[← he];exact Int.tdiv_mul_cancel kD
 have pos:∀ {x:Int} {m:Nat} {y:Int},x*m=y→0<y→0<x:=by
  intro x m y h1 h2
  rcases Int.lt_trichotomy x 0 with h | h | h
  ·have:=Int.mul_le_mul_of_nonneg_right (show x≤0 by omega) (show (0:Int)≤m by omega);omega
  ·rw[h] at h1;omega
  ·exact h
 have lp:=pos eB (by omega)
 have rp:=pos eD (by omega)
 have ep:=pos eE (by omega)
 have nL:l.natAbs*g=b.natAbs:=by rw[← eB,Int.natAbs_mul];rfl
 have nR:r.natAbs*g=d.natAbs:=by rw[← eD,Int.natAbs_mul];rfl
 have nE:e.natAbs*k=d.natAbs:=by rw[← eE,Int.natAbs_mul];rfl
 have nl:l.natAbs=b.natAbs/g:=by rw[← nL];exact (Nat.mul_div_cancel _ g0).symm
 have nr:r.natAbs=d.natAbs/g:=by rw[← nR];exact (Nat.mul_div_cancel _ g0).symm
 have clr:Nat.Coprime l.natAbs r.natAbs:=by
  have g0':=g0
  rw[hg] at g0'
  rw[nl,nr,hg]
  exact Nat.coprime_div_gcd_div_gcd g0'
 have cal:Nat.Coprime a.natAbs l.natAbs:=Nat.Coprime.coprime_dvd_right ⟨g,nL.symm⟩ g1
 have ccr:Nat.Coprime c.natAbs r.natAbs:=Nat.Coprime.coprime_dvd_right ⟨g,nR.symm⟩ g2
 have cTl:Nat.Coprime T.natAbs l.natAbs:=by
  show Int.gcd T l=1
  rw[← hT,Int.gcd_add_mul_right_left]
  show Nat.gcd (a*r).natAbs l.natAbs=1
  rw[Int.natAbs_mul]
  exact Nat.Coprime.mul_left cal clr.symm
 have cTr:Nat.Coprime T.natAbs r.natAbs:=by
  show Int.gcd T r=1
  rw[← hT,Int.add_comm,Int.gcd_add_mul_right_left]
  show Nat.gcd (c*l).natAbs r.natAbs=1
  rw[Int.natAbs_mul]
  exact Nat.Coprime.mul_left ccr clr
 have hTk:T.natAbs/k*k=T.natAbs:=Nat.div_mul_cancel (hk'▸Nat.gcd_dvd_left _ _)
 have cop:Nat.Coprime (T.natAbs/k) (l.natAbs*e.natAbs):=by
  have vT:T.natAbs/k ∣ T.natAbs:=⟨k,hTk.symm⟩
  refine Nat.Coprime.mul_right (Nat.Coprime.coprime_dvd_left vT cTl) ?_
  have:e.natAbs=r.natAbs*(g/k):=by
   have h3:r.natAbs*(g/k)*k=d.natAbs:=by rw[Nat.mul_assoc,Nat.div_mul_cancel kg,nR]
   exact Nat.eq_of_mul_eq_mul_right k0 (by rw[nE,h3])
  rw[this]
  refine Nat.Coprime.mul_right (Nat.Coprime.coprime_dvd_left vT cTr) ?_
  rw[hk']
  exact Nat.coprime_div_gcd_div_gcd (hk'▸k0)
 obtain⟨S,hS⟩:∃ S:Int,T.tdiv (k:Int)=S:=⟨_,rfl⟩
 have eS:S*k=T:=by rw[← hS];exact Int.tdiv_mul_cancel kT
 have nS:S.natAbs=T.natAbs/k:=by rw[← hS,Int.natAbs_tdiv];rfl
 have sS:decide (T<0)=decide (S<0):=by
  have:T<0↔S<0:=by
   constructor
   ·intro h
    rcases Int.lt_or_le S 0 with h' | h'
    ·exact h'
    ·have:=Int.mul_nonneg h' (show (0:Int)≤k by omega);omega
   ·intro h
    have:=Int.mul_neg_of_neg_of_pos h (show (0:Int)<k by omega);omega
  simp[this]
 have fin:=qcx (p:=a*d+c*b) (q:=b*d) (T:=S) (U:=l*e) (Int.mul_ne_zero (by omega) (by omega)) (Int.mul_pos lp ep) (by rw[nS,Int.natAbs_mul];exact cop) (by
  have h5:S*(b*d)*k=(a*d+c*b)*(l*e)*k:=by
   have x1:S*(b*d)*k=T*(b*d):=by rw[← eS];ac_rfl
   have x2:(a*d+c*b)*(l*e)*k=(a*d+c*b)*(l*d):=by rw[Int.mul_assoc (a*d+c*b),Int.mul_assoc l,eE]
   have x3:a*d+c*b=T*g:=by rw[← hT,← eB,← eD,Int.add_mul];ac_rfl
   rw[x1,x2,x3,← eB]
   ac_rfl
  exact Int.eq_of_mul_eq_mul_right (show (k:Int)≠0 by omega) h5)
 have u1:smN a b c d=qcq (qaJ S.natAbs&&qaJ (l*e).natAbs) (sgV S.natAbs (decide (S<0))):=by unfold smN smF;rw[eT,eK,eU,nS,sS]
 have u2:smD a b c d=qcq (qaJ S.natAbs&&qaJ (l*e).natAbs) (sgV (l*e).natAbs (decide (l*e<0))):=by unfold smD smF;rw[eT,eK,eU,nS]
 have u3:smF a b c d=(qaJ S.natAbs&&qaJ (l*e).natAbs):=by unfold smF;rw[eT,eK,eU,nS]
 rw[u1,u2,u3]
 exact fin
theorem qhP {a b:Int} (hb:b≠0):IsRes a b (mkN a b) (mkD a b) (mkE a b):=by
 obtain⟨g,hg⟩:∃ g:Nat,g=Nat.gcd a.natAbs b.natAbs:=⟨_,rfl⟩
 have g0:0<g:=hg▸Nat.gcd_pos_of_pos_right _ (by omega)
 have eA:mkQ a b*g=a.natAbs:=by unfold mkQ;rw[hg];exact Nat.div_mul_cancel (Nat.gcd_dvd_left _ _)
 have eB:mkP a b*g=b.natAbs:=by unfold mkP;rw[hg];exact Nat.div_mul_cancel (Nat.gcd_dvd_right _ _)
 have cop:Nat.gcd (mkQ a b) (mkP a b)=1:=by unfold mkQ mkP;exact Nat.coprime_div_gcd_div_gcd (hg▸g0)
 have hp0:0<mkP a b:=by
  rcases Nat.eq_zero_or_pos (mkP a b) with h | h
  ·rw[h] at eB;omega
  ·exact h
 obtain⟨Q,hQ⟩:∃ Q:Int,Q=if mkS a b then -(mkQ a b:Int) else mkQ a b:=⟨_,rfl⟩
 have nQ:Q.natAbs=mkQ a b:=by rw[hQ];split<;>omega
 have heq:Q*b=a*(mkP a b:Nat):=by
  have eA':((mkQ a b:Nat):Int)*(g:Int)=(a.natAbs:Int):=by rw[← Int.natCast_mul,eA]
  have eB':((mkP a b:Nat):Int)*(g:Int)=(b.natAbs:Int):=by rw[← Int.natCast_mul,eB]
  refine Int.eq_of_mul_eq_mul_right (show (g:Int)≠0 by omega) ?_
  rw[Int.mul_right_comm,Int.mul_assoc a,eB',hQ]
  unfold mkS
  by_cases ha:a<0<;>by_cases hb':b<0<;>simp[ha,hb',Int.neg_mul,eA']
  ·rw[show (a.natAbs:Int) = -a by omega,show (b.natAbs:Int) = -b by omega,Int.neg_mul,Int.mul_neg]
  ·rw[show (a.natAbs:Int) = -a by omega,show (b.natAbs:Int)=b by omega,Int.neg_mul,Int.neg_neg]
  ·rw[show (a.natAbs:Int)=a by omega,show (b.natAbs:Int) = -b by omega,Int.mul_neg]
  ·rw[show (a.natAbs:Int)=a by omega,show (b.natAbs:Int)=b by omega]
 have fin:=qcx (p:=a) (q:=b) (T:=Q) (U:=(mkP a b:Nat)) hb (by omega) (by rw[nQ];exact cop) heq
 have u1:mkN a b=qcq (qaJ Q.natAbs&&qaJ ((mkP a b:Nat):Int).natAbs) (sgV Q.natAbs (decide (Q<0))):=by
  unfold mkN mkF
  rw[if_neg hb,nQ,show ((mkP a b:Nat):Int).natAbs=mkP a b from rfl]
  have:sgV (mkQ a b) (mkS a b)=sgV (mkQ a b) (decide (Q<0)):=by
   unfold sgV
   split
   ·cases hs:mkS a b
    ·rw[hs] at hQ
     have hQ':Q=mkQ a b:=by simpa using hQ
     have:decide (Q<0)=false:=by simp;omega
     rw[this]
    ·rw[hs] at hQ
     have hQ':Q = -(mkQ a b:Int):=by simpa using hQ
     by_cases h0:mkQ a b=0
     ·rw[h0];simp
     ·have:decide (Q<0)=true:=by simp;omega
      rw[this]
   ·rfl
  rw[this]
 have u2:mkD a b=qcq (qaJ Q.natAbs&&qaJ ((mkP a b:Nat):Int).natAbs) (sgV ((mkP a b:Nat):Int).natAbs (decide (((mkP a b:Nat):Int)<0))):=by
  unfold mkD mkF
  rw[if_neg hb,nQ,show ((mkP a b:Nat):Int).natAbs=mkP a b from rfl,show decide (((mkP a b:Nat):Int)<0)=false by simp]
 have u3:mkE a b=qf5 (qaJ Q.natAbs&&qaJ ((mkP a b:Nat):Int).natAbs):=by
  unfold mkE mkF
  rw[if_neg hb,nQ,show ((mkP a b:Nat):Int).natAbs=mkP a b from rfl]
 rw[u1,u2,u3]
 exact fin
end Go.Proofs.YtleaeldgaflmkaaGreat

namespace Go.Proofs.YtleaeldgaflmkaaGreat
set_option maxRecDepth 100000
open Go.RowKit
theorem IsRes.one {p q N D E n d:Int} (h:IsRes p q N D E) (hq:q≠0) (hk:okB n d=true) (hn:I64 n) (hd:I64 d) (he:n*q=p*d):N=n∧D=d∧E=0:=by
 rcases h with ⟨h1,h2,_,_,h5⟩ | ⟨_,_,_,h4⟩
 ·have:N*d=n*D:=by
   refine Int.eq_of_mul_eq_mul_right hq ?_
   rw[Int.mul_right_comm,h5,Int.mul_right_comm n D q,he,Int.mul_right_comm]
  obtain⟨a1,a2⟩:=qda h2 hk this
  exact⟨a1,a2,h1⟩
 ·exact absurd he (h4 n d hk hn hd)
theorem qhV {n:Int} (h:n≠-9223372036854775808):okB n 1=true:=qbt.2 ⟨by omega,h,by simp⟩
theorem qcb {n d:Int} (hn:I64 n) (hd:I64 d) (h:okB n d=true):Pure Tryz.prog 61 #[qaa n d] (.int .i64 0):=fun w=>qf6 h▸qbo n d w hn.1 hn.2 hd.1 hd.2
theorem qfo {n d:Int} (hn:I64 n) (hd:I64 d) (h:¬ okB n d=true):Pure Tryz.prog 61 #[qaa n d] (.int .i64 8):=fun w=>qeO h▸qbo n d w hn.1 hn.2 hd.1 hd.2
theorem qlO {n d:Int} (hn:I64 n) (hd:I64 d) (h:okB n d=true):Pure Tryz.prog 39 #[qaa n d] (.int .i64 0):=fun w=>qf6 h▸qaM n d w hn.1 hn.2 hd.1 hd.2
theorem qg1 {a b:Int} (ha:I64 a) (hb:I64 b) (h0:b≠0):∃ N D E,IsRes a b N D E∧Pure Tryz.prog 87 #[iV a,iV b] (.tuple #[qaa N D,iV E]):=
 ⟨_,_,_,qhP h0,fun w=>qle a b w ha hb⟩
theorem qjc {a b c d:Int} (ha:I64 a) (hb:I64 b) (hc:I64 c) (hd:I64 d) (h1:okB a b=true) (h2:okB c d=true) :
 Pure Tryz.prog 102 #[qaa a b,qaa c d] (.tuple #[iV (a*d-c*b).sign,iV 0]):=qty ha hb hc hd h1 h2
theorem qtF {a b c d:Int} (ha:I64 a) (hb:I64 b) (hc:I64 c) (hd:I64 d) (h1:okB a b=true) (h2:okB c d=true) :
 ∃ N D E,IsRes (a*d-c*b) (b*d) N D E∧Pure Tryz.prog 101 #[qaa a b,qaa c d] (.tuple #[qaa N D,iV E]):=
 ⟨_,_,_,by
  have:=qiW h1 (qd2 hc.2 h2)
  rwa [Int.neg_mul] at this,qsU ha hb hc hd h1 h2⟩
end Go.Proofs.YtleaeldgaflmkaaGreat

namespace Go.Proofs.YtleaeldgaflmkaaGreat
set_option maxRecDepth 100000
open Go.RowKit
set_option maxRecDepth 100000
theorem IsRes.fits {p q N D E:Int} (h:IsRes p q N D E) (hq:0<q) (q1:q≤9223372036854775807) (p0 : -9223372036854775807≤p) (p1:p≤9223372036854775807) :
 E=0∧okB N D=true∧I64 N∧I64 D∧N*q=p*D:=by
 rcases h with h | ⟨_,_,_,h4⟩
 ·exact h
 ·exfalso
  obtain⟨g,hg⟩:∃ g:Nat,g=Nat.gcd p.natAbs q.natAbs:=⟨_,rfl⟩
  have g0:0<g:=hg▸Nat.gcd_pos_of_pos_right _ (by omega)
  have e1:p.tdiv g*g=p:=Int.tdiv_mul_cancel (Int.ofNat_dvd_left.2 (hg▸Nat.gcd_dvd_left _ _))
  have e2:q.tdiv g*g=q:=Int.tdiv_mul_cancel (Int.ofNat_dvd_left.2 (hg▸Nat.gcd_dvd_right _ _))
  have n1:(p.tdiv g).natAbs=p.natAbs/g:=by rw[Int.natAbs_tdiv];rfl
  have n2:(q.tdiv g).natAbs=q.natAbs/g:=by rw[Int.natAbs_tdiv];rfl
  have b1:p.natAbs/g≤p.natAbs:=Nat.div_le_self _ _
  have b2:q.natAbs/g≤q.natAbs:=Nat.div_le_self _ _
  have cop:Nat.gcd (p.tdiv g).natAbs (q.tdiv g).natAbs=1:=by
   have g0':=g0
   rw[hg] at g0'
   rw[n1,n2,hg]
   exact Nat.coprime_div_gcd_div_gcd g0'
  generalize p.tdiv (g:Int)=P at *
  generalize q.tdiv (g:Int)=Q at *
  have hQ:0<Q:=by
   rcases Int.lt_trichotomy Q 0 with h' | h' | h'
   ·have:=Int.mul_neg_of_neg_of_pos h' (show (0:Int)<g by omega);omega
   ·subst h';omega
   ·exact h'
  refine h4 P Q (qbt.2 ⟨by omega,by omega,cop⟩) (by unfold I64;omega) (by unfold I64;omega) ?_
  rw[← e1,← e2]
  ac_rfl
theorem IsRes.congr {p q p' q' N D E:Int} (h:IsRes p q N D E) (hq:q≠0) (hq':q'≠0) (e:p*q'=p'*q):IsRes p' q' N D E:=by
 have key:∀ n d:Int,n*q=p*d↔n*q'=p'*d:=by
  intro n d
  constructor
  ·intro h
   refine Int.eq_of_mul_eq_mul_right hq ?_
   grind
  ·intro h
   refine Int.eq_of_mul_eq_mul_right hq' ?_
   grind
 rcases h with ⟨h1,h2,h3,h4,h5⟩ | ⟨h1,h2,h3,h4⟩
 ·exact Or.inl ⟨h1,h2,h3,h4,(key _ _).1 h5⟩
 ·exact Or.inr ⟨h1,h2,h3,fun n d a1 a2 a3 a4=>h4 n d a1 a2 a3 ((key _ _).2 a4)⟩
theorem qu5 {n k A B:Int} (h1:n≤A) (h2 : -A≤n) (h3:k≤B) (h4 : -B≤k) (hA:0≤A) (hB:0≤B) : -(A*B)≤n*k∧n*k≤A*B:=by
 have e:(n*k).natAbs≤A.natAbs*B.natAbs:=by rw[Int.natAbs_mul];exact Nat.mul_le_mul (by omega) (by omega)
 have e2:((A.natAbs*B.natAbs:Nat):Int)=A*B:=by rw[Int.natCast_mul];congr 1<;>omega
 omega
end Go.Proofs.YtleaeldgaflmkaaGreat

namespace Go.Proofs.YtleaeldgaflmkaaGreat
set_option maxRecDepth 100000
open Go.RowKit
set_option maxRecDepth 100000
theorem qgM {a b c d:Int} (ha:I64 a) (hb:I64 b) (hc:I64 c) (hd:I64 d) (h1:okB a b=true) (h2:okB c d=true):Pure Tryz.prog 63 #[qaa a b,qaa c d] (.int .i64 0):=
 fun w=>qfu h1 h2▸qk0 a b c d w ha hb hc hd
end Go.Proofs.YtleaeldgaflmkaaGreat

namespace Go.Proofs.YtleaeldgaflmkaaGreat
set_option maxRecDepth 100000
open Go.RowKit
set_option maxRecDepth 100000
theorem qoR {P Q N D N' D':Int} (hQ:Q≠0) (h1:okB N D=true) (h2:okB N' D'=true) (e1:N*Q=P*D) (e2:N'*Q=P*D'):N=N'∧D=D':=by
 refine qda h1 h2 (Int.eq_of_mul_eq_mul_right hQ ?_)
 rw[Int.mul_right_comm,e1,Int.mul_right_comm N' D Q,e2]
 ac_rfl
theorem IsRes.uniqR {p q p' q' N D E N' D' E':Int} (h:IsRes p q N D E) (h':IsRes p' q' N' D' E') (hq:q≠0) (hq':q'≠0) (e:p*q'=p'*q):N=N'∧D=D'∧E=E':=by
 have h2:=h'.congr hq' hq e.symm
 rcases h with ⟨a1,a2,a3,a4,a5⟩ | ⟨a1,a2,a3,a4⟩
 ·rcases h2 with ⟨b1,b2,b3,b4,b5⟩ | ⟨b1,b2,b3,b4⟩
  ·obtain⟨r1,r2⟩:=qoR hq a2 b2 a5 b5
   exact⟨r1,r2,by omega⟩
  ·exact absurd a5 (b4 _ _ a2 a3 a4)
 ·rcases h2 with ⟨b1,b2,b3,b4,b5⟩ | ⟨b1,b2,b3,b4⟩
  ·exact absurd b5 (a4 _ _ b2 b3 b4)
  ·exact⟨by omega,by omega,by omega⟩
end Go.Proofs.YtleaeldgaflmkaaGreat

namespace Go.Proofs.YtleaeldgaflmkaaGreat
set_option maxRecDepth 100000
open Go.RowKit
def okP (n a b:Int):Bool:=decide (0≤n∧n≤65535∧-1048576≤a∧a≤1048576∧-1048576≤b∧b≤1048576)
theorem qbk {n a b:Int}:okP n a b=true↔0≤n∧n≤65535∧-1048576≤a∧a≤1048576∧-1048576≤b∧b≤1048576:=by simp[okP]
theorem dt {p:Prop} [Decidable p] (h:p):decide p=true:=by simp[h]
theorem df {p:Prop} [Decidable p] (h:¬ p):decide p=false:=by simp[h]
theorem qaZ {n a b:Int} (h:okP n a b=true):Pure Tryz.prog 60 #[qab n a b] (iV 0):=by
 have h':=qbk.1 h
 exact qyH (df (by omega)) (df (by omega)) (dt (by omega)) (dt (by omega)) (dt (by omega)) (dt (by omega))
theorem qaW {n a b:Int} (h:okP n a b=true):Pure Tryz.prog 30 #[qab n a b] (iV 0):=by
 have h':=qbk.1 h
 exact qwW (df (by omega)) (df (by omega)) (df (by omega)) (df (by omega)) (df (by omega)) (df (by omega))
theorem qeY {n a b:Int} (h:¬ okP n a b=true):Pure Tryz.prog 60 #[qab n a b] (iV 8):=by
 rw[qbk] at h
 by_cases h1:n<0
 ·exact qyL (dt h1)
 by_cases h2:n>65535
 ·exact qyb (df h1) (dt h2)
 by_cases h3 : -1048576≤a
 ·by_cases h4:a≤1048576
  ·by_cases h5 : -1048576≤b
   ·exact qzt (df h1) (df h2) (dt h3) (dt h4) (dt h5) (df (by omega))
   ·exact qyc (df h1) (df h2) (dt h3) (dt h4) (df h5)
  ·exact qyM (df h1) (df h2) (dt h3) (df h4)
 ·exact qyR (df h1) (df h2) (df h3)
theorem qcH {n a b:Int} (h:¬ okP n a b=true):Pure Tryz.prog 30 #[qab n a b] (iV 8):=by
 rw[qbk] at h
 by_cases h1:n<0
 ·exact qyF (dt h1)
 by_cases h2:n>65535
 ·exact qxG (df h1) (dt h2)
 by_cases h3:a < -1048576
 ·exact qzA (df h1) (df h2) (dt h3)
 by_cases h4:a>1048576
 ·exact qxH (df h1) (df h2) (df h3) (dt h4)
 by_cases h5:b < -1048576
 ·exact qyg (df h1) (df h2) (df h3) (df h4) (dt h5)
 ·exact qyx (df h1) (df h2) (df h3) (df h4) (df h5) (dt (by omega))
def qcF (P Q pb qb pi qi:Int):Bool:=decide (P>Q∨P=Q∧(pb>qb∨pb=qb∧pi<qi))
theorem qc7 {P Q pb qb pi qi:Int} (h:P>Q∨P=Q∧(pb>qb∨pb=qb∧pi<qi)):qcF P Q pb qb pi qi=true:=dt h
theorem qdd {P Q pb qb pi qi:Int} (h:¬ (P>Q∨P=Q∧(pb>qb∨pb=qb∧pi<qi))):qcF P Q pb qb pi qi=false:=df h
theorem qed {pi pa pb qi qa qb:Int} (hp:okP pi pa pb=true) (hq:okP qi qa qb=true) (hb:pb≠qb) :
 ∃ m n,okB m n=true∧I64 m∧I64 n∧m*(pb-qb)=(qa-pa)*n∧Pure Tryz.prog 133 #[qab pi pa pb,qab qi qa qb] (qaa m n):=by
 have hp':=qbk.1 hp
 have hq':=qbk.1 hq
 obtain⟨N,D,E,hr,hm⟩:=qg1 (a:=qa-pa) (b:=pb-qb) (by unfold I64;omega) (by unfold I64;omega) (by omega)
 have key:E=0∧okB N D=true∧I64 N∧I64 D∧N*(pb-qb)=(qa-pa)*D:=by
  by_cases hs:0<pb-qb
  ·exact hr.fits hs (by omega) (by omega) (by omega)
  ·have h2:=hr.congr (p':=-(qa-pa)) (q':=-(pb-qb)) (by omega) (by omega) (by rw[Int.mul_neg,Int.neg_mul])
   obtain⟨e1,e2,e3,e4,e5⟩:=h2.fits (by omega) (by omega) (by omega) (by omega)
   refine⟨e1,e2,e3,e4,?_⟩
   rw[Int.mul_neg,Int.neg_mul] at e5
   omega
 obtain⟨rfl,k1,k2,k3,k4⟩:=key
 exact⟨N,D,k1,k2,k3,k4,qhm (by rw[qah (by omega) (by omega)]) (by rw[qah (by omega) (by omega)]) hm⟩
theorem qqi {pi pa pb qi qa qb n d:Int} (hn:I64 n) (hd:I64 d) (hp:okP pi pa pb=true) (hq:okP qi qa qb=true) (ht:okB n d=true) (hij:pi≠qi) :
 Pure Tryz.prog 81 #[qab pi pa pb,qab qi qa qb,qaa n d] (.tuple #[.bool (qcF (pa*d+pb*n) (qa*d+qb*n) pb qb pi qi),iV 0]):=by
 have c1:=qaZ hp
 have c2:=qaZ hq
 have c3:=qcb hn hd ht
 have c4:Pure Tryz.prog 110 #[qab pi pa pb,qab qi qa qb] (iV 0):=qva (by simp[hij])
 have d0:0<d:=by have:=qaz ht;omega
 by_cases hb:pb=qb
 ·subst hb
  by_cases ha:pa=qa
  ·subst ha
   by_cases hi:pi<qi
   ·rw[qc7 (Or.inr ⟨rfl,Or.inr ⟨rfl,hi⟩⟩)]
    exact qp9 c1 c2 c3 c4 (by simp) (dt hi)
   ·rw[qdd (by omega)]
    exact qo4 c1 c2 c3 c4 (by simp) (df hi)
  ·have e:pa*d-qa*d=(pa-qa)*d:=(Int.sub_mul _ _ _).symm
   by_cases hg:pa>qa
   ·have:=Int.mul_pos (show 0<pa-qa by omega) d0
    rw[qc7 (Or.inl (by omega))]
    exact qoU c1 c2 c3 c4 (by simp[ha]) (by simp) (dt hg)
   ·have:=Int.mul_neg_of_neg_of_pos (show pa-qa<0 by omega) d0
    rw[qdd (by omega)]
    exact qpt c1 c2 c3 c4 (by simp[ha]) (by simp) (df hg)
 ·obtain⟨m,k,h1,h2,h3,h4,h5⟩:=qed hp hq hb
  have cc:=qjc hn hd h2 h3 ht h1
  have k0:0<k:=by have:=qaz h1;omega
  have key:(pa*d+pb*n-(qa*d+qb*n))*k=(pb-qb)*(n*k-m*d):=by
   have e1:(pb-qb)*(m*d)=(qa-pa)*k*d:=by rw[← h4,← Int.mul_assoc,Int.mul_comm (pb-qb) m]
   rw[Int.mul_sub,e1,Int.sub_mul,Int.add_mul,Int.add_mul,Int.sub_mul,Int.sub_mul,Int.sub_mul,← Int.mul_assoc,← Int.mul_assoc,Int.mul_right_comm qa k d,Int.mul_right_comm pa k d]
   omega
  have hs:(0≤n*k-m*d↔(n*k-m*d).sign≥0):=by
   rcases Int.lt_trichotomy (n*k-m*d) 0 with h | h | h
   ·rw[Int.sign_eq_neg_one_of_neg h];omega
   ·rw[h];decide
   ·rw[Int.sign_eq_one_of_pos h];omega
  generalize n*k-m*d=X at *
  generalize hP:pa*d+pb*n=P at *
  generalize hQ:qa*d+qb*n=Q at *
  by_cases hg:pb>qb
  ·by_cases hx:0≤X
   ·have:=Int.mul_nonneg (show 0≤pb-qb by omega) hx
    rw[qc7 (by
     rcases Int.lt_or_le P Q with h | h
     ·have:=Int.mul_neg_of_neg_of_pos (show P-Q<0 by omega) k0;omega
     ·rcases Int.lt_or_eq_of_le h with h | h
      ·exact Or.inl h
      ·exact Or.inr ⟨h.symm,Or.inl hg⟩)]
    exact qlK c1 c2 c3 c4 (by simp[hb]) (by simp[hb]) h5 cc (dt (hs.1 hx)) (dt hg)
   ·have:=Int.mul_neg_of_pos_of_neg (show 0<pb-qb by omega) (show X<0 by omega)
    rw[qdd (by
     intro h
     have hle:0≤P-Q:=by omega
     have:=Int.mul_nonneg hle (Int.le_of_lt k0)
     omega)]
    exact qlE c1 c2 c3 c4 (by simp[hb]) (by simp[hb]) h5 cc (df (fun h=>hx (hs.2 h))) (dt hg)
  ·by_cases hx:0≤X
   ·have:=Int.mul_nonneg (show 0≤qb-pb by omega) hx
    have e:(pb-qb)*X = -((qb-pb)*X):=by rw[← Int.neg_mul];congr 1;omega
    rw[qdd (by
     intro h
     have hlt:0<P-Q:=by omega
     have:=Int.mul_pos hlt k0
     omega)]
    exact ql8 c1 c2 c3 c4 (by simp[hb]) (by simp[hb]) h5 cc (dt (hs.1 hx)) (df hg)
   ·have:=Int.mul_pos_of_neg_of_neg (show pb-qb<0 by omega) (show X<0 by omega)
    rw[qc7 (by
     left
     rcases Int.lt_or_le Q P with h | h
     ·exact h
     ·have:(P-Q)*k≤0:=by
       have:=Int.mul_nonneg (show 0≤Q-P by omega) (Int.le_of_lt k0)
       have e:(P-Q)*k = -((Q-P)*k):=by rw[← Int.neg_mul];congr 1;omega
       omega
      omega)]
    exact qlT c1 c2 c3 c4 (by simp[hb]) (by simp[hb]) h5 cc (df (fun h=>hx (hs.2 h))) (df hg)
end Go.Proofs.YtleaeldgaflmkaaGreat
