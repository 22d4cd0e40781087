/-
  Joined: Pm, Rx, Ct, Cv. Conditions: none.
-/
import Derived.Test.YtleaeldgaflmkaaGreatW28
import Derived.Test.YtleaeldgaflmkaaGreatW31
import Derived.Test.YtleaeldgaflmkaaGreatW25
import Derived.Test.YtleaeldgaflmkaaGreatW30
namespace Go.Proofs.YtleaeldgaflmkaaGreat
set_option maxRecDepth 100000
open Go.RowKit
theorem IsRes.uniq {p q N D E N' D' E':Int} (h:IsRes p q N D E) (h':IsRes p q N' D' E') (hq:q≠0):N=N'∧D=D'∧E=E':=by
 rcases h with ⟨e1,k1,i1,j1,f1⟩ | ⟨e1,n1,d1,g1⟩<;>rcases h' with ⟨e2,k2,i2,j2,f2⟩ | ⟨e2,n2,d2,g2⟩
 ·have e:N*D'=N'*D:=by
   refine Int.eq_of_mul_eq_mul_right hq ?_
   rw[Int.mul_right_comm,f1,Int.mul_right_comm N' D q,f2,Int.mul_right_comm]
  obtain⟨a,b⟩:=qda k1 k2 e
  exact⟨a,b,e1.trans e2.symm⟩
 ·exact absurd f1 (g2 N D k1 i1 j1)
 ·exact absurd f2 (g1 N' D' k2 i2 j2)
 ·exact⟨n1.trans n2.symm,d1.trans d2.symm,e1.trans e2.symm⟩
theorem qog {n:Int} (h:I64 n):iV (bits .and .i64 n 4294967295)=iV (n%4294967296):=by
 unfold I64 at h
 have h1:(BitVec.ofInt 64 n).toNat=(n%18446744073709551616).toNat:=by rw[BitVec.toNat_ofInt];rfl
 have h2:(BitVec.ofInt 64 4294967295).toNat=2 ^ 32-1:=by decide
 have e:bits .and .i64 n 4294967295=IntKind.i64.wrap ((BitVec.ofInt 64 n &&& BitVec.ofInt 64 4294967295).toNat:Int):=rfl
 rw[e,BitVec.toNat_and,h1,h2,Nat.and_two_pow_sub_one_eq_mod,qah (by omega) (by omega)]
 congr 1
 omega
theorem qrj (n:Int):n.fdiv (2 ^ (min (32:Int).toNat IntKind.i64.bits))=n/4294967296:=by
 rw[show ((2:Int) ^ (min (32:Int).toNat IntKind.i64.bits))=4294967296 by decide]
 exact Int.fdiv_eq_ediv_of_nonneg _ (by decide)
theorem qeM {n:Int} (h:I64 n):Pure Tryz.prog 89 #[iV n] (.agg #[iV (n/4294967296),iV (n%4294967296)]):=
 qla (by decide) (by rw[qrj]) (qog h)
theorem qgE {x:Int} (h0 : -9223372036854775808≤x) (h1:x≤9223372036854775807):iV (IntKind.i64.wrap x)=iV x:=by rw[qah h0 h1]
theorem qux {a x A X:Int} (h1 : -A≤a) (h2:a≤A) (h3 : -X≤x) (h4:x≤X) (hA:0≤A) (hX:0≤X) : -(A*X)≤a*x∧a*x≤A*X:=qu5 h2 h1 h4 h3 hA hX
theorem qlg {s0 s1 S:Int} (h0 : -9223372036854775≤s0) (h1:s0≤9223372036854775) (h2 : -9223372036854775≤s1) (h3:s1≤9223372036854775) (hS:S=s0*4294967296+s1) :
 (I64 S∧Pure Tryz.prog 90 #[.agg #[iV s0,iV s1]] (.tuple #[iV S,.bool true]))∨(¬ I64 S∧Pure Tryz.prog 90 #[.agg #[iV s0,iV s1]] (.tuple #[iV 0,.bool false])):=by
 have v1:iV (s1.fdiv (2 ^ (min (32:Int).toNat IntKind.i64.bits)))=iV (s1/4294967296):=by rw[qrj]
 have v2:=qgE (x:=s0+s1/4294967296) (by omega) (by omega)
 by_cases a:s0+s1/4294967296 < -2147483648
 ·exact Or.inr ⟨by unfold I64;omega,qnW (by decide) v1 v2 (dt a)⟩
 ·by_cases b:s0+s1/4294967296>2147483647
  ·exact Or.inr ⟨by unfold I64;omega,ql2 (by decide) v1 v2 (df a) (dt b)⟩
  ·refine Or.inl ⟨by unfold I64;omega,qno (by decide) v1 v2 (df a) (df b) (hh:=(s0+s1/4294967296)*4294967296) ?_ (qog (by unfold I64;omega)) ?_⟩
   ·rw[show ((2:Int) ^ (min (32:Int).toNat IntKind.i64.bits))=4294967296 by decide]
    exact qgE (by omega) (by omega)
   ·rw[show (s0+s1/4294967296)*4294967296+s1%4294967296=S by omega]
    exact qgE (by omega) (by omega)
theorem qve {pi pa pb n d:Int} (hn:I64 n) (hd:I64 d) (hp:okP pi pa pb=true) (ht:okB n d=true) :
 ∃ N D E,IsRes (pa*d+pb*n) d N D E∧Pure Tryz.prog 37 #[qab pi pa pb,qaa n d] (.tuple #[qaa N D,iV E]):=by
 have hp':=qbk.1 hp
 have d1:=qaz ht
 have hd':=hd
 have hn':=hn
 unfold I64 at hd' hn'
 obtain⟨rn,rd,E,hr,hm⟩:=qg1 (a:=pb) (b:=d) (by unfold I64;omega) hd (by omega)
 obtain⟨rfl,k1,i1,i2,e1⟩:=hr.fits (by omega) (by omega) (by omega) (by omega)
 have rd1:=qaz k1
 have i2':=i2
 have i1':=i1
 unfold I64 at i1' i2'
 have hdvd:rd.natAbs ∣ d.natAbs:=by
  obtain⟨_,_,g⟩:=qbt.1 k1
  refine Nat.Coprime.dvd_of_dvd_mul_left (show Nat.Coprime rd.natAbs rn.natAbs by rw[Nat.coprime_comm];exact g) ⟨pb.natAbs,?_⟩
  rw[← Int.natAbs_mul,e1,Int.natAbs_mul,Nat.mul_comm]
 obtain⟨c,hc⟩:=hdvd
 have c0:0<c:=by
  rcases Nat.eq_zero_or_pos c with e | e
  ·rw[e,Nat.mul_zero] at hc;omega
  ·exact e
 have hdc:d=rd*(c:Int):=by
  have:d=((rd.natAbs*c:Nat):Int):=by omega
  rw[this,Int.natCast_mul];congr 1;omega
 have hbc:pb=rn*(c:Int):=by
  refine Int.eq_of_mul_eq_mul_right (show rd≠0 by omega) ?_
  rw[← e1,hdc,Int.mul_right_comm,Int.mul_assoc]
 have hrn : -1048576≤rn∧rn≤1048576:=by
  have:rn.natAbs*c=pb.natAbs:=by rw[hbc,Int.natAbs_mul,Int.natAbs_natCast]
  have:=Nat.le_mul_of_pos_right rn.natAbs c0
  omega
 have a0:=qux (a:=pa) (x:=rd/4294967296) (A:=1048576) (X:=2147483648) (by omega) (by omega) (by omega) (by omega) (by decide) (by decide)
 have b0:=qux (a:=rn) (x:=n/4294967296) (A:=1048576) (X:=2147483648) (by omega) (by omega) (by omega) (by omega) (by decide) (by decide)
 have a1:=qux (a:=pa) (x:=rd%4294967296) (A:=1048576) (X:=4294967296) (by omega) (by omega) (by omega) (by omega) (by decide) (by decide)
 have b1:=qux (a:=rn) (x:=n%4294967296) (A:=1048576) (X:=4294967296) (by omega) (by omega) (by omega) (by omega) (by decide) (by decide)
 have hsum:=qlW (a:=pa) (b:=rn) (x0:=rd/4294967296) (x1:=rd%4294967296) (y0:=n/4294967296) (y1:=n%4294967296) (qgE (by omega) (by omega)) (qgE (by omega) (by omega)) (qgE (by omega) (by omega)) (qgE (by omega) (by omega)) (qgE (by omega) (by omega)) (qgE (by omega) (by omega))
 obtain⟨S,hS⟩:∃ S,S=pa*rd+rn*n:=⟨_,rfl⟩
 have hS2:S=(pa*(rd/4294967296)+rn*(n/4294967296))*4294967296+(pa*(rd%4294967296)+rn*(n%4294967296)):=by
  have e2:rd=rd/4294967296*4294967296+rd%4294967296:=by omega
  have e3:n=n/4294967296*4294967296+n%4294967296:=by omega
  rw[hS]
  conv=>lhs;rw[e2,e3]
  rw[Int.mul_add,Int.mul_add,Int.add_mul,← Int.mul_assoc,← Int.mul_assoc]
  omega
 have heq:S*d=(pa*d+pb*n)*rd:=by
  rw[hS,Int.add_mul,Int.add_mul,Int.mul_right_comm pa rd d,Int.mul_right_comm rn n d,e1,Int.mul_right_comm pb rd n]
 have hcd:Nat.gcd S.natAbs rd.natAbs=1:=by
  obtain⟨_,_,g1⟩:=qbt.1 k1
  obtain⟨_,_,g2⟩:=qbt.1 ht
  have g3:Nat.Coprime n.natAbs rd.natAbs:=Nat.Coprime.coprime_dvd_right ⟨c,hc⟩ g2
  have g4:Nat.Coprime (rn*n).natAbs rd.natAbs:=by rw[Int.natAbs_mul];exact Nat.Coprime.mul_left g1 g3
  have g5:Int.gcd S rd=1:=by
   rw[hS,Int.add_comm,Int.gcd_comm,Int.gcd_add_mul_right_right,Int.gcd_comm]
   exact g4
  exact g5
 have hat:=fun {N D E:Int} (h:Pure Tryz.prog 62 #[qab pi pa pb,qaa n d] (.tuple #[qaa N D,iV E]))=>qyQ (qaZ hp) (qcb hn hd ht) h
 rcases qlg (s0:=pa*(rd/4294967296)+rn*(n/4294967296)) (s1:=pa*(rd%4294967296)+rn*(n%4294967296)) (S:=S) (by omega) (by omega) (by omega) (by omega) hS2 with ⟨j1,j2⟩ | ⟨j1,j2⟩
 ·obtain⟨N,D,E,h1,h2⟩:=qg1 (a:=S) (b:=rd) j1 i2 (by omega)
  exact⟨N,D,E,h1.congr (by omega) (by omega) heq,hat (qtW hm (qeM i2) (qeM hn) hsum j2 h2)⟩
 ·have hres:=qcx (p:=pa*d+pb*n) (q:=d) (T:=S) (U:=rd) (by omega) (by omega) hcd heq
  have hf:(qaJ S.natAbs&&qaJ rd.natAbs)=false:=by
   unfold I64 at j1
   simp[qaJ];omega
  rw[hf] at hres
  exact⟨_,_,_,hres,hat (qt4 hm (qeM i2) (qeM hn) hsum j2)⟩
end Go.Proofs.YtleaeldgaflmkaaGreat

namespace Go.Proofs.YtleaeldgaflmkaaGreat
set_option maxRecDepth 100000
open Go.RowKit
theorem qbF {a b c d:Int} (ha:I64 a) (hb:I64 b) (hc:I64 c) (hd:I64 d):Pure Tryz.prog 33 #[qaa a b,qaa c d] (iV (a*d-c*b).sign):=by
 have c1:=qaU a d ha hd
 have c2:=qaU c b hc hb
 generalize a*d=x at *
 generalize c*b=y at *
 have s1:=qeZ x
 have s2:=qeZ y
 have kx:x<0∧x.sign = -1∨x=0∧x.sign=0∨0<x∧x.sign=1:=by
  rcases Int.lt_trichotomy x 0 with h | h | h
  ·exact Or.inl ⟨h,Int.sign_eq_neg_one_of_neg h⟩
  ·exact Or.inr (Or.inl ⟨h,by rw[h];rfl⟩)
  ·exact Or.inr (Or.inr ⟨h,Int.sign_eq_one_of_pos h⟩)
 have ky:y<0∧y.sign = -1∨y=0∧y.sign=0∨0<y∧y.sign=1:=by
  rcases Int.lt_trichotomy y 0 with h | h | h
  ·exact Or.inl ⟨h,Int.sign_eq_neg_one_of_neg h⟩
  ·exact Or.inr (Or.inl ⟨h,by rw[h];rfl⟩)
  ·exact Or.inr (Or.inr ⟨h,Int.sign_eq_one_of_pos h⟩)
 have kd:x-y<0∧(x-y).sign = -1∨x-y=0∧(x-y).sign=0∨0<x-y∧(x-y).sign=1:=by
  rcases Int.lt_trichotomy (x-y) 0 with h | h | h
  ·exact Or.inl ⟨h,Int.sign_eq_neg_one_of_neg h⟩
  ·exact Or.inr (Or.inl ⟨h,by rw[h];rfl⟩)
  ·exact Or.inr (Or.inr ⟨h,Int.sign_eq_one_of_pos h⟩)
 by_cases he:x.sign=y.sign
 ·by_cases hn:x.sign<0
  ·have l:=qdP (decide (y<0)) (decide (x<0)) y.natAbs x.natAbs
   rw[show (x-y).sign=qf4 y.natAbs x.natAbs by unfold qf4;split<;>(try split)<;>omega]
   exact qkj c1 c2 s1 s2 (by simp[he]) (qat hn) l
  ·have l:=qdP (decide (x<0)) (decide (y<0)) x.natAbs y.natAbs
   rw[show (x-y).sign=qf4 x.natAbs y.natAbs by unfold qf4;split<;>(try split)<;>omega]
   exact qkK c1 c2 s1 s2 (by simp[he]) (qao hn) l
 ·by_cases hl:x.sign<y.sign
  ·rw[show (x-y).sign = -1 by omega]
   exact qkM c1 c2 s1 s2 (by simpa using he) (qat hl)
  ·rw[show (x-y).sign=1 by omega]
   exact qk7 c1 c2 s1 s2 (by simpa using he) (qao hl)
theorem qbu (a b g:Nat) (ha:a<18446744073709551616) (hb:b<18446744073709551616) (hg:g=Nat.gcd a b):Pure Tryz.prog 65 #[.int .u64 a,.int .u64 b] (.int .u64 (g:Int)):=
 fun w=>hg▸qmr a b w ha hb
theorem qiI {x:Int} (h0:0≤x) (h1:x<18446744073709551616):Value.int .u64 (IntKind.u64.wrap x)=.int .u64 x:=qdI rfl h0 h1
theorem qrg {x y:Nat} (h:x<18446744073709551616):Value.int .u64 (IntKind.u64.wrap ((x:Int).tdiv (y:Int)))=.int .u64 ((x/y:Nat):Int):=qdI (qg0 x y) (Int.natCast_nonneg _) (by have:=Nat.div_le_self x y;omega)
theorem qz4 {x y:Nat} (h:x<9223372036854775808):iV (IntKind.i64.wrap ((x:Int).tdiv (y:Int)))=iV ((x/y:Nat):Int):=by
 have:=Nat.div_le_self x y
 rw[qg0]
 generalize x/y=z at *
 rw[qah (by omega) (by omega)]
theorem qfp {f:Bool} {U:Nat} (h:f=true→U<9223372036854775808):qcq f (sgV U false)=qcq f (U:Int):=by
 cases f
 ·rfl
 ·show sgV U false=(U:Int)
  unfold sgV
  rw[if_pos (h rfl)]
  rfl
theorem qjC {a b c d:Int} (ha:I64 a) (hb:I64 b) (hc:I64 c) (hd:I64 d) (h1:okB a b=true) (h2:okB c d=true) :
 Pure Tryz.prog 64 #[qaa a b,qaa c d] (.tuple #[qaa (smN a b c d) (smD a b c d),.int .i64 (qf5 (smF a b c d))]):=by
 have b1:=qaz h1
 have d1:=qaz h2
 have a1:=qbs h1
 have c1:=qbs h2
 have hB:=qgM ha hb hc hd h1 h2
 unfold I64 at ha hb hc hd
 obtain⟨bn,rfl⟩:∃ n:Nat,b=n:=⟨b.natAbs,by omega⟩
 obtain⟨dn,rfl⟩:∃ n:Nat,d=n:=⟨d.natAbs,by omega⟩
 obtain⟨g,hg⟩:∃ g,g=Nat.gcd bn dn:=⟨_,rfl⟩
 have eG:smG bn dn=g:=by rw[hg];rfl
 have g0:0<g:=hg▸Nat.gcd_pos_of_pos_left _ (by omega)
 have gl:g≤bn:=hg▸Nat.gcd_le_left _ (by omega)
 have gd:g≤dn:=hg▸Nat.gcd_le_right _ (by omega)
 obtain⟨r,hr⟩:∃ r,r=dn/g:=⟨_,rfl⟩
 obtain⟨l,hl⟩:∃ l,l=bn/g:=⟨_,rfl⟩
 have rl:r≤dn:=hr▸Nat.div_le_self _ _
 have ll:l≤bn:=hl▸Nat.div_le_self _ _
 obtain⟨T,hT⟩:∃ T:Int,T=a*(r:Int)+c*(l:Int):=⟨_,rfl⟩
 have eT:smT a bn c dn=T:=by unfold smT;rw[eG,qg0,qg0,← hr,← hl,hT]
 obtain⟨k,hk⟩:∃ k,k=Nat.gcd g (T.natAbs%g):=⟨_,rfl⟩
 have eK:smK a bn c dn=k:=by unfold smK;rw[eT,eG,hk,Nat.gcd_comm]
 have k0:0<k:=hk▸Nat.gcd_pos_of_pos_left _ g0
 have kl:k≤g:=hk▸Nat.gcd_le_left _ g0
 obtain⟨e,he⟩:∃ e,e=dn/k:=⟨_,rfl⟩
 have el:e≤dn:=he▸Nat.div_le_self _ _
 have eU:smU a bn c dn=((l*e:Nat):Int):=by unfold smU;rw[eG,eK,qg0,qg0,← hl,← he];simp
 have x1:(a*(r:Int)).natAbs≤9223372036854775807*9223372036854775807:=by rw[Int.natAbs_mul];exact Nat.mul_le_mul (by omega) (by omega)
 have y1:(c*(l:Int)).natAbs≤9223372036854775807*9223372036854775807:=by rw[Int.natAbs_mul];exact Nat.mul_le_mul (by omega) (by omega)
 have Tl:T.natAbs<170141183460469231731687303715884105728:=by rw[hT];generalize a*(r:Int)=p at *;generalize c*(l:Int)=q at *;omega
 have p1:=qaU a r (by unfold I64;omega) (by unfold I64;omega)
 have p2:=qaU c l (by unfold I64;omega) (by unfold I64;omega)
 have p3:=qff (a*r) (c*l) (by omega) (by omega)
 rw[← hT] at p3
 have q1:=qeu (decide (T<0)) T.natAbs g (by omega) g0 (by omega)
 have q2:=qeu (decide (T<0)) T.natAbs k (by omega) k0 (by omega)
 have ml:T.natAbs%g<g:=Nat.mod_lt _ g0
 have gk:=qbu g (T.natAbs%g) k (by omega) (by omega) hk
 have hgk:=qbu bn dn g (by omega) (by omega) hg
 have pu:=qdB l e (by omega) (by omega)
 have md:=qbh (decide (T<0)) false false (T.natAbs/k) (l*e)
 have key:=qsj hB (qiI (by omega) (by omega)) (qiI (by omega) (by omega)) hgk (qgm (by omega) (by omega)) (by omega) (hr▸qz4 (by omega)) p1 (hl▸qz4 (by omega)) p2 p3
  (qiI (by omega) (by omega)) q1 gk q2 (qiI (by omega) (by omega)) (by omega) (he▸qrg (by omega)) pu md
 have f1:smF a bn c dn=(qaJ (T.natAbs/k)&&qaJ (l*e)):=by unfold smF;rw[eT,eK,eU,Int.natAbs_natCast]
 have f2:smN a bn c dn=qcq (qaJ (T.natAbs/k)&&qaJ (l*e)) (sgV (T.natAbs/k) (decide (T<0))):=by unfold smN;rw[f1,eT,eK]
 have f3:smD a bn c dn=qcq (qaJ (T.natAbs/k)&&qaJ (l*e)) ((l*e:Nat):Int):=by
  unfold smD
  rw[f1,eU,Int.natAbs_natCast,qao (by omega)]
  exact qfp fun h=>by simp only[Bool.and_eq_true] at h;simpa [qaJ] using h.2
 rw[f1,f2,f3]
 exact key
theorem qqE {a b c d:Int} (ha:I64 a) (hb:I64 b) (hc:I64 c) (hd:I64 d) (h1:okB a b=true) (h2:okB c d=true) :
 Pure Tryz.prog 38 #[qaa a b,qaa c d] (.tuple #[qaa (smN a b (-c) d) (smD a b (-c) d),iV (qf5 (smF a b (-c) d))]):=by
 have c1:=qbs h2
 have c2:=hc
 unfold I64 at c2
 exact qsO (qgM ha hb hc hd h1 h2) (by rw[qah (by omega) (by omega),Int.zero_sub]) (qjC ha hb (by unfold I64;omega) hd h1 (qd2 c2.2 h2))
theorem qnG (a d:Int):muA a d*(Nat.gcd a.natAbs d.natAbs:Nat)=a:=Int.tdiv_mul_cancel (Int.ofNat_dvd_left.2 (Nat.gcd_dvd_left _ _))
theorem qoZ {a b c d:Int} (ha:I64 a) (hb:I64 b) (hc:I64 c) (hd:I64 d) (h1:okB a b=true) (h2:okB c d=true) :
 Pure Tryz.prog 127 #[qaa a b,qaa c d] (.tuple #[qaa (muN a b c d) (muD a b c d),.int .i64 (qf5 (muF a b c d))]):=by
 have b1:=qaz h1
 have d1:=qaz h2
 have a1:=qbs h1
 have c1:=qbs h2
 have hB:=qgM ha hb hc hd h1 h2
 have za:=qck a ha
 have zc:=qck c hc
 unfold I64 at ha hb hc hd
 obtain⟨bn,rfl⟩:∃ n:Nat,b=n:=⟨b.natAbs,by omega⟩
 obtain⟨dn,rfl⟩:∃ n:Nat,d=n:=⟨d.natAbs,by omega⟩
 have mA:=qnG a dn
 have mC:=qnG c bn
 rw[Int.natAbs_natCast] at mA mC
 obtain⟨g,hg⟩:∃ g,g=Nat.gcd a.natAbs dn:=⟨_,rfl⟩
 obtain⟨h,hh⟩:∃ h,h=Nat.gcd c.natAbs bn:=⟨_,rfl⟩
 have g0:0<g:=hg▸Nat.gcd_pos_of_pos_right _ (by omega)
 have h0:0<h:=hh▸Nat.gcd_pos_of_pos_right _ (by omega)
 have xA:(muA a dn).natAbs=a.natAbs/g:=by unfold muA;rw[Int.natAbs_tdiv];simp only[Int.natAbs_natCast];rw[← hg];rfl
 have xC:(muA c bn).natAbs=c.natAbs/h:=by unfold muA;rw[Int.natAbs_tdiv];simp only[Int.natAbs_natCast];rw[← hh];rfl
 have eT:(muT a bn c dn).natAbs=a.natAbs/g*(c.natAbs/h):=by unfold muT;rw[Int.natAbs_mul,xA,xC]
 have eU:muU a bn c dn=((bn/h*(dn/g):Nat):Int):=by
  unfold muU muB
  rw[Int.natAbs_natCast,Int.natAbs_natCast,← hg,← hh,qg0,qg0]
  simp
 have gg:=qbu a.natAbs dn g (by omega) (by omega) hg
 have gh:=qbu c.natAbs bn h (by omega) (by omega) hh
 have dx:=Nat.div_le_self a.natAbs g
 have dy:=Nat.div_le_self c.natAbs h
 have db:=Nat.div_le_self bn h
 have dd:=Nat.div_le_self dn g
 have p1:=qdB (a.natAbs/g) (c.natAbs/h) (by omega) (by omega)
 have p2:=qdB (bn/h) (dn/g) (by omega) (by omega)
 have f1:muF a bn c dn=(qaJ (a.natAbs/g*(c.natAbs/h))&&qaJ (bn/h*(dn/g))):=by unfold muF;rw[eT,eU,Int.natAbs_natCast]
 have f3:muD a bn c dn=qcq (qaJ (a.natAbs/g*(c.natAbs/h))&&qaJ (bn/h*(dn/g))) ((bn/h*(dn/g):Nat):Int):=by
  unfold muD
  rw[f1,eU,Int.natAbs_natCast,qao (by omega)]
  exact qfp fun h=>by simp only[Bool.and_eq_true] at h;simpa [qaJ] using h.2
 have f2:∀ neg,decide (muT a bn c dn<0)=neg→muN a bn c dn=qcq (qaJ (a.natAbs/g*(c.natAbs/h))&&qaJ (bn/h*(dn/g))) (sgV (a.natAbs/g*(c.natAbs/h)) neg):=by
  intro neg hneg
  unfold muN
  rw[f1,eT,hneg]
 rw[← hg] at mA
 rw[← hh] at mC
 have sA:(a<0→muA a dn<0)∧(0≤a→0≤muA a dn)∧(a≠0→muA a dn≠0)∧(a=0→muA a dn=0):=by
  generalize muA a dn=m at *
  refine⟨fun ha'=>?_,fun ha'=>?_,fun ha' e=>ha' (by rw[← mA,e,Int.zero_mul]),fun ha'=>?_⟩
  ·refine Int.not_le.1 fun hm=>?_
   have:=Int.mul_nonneg hm (Int.natCast_nonneg g)
   omega
  ·refine Int.not_lt.1 fun hm=>?_
   have:=Int.mul_neg_of_neg_of_pos hm (show (0:Int)<g by omega)
   omega
  ·rw[ha'] at mA
   rcases Int.mul_eq_zero.1 mA with e | e
   ·exact e
   ·omega
 have sC:(c<0→muA c bn<0)∧(0≤c→0≤muA c bn)∧(c≠0→muA c bn≠0)∧(c=0→muA c bn=0):=by
  generalize muA c bn=m at *
  refine⟨fun ha'=>?_,fun ha'=>?_,fun ha' e=>ha' (by rw[← mC,e,Int.zero_mul]),fun ha'=>?_⟩
  ·refine Int.not_le.1 fun hm=>?_
   have:=Int.mul_nonneg hm (Int.natCast_nonneg h)
   omega
  ·refine Int.not_lt.1 fun hm=>?_
   have:=Int.mul_neg_of_neg_of_pos hm (show (0:Int)<h by omega)
   omega
  ·rw[ha'] at mC
   rcases Int.mul_eq_zero.1 mC with e | e
   ·exact e
   ·omega
 have mt:muT a bn c dn=muA a dn*muA c bn:=rfl
 have w1:=qiI (x:=(dn:Int)) (by omega) (by omega)
 have w2:=qiI (x:=(bn:Int)) (by omega) (by omega)
 have d1:=qrg (x:=a.natAbs) (y:=g) (by omega)
 have d2:=qrg (x:=c.natAbs) (y:=h) (by omega)
 have d3:=qrg (x:=bn) (y:=h) (by omega)
 have d4:=qrg (x:=dn) (y:=g) (by omega)
 have gz:¬ (g:Int)=0:=by omega
 have hz:¬ (h:Int)=0:=by omega
 by_cases na:a<0<;>by_cases nc:c<0
 ·rw[f1,f3,f2 false (by rw[mt];exact qao (by have:=Int.mul_pos_of_neg_of_neg (sA.1 na) (sC.1 nc);omega))]
  exact qon hB za w1 gg zc w2 gh (qat na) (qat nc) gz d1 hz d2 p1 d3 d4 p2 (qbh false false false _ _)
 ·by_cases z:c=0
  ·rw[f1,f3,f2 false (by rw[mt,sC.2.2.2 z,Int.mul_zero];rfl)]
   exact qmx hB za w1 gg zc w2 gh (qat na) (qao nc) (by simp;omega) (by simpa using z) gz d1 hz d2 p1 d3 d4 p2 (qbh false false false _ _)
  ·rw[f1,f3,f2 true (by rw[mt];exact qat (Int.mul_neg_of_neg_of_pos (sA.1 na) (by have:=sC.2.1 (by omega);have:=sC.2.2.1 z;omega)))]
   exact qlv hB za w1 gg zc w2 gh (qat na) (qao nc) (by simp;omega) (by simpa using z) gz d1 hz d2 p1 d3 d4 p2 (qbh true false false _ _)
 ·by_cases z:a=0
  ·rw[f1,f3,f2 false (by rw[mt,sA.2.2.2 z,Int.zero_mul];rfl)]
   exact qlw hB za w1 gg zc w2 gh (qao na) (qat nc) (by simpa using z) gz d1 hz d2 p1 d3 d4 p2 (qbh false false false _ _)
  ·rw[f1,f3,f2 true (by rw[mt];exact qat (Int.mul_neg_of_pos_of_neg (by have:=sA.2.1 (by omega);have:=sA.2.2.1 z;omega) (sC.1 nc)))]
   exact qm3 hB za w1 gg zc w2 gh (qao na) (qat nc) (by simpa using z) (by simp;omega) gz d1 hz d2 p1 d3 d4 p2 (qbh true false false _ _)
 ·rw[f1,f3,f2 false (by rw[mt];exact qao (by have:=Int.mul_nonneg (sA.2.1 (by omega)) (sC.2.1 (by omega));omega))]
  exact qnO hB za w1 gg zc w2 gh (qao na) (qao nc) gz d1 hz d2 p1 d3 d4 p2 (qbh false false false _ _)
end Go.Proofs.YtleaeldgaflmkaaGreat

namespace Go.Proofs.YtleaeldgaflmkaaGreat
set_option maxRecDepth 100000
open Go.RowKit
theorem qf7 {pi pa pb qi qa qb:Int} (h:pi≠qi):Pure Tryz.prog 110 #[qab pi pa pb,qab qi qa qb] (iV 0):=qva (by simp[h])
theorem qmu {pi pa qi qa b:Int} (hp:okP pi pa b=true) (hq:okP qi qa b=true) (h:pi≠qi):Pure Tryz.prog 180 #[qab pi pa b,qab qi qa b] (.tuple #[qaa 0 0,iV 6]):=
 qn1 (qaZ hp) (qaZ hq) (qf7 h) (by simp)
theorem qmZ {pi pa pb qi qa qb m k:Int} (hp:okP pi pa pb=true) (hq:okP qi qa qb=true) (h:pi≠qi) (hb:pb≠qb) (hm:Pure Tryz.prog 133 #[qab pi pa pb,qab qi qa qb] (qaa m k)) :
 Pure Tryz.prog 180 #[qab pi pa pb,qab qi qa qb] (.tuple #[qaa m k,iV 0]):=
 qnL (qaZ hp) (qaZ hq) (qf7 h) (by simp[hb]) hm
theorem qhE {pi pa pb qi qa qb:Int} (hp:okP pi pa pb=true) (hq:okP qi qa qb=true) (hb:pb≠qb) :
 ∃ m k,okB m k=true∧I64 m∧I64 k∧m*(pb-qb)=(qa-pa)*k∧Pure Tryz.prog 133 #[qab pi pa pb,qab qi qa qb] (qaa m k)∧Pure Tryz.prog 133 #[qab qi qa qb,qab pi pa pb] (qaa m k):=by
 obtain⟨m,k,h1,h2,h3,h4,h5⟩:=qed hp hq hb
 obtain⟨m',k',g1,g2,g3,g4,g5⟩:=qed hq hp (Ne.symm hb)
 have e:m*k'=m'*k:=by
  refine Int.eq_of_mul_eq_mul_right (show pb-qb≠0 by omega) ?_
  have a1:m*k'*(pb-qb)=(qa-pa)*k*k':=by rw[Int.mul_right_comm,h4]
  have a2:m'*k*(pb-qb) = -((pa-qa)*k'*k):=by
   rw[Int.mul_right_comm,← Int.neg_mul,← g4,← Int.mul_neg];congr 2;omega
  rw[a1,a2,← Int.neg_mul,← Int.neg_mul,Int.mul_right_comm (qa-pa) k k']
  congr 2;omega
 obtain⟨rfl,rfl⟩:=qda h1 g1 e
 exact⟨m,k,h1,h2,h3,h4,h5,g5⟩
end Go.Proofs.YtleaeldgaflmkaaGreat

namespace Go.Proofs.YtleaeldgaflmkaaGreat
set_option maxRecDepth 100000
open Go.RowKit
theorem qgX {x:Nat} (h:x<18446744073709551616):qcO false x=qap false 0 (x:Int):=by
 unfold qcO
 rw[show x/18446744073709551616=0 by omega,show x%18446744073709551616=x by omega]
 rfl
theorem qmG {a b:Int} (ha:I64 a) (hb:I64 b) (h0:b≠0):∃ N D E,IsRes a b N D E∧Pure Tryz.prog 160 #[.int .i64 a,.int .i64 b] (.tuple #[qaa N D,.int .i64 E]):=by
 have za:=qck a ha
 have zb:=qck b hb
 unfold I64 at ha hb
 obtain⟨g,hg⟩:∃ g,g=Nat.gcd a.natAbs b.natAbs:=⟨_,rfl⟩
 have g0:0<g:=hg▸Nat.gcd_pos_of_pos_right _ (by omega)
 have gg:=qbu a.natAbs b.natAbs g (by omega) (by omega) hg
 obtain⟨x,hx⟩:∃ x,x=a.natAbs/g:=⟨_,rfl⟩
 obtain⟨y,hy⟩:∃ y,y=b.natAbs/g:=⟨_,rfl⟩
 have ax:a.natAbs=g*x:=by rw[hx,hg];exact (Nat.mul_div_cancel' (Nat.gcd_dvd_left _ _)).symm
 have bY:b.natAbs=g*y:=by rw[hy,hg];exact (Nat.mul_div_cancel' (Nat.gcd_dvd_right _ _)).symm
 have hxy:Nat.gcd x y=1:=by rw[hx,hy,hg];exact Nat.gcd_div_gcd_div_gcd_of_pos_right (by omega)
 have y0:0<y:=by
  rcases Nat.eq_zero_or_pos y with e | e
  ·rw[e,Nat.mul_zero] at bY;omega
  ·exact e
 have lx:=Nat.div_le_self a.natAbs g
 have ly:=Nat.div_le_self b.natAbs g
 rw[← hx] at lx
 rw[← hy] at ly
 have q1:=qrg (x:=a.natAbs) (y:=g) (by omega)
 have q2:=qrg (x:=b.natAbs) (y:=g) (by omega)
 rw[← hx] at q1
 rw[← hy] at q2
 have md:∀ neg,Pure Tryz.prog 93 #[.bool neg,qap false 0 (x:Int),qap false 0 (y:Int)] (.tuple #[qaa (qcq (qaJ x&&qaJ y) (sgV x neg)) (qcq (qaJ x&&qaJ y) (y:Int)),.int .i64 (qf5 (qaJ x&&qaJ y))]):=by
  intro neg
  have:=qbh neg false false x y
  rwa [qgX (by omega),qgX (by omega)] at this
 have fin:∀ (T:Int) (neg:Bool),T.natAbs=x→decide (T<0)=neg→T*b=a*(y:Int)→IsRes a b (qcq (qaJ x&&qaJ y) (sgV x neg)) (qcq (qaJ x&&qaJ y) (y:Int)) (qf5 (qaJ x&&qaJ y)):=by
  intro T neg h1 h2 h3
  have:=qcx (p:=a) (q:=b) (T:=T) (U:=(y:Int)) h0 (by omega) (by rw[h1,Int.natAbs_natCast];exact hxy) h3
  rw[h1,h2,Int.natAbs_natCast,df (show ¬ (y:Int)<0 by omega),qfp (fun h=>by simp only[Bool.and_eq_true] at h;simpa [qaJ] using h.2)] at this
  exact this
 have gz:¬ (g:Int)=0:=by omega
 have cx:(x:Int)*((g*y:Nat):Int)=((g*x:Nat):Int)*(y:Int):=by rw[← Int.natCast_mul,← Int.natCast_mul];congr 1;rw[Nat.mul_left_comm,Nat.mul_assoc]
 by_cases sa:a<0<;>by_cases sb:b<0
 ·refine⟨_,_,_,fin (x:Int) false (by simp) (df (by omega)) ?_,qls (by simp[h0]) za zb gg (dt sa) (dt sb) gz q1 q2 (md false)⟩
  rw[show b = -((g*y:Nat):Int) by omega,show a = -((g*x:Nat):Int) by omega,Int.mul_neg,Int.neg_mul,cx]
 ·refine⟨_,_,_,fin (-(x:Int)) true (by simp) (dt ?_) ?_,qlR (by simp[h0]) za zb gg (dt sa) (df sb) (by simp;omega) gz q1 q2 (md true)⟩
  ·rcases Nat.eq_zero_or_pos x with e | e
   ·rw[e,Nat.mul_zero] at ax;omega
   ·omega
  ·rw[show b=((g*y:Nat):Int) by omega,show a = -((g*x:Nat):Int) by omega,Int.neg_mul,Int.neg_mul,cx]
 ·by_cases z:a=0
  ·refine⟨_,_,_,fin 0 false ?_ rfl (by rw[z];simp),qlr (by simp[h0]) za zb gg (df sa) (dt sb) (by simp[z]) gz q1 q2 (md false)⟩
   rw[hx,z];simp
  ·refine⟨_,_,_,fin (-(x:Int)) true (by simp) (dt ?_) ?_,qmd (by simp[h0]) za zb gg (df sa) (dt sb) (by simp[z]) gz q1 q2 (md true)⟩
   ·rcases Nat.eq_zero_or_pos x with e | e
    ·rw[e,Nat.mul_zero] at ax;omega
    ·omega
   ·rw[show b = -((g*y:Nat):Int) by omega,show a=((g*x:Nat):Int) by omega,Int.neg_mul_neg,cx]
 ·refine⟨_,_,_,fin (x:Int) false (by simp) (df (by omega)) ?_,qlG (by simp[h0]) za zb gg (df sa) (df sb) gz q1 q2 (md false)⟩
  rw[show b=((g*y:Nat):Int) by omega,show a=((g*x:Nat):Int) by omega,cx]
theorem qv5 {pi pa pb qi qa qb m k:Int} (hp:okP pi pa pb=true) (hq:okP qi qa qb=true) (hb:pb≠qb) (h1:okB m k=true) (h2:I64 m) (h3:I64 k) (h4:m*(pb-qb)=(qa-pa)*k) :
 Pure Tryz.prog 145 #[qab pi pa pb,qab qi qa qb] (qaa m k):=by
 have hp':=qbk.1 hp
 have hq':=qbk.1 hq
 obtain⟨N,D,E,hr,hm⟩:=qmG (a:=pa-qa) (b:=qb-pb) (by unfold I64;omega) (by unfold I64;omega) (by omega)
 obtain⟨rfl,rfl,rfl⟩:=hr.one (by omega) h1 h2 h3 (by
  rw[show qb-pb = -(pb-qb) by omega,show pa-qa = -(qa-pa) by omega,Int.mul_neg,Int.neg_mul,h4])
 exact qpK (by rw[qah (by omega) (by omega)]) (by rw[qah (by omega) (by omega)]) hm
theorem qoM {pi pa pb qi qa qb n d:Int} (hn:I64 n) (hd:I64 d) (hp:okP pi pa pb=true) (hq:okP qi qa qb=true) :
 Pure Tryz.prog 126 #[qab pi pa pb,qab qi qa qb,qaa n d] (.bool (qcF (pa*d+pb*n) (qa*d+qb*n) pb qb pi qi)):=by
 have hp':=qbk.1 hp
 have hq':=qbk.1 hq
 have c1:=qaU (pa-qa) d (by unfold I64;omega) hd
 have c2:=qaU (pb-qb) n (by unfold I64;omega) hn
 have b1:((pa-qa)*d).natAbs≤2097152*9223372036854775808:=by rw[Int.natAbs_mul];unfold I64 at hd;exact Nat.mul_le_mul (by omega) (by omega)
 have b2:((pb-qb)*n).natAbs≤2097152*9223372036854775808:=by rw[Int.natAbs_mul];unfold I64 at hn;exact Nat.mul_le_mul (by omega) (by omega)
 have c3:=qff ((pa-qa)*d) ((pb-qb)*n) (by omega) (by omega)
 have e:(pa-qa)*d+(pb-qb)*n=pa*d+pb*n-(qa*d+qb*n):=by rw[Int.sub_mul,Int.sub_mul];omega
 rw[e] at c3
 have c4:=qeZ (pa*d+pb*n-(qa*d+qb*n))
 have far:=qqL (pi:=pi) (pa:=pa) (pb:=pb) (qi:=qi) (qa:=qa) (qb:=qb) (by rw[qah (by omega) (by omega)]) c1 (by rw[qah (by omega) (by omega)]) c2 c3 c4
 generalize pa*d+pb*n=P at *
 generalize qa*d+qb*n=Q at *
 rcases Int.lt_trichotomy (P-Q) 0 with h | h | h
 ·rw[Int.sign_eq_neg_one_of_neg h] at far
  rw[qdd (by omega)]
  exact qh6 far (by decide) (by decide)
 ·rw[h] at far
  by_cases hb:pb=qb
  ·by_cases hi:pi<qi
   ·rw[qc7 (by omega)];exact qnP far (by decide) (by simp[hb]) (dt hi)
   ·rw[qdd (by omega)];exact qmB far (by decide) (by simp[hb]) (df hi)
  ·by_cases hg:pb>qb
   ·rw[qc7 (by omega)];exact qmV far (by decide) (by simp[hb]) (dt hg)
   ·rw[qdd (by omega)];exact qmA far (by decide) (by simp[hb]) (df hg)
 ·rw[Int.sign_eq_one_of_pos h] at far
  rw[qc7 (by omega)]
  exact qh7 far (by decide) (by decide)
end Go.Proofs.YtleaeldgaflmkaaGreat
