/-
  Joined: Pm, Rx, Cv, Fa, Fb, Fc. Conditions: none.
-/
import Derived.Test.YtleaeldgaflmkaaW23
import Derived.Test.YtleaeldgaflmkaaW25
import Derived.Test.YtleaeldgaflmkaaSxQ
import Derived.Test.YtleaeldgaflmkaaW24
namespace Go.Proofs.Ytleaeldgaflmkaa
set_option maxRecDepth 100000
open Go.RowKit
theorem IsRes.uniq {p q N D E N' D' E':Int} (h:IsRes p q N D E) (h':IsRes p q N' D' E') (hq:q≠0):N=N'∧D=D'∧E=E':=by
 rcases h with ⟨e1,k1,i1,j1,f1⟩ | ⟨e1,n1,d1,g1⟩<;>rcases h' with ⟨e2,k2,i2,j2,f2⟩ | ⟨e2,n2,d2,g2⟩
 ·have e:N*D'=N'*D:=by
   refine Int.eq_of_mul_eq_mul_right hq ?_
   rw[Int.mul_right_comm,f1,Int.mul_right_comm N' D q,f2,Int.mul_right_comm]
  obtain⟨a,b⟩:=qfq k1 k2 e
  exact⟨a,b,e1.trans e2.symm⟩
 ·exact absurd f1 (g2 N D k1 i1 j1)
 ·exact absurd f2 (g1 N' D' k2 i2 j2)
 ·exact⟨n1.trans n2.symm,d1.trans d2.symm,e1.trans e2.symm⟩
theorem qiu {n:Int} (h:I64 n):iV (bits .and .i64 n 4294967295)=iV (n%4294967296):=by
 unfold I64 at h
 have h1:(BitVec.ofInt 64 n).toNat=(n%18446744073709551616).toNat:=by rw[BitVec.toNat_ofInt];rfl
 have h2:(BitVec.ofInt 64 4294967295).toNat=2 ^ 32-1:=by decide
 have e:bits .and .i64 n 4294967295=IntKind.i64.wrap ((BitVec.ofInt 64 n &&& BitVec.ofInt 64 4294967295).toNat:Int):=rfl
 rw[e,BitVec.toNat_and,h1,h2,Nat.and_two_pow_sub_one_eq_mod,qao (by omega) (by omega)]
 congr 1
 omega
theorem qkE (n:Int):n.fdiv (2 ^ (min (32:Int).toNat IntKind.i64.bits))=n/4294967296:=by
 rw[show ((2:Int) ^ (min (32:Int).toNat IntKind.i64.bits))=4294967296 by decide]
 exact Int.fdiv_eq_ediv_of_nonneg _ (by decide)
theorem qdj {n:Int} (h:I64 n):Pure Try.prog 50 #[iV n] (.agg #[iV (n/4294967296),iV (n%4294967296)]):=
 qhk (by decide) (by rw[qkE]) (qiu h)
theorem qer {x:Int} (h0 : -9223372036854775808≤x) (h1:x≤9223372036854775807):iV (IntKind.i64.wrap x)=iV x:=by rw[qao h0 h1]
theorem qlW {a x A X:Int} (h1 : -A≤a) (h2:a≤A) (h3 : -X≤x) (h4:x≤X) (hA:0≤A) (hX:0≤X) : -(A*X)≤a*x∧a*x≤A*X:=qmD h2 h1 h4 h3 hA hX
theorem qg2 {s0 s1 S:Int} (h0 : -9223372036854775≤s0) (h1:s0≤9223372036854775) (h2 : -9223372036854775≤s1) (h3:s1≤9223372036854775) (hS:S=s0*4294967296+s1) :
 (I64 S∧Pure Try.prog 51 #[.agg #[iV s0,iV s1]] (.tuple #[iV S,.bool true]))∨(¬ I64 S∧Pure Try.prog 51 #[.agg #[iV s0,iV s1]] (.tuple #[iV 0,.bool false])):=by
 have v1:iV (s1.fdiv (2 ^ (min (32:Int).toNat IntKind.i64.bits)))=iV (s1/4294967296):=by rw[qkE]
 have v2:=qer (x:=s0+s1/4294967296) (by omega) (by omega)
 by_cases a:s0+s1/4294967296 < -2147483648
 ·exact Or.inr ⟨by unfold I64;omega,qh4 (by decide) v1 v2 (dt a)⟩
 ·by_cases b:s0+s1/4294967296>2147483647
  ·exact Or.inr ⟨by unfold I64;omega,qiQ (by decide) v1 v2 (df a) (dt b)⟩
  ·refine Or.inl ⟨by unfold I64;omega,qiR (by decide) v1 v2 (df a) (df b) (hh:=(s0+s1/4294967296)*4294967296) ?_ (qiu (by unfold I64;omega)) ?_⟩
   ·rw[show ((2:Int) ^ (min (32:Int).toNat IntKind.i64.bits))=4294967296 by decide]
    exact qer (by omega) (by omega)
   ·rw[show (s0+s1/4294967296)*4294967296+s1%4294967296=S by omega]
    exact qer (by omega) (by omega)
theorem qmj {pi pa pb n d:Int} (hn:I64 n) (hd:I64 d) (hp:okP pi pa pb=true) (ht:okB n d=true) :
 ∃ N D E,IsRes (pa*d+pb*n) d N D E∧Pure Try.prog 25 #[qae pi pa pb,qaa n d] (.tuple #[qaa N D,iV E]):=by
 have hp':=qcd.1 hp
 have d1:=qaz ht
 have hd':=hd
 have hn':=hn
 unfold I64 at hd' hn'
 obtain⟨rn,rd,E,hr,hm⟩:=qgf (a:=pb) (b:=d) (by unfold I64;omega) hd (by omega)
 obtain⟨rfl,k1,i1,i2,e1⟩:=hr.fits (by omega) (by omega) (by omega) (by omega)
 have rd1:=qaz k1
 have i2':=i2
 have i1':=i1
 unfold I64 at i1' i2'
 have hdvd:rd.natAbs ∣ d.natAbs:=by
  obtain⟨_,_,g⟩:=qaZ.1 k1
  refine Nat.Coprime.dvd_of_dvd_mul_left (show Nat.Coprime rd.natAbs rn.natAbs by rw[Nat.coprime_comm];exact g) ⟨pb.natAbs,?_⟩
  rw[← Int.natAbs_mul,e1,Int.natAbs_mul,Nat.mul_comm]
 obtain⟨c,hc⟩:=hdvd
 have c0:0<c:=by
  rcases Nat.eq_zero_or_pos c with e | e
  ·rw[e,Nat.mul_zero] at hc;omega
  ·exact e
 have hdc:d=rd*(c:Int):=by
  have:d=((rd.natAbs*c:Nat):Int):=by omega
  rw[this,Int.natCast_mul];congr 1;omega
 have hbc:pb=rn*(c:Int):=by
  refine Int.eq_of_mul_eq_mul_right (show rd≠0 by omega) ?_
  rw[← e1,hdc,Int.mul_right_comm,Int.mul_assoc]
 have hrn : -1048576≤rn∧rn≤1048576:=by
  have:rn.natAbs*c=pb.natAbs:=by rw[hbc,Int.natAbs_mul,Int.natAbs_natCast]
  have:=Nat.le_mul_of_pos_right rn.natAbs c0
  omega
 have a0:=qlW (a:=pa) (x:=rd/4294967296) (A:=1048576) (X:=2147483648) (by omega) (by omega) (by omega) (by omega) (by decide) (by decide)
 have b0:=qlW (a:=rn) (x:=n/4294967296) (A:=1048576) (X:=2147483648) (by omega) (by omega) (by omega) (by omega) (by decide) (by decide)
 have a1:=qlW (a:=pa) (x:=rd%4294967296) (A:=1048576) (X:=4294967296) (by omega) (by omega) (by omega) (by omega) (by decide) (by decide)
 have b1:=qlW (a:=rn) (x:=n%4294967296) (A:=1048576) (X:=4294967296) (by omega) (by omega) (by omega) (by omega) (by decide) (by decide)
 have hsum:=qiB (a:=pa) (b:=rn) (x0:=rd/4294967296) (x1:=rd%4294967296) (y0:=n/4294967296) (y1:=n%4294967296) (qer (by omega) (by omega)) (qer (by omega) (by omega)) (qer (by omega) (by omega)) (qer (by omega) (by omega)) (qer (by omega) (by omega)) (qer (by omega) (by omega))
 obtain⟨S,hS⟩:∃ S,S=pa*rd+rn*n:=⟨_,rfl⟩
 have hS2:S=(pa*(rd/4294967296)+rn*(n/4294967296))*4294967296+(pa*(rd%4294967296)+rn*(n%4294967296)):=by
  have e2:rd=rd/4294967296*4294967296+rd%4294967296:=by omega
  have e3:n=n/4294967296*4294967296+n%4294967296:=by omega
  rw[hS]
  conv=>lhs;rw[e2,e3]
  rw[Int.mul_add,Int.mul_add,Int.add_mul,← Int.mul_assoc,← Int.mul_assoc]
  omega
 have heq:S*d=(pa*d+pb*n)*rd:=by
  rw[hS,Int.add_mul,Int.add_mul,Int.mul_right_comm pa rd d,Int.mul_right_comm rn n d,e1,Int.mul_right_comm pb rd n]
 have hcd:Nat.gcd S.natAbs rd.natAbs=1:=by
  obtain⟨_,_,g1⟩:=qaZ.1 k1
  obtain⟨_,_,g2⟩:=qaZ.1 ht
  have g3:Nat.Coprime n.natAbs rd.natAbs:=Nat.Coprime.coprime_dvd_right ⟨c,hc⟩ g2
  have g4:Nat.Coprime (rn*n).natAbs rd.natAbs:=by rw[Int.natAbs_mul];exact Nat.Coprime.mul_left g1 g3
  have g5:Int.gcd S rd=1:=by
   rw[hS,Int.add_comm,Int.gcd_comm,Int.gcd_add_mul_right_right,Int.gcd_comm]
   exact g4
  exact g5
 have hat:=fun {N D E:Int} (h:Pure Try.prog 37 #[qae pi pa pb,qaa n d] (.tuple #[qaa N D,iV E]))=>qn5 (qcL hp) (qi8 hn hd ht) h
 rcases qg2 (s0:=pa*(rd/4294967296)+rn*(n/4294967296)) (s1:=pa*(rd%4294967296)+rn*(n%4294967296)) (S:=S) (by omega) (by omega) (by omega) (by omega) hS2 with ⟨j1,j2⟩ | ⟨j1,j2⟩
 ·obtain⟨N,D,E,h1,h2⟩:=qgf (a:=S) (b:=rd) j1 i2 (by omega)
  exact⟨N,D,E,h1.congr (by omega) (by omega) heq,hat (qlL hm (qdj i2) (qdj hn) hsum j2 h2)⟩
 ·have hres:=qbW (p:=pa*d+pb*n) (q:=d) (T:=S) (U:=rd) (by omega) (by omega) hcd heq
  have hf:(qaC S.natAbs&&qaC rd.natAbs)=false:=by
   unfold I64 at j1
   simp[qaC];omega
  rw[hf] at hres
  exact⟨_,_,_,hres,hat (qli hm (qdj i2) (qdj hn) hsum j2)⟩
end Go.Proofs.Ytleaeldgaflmkaa

namespace Go.Proofs.Ytleaeldgaflmkaa
set_option maxRecDepth 100000
open Go.RowKit
theorem qe8 {a b c d:Int} (ha:I64 a) (hb:I64 b) (hc:I64 c) (hd:I64 d):Pure Try.prog 22 #[qaa a b,qaa c d] (iV (a*d-c*b).sign):=by
 have c1:=qaT a d ha hd
 have c2:=qaT c b hc hb
 generalize a*d=x at *
 generalize c*b=y at *
 have s1:=qe3 x
 have s2:=qe3 y
 have kx:x<0∧x.sign = -1∨x=0∧x.sign=0∨0<x∧x.sign=1:=by
  rcases Int.lt_trichotomy x 0 with h | h | h
  ·exact Or.inl ⟨h,Int.sign_eq_neg_one_of_neg h⟩
  ·exact Or.inr (Or.inl ⟨h,by rw[h];rfl⟩)
  ·exact Or.inr (Or.inr ⟨h,Int.sign_eq_one_of_pos h⟩)
 have ky:y<0∧y.sign = -1∨y=0∧y.sign=0∨0<y∧y.sign=1:=by
  rcases Int.lt_trichotomy y 0 with h | h | h
  ·exact Or.inl ⟨h,Int.sign_eq_neg_one_of_neg h⟩
  ·exact Or.inr (Or.inl ⟨h,by rw[h];rfl⟩)
  ·exact Or.inr (Or.inr ⟨h,Int.sign_eq_one_of_pos h⟩)
 have kd:x-y<0∧(x-y).sign = -1∨x-y=0∧(x-y).sign=0∨0<x-y∧(x-y).sign=1:=by
  rcases Int.lt_trichotomy (x-y) 0 with h | h | h
  ·exact Or.inl ⟨h,Int.sign_eq_neg_one_of_neg h⟩
  ·exact Or.inr (Or.inl ⟨h,by rw[h];rfl⟩)
  ·exact Or.inr (Or.inr ⟨h,Int.sign_eq_one_of_pos h⟩)
 by_cases he:x.sign=y.sign
 ·by_cases hn:x.sign<0
  ·have l:=qco (decide (y<0)) (decide (x<0)) y.natAbs x.natAbs
   rw[show (x-y).sign=qd6 y.natAbs x.natAbs by unfold qd6;split<;>(try split)<;>omega]
   exact qg0 c1 c2 s1 s2 (by simp[he]) (qam hn) l
  ·have l:=qco (decide (x<0)) (decide (y<0)) x.natAbs y.natAbs
   rw[show (x-y).sign=qd6 x.natAbs y.natAbs by unfold qd6;split<;>(try split)<;>omega]
   exact qhl c1 c2 s1 s2 (by simp[he]) (qak hn) l
 ·by_cases hl:x.sign<y.sign
  ·rw[show (x-y).sign = -1 by omega]
   exact qhn c1 c2 s1 s2 (by simpa using he) (qam hl)
  ·rw[show (x-y).sign=1 by omega]
   exact qgH c1 c2 s1 s2 (by simpa using he) (qak hl)
theorem qbm (a b g:Nat) (ha:a<18446744073709551616) (hb:b<18446744073709551616) (hg:g=Nat.gcd a b):Pure Try.prog 29 #[.int .u64 a,.int .u64 b] (.int .u64 (g:Int)):=
 fun w=>hg▸qhA a b w ha hb
theorem qfu {x:Int} (h0:0≤x) (h1:x<18446744073709551616):Value.int .u64 (IntKind.u64.wrap x)=.int .u64 x:=qcq rfl h0 h1
theorem qlP {x y:Nat} (h:x<18446744073709551616):Value.int .u64 (IntKind.u64.wrap ((x:Int).tdiv (y:Int)))=.int .u64 ((x/y:Nat):Int):=qcq (qef x y) (Int.natCast_nonneg _) (by have:=Nat.div_le_self x y;omega)
theorem qoj {x y:Nat} (h:x<9223372036854775808):iV (IntKind.i64.wrap ((x:Int).tdiv (y:Int)))=iV ((x/y:Nat):Int):=by
 have:=Nat.div_le_self x y
 rw[qef]
 generalize x/y=z at *
 rw[qao (by omega) (by omega)]
theorem qeh {f:Bool} {U:Nat} (h:f=true→U<9223372036854775808):qbP f (sgV U false)=qbP f (U:Int):=by
 cases f
 ·rfl
 ·show sgV U false=(U:Int)
  unfold sgV
  rw[if_pos (h rfl)]
  rfl
theorem qgc {a b c d:Int} (ha:I64 a) (hb:I64 b) (hc:I64 c) (hd:I64 d) (h1:okB a b=true) (h2:okB c d=true) :
 Pure Try.prog 45 #[qaa a b,qaa c d] (.tuple #[qaa (smN a b c d) (smD a b c d),.int .i64 (qeF (smF a b c d))]):=by
 have b1:=qaz h1
 have d1:=qaz h2
 have a1:=qaY h1
 have c1:=qaY h2
 have hB:=qed ha hb hc hd h1 h2
 unfold I64 at ha hb hc hd
 obtain⟨bn,rfl⟩:∃ n:Nat,b=n:=⟨b.natAbs,by omega⟩
 obtain⟨dn,rfl⟩:∃ n:Nat,d=n:=⟨d.natAbs,by omega⟩
 obtain⟨g,hg⟩:∃ g,g=Nat.gcd bn dn:=⟨_,rfl⟩
 have eG:smG bn dn=g:=by rw[hg];rfl
 have g0:0<g:=hg▸Nat.gcd_pos_of_pos_left _ (by omega)
 have gl:g≤bn:=hg▸Nat.gcd_le_left _ (by omega)
 have gd:g≤dn:=hg▸Nat.gcd_le_right _ (by omega)
 obtain⟨r,hr⟩:∃ r,r=dn/g:=⟨_,rfl⟩
 obtain⟨l,hl⟩:∃ l,l=bn/g:=⟨_,rfl⟩
 have rl:r≤dn:=hr▸Nat.div_le_self _ _
 have ll:l≤bn:=hl▸Nat.div_le_self _ _
 obtain⟨T,hT⟩:∃ T:Int,T=a*(r:Int)+c*(l:Int):=⟨_,rfl⟩
 have eT:smT a bn c dn=T:=by unfold smT;rw[eG,qef,qef,← hr,← hl,hT]
 obtain⟨k,hk⟩:∃ k,k=Nat.gcd g (T.natAbs%g):=⟨_,rfl⟩
 have eK:smK a bn c dn=k:=by unfold smK;rw[eT,eG,hk,Nat.gcd_comm]
 have k0:0<k:=hk▸Nat.gcd_pos_of_pos_left _ g0
 have kl:k≤g:=hk▸Nat.gcd_le_left _ g0
 obtain⟨e,he⟩:∃ e,e=dn/k:=⟨_,rfl⟩
 have el:e≤dn:=he▸Nat.div_le_self _ _
 have eU:smU a bn c dn=((l*e:Nat):Int):=by unfold smU;rw[eG,eK,qef,qef,← hl,← he];simp
 have x1:(a*(r:Int)).natAbs≤9223372036854775807*9223372036854775807:=by rw[Int.natAbs_mul];exact Nat.mul_le_mul (by omega) (by omega)
 have y1:(c*(l:Int)).natAbs≤9223372036854775807*9223372036854775807:=by rw[Int.natAbs_mul];exact Nat.mul_le_mul (by omega) (by omega)
 have Tl:T.natAbs<170141183460469231731687303715884105728:=by rw[hT];generalize a*(r:Int)=p at *;generalize c*(l:Int)=q at *;omega
 have p1:=qaT a r (by unfold I64;omega) (by unfold I64;omega)
 have p2:=qaT c l (by unfold I64;omega) (by unfold I64;omega)
 have p3:=qeP (a*r) (c*l) (by omega) (by omega)
 rw[← hT] at p3
 have q1:=qda (decide (T<0)) T.natAbs g (by omega) g0 (by omega)
 have q2:=qda (decide (T<0)) T.natAbs k (by omega) k0 (by omega)
 have ml:T.natAbs%g<g:=Nat.mod_lt _ g0
 have gk:=qbm g (T.natAbs%g) k (by omega) (by omega) hk
 have hgk:=qbm bn dn g (by omega) (by omega) hg
 have pu:=qcz l e (by omega) (by omega)
 have md:=qa8 (decide (T<0)) false false (T.natAbs/k) (l*e)
 have key:=qkV hB (qfu (by omega) (by omega)) (qfu (by omega) (by omega)) hgk (qes (by omega) (by omega)) (by omega) (hr▸qoj (by omega)) p1 (hl▸qoj (by omega)) p2 p3
  (qfu (by omega) (by omega)) q1 gk q2 (qfu (by omega) (by omega)) (by omega) (he▸qlP (by omega)) pu md
 have f1:smF a bn c dn=(qaC (T.natAbs/k)&&qaC (l*e)):=by unfold smF;rw[eT,eK,eU,Int.natAbs_natCast]
 have f2:smN a bn c dn=qbP (qaC (T.natAbs/k)&&qaC (l*e)) (sgV (T.natAbs/k) (decide (T<0))):=by unfold smN;rw[f1,eT,eK]
 have f3:smD a bn c dn=qbP (qaC (T.natAbs/k)&&qaC (l*e)) ((l*e:Nat):Int):=by
  unfold smD
  rw[f1,eU,Int.natAbs_natCast,qak (by omega)]
  exact qeh fun h=>by simp only[Bool.and_eq_true] at h;simpa [qaC] using h.2
 rw[f1,f2,f3]
 exact key
theorem qj7 {a b c d:Int} (ha:I64 a) (hb:I64 b) (hc:I64 c) (hd:I64 d) (h1:okB a b=true) (h2:okB c d=true) :
 Pure Try.prog 31 #[qaa a b,qaa c d] (.tuple #[qaa (smN a b (-c) d) (smD a b (-c) d),iV (qeF (smF a b (-c) d))]):=by
 have c1:=qaY h2
 have c2:=hc
 unfold I64 at c2
 exact qk5 (qed ha hb hc hd h1 h2) (by rw[qao (by omega) (by omega),Int.zero_sub]) (qgc ha hb (by unfold I64;omega) hd h1 (qcR c2.2 h2))
theorem qil (a d:Int):muA a d*(Nat.gcd a.natAbs d.natAbs:Nat)=a:=Int.tdiv_mul_cancel (Int.ofNat_dvd_left.2 (Nat.gcd_dvd_left _ _))
theorem qjE {a b c d:Int} (ha:I64 a) (hb:I64 b) (hc:I64 c) (hd:I64 d) (h1:okB a b=true) (h2:okB c d=true) :
 Pure Try.prog 61 #[qaa a b,qaa c d] (.tuple #[qaa (muN a b c d) (muD a b c d),.int .i64 (qeF (muF a b c d))]):=by
 have b1:=qaz h1
 have d1:=qaz h2
 have a1:=qaY h1
 have c1:=qaY h2
 have hB:=qed ha hb hc hd h1 h2
 have za:=qcD a ha
 have zc:=qcD c hc
 unfold I64 at ha hb hc hd
 obtain⟨bn,rfl⟩:∃ n:Nat,b=n:=⟨b.natAbs,by omega⟩
 obtain⟨dn,rfl⟩:∃ n:Nat,d=n:=⟨d.natAbs,by omega⟩
 have mA:=qil a dn
 have mC:=qil c bn
 rw[Int.natAbs_natCast] at mA mC
 obtain⟨g,hg⟩:∃ g,g=Nat.gcd a.natAbs dn:=⟨_,rfl⟩
 obtain⟨h,hh⟩:∃ h,h=Nat.gcd c.natAbs bn:=⟨_,rfl⟩
 have g0:0<g:=hg▸Nat.gcd_pos_of_pos_right _ (by omega)
 have h0:0<h:=hh▸Nat.gcd_pos_of_pos_right _ (by omega)
 have xA:(muA a dn).natAbs=a.natAbs/g:=by unfold muA;rw[Int.natAbs_tdiv];simp only[Int.natAbs_natCast];rw[← hg];rfl
 have xC:(muA c bn).natAbs=c.natAbs/h:=by unfold muA;rw[Int.natAbs_tdiv];simp only[Int.natAbs_natCast];rw[← hh];rfl
 have eT:(muT a bn c dn).natAbs=a.natAbs/g*(c.natAbs/h):=by unfold muT;rw[Int.natAbs_mul,xA,xC]
 have eU:muU a bn c dn=((bn/h*(dn/g):Nat):Int):=by
  unfold muU muB
  rw[Int.natAbs_natCast,Int.natAbs_natCast,← hg,← hh,qef,qef]
  simp
 have gg:=qbm a.natAbs dn g (by omega) (by omega) hg
 have gh:=qbm c.natAbs bn h (by omega) (by omega) hh
 have dx:=Nat.div_le_self a.natAbs g
 have dy:=Nat.div_le_self c.natAbs h
 have db:=Nat.div_le_self bn h
 have dd:=Nat.div_le_self dn g
 have p1:=qcz (a.natAbs/g) (c.natAbs/h) (by omega) (by omega)
 have p2:=qcz (bn/h) (dn/g) (by omega) (by omega)
 have f1:muF a bn c dn=(qaC (a.natAbs/g*(c.natAbs/h))&&qaC (bn/h*(dn/g))):=by unfold muF;rw[eT,eU,Int.natAbs_natCast]
 have f3:muD a bn c dn=qbP (qaC (a.natAbs/g*(c.natAbs/h))&&qaC (bn/h*(dn/g))) ((bn/h*(dn/g):Nat):Int):=by
  unfold muD
  rw[f1,eU,Int.natAbs_natCast,qak (by omega)]
  exact qeh fun h=>by simp only[Bool.and_eq_true] at h;simpa [qaC] using h.2
 have f2:∀ neg,decide (muT a bn c dn<0)=neg→muN a bn c dn=qbP (qaC (a.natAbs/g*(c.natAbs/h))&&qaC (bn/h*(dn/g))) (sgV (a.natAbs/g*(c.natAbs/h)) neg):=by
  intro neg hneg
  unfold muN
  rw[f1,eT,hneg]
 rw[← hg] at mA
 rw[← hh] at mC
 have sA:(a<0→muA a dn<0)∧(0≤a→0≤muA a dn)∧(a≠0→muA a dn≠0)∧(a=0→muA a dn=0):=by
  generalize muA a dn=m at *
  refine⟨fun ha'=>?_,fun ha'=>?_,fun ha' e=>ha' (by rw[← mA,e,Int.zero_mul]),fun ha'=>?_⟩
  ·refine Int.not_le.1 fun hm=>?_
   have:=Int.mul_nonneg hm (Int.natCast_nonneg g)
   omega
  ·refine Int.not_lt.1 fun hm=>?_
   have:=Int.mul_neg_of_neg_of_pos hm (show (0:Int)<g by omega)
   omega
  ·rw[ha'] at mA
   rcases Int.mul_eq_zero.1 mA with e | e
   ·exact e
   ·omega
 have sC:(c<0→muA c bn<0)∧(0≤c→0≤muA c bn)∧(c≠0→muA c bn≠0)∧(c=0→muA c bn=0):=by
  generalize muA c bn=m at *
  refine⟨fun ha'=>?_,fun ha'=>?_,fun ha' e=>ha' (by rw[← mC,e,Int.zero_mul]),fun ha'=>?_⟩
  ·refine Int.not_le.1 fun hm=>?_
   have:=Int.mul_nonneg hm (Int.natCast_nonneg h)
   omega
  ·refine Int.not_lt.1 fun hm=>?_
   have:=Int.mul_neg_of_neg_of_pos hm (show (0:Int)<h by omega)
   omega
  ·rw[ha'] at mC
   rcases Int.mul_eq_zero.1 mC with e | e
   ·exact e
   ·omega
 have mt:muT a bn c dn=muA a dn*muA c bn:=rfl
 have w1:=qfu (x:=(dn:Int)) (by omega) (by omega)
 have w2:=qfu (x:=(bn:Int)) (by omega) (by omega)
 have d1:=qlP (x:=a.natAbs) (y:=g) (by omega)
 have d2:=qlP (x:=c.natAbs) (y:=h) (by omega)
 have d3:=qlP (x:=bn) (y:=h) (by omega)
 have d4:=qlP (x:=dn) (y:=g) (by omega)
 have gz:¬ (g:Int)=0:=by omega
 have hz:¬ (h:Int)=0:=by omega
 by_cases na:a<0<;>by_cases nc:c<0
 ·rw[f1,f3,f2 false (by rw[mt];exact qak (by have:=Int.mul_pos_of_neg_of_neg (sA.1 na) (sC.1 nc);omega))]
  exact qin hB za w1 gg zc w2 gh (qam na) (qam nc) gz d1 hz d2 p1 d3 d4 p2 (qa8 false false false _ _)
 ·by_cases z:c=0
  ·rw[f1,f3,f2 false (by rw[mt,sC.2.2.2 z,Int.mul_zero];rfl)]
   exact qhY hB za w1 gg zc w2 gh (qam na) (qak nc) (by simp;omega) (by simpa using z) gz d1 hz d2 p1 d3 d4 p2 (qa8 false false false _ _)
  ·rw[f1,f3,f2 true (by rw[mt];exact qam (Int.mul_neg_of_neg_of_pos (sA.1 na) (by have:=sC.2.1 (by omega);have:=sC.2.2.1 z;omega)))]
   exact qhM hB za w1 gg zc w2 gh (qam na) (qak nc) (by simp;omega) (by simpa using z) gz d1 hz d2 p1 d3 d4 p2 (qa8 true false false _ _)
 ·by_cases z:a=0
  ·rw[f1,f3,f2 false (by rw[mt,sA.2.2.2 z,Int.zero_mul];rfl)]
   exact qip hB za w1 gg zc w2 gh (qak na) (qam nc) (by simpa using z) gz d1 hz d2 p1 d3 d4 p2 (qa8 false false false _ _)
  ·rw[f1,f3,f2 true (by rw[mt];exact qam (Int.mul_neg_of_pos_of_neg (by have:=sA.2.1 (by omega);have:=sA.2.2.1 z;omega) (sC.1 nc)))]
   exact qhH hB za w1 gg zc w2 gh (qak na) (qam nc) (by simpa using z) (by simp;omega) gz d1 hz d2 p1 d3 d4 p2 (qa8 true false false _ _)
 ·rw[f1,f3,f2 false (by rw[mt];exact qak (by have:=Int.mul_nonneg (sA.2.1 (by omega)) (sC.2.1 (by omega));omega))]
  exact qis hB za w1 gg zc w2 gh (qak na) (qak nc) gz d1 hz d2 p1 d3 d4 p2 (qa8 false false false _ _)
end Go.Proofs.Ytleaeldgaflmkaa

namespace Go.Proofs.Ytleaeldgaflmkaa
set_option maxRecDepth 100000
open Go.RowKit
theorem qi2 {x:Nat} (h:x<18446744073709551616):qbU false x=qal false 0 (x:Int):=by
 unfold qbU
 rw[show x/18446744073709551616=0 by omega,show x%18446744073709551616=x by omega]
 rfl
end Go.Proofs.Ytleaeldgaflmkaa

namespace Go.Proofs.Ytleaeldgaflmkaa
set_option maxRecDepth 100000
open Go.RowKit
structure Pt where
 id:Int
 a:Int
 b:Int
abbrev ptV (p:Pt):Value:=qae p.id p.a p.b
def qdY:List Pt→List Value
 | []=>[]
 | p::r=>iV p.id::iV p.a::iV p.b::qdY r
theorem qci:∀ (l:List Pt),(qdY l).length=l.length*3
 | []=>rfl
 | p::r=>by simp[qdY,qci r];omega
theorem qdk:∀ {l:List Pt} {k:Nat} {p:Pt},l[k]?=some p→(qdY l)[k*3]?=some (iV p.id)∧(qdY l)[k*3+1]?=some (iV p.a)∧(qdY l)[k*3+2]?=some (iV p.b)
 | [],k,p,h=>by simp at h
 | q::r,0,p,h=>by simp at h;subst h;exact⟨rfl,rfl,rfl⟩
 | q::r,k+1,p,h=>by
  have:=qdk (l:=r) (k:=k) (p:=p) (by simpa using h)
  rw[show (k+1)*3=k*3+1+1+1 by omega]
  exact this
theorem qdH {l:List Pt} {k:Nat} {p:Pt} (h:l[k]?=some p):qj2 (qdY l) (0*3+k*3) [iV p.id,iV p.a,iV p.b]:=by
 obtain⟨h1,h2,h3⟩:=qdk h
 intro j v hj
 rw[show 0*3+k*3+j=k*3+j by omega]
 match j,hj with
 | 0,hj=>cases hj;exact h1
 | 1,hj=>cases hj;exact h2
 | 2,hj=>cases hj;exact h3
 | j+3,hj=>simp at hj
theorem qc8 {l:List Pt} {k:Nat} {p:Pt} (h:l[k]?=some p):qj2 (qdY l) (0*3+k*3) [iV p.id]:=by
 intro j v hj
 rw[show 0*3+k*3+j=k*3+j by omega]
 match j,hj with
 | 0,hj=>cases hj;exact (qdk h).1
 | j+1,hj=>simp at hj
theorem RunsL.rounds {P:Program} {lo fr:Nat} {c:Code} {n nb:Nat} (tm:Nat→List (Nat×SV)) (hp:Nat→List (Nat×Nat×SV)) {e:Exit} {tm2:TmL} {hp2:HpL} {N:Nat} :
 ∀ (d i:Nat),i+d=N→(∀ j,i≤j→j<N→RunsL P lo fr c n nb (tm (j+1)) (hp (j+1)) e tm2 hp2→RunsL P lo fr c n nb (tm j) (hp j) e tm2 hp2)→RunsL P lo fr c n nb (tm N) (hp N) e tm2 hp2→RunsL P lo fr c n nb (tm i) (hp i) e tm2 hp2
 | 0,i,h,_,last=>by
  have:i=N:=by omega
  subst this;exact last
 | d+1,i,h,step,last=>step i (Nat.le_refl i) (by omega) (RunsL.rounds tm hp d (i+1) (by omega) (fun j h1 h2=>step j (by omega) h2) last)
abbrev qap (l:List Pt):SV:=.row 46 3 l.length (qdY l)
abbrev qbl (b:Nat) (l:List Pt):SV:=.ag [.ls b l.length]
theorem qa1 {k:Nat} (h:k≤1000000):iV (IntKind.i64.wrap ((k:Int)+1))=iV ((k+1:Nat):Int):=by rw[qao (by omega) (by omega)];rfl
theorem qlz {l:List Pt} (h1:decide ((l.length:Int)>16)=true) (h2:decide ((l.length:Int)<64)=true):Fn 4 1 [qbl 0 l] [(0,0,qap l)] (.pv (.bool true)) 0 []:=
 qdG 200 [] [.t true,.t true] tI (Ai h1 (Ai h2 tI)) (by kernel_rfl)
theorem qlB {l:List Pt} (h1:decide ((l.length:Int)>16)=false) (h2:decide ((l.length:Int)>70)=false):Fn 4 1 [qbl 0 l] [(0,0,qap l)] (.pv (.bool false)) 0 []:=
 qdG 200 [] [.t false,.t false] tI (Ai h1 (Ai h2 tI)) (by kernel_rfl)
theorem qj4 {l:List Pt} (h1:decide ((l.length:Int)>16)=true) (h2:decide ((l.length:Int)<64)=false) (h3:decide ((l.length:Int)>70)=true):Fn 4 1 [qbl 0 l] [(0,0,qap l)] (.pv (.bool true)) 0 []:=
 qdG 200 [] [.t true,.t false,.t true] tI (Ai h1 (Ai h2 (Ai h3 tI))) (by kernel_rfl)
theorem qjV {l:List Pt} (h1:decide ((l.length:Int)>16)=true) (h2:decide ((l.length:Int)<64)=false) (h3:decide ((l.length:Int)>70)=false):Fn 4 1 [qbl 0 l] [(0,0,qap l)] (.pv (.bool false)) 0 []:=
 qdG 200 [] [.t true,.t false,.t false] tI (Ai h1 (Ai h2 (Ai h3 tI))) (by kernel_rfl)
theorem qfF (x:Int):(x==x)=true:=by simp
end Go.Proofs.Ytleaeldgaflmkaa

namespace Go.Proofs.Ytleaeldgaflmkaa
set_option maxRecDepth 100000
open Go.RowKit
theorem qgt {l:List Pt} {k:Nat} {p:Pt} (hk:l[k]?=some p) (hin:0≤(k:Int)∧(k:Int)<(l.length:Int)) (hlt:decide ((k:Int)<(l.length:Int))=true) (hc:Pure Try.prog 19 #[qae p.id p.a p.b] (iV (0))) (hs:iV (IntKind.i64.wrap ((k:Int)+1))=iV (((k+1:Nat):Int))) {e:Exit} {tm2:TmL} {hp2:HpL}
 (r:Rl 1 1 11 0 44 2 ([(1,.pp 1 0),(3,.pv (iV ((k+1:Nat):Int)))]) ([(1,0,.ls 0 l.length),(0,0,qap l)]) e tm2 hp2):Rl 1 1 11 0 44 2 ([(1,.pp 1 0),(3,.pv (iV (k:Int)))]) ([(1,0,.ls 0 l.length),(0,0,qap l)]) e tm2 hp2:=
 RunsL.next [] 300 [.t true,.r (ptV p),Rf hc,.k,Re hs]
  (Ro (Ai hlt (Ai hin (Ai (qdH hk) (Ai hc (Ai hs tI)))))) r
theorem qlI {l:List Pt} {k:Nat} {p:Pt} (hk:l[k]?=some p) (hin:0≤(k:Int)∧(k:Int)<(l.length:Int)) (hlt:decide ((k:Int)<(l.length:Int))=true) (hc:Pure Try.prog 19 #[qae p.id p.a p.b] (iV (8))):Rl 1 1 11 0 44 2 ([(1,.pp 1 0),(3,.pv (iV (k:Int)))]) ([(1,0,.ls 0 l.length),(0,0,qap l)]) (.ret) ([(2,.pv (iV 8))]) ([]):=
 RunsL.stop [] 300 [.t true,.r (ptV p),Rf hc,.k] (fun h=>by cases h)
  (Ro (Ai hlt (Ai hin (Ai (qdH hk) (Ai hc tI)))))
theorem qk9 {l:List Pt} {k:Nat} (hge:decide ((k:Int)<(l.length:Int))=false):Rl 1 1 11 0 44 2 ([(1,.pp 1 0),(3,.pv (iV (k:Int)))]) ([(1,0,.ls 0 l.length),(0,0,qap l)]) (.exit 0) ([(1,.pp 1 0)]) ([(1,0,.ls 0 l.length),(0,0,qap l)]):=
 RunsL.stop [] 300 [.t false] (fun h=>by cases h)
  (Ro (Ai hge tI))
theorem qf5 {l:List Pt} {k:Nat} {p q:Pt} (hq:l[k]?=some q) (hk:l[k+1]?=some p) (hi0:0≤(k:Int)∧(k:Int)<(l.length:Int)) (hi1:0≤((k+1:Nat):Int)∧((k+1:Nat):Int)<(l.length:Int)) (hlt:decide (((k+1:Nat):Int)<(l.length:Int))=true) (hm:iV (IntKind.i64.wrap (((k+1:Nat):Int)-1))=iV (k:Int)) (hg:decide (q.id≥p.id)=false) (hs:iV (IntKind.i64.wrap (((k+1:Nat):Int)+1))=iV (((k+1+1:Nat):Int))) {e:Exit} {tm2:TmL} {hp2:HpL}
 (r:Rl 1 1 11 1 44 2 ([(1,.pp 1 0),(4,.pv (iV ((k+1+1:Nat):Int)))]) ([(1,0,.ls 0 l.length),(0,0,qap l)]) e tm2 hp2):Rl 1 1 11 1 44 2 ([(1,.pp 1 0),(4,.pv (iV ((k+1:Nat):Int)))]) ([(1,0,.ls 0 l.length),(0,0,qap l)]) e tm2 hp2:=
 RunsL.next [] 300 [.t true,.r (iV (k:Int)),.r (iV q.id),.r (iV p.id),.t false,.r (iV (((k+1+1:Nat):Int)))]
  (Ro (Ai hlt (Ai hm (Ai hi0 (Ai (qc8 hq) (Ai hi1 (Ai (qc8 hk) (Ai hg (Ai hs tI))))))))) r
theorem qk1 {l:List Pt} {k:Nat} {p q:Pt} (hq:l[k]?=some q) (hk:l[k+1]?=some p) (hi0:0≤(k:Int)∧(k:Int)<(l.length:Int)) (hi1:0≤((k+1:Nat):Int)∧((k+1:Nat):Int)<(l.length:Int)) (hlt:decide (((k+1:Nat):Int)<(l.length:Int))=true) (hm:iV (IntKind.i64.wrap (((k+1:Nat):Int)-1))=iV (k:Int)) (hg:decide (q.id≥p.id)=true):Rl 1 1 11 1 44 2 ([(1,.pp 1 0),(4,.pv (iV ((k+1:Nat):Int)))]) ([(1,0,.ls 0 l.length),(0,0,qap l)]) (.ret) ([(2,.pv (iV 32))]) ([]):=
 RunsL.stop [] 300 [.t true,.r (iV (k:Int)),.r (iV q.id),.r (iV p.id),.t true] (fun h=>by cases h)
  (Ro (Ai hlt (Ai hm (Ai hi0 (Ai (qc8 hq) (Ai hi1 (Ai (qc8 hk) (Ai hg tI))))))))
theorem qhD {l:List Pt} {k:Nat} (hge:decide (((k:Nat):Int)<(l.length:Int))=false):Rl 1 1 11 1 44 2 ([(1,.pp 1 0),(4,.pv (iV ((k:Nat):Int)))]) ([(1,0,.ls 0 l.length),(0,0,qap l)]) (.exit 2) ([]) ([]):=
 RunsL.stop [] 300 [.t false] (fun h=>by cases h)
  (Ro (Ai hge tI))
theorem qlq {l:List Pt} (h64:decide ((l.length:Int)>64)=true) :
 Fn 11 1 [qbl 0 l] [(0,0,qap l)] (.pv (iV 4)) 0 []:=
 Fz [] [.t true]
  tI (Ai h64 tI)
theorem qmr {l:List Pt} (h64:decide ((l.length:Int)>64)=false) (r0:Rl 1 1 11 0 44 2 ([(1,.pp 1 0),(3,.pv (iV (((0:Nat):Int):Int)))]) ([(1,0,.ls 0 l.length),(0,0,qap l)]) (.ret) ([(2,.pv (iV 8))]) ([])) :
 Fn 11 1 [qbl 0 l] [(0,0,qap l)] (.pv (iV 8)) 0 []:=
 Fz [] [.t false,Lf r0]
  tI (Ai h64 (Lo r0 [] tI))
abbrev qoc (l:List Pt):Prop:=Rl 1 1 11 0 44 2 ([(1,.pp 1 0),(3,.pv (iV (((0:Nat):Int):Int)))]) ([(1,0,.ls 0 l.length),(0,0,qap l)]) (.exit 0) ([(1,.pp 1 0)]) ([(1,0,.ls 0 l.length),(0,0,qap l)])
theorem ql6 {l:List Pt} (h64:decide ((l.length:Int)>64)=false) (r0:qoc l) (r1:Rl 1 1 11 1 44 2 ([(1,.pp 1 0),(4,.pv (iV (((0+1:Nat):Int):Int)))]) ([(1,0,.ls 0 l.length),(0,0,qap l)]) (.ret) ([(2,.pv (iV 32))]) ([])) :
 Fn 11 1 [qbl 0 l] [(0,0,qap l)] (.pv (iV 32)) 0 []:=
 Fz [] [.t false,Lf r0,Lf r1]
  tI (Ai h64 (Lo r0 [] (Lo r1 [] tI)))
theorem qn2 {l:List Pt} (h64:decide ((l.length:Int)>64)=false) (r0:qoc l) (r1:Rl 1 1 11 1 44 2 ([(1,.pp 1 0),(4,.pv (iV (((0+1:Nat):Int):Int)))]) ([(1,0,.ls 0 l.length),(0,0,qap l)]) (.exit 2) ([]) ([])) :
 Fn 11 1 [qbl 0 l] [(0,0,qap l)] (.pv (iV 0)) 0 []:=
 Fz [] [.t false,Lf r0,Lf r1]
  tI (Ai h64 (Lo r0 [] (Lo r1 [] tI)))
end Go.Proofs.Ytleaeldgaflmkaa

namespace Go.Proofs.Ytleaeldgaflmkaa
set_option maxRecDepth 100000
open Go.RowKit
abbrev qnq (k:Nat) (l:List Pt):TmL:=[(1,.pp 1 0),(12,.ls 0 l.length),(13,.pv (iV (l.length:Int))),(14,.pv (iV (k:Int)))]
theorem qgd {l:List Pt} {k:Nat} {p:Pt} (hk:l[k]?=some p) (hin:0≤(k:Int)∧(k:Int)<(l.length:Int)) (hlt:decide ((k:Int)<(l.length:Int))=true) (hc:Pure Try.prog 14 #[qae p.id p.a p.b] (iV (0))) (hs:iV (IntKind.i64.wrap ((k:Int)+1))=iV (((k+1:Nat):Int))) {e:Exit} {tm2:TmL} {hp2:HpL}
 (r:Rl 1 1 8 0 45 2 ([(1,.pp 1 0),(12,.ls 0 l.length),(13,.pv (iV (l.length:Int))),(14,.pv (iV ((k+1:Nat):Int)))]) ([(1,0,.ls 0 l.length),(0,0,qap l)]) e tm2 hp2):Rl 1 1 8 0 45 2 (qnq k l) ([(1,0,.ls 0 l.length),(0,0,qap l)]) e tm2 hp2:=
 RunsL.next [] 300 [.t true,.r (ptV p),Rf hc,.k,Re hs]
  (Ro (Ai hlt (Ai hin (Ai (qdH hk) (Ai hc (Ai hs tI)))))) r
theorem qkL {l:List Pt} {k:Nat} {p:Pt} (hk:l[k]?=some p) (hin:0≤(k:Int)∧(k:Int)<(l.length:Int)) (hlt:decide ((k:Int)<(l.length:Int))=true) (hc:Pure Try.prog 14 #[qae p.id p.a p.b] (iV (8))):Rl 1 1 8 0 45 2 (qnq k l) ([(1,0,.ls 0 l.length),(0,0,qap l)]) (.ret) ([(2,.pv (iV 8))]) ([]):=
 RunsL.stop [] 300 [.t true,.r (ptV p),Rf hc,.k] (fun h=>by cases h)
  (Ro (Ai hlt (Ai hin (Ai (qdH hk) (Ai hc tI)))))
theorem qk7 {l:List Pt} {k:Nat} (hge:decide ((k:Int)<(l.length:Int))=false):Rl 1 1 8 0 45 2 (qnq k l) ([(1,0,.ls 0 l.length),(0,0,qap l)]) (.exit 0) ([(1,.pp 1 0)]) ([(1,0,.ls 0 l.length),(0,0,qap l)]):=
 RunsL.stop [] 300 [.t false] (fun h=>by cases h)
  (Ro (Ai hge tI))
theorem qgz {l:List Pt} {k:Nat} {p q:Pt} (hq:l[k]?=some q) (hk:l[k+1]?=some p) (hi0:0≤(k:Int)∧(k:Int)<(l.length:Int)) (hi1:0≤((k+1:Nat):Int)∧((k+1:Nat):Int)<(l.length:Int)) (hlt:decide (((k+1:Nat):Int)<(l.length:Int))=true) (hm:iV (IntKind.i64.wrap (((k+1:Nat):Int)-1))=iV (k:Int)) (hg:decide (q.id≥p.id)=false) (hs:iV (IntKind.i64.wrap (((k+1:Nat):Int)+1))=iV (((k+1+1:Nat):Int))) {e:Exit} {tm2:TmL} {hp2:HpL}
 (r:Rl 1 1 8 1 45 2 ([(1,.pp 1 0),(6,.pv (iV ((k+1+1:Nat):Int)))]) ([(1,0,.ls 0 l.length),(0,0,qap l)]) e tm2 hp2):Rl 1 1 8 1 45 2 ([(1,.pp 1 0),(6,.pv (iV ((k+1:Nat):Int)))]) ([(1,0,.ls 0 l.length),(0,0,qap l)]) e tm2 hp2:=
 RunsL.next [] 300 [.t true,.r (iV (k:Int)),.r (iV q.id),.r (iV p.id),.t false,.r (iV (((k+1+1:Nat):Int)))]
  (Ro (Ai hlt (Ai hm (Ai hi0 (Ai (qc8 hq) (Ai hi1 (Ai (qc8 hk) (Ai hg (Ai hs tI))))))))) r
theorem qkP {l:List Pt} {k:Nat} {p q:Pt} (hq:l[k]?=some q) (hk:l[k+1]?=some p) (hi0:0≤(k:Int)∧(k:Int)<(l.length:Int)) (hi1:0≤((k+1:Nat):Int)∧((k+1:Nat):Int)<(l.length:Int)) (hlt:decide (((k+1:Nat):Int)<(l.length:Int))=true) (hm:iV (IntKind.i64.wrap (((k+1:Nat):Int)-1))=iV (k:Int)) (hg:decide (q.id≥p.id)=true):Rl 1 1 8 1 45 2 ([(1,.pp 1 0),(6,.pv (iV ((k+1:Nat):Int)))]) ([(1,0,.ls 0 l.length),(0,0,qap l)]) (.ret) ([(2,.pv (iV 32))]) ([]):=
 RunsL.stop [] 300 [.t true,.r (iV (k:Int)),.r (iV q.id),.r (iV p.id),.t true] (fun h=>by cases h)
  (Ro (Ai hlt (Ai hm (Ai hi0 (Ai (qc8 hq) (Ai hi1 (Ai (qc8 hk) (Ai hg tI))))))))
theorem qhI {l:List Pt} {k:Nat} (hge:decide ((k:Int)<(l.length:Int))=false):Rl 1 1 8 1 45 2 ([(1,.pp 1 0),(6,.pv (iV ((k:Nat):Int)))]) ([(1,0,.ls 0 l.length),(0,0,qap l)]) (.exit 2) ([]) ([]):=
 RunsL.stop [] 300 [.t false] (fun h=>by cases h)
  (Ro (Ai hge tI))
theorem qkZ {l:List Pt} (h64:decide ((l.length:Int)>64)=true) :
 Fn 8 1 [qbl 0 l] [(0,0,qap l)] (.pv (iV (4))) 0 []:=
 Fz [] [.t true]
  tI (Ai h64 tI)
theorem qmO {l:List Pt} (h64:decide ((l.length:Int)>64)=false) (r0:Rl 1 1 8 0 45 2 ([(1,.pp 1 0),(12,.ls 0 l.length),(13,.pv (iV (l.length:Int))),(14,.pv (iV ((0:Nat):Int)))]) ([(1,0,.ls 0 l.length),(0,0,qap l)]) (.ret) ([(2,.pv (iV 8))]) ([])) :
 Fn 8 1 [qbl 0 l] [(0,0,qap l)] (.pv (iV (8))) 0 []:=
 Fz [] [.t false,Lf r0]
  tI (Ai h64 (Lo r0 [] tI))
abbrev qog (l:List Pt):Prop:=Rl 1 1 8 0 45 2 ([(1,.pp 1 0),(12,.ls 0 l.length),(13,.pv (iV (l.length:Int))),(14,.pv (iV ((0:Nat):Int)))]) ([(1,0,.ls 0 l.length),(0,0,qap l)]) (.exit 0) ([(1,.pp 1 0)]) ([(1,0,.ls 0 l.length),(0,0,qap l)])
theorem qmB {l:List Pt} (h64:decide ((l.length:Int)>64)=false) (r0:qog l) (r1:Rl 1 1 8 1 45 2 ([(1,.pp 1 0),(6,.pv (iV ((0+1:Nat):Int)))]) ([(1,0,.ls 0 l.length),(0,0,qap l)]) (.ret) ([(2,.pv (iV 32))]) ([])) :
 Fn 8 1 [qbl 0 l] [(0,0,qap l)] (.pv (iV (32))) 0 []:=
 Fz [] [.t false,Lf r0,Lf r1]
  tI (Ai h64 (Lo r0 [] (Lo r1 [] tI)))
theorem qne {l:List Pt} (h64:decide ((l.length:Int)>64)=false) (r0:qog l) (r1:Rl 1 1 8 1 45 2 ([(1,.pp 1 0),(6,.pv (iV ((0+1:Nat):Int)))]) ([(1,0,.ls 0 l.length),(0,0,qap l)]) (.exit 2) ([]) ([])) :
 Fn 8 1 [qbl 0 l] [(0,0,qap l)] (.pv (iV (0))) 0 []:=
 Fz [] [.t false,Lf r0,Lf r1]
  tI (Ai h64 (Lo r0 [] (Lo r1 [] tI)))
end Go.Proofs.Ytleaeldgaflmkaa
