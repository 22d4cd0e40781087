/-
  Joined: Cr, Rt, Cu, Cv, Fa, Fd. Conditions: none.
-/
import Derived.Test.YtalnjplghagbpaaW20
import Derived.Test.YtalnjplghagbpaaW19
namespace Go.Proofs.Ytalnjplghagbpaa
set_option maxRecDepth 100000
open Go.RowKit
def okP (n a b:Int):Bool:=decide (0≤n∧n≤65535∧-1048576≤a∧a≤1048576∧-1048576≤b∧b≤1048576)
theorem qbU {n a b:Int}:okP n a b=true↔0≤n∧n≤65535∧-1048576≤a∧a≤1048576∧-1048576≤b∧b≤1048576:=by simp[okP]
theorem dt {p:Prop} [Decidable p] (h:p):decide p=true:=by simp[h]
theorem df {p:Prop} [Decidable p] (h:¬ p):decide p=false:=by simp[h]
theorem qb8 {n a b:Int} (h:okP n a b=true):Pure Try.prog 84 #[qac n a b] (iV 0):=by
 have h':=qbU.1 h
 exact qun (df (by omega)) (df (by omega)) (dt (by omega)) (dt (by omega)) (dt (by omega)) (dt (by omega))
theorem qdG {n a b:Int} (h:okP n a b=true):Pure Try.prog 99 #[qac n a b] (iV 0):=by
 have h':=qbU.1 h
 exact qsb (df (by omega)) (df (by omega)) (df (by omega)) (df (by omega)) (df (by omega)) (df (by omega))
theorem qg2 {n a b:Int} (h:¬ okP n a b=true):Pure Try.prog 84 #[qac n a b] (iV 8):=by
 rw[qbU] at h
 by_cases h1:n<0
 ·exact qus (dt h1)
 by_cases h2:n>65535
 ·exact qt7 (df h1) (dt h2)
 by_cases h3 : -1048576≤a
 ·by_cases h4:a≤1048576
  ·by_cases h5 : -1048576≤b
   ·exact quy (df h1) (df h2) (dt h3) (dt h4) (dt h5) (df (by omega))
   ·exact quM (df h1) (df h2) (dt h3) (dt h4) (df h5)
  ·exact que (df h1) (df h2) (dt h3) (df h4)
 ·exact quO (df h1) (df h2) (df h3)
theorem qfI {n a b:Int} (h:¬ okP n a b=true):Pure Try.prog 99 #[qac n a b] (iV 8):=by
 rw[qbU] at h
 by_cases h1:n<0
 ·exact quN (dt h1)
 by_cases h2:n>65535
 ·exact qul (df h1) (dt h2)
 by_cases h3:a < -1048576
 ·exact quY (df h1) (df h2) (dt h3)
 by_cases h4:a>1048576
 ·exact quq (df h1) (df h2) (df h3) (dt h4)
 by_cases h5:b < -1048576
 ·exact qvl (df h1) (df h2) (df h3) (df h4) (dt h5)
 ·exact qu2 (df h1) (df h2) (df h3) (df h4) (df h5) (dt (by omega))
def qcD (P Q pb qb pi qi:Int):Bool:=decide (P>Q∨P=Q∧(pb>qb∨pb=qb∧pi<qi))
theorem qcv {P Q pb qb pi qi:Int} (h:P>Q∨P=Q∧(pb>qb∨pb=qb∧pi<qi)):qcD P Q pb qb pi qi=true:=dt h
theorem qcr {P Q pb qb pi qi:Int} (h:¬ (P>Q∨P=Q∧(pb>qb∨pb=qb∧pi<qi))):qcD P Q pb qb pi qi=false:=df h
theorem qip {pi pa pb qi qa qb:Int} (hp:okP pi pa pb=true) (hq:okP qi qa qb=true) (hb:pb≠qb) :
 ∃ m n,okB m n=true∧I64 m∧I64 n∧m*(pb-qb)=(qa-pa)*n∧Pure Try.prog 115 #[qac pi pa pb,qac qi qa qb] (qab m n):=by
 have hp':=qbU.1 hp
 have hq':=qbU.1 hq
 obtain⟨N,D,E,hr,hm⟩:=qnx (a:=qa-pa) (b:=pb-qb) (by unfold I64;omega) (by unfold I64;omega) (by omega)
 have key:E=0∧okB N D=true∧I64 N∧I64 D∧N*(pb-qb)=(qa-pa)*D:=by
  by_cases hs:0<pb-qb
  ·exact hr.fits hs (by omega) (by omega) (by omega)
  ·have h2:=hr.congr (p':=-(qa-pa)) (q':=-(pb-qb)) (by omega) (by omega) (by rw[Int.mul_neg,Int.neg_mul])
   obtain⟨e1,e2,e3,e4,e5⟩:=h2.fits (by omega) (by omega) (by omega) (by omega)
   refine⟨e1,e2,e3,e4,?_⟩
   rw[Int.mul_neg,Int.neg_mul] at e5
   omega
 obtain⟨rfl,k1,k2,k3,k4⟩:=key
 exact⟨N,D,k1,k2,k3,k4,qfy (by rw[qan (by omega) (by omega)]) (by rw[qan (by omega) (by omega)]) hm⟩
theorem qls {pi pa pb qi qa qb n d:Int} (hn:I64 n) (hd:I64 d) (hp:okP pi pa pb=true) (hq:okP qi qa qb=true) (ht:okB n d=true) (hij:pi≠qi) :
 Pure Try.prog 79 #[qac pi pa pb,qac qi qa qb,qab n d] (.tuple #[.bool (qcD (pa*d+pb*n) (qa*d+qb*n) pb qb pi qi),iV 0]):=by
 have c1:=qb8 hp
 have c2:=qb8 hq
 have c3:=qca hn hd ht
 have c4:Pure Try.prog 104 #[qac pi pa pb,qac qi qa qb] (iV 0):=qtX (by simp[hij])
 have d0:0<d:=by have:=qeV ht;omega
 by_cases hb:pb=qb
 ·subst hb
  by_cases ha:pa=qa
  ·subst ha
   by_cases hi:pi<qi
   ·rw[qcv (Or.inr ⟨rfl,Or.inr ⟨rfl,hi⟩⟩)]
    exact qne c1 c2 c3 c4 (by simp) (dt hi)
   ·rw[qcr (by omega)]
    exact qmv c1 c2 c3 c4 (by simp) (df hi)
  ·have e:pa*d-qa*d=(pa-qa)*d:=(Int.sub_mul _ _ _).symm
   by_cases hg:pa>qa
   ·have:=Int.mul_pos (show 0<pa-qa by omega) d0
    rw[qcv (Or.inl (by omega))]
    exact ql1 c1 c2 c3 c4 (by simp[ha]) (by simp) (dt hg)
   ·have:=Int.mul_neg_of_neg_of_pos (show pa-qa<0 by omega) d0
    rw[qcr (by omega)]
    exact qms c1 c2 c3 c4 (by simp[ha]) (by simp) (df hg)
 ·obtain⟨m,k,h1,h2,h3,h4,h5⟩:=qip hp hq hb
  have cc:=qsp hn hd h2 h3 ht h1
  have k0:0<k:=by have:=qeV h1;omega
  have key:(pa*d+pb*n-(qa*d+qb*n))*k=(pb-qb)*(n*k-m*d):=by
   have e1:(pb-qb)*(m*d)=(qa-pa)*k*d:=by rw[← h4,← Int.mul_assoc,Int.mul_comm (pb-qb) m]
   rw[Int.mul_sub,e1,Int.sub_mul,Int.add_mul,Int.add_mul,Int.sub_mul,Int.sub_mul,Int.sub_mul,← Int.mul_assoc,← Int.mul_assoc,Int.mul_right_comm qa k d,Int.mul_right_comm pa k d]
   omega
  have hs:(0≤n*k-m*d↔(n*k-m*d).sign≥0):=by
   rcases Int.lt_trichotomy (n*k-m*d) 0 with h | h | h
   ·rw[Int.sign_eq_neg_one_of_neg h];omega
   ·rw[h];decide
   ·rw[Int.sign_eq_one_of_pos h];omega
  generalize n*k-m*d=X at *
  generalize hP:pa*d+pb*n=P at *
  generalize hQ:qa*d+qb*n=Q at *
  by_cases hg:pb>qb
  ·by_cases hx:0≤X
   ·have:=Int.mul_nonneg (show 0≤pb-qb by omega) hx
    rw[qcv (by
     rcases Int.lt_or_le P Q with h | h
     ·have:=Int.mul_neg_of_neg_of_pos (show P-Q<0 by omega) k0;omega
     ·rcases Int.lt_or_eq_of_le h with h | h
      ·exact Or.inl h
      ·exact Or.inr ⟨h.symm,Or.inl hg⟩)]
    exact qjd c1 c2 c3 c4 (by simp[hb]) (by simp[hb]) h5 cc (dt (hs.1 hx)) (dt hg)
   ·have:=Int.mul_neg_of_pos_of_neg (show 0<pb-qb by omega) (show X<0 by omega)
    rw[qcr (by
     intro h
     have hle:0≤P-Q:=by omega
     have:=Int.mul_nonneg hle (Int.le_of_lt k0)
     omega)]
    exact qkG c1 c2 c3 c4 (by simp[hb]) (by simp[hb]) h5 cc (df (fun h=>hx (hs.2 h))) (dt hg)
  ·by_cases hx:0≤X
   ·have:=Int.mul_nonneg (show 0≤qb-pb by omega) hx
    have e:(pb-qb)*X = -((qb-pb)*X):=by rw[← Int.neg_mul];congr 1;omega
    rw[qcr (by
     intro h
     have hlt:0<P-Q:=by omega
     have:=Int.mul_pos hlt k0
     omega)]
    exact qjC c1 c2 c3 c4 (by simp[hb]) (by simp[hb]) h5 cc (dt (hs.1 hx)) (df hg)
   ·have:=Int.mul_pos_of_neg_of_neg (show pb-qb<0 by omega) (show X<0 by omega)
    rw[qcv (by
     left
     rcases Int.lt_or_le Q P with h | h
     ·exact h
     ·have:(P-Q)*k≤0:=by
       have:=Int.mul_nonneg (show 0≤Q-P by omega) (Int.le_of_lt k0)
       have e:(P-Q)*k = -((Q-P)*k):=by rw[← Int.neg_mul];congr 1;omega
       omega
      omega)]
    exact qkC c1 c2 c3 c4 (by simp[hb]) (by simp[hb]) h5 cc (df (fun h=>hx (hs.2 h))) (df hg)
end Go.Proofs.Ytalnjplghagbpaa

namespace Go.Proofs.Ytalnjplghagbpaa
set_option maxRecDepth 100000
open Go.RowKit
theorem qu4 (x y:Nat):Int.tdiv (x:Int) (y:Int)=((x/y:Nat):Int):=by rw[Int.tdiv_eq_ediv_of_nonneg (Int.natCast_nonneg x)];simp
theorem quk (x y:Nat):Int.tmod (x:Int) (y:Int)=((x%y:Nat):Int):=by rw[Int.tmod_eq_emod_of_nonneg (Int.natCast_nonneg x)];simp
theorem qsQ (x:Nat) (h:x<18446744073709551616):Value.int .u64 (IntKind.u64.wrap (Int.tdiv (x:Int) 4294967296))=.int .u64 ((x/4294967296:Nat):Int):=by
 rw[show (4294967296:Int)=((4294967296:Nat):Int) from rfl,qu4,qeO (by omega) (by omega)]
theorem qsy (x:Nat):Value.int .u64 (Int.tmod (x:Int) 4294967296)=.int .u64 ((x%4294967296:Nat):Int):=by
 rw[show (4294967296:Int)=((4294967296:Nat):Int) from rfl,quk]
theorem qtJ {x y:Nat} (h:x*y<18446744073709551616):Value.int .u64 (IntKind.u64.wrap ((x:Int)*(y:Int)))=.int .u64 ((x*y:Nat):Int):=qfB (by simp) (Int.natCast_nonneg _) (by omega)
theorem qpF {x y:Nat} (h:x+y<18446744073709551616):Value.int .u64 (IntKind.u64.wrap ((x:Int)+(y:Int)))=.int .u64 ((x+y:Nat):Int):=qfB (by simp) (by omega) (by omega)
theorem halves (ah al bh bl:Nat):(ah*4294967296+al)*(bh*4294967296+bl)=ah*bh*18446744073709551616+(ah*bl+al*bh)*4294967296+al*bl:=by
 have e1:ah*4294967296*(bh*4294967296)=ah*bh*18446744073709551616:=Nat.mul_mul_mul_comm ah 4294967296 bh 4294967296
 have e2:ah*4294967296*bl=ah*bl*4294967296:=Nat.mul_right_comm ah 4294967296 bl
 have e3:al*(bh*4294967296)=al*bh*4294967296:=(Nat.mul_assoc al bh 4294967296).symm
 rw[Nat.add_mul,Nat.mul_add,Nat.mul_add,e1,e2,e3,Nat.add_mul]
 omega
theorem qk0 (a b:Nat) (ha:a<18446744073709551616) (hb:b<18446744073709551616):Pure Try.prog 137 #[.int .u64 a,.int .u64 b] (qi3 false (a*b)):=by
 obtain⟨ah,hah⟩:∃ x,x=a/4294967296:=⟨_,rfl⟩
 obtain⟨al,hal⟩:∃ x,x=a%4294967296:=⟨_,rfl⟩
 obtain⟨bh,hbh⟩:∃ x,x=b/4294967296:=⟨_,rfl⟩
 obtain⟨bl,hbl⟩:∃ x,x=b%4294967296:=⟨_,rfl⟩
 have e1:a=ah*4294967296+al:=by omega
 have e2:b=bh*4294967296+bl:=by omega
 have key:=halves ah al bh bl
 rw[← e1,← e2] at key
 have m1:ah*bl≤4294967295*4294967295:=Nat.mul_le_mul (by omega) (by omega)
 have m2:al*bh≤4294967295*4294967295:=Nat.mul_le_mul (by omega) (by omega)
 have m3:ah*bh≤4294967295*4294967295:=Nat.mul_le_mul (by omega) (by omega)
 have m4:al*bl≤4294967295*4294967295:=Nat.mul_le_mul (by omega) (by omega)
 have hab:a*b<340282366920938463463374607431768211456:=by
  have:a*b≤18446744073709551615*18446744073709551615:=Nat.mul_le_mul (by omega) (by omega)
  omega
 have x1:=qtJ (x:=al) (y:=bl) (by omega)
 have x2:=qtJ (x:=ah) (y:=bl) (by omega)
 have x4:=qtJ (x:=al) (y:=bh) (by omega)
 have x6:=qtJ (x:=ah) (y:=bh) (by omega)
 have q1:=qsQ a ha
 have q2:=qsy a
 have q3:=qsQ b hb
 have q4:=qsy b
 rw[← hah] at q1
 rw[← hal] at q2
 rw[← hbh] at q3
 rw[← hbl] at q4
 generalize ah*bl=p1 at *
 generalize al*bh=p2 at *
 generalize ah*bh=p3 at *
 generalize al*bl=low at *
 generalize a*b=ab at *
 obtain⟨m,hm⟩:∃ m,m=p1+low/4294967296:=⟨_,rfl⟩
 obtain⟨n,hn⟩:∃ n,n=p2+m%4294967296:=⟨_,rfl⟩
 have r:=qiy (nz:=by decide) q1 q2 q3 q4 x1 x2 (qsQ low (by omega)) (qpF (by omega)) x4 (qsy _) (qpF (by omega)) x6 (qsQ _ (by omega)) (qpF (by omega)) (qsQ _ (by omega)) (qpF (by omega))
  (qsy _) (qfB (y:=((n%4294967296*4294967296:Nat):Int)) (by rw[hn,hm];simp) (by omega) (by omega)) (qsy _) (qpF (by omega))
 rw[← hm,← hn] at r
 have f1:p3+m/4294967296+n/4294967296=ab/18446744073709551616:=by omega
 have f2:n%4294967296*4294967296+low%4294967296=ab%18446744073709551616:=by omega
 rw[f1,f2] at r
 exact r
abbrev qhN (x:Int):Value:=qi3 (decide (x<0)) x.natAbs
theorem qfz (n:Int) (h:I64 n):Pure Try.prog 101 #[iV n] (.int .u64 (n.natAbs:Int)):=
 fun w=>(qel n w h.1 h.2).mono fun _ _ ⟨h1,h2⟩=>⟨h1,Gr.of_eq h2⟩
theorem qaL {p:Prop} [Decidable p] (h:p):decide p=true:=by simp[h]
theorem qaC {p:Prop} [Decidable p] (h:¬ p):decide p=false:=by simp[h]
theorem qdg (a b:Int) (ha:I64 a) (hb:I64 b):Pure Try.prog 129 #[iV a,iV b] (qhN (a*b)):=by
 have ca:=qfz a ha
 have cb:=qfz b hb
 unfold I64 at ha hb
 have cp:=qk0 a.natAbs b.natAbs (by omega) (by omega)
 unfold qhN
 rw[Int.natAbs_mul]
 by_cases sa:a<0<;>by_cases sb:b<0
 ·rw[qaC (show ¬ a*b<0 by have:=Int.mul_pos_of_neg_of_neg sa sb;omega)]
  exact qh6 ca cb cp (qaL sa) (qaL sb)
 ·by_cases nb:b=0
  ·subst nb
   rw[qaC (by simp)]
   exact qiD ca cb cp (qaL sa) (qaC sb) (by simp;omega) (by simp)
  ·rw[qaL (Int.mul_neg_of_neg_of_pos sa (by omega))]
   exact qiJ ca cb cp (qaL sa) (qaC sb) (by simp;omega) (by simpa using nb)
 ·by_cases na:a=0
  ·subst na
   rw[qaC (by simp)]
   exact qiz ca cb cp (qaC sa) (qaL sb) (by simp)
  ·rw[qaL (Int.mul_neg_of_pos_of_neg (by omega) sb)]
   exact qiv ca cb cp (qaC sa) (qaL sb) (by simpa using na) (by simp;omega)
 ·rw[qaC (show ¬ a*b<0 by have:=Int.mul_nonneg (show 0≤a by omega) (show 0≤b by omega);omega)]
  exact qhY ca cb cp (qaC sa) (qaC sb)
theorem qkr (x:Int):Pure Try.prog 127 #[qhN x] (iV x.sign):=by
 unfold qhN
 obtain⟨A,hA⟩:∃ A,A=x.natAbs:=⟨_,rfl⟩
 rw[← hA]
 by_cases h0:x=0
 ·subst h0
  subst hA
  exact qpE (by simp) (by simp)
 ·by_cases hs:x<0
  ·rw[qaL hs,Int.sign_eq_neg_one_of_neg hs]
   by_cases hh:A/18446744073709551616=0
   ·exact qml (by simp[hh]) (by simp;omega)
   ·exact qmK (by simp;omega)
  ·rw[qaC hs,Int.sign_eq_one_of_pos (by omega)]
   by_cases hh:A/18446744073709551616=0
   ·exact qnk (by simp[hh]) (by simp;omega)
   ·exact qmh (by simp;omega)
def qge (A B:Nat):Int:=if A<B then -1 else if A=B then 0 else 1
theorem qfT (s t:Bool) (A B:Nat):Pure Try.prog 135 #[qi3 s A,qi3 t B] (iV (qge A B)):=by
 by_cases hh:A/18446744073709551616=B/18446744073709551616
 ·by_cases hl:A%18446744073709551616=B%18446744073709551616
  ·have e:A=B:=by omega
   subst e
   rw[show qge A A=0 by simp[qge]]
   exact qmY (by simp) (by simp)
  ·by_cases hlt:A%18446744073709551616<B%18446744073709551616
   ·rw[show qge A B = -1 by unfold qge;rw[if_pos (by omega)]]
    exact qlX (by simp[hh]) (by simp;omega) (by simp;omega)
   ·rw[show qge A B=1 by unfold qge;rw[if_neg (by omega),if_neg (by omega)]]
    exact qlQ (by simp[hh]) (by simp;omega) (by simp;omega)
 ·by_cases hlt:A/18446744073709551616<B/18446744073709551616
  ·rw[show qge A B = -1 by unfold qge;rw[if_pos (by omega)]]
   exact qni (by simp;omega) (by simp;omega)
  ·rw[show qge A B=1 by unfold qge;rw[if_neg (by omega),if_neg (by omega)]]
   exact qnu (by simp;omega) (by simp;omega)
theorem qgC {x y:Nat} (h:x<y) (hy:y<18446744073709551616):Value.int .u64 (IntKind.u64.wrap ((x:Int)-(y:Int)))=.int .u64 ((18446744073709551616+x-y:Nat):Int):=by
 rw[IntKind.wrap_u64];congr 1;omega
theorem qdu (s t:Bool) (A B:Nat) (hA:A<340282366920938463463374607431768211456) (h:B≤A):Pure Try.prog 136 #[qi3 s A,qi3 t B] (qi3 false (A-B)):=by
 obtain⟨a1,ha1⟩:∃ x,x=A/18446744073709551616:=⟨_,rfl⟩
 obtain⟨a0,ha0⟩:∃ x,x=A%18446744073709551616:=⟨_,rfl⟩
 obtain⟨b1,hb1⟩:∃ x,x=B/18446744073709551616:=⟨_,rfl⟩
 obtain⟨b0,hb0⟩:∃ x,x=B%18446744073709551616:=⟨_,rfl⟩
 unfold qi3
 rw[← ha1,← ha0,← hb1,← hb0]
 have hs:Value.int .u64 (IntKind.u64.wrap ((a1:Int)-(b1:Int)))=.int .u64 ((a1-b1:Nat):Int):=qfB (by omega) (by omega) (by omega)
 by_cases hl:a0<b0
 ·rw[show (A-B)/18446744073709551616=a1-b1-1 by omega,show (A-B)%18446744073709551616=18446744073709551616+a0-b0 by omega]
  exact qsR hs (qgC hl (by omega)) (by simp;omega) (qfB (by omega) (by omega) (by omega))
 ·rw[show (A-B)/18446744073709551616=a1-b1 by omega,show (A-B)%18446744073709551616=a0-b0 by omega]
  exact qr3 hs (qfB (by omega) (by omega) (by omega)) (by simp;omega)
theorem qgW {x y z:Nat} (h:x+y=z+18446744073709551616) (hz:z<18446744073709551616):Value.int .u64 (IntKind.u64.wrap ((x:Int)+(y:Int)))=.int .u64 (z:Int):=by
 rw[IntKind.wrap_u64,show ((x:Int)+(y:Int))%18446744073709551616=(z:Int) by omega]
theorem qrn (s:Bool) (A B:Nat) (h:A+B<340282366920938463463374607431768211456):Pure Try.prog 128 #[qi3 s A,qi3 s B] (qi3 s (A+B)):=by
 obtain⟨a1,ha1⟩:∃ x,x=A/18446744073709551616:=⟨_,rfl⟩
 obtain⟨a0,ha0⟩:∃ x,x=A%18446744073709551616:=⟨_,rfl⟩
 obtain⟨b1,hb1⟩:∃ x,x=B/18446744073709551616:=⟨_,rfl⟩
 obtain⟨b0,hb0⟩:∃ x,x=B%18446744073709551616:=⟨_,rfl⟩
 unfold qi3
 rw[← ha1,← ha0,← hb1,← hb0]
 have hh:Value.int .u64 (IntKind.u64.wrap ((a1:Int)+(b1:Int)))=.int .u64 ((a1+b1:Nat):Int):=qpF (by omega)
 by_cases hl:a0+b0<18446744073709551616
 ·have l1:=qpF hl
  rw[show (A+B)/18446744073709551616=a1+b1 by omega,show (A+B)%18446744073709551616=a0+b0 by omega]
  cases s
  ·exact qk4 hh l1 (qaC (by omega))
  ·exact qj8 hh l1 (qaC (by omega))
 ·obtain⟨z,hz⟩:∃ z,a0+b0=z+18446744073709551616:=⟨a0+b0-18446744073709551616,by omega⟩
  have l1:=qgW hz (by omega)
  rw[show (A+B)/18446744073709551616=a1+b1+1 by omega,show (A+B)%18446744073709551616=z by omega]
  cases s
  ·exact qjB hh l1 (qaL (by omega)) (qfB (by omega) (by omega) (by omega))
  ·exact qj3 hh l1 (qaL (by omega)) (qfB (by omega) (by omega) (by omega))
theorem qj1 (x y:Int) (hx:x.natAbs<170141183460469231731687303715884105728) (hy:y.natAbs<170141183460469231731687303715884105728):Pure Try.prog 128 #[qhN x,qhN y] (qhN (x+y)):=by
 unfold qhN
 by_cases sx:x<0<;>by_cases sy:y<0
 ·rw[qaL sx,qaL sy,qaL (show x+y<0 by omega),show (x+y).natAbs=x.natAbs+y.natAbs by omega]
  exact qrn true _ _ (by omega)
 ·rw[qaL sx,qaC sy]
  have cl:=qfT true false x.natAbs y.natAbs
  by_cases hc:y.natAbs≤x.natAbs
  ·have cm:=qdu true false x.natAbs y.natAbs (by omega) hc
   rw[show (x+y).natAbs=x.natAbs-y.natAbs by omega]
   have hge:decide (qge x.natAbs y.natAbs≥0)=true:=by unfold qge;rw[if_neg (by omega)];split<;>decide
   obtain⟨D,hD⟩:∃ D,D=x.natAbs-y.natAbs:=⟨_,rfl⟩
   rw[← hD] at cm ⊢
   by_cases hd:D=0
   ·rw[qaC (show ¬ x+y<0 by omega)]
    exact qkQ cl hge cm (by simp[hd]) (by simp[hd])
   ·rw[qaL (show x+y<0 by omega)]
    by_cases hh:D/18446744073709551616=0
    ·exact qkJ cl hge cm (by simp[hh]) (by simp;omega)
    ·exact qjX cl hge cm (by simp;omega)
  ·have cm:=qdu false true y.natAbs x.natAbs (by omega) (by omega)
   rw[show (x+y).natAbs=y.natAbs-x.natAbs by omega,qaC (show ¬ x+y<0 by omega)]
   exact ql4 cl (by unfold qge;rw[if_pos (by omega)];decide) cm
 ·rw[qaC sx,qaL sy]
  have cl:=qfT false true x.natAbs y.natAbs
  by_cases hc:y.natAbs≤x.natAbs
  ·have cm:=qdu false true x.natAbs y.natAbs (by omega) hc
   rw[show (x+y).natAbs=x.natAbs-y.natAbs by omega,qaC (show ¬ x+y<0 by omega)]
   exact qmr cl (by unfold qge;rw[if_neg (by omega)];split<;>decide) cm
  ·have cm:=qdu true false y.natAbs x.natAbs (by omega) (by omega)
   rw[show (x+y).natAbs=y.natAbs-x.natAbs by omega,qaL (show x+y<0 by omega)]
   exact qna cl (by unfold qge;rw[if_pos (by omega)];decide) cm
 ·rw[qaC sx,qaC sy,qaC (show ¬ x+y<0 by omega),show (x+y).natAbs=x.natAbs+y.natAbs by omega]
  exact qrn false _ _ (by omega)
end Go.Proofs.Ytalnjplghagbpaa

namespace Go.Proofs.Ytalnjplghagbpaa
set_option maxRecDepth 100000
open Go.RowKit
theorem qmc {pi pa pb qi qa qb n d u v x y s:Int} (v1:iV (IntKind.i64.wrap (pa-qa))=iV u) (c1:Pure Try.prog 129 #[iV u,iV d] (qhN x)) (v2:iV (IntKind.i64.wrap (pb-qb))=iV v) (c2:Pure Try.prog 129 #[iV v,iV n] (qhN y)) (c3:Pure Try.prog 128 #[qhN x,qhN y] (qhN s)) (c4:Pure Try.prog 127 #[qhN s] (iV s.sign)) :
 Pure Try.prog 120 #[qac pi pa pb,qac qi qa qb,qab n d] (iV s.sign):=
 qae (args:=[qac pi pa pb,qac qi qa qb,qab n d]) 200 [Re v1,Rf c1,Re v2,Rf c2,Rf c3,Rf c4]
  (Ai rfl (Ai v1 (Ai c1 (Ai v2 (Ai c2 (Ai c3 (Ai c4 tI))))))) (by kernel_rfl)
abbrev qqL (d:Int) (f:Int) (n:Int) (pa:Int) (pb:Int) (pi:Int) (qa:Int) (qb:Int) (qi:Int):Prop:=Pure Try.prog 120 #[qac pi pa pb,qac qi qa qb,qab n d] (iV f)
theorem qgi {pi pa pb qi qa qb n d f:Int} (c:qqL d f n pa pb pi qa qb qi) (z:(f !=0)=true) (g:decide (f>0)=true) :
 Pure Try.prog 111 #[qac pi pa pb,qac qi qa qb,qab n d] (.bool true):=
 qae (args:=[qac pi pa pb,qac qi qa qb,qab n d]) 200 [Rf c,.t true,.t true]
  (Ai rfl (Ai c (Ai z (Ai g tI)))) (by kernel_rfl)
theorem qi8 {pi pa pb qi qa qb n d f:Int} (c:qqL d f n pa pb pi qa qb qi) (z:(f !=0)=false) (bb:(pb !=qb)=true) (g:decide (pb>qb)=true) :
 Pure Try.prog 111 #[qac pi pa pb,qac qi qa qb,qab n d] (.bool true):=
 qae (args:=[qac pi pa pb,qac qi qa qb,qab n d]) 200 [Rf c,.t false,.t true,.t true]
  (Ai rfl (Ai c (Ai z (Ai bb (Ai g tI))))) (by kernel_rfl)
theorem qjA {pi pa pb qi qa qb n d f:Int} (c:qqL d f n pa pb pi qa qb qi) (z:(f !=0)=false) (bb:(pb !=qb)=false) (g:decide (pi<qi)=true) :
 Pure Try.prog 111 #[qac pi pa pb,qac qi qa qb,qab n d] (.bool true):=
 qae (args:=[qac pi pa pb,qac qi qa qb,qab n d]) 200 [Rf c,.t false,.t false,.t true]
  (Ai rfl (Ai c (Ai z (Ai bb (Ai g tI))))) (by kernel_rfl)
theorem qgg {pi pa pb qi qa qb n d f:Int} (c:qqL d f n pa pb pi qa qb qi) (z:(f !=0)=true) (g:decide (f>0)=false) :
 Pure Try.prog 111 #[qac pi pa pb,qac qi qa qb,qab n d] (.bool false):=
 qae (args:=[qac pi pa pb,qac qi qa qb,qab n d]) 200 [Rf c,.t true,.t false]
  (Ai rfl (Ai c (Ai z (Ai g tI)))) (by kernel_rfl)
theorem qjJ {pi pa pb qi qa qb n d f:Int} (c:qqL d f n pa pb pi qa qb qi) (z:(f !=0)=false) (bb:(pb !=qb)=true) (g:decide (pb>qb)=false) :
 Pure Try.prog 111 #[qac pi pa pb,qac qi qa qb,qab n d] (.bool false):=
 qae (args:=[qac pi pa pb,qac qi qa qb,qab n d]) 200 [Rf c,.t false,.t true,.t false]
  (Ai rfl (Ai c (Ai z (Ai bb (Ai g tI))))) (by kernel_rfl)
theorem qjG {pi pa pb qi qa qb n d f:Int} (c:qqL d f n pa pb pi qa qb qi) (z:(f !=0)=false) (bb:(pb !=qb)=false) (g:decide (pi<qi)=false) :
 Pure Try.prog 111 #[qac pi pa pb,qac qi qa qb,qab n d] (.bool false):=
 qae (args:=[qac pi pa pb,qac qi qa qb,qab n d]) 200 [Rf c,.t false,.t false,.t false]
  (Ai rfl (Ai c (Ai z (Ai bb (Ai g tI))))) (by kernel_rfl)
end Go.Proofs.Ytalnjplghagbpaa

namespace Go.Proofs.Ytalnjplghagbpaa
set_option maxRecDepth 100000
open Go.RowKit
theorem qhj {pi pa pb qi qa qb n d:Int} (hn:I64 n) (hd:I64 d) (hp:okP pi pa pb=true) (hq:okP qi qa qb=true) :
 Pure Try.prog 111 #[qac pi pa pb,qac qi qa qb,qab n d] (.bool (qcD (pa*d+pb*n) (qa*d+qb*n) pb qb pi qi)):=by
 have hp':=qbU.1 hp
 have hq':=qbU.1 hq
 have c1:=qdg (pa-qa) d (by unfold I64;omega) hd
 have c2:=qdg (pb-qb) n (by unfold I64;omega) hn
 have b1:((pa-qa)*d).natAbs≤2097152*9223372036854775808:=by rw[Int.natAbs_mul];unfold I64 at hd;exact Nat.mul_le_mul (by omega) (by omega)
 have b2:((pb-qb)*n).natAbs≤2097152*9223372036854775808:=by rw[Int.natAbs_mul];unfold I64 at hn;exact Nat.mul_le_mul (by omega) (by omega)
 have c3:=qj1 ((pa-qa)*d) ((pb-qb)*n) (by omega) (by omega)
 have e:(pa-qa)*d+(pb-qb)*n=pa*d+pb*n-(qa*d+qb*n):=by rw[Int.sub_mul,Int.sub_mul];omega
 rw[e] at c3
 have c4:=qkr (pa*d+pb*n-(qa*d+qb*n))
 have far:=qmc (pi:=pi) (pa:=pa) (pb:=pb) (qi:=qi) (qa:=qa) (qb:=qb) (by rw[qan (by omega) (by omega)]) c1 (by rw[qan (by omega) (by omega)]) c2 c3 c4
 generalize pa*d+pb*n=P at *
 generalize qa*d+qb*n=Q at *
 rcases Int.lt_trichotomy (P-Q) 0 with h | h | h
 ·rw[Int.sign_eq_neg_one_of_neg h] at far
  rw[qcr (by omega)]
  exact qgg far (by decide) (by decide)
 ·rw[h] at far
  by_cases hb:pb=qb
  ·by_cases hi:pi<qi
   ·rw[qcv (by omega)];exact qjA far (by decide) (by simp[hb]) (dt hi)
   ·rw[qcr (by omega)];exact qjG far (by decide) (by simp[hb]) (df hi)
  ·by_cases hg:pb>qb
   ·rw[qcv (by omega)];exact qi8 far (by decide) (by simp[hb]) (dt hg)
   ·rw[qcr (by omega)];exact qjJ far (by decide) (by simp[hb]) (df hg)
 ·rw[Int.sign_eq_one_of_pos h] at far
  rw[qcv (by omega)]
  exact qgi far (by decide) (by decide)
end Go.Proofs.Ytalnjplghagbpaa

namespace Go.Proofs.Ytalnjplghagbpaa
set_option maxRecDepth 100000
open Go.RowKit
structure Pt where
 id:Int
 a:Int
 b:Int
abbrev ptV (p:Pt):Value:=qac p.id p.a p.b
def qam:List Pt→List Value
 | []=>[]
 | p::r=>iV p.id::iV p.a::iV p.b::qam r
theorem qbT:∀ (a b:List Pt),qam (a++b)=qam a++qam b
 | [],_=>rfl
 | p::r,b=>by simp[qam,qbT r b]
theorem qa6:∀ (l:List Pt),(qam l).length=l.length*3
 | []=>rfl
 | p::r=>by simp[qam,qa6 r];omega
theorem qfm:∀ {l:List Pt} {k:Nat} {p:Pt},l[k]?=some p→(qam l)[k*3]?=some (iV p.id)∧(qam l)[k*3+1]?=some (iV p.a)∧(qam l)[k*3+2]?=some (iV p.b)
 | [],k,p,h=>by simp at h
 | q::r,0,p,h=>by simp at h;subst h;exact⟨rfl,rfl,rfl⟩
 | q::r,k+1,p,h=>by
  have:=qfm (l:=r) (k:=k) (p:=p) (by simpa using h)
  rw[show (k+1)*3=k*3+1+1+1 by omega]
  exact this
theorem qa1 {l:List Pt} {k:Nat} {p:Pt} (h:l[k]?=some p):qcJ (qam l) (0*3+k*3) [iV p.id,iV p.a,iV p.b]:=by
 obtain⟨h1,h2,h3⟩:=qfm h
 intro j v hj
 rw[show 0*3+k*3+j=k*3+j by omega]
 match j,hj with
 | 0,hj=>cases hj;exact h1
 | 1,hj=>cases hj;exact h2
 | 2,hj=>cases hj;exact h3
 | j+3,hj=>simp at hj
theorem qcg {l:List Pt} {k:Nat} {p:Pt} (h:l[k]?=some p):qcJ (qam l) (0*3+k*3) [iV p.id]:=by
 intro j v hj
 rw[show 0*3+k*3+j=k*3+j by omega]
 match j,hj with
 | 0,hj=>cases hj;exact (qfm h).1
 | j+1,hj=>simp at hj
theorem RunsL.rounds {P:Program} {lo fr:Nat} {c:Code} {n nb:Nat} (tm:Nat→List (Nat×SV)) (hp:Nat→List (Nat×Nat×SV)) {e:Exit} {tm2:TmL} {hp2:HpL} {N:Nat} :
 ∀ (d i:Nat),i+d=N→(∀ j,i≤j→j<N→RunsL P lo fr c n nb (tm (j+1)) (hp (j+1)) e tm2 hp2→RunsL P lo fr c n nb (tm j) (hp j) e tm2 hp2)→RunsL P lo fr c n nb (tm N) (hp N) e tm2 hp2→RunsL P lo fr c n nb (tm i) (hp i) e tm2 hp2
 | 0,i,h,_,last=>by
  have:i=N:=by omega
  subst this;exact last
 | d+1,i,h,step,last=>step i (Nat.le_refl i) (by omega) (RunsL.rounds tm hp d (i+1) (by omega) (fun j h1 h2=>step j (by omega) h2) last)
abbrev qag (l:List Pt):SV:=.row 80 3 l.length (qam l)
abbrev qas (b:Nat) (l:List Pt):SV:=.ag [.ls b l.length]
theorem qah {k:Nat} (h:k≤1000000):iV (IntKind.i64.wrap ((k:Int)+1))=iV ((k+1:Nat):Int):=by rw[qan (by omega) (by omega)];rfl
theorem qeY (m:List Pt) (p:Pt):qam m++[iV p.id,iV p.a,iV p.b]=qam (m++[p]):=by rw[qbT];rfl
theorem qf0:∀ (l:List Pt) (k:Nat),(qam l).drop (k*3)=qam (l.drop k)
 | l,0=>by simp
 | [],k+1=>by simp[qam]
 | p::r,k+1=>by rw[show (k+1)*3=k*3+1+1+1 by omega,List.drop_succ_cons];exact qf0 r k
theorem qlF (p:Pt):(!(p.id==p.id&&(p.a==p.a&&(p.b==p.b&&true))))=false:=by simp
def quP (l:List Int):List Value:=l.map fun x=>iV x
abbrev qi2 (l:List Int):SV:=.row 3 1 l.length (quP l)
theorem qot {l:List Int} {k:Nat} {x:Int} (h:l[k]?=some x):qcJ (quP l) (0*1+k*1) [iV x]:=by
 intro j v hj
 match j,hj with
 | 0,hj=>cases hj;simp[quP,h]
 | j+1,hj=>simp at hj
end Go.Proofs.Ytalnjplghagbpaa

namespace Go.Proofs.Ytalnjplghagbpaa
set_option maxRecDepth 100000
open Go.RowKit
theorem qp3 {l:List Pt} {tn td:Int} {e:Int} (hc:Fn 75 1 [qas 0 l] [(0,0,qag l)] (.pv (iV (e))) 0 []) (he:(e !=0)=true) :
 Fn 64 1 [qas 0 l,.pv (qab tn td)] [(0,0,qag l)] (.pv (iV (e))) 0 []:=
 Fz [] [Cf hc [0],.t true]
  tI (Co hc [0] 3 (Ai he tI))
theorem qnO {l:List Pt} {tn td:Int} {e:Int} (hc:Fn 75 1 [qas 0 l] [(0,0,qag l)] (.pv (iV (0))) 0 []) (ht:Pure Try.prog 76 #[qab tn td] (iV (e))) :
 Fn 64 1 [qas 0 l,.pv (qab tn td)] [(0,0,qag l)] (.pv (iV (e))) 0 []:=
 Fz [] [Cf hc [0],.k,Rf ht]
  tI (Co hc [0] 3 (Ai ht tI))
end Go.Proofs.Ytalnjplghagbpaa
