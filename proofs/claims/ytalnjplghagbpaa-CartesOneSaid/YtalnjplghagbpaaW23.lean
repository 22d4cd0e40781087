/-
  Joined: Rt, Cu, Cv, Fa, Fe, Fd, Fb, Fc. Conditions: none.
-/
import Derived.Test.YtalnjplghagbpaaW20
import Derived.Test.YtalnjplghagbpaaW19
import Derived.Test.YtalnjplghagbpaaW22
namespace Go.Proofs.Ytalnjplghagbpaa
set_option maxRecDepth 100000
open Go.RowKit
theorem qtK (x y:Nat):Int.tdiv (x:Int) (y:Int)=((x/y:Nat):Int):=by rw[Int.tdiv_eq_ediv_of_nonneg (Int.natCast_nonneg x)];simp
theorem qta (x y:Nat):Int.tmod (x:Int) (y:Int)=((x%y:Nat):Int):=by rw[Int.tmod_eq_emod_of_nonneg (Int.natCast_nonneg x)];simp
theorem qse (x:Nat) (h:x<18446744073709551616):Value.int .u64 (IntKind.u64.wrap (Int.tdiv (x:Int) 4294967296))=.int .u64 ((x/4294967296:Nat):Int):=by
 rw[show (4294967296:Int)=((4294967296:Nat):Int) from rfl,qtK,qgt (by omega) (by omega)]
theorem qry (x:Nat):Value.int .u64 (Int.tmod (x:Int) 4294967296)=.int .u64 ((x%4294967296:Nat):Int):=by
 rw[show (4294967296:Int)=((4294967296:Nat):Int) from rfl,qta]
theorem qs3 {x y:Nat} (h:x*y<18446744073709551616):Value.int .u64 (IntKind.u64.wrap ((x:Int)*(y:Int)))=.int .u64 ((x*y:Nat):Int):=qfM (by simp) (Int.natCast_nonneg _) (by omega)
theorem qn5 {x y:Nat} (h:x+y<18446744073709551616):Value.int .u64 (IntKind.u64.wrap ((x:Int)+(y:Int)))=.int .u64 ((x+y:Nat):Int):=qfM (by simp) (by omega) (by omega)
theorem halves (ah al bh bl:Nat):(ah*4294967296+al)*(bh*4294967296+bl)=ah*bh*18446744073709551616+(ah*bl+al*bh)*4294967296+al*bl:=by
 have e1:ah*4294967296*(bh*4294967296)=ah*bh*18446744073709551616:=Nat.mul_mul_mul_comm ah 4294967296 bh 4294967296
 have e2:ah*4294967296*bl=ah*bl*4294967296:=Nat.mul_right_comm ah 4294967296 bl
 have e3:al*(bh*4294967296)=al*bh*4294967296:=(Nat.mul_assoc al bh 4294967296).symm
 rw[Nat.add_mul,Nat.mul_add,Nat.mul_add,e1,e2,e3,Nat.add_mul]
 omega
theorem qjS (a b:Nat) (ha:a<18446744073709551616) (hb:b<18446744073709551616):Pure Try.prog 137 #[.int .u64 a,.int .u64 b] (qiH false (a*b)):=by
 obtain⟨ah,hah⟩:∃ x,x=a/4294967296:=⟨_,rfl⟩
 obtain⟨al,hal⟩:∃ x,x=a%4294967296:=⟨_,rfl⟩
 obtain⟨bh,hbh⟩:∃ x,x=b/4294967296:=⟨_,rfl⟩
 obtain⟨bl,hbl⟩:∃ x,x=b%4294967296:=⟨_,rfl⟩
 have e1:a=ah*4294967296+al:=by omega
 have e2:b=bh*4294967296+bl:=by omega
 have key:=halves ah al bh bl
 rw[← e1,← e2] at key
 have m1:ah*bl≤4294967295*4294967295:=Nat.mul_le_mul (by omega) (by omega)
 have m2:al*bh≤4294967295*4294967295:=Nat.mul_le_mul (by omega) (by omega)
 have m3:ah*bh≤4294967295*4294967295:=Nat.mul_le_mul (by omega) (by omega)
 have m4:al*bl≤4294967295*4294967295:=Nat.mul_le_mul (by omega) (by omega)
 have hab:a*b<340282366920938463463374607431768211456:=by
  have:a*b≤18446744073709551615*18446744073709551615:=Nat.mul_le_mul (by omega) (by omega)
  omega
 have x1:=qs3 (x:=al) (y:=bl) (by omega)
 have x2:=qs3 (x:=ah) (y:=bl) (by omega)
 have x4:=qs3 (x:=al) (y:=bh) (by omega)
 have x6:=qs3 (x:=ah) (y:=bh) (by omega)
 have q1:=qse a ha
 have q2:=qry a
 have q3:=qse b hb
 have q4:=qry b
 rw[← hah] at q1
 rw[← hal] at q2
 rw[← hbh] at q3
 rw[← hbl] at q4
 generalize ah*bl=p1 at *
 generalize al*bh=p2 at *
 generalize ah*bh=p3 at *
 generalize al*bl=low at *
 generalize a*b=ab at *
 obtain⟨m,hm⟩:∃ m,m=p1+low/4294967296:=⟨_,rfl⟩
 obtain⟨n,hn⟩:∃ n,n=p2+m%4294967296:=⟨_,rfl⟩
 have r:=qin (nz:=by decide) q1 q2 q3 q4 x1 x2 (qse low (by omega)) (qn5 (by omega)) x4 (qry _) (qn5 (by omega)) x6 (qse _ (by omega)) (qn5 (by omega)) (qse _ (by omega)) (qn5 (by omega))
  (qry _) (qfM (y:=((n%4294967296*4294967296:Nat):Int)) (by rw[hn,hm];simp) (by omega) (by omega)) (qry _) (qn5 (by omega))
 rw[← hm,← hn] at r
 have f1:p3+m/4294967296+n/4294967296=ab/18446744073709551616:=by omega
 have f2:n%4294967296*4294967296+low%4294967296=ab%18446744073709551616:=by omega
 rw[f1,f2] at r
 exact r
abbrev qhh (x:Int):Value:=qiH (decide (x<0)) x.natAbs
theorem qfl (n:Int) (h:I64 n):Pure Try.prog 101 #[iV n] (.int .u64 (n.natAbs:Int)):=
 fun w=>(qej n w h.1 h.2).mono fun _ _ ⟨h1,h2⟩=>⟨h1,Gr.of_eq h2⟩
theorem qaI {p:Prop} [Decidable p] (h:p):decide p=true:=by simp[h]
theorem qaz {p:Prop} [Decidable p] (h:¬ p):decide p=false:=by simp[h]
theorem qc9 (a b:Int) (ha:I64 a) (hb:I64 b):Pure Try.prog 129 #[iV a,iV b] (qhh (a*b)):=by
 have ca:=qfl a ha
 have cb:=qfl b hb
 unfold I64 at ha hb
 have cp:=qjS a.natAbs b.natAbs (by omega) (by omega)
 unfold qhh
 rw[Int.natAbs_mul]
 by_cases sa:a<0<;>by_cases sb:b<0
 ·rw[qaz (show ¬ a*b<0 by have:=Int.mul_pos_of_neg_of_neg sa sb;omega)]
  exact qh7 ca cb cp (qaI sa) (qaI sb)
 ·by_cases nb:b=0
  ·subst nb
   rw[qaz (by simp)]
   exact qhW ca cb cp (qaI sa) (qaz sb) (by simp;omega) (by simp)
  ·rw[qaI (Int.mul_neg_of_neg_of_pos sa (by omega))]
   exact qiA ca cb cp (qaI sa) (qaz sb) (by simp;omega) (by simpa using nb)
 ·by_cases na:a=0
  ·subst na
   rw[qaz (by simp)]
   exact qhE ca cb cp (qaz sa) (qaI sb) (by simp)
  ·rw[qaI (Int.mul_neg_of_pos_of_neg (by omega) sb)]
   exact qhK ca cb cp (qaz sa) (qaI sb) (by simpa using na) (by simp;omega)
 ·rw[qaz (show ¬ a*b<0 by have:=Int.mul_nonneg (show 0≤a by omega) (show 0≤b by omega);omega)]
  exact qhM ca cb cp (qaz sa) (qaz sb)
theorem qjE (x:Int):Pure Try.prog 127 #[qhh x] (iV x.sign):=by
 unfold qhh
 obtain⟨A,hA⟩:∃ A,A=x.natAbs:=⟨_,rfl⟩
 rw[← hA]
 by_cases h0:x=0
 ·subst h0
  subst hA
  exact qoa (by simp) (by simp)
 ·by_cases hs:x<0
  ·rw[qaI hs,Int.sign_eq_neg_one_of_neg hs]
   by_cases hh:A/18446744073709551616=0
   ·exact ql4 (by simp[hh]) (by simp;omega)
   ·exact qlk (by simp;omega)
  ·rw[qaz hs,Int.sign_eq_one_of_pos (by omega)]
   by_cases hh:A/18446744073709551616=0
   ·exact qml (by simp[hh]) (by simp;omega)
   ·exact qlI (by simp;omega)
def qfO (A B:Nat):Int:=if A<B then -1 else if A=B then 0 else 1
theorem qfu (s t:Bool) (A B:Nat):Pure Try.prog 135 #[qiH s A,qiH t B] (iV (qfO A B)):=by
 by_cases hh:A/18446744073709551616=B/18446744073709551616
 ·by_cases hl:A%18446744073709551616=B%18446744073709551616
  ·have e:A=B:=by omega
   subst e
   rw[show qfO A A=0 by simp[qfO]]
   exact qmo (by simp) (by simp)
  ·by_cases hlt:A%18446744073709551616<B%18446744073709551616
   ·rw[show qfO A B = -1 by unfold qfO;rw[if_pos (by omega)]]
    exact qmX (by simp[hh]) (by simp;omega) (by simp;omega)
   ·rw[show qfO A B=1 by unfold qfO;rw[if_neg (by omega),if_neg (by omega)]]
    exact qk7 (by simp[hh]) (by simp;omega) (by simp;omega)
 ·by_cases hlt:A/18446744073709551616<B/18446744073709551616
  ·rw[show qfO A B = -1 by unfold qfO;rw[if_pos (by omega)]]
   exact qlZ (by simp;omega) (by simp;omega)
  ·rw[show qfO A B=1 by unfold qfO;rw[if_neg (by omega),if_neg (by omega)]]
   exact qmF (by simp;omega) (by simp;omega)
theorem qgj {x y:Nat} (h:x<y) (hy:y<18446744073709551616):Value.int .u64 (IntKind.u64.wrap ((x:Int)-(y:Int)))=.int .u64 ((18446744073709551616+x-y:Nat):Int):=by
 rw[IntKind.wrap_u64];congr 1;omega
theorem qdc (s t:Bool) (A B:Nat) (hA:A<340282366920938463463374607431768211456) (h:B≤A):Pure Try.prog 136 #[qiH s A,qiH t B] (qiH false (A-B)):=by
 obtain⟨a1,ha1⟩:∃ x,x=A/18446744073709551616:=⟨_,rfl⟩
 obtain⟨a0,ha0⟩:∃ x,x=A%18446744073709551616:=⟨_,rfl⟩
 obtain⟨b1,hb1⟩:∃ x,x=B/18446744073709551616:=⟨_,rfl⟩
 obtain⟨b0,hb0⟩:∃ x,x=B%18446744073709551616:=⟨_,rfl⟩
 unfold qiH
 rw[← ha1,← ha0,← hb1,← hb0]
 have hs:Value.int .u64 (IntKind.u64.wrap ((a1:Int)-(b1:Int)))=.int .u64 ((a1-b1:Nat):Int):=qfM (by omega) (by omega) (by omega)
 by_cases hl:a0<b0
 ·rw[show (A-B)/18446744073709551616=a1-b1-1 by omega,show (A-B)%18446744073709551616=18446744073709551616+a0-b0 by omega]
  exact qqT hs (qgj hl (by omega)) (by simp;omega) (qfM (by omega) (by omega) (by omega))
 ·rw[show (A-B)/18446744073709551616=a1-b1 by omega,show (A-B)%18446744073709551616=a0-b0 by omega]
  exact qrc hs (qfM (by omega) (by omega) (by omega)) (by simp;omega)
theorem qgH {x y z:Nat} (h:x+y=z+18446744073709551616) (hz:z<18446744073709551616):Value.int .u64 (IntKind.u64.wrap ((x:Int)+(y:Int)))=.int .u64 (z:Int):=by
 rw[IntKind.wrap_u64,show ((x:Int)+(y:Int))%18446744073709551616=(z:Int) by omega]
theorem qsn (s:Bool) (A B:Nat) (h:A+B<340282366920938463463374607431768211456):Pure Try.prog 128 #[qiH s A,qiH s B] (qiH s (A+B)):=by
 obtain⟨a1,ha1⟩:∃ x,x=A/18446744073709551616:=⟨_,rfl⟩
 obtain⟨a0,ha0⟩:∃ x,x=A%18446744073709551616:=⟨_,rfl⟩
 obtain⟨b1,hb1⟩:∃ x,x=B/18446744073709551616:=⟨_,rfl⟩
 obtain⟨b0,hb0⟩:∃ x,x=B%18446744073709551616:=⟨_,rfl⟩
 unfold qiH
 rw[← ha1,← ha0,← hb1,← hb0]
 have hh:Value.int .u64 (IntKind.u64.wrap ((a1:Int)+(b1:Int)))=.int .u64 ((a1+b1:Nat):Int):=qn5 (by omega)
 by_cases hl:a0+b0<18446744073709551616
 ·have l1:=qn5 hl
  rw[show (A+B)/18446744073709551616=a1+b1 by omega,show (A+B)%18446744073709551616=a0+b0 by omega]
  cases s
  ·exact qjo hh l1 (qaz (by omega))
  ·exact qkb hh l1 (qaz (by omega))
 ·obtain⟨z,hz⟩:∃ z,a0+b0=z+18446744073709551616:=⟨a0+b0-18446744073709551616,by omega⟩
  have l1:=qgH hz (by omega)
  rw[show (A+B)/18446744073709551616=a1+b1+1 by omega,show (A+B)%18446744073709551616=z by omega]
  cases s
  ·exact qkg hh l1 (qaI (by omega)) (qfM (by omega) (by omega) (by omega))
  ·exact qj1 hh l1 (qaI (by omega)) (qfM (by omega) (by omega) (by omega))
theorem qjj (x y:Int) (hx:x.natAbs<170141183460469231731687303715884105728) (hy:y.natAbs<170141183460469231731687303715884105728):Pure Try.prog 128 #[qhh x,qhh y] (qhh (x+y)):=by
 unfold qhh
 by_cases sx:x<0<;>by_cases sy:y<0
 ·rw[qaI sx,qaI sy,qaI (show x+y<0 by omega),show (x+y).natAbs=x.natAbs+y.natAbs by omega]
  exact qsn true _ _ (by omega)
 ·rw[qaI sx,qaz sy]
  have cl:=qfu true false x.natAbs y.natAbs
  by_cases hc:y.natAbs≤x.natAbs
  ·have cm:=qdc true false x.natAbs y.natAbs (by omega) hc
   rw[show (x+y).natAbs=x.natAbs-y.natAbs by omega]
   have hge:decide (qfO x.natAbs y.natAbs≥0)=true:=by unfold qfO;rw[if_neg (by omega)];split<;>decide
   obtain⟨D,hD⟩:∃ D,D=x.natAbs-y.natAbs:=⟨_,rfl⟩
   rw[← hD] at cm ⊢
   by_cases hd:D=0
   ·rw[qaz (show ¬ x+y<0 by omega)]
    exact qkd cl hge cm (by simp[hd]) (by simp[hd])
   ·rw[qaI (show x+y<0 by omega)]
    by_cases hh:D/18446744073709551616=0
    ·exact qkh cl hge cm (by simp[hh]) (by simp;omega)
    ·exact qjf cl hge cm (by simp;omega)
  ·have cm:=qdc false true y.natAbs x.natAbs (by omega) (by omega)
   rw[show (x+y).natAbs=y.natAbs-x.natAbs by omega,qaz (show ¬ x+y<0 by omega)]
   exact qlu cl (by unfold qfO;rw[if_pos (by omega)];decide) cm
 ·rw[qaz sx,qaI sy]
  have cl:=qfu false true x.natAbs y.natAbs
  by_cases hc:y.natAbs≤x.natAbs
  ·have cm:=qdc false true x.natAbs y.natAbs (by omega) hc
   rw[show (x+y).natAbs=x.natAbs-y.natAbs by omega,qaz (show ¬ x+y<0 by omega)]
   exact qmd cl (by unfold qfO;rw[if_neg (by omega)];split<;>decide) cm
  ·have cm:=qdc true false y.natAbs x.natAbs (by omega) (by omega)
   rw[show (x+y).natAbs=y.natAbs-x.natAbs by omega,qaI (show x+y<0 by omega)]
   exact qmP cl (by unfold qfO;rw[if_pos (by omega)];decide) cm
 ·rw[qaz sx,qaz sy,qaz (show ¬ x+y<0 by omega),show (x+y).natAbs=x.natAbs+y.natAbs by omega]
  exact qsn false _ _ (by omega)
end Go.Proofs.Ytalnjplghagbpaa

namespace Go.Proofs.Ytalnjplghagbpaa
set_option maxRecDepth 100000
open Go.RowKit
theorem qmu {pi pa pb qi qa qb n d u v x y s:Int} (v1:iV (IntKind.i64.wrap (pa-qa))=iV u) (c1:Pure Try.prog 129 #[iV u,iV d] (qhh x)) (v2:iV (IntKind.i64.wrap (pb-qb))=iV v) (c2:Pure Try.prog 129 #[iV v,iV n] (qhh y)) (c3:Pure Try.prog 128 #[qhh x,qhh y] (qhh s)) (c4:Pure Try.prog 127 #[qhh s] (iV s.sign)) :
 Pure Try.prog 120 #[qac pi pa pb,qac qi qa qb,qaa n d] (iV s.sign):=
 qae (args:=[qac pi pa pb,qac qi qa qb,qaa n d]) 200 [Re v1,Rf c1,Re v2,Rf c2,Rf c3,Rf c4]
  (Ai rfl (Ai v1 (Ai c1 (Ai v2 (Ai c2 (Ai c3 (Ai c4 tI))))))) (by kernel_rfl)
abbrev qqg (d:Int) (f:Int) (n:Int) (pa:Int) (pb:Int) (pi:Int) (qa:Int) (qb:Int) (qi:Int):Prop:=Pure Try.prog 120 #[qac pi pa pb,qac qi qa qb,qaa n d] (iV f)
theorem qgn {pi pa pb qi qa qb n d f:Int} (c:qqg d f n pa pb pi qa qb qi) (z:(f !=0)=true) (g:decide (f>0)=true) :
 Pure Try.prog 111 #[qac pi pa pb,qac qi qa qb,qaa n d] (.bool true):=
 qae (args:=[qac pi pa pb,qac qi qa qb,qaa n d]) 200 [Rf c,.t true,.t true]
  (Ai rfl (Ai c (Ai z (Ai g tI)))) (by kernel_rfl)
theorem qjP {pi pa pb qi qa qb n d f:Int} (c:qqg d f n pa pb pi qa qb qi) (z:(f !=0)=false) (bb:(pb !=qb)=true) (g:decide (pb>qb)=true) :
 Pure Try.prog 111 #[qac pi pa pb,qac qi qa qb,qaa n d] (.bool true):=
 qae (args:=[qac pi pa pb,qac qi qa qb,qaa n d]) 200 [Rf c,.t false,.t true,.t true]
  (Ai rfl (Ai c (Ai z (Ai bb (Ai g tI))))) (by kernel_rfl)
theorem qjl {pi pa pb qi qa qb n d f:Int} (c:qqg d f n pa pb pi qa qb qi) (z:(f !=0)=false) (bb:(pb !=qb)=false) (g:decide (pi<qi)=true) :
 Pure Try.prog 111 #[qac pi pa pb,qac qi qa qb,qaa n d] (.bool true):=
 qae (args:=[qac pi pa pb,qac qi qa qb,qaa n d]) 200 [Rf c,.t false,.t false,.t true]
  (Ai rfl (Ai c (Ai z (Ai bb (Ai g tI))))) (by kernel_rfl)
theorem qf1 {pi pa pb qi qa qb n d f:Int} (c:qqg d f n pa pb pi qa qb qi) (z:(f !=0)=true) (g:decide (f>0)=false) :
 Pure Try.prog 111 #[qac pi pa pb,qac qi qa qb,qaa n d] (.bool false):=
 qae (args:=[qac pi pa pb,qac qi qa qb,qaa n d]) 200 [Rf c,.t true,.t false]
  (Ai rfl (Ai c (Ai z (Ai g tI)))) (by kernel_rfl)
theorem qjx {pi pa pb qi qa qb n d f:Int} (c:qqg d f n pa pb pi qa qb qi) (z:(f !=0)=false) (bb:(pb !=qb)=true) (g:decide (pb>qb)=false) :
 Pure Try.prog 111 #[qac pi pa pb,qac qi qa qb,qaa n d] (.bool false):=
 qae (args:=[qac pi pa pb,qac qi qa qb,qaa n d]) 200 [Rf c,.t false,.t true,.t false]
  (Ai rfl (Ai c (Ai z (Ai bb (Ai g tI))))) (by kernel_rfl)
theorem qi1 {pi pa pb qi qa qb n d f:Int} (c:qqg d f n pa pb pi qa qb qi) (z:(f !=0)=false) (bb:(pb !=qb)=false) (g:decide (pi<qi)=false) :
 Pure Try.prog 111 #[qac pi pa pb,qac qi qa qb,qaa n d] (.bool false):=
 qae (args:=[qac pi pa pb,qac qi qa qb,qaa n d]) 200 [Rf c,.t false,.t false,.t false]
  (Ai rfl (Ai c (Ai z (Ai bb (Ai g tI))))) (by kernel_rfl)
end Go.Proofs.Ytalnjplghagbpaa

namespace Go.Proofs.Ytalnjplghagbpaa
set_option maxRecDepth 100000
open Go.RowKit
theorem qhd {pi pa pb qi qa qb n d:Int} (hn:I64 n) (hd:I64 d) (hp:okP pi pa pb=true) (hq:okP qi qa qb=true) :
 Pure Try.prog 111 #[qac pi pa pb,qac qi qa qb,qaa n d] (.bool (qcE (pa*d+pb*n) (qa*d+qb*n) pb qb pi qi)):=by
 have hp':=qbP.1 hp
 have hq':=qbP.1 hq
 have c1:=qc9 (pa-qa) d (by unfold I64;omega) hd
 have c2:=qc9 (pb-qb) n (by unfold I64;omega) hn
 have b1:((pa-qa)*d).natAbs≤2097152*9223372036854775808:=by rw[Int.natAbs_mul];unfold I64 at hd;exact Nat.mul_le_mul (by omega) (by omega)
 have b2:((pb-qb)*n).natAbs≤2097152*9223372036854775808:=by rw[Int.natAbs_mul];unfold I64 at hn;exact Nat.mul_le_mul (by omega) (by omega)
 have c3:=qjj ((pa-qa)*d) ((pb-qb)*n) (by omega) (by omega)
 have e:(pa-qa)*d+(pb-qb)*n=pa*d+pb*n-(qa*d+qb*n):=by rw[Int.sub_mul,Int.sub_mul];omega
 rw[e] at c3
 have c4:=qjE (pa*d+pb*n-(qa*d+qb*n))
 have far:=qmu (pi:=pi) (pa:=pa) (pb:=pb) (qi:=qi) (qa:=qa) (qb:=qb) (by rw[qay (by omega) (by omega)]) c1 (by rw[qay (by omega) (by omega)]) c2 c3 c4
 generalize pa*d+pb*n=P at *
 generalize qa*d+qb*n=Q at *
 rcases Int.lt_trichotomy (P-Q) 0 with h | h | h
 ·rw[Int.sign_eq_neg_one_of_neg h] at far
  rw[qcn (by omega)]
  exact qf1 far (by decide) (by decide)
 ·rw[h] at far
  by_cases hb:pb=qb
  ·by_cases hi:pi<qi
   ·rw[qcl (by omega)];exact qjl far (by decide) (by simp[hb]) (dt hi)
   ·rw[qcn (by omega)];exact qi1 far (by decide) (by simp[hb]) (df hi)
  ·by_cases hg:pb>qb
   ·rw[qcl (by omega)];exact qjP far (by decide) (by simp[hb]) (dt hg)
   ·rw[qcn (by omega)];exact qjx far (by decide) (by simp[hb]) (df hg)
 ·rw[Int.sign_eq_one_of_pos h] at far
  rw[qcl (by omega)]
  exact qgn far (by decide) (by decide)
end Go.Proofs.Ytalnjplghagbpaa

namespace Go.Proofs.Ytalnjplghagbpaa
set_option maxRecDepth 100000
open Go.RowKit
structure Pt where
 id:Int
 a:Int
 b:Int
abbrev ptV (p:Pt):Value:=qac p.id p.a p.b
def qao:List Pt→List Value
 | []=>[]
 | p::r=>iV p.id::iV p.a::iV p.b::qao r
theorem qcf:∀ (a b:List Pt),qao (a++b)=qao a++qao b
 | [],_=>rfl
 | p::r,b=>by simp[qao,qcf r b]
theorem qaP:∀ (l:List Pt),(qao l).length=l.length*3
 | []=>rfl
 | p::r=>by simp[qao,qaP r];omega
theorem qdd:∀ {l:List Pt} {k:Nat} {p:Pt},l[k]?=some p→(qao l)[k*3]?=some (iV p.id)∧(qao l)[k*3+1]?=some (iV p.a)∧(qao l)[k*3+2]?=some (iV p.b)
 | [],k,p,h=>by simp at h
 | q::r,0,p,h=>by simp at h;subst h;exact⟨rfl,rfl,rfl⟩
 | q::r,k+1,p,h=>by
  have:=qdd (l:=r) (k:=k) (p:=p) (by simpa using h)
  rw[show (k+1)*3=k*3+1+1+1 by omega]
  exact this
theorem qbc {l:List Pt} {k:Nat} {p:Pt} (h:l[k]?=some p):qbz (qao l) (0*3+k*3) [iV p.id,iV p.a,iV p.b]:=by
 obtain⟨h1,h2,h3⟩:=qdd h
 intro j v hj
 rw[show 0*3+k*3+j=k*3+j by omega]
 match j,hj with
 | 0,hj=>cases hj;exact h1
 | 1,hj=>cases hj;exact h2
 | 2,hj=>cases hj;exact h3
 | j+3,hj=>simp at hj
theorem qa1 {l:List Pt} {k:Nat} {p:Pt} (h:l[k]?=some p):qbz (qao l) (0*3+k*3) [iV p.id]:=by
 intro j v hj
 rw[show 0*3+k*3+j=k*3+j by omega]
 match j,hj with
 | 0,hj=>cases hj;exact (qdd h).1
 | j+1,hj=>simp at hj
theorem RunsL.rounds {P:Program} {lo fr:Nat} {c:Code} {n nb:Nat} (tm:Nat→List (Nat×SV)) (hp:Nat→List (Nat×Nat×SV)) {e:Exit} {tm2:TmL} {hp2:HpL} {N:Nat} :
 ∀ (d i:Nat),i+d=N→(∀ j,i≤j→j<N→RunsL P lo fr c n nb (tm (j+1)) (hp (j+1)) e tm2 hp2→RunsL P lo fr c n nb (tm j) (hp j) e tm2 hp2)→RunsL P lo fr c n nb (tm N) (hp N) e tm2 hp2→RunsL P lo fr c n nb (tm i) (hp i) e tm2 hp2
 | 0,i,h,_,last=>by
  have:i=N:=by omega
  subst this;exact last
 | d+1,i,h,step,last=>step i (Nat.le_refl i) (by omega) (RunsL.rounds tm hp d (i+1) (by omega) (fun j h1 h2=>step j (by omega) h2) last)
abbrev qag (l:List Pt):SV:=.row 80 3 l.length (qao l)
abbrev qax (b:Nat) (l:List Pt):SV:=.ag [.ls b l.length]
theorem qah {k:Nat} (h:k≤1000000):iV (IntKind.i64.wrap ((k:Int)+1))=iV ((k+1:Nat):Int):=by rw[qay (by omega) (by omega)];rfl
theorem qpk {l:List Pt} (h1:decide ((l.length:Int)>16)=true) (h2:decide ((l.length:Int)<64)=true):Fn 25 1 [qax 0 l] [(0,0,qag l)] (.pv (.bool true)) 0 []:=
 qbM 200 [] [.t true,.t true] tI (Ai h1 (Ai h2 tI)) (by kernel_rfl)
theorem qn8 {l:List Pt} (h1:decide ((l.length:Int)>16)=false) (h2:decide ((l.length:Int)>70)=false):Fn 25 1 [qax 0 l] [(0,0,qag l)] (.pv (.bool false)) 0 []:=
 qbM 200 [] [.t false,.t false] tI (Ai h1 (Ai h2 tI)) (by kernel_rfl)
theorem qlY {l:List Pt} (h1:decide ((l.length:Int)>16)=true) (h2:decide ((l.length:Int)<64)=false) (h3:decide ((l.length:Int)>70)=true):Fn 25 1 [qax 0 l] [(0,0,qag l)] (.pv (.bool true)) 0 []:=
 qbM 200 [] [.t true,.t false,.t true] tI (Ai h1 (Ai h2 (Ai h3 tI))) (by kernel_rfl)
theorem qmV {l:List Pt} (h1:decide ((l.length:Int)>16)=true) (h2:decide ((l.length:Int)<64)=false) (h3:decide ((l.length:Int)>70)=false):Fn 25 1 [qax 0 l] [(0,0,qag l)] (.pv (.bool false)) 0 []:=
 qbM 200 [] [.t true,.t false,.t false] tI (Ai h1 (Ai h2 (Ai h3 tI))) (by kernel_rfl)
theorem qlA (m:List Pt) (p:Pt):qao m++[iV p.id,iV p.a,iV p.b]=qao (m++[p]):=by rw[qcf];rfl
theorem qug (b:Nat) (m:List Pt) (p:Pt):some (SV.ls b (m.length+1))=some (SV.ls b (m++[p]).length):=by rw[List.length_append];rfl
theorem qcr:∀ (l:List Pt) (k:Nat),(qao l).drop (k*3)=qao (l.drop k)
 | l,0=>by simp
 | [],k+1=>by simp[qao]
 | p::r,k+1=>by rw[show (k+1)*3=k*3+1+1+1 by omega,List.drop_succ_cons];exact qcr r k
theorem qdF:∀ (l:List Pt) (k:Nat),(qao l).take (k*3)=qao (l.take k)
 | l,0=>by simp[qao]
 | [],k+1=>by simp[qao]
 | p::r,k+1=>by rw[show (k+1)*3=k*3+1+1+1 by omega,List.take_succ_cons];exact congrArg (fun z=>iV p.id::iV p.a::iV p.b::z) (qdF r k)
theorem qt7 (l:List Pt) (k:Nat):((qao l).drop ((0+0)*3)).take (k*3)=qao (l.take k):=by rw[Nat.zero_add,qcr,qdF];rfl
theorem qtS (l:List Pt) (k:Nat):((qao l).drop ((0+k)*3)).take ((l.length-k)*3)=qao (l.drop k):=by rw[Nat.zero_add,qcr,qdF,List.take_of_length_le (by simp)]
theorem qs5 (l:List Pt) (k:Nat) (h:k+1≤l.length):(l.take k++l.drop (k+1)).length=0+k+(l.length-(k+1)):=by simp;omega
theorem ql0 (p:Pt):(!(p.id==p.id&&(p.a==p.a&&(p.b==p.b&&true))))=false:=by simp
def qtN (l:List Int):List Value:=l.map fun x=>iV x
abbrev qk0 (l:List Int):SV:=.row 3 1 l.length (qtN l)
theorem qnH {l:List Int} {k:Nat} {x:Int} (h:l[k]?=some x):qbz (qtN l) (0*1+k*1) [iV x]:=by
 intro j v hj
 match j,hj with
 | 0,hj=>cases hj;simp[qtN,h]
 | j+1,hj=>simp at hj
end Go.Proofs.Ytalnjplghagbpaa

namespace Go.Proofs.Ytalnjplghagbpaa
set_option maxRecDepth 100000
open Go.RowKit
theorem qsS {l m:List Int} {k:Nat} {x y:Int} (hk:l[k]?=some x) (hin:0≤(k:Int)∧(k:Int)<(l.length:Int)) (hq:m[k]?=some y) (hin2:0≤(k:Int)∧(k:Int)<(m.length:Int)) (hlt:decide ((k:Int)<(l.length:Int))=true) (hne:(!(x==y))=false) (hs:iV (IntKind.i64.wrap ((k:Int)+1))=iV (((k+1:Nat):Int))) {e:Exit} {tm2:TmL} {hp2:HpL}
 (r:Rl 2 2 23 0 26 2 ([(0,.ls 0 l.length),(1,.ls 1 m.length),(5,.pv (iV ((k+1:Nat):Int)))]) ([(0,0,qk0 l),(1,0,qk0 m)]) e tm2 hp2):Rl 2 2 23 0 26 2 ([(0,.ls 0 l.length),(1,.ls 1 m.length),(5,.pv (iV (k:Int)))]) ([(0,0,qk0 l),(1,0,qk0 m)]) e tm2 hp2:=
 RunsL.next [] 300 [.t true,.r (iV x),.r (iV y),.t false,Re hs]
  (Ro (Ai hlt (Ai hin (Ai (qnH hk) (Ai hin2 (Ai (qnH hq) (Ai hne (Ai hs tI)))))))) r
theorem qt4 {l m:List Int} {k:Nat} (hge:decide ((k:Int)<(l.length:Int))=false):Rl 2 2 23 0 26 2 ([(0,.ls 0 l.length),(1,.ls 1 m.length),(5,.pv (iV (k:Int)))]) ([(0,0,qk0 l),(1,0,qk0 m)]) (.exit 0) ([]) ([]):=
 RunsL.stop [] 300 [.t false] (fun h=>by cases h)
  (Ro (Ai hge tI))
theorem qtI {l m:List Int} (hl:(!((l.length:Int)==(m.length:Int)))=false) (r0:Rl 2 2 23 0 26 2 ([(0,.ls 0 l.length),(1,.ls 1 m.length),(5,.pv (iV ((0:Nat):Int)))]) ([(0,0,qk0 l),(1,0,qk0 m)]) (.exit 0) ([]) ([])) :
 Fn 23 2 [.ls 0 l.length,.ls 1 m.length] [(0,0,qk0 l),(1,0,qk0 m)] (.pv (.bool true)) 0 []:=
 Fz [] [.t false,Lf r0]
  tI (Ai hl (Lo r0 [] tI))
end Go.Proofs.Ytalnjplghagbpaa

namespace Go.Proofs.Ytalnjplghagbpaa
set_option maxRecDepth 100000
open Go.RowKit
theorem qjK {l:List Pt} {k:Nat} {p:Pt} {id:Int} (hk:l[k]?=some p) (hin:0≤(k:Int)∧(k:Int)<(l.length:Int)) (hlt:decide ((k:Int)<(l.length:Int))=true) (he:(p.id==id)=false) (hs:iV (IntKind.i64.wrap ((k:Int)+1))=iV (((k+1:Nat):Int))) {e:Exit} {tm2:TmL} {hp2:HpL}
 (r:Rl 1 1 43 0 22 2 ([(1,.pv (iV id)),(2,.pp 1 0),(5,.pv (iV ((k+1:Nat):Int)))]) ([(1,0,.ls 0 l.length),(0,0,qag l)]) e tm2 hp2):Rl 1 1 43 0 22 2 ([(1,.pv (iV id)),(2,.pp 1 0),(5,.pv (iV (k:Int)))]) ([(1,0,.ls 0 l.length),(0,0,qag l)]) e tm2 hp2:=
 RunsL.next [] 300 [.t true,.r (iV p.id),.t false,Re hs]
  (Ro (Ai hlt (Ai hin (Ai (qa1 hk) (Ai he (Ai hs tI)))))) r
theorem qrQ {l:List Pt} {k:Nat} {p:Pt} {id:Int} (hk:l[k]?=some p) (hin:0≤(k:Int)∧(k:Int)<(l.length:Int)) (hlt:decide ((k:Int)<(l.length:Int))=true) (he:(p.id==id)=true):Rl 1 1 43 0 22 2 ([(1,.pv (iV id)),(2,.pp 1 0),(5,.pv (iV (k:Int)))]) ([(1,0,.ls 0 l.length),(0,0,qag l)]) (.ret) ([(4,.pv (iV (k:Int)))]) ([]):=
 RunsL.stop [] 300 [.t true,.r (iV p.id),.t true] (fun h=>by cases h)
  (Ro (Ai hlt (Ai hin (Ai (qa1 hk) (Ai he tI)))))
theorem qrG {l:List Pt} {k:Nat} {id:Int} (hge:decide ((k:Int)<(l.length:Int))=false):Rl 1 1 43 0 22 2 ([(1,.pv (iV id)),(2,.pp 1 0),(5,.pv (iV (k:Int)))]) ([(1,0,.ls 0 l.length),(0,0,qag l)]) (.exit 0) ([]) ([]):=
 RunsL.stop [] 300 [.t false] (fun h=>by cases h)
  (Ro (Ai hge tI))
theorem qub {l:List Pt} {id:Int} (r0:Rl 1 1 43 0 22 2 ([(1,.pv (iV id)),(2,.pp 1 0),(5,.pv (iV ((0:Nat):Int)))]) ([(1,0,.ls 0 l.length),(0,0,qag l)]) (.exit 0) ([]) ([])) :
 Fn 43 1 [qax 0 l,.pv (iV (id))] [(0,0,qag l)] (.pv (iV (-1))) 0 []:=
 Fz [] [Lf r0]
  tI (Lo r0 [] tI)
theorem qri {l:List Pt} {k:Nat} {id:Int} (r0:Rl 1 1 43 0 22 2 ([(1,.pv (iV id)),(2,.pp 1 0),(5,.pv (iV ((0:Nat):Int)))]) ([(1,0,.ls 0 l.length),(0,0,qag l)]) (.ret) ([(4,.pv (iV (k:Int)))]) ([])) :
 Fn 43 1 [qax 0 l,.pv (iV (id))] [(0,0,qag l)] (.pv (iV (k:Int))) 0 []:=
 Fz [] [Lf r0]
  tI (Lo r0 [] tI)
theorem qp2 {l:List Pt} {tn td:Int} {e:Int} (hc:Fn 75 1 [qax 0 l] [(0,0,qag l)] (.pv (iV (e))) 0 []) (he:(e !=0)=true) :
 Fn 64 1 [qax 0 l,.pv (qaa tn td)] [(0,0,qag l)] (.pv (iV (e))) 0 []:=
 Fz [] [Cf hc [0],.t true]
  tI (Co hc [0] 3 (Ai he tI))
theorem qny {l:List Pt} {tn td:Int} {e:Int} (hc:Fn 75 1 [qax 0 l] [(0,0,qag l)] (.pv (iV (0))) 0 []) (ht:Pure Try.prog 76 #[qaa tn td] (iV (e))) :
 Fn 64 1 [qax 0 l,.pv (qaa tn td)] [(0,0,qag l)] (.pv (iV (e))) 0 []:=
 Fz [] [Cf hc [0],.k,Rf ht]
  tI (Co hc [0] 3 (Ai ht tI))
end Go.Proofs.Ytalnjplghagbpaa

namespace Go.Proofs.Ytalnjplghagbpaa
set_option maxRecDepth 100000
open Go.RowKit
theorem qhq {l:List Pt} {k:Nat} {p:Pt} (hk:l[k]?=some p) (hin:0≤(k:Int)∧(k:Int)<(l.length:Int)) (hlt:decide ((k:Int)<(l.length:Int))=true) (hc:Pure Try.prog 99 #[qac p.id p.a p.b] (iV (0))) (hs:iV (IntKind.i64.wrap ((k:Int)+1))=iV (((k+1:Nat):Int))) {e:Exit} {tm2:TmL} {hp2:HpL}
 (r:Rl 1 1 75 0 44 2 ([(1,.pp 1 0),(3,.pv (iV ((k+1:Nat):Int)))]) ([(1,0,.ls 0 l.length),(0,0,qag l)]) e tm2 hp2):Rl 1 1 75 0 44 2 ([(1,.pp 1 0),(3,.pv (iV (k:Int)))]) ([(1,0,.ls 0 l.length),(0,0,qag l)]) e tm2 hp2:=
 RunsL.next [] 300 [.t true,.r (ptV p),Rf hc,.k,Re hs]
  (Ro (Ai hlt (Ai hin (Ai (qbc hk) (Ai hc (Ai hs tI)))))) r
theorem qoL {l:List Pt} {k:Nat} {p:Pt} (hk:l[k]?=some p) (hin:0≤(k:Int)∧(k:Int)<(l.length:Int)) (hlt:decide ((k:Int)<(l.length:Int))=true) (hc:Pure Try.prog 99 #[qac p.id p.a p.b] (iV (8))):Rl 1 1 75 0 44 2 ([(1,.pp 1 0),(3,.pv (iV (k:Int)))]) ([(1,0,.ls 0 l.length),(0,0,qag l)]) (.ret) ([(2,.pv (iV 8))]) ([]):=
 RunsL.stop [] 300 [.t true,.r (ptV p),Rf hc,.k] (fun h=>by cases h)
  (Ro (Ai hlt (Ai hin (Ai (qbc hk) (Ai hc tI)))))
theorem qpF {l:List Pt} {k:Nat} (hge:decide ((k:Int)<(l.length:Int))=false):Rl 1 1 75 0 44 2 ([(1,.pp 1 0),(3,.pv (iV (k:Int)))]) ([(1,0,.ls 0 l.length),(0,0,qag l)]) (.exit 0) ([(1,.pp 1 0)]) ([(1,0,.ls 0 l.length),(0,0,qag l)]):=
 RunsL.stop [] 300 [.t false] (fun h=>by cases h)
  (Ro (Ai hge tI))
theorem qho {l:List Pt} {k:Nat} {p q:Pt} (hq:l[k]?=some q) (hk:l[k+1]?=some p) (hi0:0≤(k:Int)∧(k:Int)<(l.length:Int)) (hi1:0≤((k+1:Nat):Int)∧((k+1:Nat):Int)<(l.length:Int)) (hlt:decide (((k+1:Nat):Int)<(l.length:Int))=true) (hm:iV (IntKind.i64.wrap (((k+1:Nat):Int)-1))=iV (k:Int)) (hg:decide (q.id≥p.id)=false) (hs:iV (IntKind.i64.wrap (((k+1:Nat):Int)+1))=iV (((k+1+1:Nat):Int))) {e:Exit} {tm2:TmL} {hp2:HpL}
 (r:Rl 1 1 75 1 44 2 ([(1,.pp 1 0),(4,.pv (iV ((k+1+1:Nat):Int)))]) ([(1,0,.ls 0 l.length),(0,0,qag l)]) e tm2 hp2):Rl 1 1 75 1 44 2 ([(1,.pp 1 0),(4,.pv (iV ((k+1:Nat):Int)))]) ([(1,0,.ls 0 l.length),(0,0,qag l)]) e tm2 hp2:=
 RunsL.next [] 300 [.t true,.r (iV (k:Int)),.r (iV q.id),.r (iV p.id),.t false,.r (iV (((k+1+1:Nat):Int)))]
  (Ro (Ai hlt (Ai hm (Ai hi0 (Ai (qa1 hq) (Ai hi1 (Ai (qa1 hk) (Ai hg (Ai hs tI))))))))) r
theorem qog {l:List Pt} {k:Nat} {p q:Pt} (hq:l[k]?=some q) (hk:l[k+1]?=some p) (hi0:0≤(k:Int)∧(k:Int)<(l.length:Int)) (hi1:0≤((k+1:Nat):Int)∧((k+1:Nat):Int)<(l.length:Int)) (hlt:decide (((k+1:Nat):Int)<(l.length:Int))=true) (hm:iV (IntKind.i64.wrap (((k+1:Nat):Int)-1))=iV (k:Int)) (hg:decide (q.id≥p.id)=true):Rl 1 1 75 1 44 2 ([(1,.pp 1 0),(4,.pv (iV ((k+1:Nat):Int)))]) ([(1,0,.ls 0 l.length),(0,0,qag l)]) (.ret) ([(2,.pv (iV 32))]) ([]):=
 RunsL.stop [] 300 [.t true,.r (iV (k:Int)),.r (iV q.id),.r (iV p.id),.t true] (fun h=>by cases h)
  (Ro (Ai hlt (Ai hm (Ai hi0 (Ai (qa1 hq) (Ai hi1 (Ai (qa1 hk) (Ai hg tI))))))))
theorem qjh {l:List Pt} {k:Nat} (hge:decide (((k:Nat):Int)<(l.length:Int))=false):Rl 1 1 75 1 44 2 ([(1,.pp 1 0),(4,.pv (iV ((k:Nat):Int)))]) ([(1,0,.ls 0 l.length),(0,0,qag l)]) (.exit 2) ([]) ([]):=
 RunsL.stop [] 300 [.t false] (fun h=>by cases h)
  (Ro (Ai hge tI))
theorem qof {l:List Pt} (h64:decide ((l.length:Int)>64)=true) :
 Fn 75 1 [qax 0 l] [(0,0,qag l)] (.pv (iV 4)) 0 []:=
 Fz [] [.t true]
  tI (Ai h64 tI)
theorem qrO {l:List Pt} (h64:decide ((l.length:Int)>64)=false) (r0:Rl 1 1 75 0 44 2 ([(1,.pp 1 0),(3,.pv (iV (((0:Nat):Int):Int)))]) ([(1,0,.ls 0 l.length),(0,0,qag l)]) (.ret) ([(2,.pv (iV 8))]) ([])) :
 Fn 75 1 [qax 0 l] [(0,0,qag l)] (.pv (iV 8)) 0 []:=
 Fz [] [.t false,Lf r0]
  tI (Ai h64 (Lo r0 [] tI))
abbrev qux (l:List Pt):Prop:=Rl 1 1 75 0 44 2 ([(1,.pp 1 0),(3,.pv (iV (((0:Nat):Int):Int)))]) ([(1,0,.ls 0 l.length),(0,0,qag l)]) (.exit 0) ([(1,.pp 1 0)]) ([(1,0,.ls 0 l.length),(0,0,qag l)])
theorem qqC {l:List Pt} (h64:decide ((l.length:Int)>64)=false) (r0:qux l) (r1:Rl 1 1 75 1 44 2 ([(1,.pp 1 0),(4,.pv (iV (((0+1:Nat):Int):Int)))]) ([(1,0,.ls 0 l.length),(0,0,qag l)]) (.ret) ([(2,.pv (iV 32))]) ([])) :
 Fn 75 1 [qax 0 l] [(0,0,qag l)] (.pv (iV 32)) 0 []:=
 Fz [] [.t false,Lf r0,Lf r1]
  tI (Ai h64 (Lo r0 [] (Lo r1 [] tI)))
theorem qtU {l:List Pt} (h64:decide ((l.length:Int)>64)=false) (r0:qux l) (r1:Rl 1 1 75 1 44 2 ([(1,.pp 1 0),(4,.pv (iV (((0+1:Nat):Int):Int)))]) ([(1,0,.ls 0 l.length),(0,0,qag l)]) (.exit 2) ([]) ([])) :
 Fn 75 1 [qax 0 l] [(0,0,qag l)] (.pv (iV 0)) 0 []:=
 Fz [] [.t false,Lf r0,Lf r1]
  tI (Ai h64 (Lo r0 [] (Lo r1 [] tI)))
end Go.Proofs.Ytalnjplghagbpaa

namespace Go.Proofs.Ytalnjplghagbpaa
set_option maxRecDepth 100000
open Go.RowKit
abbrev quo (k:Nat) (l:List Pt):TmL:=[(1,.pp 1 0),(12,.ls 0 l.length),(13,.pv (iV (l.length:Int))),(14,.pv (iV (k:Int)))]
theorem qhl {l:List Pt} {k:Nat} {p:Pt} (hk:l[k]?=some p) (hin:0≤(k:Int)∧(k:Int)<(l.length:Int)) (hlt:decide ((k:Int)<(l.length:Int))=true) (hc:Pure Try.prog 84 #[qac p.id p.a p.b] (iV (0))) (hs:iV (IntKind.i64.wrap ((k:Int)+1))=iV (((k+1:Nat):Int))) {e:Exit} {tm2:TmL} {hp2:HpL}
 (r:Rl 1 1 47 0 45 2 ([(1,.pp 1 0),(12,.ls 0 l.length),(13,.pv (iV (l.length:Int))),(14,.pv (iV ((k+1:Nat):Int)))]) ([(1,0,.ls 0 l.length),(0,0,qag l)]) e tm2 hp2):Rl 1 1 47 0 45 2 (quo k l) ([(1,0,.ls 0 l.length),(0,0,qag l)]) e tm2 hp2:=
 RunsL.next [] 300 [.t true,.r (ptV p),Rf hc,.k,Re hs]
  (Ro (Ai hlt (Ai hin (Ai (qbc hk) (Ai hc (Ai hs tI)))))) r
theorem qoC {l:List Pt} {k:Nat} {p:Pt} (hk:l[k]?=some p) (hin:0≤(k:Int)∧(k:Int)<(l.length:Int)) (hlt:decide ((k:Int)<(l.length:Int))=true) (hc:Pure Try.prog 84 #[qac p.id p.a p.b] (iV (8))):Rl 1 1 47 0 45 2 (quo k l) ([(1,0,.ls 0 l.length),(0,0,qag l)]) (.ret) ([(2,.pv (iV 8))]) ([]):=
 RunsL.stop [] 300 [.t true,.r (ptV p),Rf hc,.k] (fun h=>by cases h)
  (Ro (Ai hlt (Ai hin (Ai (qbc hk) (Ai hc tI)))))
theorem qn9 {l:List Pt} {k:Nat} (hge:decide ((k:Int)<(l.length:Int))=false):Rl 1 1 47 0 45 2 (quo k l) ([(1,0,.ls 0 l.length),(0,0,qag l)]) (.exit 0) ([(1,.pp 1 0)]) ([(1,0,.ls 0 l.length),(0,0,qag l)]):=
 RunsL.stop [] 300 [.t false] (fun h=>by cases h)
  (Ro (Ai hge tI))
theorem qgY {l:List Pt} {k:Nat} {p q:Pt} (hq:l[k]?=some q) (hk:l[k+1]?=some p) (hi0:0≤(k:Int)∧(k:Int)<(l.length:Int)) (hi1:0≤((k+1:Nat):Int)∧((k+1:Nat):Int)<(l.length:Int)) (hlt:decide (((k+1:Nat):Int)<(l.length:Int))=true) (hm:iV (IntKind.i64.wrap (((k+1:Nat):Int)-1))=iV (k:Int)) (hg:decide (q.id≥p.id)=false) (hs:iV (IntKind.i64.wrap (((k+1:Nat):Int)+1))=iV (((k+1+1:Nat):Int))) {e:Exit} {tm2:TmL} {hp2:HpL}
 (r:Rl 1 1 47 1 45 2 ([(1,.pp 1 0),(6,.pv (iV ((k+1+1:Nat):Int)))]) ([(1,0,.ls 0 l.length),(0,0,qag l)]) e tm2 hp2):Rl 1 1 47 1 45 2 ([(1,.pp 1 0),(6,.pv (iV ((k+1:Nat):Int)))]) ([(1,0,.ls 0 l.length),(0,0,qag l)]) e tm2 hp2:=
 RunsL.next [] 300 [.t true,.r (iV (k:Int)),.r (iV q.id),.r (iV p.id),.t false,.r (iV (((k+1+1:Nat):Int)))]
  (Ro (Ai hlt (Ai hm (Ai hi0 (Ai (qa1 hq) (Ai hi1 (Ai (qa1 hk) (Ai hg (Ai hs tI))))))))) r
theorem qoi {l:List Pt} {k:Nat} {p q:Pt} (hq:l[k]?=some q) (hk:l[k+1]?=some p) (hi0:0≤(k:Int)∧(k:Int)<(l.length:Int)) (hi1:0≤((k+1:Nat):Int)∧((k+1:Nat):Int)<(l.length:Int)) (hlt:decide (((k+1:Nat):Int)<(l.length:Int))=true) (hm:iV (IntKind.i64.wrap (((k+1:Nat):Int)-1))=iV (k:Int)) (hg:decide (q.id≥p.id)=true):Rl 1 1 47 1 45 2 ([(1,.pp 1 0),(6,.pv (iV ((k+1:Nat):Int)))]) ([(1,0,.ls 0 l.length),(0,0,qag l)]) (.ret) ([(2,.pv (iV 32))]) ([]):=
 RunsL.stop [] 300 [.t true,.r (iV (k:Int)),.r (iV q.id),.r (iV p.id),.t true] (fun h=>by cases h)
  (Ro (Ai hlt (Ai hm (Ai hi0 (Ai (qa1 hq) (Ai hi1 (Ai (qa1 hk) (Ai hg tI))))))))
theorem qjH {l:List Pt} {k:Nat} (hge:decide ((k:Int)<(l.length:Int))=false):Rl 1 1 47 1 45 2 ([(1,.pp 1 0),(6,.pv (iV ((k:Nat):Int)))]) ([(1,0,.ls 0 l.length),(0,0,qag l)]) (.exit 2) ([]) ([]):=
 RunsL.stop [] 300 [.t false] (fun h=>by cases h)
  (Ro (Ai hge tI))
theorem qpr {l:List Pt} (h64:decide ((l.length:Int)>64)=true) :
 Fn 47 1 [qax 0 l] [(0,0,qag l)] (.pv (iV (4))) 0 []:=
 Fz [] [.t true]
  tI (Ai h64 tI)
theorem qqs {l:List Pt} (h64:decide ((l.length:Int)>64)=false) (r0:Rl 1 1 47 0 45 2 ([(1,.pp 1 0),(12,.ls 0 l.length),(13,.pv (iV (l.length:Int))),(14,.pv (iV ((0:Nat):Int)))]) ([(1,0,.ls 0 l.length),(0,0,qag l)]) (.ret) ([(2,.pv (iV 8))]) ([])) :
 Fn 47 1 [qax 0 l] [(0,0,qag l)] (.pv (iV (8))) 0 []:=
 Fz [] [.t false,Lf r0]
  tI (Ai h64 (Lo r0 [] tI))
abbrev qut (l:List Pt):Prop:=Rl 1 1 47 0 45 2 ([(1,.pp 1 0),(12,.ls 0 l.length),(13,.pv (iV (l.length:Int))),(14,.pv (iV ((0:Nat):Int)))]) ([(1,0,.ls 0 l.length),(0,0,qag l)]) (.exit 0) ([(1,.pp 1 0)]) ([(1,0,.ls 0 l.length),(0,0,qag l)])
theorem qrg {l:List Pt} (h64:decide ((l.length:Int)>64)=false) (r0:qut l) (r1:Rl 1 1 47 1 45 2 ([(1,.pp 1 0),(6,.pv (iV ((0+1:Nat):Int)))]) ([(1,0,.ls 0 l.length),(0,0,qag l)]) (.ret) ([(2,.pv (iV 32))]) ([])) :
 Fn 47 1 [qax 0 l] [(0,0,qag l)] (.pv (iV (32))) 0 []:=
 Fz [] [.t false,Lf r0,Lf r1]
  tI (Ai h64 (Lo r0 [] (Lo r1 [] tI)))
theorem qun {l:List Pt} (h64:decide ((l.length:Int)>64)=false) (r0:qut l) (r1:Rl 1 1 47 1 45 2 ([(1,.pp 1 0),(6,.pv (iV ((0+1:Nat):Int)))]) ([(1,0,.ls 0 l.length),(0,0,qag l)]) (.exit 2) ([]) ([])) :
 Fn 47 1 [qax 0 l] [(0,0,qag l)] (.pv (iV (0))) 0 []:=
 Fz [] [.t false,Lf r0,Lf r1]
  tI (Ai h64 (Lo r0 [] (Lo r1 [] tI)))
end Go.Proofs.Ytalnjplghagbpaa
