/-
  Joined: Rt, Cu, Cv, Fa, Fd, Fb, Fc. Conditions: none.
-/
import Derived.Test.YtalnjplghagbpaaW20
import Derived.Test.YtalnjplghagbpaaW19
import Derived.Test.YtalnjplghagbpaaW22
namespace Go.Proofs.Ytalnjplghagbpaa
set_option maxRecDepth 100000
open Go.RowKit
theorem qsX (x y:Nat):Int.tdiv (x:Int) (y:Int)=((x/y:Nat):Int):=by rw[Int.tdiv_eq_ediv_of_nonneg (Int.natCast_nonneg x)];simp
theorem qtl (x y:Nat):Int.tmod (x:Int) (y:Int)=((x%y:Nat):Int):=by rw[Int.tmod_eq_emod_of_nonneg (Int.natCast_nonneg x)];simp
theorem qqM (x:Nat) (h:x<18446744073709551616):Value.int .u64 (IntKind.u64.wrap (Int.tdiv (x:Int) 4294967296))=.int .u64 ((x/4294967296:Nat):Int):=by
 rw[show (4294967296:Int)=((4294967296:Nat):Int) from rfl,qsX,qeb (by omega) (by omega)]
theorem qpV (x:Nat):Value.int .u64 (Int.tmod (x:Int) 4294967296)=.int .u64 ((x%4294967296:Nat):Int):=by
 rw[show (4294967296:Int)=((4294967296:Nat):Int) from rfl,qtl]
theorem qr7 {x y:Nat} (h:x*y<18446744073709551616):Value.int .u64 (IntKind.u64.wrap ((x:Int)*(y:Int)))=.int .u64 ((x*y:Nat):Int):=qe4 (by simp) (Int.natCast_nonneg _) (by omega)
theorem qoe {x y:Nat} (h:x+y<18446744073709551616):Value.int .u64 (IntKind.u64.wrap ((x:Int)+(y:Int)))=.int .u64 ((x+y:Nat):Int):=qe4 (by simp) (by omega) (by omega)
theorem halves (ah al bh bl:Nat):(ah*4294967296+al)*(bh*4294967296+bl)=ah*bh*18446744073709551616+(ah*bl+al*bh)*4294967296+al*bl:=by
 have e1:ah*4294967296*(bh*4294967296)=ah*bh*18446744073709551616:=Nat.mul_mul_mul_comm ah 4294967296 bh 4294967296
 have e2:ah*4294967296*bl=ah*bl*4294967296:=Nat.mul_right_comm ah 4294967296 bl
 have e3:al*(bh*4294967296)=al*bh*4294967296:=(Nat.mul_assoc al bh 4294967296).symm
 rw[Nat.add_mul,Nat.mul_add,Nat.mul_add,e1,e2,e3,Nat.add_mul]
 omega
theorem qiO (a b:Nat) (ha:a<18446744073709551616) (hb:b<18446744073709551616):Pure Try.prog 137 #[.int .u64 a,.int .u64 b] (qii false (a*b)):=by
 obtain⟨ah,hah⟩:∃ x,x=a/4294967296:=⟨_,rfl⟩
 obtain⟨al,hal⟩:∃ x,x=a%4294967296:=⟨_,rfl⟩
 obtain⟨bh,hbh⟩:∃ x,x=b/4294967296:=⟨_,rfl⟩
 obtain⟨bl,hbl⟩:∃ x,x=b%4294967296:=⟨_,rfl⟩
 have e1:a=ah*4294967296+al:=by omega
 have e2:b=bh*4294967296+bl:=by omega
 have key:=halves ah al bh bl
 rw[← e1,← e2] at key
 have m1:ah*bl≤4294967295*4294967295:=Nat.mul_le_mul (by omega) (by omega)
 have m2:al*bh≤4294967295*4294967295:=Nat.mul_le_mul (by omega) (by omega)
 have m3:ah*bh≤4294967295*4294967295:=Nat.mul_le_mul (by omega) (by omega)
 have m4:al*bl≤4294967295*4294967295:=Nat.mul_le_mul (by omega) (by omega)
 have hab:a*b<340282366920938463463374607431768211456:=by
  have:a*b≤18446744073709551615*18446744073709551615:=Nat.mul_le_mul (by omega) (by omega)
  omega
 have x1:=qr7 (x:=al) (y:=bl) (by omega)
 have x2:=qr7 (x:=ah) (y:=bl) (by omega)
 have x4:=qr7 (x:=al) (y:=bh) (by omega)
 have x6:=qr7 (x:=ah) (y:=bh) (by omega)
 have q1:=qqM a ha
 have q2:=qpV a
 have q3:=qqM b hb
 have q4:=qpV b
 rw[← hah] at q1
 rw[← hal] at q2
 rw[← hbh] at q3
 rw[← hbl] at q4
 generalize ah*bl=p1 at *
 generalize al*bh=p2 at *
 generalize ah*bh=p3 at *
 generalize al*bl=low at *
 generalize a*b=ab at *
 obtain⟨m,hm⟩:∃ m,m=p1+low/4294967296:=⟨_,rfl⟩
 obtain⟨n,hn⟩:∃ n,n=p2+m%4294967296:=⟨_,rfl⟩
 have r:=qhd (nz:=by decide) q1 q2 q3 q4 x1 x2 (qqM low (by omega)) (qoe (by omega)) x4 (qpV _) (qoe (by omega)) x6 (qqM _ (by omega)) (qoe (by omega)) (qqM _ (by omega)) (qoe (by omega))
  (qpV _) (qe4 (y:=((n%4294967296*4294967296:Nat):Int)) (by rw[hn,hm];simp) (by omega) (by omega)) (qpV _) (qoe (by omega))
 rw[← hm,← hn] at r
 have f1:p3+m/4294967296+n/4294967296=ab/18446744073709551616:=by omega
 have f2:n%4294967296*4294967296+low%4294967296=ab%18446744073709551616:=by omega
 rw[f1,f2] at r
 exact r
abbrev qgi (x:Int):Value:=qii (decide (x<0)) x.natAbs
theorem qfm (n:Int) (h:I64 n):Pure Try.prog 101 #[iV n] (.int .u64 (n.natAbs:Int)):=
 fun w=>(qd6 n w h.1 h.2).mono fun _ _ ⟨h1,h2⟩=>⟨h1,Gr.of_eq h2⟩
theorem qaH {p:Prop} [Decidable p] (h:p):decide p=true:=by simp[h]
theorem qay {p:Prop} [Decidable p] (h:¬ p):decide p=false:=by simp[h]
theorem qcZ (a b:Int) (ha:I64 a) (hb:I64 b):Pure Try.prog 129 #[iV a,iV b] (qgi (a*b)):=by
 have ca:=qfm a ha
 have cb:=qfm b hb
 unfold I64 at ha hb
 have cp:=qiO a.natAbs b.natAbs (by omega) (by omega)
 unfold qgi
 rw[Int.natAbs_mul]
 by_cases sa:a<0<;>by_cases sb:b<0
 ·rw[qay (show ¬ a*b<0 by have:=Int.mul_pos_of_neg_of_neg sa sb;omega)]
  exact qhw ca cb cp (qaH sa) (qaH sb)
 ·by_cases nb:b=0
  ·subst nb
   rw[qay (by simp)]
   exact qh7 ca cb cp (qaH sa) (qay sb) (by simp;omega) (by simp)
  ·rw[qaH (Int.mul_neg_of_neg_of_pos sa (by omega))]
   exact qhL ca cb cp (qaH sa) (qay sb) (by simp;omega) (by simpa using nb)
 ·by_cases na:a=0
  ·subst na
   rw[qay (by simp)]
   exact qia ca cb cp (qay sa) (qaH sb) (by simp)
  ·rw[qaH (Int.mul_neg_of_pos_of_neg (by omega) sb)]
   exact qhF ca cb cp (qay sa) (qaH sb) (by simpa using na) (by simp;omega)
 ·rw[qay (show ¬ a*b<0 by have:=Int.mul_nonneg (show 0≤a by omega) (show 0≤b by omega);omega)]
  exact qhX ca cb cp (qay sa) (qay sb)
theorem qj4 (x:Int):Pure Try.prog 127 #[qgi x] (iV x.sign):=by
 unfold qgi
 obtain⟨A,hA⟩:∃ A,A=x.natAbs:=⟨_,rfl⟩
 rw[← hA]
 by_cases h0:x=0
 ·subst h0
  subst hA
  exact qpb (by simp) (by simp)
 ·by_cases hs:x<0
  ·rw[qaH hs,Int.sign_eq_neg_one_of_neg hs]
   by_cases hh:A/18446744073709551616=0
   ·exact qmi (by simp[hh]) (by simp;omega)
   ·exact qma (by simp;omega)
  ·rw[qay hs,Int.sign_eq_one_of_pos (by omega)]
   by_cases hh:A/18446744073709551616=0
   ·exact qmb (by simp[hh]) (by simp;omega)
   ·exact qk2 (by simp;omega)
def qfv (A B:Nat):Int:=if A<B then -1 else if A=B then 0 else 1
theorem qeS (s t:Bool) (A B:Nat):Pure Try.prog 135 #[qii s A,qii t B] (iV (qfv A B)):=by
 by_cases hh:A/18446744073709551616=B/18446744073709551616
 ·by_cases hl:A%18446744073709551616=B%18446744073709551616
  ·have e:A=B:=by omega
   subst e
   rw[show qfv A A=0 by simp[qfv]]
   exact ql1 (by simp) (by simp)
  ·by_cases hlt:A%18446744073709551616<B%18446744073709551616
   ·rw[show qfv A B = -1 by unfold qfv;rw[if_pos (by omega)]]
    exact qlh (by simp[hh]) (by simp;omega) (by simp;omega)
   ·rw[show qfv A B=1 by unfold qfv;rw[if_neg (by omega),if_neg (by omega)]]
    exact qmM (by simp[hh]) (by simp;omega) (by simp;omega)
 ·by_cases hlt:A/18446744073709551616<B/18446744073709551616
  ·rw[show qfv A B = -1 by unfold qfv;rw[if_pos (by omega)]]
   exact qlf (by simp;omega) (by simp;omega)
  ·rw[show qfv A B=1 by unfold qfv;rw[if_neg (by omega),if_neg (by omega)]]
   exact ql9 (by simp;omega) (by simp;omega)
theorem qga {x y:Nat} (h:x<y) (hy:y<18446744073709551616):Value.int .u64 (IntKind.u64.wrap ((x:Int)-(y:Int)))=.int .u64 ((18446744073709551616+x-y:Nat):Int):=by
 rw[IntKind.wrap_u64];congr 1;omega
theorem qdc (s t:Bool) (A B:Nat) (hA:A<340282366920938463463374607431768211456) (h:B≤A):Pure Try.prog 136 #[qii s A,qii t B] (qii false (A-B)):=by
 obtain⟨a1,ha1⟩:∃ x,x=A/18446744073709551616:=⟨_,rfl⟩
 obtain⟨a0,ha0⟩:∃ x,x=A%18446744073709551616:=⟨_,rfl⟩
 obtain⟨b1,hb1⟩:∃ x,x=B/18446744073709551616:=⟨_,rfl⟩
 obtain⟨b0,hb0⟩:∃ x,x=B%18446744073709551616:=⟨_,rfl⟩
 unfold qii
 rw[← ha1,← ha0,← hb1,← hb0]
 have hs:Value.int .u64 (IntKind.u64.wrap ((a1:Int)-(b1:Int)))=.int .u64 ((a1-b1:Nat):Int):=qe4 (by omega) (by omega) (by omega)
 by_cases hl:a0<b0
 ·rw[show (A-B)/18446744073709551616=a1-b1-1 by omega,show (A-B)%18446744073709551616=18446744073709551616+a0-b0 by omega]
  exact qri hs (qga hl (by omega)) (by simp;omega) (qe4 (by omega) (by omega) (by omega))
 ·rw[show (A-B)/18446744073709551616=a1-b1 by omega,show (A-B)%18446744073709551616=a0-b0 by omega]
  exact qqN hs (qe4 (by omega) (by omega) (by omega)) (by simp;omega)
theorem qfK {x y z:Nat} (h:x+y=z+18446744073709551616) (hz:z<18446744073709551616):Value.int .u64 (IntKind.u64.wrap ((x:Int)+(y:Int)))=.int .u64 (z:Int):=by
 rw[IntKind.wrap_u64,show ((x:Int)+(y:Int))%18446744073709551616=(z:Int) by omega]
theorem qqi (s:Bool) (A B:Nat) (h:A+B<340282366920938463463374607431768211456):Pure Try.prog 128 #[qii s A,qii s B] (qii s (A+B)):=by
 obtain⟨a1,ha1⟩:∃ x,x=A/18446744073709551616:=⟨_,rfl⟩
 obtain⟨a0,ha0⟩:∃ x,x=A%18446744073709551616:=⟨_,rfl⟩
 obtain⟨b1,hb1⟩:∃ x,x=B/18446744073709551616:=⟨_,rfl⟩
 obtain⟨b0,hb0⟩:∃ x,x=B%18446744073709551616:=⟨_,rfl⟩
 unfold qii
 rw[← ha1,← ha0,← hb1,← hb0]
 have hh:Value.int .u64 (IntKind.u64.wrap ((a1:Int)+(b1:Int)))=.int .u64 ((a1+b1:Nat):Int):=qoe (by omega)
 by_cases hl:a0+b0<18446744073709551616
 ·have l1:=qoe hl
  rw[show (A+B)/18446744073709551616=a1+b1 by omega,show (A+B)%18446744073709551616=a0+b0 by omega]
  cases s
  ·exact qjy hh l1 (qay (by omega))
  ·exact qkv hh l1 (qay (by omega))
 ·obtain⟨z,hz⟩:∃ z,a0+b0=z+18446744073709551616:=⟨a0+b0-18446744073709551616,by omega⟩
  have l1:=qfK hz (by omega)
  rw[show (A+B)/18446744073709551616=a1+b1+1 by omega,show (A+B)%18446744073709551616=z by omega]
  cases s
  ·exact qiM hh l1 (qaH (by omega)) (qe4 (by omega) (by omega) (by omega))
  ·exact qks hh l1 (qaH (by omega)) (qe4 (by omega) (by omega) (by omega))
theorem qj2 (x y:Int) (hx:x.natAbs<170141183460469231731687303715884105728) (hy:y.natAbs<170141183460469231731687303715884105728):Pure Try.prog 128 #[qgi x,qgi y] (qgi (x+y)):=by
 unfold qgi
 by_cases sx:x<0<;>by_cases sy:y<0
 ·rw[qaH sx,qaH sy,qaH (show x+y<0 by omega),show (x+y).natAbs=x.natAbs+y.natAbs by omega]
  exact qqi true _ _ (by omega)
 ·rw[qaH sx,qay sy]
  have cl:=qeS true false x.natAbs y.natAbs
  by_cases hc:y.natAbs≤x.natAbs
  ·have cm:=qdc true false x.natAbs y.natAbs (by omega) hc
   rw[show (x+y).natAbs=x.natAbs-y.natAbs by omega]
   have hge:decide (qfv x.natAbs y.natAbs≥0)=true:=by unfold qfv;rw[if_neg (by omega)];split<;>decide
   obtain⟨D,hD⟩:∃ D,D=x.natAbs-y.natAbs:=⟨_,rfl⟩
   rw[← hD] at cm ⊢
   by_cases hd:D=0
   ·rw[qay (show ¬ x+y<0 by omega)]
    exact qiQ cl hge cm (by simp[hd]) (by simp[hd])
   ·rw[qaH (show x+y<0 by omega)]
    by_cases hh:D/18446744073709551616=0
    ·exact qjO cl hge cm (by simp[hh]) (by simp;omega)
    ·exact qjW cl hge cm (by simp;omega)
  ·have cm:=qdc false true y.natAbs x.natAbs (by omega) (by omega)
   rw[show (x+y).natAbs=y.natAbs-x.natAbs by omega,qay (show ¬ x+y<0 by omega)]
   exact ql8 cl (by unfold qfv;rw[if_pos (by omega)];decide) cm
 ·rw[qay sx,qaH sy]
  have cl:=qeS false true x.natAbs y.natAbs
  by_cases hc:y.natAbs≤x.natAbs
  ·have cm:=qdc false true x.natAbs y.natAbs (by omega) hc
   rw[show (x+y).natAbs=x.natAbs-y.natAbs by omega,qay (show ¬ x+y<0 by omega)]
   exact qlA cl (by unfold qfv;rw[if_neg (by omega)];split<;>decide) cm
  ·have cm:=qdc true false y.natAbs x.natAbs (by omega) (by omega)
   rw[show (x+y).natAbs=y.natAbs-x.natAbs by omega,qaH (show x+y<0 by omega)]
   exact qlS cl (by unfold qfv;rw[if_pos (by omega)];decide) cm
 ·rw[qay sx,qay sy,qay (show ¬ x+y<0 by omega),show (x+y).natAbs=x.natAbs+y.natAbs by omega]
  exact qqi false _ _ (by omega)
end Go.Proofs.Ytalnjplghagbpaa

namespace Go.Proofs.Ytalnjplghagbpaa
set_option maxRecDepth 100000
open Go.RowKit
theorem qmC {pi pa pb qi qa qb n d u v x y s:Int} (v1:iV (IntKind.i64.wrap (pa-qa))=iV u) (c1:Pure Try.prog 129 #[iV u,iV d] (qgi x)) (v2:iV (IntKind.i64.wrap (pb-qb))=iV v) (c2:Pure Try.prog 129 #[iV v,iV n] (qgi y)) (c3:Pure Try.prog 128 #[qgi x,qgi y] (qgi s)) (c4:Pure Try.prog 127 #[qgi s] (iV s.sign)) :
 Pure Try.prog 120 #[qab pi pa pb,qab qi qa qb,qad n d] (iV s.sign):=
 qae (args:=[qab pi pa pb,qab qi qa qb,qad n d]) 200 [Re v1,Rf c1,Re v2,Rf c2,Rf c3,Rf c4]
  (Ai rfl (Ai v1 (Ai c1 (Ai v2 (Ai c2 (Ai c3 (Ai c4 tI))))))) (by kernel_rfl)
abbrev qpA (d:Int) (f:Int) (n:Int) (pa:Int) (pb:Int) (pi:Int) (qa:Int) (qb:Int) (qi:Int):Prop:=Pure Try.prog 120 #[qab pi pa pb,qab qi qa qb,qad n d] (iV f)
theorem qfA {pi pa pb qi qa qb n d f:Int} (c:qpA d f n pa pb pi qa qb qi) (z:(f !=0)=true) (g:decide (f>0)=true) :
 Pure Try.prog 111 #[qab pi pa pb,qab qi qa qb,qad n d] (.bool true):=
 qae (args:=[qab pi pa pb,qab qi qa qb,qad n d]) 200 [Rf c,.t true,.t true]
  (Ai rfl (Ai c (Ai z (Ai g tI)))) (by kernel_rfl)
theorem qjI {pi pa pb qi qa qb n d f:Int} (c:qpA d f n pa pb pi qa qb qi) (z:(f !=0)=false) (bb:(pb !=qb)=true) (g:decide (pb>qb)=true) :
 Pure Try.prog 111 #[qab pi pa pb,qab qi qa qb,qad n d] (.bool true):=
 qae (args:=[qab pi pa pb,qab qi qa qb,qad n d]) 200 [Rf c,.t false,.t true,.t true]
  (Ai rfl (Ai c (Ai z (Ai bb (Ai g tI))))) (by kernel_rfl)
theorem qkq {pi pa pb qi qa qb n d f:Int} (c:qpA d f n pa pb pi qa qb qi) (z:(f !=0)=false) (bb:(pb !=qb)=false) (g:decide (pi<qi)=true) :
 Pure Try.prog 111 #[qab pi pa pb,qab qi qa qb,qad n d] (.bool true):=
 qae (args:=[qab pi pa pb,qab qi qa qb,qad n d]) 200 [Rf c,.t false,.t false,.t true]
  (Ai rfl (Ai c (Ai z (Ai bb (Ai g tI))))) (by kernel_rfl)
theorem qfX {pi pa pb qi qa qb n d f:Int} (c:qpA d f n pa pb pi qa qb qi) (z:(f !=0)=true) (g:decide (f>0)=false) :
 Pure Try.prog 111 #[qab pi pa pb,qab qi qa qb,qad n d] (.bool false):=
 qae (args:=[qab pi pa pb,qab qi qa qb,qad n d]) 200 [Rf c,.t true,.t false]
  (Ai rfl (Ai c (Ai z (Ai g tI)))) (by kernel_rfl)
theorem qjC {pi pa pb qi qa qb n d f:Int} (c:qpA d f n pa pb pi qa qb qi) (z:(f !=0)=false) (bb:(pb !=qb)=true) (g:decide (pb>qb)=false) :
 Pure Try.prog 111 #[qab pi pa pb,qab qi qa qb,qad n d] (.bool false):=
 qae (args:=[qab pi pa pb,qab qi qa qb,qad n d]) 200 [Rf c,.t false,.t true,.t false]
  (Ai rfl (Ai c (Ai z (Ai bb (Ai g tI))))) (by kernel_rfl)
theorem qio {pi pa pb qi qa qb n d f:Int} (c:qpA d f n pa pb pi qa qb qi) (z:(f !=0)=false) (bb:(pb !=qb)=false) (g:decide (pi<qi)=false) :
 Pure Try.prog 111 #[qab pi pa pb,qab qi qa qb,qad n d] (.bool false):=
 qae (args:=[qab pi pa pb,qab qi qa qb,qad n d]) 200 [Rf c,.t false,.t false,.t false]
  (Ai rfl (Ai c (Ai z (Ai bb (Ai g tI))))) (by kernel_rfl)
end Go.Proofs.Ytalnjplghagbpaa

namespace Go.Proofs.Ytalnjplghagbpaa
set_option maxRecDepth 100000
open Go.RowKit
theorem qkU {pi pa pb qi qa qb n d:Int} (hn:I64 n) (hd:I64 d) (hp:okP pi pa pb=true) (hq:okP qi qa qb=true) :
 Pure Try.prog 111 #[qab pi pa pb,qab qi qa qb,qad n d] (.bool (qcv (pa*d+pb*n) (qa*d+qb*n) pb qb pi qi)):=by
 have hp':=qbW.1 hp
 have hq':=qbW.1 hq
 have c1:=qcZ (pa-qa) d (by unfold I64;omega) hd
 have c2:=qcZ (pb-qb) n (by unfold I64;omega) hn
 have b1:((pa-qa)*d).natAbs≤2097152*9223372036854775808:=by rw[Int.natAbs_mul];unfold I64 at hd;exact Nat.mul_le_mul (by omega) (by omega)
 have b2:((pb-qb)*n).natAbs≤2097152*9223372036854775808:=by rw[Int.natAbs_mul];unfold I64 at hn;exact Nat.mul_le_mul (by omega) (by omega)
 have c3:=qj2 ((pa-qa)*d) ((pb-qb)*n) (by omega) (by omega)
 have e:(pa-qa)*d+(pb-qb)*n=pa*d+pb*n-(qa*d+qb*n):=by rw[Int.sub_mul,Int.sub_mul];omega
 rw[e] at c3
 have c4:=qj4 (pa*d+pb*n-(qa*d+qb*n))
 have far:=qmC (pi:=pi) (pa:=pa) (pb:=pb) (qi:=qi) (qa:=qa) (qb:=qb) (by rw[qag (by omega) (by omega)]) c1 (by rw[qag (by omega) (by omega)]) c2 c3 c4
 generalize pa*d+pb*n=P at *
 generalize qa*d+qb*n=Q at *
 rcases Int.lt_trichotomy (P-Q) 0 with h | h | h
 ·rw[Int.sign_eq_neg_one_of_neg h] at far
  rw[qcb (by omega)]
  exact qfX far (by decide) (by decide)
 ·rw[h] at far
  by_cases hb:pb=qb
  ·by_cases hi:pi<qi
   ·rw[qci (by omega)];exact qkq far (by decide) (by simp[hb]) (dt hi)
   ·rw[qcb (by omega)];exact qio far (by decide) (by simp[hb]) (df hi)
  ·by_cases hg:pb>qb
   ·rw[qci (by omega)];exact qjI far (by decide) (by simp[hb]) (dt hg)
   ·rw[qcb (by omega)];exact qjC far (by decide) (by simp[hb]) (df hg)
 ·rw[Int.sign_eq_one_of_pos h] at far
  rw[qci (by omega)]
  exact qfA far (by decide) (by decide)
end Go.Proofs.Ytalnjplghagbpaa

namespace Go.Proofs.Ytalnjplghagbpaa
set_option maxRecDepth 100000
open Go.RowKit
structure Pt where
 id:Int
 a:Int
 b:Int
abbrev ptV (p:Pt):Value:=qab p.id p.a p.b
def qah:List Pt→List Value
 | []=>[]
 | p::r=>iV p.id::iV p.a::iV p.b::qah r
theorem qbL:∀ (a b:List Pt),qah (a++b)=qah a++qah b
 | [],_=>rfl
 | p::r,b=>by simp[qah,qbL r b]
theorem qaG:∀ (l:List Pt),(qah l).length=l.length*3
 | []=>rfl
 | p::r=>by simp[qah,qaG r];omega
theorem qdf:∀ {l:List Pt} {k:Nat} {p:Pt},l[k]?=some p→(qah l)[k*3]?=some (iV p.id)∧(qah l)[k*3+1]?=some (iV p.a)∧(qah l)[k*3+2]?=some (iV p.b)
 | [],k,p,h=>by simp at h
 | q::r,0,p,h=>by simp at h;subst h;exact⟨rfl,rfl,rfl⟩
 | q::r,k+1,p,h=>by
  have:=qdf (l:=r) (k:=k) (p:=p) (by simpa using h)
  rw[show (k+1)*3=k*3+1+1+1 by omega]
  exact this
theorem qa0 {l:List Pt} {k:Nat} {p:Pt} (h:l[k]?=some p):qcQ (qah l) (0*3+k*3) [iV p.id,iV p.a,iV p.b]:=by
 obtain⟨h1,h2,h3⟩:=qdf h
 intro j v hj
 rw[show 0*3+k*3+j=k*3+j by omega]
 match j,hj with
 | 0,hj=>cases hj;exact h1
 | 1,hj=>cases hj;exact h2
 | 2,hj=>cases hj;exact h3
 | j+3,hj=>simp at hj
theorem qa3 {l:List Pt} {k:Nat} {p:Pt} (h:l[k]?=some p):qcQ (qah l) (0*3+k*3) [iV p.id]:=by
 intro j v hj
 rw[show 0*3+k*3+j=k*3+j by omega]
 match j,hj with
 | 0,hj=>cases hj;exact (qdf h).1
 | j+1,hj=>simp at hj
theorem RunsL.rounds {P:Program} {lo fr:Nat} {c:Code} {n nb:Nat} (tm:Nat→List (Nat×SV)) (hp:Nat→List (Nat×Nat×SV)) {e:Exit} {tm2:TmL} {hp2:HpL} {N:Nat} :
 ∀ (d i:Nat),i+d=N→(∀ j,i≤j→j<N→RunsL P lo fr c n nb (tm (j+1)) (hp (j+1)) e tm2 hp2→RunsL P lo fr c n nb (tm j) (hp j) e tm2 hp2)→RunsL P lo fr c n nb (tm N) (hp N) e tm2 hp2→RunsL P lo fr c n nb (tm i) (hp i) e tm2 hp2
 | 0,i,h,_,last=>by
  have:i=N:=by omega
  subst this;exact last
 | d+1,i,h,step,last=>step i (Nat.le_refl i) (by omega) (RunsL.rounds tm hp d (i+1) (by omega) (fun j h1 h2=>step j (by omega) h2) last)
abbrev qan (l:List Pt):SV:=.row 80 3 l.length (qah l)
abbrev qax (b:Nat) (l:List Pt):SV:=.ag [.ls b l.length]
theorem qau {k:Nat} (h:k≤1000000):iV (IntKind.i64.wrap ((k:Int)+1))=iV ((k+1:Nat):Int):=by rw[qag (by omega) (by omega)];rfl
theorem qpv {l:List Pt} (h1:decide ((l.length:Int)>16)=true) (h2:decide ((l.length:Int)<64)=true):Fn 25 1 [qax 0 l] [(0,0,qan l)] (.pv (.bool true)) 0 []:=
 qcN 200 [] [.t true,.t true] tI (Ai h1 (Ai h2 tI)) (by kernel_rfl)
theorem qoh {l:List Pt} (h1:decide ((l.length:Int)>16)=false) (h2:decide ((l.length:Int)>70)=false):Fn 25 1 [qax 0 l] [(0,0,qan l)] (.pv (.bool false)) 0 []:=
 qcN 200 [] [.t false,.t false] tI (Ai h1 (Ai h2 tI)) (by kernel_rfl)
theorem ql4 {l:List Pt} (h1:decide ((l.length:Int)>16)=true) (h2:decide ((l.length:Int)<64)=false) (h3:decide ((l.length:Int)>70)=true):Fn 25 1 [qax 0 l] [(0,0,qan l)] (.pv (.bool true)) 0 []:=
 qcN 200 [] [.t true,.t false,.t true] tI (Ai h1 (Ai h2 (Ai h3 tI))) (by kernel_rfl)
theorem qkJ {l:List Pt} (h1:decide ((l.length:Int)>16)=true) (h2:decide ((l.length:Int)<64)=false) (h3:decide ((l.length:Int)>70)=false):Fn 25 1 [qax 0 l] [(0,0,qan l)] (.pv (.bool false)) 0 []:=
 qcN 200 [] [.t true,.t false,.t false] tI (Ai h1 (Ai h2 (Ai h3 tI))) (by kernel_rfl)
theorem qec (m:List Pt) (p:Pt):qah m++[iV p.id,iV p.a,iV p.b]=qah (m++[p]):=by rw[qbL];rfl
theorem qfl:∀ (l:List Pt) (k:Nat),(qah l).drop (k*3)=qah (l.drop k)
 | l,0=>by simp
 | [],k+1=>by simp[qah]
 | p::r,k+1=>by rw[show (k+1)*3=k*3+1+1+1 by omega,List.drop_succ_cons];exact qfl r k
theorem qjK (x:Int):(x==x)=true:=by simp
theorem qml (p:Pt):(!(p.id==p.id&&(p.a==p.a&&(p.b==p.b&&true))))=false:=by simp
def qt7 (l:List Int):List Value:=l.map fun x=>iV x
end Go.Proofs.Ytalnjplghagbpaa

namespace Go.Proofs.Ytalnjplghagbpaa
set_option maxRecDepth 100000
open Go.RowKit
theorem qj3 {l:List Pt} {k:Nat} {p:Pt} {id:Int} (hk:l[k]?=some p) (hin:0≤(k:Int)∧(k:Int)<(l.length:Int)) (hlt:decide ((k:Int)<(l.length:Int))=true) (he:(p.id==id)=false) (hs:iV (IntKind.i64.wrap ((k:Int)+1))=iV (((k+1:Nat):Int))) {e:Exit} {tm2:TmL} {hp2:HpL}
 (r:Rl 1 1 43 0 22 2 ([(1,.pv (iV id)),(2,.pp 1 0),(5,.pv (iV ((k+1:Nat):Int)))]) ([(1,0,.ls 0 l.length),(0,0,qan l)]) e tm2 hp2):Rl 1 1 43 0 22 2 ([(1,.pv (iV id)),(2,.pp 1 0),(5,.pv (iV (k:Int)))]) ([(1,0,.ls 0 l.length),(0,0,qan l)]) e tm2 hp2:=
 RunsL.next [] 300 [.t true,.r (iV p.id),.t false,Re hs]
  (Ro (Ai hlt (Ai hin (Ai (qa3 hk) (Ai he (Ai hs tI)))))) r
theorem qqU {l:List Pt} {k:Nat} {p:Pt} {id:Int} (hk:l[k]?=some p) (hin:0≤(k:Int)∧(k:Int)<(l.length:Int)) (hlt:decide ((k:Int)<(l.length:Int))=true) (he:(p.id==id)=true):Rl 1 1 43 0 22 2 ([(1,.pv (iV id)),(2,.pp 1 0),(5,.pv (iV (k:Int)))]) ([(1,0,.ls 0 l.length),(0,0,qan l)]) (.ret) ([(4,.pv (iV (k:Int)))]) ([]):=
 RunsL.stop [] 300 [.t true,.r (iV p.id),.t true] (fun h=>by cases h)
  (Ro (Ai hlt (Ai hin (Ai (qa3 hk) (Ai he tI)))))
theorem qq7 {l:List Pt} {k:Nat} {id:Int} (hge:decide ((k:Int)<(l.length:Int))=false):Rl 1 1 43 0 22 2 ([(1,.pv (iV id)),(2,.pp 1 0),(5,.pv (iV (k:Int)))]) ([(1,0,.ls 0 l.length),(0,0,qan l)]) (.exit 0) ([]) ([]):=
 RunsL.stop [] 300 [.t false] (fun h=>by cases h)
  (Ro (Ai hge tI))
theorem qtu {l:List Pt} {id:Int} (r0:Rl 1 1 43 0 22 2 ([(1,.pv (iV id)),(2,.pp 1 0),(5,.pv (iV ((0:Nat):Int)))]) ([(1,0,.ls 0 l.length),(0,0,qan l)]) (.exit 0) ([]) ([])) :
 Fn 43 1 [qax 0 l,.pv (iV (id))] [(0,0,qan l)] (.pv (iV (-1))) 0 []:=
 Fz [] [Lf r0]
  tI (Lo r0 [] tI)
theorem qrF {l:List Pt} {k:Nat} {id:Int} (r0:Rl 1 1 43 0 22 2 ([(1,.pv (iV id)),(2,.pp 1 0),(5,.pv (iV ((0:Nat):Int)))]) ([(1,0,.ls 0 l.length),(0,0,qan l)]) (.ret) ([(4,.pv (iV (k:Int)))]) ([])) :
 Fn 43 1 [qax 0 l,.pv (iV (id))] [(0,0,qan l)] (.pv (iV (k:Int))) 0 []:=
 Fz [] [Lf r0]
  tI (Lo r0 [] tI)
end Go.Proofs.Ytalnjplghagbpaa

namespace Go.Proofs.Ytalnjplghagbpaa
set_option maxRecDepth 100000
open Go.RowKit
theorem qg4 {l:List Pt} {k:Nat} {p:Pt} (hk:l[k]?=some p) (hin:0≤(k:Int)∧(k:Int)<(l.length:Int)) (hlt:decide ((k:Int)<(l.length:Int))=true) (hc:Pure Try.prog 99 #[qab p.id p.a p.b] (iV (0))) (hs:iV (IntKind.i64.wrap ((k:Int)+1))=iV (((k+1:Nat):Int))) {e:Exit} {tm2:TmL} {hp2:HpL}
 (r:Rl 1 1 75 0 44 2 ([(1,.pp 1 0),(3,.pv (iV ((k+1:Nat):Int)))]) ([(1,0,.ls 0 l.length),(0,0,qan l)]) e tm2 hp2):Rl 1 1 75 0 44 2 ([(1,.pp 1 0),(3,.pv (iV (k:Int)))]) ([(1,0,.ls 0 l.length),(0,0,qan l)]) e tm2 hp2:=
 RunsL.next [] 300 [.t true,.r (ptV p),Rf hc,.k,Re hs]
  (Ro (Ai hlt (Ai hin (Ai (qa0 hk) (Ai hc (Ai hs tI)))))) r
theorem qnC {l:List Pt} {k:Nat} {p:Pt} (hk:l[k]?=some p) (hin:0≤(k:Int)∧(k:Int)<(l.length:Int)) (hlt:decide ((k:Int)<(l.length:Int))=true) (hc:Pure Try.prog 99 #[qab p.id p.a p.b] (iV (8))):Rl 1 1 75 0 44 2 ([(1,.pp 1 0),(3,.pv (iV (k:Int)))]) ([(1,0,.ls 0 l.length),(0,0,qan l)]) (.ret) ([(2,.pv (iV 8))]) ([]):=
 RunsL.stop [] 300 [.t true,.r (ptV p),Rf hc,.k] (fun h=>by cases h)
  (Ro (Ai hlt (Ai hin (Ai (qa0 hk) (Ai hc tI)))))
theorem qoQ {l:List Pt} {k:Nat} (hge:decide ((k:Int)<(l.length:Int))=false):Rl 1 1 75 0 44 2 ([(1,.pp 1 0),(3,.pv (iV (k:Int)))]) ([(1,0,.ls 0 l.length),(0,0,qan l)]) (.exit 0) ([(1,.pp 1 0)]) ([(1,0,.ls 0 l.length),(0,0,qan l)]):=
 RunsL.stop [] 300 [.t false] (fun h=>by cases h)
  (Ro (Ai hge tI))
theorem qgJ {l:List Pt} {k:Nat} {p q:Pt} (hq:l[k]?=some q) (hk:l[k+1]?=some p) (hi0:0≤(k:Int)∧(k:Int)<(l.length:Int)) (hi1:0≤((k+1:Nat):Int)∧((k+1:Nat):Int)<(l.length:Int)) (hlt:decide (((k+1:Nat):Int)<(l.length:Int))=true) (hm:iV (IntKind.i64.wrap (((k+1:Nat):Int)-1))=iV (k:Int)) (hg:decide (q.id≥p.id)=false) (hs:iV (IntKind.i64.wrap (((k+1:Nat):Int)+1))=iV (((k+1+1:Nat):Int))) {e:Exit} {tm2:TmL} {hp2:HpL}
 (r:Rl 1 1 75 1 44 2 ([(1,.pp 1 0),(4,.pv (iV ((k+1+1:Nat):Int)))]) ([(1,0,.ls 0 l.length),(0,0,qan l)]) e tm2 hp2):Rl 1 1 75 1 44 2 ([(1,.pp 1 0),(4,.pv (iV ((k+1:Nat):Int)))]) ([(1,0,.ls 0 l.length),(0,0,qan l)]) e tm2 hp2:=
 RunsL.next [] 300 [.t true,.r (iV (k:Int)),.r (iV q.id),.r (iV p.id),.t false,.r (iV (((k+1+1:Nat):Int)))]
  (Ro (Ai hlt (Ai hm (Ai hi0 (Ai (qa3 hq) (Ai hi1 (Ai (qa3 hk) (Ai hg (Ai hs tI))))))))) r
theorem qnO {l:List Pt} {k:Nat} {p q:Pt} (hq:l[k]?=some q) (hk:l[k+1]?=some p) (hi0:0≤(k:Int)∧(k:Int)<(l.length:Int)) (hi1:0≤((k+1:Nat):Int)∧((k+1:Nat):Int)<(l.length:Int)) (hlt:decide (((k+1:Nat):Int)<(l.length:Int))=true) (hm:iV (IntKind.i64.wrap (((k+1:Nat):Int)-1))=iV (k:Int)) (hg:decide (q.id≥p.id)=true):Rl 1 1 75 1 44 2 ([(1,.pp 1 0),(4,.pv (iV ((k+1:Nat):Int)))]) ([(1,0,.ls 0 l.length),(0,0,qan l)]) (.ret) ([(2,.pv (iV 32))]) ([]):=
 RunsL.stop [] 300 [.t true,.r (iV (k:Int)),.r (iV q.id),.r (iV p.id),.t true] (fun h=>by cases h)
  (Ro (Ai hlt (Ai hm (Ai hi0 (Ai (qa3 hq) (Ai hi1 (Ai (qa3 hk) (Ai hg tI))))))))
theorem qkp {l:List Pt} {k:Nat} (hge:decide (((k:Nat):Int)<(l.length:Int))=false):Rl 1 1 75 1 44 2 ([(1,.pp 1 0),(4,.pv (iV ((k:Nat):Int)))]) ([(1,0,.ls 0 l.length),(0,0,qan l)]) (.exit 2) ([]) ([]):=
 RunsL.stop [] 300 [.t false] (fun h=>by cases h)
  (Ro (Ai hge tI))
theorem qpt {l:List Pt} (h64:decide ((l.length:Int)>64)=true) :
 Fn 75 1 [qax 0 l] [(0,0,qan l)] (.pv (iV 4)) 0 []:=
 Fz [] [.t true]
  tI (Ai h64 tI)
theorem qqp {l:List Pt} (h64:decide ((l.length:Int)>64)=false) (r0:Rl 1 1 75 0 44 2 ([(1,.pp 1 0),(3,.pv (iV (((0:Nat):Int):Int)))]) ([(1,0,.ls 0 l.length),(0,0,qan l)]) (.ret) ([(2,.pv (iV 8))]) ([])) :
 Fn 75 1 [qax 0 l] [(0,0,qan l)] (.pv (iV 8)) 0 []:=
 Fz [] [.t false,Lf r0]
  tI (Ai h64 (Lo r0 [] tI))
abbrev qtJ (l:List Pt):Prop:=Rl 1 1 75 0 44 2 ([(1,.pp 1 0),(3,.pv (iV (((0:Nat):Int):Int)))]) ([(1,0,.ls 0 l.length),(0,0,qan l)]) (.exit 0) ([(1,.pp 1 0)]) ([(1,0,.ls 0 l.length),(0,0,qan l)])
theorem qqY {l:List Pt} (h64:decide ((l.length:Int)>64)=false) (r0:qtJ l) (r1:Rl 1 1 75 1 44 2 ([(1,.pp 1 0),(4,.pv (iV (((0+1:Nat):Int):Int)))]) ([(1,0,.ls 0 l.length),(0,0,qan l)]) (.ret) ([(2,.pv (iV 32))]) ([])) :
 Fn 75 1 [qax 0 l] [(0,0,qan l)] (.pv (iV 32)) 0 []:=
 Fz [] [.t false,Lf r0,Lf r1]
  tI (Ai h64 (Lo r0 [] (Lo r1 [] tI)))
theorem qsv {l:List Pt} (h64:decide ((l.length:Int)>64)=false) (r0:qtJ l) (r1:Rl 1 1 75 1 44 2 ([(1,.pp 1 0),(4,.pv (iV (((0+1:Nat):Int):Int)))]) ([(1,0,.ls 0 l.length),(0,0,qan l)]) (.exit 2) ([]) ([])) :
 Fn 75 1 [qax 0 l] [(0,0,qan l)] (.pv (iV 0)) 0 []:=
 Fz [] [.t false,Lf r0,Lf r1]
  tI (Ai h64 (Lo r0 [] (Lo r1 [] tI)))
end Go.Proofs.Ytalnjplghagbpaa

namespace Go.Proofs.Ytalnjplghagbpaa
set_option maxRecDepth 100000
open Go.RowKit
abbrev qsA (k:Nat) (l:List Pt):TmL:=[(1,.pp 1 0),(12,.ls 0 l.length),(13,.pv (iV (l.length:Int))),(14,.pv (iV (k:Int)))]
theorem qgO {l:List Pt} {k:Nat} {p:Pt} (hk:l[k]?=some p) (hin:0≤(k:Int)∧(k:Int)<(l.length:Int)) (hlt:decide ((k:Int)<(l.length:Int))=true) (hc:Pure Try.prog 84 #[qab p.id p.a p.b] (iV (0))) (hs:iV (IntKind.i64.wrap ((k:Int)+1))=iV (((k+1:Nat):Int))) {e:Exit} {tm2:TmL} {hp2:HpL}
 (r:Rl 1 1 47 0 45 2 ([(1,.pp 1 0),(12,.ls 0 l.length),(13,.pv (iV (l.length:Int))),(14,.pv (iV ((k+1:Nat):Int)))]) ([(1,0,.ls 0 l.length),(0,0,qan l)]) e tm2 hp2):Rl 1 1 47 0 45 2 (qsA k l) ([(1,0,.ls 0 l.length),(0,0,qan l)]) e tm2 hp2:=
 RunsL.next [] 300 [.t true,.r (ptV p),Rf hc,.k,Re hs]
  (Ro (Ai hlt (Ai hin (Ai (qa0 hk) (Ai hc (Ai hs tI)))))) r
theorem qnK {l:List Pt} {k:Nat} {p:Pt} (hk:l[k]?=some p) (hin:0≤(k:Int)∧(k:Int)<(l.length:Int)) (hlt:decide ((k:Int)<(l.length:Int))=true) (hc:Pure Try.prog 84 #[qab p.id p.a p.b] (iV (8))):Rl 1 1 47 0 45 2 (qsA k l) ([(1,0,.ls 0 l.length),(0,0,qan l)]) (.ret) ([(2,.pv (iV 8))]) ([]):=
 RunsL.stop [] 300 [.t true,.r (ptV p),Rf hc,.k] (fun h=>by cases h)
  (Ro (Ai hlt (Ai hin (Ai (qa0 hk) (Ai hc tI)))))
theorem qoc {l:List Pt} {k:Nat} (hge:decide ((k:Int)<(l.length:Int))=false):Rl 1 1 47 0 45 2 (qsA k l) ([(1,0,.ls 0 l.length),(0,0,qan l)]) (.exit 0) ([(1,.pp 1 0)]) ([(1,0,.ls 0 l.length),(0,0,qan l)]):=
 RunsL.stop [] 300 [.t false] (fun h=>by cases h)
  (Ro (Ai hge tI))
theorem qgA {l:List Pt} {k:Nat} {p q:Pt} (hq:l[k]?=some q) (hk:l[k+1]?=some p) (hi0:0≤(k:Int)∧(k:Int)<(l.length:Int)) (hi1:0≤((k+1:Nat):Int)∧((k+1:Nat):Int)<(l.length:Int)) (hlt:decide (((k+1:Nat):Int)<(l.length:Int))=true) (hm:iV (IntKind.i64.wrap (((k+1:Nat):Int)-1))=iV (k:Int)) (hg:decide (q.id≥p.id)=false) (hs:iV (IntKind.i64.wrap (((k+1:Nat):Int)+1))=iV (((k+1+1:Nat):Int))) {e:Exit} {tm2:TmL} {hp2:HpL}
 (r:Rl 1 1 47 1 45 2 ([(1,.pp 1 0),(6,.pv (iV ((k+1+1:Nat):Int)))]) ([(1,0,.ls 0 l.length),(0,0,qan l)]) e tm2 hp2):Rl 1 1 47 1 45 2 ([(1,.pp 1 0),(6,.pv (iV ((k+1:Nat):Int)))]) ([(1,0,.ls 0 l.length),(0,0,qan l)]) e tm2 hp2:=
 RunsL.next [] 300 [.t true,.r (iV (k:Int)),.r (iV q.id),.r (iV p.id),.t false,.r (iV (((k+1+1:Nat):Int)))]
  (Ro (Ai hlt (Ai hm (Ai hi0 (Ai (qa3 hq) (Ai hi1 (Ai (qa3 hk) (Ai hg (Ai hs tI))))))))) r
theorem qof {l:List Pt} {k:Nat} {p q:Pt} (hq:l[k]?=some q) (hk:l[k+1]?=some p) (hi0:0≤(k:Int)∧(k:Int)<(l.length:Int)) (hi1:0≤((k+1:Nat):Int)∧((k+1:Nat):Int)<(l.length:Int)) (hlt:decide (((k+1:Nat):Int)<(l.length:Int))=true) (hm:iV (IntKind.i64.wrap (((k+1:Nat):Int)-1))=iV (k:Int)) (hg:decide (q.id≥p.id)=true):Rl 1 1 47 1 45 2 ([(1,.pp 1 0),(6,.pv (iV ((k+1:Nat):Int)))]) ([(1,0,.ls 0 l.length),(0,0,qan l)]) (.ret) ([(2,.pv (iV 32))]) ([]):=
 RunsL.stop [] 300 [.t true,.r (iV (k:Int)),.r (iV q.id),.r (iV p.id),.t true] (fun h=>by cases h)
  (Ro (Ai hlt (Ai hm (Ai hi0 (Ai (qa3 hq) (Ai hi1 (Ai (qa3 hk) (Ai hg tI))))))))
theorem qiq {l:List Pt} {k:Nat} (hge:decide ((k:Int)<(l.length:Int))=false):Rl 1 1 47 1 45 2 ([(1,.pp 1 0),(6,.pv (iV ((k:Nat):Int)))]) ([(1,0,.ls 0 l.length),(0,0,qan l)]) (.exit 2) ([]) ([]):=
 RunsL.stop [] 300 [.t false] (fun h=>by cases h)
  (Ro (Ai hge tI))
theorem qnW {l:List Pt} (h64:decide ((l.length:Int)>64)=true) :
 Fn 47 1 [qax 0 l] [(0,0,qan l)] (.pv (iV (4))) 0 []:=
 Fz [] [.t true]
  tI (Ai h64 tI)
theorem qqL {l:List Pt} (h64:decide ((l.length:Int)>64)=false) (r0:Rl 1 1 47 0 45 2 ([(1,.pp 1 0),(12,.ls 0 l.length),(13,.pv (iV (l.length:Int))),(14,.pv (iV ((0:Nat):Int)))]) ([(1,0,.ls 0 l.length),(0,0,qan l)]) (.ret) ([(2,.pv (iV 8))]) ([])) :
 Fn 47 1 [qax 0 l] [(0,0,qan l)] (.pv (iV (8))) 0 []:=
 Fz [] [.t false,Lf r0]
  tI (Ai h64 (Lo r0 [] tI))
abbrev qtE (l:List Pt):Prop:=Rl 1 1 47 0 45 2 ([(1,.pp 1 0),(12,.ls 0 l.length),(13,.pv (iV (l.length:Int))),(14,.pv (iV ((0:Nat):Int)))]) ([(1,0,.ls 0 l.length),(0,0,qan l)]) (.exit 0) ([(1,.pp 1 0)]) ([(1,0,.ls 0 l.length),(0,0,qan l)])
theorem qqZ {l:List Pt} (h64:decide ((l.length:Int)>64)=false) (r0:qtE l) (r1:Rl 1 1 47 1 45 2 ([(1,.pp 1 0),(6,.pv (iV ((0+1:Nat):Int)))]) ([(1,0,.ls 0 l.length),(0,0,qan l)]) (.ret) ([(2,.pv (iV 32))]) ([])) :
 Fn 47 1 [qax 0 l] [(0,0,qan l)] (.pv (iV (32))) 0 []:=
 Fz [] [.t false,Lf r0,Lf r1]
  tI (Ai h64 (Lo r0 [] (Lo r1 [] tI)))
theorem qso {l:List Pt} (h64:decide ((l.length:Int)>64)=false) (r0:qtE l) (r1:Rl 1 1 47 1 45 2 ([(1,.pp 1 0),(6,.pv (iV ((0+1:Nat):Int)))]) ([(1,0,.ls 0 l.length),(0,0,qan l)]) (.exit 2) ([]) ([])) :
 Fn 47 1 [qax 0 l] [(0,0,qan l)] (.pv (iV (0))) 0 []:=
 Fz [] [.t false,Lf r0,Lf r1]
  tI (Ai h64 (Lo r0 [] (Lo r1 [] tI)))
end Go.Proofs.Ytalnjplghagbpaa
