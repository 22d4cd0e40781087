/-
  Joined: Rt, Cu, Ct, Cv, Fa, Fd, Fi. Conditions: none.
-/
import Derived.Test.YtalnjplghagbpaaW20
import Derived.Test.YtalnjplghagbpaaW19
import Derived.Test.YtalnjplghagbpaaW22
namespace Go.Proofs.Ytalnjplghagbpaa
set_option maxRecDepth 100000
open Go.RowKit
theorem qvi (x y:Nat):Int.tdiv (x:Int) (y:Int)=((x/y:Nat):Int):=by rw[Int.tdiv_eq_ediv_of_nonneg (Int.natCast_nonneg x)];simp
theorem quS (x y:Nat):Int.tmod (x:Int) (y:Int)=((x%y:Nat):Int):=by rw[Int.tmod_eq_emod_of_nonneg (Int.natCast_nonneg x)];simp
theorem qrG (x:Nat) (h:x<18446744073709551616):Value.int .u64 (IntKind.u64.wrap (Int.tdiv (x:Int) 4294967296))=.int .u64 ((x/4294967296:Nat):Int):=by
 rw[show (4294967296:Int)=((4294967296:Nat):Int) from rfl,qvi,qeI (by omega) (by omega)]
theorem qsu (x:Nat):Value.int .u64 (Int.tmod (x:Int) 4294967296)=.int .u64 ((x%4294967296:Nat):Int):=by
 rw[show (4294967296:Int)=((4294967296:Nat):Int) from rfl,quS]
theorem qus {x y:Nat} (h:x*y<18446744073709551616):Value.int .u64 (IntKind.u64.wrap ((x:Int)*(y:Int)))=.int .u64 ((x*y:Nat):Int):=qfo (by simp) (Int.natCast_nonneg _) (by omega)
theorem qqJ {x y:Nat} (h:x+y<18446744073709551616):Value.int .u64 (IntKind.u64.wrap ((x:Int)+(y:Int)))=.int .u64 ((x+y:Nat):Int):=qfo (by simp) (by omega) (by omega)
theorem halves (ah al bh bl:Nat):(ah*4294967296+al)*(bh*4294967296+bl)=ah*bh*18446744073709551616+(ah*bl+al*bh)*4294967296+al*bl:=by
 have e1:ah*4294967296*(bh*4294967296)=ah*bh*18446744073709551616:=Nat.mul_mul_mul_comm ah 4294967296 bh 4294967296
 have e2:ah*4294967296*bl=ah*bl*4294967296:=Nat.mul_right_comm ah 4294967296 bl
 have e3:al*(bh*4294967296)=al*bh*4294967296:=(Nat.mul_assoc al bh 4294967296).symm
 rw[Nat.add_mul,Nat.mul_add,Nat.mul_add,e1,e2,e3,Nat.add_mul]
 omega
theorem qkr (a b:Nat) (ha:a<18446744073709551616) (hb:b<18446744073709551616):Pure Try.prog 137 #[.int .u64 a,.int .u64 b] (qi8 false (a*b)):=by
 obtain⟨ah,hah⟩:∃ x,x=a/4294967296:=⟨_,rfl⟩
 obtain⟨al,hal⟩:∃ x,x=a%4294967296:=⟨_,rfl⟩
 obtain⟨bh,hbh⟩:∃ x,x=b/4294967296:=⟨_,rfl⟩
 obtain⟨bl,hbl⟩:∃ x,x=b%4294967296:=⟨_,rfl⟩
 have e1:a=ah*4294967296+al:=by omega
 have e2:b=bh*4294967296+bl:=by omega
 have key:=halves ah al bh bl
 rw[← e1,← e2] at key
 have m1:ah*bl≤4294967295*4294967295:=Nat.mul_le_mul (by omega) (by omega)
 have m2:al*bh≤4294967295*4294967295:=Nat.mul_le_mul (by omega) (by omega)
 have m3:ah*bh≤4294967295*4294967295:=Nat.mul_le_mul (by omega) (by omega)
 have m4:al*bl≤4294967295*4294967295:=Nat.mul_le_mul (by omega) (by omega)
 have hab:a*b<340282366920938463463374607431768211456:=by
  have:a*b≤18446744073709551615*18446744073709551615:=Nat.mul_le_mul (by omega) (by omega)
  omega
 have x1:=qus (x:=al) (y:=bl) (by omega)
 have x2:=qus (x:=ah) (y:=bl) (by omega)
 have x4:=qus (x:=al) (y:=bh) (by omega)
 have x6:=qus (x:=ah) (y:=bh) (by omega)
 have q1:=qrG a ha
 have q2:=qsu a
 have q3:=qrG b hb
 have q4:=qsu b
 rw[← hah] at q1
 rw[← hal] at q2
 rw[← hbh] at q3
 rw[← hbl] at q4
 generalize ah*bl=p1 at *
 generalize al*bh=p2 at *
 generalize ah*bh=p3 at *
 generalize al*bl=low at *
 generalize a*b=ab at *
 obtain⟨m,hm⟩:∃ m,m=p1+low/4294967296:=⟨_,rfl⟩
 obtain⟨n,hn⟩:∃ n,n=p2+m%4294967296:=⟨_,rfl⟩
 have r:=qic (nz:=by decide) q1 q2 q3 q4 x1 x2 (qrG low (by omega)) (qqJ (by omega)) x4 (qsu _) (qqJ (by omega)) x6 (qrG _ (by omega)) (qqJ (by omega)) (qrG _ (by omega)) (qqJ (by omega))
  (qsu _) (qfo (y:=((n%4294967296*4294967296:Nat):Int)) (by rw[hn,hm];simp) (by omega) (by omega)) (qsu _) (qqJ (by omega))
 rw[← hm,← hn] at r
 have f1:p3+m/4294967296+n/4294967296=ab/18446744073709551616:=by omega
 have f2:n%4294967296*4294967296+low%4294967296=ab%18446744073709551616:=by omega
 rw[f1,f2] at r
 exact r
abbrev qg4 (x:Int):Value:=qi8 (decide (x<0)) x.natAbs
theorem qfw (n:Int) (h:I64 n):Pure Try.prog 101 #[iV n] (.int .u64 (n.natAbs:Int)):=
 fun w=>(qeu n w h.1 h.2).mono fun _ _ ⟨h1,h2⟩=>⟨h1,Gr.of_eq h2⟩
theorem qaI {p:Prop} [Decidable p] (h:p):decide p=true:=by simp[h]
theorem qaC {p:Prop} [Decidable p] (h:¬ p):decide p=false:=by simp[h]
theorem qdg (a b:Int) (ha:I64 a) (hb:I64 b):Pure Try.prog 129 #[iV a,iV b] (qg4 (a*b)):=by
 have ca:=qfw a ha
 have cb:=qfw b hb
 unfold I64 at ha hb
 have cp:=qkr a.natAbs b.natAbs (by omega) (by omega)
 unfold qg4
 rw[Int.natAbs_mul]
 by_cases sa:a<0<;>by_cases sb:b<0
 ·rw[qaC (show ¬ a*b<0 by have:=Int.mul_pos_of_neg_of_neg sa sb;omega)]
  exact qiW ca cb cp (qaI sa) (qaI sb)
 ·by_cases nb:b=0
  ·subst nb
   rw[qaC (by simp)]
   exact qiv ca cb cp (qaI sa) (qaC sb) (by simp;omega) (by simp)
  ·rw[qaI (Int.mul_neg_of_neg_of_pos sa (by omega))]
   exact qie ca cb cp (qaI sa) (qaC sb) (by simp;omega) (by simpa using nb)
 ·by_cases na:a=0
  ·subst na
   rw[qaC (by simp)]
   exact qii ca cb cp (qaC sa) (qaI sb) (by simp)
  ·rw[qaI (Int.mul_neg_of_pos_of_neg (by omega) sb)]
   exact qiT ca cb cp (qaC sa) (qaI sb) (by simpa using na) (by simp;omega)
 ·rw[qaC (show ¬ a*b<0 by have:=Int.mul_nonneg (show 0≤a by omega) (show 0≤b by omega);omega)]
  exact qiM ca cb cp (qaC sa) (qaC sb)
theorem qjx (x:Int):Pure Try.prog 127 #[qg4 x] (iV x.sign):=by
 unfold qg4
 obtain⟨A,hA⟩:∃ A,A=x.natAbs:=⟨_,rfl⟩
 rw[← hA]
 by_cases h0:x=0
 ·subst h0
  subst hA
  exact qqO (by simp) (by simp)
 ·by_cases hs:x<0
  ·rw[qaI hs,Int.sign_eq_neg_one_of_neg hs]
   by_cases hh:A/18446744073709551616=0
   ·exact qm8 (by simp[hh]) (by simp;omega)
   ·exact qlD (by simp;omega)
  ·rw[qaC hs,Int.sign_eq_one_of_pos (by omega)]
   by_cases hh:A/18446744073709551616=0
   ·exact qng (by simp[hh]) (by simp;omega)
   ·exact qlJ (by simp;omega)
def qf8 (A B:Nat):Int:=if A<B then -1 else if A=B then 0 else 1
theorem qfA (s t:Bool) (A B:Nat):Pure Try.prog 135 #[qi8 s A,qi8 t B] (iV (qf8 A B)):=by
 by_cases hh:A/18446744073709551616=B/18446744073709551616
 ·by_cases hl:A%18446744073709551616=B%18446744073709551616
  ·have e:A=B:=by omega
   subst e
   rw[show qf8 A A=0 by simp[qf8]]
   exact qno (by simp) (by simp)
  ·by_cases hlt:A%18446744073709551616<B%18446744073709551616
   ·rw[show qf8 A B = -1 by unfold qf8;rw[if_pos (by omega)]]
    exact qnb (by simp[hh]) (by simp;omega) (by simp;omega)
   ·rw[show qf8 A B=1 by unfold qf8;rw[if_neg (by omega),if_neg (by omega)]]
    exact ql9 (by simp[hh]) (by simp;omega) (by simp;omega)
 ·by_cases hlt:A/18446744073709551616<B/18446744073709551616
  ·rw[show qf8 A B = -1 by unfold qf8;rw[if_pos (by omega)]]
   exact qnz (by simp;omega) (by simp;omega)
  ·rw[show qf8 A B=1 by unfold qf8;rw[if_neg (by omega),if_neg (by omega)]]
   exact qnF (by simp;omega) (by simp;omega)
theorem qgX {x y:Nat} (h:x<y) (hy:y<18446744073709551616):Value.int .u64 (IntKind.u64.wrap ((x:Int)-(y:Int)))=.int .u64 ((18446744073709551616+x-y:Nat):Int):=by
 rw[IntKind.wrap_u64];congr 1;omega
theorem qdA (s t:Bool) (A B:Nat) (hA:A<340282366920938463463374607431768211456) (h:B≤A):Pure Try.prog 136 #[qi8 s A,qi8 t B] (qi8 false (A-B)):=by
 obtain⟨a1,ha1⟩:∃ x,x=A/18446744073709551616:=⟨_,rfl⟩
 obtain⟨a0,ha0⟩:∃ x,x=A%18446744073709551616:=⟨_,rfl⟩
 obtain⟨b1,hb1⟩:∃ x,x=B/18446744073709551616:=⟨_,rfl⟩
 obtain⟨b0,hb0⟩:∃ x,x=B%18446744073709551616:=⟨_,rfl⟩
 unfold qi8
 rw[← ha1,← ha0,← hb1,← hb0]
 have hs:Value.int .u64 (IntKind.u64.wrap ((a1:Int)-(b1:Int)))=.int .u64 ((a1-b1:Nat):Int):=qfo (by omega) (by omega) (by omega)
 by_cases hl:a0<b0
 ·rw[show (A-B)/18446744073709551616=a1-b1-1 by omega,show (A-B)%18446744073709551616=18446744073709551616+a0-b0 by omega]
  exact qtc hs (qgX hl (by omega)) (by simp;omega) (qfo (by omega) (by omega) (by omega))
 ·rw[show (A-B)/18446744073709551616=a1-b1 by omega,show (A-B)%18446744073709551616=a0-b0 by omega]
  exact qs0 hs (qfo (by omega) (by omega) (by omega)) (by simp;omega)
theorem qgO {x y z:Nat} (h:x+y=z+18446744073709551616) (hz:z<18446744073709551616):Value.int .u64 (IntKind.u64.wrap ((x:Int)+(y:Int)))=.int .u64 (z:Int):=by
 rw[IntKind.wrap_u64,show ((x:Int)+(y:Int))%18446744073709551616=(z:Int) by omega]
theorem qsa (s:Bool) (A B:Nat) (h:A+B<340282366920938463463374607431768211456):Pure Try.prog 128 #[qi8 s A,qi8 s B] (qi8 s (A+B)):=by
 obtain⟨a1,ha1⟩:∃ x,x=A/18446744073709551616:=⟨_,rfl⟩
 obtain⟨a0,ha0⟩:∃ x,x=A%18446744073709551616:=⟨_,rfl⟩
 obtain⟨b1,hb1⟩:∃ x,x=B/18446744073709551616:=⟨_,rfl⟩
 obtain⟨b0,hb0⟩:∃ x,x=B%18446744073709551616:=⟨_,rfl⟩
 unfold qi8
 rw[← ha1,← ha0,← hb1,← hb0]
 have hh:Value.int .u64 (IntKind.u64.wrap ((a1:Int)+(b1:Int)))=.int .u64 ((a1+b1:Nat):Int):=qqJ (by omega)
 by_cases hl:a0+b0<18446744073709551616
 ·have l1:=qqJ hl
  rw[show (A+B)/18446744073709551616=a1+b1 by omega,show (A+B)%18446744073709551616=a0+b0 by omega]
  cases s
  ·exact qkK hh l1 (qaC (by omega))
  ·exact qkh hh l1 (qaC (by omega))
 ·obtain⟨z,hz⟩:∃ z,a0+b0=z+18446744073709551616:=⟨a0+b0-18446744073709551616,by omega⟩
  have l1:=qgO hz (by omega)
  rw[show (A+B)/18446744073709551616=a1+b1+1 by omega,show (A+B)%18446744073709551616=z by omega]
  cases s
  ·exact qkN hh l1 (qaI (by omega)) (qfo (by omega) (by omega) (by omega))
  ·exact qk1 hh l1 (qaI (by omega)) (qfo (by omega) (by omega) (by omega))
theorem qkQ (x y:Int) (hx:x.natAbs<170141183460469231731687303715884105728) (hy:y.natAbs<170141183460469231731687303715884105728):Pure Try.prog 128 #[qg4 x,qg4 y] (qg4 (x+y)):=by
 unfold qg4
 by_cases sx:x<0<;>by_cases sy:y<0
 ·rw[qaI sx,qaI sy,qaI (show x+y<0 by omega),show (x+y).natAbs=x.natAbs+y.natAbs by omega]
  exact qsa true _ _ (by omega)
 ·rw[qaI sx,qaC sy]
  have cl:=qfA true false x.natAbs y.natAbs
  by_cases hc:y.natAbs≤x.natAbs
  ·have cm:=qdA true false x.natAbs y.natAbs (by omega) hc
   rw[show (x+y).natAbs=x.natAbs-y.natAbs by omega]
   have hge:decide (qf8 x.natAbs y.natAbs≥0)=true:=by unfold qf8;rw[if_neg (by omega)];split<;>decide
   obtain⟨D,hD⟩:∃ D,D=x.natAbs-y.natAbs:=⟨_,rfl⟩
   rw[← hD] at cm ⊢
   by_cases hd:D=0
   ·rw[qaC (show ¬ x+y<0 by omega)]
    exact qlc cl hge cm (by simp[hd]) (by simp[hd])
   ·rw[qaI (show x+y<0 by omega)]
    by_cases hh:D/18446744073709551616=0
    ·exact qjA cl hge cm (by simp[hh]) (by simp;omega)
    ·exact qjM cl hge cm (by simp;omega)
  ·have cm:=qdA false true y.natAbs x.natAbs (by omega) (by omega)
   rw[show (x+y).natAbs=y.natAbs-x.natAbs by omega,qaC (show ¬ x+y<0 by omega)]
   exact qnq cl (by unfold qf8;rw[if_pos (by omega)];decide) cm
 ·rw[qaC sx,qaI sy]
  have cl:=qfA false true x.natAbs y.natAbs
  by_cases hc:y.natAbs≤x.natAbs
  ·have cm:=qdA false true x.natAbs y.natAbs (by omega) hc
   rw[show (x+y).natAbs=x.natAbs-y.natAbs by omega,qaC (show ¬ x+y<0 by omega)]
   exact qnc cl (by unfold qf8;rw[if_neg (by omega)];split<;>decide) cm
  ·have cm:=qdA true false y.natAbs x.natAbs (by omega) (by omega)
   rw[show (x+y).natAbs=y.natAbs-x.natAbs by omega,qaI (show x+y<0 by omega)]
   exact qlZ cl (by unfold qf8;rw[if_pos (by omega)];decide) cm
 ·rw[qaC sx,qaC sy,qaC (show ¬ x+y<0 by omega),show (x+y).natAbs=x.natAbs+y.natAbs by omega]
  exact qsa false _ _ (by omega)
end Go.Proofs.Ytalnjplghagbpaa

namespace Go.Proofs.Ytalnjplghagbpaa
set_option maxRecDepth 100000
open Go.RowKit
theorem qnQ {pi pa pb qi qa qb n d u v x y s:Int} (v1:iV (IntKind.i64.wrap (pa-qa))=iV u) (c1:Pure Try.prog 129 #[iV u,iV d] (qg4 x)) (v2:iV (IntKind.i64.wrap (pb-qb))=iV v) (c2:Pure Try.prog 129 #[iV v,iV n] (qg4 y)) (c3:Pure Try.prog 128 #[qg4 x,qg4 y] (qg4 s)) (c4:Pure Try.prog 127 #[qg4 s] (iV s.sign)) :
 Pure Try.prog 120 #[qab pi pa pb,qab qi qa qb,qaa n d] (iV s.sign):=
 qae (args:=[qab pi pa pb,qab qi qa qb,qaa n d]) 200 [Re v1,Rf c1,Re v2,Rf c2,Rf c3,Rf c4]
  (Ai rfl (Ai v1 (Ai c1 (Ai v2 (Ai c2 (Ai c3 (Ai c4 tI))))))) (by kernel_rfl)
abbrev qq9 (d:Int) (f:Int) (n:Int) (pa:Int) (pb:Int) (pi:Int) (qa:Int) (qb:Int) (qi:Int):Prop:=Pure Try.prog 120 #[qab pi pa pb,qab qi qa qb,qaa n d] (iV f)
theorem qgT {pi pa pb qi qa qb n d f:Int} (c:qq9 d f n pa pb pi qa qb qi) (z:(f !=0)=true) (g:decide (f>0)=true) :
 Pure Try.prog 111 #[qab pi pa pb,qab qi qa qb,qaa n d] (.bool true):=
 qae (args:=[qab pi pa pb,qab qi qa qb,qaa n d]) 200 [Rf c,.t true,.t true]
  (Ai rfl (Ai c (Ai z (Ai g tI)))) (by kernel_rfl)
theorem qlu {pi pa pb qi qa qb n d f:Int} (c:qq9 d f n pa pb pi qa qb qi) (z:(f !=0)=false) (bb:(pb !=qb)=true) (g:decide (pb>qb)=true) :
 Pure Try.prog 111 #[qab pi pa pb,qab qi qa qb,qaa n d] (.bool true):=
 qae (args:=[qab pi pa pb,qab qi qa qb,qaa n d]) 200 [Rf c,.t false,.t true,.t true]
  (Ai rfl (Ai c (Ai z (Ai bb (Ai g tI))))) (by kernel_rfl)
theorem qkd {pi pa pb qi qa qb n d f:Int} (c:qq9 d f n pa pb pi qa qb qi) (z:(f !=0)=false) (bb:(pb !=qb)=false) (g:decide (pi<qi)=true) :
 Pure Try.prog 111 #[qab pi pa pb,qab qi qa qb,qaa n d] (.bool true):=
 qae (args:=[qab pi pa pb,qab qi qa qb,qaa n d]) 200 [Rf c,.t false,.t false,.t true]
  (Ai rfl (Ai c (Ai z (Ai bb (Ai g tI))))) (by kernel_rfl)
theorem qgq {pi pa pb qi qa qb n d f:Int} (c:qq9 d f n pa pb pi qa qb qi) (z:(f !=0)=true) (g:decide (f>0)=false) :
 Pure Try.prog 111 #[qab pi pa pb,qab qi qa qb,qaa n d] (.bool false):=
 qae (args:=[qab pi pa pb,qab qi qa qb,qaa n d]) 200 [Rf c,.t true,.t false]
  (Ai rfl (Ai c (Ai z (Ai g tI)))) (by kernel_rfl)
theorem qjq {pi pa pb qi qa qb n d f:Int} (c:qq9 d f n pa pb pi qa qb qi) (z:(f !=0)=false) (bb:(pb !=qb)=true) (g:decide (pb>qb)=false) :
 Pure Try.prog 111 #[qab pi pa pb,qab qi qa qb,qaa n d] (.bool false):=
 qae (args:=[qab pi pa pb,qab qi qa qb,qaa n d]) 200 [Rf c,.t false,.t true,.t false]
  (Ai rfl (Ai c (Ai z (Ai bb (Ai g tI))))) (by kernel_rfl)
theorem qlt {pi pa pb qi qa qb n d f:Int} (c:qq9 d f n pa pb pi qa qb qi) (z:(f !=0)=false) (bb:(pb !=qb)=false) (g:decide (pi<qi)=false) :
 Pure Try.prog 111 #[qab pi pa pb,qab qi qa qb,qaa n d] (.bool false):=
 qae (args:=[qab pi pa pb,qab qi qa qb,qaa n d]) 200 [Rf c,.t false,.t false,.t false]
  (Ai rfl (Ai c (Ai z (Ai bb (Ai g tI))))) (by kernel_rfl)
theorem quc {pi pa pb qi qa qb n d:Int} (cp:Pure Try.prog 84 #[qab pi pa pb] (iV 0)) (cq:Pure Try.prog 84 #[qab qi qa qb] (iV 0)) (ct:Pure Try.prog 48 #[qaa n d] (iV 0)) (ci:Pure Try.prog 104 #[qab pi pa pb,qab qi qa qb] (iV 2)) :
 Pure Try.prog 79 #[qab pi pa pb,qab qi qa qb,qaa n d] (.tuple #[.bool false,iV 2]):=
 qae (args:=[qab pi pa pb,qab qi qa qb,qaa n d]) 200 [Rf cp,Rf cp,Rf cp,Rf ci,.k,.k,.k,.k,.k,.k,.k,.k,.k,.k,.k,.k,.k]
  (Ai rfl (Ai cp (Ai cq (Ai ct (Ai ci tI))))) (by kernel_rfl)
end Go.Proofs.Ytalnjplghagbpaa

namespace Go.Proofs.Ytalnjplghagbpaa
set_option maxRecDepth 100000
open Go.RowKit
theorem qqs (X:Int):(X.sign≥0)↔0≤X:=by
 rcases Int.lt_trichotomy X 0 with h | h | h
 ·rw[Int.sign_eq_neg_one_of_neg h];omega
 ·rw[h];decide
 ·rw[Int.sign_eq_one_of_pos h];omega
theorem qri {pi pa pb qi qa qb n d m k:Int} (k0:0<k) (h4:m*(pb-qb)=(qa-pa)*k) (hb:pb≠qb) :
 qbB (pa*d+pb*n) (qa*d+qb*n) pb qb pi qi=(decide (pb>qb)==decide ((n*k-m*d).sign≥0)):=by
 have key:(pa*d+pb*n-(qa*d+qb*n))*k=(pb-qb)*(n*k-m*d):=by
  have e1:(pb-qb)*(m*d)=(qa-pa)*k*d:=by rw[← h4,← Int.mul_assoc,Int.mul_comm (pb-qb) m]
  rw[Int.mul_sub,e1,Int.sub_mul,Int.add_mul,Int.add_mul,Int.sub_mul,Int.sub_mul,Int.sub_mul,← Int.mul_assoc,← Int.mul_assoc,Int.mul_right_comm qa k d,Int.mul_right_comm pa k d]
  omega
 have hs:=qqs (n*k-m*d)
 generalize n*k-m*d=X at *
 generalize pa*d+pb*n=P at *
 generalize qa*d+qb*n=Q at *
 have hk:((P-Q)*k<0↔P-Q<0)∧(0<(P-Q)*k↔0<P-Q):=by
  rcases Int.lt_trichotomy (P-Q) 0 with h | h | h
  ·have:=Int.mul_neg_of_neg_of_pos h k0;omega
  ·rw[h];simp
  ·have:=Int.mul_pos h k0;omega
 have hx:((pb-qb)*X<0↔(pb>qb∧X<0∨pb<qb∧0<X))∧(0<(pb-qb)*X↔(pb>qb∧0<X∨pb<qb∧X<0)):=by
  rcases Int.lt_trichotomy X 0 with h | h | h
  ·rcases Int.lt_or_gt_of_ne hb with g | g
   ·have:=Int.mul_pos_of_neg_of_neg (show pb-qb<0 by omega) h;omega
   ·have:=Int.mul_neg_of_pos_of_neg (show 0<pb-qb by omega) h;omega
  ·rw[h];simp
  ·rcases Int.lt_or_gt_of_ne hb with g | g
   ·have:=Int.mul_neg_of_neg_of_pos (show pb-qb<0 by omega) h;omega
   ·have:=Int.mul_pos (show 0<pb-qb by omega) h;omega
 rw[key] at hk
 by_cases g:pb>qb
 ·by_cases l:0≤X
  ·rw[dt g,dt (hs.2 l)];exact qbQ (by omega)
  ·rw[dt g,df (fun h=>l (hs.1 h))];exact qbY (by omega)
 ·by_cases l:0≤X
  ·rw[df g,dt (hs.2 l)];exact qbY (by omega)
  ·rw[df g,df (fun h=>l (hs.1 h))];exact qbQ (by omega)
theorem qrg {pi pa b qi qa n d:Int} (d0:0<d):qbB (pa*d+b*n) (qa*d+b*n) b b pi qi=qbB pa qa b b pi qi:=by
 have e:pa*d-qa*d=(pa-qa)*d:=(Int.sub_mul _ _ _).symm
 have hk:((pa-qa)*d<0↔pa-qa<0)∧(0<(pa-qa)*d↔0<pa-qa):=by
  rcases Int.lt_trichotomy (pa-qa) 0 with h | h | h
  ·have:=Int.mul_neg_of_neg_of_pos h d0;omega
  ·rw[h];simp
  ·have:=Int.mul_pos h d0;omega
 unfold qbB
 rw[← e] at hk
 exact decide_eq_decide.2 (by omega)
theorem qq6 {pi pa pb qi qa qb:Int} (h:pi≠qi):Pure Try.prog 104 #[qab pi pa pb,qab qi qa qb] (iV 0):=qru (by simp[h])
theorem qoz {pi pa pb qi qa qb:Int} (hp:okP pi pa pb=true) (hq:okP qi qa qb=true) (hb:pb≠qb) :
 ∃ m k,okB m k=true∧I64 m∧I64 k∧m*(pb-qb)=(qa-pa)*k∧Pure Try.prog 115 #[qab pi pa pb,qab qi qa qb] (qaa m k)∧Pure Try.prog 115 #[qab qi qa qb,qab pi pa pb] (qaa m k):=by
 obtain⟨m,k,h1,h2,h3,h4,h5⟩:=qc8 hp hq hb
 obtain⟨m',k',g1,g2,g3,g4,g5⟩:=qc8 hq hp (Ne.symm hb)
 have e:m*k'=m'*k:=by
  refine Int.eq_of_mul_eq_mul_right (show pb-qb≠0 by omega) ?_
  have a1:m*k'*(pb-qb)=(qa-pa)*k*k':=by rw[Int.mul_right_comm,h4]
  have a2:m'*k*(pb-qb) = -((pa-qa)*k'*k):=by
   rw[Int.mul_right_comm,← Int.neg_mul,← g4,← Int.mul_neg];congr 2;omega
  rw[a1,a2,← Int.neg_mul,← Int.neg_mul,Int.mul_right_comm (qa-pa) k k']
  congr 2;omega
 obtain⟨rfl,rfl⟩:=qld h1 g1 e
 exact⟨m,k,h1,h2,h3,h4,h5,g5⟩
end Go.Proofs.Ytalnjplghagbpaa

namespace Go.Proofs.Ytalnjplghagbpaa
set_option maxRecDepth 100000
open Go.RowKit
theorem qe7 {pi pa pb qi qa qb n d:Int} (hn:I64 n) (hd:I64 d) (hp:okP pi pa pb=true) (hq:okP qi qa qb=true) :
 Pure Try.prog 111 #[qab pi pa pb,qab qi qa qb,qaa n d] (.bool (qbB (pa*d+pb*n) (qa*d+qb*n) pb qb pi qi)):=by
 have hp':=qbU.1 hp
 have hq':=qbU.1 hq
 have c1:=qdg (pa-qa) d (by unfold I64;omega) hd
 have c2:=qdg (pb-qb) n (by unfold I64;omega) hn
 have b1:((pa-qa)*d).natAbs≤2097152*9223372036854775808:=by rw[Int.natAbs_mul];unfold I64 at hd;exact Nat.mul_le_mul (by omega) (by omega)
 have b2:((pb-qb)*n).natAbs≤2097152*9223372036854775808:=by rw[Int.natAbs_mul];unfold I64 at hn;exact Nat.mul_le_mul (by omega) (by omega)
 have c3:=qkQ ((pa-qa)*d) ((pb-qb)*n) (by omega) (by omega)
 have e:(pa-qa)*d+(pb-qb)*n=pa*d+pb*n-(qa*d+qb*n):=by rw[Int.sub_mul,Int.sub_mul];omega
 rw[e] at c3
 have c4:=qjx (pa*d+pb*n-(qa*d+qb*n))
 have far:=qnQ (pi:=pi) (pa:=pa) (pb:=pb) (qi:=qi) (qa:=qa) (qb:=qb) (by rw[qaj (by omega) (by omega)]) c1 (by rw[qaj (by omega) (by omega)]) c2 c3 c4
 generalize pa*d+pb*n=P at *
 generalize qa*d+qb*n=Q at *
 rcases Int.lt_trichotomy (P-Q) 0 with h | h | h
 ·rw[Int.sign_eq_neg_one_of_neg h] at far
  rw[qbY (by omega)]
  exact qgq far (by decide) (by decide)
 ·rw[h] at far
  by_cases hb:pb=qb
  ·by_cases hi:pi<qi
   ·rw[qbQ (by omega)];exact qkd far (by decide) (by simp[hb]) (dt hi)
   ·rw[qbY (by omega)];exact qlt far (by decide) (by simp[hb]) (df hi)
  ·by_cases hg:pb>qb
   ·rw[qbQ (by omega)];exact qlu far (by decide) (by simp[hb]) (dt hg)
   ·rw[qbY (by omega)];exact qjq far (by decide) (by simp[hb]) (df hg)
 ·rw[Int.sign_eq_one_of_pos h] at far
  rw[qbQ (by omega)]
  exact qgT far (by decide) (by decide)
end Go.Proofs.Ytalnjplghagbpaa

namespace Go.Proofs.Ytalnjplghagbpaa
set_option maxRecDepth 100000
open Go.RowKit
structure Pt where
 id:Int
 a:Int
 b:Int
abbrev ptV (p:Pt):Value:=qab p.id p.a p.b
def qam:List Pt→List Value
 | []=>[]
 | p::r=>iV p.id::iV p.a::iV p.b::qam r
theorem qbZ:∀ (a b:List Pt),qam (a++b)=qam a++qam b
 | [],_=>rfl
 | p::r,b=>by simp[qam,qbZ r b]
theorem qaV:∀ (l:List Pt),(qam l).length=l.length*3
 | []=>rfl
 | p::r=>by simp[qam,qaV r];omega
theorem qdC:∀ {l:List Pt} {k:Nat} {p:Pt},l[k]?=some p→(qam l)[k*3]?=some (iV p.id)∧(qam l)[k*3+1]?=some (iV p.a)∧(qam l)[k*3+2]?=some (iV p.b)
 | [],k,p,h=>by simp at h
 | q::r,0,p,h=>by simp at h;subst h;exact⟨rfl,rfl,rfl⟩
 | q::r,k+1,p,h=>by
  have:=qdC (l:=r) (k:=k) (p:=p) (by simpa using h)
  rw[show (k+1)*3=k*3+1+1+1 by omega]
  exact this
theorem qaP {l:List Pt} {k:Nat} {p:Pt} (h:l[k]?=some p):qcF (qam l) (0*3+k*3) [iV p.id,iV p.a,iV p.b]:=by
 obtain⟨h1,h2,h3⟩:=qdC h
 intro j v hj
 rw[show 0*3+k*3+j=k*3+j by omega]
 match j,hj with
 | 0,hj=>cases hj;exact h1
 | 1,hj=>cases hj;exact h2
 | 2,hj=>cases hj;exact h3
 | j+3,hj=>simp at hj
theorem qa1 {l:List Pt} {k:Nat} {p:Pt} (h:l[k]?=some p):qcF (qam l) (0*3+k*3) [iV p.id]:=by
 intro j v hj
 rw[show 0*3+k*3+j=k*3+j by omega]
 match j,hj with
 | 0,hj=>cases hj;exact (qdC h).1
 | j+1,hj=>simp at hj
theorem RunsL.rounds {P:Program} {lo fr:Nat} {c:Code} {n nb:Nat} (tm:Nat→List (Nat×SV)) (hp:Nat→List (Nat×Nat×SV)) {e:Exit} {tm2:TmL} {hp2:HpL} {N:Nat} :
 ∀ (d i:Nat),i+d=N→(∀ j,i≤j→j<N→RunsL P lo fr c n nb (tm (j+1)) (hp (j+1)) e tm2 hp2→RunsL P lo fr c n nb (tm j) (hp j) e tm2 hp2)→RunsL P lo fr c n nb (tm N) (hp N) e tm2 hp2→RunsL P lo fr c n nb (tm i) (hp i) e tm2 hp2
 | 0,i,h,_,last=>by
  have:i=N:=by omega
  subst this;exact last
 | d+1,i,h,step,last=>step i (Nat.le_refl i) (by omega) (RunsL.rounds tm hp d (i+1) (by omega) (fun j h1 h2=>step j (by omega) h2) last)
abbrev qag (l:List Pt):SV:=.row 80 3 l.length (qam l)
abbrev qaq (b:Nat) (l:List Pt):SV:=.ag [.ls b l.length]
theorem qan {k:Nat} (h:k≤1000000):iV (IntKind.i64.wrap ((k:Int)+1))=iV ((k+1:Nat):Int):=by rw[qaj (by omega) (by omega)];rfl
theorem qqS {l:List Pt} (h1:decide ((l.length:Int)>16)=true) (h2:decide ((l.length:Int)<64)=true):Fn 25 1 [qaq 0 l] [(0,0,qag l)] (.pv (.bool true)) 0 []:=
 qcC 200 [] [.t true,.t true] tI (Ai h1 (Ai h2 tI)) (by kernel_rfl)
theorem qqW {l:List Pt} (h1:decide ((l.length:Int)>16)=false) (h2:decide ((l.length:Int)>70)=false):Fn 25 1 [qaq 0 l] [(0,0,qag l)] (.pv (.bool false)) 0 []:=
 qcC 200 [] [.t false,.t false] tI (Ai h1 (Ai h2 tI)) (by kernel_rfl)
theorem qmQ {l:List Pt} (h1:decide ((l.length:Int)>16)=true) (h2:decide ((l.length:Int)<64)=false) (h3:decide ((l.length:Int)>70)=true):Fn 25 1 [qaq 0 l] [(0,0,qag l)] (.pv (.bool true)) 0 []:=
 qcC 200 [] [.t true,.t false,.t true] tI (Ai h1 (Ai h2 (Ai h3 tI))) (by kernel_rfl)
theorem qms {l:List Pt} (h1:decide ((l.length:Int)>16)=true) (h2:decide ((l.length:Int)<64)=false) (h3:decide ((l.length:Int)>70)=false):Fn 25 1 [qaq 0 l] [(0,0,qag l)] (.pv (.bool false)) 0 []:=
 qcC 200 [] [.t true,.t false,.t false] tI (Ai h1 (Ai h2 (Ai h3 tI))) (by kernel_rfl)
theorem qfb (m:List Pt) (p:Pt):qam m++[iV p.id,iV p.a,iV p.b]=qam (m++[p]):=by rw[qbZ];rfl
theorem qfL:∀ (l:List Pt) (k:Nat),(qam l).drop (k*3)=qam (l.drop k)
 | l,0=>by simp
 | [],k+1=>by simp[qam]
 | p::r,k+1=>by rw[show (k+1)*3=k*3+1+1+1 by omega,List.drop_succ_cons];exact qfL r k
theorem qmp (p:Pt):(!(p.id==p.id&&(p.a==p.a&&(p.b==p.b&&true))))=false:=by simp
def quD (l:List Int):List Value:=l.map fun x=>iV x
abbrev qws (l:List Int):SV:=.row 3 1 l.length (quD l)
theorem qwf {l:List Int} {k:Nat} {x:Int} (h:l[k]?=some x):qcF (quD l) (0*1+k*1) [iV x]:=by
 intro j v hj
 match j,hj with
 | 0,hj=>cases hj;simp[quD,h]
 | j+1,hj=>simp at hj
end Go.Proofs.Ytalnjplghagbpaa

namespace Go.Proofs.Ytalnjplghagbpaa
set_option maxRecDepth 100000
open Go.RowKit
theorem qlg {l:List Pt} {k:Nat} {p:Pt} {id:Int} (hk:l[k]?=some p) (hin:0≤(k:Int)∧(k:Int)<(l.length:Int)) (hlt:decide ((k:Int)<(l.length:Int))=true) (he:(p.id==id)=false) (hs:iV (IntKind.i64.wrap ((k:Int)+1))=iV (((k+1:Nat):Int))) {e:Exit} {tm2:TmL} {hp2:HpL}
 (r:Rl 1 1 43 0 22 2 ([(1,.pv (iV id)),(2,.pp 1 0),(5,.pv (iV ((k+1:Nat):Int)))]) ([(1,0,.ls 0 l.length),(0,0,qag l)]) e tm2 hp2):Rl 1 1 43 0 22 2 ([(1,.pv (iV id)),(2,.pp 1 0),(5,.pv (iV (k:Int)))]) ([(1,0,.ls 0 l.length),(0,0,qag l)]) e tm2 hp2:=
 RunsL.next [] 300 [.t true,.r (iV p.id),.t false,Re hs]
  (Ro (Ai hlt (Ai hin (Ai (qa1 hk) (Ai he (Ai hs tI)))))) r
theorem qth {l:List Pt} {k:Nat} {p:Pt} {id:Int} (hk:l[k]?=some p) (hin:0≤(k:Int)∧(k:Int)<(l.length:Int)) (hlt:decide ((k:Int)<(l.length:Int))=true) (he:(p.id==id)=true):Rl 1 1 43 0 22 2 ([(1,.pv (iV id)),(2,.pp 1 0),(5,.pv (iV (k:Int)))]) ([(1,0,.ls 0 l.length),(0,0,qag l)]) (.ret) ([(4,.pv (iV (k:Int)))]) ([]):=
 RunsL.stop [] 300 [.t true,.r (iV p.id),.t true] (fun h=>by cases h)
  (Ro (Ai hlt (Ai hin (Ai (qa1 hk) (Ai he tI)))))
theorem qsg {l:List Pt} {k:Nat} {id:Int} (hge:decide ((k:Int)<(l.length:Int))=false):Rl 1 1 43 0 22 2 ([(1,.pv (iV id)),(2,.pp 1 0),(5,.pv (iV (k:Int)))]) ([(1,0,.ls 0 l.length),(0,0,qag l)]) (.exit 0) ([]) ([]):=
 RunsL.stop [] 300 [.t false] (fun h=>by cases h)
  (Ro (Ai hge tI))
theorem quZ {l:List Pt} {id:Int} (r0:Rl 1 1 43 0 22 2 ([(1,.pv (iV id)),(2,.pp 1 0),(5,.pv (iV ((0:Nat):Int)))]) ([(1,0,.ls 0 l.length),(0,0,qag l)]) (.exit 0) ([]) ([])) :
 Fn 43 1 [qaq 0 l,.pv (iV (id))] [(0,0,qag l)] (.pv (iV (-1))) 0 []:=
 Fz [] [Lf r0]
  tI (Lo r0 [] tI)
theorem qtx {l:List Pt} {k:Nat} {id:Int} (r0:Rl 1 1 43 0 22 2 ([(1,.pv (iV id)),(2,.pp 1 0),(5,.pv (iV ((0:Nat):Int)))]) ([(1,0,.ls 0 l.length),(0,0,qag l)]) (.ret) ([(4,.pv (iV (k:Int)))]) ([])) :
 Fn 43 1 [qaq 0 l,.pv (iV (id))] [(0,0,qag l)] (.pv (iV (k:Int))) 0 []:=
 Fz [] [Lf r0]
  tI (Lo r0 [] tI)
theorem qq4 {l:List Pt} {tn td:Int} {e:Int} (hc:Fn 47 1 [qaq 0 l] [(0,0,qag l)] (.pv (iV (e))) 0 []) (he:(e !=0)=true) :
 Fn 80 1 [qaq 0 l,.pv (qaa tn td)] [(0,0,qag l)] (.pv (iV (e))) 0 []:=
 Fz [] [Cf hc [0],.t true]
  tI (Co hc [0] 3 (Ai he tI))
theorem qoB {l:List Pt} {tn td:Int} {e:Int} (hc:Fn 47 1 [qaq 0 l] [(0,0,qag l)] (.pv (iV (0))) 0 []) (ht:Pure Try.prog 48 #[qaa tn td] (iV (e))) :
 Fn 80 1 [qaq 0 l,.pv (qaa tn td)] [(0,0,qag l)] (.pv (iV (e))) 0 []:=
 Fz [] [Cf hc [0],.k,Rf ht]
  tI (Co hc [0] 3 (Ai ht tI))
theorem qp8 {l:List Pt} {tn td:Int} {e:Int} (hc:Fn 75 1 [qaq 0 l] [(0,0,qag l)] (.pv (iV (e))) 0 []) (he:(e !=0)=true) :
 Fn 64 1 [qaq 0 l,.pv (qaa tn td)] [(0,0,qag l)] (.pv (iV (e))) 0 []:=
 Fz [] [Cf hc [0],.t true]
  tI (Co hc [0] 3 (Ai he tI))
theorem qn7 {l:List Pt} {tn td:Int} {e:Int} (hc:Fn 75 1 [qaq 0 l] [(0,0,qag l)] (.pv (iV (0))) 0 []) (ht:Pure Try.prog 76 #[qaa tn td] (iV (e))) :
 Fn 64 1 [qaq 0 l,.pv (qaa tn td)] [(0,0,qag l)] (.pv (iV (e))) 0 []:=
 Fz [] [Cf hc [0],.k,Rf ht]
  tI (Co hc [0] 3 (Ai ht tI))
end Go.Proofs.Ytalnjplghagbpaa

namespace Go.Proofs.Ytalnjplghagbpaa
set_option maxRecDepth 100000
open Go.RowKit
abbrev qts (td:Int) (tn:Int):HpL:=[(0,0,.pv (iV tn)),(0,1,.pv (iV td))]
theorem qvc {p q:Pt} {tn td:Int} (he:(p.id==q.id)=true) :
 Fn 106 1 [.pv (ptV p),.pv (ptV q),.pp 0 0] (qts td tn) (.pv (iV (0))) 0 []:=
 Fz [] [.t true]
  tI (Ai he tI)
theorem quU {p q:Pt} {tn td:Int} (he:(p.id==q.id)=false) (ha:Pure Try.prog 79 #[qab p.id p.a p.b,qab q.id q.a q.b,qaa tn td] (.tuple #[.bool true,iV 0])) :
 Fn 106 1 [.pv (ptV p),.pv (ptV q),.pp 0 0] (qts td tn) (.pv (iV (-1))) 0 []:=
 Fz [] [.t false,Rf ha]
  tI (Ai he (Ai ha tI))
theorem qvf {p q:Pt} {tn td:Int} (he:(p.id==q.id)=false) (ha:Pure Try.prog 79 #[qab p.id p.a p.b,qab q.id q.a q.b,qaa tn td] (.tuple #[.bool false,iV 0])) :
 Fn 106 1 [.pv (ptV p),.pv (ptV q),.pp 0 0] (qts td tn) (.pv (iV (1))) 0 []:=
 Fz [] [.t false,Rf ha]
  tI (Ai he (Ai ha tI))
abbrev qrh (l:List Pt) (m:Pt) (td:Int) (tn:Int):HpL:=[(0,0,qag l),(1,0,.pv (iV tn)),(1,1,.pv (iV td)),(3,0,.pv (iV (m).id)),(3,1,.pv (iV (m).a)),(3,2,.pv (iV (m).b)),(2,0,.pv (iV 0)),(2,1,.pv (iV 0)),(2,2,.pv (iV 0))]
abbrev qwc (l:List Pt) (p:Pt) (td:Int) (tn:Int):HpL:=[(0,0,qag l),(1,0,.pv (iV tn)),(1,1,.pv (iV td)),(3,0,.pv (iV (p).id)),(3,1,.pv (iV (p).a)),(3,2,.pv (iV (p).b)),(2,0,.pv (iV 0)),(2,1,.pv (iV 0)),(2,2,.pv (iV 0))]
abbrev quR (k:Nat) (l:List Pt):TmL:=[(0,.ls 0 l.length),(1,.pc 106 [.pp 1 0]),(4,.pp 2 0),(5,.pp 3 0),(6,.pv (iV (k:Int)))]
theorem qvW {l:List Pt} {k:Nat} {p m:Pt} {c:Int} {tn td:Int} (hk:l[k]?=some p) (hin:0≤(k:Int)∧(k:Int)<(l.length:Int)) (hlt:decide ((k:Int)<(l.length:Int))=true) (hc:Fn 106 1 [.pv (ptV p),.pv (ptV m),.pp 0 0] (qts td tn) (.pv (iV (c))) 0 []) (hz:decide (c<0)=true) (hs:iV (IntKind.i64.wrap ((k:Int)+1))=iV (((k+1:Nat):Int))) {e:Exit} {tm2:TmL} {hp2:HpL}
 (r:Rl 2 2 81 0 33 4 ([(0,.ls 0 l.length),(1,.pc 106 [.pp 1 0]),(4,.pp 2 0),(5,.pp 3 0),(6,.pv (iV ((k+1:Nat):Int)))]) (qwc l p td tn) e tm2 hp2):Rl 2 2 81 0 33 4 (quR k l) (qrh l m td tn) e tm2 hp2:=
 RunsL.next [] 300 [.t true,.r (ptV p),Cf hc [1],.t true,.r (ptV p),Re hs]
  (Ro (Ai hlt (Ai hin (Ai (qaP hk) (Co hc [1] 4 (Ai hz (Ai hin (Ai (qaP hk) (Ai hs tI))))))))) r
theorem qvY {l:List Pt} {k:Nat} {p m:Pt} {c:Int} {tn td:Int} (hk:l[k]?=some p) (hin:0≤(k:Int)∧(k:Int)<(l.length:Int)) (hlt:decide ((k:Int)<(l.length:Int))=true) (hc:Fn 106 1 [.pv (ptV p),.pv (ptV m),.pp 0 0] (qts td tn) (.pv (iV (c))) 0 []) (hz:decide (c<0)=false) (hs:iV (IntKind.i64.wrap ((k:Int)+1))=iV (((k+1:Nat):Int))) {e:Exit} {tm2:TmL} {hp2:HpL}
 (r:Rl 2 2 81 0 33 4 ([(0,.ls 0 l.length),(1,.pc 106 [.pp 1 0]),(4,.pp 2 0),(5,.pp 3 0),(6,.pv (iV ((k+1:Nat):Int)))]) (qrh l m td tn) e tm2 hp2):Rl 2 2 81 0 33 4 (quR k l) (qrh l m td tn) e tm2 hp2:=
 RunsL.next [] 300 [.t true,.r (ptV p),Cf hc [1],.t false,Re hs]
  (Ro (Ai hlt (Ai hin (Ai (qaP hk) (Co hc [1] 4 (Ai hz (Ai hs tI))))))) r
theorem qrE {l:List Pt} {k:Nat} {m:Pt} {tn td:Int} (hge:decide ((k:Int)<(l.length:Int))=false):Rl 2 2 81 0 33 4 (quR k l) (qrh l m td tn) (.exit 0) ([(4,.pp 2 0),(5,.pp 3 0)]) (qrh l m td tn):=
 RunsL.stop [] 300 [.t false] (fun h=>by cases h)
  (Ro (Ai hge tI))
theorem qpG {l:List Pt} {p m:Pt} {tn td:Int} (hk:l[0]?=some p) (hin:0≤(0:Int)∧(0:Int)<(l.length:Int)) (h1:decide ((l.length:Int)<1)=false) (r0:Rl 2 2 81 0 33 4 ([(0,.ls 0 l.length),(1,.pc 106 [.pp 1 0]),(4,.pp 2 0),(5,.pp 3 0),(6,.pv (iV ((0+1:Nat):Int)))]) (qwc l p td tn) (.exit 0) ([(4,.pp 2 0),(5,.pp 3 0)]) (qrh l m td tn)) :
 Fn 81 2 [.ls 0 l.length,.pc 106 [.pp 1 0]] [(0,0,qag l),(1,0,.pv (iV tn)),(1,1,.pv (iV td))] (.pv (ptV m)) 0 []:=
 Fz [] [.t false,.r (ptV p),Lf r0]
  tI (Ai h1 (Ai hin (Ai (qaP hk) (Lo r0 [] tI))))
theorem qrV {l:List Pt} {m:Pt} {tn td:Int} (hc:Fn 80 1 [qaq 0 l,.pv (qaa tn td)] [(0,0,qag l)] (.pv (iV (0))) 0 []) (h0:((l.length:Int)==0)=false) (hm:Fn 81 2 [.ls 0 l.length,.pc 106 [.pp 1 0]] [(0,0,qag l),(1,0,.pv (iV tn)),(1,1,.pv (iV td))] (.pv (ptV m)) 0 []) :
 Fn 42 1 [qaq 0 l,.pv (qaa tn td)] [(0,0,qag l)] (.pv (.tuple #[iV (m.id),iV (0)])) 0 []:=
 Fz [] [Cf hc [0],.k,.t false,.k,Cf hm [0,3]]
  tI (Co hc [0] 3 (Ai h0 (Co hm [0,3] 4 tI)))
end Go.Proofs.Ytalnjplghagbpaa
