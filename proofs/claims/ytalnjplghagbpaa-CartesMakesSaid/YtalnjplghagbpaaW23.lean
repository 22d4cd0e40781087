/-
  Joined: Rt, Rx, Cu, Ct, Cv, Fa, Fe. Conditions: none.
-/
import Derived.Test.YtalnjplghagbpaaW20
import Derived.Test.YtalnjplghagbpaaW19
import Derived.Test.YtalnjplghagbpaaW22
namespace Go.Proofs.Ytalnjplghagbpaa
set_option maxRecDepth 100000
open Go.RowKit
theorem qrk (x y:Nat):Int.tdiv (x:Int) (y:Int)=((x/y:Nat):Int):=by rw[Int.tdiv_eq_ediv_of_nonneg (Int.natCast_nonneg x)];simp
theorem qth (x y:Nat):Int.tmod (x:Int) (y:Int)=((x%y:Nat):Int):=by rw[Int.tmod_eq_emod_of_nonneg (Int.natCast_nonneg x)];simp
theorem qpR (x:Nat) (h:x<18446744073709551616):Value.int .u64 (IntKind.u64.wrap (Int.tdiv (x:Int) 4294967296))=.int .u64 ((x/4294967296:Nat):Int):=by
 rw[show (4294967296:Int)=((4294967296:Nat):Int) from rfl,qrk,qgb (by omega) (by omega)]
theorem qpz (x:Nat):Value.int .u64 (Int.tmod (x:Int) 4294967296)=.int .u64 ((x%4294967296:Nat):Int):=by
 rw[show (4294967296:Int)=((4294967296:Nat):Int) from rfl,qth]
theorem qrN {x y:Nat} (h:x*y<18446744073709551616):Value.int .u64 (IntKind.u64.wrap ((x:Int)*(y:Int)))=.int .u64 ((x*y:Nat):Int):=qeE (by simp) (Int.natCast_nonneg _) (by omega)
theorem qnM {x y:Nat} (h:x+y<18446744073709551616):Value.int .u64 (IntKind.u64.wrap ((x:Int)+(y:Int)))=.int .u64 ((x+y:Nat):Int):=qeE (by simp) (by omega) (by omega)
theorem qqa (ah al bh bl:Nat):(ah*4294967296+al)*(bh*4294967296+bl)=ah*bh*18446744073709551616+(ah*bl+al*bh)*4294967296+al*bl:=by
 have e1:ah*4294967296*(bh*4294967296)=ah*bh*18446744073709551616:=Nat.mul_mul_mul_comm ah 4294967296 bh 4294967296
 have e2:ah*4294967296*bl=ah*bl*4294967296:=Nat.mul_right_comm ah 4294967296 bl
 have e3:al*(bh*4294967296)=al*bh*4294967296:=(Nat.mul_assoc al bh 4294967296).symm
 rw[Nat.add_mul,Nat.mul_add,Nat.mul_add,e1,e2,e3,Nat.add_mul]
 omega
theorem qkc (a b:Nat) (ha:a<18446744073709551616) (hb:b<18446744073709551616):Pure Try.prog 137 #[.int .u64 a,.int .u64 b] (qgZ false (a*b)):=by
 obtain⟨ah,hah⟩:∃ x,x=a/4294967296:=⟨_,rfl⟩
 obtain⟨al,hal⟩:∃ x,x=a%4294967296:=⟨_,rfl⟩
 obtain⟨bh,hbh⟩:∃ x,x=b/4294967296:=⟨_,rfl⟩
 obtain⟨bl,hbl⟩:∃ x,x=b%4294967296:=⟨_,rfl⟩
 have e1:a=ah*4294967296+al:=by omega
 have e2:b=bh*4294967296+bl:=by omega
 have key:=qqa ah al bh bl
 rw[← e1,← e2] at key
 have m1:ah*bl≤4294967295*4294967295:=Nat.mul_le_mul (by omega) (by omega)
 have m2:al*bh≤4294967295*4294967295:=Nat.mul_le_mul (by omega) (by omega)
 have m3:ah*bh≤4294967295*4294967295:=Nat.mul_le_mul (by omega) (by omega)
 have m4:al*bl≤4294967295*4294967295:=Nat.mul_le_mul (by omega) (by omega)
 have hab:a*b<340282366920938463463374607431768211456:=by
  have:a*b≤18446744073709551615*18446744073709551615:=Nat.mul_le_mul (by omega) (by omega)
  omega
 have x1:=qrN (x:=al) (y:=bl) (by omega)
 have x2:=qrN (x:=ah) (y:=bl) (by omega)
 have x4:=qrN (x:=al) (y:=bh) (by omega)
 have x6:=qrN (x:=ah) (y:=bh) (by omega)
 have q1:=qpR a ha
 have q2:=qpz a
 have q3:=qpR b hb
 have q4:=qpz b
 rw[← hah] at q1
 rw[← hal] at q2
 rw[← hbh] at q3
 rw[← hbl] at q4
 generalize ah*bl=p1 at *
 generalize al*bh=p2 at *
 generalize ah*bh=p3 at *
 generalize al*bl=low at *
 generalize a*b=ab at *
 obtain⟨m,hm⟩:∃ m,m=p1+low/4294967296:=⟨_,rfl⟩
 obtain⟨n,hn⟩:∃ n,n=p2+m%4294967296:=⟨_,rfl⟩
 have r:=qhX (nz:=by decide) q1 q2 q3 q4 x1 x2 (qpR low (by omega)) (qnM (by omega)) x4 (qpz _) (qnM (by omega)) x6 (qpR _ (by omega)) (qnM (by omega)) (qpR _ (by omega)) (qnM (by omega))
  (qpz _) (qeE (y:=((n%4294967296*4294967296:Nat):Int)) (by rw[hn,hm];simp) (by omega) (by omega)) (qpz _) (qnM (by omega))
 rw[← hm,← hn] at r
 have f1:p3+m/4294967296+n/4294967296=ab/18446744073709551616:=by omega
 have f2:n%4294967296*4294967296+low%4294967296=ab%18446744073709551616:=by omega
 rw[f1,f2] at r
 exact r
abbrev qgy (x:Int):Value:=qgZ (decide (x<0)) x.natAbs
theorem qfa (n:Int) (h:I64 n):Pure Try.prog 101 #[iV n] (.int .u64 (n.natAbs:Int)):=
 fun w=>(qcO n w h.1 h.2).mono fun _ _ ⟨h1,h2⟩=>⟨h1,Gr.of_eq h2⟩
theorem qaE {p:Prop} [Decidable p] (h:p):decide p=true:=by simp[h]
theorem qaw {p:Prop} [Decidable p] (h:¬ p):decide p=false:=by simp[h]
theorem qcX (a b:Int) (ha:I64 a) (hb:I64 b):Pure Try.prog 129 #[iV a,iV b] (qgy (a*b)):=by
 have ca:=qfa a ha
 have cb:=qfa b hb
 unfold I64 at ha hb
 have cp:=qkc a.natAbs b.natAbs (by omega) (by omega)
 unfold qgy
 rw[Int.natAbs_mul]
 by_cases sa:a<0<;>by_cases sb:b<0
 ·rw[qaw (show ¬ a*b<0 by have:=Int.mul_pos_of_neg_of_neg sa sb;omega)]
  exact qhj ca cb cp (qaE sa) (qaE sb)
 ·by_cases nb:b=0
  ·subst nb
   rw[qaw (by simp)]
   exact qhi ca cb cp (qaE sa) (qaw sb) (by simp;omega) (by simp)
  ·rw[qaE (Int.mul_neg_of_neg_of_pos sa (by omega))]
   exact qhC ca cb cp (qaE sa) (qaw sb) (by simp;omega) (by simpa using nb)
 ·by_cases na:a=0
  ·subst na
   rw[qaw (by simp)]
   exact qho ca cb cp (qaw sa) (qaE sb) (by simp)
  ·rw[qaE (Int.mul_neg_of_pos_of_neg (by omega) sb)]
   exact qhL ca cb cp (qaw sa) (qaE sb) (by simpa using na) (by simp;omega)
 ·rw[qaw (show ¬ a*b<0 by have:=Int.mul_nonneg (show 0≤a by omega) (show 0≤b by omega);omega)]
  exact qhq ca cb cp (qaw sa) (qaw sb)
theorem qiY (x:Int):Pure Try.prog 127 #[qgy x] (iV x.sign):=by
 unfold qgy
 obtain⟨A,hA⟩:∃ A,A=x.natAbs:=⟨_,rfl⟩
 rw[← hA]
 by_cases h0:x=0
 ·subst h0
  subst hA
  exact qnc (by simp) (by simp)
 ·by_cases hs:x<0
  ·rw[qaE hs,Int.sign_eq_neg_one_of_neg hs]
   by_cases hh:A/18446744073709551616=0
   ·exact qlI (by simp[hh]) (by simp;omega)
   ·exact qkK (by simp;omega)
  ·rw[qaw hs,Int.sign_eq_one_of_pos (by omega)]
   by_cases hh:A/18446744073709551616=0
   ·exact qlE (by simp[hh]) (by simp;omega)
   ·exact qkX (by simp;omega)
def qfs (A B:Nat):Int:=if A<B then -1 else if A=B then 0 else 1
theorem qeL (s t:Bool) (A B:Nat):Pure Try.prog 135 #[qgZ s A,qgZ t B] (iV (qfs A B)):=by
 by_cases hh:A/18446744073709551616=B/18446744073709551616
 ·by_cases hl:A%18446744073709551616=B%18446744073709551616
  ·have e:A=B:=by omega
   subst e
   rw[show qfs A A=0 by simp[qfs]]
   exact qmi (by simp) (by simp)
  ·by_cases hlt:A%18446744073709551616<B%18446744073709551616
   ·rw[show qfs A B = -1 by unfold qfs;rw[if_pos (by omega)]]
    exact qkY (by simp[hh]) (by simp;omega) (by simp;omega)
   ·rw[show qfs A B=1 by unfold qfs;rw[if_neg (by omega),if_neg (by omega)]]
    exact qkq (by simp[hh]) (by simp;omega) (by simp;omega)
 ·by_cases hlt:A/18446744073709551616<B/18446744073709551616
  ·rw[show qfs A B = -1 by unfold qfs;rw[if_pos (by omega)]]
   exact qkt (by simp;omega) (by simp;omega)
  ·rw[show qfs A B=1 by unfold qfs;rw[if_neg (by omega),if_neg (by omega)]]
   exact qlp (by simp;omega) (by simp;omega)
theorem qf8 {x y:Nat} (h:x<y) (hy:y<18446744073709551616):Value.int .u64 (IntKind.u64.wrap ((x:Int)-(y:Int)))=.int .u64 ((18446744073709551616+x-y:Nat):Int):=by
 rw[IntKind.wrap_u64];congr 1;omega
theorem qdf (s t:Bool) (A B:Nat) (hA:A<340282366920938463463374607431768211456) (h:B≤A):Pure Try.prog 136 #[qgZ s A,qgZ t B] (qgZ false (A-B)):=by
 obtain⟨a1,ha1⟩:∃ x,x=A/18446744073709551616:=⟨_,rfl⟩
 obtain⟨a0,ha0⟩:∃ x,x=A%18446744073709551616:=⟨_,rfl⟩
 obtain⟨b1,hb1⟩:∃ x,x=B/18446744073709551616:=⟨_,rfl⟩
 obtain⟨b0,hb0⟩:∃ x,x=B%18446744073709551616:=⟨_,rfl⟩
 unfold qgZ
 rw[← ha1,← ha0,← hb1,← hb0]
 have hs:Value.int .u64 (IntKind.u64.wrap ((a1:Int)-(b1:Int)))=.int .u64 ((a1-b1:Nat):Int):=qeE (by omega) (by omega) (by omega)
 by_cases hl:a0<b0
 ·rw[show (A-B)/18446744073709551616=a1-b1-1 by omega,show (A-B)%18446744073709551616=18446744073709551616+a0-b0 by omega]
  exact qpD hs (qf8 hl (by omega)) (by simp;omega) (qeE (by omega) (by omega) (by omega))
 ·rw[show (A-B)/18446744073709551616=a1-b1 by omega,show (A-B)%18446744073709551616=a0-b0 by omega]
  exact qqM hs (qeE (by omega) (by omega) (by omega)) (by simp;omega)
theorem qfI {x y z:Nat} (h:x+y=z+18446744073709551616) (hz:z<18446744073709551616):Value.int .u64 (IntKind.u64.wrap ((x:Int)+(y:Int)))=.int .u64 (z:Int):=by
 rw[IntKind.wrap_u64,show ((x:Int)+(y:Int))%18446744073709551616=(z:Int) by omega]
theorem qpN (s:Bool) (A B:Nat) (h:A+B<340282366920938463463374607431768211456):Pure Try.prog 128 #[qgZ s A,qgZ s B] (qgZ s (A+B)):=by
 obtain⟨a1,ha1⟩:∃ x,x=A/18446744073709551616:=⟨_,rfl⟩
 obtain⟨a0,ha0⟩:∃ x,x=A%18446744073709551616:=⟨_,rfl⟩
 obtain⟨b1,hb1⟩:∃ x,x=B/18446744073709551616:=⟨_,rfl⟩
 obtain⟨b0,hb0⟩:∃ x,x=B%18446744073709551616:=⟨_,rfl⟩
 unfold qgZ
 rw[← ha1,← ha0,← hb1,← hb0]
 have hh:Value.int .u64 (IntKind.u64.wrap ((a1:Int)+(b1:Int)))=.int .u64 ((a1+b1:Nat):Int):=qnM (by omega)
 by_cases hl:a0+b0<18446744073709551616
 ·have l1:=qnM hl
  rw[show (A+B)/18446744073709551616=a1+b1 by omega,show (A+B)%18446744073709551616=a0+b0 by omega]
  cases s
  ·exact qjW hh l1 (qaw (by omega))
  ·exact qit hh l1 (qaw (by omega))
 ·obtain⟨z,hz⟩:∃ z,a0+b0=z+18446744073709551616:=⟨a0+b0-18446744073709551616,by omega⟩
  have l1:=qfI hz (by omega)
  rw[show (A+B)/18446744073709551616=a1+b1+1 by omega,show (A+B)%18446744073709551616=z by omega]
  cases s
  ·exact qig hh l1 (qaE (by omega)) (qeE (by omega) (by omega) (by omega))
  ·exact qiW hh l1 (qaE (by omega)) (qeE (by omega) (by omega) (by omega))
theorem qil (x y:Int) (hx:x.natAbs<170141183460469231731687303715884105728) (hy:y.natAbs<170141183460469231731687303715884105728):Pure Try.prog 128 #[qgy x,qgy y] (qgy (x+y)):=by
 unfold qgy
 by_cases sx:x<0<;>by_cases sy:y<0
 ·rw[qaE sx,qaE sy,qaE (show x+y<0 by omega),show (x+y).natAbs=x.natAbs+y.natAbs by omega]
  exact qpN true _ _ (by omega)
 ·rw[qaE sx,qaw sy]
  have cl:=qeL true false x.natAbs y.natAbs
  by_cases hc:y.natAbs≤x.natAbs
  ·have cm:=qdf true false x.natAbs y.natAbs (by omega) hc
   rw[show (x+y).natAbs=x.natAbs-y.natAbs by omega]
   have hge:decide (qfs x.natAbs y.natAbs≥0)=true:=by unfold qfs;rw[if_neg (by omega)];split<;>decide
   obtain⟨D,hD⟩:∃ D,D=x.natAbs-y.natAbs:=⟨_,rfl⟩
   rw[← hD] at cm ⊢
   by_cases hd:D=0
   ·rw[qaw (show ¬ x+y<0 by omega)]
    exact qjk cl hge cm (by simp[hd]) (by simp[hd])
   ·rw[qaE (show x+y<0 by omega)]
    by_cases hh:D/18446744073709551616=0
    ·exact qiz cl hge cm (by simp[hh]) (by simp;omega)
    ·exact qiF cl hge cm (by simp;omega)
  ·have cm:=qdf false true y.natAbs x.natAbs (by omega) (by omega)
   rw[show (x+y).natAbs=y.natAbs-x.natAbs by omega,qaw (show ¬ x+y<0 by omega)]
   exact qlz cl (by unfold qfs;rw[if_pos (by omega)];decide) cm
 ·rw[qaw sx,qaE sy]
  have cl:=qeL false true x.natAbs y.natAbs
  by_cases hc:y.natAbs≤x.natAbs
  ·have cm:=qdf false true x.natAbs y.natAbs (by omega) hc
   rw[show (x+y).natAbs=x.natAbs-y.natAbs by omega,qaw (show ¬ x+y<0 by omega)]
   exact qkV cl (by unfold qfs;rw[if_neg (by omega)];split<;>decide) cm
  ·have cm:=qdf true false y.natAbs x.natAbs (by omega) (by omega)
   rw[show (x+y).natAbs=y.natAbs-x.natAbs by omega,qaE (show x+y<0 by omega)]
   exact qlP cl (by unfold qfs;rw[if_pos (by omega)];decide) cm
 ·rw[qaw sx,qaw sy,qaw (show ¬ x+y<0 by omega),show (x+y).natAbs=x.natAbs+y.natAbs by omega]
  exact qpN false _ _ (by omega)
end Go.Proofs.Ytalnjplghagbpaa

namespace Go.Proofs.Ytalnjplghagbpaa
set_option maxRecDepth 100000
open Go.RowKit
theorem qou (a b g:Nat) (ha:a<18446744073709551616) (hb:b<18446744073709551616) (hg:g=Nat.gcd a b):Pure Try.prog 100 #[.int .u64 a,.int .u64 b] (.int .u64 (g:Int)):=
 fun w=>hg▸qeR a b w ha hb
theorem qtQ {x y:Nat} (h:x<18446744073709551616):Value.int .u64 (IntKind.u64.wrap ((x:Int).tdiv (y:Int)))=.int .u64 ((x/y:Nat):Int):=qeE (qrk x y) (Int.natCast_nonneg _) (by have:=Nat.div_le_self x y;omega)
theorem qss {f:Bool} {U:Nat} (h:f=true→U<9223372036854775808):qen f (sgV U false)=qen f (U:Int):=by
 cases f
 ·rfl
 ·show sgV U false=(U:Int)
  unfold sgV
  rw[if_pos (h rfl)]
  rfl
end Go.Proofs.Ytalnjplghagbpaa

namespace Go.Proofs.Ytalnjplghagbpaa
set_option maxRecDepth 100000
open Go.RowKit
theorem qk3 {pi pa pb qi qa qb n d u v x y s:Int} (v1:iV (IntKind.i64.wrap (pa-qa))=iV u) (c1:Pure Try.prog 129 #[iV u,iV d] (qgy x)) (v2:iV (IntKind.i64.wrap (pb-qb))=iV v) (c2:Pure Try.prog 129 #[iV v,iV n] (qgy y)) (c3:Pure Try.prog 128 #[qgy x,qgy y] (qgy s)) (c4:Pure Try.prog 127 #[qgy s] (iV s.sign)) :
 Pure Try.prog 120 #[qaa pi pa pb,qaa qi qa qb,qab n d] (iV s.sign):=
 qae (args:=[qaa pi pa pb,qaa qi qa qb,qab n d]) 200 [Re v1,Rf c1,Re v2,Rf c2,Rf c3,Rf c4]
  (Ai rfl (Ai v1 (Ai c1 (Ai v2 (Ai c2 (Ai c3 (Ai c4 tI))))))) (by kernel_rfl)
abbrev qo9 (d:Int) (f:Int) (n:Int) (pa:Int) (pb:Int) (pi:Int) (qa:Int) (qb:Int) (qi:Int):Prop:=Pure Try.prog 120 #[qaa pi pa pb,qaa qi qa qb,qab n d] (iV f)
theorem qge {pi pa pb qi qa qb n d f:Int} (c:qo9 d f n pa pb pi qa qb qi) (z:(f !=0)=true) (g:decide (f>0)=true) :
 Pure Try.prog 111 #[qaa pi pa pb,qaa qi qa qb,qab n d] (.bool true):=
 qae (args:=[qaa pi pa pb,qaa qi qa qb,qab n d]) 200 [Rf c,.t true,.t true]
  (Ai rfl (Ai c (Ai z (Ai g tI)))) (by kernel_rfl)
theorem qjP {pi pa pb qi qa qb n d f:Int} (c:qo9 d f n pa pb pi qa qb qi) (z:(f !=0)=false) (bb:(pb !=qb)=true) (g:decide (pb>qb)=true) :
 Pure Try.prog 111 #[qaa pi pa pb,qaa qi qa qb,qab n d] (.bool true):=
 qae (args:=[qaa pi pa pb,qaa qi qa qb,qab n d]) 200 [Rf c,.t false,.t true,.t true]
  (Ai rfl (Ai c (Ai z (Ai bb (Ai g tI))))) (by kernel_rfl)
theorem qjA {pi pa pb qi qa qb n d f:Int} (c:qo9 d f n pa pb pi qa qb qi) (z:(f !=0)=false) (bb:(pb !=qb)=false) (g:decide (pi<qi)=true) :
 Pure Try.prog 111 #[qaa pi pa pb,qaa qi qa qb,qab n d] (.bool true):=
 qae (args:=[qaa pi pa pb,qaa qi qa qb,qab n d]) 200 [Rf c,.t false,.t false,.t true]
  (Ai rfl (Ai c (Ai z (Ai bb (Ai g tI))))) (by kernel_rfl)
theorem qf5 {pi pa pb qi qa qb n d f:Int} (c:qo9 d f n pa pb pi qa qb qi) (z:(f !=0)=true) (g:decide (f>0)=false) :
 Pure Try.prog 111 #[qaa pi pa pb,qaa qi qa qb,qab n d] (.bool false):=
 qae (args:=[qaa pi pa pb,qaa qi qa qb,qab n d]) 200 [Rf c,.t true,.t false]
  (Ai rfl (Ai c (Ai z (Ai g tI)))) (by kernel_rfl)
theorem qkd {pi pa pb qi qa qb n d f:Int} (c:qo9 d f n pa pb pi qa qb qi) (z:(f !=0)=false) (bb:(pb !=qb)=true) (g:decide (pb>qb)=false) :
 Pure Try.prog 111 #[qaa pi pa pb,qaa qi qa qb,qab n d] (.bool false):=
 qae (args:=[qaa pi pa pb,qaa qi qa qb,qab n d]) 200 [Rf c,.t false,.t true,.t false]
  (Ai rfl (Ai c (Ai z (Ai bb (Ai g tI))))) (by kernel_rfl)
theorem qj3 {pi pa pb qi qa qb n d f:Int} (c:qo9 d f n pa pb pi qa qb qi) (z:(f !=0)=false) (bb:(pb !=qb)=false) (g:decide (pi<qi)=false) :
 Pure Try.prog 111 #[qaa pi pa pb,qaa qi qa qb,qab n d] (.bool false):=
 qae (args:=[qaa pi pa pb,qaa qi qa qb,qab n d]) 200 [Rf c,.t false,.t false,.t false]
  (Ai rfl (Ai c (Ai z (Ai bb (Ai g tI))))) (by kernel_rfl)
end Go.Proofs.Ytalnjplghagbpaa

namespace Go.Proofs.Ytalnjplghagbpaa
set_option maxRecDepth 100000
open Go.RowKit
theorem qnG (X:Int):(X.sign≥0)↔0≤X:=by
 rcases Int.lt_trichotomy X 0 with h | h | h
 ·rw[Int.sign_eq_neg_one_of_neg h];omega
 ·rw[h];decide
 ·rw[Int.sign_eq_one_of_pos h];omega
theorem qpd {pi pa pb qi qa qb n d m k:Int} (k0:0<k) (h4:m*(pb-qb)=(qa-pa)*k) (hb:pb≠qb) :
 qbu (pa*d+pb*n) (qa*d+qb*n) pb qb pi qi=(decide (pb>qb)==decide ((n*k-m*d).sign≥0)):=by
 have key:(pa*d+pb*n-(qa*d+qb*n))*k=(pb-qb)*(n*k-m*d):=by
  have e1:(pb-qb)*(m*d)=(qa-pa)*k*d:=by rw[← h4,← Int.mul_assoc,Int.mul_comm (pb-qb) m]
  rw[Int.mul_sub,e1,Int.sub_mul,Int.add_mul,Int.add_mul,Int.sub_mul,Int.sub_mul,Int.sub_mul,← Int.mul_assoc,← Int.mul_assoc,Int.mul_right_comm qa k d,Int.mul_right_comm pa k d]
  omega
 have hs:=qnG (n*k-m*d)
 generalize n*k-m*d=X at *
 generalize pa*d+pb*n=P at *
 generalize qa*d+qb*n=Q at *
 have hk:((P-Q)*k<0↔P-Q<0)∧(0<(P-Q)*k↔0<P-Q):=by
  rcases Int.lt_trichotomy (P-Q) 0 with h | h | h
  ·have:=Int.mul_neg_of_neg_of_pos h k0;omega
  ·rw[h];simp
  ·have:=Int.mul_pos h k0;omega
 have hx:((pb-qb)*X<0↔(pb>qb∧X<0∨pb<qb∧0<X))∧(0<(pb-qb)*X↔(pb>qb∧0<X∨pb<qb∧X<0)):=by
  rcases Int.lt_trichotomy X 0 with h | h | h
  ·rcases Int.lt_or_gt_of_ne hb with g | g
   ·have:=Int.mul_pos_of_neg_of_neg (show pb-qb<0 by omega) h;omega
   ·have:=Int.mul_neg_of_pos_of_neg (show 0<pb-qb by omega) h;omega
  ·rw[h];simp
  ·rcases Int.lt_or_gt_of_ne hb with g | g
   ·have:=Int.mul_neg_of_neg_of_pos (show pb-qb<0 by omega) h;omega
   ·have:=Int.mul_pos (show 0<pb-qb by omega) h;omega
 rw[key] at hk
 by_cases g:pb>qb
 ·by_cases l:0≤X
  ·rw[dt g,dt (hs.2 l)];exact qbK (by omega)
  ·rw[dt g,df (fun h=>l (hs.1 h))];exact qbJ (by omega)
 ·by_cases l:0≤X
  ·rw[df g,dt (hs.2 l)];exact qbJ (by omega)
  ·rw[df g,df (fun h=>l (hs.1 h))];exact qbK (by omega)
theorem qoW {pi pa b qi qa n d:Int} (d0:0<d):qbu (pa*d+b*n) (qa*d+b*n) b b pi qi=qbu pa qa b b pi qi:=by
 have e:pa*d-qa*d=(pa-qa)*d:=(Int.sub_mul _ _ _).symm
 have hk:((pa-qa)*d<0↔pa-qa<0)∧(0<(pa-qa)*d↔0<pa-qa):=by
  rcases Int.lt_trichotomy (pa-qa) 0 with h | h | h
  ·have:=Int.mul_neg_of_neg_of_pos h d0;omega
  ·rw[h];simp
  ·have:=Int.mul_pos h d0;omega
 unfold qbu
 rw[← e] at hk
 exact decide_eq_decide.2 (by omega)
theorem qo5 {pi pa pb qi qa qb:Int} (h:pi≠qi):Pure Try.prog 104 #[qaa pi pa pb,qaa qi qa qb] (iV 0):=qps (by simp[h])
theorem qmS {pi pa pb qi qa qb:Int} (hp:okP pi pa pb=true) (hq:okP qi qa qb=true) (hb:pb≠qb) :
 ∃ m k,okB m k=true∧I64 m∧I64 k∧m*(pb-qb)=(qa-pa)*k∧Pure Try.prog 115 #[qaa pi pa pb,qaa qi qa qb] (qab m k)∧Pure Try.prog 115 #[qaa qi qa qb,qaa pi pa pb] (qab m k):=by
 obtain⟨m,k,h1,h2,h3,h4,h5⟩:=qcJ hp hq hb
 obtain⟨m',k',g1,g2,g3,g4,g5⟩:=qcJ hq hp (Ne.symm hb)
 have e:m*k'=m'*k:=by
  refine Int.eq_of_mul_eq_mul_right (show pb-qb≠0 by omega) ?_
  have a1:m*k'*(pb-qb)=(qa-pa)*k*k':=by rw[Int.mul_right_comm,h4]
  have a2:m'*k*(pb-qb) = -((pa-qa)*k'*k):=by
   rw[Int.mul_right_comm,← Int.neg_mul,← g4,← Int.mul_neg];congr 2;omega
  rw[a1,a2,← Int.neg_mul,← Int.neg_mul,Int.mul_right_comm (qa-pa) k k']
  congr 2;omega
 obtain⟨rfl,rfl⟩:=qiH h1 g1 e
 exact⟨m,k,h1,h2,h3,h4,h5,g5⟩
end Go.Proofs.Ytalnjplghagbpaa

namespace Go.Proofs.Ytalnjplghagbpaa
set_option maxRecDepth 100000
open Go.RowKit
theorem qrC {x:Nat} (h:x<18446744073709551616):qgZ false x=qas false 0 (x:Int):=by
 unfold qgZ
 rw[show x/18446744073709551616=0 by omega,show x%18446744073709551616=x by omega]
 rfl
theorem qg4 {pi pa pb qi qa qb n d:Int} (hn:I64 n) (hd:I64 d) (hp:okP pi pa pb=true) (hq:okP qi qa qb=true) :
 Pure Try.prog 111 #[qaa pi pa pb,qaa qi qa qb,qab n d] (.bool (qbu (pa*d+pb*n) (qa*d+qb*n) pb qb pi qi)):=by
 have hp':=qbW.1 hp
 have hq':=qbW.1 hq
 have c1:=qcX (pa-qa) d (by unfold I64;omega) hd
 have c2:=qcX (pb-qb) n (by unfold I64;omega) hn
 have b1:((pa-qa)*d).natAbs≤2097152*9223372036854775808:=by rw[Int.natAbs_mul];unfold I64 at hd;exact Nat.mul_le_mul (by omega) (by omega)
 have b2:((pb-qb)*n).natAbs≤2097152*9223372036854775808:=by rw[Int.natAbs_mul];unfold I64 at hn;exact Nat.mul_le_mul (by omega) (by omega)
 have c3:=qil ((pa-qa)*d) ((pb-qb)*n) (by omega) (by omega)
 have e:(pa-qa)*d+(pb-qb)*n=pa*d+pb*n-(qa*d+qb*n):=by rw[Int.sub_mul,Int.sub_mul];omega
 rw[e] at c3
 have c4:=qiY (pa*d+pb*n-(qa*d+qb*n))
 have far:=qk3 (pi:=pi) (pa:=pa) (pb:=pb) (qi:=qi) (qa:=qa) (qb:=qb) (by rw[qaQ (by omega) (by omega)]) c1 (by rw[qaQ (by omega) (by omega)]) c2 c3 c4
 generalize pa*d+pb*n=P at *
 generalize qa*d+qb*n=Q at *
 rcases Int.lt_trichotomy (P-Q) 0 with h | h | h
 ·rw[Int.sign_eq_neg_one_of_neg h] at far
  rw[qbJ (by omega)]
  exact qf5 far (by decide) (by decide)
 ·rw[h] at far
  by_cases hb:pb=qb
  ·by_cases hi:pi<qi
   ·rw[qbK (by omega)];exact qjA far (by decide) (by simp[hb]) (dt hi)
   ·rw[qbJ (by omega)];exact qj3 far (by decide) (by simp[hb]) (df hi)
  ·by_cases hg:pb>qb
   ·rw[qbK (by omega)];exact qjP far (by decide) (by simp[hb]) (dt hg)
   ·rw[qbJ (by omega)];exact qkd far (by decide) (by simp[hb]) (df hg)
 ·rw[Int.sign_eq_one_of_pos h] at far
  rw[qbK (by omega)]
  exact qge far (by decide) (by decide)
end Go.Proofs.Ytalnjplghagbpaa

namespace Go.Proofs.Ytalnjplghagbpaa
set_option maxRecDepth 100000
open Go.RowKit
structure Pt where
 id:Int
 a:Int
 b:Int
abbrev ptV (p:Pt):Value:=qaa p.id p.a p.b
def qaz:List Pt→List Value
 | []=>[]
 | p::r=>iV p.id::iV p.a::iV p.b::qaz r
theorem qbE:∀ (l:List Pt),(qaz l).length=l.length*3
 | []=>rfl
 | p::r=>by simp[qaz,qbE r];omega
theorem qdb:∀ {l:List Pt} {k:Nat} {p:Pt},l[k]?=some p→(qaz l)[k*3]?=some (iV p.id)∧(qaz l)[k*3+1]?=some (iV p.a)∧(qaz l)[k*3+2]?=some (iV p.b)
 | [],k,p,h=>by simp at h
 | q::r,0,p,h=>by simp at h;subst h;exact⟨rfl,rfl,rfl⟩
 | q::r,k+1,p,h=>by
  have:=qdb (l:=r) (k:=k) (p:=p) (by simpa using h)
  rw[show (k+1)*3=k*3+1+1+1 by omega]
  exact this
theorem qaY {l:List Pt} {k:Nat} {p:Pt} (h:l[k]?=some p):qcs (qaz l) (0*3+k*3) [iV p.id,iV p.a,iV p.b]:=by
 obtain⟨h1,h2,h3⟩:=qdb h
 intro j v hj
 rw[show 0*3+k*3+j=k*3+j by omega]
 match j,hj with
 | 0,hj=>cases hj;exact h1
 | 1,hj=>cases hj;exact h2
 | 2,hj=>cases hj;exact h3
 | j+3,hj=>simp at hj
theorem qcv {l:List Pt} {k:Nat} {p:Pt} (h:l[k]?=some p):qcs (qaz l) (0*3+k*3) [iV p.id]:=by
 intro j v hj
 rw[show 0*3+k*3+j=k*3+j by omega]
 match j,hj with
 | 0,hj=>cases hj;exact (qdb h).1
 | j+1,hj=>simp at hj
theorem RunsL.rounds {P:Program} {lo fr:Nat} {c:Code} {n nb:Nat} (tm:Nat→List (Nat×SV)) (hp:Nat→List (Nat×Nat×SV)) {e:Exit} {tm2:TmL} {hp2:HpL} {N:Nat} :
 ∀ (d i:Nat),i+d=N→(∀ j,i≤j→j<N→RunsL P lo fr c n nb (tm (j+1)) (hp (j+1)) e tm2 hp2→RunsL P lo fr c n nb (tm j) (hp j) e tm2 hp2)→RunsL P lo fr c n nb (tm N) (hp N) e tm2 hp2→RunsL P lo fr c n nb (tm i) (hp i) e tm2 hp2
 | 0,i,h,_,last=>by
  have:i=N:=by omega
  subst this;exact last
 | d+1,i,h,step,last=>step i (Nat.le_refl i) (by omega) (RunsL.rounds tm hp d (i+1) (by omega) (fun j h1 h2=>step j (by omega) h2) last)
abbrev qag (l:List Pt):SV:=.row 80 3 l.length (qaz l)
abbrev qav (b:Nat) (l:List Pt):SV:=.ag [.ls b l.length]
theorem qaj {k:Nat} (h:k≤1000000):iV (IntKind.i64.wrap ((k:Int)+1))=iV ((k+1:Nat):Int):=by rw[qaQ (by omega) (by omega)];rfl
theorem qod {l:List Pt} (h1:decide ((l.length:Int)>16)=true) (h2:decide ((l.length:Int)<64)=true):Fn 25 1 [qav 0 l] [(0,0,qag l)] (.pv (.bool true)) 0 []:=
 qcE 200 [] [.t true,.t true] tI (Ai h1 (Ai h2 tI)) (by kernel_rfl)
theorem qny {l:List Pt} (h1:decide ((l.length:Int)>16)=false) (h2:decide ((l.length:Int)>70)=false):Fn 25 1 [qav 0 l] [(0,0,qag l)] (.pv (.bool false)) 0 []:=
 qcE 200 [] [.t false,.t false] tI (Ai h1 (Ai h2 tI)) (by kernel_rfl)
theorem qk1 {l:List Pt} (h1:decide ((l.length:Int)>16)=true) (h2:decide ((l.length:Int)<64)=false) (h3:decide ((l.length:Int)>70)=true):Fn 25 1 [qav 0 l] [(0,0,qag l)] (.pv (.bool true)) 0 []:=
 qcE 200 [] [.t true,.t false,.t true] tI (Ai h1 (Ai h2 (Ai h3 tI))) (by kernel_rfl)
theorem qlH {l:List Pt} (h1:decide ((l.length:Int)>16)=true) (h2:decide ((l.length:Int)<64)=false) (h3:decide ((l.length:Int)>70)=false):Fn 25 1 [qav 0 l] [(0,0,qag l)] (.pv (.bool false)) 0 []:=
 qcE 200 [] [.t true,.t false,.t false] tI (Ai h1 (Ai h2 (Ai h3 tI))) (by kernel_rfl)
theorem qpV (l:List Pt):SV.ag [.ls 4 (0+l.length)]=(SV.ag [.ls 1 l.length]).ren (qaF [(1,4)]):=by rw[Nat.zero_add];rfl
theorem qll (l:List Pt):some (SV.row 80 3 (0+l.length) ([]++qaz l))=some (qag l):=by rw[Nat.zero_add,List.nil_append]
theorem qci (x:Int):(x==x)=true:=by simp
theorem qk9 (p:Pt):(!(p.id==p.id&&(p.a==p.a&&(p.b==p.b&&true))))=false:=by simp
def qh7 (l:List Int):List Value:=l.map fun x=>iV x
abbrev qh9 (l:List Int):SV:=.row 3 1 l.length (qh7 l)
theorem qm2 {l:List Int} {k:Nat} {x:Int} (h:l[k]?=some x):qcs (qh7 l) (0*1+k*1) [iV x]:=by
 intro j v hj
 match j,hj with
 | 0,hj=>cases hj;simp[qh7,h]
 | j+1,hj=>simp at hj
theorem qtz:∀ (l:List Int) (k:Nat) (x:Int),k<l.length→qh7 (l.set k x)=qdJ (qh7 l) k [iV x]
 | [],k,x,h=>by simp at h
 | y::r,0,x,_=>rfl
 | y::r,k+1,x,h=>by
  have:=qtz r k x (by simpa using h)
  simp only[qh7,List.set_cons_succ,List.map_cons] at this ⊢
  rw[this]
  simp[qdJ,Nat.add_right_comm]
theorem qrI (l:List Int) (k:Nat) (x:Int) (h:k<l.length):qh7 (l.set k x)=qdJ (qh7 l) (0*1+k*1) [iV x]:=by
 rw[Nat.zero_mul,Nat.zero_add,Nat.mul_one];exact qtz l k x h
theorem qti (l:List Int) (k:Nat) (h:k<l.length):0*1+k*1+1≤(qh7 l).length:=by simp[qh7];omega
theorem qjQ:∀ n:Nat,qcg [iV 0] n=qh7 (List.replicate n 0)
 | 0=>rfl
 | n+1=>by rw[qcg,qjQ n];rfl
theorem qtf (n:Nat):some (SV.row 3 1 n (qcg [iV 0] n))=some (SV.row 3 1 n (qh7 (List.replicate n 0))):=by rw[qjQ]
end Go.Proofs.Ytalnjplghagbpaa

namespace Go.Proofs.Ytalnjplghagbpaa
set_option maxRecDepth 100000
open Go.RowKit
theorem qi3 {l:List Pt} (hn:0+l.length≤1000000) :
 Fn 28 1 [qav 0 l] [(0,0,qag l)] (.ag [.ls 1 l.length]) 1 [(1,0,qag l)]:=
 Fx [(1,4)] []
  (qpV l) (Ai (qll l) tI) (Ai hn tI)
abbrev qrP (l:List Pt) (m:List Pt):HpL:=[(2,0,.ls 0 l.length),(3,0,.ls 1 m.length),(0,0,qag l),(1,0,qag m)]
theorem qj6 {l m:List Pt} {k:Nat} {p q:Pt} (hk:l[k]?=some p) (hin:0≤(k:Int)∧(k:Int)<(l.length:Int)) (hq:m[k]?=some q) (hin2:0≤(k:Int)∧(k:Int)<(m.length:Int)) (hlt:decide ((k:Int)<(l.length:Int))=true) (hne:(!(p.id==q.id&&(p.a==q.a&&(p.b==q.b&&true))))=false) (hs:iV (IntKind.i64.wrap ((k:Int)+1))=iV (((k+1:Nat):Int))) {e:Exit} {tm2:TmL} {hp2:HpL}
 (r:Rl 2 2 35 0 31 4 ([(2,.pp 2 0),(3,.pp 3 0),(5,.pv (iV ((k+1:Nat):Int)))]) (qrP l m) e tm2 hp2):Rl 2 2 35 0 31 4 ([(2,.pp 2 0),(3,.pp 3 0),(5,.pv (iV (k:Int)))]) (qrP l m) e tm2 hp2:=
 RunsL.next [] 300 [.t true,.r (ptV p),.r (ptV q),.t false,Re hs]
  (Ro (Ai hlt (Ai hin (Ai (qaY hk) (Ai hin2 (Ai (qaY hq) (Ai hne (Ai hs tI)))))))) r
theorem qkZ {l m:List Pt} {k:Nat} (hge:decide ((k:Int)<(l.length:Int))=false):Rl 2 2 35 0 31 4 ([(2,.pp 2 0),(3,.pp 3 0),(5,.pv (iV (k:Int)))]) (qrP l m) (.exit 0) ([]) ([]):=
 RunsL.stop [] 300 [.t false] (fun h=>by cases h)
  (Ro (Ai hge tI))
theorem qkH {l m:List Pt} (hl:(!((l.length:Int)==(m.length:Int)))=false) (r0:Rl 2 2 35 0 31 4 ([(2,.pp 2 0),(3,.pp 3 0),(5,.pv (iV ((0:Nat):Int)))]) (qrP l m) (.exit 0) ([]) ([])) :
 Fn 35 2 [qav 0 l,qav 1 m] [(0,0,qag l),(1,0,qag m)] (.pv (.bool true)) 0 []:=
 Fz [] [.t false,Lf r0]
  tI (Ai hl (Lo r0 [] tI))
theorem qlu {l m:List Int} {k:Nat} {x y:Int} (hk:l[k]?=some x) (hin:0≤(k:Int)∧(k:Int)<(l.length:Int)) (hq:m[k]?=some y) (hin2:0≤(k:Int)∧(k:Int)<(m.length:Int)) (hlt:decide ((k:Int)<(l.length:Int))=true) (hne:(!(x==y))=false) (hs:iV (IntKind.i64.wrap ((k:Int)+1))=iV (((k+1:Nat):Int))) {e:Exit} {tm2:TmL} {hp2:HpL}
 (r:Rl 2 2 23 0 26 2 ([(0,.ls 0 l.length),(1,.ls 1 m.length),(5,.pv (iV ((k+1:Nat):Int)))]) ([(0,0,qh9 l),(1,0,qh9 m)]) e tm2 hp2):Rl 2 2 23 0 26 2 ([(0,.ls 0 l.length),(1,.ls 1 m.length),(5,.pv (iV (k:Int)))]) ([(0,0,qh9 l),(1,0,qh9 m)]) e tm2 hp2:=
 RunsL.next [] 300 [.t true,.r (iV x),.r (iV y),.t false,Re hs]
  (Ro (Ai hlt (Ai hin (Ai (qm2 hk) (Ai hin2 (Ai (qm2 hq) (Ai hne (Ai hs tI)))))))) r
theorem qnI {l m:List Int} {k:Nat} (hge:decide ((k:Int)<(l.length:Int))=false):Rl 2 2 23 0 26 2 ([(0,.ls 0 l.length),(1,.ls 1 m.length),(5,.pv (iV (k:Int)))]) ([(0,0,qh9 l),(1,0,qh9 m)]) (.exit 0) ([]) ([]):=
 RunsL.stop [] 300 [.t false] (fun h=>by cases h)
  (Ro (Ai hge tI))
theorem qn2 {l m:List Int} (hl:(!((l.length:Int)==(m.length:Int)))=false) (r0:Rl 2 2 23 0 26 2 ([(0,.ls 0 l.length),(1,.ls 1 m.length),(5,.pv (iV ((0:Nat):Int)))]) ([(0,0,qh9 l),(1,0,qh9 m)]) (.exit 0) ([]) ([])) :
 Fn 23 2 [.ls 0 l.length,.ls 1 m.length] [(0,0,qh9 l),(1,0,qh9 m)] (.pv (.bool true)) 0 []:=
 Fz [] [.t false,Lf r0]
  tI (Ai hl (Lo r0 [] tI))
end Go.Proofs.Ytalnjplghagbpaa
