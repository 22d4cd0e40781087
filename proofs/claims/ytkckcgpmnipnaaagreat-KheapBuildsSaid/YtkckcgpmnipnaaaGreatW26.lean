/-
  Joined: Rt, Rw, Rx, Ct, Cu. Conditions: none.
-/
import Derived.Test.YtkckcgpmnipnaaaGreatW24
import Derived.Test.YtkckcgpmnipnaaaGreatW21
import Derived.Test.YtkckcgpmnipnaaaGreatW22
namespace Go.Proofs.YtkckcgpmnipnaaaGreat
set_option maxRecDepth 100000
open Go.RowKit
theorem qB6 (x y:Nat):Int.tdiv (x:Int) (y:Int)=((x/y:Nat):Int):=by rw[Int.tdiv_eq_ediv_of_nonneg (Int.natCast_nonneg x)];simp
theorem qFv (x y:Nat):Int.tmod (x:Int) (y:Int)=((x%y:Nat):Int):=by rw[Int.tmod_eq_emod_of_nonneg (Int.natCast_nonneg x)];simp
theorem qDj (x:Nat) (h:x<18446744073709551616):Value.int .u64 (IntKind.u64.wrap (Int.tdiv (x:Int) 4294967296))=.int .u64 ((x/4294967296:Nat):Int):=by
 rw[show (4294967296:Int)=((4294967296:Nat):Int) from rfl,qB6,qe0 (by omega) (by omega)]
theorem qzW (x:Nat):Value.int .u64 (Int.tmod (x:Int) 4294967296)=.int .u64 ((x%4294967296:Nat):Int):=by
 rw[show (4294967296:Int)=((4294967296:Nat):Int) from rfl,qFv]
theorem qEh {x y:Nat} (h:x*y<18446744073709551616):Value.int .u64 (IntKind.u64.wrap ((x:Int)*(y:Int)))=.int .u64 ((x*y:Nat):Int):=qgV (by simp) (Int.natCast_nonneg _) (by omega)
theorem qxj {x y:Nat} (h:x+y<18446744073709551616):Value.int .u64 (IntKind.u64.wrap ((x:Int)+(y:Int)))=.int .u64 ((x+y:Nat):Int):=qgV (by simp) (by omega) (by omega)
theorem qCB (ah al bh bl:Nat):(ah*4294967296+al)*(bh*4294967296+bl)=ah*bh*18446744073709551616+(ah*bl+al*bh)*4294967296+al*bl:=by
 have e1:ah*4294967296*(bh*4294967296)=ah*bh*18446744073709551616:=Nat.mul_mul_mul_comm ah 4294967296 bh 4294967296
 have e2:ah*4294967296*bl=ah*bl*4294967296:=Nat.mul_right_comm ah 4294967296 bl
 have e3:al*(bh*4294967296)=al*bh*4294967296:=(Nat.mul_assoc al bh 4294967296).symm
 rw[Nat.add_mul,Nat.mul_add,Nat.mul_add,e1,e2,e3,Nat.add_mul]
 omega
theorem qor (a b:Nat) (ha:a<18446744073709551616) (hb:b<18446744073709551616):Pure Tryz.prog 155 #[.int .u64 a,.int .u64 b] (qiD false (a*b)):=by
 obtain⟨ah,hah⟩:∃ x,x=a/4294967296:=⟨_,rfl⟩
 obtain⟨al,hal⟩:∃ x,x=a%4294967296:=⟨_,rfl⟩
 obtain⟨bh,hbh⟩:∃ x,x=b/4294967296:=⟨_,rfl⟩
 obtain⟨bl,hbl⟩:∃ x,x=b%4294967296:=⟨_,rfl⟩
 have e1:a=ah*4294967296+al:=by omega
 have e2:b=bh*4294967296+bl:=by omega
 have key:=qCB ah al bh bl
 rw[← e1,← e2] at key
 have m1:ah*bl≤4294967295*4294967295:=Nat.mul_le_mul (by omega) (by omega)
 have m2:al*bh≤4294967295*4294967295:=Nat.mul_le_mul (by omega) (by omega)
 have m3:ah*bh≤4294967295*4294967295:=Nat.mul_le_mul (by omega) (by omega)
 have m4:al*bl≤4294967295*4294967295:=Nat.mul_le_mul (by omega) (by omega)
 have hab:a*b<340282366920938463463374607431768211456:=by
  have:a*b≤18446744073709551615*18446744073709551615:=Nat.mul_le_mul (by omega) (by omega)
  omega
 have x1:=qEh (x:=al) (y:=bl) (by omega)
 have x2:=qEh (x:=ah) (y:=bl) (by omega)
 have x4:=qEh (x:=al) (y:=bh) (by omega)
 have x6:=qEh (x:=ah) (y:=bh) (by omega)
 have q1:=qDj a ha
 have q2:=qzW a
 have q3:=qDj b hb
 have q4:=qzW b
 rw[← hah] at q1
 rw[← hal] at q2
 rw[← hbh] at q3
 rw[← hbl] at q4
 generalize ah*bl=p1 at *
 generalize al*bh=p2 at *
 generalize ah*bh=p3 at *
 generalize al*bl=low at *
 generalize a*b=ab at *
 obtain⟨m,hm⟩:∃ m,m=p1+low/4294967296:=⟨_,rfl⟩
 obtain⟨n,hn⟩:∃ n,n=p2+m%4294967296:=⟨_,rfl⟩
 have r:=qli (nz:=by decide) q1 q2 q3 q4 x1 x2 (qDj low (by omega)) (qxj (by omega)) x4 (qzW _) (qxj (by omega)) x6 (qDj _ (by omega)) (qxj (by omega)) (qDj _ (by omega)) (qxj (by omega))
  (qzW _) (qgV (y:=((n%4294967296*4294967296:Nat):Int)) (by rw[hn,hm];simp) (by omega) (by omega)) (qzW _) (qxj (by omega))
 rw[← hm,← hn] at r
 have f1:p3+m/4294967296+n/4294967296=ab/18446744073709551616:=by omega
 have f2:n%4294967296*4294967296+low%4294967296=ab%18446744073709551616:=by omega
 rw[f1,f2] at r
 exact r
abbrev qd5 (x:Int):Value:=qiD (decide (x<0)) x.natAbs
theorem qdJ (n:Int) (h:I64 n):Pure Tryz.prog 95 #[iV n] (.int .u64 (n.natAbs:Int)):=
 fun w=>(qf3 n w h.1 h.2).mono fun _ _ ⟨h1,h2⟩=>⟨h1,Gr.of_eq h2⟩
theorem qaM {p:Prop} [Decidable p] (h:p):decide p=true:=by simp[h]
theorem qaF {p:Prop} [Decidable p] (h:¬ p):decide p=false:=by simp[h]
theorem qb5 (a b:Int) (ha:I64 a) (hb:I64 b):Pure Tryz.prog 87 #[iV a,iV b] (qd5 (a*b)):=by
 have ca:=qdJ a ha
 have cb:=qdJ b hb
 unfold I64 at ha hb
 have cp:=qor a.natAbs b.natAbs (by omega) (by omega)
 unfold qd5
 rw[Int.natAbs_mul]
 by_cases sa:a<0<;>by_cases sb:b<0
 ·rw[qaF (show ¬ a*b<0 by have:=Int.mul_pos_of_neg_of_neg sa sb;omega)]
  exact ql9 ca cb cp (qaM sa) (qaM sb)
 ·by_cases nb:b=0
  ·subst nb
   rw[qaF (by simp)]
   exact qlK ca cb cp (qaM sa) (qaF sb) (by simp;omega) (by simp)
  ·rw[qaM (Int.mul_neg_of_neg_of_pos sa (by omega))]
   exact qlD ca cb cp (qaM sa) (qaF sb) (by simp;omega) (by simpa using nb)
 ·by_cases na:a=0
  ·subst na
   rw[qaF (by simp)]
   exact qlE ca cb cp (qaF sa) (qaM sb) (by simp)
  ·rw[qaM (Int.mul_neg_of_pos_of_neg (by omega) sb)]
   exact qlj ca cb cp (qaF sa) (qaM sb) (by simpa using na) (by simp;omega)
 ·rw[qaF (show ¬ a*b<0 by have:=Int.mul_nonneg (show 0≤a by omega) (show 0≤b by omega);omega)]
  exact ql5 ca cb cp (qaF sa) (qaF sb)
theorem qfz (x:Int):Pure Tryz.prog 88 #[qd5 x] (iV x.sign):=by
 unfold qd5
 obtain⟨A,hA⟩:∃ A,A=x.natAbs:=⟨_,rfl⟩
 rw[← hA]
 by_cases h0:x=0
 ·subst h0
  subst hA
  exact qvE (by simp) (by simp)
 ·by_cases hs:x<0
  ·rw[qaM hs,Int.sign_eq_neg_one_of_neg hs]
   by_cases hh:A/18446744073709551616=0
   ·exact qrf (by simp[hh]) (by simp;omega)
   ·exact qsj (by simp;omega)
  ·rw[qaF hs,Int.sign_eq_one_of_pos (by omega)]
   by_cases hh:A/18446744073709551616=0
   ·exact qq6 (by simp[hh]) (by simp;omega)
   ·exact qtB (by simp;omega)
def qgy (A B:Nat):Int:=if A<B then -1 else if A=B then 0 else 1
theorem qd1 (s t:Bool) (A B:Nat):Pure Tryz.prog 89 #[qiD s A,qiD t B] (iV (qgy A B)):=by
 by_cases hh:A/18446744073709551616=B/18446744073709551616
 ·by_cases hl:A%18446744073709551616=B%18446744073709551616
  ·have e:A=B:=by omega
   subst e
   rw[show qgy A A=0 by simp[qgy]]
   exact qpG (by simp) (by simp)
  ·by_cases hlt:A%18446744073709551616<B%18446744073709551616
   ·rw[show qgy A B = -1 by unfold qgy;rw[if_pos (by omega)]]
    exact qpX (by simp[hh]) (by simp;omega) (by simp;omega)
   ·rw[show qgy A B=1 by unfold qgy;rw[if_neg (by omega),if_neg (by omega)]]
    exact qs8 (by simp[hh]) (by simp;omega) (by simp;omega)
 ·by_cases hlt:A/18446744073709551616<B/18446744073709551616
  ·rw[show qgy A B = -1 by unfold qgy;rw[if_pos (by omega)]]
   exact qtz (by simp;omega) (by simp;omega)
  ·rw[show qgy A B=1 by unfold qgy;rw[if_neg (by omega),if_neg (by omega)]]
   exact qrI (by simp;omega) (by simp;omega)
theorem qjm {x y:Nat} (h:x<y) (hy:y<18446744073709551616):Value.int .u64 (IntKind.u64.wrap ((x:Int)-(y:Int)))=.int .u64 ((18446744073709551616+x-y:Nat):Int):=by
 rw[IntKind.wrap_u64];congr 1;omega
theorem qeW (s t:Bool) (A B:Nat) (hA:A<340282366920938463463374607431768211456) (h:B≤A):Pure Tryz.prog 244 #[qiD s A,qiD t B] (qiD false (A-B)):=by
 obtain⟨a1,ha1⟩:∃ x,x=A/18446744073709551616:=⟨_,rfl⟩
 obtain⟨a0,ha0⟩:∃ x,x=A%18446744073709551616:=⟨_,rfl⟩
 obtain⟨b1,hb1⟩:∃ x,x=B/18446744073709551616:=⟨_,rfl⟩
 obtain⟨b0,hb0⟩:∃ x,x=B%18446744073709551616:=⟨_,rfl⟩
 unfold qiD
 rw[← ha1,← ha0,← hb1,← hb0]
 have hs:Value.int .u64 (IntKind.u64.wrap ((a1:Int)-(b1:Int)))=.int .u64 ((a1-b1:Nat):Int):=qgV (by omega) (by omega) (by omega)
 by_cases hl:a0<b0
 ·rw[show (A-B)/18446744073709551616=a1-b1-1 by omega,show (A-B)%18446744073709551616=18446744073709551616+a0-b0 by omega]
  exact qCY hs (qjm hl (by omega)) (by simp;omega) (qgV (by omega) (by omega) (by omega))
 ·rw[show (A-B)/18446744073709551616=a1-b1 by omega,show (A-B)%18446744073709551616=a0-b0 by omega]
  exact qzL hs (qgV (by omega) (by omega) (by omega)) (by simp;omega)
theorem qjq {x y z:Nat} (h:x+y=z+18446744073709551616) (hz:z<18446744073709551616):Value.int .u64 (IntKind.u64.wrap ((x:Int)+(y:Int)))=.int .u64 (z:Int):=by
 rw[IntKind.wrap_u64,show ((x:Int)+(y:Int))%18446744073709551616=(z:Int) by omega]
theorem qBc (s:Bool) (A B:Nat) (h:A+B<340282366920938463463374607431768211456):Pure Tryz.prog 202 #[qiD s A,qiD s B] (qiD s (A+B)):=by
 obtain⟨a1,ha1⟩:∃ x,x=A/18446744073709551616:=⟨_,rfl⟩
 obtain⟨a0,ha0⟩:∃ x,x=A%18446744073709551616:=⟨_,rfl⟩
 obtain⟨b1,hb1⟩:∃ x,x=B/18446744073709551616:=⟨_,rfl⟩
 obtain⟨b0,hb0⟩:∃ x,x=B%18446744073709551616:=⟨_,rfl⟩
 unfold qiD
 rw[← ha1,← ha0,← hb1,← hb0]
 have hh:Value.int .u64 (IntKind.u64.wrap ((a1:Int)+(b1:Int)))=.int .u64 ((a1+b1:Nat):Int):=qxj (by omega)
 by_cases hl:a0+b0<18446744073709551616
 ·have l1:=qxj hl
  rw[show (A+B)/18446744073709551616=a1+b1 by omega,show (A+B)%18446744073709551616=a0+b0 by omega]
  cases s
  ·exact qm8 hh l1 (qaF (by omega))
  ·exact qmG hh l1 (qaF (by omega))
 ·obtain⟨z,hz⟩:∃ z,a0+b0=z+18446744073709551616:=⟨a0+b0-18446744073709551616,by omega⟩
  have l1:=qjq hz (by omega)
  rw[show (A+B)/18446744073709551616=a1+b1+1 by omega,show (A+B)%18446744073709551616=z by omega]
  cases s
  ·exact qnh hh l1 (qaM (by omega)) (qgV (by omega) (by omega) (by omega))
  ·exact qpc hh l1 (qaM (by omega)) (qgV (by omega) (by omega) (by omega))
theorem qov (x y:Int) (hx:x.natAbs<170141183460469231731687303715884105728) (hy:y.natAbs<170141183460469231731687303715884105728):Pure Tryz.prog 202 #[qd5 x,qd5 y] (qd5 (x+y)):=by
 unfold qd5
 by_cases sx:x<0<;>by_cases sy:y<0
 ·rw[qaM sx,qaM sy,qaM (show x+y<0 by omega),show (x+y).natAbs=x.natAbs+y.natAbs by omega]
  exact qBc true _ _ (by omega)
 ·rw[qaM sx,qaF sy]
  have cl:=qd1 true false x.natAbs y.natAbs
  by_cases hc:y.natAbs≤x.natAbs
  ·have cm:=qeW true false x.natAbs y.natAbs (by omega) hc
   rw[show (x+y).natAbs=x.natAbs-y.natAbs by omega]
   have hge:decide (qgy x.natAbs y.natAbs≥0)=true:=by unfold qgy;rw[if_neg (by omega)];split<;>decide
   obtain⟨D,hD⟩:∃ D,D=x.natAbs-y.natAbs:=⟨_,rfl⟩
   rw[← hD] at cm ⊢
   by_cases hd:D=0
   ·rw[qaF (show ¬ x+y<0 by omega)]
    exact qph cl hge cm (by simp[hd]) (by simp[hd])
   ·rw[qaM (show x+y<0 by omega)]
    by_cases hh:D/18446744073709551616=0
    ·exact qmC cl hge cm (by simp[hh]) (by simp;omega)
    ·exact qou cl hge cm (by simp;omega)
  ·have cm:=qeW false true y.natAbs x.natAbs (by omega) (by omega)
   rw[show (x+y).natAbs=y.natAbs-x.natAbs by omega,qaF (show ¬ x+y<0 by omega)]
   exact qre cl (by unfold qgy;rw[if_pos (by omega)];decide) cm
 ·rw[qaF sx,qaM sy]
  have cl:=qd1 false true x.natAbs y.natAbs
  by_cases hc:y.natAbs≤x.natAbs
  ·have cm:=qeW false true x.natAbs y.natAbs (by omega) hc
   rw[show (x+y).natAbs=x.natAbs-y.natAbs by omega,qaF (show ¬ x+y<0 by omega)]
   exact qqw cl (by unfold qgy;rw[if_neg (by omega)];split<;>decide) cm
  ·have cm:=qeW true false y.natAbs x.natAbs (by omega) (by omega)
   rw[show (x+y).natAbs=y.natAbs-x.natAbs by omega,qaM (show x+y<0 by omega)]
   exact qsa cl (by unfold qgy;rw[if_pos (by omega)];decide) cm
 ·rw[qaF sx,qaF sy,qaF (show ¬ x+y<0 by omega),show (x+y).natAbs=x.natAbs+y.natAbs by omega]
  exact qBc false _ _ (by omega)
theorem qow (g s t:Bool) (A B:Nat):Pure Tryz.prog 326 #[.bool g,qiD s A,qiD t B] (.tuple #[qaa (qd8 (qbn A&&qbn B) (sgV A g)) (qd8 (qbn A&&qbn B) (B:Int)),iV (qm5 (qbn A&&qbn B))]):=by
 by_cases hA:A<9223372036854775808
 ·by_cases hB:B<9223372036854775808
  ·have hf:(qbn A&&qbn B)=true:=by simp[qbn,hA,hB]
   rw[hf,show qd8 true (sgV A g)=sgV A g from rfl,show qd8 true (B:Int)=(B:Int) from rfl,show qm5 true=0 from rfl]
   have v1:iV (IntKind.i64.wrap ((A%18446744073709551616:Nat):Int))=iV (A:Int):=by rw[qap (by omega) (by omega)];congr 1;omega
   have v3:iV (IntKind.i64.wrap ((B%18446744073709551616:Nat):Int))=iV (B:Int):=by rw[qap (by omega) (by omega)];congr 1;omega
   cases g
   ·rw[show sgV A false=(A:Int) by unfold sgV;rw[if_pos hA];rfl]
    exact qwJ (by simp;omega) (by simp;omega) (by simp;omega) (by simp;omega) v1 v3
   ·rw[show sgV A true = -(A:Int) by unfold sgV;rw[if_pos hA];rfl]
    exact qvb (by simp;omega) (by simp;omega) (by simp;omega) (by simp;omega) v1 (by rw[Int.zero_sub,qap (by omega) (by omega)]) v3
  ·rw[show (qbn A&&qbn B)=false by simp[qbn,hB]]
   by_cases hh:B/18446744073709551616=0
   ·exact qtE (by simp;omega) (by simp;omega) (by simp;omega) (by simp;omega)
   ·exact qrj (by simp;omega) (by simp;omega) (by simp;omega)
 ·rw[show (qbn A&&qbn B)=false by simp[qbn,hA]]
  by_cases hh:A/18446744073709551616=0
  ·exact qs4 (by simp;omega) (by simp;omega)
  ·exact qqU (by simp;omega)
end Go.Proofs.YtkckcgpmnipnaaaGreat

namespace Go.Proofs.YtkckcgpmnipnaaaGreat
set_option maxRecDepth 100000
open Go.RowKit
abbrev qD2 (x:Int):Prop:=Pure Tryz.prog 88 #[qd5 (x)] (iV x.sign)
abbrev qDx (y:Int):Prop:=Pure Tryz.prog 88 #[qd5 (y)] (iV y.sign)
theorem qls {a b c d x y:Int} (c1:Pure Tryz.prog 87 #[iV a,iV d] (qd5 (x))) (c2:Pure Tryz.prog 87 #[iV c,iV b] (qd5 (y))) (s1:qD2 x) (s2:qDx y) (t1:(x.sign !=y.sign)=true) (t2:decide (x.sign<y.sign)=true) :
 Pure Tryz.prog 40 #[qaa a b,qaa c d] (iV (-1)):=
 qac (args:=[qaa a b,qaa c d]) 200 [Rf c1,Rf c2,Rf s1,Rf s2,.t true,Rf s1,Rf s2,.t true]
  (Ai rfl (Ai c1 (Ai c2 (Ai s1 (Ai s2 (Ai t1 (Ai s1 (Ai s2 (Ai t2 tI))))))))) (by kernel_rfl)
theorem qlq {a b c d x y:Int} (c1:Pure Tryz.prog 87 #[iV a,iV d] (qd5 (x))) (c2:Pure Tryz.prog 87 #[iV c,iV b] (qd5 (y))) (s1:qD2 x) (s2:qDx y) (t1:(x.sign !=y.sign)=true) (t2:decide (x.sign<y.sign)=false) :
 Pure Tryz.prog 40 #[qaa a b,qaa c d] (iV 1):=
 qac (args:=[qaa a b,qaa c d]) 200 [Rf c1,Rf c2,Rf s1,Rf s2,.t true,Rf s1,Rf s2,.t false]
  (Ai rfl (Ai c1 (Ai c2 (Ai s1 (Ai s2 (Ai t1 (Ai s1 (Ai s2 (Ai t2 tI))))))))) (by kernel_rfl)
theorem qlc {a b c d x y e:Int} (c1:Pure Tryz.prog 87 #[iV a,iV d] (qd5 (x))) (c2:Pure Tryz.prog 87 #[iV c,iV b] (qd5 (y))) (s1:qD2 x) (s2:qDx y) (t1:(x.sign !=y.sign)=false) (t3:decide (x.sign<0)=true) (l1:Pure Tryz.prog 89 #[qd5 (y),qd5 (x)] (iV e)) :
 Pure Tryz.prog 40 #[qaa a b,qaa c d] (iV e):=
 qac (args:=[qaa a b,qaa c d]) 200 [Rf c1,Rf c2,Rf s1,Rf s2,.t false,Rf s1,.t true,Rf l1]
  (Ai rfl (Ai c1 (Ai c2 (Ai s1 (Ai s2 (Ai t1 (Ai s1 (Ai t3 (Ai l1 tI))))))))) (by kernel_rfl)
theorem qk5 {a b c d x y e:Int} (c1:Pure Tryz.prog 87 #[iV a,iV d] (qd5 (x))) (c2:Pure Tryz.prog 87 #[iV c,iV b] (qd5 (y))) (s1:qD2 x) (s2:qDx y) (t1:(x.sign !=y.sign)=false) (t3:decide (x.sign<0)=false) (l1:Pure Tryz.prog 89 #[qd5 (x),qd5 (y)] (iV e)) :
 Pure Tryz.prog 40 #[qaa a b,qaa c d] (iV e):=
 qac (args:=[qaa a b,qaa c d]) 200 [Rf c1,Rf c2,Rf s1,Rf s2,.t false,Rf s1,.t false,Rf l1]
  (Ai rfl (Ai c1 (Ai c2 (Ai s1 (Ai s2 (Ai t1 (Ai s1 (Ai t3 (Ai l1 tI))))))))) (by kernel_rfl)
end Go.Proofs.YtkckcgpmnipnaaaGreat

namespace Go.Proofs.YtkckcgpmnipnaaaGreat
set_option maxRecDepth 100000
open Go.RowKit
theorem qhP {a b c d:Int} (ha:I64 a) (hb:I64 b) (hc:I64 c) (hd:I64 d):Pure Tryz.prog 40 #[qaa a b,qaa c d] (iV (a*d-c*b).sign):=by
 have c1:=qb5 a d ha hd
 have c2:=qb5 c b hc hb
 generalize a*d=x at *
 generalize c*b=y at *
 have s1:=qfz x
 have s2:=qfz y
 have kx:x<0∧x.sign = -1∨x=0∧x.sign=0∨0<x∧x.sign=1:=by
  rcases Int.lt_trichotomy x 0 with h | h | h
  ·exact Or.inl ⟨h,Int.sign_eq_neg_one_of_neg h⟩
  ·exact Or.inr (Or.inl ⟨h,by rw[h];rfl⟩)
  ·exact Or.inr (Or.inr ⟨h,Int.sign_eq_one_of_pos h⟩)
 have ky:y<0∧y.sign = -1∨y=0∧y.sign=0∨0<y∧y.sign=1:=by
  rcases Int.lt_trichotomy y 0 with h | h | h
  ·exact Or.inl ⟨h,Int.sign_eq_neg_one_of_neg h⟩
  ·exact Or.inr (Or.inl ⟨h,by rw[h];rfl⟩)
  ·exact Or.inr (Or.inr ⟨h,Int.sign_eq_one_of_pos h⟩)
 have kd:x-y<0∧(x-y).sign = -1∨x-y=0∧(x-y).sign=0∨0<x-y∧(x-y).sign=1:=by
  rcases Int.lt_trichotomy (x-y) 0 with h | h | h
  ·exact Or.inl ⟨h,Int.sign_eq_neg_one_of_neg h⟩
  ·exact Or.inr (Or.inl ⟨h,by rw[h];rfl⟩)
  ·exact Or.inr (Or.inr ⟨h,Int.sign_eq_one_of_pos h⟩)
 by_cases he:x.sign=y.sign
 ·by_cases hn:x.sign<0
  ·have l:=qd1 (decide (y<0)) (decide (x<0)) y.natAbs x.natAbs
   rw[show (x-y).sign=qgy y.natAbs x.natAbs by unfold qgy;split<;>(try split)<;>omega]
   exact qlc c1 c2 s1 s2 (by simp[he]) (qaM hn) l
  ·have l:=qd1 (decide (x<0)) (decide (y<0)) x.natAbs y.natAbs
   rw[show (x-y).sign=qgy x.natAbs y.natAbs by unfold qgy;split<;>(try split)<;>omega]
   exact qk5 c1 c2 s1 s2 (by simp[he]) (qaF hn) l
 ·by_cases hl:x.sign<y.sign
  ·rw[show (x-y).sign = -1 by omega]
   exact qls c1 c2 s1 s2 (by simpa using he) (qaM hl)
  ·rw[show (x-y).sign=1 by omega]
   exact qlq c1 c2 s1 s2 (by simpa using he) (qaF hl)
theorem qjr (a b g:Nat) (ha:a<18446744073709551616) (hb:b<18446744073709551616) (hg:g=Nat.gcd a b):Pure Tryz.prog 94 #[.int .u64 a,.int .u64 b] (.int .u64 (g:Int)):=
 fun w=>hg▸qo4 a b w ha hb
theorem qHJ {x y:Nat} (h:x<18446744073709551616):Value.int .u64 (IntKind.u64.wrap ((x:Int).tdiv (y:Int)))=.int .u64 ((x/y:Nat):Int):=qgV (qB6 x y) (Int.natCast_nonneg _) (by have:=Nat.div_le_self x y;omega)
theorem qxy {f:Bool} {U:Nat} (h:f=true→U<9223372036854775808):qd8 f (sgV U false)=qd8 f (U:Int):=by
 cases f
 ·rfl
 ·show sgV U false=(U:Int)
  unfold sgV
  rw[if_pos (h rfl)]
  rfl
end Go.Proofs.YtkckcgpmnipnaaaGreat

namespace Go.Proofs.YtkckcgpmnipnaaaGreat
set_option maxRecDepth 100000
open Go.RowKit
theorem qe9 (X:Int):(X.sign≥0)↔0≤X:=by
 rcases Int.lt_trichotomy X 0 with h | h | h
 ·rw[Int.sign_eq_neg_one_of_neg h];omega
 ·rw[h];decide
 ·rw[Int.sign_eq_one_of_pos h];omega
theorem qgx {pi pa pb qi qa qb n d m k:Int} (k0:0<k) (h4:m*(pb-qb)=(qa-pa)*k) (hb:pb≠qb) :
 qbp (pa*d+pb*n) (qa*d+qb*n) pb qb pi qi=(decide (pb>qb)==decide ((n*k-m*d).sign≥0)):=by
 have key:(pa*d+pb*n-(qa*d+qb*n))*k=(pb-qb)*(n*k-m*d):=by
  have e1:(pb-qb)*(m*d)=(qa-pa)*k*d:=by rw[← h4,← Int.mul_assoc,Int.mul_comm (pb-qb) m]
  rw[Int.mul_sub,e1,Int.sub_mul,Int.add_mul,Int.add_mul,Int.sub_mul,Int.sub_mul,Int.sub_mul,← Int.mul_assoc,← Int.mul_assoc,Int.mul_right_comm qa k d,Int.mul_right_comm pa k d]
  omega
 have hs:=qe9 (n*k-m*d)
 generalize n*k-m*d=X at *
 generalize pa*d+pb*n=P at *
 generalize qa*d+qb*n=Q at *
 have hk:((P-Q)*k<0↔P-Q<0)∧(0<(P-Q)*k↔0<P-Q):=by
  rcases Int.lt_trichotomy (P-Q) 0 with h | h | h
  ·have:=Int.mul_neg_of_neg_of_pos h k0;omega
  ·rw[h];simp
  ·have:=Int.mul_pos h k0;omega
 have hx:((pb-qb)*X<0↔(pb>qb∧X<0∨pb<qb∧0<X))∧(0<(pb-qb)*X↔(pb>qb∧0<X∨pb<qb∧X<0)):=by
  rcases Int.lt_trichotomy X 0 with h | h | h
  ·rcases Int.lt_or_gt_of_ne hb with g | g
   ·have:=Int.mul_pos_of_neg_of_neg (show pb-qb<0 by omega) h;omega
   ·have:=Int.mul_neg_of_pos_of_neg (show 0<pb-qb by omega) h;omega
  ·rw[h];simp
  ·rcases Int.lt_or_gt_of_ne hb with g | g
   ·have:=Int.mul_neg_of_neg_of_pos (show pb-qb<0 by omega) h;omega
   ·have:=Int.mul_pos (show 0<pb-qb by omega) h;omega
 rw[key] at hk
 by_cases g:pb>qb
 ·by_cases l:0≤X
  ·rw[dt g,dt (hs.2 l)];exact qbZ (by omega)
  ·rw[dt g,df (fun h=>l (hs.1 h))];exact qbU (by omega)
 ·by_cases l:0≤X
  ·rw[df g,dt (hs.2 l)];exact qbU (by omega)
  ·rw[df g,df (fun h=>l (hs.1 h))];exact qbZ (by omega)
theorem qgb {pi pa b qi qa n d:Int} (d0:0<d):qbp (pa*d+b*n) (qa*d+b*n) b b pi qi=qbp pa qa b b pi qi:=by
 have e:pa*d-qa*d=(pa-qa)*d:=(Int.sub_mul _ _ _).symm
 have hk:((pa-qa)*d<0↔pa-qa<0)∧(0<(pa-qa)*d↔0<pa-qa):=by
  rcases Int.lt_trichotomy (pa-qa) 0 with h | h | h
  ·have:=Int.mul_neg_of_neg_of_pos h d0;omega
  ·rw[h];simp
  ·have:=Int.mul_pos h d0;omega
 unfold qbp
 rw[← e] at hk
 exact decide_eq_decide.2 (by omega)
theorem qlG {pi pa pb qi qa qb:Int} (h:pi≠qi):Pure Tryz.prog 204 #[qab pi pa pb,qab qi qa qb] (iV 0):=qDu (by simp[h])
theorem qhU {pi pa pb qi qa qb:Int} (hp:okP pi pa pb=true) (hq:okP qi qa qb=true) (hb:pb≠qb) :
 ∃ m k,okB m k=true∧I64 m∧I64 k∧m*(pb-qb)=(qa-pa)*k∧Pure Tryz.prog 248 #[qab pi pa pb,qab qi qa qb] (qaa m k)∧Pure Tryz.prog 248 #[qab qi qa qb,qab pi pa pb] (qaa m k):=by
 obtain⟨m,k,h1,h2,h3,h4,h5⟩:=qeo hp hq hb
 obtain⟨m',k',g1,g2,g3,g4,g5⟩:=qeo hq hp (Ne.symm hb)
 have e:m*k'=m'*k:=by
  refine Int.eq_of_mul_eq_mul_right (show pb-qb≠0 by omega) ?_
  have a1:m*k'*(pb-qb)=(qa-pa)*k*k':=by rw[Int.mul_right_comm,h4]
  have a2:m'*k*(pb-qb) = -((pa-qa)*k'*k):=by
   rw[Int.mul_right_comm,← Int.neg_mul,← g4,← Int.mul_neg];congr 2;omega
  rw[a1,a2,← Int.neg_mul,← Int.neg_mul,Int.mul_right_comm (qa-pa) k k']
  congr 2;omega
 obtain⟨rfl,rfl⟩:=qiP h1 g1 e
 exact⟨m,k,h1,h2,h3,h4,h5,g5⟩
end Go.Proofs.YtkckcgpmnipnaaaGreat

namespace Go.Proofs.YtkckcgpmnipnaaaGreat
set_option maxRecDepth 100000
open Go.RowKit
abbrev qBA (g:Int) (za:Int) (zb:Int):Prop:=Pure Tryz.prog 94 #[.int .u64 za,.int .u64 zb] (.int .u64 g)
abbrev qBf (a:Int) (za:Int):Prop:=Pure Tryz.prog 95 #[iV a] (.int .u64 za)
abbrev qzS (b:Int) (zb:Int):Prop:=Pure Tryz.prog 95 #[iV b] (.int .u64 zb)
abbrev quY (D:Int) (E:Int) (N:Int) (x:Int) (y:Int):Prop:=Pure Tryz.prog 326 #[.bool false,qav false 0 x,qav false 0 y] (.tuple #[qaa N D,iV E])
theorem qom {a b za zb g x y N D E:Int} (b0:(b==0)=false) (z1:qBf a za) (z2:qzS b zb) (g1:qBA g za zb) (t1:decide (a<0)=true) (t2:decide (b<0)=true) (gz:¬ (g:Int)=0) (q1:Value.int .u64 (IntKind.u64.wrap (za.tdiv g))=.int .u64 x) (q2:Value.int .u64 (IntKind.u64.wrap (zb.tdiv g))=.int .u64 y) (m1:quY D E N x y) :
 Pure Tryz.prog 295 #[iV a,iV b] (.tuple #[qaa N D,iV E]):=
 qac (args:=[iV a,iV b]) 400 [.t false,Rf z1,Rf z2,Rf g1,.t true,.t true,.k,Rf z1,Re q1,Rf z2,Re q2,Rf m1]
  (Ai rfl (Ai b0 (Ai z1 (Ai z2 (Ai g1 (Ai t1 (Ai t2 (Ai z1 (Ai gz (Ai q1 (Ai z2 (Ai gz (Ai q2 (Ai m1 tI)))))))))))))) (by kernel_rfl)
theorem qnB {a b za zb g x y N D E:Int} (b0:(b==0)=false) (z1:qBf a za) (z2:qzS b zb) (g1:qBA g za zb) (t1:decide (a<0)=true) (t2:decide (b<0)=false) (t3:(a !=0)=true) (gz:¬ (g:Int)=0) (q1:Value.int .u64 (IntKind.u64.wrap (za.tdiv g))=.int .u64 x) (q2:Value.int .u64 (IntKind.u64.wrap (zb.tdiv g))=.int .u64 y) (m1:Pure Tryz.prog 326 #[.bool true,qav false 0 x,qav false 0 y] (.tuple #[qaa N D,iV E])) :
 Pure Tryz.prog 295 #[iV a,iV b] (.tuple #[qaa N D,iV E]):=
 qac (args:=[iV a,iV b]) 400 [.t false,Rf z1,Rf z2,Rf g1,.t true,.t false,.k,.t true,Rf z1,Re q1,Rf z2,Re q2,Rf m1]
  (Ai rfl (Ai b0 (Ai z1 (Ai z2 (Ai g1 (Ai t1 (Ai t2 (Ai t3 (Ai z1 (Ai gz (Ai q1 (Ai z2 (Ai gz (Ai q2 (Ai m1 tI))))))))))))))) (by kernel_rfl)
theorem qnR {a b za zb g x y N D E:Int} (b0:(b==0)=false) (z1:qBf a za) (z2:qzS b zb) (g1:qBA g za zb) (t1:decide (a<0)=false) (t2:decide (b<0)=true) (t3:(a !=0)=true) (gz:¬ (g:Int)=0) (q1:Value.int .u64 (IntKind.u64.wrap (za.tdiv g))=.int .u64 x) (q2:Value.int .u64 (IntKind.u64.wrap (zb.tdiv g))=.int .u64 y) (m1:Pure Tryz.prog 326 #[.bool true,qav false 0 x,qav false 0 y] (.tuple #[qaa N D,iV E])) :
 Pure Tryz.prog 295 #[iV a,iV b] (.tuple #[qaa N D,iV E]):=
 qac (args:=[iV a,iV b]) 400 [.t false,Rf z1,Rf z2,Rf g1,.t false,.t true,.k,.t true,Rf z1,Re q1,Rf z2,Re q2,Rf m1]
  (Ai rfl (Ai b0 (Ai z1 (Ai z2 (Ai g1 (Ai t1 (Ai t2 (Ai t3 (Ai z1 (Ai gz (Ai q1 (Ai z2 (Ai gz (Ai q2 (Ai m1 tI))))))))))))))) (by kernel_rfl)
theorem qnu {a b za zb g x y N D E:Int} (b0:(b==0)=false) (z1:qBf a za) (z2:qzS b zb) (g1:qBA g za zb) (t1:decide (a<0)=false) (t2:decide (b<0)=true) (t3:(a !=0)=false) (gz:¬ (g:Int)=0) (q1:Value.int .u64 (IntKind.u64.wrap (za.tdiv g))=.int .u64 x) (q2:Value.int .u64 (IntKind.u64.wrap (zb.tdiv g))=.int .u64 y) (m1:quY D E N x y) :
 Pure Tryz.prog 295 #[iV a,iV b] (.tuple #[qaa N D,iV E]):=
 qac (args:=[iV a,iV b]) 400 [.t false,Rf z1,Rf z2,Rf g1,.t false,.t true,.k,.t false,Rf z1,Re q1,Rf z2,Re q2,Rf m1]
  (Ai rfl (Ai b0 (Ai z1 (Ai z2 (Ai g1 (Ai t1 (Ai t2 (Ai t3 (Ai z1 (Ai gz (Ai q1 (Ai z2 (Ai gz (Ai q2 (Ai m1 tI))))))))))))))) (by kernel_rfl)
theorem qpu {a b za zb g x y N D E:Int} (b0:(b==0)=false) (z1:qBf a za) (z2:qzS b zb) (g1:qBA g za zb) (t1:decide (a<0)=false) (t2:decide (b<0)=false) (gz:¬ (g:Int)=0) (q1:Value.int .u64 (IntKind.u64.wrap (za.tdiv g))=.int .u64 x) (q2:Value.int .u64 (IntKind.u64.wrap (zb.tdiv g))=.int .u64 y) (m1:quY D E N x y) :
 Pure Tryz.prog 295 #[iV a,iV b] (.tuple #[qaa N D,iV E]):=
 qac (args:=[iV a,iV b]) 400 [.t false,Rf z1,Rf z2,Rf g1,.t false,.t false,.k,Rf z1,Re q1,Rf z2,Re q2,Rf m1]
  (Ai rfl (Ai b0 (Ai z1 (Ai z2 (Ai g1 (Ai t1 (Ai t2 (Ai z1 (Ai gz (Ai q1 (Ai z2 (Ai gz (Ai q2 (Ai m1 tI)))))))))))))) (by kernel_rfl)
theorem qp6 {pi pa pb qi qa qb n d u v x y s:Int} (v1:iV (IntKind.i64.wrap (pa-qa))=iV u) (c1:Pure Tryz.prog 87 #[iV u,iV d] (qd5 x)) (v2:iV (IntKind.i64.wrap (pb-qb))=iV v) (c2:Pure Tryz.prog 87 #[iV v,iV n] (qd5 y)) (c3:Pure Tryz.prog 202 #[qd5 x,qd5 y] (qd5 s)) (c4:Pure Tryz.prog 88 #[qd5 s] (iV s.sign)) :
 Pure Tryz.prog 156 #[qab pi pa pb,qab qi qa qb,qaa n d] (iV s.sign):=
 qac (args:=[qab pi pa pb,qab qi qa qb,qaa n d]) 200 [Re v1,Rf c1,Re v2,Rf c2,Rf c3,Rf c4]
  (Ai rfl (Ai v1 (Ai c1 (Ai v2 (Ai c2 (Ai c3 (Ai c4 tI))))))) (by kernel_rfl)
abbrev qy9 (d:Int) (f:Int) (n:Int) (pa:Int) (pb:Int) (pi:Int) (qa:Int) (qb:Int) (qi:Int):Prop:=Pure Tryz.prog 156 #[qab pi pa pb,qab qi qa qb,qaa n d] (iV f)
theorem qjC {pi pa pb qi qa qb n d f:Int} (c:qy9 d f n pa pb pi qa qb qi) (z:(f !=0)=true) (g:decide (f>0)=true) :
 Pure Tryz.prog 90 #[qab pi pa pb,qab qi qa qb,qaa n d] (.bool true):=
 qac (args:=[qab pi pa pb,qab qi qa qb,qaa n d]) 200 [Rf c,.t true,.t true]
  (Ai rfl (Ai c (Ai z (Ai g tI)))) (by kernel_rfl)
theorem qo9 {pi pa pb qi qa qb n d f:Int} (c:qy9 d f n pa pb pi qa qb qi) (z:(f !=0)=false) (bb:(pb !=qb)=true) (g:decide (pb>qb)=true) :
 Pure Tryz.prog 90 #[qab pi pa pb,qab qi qa qb,qaa n d] (.bool true):=
 qac (args:=[qab pi pa pb,qab qi qa qb,qaa n d]) 200 [Rf c,.t false,.t true,.t true]
  (Ai rfl (Ai c (Ai z (Ai bb (Ai g tI))))) (by kernel_rfl)
theorem qmw {pi pa pb qi qa qb n d f:Int} (c:qy9 d f n pa pb pi qa qb qi) (z:(f !=0)=false) (bb:(pb !=qb)=false) (g:decide (pi<qi)=true) :
 Pure Tryz.prog 90 #[qab pi pa pb,qab qi qa qb,qaa n d] (.bool true):=
 qac (args:=[qab pi pa pb,qab qi qa qb,qaa n d]) 200 [Rf c,.t false,.t false,.t true]
  (Ai rfl (Ai c (Ai z (Ai bb (Ai g tI))))) (by kernel_rfl)
theorem qiN {pi pa pb qi qa qb n d f:Int} (c:qy9 d f n pa pb pi qa qb qi) (z:(f !=0)=true) (g:decide (f>0)=false) :
 Pure Tryz.prog 90 #[qab pi pa pb,qab qi qa qb,qaa n d] (.bool false):=
 qac (args:=[qab pi pa pb,qab qi qa qb,qaa n d]) 200 [Rf c,.t true,.t false]
  (Ai rfl (Ai c (Ai z (Ai g tI)))) (by kernel_rfl)
theorem qnb {pi pa pb qi qa qb n d f:Int} (c:qy9 d f n pa pb pi qa qb qi) (z:(f !=0)=false) (bb:(pb !=qb)=true) (g:decide (pb>qb)=false) :
 Pure Tryz.prog 90 #[qab pi pa pb,qab qi qa qb,qaa n d] (.bool false):=
 qac (args:=[qab pi pa pb,qab qi qa qb,qaa n d]) 200 [Rf c,.t false,.t true,.t false]
  (Ai rfl (Ai c (Ai z (Ai bb (Ai g tI))))) (by kernel_rfl)
theorem qmW {pi pa pb qi qa qb n d f:Int} (c:qy9 d f n pa pb pi qa qb qi) (z:(f !=0)=false) (bb:(pb !=qb)=false) (g:decide (pi<qi)=false) :
 Pure Tryz.prog 90 #[qab pi pa pb,qab qi qa qb,qaa n d] (.bool false):=
 qac (args:=[qab pi pa pb,qab qi qa qb,qaa n d]) 200 [Rf c,.t false,.t false,.t false]
  (Ai rfl (Ai c (Ai z (Ai bb (Ai g tI))))) (by kernel_rfl)
theorem qq7 {pi pa pb qi qa qb x y m k:Int} (v1:iV (IntKind.i64.wrap (pa-qa))=iV x) (v2:iV (IntKind.i64.wrap (qb-pb))=iV y) (c1:Pure Tryz.prog 295 #[iV x,iV y] (.tuple #[qaa m k,iV 0])) :
 Pure Tryz.prog 233 #[qab pi pa pb,qab qi qa qb] (qaa m k):=
 qac (args:=[qab pi pa pb,qab qi qa qb]) 200 [Re v1,Re v2,Rf c1]
  (Ai rfl (Ai v1 (Ai v2 (Ai c1 tI)))) (by kernel_rfl)
theorem qi4 {pi pa pb qi qa qb n d:Int} (l:Pure Tryz.prog 90 #[qab qi qa qb,qab pi pa pb,qaa n d] (.bool true)) :
 Pure Tryz.prog 188 #[qab pi pa pb,qab qi qa qb,qaa n d] (.tuple #[qaa n d,.bool true]):=
 qac (args:=[qab pi pa pb,qab qi qa qb,qaa n d]) 200 [Rf l]
  (Ai rfl (Ai l tI)) (by kernel_rfl)
theorem qiG {pi pa pb qi qa qb n d m k:Int} (l:Pure Tryz.prog 90 #[qab qi qa qb,qab pi pa pb,qaa n d] (.bool false)) (g:decide (qb>pb)=true) (m1:Pure Tryz.prog 233 #[qab pi pa pb,qab qi qa qb] (qaa m k)) :
 Pure Tryz.prog 188 #[qab pi pa pb,qab qi qa qb,qaa n d] (.tuple #[qaa m k,.bool true]):=
 qac (args:=[qab pi pa pb,qab qi qa qb,qaa n d]) 200 [Rf l,.t true,Rf m1]
  (Ai rfl (Ai l (Ai g (Ai m1 tI)))) (by kernel_rfl)
theorem qfZ {pi pa pb qi qa qb n d:Int} (l:Pure Tryz.prog 90 #[qab qi qa qb,qab pi pa pb,qaa n d] (.bool false)) (g:decide (qb>pb)=false) :
 Pure Tryz.prog 188 #[qab pi pa pb,qab qi qa qb,qaa n d] (.tuple #[qaa 0 0,.bool false]):=
 qac (args:=[qab pi pa pb,qab qi qa qb,qaa n d]) 200 [Rf l,.t false]
  (Ai rfl (Ai l (Ai g tI))) (by kernel_rfl)
abbrev quA (d:Int) (n:Int):Prop:=Pure Tryz.prog 101 #[qaa n d] (iV 0)
abbrev qt1 (pa:Int) (pb:Int) (pi:Int) (qa:Int) (qb:Int) (qi:Int):Prop:=Pure Tryz.prog 204 #[qab pi pa pb,qab qi qa qb] (iV 0)
abbrev quy (pa:Int) (pb:Int) (pi:Int):Prop:=Pure Tryz.prog 137 #[qab pi pa pb] (iV 0)
abbrev qtV (qa:Int) (qb:Int) (qi:Int):Prop:=Pure Tryz.prog 137 #[qab qi qa qb] (iV 0)
theorem qrA {pi pa pb qi qa qb n d:Int} (cp:quy pa pb pi) (cq:qtV qa qb qi) (ct:quA d n) (ci:qt1 pa pb pi qa qb qi) (w:(qa==pa&&(qb==pb&&true))=true) (r:decide (qi<pi)=true) :
 Pure Tryz.prog 266 #[qab pi pa pb,qab qi qa qb,qaa n d] (.tuple #[qaa n d,.bool true,iV 0]):=
 qac (args:=[qab pi pa pb,qab qi qa qb,qaa n d]) 400 [Rf cp,Rf cp,Rf cp,Rf cp,.k,.k,.k,.k,.k,.k,.k,.k,.k,.k,.k,.k,.k,.k,.k,.k,.k,.k,.t true,.k,.t true]
  (Ai rfl (Ai cp (Ai cq (Ai ct (Ai ci (Ai w (Ai r tI))))))) (by kernel_rfl)
theorem qtb {pi pa pb qi qa qb n d:Int} (cp:quy pa pb pi) (cq:qtV qa qb qi) (ct:quA d n) (ci:qt1 pa pb pi qa qb qi) (w:(qa==pa&&(qb==pb&&true))=true) (r:decide (qi<pi)=false) (gb:decide (qb>pb)=false) :
 Pure Tryz.prog 266 #[qab pi pa pb,qab qi qa qb,qaa n d] (.tuple #[qaa 0 0,.bool false,iV 0]):=
 qac (args:=[qab pi pa pb,qab qi qa qb,qaa n d]) 400 [Rf cp,Rf cp,Rf cp,Rf cp,.k,.k,.k,.k,.k,.k,.k,.k,.k,.k,.k,.k,.k,.k,.k,.k,.k,.k,.t true,.k,.t false,.t false]
  (Ai rfl (Ai cp (Ai cq (Ai ct (Ai ci (Ai w (Ai r (Ai gb tI)))))))) (by kernel_rfl)
theorem qr2 {pi pa pb qi qa qb n d:Int} (cp:quy pa pb pi) (cq:qtV qa qb qi) (ct:quA d n) (ci:qt1 pa pb pi qa qb qi) (w:(qa==pa&&(qb==pb&&true))=false) (bb:(qb==pb)=true) (r:decide (qa>pa)=true) :
 Pure Tryz.prog 266 #[qab pi pa pb,qab qi qa qb,qaa n d] (.tuple #[qaa n d,.bool true,iV 0]):=
 qac (args:=[qab pi pa pb,qab qi qa qb,qaa n d]) 400 [Rf cp,Rf cp,Rf cp,Rf cp,.k,.k,.k,.k,.k,.k,.k,.k,.k,.k,.k,.k,.k,.k,.k,.k,.k,.k,.t false,.t true,.k,.t true]
  (Ai rfl (Ai cp (Ai cq (Ai ct (Ai ci (Ai w (Ai bb (Ai r tI)))))))) (by kernel_rfl)
theorem qsv {pi pa pb qi qa qb n d:Int} (cp:quy pa pb pi) (cq:qtV qa qb qi) (ct:quA d n) (ci:qt1 pa pb pi qa qb qi) (w:(qa==pa&&(qb==pb&&true))=false) (bb:(qb==pb)=true) (r:decide (qa>pa)=false) (gb:decide (qb>pb)=false) :
 Pure Tryz.prog 266 #[qab pi pa pb,qab qi qa qb,qaa n d] (.tuple #[qaa 0 0,.bool false,iV 0]):=
 qac (args:=[qab pi pa pb,qab qi qa qb,qaa n d]) 400 [Rf cp,Rf cp,Rf cp,Rf cp,.k,.k,.k,.k,.k,.k,.k,.k,.k,.k,.k,.k,.k,.k,.k,.k,.k,.k,.t false,.t true,.k,.t false,.t false]
  (Ai rfl (Ai cp (Ai cq (Ai ct (Ai ci (Ai w (Ai bb (Ai r (Ai gb tI))))))))) (by kernel_rfl)
abbrev qDF (c:Int) (d:Int) (md:Int) (mn:Int) (n:Int):Prop:=Pure Tryz.prog 190 #[qaa n d,qaa mn md] (.tuple #[iV c,iV 0])
theorem qoC {pi pa pb qi qa qb n d mn md c:Int} (cp:quy pa pb pi) (cq:qtV qa qb qi) (ct:quA d n) (ci:qt1 pa pb pi qa qb qi) (w:(qa==pa&&(qb==pb&&true))=false) (bb:(qb==pb)=false) (cm:Pure Tryz.prog 248 #[qab qi qa qb,qab pi pa pb] (qaa mn md)) (cc:qDF c d md mn n) (g1:decide (c≥0)=true) (gb:decide (qb>pb)=true) :
 Pure Tryz.prog 266 #[qab pi pa pb,qab qi qa qb,qaa n d] (.tuple #[qaa n d,.bool true,iV 0]):=
 qac (args:=[qab pi pa pb,qab qi qa qb,qaa n d]) 400 [Rf cp,Rf cp,Rf cp,Rf cp,.k,.k,.k,.k,.k,.k,.k,.k,.k,.k,.k,.k,.k,.k,.k,.k,.k,.k,.t false,.t false,Rf cm,.k,Rf cc,.t true,.t true,.k]
  (Ai rfl (Ai cp (Ai cq (Ai ct (Ai ci (Ai w (Ai bb (Ai cm (Ai cc (Ai g1 (Ai gb tI))))))))))) (by kernel_rfl)
theorem qnC {pi pa pb qi qa qb n d mn md c:Int} (cp:quy pa pb pi) (cq:qtV qa qb qi) (ct:quA d n) (ci:qt1 pa pb pi qa qb qi) (w:(qa==pa&&(qb==pb&&true))=false) (bb:(qb==pb)=false) (cm:Pure Tryz.prog 248 #[qab qi qa qb,qab pi pa pb] (qaa mn md)) (cc:qDF c d md mn n) (g1:decide (c≥0)=true) (gb:decide (qb>pb)=false) :
 Pure Tryz.prog 266 #[qab pi pa pb,qab qi qa qb,qaa n d] (.tuple #[qaa 0 0,.bool false,iV 0]):=
 qac (args:=[qab pi pa pb,qab qi qa qb,qaa n d]) 400 [Rf cp,Rf cp,Rf cp,Rf cp,.k,.k,.k,.k,.k,.k,.k,.k,.k,.k,.k,.k,.k,.k,.k,.k,.k,.k,.t false,.t false,Rf cm,.k,Rf cc,.t true,.t false,.k,.t false]
  (Ai rfl (Ai cp (Ai cq (Ai ct (Ai ci (Ai w (Ai bb (Ai cm (Ai cc (Ai g1 (Ai gb (Ai gb tI)))))))))))) (by kernel_rfl)
theorem qmY {pi pa pb qi qa qb n d mn md c m k:Int} (cp:quy pa pb pi) (cq:qtV qa qb qi) (ct:quA d n) (ci:qt1 pa pb pi qa qb qi) (w:(qa==pa&&(qb==pb&&true))=false) (bb:(qb==pb)=false) (cm:Pure Tryz.prog 248 #[qab qi qa qb,qab pi pa pb] (qaa mn md)) (cc:qDF c d md mn n) (g1:decide (c≥0)=false) (gb:decide (qb>pb)=true) (mt:Pure Tryz.prog 248 #[qab pi pa pb,qab qi qa qb] (qaa m k)) :
 Pure Tryz.prog 266 #[qab pi pa pb,qab qi qa qb,qaa n d] (.tuple #[qaa m k,.bool true,iV 0]):=
 qac (args:=[qab pi pa pb,qab qi qa qb,qaa n d]) 400 [Rf cp,Rf cp,Rf cp,Rf cp,.k,.k,.k,.k,.k,.k,.k,.k,.k,.k,.k,.k,.k,.k,.k,.k,.k,.k,.t false,.t false,Rf cm,.k,Rf cc,.t false,.t true,.k,.t true,Rf mt]
  (Ai rfl (Ai cp (Ai cq (Ai ct (Ai ci (Ai w (Ai bb (Ai cm (Ai cc (Ai g1 (Ai gb (Ai gb (Ai mt tI))))))))))))) (by kernel_rfl)
theorem qoN {pi pa pb qi qa qb n d mn md c:Int} (cp:quy pa pb pi) (cq:qtV qa qb qi) (ct:quA d n) (ci:qt1 pa pb pi qa qb qi) (w:(qa==pa&&(qb==pb&&true))=false) (bb:(qb==pb)=false) (cm:Pure Tryz.prog 248 #[qab qi qa qb,qab pi pa pb] (qaa mn md)) (cc:qDF c d md mn n) (g1:decide (c≥0)=false) (gb:decide (qb>pb)=false) :
 Pure Tryz.prog 266 #[qab pi pa pb,qab qi qa qb,qaa n d] (.tuple #[qaa n d,.bool true,iV 0]):=
 qac (args:=[qab pi pa pb,qab qi qa qb,qaa n d]) 400 [Rf cp,Rf cp,Rf cp,Rf cp,.k,.k,.k,.k,.k,.k,.k,.k,.k,.k,.k,.k,.k,.k,.k,.k,.k,.k,.t false,.t false,Rf cm,.k,Rf cc,.t false,.t false,.k]
  (Ai rfl (Ai cp (Ai cq (Ai ct (Ai ci (Ai w (Ai bb (Ai cm (Ai cc (Ai g1 (Ai gb tI))))))))))) (by kernel_rfl)
end Go.Proofs.YtkckcgpmnipnaaaGreat
