/-
  Joined: Rt, Px, Rw, Cu. Conditions: none.
-/
import Derived.Test.YtleaeldgaflmkaaGreatW29
import Derived.Test.YtleaeldgaflmkaaGreatW25
import Derived.Test.YtleaeldgaflmkaaGreatW28
namespace Go.Proofs.YtleaeldgaflmkaaGreat
set_option maxRecDepth 100000
open Go.RowKit
theorem qg0 (x y:Nat):Int.tdiv (x:Int) (y:Int)=((x/y:Nat):Int):=by rw[Int.tdiv_eq_ediv_of_nonneg (Int.natCast_nonneg x)];simp
theorem qxY (x y:Nat):Int.tmod (x:Int) (y:Int)=((x%y:Nat):Int):=by rw[Int.tmod_eq_emod_of_nonneg (Int.natCast_nonneg x)];simp
theorem qvK (x:Nat) (h:x<18446744073709551616):Value.int .u64 (IntKind.u64.wrap (Int.tdiv (x:Int) 4294967296))=.int .u64 ((x/4294967296:Nat):Int):=by
 rw[show (4294967296:Int)=((4294967296:Nat):Int) from rfl,qg0,qc9 (by omega) (by omega)]
theorem qvu (x:Nat):Value.int .u64 (Int.tmod (x:Int) 4294967296)=.int .u64 ((x%4294967296:Nat):Int):=by
 rw[show (4294967296:Int)=((4294967296:Nat):Int) from rfl,qxY]
theorem qxr {x y:Nat} (h:x*y<18446744073709551616):Value.int .u64 (IntKind.u64.wrap ((x:Int)*(y:Int)))=.int .u64 ((x*y:Nat):Int):=qdI (by simp) (Int.natCast_nonneg _) (by omega)
theorem qsE {x y:Nat} (h:x+y<18446744073709551616):Value.int .u64 (IntKind.u64.wrap ((x:Int)+(y:Int)))=.int .u64 ((x+y:Nat):Int):=qdI (by simp) (by omega) (by omega)
theorem halves (ah al bh bl:Nat):(ah*4294967296+al)*(bh*4294967296+bl)=ah*bh*18446744073709551616+(ah*bl+al*bh)*4294967296+al*bl:=by
 have e1:ah*4294967296*(bh*4294967296)=ah*bh*18446744073709551616:=Nat.mul_mul_mul_comm ah 4294967296 bh 4294967296
 have e2:ah*4294967296*bl=ah*bl*4294967296:=Nat.mul_right_comm ah 4294967296 bl
 have e3:al*(bh*4294967296)=al*bh*4294967296:=(Nat.mul_assoc al bh 4294967296).symm
 rw[Nat.add_mul,Nat.mul_add,Nat.mul_add,e1,e2,e3,Nat.add_mul]
 omega
theorem qdB (a b:Nat) (ha:a<18446744073709551616) (hb:b<18446744073709551616):Pure Tryz.prog 79 #[.int .u64 a,.int .u64 b] (qcO false (a*b)):=by
 obtain⟨ah,hah⟩:∃ x,x=a/4294967296:=⟨_,rfl⟩
 obtain⟨al,hal⟩:∃ x,x=a%4294967296:=⟨_,rfl⟩
 obtain⟨bh,hbh⟩:∃ x,x=b/4294967296:=⟨_,rfl⟩
 obtain⟨bl,hbl⟩:∃ x,x=b%4294967296:=⟨_,rfl⟩
 have e1:a=ah*4294967296+al:=by omega
 have e2:b=bh*4294967296+bl:=by omega
 have key:=halves ah al bh bl
 rw[← e1,← e2] at key
 have m1:ah*bl≤4294967295*4294967295:=Nat.mul_le_mul (by omega) (by omega)
 have m2:al*bh≤4294967295*4294967295:=Nat.mul_le_mul (by omega) (by omega)
 have m3:ah*bh≤4294967295*4294967295:=Nat.mul_le_mul (by omega) (by omega)
 have m4:al*bl≤4294967295*4294967295:=Nat.mul_le_mul (by omega) (by omega)
 have hab:a*b<340282366920938463463374607431768211456:=by
  have:a*b≤18446744073709551615*18446744073709551615:=Nat.mul_le_mul (by omega) (by omega)
  omega
 have x1:=qxr (x:=al) (y:=bl) (by omega)
 have x2:=qxr (x:=ah) (y:=bl) (by omega)
 have x4:=qxr (x:=al) (y:=bh) (by omega)
 have x6:=qxr (x:=ah) (y:=bh) (by omega)
 have q1:=qvK a ha
 have q2:=qvu a
 have q3:=qvK b hb
 have q4:=qvu b
 rw[← hah] at q1
 rw[← hal] at q2
 rw[← hbh] at q3
 rw[← hbl] at q4
 generalize ah*bl=p1 at *
 generalize al*bh=p2 at *
 generalize ah*bh=p3 at *
 generalize al*bl=low at *
 generalize a*b=ab at *
 obtain⟨m,hm⟩:∃ m,m=p1+low/4294967296:=⟨_,rfl⟩
 obtain⟨n,hn⟩:∃ n,n=p2+m%4294967296:=⟨_,rfl⟩
 have r:=qkT (nz:=by decide) q1 q2 q3 q4 x1 x2 (qvK low (by omega)) (qsE (by omega)) x4 (qvu _) (qsE (by omega)) x6 (qvK _ (by omega)) (qsE (by omega)) (qvK _ (by omega)) (qsE (by omega))
  (qvu _) (qdI (y:=((n%4294967296*4294967296:Nat):Int)) (by rw[hn,hm];simp) (by omega) (by omega)) (qvu _) (qsE (by omega))
 rw[← hm,← hn] at r
 have f1:p3+m/4294967296+n/4294967296=ab/18446744073709551616:=by omega
 have f2:n%4294967296*4294967296+low%4294967296=ab%18446744073709551616:=by omega
 rw[f1,f2] at r
 exact r
abbrev qb2 (x:Int):Value:=qcO (decide (x<0)) x.natAbs
theorem qck (n:Int) (h:I64 n):Pure Tryz.prog 66 #[iV n] (.int .u64 (n.natAbs:Int)):=
 fun w=>(qfS n w h.1 h.2).mono fun _ _ ⟨h1,h2⟩=>⟨h1,Gr.of_eq h2⟩
theorem qat {p:Prop} [Decidable p] (h:p):decide p=true:=by simp[h]
theorem qao {p:Prop} [Decidable p] (h:¬ p):decide p=false:=by simp[h]
theorem qaU (a b:Int) (ha:I64 a) (hb:I64 b):Pure Tryz.prog 52 #[iV a,iV b] (qb2 (a*b)):=by
 have ca:=qck a ha
 have cb:=qck b hb
 unfold I64 at ha hb
 have cp:=qdB a.natAbs b.natAbs (by omega) (by omega)
 unfold qb2
 rw[Int.natAbs_mul]
 by_cases sa:a<0<;>by_cases sb:b<0
 ·rw[qao (show ¬ a*b<0 by have:=Int.mul_pos_of_neg_of_neg sa sb;omega)]
  exact qk6 ca cb cp (qat sa) (qat sb)
 ·by_cases nb:b=0
  ·subst nb
   rw[qao (by simp)]
   exact qkt ca cb cp (qat sa) (qao sb) (by simp;omega) (by simp)
  ·rw[qat (Int.mul_neg_of_neg_of_pos sa (by omega))]
   exact qkV ca cb cp (qat sa) (qao sb) (by simp;omega) (by simpa using nb)
 ·by_cases na:a=0
  ·subst na
   rw[qao (by simp)]
   exact qkN ca cb cp (qao sa) (qat sb) (by simp)
  ·rw[qat (Int.mul_neg_of_pos_of_neg (by omega) sb)]
   exact qki ca cb cp (qao sa) (qat sb) (by simpa using na) (by simp;omega)
 ·rw[qao (show ¬ a*b<0 by have:=Int.mul_nonneg (show 0≤a by omega) (show 0≤b by omega);omega)]
  exact qkm ca cb cp (qao sa) (qao sb)
theorem qeZ (x:Int):Pure Tryz.prog 53 #[qb2 x] (iV x.sign):=by
 unfold qb2
 obtain⟨A,hA⟩:∃ A,A=x.natAbs:=⟨_,rfl⟩
 rw[← hA]
 by_cases h0:x=0
 ·subst h0
  subst hA
  exact qsG (by simp) (by simp)
 ·by_cases hs:x<0
  ·rw[qat hs,Int.sign_eq_neg_one_of_neg hs]
   by_cases hh:A/18446744073709551616=0
   ·exact qpo (by simp[hh]) (by simp;omega)
   ·exact qp6 (by simp;omega)
  ·rw[qao hs,Int.sign_eq_one_of_pos (by omega)]
   by_cases hh:A/18446744073709551616=0
   ·exact qpF (by simp[hh]) (by simp;omega)
   ·exact qpC (by simp;omega)
def qf4 (A B:Nat):Int:=if A<B then -1 else if A=B then 0 else 1
theorem qdP (s t:Bool) (A B:Nat):Pure Tryz.prog 54 #[qcO s A,qcO t B] (iV (qf4 A B)):=by
 by_cases hh:A/18446744073709551616=B/18446744073709551616
 ·by_cases hl:A%18446744073709551616=B%18446744073709551616
  ·have e:A=B:=by omega
   subst e
   rw[show qf4 A A=0 by simp[qf4]]
   exact qpy (by simp) (by simp)
  ·by_cases hlt:A%18446744073709551616<B%18446744073709551616
   ·rw[show qf4 A B = -1 by unfold qf4;rw[if_pos (by omega)]]
    exact qqs (by simp[hh]) (by simp;omega) (by simp;omega)
   ·rw[show qf4 A B=1 by unfold qf4;rw[if_neg (by omega),if_neg (by omega)]]
    exact qo7 (by simp[hh]) (by simp;omega) (by simp;omega)
 ·by_cases hlt:A/18446744073709551616<B/18446744073709551616
  ·rw[show qf4 A B = -1 by unfold qf4;rw[if_pos (by omega)]]
   exact qqo (by simp;omega) (by simp;omega)
  ·rw[show qf4 A B=1 by unfold qf4;rw[if_neg (by omega),if_neg (by omega)]]
   exact qpI (by simp;omega) (by simp;omega)
theorem qh9 {x y:Nat} (h:x<y) (hy:y<18446744073709551616):Value.int .u64 (IntKind.u64.wrap ((x:Int)-(y:Int)))=.int .u64 ((18446744073709551616+x-y:Nat):Int):=by
 rw[IntKind.wrap_u64];congr 1;omega
theorem qex (s t:Bool) (A B:Nat) (hA:A<340282366920938463463374607431768211456) (h:B≤A):Pure Tryz.prog 115 #[qcO s A,qcO t B] (qcO false (A-B)):=by
 obtain⟨a1,ha1⟩:∃ x,x=A/18446744073709551616:=⟨_,rfl⟩
 obtain⟨a0,ha0⟩:∃ x,x=A%18446744073709551616:=⟨_,rfl⟩
 obtain⟨b1,hb1⟩:∃ x,x=B/18446744073709551616:=⟨_,rfl⟩
 obtain⟨b0,hb0⟩:∃ x,x=B%18446744073709551616:=⟨_,rfl⟩
 unfold qcO
 rw[← ha1,← ha0,← hb1,← hb0]
 have hs:Value.int .u64 (IntKind.u64.wrap ((a1:Int)-(b1:Int)))=.int .u64 ((a1-b1:Nat):Int):=qdI (by omega) (by omega) (by omega)
 by_cases hl:a0<b0
 ·rw[show (A-B)/18446744073709551616=a1-b1-1 by omega,show (A-B)%18446744073709551616=18446744073709551616+a0-b0 by omega]
  exact qwc hs (qh9 hl (by omega)) (by simp;omega) (qdI (by omega) (by omega) (by omega))
 ·rw[show (A-B)/18446744073709551616=a1-b1 by omega,show (A-B)%18446744073709551616=a0-b0 by omega]
  exact qwv hs (qdI (by omega) (by omega) (by omega)) (by simp;omega)
theorem qie {x y z:Nat} (h:x+y=z+18446744073709551616) (hz:z<18446744073709551616):Value.int .u64 (IntKind.u64.wrap ((x:Int)+(y:Int)))=.int .u64 (z:Int):=by
 rw[IntKind.wrap_u64,show ((x:Int)+(y:Int))%18446744073709551616=(z:Int) by omega]
theorem qvv (s:Bool) (A B:Nat) (h:A+B<340282366920938463463374607431768211456):Pure Tryz.prog 91 #[qcO s A,qcO s B] (qcO s (A+B)):=by
 obtain⟨a1,ha1⟩:∃ x,x=A/18446744073709551616:=⟨_,rfl⟩
 obtain⟨a0,ha0⟩:∃ x,x=A%18446744073709551616:=⟨_,rfl⟩
 obtain⟨b1,hb1⟩:∃ x,x=B/18446744073709551616:=⟨_,rfl⟩
 obtain⟨b0,hb0⟩:∃ x,x=B%18446744073709551616:=⟨_,rfl⟩
 unfold qcO
 rw[← ha1,← ha0,← hb1,← hb0]
 have hh:Value.int .u64 (IntKind.u64.wrap ((a1:Int)+(b1:Int)))=.int .u64 ((a1+b1:Nat):Int):=qsE (by omega)
 by_cases hl:a0+b0<18446744073709551616
 ·have l1:=qsE hl
  rw[show (A+B)/18446744073709551616=a1+b1 by omega,show (A+B)%18446744073709551616=a0+b0 by omega]
  cases s
  ·exact ql3 hh l1 (qao (by omega))
  ·exact qmY hh l1 (qao (by omega))
 ·obtain⟨z,hz⟩:∃ z,a0+b0=z+18446744073709551616:=⟨a0+b0-18446744073709551616,by omega⟩
  have l1:=qie hz (by omega)
  rw[show (A+B)/18446744073709551616=a1+b1+1 by omega,show (A+B)%18446744073709551616=z by omega]
  cases s
  ·exact qnr hh l1 (qat (by omega)) (qdI (by omega) (by omega) (by omega))
  ·exact qmD hh l1 (qat (by omega)) (qdI (by omega) (by omega) (by omega))
theorem qff (x y:Int) (hx:x.natAbs<170141183460469231731687303715884105728) (hy:y.natAbs<170141183460469231731687303715884105728):Pure Tryz.prog 91 #[qb2 x,qb2 y] (qb2 (x+y)):=by
 unfold qb2
 by_cases sx:x<0<;>by_cases sy:y<0
 ·rw[qat sx,qat sy,qat (show x+y<0 by omega),show (x+y).natAbs=x.natAbs+y.natAbs by omega]
  exact qvv true _ _ (by omega)
 ·rw[qat sx,qao sy]
  have cl:=qdP true false x.natAbs y.natAbs
  by_cases hc:y.natAbs≤x.natAbs
  ·have cm:=qex true false x.natAbs y.natAbs (by omega) hc
   rw[show (x+y).natAbs=x.natAbs-y.natAbs by omega]
   have hge:decide (qf4 x.natAbs y.natAbs≥0)=true:=by unfold qf4;rw[if_neg (by omega)];split<;>decide
   obtain⟨D,hD⟩:∃ D,D=x.natAbs-y.natAbs:=⟨_,rfl⟩
   rw[← hD] at cm ⊢
   by_cases hd:D=0
   ·rw[qao (show ¬ x+y<0 by omega)]
    exact qma cl hge cm (by simp[hd]) (by simp[hd])
   ·rw[qat (show x+y<0 by omega)]
    by_cases hh:D/18446744073709551616=0
    ·exact qnB cl hge cm (by simp[hh]) (by simp;omega)
    ·exact qof cl hge cm (by simp;omega)
  ·have cm:=qex false true y.natAbs x.natAbs (by omega) (by omega)
   rw[show (x+y).natAbs=y.natAbs-x.natAbs by omega,qao (show ¬ x+y<0 by omega)]
   exact qpY cl (by unfold qf4;rw[if_pos (by omega)];decide) cm
 ·rw[qao sx,qat sy]
  have cl:=qdP false true x.natAbs y.natAbs
  by_cases hc:y.natAbs≤x.natAbs
  ·have cm:=qex false true x.natAbs y.natAbs (by omega) hc
   rw[show (x+y).natAbs=x.natAbs-y.natAbs by omega,qao (show ¬ x+y<0 by omega)]
   exact qpL cl (by unfold qf4;rw[if_neg (by omega)];split<;>decide) cm
  ·have cm:=qex true false y.natAbs x.natAbs (by omega) (by omega)
   rw[show (x+y).natAbs=y.natAbs-x.natAbs by omega,qat (show x+y<0 by omega)]
   exact qp5 cl (by unfold qf4;rw[if_pos (by omega)];decide) cm
 ·rw[qao sx,qao sy,qao (show ¬ x+y<0 by omega),show (x+y).natAbs=x.natAbs+y.natAbs by omega]
  exact qvv false _ _ (by omega)
theorem qbh (g s t:Bool) (A B:Nat):Pure Tryz.prog 93 #[.bool g,qcO s A,qcO t B] (.tuple #[qaa (qcq (qaJ A&&qaJ B) (sgV A g)) (qcq (qaJ A&&qaJ B) (B:Int)),iV (qf5 (qaJ A&&qaJ B))]):=by
 by_cases hA:A<9223372036854775808
 ·by_cases hB:B<9223372036854775808
  ·have hf:(qaJ A&&qaJ B)=true:=by simp[qaJ,hA,hB]
   rw[hf,show qcq true (sgV A g)=sgV A g from rfl,show qcq true (B:Int)=(B:Int) from rfl,show qf5 true=0 from rfl]
   have v1:iV (IntKind.i64.wrap ((A%18446744073709551616:Nat):Int))=iV (A:Int):=by rw[qah (by omega) (by omega)];congr 1;omega
   have v3:iV (IntKind.i64.wrap ((B%18446744073709551616:Nat):Int))=iV (B:Int):=by rw[qah (by omega) (by omega)];congr 1;omega
   cases g
   ·rw[show sgV A false=(A:Int) by unfold sgV;rw[if_pos hA];rfl]
    exact qsK (by simp;omega) (by simp;omega) (by simp;omega) (by simp;omega) v1 v3
   ·rw[show sgV A true = -(A:Int) by unfold sgV;rw[if_pos hA];rfl]
    exact qrH (by simp;omega) (by simp;omega) (by simp;omega) (by simp;omega) v1 (by rw[Int.zero_sub,qah (by omega) (by omega)]) v3
  ·rw[show (qaJ A&&qaJ B)=false by simp[qaJ,hB]]
   by_cases hh:B/18446744073709551616=0
   ·exact qpd (by simp;omega) (by simp;omega) (by simp;omega) (by simp;omega)
   ·exact qp8 (by simp;omega) (by simp;omega) (by simp;omega)
 ·rw[show (qaJ A&&qaJ B)=false by simp[qaJ,hA]]
  by_cases hh:A/18446744073709551616=0
  ·exact qo5 (by simp;omega) (by simp;omega)
  ·exact qph (by simp;omega)
end Go.Proofs.YtleaeldgaflmkaaGreat

namespace Go.Proofs.YtleaeldgaflmkaaGreat
set_option maxRecDepth 100000
open Go.RowKit
theorem qnh {s d g m m2 e N D E:Int} {Q N2:Nat} (v1:Value.int .u64 (IntKind.u64.wrap d)=.int .u64 d) (d1:Pure Tryz.prog 92 #[qb2 s,.int .u64 d] (.tuple #[qcO false Q,.int .u64 m])) (g1:Pure Tryz.prog 65 #[.int .u64 d,.int .u64 m] (.int .u64 g)) (d2:Pure Tryz.prog 92 #[qb2 s,.int .u64 g] (.tuple #[qcO false N2,.int .u64 m2])) (gz:¬ (g:Int)=0) (q1:Value.int .u64 (IntKind.u64.wrap (d.tdiv g))=.int .u64 e) (m1:Pure Tryz.prog 93 #[.bool (decide (s<0)),qcO false N2,qap false 0 e] (.tuple #[qaa N D,iV E])) :
 Pure Tryz.prog 128 #[qb2 s,iV d] (.tuple #[qaa N D,iV E]):=
 qac (args:=[qb2 s,iV d]) 400 [Re v1,Rf d1,Re v1,Rf g1,Rf d2,Re v1,Re q1,Rf m1]
  (Ai rfl (Ai v1 (Ai d1 (Ai v1 (Ai g1 (Ai d2 (Ai v1 (Ai gz (Ai q1 (Ai m1 tI)))))))))) (by kernel_rfl)
theorem qsT {pi pa pb n d N1 D1 N D E:Int} (c1:Pure Tryz.prog 30 #[qab pi pa pb] (iV 0)) (c2:Pure Tryz.prog 39 #[qaa n d] (iV 0)) (m:Pure Tryz.prog 127 #[qaa pb 1,qaa n d] (.tuple #[qaa N1 D1,iV 0])) (a:Pure Tryz.prog 64 #[qaa pa 1,qaa N1 D1] (.tuple #[qaa N D,iV E])) :
 Pure Tryz.prog 105 #[qab pi pa pb,qaa n d] (.tuple #[qaa N D,iV E]):=
 qac (args:=[qab pi pa pb,qaa n d]) 400 [Rf c1,.k,Rf c1,.k,Rf m,.k,Rf a]
  (Ai rfl (Ai c1 (Ai c2 (Ai m (Ai a tI))))) (by kernel_rfl)
theorem qpi {pi pa pb n d N1 D1 N D E x y s:Int} (c1:Pure Tryz.prog 30 #[qab pi pa pb] (iV 0)) (c2:Pure Tryz.prog 39 #[qaa n d] (iV 0)) (m:Pure Tryz.prog 127 #[qaa pb 1,qaa n d] (.tuple #[qaa N1 D1,iV 16])) (p1:Pure Tryz.prog 52 #[iV pa,iV d] (qb2 x)) (p2:Pure Tryz.prog 52 #[iV pb,iV n] (qb2 y)) (p3:Pure Tryz.prog 91 #[qb2 x,qb2 y] (qb2 s)) (o:Pure Tryz.prog 128 #[qb2 s,iV d] (.tuple #[qaa N D,iV E])) :
 Pure Tryz.prog 105 #[qab pi pa pb,qaa n d] (.tuple #[qaa N D,iV E]):=
 qac (args:=[qab pi pa pb,qaa n d]) 400 [Rf c1,.k,Rf c1,.k,Rf m,.k,Rf p1,Rf p2,Rf p3,Rf o]
  (Ai rfl (Ai c1 (Ai c2 (Ai m (Ai p1 (Ai p2 (Ai p3 (Ai o tI)))))))) (by kernel_rfl)
end Go.Proofs.YtleaeldgaflmkaaGreat

namespace Go.Proofs.YtleaeldgaflmkaaGreat
set_option maxRecDepth 100000
open Go.RowKit
abbrev qxl (x:Int):Prop:=Pure Tryz.prog 53 #[qb2 (x)] (iV x.sign)
abbrev qp2 (y:Int):Prop:=Pure Tryz.prog 53 #[qb2 (y)] (iV y.sign)
theorem qkM {a b c d x y:Int} (c1:Pure Tryz.prog 52 #[iV a,iV d] (qb2 (x))) (c2:Pure Tryz.prog 52 #[iV c,iV b] (qb2 (y))) (s1:qxl x) (s2:qp2 y) (t1:(x.sign !=y.sign)=true) (t2:decide (x.sign<y.sign)=true) :
 Pure Tryz.prog 33 #[qaa a b,qaa c d] (iV (-1)):=
 qac (args:=[qaa a b,qaa c d]) 200 [Rf c1,Rf c2,Rf s1,Rf s2,.t true,Rf s1,Rf s2,.t true]
  (Ai rfl (Ai c1 (Ai c2 (Ai s1 (Ai s2 (Ai t1 (Ai s1 (Ai s2 (Ai t2 tI))))))))) (by kernel_rfl)
theorem qk7 {a b c d x y:Int} (c1:Pure Tryz.prog 52 #[iV a,iV d] (qb2 (x))) (c2:Pure Tryz.prog 52 #[iV c,iV b] (qb2 (y))) (s1:qxl x) (s2:qp2 y) (t1:(x.sign !=y.sign)=true) (t2:decide (x.sign<y.sign)=false) :
 Pure Tryz.prog 33 #[qaa a b,qaa c d] (iV 1):=
 qac (args:=[qaa a b,qaa c d]) 200 [Rf c1,Rf c2,Rf s1,Rf s2,.t true,Rf s1,Rf s2,.t false]
  (Ai rfl (Ai c1 (Ai c2 (Ai s1 (Ai s2 (Ai t1 (Ai s1 (Ai s2 (Ai t2 tI))))))))) (by kernel_rfl)
theorem qkj {a b c d x y e:Int} (c1:Pure Tryz.prog 52 #[iV a,iV d] (qb2 (x))) (c2:Pure Tryz.prog 52 #[iV c,iV b] (qb2 (y))) (s1:qxl x) (s2:qp2 y) (t1:(x.sign !=y.sign)=false) (t3:decide (x.sign<0)=true) (l1:Pure Tryz.prog 54 #[qb2 (y),qb2 (x)] (iV e)) :
 Pure Tryz.prog 33 #[qaa a b,qaa c d] (iV e):=
 qac (args:=[qaa a b,qaa c d]) 200 [Rf c1,Rf c2,Rf s1,Rf s2,.t false,Rf s1,.t true,Rf l1]
  (Ai rfl (Ai c1 (Ai c2 (Ai s1 (Ai s2 (Ai t1 (Ai s1 (Ai t3 (Ai l1 tI))))))))) (by kernel_rfl)
theorem qkK {a b c d x y e:Int} (c1:Pure Tryz.prog 52 #[iV a,iV d] (qb2 (x))) (c2:Pure Tryz.prog 52 #[iV c,iV b] (qb2 (y))) (s1:qxl x) (s2:qp2 y) (t1:(x.sign !=y.sign)=false) (t3:decide (x.sign<0)=false) (l1:Pure Tryz.prog 54 #[qb2 (x),qb2 (y)] (iV e)) :
 Pure Tryz.prog 33 #[qaa a b,qaa c d] (iV e):=
 qac (args:=[qaa a b,qaa c d]) 200 [Rf c1,Rf c2,Rf s1,Rf s2,.t false,Rf s1,.t false,Rf l1]
  (Ai rfl (Ai c1 (Ai c2 (Ai s1 (Ai s2 (Ai t1 (Ai s1 (Ai t3 (Ai l1 tI))))))))) (by kernel_rfl)
abbrev qrA (a:Int) (b:Int) (c:Int) (d:Int):Prop:=Pure Tryz.prog 63 #[qaa a b,qaa c d] (iV 0)
theorem qsj {a b c d N D E x y T g k m m2 l r e:Int} {Q N2 U:Nat} (b1:qrA a b c d) (v1:Value.int .u64 (IntKind.u64.wrap b)=.int .u64 b) (v2:Value.int .u64 (IntKind.u64.wrap d)=.int .u64 d) (g1:Pure Tryz.prog 65 #[.int .u64 b,.int .u64 d] (.int .u64 g)) (v3:iV (IntKind.i64.wrap g)=iV g) (nz:¬ (g:Int)=0) (q1:iV (IntKind.i64.wrap (d.tdiv g))=iV r) (c1:Pure Tryz.prog 52 #[iV a,iV r] (qb2 (x))) (q2:iV (IntKind.i64.wrap (b.tdiv g))=iV l) (c2:Pure Tryz.prog 52 #[iV c,iV l] (qb2 (y))) (c3:Pure Tryz.prog 91 #[qb2 (x),qb2 (y)] (qb2 (T))) (v4:Value.int .u64 (IntKind.u64.wrap g)=.int .u64 g) (d1:Pure Tryz.prog 92 #[qb2 (T),.int .u64 g] (.tuple #[qcO false Q,.int .u64 m])) (g2:Pure Tryz.prog 65 #[.int .u64 g,.int .u64 m] (.int .u64 k)) (d2:Pure Tryz.prog 92 #[qb2 (T),.int .u64 k] (.tuple #[qcO false N2,.int .u64 m2])) (v5:Value.int .u64 (IntKind.u64.wrap l)=.int .u64 l) (kz:¬ (k:Int)=0) (q3:Value.int .u64 (IntKind.u64.wrap (d.tdiv k))=.int .u64 e) (p1:Pure Tryz.prog 79 #[.int .u64 l,.int .u64 e] (qcO false U)) (m1:Pure Tryz.prog 93 #[.bool (decide (T<0)),qcO false N2,qcO false U] (.tuple #[qaa N D,iV E])) :
 Pure Tryz.prog 64 #[qaa a b,qaa c d] (.tuple #[qaa N D,iV E]):=
 qac (args:=[qaa a b,qaa c d]) 400 [Rf b1,.k,Re v1,Re v2,Rf g1,Re v3,Re q1,Rf c1,Re q2,Rf c2,Rf c3,Rf g1,Rf d1,Rf g1,Rf g2,Rf d2,Re q2,Re v5,Re v2,Re q3,Rf p1,Rf m1]
  (Ai rfl (Ai b1 (Ai v1 (Ai v2 (Ai g1 (Ai v3 (Ai nz (Ai q1 (Ai c1 (Ai nz (Ai q2 (Ai c2 (Ai c3 (Ai v4 (Ai d1 (Ai v4 (Ai g2 (Ai d2 (Ai nz (Ai q2 (Ai v5 (Ai v2 (Ai kz (Ai q3 (Ai p1 (Ai m1 tI)))))))))))))))))))))))))) (by kernel_rfl)
theorem qsO {a b c d c1 N D E:Int} (b1:qrA a b c d) (v1:iV (IntKind.i64.wrap (0-c))=iV c1) (a1:Pure Tryz.prog 64 #[qaa a b,qaa c1 d] (.tuple #[qaa N D,iV E])) :
 Pure Tryz.prog 38 #[qaa a b,qaa c d] (.tuple #[qaa N D,iV E]):=
 qac (args:=[qaa a b,qaa c d]) 400 [Rf b1,.k,Re v1,Rf a1]
  (Ai rfl (Ai b1 (Ai v1 (Ai a1 tI)))) (by kernel_rfl)
abbrev quf (T:Nat) (x:Int) (y:Int):Prop:=Pure Tryz.prog 79 #[.int .u64 x,.int .u64 y] (qcO false T)
abbrev qum (U:Nat) (l:Int) (r:Int):Prop:=Pure Tryz.prog 79 #[.int .u64 l,.int .u64 r] (qcO false U)
abbrev qul (d:Int) (g:Int) (za:Int):Prop:=Pure Tryz.prog 65 #[.int .u64 za,.int .u64 d] (.int .u64 g)
abbrev quz (b:Int) (h:Int) (zc:Int):Prop:=Pure Tryz.prog 65 #[.int .u64 zc,.int .u64 b] (.int .u64 h)
abbrev qxv (D:Int) (E:Int) (N:Int) (T:Nat) (U:Nat):Prop:=Pure Tryz.prog 93 #[.bool false,qcO false T,qcO false U] (.tuple #[qaa N D,iV E])
abbrev quA (a:Int) (za:Int):Prop:=Pure Tryz.prog 66 #[iV a] (.int .u64 za)
abbrev quh (c:Int) (zc:Int):Prop:=Pure Tryz.prog 66 #[iV c] (.int .u64 zc)
theorem qon {a b c d N D E za zc g h x y l r:Int} {T U:Nat} (b1:qrA a b c d) (z1:quA a za) (v1:Value.int .u64 (IntKind.u64.wrap d)=.int .u64 d) (g1:qul d g za) (z2:quh c zc) (v2:Value.int .u64 (IntKind.u64.wrap b)=.int .u64 b) (g2:quz b h zc) (t1:decide (a<0)=true) (t2:decide (c<0)=true) (gz:¬ (g:Int)=0) (q1:Value.int .u64 (IntKind.u64.wrap (za.tdiv g))=.int .u64 x) (hz:¬ (h:Int)=0) (q2:Value.int .u64 (IntKind.u64.wrap (zc.tdiv h))=.int .u64 y) (p1:quf T x y) (q3:Value.int .u64 (IntKind.u64.wrap (b.tdiv h))=.int .u64 l) (q4:Value.int .u64 (IntKind.u64.wrap (d.tdiv g))=.int .u64 r) (p2:qum U l r) (m1:qxv D E N T U) :
 Pure Tryz.prog 127 #[qaa a b,qaa c d] (.tuple #[qaa N D,iV E]):=
 qac (args:=[qaa a b,qaa c d]) 400 [Rf b1,.k,Rf z1,Re v1,Rf g1,Rf z2,Re v2,Rf g2,.t true,.t true,.k,Rf z1,Re q1,Rf z2,Re q2,Rf p1,Re v2,Re q3,Re v1,Re q4,Rf p2,Rf m1]
  (Ai rfl (Ai b1 (Ai z1 (Ai v1 (Ai g1 (Ai z2 (Ai v2 (Ai g2 (Ai t1 (Ai t2 (Ai z1 (Ai gz (Ai q1 (Ai z2 (Ai hz (Ai q2 (Ai p1 (Ai v2 (Ai hz (Ai q3 (Ai v1 (Ai gz (Ai q4 (Ai p2 (Ai m1 tI))))))))))))))))))))))))) (by kernel_rfl)
theorem qmx {a b c d N D E za zc g h x y l r:Int} {T U:Nat} (b1:qrA a b c d) (z1:quA a za) (v1:Value.int .u64 (IntKind.u64.wrap d)=.int .u64 d) (g1:qul d g za) (z2:quh c zc) (v2:Value.int .u64 (IntKind.u64.wrap b)=.int .u64 b) (g2:quz b h zc) (t1:decide (a<0)=true) (t2:decide (c<0)=false) (t3:(a !=0)=true) (t4:(c !=0)=false) (gz:¬ (g:Int)=0) (q1:Value.int .u64 (IntKind.u64.wrap (za.tdiv g))=.int .u64 x) (hz:¬ (h:Int)=0) (q2:Value.int .u64 (IntKind.u64.wrap (zc.tdiv h))=.int .u64 y) (p1:quf T x y) (q3:Value.int .u64 (IntKind.u64.wrap (b.tdiv h))=.int .u64 l) (q4:Value.int .u64 (IntKind.u64.wrap (d.tdiv g))=.int .u64 r) (p2:qum U l r) (m1:qxv D E N T U) :
 Pure Tryz.prog 127 #[qaa a b,qaa c d] (.tuple #[qaa N D,iV E]):=
 qac (args:=[qaa a b,qaa c d]) 400 [Rf b1,.k,Rf z1,Re v1,Rf g1,Rf z2,Re v2,Rf g2,.t true,.t false,.k,.t true,.t false,Rf z1,Re q1,Rf z2,Re q2,Rf p1,Re v2,Re q3,Re v1,Re q4,Rf p2,Rf m1]
  (Ai rfl (Ai b1 (Ai z1 (Ai v1 (Ai g1 (Ai z2 (Ai v2 (Ai g2 (Ai t1 (Ai t2 (Ai t3 (Ai t4 (Ai z1 (Ai gz (Ai q1 (Ai z2 (Ai hz (Ai q2 (Ai p1 (Ai v2 (Ai hz (Ai q3 (Ai v1 (Ai gz (Ai q4 (Ai p2 (Ai m1 tI))))))))))))))))))))))))))) (by kernel_rfl)
theorem qlv {a b c d N D E za zc g h x y l r:Int} {T U:Nat} (b1:qrA a b c d) (z1:quA a za) (v1:Value.int .u64 (IntKind.u64.wrap d)=.int .u64 d) (g1:qul d g za) (z2:quh c zc) (v2:Value.int .u64 (IntKind.u64.wrap b)=.int .u64 b) (g2:quz b h zc) (t1:decide (a<0)=true) (t2:decide (c<0)=false) (t3:(a !=0)=true) (t4:(c !=0)=true) (gz:¬ (g:Int)=0) (q1:Value.int .u64 (IntKind.u64.wrap (za.tdiv g))=.int .u64 x) (hz:¬ (h:Int)=0) (q2:Value.int .u64 (IntKind.u64.wrap (zc.tdiv h))=.int .u64 y) (p1:quf T x y) (q3:Value.int .u64 (IntKind.u64.wrap (b.tdiv h))=.int .u64 l) (q4:Value.int .u64 (IntKind.u64.wrap (d.tdiv g))=.int .u64 r) (p2:qum U l r) (m1:Pure Tryz.prog 93 #[.bool true,qcO false T,qcO false U] (.tuple #[qaa N D,iV E])) :
 Pure Tryz.prog 127 #[qaa a b,qaa c d] (.tuple #[qaa N D,iV E]):=
 qac (args:=[qaa a b,qaa c d]) 400 [Rf b1,.k,Rf z1,Re v1,Rf g1,Rf z2,Re v2,Rf g2,.t true,.t false,.k,.t true,.t true,Rf z1,Re q1,Rf z2,Re q2,Rf p1,Re v2,Re q3,Re v1,Re q4,Rf p2,Rf m1]
  (Ai rfl (Ai b1 (Ai z1 (Ai v1 (Ai g1 (Ai z2 (Ai v2 (Ai g2 (Ai t1 (Ai t2 (Ai t3 (Ai t4 (Ai z1 (Ai gz (Ai q1 (Ai z2 (Ai hz (Ai q2 (Ai p1 (Ai v2 (Ai hz (Ai q3 (Ai v1 (Ai gz (Ai q4 (Ai p2 (Ai m1 tI))))))))))))))))))))))))))) (by kernel_rfl)
theorem qlw {a b c d N D E za zc g h x y l r:Int} {T U:Nat} (b1:qrA a b c d) (z1:quA a za) (v1:Value.int .u64 (IntKind.u64.wrap d)=.int .u64 d) (g1:qul d g za) (z2:quh c zc) (v2:Value.int .u64 (IntKind.u64.wrap b)=.int .u64 b) (g2:quz b h zc) (t1:decide (a<0)=false) (t2:decide (c<0)=true) (t3:(a !=0)=false) (gz:¬ (g:Int)=0) (q1:Value.int .u64 (IntKind.u64.wrap (za.tdiv g))=.int .u64 x) (hz:¬ (h:Int)=0) (q2:Value.int .u64 (IntKind.u64.wrap (zc.tdiv h))=.int .u64 y) (p1:quf T x y) (q3:Value.int .u64 (IntKind.u64.wrap (b.tdiv h))=.int .u64 l) (q4:Value.int .u64 (IntKind.u64.wrap (d.tdiv g))=.int .u64 r) (p2:qum U l r) (m1:qxv D E N T U) :
 Pure Tryz.prog 127 #[qaa a b,qaa c d] (.tuple #[qaa N D,iV E]):=
 qac (args:=[qaa a b,qaa c d]) 400 [Rf b1,.k,Rf z1,Re v1,Rf g1,Rf z2,Re v2,Rf g2,.t false,.t true,.k,.t false,Rf z1,Re q1,Rf z2,Re q2,Rf p1,Re v2,Re q3,Re v1,Re q4,Rf p2,Rf m1]
  (Ai rfl (Ai b1 (Ai z1 (Ai v1 (Ai g1 (Ai z2 (Ai v2 (Ai g2 (Ai t1 (Ai t2 (Ai t3 (Ai z1 (Ai gz (Ai q1 (Ai z2 (Ai hz (Ai q2 (Ai p1 (Ai v2 (Ai hz (Ai q3 (Ai v1 (Ai gz (Ai q4 (Ai p2 (Ai m1 tI)))))))))))))))))))))))))) (by kernel_rfl)
theorem qm3 {a b c d N D E za zc g h x y l r:Int} {T U:Nat} (b1:qrA a b c d) (z1:quA a za) (v1:Value.int .u64 (IntKind.u64.wrap d)=.int .u64 d) (g1:qul d g za) (z2:quh c zc) (v2:Value.int .u64 (IntKind.u64.wrap b)=.int .u64 b) (g2:quz b h zc) (t1:decide (a<0)=false) (t2:decide (c<0)=true) (t3:(a !=0)=true) (t4:(c !=0)=true) (gz:¬ (g:Int)=0) (q1:Value.int .u64 (IntKind.u64.wrap (za.tdiv g))=.int .u64 x) (hz:¬ (h:Int)=0) (q2:Value.int .u64 (IntKind.u64.wrap (zc.tdiv h))=.int .u64 y) (p1:quf T x y) (q3:Value.int .u64 (IntKind.u64.wrap (b.tdiv h))=.int .u64 l) (q4:Value.int .u64 (IntKind.u64.wrap (d.tdiv g))=.int .u64 r) (p2:qum U l r) (m1:Pure Tryz.prog 93 #[.bool true,qcO false T,qcO false U] (.tuple #[qaa N D,iV E])) :
 Pure Tryz.prog 127 #[qaa a b,qaa c d] (.tuple #[qaa N D,iV E]):=
 qac (args:=[qaa a b,qaa c d]) 400 [Rf b1,.k,Rf z1,Re v1,Rf g1,Rf z2,Re v2,Rf g2,.t false,.t true,.k,.t true,.t true,Rf z1,Re q1,Rf z2,Re q2,Rf p1,Re v2,Re q3,Re v1,Re q4,Rf p2,Rf m1]
  (Ai rfl (Ai b1 (Ai z1 (Ai v1 (Ai g1 (Ai z2 (Ai v2 (Ai g2 (Ai t1 (Ai t2 (Ai t3 (Ai t4 (Ai z1 (Ai gz (Ai q1 (Ai z2 (Ai hz (Ai q2 (Ai p1 (Ai v2 (Ai hz (Ai q3 (Ai v1 (Ai gz (Ai q4 (Ai p2 (Ai m1 tI))))))))))))))))))))))))))) (by kernel_rfl)
theorem qnO {a b c d N D E za zc g h x y l r:Int} {T U:Nat} (b1:qrA a b c d) (z1:quA a za) (v1:Value.int .u64 (IntKind.u64.wrap d)=.int .u64 d) (g1:qul d g za) (z2:quh c zc) (v2:Value.int .u64 (IntKind.u64.wrap b)=.int .u64 b) (g2:quz b h zc) (t1:decide (a<0)=false) (t2:decide (c<0)=false) (gz:¬ (g:Int)=0) (q1:Value.int .u64 (IntKind.u64.wrap (za.tdiv g))=.int .u64 x) (hz:¬ (h:Int)=0) (q2:Value.int .u64 (IntKind.u64.wrap (zc.tdiv h))=.int .u64 y) (p1:quf T x y) (q3:Value.int .u64 (IntKind.u64.wrap (b.tdiv h))=.int .u64 l) (q4:Value.int .u64 (IntKind.u64.wrap (d.tdiv g))=.int .u64 r) (p2:qum U l r) (m1:qxv D E N T U) :
 Pure Tryz.prog 127 #[qaa a b,qaa c d] (.tuple #[qaa N D,iV E]):=
 qac (args:=[qaa a b,qaa c d]) 400 [Rf b1,.k,Rf z1,Re v1,Rf g1,Rf z2,Re v2,Rf g2,.t false,.t false,.k,Rf z1,Re q1,Rf z2,Re q2,Rf p1,Re v2,Re q3,Re v1,Re q4,Rf p2,Rf m1]
  (Ai rfl (Ai b1 (Ai z1 (Ai v1 (Ai g1 (Ai z2 (Ai v2 (Ai g2 (Ai t1 (Ai t2 (Ai z1 (Ai gz (Ai q1 (Ai z2 (Ai hz (Ai q2 (Ai p1 (Ai v2 (Ai hz (Ai q3 (Ai v1 (Ai gz (Ai q4 (Ai p2 (Ai m1 tI))))))))))))))))))))))))) (by kernel_rfl)
end Go.Proofs.YtleaeldgaflmkaaGreat

namespace Go.Proofs.YtleaeldgaflmkaaGreat
set_option maxRecDepth 100000
open Go.RowKit
abbrev qv7 (g:Int) (za:Int) (zb:Int):Prop:=Pure Tryz.prog 65 #[.int .u64 za,.int .u64 zb] (.int .u64 g)
abbrev qvI (a:Int) (za:Int):Prop:=Pure Tryz.prog 66 #[iV a] (.int .u64 za)
abbrev quK (b:Int) (zb:Int):Prop:=Pure Tryz.prog 66 #[iV b] (.int .u64 zb)
abbrev qx7 (D:Int) (E:Int) (N:Int) (x:Int) (y:Int):Prop:=Pure Tryz.prog 93 #[.bool false,qap false 0 x,qap false 0 y] (.tuple #[qaa N D,iV E])
theorem qls {a b za zb g x y N D E:Int} (b0:(b==0)=false) (z1:qvI a za) (z2:quK b zb) (g1:qv7 g za zb) (t1:decide (a<0)=true) (t2:decide (b<0)=true) (gz:¬ (g:Int)=0) (q1:Value.int .u64 (IntKind.u64.wrap (za.tdiv g))=.int .u64 x) (q2:Value.int .u64 (IntKind.u64.wrap (zb.tdiv g))=.int .u64 y) (m1:qx7 D E N x y) :
 Pure Tryz.prog 160 #[iV a,iV b] (.tuple #[qaa N D,iV E]):=
 qac (args:=[iV a,iV b]) 400 [.t false,Rf z1,Rf z2,Rf g1,.t true,.t true,.k,Rf z1,Re q1,Rf z2,Re q2,Rf m1]
  (Ai rfl (Ai b0 (Ai z1 (Ai z2 (Ai g1 (Ai t1 (Ai t2 (Ai z1 (Ai gz (Ai q1 (Ai z2 (Ai gz (Ai q2 (Ai m1 tI)))))))))))))) (by kernel_rfl)
theorem qlR {a b za zb g x y N D E:Int} (b0:(b==0)=false) (z1:qvI a za) (z2:quK b zb) (g1:qv7 g za zb) (t1:decide (a<0)=true) (t2:decide (b<0)=false) (t3:(a !=0)=true) (gz:¬ (g:Int)=0) (q1:Value.int .u64 (IntKind.u64.wrap (za.tdiv g))=.int .u64 x) (q2:Value.int .u64 (IntKind.u64.wrap (zb.tdiv g))=.int .u64 y) (m1:Pure Tryz.prog 93 #[.bool true,qap false 0 x,qap false 0 y] (.tuple #[qaa N D,iV E])) :
 Pure Tryz.prog 160 #[iV a,iV b] (.tuple #[qaa N D,iV E]):=
 qac (args:=[iV a,iV b]) 400 [.t false,Rf z1,Rf z2,Rf g1,.t true,.t false,.k,.t true,Rf z1,Re q1,Rf z2,Re q2,Rf m1]
  (Ai rfl (Ai b0 (Ai z1 (Ai z2 (Ai g1 (Ai t1 (Ai t2 (Ai t3 (Ai z1 (Ai gz (Ai q1 (Ai z2 (Ai gz (Ai q2 (Ai m1 tI))))))))))))))) (by kernel_rfl)
theorem qmd {a b za zb g x y N D E:Int} (b0:(b==0)=false) (z1:qvI a za) (z2:quK b zb) (g1:qv7 g za zb) (t1:decide (a<0)=false) (t2:decide (b<0)=true) (t3:(a !=0)=true) (gz:¬ (g:Int)=0) (q1:Value.int .u64 (IntKind.u64.wrap (za.tdiv g))=.int .u64 x) (q2:Value.int .u64 (IntKind.u64.wrap (zb.tdiv g))=.int .u64 y) (m1:Pure Tryz.prog 93 #[.bool true,qap false 0 x,qap false 0 y] (.tuple #[qaa N D,iV E])) :
 Pure Tryz.prog 160 #[iV a,iV b] (.tuple #[qaa N D,iV E]):=
 qac (args:=[iV a,iV b]) 400 [.t false,Rf z1,Rf z2,Rf g1,.t false,.t true,.k,.t true,Rf z1,Re q1,Rf z2,Re q2,Rf m1]
  (Ai rfl (Ai b0 (Ai z1 (Ai z2 (Ai g1 (Ai t1 (Ai t2 (Ai t3 (Ai z1 (Ai gz (Ai q1 (Ai z2 (Ai gz (Ai q2 (Ai m1 tI))))))))))))))) (by kernel_rfl)
theorem qlr {a b za zb g x y N D E:Int} (b0:(b==0)=false) (z1:qvI a za) (z2:quK b zb) (g1:qv7 g za zb) (t1:decide (a<0)=false) (t2:decide (b<0)=true) (t3:(a !=0)=false) (gz:¬ (g:Int)=0) (q1:Value.int .u64 (IntKind.u64.wrap (za.tdiv g))=.int .u64 x) (q2:Value.int .u64 (IntKind.u64.wrap (zb.tdiv g))=.int .u64 y) (m1:qx7 D E N x y) :
 Pure Tryz.prog 160 #[iV a,iV b] (.tuple #[qaa N D,iV E]):=
 qac (args:=[iV a,iV b]) 400 [.t false,Rf z1,Rf z2,Rf g1,.t false,.t true,.k,.t false,Rf z1,Re q1,Rf z2,Re q2,Rf m1]
  (Ai rfl (Ai b0 (Ai z1 (Ai z2 (Ai g1 (Ai t1 (Ai t2 (Ai t3 (Ai z1 (Ai gz (Ai q1 (Ai z2 (Ai gz (Ai q2 (Ai m1 tI))))))))))))))) (by kernel_rfl)
theorem qlG {a b za zb g x y N D E:Int} (b0:(b==0)=false) (z1:qvI a za) (z2:quK b zb) (g1:qv7 g za zb) (t1:decide (a<0)=false) (t2:decide (b<0)=false) (gz:¬ (g:Int)=0) (q1:Value.int .u64 (IntKind.u64.wrap (za.tdiv g))=.int .u64 x) (q2:Value.int .u64 (IntKind.u64.wrap (zb.tdiv g))=.int .u64 y) (m1:qx7 D E N x y) :
 Pure Tryz.prog 160 #[iV a,iV b] (.tuple #[qaa N D,iV E]):=
 qac (args:=[iV a,iV b]) 400 [.t false,Rf z1,Rf z2,Rf g1,.t false,.t false,.k,Rf z1,Re q1,Rf z2,Re q2,Rf m1]
  (Ai rfl (Ai b0 (Ai z1 (Ai z2 (Ai g1 (Ai t1 (Ai t2 (Ai z1 (Ai gz (Ai q1 (Ai z2 (Ai gz (Ai q2 (Ai m1 tI)))))))))))))) (by kernel_rfl)
theorem qqL {pi pa pb qi qa qb n d u v x y s:Int} (v1:iV (IntKind.i64.wrap (pa-qa))=iV u) (c1:Pure Tryz.prog 52 #[iV u,iV d] (qb2 x)) (v2:iV (IntKind.i64.wrap (pb-qb))=iV v) (c2:Pure Tryz.prog 52 #[iV v,iV n] (qb2 y)) (c3:Pure Tryz.prog 91 #[qb2 x,qb2 y] (qb2 s)) (c4:Pure Tryz.prog 53 #[qb2 s] (iV s.sign)) :
 Pure Tryz.prog 147 #[qab pi pa pb,qab qi qa qb,qaa n d] (iV s.sign):=
 qac (args:=[qab pi pa pb,qab qi qa qb,qaa n d]) 200 [Re v1,Rf c1,Re v2,Rf c2,Rf c3,Rf c4]
  (Ai rfl (Ai v1 (Ai c1 (Ai v2 (Ai c2 (Ai c3 (Ai c4 tI))))))) (by kernel_rfl)
abbrev quB (d:Int) (f:Int) (n:Int) (pa:Int) (pb:Int) (pi:Int) (qa:Int) (qb:Int) (qi:Int):Prop:=Pure Tryz.prog 147 #[qab pi pa pb,qab qi qa qb,qaa n d] (iV f)
theorem qh7 {pi pa pb qi qa qb n d f:Int} (c:quB d f n pa pb pi qa qb qi) (z:(f !=0)=true) (g:decide (f>0)=true) :
 Pure Tryz.prog 126 #[qab pi pa pb,qab qi qa qb,qaa n d] (.bool true):=
 qac (args:=[qab pi pa pb,qab qi qa qb,qaa n d]) 200 [Rf c,.t true,.t true]
  (Ai rfl (Ai c (Ai z (Ai g tI)))) (by kernel_rfl)
theorem qmV {pi pa pb qi qa qb n d f:Int} (c:quB d f n pa pb pi qa qb qi) (z:(f !=0)=false) (bb:(pb !=qb)=true) (g:decide (pb>qb)=true) :
 Pure Tryz.prog 126 #[qab pi pa pb,qab qi qa qb,qaa n d] (.bool true):=
 qac (args:=[qab pi pa pb,qab qi qa qb,qaa n d]) 200 [Rf c,.t false,.t true,.t true]
  (Ai rfl (Ai c (Ai z (Ai bb (Ai g tI))))) (by kernel_rfl)
theorem qnP {pi pa pb qi qa qb n d f:Int} (c:quB d f n pa pb pi qa qb qi) (z:(f !=0)=false) (bb:(pb !=qb)=false) (g:decide (pi<qi)=true) :
 Pure Tryz.prog 126 #[qab pi pa pb,qab qi qa qb,qaa n d] (.bool true):=
 qac (args:=[qab pi pa pb,qab qi qa qb,qaa n d]) 200 [Rf c,.t false,.t false,.t true]
  (Ai rfl (Ai c (Ai z (Ai bb (Ai g tI))))) (by kernel_rfl)
theorem qh6 {pi pa pb qi qa qb n d f:Int} (c:quB d f n pa pb pi qa qb qi) (z:(f !=0)=true) (g:decide (f>0)=false) :
 Pure Tryz.prog 126 #[qab pi pa pb,qab qi qa qb,qaa n d] (.bool false):=
 qac (args:=[qab pi pa pb,qab qi qa qb,qaa n d]) 200 [Rf c,.t true,.t false]
  (Ai rfl (Ai c (Ai z (Ai g tI)))) (by kernel_rfl)
theorem qmA {pi pa pb qi qa qb n d f:Int} (c:quB d f n pa pb pi qa qb qi) (z:(f !=0)=false) (bb:(pb !=qb)=true) (g:decide (pb>qb)=false) :
 Pure Tryz.prog 126 #[qab pi pa pb,qab qi qa qb,qaa n d] (.bool false):=
 qac (args:=[qab pi pa pb,qab qi qa qb,qaa n d]) 200 [Rf c,.t false,.t true,.t false]
  (Ai rfl (Ai c (Ai z (Ai bb (Ai g tI))))) (by kernel_rfl)
theorem qmB {pi pa pb qi qa qb n d f:Int} (c:quB d f n pa pb pi qa qb qi) (z:(f !=0)=false) (bb:(pb !=qb)=false) (g:decide (pi<qi)=false) :
 Pure Tryz.prog 126 #[qab pi pa pb,qab qi qa qb,qaa n d] (.bool false):=
 qac (args:=[qab pi pa pb,qab qi qa qb,qaa n d]) 200 [Rf c,.t false,.t false,.t false]
  (Ai rfl (Ai c (Ai z (Ai bb (Ai g tI))))) (by kernel_rfl)
theorem qpK {pi pa pb qi qa qb x y m k:Int} (v1:iV (IntKind.i64.wrap (pa-qa))=iV x) (v2:iV (IntKind.i64.wrap (qb-pb))=iV y) (c1:Pure Tryz.prog 160 #[iV x,iV y] (.tuple #[qaa m k,iV 0])) :
 Pure Tryz.prog 145 #[qab pi pa pb,qab qi qa qb] (qaa m k):=
 qac (args:=[qab pi pa pb,qab qi qa qb]) 200 [Re v1,Re v2,Rf c1]
  (Ai rfl (Ai v1 (Ai v2 (Ai c1 tI)))) (by kernel_rfl)
end Go.Proofs.YtleaeldgaflmkaaGreat
