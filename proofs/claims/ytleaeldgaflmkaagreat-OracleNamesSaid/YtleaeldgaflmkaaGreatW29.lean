/-
  Joined: Rv, Rs. Conditions: none.
-/
import Derived.Test.YtleaeldgaflmkaaGreatW26
import Derived.Laws.Bits64b
import Derived.Test.YtleaeldgaflmkaaGreatW25
namespace Go.Proofs.YtleaeldgaflmkaaGreat
set_option maxRecDepth 100000
open Go.RowKit
abbrev qap (s:Bool) (hi lo:Int):Value:=.agg #[.bool s,.int .u64 hi,.int .u64 lo]
noncomputable def qme:Code:=qrb Tryz.prog 92 0
abbrev dvT (y r i:Int):List (Nat×SV):=[(1,.pv (.int .u64 y)),(2,.pp 0 0),(4,.pp 1 0),(6,.pp 2 0),(7,.pv (.int .u64 r)),(8,.pv (iV i))]
abbrev dvH (s:Bool) (hi lo H L:Int):List (Nat×Nat×SV):=[(0,0,.pv (.bool s)),(0,1,.pv (.int .u64 hi)),(0,2,.pv (.int .u64 lo)),(1,0,.pv (.bool false)),(1,1,.pv (.int .u64 0)),(1,2,.pv (.int .u64 0)),(2,0,.pv (.bool false)),(2,1,.pv (.int .u64 H)),(2,2,.pv (.int .u64 L))]
set_option maxHeartbeats 2000000 in
theorem qzJ {y hi lo H L r i v1 v2 r2 r3 i1 j v3 v4 r4 m H1:Int} {s:Bool} {tm2:List (Nat×SV)} {hp2:List (Nat×Nat×SV)} (t0:decide (i≥0)=true) (n0:¬ i<0) (s1:Value.int .u64 (lo.fdiv (2 ^ (min i.toNat IntKind.u64.bits)))=.int .u64 v1) (a1:Value.int .u64 (bits .and .u64 v1 1)=.int .u64 v2) (t1:decide (i≥64)=true) (sj:iV (IntKind.i64.wrap (i-64))=iV j) (nj:¬ j<0) (s2:Value.int .u64 (hi.fdiv (2 ^ (min j.toNat IntKind.u64.bits)))=.int .u64 v3) (a2:Value.int .u64 (bits .and .u64 v3 1)=.int .u64 v4) (m1:Value.int .u64 (IntKind.u64.wrap (2*r))=.int .u64 r2) (p1:Value.int .u64 (IntKind.u64.wrap (r2+v4))=.int .u64 r3) (t2:decide (r3≥y)=true) (m2:Value.int .u64 (IntKind.u64.wrap (r3-y))=.int .u64 r4) (e1:Value.int .u64 (IntKind.u64.wrap (1*2 ^ (min j.toNat IntKind.u64.bits)))=.int .u64 m) (o1:Value.int .u64 (bits .or .u64 H m)=.int .u64 H1) (z1:iV (IntKind.i64.wrap (i-1))=iV i1)
 (k:RunsL Tryz.prog 0 0 qme 54 3 (dvT y r4 i1) (dvH s hi lo H1 L) (.exit 0) tm2 hp2):RunsL Tryz.prog 0 0 qme 54 3 (dvT y r i) (dvH s hi lo H L) (.exit 0) tm2 hp2:=
 RunsL.next [] 100 [.t true,Re s1,Re a1,.t true,Re sj,Re s2,Re a2,Re m1,Re p1,.t true,Re m2,.t true,Re sj,Re e1,Re o1,Re z1]
  (Ro (Ai t0 (Ai n0 (Ai s1 (Ai a1 (Ai t1 (Ai sj (Ai nj (Ai s2 (Ai a2 (Ai m1 (Ai p1 (Ai t2 (Ai m2 (Ai t1 (Ai sj (Ai nj (Ai e1 (Ai o1 (Ai z1 tI)))))))))))))))))))) k
set_option maxHeartbeats 2000000 in
theorem qy5 {y hi lo H L r i v1 v2 r2 r3 i1 j v3 v4:Int} {s:Bool} {tm2:List (Nat×SV)} {hp2:List (Nat×Nat×SV)} (t0:decide (i≥0)=true) (n0:¬ i<0) (s1:Value.int .u64 (lo.fdiv (2 ^ (min i.toNat IntKind.u64.bits)))=.int .u64 v1) (a1:Value.int .u64 (bits .and .u64 v1 1)=.int .u64 v2) (t1:decide (i≥64)=true) (sj:iV (IntKind.i64.wrap (i-64))=iV j) (nj:¬ j<0) (s2:Value.int .u64 (hi.fdiv (2 ^ (min j.toNat IntKind.u64.bits)))=.int .u64 v3) (a2:Value.int .u64 (bits .and .u64 v3 1)=.int .u64 v4) (m1:Value.int .u64 (IntKind.u64.wrap (2*r))=.int .u64 r2) (p1:Value.int .u64 (IntKind.u64.wrap (r2+v4))=.int .u64 r3) (t2:decide (r3≥y)=false) (z1:iV (IntKind.i64.wrap (i-1))=iV i1)
 (k:RunsL Tryz.prog 0 0 qme 54 3 (dvT y r3 i1) (dvH s hi lo H L) (.exit 0) tm2 hp2):RunsL Tryz.prog 0 0 qme 54 3 (dvT y r i) (dvH s hi lo H L) (.exit 0) tm2 hp2:=
 RunsL.next [] 100 [.t true,Re s1,Re a1,.t true,Re sj,Re s2,Re a2,Re m1,Re p1,.t false,Re z1]
  (Ro (Ai t0 (Ai n0 (Ai s1 (Ai a1 (Ai t1 (Ai sj (Ai nj (Ai s2 (Ai a2 (Ai m1 (Ai p1 (Ai t2 (Ai z1 tI)))))))))))))) k
set_option maxHeartbeats 2000000 in
theorem qx9 {y hi lo H L r i v1 v2 r2 r3 i1 r4 m H1:Int} {s:Bool} {tm2:List (Nat×SV)} {hp2:List (Nat×Nat×SV)} (t0:decide (i≥0)=true) (n0:¬ i<0) (s1:Value.int .u64 (lo.fdiv (2 ^ (min i.toNat IntKind.u64.bits)))=.int .u64 v1) (a1:Value.int .u64 (bits .and .u64 v1 1)=.int .u64 v2) (t1:decide (i≥64)=false) (m1:Value.int .u64 (IntKind.u64.wrap (2*r))=.int .u64 r2) (p1:Value.int .u64 (IntKind.u64.wrap (r2+v2))=.int .u64 r3) (t2:decide (r3≥y)=true) (m2:Value.int .u64 (IntKind.u64.wrap (r3-y))=.int .u64 r4) (e1:Value.int .u64 (IntKind.u64.wrap (1*2 ^ (min i.toNat IntKind.u64.bits)))=.int .u64 m) (o1:Value.int .u64 (bits .or .u64 L m)=.int .u64 H1) (z1:iV (IntKind.i64.wrap (i-1))=iV i1)
 (k:RunsL Tryz.prog 0 0 qme 54 3 (dvT y r4 i1) (dvH s hi lo H H1) (.exit 0) tm2 hp2):RunsL Tryz.prog 0 0 qme 54 3 (dvT y r i) (dvH s hi lo H L) (.exit 0) tm2 hp2:=
 RunsL.next [] 100 [.t true,Re s1,Re a1,.t false,Re m1,Re p1,.t true,Re m2,.t false,Re e1,Re o1,Re z1]
  (Ro (Ai t0 (Ai n0 (Ai s1 (Ai a1 (Ai t1 (Ai m1 (Ai p1 (Ai t2 (Ai m2 (Ai t1 (Ai n0 (Ai e1 (Ai o1 (Ai z1 tI))))))))))))))) k
set_option maxHeartbeats 2000000 in
theorem qyu {y hi lo H L r i v1 v2 r2 r3 i1:Int} {s:Bool} {tm2:List (Nat×SV)} {hp2:List (Nat×Nat×SV)} (t0:decide (i≥0)=true) (n0:¬ i<0) (s1:Value.int .u64 (lo.fdiv (2 ^ (min i.toNat IntKind.u64.bits)))=.int .u64 v1) (a1:Value.int .u64 (bits .and .u64 v1 1)=.int .u64 v2) (t1:decide (i≥64)=false) (m1:Value.int .u64 (IntKind.u64.wrap (2*r))=.int .u64 r2) (p1:Value.int .u64 (IntKind.u64.wrap (r2+v2))=.int .u64 r3) (t2:decide (r3≥y)=false) (z1:iV (IntKind.i64.wrap (i-1))=iV i1)
 (k:RunsL Tryz.prog 0 0 qme 54 3 (dvT y r3 i1) (dvH s hi lo H L) (.exit 0) tm2 hp2):RunsL Tryz.prog 0 0 qme 54 3 (dvT y r i) (dvH s hi lo H L) (.exit 0) tm2 hp2:=
 RunsL.next [] 100 [.t true,Re s1,Re a1,.t false,Re m1,Re p1,.t false,Re z1]
  (Ro (Ai t0 (Ai n0 (Ai s1 (Ai a1 (Ai t1 (Ai m1 (Ai p1 (Ai t2 (Ai z1 tI)))))))))) k
set_option maxHeartbeats 2000000 in
theorem qrQ {y hi lo H L r i:Int} {s:Bool} (t0:decide (i≥0)=false):RunsL Tryz.prog 0 0 qme 54 3 (dvT y r i) (dvH s hi lo H L) (.exit 0) (dvT y r i) (dvH s hi lo H L):=
 RunsL.stop [] 100 [.t false] (fun h=>by cases h) (Ro (Ai t0 tI))
set_option maxHeartbeats 2000000 in
set_option maxHeartbeats 2000000 in
theorem qsY {y hi lo Q1 Q0 R:Int} {s:Bool} (k:RunsL Tryz.prog 0 0 qme 54 3 (dvT y 0 127) (dvH s hi lo 0 0) (.exit 0) (dvT y R (-1)) (dvH s hi lo Q1 Q0)) :
 Pure Tryz.prog 92 #[qap s hi lo,.int .u64 y] (.tuple #[qap false Q1 Q0,.int .u64 R]):=
 qac (args:=[qap s hi lo,.int .u64 y]) 200 [Lf k]
  (Ai rfl (Lo k [] tI)) (by kernel_rfl)
theorem ql9 (v:Nat) (h:v<18446744073709551616):Value.int .u64 (bits .and .u64 (v:Int) 1)=.int .u64 ((v%2:Nat):Int):=by
 rw[show (1:Int)=((1:Nat):Int) from rfl,bits_and_u64_nat v 1 h (by omega),Nat.and_one_is_mod]
theorem qra {v k m:Nat} (hk:k<64) (hv:v<18446744073709551616) (h:v=2 ^ (k+1)*m):Value.int .u64 (bits .or .u64 (v:Int) ((2 ^ k:Nat):Int))=.int .u64 ((v+2 ^ k:Nat):Int):=by
 have hp:2 ^ k<18446744073709551616:=Nat.lt_of_lt_of_le (Nat.pow_lt_pow_right (by omega) hk) (by decide)
 rw[bits_or_u64_nat v _ hv hp]
 subst h
 rw[← Nat.two_pow_add_eq_or_of_lt (Nat.pow_lt_pow_right (by omega) (Nat.lt_succ_self k))]
theorem qj0 (v k:Nat):Int.fdiv (v:Int) (2 ^ k)=((v/2 ^ k:Nat):Int):=by
 rw[show ((2:Int) ^ k)=((2 ^ k:Nat):Int) by simp,Int.fdiv_eq_ediv_of_nonneg _ (Int.natCast_nonneg _)]
 simp
theorem qmh {k:Nat} (hk:k<64):Value.int .u64 (IntKind.u64.wrap (1*2 ^ k))=.int .u64 ((2 ^ k:Nat):Int):=by
 have hp:2 ^ k<18446744073709551616:=Nat.lt_of_lt_of_le (Nat.pow_lt_pow_right (by omega) hk) (by decide)
 rw[show ((1:Int)*2 ^ k)=((2 ^ k:Nat):Int) by simp]
 generalize 2 ^ k=m at hp
 rw[qc9 (by omega) (by omega)]
theorem qdI {x y:Int} (h:x=y) (h0:0≤y) (h1:y<18446744073709551616):Value.int .u64 (IntKind.u64.wrap x)=.int .u64 y:=by rw[h,qc9 h0 h1]
theorem qtp (y hi lo A:Nat) (s:Bool) (hA:A=hi*18446744073709551616+lo) (hy0:0<y) (hy1:y≤9223372036854775808) (hhi:hi<18446744073709551616) (hlo:lo<18446744073709551616) {R Q1 Q0:Nat} (hR:R=A%y) (hQ1:Q1=A/y/18446744073709551616) (hQ0:Q0=A/y%18446744073709551616) :
 ∀ (j:Nat) (i:Int) (r H L N:Nat),j≤128→i=(j:Int)-1→r=(A/2 ^ j)%y→N=A/2 ^ j/y*2 ^ j→H=N/18446744073709551616→L=N%18446744073709551616→
  RunsL Tryz.prog 0 0 qme 54 3 (dvT y r i) (dvH s hi lo H L) (.exit 0) (dvT y R (-1)) (dvH s hi lo Q1 Q0):=by
 intro j
 induction j with
 | zero=>
  intro i r H L N _ hi' hr hN hH hL
  simp only[Nat.pow_zero,Nat.div_one,Nat.mul_one] at hr hN
  have e1:i = -1:=by omega
  subst e1
  rw[hN] at hH hL
  rw[hr.trans hR.symm,hH.trans hQ1.symm,hL.trans hQ0.symm]
  exact qrQ (by decide)
 | succ j ih=>
  intro i r H L N hj hi' hr hN hH hL
  have e1:i=(j:Int):=by omega
  subst e1
  have hpow:(2:Nat) ^ (j+1)=2*2 ^ j:=by rw[Nat.pow_succ,Nat.mul_comm]
  have hp0:0<(2:Nat) ^ j:=Nat.pow_pos (by omega)
  obtain⟨X,hX⟩:∃ X,X=A/2 ^ (j+1):=⟨_,rfl⟩
  obtain⟨b,hb⟩:∃ b,b=A/2 ^ j%2:=⟨_,rfl⟩
  have hXb:A/2 ^ j=2*X+b:=by
   rw[hX,hb,Nat.pow_succ,← Nat.div_div_eq_div_mul];omega
  rw[← hX] at hr hN
  obtain⟨q,hq⟩:∃ q,q=X/y:=⟨_,rfl⟩
  have hXq:X=y*q+r:=by rw[hq,hr,Nat.div_add_mod]
  rw[← hq] at hN
  have hr1:r<y:=by rw[hr];exact Nat.mod_lt _ hy0
  have hb1:b<2:=by omega
  have hNA:N≤A:=by
   rw[hN,hX] at *
   calc q*2 ^ (j+1)≤A/2 ^ (j+1)*2 ^ (j+1):=Nat.mul_le_mul_right _ (by rw[hq];exact Nat.div_le_self _ _)
    _≤A:=Nat.div_mul_le_self _ _
  have hA1:A<340282366920938463463374607431768211456:=by omega
  have hHb:H<18446744073709551616:=by omega
  have hLb:L<18446744073709551616:=by omega
  have t0:decide ((j:Int)≥0)=true:=by simp
  have n0:¬ (j:Int)<0:=by omega
  have m1:Value.int .u64 (IntKind.u64.wrap (2*(r:Int)))=.int .u64 ((2*r:Nat):Int):=qdI (by omega) (by omega) (by omega)
  have p1:Value.int .u64 (IntKind.u64.wrap (((2*r:Nat):Int)+(b:Int)))=.int .u64 ((2*r+b:Nat):Int):=qdI (by omega) (by omega) (by omega)
  have z1:iV (IntKind.i64.wrap ((j:Int)-1))=iV ((j:Int)-1):=by rw[qah (by omega) (by omega)]
  have hS1:min (j:Int).toNat IntKind.u64.bits=min j 64:=by simp[IntKind.bits]
  have s1:Value.int .u64 (Int.fdiv (lo:Int) (2 ^ (min (j:Int).toNat IntKind.u64.bits)))=.int .u64 ((lo/2 ^ (min j 64):Nat):Int):=by rw[hS1,qj0]
  have a1:=ql9 (lo/2 ^ (min j 64)) (Nat.lt_of_le_of_lt (Nat.div_le_self _ _) hlo)
  have key:∀ ge:Bool,decide (2*r+b≥y)=ge→(A/2 ^ j/y=2*q+(bif ge then 1 else 0)∧A/2 ^ j%y=2*r+b-(bif ge then y else 0)):=by
   intro ge hge
   have e:A/2 ^ j=(2*r+b)+y*(2*q):=by rw[hXb,hXq,Nat.mul_add,Nat.mul_left_comm];omega
   cases ge
   ·have hlt:2*r+b<y:=by simpa using hge
    rw[e,Nat.add_mul_div_left _ _ hy0,Nat.add_mul_mod_self_left,Nat.div_eq_of_lt hlt,Nat.mod_eq_of_lt hlt]
    exact⟨by simp,by simp⟩
   ·have hle:y≤2*r+b:=by simpa using hge
    have e2:A/2 ^ j=(2*r+b-y)+y*(2*q+1):=by rw[e,Nat.mul_add];omega
    have hlt:2*r+b-y<y:=by omega
    rw[e2,Nat.add_mul_div_left _ _ hy0,Nat.add_mul_mod_self_left,Nat.div_eq_of_lt hlt,Nat.mod_eq_of_lt hlt]
    exact⟨by simp,by simp⟩
  by_cases hh:64≤j
  ·obtain⟨k,rfl⟩:∃ k,j=64+k:=⟨j-64,by omega⟩
   have t1:decide (((64+k:Nat):Int)≥64)=true:=by simp;omega
   have sj:iV (IntKind.i64.wrap (((64+k:Nat):Int)-64))=iV (k:Int):=by
    rw[show ((64+k:Nat):Int)-64=(k:Int) by omega,qah (by omega) (by omega)]
   have hS2:min (k:Int).toNat IntKind.u64.bits=k:=by simp[IntKind.bits];omega
   have s2:Value.int .u64 (Int.fdiv (hi:Int) (2 ^ (min (k:Int).toNat IntKind.u64.bits)))=.int .u64 ((hi/2 ^ k:Nat):Int):=by rw[hS2,qj0]
   have a2:=ql9 (hi/2 ^ k) (Nat.lt_of_le_of_lt (Nat.div_le_self _ _) hhi)
   have hbit:hi/2 ^ k%2=b:=by
    rw[hb,hA,Nat.pow_add,← Nat.div_div_eq_div_mul]
    congr 2
    omega
   rw[hbit] at a2
   have hN2:N=(q*2 ^ (k+1))*18446744073709551616:=by
    rw[hN,show 64+k+1=64+(k+1) by omega,Nat.pow_add,Nat.mul_comm (2 ^ 64),← Nat.mul_assoc]
   have hH2:H=2 ^ (k+1)*q:=by rw[hH,hN2,Nat.mul_div_cancel _ (by omega),Nat.mul_comm]
   have hpk:(2:Nat) ^ (64+k)=2 ^ k*18446744073709551616:=by rw[Nat.pow_add,Nat.mul_comm]
   by_cases hge:y≤2*r+b
   ·obtain⟨k1,k2⟩:=key true (by simpa using hge)
    rw[cond_true] at k1 k2
    refine qzJ (r4:=((2*r+b-y:Nat):Int)) (m:=((2 ^ k:Nat):Int)) (H1:=((H+2 ^ k:Nat):Int)) t0 n0 s1 a1 t1 sj (by omega) s2 a2 m1 p1 (by simp;omega) (qdI (by omega) (by omega) (by omega)) (by rw[hS2];exact qmh (by omega)) (qra (by omega) hHb hH2) z1 ?_
    have hN':A/2 ^ (64+k)/y*2 ^ (64+k)=N+2 ^ k*18446744073709551616:=by
     rw[k1,Nat.add_mul,Nat.one_mul,hpk,hN,hpow,hpk,Nat.mul_comm 2 q,Nat.mul_assoc]
    refine ih _ _ _ _ (N+2 ^ k*18446744073709551616) (by omega) rfl k2.symm hN'.symm ?_ ?_
    ·rw[hH,Nat.add_mul_div_right _ _ (by omega)]
    ·rw[hL,Nat.add_mul_mod_self_right]
   ·obtain⟨k1,k2⟩:=key false (by simpa using hge)
    rw[cond_false] at k1 k2
    refine qy5 t0 n0 s1 a1 t1 sj (by omega) s2 a2 m1 p1 (by simp;omega) z1 ?_
    have hN':A/2 ^ (64+k)/y*2 ^ (64+k)=N:=by
     rw[k1,hN,hpow,Nat.add_zero,Nat.mul_comm 2 q,Nat.mul_assoc]
    exact ih _ _ _ _ N (by omega) rfl (by rw[k2];omega) hN'.symm hH hL
  ·have t1:decide ((j:Int)≥64)=false:=by simp;omega
   have hS2:min (j:Int).toNat IntKind.u64.bits=j:=by simp[IntKind.bits];omega
   rw[show min j 64=j by omega] at s1 a1
   obtain⟨k,hk⟩:∃ k,64=j+1+k:=⟨63-j,by omega⟩
   have h64:(18446744073709551616:Nat)=2 ^ (j+1)*2 ^ k:=by rw[← Nat.pow_add,← hk]
   have hbit:lo/2 ^ j%2=b:=by
    rw[hb,hA,h64,show hi*(2 ^ (j+1)*2 ^ k)+lo=lo+2 ^ j*(2*(hi*2 ^ k)) by rw[hpow];simp only[Nat.mul_assoc,Nat.mul_left_comm,Nat.mul_comm];omega,Nat.add_mul_div_left _ _ hp0]
    omega
   rw[hbit] at a1
   have hLm:L=2 ^ (j+1)*(q%2 ^ k):=by
    rw[hL,hN,h64,Nat.mul_comm q,Nat.mul_mod_mul_left]
   have hL1:L+2 ^ (j+1)≤18446744073709551616:=by
    rw[hLm,h64]
    have h1:q%2 ^ k<2 ^ k:=Nat.mod_lt _ (Nat.pow_pos (by omega))
    calc 2 ^ (j+1)*(q%2 ^ k)+2 ^ (j+1)=2 ^ (j+1)*(q%2 ^ k+1):=by rw[Nat.mul_add,Nat.mul_one]
     _≤2 ^ (j+1)*2 ^ k:=Nat.mul_le_mul_left _ h1
   by_cases hge:y≤2*r+b
   ·obtain⟨k1,k2⟩:=key true (by simpa using hge)
    rw[cond_true] at k1 k2
    refine qx9 (r4:=((2*r+b-y:Nat):Int)) (m:=((2 ^ j:Nat):Int)) (H1:=((L+2 ^ j:Nat):Int)) t0 n0 s1 a1 t1 m1 p1 (by simp;omega) (qdI (by omega) (by omega) (by omega)) (by rw[hS2];exact qmh (by omega)) (qra (by omega) hLb hLm) z1 ?_
    have hN':A/2 ^ j/y*2 ^ j=N+2 ^ j:=by
     rw[k1,Nat.add_mul,Nat.one_mul,hN,hpow,Nat.mul_comm 2 q,Nat.mul_assoc]
    refine ih _ _ _ _ (N+2 ^ j) (by omega) rfl k2.symm hN'.symm ?_ ?_
    ·rw[hpow] at hL1
     omega
    ·rw[hpow] at hL1
     omega
   ·obtain⟨k1,k2⟩:=key false (by simpa using hge)
    rw[cond_false] at k1 k2
    refine qyu t0 n0 s1 a1 t1 m1 p1 (by simp;omega) z1 ?_
    have hN':A/2 ^ j/y*2 ^ j=N:=by
     rw[k1,hN,hpow,Nat.add_zero,Nat.mul_comm 2 q,Nat.mul_assoc]
    exact ih _ _ _ _ N (by omega) rfl (by rw[k2];omega) hN'.symm hH hL
abbrev qcO (s:Bool) (A:Nat):Value:=qap s ((A/18446744073709551616:Nat):Int) ((A%18446744073709551616:Nat):Int)
theorem qeu (s:Bool) (A y:Nat) (hA:A<340282366920938463463374607431768211456) (hy0:0<y) (hy1:y≤9223372036854775808) :
 Pure Tryz.prog 92 #[qcO s A,.int .u64 (y:Int)] (.tuple #[qcO false (A/y),.int .u64 ((A%y:Nat):Int)]):=
 qsY (qtp y _ _ A s (by omega) hy0 hy1 (by omega) (by omega) rfl rfl rfl 128 127 0 0 0 0 (by omega) (by omega) (by rw[Nat.div_eq_of_lt (by omega),Nat.zero_mod]) (by rw[Nat.div_eq_of_lt (a:=A) (by omega),Nat.zero_div,Nat.zero_mul]) (by omega) (by omega))
end Go.Proofs.YtleaeldgaflmkaaGreat

namespace Go.Proofs.YtleaeldgaflmkaaGreat
set_option maxRecDepth 100000
open Go.RowKit
theorem qkT {a b ah al bh bl low p1 lh m p2 mr n p3 mh s1 nh hi nr nr2 lr lo:Int} (nz:¬ (4294967296:Int)=0) (q1:Value.int .u64 (IntKind.u64.wrap (Int.tdiv a 4294967296))=.int .u64 ah) (q2:Value.int .u64 (Int.tmod a 4294967296)=.int .u64 al) (q3:Value.int .u64 (IntKind.u64.wrap (Int.tdiv b 4294967296))=.int .u64 bh) (q4:Value.int .u64 (Int.tmod b 4294967296)=.int .u64 bl) (x1:Value.int .u64 (IntKind.u64.wrap (al*bl))=.int .u64 low) (x2:Value.int .u64 (IntKind.u64.wrap (ah*bl))=.int .u64 p1) (q5:Value.int .u64 (IntKind.u64.wrap (Int.tdiv low 4294967296))=.int .u64 lh) (x3:Value.int .u64 (IntKind.u64.wrap (p1+lh))=.int .u64 m) (x4:Value.int .u64 (IntKind.u64.wrap (al*bh))=.int .u64 p2) (q6:Value.int .u64 (Int.tmod m 4294967296)=.int .u64 mr) (x5:Value.int .u64 (IntKind.u64.wrap (p2+mr))=.int .u64 n) (x6:Value.int .u64 (IntKind.u64.wrap (ah*bh))=.int .u64 p3) (q7:Value.int .u64 (IntKind.u64.wrap (Int.tdiv m 4294967296))=.int .u64 mh) (x7:Value.int .u64 (IntKind.u64.wrap (p3+mh))=.int .u64 s1) (q8:Value.int .u64 (IntKind.u64.wrap (Int.tdiv n 4294967296))=.int .u64 nh) (x8:Value.int .u64 (IntKind.u64.wrap (s1+nh))=.int .u64 hi) (q9:Value.int .u64 (Int.tmod n 4294967296)=.int .u64 nr) (x9:Value.int .u64 (IntKind.u64.wrap (nr*4294967296))=.int .u64 nr2) (q10:Value.int .u64 (Int.tmod low 4294967296)=.int .u64 lr) (x10:Value.int .u64 (IntKind.u64.wrap (nr2+lr))=.int .u64 lo) :
 Pure Tryz.prog 79 #[.int .u64 a,.int .u64 b] (qap false hi lo):=
 qac (args:=[.int .u64 a,.int .u64 b]) 200 [Re q1,Re q2,Re q3,Re q4,Re x1,Re x2,Re q5,Re x3,Re x4,Re q6,Re x5,Re x6,Re q7,Re x7,Re q8,Re x8,Re q9,Re x9,Re q10,Re x10]
  (Ai rfl (Ai nz (Ai q1 (Ai nz (Ai q2 (Ai nz (Ai q3 (Ai nz (Ai q4 (Ai x1 (Ai x2 (Ai nz (Ai q5 (Ai x3 (Ai x4 (Ai nz (Ai q6 (Ai x5 (Ai x6 (Ai nz (Ai q7 (Ai x7 (Ai nz (Ai q8 (Ai x8 (Ai nz (Ai q9 (Ai x9 (Ai nz (Ai q10 (Ai x10 tI))))))))))))))))))))))))))))))) (by kernel_rfl)
abbrev qus (hi:Int) (lo:Int) (za:Int) (zb:Int):Prop:=Pure Tryz.prog 79 #[.int .u64 za,.int .u64 zb] (qap false hi lo)
abbrev quu (a:Int) (za:Int):Prop:=Pure Tryz.prog 66 #[iV a] (.int .u64 za)
abbrev quy (b:Int) (zb:Int):Prop:=Pure Tryz.prog 66 #[iV b] (.int .u64 zb)
theorem qk6 {a b za zb hi lo:Int} (c1:quu a za) (c2:quy b zb) (c3:qus hi lo za zb) (t1:decide (a<0)=true) (t2:decide (b<0)=true) :
 Pure Tryz.prog 52 #[iV a,iV b] (qap false hi lo):=
 qac (args:=[iV a,iV b]) 200 [Rf c1,Rf c2,Rf c3,.t true,.t true,.k]
  (Ai rfl (Ai c1 (Ai c2 (Ai c3 (Ai t1 (Ai t2 tI)))))) (by kernel_rfl)
theorem qkt {a b za zb hi lo:Int} (c1:quu a za) (c2:quy b zb) (c3:qus hi lo za zb) (t1:decide (a<0)=true) (t2:decide (b<0)=false) (t3:(a !=0)=true) (t4:(b !=0)=false) :
 Pure Tryz.prog 52 #[iV a,iV b] (qap false hi lo):=
 qac (args:=[iV a,iV b]) 200 [Rf c1,Rf c2,Rf c3,.t true,.t false,.k,.t true,.t false]
  (Ai rfl (Ai c1 (Ai c2 (Ai c3 (Ai t1 (Ai t2 (Ai t3 (Ai t4 tI)))))))) (by kernel_rfl)
theorem qkV {a b za zb hi lo:Int} (c1:quu a za) (c2:quy b zb) (c3:qus hi lo za zb) (t1:decide (a<0)=true) (t2:decide (b<0)=false) (t3:(a !=0)=true) (t4:(b !=0)=true) :
 Pure Tryz.prog 52 #[iV a,iV b] (qap true hi lo):=
 qac (args:=[iV a,iV b]) 200 [Rf c1,Rf c2,Rf c3,.t true,.t false,.k,.t true,.t true]
  (Ai rfl (Ai c1 (Ai c2 (Ai c3 (Ai t1 (Ai t2 (Ai t3 (Ai t4 tI)))))))) (by kernel_rfl)
theorem qkN {a b za zb hi lo:Int} (c1:quu a za) (c2:quy b zb) (c3:qus hi lo za zb) (t1:decide (a<0)=false) (t2:decide (b<0)=true) (t3:(a !=0)=false) :
 Pure Tryz.prog 52 #[iV a,iV b] (qap false hi lo):=
 qac (args:=[iV a,iV b]) 200 [Rf c1,Rf c2,Rf c3,.t false,.t true,.k,.t false]
  (Ai rfl (Ai c1 (Ai c2 (Ai c3 (Ai t1 (Ai t2 (Ai t3 tI))))))) (by kernel_rfl)
theorem qki {a b za zb hi lo:Int} (c1:quu a za) (c2:quy b zb) (c3:qus hi lo za zb) (t1:decide (a<0)=false) (t2:decide (b<0)=true) (t3:(a !=0)=true) (t4:(b !=0)=true) :
 Pure Tryz.prog 52 #[iV a,iV b] (qap true hi lo):=
 qac (args:=[iV a,iV b]) 200 [Rf c1,Rf c2,Rf c3,.t false,.t true,.k,.t true,.t true]
  (Ai rfl (Ai c1 (Ai c2 (Ai c3 (Ai t1 (Ai t2 (Ai t3 (Ai t4 tI)))))))) (by kernel_rfl)
theorem qkm {a b za zb hi lo:Int} (c1:quu a za) (c2:quy b zb) (c3:qus hi lo za zb) (t1:decide (a<0)=false) (t2:decide (b<0)=false) :
 Pure Tryz.prog 52 #[iV a,iV b] (qap false hi lo):=
 qac (args:=[iV a,iV b]) 200 [Rf c1,Rf c2,Rf c3,.t false,.t false,.k]
  (Ai rfl (Ai c1 (Ai c2 (Ai c3 (Ai t1 (Ai t2 tI)))))) (by kernel_rfl)
theorem qsG {hi lo:Int} {s:Bool} (t1:(hi==0)=true) (t2:(lo==0)=true) :
 Pure Tryz.prog 53 #[qap s hi lo] (iV 0):=
 qac (args:=[qap s hi lo]) 200 [.t true,.t true]
  (Ai rfl (Ai t1 (Ai t2 tI))) (by kernel_rfl)
theorem qp6 {hi lo:Int} (t1:(hi==0)=false) :
 Pure Tryz.prog 53 #[qap true hi lo] (iV (-1)):=
 qac (args:=[qap true hi lo]) 200 [.t false]
  (Ai rfl (Ai t1 tI)) (by kernel_rfl)
theorem qpo {hi lo:Int} (t1:(hi==0)=true) (t2:(lo==0)=false) :
 Pure Tryz.prog 53 #[qap true hi lo] (iV (-1)):=
 qac (args:=[qap true hi lo]) 200 [.t true,.t false]
  (Ai rfl (Ai t1 (Ai t2 tI))) (by kernel_rfl)
theorem qpC {hi lo:Int} (t1:(hi==0)=false) :
 Pure Tryz.prog 53 #[qap false hi lo] (iV 1):=
 qac (args:=[qap false hi lo]) 200 [.t false]
  (Ai rfl (Ai t1 tI)) (by kernel_rfl)
theorem qpF {hi lo:Int} (t1:(hi==0)=true) (t2:(lo==0)=false) :
 Pure Tryz.prog 53 #[qap false hi lo] (iV 1):=
 qac (args:=[qap false hi lo]) 200 [.t true,.t false]
  (Ai rfl (Ai t1 (Ai t2 tI))) (by kernel_rfl)
theorem qqo {a b c d:Int} {s t:Bool} (t1:(a !=c)=true) (t2:decide (a<c)=true) :
 Pure Tryz.prog 54 #[qap s a b,qap t c d] (iV (-1)):=
 qac (args:=[qap s a b,qap t c d]) 200 [.t true,.t true]
  (Ai rfl (Ai t1 (Ai t2 tI))) (by kernel_rfl)
theorem qpI {a b c d:Int} {s t:Bool} (t1:(a !=c)=true) (t2:decide (a<c)=false) :
 Pure Tryz.prog 54 #[qap s a b,qap t c d] (iV 1):=
 qac (args:=[qap s a b,qap t c d]) 200 [.t true,.t false]
  (Ai rfl (Ai t1 (Ai t2 tI))) (by kernel_rfl)
theorem qqs {a b c d:Int} {s t:Bool} (t1:(a !=c)=false) (t3:(b !=d)=true) (t4:decide (b<d)=true) :
 Pure Tryz.prog 54 #[qap s a b,qap t c d] (iV (-1)):=
 qac (args:=[qap s a b,qap t c d]) 200 [.t false,.t true,.t true]
  (Ai rfl (Ai t1 (Ai t3 (Ai t4 tI)))) (by kernel_rfl)
theorem qo7 {a b c d:Int} {s t:Bool} (t1:(a !=c)=false) (t3:(b !=d)=true) (t4:decide (b<d)=false) :
 Pure Tryz.prog 54 #[qap s a b,qap t c d] (iV 1):=
 qac (args:=[qap s a b,qap t c d]) 200 [.t false,.t true,.t false]
  (Ai rfl (Ai t1 (Ai t3 (Ai t4 tI)))) (by kernel_rfl)
theorem qpy {a b c d:Int} {s t:Bool} (t1:(a !=c)=false) (t3:(b !=d)=false) :
 Pure Tryz.prog 54 #[qap s a b,qap t c d] (iV 0):=
 qac (args:=[qap s a b,qap t c d]) 200 [.t false,.t false]
  (Ai rfl (Ai t1 (Ai t3 tI))) (by kernel_rfl)
theorem qwv {a b c d h l:Int} {s t:Bool} (x1:Value.int .u64 (IntKind.u64.wrap (a-c))=.int .u64 h) (x2:Value.int .u64 (IntKind.u64.wrap (b-d))=.int .u64 l) (t1:decide (b<d)=false) :
 Pure Tryz.prog 115 #[qap s a b,qap t c d] (qap false h l):=
 qac (args:=[qap s a b,qap t c d]) 200 [Re x1,Re x2,.t false]
  (Ai rfl (Ai x1 (Ai x2 (Ai t1 tI)))) (by kernel_rfl)
theorem qwc {a b c d h l h1:Int} {s t:Bool} (x1:Value.int .u64 (IntKind.u64.wrap (a-c))=.int .u64 h) (x2:Value.int .u64 (IntKind.u64.wrap (b-d))=.int .u64 l) (t1:decide (b<d)=true) (x3:Value.int .u64 (IntKind.u64.wrap (h-1))=.int .u64 h1) :
 Pure Tryz.prog 115 #[qap s a b,qap t c d] (qap false h1 l):=
 qac (args:=[qap s a b,qap t c d]) 200 [Re x1,Re x2,.t true,Re x3]
  (Ai rfl (Ai x1 (Ai x2 (Ai t1 (Ai x3 tI))))) (by kernel_rfl)
theorem qmY {a b c d h l:Int} (x1:Value.int .u64 (IntKind.u64.wrap (a+c))=.int .u64 h) (x2:Value.int .u64 (IntKind.u64.wrap (b+d))=.int .u64 l) (t1:decide (l<b)=false) :
 Pure Tryz.prog 91 #[qap true a b,qap true c d] (qap true h l):=
 qac (args:=[qap true a b,qap true c d]) 200 [.k,Re x1,Re x2,.t false]
  (Ai rfl (Ai x1 (Ai x2 (Ai t1 tI)))) (by kernel_rfl)
theorem qmD {a b c d h l h1:Int} (x1:Value.int .u64 (IntKind.u64.wrap (a+c))=.int .u64 h) (x2:Value.int .u64 (IntKind.u64.wrap (b+d))=.int .u64 l) (t1:decide (l<b)=true) (x3:Value.int .u64 (IntKind.u64.wrap (h+1))=.int .u64 h1) :
 Pure Tryz.prog 91 #[qap true a b,qap true c d] (qap true h1 l):=
 qac (args:=[qap true a b,qap true c d]) 200 [.k,Re x1,Re x2,.t true,Re x3]
  (Ai rfl (Ai x1 (Ai x2 (Ai t1 (Ai x3 tI))))) (by kernel_rfl)
theorem qof {a b c d h l e:Int} (c1:Pure Tryz.prog 54 #[qap true a b,qap false c d] (iV e)) (t1:decide (e≥0)=true) (c2:Pure Tryz.prog 115 #[qap true a b,qap false c d] (qap false h l)) (t2:decide (h>0)=true) :
 Pure Tryz.prog 91 #[qap true a b,qap false c d] (qap true h l):=
 qac (args:=[qap true a b,qap false c d]) 200 [.k,Rf c1,.t true,Rf c2,.t true]
  (Ai rfl (Ai c1 (Ai t1 (Ai c2 (Ai t2 tI))))) (by kernel_rfl)
theorem qnB {a b c d h l e:Int} (c1:Pure Tryz.prog 54 #[qap true a b,qap false c d] (iV e)) (t1:decide (e≥0)=true) (c2:Pure Tryz.prog 115 #[qap true a b,qap false c d] (qap false h l)) (t2:decide (h>0)=false) (t3:decide (l>0)=true) :
 Pure Tryz.prog 91 #[qap true a b,qap false c d] (qap true h l):=
 qac (args:=[qap true a b,qap false c d]) 200 [.k,Rf c1,.t true,Rf c2,.t false,.t true]
  (Ai rfl (Ai c1 (Ai t1 (Ai c2 (Ai t2 (Ai t3 tI)))))) (by kernel_rfl)
theorem qma {a b c d h l e:Int} (c1:Pure Tryz.prog 54 #[qap true a b,qap false c d] (iV e)) (t1:decide (e≥0)=true) (c2:Pure Tryz.prog 115 #[qap true a b,qap false c d] (qap false h l)) (t2:decide (h>0)=false) (t3:decide (l>0)=false) :
 Pure Tryz.prog 91 #[qap true a b,qap false c d] (qap false h l):=
 qac (args:=[qap true a b,qap false c d]) 200 [.k,Rf c1,.t true,Rf c2,.t false,.t false]
  (Ai rfl (Ai c1 (Ai t1 (Ai c2 (Ai t2 (Ai t3 tI)))))) (by kernel_rfl)
theorem qpY {a b c d h l e:Int} (c1:Pure Tryz.prog 54 #[qap true a b,qap false c d] (iV e)) (t1:decide (e≥0)=false) (c2:Pure Tryz.prog 115 #[qap false c d,qap true a b] (qap false h l)) :
 Pure Tryz.prog 91 #[qap true a b,qap false c d] (qap false h l):=
 qac (args:=[qap true a b,qap false c d]) 200 [.k,Rf c1,.t false,Rf c2]
  (Ai rfl (Ai c1 (Ai t1 (Ai c2 tI)))) (by kernel_rfl)
theorem ql3 {a b c d h l:Int} (x1:Value.int .u64 (IntKind.u64.wrap (a+c))=.int .u64 h) (x2:Value.int .u64 (IntKind.u64.wrap (b+d))=.int .u64 l) (t1:decide (l<b)=false) :
 Pure Tryz.prog 91 #[qap false a b,qap false c d] (qap false h l):=
 qac (args:=[qap false a b,qap false c d]) 200 [.k,Re x1,Re x2,.t false]
  (Ai rfl (Ai x1 (Ai x2 (Ai t1 tI)))) (by kernel_rfl)
theorem qnr {a b c d h l h1:Int} (x1:Value.int .u64 (IntKind.u64.wrap (a+c))=.int .u64 h) (x2:Value.int .u64 (IntKind.u64.wrap (b+d))=.int .u64 l) (t1:decide (l<b)=true) (x3:Value.int .u64 (IntKind.u64.wrap (h+1))=.int .u64 h1) :
 Pure Tryz.prog 91 #[qap false a b,qap false c d] (qap false h1 l):=
 qac (args:=[qap false a b,qap false c d]) 200 [.k,Re x1,Re x2,.t true,Re x3]
  (Ai rfl (Ai x1 (Ai x2 (Ai t1 (Ai x3 tI))))) (by kernel_rfl)
theorem qpL {a b c d h l e:Int} (c1:Pure Tryz.prog 54 #[qap false a b,qap true c d] (iV e)) (t1:decide (e≥0)=true) (c2:Pure Tryz.prog 115 #[qap false a b,qap true c d] (qap false h l)) :
 Pure Tryz.prog 91 #[qap false a b,qap true c d] (qap false h l):=
 qac (args:=[qap false a b,qap true c d]) 200 [.k,Rf c1,.t true,Rf c2]
  (Ai rfl (Ai c1 (Ai t1 (Ai c2 tI)))) (by kernel_rfl)
theorem qp5 {a b c d h l e:Int} (c1:Pure Tryz.prog 54 #[qap false a b,qap true c d] (iV e)) (t1:decide (e≥0)=false) (c2:Pure Tryz.prog 115 #[qap true c d,qap false a b] (qap false h l)) :
 Pure Tryz.prog 91 #[qap false a b,qap true c d] (qap true h l):=
 qac (args:=[qap false a b,qap true c d]) 200 [.k,Rf c1,.t false,Rf c2]
  (Ai rfl (Ai c1 (Ai t1 (Ai c2 tI)))) (by kernel_rfl)
theorem qph {a b c d:Int} {g s t:Bool} (t1:decide (a>0)=true) :
 Pure Tryz.prog 93 #[.bool g,qap s a b,qap t c d] (.tuple #[qaa 0 0,iV 16]):=
 qac (args:=[.bool g,qap s a b,qap t c d]) 200 [.t true]
  (Ai rfl (Ai t1 tI)) (by kernel_rfl)
theorem qo5 {a b c d:Int} {g s t:Bool} (t1:decide (a>0)=false) (t2:decide (b>9223372036854775807)=true) :
 Pure Tryz.prog 93 #[.bool g,qap s a b,qap t c d] (.tuple #[qaa 0 0,iV 16]):=
 qac (args:=[.bool g,qap s a b,qap t c d]) 200 [.t false,.t true]
  (Ai rfl (Ai t1 (Ai t2 tI))) (by kernel_rfl)
theorem qp8 {a b c d:Int} {g s t:Bool} (t1:decide (a>0)=false) (t2:decide (b>9223372036854775807)=false) (t3:decide (c>0)=true) :
 Pure Tryz.prog 93 #[.bool g,qap s a b,qap t c d] (.tuple #[qaa 0 0,iV 16]):=
 qac (args:=[.bool g,qap s a b,qap t c d]) 200 [.t false,.t false,.t true]
  (Ai rfl (Ai t1 (Ai t2 (Ai t3 tI)))) (by kernel_rfl)
theorem qpd {a b c d:Int} {g s t:Bool} (t1:decide (a>0)=false) (t2:decide (b>9223372036854775807)=false) (t3:decide (c>0)=false) (t4:decide (d>9223372036854775807)=true) :
 Pure Tryz.prog 93 #[.bool g,qap s a b,qap t c d] (.tuple #[qaa 0 0,iV 16]):=
 qac (args:=[.bool g,qap s a b,qap t c d]) 200 [.t false,.t false,.t false,.t true]
  (Ai rfl (Ai t1 (Ai t2 (Ai t3 (Ai t4 tI))))) (by kernel_rfl)
theorem qrH {a b c d x y z:Int} {s t:Bool} (t1:decide (a>0)=false) (t2:decide (b>9223372036854775807)=false) (t3:decide (c>0)=false) (t4:decide (d>9223372036854775807)=false) (v1:iV (IntKind.i64.wrap b)=iV x) (v2:iV (IntKind.i64.wrap (0-x))=iV z) (v3:iV (IntKind.i64.wrap d)=iV y) :
 Pure Tryz.prog 93 #[.bool true,qap s a b,qap t c d] (.tuple #[qaa z y,iV 0]):=
 qac (args:=[.bool true,qap s a b,qap t c d]) 200 [.t false,.t false,.t false,.t false,Re v1,Re v2,Re v3]
  (Ai rfl (Ai t1 (Ai t2 (Ai t3 (Ai t4 (Ai v1 (Ai v2 (Ai v3 tI)))))))) (by kernel_rfl)
theorem qsK {a b c d x y:Int} {s t:Bool} (t1:decide (a>0)=false) (t2:decide (b>9223372036854775807)=false) (t3:decide (c>0)=false) (t4:decide (d>9223372036854775807)=false) (v1:iV (IntKind.i64.wrap b)=iV x) (v3:iV (IntKind.i64.wrap d)=iV y) :
 Pure Tryz.prog 93 #[.bool false,qap s a b,qap t c d] (.tuple #[qaa x y,iV 0]):=
 qac (args:=[.bool false,qap s a b,qap t c d]) 200 [.t false,.t false,.t false,.t false,Re v1,Re v3]
  (Ai rfl (Ai t1 (Ai t2 (Ai t3 (Ai t4 (Ai v1 (Ai v3 tI))))))) (by kernel_rfl)
end Go.Proofs.YtleaeldgaflmkaaGreat
