/-
  Package clock's searches: what they return. Conditions: none.
-/
import Derived.Test.YtkckcgpmnipnaaaGreatW46
import Derived.Test.YtkckcgpmnipnaaaGreatW21
namespace Go.Proofs.YtkckcgpmnipnaaaGreat
set_option maxRecDepth 100000
open Go.RowKit
theorem qAJ (a pa pb n:Int):∃ c,Pure Tryz.prog 310 #[qab a pa pb,iV n] (iV c)∧(c<0↔a<n)∧(c=0↔a=n):=by
 rcases Int.lt_trichotomy a n with h | h | h
 ·exact⟨-1,qBk (by simp) (by simp) (dt h),⟨fun _=>h,fun _=>by omega⟩,⟨fun h=>by omega,fun h=>by omega⟩⟩
 ·exact⟨0,qCK (by simp) (by simp) (df (by omega)) (df (by omega)),⟨fun h=>by omega,fun h=>by omega⟩,⟨fun _=>h,fun _=>rfl⟩⟩
 ·exact⟨1,qCk (by simp) (by simp) (df (by omega)) (dt (by omega)),⟨fun h=>by omega,fun h=>by omega⟩,⟨fun h=>by omega,fun h=>by omega⟩⟩
abbrev qHq (l:List Pt) (n:Int) (i j:Nat):List (Nat×SV):=[(0,.ls 0 l.length),(1,.pv (iV n)),(2,.pv (.func (.func 310) #[] #[])),(8,.pv (iV (l.length:Int))),(9,.pv (iV (i:Int))),(10,.pv (iV (j:Int)))]
theorem qpF {l:List Pt} (hn:l.length≤1000000) {n:Int}:∀ (d i j:Nat),j-i≤d→i≤j→j≤l.length→(∀ p,0<i→l[i-1]?=some p→p.id<n)→(∀ p,l[j]?=some p→¬ p.id<n)→
 ∃ k,k≤l.length∧(∀ p,0<k→l[k-1]?=some p→p.id<n)∧(∀ p,l[k]?=some p→¬ p.id<n)∧Rl 1 1 293 0 49 1 (qHq l n i j) [(0,0,qad l)] (.exit 0) (qHq l n k k) [(0,0,qad l)]:=by
 intro d
 induction d with
 | zero=>
  intro i j hd h1 h2 hi hj
  have:i=j:=by omega
  subst i
  exact⟨j,h2,hi,hj,qpq (df (by omega))⟩
 | succ d ih=>
  intro i j hd h1 h2 hi hj
  by_cases hij:i<j
  ·obtain⟨p,hp⟩:=qai (l:=l) (k:=(i+j)/2) (by omega)
   obtain⟨c,hc,hc1,hc2⟩:=qAJ p.id p.a p.b n
   have a1:iV (IntKind.i64.wrap ((i:Int)+(j:Int)))=iV ((i:Int)+(j:Int)):=by rw[qap (by omega) (by omega)]
   have a2:Value.int .u64 (IntKind.u64.wrap ((i:Int)+(j:Int)))=.int .u64 ((i:Int)+(j:Int)):=by rw[qe0 (by omega) (by omega)]
   have a3:Value.int .u64 (((i:Int)+(j:Int)).fdiv (2 ^ (min (1:Int).toNat IntKind.u64.bits)))=.int .u64 (((i+j)/2:Nat):Int):=by
    have:(2:Int) ^ (min (1:Int).toNat IntKind.u64.bits)=2:=rfl
    rw[this,Int.fdiv_eq_ediv_of_nonneg _ (by omega)]
    congr 1
   have a4:iV (IntKind.i64.wrap (((i+j)/2:Nat):Int))=iV (((i+j)/2:Nat):Int):=by rw[qap (by omega) (by omega)]
   by_cases hlt:p.id<n
   ·obtain⟨k,k1,k2,k3,r⟩:=ih ((i+j)/2+1) j (by omega) (by omega) h2 (fun q _ hq=>by
     rw[Nat.add_sub_cancel,hp] at hq
     cases hq
     exact hlt) hj
    exact⟨k,k1,k2,k3,qzD (hk:=hp) (hin:=qak (qaj hp)) (hlt:=dt (by omega)) (ha:=a1) (hu:=a2) (h1:=by omega) (hs:=a3) (hb:=a4) (hc:=hc) (hz:=dt (hc1.2 hlt)) (hh:=qal (by omega)) (r:=r)⟩
   ·obtain⟨k,k1,k2,k3,r⟩:=ih i ((i+j)/2) (by omega) (by omega) (by omega) hi (fun q hq=>by
     rw[hp] at hq
     cases hq
     exact hlt)
    exact⟨k,k1,k2,k3,qAE (hk:=hp) (hin:=qak (qaj hp)) (hlt:=dt (by omega)) (ha:=a1) (hu:=a2) (h1:=by omega) (hs:=a3) (hb:=a4) (hc:=hc) (hz:=df fun h=>hlt (hc1.1 h)) (r:=r)⟩
  ·have:i=j:=by omega
   subst i
   exact⟨j,h2,hi,hj,qpq (df (by omega))⟩
theorem qmF {l:List Pt} (hn:l.length≤1000000) (n:Int):∃ (k:Nat) (w:Bool),k≤l.length∧(∀ p,0<k→l[k-1]?=some p→p.id<n)∧(∀ p,l[k]?=some p→¬ p.id<n)∧(w=true→∃ p,l[k]?=some p∧p.id=n)∧(w=false→∀ p,l[k]?=some p→p.id≠n)∧
 Fn 293 1 [.ls 0 l.length,.pv (iV n),.pv (.func (.func 310) #[] #[])] [(0,0,qad l)] (.pv (.tuple #[iV (k:Int),.bool w])) 0 []:=by
 obtain⟨k,k1,k2,k3,r⟩:=qpF hn (n:=n) l.length 0 l.length (by omega) (Nat.zero_le _) (Nat.le_refl _) (fun p h=>by omega) (fun p hp=>by have:=qaj hp;omega)
 by_cases h:k<l.length
 ·obtain⟨p,hp⟩:=qai h
  obtain⟨c,hc,hc1,hc2⟩:=qAJ p.id p.a p.b n
  by_cases e:p.id=n
  ·exact⟨k,true,k1,k2,k3,fun _=>⟨p,hp,e⟩,fun h=>by (cases h),qyb (r0:=r) (hk:=hp) (hin:=qak h) (hlt:=dt (by omega)) (hc:=hc) (hz:=by simpa using hc2.2 e)⟩
  ·exact⟨k,false,k1,k2,k3,fun h=>by (cases h),fun _ q hq=>by (rw[hp] at hq;cases hq;exact e),qBg (r0:=r) (hk:=hp) (hin:=qak h) (hlt:=dt (by omega)) (hc:=hc) (hz:=by simpa using fun h=>e (hc2.1 h))⟩
 ·exact⟨k,false,k1,k2,k3,fun h=>by (cases h),fun _ q hq=>by (have:=qaj hq;omega),qvL (r0:=r) (hge:=df (by omega))⟩
theorem qvU {l:List Pt} (hn:l.length≤1000000) (hu:Up l) {n:Int} {k:Nat} {p:Pt} (hk:l[k]?=some p) (he:p.id=n):Fn 293 1 [.ls 0 l.length,.pv (iV n),.pv (.func (.func 310) #[] #[])] [(0,0,qad l)] (.pv (.tuple #[iV (k:Int),.bool true])) 0 []:=by
 obtain⟨j,w,j1,j2,j3,j4,j5,r⟩:=qmF hn n
 have hlk:=qaj hk
 have e:j=k:=by
  rcases Nat.lt_trichotomy j k with h | h | h
  ·obtain⟨q,hq⟩:=qai (l:=l) (k:=j) (by omega)
   have:=hu.mono h hq hk
   have:=j3 q hq
   omega
  ·exact h
  ·obtain⟨q,hq⟩:=qai (l:=l) (k:=j-1) (by omega)
   have a:=j2 q (by omega) hq
   rcases Nat.lt_or_ge k (j-1) with h' | h'
   ·have:=hu.mono h' hk hq
    omega
   ·have:j-1=k:=by omega
    rw[this,hk] at hq
    cases hq
    omega
 subst e
 cases w
 ·exact (j5 rfl p hk he).elim
 ·exact r
theorem qzU (a pa pb n:Int):∃ c,Pure Tryz.prog 268 #[qab a pa pb,iV n] (iV c)∧(c<0↔a<n)∧(c=0↔a=n):=by
 rcases Int.lt_trichotomy a n with h | h | h
 ·exact⟨-1,qBM (by simp) (by simp) (dt h),⟨fun _=>h,fun _=>by omega⟩,⟨fun h=>by omega,fun h=>by omega⟩⟩
 ·exact⟨0,qAC (by simp) (by simp) (df (by omega)) (df (by omega)),⟨fun h=>by omega,fun h=>by omega⟩,⟨fun _=>h,fun _=>rfl⟩⟩
 ·exact⟨1,qzu (by simp) (by simp) (df (by omega)) (dt (by omega)),⟨fun h=>by omega,fun h=>by omega⟩,⟨fun h=>by omega,fun h=>by omega⟩⟩
abbrev qHj (l:List Pt) (n:Int) (i j:Nat):List (Nat×SV):=[(0,.ls 0 l.length),(1,.pv (iV n)),(2,.pv (.func (.func 268) #[] #[])),(8,.pv (iV (l.length:Int))),(9,.pv (iV (i:Int))),(10,.pv (iV (j:Int)))]
theorem qqq {l:List Pt} (hn:l.length≤1000000) {n:Int}:∀ (d i j:Nat),j-i≤d→i≤j→j≤l.length→(∀ p,0<i→l[i-1]?=some p→p.id<n)→(∀ p,l[j]?=some p→¬ p.id<n)→
 ∃ k,k≤l.length∧(∀ p,0<k→l[k-1]?=some p→p.id<n)∧(∀ p,l[k]?=some p→¬ p.id<n)∧Rl 1 1 267 0 49 1 (qHj l n i j) [(0,0,qaP l)] (.exit 0) (qHj l n k k) [(0,0,qaP l)]:=by
 intro d
 induction d with
 | zero=>
  intro i j hd h1 h2 hi hj
  have:i=j:=by omega
  subst i
  exact⟨j,h2,hi,hj,qnT (df (by omega))⟩
 | succ d ih=>
  intro i j hd h1 h2 hi hj
  by_cases hij:i<j
  ·obtain⟨p,hp⟩:=qai (l:=l) (k:=(i+j)/2) (by omega)
   obtain⟨c,hc,hc1,hc2⟩:=qzU p.id p.a p.b n
   have a1:iV (IntKind.i64.wrap ((i:Int)+(j:Int)))=iV ((i:Int)+(j:Int)):=by rw[qap (by omega) (by omega)]
   have a2:Value.int .u64 (IntKind.u64.wrap ((i:Int)+(j:Int)))=.int .u64 ((i:Int)+(j:Int)):=by rw[qe0 (by omega) (by omega)]
   have a3:Value.int .u64 (((i:Int)+(j:Int)).fdiv (2 ^ (min (1:Int).toNat IntKind.u64.bits)))=.int .u64 (((i+j)/2:Nat):Int):=by
    have:(2:Int) ^ (min (1:Int).toNat IntKind.u64.bits)=2:=rfl
    rw[this,Int.fdiv_eq_ediv_of_nonneg _ (by omega)]
    congr 1
   have a4:iV (IntKind.i64.wrap (((i+j)/2:Nat):Int))=iV (((i+j)/2:Nat):Int):=by rw[qap (by omega) (by omega)]
   by_cases hlt:p.id<n
   ·obtain⟨k,k1,k2,k3,r⟩:=ih ((i+j)/2+1) j (by omega) (by omega) h2 (fun q _ hq=>by
     rw[Nat.add_sub_cancel,hp] at hq
     cases hq
     exact hlt) hj
    exact⟨k,k1,k2,k3,qzB (hk:=hp) (hin:=qak (qaj hp)) (hlt:=dt (by omega)) (ha:=a1) (hu:=a2) (h1:=by omega) (hs:=a3) (hb:=a4) (hc:=hc) (hz:=dt (hc1.2 hlt)) (hh:=qal (by omega)) (r:=r)⟩
   ·obtain⟨k,k1,k2,k3,r⟩:=ih i ((i+j)/2) (by omega) (by omega) (by omega) hi (fun q hq=>by
     rw[hp] at hq
     cases hq
     exact hlt)
    exact⟨k,k1,k2,k3,qz9 (hk:=hp) (hin:=qak (qaj hp)) (hlt:=dt (by omega)) (ha:=a1) (hu:=a2) (h1:=by omega) (hs:=a3) (hb:=a4) (hc:=hc) (hz:=df fun h=>hlt (hc1.1 h)) (r:=r)⟩
  ·have:i=j:=by omega
   subst i
   exact⟨j,h2,hi,hj,qnT (df (by omega))⟩
theorem qyH {l:List Pt} (hn:l.length≤1000000) (n:Int):∃ (k:Nat) (w:Bool),k≤l.length∧(∀ p,0<k→l[k-1]?=some p→p.id<n)∧(∀ p,l[k]?=some p→¬ p.id<n)∧(w=true→∃ p,l[k]?=some p∧p.id=n)∧(w=false→∀ p,l[k]?=some p→p.id≠n)∧
 Fn 267 1 [.ls 0 l.length,.pv (iV n),.pv (.func (.func 268) #[] #[])] [(0,0,qaP l)] (.pv (.tuple #[iV (k:Int),.bool w])) 0 []:=by
 obtain⟨k,k1,k2,k3,r⟩:=qqq hn (n:=n) l.length 0 l.length (by omega) (Nat.zero_le _) (Nat.le_refl _) (fun p h=>by omega) (fun p hp=>by have:=qaj hp;omega)
 by_cases h:k<l.length
 ·obtain⟨p,hp⟩:=qai h
  obtain⟨c,hc,hc1,hc2⟩:=qzU p.id p.a p.b n
  by_cases e:p.id=n
  ·exact⟨k,true,k1,k2,k3,fun _=>⟨p,hp,e⟩,fun h=>by (cases h),qxi (r0:=r) (hk:=hp) (hin:=qak h) (hlt:=dt (by omega)) (hc:=hc) (hz:=by simpa using hc2.2 e)⟩
  ·exact⟨k,false,k1,k2,k3,fun h=>by (cases h),fun _ q hq=>by (rw[hp] at hq;cases hq;exact e),qCV (r0:=r) (hk:=hp) (hin:=qak h) (hlt:=dt (by omega)) (hc:=hc) (hz:=by simpa using fun h=>e (hc2.1 h))⟩
 ·exact⟨k,false,k1,k2,k3,fun h=>by (cases h),fun _ q hq=>by (have:=qaj hq;omega),qyN (r0:=r) (hge:=df (by omega))⟩
theorem qrO {l:List Pt} (hn:l.length≤1000000) (hu:Up l) {n:Int} (h:∀ p∈l,p.id≠n):∃ k,k≤l.length∧(∀ (t:Nat) (p:Pt),t<k→l[t]?=some p→p.id<n)∧(∀ (t:Nat) (p:Pt),k≤t→l[t]?=some p→n<p.id)∧
 Fn 267 1 [.ls 0 l.length,.pv (iV n),.pv (.func (.func 268) #[] #[])] [(0,0,qaP l)] (.pv (.tuple #[iV (k:Int),.bool false])) 0 []:=by
 obtain⟨j,w,j1,j2,j3,j4,_,r⟩:=qyH hn n
 cases w
 ·refine⟨j,j1,fun t p ht hp=>?_,fun t p ht hp=>?_,r⟩
  ·obtain⟨q,hq⟩:=qai (l:=l) (k:=j-1) (by omega)
   have a:=j2 q (by omega) hq
   rcases Nat.lt_or_ge t (j-1) with h' | h'
   ·have:=hu.mono h' hp hq;omega
   ·have:j-1=t:=by omega
    rw[this,hp] at hq
    cases hq
    exact a
  ·obtain⟨q,hq⟩:=qai (l:=l) (k:=j) (by have:=qaj hp;omega)
   have a:=j3 q hq
   have b:=h q (List.mem_of_getElem? hq)
   rcases Nat.lt_or_ge j t with h' | h'
   ·have:=hu.mono h' hq hp;omega
   ·have:t=j:=by omega
    rw[this,hq] at hp
    cases hp
    omega
 ·obtain⟨p,hp,e⟩:=j4 rfl
  exact (h p (List.mem_of_getElem? hp) e).elim
end Go.Proofs.YtkckcgpmnipnaaaGreat
