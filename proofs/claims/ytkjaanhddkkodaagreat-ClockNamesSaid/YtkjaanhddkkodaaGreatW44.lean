/-
  Joined: Bd, Bc. Conditions: none.
-/
import Derived.Test.YtkjaanhddkkodaaGreatW43
import Derived.Test.YtkjaanhddkkodaaGreatW18
namespace Go.Proofs.YtkjaanhddkkodaaGreat
set_option maxRecDepth 100000
open Go.RowKit
theorem qAn (a pa pb n:Int):∃ c,Pure Tryz.prog 193 #[qac a pa pb,iV n] (iV c)∧(c<0↔a<n)∧(c=0↔a=n):=by
 rcases Int.lt_trichotomy a n with h | h | h
 ·exact⟨-1,qA7 (by simp) (by simp) (dt h),⟨fun _=>h,fun _=>by omega⟩,⟨fun h=>by omega,fun h=>by omega⟩⟩
 ·exact⟨0,qAU (by simp) (by simp) (df (by omega)) (df (by omega)),⟨fun h=>by omega,fun h=>by omega⟩,⟨fun _=>h,fun _=>rfl⟩⟩
 ·exact⟨1,qAs (by simp) (by simp) (df (by omega)) (dt (by omega)),⟨fun h=>by omega,fun h=>by omega⟩,⟨fun h=>by omega,fun h=>by omega⟩⟩
abbrev qEy (l:List Pt) (n:Int) (i j:Nat):List (Nat×SV):=[(0,.ls 0 l.length),(1,.pv (iV n)),(2,.pv (.func (.func 193) #[] #[])),(8,.pv (iV (l.length:Int))),(9,.pv (iV (i:Int))),(10,.pv (iV (j:Int)))]
theorem qqh {l:List Pt} (hn:l.length≤1000000) {n:Int}:∀ (d i j:Nat),j-i≤d→i≤j→j≤l.length→(∀ p,0<i→l[i-1]?=some p→p.id<n)→(∀ p,l[j]?=some p→¬ p.id<n)→
 ∃ k,k≤l.length∧(∀ p,0<k→l[k-1]?=some p→p.id<n)∧(∀ p,l[k]?=some p→¬ p.id<n)∧Rl 1 1 192 0 49 1 (qEy l n i j) [(0,0,qaj l)] (.exit 0) (qEy l n k k) [(0,0,qaj l)]:=by
 intro d
 induction d with
 | zero=>
  intro i j hd h1 h2 hi hj
  have:i=j:=by omega
  subst i
  exact⟨j,h2,hi,hj,qol (df (by omega))⟩
 | succ d ih=>
  intro i j hd h1 h2 hi hj
  by_cases hij:i<j
  ·obtain⟨p,hp⟩:=qai (l:=l) (k:=(i+j)/2) (by omega)
   obtain⟨c,hc,hc1,hc2⟩:=qAn p.id p.a p.b n
   have a1:iV (IntKind.i64.wrap ((i:Int)+(j:Int)))=iV ((i:Int)+(j:Int)):=by rw[qaq (by omega) (by omega)]
   have a2:Value.int .u64 (IntKind.u64.wrap ((i:Int)+(j:Int)))=.int .u64 ((i:Int)+(j:Int)):=by rw[qe6 (by omega) (by omega)]
   have a3:Value.int .u64 (((i:Int)+(j:Int)).fdiv (2 ^ (min (1:Int).toNat IntKind.u64.bits)))=.int .u64 (((i+j)/2:Nat):Int):=by
    have:(2:Int) ^ (min (1:Int).toNat IntKind.u64.bits)=2:=rfl
    rw[this,Int.fdiv_eq_ediv_of_nonneg _ (by omega)]
    congr 1
   have a4:iV (IntKind.i64.wrap (((i+j)/2:Nat):Int))=iV (((i+j)/2:Nat):Int):=by rw[qaq (by omega) (by omega)]
   by_cases hlt:p.id<n
   ·obtain⟨k,k1,k2,k3,r⟩:=ih ((i+j)/2+1) j (by omega) (by omega) h2 (fun q _ hq=>by
     rw[Nat.add_sub_cancel,hp] at hq
     cases hq
     exact hlt) hj
    exact⟨k,k1,k2,k3,qAc (hk:=hp) (hin:=qap (qak hp)) (hlt:=dt (by omega)) (ha:=a1) (hu:=a2) (h1:=by omega) (hs:=a3) (hb:=a4) (hc:=hc) (hz:=dt (hc1.2 hlt)) (hh:=qay (by omega)) (r:=r)⟩
   ·obtain⟨k,k1,k2,k3,r⟩:=ih i ((i+j)/2) (by omega) (by omega) (by omega) hi (fun q hq=>by
     rw[hp] at hq
     cases hq
     exact hlt)
    exact⟨k,k1,k2,k3,qyD (hk:=hp) (hin:=qap (qak hp)) (hlt:=dt (by omega)) (ha:=a1) (hu:=a2) (h1:=by omega) (hs:=a3) (hb:=a4) (hc:=hc) (hz:=df fun h=>hlt (hc1.1 h)) (r:=r)⟩
  ·have:i=j:=by omega
   subst i
   exact⟨j,h2,hi,hj,qol (df (by omega))⟩
theorem qma {l:List Pt} (hn:l.length≤1000000) (n:Int):∃ (k:Nat) (w:Bool),k≤l.length∧(∀ p,0<k→l[k-1]?=some p→p.id<n)∧(∀ p,l[k]?=some p→¬ p.id<n)∧(w=true→∃ p,l[k]?=some p∧p.id=n)∧(w=false→∀ p,l[k]?=some p→p.id≠n)∧
 Fn 192 1 [.ls 0 l.length,.pv (iV n),.pv (.func (.func 193) #[] #[])] [(0,0,qaj l)] (.pv (.tuple #[iV (k:Int),.bool w])) 0 []:=by
 obtain⟨k,k1,k2,k3,r⟩:=qqh hn (n:=n) l.length 0 l.length (by omega) (Nat.zero_le _) (Nat.le_refl _) (fun p h=>by omega) (fun p hp=>by have:=qak hp;omega)
 by_cases h:k<l.length
 ·obtain⟨p,hp⟩:=qai h
  obtain⟨c,hc,hc1,hc2⟩:=qAn p.id p.a p.b n
  by_cases e:p.id=n
  ·exact⟨k,true,k1,k2,k3,fun _=>⟨p,hp,e⟩,fun h=>by (cases h),qws (r0:=r) (hk:=hp) (hin:=qap h) (hlt:=dt (by omega)) (hc:=hc) (hz:=by simpa using hc2.2 e)⟩
  ·exact⟨k,false,k1,k2,k3,fun h=>by (cases h),fun _ q hq=>by (rw[hp] at hq;cases hq;exact e),qx7 (r0:=r) (hk:=hp) (hin:=qap h) (hlt:=dt (by omega)) (hc:=hc) (hz:=by simpa using fun h=>e (hc2.1 h))⟩
 ·exact⟨k,false,k1,k2,k3,fun h=>by (cases h),fun _ q hq=>by (have:=qak hq;omega),qv7 (r0:=r) (hge:=df (by omega))⟩
theorem qup {l:List Pt} (hn:l.length≤1000000) (hu:Up l) {n:Int} {k:Nat} {p:Pt} (hk:l[k]?=some p) (he:p.id=n):Fn 192 1 [.ls 0 l.length,.pv (iV n),.pv (.func (.func 193) #[] #[])] [(0,0,qaj l)] (.pv (.tuple #[iV (k:Int),.bool true])) 0 []:=by
 obtain⟨j,w,j1,j2,j3,j4,j5,r⟩:=qma hn n
 have hlk:=qak hk
 have e:j=k:=by
  rcases Nat.lt_trichotomy j k with h | h | h
  ·obtain⟨q,hq⟩:=qai (l:=l) (k:=j) (by omega)
   have:=hu.mono h hq hk
   have:=j3 q hq
   omega
  ·exact h
  ·obtain⟨q,hq⟩:=qai (l:=l) (k:=j-1) (by omega)
   have a:=j2 q (by omega) hq
   rcases Nat.lt_or_ge k (j-1) with h' | h'
   ·have:=hu.mono h' hk hq
    omega
   ·have:j-1=k:=by omega
    rw[this,hk] at hq
    cases hq
    omega
 subst e
 cases w
 ·exact (j5 rfl p hk he).elim
 ·exact r
theorem qzI (a pa pb n:Int):∃ c,Pure Tryz.prog 156 #[qac a pa pb,iV n] (iV c)∧(c<0↔a<n)∧(c=0↔a=n):=by
 rcases Int.lt_trichotomy a n with h | h | h
 ·exact⟨-1,qxT (by simp) (by simp) (dt h),⟨fun _=>h,fun _=>by omega⟩,⟨fun h=>by omega,fun h=>by omega⟩⟩
 ·exact⟨0,qyA (by simp) (by simp) (df (by omega)) (df (by omega)),⟨fun h=>by omega,fun h=>by omega⟩,⟨fun _=>h,fun _=>rfl⟩⟩
 ·exact⟨1,qzq (by simp) (by simp) (df (by omega)) (dt (by omega)),⟨fun h=>by omega,fun h=>by omega⟩,⟨fun h=>by omega,fun h=>by omega⟩⟩
abbrev qEB (l:List Pt) (n:Int) (i j:Nat):List (Nat×SV):=[(0,.ls 0 l.length),(1,.pv (iV n)),(2,.pv (.func (.func 156) #[] #[])),(8,.pv (iV (l.length:Int))),(9,.pv (iV (i:Int))),(10,.pv (iV (j:Int)))]
theorem qpr {l:List Pt} (hn:l.length≤1000000) {n:Int}:∀ (d i j:Nat),j-i≤d→i≤j→j≤l.length→(∀ p,0<i→l[i-1]?=some p→p.id<n)→(∀ p,l[j]?=some p→¬ p.id<n)→
 ∃ k,k≤l.length∧(∀ p,0<k→l[k-1]?=some p→p.id<n)∧(∀ p,l[k]?=some p→¬ p.id<n)∧Rl 1 1 155 0 49 1 (qEB l n i j) [(0,0,qaJ l)] (.exit 0) (qEB l n k k) [(0,0,qaJ l)]:=by
 intro d
 induction d with
 | zero=>
  intro i j hd h1 h2 hi hj
  have:i=j:=by omega
  subst i
  exact⟨j,h2,hi,hj,qmK (df (by omega))⟩
 | succ d ih=>
  intro i j hd h1 h2 hi hj
  by_cases hij:i<j
  ·obtain⟨p,hp⟩:=qai (l:=l) (k:=(i+j)/2) (by omega)
   obtain⟨c,hc,hc1,hc2⟩:=qzI p.id p.a p.b n
   have a1:iV (IntKind.i64.wrap ((i:Int)+(j:Int)))=iV ((i:Int)+(j:Int)):=by rw[qaq (by omega) (by omega)]
   have a2:Value.int .u64 (IntKind.u64.wrap ((i:Int)+(j:Int)))=.int .u64 ((i:Int)+(j:Int)):=by rw[qe6 (by omega) (by omega)]
   have a3:Value.int .u64 (((i:Int)+(j:Int)).fdiv (2 ^ (min (1:Int).toNat IntKind.u64.bits)))=.int .u64 (((i+j)/2:Nat):Int):=by
    have:(2:Int) ^ (min (1:Int).toNat IntKind.u64.bits)=2:=rfl
    rw[this,Int.fdiv_eq_ediv_of_nonneg _ (by omega)]
    congr 1
   have a4:iV (IntKind.i64.wrap (((i+j)/2:Nat):Int))=iV (((i+j)/2:Nat):Int):=by rw[qaq (by omega) (by omega)]
   by_cases hlt:p.id<n
   ·obtain⟨k,k1,k2,k3,r⟩:=ih ((i+j)/2+1) j (by omega) (by omega) h2 (fun q _ hq=>by
     rw[Nat.add_sub_cancel,hp] at hq
     cases hq
     exact hlt) hj
    exact⟨k,k1,k2,k3,qxq (hk:=hp) (hin:=qap (qak hp)) (hlt:=dt (by omega)) (ha:=a1) (hu:=a2) (h1:=by omega) (hs:=a3) (hb:=a4) (hc:=hc) (hz:=dt (hc1.2 hlt)) (hh:=qay (by omega)) (r:=r)⟩
   ·obtain⟨k,k1,k2,k3,r⟩:=ih i ((i+j)/2) (by omega) (by omega) (by omega) hi (fun q hq=>by
     rw[hp] at hq
     cases hq
     exact hlt)
    exact⟨k,k1,k2,k3,qyL (hk:=hp) (hin:=qap (qak hp)) (hlt:=dt (by omega)) (ha:=a1) (hu:=a2) (h1:=by omega) (hs:=a3) (hb:=a4) (hc:=hc) (hz:=df fun h=>hlt (hc1.1 h)) (r:=r)⟩
  ·have:i=j:=by omega
   subst i
   exact⟨j,h2,hi,hj,qmK (df (by omega))⟩
theorem qmF {l:List Pt} (hn:l.length≤1000000) (n:Int):∃ (k:Nat) (w:Bool),k≤l.length∧(∀ p,0<k→l[k-1]?=some p→p.id<n)∧(∀ p,l[k]?=some p→¬ p.id<n)∧(w=true→∃ p,l[k]?=some p∧p.id=n)∧(w=false→∀ p,l[k]?=some p→p.id≠n)∧
 Fn 155 1 [.ls 0 l.length,.pv (iV n),.pv (.func (.func 156) #[] #[])] [(0,0,qaJ l)] (.pv (.tuple #[iV (k:Int),.bool w])) 0 []:=by
 obtain⟨k,k1,k2,k3,r⟩:=qpr hn (n:=n) l.length 0 l.length (by omega) (Nat.zero_le _) (Nat.le_refl _) (fun p h=>by omega) (fun p hp=>by have:=qak hp;omega)
 by_cases h:k<l.length
 ·obtain⟨p,hp⟩:=qai h
  obtain⟨c,hc,hc1,hc2⟩:=qzI p.id p.a p.b n
  by_cases e:p.id=n
  ·exact⟨k,true,k1,k2,k3,fun _=>⟨p,hp,e⟩,fun h=>by (cases h),qtS (r0:=r) (hk:=hp) (hin:=qap h) (hlt:=dt (by omega)) (hc:=hc) (hz:=by simpa using hc2.2 e)⟩
  ·exact⟨k,false,k1,k2,k3,fun h=>by (cases h),fun _ q hq=>by (rw[hp] at hq;cases hq;exact e),qAP (r0:=r) (hk:=hp) (hin:=qap h) (hlt:=dt (by omega)) (hc:=hc) (hz:=by simpa using fun h=>e (hc2.1 h))⟩
 ·exact⟨k,false,k1,k2,k3,fun h=>by (cases h),fun _ q hq=>by (have:=qak hq;omega),qtC (r0:=r) (hge:=df (by omega))⟩
theorem qv6 {l:List Pt} (hn:l.length≤1000000) (hu:Up l) {n:Int} {k:Nat} {p:Pt} (hk:l[k]?=some p) (he:p.id=n):Fn 155 1 [.ls 0 l.length,.pv (iV n),.pv (.func (.func 156) #[] #[])] [(0,0,qaJ l)] (.pv (.tuple #[iV (k:Int),.bool true])) 0 []:=by
 obtain⟨j,w,j1,j2,j3,j4,j5,r⟩:=qmF hn n
 have hlk:=qak hk
 have e:j=k:=by
  rcases Nat.lt_trichotomy j k with h | h | h
  ·obtain⟨q,hq⟩:=qai (l:=l) (k:=j) (by omega)
   have:=hu.mono h hq hk
   have:=j3 q hq
   omega
  ·exact h
  ·obtain⟨q,hq⟩:=qai (l:=l) (k:=j-1) (by omega)
   have a:=j2 q (by omega) hq
   rcases Nat.lt_or_ge k (j-1) with h' | h'
   ·have:=hu.mono h' hk hq
    omega
   ·have:j-1=k:=by omega
    rw[this,hk] at hq
    cases hq
    omega
 subst e
 cases w
 ·exact (j5 rfl p hk he).elim
 ·exact r
theorem qpX {l:List Pt} (hn:l.length≤1000000) (hu:Up l) {n:Int} (h:∀ p∈l,p.id≠n):∃ k,k≤l.length∧(∀ (t:Nat) (p:Pt),t<k→l[t]?=some p→p.id<n)∧(∀ (t:Nat) (p:Pt),k≤t→l[t]?=some p→n<p.id)∧
 Fn 155 1 [.ls 0 l.length,.pv (iV n),.pv (.func (.func 156) #[] #[])] [(0,0,qaJ l)] (.pv (.tuple #[iV (k:Int),.bool false])) 0 []:=by
 obtain⟨j,w,j1,j2,j3,j4,_,r⟩:=qmF hn n
 cases w
 ·refine⟨j,j1,fun t p ht hp=>?_,fun t p ht hp=>?_,r⟩
  ·obtain⟨q,hq⟩:=qai (l:=l) (k:=j-1) (by omega)
   have a:=j2 q (by omega) hq
   rcases Nat.lt_or_ge t (j-1) with h' | h'
   ·have:=hu.mono h' hp hq;omega
   ·have:j-1=t:=by omega
    rw[this,hp] at hq
    cases hq
    exact a
  ·obtain⟨q,hq⟩:=qai (l:=l) (k:=j) (by have:=qak hp;omega)
   have a:=j3 q hq
   have b:=h q (List.mem_of_getElem? hq)
   rcases Nat.lt_or_ge j t with h' | h'
   ·have:=hu.mono h' hq hp;omega
   ·have:t=j:=by omega
    rw[this,hq] at hp
    cases hp
    omega
 ·obtain⟨p,hp,e⟩:=j4 rfl
  exact (h p (List.mem_of_getElem? hp) e).elim
end Go.Proofs.YtkjaanhddkkodaaGreat

namespace Go.Proofs.YtkjaanhddkkodaaGreat
set_option maxRecDepth 100000
open Go.RowKit
theorem qAa {s:List Pt} {tn td:Int} {e1 e2:Int} (h1:Fn 48 1 [qaE 0 s] [(0,0,qaj s)] (.pv (iV (e1))) 0 []) (h2:Pure Tryz.prog 49 #[qaa tn td] (iV (e2))) (he:(e1 !=0)=true) :
 Fn 10 1 [qaE 0 s,.pv (qaa tn td)] [(0,0,qaj s)] (.pv (.tuple #[qa3,iV e1])) 0 []:=
 Fz [] [Cf h1 [0],Rf h2,.k,.k,.t true,.t true]
  tI (Co h1 [0] 4 (Ai h2 (Ai he (Ai he tI))))
abbrev qnJ (s:List Pt):Prop:=Fn 48 1 [qaE 0 s] [(0,0,qaj s)] (.pv (iV (0))) 0 []
theorem qAH {s:List Pt} {tn td:Int} {e2:Int} (h1:qnJ s) (h2:Pure Tryz.prog 49 #[qaa tn td] (iV (e2))) (he:(e2 !=0)=true) :
 Fn 10 1 [qaE 0 s,.pv (qaa tn td)] [(0,0,qaj s)] (.pv (.tuple #[qa3,iV e2])) 0 []:=
 Fz [] [Cf h1 [0],Rf h2,.k,.k,.k,.k,.k,.t true,.t true]
  tI (Co h1 [0] 4 (Ai h2 (Ai he (Ai he tI))))
abbrev qqa:Prop:=Fn 52 0 [] [] (.ag [.pv (iV 0),.ls 0 0]) 1 [(0,0,qal [])]
abbrev quz (s:List Pt):Prop:=Fn 51 1 [qaE 0 s] [(0,0,qaj s)] (.ag [.ls 1 s.length]) 1 [(1,0,qaj s)]
theorem qAI {o:Ck} {s:List Pt} {tn td:Int} (h1:qnJ s) (h2:Pure Tryz.prog 49 #[qaa tn td] (iV (0))) (ha:Fn 50 0 [.pv (iV (200))] [] (.tu [.ag [.ls 0 o.u.length,.ls 1 o.b.length,.ls 2 o.fr.length,.ls 4 0,.ls 3 o.wh.length],.one (.pv (iV 0))]) 5 [(0,0,zrI o.u),(1,0,zrB o.b),(2,0,zrI o.fr),(3,0,zrI o.wh),(4,0,qao [])]) (hf:quz s) (hcn:qqa) :
 Fn 10 1 [qaE 0 s,.pv (qaa tn td)] [(0,0,qaj s)] (.tu [.ag [.pv (iV tn),.pv (iV td),.ls 1 s.length,.pv (iV 0),.ls 7 0,.ls 2 o.u.length,.ls 3 o.b.length,.ls 4 o.fr.length,.ls 6 0,.ls 5 o.wh.length,.pv (.slice none 0 0)],.one (.pv (iV 0))]) 7 [(7,0,qal []),(1,0,qaj s),(2,0,zrI o.u),(3,0,zrB o.b),(4,0,zrI o.fr),(5,0,zrI o.wh),(6,0,qao [])]:=
 Fz [(1,11),(2,5),(3,6),(4,7),(5,8),(6,9),(7,12)] [Cf h1 [0],Rf h2,.k,.k,.k,.k,.k,.k,.k,.k,.k,Cf ha [],.md,Cf hf [0],Cf hcn []]
  (qaG (qaK [(1,11),(2,5),(3,6),(4,7),(5,8),(6,9),(7,12)]) [(7,0,qal []),(1,0,qaj s),(2,0,zrI o.u),(3,0,zrB o.b),(4,0,zrI o.fr),(5,0,zrI o.wh),(6,0,qao [])]) (Co h1 [0] 4 (Ai h2 (Co ha [] 5 (Co hf [0] 11 (Co hcn [] 12 tI)))))
theorem qv9 {s:List Pt} {a b:Int} (hn:qqa) (had:Fn 57 1 [qaP 0 0 ([]:List Pt),.pv (qaf a b)] [(0,0,qal [])] (.pv (.tuple #[.agg #[iV 0,.slice none 0 0],iV 0,iV 8])) 0 []) :
 Fn 56 1 [qaE 0 s,.pv (qaf a b)] [(0,0,qaj s)] (.pv (iV (8))) 0 []:=
 Fz [] [.md,Cf hn [],Cf had [3],.k]
  tI (Co hn [] 3 (Co had [3] 4 tI))
abbrev qAf (a:Int) (b:Int) (l2:List Pt) (n:Int) (x2:Int):Prop:=Fn 57 1 [qaP 0 0 ([]:List Pt),.pv (qaf a b)] [(0,0,qal [])] (.tu [.ag [.pv (iV x2),.ls 1 l2.length],.one (.pv (iV n)),.one (.pv (iV 0))]) 1 [(1,0,qal l2)]
theorem qAx {s:List Pt} {n a b:Int} {x2:Int} {l2:List Pt} (hn:qqa) (had:qAf a b l2 n x2) (hb:Fn 102 1 [qaE 0 s,.pv (qaf a b)] [(0,0,qaj s)] (.pv (.bool true)) 0 []) :
 Fn 56 1 [qaE 0 s,.pv (qaf a b)] [(0,0,qaj s)] (.pv (iV (0))) 0 []:=
 Fz [] [.md,Cf hn [],Cf had [3],.k,Cf hb [0],.k]
  tI (Co hn [] 3 (Co had [3] 4 (Co hb [0] 6 tI)))
theorem qoV {s:List Pt} {n a b:Int} {x2:Int} {l2:List Pt} (hn:qqa) (had:qAf a b l2 n x2) (hb:Fn 102 1 [qaE 0 s,.pv (qaf a b)] [(0,0,qaj s)] (.pv (.bool false)) 0 []) :
 Fn 56 1 [qaE 0 s,.pv (qaf a b)] [(0,0,qaj s)] (.pv (iV (6))) 0 []:=
 Fz [] [.md,Cf hn [],Cf had [3],.k,Cf hb [0],.k]
  tI (Co hn [] 3 (Co had [3] 4 (Co hb [0] 6 tI)))
abbrev qpF (c:Ck) (e1:Int):Prop:=Fn 22 8 [qam c] (qas c) (.pv (iV (e1))) 0 []
theorem qAi {c:Ck} {a b:Int} {e1 e2:Int} (h1:qpF c e1) (h2:Fn 56 1 [qaE 0 c.s,.pv (qaf a b)] [(0,0,qaj c.s)] (.pv (iV (e2))) 0 []) (he:(e1 !=0)=true) :
 Fn 16 8 [qam c,.pv (qaf a b)] (qas c) (.pv (.tuple #[qa3,iV 0,iV e1])) 0 []:=
 Fz [] [Cf h1 [0,1,2,3,4,5,6,7],Cf h2 [0],.k,.k,.t true,.t true]
  tI (Co h1 [0,1,2,3,4,5,6,7] 11 (Co h2 [0] 11 (Ai he (Ai he tI))))
abbrev qg5 (c:Ck):Prop:=Fn 22 8 [qam c] (qas c) (.pv (iV (0))) 0 []
theorem qsj {c:Ck} {a b:Int} {e2:Int} (h1:qg5 c) (h2:Fn 56 1 [qaE 0 c.s,.pv (qaf a b)] [(0,0,qaj c.s)] (.pv (iV (e2))) 0 []) (he:(e2 !=0)=true) :
 Fn 16 8 [qam c,.pv (qaf a b)] (qas c) (.pv (.tuple #[qa3,iV 0,iV e2])) 0 []:=
 Fz [] [Cf h1 [0,1,2,3,4,5,6,7],Cf h2 [0],.k,.k,.k,.k,.k,.t true,.t true]
  tI (Co h1 [0,1,2,3,4,5,6,7] 11 (Co h2 [0] 11 (Ai he (Ai he tI))))
abbrev qpe (a:Int) (b:Int) (c:Ck):Prop:=Fn 56 1 [qaE 0 c.s,.pv (qaf a b)] [(0,0,qaj c.s)] (.pv (iV (0))) 0 []
theorem qny {c:Ck} {a b e:Int} (h1:qg5 c) (h2:qpe a b c) (had:Fn 57 1 [qaP 0 c.x c.l,.pv (qaf a b)] [(0,0,qal c.l)] (.pv (.tuple #[.agg #[iV 0,.slice none 0 0],iV 0,iV e])) 0 []) (he:(e !=0)=true) :
 Fn 16 8 [qam c,.pv (qaf a b)] (qas c) (.pv (.tuple #[qa3,iV 0,iV e])) 0 []:=
 Fz [] [Cf h1 [0,1,2,3,4,5,6,7],Cf h2 [0],.k,.k,.k,.k,.k,.k,.k,.k,.k,Cf had [1],.t true]
  tI (Co h1 [0,1,2,3,4,5,6,7] 11 (Co h2 [0] 11 (Co had [1] 12 (Ai he tI))))
abbrev qEd (a:Int) (b:Int) (c:Ck) (l2:List Pt) (n:Int) (x2:Int):Prop:=Fn 57 1 [qaP 0 c.x c.l,.pv (qaf a b)] [(0,0,qal c.l)] (.tu [.ag [.pv (iV x2),.ls 1 l2.length],.one (.pv (iV n)),.one (.pv (iV 0))]) 1 [(1,0,qal l2)]
abbrev qkL (c:Ck):Prop:=Fn 58 8 [qam c] (qas c) (ql0 c) 8 (qc9 c)
theorem qyd {c:Ck} {n a b:Int} {x2:Int} {l2:List Pt} (h1:qg5 c) (h2:qpe a b c) (had:qEd a b c l2 n x2) (hcl:qkL c) (ht:Fn 59 8 [qam ({ c with x:=x2,l:=l2 }:Ck),.pv (ptV (Pt.mk n a b))] (qas ({ c with x:=x2,l:=l2 }:Ck)) (.tu [qru ({ c with x:=x2,l:=l2 }:Ck),.one (.pv (iV 0))]) 0 []) :
 Fn 16 8 [qam c,.pv (qaf a b)] (qas c) (.tu [qg6 ({ c with x:=x2,l:=l2 }:Ck),.one (.pv (iV n)),.one (.pv (iV 0))]) 8 (qc9 ({ c with x:=x2,l:=l2 }:Ck)):=
 Fz [(8,14),(9,12),(10,16),(11,17),(12,18),(13,19),(14,20),(15,21)] [Cf h1 [0,1,2,3,4,5,6,7],Cf h2 [0],.k,.k,.k,.k,.k,.k,.k,.k,.k,Cf had [1],.k,Cf hcl [0,1,2,3,4,5,6,7],Cf ht [14,12,16,17,18,19,20,21],.k]
  (qaG (qaK [(8,14),(9,12),(10,16),(11,17),(12,18),(13,19),(14,20),(15,21)]) (qc9 ({ c with x:=x2,l:=l2 }:Ck))) (Co h1 [0,1,2,3,4,5,6,7] 11 (Co h2 [0] 11 (Co had [1] 12 (Co hcl [0,1,2,3,4,5,6,7] 14 (Co ht [14,12,16,17,18,19,20,21] 23 tI)))))
theorem quZ {c o:Ck} {n a b:Int} {x2:Int} {l l2:List Pt} (h1:qg5 c) (h2:qpe a b c) (had:qEd a b c l2 n x2) (hcl:qkL c) (ht:Fn 59 8 [qam ({ c with x:=x2,l:=l2 }:Ck),.pv (ptV (Pt.mk n a b))] (qas ({ c with x:=x2,l:=l2 }:Ck)) (.tu [qhs ({ c with x:=x2,l:=l2 }:Ck) o l,.one (.pv (iV 0))]) 6 [(8,0,zrI o.u),(9,0,zrB o.b),(10,0,zrI o.fr),(11,0,qao o.ev),(12,0,zrI o.wh),(13,0,qaJ l)]) :
 Fn 16 8 [qam c,.pv (qaf a b)] (qas c) (.tu [qg6 ({ c with x:=x2,l:=l2,u:=o.u,b:=o.b,fr:=o.fr,ev:=o.ev,wh:=o.wh,d:=l }:Ck),.one (.pv (iV n)),.one (.pv (iV 0))]) 8 (qc9 ({ c with x:=x2,l:=l2,u:=o.u,b:=o.b,fr:=o.fr,ev:=o.ev,wh:=o.wh,d:=l }:Ck)):=
 Fz [(8,14),(9,12),(10,23),(11,24),(12,25),(13,26),(14,27),(15,28)] [Cf h1 [0,1,2,3,4,5,6,7],Cf h2 [0],.k,.k,.k,.k,.k,.k,.k,.k,.k,Cf had [1],.k,Cf hcl [0,1,2,3,4,5,6,7],Cf ht [14,12,16,17,18,19,20,21],.k]
  (qaG (qaK [(8,14),(9,12),(10,23),(11,24),(12,25),(13,26),(14,27),(15,28)]) (qc9 ({ c with x:=x2,l:=l2,u:=o.u,b:=o.b,fr:=o.fr,ev:=o.ev,wh:=o.wh,d:=l }:Ck))) (Co h1 [0,1,2,3,4,5,6,7] 11 (Co h2 [0] 11 (Co had [1] 12 (Co hcl [0,1,2,3,4,5,6,7] 14 (Co ht [14,12,16,17,18,19,20,21] 23 tI)))))
theorem qqc {c:Ck} {n a b e:Int} {x2:Int} {l2:List Pt} (h1:qg5 c) (h2:qpe a b c) (had:qEd a b c l2 n x2) (hcl:qkL c) (ht:Fn 59 8 [qam ({ c with x:=x2,l:=l2 }:Ck),.pv (ptV (Pt.mk n a b))] (qas ({ c with x:=x2,l:=l2 }:Ck)) (.pv (.tuple #[qa3,iV e])) 0 []) (he:(e !=0)=true) :
 Fn 16 8 [qam c,.pv (qaf a b)] (qas c) (.pv (.tuple #[qa3,iV 0,iV e])) 0 []:=
 Fz [] [Cf h1 [0,1,2,3,4,5,6,7],Cf h2 [0],.k,.k,.k,.k,.k,.k,.k,.k,.k,Cf had [1],.k,Cf hcl [0,1,2,3,4,5,6,7],Cf ht [14,12,16,17,18,19,20,21],.t true]
  tI (Co h1 [0,1,2,3,4,5,6,7] 11 (Co h2 [0] 11 (Co had [1] 12 (Co hcl [0,1,2,3,4,5,6,7] 14 (Co ht [14,12,16,17,18,19,20,21] 23 (Ai he tI))))))
theorem qvG {c:Ck} {n e:Int} (h1:Fn 22 8 [qam c] (qas c) (.pv (iV (e))) 0 []) (he:(e !=0)=true) :
 Fn 17 8 [qam c,.pv (iV (n))] (qas c) (.pv (.tuple #[qa3,iV e])) 0 []:=
 Fz [] [Cf h1 [0,1,2,3,4,5,6,7],.t true]
  tI (Co h1 [0,1,2,3,4,5,6,7] 10 (Ai he tI))
theorem quS {c:Ck} {n a b e:Int} (h1:qg5 c) (hr:Fn 60 8 [qam c,.pv (iV (n))] (qas c) (.pv (.tuple #[qa3,qaf a b,iV e])) 0 []) :
 Fn 17 8 [qam c,.pv (iV (n))] (qas c) (.pv (.tuple #[qa3,iV e])) 0 []:=
 Fz [] [Cf h1 [0,1,2,3,4,5,6,7],.k,Cf hr [0,1,2,3,4,5,6,7]]
  tI (Co h1 [0,1,2,3,4,5,6,7] 10 (Co hr [0,1,2,3,4,5,6,7] 10 tI))
theorem qz7 {c o:Ck} {n a b:Int} (h1:qg5 c) (hr:Fn 60 8 [qam c,.pv (iV (n))] (qas c) (.tu [qg6 o,.one (.pv (qaf a b)),.one (.pv (iV 0))]) 8 (qc9 o)) :
 Fn 17 8 [qam c,.pv (iV (n))] (qas c) (.tu [qg6 o,.one (.pv (iV 0))]) 8 (qc9 o):=
 Fz [(8,10),(9,11),(10,12),(11,13),(12,14),(13,15),(14,16),(15,17)] [Cf h1 [0,1,2,3,4,5,6,7],.k,Cf hr [0,1,2,3,4,5,6,7]]
  (qaG (qaK [(8,10),(9,11),(10,12),(11,13),(12,14),(13,15),(14,16),(15,17)]) (qc9 o)) (Co h1 [0,1,2,3,4,5,6,7] 10 (Co hr [0,1,2,3,4,5,6,7] 10 tI))
theorem quF {c:Ck} {e:Int} (h1:Fn 22 8 [qam c] (qas c) (.pv (iV (e))) 0 []) (he:(e !=0)=true) :
 Fn 18 8 [qam c] (qas c) (.pv (.tuple #[.agg #[iV 0,iV 0,iV 0,iV 0,iV 0],iV e])) 0 []:=
 Fz [] [Cf h1 [0,1,2,3,4,5,6,7],.t true]
  tI (Co h1 [0,1,2,3,4,5,6,7] 10 (Ai he tI))
abbrev qqn (c:Ck):HpL:=[(0,0,zrI c.u),(1,0,zrB c.b),(2,0,zrI c.fr),(3,0,qao c.ev),(4,0,zrI c.wh)]
theorem qss {c:Ck} {e:Int} {y:Ev} (h1:qg5 c) (ht:Fn 61 5 [agA c.u c.b c.fr c.ev c.wh] (qqn c) (.pv (.tuple #[qab y,iV e])) 0 []) :
 Fn 18 8 [qam c] (qas c) (.pv (.tuple #[qab y,iV e])) 0 []:=
 Fz [] [Cf h1 [0,1,2,3,4,5,6,7],.k,Cf ht [2,3,4,5,6]]
  tI (Co h1 [0,1,2,3,4,5,6,7] 10 (Co ht [2,3,4,5,6] 10 tI))
theorem qtP {c:Ck} {n tn td e:Int} (hc:Pure Tryz.prog 116 #[qaa tn td,qaa c.tn c.td] (.tuple #[iV n,iV e])) (he:(e==0)=false) :
 Fn 62 8 [qam c,.pv (qaa tn td)] (qas c) (.pv (iV (e))) 0 []:=
 Fz [] [Rf hc,.t false]
  tI (Ai hc (Ai he tI))
theorem qqE {c:Ck} {n tn td:Int} (hc:Pure Tryz.prog 116 #[qaa tn td,qaa c.tn c.td] (.tuple #[iV n,iV 0])) (hn:decide (n<0)=true) :
 Fn 62 8 [qam c,.pv (qaa tn td)] (qas c) (.pv (iV (44))) 0 []:=
 Fz [] [Rf hc,.k,.t true]
  tI (Ai hc (Ai hn tI))
theorem qyE {c:Ck} {n tn td:Int} (hc:Pure Tryz.prog 116 #[qaa tn td,qaa c.tn c.td] (.tuple #[iV n,iV 0])) (hn:decide (n<0)=false) :
 Fn 62 8 [qam c,.pv (qaa tn td)] (qas c) (.pv (iV (0))) 0 []:=
 Fz [] [Rf hc,.k,.t false]
  tI (Ai hc (Ai hn tI))
theorem qzO {c:Ck} {tn td e:Int} {y:Ev} (ht:Fn 61 5 [agA c.u c.b c.fr c.ev c.wh] (qqn c) (.pv (.tuple #[qab y,iV e])) 0 []) (he:(e !=0)=true) :
 Fn 63 8 [qam c,.pv (qaa tn td)] (qas c) (.pv (.tuple #[.agg #[iV 0,iV 0,iV 0,iV 0,iV 0],.bool false])) 0 []:=
 Fz [] [Cf ht [2,3,4,5,6],.t true]
  tI (Co ht [2,3,4,5,6] 11 (Ai he tI))
theorem qvO {c:Ck} {n tn td:Int} {y:Ev} (ht:Fn 61 5 [agA c.u c.b c.fr c.ev c.wh] (qqn c) (.pv (.tuple #[qab y,iV 0])) 0 []) (hc:Pure Tryz.prog 116 #[qaa y.n y.d,qaa tn td] (.tuple #[iV n,iV 0])) (hn:decide (n≤0)=true) :
 Fn 63 8 [qam c,.pv (qaa tn td)] (qas c) (.pv (.tuple #[qab y,.bool true])) 0 []:=
 Fz [] [Cf ht [2,3,4,5,6],.k,Rf hc,.t true]
  tI (Co ht [2,3,4,5,6] 11 (Ai hc (Ai hn tI)))
theorem qtf {c:Ck} {n tn td:Int} {y:Ev} (ht:Fn 61 5 [agA c.u c.b c.fr c.ev c.wh] (qqn c) (.pv (.tuple #[qab y,iV 0])) 0 []) (hc:Pure Tryz.prog 116 #[qaa y.n y.d,qaa tn td] (.tuple #[iV n,iV 0])) (hn:decide (n≤0)=false) :
 Fn 63 8 [qam c,.pv (qaa tn td)] (qas c) (.pv (.tuple #[qab y,.bool false])) 0 []:=
 Fz [] [Cf ht [2,3,4,5,6],.k,Rf hc,.t false]
  tI (Co ht [2,3,4,5,6] 11 (Ai hc (Ai hn tI)))
abbrev qoM (c:Ck) (e2:Int) (td:Int) (tn:Int):Prop:=Fn 62 8 [qam c,.pv (qaa tn td)] (qas c) (.pv (iV (e2))) 0 []
theorem qAY {c:Ck} {tn td:Int} {e1 e2:Int} (h1:qpF c e1) (h2:qoM c e2 td tn) (he:(e1 !=0)=true) :
 Fn 19 8 [qam c,.pv (qaa tn td)] (qas c) (.pv (.tuple #[qa3,.agg #[iV 0,iV 0,iV 0,iV 0,iV 0],qaf 0 0,iV e1])) 0 []:=
 Fz [] [Cf h1 [0,1,2,3,4,5,6,7],Cf h2 [0,1,2,3,4,5,6,7],.k,.k,.t true,.t true]
  tI (Co h1 [0,1,2,3,4,5,6,7] 13 (Co h2 [0,1,2,3,4,5,6,7] 13 (Ai he (Ai he tI))))
theorem qAu {c:Ck} {tn td:Int} {e2:Int} (h1:qg5 c) (h2:qoM c e2 td tn) (he:(e2 !=0)=true) :
 Fn 19 8 [qam c,.pv (qaa tn td)] (qas c) (.pv (.tuple #[qa3,.agg #[iV 0,iV 0,iV 0,iV 0,iV 0],qaf 0 0,iV e2])) 0 []:=
 Fz [] [Cf h1 [0,1,2,3,4,5,6,7],Cf h2 [0,1,2,3,4,5,6,7],.k,.k,.k,.k,.k,.t true,.t true]
  tI (Co h1 [0,1,2,3,4,5,6,7] 13 (Co h2 [0,1,2,3,4,5,6,7] 13 (Ai he (Ai he tI))))
abbrev qqS (c:Ck) (td:Int) (tn:Int):Prop:=Fn 62 8 [qam c,.pv (qaa tn td)] (qas c) (.pv (iV (0))) 0 []
theorem qyz {c:Ck} {tn td:Int} {y:Ev} (h1:qg5 c) (h2:qqS c td tn) (hd:Fn 63 8 [qam c,.pv (qaa tn td)] (qas c) (.pv (.tuple #[qab y,.bool false])) 0 []) :
 Fn 19 8 [qam c,.pv (qaa tn td)] (qas c) (.pv (.tuple #[qa3,.agg #[iV 0,iV 0,iV 0,iV 0,iV 0],qaf 0 0,iV 6])) 0 []:=
 Fz [] [Cf h1 [0,1,2,3,4,5,6,7],Cf h2 [0,1,2,3,4,5,6,7],.k,.k,.k,.k,.k,.k,.k,.k,.k,Cf hd [0,1,2,3,4,5,6,7],.k]
  tI (Co h1 [0,1,2,3,4,5,6,7] 13 (Co h2 [0,1,2,3,4,5,6,7] 13 (Co hd [0,1,2,3,4,5,6,7] 14 tI)))
theorem qyo {c o:Ck} {a b tn td:Int} {y:Ev} (h1:qg5 c) (h2:qqS c td tn) (hd:Fn 63 8 [qam c,.pv (qaa tn td)] (qas c) (.pv (.tuple #[qab y,.bool true])) 0 []) (hr:Fn 60 8 [qam c,.pv (iV (y.k))] (qas c) (.tu [qg6 o,.one (.pv (qaf a b)),.one (.pv (iV 0))]) 8 (qc9 o)) :
 Fn 19 8 [qam c,.pv (qaa tn td)] (qas c) (.tu [qg6 ({ o with tn:=y.n,td:=y.d }:Ck),.one (.pv (qab y)),.one (.pv (qaf a b)),.one (.pv (iV 0))]) 8 (qc9 ({ o with tn:=y.n,td:=y.d }:Ck)):=
 Fz [(8,15),(9,16),(10,17),(11,18),(12,19),(13,20),(14,21),(15,22)] [Cf h1 [0,1,2,3,4,5,6,7],Cf h2 [0,1,2,3,4,5,6,7],.k,.k,.k,.k,.k,.k,.k,.k,.k,Cf hd [0,1,2,3,4,5,6,7],.k,Cf hr [0,1,2,3,4,5,6,7]]
  (qaG (qaK [(8,15),(9,16),(10,17),(11,18),(12,19),(13,20),(14,21),(15,22)]) (qc9 ({ o with tn:=y.n,td:=y.d }:Ck))) (Co h1 [0,1,2,3,4,5,6,7] 13 (Co h2 [0,1,2,3,4,5,6,7] 13 (Co hd [0,1,2,3,4,5,6,7] 14 (Co hr [0,1,2,3,4,5,6,7] 15 tI))))
theorem qAr {c:Ck} {tn td:Int} {e1 e2:Int} (h1:qpF c e1) (h2:qoM c e2 td tn) (he:(e1 !=0)=true) :
 Fn 20 8 [qam c,.pv (qaa tn td)] (qas c) (.pv (.tuple #[qa3,iV e1])) 0 []:=
 Fz [] [Cf h1 [0,1,2,3,4,5,6,7],Cf h2 [0,1,2,3,4,5,6,7],.k,.k,.t true,.t true]
  tI (Co h1 [0,1,2,3,4,5,6,7] 11 (Co h2 [0,1,2,3,4,5,6,7] 11 (Ai he (Ai he tI))))
theorem qzs {c:Ck} {tn td:Int} {e2:Int} (h1:qg5 c) (h2:qoM c e2 td tn) (he:(e2 !=0)=true) :
 Fn 20 8 [qam c,.pv (qaa tn td)] (qas c) (.pv (.tuple #[qa3,iV e2])) 0 []:=
 Fz [] [Cf h1 [0,1,2,3,4,5,6,7],Cf h2 [0,1,2,3,4,5,6,7],.k,.k,.k,.k,.k,.t true,.t true]
  tI (Co h1 [0,1,2,3,4,5,6,7] 11 (Co h2 [0,1,2,3,4,5,6,7] 11 (Ai he (Ai he tI))))
theorem qwm {c:Ck} {tn td:Int} {y:Ev} (h1:qg5 c) (h2:qqS c td tn) (hd:Fn 63 8 [qam c,.pv (qaa tn td)] (qas c) (.pv (.tuple #[qab y,.bool true])) 0 []) :
 Fn 20 8 [qam c,.pv (qaa tn td)] (qas c) (.pv (.tuple #[qa3,iV 36])) 0 []:=
 Fz [] [Cf h1 [0,1,2,3,4,5,6,7],Cf h2 [0,1,2,3,4,5,6,7],.k,.k,.k,.k,.k,.k,.k,.k,.k,Cf hd [0,1,2,3,4,5,6,7]]
  tI (Co h1 [0,1,2,3,4,5,6,7] 11 (Co h2 [0,1,2,3,4,5,6,7] 11 (Co hd [0,1,2,3,4,5,6,7] 12 tI)))
theorem qzd {c:Ck} {tn td:Int} {y:Ev} (h1:qg5 c) (h2:qqS c td tn) (hd:Fn 63 8 [qam c,.pv (qaa tn td)] (qas c) (.pv (.tuple #[qab y,.bool false])) 0 []) (hcl:qkL c) :
 Fn 20 8 [qam c,.pv (qaa tn td)] (qas c) (.tu [qg6 ({ c with tn:=tn,td:=td }:Ck),.one (.pv (iV 0))]) 8 (qc9 ({ c with tn:=tn,td:=td }:Ck)):=
 Fz [(8,13),(9,14),(10,15),(11,16),(12,17),(13,18),(14,19),(15,20)] [Cf h1 [0,1,2,3,4,5,6,7],Cf h2 [0,1,2,3,4,5,6,7],.k,.k,.k,.k,.k,.k,.k,.k,.k,Cf hd [0,1,2,3,4,5,6,7],Cf hcl [0,1,2,3,4,5,6,7]]
  (qaG (qaK [(8,13),(9,14),(10,15),(11,16),(12,17),(13,18),(14,19),(15,20)]) (qc9 ({ c with tn:=tn,td:=td }:Ck))) (Co h1 [0,1,2,3,4,5,6,7] 11 (Co h2 [0,1,2,3,4,5,6,7] 11 (Co hd [0,1,2,3,4,5,6,7] 12 (Co hcl [0,1,2,3,4,5,6,7] 13 tI))))
abbrev qxM (c:Ck) (s:List Pt):HpL:=[(0,0,qaj c.s),(1,0,qal c.l),(2,0,zrI c.u),(3,0,zrB c.b),(4,0,zrI c.fr),(5,0,qao c.ev),(6,0,zrI c.wh),(7,0,qaJ c.d),(8,0,qaj s)]
abbrev qtD (c:Ck) (e3:Int) (s:List Pt):Prop:=Fn 64 2 [qaE 0 s,qaP 1 c.x c.l] [(0,0,qaj s),(1,0,qal c.l)] (.pv (iV (e3))) 0 []
theorem qys {c:Ck} {s:List Pt} {e1 e2 e3:Int} (h1:qpF c e1) (h2:Fn 48 1 [qaE 0 s] [(0,0,qaj s)] (.pv (iV (e2))) 0 []) (h3:qtD c e3 s) (he:(e1 !=0)=true) :
 Fn 21 9 [qam c,qaE 8 s] (qxM c s) (.pv (.tuple #[qa3,iV e1])) 0 []:=
 Fz [] [Cf h1 [0,1,2,3,4,5,6,7],Cf h2 [8],Cf h3 [8,1],.k,.k,.t true,.t true]
  tI (Co h1 [0,1,2,3,4,5,6,7] 12 (Co h2 [8] 12 (Co h3 [8,1] 12 (Ai he (Ai he tI)))))
theorem qzB {c:Ck} {s:List Pt} {e2 e3:Int} (h1:qg5 c) (h2:Fn 48 1 [qaE 0 s] [(0,0,qaj s)] (.pv (iV (e2))) 0 []) (h3:qtD c e3 s) (he:(e2 !=0)=true) :
 Fn 21 9 [qam c,qaE 8 s] (qxM c s) (.pv (.tuple #[qa3,iV e2])) 0 []:=
 Fz [] [Cf h1 [0,1,2,3,4,5,6,7],Cf h2 [8],Cf h3 [8,1],.k,.k,.k,.k,.k,.t true,.t true]
  tI (Co h1 [0,1,2,3,4,5,6,7] 12 (Co h2 [8] 12 (Co h3 [8,1] 12 (Ai he (Ai he tI)))))
theorem qxS {c:Ck} {s:List Pt} {e3:Int} (h1:qg5 c) (h2:qnJ s) (h3:qtD c e3 s) (he:(e3 !=0)=true) :
 Fn 21 9 [qam c,qaE 8 s] (qxM c s) (.pv (.tuple #[qa3,iV e3])) 0 []:=
 Fz [] [Cf h1 [0,1,2,3,4,5,6,7],Cf h2 [8],Cf h3 [8,1],.k,.k,.k,.k,.k,.k,.k,.k,.t true,.t true]
  tI (Co h1 [0,1,2,3,4,5,6,7] 12 (Co h2 [8] 12 (Co h3 [8,1] 12 (Ai he (Ai he tI)))))
abbrev qwH (c:Ck) (o:Ck) (s:List Pt):HpL:=[(1,0,qal c.l),(11,0,.pv (iV 0)),(11,1,.pv (iV 0)),(11,2,.pv (.slice none 0 0)),(11,3,.pv (iV 0)),(11,4,.pv (.slice none 0 0)),(11,5,.pv (.slice none 0 0)),(11,6,.pv (.slice none 0 0)),(11,7,.pv (.slice none 0 0)),(11,8,.pv (.slice none 0 0)),(11,9,.pv (.slice none 0 0)),(11,10,.pv (.slice none 0 0)),(21,0,.pv (iV c.tn)),(21,1,.pv (iV c.td)),(21,2,.ls 22 s.length),(21,3,.pv (iV c.x)),(21,4,.ls 14 c.l.length),(21,5,.ls 15 o.u.length),(21,6,.ls 16 o.b.length),(21,7,.ls 17 o.fr.length),(21,8,.ls 18 o.ev.length),(21,9,.ls 19 o.wh.length),(21,10,.ls 20 o.d.length),(22,0,qaj s),(14,0,qal c.l),(15,0,zrI o.u),(16,0,zrB o.b),(17,0,zrI o.fr),(18,0,qao o.ev),(19,0,zrI o.wh),(20,0,qaJ o.d)]
abbrev qxX (c:Ck) (k:Nat):TmL:=[(4,.pp 11 0),(7,.pp 21 0),(32,.ls 1 c.l.length),(33,.pv (iV (c.l.length:Int))),(34,.pv (iV (k:Int)))]
abbrev qBp (c:Ck) (o:Ck) (s:List Pt):HpL:=[(0,0,qaj s),(1,0,qal c.l),(2,0,zrI o.u),(3,0,zrB o.b),(4,0,zrI o.fr),(5,0,qao o.ev),(6,0,zrI o.wh),(7,0,qaJ o.d)]
abbrev qtg (c:Ck) (k:Nat):TmL:=[(4,.pp 11 0),(7,.pp 21 0),(32,.ls 1 c.l.length),(33,.pv (iV (c.l.length:Int))),(34,.pv (iV ((k+1:Nat):Int)))]
theorem qvE {c o:Ck} {s:List Pt} {p:Pt} {k:Nat} {r9:Ck} (hk:c.l[k]?=some p) (hin:0≤(k:Int)∧(k:Int)<(c.l.length:Int)) (hlt:decide ((k:Int)<(c.l.length:Int))=true) (ht:Fn 59 8 [qam ({ o with tn:=c.tn,td:=c.td,s:=s,x:=c.x,l:=c.l }:Ck),.pv (ptV p)] (qBp c o s) (.tu [qwr ({ o with tn:=c.tn,td:=c.td,s:=s,x:=c.x,l:=c.l }:Ck) r9,.one (.pv (iV 0))]) 5 [(8,0,zrI r9.u),(9,0,zrB r9.b),(10,0,zrI r9.fr),(11,0,qao r9.ev),(12,0,zrI r9.wh)]) (hs:iV (IntKind.i64.wrap ((k:Int)+1))=iV (((k+1:Nat):Int))) {e:Exit} {tm2:TmL} {hp2:HpL}
 (r:Rl 9 9 21 0 50 23 (qtg c k) ([(1,0,qal c.l),(11,0,.pv (iV 0)),(11,1,.pv (iV 0)),(11,2,.pv (.slice none 0 0)),(11,3,.pv (iV 0)),(11,4,.pv (.slice none 0 0)),(11,5,.pv (.slice none 0 0)),(11,6,.pv (.slice none 0 0)),(11,7,.pv (.slice none 0 0)),(11,8,.pv (.slice none 0 0)),(11,9,.pv (.slice none 0 0)),(11,10,.pv (.slice none 0 0)),(21,0,.pv (iV c.tn)),(21,1,.pv (iV c.td)),(21,2,.ls 22 s.length),(21,3,.pv (iV c.x)),(21,4,.ls 14 c.l.length),(21,5,.ls 15 r9.u.length),(21,6,.ls 16 r9.b.length),(21,7,.ls 17 r9.fr.length),(21,8,.ls 18 r9.ev.length),(21,9,.ls 19 r9.wh.length),(21,10,.ls 20 o.d.length),(22,0,qaj s),(14,0,qal c.l),(15,0,zrI r9.u),(16,0,zrB r9.b),(17,0,zrI r9.fr),(18,0,qao r9.ev),(19,0,zrI r9.wh),(20,0,qaJ o.d)]) e tm2 hp2):Rl 9 9 21 0 50 23 (qxX c k) (qwH c o s) e tm2 hp2:=
 RunsL.next [(15,24),(16,25),(17,26),(18,27),(19,28)] 300 [.t true,.r (ptV p),Cf ht [22,14,15,16,17,18,19,20],.k,Re hs]
  (Ro (Ai hlt (Ai hin (Ai (qaN hk) (Co ht [22,14,15,16,17,18,19,20] 24 (Ai hs tI)))))) r
theorem qmq {c o:Ck} {s:List Pt} {p:Pt} {k:Nat} {l2:List Pt} {r9:Ck} (hk:c.l[k]?=some p) (hin:0≤(k:Int)∧(k:Int)<(c.l.length:Int)) (hlt:decide ((k:Int)<(c.l.length:Int))=true) (ht:Fn 59 8 [qam ({ o with tn:=c.tn,td:=c.td,s:=s,x:=c.x,l:=c.l }:Ck),.pv (ptV p)] (qBp c o s) (.tu [qhs ({ o with tn:=c.tn,td:=c.td,s:=s,x:=c.x,l:=c.l }:Ck) r9 l2,.one (.pv (iV 0))]) 6 [(8,0,zrI r9.u),(9,0,zrB r9.b),(10,0,zrI r9.fr),(11,0,qao r9.ev),(12,0,zrI r9.wh),(13,0,qaJ l2)]) (hs:iV (IntKind.i64.wrap ((k:Int)+1))=iV (((k+1:Nat):Int))) {e:Exit} {tm2:TmL} {hp2:HpL}
 (r:Rl 9 9 21 0 50 23 (qtg c k) ([(1,0,qal c.l),(11,0,.pv (iV 0)),(11,1,.pv (iV 0)),(11,2,.pv (.slice none 0 0)),(11,3,.pv (iV 0)),(11,4,.pv (.slice none 0 0)),(11,5,.pv (.slice none 0 0)),(11,6,.pv (.slice none 0 0)),(11,7,.pv (.slice none 0 0)),(11,8,.pv (.slice none 0 0)),(11,9,.pv (.slice none 0 0)),(11,10,.pv (.slice none 0 0)),(21,0,.pv (iV c.tn)),(21,1,.pv (iV c.td)),(21,2,.ls 22 s.length),(21,3,.pv (iV c.x)),(21,4,.ls 14 c.l.length),(21,5,.ls 15 r9.u.length),(21,6,.ls 16 r9.b.length),(21,7,.ls 17 r9.fr.length),(21,8,.ls 18 r9.ev.length),(21,9,.ls 19 r9.wh.length),(21,10,.ls 20 l2.length),(22,0,qaj s),(14,0,qal c.l),(15,0,zrI r9.u),(16,0,zrB r9.b),(17,0,zrI r9.fr),(18,0,qao r9.ev),(19,0,zrI r9.wh),(20,0,qaJ l2)]) e tm2 hp2):Rl 9 9 21 0 50 23 (qxX c k) (qwH c o s) e tm2 hp2:=
 RunsL.next [(15,24),(16,25),(17,26),(18,27),(19,28),(20,29)] 300 [.t true,.r (ptV p),Cf ht [22,14,15,16,17,18,19,20],.k,Re hs]
  (Ro (Ai hlt (Ai hin (Ai (qaN hk) (Co ht [22,14,15,16,17,18,19,20] 24 (Ai hs tI)))))) r
theorem qp3 {c o:Ck} {s:List Pt} {p:Pt} {k:Nat} (hk:c.l[k]?=some p) (hin:0≤(k:Int)∧(k:Int)<(c.l.length:Int)) (hlt:decide ((k:Int)<(c.l.length:Int))=true) (ht:Fn 59 8 [qam ({ o with tn:=c.tn,td:=c.td,s:=s,x:=c.x,l:=c.l }:Ck),.pv (ptV p)] (qBp c o s) (.tu [qru ({ o with tn:=c.tn,td:=c.td,s:=s,x:=c.x,l:=c.l }:Ck),.one (.pv (iV 0))]) 0 []) (hs:iV (IntKind.i64.wrap ((k:Int)+1))=iV (((k+1:Nat):Int))) {e:Exit} {tm2:TmL} {hp2:HpL}
 (r:Rl 9 9 21 0 50 23 (qtg c k) (qwH c o s) e tm2 hp2):Rl 9 9 21 0 50 23 (qxX c k) (qwH c o s) e tm2 hp2:=
 RunsL.next [] 300 [.t true,.r (ptV p),Cf ht [22,14,15,16,17,18,19,20],.k,Re hs]
  (Ro (Ai hlt (Ai hin (Ai (qaN hk) (Co ht [22,14,15,16,17,18,19,20] 24 (Ai hs tI)))))) r
abbrev qEJ:HpL:=[(11,0,.pv (iV 0)),(11,1,.pv (iV 0)),(11,2,.pv (.slice none 0 0)),(11,3,.pv (iV 0)),(11,4,.pv (.slice none 0 0)),(11,5,.pv (.slice none 0 0)),(11,6,.pv (.slice none 0 0)),(11,7,.pv (.slice none 0 0)),(11,8,.pv (.slice none 0 0)),(11,9,.pv (.slice none 0 0)),(11,10,.pv (.slice none 0 0))]
theorem qqI {c o:Ck} {s:List Pt} {p:Pt} {k:Nat} (hk:c.l[k]?=some p) (hin:0≤(k:Int)∧(k:Int)<(c.l.length:Int)) (hlt:decide ((k:Int)<(c.l.length:Int))=true) (ht:Fn 59 8 [qam ({ o with tn:=c.tn,td:=c.td,s:=s,x:=c.x,l:=c.l }:Ck),.pv (ptV p)] (qBp c o s) (.pv (.tuple #[qa3,iV 18])) 0 []):Rl 9 9 21 0 50 23 (qxX c k) (qwH c o s) (.ret) ([(4,.pp 11 0),(5,.pv (iV 18))]) (qEJ):=
 RunsL.stop [] 300 [.t true,.r (ptV p),Cf ht [22,14,15,16,17,18,19,20],.k] (fun h=>by cases h)
  (Ro (Ai hlt (Ai hin (Ai (qaN hk) (Co ht [22,14,15,16,17,18,19,20] 24 tI)))))
abbrev qEv (c:Ck) (o:Ck) (s:List Pt):HpL:=[(11,0,.pv (iV 0)),(11,1,.pv (iV 0)),(11,2,.pv (.slice none 0 0)),(11,3,.pv (iV 0)),(11,4,.pv (.slice none 0 0)),(11,5,.pv (.slice none 0 0)),(11,6,.pv (.slice none 0 0)),(11,7,.pv (.slice none 0 0)),(11,8,.pv (.slice none 0 0)),(11,9,.pv (.slice none 0 0)),(11,10,.pv (.slice none 0 0)),(21,0,.pv (iV c.tn)),(21,1,.pv (iV c.td)),(21,2,.ls 22 s.length),(21,3,.pv (iV c.x)),(21,4,.ls 14 c.l.length),(21,5,.ls 15 o.u.length),(21,6,.ls 16 o.b.length),(21,7,.ls 17 o.fr.length),(21,8,.ls 18 o.ev.length),(21,9,.ls 19 o.wh.length),(21,10,.ls 20 o.d.length),(22,0,qaj s),(14,0,qal c.l),(15,0,zrI o.u),(16,0,zrB o.b),(17,0,zrI o.fr),(18,0,qao o.ev),(19,0,zrI o.wh),(20,0,qaJ o.d)]
theorem qvn {c o:Ck} {s:List Pt} {k:Nat} (hge:decide ((k:Int)<(c.l.length:Int))=false):Rl 9 9 21 0 50 23 (qxX c k) (qwH c o s) (.exit 0) ([(4,.pp 11 0),(7,.pp 21 0)]) (qEv c o s):=
 RunsL.stop [] 300 [.t false] (fun h=>by cases h)
  (Ro (Ai hge tI))
abbrev qEM (c:Ck) (s:List Pt):HpL:=[(1,0,qal c.l),(11,0,.pv (iV 0)),(11,1,.pv (iV 0)),(11,2,.pv (.slice none 0 0)),(11,3,.pv (iV 0)),(11,4,.pv (.slice none 0 0)),(11,5,.pv (.slice none 0 0)),(11,6,.pv (.slice none 0 0)),(11,7,.pv (.slice none 0 0)),(11,8,.pv (.slice none 0 0)),(11,9,.pv (.slice none 0 0)),(11,10,.pv (.slice none 0 0)),(21,0,.pv (iV c.tn)),(21,1,.pv (iV c.td)),(21,2,.ls 22 s.length),(21,3,.pv (iV c.x)),(21,4,.ls 14 c.l.length),(21,5,.ls 15 c.u.length),(21,6,.ls 16 c.b.length),(21,7,.ls 17 c.fr.length),(21,8,.ls 18 c.ev.length),(21,9,.ls 19 c.wh.length),(21,10,.ls 20 c.d.length),(22,0,qaj s),(14,0,qal c.l),(15,0,zrI c.u),(16,0,zrB c.b),(17,0,zrI c.fr),(18,0,qao c.ev),(19,0,zrI c.wh),(20,0,qaJ c.d)]
abbrev qzV (c:Ck):TmL:=[(4,.pp 11 0),(7,.pp 21 0),(32,.ls 1 c.l.length),(33,.pv (iV (c.l.length:Int))),(34,.pv (iV ((0:Nat):Int)))]
theorem qrj {c:Ck} {s:List Pt} (h1:qg5 c) (h2:qnJ s) (h3:Fn 64 2 [qaE 0 s,qaP 1 c.x c.l] [(0,0,qaj s),(1,0,qal c.l)] (.pv (iV (0))) 0 []) (hcl:qkL c) (hcf:quz s) (r0:Rl 9 9 21 0 50 23 (qzV c) (qEM c s) (.ret) ([(4,.pp 11 0),(5,.pv (iV 18))]) (qEJ)) :
 Fn 21 9 [qam c,qaE 8 s] (qxM c s) (.pv (.tuple #[qa3,iV 18])) 0 []:=
 Fz [] [Cf h1 [0,1,2,3,4,5,6,7],Cf h2 [8],Cf h3 [8,1],.k,.k,.k,.k,.k,.k,.k,.k,.k,.k,.k,.k,Cf hcl [0,1,2,3,4,5,6,7],Cf hcf [8],Lf r0]
  tI (Co h1 [0,1,2,3,4,5,6,7] 12 (Co h2 [8] 12 (Co h3 [8,1] 12 (Co hcl [0,1,2,3,4,5,6,7] 13 (Co hcf [8] 22 (Lo r0 [] tI))))))
theorem qx1 {c o:Ck} {s:List Pt} (h1:qg5 c) (h2:qnJ s) (h3:Fn 64 2 [qaE 0 s,qaP 1 c.x c.l] [(0,0,qaj s),(1,0,qal c.l)] (.pv (iV (0))) 0 []) (hcl:qkL c) (hcf:quz s) (r0:Rl 9 9 21 0 50 23 (qzV c) (qEM c s) (.exit 0) ([(4,.pp 11 0),(7,.pp 21 0)]) (qEv c o s)) :
 Fn 21 9 [qam c,qaE 8 s] (qxM c s) (.tu [.ag [.pv (iV c.tn),.pv (iV c.td),.ls 9 s.length,.pv (iV c.x),.ls 10 c.l.length,.ls 11 o.u.length,.ls 12 o.b.length,.ls 13 o.fr.length,.ls 14 o.ev.length,.ls 15 o.wh.length,.ls 16 o.d.length],.one (.pv (iV 0))]) 8 [(9,0,qaj s),(10,0,qal c.l),(11,0,zrI o.u),(12,0,zrB o.b),(13,0,zrI o.fr),(14,0,qao o.ev),(15,0,zrI o.wh),(16,0,qaJ o.d)]:=
 Fz [(9,22),(10,14),(11,15),(12,16),(13,17),(14,18),(15,19),(16,20)] [Cf h1 [0,1,2,3,4,5,6,7],Cf h2 [8],Cf h3 [8,1],.k,.k,.k,.k,.k,.k,.k,.k,.k,.k,.k,.k,Cf hcl [0,1,2,3,4,5,6,7],Cf hcf [8],Lf r0]
  (qaG (qaK [(9,22),(10,14),(11,15),(12,16),(13,17),(14,18),(15,19),(16,20)]) [(9,0,qaj s),(10,0,qal c.l),(11,0,zrI o.u),(12,0,zrB o.b),(13,0,zrI o.fr),(14,0,qao o.ev),(15,0,zrI o.wh),(16,0,qaJ o.d)]) (Co h1 [0,1,2,3,4,5,6,7] 12 (Co h2 [8] 12 (Co h3 [8,1] 12 (Co hcl [0,1,2,3,4,5,6,7] 13 (Co hcf [8] 22 (Lo r0 [] tI))))))
end Go.Proofs.YtkjaanhddkkodaaGreat
