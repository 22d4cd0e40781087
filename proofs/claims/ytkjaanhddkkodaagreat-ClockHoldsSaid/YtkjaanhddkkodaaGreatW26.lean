/-
  Joined: Kc, Kg, Kf. Conditions: none.
-/
import Derived.Test.YtkjaanhddkkodaaGreatW25
import Derived.Test.YtkjaanhddkkodaaGreatW18
import Derived.Test.YtkjaanhddkkodaaGreatW24
namespace Go.Proofs.YtkjaanhddkkodaaGreat
set_option maxRecDepth 100000
open Go.RowKit
theorem qr9 (a:Int):∃ b,Pure Tryz.prog 194 #[iV a] (.bool b)∧(b=true↔0≤a∧a≤65535):=by
 by_cases h0:0≤a
 ·by_cases h1:a≤65535
  ·exact⟨true,qEh (dt h0) (dt h1),⟨fun _=>⟨h0,h1⟩,fun _=>rfl⟩⟩
  ·exact⟨false,qCv (dt h0) (df h1),⟨fun h=>(by cases h),fun h=>(h1 h.2).elim⟩⟩
 ·exact⟨false,qDO (df h0),⟨fun h=>(by cases h),fun h=>(h0 h.1).elim⟩⟩
theorem qjD (a b:Int):Pure Tryz.prog 148 #[qag a b] (.bool (qb7 a b)):=by
 obtain⟨u,hu,hu2⟩:=qr9 a
 obtain⟨v,hv,hv2⟩:=qr9 b
 cases u
 ·rw[show qb7 a b=false by
   cases h:qb7 a b
   ·rfl
   ·have:=qbf.1 h;have:=hu2.2 ⟨this.1,this.2.1⟩;cases this]
  exact qGi hu
 ·cases v
  ·rw[show qb7 a b=false by
    cases h:qb7 a b
    ·rfl
    ·have:=qbf.1 h;have:=hv2.2 ⟨this.2.2.1,this.2.2.2.1⟩;cases this]
   exact qGe hu hv
  ·have h1:=hu2.1 rfl
   have h2:=hv2.1 rfl
   by_cases hab:a=b
   ·rw[show qb7 a b=false by
     cases h:qb7 a b
     ·rfl
     ·exact ((qbf.1 h).2.2.2.2 hab).elim]
    exact qEJ hu hv (by simpa using hab)
   ·rw[qbf.2 ⟨h1.1,h1.2,h2.1,h2.2,hab⟩]
    exact qE2 hu hv (by simpa using hab)
def lst (m:List Pt):Int:=match m.getLast? with
 | none=>-1
 | some p=>p.id
theorem qir:lst [] = -1:=rfl
theorem qeM (m:List Pt) (p:Pt):lst (m++[p])=p.id:=by simp[lst]
abbrev nfT (l:List Pt) (k:Nat) (y:Int):List (Nat×SV):=[(1,.pp 1 0),(3,.pv (iV (y))),(7,.ls 0 l.length),(8,.pv (iV (l.length:Int))),(9,.pv (iV (k:Int)))]
abbrev nfH (x:Int) (l:List Pt):List (Nat×Nat×SV):=[(1,0,.pv (iV x)),(1,1,.ls 0 l.length),(0,0,qak l)]
def Inc (l:List Pt):Prop:=∀ (k:Nat) (p:Pt),l[k]?=some p→lst (l.take k)<p.id
theorem Inc.up {l:List Pt} (h:Inc l):Up l:=fun k p q hp hq=>by
 have:=h (k+1) q hq
 rw[qbq hp,qeM] at this
 exact this
theorem Inc.lo {l:List Pt} (h:Inc l):∀ p∈l,0≤p.id:=by
 have key:∀ (k:Nat) (p:Pt),l[k]?=some p→0≤p.id:=by
  intro k
  induction k with
  | zero=>intro p hp;have:=h 0 p hp;rw[List.take_zero,qir] at this;omega
  | succ k ih=>
   intro p hp
   obtain⟨q,hq⟩:=qah (l:=l) (k:=k) (by have:=qai hp;omega)
   have:=ih q hq
   have:=h.up k q p hq hp
   omega
 intro p hp
 obtain⟨k,hk,rfl⟩:=List.getElem_of_mem hp
 exact key k _ (List.getElem?_eq_getElem hk)
theorem Inc.of {l:List Pt} (h:Up l) (h0:∀ p∈l,0≤p.id):Inc l:=fun k p hp=>by
 cases k with
 | zero=>rw[List.take_zero,qir];have:=h0 p (List.mem_of_getElem? hp);omega
 | succ k=>
  obtain⟨q,hq⟩:=qah (l:=l) (k:=k) (by have:=qai hp;omega)
  rw[qbq hq,qeM]
  exact h k q p hq hp
theorem Inc.lt {l:List Pt} (h:Inc l) {x:Int}:lst l<x↔(∀ p∈l,p.id<x)∧0≤x:=by
 have hup:=h.up
 have hlo:=h.lo
 rcases List.eq_nil_or_concat l with rfl | ⟨m,q,rfl⟩
 ·rw[qir];exact⟨fun h=>⟨fun p hp=>by simp at hp,by omega⟩,fun h=>by omega⟩
 ·rw[List.concat_eq_append,qeM]
  rw[List.concat_eq_append] at hup hlo
  refine⟨fun hx=>⟨fun p hp=>?_,by have:=hlo q (by simp);omega⟩,fun hx=>hx.1 q (by simp)⟩
  obtain⟨k,hk,rfl⟩:=List.getElem_of_mem hp
  rcases Nat.lt_or_ge k m.length with h1 | h1
  ·have:=hup.mono h1 (List.getElem?_eq_getElem hk) (show (m++[q])[m.length]?=some q by simp)
   omega
  ·have hkm:k=m.length:=by simp at hk;omega
   subst hkm
   simpa using hx
theorem qzZ (x:Int) {l:List Pt} (hn:l.length≤1000000):∃ b,Fn 137 1 [qaH 0 x l] [(0,0,qak l)] (.pv (.bool b)) 0 []∧(b=true↔Inc l∧(∀ p∈l,p.id<x)∧0≤x∧x≤1000000):=by
 have step:∀ k,(∀ j,j<k→∀ p,l[j]?=some p→lst (l.take j)<p.id)→∀ {e:Exit} {tm2:TmL} {hp2:HpL},k≤l.length→
  Rl 1 1 137 0 29 2 (nfT l k (lst (l.take k))) (nfH x l) e tm2 hp2→Rl 1 1 137 0 29 2 (nfT l 0 (-1)) (nfH x l) e tm2 hp2:=by
  intro k hk e tm2 hp2 hkl r
  refine RunsL.rounds (fun j=>nfT l j (lst (l.take j))) (fun _=>nfH x l) (N:=k) k 0 (Nat.zero_add _) (fun j _ hj r=>?_) r
  obtain⟨p,hp⟩:=qah (l:=l) (k:=j) (by omega)
  refine qvb hp (qan (qai hp)) (dt (by have:=qai hp;omega)) (df (by have:=hk j hj p hp;omega)) (qau (by omega)) ?_
  have e1:lst (l.take (j+1))=p.id:=by rw[qbq hp,qeM]
  rw[← e1]
  exact r
 rcases qaT (fun j=>∀ p,l[j]?=some p→lst (l.take j)<p.id) l.length with h | ⟨j,hj,hb,hf⟩
 ·have hi:Inc l:=fun k p hp=>h k (qai hp) p hp
  have hend:=step l.length (fun j hj=>h j hj) (Nat.le_refl _) (e:=.exit 0) (qzB (df (by omega)))
  rw[List.take_length] at hend
  by_cases h1:lst l<x
  ·by_cases h2:x≤1000000
   ·exact⟨true,qDv hend (dt h1) (dt h2),⟨fun _=>⟨hi,(hi.lt.1 h1).1,(hi.lt.1 h1).2,h2⟩,fun _=>rfl⟩⟩
   ·exact⟨false,qEm hend (dt h1) (df h2),⟨fun h=>(by cases h),fun h=>(h2 h.2.2.2).elim⟩⟩
  ·exact⟨false,qDh hend (df h1),⟨fun h=>(by cases h),fun h=>(h1 (hi.lt.2 ⟨h.2.1,h.2.2.1⟩)).elim⟩⟩
 ·simp only[Classical.not_forall,not_imp] at hb
  obtain⟨p,hp,hlt⟩:=hb
  exact⟨false,qCV (step j hf (by omega) (qxA hp (qan (qai hp)) (dt (by omega)) (dt (by omega)))),⟨fun h=>(by cases h),fun h=>(hlt (h.1 j p hp)).elim⟩⟩
abbrev cfT (l:List Pt) (k:Nat):List (Nat×SV):=[(3,.mp 1),(9,.ls 0 l.length),(10,.pv (iV (l.length:Int))),(11,.pv (iV (k:Int)))]
abbrev cfH (l m:List Pt):List (Nat×Nat×SV):=[(1,0,.mrow (qcZ (m))),(0,0,qak l)]
theorem qgB {l:List Pt} {k:Nat} {q:Pt} (h:q∈l.take k):∃ i,i<k∧l[i]?=some q:=by
 obtain⟨i,hi,rfl⟩:=List.getElem_of_mem h
 have hi':i<k∧i<l.length:=by simp at hi;omega
 exact⟨i,hi'.1,by rw[List.getElem_take];exact List.getElem?_eq_getElem hi'.2⟩
theorem qo6 {l:List Pt} {i k:Nat} {q:Pt} (h:l[i]?=some q) (hik:i<k):q∈l.take k:=List.mem_of_getElem? (i:=i) (by rw[List.getElem?_take,if_pos hik];exact h)
theorem qzR {l:List Pt} (hn:l.length≤1000000):∃ b,FnL Tryz.prog 138 1 [.ls 0 l.length] [(0,0,qak l)] (.pv (.bool b)) 0 []∧(b=true↔(∀ p∈l,qb7 p.a p.b=true)∧Dis l):=by
 have step:∀ k,(∀ j,j<k→∀ p,l[j]?=some p→qb7 p.a p.b=true∧∀ q∈l.take j,¬ (q.a=p.a∧q.b=p.b))→∀ {e:Exit} {tm2:TmL} {hp2:HpL},k≤l.length→
  RunsL Tryz.prog 1 1 (qft Tryz.prog 138 0) 29 2 (cfT l k) (cfH l (l.take k)) e tm2 hp2→RunsL Tryz.prog 1 1 (qft Tryz.prog 138 0) 29 2 (cfT l 0) (cfH l []) e tm2 hp2:=by
  intro k hk e tm2 hp2 hkl r
  refine RunsL.rounds (fun j=>cfT l j) (fun j=>cfH l (l.take j)) (N:=k) k 0 (Nat.zero_add _) (fun j _ hj r=>?_) r
  obtain⟨p,hp⟩:=qah (l:=l) (k:=j) (by omega)
  obtain⟨h1,h2⟩:=hk j hj p hp
  refine qwe hp (qan (qai hp)) (dt (by have:=qai hp;omega)) (h1▸qjD p.a p.b) (qwE h2) (qpu h2) (qau (by omega)) ?_
  rw[← qbq hp]
  exact r
 rcases qaT (fun j=>∀ p,l[j]?=some p→qb7 p.a p.b=true∧∀ q∈l.take j,¬ (q.a=p.a∧q.b=p.b)) l.length with h | ⟨j,hj,hb,hf⟩
 ·refine⟨true,qCJ (step l.length (fun j hj=>h j hj) (Nat.le_refl _) (qzb (df (by omega)))),⟨fun _=>⟨fun p hp=>?_,fun i k p q hik hp hq=>?_⟩,fun _=>rfl⟩⟩
  ·obtain⟨k,hk,rfl⟩:=List.getElem_of_mem hp
   exact (h k hk _ (List.getElem?_eq_getElem hk)).1
  ·exact (h k (qai hq) q hq).2 p (qo6 hp hik)
 ·simp only[Classical.not_forall,not_imp] at hb
  obtain⟨p,hp,hnp⟩:=hb
  by_cases hv:qb7 p.a p.b=true
  ·have:∃ q∈l.take j,q.a=p.a∧q.b=p.b:=Classical.byContradiction fun hno=>hnp ⟨hv,fun q hq e=>hno ⟨q,hq,e⟩⟩
   obtain⟨q,hq,he⟩:=this
   refine⟨false,qBb (step j hf (by omega) (qx2 hp (qan hj) (dt (by omega)) (hv▸qjD p.a p.b) (qpB hq he))),⟨fun h=>(by cases h),fun h=>?_⟩⟩
   obtain⟨i,hi,hq'⟩:=qgB hq
   exact (h.2 i j q p hi hq' hp he).elim
  ·have hv':qb7 p.a p.b=false:=by simpa using hv
   exact⟨false,qBb (step j hf (by omega) (qz5 hp (qan hj) (dt (by omega)) (hv'▸qjD p.a p.b))),⟨fun h=>(by cases h),fun h=>(hv (h.1 p (List.mem_of_getElem? hp))).elim⟩⟩
theorem qfh (x:Int) (l:List Pt):Fn 88 1 [qaH 0 x l] [(0,0,qak l)] (.pv (iV (qwX x l))) 0 []:=by
 by_cases h0:l.length≤200
 ·obtain⟨u,hu,hu2⟩:=qzZ x (l:=l) (by omega)
  obtain⟨v,hv,hv2⟩:=qzR (l:=l) (by omega)
  cases u
  ·rw[qbB fun h=>by have:=hu2.2 ⟨Inc.of h.up h.lo,h.hi,h.nx.1,h.nx.2⟩;cases this]
   exact qwx (df (by omega)) hu
  ·cases v
   ·rw[qbB fun h=>by have:=hv2.2 ⟨h.ok,h.dis⟩;cases this]
    exact qsH (df (by omega)) hu hv
   ·obtain⟨a1,a2,a3,a4⟩:=hu2.1 rfl
    obtain⟨b1,b2⟩:=hv2.1 rfl
    rw[qcT ⟨h0,b1,a1.up,a1.lo,a2,⟨a3,a4⟩,b2⟩]
    exact qBx (df (by omega)) hu hv
 ·rw[qbB fun h=>h0 h.len]
  exact qrv (dt (by omega))
end Go.Proofs.YtkjaanhddkkodaaGreat

namespace Go.Proofs.YtkjaanhddkkodaaGreat
set_option maxRecDepth 100000
open Go.RowKit
theorem qzw (l:List Pt) (p:Pt):SV.ls 5 (0+l.length+1)=(SV.ls 3 (l++[p]).length).ren (qaK [(3,5)]):=by rw[Nat.zero_add,List.length_append];rfl
theorem qpC (l:List Pt) (p:Pt):some (SV.row 94 3 (0+l.length+1) ([]++qbu l++[iV p.id,iV p.a,iV p.b]))=some (qak (l++[p])):=by rw[Nat.zero_add,List.nil_append];exact (congrArg some (by rw[qjw,qak,List.length_append];rfl))
theorem qjG (b:Nat) (l:List Pt) (k:Nat) (h:k+1≤l.length):SV.ls b (0+k+(l.length-(k+1)))=(SV.ls 2 (l.take k++l.drop (k+1)).length).ren (qaK [(2,b)]):=by rw[qgs l k h];rfl
theorem qjJ (l:List Pt) (k:Nat) (h:k+1≤l.length):some (SV.row 94 3 (0+k+(l.length-(k+1))) ([]++((qbu l).drop (0*3)).take (k*3)++((qbu l).drop ((0+(k+1))*3)).take ((l.length-(k+1))*3)))=some (qak (l.take k++l.drop (k+1))):=by
 have h1:=qiq l k
 have h2:=qiO l (k+1)
 rw[Nat.zero_add] at h1
 rw[h1,h2,qak,qgs l k h,qb4,List.nil_append]
theorem qAZ {a pa pb n:Int} (n1:(!(a==a))=false) (n2:(!(n==n))=false) (h1:decide (a<n)=true) :
 Pure Tryz.prog 206 #[qab a pa pb,iV n] (iV (-1)):=
 qad (args:=[qab a pa pb,iV n]) 300 [.k,.k,.t false,.k,.t false,.t true]
  (Ai rfl (Ai n1 (Ai n2 (Ai h1 tI)))) (by kernel_rfl)
theorem qBu {a pa pb n:Int} (n1:(!(a==a))=false) (n2:(!(n==n))=false) (h1:decide (a<n)=false) (h2:decide (a>n)=true) :
 Pure Tryz.prog 206 #[qab a pa pb,iV n] (iV (1)):=
 qad (args:=[qab a pa pb,iV n]) 300 [.k,.k,.t false,.k,.t false,.t false,.t true]
  (Ai rfl (Ai n1 (Ai n2 (Ai h1 (Ai h2 tI))))) (by kernel_rfl)
theorem qzD {a pa pb n:Int} (n1:(!(a==a))=false) (n2:(!(n==n))=false) (h1:decide (a<n)=false) (h2:decide (a>n)=false) :
 Pure Tryz.prog 206 #[qab a pa pb,iV n] (iV (0)):=
 qad (args:=[qab a pa pb,iV n]) 300 [.k,.k,.t false,.k,.t false,.t false,.t false]
  (Ai rfl (Ai n1 (Ai n2 (Ai h1 (Ai h2 tI))))) (by kernel_rfl)
abbrev qBN (i:Nat) (j:Nat) (l:List Pt) (n:Int):TmL:=[(0,.ls 0 l.length),(1,.pv (iV n)),(2,.pv (.func (.func 206) #[] #[])),(8,.pv (iV (l.length:Int))),(9,.pv (iV (i:Int))),(10,.pv (iV (j:Int)))]
abbrev qBM (c:Int) (n:Int) (p:Pt):Prop:=Pure Tryz.prog 206 #[qab p.id p.a p.b,iV n] (iV (c))
theorem qAj {l:List Pt} {i j h:Nat} {p:Pt} {c n:Int} (hk:l[h]?=some p) (hin:0≤(h:Int)∧(h:Int)<(l.length:Int)) (hlt:decide ((i:Int)<(j:Int))=true) (ha:iV (IntKind.i64.wrap ((i:Int)+(j:Int)))=iV ((i:Int)+(j:Int))) (hu:Value.int .u64 (IntKind.u64.wrap ((i:Int)+(j:Int)))=.int .u64 ((i:Int)+(j:Int))) (h1:¬ (1:Int)<0) (hs:Value.int .u64 (((i:Int)+(j:Int)).fdiv (2 ^ (min (1:Int).toNat IntKind.u64.bits)))=.int .u64 (h:Int)) (hb:iV (IntKind.i64.wrap (h:Int))=iV (h:Int)) (hc:qBM c n p) (hz:decide (c<0)=true) (hh:iV (IntKind.i64.wrap ((h:Int)+1))=iV (((h+1:Nat):Int))) {e:Exit} {tm2:TmL} {hp2:HpL}
 (r:Rl 1 1 205 0 49 1 ([(0,.ls 0 l.length),(1,.pv (iV n)),(2,.pv (.func (.func 206) #[] #[])),(8,.pv (iV (l.length:Int))),(9,.pv (iV ((h+1:Nat):Int))),(10,.pv (iV (j:Int)))]) ([(0,0,qak l)]) e tm2 hp2):Rl 1 1 205 0 49 1 (qBN i j l n) ([(0,0,qak l)]) e tm2 hp2:=
 RunsL.next [] 300 [.t true,Re ha,Re hu,.r (.int .u64 (h:Int)),Re hb,.r (ptV p),Rf hc,.t true,Re hh]
  (Ro (Ai hlt (Ai ha (Ai hu (Ai h1 (Ai hs (Ai hb (Ai hin (Ai (qaI hk) (Ai hc (Ai hz (Ai hh tI)))))))))))) r
theorem qz0 {l:List Pt} {i j h:Nat} {p:Pt} {c n:Int} (hk:l[h]?=some p) (hin:0≤(h:Int)∧(h:Int)<(l.length:Int)) (hlt:decide ((i:Int)<(j:Int))=true) (ha:iV (IntKind.i64.wrap ((i:Int)+(j:Int)))=iV ((i:Int)+(j:Int))) (hu:Value.int .u64 (IntKind.u64.wrap ((i:Int)+(j:Int)))=.int .u64 ((i:Int)+(j:Int))) (h1:¬ (1:Int)<0) (hs:Value.int .u64 (((i:Int)+(j:Int)).fdiv (2 ^ (min (1:Int).toNat IntKind.u64.bits)))=.int .u64 (h:Int)) (hb:iV (IntKind.i64.wrap (h:Int))=iV (h:Int)) (hc:qBM c n p) (hz:decide (c<0)=false) {e:Exit} {tm2:TmL} {hp2:HpL}
 (r:Rl 1 1 205 0 49 1 ([(0,.ls 0 l.length),(1,.pv (iV n)),(2,.pv (.func (.func 206) #[] #[])),(8,.pv (iV (l.length:Int))),(9,.pv (iV (i:Int))),(10,.pv (iV (h:Int)))]) ([(0,0,qak l)]) e tm2 hp2):Rl 1 1 205 0 49 1 (qBN i j l n) ([(0,0,qak l)]) e tm2 hp2:=
 RunsL.next [] 300 [.t true,Re ha,Re hu,.r (.int .u64 (h:Int)),Re hb,.r (ptV p),Rf hc,.t false]
  (Ro (Ai hlt (Ai ha (Ai hu (Ai h1 (Ai hs (Ai hb (Ai hin (Ai (qaI hk) (Ai hc (Ai hz tI))))))))))) r
theorem qm3 {l:List Pt} {i j:Nat} {n:Int} (hge:decide ((i:Int)<(j:Int))=false):Rl 1 1 205 0 49 1 (qBN i j l n) ([(0,0,qak l)]) (.exit 0) (qBN i j l n) ([(0,0,qak l)]):=
 RunsL.stop [] 300 [.t false] (fun h=>by cases h)
  (Ro (Ai hge tI))
abbrev qDf (k:Nat) (l:List Pt) (n:Int):Prop:=Rl 1 1 205 0 49 1 ([(0,.ls 0 l.length),(1,.pv (iV n)),(2,.pv (.func (.func 206) #[] #[])),(8,.pv (iV (l.length:Int))),(9,.pv (iV ((0:Nat):Int))),(10,.pv (iV (l.length:Int)))]) ([(0,0,qak l)]) (.exit 0) ([(0,.ls 0 l.length),(1,.pv (iV n)),(2,.pv (.func (.func 206) #[] #[])),(8,.pv (iV (l.length:Int))),(9,.pv (iV (k:Int))),(10,.pv (iV (k:Int)))]) ([(0,0,qak l)])
theorem qpR {l:List Pt} {k:Nat} {n:Int} (r0:qDf k l n) (hge:decide ((k:Int)<(l.length:Int))=false) :
 Fn 205 1 [.ls 0 l.length,.pv (iV (n)),.pv (.func (.func 206) #[] #[])] [(0,0,qak l)] (.pv (.tuple #[iV (k:Int),.bool false])) 0 []:=
 Fz [] [Lf r0,.t false]
  tI (Lo r0 [] (Ai hge tI))
theorem qpY {l:List Pt} {k:Nat} {p:Pt} {c:Int} {n:Int} (r0:qDf k l n) (hk:l[k]?=some p) (hin:0≤(k:Int)∧(k:Int)<(l.length:Int)) (hlt:decide ((k:Int)<(l.length:Int))=true) (hc:qBM c n p) (hz:(c==0)=true) :
 Fn 205 1 [.ls 0 l.length,.pv (iV (n)),.pv (.func (.func 206) #[] #[])] [(0,0,qak l)] (.pv (.tuple #[iV (k:Int),.bool true])) 0 []:=
 Fz [] [Lf r0,.t true,.r (ptV p),Rf hc,.t true]
  tI (Lo r0 [] (Ai hlt (Ai hin (Ai (qaI hk) (Ai hc (Ai hz tI))))))
theorem qug {l:List Pt} {k:Nat} {p:Pt} {c:Int} {n:Int} (r0:qDf k l n) (hk:l[k]?=some p) (hin:0≤(k:Int)∧(k:Int)<(l.length:Int)) (hlt:decide ((k:Int)<(l.length:Int))=true) (hc:qBM c n p) (hz:(c==0)=false) :
 Fn 205 1 [.ls 0 l.length,.pv (iV (n)),.pv (.func (.func 206) #[] #[])] [(0,0,qak l)] (.pv (.tuple #[iV (k:Int),.bool false])) 0 []:=
 Fz [] [Lf r0,.t true,.r (ptV p),Rf hc,.t false]
  tI (Lo r0 [] (Ai hlt (Ai hin (Ai (qaI hk) (Ai hc (Ai hz tI))))))
theorem qd3 {l:List Pt} {k:Nat} {b:Bool} {x n:Int} (hb:Fn 205 1 [.ls 0 l.length,.pv (iV (n)),.pv (.func (.func 206) #[] #[])] [(0,0,qak l)] (.pv (.tuple #[iV (k:Int),.bool b])) 0 []) :
 Fn 165 1 [qaH 0 x l,.pv (iV (n))] [(0,0,qak l)] (.pv (.tuple #[iV (k:Int),.bool b])) 0 []:=
 Fz [] [Cf hb [0]]
  tI (Co hb [0] 2 tI)
abbrev qxX (l:List Pt) (x:Int):Prop:=Fn 88 1 [qaH 0 x l] [(0,0,qak l)] (.pv (iV (0))) 0 []
theorem qzE {l:List Pt} {k:Nat} {x n:Int} (hc:qxX l x) (hf:Fn 165 1 [qaH 0 x l,.pv (iV (n))] [(0,0,qak l)] (.pv (.tuple #[iV (k:Int),.bool false])) 0 []) :
 Fn 164 1 [qaH 0 x l,.pv (iV (n))] [(0,0,qak l)] (.pv (.tuple #[qag 0 0,iV 6])) 0 []:=
 Fz [] [Cf hc [0],.k,Cf hf [0],.k]
  tI (Co hc [0] 3 (Co hf [0] 3 tI))
theorem qtl {l:List Pt} {k:Nat} {p:Pt} {x n:Int} (hk:l[k]?=some p) (hin:0≤(k:Int)∧(k:Int)<(l.length:Int)) (hc:qxX l x) (hf:Fn 165 1 [qaH 0 x l,.pv (iV (n))] [(0,0,qak l)] (.pv (.tuple #[iV (k:Int),.bool true])) 0 []) :
 Fn 164 1 [qaH 0 x l,.pv (iV (n))] [(0,0,qak l)] (.pv (.tuple #[qag p.a p.b,iV 0])) 0 []:=
 Fz [] [Cf hc [0],.k,Cf hf [0],.k,.r (qag p.a p.b)]
  tI (Co hc [0] 3 (Co hf [0] 3 (Ai hin (Ai (qdx hk) tI))))
abbrev qj3 (a:Int) (b:Int) (l:List Pt):HpL:=[(0,0,qak l),(1,0,.pv (iV a)),(1,1,.pv (iV b))]
abbrev qDK (k:Nat) (l:List Pt):TmL:=[(0,.ls 0 l.length),(1,.pc 149 [.pp 1 0]),(7,.pv (iV (l.length:Int))),(8,.pv (iV (k:Int)))]
theorem qo2 {l:List Pt} {k:Nat} {p:Pt} {a b:Int} (hk:l[k]?=some p) (hin:0≤(k:Int)∧(k:Int)<(l.length:Int)) (hlt:decide ((k:Int)<(l.length:Int))=true) (he:(p.a==a&&(p.b==b&&true))=false) (hs:iV (IntKind.i64.wrap ((k:Int)+1))=iV (((k+1:Nat):Int))) {e:Exit} {tm2:TmL} {hp2:HpL}
 (r:Rl 2 2 184 0 19 2 ([(0,.ls 0 l.length),(1,.pc 149 [.pp 1 0]),(7,.pv (iV (l.length:Int))),(8,.pv (iV ((k+1:Nat):Int)))]) (qj3 a b l) e tm2 hp2):Rl 2 2 184 0 19 2 (qDK k l) (qj3 a b l) e tm2 hp2:=
 RunsL.next [] 300 [.t true,.r (ptV p),.k,.t false,Re hs]
  (Ro (Ai hlt (Ai hin (Ai (qaI hk) (Ai he (Ai hs tI)))))) r
theorem qsL {l:List Pt} {k:Nat} {p:Pt} {a b:Int} (hk:l[k]?=some p) (hin:0≤(k:Int)∧(k:Int)<(l.length:Int)) (hlt:decide ((k:Int)<(l.length:Int))=true) (he:(p.a==a&&(p.b==b&&true))=true):Rl 2 2 184 0 19 2 (qDK k l) (qj3 a b l) (.ret) ([(4,.pv (iV (k:Int)))]) ([]):=
 RunsL.stop [] 300 [.t true,.r (ptV p),.k,.t true] (fun h=>by cases h)
  (Ro (Ai hlt (Ai hin (Ai (qaI hk) (Ai he tI)))))
theorem qtc {l:List Pt} {k:Nat} {a b:Int} (hge:decide ((k:Int)<(l.length:Int))=false):Rl 2 2 184 0 19 2 (qDK k l) (qj3 a b l) (.exit 0) ([]) ([]):=
 RunsL.stop [] 300 [.t false] (fun h=>by cases h)
  (Ro (Ai hge tI))
theorem qx0 {l:List Pt} {a b:Int} (r0:Rl 2 2 184 0 19 2 ([(0,.ls 0 l.length),(1,.pc 149 [.pp 1 0]),(7,.pv (iV (l.length:Int))),(8,.pv (iV ((0:Nat):Int)))]) (qj3 a b l) (.exit 0) ([]) ([])) :
 Fn 184 2 [.ls 0 l.length,.pc 149 [.pp 1 0]] (qj3 a b l) (.pv (iV (-1))) 0 []:=
 Fz [] [Lf r0]
  tI (Lo r0 [] tI)
theorem qtz {l:List Pt} {k:Nat} {a b:Int} (r0:Rl 2 2 184 0 19 2 ([(0,.ls 0 l.length),(1,.pc 149 [.pp 1 0]),(7,.pv (iV (l.length:Int))),(8,.pv (iV ((0:Nat):Int)))]) (qj3 a b l) (.ret) ([(4,.pv (iV (k:Int)))]) ([])) :
 Fn 184 2 [.ls 0 l.length,.pc 149 [.pp 1 0]] (qj3 a b l) (.pv (iV (k:Int))) 0 []:=
 Fz [] [Lf r0]
  tI (Lo r0 [] tI)
theorem qxb {l:List Pt} {a b:Int} (hi:Fn 184 2 [.ls 0 l.length,.pc 149 [.pp 1 0]] (qj3 a b l) (.pv (iV (-1))) 0 []) :
 Fn 140 2 [.ls 0 l.length,.pc 149 [.pp 1 0]] (qj3 a b l) (.pv (.bool false)) 0 []:=
 Fz [] [Cf hi [0,1],.k]
  tI (Co hi [0,1] 2 tI)
theorem qvW {l:List Pt} {k:Nat} {a b:Int} (hi:Fn 184 2 [.ls 0 l.length,.pc 149 [.pp 1 0]] (qj3 a b l) (.pv (iV (k:Int))) 0 []) (h0:decide ((k:Int)≥0)=true) :
 Fn 140 2 [.ls 0 l.length,.pc 149 [.pp 1 0]] (qj3 a b l) (.pv (.bool true)) 0 []:=
 Fz [] [Cf hi [0,1],.t true]
  tI (Co hi [0,1] 2 (Ai h0 tI))
theorem qtH {l:List Pt} {x a b:Int} (hv:Pure Tryz.prog 148 #[qag a b] (.bool false)) :
 Fn 103 1 [qaH 0 x l,.pv (qag a b)] [(0,0,qak l)] (.pv (iV (8))) 0 []:=
 Fz [] [Rf hv,.k]
  tI (Ai hv tI)
theorem qs9 {l:List Pt} {x a b:Int} (hv:Pure Tryz.prog 148 #[qag a b] (.bool true)) (ht:Fn 140 2 [.ls 0 l.length,.pc 149 [.pp 1 0]] (qj3 a b l) (.pv (.bool true)) 0 []) :
 Fn 103 1 [qaH 0 x l,.pv (qag a b)] [(0,0,qak l)] (.pv (iV (14))) 0 []:=
 Fz [] [Rf hv,.k,Cf ht [0,2]]
  tI (Ai hv (Co ht [0,2] 3 tI))
theorem qxE {l:List Pt} {x a b:Int} (hv:Pure Tryz.prog 148 #[qag a b] (.bool true)) (ht:Fn 140 2 [.ls 0 l.length,.pc 149 [.pp 1 0]] (qj3 a b l) (.pv (.bool false)) 0 []) :
 Fn 103 1 [qaH 0 x l,.pv (qag a b)] [(0,0,qak l)] (.pv (iV (0))) 0 []:=
 Fz [] [Rf hv,.k,Cf ht [0,2]]
  tI (Ai hv (Co ht [0,2] 3 tI))
theorem qqH {l:List Pt} {x:Int} (hf:((l.length:Int)==200)=true) :
 Fn 104 1 [qaH 0 x l] [(0,0,qak l)] (.pv (iV (18))) 0 []:=
 Fz [] [.t true]
  tI (Ai hf tI)
theorem qrr {l:List Pt} {x:Int} (hf:((l.length:Int)==200)=false) (hu:(x==1000000)=true) :
 Fn 104 1 [qaH 0 x l] [(0,0,qak l)] (.pv (iV (18))) 0 []:=
 Fz [] [.t false,.t true]
  tI (Ai hf (Ai hu tI))
theorem qAL {l:List Pt} {x:Int} (hf:((l.length:Int)==200)=false) (hu:(x==1000000)=false) :
 Fn 104 1 [qaH 0 x l] [(0,0,qak l)] (.pv (iV (0))) 0 []:=
 Fz [] [.t false,.t false]
  tI (Ai hf (Ai hu tI))
theorem qEQ {s:Int} (h0:decide (s<0)=false) (hs:iV (IntKind.i64.wrap (s-0))=iV (s)) (hg:decide (s>0)=false) :
 Fn 150 0 [.pv (.slice none 0 0),.pv (iV (s))] [] (.pv (.slice none 0 0)) 0 []:=
 Fz [] [.t false,.k,Re hs,.t false]
  tI (Ai h0 (Ai hs (Ai hg tI)))
theorem qyL {s:Int} (h0:decide (s<0)=false) (hs:iV (IntKind.i64.wrap (s-0))=iV (s)) (hg:decide (s>0)=true) (a0:0≤s) (a1:s≤1000000) :
 Fn 150 0 [.pv (.slice none 0 0),.pv (iV (s))] [] (.ls 0 0) 1 [(0,0,qak ([]:List Pt))]:=
 Fz [(0,1)] [.t false,.k,Re hs,.t true,.w []]
  (qaC (qaK [(0,1)]) [(0,0,qak ([]:List Pt))]) (Ai h0 (Ai hs (Ai hg (Ai a0 (Ai a1 (Ai (Int.le_refl (0:Int)) (Ai (Nat.zero_le s.toNat) tI)))))))
theorem qF7 {l:List Pt} {x a b:Int} {s1 s2:Int} (q1:iV (IntKind.i64.wrap ((0:Int)+(l.length:Int)))=iV (s1)) (n1:decide (s1<0)=false) (q2:iV (IntKind.i64.wrap (s1+((1:Nat):Int)))=iV (s2)) (n2:decide (s2<0)=false) (hgr:Fn 150 0 [.pv (.slice none 0 0),.pv (iV (s2))] [] (.ls 0 0) 1 [(0,0,qak ([]:List Pt))]) (a1:0+l.length≤1000000) (a2:0+l.length+1≤1000000) :
 Fn 105 3 [.ps 2 0 2 2] [(2,0,.ls 0 l.length),(2,1,.ps 1 0 1 1),(1,0,.pv (iV x)),(1,1,.pv (iV a)),(1,2,.pv (iV b)),(0,0,qak l)] (.ls 3 (l++[(Pt.mk x a b)]).length) 1 [(3,0,qak (l++[(Pt.mk x a b)]))]:=
 Fx [(3,5)] [.k,Re q1,.t false,.k,.k,.r (iV (s2)),.t false,.k,.k,Cf hgr [],.k,.k,.k,.k,.k]
  (qzw l (Pt.mk x a b)) (Ai (qpC l (Pt.mk x a b)) tI) (Ai q1 (Ai n1 (Ai q2 (Ai n2 (Co hgr [] 3 (Ai a1 (Ai a2 tI)))))))
abbrev qD2 (k:Nat) (l:List Pt):HpL:=[(1,0,.lq 0 3 0 k),(1,1,.lq 0 3 (0+(k+1)) (l.length-(k+1))),(0,0,qak l)]
theorem qyy {l:List Pt} {k:Nat} {s1 s2:Int} (q1:iV (IntKind.i64.wrap ((0:Int)+((k:Nat):Int)))=iV (s1)) (n1:decide (s1<0)=false) (q2:iV (IntKind.i64.wrap (s1+((l.length-(k+1):Nat):Int)))=iV (s2)) (n2:decide (s2<0)=false) (hgr:Fn 150 0 [.pv (.slice none 0 0),.pv (iV (s2))] [] (.ls 0 0) 1 [(0,0,qak ([]:List Pt))]) (a1:0+k≤1000000) (a2:0+k+(l.length-(k+1))≤1000000) (hkl1:k+1≤l.length) :
 Fn 105 2 [.ps 1 0 2 2] (qD2 k l) (.ls 2 (l.take k++l.drop (k+1)).length) 1 [(2,0,qak (l.take k++l.drop (k+1)))]:=
 Fx [(2,4)] [.k,.r (iV (s1)),.t false,.k,.k,.r (iV (s2)),.t false,.k,.k,Cf hgr [],.k,.k,.k,.k,.k]
  (qjG 4 l k hkl1) (Ai (qjJ l k hkl1) tI) (Ai q1 (Ai n1 (Ai q2 (Ai n2 (Co hgr [] 2 (Ai a1 (Ai a2 tI)))))))
theorem qyw {l:List Pt} {k:Nat} {s1 s2:Int} (q1:iV (IntKind.i64.wrap ((0:Int)+((k:Nat):Int)))=iV (s1)) (n1:decide (s1<0)=false) (q2:iV (IntKind.i64.wrap (s1+((l.length-(k+1):Nat):Int)))=iV (s2)) (n2:decide (s2<0)=false) (hgr:Fn 150 0 [.pv (.slice none 0 0),.pv (iV (s2))] [] (.pv (.slice none 0 0)) 0 []) (a1:0+k≤1000000) (a2:0+k+(l.length-(k+1))≤1000000) (hkl1:k+1≤l.length) :
 Fn 105 2 [.ps 1 0 2 2] (qD2 k l) (.ls 2 (l.take k++l.drop (k+1)).length) 1 [(2,0,qak (l.take k++l.drop (k+1)))]:=
 Fx [(2,3)] [.k,.r (iV (s1)),.t false,.k,.k,.r (iV (s2)),.t false,.k,.k,Cf hgr [],.k,.k,.k,.k,.k]
  (qjG 3 l k hkl1) (Ai (qjJ l k hkl1) tI) (Ai q1 (Ai n1 (Ai q2 (Ai n2 (Co hgr [] 2 (Ai a1 (Ai a2 tI)))))))
theorem qxj {l:List Pt} {x a b e e2 e3:Int} (c1:Fn 88 1 [qaH 0 x l] [(0,0,qak l)] (.pv (iV (e))) 0 []) (c2:Fn 103 1 [qaH 0 x l,.pv (qag a b)] [(0,0,qak l)] (.pv (iV (e2))) 0 []) (c3:Fn 104 1 [qaH 0 x l] [(0,0,qak l)] (.pv (iV (e3))) 0 []) (he:(e !=0)=true) :
 Fn 57 1 [qaH 0 x l,.pv (qag a b)] [(0,0,qak l)] (.pv (.tuple #[.agg #[iV 0,.slice none 0 0],iV 0,iV e])) 0 []:=
 Fz [] [Cf c1 [0],Cf c2 [0],Cf c3 [0],.k,.k,.t true,.t true]
  tI (Co c1 [0] 4 (Co c2 [0] 4 (Co c3 [0] 4 (Ai he (Ai he tI)))))
theorem qsg {l:List Pt} {x a b e e3:Int} (c1:qxX l x) (c2:Fn 103 1 [qaH 0 x l,.pv (qag a b)] [(0,0,qak l)] (.pv (iV (e))) 0 []) (c3:Fn 104 1 [qaH 0 x l] [(0,0,qak l)] (.pv (iV (e3))) 0 []) (he:(e !=0)=true) :
 Fn 57 1 [qaH 0 x l,.pv (qag a b)] [(0,0,qak l)] (.pv (.tuple #[.agg #[iV 0,.slice none 0 0],iV 0,iV e])) 0 []:=
 Fz [] [Cf c1 [0],Cf c2 [0],Cf c3 [0],.k,.k,.k,.k,.k,.t true,.t true]
  tI (Co c1 [0] 4 (Co c2 [0] 4 (Co c3 [0] 4 (Ai he (Ai he tI)))))
theorem qr5 {l:List Pt} {x a b e:Int} (c1:qxX l x) (c2:Fn 103 1 [qaH 0 x l,.pv (qag a b)] [(0,0,qak l)] (.pv (iV (0))) 0 []) (c3:Fn 104 1 [qaH 0 x l] [(0,0,qak l)] (.pv (iV (e))) 0 []) (he:(e !=0)=true) :
 Fn 57 1 [qaH 0 x l,.pv (qag a b)] [(0,0,qak l)] (.pv (.tuple #[.agg #[iV 0,.slice none 0 0],iV 0,iV e])) 0 []:=
 Fz [] [Cf c1 [0],Cf c2 [0],Cf c3 [0],.k,.k,.k,.k,.k,.k,.k,.k,.t true,.t true]
  tI (Co c1 [0] 4 (Co c2 [0] 4 (Co c3 [0] 4 (Ai he (Ai he tI)))))
theorem qA8 {l:List Pt} {x y a b:Int} (c1:qxX l x) (c2:Fn 103 1 [qaH 0 x l,.pv (qag a b)] [(0,0,qak l)] (.pv (iV (0))) 0 []) (c3:Fn 104 1 [qaH 0 x l] [(0,0,qak l)] (.pv (iV (0))) 0 []) (hcat:Fn 105 3 [.ps 2 0 2 2] [(2,0,.ls 0 l.length),(2,1,.ps 1 0 1 1),(1,0,.pv (iV x)),(1,1,.pv (iV a)),(1,2,.pv (iV b)),(0,0,qak l)] (.ls 3 (l++[(Pt.mk x a b)]).length) 1 [(3,0,qak (l++[(Pt.mk x a b)]))]) (hy:iV (IntKind.i64.wrap (x+1))=iV (y)) :
 Fn 57 1 [qaH 0 x l,.pv (qag a b)] [(0,0,qak l)] (.tu [.ag [.pv (iV y),.ls 1 (l++[(Pt.mk x a b)]).length],.one (.pv (iV x)),.one (.pv (iV 0))]) 1 [(1,0,qak (l++[(Pt.mk x a b)]))]:=
 Fz [(1,7)] [Cf c1 [0],Cf c2 [0],Cf c1 [0],.k,.k,.k,.k,.k,.k,.k,.k,.k,.k,.k,.k,Cf hcat [0,5,6],Re hy]
  (qaC (qaK [(1,7)]) [(1,0,qak (l++[(Pt.mk x a b)]))]) (Co c1 [0] 4 (Co c2 [0] 4 (Co c3 [0] 4 (Co hcat [0,5,6] 7 (Ai hy tI)))))
theorem qua {l:List Pt} {x n a b e:Int} (hg:Fn 164 1 [qaH 0 x l,.pv (iV (n))] [(0,0,qak l)] (.pv (.tuple #[qag a b,iV e])) 0 []) (he:(e !=0)=true) :
 Fn 114 1 [qaH 0 x l,.pv (iV (n))] [(0,0,qak l)] (.pv (.tuple #[.agg #[iV 0,.slice none 0 0],qag 0 0,iV e])) 0 []:=
 Fz [] [Cf hg [0],.t true]
  tI (Co hg [0] 4 (Ai he tI))
theorem qAF {l:List Pt} {k:Nat} {x n a b:Int} (hg:Fn 164 1 [qaH 0 x l,.pv (iV (n))] [(0,0,qak l)] (.pv (.tuple #[qag a b,iV 0])) 0 []) (hf:Fn 165 1 [qaH 0 x l,.pv (iV (n))] [(0,0,qak l)] (.pv (.tuple #[iV (k:Int),.bool true])) 0 []) (hkl:k≤l.length) (hkl1:k+1≤l.length) (hk1:iV (IntKind.i64.wrap ((k:Int)+1))=iV (((k+1:Nat):Int))) (hcut:Fn 105 2 [.ps 1 0 2 2] (qD2 k l) (.ls 2 (l.take k++l.drop (k+1)).length) 1 [(2,0,qak (l.take k++l.drop (k+1)))]) :
 Fn 114 1 [qaH 0 x l,.pv (iV (n))] [(0,0,qak l)] (.tu [.ag [.pv (iV x),.ls 1 (l.take k++l.drop (k+1)).length],.one (.pv (qag a b)),.one (.pv (iV 0))]) 1 [(1,0,qak (l.take k++l.drop (k+1)))]:=
 Fz [(1,6)] [Cf hg [0],.k,Cf hf [0],.md,.k,Re hk1,.k,Cf hcut [0,5]]
  (qaC (qaK [(1,6)]) [(1,0,qak (l.take k++l.drop (k+1)))]) (Co hg [0] 4 (Co hf [0] 5 (Ai tI (Ai (Int.natCast_nonneg k) (Ai (Nat.zero_le k) (Ai hkl (Ai hk1 (Ai (Int.natCast_nonneg (k+1)) (Ai tI (Ai hkl1 (Ai (Nat.le_refl l.length) (Co hcut [0,5] 6 tI))))))))))))
theorem qFZ :
 Pure Tryz.prog 52 #[] (.agg #[iV 0,.slice none 0 0]):=
 qad (args:=[]) 300 []
  (Ai rfl tI) (by kernel_rfl)
end Go.Proofs.YtkjaanhddkkodaaGreat

namespace Go.Proofs.YtkjaanhddkkodaaGreat
set_option maxRecDepth 100000
open Go.RowKit
theorem qew (a b:Int):Pure Tryz.prog 71 #[qag a b] (.bool (qb7 a b)):=by
 have no:∀ {P:Prop},¬ P→(qb7 a b=true→P)→qb7 a b=false:=fun h k=>by
  cases e:qb7 a b
  ·rfl
  ·exact (h (k e)).elim
 by_cases h1:0≤a
 ·by_cases h2:a≤65535
  ·by_cases h3:0≤b
   ·by_cases h4:b≤65535
    ·by_cases h5:a=b
     ·rw[no (P:=a≠b) (fun h=>h h5) (fun h=>(qbf.1 h).2.2.2.2)]
      exact qEn (dt h1) (dt h2) (dt h3) (dt h4) (by simpa using h5)
     ·rw[qbf.2 ⟨h1,h2,h3,h4,h5⟩]
      exact qEW (dt h1) (dt h2) (dt h3) (dt h4) (by simpa using h5)
    ·rw[no h4 (fun h=>(qbf.1 h).2.2.2.1)]
     exact qGa (dt h1) (dt h2) (dt h3) (df h4)
   ·rw[no h3 (fun h=>(qbf.1 h).2.2.1)]
    exact qFP (dt h1) (dt h2) (df (by omega))
  ·rw[no h2 (fun h=>(qbf.1 h).2.1)]
   exact qF1 (dt h1) (df h2)
 ·rw[no h1 (fun h=>(qbf.1 h).1)]
  exact qF2 (df (by omega))
abbrev qBE (k:Nat):List (Nat×SV):=[(1,.pp 1 0),(3,.pv (iV (k:Int)))]
abbrev qmh (k j:Nat):List (Nat×SV):=[(1,.pp 1 0),(3,.pv (iV (k:Int))),(4,.pp 2 0),(5,.pv (iV (j:Int)))]
abbrev qB4 (x:Int) (l:List Pt):List (Nat×Nat×SV):=[(1,0,.pv (iV x)),(1,1,.ls 0 l.length),(0,0,qak l)]
abbrev qnX (x:Int) (l:List Pt) (p:Pt):List (Nat×Nat×SV):=[(1,0,.pv (iV x)),(1,1,.ls 0 l.length),(2,0,.pv (iV p.id)),(2,1,.pv (iV p.a)),(2,2,.pv (iV p.b)),(0,0,qak l)]
theorem qoz {p q:Pt} (h:¬ (q.a=p.a∧q.b=p.b)):(q.a==p.a&&(q.b==p.b&&true))=false:=by
 rw[Bool.and_true]
 cases e:(q.a==p.a&&q.b==p.b)
 ·rfl
 ·rw[Bool.and_eq_true,beq_iff_eq,beq_iff_eq] at e;exact (h e).elim
theorem qnR {p q:Pt} (h:q.a=p.a∧q.b=p.b):(q.a==p.a&&(q.b==p.b&&true))=true:=by rw[h.1,h.2];simp
theorem qjF {x:Int} {l:List Pt} {p:Pt} {k:Nat} (hn:l.length≤1000000) (hkl:k≤l.length) {j:Nat} (hj:j≤k) (h:∀ i,i<j→∀ q,l[i]?=some q→¬ (q.a=p.a∧q.b=p.b)) {e:Exit} {tm2:TmL} {hp2:HpL}
 (r:Rl 1 1 76 1 78 3 (qmh k j) (qnX x l p) e tm2 hp2):Rl 1 1 76 1 78 3 (qmh k 0) (qnX x l p) e tm2 hp2:=by
 refine RunsL.rounds (fun i=>qmh k i) (fun _=>qnX x l p) (N:=j) j 0 (Nat.zero_add _) (fun i _ hi r=>?_) r
 obtain⟨q,hq⟩:=qah (l:=l) (k:=i) (by omega)
 exact qnz hq (qan (qai hq)) (dt (by omega)) (qoz (h i hi q hq)) (qau (by omega)) r
theorem qsk {x:Int} {l:List Pt} {p:Pt} {k:Nat} (hn:l.length≤1000000) (hkl:k≤l.length) (h:∀ i,i<k→∀ q,l[i]?=some q→¬ (q.a=p.a∧q.b=p.b)) :
 Rl 1 1 76 1 78 3 (qmh k 0) (qnX x l p) (.exit 2) (qBE k) (qB4 x l):=
 qjF hn hkl (Nat.le_refl k) h (qqC (df (by omega)))
theorem quW {x:Int} {l:List Pt} {p:Pt} {k:Nat} (hn:l.length≤1000000) (hkl:k≤l.length) (h:¬ ∀ i,i<k→∀ q,l[i]?=some q→¬ (q.a=p.a∧q.b=p.b)) :
 Rl 1 1 76 1 78 3 (qmh k 0) (qnX x l p) .ret [(2,.pv (iV 8))] []:=by
 rcases qaT (fun i=>∀ q,l[i]?=some q→¬ (q.a=p.a∧q.b=p.b)) k with h1 | ⟨j,hj,hb,hf⟩
 ·exact (h h1).elim
 ·simp only[Classical.not_forall,Classical.not_not] at hb
  obtain⟨q,hq,he⟩:=hb
  exact qjF hn hkl (by omega) hf (qqK hq (qan (qai hq)) (dt (by omega)) (qnR he))
def At8 (x:Int) (l:List Pt) (k:Nat):Prop:=∀ p,l[k]?=some p→qb7 p.a p.b=true∧0≤p.id∧p.id<x∧(∀ j q,k=j+1→l[j]?=some q→q.id<p.id)∧∀ i,i<k→∀ q,l[i]?=some q→¬ (q.a=p.a∧q.b=p.b)
theorem qnL (x:Int) (l:List Pt):FnL Tryz.prog 76 1 [qaH 0 x l] [(0,0,qak l)] (.pv (.int .i64 (qwX x l))) 0 []:=by
 by_cases h0:l.length≤200
 ·by_cases h1:0≤x
  ·by_cases h2:x≤1000000
   ·have step:∀ k,(∀ j,j<k→At8 x l j)→∀ {e:Exit} {tm2:TmL} {hp2:HpL},k≤l.length→
     RunsL Tryz.prog 1 1 (qft Tryz.prog 76 0) 78 2 (qBE k) (qB4 x l) e tm2 hp2→RunsL Tryz.prog 1 1 (qft Tryz.prog 76 0) 78 2 (qBE 0) (qB4 x l) e tm2 hp2:=by
     intro k hk e tm2 hp2 hkl r
     refine RunsL.rounds (fun j=>qBE j) (fun _=>qB4 x l) (N:=k) k 0 (Nat.zero_add _) (fun j _ hj r=>?_) r
     obtain⟨p,hp⟩:=qah (l:=l) (k:=j) (by omega)
     obtain⟨a1,a2,a3,a4,a5⟩:=hk j hj p hp
     have hjl:=qai hp
     cases j with
     | zero=>exact qDC (hk:=hp) (hin:=qan hjl) (hlt:=dt (by omega)) (hv:=a1▸qew p.a p.b) (h1:=df (by omega)) (h2:=df (by omega)) (hz:=df (by omega)) (r1:=qsk (by omega) (by omega) a5) (hs:=qau (by omega)) r
     | succ i=>
      obtain⟨q,hq⟩:=qah (l:=l) (k:=i) (by omega)
      exact qCq (hk:=hp) (hin:=qan hjl) (hlt:=dt (by omega)) (hv:=a1▸qew p.a p.b) (h1:=df (by omega)) (h2:=df (by omega)) (hz:=dt (by omega)) (hq:=hq) (hin0:=qan (qai hq)) (hm:=qbU i (by omega)) (hg:=df (by have:=a4 i q rfl hq;omega)) (r1:=qsk (by omega) (by omega) a5) (hs:=qau (by omega)) r
    rcases qaT (At8 x l) l.length with h | ⟨j,hj,hb,hf⟩
    ·have hv:V8 x l:=⟨h0,fun p hp=>by
      obtain⟨k,hk,rfl⟩:=List.getElem_of_mem hp
      exact (h k hk _ (List.getElem?_eq_getElem hk)).1,fun k p q hp hq=>(h (k+1) (qai hq) q hq).2.2.2.1 k p rfl hp,fun p hp=>by
      obtain⟨k,hk,rfl⟩:=List.getElem_of_mem hp
      exact (h k hk _ (List.getElem?_eq_getElem hk)).2.1,fun p hp=>by
      obtain⟨k,hk,rfl⟩:=List.getElem_of_mem hp
      exact (h k hk _ (List.getElem?_eq_getElem hk)).2.2.1,⟨h1,h2⟩,fun i k p q hik hp hq=>(h k (qai hq) q hq).2.2.2.2 i hik p hp⟩
     rw[qcT hv]
     exact qAc (df (by omega)) (df (by omega)) (df (by omega)) (step l.length h (Nat.le_refl _) (qu4 (df (by omega))))
    ·rw[qbB fun hv=>hb fun p hp=>⟨hv.ok p (List.mem_of_getElem? hp),hv.lo p (List.mem_of_getElem? hp),hv.hi p (List.mem_of_getElem? hp),fun i q e hq=>by subst e;exact hv.up i q p hq hp,fun i hi q hq=>hv.dis i j q p hi hq hp⟩]
     refine qvq (df (by omega)) (df (by omega)) (df (by omega)) (step j hf (by omega) ?_)
     obtain⟨p,hp⟩:=qah hj
     by_cases c1:qb7 p.a p.b=true
     ·by_cases c2:0≤p.id
      ·by_cases c3:p.id<x
       ·cases j with
        | zero=>exact (hb fun p' hp'=>by rw[hp] at hp';cases hp';exact⟨c1,c2,c3,fun i q e=>by omega,fun i hi=>by omega⟩).elim
        | succ i=>
         obtain⟨q,hq⟩:=qah (l:=l) (k:=i) (by omega)
         by_cases c4:q.id<p.id
         ·refine qok (hk:=hp) (hin:=qan hj) (hlt:=dt (by omega)) (hv:=c1▸qew p.a p.b) (h1:=df (by omega)) (h2:=df (by omega)) (hz:=dt (by omega)) (hq:=hq) (hin0:=qan (qai hq)) (hm:=qbU i (by omega)) (hg:=df (by omega)) (r1:=quW (by omega) (by omega) fun hno=>hb fun p' hp'=>?_)
          rw[hp] at hp';cases hp'
          exact⟨c1,c2,c3,fun i' q' e hq'=>by cases e;rw[hq] at hq';cases hq';exact c4,hno⟩
         ·exact qCQ (hk:=hp) (hin:=qan hj) (hlt:=dt (by omega)) (hv:=c1▸qew p.a p.b) (h1:=df (by omega)) (h2:=df (by omega)) (hz:=dt (by omega)) (hq:=hq) (hin0:=qan (qai hq)) (hm:=qbU i (by omega)) (hg:=dt (by omega))
       ·exact qE7 (hk:=hp) (hin:=qan hj) (hlt:=dt (by omega)) (hv:=c1▸qew p.a p.b) (h1:=df (by omega)) (h2:=dt (by omega))
      ·exact qDz (hk:=hp) (hin:=qan hj) (hlt:=dt (by omega)) (hv:=c1▸qew p.a p.b) (h1:=dt (by omega))
     ·have c1':qb7 p.a p.b=false:=by simpa using c1
      exact qCO (hk:=hp) (hin:=qan hj) (hlt:=dt (by omega)) (hv:=c1'▸qew p.a p.b)
   ·rw[qbB fun h=>h2 h.nx.2]
    exact quj (df (by omega)) (df (by omega)) (dt (by omega))
  ·rw[qbB fun h=>h1 h.nx.1]
   exact qs6 (df (by omega)) (dt (by omega))
 ·rw[qbB fun h=>h0 h.len]
  exact qoP (dt (by omega))
theorem qme (x:Int) {l:List Pt} (hn:l.length≤1000000):Fn 53 1 [qaH 0 x l] [(0,0,qak l)] (.ag [.pv (iV x),.ls 1 l.length]) 1 [(1,0,qak l)]:=qqe (by omega)
theorem qqZ (x:Int) {l:List Pt} (hn:l.length≤1000000):Fn 43 2 [qaH 0 x l,qaH 1 x l] [(0,0,qak l),(1,0,qak l)] (.pv (.bool true)) 0 []:=
 qvA (by simp) (by simp) (RunsL.rounds (fun k=>[(2,.pp 2 0),(3,.pp 3 0),(5,.pv (iV (k:Int)))]) (fun _=>[(2,0,.pv (iV x)),(2,1,.ls 0 l.length),(3,0,.pv (iV x)),(3,1,.ls 1 l.length),(0,0,qak l),(1,0,qak l)]) l.length 0 (Nat.zero_add _)
  (fun k _ hk r=>by
   obtain⟨p,hp⟩:=qah hk
   exact qpe hp (qan hk) hp (qan hk) (dt (by omega)) (by simp) (qau (by omega)) r)
  (quo (df (by omega))))
theorem qsA {l:List Pt} (hu:Up l) (n:Int):(∃ (k:Nat) (p:Pt),l[k]?=some p∧p.id=n)∨((∀ p∈l,p.id≠n)∧∃ k,k≤l.length∧(∀ (t:Nat) (p:Pt),t<k→l[t]?=some p→p.id<n)∧∀ (t:Nat) (p:Pt),k≤t→l[t]?=some p→n<p.id):=by
 by_cases h:∃ (k:Nat) (p:Pt),l[k]?=some p∧p.id=n
 ·exact Or.inl h
 ·refine Or.inr ⟨fun p hp e=>?_,?_⟩
  ·obtain⟨k,hk,rfl⟩:=List.getElem_of_mem hp
   exact h ⟨k,_,List.getElem?_eq_getElem hk,e⟩
  ·rcases qaT (fun k=>∀ p,l[k]?=some p→p.id<n) l.length with hh | ⟨j,hj,hn,hb⟩
   ·exact⟨l.length,Nat.le_refl _,fun t p ht hp=>hh t ht p hp,fun t p ht hp=>by have:=qai hp;omega⟩
   ·refine⟨j,by omega,fun t p ht hp=>hb t ht p hp,fun t p ht hp=>?_⟩
    simp only[Classical.not_forall] at hn
    obtain⟨q,hq,hlt⟩:=hn
    have hne:q.id≠n:=fun e=>h ⟨j,q,hq,e⟩
    rcases Nat.lt_or_ge j t with h' | h'
    ·have:=hu.mono h' hq hp;omega
    ·have:t=j:=by omega
     subst this
     rw[hq] at hp
     cases hp
     omega
theorem qnD {l:List Pt} (hu:Up l) {i j:Nat} {p q:Pt} (hp:l[i]?=some p) (hq:l[j]?=some q) (h:p.id=q.id):i=j∧p=q:=by
 rcases Nat.lt_trichotomy i j with e | e | e
 ·have:=hu.mono e hp hq;omega
 ·subst e;rw[hp] at hq;cases hq;exact⟨rfl,rfl⟩
 ·have:=hu.mono e hq hp;omega
theorem qel {l:List Pt} (hu:Up l) {k:Nat} {p:Pt} (hk:l[k]?=some p):(l.filter fun q=>decide (q.id≠p.id))=l.take k++l.drop (k+1):=by
 obtain⟨hkl,e⟩:=List.getElem?_eq_some_iff.1 hk
 have h1:l=l.take k++p::l.drop (k+1):=by rw[← e];simp
 have h2:∀ q∈l.take k,decide (q.id≠p.id)=true:=fun q hq=>by
  obtain⟨i,hi,hq'⟩:=qgB hq
  have:=hu.mono hi hq' hk
  exact dt (by omega)
 have h3:∀ q∈l.drop (k+1),decide (q.id≠p.id)=true:=fun q hq=>by
  obtain⟨i,hi,rfl⟩:=List.getElem_of_mem hq
  have hq':l[k+1+i]?=some (l.drop (k+1))[i]:=by rw[← List.getElem?_drop];exact List.getElem?_eq_getElem hi
  have:=hu.mono (show k<k+1+i by omega) hk hq'
  exact dt (by omega)
 conv=>lhs;rw[h1]
 rw[List.filter_append,List.filter_cons_of_neg (by simp),List.filter_eq_self.2 h2,List.filter_eq_self.2 h3]
noncomputable def qfE (l:List Pt) (a b:Int):Bool:=open Classical in decide (∃ p∈l,p.a=a∧p.b=b)
theorem qdM {l:List Pt} {a b:Int}:qfE l a b=true↔∃ p∈l,p.a=a∧p.b=b:=by unfold qfE;exact decide_eq_true_iff
theorem qgZ {l:List Pt} {a b:Int} (h:∀ (k:Nat) (p:Pt),l[k]?=some p→¬ (p.a=a∧p.b=b)):qfE l a b=false:=by
 cases e:qfE l a b
 ·rfl
 ·obtain⟨p,hp,he⟩:=qdM.1 e
  obtain⟨k,hk,rfl⟩:=List.getElem_of_mem hp
  exact (h k _ (List.getElem?_eq_getElem hk) he).elim
theorem qwd (x:Int) {l:List Pt} (hn:l.length≤1000000) (a b:Int):Fn 176 1 [qaH 0 x l,.pv (qag a b)] [(0,0,qak l)] (.pv (.bool (qfE l a b))) 0 []:=by
 have step:∀ k,(∀ j,j<k→∀ p,l[j]?=some p→¬ (p.a=a∧p.b=b))→∀ {e:Exit} {tm2:TmL} {hp2:HpL},k≤l.length→
  Rl 1 1 176 0 21 3 [(2,.pp 1 0),(3,.pp 2 0),(5,.pv (iV (k:Int)))] [(1,0,.pv (iV x)),(1,1,.ls 0 l.length),(2,0,.pv (iV a)),(2,1,.pv (iV b)),(0,0,qak l)] e tm2 hp2→
  Rl 1 1 176 0 21 3 [(2,.pp 1 0),(3,.pp 2 0),(5,.pv (iV ((0:Nat):Int)))] [(1,0,.pv (iV x)),(1,1,.ls 0 l.length),(2,0,.pv (iV a)),(2,1,.pv (iV b)),(0,0,qak l)] e tm2 hp2:=by
  intro k hk e tm2 hp2 hkl r
  refine RunsL.rounds (fun j=>[(2,.pp 1 0),(3,.pp 2 0),(5,.pv (iV (j:Int)))]) (fun _=>[(1,0,.pv (iV x)),(1,1,.ls 0 l.length),(2,0,.pv (iV a)),(2,1,.pv (iV b)),(0,0,qak l)]) (N:=k) k 0 (Nat.zero_add _) (fun j _ hj r=>?_) r
  obtain⟨p,hp⟩:=qah (l:=l) (k:=j) (by omega)
  exact qqB hp (qan (qai hp)) (dt (by have:=qai hp;omega)) (qoz (p:=⟨0,a,b⟩) (hk j hj p hp)) (qau (by omega)) r
 rcases qaT (fun j=>∀ p,l[j]?=some p→¬ (p.a=a∧p.b=b)) l.length with h | ⟨j,hj,hb,hf⟩
 ·rw[qgZ fun k p hp=>h k (qai hp) p hp]
  exact qzn (step l.length h (Nat.le_refl _) (qtM (df (by omega))))
 ·simp only[Classical.not_forall,Classical.not_not] at hb
  obtain⟨p,hp,he⟩:=hb
  rw[qdM.2 ⟨p,List.mem_of_getElem? hp,he⟩]
  exact quF (step j hf (by omega) (qup hp (qan hj) (dt (by omega)) (qnR (p:=⟨0,a,b⟩) he)))
end Go.Proofs.YtkjaanhddkkodaaGreat
