/-
  Joined: Kc, Kf, Ki, Kj. Conditions: none.
-/
import Derived.Test.YtkckcgpmnipnaaaGreatW29
import Derived.Test.YtkckcgpmnipnaaaGreatW21
namespace Go.Proofs.YtkckcgpmnipnaaaGreat
set_option maxRecDepth 100000
open Go.RowKit
theorem quw (a:Int):∃ b,Pure Tryz.prog 317 #[iV a] (.bool b)∧(b=true↔0≤a∧a≤65535):=by
 by_cases h0:0≤a
 ·by_cases h1:a≤65535
  ·exact⟨true,qE9 (dt h0) (dt h1),⟨fun _=>⟨h0,h1⟩,fun _=>rfl⟩⟩
  ·exact⟨false,qFQ (dt h0) (df h1),⟨fun h=>(by cases h),fun h=>(h1 h.2).elim⟩⟩
 ·exact⟨false,qGA (df h0),⟨fun h=>(by cases h),fun h=>(h0 h.1).elim⟩⟩
theorem qj4 (a b:Int):Pure Tryz.prog 273 #[qah a b] (.bool (qbC a b)):=by
 obtain⟨u,hu,hu2⟩:=quw a
 obtain⟨v,hv,hv2⟩:=quw b
 cases u
 ·rw[show qbC a b=false by
   cases h:qbC a b
   ·rfl
   ·have:=qbe.1 h;have:=hu2.2 ⟨this.1,this.2.1⟩;cases this]
  exact qH7 hu
 ·cases v
  ·rw[show qbC a b=false by
    cases h:qbC a b
    ·rfl
    ·have:=qbe.1 h;have:=hv2.2 ⟨this.2.2.1,this.2.2.2.1⟩;cases this]
   exact qH5 hu hv
  ·have h1:=hu2.1 rfl
   have h2:=hv2.1 rfl
   by_cases hab:a=b
   ·rw[show qbC a b=false by
     cases h:qbC a b
     ·rfl
     ·exact ((qbe.1 h).2.2.2.2 hab).elim]
    exact qFm hu hv (by simpa using hab)
   ·rw[qbe.2 ⟨h1.1,h1.2,h2.1,h2.2,hab⟩]
    exact qE7 hu hv (by simpa using hab)
def lst (m:List Pt):Int:=match m.getLast? with
 | none=>-1
 | some p=>p.id
theorem qjw:lst [] = -1:=rfl
theorem qeU (m:List Pt) (p:Pt):lst (m++[p])=p.id:=by simp[lst]
abbrev nfT (l:List Pt) (k:Nat) (y:Int):List (Nat×SV):=[(1,.pp 1 0),(3,.pv (iV (y))),(7,.ls 0 l.length),(8,.pv (iV (l.length:Int))),(9,.pv (iV (k:Int)))]
abbrev nfH (x:Int) (l:List Pt):List (Nat×Nat×SV):=[(1,0,.pv (iV x)),(1,1,.ls 0 l.length),(0,0,qam l)]
def Inc (l:List Pt):Prop:=∀ (k:Nat) (p:Pt),l[k]?=some p→lst (l.take k)<p.id
theorem Inc.up {l:List Pt} (h:Inc l):Up l:=fun k p q hp hq=>by
 have:=h (k+1) q hq
 rw[qcv hp,qeU] at this
 exact this
theorem Inc.lo {l:List Pt} (h:Inc l):∀ p∈l,0≤p.id:=by
 have key:∀ (k:Nat) (p:Pt),l[k]?=some p→0≤p.id:=by
  intro k
  induction k with
  | zero=>intro p hp;have:=h 0 p hp;rw[List.take_zero,qjw] at this;omega
  | succ k ih=>
   intro p hp
   obtain⟨q,hq⟩:=qai (l:=l) (k:=k) (by have:=qaj hp;omega)
   have:=ih q hq
   have:=h.up k q p hq hp
   omega
 intro p hp
 obtain⟨k,hk,rfl⟩:=List.getElem_of_mem hp
 exact key k _ (List.getElem?_eq_getElem hk)
theorem Inc.of {l:List Pt} (h:Up l) (h0:∀ p∈l,0≤p.id):Inc l:=fun k p hp=>by
 cases k with
 | zero=>rw[List.take_zero,qjw];have:=h0 p (List.mem_of_getElem? hp);omega
 | succ k=>
  obtain⟨q,hq⟩:=qai (l:=l) (k:=k) (by have:=qaj hp;omega)
  rw[qcv hq,qeU]
  exact h k q p hq hp
theorem Inc.lt {l:List Pt} (h:Inc l) {x:Int}:lst l<x↔(∀ p∈l,p.id<x)∧0≤x:=by
 have hup:=h.up
 have hlo:=h.lo
 rcases List.eq_nil_or_concat l with rfl | ⟨m,q,rfl⟩
 ·rw[qjw];exact⟨fun h=>⟨fun p hp=>by simp at hp,by omega⟩,fun h=>by omega⟩
 ·rw[List.concat_eq_append,qeU]
  rw[List.concat_eq_append] at hup hlo
  refine⟨fun hx=>⟨fun p hp=>?_,by have:=hlo q (by simp);omega⟩,fun hx=>hx.1 q (by simp)⟩
  obtain⟨k,hk,rfl⟩:=List.getElem_of_mem hp
  rcases Nat.lt_or_ge k m.length with h1 | h1
  ·have:=hup.mono h1 (List.getElem?_eq_getElem hk) (show (m++[q])[m.length]?=some q by simp)
   omega
  ·have hkm:k=m.length:=by simp at hk;omega
   subst hkm
   simpa using hx
theorem qCs (x:Int) {l:List Pt} (hn:l.length≤1000000):∃ b,Fn 228 1 [qaS 0 x l] [(0,0,qam l)] (.pv (.bool b)) 0 []∧(b=true↔Inc l∧(∀ p∈l,p.id<x)∧0≤x∧x≤1000000):=by
 have step:∀ k,(∀ j,j<k→∀ p,l[j]?=some p→lst (l.take j)<p.id)→∀ {e:Exit} {tm2:TmL} {hp2:HpL},k≤l.length→
  Rl 1 1 228 0 29 2 (nfT l k (lst (l.take k))) (nfH x l) e tm2 hp2→Rl 1 1 228 0 29 2 (nfT l 0 (-1)) (nfH x l) e tm2 hp2:=by
  intro k hk e tm2 hp2 hkl r
  refine RunsL.rounds (fun j=>nfT l j (lst (l.take j))) (fun _=>nfH x l) (N:=k) k 0 (Nat.zero_add _) (fun j _ hj r=>?_) r
  obtain⟨p,hp⟩:=qai (l:=l) (k:=j) (by omega)
  refine qxX hp (qak (qaj hp)) (dt (by have:=qaj hp;omega)) (df (by have:=hk j hj p hp;omega)) (qal (by omega)) ?_
  have e1:lst (l.take (j+1))=p.id:=by rw[qcv hp,qeU]
  rw[← e1]
  exact r
 rcases qa9 (fun j=>∀ p,l[j]?=some p→lst (l.take j)<p.id) l.length with h | ⟨j,hj,hb,hf⟩
 ·have hi:Inc l:=fun k p hp=>h k (qaj hp) p hp
  have hend:=step l.length (fun j hj=>h j hj) (Nat.le_refl _) (e:=.exit 0) (qCH (df (by omega)))
  rw[List.take_length] at hend
  by_cases h1:lst l<x
  ·by_cases h2:x≤1000000
   ·exact⟨true,qG3 hend (dt h1) (dt h2),⟨fun _=>⟨hi,(hi.lt.1 h1).1,(hi.lt.1 h1).2,h2⟩,fun _=>rfl⟩⟩
   ·exact⟨false,qFb hend (dt h1) (df h2),⟨fun h=>(by cases h),fun h=>(h2 h.2.2.2).elim⟩⟩
  ·exact⟨false,qF5 hend (df h1),⟨fun h=>(by cases h),fun h=>(h1 (hi.lt.2 ⟨h.2.1,h.2.2.1⟩)).elim⟩⟩
 ·simp only[Classical.not_forall,not_imp] at hb
  obtain⟨p,hp,hlt⟩:=hb
  exact⟨false,qEx (step j hf (by omega) (qB5 hp (qak (qaj hp)) (dt (by omega)) (dt (by omega)))),⟨fun h=>(by cases h),fun h=>(hlt (h.1 j p hp)).elim⟩⟩
abbrev cfT (l:List Pt) (k:Nat):List (Nat×SV):=[(3,.mp 1),(9,.ls 0 l.length),(10,.pv (iV (l.length:Int))),(11,.pv (iV (k:Int)))]
abbrev cfH (l m:List Pt):List (Nat×Nat×SV):=[(1,0,.mrow (qaI (m))),(0,0,qam l)]
theorem qp2 {l:List Pt} {k:Nat} {q:Pt} (h:q∈l.take k):∃ i,i<k∧l[i]?=some q:=by
 obtain⟨i,hi,rfl⟩:=List.getElem_of_mem h
 have hi':i<k∧i<l.length:=by simp at hi;omega
 exact⟨i,hi'.1,by rw[List.getElem_take];exact List.getElem?_eq_getElem hi'.2⟩
theorem qr5 {l:List Pt} {i k:Nat} {q:Pt} (h:l[i]?=some q) (hik:i<k):q∈l.take k:=List.mem_of_getElem? (i:=i) (by rw[List.getElem?_take,if_pos hik];exact h)
theorem qDe {l:List Pt} (hn:l.length≤1000000):∃ b,FnL Tryz.prog 229 1 [.ls 0 l.length] [(0,0,qam l)] (.pv (.bool b)) 0 []∧(b=true↔(∀ p∈l,qbC p.a p.b=true)∧Dis l):=by
 have step:∀ k,(∀ j,j<k→∀ p,l[j]?=some p→qbC p.a p.b=true∧∀ q∈l.take j,¬ (q.a=p.a∧q.b=p.b))→∀ {e:Exit} {tm2:TmL} {hp2:HpL},k≤l.length→
  RunsL Tryz.prog 1 1 (qga Tryz.prog 229 0) 29 2 (cfT l k) (cfH l (l.take k)) e tm2 hp2→RunsL Tryz.prog 1 1 (qga Tryz.prog 229 0) 29 2 (cfT l 0) (cfH l []) e tm2 hp2:=by
  intro k hk e tm2 hp2 hkl r
  refine RunsL.rounds (fun j=>cfT l j) (fun j=>cfH l (l.take j)) (N:=k) k 0 (Nat.zero_add _) (fun j _ hj r=>?_) r
  obtain⟨p,hp⟩:=qai (l:=l) (k:=j) (by omega)
  obtain⟨h1,h2⟩:=hk j hj p hp
  refine qxV hp (qak (qaj hp)) (dt (by have:=qaj hp;omega)) (h1▸qj4 p.a p.b) (qhb h2) (qkz h2) (qal (by omega)) ?_
  rw[← qcv hp]
  exact r
 rcases qa9 (fun j=>∀ p,l[j]?=some p→qbC p.a p.b=true∧∀ q∈l.take j,¬ (q.a=p.a∧q.b=p.b)) l.length with h | ⟨j,hj,hb,hf⟩
 ·refine⟨true,qF8 (step l.length (fun j hj=>h j hj) (Nat.le_refl _) (qB3 (df (by omega)))),⟨fun _=>⟨fun p hp=>?_,fun i k p q hik hp hq=>?_⟩,fun _=>rfl⟩⟩
  ·obtain⟨k,hk,rfl⟩:=List.getElem_of_mem hp
   exact (h k hk _ (List.getElem?_eq_getElem hk)).1
  ·exact (h k (qaj hq) q hq).2 p (qr5 hp hik)
 ·simp only[Classical.not_forall,not_imp] at hb
  obtain⟨p,hp,hnp⟩:=hb
  by_cases hv:qbC p.a p.b=true
  ·have:∃ q∈l.take j,q.a=p.a∧q.b=p.b:=Classical.byContradiction fun hno=>hnp ⟨hv,fun q hq e=>hno ⟨q,hq,e⟩⟩
   obtain⟨q,hq,he⟩:=this
   refine⟨false,qDf (step j hf (by omega) (qAc hp (qak hj) (dt (by omega)) (hv▸qj4 p.a p.b) (qjX hq he))),⟨fun h=>(by cases h),fun h=>?_⟩⟩
   obtain⟨i,hi,hq'⟩:=qp2 hq
   exact (h.2 i j q p hi hq' hp he).elim
  ·have hv':qbC p.a p.b=false:=by simpa using hv
   exact⟨false,qDf (step j hf (by omega) (qCA hp (qak hj) (dt (by omega)) (hv'▸qj4 p.a p.b))),⟨fun h=>(by cases h),fun h=>(hv (h.1 p (List.mem_of_getElem? hp))).elim⟩⟩
theorem qmA (x:Int) (l:List Pt):Fn 178 1 [qaS 0 x l] [(0,0,qam l)] (.pv (iV (qzd x l))) 0 []:=by
 by_cases h0:l.length≤200
 ·obtain⟨u,hu,hu2⟩:=qCs x (l:=l) (by omega)
  obtain⟨v,hv,hv2⟩:=qDe (l:=l) (by omega)
  cases u
  ·rw[qbx fun h=>by have:=hu2.2 ⟨Inc.of h.up h.lo,h.hi,h.nx.1,h.nx.2⟩;cases this]
   exact qyF (df (by omega)) hu
  ·cases v
   ·rw[qbx fun h=>by have:=hv2.2 ⟨h.ok,h.dis⟩;cases this]
    exact qyT (df (by omega)) hu hv
   ·obtain⟨a1,a2,a3,a4⟩:=hu2.1 rfl
    obtain⟨b1,b2⟩:=hv2.1 rfl
    rw[qfC ⟨h0,b1,a1.up,a1.lo,a2,⟨a3,a4⟩,b2⟩]
    exact qAS (df (by omega)) hu hv
 ·rw[qbx fun h=>h0 h.len]
  exact qro (dt (by omega))
end Go.Proofs.YtkckcgpmnipnaaaGreat

namespace Go.Proofs.YtkckcgpmnipnaaaGreat
set_option maxRecDepth 100000
open Go.RowKit
theorem qeJ (a b:Int):Pure Tryz.prog 145 #[qah a b] (.bool (qbC a b)):=by
 have no:∀ {P:Prop},¬ P→(qbC a b=true→P)→qbC a b=false:=fun h k=>by
  cases e:qbC a b
  ·rfl
  ·exact (h (k e)).elim
 by_cases h1:0≤a
 ·by_cases h2:a≤65535
  ·by_cases h3:0≤b
   ·by_cases h4:b≤65535
    ·by_cases h5:a=b
     ·rw[no (P:=a≠b) (fun h=>h h5) (fun h=>(qbe.1 h).2.2.2.2)]
      exact qFN (dt h1) (dt h2) (dt h3) (dt h4) (by simpa using h5)
     ·rw[qbe.2 ⟨h1,h2,h3,h4,h5⟩]
      exact qFP (dt h1) (dt h2) (dt h3) (dt h4) (by simpa using h5)
    ·rw[no h4 (fun h=>(qbe.1 h).2.2.2.1)]
     exact qHW (dt h1) (dt h2) (dt h3) (df h4)
   ·rw[no h3 (fun h=>(qbe.1 h).2.2.1)]
    exact qHP (dt h1) (dt h2) (df (by omega))
  ·rw[no h2 (fun h=>(qbe.1 h).2.1)]
   exact qHV (dt h1) (df h2)
 ·rw[no h1 (fun h=>(qbe.1 h).1)]
  exact qH0 (df (by omega))
abbrev qEc (k:Nat):List (Nat×SV):=[(1,.pp 1 0),(3,.pv (iV (k:Int)))]
abbrev qm4 (k j:Nat):List (Nat×SV):=[(1,.pp 1 0),(3,.pv (iV (k:Int))),(4,.pp 2 0),(5,.pv (iV (j:Int)))]
abbrev qDX (x:Int) (l:List Pt):List (Nat×Nat×SV):=[(1,0,.pv (iV x)),(1,1,.ls 0 l.length),(0,0,qam l)]
abbrev qoa (x:Int) (l:List Pt) (p:Pt):List (Nat×Nat×SV):=[(1,0,.pv (iV x)),(1,1,.ls 0 l.length),(2,0,.pv (iV p.id)),(2,1,.pv (iV p.a)),(2,2,.pv (iV p.b)),(0,0,qam l)]
theorem qmt {p q:Pt} (h:¬ (q.a=p.a∧q.b=p.b)):(q.a==p.a&&(q.b==p.b&&true))=false:=by
 rw[Bool.and_true]
 cases e:(q.a==p.a&&q.b==p.b)
 ·rfl
 ·rw[Bool.and_eq_true,beq_iff_eq,beq_iff_eq] at e;exact (h e).elim
theorem qob {p q:Pt} (h:q.a=p.a∧q.b=p.b):(q.a==p.a&&(q.b==p.b&&true))=true:=by rw[h.1,h.2];simp
theorem qj7 {x:Int} {l:List Pt} {p:Pt} {k:Nat} (hn:l.length≤1000000) (hkl:k≤l.length) {j:Nat} (hj:j≤k) (h:∀ i,i<j→∀ q,l[i]?=some q→¬ (q.a=p.a∧q.b=p.b)) {e:Exit} {tm2:TmL} {hp2:HpL}
 (r:Rl 1 1 121 1 78 3 (qm4 k j) (qoa x l p) e tm2 hp2):Rl 1 1 121 1 78 3 (qm4 k 0) (qoa x l p) e tm2 hp2:=by
 refine RunsL.rounds (fun i=>qm4 k i) (fun _=>qoa x l p) (N:=j) j 0 (Nat.zero_add _) (fun i _ hi r=>?_) r
 obtain⟨q,hq⟩:=qai (l:=l) (k:=i) (by omega)
 exact qmL hq (qak (qaj hq)) (dt (by omega)) (qmt (h i hi q hq)) (qal (by omega)) r
theorem qt4 {x:Int} {l:List Pt} {p:Pt} {k:Nat} (hn:l.length≤1000000) (hkl:k≤l.length) (h:∀ i,i<k→∀ q,l[i]?=some q→¬ (q.a=p.a∧q.b=p.b)) :
 Rl 1 1 121 1 78 3 (qm4 k 0) (qoa x l p) (.exit 2) (qEc k) (qDX x l):=
 qj7 hn hkl (Nat.le_refl k) h (qqE (df (by omega)))
theorem qyS {x:Int} {l:List Pt} {p:Pt} {k:Nat} (hn:l.length≤1000000) (hkl:k≤l.length) (h:¬ ∀ i,i<k→∀ q,l[i]?=some q→¬ (q.a=p.a∧q.b=p.b)) :
 Rl 1 1 121 1 78 3 (qm4 k 0) (qoa x l p) .ret [(2,.pv (iV 8))] []:=by
 rcases qa9 (fun i=>∀ q,l[i]?=some q→¬ (q.a=p.a∧q.b=p.b)) k with h1 | ⟨j,hj,hb,hf⟩
 ·exact (h h1).elim
 ·simp only[Classical.not_forall,Classical.not_not] at hb
  obtain⟨q,hq,he⟩:=hb
  exact qj7 hn hkl (by omega) hf (qsC hq (qak (qaj hq)) (dt (by omega)) (qob he))
def At8 (x:Int) (l:List Pt) (k:Nat):Prop:=∀ p,l[k]?=some p→qbC p.a p.b=true∧0≤p.id∧p.id<x∧(∀ j q,k=j+1→l[j]?=some q→q.id<p.id)∧∀ i,i<k→∀ q,l[i]?=some q→¬ (q.a=p.a∧q.b=p.b)
theorem qmy (x:Int) (l:List Pt):FnL Tryz.prog 121 1 [qaS 0 x l] [(0,0,qam l)] (.pv (.int .i64 (qzd x l))) 0 []:=by
 by_cases h0:l.length≤200
 ·by_cases h1:0≤x
  ·by_cases h2:x≤1000000
   ·have step:∀ k,(∀ j,j<k→At8 x l j)→∀ {e:Exit} {tm2:TmL} {hp2:HpL},k≤l.length→
     RunsL Tryz.prog 1 1 (qga Tryz.prog 121 0) 78 2 (qEc k) (qDX x l) e tm2 hp2→RunsL Tryz.prog 1 1 (qga Tryz.prog 121 0) 78 2 (qEc 0) (qDX x l) e tm2 hp2:=by
     intro k hk e tm2 hp2 hkl r
     refine RunsL.rounds (fun j=>qEc j) (fun _=>qDX x l) (N:=k) k 0 (Nat.zero_add _) (fun j _ hj r=>?_) r
     obtain⟨p,hp⟩:=qai (l:=l) (k:=j) (by omega)
     obtain⟨a1,a2,a3,a4,a5⟩:=hk j hj p hp
     have hjl:=qaj hp
     cases j with
     | zero=>exact qEW (hk:=hp) (hin:=qak hjl) (hlt:=dt (by omega)) (hv:=a1▸qeJ p.a p.b) (h1:=df (by omega)) (h2:=df (by omega)) (hz:=df (by omega)) (r1:=qt4 (by omega) (by omega) a5) (hs:=qal (by omega)) r
     | succ i=>
      obtain⟨q,hq⟩:=qai (l:=l) (k:=i) (by omega)
      exact qGf (hk:=hp) (hin:=qak hjl) (hlt:=dt (by omega)) (hv:=a1▸qeJ p.a p.b) (h1:=df (by omega)) (h2:=df (by omega)) (hz:=dt (by omega)) (hq:=hq) (hin0:=qak (qaj hq)) (hm:=qbM i (by omega)) (hg:=df (by have:=a4 i q rfl hq;omega)) (r1:=qt4 (by omega) (by omega) a5) (hs:=qal (by omega)) r
    rcases qa9 (At8 x l) l.length with h | ⟨j,hj,hb,hf⟩
    ·have hv:V8 x l:=⟨h0,fun p hp=>by
      obtain⟨k,hk,rfl⟩:=List.getElem_of_mem hp
      exact (h k hk _ (List.getElem?_eq_getElem hk)).1,fun k p q hp hq=>(h (k+1) (qaj hq) q hq).2.2.2.1 k p rfl hp,fun p hp=>by
      obtain⟨k,hk,rfl⟩:=List.getElem_of_mem hp
      exact (h k hk _ (List.getElem?_eq_getElem hk)).2.1,fun p hp=>by
      obtain⟨k,hk,rfl⟩:=List.getElem_of_mem hp
      exact (h k hk _ (List.getElem?_eq_getElem hk)).2.2.1,⟨h1,h2⟩,fun i k p q hik hp hq=>(h k (qaj hq) q hq).2.2.2.2 i hik p hp⟩
     rw[qfC hv]
     exact qCp (df (by omega)) (df (by omega)) (df (by omega)) (step l.length h (Nat.le_refl _) (qx9 (df (by omega))))
    ·rw[qbx fun hv=>hb fun p hp=>⟨hv.ok p (List.mem_of_getElem? hp),hv.lo p (List.mem_of_getElem? hp),hv.hi p (List.mem_of_getElem? hp),fun i q e hq=>by subst e;exact hv.up i q p hq hp,fun i hi q hq=>hv.dis i j q p hi hq hp⟩]
     refine qyE (df (by omega)) (df (by omega)) (df (by omega)) (step j hf (by omega) ?_)
     obtain⟨p,hp⟩:=qai hj
     by_cases c1:qbC p.a p.b=true
     ·by_cases c2:0≤p.id
      ·by_cases c3:p.id<x
       ·cases j with
        | zero=>exact (hb fun p' hp'=>by rw[hp] at hp';cases hp';exact⟨c1,c2,c3,fun i q e=>by omega,fun i hi=>by omega⟩).elim
        | succ i=>
         obtain⟨q,hq⟩:=qai (l:=l) (k:=i) (by omega)
         by_cases c4:q.id<p.id
         ·refine qnv (hk:=hp) (hin:=qak hj) (hlt:=dt (by omega)) (hv:=c1▸qeJ p.a p.b) (h1:=df (by omega)) (h2:=df (by omega)) (hz:=dt (by omega)) (hq:=hq) (hin0:=qak (qaj hq)) (hm:=qbM i (by omega)) (hg:=df (by omega)) (r1:=qyS (by omega) (by omega) fun hno=>hb fun p' hp'=>?_)
          rw[hp] at hp';cases hp'
          exact⟨c1,c2,c3,fun i' q' e hq'=>by cases e;rw[hq] at hq';cases hq';exact c4,hno⟩
         ·exact qEL (hk:=hp) (hin:=qak hj) (hlt:=dt (by omega)) (hv:=c1▸qeJ p.a p.b) (h1:=df (by omega)) (h2:=df (by omega)) (hz:=dt (by omega)) (hq:=hq) (hin0:=qak (qaj hq)) (hm:=qbM i (by omega)) (hg:=dt (by omega))
       ·exact qEo (hk:=hp) (hin:=qak hj) (hlt:=dt (by omega)) (hv:=c1▸qeJ p.a p.b) (h1:=df (by omega)) (h2:=dt (by omega))
      ·exact qFM (hk:=hp) (hin:=qak hj) (hlt:=dt (by omega)) (hv:=c1▸qeJ p.a p.b) (h1:=dt (by omega))
     ·have c1':qbC p.a p.b=false:=by simpa using c1
      exact qGh (hk:=hp) (hin:=qak hj) (hlt:=dt (by omega)) (hv:=c1'▸qeJ p.a p.b)
   ·rw[qbx fun h=>h2 h.nx.2]
    exact qxO (df (by omega)) (df (by omega)) (dt (by omega))
  ·rw[qbx fun h=>h1 h.nx.1]
   exact qx8 (df (by omega)) (dt (by omega))
 ·rw[qbx fun h=>h0 h.len]
  exact qsw (dt (by omega))
theorem qhw (x:Int) {l:List Pt} (hn:l.length≤1000000):Fn 71 1 [qaS 0 x l] [(0,0,qam l)] (.ag [.pv (iV x),.ls 1 l.length]) 1 [(1,0,qam l)]:=qp5 (by omega)
theorem qtw (x:Int) {l:List Pt} (hn:l.length≤1000000):Fn 79 2 [qaS 0 x l,qaS 1 x l] [(0,0,qam l),(1,0,qam l)] (.pv (.bool true)) 0 []:=
 qvD (by simp) (by simp) (RunsL.rounds (fun k=>[(2,.pp 2 0),(3,.pp 3 0),(5,.pv (iV (k:Int)))]) (fun _=>[(2,0,.pv (iV x)),(2,1,.ls 0 l.length),(3,0,.pv (iV x)),(3,1,.ls 1 l.length),(0,0,qam l),(1,0,qam l)]) l.length 0 (Nat.zero_add _)
  (fun k _ hk r=>by
   obtain⟨p,hp⟩:=qai hk
   exact qry hp (qak hk) hp (qak hk) (dt (by omega)) (by simp) (qal (by omega)) r)
  (qxq (df (by omega))))
theorem qCu {l:List Pt} (hu:Up l) {i j:Nat} {p q:Pt} (hp:l[i]?=some p) (hq:l[j]?=some q) (h:p.id=q.id):i=j∧p=q:=by
 rcases Nat.lt_trichotomy i j with e | e | e
 ·have:=hu.mono e hp hq;omega
 ·subst e;rw[hp] at hq;cases hq;exact⟨rfl,rfl⟩
 ·have:=hu.mono e hq hp;omega
noncomputable def qeN (l:List Pt) (a b:Int):Bool:=open Classical in decide (∃ p∈l,p.a=a∧p.b=b)
theorem qdN {l:List Pt} {a b:Int}:qeN l a b=true↔∃ p∈l,p.a=a∧p.b=b:=by unfold qeN;exact decide_eq_true_iff
theorem qgA {l:List Pt} {a b:Int} (h:∀ (k:Nat) (p:Pt),l[k]?=some p→¬ (p.a=a∧p.b=b)):qeN l a b=false:=by
 cases e:qeN l a b
 ·rfl
 ·obtain⟨p,hp,he⟩:=qdN.1 e
  obtain⟨k,hk,rfl⟩:=List.getElem_of_mem hp
  exact (h k _ (List.getElem?_eq_getElem hk) he).elim
theorem qi6 (x:Int) {l:List Pt} (hn:l.length≤1000000) (a b:Int):Fn 126 1 [qaS 0 x l,.pv (qah a b)] [(0,0,qam l)] (.pv (.bool (qeN l a b))) 0 []:=by
 have step:∀ k,(∀ j,j<k→∀ p,l[j]?=some p→¬ (p.a=a∧p.b=b))→∀ {e:Exit} {tm2:TmL} {hp2:HpL},k≤l.length→
  Rl 1 1 126 0 21 3 [(2,.pp 1 0),(3,.pp 2 0),(5,.pv (iV (k:Int)))] [(1,0,.pv (iV x)),(1,1,.ls 0 l.length),(2,0,.pv (iV a)),(2,1,.pv (iV b)),(0,0,qam l)] e tm2 hp2→
  Rl 1 1 126 0 21 3 [(2,.pp 1 0),(3,.pp 2 0),(5,.pv (iV ((0:Nat):Int)))] [(1,0,.pv (iV x)),(1,1,.ls 0 l.length),(2,0,.pv (iV a)),(2,1,.pv (iV b)),(0,0,qam l)] e tm2 hp2:=by
  intro k hk e tm2 hp2 hkl r
  refine RunsL.rounds (fun j=>[(2,.pp 1 0),(3,.pp 2 0),(5,.pv (iV (j:Int)))]) (fun _=>[(1,0,.pv (iV x)),(1,1,.ls 0 l.length),(2,0,.pv (iV a)),(2,1,.pv (iV b)),(0,0,qam l)]) (N:=k) k 0 (Nat.zero_add _) (fun j _ hj r=>?_) r
  obtain⟨p,hp⟩:=qai (l:=l) (k:=j) (by omega)
  exact qrE hp (qak (qaj hp)) (dt (by have:=qaj hp;omega)) (qmt (p:=⟨0,a,b⟩) (hk j hj p hp)) (qal (by omega)) r
 rcases qa9 (fun j=>∀ p,l[j]?=some p→¬ (p.a=a∧p.b=b)) l.length with h | ⟨j,hj,hb,hf⟩
 ·rw[qgA fun k p hp=>h k (qaj hp) p hp]
  exact qA6 (step l.length h (Nat.le_refl _) (qvv (df (by omega))))
 ·simp only[Classical.not_forall,Classical.not_not] at hb
  obtain⟨p,hp,he⟩:=hb
  rw[qdN.2 ⟨p,List.mem_of_getElem? hp,he⟩]
  exact qwt (step j hf (by omega) (qyp hp (qak hj) (dt (by omega)) (qob (p:=⟨0,a,b⟩) he)))
end Go.Proofs.YtkckcgpmnipnaaaGreat

namespace Go.Proofs.YtkckcgpmnipnaaaGreat
set_option maxRecDepth 100000
open Go.RowKit
abbrev qIb:Value:=.agg #[iV 0,.slice none 0 0]
theorem qfY {a b c:Int} (h:a+b=c) (h0:0≤c) (h1:c≤2000000):iV (IntKind.i64.wrap (a+b))=iV c:=by rw[h,qap (by omega) (by omega)]
abbrev quk (f:FuncId) (x:Int) (l:List Pt) (a b e:Int):Prop:=Fn f 1 [qaS 0 x l,.pv (qah a b)] [(0,0,qam l)] (.pv (.tuple #[qIb,iV 0,iV e])) 0 []
abbrev qzw (f:FuncId) (x:Int) (l:List Pt) (a b:Int):Prop:=Fn f 1 [qaS 0 x l,.pv (qah a b)] [(0,0,qam l)] (.tu [.ag [.pv (iV (x+1)),.ls 1 (l++[Pt.mk x a b]).length],.one (.pv (iV x)),.one (.pv (iV 0))]) 1 [(1,0,qam (l++[Pt.mk x a b]))]
theorem qCI {l:List Pt} (hn:l.length≤210) (a b:Int):Fn 274 2 [.ls 0 l.length,.pc 275 [.pp 1 0]] [(0,0,qam l),(1,0,.pv (iV a)),(1,1,.pv (iV b))] (.pv (.bool (qeN l a b))) 0 []:=by
 have step:∀ k,(∀ j,j<k→∀ p,l[j]?=some p→¬ (p.a=a∧p.b=b))→∀ {e:Exit} {tm2:TmL} {hp2:HpL},k≤l.length→
  Rl 2 2 318 0 19 2 [(0,.ls 0 l.length),(1,.pc 275 [.pp 1 0]),(7,.pv (iV (l.length:Int))),(8,.pv (iV (k:Int)))] [(0,0,qam l),(1,0,.pv (iV a)),(1,1,.pv (iV b))] e tm2 hp2→
  Rl 2 2 318 0 19 2 [(0,.ls 0 l.length),(1,.pc 275 [.pp 1 0]),(7,.pv (iV (l.length:Int))),(8,.pv (iV ((0:Nat):Int)))] [(0,0,qam l),(1,0,.pv (iV a)),(1,1,.pv (iV b))] e tm2 hp2:=by
  intro k hk e tm2 hp2 hkl r
  refine RunsL.rounds (fun j=>[(0,.ls 0 l.length),(1,.pc 275 [.pp 1 0]),(7,.pv (iV (l.length:Int))),(8,.pv (iV (j:Int)))]) (fun _=>[(0,0,qam l),(1,0,.pv (iV a)),(1,1,.pv (iV b))]) (N:=k) k 0 (Nat.zero_add _) (fun j _ hj r=>?_) r
  obtain⟨p,hp⟩:=qai (l:=l) (k:=j) (by omega)
  exact qst hp (qak (qaj hp)) (dt (by have:=qaj hp;omega)) (qmt (p:=⟨0,a,b⟩) (hk j hj p hp)) (qal (by omega)) r
 rcases qa9 (fun j=>∀ p,l[j]?=some p→¬ (p.a=a∧p.b=b)) l.length with h | ⟨j,hj,hb,hf⟩
 ·rw[qgA fun k p hp=>h k (qaj hp) p hp]
  exact qAO (qCC (step l.length h (Nat.le_refl _) (qyD (df (by omega)))))
 ·simp only[Classical.not_forall,Classical.not_not] at hb
  obtain⟨p,hp,he⟩:=hb
  rw[qdN.2 ⟨p,List.mem_of_getElem? hp,he⟩]
  exact qvw (k:=j) (quV (step j hf (by omega) (qyP hp (qak hj) (dt (by omega)) (qob (p:=⟨0,a,b⟩) he)))) (dt (by omega))
noncomputable def quj (l:List Pt) (a b:Int):Int:=if qbC a b=true then (if qeN l a b=true then 14 else 0) else 8
def qis (x:Int) (l:List Pt):Int:=if l.length=200∨x=1000000 then 18 else 0
theorem qBo (x:Int) {l:List Pt} (hn:l.length≤210) (a b:Int):Fn 221 1 [qaS 0 x l,.pv (qah a b)] [(0,0,qam l)] (.pv (iV (quj l a b))) 0 []:=by
 have h1:=qj4 a b
 have h2:=qCI hn a b
 unfold quj
 cases c:qbC a b
 ·rw[c] at h1;rw[if_neg (by decide)];exact qxS h1
 ·rw[c] at h1
  rw[if_pos rfl]
  cases d:qeN l a b
  ·rw[d] at h2;rw[if_neg (by decide)];exact qAM h1 h2
  ·rw[d] at h2;rw[if_pos rfl];exact qyK h1 h2
theorem qoo (x:Int) (l:List Pt):Fn 222 1 [qaS 0 x l] [(0,0,qam l)] (.pv (iV (qis x l))) 0 []:=by
 unfold qis
 by_cases h1:l.length=200
 ·rw[if_pos (Or.inl h1)];exact qp3 (by simp[h1])
 ·by_cases h2:x=1000000
  ·rw[if_pos (Or.inr h2)];exact qpL (by simp;omega) (by simp[h2])
  ·rw[if_neg (by omega)];exact qCr (by simp;omega) (by simp[h2])
theorem qH6 {l:List Pt} (hn:l.length≤210) (x a b:Int):Fn 223 3 [.ps 2 0 2 2] [(2,0,.ls 0 l.length),(2,1,.ps 1 0 1 1),(1,0,.pv (iV x)),(1,1,.pv (iV a)),(1,2,.pv (iV b)),(0,0,qam l)] (.ls 3 (l++[Pt.mk x a b]).length) 1 [(3,0,qam (l++[Pt.mk x a b]))]:=
 qH9 (s1:=(l.length:Int)) (s2:=((l.length+1:Nat):Int)) (q1:=qfY (by omega) (by omega) (by omega)) (n1:=df (by omega)) (q2:=qfY (by omega) (by omega) (by omega)) (n2:=df (by omega))
  (hgr:=qFJ (h0:=df (by omega)) (hs:=by rw[qap (by omega) (by omega)];congr 1<;>omega) (hg:=dt (by omega)) (a0:=by omega) (a1:=by omega)) (a1:=by omega) (a2:=by omega)
def qHY (x:Int) (l:List Pt) (a b e:Int):Prop:=(e=8∧(¬ V8 x l∨¬ qbC a b=true))∨(e=14∧V8 x l∧qbC a b=true∧qeN l a b=true)∨(e=18∧V8 x l∧qbC a b=true∧qeN l a b=false∧(l.length=200∨x=1000000))
theorem qgC (x:Int) {l:List Pt} (hn:l.length≤210) (a b:Int):(∃ e,quk 176 x l a b e∧quk 199 x l a b e∧qHY x l a b e)∨
 (V8 x l∧qbC a b=true∧qeN l a b=false∧l.length<200∧x<1000000∧qzw 176 x l a b∧qzw 199 x l a b):=by
 have p1:=qmA x l
 have p2:=qBo x hn a b
 have p3:=qoo x l
 have r1:=qmy x l
 have r2:=qeJ a b
 have r3:=qi6 x (l:=l) (by omega) a b
 by_cases hv:V8 x l
 ·rw[qfC hv] at p1 r1
  cases hc:qbC a b
  ·rw[hc] at r2
   have e2:quj l a b=8:=by unfold quj;rw[hc,if_neg (by decide)]
   rw[e2] at p2
   exact Or.inl ⟨8,qt0 (c1:=p1) (c2:=p2) (c3:=p3) (he:=by decide),qxd (hc:=r1) (hv:=r2),Or.inl ⟨rfl,Or.inr (by rw[hc];decide)⟩⟩
  ·rw[hc] at r2
   cases hh:qeN l a b
   ·rw[hh] at r3
    have e2:quj l a b=0:=by unfold quj;rw[hc,if_pos rfl,hh,if_neg (by decide)]
    rw[e2] at p2
    by_cases hf:l.length=200
    ·have e3:qis x l=18:=by unfold qis;rw[if_pos (Or.inl hf)]
     rw[e3] at p3
     exact Or.inl ⟨18,qud (c1:=p1) (c2:=p2) (c3:=p3) (he:=by decide),qrQ (hc:=r1) (hv:=r2) (hh:=r3) (hf:=by simp;omega),Or.inr (Or.inr ⟨rfl,hv,hc,hh,Or.inl hf⟩)⟩
    ·by_cases hw:x=1000000
     ·have e3:qis x l=18:=by unfold qis;rw[if_pos (Or.inr hw)]
      rw[e3] at p3
      exact Or.inl ⟨18,qud (c1:=p1) (c2:=p2) (c3:=p3) (he:=by decide),qtO (hc:=r1) (hv:=r2) (hh:=r3) (hf:=by simp;omega) (hu:=by simp[hw]),Or.inr (Or.inr ⟨rfl,hv,hc,hh,Or.inr hw⟩)⟩
     ·have e3:qis x l=0:=by unfold qis;rw[if_neg (by omega)]
      rw[e3] at p3
      have hl:=hv.len
      have hx:=hv.nx
      have hy:iV (IntKind.i64.wrap (x+1))=iV (x+1):=qfY rfl (by omega) (by omega)
      refine Or.inr ⟨hv,rfl,rfl,by omega,by omega,qAK (c1:=p1) (c2:=p2) (c3:=p3) (hcat:=qH6 hn x a b) (hy:=hy),qDi (hc:=r1) (hv:=r2) (hh:=r3) (hf:=by simp;omega) (hu:=by simpa using hw) (ht:=qhw x (by omega)) (hn:=by omega) (hy:=hy)⟩
   ·rw[hh] at r3
    have e2:quj l a b=14:=by unfold quj;rw[hc,if_pos rfl,hh,if_pos rfl]
    rw[e2] at p2
    exact Or.inl ⟨14,qt0 (c1:=p1) (c2:=p2) (c3:=p3) (he:=by decide),qyM (hc:=r1) (hv:=r2) (hh:=r3),Or.inr (Or.inl ⟨rfl,hv,hc,hh⟩)⟩
 ·rw[qbx hv] at p1 r1
  exact Or.inl ⟨8,qBH (c1:=p1) (c2:=p2) (c3:=p3) (he:=by decide),qwg (hc:=r1),Or.inl ⟨rfl,Or.inl hv⟩⟩
end Go.Proofs.YtkckcgpmnipnaaaGreat

namespace Go.Proofs.YtkckcgpmnipnaaaGreat
set_option maxRecDepth 100000
open Go.RowKit
theorem qxa {s:List Pt} (hs:Val s) {p q:Pt} (hp:p∈s) (hq:q∈s) (h:p.id=q.id):p=q:=by
 obtain⟨i,hi,rfl⟩:=List.getElem_of_mem hp
 obtain⟨j,hj,rfl⟩:=List.getElem_of_mem hq
 exact (qCu hs.up (List.getElem?_eq_getElem hi) (List.getElem?_eq_getElem hj) h).2
def qcS (s:List Pt) (i:Int):Pt:=(s.find? fun q=>q.id==i).getD ⟨0,0,0⟩
theorem qcj {s:List Pt} (hs:Val s) {q:Pt} (hq:q∈s):qcS s q.id=q:=by
 unfold qcS
 cases h:s.find? fun r=>r.id==q.id with
 | none=>have:=List.find?_eq_none.1 h q hq;simp at this
 | some r=>
  have h1:=List.mem_of_find?_eq_some h
  have h2:=List.find?_some h
  simp only[beq_iff_eq] at h2
  exact qxa hs h1 hq h2
def qgN (s:List Pt) (tn td:Int) (p:Pt):Bool:=qbp ((qcS s p.b).a*td+(qcS s p.b).b*tn) ((qcS s p.a).a*td+(qcS s p.a).b*tn) (qcS s p.b).b (qcS s p.a).b (qcS s p.b).id (qcS s p.a).id
def qdw (l s:List Pt):Prop:=∀ p∈l,(∃ q∈s,q.id=p.a)∧∃ g∈s,g.id=p.b
noncomputable def qig (l s:List Pt):Bool:=open Classical in decide (qdw l s)
open Classical in
theorem qej {l s:List Pt}:qig l s=true↔qdw l s:=by unfold qig;exact decide_eq_true_iff
theorem qij {l s:List Pt} (h:¬ qdw l s):qig l s=false:=by
 cases e:qig l s
 ·rfl
 ·exact (h (qej.1 e)).elim
theorem qtT {l s:List Pt} {tn td:Int} (hs:Val s) (hk:qdw l s) (ho:∀ p∈l,qbC p.a p.b=true) {p:Pt} (hp:p∈l):∃ q g,q∈s∧g∈s∧q.id=p.a∧g.id=p.b∧g.id≠q.id∧qgN s tn td p=qbp (g.a*td+g.b*tn) (q.a*td+q.b*tn) g.b q.b g.id q.id:=by
 obtain⟨⟨q,hq,hqa⟩,⟨g,hg,hgb⟩⟩:=hk p hp
 refine⟨q,g,hq,hg,hqa,hgb,fun e=>?_,?_⟩
 ·exact (qbe.1 (ho p hp)).2.2.2.2 (by omega)
 ·unfold qgN
  rw[← hqa,← hgb,qcj hs hq,qcj hs hg]
section
variable {tn td:Int} (htn:I64 tn) (htd:I64 td)
theorem qe7 {s:List Pt} (hs:Val s) (i:Int):∃ u,Fn 61 1 [qas 0 s,.pv (iV i)] [(0,0,qad s)] (.pv (iV u)) 0 []∧((u<0∧¬ ∃ q∈s,q.id=i)∨∃ (k:Nat) (q:Pt),u=(k:Int)∧s[k]?=some q∧q.id=i):=by
 rcases place s hs i with ⟨k,q,hk,he⟩ | ⟨hno,_⟩
 ·exact⟨k,qe4 hs hk he,Or.inr ⟨k,q,rfl,hk,he⟩⟩
 ·exact⟨-1,qGn hs.len hno,Or.inl ⟨by omega,fun ⟨q,hq,he⟩=>hno q hq he⟩⟩
theorem qAa (x:Int) {l s:List Pt} (hn:l.length≤210) (hs:Val s):Fn 122 2 [qaS 0 x l,qas 1 s] [(0,0,qam l),(1,0,qad s)] (.pv (.bool (qig l s))) 0 []:=by
 have step:∀ k,(∀ j,j<k→∀ p,l[j]?=some p→(∃ q∈s,q.id=p.a)∧∃ g∈s,g.id=p.b)→∀ {e:Exit} {tm2:TmL} {hp2:HpL},k≤l.length→
  Rl 2 2 122 0 35 4 [(2,.pp 2 0),(3,.pp 3 0),(5,.pv (iV (k:Int)))] [(2,0,.pv (iV x)),(2,1,.ls 0 l.length),(3,0,.ls 1 s.length),(0,0,qam l),(1,0,qad s)] e tm2 hp2→
  Rl 2 2 122 0 35 4 [(2,.pp 2 0),(3,.pp 3 0),(5,.pv (iV ((0:Nat):Int)))] [(2,0,.pv (iV x)),(2,1,.ls 0 l.length),(3,0,.ls 1 s.length),(0,0,qam l),(1,0,qad s)] e tm2 hp2:=by
  intro k hk e tm2 hp2 hkl r
  refine RunsL.rounds (fun j=>[(2,.pp 2 0),(3,.pp 3 0),(5,.pv (iV (j:Int)))]) (fun _=>[(2,0,.pv (iV x)),(2,1,.ls 0 l.length),(3,0,.ls 1 s.length),(0,0,qam l),(1,0,qad s)]) (N:=k) k 0 (Nat.zero_add _) (fun j _ hj r=>?_) r
  obtain⟨p,hp⟩:=qai (l:=l) (k:=j) (by omega)
  obtain⟨h1,h2⟩:=hk j hj p hp
  obtain⟨u,a1,a2⟩:=qe7 hs p.a
  obtain⟨v,b1,b2⟩:=qe7 hs p.b
  rcases a2 with ⟨_,a2⟩ | ⟨i,q,rfl,_⟩
  ·exact (a2 h1).elim
  ·rcases b2 with ⟨_,b2⟩ | ⟨i',g,rfl,_⟩
   ·exact (b2 h2).elim
   ·exact qtM (hk:=hp) (hin:=qak (qaj hp)) (hlt:=dt (by have:=qaj hp;omega)) (ha:=a1) (h1:=df (by omega)) (hb:=b1) (h2:=df (by omega)) (hs:=qal (by omega)) r
 rcases qa9 (fun j=>∀ p,l[j]?=some p→(∃ q∈s,q.id=p.a)∧∃ g∈s,g.id=p.b) l.length with h | ⟨j,hj,hb,hf⟩
 ·rw[qej.2 fun p hp=>by
   obtain⟨k,hk,rfl⟩:=List.getElem_of_mem hp
   exact h k hk _ (List.getElem?_eq_getElem hk)]
  exact qvZ (r0:=step l.length h (Nat.le_refl _) (qxv (hge:=df (by omega))))
 ·simp only[Classical.not_forall] at hb
  obtain⟨p,hp,hnp⟩:=hb
  rw[qij fun h=>hnp (h p (List.mem_of_getElem? hp))]
  refine qBl (r0:=step j hf (by omega) ?_)
  obtain⟨u,a1,a2⟩:=qe7 hs p.a
  obtain⟨v,b1,b2⟩:=qe7 hs p.b
  rcases a2 with ⟨a2,_⟩ | ⟨i,q,rfl,hq,hqa⟩
  ·exact qAk (hk:=hp) (hin:=qak hj) (hlt:=dt (by omega)) (ha:=a1) (h1:=dt a2)
  ·rcases b2 with ⟨b2,_⟩ | ⟨i',g,rfl,hg,hgb⟩
   ·exact qAl (hk:=hp) (hin:=qak hj) (hlt:=dt (by omega)) (ha:=a1) (h1:=df (by omega)) (hb:=b1) (h2:=dt b2)
   ·exact (hnp ⟨⟨q,List.mem_of_getElem? hq,hqa⟩,⟨g,List.mem_of_getElem? hg,hgb⟩⟩).elim
theorem qAi {l s:List Pt} (hs:Val s) (hk:qdw l s) (ho:∀ p∈l,qbC p.a p.b=true) (htn:I64 tn) (htd:I64 td) {p:Pt} (hp:p∈l):Fn 49 1 [.pv (qah p.a p.b),qas 0 s,.pv (qaa tn td)] [(0,0,qad s)] (.pv (.bool (qgN s tn td p))) 0 []:=by
 obtain⟨q,g,hq,hg,hqa,hgb,hne,he⟩:=qtT (tn:=tn) (td:=td) hs hk ho hp
 rw[he]
 obtain⟨j,hj,rfl⟩:=List.getElem_of_mem hq
 obtain⟨i,hi,rfl⟩:=List.getElem_of_mem hg
 exact qqL (hr:=List.getElem?_eq_getElem hi) (hq:=List.getElem?_eq_getElem hj) (hi:=qak hi) (hj:=qak hj) (ha:=qe4 hs (List.getElem?_eq_getElem hi) hgb) (hb:=qe4 hs (List.getElem?_eq_getElem hj) hqa) (hl:=qgQ htn htd (hs.ok _ (List.getElem_mem hi)) (hs.ok _ (List.getElem_mem hj)))
theorem qjc {s:List Pt} {tn td:Int} (h:tE s tn td=0):Val s∧okB tn td=true:=by
 unfold tE at h
 by_cases h1:qf7 s=0
 ·rw[if_pos h1] at h
  by_cases h2:okB tn td=true
  ·exact⟨qc0.1 h1,h2⟩
  ·rw[if_neg h2] at h;omega
 ·rw[if_neg h1] at h;exact (h1 h).elim
include htn htd in
end
end Go.Proofs.YtkckcgpmnipnaaaGreat
