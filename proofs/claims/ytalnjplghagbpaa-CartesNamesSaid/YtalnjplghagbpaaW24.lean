/-
  Joined: Fm, Fn, Fr, Fs. Conditions: none.
-/
import Derived.Test.YtalnjplghagbpaaW23
import Derived.Test.YtalnjplghagbpaaW22
import Derived.Test.YtalnjplghagbpaaW19
import Derived.Test.YtalnjplghagbpaaW20
namespace Go.Proofs.Ytalnjplghagbpaa
set_option maxRecDepth 100000
open Go.RowKit
def qhe (p:Pt):Bool:=okP p.id p.a p.b
def Up (l:List Pt):Prop:=∀ (k:Nat) (p q:Pt),l[k]?=some p→l[k+1]?=some q→p.id<q.id
noncomputable def qec (l:List Pt):Int:=open Classical in if 64<l.length then 4 else if ∀ p∈l,qhe p=true then (if Up l then 0 else 32) else 8
theorem qaT (P:Nat→Prop):∀ (N:Nat),(∀ k,k<N→P k)∨∃ j,j<N∧¬ P j∧∀ i,i<j→P i
 | 0=>Or.inl fun k hk=>by omega
 | N+1=>by
  rcases qaT P N with h | ⟨j,h1,h2⟩
  ·by_cases hN:P N
   ·exact Or.inl fun k hk=>by
     rcases Nat.lt_or_ge k N with h' | h'
     ·exact h k h'
     ·have:k=N:=by omega
      subst this;exact hN
   ·exact Or.inr ⟨N,by omega,hN,h⟩
  ·exact Or.inr ⟨j,by omega,h2⟩
theorem qao {α:Type} {l:List α} {k:Nat} (h:k<l.length):∃ p,l[k]?=some p:=⟨l[k],List.getElem?_eq_getElem h⟩
theorem qak {α:Type} {l:List α} {k:Nat} {p:α} (h:l[k]?=some p):k<l.length:=(List.getElem?_eq_some_iff.1 h).1
theorem qa4 {k n:Nat} (h:k<n):0≤(k:Int)∧(k:Int)<(n:Int):=⟨by omega,by omega⟩
theorem Up.mono {l:List Pt} (h:Up l):∀ {i j:Nat} {p q:Pt},i<j→l[i]?=some p→l[j]?=some q→p.id<q.id:=by
 intro i j
 induction j with
 | zero=>intro p q hij;omega
 | succ j ih=>
  intro p q hij hp hq
  by_cases e:i=j
  ·subst e;exact h i p q hp hq
  ·obtain⟨r,hr⟩:=qao (l:=l) (k:=j) (by have:=qak hq;omega)
   exact Int.lt_trans (ih (by omega) hp hr) (h j r q hr hq)
theorem qn9 {k n:Nat} (h:k<n) (hn:n≤64):iV (IntKind.i64.wrap ((k:Int)+1))=iV ((k+1:Nat):Int):=qah (by omega)
theorem qhS {l:List Pt} (hn:l.length≤64) (h:∀ p∈l,qhe p=true):Rl 1 1 75 0 44 2 [(1,.pp 1 0),(3,.pv (iV ((0:Nat):Int)))] [(1,0,.ls 0 l.length),(0,0,qag l)] (.exit 0) [(1,.pp 1 0)] [(1,0,.ls 0 l.length),(0,0,qag l)]:=
 RunsL.rounds (fun k=>[(1,.pp 1 0),(3,.pv (iV (k:Int)))]) (fun _=>[(1,0,.ls 0 l.length),(0,0,qag l)]) l.length 0 (Nat.zero_add _)
  (fun k _ hk r=>by
   obtain⟨p,hp⟩:=qao hk
   exact qhT hp (qa4 hk) (dt (by omega)) (qdG (h p (List.mem_of_getElem? hp))) (qn9 hk hn) r)
  (qo1 (df (by omega)))
theorem qfZ {l:List Pt} (hn:l.length≤64) {j:Nat} {p:Pt} (hp:l[j]?=some p) (hb:¬ qhe p=true) (h:∀ i,i<j→∀ q,l[i]?=some q→qhe q=true):Rl 1 1 75 0 44 2 [(1,.pp 1 0),(3,.pv (iV ((0:Nat):Int)))] [(1,0,.ls 0 l.length),(0,0,qag l)] .ret [(2,.pv (iV 8))] []:=by
 have hj:=qak hp
 refine RunsL.rounds (fun k=>[(1,.pp 1 0),(3,.pv (iV (k:Int)))]) (fun _=>[(1,0,.ls 0 l.length),(0,0,qag l)]) j 0 (Nat.zero_add _) (fun k _ hk r=>?_) (qqw hp (qa4 hj) (dt (by omega)) (qfI hb))
 obtain⟨q,hq⟩:=qao (l:=l) (k:=k) (by omega)
 exact qhT hq (qa4 (qak hq)) (dt (by omega)) (qdG (h k hk q hq)) (qn9 (qak hq) hn) r
theorem qb4 (k:Nat) (h:k≤1000000):iV (IntKind.i64.wrap (((k+1:Nat):Int)-1))=iV (k:Int):=by rw[show ((k+1:Nat):Int)-1=(k:Int) by omega,qan (by omega) (by omega)]
theorem qma {l:List Pt} (hn:l.length≤64) (h:Up l):Rl 1 1 75 1 44 2 [(1,.pp 1 0),(4,.pv (iV ((0+1:Nat):Int)))] [(1,0,.ls 0 l.length),(0,0,qag l)] (.exit 2) [] []:=by
 by_cases h0:l.length=0
 ·exact qk1 (k:=0+1) (df (by omega))
 refine RunsL.rounds (fun k=>[(1,.pp 1 0),(4,.pv (iV (k:Int)))]) (fun _=>[(1,0,.ls 0 l.length),(0,0,qag l)]) (N:=l.length) (l.length-1) (0+1) (by omega) (fun k h1 hk r=>?_) (qk1 (df (by omega)))
 obtain⟨m,rfl⟩:∃ m,k=m+1:=⟨k-1,by omega⟩
 obtain⟨q,hq⟩:=qao (l:=l) (k:=m) (by omega)
 obtain⟨p,hp⟩:=qao hk
 exact qhc hq hp (qa4 (by omega)) (qa4 hk) (dt (by omega)) (qb4 m (by omega)) (df (by have:=h m q p hq hp;omega)) (qn9 hk hn) r
theorem qfQ {l:List Pt} (hn:l.length≤64) {j:Nat} {p q:Pt} (hq:l[j]?=some q) (hp:l[j+1]?=some p) (hb:¬ q.id<p.id) (h:∀ i,i<j→∀ p q,l[i]?=some p→l[i+1]?=some q→p.id<q.id):Rl 1 1 75 1 44 2 [(1,.pp 1 0),(4,.pv (iV ((0+1:Nat):Int)))] [(1,0,.ls 0 l.length),(0,0,qag l)] .ret [(2,.pv (iV 32))] []:=by
 have hj:=qak hp
 refine RunsL.rounds (fun k=>[(1,.pp 1 0),(4,.pv (iV (k:Int)))]) (fun _=>[(1,0,.ls 0 l.length),(0,0,qag l)]) (N:=j+1) j (0+1) (by omega) (fun k h1 hk r=>?_) (qpC hq hp (qa4 (by omega)) (qa4 hj) (dt (by omega)) (qb4 j (by omega)) (dt (by omega)))
 obtain⟨m,rfl⟩:∃ m,k=m+1:=⟨k-1,by omega⟩
 obtain⟨q',hq'⟩:=qao (l:=l) (k:=m) (by omega)
 obtain⟨p',hp'⟩:=qao (l:=l) (k:=m+1) (by omega)
 exact qhc hq' hp' (qa4 (by omega)) (qa4 (by omega)) (dt (by omega)) (qb4 m (by omega)) (df (by have:=h m (by omega) q' p' hq' hp';omega)) (qn9 (n:=l.length) (by omega) hn) r
theorem qdN (l:List Pt):(64<l.length∧qec l=4)∨(l.length≤64∧(∃ (j:Nat) (p:Pt),l[j]?=some p∧¬ qhe p=true∧∀ i,i<j→∀ q,l[i]?=some q→qhe q=true)∧qec l=8)∨
 (l.length≤64∧(∀ p∈l,qhe p=true)∧(∃ (j:Nat) (p q:Pt),l[j]?=some q∧l[j+1]?=some p∧¬ q.id<p.id∧∀ i,i<j→∀ p q,l[i]?=some p→l[i+1]?=some q→p.id<q.id)∧qec l=32)∨
 (l.length≤64∧(∀ p∈l,qhe p=true)∧Up l∧qec l=0):=by
 by_cases h0:64<l.length
 ·exact Or.inl ⟨h0,by unfold qec;rw[if_pos h0]⟩
 refine Or.inr ?_
 by_cases h1:∀ p∈l,qhe p=true
 ·refine Or.inr ?_
  by_cases h2:Up l
  ·exact Or.inr ⟨by omega,h1,h2,by unfold qec;rw[if_neg h0,if_pos h1,if_pos h2]⟩
  ·refine Or.inl ⟨by omega,h1,?_,by unfold qec;rw[if_neg h0,if_pos h1,if_neg h2]⟩
   rcases qaT (fun k=>∀ p q,l[k]?=some p→l[k+1]?=some q→p.id<q.id) l.length with h | ⟨j,hj,hn,hb⟩
   ·exact (h2 fun k p q hp hq=>h k (qak hp) p q hp hq).elim
   ·simp only[Classical.not_forall,not_imp] at hn
    obtain⟨p,q,hp,hq,hpq⟩:=hn
    exact⟨j,q,p,hp,hq,hpq,hb⟩
 ·refine Or.inl ⟨by omega,?_,by unfold qec;rw[if_neg h0,if_neg h1]⟩
  rcases qaT (fun k=>∀ q,l[k]?=some q→qhe q=true) l.length with h | ⟨j,hj,hn,hb⟩
  ·exact (h1 fun p hp=>by obtain⟨k,hk,rfl⟩:=List.getElem_of_mem hp;exact h k hk _ (List.getElem?_eq_getElem hk)).elim
  ·simp only[Classical.not_forall,not_imp] at hn
   obtain⟨p,hp,hpq⟩:=hn
   exact⟨j,p,hp,hpq,hb⟩
theorem qeA (l:List Pt):Fn 75 1 [qas 0 l] [(0,0,qag l)] (.pv (iV (qec l))) 0 []:=by
 rcases qdN l with ⟨h,e⟩ | ⟨h,⟨j,p,hp,hb,hf⟩,e⟩ | ⟨h,h1,⟨j,p,q,hq,hp,hb,hf⟩,e⟩ | ⟨h,h1,h2,e⟩<;>rw[e]
 ·exact qo8 (dt (by omega))
 ·exact qs9 (df (by omega)) (qfZ h hp hb hf)
 ·exact qqW (df (by omega)) (qhS h h1) (qfQ h hq hp hb hf)
 ·exact qui (df (by omega)) (qhS h h1) (qma h h2)
abbrev pcT (l:List Pt) (k:Nat):List (Nat×SV):=[(1,.pp 1 0),(12,.ls 0 l.length),(13,.pv (iV (l.length:Int))),(14,.pv (iV (k:Int)))]
theorem qhW {l:List Pt} (hn:l.length≤64) (h:∀ p∈l,qhe p=true):Rl 1 1 47 0 45 2 (pcT l 0) [(1,0,.ls 0 l.length),(0,0,qag l)] (.exit 0) [(1,.pp 1 0)] [(1,0,.ls 0 l.length),(0,0,qag l)]:=
 RunsL.rounds (pcT l) (fun _=>[(1,0,.ls 0 l.length),(0,0,qag l)]) l.length 0 (Nat.zero_add _)
  (fun k _ hk r=>by
   obtain⟨p,hp⟩:=qao hk
   exact qhX hp (qa4 hk) (dt (by omega)) (qb8 (h p (List.mem_of_getElem? hp))) (qn9 hk hn) r)
  (qp2 (df (by omega)))
theorem qfw {l:List Pt} (hn:l.length≤64) {j:Nat} {p:Pt} (hp:l[j]?=some p) (hb:¬ qhe p=true) (h:∀ i,i<j→∀ q,l[i]?=some q→qhe q=true):Rl 1 1 47 0 45 2 (pcT l 0) [(1,0,.ls 0 l.length),(0,0,qag l)] .ret [(2,.pv (iV 8))] []:=by
 have hj:=qak hp
 refine RunsL.rounds (pcT l) (fun _=>[(1,0,.ls 0 l.length),(0,0,qag l)]) j 0 (Nat.zero_add _) (fun k _ hk r=>?_) (qp1 hp (qa4 hj) (dt (by omega)) (qg2 hb))
 obtain⟨q,hq⟩:=qao (l:=l) (k:=k) (by omega)
 exact qhX hq (qa4 (qak hq)) (dt (by omega)) (qb8 (h k hk q hq)) (qn9 (qak hq) hn) r
theorem qmi {l:List Pt} (hn:l.length≤64) (h:Up l):Rl 1 1 47 1 45 2 [(1,.pp 1 0),(6,.pv (iV ((0+1:Nat):Int)))] [(1,0,.ls 0 l.length),(0,0,qag l)] (.exit 2) [] []:=by
 by_cases h0:l.length=0
 ·exact qkT (k:=0+1) (df (by omega))
 refine RunsL.rounds (fun k=>[(1,.pp 1 0),(6,.pv (iV (k:Int)))]) (fun _=>[(1,0,.ls 0 l.length),(0,0,qag l)]) (N:=l.length) (l.length-1) (0+1) (by omega) (fun k h1 hk r=>?_) (qkT (df (by omega)))
 obtain⟨m,rfl⟩:∃ m,k=m+1:=⟨k-1,by omega⟩
 obtain⟨q,hq⟩:=qao (l:=l) (k:=m) (by omega)
 obtain⟨p,hp⟩:=qao hk
 exact qhb hq hp (qa4 (by omega)) (qa4 hk) (dt (by omega)) (qb4 m (by omega)) (df (by have:=h m q p hq hp;omega)) (qn9 hk hn) r
theorem qfL {l:List Pt} (hn:l.length≤64) {j:Nat} {p q:Pt} (hq:l[j]?=some q) (hp:l[j+1]?=some p) (hb:¬ q.id<p.id) (h:∀ i,i<j→∀ p q,l[i]?=some p→l[i+1]?=some q→p.id<q.id):Rl 1 1 47 1 45 2 [(1,.pp 1 0),(6,.pv (iV ((0+1:Nat):Int)))] [(1,0,.ls 0 l.length),(0,0,qag l)] .ret [(2,.pv (iV 32))] []:=by
 have hj:=qak hp
 refine RunsL.rounds (fun k=>[(1,.pp 1 0),(6,.pv (iV (k:Int)))]) (fun _=>[(1,0,.ls 0 l.length),(0,0,qag l)]) (N:=j+1) j (0+1) (by omega) (fun k h1 hk r=>?_) (qpK hq hp (qa4 (by omega)) (qa4 hj) (dt (by omega)) (qb4 j (by omega)) (dt (by omega)))
 obtain⟨m,rfl⟩:∃ m,k=m+1:=⟨k-1,by omega⟩
 obtain⟨q',hq'⟩:=qao (l:=l) (k:=m) (by omega)
 obtain⟨p',hp'⟩:=qao (l:=l) (k:=m+1) (by omega)
 exact qhb hq' hp' (qa4 (by omega)) (qa4 (by omega)) (dt (by omega)) (qb4 m (by omega)) (df (by have:=h m (by omega) q' p' hq' hp';omega)) (qn9 (n:=l.length) (by omega) hn) r
theorem qbq (l:List Pt):Fn 47 1 [qas 0 l] [(0,0,qag l)] (.pv (iV (qec l))) 0 []:=by
 rcases qdN l with ⟨h,e⟩ | ⟨h,⟨j,p,hp,hb,hf⟩,e⟩ | ⟨h,h1,⟨j,p,q,hq,hp,hb,hf⟩,e⟩ | ⟨h,h1,h2,e⟩<;>rw[e]
 ·exact qoJ (dt (by omega))
 ·exact qsL (df (by omega)) (qfw h hp hb hf)
 ·exact qq7 (df (by omega)) (qhW h h1) (qfL h hq hp hb hf)
 ·exact quz (df (by omega)) (qhW h h1) (qmi h h2)
structure Val (l:List Pt):Prop where
 len:l.length≤64
 ok:∀ p∈l,qhe p=true
 up:Up l
theorem qcY {l:List Pt}:qec l=0↔Val l:=by
 rcases qdN l with ⟨h,e⟩ | ⟨h,⟨j,p,hp,hb,hf⟩,e⟩ | ⟨h,h1,⟨j,p,q,hq,hp,hb,hf⟩,e⟩ | ⟨h,h1,h2,e⟩<;>rw[e]
 ·exact⟨fun h=>by omega,fun v=>by have:=v.len;omega⟩
 ·exact⟨fun h=>by omega,fun v=>(hb (v.ok p (List.mem_of_getElem? hp))).elim⟩
 ·exact⟨fun h=>by omega,fun v=>(hb (v.up j q p hq hp)).elim⟩
 ·exact⟨fun _=>⟨h,h1,h2⟩,fun _=>rfl⟩
theorem place (l:List Pt) (hv:Val l) (id:Int):(∃ (k:Nat) (p:Pt),l[k]?=some p∧p.id=id)∨((∀ p∈l,p.id≠id)∧∃ k,k≤l.length∧(∀ (t:Nat) (p:Pt),t<k→l[t]?=some p→p.id<id)∧∀ (t:Nat) (p:Pt),k≤t→l[t]?=some p→id<p.id):=by
 by_cases h:∃ (k:Nat) (p:Pt),l[k]?=some p∧p.id=id
 ·exact Or.inl h
 ·refine Or.inr ⟨fun p hp e=>?_,?_⟩
  ·obtain⟨k,hk,rfl⟩:=List.getElem_of_mem hp
   exact h ⟨k,_,List.getElem?_eq_getElem hk,e⟩
  ·rcases qaT (fun k=>∀ p,l[k]?=some p→p.id<id) l.length with hh | ⟨j,hj,hn,hb⟩
   ·exact⟨l.length,Nat.le_refl _,fun t p ht hp=>hh t ht p hp,fun t p ht hp=>by have:=qak hp;omega⟩
   ·refine⟨j,by omega,fun t p ht hp=>hb t ht p hp,fun t p ht hp=>?_⟩
    simp only[Classical.not_forall,not_imp] at hn
    obtain⟨q,hq,hlt⟩:=hn
    have hne:q.id≠id:=fun e=>h ⟨j,q,hq,e⟩
    rcases Nat.lt_or_ge j t with h' | h'
    ·have:=hv.up.mono h' hq hp;omega
    ·have:t=j:=by omega
     subst this
     rw[hq] at hp
     cases hp
     omega
theorem qp6 (a pa pb id:Int):∃ c,Pure Try.prog 119 #[qac a pa pb,iV id] (iV c)∧(c<0↔a<id)∧(c=0↔a=id):=by
 rcases Int.lt_trichotomy a id with h | h | h
 ·exact⟨-1,qlA (by simp) (by simp) (dt h),⟨fun _=>h,fun _=>by omega⟩,⟨fun h=>by omega,fun h=>by omega⟩⟩
 ·exact⟨0,qmS (by simp) (by simp) (df (by omega)) (df (by omega)),⟨fun h=>by omega,fun h=>by omega⟩,⟨fun _=>h,fun _=>rfl⟩⟩
 ·exact⟨1,qnD (by simp) (by simp) (df (by omega)) (dt (by omega)),⟨fun h=>by omega,fun h=>by omega⟩,⟨fun h=>by omega,fun h=>by omega⟩⟩
abbrev bsT (l:List Pt) (id:Int) (i j:Nat):List (Nat×SV):=[(0,.ls 0 l.length),(1,.pv (iV id)),(2,.pv (.func (.func 119) #[] #[])),(8,.pv (iV (l.length:Int))),(9,.pv (iV (i:Int))),(10,.pv (iV (j:Int)))]
theorem qi6 {l:List Pt} (hn:l.length≤64) {id:Int} {k:Nat} (hlo:∀ (t:Nat) (p:Pt),t<k→l[t]?=some p→p.id<id) (hhi:∀ (t:Nat) (p:Pt),k≤t→l[t]?=some p→¬ p.id<id):∀ (d i j:Nat),j-i≤d→i≤k→k≤j→j≤l.length→
 Rl 1 1 118 0 49 1 (bsT l id i j) [(0,0,qag l)] (.exit 0) (bsT l id k k) [(0,0,qag l)]:=by
 intro d
 induction d with
 | zero=>
  intro i j hd h1 h2 h3
  have:i=k:=by omega
  have:j=k:=by omega
  subst i j
  exact qoi (df (by omega))
 | succ d ih=>
  intro i j hd h1 h2 h3
  by_cases hij:i<j
  ·obtain⟨p,hp⟩:=qao (l:=l) (k:=(i+j)/2) (by omega)
   obtain⟨c,hc,hc1,hc2⟩:=qp6 p.id p.a p.b id
   have a1:iV (IntKind.i64.wrap ((i:Int)+(j:Int)))=iV ((i:Int)+(j:Int)):=by rw[qan (by omega) (by omega)]
   have a2:Value.int .u64 (IntKind.u64.wrap ((i:Int)+(j:Int)))=.int .u64 ((i:Int)+(j:Int)):=by rw[qeO (by omega) (by omega)]
   have a3:Value.int .u64 (((i:Int)+(j:Int)).fdiv (2 ^ (min (1:Int).toNat IntKind.u64.bits)))=.int .u64 (((i+j)/2:Nat):Int):=by
    have:(2:Int) ^ (min (1:Int).toNat IntKind.u64.bits)=2:=rfl
    rw[this,Int.fdiv_eq_ediv_of_nonneg _ (by omega)]
    congr 1
   have a4:iV (IntKind.i64.wrap (((i+j)/2:Nat):Int))=iV (((i+j)/2:Nat):Int):=by rw[qan (by omega) (by omega)]
   by_cases hlt:p.id<id
   ·refine qu6 hp (qa4 (qak hp)) (dt (by omega)) a1 a2 (by omega) a3 a4 hc (dt (hc1.2 hlt)) (qah (by omega)) (ih _ _ (by omega) ?_ h2 h3)
    rcases Nat.lt_or_ge ((i+j)/2) k with h | h
    ·exact h
    ·exact (hhi _ p h hp hlt).elim
   ·refine qua hp (qa4 (qak hp)) (dt (by omega)) a1 a2 (by omega) a3 a4 hc (df (fun h=>hlt (hc1.1 h))) (ih _ _ (by omega) h1 ?_ (by omega))
    rcases Nat.lt_or_ge ((i+j)/2) k with h | h
    ·exact (hlt (hlo _ p h hp)).elim
    ·exact h
  ·have:i=k:=by omega
   have:j=k:=by omega
   subst i j
   exact qoi (df (by omega))
theorem qnf {l:List Pt} (hv:Val l) {id:Int} {k:Nat} {p:Pt} (hk:l[k]?=some p) (he:p.id=id):Fn 109 1 [qas 0 l,.pv (iV id)] [(0,0,qag l)] (.pv (.tuple #[iV (k:Int),.bool true])) 0 []:=by
 subst he
 obtain⟨c,hc,hc1,hc2⟩:=qp6 p.id p.a p.b p.id
 have hl:=qak hk
 refine qdQ (qpY (qi6 hv.len (fun t q ht hq=>hv.up.mono ht hq hk) (fun t q ht hq=>?_) l.length 0 l.length (by omega) (Nat.zero_le _) (by omega) (Nat.le_refl _)) hk (qa4 hl) (dt (by omega)) hc (by simpa using hc2.2 rfl))
 rcases Nat.lt_or_ge k t with h | h
 ·have:=hv.up.mono h hk hq;omega
 ·have:t=k:=by omega
  subst this
  rw[hk] at hq;cases hq;omega
theorem qpU {l:List Pt} (hv:Val l) {id:Int} {k:Nat} (hkl:k≤l.length) (hlo:∀ (t:Nat) (p:Pt),t<k→l[t]?=some p→p.id<id) (hhi:∀ (t:Nat) (p:Pt),k≤t→l[t]?=some p→id<p.id):Fn 109 1 [qas 0 l,.pv (iV id)] [(0,0,qag l)] (.pv (.tuple #[iV (k:Int),.bool false])) 0 []:=by
 have hb:=qi6 hv.len hlo (fun t p ht hp=>by have:=hhi t p ht hp;omega) l.length 0 l.length (by omega) (Nat.zero_le _) hkl (Nat.le_refl _)
 by_cases h:k<l.length
 ·obtain⟨p,hp⟩:=qao h
  obtain⟨c,hc,hc1,hc2⟩:=qp6 p.id p.a p.b id
  refine qdQ (qta hb hp (qa4 h) (dt (by omega)) hc ?_)
  have:=hhi k p (Nat.le_refl _) hp
  simp only[beq_eq_false_iff_ne,ne_eq]
  exact fun e=>by have:=hc2.1 e;omega
 ·exact qdQ (qoW hb (df (by omega)))
end Go.Proofs.Ytalnjplghagbpaa

namespace Go.Proofs.Ytalnjplghagbpaa
set_option maxRecDepth 100000
open Go.RowKit
theorem qbg {α:Type} {l:List α} {k:Nat} {p:α} (h:l[k]?=some p):l.take (k+1)=l.take k++[p]:=by rw[List.take_add_one,h];rfl
end Go.Proofs.Ytalnjplghagbpaa

namespace Go.Proofs.Ytalnjplghagbpaa
set_option maxRecDepth 100000
open Go.RowKit
def ld (tn td:Int) (p q:Pt):Bool:=qcD (p.a*td+p.b*tn) (q.a*td+q.b*tn) p.b q.b p.id q.id
theorem qes {P Q pb qb pi qi:Int}:qcD P Q pb qb pi qi=true↔(P>Q∨P=Q∧(pb>qb∨pb=qb∧pi<qi)):=by unfold qcD;exact decide_eq_true_iff
theorem qdH {P Q pb qb pi qi:Int}:qcD P Q pb qb pi qi=false↔¬ (P>Q∨P=Q∧(pb>qb∨pb=qb∧pi<qi)):=by unfold qcD;exact decide_eq_false_iff_not
section
variable {tn td:Int} {p q r:Pt}
theorem qnN (p:Pt):ld tn td p p=false:=qdH.2 (by omega)
theorem qdz (h:ld tn td p q=true) (k:ld tn td q r=true):ld tn td p r=true:=by
 unfold ld at *
 generalize p.a*td+p.b*tn=P at *
 generalize q.a*td+q.b*tn=Q at *
 generalize r.a*td+r.b*tn=R at *
 rw[qes] at *
 omega
theorem qe6 (h:ld tn td p q=true):ld tn td q p=false:=by
 cases hh:ld tn td q p
 ·rfl
 ·have:=qdz h hh;rw[qnN] at this;cases this
end
def rk (tn td:Int) (l:List Pt) (p:Pt):Nat:=l.countP fun q=>ld tn td q p
theorem qof {tn td:Int}:∀ (s:List Pt) (k:Nat) (p:Pt),s.Pairwise (fun p q=>ld tn td p q=true)→s[k]?=some p→rk tn td s p=k
 | [],_,_,_,h=>by simp at h
 | a::r,0,p,hp,h=>by
  simp only[List.getElem?_cons_zero,Option.some.injEq] at h
  subst h
  rw[List.pairwise_cons] at hp
  unfold rk
  rw[List.countP_eq_zero]
  intro q hq
  rcases List.mem_cons.1 hq with rfl | hq
  ·rw[qnN];decide
  ·rw[qe6 (hp.1 q hq)];decide
 | a::r,k+1,p,hp,h=>by
  rw[List.getElem?_cons_succ] at h
  rw[List.pairwise_cons] at hp
  have:=qof r k p hp.2 h
  unfold rk at this ⊢
  rw[List.countP_cons,this,if_pos (hp.1 p (List.mem_of_getElem? h))]
structure Srt (l:List Pt) (tn td:Int) (s:List Pt):Prop where
 perm:s.Perm l
 pw:s.Pairwise (fun p q=>ld tn td p q=true)
theorem Srt.len {l s:List Pt} {tn td:Int} (h:Srt l tn td s):s.length=l.length:=h.perm.length_eq
theorem Srt.rank {l s:List Pt} {tn td:Int} (h:Srt l tn td s) {k:Nat} {p:Pt} (hk:s[k]?=some p):rk tn td l p=k:=by
 have:=qof s k p h.pw hk
 unfold rk at this ⊢
 rw[← h.perm.countP_eq];exact this
theorem Srt.at {l s:List Pt} {tn td:Int} (h:Srt l tn td s) {p:Pt} (hp:p∈l):s[rk tn td l p]?=some p:=by
 obtain⟨k,hk,e⟩:=List.getElem_of_mem (h.perm.mem_iff.2 hp)
 have hk':s[k]?=some p:=by rw[List.getElem?_eq_getElem hk,e]
 rw[h.rank hk'];exact hk'
theorem Srt.lt {l s:List Pt} {tn td:Int} (h:Srt l tn td s) {p:Pt} (hp:p∈l):rk tn td l p<l.length:=by rw[← h.len];exact qak (h.at hp)
theorem Srt.uniq {l s t:List Pt} {tn td:Int} (h:Srt l tn td s) (k:Srt l tn td t):s=t:=by
 apply List.ext_getElem?
 intro i
 by_cases hi:i<t.length
 ·obtain⟨p,hp⟩:=qao hi
  rw[hp]
  have:=h.at (k.perm.mem_iff.1 (List.mem_of_getElem? hp))
  rw[k.rank hp] at this
  exact this
 ·have e1:t[i]?=none:=List.getElem?_eq_none (by omega)
  have e2:s[i]?=none:=List.getElem?_eq_none (by have:=h.len;have:=k.len;omega)
  rw[e1,e2]
end Go.Proofs.Ytalnjplghagbpaa

namespace Go.Proofs.Ytalnjplghagbpaa
set_option maxRecDepth 100000
open Go.RowKit
structure Tm (tn td:Int):Prop where
 hn:I64 tn
 hd:I64 td
 ok:okB tn td=true
noncomputable def tE (l:List Pt) (tn td:Int):Int:=if qec l=0 then (if okB tn td=true then 0 else 8) else qec l
theorem qf8 {tn td:Int} (hn:I64 tn) (hd:I64 td) (l:List Pt):Fn 64 1 [qas 0 l,.pv (qab tn td)] [(0,0,qag l)] (.pv (iV (tE l tn td))) 0 []:=by
 unfold tE
 by_cases h0:qec l=0
 ·have c1:=qeA l
  rw[h0] at c1
  rw[if_pos h0]
  by_cases hp:okB tn td=true
  ·rw[if_pos hp];exact qnO c1 (qkD hn hd hp)
  ·rw[if_neg hp];exact qnO c1 (qiQ hn hd hp)
 ·rw[if_neg h0]
  exact qp3 (qeA l) (by simp[h0])
theorem qiN {l:List Pt} {tn td:Int} (hv:Val l) (ht:okB tn td=true):tE l tn td=0:=by unfold tE;rw[if_pos (qcY.2 hv),if_pos ht]
section
variable {l:List Pt} {tn td:Int}
end
end Go.Proofs.Ytalnjplghagbpaa
