/-
  Joined: Fm, Fn, Fr, Fs. Conditions: none.
-/
import Derived.Test.YtalnjplghagbpaaW24
import Derived.Test.YtalnjplghagbpaaW23
import Derived.Test.YtalnjplghagbpaaW19
import Derived.Test.YtalnjplghagbpaaW20
namespace Go.Proofs.Ytalnjplghagbpaa
set_option maxRecDepth 100000
open Go.RowKit
def qfw (p:Pt):Bool:=okP p.id p.a p.b
def Up (l:List Pt):Prop:=∀ (k:Nat) (p q:Pt),l[k]?=some p→l[k+1]?=some q→p.id<q.id
noncomputable def qdN (l:List Pt):Int:=open Classical in if 64<l.length then 4 else if ∀ p∈l,qfw p=true then (if Up l then 0 else 32) else 8
theorem qaW (P:Nat→Prop):∀ (N:Nat),(∀ k,k<N→P k)∨∃ j,j<N∧¬ P j∧∀ i,i<j→P i
 | 0=>Or.inl fun k hk=>by omega
 | N+1=>by
  rcases qaW P N with h | ⟨j,h1,h2⟩
  ·by_cases hN:P N
   ·exact Or.inl fun k hk=>by
     rcases Nat.lt_or_ge k N with h' | h'
     ·exact h k h'
     ·have:k=N:=by omega
      subst this;exact hN
   ·exact Or.inr ⟨N,by omega,hN,h⟩
  ·exact Or.inr ⟨j,by omega,h2⟩
theorem qao {α:Type} {l:List α} {k:Nat} (h:k<l.length):∃ p,l[k]?=some p:=⟨l[k],List.getElem?_eq_getElem h⟩
theorem qal {α:Type} {l:List α} {k:Nat} {p:α} (h:l[k]?=some p):k<l.length:=(List.getElem?_eq_some_iff.1 h).1
theorem qaX {k n:Nat} (h:k<n):0≤(k:Int)∧(k:Int)<(n:Int):=⟨by omega,by omega⟩
theorem Up.mono {l:List Pt} (h:Up l):∀ {i j:Nat} {p q:Pt},i<j→l[i]?=some p→l[j]?=some q→p.id<q.id:=by
 intro i j
 induction j with
 | zero=>intro p q hij;omega
 | succ j ih=>
  intro p q hij hp hq
  by_cases e:i=j
  ·subst e;exact h i p q hp hq
  ·obtain⟨r,hr⟩:=qao (l:=l) (k:=j) (by have:=qal hq;omega)
   exact Int.lt_trans (ih (by omega) hp hr) (h j r q hr hq)
theorem qjs {k n:Nat} (h:k<n) (hn:n≤64):iV (IntKind.i64.wrap ((k:Int)+1))=iV ((k+1:Nat):Int):=qaj (by omega)
theorem qg8 {l:List Pt} (hn:l.length≤64) (h:∀ p∈l,qfw p=true):Rl 1 1 75 0 44 2 [(1,.pp 1 0),(3,.pv (iV ((0:Nat):Int)))] [(1,0,.ls 0 l.length),(0,0,qag l)] (.exit 0) [(1,.pp 1 0)] [(1,0,.ls 0 l.length),(0,0,qag l)]:=
 RunsL.rounds (fun k=>[(1,.pp 1 0),(3,.pv (iV (k:Int)))]) (fun _=>[(1,0,.ls 0 l.length),(0,0,qag l)]) l.length 0 (Nat.zero_add _)
  (fun k _ hk r=>by
   obtain⟨p,hp⟩:=qao hk
   exact qgU hp (qaX hk) (dt (by omega)) (qdh (h p (List.mem_of_getElem? hp))) (qjs hk hn) r)
  (qoq (df (by omega)))
theorem qeQ {l:List Pt} (hn:l.length≤64) {j:Nat} {p:Pt} (hp:l[j]?=some p) (hb:¬ qfw p=true) (h:∀ i,i<j→∀ q,l[i]?=some q→qfw q=true):Rl 1 1 75 0 44 2 [(1,.pp 1 0),(3,.pv (iV ((0:Nat):Int)))] [(1,0,.ls 0 l.length),(0,0,qag l)] .ret [(2,.pv (iV 8))] []:=by
 have hj:=qal hp
 refine RunsL.rounds (fun k=>[(1,.pp 1 0),(3,.pv (iV (k:Int)))]) (fun _=>[(1,0,.ls 0 l.length),(0,0,qag l)]) j 0 (Nat.zero_add _) (fun k _ hk r=>?_) (qos hp (qaX hj) (dt (by omega)) (qfb hb))
 obtain⟨q,hq⟩:=qao (l:=l) (k:=k) (by omega)
 exact qgU hq (qaX (qal hq)) (dt (by omega)) (qdh (h k hk q hq)) (qjs (qal hq) hn) r
theorem qb0 (k:Nat) (h:k≤1000000):iV (IntKind.i64.wrap (((k+1:Nat):Int)-1))=iV (k:Int):=by rw[show ((k+1:Nat):Int)-1=(k:Int) by omega,qaQ (by omega) (by omega)]
theorem qmc {l:List Pt} (hn:l.length≤64) (h:Up l):Rl 1 1 75 1 44 2 [(1,.pp 1 0),(4,.pv (iV ((0+1:Nat):Int)))] [(1,0,.ls 0 l.length),(0,0,qag l)] (.exit 2) [] []:=by
 by_cases h0:l.length=0
 ·exact qih (k:=0+1) (df (by omega))
 refine RunsL.rounds (fun k=>[(1,.pp 1 0),(4,.pv (iV (k:Int)))]) (fun _=>[(1,0,.ls 0 l.length),(0,0,qag l)]) (N:=l.length) (l.length-1) (0+1) (by omega) (fun k h1 hk r=>?_) (qih (df (by omega)))
 obtain⟨m,rfl⟩:∃ m,k=m+1:=⟨k-1,by omega⟩
 obtain⟨q,hq⟩:=qao (l:=l) (k:=m) (by omega)
 obtain⟨p,hp⟩:=qao hk
 exact qgx hq hp (qaX (by omega)) (qaX hk) (dt (by omega)) (qb0 m (by omega)) (df (by have:=h m q p hq hp;omega)) (qjs hk hn) r
theorem qfq {l:List Pt} (hn:l.length≤64) {j:Nat} {p q:Pt} (hq:l[j]?=some q) (hp:l[j+1]?=some p) (hb:¬ q.id<p.id) (h:∀ i,i<j→∀ p q,l[i]?=some p→l[i+1]?=some q→p.id<q.id):Rl 1 1 75 1 44 2 [(1,.pp 1 0),(4,.pv (iV ((0+1:Nat):Int)))] [(1,0,.ls 0 l.length),(0,0,qag l)] .ret [(2,.pv (iV 32))] []:=by
 have hj:=qal hp
 refine RunsL.rounds (fun k=>[(1,.pp 1 0),(4,.pv (iV (k:Int)))]) (fun _=>[(1,0,.ls 0 l.length),(0,0,qag l)]) (N:=j+1) j (0+1) (by omega) (fun k h1 hk r=>?_) (qne hq hp (qaX (by omega)) (qaX hj) (dt (by omega)) (qb0 j (by omega)) (dt (by omega)))
 obtain⟨m,rfl⟩:∃ m,k=m+1:=⟨k-1,by omega⟩
 obtain⟨q',hq'⟩:=qao (l:=l) (k:=m) (by omega)
 obtain⟨p',hp'⟩:=qao (l:=l) (k:=m+1) (by omega)
 exact qgx hq' hp' (qaX (by omega)) (qaX (by omega)) (dt (by omega)) (qb0 m (by omega)) (df (by have:=h m (by omega) q' p' hq' hp';omega)) (qjs (n:=l.length) (by omega) hn) r
theorem qdH (l:List Pt):(64<l.length∧qdN l=4)∨(l.length≤64∧(∃ (j:Nat) (p:Pt),l[j]?=some p∧¬ qfw p=true∧∀ i,i<j→∀ q,l[i]?=some q→qfw q=true)∧qdN l=8)∨
 (l.length≤64∧(∀ p∈l,qfw p=true)∧(∃ (j:Nat) (p q:Pt),l[j]?=some q∧l[j+1]?=some p∧¬ q.id<p.id∧∀ i,i<j→∀ p q,l[i]?=some p→l[i+1]?=some q→p.id<q.id)∧qdN l=32)∨
 (l.length≤64∧(∀ p∈l,qfw p=true)∧Up l∧qdN l=0):=by
 by_cases h0:64<l.length
 ·exact Or.inl ⟨h0,by unfold qdN;rw[if_pos h0]⟩
 refine Or.inr ?_
 by_cases h1:∀ p∈l,qfw p=true
 ·refine Or.inr ?_
  by_cases h2:Up l
  ·exact Or.inr ⟨by omega,h1,h2,by unfold qdN;rw[if_neg h0,if_pos h1,if_pos h2]⟩
  ·refine Or.inl ⟨by omega,h1,?_,by unfold qdN;rw[if_neg h0,if_pos h1,if_neg h2]⟩
   rcases qaW (fun k=>∀ p q,l[k]?=some p→l[k+1]?=some q→p.id<q.id) l.length with h | ⟨j,hj,hn,hb⟩
   ·exact (h2 fun k p q hp hq=>h k (qal hp) p q hp hq).elim
   ·simp only[Classical.not_forall,not_imp] at hn
    obtain⟨p,q,hp,hq,hpq⟩:=hn
    exact⟨j,q,p,hp,hq,hpq,hb⟩
 ·refine Or.inl ⟨by omega,?_,by unfold qdN;rw[if_neg h0,if_neg h1]⟩
  rcases qaW (fun k=>∀ q,l[k]?=some q→qfw q=true) l.length with h | ⟨j,hj,hn,hb⟩
  ·exact (h1 fun p hp=>by obtain⟨k,hk,rfl⟩:=List.getElem_of_mem hp;exact h k hk _ (List.getElem?_eq_getElem hk)).elim
  ·simp only[Classical.not_forall,not_imp] at hn
   obtain⟨p,hp,hpq⟩:=hn
   exact⟨j,p,hp,hpq,hb⟩
theorem qdS (l:List Pt):Fn 75 1 [qav 0 l] [(0,0,qag l)] (.pv (iV (qdN l))) 0 []:=by
 rcases qdH l with ⟨h,e⟩ | ⟨h,⟨j,p,hp,hb,hf⟩,e⟩ | ⟨h,h1,⟨j,p,q,hq,hp,hb,hf⟩,e⟩ | ⟨h,h1,h2,e⟩<;>rw[e]
 ·exact qn5 (dt (by omega))
 ·exact qpE (df (by omega)) (qeQ h hp hb hf)
 ·exact qqC (df (by omega)) (qg8 h h1) (qfq h hq hp hb hf)
 ·exact qsm (df (by omega)) (qg8 h h1) (qmc h h2)
abbrev pcT (l:List Pt) (k:Nat):List (Nat×SV):=[(1,.pp 1 0),(12,.ls 0 l.length),(13,.pv (iV (l.length:Int))),(14,.pv (iV (k:Int)))]
theorem qgW {l:List Pt} (hn:l.length≤64) (h:∀ p∈l,qfw p=true):Rl 1 1 47 0 45 2 (pcT l 0) [(1,0,.ls 0 l.length),(0,0,qag l)] (.exit 0) [(1,.pp 1 0)] [(1,0,.ls 0 l.length),(0,0,qag l)]:=
 RunsL.rounds (pcT l) (fun _=>[(1,0,.ls 0 l.length),(0,0,qag l)]) l.length 0 (Nat.zero_add _)
  (fun k _ hk r=>by
   obtain⟨p,hp⟩:=qao hk
   exact qgB hp (qaX hk) (dt (by omega)) (qbZ (h p (List.mem_of_getElem? hp))) (qjs hk hn) r)
  (qoH (df (by omega)))
theorem qe9 {l:List Pt} (hn:l.length≤64) {j:Nat} {p:Pt} (hp:l[j]?=some p) (hb:¬ qfw p=true) (h:∀ i,i<j→∀ q,l[i]?=some q→qfw q=true):Rl 1 1 47 0 45 2 (pcT l 0) [(1,0,.ls 0 l.length),(0,0,qag l)] .ret [(2,.pv (iV 8))] []:=by
 have hj:=qal hp
 refine RunsL.rounds (pcT l) (fun _=>[(1,0,.ls 0 l.length),(0,0,qag l)]) j 0 (Nat.zero_add _) (fun k _ hk r=>?_) (qoz hp (qaX hj) (dt (by omega)) (qfZ hb))
 obtain⟨q,hq⟩:=qao (l:=l) (k:=k) (by omega)
 exact qgB hq (qaX (qal hq)) (dt (by omega)) (qbZ (h k hk q hq)) (qjs (qal hq) hn) r
theorem qkO {l:List Pt} (hn:l.length≤64) (h:Up l):Rl 1 1 47 1 45 2 [(1,.pp 1 0),(6,.pv (iV ((0+1:Nat):Int)))] [(1,0,.ls 0 l.length),(0,0,qag l)] (.exit 2) [] []:=by
 by_cases h0:l.length=0
 ·exact qjZ (k:=0+1) (df (by omega))
 refine RunsL.rounds (fun k=>[(1,.pp 1 0),(6,.pv (iV (k:Int)))]) (fun _=>[(1,0,.ls 0 l.length),(0,0,qag l)]) (N:=l.length) (l.length-1) (0+1) (by omega) (fun k h1 hk r=>?_) (qjZ (df (by omega)))
 obtain⟨m,rfl⟩:∃ m,k=m+1:=⟨k-1,by omega⟩
 obtain⟨q,hq⟩:=qao (l:=l) (k:=m) (by omega)
 obtain⟨p,hp⟩:=qao hk
 exact qg7 hq hp (qaX (by omega)) (qaX hk) (dt (by omega)) (qb0 m (by omega)) (df (by have:=h m q p hq hp;omega)) (qjs hk hn) r
theorem qeZ {l:List Pt} (hn:l.length≤64) {j:Nat} {p q:Pt} (hq:l[j]?=some q) (hp:l[j+1]?=some p) (hb:¬ q.id<p.id) (h:∀ i,i<j→∀ p q,l[i]?=some p→l[i+1]?=some q→p.id<q.id):Rl 1 1 47 1 45 2 [(1,.pp 1 0),(6,.pv (iV ((0+1:Nat):Int)))] [(1,0,.ls 0 l.length),(0,0,qag l)] .ret [(2,.pv (iV 32))] []:=by
 have hj:=qal hp
 refine RunsL.rounds (fun k=>[(1,.pp 1 0),(6,.pv (iV (k:Int)))]) (fun _=>[(1,0,.ls 0 l.length),(0,0,qag l)]) (N:=j+1) j (0+1) (by omega) (fun k h1 hk r=>?_) (qnD hq hp (qaX (by omega)) (qaX hj) (dt (by omega)) (qb0 j (by omega)) (dt (by omega)))
 obtain⟨m,rfl⟩:∃ m,k=m+1:=⟨k-1,by omega⟩
 obtain⟨q',hq'⟩:=qao (l:=l) (k:=m) (by omega)
 obtain⟨p',hp'⟩:=qao (l:=l) (k:=m+1) (by omega)
 exact qg7 hq' hp' (qaX (by omega)) (qaX (by omega)) (dt (by omega)) (qb0 m (by omega)) (df (by have:=h m (by omega) q' p' hq' hp';omega)) (qjs (n:=l.length) (by omega) hn) r
theorem qb4 (l:List Pt):Fn 47 1 [qav 0 l] [(0,0,qag l)] (.pv (iV (qdN l))) 0 []:=by
 rcases qdH l with ⟨h,e⟩ | ⟨h,⟨j,p,hp,hb,hf⟩,e⟩ | ⟨h,h1,⟨j,p,q,hq,hp,hb,hf⟩,e⟩ | ⟨h,h1,h2,e⟩<;>rw[e]
 ·exact qnN (dt (by omega))
 ·exact qqU (df (by omega)) (qe9 h hp hb hf)
 ·exact qpK (df (by omega)) (qgW h h1) (qeZ h hq hp hb hf)
 ·exact qsd (df (by omega)) (qgW h h1) (qkO h h2)
structure Val (l:List Pt):Prop where
 len:l.length≤64
 ok:∀ p∈l,qfw p=true
 up:Up l
theorem qej {l:List Pt}:qdN l=0↔Val l:=by
 rcases qdH l with ⟨h,e⟩ | ⟨h,⟨j,p,hp,hb,hf⟩,e⟩ | ⟨h,h1,⟨j,p,q,hq,hp,hb,hf⟩,e⟩ | ⟨h,h1,h2,e⟩<;>rw[e]
 ·exact⟨fun h=>by omega,fun v=>by have:=v.len;omega⟩
 ·exact⟨fun h=>by omega,fun v=>(hb (v.ok p (List.mem_of_getElem? hp))).elim⟩
 ·exact⟨fun h=>by omega,fun v=>(hb (v.up j q p hq hp)).elim⟩
 ·exact⟨fun _=>⟨h,h1,h2⟩,fun _=>rfl⟩
theorem place (l:List Pt) (hv:Val l) (id:Int):(∃ (k:Nat) (p:Pt),l[k]?=some p∧p.id=id)∨((∀ p∈l,p.id≠id)∧∃ k,k≤l.length∧(∀ (t:Nat) (p:Pt),t<k→l[t]?=some p→p.id<id)∧∀ (t:Nat) (p:Pt),k≤t→l[t]?=some p→id<p.id):=by
 by_cases h:∃ (k:Nat) (p:Pt),l[k]?=some p∧p.id=id
 ·exact Or.inl h
 ·refine Or.inr ⟨fun p hp e=>?_,?_⟩
  ·obtain⟨k,hk,rfl⟩:=List.getElem_of_mem hp
   exact h ⟨k,_,List.getElem?_eq_getElem hk,e⟩
  ·rcases qaW (fun k=>∀ p,l[k]?=some p→p.id<id) l.length with hh | ⟨j,hj,hn,hb⟩
   ·exact⟨l.length,Nat.le_refl _,fun t p ht hp=>hh t ht p hp,fun t p ht hp=>by have:=qal hp;omega⟩
   ·refine⟨j,by omega,fun t p ht hp=>hb t ht p hp,fun t p ht hp=>?_⟩
    simp only[Classical.not_forall,not_imp] at hn
    obtain⟨q,hq,hlt⟩:=hn
    have hne:q.id≠id:=fun e=>h ⟨j,q,hq,e⟩
    rcases Nat.lt_or_ge j t with h' | h'
    ·have:=hv.up.mono h' hq hp;omega
    ·have:t=j:=by omega
     subst this
     rw[hq] at hp
     cases hp
     omega
abbrev atT (id:Int) (k:Nat):List (Nat×SV):=[(1,.pv (iV id)),(2,.pp 1 0),(5,.pv (iV (k:Int)))]
theorem qtE {l:List Pt} (hv:Val l) {id:Int} {k:Nat} {p:Pt} (hk:l[k]?=some p) (he:p.id=id):Fn 43 1 [qav 0 l,.pv (iV id)] [(0,0,qag l)] (.pv (iV (k:Int))) 0 []:=by
 refine qqV (RunsL.rounds (atT id) (fun _=>[(1,0,.ls 0 l.length),(0,0,qag l)]) k 0 (Nat.zero_add _) (fun j _ hj r=>?_) (qpx hk (qaX (qal hk)) (dt (by have:=qal hk;omega)) (by simpa using he)))
 have hl:=qal hk
 obtain⟨q,hq⟩:=qao (l:=l) (k:=j) (by omega)
 exact qnd hq (qaX (qal hq)) (dt (by omega)) (by have:=hv.up.mono hj hq hk;simp;omega) (qjs (qal hq) hv.len) r
theorem qrb (a pa pb id:Int):∃ c,Pure Try.prog 119 #[qaa a pa pb,iV id] (iV c)∧(c<0↔a<id)∧(c=0↔a=id):=by
 rcases Int.lt_trichotomy a id with h | h | h
 ·exact⟨-1,qkz (by simp) (by simp) (dt h),⟨fun _=>h,fun _=>by omega⟩,⟨fun h=>by omega,fun h=>by omega⟩⟩
 ·exact⟨0,qlv (by simp) (by simp) (df (by omega)) (df (by omega)),⟨fun h=>by omega,fun h=>by omega⟩,⟨fun _=>h,fun _=>rfl⟩⟩
 ·exact⟨1,qkL (by simp) (by simp) (df (by omega)) (dt (by omega)),⟨fun h=>by omega,fun h=>by omega⟩,⟨fun h=>by omega,fun h=>by omega⟩⟩
abbrev bsT (l:List Pt) (id:Int) (i j:Nat):List (Nat×SV):=[(0,.ls 0 l.length),(1,.pv (iV id)),(2,.pv (.func (.func 119) #[] #[])),(8,.pv (iV (l.length:Int))),(9,.pv (iV (i:Int))),(10,.pv (iV (j:Int)))]
theorem qnV {l:List Pt} (hn:l.length≤64) {id:Int} {k:Nat} (hlo:∀ (t:Nat) (p:Pt),t<k→l[t]?=some p→p.id<id) (hhi:∀ (t:Nat) (p:Pt),k≤t→l[t]?=some p→¬ p.id<id):∀ (d i j:Nat),j-i≤d→i≤k→k≤j→j≤l.length→
 Rl 1 1 118 0 49 1 (bsT l id i j) [(0,0,qag l)] (.exit 0) (bsT l id k k) [(0,0,qag l)]:=by
 intro d
 induction d with
 | zero=>
  intro i j hd h1 h2 h3
  have:i=k:=by omega
  have:j=k:=by omega
  subst i j
  exact qmL (df (by omega))
 | succ d ih=>
  intro i j hd h1 h2 h3
  by_cases hij:i<j
  ·obtain⟨p,hp⟩:=qao (l:=l) (k:=(i+j)/2) (by omega)
   obtain⟨c,hc,hc1,hc2⟩:=qrb p.id p.a p.b id
   have a1:iV (IntKind.i64.wrap ((i:Int)+(j:Int)))=iV ((i:Int)+(j:Int)):=by rw[qaQ (by omega) (by omega)]
   have a2:Value.int .u64 (IntKind.u64.wrap ((i:Int)+(j:Int)))=.int .u64 ((i:Int)+(j:Int)):=by rw[qgb (by omega) (by omega)]
   have a3:Value.int .u64 (((i:Int)+(j:Int)).fdiv (2 ^ (min (1:Int).toNat IntKind.u64.bits)))=.int .u64 (((i+j)/2:Nat):Int):=by
    have:(2:Int) ^ (min (1:Int).toNat IntKind.u64.bits)=2:=rfl
    rw[this,Int.fdiv_eq_ediv_of_nonneg _ (by omega)]
    congr 1
   have a4:iV (IntKind.i64.wrap (((i+j)/2:Nat):Int))=iV (((i+j)/2:Nat):Int):=by rw[qaQ (by omega) (by omega)]
   by_cases hlt:p.id<id
   ·refine qs6 hp (qaX (qal hp)) (dt (by omega)) a1 a2 (by omega) a3 a4 hc (dt (hc1.2 hlt)) (qaj (by omega)) (ih _ _ (by omega) ?_ h2 h3)
    rcases Nat.lt_or_ge ((i+j)/2) k with h | h
    ·exact h
    ·exact (hhi _ p h hp hlt).elim
   ·refine qrZ hp (qaX (qal hp)) (dt (by omega)) a1 a2 (by omega) a3 a4 hc (df (fun h=>hlt (hc1.1 h))) (ih _ _ (by omega) h1 ?_ (by omega))
    rcases Nat.lt_or_ge ((i+j)/2) k with h | h
    ·exact (hlt (hlo _ p h hp)).elim
    ·exact h
  ·have:i=k:=by omega
   have:j=k:=by omega
   subst i j
   exact qmL (df (by omega))
theorem qrt {l:List Pt} (hv:Val l) {id:Int} {k:Nat} {p:Pt} (hk:l[k]?=some p) (he:p.id=id):Fn 109 1 [qav 0 l,.pv (iV id)] [(0,0,qag l)] (.pv (.tuple #[iV (k:Int),.bool true])) 0 []:=by
 subst he
 obtain⟨c,hc,hc1,hc2⟩:=qrb p.id p.a p.b p.id
 have hl:=qal hk
 refine qjx (qoQ (qnV hv.len (fun t q ht hq=>hv.up.mono ht hq hk) (fun t q ht hq=>?_) l.length 0 l.length (by omega) (Nat.zero_le _) (by omega) (Nat.le_refl _)) hk (qaX hl) (dt (by omega)) hc (by simpa using hc2.2 rfl))
 rcases Nat.lt_or_ge k t with h | h
 ·have:=hv.up.mono h hk hq;omega
 ·have:t=k:=by omega
  subst this
  rw[hk] at hq;cases hq;omega
end Go.Proofs.Ytalnjplghagbpaa

namespace Go.Proofs.Ytalnjplghagbpaa
set_option maxRecDepth 100000
open Go.RowKit
theorem qiX (l:List Pt):(¬ (l.length≤16∨64≤l.length∧l.length≤70)∧Fn 25 1 [qav 0 l] [(0,0,qag l)] (.pv (.bool true)) 0 [])∨
 ((l.length≤16∨64≤l.length∧l.length≤70)∧Fn 25 1 [qav 0 l] [(0,0,qag l)] (.pv (.bool false)) 0 []):=by
 by_cases h1:l.length>16
 ·by_cases h2:l.length<64
  ·exact Or.inl ⟨by omega,qod (dt (by omega)) (dt (by omega))⟩
  ·by_cases h3:l.length>70
   ·exact Or.inl ⟨by omega,qk1 (dt (by omega)) (df (by omega)) (dt (by omega))⟩
   ·exact Or.inr ⟨by omega,qlH (dt (by omega)) (df (by omega)) (df (by omega))⟩
 ·exact Or.inr ⟨by omega,qny (df (by omega)) (df (by omega))⟩
theorem qlx {l:List Pt} (hn:l.length≤1000000):Fn 28 1 [qav 0 l] [(0,0,qag l)] (.ag [.ls 1 l.length]) 1 [(1,0,qag l)]:=qi3 (by omega)
abbrev qtx (f:FuncId) (l:List Pt) (id:Int) (p:Pt) (e:Int):Prop:=Fn f 1 [qav 0 l,.pv (iV id)] [(0,0,qag l)] (.pv (.tuple #[ptV p,iV e])) 0 []
theorem qbV {α:Type} {l:List α} {k:Nat} {p:α} (h:l[k]?=some p):l.take (k+1)=l.take k++[p]:=by rw[List.take_add_one,h];rfl
abbrev saT (k:Nat):List (Nat×SV):=[(2,.pp 2 0),(3,.pp 3 0),(5,.pv (iV (k:Int)))]
theorem qoi {l:List Pt} (hn:l.length≤1000000):Fn 35 2 [qav 0 l,qav 1 l] [(0,0,qag l),(1,0,qag l)] (.pv (.bool true)) 0 []:=
 qkH (by simp) (RunsL.rounds saT (fun _=>[(2,0,.ls 0 l.length),(3,0,.ls 1 l.length),(0,0,qag l),(1,0,qag l)]) l.length 0 (Nat.zero_add _)
  (fun k _ hk r=>by
   obtain⟨p,hp⟩:=qao hk
   exact qj6 hp (qaX hk) hp (qaX hk) (dt (by omega)) (by simp) (qaj (by omega)) r)
  (qkZ (df (by omega))))
end Go.Proofs.Ytalnjplghagbpaa

namespace Go.Proofs.Ytalnjplghagbpaa
set_option maxRecDepth 100000
open Go.RowKit
def ld (tn td:Int) (p q:Pt):Bool:=qbu (p.a*td+p.b*tn) (q.a*td+q.b*tn) p.b q.b p.id q.id
theorem qcV {P Q pb qb pi qi:Int}:qbu P Q pb qb pi qi=true↔(P>Q∨P=Q∧(pb>qb∨pb=qb∧pi<qi)):=by unfold qbu;exact decide_eq_true_iff
theorem qbI {P Q pb qb pi qi:Int}:qbu P Q pb qb pi qi=false↔¬ (P>Q∨P=Q∧(pb>qb∨pb=qb∧pi<qi)):=by unfold qbu;exact decide_eq_false_iff_not
section
variable {tn td:Int} {p q r:Pt}
theorem qfp (p:Pt):ld tn td p p=false:=qbI.2 (by omega)
theorem qcu (h:ld tn td p q=true) (k:ld tn td q r=true):ld tn td p r=true:=by
 unfold ld at *
 generalize p.a*td+p.b*tn=P at *
 generalize q.a*td+q.b*tn=Q at *
 generalize r.a*td+r.b*tn=R at *
 rw[qcV] at *
 omega
theorem qix (h:ld tn td p q=false) (k:ld tn td q r=false):ld tn td p r=false:=by
 unfold ld at *
 generalize p.a*td+p.b*tn=P at *
 generalize q.a*td+q.b*tn=Q at *
 generalize r.a*td+r.b*tn=R at *
 rw[qbI] at *
 omega
theorem qdF (h:ld tn td p q=true):ld tn td q p=false:=by
 cases hh:ld tn td q p
 ·rfl
 ·have:=qcu h hh;rw[qfp] at this;cases this
theorem qqc (hi:p.id≠q.id) (h:ld tn td p q=false):ld tn td q p=true:=by
 unfold ld at *
 generalize p.a*td+p.b*tn=P at *
 generalize q.a*td+q.b*tn=Q at *
 rw[qbI] at h
 rw[qcV]
 omega
end
def rk (tn td:Int) (l:List Pt) (p:Pt):Nat:=l.countP fun q=>ld tn td q p
theorem qmZ {tn td:Int}:∀ (s:List Pt) (k:Nat) (p:Pt),s.Pairwise (fun p q=>ld tn td p q=true)→s[k]?=some p→rk tn td s p=k
 | [],_,_,_,h=>by simp at h
 | a::r,0,p,hp,h=>by
  simp only[List.getElem?_cons_zero,Option.some.injEq] at h
  subst h
  rw[List.pairwise_cons] at hp
  unfold rk
  rw[List.countP_eq_zero]
  intro q hq
  rcases List.mem_cons.1 hq with rfl | hq
  ·rw[qfp];decide
  ·rw[qdF (hp.1 q hq)];decide
 | a::r,k+1,p,hp,h=>by
  rw[List.getElem?_cons_succ] at h
  rw[List.pairwise_cons] at hp
  have:=qmZ r k p hp.2 h
  unfold rk at this ⊢
  rw[List.countP_cons,this,if_pos (hp.1 p (List.mem_of_getElem? h))]
structure Srt (l:List Pt) (tn td:Int) (s:List Pt):Prop where
 perm:s.Perm l
 pw:s.Pairwise (fun p q=>ld tn td p q=true)
theorem Srt.len {l s:List Pt} {tn td:Int} (h:Srt l tn td s):s.length=l.length:=h.perm.length_eq
theorem Srt.rank {l s:List Pt} {tn td:Int} (h:Srt l tn td s) {k:Nat} {p:Pt} (hk:s[k]?=some p):rk tn td l p=k:=by
 have:=qmZ s k p h.pw hk
 unfold rk at this ⊢
 rw[← h.perm.countP_eq];exact this
theorem Srt.at {l s:List Pt} {tn td:Int} (h:Srt l tn td s) {p:Pt} (hp:p∈l):s[rk tn td l p]?=some p:=by
 obtain⟨k,hk,e⟩:=List.getElem_of_mem (h.perm.mem_iff.2 hp)
 have hk':s[k]?=some p:=by rw[List.getElem?_eq_getElem hk,e]
 rw[h.rank hk'];exact hk'
theorem Srt.lt {l s:List Pt} {tn td:Int} (h:Srt l tn td s) {p:Pt} (hp:p∈l):rk tn td l p<l.length:=by rw[← h.len];exact qal (h.at hp)
theorem Srt.uniq {l s t:List Pt} {tn td:Int} (h:Srt l tn td s) (k:Srt l tn td t):s=t:=by
 apply List.ext_getElem?
 intro i
 by_cases hi:i<t.length
 ·obtain⟨p,hp⟩:=qao hi
  rw[hp]
  have:=h.at (k.perm.mem_iff.1 (List.mem_of_getElem? hp))
  rw[k.rank hp] at this
  exact this
 ·have e1:t[i]?=none:=List.getElem?_eq_none (by omega)
  have e2:s[i]?=none:=List.getElem?_eq_none (by have:=h.len;have:=k.len;omega)
  rw[e1,e2]
theorem Srt.mk_of {l s:List Pt} {tn td:Int} (hv:Val l) (hp:s.Perm l) (h:s.Pairwise (fun p q=>ld tn td q p=false)):Srt l tn td s:=by
 have hne:l.Pairwise (fun p q=>p.id≠q.id):=by
  rw[List.pairwise_iff_getElem]
  intro i j hi hj hij
  have:=hv.up.mono hij (List.getElem?_eq_getElem hi) (List.getElem?_eq_getElem hj)
  omega
 have hns:s.Pairwise (fun p q=>p.id≠q.id):=(hp.pairwise_iff (fun h e=>h e.symm)).2 hne
 exact⟨hp,(h.and hns).imp fun ⟨a,b⟩=>qqc (fun e=>b e.symm) a⟩
theorem qkm {l:List Pt} {tn td:Int} (hv:Val l):∃ s,Srt l tn td s:=by
 refine⟨l.mergeSort (fun p q=>!ld tn td q p),Srt.mk_of hv (List.mergeSort_perm _ _) ?_⟩
 have h:=List.pairwise_mergeSort (le:=fun p q:Pt=>!ld tn td q p) (fun a b c h1 h2=>?_) (fun a b=>?_) l
 ·exact h.imp fun {a b} h=>by simpa using h
 ·have h1':ld tn td b a=false:=by simpa using h1
  have h2':ld tn td c b=false:=by simpa using h2
  simp[qix h2' h1']
 ·cases h:ld tn td b a
  ·simp
  ·simp[qdF h]
theorem qtw {l:List Pt} {tn td:Int} {X:Prop} (hv:Val l) (_:X):∃ s,Srt l tn td s:=qkm hv
theorem qq1 {l:List Pt} (hv:Val l) {p q:Pt} (hp:p∈l) (hq:q∈l) (e:p.id=q.id):p=q:=by
 obtain⟨i,hi,rfl⟩:=List.getElem_of_mem hp
 obtain⟨j,hj,rfl⟩:=List.getElem_of_mem hq
 rcases Nat.lt_trichotomy i j with h | h | h
 ·have:=hv.up.mono h (List.getElem?_eq_getElem hi) (List.getElem?_eq_getElem hj);omega
 ·subst h;rfl
 ·have:=hv.up.mono h (List.getElem?_eq_getElem hj) (List.getElem?_eq_getElem hi);omega
def cfL (tn td:Int) (p q:Pt):Int:=if p.id=q.id then 0 else if ld tn td p q=true then -1 else 1
theorem qnW {tn td:Int} {p q:Pt} (h:p.id=q.id→p=q):decide (cfL tn td p q<0)=ld tn td p q:=by
 unfold cfL
 by_cases e:p.id=q.id
 ·rw[if_pos e,h e,qfp];rfl
 ·rw[if_neg e]
  cases ld tn td p q<;>rfl
theorem qsO {tn td:Int} {l:List Pt} {k:Nat} {q p:Pt} (hq:l[k]?=some q):rk tn td (l.take (k+1)) p=rk tn td (l.take k) p+(if ld tn td q p=true then 1 else 0):=by
 have:l.take (k+1)=l.take k++[q]:=by rw[List.take_add_one,hq];rfl
 unfold rk
 rw[this,List.countP_append,List.countP_cons,List.countP_nil,Nat.zero_add]
end Go.Proofs.Ytalnjplghagbpaa

namespace Go.Proofs.Ytalnjplghagbpaa
set_option maxRecDepth 100000
open Go.RowKit
structure Tm (tn td:Int):Prop where
 hn:I64 tn
 hd:I64 td
 ok:okB tn td=true
noncomputable def tE (l:List Pt) (tn td:Int):Int:=if qdN l=0 then (if okB tn td=true then 0 else 8) else qdN l
theorem qsN {tn td:Int} (hn:I64 tn) (hd:I64 td) (l:List Pt):Fn 80 1 [qav 0 l,.pv (qab tn td)] [(0,0,qag l)] (.pv (iV (tE l tn td))) 0 []:=by
 unfold tE
 by_cases h0:qdN l=0
 ·have c1:=qb4 l
  rw[h0] at c1
  rw[if_pos h0]
  by_cases hp:okB tn td=true
  ·rw[if_pos hp];exact qmw c1 (qb3 hn hd hp)
  ·rw[if_neg hp];exact qmw c1 (qbS hn hd hp)
 ·rw[if_neg h0]
  exact qnj (qb4 l) (by simp[h0])
theorem qeM {tn td:Int} (hn:I64 tn) (hd:I64 td) (l:List Pt):Fn 64 1 [qav 0 l,.pv (qab tn td)] [(0,0,qag l)] (.pv (iV (tE l tn td))) 0 []:=by
 unfold tE
 by_cases h0:qdN l=0
 ·have c1:=qdS l
  rw[h0] at c1
  rw[if_pos h0]
  by_cases hp:okB tn td=true
  ·rw[if_pos hp];exact qmM c1 (qji hn hd hp)
  ·rw[if_neg hp];exact qmM c1 (qhp hn hd hp)
 ·rw[if_neg h0]
  exact qnb (qdS l) (by simp[h0])
theorem qpJ {l:List Pt} {tn td:Int} (hv:Val l) (ht:okB tn td=true):tE l tn td=0:=by unfold tE;rw[if_pos (qej.2 hv),if_pos ht]
theorem qtv {l:List Pt} {tn td:Int} (h:tE l tn td=0):Val l∧okB tn td=true:=by
 unfold tE at h
 by_cases h0:qdN l=0
 ·rw[if_pos h0] at h
  by_cases hp:okB tn td=true
  ·exact⟨qej.1 h0,hp⟩
  ·rw[if_neg hp] at h;cases h
 ·rw[if_neg h0] at h;exact (h0 h).elim
section
variable {l:List Pt} {tn td:Int}
theorem qpk (ht:Tm tn td) {p q:Pt} (hp:qfw p=true) (hq:qfw q=true) :
 Fn 106 1 [.pv (ptV p),.pv (ptV q),.pp 0 0] [(0,0,.pv (iV tn)),(0,1,.pv (iV td))] (.pv (iV (cfL tn td p q))) 0 []:=by
 unfold cfL
 by_cases e:p.id=q.id
 ·rw[if_pos e];exact qsF (by simp[e])
 ·rw[if_neg e]
  have a:=qgN ht.hn ht.hd hp hq ht.ok e
  have hl:qbu (p.a*td+p.b*tn) (q.a*td+q.b*tn) p.b q.b p.id q.id=ld tn td p q:=rfl
  rw[hl] at a
  cases hc:ld tn td p q<;>rw[hc] at a
  ·rw[if_neg (by decide)];exact qr6 (by simp[e]) a
  ·rw[if_pos rfl];exact qsS (by simp[e]) a
theorem qem (hv:Val l) (ht:Tm tn td) {s:List Pt} (hs:Srt l tn td s) {m:Pt} (hm:s[0]?=some m):∀ (d k:Nat) (c:Pt),k+d=l.length→c∈l→(∀ (j:Nat) (q:Pt),j<k→l[j]?=some q→ld tn td q c=false)→
 Rl 2 2 81 0 33 4 ([(0,.ls 0 l.length),(1,.pc 106 [.pp 1 0]),(4,.pp 2 0),(5,.pp 3 0),(6,.pv (iV (k:Int)))]) ([(0,0,qag l),(1,0,.pv (iV tn)),(1,1,.pv (iV td)),(3,0,.pv (iV (c).id)),(3,1,.pv (iV (c).a)),(3,2,.pv (iV (c).b)),(2,0,.pv (iV 0)),(2,1,.pv (iV 0)),(2,2,.pv (iV 0))]) (.exit 0) ([(4,.pp 2 0),(5,.pp 3 0)]) ([(0,0,qag l),(1,0,.pv (iV tn)),(1,1,.pv (iV td)),(3,0,.pv (iV (m).id)),(3,1,.pv (iV (m).a)),(3,2,.pv (iV (m).b)),(2,0,.pv (iV 0)),(2,1,.pv (iV 0)),(2,2,.pv (iV 0))])
 | 0,k,c,hd,hc,hf=>by
  have h0:rk tn td l c=0:=by
   unfold rk
   rw[List.countP_eq_zero]
   intro q hq
   obtain⟨j,hj,rfl⟩:=List.getElem_of_mem hq
   rw[hf j _ (by omega) (List.getElem?_eq_getElem hj)];decide
  have:=hs.at hc
  rw[h0,hm] at this
  cases this
  exact qqN (df (by omega))
 | d+1,k,c,hd,hc,hf=>by
  obtain⟨p,hp⟩:=qao (l:=l) (k:=k) (by omega)
  have hpm:=List.mem_of_getElem? hp
  have hcf:=qnW (tn:=tn) (td:=td) (p:=p) (q:=c) (fun e=>qq1 hv hpm hc e)
  have hl:=qpk ht (hv.ok p hpm) (hv.ok c hc)
  cases hx:ld tn td p c<;>rw[hx] at hcf
  ·exact qs8 hp (qaX (qal hp)) (dt (by omega)) hl hcf (qjs (qal hp) hv.len) (qem hv ht hs hm d (k+1) c (by omega) hc fun j q hj hq=>by
    by_cases e:j=k
    ·subst e;rw[hp] at hq;cases hq;exact hx
    ·exact hf j q (by omega) hq)
  ·exact qsZ hp (qaX (qal hp)) (dt (by omega)) hl hcf (qjs (qal hp) hv.len) (qem hv ht hs hm d (k+1) p (by omega) hpm fun j q hj hq=>by
    by_cases e:j=k
    ·subst e;rw[hp] at hq;cases hq;exact qfp _
    ·cases hh:ld tn td q p
     ·rfl
     ·have h1:=qcu hh hx
      have h2:=hf j q (by omega) hq
      rw[h1] at h2;cases h2)
theorem qsl (hv:Val l) (ht:Tm tn td) {s:List Pt} (hs:Srt l tn td s) {m:Pt} (hm:s[0]?=some m) :
 Fn 81 2 [.ls 0 l.length,.pc 106 [.pp 1 0]] [(0,0,qag l),(1,0,.pv (iV tn)),(1,1,.pv (iV td))] (.pv (ptV m)) 0 []:=by
 have hl:0<l.length:=by have:=qal hm;rw[hs.len] at this;exact this
 obtain⟨p,hp⟩:=qao hl
 exact qnn hp (qaX (k:=0) hl) (df (by omega)) (qem hv ht hs hm (l.length-1) (0+1) p (by omega) (List.mem_of_getElem? hp) fun j q hj hq=>by
  have:j=0:=by omega
  subst this
  rw[hp] at hq;cases hq;exact qfp _)
theorem qta (s:List Pt):(s.map Pt.id).length=s.length:=List.length_map _
end
end Go.Proofs.Ytalnjplghagbpaa
