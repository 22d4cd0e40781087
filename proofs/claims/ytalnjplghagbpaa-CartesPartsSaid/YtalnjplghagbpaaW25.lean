/-
  Joined: Fm, Fn, Fr, Fs. Conditions: none.
-/
import Derived.Test.YtalnjplghagbpaaW24
import Derived.Test.YtalnjplghagbpaaW23
import Derived.Test.YtalnjplghagbpaaW19
import Derived.Test.YtalnjplghagbpaaW20
namespace Go.Proofs.Ytalnjplghagbpaa
set_option maxRecDepth 100000
open Go.RowKit
def qfh (p:Pt):Bool:=okP p.id p.a p.b
def Up (l:List Pt):Prop:=∀ (k:Nat) (p q:Pt),l[k]?=some p→l[k+1]?=some q→p.id<q.id
noncomputable def qd7 (l:List Pt):Int:=open Classical in if 64<l.length then 4 else if ∀ p∈l,qfh p=true then (if Up l then 0 else 32) else 8
theorem qaK (P:Nat→Prop):∀ (N:Nat),(∀ k,k<N→P k)∨∃ j,j<N∧¬ P j∧∀ i,i<j→P i
 | 0=>Or.inl fun k hk=>by omega
 | N+1=>by
  rcases qaK P N with h | ⟨j,h1,h2⟩
  ·by_cases hN:P N
   ·exact Or.inl fun k hk=>by
     rcases Nat.lt_or_ge k N with h' | h'
     ·exact h k h'
     ·have:k=N:=by omega
      subst this;exact hN
   ·exact Or.inr ⟨N,by omega,hN,h⟩
  ·exact Or.inr ⟨j,by omega,h2⟩
theorem qal {α:Type} {l:List α} {k:Nat} (h:k<l.length):∃ p,l[k]?=some p:=⟨l[k],List.getElem?_eq_getElem h⟩
theorem qai {α:Type} {l:List α} {k:Nat} {p:α} (h:l[k]?=some p):k<l.length:=(List.getElem?_eq_some_iff.1 h).1
theorem qaY {k n:Nat} (h:k<n):0≤(k:Int)∧(k:Int)<(n:Int):=⟨by omega,by omega⟩
theorem Up.mono {l:List Pt} (h:Up l):∀ {i j:Nat} {p q:Pt},i<j→l[i]?=some p→l[j]?=some q→p.id<q.id:=by
 intro i j
 induction j with
 | zero=>intro p q hij;omega
 | succ j ih=>
  intro p q hij hp hq
  by_cases e:i=j
  ·subst e;exact h i p q hp hq
  ·obtain⟨r,hr⟩:=qal (l:=l) (k:=j) (by have:=qai hq;omega)
   exact Int.lt_trans (ih (by omega) hp hr) (h j r q hr hq)
theorem qi7 {k n:Nat} (h:k<n) (hn:n≤64):iV (IntKind.i64.wrap ((k:Int)+1))=iV ((k+1:Nat):Int):=qan (by omega)
theorem qg6 {l:List Pt} (hn:l.length≤64) (h:∀ p∈l,qfh p=true):Rl 1 1 75 0 44 2 [(1,.pp 1 0),(3,.pv (iV ((0:Nat):Int)))] [(1,0,.ls 0 l.length),(0,0,qag l)] (.exit 0) [(1,.pp 1 0)] [(1,0,.ls 0 l.length),(0,0,qag l)]:=
 RunsL.rounds (fun k=>[(1,.pp 1 0),(3,.pv (iV (k:Int)))]) (fun _=>[(1,0,.ls 0 l.length),(0,0,qag l)]) l.length 0 (Nat.zero_add _)
  (fun k _ hk r=>by
   obtain⟨p,hp⟩:=qal hk
   exact qhr hp (qaY hk) (dt (by omega)) (qdM (h p (List.mem_of_getElem? hp))) (qi7 hk hn) r)
  (qp4 (df (by omega)))
theorem qfU {l:List Pt} (hn:l.length≤64) {j:Nat} {p:Pt} (hp:l[j]?=some p) (hb:¬ qfh p=true) (h:∀ i,i<j→∀ q,l[i]?=some q→qfh q=true):Rl 1 1 75 0 44 2 [(1,.pp 1 0),(3,.pv (iV ((0:Nat):Int)))] [(1,0,.ls 0 l.length),(0,0,qag l)] .ret [(2,.pv (iV 8))] []:=by
 have hj:=qai hp
 refine RunsL.rounds (fun k=>[(1,.pp 1 0),(3,.pv (iV (k:Int)))]) (fun _=>[(1,0,.ls 0 l.length),(0,0,qag l)]) j 0 (Nat.zero_add _) (fun k _ hk r=>?_) (qqi hp (qaY hj) (dt (by omega)) (qfY hb))
 obtain⟨q,hq⟩:=qal (l:=l) (k:=k) (by omega)
 exact qhr hq (qaY (qai hq)) (dt (by omega)) (qdM (h k hk q hq)) (qi7 (qai hq) hn) r
theorem qcm (k:Nat) (h:k≤1000000):iV (IntKind.i64.wrap (((k+1:Nat):Int)-1))=iV (k:Int):=by rw[show ((k+1:Nat):Int)-1=(k:Int) by omega,qaj (by omega) (by omega)]
theorem qnk {l:List Pt} (hn:l.length≤64) (h:Up l):Rl 1 1 75 1 44 2 [(1,.pp 1 0),(4,.pv (iV ((0+1:Nat):Int)))] [(1,0,.ls 0 l.length),(0,0,qag l)] (.exit 2) [] []:=by
 by_cases h0:l.length=0
 ·exact qjf (k:=0+1) (df (by omega))
 refine RunsL.rounds (fun k=>[(1,.pp 1 0),(4,.pv (iV (k:Int)))]) (fun _=>[(1,0,.ls 0 l.length),(0,0,qag l)]) (N:=l.length) (l.length-1) (0+1) (by omega) (fun k h1 hk r=>?_) (qjf (df (by omega)))
 obtain⟨m,rfl⟩:∃ m,k=m+1:=⟨k-1,by omega⟩
 obtain⟨q,hq⟩:=qal (l:=l) (k:=m) (by omega)
 obtain⟨p,hp⟩:=qal hk
 exact qhV hq hp (qaY (by omega)) (qaY hk) (dt (by omega)) (qcm m (by omega)) (df (by have:=h m q p hq hp;omega)) (qi7 hk hn) r
theorem qfX {l:List Pt} (hn:l.length≤64) {j:Nat} {p q:Pt} (hq:l[j]?=some q) (hp:l[j+1]?=some p) (hb:¬ q.id<p.id) (h:∀ i,i<j→∀ p q,l[i]?=some p→l[i+1]?=some q→p.id<q.id):Rl 1 1 75 1 44 2 [(1,.pp 1 0),(4,.pv (iV ((0+1:Nat):Int)))] [(1,0,.ls 0 l.length),(0,0,qag l)] .ret [(2,.pv (iV 32))] []:=by
 have hj:=qai hp
 refine RunsL.rounds (fun k=>[(1,.pp 1 0),(4,.pv (iV (k:Int)))]) (fun _=>[(1,0,.ls 0 l.length),(0,0,qag l)]) (N:=j+1) j (0+1) (by omega) (fun k h1 hk r=>?_) (qqn hq hp (qaY (by omega)) (qaY hj) (dt (by omega)) (qcm j (by omega)) (dt (by omega)))
 obtain⟨m,rfl⟩:∃ m,k=m+1:=⟨k-1,by omega⟩
 obtain⟨q',hq'⟩:=qal (l:=l) (k:=m) (by omega)
 obtain⟨p',hp'⟩:=qal (l:=l) (k:=m+1) (by omega)
 exact qhV hq' hp' (qaY (by omega)) (qaY (by omega)) (dt (by omega)) (qcm m (by omega)) (df (by have:=h m (by omega) q' p' hq' hp';omega)) (qi7 (n:=l.length) (by omega) hn) r
theorem qdS (l:List Pt):(64<l.length∧qd7 l=4)∨(l.length≤64∧(∃ (j:Nat) (p:Pt),l[j]?=some p∧¬ qfh p=true∧∀ i,i<j→∀ q,l[i]?=some q→qfh q=true)∧qd7 l=8)∨
 (l.length≤64∧(∀ p∈l,qfh p=true)∧(∃ (j:Nat) (p q:Pt),l[j]?=some q∧l[j+1]?=some p∧¬ q.id<p.id∧∀ i,i<j→∀ p q,l[i]?=some p→l[i+1]?=some q→p.id<q.id)∧qd7 l=32)∨
 (l.length≤64∧(∀ p∈l,qfh p=true)∧Up l∧qd7 l=0):=by
 by_cases h0:64<l.length
 ·exact Or.inl ⟨h0,by unfold qd7;rw[if_pos h0]⟩
 refine Or.inr ?_
 by_cases h1:∀ p∈l,qfh p=true
 ·refine Or.inr ?_
  by_cases h2:Up l
  ·exact Or.inr ⟨by omega,h1,h2,by unfold qd7;rw[if_neg h0,if_pos h1,if_pos h2]⟩
  ·refine Or.inl ⟨by omega,h1,?_,by unfold qd7;rw[if_neg h0,if_pos h1,if_neg h2]⟩
   rcases qaK (fun k=>∀ p q,l[k]?=some p→l[k+1]?=some q→p.id<q.id) l.length with h | ⟨j,hj,hn,hb⟩
   ·exact (h2 fun k p q hp hq=>h k (qai hp) p q hp hq).elim
   ·simp only[Classical.not_forall,not_imp] at hn
    obtain⟨p,q,hp,hq,hpq⟩:=hn
    exact⟨j,q,p,hp,hq,hpq,hb⟩
 ·refine Or.inl ⟨by omega,?_,by unfold qd7;rw[if_neg h0,if_neg h1]⟩
  rcases qaK (fun k=>∀ q,l[k]?=some q→qfh q=true) l.length with h | ⟨j,hj,hn,hb⟩
  ·exact (h1 fun p hp=>by obtain⟨k,hk,rfl⟩:=List.getElem_of_mem hp;exact h k hk _ (List.getElem?_eq_getElem hk)).elim
  ·simp only[Classical.not_forall,not_imp] at hn
   obtain⟨p,hp,hpq⟩:=hn
   exact⟨j,p,hp,hpq,hb⟩
theorem qc4 (l:List Pt):Fn 75 1 [qaq 0 l] [(0,0,qag l)] (.pv (iV (qd7 l))) 0 []:=by
 rcases qdS l with ⟨h,e⟩ | ⟨h,⟨j,p,hp,hb,hf⟩,e⟩ | ⟨h,h1,⟨j,p,q,hq,hp,hb,hf⟩,e⟩ | ⟨h,h1,h2,e⟩<;>rw[e]
 ·exact qpy (dt (by omega))
 ·exact qtw (df (by omega)) (qfU h hp hb hf)
 ·exact qsW (df (by omega)) (qg6 h h1) (qfX h hq hp hb hf)
 ·exact qvx (df (by omega)) (qg6 h h1) (qnk h h2)
abbrev pcT (l:List Pt) (k:Nat):List (Nat×SV):=[(1,.pp 1 0),(12,.ls 0 l.length),(13,.pv (iV (l.length:Int))),(14,.pv (iV (k:Int)))]
theorem qhG {l:List Pt} (hn:l.length≤64) (h:∀ p∈l,qfh p=true):Rl 1 1 47 0 45 2 (pcT l 0) [(1,0,.ls 0 l.length),(0,0,qag l)] (.exit 0) [(1,.pp 1 0)] [(1,0,.ls 0 l.length),(0,0,qag l)]:=
 RunsL.rounds (pcT l) (fun _=>[(1,0,.ls 0 l.length),(0,0,qag l)]) l.length 0 (Nat.zero_add _)
  (fun k _ hk r=>by
   obtain⟨p,hp⟩:=qal hk
   exact qg8 hp (qaY hk) (dt (by omega)) (qci (h p (List.mem_of_getElem? hp))) (qi7 hk hn) r)
  (qo7 (df (by omega)))
theorem qfk {l:List Pt} (hn:l.length≤64) {j:Nat} {p:Pt} (hp:l[j]?=some p) (hb:¬ qfh p=true) (h:∀ i,i<j→∀ q,l[i]?=some q→qfh q=true):Rl 1 1 47 0 45 2 (pcT l 0) [(1,0,.ls 0 l.length),(0,0,qag l)] .ret [(2,.pv (iV 8))] []:=by
 have hj:=qai hp
 refine RunsL.rounds (pcT l) (fun _=>[(1,0,.ls 0 l.length),(0,0,qag l)]) j 0 (Nat.zero_add _) (fun k _ hk r=>?_) (qpr hp (qaY hj) (dt (by omega)) (qgo hb))
 obtain⟨q,hq⟩:=qal (l:=l) (k:=k) (by omega)
 exact qg8 hq (qaY (qai hq)) (dt (by omega)) (qci (h k hk q hq)) (qi7 (qai hq) hn) r
theorem qmT {l:List Pt} (hn:l.length≤64) (h:Up l):Rl 1 1 47 1 45 2 [(1,.pp 1 0),(6,.pv (iV ((0+1:Nat):Int)))] [(1,0,.ls 0 l.length),(0,0,qag l)] (.exit 2) [] []:=by
 by_cases h0:l.length=0
 ·exact qjF (k:=0+1) (df (by omega))
 refine RunsL.rounds (fun k=>[(1,.pp 1 0),(6,.pv (iV (k:Int)))]) (fun _=>[(1,0,.ls 0 l.length),(0,0,qag l)]) (N:=l.length) (l.length-1) (0+1) (by omega) (fun k h1 hk r=>?_) (qjF (df (by omega)))
 obtain⟨m,rfl⟩:∃ m,k=m+1:=⟨k-1,by omega⟩
 obtain⟨q,hq⟩:=qal (l:=l) (k:=m) (by omega)
 obtain⟨p,hp⟩:=qal hk
 exact qhR hq hp (qaY (by omega)) (qaY hk) (dt (by omega)) (qcm m (by omega)) (df (by have:=h m q p hq hp;omega)) (qi7 hk hn) r
theorem qf4 {l:List Pt} (hn:l.length≤64) {j:Nat} {p q:Pt} (hq:l[j]?=some q) (hp:l[j+1]?=some p) (hb:¬ q.id<p.id) (h:∀ i,i<j→∀ p q,l[i]?=some p→l[i+1]?=some q→p.id<q.id):Rl 1 1 47 1 45 2 [(1,.pp 1 0),(6,.pv (iV ((0+1:Nat):Int)))] [(1,0,.ls 0 l.length),(0,0,qag l)] .ret [(2,.pv (iV 32))] []:=by
 have hj:=qai hp
 refine RunsL.rounds (fun k=>[(1,.pp 1 0),(6,.pv (iV (k:Int)))]) (fun _=>[(1,0,.ls 0 l.length),(0,0,qag l)]) (N:=j+1) j (0+1) (by omega) (fun k h1 hk r=>?_) (qqx hq hp (qaY (by omega)) (qaY hj) (dt (by omega)) (qcm j (by omega)) (dt (by omega)))
 obtain⟨m,rfl⟩:∃ m,k=m+1:=⟨k-1,by omega⟩
 obtain⟨q',hq'⟩:=qal (l:=l) (k:=m) (by omega)
 obtain⟨p',hp'⟩:=qal (l:=l) (k:=m+1) (by omega)
 exact qhR hq' hp' (qaY (by omega)) (qaY (by omega)) (dt (by omega)) (qcm m (by omega)) (df (by have:=h m (by omega) q' p' hq' hp';omega)) (qi7 (n:=l.length) (by omega) hn) r
theorem qbp (l:List Pt):Fn 47 1 [qaq 0 l] [(0,0,qag l)] (.pv (iV (qd7 l))) 0 []:=by
 rcases qdS l with ⟨h,e⟩ | ⟨h,⟨j,p,hp,hb,hf⟩,e⟩ | ⟨h,h1,⟨j,p,q,hq,hp,hb,hf⟩,e⟩ | ⟨h,h1,h2,e⟩<;>rw[e]
 ·exact qqL (dt (by omega))
 ·exact qsI (df (by omega)) (qfk h hp hb hf)
 ·exact qsd (df (by omega)) (qhG h h1) (qf4 h hq hp hb hf)
 ·exact qvE (df (by omega)) (qhG h h1) (qmT h h2)
structure Val (l:List Pt):Prop where
 len:l.length≤64
 ok:∀ p∈l,qfh p=true
 up:Up l
theorem qcw {l:List Pt}:qd7 l=0↔Val l:=by
 rcases qdS l with ⟨h,e⟩ | ⟨h,⟨j,p,hp,hb,hf⟩,e⟩ | ⟨h,h1,⟨j,p,q,hq,hp,hb,hf⟩,e⟩ | ⟨h,h1,h2,e⟩<;>rw[e]
 ·exact⟨fun h=>by omega,fun v=>by have:=v.len;omega⟩
 ·exact⟨fun h=>by omega,fun v=>(hb (v.ok p (List.mem_of_getElem? hp))).elim⟩
 ·exact⟨fun h=>by omega,fun v=>(hb (v.up j q p hq hp)).elim⟩
 ·exact⟨fun _=>⟨h,h1,h2⟩,fun _=>rfl⟩
theorem place (l:List Pt) (hv:Val l) (id:Int):(∃ (k:Nat) (p:Pt),l[k]?=some p∧p.id=id)∨((∀ p∈l,p.id≠id)∧∃ k,k≤l.length∧(∀ (t:Nat) (p:Pt),t<k→l[t]?=some p→p.id<id)∧∀ (t:Nat) (p:Pt),k≤t→l[t]?=some p→id<p.id):=by
 by_cases h:∃ (k:Nat) (p:Pt),l[k]?=some p∧p.id=id
 ·exact Or.inl h
 ·refine Or.inr ⟨fun p hp e=>?_,?_⟩
  ·obtain⟨k,hk,rfl⟩:=List.getElem_of_mem hp
   exact h ⟨k,_,List.getElem?_eq_getElem hk,e⟩
  ·rcases qaK (fun k=>∀ p,l[k]?=some p→p.id<id) l.length with hh | ⟨j,hj,hn,hb⟩
   ·exact⟨l.length,Nat.le_refl _,fun t p ht hp=>hh t ht p hp,fun t p ht hp=>by have:=qai hp;omega⟩
   ·refine⟨j,by omega,fun t p ht hp=>hb t ht p hp,fun t p ht hp=>?_⟩
    simp only[Classical.not_forall,not_imp] at hn
    obtain⟨q,hq,hlt⟩:=hn
    have hne:q.id≠id:=fun e=>h ⟨j,q,hq,e⟩
    rcases Nat.lt_or_ge j t with h' | h'
    ·have:=hv.up.mono h' hq hp;omega
    ·have:t=j:=by omega
     subst this
     rw[hq] at hp
     cases hp
     omega
abbrev atT (id:Int) (k:Nat):List (Nat×SV):=[(1,.pv (iV id)),(2,.pp 1 0),(5,.pv (iV (k:Int)))]
theorem quI {l:List Pt} (hn:l.length≤64) {id:Int} (h:∀ p∈l,p.id≠id):Fn 43 1 [qaq 0 l,.pv (iV id)] [(0,0,qag l)] (.pv (iV (-1))) 0 []:=
 quZ (RunsL.rounds (atT id) (fun _=>[(1,0,.ls 0 l.length),(0,0,qag l)]) l.length 0 (Nat.zero_add _)
  (fun k _ hk r=>by
   obtain⟨p,hp⟩:=qal hk
   exact qlg hp (qaY hk) (dt (by omega)) (by simpa using h p (List.mem_of_getElem? hp)) (qi7 hk hn) r)
  (qsg (df (by omega))))
theorem qj1 {l:List Pt} (hv:Val l) {id:Int} {k:Nat} {p:Pt} (hk:l[k]?=some p) (he:p.id=id):Fn 43 1 [qaq 0 l,.pv (iV id)] [(0,0,qag l)] (.pv (iV (k:Int))) 0 []:=by
 refine qtx (RunsL.rounds (atT id) (fun _=>[(1,0,.ls 0 l.length),(0,0,qag l)]) k 0 (Nat.zero_add _) (fun j _ hj r=>?_) (qth hk (qaY (qai hk)) (dt (by have:=qai hk;omega)) (by simpa using he)))
 have hl:=qai hk
 obtain⟨q,hq⟩:=qal (l:=l) (k:=j) (by omega)
 exact qlg hq (qaY (qai hq)) (dt (by omega)) (by have:=hv.up.mono hj hq hk;simp;omega) (qi7 (qai hq) hv.len) r
theorem qo9 (a pa pb id:Int):∃ c,Pure Try.prog 119 #[qab a pa pb,iV id] (iV c)∧(c<0↔a<id)∧(c=0↔a=id):=by
 rcases Int.lt_trichotomy a id with h | h | h
 ·exact⟨-1,ql0 (by simp) (by simp) (dt h),⟨fun _=>h,fun _=>by omega⟩,⟨fun h=>by omega,fun h=>by omega⟩⟩
 ·exact⟨0,qmJ (by simp) (by simp) (df (by omega)) (df (by omega)),⟨fun h=>by omega,fun h=>by omega⟩,⟨fun _=>h,fun _=>rfl⟩⟩
 ·exact⟨1,qmB (by simp) (by simp) (df (by omega)) (dt (by omega)),⟨fun h=>by omega,fun h=>by omega⟩,⟨fun h=>by omega,fun h=>by omega⟩⟩
abbrev bsT (l:List Pt) (id:Int) (i j:Nat):List (Nat×SV):=[(0,.ls 0 l.length),(1,.pv (iV id)),(2,.pv (.func (.func 119) #[] #[])),(8,.pv (iV (l.length:Int))),(9,.pv (iV (i:Int))),(10,.pv (iV (j:Int)))]
theorem qko {l:List Pt} (hn:l.length≤64) {id:Int} {k:Nat} (hlo:∀ (t:Nat) (p:Pt),t<k→l[t]?=some p→p.id<id) (hhi:∀ (t:Nat) (p:Pt),k≤t→l[t]?=some p→¬ p.id<id):∀ (d i j:Nat),j-i≤d→i≤k→k≤j→j≤l.length→
 Rl 1 1 118 0 49 1 (bsT l id i j) [(0,0,qag l)] (.exit 0) (bsT l id k k) [(0,0,qag l)]:=by
 intro d
 induction d with
 | zero=>
  intro i j hd h1 h2 h3
  have:i=k:=by omega
  have:j=k:=by omega
  subst i j
  exact qn3 (df (by omega))
 | succ d ih=>
  intro i j hd h1 h2 h3
  by_cases hij:i<j
  ·obtain⟨p,hp⟩:=qal (l:=l) (k:=(i+j)/2) (by omega)
   obtain⟨c,hc,hc1,hc2⟩:=qo9 p.id p.a p.b id
   have a1:iV (IntKind.i64.wrap ((i:Int)+(j:Int)))=iV ((i:Int)+(j:Int)):=by rw[qaj (by omega) (by omega)]
   have a2:Value.int .u64 (IntKind.u64.wrap ((i:Int)+(j:Int)))=.int .u64 ((i:Int)+(j:Int)):=by rw[qeI (by omega) (by omega)]
   have a3:Value.int .u64 (((i:Int)+(j:Int)).fdiv (2 ^ (min (1:Int).toNat IntKind.u64.bits)))=.int .u64 (((i+j)/2:Nat):Int):=by
    have:(2:Int) ^ (min (1:Int).toNat IntKind.u64.bits)=2:=rfl
    rw[this,Int.fdiv_eq_ediv_of_nonneg _ (by omega)]
    congr 1
   have a4:iV (IntKind.i64.wrap (((i+j)/2:Nat):Int))=iV (((i+j)/2:Nat):Int):=by rw[qaj (by omega) (by omega)]
   by_cases hlt:p.id<id
   ·refine qvb hp (qaY (qai hp)) (dt (by omega)) a1 a2 (by omega) a3 a4 hc (dt (hc1.2 hlt)) (qan (by omega)) (ih _ _ (by omega) ?_ h2 h3)
    rcases Nat.lt_or_ge ((i+j)/2) k with h | h
    ·exact h
    ·exact (hhi _ p h hp hlt).elim
   ·refine qvU hp (qaY (qai hp)) (dt (by omega)) a1 a2 (by omega) a3 a4 hc (df (fun h=>hlt (hc1.1 h))) (ih _ _ (by omega) h1 ?_ (by omega))
    rcases Nat.lt_or_ge ((i+j)/2) k with h | h
    ·exact (hlt (hlo _ p h hp)).elim
    ·exact h
  ·have:i=k:=by omega
   have:j=k:=by omega
   subst i j
   exact qn3 (df (by omega))
theorem qnE {l:List Pt} (hv:Val l) {id:Int} {k:Nat} {p:Pt} (hk:l[k]?=some p) (he:p.id=id):Fn 109 1 [qaq 0 l,.pv (iV id)] [(0,0,qag l)] (.pv (.tuple #[iV (k:Int),.bool true])) 0 []:=by
 subst he
 obtain⟨c,hc,hc1,hc2⟩:=qo9 p.id p.a p.b p.id
 have hl:=qai hk
 refine qdH (qoJ (qko hv.len (fun t q ht hq=>hv.up.mono ht hq hk) (fun t q ht hq=>?_) l.length 0 l.length (by omega) (Nat.zero_le _) (by omega) (Nat.le_refl _)) hk (qaY hl) (dt (by omega)) hc (by simpa using hc2.2 rfl))
 rcases Nat.lt_or_ge k t with h | h
 ·have:=hv.up.mono h hk hq;omega
 ·have:t=k:=by omega
  subst this
  rw[hk] at hq;cases hq;omega
theorem qoS {l:List Pt} (hv:Val l) {id:Int} {k:Nat} (hkl:k≤l.length) (hlo:∀ (t:Nat) (p:Pt),t<k→l[t]?=some p→p.id<id) (hhi:∀ (t:Nat) (p:Pt),k≤t→l[t]?=some p→id<p.id):Fn 109 1 [qaq 0 l,.pv (iV id)] [(0,0,qag l)] (.pv (.tuple #[iV (k:Int),.bool false])) 0 []:=by
 have hb:=qko hv.len hlo (fun t p ht hp=>by have:=hhi t p ht hp;omega) l.length 0 l.length (by omega) (Nat.zero_le _) hkl (Nat.le_refl _)
 by_cases h:k<l.length
 ·obtain⟨p,hp⟩:=qal h
  obtain⟨c,hc,hc1,hc2⟩:=qo9 p.id p.a p.b id
  refine qdH (qss hb hp (qaY h) (dt (by omega)) hc ?_)
  have:=hhi k p (Nat.le_refl _) hp
  simp only[beq_eq_false_iff_ne,ne_eq]
  exact fun e=>by have:=hc2.1 e;omega
 ·exact qdH (qp3 hb (df (by omega)))
end Go.Proofs.Ytalnjplghagbpaa

namespace Go.Proofs.Ytalnjplghagbpaa
set_option maxRecDepth 100000
open Go.RowKit
theorem qkC (l:List Pt):(¬ (l.length≤16∨64≤l.length∧l.length≤70)∧Fn 25 1 [qaq 0 l] [(0,0,qag l)] (.pv (.bool true)) 0 [])∨
 ((l.length≤16∨64≤l.length∧l.length≤70)∧Fn 25 1 [qaq 0 l] [(0,0,qag l)] (.pv (.bool false)) 0 []):=by
 by_cases h1:l.length>16
 ·by_cases h2:l.length<64
  ·exact Or.inl ⟨by omega,qqS (dt (by omega)) (dt (by omega))⟩
  ·by_cases h3:l.length>70
   ·exact Or.inl ⟨by omega,qmQ (dt (by omega)) (df (by omega)) (dt (by omega))⟩
   ·exact Or.inr ⟨by omega,qms (dt (by omega)) (df (by omega)) (df (by omega))⟩
 ·exact Or.inr ⟨by omega,qqW (df (by omega)) (df (by omega))⟩
abbrev qv6 (f:FuncId) (l:List Pt) (id:Int) (p:Pt) (e:Int):Prop:=Fn f 1 [qaq 0 l,.pv (iV id)] [(0,0,qag l)] (.pv (.tuple #[ptV p,iV e])) 0 []
theorem qbK {α:Type} {l:List α} {k:Nat} {p:α} (h:l[k]?=some p):l.take (k+1)=l.take k++[p]:=by rw[List.take_add_one,h];rfl
end Go.Proofs.Ytalnjplghagbpaa

namespace Go.Proofs.Ytalnjplghagbpaa
set_option maxRecDepth 100000
open Go.RowKit
def ld (tn td:Int) (p q:Pt):Bool:=qbB (p.a*td+p.b*tn) (q.a*td+q.b*tn) p.b q.b p.id q.id
theorem qc5 {P Q pb qb pi qi:Int}:qbB P Q pb qb pi qi=true↔(P>Q∨P=Q∧(pb>qb∨pb=qb∧pi<qi)):=by unfold qbB;exact decide_eq_true_iff
theorem qbP {P Q pb qb pi qi:Int}:qbB P Q pb qb pi qi=false↔¬ (P>Q∨P=Q∧(pb>qb∨pb=qb∧pi<qi)):=by unfold qbB;exact decide_eq_false_iff_not
section
variable {tn td:Int} {p q r:Pt}
theorem qfl (p:Pt):ld tn td p p=false:=qbP.2 (by omega)
theorem qcS (h:ld tn td p q=true) (k:ld tn td q r=true):ld tn td p r=true:=by
 unfold ld at *
 generalize p.a*td+p.b*tn=P at *
 generalize q.a*td+q.b*tn=Q at *
 generalize r.a*td+r.b*tn=R at *
 rw[qc5] at *
 omega
theorem qlp (h:ld tn td p q=false) (k:ld tn td q r=false):ld tn td p r=false:=by
 unfold ld at *
 generalize p.a*td+p.b*tn=P at *
 generalize q.a*td+q.b*tn=Q at *
 generalize r.a*td+r.b*tn=R at *
 rw[qbP] at *
 omega
theorem qdZ (h:ld tn td p q=true):ld tn td q p=false:=by
 cases hh:ld tn td q p
 ·rfl
 ·have:=qcS h hh;rw[qfl] at this;cases this
theorem qtE (hi:p.id≠q.id) (h:ld tn td p q=false):ld tn td q p=true:=by
 unfold ld at *
 generalize p.a*td+p.b*tn=P at *
 generalize q.a*td+q.b*tn=Q at *
 rw[qbP] at h
 rw[qc5]
 omega
end
def rk (tn td:Int) (l:List Pt) (p:Pt):Nat:=l.countP fun q=>ld tn td q p
theorem qn5 {tn td:Int}:∀ (s:List Pt) (k:Nat) (p:Pt),s.Pairwise (fun p q=>ld tn td p q=true)→s[k]?=some p→rk tn td s p=k
 | [],_,_,_,h=>by simp at h
 | a::r,0,p,hp,h=>by
  simp only[List.getElem?_cons_zero,Option.some.injEq] at h
  subst h
  rw[List.pairwise_cons] at hp
  unfold rk
  rw[List.countP_eq_zero]
  intro q hq
  rcases List.mem_cons.1 hq with rfl | hq
  ·rw[qfl];decide
  ·rw[qdZ (hp.1 q hq)];decide
 | a::r,k+1,p,hp,h=>by
  rw[List.getElem?_cons_succ] at h
  rw[List.pairwise_cons] at hp
  have:=qn5 r k p hp.2 h
  unfold rk at this ⊢
  rw[List.countP_cons,this,if_pos (hp.1 p (List.mem_of_getElem? h))]
structure Srt (l:List Pt) (tn td:Int) (s:List Pt):Prop where
 perm:s.Perm l
 pw:s.Pairwise (fun p q=>ld tn td p q=true)
theorem Srt.len {l s:List Pt} {tn td:Int} (h:Srt l tn td s):s.length=l.length:=h.perm.length_eq
theorem Srt.rank {l s:List Pt} {tn td:Int} (h:Srt l tn td s) {k:Nat} {p:Pt} (hk:s[k]?=some p):rk tn td l p=k:=by
 have:=qn5 s k p h.pw hk
 unfold rk at this ⊢
 rw[← h.perm.countP_eq];exact this
theorem Srt.at {l s:List Pt} {tn td:Int} (h:Srt l tn td s) {p:Pt} (hp:p∈l):s[rk tn td l p]?=some p:=by
 obtain⟨k,hk,e⟩:=List.getElem_of_mem (h.perm.mem_iff.2 hp)
 have hk':s[k]?=some p:=by rw[List.getElem?_eq_getElem hk,e]
 rw[h.rank hk'];exact hk'
theorem Srt.lt {l s:List Pt} {tn td:Int} (h:Srt l tn td s) {p:Pt} (hp:p∈l):rk tn td l p<l.length:=by rw[← h.len];exact qai (h.at hp)
theorem Srt.uniq {l s t:List Pt} {tn td:Int} (h:Srt l tn td s) (k:Srt l tn td t):s=t:=by
 apply List.ext_getElem?
 intro i
 by_cases hi:i<t.length
 ·obtain⟨p,hp⟩:=qal hi
  rw[hp]
  have:=h.at (k.perm.mem_iff.1 (List.mem_of_getElem? hp))
  rw[k.rank hp] at this
  exact this
 ·have e1:t[i]?=none:=List.getElem?_eq_none (by omega)
  have e2:s[i]?=none:=List.getElem?_eq_none (by have:=h.len;have:=k.len;omega)
  rw[e1,e2]
theorem Srt.mk_of {l s:List Pt} {tn td:Int} (hv:Val l) (hp:s.Perm l) (h:s.Pairwise (fun p q=>ld tn td q p=false)):Srt l tn td s:=by
 have hne:l.Pairwise (fun p q=>p.id≠q.id):=by
  rw[List.pairwise_iff_getElem]
  intro i j hi hj hij
  have:=hv.up.mono hij (List.getElem?_eq_getElem hi) (List.getElem?_eq_getElem hj)
  omega
 have hns:s.Pairwise (fun p q=>p.id≠q.id):=(hp.pairwise_iff (fun h e=>h e.symm)).2 hne
 exact⟨hp,(h.and hns).imp fun ⟨a,b⟩=>qtE (fun e=>b e.symm) a⟩
theorem qt0 {l:List Pt} {tn td:Int} (hv:Val l):∃ s,Srt l tn td s:=by
 refine⟨l.mergeSort (fun p q=>!ld tn td q p),Srt.mk_of hv (List.mergeSort_perm _ _) ?_⟩
 have h:=List.pairwise_mergeSort (le:=fun p q:Pt=>!ld tn td q p) (fun a b c h1 h2=>?_) (fun a b=>?_) l
 ·exact h.imp fun {a b} h=>by simpa using h
 ·have h1':ld tn td b a=false:=by simpa using h1
  have h2':ld tn td c b=false:=by simpa using h2
  simp[qlp h2' h1']
 ·cases h:ld tn td b a
  ·simp
  ·simp[qdZ h]
theorem qrs {l:List Pt} (hv:Val l) {p q:Pt} (hp:p∈l) (hq:q∈l) (e:p.id=q.id):p=q:=by
 obtain⟨i,hi,rfl⟩:=List.getElem_of_mem hp
 obtain⟨j,hj,rfl⟩:=List.getElem_of_mem hq
 rcases Nat.lt_trichotomy i j with h | h | h
 ·have:=hv.up.mono h (List.getElem?_eq_getElem hi) (List.getElem?_eq_getElem hj);omega
 ·subst h;rfl
 ·have:=hv.up.mono h (List.getElem?_eq_getElem hj) (List.getElem?_eq_getElem hi);omega
def cfL (tn td:Int) (p q:Pt):Int:=if p.id=q.id then 0 else if ld tn td p q=true then -1 else 1
theorem qpb {tn td:Int} {p q:Pt} (h:p.id=q.id→p=q):decide (cfL tn td p q<0)=ld tn td p q:=by
 unfold cfL
 by_cases e:p.id=q.id
 ·rw[if_pos e,h e,qfl];rfl
 ·rw[if_neg e]
  cases ld tn td p q<;>rfl
end Go.Proofs.Ytalnjplghagbpaa

namespace Go.Proofs.Ytalnjplghagbpaa
set_option maxRecDepth 100000
open Go.RowKit
structure Tm (tn td:Int):Prop where
 hn:I64 tn
 hd:I64 td
 ok:okB tn td=true
noncomputable def tE (l:List Pt) (tn td:Int):Int:=if qd7 l=0 then (if okB tn td=true then 0 else 8) else qd7 l
theorem qva {tn td:Int} (hn:I64 tn) (hd:I64 td) (l:List Pt):Fn 80 1 [qaq 0 l,.pv (qaa tn td)] [(0,0,qag l)] (.pv (iV (tE l tn td))) 0 []:=by
 unfold tE
 by_cases h0:qd7 l=0
 ·have c1:=qbp l
  rw[h0] at c1
  rw[if_pos h0]
  by_cases hp:okB tn td=true
  ·rw[if_pos hp];exact qoB c1 (qcJ hn hd hp)
  ·rw[if_neg hp];exact qoB c1 (qcI hn hd hp)
 ·rw[if_neg h0]
  exact qq4 (qbp l) (by simp[h0])
theorem qfE {tn td:Int} (hn:I64 tn) (hd:I64 td) (l:List Pt):Fn 64 1 [qaq 0 l,.pv (qaa tn td)] [(0,0,qag l)] (.pv (iV (tE l tn td))) 0 []:=by
 unfold tE
 by_cases h0:qd7 l=0
 ·have c1:=qc4 l
  rw[h0] at c1
  rw[if_pos h0]
  by_cases hp:okB tn td=true
  ·rw[if_pos hp];exact qn7 c1 (qfQ hn hd hp)
  ·rw[if_neg hp];exact qn7 c1 (qeg hn hd hp)
 ·rw[if_neg h0]
  exact qp8 (qc4 l) (by simp[h0])
theorem qmy {l:List Pt} {tn td:Int} (hv:Val l) (ht:okB tn td=true):tE l tn td=0:=by unfold tE;rw[if_pos (qcw.2 hv),if_pos ht]
section
variable {l:List Pt} {tn td:Int}
theorem qtr (ht:Tm tn td) {p q:Pt} (hp:qfh p=true) (hq:qfh q=true) :
 Fn 106 1 [.pv (ptV p),.pv (ptV q),.pp 0 0] [(0,0,.pv (iV tn)),(0,1,.pv (iV td))] (.pv (iV (cfL tn td p q))) 0 []:=by
 unfold cfL
 by_cases e:p.id=q.id
 ·rw[if_pos e];exact qvc (by simp[e])
 ·rw[if_neg e]
  have a:=qhl ht.hn ht.hd hp hq ht.ok e
  have hl:qbB (p.a*td+p.b*tn) (q.a*td+q.b*tn) p.b q.b p.id q.id=ld tn td p q:=rfl
  rw[hl] at a
  cases hc:ld tn td p q<;>rw[hc] at a
  ·rw[if_neg (by decide)];exact qvf (by simp[e]) a
  ·rw[if_pos rfl];exact quU (by simp[e]) a
theorem qeR (hv:Val l) (ht:Tm tn td) {s:List Pt} (hs:Srt l tn td s) {m:Pt} (hm:s[0]?=some m):∀ (d k:Nat) (c:Pt),k+d=l.length→c∈l→(∀ (j:Nat) (q:Pt),j<k→l[j]?=some q→ld tn td q c=false)→
 Rl 2 2 81 0 33 4 ([(0,.ls 0 l.length),(1,.pc 106 [.pp 1 0]),(4,.pp 2 0),(5,.pp 3 0),(6,.pv (iV (k:Int)))]) ([(0,0,qag l),(1,0,.pv (iV tn)),(1,1,.pv (iV td)),(3,0,.pv (iV (c).id)),(3,1,.pv (iV (c).a)),(3,2,.pv (iV (c).b)),(2,0,.pv (iV 0)),(2,1,.pv (iV 0)),(2,2,.pv (iV 0))]) (.exit 0) ([(4,.pp 2 0),(5,.pp 3 0)]) ([(0,0,qag l),(1,0,.pv (iV tn)),(1,1,.pv (iV td)),(3,0,.pv (iV (m).id)),(3,1,.pv (iV (m).a)),(3,2,.pv (iV (m).b)),(2,0,.pv (iV 0)),(2,1,.pv (iV 0)),(2,2,.pv (iV 0))])
 | 0,k,c,hd,hc,hf=>by
  have h0:rk tn td l c=0:=by
   unfold rk
   rw[List.countP_eq_zero]
   intro q hq
   obtain⟨j,hj,rfl⟩:=List.getElem_of_mem hq
   rw[hf j _ (by omega) (List.getElem?_eq_getElem hj)];decide
  have:=hs.at hc
  rw[h0,hm] at this
  cases this
  exact qrE (df (by omega))
 | d+1,k,c,hd,hc,hf=>by
  obtain⟨p,hp⟩:=qal (l:=l) (k:=k) (by omega)
  have hpm:=List.mem_of_getElem? hp
  have hcf:=qpb (tn:=tn) (td:=td) (p:=p) (q:=c) (fun e=>qrs hv hpm hc e)
  have hl:=qtr ht (hv.ok p hpm) (hv.ok c hc)
  cases hx:ld tn td p c<;>rw[hx] at hcf
  ·exact qvY hp (qaY (qai hp)) (dt (by omega)) hl hcf (qi7 (qai hp) hv.len) (qeR hv ht hs hm d (k+1) c (by omega) hc fun j q hj hq=>by
    by_cases e:j=k
    ·subst e;rw[hp] at hq;cases hq;exact hx
    ·exact hf j q (by omega) hq)
  ·exact qvW hp (qaY (qai hp)) (dt (by omega)) hl hcf (qi7 (qai hp) hv.len) (qeR hv ht hs hm d (k+1) p (by omega) hpm fun j q hj hq=>by
    by_cases e:j=k
    ·subst e;rw[hp] at hq;cases hq;exact qfl _
    ·cases hh:ld tn td q p
     ·rfl
     ·have h1:=qcS hh hx
      have h2:=hf j q (by omega) hq
      rw[h1] at h2;cases h2)
theorem qvF (hv:Val l) (ht:Tm tn td) {s:List Pt} (hs:Srt l tn td s) {m:Pt} (hm:s[0]?=some m) :
 Fn 81 2 [.ls 0 l.length,.pc 106 [.pp 1 0]] [(0,0,qag l),(1,0,.pv (iV tn)),(1,1,.pv (iV td))] (.pv (ptV m)) 0 []:=by
 have hl:0<l.length:=by have:=qai hm;rw[hs.len] at this;exact this
 obtain⟨p,hp⟩:=qal hl
 exact qpG hp (qaY (k:=0) hl) (df (by omega)) (qeR hv ht hs hm (l.length-1) (0+1) p (by omega) (List.mem_of_getElem? hp) fun j q hj hq=>by
  have:j=0:=by omega
  subst this
  rw[hp] at hq;cases hq;exact qfl _)
end
end Go.Proofs.Ytalnjplghagbpaa
