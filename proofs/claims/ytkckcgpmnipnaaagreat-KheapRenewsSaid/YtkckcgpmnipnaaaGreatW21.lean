/-
  Joined: Fm, Fr, Fn, Ka, Kh2, Ke, Kd. Conditions: none.
-/
import Derived.Test.YtkckcgpmnipnaaaGreatW19
import Derived.Test.YtkckcgpmnipnaaaGreatW20
import Derived.Test.YtkckcgpmnipnaaaGreatW16
import Derived.Test.YtkckcgpmnipnaaaGreatW17
namespace Go.Proofs.YtkckcgpmnipnaaaGreat
set_option maxRecDepth 100000
open Go.RowKit
def qjb (p:Pt):Bool:=okP p.id p.a p.b
def Up (l:List Pt):Prop:=∀ (k:Nat) (p q:Pt),l[k]?=some p→l[k+1]?=some q→p.id<q.id
noncomputable def qeQ (l:List Pt):Int:=open Classical in if 64<l.length then 4 else if ∀ p∈l,qjb p=true then (if Up l then 0 else 32) else 8
theorem qa3 (P:Nat→Prop):∀ (N:Nat),(∀ k,k<N→P k)∨∃ j,j<N∧¬ P j∧∀ i,i<j→P i
 | 0=>Or.inl fun k hk=>by omega
 | N+1=>by
  rcases qa3 P N with h | ⟨j,h1,h2⟩
  ·by_cases hN:P N
   ·exact Or.inl fun k hk=>by
     rcases Nat.lt_or_ge k N with h' | h'
     ·exact h k h'
     ·have:k=N:=by omega
      subst this;exact hN
   ·exact Or.inr ⟨N,by omega,hN,h⟩
  ·exact Or.inr ⟨j,by omega,h2⟩
theorem qah {α:Type} {l:List α} {k:Nat} (h:k<l.length):∃ p,l[k]?=some p:=⟨l[k],List.getElem?_eq_getElem h⟩
theorem qan {α:Type} {l:List α} {k:Nat} {p:α} (h:l[k]?=some p):k<l.length:=(List.getElem?_eq_some_iff.1 h).1
theorem qal {k n:Nat} (h:k<n):0≤(k:Int)∧(k:Int)<(n:Int):=⟨by omega,by omega⟩
theorem Up.mono {l:List Pt} (h:Up l):∀ {i j:Nat} {p q:Pt},i<j→l[i]?=some p→l[j]?=some q→p.id<q.id:=by
 intro i j
 induction j with
 | zero=>intro p q hij;omega
 | succ j ih=>
  intro p q hij hp hq;by_cases e:i=j
  ·subst e;exact h i p q hp hq
  ·obtain⟨r,hr⟩:=qah (l:=l) (k:=j) (by have:=qan hq;omega);exact Int.lt_trans (ih (by omega) hp hr) (h j r q hr hq)
theorem qqe {k n:Nat} (h:k<n) (hn:n≤64):iV (IntKind.i64.wrap ((k:Int)+1))=iV ((k+1:Nat):Int):=qag (by omega)
theorem qkV {l:List Pt} (hn:l.length≤64) (h:∀ p∈l,qjb p=true):Rl 1 1 38 0 44 2 [(1,.pp 1 0),(3,.pv (iV ((0:Nat):Int)))] [(1,0,.ls 0 l.length),(0,0,qaf l)] (.exit 0) [(1,.pp 1 0)] [(1,0,.ls 0 l.length),(0,0,qaf l)]:=
 RunsL.rounds (fun k=>[(1,.pp 1 0),(3,.pv (iV (k:Int)))]) (fun _=>[(1,0,.ls 0 l.length),(0,0,qaf l)]) l.length 0 (Nat.zero_add _)
  (fun k _ hk r=>by
   obtain⟨p,hp⟩:=qah hk
   exact qkm hp (qal hk) (dt (by omega)) (qfx (h p (List.mem_of_getElem? hp))) (qqe hk hn) r)
  (qxH (df (by omega)))
theorem qh3 {l:List Pt} (hn:l.length≤64) {j:Nat} {p:Pt} (hp:l[j]?=some p) (hb:¬ qjb p=true) (h:∀ i,i<j→∀ q,l[i]?=some q→qjb q=true):Rl 1 1 38 0 44 2 [(1,.pp 1 0),(3,.pv (iV ((0:Nat):Int)))] [(1,0,.ls 0 l.length),(0,0,qaf l)] .ret [(2,.pv (iV 8))] []:=by
 have hj:=qan hp;refine RunsL.rounds (fun k=>[(1,.pp 1 0),(3,.pv (iV (k:Int)))]) (fun _=>[(1,0,.ls 0 l.length),(0,0,qaf l)]) j 0 (Nat.zero_add _) (fun k _ hk r=>?_) (qyh hp (qal hj) (dt (by omega)) (qiy hb));obtain⟨q,hq⟩:=qah (l:=l) (k:=k) (by omega);exact qkm hq (qal (qan hq)) (dt (by omega)) (qfx (h k hk q hq)) (qqe (qan hq) hn) r
theorem qbV (k:Nat) (h:k≤1000000):iV (IntKind.i64.wrap (((k+1:Nat):Int)-1))=iV (k:Int):=by rw[show ((k+1:Nat):Int)-1=(k:Int) by omega,qas (by omega) (by omega)]
theorem qsn {l:List Pt} (hn:l.length≤64) (h:Up l):Rl 1 1 38 1 44 2 [(1,.pp 1 0),(4,.pv (iV ((0+1:Nat):Int)))] [(1,0,.ls 0 l.length),(0,0,qaf l)] (.exit 2) [] []:=by
 by_cases h0:l.length=0
 ·exact qoS (k:=0+1) (df (by omega))
 refine RunsL.rounds (fun k=>[(1,.pp 1 0),(4,.pv (iV (k:Int)))]) (fun _=>[(1,0,.ls 0 l.length),(0,0,qaf l)]) (N:=l.length) (l.length-1) (0+1) (by omega) (fun k h1 hk r=>?_) (qoS (df (by omega)));obtain⟨m,rfl⟩:∃ m,k=m+1:=⟨k-1,by omega⟩;obtain⟨q,hq⟩:=qah (l:=l) (k:=m) (by omega);obtain⟨p,hp⟩:=qah hk;exact qkM hq hp (qal (by omega)) (qal hk) (dt (by omega)) (qbV m (by omega)) (df (by have:=h m q p hq hp;omega)) (qqe hk hn) r
theorem qh9 {l:List Pt} (hn:l.length≤64) {j:Nat} {p q:Pt} (hq:l[j]?=some q) (hp:l[j+1]?=some p) (hb:¬ q.id<p.id) (h:∀ i,i<j→∀ p q,l[i]?=some p→l[i+1]?=some q→p.id<q.id):Rl 1 1 38 1 44 2 [(1,.pp 1 0),(4,.pv (iV ((0+1:Nat):Int)))] [(1,0,.ls 0 l.length),(0,0,qaf l)] .ret [(2,.pv (iV 32))] []:=by
 have hj:=qan hp;refine RunsL.rounds (fun k=>[(1,.pp 1 0),(4,.pv (iV (k:Int)))]) (fun _=>[(1,0,.ls 0 l.length),(0,0,qaf l)]) (N:=j+1) j (0+1) (by omega) (fun k h1 hk r=>?_) (qze hq hp (qal (by omega)) (qal hj) (dt (by omega)) (qbV j (by omega)) (dt (by omega)));obtain⟨m,rfl⟩:∃ m,k=m+1:=⟨k-1,by omega⟩;obtain⟨q',hq'⟩:=qah (l:=l) (k:=m) (by omega);obtain⟨p',hp'⟩:=qah (l:=l) (k:=m+1) (by omega);exact qkM hq' hp' (qal (by omega)) (qal (by omega)) (dt (by omega)) (qbV m (by omega)) (df (by have:=h m (by omega) q' p' hq' hp';omega)) (qqe (n:=l.length) (by omega) hn) r
theorem qfI (l:List Pt):(64<l.length∧qeQ l=4)∨(l.length≤64∧(∃ (j:Nat) (p:Pt),l[j]?=some p∧¬ qjb p=true∧∀ i,i<j→∀ q,l[i]?=some q→qjb q=true)∧qeQ l=8)∨
 (l.length≤64∧(∀ p∈l,qjb p=true)∧(∃ (j:Nat) (p q:Pt),l[j]?=some q∧l[j+1]?=some p∧¬ q.id<p.id∧∀ i,i<j→∀ p q,l[i]?=some p→l[i+1]?=some q→p.id<q.id)∧qeQ l=32)∨
 (l.length≤64∧(∀ p∈l,qjb p=true)∧Up l∧qeQ l=0):=by
 by_cases h0:64<l.length
 ·exact Or.inl ⟨h0,by unfold qeQ;rw[if_pos h0]⟩
 refine Or.inr ?_;by_cases h1:∀ p∈l,qjb p=true
 ·refine Or.inr ?_;by_cases h2:Up l
  ·exact Or.inr ⟨by omega,h1,h2,by unfold qeQ;rw[if_neg h0,if_pos h1,if_pos h2]⟩
  ·refine Or.inl ⟨by omega,h1,?_,by unfold qeQ;rw[if_neg h0,if_pos h1,if_neg h2]⟩
   rcases qa3 (fun k=>∀ p q,l[k]?=some p→l[k+1]?=some q→p.id<q.id) l.length with h | ⟨j,hj,hn,hb⟩
   ·exact (h2 fun k p q hp hq=>h k (qan hp) p q hp hq).elim
   ·simp only[Classical.not_forall,not_imp] at hn;obtain⟨p,q,hp,hq,hpq⟩:=hn;exact⟨j,q,p,hp,hq,hpq,hb⟩
 ·refine Or.inl ⟨by omega,?_,by unfold qeQ;rw[if_neg h0,if_neg h1]⟩
  rcases qa3 (fun k=>∀ q,l[k]?=some q→qjb q=true) l.length with h | ⟨j,hj,hn,hb⟩
  ·exact (h1 fun p hp=>by obtain⟨k,hk,rfl⟩:=List.getElem_of_mem hp;exact h k hk _ (List.getElem?_eq_getElem hk)).elim
  ·simp only[Classical.not_forall,not_imp] at hn;obtain⟨p,hp,hpq⟩:=hn;exact⟨j,p,hp,hpq,hb⟩
theorem qet (l:List Pt):Fn 38 1 [qaq 0 l] [(0,0,qaf l)] (.pv (iV (qeQ l))) 0 []:=by
 rcases qfI l with ⟨h,e⟩ | ⟨h,⟨j,p,hp,hb,hf⟩,e⟩ | ⟨h,h1,⟨j,p,q,hq,hp,hb,hf⟩,e⟩ | ⟨h,h1,h2,e⟩<;>rw[e]
 ·exact qwH (dt (by omega))
 ·exact qDD (df (by omega)) (qh3 h hp hb hf)
 ·exact qz4 (df (by omega)) (qkV h h1) (qh9 h hq hp hb hf)
 ·exact qHX (df (by omega)) (qkV h h1) (qsn h h2)
abbrev pcT (l:List Pt) (k:Nat):List (Nat×SV):=[(1,.pp 1 0),(12,.ls 0 l.length),(13,.pv (iV (l.length:Int))),(14,.pv (iV (k:Int)))]
theorem qkE {l:List Pt} (hn:l.length≤64) (h:∀ p∈l,qjb p=true):Rl 1 1 74 0 45 2 (pcT l 0) [(1,0,.ls 0 l.length),(0,0,qaf l)] (.exit 0) [(1,.pp 1 0)] [(1,0,.ls 0 l.length),(0,0,qaf l)]:=
 RunsL.rounds (pcT l) (fun _=>[(1,0,.ls 0 l.length),(0,0,qaf l)]) l.length 0 (Nat.zero_add _)
  (fun k _ hk r=>by
   obtain⟨p,hp⟩:=qah hk
   exact qkC hp (qal hk) (dt (by omega)) (qc7 (h p (List.mem_of_getElem? hp))) (qqe hk hn) r)
  (qxv (df (by omega)))
theorem qi9 {l:List Pt} (hn:l.length≤64) {j:Nat} {p:Pt} (hp:l[j]?=some p) (hb:¬ qjb p=true) (h:∀ i,i<j→∀ q,l[i]?=some q→qjb q=true):Rl 1 1 74 0 45 2 (pcT l 0) [(1,0,.ls 0 l.length),(0,0,qaf l)] .ret [(2,.pv (iV 8))] []:=by
 have hj:=qan hp;refine RunsL.rounds (pcT l) (fun _=>[(1,0,.ls 0 l.length),(0,0,qaf l)]) j 0 (Nat.zero_add _) (fun k _ hk r=>?_) (qw8 hp (qal hj) (dt (by omega)) (qjz hb));obtain⟨q,hq⟩:=qah (l:=l) (k:=k) (by omega);exact qkC hq (qal (qan hq)) (dt (by omega)) (qc7 (h k hk q hq)) (qqe (qan hq) hn) r
theorem qqA {l:List Pt} (hn:l.length≤64) (h:Up l):Rl 1 1 74 1 45 2 [(1,.pp 1 0),(6,.pv (iV ((0+1:Nat):Int)))] [(1,0,.ls 0 l.length),(0,0,qaf l)] (.exit 2) [] []:=by
 by_cases h0:l.length=0
 ·exact qne (k:=0+1) (df (by omega))
 refine RunsL.rounds (fun k=>[(1,.pp 1 0),(6,.pv (iV (k:Int)))]) (fun _=>[(1,0,.ls 0 l.length),(0,0,qaf l)]) (N:=l.length) (l.length-1) (0+1) (by omega) (fun k h1 hk r=>?_) (qne (df (by omega)));obtain⟨m,rfl⟩:∃ m,k=m+1:=⟨k-1,by omega⟩;obtain⟨q,hq⟩:=qah (l:=l) (k:=m) (by omega);obtain⟨p,hp⟩:=qah hk;exact qkA hq hp (qal (by omega)) (qal hk) (dt (by omega)) (qbV m (by omega)) (df (by have:=h m q p hq hp;omega)) (qqe hk hn) r
theorem qiI {l:List Pt} (hn:l.length≤64) {j:Nat} {p q:Pt} (hq:l[j]?=some q) (hp:l[j+1]?=some p) (hb:¬ q.id<p.id) (h:∀ i,i<j→∀ p q,l[i]?=some p→l[i+1]?=some q→p.id<q.id):Rl 1 1 74 1 45 2 [(1,.pp 1 0),(6,.pv (iV ((0+1:Nat):Int)))] [(1,0,.ls 0 l.length),(0,0,qaf l)] .ret [(2,.pv (iV 32))] []:=by
 have hj:=qan hp;refine RunsL.rounds (fun k=>[(1,.pp 1 0),(6,.pv (iV (k:Int)))]) (fun _=>[(1,0,.ls 0 l.length),(0,0,qaf l)]) (N:=j+1) j (0+1) (by omega) (fun k h1 hk r=>?_) (qu6 hq hp (qal (by omega)) (qal hj) (dt (by omega)) (qbV j (by omega)) (dt (by omega)));obtain⟨m,rfl⟩:∃ m,k=m+1:=⟨k-1,by omega⟩;obtain⟨q',hq'⟩:=qah (l:=l) (k:=m) (by omega);obtain⟨p',hp'⟩:=qah (l:=l) (k:=m+1) (by omega);exact qkA hq' hp' (qal (by omega)) (qal (by omega)) (dt (by omega)) (qbV m (by omega)) (df (by have:=h m (by omega) q' p' hq' hp';omega)) (qqe (n:=l.length) (by omega) hn) r
theorem qcA (l:List Pt):Fn 74 1 [qaq 0 l] [(0,0,qaf l)] (.pv (iV (qeQ l))) 0 []:=by
 rcases qfI l with ⟨h,e⟩ | ⟨h,⟨j,p,hp,hb,hf⟩,e⟩ | ⟨h,h1,⟨j,p,q,hq,hp,hb,hf⟩,e⟩ | ⟨h,h1,h2,e⟩<;>rw[e]
 ·exact qyQ (dt (by omega))
 ·exact qBU (df (by omega)) (qi9 h hp hb hf)
 ·exact qDh (df (by omega)) (qkE h h1) (qiI h hq hp hb hf)
 ·exact qFc (df (by omega)) (qkE h h1) (qqA h h2)
structure Val (l:List Pt):Prop where
 len:l.length≤64
 ok:∀ p∈l,qjb p=true
 up:Up l
theorem qbL {l:List Pt}:qeQ l=0↔Val l:=by
 rcases qfI l with ⟨h,e⟩ | ⟨h,⟨j,p,hp,hb,hf⟩,e⟩ | ⟨h,h1,⟨j,p,q,hq,hp,hb,hf⟩,e⟩ | ⟨h,h1,h2,e⟩<;>rw[e]
 ·exact⟨fun h=>by omega,fun v=>by have:=v.len;omega⟩
 ·exact⟨fun h=>by omega,fun v=>(hb (v.ok p (List.mem_of_getElem? hp))).elim⟩
 ·exact⟨fun h=>by omega,fun v=>(hb (v.up j q p hq hp)).elim⟩
 ·exact⟨fun _=>⟨h,h1,h2⟩,fun _=>rfl⟩
theorem place (l:List Pt) (hv:Val l) (id:Int):(∃ (k:Nat) (p:Pt),l[k]?=some p∧p.id=id)∨((∀ p∈l,p.id≠id)∧∃ k,k≤l.length∧(∀ (t:Nat) (p:Pt),t<k→l[t]?=some p→p.id<id)∧∀ (t:Nat) (p:Pt),k≤t→l[t]?=some p→id<p.id):=by
 by_cases h:∃ (k:Nat) (p:Pt),l[k]?=some p∧p.id=id
 ·exact Or.inl h
 ·refine Or.inr ⟨fun p hp e=>?_,?_⟩
  ·obtain⟨k,hk,rfl⟩:=List.getElem_of_mem hp;exact h ⟨k,_,List.getElem?_eq_getElem hk,e⟩
  ·rcases qa3 (fun k=>∀ p,l[k]?=some p→p.id<id) l.length with hh | ⟨j,hj,hn,hb⟩
   ·exact⟨l.length,Nat.le_refl _,fun t p ht hp=>hh t ht p hp,fun t p ht hp=>by have:=qan hp;omega⟩
   ·refine⟨j,by omega,fun t p ht hp=>hb t ht p hp,fun t p ht hp=>?_⟩;simp only[Classical.not_forall,not_imp] at hn;obtain⟨q,hq,hlt⟩:=hn
    have hne:q.id≠id:=fun e=>h ⟨j,q,hq,e⟩
    rcases Nat.lt_or_ge j t with h' | h'
    ·have:=hv.up.mono h' hq hp;omega
    ·have:t=j:=by omega
     subst this;rw[hq] at hp;cases hp;omega
abbrev atT (id:Int) (k:Nat):List (Nat×SV):=[(1,.pv (iV id)),(2,.pp 1 0),(5,.pv (iV (k:Int)))]
theorem qDL {l:List Pt} (hn:l.length≤64) {id:Int} (h:∀ p∈l,p.id≠id):Fn 61 1 [qaq 0 l,.pv (iV id)] [(0,0,qaf l)] (.pv (iV (-1))) 0 []:=
 qGb (RunsL.rounds (atT id) (fun _=>[(1,0,.ls 0 l.length),(0,0,qaf l)]) l.length 0 (Nat.zero_add _)
  (fun k _ hk r=>by
   obtain⟨p,hp⟩:=qah hk
   exact qoX hp (qal hk) (dt (by omega)) (by simpa using h p (List.mem_of_getElem? hp)) (qqe hk hn) r)
  (qB5 (df (by omega))))
theorem qlm {l:List Pt} (hv:Val l) {id:Int} {k:Nat} {p:Pt} (hk:l[k]?=some p) (he:p.id=id):Fn 61 1 [qaq 0 l,.pv (iV id)] [(0,0,qaf l)] (.pv (iV (k:Int))) 0 []:=by
 refine qC4 (RunsL.rounds (atT id) (fun _=>[(1,0,.ls 0 l.length),(0,0,qaf l)]) k 0 (Nat.zero_add _) (fun j _ hj r=>?_) (qDi hk (qal (qan hk)) (dt (by have:=qan hk;omega)) (by simpa using he)));have hl:=qan hk;obtain⟨q,hq⟩:=qah (l:=l) (k:=j) (by omega);exact qoX hq (qal (qan hq)) (dt (by omega)) (by have:=hv.up.mono hj hq hk;simp;omega) (qqe (qan hq) hv.len) r
theorem qu5 (a pa pb id:Int):∃ c,Pure Tryz.prog 294 #[qac a pa pb,iV id] (iV c)∧(c<0↔a<id)∧(c=0↔a=id):=by
 rcases Int.lt_trichotomy a id with h | h | h
 ·exact⟨-1,qrj (by simp) (by simp) (dt h),⟨fun _=>h,fun _=>by omega⟩,⟨fun h=>by omega,fun h=>by omega⟩⟩
 ·exact⟨0,qqj (by simp) (by simp) (df (by omega)) (df (by omega)),⟨fun h=>by omega,fun h=>by omega⟩,⟨fun _=>h,fun _=>rfl⟩⟩
 ·exact⟨1,qsT (by simp) (by simp) (df (by omega)) (dt (by omega)),⟨fun h=>by omega,fun h=>by omega⟩,⟨fun h=>by omega,fun h=>by omega⟩⟩
abbrev bsT (l:List Pt) (id:Int) (i j:Nat):List (Nat×SV):=[(0,.ls 0 l.length),(1,.pv (iV id)),(2,.pv (.func (.func 294) #[] #[])),(8,.pv (iV (l.length:Int))),(9,.pv (iV (i:Int))),(10,.pv (iV (j:Int)))]
theorem qoC {l:List Pt} (hn:l.length≤64) {id:Int} {k:Nat} (hlo:∀ (t:Nat) (p:Pt),t<k→l[t]?=some p→p.id<id) (hhi:∀ (t:Nat) (p:Pt),k≤t→l[t]?=some p→¬ p.id<id):∀ (d i j:Nat),j-i≤d→i≤k→k≤j→j≤l.length→
 Rl 1 1 293 0 49 1 (bsT l id i j) [(0,0,qaf l)] (.exit 0) (bsT l id k k) [(0,0,qaf l)]:=by
 intro d
 induction d with
 | zero=>
  intro i j hd h1 h2 h3
  have:i=k:=by omega
  have:j=k:=by omega
  subst i j;exact qt8 (df (by omega))
 | succ d ih=>
  intro i j hd h1 h2 h3;by_cases hij:i<j
  ·obtain⟨p,hp⟩:=qah (l:=l) (k:=(i+j)/2) (by omega);obtain⟨c,hc,hc1,hc2⟩:=qu5 p.id p.a p.b id
   have a1:iV (IntKind.i64.wrap ((i:Int)+(j:Int)))=iV ((i:Int)+(j:Int)):=by rw[qas (by omega) (by omega)]
   have a2:Value.int .u64 (IntKind.u64.wrap ((i:Int)+(j:Int)))=.int .u64 ((i:Int)+(j:Int)):=by rw[qef (by omega) (by omega)]
   have a3:Value.int .u64 (((i:Int)+(j:Int)).fdiv (2 ^ (min (1:Int).toNat IntKind.u64.bits)))=.int .u64 (((i+j)/2:Nat):Int):=by
    have:(2:Int) ^ (min (1:Int).toNat IntKind.u64.bits)=2:=rfl;rw[this,Int.fdiv_eq_ediv_of_nonneg _ (by omega)];congr 1
   have a4:iV (IntKind.i64.wrap (((i+j)/2:Nat):Int))=iV (((i+j)/2:Nat):Int):=by rw[qas (by omega) (by omega)]
   by_cases hlt:p.id<id
   ·refine qHY hp (qal (qan hp)) (dt (by omega)) a1 a2 (by omega) a3 a4 hc (dt (hc1.2 hlt)) (qag (by omega)) (ih _ _ (by omega) ?_ h2 h3)
    rcases Nat.lt_or_ge ((i+j)/2) k with h | h
    ·exact h
    ·exact (hhi _ p h hp hlt).elim
   ·refine qFW hp (qal (qan hp)) (dt (by omega)) a1 a2 (by omega) a3 a4 hc (df (fun h=>hlt (hc1.1 h))) (ih _ _ (by omega) h1 ?_ (by omega))
    rcases Nat.lt_or_ge ((i+j)/2) k with h | h
    ·exact (hlt (hlo _ p h hp)).elim
    ·exact h
  ·have:i=k:=by omega
   have:j=k:=by omega
   subst i j;exact qt8 (df (by omega))
theorem qq4 {l:List Pt} (hv:Val l) {id:Int} {k:Nat} {p:Pt} (hk:l[k]?=some p) (he:p.id=id):Fn 232 1 [qaq 0 l,.pv (iV id)] [(0,0,qaf l)] (.pv (.tuple #[iV (k:Int),.bool true])) 0 []:=by
 subst he;obtain⟨c,hc,hc1,hc2⟩:=qu5 p.id p.a p.b p.id;have hl:=qan hk;refine qfB (qvB (qoC hv.len (fun t q ht hq=>hv.up.mono ht hq hk) (fun t q ht hq=>?_) l.length 0 l.length (by omega) (Nat.zero_le _) (by omega) (Nat.le_refl _)) hk (qal hl) (dt (by omega)) hc (by simpa using hc2.2 rfl))
 rcases Nat.lt_or_ge k t with h | h
 ·have:=hv.up.mono h hk hq;omega
 ·have:t=k:=by omega
  subst this;rw[hk] at hq;cases hq;omega
theorem qxk {l:List Pt} (hv:Val l) {id:Int} {k:Nat} (hkl:k≤l.length) (hlo:∀ (t:Nat) (p:Pt),t<k→l[t]?=some p→p.id<id) (hhi:∀ (t:Nat) (p:Pt),k≤t→l[t]?=some p→id<p.id):Fn 232 1 [qaq 0 l,.pv (iV id)] [(0,0,qaf l)] (.pv (.tuple #[iV (k:Int),.bool false])) 0 []:=by
 have hb:=qoC hv.len hlo (fun t p ht hp=>by have:=hhi t p ht hp;omega) l.length 0 l.length (by omega) (Nat.zero_le _) hkl (Nat.le_refl _);by_cases h:k<l.length
 ·obtain⟨p,hp⟩:=qah h;obtain⟨c,hc,hc1,hc2⟩:=qu5 p.id p.a p.b id;refine qfB (qDY hb hp (qal h) (dt (by omega)) hc ?_);have:=hhi k p (Nat.le_refl _) hp;simp only[beq_eq_false_iff_ne,ne_eq]
  exact fun e=>by have:=hc2.1 e;omega
 ·exact qfB (qwe hb (df (by omega)))
end Go.Proofs.YtkckcgpmnipnaaaGreat

namespace Go.Proofs.YtkckcgpmnipnaaaGreat
set_option maxRecDepth 100000
open Go.RowKit
section
variable {tn td:Int} {p q r:Pt}
end
end Go.Proofs.YtkckcgpmnipnaaaGreat

namespace Go.Proofs.YtkckcgpmnipnaaaGreat
set_option maxRecDepth 100000
open Go.RowKit
theorem qh2 (l:List Pt):(¬ (l.length≤16∨64≤l.length∧l.length≤70)∧Fn 10 1 [qaq 0 l] [(0,0,qaf l)] (.pv (.bool true)) 0 [])∨
 ((l.length≤16∨64≤l.length∧l.length≤70)∧Fn 10 1 [qaq 0 l] [(0,0,qaf l)] (.pv (.bool false)) 0 []):=by
 by_cases h1:l.length>16
 ·by_cases h2:l.length<64
  ·exact Or.inl ⟨by omega,qwM (dt (by omega)) (dt (by omega))⟩
  ·by_cases h3:l.length>70
   ·exact Or.inl ⟨by omega,qqI (dt (by omega)) (df (by omega)) (dt (by omega))⟩
   ·exact Or.inr ⟨by omega,qs7 (dt (by omega)) (df (by omega)) (df (by omega))⟩
 ·exact Or.inr ⟨by omega,qzf (df (by omega)) (df (by omega))⟩
theorem qho {l:List Pt} (hn:l.length≤1000000):Fn 70 1 [qaq 0 l] [(0,0,qaf l)] (.ag [.ls 1 l.length]) 1 [(1,0,qaf l)]:=qn0 (by omega)
theorem qb0 {α:Type} {l:List α} {k:Nat} {p:α} (h:l[k]?=some p):l.take (k+1)=l.take k++[p]:=by rw[List.take_add_one,h];rfl
abbrev saT (k:Nat):List (Nat×SV):=[(2,.pp 2 0),(3,.pp 3 0),(5,.pv (iV (k:Int)))]
theorem qx7 {l:List Pt} (hn:l.length≤1000000):Fn 41 2 [qaq 0 l,qaq 1 l] [(0,0,qaf l),(1,0,qaf l)] (.pv (.bool true)) 0 []:=
 qkK (by simp) (RunsL.rounds saT (fun _=>[(2,0,.ls 0 l.length),(3,0,.ls 1 l.length),(0,0,qaf l),(1,0,qaf l)]) l.length 0 (Nat.zero_add _)
  (fun k _ hk r=>by
   obtain⟨p,hp⟩:=qah hk
   exact qfT hp (qal hk) hp (qal hk) (dt (by omega)) (by simp) (qag (by omega)) r)
  (qlt (df (by omega))))
end Go.Proofs.YtkckcgpmnipnaaaGreat

namespace Go.Proofs.YtkckcgpmnipnaaaGreat
set_option maxRecDepth 100000
open Go.RowKit
abbrev qae (a b:Int):Value:=.agg #[iV a,iV b]
abbrev qak (l:List Pt):SV:=.row 171 3 l.length (qbs l)
abbrev qaU (b:Nat) (x:Int) (l:List Pt):SV:=.ag [.pv (iV x),.ls b l.length]
theorem qcI {l:List Pt} {k:Nat} {p:Pt} (h:l[k]?=some p):qcJ (qbs l) (0*3+k*3+1) [iV p.a,iV p.b]:=by
 obtain⟨_,h2,h3⟩:=qcC h;intro j v hj;rw[show 0*3+k*3+1+j=k*3+1+j by omega]
 match j,hj with
 | 0,hj=>cases hj;exact h2
 | 1,hj=>cases hj;exact h3
 | j+2,hj=>simp at hj
theorem qiT {l:List Pt} {k:Nat} {p:Pt} (h:l[k]?=some p):qcJ (qbs l) (0*3+k*3+0) [iV p.id]:=qcP h
theorem qvf {l:List Pt} {k:Nat} {p:Pt} (h:l[k]?=some p):qcJ (qbs l) (0*3+k*3+1+0) [iV p.a]:=by
 intro j v hj;rw[show 0*3+k*3+1+0+j=k*3+1+j by omega]
 match j,hj with
 | 0,hj=>cases hj;exact (qcC h).2.1
 | j+1,hj=>simp at hj
theorem qB9 {l:List Pt} {k:Nat} {p:Pt} (h:l[k]?=some p):qcJ (qbs l) (0*3+k*3+1+1) [iV p.b]:=by
 intro j v hj;rw[show 0*3+k*3+1+1+j=k*3+2+j by omega]
 match j,hj with
 | 0,hj=>cases hj;exact (qcC h).2.2
 | j+1,hj=>simp at hj
def qby (a b:Int):Bool:=decide (0≤a∧a≤65535∧0≤b∧b≤65535∧a≠b)
theorem qbn {a b:Int}:qby a b=true↔0≤a∧a≤65535∧0≤b∧b≤65535∧a≠b:=by simp[qby]
def Dis (l:List Pt):Prop:=∀ (i k:Nat) (p q:Pt),i<k→l[i]?=some p→l[k]?=some q→¬ (p.a=q.a∧p.b=q.b)
structure V8 (x:Int) (l:List Pt):Prop where
 len:l.length≤200
 ok:∀ p∈l,qby p.a p.b=true
 up:Up l
 lo:∀ p∈l,0≤p.id
 hi:∀ p∈l,p.id<x
 nx:0≤x∧x≤1000000
 dis:Dis l
noncomputable def qzs (x:Int) (l:List Pt):Int:=open Classical in if V8 x l then 0 else 8
theorem qdt {x:Int} {l:List Pt} (h:V8 x l):qzs x l=0:=by unfold qzs;rw[if_pos h]
theorem qbH {x:Int} {l:List Pt} (h:¬ V8 x l):qzs x l=8:=by unfold qzs;rw[if_neg h]
def qit (m:List Pt):List (Value×Value):=m.map fun p=>(qae p.a p.b,.bool true)
abbrev qaI (m:List Pt):List Value:=kvL (qit m)
theorem qfj {a b c d:Int} (h:qae a b=qae c d):a=c∧b=d:=by
 injection h with h
 injection h with h
 injection h with h1 h2
 injection h2 with h2 _
 injection h1 with _ h1
 injection h2 with _ h2
 exact⟨h1,h2⟩
theorem qfh (a b:Int):MapK Tryz.prog 167 90 4 (qae a b) (fun x=>∃ c d,x=qae c d) (.bool false):=
 qmT (by kernel_rfl) Tryz.underlying90 (fun w=>qfc (by kernel_rfl) w)
  (fun e w=>by cases e<;>exact qfc (by kernel_rfl) w)
  (fun w x ⟨c,d,hx⟩=>by
   subst hx;refine⟨(a==c&&(b==d&&true)),qhE w 40 _ _ _ _ (by kernel_rfl) Op.maxDepth (by decide),?_⟩;rw[Bool.and_true,Bool.and_eq_true,beq_iff_eq,beq_iff_eq]
   exact⟨fun h=>by rw[h.1,h.2],fun h=>(qfj h).imp Eq.symm Eq.symm⟩)
theorem qkr (m:List Pt):∀ p∈qit m,∃ c d,p.1=qae c d:=fun p hp=>by
 obtain⟨q,_,rfl⟩:=List.mem_map.1 hp;exact⟨q.a,q.b,rfl⟩
theorem qop {m:List Pt} {p:Pt} (h:∀ q∈m,¬ (q.a=p.a∧q.b=p.b)):qbu Tryz.prog 167 (qaI m) (qae p.a p.b) false (.bool false):=
 qy7 (qfh p.a p.b) (qkr m) (fun q hq e=>by
  obtain⟨r,hr,rfl⟩:=List.mem_map.1 hq
  exact h r hr (qfj e)) false
theorem qkN {m:List Pt} {p q:Pt} (hq:q∈m) (h:q.a=p.a∧q.b=p.b):qbu Tryz.prog 167 (qaI m) (qae p.a p.b) false (.bool true):=
 qss (v:=.bool true) (qfh p.a p.b) (qkr m) (List.mem_map.2 ⟨q,hq,by rw[h.1,h.2]⟩) (fun r hr _=>by
  obtain⟨s,_,rfl⟩:=List.mem_map.1 hr
  rfl) false
theorem qgZ {m:List Pt} {p:Pt} (h:∀ q∈m,¬ (q.a=p.a∧q.b=p.b)):qiG Tryz.prog 167 (qaI m) (qae p.a p.b) (.bool true) (qaI (m++[p])):=by
 have:=qwJ (qfh p.a p.b) (qkr m) (fun q hq e=>by
  obtain⟨r,hr,rfl⟩:=List.mem_map.1 hq
  exact h r hr (qfj e)) (.bool true)
 show qiG _ _ _ _ _ (kvL (qit (m++[p])))
 rw[show qit (m++[p])=qit m++[(qae p.a p.b,.bool true)] by simp[qit]];exact this
end Go.Proofs.YtkckcgpmnipnaaaGreat

namespace Go.Proofs.YtkckcgpmnipnaaaGreat
set_option maxRecDepth 100000
open Go.RowKit
variable {l s:List Pt} {k:Nat} {p:Pt} {x u1 u2:Int}
abbrev qj1 (l:List Pt) (s:List Pt) (x:Int):HpL:=[(2,0,.pv (iV x)),(2,1,.ls 0 l.length),(3,0,.ls 1 s.length),(0,0,qak l),(1,0,qaf s)]
abbrev qqR (k:Nat):TmL:=[(2,.pp 2 0),(3,.pp 3 0),(5,.pv (iV (k:Int)))]
abbrev qzc (p:Pt) (s:List Pt) (u1:Int):Prop:=Fn 61 1 [qaq 0 s,.pv (iV (p.a))] [(0,0,qaf s)] (.pv (iV (u1))) 0 []
theorem qq7 (hk:l[k]?=some p) (hin:Bd k l.length) (hlt:Dt ((k:Int)<(l.length:Int))) (ha:qzc p s u1) (h1:Df (u1<0)) (hb:Fn 61 1 [qaq 0 s,.pv (iV (p.b))] [(0,0,qaf s)] (.pv (iV (u2))) 0 []) (h2:Df (u2<0)) (hs:iV (IntKind.i64.wrap ((k:Int)+1))=iV (((k+1:Nat):Int))) {e:Exit} {tm2:TmL} {hp2:HpL}
 (r:Rl 2 2 122 0 35 4 ([(2,.pp 2 0),(3,.pp 3 0),(5,.pv (iV ((k+1:Nat):Int)))]) (qj1 l s x) e tm2 hp2):Rl 2 2 122 0 35 4 (qqR k) (qj1 l s x) e tm2 hp2:=
 RunsL.next [] 300 [.t true,.r (iV p.a),Cf ha [1],.t false,.r (iV p.b),Cf hb [1],.t false,Re hs]
  (Ro (A3 hlt hin (qvf hk) (Co ha [1] 4 (A3 h1 hin (qB9 hk) (Co hb [1] 4 (A2 h2 hs tI)))))) r
theorem qBy (hk:l[k]?=some p) (hin:Bd k l.length) (hlt:Dt ((k:Int)<(l.length:Int))) (ha:qzc p s u1) (h1:decide (u1<0)=true):Rl 2 2 122 0 35 4 (qqR k) (qj1 l s x) (.ret) ([(4,.pv (.bool false))]) ([]):=
 RunsL.stop [] 300 [.t true,.r (iV p.a),Cf ha [1],.t true] (fun h=>by cases h)
  (Ro (A3 hlt hin (qvf hk) (Co ha [1] 4 (Ai h1 tI))))
theorem qzS (hk:l[k]?=some p) (hin:Bd k l.length) (hlt:Dt ((k:Int)<(l.length:Int))) (ha:qzc p s u1) (h1:Df (u1<0)) (hb:Fn 61 1 [qaq 0 s,.pv (iV (p.b))] [(0,0,qaf s)] (.pv (iV (u2))) 0 []) (h2:decide (u2<0)=true):Rl 2 2 122 0 35 4 (qqR k) (qj1 l s x) (.ret) ([(4,.pv (.bool false))]) ([]):=
 RunsL.stop [] 300 [.t true,.r (iV p.a),Cf ha [1],.t false,.r (iV p.b),Cf hb [1],.t true] (fun h=>by cases h)
  (Ro (A3 hlt hin (qvf hk) (Co ha [1] 4 (A3 h1 hin (qB9 hk) (Co hb [1] 4 (Ai h2 tI))))))
theorem qyt (hge:decide ((k:Int)<(l.length:Int))=false):Rl 2 2 122 0 35 4 (qqR k) (qj1 l s x) (.exit 0) ([]) ([]):=
 RunsL.stop [] 300 [.t false] (fun h=>by cases h)
  (Ro (Ai hge tI))
theorem qCy (r0:Rl 2 2 122 0 35 4 (yt) (qj1 l s x) (.ret) ([(4,.pv (.bool false))]) ([])) :
 Fn 122 2 [qaU 0 x l,qaq 1 s] [(0,0,qak l),(1,0,qaf s)] (.pv (.bool false)) 0 []:=
 Fz [] [Lf r0]
  tI (Lo r0 [] tI)
theorem qxY (r0:Rl 2 2 122 0 35 4 (yt) (qj1 l s x) (.exit 0) ([]) ([])) :
 Fn 122 2 [qaU 0 x l,qaq 1 s] [(0,0,qak l),(1,0,qaf s)] (.pv (.bool true)) 0 []:=
 Fz [] [Lf r0]
  tI (Lo r0 [] tI)
end Go.Proofs.YtkckcgpmnipnaaaGreat

namespace Go.Proofs.YtkckcgpmnipnaaaGreat
set_option maxRecDepth 100000
open Go.RowKit
variable {l m:List Pt} {x y a b n:Int} {k:Nat} {p:Pt}
theorem qvj (x:Int) (l:List Pt):SV.ag [.pv (iV x),.ls 4 (0+l.length)]=(SV.ag [.pv (iV x),.ls 1 l.length]).ren (qaM [(1,4)]):=by rw[Nat.zero_add];rfl
theorem qpw (l:List Pt):some (SV.row 171 3 (0+l.length) ([]++qbs l))=some (qak l):=by rw[Nat.zero_add,List.nil_append]
theorem qis (m:List Pt) (p:Pt):some (SV.row 171 3 (m.length+1) (qbs m++[iV p.id,iV p.a,iV p.b]))=some (qak (m++[p])):=by rw[qhi,qak,List.length_append];rfl
theorem qsd (b:Nat) (y x:Int) (m:List Pt) (p:Pt):SV.tu [.ag [.pv (iV y),.ls b (m.length+1)],.one (.pv (iV x)),.one (.pv (iV 0))]=(SV.tu [.ag [.pv (iV y),.ls 1 (m++[p]).length],.one (.pv (iV x)),.one (.pv (iV 0))]).ren (qaM [(1,b)]):=by rw[List.length_append];rfl
theorem qsV (hn:0+l.length≤1000000) :
 Fn 71 1 [qaU 0 x l] [(0,0,qak l)] (.ag [.pv (iV x),.ls 1 l.length]) 1 [(1,0,qak l)]:=
 Fx [(1,4)] [.md]
  (qvj x l) (Ai (qpw l) tI) (Ai hn tI)
abbrev qEW (l:List Pt) (m:List Pt) (x:Int) (y:Int):HpL:=[(2,0,.pv (iV x)),(2,1,.ls 0 l.length),(3,0,.pv (iV y)),(3,1,.ls 1 m.length),(0,0,qak l),(1,0,qak m)]
theorem qsi {q:Pt} (hk:l[k]?=some p) (hin:0≤(k:Int)∧(k:Int)<(l.length:Int)) (hq:m[k]?=some q) (hin2:0≤(k:Int)∧(k:Int)<(m.length:Int)) (hlt:decide ((k:Int)<(l.length:Int))=true) (hne:(!(p.id==q.id&&((p.a==q.a&&(p.b==q.b&&true))&&true)))=false) (hs:iV (IntKind.i64.wrap ((k:Int)+1))=iV (((k+1:Nat):Int))) {e:Exit} {tm2:TmL} {hp2:HpL}
 (r:Rl 2 2 79 0 38 4 ([(2,.pp 2 0),(3,.pp 3 0),(5,.pv (iV ((k+1:Nat):Int)))]) (qEW l m x y) e tm2 hp2):Rl 2 2 79 0 38 4 ([(2,.pp 2 0),(3,.pp 3 0),(5,.pv (iV (k:Int)))]) (qEW l m x y) e tm2 hp2:=
 RunsL.next [] 300 [.t true,.r (ptV p),.r (ptV q),.t false,Re hs]
  (Ro (A7 hlt hin (qaB hk) hin2 (qaB hq) hne hs tI)) r
theorem qxP (hge:decide ((k:Int)<(l.length:Int))=false):Rl 2 2 79 0 38 4 ([(2,.pp 2 0),(3,.pp 3 0),(5,.pv (iV (k:Int)))]) (qEW l m x y) (.exit 0) ([]) ([]):=
 RunsL.stop [] 300 [.t false] (fun h=>by cases h)
  (Ro (Ai hge tI))
theorem qxp (hx:(!(x==y))=false) (hl:(!((l.length:Int)==(m.length:Int)))=false) (r0:Rl 2 2 79 0 38 4 ([(2,.pp 2 0),(3,.pp 3 0),(5,.pv (iV ((0:Nat):Int)))]) (qEW l m x y) (.exit 0) ([]) ([])) :
 Fn 79 2 [qaU 0 x l,qaU 1 y m] [(0,0,qak l),(1,0,qak m)] (.pv (.bool true)) 0 []:=
 Fz [] [.t false,.t false,Lf r0]
  tI (A2 hx hl (Lo r0 [] tI))
abbrev qzp (a:Int) (b:Int) (l:List Pt) (x:Int):HpL:=[(1,0,.pv (iV x)),(1,1,.ls 0 l.length),(2,0,.pv (iV a)),(2,1,.pv (iV b)),(0,0,qak l)]
theorem qrp (hk:l[k]?=some p) (hin:Bd k l.length) (hlt:Dt ((k:Int)<(l.length:Int))) (he:(p.a==a&&(p.b==b&&true))=false) (hs:iV (IntKind.i64.wrap ((k:Int)+1))=iV (((k+1:Nat):Int))) {e:Exit} {tm2:TmL} {hp2:HpL}
 (r:Rl 1 1 126 0 21 3 ([(2,.pp 1 0),(3,.pp 2 0),(5,.pv (iV ((k+1:Nat):Int)))]) (qzp a b l x) e tm2 hp2):Rl 1 1 126 0 21 3 ([(2,.pp 1 0),(3,.pp 2 0),(5,.pv (iV (k:Int)))]) (qzp a b l x) e tm2 hp2:=
 RunsL.next [] 300 [.t true,.r (qae p.a p.b),.t false,Re hs]
  (Ro (A5 hlt hin (qcI hk) he hs tI)) r
theorem qw0 (hk:l[k]?=some p) (hin:Bd k l.length) (hlt:Dt ((k:Int)<(l.length:Int))) (he:(p.a==a&&(p.b==b&&true))=true):Rl 1 1 126 0 21 3 ([(2,.pp 1 0),(3,.pp 2 0),(5,.pv (iV (k:Int)))]) (qzp a b l x) (.ret) ([(4,.pv (.bool true))]) ([]):=
 RunsL.stop [] 300 [.t true,.r (qae p.a p.b),.t true] (fun h=>by cases h)
  (Ro (A4 hlt hin (qcI hk) he tI))
theorem qzb (hge:decide ((k:Int)<(l.length:Int))=false):Rl 1 1 126 0 21 3 ([(2,.pp 1 0),(3,.pp 2 0),(5,.pv (iV (k:Int)))]) (qzp a b l x) (.exit 0) ([]) ([]):=
 RunsL.stop [] 300 [.t false] (fun h=>by cases h)
  (Ro (Ai hge tI))
theorem qDm (r0:Rl 1 1 126 0 21 3 ([(2,.pp 1 0),(3,.pp 2 0),(5,.pv (iV ((0:Nat):Int)))]) (qzp a b l x) (.exit 0) ([]) ([])) :
 Fn 126 1 [qaU 0 x l,.pv (qae a b)] [(0,0,qak l)] (.pv (.bool false)) 0 []:=
 Fz [] [Lf r0]
  tI (Lo r0 [] tI)
theorem qu8 (r0:Rl 1 1 126 0 21 3 ([(2,.pp 1 0),(3,.pp 2 0),(5,.pv (iV ((0:Nat):Int)))]) (qzp a b l x) (.ret) ([(4,.pv (.bool true))]) ([])) :
 Fn 126 1 [qaU 0 x l,.pv (qae a b)] [(0,0,qak l)] (.pv (.bool true)) 0 []:=
 Fz [] [Lf r0]
  tI (Lo r0 [] tI)
abbrev qzq (l:List Pt) (m:List Pt) (x:Int):HpL:=[(1,0,.pv (iV x)),(1,1,.ls 0 l.length),(0,0,qak l),(3,0,.pv (iV x)),(3,1,.ls 4 (m).length),(4,0,qak (m)),(2,0,.pv (iV 0)),(2,1,.pv (.slice none 0 0))]
abbrev qFQ (k:Nat) (n:Int):TmL:=[(1,.pv (iV n)),(2,.pp 1 0),(4,.pp 2 0),(5,.pp 3 0),(6,.pv (iV (k:Int)))]
theorem qqU (hk:l[k]?=some p) (hin:0≤(k:Int)∧(k:Int)<(l.length:Int)) (hlt:decide ((k:Int)<(l.length:Int))=true) (hne:(p.id !=n)=false) (hs:iV (IntKind.i64.wrap ((k:Int)+1))=iV (((k+1:Nat):Int))) {e:Exit} {tm2:TmL} {hp2:HpL}
 (r:Rl 1 1 83 0 36 5 ([(1,.pv (iV n)),(2,.pp 1 0),(4,.pp 2 0),(5,.pp 3 0),(6,.pv (iV ((k+1:Nat):Int)))]) (qzq l m x) e tm2 hp2):Rl 1 1 83 0 36 5 (qFQ k n) (qzq l m x) e tm2 hp2:=
 RunsL.next [] 300 [.t true,.r (iV p.id),.t false,Re hs]
  (Ro (A5 hlt hin (qcP hk) hne hs tI)) r
theorem qrG (hk:l[k]?=some p) (hin:0≤(k:Int)∧(k:Int)<(l.length:Int)) (hlt:decide ((k:Int)<(l.length:Int))=true) (hne:(p.id !=n)=true) (hm:m.length+1≤1000000) (hs:iV (IntKind.i64.wrap ((k:Int)+1))=iV (((k+1:Nat):Int))) {e:Exit} {tm2:TmL} {hp2:HpL}
 (r:Rl 1 1 83 0 36 5 ([(1,.pv (iV n)),(2,.pp 1 0),(4,.pp 2 0),(5,.pp 3 0),(6,.pv (iV ((k+1:Nat):Int)))]) ([(1,0,.pv (iV x)),(1,1,.ls 0 l.length),(0,0,qak l),(3,0,.pv (iV x)),(3,1,.ls 4 (m++[p]).length),(4,0,qak (m++[p])),(2,0,.pv (iV 0)),(2,1,.pv (.slice none 0 0))]) e tm2 hp2):Rl 1 1 83 0 36 5 (qFQ k n) (qzq l m x) e tm2 hp2:=
 RunsL.next [(4,6)] 300 [.t true,.r (iV p.id),.t true,.r (ptV p),Re hs]
  (Rh (A8 (Er (SV.pv (iV x))) (El 0 l.length) (Er (qak l)) (Er (SV.pv (iV x))) (qjJ 6 m p) (qis m p) (Er (SV.pv (iV 0))) (Er (SV.pv (.slice none 0 0))) tI) (A8 hlt hin (qcP hk) hne hin (qaB hk) hm hs tI)) r
theorem qwC (hge:decide ((k:Int)<(l.length:Int))=false):Rl 1 1 83 0 36 5 (qFQ k n) (qzq l m x) (.exit 0) ([(4,.pp 2 0),(5,.pp 3 0)]) (qzq l m x):=
 RunsL.stop [] 300 [.t false] (fun h=>by cases h)
  (Ro (Ai hge tI))
theorem qtD (r0:Rl 1 1 83 0 36 5 ([(1,.pv (iV n)),(2,.pp 1 0),(4,.pp 2 0),(5,.pp 3 0),(6,.pv (iV ((0:Nat):Int)))]) ([(1,0,.pv (iV x)),(1,1,.ls 0 l.length),(0,0,qak l),(3,0,.pv (iV x)),(3,1,.ls 4 ([]:List Pt).length),(4,0,qak ([]:List Pt)),(2,0,.pv (iV 0)),(2,1,.pv (.slice none 0 0))]) (.exit 0) ([(4,.pp 2 0),(5,.pp 3 0)]) (qzq l m x)) :
 Fn 83 1 [qaU 0 x l,.pv (iV (n))] [(0,0,qak l)] (.ag [.pv (iV x),.ls 1 m.length]) 1 [(1,0,qak m)]:=
 Fz [(1,4)] [.ln false 3 1 171 3,Lf r0]
  (qaG (qaM [(1,4)]) [(1,0,qak m)]) (Lo r0 [] tI)
theorem qys (hc:Fn 121 1 [qaU 0 x l] [(0,0,qak l)] (.pv (iV (8))) 0 []) :
 Fn 199 1 [qaU 0 x l,.pv (qae a b)] [(0,0,qak l)] (.pv (.tuple #[.agg #[iV 0,.slice none 0 0],iV 0,iV 8])) 0 []:=
 Fz [] [Cf hc [0],.k]
  tI (Co hc [0] 4 tI)
abbrev qAk (l:List Pt) (x:Int):Prop:=Fn 121 1 [qaU 0 x l] [(0,0,qak l)] (.pv (iV (0))) 0 []
theorem qwn (hc:qAk l x) (hv:Pure Tryz.prog 145 #[qae a b] (.bool false)) :
 Fn 199 1 [qaU 0 x l,.pv (qae a b)] [(0,0,qak l)] (.pv (.tuple #[.agg #[iV 0,.slice none 0 0],iV 0,iV 8])) 0 []:=
 Fz [] [Cf hc [0],.k,Rf hv,.k]
  tI (Co hc [0] 4 (Ai hv tI))
theorem qwK (hc:qAk l x) (hv:Pure Tryz.prog 145 #[qae a b] (.bool true)) (hh:Fn 126 1 [qaU 0 x l,.pv (qae a b)] [(0,0,qak l)] (.pv (.bool true)) 0 []) :
 Fn 199 1 [qaU 0 x l,.pv (qae a b)] [(0,0,qak l)] (.pv (.tuple #[.agg #[iV 0,.slice none 0 0],iV 0,iV 14])) 0 []:=
 Fz [] [Cf hc [0],.k,Rf hv,.k,Cf hh [0]]
  tI (Co hc [0] 4 (Ai hv (Co hh [0] 4 tI)))
theorem qrV (hc:qAk l x) (hv:Pure Tryz.prog 145 #[qae a b] (.bool true)) (hh:Fn 126 1 [qaU 0 x l,.pv (qae a b)] [(0,0,qak l)] (.pv (.bool false)) 0 []) (hf:((l.length:Int)==200)=true) :
 Fn 199 1 [qaU 0 x l,.pv (qae a b)] [(0,0,qak l)] (.pv (.tuple #[.agg #[iV 0,.slice none 0 0],iV 0,iV 18])) 0 []:=
 Fz [] [Cf hc [0],.k,Rf hv,.k,Cf hh [0],.t true]
  tI (Co hc [0] 4 (Ai hv (Co hh [0] 4 (Ai hf tI))))
theorem qsj (hc:qAk l x) (hv:Pure Tryz.prog 145 #[qae a b] (.bool true)) (hh:Fn 126 1 [qaU 0 x l,.pv (qae a b)] [(0,0,qak l)] (.pv (.bool false)) 0 []) (hf:((l.length:Int)==200)=false) (hu:(x==1000000)=true) :
 Fn 199 1 [qaU 0 x l,.pv (qae a b)] [(0,0,qak l)] (.pv (.tuple #[.agg #[iV 0,.slice none 0 0],iV 0,iV 18])) 0 []:=
 Fz [] [Cf hc [0],.k,Rf hv,.k,Cf hh [0],.t false,.t true]
  tI (Co hc [0] 4 (Ai hv (Co hh [0] 4 (A2 hf hu tI))))
theorem qEf (hc:qAk l x) (hv:Pure Tryz.prog 145 #[qae a b] (.bool true)) (hh:Fn 126 1 [qaU 0 x l,.pv (qae a b)] [(0,0,qak l)] (.pv (.bool false)) 0 []) (hf:((l.length:Int)==200)=false) (hu:(x==1000000)=false) (ht:Fn 71 1 [qaU 0 x l] [(0,0,qak l)] (.ag [.pv (iV x),.ls 1 l.length]) 1 [(1,0,qak l)]) (hn:l.length+1≤1000000) (hy:iV (IntKind.i64.wrap (x+1))=iV (y)) :
 Fn 199 1 [qaU 0 x l,.pv (qae a b)] [(0,0,qak l)] (.tu [.ag [.pv (iV y),.ls 1 (l++[(Pt.mk x a b)]).length],.one (.pv (iV x)),.one (.pv (iV 0))]) 1 [(1,0,qak (l++[(Pt.mk x a b)]))]:=
 Fx [(1,7)] [Cf hc [0],.k,Rf hv,.k,Cf hh [0],.t false,.t false,Cf ht [0],Re hy]
  (qsd 7 y x l (Pt.mk x a b)) (Ai (qis l (Pt.mk x a b)) tI) (Co hc [0] 4 (Ai hv (Co hh [0] 4 (A2 hf hu (Co ht [0] 4 (A2 hn hy tI))))))
end Go.Proofs.YtkckcgpmnipnaaaGreat

namespace Go.Proofs.YtkckcgpmnipnaaaGreat
set_option maxRecDepth 100000
open Go.RowKit
variable {a b x:Int} {l:List Pt} {k j:Nat} {p q:Pt}
theorem qJp (h1:Df (a≥0)) :
 Pure Tryz.prog 145 #[qae a b] (.bool false):=
 qad (args:=[qae a b]) 300 [.t false]
  (A2 rfl h1 tI) (by kernel_rfl)
theorem qJG (h1:Dt (a≥0)) (h2:Df (a≤65535)) :
 Pure Tryz.prog 145 #[qae a b] (.bool false):=
 qad (args:=[qae a b]) 300 [.t true,.t false]
  (A3 rfl h1 h2 tI) (by kernel_rfl)
theorem qJA (h1:Dt (a≥0)) (h2:Dt (a≤65535)) (h3:Df (b≥0)) :
 Pure Tryz.prog 145 #[qae a b] (.bool false):=
 qad (args:=[qae a b]) 300 [.t true,.t true,.t false]
  (A4 rfl h1 h2 h3 tI) (by kernel_rfl)
theorem qJP (h1:Dt (a≥0)) (h2:Dt (a≤65535)) (h3:Dt (b≥0)) (h4:Df (b≤65535)) :
 Pure Tryz.prog 145 #[qae a b] (.bool false):=
 qad (args:=[qae a b]) 300 [.t true,.t true,.t true,.t false]
  (A5 rfl h1 h2 h3 h4 tI) (by kernel_rfl)
theorem qGG (h1:decide (a≥0)=true) (h2:decide (a≤65535)=true) (h3:decide (b≥0)=true) (h4:decide (b≤65535)=true) (hn:(a !=b)=true) :
 Pure Tryz.prog 145 #[qae a b] (.bool true):=
 qad (args:=[qae a b]) 300 [.t true,.t true,.t true,.t true,.t true]
  (A6 rfl h1 h2 h3 h4 hn tI) (by kernel_rfl)
theorem qGd (h1:decide (a≥0)=true) (h2:decide (a≤65535)=true) (h3:decide (b≥0)=true) (h4:decide (b≤65535)=true) (hn:(a !=b)=false) :
 Pure Tryz.prog 145 #[qae a b] (.bool false):=
 qad (args:=[qae a b]) 300 [.t true,.t true,.t true,.t true,.t false]
  (A6 rfl h1 h2 h3 h4 hn tI) (by kernel_rfl)
abbrev qjC (l:List Pt) (x:Int):HpL:=[(1,0,.pv (iV x)),(1,1,.ls 0 l.length),(0,0,qak l)]
abbrev qwA (k:Nat):TmL:=[(1,.pp 1 0),(3,.pv (iV (k:Int)))]
theorem qFg (hk:l[k]?=some p) (hin:0≤(k:Int)∧(k:Int)<(l.length:Int)) (hlt:decide ((k:Int)<(l.length:Int))=true) (hv:Pure Tryz.prog 145 #[qae p.a p.b] (.bool false)):Rl 1 1 121 0 78 2 (qwA k) (qjC l x) (.ret) ([(2,.pv (iV 8))]) ([]):=
 RunsL.stop [] 300 [.t true,.r (ptV p),Rf hv,.k] (fun h=>by cases h)
  (Ro (A4 hlt hin (qaB hk) hv tI))
theorem qH4 (hk:l[k]?=some p) (hin:0≤(k:Int)∧(k:Int)<(l.length:Int)) (hlt:decide ((k:Int)<(l.length:Int))=true) (hv:Pure Tryz.prog 145 #[qae p.a p.b] (.bool true)) (h1:decide (p.id<0)=true):Rl 1 1 121 0 78 2 (qwA k) (qjC l x) (.ret) ([(2,.pv (iV 8))]) ([]):=
 RunsL.stop [] 300 [.t true,.r (ptV p),Rf hv,.k,.t true] (fun h=>by cases h)
  (Ro (A5 hlt hin (qaB hk) hv h1 tI))
theorem qFj (hk:l[k]?=some p) (hin:0≤(k:Int)∧(k:Int)<(l.length:Int)) (hlt:decide ((k:Int)<(l.length:Int))=true) (hv:Pure Tryz.prog 145 #[qae p.a p.b] (.bool true)) (h1:decide (p.id<0)=false) (h2:decide (p.id≥x)=true):Rl 1 1 121 0 78 2 (qwA k) (qjC l x) (.ret) ([(2,.pv (iV 8))]) ([]):=
 RunsL.stop [] 300 [.t true,.r (ptV p),Rf hv,.k,.t false,.t true] (fun h=>by cases h)
  (Ro (A6 hlt hin (qaB hk) hv h1 h2 tI))
abbrev qBI (k:Nat):TmL:=[(1,.pp 1 0),(3,.pv (iV ((k+1:Nat):Int)))]
theorem qIh (hk:l[k+1]?=some p) (hin:0≤((k+1:Nat):Int)∧((k+1:Nat):Int)<(l.length:Int)) (hlt:decide (((k+1:Nat):Int)<(l.length:Int))=true) (hv:Pure Tryz.prog 145 #[qae p.a p.b] (.bool true)) (h1:decide (p.id<0)=false) (h2:decide (p.id≥x)=false) (hz:decide (((k+1:Nat):Int)>0)=true) (hq:l[k]?=some q) (hin0:0≤(k:Int)∧(k:Int)<(l.length:Int)) (hm:iV (IntKind.i64.wrap (((k+1:Nat):Int)-1))=iV (k:Int)) (hg:decide (q.id≥p.id)=true):Rl 1 1 121 0 78 2 (qBI k) (qjC l x) (.ret) ([(2,.pv (iV 8))]) ([]):=
 RunsL.stop [] 300 [.t true,.r (ptV p),Rf hv,.k,.t false,.t false,.t true,.r (iV (k:Int)),.r (iV q.id),.t true] (fun h=>by cases h)
  (Ro (A9 hlt hin (qaB hk) hv h1 h2 hz hm hin0 (A2 (qcP hq) hg tI)))
abbrev qve (l:List Pt) (p:Pt) (x:Int):HpL:=[(1,0,.pv (iV x)),(1,1,.ls 0 l.length),(2,0,.pv (iV p.id)),(2,1,.pv (iV p.a)),(2,2,.pv (iV p.b)),(0,0,qak l)]
theorem qFI (hk:l[k]?=some p) (hin:0≤(k:Int)∧(k:Int)<(l.length:Int)) (hlt:decide ((k:Int)<(l.length:Int))=true) (hv:Pure Tryz.prog 145 #[qae p.a p.b] (.bool true)) (h1:decide (p.id<0)=false) (h2:decide (p.id≥x)=false) (hz:decide ((k:Int)>0)=false) (r1:Rl 1 1 121 1 78 3 ([(1,.pp 1 0),(3,.pv (iV (k:Int))),(4,.pp 2 0),(5,.pv (iV ((0:Nat):Int)))]) (qve l p x) (.exit 2) (qwA k) (qjC l x)) (hs:iV (IntKind.i64.wrap ((k:Int)+1))=iV (((k+1:Nat):Int))) {e:Exit} {tm2:TmL} {hp2:HpL}
 (r:Rl 1 1 121 0 78 2 (qBI k) (qjC l x) e tm2 hp2):Rl 1 1 121 0 78 2 (qwA k) (qjC l x) e tm2 hp2:=
 RunsL.next [] 300 [.t true,.r (ptV p),Rf hv,.k,.t false,.t false,.t false,Lf r1,Re hs]
  (Ro (A7 hlt hin (qaB hk) hv h1 h2 hz (Lo r1 [] (Ai hs tI)))) r
theorem qG8 (hk:l[k+1]?=some p) (hin:0≤((k+1:Nat):Int)∧((k+1:Nat):Int)<(l.length:Int)) (hlt:decide (((k+1:Nat):Int)<(l.length:Int))=true) (hv:Pure Tryz.prog 145 #[qae p.a p.b] (.bool true)) (h1:decide (p.id<0)=false) (h2:decide (p.id≥x)=false) (hz:decide (((k+1:Nat):Int)>0)=true) (hq:l[k]?=some q) (hin0:0≤(k:Int)∧(k:Int)<(l.length:Int)) (hm:iV (IntKind.i64.wrap (((k+1:Nat):Int)-1))=iV (k:Int)) (hg:decide (q.id≥p.id)=false) (r1:Rl 1 1 121 1 78 3 ([(1,.pp 1 0),(3,.pv (iV ((k+1:Nat):Int))),(4,.pp 2 0),(5,.pv (iV ((0:Nat):Int)))]) (qve l p x) (.exit 2) (qBI k) (qjC l x)) (hs:iV (IntKind.i64.wrap (((k+1:Nat):Int)+1))=iV (((k+1+1:Nat):Int))) {e:Exit} {tm2:TmL} {hp2:HpL}
 (r:Rl 1 1 121 0 78 2 ([(1,.pp 1 0),(3,.pv (iV ((k+1+1:Nat):Int)))]) (qjC l x) e tm2 hp2):Rl 1 1 121 0 78 2 (qBI k) (qjC l x) e tm2 hp2:=
 RunsL.next [] 300 [.t true,.r (ptV p),Rf hv,.k,.t false,.t false,.t true,.r (iV (k:Int)),.r (iV q.id),.t false,Lf r1,.r (iV (((k+1+1:Nat):Int)))]
  (Ro (A9 hlt hin (qaB hk) hv h1 h2 hz hm hin0 (A2 (qcP hq) hg (Lo r1 [] (Ai hs tI))))) r
theorem qnX (hk:l[k+1]?=some p) (hin:0≤((k+1:Nat):Int)∧((k+1:Nat):Int)<(l.length:Int)) (hlt:decide (((k+1:Nat):Int)<(l.length:Int))=true) (hv:Pure Tryz.prog 145 #[qae p.a p.b] (.bool true)) (h1:decide (p.id<0)=false) (h2:decide (p.id≥x)=false) (hz:decide (((k+1:Nat):Int)>0)=true) (hq:l[k]?=some q) (hin0:0≤(k:Int)∧(k:Int)<(l.length:Int)) (hm:iV (IntKind.i64.wrap (((k+1:Nat):Int)-1))=iV (k:Int)) (hg:decide (q.id≥p.id)=false) (r1:Rl 1 1 121 1 78 3 ([(1,.pp 1 0),(3,.pv (iV ((k+1:Nat):Int))),(4,.pp 2 0),(5,.pv (iV ((0:Nat):Int)))]) (qve l p x) (.ret) ([(2,.pv (iV 8))]) ([])):Rl 1 1 121 0 78 2 (qBI k) (qjC l x) (.ret) ([(2,.pv (iV 8))]) ([]):=
 RunsL.stop [] 300 [.t true,.r (ptV p),Rf hv,.k,.t false,.t false,.t true,.r (iV (k:Int)),.r (iV q.id),.t false,Lf r1] (fun h=>by cases h)
  (Ro (A9 hlt hin (qaB hk) hv h1 h2 hz hm hin0 (A2 (qcP hq) hg (Lo r1 [] tI))))
theorem qwo (hge:decide ((k:Int)<(l.length:Int))=false):Rl 1 1 121 0 78 2 (qwA k) (qjC l x) (.exit 0) ([]) ([]):=
 RunsL.stop [] 300 [.t false] (fun h=>by cases h)
  (Ro (Ai hge tI))
abbrev qHh (j:Nat) (k:Nat):TmL:=[(1,.pp 1 0),(3,.pv (iV (k:Int))),(4,.pp 2 0),(5,.pv (iV (j:Int)))]
theorem qno (hq:l[j]?=some q) (hin:Bd j l.length) (hlt:Dt ((j:Int)<(k:Int))) (he:(q.a==p.a&&(q.b==p.b&&true))=false) (hs:iV (IntKind.i64.wrap ((j:Int)+1))=iV (((j+1:Nat):Int))) {e:Exit} {tm2:TmL} {hp2:HpL}
 (r:Rl 1 1 121 1 78 3 ([(1,.pp 1 0),(3,.pv (iV (k:Int))),(4,.pp 2 0),(5,.pv (iV ((j+1:Nat):Int)))]) (qve l p x) e tm2 hp2):Rl 1 1 121 1 78 3 (qHh j k) (qve l p x) e tm2 hp2:=
 RunsL.next [] 300 [.t true,.r (qae q.a q.b),.t false,Re hs]
  (Ro (A5 hlt hin (qcI hq) he hs tI)) r
theorem qtH (hq:l[j]?=some q) (hin:Bd j l.length) (hlt:Dt ((j:Int)<(k:Int))) (he:(q.a==p.a&&(q.b==p.b&&true))=true):Rl 1 1 121 1 78 3 (qHh j k) (qve l p x) (.ret) ([(2,.pv (iV 8))]) ([]):=
 RunsL.stop [] 300 [.t true,.r (qae q.a q.b),.t true] (fun h=>by cases h)
  (Ro (A4 hlt hin (qcI hq) he tI))
theorem qtx (hge:decide ((j:Int)<(k:Int))=false):Rl 1 1 121 1 78 3 (qHh j k) (qve l p x) (.exit 2) (qwA k) (qjC l x):=
 RunsL.stop [] 300 [.t false] (fun h=>by cases h)
  (Ro (Ai hge tI))
theorem qth (g1:Dt ((l.length:Int)>200)) :
 Fn 121 1 [qaU 0 x l] [(0,0,qak l)] (.pv (iV (8))) 0 []:=
 Fz [] [.t true]
  tI (Ai g1 tI)
theorem qvh (g1:Df ((l.length:Int)>200)) (g2:decide (x<0)=true) :
 Fn 121 1 [qaU 0 x l] [(0,0,qak l)] (.pv (iV (8))) 0 []:=
 Fz [] [.t false,.t true]
  tI (A2 g1 g2 tI)
theorem quS (g1:Df ((l.length:Int)>200)) (g2:Df (x<0)) (g3:decide (x>1000000)=true) :
 Fn 121 1 [qaU 0 x l] [(0,0,qak l)] (.pv (iV (8))) 0 []:=
 Fz [] [.t false,.t false,.t true]
  tI (A3 g1 g2 g3 tI)
theorem qxE (g1:Df ((l.length:Int)>200)) (g2:Df (x<0)) (g3:Df (x>1000000)) (r0:Rl 1 1 121 0 78 2 ([(1,.pp 1 0),(3,.pv (iV ((0:Nat):Int)))]) (qjC l x) (.ret) ([(2,.pv (iV 8))]) ([])) :
 Fn 121 1 [qaU 0 x l] [(0,0,qak l)] (.pv (iV (8))) 0 []:=
 Fz [] [.t false,.t false,.t false,Lf r0]
  tI (A3 g1 g2 g3 (Lo r0 [] tI))
theorem qC8 (g1:Df ((l.length:Int)>200)) (g2:Df (x<0)) (g3:Df (x>1000000)) (r0:Rl 1 1 121 0 78 2 ([(1,.pp 1 0),(3,.pv (iV ((0:Nat):Int)))]) (qjC l x) (.exit 0) ([]) ([])) :
 Fn 121 1 [qaU 0 x l] [(0,0,qak l)] (.pv (iV (0))) 0 []:=
 Fz [] [.t false,.t false,.t false,Lf r0]
  tI (A3 g1 g2 g3 (Lo r0 [] tI))
end Go.Proofs.YtkckcgpmnipnaaaGreat
