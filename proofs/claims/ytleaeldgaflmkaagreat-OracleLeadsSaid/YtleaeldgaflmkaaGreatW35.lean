/-
  Joined: Fm, Va, Vb, Vd, Ve. Conditions: none.
-/
import Derived.Test.YtleaeldgaflmkaaGreatW33
import Derived.Test.YtleaeldgaflmkaaGreatW34
import Derived.Test.YtleaeldgaflmkaaGreatW25
import Derived.Test.YtleaeldgaflmkaaGreatW32
import Derived.Test.YtleaeldgaflmkaaGreatW31
namespace Go.Proofs.YtleaeldgaflmkaaGreat
set_option maxRecDepth 100000
open Go.RowKit
def qcG (p:Pt):Bool:=okP p.id p.a p.b
def Up (l:List Pt):Prop:=∀ (k:Nat) (p q:Pt),l[k]?=some p→l[k+1]?=some q→p.id<q.id
noncomputable def qce (l:List Pt):Int:=open Classical in if 64<l.length then 4 else if ∀ p∈l,qcG p=true then (if Up l then 0 else 32) else 8
theorem qdp (P:Nat→Prop):∀ (N:Nat),(∀ k,k<N→P k)∨∃ j,j<N∧¬ P j∧∀ i,i<j→P i
 | 0=>Or.inl fun k hk=>by omega
 | N+1=>by
  rcases qdp P N with h | ⟨j,h1,h2⟩
  ·by_cases hN:P N
   ·exact Or.inl fun k hk=>by
     rcases Nat.lt_or_ge k N with h' | h'
     ·exact h k h'
     ·have:k=N:=by omega
      subst this;exact hN
   ·exact Or.inr ⟨N,by omega,hN,h⟩
  ·exact Or.inr ⟨j,by omega,h2⟩
theorem qao {α:Type} {l:List α} {k:Nat} (h:k<l.length):∃ p,l[k]?=some p:=⟨l[k],List.getElem?_eq_getElem h⟩
theorem qax {α:Type} {l:List α} {k:Nat} {p:α} (h:l[k]?=some p):k<l.length:=(List.getElem?_eq_some_iff.1 h).1
theorem qaB {k n:Nat} (h:k<n):0≤(k:Int)∧(k:Int)<(n:Int):=⟨by omega,by omega⟩
theorem Up.mono {l:List Pt} (h:Up l):∀ {i j:Nat} {p q:Pt},i<j→l[i]?=some p→l[j]?=some q→p.id<q.id:=by
 intro i j
 induction j with
 | zero=>intro p q hij;omega
 | succ j ih=>
  intro p q hij hp hq
  by_cases e:i=j
  ·subst e;exact h i p q hp hq
  ·obtain⟨r,hr⟩:=qao (l:=l) (k:=j) (by have:=qax hq;omega)
   exact Int.lt_trans (ih (by omega) hp hr) (h j r q hr hq)
theorem qeM {k n:Nat} (h:k<n) (hn:n≤64):iV (IntKind.i64.wrap ((k:Int)+1))=iV ((k+1:Nat):Int):=qan (by omega)
theorem qjd {l:List Pt} (hn:l.length≤64) (h:∀ p∈l,qcG p=true):Rl 1 1 50 0 44 2 [(1,.pp 1 0),(3,.pv (iV ((0:Nat):Int)))] [(1,0,.ls 0 l.length),(0,0,qad l)] (.exit 0) [(1,.pp 1 0)] [(1,0,.ls 0 l.length),(0,0,qad l)]:=
 RunsL.rounds (fun k=>[(1,.pp 1 0),(3,.pv (iV (k:Int)))]) (fun _=>[(1,0,.ls 0 l.length),(0,0,qad l)]) l.length 0 (Nat.zero_add _)
  (fun k _ hk r=>by
   obtain⟨p,hp⟩:=qao hk
   exact qiZ hp (qaB hk) (dt (by omega)) (qaY (h p (List.mem_of_getElem? hp))) (qeM hk hn) r)
  (qsi (df (by omega)))
theorem qht {l:List Pt} (hn:l.length≤64) {j:Nat} {p:Pt} (hp:l[j]?=some p) (hb:¬ qcG p=true) (h:∀ i,i<j→∀ q,l[i]?=some q→qcG q=true):Rl 1 1 50 0 44 2 [(1,.pp 1 0),(3,.pv (iV ((0:Nat):Int)))] [(1,0,.ls 0 l.length),(0,0,qad l)] .ret [(2,.pv (iV 8))] []:=by
 have hj:=qax hp
 refine RunsL.rounds (fun k=>[(1,.pp 1 0),(3,.pv (iV (k:Int)))]) (fun _=>[(1,0,.ls 0 l.length),(0,0,qad l)]) j 0 (Nat.zero_add _) (fun k _ hk r=>?_) (qs5 hp (qaB hj) (dt (by omega)) (qcL hb))
 obtain⟨q,hq⟩:=qao (l:=l) (k:=k) (by omega)
 exact qiZ hq (qaB (qax hq)) (dt (by omega)) (qaY (h k hk q hq)) (qeM (qax hq) hn) r
theorem qc4 (k:Nat) (h:k≤1000000):iV (IntKind.i64.wrap (((k+1:Nat):Int)-1))=iV (k:Int):=by rw[show ((k+1:Nat):Int)-1=(k:Int) by omega,qag (by omega) (by omega)]
theorem qqg {l:List Pt} (hn:l.length≤64) (h:Up l):Rl 1 1 50 1 44 2 [(1,.pp 1 0),(4,.pv (iV ((0+1:Nat):Int)))] [(1,0,.ls 0 l.length),(0,0,qad l)] (.exit 2) [] []:=by
 by_cases h0:l.length=0
 ·exact qoi (k:=0+1) (df (by omega))
 refine RunsL.rounds (fun k=>[(1,.pp 1 0),(4,.pv (iV (k:Int)))]) (fun _=>[(1,0,.ls 0 l.length),(0,0,qad l)]) (N:=l.length) (l.length-1) (0+1) (by omega) (fun k h1 hk r=>?_) (qoi (df (by omega)))
 obtain⟨m,rfl⟩:∃ m,k=m+1:=⟨k-1,by omega⟩
 obtain⟨q,hq⟩:=qao (l:=l) (k:=m) (by omega)
 obtain⟨p,hp⟩:=qao hk
 exact qj7 hq hp (qaB (by omega)) (qaB hk) (dt (by omega)) (qc4 m (by omega)) (df (by have:=h m q p hq hp;omega)) (qeM hk hn) r
theorem qhd {l:List Pt} (hn:l.length≤64) {j:Nat} {p q:Pt} (hq:l[j]?=some q) (hp:l[j+1]?=some p) (hb:¬ q.id<p.id) (h:∀ i,i<j→∀ p q,l[i]?=some p→l[i+1]?=some q→p.id<q.id):Rl 1 1 50 1 44 2 [(1,.pp 1 0),(4,.pv (iV ((0+1:Nat):Int)))] [(1,0,.ls 0 l.length),(0,0,qad l)] .ret [(2,.pv (iV 32))] []:=by
 have hj:=qax hp
 refine RunsL.rounds (fun k=>[(1,.pp 1 0),(4,.pv (iV (k:Int)))]) (fun _=>[(1,0,.ls 0 l.length),(0,0,qad l)]) (N:=j+1) j (0+1) (by omega) (fun k h1 hk r=>?_) (qsp hq hp (qaB (by omega)) (qaB hj) (dt (by omega)) (qc4 j (by omega)) (dt (by omega)))
 obtain⟨m,rfl⟩:∃ m,k=m+1:=⟨k-1,by omega⟩
 obtain⟨q',hq'⟩:=qao (l:=l) (k:=m) (by omega)
 obtain⟨p',hp'⟩:=qao (l:=l) (k:=m+1) (by omega)
 exact qj7 hq' hp' (qaB (by omega)) (qaB (by omega)) (dt (by omega)) (qc4 m (by omega)) (df (by have:=h m (by omega) q' p' hq' hp';omega)) (qeM (n:=l.length) (by omega) hn) r
theorem qfm (l:List Pt):(64<l.length∧qce l=4)∨(l.length≤64∧(∃ (j:Nat) (p:Pt),l[j]?=some p∧¬ qcG p=true∧∀ i,i<j→∀ q,l[i]?=some q→qcG q=true)∧qce l=8)∨
 (l.length≤64∧(∀ p∈l,qcG p=true)∧(∃ (j:Nat) (p q:Pt),l[j]?=some q∧l[j+1]?=some p∧¬ q.id<p.id∧∀ i,i<j→∀ p q,l[i]?=some p→l[i+1]?=some q→p.id<q.id)∧qce l=32)∨
 (l.length≤64∧(∀ p∈l,qcG p=true)∧Up l∧qce l=0):=by
 by_cases h0:64<l.length
 ·exact Or.inl ⟨h0,by unfold qce;rw[if_pos h0]⟩
 refine Or.inr ?_
 by_cases h1:∀ p∈l,qcG p=true
 ·refine Or.inr ?_
  by_cases h2:Up l
  ·exact Or.inr ⟨by omega,h1,h2,by unfold qce;rw[if_neg h0,if_pos h1,if_pos h2]⟩
  ·refine Or.inl ⟨by omega,h1,?_,by unfold qce;rw[if_neg h0,if_pos h1,if_neg h2]⟩
   rcases qdp (fun k=>∀ p q,l[k]?=some p→l[k+1]?=some q→p.id<q.id) l.length with h | ⟨j,hj,hn,hb⟩
   ·exact (h2 fun k p q hp hq=>h k (qax hp) p q hp hq).elim
   ·simp only[Classical.not_forall,not_imp] at hn
    obtain⟨p,q,hp,hq,hpq⟩:=hn
    exact⟨j,q,p,hp,hq,hpq,hb⟩
 ·refine Or.inl ⟨by omega,?_,by unfold qce;rw[if_neg h0,if_neg h1]⟩
  rcases qdp (fun k=>∀ q,l[k]?=some q→qcG q=true) l.length with h | ⟨j,hj,hn,hb⟩
  ·exact (h1 fun p hp=>by obtain⟨k,hk,rfl⟩:=List.getElem_of_mem hp;exact h k hk _ (List.getElem?_eq_getElem hk)).elim
  ·simp only[Classical.not_forall,not_imp] at hn
   obtain⟨p,hp,hpq⟩:=hn
   exact⟨j,p,hp,hpq,hb⟩
theorem qbf (l:List Pt):Fn 50 1 [qar 0 l] [(0,0,qad l)] (.pv (iV (qce l))) 0 []:=by
 rcases qfm l with ⟨h,e⟩ | ⟨h,⟨j,p,hp,hb,hf⟩,e⟩ | ⟨h,h1,⟨j,p,q,hq,hp,hb,hf⟩,e⟩ | ⟨h,h1,h2,e⟩<;>rw[e]
 ·exact qtj (dt (by omega))
 ·exact qvg (df (by omega)) (qht h hp hb hf)
 ·exact qvj (df (by omega)) (qjd h h1) (qhd h hq hp hb hf)
 ·exact qyL (df (by omega)) (qjd h h1) (qqg h h2)
abbrev pcT (l:List Pt) (k:Nat):List (Nat×SV):=[(1,.pp 1 0),(12,.ls 0 l.length),(13,.pv (iV (l.length:Int))),(14,.pv (iV (k:Int)))]
theorem qjw {l:List Pt} (hn:l.length≤64) (h:∀ p∈l,qcG p=true):Rl 1 1 44 0 45 2 (pcT l 0) [(1,0,.ls 0 l.length),(0,0,qad l)] (.exit 0) [(1,.pp 1 0)] [(1,0,.ls 0 l.length),(0,0,qad l)]:=
 RunsL.rounds (pcT l) (fun _=>[(1,0,.ls 0 l.length),(0,0,qad l)]) l.length 0 (Nat.zero_add _)
  (fun k _ hk r=>by
   obtain⟨p,hp⟩:=qao hk
   exact qiX hp (qaB hk) (dt (by omega)) (qa2 (h p (List.mem_of_getElem? hp))) (qeM hk hn) r)
  (qtt (df (by omega)))
theorem qg7 {l:List Pt} (hn:l.length≤64) {j:Nat} {p:Pt} (hp:l[j]?=some p) (hb:¬ qcG p=true) (h:∀ i,i<j→∀ q,l[i]?=some q→qcG q=true):Rl 1 1 44 0 45 2 (pcT l 0) [(1,0,.ls 0 l.length),(0,0,qad l)] .ret [(2,.pv (iV 8))] []:=by
 have hj:=qax hp
 refine RunsL.rounds (pcT l) (fun _=>[(1,0,.ls 0 l.length),(0,0,qad l)]) j 0 (Nat.zero_add _) (fun k _ hk r=>?_) (qrE hp (qaB hj) (dt (by omega)) (qe0 hb))
 obtain⟨q,hq⟩:=qao (l:=l) (k:=k) (by omega)
 exact qiX hq (qaB (qax hq)) (dt (by omega)) (qa2 (h k hk q hq)) (qeM (qax hq) hn) r
theorem qpC {l:List Pt} (hn:l.length≤64) (h:Up l):Rl 1 1 44 1 45 2 [(1,.pp 1 0),(6,.pv (iV ((0+1:Nat):Int)))] [(1,0,.ls 0 l.length),(0,0,qad l)] (.exit 2) [] []:=by
 by_cases h0:l.length=0
 ·exact qm0 (k:=0+1) (df (by omega))
 refine RunsL.rounds (fun k=>[(1,.pp 1 0),(6,.pv (iV (k:Int)))]) (fun _=>[(1,0,.ls 0 l.length),(0,0,qad l)]) (N:=l.length) (l.length-1) (0+1) (by omega) (fun k h1 hk r=>?_) (qm0 (df (by omega)))
 obtain⟨m,rfl⟩:∃ m,k=m+1:=⟨k-1,by omega⟩
 obtain⟨q,hq⟩:=qao (l:=l) (k:=m) (by omega)
 obtain⟨p,hp⟩:=qao hk
 exact qj6 hq hp (qaB (by omega)) (qaB hk) (dt (by omega)) (qc4 m (by omega)) (df (by have:=h m q p hq hp;omega)) (qeM hk hn) r
theorem qhj {l:List Pt} (hn:l.length≤64) {j:Nat} {p q:Pt} (hq:l[j]?=some q) (hp:l[j+1]?=some p) (hb:¬ q.id<p.id) (h:∀ i,i<j→∀ p q,l[i]?=some p→l[i+1]?=some q→p.id<q.id):Rl 1 1 44 1 45 2 [(1,.pp 1 0),(6,.pv (iV ((0+1:Nat):Int)))] [(1,0,.ls 0 l.length),(0,0,qad l)] .ret [(2,.pv (iV 32))] []:=by
 have hj:=qax hp
 refine RunsL.rounds (fun k=>[(1,.pp 1 0),(6,.pv (iV (k:Int)))]) (fun _=>[(1,0,.ls 0 l.length),(0,0,qad l)]) (N:=j+1) j (0+1) (by omega) (fun k h1 hk r=>?_) (qrR hq hp (qaB (by omega)) (qaB hj) (dt (by omega)) (qc4 j (by omega)) (dt (by omega)))
 obtain⟨m,rfl⟩:∃ m,k=m+1:=⟨k-1,by omega⟩
 obtain⟨q',hq'⟩:=qao (l:=l) (k:=m) (by omega)
 obtain⟨p',hp'⟩:=qao (l:=l) (k:=m+1) (by omega)
 exact qj6 hq' hp' (qaB (by omega)) (qaB (by omega)) (dt (by omega)) (qc4 m (by omega)) (df (by have:=h m (by omega) q' p' hq' hp';omega)) (qeM (n:=l.length) (by omega) hn) r
theorem qaR (l:List Pt):Fn 44 1 [qar 0 l] [(0,0,qad l)] (.pv (iV (qce l))) 0 []:=by
 rcases qfm l with ⟨h,e⟩ | ⟨h,⟨j,p,hp,hb,hf⟩,e⟩ | ⟨h,h1,⟨j,p,q,hq,hp,hb,hf⟩,e⟩ | ⟨h,h1,h2,e⟩<;>rw[e]
 ·exact qti (dt (by omega))
 ·exact qu5 (df (by omega)) (qg7 h hp hb hf)
 ·exact qw3 (df (by omega)) (qjw h h1) (qhj h hq hp hb hf)
 ·exact qxZ (df (by omega)) (qjw h h1) (qpC h h2)
structure Val (l:List Pt):Prop where
 len:l.length≤64
 ok:∀ p∈l,qcG p=true
 up:Up l
theorem qbI {l:List Pt}:qce l=0↔Val l:=by
 rcases qfm l with ⟨h,e⟩ | ⟨h,⟨j,p,hp,hb,hf⟩,e⟩ | ⟨h,h1,⟨j,p,q,hq,hp,hb,hf⟩,e⟩ | ⟨h,h1,h2,e⟩<;>rw[e]
 ·exact⟨fun h=>by omega,fun v=>by have:=v.len;omega⟩
 ·exact⟨fun h=>by omega,fun v=>(hb (v.ok p (List.mem_of_getElem? hp))).elim⟩
 ·exact⟨fun h=>by omega,fun v=>(hb (v.up j q p hq hp)).elim⟩
 ·exact⟨fun _=>⟨h,h1,h2⟩,fun _=>rfl⟩
theorem place (l:List Pt) (hv:Val l) (id:Int):(∃ (k:Nat) (p:Pt),l[k]?=some p∧p.id=id)∨((∀ p∈l,p.id≠id)∧∃ k,k≤l.length∧(∀ (t:Nat) (p:Pt),t<k→l[t]?=some p→p.id<id)∧∀ (t:Nat) (p:Pt),k≤t→l[t]?=some p→id<p.id):=by
 by_cases h:∃ (k:Nat) (p:Pt),l[k]?=some p∧p.id=id
 ·exact Or.inl h
 ·refine Or.inr ⟨fun p hp e=>?_,?_⟩
  ·obtain⟨k,hk,rfl⟩:=List.getElem_of_mem hp
   exact h ⟨k,_,List.getElem?_eq_getElem hk,e⟩
  ·rcases qdp (fun k=>∀ p,l[k]?=some p→p.id<id) l.length with hh | ⟨j,hj,hn,hb⟩
   ·exact⟨l.length,Nat.le_refl _,fun t p ht hp=>hh t ht p hp,fun t p ht hp=>by have:=qax hp;omega⟩
   ·refine⟨j,by omega,fun t p ht hp=>hb t ht p hp,fun t p ht hp=>?_⟩
    simp only[Classical.not_forall,not_imp] at hn
    obtain⟨q,hq,hlt⟩:=hn
    have hne:q.id≠id:=fun e=>h ⟨j,q,hq,e⟩
    rcases Nat.lt_or_ge j t with h' | h'
    ·have:=hv.up.mono h' hq hp;omega
    ·have:t=j:=by omega
     subst this
     rw[hq] at hp
     cases hp
     omega
abbrev atT (id:Int) (k:Nat):List (Nat×SV):=[(1,.pv (iV id)),(2,.pp 1 0),(5,.pv (iV (k:Int)))]
theorem qpy {l:List Pt} (hn:l.length≤64) {id:Int} (h:∀ p∈l,p.id≠id):Fn 76 1 [qar 0 l,.pv (iV id)] [(0,0,qad l)] (.pv (iV (-1))) 0 []:=
 qzj (RunsL.rounds (atT id) (fun _=>[(1,0,.ls 0 l.length),(0,0,qad l)]) l.length 0 (Nat.zero_add _)
  (fun k _ hk r=>by
   obtain⟨p,hp⟩:=qao hk
   exact qnV hp (qaB hk) (dt (by omega)) (by simpa using h p (List.mem_of_getElem? hp)) (qeM hk hn) r)
  (qvn (df (by omega))))
theorem qi0 {l:List Pt} (hv:Val l) {id:Int} {k:Nat} {p:Pt} (hk:l[k]?=some p) (he:p.id=id):Fn 76 1 [qar 0 l,.pv (iV id)] [(0,0,qad l)] (.pv (iV (k:Int))) 0 []:=by
 refine qwU (RunsL.rounds (atT id) (fun _=>[(1,0,.ls 0 l.length),(0,0,qad l)]) k 0 (Nat.zero_add _) (fun j _ hj r=>?_) (qwc hk (qaB (qax hk)) (dt (by have:=qax hk;omega)) (by simpa using he)))
 have hl:=qax hk
 obtain⟨q,hq⟩:=qao (l:=l) (k:=j) (by omega)
 exact qnV hq (qaB (qax hq)) (dt (by omega)) (by have:=hv.up.mono hj hq hk;simp;omega) (qeM (qax hq) hv.len) r
theorem qsj (a pa pb id:Int):∃ c,Pure Tryz.prog 83 #[qab a pa pb,iV id] (iV c)∧(c<0↔a<id)∧(c=0↔a=id):=by
 rcases Int.lt_trichotomy a id with h | h | h
 ·exact⟨-1,qp9 (by simp) (by simp) (dt h),⟨fun _=>h,fun _=>by omega⟩,⟨fun h=>by omega,fun h=>by omega⟩⟩
 ·exact⟨0,qoL (by simp) (by simp) (df (by omega)) (df (by omega)),⟨fun h=>by omega,fun h=>by omega⟩,⟨fun _=>h,fun _=>rfl⟩⟩
 ·exact⟨1,qoN (by simp) (by simp) (df (by omega)) (dt (by omega)),⟨fun h=>by omega,fun h=>by omega⟩,⟨fun h=>by omega,fun h=>by omega⟩⟩
abbrev bsT (l:List Pt) (id:Int) (i j:Nat):List (Nat×SV):=[(0,.ls 0 l.length),(1,.pv (iV id)),(2,.pv (.func (.func 83) #[] #[])),(8,.pv (iV (l.length:Int))),(9,.pv (iV (i:Int))),(10,.pv (iV (j:Int)))]
theorem qnq {l:List Pt} (hn:l.length≤64) {id:Int} {k:Nat} (hlo:∀ (t:Nat) (p:Pt),t<k→l[t]?=some p→p.id<id) (hhi:∀ (t:Nat) (p:Pt),k≤t→l[t]?=some p→¬ p.id<id):∀ (d i j:Nat),j-i≤d→i≤k→k≤j→j≤l.length→
 Rl 1 1 82 0 49 1 (bsT l id i j) [(0,0,qad l)] (.exit 0) (bsT l id k k) [(0,0,qad l)]:=by
 intro d
 induction d with
 | zero=>
  intro i j hd h1 h2 h3
  have:i=k:=by omega
  have:j=k:=by omega
  subst i j
  exact qqQ (df (by omega))
 | succ d ih=>
  intro i j hd h1 h2 h3
  by_cases hij:i<j
  ·obtain⟨p,hp⟩:=qao (l:=l) (k:=(i+j)/2) (by omega)
   obtain⟨c,hc,hc1,hc2⟩:=qsj p.id p.a p.b id
   have a1:iV (IntKind.i64.wrap ((i:Int)+(j:Int)))=iV ((i:Int)+(j:Int)):=by rw[qag (by omega) (by omega)]
   have a2:Value.int .u64 (IntKind.u64.wrap ((i:Int)+(j:Int)))=.int .u64 ((i:Int)+(j:Int)):=by rw[qdk (by omega) (by omega)]
   have a3:Value.int .u64 (((i:Int)+(j:Int)).fdiv (2 ^ (min (1:Int).toNat IntKind.u64.bits)))=.int .u64 (((i+j)/2:Nat):Int):=by
    have:(2:Int) ^ (min (1:Int).toNat IntKind.u64.bits)=2:=rfl
    rw[this,Int.fdiv_eq_ediv_of_nonneg _ (by omega)]
    congr 1
   have a4:iV (IntKind.i64.wrap (((i+j)/2:Nat):Int))=iV (((i+j)/2:Nat):Int):=by rw[qag (by omega) (by omega)]
   by_cases hlt:p.id<id
   ·refine qzh hp (qaB (qax hp)) (dt (by omega)) a1 a2 (by omega) a3 a4 hc (dt (hc1.2 hlt)) (qan (by omega)) (ih _ _ (by omega) ?_ h2 h3)
    rcases Nat.lt_or_ge ((i+j)/2) k with h | h
    ·exact h
    ·exact (hhi _ p h hp hlt).elim
   ·refine qzy hp (qaB (qax hp)) (dt (by omega)) a1 a2 (by omega) a3 a4 hc (df (fun h=>hlt (hc1.1 h))) (ih _ _ (by omega) h1 ?_ (by omega))
    rcases Nat.lt_or_ge ((i+j)/2) k with h | h
    ·exact (hlt (hlo _ p h hp)).elim
    ·exact h
  ·have:i=k:=by omega
   have:j=k:=by omega
   subst i j
   exact qqQ (df (by omega))
theorem qcZ {l:List Pt} (hv:Val l) {id:Int} {k:Nat} {p:Pt} (hk:l[k]?=some p) (he:p.id=id):Fn 58 1 [qar 0 l,.pv (iV id)] [(0,0,qad l)] (.pv (.tuple #[iV (k:Int),.bool true])) 0 []:=by
 subst he
 obtain⟨c,hc,hc1,hc2⟩:=qsj p.id p.a p.b p.id
 have hl:=qax hk
 refine qeT (qtx (qnq hv.len (fun t q ht hq=>hv.up.mono ht hq hk) (fun t q ht hq=>?_) l.length 0 l.length (by omega) (Nat.zero_le _) (by omega) (Nat.le_refl _)) hk (qaB hl) (dt (by omega)) hc (by simpa using hc2.2 rfl))
 rcases Nat.lt_or_ge k t with h | h
 ·have:=hv.up.mono h hk hq;omega
 ·have:t=k:=by omega
  subst this
  rw[hk] at hq;cases hq;omega
theorem qgf {l:List Pt} (hv:Val l) {id:Int} {k:Nat} (hkl:k≤l.length) (hlo:∀ (t:Nat) (p:Pt),t<k→l[t]?=some p→p.id<id) (hhi:∀ (t:Nat) (p:Pt),k≤t→l[t]?=some p→id<p.id):Fn 58 1 [qar 0 l,.pv (iV id)] [(0,0,qad l)] (.pv (.tuple #[iV (k:Int),.bool false])) 0 []:=by
 have hb:=qnq hv.len hlo (fun t p ht hp=>by have:=hhi t p ht hp;omega) l.length 0 l.length (by omega) (Nat.zero_le _) hkl (Nat.le_refl _)
 by_cases h:k<l.length
 ·obtain⟨p,hp⟩:=qao h
  obtain⟨c,hc,hc1,hc2⟩:=qsj p.id p.a p.b id
  refine qeT (quV hb hp (qaB h) (dt (by omega)) hc ?_)
  have:=hhi k p (Nat.le_refl _) hp
  simp only[beq_eq_false_iff_ne,ne_eq]
  exact fun e=>by have:=hc2.1 e;omega
 ·exact qeT (qsA hb (df (by omega)))
end Go.Proofs.YtleaeldgaflmkaaGreat

namespace Go.Proofs.YtleaeldgaflmkaaGreat
set_option maxRecDepth 100000
open Go.RowKit
def quo (p:Pt):List Pt→List Pt
 | []=>[p]
 | q::r=>if p.id<q.id then p::q::r else q::quo p r
theorem qlH {p:Pt}:∀ {l:List Pt} {k:Nat},k≤l.length→(∀ (t:Nat) (q:Pt),t<k→l[t]?=some q→q.id<p.id)→(∀ (t:Nat) (q:Pt),k≤t→l[t]?=some q→p.id<q.id)→quo p l=l.take k++p::l.drop k
 | [],k,hk,_,_=>by
  have e:k=0:=by simpa using hk
  subst e
  rfl
 | x::r,0,_,_,h2=>by
  have:=h2 0 x (Nat.le_refl _) rfl
  simp[quo,this]
 | x::r,k+1,hk,h1,h2=>by
  have hx:=h1 0 x (by omega) rfl
  have ih:=qlH (p:=p) (l:=r) (k:=k) (by simpa using hk) (fun t q ht hq=>h1 (t+1) q (by omega) hq) (fun t q ht hq=>h2 (t+1) q (by omega) hq)
  simp[quo,show ¬ p.id<x.id by omega,ih]
end Go.Proofs.YtleaeldgaflmkaaGreat

namespace Go.Proofs.YtleaeldgaflmkaaGreat
set_option maxRecDepth 100000
open Go.RowKit
def qaO {α:Type} (lt:α→α→Bool) (b:α) (l:List α):α:=l.foldl (fun b x=>if lt x b then x else b) b
structure Weak {α:Type} (lt:α→α→Bool):Prop where
 asym:∀ a b,lt a b=true→lt b a=false
 mid:∀ a b c,lt a b=true→lt a c=true∨lt c b=true
theorem Weak.trans {α:Type} {lt:α→α→Bool} (h:Weak lt) {a b c:α} (h1:lt a b=true) (h2:lt b c=true):lt a c=true:=by
 rcases h.mid a b c h1 with k | k
 ·exact k
 ·rw[h.asym b c h2] at k;cases k
theorem qcB {α:Type} {lt:α→α→Bool} (h:Weak lt):∀ (l:List α) (b:α),∃ l1 l2,b::l=l1++qaO lt b l::l2∧(∀ x∈l1,lt (qaO lt b l) x=true)∧(∀ x∈l2,lt x (qaO lt b l)=false)
 | [],b=>⟨[],[],rfl,fun x hx=>(by cases hx),fun x hx=>(by cases hx)⟩
 | y::r,b=>by
  by_cases hy:lt y b=true
  ·have e:qaO lt b (y::r)=qaO lt y r:=by unfold qaO;rw[List.foldl_cons,if_pos hy]
   obtain⟨l1,l2,h1,h2,h3⟩:=qcB h r y
   rw[e]
   refine⟨b::l1,l2,by rw[h1];rfl,fun x hx=>?_,h3⟩
   rcases List.mem_cons.1 hx with rfl | hx
   ·cases l1 with
    | nil=>
     have:y=qaO lt y r:=(List.cons.inj h1).1
     rw[← this];exact hy
    | cons z l1=>
     have:y=z:=(List.cons.inj h1).1
     subst this
     exact h.trans (h2 y List.mem_cons_self) hy
   ·exact h2 x hx
  ·have hy':lt y b=false:=by simpa using hy
   have e:qaO lt b (y::r)=qaO lt b r:=by unfold qaO;rw[List.foldl_cons,if_neg hy]
   obtain⟨l1,l2,h1,h2,h3⟩:=qcB h r b
   rw[e]
   cases l1 with
   | nil=>
    obtain⟨hb,hr⟩:=List.cons.inj h1
    refine⟨[],y::l2,?_,fun x hx=>(by cases hx),fun x hx=>?_⟩
    ·show b::y::r=qaO lt b r::y::l2
     rw[← hb,hr]
    ·rcases List.mem_cons.1 hx with rfl | hx
     ·rw[← hb];exact hy'
     ·exact h3 x hx
   | cons z l1=>
    obtain⟨rfl,hr⟩:=List.cons.inj h1
    have hb:lt (qaO lt b r) b=true:=h2 b List.mem_cons_self
    refine⟨b::y::l1,l2,congrArg (fun t=>b::y::t) hr,fun x hx=>?_,h3⟩
    rcases List.mem_cons.1 hx with rfl | hx
    ·exact hb
    ·rcases List.mem_cons.1 hx with rfl | hx
     ·rcases h.mid _ _ x hb with k | k
      ·exact k
      ·rw[hy'] at k;cases k
     ·exact h2 x (List.mem_cons_of_mem _ hx)
def qcb (n:Nat):List (Nat×Nat):=(List.range n).flatMap fun a=>(List.range' (a+1) (n-(a+1))).map fun b=>(a,b)
theorem qei {n:Nat} {q:Nat×Nat}:q∈qcb n↔q.1<q.2∧q.2<n:=by
 unfold qcb
 rw[List.mem_flatMap]
 constructor
 ·rintro⟨a,ha,hq⟩
  obtain⟨b,hb,rfl⟩:=List.mem_map.1 hq
  have:=List.mem_range'_1.1 hb
  exact⟨by show a<b;omega,by show b<n;omega⟩
 ·rintro⟨h1,h2⟩
  exact⟨q.1,List.mem_range.2 (by omega),List.mem_map.2 ⟨q.2,List.mem_range'_1.2 ⟨by omega,by omega⟩,rfl⟩⟩
end Go.Proofs.YtleaeldgaflmkaaGreat

namespace Go.Proofs.YtleaeldgaflmkaaGreat
set_option maxRecDepth 100000
open Go.RowKit
structure AskT (n d:Int):Prop where
 ok:okB n d=true
 lo : -1073741824≤n
 hi:n≤1073741824
 den:d≤1024
section
variable {n d:Int} {p q:Pt}
theorem AskT.in (h:AskT n d):I64 n∧I64 d∧1≤d:=by
 have h1:=qav h.ok
 have h2:=h.lo
 have h3:=h.hi
 have h4:=h.den
 exact⟨⟨by omega,by omega⟩,⟨by omega,by omega⟩,h1⟩
def plS (p:Pt) (n d:Int):Int:=p.a*d+p.b*n
theorem qcp (hp:qcG p=true) (h:AskT n d) : -1125900000000000-1073741824≤plS p n d∧plS p n d≤1125900000000000+1073741824:=by
 have h':=qbr.1 hp
 have h1:=qav h.ok
 have h2:=h.lo
 have h3:=h.hi
 have h4:=h.den
 obtain⟨_,_,a1,a2,b1,b2⟩:=h'
 have m1:=quj (a:=p.a) (x:=d) (A:=1048576) (X:=1024) (by omega) a2 (by omega) (by omega) (by decide) (by decide)
 have m2:=quj (a:=p.b) (x:=n) (A:=1048576) (X:=1073741824) (by omega) b2 (by omega) (by omega) (by decide) (by decide)
 unfold plS
 omega
theorem qmp (hp:qcG p=true) (h:AskT n d):∃ N D,okB N D=true∧I64 N∧I64 D∧N*d=plS p n d*D∧Pure Tryz.prog 75 #[qab p.id p.a p.b,qaa n d] (qaa N D):=by
 obtain⟨i1,i2,i3⟩:=h.in
 obtain⟨N,D,E,hr,hc⟩:=qt1 i1 i2 hp h.ok
 have g:=qcp hp h
 obtain⟨_,f2,f3,f4,f5⟩:=IsRes.fits hr (by omega) i2.2 (by unfold plS at g;omega) (by unfold plS at g;omega)
 exact⟨N,D,f2,f3,f4,f5,vpl (c1:=hc)⟩
def qq4 (p q:Pt) (n d:Int):Int:=if plS p n d-plS q n d<0 then -(plS p n d-plS q n d) else plS p n d-plS q n d
theorem qzi (hp:qcG p=true) (hq:qcG q=true) (h:AskT n d):∃ N D,okB N D=true∧I64 N∧I64 D∧N*d=qq4 p q n d*D∧Pure Tryz.prog 106 #[qab p.id p.a p.b,qab q.id q.a q.b,qaa n d] (qaa N D):=by
 obtain⟨i1,i2,i3⟩:=h.in
 obtain⟨N1,D1,k1,a1,a2,e1,c1⟩:=qmp hp h
 obtain⟨N2,D2,k2,b1,b2,e2,c2⟩:=qmp hq h
 have g1:=qcp hp h
 have g2:=qcp hq h
 have d1:=qav k1
 have d2:=qav k2
 have c3:=qi1 a1 a2 b1 b2 k1 k2
 have hr:=qgF k1 (qcI b1.2 k2)
 have hd0:D1*D2≠0:=Int.mul_ne_zero (by omega) (by omega)
 have hm:=qfk (a:=plS p n d-plS q n d) (b:=d) (by omega)
 have ex:(N1*D2 + -N2*D1)*d=(plS p n d-plS q n d)*(D1*D2):=by
  have t1:N1*D2*d=plS p n d*(D1*D2):=by rw[Int.mul_right_comm,e1,Int.mul_assoc]
  have t2:N2*D1*d=plS q n d*(D1*D2):=by rw[Int.mul_right_comm,e2,Int.mul_assoc,Int.mul_comm D2]
  rw[Int.add_mul,Int.sub_mul,t1,Int.neg_mul,Int.neg_mul,t2]
  omega
 have hu:=IsRes.uniqR hr hm hd0 (by omega) ex
 obtain⟨f1,f2,f3,f4,f5⟩:=IsRes.fits hm (by omega) i2.2 (by omega) (by omega)
 obtain⟨u1,u2,u3⟩:=hu
 rw[u1,u2,u3,f1] at c3
 by_cases hn:mkN (plS p n d-plS q n d) d<0
 ·have hneg:plS p n d-plS q n d<0:=by
   have hD:=qav f2
   apply Classical.byContradiction
   intro hc
   have:0≤(plS p n d-plS q n d)*mkD (plS p n d-plS q n d) d:=Int.mul_nonneg (by omega) (by omega)
   have h2:mkN (plS p n d-plS q n d) d*d<0:=Int.mul_neg_of_neg_of_pos hn (by omega)
   omega
  refine⟨-mkN (plS p n d-plS q n d) d,mkD (plS p n d-plS q n d) d,qcI f3.2 f2,?_,f4,?_,qx2 (c1:=c1) (c2:=c2) (c3:=c3) (h0:=dt hn) (hn:=?_)⟩
  ·have:=qbm f2
   obtain⟨x1,x2⟩:=f3
   exact⟨by omega,by omega⟩
  ·unfold qq4
   rw[if_pos hneg,Int.neg_mul,Int.neg_mul,f5]
  ·have:=qbm f2
   obtain⟨x1,x2⟩:=f3
   rw[qag (by omega) (by omega),Int.zero_sub]
 ·have hneg:¬ plS p n d-plS q n d<0:=fun hc=>by
   have hD:=qav f2
   have h1:(plS p n d-plS q n d)*mkD (plS p n d-plS q n d) d<0:=Int.mul_neg_of_neg_of_pos hc (by omega)
   have h2:0≤mkN (plS p n d-plS q n d) d*d:=Int.mul_nonneg (by omega) (by omega)
   omega
  refine⟨mkN (plS p n d-plS q n d) d,mkD (plS p n d-plS q n d) d,f2,f3,f4,?_,qxH (c1:=c1) (c2:=c2) (c3:=c3) (h0:=df hn)⟩
  unfold qq4
  rw[if_neg hneg]
  exact f5
end
end Go.Proofs.YtleaeldgaflmkaaGreat

namespace Go.Proofs.YtleaeldgaflmkaaGreat
set_option maxRecDepth 100000
open Go.RowKit
def ptK (s:List Pt) (k:Nat):Pt:=s.getD k ⟨0,0,0⟩
theorem qaP {s:List Pt} {k:Nat} (h:k<s.length):s[k]?=some (ptK s k):=by unfold ptK;rw[List.getD_eq_getElem?_getD,List.getElem?_eq_getElem h];rfl
section
variable {s:List Pt} {n d:Int}
def quu (s:List Pt) (n d:Int) (x:Nat×Nat):Int:=qq4 (ptK s x.1) (ptK s x.2) n d
def ltK (s:List Pt) (n d:Int) (x y:Nat×Nat):Bool:=decide (quu s n d x<quu s n d y)
theorem ltK_weak:Weak (ltK s n d):=⟨fun a b h=>by
 unfold ltK at h ⊢
 rw[decide_eq_true_eq] at h
 exact decide_eq_false (by omega),fun a b c h=>by
 unfold ltK at h ⊢
 rw[decide_eq_true_eq] at h
 rw[decide_eq_true_eq,decide_eq_true_eq]
 omega⟩
structure DisI (s:List Pt) (n d:Int) (x:Nat×Nat) (N D:Int):Prop where
 ok:okB N D=true
 num:I64 N
 den:I64 D
 eq:N*d=quu s n d x*D
theorem DisI.less {x y:Nat×Nat} {N D N' D':Int} (hd:1≤d) (h:DisI s n d x N D) (k:DisI s n d y N' D'):(N*D'-N'*D).sign<0↔ltK s n d x y=true:=by
 have d1:=qav h.ok
 have d2:=qav k.ok
 have hp:0<D*D':=Int.mul_pos (by omega) (by omega)
 have e1:N*D'*d=quu s n d x*(D*D'):=by rw[Int.mul_right_comm,h.eq,Int.mul_assoc]
 have e2:N'*D*d=quu s n d y*(D*D'):=by rw[Int.mul_right_comm,k.eq,Int.mul_assoc,Int.mul_comm D']
 unfold ltK
 rw[decide_eq_true_eq]
 have hs:(N*D'-N'*D).sign<0↔N*D'<N'*D:=by
  rw[Int.sign_neg_iff]
  omega
 rw[hs]
 constructor
 ·intro q
  have:=Int.mul_lt_mul_of_pos_right q (show 0<d by omega)
  rw[e1,e2] at this
  exact Int.lt_of_mul_lt_mul_right this (Int.le_of_lt hp)
 ·intro q
  have:=Int.mul_lt_mul_of_pos_right q hp
  rw[← e1,← e2] at this
  exact Int.lt_of_mul_lt_mul_right this (by omega)
abbrev paT (i j a:Nat):List (Nat×SV):=[(2,.pp 1 0),(3,.pp 2 0),(4,.pv (iV 0)),(5,.pv (iV 0)),(6,.pp 3 0),(7,.pv (iV (i:Int))),(8,.pv (iV (j:Int))),(9,.pp 4 0),(10,.pv (iV (a:Int)))]
abbrev paI (i j a b:Nat):List (Nat×SV):=[(2,.pp 1 0),(3,.pp 2 0),(4,.pv (iV 0)),(5,.pv (iV 0)),(6,.pp 3 0),(7,.pv (iV (i:Int))),(8,.pv (iV (j:Int))),(9,.pp 4 0),(10,.pv (iV (a:Int))),(11,.pv (iV (b:Int)))]
abbrev paE (i j:Nat):List (Nat×SV):=[(2,.pp 1 0),(3,.pp 2 0),(4,.pv (iV 0)),(5,.pv (iV 0)),(6,.pp 3 0),(7,.pv (iV (i:Int))),(8,.pv (iV (j:Int))),(9,.pp 4 0)]
abbrev paH (s:List Pt) (n d N D:Int):List (Nat×Nat×SV):=[(1,0,.ls 0 s.length),(2,0,.pv (iV n)),(2,1,.pv (iV d)),(3,0,.pv (iV 0)),(3,1,.pv (iV 0)),(4,0,.pv (iV N)),(4,1,.pv (iV D)),(0,0,qad s)]
theorem qwI (hs:∀ p∈s,qcG p=true) (h:AskT n d) {a b:Nat} (ha:a<s.length) (hb:b<s.length):∃ N D,DisI s n d (a,b) N D∧Pure Tryz.prog 106 #[qab (ptK s a).id (ptK s a).a (ptK s a).b,qab (ptK s b).id (ptK s b).a (ptK s b).b,qaa n d] (qaa N D):=by
 obtain⟨N,D,h1,h2,h3,h4,h5⟩:=qzi (hs _ (List.mem_of_getElem? (qaP ha))) (hs _ (List.mem_of_getElem? (qaP hb))) h
 exact⟨N,D,⟨h1,h2,h3,h4⟩,h5⟩
theorem qiH (hs:∀ p∈s,qcG p=true) (h:AskT n d) (hl:s.length≤999999) {a:Nat} (ha:a<s.length):∀ (c b:Nat) (cur:Nat×Nat) (N D:Int),b+c=s.length→cur.1<s.length∧cur.2<s.length→DisI s n d cur N D→
 ∃ N' D',DisI s n d (qaO (ltK s n d) cur ((List.range' b c).map fun b=>(a,b))) N' D'∧((qaO (ltK s n d) cur ((List.range' b c).map fun b=>(a,b))).1<s.length∧(qaO (ltK s n d) cur ((List.range' b c).map fun b=>(a,b))).2<s.length)∧
  Rl 1 1 77 1 71 5 (paI cur.1 cur.2 a b) (paH s n d N D) (.exit 2) (paT (qaO (ltK s n d) cur ((List.range' b c).map fun b=>(a,b))).1 (qaO (ltK s n d) cur ((List.range' b c).map fun b=>(a,b))).2 a) (paH s n d N' D')
 | 0,b,cur,N,D,hb,hc,hi=>⟨N,D,hi,hc,qpO (hlt:=df (by omega))⟩
 | c+1,b,cur,N,D,hb,hc,hi=>by
  have hbl:b<s.length:=by omega
  obtain⟨_,_,d1⟩:=h.in
  obtain⟨N1,D1,i1,cd⟩:=qwI hs h ha hbl
  have cc:=qbd i1.num i1.den hi.num hi.den
  have hl1:=i1.less d1 hi
  have e:qaO (ltK s n d) cur ((List.range' b (c+1)).map fun b=>(a,b))=qaO (ltK s n d) (if ltK s n d (a,b) cur then (a,b) else cur) ((List.range' (b+1) c).map fun b=>(a,b)):=rfl
  rw[e]
  by_cases hw:ltK s n d (a,b) cur=true
  ·rw[if_pos hw]
   obtain⟨N2,D2,j1,j2,r⟩:=qiH hs h hl ha c (b+1) (a,b) N1 D1 (by omega) ⟨ha,hbl⟩ i1
   exact⟨N2,D2,j1,j2,qqw (hlt:=dt (by omega)) (ia:=⟨by omega,by omega⟩) (ib:=⟨by omega,by omega⟩) (hp:=qaP ha) (hq:=qaP hbl) (cd:=cd) (cc:=cc) (hc:=dt (hl1.2 hw)) (hs:=qan (by omega)) r⟩
  ·rw[if_neg hw]
   obtain⟨N2,D2,j1,j2,r⟩:=qiH hs h hl ha c (b+1) cur N D (by omega) hc hi
   exact⟨N2,D2,j1,j2,qpj (hlt:=dt (by omega)) (ia:=⟨by omega,by omega⟩) (ib:=⟨by omega,by omega⟩) (hp:=qaP ha) (hq:=qaP hbl) (cd:=cd) (cc:=cc) (hc:=df fun q=>hw (hl1.1 q)) (hs:=qan (by omega)) r⟩
def qbA (n a c:Nat):List (Nat×Nat):=(List.range' a c).flatMap fun a=>(List.range' (a+1) (n-(a+1))).map fun b=>(a,b)
theorem qfI (n:Nat):qbA n 0 n=qcb n:=by unfold qbA qcb;rw[List.range_eq_range']
theorem qjV (hs:∀ p∈s,qcG p=true) (h:AskT n d) (hl:s.length≤999999):∀ (c a:Nat) (cur:Nat×Nat) (N D:Int),a+c=s.length→cur.1<s.length∧cur.2<s.length→DisI s n d cur N D→
 ∃ N' D',DisI s n d (qaO (ltK s n d) cur (qbA s.length a c)) N' D'∧((qaO (ltK s n d) cur (qbA s.length a c)).1<s.length∧(qaO (ltK s n d) cur (qbA s.length a c)).2<s.length)∧
  Rl 1 1 77 0 71 5 (paT cur.1 cur.2 a) (paH s n d N D) (.exit 0) (paE (qaO (ltK s n d) cur (qbA s.length a c)).1 (qaO (ltK s n d) cur (qbA s.length a c)).2) (paH s n d N' D')
 | 0,a,cur,N,D,ha,hc,hi=>⟨N,D,hi,hc,qs0 (hlt:=df (by omega))⟩
 | c+1,a,cur,N,D,ha,hc,hi=>by
  have hal:a<s.length:=by omega
  obtain⟨N1,D1,i1,i2,r1⟩:=qiH hs h hl hal (s.length-(a+1)) (a+1) cur N D (by omega) hc hi
  obtain⟨N2,D2,j1,j2,r2⟩:=qjV hs h hl c (a+1) _ N1 D1 (by omega) i2 i1
  have e:qaO (ltK s n d) cur (qbA s.length a (c+1))=qaO (ltK s n d) (qaO (ltK s n d) cur ((List.range' (a+1) (s.length-(a+1))).map fun b=>(a,b))) (qbA s.length (a+1) c):=by
   show qaO _ cur (((List.range' (a+1) (s.length-(a+1))).map fun b=>(a,b))++qbA s.length (a+1) c)=_
   unfold qaO
   rw[List.foldl_append]
  rw[e]
  exact⟨N2,D2,j1,j2,qou (hlt:=dt (by omega)) (ha:=qan (by omega)) (r0:=r1) (hb:=qan (by omega)) r2⟩
def qaz (s:List Pt) (n d:Int):Nat×Nat:=qaO (ltK s n d) (0,1) (qcb s.length)
theorem qyH (hs:∀ p∈s,qcG p=true) (h:AskT n d) (hl:s.length≤999999) (h2:2≤s.length):∃ N D,DisI s n d (qaz s n d) N D∧((qaz s n d).1<s.length∧(qaz s n d).2<s.length)∧
 Fn 77 1 [qar 0 s,.pv (qaa n d)] [(0,0,qad s)] (.pv (.tuple #[iV (ptK s (qaz s n d).1).id,iV (ptK s (qaz s n d).2).id,qaa N D])) 0 []:=by
 obtain⟨N1,D1,i1,cd⟩:=qwI hs h (a:=0) (b:=1) (by omega) (by omega)
 obtain⟨N,D,j1,j2,r⟩:=qjV hs h hl s.length 0 (0,1) N1 D1 (by omega) ⟨by show 0<s.length;omega,by show 1<s.length;omega⟩ i1
 rw[qfI] at j1 j2 r
 exact⟨N,D,j1,j2,qws (i0:=⟨by omega,by omega⟩) (i1:=⟨by omega,by omega⟩) (h0:=qaP (by omega)) (h1:=qaP (by omega)) (cd:=cd) (r0:=r) (ii:=⟨by omega,by have:=j2.1;show ((qaz s n d).1:Int)<_;unfold qaz;omega⟩) (ij:=⟨by omega,by have:=j2.2;show ((qaz s n d).2:Int)<_;unfold qaz;omega⟩) (hi:=qaP j2.1) (hj:=qaP j2.2)⟩
end
end Go.Proofs.YtleaeldgaflmkaaGreat
