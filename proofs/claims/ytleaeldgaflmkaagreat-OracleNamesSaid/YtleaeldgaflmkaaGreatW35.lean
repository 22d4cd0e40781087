/-
  Joined: Fm, Vb, Va, Vd, Ve, Vf0. Conditions: none.
-/
import Derived.Test.YtleaeldgaflmkaaGreatW33
import Derived.Test.YtleaeldgaflmkaaGreatW34
import Derived.Test.YtleaeldgaflmkaaGreatW25
import Derived.Test.YtleaeldgaflmkaaGreatW32
import Derived.Test.YtleaeldgaflmkaaGreatW31
import Derived.Test.YtleaeldgaflmkaaGreatF
namespace Go.Proofs.YtleaeldgaflmkaaGreat
set_option maxRecDepth 100000
open Go.RowKit
def qcX (p:Pt):Bool:=okP p.id p.a p.b
def Up (l:List Pt):Prop:=∀ (k:Nat) (p q:Pt),l[k]?=some p→l[k+1]?=some q→p.id<q.id
noncomputable def qb4 (l:List Pt):Int:=open Classical in if 64<l.length then 4 else if ∀ p∈l,qcX p=true then (if Up l then 0 else 32) else 8
theorem qdt (P:Nat→Prop):∀ (N:Nat),(∀ k,k<N→P k)∨∃ j,j<N∧¬ P j∧∀ i,i<j→P i
 | 0=>Or.inl fun k hk=>by omega
 | N+1=>by
  rcases qdt P N with h | ⟨j,h1,h2⟩
  ·by_cases hN:P N
   ·exact Or.inl fun k hk=>by
     rcases Nat.lt_or_ge k N with h' | h'
     ·exact h k h'
     ·have:k=N:=by omega
      subst this;exact hN
   ·exact Or.inr ⟨N,by omega,hN,h⟩
  ·exact Or.inr ⟨j,by omega,h2⟩
theorem qan {α:Type} {l:List α} {k:Nat} (h:k<l.length):∃ p,l[k]?=some p:=⟨l[k],List.getElem?_eq_getElem h⟩
theorem qaw {α:Type} {l:List α} {k:Nat} {p:α} (h:l[k]?=some p):k<l.length:=(List.getElem?_eq_some_iff.1 h).1
theorem qaB {k n:Nat} (h:k<n):0≤(k:Int)∧(k:Int)<(n:Int):=⟨by omega,by omega⟩
theorem Up.mono {l:List Pt} (h:Up l):∀ {i j:Nat} {p q:Pt},i<j→l[i]?=some p→l[j]?=some q→p.id<q.id:=by
 intro i j
 induction j with
 | zero=>intro p q hij;omega
 | succ j ih=>
  intro p q hij hp hq
  by_cases e:i=j
  ·subst e;exact h i p q hp hq
  ·obtain⟨r,hr⟩:=qan (l:=l) (k:=j) (by have:=qaw hq;omega)
   exact Int.lt_trans (ih (by omega) hp hr) (h j r q hr hq)
theorem qeH {k n:Nat} (h:k<n) (hn:n≤64):iV (IntKind.i64.wrap ((k:Int)+1))=iV ((k+1:Nat):Int):=qav (by omega)
theorem qi5 {l:List Pt} (hn:l.length≤64) (h:∀ p∈l,qcX p=true):Rl 1 1 50 0 44 2 [(1,.pp 1 0),(3,.pv (iV ((0:Nat):Int)))] [(1,0,.ls 0 l.length),(0,0,qad l)] (.exit 0) [(1,.pp 1 0)] [(1,0,.ls 0 l.length),(0,0,qad l)]:=
 RunsL.rounds (fun k=>[(1,.pp 1 0),(3,.pv (iV (k:Int)))]) (fun _=>[(1,0,.ls 0 l.length),(0,0,qad l)]) l.length 0 (Nat.zero_add _)
  (fun k _ hk r=>by
   obtain⟨p,hp⟩:=qan hk
   exact qjS hp (qaB hk) (dt (by omega)) (qaW (h p (List.mem_of_getElem? hp))) (qeH hk hn) r)
  (qsa (df (by omega)))
theorem qhy {l:List Pt} (hn:l.length≤64) {j:Nat} {p:Pt} (hp:l[j]?=some p) (hb:¬ qcX p=true) (h:∀ i,i<j→∀ q,l[i]?=some q→qcX q=true):Rl 1 1 50 0 44 2 [(1,.pp 1 0),(3,.pv (iV ((0:Nat):Int)))] [(1,0,.ls 0 l.length),(0,0,qad l)] .ret [(2,.pv (iV 8))] []:=by
 have hj:=qaw hp
 refine RunsL.rounds (fun k=>[(1,.pp 1 0),(3,.pv (iV (k:Int)))]) (fun _=>[(1,0,.ls 0 l.length),(0,0,qad l)]) j 0 (Nat.zero_add _) (fun k _ hk r=>?_) (qsn hp (qaB hj) (dt (by omega)) (qcH hb))
 obtain⟨q,hq⟩:=qan (l:=l) (k:=k) (by omega)
 exact qjS hq (qaB (qaw hq)) (dt (by omega)) (qaW (h k hk q hq)) (qeH (qaw hq) hn) r
theorem qcN (k:Nat) (h:k≤1000000):iV (IntKind.i64.wrap (((k+1:Nat):Int)-1))=iV (k:Int):=by rw[show ((k+1:Nat):Int)-1=(k:Int) by omega,qah (by omega) (by omega)]
theorem qo9 {l:List Pt} (hn:l.length≤64) (h:Up l):Rl 1 1 50 1 44 2 [(1,.pp 1 0),(4,.pv (iV ((0+1:Nat):Int)))] [(1,0,.ls 0 l.length),(0,0,qad l)] (.exit 2) [] []:=by
 by_cases h0:l.length=0
 ·exact qol (k:=0+1) (df (by omega))
 refine RunsL.rounds (fun k=>[(1,.pp 1 0),(4,.pv (iV (k:Int)))]) (fun _=>[(1,0,.ls 0 l.length),(0,0,qad l)]) (N:=l.length) (l.length-1) (0+1) (by omega) (fun k h1 hk r=>?_) (qol (df (by omega)))
 obtain⟨m,rfl⟩:∃ m,k=m+1:=⟨k-1,by omega⟩
 obtain⟨q,hq⟩:=qan (l:=l) (k:=m) (by omega)
 obtain⟨p,hp⟩:=qan hk
 exact qi7 hq hp (qaB (by omega)) (qaB hk) (dt (by omega)) (qcN m (by omega)) (df (by have:=h m q p hq hp;omega)) (qeH hk hn) r
theorem qhw {l:List Pt} (hn:l.length≤64) {j:Nat} {p q:Pt} (hq:l[j]?=some q) (hp:l[j+1]?=some p) (hb:¬ q.id<p.id) (h:∀ i,i<j→∀ p q,l[i]?=some p→l[i+1]?=some q→p.id<q.id):Rl 1 1 50 1 44 2 [(1,.pp 1 0),(4,.pv (iV ((0+1:Nat):Int)))] [(1,0,.ls 0 l.length),(0,0,qad l)] .ret [(2,.pv (iV 32))] []:=by
 have hj:=qaw hp
 refine RunsL.rounds (fun k=>[(1,.pp 1 0),(4,.pv (iV (k:Int)))]) (fun _=>[(1,0,.ls 0 l.length),(0,0,qad l)]) (N:=j+1) j (0+1) (by omega) (fun k h1 hk r=>?_) (qsN hq hp (qaB (by omega)) (qaB hj) (dt (by omega)) (qcN j (by omega)) (dt (by omega)))
 obtain⟨m,rfl⟩:∃ m,k=m+1:=⟨k-1,by omega⟩
 obtain⟨q',hq'⟩:=qan (l:=l) (k:=m) (by omega)
 obtain⟨p',hp'⟩:=qan (l:=l) (k:=m+1) (by omega)
 exact qi7 hq' hp' (qaB (by omega)) (qaB (by omega)) (dt (by omega)) (qcN m (by omega)) (df (by have:=h m (by omega) q' p' hq' hp';omega)) (qeH (n:=l.length) (by omega) hn) r
theorem qft (l:List Pt):(64<l.length∧qb4 l=4)∨(l.length≤64∧(∃ (j:Nat) (p:Pt),l[j]?=some p∧¬ qcX p=true∧∀ i,i<j→∀ q,l[i]?=some q→qcX q=true)∧qb4 l=8)∨
 (l.length≤64∧(∀ p∈l,qcX p=true)∧(∃ (j:Nat) (p q:Pt),l[j]?=some q∧l[j+1]?=some p∧¬ q.id<p.id∧∀ i,i<j→∀ p q,l[i]?=some p→l[i+1]?=some q→p.id<q.id)∧qb4 l=32)∨
 (l.length≤64∧(∀ p∈l,qcX p=true)∧Up l∧qb4 l=0):=by
 by_cases h0:64<l.length
 ·exact Or.inl ⟨h0,by unfold qb4;rw[if_pos h0]⟩
 refine Or.inr ?_
 by_cases h1:∀ p∈l,qcX p=true
 ·refine Or.inr ?_
  by_cases h2:Up l
  ·exact Or.inr ⟨by omega,h1,h2,by unfold qb4;rw[if_neg h0,if_pos h1,if_pos h2]⟩
  ·refine Or.inl ⟨by omega,h1,?_,by unfold qb4;rw[if_neg h0,if_pos h1,if_neg h2]⟩
   rcases qdt (fun k=>∀ p q,l[k]?=some p→l[k+1]?=some q→p.id<q.id) l.length with h | ⟨j,hj,hn,hb⟩
   ·exact (h2 fun k p q hp hq=>h k (qaw hp) p q hp hq).elim
   ·simp only[Classical.not_forall,not_imp] at hn
    obtain⟨p,q,hp,hq,hpq⟩:=hn
    exact⟨j,q,p,hp,hq,hpq,hb⟩
 ·refine Or.inl ⟨by omega,?_,by unfold qb4;rw[if_neg h0,if_neg h1]⟩
  rcases qdt (fun k=>∀ q,l[k]?=some q→qcX q=true) l.length with h | ⟨j,hj,hn,hb⟩
  ·exact (h1 fun p hp=>by obtain⟨k,hk,rfl⟩:=List.getElem_of_mem hp;exact h k hk _ (List.getElem?_eq_getElem hk)).elim
  ·simp only[Classical.not_forall,not_imp] at hn
   obtain⟨p,hp,hpq⟩:=hn
   exact⟨j,p,hp,hpq,hb⟩
theorem qbe (l:List Pt):Fn 50 1 [qaq 0 l] [(0,0,qad l)] (.pv (iV (qb4 l))) 0 []:=by
 rcases qft l with ⟨h,e⟩ | ⟨h,⟨j,p,hp,hb,hf⟩,e⟩ | ⟨h,h1,⟨j,p,q,hq,hp,hb,hf⟩,e⟩ | ⟨h,h1,h2,e⟩<;>rw[e]
 ·exact qta (dt (by omega))
 ·exact qwt (df (by omega)) (qhy h hp hb hf)
 ·exact qwX (df (by omega)) (qi5 h h1) (qhw h hq hp hb hf)
 ·exact qyl (df (by omega)) (qi5 h h1) (qo9 h h2)
abbrev pcT (l:List Pt) (k:Nat):List (Nat×SV):=[(1,.pp 1 0),(12,.ls 0 l.length),(13,.pv (iV (l.length:Int))),(14,.pv (iV (k:Int)))]
theorem qjr {l:List Pt} (hn:l.length≤64) (h:∀ p∈l,qcX p=true):Rl 1 1 44 0 45 2 (pcT l 0) [(1,0,.ls 0 l.length),(0,0,qad l)] (.exit 0) [(1,.pp 1 0)] [(1,0,.ls 0 l.length),(0,0,qad l)]:=
 RunsL.rounds (pcT l) (fun _=>[(1,0,.ls 0 l.length),(0,0,qad l)]) l.length 0 (Nat.zero_add _)
  (fun k _ hk r=>by
   obtain⟨p,hp⟩:=qan hk
   exact qjs hp (qaB hk) (dt (by omega)) (qaZ (h p (List.mem_of_getElem? hp))) (qeH hk hn) r)
  (qr4 (df (by omega)))
theorem qhY {l:List Pt} (hn:l.length≤64) {j:Nat} {p:Pt} (hp:l[j]?=some p) (hb:¬ qcX p=true) (h:∀ i,i<j→∀ q,l[i]?=some q→qcX q=true):Rl 1 1 44 0 45 2 (pcT l 0) [(1,0,.ls 0 l.length),(0,0,qad l)] .ret [(2,.pv (iV 8))] []:=by
 have hj:=qaw hp
 refine RunsL.rounds (pcT l) (fun _=>[(1,0,.ls 0 l.length),(0,0,qad l)]) j 0 (Nat.zero_add _) (fun k _ hk r=>?_) (qtP hp (qaB hj) (dt (by omega)) (qeY hb))
 obtain⟨q,hq⟩:=qan (l:=l) (k:=k) (by omega)
 exact qjs hq (qaB (qaw hq)) (dt (by omega)) (qaZ (h k hk q hq)) (qeH (qaw hq) hn) r
theorem qqz {l:List Pt} (hn:l.length≤64) (h:Up l):Rl 1 1 44 1 45 2 [(1,.pp 1 0),(6,.pv (iV ((0+1:Nat):Int)))] [(1,0,.ls 0 l.length),(0,0,qad l)] (.exit 2) [] []:=by
 by_cases h0:l.length=0
 ·exact qox (k:=0+1) (df (by omega))
 refine RunsL.rounds (fun k=>[(1,.pp 1 0),(6,.pv (iV (k:Int)))]) (fun _=>[(1,0,.ls 0 l.length),(0,0,qad l)]) (N:=l.length) (l.length-1) (0+1) (by omega) (fun k h1 hk r=>?_) (qox (df (by omega)))
 obtain⟨m,rfl⟩:∃ m,k=m+1:=⟨k-1,by omega⟩
 obtain⟨q,hq⟩:=qan (l:=l) (k:=m) (by omega)
 obtain⟨p,hp⟩:=qan hk
 exact qkc hq hp (qaB (by omega)) (qaB hk) (dt (by omega)) (qcN m (by omega)) (df (by have:=h m q p hq hp;omega)) (qeH hk hn) r
theorem qhn {l:List Pt} (hn:l.length≤64) {j:Nat} {p q:Pt} (hq:l[j]?=some q) (hp:l[j+1]?=some p) (hb:¬ q.id<p.id) (h:∀ i,i<j→∀ p q,l[i]?=some p→l[i+1]?=some q→p.id<q.id):Rl 1 1 44 1 45 2 [(1,.pp 1 0),(6,.pv (iV ((0+1:Nat):Int)))] [(1,0,.ls 0 l.length),(0,0,qad l)] .ret [(2,.pv (iV 32))] []:=by
 have hj:=qaw hp
 refine RunsL.rounds (fun k=>[(1,.pp 1 0),(6,.pv (iV (k:Int)))]) (fun _=>[(1,0,.ls 0 l.length),(0,0,qad l)]) (N:=j+1) j (0+1) (by omega) (fun k h1 hk r=>?_) (qto hq hp (qaB (by omega)) (qaB hj) (dt (by omega)) (qcN j (by omega)) (dt (by omega)))
 obtain⟨m,rfl⟩:∃ m,k=m+1:=⟨k-1,by omega⟩
 obtain⟨q',hq'⟩:=qan (l:=l) (k:=m) (by omega)
 obtain⟨p',hp'⟩:=qan (l:=l) (k:=m+1) (by omega)
 exact qkc hq' hp' (qaB (by omega)) (qaB (by omega)) (dt (by omega)) (qcN m (by omega)) (df (by have:=h m (by omega) q' p' hq' hp';omega)) (qeH (n:=l.length) (by omega) hn) r
theorem qaF (l:List Pt):Fn 44 1 [qaq 0 l] [(0,0,qad l)] (.pv (iV (qb4 l))) 0 []:=by
 rcases qft l with ⟨h,e⟩ | ⟨h,⟨j,p,hp,hb,hf⟩,e⟩ | ⟨h,h1,⟨j,p,q,hq,hp,hb,hf⟩,e⟩ | ⟨h,h1,h2,e⟩<;>rw[e]
 ·exact qr2 (dt (by omega))
 ·exact qvA (df (by omega)) (qhY h hp hb hf)
 ·exact qvz (df (by omega)) (qjr h h1) (qhn h hq hp hb hf)
 ·exact qyt (df (by omega)) (qjr h h1) (qqz h h2)
structure Val (l:List Pt):Prop where
 len:l.length≤64
 ok:∀ p∈l,qcX p=true
 up:Up l
theorem qbd {l:List Pt}:qb4 l=0↔Val l:=by
 rcases qft l with ⟨h,e⟩ | ⟨h,⟨j,p,hp,hb,hf⟩,e⟩ | ⟨h,h1,⟨j,p,q,hq,hp,hb,hf⟩,e⟩ | ⟨h,h1,h2,e⟩<;>rw[e]
 ·exact⟨fun h=>by omega,fun v=>by have:=v.len;omega⟩
 ·exact⟨fun h=>by omega,fun v=>(hb (v.ok p (List.mem_of_getElem? hp))).elim⟩
 ·exact⟨fun h=>by omega,fun v=>(hb (v.up j q p hq hp)).elim⟩
 ·exact⟨fun _=>⟨h,h1,h2⟩,fun _=>rfl⟩
theorem place (l:List Pt) (hv:Val l) (id:Int):(∃ (k:Nat) (p:Pt),l[k]?=some p∧p.id=id)∨((∀ p∈l,p.id≠id)∧∃ k,k≤l.length∧(∀ (t:Nat) (p:Pt),t<k→l[t]?=some p→p.id<id)∧∀ (t:Nat) (p:Pt),k≤t→l[t]?=some p→id<p.id):=by
 by_cases h:∃ (k:Nat) (p:Pt),l[k]?=some p∧p.id=id
 ·exact Or.inl h
 ·refine Or.inr ⟨fun p hp e=>?_,?_⟩
  ·obtain⟨k,hk,rfl⟩:=List.getElem_of_mem hp
   exact h ⟨k,_,List.getElem?_eq_getElem hk,e⟩
  ·rcases qdt (fun k=>∀ p,l[k]?=some p→p.id<id) l.length with hh | ⟨j,hj,hn,hb⟩
   ·exact⟨l.length,Nat.le_refl _,fun t p ht hp=>hh t ht p hp,fun t p ht hp=>by have:=qaw hp;omega⟩
   ·refine⟨j,by omega,fun t p ht hp=>hb t ht p hp,fun t p ht hp=>?_⟩
    simp only[Classical.not_forall,not_imp] at hn
    obtain⟨q,hq,hlt⟩:=hn
    have hne:q.id≠id:=fun e=>h ⟨j,q,hq,e⟩
    rcases Nat.lt_or_ge j t with h' | h'
    ·have:=hv.up.mono h' hq hp;omega
    ·have:t=j:=by omega
     subst this
     rw[hq] at hp
     cases hp
     omega
abbrev atT (id:Int) (k:Nat):List (Nat×SV):=[(1,.pv (iV id)),(2,.pp 1 0),(5,.pv (iV (k:Int)))]
theorem qoV {l:List Pt} (hn:l.length≤64) {id:Int} (h:∀ p∈l,p.id≠id):Fn 76 1 [qaq 0 l,.pv (iV id)] [(0,0,qad l)] (.pv (iV (-1))) 0 []:=
 qxV (RunsL.rounds (atT id) (fun _=>[(1,0,.ls 0 l.length),(0,0,qad l)]) l.length 0 (Nat.zero_add _)
  (fun k _ hk r=>by
   obtain⟨p,hp⟩:=qan hk
   exact qnx hp (qaB hk) (dt (by omega)) (by simpa using h p (List.mem_of_getElem? hp)) (qeH hk hn) r)
  (quR (df (by omega))))
theorem qjT {l:List Pt} (hv:Val l) {id:Int} {k:Nat} {p:Pt} (hk:l[k]?=some p) (he:p.id=id):Fn 76 1 [qaq 0 l,.pv (iV id)] [(0,0,qad l)] (.pv (iV (k:Int))) 0 []:=by
 refine quV (RunsL.rounds (atT id) (fun _=>[(1,0,.ls 0 l.length),(0,0,qad l)]) k 0 (Nat.zero_add _) (fun j _ hj r=>?_) (qvi hk (qaB (qaw hk)) (dt (by have:=qaw hk;omega)) (by simpa using he)))
 have hl:=qaw hk
 obtain⟨q,hq⟩:=qan (l:=l) (k:=j) (by omega)
 exact qnx hq (qaB (qaw hq)) (dt (by omega)) (by have:=hv.up.mono hj hq hk;simp;omega) (qeH (qaw hq) hv.len) r
theorem qsW (a pa pb id:Int):∃ c,Pure Tryz.prog 83 #[qab a pa pb,iV id] (iV c)∧(c<0↔a<id)∧(c=0↔a=id):=by
 rcases Int.lt_trichotomy a id with h | h | h
 ·exact⟨-1,qpf (by simp) (by simp) (dt h),⟨fun _=>h,fun _=>by omega⟩,⟨fun h=>by omega,fun h=>by omega⟩⟩
 ·exact⟨0,qqv (by simp) (by simp) (df (by omega)) (df (by omega)),⟨fun h=>by omega,fun h=>by omega⟩,⟨fun _=>h,fun _=>rfl⟩⟩
 ·exact⟨1,qqh (by simp) (by simp) (df (by omega)) (dt (by omega)),⟨fun h=>by omega,fun h=>by omega⟩,⟨fun h=>by omega,fun h=>by omega⟩⟩
abbrev bsT (l:List Pt) (id:Int) (i j:Nat):List (Nat×SV):=[(0,.ls 0 l.length),(1,.pv (iV id)),(2,.pv (.func (.func 83) #[] #[])),(8,.pv (iV (l.length:Int))),(9,.pv (iV (i:Int))),(10,.pv (iV (j:Int)))]
theorem qmo {l:List Pt} (hn:l.length≤64) {id:Int} {k:Nat} (hlo:∀ (t:Nat) (p:Pt),t<k→l[t]?=some p→p.id<id) (hhi:∀ (t:Nat) (p:Pt),k≤t→l[t]?=some p→¬ p.id<id):∀ (d i j:Nat),j-i≤d→i≤k→k≤j→j≤l.length→
 Rl 1 1 82 0 49 1 (bsT l id i j) [(0,0,qad l)] (.exit 0) (bsT l id k k) [(0,0,qad l)]:=by
 intro d
 induction d with
 | zero=>
  intro i j hd h1 h2 h3
  have:i=k:=by omega
  have:j=k:=by omega
  subst i j
  exact qqR (df (by omega))
 | succ d ih=>
  intro i j hd h1 h2 h3
  by_cases hij:i<j
  ·obtain⟨p,hp⟩:=qan (l:=l) (k:=(i+j)/2) (by omega)
   obtain⟨c,hc,hc1,hc2⟩:=qsW p.id p.a p.b id
   have a1:iV (IntKind.i64.wrap ((i:Int)+(j:Int)))=iV ((i:Int)+(j:Int)):=by rw[qah (by omega) (by omega)]
   have a2:Value.int .u64 (IntKind.u64.wrap ((i:Int)+(j:Int)))=.int .u64 ((i:Int)+(j:Int)):=by rw[qc9 (by omega) (by omega)]
   have a3:Value.int .u64 (((i:Int)+(j:Int)).fdiv (2 ^ (min (1:Int).toNat IntKind.u64.bits)))=.int .u64 (((i+j)/2:Nat):Int):=by
    have:(2:Int) ^ (min (1:Int).toNat IntKind.u64.bits)=2:=rfl
    rw[this,Int.fdiv_eq_ediv_of_nonneg _ (by omega)]
    congr 1
   have a4:iV (IntKind.i64.wrap (((i+j)/2:Nat):Int))=iV (((i+j)/2:Nat):Int):=by rw[qah (by omega) (by omega)]
   by_cases hlt:p.id<id
   ·refine qzq hp (qaB (qaw hp)) (dt (by omega)) a1 a2 (by omega) a3 a4 hc (dt (hc1.2 hlt)) (qav (by omega)) (ih _ _ (by omega) ?_ h2 h3)
    rcases Nat.lt_or_ge ((i+j)/2) k with h | h
    ·exact h
    ·exact (hhi _ p h hp hlt).elim
   ·refine qy4 hp (qaB (qaw hp)) (dt (by omega)) a1 a2 (by omega) a3 a4 hc (df (fun h=>hlt (hc1.1 h))) (ih _ _ (by omega) h1 ?_ (by omega))
    rcases Nat.lt_or_ge ((i+j)/2) k with h | h
    ·exact (hlt (hlo _ p h hp)).elim
    ·exact h
  ·have:i=k:=by omega
   have:j=k:=by omega
   subst i j
   exact qqR (df (by omega))
theorem qdH {l:List Pt} (hv:Val l) {id:Int} {k:Nat} {p:Pt} (hk:l[k]?=some p) (he:p.id=id):Fn 58 1 [qaq 0 l,.pv (iV id)] [(0,0,qad l)] (.pv (.tuple #[iV (k:Int),.bool true])) 0 []:=by
 subst he
 obtain⟨c,hc,hc1,hc2⟩:=qsW p.id p.a p.b p.id
 have hl:=qaw hk
 refine qeX (qrU (qmo hv.len (fun t q ht hq=>hv.up.mono ht hq hk) (fun t q ht hq=>?_) l.length 0 l.length (by omega) (Nat.zero_le _) (by omega) (Nat.le_refl _)) hk (qaB hl) (dt (by omega)) hc (by simpa using hc2.2 rfl))
 rcases Nat.lt_or_ge k t with h | h
 ·have:=hv.up.mono h hk hq;omega
 ·have:t=k:=by omega
  subst this
  rw[hk] at hq;cases hq;omega
theorem qgB {l:List Pt} (hv:Val l) {id:Int} {k:Nat} (hkl:k≤l.length) (hlo:∀ (t:Nat) (p:Pt),t<k→l[t]?=some p→p.id<id) (hhi:∀ (t:Nat) (p:Pt),k≤t→l[t]?=some p→id<p.id):Fn 58 1 [qaq 0 l,.pv (iV id)] [(0,0,qad l)] (.pv (.tuple #[iV (k:Int),.bool false])) 0 []:=by
 have hb:=qmo hv.len hlo (fun t p ht hp=>by have:=hhi t p ht hp;omega) l.length 0 l.length (by omega) (Nat.zero_le _) hkl (Nat.le_refl _)
 by_cases h:k<l.length
 ·obtain⟨p,hp⟩:=qan h
  obtain⟨c,hc,hc1,hc2⟩:=qsW p.id p.a p.b id
  refine qeX (qvG hb hp (qaB h) (dt (by omega)) hc ?_)
  have:=hhi k p (Nat.le_refl _) hp
  simp only[beq_eq_false_iff_ne,ne_eq]
  exact fun e=>by have:=hc2.1 e;omega
 ·exact qeX (qtU hb (df (by omega)))
end Go.Proofs.YtleaeldgaflmkaaGreat

namespace Go.Proofs.YtleaeldgaflmkaaGreat
set_option maxRecDepth 100000
open Go.RowKit
def qa8 {α:Type} (lt:α→α→Bool) (b:α) (l:List α):α:=l.foldl (fun b x=>if lt x b then x else b) b
structure Weak {α:Type} (lt:α→α→Bool):Prop where
 asym:∀ a b,lt a b=true→lt b a=false
 mid:∀ a b c,lt a b=true→lt a c=true∨lt c b=true
theorem Weak.trans {α:Type} {lt:α→α→Bool} (h:Weak lt) {a b c:α} (h1:lt a b=true) (h2:lt b c=true):lt a c=true:=by
 rcases h.mid a b c h1 with k | k
 ·exact k
 ·rw[h.asym b c h2] at k;cases k
def qmE (n:Nat):List (Nat×Nat):=(List.range n).flatMap fun a=>(List.range' (a+1) (n-(a+1))).map fun b=>(a,b)
end Go.Proofs.YtleaeldgaflmkaaGreat

namespace Go.Proofs.YtleaeldgaflmkaaGreat
set_option maxRecDepth 100000
open Go.RowKit
def quk (p:Pt):List Pt→List Pt
 | []=>[p]
 | q::r=>if p.id<q.id then p::q::r else q::quk p r
theorem qov {p:Pt}:∀ {l:List Pt} {k:Nat},k≤l.length→(∀ (t:Nat) (q:Pt),t<k→l[t]?=some q→q.id<p.id)→(∀ (t:Nat) (q:Pt),k≤t→l[t]?=some q→p.id<q.id)→quk p l=l.take k++p::l.drop k
 | [],k,hk,_,_=>by
  have e:k=0:=by simpa using hk
  subst e
  rfl
 | x::r,0,_,_,h2=>by
  have:=h2 0 x (Nat.le_refl _) rfl
  simp[quk,this]
 | x::r,k+1,hk,h1,h2=>by
  have hx:=h1 0 x (by omega) rfl
  have ih:=qov (p:=p) (l:=r) (k:=k) (by simpa using hk) (fun t q ht hq=>h1 (t+1) q (by omega) hq) (fun t q ht hq=>h2 (t+1) q (by omega) hq)
  simp[quk,show ¬ p.id<x.id by omega,ih]
end Go.Proofs.YtleaeldgaflmkaaGreat

namespace Go.Proofs.YtleaeldgaflmkaaGreat
set_option maxRecDepth 100000
open Go.RowKit
structure AskT (n d:Int):Prop where
 ok:okB n d=true
 lo : -1073741824≤n
 hi:n≤1073741824
 den:d≤1024
section
variable {n d:Int} {p q:Pt}
theorem AskT.in (h:AskT n d):I64 n∧I64 d∧1≤d:=by
 have h1:=qaz h.ok
 have h2:=h.lo
 have h3:=h.hi
 have h4:=h.den
 exact⟨⟨by omega,by omega⟩,⟨by omega,by omega⟩,h1⟩
def plS (p:Pt) (n d:Int):Int:=p.a*d+p.b*n
theorem qd8 (hp:qcX p=true) (h:AskT n d) : -1125900000000000-1073741824≤plS p n d∧plS p n d≤1125900000000000+1073741824:=by
 have h':=qbk.1 hp
 have h1:=qaz h.ok
 have h2:=h.lo
 have h3:=h.hi
 have h4:=h.den
 obtain⟨_,_,a1,a2,b1,b2⟩:=h'
 have m1:=qux (a:=p.a) (x:=d) (A:=1048576) (X:=1024) (by omega) a2 (by omega) (by omega) (by decide) (by decide)
 have m2:=qux (a:=p.b) (x:=n) (A:=1048576) (X:=1073741824) (by omega) b2 (by omega) (by omega) (by decide) (by decide)
 unfold plS
 omega
theorem qn8 (hp:qcX p=true) (h:AskT n d):∃ N D,okB N D=true∧I64 N∧I64 D∧N*d=plS p n d*D∧Pure Tryz.prog 75 #[qab p.id p.a p.b,qaa n d] (qaa N D):=by
 obtain⟨i1,i2,i3⟩:=h.in
 obtain⟨N,D,E,hr,hc⟩:=qt5 i1 i2 hp h.ok
 have g:=qd8 hp h
 obtain⟨_,f2,f3,f4,f5⟩:=IsRes.fits hr (by omega) i2.2 (by unfold plS at g;omega) (by unfold plS at g;omega)
 exact⟨N,D,f2,f3,f4,f5,vpl (c1:=hc)⟩
def qup (p q:Pt) (n d:Int):Int:=if plS p n d-plS q n d<0 then -(plS p n d-plS q n d) else plS p n d-plS q n d
theorem qzx (hp:qcX p=true) (hq:qcX q=true) (h:AskT n d):∃ N D,okB N D=true∧I64 N∧I64 D∧N*d=qup p q n d*D∧Pure Tryz.prog 106 #[qab p.id p.a p.b,qab q.id q.a q.b,qaa n d] (qaa N D):=by
 obtain⟨i1,i2,i3⟩:=h.in
 obtain⟨N1,D1,k1,a1,a2,e1,c1⟩:=qn8 hp h
 obtain⟨N2,D2,k2,b1,b2,e2,c2⟩:=qn8 hq h
 have g1:=qd8 hp h
 have g2:=qd8 hq h
 have d1:=qaz k1
 have d2:=qaz k2
 have c3:=qqE a1 a2 b1 b2 k1 k2
 have hr:=qiW k1 (qd2 b1.2 k2)
 have hd0:D1*D2≠0:=Int.mul_ne_zero (by omega) (by omega)
 have hm:=qhP (a:=plS p n d-plS q n d) (b:=d) (by omega)
 have ex:(N1*D2 + -N2*D1)*d=(plS p n d-plS q n d)*(D1*D2):=by
  have t1:N1*D2*d=plS p n d*(D1*D2):=by rw[Int.mul_right_comm,e1,Int.mul_assoc]
  have t2:N2*D1*d=plS q n d*(D1*D2):=by rw[Int.mul_right_comm,e2,Int.mul_assoc,Int.mul_comm D2]
  rw[Int.add_mul,Int.sub_mul,t1,Int.neg_mul,Int.neg_mul,t2]
  omega
 have hu:=IsRes.uniqR hr hm hd0 (by omega) ex
 obtain⟨f1,f2,f3,f4,f5⟩:=IsRes.fits hm (by omega) i2.2 (by omega) (by omega)
 obtain⟨u1,u2,u3⟩:=hu
 rw[u1,u2,u3,f1] at c3
 by_cases hn:mkN (plS p n d-plS q n d) d<0
 ·have hneg:plS p n d-plS q n d<0:=by
   have hD:=qaz f2
   apply Classical.byContradiction
   intro hc
   have:0≤(plS p n d-plS q n d)*mkD (plS p n d-plS q n d) d:=Int.mul_nonneg (by omega) (by omega)
   have h2:mkN (plS p n d-plS q n d) d*d<0:=Int.mul_neg_of_neg_of_pos hn (by omega)
   omega
  refine⟨-mkN (plS p n d-plS q n d) d,mkD (plS p n d-plS q n d) d,qd2 f3.2 f2,?_,f4,?_,qyA (c1:=c1) (c2:=c2) (c3:=c3) (h0:=dt hn) (hn:=?_)⟩
  ·have:=qbs f2
   obtain⟨x1,x2⟩:=f3
   exact⟨by omega,by omega⟩
  ·unfold qup
   rw[if_pos hneg,Int.neg_mul,Int.neg_mul,f5]
  ·have:=qbs f2
   obtain⟨x1,x2⟩:=f3
   rw[qah (by omega) (by omega),Int.zero_sub]
 ·have hneg:¬ plS p n d-plS q n d<0:=fun hc=>by
   have hD:=qaz f2
   have h1:(plS p n d-plS q n d)*mkD (plS p n d-plS q n d) d<0:=Int.mul_neg_of_neg_of_pos hc (by omega)
   have h2:0≤mkN (plS p n d-plS q n d) d*d:=Int.mul_nonneg (by omega) (by omega)
   omega
  refine⟨mkN (plS p n d-plS q n d) d,mkD (plS p n d-plS q n d) d,f2,f3,f4,?_,qyY (c1:=c1) (c2:=c2) (c3:=c3) (h0:=df hn)⟩
  unfold qup
  rw[if_neg hneg]
  exact f5
end
end Go.Proofs.YtleaeldgaflmkaaGreat

namespace Go.Proofs.YtleaeldgaflmkaaGreat
set_option maxRecDepth 100000
open Go.RowKit
def ptK (s:List Pt) (k:Nat):Pt:=s.getD k ⟨0,0,0⟩
theorem qbP {s:List Pt} {k:Nat} (h:k<s.length):s[k]?=some (ptK s k):=by unfold ptK;rw[List.getD_eq_getElem?_getD,List.getElem?_eq_getElem h];rfl
section
variable {s:List Pt} {n d:Int}
def quC (s:List Pt) (n d:Int) (x:Nat×Nat):Int:=qup (ptK s x.1) (ptK s x.2) n d
def ltK (s:List Pt) (n d:Int) (x y:Nat×Nat):Bool:=decide (quC s n d x<quC s n d y)
structure DisI (s:List Pt) (n d:Int) (x:Nat×Nat) (N D:Int):Prop where
 ok:okB N D=true
 num:I64 N
 den:I64 D
 eq:N*d=quC s n d x*D
theorem DisI.less {x y:Nat×Nat} {N D N' D':Int} (hd:1≤d) (h:DisI s n d x N D) (k:DisI s n d y N' D'):(N*D'-N'*D).sign<0↔ltK s n d x y=true:=by
 have d1:=qaz h.ok
 have d2:=qaz k.ok
 have hp:0<D*D':=Int.mul_pos (by omega) (by omega)
 have e1:N*D'*d=quC s n d x*(D*D'):=by rw[Int.mul_right_comm,h.eq,Int.mul_assoc]
 have e2:N'*D*d=quC s n d y*(D*D'):=by rw[Int.mul_right_comm,k.eq,Int.mul_assoc,Int.mul_comm D']
 unfold ltK
 rw[decide_eq_true_eq]
 have hs:(N*D'-N'*D).sign<0↔N*D'<N'*D:=by
  rw[Int.sign_neg_iff]
  omega
 rw[hs]
 constructor
 ·intro q
  have:=Int.mul_lt_mul_of_pos_right q (show 0<d by omega)
  rw[e1,e2] at this
  exact Int.lt_of_mul_lt_mul_right this (Int.le_of_lt hp)
 ·intro q
  have:=Int.mul_lt_mul_of_pos_right q hp
  rw[← e1,← e2] at this
  exact Int.lt_of_mul_lt_mul_right this (by omega)
abbrev paT (i j a:Nat):List (Nat×SV):=[(2,.pp 1 0),(3,.pp 2 0),(4,.pv (iV 0)),(5,.pv (iV 0)),(6,.pp 3 0),(7,.pv (iV (i:Int))),(8,.pv (iV (j:Int))),(9,.pp 4 0),(10,.pv (iV (a:Int)))]
abbrev paI (i j a b:Nat):List (Nat×SV):=[(2,.pp 1 0),(3,.pp 2 0),(4,.pv (iV 0)),(5,.pv (iV 0)),(6,.pp 3 0),(7,.pv (iV (i:Int))),(8,.pv (iV (j:Int))),(9,.pp 4 0),(10,.pv (iV (a:Int))),(11,.pv (iV (b:Int)))]
abbrev paE (i j:Nat):List (Nat×SV):=[(2,.pp 1 0),(3,.pp 2 0),(4,.pv (iV 0)),(5,.pv (iV 0)),(6,.pp 3 0),(7,.pv (iV (i:Int))),(8,.pv (iV (j:Int))),(9,.pp 4 0)]
abbrev paH (s:List Pt) (n d N D:Int):List (Nat×Nat×SV):=[(1,0,.ls 0 s.length),(2,0,.pv (iV n)),(2,1,.pv (iV d)),(3,0,.pv (iV 0)),(3,1,.pv (iV 0)),(4,0,.pv (iV N)),(4,1,.pv (iV D)),(0,0,qad s)]
theorem quF (hs:∀ p∈s,qcX p=true) (h:AskT n d) {a b:Nat} (ha:a<s.length) (hb:b<s.length):∃ N D,DisI s n d (a,b) N D∧Pure Tryz.prog 106 #[qab (ptK s a).id (ptK s a).a (ptK s a).b,qab (ptK s b).id (ptK s b).a (ptK s b).b,qaa n d] (qaa N D):=by
 obtain⟨N,D,h1,h2,h3,h4,h5⟩:=qzx (hs _ (List.mem_of_getElem? (qbP ha))) (hs _ (List.mem_of_getElem? (qbP hb))) h
 exact⟨N,D,⟨h1,h2,h3,h4⟩,h5⟩
theorem qiR (hs:∀ p∈s,qcX p=true) (h:AskT n d) (hl:s.length≤999999) {a:Nat} (ha:a<s.length):∀ (c b:Nat) (cur:Nat×Nat) (N D:Int),b+c=s.length→cur.1<s.length∧cur.2<s.length→DisI s n d cur N D→
 ∃ N' D',DisI s n d (qa8 (ltK s n d) cur ((List.range' b c).map fun b=>(a,b))) N' D'∧((qa8 (ltK s n d) cur ((List.range' b c).map fun b=>(a,b))).1<s.length∧(qa8 (ltK s n d) cur ((List.range' b c).map fun b=>(a,b))).2<s.length)∧
  Rl 1 1 77 1 71 5 (paI cur.1 cur.2 a b) (paH s n d N D) (.exit 2) (paT (qa8 (ltK s n d) cur ((List.range' b c).map fun b=>(a,b))).1 (qa8 (ltK s n d) cur ((List.range' b c).map fun b=>(a,b))).2 a) (paH s n d N' D')
 | 0,b,cur,N,D,hb,hc,hi=>⟨N,D,hi,hc,qoI (hlt:=df (by omega))⟩
 | c+1,b,cur,N,D,hb,hc,hi=>by
  have hbl:b<s.length:=by omega
  obtain⟨_,_,d1⟩:=h.in
  obtain⟨N1,D1,i1,cd⟩:=quF hs h ha hbl
  have cc:=qbF i1.num i1.den hi.num hi.den
  have hl1:=i1.less d1 hi
  have e:qa8 (ltK s n d) cur ((List.range' b (c+1)).map fun b=>(a,b))=qa8 (ltK s n d) (if ltK s n d (a,b) cur then (a,b) else cur) ((List.range' (b+1) c).map fun b=>(a,b)):=rfl
  rw[e]
  by_cases hw:ltK s n d (a,b) cur=true
  ·rw[if_pos hw]
   obtain⟨N2,D2,j1,j2,r⟩:=qiR hs h hl ha c (b+1) (a,b) N1 D1 (by omega) ⟨ha,hbl⟩ i1
   exact⟨N2,D2,j1,j2,qo0 (hlt:=dt (by omega)) (ia:=⟨by omega,by omega⟩) (ib:=⟨by omega,by omega⟩) (hp:=qbP ha) (hq:=qbP hbl) (cd:=cd) (cc:=cc) (hc:=dt (hl1.2 hw)) (hs:=qav (by omega)) r⟩
  ·rw[if_neg hw]
   obtain⟨N2,D2,j1,j2,r⟩:=qiR hs h hl ha c (b+1) cur N D (by omega) hc hi
   exact⟨N2,D2,j1,j2,qqp (hlt:=dt (by omega)) (ia:=⟨by omega,by omega⟩) (ib:=⟨by omega,by omega⟩) (hp:=qbP ha) (hq:=qbP hbl) (cd:=cd) (cc:=cc) (hc:=df fun q=>hw (hl1.1 q)) (hs:=qav (by omega)) r⟩
def qbB (n a c:Nat):List (Nat×Nat):=(List.range' a c).flatMap fun a=>(List.range' (a+1) (n-(a+1))).map fun b=>(a,b)
theorem qfK (n:Nat):qbB n 0 n=qmE n:=by unfold qbB qmE;rw[List.range_eq_range']
theorem qjD (hs:∀ p∈s,qcX p=true) (h:AskT n d) (hl:s.length≤999999):∀ (c a:Nat) (cur:Nat×Nat) (N D:Int),a+c=s.length→cur.1<s.length∧cur.2<s.length→DisI s n d cur N D→
 ∃ N' D',DisI s n d (qa8 (ltK s n d) cur (qbB s.length a c)) N' D'∧((qa8 (ltK s n d) cur (qbB s.length a c)).1<s.length∧(qa8 (ltK s n d) cur (qbB s.length a c)).2<s.length)∧
  Rl 1 1 77 0 71 5 (paT cur.1 cur.2 a) (paH s n d N D) (.exit 0) (paE (qa8 (ltK s n d) cur (qbB s.length a c)).1 (qa8 (ltK s n d) cur (qbB s.length a c)).2) (paH s n d N' D')
 | 0,a,cur,N,D,ha,hc,hi=>⟨N,D,hi,hc,qs1 (hlt:=df (by omega))⟩
 | c+1,a,cur,N,D,ha,hc,hi=>by
  have hal:a<s.length:=by omega
  obtain⟨N1,D1,i1,i2,r1⟩:=qiR hs h hl hal (s.length-(a+1)) (a+1) cur N D (by omega) hc hi
  obtain⟨N2,D2,j1,j2,r2⟩:=qjD hs h hl c (a+1) _ N1 D1 (by omega) i2 i1
  have e:qa8 (ltK s n d) cur (qbB s.length a (c+1))=qa8 (ltK s n d) (qa8 (ltK s n d) cur ((List.range' (a+1) (s.length-(a+1))).map fun b=>(a,b))) (qbB s.length (a+1) c):=by
   show qa8 _ cur (((List.range' (a+1) (s.length-(a+1))).map fun b=>(a,b))++qbB s.length (a+1) c)=_
   unfold qa8
   rw[List.foldl_append]
  rw[e]
  exact⟨N2,D2,j1,j2,qqH (hlt:=dt (by omega)) (ha:=qav (by omega)) (r0:=r1) (hb:=qav (by omega)) r2⟩
def qbC (s:List Pt) (n d:Int):Nat×Nat:=qa8 (ltK s n d) (0,1) (qmE s.length)
theorem qyD (hs:∀ p∈s,qcX p=true) (h:AskT n d) (hl:s.length≤999999) (h2:2≤s.length):∃ N D,DisI s n d (qbC s n d) N D∧((qbC s n d).1<s.length∧(qbC s n d).2<s.length)∧
 Fn 77 1 [qaq 0 s,.pv (qaa n d)] [(0,0,qad s)] (.pv (.tuple #[iV (ptK s (qbC s n d).1).id,iV (ptK s (qbC s n d).2).id,qaa N D])) 0 []:=by
 obtain⟨N1,D1,i1,cd⟩:=quF hs h (a:=0) (b:=1) (by omega) (by omega)
 obtain⟨N,D,j1,j2,r⟩:=qjD hs h hl s.length 0 (0,1) N1 D1 (by omega) ⟨by show 0<s.length;omega,by show 1<s.length;omega⟩ i1
 rw[qfK] at j1 j2 r
 exact⟨N,D,j1,j2,qwb (i0:=⟨by omega,by omega⟩) (i1:=⟨by omega,by omega⟩) (h0:=qbP (by omega)) (h1:=qbP (by omega)) (cd:=cd) (r0:=r) (ii:=⟨by omega,by have:=j2.1;show ((qbC s n d).1:Int)<_;unfold qbC;omega⟩) (ij:=⟨by omega,by have:=j2.2;show ((qbC s n d).2:Int)<_;unfold qbC;omega⟩) (hi:=qbP j2.1) (hj:=qbP j2.2)⟩
end
end Go.Proofs.YtleaeldgaflmkaaGreat

namespace Go.Proofs.YtleaeldgaflmkaaGreat
set_option maxRecDepth 100000
open Go.RowKit
section
variable {n d:Int}
theorem qbb:qdk n d=0↔AskT n d:=by
 constructor
 ·intro h
  by_cases h1:okB n d=true
  ·by_cases h2:n≤1073741824∧-1073741824≤n∧d≤1024
   ·exact⟨h1,h2.2.1,h2.1,h2.2.2⟩
   ·rw[qcS h1 h2] at h;cases h
  ·rw[qgJ h1] at h;cases h
 ·intro h
  exact qim h.ok ⟨h.hi,h.lo,h.den⟩
end
end Go.Proofs.YtleaeldgaflmkaaGreat
