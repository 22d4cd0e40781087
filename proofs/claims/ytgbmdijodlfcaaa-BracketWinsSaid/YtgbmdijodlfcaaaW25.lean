/-
  Joined: Fm, Fn, Fr, Fs, Ka, Kc, Kf. Conditions: none.
-/
import Derived.Test.YtgbmdijodlfcaaaW24
import Derived.Test.YtgbmdijodlfcaaaW21
import Derived.Test.YtgbmdijodlfcaaaW22
namespace Go.Proofs.Ytgbmdijodlfcaaa
set_option maxRecDepth 100000
open Go.RowKit
def qfC (p:Pt):Bool:=okP p.id p.a p.b
def Up (l:List Pt):Prop:=∀ (k:Nat) (p q:Pt),l[k]?=some p→l[k+1]?=some q→p.id<q.id
noncomputable def qdO (l:List Pt):Int:=open Classical in if 64<l.length then 4 else if ∀ p∈l,qfC p=true then (if Up l then 0 else 32) else 8
theorem qaI (P:Nat→Prop):∀ (N:Nat),(∀ k,k<N→P k)∨∃ j,j<N∧¬ P j∧∀ i,i<j→P i
 | 0=>Or.inl fun k hk=>by omega
 | N+1=>by
  rcases qaI P N with h | ⟨j,h1,h2⟩
  ·by_cases hN:P N
   ·exact Or.inl fun k hk=>by
     rcases Nat.lt_or_ge k N with h' | h'
     ·exact h k h'
     ·have:k=N:=by omega
      subst this;exact hN
   ·exact Or.inr ⟨N,by omega,hN,h⟩
  ·exact Or.inr ⟨j,by omega,h2⟩
theorem qaj {α:Type} {l:List α} {k:Nat} (h:k<l.length):∃ p,l[k]?=some p:=⟨l[k],List.getElem?_eq_getElem h⟩
theorem qam {α:Type} {l:List α} {k:Nat} {p:α} (h:l[k]?=some p):k<l.length:=(List.getElem?_eq_some_iff.1 h).1
theorem qas {k n:Nat} (h:k<n):0≤(k:Int)∧(k:Int)<(n:Int):=⟨by omega,by omega⟩
theorem Up.mono {l:List Pt} (h:Up l):∀ {i j:Nat} {p q:Pt},i<j→l[i]?=some p→l[j]?=some q→p.id<q.id:=by
 intro i j
 induction j with
 | zero=>intro p q hij;omega
 | succ j ih=>
  intro p q hij hp hq
  by_cases e:i=j
  ·subst e;exact h i p q hp hq
  ·obtain⟨r,hr⟩:=qaj (l:=l) (k:=j) (by have:=qam hq;omega)
   exact Int.lt_trans (ih (by omega) hp hr) (h j r q hr hq)
theorem qhU {k n:Nat} (h:k<n) (hn:n≤64):iV (IntKind.i64.wrap ((k:Int)+1))=iV ((k+1:Nat):Int):=qar (by omega)
theorem qg6 {l:List Pt} (hn:l.length≤64) (h:∀ p∈l,qfC p=true):Rl 1 1 56 0 44 2 [(1,.pp 1 0),(3,.pv (iV ((0:Nat):Int)))] [(1,0,.ls 0 l.length),(0,0,qaf l)] (.exit 0) [(1,.pp 1 0)] [(1,0,.ls 0 l.length),(0,0,qaf l)]:=
 RunsL.rounds (fun k=>[(1,.pp 1 0),(3,.pv (iV (k:Int)))]) (fun _=>[(1,0,.ls 0 l.length),(0,0,qaf l)]) l.length 0 (Nat.zero_add _)
  (fun k _ hk r=>by
   obtain⟨p,hp⟩:=qaj hk
   exact qgA hp (qas hk) (dt (by omega)) (qdB (h p (List.mem_of_getElem? hp))) (qhU hk hn) r)
  (qnT (df (by omega)))
theorem qe5 {l:List Pt} (hn:l.length≤64) {j:Nat} {p:Pt} (hp:l[j]?=some p) (hb:¬ qfC p=true) (h:∀ i,i<j→∀ q,l[i]?=some q→qfC q=true):Rl 1 1 56 0 44 2 [(1,.pp 1 0),(3,.pv (iV ((0:Nat):Int)))] [(1,0,.ls 0 l.length),(0,0,qaf l)] .ret [(2,.pv (iV 8))] []:=by
 have hj:=qam hp
 refine RunsL.rounds (fun k=>[(1,.pp 1 0),(3,.pv (iV (k:Int)))]) (fun _=>[(1,0,.ls 0 l.length),(0,0,qaf l)]) j 0 (Nat.zero_add _) (fun k _ hk r=>?_) (qmy hp (qas hj) (dt (by omega)) (qeT hb))
 obtain⟨q,hq⟩:=qaj (l:=l) (k:=k) (by omega)
 exact qgA hq (qas (qam hq)) (dt (by omega)) (qdB (h k hk q hq)) (qhU (qam hq) hn) r
theorem qb8 (k:Nat) (h:k≤1000000):iV (IntKind.i64.wrap (((k+1:Nat):Int)-1))=iV (k:Int):=by rw[show ((k+1:Nat):Int)-1=(k:Int) by omega,qbC (by omega) (by omega)]
theorem qkX {l:List Pt} (hn:l.length≤64) (h:Up l):Rl 1 1 56 1 44 2 [(1,.pp 1 0),(4,.pv (iV ((0+1:Nat):Int)))] [(1,0,.ls 0 l.length),(0,0,qaf l)] (.exit 2) [] []:=by
 by_cases h0:l.length=0
 ·exact qjb (k:=0+1) (df (by omega))
 refine RunsL.rounds (fun k=>[(1,.pp 1 0),(4,.pv (iV (k:Int)))]) (fun _=>[(1,0,.ls 0 l.length),(0,0,qaf l)]) (N:=l.length) (l.length-1) (0+1) (by omega) (fun k h1 hk r=>?_) (qjb (df (by omega)))
 obtain⟨m,rfl⟩:∃ m,k=m+1:=⟨k-1,by omega⟩
 obtain⟨q,hq⟩:=qaj (l:=l) (k:=m) (by omega)
 obtain⟨p,hp⟩:=qaj hk
 exact qgV hq hp (qas (by omega)) (qas hk) (dt (by omega)) (qb8 m (by omega)) (df (by have:=h m q p hq hp;omega)) (qhU hk hn) r
theorem qfz {l:List Pt} (hn:l.length≤64) {j:Nat} {p q:Pt} (hq:l[j]?=some q) (hp:l[j+1]?=some p) (hb:¬ q.id<p.id) (h:∀ i,i<j→∀ p q,l[i]?=some p→l[i+1]?=some q→p.id<q.id):Rl 1 1 56 1 44 2 [(1,.pp 1 0),(4,.pv (iV ((0+1:Nat):Int)))] [(1,0,.ls 0 l.length),(0,0,qaf l)] .ret [(2,.pv (iV 32))] []:=by
 have hj:=qam hp
 refine RunsL.rounds (fun k=>[(1,.pp 1 0),(4,.pv (iV (k:Int)))]) (fun _=>[(1,0,.ls 0 l.length),(0,0,qaf l)]) (N:=j+1) j (0+1) (by omega) (fun k h1 hk r=>?_) (qn8 hq hp (qas (by omega)) (qas hj) (dt (by omega)) (qb8 j (by omega)) (dt (by omega)))
 obtain⟨m,rfl⟩:∃ m,k=m+1:=⟨k-1,by omega⟩
 obtain⟨q',hq'⟩:=qaj (l:=l) (k:=m) (by omega)
 obtain⟨p',hp'⟩:=qaj (l:=l) (k:=m+1) (by omega)
 exact qgV hq' hp' (qas (by omega)) (qas (by omega)) (dt (by omega)) (qb8 m (by omega)) (df (by have:=h m (by omega) q' p' hq' hp';omega)) (qhU (n:=l.length) (by omega) hn) r
theorem qdw (l:List Pt):(64<l.length∧qdO l=4)∨(l.length≤64∧(∃ (j:Nat) (p:Pt),l[j]?=some p∧¬ qfC p=true∧∀ i,i<j→∀ q,l[i]?=some q→qfC q=true)∧qdO l=8)∨
 (l.length≤64∧(∀ p∈l,qfC p=true)∧(∃ (j:Nat) (p q:Pt),l[j]?=some q∧l[j+1]?=some p∧¬ q.id<p.id∧∀ i,i<j→∀ p q,l[i]?=some p→l[i+1]?=some q→p.id<q.id)∧qdO l=32)∨
 (l.length≤64∧(∀ p∈l,qfC p=true)∧Up l∧qdO l=0):=by
 by_cases h0:64<l.length
 ·exact Or.inl ⟨h0,by unfold qdO;rw[if_pos h0]⟩
 refine Or.inr ?_
 by_cases h1:∀ p∈l,qfC p=true
 ·refine Or.inr ?_
  by_cases h2:Up l
  ·exact Or.inr ⟨by omega,h1,h2,by unfold qdO;rw[if_neg h0,if_pos h1,if_pos h2]⟩
  ·refine Or.inl ⟨by omega,h1,?_,by unfold qdO;rw[if_neg h0,if_pos h1,if_neg h2]⟩
   rcases qaI (fun k=>∀ p q,l[k]?=some p→l[k+1]?=some q→p.id<q.id) l.length with h | ⟨j,hj,hn,hb⟩
   ·exact (h2 fun k p q hp hq=>h k (qam hp) p q hp hq).elim
   ·simp only[Classical.not_forall,not_imp] at hn
    obtain⟨p,q,hp,hq,hpq⟩:=hn
    exact⟨j,q,p,hp,hq,hpq,hb⟩
 ·refine Or.inl ⟨by omega,?_,by unfold qdO;rw[if_neg h0,if_neg h1]⟩
  rcases qaI (fun k=>∀ q,l[k]?=some q→qfC q=true) l.length with h | ⟨j,hj,hn,hb⟩
  ·exact (h1 fun p hp=>by obtain⟨k,hk,rfl⟩:=List.getElem_of_mem hp;exact h k hk _ (List.getElem?_eq_getElem hk)).elim
  ·simp only[Classical.not_forall,not_imp] at hn
   obtain⟨p,hp,hpq⟩:=hn
   exact⟨j,p,hp,hpq,hb⟩
theorem qec (l:List Pt):Fn 56 1 [qay 0 l] [(0,0,qaf l)] (.pv (iV (qdO l))) 0 []:=by
 rcases qdw l with ⟨h,e⟩ | ⟨h,⟨j,p,hp,hb,hf⟩,e⟩ | ⟨h,h1,⟨j,p,q,hq,hp,hb,hf⟩,e⟩ | ⟨h,h1,h2,e⟩<;>rw[e]
 ·exact qnE (dt (by omega))
 ·exact qpB (df (by omega)) (qe5 h hp hb hf)
 ·exact qpU (df (by omega)) (qg6 h h1) (qfz h hq hp hb hf)
 ·exact qqB (df (by omega)) (qg6 h h1) (qkX h h2)
abbrev pcT (l:List Pt) (k:Nat):List (Nat×SV):=[(1,.pp 1 0),(12,.ls 0 l.length),(13,.pv (iV (l.length:Int))),(14,.pv (iV (k:Int)))]
theorem qgL {l:List Pt} (hn:l.length≤64) (h:∀ p∈l,qfC p=true):Rl 1 1 35 0 45 2 (pcT l 0) [(1,0,.ls 0 l.length),(0,0,qaf l)] (.exit 0) [(1,.pp 1 0)] [(1,0,.ls 0 l.length),(0,0,qaf l)]:=
 RunsL.rounds (pcT l) (fun _=>[(1,0,.ls 0 l.length),(0,0,qaf l)]) l.length 0 (Nat.zero_add _)
  (fun k _ hk r=>by
   obtain⟨p,hp⟩:=qaj hk
   exact qgJ hp (qas hk) (dt (by omega)) (qbc (h p (List.mem_of_getElem? hp))) (qhU hk hn) r)
  (qmH (df (by omega)))
theorem qe6 {l:List Pt} (hn:l.length≤64) {j:Nat} {p:Pt} (hp:l[j]?=some p) (hb:¬ qfC p=true) (h:∀ i,i<j→∀ q,l[i]?=some q→qfC q=true):Rl 1 1 35 0 45 2 (pcT l 0) [(1,0,.ls 0 l.length),(0,0,qaf l)] .ret [(2,.pv (iV 8))] []:=by
 have hj:=qam hp
 refine RunsL.rounds (pcT l) (fun _=>[(1,0,.ls 0 l.length),(0,0,qaf l)]) j 0 (Nat.zero_add _) (fun k _ hk r=>?_) (qnv hp (qas hj) (dt (by omega)) (qgo hb))
 obtain⟨q,hq⟩:=qaj (l:=l) (k:=k) (by omega)
 exact qgJ hq (qas (qam hq)) (dt (by omega)) (qbc (h k hk q hq)) (qhU (qam hq) hn) r
theorem qka {l:List Pt} (hn:l.length≤64) (h:Up l):Rl 1 1 35 1 45 2 [(1,.pp 1 0),(6,.pv (iV ((0+1:Nat):Int)))] [(1,0,.ls 0 l.length),(0,0,qaf l)] (.exit 2) [] []:=by
 by_cases h0:l.length=0
 ·exact qjM (k:=0+1) (df (by omega))
 refine RunsL.rounds (fun k=>[(1,.pp 1 0),(6,.pv (iV (k:Int)))]) (fun _=>[(1,0,.ls 0 l.length),(0,0,qaf l)]) (N:=l.length) (l.length-1) (0+1) (by omega) (fun k h1 hk r=>?_) (qjM (df (by omega)))
 obtain⟨m,rfl⟩:∃ m,k=m+1:=⟨k-1,by omega⟩
 obtain⟨q,hq⟩:=qaj (l:=l) (k:=m) (by omega)
 obtain⟨p,hp⟩:=qaj hk
 exact qg8 hq hp (qas (by omega)) (qas hk) (dt (by omega)) (qb8 m (by omega)) (df (by have:=h m q p hq hp;omega)) (qhU hk hn) r
theorem qfv {l:List Pt} (hn:l.length≤64) {j:Nat} {p q:Pt} (hq:l[j]?=some q) (hp:l[j+1]?=some p) (hb:¬ q.id<p.id) (h:∀ i,i<j→∀ p q,l[i]?=some p→l[i+1]?=some q→p.id<q.id):Rl 1 1 35 1 45 2 [(1,.pp 1 0),(6,.pv (iV ((0+1:Nat):Int)))] [(1,0,.ls 0 l.length),(0,0,qaf l)] .ret [(2,.pv (iV 32))] []:=by
 have hj:=qam hp
 refine RunsL.rounds (fun k=>[(1,.pp 1 0),(6,.pv (iV (k:Int)))]) (fun _=>[(1,0,.ls 0 l.length),(0,0,qaf l)]) (N:=j+1) j (0+1) (by omega) (fun k h1 hk r=>?_) (qmL hq hp (qas (by omega)) (qas hj) (dt (by omega)) (qb8 j (by omega)) (dt (by omega)))
 obtain⟨m,rfl⟩:∃ m,k=m+1:=⟨k-1,by omega⟩
 obtain⟨q',hq'⟩:=qaj (l:=l) (k:=m) (by omega)
 obtain⟨p',hp'⟩:=qaj (l:=l) (k:=m+1) (by omega)
 exact qg8 hq' hp' (qas (by omega)) (qas (by omega)) (dt (by omega)) (qb8 m (by omega)) (df (by have:=h m (by omega) q' p' hq' hp';omega)) (qhU (n:=l.length) (by omega) hn) r
theorem qby (l:List Pt):Fn 35 1 [qay 0 l] [(0,0,qaf l)] (.pv (iV (qdO l))) 0 []:=by
 rcases qdw l with ⟨h,e⟩ | ⟨h,⟨j,p,hp,hb,hf⟩,e⟩ | ⟨h,h1,⟨j,p,q,hq,hp,hb,hf⟩,e⟩ | ⟨h,h1,h2,e⟩<;>rw[e]
 ·exact qnh (dt (by omega))
 ·exact qo4 (df (by omega)) (qe6 h hp hb hf)
 ·exact qpO (df (by omega)) (qgL h h1) (qfv h hq hp hb hf)
 ·exact qq1 (df (by omega)) (qgL h h1) (qka h h2)
structure Val (l:List Pt):Prop where
 len:l.length≤64
 ok:∀ p∈l,qfC p=true
 up:Up l
theorem qfN {l:List Pt}:qdO l=0↔Val l:=by
 rcases qdw l with ⟨h,e⟩ | ⟨h,⟨j,p,hp,hb,hf⟩,e⟩ | ⟨h,h1,⟨j,p,q,hq,hp,hb,hf⟩,e⟩ | ⟨h,h1,h2,e⟩<;>rw[e]
 ·exact⟨fun h=>by omega,fun v=>by have:=v.len;omega⟩
 ·exact⟨fun h=>by omega,fun v=>(hb (v.ok p (List.mem_of_getElem? hp))).elim⟩
 ·exact⟨fun h=>by omega,fun v=>(hb (v.up j q p hq hp)).elim⟩
 ·exact⟨fun _=>⟨h,h1,h2⟩,fun _=>rfl⟩
theorem place (l:List Pt) (hv:Val l) (id:Int):(∃ (k:Nat) (p:Pt),l[k]?=some p∧p.id=id)∨((∀ p∈l,p.id≠id)∧∃ k,k≤l.length∧(∀ (t:Nat) (p:Pt),t<k→l[t]?=some p→p.id<id)∧∀ (t:Nat) (p:Pt),k≤t→l[t]?=some p→id<p.id):=by
 by_cases h:∃ (k:Nat) (p:Pt),l[k]?=some p∧p.id=id
 ·exact Or.inl h
 ·refine Or.inr ⟨fun p hp e=>?_,?_⟩
  ·obtain⟨k,hk,rfl⟩:=List.getElem_of_mem hp
   exact h ⟨k,_,List.getElem?_eq_getElem hk,e⟩
  ·rcases qaI (fun k=>∀ p,l[k]?=some p→p.id<id) l.length with hh | ⟨j,hj,hn,hb⟩
   ·exact⟨l.length,Nat.le_refl _,fun t p ht hp=>hh t ht p hp,fun t p ht hp=>by have:=qam hp;omega⟩
   ·refine⟨j,by omega,fun t p ht hp=>hb t ht p hp,fun t p ht hp=>?_⟩
    simp only[Classical.not_forall,not_imp] at hn
    obtain⟨q,hq,hlt⟩:=hn
    have hne:q.id≠id:=fun e=>h ⟨j,q,hq,e⟩
    rcases Nat.lt_or_ge j t with h' | h'
    ·have:=hv.up.mono h' hq hp;omega
    ·have:t=j:=by omega
     subst this
     rw[hq] at hp
     cases hp
     omega
abbrev atT (id:Int) (k:Nat):List (Nat×SV):=[(1,.pv (iV id)),(2,.pp 1 0),(5,.pv (iV (k:Int)))]
theorem qq4 {l:List Pt} (hn:l.length≤64) {id:Int} (h:∀ p∈l,p.id≠id):Fn 58 1 [qay 0 l,.pv (iV id)] [(0,0,qaf l)] (.pv (iV (-1))) 0 []:=
 qrK (RunsL.rounds (atT id) (fun _=>[(1,0,.ls 0 l.length),(0,0,qaf l)]) l.length 0 (Nat.zero_add _)
  (fun k _ hk r=>by
   obtain⟨p,hp⟩:=qaj hk
   exact qip hp (qas hk) (dt (by omega)) (by simpa using h p (List.mem_of_getElem? hp)) (qhU hk hn) r)
  (qpL (df (by omega))))
theorem qo7 {l:List Pt} (hv:Val l) {id:Int} {k:Nat} {p:Pt} (hk:l[k]?=some p) (he:p.id=id):Fn 58 1 [qay 0 l,.pv (iV id)] [(0,0,qaf l)] (.pv (iV (k:Int))) 0 []:=by
 refine qoz (RunsL.rounds (atT id) (fun _=>[(1,0,.ls 0 l.length),(0,0,qaf l)]) k 0 (Nat.zero_add _) (fun j _ hj r=>?_) (qpq hk (qas (qam hk)) (dt (by have:=qam hk;omega)) (by simpa using he)))
 have hl:=qam hk
 obtain⟨q,hq⟩:=qaj (l:=l) (k:=j) (by omega)
 exact qip hq (qas (qam hq)) (dt (by omega)) (by have:=hv.up.mono hj hq hk;simp;omega) (qhU (qam hq) hv.len) r
end Go.Proofs.Ytgbmdijodlfcaaa

namespace Go.Proofs.Ytgbmdijodlfcaaa
set_option maxRecDepth 100000
open Go.RowKit
theorem qjv (l:List Pt):(¬ (l.length≤16∨64≤l.length∧l.length≤70)∧Fn 19 1 [qay 0 l] [(0,0,qaf l)] (.pv (.bool true)) 0 [])∨
 ((l.length≤16∨64≤l.length∧l.length≤70)∧Fn 19 1 [qay 0 l] [(0,0,qaf l)] (.pv (.bool false)) 0 []):=by
 by_cases h1:l.length>16
 ·by_cases h2:l.length<64
  ·exact Or.inl ⟨by omega,qoe (dt (by omega)) (dt (by omega))⟩
  ·by_cases h3:l.length>70
   ·exact Or.inl ⟨by omega,qkU (dt (by omega)) (df (by omega)) (dt (by omega))⟩
   ·exact Or.inr ⟨by omega,qlx (dt (by omega)) (df (by omega)) (df (by omega))⟩
 ·exact Or.inr ⟨by omega,qm6 (df (by omega)) (df (by omega))⟩
theorem qdz {α:Type} {l:List α} {k:Nat} {p:α} (h:l[k]?=some p):l.take (k+1)=l.take k++[p]:=by rw[List.take_add_one,h];rfl
end Go.Proofs.Ytgbmdijodlfcaaa

namespace Go.Proofs.Ytgbmdijodlfcaaa
set_option maxRecDepth 100000
open Go.RowKit
def ld (tn td:Int) (p q:Pt):Bool:=qbT (p.a*td+p.b*tn) (q.a*td+q.b*tn) p.b q.b p.id q.id
theorem qcL {P Q pb qb pi qi:Int}:qbT P Q pb qb pi qi=true↔(P>Q∨P=Q∧(pb>qb∨pb=qb∧pi<qi)):=by unfold qbT;exact decide_eq_true_iff
theorem qbg {P Q pb qb pi qi:Int}:qbT P Q pb qb pi qi=false↔¬ (P>Q∨P=Q∧(pb>qb∨pb=qb∧pi<qi)):=by unfold qbT;exact decide_eq_false_iff_not
section
variable {tn td:Int} {p q r:Pt}
theorem qfw (p:Pt):ld tn td p p=false:=qbg.2 (by omega)
theorem qel (h:ld tn td p q=true) (k:ld tn td q r=true):ld tn td p r=true:=by
 unfold ld at *
 generalize p.a*td+p.b*tn=P at *
 generalize q.a*td+q.b*tn=Q at *
 generalize r.a*td+r.b*tn=R at *
 rw[qcL] at *
 omega
theorem qjn (h:ld tn td p q=false) (k:ld tn td q r=false):ld tn td p r=false:=by
 unfold ld at *
 generalize p.a*td+p.b*tn=P at *
 generalize q.a*td+q.b*tn=Q at *
 generalize r.a*td+r.b*tn=R at *
 rw[qbg] at *
 omega
theorem qge (h:ld tn td p q=true):ld tn td q p=false:=by
 cases hh:ld tn td q p
 ·rfl
 ·have:=qel h hh;rw[qfw] at this;cases this
theorem qp0 (hi:p.id≠q.id) (h:ld tn td p q=false):ld tn td q p=true:=by
 unfold ld at *
 generalize p.a*td+p.b*tn=P at *
 generalize q.a*td+q.b*tn=Q at *
 rw[qbg] at h
 rw[qcL]
 omega
end
def rk (tn td:Int) (l:List Pt) (p:Pt):Nat:=l.countP fun q=>ld tn td q p
theorem qlQ {tn td:Int}:∀ (s:List Pt) (k:Nat) (p:Pt),s.Pairwise (fun p q=>ld tn td p q=true)→s[k]?=some p→rk tn td s p=k
 | [],_,_,_,h=>by simp at h
 | a::r,0,p,hp,h=>by
  simp only[List.getElem?_cons_zero,Option.some.injEq] at h
  subst h
  rw[List.pairwise_cons] at hp
  unfold rk
  rw[List.countP_eq_zero]
  intro q hq
  rcases List.mem_cons.1 hq with rfl | hq
  ·rw[qfw];decide
  ·rw[qge (hp.1 q hq)];decide
 | a::r,k+1,p,hp,h=>by
  rw[List.getElem?_cons_succ] at h
  rw[List.pairwise_cons] at hp
  have:=qlQ r k p hp.2 h
  unfold rk at this ⊢
  rw[List.countP_cons,this,if_pos (hp.1 p (List.mem_of_getElem? h))]
structure Srt (l:List Pt) (tn td:Int) (s:List Pt):Prop where
 perm:s.Perm l
 pw:s.Pairwise (fun p q=>ld tn td p q=true)
theorem Srt.len {l s:List Pt} {tn td:Int} (h:Srt l tn td s):s.length=l.length:=h.perm.length_eq
theorem Srt.rank {l s:List Pt} {tn td:Int} (h:Srt l tn td s) {k:Nat} {p:Pt} (hk:s[k]?=some p):rk tn td l p=k:=by
 have:=qlQ s k p h.pw hk
 unfold rk at this ⊢
 rw[← h.perm.countP_eq];exact this
theorem Srt.at {l s:List Pt} {tn td:Int} (h:Srt l tn td s) {p:Pt} (hp:p∈l):s[rk tn td l p]?=some p:=by
 obtain⟨k,hk,e⟩:=List.getElem_of_mem (h.perm.mem_iff.2 hp)
 have hk':s[k]?=some p:=by rw[List.getElem?_eq_getElem hk,e]
 rw[h.rank hk'];exact hk'
theorem Srt.lt {l s:List Pt} {tn td:Int} (h:Srt l tn td s) {p:Pt} (hp:p∈l):rk tn td l p<l.length:=by rw[← h.len];exact qam (h.at hp)
theorem Srt.mk_of {l s:List Pt} {tn td:Int} (hv:Val l) (hp:s.Perm l) (h:s.Pairwise (fun p q=>ld tn td q p=false)):Srt l tn td s:=by
 have hne:l.Pairwise (fun p q=>p.id≠q.id):=by
  rw[List.pairwise_iff_getElem]
  intro i j hi hj hij
  have:=hv.up.mono hij (List.getElem?_eq_getElem hi) (List.getElem?_eq_getElem hj)
  omega
 have hns:s.Pairwise (fun p q=>p.id≠q.id):=(hp.pairwise_iff (fun h e=>h e.symm)).2 hne
 exact⟨hp,(h.and hns).imp fun ⟨a,b⟩=>qp0 (fun e=>b e.symm) a⟩
theorem qks {l:List Pt} {tn td:Int} (hv:Val l):∃ s,Srt l tn td s:=by
 refine⟨l.mergeSort (fun p q=>!ld tn td q p),Srt.mk_of hv (List.mergeSort_perm _ _) ?_⟩
 have h:=List.pairwise_mergeSort (le:=fun p q:Pt=>!ld tn td q p) (fun a b c h1 h2=>?_) (fun a b=>?_) l
 ·exact h.imp fun {a b} h=>by simpa using h
 ·have h1':ld tn td b a=false:=by simpa using h1
  have h2':ld tn td c b=false:=by simpa using h2
  simp[qjn h2' h1']
 ·cases h:ld tn td b a
  ·simp
  ·simp[qge h]
theorem qoY {l:List Pt} (hv:Val l) {p q:Pt} (hp:p∈l) (hq:q∈l) (e:p.id=q.id):p=q:=by
 obtain⟨i,hi,rfl⟩:=List.getElem_of_mem hp
 obtain⟨j,hj,rfl⟩:=List.getElem_of_mem hq
 rcases Nat.lt_trichotomy i j with h | h | h
 ·have:=hv.up.mono h (List.getElem?_eq_getElem hi) (List.getElem?_eq_getElem hj);omega
 ·subst h;rfl
 ·have:=hv.up.mono h (List.getElem?_eq_getElem hj) (List.getElem?_eq_getElem hi);omega
def cfL (tn td:Int) (p q:Pt):Int:=if p.id=q.id then 0 else if ld tn td p q=true then -1 else 1
theorem qnx {tn td:Int} {p q:Pt} (h:p.id=q.id→p=q):decide (cfL tn td p q<0)=ld tn td p q:=by
 unfold cfL
 by_cases e:p.id=q.id
 ·rw[if_pos e,h e,qfw];rfl
 ·rw[if_neg e]
  cases ld tn td p q<;>rfl
end Go.Proofs.Ytgbmdijodlfcaaa

namespace Go.Proofs.Ytgbmdijodlfcaaa
set_option maxRecDepth 100000
open Go.RowKit
structure Tm (tn td:Int):Prop where
 hn:I64 tn
 hd:I64 td
 ok:okB tn td=true
noncomputable def tE (l:List Pt) (tn td:Int):Int:=if qdO l=0 then (if okB tn td=true then 0 else 8) else qdO l
theorem qjH {tn td:Int} (hn:I64 tn) (hd:I64 td) (l:List Pt):Fn 59 1 [qay 0 l,.pv (qac tn td)] [(0,0,qaf l)] (.pv (iV (tE l tn td))) 0 []:=by
 unfold tE
 by_cases h0:qdO l=0
 ·have c1:=qby l
  rw[h0] at c1
  rw[if_pos h0]
  by_cases hp:okB tn td=true
  ·rw[if_pos hp];exact qmh c1 (qdh hn hd hp)
  ·rw[if_neg hp];exact qmh c1 (qe9 hn hd hp)
 ·rw[if_neg h0]
  exact qnP (qby l) (by simp[h0])
theorem qjq {tn td:Int} (hn:I64 tn) (hd:I64 td) (l:List Pt):Fn 29 1 [qay 0 l,.pv (qac tn td)] [(0,0,qaf l)] (.pv (iV (tE l tn td))) 0 []:=by
 unfold tE
 by_cases h0:qdO l=0
 ·have c1:=qec l
  rw[h0] at c1
  rw[if_pos h0]
  by_cases hp:okB tn td=true
  ·rw[if_pos hp];exact qlX c1 (qiS hn hd hp)
  ·rw[if_neg hp];exact qlX c1 (qhv hn hd hp)
 ·rw[if_neg h0]
  exact qnq (qec l) (by simp[h0])
theorem qng {l:List Pt} {tn td:Int} (hv:Val l) (ht:okB tn td=true):tE l tn td=0:=by unfold tE;rw[if_pos (qfN.2 hv),if_pos ht]
section
variable {l:List Pt} {tn td:Int}
theorem qpS (ht:Tm tn td) {p q:Pt} (hp:qfC p=true) (hq:qfC q=true) :
 Fn 78 1 [.pv (ptV p),.pv (ptV q),.pp 0 0] [(0,0,.pv (iV tn)),(0,1,.pv (iV td))] (.pv (iV (cfL tn td p q))) 0 []:=by
 unfold cfL
 by_cases e:p.id=q.id
 ·rw[if_pos e];exact qrB (by simp[e])
 ·rw[if_neg e]
  have a:=qg2 ht.hn ht.hd hp hq ht.ok e
  have hl:qbT (p.a*td+p.b*tn) (q.a*td+q.b*tn) p.b q.b p.id q.id=ld tn td p q:=rfl
  rw[hl] at a
  cases hc:ld tn td p q<;>rw[hc] at a
  ·rw[if_neg (by decide)];exact qqx (by simp[e]) a
  ·rw[if_pos rfl];exact qrX (by simp[e]) a
theorem qep (hv:Val l) (ht:Tm tn td) {s:List Pt} (hs:Srt l tn td s) {m:Pt} (hm:s[0]?=some m):∀ (d k:Nat) (c:Pt),k+d=l.length→c∈l→(∀ (j:Nat) (q:Pt),j<k→l[j]?=some q→ld tn td q c=false)→
 Rl 2 2 60 0 33 4 ([(0,.ls 0 l.length),(1,.pc 78 [.pp 1 0]),(4,.pp 2 0),(5,.pp 3 0),(6,.pv (iV (k:Int)))]) ([(0,0,qaf l),(1,0,.pv (iV tn)),(1,1,.pv (iV td)),(3,0,.pv (iV (c).id)),(3,1,.pv (iV (c).a)),(3,2,.pv (iV (c).b)),(2,0,.pv (iV 0)),(2,1,.pv (iV 0)),(2,2,.pv (iV 0))]) (.exit 0) ([(4,.pp 2 0),(5,.pp 3 0)]) ([(0,0,qaf l),(1,0,.pv (iV tn)),(1,1,.pv (iV td)),(3,0,.pv (iV (m).id)),(3,1,.pv (iV (m).a)),(3,2,.pv (iV (m).b)),(2,0,.pv (iV 0)),(2,1,.pv (iV 0)),(2,2,.pv (iV 0))])
 | 0,k,c,hd,hc,hf=>by
  have h0:rk tn td l c=0:=by
   unfold rk
   rw[List.countP_eq_zero]
   intro q hq
   obtain⟨j,hj,rfl⟩:=List.getElem_of_mem hq
   rw[hf j _ (by omega) (List.getElem?_eq_getElem hj)];decide
  have:=hs.at hc
  rw[h0,hm] at this
  cases this
  exact qoO (df (by omega))
 | d+1,k,c,hd,hc,hf=>by
  obtain⟨p,hp⟩:=qaj (l:=l) (k:=k) (by omega)
  have hpm:=List.mem_of_getElem? hp
  have hcf:=qnx (tn:=tn) (td:=td) (p:=p) (q:=c) (fun e=>qoY hv hpm hc e)
  have hl:=qpS ht (hv.ok p hpm) (hv.ok c hc)
  cases hx:ld tn td p c<;>rw[hx] at hcf
  ·exact qrc hp (qas (qam hp)) (dt (by omega)) hl hcf (qhU (qam hp) hv.len) (qep hv ht hs hm d (k+1) c (by omega) hc fun j q hj hq=>by
    by_cases e:j=k
    ·subst e;rw[hp] at hq;cases hq;exact hx
    ·exact hf j q (by omega) hq)
  ·exact qrq hp (qas (qam hp)) (dt (by omega)) hl hcf (qhU (qam hp) hv.len) (qep hv ht hs hm d (k+1) p (by omega) hpm fun j q hj hq=>by
    by_cases e:j=k
    ·subst e;rw[hp] at hq;cases hq;exact qfw _
    ·cases hh:ld tn td q p
     ·rfl
     ·have h1:=qel hh hx
      have h2:=hf j q (by omega) hq
      rw[h1] at h2;cases h2)
theorem qnr (hv:Val l) (ht:Tm tn td) {s:List Pt} (hs:Srt l tn td s) {m:Pt} (hm:s[0]?=some m) :
 Fn 60 2 [.ls 0 l.length,.pc 78 [.pp 1 0]] [(0,0,qaf l),(1,0,.pv (iV tn)),(1,1,.pv (iV td))] (.pv (ptV m)) 0 []:=by
 have hl:0<l.length:=by have:=qam hm;rw[hs.len] at this;exact this
 obtain⟨p,hp⟩:=qaj hl
 exact qnH hp (qas (k:=0) hl) (df (by omega)) (qep hv ht hs hm (l.length-1) (0+1) p (by omega) (List.mem_of_getElem? hp) fun j q hj hq=>by
  have:j=0:=by omega
  subst this
  rw[hp] at hq;cases hq;exact qfw _)
end
end Go.Proofs.Ytgbmdijodlfcaaa

namespace Go.Proofs.Ytgbmdijodlfcaaa
set_option maxRecDepth 100000
open Go.RowKit
def qsh (a b:Int):Bool:=decide (0≤a∧a≤65535∧0≤b∧b≤65535∧a≠b)
def Dis (l:List Pt):Prop:=∀ (i k:Nat) (p q:Pt),i<k→l[i]?=some p→l[k]?=some q→¬ (p.a=q.a∧p.b=q.b)
structure V8 (x:Int) (l:List Pt):Prop where
 len:l.length≤200
 ok:∀ p∈l,qsh p.a p.b=true
 up:Up l
 lo:∀ p∈l,0≤p.id
 hi:∀ p∈l,p.id<x
 nx:0≤x∧x≤1000000
 dis:Dis l
def qoj (l:List Pt):List (Value×Value):=l.map fun p=>(iV p.id,ptV p)
abbrev byV (l:List Pt):List Value:=kvL (qoj l)
theorem qi4 (a:Int):MapK Try.prog 77 3 68 (iV a) (fun x=>∃ b,x=iV b) (qad 0 0 0):=
 qi5 (by kernel_rfl) Try.underlying3 (fun w=>qda (by kernel_rfl) w) a
theorem qq0 (l:List Pt):∀ p∈qoj l,∃ b,p.1=iV b:=fun p hp=>by
 obtain⟨q,_,rfl⟩:=List.mem_map.1 hp
 exact⟨q.id,rfl⟩
theorem qdk {a b:Int} (h:iV a=iV b):a=b:=by injection h
theorem qqK {l:List Pt} {a:Int} (h:∀ q∈l,q.id≠a) (ok:Bool):qaN Try.prog 77 (byV l) (iV a) ok (if ok=true then .tuple #[qad 0 0 0,.bool false] else qad 0 0 0):=
 qh4 (qi4 a) (qq0 l) (fun q hq e=>by
  obtain⟨r,hr,rfl⟩:=List.mem_map.1 hq
  exact h r hr (qdk e)) ok
theorem qp2 {l:List Pt} {p:Pt} (hp:p∈l) (hu:∀ q∈l,q.id=p.id→q=p) (ok:Bool):qaN Try.prog 77 (byV l) (iV p.id) ok (if ok=true then .tuple #[ptV p,.bool true] else ptV p):=
 qgt (v:=ptV p) (qi4 p.id) (qq0 l) (List.mem_map.2 ⟨p,hp,rfl⟩) (fun r hr e=>by
  obtain⟨s,hs,rfl⟩:=List.mem_map.1 hr
  rw[hu s hs (qdk e)]) ok
theorem qoC {l:List Pt} {p:Pt} (h:∀ q∈l,q.id≠p.id):qdS Try.prog 77 (byV l) (iV p.id) (ptV p) (byV (l++[p])):=by
 have:=qiJ (qi4 p.id) (qq0 l) (fun q hq e=>by
  obtain⟨r,hr,rfl⟩:=List.mem_map.1 hq
  exact h r hr (qdk e)) (ptV p)
 show qdS _ _ _ _ _ (kvL (qoj (l++[p])))
 rw[show qoj (l++[p])=qoj l++[(iV p.id,ptV p)] by simp[qoj]]
 exact this
end Go.Proofs.Ytgbmdijodlfcaaa

namespace Go.Proofs.Ytgbmdijodlfcaaa
set_option maxRecDepth 100000
open Go.RowKit
def lst (m:List Pt):Int:=match m.getLast? with
 | none=>-1
 | some p=>p.id
theorem qiT:lst [] = -1:=rfl
theorem qgP (m:List Pt) (p:Pt):lst (m++[p])=p.id:=by simp[lst]
def Inc (l:List Pt):Prop:=∀ (k:Nat) (p:Pt),l[k]?=some p→lst (l.take k)<p.id
theorem Inc.up {l:List Pt} (h:Inc l):Up l:=fun k p q hp hq=>by
 have:=h (k+1) q hq
 rw[qdz hp,qgP] at this
 exact this
theorem Inc.lo {l:List Pt} (h:Inc l):∀ p∈l,0≤p.id:=by
 have key:∀ (k:Nat) (p:Pt),l[k]?=some p→0≤p.id:=by
  intro k
  induction k with
  | zero=>intro p hp;have:=h 0 p hp;rw[List.take_zero,qiT] at this;omega
  | succ k ih=>
   intro p hp
   obtain⟨q,hq⟩:=qaj (l:=l) (k:=k) (by have:=qam hp;omega)
   have:=ih q hq
   have:=h.up k q p hq hp
   omega
 intro p hp
 obtain⟨k,hk,rfl⟩:=List.getElem_of_mem hp
 exact key k _ (List.getElem?_eq_getElem hk)
theorem Inc.lt {l:List Pt} (h:Inc l) {x:Int}:lst l<x↔(∀ p∈l,p.id<x)∧0≤x:=by
 have hup:=h.up
 have hlo:=h.lo
 rcases List.eq_nil_or_concat l with rfl | ⟨m,q,rfl⟩
 ·rw[qiT];exact⟨fun h=>⟨fun p hp=>by simp at hp,by omega⟩,fun h=>by omega⟩
 ·rw[List.concat_eq_append,qgP]
  rw[List.concat_eq_append] at hup hlo
  refine⟨fun hx=>⟨fun p hp=>?_,by have:=hlo q (by simp);omega⟩,fun hx=>hx.1 q (by simp)⟩
  obtain⟨k,hk,rfl⟩:=List.getElem_of_mem hp
  rcases Nat.lt_or_ge k m.length with h1 | h1
  ·have:=hup.mono h1 (List.getElem?_eq_getElem hk) (show (m++[q])[m.length]?=some q by simp)
   omega
  ·have hkm:k=m.length:=by simp at hk;omega
   subst hkm
   simpa using hx
theorem qlh {l:List Pt} {k:Nat} {q:Pt} (h:q∈l.take k):∃ i,i<k∧l[i]?=some q:=by
 obtain⟨i,hi,rfl⟩:=List.getElem_of_mem h
 have hi':i<k∧i<l.length:=by simp at hi;omega
 exact⟨i,hi'.1,by rw[List.getElem_take];exact List.getElem?_eq_getElem hi'.2⟩
end Go.Proofs.Ytgbmdijodlfcaaa

namespace Go.Proofs.Ytgbmdijodlfcaaa
set_option maxRecDepth 100000
open Go.RowKit
theorem qo8 {l:List Pt} (hu:Up l) {i j:Nat} {p q:Pt} (hp:l[i]?=some p) (hq:l[j]?=some q) (h:p.id=q.id):i=j∧p=q:=by
 rcases Nat.lt_trichotomy i j with e | e | e
 ·have:=hu.mono e hp hq;omega
 ·subst e;rw[hp] at hq;cases hq;exact⟨rfl,rfl⟩
 ·have:=hu.mono e hq hp;omega
noncomputable def qr3 (l:List Pt) (a b:Int):Bool:=open Classical in decide (∃ p∈l,p.a=a∧p.b=b)
theorem qqt {l:List Pt} {a b:Int}:qr3 l a b=true↔∃ p∈l,p.a=a∧p.b=b:=by unfold qr3;exact decide_eq_true_iff
end Go.Proofs.Ytgbmdijodlfcaaa
