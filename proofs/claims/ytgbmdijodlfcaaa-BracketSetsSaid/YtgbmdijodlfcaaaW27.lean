/-
  Joined: Fm, Fn, Fr, Fs, Ka, Kc, Kf, Kj. Conditions: none.
-/
import Derived.Test.YtgbmdijodlfcaaaW26
import Derived.Test.YtgbmdijodlfcaaaW21
import Derived.Test.YtgbmdijodlfcaaaW25
import Derived.Test.YtgbmdijodlfcaaaW22
namespace Go.Proofs.Ytgbmdijodlfcaaa
set_option maxRecDepth 100000
open Go.RowKit
def qg3 (p:Pt):Bool:=okP p.id p.a p.b
def Up (l:List Pt):Prop:=∀ (k:Nat) (p q:Pt),l[k]?=some p→l[k+1]?=some q→p.id<q.id
noncomputable def qeK (l:List Pt):Int:=open Classical in if 64<l.length then 4 else if ∀ p∈l,qg3 p=true then (if Up l then 0 else 32) else 8
theorem qaI (P:Nat→Prop):∀ (N:Nat),(∀ k,k<N→P k)∨∃ j,j<N∧¬ P j∧∀ i,i<j→P i
 | 0=>Or.inl fun k hk=>by omega
 | N+1=>by
  rcases qaI P N with h | ⟨j,h1,h2⟩
  ·by_cases hN:P N
   ·exact Or.inl fun k hk=>by
     rcases Nat.lt_or_ge k N with h' | h'
     ·exact h k h'
     ·have:k=N:=by omega
      subst this;exact hN
   ·exact Or.inr ⟨N,by omega,hN,h⟩
  ·exact Or.inr ⟨j,by omega,h2⟩
theorem qap {α:Type} {l:List α} {k:Nat} (h:k<l.length):∃ p,l[k]?=some p:=⟨l[k],List.getElem?_eq_getElem h⟩
theorem qas {α:Type} {l:List α} {k:Nat} {p:α} (h:l[k]?=some p):k<l.length:=(List.getElem?_eq_some_iff.1 h).1
theorem qao {k n:Nat} (h:k<n):0≤(k:Int)∧(k:Int)<(n:Int):=⟨by omega,by omega⟩
theorem Up.mono {l:List Pt} (h:Up l):∀ {i j:Nat} {p q:Pt},i<j→l[i]?=some p→l[j]?=some q→p.id<q.id:=by
 intro i j
 induction j with
 | zero=>intro p q hij;omega
 | succ j ih=>
  intro p q hij hp hq
  by_cases e:i=j
  ·subst e;exact h i p q hp hq
  ·obtain⟨r,hr⟩:=qap (l:=l) (k:=j) (by have:=qas hq;omega)
   exact Int.lt_trans (ih (by omega) hp hr) (h j r q hr hq)
theorem qj4 {k n:Nat} (h:k<n) (hn:n≤64):iV (IntKind.i64.wrap ((k:Int)+1))=iV ((k+1:Nat):Int):=qal (by omega)
theorem qgB {l:List Pt} (hn:l.length≤64) (h:∀ p∈l,qg3 p=true):Rl 1 1 56 0 44 2 [(1,.pp 1 0),(3,.pv (iV ((0:Nat):Int)))] [(1,0,.ls 0 l.length),(0,0,qai l)] (.exit 0) [(1,.pp 1 0)] [(1,0,.ls 0 l.length),(0,0,qai l)]:=
 RunsL.rounds (fun k=>[(1,.pp 1 0),(3,.pv (iV (k:Int)))]) (fun _=>[(1,0,.ls 0 l.length),(0,0,qai l)]) l.length 0 (Nat.zero_add _)
  (fun k _ hk r=>by
   obtain⟨p,hp⟩:=qap hk
   exact qg4 hp (qao hk) (dt (by omega)) (qdh (h p (List.mem_of_getElem? hp))) (qj4 hk hn) r)
  (qmD (df (by omega)))
theorem qfj {l:List Pt} (hn:l.length≤64) {j:Nat} {p:Pt} (hp:l[j]?=some p) (hb:¬ qg3 p=true) (h:∀ i,i<j→∀ q,l[i]?=some q→qg3 q=true):Rl 1 1 56 0 44 2 [(1,.pp 1 0),(3,.pv (iV ((0:Nat):Int)))] [(1,0,.ls 0 l.length),(0,0,qai l)] .ret [(2,.pv (iV 8))] []:=by
 have hj:=qas hp
 refine RunsL.rounds (fun k=>[(1,.pp 1 0),(3,.pv (iV (k:Int)))]) (fun _=>[(1,0,.ls 0 l.length),(0,0,qai l)]) j 0 (Nat.zero_add _) (fun k _ hk r=>?_) (qmI hp (qao hj) (dt (by omega)) (qfy hb))
 obtain⟨q,hq⟩:=qap (l:=l) (k:=k) (by omega)
 exact qg4 hq (qao (qas hq)) (dt (by omega)) (qdh (h k hk q hq)) (qj4 (qas hq) hn) r
theorem qb5 (k:Nat) (h:k≤1000000):iV (IntKind.i64.wrap (((k+1:Nat):Int)-1))=iV (k:Int):=by rw[show ((k+1:Nat):Int)-1=(k:Int) by omega,qaQ (by omega) (by omega)]
theorem qkK {l:List Pt} (hn:l.length≤64) (h:Up l):Rl 1 1 56 1 44 2 [(1,.pp 1 0),(4,.pv (iV ((0+1:Nat):Int)))] [(1,0,.ls 0 l.length),(0,0,qai l)] (.exit 2) [] []:=by
 by_cases h0:l.length=0
 ·exact qjn (k:=0+1) (df (by omega))
 refine RunsL.rounds (fun k=>[(1,.pp 1 0),(4,.pv (iV (k:Int)))]) (fun _=>[(1,0,.ls 0 l.length),(0,0,qai l)]) (N:=l.length) (l.length-1) (0+1) (by omega) (fun k h1 hk r=>?_) (qjn (df (by omega)))
 obtain⟨m,rfl⟩:∃ m,k=m+1:=⟨k-1,by omega⟩
 obtain⟨q,hq⟩:=qap (l:=l) (k:=m) (by omega)
 obtain⟨p,hp⟩:=qap hk
 exact qgM hq hp (qao (by omega)) (qao hk) (dt (by omega)) (qb5 m (by omega)) (df (by have:=h m q p hq hp;omega)) (qj4 hk hn) r
theorem qe2 {l:List Pt} (hn:l.length≤64) {j:Nat} {p q:Pt} (hq:l[j]?=some q) (hp:l[j+1]?=some p) (hb:¬ q.id<p.id) (h:∀ i,i<j→∀ p q,l[i]?=some p→l[i+1]?=some q→p.id<q.id):Rl 1 1 56 1 44 2 [(1,.pp 1 0),(4,.pv (iV ((0+1:Nat):Int)))] [(1,0,.ls 0 l.length),(0,0,qai l)] .ret [(2,.pv (iV 32))] []:=by
 have hj:=qas hp
 refine RunsL.rounds (fun k=>[(1,.pp 1 0),(4,.pv (iV (k:Int)))]) (fun _=>[(1,0,.ls 0 l.length),(0,0,qai l)]) (N:=j+1) j (0+1) (by omega) (fun k h1 hk r=>?_) (qoe hq hp (qao (by omega)) (qao hj) (dt (by omega)) (qb5 j (by omega)) (dt (by omega)))
 obtain⟨m,rfl⟩:∃ m,k=m+1:=⟨k-1,by omega⟩
 obtain⟨q',hq'⟩:=qap (l:=l) (k:=m) (by omega)
 obtain⟨p',hp'⟩:=qap (l:=l) (k:=m+1) (by omega)
 exact qgM hq' hp' (qao (by omega)) (qao (by omega)) (dt (by omega)) (qb5 m (by omega)) (df (by have:=h m (by omega) q' p' hq' hp';omega)) (qj4 (n:=l.length) (by omega) hn) r
theorem qdg (l:List Pt):(64<l.length∧qeK l=4)∨(l.length≤64∧(∃ (j:Nat) (p:Pt),l[j]?=some p∧¬ qg3 p=true∧∀ i,i<j→∀ q,l[i]?=some q→qg3 q=true)∧qeK l=8)∨
 (l.length≤64∧(∀ p∈l,qg3 p=true)∧(∃ (j:Nat) (p q:Pt),l[j]?=some q∧l[j+1]?=some p∧¬ q.id<p.id∧∀ i,i<j→∀ p q,l[i]?=some p→l[i+1]?=some q→p.id<q.id)∧qeK l=32)∨
 (l.length≤64∧(∀ p∈l,qg3 p=true)∧Up l∧qeK l=0):=by
 by_cases h0:64<l.length
 ·exact Or.inl ⟨h0,by unfold qeK;rw[if_pos h0]⟩
 refine Or.inr ?_
 by_cases h1:∀ p∈l,qg3 p=true
 ·refine Or.inr ?_
  by_cases h2:Up l
  ·exact Or.inr ⟨by omega,h1,h2,by unfold qeK;rw[if_neg h0,if_pos h1,if_pos h2]⟩
  ·refine Or.inl ⟨by omega,h1,?_,by unfold qeK;rw[if_neg h0,if_pos h1,if_neg h2]⟩
   rcases qaI (fun k=>∀ p q,l[k]?=some p→l[k+1]?=some q→p.id<q.id) l.length with h | ⟨j,hj,hn,hb⟩
   ·exact (h2 fun k p q hp hq=>h k (qas hp) p q hp hq).elim
   ·simp only[Classical.not_forall,not_imp] at hn
    obtain⟨p,q,hp,hq,hpq⟩:=hn
    exact⟨j,q,p,hp,hq,hpq,hb⟩
 ·refine Or.inl ⟨by omega,?_,by unfold qeK;rw[if_neg h0,if_neg h1]⟩
  rcases qaI (fun k=>∀ q,l[k]?=some q→qg3 q=true) l.length with h | ⟨j,hj,hn,hb⟩
  ·exact (h1 fun p hp=>by obtain⟨k,hk,rfl⟩:=List.getElem_of_mem hp;exact h k hk _ (List.getElem?_eq_getElem hk)).elim
  ·simp only[Classical.not_forall,not_imp] at hn
   obtain⟨p,hp,hpq⟩:=hn
   exact⟨j,p,hp,hpq,hb⟩
theorem qdL (l:List Pt):Fn 56 1 [qaD 0 l] [(0,0,qai l)] (.pv (iV (qeK l))) 0 []:=by
 rcases qdg l with ⟨h,e⟩ | ⟨h,⟨j,p,hp,hb,hf⟩,e⟩ | ⟨h,h1,⟨j,p,q,hq,hp,hb,hf⟩,e⟩ | ⟨h,h1,h2,e⟩<;>rw[e]
 ·exact qmP (dt (by omega))
 ·exact qpY (df (by omega)) (qfj h hp hb hf)
 ·exact qpN (df (by omega)) (qgB h h1) (qe2 h hq hp hb hf)
 ·exact qrI (df (by omega)) (qgB h h1) (qkK h h2)
abbrev pcT (l:List Pt) (k:Nat):List (Nat×SV):=[(1,.pp 1 0),(12,.ls 0 l.length),(13,.pv (iV (l.length:Int))),(14,.pv (iV (k:Int)))]
theorem qgR {l:List Pt} (hn:l.length≤64) (h:∀ p∈l,qg3 p=true):Rl 1 1 35 0 45 2 (pcT l 0) [(1,0,.ls 0 l.length),(0,0,qai l)] (.exit 0) [(1,.pp 1 0)] [(1,0,.ls 0 l.length),(0,0,qai l)]:=
 RunsL.rounds (pcT l) (fun _=>[(1,0,.ls 0 l.length),(0,0,qai l)]) l.length 0 (Nat.zero_add _)
  (fun k _ hk r=>by
   obtain⟨p,hp⟩:=qap hk
   exact qgn hp (qao hk) (dt (by omega)) (qbe (h p (List.mem_of_getElem? hp))) (qj4 hk hn) r)
  (qnL (df (by omega)))
theorem qeN {l:List Pt} (hn:l.length≤64) {j:Nat} {p:Pt} (hp:l[j]?=some p) (hb:¬ qg3 p=true) (h:∀ i,i<j→∀ q,l[i]?=some q→qg3 q=true):Rl 1 1 35 0 45 2 (pcT l 0) [(1,0,.ls 0 l.length),(0,0,qai l)] .ret [(2,.pv (iV 8))] []:=by
 have hj:=qas hp
 refine RunsL.rounds (pcT l) (fun _=>[(1,0,.ls 0 l.length),(0,0,qai l)]) j 0 (Nat.zero_add _) (fun k _ hk r=>?_) (qm7 hp (qao hj) (dt (by omega)) (qfC hb))
 obtain⟨q,hq⟩:=qap (l:=l) (k:=k) (by omega)
 exact qgn hq (qao (qas hq)) (dt (by omega)) (qbe (h k hk q hq)) (qj4 (qas hq) hn) r
theorem qlF {l:List Pt} (hn:l.length≤64) (h:Up l):Rl 1 1 35 1 45 2 [(1,.pp 1 0),(6,.pv (iV ((0+1:Nat):Int)))] [(1,0,.ls 0 l.length),(0,0,qai l)] (.exit 2) [] []:=by
 by_cases h0:l.length=0
 ·exact qjx (k:=0+1) (df (by omega))
 refine RunsL.rounds (fun k=>[(1,.pp 1 0),(6,.pv (iV (k:Int)))]) (fun _=>[(1,0,.ls 0 l.length),(0,0,qai l)]) (N:=l.length) (l.length-1) (0+1) (by omega) (fun k h1 hk r=>?_) (qjx (df (by omega)))
 obtain⟨m,rfl⟩:∃ m,k=m+1:=⟨k-1,by omega⟩
 obtain⟨q,hq⟩:=qap (l:=l) (k:=m) (by omega)
 obtain⟨p,hp⟩:=qap hk
 exact qgG hq hp (qao (by omega)) (qao hk) (dt (by omega)) (qb5 m (by omega)) (df (by have:=h m q p hq hp;omega)) (qj4 hk hn) r
theorem qeS {l:List Pt} (hn:l.length≤64) {j:Nat} {p q:Pt} (hq:l[j]?=some q) (hp:l[j+1]?=some p) (hb:¬ q.id<p.id) (h:∀ i,i<j→∀ p q,l[i]?=some p→l[i+1]?=some q→p.id<q.id):Rl 1 1 35 1 45 2 [(1,.pp 1 0),(6,.pv (iV ((0+1:Nat):Int)))] [(1,0,.ls 0 l.length),(0,0,qai l)] .ret [(2,.pv (iV 32))] []:=by
 have hj:=qas hp
 refine RunsL.rounds (fun k=>[(1,.pp 1 0),(6,.pv (iV (k:Int)))]) (fun _=>[(1,0,.ls 0 l.length),(0,0,qai l)]) (N:=j+1) j (0+1) (by omega) (fun k h1 hk r=>?_) (qnQ hq hp (qao (by omega)) (qao hj) (dt (by omega)) (qb5 j (by omega)) (dt (by omega)))
 obtain⟨m,rfl⟩:∃ m,k=m+1:=⟨k-1,by omega⟩
 obtain⟨q',hq'⟩:=qap (l:=l) (k:=m) (by omega)
 obtain⟨p',hp'⟩:=qap (l:=l) (k:=m+1) (by omega)
 exact qgG hq' hp' (qao (by omega)) (qao (by omega)) (dt (by omega)) (qb5 m (by omega)) (df (by have:=h m (by omega) q' p' hq' hp';omega)) (qj4 (n:=l.length) (by omega) hn) r
theorem qhC (l:List Pt):Fn 35 1 [qaD 0 l] [(0,0,qai l)] (.pv (iV (qeK l))) 0 []:=by
 rcases qdg l with ⟨h,e⟩ | ⟨h,⟨j,p,hp,hb,hf⟩,e⟩ | ⟨h,h1,⟨j,p,q,hq,hp,hb,hf⟩,e⟩ | ⟨h,h1,h2,e⟩<;>rw[e]
 ·exact qnB (dt (by omega))
 ·exact qoH (df (by omega)) (qeN h hp hb hf)
 ·exact qoM (df (by omega)) (qgR h h1) (qeS h hq hp hb hf)
 ·exact qrS (df (by omega)) (qgR h h1) (qlF h h2)
structure Val (l:List Pt):Prop where
 len:l.length≤64
 ok:∀ p∈l,qg3 p=true
 up:Up l
theorem qja {l:List Pt}:qeK l=0↔Val l:=by
 rcases qdg l with ⟨h,e⟩ | ⟨h,⟨j,p,hp,hb,hf⟩,e⟩ | ⟨h,h1,⟨j,p,q,hq,hp,hb,hf⟩,e⟩ | ⟨h,h1,h2,e⟩<;>rw[e]
 ·exact⟨fun h=>by omega,fun v=>by have:=v.len;omega⟩
 ·exact⟨fun h=>by omega,fun v=>(hb (v.ok p (List.mem_of_getElem? hp))).elim⟩
 ·exact⟨fun h=>by omega,fun v=>(hb (v.up j q p hq hp)).elim⟩
 ·exact⟨fun _=>⟨h,h1,h2⟩,fun _=>rfl⟩
theorem place (l:List Pt) (hv:Val l) (id:Int):(∃ (k:Nat) (p:Pt),l[k]?=some p∧p.id=id)∨((∀ p∈l,p.id≠id)∧∃ k,k≤l.length∧(∀ (t:Nat) (p:Pt),t<k→l[t]?=some p→p.id<id)∧∀ (t:Nat) (p:Pt),k≤t→l[t]?=some p→id<p.id):=by
 by_cases h:∃ (k:Nat) (p:Pt),l[k]?=some p∧p.id=id
 ·exact Or.inl h
 ·refine Or.inr ⟨fun p hp e=>?_,?_⟩
  ·obtain⟨k,hk,rfl⟩:=List.getElem_of_mem hp
   exact h ⟨k,_,List.getElem?_eq_getElem hk,e⟩
  ·rcases qaI (fun k=>∀ p,l[k]?=some p→p.id<id) l.length with hh | ⟨j,hj,hn,hb⟩
   ·exact⟨l.length,Nat.le_refl _,fun t p ht hp=>hh t ht p hp,fun t p ht hp=>by have:=qas hp;omega⟩
   ·refine⟨j,by omega,fun t p ht hp=>hb t ht p hp,fun t p ht hp=>?_⟩
    simp only[Classical.not_forall,not_imp] at hn
    obtain⟨q,hq,hlt⟩:=hn
    have hne:q.id≠id:=fun e=>h ⟨j,q,hq,e⟩
    rcases Nat.lt_or_ge j t with h' | h'
    ·have:=hv.up.mono h' hq hp;omega
    ·have:t=j:=by omega
     subst this
     rw[hq] at hp
     cases hp
     omega
abbrev atT (id:Int) (k:Nat):List (Nat×SV):=[(1,.pv (iV id)),(2,.pp 1 0),(5,.pv (iV (k:Int)))]
theorem qq9 {l:List Pt} (hn:l.length≤64) {id:Int} (h:∀ p∈l,p.id≠id):Fn 58 1 [qaD 0 l,.pv (iV id)] [(0,0,qai l)] (.pv (iV (-1))) 0 []:=
 qqY (RunsL.rounds (atT id) (fun _=>[(1,0,.ls 0 l.length),(0,0,qai l)]) l.length 0 (Nat.zero_add _)
  (fun k _ hk r=>by
   obtain⟨p,hp⟩:=qap hk
   exact qhX hp (qao hk) (dt (by omega)) (by simpa using h p (List.mem_of_getElem? hp)) (qj4 hk hn) r)
  (qqo (df (by omega))))
theorem qeR {l:List Pt} (hv:Val l) {id:Int} {k:Nat} {p:Pt} (hk:l[k]?=some p) (he:p.id=id):Fn 58 1 [qaD 0 l,.pv (iV id)] [(0,0,qai l)] (.pv (iV (k:Int))) 0 []:=by
 refine qp0 (RunsL.rounds (atT id) (fun _=>[(1,0,.ls 0 l.length),(0,0,qai l)]) k 0 (Nat.zero_add _) (fun j _ hj r=>?_) (qo5 hk (qao (qas hk)) (dt (by have:=qas hk;omega)) (by simpa using he)))
 have hl:=qas hk
 obtain⟨q,hq⟩:=qap (l:=l) (k:=j) (by omega)
 exact qhX hq (qao (qas hq)) (dt (by omega)) (by have:=hv.up.mono hj hq hk;simp;omega) (qj4 (qas hq) hv.len) r
end Go.Proofs.Ytgbmdijodlfcaaa

namespace Go.Proofs.Ytgbmdijodlfcaaa
set_option maxRecDepth 100000
open Go.RowKit
theorem qin (l:List Pt):(¬ (l.length≤16∨64≤l.length∧l.length≤70)∧Fn 19 1 [qaD 0 l] [(0,0,qai l)] (.pv (.bool true)) 0 [])∨
 ((l.length≤16∨64≤l.length∧l.length≤70)∧Fn 19 1 [qaD 0 l] [(0,0,qai l)] (.pv (.bool false)) 0 []):=by
 by_cases h1:l.length>16
 ·by_cases h2:l.length<64
  ·exact Or.inl ⟨by omega,qmM (dt (by omega)) (dt (by omega))⟩
  ·by_cases h3:l.length>70
   ·exact Or.inl ⟨by omega,qkh (dt (by omega)) (df (by omega)) (dt (by omega))⟩
   ·exact Or.inr ⟨by omega,qlt (dt (by omega)) (df (by omega)) (df (by omega))⟩
 ·exact Or.inr ⟨by omega,qnM (df (by omega)) (df (by omega))⟩
abbrev qsv (f:FuncId) (l:List Pt) (id:Int) (p:Pt) (e:Int):Prop:=Fn f 1 [qaD 0 l,.pv (iV id)] [(0,0,qai l)] (.pv (.tuple #[ptV p,iV e])) 0 []
abbrev woT (id:Int) (k:Nat):List (Nat×SV):=[(1,.pv (iV id)),(2,.pp 1 0),(4,.pp 2 0),(5,.pp 3 0),(6,.pv (iV (k:Int)))]
abbrev woH (l m:List Pt):List (Nat×Nat×SV):=[(1,0,.ls 0 l.length),(0,0,qai l),(3,0,.ls 4 m.length),(4,0,qai m),(2,0,.pv (.slice none 0 0))]
theorem qdC {α:Type} {l:List α} {k:Nat} {p:α} (h:l[k]?=some p):l.take (k+1)=l.take k++[p]:=by rw[List.take_add_one,h];rfl
theorem qpG {l:List Pt} (hv:Val l) {k:Nat} {p:Pt} (hk:l[k]?=some p):(l.filter fun q=>decide (q.id≠p.id))=l.take k++l.drop (k+1):=by
 have hl:=qas hk
 have e:l=l.take k++p::l.drop (k+1):=by
  conv=>lhs;rw[← List.take_append_drop k l]
  rw[List.drop_eq_getElem_cons hl]
  have:l[k]=p:=by rw[List.getElem?_eq_getElem hl] at hk;exact Option.some.inj hk
  rw[this]
 conv=>lhs;rw[e]
 rw[List.filter_append,List.filter_cons_of_neg (by simp)]
 congr 1
 ·refine List.filter_eq_self.2 fun q hq=>?_
  obtain⟨j,hj,rfl⟩:=List.getElem_of_mem hq
  have hjk:j<k:=by rw[List.length_take] at hj;omega
  have h2:l[j]?=some ((l.take k)[j]):=by rw[List.getElem_take];exact List.getElem?_eq_getElem _
  have:=hv.up.mono hjk h2 hk
  exact decide_eq_true (fun e=>by omega)
 ·refine List.filter_eq_self.2 fun q hq=>?_
  obtain⟨j,hj,rfl⟩:=List.getElem_of_mem hq
  have h2:l[k+1+j]?=some ((l.drop (k+1))[j]):=by rw[List.getElem_drop];exact List.getElem?_eq_getElem _
  have:=hv.up.mono (show k<k+1+j by omega) hk h2
  exact decide_eq_true (fun e=>by omega)
abbrev qsR (f:FuncId) (l:List Pt) (x:Value) (e:Int):Prop:=Fn f 1 [qaD 0 l,.pv x] [(0,0,qai l)] (.pv (.tuple #[.agg #[.slice none 0 0],iV e])) 0 []
abbrev qsk (f:FuncId) (l:List Pt) (x:Value) (m:List Pt):Prop:=Fn f 1 [qaD 0 l,.pv x] [(0,0,qai l)] (.tu [.ag [.ls 1 m.length],.one (.pv (iV 0))]) 1 [(1,0,qai m)]
theorem qqE {a b c:Int} (h:a+b=c) (h0:0≤c) (h1:c≤1000000):iV (IntKind.i64.wrap (a+b))=iV c:=by rw[h,qaQ (by omega) (by omega)]
theorem qst {l:List Pt} {k:Nat} (h:k<l.length) (p:Pt):l.set k p=l.take k++p::l.drop (k+1):=by rw[List.set_eq_take_append_cons_drop,if_pos h]
abbrev puT (b:Bool) (k:Nat):List (Nat×SV):=[(2,.pp 1 0),(3,.pp 2 0),(4,.pp 3 0),(7,.pp 4 0),(8,.pv (.bool b)),(9,.pv (iV (k:Int)))]
abbrev puH (l m:List Pt) (pi pa pb:Int):List (Nat×Nat×SV):=[(1,0,.ls 0 l.length),(0,0,qai l),(2,0,.pv (iV pi)),(2,1,.pv (iV pa)),(2,2,.pv (iV pb)),(3,0,.pv (.slice none 0 0)),(4,0,.ls 5 m.length),(5,0,qai m)]
abbrev saT (k:Nat):List (Nat×SV):=[(2,.pp 2 0),(3,.pp 3 0),(5,.pv (iV (k:Int)))]
end Go.Proofs.Ytgbmdijodlfcaaa

namespace Go.Proofs.Ytgbmdijodlfcaaa
set_option maxRecDepth 100000
open Go.RowKit
def ld (tn td:Int) (p q:Pt):Bool:=qbS (p.a*td+p.b*tn) (q.a*td+q.b*tn) p.b q.b p.id q.id
theorem qd1 {P Q pb qb pi qi:Int}:qbS P Q pb qb pi qi=true↔(P>Q∨P=Q∧(pb>qb∨pb=qb∧pi<qi)):=by unfold qbS;exact decide_eq_true_iff
theorem qcj {P Q pb qb pi qi:Int}:qbS P Q pb qb pi qi=false↔¬ (P>Q∨P=Q∧(pb>qb∨pb=qb∧pi<qi)):=by unfold qbS;exact decide_eq_false_iff_not
section
variable {tn td:Int} {p q r:Pt}
theorem ql2 (p:Pt):ld tn td p p=false:=qcj.2 (by omega)
theorem qgX (h:ld tn td p q=true) (k:ld tn td q r=true):ld tn td p r=true:=by
 unfold ld at *
 generalize p.a*td+p.b*tn=P at *
 generalize q.a*td+q.b*tn=Q at *
 generalize r.a*td+r.b*tn=R at *
 rw[qd1] at *
 omega
theorem qmR (h:ld tn td p q=true):ld tn td q p=false:=by
 cases hh:ld tn td q p
 ·rfl
 ·have:=qgX h hh;rw[ql2] at this;cases this
end
def rk (tn td:Int) (l:List Pt) (p:Pt):Nat:=l.countP fun q=>ld tn td q p
theorem qlT {tn td:Int}:∀ (s:List Pt) (k:Nat) (p:Pt),s.Pairwise (fun p q=>ld tn td p q=true)→s[k]?=some p→rk tn td s p=k
 | [],_,_,_,h=>by simp at h
 | a::r,0,p,hp,h=>by
  simp only[List.getElem?_cons_zero,Option.some.injEq] at h
  subst h
  rw[List.pairwise_cons] at hp
  unfold rk
  rw[List.countP_eq_zero]
  intro q hq
  rcases List.mem_cons.1 hq with rfl | hq
  ·rw[ql2];decide
  ·rw[qmR (hp.1 q hq)];decide
 | a::r,k+1,p,hp,h=>by
  rw[List.getElem?_cons_succ] at h
  rw[List.pairwise_cons] at hp
  have:=qlT r k p hp.2 h
  unfold rk at this ⊢
  rw[List.countP_cons,this,if_pos (hp.1 p (List.mem_of_getElem? h))]
structure Srt (l:List Pt) (tn td:Int) (s:List Pt):Prop where
 perm:s.Perm l
 pw:s.Pairwise (fun p q=>ld tn td p q=true)
theorem Srt.len {l s:List Pt} {tn td:Int} (h:Srt l tn td s):s.length=l.length:=h.perm.length_eq
theorem Srt.rank {l s:List Pt} {tn td:Int} (h:Srt l tn td s) {k:Nat} {p:Pt} (hk:s[k]?=some p):rk tn td l p=k:=by
 have:=qlT s k p h.pw hk
 unfold rk at this ⊢
 rw[← h.perm.countP_eq];exact this
theorem Srt.at {l s:List Pt} {tn td:Int} (h:Srt l tn td s) {p:Pt} (hp:p∈l):s[rk tn td l p]?=some p:=by
 obtain⟨k,hk,e⟩:=List.getElem_of_mem (h.perm.mem_iff.2 hp)
 have hk':s[k]?=some p:=by rw[List.getElem?_eq_getElem hk,e]
 rw[h.rank hk'];exact hk'
theorem Srt.lt {l s:List Pt} {tn td:Int} (h:Srt l tn td s) {p:Pt} (hp:p∈l):rk tn td l p<l.length:=by rw[← h.len];exact qas (h.at hp)
end Go.Proofs.Ytgbmdijodlfcaaa

namespace Go.Proofs.Ytgbmdijodlfcaaa
set_option maxRecDepth 100000
open Go.RowKit
structure Tm (tn td:Int):Prop where
 hn:I64 tn
 hd:I64 td
 ok:okB tn td=true
noncomputable def tE (l:List Pt) (tn td:Int):Int:=if qeK l=0 then (if okB tn td=true then 0 else 8) else qeK l
theorem qjo {tn td:Int} (hn:I64 tn) (hd:I64 td) (l:List Pt):Fn 29 1 [qaD 0 l,.pv (qad tn td)] [(0,0,qai l)] (.pv (iV (tE l tn td))) 0 []:=by
 unfold tE
 by_cases h0:qeK l=0
 ·have c1:=qdL l
  rw[h0] at c1
  rw[if_pos h0]
  by_cases hp:okB tn td=true
  ·rw[if_pos hp];exact ql0 c1 (qiK hn hd hp)
  ·rw[if_neg hp];exact ql0 c1 (qhx hn hd hp)
 ·rw[if_neg h0]
  exact qnX (qdL l) (by simp[h0])
section
variable {l:List Pt} {tn td:Int}
end
end Go.Proofs.Ytgbmdijodlfcaaa

namespace Go.Proofs.Ytgbmdijodlfcaaa
set_option maxRecDepth 100000
open Go.RowKit
def qsI (a b:Int):Bool:=decide (0≤a∧a≤65535∧0≤b∧b≤65535∧a≠b)
def Dis (l:List Pt):Prop:=∀ (i k:Nat) (p q:Pt),i<k→l[i]?=some p→l[k]?=some q→¬ (p.a=q.a∧p.b=q.b)
structure V8 (x:Int) (l:List Pt):Prop where
 len:l.length≤200
 ok:∀ p∈l,qsI p.a p.b=true
 up:Up l
 lo:∀ p∈l,0≤p.id
 hi:∀ p∈l,p.id<x
 nx:0≤x∧x≤1000000
 dis:Dis l
def qoo (l:List Pt):List (Value×Value):=l.map fun p=>(iV p.id,ptV p)
abbrev byV (l:List Pt):List Value:=kvL (qoo l)
theorem qip (a:Int):MapK Try.prog 77 3 68 (iV a) (fun x=>∃ b,x=iV b) (qaa 0 0 0):=
 qh5 (by kernel_rfl) Try.underlying3 (fun w=>qc2 (by kernel_rfl) w) a
theorem qsc (l:List Pt):∀ p∈qoo l,∃ b,p.1=iV b:=fun p hp=>by
 obtain⟨q,_,rfl⟩:=List.mem_map.1 hp
 exact⟨q.id,rfl⟩
theorem qdl {a b:Int} (h:iV a=iV b):a=b:=by injection h
theorem qqZ {l:List Pt} {a:Int} (h:∀ q∈l,q.id≠a) (ok:Bool):qaU Try.prog 77 (byV l) (iV a) ok (if ok=true then .tuple #[qaa 0 0 0,.bool false] else qaa 0 0 0):=
 qiR (qip a) (qsc l) (fun q hq e=>by
  obtain⟨r,hr,rfl⟩:=List.mem_map.1 hq
  exact h r hr (qdl e)) ok
theorem qoD {l:List Pt} {p:Pt} (hp:p∈l) (hu:∀ q∈l,q.id=p.id→q=p) (ok:Bool):qaU Try.prog 77 (byV l) (iV p.id) ok (if ok=true then .tuple #[ptV p,.bool true] else ptV p):=
 qgu (v:=ptV p) (qip p.id) (qsc l) (List.mem_map.2 ⟨p,hp,rfl⟩) (fun r hr e=>by
  obtain⟨s,hs,rfl⟩:=List.mem_map.1 hr
  rw[hu s hs (qdl e)]) ok
theorem qoX {l:List Pt} {p:Pt} (h:∀ q∈l,q.id≠p.id):qdG Try.prog 77 (byV l) (iV p.id) (ptV p) (byV (l++[p])):=by
 have:=qjQ (qip p.id) (qsc l) (fun q hq e=>by
  obtain⟨r,hr,rfl⟩:=List.mem_map.1 hq
  exact h r hr (qdl e)) (ptV p)
 show qdG _ _ _ _ _ (kvL (qoo (l++[p])))
 rw[show qoo (l++[p])=qoo l++[(iV p.id,ptV p)] by simp[qoo]]
 exact this
end Go.Proofs.Ytgbmdijodlfcaaa

namespace Go.Proofs.Ytgbmdijodlfcaaa
set_option maxRecDepth 100000
open Go.RowKit
def lst (m:List Pt):Int:=match m.getLast? with
 | none=>-1
 | some p=>p.id
theorem qiX:lst [] = -1:=rfl
theorem qgE (m:List Pt) (p:Pt):lst (m++[p])=p.id:=by simp[lst]
def Inc (l:List Pt):Prop:=∀ (k:Nat) (p:Pt),l[k]?=some p→lst (l.take k)<p.id
theorem Inc.up {l:List Pt} (h:Inc l):Up l:=fun k p q hp hq=>by
 have:=h (k+1) q hq
 rw[qdC hp,qgE] at this
 exact this
theorem Inc.lo {l:List Pt} (h:Inc l):∀ p∈l,0≤p.id:=by
 have key:∀ (k:Nat) (p:Pt),l[k]?=some p→0≤p.id:=by
  intro k
  induction k with
  | zero=>intro p hp;have:=h 0 p hp;rw[List.take_zero,qiX] at this;omega
  | succ k ih=>
   intro p hp
   obtain⟨q,hq⟩:=qap (l:=l) (k:=k) (by have:=qas hp;omega)
   have:=ih q hq
   have:=h.up k q p hq hp
   omega
 intro p hp
 obtain⟨k,hk,rfl⟩:=List.getElem_of_mem hp
 exact key k _ (List.getElem?_eq_getElem hk)
theorem Inc.lt {l:List Pt} (h:Inc l) {x:Int}:lst l<x↔(∀ p∈l,p.id<x)∧0≤x:=by
 have hup:=h.up
 have hlo:=h.lo
 rcases List.eq_nil_or_concat l with rfl | ⟨m,q,rfl⟩
 ·rw[qiX];exact⟨fun h=>⟨fun p hp=>by simp at hp,by omega⟩,fun h=>by omega⟩
 ·rw[List.concat_eq_append,qgE]
  rw[List.concat_eq_append] at hup hlo
  refine⟨fun hx=>⟨fun p hp=>?_,by have:=hlo q (by simp);omega⟩,fun hx=>hx.1 q (by simp)⟩
  obtain⟨k,hk,rfl⟩:=List.getElem_of_mem hp
  rcases Nat.lt_or_ge k m.length with h1 | h1
  ·have:=hup.mono h1 (List.getElem?_eq_getElem hk) (show (m++[q])[m.length]?=some q by simp)
   omega
  ·have hkm:k=m.length:=by simp at hk;omega
   subst hkm
   simpa using hx
theorem qks {l:List Pt} {k:Nat} {q:Pt} (h:q∈l.take k):∃ i,i<k∧l[i]?=some q:=by
 obtain⟨i,hi,rfl⟩:=List.getElem_of_mem h
 have hi':i<k∧i<l.length:=by simp at hi;omega
 exact⟨i,hi'.1,by rw[List.getElem_take];exact List.getElem?_eq_getElem hi'.2⟩
end Go.Proofs.Ytgbmdijodlfcaaa

namespace Go.Proofs.Ytgbmdijodlfcaaa
set_option maxRecDepth 100000
open Go.RowKit
theorem qqi {l:List Pt} (hu:Up l) {i j:Nat} {p q:Pt} (hp:l[i]?=some p) (hq:l[j]?=some q) (h:p.id=q.id):i=j∧p=q:=by
 rcases Nat.lt_trichotomy i j with e | e | e
 ·have:=hu.mono e hp hq;omega
 ·subst e;rw[hp] at hq;cases hq;exact⟨rfl,rfl⟩
 ·have:=hu.mono e hq hp;omega
noncomputable def qss (l:List Pt) (a b:Int):Bool:=open Classical in decide (∃ p∈l,p.a=a∧p.b=b)
theorem qqN {l:List Pt} {a b:Int}:qss l a b=true↔∃ p∈l,p.a=a∧p.b=b:=by unfold qss;exact decide_eq_true_iff
end Go.Proofs.Ytgbmdijodlfcaaa

namespace Go.Proofs.Ytgbmdijodlfcaaa
set_option maxRecDepth 100000
open Go.RowKit
def names (n:Int) (p:Pt):Bool:=decide (p.a=n∨p.b=n)
theorem qjk {s:List Pt} (hs:Val s) {p q:Pt} (hp:p∈s) (hq:q∈s) (h:p.id=q.id):p=q:=by
 obtain⟨i,hi,rfl⟩:=List.getElem_of_mem hp
 obtain⟨j,hj,rfl⟩:=List.getElem_of_mem hq
 exact (qqi hs.up (List.getElem?_eq_getElem hi) (List.getElem?_eq_getElem hj) h).2
theorem qh0 {s:List Pt} (hs:Val s) {q:Pt} (hq:q∈s) {i:Int} (h:q.id=i) (ok:Bool):qaU Try.prog 77 (byV s) (iV i) ok (if ok=true then .tuple #[ptV q,.bool true] else ptV q):=by
 subst h
 exact qoD hq (fun r hr e=>qjk hs hr hq e) ok
theorem qlZ {s:List Pt} {i:Int} (h:¬ ∃ q∈s,q.id=i):qaU Try.prog 77 (byV s) (iV i) true (.tuple #[qaa 0 0 0,.bool false]):=qqZ (fun q hq e=>h ⟨q,hq,e⟩) true
section
variable {tn td:Int} (htn:I64 tn) (htd:I64 td)
end
end Go.Proofs.Ytgbmdijodlfcaaa
