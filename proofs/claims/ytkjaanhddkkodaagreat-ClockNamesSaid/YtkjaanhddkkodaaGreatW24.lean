/-
  Joined: Fm, Fn, Fr, Fs, Ka, Kh2, Ke. Conditions: none.
-/
import Derived.Test.YtkjaanhddkkodaaGreatW23
import Derived.Test.YtkjaanhddkkodaaGreatW18
import Derived.Test.YtkjaanhddkkodaaGreatW19
namespace Go.Proofs.YtkjaanhddkkodaaGreat
set_option maxRecDepth 100000
open Go.RowKit
def qhC (p:Pt):Bool:=okP p.id p.a p.b
def Up (l:List Pt):Prop:=∀ (k:Nat) (p q:Pt),l[k]?=some p→l[k+1]?=some q→p.id<q.id
noncomputable def qez (l:List Pt):Int:=open Classical in if 64<l.length then 4 else if ∀ p∈l,qhC p=true then (if Up l then 0 else 32) else 8
theorem qaY (P:Nat→Prop):∀ (N:Nat),(∀ k,k<N→P k)∨∃ j,j<N∧¬ P j∧∀ i,i<j→P i
 | 0=>Or.inl fun k hk=>by omega
 | N+1=>by
  rcases qaY P N with h | ⟨j,h1,h2⟩
  ·by_cases hN:P N
   ·exact Or.inl fun k hk=>by
     rcases Nat.lt_or_ge k N with h' | h'
     ·exact h k h'
     ·have:k=N:=by omega
      subst this;exact hN
   ·exact Or.inr ⟨N,by omega,hN,h⟩
  ·exact Or.inr ⟨j,by omega,h2⟩
theorem qai {α:Type} {l:List α} {k:Nat} (h:k<l.length):∃ p,l[k]?=some p:=⟨l[k],List.getElem?_eq_getElem h⟩
theorem qak {α:Type} {l:List α} {k:Nat} {p:α} (h:l[k]?=some p):k<l.length:=(List.getElem?_eq_some_iff.1 h).1
theorem qap {k n:Nat} (h:k<n):0≤(k:Int)∧(k:Int)<(n:Int):=⟨by omega,by omega⟩
theorem Up.mono {l:List Pt} (h:Up l):∀ {i j:Nat} {p q:Pt},i<j→l[i]?=some p→l[j]?=some q→p.id<q.id:=by
 intro i j
 induction j with
 | zero=>intro p q hij;omega
 | succ j ih=>
  intro p q hij hp hq
  by_cases e:i=j
  ·subst e;exact h i p q hp hq
  ·obtain⟨r,hr⟩:=qai (l:=l) (k:=j) (by have:=qak hq;omega)
   exact Int.lt_trans (ih (by omega) hp hr) (h j r q hr hq)
theorem qoG {k n:Nat} (h:k<n) (hn:n≤64):iV (IntKind.i64.wrap ((k:Int)+1))=iV ((k+1:Nat):Int):=qay (by omega)
theorem qjT {l:List Pt} (hn:l.length≤64) (h:∀ p∈l,qhC p=true):Rl 1 1 44 0 44 2 [(1,.pp 1 0),(3,.pv (iV ((0:Nat):Int)))] [(1,0,.ls 0 l.length),(0,0,qaj l)] (.exit 0) [(1,.pp 1 0)] [(1,0,.ls 0 l.length),(0,0,qaj l)]:=
 RunsL.rounds (fun k=>[(1,.pp 1 0),(3,.pv (iV (k:Int)))]) (fun _=>[(1,0,.ls 0 l.length),(0,0,qaj l)]) l.length 0 (Nat.zero_add _)
  (fun k _ hk r=>by
   obtain⟨p,hp⟩:=qai hk
   exact qjZ hp (qap hk) (dt (by omega)) (qff (h p (List.mem_of_getElem? hp))) (qoG hk hn) r)
  (qvl (df (by omega)))
theorem qg9 {l:List Pt} (hn:l.length≤64) {j:Nat} {p:Pt} (hp:l[j]?=some p) (hb:¬ qhC p=true) (h:∀ i,i<j→∀ q,l[i]?=some q→qhC q=true):Rl 1 1 44 0 44 2 [(1,.pp 1 0),(3,.pv (iV ((0:Nat):Int)))] [(1,0,.ls 0 l.length),(0,0,qaj l)] .ret [(2,.pv (iV 8))] []:=by
 have hj:=qak hp
 refine RunsL.rounds (fun k=>[(1,.pp 1 0),(3,.pv (iV (k:Int)))]) (fun _=>[(1,0,.ls 0 l.length),(0,0,qaj l)]) j 0 (Nat.zero_add _) (fun k _ hk r=>?_) (qu7 hp (qap hj) (dt (by omega)) (qhR hb))
 obtain⟨q,hq⟩:=qai (l:=l) (k:=k) (by omega)
 exact qjZ hq (qap (qak hq)) (dt (by omega)) (qff (h k hk q hq)) (qoG (qak hq) hn) r
theorem qbQ (k:Nat) (h:k≤1000000):iV (IntKind.i64.wrap (((k+1:Nat):Int)-1))=iV (k:Int):=by rw[show ((k+1:Nat):Int)-1=(k:Int) by omega,qaq (by omega) (by omega)]
theorem qq9 {l:List Pt} (hn:l.length≤64) (h:Up l):Rl 1 1 44 1 44 2 [(1,.pp 1 0),(4,.pv (iV ((0+1:Nat):Int)))] [(1,0,.ls 0 l.length),(0,0,qaj l)] (.exit 2) [] []:=by
 by_cases h0:l.length=0
 ·exact qnT (k:=0+1) (df (by omega))
 refine RunsL.rounds (fun k=>[(1,.pp 1 0),(4,.pv (iV (k:Int)))]) (fun _=>[(1,0,.ls 0 l.length),(0,0,qaj l)]) (N:=l.length) (l.length-1) (0+1) (by omega) (fun k h1 hk r=>?_) (qnT (df (by omega)))
 obtain⟨m,rfl⟩:∃ m,k=m+1:=⟨k-1,by omega⟩
 obtain⟨q,hq⟩:=qai (l:=l) (k:=m) (by omega)
 obtain⟨p,hp⟩:=qai hk
 exact qjw hq hp (qap (by omega)) (qap hk) (dt (by omega)) (qbQ m (by omega)) (df (by have:=h m q p hq hp;omega)) (qoG hk hn) r
theorem qhr {l:List Pt} (hn:l.length≤64) {j:Nat} {p q:Pt} (hq:l[j]?=some q) (hp:l[j+1]?=some p) (hb:¬ q.id<p.id) (h:∀ i,i<j→∀ p q,l[i]?=some p→l[i+1]?=some q→p.id<q.id):Rl 1 1 44 1 44 2 [(1,.pp 1 0),(4,.pv (iV ((0+1:Nat):Int)))] [(1,0,.ls 0 l.length),(0,0,qaj l)] .ret [(2,.pv (iV 32))] []:=by
 have hj:=qak hp
 refine RunsL.rounds (fun k=>[(1,.pp 1 0),(4,.pv (iV (k:Int)))]) (fun _=>[(1,0,.ls 0 l.length),(0,0,qaj l)]) (N:=j+1) j (0+1) (by omega) (fun k h1 hk r=>?_) (quX hq hp (qap (by omega)) (qap hj) (dt (by omega)) (qbQ j (by omega)) (dt (by omega)))
 obtain⟨m,rfl⟩:∃ m,k=m+1:=⟨k-1,by omega⟩
 obtain⟨q',hq'⟩:=qai (l:=l) (k:=m) (by omega)
 obtain⟨p',hp'⟩:=qai (l:=l) (k:=m+1) (by omega)
 exact qjw hq' hp' (qap (by omega)) (qap (by omega)) (dt (by omega)) (qbQ m (by omega)) (df (by have:=h m (by omega) q' p' hq' hp';omega)) (qoG (n:=l.length) (by omega) hn) r
theorem qfq (l:List Pt):(64<l.length∧qez l=4)∨(l.length≤64∧(∃ (j:Nat) (p:Pt),l[j]?=some p∧¬ qhC p=true∧∀ i,i<j→∀ q,l[i]?=some q→qhC q=true)∧qez l=8)∨
 (l.length≤64∧(∀ p∈l,qhC p=true)∧(∃ (j:Nat) (p q:Pt),l[j]?=some q∧l[j+1]?=some p∧¬ q.id<p.id∧∀ i,i<j→∀ p q,l[i]?=some p→l[i+1]?=some q→p.id<q.id)∧qez l=32)∨
 (l.length≤64∧(∀ p∈l,qhC p=true)∧Up l∧qez l=0):=by
 by_cases h0:64<l.length
 ·exact Or.inl ⟨h0,by unfold qez;rw[if_pos h0]⟩
 refine Or.inr ?_
 by_cases h1:∀ p∈l,qhC p=true
 ·refine Or.inr ?_
  by_cases h2:Up l
  ·exact Or.inr ⟨by omega,h1,h2,by unfold qez;rw[if_neg h0,if_pos h1,if_pos h2]⟩
  ·refine Or.inl ⟨by omega,h1,?_,by unfold qez;rw[if_neg h0,if_pos h1,if_neg h2]⟩
   rcases qaY (fun k=>∀ p q,l[k]?=some p→l[k+1]?=some q→p.id<q.id) l.length with h | ⟨j,hj,hn,hb⟩
   ·exact (h2 fun k p q hp hq=>h k (qak hp) p q hp hq).elim
   ·simp only[Classical.not_forall,not_imp] at hn
    obtain⟨p,q,hp,hq,hpq⟩:=hn
    exact⟨j,q,p,hp,hq,hpq,hb⟩
 ·refine Or.inl ⟨by omega,?_,by unfold qez;rw[if_neg h0,if_neg h1]⟩
  rcases qaY (fun k=>∀ q,l[k]?=some q→qhC q=true) l.length with h | ⟨j,hj,hn,hb⟩
  ·exact (h1 fun p hp=>by obtain⟨k,hk,rfl⟩:=List.getElem_of_mem hp;exact h k hk _ (List.getElem?_eq_getElem hk)).elim
  ·simp only[Classical.not_forall,not_imp] at hn
   obtain⟨p,hp,hpq⟩:=hn
   exact⟨j,p,hp,hpq,hb⟩
abbrev fl (l:List Pt):List (Nat×Nat×SV):=[(0,0,qaj l)]
theorem qku (l:List Pt):Fn 44 1 [qaE 0 l] [(0,0,qaj l)] (.pv (iV (qez l))) 0 []:=by
 rcases qfq l with ⟨h,e⟩ | ⟨h,⟨j,p,hp,hb,hf⟩,e⟩ | ⟨h,h1,⟨j,p,q,hq,hp,hb,hf⟩,e⟩ | ⟨h,h1,h2,e⟩<;>rw[e]
 ·exact qtk (dt (by omega))
 ·exact qxx (df (by omega)) (qg9 h hp hb hf)
 ·exact qA9 (df (by omega)) (qjT h h1) (qhr h hq hp hb hf)
 ·exact qD1 (df (by omega)) (qjT h h1) (qq9 h h2)
abbrev pcT (l:List Pt) (k:Nat):List (Nat×SV):=[(1,.pp 1 0),(12,.ls 0 l.length),(13,.pv (iV (l.length:Int))),(14,.pv (iV (k:Int)))]
theorem qkb {l:List Pt} (hn:l.length≤64) (h:∀ p∈l,qhC p=true):Rl 1 1 48 0 45 2 (pcT l 0) [(1,0,.ls 0 l.length),(0,0,qaj l)] (.exit 0) [(1,.pp 1 0)] [(1,0,.ls 0 l.length),(0,0,qaj l)]:=
 RunsL.rounds (pcT l) (fun _=>[(1,0,.ls 0 l.length),(0,0,qaj l)]) l.length 0 (Nat.zero_add _)
  (fun k _ hk r=>by
   obtain⟨p,hp⟩:=qai hk
   exact qjE hp (qap hk) (dt (by omega)) (qc2 (h p (List.mem_of_getElem? hp))) (qoG hk hn) r)
  (qsx (df (by omega)))
theorem qhV {l:List Pt} (hn:l.length≤64) {j:Nat} {p:Pt} (hp:l[j]?=some p) (hb:¬ qhC p=true) (h:∀ i,i<j→∀ q,l[i]?=some q→qhC q=true):Rl 1 1 48 0 45 2 (pcT l 0) [(1,0,.ls 0 l.length),(0,0,qaj l)] .ret [(2,.pv (iV 8))] []:=by
 have hj:=qak hp
 refine RunsL.rounds (pcT l) (fun _=>[(1,0,.ls 0 l.length),(0,0,qaj l)]) j 0 (Nat.zero_add _) (fun k _ hk r=>?_) (qvz hp (qap hj) (dt (by omega)) (qiI hb))
 obtain⟨q,hq⟩:=qai (l:=l) (k:=k) (by omega)
 exact qjE hq (qap (qak hq)) (dt (by omega)) (qc2 (h k hk q hq)) (qoG (qak hq) hn) r
theorem qqA {l:List Pt} (hn:l.length≤64) (h:Up l):Rl 1 1 48 1 45 2 [(1,.pp 1 0),(6,.pv (iV ((0+1:Nat):Int)))] [(1,0,.ls 0 l.length),(0,0,qaj l)] (.exit 2) [] []:=by
 by_cases h0:l.length=0
 ·exact qmI (k:=0+1) (df (by omega))
 refine RunsL.rounds (fun k=>[(1,.pp 1 0),(6,.pv (iV (k:Int)))]) (fun _=>[(1,0,.ls 0 l.length),(0,0,qaj l)]) (N:=l.length) (l.length-1) (0+1) (by omega) (fun k h1 hk r=>?_) (qmI (df (by omega)))
 obtain⟨m,rfl⟩:∃ m,k=m+1:=⟨k-1,by omega⟩
 obtain⟨q,hq⟩:=qai (l:=l) (k:=m) (by omega)
 obtain⟨p,hp⟩:=qai hk
 exact qjG hq hp (qap (by omega)) (qap hk) (dt (by omega)) (qbQ m (by omega)) (df (by have:=h m q p hq hp;omega)) (qoG hk hn) r
theorem qhd {l:List Pt} (hn:l.length≤64) {j:Nat} {p q:Pt} (hq:l[j]?=some q) (hp:l[j+1]?=some p) (hb:¬ q.id<p.id) (h:∀ i,i<j→∀ p q,l[i]?=some p→l[i+1]?=some q→p.id<q.id):Rl 1 1 48 1 45 2 [(1,.pp 1 0),(6,.pv (iV ((0+1:Nat):Int)))] [(1,0,.ls 0 l.length),(0,0,qaj l)] .ret [(2,.pv (iV 32))] []:=by
 have hj:=qak hp
 refine RunsL.rounds (fun k=>[(1,.pp 1 0),(6,.pv (iV (k:Int)))]) (fun _=>[(1,0,.ls 0 l.length),(0,0,qaj l)]) (N:=j+1) j (0+1) (by omega) (fun k h1 hk r=>?_) (qvq hq hp (qap (by omega)) (qap hj) (dt (by omega)) (qbQ j (by omega)) (dt (by omega)))
 obtain⟨m,rfl⟩:∃ m,k=m+1:=⟨k-1,by omega⟩
 obtain⟨q',hq'⟩:=qai (l:=l) (k:=m) (by omega)
 obtain⟨p',hp'⟩:=qai (l:=l) (k:=m+1) (by omega)
 exact qjG hq' hp' (qap (by omega)) (qap (by omega)) (dt (by omega)) (qbQ m (by omega)) (df (by have:=h m (by omega) q' p' hq' hp';omega)) (qoG (n:=l.length) (by omega) hn) r
theorem qd3 (l:List Pt):Fn 48 1 [qaE 0 l] [(0,0,qaj l)] (.pv (iV (qez l))) 0 []:=by
 rcases qfq l with ⟨h,e⟩ | ⟨h,⟨j,p,hp,hb,hf⟩,e⟩ | ⟨h,h1,⟨j,p,q,hq,hp,hb,hf⟩,e⟩ | ⟨h,h1,h2,e⟩<;>rw[e]
 ·exact qtl (dt (by omega))
 ·exact qw9 (df (by omega)) (qhV h hp hb hf)
 ·exact qyi (df (by omega)) (qkb h h1) (qhd h hq hp hb hf)
 ·exact qB2 (df (by omega)) (qkb h h1) (qqA h h2)
structure Val (l:List Pt):Prop where
 len:l.length≤64
 ok:∀ p∈l,qhC p=true
 up:Up l
theorem qbZ {l:List Pt}:qez l=0↔Val l:=by
 rcases qfq l with ⟨h,e⟩ | ⟨h,⟨j,p,hp,hb,hf⟩,e⟩ | ⟨h,h1,⟨j,p,q,hq,hp,hb,hf⟩,e⟩ | ⟨h,h1,h2,e⟩<;>rw[e]
 ·exact⟨fun h=>by omega,fun v=>by have:=v.len;omega⟩
 ·exact⟨fun h=>by omega,fun v=>(hb (v.ok p (List.mem_of_getElem? hp))).elim⟩
 ·exact⟨fun h=>by omega,fun v=>(hb (v.up j q p hq hp)).elim⟩
 ·exact⟨fun _=>⟨h,h1,h2⟩,fun _=>rfl⟩
theorem place (l:List Pt) (hv:Val l) (id:Int):(∃ (k:Nat) (p:Pt),l[k]?=some p∧p.id=id)∨((∀ p∈l,p.id≠id)∧∃ k,k≤l.length∧(∀ (t:Nat) (p:Pt),t<k→l[t]?=some p→p.id<id)∧∀ (t:Nat) (p:Pt),k≤t→l[t]?=some p→id<p.id):=by
 by_cases h:∃ (k:Nat) (p:Pt),l[k]?=some p∧p.id=id
 ·exact Or.inl h
 ·refine Or.inr ⟨fun p hp e=>?_,?_⟩
  ·obtain⟨k,hk,rfl⟩:=List.getElem_of_mem hp
   exact h ⟨k,_,List.getElem?_eq_getElem hk,e⟩
  ·rcases qaY (fun k=>∀ p,l[k]?=some p→p.id<id) l.length with hh | ⟨j,hj,hn,hb⟩
   ·exact⟨l.length,Nat.le_refl _,fun t p ht hp=>hh t ht p hp,fun t p ht hp=>by have:=qak hp;omega⟩
   ·refine⟨j,by omega,fun t p ht hp=>hb t ht p hp,fun t p ht hp=>?_⟩
    simp only[Classical.not_forall,not_imp] at hn
    obtain⟨q,hq,hlt⟩:=hn
    have hne:q.id≠id:=fun e=>h ⟨j,q,hq,e⟩
    rcases Nat.lt_or_ge j t with h' | h'
    ·have:=hv.up.mono h' hq hp;omega
    ·have:t=j:=by omega
     subst this
     rw[hq] at hp
     cases hp
     omega
abbrev atT (id:Int) (k:Nat):List (Nat×SV):=[(1,.pv (iV id)),(2,.pp 1 0),(5,.pv (iV (k:Int)))]
theorem qD4 {l:List Pt} (hn:l.length≤64) {id:Int} (h:∀ p∈l,p.id≠id):Fn 72 1 [qaE 0 l,.pv (iV id)] [(0,0,qaj l)] (.pv (iV (-1))) 0 []:=
 qBS (RunsL.rounds (atT id) (fun _=>[(1,0,.ls 0 l.length),(0,0,qaj l)]) l.length 0 (Nat.zero_add _)
  (fun k _ hk r=>by
   obtain⟨p,hp⟩:=qai hk
   exact qnl hp (qap hk) (dt (by omega)) (by simpa using h p (List.mem_of_getElem? hp)) (qoG hk hn) r)
  (qyu (df (by omega))))
theorem qn4 {l:List Pt} (hv:Val l) {id:Int} {k:Nat} {p:Pt} (hk:l[k]?=some p) (he:p.id=id):Fn 72 1 [qaE 0 l,.pv (iV id)] [(0,0,qaj l)] (.pv (iV (k:Int))) 0 []:=by
 refine qz0 (RunsL.rounds (atT id) (fun _=>[(1,0,.ls 0 l.length),(0,0,qaj l)]) k 0 (Nat.zero_add _) (fun j _ hj r=>?_) (qzm hk (qap (qak hk)) (dt (by have:=qak hk;omega)) (by simpa using he)))
 have hl:=qak hk
 obtain⟨q,hq⟩:=qai (l:=l) (k:=j) (by omega)
 exact qnl hq (qap (qak hq)) (dt (by omega)) (by have:=hv.up.mono hj hq hk;simp;omega) (qoG (qak hq) hv.len) r
end Go.Proofs.YtkjaanhddkkodaaGreat

namespace Go.Proofs.YtkjaanhddkkodaaGreat
set_option maxRecDepth 100000
open Go.RowKit
theorem qqi {l:List Pt} (hn:l.length≤1000000):Fn 32 1 [qaE 0 l] [(0,0,qaj l)] (.ag [.ls 1 l.length]) 1 [(1,0,qaj l)]:=qn6 (by omega)
theorem qck {α:Type} {l:List α} {k:Nat} {p:α} (h:l[k]?=some p):l.take (k+1)=l.take k++[p]:=by rw[List.take_add_one,h];rfl
abbrev saT (k:Nat):List (Nat×SV):=[(2,.pp 2 0),(3,.pp 3 0),(5,.pv (iV (k:Int)))]
theorem qwv {l:List Pt} (hn:l.length≤1000000):Fn 36 2 [qaE 0 l,qaE 1 l] [(0,0,qaj l),(1,0,qaj l)] (.pv (.bool true)) 0 []:=
 qpH (by simp) (RunsL.rounds saT (fun _=>[(2,0,.ls 0 l.length),(3,0,.ls 1 l.length),(0,0,qaj l),(1,0,qaj l)]) l.length 0 (Nat.zero_add _)
  (fun k _ hk r=>by
   obtain⟨p,hp⟩:=qai hk
   exact qoa hp (qap hk) hp (qap hk) (dt (by omega)) (by simp) (qay (by omega)) r)
  (qrw (df (by omega))))
end Go.Proofs.YtkjaanhddkkodaaGreat

namespace Go.Proofs.YtkjaanhddkkodaaGreat
set_option maxRecDepth 100000
open Go.RowKit
def ld (tn td:Int) (p q:Pt):Bool:=qbk (p.a*td+p.b*tn) (q.a*td+q.b*tn) p.b q.b p.id q.id
theorem qli {P Q pb qb pi qi:Int}:qbk P Q pb qb pi qi=true↔(P>Q∨P=Q∧(pb>qb∨pb=qb∧pi<qi)):=by unfold qbk;exact decide_eq_true_iff
theorem qim {P Q pb qb pi qi:Int}:qbk P Q pb qb pi qi=false↔¬ (P>Q∨P=Q∧(pb>qb∨pb=qb∧pi<qi)):=by unfold qbk;exact decide_eq_false_iff_not
section
variable {tn td:Int} {p q r:Pt}
theorem qst (p:Pt):ld tn td p p=false:=qim.2 (by omega)
theorem qpQ (h:ld tn td p q=true) (k:ld tn td q r=true):ld tn td p r=true:=by
 unfold ld at *
 generalize p.a*td+p.b*tn=P at *
 generalize q.a*td+q.b*tn=Q at *
 generalize r.a*td+r.b*tn=R at *
 rw[qli] at *
 omega
theorem qvr (h:ld tn td p q=true):ld tn td q p=false:=by
 cases hh:ld tn td q p
 ·rfl
 ·have:=qpQ h hh;rw[qst] at this;cases this
end
def rk (tn td:Int) (l:List Pt) (p:Pt):Nat:=l.countP fun q=>ld tn td q p
theorem qrI {tn td:Int}:∀ (s:List Pt) (k:Nat) (p:Pt),s.Pairwise (fun p q=>ld tn td p q=true)→s[k]?=some p→rk tn td s p=k
 | [],_,_,_,h=>by simp at h
 | a::r,0,p,hp,h=>by
  simp only[List.getElem?_cons_zero,Option.some.injEq] at h
  subst h
  rw[List.pairwise_cons] at hp
  unfold rk
  rw[List.countP_eq_zero]
  intro q hq
  rcases List.mem_cons.1 hq with rfl | hq
  ·rw[qst];decide
  ·rw[qvr (hp.1 q hq)];decide
 | a::r,k+1,p,hp,h=>by
  rw[List.getElem?_cons_succ] at h
  rw[List.pairwise_cons] at hp
  have:=qrI r k p hp.2 h
  unfold rk at this ⊢
  rw[List.countP_cons,this,if_pos (hp.1 p (List.mem_of_getElem? h))]
structure Srt (l:List Pt) (tn td:Int) (s:List Pt):Prop where
 perm:s.Perm l
 pw:s.Pairwise (fun p q=>ld tn td p q=true)
theorem Srt.len {l s:List Pt} {tn td:Int} (h:Srt l tn td s):s.length=l.length:=h.perm.length_eq
theorem Srt.rank {l s:List Pt} {tn td:Int} (h:Srt l tn td s) {k:Nat} {p:Pt} (hk:s[k]?=some p):rk tn td l p=k:=by
 have:=qrI s k p h.pw hk
 unfold rk at this ⊢
 rw[← h.perm.countP_eq];exact this
theorem Srt.at {l s:List Pt} {tn td:Int} (h:Srt l tn td s) {p:Pt} (hp:p∈l):s[rk tn td l p]?=some p:=by
 obtain⟨k,hk,e⟩:=List.getElem_of_mem (h.perm.mem_iff.2 hp)
 have hk':s[k]?=some p:=by rw[List.getElem?_eq_getElem hk,e]
 rw[h.rank hk'];exact hk'
theorem Srt.lt {l s:List Pt} {tn td:Int} (h:Srt l tn td s) {p:Pt} (hp:p∈l):rk tn td l p<l.length:=by rw[← h.len];exact qak (h.at hp)
end Go.Proofs.YtkjaanhddkkodaaGreat

namespace Go.Proofs.YtkjaanhddkkodaaGreat
set_option maxRecDepth 100000
open Go.RowKit
noncomputable def tE (l:List Pt) (tn td:Int):Int:=if qez l=0 then (if okB tn td=true then 0 else 8) else qez l
section
variable {l:List Pt} {tn td:Int}
end
end Go.Proofs.YtkjaanhddkkodaaGreat

namespace Go.Proofs.YtkjaanhddkkodaaGreat
set_option maxRecDepth 100000
open Go.RowKit
abbrev qaf (a b:Int):Value:=.agg #[iV a,iV b]
abbrev qal (l:List Pt):SV:=.row 94 3 l.length (qbd l)
abbrev qaP (b:Nat) (x:Int) (l:List Pt):SV:=.ag [.pv (iV x),.ls b l.length]
theorem qdv {l:List Pt} {k:Nat} {p:Pt} (h:l[k]?=some p):qcP (qbd l) (0*3+k*3+1) [iV p.a,iV p.b]:=by
 obtain⟨_,h2,h3⟩:=qc6 h
 intro j v hj
 rw[show 0*3+k*3+1+j=k*3+1+j by omega]
 match j,hj with
 | 0,hj=>cases hj;exact h2
 | 1,hj=>cases hj;exact h3
 | j+2,hj=>simp at hj
theorem qn5 {l:List Pt} {k:Nat} {p:Pt} (h:l[k]?=some p):qcP (qbd l) (0*3+k*3+0) [iV p.id]:=qcO h
theorem qvD {l:List Pt} {k:Nat} {p:Pt} (h:l[k]?=some p):qcP (qbd l) (0*3+k*3+1+0) [iV p.a]:=by
 intro j v hj
 rw[show 0*3+k*3+1+0+j=k*3+1+j by omega]
 match j,hj with
 | 0,hj=>cases hj;exact (qc6 h).2.1
 | j+1,hj=>simp at hj
theorem qBa {l:List Pt} {k:Nat} {p:Pt} (h:l[k]?=some p):qcP (qbd l) (0*3+k*3+1+1) [iV p.b]:=by
 intro j v hj
 rw[show 0*3+k*3+1+1+j=k*3+2+j by omega]
 match j,hj with
 | 0,hj=>cases hj;exact (qc6 h).2.2
 | j+1,hj=>simp at hj
def qb8 (a b:Int):Bool:=decide (0≤a∧a≤65535∧0≤b∧b≤65535∧a≠b)
theorem qbt {a b:Int}:qb8 a b=true↔0≤a∧a≤65535∧0≤b∧b≤65535∧a≠b:=by simp[qb8]
def Dis (l:List Pt):Prop:=∀ (i k:Nat) (p q:Pt),i<k→l[i]?=some p→l[k]?=some q→¬ (p.a=q.a∧p.b=q.b)
structure V8 (x:Int) (l:List Pt):Prop where
 len:l.length≤200
 ok:∀ p∈l,qb8 p.a p.b=true
 up:Up l
 lo:∀ p∈l,0≤p.id
 hi:∀ p∈l,p.id<x
 nx:0≤x∧x≤1000000
 dis:Dis l
noncomputable def qwW (x:Int) (l:List Pt):Int:=open Classical in if V8 x l then 0 else 8
theorem qdp {x:Int} {l:List Pt} (h:V8 x l):qwW x l=0:=by unfold qwW;rw[if_pos h]
theorem qbA {x:Int} {l:List Pt} (h:¬ V8 x l):qwW x l=8:=by unfold qwW;rw[if_neg h]
def qkM (m:List Pt):List (Value×Value):=m.map fun p=>(qaf p.a p.b,.bool true)
abbrev qcM (m:List Pt):List Value:=kvL (qkM m)
theorem qgG {a b c d:Int} (h:qaf a b=qaf c d):a=c∧b=d:=by
 injection h with h
 injection h with h
 injection h with h1 h2
 injection h2 with h2 _
 injection h1 with _ h1
 injection h2 with _ h2
 exact⟨h1,h2⟩
theorem qgA (a b:Int):MapK Tryz.prog 250 48 4 (qaf a b) (fun x=>∃ c d,x=qaf c d) (.bool false):=
 qlH (by kernel_rfl) Tryz.underlying48 (fun w=>qeM (by kernel_rfl) w)
  (fun e w=>by cases e<;>exact qeM (by kernel_rfl) w)
  (fun w x ⟨c,d,hx⟩=>by
   subst hx
   refine⟨(a==c&&(b==d&&true)),qiD w 40 _ _ _ _ (by kernel_rfl) Op.maxDepth (by decide),?_⟩
   rw[Bool.and_true,Bool.and_eq_true,beq_iff_eq,beq_iff_eq]
   exact⟨fun h=>by rw[h.1,h.2],fun h=>(qgG h).imp Eq.symm Eq.symm⟩)
theorem qnU (m:List Pt):∀ p∈qkM m,∃ c d,p.1=qaf c d:=fun p hp=>by
 obtain⟨q,_,rfl⟩:=List.mem_map.1 hp
 exact⟨q.a,q.b,rfl⟩
theorem qv0 {m:List Pt} {p:Pt} (h:∀ q∈m,¬ (q.a=p.a∧q.b=p.b)):qeT Tryz.prog 250 (qcM m) (qaf p.a p.b) false (.bool false):=
 qwy (qgA p.a p.b) (qnU m) (fun q hq e=>by
  obtain⟨r,hr,rfl⟩:=List.mem_map.1 hq
  exact h r hr (qgG e)) false
theorem qp2 {m:List Pt} {p q:Pt} (hq:q∈m) (h:q.a=p.a∧q.b=p.b):qeT Tryz.prog 250 (qcM m) (qaf p.a p.b) false (.bool true):=
 qrt (v:=.bool true) (qgA p.a p.b) (qnU m) (List.mem_map.2 ⟨q,hq,by rw[h.1,h.2]⟩) (fun r hr _=>by
  obtain⟨s,_,rfl⟩:=List.mem_map.1 hr
  rfl) false
theorem qqW {m:List Pt} {p:Pt} (h:∀ q∈m,¬ (q.a=p.a∧q.b=p.b)):qmP Tryz.prog 250 (qcM m) (qaf p.a p.b) (.bool true) (qcM (m++[p])):=by
 have:=qvg (qgA p.a p.b) (qnU m) (fun q hq e=>by
  obtain⟨r,hr,rfl⟩:=List.mem_map.1 hq
  exact h r hr (qgG e)) (.bool true)
 show qmP _ _ _ _ _ (kvL (qkM (m++[p])))
 rw[show qkM (m++[p])=qkM m++[(qaf p.a p.b,.bool true)] by simp[qkM]]
 exact this
end Go.Proofs.YtkjaanhddkkodaaGreat

namespace Go.Proofs.YtkjaanhddkkodaaGreat
set_option maxRecDepth 100000
open Go.RowKit
abbrev qjc (l:List Pt) (s:List Pt) (x:Int):HpL:=[(2,0,.pv (iV x)),(2,1,.ls 0 l.length),(3,0,.ls 1 s.length),(0,0,qal l),(1,0,qaj s)]
abbrev qqw (k:Nat):TmL:=[(2,.pp 2 0),(3,.pp 3 0),(5,.pv (iV (k:Int)))]
abbrev quk (p:Pt) (s:List Pt) (u1:Int):Prop:=Fn 72 1 [qaE 0 s,.pv (iV (p.a))] [(0,0,qaj s)] (.pv (iV (u1))) 0 []
theorem qoX {l s:List Pt} {k:Nat} {p:Pt} {x u1 u2:Int} (hk:l[k]?=some p) (hin:0≤(k:Int)∧(k:Int)<(l.length:Int)) (hlt:decide ((k:Int)<(l.length:Int))=true) (ha:quk p s u1) (h1:decide (u1<0)=false) (hb:Fn 72 1 [qaE 0 s,.pv (iV (p.b))] [(0,0,qaj s)] (.pv (iV (u2))) 0 []) (h2:decide (u2<0)=false) (hs:iV (IntKind.i64.wrap ((k:Int)+1))=iV (((k+1:Nat):Int))) {e:Exit} {tm2:TmL} {hp2:HpL}
 (r:Rl 2 2 45 0 35 4 ([(2,.pp 2 0),(3,.pp 3 0),(5,.pv (iV ((k+1:Nat):Int)))]) (qjc l s x) e tm2 hp2):Rl 2 2 45 0 35 4 (qqw k) (qjc l s x) e tm2 hp2:=
 RunsL.next [] 300 [.t true,.r (iV p.a),Cf ha [1],.t false,.r (iV p.b),Cf hb [1],.t false,Re hs]
  (Ro (Ai hlt (Ai hin (Ai (qvD hk) (Co ha [1] 4 (Ai h1 (Ai hin (Ai (qBa hk) (Co hb [1] 4 (Ai h2 (Ai hs tI))))))))))) r
theorem qzg {l s:List Pt} {k:Nat} {p:Pt} {x u1:Int} (hk:l[k]?=some p) (hin:0≤(k:Int)∧(k:Int)<(l.length:Int)) (hlt:decide ((k:Int)<(l.length:Int))=true) (ha:quk p s u1) (h1:decide (u1<0)=true):Rl 2 2 45 0 35 4 (qqw k) (qjc l s x) (.ret) ([(4,.pv (.bool false))]) ([]):=
 RunsL.stop [] 300 [.t true,.r (iV p.a),Cf ha [1],.t true] (fun h=>by cases h)
  (Ro (Ai hlt (Ai hin (Ai (qvD hk) (Co ha [1] 4 (Ai h1 tI))))))
theorem qzj {l s:List Pt} {k:Nat} {p:Pt} {x u1 u2:Int} (hk:l[k]?=some p) (hin:0≤(k:Int)∧(k:Int)<(l.length:Int)) (hlt:decide ((k:Int)<(l.length:Int))=true) (ha:quk p s u1) (h1:decide (u1<0)=false) (hb:Fn 72 1 [qaE 0 s,.pv (iV (p.b))] [(0,0,qaj s)] (.pv (iV (u2))) 0 []) (h2:decide (u2<0)=true):Rl 2 2 45 0 35 4 (qqw k) (qjc l s x) (.ret) ([(4,.pv (.bool false))]) ([]):=
 RunsL.stop [] 300 [.t true,.r (iV p.a),Cf ha [1],.t false,.r (iV p.b),Cf hb [1],.t true] (fun h=>by cases h)
  (Ro (Ai hlt (Ai hin (Ai (qvD hk) (Co ha [1] 4 (Ai h1 (Ai hin (Ai (qBa hk) (Co hb [1] 4 (Ai h2 tI))))))))))
theorem quO {l s:List Pt} {k:Nat} {x:Int} (hge:decide ((k:Int)<(l.length:Int))=false):Rl 2 2 45 0 35 4 (qqw k) (qjc l s x) (.exit 0) ([]) ([]):=
 RunsL.stop [] 300 [.t false] (fun h=>by cases h)
  (Ro (Ai hge tI))
theorem qxZ {l s:List Pt} {x:Int} (r0:Rl 2 2 45 0 35 4 ([(2,.pp 2 0),(3,.pp 3 0),(5,.pv (iV ((0:Nat):Int)))]) (qjc l s x) (.ret) ([(4,.pv (.bool false))]) ([])) :
 Fn 45 2 [qaP 0 x l,qaE 1 s] [(0,0,qal l),(1,0,qaj s)] (.pv (.bool false)) 0 []:=
 Fz [] [Lf r0]
  tI (Lo r0 [] tI)
theorem qt2 {l s:List Pt} {x:Int} (r0:Rl 2 2 45 0 35 4 ([(2,.pp 2 0),(3,.pp 3 0),(5,.pv (iV ((0:Nat):Int)))]) (qjc l s x) (.exit 0) ([]) ([])) :
 Fn 45 2 [qaP 0 x l,qaE 1 s] [(0,0,qal l),(1,0,qaj s)] (.pv (.bool true)) 0 []:=
 Fz [] [Lf r0]
  tI (Lo r0 [] tI)
end Go.Proofs.YtkjaanhddkkodaaGreat

namespace Go.Proofs.YtkjaanhddkkodaaGreat
set_option maxRecDepth 100000
open Go.RowKit
theorem qt1 (x:Int) (l:List Pt):SV.ag [.pv (iV x),.ls 4 (0+l.length)]=(SV.ag [.pv (iV x),.ls 1 l.length]).ren (qaK [(1,4)]):=by rw[Nat.zero_add];rfl
theorem qnO (l:List Pt):some (SV.row 94 3 (0+l.length) ([]++qbd l))=some (qal l):=by rw[Nat.zero_add,List.nil_append]
theorem qmp (m:List Pt) (p:Pt):some (SV.row 94 3 (m.length+1) (qbd m++[iV p.id,iV p.a,iV p.b]))=some (qal (m++[p])):=by rw[qj8,qal,List.length_append];rfl
theorem qp1 (b:Nat) (y x:Int) (m:List Pt) (p:Pt):SV.tu [.ag [.pv (iV y),.ls b (m.length+1)],.one (.pv (iV x)),.one (.pv (iV 0))]=(SV.tu [.ag [.pv (iV y),.ls 1 (m++[p]).length],.one (.pv (iV x)),.one (.pv (iV 0))]).ren (qaK [(1,b)]):=by rw[List.length_append];rfl
theorem qpf {l:List Pt} {x:Int} (hn:0+l.length≤1000000) :
 Fn 53 1 [qaP 0 x l] [(0,0,qal l)] (.ag [.pv (iV x),.ls 1 l.length]) 1 [(1,0,qal l)]:=
 Fx [(1,4)] [.md]
  (qt1 x l) (Ai (qnO l) tI) (Ai hn tI)
abbrev qBN (l:List Pt) (m:List Pt) (x:Int) (y:Int):HpL:=[(2,0,.pv (iV x)),(2,1,.ls 0 l.length),(3,0,.pv (iV y)),(3,1,.ls 1 m.length),(0,0,qal l),(1,0,qal m)]
theorem qrl {l m:List Pt} {x y:Int} {k:Nat} {p q:Pt} (hk:l[k]?=some p) (hin:0≤(k:Int)∧(k:Int)<(l.length:Int)) (hq:m[k]?=some q) (hin2:0≤(k:Int)∧(k:Int)<(m.length:Int)) (hlt:decide ((k:Int)<(l.length:Int))=true) (hne:(!(p.id==q.id&&((p.a==q.a&&(p.b==q.b&&true))&&true)))=false) (hs:iV (IntKind.i64.wrap ((k:Int)+1))=iV (((k+1:Nat):Int))) {e:Exit} {tm2:TmL} {hp2:HpL}
 (r:Rl 2 2 43 0 38 4 ([(2,.pp 2 0),(3,.pp 3 0),(5,.pv (iV ((k+1:Nat):Int)))]) (qBN l m x y) e tm2 hp2):Rl 2 2 43 0 38 4 ([(2,.pp 2 0),(3,.pp 3 0),(5,.pv (iV (k:Int)))]) (qBN l m x y) e tm2 hp2:=
 RunsL.next [] 300 [.t true,.r (ptV p),.r (ptV q),.t false,Re hs]
  (Ro (Ai hlt (Ai hin (Ai (qaN hk) (Ai hin2 (Ai (qaN hq) (Ai hne (Ai hs tI)))))))) r
theorem qwe {l m:List Pt} {x y:Int} {k:Nat} (hge:decide ((k:Int)<(l.length:Int))=false):Rl 2 2 43 0 38 4 ([(2,.pp 2 0),(3,.pp 3 0),(5,.pv (iV (k:Int)))]) (qBN l m x y) (.exit 0) ([]) ([]):=
 RunsL.stop [] 300 [.t false] (fun h=>by cases h)
  (Ro (Ai hge tI))
theorem qty {l m:List Pt} {x y:Int} (hx:(!(x==y))=false) (hl:(!((l.length:Int)==(m.length:Int)))=false) (r0:Rl 2 2 43 0 38 4 ([(2,.pp 2 0),(3,.pp 3 0),(5,.pv (iV ((0:Nat):Int)))]) (qBN l m x y) (.exit 0) ([]) ([])) :
 Fn 43 2 [qaP 0 x l,qaP 1 y m] [(0,0,qal l),(1,0,qal m)] (.pv (.bool true)) 0 []:=
 Fz [] [.t false,.t false,Lf r0]
  tI (Ai hx (Ai hl (Lo r0 [] tI)))
abbrev qwR (a:Int) (b:Int) (l:List Pt) (x:Int):HpL:=[(1,0,.pv (iV x)),(1,1,.ls 0 l.length),(2,0,.pv (iV a)),(2,1,.pv (iV b)),(0,0,qal l)]
theorem qp6 {l:List Pt} {k:Nat} {p:Pt} {x a b:Int} (hk:l[k]?=some p) (hin:0≤(k:Int)∧(k:Int)<(l.length:Int)) (hlt:decide ((k:Int)<(l.length:Int))=true) (he:(p.a==a&&(p.b==b&&true))=false) (hs:iV (IntKind.i64.wrap ((k:Int)+1))=iV (((k+1:Nat):Int))) {e:Exit} {tm2:TmL} {hp2:HpL}
 (r:Rl 1 1 176 0 21 3 ([(2,.pp 1 0),(3,.pp 2 0),(5,.pv (iV ((k+1:Nat):Int)))]) (qwR a b l x) e tm2 hp2):Rl 1 1 176 0 21 3 ([(2,.pp 1 0),(3,.pp 2 0),(5,.pv (iV (k:Int)))]) (qwR a b l x) e tm2 hp2:=
 RunsL.next [] 300 [.t true,.r (qaf p.a p.b),.t false,Re hs]
  (Ro (Ai hlt (Ai hin (Ai (qdv hk) (Ai he (Ai hs tI)))))) r
theorem qud {l:List Pt} {k:Nat} {p:Pt} {x a b:Int} (hk:l[k]?=some p) (hin:0≤(k:Int)∧(k:Int)<(l.length:Int)) (hlt:decide ((k:Int)<(l.length:Int))=true) (he:(p.a==a&&(p.b==b&&true))=true):Rl 1 1 176 0 21 3 ([(2,.pp 1 0),(3,.pp 2 0),(5,.pv (iV (k:Int)))]) (qwR a b l x) (.ret) ([(4,.pv (.bool true))]) ([]):=
 RunsL.stop [] 300 [.t true,.r (qaf p.a p.b),.t true] (fun h=>by cases h)
  (Ro (Ai hlt (Ai hin (Ai (qdv hk) (Ai he tI)))))
theorem qsI {l:List Pt} {k:Nat} {x a b:Int} (hge:decide ((k:Int)<(l.length:Int))=false):Rl 1 1 176 0 21 3 ([(2,.pp 1 0),(3,.pp 2 0),(5,.pv (iV (k:Int)))]) (qwR a b l x) (.exit 0) ([]) ([]):=
 RunsL.stop [] 300 [.t false] (fun h=>by cases h)
  (Ro (Ai hge tI))
theorem qxN {l:List Pt} {x a b:Int} (r0:Rl 1 1 176 0 21 3 ([(2,.pp 1 0),(3,.pp 2 0),(5,.pv (iV ((0:Nat):Int)))]) (qwR a b l x) (.exit 0) ([]) ([])) :
 Fn 176 1 [qaP 0 x l,.pv (qaf a b)] [(0,0,qal l)] (.pv (.bool false)) 0 []:=
 Fz [] [Lf r0]
  tI (Lo r0 [] tI)
theorem qwd {l:List Pt} {x a b:Int} (r0:Rl 1 1 176 0 21 3 ([(2,.pp 1 0),(3,.pp 2 0),(5,.pv (iV ((0:Nat):Int)))]) (qwR a b l x) (.ret) ([(4,.pv (.bool true))]) ([])) :
 Fn 176 1 [qaP 0 x l,.pv (qaf a b)] [(0,0,qal l)] (.pv (.bool true)) 0 []:=
 Fz [] [Lf r0]
  tI (Lo r0 [] tI)
theorem qvo {l:List Pt} {x a b:Int} (hc:Fn 76 1 [qaP 0 x l] [(0,0,qal l)] (.pv (iV (8))) 0 []) :
 Fn 122 1 [qaP 0 x l,.pv (qaf a b)] [(0,0,qal l)] (.pv (.tuple #[.agg #[iV 0,.slice none 0 0],iV 0,iV 8])) 0 []:=
 Fz [] [Cf hc [0],.k]
  tI (Co hc [0] 4 tI)
abbrev qx2 (l:List Pt) (x:Int):Prop:=Fn 76 1 [qaP 0 x l] [(0,0,qal l)] (.pv (iV (0))) 0 []
theorem qu2 {l:List Pt} {x a b:Int} (hc:qx2 l x) (hv:Pure Tryz.prog 71 #[qaf a b] (.bool false)) :
 Fn 122 1 [qaP 0 x l,.pv (qaf a b)] [(0,0,qal l)] (.pv (.tuple #[.agg #[iV 0,.slice none 0 0],iV 0,iV 8])) 0 []:=
 Fz [] [Cf hc [0],.k,Rf hv,.k]
  tI (Co hc [0] 4 (Ai hv tI))
theorem qtx {l:List Pt} {x a b:Int} (hc:qx2 l x) (hv:Pure Tryz.prog 71 #[qaf a b] (.bool true)) (hh:Fn 176 1 [qaP 0 x l,.pv (qaf a b)] [(0,0,qal l)] (.pv (.bool true)) 0 []) :
 Fn 122 1 [qaP 0 x l,.pv (qaf a b)] [(0,0,qal l)] (.pv (.tuple #[.agg #[iV 0,.slice none 0 0],iV 0,iV 14])) 0 []:=
 Fz [] [Cf hc [0],.k,Rf hv,.k,Cf hh [0]]
  tI (Co hc [0] 4 (Ai hv (Co hh [0] 4 tI)))
theorem qo8 {l:List Pt} {x a b:Int} (hc:qx2 l x) (hv:Pure Tryz.prog 71 #[qaf a b] (.bool true)) (hh:Fn 176 1 [qaP 0 x l,.pv (qaf a b)] [(0,0,qal l)] (.pv (.bool false)) 0 []) (hf:((l.length:Int)==200)=true) :
 Fn 122 1 [qaP 0 x l,.pv (qaf a b)] [(0,0,qal l)] (.pv (.tuple #[.agg #[iV 0,.slice none 0 0],iV 0,iV 18])) 0 []:=
 Fz [] [Cf hc [0],.k,Rf hv,.k,Cf hh [0],.t true]
  tI (Co hc [0] 4 (Ai hv (Co hh [0] 4 (Ai hf tI))))
theorem qq6 {l:List Pt} {x a b:Int} (hc:qx2 l x) (hv:Pure Tryz.prog 71 #[qaf a b] (.bool true)) (hh:Fn 176 1 [qaP 0 x l,.pv (qaf a b)] [(0,0,qal l)] (.pv (.bool false)) 0 []) (hf:((l.length:Int)==200)=false) (hu:(x==1000000)=true) :
 Fn 122 1 [qaP 0 x l,.pv (qaf a b)] [(0,0,qal l)] (.pv (.tuple #[.agg #[iV 0,.slice none 0 0],iV 0,iV 18])) 0 []:=
 Fz [] [Cf hc [0],.k,Rf hv,.k,Cf hh [0],.t false,.t true]
  tI (Co hc [0] 4 (Ai hv (Co hh [0] 4 (Ai hf (Ai hu tI)))))
theorem qAL {l:List Pt} {x y a b:Int} (hc:qx2 l x) (hv:Pure Tryz.prog 71 #[qaf a b] (.bool true)) (hh:Fn 176 1 [qaP 0 x l,.pv (qaf a b)] [(0,0,qal l)] (.pv (.bool false)) 0 []) (hf:((l.length:Int)==200)=false) (hu:(x==1000000)=false) (ht:Fn 53 1 [qaP 0 x l] [(0,0,qal l)] (.ag [.pv (iV x),.ls 1 l.length]) 1 [(1,0,qal l)]) (hn:l.length+1≤1000000) (hy:iV (IntKind.i64.wrap (x+1))=iV (y)) :
 Fn 122 1 [qaP 0 x l,.pv (qaf a b)] [(0,0,qal l)] (.tu [.ag [.pv (iV y),.ls 1 (l++[(Pt.mk x a b)]).length],.one (.pv (iV x)),.one (.pv (iV 0))]) 1 [(1,0,qal (l++[(Pt.mk x a b)]))]:=
 Fx [(1,7)] [Cf hc [0],.k,Rf hv,.k,Cf hh [0],.t false,.t false,Cf ht [0],Re hy]
  (qp1 7 y x l (Pt.mk x a b)) (Ai (qmp l (Pt.mk x a b)) tI) (Co hc [0] 4 (Ai hv (Co hh [0] 4 (Ai hf (Ai hu (Co ht [0] 4 (Ai hn (Ai hy tI))))))))
end Go.Proofs.YtkjaanhddkkodaaGreat
