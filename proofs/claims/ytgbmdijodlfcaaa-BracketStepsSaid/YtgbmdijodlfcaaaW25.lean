/-
  Joined: Fm, Fn, Fr, Fs, Ka, Kc, Kf, Kj. Conditions: none.
-/
import Derived.Test.YtgbmdijodlfcaaaW24
import Derived.Test.YtgbmdijodlfcaaaW21
import Derived.Test.YtgbmdijodlfcaaaW22
namespace Go.Proofs.Ytgbmdijodlfcaaa
set_option maxRecDepth 100000
open Go.RowKit
def qgE (p:Pt):Bool:=okP p.id p.a p.b
def Up (l:List Pt):Prop:=∀ (k:Nat) (p q:Pt),l[k]?=some p→l[k+1]?=some q→p.id<q.id
noncomputable def qem (l:List Pt):Int:=open Classical in if 64<l.length then 4 else if ∀ p∈l,qgE p=true then (if Up l then 0 else 32) else 8
theorem qbe (P:Nat→Prop):∀ (N:Nat),(∀ k,k<N→P k)∨∃ j,j<N∧¬ P j∧∀ i,i<j→P i
 | 0=>Or.inl fun k hk=>by omega
 | N+1=>by
  rcases qbe P N with h | ⟨j,h1,h2⟩
  ·by_cases hN:P N
   ·exact Or.inl fun k hk=>by
     rcases Nat.lt_or_ge k N with h' | h'
     ·exact h k h'
     ·have:k=N:=by omega
      subst this;exact hN
   ·exact Or.inr ⟨N,by omega,hN,h⟩
  ·exact Or.inr ⟨j,by omega,h2⟩
theorem qas {α:Type} {l:List α} {k:Nat} (h:k<l.length):∃ p,l[k]?=some p:=⟨l[k],List.getElem?_eq_getElem h⟩
theorem qax {α:Type} {l:List α} {k:Nat} {p:α} (h:l[k]?=some p):k<l.length:=(List.getElem?_eq_some_iff.1 h).1
theorem qaB {k n:Nat} (h:k<n):0≤(k:Int)∧(k:Int)<(n:Int):=⟨by omega,by omega⟩
theorem Up.mono {l:List Pt} (h:Up l):∀ {i j:Nat} {p q:Pt},i<j→l[i]?=some p→l[j]?=some q→p.id<q.id:=by
 intro i j
 induction j with
 | zero=>intro p q hij;omega
 | succ j ih=>
  intro p q hij hp hq
  by_cases e:i=j
  ·subst e;exact h i p q hp hq
  ·obtain⟨r,hr⟩:=qas (l:=l) (k:=j) (by have:=qax hq;omega)
   exact Int.lt_trans (ih (by omega) hp hr) (h j r q hr hq)
theorem qlm {k n:Nat} (h:k<n) (hn:n≤64):iV (IntKind.i64.wrap ((k:Int)+1))=iV ((k+1:Nat):Int):=qay (by omega)
theorem qgq {l:List Pt} (hn:l.length≤64) (h:∀ p∈l,qgE p=true):Rl 1 1 56 0 44 2 [(1,.pp 1 0),(3,.pv (iV ((0:Nat):Int)))] [(1,0,.ls 0 l.length),(0,0,qan l)] (.exit 0) [(1,.pp 1 0)] [(1,0,.ls 0 l.length),(0,0,qan l)]:=
 RunsL.rounds (fun k=>[(1,.pp 1 0),(3,.pv (iV (k:Int)))]) (fun _=>[(1,0,.ls 0 l.length),(0,0,qan l)]) l.length 0 (Nat.zero_add _)
  (fun k _ hk r=>by
   obtain⟨p,hp⟩:=qas hk
   exact qgG hp (qaB hk) (dt (by omega)) (qdD (h p (List.mem_of_getElem? hp))) (qlm hk hn) r)
  (qmi (df (by omega)))
theorem qeU {l:List Pt} (hn:l.length≤64) {j:Nat} {p:Pt} (hp:l[j]?=some p) (hb:¬ qgE p=true) (h:∀ i,i<j→∀ q,l[i]?=some q→qgE q=true):Rl 1 1 56 0 44 2 [(1,.pp 1 0),(3,.pv (iV ((0:Nat):Int)))] [(1,0,.ls 0 l.length),(0,0,qan l)] .ret [(2,.pv (iV 8))] []:=by
 have hj:=qax hp
 refine RunsL.rounds (fun k=>[(1,.pp 1 0),(3,.pv (iV (k:Int)))]) (fun _=>[(1,0,.ls 0 l.length),(0,0,qan l)]) j 0 (Nat.zero_add _) (fun k _ hk r=>?_) (qmu hp (qaB hj) (dt (by omega)) (qeW hb))
 obtain⟨q,hq⟩:=qas (l:=l) (k:=k) (by omega)
 exact qgG hq (qaB (qax hq)) (dt (by omega)) (qdD (h k hk q hq)) (qlm (qax hq) hn) r
theorem qbV (k:Nat) (h:k≤1000000):iV (IntKind.i64.wrap (((k+1:Nat):Int)-1))=iV (k:Int):=by rw[show ((k+1:Nat):Int)-1=(k:Int) by omega,qbx (by omega) (by omega)]
theorem qjM {l:List Pt} (hn:l.length≤64) (h:Up l):Rl 1 1 56 1 44 2 [(1,.pp 1 0),(4,.pv (iV ((0+1:Nat):Int)))] [(1,0,.ls 0 l.length),(0,0,qan l)] (.exit 2) [] []:=by
 by_cases h0:l.length=0
 ·exact qjx (k:=0+1) (df (by omega))
 refine RunsL.rounds (fun k=>[(1,.pp 1 0),(4,.pv (iV (k:Int)))]) (fun _=>[(1,0,.ls 0 l.length),(0,0,qan l)]) (N:=l.length) (l.length-1) (0+1) (by omega) (fun k h1 hk r=>?_) (qjx (df (by omega)))
 obtain⟨m,rfl⟩:∃ m,k=m+1:=⟨k-1,by omega⟩
 obtain⟨q,hq⟩:=qas (l:=l) (k:=m) (by omega)
 obtain⟨p,hp⟩:=qas hk
 exact qgO hq hp (qaB (by omega)) (qaB hk) (dt (by omega)) (qbV m (by omega)) (df (by have:=h m q p hq hp;omega)) (qlm hk hn) r
theorem qfu {l:List Pt} (hn:l.length≤64) {j:Nat} {p q:Pt} (hq:l[j]?=some q) (hp:l[j+1]?=some p) (hb:¬ q.id<p.id) (h:∀ i,i<j→∀ p q,l[i]?=some p→l[i+1]?=some q→p.id<q.id):Rl 1 1 56 1 44 2 [(1,.pp 1 0),(4,.pv (iV ((0+1:Nat):Int)))] [(1,0,.ls 0 l.length),(0,0,qan l)] .ret [(2,.pv (iV 32))] []:=by
 have hj:=qax hp
 refine RunsL.rounds (fun k=>[(1,.pp 1 0),(4,.pv (iV (k:Int)))]) (fun _=>[(1,0,.ls 0 l.length),(0,0,qan l)]) (N:=j+1) j (0+1) (by omega) (fun k h1 hk r=>?_) (qm1 hq hp (qaB (by omega)) (qaB hj) (dt (by omega)) (qbV j (by omega)) (dt (by omega)))
 obtain⟨m,rfl⟩:∃ m,k=m+1:=⟨k-1,by omega⟩
 obtain⟨q',hq'⟩:=qas (l:=l) (k:=m) (by omega)
 obtain⟨p',hp'⟩:=qas (l:=l) (k:=m+1) (by omega)
 exact qgO hq' hp' (qaB (by omega)) (qaB (by omega)) (dt (by omega)) (qbV m (by omega)) (df (by have:=h m (by omega) q' p' hq' hp';omega)) (qlm (n:=l.length) (by omega) hn) r
theorem qdb (l:List Pt):(64<l.length∧qem l=4)∨(l.length≤64∧(∃ (j:Nat) (p:Pt),l[j]?=some p∧¬ qgE p=true∧∀ i,i<j→∀ q,l[i]?=some q→qgE q=true)∧qem l=8)∨
 (l.length≤64∧(∀ p∈l,qgE p=true)∧(∃ (j:Nat) (p q:Pt),l[j]?=some q∧l[j+1]?=some p∧¬ q.id<p.id∧∀ i,i<j→∀ p q,l[i]?=some p→l[i+1]?=some q→p.id<q.id)∧qem l=32)∨
 (l.length≤64∧(∀ p∈l,qgE p=true)∧Up l∧qem l=0):=by
 by_cases h0:64<l.length
 ·exact Or.inl ⟨h0,by unfold qem;rw[if_pos h0]⟩
 refine Or.inr ?_
 by_cases h1:∀ p∈l,qgE p=true
 ·refine Or.inr ?_
  by_cases h2:Up l
  ·exact Or.inr ⟨by omega,h1,h2,by unfold qem;rw[if_neg h0,if_pos h1,if_pos h2]⟩
  ·refine Or.inl ⟨by omega,h1,?_,by unfold qem;rw[if_neg h0,if_pos h1,if_neg h2]⟩
   rcases qbe (fun k=>∀ p q,l[k]?=some p→l[k+1]?=some q→p.id<q.id) l.length with h | ⟨j,hj,hn,hb⟩
   ·exact (h2 fun k p q hp hq=>h k (qax hp) p q hp hq).elim
   ·simp only[Classical.not_forall,not_imp] at hn
    obtain⟨p,q,hp,hq,hpq⟩:=hn
    exact⟨j,q,p,hp,hq,hpq,hb⟩
 ·refine Or.inl ⟨by omega,?_,by unfold qem;rw[if_neg h0,if_neg h1]⟩
  rcases qbe (fun k=>∀ q,l[k]?=some q→qgE q=true) l.length with h | ⟨j,hj,hn,hb⟩
  ·exact (h1 fun p hp=>by obtain⟨k,hk,rfl⟩:=List.getElem_of_mem hp;exact h k hk _ (List.getElem?_eq_getElem hk)).elim
  ·simp only[Classical.not_forall,not_imp] at hn
   obtain⟨p,hp,hpq⟩:=hn
   exact⟨j,p,hp,hpq,hb⟩
theorem qdU (l:List Pt):Fn 56 1 [qaQ 0 l] [(0,0,qan l)] (.pv (iV (qem l))) 0 []:=by
 rcases qdb l with ⟨h,e⟩ | ⟨h,⟨j,p,hp,hb,hf⟩,e⟩ | ⟨h,h1,⟨j,p,q,hq,hp,hb,hf⟩,e⟩ | ⟨h,h1,h2,e⟩<;>rw[e]
 ·exact qms (dt (by omega))
 ·exact qn8 (df (by omega)) (qeU h hp hb hf)
 ·exact qo3 (df (by omega)) (qgq h h1) (qfu h hq hp hb hf)
 ·exact qpZ (df (by omega)) (qgq h h1) (qjM h h2)
abbrev pcT (l:List Pt) (k:Nat):List (Nat×SV):=[(1,.pp 1 0),(12,.ls 0 l.length),(13,.pv (iV (l.length:Int))),(14,.pv (iV (k:Int)))]
theorem qgl {l:List Pt} (hn:l.length≤64) (h:∀ p∈l,qgE p=true):Rl 1 1 35 0 45 2 (pcT l 0) [(1,0,.ls 0 l.length),(0,0,qan l)] (.exit 0) [(1,.pp 1 0)] [(1,0,.ls 0 l.length),(0,0,qan l)]:=
 RunsL.rounds (pcT l) (fun _=>[(1,0,.ls 0 l.length),(0,0,qan l)]) l.length 0 (Nat.zero_add _)
  (fun k _ hk r=>by
   obtain⟨p,hp⟩:=qas hk
   exact qgw hp (qaB hk) (dt (by omega)) (qba (h p (List.mem_of_getElem? hp))) (qlm hk hn) r)
  (qm7 (df (by omega)))
theorem qe6 {l:List Pt} (hn:l.length≤64) {j:Nat} {p:Pt} (hp:l[j]?=some p) (hb:¬ qgE p=true) (h:∀ i,i<j→∀ q,l[i]?=some q→qgE q=true):Rl 1 1 35 0 45 2 (pcT l 0) [(1,0,.ls 0 l.length),(0,0,qan l)] .ret [(2,.pv (iV 8))] []:=by
 have hj:=qax hp
 refine RunsL.rounds (pcT l) (fun _=>[(1,0,.ls 0 l.length),(0,0,qan l)]) j 0 (Nat.zero_add _) (fun k _ hk r=>?_) (qm8 hp (qaB hj) (dt (by omega)) (qgf hb))
 obtain⟨q,hq⟩:=qas (l:=l) (k:=k) (by omega)
 exact qgw hq (qaB (qax hq)) (dt (by omega)) (qba (h k hk q hq)) (qlm (qax hq) hn) r
theorem qlf {l:List Pt} (hn:l.length≤64) (h:Up l):Rl 1 1 35 1 45 2 [(1,.pp 1 0),(6,.pv (iV ((0+1:Nat):Int)))] [(1,0,.ls 0 l.length),(0,0,qan l)] (.exit 2) [] []:=by
 by_cases h0:l.length=0
 ·exact qjB (k:=0+1) (df (by omega))
 refine RunsL.rounds (fun k=>[(1,.pp 1 0),(6,.pv (iV (k:Int)))]) (fun _=>[(1,0,.ls 0 l.length),(0,0,qan l)]) (N:=l.length) (l.length-1) (0+1) (by omega) (fun k h1 hk r=>?_) (qjB (df (by omega)))
 obtain⟨m,rfl⟩:∃ m,k=m+1:=⟨k-1,by omega⟩
 obtain⟨q,hq⟩:=qas (l:=l) (k:=m) (by omega)
 obtain⟨p,hp⟩:=qas hk
 exact qgR hq hp (qaB (by omega)) (qaB hk) (dt (by omega)) (qbV m (by omega)) (df (by have:=h m q p hq hp;omega)) (qlm hk hn) r
theorem qfm {l:List Pt} (hn:l.length≤64) {j:Nat} {p q:Pt} (hq:l[j]?=some q) (hp:l[j+1]?=some p) (hb:¬ q.id<p.id) (h:∀ i,i<j→∀ p q,l[i]?=some p→l[i+1]?=some q→p.id<q.id):Rl 1 1 35 1 45 2 [(1,.pp 1 0),(6,.pv (iV ((0+1:Nat):Int)))] [(1,0,.ls 0 l.length),(0,0,qan l)] .ret [(2,.pv (iV 32))] []:=by
 have hj:=qax hp
 refine RunsL.rounds (fun k=>[(1,.pp 1 0),(6,.pv (iV (k:Int)))]) (fun _=>[(1,0,.ls 0 l.length),(0,0,qan l)]) (N:=j+1) j (0+1) (by omega) (fun k h1 hk r=>?_) (qma hq hp (qaB (by omega)) (qaB hj) (dt (by omega)) (qbV j (by omega)) (dt (by omega)))
 obtain⟨m,rfl⟩:∃ m,k=m+1:=⟨k-1,by omega⟩
 obtain⟨q',hq'⟩:=qas (l:=l) (k:=m) (by omega)
 obtain⟨p',hp'⟩:=qas (l:=l) (k:=m+1) (by omega)
 exact qgR hq' hp' (qaB (by omega)) (qaB (by omega)) (dt (by omega)) (qbV m (by omega)) (df (by have:=h m (by omega) q' p' hq' hp';omega)) (qlm (n:=l.length) (by omega) hn) r
theorem qdK (l:List Pt):Fn 35 1 [qaQ 0 l] [(0,0,qan l)] (.pv (iV (qem l))) 0 []:=by
 rcases qdb l with ⟨h,e⟩ | ⟨h,⟨j,p,hp,hb,hf⟩,e⟩ | ⟨h,h1,⟨j,p,q,hq,hp,hb,hf⟩,e⟩ | ⟨h,h1,h2,e⟩<;>rw[e]
 ·exact qmZ (dt (by omega))
 ·exact qnW (df (by omega)) (qe6 h hp hb hf)
 ·exact qoF (df (by omega)) (qgl h h1) (qfm h hq hp hb hf)
 ·exact qpU (df (by omega)) (qgl h h1) (qlf h h2)
structure Val (l:List Pt):Prop where
 len:l.length≤64
 ok:∀ p∈l,qgE p=true
 up:Up l
theorem qfN {l:List Pt}:qem l=0↔Val l:=by
 rcases qdb l with ⟨h,e⟩ | ⟨h,⟨j,p,hp,hb,hf⟩,e⟩ | ⟨h,h1,⟨j,p,q,hq,hp,hb,hf⟩,e⟩ | ⟨h,h1,h2,e⟩<;>rw[e]
 ·exact⟨fun h=>by omega,fun v=>by have:=v.len;omega⟩
 ·exact⟨fun h=>by omega,fun v=>(hb (v.ok p (List.mem_of_getElem? hp))).elim⟩
 ·exact⟨fun h=>by omega,fun v=>(hb (v.up j q p hq hp)).elim⟩
 ·exact⟨fun _=>⟨h,h1,h2⟩,fun _=>rfl⟩
theorem place (l:List Pt) (hv:Val l) (id:Int):(∃ (k:Nat) (p:Pt),l[k]?=some p∧p.id=id)∨((∀ p∈l,p.id≠id)∧∃ k,k≤l.length∧(∀ (t:Nat) (p:Pt),t<k→l[t]?=some p→p.id<id)∧∀ (t:Nat) (p:Pt),k≤t→l[t]?=some p→id<p.id):=by
 by_cases h:∃ (k:Nat) (p:Pt),l[k]?=some p∧p.id=id
 ·exact Or.inl h
 ·refine Or.inr ⟨fun p hp e=>?_,?_⟩
  ·obtain⟨k,hk,rfl⟩:=List.getElem_of_mem hp
   exact h ⟨k,_,List.getElem?_eq_getElem hk,e⟩
  ·rcases qbe (fun k=>∀ p,l[k]?=some p→p.id<id) l.length with hh | ⟨j,hj,hn,hb⟩
   ·exact⟨l.length,Nat.le_refl _,fun t p ht hp=>hh t ht p hp,fun t p ht hp=>by have:=qax hp;omega⟩
   ·refine⟨j,by omega,fun t p ht hp=>hb t ht p hp,fun t p ht hp=>?_⟩
    simp only[Classical.not_forall,not_imp] at hn
    obtain⟨q,hq,hlt⟩:=hn
    have hne:q.id≠id:=fun e=>h ⟨j,q,hq,e⟩
    rcases Nat.lt_or_ge j t with h' | h'
    ·have:=hv.up.mono h' hq hp;omega
    ·have:t=j:=by omega
     subst this
     rw[hq] at hp
     cases hp
     omega
end Go.Proofs.Ytgbmdijodlfcaaa

namespace Go.Proofs.Ytgbmdijodlfcaaa
set_option maxRecDepth 100000
open Go.RowKit
theorem qjj (l:List Pt):(¬ (l.length≤16∨64≤l.length∧l.length≤70)∧Fn 19 1 [qaQ 0 l] [(0,0,qan l)] (.pv (.bool true)) 0 [])∨
 ((l.length≤16∨64≤l.length∧l.length≤70)∧Fn 19 1 [qaQ 0 l] [(0,0,qan l)] (.pv (.bool false)) 0 []):=by
 by_cases h1:l.length>16
 ·by_cases h2:l.length<64
  ·exact Or.inl ⟨by omega,qnr (dt (by omega)) (dt (by omega))⟩
  ·by_cases h3:l.length>70
   ·exact Or.inl ⟨by omega,qjX (dt (by omega)) (df (by omega)) (dt (by omega))⟩
   ·exact Or.inr ⟨by omega,qkR (dt (by omega)) (df (by omega)) (df (by omega))⟩
 ·exact Or.inr ⟨by omega,qni (df (by omega)) (df (by omega))⟩
theorem qdw {α:Type} {l:List α} {k:Nat} {p:α} (h:l[k]?=some p):l.take (k+1)=l.take k++[p]:=by rw[List.take_add_one,h];rfl
end Go.Proofs.Ytgbmdijodlfcaaa

namespace Go.Proofs.Ytgbmdijodlfcaaa
set_option maxRecDepth 100000
open Go.RowKit
def ld (tn td:Int) (p q:Pt):Bool:=qb3 (p.a*td+p.b*tn) (q.a*td+q.b*tn) p.b q.b p.id q.id
theorem qd8 {P Q pb qb pi qi:Int}:qb3 P Q pb qb pi qi=true↔(P>Q∨P=Q∧(pb>qb∨pb=qb∧pi<qi)):=by unfold qb3;exact decide_eq_true_iff
theorem qb9 {P Q pb qb pi qi:Int}:qb3 P Q pb qb pi qi=false↔¬ (P>Q∨P=Q∧(pb>qb∨pb=qb∧pi<qi)):=by unfold qb3;exact decide_eq_false_iff_not
section
variable {tn td:Int} {p q r:Pt}
theorem qlr (p:Pt):ld tn td p p=false:=qb9.2 (by omega)
theorem qgW (h:ld tn td p q=true) (k:ld tn td q r=true):ld tn td p r=true:=by
 unfold ld at *
 generalize p.a*td+p.b*tn=P at *
 generalize q.a*td+q.b*tn=Q at *
 generalize r.a*td+r.b*tn=R at *
 rw[qd8] at *
 omega
theorem qlY (h:ld tn td p q=true):ld tn td q p=false:=by
 cases hh:ld tn td q p
 ·rfl
 ·have:=qgW h hh;rw[qlr] at this;cases this
end
def rk (tn td:Int) (l:List Pt) (p:Pt):Nat:=l.countP fun q=>ld tn td q p
theorem qlp {tn td:Int}:∀ (s:List Pt) (k:Nat) (p:Pt),s.Pairwise (fun p q=>ld tn td p q=true)→s[k]?=some p→rk tn td s p=k
 | [],_,_,_,h=>by simp at h
 | a::r,0,p,hp,h=>by
  simp only[List.getElem?_cons_zero,Option.some.injEq] at h
  subst h
  rw[List.pairwise_cons] at hp
  unfold rk
  rw[List.countP_eq_zero]
  intro q hq
  rcases List.mem_cons.1 hq with rfl | hq
  ·rw[qlr];decide
  ·rw[qlY (hp.1 q hq)];decide
 | a::r,k+1,p,hp,h=>by
  rw[List.getElem?_cons_succ] at h
  rw[List.pairwise_cons] at hp
  have:=qlp r k p hp.2 h
  unfold rk at this ⊢
  rw[List.countP_cons,this,if_pos (hp.1 p (List.mem_of_getElem? h))]
structure Srt (l:List Pt) (tn td:Int) (s:List Pt):Prop where
 perm:s.Perm l
 pw:s.Pairwise (fun p q=>ld tn td p q=true)
theorem Srt.len {l s:List Pt} {tn td:Int} (h:Srt l tn td s):s.length=l.length:=h.perm.length_eq
theorem Srt.rank {l s:List Pt} {tn td:Int} (h:Srt l tn td s) {k:Nat} {p:Pt} (hk:s[k]?=some p):rk tn td l p=k:=by
 have:=qlp s k p h.pw hk
 unfold rk at this ⊢
 rw[← h.perm.countP_eq];exact this
theorem Srt.at {l s:List Pt} {tn td:Int} (h:Srt l tn td s) {p:Pt} (hp:p∈l):s[rk tn td l p]?=some p:=by
 obtain⟨k,hk,e⟩:=List.getElem_of_mem (h.perm.mem_iff.2 hp)
 have hk':s[k]?=some p:=by rw[List.getElem?_eq_getElem hk,e]
 rw[h.rank hk'];exact hk'
theorem Srt.lt {l s:List Pt} {tn td:Int} (h:Srt l tn td s) {p:Pt} (hp:p∈l):rk tn td l p<l.length:=by rw[← h.len];exact qax (h.at hp)
end Go.Proofs.Ytgbmdijodlfcaaa

namespace Go.Proofs.Ytgbmdijodlfcaaa
set_option maxRecDepth 100000
open Go.RowKit
structure Tm (tn td:Int):Prop where
 hn:I64 tn
 hd:I64 td
 ok:okB tn td=true
noncomputable def tE (l:List Pt) (tn td:Int):Int:=if qem l=0 then (if okB tn td=true then 0 else 8) else qem l
theorem qi4 {tn td:Int} (hn:I64 tn) (hd:I64 td) (l:List Pt):Fn 29 1 [qaQ 0 l,.pv (qad tn td)] [(0,0,qan l)] (.pv (iV (tE l tn td))) 0 []:=by
 unfold tE
 by_cases h0:qem l=0
 ·have c1:=qdU l
  rw[h0] at c1
  rw[if_pos h0]
  by_cases hp:okB tn td=true
  ·rw[if_pos hp];exact qls c1 (qi6 hn hd hp)
  ·rw[if_neg hp];exact qls c1 (qhd hn hd hp)
 ·rw[if_neg h0]
  exact qmH (qdU l) (by simp[h0])
theorem qqe {l:List Pt} {tn td:Int} (hv:Val l) (ht:okB tn td=true):tE l tn td=0:=by unfold tE;rw[if_pos (qfN.2 hv),if_pos ht]
section
variable {l:List Pt} {tn td:Int}
end
end Go.Proofs.Ytgbmdijodlfcaaa

namespace Go.Proofs.Ytgbmdijodlfcaaa
set_option maxRecDepth 100000
open Go.RowKit
def qq7 (a b:Int):Bool:=decide (0≤a∧a≤65535∧0≤b∧b≤65535∧a≠b)
def Dis (l:List Pt):Prop:=∀ (i k:Nat) (p q:Pt),i<k→l[i]?=some p→l[k]?=some q→¬ (p.a=q.a∧p.b=q.b)
structure V8 (x:Int) (l:List Pt):Prop where
 len:l.length≤200
 ok:∀ p∈l,qq7 p.a p.b=true
 up:Up l
 lo:∀ p∈l,0≤p.id
 hi:∀ p∈l,p.id<x
 nx:0≤x∧x≤1000000
 dis:Dis l
def qnL (l:List Pt):List (Value×Value):=l.map fun p=>(iV p.id,ptV p)
abbrev byV (l:List Pt):List Value:=kvL (qnL l)
theorem qiN (a:Int):MapK Try.prog 77 3 68 (iV a) (fun x=>∃ b,x=iV b) (qac 0 0 0):=
 qhJ (by kernel_rfl) Try.underlying3 (fun w=>qc9 (by kernel_rfl) w) a
theorem qpI (l:List Pt):∀ p∈qnL l,∃ b,p.1=iV b:=fun p hp=>by
 obtain⟨q,_,rfl⟩:=List.mem_map.1 hp
 exact⟨q.id,rfl⟩
theorem qdn {a b:Int} (h:iV a=iV b):a=b:=by injection h
theorem qpV {l:List Pt} {a:Int} (h:∀ q∈l,q.id≠a) (ok:Bool):qaN Try.prog 77 (byV l) (iV a) ok (if ok=true then .tuple #[qac 0 0 0,.bool false] else qac 0 0 0):=
 qi9 (qiN a) (qpI l) (fun q hq e=>by
  obtain⟨r,hr,rfl⟩:=List.mem_map.1 hq
  exact h r hr (qdn e)) ok
theorem qoC {l:List Pt} {p:Pt} (hp:p∈l) (hu:∀ q∈l,q.id=p.id→q=p) (ok:Bool):qaN Try.prog 77 (byV l) (iV p.id) ok (if ok=true then .tuple #[ptV p,.bool true] else ptV p):=
 qgU (v:=ptV p) (qiN p.id) (qpI l) (List.mem_map.2 ⟨p,hp,rfl⟩) (fun r hr e=>by
  obtain⟨s,hs,rfl⟩:=List.mem_map.1 hr
  rw[hu s hs (qdn e)]) ok
theorem qoo {l:List Pt} {p:Pt} (h:∀ q∈l,q.id≠p.id):qdH Try.prog 77 (byV l) (iV p.id) (ptV p) (byV (l++[p])):=by
 have:=qir (qiN p.id) (qpI l) (fun q hq e=>by
  obtain⟨r,hr,rfl⟩:=List.mem_map.1 hq
  exact h r hr (qdn e)) (ptV p)
 show qdH _ _ _ _ _ (kvL (qnL (l++[p])))
 rw[show qnL (l++[p])=qnL l++[(iV p.id,ptV p)] by simp[qnL]]
 exact this
end Go.Proofs.Ytgbmdijodlfcaaa

namespace Go.Proofs.Ytgbmdijodlfcaaa
set_option maxRecDepth 100000
open Go.RowKit
def lst (m:List Pt):Int:=match m.getLast? with
 | none=>-1
 | some p=>p.id
theorem qja:lst [] = -1:=rfl
theorem qgv (m:List Pt) (p:Pt):lst (m++[p])=p.id:=by simp[lst]
def Inc (l:List Pt):Prop:=∀ (k:Nat) (p:Pt),l[k]?=some p→lst (l.take k)<p.id
theorem Inc.up {l:List Pt} (h:Inc l):Up l:=fun k p q hp hq=>by
 have:=h (k+1) q hq
 rw[qdw hp,qgv] at this
 exact this
theorem Inc.lo {l:List Pt} (h:Inc l):∀ p∈l,0≤p.id:=by
 have key:∀ (k:Nat) (p:Pt),l[k]?=some p→0≤p.id:=by
  intro k
  induction k with
  | zero=>intro p hp;have:=h 0 p hp;rw[List.take_zero,qja] at this;omega
  | succ k ih=>
   intro p hp
   obtain⟨q,hq⟩:=qas (l:=l) (k:=k) (by have:=qax hp;omega)
   have:=ih q hq
   have:=h.up k q p hq hp
   omega
 intro p hp
 obtain⟨k,hk,rfl⟩:=List.getElem_of_mem hp
 exact key k _ (List.getElem?_eq_getElem hk)
theorem Inc.lt {l:List Pt} (h:Inc l) {x:Int}:lst l<x↔(∀ p∈l,p.id<x)∧0≤x:=by
 have hup:=h.up
 have hlo:=h.lo
 rcases List.eq_nil_or_concat l with rfl | ⟨m,q,rfl⟩
 ·rw[qja];exact⟨fun h=>⟨fun p hp=>by simp at hp,by omega⟩,fun h=>by omega⟩
 ·rw[List.concat_eq_append,qgv]
  rw[List.concat_eq_append] at hup hlo
  refine⟨fun hx=>⟨fun p hp=>?_,by have:=hlo q (by simp);omega⟩,fun hx=>hx.1 q (by simp)⟩
  obtain⟨k,hk,rfl⟩:=List.getElem_of_mem hp
  rcases Nat.lt_or_ge k m.length with h1 | h1
  ·have:=hup.mono h1 (List.getElem?_eq_getElem hk) (show (m++[q])[m.length]?=some q by simp)
   omega
  ·have hkm:k=m.length:=by simp at hk;omega
   subst hkm
   simpa using hx
theorem qj3 {l:List Pt} {k:Nat} {q:Pt} (h:q∈l.take k):∃ i,i<k∧l[i]?=some q:=by
 obtain⟨i,hi,rfl⟩:=List.getElem_of_mem h
 have hi':i<k∧i<l.length:=by simp at hi;omega
 exact⟨i,hi'.1,by rw[List.getElem_take];exact List.getElem?_eq_getElem hi'.2⟩
end Go.Proofs.Ytgbmdijodlfcaaa

namespace Go.Proofs.Ytgbmdijodlfcaaa
set_option maxRecDepth 100000
open Go.RowKit
theorem qn5 {l:List Pt} (hu:Up l) {i j:Nat} {p q:Pt} (hp:l[i]?=some p) (hq:l[j]?=some q) (h:p.id=q.id):i=j∧p=q:=by
 rcases Nat.lt_trichotomy i j with e | e | e
 ·have:=hu.mono e hp hq;omega
 ·subst e;rw[hp] at hq;cases hq;exact⟨rfl,rfl⟩
 ·have:=hu.mono e hq hp;omega
noncomputable def qqT (l:List Pt) (a b:Int):Bool:=open Classical in decide (∃ p∈l,p.a=a∧p.b=b)
theorem qpx {l:List Pt} {a b:Int}:qqT l a b=true↔∃ p∈l,p.a=a∧p.b=b:=by unfold qqT;exact decide_eq_true_iff
end Go.Proofs.Ytgbmdijodlfcaaa

namespace Go.Proofs.Ytgbmdijodlfcaaa
set_option maxRecDepth 100000
open Go.RowKit
def names (n:Int) (p:Pt):Bool:=decide (p.a=n∨p.b=n)
theorem qjn {s:List Pt} (hs:Val s) {p q:Pt} (hp:p∈s) (hq:q∈s) (h:p.id=q.id):p=q:=by
 obtain⟨i,hi,rfl⟩:=List.getElem_of_mem hp
 obtain⟨j,hj,rfl⟩:=List.getElem_of_mem hq
 exact (qn5 hs.up (List.getElem?_eq_getElem hi) (List.getElem?_eq_getElem hj) h).2
theorem qjD {s:List Pt} (hs:Val s) {q:Pt} (hq:q∈s) {i:Int} (h:q.id=i) (ok:Bool):qaN Try.prog 77 (byV s) (iV i) ok (if ok=true then .tuple #[ptV q,.bool true] else ptV q):=by
 subst h
 exact qoC hq (fun r hr e=>qjn hs hr hq e) ok
theorem qlS {s:List Pt} {i:Int} (h:¬ ∃ q∈s,q.id=i):qaN Try.prog 77 (byV s) (iV i) true (.tuple #[qac 0 0 0,.bool false]):=qpV (fun q hq e=>h ⟨q,hq,e⟩) true
section
variable {tn td:Int} (htn:I64 tn) (htd:I64 td)
end
end Go.Proofs.Ytgbmdijodlfcaaa
