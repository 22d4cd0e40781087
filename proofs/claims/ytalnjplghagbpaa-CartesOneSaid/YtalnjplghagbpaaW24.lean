/-
  Joined: Fq, Fm, Fn, Fr, Fs. Conditions: none.
-/
import Derived.Test.YtalnjplghagbpaaW23
import Derived.ProofKit
import Derived.OpenShut
import Derived.Lib.SmallJoins
import Derived.Deep.Slices
import Derived.Deep.Strs
import Derived.Deep.Fields
import Derived.Carry
import Derived.Test.YtalnjplghagbpaaW19
import Derived.Test.YtalnjplghagbpaaW20
namespace Go.Proofs.Ytalnjplghagbpaa
set_option maxRecDepth 100000
open Go.ChangeShapes Go.WideShapes Go.ChangeAt Go.RowKit Go.Joins Go.Deep
theorem qkF:Try.prog.cellsOf 37=1:=by kernel_rfl
theorem qq3:Try.prog.cellsOf 35=1:=by kernel_rfl
theorem qqU:Try.prog.cellsOf 80=3:=by kernel_rfl
theorem qoz:Try.prog.cellsOf 3=1:=by kernel_rfl
theorem qoR:Try.prog.cellsOf 2=1:=by kernel_rfl
theorem qmr:Try.prog.readableRec 37=true:=by kernel_rfl
theorem qo1:37<Try.prog.types.size:=of_decide_eq_true (by kernel_rfl)
section
variable {H:Type} {enc:TypeId×Value→H} {W:World} {base:Nat} {spare:Nat→Bool} {held:Bool}
theorem qno (f:Nat→Pt):∀ (n j:Nat) (v:Value),(qao ((List.range n).map f))[j]?=some v→j/3<n∧[iV (f (j/3)).id,iV (f (j/3)).a,iV (f (j/3)).b][j%3]?=some v:=by
 intro n j v h
 have hj:j<n*3:=by
  have:=(List.getElem?_eq_some_iff.1 h).1
  rw[qaP] at this
  simpa using this
 have hk:j/3<n:=by omega
 have hg:=qdd (l:=(List.range n).map f) (k:=j/3) (p:=f (j/3)) (by simp[hk])
 refine⟨hk,?_⟩
 have h3:j%3=0∨j%3=1∨j%3=2:=by omega
 have e:j=j/3*3+j%3:=by omega
 rw[e] at h
 rcases h3 with e3 | e3 | e3<;>rw[e3] at h ⊢
 ·rw[Nat.add_zero,hg.1] at h;exact h
 ·rw[hg.2.1] at h;exact h
 ·rw[hg.2.2] at h;exact h
theorem qk2 {fuel:Nat} {cs:List Value} {x:DataW H×List MemPlace} (h:DataW.trod enc Try.prog W base spare held fuel 35 cs=some x) :
 ∃ (u:Value) (l:List Pt),cs=[u]∧Rd W 3 u l.length (qao l)∧∀ p∈l,((Lit.int .i64 p.id).wf=true∧(Lit.int .i64 p.a).wf=true∧(Lit.int .i64 p.b).wf=true):=by
 rcases open_slice Try.underlying35 h with ⟨rfl,_⟩ | ⟨a,len,cap,m,n,D,Pl,rfl,_,hlc,_,hm,_,hi⟩
 ·exact⟨_,[],rfl,⟨rfl,none,0,rfl,Nat.le_refl _,fun j v hv=>by simp[qao] at hv⟩,fun p hp=>by simp at hp⟩
 have hlm:len≤m:=by rw[hm];split<;>omega
 have each:∀ i,i<len→∃ p:Pt,W.cell? (a.add (i*3))=some (iV p.id)∧W.cell? (a.add (i*3+1))=some (iV p.a)∧W.cell? (a.add (i*3+2))=some (iV p.b)∧
  ((Lit.int .i64 p.id).wf=true∧(Lit.int .i64 p.a).wf=true∧(Lit.int .i64 p.b).wf=true):=by
  intro i hil
  obtain⟨cs',hc,ht⟩:=hi i (by omega)
  rw[qqU] at hc
  obtain⟨y0,y1,y2,n',_,hlen,t0,t1,t2⟩:=trod_struct3 Try.underlying80 ht
  obtain⟨_,hcl,hat⟩:=World.cells?_some hc
  match cs',hcl with
  | [c0,c1,c2],_=>
   obtain⟨pi,e0,_,w0⟩:=DataW.trod_int Try.underlying3 t0
   obtain⟨pa,e1,_,w1⟩:=DataW.trod_int Try.underlying2 t1
   obtain⟨pb,e2,_,w2⟩:=DataW.trod_int Try.underlying2 t2
   simp[qoz,qoR] at e0 e1 e2
   refine⟨⟨pi,pa,pb⟩,?_,?_,?_,w0,w1,w2⟩
   ·have:=hat 0 (by omega);rw[add_add] at this;simpa [e0] using this
   ·have:=hat 1 (by omega);rw[add_add] at this;simpa [e1] using this
   ·have:=hat 2 (by omega);rw[add_add] at this;simpa [e2] using this
 haveI:Inhabited Pt:=⟨⟨0,0,0⟩⟩
 obtain⟨f,hf⟩:=choose_lt (α:=Pt) each
 refine⟨_,(List.range len).map f,rfl,⟨qaP _,some a,cap,by simp,by simpa using hlc,fun j v hv=>?_⟩,fun p hp=>?_⟩
 ·obtain⟨hk,he⟩:=qno f len j v hv
  obtain⟨c0,c1,c2,_⟩:=hf _ hk
  have hcell:W.cell? (a.add j)=some v:=by
   have h3:j%3=0∨j%3=1∨j%3=2:=by omega
   have e:j=j/3*3+j%3:=by omega
   rcases h3 with e3 | e3 | e3<;>rw[e3] at he e<;>rw[e]<;>simp at he<;>subst he
   ·exact c0
   ·exact c1
   ·exact c2
  obtain⟨b,off,spot⟩:=a
  have hs:spot=none:=by simpa [Addr.add] using World.cell?_spot (hf 0 (by omega)).1
  subst hs
  exact⟨b,off,rfl,by rw[← Go.WideShapes.add_plain];exact hcell⟩
 ·obtain⟨i,hi',rfl⟩:=List.mem_map.1 hp
  exact (hf i (List.mem_range.1 hi')).2.2.2
theorem qlm {r:Reach} {b0:Nat} {v:Value} {d:DataW H} {p:List MemPlace} (hv:Value.okWide Try.prog W r b0 37 v) (h:DataW.Trod enc Try.prog W base spare held 37 v d p) :
 ∃ (u:Value) (l:List Pt),v=.agg #[u]∧Rd W 3 u l.length (qao l)∧∀ p∈l,((Lit.int .i64 p.id).wf=true∧(Lit.int .i64 p.a).wf=true∧(Lit.int .i64 p.b).wf=true):=by
 obtain⟨cs,rfl,hsz⟩:=okWide_struct Try.underlying37 hv
 obtain⟨fuel,hf⟩:=h
 obtain⟨y0,n,_,hlen,h0⟩:=trod_struct1 Try.underlying37 hf
 obtain⟨u,l,hc,hr,hb⟩:=qk2 h0
 refine⟨u,l,?_,hr,hb⟩
 rw[qq3] at hc
 have h1:cs.size=1:=hsz.trans qkF
 obtain⟨c0,rfl⟩:∃ c0,cs=#[c0]:=by
  obtain⟨L⟩:=cs
  match L,h1 with
  | [c0],_=>exact⟨c0,rfl⟩
 simp[Value.cells] at hc
 rw[hc]
end
theorem qdH:∀ (l:List Pt) (v:Value),v∈qao l→v.oneCell'=true
 | [],_,h=>by simp[qao] at h
 | p::r,v,h=>by
  simp only[qao,List.mem_cons] at h
  rcases h with rfl | rfl | rfl | h
  ·rfl
  ·rfl
  ·rfl
  ·exact qdH r v h
end Go.Proofs.Ytalnjplghagbpaa

namespace Go.Proofs.Ytalnjplghagbpaa
set_option maxRecDepth 100000
open Go.RowKit
def qhj (p:Pt):Bool:=okP p.id p.a p.b
def Up (l:List Pt):Prop:=∀ (k:Nat) (p q:Pt),l[k]?=some p→l[k+1]?=some q→p.id<q.id
noncomputable def qdT (l:List Pt):Int:=open Classical in if 64<l.length then 4 else if ∀ p∈l,qhj p=true then (if Up l then 0 else 32) else 8
theorem qaL (P:Nat→Prop):∀ (N:Nat),(∀ k,k<N→P k)∨∃ j,j<N∧¬ P j∧∀ i,i<j→P i
 | 0=>Or.inl fun k hk=>by omega
 | N+1=>by
  rcases qaL P N with h | ⟨j,h1,h2⟩
  ·by_cases hN:P N
   ·exact Or.inl fun k hk=>by
     rcases Nat.lt_or_ge k N with h' | h'
     ·exact h k h'
     ·have:k=N:=by omega
      subst this;exact hN
   ·exact Or.inr ⟨N,by omega,hN,h⟩
  ·exact Or.inr ⟨j,by omega,h2⟩
theorem qaj {α:Type} {l:List α} {k:Nat} (h:k<l.length):∃ p,l[k]?=some p:=⟨l[k],List.getElem?_eq_getElem h⟩
theorem qam {α:Type} {l:List α} {k:Nat} {p:α} (h:l[k]?=some p):k<l.length:=(List.getElem?_eq_some_iff.1 h).1
theorem qba {k n:Nat} (h:k<n):0≤(k:Int)∧(k:Int)<(n:Int):=⟨by omega,by omega⟩
theorem Up.mono {l:List Pt} (h:Up l):∀ {i j:Nat} {p q:Pt},i<j→l[i]?=some p→l[j]?=some q→p.id<q.id:=by
 intro i j
 induction j with
 | zero=>intro p q hij;omega
 | succ j ih=>
  intro p q hij hp hq
  by_cases e:i=j
  ·subst e;exact h i p q hp hq
  ·obtain⟨r,hr⟩:=qaj (l:=l) (k:=j) (by have:=qam hq;omega)
   exact Int.lt_trans (ih (by omega) hp hr) (h j r q hr hq)
theorem qk1 {k n:Nat} (h:k<n) (hn:n≤64):iV (IntKind.i64.wrap ((k:Int)+1))=iV ((k+1:Nat):Int):=qah (by omega)
theorem qg9 {l:List Pt} (hn:l.length≤64) (h:∀ p∈l,qhj p=true):Rl 1 1 75 0 44 2 [(1,.pp 1 0),(3,.pv (iV ((0:Nat):Int)))] [(1,0,.ls 0 l.length),(0,0,qag l)] (.exit 0) [(1,.pp 1 0)] [(1,0,.ls 0 l.length),(0,0,qag l)]:=
 RunsL.rounds (fun k=>[(1,.pp 1 0),(3,.pv (iV (k:Int)))]) (fun _=>[(1,0,.ls 0 l.length),(0,0,qag l)]) l.length 0 (Nat.zero_add _)
  (fun k _ hk r=>by
   obtain⟨p,hp⟩:=qaj hk
   exact qhq hp (qba hk) (dt (by omega)) (qdG (h p (List.mem_of_getElem? hp))) (qk1 hk hn) r)
  (qpF (df (by omega)))
theorem qfx {l:List Pt} (hn:l.length≤64) {j:Nat} {p:Pt} (hp:l[j]?=some p) (hb:¬ qhj p=true) (h:∀ i,i<j→∀ q,l[i]?=some q→qhj q=true):Rl 1 1 75 0 44 2 [(1,.pp 1 0),(3,.pv (iV ((0:Nat):Int)))] [(1,0,.ls 0 l.length),(0,0,qag l)] .ret [(2,.pv (iV 8))] []:=by
 have hj:=qam hp
 refine RunsL.rounds (fun k=>[(1,.pp 1 0),(3,.pv (iV (k:Int)))]) (fun _=>[(1,0,.ls 0 l.length),(0,0,qag l)]) j 0 (Nat.zero_add _) (fun k _ hk r=>?_) (qoL hp (qba hj) (dt (by omega)) (qe3 hb))
 obtain⟨q,hq⟩:=qaj (l:=l) (k:=k) (by omega)
 exact qhq hq (qba (qam hq)) (dt (by omega)) (qdG (h k hk q hq)) (qk1 (qam hq) hn) r
theorem qb1 (k:Nat) (h:k≤1000000):iV (IntKind.i64.wrap (((k+1:Nat):Int)-1))=iV (k:Int):=by rw[show ((k+1:Nat):Int)-1=(k:Int) by omega,qay (by omega) (by omega)]
theorem qlq {l:List Pt} (hn:l.length≤64) (h:Up l):Rl 1 1 75 1 44 2 [(1,.pp 1 0),(4,.pv (iV ((0+1:Nat):Int)))] [(1,0,.ls 0 l.length),(0,0,qag l)] (.exit 2) [] []:=by
 by_cases h0:l.length=0
 ·exact qjh (k:=0+1) (df (by omega))
 refine RunsL.rounds (fun k=>[(1,.pp 1 0),(4,.pv (iV (k:Int)))]) (fun _=>[(1,0,.ls 0 l.length),(0,0,qag l)]) (N:=l.length) (l.length-1) (0+1) (by omega) (fun k h1 hk r=>?_) (qjh (df (by omega)))
 obtain⟨m,rfl⟩:∃ m,k=m+1:=⟨k-1,by omega⟩
 obtain⟨q,hq⟩:=qaj (l:=l) (k:=m) (by omega)
 obtain⟨p,hp⟩:=qaj hk
 exact qho hq hp (qba (by omega)) (qba hk) (dt (by omega)) (qb1 m (by omega)) (df (by have:=h m q p hq hp;omega)) (qk1 hk hn) r
theorem qfd {l:List Pt} (hn:l.length≤64) {j:Nat} {p q:Pt} (hq:l[j]?=some q) (hp:l[j+1]?=some p) (hb:¬ q.id<p.id) (h:∀ i,i<j→∀ p q,l[i]?=some p→l[i+1]?=some q→p.id<q.id):Rl 1 1 75 1 44 2 [(1,.pp 1 0),(4,.pv (iV ((0+1:Nat):Int)))] [(1,0,.ls 0 l.length),(0,0,qag l)] .ret [(2,.pv (iV 32))] []:=by
 have hj:=qam hp
 refine RunsL.rounds (fun k=>[(1,.pp 1 0),(4,.pv (iV (k:Int)))]) (fun _=>[(1,0,.ls 0 l.length),(0,0,qag l)]) (N:=j+1) j (0+1) (by omega) (fun k h1 hk r=>?_) (qog hq hp (qba (by omega)) (qba hj) (dt (by omega)) (qb1 j (by omega)) (dt (by omega)))
 obtain⟨m,rfl⟩:∃ m,k=m+1:=⟨k-1,by omega⟩
 obtain⟨q',hq'⟩:=qaj (l:=l) (k:=m) (by omega)
 obtain⟨p',hp'⟩:=qaj (l:=l) (k:=m+1) (by omega)
 exact qho hq' hp' (qba (by omega)) (qba (by omega)) (dt (by omega)) (qb1 m (by omega)) (df (by have:=h m (by omega) q' p' hq' hp';omega)) (qk1 (n:=l.length) (by omega) hn) r
theorem qdq (l:List Pt):(64<l.length∧qdT l=4)∨(l.length≤64∧(∃ (j:Nat) (p:Pt),l[j]?=some p∧¬ qhj p=true∧∀ i,i<j→∀ q,l[i]?=some q→qhj q=true)∧qdT l=8)∨
 (l.length≤64∧(∀ p∈l,qhj p=true)∧(∃ (j:Nat) (p q:Pt),l[j]?=some q∧l[j+1]?=some p∧¬ q.id<p.id∧∀ i,i<j→∀ p q,l[i]?=some p→l[i+1]?=some q→p.id<q.id)∧qdT l=32)∨
 (l.length≤64∧(∀ p∈l,qhj p=true)∧Up l∧qdT l=0):=by
 by_cases h0:64<l.length
 ·exact Or.inl ⟨h0,by unfold qdT;rw[if_pos h0]⟩
 refine Or.inr ?_
 by_cases h1:∀ p∈l,qhj p=true
 ·refine Or.inr ?_
  by_cases h2:Up l
  ·exact Or.inr ⟨by omega,h1,h2,by unfold qdT;rw[if_neg h0,if_pos h1,if_pos h2]⟩
  ·refine Or.inl ⟨by omega,h1,?_,by unfold qdT;rw[if_neg h0,if_pos h1,if_neg h2]⟩
   rcases qaL (fun k=>∀ p q,l[k]?=some p→l[k+1]?=some q→p.id<q.id) l.length with h | ⟨j,hj,hn,hb⟩
   ·exact (h2 fun k p q hp hq=>h k (qam hp) p q hp hq).elim
   ·simp only[Classical.not_forall,not_imp] at hn
    obtain⟨p,q,hp,hq,hpq⟩:=hn
    exact⟨j,q,p,hp,hq,hpq,hb⟩
 ·refine Or.inl ⟨by omega,?_,by unfold qdT;rw[if_neg h0,if_neg h1]⟩
  rcases qaL (fun k=>∀ q,l[k]?=some q→qhj q=true) l.length with h | ⟨j,hj,hn,hb⟩
  ·exact (h1 fun p hp=>by obtain⟨k,hk,rfl⟩:=List.getElem_of_mem hp;exact h k hk _ (List.getElem?_eq_getElem hk)).elim
  ·simp only[Classical.not_forall,not_imp] at hn
   obtain⟨p,hp,hpq⟩:=hn
   exact⟨j,p,hp,hpq,hb⟩
theorem qd8 (l:List Pt):Fn 75 1 [qax 0 l] [(0,0,qag l)] (.pv (iV (qdT l))) 0 []:=by
 rcases qdq l with ⟨h,e⟩ | ⟨h,⟨j,p,hp,hb,hf⟩,e⟩ | ⟨h,h1,⟨j,p,q,hq,hp,hb,hf⟩,e⟩ | ⟨h,h1,h2,e⟩<;>rw[e]
 ·exact qof (dt (by omega))
 ·exact qrO (df (by omega)) (qfx h hp hb hf)
 ·exact qqC (df (by omega)) (qg9 h h1) (qfd h hq hp hb hf)
 ·exact qtU (df (by omega)) (qg9 h h1) (qlq h h2)
abbrev pcT (l:List Pt) (k:Nat):List (Nat×SV):=[(1,.pp 1 0),(12,.ls 0 l.length),(13,.pv (iV (l.length:Int))),(14,.pv (iV (k:Int)))]
theorem qgL {l:List Pt} (hn:l.length≤64) (h:∀ p∈l,qhj p=true):Rl 1 1 47 0 45 2 (pcT l 0) [(1,0,.ls 0 l.length),(0,0,qag l)] (.exit 0) [(1,.pp 1 0)] [(1,0,.ls 0 l.length),(0,0,qag l)]:=
 RunsL.rounds (pcT l) (fun _=>[(1,0,.ls 0 l.length),(0,0,qag l)]) l.length 0 (Nat.zero_add _)
  (fun k _ hk r=>by
   obtain⟨p,hp⟩:=qaj hk
   exact qhl hp (qba hk) (dt (by omega)) (qb6 (h p (List.mem_of_getElem? hp))) (qk1 hk hn) r)
  (qn9 (df (by omega)))
theorem qfs {l:List Pt} (hn:l.length≤64) {j:Nat} {p:Pt} (hp:l[j]?=some p) (hb:¬ qhj p=true) (h:∀ i,i<j→∀ q,l[i]?=some q→qhj q=true):Rl 1 1 47 0 45 2 (pcT l 0) [(1,0,.ls 0 l.length),(0,0,qag l)] .ret [(2,.pv (iV 8))] []:=by
 have hj:=qam hp
 refine RunsL.rounds (pcT l) (fun _=>[(1,0,.ls 0 l.length),(0,0,qag l)]) j 0 (Nat.zero_add _) (fun k _ hk r=>?_) (qoC hp (qba hj) (dt (by omega)) (qgD hb))
 obtain⟨q,hq⟩:=qaj (l:=l) (k:=k) (by omega)
 exact qhl hq (qba (qam hq)) (dt (by omega)) (qb6 (h k hk q hq)) (qk1 (qam hq) hn) r
theorem qmR {l:List Pt} (hn:l.length≤64) (h:Up l):Rl 1 1 47 1 45 2 [(1,.pp 1 0),(6,.pv (iV ((0+1:Nat):Int)))] [(1,0,.ls 0 l.length),(0,0,qag l)] (.exit 2) [] []:=by
 by_cases h0:l.length=0
 ·exact qjH (k:=0+1) (df (by omega))
 refine RunsL.rounds (fun k=>[(1,.pp 1 0),(6,.pv (iV (k:Int)))]) (fun _=>[(1,0,.ls 0 l.length),(0,0,qag l)]) (N:=l.length) (l.length-1) (0+1) (by omega) (fun k h1 hk r=>?_) (qjH (df (by omega)))
 obtain⟨m,rfl⟩:∃ m,k=m+1:=⟨k-1,by omega⟩
 obtain⟨q,hq⟩:=qaj (l:=l) (k:=m) (by omega)
 obtain⟨p,hp⟩:=qaj hk
 exact qgY hq hp (qba (by omega)) (qba hk) (dt (by omega)) (qb1 m (by omega)) (df (by have:=h m q p hq hp;omega)) (qk1 hk hn) r
theorem qfK {l:List Pt} (hn:l.length≤64) {j:Nat} {p q:Pt} (hq:l[j]?=some q) (hp:l[j+1]?=some p) (hb:¬ q.id<p.id) (h:∀ i,i<j→∀ p q,l[i]?=some p→l[i+1]?=some q→p.id<q.id):Rl 1 1 47 1 45 2 [(1,.pp 1 0),(6,.pv (iV ((0+1:Nat):Int)))] [(1,0,.ls 0 l.length),(0,0,qag l)] .ret [(2,.pv (iV 32))] []:=by
 have hj:=qam hp
 refine RunsL.rounds (fun k=>[(1,.pp 1 0),(6,.pv (iV (k:Int)))]) (fun _=>[(1,0,.ls 0 l.length),(0,0,qag l)]) (N:=j+1) j (0+1) (by omega) (fun k h1 hk r=>?_) (qoi hq hp (qba (by omega)) (qba hj) (dt (by omega)) (qb1 j (by omega)) (dt (by omega)))
 obtain⟨m,rfl⟩:∃ m,k=m+1:=⟨k-1,by omega⟩
 obtain⟨q',hq'⟩:=qaj (l:=l) (k:=m) (by omega)
 obtain⟨p',hp'⟩:=qaj (l:=l) (k:=m+1) (by omega)
 exact qgY hq' hp' (qba (by omega)) (qba (by omega)) (dt (by omega)) (qb1 m (by omega)) (df (by have:=h m (by omega) q' p' hq' hp';omega)) (qk1 (n:=l.length) (by omega) hn) r
theorem qei (l:List Pt):Fn 47 1 [qax 0 l] [(0,0,qag l)] (.pv (iV (qdT l))) 0 []:=by
 rcases qdq l with ⟨h,e⟩ | ⟨h,⟨j,p,hp,hb,hf⟩,e⟩ | ⟨h,h1,⟨j,p,q,hq,hp,hb,hf⟩,e⟩ | ⟨h,h1,h2,e⟩<;>rw[e]
 ·exact qpr (dt (by omega))
 ·exact qqs (df (by omega)) (qfs h hp hb hf)
 ·exact qrg (df (by omega)) (qgL h h1) (qfK h hq hp hb hf)
 ·exact qun (df (by omega)) (qgL h h1) (qmR h h2)
structure Val (l:List Pt):Prop where
 len:l.length≤64
 ok:∀ p∈l,qhj p=true
 up:Up l
theorem qeU {l:List Pt}:qdT l=0↔Val l:=by
 rcases qdq l with ⟨h,e⟩ | ⟨h,⟨j,p,hp,hb,hf⟩,e⟩ | ⟨h,h1,⟨j,p,q,hq,hp,hb,hf⟩,e⟩ | ⟨h,h1,h2,e⟩<;>rw[e]
 ·exact⟨fun h=>by omega,fun v=>by have:=v.len;omega⟩
 ·exact⟨fun h=>by omega,fun v=>(hb (v.ok p (List.mem_of_getElem? hp))).elim⟩
 ·exact⟨fun h=>by omega,fun v=>(hb (v.up j q p hq hp)).elim⟩
 ·exact⟨fun _=>⟨h,h1,h2⟩,fun _=>rfl⟩
theorem place (l:List Pt) (hv:Val l) (id:Int):(∃ (k:Nat) (p:Pt),l[k]?=some p∧p.id=id)∨((∀ p∈l,p.id≠id)∧∃ k,k≤l.length∧(∀ (t:Nat) (p:Pt),t<k→l[t]?=some p→p.id<id)∧∀ (t:Nat) (p:Pt),k≤t→l[t]?=some p→id<p.id):=by
 by_cases h:∃ (k:Nat) (p:Pt),l[k]?=some p∧p.id=id
 ·exact Or.inl h
 ·refine Or.inr ⟨fun p hp e=>?_,?_⟩
  ·obtain⟨k,hk,rfl⟩:=List.getElem_of_mem hp
   exact h ⟨k,_,List.getElem?_eq_getElem hk,e⟩
  ·rcases qaL (fun k=>∀ p,l[k]?=some p→p.id<id) l.length with hh | ⟨j,hj,hn,hb⟩
   ·exact⟨l.length,Nat.le_refl _,fun t p ht hp=>hh t ht p hp,fun t p ht hp=>by have:=qam hp;omega⟩
   ·refine⟨j,by omega,fun t p ht hp=>hb t ht p hp,fun t p ht hp=>?_⟩
    simp only[Classical.not_forall,not_imp] at hn
    obtain⟨q,hq,hlt⟩:=hn
    have hne:q.id≠id:=fun e=>h ⟨j,q,hq,e⟩
    rcases Nat.lt_or_ge j t with h' | h'
    ·have:=hv.up.mono h' hq hp;omega
    ·have:t=j:=by omega
     subst this
     rw[hq] at hp
     cases hp
     omega
abbrev atT (id:Int) (k:Nat):List (Nat×SV):=[(1,.pv (iV id)),(2,.pp 1 0),(5,.pv (iV (k:Int)))]
theorem quL {l:List Pt} (hn:l.length≤64) {id:Int} (h:∀ p∈l,p.id≠id):Fn 43 1 [qax 0 l,.pv (iV id)] [(0,0,qag l)] (.pv (iV (-1))) 0 []:=
 qub (RunsL.rounds (atT id) (fun _=>[(1,0,.ls 0 l.length),(0,0,qag l)]) l.length 0 (Nat.zero_add _)
  (fun k _ hk r=>by
   obtain⟨p,hp⟩:=qaj hk
   exact qjK hp (qba hk) (dt (by omega)) (by simpa using h p (List.mem_of_getElem? hp)) (qk1 hk hn) r)
  (qrG (df (by omega))))
theorem qnt {l:List Pt} (hv:Val l) {id:Int} {k:Nat} {p:Pt} (hk:l[k]?=some p) (he:p.id=id):Fn 43 1 [qax 0 l,.pv (iV id)] [(0,0,qag l)] (.pv (iV (k:Int))) 0 []:=by
 refine qri (RunsL.rounds (atT id) (fun _=>[(1,0,.ls 0 l.length),(0,0,qag l)]) k 0 (Nat.zero_add _) (fun j _ hj r=>?_) (qrQ hk (qba (qam hk)) (dt (by have:=qam hk;omega)) (by simpa using he)))
 have hl:=qam hk
 obtain⟨q,hq⟩:=qaj (l:=l) (k:=j) (by omega)
 exact qjK hq (qba (qam hq)) (dt (by omega)) (by have:=hv.up.mono hj hq hk;simp;omega) (qk1 (qam hq) hv.len) r
end Go.Proofs.Ytalnjplghagbpaa

namespace Go.Proofs.Ytalnjplghagbpaa
set_option maxRecDepth 100000
open Go.RowKit
theorem qjY (l:List Pt):(¬ (l.length≤16∨64≤l.length∧l.length≤70)∧Fn 25 1 [qax 0 l] [(0,0,qag l)] (.pv (.bool true)) 0 [])∨
 ((l.length≤16∨64≤l.length∧l.length≤70)∧Fn 25 1 [qax 0 l] [(0,0,qag l)] (.pv (.bool false)) 0 []):=by
 by_cases h1:l.length>16
 ·by_cases h2:l.length<64
  ·exact Or.inl ⟨by omega,qpk (dt (by omega)) (dt (by omega))⟩
  ·by_cases h3:l.length>70
   ·exact Or.inl ⟨by omega,qlY (dt (by omega)) (df (by omega)) (dt (by omega))⟩
   ·exact Or.inr ⟨by omega,qmV (dt (by omega)) (df (by omega)) (df (by omega))⟩
 ·exact Or.inr ⟨by omega,qn8 (df (by omega)) (df (by omega))⟩
theorem qbW {α:Type} {l:List α} {k:Nat} {p:α} (h:l[k]?=some p):l.take (k+1)=l.take k++[p]:=by rw[List.take_add_one,h];rfl
end Go.Proofs.Ytalnjplghagbpaa

namespace Go.Proofs.Ytalnjplghagbpaa
set_option maxRecDepth 100000
open Go.RowKit
def ld (tn td:Int) (p q:Pt):Bool:=qcE (p.a*td+p.b*tn) (q.a*td+q.b*tn) p.b q.b p.id q.id
theorem qeb {P Q pb qb pi qi:Int}:qcE P Q pb qb pi qi=true↔(P>Q∨P=Q∧(pb>qb∨pb=qb∧pi<qi)):=by unfold qcE;exact decide_eq_true_iff
theorem qdA {P Q pb qb pi qi:Int}:qcE P Q pb qb pi qi=false↔¬ (P>Q∨P=Q∧(pb>qb∨pb=qb∧pi<qi)):=by unfold qcE;exact decide_eq_false_iff_not
section
variable {tn td:Int} {p q r:Pt}
theorem qnP (p:Pt):ld tn td p p=false:=qdA.2 (by omega)
theorem qdf (h:ld tn td p q=true) (k:ld tn td q r=true):ld tn td p r=true:=by
 unfold ld at *
 generalize p.a*td+p.b*tn=P at *
 generalize q.a*td+q.b*tn=Q at *
 generalize r.a*td+r.b*tn=R at *
 rw[qeb] at *
 omega
theorem qeH (h:ld tn td p q=true):ld tn td q p=false:=by
 cases hh:ld tn td q p
 ·rfl
 ·have:=qdf h hh;rw[qnP] at this;cases this
end
def rk (tn td:Int) (l:List Pt) (p:Pt):Nat:=l.countP fun q=>ld tn td q p
theorem qnj {tn td:Int}:∀ (s:List Pt) (k:Nat) (p:Pt),s.Pairwise (fun p q=>ld tn td p q=true)→s[k]?=some p→rk tn td s p=k
 | [],_,_,_,h=>by simp at h
 | a::r,0,p,hp,h=>by
  simp only[List.getElem?_cons_zero,Option.some.injEq] at h
  subst h
  rw[List.pairwise_cons] at hp
  unfold rk
  rw[List.countP_eq_zero]
  intro q hq
  rcases List.mem_cons.1 hq with rfl | hq
  ·rw[qnP];decide
  ·rw[qeH (hp.1 q hq)];decide
 | a::r,k+1,p,hp,h=>by
  rw[List.getElem?_cons_succ] at h
  rw[List.pairwise_cons] at hp
  have:=qnj r k p hp.2 h
  unfold rk at this ⊢
  rw[List.countP_cons,this,if_pos (hp.1 p (List.mem_of_getElem? h))]
structure Srt (l:List Pt) (tn td:Int) (s:List Pt):Prop where
 perm:s.Perm l
 pw:s.Pairwise (fun p q=>ld tn td p q=true)
theorem Srt.len {l s:List Pt} {tn td:Int} (h:Srt l tn td s):s.length=l.length:=h.perm.length_eq
theorem Srt.rank {l s:List Pt} {tn td:Int} (h:Srt l tn td s) {k:Nat} {p:Pt} (hk:s[k]?=some p):rk tn td l p=k:=by
 have:=qnj s k p h.pw hk
 unfold rk at this ⊢
 rw[← h.perm.countP_eq];exact this
theorem Srt.at {l s:List Pt} {tn td:Int} (h:Srt l tn td s) {p:Pt} (hp:p∈l):s[rk tn td l p]?=some p:=by
 obtain⟨k,hk,e⟩:=List.getElem_of_mem (h.perm.mem_iff.2 hp)
 have hk':s[k]?=some p:=by rw[List.getElem?_eq_getElem hk,e]
 rw[h.rank hk'];exact hk'
theorem Srt.lt {l s:List Pt} {tn td:Int} (h:Srt l tn td s) {p:Pt} (hp:p∈l):rk tn td l p<l.length:=by rw[← h.len];exact qam (h.at hp)
theorem Srt.uniq {l s t:List Pt} {tn td:Int} (h:Srt l tn td s) (k:Srt l tn td t):s=t:=by
 apply List.ext_getElem?
 intro i
 by_cases hi:i<t.length
 ·obtain⟨p,hp⟩:=qaj hi
  rw[hp]
  have:=h.at (k.perm.mem_iff.1 (List.mem_of_getElem? hp))
  rw[k.rank hp] at this
  exact this
 ·have e1:t[i]?=none:=List.getElem?_eq_none (by omega)
  have e2:s[i]?=none:=List.getElem?_eq_none (by have:=h.len;have:=k.len;omega)
  rw[e1,e2]
end Go.Proofs.Ytalnjplghagbpaa

namespace Go.Proofs.Ytalnjplghagbpaa
set_option maxRecDepth 100000
open Go.RowKit
structure Tm (tn td:Int):Prop where
 hn:I64 tn
 hd:I64 td
 ok:okB tn td=true
noncomputable def tE (l:List Pt) (tn td:Int):Int:=if qdT l=0 then (if okB tn td=true then 0 else 8) else qdT l
theorem qds {tn td:Int} (hn:I64 tn) (hd:I64 td) (l:List Pt):Fn 64 1 [qax 0 l,.pv (qaa tn td)] [(0,0,qag l)] (.pv (iV (tE l tn td))) 0 []:=by
 unfold tE
 by_cases h0:qdT l=0
 ·have c1:=qd8 l
  rw[h0] at c1
  rw[if_pos h0]
  by_cases hp:okB tn td=true
  ·rw[if_pos hp];exact qny c1 (qjI hn hd hp)
  ·rw[if_neg hp];exact qny c1 (qhP hn hd hp)
 ·rw[if_neg h0]
  exact qp2 (qd8 l) (by simp[h0])
theorem qik {l:List Pt} {tn td:Int} (hv:Val l) (ht:okB tn td=true):tE l tn td=0:=by unfold tE;rw[if_pos (qeU.2 hv),if_pos ht]
section
variable {l:List Pt} {tn td:Int}
end
end Go.Proofs.Ytalnjplghagbpaa
