/-
  Joined: Fq, Fm, Fn, Fr, Fs, Ka, Kh2. Conditions: none.
-/
import Derived.Test.YtkjaanhddkkodaaGreatW23
import Derived.ProofKit
import Derived.OpenShut
import Derived.Lib.SmallJoins
import Derived.Deep.Slices
import Derived.Deep.Strs
import Derived.Deep.Fields
import Derived.Carry
import Derived.Test.YtkjaanhddkkodaaGreatW18
import Derived.Test.YtkjaanhddkkodaaGreatW19
namespace Go.Proofs.YtkjaanhddkkodaaGreat
set_option maxRecDepth 100000
open Go.ChangeShapes Go.WideShapes Go.ChangeAt Go.RowKit Go.Joins Go.Deep
theorem qor:Tryz.prog.cellsOf 26=1:=by kernel_rfl
theorem qBs:Tryz.prog.cellsOf 24=1:=by kernel_rfl
theorem qx6:Tryz.prog.cellsOf 57=3:=by kernel_rfl
theorem qu7:Tryz.prog.cellsOf 3=1:=by kernel_rfl
theorem qsP:Tryz.prog.cellsOf 2=1:=by kernel_rfl
theorem qra:Tryz.prog.readableRec 26=true:=by kernel_rfl
theorem qwr:26<Tryz.prog.types.size:=of_decide_eq_true (by kernel_rfl)
section
variable {H:Type} {enc:TypeId×Value→H} {W:World} {base:Nat} {spare:Nat→Bool} {held:Bool}
theorem ql5 (f:Nat→Pt):∀ (n j:Nat) (v:Value),(qbm ((List.range n).map f))[j]?=some v→j/3<n∧[iV (f (j/3)).id,iV (f (j/3)).a,iV (f (j/3)).b][j%3]?=some v:=by
 intro n j v h
 have hj:j<n*3:=by
  have:=(List.getElem?_eq_some_iff.1 h).1
  rw[qba] at this
  simpa using this
 have hk:j/3<n:=by omega
 have hg:=qcv (l:=(List.range n).map f) (k:=j/3) (p:=f (j/3)) (by simp[hk])
 refine⟨hk,?_⟩
 have h3:j%3=0∨j%3=1∨j%3=2:=by omega
 have e:j=j/3*3+j%3:=by omega
 rw[e] at h
 rcases h3 with e3 | e3 | e3<;>rw[e3] at h ⊢
 ·rw[Nat.add_zero,hg.1] at h;exact h
 ·rw[hg.2.1] at h;exact h
 ·rw[hg.2.2] at h;exact h
theorem qjQ {fuel:Nat} {cs:List Value} {x:DataW H×List MemPlace} (h:DataW.trod enc Tryz.prog W base spare held fuel 24 cs=some x) :
 ∃ (u:Value) (l:List Pt),cs=[u]∧Rd W 3 u l.length (qbm l)∧∀ p∈l,((Lit.int .i64 p.id).wf=true∧(Lit.int .i64 p.a).wf=true∧(Lit.int .i64 p.b).wf=true):=by
 rcases open_slice Tryz.underlying24 h with ⟨rfl,_⟩ | ⟨a,len,cap,m,n,D,Pl,rfl,_,hlc,_,hm,_,hi⟩
 ·exact⟨_,[],rfl,⟨rfl,none,0,rfl,Nat.le_refl _,fun j v hv=>by simp[qbm] at hv⟩,fun p hp=>by simp at hp⟩
 have hlm:len≤m:=by rw[hm];split<;>omega
 have each:∀ i,i<len→∃ p:Pt,W.cell? (a.add (i*3))=some (iV p.id)∧W.cell? (a.add (i*3+1))=some (iV p.a)∧W.cell? (a.add (i*3+2))=some (iV p.b)∧
  ((Lit.int .i64 p.id).wf=true∧(Lit.int .i64 p.a).wf=true∧(Lit.int .i64 p.b).wf=true):=by
  intro i hil
  obtain⟨cs',hc,ht⟩:=hi i (by omega)
  rw[qx6] at hc
  obtain⟨y0,y1,y2,n',_,hlen,t0,t1,t2⟩:=trod_struct3 Tryz.underlying57 ht
  obtain⟨_,hcl,hat⟩:=World.cells?_some hc
  match cs',hcl with
  | [c0,c1,c2],_=>
   obtain⟨pi,e0,_,w0⟩:=DataW.trod_int Tryz.underlying3 t0
   obtain⟨pa,e1,_,w1⟩:=DataW.trod_int Tryz.underlying2 t1
   obtain⟨pb,e2,_,w2⟩:=DataW.trod_int Tryz.underlying2 t2
   simp[qu7,qsP] at e0 e1 e2
   refine⟨⟨pi,pa,pb⟩,?_,?_,?_,w0,w1,w2⟩
   ·have:=hat 0 (by omega);rw[add_add] at this;simpa [e0] using this
   ·have:=hat 1 (by omega);rw[add_add] at this;simpa [e1] using this
   ·have:=hat 2 (by omega);rw[add_add] at this;simpa [e2] using this
 haveI:Inhabited Pt:=⟨⟨0,0,0⟩⟩
 obtain⟨f,hf⟩:=choose_lt (α:=Pt) each
 refine⟨_,(List.range len).map f,rfl,⟨qba _,some a,cap,by simp,by simpa using hlc,fun j v hv=>?_⟩,fun p hp=>?_⟩
 ·obtain⟨hk,he⟩:=ql5 f len j v hv
  obtain⟨c0,c1,c2,_⟩:=hf _ hk
  have hcell:W.cell? (a.add j)=some v:=by
   have h3:j%3=0∨j%3=1∨j%3=2:=by omega
   have e:j=j/3*3+j%3:=by omega
   rcases h3 with e3 | e3 | e3<;>rw[e3] at he e<;>rw[e]<;>simp at he<;>subst he
   ·exact c0
   ·exact c1
   ·exact c2
  obtain⟨b,off,spot⟩:=a
  have hs:spot=none:=by simpa [Addr.add] using World.cell?_spot (hf 0 (by omega)).1
  subst hs
  exact⟨b,off,rfl,by rw[← Go.WideShapes.add_plain];exact hcell⟩
 ·obtain⟨i,hi',rfl⟩:=List.mem_map.1 hp
  exact (hf i (List.mem_range.1 hi')).2.2.2
theorem qpv {r:Reach} {b0:Nat} {v:Value} {d:DataW H} {p:List MemPlace} (hv:Value.okWide Tryz.prog W r b0 26 v) (h:DataW.Trod enc Tryz.prog W base spare held 26 v d p) :
 ∃ (u:Value) (l:List Pt),v=.agg #[u]∧Rd W 3 u l.length (qbm l)∧∀ p∈l,((Lit.int .i64 p.id).wf=true∧(Lit.int .i64 p.a).wf=true∧(Lit.int .i64 p.b).wf=true):=by
 obtain⟨cs,rfl,hsz⟩:=okWide_struct Tryz.underlying26 hv
 obtain⟨fuel,hf⟩:=h
 obtain⟨y0,n,_,hlen,h0⟩:=trod_struct1 Tryz.underlying26 hf
 obtain⟨u,l,hc,hr,hb⟩:=qjQ h0
 refine⟨u,l,?_,hr,hb⟩
 rw[qBs] at hc
 have h1:cs.size=1:=hsz.trans qor
 obtain⟨c0,rfl⟩:∃ c0,cs=#[c0]:=by
  obtain⟨L⟩:=cs
  match L,h1 with
  | [c0],_=>exact⟨c0,rfl⟩
 simp[Value.cells] at hc
 rw[hc]
end
theorem qeN:∀ (l:List Pt) (v:Value),v∈qbm l→v.oneCell'=true
 | [],_,h=>by simp[qbm] at h
 | p::r,v,h=>by
  simp only[qbm,List.mem_cons] at h
  rcases h with rfl | rfl | rfl | h
  ·rfl
  ·rfl
  ·rfl
  ·exact qeN r v h
end Go.Proofs.YtkjaanhddkkodaaGreat

namespace Go.Proofs.YtkjaanhddkkodaaGreat
set_option maxRecDepth 100000
open Go.RowKit
def qhL (p:Pt):Bool:=okP p.id p.a p.b
def Up (l:List Pt):Prop:=∀ (k:Nat) (p q:Pt),l[k]?=some p→l[k+1]?=some q→p.id<q.id
noncomputable def qfq (l:List Pt):Int:=open Classical in if 64<l.length then 4 else if ∀ p∈l,qhL p=true then (if Up l then 0 else 32) else 8
theorem qaV (P:Nat→Prop):∀ (N:Nat),(∀ k,k<N→P k)∨∃ j,j<N∧¬ P j∧∀ i,i<j→P i
 | 0=>Or.inl fun k hk=>by omega
 | N+1=>by
  rcases qaV P N with h | ⟨j,h1,h2⟩
  ·by_cases hN:P N
   ·exact Or.inl fun k hk=>by
     rcases Nat.lt_or_ge k N with h' | h'
     ·exact h k h'
     ·have:k=N:=by omega
      subst this;exact hN
   ·exact Or.inr ⟨N,by omega,hN,h⟩
  ·exact Or.inr ⟨j,by omega,h2⟩
theorem qah {α:Type} {l:List α} {k:Nat} (h:k<l.length):∃ p,l[k]?=some p:=⟨l[k],List.getElem?_eq_getElem h⟩
theorem qaj {α:Type} {l:List α} {k:Nat} {p:α} (h:l[k]?=some p):k<l.length:=(List.getElem?_eq_some_iff.1 h).1
theorem qao {k n:Nat} (h:k<n):0≤(k:Int)∧(k:Int)<(n:Int):=⟨by omega,by omega⟩
theorem Up.mono {l:List Pt} (h:Up l):∀ {i j:Nat} {p q:Pt},i<j→l[i]?=some p→l[j]?=some q→p.id<q.id:=by
 intro i j
 induction j with
 | zero=>intro p q hij;omega
 | succ j ih=>
  intro p q hij hp hq
  by_cases e:i=j
  ·subst e;exact h i p q hp hq
  ·obtain⟨r,hr⟩:=qah (l:=l) (k:=j) (by have:=qaj hq;omega)
   exact Int.lt_trans (ih (by omega) hp hr) (h j r q hr hq)
theorem qoU {k n:Nat} (h:k<n) (hn:n≤64):iV (IntKind.i64.wrap ((k:Int)+1))=iV ((k+1:Nat):Int):=qau (by omega)
theorem qjZ {l:List Pt} (hn:l.length≤64) (h:∀ p∈l,qhL p=true):Rl 1 1 44 0 44 2 [(1,.pp 1 0),(3,.pv (iV ((0:Nat):Int)))] [(1,0,.ls 0 l.length),(0,0,qal l)] (.exit 0) [(1,.pp 1 0)] [(1,0,.ls 0 l.length),(0,0,qal l)]:=
 RunsL.rounds (fun k=>[(1,.pp 1 0),(3,.pv (iV (k:Int)))]) (fun _=>[(1,0,.ls 0 l.length),(0,0,qal l)]) l.length 0 (Nat.zero_add _)
  (fun k _ hk r=>by
   obtain⟨p,hp⟩:=qah hk
   exact qjs hp (qao hk) (dt (by omega)) (qfl (h p (List.mem_of_getElem? hp))) (qoU hk hn) r)
  (qwx (df (by omega)))
theorem qh3 {l:List Pt} (hn:l.length≤64) {j:Nat} {p:Pt} (hp:l[j]?=some p) (hb:¬ qhL p=true) (h:∀ i,i<j→∀ q,l[i]?=some q→qhL q=true):Rl 1 1 44 0 44 2 [(1,.pp 1 0),(3,.pv (iV ((0:Nat):Int)))] [(1,0,.ls 0 l.length),(0,0,qal l)] .ret [(2,.pv (iV 8))] []:=by
 have hj:=qaj hp
 refine RunsL.rounds (fun k=>[(1,.pp 1 0),(3,.pv (iV (k:Int)))]) (fun _=>[(1,0,.ls 0 l.length),(0,0,qal l)]) j 0 (Nat.zero_add _) (fun k _ hk r=>?_) (qtt hp (qao hj) (dt (by omega)) (qho hb))
 obtain⟨q,hq⟩:=qah (l:=l) (k:=k) (by omega)
 exact qjs hq (qao (qaj hq)) (dt (by omega)) (qfl (h k hk q hq)) (qoU (qaj hq) hn) r
theorem qbQ (k:Nat) (h:k≤1000000):iV (IntKind.i64.wrap (((k+1:Nat):Int)-1))=iV (k:Int):=by rw[show ((k+1:Nat):Int)-1=(k:Int) by omega,qai (by omega) (by omega)]
theorem qpn {l:List Pt} (hn:l.length≤64) (h:Up l):Rl 1 1 44 1 44 2 [(1,.pp 1 0),(4,.pv (iV ((0+1:Nat):Int)))] [(1,0,.ls 0 l.length),(0,0,qal l)] (.exit 2) [] []:=by
 by_cases h0:l.length=0
 ·exact qoQ (k:=0+1) (df (by omega))
 refine RunsL.rounds (fun k=>[(1,.pp 1 0),(4,.pv (iV (k:Int)))]) (fun _=>[(1,0,.ls 0 l.length),(0,0,qal l)]) (N:=l.length) (l.length-1) (0+1) (by omega) (fun k h1 hk r=>?_) (qoQ (df (by omega)))
 obtain⟨m,rfl⟩:∃ m,k=m+1:=⟨k-1,by omega⟩
 obtain⟨q,hq⟩:=qah (l:=l) (k:=m) (by omega)
 obtain⟨p,hp⟩:=qah hk
 exact qjC hq hp (qao (by omega)) (qao hk) (dt (by omega)) (qbQ m (by omega)) (df (by have:=h m q p hq hp;omega)) (qoU hk hn) r
theorem qhM {l:List Pt} (hn:l.length≤64) {j:Nat} {p q:Pt} (hq:l[j]?=some q) (hp:l[j+1]?=some p) (hb:¬ q.id<p.id) (h:∀ i,i<j→∀ p q,l[i]?=some p→l[i+1]?=some q→p.id<q.id):Rl 1 1 44 1 44 2 [(1,.pp 1 0),(4,.pv (iV ((0+1:Nat):Int)))] [(1,0,.ls 0 l.length),(0,0,qal l)] .ret [(2,.pv (iV 32))] []:=by
 have hj:=qaj hp
 refine RunsL.rounds (fun k=>[(1,.pp 1 0),(4,.pv (iV (k:Int)))]) (fun _=>[(1,0,.ls 0 l.length),(0,0,qal l)]) (N:=j+1) j (0+1) (by omega) (fun k h1 hk r=>?_) (qtD hq hp (qao (by omega)) (qao hj) (dt (by omega)) (qbQ j (by omega)) (dt (by omega)))
 obtain⟨m,rfl⟩:∃ m,k=m+1:=⟨k-1,by omega⟩
 obtain⟨q',hq'⟩:=qah (l:=l) (k:=m) (by omega)
 obtain⟨p',hp'⟩:=qah (l:=l) (k:=m+1) (by omega)
 exact qjC hq' hp' (qao (by omega)) (qao (by omega)) (dt (by omega)) (qbQ m (by omega)) (df (by have:=h m (by omega) q' p' hq' hp';omega)) (qoU (n:=l.length) (by omega) hn) r
theorem qeR (l:List Pt):(64<l.length∧qfq l=4)∨(l.length≤64∧(∃ (j:Nat) (p:Pt),l[j]?=some p∧¬ qhL p=true∧∀ i,i<j→∀ q,l[i]?=some q→qhL q=true)∧qfq l=8)∨
 (l.length≤64∧(∀ p∈l,qhL p=true)∧(∃ (j:Nat) (p q:Pt),l[j]?=some q∧l[j+1]?=some p∧¬ q.id<p.id∧∀ i,i<j→∀ p q,l[i]?=some p→l[i+1]?=some q→p.id<q.id)∧qfq l=32)∨
 (l.length≤64∧(∀ p∈l,qhL p=true)∧Up l∧qfq l=0):=by
 by_cases h0:64<l.length
 ·exact Or.inl ⟨h0,by unfold qfq;rw[if_pos h0]⟩
 refine Or.inr ?_
 by_cases h1:∀ p∈l,qhL p=true
 ·refine Or.inr ?_
  by_cases h2:Up l
  ·exact Or.inr ⟨by omega,h1,h2,by unfold qfq;rw[if_neg h0,if_pos h1,if_pos h2]⟩
  ·refine Or.inl ⟨by omega,h1,?_,by unfold qfq;rw[if_neg h0,if_pos h1,if_neg h2]⟩
   rcases qaV (fun k=>∀ p q,l[k]?=some p→l[k+1]?=some q→p.id<q.id) l.length with h | ⟨j,hj,hn,hb⟩
   ·exact (h2 fun k p q hp hq=>h k (qaj hp) p q hp hq).elim
   ·simp only[Classical.not_forall,not_imp] at hn
    obtain⟨p,q,hp,hq,hpq⟩:=hn
    exact⟨j,q,p,hp,hq,hpq,hb⟩
 ·refine Or.inl ⟨by omega,?_,by unfold qfq;rw[if_neg h0,if_neg h1]⟩
  rcases qaV (fun k=>∀ q,l[k]?=some q→qhL q=true) l.length with h | ⟨j,hj,hn,hb⟩
  ·exact (h1 fun p hp=>by obtain⟨k,hk,rfl⟩:=List.getElem_of_mem hp;exact h k hk _ (List.getElem?_eq_getElem hk)).elim
  ·simp only[Classical.not_forall,not_imp] at hn
   obtain⟨p,hp,hpq⟩:=hn
   exact⟨j,p,hp,hpq,hb⟩
abbrev fl (l:List Pt):List (Nat×Nat×SV):=[(0,0,qal l)]
theorem qf7 (l:List Pt):Fn 44 1 [qaB 0 l] [(0,0,qal l)] (.pv (iV (qfq l))) 0 []:=by
 rcases qeR l with ⟨h,e⟩ | ⟨h,⟨j,p,hp,hb,hf⟩,e⟩ | ⟨h,h1,⟨j,p,q,hq,hp,hb,hf⟩,e⟩ | ⟨h,h1,h2,e⟩<;>rw[e]
 ·exact qu8 (dt (by omega))
 ·exact qzG (df (by omega)) (qh3 h hp hb hf)
 ·exact qyB (df (by omega)) (qjZ h h1) (qhM h hq hp hb hf)
 ·exact qDD (df (by omega)) (qjZ h h1) (qpn h h2)
abbrev pcT (l:List Pt) (k:Nat):List (Nat×SV):=[(1,.pp 1 0),(12,.ls 0 l.length),(13,.pv (iV (l.length:Int))),(14,.pv (iV (k:Int)))]
theorem qj7 {l:List Pt} (hn:l.length≤64) (h:∀ p∈l,qhL p=true):Rl 1 1 48 0 45 2 (pcT l 0) [(1,0,.ls 0 l.length),(0,0,qal l)] (.exit 0) [(1,.pp 1 0)] [(1,0,.ls 0 l.length),(0,0,qal l)]:=
 RunsL.rounds (pcT l) (fun _=>[(1,0,.ls 0 l.length),(0,0,qal l)]) l.length 0 (Nat.zero_add _)
  (fun k _ hk r=>by
   obtain⟨p,hp⟩:=qah hk
   exact qka hp (qao hk) (dt (by omega)) (qc8 (h p (List.mem_of_getElem? hp))) (qoU hk hn) r)
  (qte (df (by omega)))
theorem qhn {l:List Pt} (hn:l.length≤64) {j:Nat} {p:Pt} (hp:l[j]?=some p) (hb:¬ qhL p=true) (h:∀ i,i<j→∀ q,l[i]?=some q→qhL q=true):Rl 1 1 48 0 45 2 (pcT l 0) [(1,0,.ls 0 l.length),(0,0,qal l)] .ret [(2,.pv (iV 8))] []:=by
 have hj:=qaj hp
 refine RunsL.rounds (pcT l) (fun _=>[(1,0,.ls 0 l.length),(0,0,qal l)]) j 0 (Nat.zero_add _) (fun k _ hk r=>?_) (qwD hp (qao hj) (dt (by omega)) (qjk hb))
 obtain⟨q,hq⟩:=qah (l:=l) (k:=k) (by omega)
 exact qka hq (qao (qaj hq)) (dt (by omega)) (qc8 (h k hk q hq)) (qoU (qaj hq) hn) r
theorem qrA {l:List Pt} (hn:l.length≤64) (h:Up l):Rl 1 1 48 1 45 2 [(1,.pp 1 0),(6,.pv (iV ((0+1:Nat):Int)))] [(1,0,.ls 0 l.length),(0,0,qal l)] (.exit 2) [] []:=by
 by_cases h0:l.length=0
 ·exact qnR (k:=0+1) (df (by omega))
 refine RunsL.rounds (fun k=>[(1,.pp 1 0),(6,.pv (iV (k:Int)))]) (fun _=>[(1,0,.ls 0 l.length),(0,0,qal l)]) (N:=l.length) (l.length-1) (0+1) (by omega) (fun k h1 hk r=>?_) (qnR (df (by omega)))
 obtain⟨m,rfl⟩:∃ m,k=m+1:=⟨k-1,by omega⟩
 obtain⟨q,hq⟩:=qah (l:=l) (k:=m) (by omega)
 obtain⟨p,hp⟩:=qah hk
 exact qkm hq hp (qao (by omega)) (qao hk) (dt (by omega)) (qbQ m (by omega)) (df (by have:=h m q p hq hp;omega)) (qoU hk hn) r
theorem qh9 {l:List Pt} (hn:l.length≤64) {j:Nat} {p q:Pt} (hq:l[j]?=some q) (hp:l[j+1]?=some p) (hb:¬ q.id<p.id) (h:∀ i,i<j→∀ p q,l[i]?=some p→l[i+1]?=some q→p.id<q.id):Rl 1 1 48 1 45 2 [(1,.pp 1 0),(6,.pv (iV ((0+1:Nat):Int)))] [(1,0,.ls 0 l.length),(0,0,qal l)] .ret [(2,.pv (iV 32))] []:=by
 have hj:=qaj hp
 refine RunsL.rounds (fun k=>[(1,.pp 1 0),(6,.pv (iV (k:Int)))]) (fun _=>[(1,0,.ls 0 l.length),(0,0,qal l)]) (N:=j+1) j (0+1) (by omega) (fun k h1 hk r=>?_) (qtK hq hp (qao (by omega)) (qao hj) (dt (by omega)) (qbQ j (by omega)) (dt (by omega)))
 obtain⟨m,rfl⟩:∃ m,k=m+1:=⟨k-1,by omega⟩
 obtain⟨q',hq'⟩:=qah (l:=l) (k:=m) (by omega)
 obtain⟨p',hp'⟩:=qah (l:=l) (k:=m+1) (by omega)
 exact qkm hq' hp' (qao (by omega)) (qao (by omega)) (dt (by omega)) (qbQ m (by omega)) (df (by have:=h m (by omega) q' p' hq' hp';omega)) (qoU (n:=l.length) (by omega) hn) r
theorem qdZ (l:List Pt):Fn 48 1 [qaB 0 l] [(0,0,qal l)] (.pv (iV (qfq l))) 0 []:=by
 rcases qeR l with ⟨h,e⟩ | ⟨h,⟨j,p,hp,hb,hf⟩,e⟩ | ⟨h,h1,⟨j,p,q,hq,hp,hb,hf⟩,e⟩ | ⟨h,h1,h2,e⟩<;>rw[e]
 ·exact qsS (dt (by omega))
 ·exact qzx (df (by omega)) (qhn h hp hb hf)
 ·exact qyd (df (by omega)) (qj7 h h1) (qh9 h hq hp hb hf)
 ·exact qCX (df (by omega)) (qj7 h h1) (qrA h h2)
structure Val (l:List Pt):Prop where
 len:l.length≤64
 ok:∀ p∈l,qhL p=true
 up:Up l
theorem qcu {l:List Pt}:qfq l=0↔Val l:=by
 rcases qeR l with ⟨h,e⟩ | ⟨h,⟨j,p,hp,hb,hf⟩,e⟩ | ⟨h,h1,⟨j,p,q,hq,hp,hb,hf⟩,e⟩ | ⟨h,h1,h2,e⟩<;>rw[e]
 ·exact⟨fun h=>by omega,fun v=>by have:=v.len;omega⟩
 ·exact⟨fun h=>by omega,fun v=>(hb (v.ok p (List.mem_of_getElem? hp))).elim⟩
 ·exact⟨fun h=>by omega,fun v=>(hb (v.up j q p hq hp)).elim⟩
 ·exact⟨fun _=>⟨h,h1,h2⟩,fun _=>rfl⟩
theorem place (l:List Pt) (hv:Val l) (id:Int):(∃ (k:Nat) (p:Pt),l[k]?=some p∧p.id=id)∨((∀ p∈l,p.id≠id)∧∃ k,k≤l.length∧(∀ (t:Nat) (p:Pt),t<k→l[t]?=some p→p.id<id)∧∀ (t:Nat) (p:Pt),k≤t→l[t]?=some p→id<p.id):=by
 by_cases h:∃ (k:Nat) (p:Pt),l[k]?=some p∧p.id=id
 ·exact Or.inl h
 ·refine Or.inr ⟨fun p hp e=>?_,?_⟩
  ·obtain⟨k,hk,rfl⟩:=List.getElem_of_mem hp
   exact h ⟨k,_,List.getElem?_eq_getElem hk,e⟩
  ·rcases qaV (fun k=>∀ p,l[k]?=some p→p.id<id) l.length with hh | ⟨j,hj,hn,hb⟩
   ·exact⟨l.length,Nat.le_refl _,fun t p ht hp=>hh t ht p hp,fun t p ht hp=>by have:=qaj hp;omega⟩
   ·refine⟨j,by omega,fun t p ht hp=>hb t ht p hp,fun t p ht hp=>?_⟩
    simp only[Classical.not_forall,not_imp] at hn
    obtain⟨q,hq,hlt⟩:=hn
    have hne:q.id≠id:=fun e=>h ⟨j,q,hq,e⟩
    rcases Nat.lt_or_ge j t with h' | h'
    ·have:=hv.up.mono h' hq hp;omega
    ·have:t=j:=by omega
     subst this
     rw[hq] at hp
     cases hp
     omega
abbrev atT (id:Int) (k:Nat):List (Nat×SV):=[(1,.pv (iV id)),(2,.pp 1 0),(5,.pv (iV (k:Int)))]
theorem qCJ {l:List Pt} (hn:l.length≤64) {id:Int} (h:∀ p∈l,p.id≠id):Fn 72 1 [qaB 0 l,.pv (iV id)] [(0,0,qal l)] (.pv (iV (-1))) 0 []:=
 qC9 (RunsL.rounds (atT id) (fun _=>[(1,0,.ls 0 l.length),(0,0,qal l)]) l.length 0 (Nat.zero_add _)
  (fun k _ hk r=>by
   obtain⟨p,hp⟩:=qah hk
   exact qmM hp (qao hk) (dt (by omega)) (by simpa using h p (List.mem_of_getElem? hp)) (qoU hk hn) r)
  (qAd (df (by omega))))
theorem qma {l:List Pt} (hv:Val l) {id:Int} {k:Nat} {p:Pt} (hk:l[k]?=some p) (he:p.id=id):Fn 72 1 [qaB 0 l,.pv (iV id)] [(0,0,qal l)] (.pv (iV (k:Int))) 0 []:=by
 refine qy7 (RunsL.rounds (atT id) (fun _=>[(1,0,.ls 0 l.length),(0,0,qal l)]) k 0 (Nat.zero_add _) (fun j _ hj r=>?_) (qza hk (qao (qaj hk)) (dt (by have:=qaj hk;omega)) (by simpa using he)))
 have hl:=qaj hk
 obtain⟨q,hq⟩:=qah (l:=l) (k:=j) (by omega)
 exact qmM hq (qao (qaj hq)) (dt (by omega)) (by have:=hv.up.mono hj hq hk;simp;omega) (qoU (qaj hq) hv.len) r
end Go.Proofs.YtkjaanhddkkodaaGreat

namespace Go.Proofs.YtkjaanhddkkodaaGreat
set_option maxRecDepth 100000
open Go.RowKit
theorem qhr (l:List Pt):(¬ (l.length≤16∨64≤l.length∧l.length≤70)∧Fn 25 1 [qaB 0 l] [(0,0,qal l)] (.pv (.bool true)) 0 [])∨
 ((l.length≤16∨64≤l.length∧l.length≤70)∧Fn 25 1 [qaB 0 l] [(0,0,qal l)] (.pv (.bool false)) 0 []):=by
 by_cases h1:l.length>16
 ·by_cases h2:l.length<64
  ·exact Or.inl ⟨by omega,qwj (dt (by omega)) (dt (by omega))⟩
  ·by_cases h3:l.length>70
   ·exact Or.inl ⟨by omega,qo5 (dt (by omega)) (df (by omega)) (dt (by omega))⟩
   ·exact Or.inr ⟨by omega,qqO (dt (by omega)) (df (by omega)) (df (by omega))⟩
 ·exact Or.inr ⟨by omega,qt2 (df (by omega)) (df (by omega))⟩
theorem qbW {α:Type} {l:List α} {k:Nat} {p:α} (h:l[k]?=some p):l.take (k+1)=l.take k++[p]:=by rw[List.take_add_one,h];rfl
abbrev saT (k:Nat):List (Nat×SV):=[(2,.pp 2 0),(3,.pp 3 0),(5,.pv (iV (k:Int)))]
theorem qir {l:List Pt} (hn:l.length≤1000000):Fn 36 2 [qaB 0 l,qaB 1 l] [(0,0,qal l),(1,0,qal l)] (.pv (.bool true)) 0 []:=
 qpH (by simp) (RunsL.rounds saT (fun _=>[(2,0,.ls 0 l.length),(3,0,.ls 1 l.length),(0,0,qal l),(1,0,qal l)]) l.length 0 (Nat.zero_add _)
  (fun k _ hk r=>by
   obtain⟨p,hp⟩:=qah hk
   exact qmd hp (qao hk) hp (qao hk) (dt (by omega)) (by simp) (qau (by omega)) r)
  (qq9 (df (by omega))))
end Go.Proofs.YtkjaanhddkkodaaGreat

namespace Go.Proofs.YtkjaanhddkkodaaGreat
set_option maxRecDepth 100000
open Go.RowKit
def ld (tn td:Int) (p q:Pt):Bool:=qbg (p.a*td+p.b*tn) (q.a*td+q.b*tn) p.b q.b p.id q.id
theorem qlO {P Q pb qb pi qi:Int}:qbg P Q pb qb pi qi=true↔(P>Q∨P=Q∧(pb>qb∨pb=qb∧pi<qi)):=by unfold qbg;exact decide_eq_true_iff
theorem qip {P Q pb qb pi qi:Int}:qbg P Q pb qb pi qi=false↔¬ (P>Q∨P=Q∧(pb>qb∨pb=qb∧pi<qi)):=by unfold qbg;exact decide_eq_false_iff_not
section
variable {tn td:Int} {p q r:Pt}
theorem qsy (p:Pt):ld tn td p p=false:=qip.2 (by omega)
theorem qqd (h:ld tn td p q=true) (k:ld tn td q r=true):ld tn td p r=true:=by
 unfold ld at *
 generalize p.a*td+p.b*tn=P at *
 generalize q.a*td+q.b*tn=Q at *
 generalize r.a*td+r.b*tn=R at *
 rw[qlO] at *
 omega
theorem qup (h:ld tn td p q=true):ld tn td q p=false:=by
 cases hh:ld tn td q p
 ·rfl
 ·have:=qqd h hh;rw[qsy] at this;cases this
end
def rk (tn td:Int) (l:List Pt) (p:Pt):Nat:=l.countP fun q=>ld tn td q p
theorem qr6 {tn td:Int}:∀ (s:List Pt) (k:Nat) (p:Pt),s.Pairwise (fun p q=>ld tn td p q=true)→s[k]?=some p→rk tn td s p=k
 | [],_,_,_,h=>by simp at h
 | a::r,0,p,hp,h=>by
  simp only[List.getElem?_cons_zero,Option.some.injEq] at h
  subst h
  rw[List.pairwise_cons] at hp
  unfold rk
  rw[List.countP_eq_zero]
  intro q hq
  rcases List.mem_cons.1 hq with rfl | hq
  ·rw[qsy];decide
  ·rw[qup (hp.1 q hq)];decide
 | a::r,k+1,p,hp,h=>by
  rw[List.getElem?_cons_succ] at h
  rw[List.pairwise_cons] at hp
  have:=qr6 r k p hp.2 h
  unfold rk at this ⊢
  rw[List.countP_cons,this,if_pos (hp.1 p (List.mem_of_getElem? h))]
structure Srt (l:List Pt) (tn td:Int) (s:List Pt):Prop where
 perm:s.Perm l
 pw:s.Pairwise (fun p q=>ld tn td p q=true)
theorem Srt.len {l s:List Pt} {tn td:Int} (h:Srt l tn td s):s.length=l.length:=h.perm.length_eq
theorem Srt.rank {l s:List Pt} {tn td:Int} (h:Srt l tn td s) {k:Nat} {p:Pt} (hk:s[k]?=some p):rk tn td l p=k:=by
 have:=qr6 s k p h.pw hk
 unfold rk at this ⊢
 rw[← h.perm.countP_eq];exact this
theorem Srt.at {l s:List Pt} {tn td:Int} (h:Srt l tn td s) {p:Pt} (hp:p∈l):s[rk tn td l p]?=some p:=by
 obtain⟨k,hk,e⟩:=List.getElem_of_mem (h.perm.mem_iff.2 hp)
 have hk':s[k]?=some p:=by rw[List.getElem?_eq_getElem hk,e]
 rw[h.rank hk'];exact hk'
theorem Srt.lt {l s:List Pt} {tn td:Int} (h:Srt l tn td s) {p:Pt} (hp:p∈l):rk tn td l p<l.length:=by rw[← h.len];exact qaj (h.at hp)
end Go.Proofs.YtkjaanhddkkodaaGreat

namespace Go.Proofs.YtkjaanhddkkodaaGreat
set_option maxRecDepth 100000
open Go.RowKit
noncomputable def tE (l:List Pt) (tn td:Int):Int:=if qfq l=0 then (if okB tn td=true then 0 else 8) else qfq l
section
variable {l:List Pt} {tn td:Int}
end
end Go.Proofs.YtkjaanhddkkodaaGreat

namespace Go.Proofs.YtkjaanhddkkodaaGreat
set_option maxRecDepth 100000
open Go.RowKit
abbrev qag (a b:Int):Value:=.agg #[iV a,iV b]
abbrev qam (l:List Pt):SV:=.row 94 3 l.length (qbm l)
abbrev qaL (b:Nat) (x:Int) (l:List Pt):SV:=.ag [.pv (iV x),.ls b l.length]
theorem qdr {l:List Pt} {k:Nat} {p:Pt} (h:l[k]?=some p):qcQ (qbm l) (0*3+k*3+1) [iV p.a,iV p.b]:=by
 obtain⟨_,h2,h3⟩:=qcv h
 intro j v hj
 rw[show 0*3+k*3+1+j=k*3+1+j by omega]
 match j,hj with
 | 0,hj=>cases hj;exact h2
 | 1,hj=>cases hj;exact h3
 | j+2,hj=>simp at hj
theorem qjd {l:List Pt} {k:Nat} {p:Pt} (h:l[k]?=some p):qcQ (qbm l) (0*3+k*3+0) [iV p.id]:=qcK h
theorem qvO {l:List Pt} {k:Nat} {p:Pt} (h:l[k]?=some p):qcQ (qbm l) (0*3+k*3+1+0) [iV p.a]:=by
 intro j v hj
 rw[show 0*3+k*3+1+0+j=k*3+1+j by omega]
 match j,hj with
 | 0,hj=>cases hj;exact (qcv h).2.1
 | j+1,hj=>simp at hj
theorem qyV {l:List Pt} {k:Nat} {p:Pt} (h:l[k]?=some p):qcQ (qbm l) (0*3+k*3+1+1) [iV p.b]:=by
 intro j v hj
 rw[show 0*3+k*3+1+1+j=k*3+2+j by omega]
 match j,hj with
 | 0,hj=>cases hj;exact (qcv h).2.2
 | j+1,hj=>simp at hj
def qce (a b:Int):Bool:=decide (0≤a∧a≤65535∧0≤b∧b≤65535∧a≠b)
theorem qbn {a b:Int}:qce a b=true↔0≤a∧a≤65535∧0≤b∧b≤65535∧a≠b:=by simp[qce]
def Dis (l:List Pt):Prop:=∀ (i k:Nat) (p q:Pt),i<k→l[i]?=some p→l[k]?=some q→¬ (p.a=q.a∧p.b=q.b)
structure V8 (x:Int) (l:List Pt):Prop where
 len:l.length≤200
 ok:∀ p∈l,qce p.a p.b=true
 up:Up l
 lo:∀ p∈l,0≤p.id
 hi:∀ p∈l,p.id<x
 nx:0≤x∧x≤1000000
 dis:Dis l
noncomputable def qwT (x:Int) (l:List Pt):Int:=open Classical in if V8 x l then 0 else 8
theorem qdq {x:Int} {l:List Pt} (h:V8 x l):qwT x l=0:=by unfold qwT;rw[if_pos h]
theorem qbx {x:Int} {l:List Pt} (h:¬ V8 x l):qwT x l=8:=by unfold qwT;rw[if_neg h]
def qlc (m:List Pt):List (Value×Value):=m.map fun p=>(qag p.a p.b,.bool true)
abbrev qcT (m:List Pt):List Value:=kvL (qlc m)
theorem qgg {a b c d:Int} (h:qag a b=qag c d):a=c∧b=d:=by
 injection h with h
 injection h with h
 injection h with h1 h2
 injection h2 with h2 _
 injection h1 with _ h1
 injection h2 with _ h2
 exact⟨h1,h2⟩
theorem qgh (a b:Int):MapK Tryz.prog 250 48 4 (qag a b) (fun x=>∃ c d,x=qag c d) (.bool false):=
 qll (by kernel_rfl) Tryz.underlying48 (fun w=>qeL (by kernel_rfl) w)
  (fun e w=>by cases e<;>exact qeL (by kernel_rfl) w)
  (fun w x ⟨c,d,hx⟩=>by
   subst hx
   refine⟨(a==c&&(b==d&&true)),qjg w 40 _ _ _ _ (by kernel_rfl) Op.maxDepth (by decide),?_⟩
   rw[Bool.and_true,Bool.and_eq_true,beq_iff_eq,beq_iff_eq]
   exact⟨fun h=>by rw[h.1,h.2],fun h=>(qgg h).imp Eq.symm Eq.symm⟩)
theorem qnF (m:List Pt):∀ p∈qlc m,∃ c d,p.1=qag c d:=fun p hp=>by
 obtain⟨q,_,rfl⟩:=List.mem_map.1 hp
 exact⟨q.a,q.b,rfl⟩
theorem qu2 {m:List Pt} {p:Pt} (h:∀ q∈m,¬ (q.a=p.a∧q.b=p.b)):qfd Tryz.prog 250 (qcT m) (qag p.a p.b) false (.bool false):=
 quk (qgh p.a p.b) (qnF m) (fun q hq e=>by
  obtain⟨r,hr,rfl⟩:=List.mem_map.1 hq
  exact h r hr (qgg e)) false
theorem qq2 {m:List Pt} {p q:Pt} (hq:q∈m) (h:q.a=p.a∧q.b=p.b):qfd Tryz.prog 250 (qcT m) (qag p.a p.b) false (.bool true):=
 qpl (v:=.bool true) (qgh p.a p.b) (qnF m) (List.mem_map.2 ⟨q,hq,by rw[h.1,h.2]⟩) (fun r hr _=>by
  obtain⟨s,_,rfl⟩:=List.mem_map.1 hr
  rfl) false
theorem qqT {m:List Pt} {p:Pt} (h:∀ q∈m,¬ (q.a=p.a∧q.b=p.b)):qoB Tryz.prog 250 (qcT m) (qag p.a p.b) (.bool true) (qcT (m++[p])):=by
 have:=qvM (qgh p.a p.b) (qnF m) (fun q hq e=>by
  obtain⟨r,hr,rfl⟩:=List.mem_map.1 hq
  exact h r hr (qgg e)) (.bool true)
 show qoB _ _ _ _ _ (kvL (qlc (m++[p])))
 rw[show qlc (m++[p])=qlc m++[(qag p.a p.b,.bool true)] by simp[qlc]]
 exact this
end Go.Proofs.YtkjaanhddkkodaaGreat

namespace Go.Proofs.YtkjaanhddkkodaaGreat
set_option maxRecDepth 100000
open Go.RowKit
abbrev qil (l:List Pt) (s:List Pt) (x:Int):HpL:=[(2,0,.pv (iV x)),(2,1,.ls 0 l.length),(3,0,.ls 1 s.length),(0,0,qam l),(1,0,qal s)]
abbrev qrF (k:Nat):TmL:=[(2,.pp 2 0),(3,.pp 3 0),(5,.pv (iV (k:Int)))]
abbrev qu0 (p:Pt) (s:List Pt) (u1:Int):Prop:=Fn 72 1 [qaB 0 s,.pv (iV (p.a))] [(0,0,qal s)] (.pv (iV (u1))) 0 []
theorem qpP {l s:List Pt} {k:Nat} {p:Pt} {x u1 u2:Int} (hk:l[k]?=some p) (hin:0≤(k:Int)∧(k:Int)<(l.length:Int)) (hlt:decide ((k:Int)<(l.length:Int))=true) (ha:qu0 p s u1) (h1:decide (u1<0)=false) (hb:Fn 72 1 [qaB 0 s,.pv (iV (p.b))] [(0,0,qal s)] (.pv (iV (u2))) 0 []) (h2:decide (u2<0)=false) (hs:iV (IntKind.i64.wrap ((k:Int)+1))=iV (((k+1:Nat):Int))) {e:Exit} {tm2:TmL} {hp2:HpL}
 (r:Rl 2 2 45 0 35 4 ([(2,.pp 2 0),(3,.pp 3 0),(5,.pv (iV ((k+1:Nat):Int)))]) (qil l s x) e tm2 hp2):Rl 2 2 45 0 35 4 (qrF k) (qil l s x) e tm2 hp2:=
 RunsL.next [] 300 [.t true,.r (iV p.a),Cf ha [1],.t false,.r (iV p.b),Cf hb [1],.t false,Re hs]
  (Ro (Ai hlt (Ai hin (Ai (qvO hk) (Co ha [1] 4 (Ai h1 (Ai hin (Ai (qyV hk) (Co hb [1] 4 (Ai h2 (Ai hs tI))))))))))) r
theorem qx5 {l s:List Pt} {k:Nat} {p:Pt} {x u1:Int} (hk:l[k]?=some p) (hin:0≤(k:Int)∧(k:Int)<(l.length:Int)) (hlt:decide ((k:Int)<(l.length:Int))=true) (ha:qu0 p s u1) (h1:decide (u1<0)=true):Rl 2 2 45 0 35 4 (qrF k) (qil l s x) (.ret) ([(4,.pv (.bool false))]) ([]):=
 RunsL.stop [] 300 [.t true,.r (iV p.a),Cf ha [1],.t true] (fun h=>by cases h)
  (Ro (Ai hlt (Ai hin (Ai (qvO hk) (Co ha [1] 4 (Ai h1 tI))))))
theorem qyH {l s:List Pt} {k:Nat} {p:Pt} {x u1 u2:Int} (hk:l[k]?=some p) (hin:0≤(k:Int)∧(k:Int)<(l.length:Int)) (hlt:decide ((k:Int)<(l.length:Int))=true) (ha:qu0 p s u1) (h1:decide (u1<0)=false) (hb:Fn 72 1 [qaB 0 s,.pv (iV (p.b))] [(0,0,qal s)] (.pv (iV (u2))) 0 []) (h2:decide (u2<0)=true):Rl 2 2 45 0 35 4 (qrF k) (qil l s x) (.ret) ([(4,.pv (.bool false))]) ([]):=
 RunsL.stop [] 300 [.t true,.r (iV p.a),Cf ha [1],.t false,.r (iV p.b),Cf hb [1],.t true] (fun h=>by cases h)
  (Ro (Ai hlt (Ai hin (Ai (qvO hk) (Co ha [1] 4 (Ai h1 (Ai hin (Ai (qyV hk) (Co hb [1] 4 (Ai h2 tI))))))))))
theorem qtC {l s:List Pt} {k:Nat} {x:Int} (hge:decide ((k:Int)<(l.length:Int))=false):Rl 2 2 45 0 35 4 (qrF k) (qil l s x) (.exit 0) ([]) ([]):=
 RunsL.stop [] 300 [.t false] (fun h=>by cases h)
  (Ro (Ai hge tI))
theorem qAE {l s:List Pt} {x:Int} (r0:Rl 2 2 45 0 35 4 ([(2,.pp 2 0),(3,.pp 3 0),(5,.pv (iV ((0:Nat):Int)))]) (qil l s x) (.ret) ([(4,.pv (.bool false))]) ([])) :
 Fn 45 2 [qaL 0 x l,qaB 1 s] [(0,0,qam l),(1,0,qal s)] (.pv (.bool false)) 0 []:=
 Fz [] [Lf r0]
  tI (Lo r0 [] tI)
theorem qt8 {l s:List Pt} {x:Int} (r0:Rl 2 2 45 0 35 4 ([(2,.pp 2 0),(3,.pp 3 0),(5,.pv (iV ((0:Nat):Int)))]) (qil l s x) (.exit 0) ([]) ([])) :
 Fn 45 2 [qaL 0 x l,qaB 1 s] [(0,0,qam l),(1,0,qal s)] (.pv (.bool true)) 0 []:=
 Fz [] [Lf r0]
  tI (Lo r0 [] tI)
end Go.Proofs.YtkjaanhddkkodaaGreat
