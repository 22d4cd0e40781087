/-
  Joined: Fi, Fq, Fm, Fn, Fr. Conditions: none.
-/
import Derived.Test.YtalnjplghagbpaaW23
import Derived.Test.YtalnjplghagbpaaW19
import Derived.ProofKit
import Derived.OpenShut
import Derived.Lib.SmallJoins
import Derived.Deep.Slices
import Derived.Deep.Strs
import Derived.Deep.Fields
import Derived.Carry
namespace Go.Proofs.Ytalnjplghagbpaa
set_option maxRecDepth 100000
open Go.RowKit
abbrev qrh (td:Int) (tn:Int):HpL:=[(0,0,.pv (iV tn)),(0,1,.pv (iV td))]
theorem qse {p q:Pt} {tn td:Int} (he:(p.id==q.id)=true) :
 Fn 106 1 [.pv (ptV p),.pv (ptV q),.pp 0 0] (qrh td tn) (.pv (iV (0))) 0 []:=
 Fz [] [.t true]
  tI (Ai he tI)
theorem qrY {p q:Pt} {tn td:Int} (he:(p.id==q.id)=false) (ha:Pure Try.prog 79 #[qab p.id p.a p.b,qab q.id q.a q.b,qaa tn td] (.tuple #[.bool true,iV 0])) :
 Fn 106 1 [.pv (ptV p),.pv (ptV q),.pp 0 0] (qrh td tn) (.pv (iV (-1))) 0 []:=
 Fz [] [.t false,Rf ha]
  tI (Ai he (Ai ha tI))
theorem qrW {p q:Pt} {tn td:Int} (he:(p.id==q.id)=false) (ha:Pure Try.prog 79 #[qab p.id p.a p.b,qab q.id q.a q.b,qaa tn td] (.tuple #[.bool false,iV 0])) :
 Fn 106 1 [.pv (ptV p),.pv (ptV q),.pp 0 0] (qrh td tn) (.pv (iV (1))) 0 []:=
 Fz [] [.t false,Rf ha]
  tI (Ai he (Ai ha tI))
abbrev qpb (l:List Pt) (m:Pt) (td:Int) (tn:Int):HpL:=[(0,0,qah l),(1,0,.pv (iV tn)),(1,1,.pv (iV td)),(3,0,.pv (iV (m).id)),(3,1,.pv (iV (m).a)),(3,2,.pv (iV (m).b)),(2,0,.pv (iV 0)),(2,1,.pv (iV 0)),(2,2,.pv (iV 0))]
abbrev qs2 (l:List Pt) (p:Pt) (td:Int) (tn:Int):HpL:=[(0,0,qah l),(1,0,.pv (iV tn)),(1,1,.pv (iV td)),(3,0,.pv (iV (p).id)),(3,1,.pv (iV (p).a)),(3,2,.pv (iV (p).b)),(2,0,.pv (iV 0)),(2,1,.pv (iV 0)),(2,2,.pv (iV 0))]
abbrev qs0 (k:Nat) (l:List Pt):TmL:=[(0,.ls 0 l.length),(1,.pc 106 [.pp 1 0]),(4,.pp 2 0),(5,.pp 3 0),(6,.pv (iV (k:Int)))]
theorem qrV {l:List Pt} {k:Nat} {p m:Pt} {c:Int} {tn td:Int} (hk:l[k]?=some p) (hin:0≤(k:Int)∧(k:Int)<(l.length:Int)) (hlt:decide ((k:Int)<(l.length:Int))=true) (hc:Fn 106 1 [.pv (ptV p),.pv (ptV m),.pp 0 0] (qrh td tn) (.pv (iV (c))) 0 []) (hz:decide (c<0)=true) (hs:iV (IntKind.i64.wrap ((k:Int)+1))=iV (((k+1:Nat):Int))) {e:Exit} {tm2:TmL} {hp2:HpL}
 (r:Rl 2 2 81 0 33 4 ([(0,.ls 0 l.length),(1,.pc 106 [.pp 1 0]),(4,.pp 2 0),(5,.pp 3 0),(6,.pv (iV ((k+1:Nat):Int)))]) (qs2 l p td tn) e tm2 hp2):Rl 2 2 81 0 33 4 (qs0 k l) (qpb l m td tn) e tm2 hp2:=
 RunsL.next [] 300 [.t true,.r (ptV p),Cf hc [1],.t true,.r (ptV p),Re hs]
  (Ro (Ai hlt (Ai hin (Ai (qaZ hk) (Co hc [1] 4 (Ai hz (Ai hin (Ai (qaZ hk) (Ai hs tI))))))))) r
theorem qsw {l:List Pt} {k:Nat} {p m:Pt} {c:Int} {tn td:Int} (hk:l[k]?=some p) (hin:0≤(k:Int)∧(k:Int)<(l.length:Int)) (hlt:decide ((k:Int)<(l.length:Int))=true) (hc:Fn 106 1 [.pv (ptV p),.pv (ptV m),.pp 0 0] (qrh td tn) (.pv (iV (c))) 0 []) (hz:decide (c<0)=false) (hs:iV (IntKind.i64.wrap ((k:Int)+1))=iV (((k+1:Nat):Int))) {e:Exit} {tm2:TmL} {hp2:HpL}
 (r:Rl 2 2 81 0 33 4 ([(0,.ls 0 l.length),(1,.pc 106 [.pp 1 0]),(4,.pp 2 0),(5,.pp 3 0),(6,.pv (iV ((k+1:Nat):Int)))]) (qpb l m td tn) e tm2 hp2):Rl 2 2 81 0 33 4 (qs0 k l) (qpb l m td tn) e tm2 hp2:=
 RunsL.next [] 300 [.t true,.r (ptV p),Cf hc [1],.t false,Re hs]
  (Ro (Ai hlt (Ai hin (Ai (qaZ hk) (Co hc [1] 4 (Ai hz (Ai hs tI))))))) r
theorem qpw {l:List Pt} {k:Nat} {m:Pt} {tn td:Int} (hge:decide ((k:Int)<(l.length:Int))=false):Rl 2 2 81 0 33 4 (qs0 k l) (qpb l m td tn) (.exit 0) ([(4,.pp 2 0),(5,.pp 3 0)]) (qpb l m td tn):=
 RunsL.stop [] 300 [.t false] (fun h=>by cases h)
  (Ro (Ai hge tI))
theorem qny {l:List Pt} {p m:Pt} {tn td:Int} (hk:l[0]?=some p) (hin:0≤(0:Int)∧(0:Int)<(l.length:Int)) (h1:decide ((l.length:Int)<1)=false) (r0:Rl 2 2 81 0 33 4 ([(0,.ls 0 l.length),(1,.pc 106 [.pp 1 0]),(4,.pp 2 0),(5,.pp 3 0),(6,.pv (iV ((0+1:Nat):Int)))]) (qs2 l p td tn) (.exit 0) ([(4,.pp 2 0),(5,.pp 3 0)]) (qpb l m td tn)) :
 Fn 81 2 [.ls 0 l.length,.pc 106 [.pp 1 0]] [(0,0,qah l),(1,0,.pv (iV tn)),(1,1,.pv (iV td))] (.pv (ptV m)) 0 []:=
 Fz [] [.t false,.r (ptV p),Lf r0]
  tI (Ai h1 (Ai hin (Ai (qaZ hk) (Lo r0 [] tI))))
theorem qlg {l:List Pt} {tn td:Int} (hc:Fn 80 1 [qay 0 l,.pv (qaa tn td)] [(0,0,qah l)] (.pv (iV (0))) 0 []) (h0:((l.length:Int)==0)=true) :
 Fn 42 1 [qay 0 l,.pv (qaa tn td)] [(0,0,qah l)] (.pv (.tuple #[iV (0),iV (42)])) 0 []:=
 Fz [] [Cf hc [0],.k,.t true]
  tI (Co hc [0] 3 (Ai h0 tI))
theorem qkj {l:List Pt} {m:Pt} {tn td:Int} (hc:Fn 80 1 [qay 0 l,.pv (qaa tn td)] [(0,0,qah l)] (.pv (iV (0))) 0 []) (h0:((l.length:Int)==0)=false) (hm:Fn 81 2 [.ls 0 l.length,.pc 106 [.pp 1 0]] [(0,0,qah l),(1,0,.pv (iV tn)),(1,1,.pv (iV td))] (.pv (ptV m)) 0 []) :
 Fn 42 1 [qay 0 l,.pv (qaa tn td)] [(0,0,qah l)] (.pv (.tuple #[iV (m.id),iV (0)])) 0 []:=
 Fz [] [Cf hc [0],.k,.t false,.k,Cf hm [0,3]]
  tI (Co hc [0] 3 (Ai h0 (Co hm [0,3] 4 tI)))
end Go.Proofs.Ytalnjplghagbpaa

namespace Go.Proofs.Ytalnjplghagbpaa
set_option maxRecDepth 100000
open Go.ChangeShapes Go.WideShapes Go.ChangeAt Go.RowKit Go.Joins Go.Deep
theorem qj1:Try.prog.cellsOf 37=1:=by kernel_rfl
theorem qqe:Try.prog.cellsOf 35=1:=by kernel_rfl
theorem qrj:Try.prog.cellsOf 80=3:=by kernel_rfl
theorem qo5:Try.prog.cellsOf 3=1:=by kernel_rfl
theorem qn4:Try.prog.cellsOf 2=1:=by kernel_rfl
theorem qlz:Try.prog.readableRec 37=true:=by kernel_rfl
theorem qnB:37<Try.prog.types.size:=of_decide_eq_true (by kernel_rfl)
section
variable {H:Type} {enc:TypeId×Value→H} {W:World} {base:Nat} {spare:Nat→Bool} {held:Bool}
theorem qpz (f:Nat→Pt):∀ (n j:Nat) (v:Value),(qaq ((List.range n).map f))[j]?=some v→j/3<n∧[iV (f (j/3)).id,iV (f (j/3)).a,iV (f (j/3)).b][j%3]?=some v:=by
 intro n j v h
 have hj:j<n*3:=by
  have:=(List.getElem?_eq_some_iff.1 h).1
  rw[qaT] at this
  simpa using this
 have hk:j/3<n:=by omega
 have hg:=qdi (l:=(List.range n).map f) (k:=j/3) (p:=f (j/3)) (by simp[hk])
 refine⟨hk,?_⟩
 have h3:j%3=0∨j%3=1∨j%3=2:=by omega
 have e:j=j/3*3+j%3:=by omega
 rw[e] at h
 rcases h3 with e3 | e3 | e3<;>rw[e3] at h ⊢
 ·rw[Nat.add_zero,hg.1] at h;exact h
 ·rw[hg.2.1] at h;exact h
 ·rw[hg.2.2] at h;exact h
theorem qkZ {fuel:Nat} {cs:List Value} {x:DataW H×List MemPlace} (h:DataW.trod enc Try.prog W base spare held fuel 35 cs=some x) :
 ∃ (u:Value) (l:List Pt),cs=[u]∧Rd W 3 u l.length (qaq l)∧∀ p∈l,((Lit.int .i64 p.id).wf=true∧(Lit.int .i64 p.a).wf=true∧(Lit.int .i64 p.b).wf=true):=by
 rcases open_slice Try.underlying35 h with ⟨rfl,_⟩ | ⟨a,len,cap,m,n,D,Pl,rfl,_,hlc,_,hm,_,hi⟩
 ·exact⟨_,[],rfl,⟨rfl,none,0,rfl,Nat.le_refl _,fun j v hv=>by simp[qaq] at hv⟩,fun p hp=>by simp at hp⟩
 have hlm:len≤m:=by rw[hm];split<;>omega
 have each:∀ i,i<len→∃ p:Pt,W.cell? (a.add (i*3))=some (iV p.id)∧W.cell? (a.add (i*3+1))=some (iV p.a)∧W.cell? (a.add (i*3+2))=some (iV p.b)∧
  ((Lit.int .i64 p.id).wf=true∧(Lit.int .i64 p.a).wf=true∧(Lit.int .i64 p.b).wf=true):=by
  intro i hil
  obtain⟨cs',hc,ht⟩:=hi i (by omega)
  rw[qrj] at hc
  obtain⟨y0,y1,y2,n',_,hlen,t0,t1,t2⟩:=trod_struct3 Try.underlying80 ht
  obtain⟨_,hcl,hat⟩:=World.cells?_some hc
  match cs',hcl with
  | [c0,c1,c2],_=>
   obtain⟨pi,e0,_,w0⟩:=DataW.trod_int Try.underlying3 t0
   obtain⟨pa,e1,_,w1⟩:=DataW.trod_int Try.underlying2 t1
   obtain⟨pb,e2,_,w2⟩:=DataW.trod_int Try.underlying2 t2
   simp[qo5,qn4] at e0 e1 e2
   refine⟨⟨pi,pa,pb⟩,?_,?_,?_,w0,w1,w2⟩
   ·have:=hat 0 (by omega);rw[add_add] at this;simpa [e0] using this
   ·have:=hat 1 (by omega);rw[add_add] at this;simpa [e1] using this
   ·have:=hat 2 (by omega);rw[add_add] at this;simpa [e2] using this
 haveI:Inhabited Pt:=⟨⟨0,0,0⟩⟩
 obtain⟨f,hf⟩:=choose_lt (α:=Pt) each
 refine⟨_,(List.range len).map f,rfl,⟨qaT _,some a,cap,by simp,by simpa using hlc,fun j v hv=>?_⟩,fun p hp=>?_⟩
 ·obtain⟨hk,he⟩:=qpz f len j v hv
  obtain⟨c0,c1,c2,_⟩:=hf _ hk
  have hcell:W.cell? (a.add j)=some v:=by
   have h3:j%3=0∨j%3=1∨j%3=2:=by omega
   have e:j=j/3*3+j%3:=by omega
   rcases h3 with e3 | e3 | e3<;>rw[e3] at he e<;>rw[e]<;>simp at he<;>subst he
   ·exact c0
   ·exact c1
   ·exact c2
  obtain⟨b,off,spot⟩:=a
  have hs:spot=none:=by simpa [Addr.add] using World.cell?_spot (hf 0 (by omega)).1
  subst hs
  exact⟨b,off,rfl,by rw[← Go.WideShapes.add_plain];exact hcell⟩
 ·obtain⟨i,hi',rfl⟩:=List.mem_map.1 hp
  exact (hf i (List.mem_range.1 hi')).2.2.2
theorem qmk {r:Reach} {b0:Nat} {v:Value} {d:DataW H} {p:List MemPlace} (hv:Value.okWide Try.prog W r b0 37 v) (h:DataW.Trod enc Try.prog W base spare held 37 v d p) :
 ∃ (u:Value) (l:List Pt),v=.agg #[u]∧Rd W 3 u l.length (qaq l)∧∀ p∈l,((Lit.int .i64 p.id).wf=true∧(Lit.int .i64 p.a).wf=true∧(Lit.int .i64 p.b).wf=true):=by
 obtain⟨cs,rfl,hsz⟩:=okWide_struct Try.underlying37 hv
 obtain⟨fuel,hf⟩:=h
 obtain⟨y0,n,_,hlen,h0⟩:=trod_struct1 Try.underlying37 hf
 obtain⟨u,l,hc,hr,hb⟩:=qkZ h0
 refine⟨u,l,?_,hr,hb⟩
 rw[qqe] at hc
 have h1:cs.size=1:=hsz.trans qj1
 obtain⟨c0,rfl⟩:∃ c0,cs=#[c0]:=by
  obtain⟨L⟩:=cs
  match L,h1 with
  | [c0],_=>exact⟨c0,rfl⟩
 simp[Value.cells] at hc
 rw[hc]
end
theorem qeh:∀ (l:List Pt) (v:Value),v∈qaq l→v.oneCell'=true
 | [],_,h=>by simp[qaq] at h
 | p::r,v,h=>by
  simp only[qaq,List.mem_cons] at h
  rcases h with rfl | rfl | rfl | h
  ·rfl
  ·rfl
  ·rfl
  ·exact qeh r v h
end Go.Proofs.Ytalnjplghagbpaa

namespace Go.Proofs.Ytalnjplghagbpaa
set_option maxRecDepth 100000
open Go.RowKit
def qfD (p:Pt):Bool:=okP p.id p.a p.b
def Up (l:List Pt):Prop:=∀ (k:Nat) (p q:Pt),l[k]?=some p→l[k+1]?=some q→p.id<q.id
noncomputable def qeK (l:List Pt):Int:=open Classical in if 64<l.length then 4 else if ∀ p∈l,qfD p=true then (if Up l then 0 else 32) else 8
theorem qaS (P:Nat→Prop):∀ (N:Nat),(∀ k,k<N→P k)∨∃ j,j<N∧¬ P j∧∀ i,i<j→P i
 | 0=>Or.inl fun k hk=>by omega
 | N+1=>by
  rcases qaS P N with h | ⟨j,h1,h2⟩
  ·by_cases hN:P N
   ·exact Or.inl fun k hk=>by
     rcases Nat.lt_or_ge k N with h' | h'
     ·exact h k h'
     ·have:k=N:=by omega
      subst this;exact hN
   ·exact Or.inr ⟨N,by omega,hN,h⟩
  ·exact Or.inr ⟨j,by omega,h2⟩
theorem qap {α:Type} {l:List α} {k:Nat} (h:k<l.length):∃ p,l[k]?=some p:=⟨l[k],List.getElem?_eq_getElem h⟩
theorem qal {α:Type} {l:List α} {k:Nat} {p:α} (h:l[k]?=some p):k<l.length:=(List.getElem?_eq_some_iff.1 h).1
theorem qa0 {k n:Nat} (h:k<n):0≤(k:Int)∧(k:Int)<(n:Int):=⟨by omega,by omega⟩
theorem Up.mono {l:List Pt} (h:Up l):∀ {i j:Nat} {p q:Pt},i<j→l[i]?=some p→l[j]?=some q→p.id<q.id:=by
 intro i j
 induction j with
 | zero=>intro p q hij;omega
 | succ j ih=>
  intro p q hij hp hq
  by_cases e:i=j
  ·subst e;exact h i p q hp hq
  ·obtain⟨r,hr⟩:=qap (l:=l) (k:=j) (by have:=qal hq;omega)
   exact Int.lt_trans (ih (by omega) hp hr) (h j r q hr hq)
theorem qih {k n:Nat} (h:k<n) (hn:n≤64):iV (IntKind.i64.wrap ((k:Int)+1))=iV ((k+1:Nat):Int):=qak (by omega)
theorem qgy {l:List Pt} (hn:l.length≤64) (h:∀ p∈l,qfD p=true):Rl 1 1 75 0 44 2 [(1,.pp 1 0),(3,.pv (iV ((0:Nat):Int)))] [(1,0,.ls 0 l.length),(0,0,qah l)] (.exit 0) [(1,.pp 1 0)] [(1,0,.ls 0 l.length),(0,0,qah l)]:=
 RunsL.rounds (fun k=>[(1,.pp 1 0),(3,.pv (iV (k:Int)))]) (fun _=>[(1,0,.ls 0 l.length),(0,0,qah l)]) l.length 0 (Nat.zero_add _)
  (fun k _ hk r=>by
   obtain⟨p,hp⟩:=qap hk
   exact qg6 hp (qa0 hk) (dt (by omega)) (qdo (h p (List.mem_of_getElem? hp))) (qih hk hn) r)
  (qnv (df (by omega)))
theorem qeV {l:List Pt} (hn:l.length≤64) {j:Nat} {p:Pt} (hp:l[j]?=some p) (hb:¬ qfD p=true) (h:∀ i,i<j→∀ q,l[i]?=some q→qfD q=true):Rl 1 1 75 0 44 2 [(1,.pp 1 0),(3,.pv (iV ((0:Nat):Int)))] [(1,0,.ls 0 l.length),(0,0,qah l)] .ret [(2,.pv (iV 8))] []:=by
 have hj:=qal hp
 refine RunsL.rounds (fun k=>[(1,.pp 1 0),(3,.pv (iV (k:Int)))]) (fun _=>[(1,0,.ls 0 l.length),(0,0,qah l)]) j 0 (Nat.zero_add _) (fun k _ hk r=>?_) (qnq hp (qa0 hj) (dt (by omega)) (qfx hb))
 obtain⟨q,hq⟩:=qap (l:=l) (k:=k) (by omega)
 exact qg6 hq (qa0 (qal hq)) (dt (by omega)) (qdo (h k hk q hq)) (qih (qal hq) hn) r
theorem qbZ (k:Nat) (h:k≤1000000):iV (IntKind.i64.wrap (((k+1:Nat):Int)-1))=iV (k:Int):=by rw[show ((k+1:Nat):Int)-1=(k:Int) by omega,qax (by omega) (by omega)]
theorem qmx {l:List Pt} (hn:l.length≤64) (h:Up l):Rl 1 1 75 1 44 2 [(1,.pp 1 0),(4,.pv (iV ((0+1:Nat):Int)))] [(1,0,.ls 0 l.length),(0,0,qah l)] (.exit 2) [] []:=by
 by_cases h0:l.length=0
 ·exact qiC (k:=0+1) (df (by omega))
 refine RunsL.rounds (fun k=>[(1,.pp 1 0),(4,.pv (iV (k:Int)))]) (fun _=>[(1,0,.ls 0 l.length),(0,0,qah l)]) (N:=l.length) (l.length-1) (0+1) (by omega) (fun k h1 hk r=>?_) (qiC (df (by omega)))
 obtain⟨m,rfl⟩:∃ m,k=m+1:=⟨k-1,by omega⟩
 obtain⟨q,hq⟩:=qap (l:=l) (k:=m) (by omega)
 obtain⟨p,hp⟩:=qap hk
 exact qgS hq hp (qa0 (by omega)) (qa0 hk) (dt (by omega)) (qbZ m (by omega)) (df (by have:=h m q p hq hp;omega)) (qih hk hn) r
theorem qfq {l:List Pt} (hn:l.length≤64) {j:Nat} {p q:Pt} (hq:l[j]?=some q) (hp:l[j+1]?=some p) (hb:¬ q.id<p.id) (h:∀ i,i<j→∀ p q,l[i]?=some p→l[i+1]?=some q→p.id<q.id):Rl 1 1 75 1 44 2 [(1,.pp 1 0),(4,.pv (iV ((0+1:Nat):Int)))] [(1,0,.ls 0 l.length),(0,0,qah l)] .ret [(2,.pv (iV 32))] []:=by
 have hj:=qal hp
 refine RunsL.rounds (fun k=>[(1,.pp 1 0),(4,.pv (iV (k:Int)))]) (fun _=>[(1,0,.ls 0 l.length),(0,0,qah l)]) (N:=j+1) j (0+1) (by omega) (fun k h1 hk r=>?_) (qnK hq hp (qa0 (by omega)) (qa0 hj) (dt (by omega)) (qbZ j (by omega)) (dt (by omega)))
 obtain⟨m,rfl⟩:∃ m,k=m+1:=⟨k-1,by omega⟩
 obtain⟨q',hq'⟩:=qap (l:=l) (k:=m) (by omega)
 obtain⟨p',hp'⟩:=qap (l:=l) (k:=m+1) (by omega)
 exact qgS hq' hp' (qa0 (by omega)) (qa0 (by omega)) (dt (by omega)) (qbZ m (by omega)) (df (by have:=h m (by omega) q' p' hq' hp';omega)) (qih (n:=l.length) (by omega) hn) r
theorem qdN (l:List Pt):(64<l.length∧qeK l=4)∨(l.length≤64∧(∃ (j:Nat) (p:Pt),l[j]?=some p∧¬ qfD p=true∧∀ i,i<j→∀ q,l[i]?=some q→qfD q=true)∧qeK l=8)∨
 (l.length≤64∧(∀ p∈l,qfD p=true)∧(∃ (j:Nat) (p q:Pt),l[j]?=some q∧l[j+1]?=some p∧¬ q.id<p.id∧∀ i,i<j→∀ p q,l[i]?=some p→l[i+1]?=some q→p.id<q.id)∧qeK l=32)∨
 (l.length≤64∧(∀ p∈l,qfD p=true)∧Up l∧qeK l=0):=by
 by_cases h0:64<l.length
 ·exact Or.inl ⟨h0,by unfold qeK;rw[if_pos h0]⟩
 refine Or.inr ?_
 by_cases h1:∀ p∈l,qfD p=true
 ·refine Or.inr ?_
  by_cases h2:Up l
  ·exact Or.inr ⟨by omega,h1,h2,by unfold qeK;rw[if_neg h0,if_pos h1,if_pos h2]⟩
  ·refine Or.inl ⟨by omega,h1,?_,by unfold qeK;rw[if_neg h0,if_pos h1,if_neg h2]⟩
   rcases qaS (fun k=>∀ p q,l[k]?=some p→l[k+1]?=some q→p.id<q.id) l.length with h | ⟨j,hj,hn,hb⟩
   ·exact (h2 fun k p q hp hq=>h k (qal hp) p q hp hq).elim
   ·simp only[Classical.not_forall,not_imp] at hn
    obtain⟨p,q,hp,hq,hpq⟩:=hn
    exact⟨j,q,p,hp,hq,hpq,hb⟩
 ·refine Or.inl ⟨by omega,?_,by unfold qeK;rw[if_neg h0,if_neg h1]⟩
  rcases qaS (fun k=>∀ q,l[k]?=some q→qfD q=true) l.length with h | ⟨j,hj,hn,hb⟩
  ·exact (h1 fun p hp=>by obtain⟨k,hk,rfl⟩:=List.getElem_of_mem hp;exact h k hk _ (List.getElem?_eq_getElem hk)).elim
  ·simp only[Classical.not_forall,not_imp] at hn
   obtain⟨p,hp,hpq⟩:=hn
   exact⟨j,p,hp,hpq,hb⟩
theorem qef (l:List Pt):Fn 75 1 [qay 0 l] [(0,0,qah l)] (.pv (iV (qeK l))) 0 []:=by
 rcases qdN l with ⟨h,e⟩ | ⟨h,⟨j,p,hp,hb,hf⟩,e⟩ | ⟨h,h1,⟨j,p,q,hq,hp,hb,hf⟩,e⟩ | ⟨h,h1,h2,e⟩<;>rw[e]
 ·exact qnn (dt (by omega))
 ·exact qqW (df (by omega)) (qeV h hp hb hf)
 ·exact qqa (df (by omega)) (qgy h h1) (qfq h hq hp hb hf)
 ·exact qsI (df (by omega)) (qgy h h1) (qmx h h2)
abbrev pcT (l:List Pt) (k:Nat):List (Nat×SV):=[(1,.pp 1 0),(12,.ls 0 l.length),(13,.pv (iV (l.length:Int))),(14,.pv (iV (k:Int)))]
theorem qgF {l:List Pt} (hn:l.length≤64) (h:∀ p∈l,qfD p=true):Rl 1 1 47 0 45 2 (pcT l 0) [(1,0,.ls 0 l.length),(0,0,qah l)] (.exit 0) [(1,.pp 1 0)] [(1,0,.ls 0 l.length),(0,0,qah l)]:=
 RunsL.rounds (pcT l) (fun _=>[(1,0,.ls 0 l.length),(0,0,qah l)]) l.length 0 (Nat.zero_add _)
  (fun k _ hk r=>by
   obtain⟨p,hp⟩:=qap hk
   exact qgD hp (qa0 hk) (dt (by omega)) (qb1 (h p (List.mem_of_getElem? hp))) (qih hk hn) r)
  (qo8 (df (by omega)))
theorem qe8 {l:List Pt} (hn:l.length≤64) {j:Nat} {p:Pt} (hp:l[j]?=some p) (hb:¬ qfD p=true) (h:∀ i,i<j→∀ q,l[i]?=some q→qfD q=true):Rl 1 1 47 0 45 2 (pcT l 0) [(1,0,.ls 0 l.length),(0,0,qah l)] .ret [(2,.pv (iV 8))] []:=by
 have hj:=qal hp
 refine RunsL.rounds (pcT l) (fun _=>[(1,0,.ls 0 l.length),(0,0,qah l)]) j 0 (Nat.zero_add _) (fun k _ hk r=>?_) (qnh hp (qa0 hj) (dt (by omega)) (qgr hb))
 obtain⟨q,hq⟩:=qap (l:=l) (k:=k) (by omega)
 exact qgD hq (qa0 (qal hq)) (dt (by omega)) (qb1 (h k hk q hq)) (qih (qal hq) hn) r
theorem qlu {l:List Pt} (hn:l.length≤64) (h:Up l):Rl 1 1 47 1 45 2 [(1,.pp 1 0),(6,.pv (iV ((0+1:Nat):Int)))] [(1,0,.ls 0 l.length),(0,0,qah l)] (.exit 2) [] []:=by
 by_cases h0:l.length=0
 ·exact qje (k:=0+1) (df (by omega))
 refine RunsL.rounds (fun k=>[(1,.pp 1 0),(6,.pv (iV (k:Int)))]) (fun _=>[(1,0,.ls 0 l.length),(0,0,qah l)]) (N:=l.length) (l.length-1) (0+1) (by omega) (fun k h1 hk r=>?_) (qje (df (by omega)))
 obtain⟨m,rfl⟩:∃ m,k=m+1:=⟨k-1,by omega⟩
 obtain⟨q,hq⟩:=qap (l:=l) (k:=m) (by omega)
 obtain⟨p,hp⟩:=qap hk
 exact qhf hq hp (qa0 (by omega)) (qa0 hk) (dt (by omega)) (qbZ m (by omega)) (df (by have:=h m q p hq hp;omega)) (qih hk hn) r
theorem qeS {l:List Pt} (hn:l.length≤64) {j:Nat} {p q:Pt} (hq:l[j]?=some q) (hp:l[j+1]?=some p) (hb:¬ q.id<p.id) (h:∀ i,i<j→∀ p q,l[i]?=some p→l[i+1]?=some q→p.id<q.id):Rl 1 1 47 1 45 2 [(1,.pp 1 0),(6,.pv (iV ((0+1:Nat):Int)))] [(1,0,.ls 0 l.length),(0,0,qah l)] .ret [(2,.pv (iV 32))] []:=by
 have hj:=qal hp
 refine RunsL.rounds (fun k=>[(1,.pp 1 0),(6,.pv (iV (k:Int)))]) (fun _=>[(1,0,.ls 0 l.length),(0,0,qah l)]) (N:=j+1) j (0+1) (by omega) (fun k h1 hk r=>?_) (qpa hq hp (qa0 (by omega)) (qa0 hj) (dt (by omega)) (qbZ j (by omega)) (dt (by omega)))
 obtain⟨m,rfl⟩:∃ m,k=m+1:=⟨k-1,by omega⟩
 obtain⟨q',hq'⟩:=qap (l:=l) (k:=m) (by omega)
 obtain⟨p',hp'⟩:=qap (l:=l) (k:=m+1) (by omega)
 exact qhf hq' hp' (qa0 (by omega)) (qa0 (by omega)) (dt (by omega)) (qbZ m (by omega)) (df (by have:=h m (by omega) q' p' hq' hp';omega)) (qih (n:=l.length) (by omega) hn) r
theorem qcT (l:List Pt):Fn 47 1 [qay 0 l] [(0,0,qah l)] (.pv (iV (qeK l))) 0 []:=by
 rcases qdN l with ⟨h,e⟩ | ⟨h,⟨j,p,hp,hb,hf⟩,e⟩ | ⟨h,h1,⟨j,p,q,hq,hp,hb,hf⟩,e⟩ | ⟨h,h1,h2,e⟩<;>rw[e]
 ·exact qnu (dt (by omega))
 ·exact qpA (df (by omega)) (qe8 h hp hb hf)
 ·exact qrc (df (by omega)) (qgF h h1) (qeS h hq hp hb hf)
 ·exact qr6 (df (by omega)) (qgF h h1) (qlu h h2)
structure Val (l:List Pt):Prop where
 len:l.length≤64
 ok:∀ p∈l,qfD p=true
 up:Up l
theorem qgn {l:List Pt}:qeK l=0↔Val l:=by
 rcases qdN l with ⟨h,e⟩ | ⟨h,⟨j,p,hp,hb,hf⟩,e⟩ | ⟨h,h1,⟨j,p,q,hq,hp,hb,hf⟩,e⟩ | ⟨h,h1,h2,e⟩<;>rw[e]
 ·exact⟨fun h=>by omega,fun v=>by have:=v.len;omega⟩
 ·exact⟨fun h=>by omega,fun v=>(hb (v.ok p (List.mem_of_getElem? hp))).elim⟩
 ·exact⟨fun h=>by omega,fun v=>(hb (v.up j q p hq hp)).elim⟩
 ·exact⟨fun _=>⟨h,h1,h2⟩,fun _=>rfl⟩
theorem place (l:List Pt) (hv:Val l) (id:Int):(∃ (k:Nat) (p:Pt),l[k]?=some p∧p.id=id)∨((∀ p∈l,p.id≠id)∧∃ k,k≤l.length∧(∀ (t:Nat) (p:Pt),t<k→l[t]?=some p→p.id<id)∧∀ (t:Nat) (p:Pt),k≤t→l[t]?=some p→id<p.id):=by
 by_cases h:∃ (k:Nat) (p:Pt),l[k]?=some p∧p.id=id
 ·exact Or.inl h
 ·refine Or.inr ⟨fun p hp e=>?_,?_⟩
  ·obtain⟨k,hk,rfl⟩:=List.getElem_of_mem hp
   exact h ⟨k,_,List.getElem?_eq_getElem hk,e⟩
  ·rcases qaS (fun k=>∀ p,l[k]?=some p→p.id<id) l.length with hh | ⟨j,hj,hn,hb⟩
   ·exact⟨l.length,Nat.le_refl _,fun t p ht hp=>hh t ht p hp,fun t p ht hp=>by have:=qal hp;omega⟩
   ·refine⟨j,by omega,fun t p ht hp=>hb t ht p hp,fun t p ht hp=>?_⟩
    simp only[Classical.not_forall,not_imp] at hn
    obtain⟨q,hq,hlt⟩:=hn
    have hne:q.id≠id:=fun e=>h ⟨j,q,hq,e⟩
    rcases Nat.lt_or_ge j t with h' | h'
    ·have:=hv.up.mono h' hq hp;omega
    ·have:t=j:=by omega
     subst this
     rw[hq] at hp
     cases hp
     omega
abbrev atT (id:Int) (k:Nat):List (Nat×SV):=[(1,.pv (iV id)),(2,.pp 1 0),(5,.pv (iV (k:Int)))]
theorem qsk {l:List Pt} (hn:l.length≤64) {id:Int} (h:∀ p∈l,p.id≠id):Fn 43 1 [qay 0 l,.pv (iV id)] [(0,0,qah l)] (.pv (iV (-1))) 0 []:=
 qsf (RunsL.rounds (atT id) (fun _=>[(1,0,.ls 0 l.length),(0,0,qah l)]) l.length 0 (Nat.zero_add _)
  (fun k _ hk r=>by
   obtain⟨p,hp⟩:=qap hk
   exact qjg hp (qa0 hk) (dt (by omega)) (by simpa using h p (List.mem_of_getElem? hp)) (qih hk hn) r)
  (qpW (df (by omega))))
theorem qpO {l:List Pt} (hv:Val l) {id:Int} {k:Nat} {p:Pt} (hk:l[k]?=some p) (he:p.id=id):Fn 43 1 [qay 0 l,.pv (iV id)] [(0,0,qah l)] (.pv (iV (k:Int))) 0 []:=by
 refine qrb (RunsL.rounds (atT id) (fun _=>[(1,0,.ls 0 l.length),(0,0,qah l)]) k 0 (Nat.zero_add _) (fun j _ hj r=>?_) (qqP hk (qa0 (qal hk)) (dt (by have:=qal hk;omega)) (by simpa using he)))
 have hl:=qal hk
 obtain⟨q,hq⟩:=qap (l:=l) (k:=j) (by omega)
 exact qjg hq (qa0 (qal hq)) (dt (by omega)) (by have:=hv.up.mono hj hq hk;simp;omega) (qih (qal hq) hv.len) r
end Go.Proofs.Ytalnjplghagbpaa

namespace Go.Proofs.Ytalnjplghagbpaa
set_option maxRecDepth 100000
open Go.RowKit
theorem qjp (l:List Pt):(¬ (l.length≤16∨64≤l.length∧l.length≤70)∧Fn 25 1 [qay 0 l] [(0,0,qah l)] (.pv (.bool true)) 0 [])∨
 ((l.length≤16∨64≤l.length∧l.length≤70)∧Fn 25 1 [qay 0 l] [(0,0,qah l)] (.pv (.bool false)) 0 []):=by
 by_cases h1:l.length>16
 ·by_cases h2:l.length<64
  ·exact Or.inl ⟨by omega,qoz (dt (by omega)) (dt (by omega))⟩
  ·by_cases h3:l.length>70
   ·exact Or.inl ⟨by omega,qle (dt (by omega)) (df (by omega)) (dt (by omega))⟩
   ·exact Or.inr ⟨by omega,qms (dt (by omega)) (df (by omega)) (df (by omega))⟩
 ·exact Or.inr ⟨by omega,qox (df (by omega)) (df (by omega))⟩
theorem qe5 {α:Type} {l:List α} {k:Nat} {p:α} (h:l[k]?=some p):l.take (k+1)=l.take k++[p]:=by rw[List.take_add_one,h];rfl
end Go.Proofs.Ytalnjplghagbpaa

namespace Go.Proofs.Ytalnjplghagbpaa
set_option maxRecDepth 100000
open Go.RowKit
def ld (tn td:Int) (p q:Pt):Bool:=qcb (p.a*td+p.b*tn) (q.a*td+q.b*tn) p.b q.b p.id q.id
theorem qcJ {P Q pb qb pi qi:Int}:qcb P Q pb qb pi qi=true↔(P>Q∨P=Q∧(pb>qb∨pb=qb∧pi<qi)):=by unfold qcb;exact decide_eq_true_iff
theorem qbG {P Q pb qb pi qi:Int}:qcb P Q pb qb pi qi=false↔¬ (P>Q∨P=Q∧(pb>qb∨pb=qb∧pi<qi)):=by unfold qcb;exact decide_eq_false_iff_not
section
variable {tn td:Int} {p q r:Pt}
theorem qfj (p:Pt):ld tn td p p=false:=qbG.2 (by omega)
theorem qcz (h:ld tn td p q=true) (k:ld tn td q r=true):ld tn td p r=true:=by
 unfold ld at *
 generalize p.a*td+p.b*tn=P at *
 generalize q.a*td+q.b*tn=Q at *
 generalize r.a*td+r.b*tn=R at *
 rw[qcJ] at *
 omega
theorem qjw (h:ld tn td p q=false) (k:ld tn td q r=false):ld tn td p r=false:=by
 unfold ld at *
 generalize p.a*td+p.b*tn=P at *
 generalize q.a*td+q.b*tn=Q at *
 generalize r.a*td+r.b*tn=R at *
 rw[qbG] at *
 omega
theorem qcK (h:ld tn td p q=true):ld tn td q p=false:=by
 cases hh:ld tn td q p
 ·rfl
 ·have:=qcz h hh;rw[qfj] at this;cases this
theorem qqQ (hi:p.id≠q.id) (h:ld tn td p q=false):ld tn td q p=true:=by
 unfold ld at *
 generalize p.a*td+p.b*tn=P at *
 generalize q.a*td+q.b*tn=Q at *
 rw[qbG] at h
 rw[qcJ]
 omega
end
def rk (tn td:Int) (l:List Pt) (p:Pt):Nat:=l.countP fun q=>ld tn td q p
theorem qmM {tn td:Int}:∀ (s:List Pt) (k:Nat) (p:Pt),s.Pairwise (fun p q=>ld tn td p q=true)→s[k]?=some p→rk tn td s p=k
 | [],_,_,_,h=>by simp at h
 | a::r,0,p,hp,h=>by
  simp only[List.getElem?_cons_zero,Option.some.injEq] at h
  subst h
  rw[List.pairwise_cons] at hp
  unfold rk
  rw[List.countP_eq_zero]
  intro q hq
  rcases List.mem_cons.1 hq with rfl | hq
  ·rw[qfj];decide
  ·rw[qcK (hp.1 q hq)];decide
 | a::r,k+1,p,hp,h=>by
  rw[List.getElem?_cons_succ] at h
  rw[List.pairwise_cons] at hp
  have:=qmM r k p hp.2 h
  unfold rk at this ⊢
  rw[List.countP_cons,this,if_pos (hp.1 p (List.mem_of_getElem? h))]
structure Srt (l:List Pt) (tn td:Int) (s:List Pt):Prop where
 perm:s.Perm l
 pw:s.Pairwise (fun p q=>ld tn td p q=true)
theorem Srt.len {l s:List Pt} {tn td:Int} (h:Srt l tn td s):s.length=l.length:=h.perm.length_eq
theorem Srt.rank {l s:List Pt} {tn td:Int} (h:Srt l tn td s) {k:Nat} {p:Pt} (hk:s[k]?=some p):rk tn td l p=k:=by
 have:=qmM s k p h.pw hk
 unfold rk at this ⊢
 rw[← h.perm.countP_eq];exact this
theorem Srt.at {l s:List Pt} {tn td:Int} (h:Srt l tn td s) {p:Pt} (hp:p∈l):s[rk tn td l p]?=some p:=by
 obtain⟨k,hk,e⟩:=List.getElem_of_mem (h.perm.mem_iff.2 hp)
 have hk':s[k]?=some p:=by rw[List.getElem?_eq_getElem hk,e]
 rw[h.rank hk'];exact hk'
theorem Srt.lt {l s:List Pt} {tn td:Int} (h:Srt l tn td s) {p:Pt} (hp:p∈l):rk tn td l p<l.length:=by rw[← h.len];exact qal (h.at hp)
theorem Srt.uniq {l s t:List Pt} {tn td:Int} (h:Srt l tn td s) (k:Srt l tn td t):s=t:=by
 apply List.ext_getElem?
 intro i
 by_cases hi:i<t.length
 ·obtain⟨p,hp⟩:=qap hi
  rw[hp]
  have:=h.at (k.perm.mem_iff.1 (List.mem_of_getElem? hp))
  rw[k.rank hp] at this
  exact this
 ·have e1:t[i]?=none:=List.getElem?_eq_none (by omega)
  have e2:s[i]?=none:=List.getElem?_eq_none (by have:=h.len;have:=k.len;omega)
  rw[e1,e2]
theorem Srt.mk_of {l s:List Pt} {tn td:Int} (hv:Val l) (hp:s.Perm l) (h:s.Pairwise (fun p q=>ld tn td q p=false)):Srt l tn td s:=by
 have hne:l.Pairwise (fun p q=>p.id≠q.id):=by
  rw[List.pairwise_iff_getElem]
  intro i j hi hj hij
  have:=hv.up.mono hij (List.getElem?_eq_getElem hi) (List.getElem?_eq_getElem hj)
  omega
 have hns:s.Pairwise (fun p q=>p.id≠q.id):=(hp.pairwise_iff (fun h e=>h e.symm)).2 hne
 exact⟨hp,(h.and hns).imp fun ⟨a,b⟩=>qqQ (fun e=>b e.symm) a⟩
theorem qkM {l:List Pt} {tn td:Int} (hv:Val l):∃ s,Srt l tn td s:=by
 refine⟨l.mergeSort (fun p q=>!ld tn td q p),Srt.mk_of hv (List.mergeSort_perm _ _) ?_⟩
 have h:=List.pairwise_mergeSort (le:=fun p q:Pt=>!ld tn td q p) (fun a b c h1 h2=>?_) (fun a b=>?_) l
 ·exact h.imp fun {a b} h=>by simpa using h
 ·have h1':ld tn td b a=false:=by simpa using h1
  have h2':ld tn td c b=false:=by simpa using h2
  simp[qjw h2' h1']
 ·cases h:ld tn td b a
  ·simp
  ·simp[qcK h]
theorem qpU {l:List Pt} (hv:Val l) {p q:Pt} (hp:p∈l) (hq:q∈l) (e:p.id=q.id):p=q:=by
 obtain⟨i,hi,rfl⟩:=List.getElem_of_mem hp
 obtain⟨j,hj,rfl⟩:=List.getElem_of_mem hq
 rcases Nat.lt_trichotomy i j with h | h | h
 ·have:=hv.up.mono h (List.getElem?_eq_getElem hi) (List.getElem?_eq_getElem hj);omega
 ·subst h;rfl
 ·have:=hv.up.mono h (List.getElem?_eq_getElem hj) (List.getElem?_eq_getElem hi);omega
def cfL (tn td:Int) (p q:Pt):Int:=if p.id=q.id then 0 else if ld tn td p q=true then -1 else 1
theorem qnf {tn td:Int} {p q:Pt} (h:p.id=q.id→p=q):decide (cfL tn td p q<0)=ld tn td p q:=by
 unfold cfL
 by_cases e:p.id=q.id
 ·rw[if_pos e,h e,qfj];rfl
 ·rw[if_neg e]
  cases ld tn td p q<;>rfl
end Go.Proofs.Ytalnjplghagbpaa
