/-
  How a clock, a field and a list of certificates come in; KheapRenews over them. Conditions: none.
-/
import Derived.Test.YtkckcgpmnipnaaaGreatW32
import Derived.Test.YtkckcgpmnipnaaaGreatW40
import Derived.Test.YtkckcgpmnipnaaaGreatW16
namespace Go.Proofs.YtkckcgpmnipnaaaGreat
set_option maxRecDepth 100000
open Go.ChangeShapes Go.WideShapes Go.ChangeAt Go.RowKit Go.Joins Go.Deep
theorem qAh:Tryz.prog.cellsOf 90=2:=by kernel_rfl
theorem qxA:Tryz.prog.cellsOf 3=1:=by kernel_rfl
theorem qqs:Tryz.prog.readableRec 49=true:=by kernel_rfl
theorem qxV:49<Tryz.prog.types.size:=of_decide_eq_true (by kernel_rfl)
theorem qoy:∀ (l:List P2) (v:Value),v∈p2V l→v.oneCell'=true
 | [],_,h=>by simp[p2V] at h
 | p::r,v,h=>by
  simp only[p2V,List.mem_cons] at h
  rcases h with rfl | rfl | h
  ·rfl
  ·rfl
  ·exact qoy r v h
theorem qjS:∀ l:List P2,(p2V l).length=l.length*2
 | []=>rfl
 | p::r=>by
  show (p2V r).length+1+1=_
  rw[qjS r,List.length_cons];omega
section
variable {H:Type} {enc:TypeId×Value→H} {W:World} {base:Nat} {spare:Nat→Bool} {held:Bool}
theorem qAY (f:Nat→P2):∀ (n j:Nat) (v:Value),(p2V ((List.range n).map f))[j]?=some v→j/2<n∧[iV (f (j/2)).a,iV (f (j/2)).b][j%2]?=some v:=by
 intro n j v h
 have hj:j<n*2:=by
  have:=(List.getElem?_eq_some_iff.1 h).1;rw[qjS] at this;simpa using this
 have hk:j/2<n:=by omega
 have hg:=qfD (l:=(List.range n).map f) (k:=j/2) (m:=f (j/2)) (by simp[hk]);refine⟨hk,?_⟩
 have h3:j%2=0∨j%2=1:=by omega
 have e:j=j/2*2+j%2:=by omega
 rw[e] at h
 rcases h3 with e3 | e3<;>rw[e3] at h ⊢
 ·rw[Nat.add_zero,hg.1] at h;exact h
 ·rw[hg.2] at h;exact h
theorem qnf {fuel:Nat} {cs:List Value} {x:DataW H×List MemPlace} (h:DataW.trod enc Tryz.prog W base spare held fuel 49 cs=some x) :
 ∃ (u:Value) (l:List P2),cs=[u]∧Rd W 2 u l.length (p2V l):=by
 rcases open_slice Tryz.underlying49 h with ⟨rfl,_⟩ | ⟨a,len,cap,m,n,D,Pl,rfl,_,hlc,_,hm,_,hi⟩
 ·exact⟨_,[],rfl,⟨rfl,none,0,rfl,Nat.le_refl _,fun j v hv=>by simp[p2V] at hv⟩⟩
 have hlm:len≤m:=by rw[hm];split<;>omega
 have each:∀ i,i<len→∃ p:P2,W.cell? (a.add (i*2))=some (iV p.a)∧W.cell? (a.add (i*2+1))=some (iV p.b):=by
  intro i hil;obtain⟨cs',hc,ht⟩:=hi i (by omega);rw[qAh] at hc;obtain⟨y0,y1,n',_,hlen,t0,t1⟩:=trod_struct2 Tryz.underlying90 ht;obtain⟨_,hcl,hat⟩:=World.cells?_some hc
  match cs',hcl with
  | [c0,c1],_=>
   obtain⟨pa,e0,_,w0⟩:=DataW.trod_int Tryz.underlying3 t0;obtain⟨pb,e1,_,w1⟩:=DataW.trod_int Tryz.underlying3 t1;simp[qxA] at e0 e1;refine⟨⟨pa,pb⟩,?_,?_⟩
   ·have:=hat 0 (by omega);rw[add_add] at this;simpa [e0] using this
   ·have:=hat 1 (by omega);rw[add_add] at this;simpa [e1] using this
 haveI:Inhabited P2:=⟨⟨0,0⟩⟩
 obtain⟨f,hf⟩:=choose_lt (α:=P2) each;refine⟨_,(List.range len).map f,rfl,⟨qjS _,some a,cap,by simp,by simpa using hlc,fun j v hv=>?_⟩⟩;obtain⟨hk,he⟩:=qAY f len j v hv;obtain⟨c0,c1⟩:=hf _ hk
 have hcell:W.cell? (a.add j)=some v:=by
  have h3:j%2=0∨j%2=1:=by omega
  have e:j=j/2*2+j%2:=by omega
  rcases h3 with e3 | e3<;>rw[e3] at he e<;>rw[e]<;>simp at he<;>subst he
  ·exact c0
  ·exact c1
 obtain⟨b,off,spot⟩:=a
 have hs:spot=none:=by simpa [Addr.add] using World.cell?_spot (hf 0 (by omega)).1
 subst hs;exact⟨b,off,rfl,by rw[← Go.WideShapes.add_plain];exact hcell⟩
theorem qr3 {r:Reach} {b0:Nat} {v:Value} {d:DataW H} {p:List MemPlace} (hv:Value.okWide Tryz.prog W r b0 49 v) (h:DataW.Trod enc Tryz.prog W base spare held 49 v d p) :
 ∃ l:List P2,Rd W 2 v l.length (p2V l):=by
 obtain⟨a,len,cap,rfl⟩:=okWide_slice Tryz.underlying49 hv;obtain⟨fuel,hf⟩:=h;obtain⟨u,l,hc,hr⟩:=qnf hf;simp[Value.cells] at hc;subst hc;exact⟨l,hr⟩
end
theorem qdm {W:World} {es n:Nat} {u:Value} {xs:List Value} (h:Rd W es u n xs):∃ a c,u=.slice a n c:=by
 obtain⟨_,a,c,rfl,_⟩:=h;exact⟨a,c,rfl⟩
abbrev qJu (c:Ck) (s:List Pt) (E:List P2):List (TypeId×Nat×Nat×List Value):=ckR c++[(137,3,s.length,qbs s)]++[(90,2,E.length,p2V E)]
theorem qyo {W:World} {c:Ck} {s:List Pt} {E:List P2} {u0 u1 u2 u3 u4 u5 u6 u7 uf ux:Value} {f:FuncId} (h:Fn f 10 [qar c,qaq 8 s,.ls 9 E.length] (qaA c++[(8,0,qaf s),(9,0,qdH E)]) (.pv (.bool true)) 0 []) (r:ZIns W [u0,u1,u2,u3,u4,u5,u6,u7] (ckR c)) (rf:Rd W 3 uf s.length (qbs s)) (rx:Rd W 2 ux E.length (p2V E)) :
 Calls Tryz.prog f #[.agg #[iV c.tn,iV c.td,u0,iV c.x,u1,u2,u3,u4,u5,u6,u7],.agg #[uf],ux] W fun e W'=>e=.returned (.bool true)∧Gr W W':=
 qqk (rs:=qJu c s E) (us:=[u0,u1,u2,u3,u4,u5,u6,u7,uf,ux]) (vs:=[.agg #[iV c.tn,iV c.td,u0,iV c.x,u1,u2,u3,u4,u5,u6,u7],.agg #[uf],ux]) h
  (ZIns.snoc (ZIns.snoc r rf (qfE s)) rx (qoy E)) (by
   match r with
   | .cons h0 _ (.cons h1 _ (.cons h2 _ (.cons h3 _ (.cons h4 _ (.cons h5 _ (.cons h6 _ (.cons h7 _ .nil)))))))=>
    exact⟨⟨[iV c.tn,iV c.td,u0,iV c.x,u1,u2,u3,u4,u5,u6,u7],⟨rfl,rfl,⟨rfl,qdm h0⟩,rfl,⟨rfl,qdm h1⟩,⟨rfl,qdm h2⟩,⟨rfl,qdm h3⟩,⟨rfl,qdm h4⟩,⟨rfl,qdm h5⟩,⟨rfl,qdm h6⟩,⟨rfl,qdm h7⟩,tI⟩,rfl⟩,⟨[uf],⟨⟨rfl,qdm rf⟩,tI⟩,rfl⟩,⟨rfl,qdm rx⟩,tI⟩)
theorem qhF (c:Ck) (h1:I64 c.tn) (h2:I64 c.td) (hi:∀ y∈c.ev,EvI y) (s:List Pt) (E:List P2):Fn 5 10 [qar c,qaq 8 s,.ls 9 E.length] (qaA c++[(8,0,qaf s),(9,0,qdH E)]) (.pv (.bool true)) 0 []:=qmm h1 h2 hi
end Go.Proofs.YtkckcgpmnipnaaaGreat
