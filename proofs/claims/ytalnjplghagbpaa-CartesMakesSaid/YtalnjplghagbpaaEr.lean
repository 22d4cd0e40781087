/-
  Trees that came in; a law run on them. Conditions: none.
-/
import Derived.Test.YtalnjplghagbpaaZj
import Derived.Test.YtalnjplghagbpaaW24
import Derived.Test.YtalnjplghagbpaaW28
import Derived.Deep.Strs
import Derived.Test.YtalnjplghagbpaaW19
namespace Go.Proofs.Ytalnjplghagbpaa
set_option maxRecDepth 100000
open Go.ChangeShapes Go.WideShapes Go.ChangeAt Go.RowKit Go.Joins Go.Deep
theorem qn1:Try.prog.cellsOf 26=3:=by kernel_rfl
theorem qoy:Try.prog.cellsOf 22=1:=by kernel_rfl
theorem qk6:Try.prog.cellsOf 24=2:=by kernel_rfl
theorem qi8:Try.prog.readableRec 24=true:=by kernel_rfl
theorem qmC:24<Try.prog.types.size:=of_decide_eq_true (by kernel_rfl)
section
variable {H:Type} {enc:TypeId×Value→H} {W:World} {base:Nat} {spare:Nat→Bool} {held:Bool}
theorem qhE {fuel:Nat} {cs:List Value} {x:DataW H×List MemPlace} (h:DataW.trod enc Try.prog W base spare held fuel 22 cs=some x) :
 ∃ (u:Value) (l:List Pt),cs=[u]∧Rd W 3 u l.length (qaz l):=by
 rcases open_slice Try.underlying22 h with ⟨rfl,_⟩ | ⟨a,len,cap,m,n,D,Pl,rfl,_,hlc,_,hm,_,hi⟩
 ·exact⟨_,[],rfl,⟨rfl,none,0,rfl,Nat.le_refl _,fun j v hv=>by simp[qaz] at hv⟩⟩
 have hlm:len≤m:=by rw[hm];split<;>omega
 have each:∀ i,i<len→∃ p:Pt,W.cell? (a.add (i*3))=some (iV p.id)∧W.cell? (a.add (i*3+1))=some (iV p.a)∧W.cell? (a.add (i*3+2))=some (iV p.b):=by
  intro i hil
  obtain⟨cs',hc,ht⟩:=hi i (by omega)
  rw[qn1] at hc
  obtain⟨y0,y1,y2,n',_,hlen,t0,s0,s1⟩:=trod_struct3 Try.underlying26 ht
  obtain⟨_,hcl,hat⟩:=World.cells?_some hc
  match cs',hcl with
  | [c0,c1,c2],_=>
   obtain⟨pi,e0,_,w0⟩:=DataW.trod_int Try.underlying3 t0
   obtain⟨pa,e1,_,w1⟩:=DataW.trod_int Try.underlying3 s0
   obtain⟨pb,e2,_,w2⟩:=DataW.trod_int Try.underlying3 s1
   simp[qtp] at e0 e1 e2
   refine⟨⟨pi,pa,pb⟩,?_,?_,?_⟩
   ·have:=hat 0 (by omega);rw[add_add] at this;simpa [e0] using this
   ·have:=hat 1 (by omega);rw[add_add] at this;simpa [e1] using this
   ·have:=hat 2 (by omega);rw[add_add] at this;simpa [e2] using this
 haveI:Inhabited Pt:=⟨⟨0,0,0⟩⟩
 obtain⟨f,hf⟩:=choose_lt (α:=Pt) each
 refine⟨_,(List.range len).map f,rfl,⟨qbE _,some a,cap,by simp,by simpa using hlc,fun j v hv=>?_⟩⟩
 obtain⟨hk,he⟩:=qmV f len j v hv
 obtain⟨c0,c1,c2⟩:=hf _ hk
 have hcell:W.cell? (a.add j)=some v:=by
  have h3:j%3=0∨j%3=1∨j%3=2:=by omega
  have e:j=j/3*3+j%3:=by omega
  rcases h3 with e3 | e3 | e3<;>rw[e3] at he e<;>rw[e]<;>simp at he<;>subst he
  ·exact c0
  ·exact c1
  ·exact c2
 obtain⟨b,off,spot⟩:=a
 have hs:spot=none:=by simpa [Addr.add] using World.cell?_spot (hf 0 (by omega)).1
 subst hs
 exact⟨b,off,rfl,by rw[← Go.WideShapes.add_plain];exact hcell⟩
theorem qfk {r:Reach} {b0:Nat} {v:Value} {d:DataW H} {p:List MemPlace} (hv:Value.okWide Try.prog W r b0 24 v) (h:DataW.Trod enc Try.prog W base spare held 24 v d p) :
 ∃ (x:Int) (u:Value) (l:List Pt),v=.agg #[iV x,u]∧Rd W 3 u l.length (qaz l):=by
 obtain⟨cs,rfl,hsz⟩:=okWide_struct Try.underlying24 hv
 obtain⟨fuel,hf⟩:=h
 obtain⟨y0,y1,n,_,hlen,h0,h1⟩:=trod_struct2 Try.underlying24 hf
 obtain⟨x,e0,_,_⟩:=DataW.trod_int Try.underlying3 h0
 obtain⟨u,l,hc,hr⟩:=qhE h1
 refine⟨x,u,l,?_,hr⟩
 rw[qoy] at hc
 rw[qtp] at e0
 have hs:cs.size=2:=hsz.trans qk6
 obtain⟨L⟩:=cs
 match L,hs with
 | [c0,c1],_=>
  simp[Value.cells] at hc e0
  rw[hc,e0]
end
section
variable {W:World} {f:FuncId} {s l m:List Pt} {x y:Int} {u v w:Value} {vs:List Value} {t i:Value}
theorem qpy (h:Fn f 3 (qav 0 s::.pv t::trS 1 x l::trS 2 y m::vs.map .pv) [(0,0,qag s),(1,0,qac l),(2,0,qac m)] (.pv (.bool true)) 0 [])
 (hs:Rd W 3 u s.length (qaz s)) (hl:Rd W 3 v l.length (qaz l)) (hm:Rd W 3 w m.length (qaz m)) :
 Calls Try.prog f (.agg #[u]::t::.agg #[iV x,v]::.agg #[iV y,w]::vs).toArray W fun e W'=>e=.returned (.bool true)∧Gr W W':=
 ql0 (rs:=[(80,3,s.length,qaz s),(26,3,l.length,qaz l),(26,3,m.length,qaz m)]) (us:=[u,v,w]) h
  (.cons hs (qeA s) (.cons hl (qeA l) (.cons hm (qeA m) .nil))) ⟨⟨[u],⟨⟨rfl,hs.zsl⟩,tI⟩,rfl⟩,rfl,⟨[iV x,v],⟨rfl,⟨rfl,hl.zsl⟩,tI⟩,rfl⟩,⟨[iV y,w],⟨rfl,⟨rfl,hm.zsl⟩,tI⟩,rfl⟩,SV.isl_v vs⟩
end
end Go.Proofs.Ytalnjplghagbpaa
