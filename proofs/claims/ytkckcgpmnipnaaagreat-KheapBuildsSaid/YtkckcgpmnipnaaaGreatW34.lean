/-
  Joined: Kn, Kr, Zf. Conditions: none.
-/
import Derived.Test.YtkckcgpmnipnaaaGreatZj
import Derived.Test.YtkckcgpmnipnaaaGreatW27
import Derived.Test.YtkckcgpmnipnaaaGreatW29
import Derived.Test.YtkckcgpmnipnaaaGreatW21
import Derived.Test.YtkckcgpmnipnaaaGreatW30
import Derived.Test.YtkckcgpmnipnaaaGreatZe
namespace Go.Proofs.YtkckcgpmnipnaaaGreat
set_option maxRecDepth 100000
open Go.ChangeShapes Go.WideShapes Go.ChangeAt Go.RowKit Go.Joins Go.Deep
theorem qv8:Tryz.prog.cellsOf 171=3:=by kernel_rfl
theorem qyC:Tryz.prog.cellsOf 90=2:=by kernel_rfl
theorem qvt:Tryz.prog.cellsOf 27=1:=by kernel_rfl
theorem qky:Tryz.prog.cellsOf 29=2:=by kernel_rfl
section
variable {H:Type} {enc:TypeId×Value→H} {W:World} {base:Nat} {spare:Nat→Bool} {held:Bool}
theorem qox {fuel:Nat} {cs:List Value} {x:DataW H×List MemPlace} (h:DataW.trod enc Tryz.prog W base spare held fuel 27 cs=some x) :
 ∃ (u:Value) (l:List Pt),cs=[u]∧Rd W 3 u l.length (qa3 l):=by
 rcases open_slice Tryz.underlying27 h with ⟨rfl,_⟩ | ⟨a,len,cap,m,n,D,Pl,rfl,_,hlc,_,hm,_,hi⟩
 ·exact⟨_,[],rfl,⟨rfl,none,0,rfl,Nat.le_refl _,fun j v hv=>by simp[qa3] at hv⟩⟩
 have hlm:len≤m:=by rw[hm];split<;>omega
 have each:∀ i,i<len→∃ p:Pt,W.cell? (a.add (i*3))=some (iV p.id)∧W.cell? (a.add (i*3+1))=some (iV p.a)∧W.cell? (a.add (i*3+2))=some (iV p.b):=by
  intro i hil
  obtain⟨cs',hc,ht⟩:=hi i (by omega)
  rw[qv8] at hc
  obtain⟨y0,y1,n',_,hlen,t0,t1⟩:=trod_struct2 Tryz.underlying171 ht
  obtain⟨z0,z1,n2,_,hlen2,s0,s1⟩:=trod_struct2 Tryz.underlying90 t1
  obtain⟨_,hcl,hat⟩:=World.cells?_some hc
  match cs',hcl with
  | [c0,c1,c2],_=>
   obtain⟨pi,e0,_,w0⟩:=DataW.trod_int Tryz.underlying3 t0
   obtain⟨pa,e1,_,w1⟩:=DataW.trod_int Tryz.underlying3 s0
   obtain⟨pb,e2,_,w2⟩:=DataW.trod_int Tryz.underlying3 s1
   simp[qAV,qyC] at e0 e1 e2
   refine⟨⟨pi,pa,pb⟩,?_,?_,?_⟩
   ·have:=hat 0 (by omega);rw[add_add] at this;simpa [e0] using this
   ·have:=hat 1 (by omega);rw[add_add] at this;simpa [e1] using this
   ·have:=hat 2 (by omega);rw[add_add] at this;simpa [e2] using this
 haveI:Inhabited Pt:=⟨⟨0,0,0⟩⟩
 obtain⟨f,hf⟩:=choose_lt (α:=Pt) each
 refine⟨_,(List.range len).map f,rfl,⟨qaZ _,some a,cap,by simp,by simpa using hlc,fun j v hv=>?_⟩⟩
 obtain⟨hk,he⟩:=qmq f len j v hv
 obtain⟨c0,c1,c2⟩:=hf _ hk
 have hcell:W.cell? (a.add j)=some v:=by
  have h3:j%3=0∨j%3=1∨j%3=2:=by omega
  have e:j=j/3*3+j%3:=by omega
  rcases h3 with e3 | e3 | e3<;>rw[e3] at he e<;>rw[e]<;>simp at he<;>subst he
  ·exact c0
  ·exact c1
  ·exact c2
 obtain⟨b,off,spot⟩:=a
 have hs:spot=none:=by simpa [Addr.add] using World.cell?_spot (hf 0 (by omega)).1
 subst hs
 exact⟨b,off,rfl,by rw[← Go.WideShapes.add_plain];exact hcell⟩
end
end Go.Proofs.YtkckcgpmnipnaaaGreat

namespace Go.Proofs.YtkckcgpmnipnaaaGreat
set_option maxRecDepth 100000
open Go.RowKit
theorem qHO {f:FuncId} {y:Int} (h:Fn f 0 [] [] (.pv (.agg #[iV y,.slice none 0 0])) 0 []):Fn f 0 [] [] (.ag [.pv (iV y),.ls 0 0]) 1 [(0,0,qam [])]:=by
 intro w β us hH hd hi
 refine (h w β us hH hd hi).mono fun e w' ⟨v,β',he,hle,hx,hh,hd'⟩=>?_
 cases hx
 have hd0:=hd' 0 (by omega)
 have hle0:β'.le (β'.setG 0 (.slice none 0 0)):=Bl.le_setG hd0.1 hd0.2
 have ho:w'.ownsRow w.heap.size 171 3 (.slice none 0 0) 0 []:=⟨rfl,Or.inl ⟨rfl,rfl⟩⟩
 have look:∀ {b o:Nat} {s t:SV},qaf [(0,0,s)] b o=some t→b=0∧o=0∧t=s:=by
  intro b o s t h
  rw[qag] at h
  split at h
  ·rename_i e;cases h;exact⟨e.1.symm,e.2.symm,rfl⟩
  ·cases h
 refine⟨_,β'.setG 0 (.slice none 0 0),he,Bl.le_trans hle hle0,⟨[iV y,.slice none 0 0],⟨rfl,⟨Bl.setG_same _ _ _,none,0,rfl⟩,tI⟩,rfl⟩,?_,fun b hb=>⟨(hd' b (by omega)).1,by unfold Bl.setG;simp only[if_neg (show b≠0 by omega)];exact (hd' b (by omega)).2⟩⟩
 refine⟨hh.gr,hh.live,hh.inj,hh.new,fun c r hc=>?_,fun c o s hs hsr=>?_,fun c o e es n xs hs=>?_,fun c o e es n xs c' o' e' es' n' xs' u v hs hs' h1 h2 hne=>?_,fun c o xs hs=>?_⟩
 ·have hc':β' c=some r:=hc
  have:c≠0:=fun e=>by subst e;rw[hd0.1] at hc';cases hc'
  show (if c=0 then _ else β'.g c)=none
  rw[if_neg this]
  exact hh.sep c r hc'
 ·obtain⟨_,_,rfl⟩:=look hs;cases hsr
 ·obtain⟨rfl,_,e1⟩:=look hs
  cases e1
  exact⟨_,Bl.setG_same _ _ _,qdF ho,(fun v hv=>by cases hv),fun h=>by omega,fun _=>ho,fun _ c r hc hu=>by cases hu⟩
 ·exact (hne ((look hs).1.trans (look hs').1.symm)).elim
 ·obtain⟨_,_,e1⟩:=look hs;cases e1
theorem qiH {f:FuncId} {v:Value} (h:Pure Tryz.prog f #[] v):Fn f 0 [] [] (.pv v) 0 []:=by
 intro w β us hH hd hi
 match us,hi with
 | [],_=>
  refine (h w).mono fun e w' ⟨he,hg⟩=>⟨v,β,he,Bl.le_refl β,rfl,hH.gr_mono hg,hd⟩
theorem qgR:Fn 104 0 [] [] (.ag [.pv (iV 0),.ls 0 0]) 1 [(0,0,qam [])]:=qHO (qiH qHM)
theorem V8.none {x:Int} (h:0≤x∧x≤1000000):V8 x []:=⟨by simp,by simp,fun k p q hp=>by simp at hp,by simp,by simp,h,fun i k p q _ hp=>by simp at hp⟩
theorem qc9 {l:List Pt} {r p:Pt} {k:Nat} (h:(l++[r])[k]?=some p):l[k]?=some p∨(k=l.length∧p=r):=by
 rcases Nat.lt_or_ge k l.length with h1 | h1
 ·rw[List.getElem?_append_left h1] at h;exact Or.inl h
 ·have:=qaj h
  have e:k=l.length:=by simp at this;omega
  subst e
  simp at h
  exact Or.inr ⟨rfl,h.symm⟩
theorem V8.add {x a b:Int} {l:List Pt} (h:V8 x l) (hc:qbC a b=true) (hh:qeN l a b=false) (hn:l.length<200) (hx:x<1000000):V8 (x+1) (l++[Pt.mk x a b]) where
 len:=by simp;omega
 ok:=fun p hp=>by
  rcases List.mem_append.1 hp with hp | hp
  ·exact h.ok p hp
  ·simp at hp;subst hp;exact hc
 up:=fun k p q hp hq=>by
  rcases qc9 hq with hq | ⟨e,rfl⟩
  ·rcases qc9 hp with hp | ⟨e,_⟩
   ·exact h.up k p q hp hq
   ·have:=qaj hq;omega
  ·rcases qc9 hp with hp | ⟨e',_⟩
   ·exact h.hi p (List.mem_of_getElem? hp)
   ·omega
 lo:=fun p hp=>by
  rcases List.mem_append.1 hp with hp | hp
  ·exact h.lo p hp
  ·simp at hp;subst hp;exact h.nx.1
 hi:=fun p hp=>by
  rcases List.mem_append.1 hp with hp | hp
  ·have:=h.hi p hp;omega
  ·simp at hp;subst hp;show x<x+1;omega
 nx:=by have:=h.nx;omega
 dis:=fun i k p q hik hp hq=>by
  rcases qc9 hq with hq | ⟨e,rfl⟩
  ·rcases qc9 hp with hp | ⟨e,_⟩
   ·exact h.dis i k p q hik hp hq
   ·have:=qaj hq;omega
  ·rcases qc9 hp with hp | ⟨e',_⟩
   ·intro he
    have:qeN l a b=true:=qdN.2 ⟨p,List.mem_of_getElem? hp,he⟩
    rw[hh] at this;cases this
   ·omega
end Go.Proofs.YtkckcgpmnipnaaaGreat

namespace Go.Proofs.YtkckcgpmnipnaaaGreat
set_option maxRecDepth 100000
open Go.RowKit
theorem qF2 (a b c:Nat):SV.ag [.ls 6 (0+a),.ls 8 (0+b),.ls 10 (0+c)]=(SV.ag [.ls 3 a,.ls 4 b,.ls 5 c]).ren (qaK [(3,6),(4,8),(5,10)]):=by rw[Nat.zero_add,Nat.zero_add,Nat.zero_add];rfl
theorem qCW (g:List Int) (x:Int):some (SV.ls 6 (g.length+1))=some ((SV.ls 4 (g++[x]).length).ren (qaK [(4,6)])):=by rw[List.length_append];rfl
theorem qwc (g:List Int) (x:Int):some (SV.row 3 1 (g.length+1) (ziV g++[iV x]))=some (zrI (g++[x])):=by rw[zrI,qaW,List.length_append];rfl
abbrev qfI (b:List Bool) (fr:List Int) (u:List Int):HpL:=[(0,0,zrI u),(1,0,zrB b),(2,0,zrI fr)]
theorem qHS {u fr:List Int} {b:List Bool} (gu:decide ((u.length:Int)>210)=true) :
 Fn 135 3 [.ag [.ls 0 u.length,.ls 1 b.length,.ls 2 fr.length]] (qfI b fr u) (.pv (.bool true)) 0 []:=
 Fz [] [.t true]
  tI (Ai gu tI)
theorem qH8 {u fr:List Int} {b:List Bool} (gu:decide ((u.length:Int)>210)=false) (gb:decide ((b.length:Int)>210)=true) :
 Fn 135 3 [.ag [.ls 0 u.length,.ls 1 b.length,.ls 2 fr.length]] (qfI b fr u) (.pv (.bool true)) 0 []:=
 Fz [] [.t false,.t true]
  tI (Ai gu (Ai gb tI))
theorem qIe {u fr:List Int} {b:List Bool} (gu:decide ((u.length:Int)>210)=false) (gb:decide ((b.length:Int)>210)=false) (gf:decide ((fr.length:Int)>210)=true) :
 Fn 135 3 [.ag [.ls 0 u.length,.ls 1 b.length,.ls 2 fr.length]] (qfI b fr u) (.pv (.bool true)) 0 []:=
 Fz [] [.t false,.t false,.t true]
  tI (Ai gu (Ai gb (Ai gf tI)))
theorem qEF {u fr:List Int} {b:List Bool} (gu:decide ((u.length:Int)>210)=false) (gb:decide ((b.length:Int)>210)=false) (gf:decide ((fr.length:Int)>210)=false) :
 Fn 135 3 [.ag [.ls 0 u.length,.ls 1 b.length,.ls 2 fr.length]] (qfI b fr u) (.pv (.bool false)) 0 []:=
 Fz [] [.t false,.t false,.t false]
  tI (Ai gu (Ai gb (Ai gf tI)))
theorem qFz {u fr:List Int} {b:List Bool} (h1:decide ((u.length:Int)<1)=true) :
 Fn 185 3 [.ag [.ls 0 u.length,.ls 1 b.length,.ls 2 fr.length]] (qfI b fr u) (.pv (iV (8))) 0 []:=
 Fz [] [.t true]
  tI (Ai h1 tI)
theorem qG5 {u fr:List Int} {b:List Bool} (h1:decide ((u.length:Int)<1)=false) (h2:decide ((u.length:Int)>200)=true) :
 Fn 185 3 [.ag [.ls 0 u.length,.ls 1 b.length,.ls 2 fr.length]] (qfI b fr u) (.pv (iV (8))) 0 []:=
 Fz [] [.t false,.t true]
  tI (Ai h1 (Ai h2 tI))
theorem qFV {u fr:List Int} {b:List Bool} (h1:decide ((u.length:Int)<1)=false) (h2:decide ((u.length:Int)>200)=false) (h3:(!((b.length:Int)==(u.length:Int)))=true) :
 Fn 185 3 [.ag [.ls 0 u.length,.ls 1 b.length,.ls 2 fr.length]] (qfI b fr u) (.pv (iV (8))) 0 []:=
 Fz [] [.t false,.t false,.t true]
  tI (Ai h1 (Ai h2 (Ai h3 tI)))
theorem qEw {u fr:List Int} {b:List Bool} (h1:decide ((u.length:Int)<1)=false) (h2:decide ((u.length:Int)>200)=false) (h3:(!((b.length:Int)==(u.length:Int)))=false) (h4:decide ((fr.length:Int)>(u.length:Int))=true) :
 Fn 185 3 [.ag [.ls 0 u.length,.ls 1 b.length,.ls 2 fr.length]] (qfI b fr u) (.pv (iV (8))) 0 []:=
 Fz [] [.t false,.t false,.t false,.t true]
  tI (Ai h1 (Ai h2 (Ai h3 (Ai h4 tI))))
abbrev qgX (b:List Bool) (fr:List Int) (g:List Bool) (u:List Int):HpL:=[(3,0,.ls 0 u.length),(3,1,.ls 1 b.length),(3,2,.ls 2 fr.length),(0,0,zrI u),(1,0,zrB b),(2,0,zrI fr),(4,0,.row 4 1 u.length (zbV g))]
abbrev qDo (k:Nat) (u:List Int):TmL:=[(1,.pp 3 0),(3,.pv (iV (u.length:Int))),(4,.ls 4 u.length),(5,.pv (iV (k:Int)))]
theorem qvc {u fr:List Int} {b g:List Bool} {x:Int} {k:Nat} (hf:fr[k]?=some x) (hif:0≤(k:Int)∧(k:Int)<(fr.length:Int)) (hlt:decide ((k:Int)<(fr.length:Int))=true) (hx0:decide (x<0)=true):Rl 3 3 185 0 117 5 (qDo k u) (qgX b fr g u) (.ret) ([(2,.pv (iV 8))]) ([]):=
 RunsL.stop [] 300 [.t true,.r (iV x),.t true] (fun h=>by cases h)
  (Ro (Ai hlt (Ai hif (Ai (qaQ hf) (Ai hx0 tI)))))
theorem qu9 {u fr:List Int} {b g:List Bool} {x:Int} {k:Nat} (hf:fr[k]?=some x) (hif:0≤(k:Int)∧(k:Int)<(fr.length:Int)) (hlt:decide ((k:Int)<(fr.length:Int))=true) (hx0:decide (x<0)=false) (hx1:decide (x≥(u.length:Int))=true):Rl 3 3 185 0 117 5 (qDo k u) (qgX b fr g u) (.ret) ([(2,.pv (iV 8))]) ([]):=
 RunsL.stop [] 300 [.t true,.r (iV x),.t false,.r (iV x),.t true] (fun h=>by cases h)
  (Ro (Ai hlt (Ai hif (Ai (qaQ hf) (Ai hx0 (Ai hif (Ai (qaQ hf) (Ai hx1 tI))))))))
theorem qm0 {u fr:List Int} {b g:List Bool} {x:Int} {k:Nat} (hf:fr[k]?=some x) (hif:0≤(k:Int)∧(k:Int)<(fr.length:Int)) (hlt:decide ((k:Int)<(fr.length:Int))=true) (hx0:decide (x<0)=false) (hx1:decide (x≥(u.length:Int))=false) (hix:0≤x∧x<(u.length:Int)) (hg:g[x.toNat]?=some true):Rl 3 3 185 0 117 5 (qDo k u) (qgX b fr g u) (.ret) ([(2,.pv (iV 8))]) ([]):=
 RunsL.stop [] 300 [.t true,.r (iV x),.t false,.r (iV x),.t false,.r (iV x),.r (.bool true)] (fun h=>by cases h)
  (Ro (Ai hlt (Ai hif (Ai (qaQ hf) (Ai hx0 (Ai hif (Ai (qaQ hf) (Ai hx1 (Ai hif (Ai (qaQ hf) (Ai hix (Ai (qjD hg) tI))))))))))))
theorem qkE {u fr:List Int} {b g:List Bool} {x:Int} {k:Nat} (hf:fr[k]?=some x) (hif:0≤(k:Int)∧(k:Int)<(fr.length:Int)) (hlt:decide ((k:Int)<(fr.length:Int))=true) (hx0:decide (x<0)=false) (hx1:decide (x≥(u.length:Int))=false) (hix:0≤x∧x<(u.length:Int)) (hg:g[x.toNat]?=some false) (hgl:x.toNat<g.length) (hs:iV (IntKind.i64.wrap ((k:Int)+1))=iV (((k+1:Nat):Int))) {e:Exit} {tm2:TmL} {hp2:HpL}
 (r:Rl 3 3 185 0 117 5 ([(1,.pp 3 0),(3,.pv (iV (u.length:Int))),(4,.ls 4 u.length),(5,.pv (iV ((k+1:Nat):Int)))]) ([(3,0,.ls 0 u.length),(3,1,.ls 1 b.length),(3,2,.ls 2 fr.length),(0,0,zrI u),(1,0,zrB b),(2,0,zrI fr),(4,0,.row 4 1 u.length (zbV (g.set x.toNat true)))]) e tm2 hp2):Rl 3 3 185 0 117 5 (qDo k u) (qgX b fr g u) e tm2 hp2:=
 RunsL.next [] 300 [.t true,.r (iV x),.t false,.r (iV x),.t false,.r (iV x),.r (.bool false),.r (iV x),.w (zbV (g.set x.toNat true)),Re hs]
  (Ro (Ai hlt (Ai hif (Ai (qaQ hf) (Ai hx0 (Ai hif (Ai (qaQ hf) (Ai hx1 (Ai hif (Ai (qaQ hf) (Ai hix (Ai (qjD hg) (Ai hif (Ai (qaQ hf) (Ai hix (Ai (qzq g x.toNat true hgl) (Ai (qf9 g x.toNat hgl) (Ai hs tI)))))))))))))))))) r
theorem qwT {u fr:List Int} {b g:List Bool} {k:Nat} (hge:decide ((k:Int)<(fr.length:Int))=false):Rl 3 3 185 0 117 5 (qDo k u) (qgX b fr g u) (.exit 0) ([(1,.pp 3 0),(3,.pv (iV (u.length:Int))),(4,.ls 4 u.length)]) (qgX b fr g u):=
 RunsL.stop [] 300 [.t false] (fun h=>by cases h)
  (Ro (Ai hge tI))
abbrev qt3 (k:Nat) (u:List Int):TmL:=[(1,.pp 3 0),(3,.pv (iV (u.length:Int))),(4,.ls 4 u.length),(6,.pv (iV (k:Int)))]
theorem qwk {u fr:List Int} {b g:List Bool} {y:Int} {k:Nat} (hu:u[k]?=some y) (hiu:0≤(k:Int)∧(k:Int)<(u.length:Int)) (hlt:decide ((k:Int)<(u.length:Int))=true) (hy0:decide (y<0)=true):Rl 3 3 185 1 117 5 (qt3 k u) (qgX b fr g u) (.ret) ([(2,.pv (iV 8))]) ([]):=
 RunsL.stop [] 300 [.t true,.r (iV y),.t true] (fun h=>by cases h)
  (Ro (Ai hlt (Ai hiu (Ai (qaQ hu) (Ai hy0 tI)))))
theorem qxo {u fr:List Int} {b g:List Bool} {y:Int} {k:Nat} (hu:u[k]?=some y) (hiu:0≤(k:Int)∧(k:Int)<(u.length:Int)) (hlt:decide ((k:Int)<(u.length:Int))=true) (hy0:decide (y<0)=false) (hy1:decide (y>1000000)=true):Rl 3 3 185 1 117 5 (qt3 k u) (qgX b fr g u) (.ret) ([(2,.pv (iV 8))]) ([]):=
 RunsL.stop [] 300 [.t true,.r (iV y),.t false,.r (iV y),.t true] (fun h=>by cases h)
  (Ro (Ai hlt (Ai hiu (Ai (qaQ hu) (Ai hy0 (Ai hiu (Ai (qaQ hu) (Ai hy1 tI))))))))
theorem qjk {u fr:List Int} {b g:List Bool} {y:Int} {k:Nat} (hu:u[k]?=some y) (hiu:0≤(k:Int)∧(k:Int)<(u.length:Int)) (hlt:decide ((k:Int)<(u.length:Int))=true) (hy0:decide (y<0)=false) (hy1:decide (y>1000000)=false) (hb:b[k]?=some true) (hib:0≤(k:Int)∧(k:Int)<(b.length:Int)) (hg:g[k]?=some true):Rl 3 3 185 1 117 5 (qt3 k u) (qgX b fr g u) (.ret) ([(2,.pv (iV 8))]) ([]):=
 RunsL.stop [] 300 [.t true,.r (iV y),.t false,.r (iV y),.t false,.r (.bool true),.r (.bool true),.k] (fun h=>by cases h)
  (Ro (Ai hlt (Ai hiu (Ai (qaQ hu) (Ai hy0 (Ai hiu (Ai (qaQ hu) (Ai hy1 (Ai hib (Ai (qcG hb) (Ai hiu (Ai (qcG hg) tI))))))))))))
theorem qhx {u fr:List Int} {b g:List Bool} {y:Int} {k:Nat} (hu:u[k]?=some y) (hiu:0≤(k:Int)∧(k:Int)<(u.length:Int)) (hlt:decide ((k:Int)<(u.length:Int))=true) (hy0:decide (y<0)=false) (hy1:decide (y>1000000)=false) (hb:b[k]?=some false) (hib:0≤(k:Int)∧(k:Int)<(b.length:Int)) (hg:g[k]?=some false):Rl 3 3 185 1 117 5 (qt3 k u) (qgX b fr g u) (.ret) ([(2,.pv (iV 8))]) ([]):=
 RunsL.stop [] 300 [.t true,.r (iV y),.t false,.r (iV y),.t false,.r (.bool false),.r (.bool false),.k] (fun h=>by cases h)
  (Ro (Ai hlt (Ai hiu (Ai (qaQ hu) (Ai hy0 (Ai hiu (Ai (qaQ hu) (Ai hy1 (Ai hib (Ai (qcG hb) (Ai hiu (Ai (qcG hg) tI))))))))))))
theorem qgo {u fr:List Int} {b g:List Bool} {y:Int} {k:Nat} (hu:u[k]?=some y) (hiu:0≤(k:Int)∧(k:Int)<(u.length:Int)) (hlt:decide ((k:Int)<(u.length:Int))=true) (hy0:decide (y<0)=false) (hy1:decide (y>1000000)=false) (hb:b[k]?=some false) (hib:0≤(k:Int)∧(k:Int)<(b.length:Int)) (hg:g[k]?=some true) (hs:iV (IntKind.i64.wrap ((k:Int)+1))=iV (((k+1:Nat):Int))) {e:Exit} {tm2:TmL} {hp2:HpL}
 (r:Rl 3 3 185 1 117 5 ([(1,.pp 3 0),(3,.pv (iV (u.length:Int))),(4,.ls 4 u.length),(6,.pv (iV ((k+1:Nat):Int)))]) (qgX b fr g u) e tm2 hp2):Rl 3 3 185 1 117 5 (qt3 k u) (qgX b fr g u) e tm2 hp2:=
 RunsL.next [] 300 [.t true,.r (iV y),.t false,.r (iV y),.t false,.r (.bool false),.r (.bool true),.k,.r (.bool false),Re hs]
  (Ro (Ai hlt (Ai hiu (Ai (qaQ hu) (Ai hy0 (Ai hiu (Ai (qaQ hu) (Ai hy1 (Ai hib (Ai (qcG hb) (Ai hiu (Ai (qcG hg) (Ai hib (Ai (qcG hb) (Ai hs tI))))))))))))))) r
theorem qw2 {u fr:List Int} {b g:List Bool} {y:Int} {k:Nat} (hu:u[k]?=some y) (hiu:0≤(k:Int)∧(k:Int)<(u.length:Int)) (hlt:decide ((k:Int)<(u.length:Int))=true) (hy0:decide (y<0)=false) (hy1:decide (y>1000000)=false) (hb:b[k]?=some true) (hib:0≤(k:Int)∧(k:Int)<(b.length:Int)) (hg:g[k]?=some false) (hy2:decide (y<1)=true):Rl 3 3 185 1 117 5 (qt3 k u) (qgX b fr g u) (.ret) ([(2,.pv (iV 8))]) ([]):=
 RunsL.stop [] 300 [.t true,.r (iV y),.t false,.r (iV y),.t false,.r (.bool true),.r (.bool false),.k,.r (.bool true),.r (iV y),.t true] (fun h=>by cases h)
  (Ro (Ai hlt (Ai hiu (Ai (qaQ hu) (Ai hy0 (Ai hiu (Ai (qaQ hu) (Ai hy1 (Ai hib (Ai (qcG hb) (Ai hiu (Ai (qcG hg) (Ai hib (Ai (qcG hb) (Ai hiu (Ai (qaQ hu) (Ai hy2 tI)))))))))))))))))
theorem qgf {u fr:List Int} {b g:List Bool} {y:Int} {k:Nat} (hu:u[k]?=some y) (hiu:0≤(k:Int)∧(k:Int)<(u.length:Int)) (hlt:decide ((k:Int)<(u.length:Int))=true) (hy0:decide (y<0)=false) (hy1:decide (y>1000000)=false) (hb:b[k]?=some true) (hib:0≤(k:Int)∧(k:Int)<(b.length:Int)) (hg:g[k]?=some false) (hy2:decide (y<1)=false) (hs:iV (IntKind.i64.wrap ((k:Int)+1))=iV (((k+1:Nat):Int))) {e:Exit} {tm2:TmL} {hp2:HpL}
 (r:Rl 3 3 185 1 117 5 ([(1,.pp 3 0),(3,.pv (iV (u.length:Int))),(4,.ls 4 u.length),(6,.pv (iV ((k+1:Nat):Int)))]) (qgX b fr g u) e tm2 hp2):Rl 3 3 185 1 117 5 (qt3 k u) (qgX b fr g u) e tm2 hp2:=
 RunsL.next [] 300 [.t true,.r (iV y),.t false,.r (iV y),.t false,.r (.bool true),.r (.bool false),.k,.r (.bool true),.r (iV y),.t false,Re hs]
  (Ro (Ai hlt (Ai hiu (Ai (qaQ hu) (Ai hy0 (Ai hiu (Ai (qaQ hu) (Ai hy1 (Ai hib (Ai (qcG hb) (Ai hiu (Ai (qcG hg) (Ai hib (Ai (qcG hb) (Ai hiu (Ai (qaQ hu) (Ai hy2 (Ai hs tI)))))))))))))))))) r
theorem qwY {u fr:List Int} {b g:List Bool} {k:Nat} (hge:decide ((k:Int)<(u.length:Int))=false):Rl 3 3 185 1 117 5 (qt3 k u) (qgX b fr g u) (.exit 2) ([]) ([]):=
 RunsL.stop [] 300 [.t false] (fun h=>by cases h)
  (Ro (Ai hge tI))
theorem qGy {u fr:List Int} {b:List Bool} (h1:decide ((u.length:Int)<1)=false) (h2:decide ((u.length:Int)>200)=false) (h3:(!((b.length:Int)==(u.length:Int)))=false) (h4:decide ((fr.length:Int)>(u.length:Int))=false) (n0:0≤(u.length:Int)) (n1:(u.length:Int)≤1000000) (r0:Rl 3 3 185 0 117 5 ([(1,.pp 3 0),(3,.pv (iV (u.length:Int))),(4,.ls 4 u.length),(5,.pv (iV ((0:Nat):Int)))]) ([(3,0,.ls 0 u.length),(3,1,.ls 1 b.length),(3,2,.ls 2 fr.length),(0,0,zrI u),(1,0,zrB b),(2,0,zrI fr),(4,0,.row 4 1 u.length (zbV (List.replicate u.length false)))]) (.ret) ([(2,.pv (iV 8))]) ([])) :
 Fn 185 3 [.ag [.ls 0 u.length,.ls 1 b.length,.ls 2 fr.length]] (qfI b fr u) (.pv (iV (8))) 0 []:=
 Fz [] [.t false,.t false,.t false,.t false,Lf r0]
  tI (Ai h1 (Ai h2 (Ai h3 (Ai h4 (Ai n0 (Ai (Eq.refl (u.length:Int)) (Ai n1 (Ai (Lt r0 []) (Ai (Ai (Er (SV.ls 0 u.length)) (Ai (Er (SV.ls 1 b.length)) (Ai (Er (SV.ls 2 fr.length)) (Ai (Er (zrI u)) (Ai (Er (zrB b)) (Ai (Er (zrI fr)) (Ai (qb9 u.length) tI))))))) (Ai r0 tI))))))))))
abbrev qHf (b:List Bool) (fr:List Int) (g:List Bool) (u:List Int):Prop:=Rl 3 3 185 0 117 5 ([(1,.pp 3 0),(3,.pv (iV (u.length:Int))),(4,.ls 4 u.length),(5,.pv (iV ((0:Nat):Int)))]) ([(3,0,.ls 0 u.length),(3,1,.ls 1 b.length),(3,2,.ls 2 fr.length),(0,0,zrI u),(1,0,zrB b),(2,0,zrI fr),(4,0,.row 4 1 u.length (zbV (List.replicate u.length false)))]) (.exit 0) ([(1,.pp 3 0),(3,.pv (iV (u.length:Int))),(4,.ls 4 u.length)]) (qgX b fr g u)
theorem qFI {u fr:List Int} {b g:List Bool} (h1:decide ((u.length:Int)<1)=false) (h2:decide ((u.length:Int)>200)=false) (h3:(!((b.length:Int)==(u.length:Int)))=false) (h4:decide ((fr.length:Int)>(u.length:Int))=false) (n0:0≤(u.length:Int)) (n1:(u.length:Int)≤1000000) (r0:qHf b fr g u) (r1:Rl 3 3 185 1 117 5 ([(1,.pp 3 0),(3,.pv (iV (u.length:Int))),(4,.ls 4 u.length),(6,.pv (iV ((0:Nat):Int)))]) (qgX b fr g u) (.ret) ([(2,.pv (iV 8))]) ([])) :
 Fn 185 3 [.ag [.ls 0 u.length,.ls 1 b.length,.ls 2 fr.length]] (qfI b fr u) (.pv (iV (8))) 0 []:=
 Fz [] [.t false,.t false,.t false,.t false,Lf r0,Lf r1]
  tI (Ai h1 (Ai h2 (Ai h3 (Ai h4 (Ai n0 (Ai (Eq.refl (u.length:Int)) (Ai n1 (Ai (Lt r0 []) (Ai (Ai (Er (SV.ls 0 u.length)) (Ai (Er (SV.ls 1 b.length)) (Ai (Er (SV.ls 2 fr.length)) (Ai (Er (zrI u)) (Ai (Er (zrB b)) (Ai (Er (zrI fr)) (Ai (qb9 u.length) tI))))))) (Ai r0 (Lo r1 [] tI)))))))))))
theorem quX {u fr:List Int} {b g:List Bool} (h1:decide ((u.length:Int)<1)=false) (h2:decide ((u.length:Int)>200)=false) (h3:(!((b.length:Int)==(u.length:Int)))=false) (h4:decide ((fr.length:Int)>(u.length:Int))=false) (n0:0≤(u.length:Int)) (n1:(u.length:Int)≤1000000) (r0:qHf b fr g u) (r1:Rl 3 3 185 1 117 5 ([(1,.pp 3 0),(3,.pv (iV (u.length:Int))),(4,.ls 4 u.length),(6,.pv (iV ((0:Nat):Int)))]) (qgX b fr g u) (.exit 2) ([]) ([])) :
 Fn 185 3 [.ag [.ls 0 u.length,.ls 1 b.length,.ls 2 fr.length]] (qfI b fr u) (.pv (iV (0))) 0 []:=
 Fz [] [.t false,.t false,.t false,.t false,Lf r0,Lf r1]
  tI (Ai h1 (Ai h2 (Ai h3 (Ai h4 (Ai n0 (Ai (Eq.refl (u.length:Int)) (Ai n1 (Ai (Lt r0 []) (Ai (Ai (Er (SV.ls 0 u.length)) (Ai (Er (SV.ls 1 b.length)) (Ai (Er (SV.ls 2 fr.length)) (Ai (Er (zrI u)) (Ai (Er (zrB b)) (Ai (Er (zrI fr)) (Ai (qb9 u.length) tI))))))) (Ai r0 (Lo r1 [] tI)))))))))))
theorem rtw {u fr:List Int} {b:List Bool} (nu:0+u.length≤1000000) (nb:0+b.length≤1000000) (nf:0+fr.length≤1000000) :
 Fn 136 3 [.ag [.ls 0 u.length,.ls 1 b.length,.ls 2 fr.length]] (qfI b fr u) (.ag [.ls 3 u.length,.ls 4 b.length,.ls 5 fr.length]) 3 [(3,0,zrI u),(4,0,zrB b),(5,0,zrI fr)]:=
 Fx [(3,6),(4,8),(5,10)] [.md]
  (qF2 u.length b.length fr.length) (Ai (qd9 3 u.length (ziV u)) (Ai (qd9 4 b.length (zbV b)) (Ai (qd9 3 fr.length (ziV fr)) tI))) (Ai nu (Ai nb (Ai nf tI)))
abbrev qDH (g:List Int) (n:Nat):HpL:=[(0,0,.pv (.slice none 0 0)),(0,1,.pv (.slice none 0 0)),(0,2,.pv (.slice none 0 0)),(3,0,.ls 1 n),(3,1,.ls 2 n),(3,2,.ls 4 g.length),(1,0,.row 3 1 n (ziV (List.replicate n 0))),(2,0,.row 4 1 n (zbV (List.replicate n false))),(4,0,zrI g)]
theorem qxI {g:List Int} {n:Nat} {x y:Int} (hge:decide (x≥0)=true) (hn:g.length+1≤1000000) (hs:iV (IntKind.i64.wrap (x-1))=iV (y)) {e:Exit} {tm2:TmL} {hp2:HpL}
 (r:Rl 0 0 201 0 23 5 ([(2,.pp 0 0),(3,.pp 3 0),(4,.pv (iV (y)))]) ([(0,0,.pv (.slice none 0 0)),(0,1,.pv (.slice none 0 0)),(0,2,.pv (.slice none 0 0)),(3,0,.ls 1 n),(3,1,.ls 2 n),(3,2,.ls 4 (g++[x]).length),(1,0,.row 3 1 n (ziV (List.replicate n 0))),(2,0,.row 4 1 n (zbV (List.replicate n false))),(4,0,zrI (g++[x]))]) e tm2 hp2):Rl 0 0 201 0 23 5 ([(2,.pp 0 0),(3,.pp 3 0),(4,.pv (iV (x)))]) (qDH g n) e tm2 hp2:=
 RunsL.next [(4,6)] 300 [.t true,Re hs]
  (Rh (Ai (Er (SV.pv (.slice none 0 0))) (Ai (Er (SV.pv (.slice none 0 0))) (Ai (Er (SV.pv (.slice none 0 0))) (Ai (Er (SV.ls 1 n)) (Ai (Er (SV.ls 2 n)) (Ai (qCW g x) (Ai (Er (SV.row 3 1 n (ziV (List.replicate n 0)))) (Ai (Er (SV.row 4 1 n (zbV (List.replicate n false)))) (Ai (qwc g x) tI))))))))) (Ai hge (Ai hn (Ai hs tI)))) r
theorem qAR {g:List Int} {n:Nat} {x:Int} (hge:decide (x≥0)=false):Rl 0 0 201 0 23 5 ([(2,.pp 0 0),(3,.pp 3 0),(4,.pv (iV (x)))]) (qDH g n) (.exit 0) ([(2,.pp 0 0),(3,.pp 3 0)]) (qDH g n):=
 RunsL.stop [] 300 [.t false] (fun h=>by cases h)
  (Ro (Ai hge tI))
theorem qzH {g:List Int} {n:Nat} (n0:0≤(n:Int)) (n1:(n:Int)≤1000000) (h1:iV (IntKind.i64.wrap ((n:Int)-1))=iV ((n:Int)-1)) (r0:Rl 0 0 201 0 23 5 ([(2,.pp 0 0),(3,.pp 3 0),(4,.pv (iV ((n:Int)-1)))]) ([(0,0,.pv (.slice none 0 0)),(0,1,.pv (.slice none 0 0)),(0,2,.pv (.slice none 0 0)),(3,0,.ls 1 n),(3,1,.ls 2 n),(3,2,.ls 4 ([]:List Int).length),(1,0,.row 3 1 n (ziV (List.replicate n 0))),(2,0,.row 4 1 n (zbV (List.replicate n false))),(4,0,zrI ([]:List Int))]) (.exit 0) ([(2,.pp 0 0),(3,.pp 3 0)]) (qDH g n)) (hl:g.length=n) :
 Fn 201 0 [.pv (iV (n:Int))] [] (.ag [.ls 0 n,.ls 1 n,.ls 2 g.length]) 3 [(0,0,.row 3 1 n (ziV (List.replicate n 0))),(1,0,.row 4 1 n (zbV (List.replicate n false))),(2,0,zrI g)]:=
 Fz [(0,1),(1,2),(2,4)] [.md,Re h1,.ln false 3 2 3 1,Lf r0]
  (qaE (qaK [(0,1),(1,2),(2,4)]) [(0,0,.row 3 1 n (ziV (List.replicate n 0))),(1,0,.row 4 1 n (zbV (List.replicate n false))),(2,0,zrI g)]) (Ai n0 (Ai (Eq.refl (n:Int)) (Ai n1 (Ai n0 (Ai (Eq.refl (n:Int)) (Ai n1 (Ai h1 (Ai (Lt r0 []) (Ai (Ai (Er (SV.pv (.slice none 0 0))) (Ai (Er (SV.pv (.slice none 0 0))) (Ai (Er (SV.pv (.slice none 0 0))) (Ai (Er (SV.ls 1 n)) (Ai (Er (SV.ls 2 n)) (Ai (Er (SV.ls 4 0)) (Ai (qfE n) (Ai (qb9 n) (Ai (Er (SV.row 3 1 0 [])) tI))))))))) (Ai r0 tI))))))))))
theorem rtk {u fr:List Int} {b:List Bool} {x y z:Int} {m:Nat} (ht:Fn 136 3 [.ag [.ls 0 u.length,.ls 1 b.length,.ls 2 fr.length]] (qfI b fr u) (.ag [.ls 3 u.length,.ls 4 b.length,.ls 5 fr.length]) 3 [(3,0,zrI u),(4,0,zrB b),(5,0,zrI fr)]) (hl:iV (IntKind.i64.wrap ((fr.length:Int)-1))=iV (m:Int)) (hm:0≤(m:Int)∧(m:Int)<(fr.length:Int)) (hf:fr[m]?=some x) (hml:m≤fr.length) (hx:0≤x∧x<(u.length:Int)) (hu:u[x.toNat]?=some y) (hul:x.toNat<u.length) (hxb:0≤x∧x<(b.length:Int)) (hbl:x.toNat<b.length) (hz:(u.set x.toNat z)[x.toNat]?=some z) (h1:iV (IntKind.i64.wrap (y+1))=iV (z)) :
 Fn 243 3 [.ag [.ls 0 u.length,.ls 1 b.length,.ls 2 fr.length]] (qfI b fr u) (.tu [.ag [.ls 3 u.length,.ls 4 b.length,.ls 5 m],.one (.pv (.agg #[iV x,iV z]))]) 3 [(3,0,.row 3 1 u.length (ziV (u.set x.toNat z))),(4,0,.row 4 1 b.length (zbV (b.set x.toNat true))),(5,0,.row 3 1 m ((ziV fr).take (m*1)))]:=
 Fz [(3,6),(4,7),(5,10)] [Cf ht [0,1,2],Re hl,.r (iV x),Re hl,.w [],.r (iV y),Re h1,.w (ziV (u.set x.toNat z)),.w (zbV (b.set x.toNat true)),.r (iV z)]
  (qaE (qaK [(3,6),(4,7),(5,10)]) [(3,0,.row 3 1 u.length (ziV (u.set x.toNat z))),(4,0,.row 4 1 b.length (zbV (b.set x.toNat true))),(5,0,.row 3 1 m ((ziV fr).take (m*1)))]) (Co ht [0,1,2] 6 (Ai hl (Ai hm (Ai (qaQ hf) (Ai hl (Ai (Int.natCast_nonneg m) (Ai hml (Ai hx (Ai (qfM hu) (Ai h1 (Ai hx (Ai (qmi u x.toNat z hul) (Ai (qcK u x.toNat hul) (Ai hxb (Ai (qzq b x.toNat true hbl) (Ai (qf9 b x.toNat hbl) (Ai hx (Ai (qfM hz) tI))))))))))))))))))
theorem qqr {u fr:List Int} {b:List Bool} (h0:decide ((fr.length:Int)>0)=false) :
 Fn 197 3 [.ag [.ls 0 u.length,.ls 1 b.length,.ls 2 fr.length]] (qfI b fr u) (.pv (.bool false)) 0 []:=
 Fz [] [.t false]
  tI (Ai h0 tI)
theorem qs7 {u fr:List Int} {b:List Bool} {x y:Int} {m:Nat} (h0:decide ((fr.length:Int)>0)=true) (hl:iV (IntKind.i64.wrap ((fr.length:Int)-1))=iV (m:Int)) (hm:0≤(m:Int)∧(m:Int)<(fr.length:Int)) (hf:fr[m]?=some x) (hx:0≤x∧x<(u.length:Int)) (hu:u[x.toNat]?=some y) (hy:decide (y<1000000)=true) :
 Fn 197 3 [.ag [.ls 0 u.length,.ls 1 b.length,.ls 2 fr.length]] (qfI b fr u) (.pv (.bool true)) 0 []:=
 Fz [] [.t true,Re hl,.r (iV x),.r (iV y),.t true]
  tI (Ai h0 (Ai hl (Ai hm (Ai (qaQ hf) (Ai hx (Ai (qfM hu) (Ai hy tI)))))))
theorem qoB {u fr:List Int} {b:List Bool} {x y:Int} {m:Nat} (h0:decide ((fr.length:Int)>0)=true) (hl:iV (IntKind.i64.wrap ((fr.length:Int)-1))=iV (m:Int)) (hm:0≤(m:Int)∧(m:Int)<(fr.length:Int)) (hf:fr[m]?=some x) (hx:0≤x∧x<(u.length:Int)) (hu:u[x.toNat]?=some y) (hy:decide (y<1000000)=false) :
 Fn 197 3 [.ag [.ls 0 u.length,.ls 1 b.length,.ls 2 fr.length]] (qfI b fr u) (.pv (.bool false)) 0 []:=
 Fz [] [.t true,Re hl,.r (iV x),.r (iV y),.t false]
  tI (Ai h0 (Ai hl (Ai hm (Ai (qaQ hf) (Ai hx (Ai (qfM hu) (Ai hy tI)))))))
theorem qx2 {u fr:List Int} {b:List Bool} {hi hw:Int} (h0:decide (hi≥0)=false) :
 Fn 189 3 [.ag [.ls 0 u.length,.ls 1 b.length,.ls 2 fr.length],.pv (.agg #[iV hi,iV hw])] (qfI b fr u) (.pv (.bool false)) 0 []:=
 Fz [] [.t false]
  tI (Ai h0 tI)
theorem qvj {u fr:List Int} {b:List Bool} {hi hw:Int} (h0:decide (hi≥0)=true) (h1:decide (hi<(u.length:Int))=false) :
 Fn 189 3 [.ag [.ls 0 u.length,.ls 1 b.length,.ls 2 fr.length],.pv (.agg #[iV hi,iV hw])] (qfI b fr u) (.pv (.bool false)) 0 []:=
 Fz [] [.t true,.t false]
  tI (Ai h0 (Ai h1 tI))
theorem qq0 {u fr:List Int} {b:List Bool} {hi hw:Int} (h0:decide (hi≥0)=true) (h1:decide (hi<(u.length:Int))=true) (hib:0≤hi∧hi<(b.length:Int)) (hb:b[hi.toNat]?=some false) :
 Fn 189 3 [.ag [.ls 0 u.length,.ls 1 b.length,.ls 2 fr.length],.pv (.agg #[iV hi,iV hw])] (qfI b fr u) (.pv (.bool false)) 0 []:=
 Fz [] [.t true,.t true,.r (.bool false)]
  tI (Ai h0 (Ai h1 (Ai hib (Ai (qjD hb) tI))))
theorem qpT {u fr:List Int} {b:List Bool} {y hi hw:Int} (h0:decide (hi≥0)=true) (h1:decide (hi<(u.length:Int))=true) (hib:0≤hi∧hi<(b.length:Int)) (hb:b[hi.toNat]?=some true) (hiu:0≤hi∧hi<(u.length:Int)) (hue:u[hi.toNat]?=some y) (he:(y==hw)=true) :
 Fn 189 3 [.ag [.ls 0 u.length,.ls 1 b.length,.ls 2 fr.length],.pv (.agg #[iV hi,iV hw])] (qfI b fr u) (.pv (.bool true)) 0 []:=
 Fz [] [.t true,.t true,.r (.bool true),.r (iV y),.t true]
  tI (Ai h0 (Ai h1 (Ai hib (Ai (qjD hb) (Ai hiu (Ai (qfM hue) (Ai he tI)))))))
theorem qnM {u fr:List Int} {b:List Bool} {y hi hw:Int} (h0:decide (hi≥0)=true) (h1:decide (hi<(u.length:Int))=true) (hib:0≤hi∧hi<(b.length:Int)) (hb:b[hi.toNat]?=some true) (hiu:0≤hi∧hi<(u.length:Int)) (hue:u[hi.toNat]?=some y) (he:(y==hw)=false) :
 Fn 189 3 [.ag [.ls 0 u.length,.ls 1 b.length,.ls 2 fr.length],.pv (.agg #[iV hi,iV hw])] (qfI b fr u) (.pv (.bool false)) 0 []:=
 Fz [] [.t true,.t true,.r (.bool true),.r (iV y),.t false]
  tI (Ai h0 (Ai h1 (Ai hib (Ai (qjD hb) (Ai hiu (Ai (qfM hue) (Ai he tI)))))))
theorem qx1 {l m:List Int} {k:Nat} {x y:Int} (hx:l[k]?=some x) (hy:m[k]?=some y) (hil:0≤(k:Int)∧(k:Int)<(l.length:Int)) (him:0≤(k:Int)∧(k:Int)<(m.length:Int)) (hlt:decide ((k:Int)<(l.length:Int))=true) (hq:(!(x==y))=false) (hs:iV (IntKind.i64.wrap ((k:Int)+1))=iV (((k+1:Nat):Int))) {e:Exit} {tm2:TmL} {hp2:HpL}
 (r:Rl 2 2 149 0 26 2 ([(0,.ls 0 l.length),(1,.ls 1 m.length),(5,.pv (iV ((k+1:Nat):Int)))]) ([(0,0,zrI l),(1,0,zrI m)]) e tm2 hp2):Rl 2 2 149 0 26 2 ([(0,.ls 0 l.length),(1,.ls 1 m.length),(5,.pv (iV (k:Int)))]) ([(0,0,zrI l),(1,0,zrI m)]) e tm2 hp2:=
 RunsL.next [] 300 [.t true,.r (iV x),.r (iV y),.t false,Re hs]
  (Ro (Ai hlt (Ai hil (Ai (qaQ hx) (Ai him (Ai (qaQ hy) (Ai hq (Ai hs tI)))))))) r
theorem qAs {l m:List Int} {k:Nat} (hge:decide ((k:Int)<(l.length:Int))=false):Rl 2 2 149 0 26 2 ([(0,.ls 0 l.length),(1,.ls 1 m.length),(5,.pv (iV (k:Int)))]) ([(0,0,zrI l),(1,0,zrI m)]) (.exit 0) ([]) ([]):=
 RunsL.stop [] 300 [.t false] (fun h=>by cases h)
  (Ro (Ai hge tI))
theorem qvT {l m:List Int} (hl:(!((l.length:Int)==(m.length:Int)))=false) (r0:Rl 2 2 149 0 26 2 ([(0,.ls 0 l.length),(1,.ls 1 m.length),(5,.pv (iV ((0:Nat):Int)))]) ([(0,0,zrI l),(1,0,zrI m)]) (.exit 0) ([]) ([])) :
 Fn 149 2 [.ls 0 l.length,.ls 1 m.length] [(0,0,zrI l),(1,0,zrI m)] (.pv (.bool true)) 0 []:=
 Fz [] [.t false,Lf r0]
  tI (Ai hl (Lo r0 [] tI))
theorem qhB {l m:List Bool} {k:Nat} (hx:l[k]?=some true) (hy:m[k]?=some true) (hil:0≤(k:Int)∧(k:Int)<(l.length:Int)) (him:0≤(k:Int)∧(k:Int)<(m.length:Int)) (hlt:decide ((k:Int)<(l.length:Int))=true) (hs:iV (IntKind.i64.wrap ((k:Int)+1))=iV (((k+1:Nat):Int))) {e:Exit} {tm2:TmL} {hp2:HpL}
 (r:Rl 2 2 200 0 26 2 ([(0,.ls 0 l.length),(1,.ls 1 m.length),(5,.pv (iV ((k+1:Nat):Int)))]) ([(0,0,zrB l),(1,0,zrB m)]) e tm2 hp2):Rl 2 2 200 0 26 2 ([(0,.ls 0 l.length),(1,.ls 1 m.length),(5,.pv (iV (k:Int)))]) ([(0,0,zrB l),(1,0,zrB m)]) e tm2 hp2:=
 RunsL.next [] 300 [.t true,.r (.bool true),.r (.bool true),.k,Re hs]
  (Ro (Ai hlt (Ai hil (Ai (qcG hx) (Ai him (Ai (qcG hy) (Ai hs tI))))))) r
theorem qho {l m:List Bool} {k:Nat} (hx:l[k]?=some false) (hy:m[k]?=some false) (hil:0≤(k:Int)∧(k:Int)<(l.length:Int)) (him:0≤(k:Int)∧(k:Int)<(m.length:Int)) (hlt:decide ((k:Int)<(l.length:Int))=true) (hs:iV (IntKind.i64.wrap ((k:Int)+1))=iV (((k+1:Nat):Int))) {e:Exit} {tm2:TmL} {hp2:HpL}
 (r:Rl 2 2 200 0 26 2 ([(0,.ls 0 l.length),(1,.ls 1 m.length),(5,.pv (iV ((k+1:Nat):Int)))]) ([(0,0,zrB l),(1,0,zrB m)]) e tm2 hp2):Rl 2 2 200 0 26 2 ([(0,.ls 0 l.length),(1,.ls 1 m.length),(5,.pv (iV (k:Int)))]) ([(0,0,zrB l),(1,0,zrB m)]) e tm2 hp2:=
 RunsL.next [] 300 [.t true,.r (.bool false),.r (.bool false),.k,Re hs]
  (Ro (Ai hlt (Ai hil (Ai (qcG hx) (Ai him (Ai (qcG hy) (Ai hs tI))))))) r
theorem qAe {l m:List Bool} {k:Nat} (hge:decide ((k:Int)<(l.length:Int))=false):Rl 2 2 200 0 26 2 ([(0,.ls 0 l.length),(1,.ls 1 m.length),(5,.pv (iV (k:Int)))]) ([(0,0,zrB l),(1,0,zrB m)]) (.exit 0) ([]) ([]):=
 RunsL.stop [] 300 [.t false] (fun h=>by cases h)
  (Ro (Ai hge tI))
theorem qxG {l m:List Bool} (hl:(!((l.length:Int)==(m.length:Int)))=false) (r0:Rl 2 2 200 0 26 2 ([(0,.ls 0 l.length),(1,.ls 1 m.length),(5,.pv (iV ((0:Nat):Int)))]) ([(0,0,zrB l),(1,0,zrB m)]) (.exit 0) ([]) ([])) :
 Fn 200 2 [.ls 0 l.length,.ls 1 m.length] [(0,0,zrB l),(1,0,zrB m)] (.pv (.bool true)) 0 []:=
 Fz [] [.t false,Lf r0]
  tI (Ai hl (Lo r0 [] tI))
theorem qFa {u fr u2 f2:List Int} {b b2:List Bool} (hu:Fn 149 2 [.ls 0 u.length,.ls 1 u2.length] [(0,0,zrI u),(1,0,zrI u2)] (.pv (.bool true)) 0 []) (hb:Fn 200 2 [.ls 0 b.length,.ls 1 b2.length] [(0,0,zrB b),(1,0,zrB b2)] (.pv (.bool true)) 0 []) (hf:Fn 149 2 [.ls 0 fr.length,.ls 1 f2.length] [(0,0,zrI fr),(1,0,zrI f2)] (.pv (.bool true)) 0 []) :
 Fn 148 6 [.ag [.ls 0 u.length,.ls 1 b.length,.ls 2 fr.length],.ag [.ls 3 u2.length,.ls 4 b2.length,.ls 5 f2.length]] [(0,0,zrI u),(1,0,zrB b),(2,0,zrI fr),(3,0,zrI u2),(4,0,zrB b2),(5,0,zrI f2)] (.pv (.bool true)) 0 []:=
 Fz [] [Cf hu [0,3],Cf hb [1,4],Cf hf [2,5]]
  tI (Co hu [0,3] 8 (Co hb [1,4] 8 (Co hf [2,5] 8 tI)))
end Go.Proofs.YtkckcgpmnipnaaaGreat
