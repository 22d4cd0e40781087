/-
  Joined: Fc, Fg, Fq, Zc, Zd. Conditions: none.
-/
import Derived.Test.YtkckcgpmnipnaaaGreatW19
import Derived.Test.YtkckcgpmnipnaaaGreatW16
import Derived.ProofKit
import Derived.OpenShut
import Derived.Lib.SmallJoins
import Derived.Deep.Slices
import Derived.Deep.Strs
import Derived.Deep.Fields
import Derived.Carry
import Derived.Test.YtkckcgpmnipnaaaGreatW18
namespace Go.Proofs.YtkckcgpmnipnaaaGreat
set_option maxRecDepth 100000
open Go.RowKit
variable {l:List Pt} {k:Nat} {p q:Pt}
abbrev qHx (k:Nat) (l:List Pt):TmL:=[(1,.pp 1 0),(12,.ls 0 l.length),(13,.pv (iV (l.length:Int))),(14,.pv (iV (k:Int)))]
theorem qkC (hk:l[k]?=some p) (hin:Bd k l.length) (hlt:Dt ((k:Int)<(l.length:Int))) (hc:Pure Tryz.prog 137 #[qac p.id p.a p.b] (iV (0))) (hs:iV (IntKind.i64.wrap ((k:Int)+1))=iV (((k+1:Nat):Int))) {e:Exit} {tm2:TmL} {hp2:HpL}
 (r:Rl 1 1 74 0 45 2 ([(1,.pp 1 0),(12,.ls 0 l.length),(13,.pv (iV (l.length:Int))),(14,.pv (iV ((k+1:Nat):Int)))]) ([(1,0,.ls 0 l.length),(0,0,qaf l)]) e tm2 hp2):Rl 1 1 74 0 45 2 (qHx k l) ([(1,0,.ls 0 l.length),(0,0,qaf l)]) e tm2 hp2:=
 RunsL.next [] 300 [.t true,.r (ptV p),Rf hc,.k,Re hs]
  (Ro (A5 hlt hin (qaB hk) hc hs tI)) r
theorem qw8 (hk:l[k]?=some p) (hin:Bd k l.length) (hlt:Dt ((k:Int)<(l.length:Int))) (hc:Pure Tryz.prog 137 #[qac p.id p.a p.b] (iV (8))):Rl 1 1 74 0 45 2 (qHx k l) ([(1,0,.ls 0 l.length),(0,0,qaf l)]) (.ret) ([(2,.pv (iV 8))]) ([]):=
 RunsL.stop [] 300 [.t true,.r (ptV p),Rf hc,.k] (fun h=>by cases h)
  (Ro (A4 hlt hin (qaB hk) hc tI))
theorem qxv (hge:decide ((k:Int)<(l.length:Int))=false):Rl 1 1 74 0 45 2 (qHx k l) ([(1,0,.ls 0 l.length),(0,0,qaf l)]) (.exit 0) ([(1,.pp 1 0)]) ([(1,0,.ls 0 l.length),(0,0,qaf l)]):=
 RunsL.stop [] 300 [.t false] (fun h=>by cases h)
  (Ro (Ai hge tI))
theorem qkA (hq:l[k]?=some q) (hk:l[k+1]?=some p) (hi0:Bd k l.length) (hi1:0≤((k+1:Nat):Int)∧((k+1:Nat):Int)<(l.length:Int)) (hlt:Dt (((k+1:Nat):Int)<(l.length:Int))) (hm:iV (IntKind.i64.wrap (((k+1:Nat):Int)-1))=iV (k:Int)) (hg:Df (q.id≥p.id)) (hs:iV (IntKind.i64.wrap (((k+1:Nat):Int)+1))=iV (((k+1+1:Nat):Int))) {e:Exit} {tm2:TmL} {hp2:HpL}
 (r:Rl 1 1 74 1 45 2 ([(1,.pp 1 0),(6,.pv (iV ((k+1+1:Nat):Int)))]) ([(1,0,.ls 0 l.length),(0,0,qaf l)]) e tm2 hp2):Rl 1 1 74 1 45 2 ([(1,.pp 1 0),(6,.pv (iV ((k+1:Nat):Int)))]) ([(1,0,.ls 0 l.length),(0,0,qaf l)]) e tm2 hp2:=
 RunsL.next [] 300 [.t true,.r (iV (k:Int)),.r (iV q.id),.r (iV p.id),.t false,.r (iV (((k+1+1:Nat):Int)))]
  (Ro (A8 hlt hm hi0 (qcP hq) hi1 (qcP hk) hg hs tI)) r
theorem qu6 (hq:l[k]?=some q) (hk:l[k+1]?=some p) (hi0:Bd k l.length) (hi1:0≤((k+1:Nat):Int)∧((k+1:Nat):Int)<(l.length:Int)) (hlt:Dt (((k+1:Nat):Int)<(l.length:Int))) (hm:iV (IntKind.i64.wrap (((k+1:Nat):Int)-1))=iV (k:Int)) (hg:decide (q.id≥p.id)=true):Rl 1 1 74 1 45 2 ([(1,.pp 1 0),(6,.pv (iV ((k+1:Nat):Int)))]) ([(1,0,.ls 0 l.length),(0,0,qaf l)]) (.ret) ([(2,.pv (iV 32))]) ([]):=
 RunsL.stop [] 300 [.t true,.r (iV (k:Int)),.r (iV q.id),.r (iV p.id),.t true] (fun h=>by cases h)
  (Ro (A7 hlt hm hi0 (qcP hq) hi1 (qcP hk) hg tI))
theorem qne (hge:decide ((k:Int)<(l.length:Int))=false):Rl 1 1 74 1 45 2 ([(1,.pp 1 0),(6,.pv (iV ((k:Nat):Int)))]) ([(1,0,.ls 0 l.length),(0,0,qaf l)]) (.exit 2) ([]) ([]):=
 RunsL.stop [] 300 [.t false] (fun h=>by cases h)
  (Ro (Ai hge tI))
theorem qyQ (h64:Dt ((l.length:Int)>64)) :
 Fn 74 1 [qaq 0 l] [(0,0,qaf l)] (.pv (iV (4))) 0 []:=
 Fz [] [.t true]
  tI (Ai h64 tI)
theorem qBU (h64:Df ((l.length:Int)>64)) (r0:Rl 1 1 74 0 45 2 ([(1,.pp 1 0),(12,.ls 0 l.length),(13,.pv (iV (l.length:Int))),(14,.pv (iV ((0:Nat):Int)))]) ([(1,0,.ls 0 l.length),(0,0,qaf l)]) (.ret) ([(2,.pv (iV 8))]) ([])) :
 Fn 74 1 [qaq 0 l] [(0,0,qaf l)] (.pv (iV (8))) 0 []:=
 Fz [] [.t false,Lf r0]
  tI (Ai h64 (Lo r0 [] tI))
abbrev qJd (l:List Pt):Prop:=Rl 1 1 74 0 45 2 ([(1,.pp 1 0),(12,.ls 0 l.length),(13,.pv (iV (l.length:Int))),(14,.pv (iV ((0:Nat):Int)))]) ([(1,0,.ls 0 l.length),(0,0,qaf l)]) (.exit 0) ([(1,.pp 1 0)]) ([(1,0,.ls 0 l.length),(0,0,qaf l)])
theorem qDh (h64:Df ((l.length:Int)>64)) (r0:qJd l) (r1:Rl 1 1 74 1 45 2 ([(1,.pp 1 0),(6,.pv (iV ((0+1:Nat):Int)))]) ([(1,0,.ls 0 l.length),(0,0,qaf l)]) (.ret) ([(2,.pv (iV 32))]) ([])) :
 Fn 74 1 [qaq 0 l] [(0,0,qaf l)] (.pv (iV (32))) 0 []:=
 Fz [] [.t false,Lf r0,Lf r1]
  tI (Ai h64 (Lo r0 [] (Lo r1 [] tI)))
theorem qFc (h64:Df ((l.length:Int)>64)) (r0:qJd l) (r1:Rl 1 1 74 1 45 2 ([(1,.pp 1 0),(6,.pv (iV ((0+1:Nat):Int)))]) ([(1,0,.ls 0 l.length),(0,0,qaf l)]) (.exit 2) ([]) ([])) :
 Fn 74 1 [qaq 0 l] [(0,0,qaf l)] (.pv (iV (0))) 0 []:=
 Fz [] [.t false,Lf r0,Lf r1]
  tI (Ai h64 (Lo r0 [] (Lo r1 [] tI)))
end Go.Proofs.YtkckcgpmnipnaaaGreat

namespace Go.Proofs.YtkckcgpmnipnaaaGreat
set_option maxRecDepth 100000
open Go.RowKit
variable {a pa pb id c:Int} {l:List Pt} {i j h k:Nat} {p:Pt}
theorem qrj (n1:(!(a==a))=false) (n2:(!(id==id))=false) (h1:decide (a<id)=true):Pure Tryz.prog 294 #[qac a pa pb,iV id] (iV (-1)):=
 qad (args:=[qac a pa pb,iV id]) 200 [.k,.k,.t false,.k,.t false,.t true] (A4 rfl n1 n2 h1 tI) (by kernel_rfl)
theorem qsT (n1:(!(a==a))=false) (n2:(!(id==id))=false) (h1:decide (a<id)=false) (h2:decide (a>id)=true):Pure Tryz.prog 294 #[qac a pa pb,iV id] (iV (1)):=
 qad (args:=[qac a pa pb,iV id]) 200 [.k,.k,.t false,.k,.t false,.t false,.t true] (A5 rfl n1 n2 h1 h2 tI) (by kernel_rfl)
theorem qqj (n1:(!(a==a))=false) (n2:(!(id==id))=false) (h1:decide (a<id)=false) (h2:decide (a>id)=false):Pure Tryz.prog 294 #[qac a pa pb,iV id] (iV (0)):=
 qad (args:=[qac a pa pb,iV id]) 200 [.k,.k,.t false,.k,.t false,.t false,.t false] (A5 rfl n1 n2 h1 h2 tI) (by kernel_rfl)
abbrev qEE (i:Nat) (id:Int) (j:Nat) (l:List Pt):TmL:=[(0,.ls 0 l.length),(1,.pv (iV id)),(2,.pv (.func (.func 294) #[] #[])),(8,.pv (iV (l.length:Int))),(9,.pv (iV (i:Int))),(10,.pv (iV (j:Int)))]
abbrev qEI (c:Int) (id:Int) (p:Pt):Prop:=Pure Tryz.prog 294 #[qac p.id p.a p.b,iV id] (iV (c))
theorem qHY (hk:l[h]?=some p) (hin:Bd h l.length) (hlt:Dt ((i:Int)<(j:Int))) (ha:iV (IntKind.i64.wrap ((i:Int)+(j:Int)))=iV ((i:Int)+(j:Int))) (hu:Value.int .u64 (IntKind.u64.wrap ((i:Int)+(j:Int)))=.int .u64 ((i:Int)+(j:Int))) (h1:¬ (1:Int)<0) (hs:Value.int .u64 (((i:Int)+(j:Int)).fdiv (2 ^ (min (1:Int).toNat IntKind.u64.bits)))=.int .u64 (h:Int)) (hb:iV (IntKind.i64.wrap (h:Int))=iV (h:Int)) (hc:qEI c id p) (hz:Dt (c<0)) (hh:iV (IntKind.i64.wrap ((h:Int)+1))=iV (((h+1:Nat):Int))) {e:Exit} {tm2:TmL} {hp2:HpL}
 (r:Rl 1 1 293 0 49 1 ([(0,.ls 0 l.length),(1,.pv (iV id)),(2,.pv (.func (.func 294) #[] #[])),(8,.pv (iV (l.length:Int))),(9,.pv (iV ((h+1:Nat):Int))),(10,.pv (iV (j:Int)))]) ([(0,0,qaf l)]) e tm2 hp2):Rl 1 1 293 0 49 1 (qEE i id j l) ([(0,0,qaf l)]) e tm2 hp2:=
 RunsL.next [] 300 [.t true,Re ha,Re hu,.r (.int .u64 (h:Int)),Re hb,.r (ptV p),Rf hc,.t true,Re hh]
  (Ro (A9 hlt ha hu h1 hs hb hin (qaB hk) hc (A2 hz hh tI))) r
theorem qFW (hk:l[h]?=some p) (hin:Bd h l.length) (hlt:Dt ((i:Int)<(j:Int))) (ha:iV (IntKind.i64.wrap ((i:Int)+(j:Int)))=iV ((i:Int)+(j:Int))) (hu:Value.int .u64 (IntKind.u64.wrap ((i:Int)+(j:Int)))=.int .u64 ((i:Int)+(j:Int))) (h1:¬ (1:Int)<0) (hs:Value.int .u64 (((i:Int)+(j:Int)).fdiv (2 ^ (min (1:Int).toNat IntKind.u64.bits)))=.int .u64 (h:Int)) (hb:iV (IntKind.i64.wrap (h:Int))=iV (h:Int)) (hc:qEI c id p) (hz:Df (c<0)) {e:Exit} {tm2:TmL} {hp2:HpL}
 (r:Rl 1 1 293 0 49 1 ([(0,.ls 0 l.length),(1,.pv (iV id)),(2,.pv (.func (.func 294) #[] #[])),(8,.pv (iV (l.length:Int))),(9,.pv (iV (i:Int))),(10,.pv (iV (h:Int)))]) ([(0,0,qaf l)]) e tm2 hp2):Rl 1 1 293 0 49 1 (qEE i id j l) ([(0,0,qaf l)]) e tm2 hp2:=
 RunsL.next [] 300 [.t true,Re ha,Re hu,.r (.int .u64 (h:Int)),Re hb,.r (ptV p),Rf hc,.t false]
  (Ro (A9 hlt ha hu h1 hs hb hin (qaB hk) hc (Ai hz tI))) r
theorem qt8 (hge:decide ((i:Int)<(j:Int))=false):Rl 1 1 293 0 49 1 (qEE i id j l) ([(0,0,qaf l)]) (.exit 0) (qEE i id j l) ([(0,0,qaf l)]):=
 RunsL.stop [] 300 [.t false] (fun h=>by cases h)
  (Ro (Ai hge tI))
abbrev qHU (id:Int) (k:Nat) (l:List Pt):Prop:=Rl 1 1 293 0 49 1 ([(0,.ls 0 l.length),(1,.pv (iV id)),(2,.pv (.func (.func 294) #[] #[])),(8,.pv (iV (l.length:Int))),(9,.pv (iV ((0:Nat):Int))),(10,.pv (iV (l.length:Int)))]) ([(0,0,qaf l)]) (.exit 0) ([(0,.ls 0 l.length),(1,.pv (iV id)),(2,.pv (.func (.func 294) #[] #[])),(8,.pv (iV (l.length:Int))),(9,.pv (iV (k:Int))),(10,.pv (iV (k:Int)))]) ([(0,0,qaf l)])
theorem qwe (r0:qHU id k l) (hge:Df ((k:Int)<(l.length:Int))) :
 Fn 293 1 [.ls 0 l.length,.pv (iV (id)),.pv (.func (.func 294) #[] #[])] [(0,0,qaf l)] (.pv (.tuple #[iV (k:Int),.bool false])) 0 []:=
 Fz [] [Lf r0,.t false]
  tI (Lo r0 [] (Ai hge tI))
theorem qvB (r0:qHU id k l) (hk:l[k]?=some p) (hin:0≤(k:Int)∧(k:Int)<(l.length:Int)) (hlt:decide ((k:Int)<(l.length:Int))=true) (hc:qEI c id p) (hz:(c==0)=true) :
 Fn 293 1 [.ls 0 l.length,.pv (iV (id)),.pv (.func (.func 294) #[] #[])] [(0,0,qaf l)] (.pv (.tuple #[iV (k:Int),.bool true])) 0 []:=
 Fz [] [Lf r0,.t true,.r (ptV p),Rf hc,.t true]
  tI (Lo r0 [] (A5 hlt hin (qaB hk) hc hz tI))
theorem qDY (r0:qHU id k l) (hk:l[k]?=some p) (hin:Bd k l.length) (hlt:Dt ((k:Int)<(l.length:Int))) (hc:qEI c id p) (hz:(c==0)=false) :
 Fn 293 1 [.ls 0 l.length,.pv (iV (id)),.pv (.func (.func 294) #[] #[])] [(0,0,qaf l)] (.pv (.tuple #[iV (k:Int),.bool false])) 0 []:=
 Fz [] [Lf r0,.t true,.r (ptV p),Rf hc,.t false]
  tI (Lo r0 [] (A5 hlt hin (qaB hk) hc hz tI))
theorem qfB {b:Bool} (hb:Fn 293 1 [.ls 0 l.length,.pv (iV (id)),.pv (.func (.func 294) #[] #[])] [(0,0,qaf l)] (.pv (.tuple #[iV (k:Int),.bool b])) 0 []) :
 Fn 232 1 [qaq 0 l,.pv (iV (id))] [(0,0,qaf l)] (.pv (.tuple #[iV (k:Int),.bool b])) 0 []:=
 Fz [] [Cf hb [0]]
  tI (Co hb [0] 2 tI)
theorem qnx {e:Int} (hc:Fn 74 1 [qaq 0 l] [(0,0,qaf l)] (.pv (iV (e))) 0 []) (he:(e !=0)=true) :
 Fn 184 1 [qaq 0 l,.pv (iV (id))] [(0,0,qaf l)] (.pv (.tuple #[qac 0 0 0,iV (e)])) 0 []:=
 Fz [] [Cf hc [0],.t true]
  tI (Co hc [0] 3 (Ai he tI))
theorem qqJ (hc:Fn 74 1 [qaq 0 l] [(0,0,qaf l)] (.pv (iV (0))) 0 []) (hf:Fn 232 1 [qaq 0 l,.pv (iV (id))] [(0,0,qaf l)] (.pv (.tuple #[iV (k:Int),.bool false])) 0 []) :
 Fn 184 1 [qaq 0 l,.pv (iV (id))] [(0,0,qaf l)] (.pv (.tuple #[qac 0 0 0,iV (6)])) 0 []:=
 Fz [] [Cf hc [0],.k,Cf hf [0],.k]
  tI (Co hc [0] 3 (Co hf [0] 3 tI))
theorem qnU (hk:l[k]?=some p) (hin:Bd k l.length) (hc:Fn 74 1 [qaq 0 l] [(0,0,qaf l)] (.pv (iV (0))) 0 []) (hf:Fn 232 1 [qaq 0 l,.pv (iV (id))] [(0,0,qaf l)] (.pv (.tuple #[iV (k:Int),.bool true])) 0 []) :
 Fn 184 1 [qaq 0 l,.pv (iV (id))] [(0,0,qaf l)] (.pv (.tuple #[ptV p,iV (0)])) 0 []:=
 Fz [] [Cf hc [0],.k,Cf hf [0],.k,.r (ptV p)]
  tI (Co hc [0] 3 (Co hf [0] 3 (A2 hin (qaB hk) tI)))
end Go.Proofs.YtkckcgpmnipnaaaGreat

namespace Go.Proofs.YtkckcgpmnipnaaaGreat
set_option maxRecDepth 100000
open Go.ChangeShapes Go.WideShapes Go.ChangeAt Go.RowKit Go.Joins Go.Deep
theorem qn3:Tryz.prog.cellsOf 24=1:=by kernel_rfl
theorem qCq:Tryz.prog.cellsOf 22=1:=by kernel_rfl
theorem qDl:Tryz.prog.cellsOf 137=3:=by kernel_rfl
theorem qww:Tryz.prog.cellsOf 3=1:=by kernel_rfl
theorem qwW:Tryz.prog.cellsOf 2=1:=by kernel_rfl
theorem qrF:Tryz.prog.readableRec 24=true:=by kernel_rfl
theorem qyg:24<Tryz.prog.types.size:=of_decide_eq_true (by kernel_rfl)
section
variable {H:Type} {enc:TypeId×Value→H} {W:World} {base:Nat} {spare:Nat→Bool} {held:Bool}
theorem qpC (f:Nat→Pt):∀ (n j:Nat) (v:Value),(qbs ((List.range n).map f))[j]?=some v→j/3<n∧[iV (f (j/3)).id,iV (f (j/3)).a,iV (f (j/3)).b][j%3]?=some v:=by
 intro n j v h
 have hj:j<n*3:=by
  have:=(List.getElem?_eq_some_iff.1 h).1;rw[qbf] at this;simpa using this
 have hk:j/3<n:=by omega
 have hg:=qcC (l:=(List.range n).map f) (k:=j/3) (p:=f (j/3)) (by simp[hk]);refine⟨hk,?_⟩
 have h3:j%3=0∨j%3=1∨j%3=2:=by omega
 have e:j=j/3*3+j%3:=by omega
 rw[e] at h
 rcases h3 with e3 | e3 | e3<;>rw[e3] at h ⊢
 ·rw[Nat.add_zero,hg.1] at h;exact h
 ·rw[hg.2.1] at h;exact h
 ·rw[hg.2.2] at h;exact h
theorem qlu {fuel:Nat} {cs:List Value} {x:DataW H×List MemPlace} (h:DataW.trod enc Tryz.prog W base spare held fuel 22 cs=some x) :
 ∃ (u:Value) (l:List Pt),cs=[u]∧Rd W 3 u l.length (qbs l)∧∀ p∈l,((Lit.int .i64 p.id).wf=true∧(Lit.int .i64 p.a).wf=true∧(Lit.int .i64 p.b).wf=true):=by
 rcases open_slice Tryz.underlying22 h with ⟨rfl,_⟩ | ⟨a,len,cap,m,n,D,Pl,rfl,_,hlc,_,hm,_,hi⟩
 ·exact⟨_,[],rfl,⟨rfl,none,0,rfl,Nat.le_refl _,fun j v hv=>by simp[qbs] at hv⟩,fun p hp=>by simp at hp⟩
 have hlm:len≤m:=by rw[hm];split<;>omega
 have each:∀ i,i<len→∃ p:Pt,W.cell? (a.add (i*3))=some (iV p.id)∧W.cell? (a.add (i*3+1))=some (iV p.a)∧W.cell? (a.add (i*3+2))=some (iV p.b)∧
  ((Lit.int .i64 p.id).wf=true∧(Lit.int .i64 p.a).wf=true∧(Lit.int .i64 p.b).wf=true):=by
  intro i hil;obtain⟨cs',hc,ht⟩:=hi i (by omega);rw[qDl] at hc;obtain⟨y0,y1,y2,n',_,hlen,t0,t1,t2⟩:=trod_struct3 Tryz.underlying137 ht;obtain⟨_,hcl,hat⟩:=World.cells?_some hc
  match cs',hcl with
  | [c0,c1,c2],_=>
   obtain⟨pi,e0,_,w0⟩:=DataW.trod_int Tryz.underlying3 t0;obtain⟨pa,e1,_,w1⟩:=DataW.trod_int Tryz.underlying2 t1;obtain⟨pb,e2,_,w2⟩:=DataW.trod_int Tryz.underlying2 t2;simp[qww,qwW] at e0 e1 e2;refine⟨⟨pi,pa,pb⟩,?_,?_,?_,w0,w1,w2⟩
   ·have:=hat 0 (by omega);rw[add_add] at this;simpa [e0] using this
   ·have:=hat 1 (by omega);rw[add_add] at this;simpa [e1] using this
   ·have:=hat 2 (by omega);rw[add_add] at this;simpa [e2] using this
 haveI:Inhabited Pt:=⟨⟨0,0,0⟩⟩
 obtain⟨f,hf⟩:=choose_lt (α:=Pt) each;refine⟨_,(List.range len).map f,rfl,⟨qbf _,some a,cap,by simp,by simpa using hlc,fun j v hv=>?_⟩,fun p hp=>?_⟩
 ·obtain⟨hk,he⟩:=qpC f len j v hv;obtain⟨c0,c1,c2,_⟩:=hf _ hk
  have hcell:W.cell? (a.add j)=some v:=by
   have h3:j%3=0∨j%3=1∨j%3=2:=by omega
   have e:j=j/3*3+j%3:=by omega
   rcases h3 with e3 | e3 | e3<;>rw[e3] at he e<;>rw[e]<;>simp at he<;>subst he
   ·exact c0
   ·exact c1
   ·exact c2
  obtain⟨b,off,spot⟩:=a
  have hs:spot=none:=by simpa [Addr.add] using World.cell?_spot (hf 0 (by omega)).1
  subst hs;exact⟨b,off,rfl,by rw[← Go.WideShapes.add_plain];exact hcell⟩
 ·obtain⟨i,hi',rfl⟩:=List.mem_map.1 hp;exact (hf i (List.mem_range.1 hi')).2.2.2
theorem qqr {r:Reach} {b0:Nat} {v:Value} {d:DataW H} {p:List MemPlace} (hv:Value.okWide Tryz.prog W r b0 24 v) (h:DataW.Trod enc Tryz.prog W base spare held 24 v d p) :
 ∃ (u:Value) (l:List Pt),v=.agg #[u]∧Rd W 3 u l.length (qbs l)∧∀ p∈l,((Lit.int .i64 p.id).wf=true∧(Lit.int .i64 p.a).wf=true∧(Lit.int .i64 p.b).wf=true):=by
 obtain⟨cs,rfl,hsz⟩:=okWide_struct Tryz.underlying24 hv;obtain⟨fuel,hf⟩:=h;obtain⟨y0,n,_,hlen,h0⟩:=trod_struct1 Tryz.underlying24 hf;obtain⟨u,l,hc,hr,hb⟩:=qlu h0;refine⟨u,l,?_,hr,hb⟩;rw[qCq] at hc;have h1:cs.size=1:=hsz.trans qn3
 obtain⟨c0,rfl⟩:∃ c0,cs=#[c0]:=by
  obtain⟨L⟩:=cs
  match L,h1 with
  | [c0],_=>exact⟨c0,rfl⟩
 simp[Value.cells] at hc;rw[hc]
end
theorem qfE:∀ (l:List Pt) (v:Value),v∈qbs l→v.oneCell'=true
 | [],_,h=>by simp[qbs] at h
 | p::r,v,h=>by
  simp only[qbs,List.mem_cons] at h
  rcases h with rfl | rfl | rfl | h
  ·rfl
  ·rfl
  ·rfl
  ·exact qfE r v h
end Go.Proofs.YtkckcgpmnipnaaaGreat

namespace Go.Proofs.YtkckcgpmnipnaaaGreat
set_option maxRecDepth 100000
open Go.RowKit
abbrev slA (u:List Int) (b:List Bool) (f:List Int):SV:=.ag [.ls 0 u.length,.ls 1 b.length,.ls 2 f.length]
abbrev slP (u:List Int) (b:List Bool) (f:List Int):List (Nat×Nat×SV):=[(0,0,zrI u),(1,0,zrB b),(2,0,zrI f)]
section
variable {u f:List Int} {b:List Bool}
theorem qdB (x:Int):Fn 320 3 [slA u b f,.pv (iV x)] (slP u b f) (.pv (.bool (decide (0≤x)&&decide (x<(b.length:Int))))) 0 []:=by
 by_cases h1:0≤x
 ·by_cases h2:x<(b.length:Int)
  ·have:=qxi (u:=u) (fr:=f) (b:=b) (x:=x) (by simpa using h1) (by simpa using h2);simpa [h1,h2] using this
  ·have:=qwR (u:=u) (fr:=f) (b:=b) (x:=x) (by simpa using h1) (by simpa using h2);simpa [h1,h2] using this
 ·have:=qy9 (u:=u) (fr:=f) (b:=b) (x:=x) (by simpa using h1);simpa [h1] using this
abbrev ufT (b:List Bool) (k:Nat):List (Nat×SV):=[(1,.pp 3 0),(7,.ls 1 b.length),(8,.pv (iV (b.length:Int))),(9,.pv (iV (k:Int)))]
abbrev ufH (u:List Int) (b:List Bool) (f:List Int):List (Nat×Nat×SV):=[(3,0,.ls 0 u.length),(3,1,.ls 1 b.length),(3,2,.ls 2 f.length),(0,0,zrI u),(1,0,zrB b),(2,0,zrI f)]
theorem qeL (hl:b.length=u.length) (hn:b.length≤1000000):∀ (d k:Nat),k+d=b.length→
 ((∀ (j:Nat) (x:Int) (c:Bool),k≤j→u[j]?=some x→b[j]?=some c→(if c=true then 1 else 0)≤x∧x≤1000000)→Rl 3 3 277 0 31 4 (ufT b k) (ufH u b f) (.exit 0) [] [])∧
 (¬ (∀ (j:Nat) (x:Int) (c:Bool),k≤j→u[j]?=some x→b[j]?=some c→(if c=true then 1 else 0)≤x∧x≤1000000)→Rl 3 3 277 0 31 4 (ufT b k) (ufH u b f) .ret [(2,.pv (.bool false))] [])
 | 0,k,h=>by
  refine⟨fun _=>qAE (by simp;omega),fun hno=>(hno fun j x c hj hx hc=>?_).elim⟩;have:=(List.getElem?_eq_some_iff.1 hc).1;omega
 | d+1,k,h=>by
  have hk:k<b.length:=by omega
  have hku:k<u.length:=by omega
  obtain⟨y,hy⟩:∃ y,u[k]?=some y:=⟨_,List.getElem?_eq_getElem hku⟩;obtain⟨c,hc⟩:∃ c,b[k]?=some c:=⟨_,List.getElem?_eq_getElem hk⟩;obtain⟨ih1,ih2⟩:=qeL hl hn d (k+1) (by omega)
  have i1:0≤(k:Int)∧(k:Int)<(b.length:Int):=by omega
  have i2:0≤(k:Int)∧(k:Int)<(u.length:Int):=by omega
  have lt:decide ((k:Int)<(b.length:Int))=true:=by simp;omega
  have hs:=qaL (k:=k) (by omega)
  have split:(∀ (j:Nat) (x:Int) (c:Bool),k≤j→u[j]?=some x→b[j]?=some c→(if c=true then 1 else 0)≤x∧x≤1000000)↔((if c=true then 1 else 0)≤y∧y≤1000000)∧(∀ (j:Nat) (x:Int) (c:Bool),k+1≤j→u[j]?=some x→b[j]?=some c→(if c=true then 1 else 0)≤x∧x≤1000000):=by
   constructor
   ·intro H;exact⟨H k y c (Nat.le_refl _) hy hc,fun j x c' hj=>H j x c' (by omega)⟩
   ·rintro⟨H1,H2⟩ j x c' hj hx hc';by_cases e:j=k
    ·subst e;rw[hy] at hx;rw[hc] at hc';cases hx;cases hc';exact H1
    ·exact H2 j x c' (by omega) hx hc'
  by_cases h1:(if c=true then (1:Int) else 0)≤y
  ·by_cases h2:y≤1000000
   ·have hi:decide (y>1000000)=false:=by simp;omega
    have go:∀ {e:Exit} {tm2:TmL} {hp2:HpL},Rl 3 3 277 0 31 4 (ufT b (k+1)) (ufH u b f) e tm2 hp2→Rl 3 3 277 0 31 4 (ufT b k) (ufH u b f) e tm2 hp2:=fun r=>by
     cases c with
     | true=>exact qir hc hy i1 i2 lt (by simp at h1 ⊢;omega) hi hs r
     | false=>exact qhN hc hy i1 i2 lt (by simp at h1 ⊢;omega) hi hs r
    exact⟨fun H=>go (ih1 (split.1 H).2),fun H=>go (ih2 fun H2=>H (split.2 ⟨⟨h1,h2⟩,H2⟩))⟩
   ·have hi:decide (y>1000000)=true:=by simp;omega
    refine⟨fun H=>(h2 (split.1 H).1.2).elim,fun _=>?_⟩
    cases c with
    | true=>exact qmR hc hy i1 i2 lt (by simp at h1 ⊢;omega) hi
    | false=>exact qj3 hc hy i1 i2 lt (by simp at h1 ⊢;omega) hi
  ·refine⟨fun H=>(h1 (split.1 H).1.1).elim,fun _=>?_⟩
   cases c with
   | true=>exact qmO hc hy i1 i2 lt (by simp at h1 ⊢;omega)
   | false=>exact qj8 hc hy i1 i2 lt (by simp at h1 ⊢;omega)
theorem qjA (hl:b.length=u.length) (hn:b.length≤1000000):Fn 277 3 [slA u b f] (slP u b f) (.pv (.bool (qzA u b))) 0 []:=by
 obtain⟨h1,h2⟩:=qeL (f:=f) hl hn b.length 0 (by omega);cases e:qzA u b
 ·exact qHT (h2 fun H=>by rw[(qe6 hl).2 fun k x c=>H k x c (by omega)] at e;cases e)
 ·have H:=(qe6 hl).1 e;exact qz7 (h1 fun j x c _=>H j x c)
abbrev ffT (b:List Bool) (k:Nat):List (Nat×SV):=[(1,.pp 3 0),(3,.pp 5 0),(12,.ls 1 b.length),(13,.pv (iV (b.length:Int))),(14,.pv (iV (k:Int)))]
abbrev ffH (u:List Int) (b:List Bool) (f:List Int) (g:List Bool):List (Nat×Nat×SV):=[(3,0,.ls 0 u.length),(3,1,.ls 1 b.length),(3,2,.ls 2 f.length),(5,0,.ls 4 b.length),(0,0,zrI u),(1,0,zrB b),(2,0,zrI f),(4,0,.row 4 1 b.length (zbV g))]
abbrev ffG (b:List Bool) (k:Nat):List Bool:=(b.map not).take k++List.replicate (b.length-k) false
theorem qqO {k:Nat} {c:Bool} (hc:b[k]?=some c):(ffG b k).set k (!c)=ffG b (k+1):=by
 have hk:=(List.getElem?_eq_some_iff.1 hc).1;unfold ffG;rw[List.set_append_right _ _ (by simp;omega),List.length_take,List.length_map,show min k b.length=k by omega,Nat.sub_self,show b.length-k=(b.length-(k+1))+1 by omega,List.replicate_succ,List.set_cons_zero,List.take_add_one,List.getElem?_map,hc];simp
theorem qgg (hn:b.length≤1000000):Rl 3 3 278 0 36 6 (ffT b 0) (ffH u b f (List.replicate b.length false)) (.exit 0) [(1,.pp 3 0),(3,.pp 5 0)] (ffH u b f (b.map not)):=by
 have e0:List.replicate b.length false=ffG b 0:=by simp[ffG]
 have e1:b.map not=ffG b b.length:=by unfold ffG;rw[List.take_of_length_le (by simp)];simp
 rw[e0,e1];refine RunsL.roundsZ (fun k=>ffT b k) (fun k=>ffH u b f (ffG b k)) b.length 0 (by omega) (fun k _ hk r=>?_) (qAA (by simp));obtain⟨c,hc⟩:∃ c,b[k]?=some c:=⟨_,List.getElem?_eq_getElem hk⟩
 have hg:k<(ffG b k).length:=by simp[ffG];omega
 have lt:decide ((k:Int)<(b.length:Int))=true:=by simp;omega
 rw[← qqO hc] at r
 cases c with
 | true=>exact qiF hc (by omega) hg lt (qaL (by omega)) r
 | false=>exact qg0 hc (by omega) hg lt (qaL (by omega)) r
abbrev fxT (f:List Int) (k:Nat):List (Nat×SV):=[(0,.ls 2 f.length),(1,.pc 319 [.pp 3 0,.pp 5 0]),(7,.pv (iV (f.length:Int))),(8,.pv (iV (k:Int)))]
theorem qdo (hf:f.length≤1000000):∀ (d k:Nat) (g:List Bool),k+d=f.length→g.length=b.length→
 (∀ g',qbz g (f.drop k)=some g'→Rl 3 6 340 0 19 6 (fxT f k) (ffH u b f g) (.exit 0) [] (ffH u b f g'))∧
 (qbz g (f.drop k)=none→∃ (j:Nat) (g':List Bool),Rl 3 6 340 0 19 6 (fxT f k) (ffH u b f g) .ret [(4,.pv (iV (j:Int)))] (ffH u b f g'))
 | 0,k,g,h,hg=>by
  have e:f.drop k=[]:=List.drop_eq_nil_iff.2 (by omega);rw[e];refine⟨fun g' h'=>?_,fun h'=>(by cases h')⟩;cases h';exact qB4 (by simp;omega)
 | d+1,k,g,h,hg=>by
  have hk:k<f.length:=by omega
  obtain⟨x,hx⟩:∃ x,f[k]?=some x:=⟨_,List.getElem?_eq_getElem hk⟩
  have e:f.drop k=x::f.drop (k+1):=by
   rw[List.drop_eq_getElem_cons hk];rw[List.getElem?_eq_getElem hk] at hx;cases hx;rfl
  have i1:0≤(k:Int)∧(k:Int)<(f.length:Int):=by omega
  have lt:decide ((k:Int)<(f.length:Int))=true:=by simp;omega
  rw[e];unfold qbz;by_cases hin:0≤x∧x<(b.length:Int)
  ·have hhs:Fn 320 3 [slA u b f,.pv (iV x)] (slP u b f) (.pv (.bool true)) 0 []:=by
    have:=qdB (u:=u) (f:=f) (b:=b) x;simpa [hin.1,hin.2] using this
   have hxl:x.toNat<g.length:=by omega
   obtain⟨c,hc⟩:∃ c,g[x.toNat]?=some c:=⟨_,List.getElem?_eq_getElem hxl⟩
   cases c with
   | true=>
    rw[if_pos ⟨hin.1,by omega,hc⟩];obtain⟨i3,i4⟩:=qdo hf d (k+1) (g.set x.toNat false) (by omega) (by rw[List.length_set];exact hg)
    have go:∀ {e:Exit} {tm2:TmL} {hp2:HpL},Rl 3 6 340 0 19 6 (fxT f (k+1)) (ffH u b f (g.set x.toNat false)) e tm2 hp2→Rl 3 6 340 0 19 6 (fxT f k) (ffH u b f g) e tm2 hp2:=fun r=>
     qxX hx i1 lt hhs hc hin hxl (qaL (by omega)) r
    refine⟨fun g' h'=>go (i3 g' h'),fun h'=>?_⟩;obtain⟨j,g',r⟩:=i4 h';exact⟨j,g',go r⟩
   | false=>
    rw[if_neg (fun h'=>by rw[hc] at h';cases h'.2.2)];exact⟨fun g' h'=>(by cases h'),fun _=>⟨k,g,qx3 hx i1 lt hhs hc hin⟩⟩
  ·rw[if_neg (fun h'=>hin ⟨h'.1,by omega⟩)]
   have hhs:Fn 320 3 [slA u b f,.pv (iV x)] (slP u b f) (.pv (.bool false)) 0 []:=by
    have:=qdB (u:=u) (f:=f) (b:=b) x
    have e:(decide (0≤x)&&decide (x<(b.length:Int)))=false:=by
     rw[Bool.and_eq_false_iff];by_cases h0:0≤x
     ·right;simp;omega
     ·left;simpa using h0
    rw[e] at this;exact this
   exact⟨fun g' h'=>(by cases h'),fun _=>⟨k,g,qDa hx i1 lt hhs⟩⟩
theorem qdS {g:List Bool} (hn:g.length≤1000000):∀ (d k:Nat),k+d=g.length→
 (true∉g.drop k→Rl 1 1 341 0 19 1 [(0,.ls 0 g.length),(1,.pv (.bool true)),(7,.pv (iV (g.length:Int))),(8,.pv (iV (k:Int)))] [(0,0,zrB g)] (.exit 0) [] [])∧
 (true∈g.drop k→∃ j:Nat,Rl 1 1 341 0 19 1 [(0,.ls 0 g.length),(1,.pv (.bool true)),(7,.pv (iV (g.length:Int))),(8,.pv (iV (k:Int)))] [(0,0,zrB g)] .ret [(4,.pv (iV (j:Int)))] [])
 | 0,k,h=>by
  have e:g.drop k=[]:=List.drop_eq_nil_iff.2 (by omega);rw[e];exact⟨fun _=>qz6 (by simp;omega),fun h=>by cases h⟩
 | d+1,k,h=>by
  have hk:k<g.length:=by omega
  obtain⟨c,hc⟩:∃ c,g[k]?=some c:=⟨_,List.getElem?_eq_getElem hk⟩
  have e:g.drop k=c::g.drop (k+1):=by
   rw[List.drop_eq_getElem_cons hk];rw[List.getElem?_eq_getElem hk] at hc;cases hc;rfl
  have i1:0≤(k:Int)∧(k:Int)<(g.length:Int):=by omega
  have lt:decide ((k:Int)<(g.length:Int))=true:=by simp;omega
  obtain⟨i3,i4⟩:=qdS hn d (k+1) (by omega);rw[e]
  cases c with
  | true=>exact⟨fun h=>(h List.mem_cons_self).elim,fun _=>⟨k,qyK hc i1 lt⟩⟩
  | false=>
   refine⟨fun h=>qln hc i1 lt (qaL (by omega)) (i3 fun hm=>h (List.mem_cons_of_mem _ hm)),fun hm=>?_⟩
   rcases List.mem_cons.1 hm with h | h
   ·cases h
   ·obtain⟨j,r⟩:=i4 h;exact⟨j,qln hc i1 lt (qaL (by omega)) r⟩
theorem qiY {g:List Bool} (hn:g.length≤1000000):Fn 322 1 [.ls 0 g.length,.pv (.bool true)] [(0,0,zrB g)] (.pv (.bool (g.contains true))) 0 []:=by
 obtain⟨h1,h2⟩:=qdS hn g.length 0 (by omega);rw[List.drop_zero] at h1 h2;by_cases hm:true∈g
 ·obtain⟨j,r⟩:=h2 hm
  have e:g.contains true=true:=by simpa using hm
  rw[e];exact qBr r (by simp)
 ·have e:g.contains true=false:=by simpa using hm
  rw[e];exact qId (h1 hm)
theorem qh7 (hn:b.length≤1000000) (hf:f.length≤1000000):Fn 278 3 [slA u b f] (slP u b f) (.pv (.bool (qe2 b f))) 0 []:=by
 have r0:=qgg (u:=u) (f:=f) hn;obtain⟨h1,h2⟩:=qdo (u:=u) (b:=b) hf f.length 0 (b.map not) (by omega) (by simp);rw[List.drop_zero] at h1 h2;unfold qe2;split
 ·rename_i g hg
  have hl:g.length=b.length:=by rw[qek hg,List.length_map]
  have hc:=qiY (g:=g) (by omega);simp only[zrB] at hc;rw[hl] at hc;cases e:g.contains true
  ·rw[e] at hc;exact qHm (by omega) (by omega) r0 (h1 g hg) hl hc
  ·rw[e] at hc;exact qva (by omega) (by omega) r0 (h1 g hg) hl hc
 ·rename_i hg;obtain⟨j,g',r⟩:=h2 hg;exact qtl (by omega) (by omega) r0 r (by simp)
theorem qgM (hf:f.length≤1000000):Fn 224 3 [slA u b f] (slP u b f) (.pv (iV (if qcQ u b f=true then 0 else 8))) 0 []:=by
 by_cases h1:1≤u.length
 ·by_cases h2:u.length≤200
  ·have hz:Pure Tryz.prog 213 #[iV (u.length:Int)] (.bool true):=qzO (by simp;omega) (by simp;omega);by_cases h3:b.length=u.length
   ·have hl:(!((b.length:Int)==(u.length:Int)))=false:=by simp;omega
    have hu:=qjA (f:=f) h3 (by omega);have hfr:=qh7 (u:=u) (b:=b) (f:=f) (by omega) hf;cases e1:qzA u b
    ·rw[e1] at hu;rw[if_neg (by unfold qcQ;simp[e1])];exact qz1 hz hl hu
    ·rw[e1] at hu;cases e2:qe2 b f
     ·rw[e2] at hfr;rw[if_neg (by unfold qcQ;simp[e2])];exact qyx hz hl hu hfr
     ·rw[e2] at hfr;rw[if_pos (by unfold qcQ;simp[h1,h2,h3,e1,e2])];exact qz9 hz hl hu hfr
   ·rw[if_neg (by unfold qcQ;simp[h3])];exact qD2 hz (by simp;omega)
  ·rw[if_neg (by unfold qcQ;simp[h2])];exact qnv (qBq (by simp;omega) (by simp;omega))
 ·rw[if_neg (by unfold qcQ;simp[h1])];exact qnv (qBM (by simp;omega))
end
end Go.Proofs.YtkckcgpmnipnaaaGreat

namespace Go.Proofs.YtkckcgpmnipnaaaGreat
set_option maxRecDepth 100000
open Go.RowKit
variable {l fr u:List Int} {ad:Addr} {c m:Nat} {x y z hi hw:Int} {b:List Bool}
theorem qvS (n:Nat):SV.ls 2 (0+n)=(SV.ls 1 n).ren (qaM [(1,2)]):=by rw[Nat.zero_add];rfl
theorem qel (e:TypeId) (n:Nat) (xs:List Value):some (SV.row e 1 (0+n) ([]++xs))=some (SV.row e 1 n xs):=by rw[Nat.zero_add,List.nil_append]
theorem qDj (fr:List Int):SV.ls 5 (0+fr.length+1)=(SV.ls 3 (fr.length+1)).ren (qaM [(3,5)]):=by rw[Nat.zero_add];rfl
theorem qse (fr:List Int) (x:Int):some (SV.row 3 1 (0+fr.length+1) ([]++ziV fr++[iV x]))=some (SV.row 3 1 (fr.length+1) (ziV (fr++[x]))):=by rw[Nat.zero_add,List.nil_append,qeI];rfl
theorem qs0 (h0:0<l.length) (hn:0+l.length≤1000000) :
 Fn 63 1 [.ls 0 l.length] [(0,0,zrI l)] (.ls 1 l.length) 1 [(1,0,zrI l)]:=
 Fx [(1,2)] [.t false]
  (qvS l.length) (Ai (qel 3 l.length (ziV l)) tI) (A2 h0 hn tI)
theorem qFC:
 Fn 63 0 [.pv (.slice (some ad) 0 c)] [] (.ls 0 0) 1 [(0,0,.row 3 1 0 [])]:=
 Fz [(0,1)] [.k]
  (qaG (qaM [(0,1)]) [(0,0,.row 3 1 0 [])]) (Ai (Nat.zero_le _:0+0≤1000000) tI)
theorem qwb:Pure Tryz.prog 63 #[.slice none 0 c] (.slice none 0 0):=
 qaJ (args:=[.slice none 0 c]) 200 [] (Ai rfl tI) (by kernel_rfl)
theorem qqN (h0:0<l.length) (hn:0+l.length≤1000000) :
 Fn 347 1 [.ls 0 l.length] [(0,0,zrI l)] (.ls 1 l.length) 1 [(1,0,zrI l)]:=
 Fx [(1,2)] [.t false]
  (qvS l.length) (Ai (qel 3 l.length (ziV l)) tI) (A2 h0 hn tI)
theorem qFX:
 Fn 347 0 [.pv (.slice (some ad) 0 c)] [] (.ls 0 0) 1 [(0,0,.row 3 1 0 [])]:=
 Fz [(0,1)] [.k]
  (qaG (qaM [(0,1)]) [(0,0,.row 3 1 0 [])]) (Ai (Nat.zero_le _:0+0≤1000000) tI)
theorem qyY:Pure Tryz.prog 347 #[.slice none 0 c] (.slice none 0 0):=
 qaJ (args:=[.slice none 0 c]) 200 [] (Ai rfl tI) (by kernel_rfl)
theorem qsc {l:List Bool} (h0:0<l.length) (hn:0+l.length≤1000000) :
 Fn 348 1 [.ls 0 l.length] [(0,0,zrB l)] (.ls 1 l.length) 1 [(1,0,zrB l)]:=
 Fx [(1,2)] [.t false]
  (qvS l.length) (Ai (qel 4 l.length (zbV l)) tI) (A2 h0 hn tI)
theorem qF6:
 Fn 348 0 [.pv (.slice (some ad) 0 c)] [] (.ls 0 0) 1 [(0,0,.row 4 1 0 [])]:=
 Fz [(0,1)] [.k]
  (qaG (qaM [(0,1)]) [(0,0,.row 4 1 0 [])]) (Ai (Nat.zero_le _:0+0≤1000000) tI)
theorem qwB:Pure Tryz.prog 348 #[.slice none 0 c] (.slice none 0 0):=
 qaJ (args:=[.slice none 0 c]) 200 [] (Ai rfl tI) (by kernel_rfl)
theorem wti (hin:0≤x∧x<(l.length:Int)) (hl:x.toNat<l.length) (hc:Fn 347 1 [.ls 0 l.length] [(0,0,zrI l)] (.ls 1 l.length) 1 [(1,0,zrI l)]) :
 Fn 337 1 [.ls 0 l.length,.pv (iV x),.pv (iV y)] [(0,0,zrI l)] (.ls 1 l.length) 1 [(1,0,.row 3 1 l.length (ziV (l.set x.toNat y)))]:=
 Fz [(1,1)] [Cf hc [0],.w (ziV (l.set x.toNat y))]
  (qaG (qaM [(1,1)]) [(1,0,.row 3 1 l.length (ziV (l.set x.toNat y)))]) (Co hc [0] 1 (A3 hin (qcB l x.toNat y hl) (qaQ l x.toNat hl) tI))
theorem qHb {l:List Bool} (hin:0≤x∧x<(l.length:Int)) (hl:x.toNat<l.length) (hc:Fn 348 1 [.ls 0 l.length] [(0,0,zrB l)] (.ls 1 l.length) 1 [(1,0,zrB l)]) :
 Fn 338 1 [.ls 0 l.length,.pv (iV x),.pv (.bool true)] [(0,0,zrB l)] (.ls 1 l.length) 1 [(1,0,.row 4 1 l.length (zbV (l.set x.toNat true)))]:=
 Fz [(1,1)] [Cf hc [0],.w (zbV (l.set x.toNat true))]
  (qaG (qaM [(1,1)]) [(1,0,.row 4 1 l.length (zbV (l.set x.toNat true)))]) (Co hc [0] 1 (A3 hin (qug l x.toNat true hl) (qeU l x.toNat hl) tI))
theorem qFG {l:List Bool} (hin:0≤x∧x<(l.length:Int)) (hl:x.toNat<l.length) (hc:Fn 348 1 [.ls 0 l.length] [(0,0,zrB l)] (.ls 1 l.length) 1 [(1,0,zrB l)]) :
 Fn 338 1 [.ls 0 l.length,.pv (iV x),.pv (.bool false)] [(0,0,zrB l)] (.ls 1 l.length) 1 [(1,0,.row 4 1 l.length (zbV (l.set x.toNat false)))]:=
 Fz [(1,1)] [Cf hc [0],.w (zbV (l.set x.toNat false))]
  (qaG (qaM [(1,1)]) [(1,0,.row 4 1 l.length (zbV (l.set x.toNat false)))]) (Co hc [0] 1 (A3 hin (qug l x.toNat false hl) (qeU l x.toNat hl) tI))
theorem qHy (h0:decide (z<0)=false) (hs:iV (IntKind.i64.wrap (z-0))=iV (z)) (hg:decide (z>0)=true) (a0:0≤z) (a1:z≤1000000) :
 Fn 350 0 [.pv (.slice none 0 0),.pv (iV (z))] [] (.ls 0 0) 1 [(0,0,.row 3 1 0 [])]:=
 Fz [(0,1)] [.t false,.k,Re hs,.t true,.w []]
  (qaG (qaM [(0,1)]) [(0,0,.row 3 1 0 [])]) (A7 h0 hs hg a0 a1 (Int.le_refl (0:Int)) (Nat.zero_le z.toNat) tI)
theorem qJz (q1:iV (IntKind.i64.wrap ((0:Int)+(fr.length:Int)))=iV (fr.length:Int)) (n1:decide ((fr.length:Int)<0)=false) (q2:iV (IntKind.i64.wrap ((fr.length:Int)+1))=iV (((fr.length+1:Nat):Int))) (n2:decide (((fr.length+1:Nat):Int)<0)=false) (hgr:Fn 350 0 [.pv (.slice none 0 0),.pv (iV (((fr.length+1:Nat):Int)))] [] (.ls 0 0) 1 [(0,0,.row 3 1 0 [])]) (a1:0+fr.length≤1000000) (a2:0+fr.length+1≤1000000) :
 Fn 343 3 [.ps 2 0 2 2] [(2,0,.ls 0 fr.length),(2,1,.ps 1 0 1 1),(1,0,.pv (iV x)),(0,0,zrI fr)] (.ls 3 (fr.length+1)) 1 [(3,0,.row 3 1 (fr.length+1) (ziV (fr++[x])))]:=
 Fx [(3,5)] [.k,Re q1,.t false,.k,.k,Re q2,.t false,.k,.k,Cf hgr [],.k,.k,.k,.k,.k]
  (qDj fr) (Ai (qse fr x) tI) (A4 q1 n1 q2 n2 (Co hgr [] 3 (A2 a1 a2 tI)))
abbrev qsL (b:List Bool) (fr:List Int) (u:List Int):HpL:=[(0,0,zrI u),(1,0,zrB b),(2,0,zrI fr)]
theorem qx5 (hh:Fn 320 3 [.ag [.ls 0 u.length,.ls 1 b.length,.ls 2 fr.length],.pv (iV (hi))] (qsL b fr u) (.pv (.bool true)) 0 []) (hib:0≤hi∧hi<(b.length:Int)) (hb:b[hi.toNat]?=some true) (hiu:0≤hi∧hi<(u.length:Int)) (hue:u[hi.toNat]?=some y) (he:(y==hw)=true) :
 Fn 332 3 [.ag [.ls 0 u.length,.ls 1 b.length,.ls 2 fr.length],.pv (.agg #[iV hi,iV hw])] (qsL b fr u) (.pv (.bool true)) 0 []:=
 Fz [] [Cf hh [0,1,2],.r (.bool true),.r (iV y),.t true]
  tI (Co hh [0,1,2] 5 (A5 hib (qhY hb) hiu (qc3 hue) he tI))
abbrev qDI (b:List Bool) (fr:List Int) (u:List Int):Prop:=Fn 224 3 [.ag [.ls 0 u.length,.ls 1 b.length,.ls 2 fr.length]] [(0,0,zrI u),(1,0,zrB b),(2,0,zrI fr)] (.pv (iV (0))) 0 []
theorem qqV (hc:qDI b fr u) (hl:Fn 332 3 [.ag [.ls 0 u.length,.ls 1 b.length,.ls 2 fr.length],.pv (.agg #[iV hi,iV hw])] (qsL b fr u) (.pv (.bool true)) 0 []) :
 Fn 311 3 [.ag [.ls 0 u.length,.ls 1 b.length,.ls 2 fr.length],.pv (.agg #[iV hi,iV hw])] (qsL b fr u) (.pv (.tuple #[.bool true,iV 0])) 0 []:=
 Fz [] [Cf hc [0,1,2],.k,Cf hl [0,1,2]]
  tI (Co hc [0,1,2] 5 (Co hl [0,1,2] 5 tI))
theorem qxC (hc:qDI b fr u) (hl:iV (IntKind.i64.wrap ((fr.length:Int)-1))=iV (-1)) :
 Fn 315 3 [.ag [.ls 0 u.length,.ls 1 b.length,.ls 2 fr.length]] (qsL b fr u) (.pv (.tuple #[.agg #[.slice none 0 0,.slice none 0 0,.slice none 0 0],.agg #[iV 0,iV 0],iV 18])) 0 []:=
 Fz [] [Cf hc [0,1,2],.k,Re hl,.k]
  tI (Co hc [0,1,2] 6 (Ai hl tI))
theorem qyw (hc:qDI b fr u) (hl:iV (IntKind.i64.wrap ((fr.length:Int)-1))=iV (m:Int)) (h0:decide ((m:Int)<0)=false) (hm:0≤(m:Int)∧(m:Int)<(fr.length:Int)) (hf:fr[m]?=some x) (hx:0≤x∧x<(u.length:Int)) (hu:u[x.toNat]?=some y) (hy:(y==1000000)=true) :
 Fn 315 3 [.ag [.ls 0 u.length,.ls 1 b.length,.ls 2 fr.length]] (qsL b fr u) (.pv (.tuple #[.agg #[.slice none 0 0,.slice none 0 0,.slice none 0 0],.agg #[iV 0,iV 0],iV 18])) 0 []:=
 Fz [] [Cf hc [0,1,2],.k,Re hl,.t false,.r (iV x),.r (iV y),.t true]
  tI (Co hc [0,1,2] 6 (A7 hl h0 hm (qbb hf) hx (qc3 hu) hy tI))
theorem qIx (hc:qDI b fr u) (hl:iV (IntKind.i64.wrap ((fr.length:Int)-1))=iV (m:Int)) (h0:decide ((m:Int)<0)=false) (hm:0≤(m:Int)∧(m:Int)<(fr.length:Int)) (hf:fr[m]?=some x) (hx:0≤x∧x<(u.length:Int)) (hu:u[x.toNat]?=some y) (hy:(y==1000000)=false) (h1:iV (IntKind.i64.wrap (y+1))=iV (z)) (w1:Fn 337 1 [.ls 0 u.length,.pv (iV x),.pv (iV z)] [(0,0,zrI u)] (.ls 1 u.length) 1 [(1,0,.row 3 1 u.length (ziV (u.set x.toNat z)))]) (w2:Fn 338 1 [.ls 0 b.length,.pv (iV x),.pv (.bool true)] [(0,0,zrB b)] (.ls 1 b.length) 1 [(1,0,.row 4 1 b.length (zbV (b.set x.toNat true)))]) (hml:m≤fr.length) (w3:Fn 63 1 [.lq 0 1 0 m] [(0,0,zrI fr)] (.ls 1 m) 1 [(1,0,.row 3 1 m (ziV (fr.take m)))]) :
 Fn 315 3 [.ag [.ls 0 u.length,.ls 1 b.length,.ls 2 fr.length]] (qsL b fr u) (.tu [.ag [.ls 3 u.length,.ls 4 b.length,.ls 5 m],.one (.pv (.agg #[iV x,iV z])),.one (.pv (iV 0))]) 3 [(3,0,.row 3 1 u.length (ziV (u.set x.toNat z))),(4,0,.row 4 1 b.length (zbV (b.set x.toNat true))),(5,0,.row 3 1 m (ziV (fr.take m)))]:=
 Fz [(3,7),(4,8),(5,9)] [Cf hc [0,1,2],.k,Re hl,.t false,.r (iV x),.r (iV y),.t false,.r (iV x),.r (iV x),.r (iV y),Re h1,.md,Cf w1 [0],Cf w2 [1],.k,Cf w3 [2]]
  (qaG (qaM [(3,7),(4,8),(5,9)]) [(3,0,.row 3 1 u.length (ziV (u.set x.toNat z))),(4,0,.row 4 1 b.length (zbV (b.set x.toNat true))),(5,0,.row 3 1 m (ziV (fr.take m)))]) (Co hc [0,1,2] 6 (A9 hl h0 hm (qbb hf) hx (qc3 hu) hy hm (qbb hf) (A5 hm (qbb hf) hx (qc3 hu) h1 (Co w1 [0] 7 (Co w2 [1] 8 (A4 tI (Int.natCast_nonneg m) (Nat.zero_le m) hml (Co w3 [2] 9 tI)))))))
theorem qFb (hc:qDI b fr u) (hl:Fn 332 3 [.ag [.ls 0 u.length,.ls 1 b.length,.ls 2 fr.length],.pv (.agg #[iV hi,iV hw])] (qsL b fr u) (.pv (.bool true)) 0 []) (w1:yp u) (w2:Fn 338 1 [.ls 0 b.length,.pv (iV hi),.pv (.bool false)] [(0,0,zrB b)] (.ls 1 b.length) 1 [(1,0,.row 4 1 b.length (zbV (b.set hi.toNat false)))]) (w3:Fn 343 3 [.ps 2 0 2 2] [(2,0,.ls 0 fr.length),(2,1,.ps 1 0 1 1),(1,0,.pv (iV hi)),(0,0,zrI fr)] (.ls 3 (fr.length+1)) 1 [(3,0,.row 3 1 (fr.length+1) (ziV (fr++[hi])))]) :
 Fn 327 3 [.ag [.ls 0 u.length,.ls 1 b.length,.ls 2 fr.length],.pv (.agg #[iV hi,iV hw])] (qsL b fr u) (.tu [.ag [.ls 3 u.length,.ls 4 b.length,.ls 5 (fr.length+1)],.one (.pv (iV 0))]) 3 [(3,0,.row 3 1 u.length (ziV (u))),(4,0,.row 4 1 b.length (zbV (b.set hi.toNat false))),(5,0,.row 3 1 (fr.length+1) (ziV (fr++[hi])))]:=
 Fz [(3,6),(4,7),(5,10)] [Cf hc [0,1,2],.k,Cf hl [0,1,2],.k,.md,Cf w1 [0],Cf w2 [1],Cf w3 [2,8,9]]
  (qaG (qaM [(3,6),(4,7),(5,10)]) [(3,0,.row 3 1 u.length (ziV (u))),(4,0,.row 4 1 b.length (zbV (b.set hi.toNat false))),(5,0,.row 3 1 (fr.length+1) (ziV (fr++[hi])))]) (Co hc [0,1,2] 6 (Co hl [0,1,2] 6 (Co w1 [0] 6 (Co w2 [1] 7 (Co w3 [2,8,9] 10 tI)))))
end Go.Proofs.YtkckcgpmnipnaaaGreat
