/-
  Joined: Fg, Fq, Fm, Fn, Fr, Fs. Conditions: none.
-/
import Derived.Test.YtalnjplghagbpaaW23
import Derived.Test.YtalnjplghagbpaaW19
import Derived.ProofKit
import Derived.OpenShut
import Derived.Lib.SmallJoins
import Derived.Deep.Slices
import Derived.Deep.Strs
import Derived.Deep.Fields
import Derived.Carry
import Derived.Test.YtalnjplghagbpaaW20
namespace Go.Proofs.Ytalnjplghagbpaa
set_option maxRecDepth 100000
open Go.RowKit
theorem qk5 {a pa pb id:Int} (n1:(!(a==a))=false) (n2:(!(id==id))=false) (h1:decide (a<id)=true):Pure Try.prog 119 #[qab a pa pb,iV id] (iV (-1)):=
 qae (args:=[qab a pa pb,iV id]) 200 [.k,.k,.t false,.k,.t false,.t true] (Ai rfl (Ai n1 (Ai n2 (Ai h1 tI)))) (by kernel_rfl)
theorem qmD {a pa pb id:Int} (n1:(!(a==a))=false) (n2:(!(id==id))=false) (h1:decide (a<id)=false) (h2:decide (a>id)=true):Pure Try.prog 119 #[qab a pa pb,iV id] (iV (1)):=
 qae (args:=[qab a pa pb,iV id]) 200 [.k,.k,.t false,.k,.t false,.t false,.t true] (Ai rfl (Ai n1 (Ai n2 (Ai h1 (Ai h2 tI))))) (by kernel_rfl)
theorem qlg {a pa pb id:Int} (n1:(!(a==a))=false) (n2:(!(id==id))=false) (h1:decide (a<id)=false) (h2:decide (a>id)=false):Pure Try.prog 119 #[qab a pa pb,iV id] (iV (0)):=
 qae (args:=[qab a pa pb,iV id]) 200 [.k,.k,.t false,.k,.t false,.t false,.t false] (Ai rfl (Ai n1 (Ai n2 (Ai h1 (Ai h2 tI))))) (by kernel_rfl)
abbrev qr8 (i:Nat) (id:Int) (j:Nat) (l:List Pt):TmL:=[(0,.ls 0 l.length),(1,.pv (iV id)),(2,.pv (.func (.func 119) #[] #[])),(8,.pv (iV (l.length:Int))),(9,.pv (iV (i:Int))),(10,.pv (iV (j:Int)))]
abbrev qrV (c:Int) (id:Int) (p:Pt):Prop:=Pure Try.prog 119 #[qab p.id p.a p.b,iV id] (iV (c))
theorem qsx {l:List Pt} {i j h:Nat} {p:Pt} {c:Int} {id:Int} (hk:l[h]?=some p) (hin:0≤(h:Int)∧(h:Int)<(l.length:Int)) (hlt:decide ((i:Int)<(j:Int))=true) (ha:iV (IntKind.i64.wrap ((i:Int)+(j:Int)))=iV ((i:Int)+(j:Int))) (hu:Value.int .u64 (IntKind.u64.wrap ((i:Int)+(j:Int)))=.int .u64 ((i:Int)+(j:Int))) (h1:¬ (1:Int)<0) (hs:Value.int .u64 (((i:Int)+(j:Int)).fdiv (2 ^ (min (1:Int).toNat IntKind.u64.bits)))=.int .u64 (h:Int)) (hb:iV (IntKind.i64.wrap (h:Int))=iV (h:Int)) (hc:qrV c id p) (hz:decide (c<0)=true) (hh:iV (IntKind.i64.wrap ((h:Int)+1))=iV (((h+1:Nat):Int))) {e:Exit} {tm2:TmL} {hp2:HpL}
 (r:Rl 1 1 118 0 49 1 ([(0,.ls 0 l.length),(1,.pv (iV id)),(2,.pv (.func (.func 119) #[] #[])),(8,.pv (iV (l.length:Int))),(9,.pv (iV ((h+1:Nat):Int))),(10,.pv (iV (j:Int)))]) ([(0,0,qan l)]) e tm2 hp2):Rl 1 1 118 0 49 1 (qr8 i id j l) ([(0,0,qan l)]) e tm2 hp2:=
 RunsL.next [] 300 [.t true,Re ha,Re hu,.r (.int .u64 (h:Int)),Re hb,.r (ptV p),Rf hc,.t true,Re hh]
  (Ro (Ai hlt (Ai ha (Ai hu (Ai h1 (Ai hs (Ai hb (Ai hin (Ai (qa0 hk) (Ai hc (Ai hz (Ai hh tI)))))))))))) r
theorem qtB {l:List Pt} {i j h:Nat} {p:Pt} {c:Int} {id:Int} (hk:l[h]?=some p) (hin:0≤(h:Int)∧(h:Int)<(l.length:Int)) (hlt:decide ((i:Int)<(j:Int))=true) (ha:iV (IntKind.i64.wrap ((i:Int)+(j:Int)))=iV ((i:Int)+(j:Int))) (hu:Value.int .u64 (IntKind.u64.wrap ((i:Int)+(j:Int)))=.int .u64 ((i:Int)+(j:Int))) (h1:¬ (1:Int)<0) (hs:Value.int .u64 (((i:Int)+(j:Int)).fdiv (2 ^ (min (1:Int).toNat IntKind.u64.bits)))=.int .u64 (h:Int)) (hb:iV (IntKind.i64.wrap (h:Int))=iV (h:Int)) (hc:qrV c id p) (hz:decide (c<0)=false) {e:Exit} {tm2:TmL} {hp2:HpL}
 (r:Rl 1 1 118 0 49 1 ([(0,.ls 0 l.length),(1,.pv (iV id)),(2,.pv (.func (.func 119) #[] #[])),(8,.pv (iV (l.length:Int))),(9,.pv (iV (i:Int))),(10,.pv (iV (h:Int)))]) ([(0,0,qan l)]) e tm2 hp2):Rl 1 1 118 0 49 1 (qr8 i id j l) ([(0,0,qan l)]) e tm2 hp2:=
 RunsL.next [] 300 [.t true,Re ha,Re hu,.r (.int .u64 (h:Int)),Re hb,.r (ptV p),Rf hc,.t false]
  (Ro (Ai hlt (Ai ha (Ai hu (Ai h1 (Ai hs (Ai hb (Ai hin (Ai (qa0 hk) (Ai hc (Ai hz tI))))))))))) r
theorem qmY {l:List Pt} {i j:Nat} {id:Int} (hge:decide ((i:Int)<(j:Int))=false):Rl 1 1 118 0 49 1 (qr8 i id j l) ([(0,0,qan l)]) (.exit 0) (qr8 i id j l) ([(0,0,qan l)]):=
 RunsL.stop [] 300 [.t false] (fun h=>by cases h)
  (Ro (Ai hge tI))
abbrev qsE (id:Int) (k:Nat) (l:List Pt):Prop:=Rl 1 1 118 0 49 1 ([(0,.ls 0 l.length),(1,.pv (iV id)),(2,.pv (.func (.func 119) #[] #[])),(8,.pv (iV (l.length:Int))),(9,.pv (iV ((0:Nat):Int))),(10,.pv (iV (l.length:Int)))]) ([(0,0,qan l)]) (.exit 0) ([(0,.ls 0 l.length),(1,.pv (iV id)),(2,.pv (.func (.func 119) #[] #[])),(8,.pv (iV (l.length:Int))),(9,.pv (iV (k:Int))),(10,.pv (iV (k:Int)))]) ([(0,0,qan l)])
theorem qoH {l:List Pt} {k:Nat} {id:Int} (r0:qsE id k l) (hge:decide ((k:Int)<(l.length:Int))=false) :
 Fn 118 1 [.ls 0 l.length,.pv (iV (id)),.pv (.func (.func 119) #[] #[])] [(0,0,qan l)] (.pv (.tuple #[iV (k:Int),.bool false])) 0 []:=
 Fz [] [Lf r0,.t false]
  tI (Lo r0 [] (Ai hge tI))
theorem qn6 {l:List Pt} {k:Nat} {p:Pt} {c:Int} {id:Int} (r0:qsE id k l) (hk:l[k]?=some p) (hin:0≤(k:Int)∧(k:Int)<(l.length:Int)) (hlt:decide ((k:Int)<(l.length:Int))=true) (hc:qrV c id p) (hz:(c==0)=true) :
 Fn 118 1 [.ls 0 l.length,.pv (iV (id)),.pv (.func (.func 119) #[] #[])] [(0,0,qan l)] (.pv (.tuple #[iV (k:Int),.bool true])) 0 []:=
 Fz [] [Lf r0,.t true,.r (ptV p),Rf hc,.t true]
  tI (Lo r0 [] (Ai hlt (Ai hin (Ai (qa0 hk) (Ai hc (Ai hz tI))))))
theorem qqV {l:List Pt} {k:Nat} {p:Pt} {c:Int} {id:Int} (r0:qsE id k l) (hk:l[k]?=some p) (hin:0≤(k:Int)∧(k:Int)<(l.length:Int)) (hlt:decide ((k:Int)<(l.length:Int))=true) (hc:qrV c id p) (hz:(c==0)=false) :
 Fn 118 1 [.ls 0 l.length,.pv (iV (id)),.pv (.func (.func 119) #[] #[])] [(0,0,qan l)] (.pv (.tuple #[iV (k:Int),.bool false])) 0 []:=
 Fz [] [Lf r0,.t true,.r (ptV p),Rf hc,.t false]
  tI (Lo r0 [] (Ai hlt (Ai hin (Ai (qa0 hk) (Ai hc (Ai hz tI))))))
theorem qdj {l:List Pt} {k:Nat} {b:Bool} {id:Int} (hb:Fn 118 1 [.ls 0 l.length,.pv (iV (id)),.pv (.func (.func 119) #[] #[])] [(0,0,qan l)] (.pv (.tuple #[iV (k:Int),.bool b])) 0 []) :
 Fn 109 1 [qax 0 l,.pv (iV (id))] [(0,0,qan l)] (.pv (.tuple #[iV (k:Int),.bool b])) 0 []:=
 Fz [] [Cf hb [0]]
  tI (Co hb [0] 2 tI)
theorem qk3 {l:List Pt} {k:Nat} {id:Int} (hc:Fn 47 1 [qax 0 l] [(0,0,qan l)] (.pv (iV (0))) 0 []) (hf:Fn 109 1 [qax 0 l,.pv (iV (id))] [(0,0,qan l)] (.pv (.tuple #[iV (k:Int),.bool false])) 0 []) :
 Fn 93 1 [qax 0 l,.pv (iV (id))] [(0,0,qan l)] (.pv (.tuple #[qab 0 0 0,iV (6)])) 0 []:=
 Fz [] [Cf hc [0],.k,Cf hf [0],.k]
  tI (Co hc [0] 3 (Co hf [0] 3 tI))
theorem qjU {l:List Pt} {k:Nat} {p:Pt} {id:Int} (hk:l[k]?=some p) (hin:0≤(k:Int)∧(k:Int)<(l.length:Int)) (hc:Fn 47 1 [qax 0 l] [(0,0,qan l)] (.pv (iV (0))) 0 []) (hf:Fn 109 1 [qax 0 l,.pv (iV (id))] [(0,0,qan l)] (.pv (.tuple #[iV (k:Int),.bool true])) 0 []) :
 Fn 93 1 [qax 0 l,.pv (iV (id))] [(0,0,qan l)] (.pv (.tuple #[ptV p,iV (0)])) 0 []:=
 Fz [] [Cf hc [0],.k,Cf hf [0],.k,.r (ptV p)]
  tI (Co hc [0] 3 (Co hf [0] 3 (Ai hin (Ai (qa0 hk) tI))))
end Go.Proofs.Ytalnjplghagbpaa

namespace Go.Proofs.Ytalnjplghagbpaa
set_option maxRecDepth 100000
open Go.ChangeShapes Go.WideShapes Go.ChangeAt Go.RowKit Go.Joins Go.Deep
theorem qj9:Try.prog.cellsOf 37=1:=by kernel_rfl
theorem qqF:Try.prog.cellsOf 35=1:=by kernel_rfl
theorem qq1:Try.prog.cellsOf 80=3:=by kernel_rfl
theorem qnA:Try.prog.cellsOf 3=1:=by kernel_rfl
theorem qoq:Try.prog.cellsOf 2=1:=by kernel_rfl
theorem qmn:Try.prog.readableRec 37=true:=by kernel_rfl
theorem qoA:37<Try.prog.types.size:=of_decide_eq_true (by kernel_rfl)
section
variable {H:Type} {enc:TypeId×Value→H} {W:World} {base:Nat} {spare:Nat→Bool} {held:Bool}
theorem qm9 (f:Nat→Pt):∀ (n j:Nat) (v:Value),(qah ((List.range n).map f))[j]?=some v→j/3<n∧[iV (f (j/3)).id,iV (f (j/3)).a,iV (f (j/3)).b][j%3]?=some v:=by
 intro n j v h
 have hj:j<n*3:=by
  have:=(List.getElem?_eq_some_iff.1 h).1
  rw[qaG] at this
  simpa using this
 have hk:j/3<n:=by omega
 have hg:=qdf (l:=(List.range n).map f) (k:=j/3) (p:=f (j/3)) (by simp[hk])
 refine⟨hk,?_⟩
 have h3:j%3=0∨j%3=1∨j%3=2:=by omega
 have e:j=j/3*3+j%3:=by omega
 rw[e] at h
 rcases h3 with e3 | e3 | e3<;>rw[e3] at h ⊢
 ·rw[Nat.add_zero,hg.1] at h;exact h
 ·rw[hg.2.1] at h;exact h
 ·rw[hg.2.2] at h;exact h
theorem qmN {fuel:Nat} {cs:List Value} {x:DataW H×List MemPlace} (h:DataW.trod enc Try.prog W base spare held fuel 35 cs=some x) :
 ∃ (u:Value) (l:List Pt),cs=[u]∧Rd W 3 u l.length (qah l)∧∀ p∈l,((Lit.int .i64 p.id).wf=true∧(Lit.int .i64 p.a).wf=true∧(Lit.int .i64 p.b).wf=true):=by
 rcases open_slice Try.underlying35 h with ⟨rfl,_⟩ | ⟨a,len,cap,m,n,D,Pl,rfl,_,hlc,_,hm,_,hi⟩
 ·exact⟨_,[],rfl,⟨rfl,none,0,rfl,Nat.le_refl _,fun j v hv=>by simp[qah] at hv⟩,fun p hp=>by simp at hp⟩
 have hlm:len≤m:=by rw[hm];split<;>omega
 have each:∀ i,i<len→∃ p:Pt,W.cell? (a.add (i*3))=some (iV p.id)∧W.cell? (a.add (i*3+1))=some (iV p.a)∧W.cell? (a.add (i*3+2))=some (iV p.b)∧
  ((Lit.int .i64 p.id).wf=true∧(Lit.int .i64 p.a).wf=true∧(Lit.int .i64 p.b).wf=true):=by
  intro i hil
  obtain⟨cs',hc,ht⟩:=hi i (by omega)
  rw[qq1] at hc
  obtain⟨y0,y1,y2,n',_,hlen,t0,t1,t2⟩:=trod_struct3 Try.underlying80 ht
  obtain⟨_,hcl,hat⟩:=World.cells?_some hc
  match cs',hcl with
  | [c0,c1,c2],_=>
   obtain⟨pi,e0,_,w0⟩:=DataW.trod_int Try.underlying3 t0
   obtain⟨pa,e1,_,w1⟩:=DataW.trod_int Try.underlying2 t1
   obtain⟨pb,e2,_,w2⟩:=DataW.trod_int Try.underlying2 t2
   simp[qnA,qoq] at e0 e1 e2
   refine⟨⟨pi,pa,pb⟩,?_,?_,?_,w0,w1,w2⟩
   ·have:=hat 0 (by omega);rw[add_add] at this;simpa [e0] using this
   ·have:=hat 1 (by omega);rw[add_add] at this;simpa [e1] using this
   ·have:=hat 2 (by omega);rw[add_add] at this;simpa [e2] using this
 haveI:Inhabited Pt:=⟨⟨0,0,0⟩⟩
 obtain⟨f,hf⟩:=choose_lt (α:=Pt) each
 refine⟨_,(List.range len).map f,rfl,⟨qaG _,some a,cap,by simp,by simpa using hlc,fun j v hv=>?_⟩,fun p hp=>?_⟩
 ·obtain⟨hk,he⟩:=qm9 f len j v hv
  obtain⟨c0,c1,c2,_⟩:=hf _ hk
  have hcell:W.cell? (a.add j)=some v:=by
   have h3:j%3=0∨j%3=1∨j%3=2:=by omega
   have e:j=j/3*3+j%3:=by omega
   rcases h3 with e3 | e3 | e3<;>rw[e3] at he e<;>rw[e]<;>simp at he<;>subst he
   ·exact c0
   ·exact c1
   ·exact c2
  obtain⟨b,off,spot⟩:=a
  have hs:spot=none:=by simpa [Addr.add] using World.cell?_spot (hf 0 (by omega)).1
  subst hs
  exact⟨b,off,rfl,by rw[← Go.WideShapes.add_plain];exact hcell⟩
 ·obtain⟨i,hi',rfl⟩:=List.mem_map.1 hp
  exact (hf i (List.mem_range.1 hi')).2.2.2
theorem qlK {r:Reach} {b0:Nat} {v:Value} {d:DataW H} {p:List MemPlace} (hv:Value.okWide Try.prog W r b0 37 v) (h:DataW.Trod enc Try.prog W base spare held 37 v d p) :
 ∃ (u:Value) (l:List Pt),v=.agg #[u]∧Rd W 3 u l.length (qah l)∧∀ p∈l,((Lit.int .i64 p.id).wf=true∧(Lit.int .i64 p.a).wf=true∧(Lit.int .i64 p.b).wf=true):=by
 obtain⟨cs,rfl,hsz⟩:=okWide_struct Try.underlying37 hv
 obtain⟨fuel,hf⟩:=h
 obtain⟨y0,n,_,hlen,h0⟩:=trod_struct1 Try.underlying37 hf
 obtain⟨u,l,hc,hr,hb⟩:=qmN h0
 refine⟨u,l,?_,hr,hb⟩
 rw[qqF] at hc
 have h1:cs.size=1:=hsz.trans qj9
 obtain⟨c0,rfl⟩:∃ c0,cs=#[c0]:=by
  obtain⟨L⟩:=cs
  match L,h1 with
  | [c0],_=>exact⟨c0,rfl⟩
 simp[Value.cells] at hc
 rw[hc]
end
theorem qcJ:∀ (l:List Pt) (v:Value),v∈qah l→v.oneCell'=true
 | [],_,h=>by simp[qah] at h
 | p::r,v,h=>by
  simp only[qah,List.mem_cons] at h
  rcases h with rfl | rfl | rfl | h
  ·rfl
  ·rfl
  ·rfl
  ·exact qcJ r v h
end Go.Proofs.Ytalnjplghagbpaa

namespace Go.Proofs.Ytalnjplghagbpaa
set_option maxRecDepth 100000
open Go.RowKit
def qfw (p:Pt):Bool:=okP p.id p.a p.b
def Up (l:List Pt):Prop:=∀ (k:Nat) (p q:Pt),l[k]?=some p→l[k+1]?=some q→p.id<q.id
noncomputable def qic (l:List Pt):Int:=open Classical in if 64<l.length then 4 else if ∀ p∈l,qfw p=true then (if Up l then 0 else 32) else 8
theorem qaN (P:Nat→Prop):∀ (N:Nat),(∀ k,k<N→P k)∨∃ j,j<N∧¬ P j∧∀ i,i<j→P i
 | 0=>Or.inl fun k hk=>by omega
 | N+1=>by
  rcases qaN P N with h | ⟨j,h1,h2⟩
  ·by_cases hN:P N
   ·exact Or.inl fun k hk=>by
     rcases Nat.lt_or_ge k N with h' | h'
     ·exact h k h'
     ·have:k=N:=by omega
      subst this;exact hN
   ·exact Or.inr ⟨N,by omega,hN,h⟩
  ·exact Or.inr ⟨j,by omega,h2⟩
theorem qak {α:Type} {l:List α} {k:Nat} (h:k<l.length):∃ p,l[k]?=some p:=⟨l[k],List.getElem?_eq_getElem h⟩
theorem qai {α:Type} {l:List α} {k:Nat} {p:α} (h:l[k]?=some p):k<l.length:=(List.getElem?_eq_some_iff.1 h).1
theorem qaZ {k n:Nat} (h:k<n):0≤(k:Int)∧(k:Int)<(n:Int):=⟨by omega,by omega⟩
theorem Up.mono {l:List Pt} (h:Up l):∀ {i j:Nat} {p q:Pt},i<j→l[i]?=some p→l[j]?=some q→p.id<q.id:=by
 intro i j
 induction j with
 | zero=>intro p q hij;omega
 | succ j ih=>
  intro p q hij hp hq
  by_cases e:i=j
  ·subst e;exact h i p q hp hq
  ·obtain⟨r,hr⟩:=qak (l:=l) (k:=j) (by have:=qai hq;omega)
   exact Int.lt_trans (ih (by omega) hp hr) (h j r q hr hq)
theorem qkF {k n:Nat} (h:k<n) (hn:n≤64):iV (IntKind.i64.wrap ((k:Int)+1))=iV ((k+1:Nat):Int):=qau (by omega)
theorem qgQ {l:List Pt} (hn:l.length≤64) (h:∀ p∈l,qfw p=true):Rl 1 1 75 0 44 2 [(1,.pp 1 0),(3,.pv (iV ((0:Nat):Int)))] [(1,0,.ls 0 l.length),(0,0,qan l)] (.exit 0) [(1,.pp 1 0)] [(1,0,.ls 0 l.length),(0,0,qan l)]:=
 RunsL.rounds (fun k=>[(1,.pp 1 0),(3,.pv (iV (k:Int)))]) (fun _=>[(1,0,.ls 0 l.length),(0,0,qan l)]) l.length 0 (Nat.zero_add _)
  (fun k _ hk r=>by
   obtain⟨p,hp⟩:=qak hk
   exact qg4 hp (qaZ hk) (dt (by omega)) (qdi (h p (List.mem_of_getElem? hp))) (qkF hk hn) r)
  (qoQ (df (by omega)))
theorem qfi {l:List Pt} (hn:l.length≤64) {j:Nat} {p:Pt} (hp:l[j]?=some p) (hb:¬ qfw p=true) (h:∀ i,i<j→∀ q,l[i]?=some q→qfw q=true):Rl 1 1 75 0 44 2 [(1,.pp 1 0),(3,.pv (iV ((0:Nat):Int)))] [(1,0,.ls 0 l.length),(0,0,qan l)] .ret [(2,.pv (iV 8))] []:=by
 have hj:=qai hp
 refine RunsL.rounds (fun k=>[(1,.pp 1 0),(3,.pv (iV (k:Int)))]) (fun _=>[(1,0,.ls 0 l.length),(0,0,qan l)]) j 0 (Nat.zero_add _) (fun k _ hk r=>?_) (qnC hp (qaZ hj) (dt (by omega)) (qeR hb))
 obtain⟨q,hq⟩:=qak (l:=l) (k:=k) (by omega)
 exact qg4 hq (qaZ (qai hq)) (dt (by omega)) (qdi (h k hk q hq)) (qkF (qai hq) hn) r
theorem qb2 (k:Nat) (h:k≤1000000):iV (IntKind.i64.wrap (((k+1:Nat):Int)-1))=iV (k:Int):=by rw[show ((k+1:Nat):Int)-1=(k:Int) by omega,qag (by omega) (by omega)]
theorem qms {l:List Pt} (hn:l.length≤64) (h:Up l):Rl 1 1 75 1 44 2 [(1,.pp 1 0),(4,.pv (iV ((0+1:Nat):Int)))] [(1,0,.ls 0 l.length),(0,0,qan l)] (.exit 2) [] []:=by
 by_cases h0:l.length=0
 ·exact qkp (k:=0+1) (df (by omega))
 refine RunsL.rounds (fun k=>[(1,.pp 1 0),(4,.pv (iV (k:Int)))]) (fun _=>[(1,0,.ls 0 l.length),(0,0,qan l)]) (N:=l.length) (l.length-1) (0+1) (by omega) (fun k h1 hk r=>?_) (qkp (df (by omega)))
 obtain⟨m,rfl⟩:∃ m,k=m+1:=⟨k-1,by omega⟩
 obtain⟨q,hq⟩:=qak (l:=l) (k:=m) (by omega)
 obtain⟨p,hp⟩:=qak hk
 exact qgJ hq hp (qaZ (by omega)) (qaZ hk) (dt (by omega)) (qb2 m (by omega)) (df (by have:=h m q p hq hp;omega)) (qkF hk hn) r
theorem qfr {l:List Pt} (hn:l.length≤64) {j:Nat} {p q:Pt} (hq:l[j]?=some q) (hp:l[j+1]?=some p) (hb:¬ q.id<p.id) (h:∀ i,i<j→∀ p q,l[i]?=some p→l[i+1]?=some q→p.id<q.id):Rl 1 1 75 1 44 2 [(1,.pp 1 0),(4,.pv (iV ((0+1:Nat):Int)))] [(1,0,.ls 0 l.length),(0,0,qan l)] .ret [(2,.pv (iV 32))] []:=by
 have hj:=qai hp
 refine RunsL.rounds (fun k=>[(1,.pp 1 0),(4,.pv (iV (k:Int)))]) (fun _=>[(1,0,.ls 0 l.length),(0,0,qan l)]) (N:=j+1) j (0+1) (by omega) (fun k h1 hk r=>?_) (qnO hq hp (qaZ (by omega)) (qaZ hj) (dt (by omega)) (qb2 j (by omega)) (dt (by omega)))
 obtain⟨m,rfl⟩:∃ m,k=m+1:=⟨k-1,by omega⟩
 obtain⟨q',hq'⟩:=qak (l:=l) (k:=m) (by omega)
 obtain⟨p',hp'⟩:=qak (l:=l) (k:=m+1) (by omega)
 exact qgJ hq' hp' (qaZ (by omega)) (qaZ (by omega)) (dt (by omega)) (qb2 m (by omega)) (df (by have:=h m (by omega) q' p' hq' hp';omega)) (qkF (n:=l.length) (by omega) hn) r
theorem qdm (l:List Pt):(64<l.length∧qic l=4)∨(l.length≤64∧(∃ (j:Nat) (p:Pt),l[j]?=some p∧¬ qfw p=true∧∀ i,i<j→∀ q,l[i]?=some q→qfw q=true)∧qic l=8)∨
 (l.length≤64∧(∀ p∈l,qfw p=true)∧(∃ (j:Nat) (p q:Pt),l[j]?=some q∧l[j+1]?=some p∧¬ q.id<p.id∧∀ i,i<j→∀ p q,l[i]?=some p→l[i+1]?=some q→p.id<q.id)∧qic l=32)∨
 (l.length≤64∧(∀ p∈l,qfw p=true)∧Up l∧qic l=0):=by
 by_cases h0:64<l.length
 ·exact Or.inl ⟨h0,by unfold qic;rw[if_pos h0]⟩
 refine Or.inr ?_
 by_cases h1:∀ p∈l,qfw p=true
 ·refine Or.inr ?_
  by_cases h2:Up l
  ·exact Or.inr ⟨by omega,h1,h2,by unfold qic;rw[if_neg h0,if_pos h1,if_pos h2]⟩
  ·refine Or.inl ⟨by omega,h1,?_,by unfold qic;rw[if_neg h0,if_pos h1,if_neg h2]⟩
   rcases qaN (fun k=>∀ p q,l[k]?=some p→l[k+1]?=some q→p.id<q.id) l.length with h | ⟨j,hj,hn,hb⟩
   ·exact (h2 fun k p q hp hq=>h k (qai hp) p q hp hq).elim
   ·simp only[Classical.not_forall,not_imp] at hn
    obtain⟨p,q,hp,hq,hpq⟩:=hn
    exact⟨j,q,p,hp,hq,hpq,hb⟩
 ·refine Or.inl ⟨by omega,?_,by unfold qic;rw[if_neg h0,if_neg h1]⟩
  rcases qaN (fun k=>∀ q,l[k]?=some q→qfw q=true) l.length with h | ⟨j,hj,hn,hb⟩
  ·exact (h1 fun p hp=>by obtain⟨k,hk,rfl⟩:=List.getElem_of_mem hp;exact h k hk _ (List.getElem?_eq_getElem hk)).elim
  ·simp only[Classical.not_forall,not_imp] at hn
   obtain⟨p,hp,hpq⟩:=hn
   exact⟨j,p,hp,hpq,hb⟩
theorem qhe (l:List Pt):Fn 75 1 [qax 0 l] [(0,0,qan l)] (.pv (iV (qic l))) 0 []:=by
 rcases qdm l with ⟨h,e⟩ | ⟨h,⟨j,p,hp,hb,hf⟩,e⟩ | ⟨h,h1,⟨j,p,q,hq,hp,hb,hf⟩,e⟩ | ⟨h,h1,h2,e⟩<;>rw[e]
 ·exact qpt (dt (by omega))
 ·exact qqp (df (by omega)) (qfi h hp hb hf)
 ·exact qqY (df (by omega)) (qgQ h h1) (qfr h hq hp hb hf)
 ·exact qsv (df (by omega)) (qgQ h h1) (qms h h2)
abbrev pcT (l:List Pt) (k:Nat):List (Nat×SV):=[(1,.pp 1 0),(12,.ls 0 l.length),(13,.pv (iV (l.length:Int))),(14,.pv (iV (k:Int)))]
theorem qgs {l:List Pt} (hn:l.length≤64) (h:∀ p∈l,qfw p=true):Rl 1 1 47 0 45 2 (pcT l 0) [(1,0,.ls 0 l.length),(0,0,qan l)] (.exit 0) [(1,.pp 1 0)] [(1,0,.ls 0 l.length),(0,0,qan l)]:=
 RunsL.rounds (pcT l) (fun _=>[(1,0,.ls 0 l.length),(0,0,qan l)]) l.length 0 (Nat.zero_add _)
  (fun k _ hk r=>by
   obtain⟨p,hp⟩:=qak hk
   exact qgO hp (qaZ hk) (dt (by omega)) (qbX (h p (List.mem_of_getElem? hp))) (qkF hk hn) r)
  (qoc (df (by omega)))
theorem qeT {l:List Pt} (hn:l.length≤64) {j:Nat} {p:Pt} (hp:l[j]?=some p) (hb:¬ qfw p=true) (h:∀ i,i<j→∀ q,l[i]?=some q→qfw q=true):Rl 1 1 47 0 45 2 (pcT l 0) [(1,0,.ls 0 l.length),(0,0,qan l)] .ret [(2,.pv (iV 8))] []:=by
 have hj:=qai hp
 refine RunsL.rounds (pcT l) (fun _=>[(1,0,.ls 0 l.length),(0,0,qan l)]) j 0 (Nat.zero_add _) (fun k _ hk r=>?_) (qnK hp (qaZ hj) (dt (by omega)) (qfG hb))
 obtain⟨q,hq⟩:=qak (l:=l) (k:=k) (by omega)
 exact qgO hq (qaZ (qai hq)) (dt (by omega)) (qbX (h k hk q hq)) (qkF (qai hq) hn) r
theorem qlC {l:List Pt} (hn:l.length≤64) (h:Up l):Rl 1 1 47 1 45 2 [(1,.pp 1 0),(6,.pv (iV ((0+1:Nat):Int)))] [(1,0,.ls 0 l.length),(0,0,qan l)] (.exit 2) [] []:=by
 by_cases h0:l.length=0
 ·exact qiq (k:=0+1) (df (by omega))
 refine RunsL.rounds (fun k=>[(1,.pp 1 0),(6,.pv (iV (k:Int)))]) (fun _=>[(1,0,.ls 0 l.length),(0,0,qan l)]) (N:=l.length) (l.length-1) (0+1) (by omega) (fun k h1 hk r=>?_) (qiq (df (by omega)))
 obtain⟨m,rfl⟩:∃ m,k=m+1:=⟨k-1,by omega⟩
 obtain⟨q,hq⟩:=qak (l:=l) (k:=m) (by omega)
 obtain⟨p,hp⟩:=qak hk
 exact qgA hq hp (qaZ (by omega)) (qaZ hk) (dt (by omega)) (qb2 m (by omega)) (df (by have:=h m q p hq hp;omega)) (qkF hk hn) r
theorem qeZ {l:List Pt} (hn:l.length≤64) {j:Nat} {p q:Pt} (hq:l[j]?=some q) (hp:l[j+1]?=some p) (hb:¬ q.id<p.id) (h:∀ i,i<j→∀ p q,l[i]?=some p→l[i+1]?=some q→p.id<q.id):Rl 1 1 47 1 45 2 [(1,.pp 1 0),(6,.pv (iV ((0+1:Nat):Int)))] [(1,0,.ls 0 l.length),(0,0,qan l)] .ret [(2,.pv (iV 32))] []:=by
 have hj:=qai hp
 refine RunsL.rounds (fun k=>[(1,.pp 1 0),(6,.pv (iV (k:Int)))]) (fun _=>[(1,0,.ls 0 l.length),(0,0,qan l)]) (N:=j+1) j (0+1) (by omega) (fun k h1 hk r=>?_) (qof hq hp (qaZ (by omega)) (qaZ hj) (dt (by omega)) (qb2 j (by omega)) (dt (by omega)))
 obtain⟨m,rfl⟩:∃ m,k=m+1:=⟨k-1,by omega⟩
 obtain⟨q',hq'⟩:=qak (l:=l) (k:=m) (by omega)
 obtain⟨p',hp'⟩:=qak (l:=l) (k:=m+1) (by omega)
 exact qgA hq' hp' (qaZ (by omega)) (qaZ (by omega)) (dt (by omega)) (qb2 m (by omega)) (df (by have:=h m (by omega) q' p' hq' hp';omega)) (qkF (n:=l.length) (by omega) hn) r
theorem qcC (l:List Pt):Fn 47 1 [qax 0 l] [(0,0,qan l)] (.pv (iV (qic l))) 0 []:=by
 rcases qdm l with ⟨h,e⟩ | ⟨h,⟨j,p,hp,hb,hf⟩,e⟩ | ⟨h,h1,⟨j,p,q,hq,hp,hb,hf⟩,e⟩ | ⟨h,h1,h2,e⟩<;>rw[e]
 ·exact qnW (dt (by omega))
 ·exact qqL (df (by omega)) (qeT h hp hb hf)
 ·exact qqZ (df (by omega)) (qgs h h1) (qeZ h hq hp hb hf)
 ·exact qso (df (by omega)) (qgs h h1) (qlC h h2)
structure Val (l:List Pt):Prop where
 len:l.length≤64
 ok:∀ p∈l,qfw p=true
 up:Up l
theorem qea {l:List Pt}:qic l=0↔Val l:=by
 rcases qdm l with ⟨h,e⟩ | ⟨h,⟨j,p,hp,hb,hf⟩,e⟩ | ⟨h,h1,⟨j,p,q,hq,hp,hb,hf⟩,e⟩ | ⟨h,h1,h2,e⟩<;>rw[e]
 ·exact⟨fun h=>by omega,fun v=>by have:=v.len;omega⟩
 ·exact⟨fun h=>by omega,fun v=>(hb (v.ok p (List.mem_of_getElem? hp))).elim⟩
 ·exact⟨fun h=>by omega,fun v=>(hb (v.up j q p hq hp)).elim⟩
 ·exact⟨fun _=>⟨h,h1,h2⟩,fun _=>rfl⟩
theorem place (l:List Pt) (hv:Val l) (id:Int):(∃ (k:Nat) (p:Pt),l[k]?=some p∧p.id=id)∨((∀ p∈l,p.id≠id)∧∃ k,k≤l.length∧(∀ (t:Nat) (p:Pt),t<k→l[t]?=some p→p.id<id)∧∀ (t:Nat) (p:Pt),k≤t→l[t]?=some p→id<p.id):=by
 by_cases h:∃ (k:Nat) (p:Pt),l[k]?=some p∧p.id=id
 ·exact Or.inl h
 ·refine Or.inr ⟨fun p hp e=>?_,?_⟩
  ·obtain⟨k,hk,rfl⟩:=List.getElem_of_mem hp
   exact h ⟨k,_,List.getElem?_eq_getElem hk,e⟩
  ·rcases qaN (fun k=>∀ p,l[k]?=some p→p.id<id) l.length with hh | ⟨j,hj,hn,hb⟩
   ·exact⟨l.length,Nat.le_refl _,fun t p ht hp=>hh t ht p hp,fun t p ht hp=>by have:=qai hp;omega⟩
   ·refine⟨j,by omega,fun t p ht hp=>hb t ht p hp,fun t p ht hp=>?_⟩
    simp only[Classical.not_forall,not_imp] at hn
    obtain⟨q,hq,hlt⟩:=hn
    have hne:q.id≠id:=fun e=>h ⟨j,q,hq,e⟩
    rcases Nat.lt_or_ge j t with h' | h'
    ·have:=hv.up.mono h' hq hp;omega
    ·have:t=j:=by omega
     subst this
     rw[hq] at hp
     cases hp
     omega
abbrev atT (id:Int) (k:Nat):List (Nat×SV):=[(1,.pv (iV id)),(2,.pp 1 0),(5,.pv (iV (k:Int)))]
theorem qtw {l:List Pt} (hn:l.length≤64) {id:Int} (h:∀ p∈l,p.id≠id):Fn 43 1 [qax 0 l,.pv (iV id)] [(0,0,qan l)] (.pv (iV (-1))) 0 []:=
 qtu (RunsL.rounds (atT id) (fun _=>[(1,0,.ls 0 l.length),(0,0,qan l)]) l.length 0 (Nat.zero_add _)
  (fun k _ hk r=>by
   obtain⟨p,hp⟩:=qak hk
   exact qj3 hp (qaZ hk) (dt (by omega)) (by simpa using h p (List.mem_of_getElem? hp)) (qkF hk hn) r)
  (qq7 (df (by omega))))
theorem qi0 {l:List Pt} (hv:Val l) {id:Int} {k:Nat} {p:Pt} (hk:l[k]?=some p) (he:p.id=id):Fn 43 1 [qax 0 l,.pv (iV id)] [(0,0,qan l)] (.pv (iV (k:Int))) 0 []:=by
 refine qrF (RunsL.rounds (atT id) (fun _=>[(1,0,.ls 0 l.length),(0,0,qan l)]) k 0 (Nat.zero_add _) (fun j _ hj r=>?_) (qqU hk (qaZ (qai hk)) (dt (by have:=qai hk;omega)) (by simpa using he)))
 have hl:=qai hk
 obtain⟨q,hq⟩:=qak (l:=l) (k:=j) (by omega)
 exact qj3 hq (qaZ (qai hq)) (dt (by omega)) (by have:=hv.up.mono hj hq hk;simp;omega) (qkF (qai hq) hv.len) r
theorem qnH (a pa pb id:Int):∃ c,Pure Try.prog 119 #[qab a pa pb,iV id] (iV c)∧(c<0↔a<id)∧(c=0↔a=id):=by
 rcases Int.lt_trichotomy a id with h | h | h
 ·exact⟨-1,qk5 (by simp) (by simp) (dt h),⟨fun _=>h,fun _=>by omega⟩,⟨fun h=>by omega,fun h=>by omega⟩⟩
 ·exact⟨0,qlg (by simp) (by simp) (df (by omega)) (df (by omega)),⟨fun h=>by omega,fun h=>by omega⟩,⟨fun _=>h,fun _=>rfl⟩⟩
 ·exact⟨1,qmD (by simp) (by simp) (df (by omega)) (dt (by omega)),⟨fun h=>by omega,fun h=>by omega⟩,⟨fun h=>by omega,fun h=>by omega⟩⟩
abbrev bsT (l:List Pt) (id:Int) (i j:Nat):List (Nat×SV):=[(0,.ls 0 l.length),(1,.pv (iV id)),(2,.pv (.func (.func 119) #[] #[])),(8,.pv (iV (l.length:Int))),(9,.pv (iV (i:Int))),(10,.pv (iV (j:Int)))]
theorem qjv {l:List Pt} (hn:l.length≤64) {id:Int} {k:Nat} (hlo:∀ (t:Nat) (p:Pt),t<k→l[t]?=some p→p.id<id) (hhi:∀ (t:Nat) (p:Pt),k≤t→l[t]?=some p→¬ p.id<id):∀ (d i j:Nat),j-i≤d→i≤k→k≤j→j≤l.length→
 Rl 1 1 118 0 49 1 (bsT l id i j) [(0,0,qan l)] (.exit 0) (bsT l id k k) [(0,0,qan l)]:=by
 intro d
 induction d with
 | zero=>
  intro i j hd h1 h2 h3
  have:i=k:=by omega
  have:j=k:=by omega
  subst i j
  exact qmY (df (by omega))
 | succ d ih=>
  intro i j hd h1 h2 h3
  by_cases hij:i<j
  ·obtain⟨p,hp⟩:=qak (l:=l) (k:=(i+j)/2) (by omega)
   obtain⟨c,hc,hc1,hc2⟩:=qnH p.id p.a p.b id
   have a1:iV (IntKind.i64.wrap ((i:Int)+(j:Int)))=iV ((i:Int)+(j:Int)):=by rw[qag (by omega) (by omega)]
   have a2:Value.int .u64 (IntKind.u64.wrap ((i:Int)+(j:Int)))=.int .u64 ((i:Int)+(j:Int)):=by rw[qeb (by omega) (by omega)]
   have a3:Value.int .u64 (((i:Int)+(j:Int)).fdiv (2 ^ (min (1:Int).toNat IntKind.u64.bits)))=.int .u64 (((i+j)/2:Nat):Int):=by
    have:(2:Int) ^ (min (1:Int).toNat IntKind.u64.bits)=2:=rfl
    rw[this,Int.fdiv_eq_ediv_of_nonneg _ (by omega)]
    congr 1
   have a4:iV (IntKind.i64.wrap (((i+j)/2:Nat):Int))=iV (((i+j)/2:Nat):Int):=by rw[qag (by omega) (by omega)]
   by_cases hlt:p.id<id
   ·refine qsx hp (qaZ (qai hp)) (dt (by omega)) a1 a2 (by omega) a3 a4 hc (dt (hc1.2 hlt)) (qau (by omega)) (ih _ _ (by omega) ?_ h2 h3)
    rcases Nat.lt_or_ge ((i+j)/2) k with h | h
    ·exact h
    ·exact (hhi _ p h hp hlt).elim
   ·refine qtB hp (qaZ (qai hp)) (dt (by omega)) a1 a2 (by omega) a3 a4 hc (df (fun h=>hlt (hc1.1 h))) (ih _ _ (by omega) h1 ?_ (by omega))
    rcases Nat.lt_or_ge ((i+j)/2) k with h | h
    ·exact (hlt (hlo _ p h hp)).elim
    ·exact h
  ·have:i=k:=by omega
   have:j=k:=by omega
   subst i j
   exact qmY (df (by omega))
theorem qk1 {l:List Pt} (hv:Val l) {id:Int} {k:Nat} {p:Pt} (hk:l[k]?=some p) (he:p.id=id):Fn 109 1 [qax 0 l,.pv (iV id)] [(0,0,qan l)] (.pv (.tuple #[iV (k:Int),.bool true])) 0 []:=by
 subst he
 obtain⟨c,hc,hc1,hc2⟩:=qnH p.id p.a p.b p.id
 have hl:=qai hk
 refine qdj (qn6 (qjv hv.len (fun t q ht hq=>hv.up.mono ht hq hk) (fun t q ht hq=>?_) l.length 0 l.length (by omega) (Nat.zero_le _) (by omega) (Nat.le_refl _)) hk (qaZ hl) (dt (by omega)) hc (by simpa using hc2.2 rfl))
 rcases Nat.lt_or_ge k t with h | h
 ·have:=hv.up.mono h hk hq;omega
 ·have:t=k:=by omega
  subst this
  rw[hk] at hq;cases hq;omega
theorem qoC {l:List Pt} (hv:Val l) {id:Int} {k:Nat} (hkl:k≤l.length) (hlo:∀ (t:Nat) (p:Pt),t<k→l[t]?=some p→p.id<id) (hhi:∀ (t:Nat) (p:Pt),k≤t→l[t]?=some p→id<p.id):Fn 109 1 [qax 0 l,.pv (iV id)] [(0,0,qan l)] (.pv (.tuple #[iV (k:Int),.bool false])) 0 []:=by
 have hb:=qjv hv.len hlo (fun t p ht hp=>by have:=hhi t p ht hp;omega) l.length 0 l.length (by omega) (Nat.zero_le _) hkl (Nat.le_refl _)
 by_cases h:k<l.length
 ·obtain⟨p,hp⟩:=qak h
  obtain⟨c,hc,hc1,hc2⟩:=qnH p.id p.a p.b id
  refine qdj (qqV hb hp (qaZ h) (dt (by omega)) hc ?_)
  have:=hhi k p (Nat.le_refl _) hp
  simp only[beq_eq_false_iff_ne,ne_eq]
  exact fun e=>by have:=hc2.1 e;omega
 ·exact qdj (qoH hb (df (by omega)))
end Go.Proofs.Ytalnjplghagbpaa

namespace Go.Proofs.Ytalnjplghagbpaa
set_option maxRecDepth 100000
open Go.RowKit
theorem qiI (l:List Pt):(¬ (l.length≤16∨64≤l.length∧l.length≤70)∧Fn 25 1 [qax 0 l] [(0,0,qan l)] (.pv (.bool true)) 0 [])∨
 ((l.length≤16∨64≤l.length∧l.length≤70)∧Fn 25 1 [qax 0 l] [(0,0,qan l)] (.pv (.bool false)) 0 []):=by
 by_cases h1:l.length>16
 ·by_cases h2:l.length<64
  ·exact Or.inl ⟨by omega,qpv (dt (by omega)) (dt (by omega))⟩
  ·by_cases h3:l.length>70
   ·exact Or.inl ⟨by omega,ql4 (dt (by omega)) (df (by omega)) (dt (by omega))⟩
   ·exact Or.inr ⟨by omega,qkJ (dt (by omega)) (df (by omega)) (df (by omega))⟩
 ·exact Or.inr ⟨by omega,qoh (df (by omega)) (df (by omega))⟩
theorem qdy {α:Type} {l:List α} {k:Nat} {p:α} (h:l[k]?=some p):l.take (k+1)=l.take k++[p]:=by rw[List.take_add_one,h];rfl
end Go.Proofs.Ytalnjplghagbpaa

namespace Go.Proofs.Ytalnjplghagbpaa
set_option maxRecDepth 100000
open Go.RowKit
def ld (tn td:Int) (p q:Pt):Bool:=qcv (p.a*td+p.b*tn) (q.a*td+q.b*tn) p.b q.b p.id q.id
theorem qhB {P Q pb qb pi qi:Int}:qcv P Q pb qb pi qi=true↔(P>Q∨P=Q∧(pb>qb∨pb=qb∧pi<qi)):=by unfold qcv;exact decide_eq_true_iff
theorem qf0 {P Q pb qb pi qi:Int}:qcv P Q pb qb pi qi=false↔¬ (P>Q∨P=Q∧(pb>qb∨pb=qb∧pi<qi)):=by unfold qcv;exact decide_eq_false_iff_not
section
variable {tn td:Int} {p q r:Pt}
theorem qm0 (p:Pt):ld tn td p p=false:=qf0.2 (by omega)
theorem qee (h:ld tn td p q=true) (k:ld tn td q r=true):ld tn td p r=true:=by
 unfold ld at *
 generalize p.a*td+p.b*tn=P at *
 generalize q.a*td+q.b*tn=Q at *
 generalize r.a*td+r.b*tn=R at *
 rw[qhB] at *
 omega
theorem qeE (h:ld tn td p q=true):ld tn td q p=false:=by
 cases hh:ld tn td q p
 ·rfl
 ·have:=qee h hh;rw[qm0] at this;cases this
end
def rk (tn td:Int) (l:List Pt) (p:Pt):Nat:=l.countP fun q=>ld tn td q p
theorem qnc {tn td:Int}:∀ (s:List Pt) (k:Nat) (p:Pt),s.Pairwise (fun p q=>ld tn td p q=true)→s[k]?=some p→rk tn td s p=k
 | [],_,_,_,h=>by simp at h
 | a::r,0,p,hp,h=>by
  simp only[List.getElem?_cons_zero,Option.some.injEq] at h
  subst h
  rw[List.pairwise_cons] at hp
  unfold rk
  rw[List.countP_eq_zero]
  intro q hq
  rcases List.mem_cons.1 hq with rfl | hq
  ·rw[qm0];decide
  ·rw[qeE (hp.1 q hq)];decide
 | a::r,k+1,p,hp,h=>by
  rw[List.getElem?_cons_succ] at h
  rw[List.pairwise_cons] at hp
  have:=qnc r k p hp.2 h
  unfold rk at this ⊢
  rw[List.countP_cons,this,if_pos (hp.1 p (List.mem_of_getElem? h))]
structure Srt (l:List Pt) (tn td:Int) (s:List Pt):Prop where
 perm:s.Perm l
 pw:s.Pairwise (fun p q=>ld tn td p q=true)
theorem Srt.len {l s:List Pt} {tn td:Int} (h:Srt l tn td s):s.length=l.length:=h.perm.length_eq
theorem Srt.rank {l s:List Pt} {tn td:Int} (h:Srt l tn td s) {k:Nat} {p:Pt} (hk:s[k]?=some p):rk tn td l p=k:=by
 have:=qnc s k p h.pw hk
 unfold rk at this ⊢
 rw[← h.perm.countP_eq];exact this
theorem Srt.at {l s:List Pt} {tn td:Int} (h:Srt l tn td s) {p:Pt} (hp:p∈l):s[rk tn td l p]?=some p:=by
 obtain⟨k,hk,e⟩:=List.getElem_of_mem (h.perm.mem_iff.2 hp)
 have hk':s[k]?=some p:=by rw[List.getElem?_eq_getElem hk,e]
 rw[h.rank hk'];exact hk'
theorem Srt.lt {l s:List Pt} {tn td:Int} (h:Srt l tn td s) {p:Pt} (hp:p∈l):rk tn td l p<l.length:=by rw[← h.len];exact qai (h.at hp)
theorem Srt.uniq {l s t:List Pt} {tn td:Int} (h:Srt l tn td s) (k:Srt l tn td t):s=t:=by
 apply List.ext_getElem?
 intro i
 by_cases hi:i<t.length
 ·obtain⟨p,hp⟩:=qak hi
  rw[hp]
  have:=h.at (k.perm.mem_iff.1 (List.mem_of_getElem? hp))
  rw[k.rank hp] at this
  exact this
 ·have e1:t[i]?=none:=List.getElem?_eq_none (by omega)
  have e2:s[i]?=none:=List.getElem?_eq_none (by have:=h.len;have:=k.len;omega)
  rw[e1,e2]
end Go.Proofs.Ytalnjplghagbpaa

namespace Go.Proofs.Ytalnjplghagbpaa
set_option maxRecDepth 100000
open Go.RowKit
structure Tm (tn td:Int):Prop where
 hn:I64 tn
 hd:I64 td
 ok:okB tn td=true
section
variable {l:List Pt} {tn td:Int}
end
end Go.Proofs.Ytalnjplghagbpaa
