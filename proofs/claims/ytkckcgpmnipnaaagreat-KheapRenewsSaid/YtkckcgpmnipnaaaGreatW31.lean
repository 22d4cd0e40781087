/-
  Joined: Kn, Yp, Ys, Yv, Yz, Vf, Vg, Vh, Vi, Kr. Conditions: none.
-/
import Derived.Test.YtkckcgpmnipnaaaGreatZj
import Derived.Test.YtkckcgpmnipnaaaGreatW20
import Derived.Test.YtkckcgpmnipnaaaGreatW21
import Derived.Test.YtkckcgpmnipnaaaGreatW16
import Derived.Test.YtkckcgpmnipnaaaGreatYo
import Derived.Test.YtkckcgpmnipnaaaGreatW23
namespace Go.Proofs.YtkckcgpmnipnaaaGreat
set_option maxRecDepth 100000
open Go.ChangeShapes Go.WideShapes Go.ChangeAt Go.RowKit Go.Joins Go.Deep
theorem qxN:Tryz.prog.cellsOf 171=3:=by kernel_rfl
theorem qw3:Tryz.prog.cellsOf 90=2:=by kernel_rfl
theorem qyE:Tryz.prog.cellsOf 27=1:=by kernel_rfl
theorem qk3:Tryz.prog.cellsOf 29=2:=by kernel_rfl
section
variable {H:Type} {enc:TypeId×Value→H} {W:World} {base:Nat} {spare:Nat→Bool} {held:Bool}
theorem qpV {fuel:Nat} {cs:List Value} {x:DataW H×List MemPlace} (h:DataW.trod enc Tryz.prog W base spare held fuel 27 cs=some x) :
 ∃ (u:Value) (l:List Pt),cs=[u]∧Rd W 3 u l.length (qbs l):=by
 rcases open_slice Tryz.underlying27 h with ⟨rfl,_⟩ | ⟨a,len,cap,m,n,D,Pl,rfl,_,hlc,_,hm,_,hi⟩
 ·exact⟨_,[],rfl,⟨rfl,none,0,rfl,Nat.le_refl _,fun j v hv=>by simp[qbs] at hv⟩⟩
 have hlm:len≤m:=by rw[hm];split<;>omega
 have each:∀ i,i<len→∃ p:Pt,W.cell? (a.add (i*3))=some (iV p.id)∧W.cell? (a.add (i*3+1))=some (iV p.a)∧W.cell? (a.add (i*3+2))=some (iV p.b):=by
  intro i hil;obtain⟨cs',hc,ht⟩:=hi i (by omega);rw[qxN] at hc;obtain⟨y0,y1,n',_,hlen,t0,t1⟩:=trod_struct2 Tryz.underlying171 ht;obtain⟨z0,z1,n2,_,hlen2,s0,s1⟩:=trod_struct2 Tryz.underlying90 t1;obtain⟨_,hcl,hat⟩:=World.cells?_some hc
  match cs',hcl with
  | [c0,c1,c2],_=>
   obtain⟨pi,e0,_,w0⟩:=DataW.trod_int Tryz.underlying3 t0;obtain⟨pa,e1,_,w1⟩:=DataW.trod_int Tryz.underlying3 s0;obtain⟨pb,e2,_,w2⟩:=DataW.trod_int Tryz.underlying3 s1;simp[qBC,qw3] at e0 e1 e2;refine⟨⟨pi,pa,pb⟩,?_,?_,?_⟩
   ·have:=hat 0 (by omega);rw[add_add] at this;simpa [e0] using this
   ·have:=hat 1 (by omega);rw[add_add] at this;simpa [e1] using this
   ·have:=hat 2 (by omega);rw[add_add] at this;simpa [e2] using this
 haveI:Inhabited Pt:=⟨⟨0,0,0⟩⟩
 obtain⟨f,hf⟩:=choose_lt (α:=Pt) each;refine⟨_,(List.range len).map f,rfl,⟨qbf _,some a,cap,by simp,by simpa using hlc,fun j v hv=>?_⟩⟩;obtain⟨hk,he⟩:=qpC f len j v hv;obtain⟨c0,c1,c2⟩:=hf _ hk
 have hcell:W.cell? (a.add j)=some v:=by
  have h3:j%3=0∨j%3=1∨j%3=2:=by omega
  have e:j=j/3*3+j%3:=by omega
  rcases h3 with e3 | e3 | e3<;>rw[e3] at he e<;>rw[e]<;>simp at he<;>subst he
  ·exact c0
  ·exact c1
  ·exact c2
 obtain⟨b,off,spot⟩:=a
 have hs:spot=none:=by simpa [Addr.add] using World.cell?_spot (hf 0 (by omega)).1
 subst hs;exact⟨b,off,rfl,by rw[← Go.WideShapes.add_plain];exact hcell⟩
end
end Go.Proofs.YtkckcgpmnipnaaaGreat

namespace Go.Proofs.YtkckcgpmnipnaaaGreat
set_option maxRecDepth 100000
open Go.RowKit
structure P2 where
 a:Int
 b:Int
deriving DecidableEq
def p2V:List P2→List Value
 | []=>[]
 | m::r=>iV m.a::iV m.b::p2V r
theorem qgs:∀ (a b:List P2),p2V (a++b)=p2V a++p2V b
 | [],_=>rfl
 | p::r,b=>by simp[p2V,qgs r b]
theorem qfD:∀ {l:List P2} {k:Nat} {m:P2},l[k]?=some m→(p2V l)[k*2]?=some (iV m.a)∧(p2V l)[k*2+1]?=some (iV m.b)
 | [],k,p,h=>by simp at h
 | q::r,0,p,h=>by simp at h;subst h;exact⟨rfl,rfl⟩
 | q::r,k+1,p,h=>by
  have:=qfD (l:=r) (k:=k) (m:=p) (by simpa using h);rw[show (k+1)*2=k*2+1+1 by omega];exact this
end Go.Proofs.YtkckcgpmnipnaaaGreat

namespace Go.Proofs.YtkckcgpmnipnaaaGreat
set_option maxRecDepth 100000
open Go.RowKit
end Go.Proofs.YtkckcgpmnipnaaaGreat

namespace Go.Proofs.YtkckcgpmnipnaaaGreat
set_option maxRecDepth 100000
open Go.ChangeShapes Go.WideShapes Go.ChangeAt Go.RowKit Go.Joins Go.Deep
theorem qFo:Tryz.prog.cellsOf 61=5:=by kernel_rfl
theorem qB3:Tryz.prog.cellsOf 26=2:=by kernel_rfl
theorem qBh:Tryz.prog.cellsOf 59=2:=by kernel_rfl
theorem qui:Tryz.prog.cellsOf 2=1:=by kernel_rfl
theorem qGm:Tryz.prog.cellsOf 34=1:=by kernel_rfl
theorem qFr:Tryz.prog.cellsOf 36=5:=by kernel_rfl
theorem qEK {n:Int} (h:(Lit.int .i64 n).wf=true):I64 n:=by
 simp only[Lit.wf,Bool.and_eq_true,decide_eq_true_eq] at h
 have h1:IntKind.i64.min = -9223372036854775808:=by decide
 have h2:IntKind.i64.max=9223372036854775807:=by decide
 rw[h1,h2] at h;exact h
section
variable {H:Type} {enc:TypeId×Value→H} {W:World} {base:Nat} {spare:Nat→Bool} {held:Bool}
theorem qA4 (f:Nat→Ev):∀ (n j:Nat) (v:Value),(qau ((List.range n).map f))[j]?=some v→j/5<n∧(ecV (f (j/5)))[j%5]?=some v:=by
 intro n j v h
 have hj:j<n*5:=by
  have:=(List.getElem?_eq_some_iff.1 h).1;rw[qa7] at this;simpa using this
 have hk:j/5<n:=by omega
 obtain⟨g0,g1,g2,g3,g4⟩:=qc9 (l:=(List.range n).map f) (k:=j/5) (m:=f (j/5)) (by simp[hk]);refine⟨hk,?_⟩
 have h5:j%5=0∨j%5=1∨j%5=2∨j%5=3∨j%5=4:=by omega
 have e:j=j/5*5+j%5:=by omega
 rw[e] at h
 rcases h5 with e3 | e3 | e3 | e3 | e3<;>rw[e3] at h ⊢
 ·rw[Nat.add_zero,g0] at h;exact h
 ·rw[g1] at h;exact h
 ·rw[g2] at h;exact h
 ·rw[g3] at h;exact h
 ·rw[g4] at h;exact h
theorem qsg {fuel:Nat} {cs:List Value} {x:DataW H×List MemPlace} (h:DataW.trod enc Tryz.prog W base spare held fuel 34 cs=some x) :
 ∃ (u:Value) (l:List Ev),cs=[u]∧Rd W 5 u l.length (qau l)∧∀ p∈l,EvI p:=by
 rcases open_slice Tryz.underlying34 h with ⟨rfl,_⟩ | ⟨a,len,cap,m,n,D,Pl,rfl,_,hlc,_,hm,_,hi⟩
 ·exact⟨_,[],rfl,⟨rfl,none,0,rfl,Nat.le_refl _,fun j v hv=>by simp[qau] at hv⟩,fun p hp=>by simp at hp⟩
 have hlm:len≤m:=by rw[hm];split<;>omega
 have each:∀ i,i<len→∃ p:Ev,(W.cell? (a.add (i*5))=some (iV p.n)∧W.cell? (a.add (i*5+1))=some (iV p.d)∧W.cell? (a.add (i*5+2))=some (iV p.k)∧W.cell? (a.add (i*5+3))=some (iV p.i)∧W.cell? (a.add (i*5+4))=some (iV p.w))∧EvI p:=by
  intro i hil;obtain⟨cs',hc,ht⟩:=hi i (by omega);rw[qFo] at hc;obtain⟨y0,y1,y2,n',_,hlen,t0,t1,t2⟩:=trod_struct3 Tryz.underlying61 ht;obtain⟨z0,z1,n2,_,hlen2,s0,s1⟩:=trod_struct2 Tryz.underlying26 t0;obtain⟨z2,z3,n3,_,hlen3,s2,s3⟩:=trod_struct2 Tryz.underlying59 t2;obtain⟨_,hcl,hat⟩:=World.cells?_some hc
  match cs',hcl with
  | [c0,c1,c2,c3,c4],_=>
   obtain⟨pn,e0,_,w0⟩:=DataW.trod_int Tryz.underlying2 s0;obtain⟨pd,e1,_,w1⟩:=DataW.trod_int Tryz.underlying2 s1;obtain⟨pk,e2,_,w2⟩:=DataW.trod_int Tryz.underlying3 t1;obtain⟨pi,e3,_,w3⟩:=DataW.trod_int Tryz.underlying3 s2;obtain⟨pw,e4,_,w4⟩:=DataW.trod_int Tryz.underlying3 s3;simp[qBC,qui,qB3,qBh] at e0 e1 e2 e3 e4;refine⟨⟨pn,pd,pk,pi,pw⟩,⟨?_,?_,?_,?_,?_⟩,qEK w0,qEK w1⟩
   ·have:=hat 0 (by omega);rw[add_add] at this;simpa [e0] using this
   ·have:=hat 1 (by omega);rw[add_add] at this;simpa [e1] using this
   ·have:=hat 2 (by omega);rw[add_add] at this;simpa [e2] using this
   ·have:=hat 3 (by omega);rw[add_add] at this;simpa [e3] using this
   ·have:=hat 4 (by omega);rw[add_add] at this;simpa [e4] using this
 haveI:Inhabited Ev:=⟨⟨0,0,0,0,0⟩⟩
 obtain⟨f,hf⟩:=choose_lt (α:=Ev) each;refine⟨_,(List.range len).map f,rfl,⟨qa7 _,some a,cap,by simp,by simpa using hlc,fun j v hv=>?_⟩,fun p hp=>?_⟩
 ·obtain⟨hk,he⟩:=qA4 f len j v hv;obtain⟨c0,c1,c2,c3,c4⟩:=(hf _ hk).1
  have hcell:W.cell? (a.add j)=some v:=by
   have h5:j%5=0∨j%5=1∨j%5=2∨j%5=3∨j%5=4:=by omega
   have e:j=j/5*5+j%5:=by omega
   rcases h5 with e3 | e3 | e3 | e3 | e3<;>rw[e3] at he e<;>rw[e]<;>simp at he<;>subst he
   ·exact c0
   ·exact c1
   ·exact c2
   ·exact c3
   ·exact c4
  obtain⟨b,off,spot⟩:=a
  have hs:spot=none:=by simpa [Addr.add] using World.cell?_spot (hf 0 (by omega)).1.1
  subst hs;exact⟨b,off,rfl,by rw[← Go.WideShapes.add_plain];exact hcell⟩
 ·obtain⟨i,hi',rfl⟩:=List.mem_map.1 hp;exact (hf i (List.mem_range.1 hi')).2
end
end Go.Proofs.YtkckcgpmnipnaaaGreat

namespace Go.Proofs.YtkckcgpmnipnaaaGreat
set_option maxRecDepth 100000
open Go.RowKit
section
variable {u fr wh:List Int} {b:List Bool} {ev:List Ev}
section
variable {u2 f2 wh3:List Int} {b2:List Bool} {ev3:List Ev} {gi gw:Int}
end
end
end Go.Proofs.YtkckcgpmnipnaaaGreat

namespace Go.Proofs.YtkckcgpmnipnaaaGreat
set_option maxRecDepth 100000
open Go.RowKit
variable {u fr wh:List Int} {b:List Bool} {ev:List Ev} {hi hw:Int} {k:Nat}
theorem qG9 (a c d e g:Nat):SV.ag [.ls 7 a,.ls 8 c,.ls 9 d,.ls 11 (0+e),.ls 13 (0+g)]=SV.ag [.ls 7 a,.ls 8 c,.ls 9 d,.ls 11 e,.ls 13 g]:=by rw[Nat.zero_add,Nat.zero_add]
theorem qkd (e:TypeId) (s n:Nat) (xs:List Value):some (SV.row e s (0+n) ([]++xs))=some (SV.row e s n xs):=by rw[Nat.zero_add,List.nil_append]
abbrev qDM (b:List Bool) (ev:List Ev) (fr:List Int) (u:List Int) (wh:List Int):HpL:=[(0,0,zrI u),(1,0,zrB b),(2,0,zrI fr),(3,0,qap ev),(4,0,zrI wh)]
theorem qJe (h6:Fn 136 3 [.ag [.ls 0 u.length,.ls 1 b.length,.ls 2 fr.length]] (yi u b fr) (.ag [.ls 3 u.length,.ls 4 b.length,.ls 5 fr.length]) 3 [(3,0,zrI u),(4,0,zrB b),(5,0,zrI fr)]) (ne:0+ev.length≤1000000) (nw:0+wh.length≤1000000) :
 Fn 72 5 [agA u b fr ev wh] (qDM b ev fr u wh) (.ag [.ls 5 u.length,.ls 6 b.length,.ls 7 fr.length,.ls 8 ev.length,.ls 9 wh.length]) 5 (yd u b fr ev wh):=
 Fx [(5,7),(6,8),(7,9),(8,11),(9,13)] [.md,Cf h6 [0,1,2]]
  (qG9 u.length b.length fr.length ev.length wh.length) (A5 (Er (zrI u)) (Er (zrB b)) (Er (zrI fr)) (qkd 61 5 ev.length (qau ev)) (qkd 3 1 wh.length (ziV wh)) tI) (Co h6 [0,1,2] 7 (A2 ne nw tI))
theorem qrh (hc:Fn 123 5 [agA u b fr ev wh] (qDM b ev fr u wh) (.pv (iV (0))) 0 []) (hl:Fn 189 3 [.ag [.ls 0 u.length,.ls 1 b.length,.ls 2 fr.length],.pv (qaK hi hw)] (yi u b fr) (.pv (.bool false)) 0 []) :
 Fn 125 5 [agA u b fr ev wh,.pv (qaK hi hw)] (qDM b ev fr u wh) (.pv (.tuple #[.agg #[iV 0,iV 0,iV 0,iV 0,iV 0],iV 6])) 0 []:=
 Fz [] [Cf hc [0,1,2,3,4],.k,Cf hl [0,1,2],.k]
  tI (Co hc [0,1,2,3,4] 8 (Co hl [0,1,2] 8 tI))
theorem qDe {x:Ev} {j:Nat} (hc:Fn 123 5 [agA u b fr ev wh] (qDM b ev fr u wh) (.pv (iV (0))) 0 []) (hl:Fn 189 3 [.ag [.ls 0 u.length,.ls 1 b.length,.ls 2 fr.length],.pv (qaK hi hw)] (yi u b fr) (.pv (.bool true)) 0 []) (hiw:0≤hi∧hi<(wh.length:Int)) (hw_:wh[hi.toNat]?=some (j:Int)) (hij:Bd j ev.length) (hx:ev[j]?=some x) :
 Fn 125 5 [agA u b fr ev wh,.pv (qaK hi hw)] (qDM b ev fr u wh) (.pv (.tuple #[qaa x,iV 0])) 0 []:=
 Fz [] [Cf hc [0,1,2,3,4],.k,Cf hl [0,1,2],.k,.md,.r (iV (j:Int)),.r (qaa x)]
  tI (Co hc [0,1,2,3,4] 8 (Co hl [0,1,2] 8 (A4 hiw (qc3 hw_) hij (qaF hx) tI)))
abbrev qEn (b:List Bool) (ev:List Ev) (fr:List Int) (u:List Int) (wh:List Int):HpL:=[(10,0,.ls 0 u.length),(10,1,.ls 1 b.length),(10,2,.ls 2 fr.length),(10,3,.ls 3 ev.length),(10,4,.ls 4 wh.length),(11,0,.ls 5 u.length),(11,1,.ls 6 b.length),(11,2,.ls 7 fr.length),(11,3,.ls 8 ev.length),(11,4,.ls 9 wh.length),(3,0,qap ev),(8,0,qap ev)]
theorem qqy {m:Ev} (hk:ev[k]?=some m) (hin:0≤(k:Int)∧(k:Int)<(ev.length:Int)) (hlt:decide ((k:Int)<(ev.length:Int))=true) (hq:(!((m.n==m.n&&(m.d==m.d&&true))&&(m.k==m.k&&((m.i==m.i&&(m.w==m.w&&true))&&true))))=false) (hs:iV (IntKind.i64.wrap ((k:Int)+1))=iV (((k+1:Nat):Int))) {e:Exit} {tm2:TmL} {hp2:HpL}
 (r:Rl 10 10 80 0 47 12 ([(2,.pp 10 0),(3,.pp 11 0),(5,.pv (iV ((k+1:Nat):Int)))]) (qEn b ev fr u wh) e tm2 hp2):Rl 10 10 80 0 47 12 ([(2,.pp 10 0),(3,.pp 11 0),(5,.pv (iV (k:Int)))]) (qEn b ev fr u wh) e tm2 hp2:=
 RunsL.next [] 300 [.t true,.r (qaa m),.r (qaa m),.t false,Re hs]
  (Ro (A7 hlt hin (qaF hk) hin (qaF hk) hq hs tI)) r
theorem qxg (hge:decide ((k:Int)<(ev.length:Int))=false):Rl 10 10 80 0 47 12 ([(2,.pp 10 0),(3,.pp 11 0),(5,.pv (iV (k:Int)))]) (qEn b ev fr u wh) (.exit 0) ([]) ([]):=
 RunsL.stop [] 300 [.t false] (fun h=>by cases h)
  (Ro (Ai hge tI))
theorem qqv (h6:Fn 148 6 [.ag [.ls 0 u.length,.ls 1 b.length,.ls 2 fr.length],.ag [.ls 3 u.length,.ls 4 b.length,.ls 5 fr.length]] [(0,0,zrI u),(1,0,zrB b),(2,0,zrI fr),(3,0,zrI u),(4,0,zrB b),(5,0,zrI fr)] (.pv (.bool true)) 0 []) (hi:Fn 149 2 [.ls 0 wh.length,.ls 1 wh.length] [(0,0,zrI wh),(1,0,zrI wh)] (.pv (.bool true)) 0 []) (hle:(!((ev.length:Int)==(ev.length:Int)))=false) (r0:Rl 10 10 80 0 47 12 ([(2,.pp 10 0),(3,.pp 11 0),(5,.pv (iV ((0:Nat):Int)))]) (qEn b ev fr u wh) (.exit 0) ([]) ([])) :
 Fn 80 10 [agA u b fr ev wh,.ag [.ls 5 u.length,.ls 6 b.length,.ls 7 fr.length,.ls 8 ev.length,.ls 9 wh.length]] [(0,0,zrI u),(1,0,zrB b),(2,0,zrI fr),(3,0,qap ev),(4,0,zrI wh),(5,0,zrI u),(6,0,zrB b),(7,0,zrI fr),(8,0,qap ev),(9,0,zrI wh)] (.pv (.bool true)) 0 []:=
 Fz [] [Cf h6 [0,1,2,5,6,7],.k,Cf hi [4,9],.k,.t false,Lf r0]
  tI (Co h6 [0,1,2,5,6,7] 12 (Co hi [4,9] 12 (Ai hle (Lo r0 [] tI))))
end Go.Proofs.YtkckcgpmnipnaaaGreat

namespace Go.Proofs.YtkckcgpmnipnaaaGreat
set_option maxRecDepth 100000
open Go.RowKit
variable {u fr wh:List Int} {b:List Bool} {ev:List Ev} {x y m:Ev} {k j q n mm:Nat}
abbrev qH9 (b:List Bool) (ev:List Ev) (fr:List Int) (mm:Nat) (n:Nat) (u:List Int) (wh:List Int):HpL:=[(15,0,.ls 9 u.length),(15,1,.ls 10 b.length),(15,2,.ls 11 fr.length),(15,3,.ls 12 n),(15,4,.ls 13 mm),(14,0,.ls 9 u.length),(14,1,.ls 10 b.length),(14,2,.ls 11 fr.length),(14,3,.ls 12 n),(14,4,.ls 13 mm),(8,0,.pv (.slice none 0 0)),(8,1,.pv (.slice none 0 0)),(8,2,.pv (.slice none 0 0)),(8,3,.pv (.slice none 0 0)),(8,4,.pv (.slice none 0 0)),(9,0,zrI u),(10,0,zrB b),(11,0,zrI fr),(12,0,.row 61 5 n (qau (ev))),(13,0,.row 3 1 mm (ziV (wh)))]
abbrev qEM (k:Nat):TmL:=[(1,.pv (iV (k:Int))),(2,.pp 15 0)]
theorem qmA (n2:¬ (2:Int)=0) (hin_x:0≤(k:Int)∧(k:Int)<(n:Int)) (he_x:ev[k]?=some x) (hin_y:0≤(j:Int)∧(j:Int)<(n:Int)) (he_y:ev[j]?=some y) (h0:decide ((k:Int)>0)=true) (hm1:iV (IntKind.i64.wrap ((k:Int)-1))=iV (q:Int)) (hm2:iV (IntKind.i64.wrap (Int.tdiv (q:Int) 2))=iV (j:Int)) (hl:Pure Tryz.prog 187 #[qaa x,qaa y] (.bool true)) (hsa:k<(ev).length) (hsb:j<((ev).set k y).length) (h2a:(((ev).set k y).set j x)[k]?=some y) (h2b:(((ev).set k y).set j x)[j]?=some x) (hwb:0≤y.i∧y.i<(mm:Int)) (hwbl:y.i.toNat<(wh).length) (hwa:0≤x.i∧x.i<(mm:Int)) (hwal:x.i.toNat<((wh).set y.i.toNat (k:Int)).length) {e:Exit} {tm2:TmL} {hp2:HpL}
 (r:Rl 5 15 154 0 32 16 ([(1,.pv (iV (j:Int))),(2,.pp 15 0)]) ([(15,0,.ls 9 u.length),(15,1,.ls 10 b.length),(15,2,.ls 11 fr.length),(15,3,.ls 12 n),(15,4,.ls 13 mm),(14,0,.ls 9 u.length),(14,1,.ls 10 b.length),(14,2,.ls 11 fr.length),(14,3,.ls 12 n),(14,4,.ls 13 mm),(8,0,.pv (.slice none 0 0)),(8,1,.pv (.slice none 0 0)),(8,2,.pv (.slice none 0 0)),(8,3,.pv (.slice none 0 0)),(8,4,.pv (.slice none 0 0)),(9,0,zrI u),(10,0,zrB b),(11,0,zrI fr),(12,0,.row 61 5 n (qau (((ev).set k y).set j x))),(13,0,.row 3 1 mm (ziV (((wh).set y.i.toNat (k:Int)).set x.i.toNat (j:Int))))]) e tm2 hp2):Rl 5 15 154 0 32 16 (qEM k) (qH9 b ev fr mm n u wh) e tm2 hp2:=
 RunsL.next [] 300 [.t true,.r (qaa x),Re hm1,Re hm2,.r (qaa y),Rf hl,Re hm1,Re hm2,.k,.gh [(16,3)],.r (qaa y),.r (qaa x),.w (qau ((ev).set k y)),.w (qau (((ev).set k y).set j x)),.gh [(16,3),(16,4)],.r (iV (y.i)),.r (iV (x.i)),.w (ziV ((wh).set y.i.toNat (k:Int))),.w (ziV (((wh).set y.i.toNat (k:Int)).set x.i.toNat (j:Int))),Re hm1,Re hm2]
  (Ro (A9 h0 hin_x (qaF he_x) hm1 n2 hm2 hin_y (qaF he_y) hl (A9 hm1 n2 hm2 hin_y hin_x (qaF he_y) (qaF he_x) hin_x (El 12 n) (A9 (qdk (ev) k y hsa) (qbl (ev) k hsa) (El 12 n) hin_y (El 12 n) (qdk ((ev).set k y) j x hsb) (qbl ((ev).set k y) j hsb) (El 12 n) hin_x (A9 hin_y (qfy h2a) (qfy h2b) hwb (El 12 n) (El 13 mm) (qcB (wh) y.i.toNat (k:Int) hwbl) (qaQ (wh) y.i.toNat hwbl) (El 12 n) (A9 (El 13 mm) hwa (El 12 n) (El 13 mm) (qcB ((wh).set y.i.toNat (k:Int)) x.i.toNat (j:Int) hwal) (qaQ ((wh).set y.i.toNat (k:Int)) x.i.toNat hwal) (El 12 n) (El 13 mm) hm1 (A2 n2 hm2 tI))))))) r
abbrev qzm (b:List Bool) (ev:List Ev) (fr:List Int) (mm:Nat) (n:Nat) (u:List Int) (wh:List Int):HpL:=[(14,0,.ls 9 u.length),(14,1,.ls 10 b.length),(14,2,.ls 11 fr.length),(14,3,.ls 12 n),(14,4,.ls 13 mm),(8,0,.pv (.slice none 0 0)),(8,1,.pv (.slice none 0 0)),(8,2,.pv (.slice none 0 0)),(8,3,.pv (.slice none 0 0)),(8,4,.pv (.slice none 0 0)),(9,0,zrI u),(10,0,zrB b),(11,0,zrI fr),(12,0,.row 61 5 n (qau (ev))),(13,0,.row 3 1 mm (ziV (wh)))]
theorem qmL (n2:¬ (2:Int)=0) (hin_x:Bd k n) (he_x:ev[k]?=some x) (hin_y:Bd j n) (he_y:ev[j]?=some y) (h0:Dt ((k:Int)>0)) (hm1:iV (IntKind.i64.wrap ((k:Int)-1))=iV (q:Int)) (hm2:iV (IntKind.i64.wrap (Int.tdiv (q:Int) 2))=iV (j:Int)) (hl:ya x y):Rl 5 15 154 0 32 16 (qEM k) (qH9 b ev fr mm n u wh) (.exit 0) ([(1,.pv (iV (k:Int)))]) (qzm b ev fr mm n u wh):=
 RunsL.stop [] 300 [.t true,.r (qaa x),Re hm1,Re hm2,.r (qaa y),Rf hl] (fun h=>by cases h)
  (Ro (A9 h0 hin_x (qaF he_x) hm1 n2 hm2 hin_y (qaF he_y) hl tI))
theorem qlZ (h0:decide ((k:Int)>0)=false):Rl 5 15 154 0 32 16 (qEM k) (qH9 b ev fr mm n u wh) (.exit 0) ([(1,.pv (iV (k:Int)))]) (qzm b ev fr mm n u wh):=
 RunsL.stop [] 300 [.t false] (fun h=>by cases h)
  (Ro (Ai h0 tI))
abbrev quT (b:List Bool) (ev:List Ev) (fr:List Int) (mm:Nat) (n:Nat) (u:List Int) (wh:List Int):HpL:=[(16,0,.ls 9 u.length),(16,1,.ls 10 b.length),(16,2,.ls 11 fr.length),(16,3,.ls 12 n),(16,4,.ls 13 mm),(14,0,.ls 9 u.length),(14,1,.ls 10 b.length),(14,2,.ls 11 fr.length),(14,3,.ls 12 n),(14,4,.ls 13 mm),(8,0,.pv (.slice none 0 0)),(8,1,.pv (.slice none 0 0)),(8,2,.pv (.slice none 0 0)),(8,3,.pv (.slice none 0 0)),(8,4,.pv (.slice none 0 0)),(9,0,zrI u),(10,0,zrB b),(11,0,zrI fr),(12,0,.row 61 5 n (qau (ev))),(13,0,.row 3 1 mm (ziV (wh)))]
abbrev qy5 (k:Nat):TmL:=[(1,.pv (iV (k:Int))),(2,.pp 16 0)]
theorem qlS (hq:iV (IntKind.i64.wrap (2*(k:Int)))=iV (q:Int)) (hq1:iV (IntKind.i64.wrap ((q:Int)+1))=iV (((q+1:Nat):Int))) (hge:decide (((q+1:Nat):Int)≥(n:Int))=true):Rl 5 16 153 0 52 17 (qy5 k) (quT b ev fr mm n u wh) (.ret) ([]) (qzm b ev fr mm n u wh):=
 RunsL.stop [] 300 [Re hq,Re hq1,.t true] (fun h=>by cases h)
  (Ro (A3 hq hq1 hge tI))
abbrev qI2 (b:List Bool) (ev:List Ev) (fr:List Int) (k:Nat) (m:Ev) (mm:Nat) (n:Nat) (q:Nat) (u:List Int) (wh:List Int) (x:Ev):HpL:=[(16,0,.ls 9 u.length),(16,1,.ls 10 b.length),(16,2,.ls 11 fr.length),(16,3,.ls 12 n),(16,4,.ls 13 mm),(14,0,.ls 9 u.length),(14,1,.ls 10 b.length),(14,2,.ls 11 fr.length),(14,3,.ls 12 n),(14,4,.ls 13 mm),(8,0,.pv (.slice none 0 0)),(8,1,.pv (.slice none 0 0)),(8,2,.pv (.slice none 0 0)),(8,3,.pv (.slice none 0 0)),(8,4,.pv (.slice none 0 0)),(9,0,zrI u),(10,0,zrB b),(11,0,zrI fr),(12,0,.row 61 5 n (qau (((ev).set k m).set (q+1:Nat) x))),(13,0,.row 3 1 mm (ziV (((wh).set m.i.toNat (k:Int)).set x.i.toNat ((q+1:Nat):Int))))]
theorem qgf (hq:iV (IntKind.i64.wrap (2*(k:Int)))=iV (q:Int)) (hq1:iV (IntKind.i64.wrap ((q:Int)+1))=iV (((q+1:Nat):Int))) (hge:decide (((q+1:Nat):Int)≥(n:Int))=false) (hq2:iV (IntKind.i64.wrap (((q+1:Nat):Int)+1))=iV (((q+2:Nat):Int))) (h2:decide (((q+2:Nat):Int)<(n:Int))=false) (hin_m:0≤((q+1:Nat):Int)∧((q+1:Nat):Int)<(n:Int)) (he_m:ev[(q+1:Nat)]?=some m) (hin_x:0≤(k:Int)∧(k:Int)<(n:Int)) (he_x:ev[k]?=some x) (hl:Pure Tryz.prog 187 #[qaa m,qaa x] (.bool true)) (hsa:k<(ev).length) (hsb:(q+1:Nat)<((ev).set k m).length) (h2a:(((ev).set k m).set (q+1:Nat) x)[k]?=some m) (h2b:(((ev).set k m).set (q+1:Nat) x)[(q+1:Nat)]?=some x) (hwb:0≤m.i∧m.i<(mm:Int)) (hwbl:m.i.toNat<(wh).length) (hwa:0≤x.i∧x.i<(mm:Int)) (hwal:x.i.toNat<((wh).set m.i.toNat (k:Int)).length) {e:Exit} {tm2:TmL} {hp2:HpL}
 (r:Rl 5 16 153 0 52 17 ([(1,.pv (iV ((q+1:Nat):Int))),(2,.pp 16 0)]) (qI2 b ev fr k m mm n q u wh x) e tm2 hp2):Rl 5 16 153 0 52 17 (qy5 k) (quT b ev fr mm n u wh) e tm2 hp2:=
 RunsL.next [] 300 [Re hq,Re hq1,.t false,.r (iV (((q+2:Nat):Int))),.t false,.r (qaa m),.r (qaa x),Rf hl,.k,.k,.gh [(17,3)],.r (qaa m),.r (qaa x),.w (qau ((ev).set k m)),.w (qau (((ev).set k m).set (q+1:Nat) x)),.gh [(17,3),(17,4)],.r (iV (m.i)),.r (iV (x.i)),.w (ziV ((wh).set m.i.toNat (k:Int))),.w (ziV (((wh).set m.i.toNat (k:Int)).set x.i.toNat ((q+1:Nat):Int)))]
  (Ro (A9 hq hq1 hge hq2 h2 hin_m (qaF he_m) hin_x (qaF he_x) (A9 hl hin_m hin_x (qaF he_m) (qaF he_x) hin_x (El 12 n) (qdk (ev) k m hsa) (qbl (ev) k hsa) (A9 (El 12 n) hin_m (El 12 n) (qdk ((ev).set k m) (q+1:Nat) x hsb) (qbl ((ev).set k m) (q+1:Nat) hsb) (El 12 n) hin_x hin_m (qfy h2a) (A9 (qfy h2b) hwb (El 12 n) (El 13 mm) (qcB (wh) m.i.toNat (k:Int) hwbl) (qaQ (wh) m.i.toNat hwbl) (El 12 n) (El 13 mm) hwa (A6 (El 12 n) (El 13 mm) (qcB ((wh).set m.i.toNat (k:Int)) x.i.toNat ((q+1:Nat):Int) hwal) (qaQ ((wh).set m.i.toNat (k:Int)) x.i.toNat hwal) (El 12 n) (El 13 mm) tI)))))) r
theorem qgc (hq:iV (IntKind.i64.wrap (2*(k:Int)))=iV (q:Int)) (hq1:iV (IntKind.i64.wrap ((q:Int)+1))=iV (((q+1:Nat):Int))) (hge:Df (((q+1:Nat):Int)≥(n:Int))) (hq2:iV (IntKind.i64.wrap (((q+1:Nat):Int)+1))=iV (((q+2:Nat):Int))) (h2:Df (((q+2:Nat):Int)<(n:Int))) (hin_m:0≤((q+1:Nat):Int)∧((q+1:Nat):Int)<(n:Int)) (he_m:ev[(q+1:Nat)]?=some m) (hin_x:Bd k n) (he_x:ev[k]?=some x) (hl:ya m x):Rl 5 16 153 0 52 17 (qy5 k) (quT b ev fr mm n u wh) (.ret) ([]) (qzm b ev fr mm n u wh):=
 RunsL.stop [] 300 [Re hq,Re hq1,.t false,.r (iV (((q+2:Nat):Int))),.t false,.r (qaa m),.r (qaa x),Rf hl,.k] (fun h=>by cases h)
  (Ro (A9 hq hq1 hge hq2 h2 hin_m (qaF he_m) hin_x (qaF he_x) (Ai hl tI)))
theorem qf4 (hq:iV (IntKind.i64.wrap (2*(k:Int)))=iV (q:Int)) (hq1:iV (IntKind.i64.wrap ((q:Int)+1))=iV (((q+1:Nat):Int))) (hge:decide (((q+1:Nat):Int)≥(n:Int))=false) (hq2:iV (IntKind.i64.wrap (((q+1:Nat):Int)+1))=iV (((q+2:Nat):Int))) (h2:decide (((q+2:Nat):Int)<(n:Int))=true) (hin_y:0≤((q+2:Nat):Int)∧((q+2:Nat):Int)<(n:Int)) (he_y:ev[(q+2:Nat)]?=some y) (hin_m:0≤((q+1:Nat):Int)∧((q+1:Nat):Int)<(n:Int)) (he_m:ev[(q+1:Nat)]?=some m) (hl2:Pure Tryz.prog 187 #[qaa y,qaa m] (.bool false)) (hin_x:0≤(k:Int)∧(k:Int)<(n:Int)) (he_x:ev[k]?=some x) (hl:Pure Tryz.prog 187 #[qaa m,qaa x] (.bool true)) (hsa:k<(ev).length) (hsb:(q+1:Nat)<((ev).set k m).length) (h2a:(((ev).set k m).set (q+1:Nat) x)[k]?=some m) (h2b:(((ev).set k m).set (q+1:Nat) x)[(q+1:Nat)]?=some x) (hwb:0≤m.i∧m.i<(mm:Int)) (hwbl:m.i.toNat<(wh).length) (hwa:0≤x.i∧x.i<(mm:Int)) (hwal:x.i.toNat<((wh).set m.i.toNat (k:Int)).length) {e:Exit} {tm2:TmL} {hp2:HpL}
 (r:Rl 5 16 153 0 52 17 ([(1,.pv (iV ((q+1:Nat):Int))),(2,.pp 16 0)]) (qI2 b ev fr k m mm n q u wh x) e tm2 hp2):Rl 5 16 153 0 52 17 (qy5 k) (quT b ev fr mm n u wh) e tm2 hp2:=
 RunsL.next [] 300 [Re hq,Re hq1,.t false,.r (iV (((q+2:Nat):Int))),.t true,.r (iV (((q+2:Nat):Int))),.r (qaa y),.r (qaa m),Rf hl2,.r (qaa m),.r (qaa x),Rf hl,.k,.k,.gh [(17,3)],.r (qaa m),.r (qaa x),.w (qau ((ev).set k m)),.w (qau (((ev).set k m).set (q+1:Nat) x)),.gh [(17,3),(17,4)],.r (iV (m.i)),.r (iV (x.i)),.w (ziV ((wh).set m.i.toNat (k:Int))),.w (ziV (((wh).set m.i.toNat (k:Int)).set x.i.toNat ((q+1:Nat):Int)))]
  (Ro (A9 hq hq1 hge hq2 h2 hq2 hin_y (qaF he_y) hin_m (A9 (qaF he_m) hl2 hin_m (qaF he_m) hin_x (qaF he_x) hl hin_m hin_x (A9 (qaF he_m) (qaF he_x) hin_x (El 12 n) (qdk (ev) k m hsa) (qbl (ev) k hsa) (El 12 n) hin_m (El 12 n) (A9 (qdk ((ev).set k m) (q+1:Nat) x hsb) (qbl ((ev).set k m) (q+1:Nat) hsb) (El 12 n) hin_x hin_m (qfy h2a) (qfy h2b) hwb (El 12 n) (A9 (El 13 mm) (qcB (wh) m.i.toNat (k:Int) hwbl) (qaQ (wh) m.i.toNat hwbl) (El 12 n) (El 13 mm) hwa (El 12 n) (El 13 mm) (qcB ((wh).set m.i.toNat (k:Int)) x.i.toNat ((q+1:Nat):Int) hwal) (A3 (qaQ ((wh).set m.i.toNat (k:Int)) x.i.toNat hwal) (El 12 n) (El 13 mm) tI))))))) r
theorem qfm (hq:iV (IntKind.i64.wrap (2*(k:Int)))=iV (q:Int)) (hq1:iV (IntKind.i64.wrap ((q:Int)+1))=iV (((q+1:Nat):Int))) (hge:Df (((q+1:Nat):Int)≥(n:Int))) (hq2:iV (IntKind.i64.wrap (((q+1:Nat):Int)+1))=iV (((q+2:Nat):Int))) (h2:decide (((q+2:Nat):Int)<(n:Int))=true) (hin_y:0≤((q+2:Nat):Int)∧((q+2:Nat):Int)<(n:Int)) (he_y:ev[(q+2:Nat)]?=some y) (hin_m:0≤((q+1:Nat):Int)∧((q+1:Nat):Int)<(n:Int)) (he_m:ev[(q+1:Nat)]?=some m) (hl2:ya y m) (hin_x:Bd k n) (he_x:ev[k]?=some x) (hl:ya m x):Rl 5 16 153 0 52 17 (qy5 k) (quT b ev fr mm n u wh) (.ret) ([]) (qzm b ev fr mm n u wh):=
 RunsL.stop [] 300 [Re hq,Re hq1,.t false,.r (iV (((q+2:Nat):Int))),.t true,.r (iV (((q+2:Nat):Int))),.r (qaa y),.r (qaa m),Rf hl2,.r (qaa m),.r (qaa x),Rf hl2,.k] (fun h=>by cases h)
  (Ro (A9 hq hq1 hge hq2 h2 hq2 hin_y (qaF he_y) hin_m (A7 (qaF he_m) hl2 hin_m (qaF he_m) hin_x (qaF he_x) hl tI)))
theorem qe4 (hq:iV (IntKind.i64.wrap (2*(k:Int)))=iV (q:Int)) (hq1:iV (IntKind.i64.wrap ((q:Int)+1))=iV (((q+1:Nat):Int))) (hge:decide (((q+1:Nat):Int)≥(n:Int))=false) (hq2:iV (IntKind.i64.wrap (((q+1:Nat):Int)+1))=iV (((q+2:Nat):Int))) (h2:decide (((q+2:Nat):Int)<(n:Int))=true) (hin_y:0≤((q+2:Nat):Int)∧((q+2:Nat):Int)<(n:Int)) (he_y:ev[(q+2:Nat)]?=some y) (hin_m:0≤((q+1:Nat):Int)∧((q+1:Nat):Int)<(n:Int)) (he_m:ev[(q+1:Nat)]?=some m) (hl2:Pure Tryz.prog 187 #[qaa y,qaa m] (.bool true)) (hin_x:0≤(k:Int)∧(k:Int)<(n:Int)) (he_x:ev[k]?=some x) (hl:Pure Tryz.prog 187 #[qaa y,qaa x] (.bool true)) (hsa:k<(ev).length) (hsb:(q+2:Nat)<((ev).set k y).length) (h2a:(((ev).set k y).set (q+2:Nat) x)[k]?=some y) (h2b:(((ev).set k y).set (q+2:Nat) x)[(q+2:Nat)]?=some x) (hwb:0≤y.i∧y.i<(mm:Int)) (hwbl:y.i.toNat<(wh).length) (hwa:0≤x.i∧x.i<(mm:Int)) (hwal:x.i.toNat<((wh).set y.i.toNat (k:Int)).length) {e:Exit} {tm2:TmL} {hp2:HpL}
 (r:Rl 5 16 153 0 52 17 ([(1,.pv (iV ((q+2:Nat):Int))),(2,.pp 16 0)]) ([(16,0,.ls 9 u.length),(16,1,.ls 10 b.length),(16,2,.ls 11 fr.length),(16,3,.ls 12 n),(16,4,.ls 13 mm),(14,0,.ls 9 u.length),(14,1,.ls 10 b.length),(14,2,.ls 11 fr.length),(14,3,.ls 12 n),(14,4,.ls 13 mm),(8,0,.pv (.slice none 0 0)),(8,1,.pv (.slice none 0 0)),(8,2,.pv (.slice none 0 0)),(8,3,.pv (.slice none 0 0)),(8,4,.pv (.slice none 0 0)),(9,0,zrI u),(10,0,zrB b),(11,0,zrI fr),(12,0,.row 61 5 n (qau (((ev).set k y).set (q+2:Nat) x))),(13,0,.row 3 1 mm (ziV (((wh).set y.i.toNat (k:Int)).set x.i.toNat ((q+2:Nat):Int))))]) e tm2 hp2):Rl 5 16 153 0 52 17 (qy5 k) (quT b ev fr mm n u wh) e tm2 hp2:=
 RunsL.next [] 300 [Re hq,Re hq1,.t false,.r (iV (((q+2:Nat):Int))),.t true,.r (iV (((q+2:Nat):Int))),.r (qaa y),.r (qaa m),Rf hl2,.r (iV (((q+2:Nat):Int))),.r (qaa y),.r (qaa x),Rf hl2,.k,.k,.gh [(17,3)],.r (qaa y),.r (qaa x),.w (qau ((ev).set k y)),.w (qau (((ev).set k y).set (q+2:Nat) x)),.gh [(17,3),(17,4)],.r (iV (y.i)),.r (iV (x.i)),.w (ziV ((wh).set y.i.toNat (k:Int))),.w (ziV (((wh).set y.i.toNat (k:Int)).set x.i.toNat ((q+2:Nat):Int)))]
  (Ro (A9 hq hq1 hge hq2 h2 hq2 hin_y (qaF he_y) hin_m (A9 (qaF he_m) hl2 hq2 hin_y (qaF he_y) hin_x (qaF he_x) hl hin_y (A9 hin_x (qaF he_y) (qaF he_x) hin_x (El 12 n) (qdk (ev) k y hsa) (qbl (ev) k hsa) (El 12 n) hin_y (A9 (El 12 n) (qdk ((ev).set k y) (q+2:Nat) x hsb) (qbl ((ev).set k y) (q+2:Nat) hsb) (El 12 n) hin_x hin_y (qfy h2a) (qfy h2b) hwb (A9 (El 12 n) (El 13 mm) (qcB (wh) y.i.toNat (k:Int) hwbl) (qaQ (wh) y.i.toNat hwbl) (El 12 n) (El 13 mm) hwa (El 12 n) (El 13 mm) (A4 (qcB ((wh).set y.i.toNat (k:Int)) x.i.toNat ((q+2:Nat):Int) hwal) (qaQ ((wh).set y.i.toNat (k:Int)) x.i.toNat hwal) (El 12 n) (El 13 mm) tI))))))) r
theorem qeZ (hq:iV (IntKind.i64.wrap (2*(k:Int)))=iV (q:Int)) (hq1:iV (IntKind.i64.wrap ((q:Int)+1))=iV (((q+1:Nat):Int))) (hge:Df (((q+1:Nat):Int)≥(n:Int))) (hq2:iV (IntKind.i64.wrap (((q+1:Nat):Int)+1))=iV (((q+2:Nat):Int))) (h2:decide (((q+2:Nat):Int)<(n:Int))=true) (hin_y:0≤((q+2:Nat):Int)∧((q+2:Nat):Int)<(n:Int)) (he_y:ev[(q+2:Nat)]?=some y) (hin_m:0≤((q+1:Nat):Int)∧((q+1:Nat):Int)<(n:Int)) (he_m:ev[(q+1:Nat)]?=some m) (hl2:Pure Tryz.prog 187 #[qaa y,qaa m] (.bool true)) (hin_x:Bd k n) (he_x:ev[k]?=some x) (hl:ya y x):Rl 5 16 153 0 52 17 (qy5 k) (quT b ev fr mm n u wh) (.ret) ([]) (qzm b ev fr mm n u wh):=
 RunsL.stop [] 300 [Re hq,Re hq1,.t false,.r (iV (((q+2:Nat):Int))),.t true,.r (iV (((q+2:Nat):Int))),.r (qaa y),.r (qaa m),Rf hl2,.r (iV (((q+2:Nat):Int))),.r (qaa y),.r (qaa x),Rf hl,.k] (fun h=>by cases h)
  (Ro (A9 hq hq1 hge hq2 h2 hq2 hin_y (qaF he_y) hin_m (A8 (qaF he_m) hl2 hq2 hin_y (qaF he_y) hin_x (qaF he_x) hl tI)))
theorem qwd {wh3 wh4:List Int} {ev3 ev4:List Ev} {tn td hi hw:Int} {p:Nat} (htw:Fn 72 5 [agA u b fr ev wh] [(0,0,zrI u),(1,0,zrB b),(2,0,zrI fr),(3,0,qap ev),(4,0,zrI wh)] (.ag [.ls 5 u.length,.ls 6 b.length,.ls 7 fr.length,.ls 8 ev.length,.ls 9 wh.length]) 5 (yd u b fr ev wh)) (hiw:0≤hi∧hi<(wh.length:Int)) (hwk:wh[hi.toNat]?=some (k:Int)) (hik:Bd k ev.length) (hx:ev[k]?=some x) (hset:k<ev.length) (r0:Rl 5 15 154 0 32 16 (qEM k) ([(15,0,.ls 9 u.length),(15,1,.ls 10 b.length),(15,2,.ls 11 fr.length),(15,3,.ls 12 ev.length),(15,4,.ls 13 wh.length),(14,0,.ls 9 u.length),(14,1,.ls 10 b.length),(14,2,.ls 11 fr.length),(14,3,.ls 12 ev.length),(14,4,.ls 13 wh.length),(8,0,.pv (.slice none 0 0)),(8,1,.pv (.slice none 0 0)),(8,2,.pv (.slice none 0 0)),(8,3,.pv (.slice none 0 0)),(8,4,.pv (.slice none 0 0)),(9,0,zrI u),(10,0,zrB b),(11,0,zrI fr),(12,0,.row 61 5 ev.length (qau (ev.set k ⟨tn,td,x.k,x.i,x.w⟩))),(13,0,.row 3 1 wh.length (ziV (wh)))]) (.exit 0) ([(1,.pv (iV (p:Int)))]) ((yg u b fr ev wh ev3 wh3))) (r1:Rl 5 16 153 0 52 17 ([(1,.pv (iV (p:Int))),(2,.pp 16 0)]) ([(16,0,.ls 9 u.length),(16,1,.ls 10 b.length),(16,2,.ls 11 fr.length),(16,3,.ls 12 ev.length),(16,4,.ls 13 wh.length),(14,0,.ls 9 u.length),(14,1,.ls 10 b.length),(14,2,.ls 11 fr.length),(14,3,.ls 12 ev.length),(14,4,.ls 13 wh.length),(8,0,.pv (.slice none 0 0)),(8,1,.pv (.slice none 0 0)),(8,2,.pv (.slice none 0 0)),(8,3,.pv (.slice none 0 0)),(8,4,.pv (.slice none 0 0)),(9,0,zrI u),(10,0,zrB b),(11,0,zrI fr),(12,0,.row 61 5 ev.length (qau (ev3))),(13,0,.row 3 1 wh.length (ziV (wh3)))]) (.ret) ([]) ((yg u b fr ev wh ev4 wh4))) :
 Fn 196 5 [agA u b fr ev wh,.pv (qaK hi hw),.pv (qab tn td)] [(0,0,zrI u),(1,0,zrB b),(2,0,zrI fr),(3,0,qap ev),(4,0,zrI wh)] (.ag [.ls 5 u.length,.ls 6 b.length,.ls 7 fr.length,.ls 8 ev.length,.ls 9 wh.length]) 5 [(5,0,zrI u),(6,0,zrB b),(7,0,zrI fr),(8,0,.row 61 5 ev.length (qau (ev4))),(9,0,.row 3 1 wh.length (ziV (wh4)))]:=
 Fz [(5,9),(6,10),(7,11),(8,12),(9,13)] [Cf htw [0,1,2,3,4],.r (iV (k:Int)),.w (qau (ev.set k ⟨tn,td,x.k,x.i,x.w⟩)),.gh [(14,0),(14,1),(14,2),(14,3),(14,4)],.k,Lf r0,.k,Lf r1]
  (qaG (qaM [(5,9),(6,10),(7,11),(8,12),(9,13)]) [(5,0,zrI u),(6,0,zrB b),(7,0,zrI fr),(8,0,.row 61 5 ev.length (qau (ev4))),(9,0,.row 3 1 wh.length (ziV (wh4)))]) (Co htw [0,1,2,3,4] 9 (A9 hiw (qc3 hwk) hik (qF2 ev k x tn td hx) (quh ev k hset) (El 9 u.length) (El 10 b.length) (El 11 fr.length) (El 12 ev.length) (Ai (El 13 wh.length) (Lo r0 [] (A5 (El 9 u.length) (El 10 b.length) (El 11 fr.length) (El 12 ev.length) (El 13 wh.length) (Lo r1 [] (A5 (El 9 u.length) (El 10 b.length) (El 11 fr.length) (El 12 ev.length) (El 13 wh.length) tI)))))))
end Go.Proofs.YtkckcgpmnipnaaaGreat

namespace Go.Proofs.YtkckcgpmnipnaaaGreat
set_option maxRecDepth 100000
open Go.RowKit
variable {wh u2 f2:List Int} {b2:List Bool} {ev:List Ev} {x y:Ev} {hi hw:Int} {k j q n mm:Nat}
abbrev qHI (b2:List Bool) (ev:List Ev) (f2:List Int) (hi:Int) (hw:Int) (mm:Nat) (n:Nat) (u2:List Int) (wh:List Int):HpL:=[(22,0,.ls 15 u2.length),(22,1,.ls 16 b2.length),(22,2,.ls 17 f2.length),(22,3,.ls 21 n),(22,4,.ls 13 mm),(14,0,.ls 15 u2.length),(14,1,.ls 16 b2.length),(14,2,.ls 17 f2.length),(14,3,.ls 21 n),(14,4,.ls 13 mm),(7,0,.pv (.slice none 0 0)),(7,1,.pv (.slice none 0 0)),(7,2,.pv (.slice none 0 0)),(7,3,.pv (.slice none 0 0)),(7,4,.pv (.slice none 0 0)),(8,0,.pv (iV 0)),(8,1,.pv (iV 0)),(19,0,.pv (iV hi)),(19,1,.pv (iV hw)),(15,0,zrI u2),(16,0,zrB b2),(17,0,zrI f2),(21,0,.row 61 5 n (qau (ev))),(13,0,.row 3 1 mm (ziV (wh)))]
theorem qmj (n2:¬ (2:Int)=0) (hin_x:0≤(k:Int)∧(k:Int)<(n:Int)) (he_x:ev[k]?=some x) (hin_y:0≤(j:Int)∧(j:Int)<(n:Int)) (he_y:ev[j]?=some y) (h0:decide ((k:Int)>0)=true) (hm1:iV (IntKind.i64.wrap ((k:Int)-1))=iV (q:Int)) (hm2:iV (IntKind.i64.wrap (Int.tdiv (q:Int) 2))=iV (j:Int)) (hl:Pure Tryz.prog 187 #[qaa x,qaa y] (.bool true)) (hsa:k<(ev).length) (hsb:j<((ev).set k y).length) (h2a:(((ev).set k y).set j x)[k]?=some y) (h2b:(((ev).set k y).set j x)[j]?=some x) (hwb:0≤y.i∧y.i<(mm:Int)) (hwbl:y.i.toNat<(wh).length) (hwa:0≤x.i∧x.i<(mm:Int)) (hwal:x.i.toNat<((wh).set y.i.toNat (k:Int)).length) {e:Exit} {tm2:TmL} {hp2:HpL}
 (r:Rl 5 22 154 0 32 23 ([(1,.pv (iV (j:Int))),(2,.pp 22 0)]) ([(22,0,.ls 15 u2.length),(22,1,.ls 16 b2.length),(22,2,.ls 17 f2.length),(22,3,.ls 21 n),(22,4,.ls 13 mm),(14,0,.ls 15 u2.length),(14,1,.ls 16 b2.length),(14,2,.ls 17 f2.length),(14,3,.ls 21 n),(14,4,.ls 13 mm),(7,0,.pv (.slice none 0 0)),(7,1,.pv (.slice none 0 0)),(7,2,.pv (.slice none 0 0)),(7,3,.pv (.slice none 0 0)),(7,4,.pv (.slice none 0 0)),(8,0,.pv (iV 0)),(8,1,.pv (iV 0)),(19,0,.pv (iV hi)),(19,1,.pv (iV hw)),(15,0,zrI u2),(16,0,zrB b2),(17,0,zrI f2),(21,0,.row 61 5 n (qau (((ev).set k y).set j x))),(13,0,.row 3 1 mm (ziV (((wh).set y.i.toNat (k:Int)).set x.i.toNat (j:Int))))]) e tm2 hp2):Rl 5 22 154 0 32 23 ([(1,.pv (iV (k:Int))),(2,.pp 22 0)]) (qHI b2 ev f2 hi hw mm n u2 wh) e tm2 hp2:=
 RunsL.next [] 300 [.t true,.r (qaa x),Re hm1,Re hm2,.r (qaa y),Rf hl,Re hm1,Re hm2,.k,.gh [(23,3)],.r (qaa y),.r (qaa x),.w (qau ((ev).set k y)),.w (qau (((ev).set k y).set j x)),.gh [(23,3),(23,4)],.r (iV (y.i)),.r (iV (x.i)),.w (ziV ((wh).set y.i.toNat (k:Int))),.w (ziV (((wh).set y.i.toNat (k:Int)).set x.i.toNat (j:Int))),Re hm1,Re hm2]
  (Ro (A9 h0 hin_x (qaF he_x) hm1 n2 hm2 hin_y (qaF he_y) hl (A9 hm1 n2 hm2 hin_y hin_x (qaF he_y) (qaF he_x) hin_x (El 21 n) (A9 (qdk (ev) k y hsa) (qbl (ev) k hsa) (El 21 n) hin_y (El 21 n) (qdk ((ev).set k y) j x hsb) (qbl ((ev).set k y) j hsb) (El 21 n) hin_x (A9 hin_y (qfy h2a) (qfy h2b) hwb (El 21 n) (El 13 mm) (qcB (wh) y.i.toNat (k:Int) hwbl) (qaQ (wh) y.i.toNat hwbl) (El 21 n) (A9 (El 13 mm) hwa (El 21 n) (El 13 mm) (qcB ((wh).set y.i.toNat (k:Int)) x.i.toNat (j:Int) hwal) (qaQ ((wh).set y.i.toNat (k:Int)) x.i.toNat hwal) (El 21 n) (El 13 mm) hm1 (A2 n2 hm2 tI))))))) r
abbrev qJl (b2:List Bool) (ev:List Ev) (f2:List Int) (hi:Int) (hw:Int) (mm:Nat) (n:Nat) (u2:List Int) (wh:List Int):HpL:=[(14,0,.ls 15 u2.length),(14,1,.ls 16 b2.length),(14,2,.ls 17 f2.length),(14,3,.ls 21 n),(14,4,.ls 13 mm),(7,0,.pv (.slice none 0 0)),(7,1,.pv (.slice none 0 0)),(7,2,.pv (.slice none 0 0)),(7,3,.pv (.slice none 0 0)),(7,4,.pv (.slice none 0 0)),(8,0,.pv (iV 0)),(8,1,.pv (iV 0)),(19,0,.pv (iV hi)),(19,1,.pv (iV hw)),(15,0,zrI u2),(16,0,zrB b2),(17,0,zrI f2),(21,0,.row 61 5 n (qau (ev))),(13,0,.row 3 1 mm (ziV (wh)))]
theorem ql8 (n2:¬ (2:Int)=0) (hin_x:Bd k n) (he_x:ev[k]?=some x) (hin_y:Bd j n) (he_y:ev[j]?=some y) (h0:Dt ((k:Int)>0)) (hm1:iV (IntKind.i64.wrap ((k:Int)-1))=iV (q:Int)) (hm2:iV (IntKind.i64.wrap (Int.tdiv (q:Int) 2))=iV (j:Int)) (hl:ya x y):Rl 5 22 154 0 32 23 ([(1,.pv (iV (k:Int))),(2,.pp 22 0)]) (qHI b2 ev f2 hi hw mm n u2 wh) (.exit 0) ([(1,.pv (iV (k:Int)))]) (qJl b2 ev f2 hi hw mm n u2 wh):=
 RunsL.stop [] 300 [.t true,.r (qaa x),Re hm1,Re hm2,.r (qaa y),Rf hl] (fun h=>by cases h)
  (Ro (A9 h0 hin_x (qaF he_x) hm1 n2 hm2 hin_y (qaF he_y) hl tI))
theorem qmn (h0:decide ((k:Int)>0)=false):Rl 5 22 154 0 32 23 ([(1,.pv (iV (k:Int))),(2,.pp 22 0)]) (qHI b2 ev f2 hi hw mm n u2 wh) (.exit 0) ([(1,.pv (iV (k:Int)))]) (qJl b2 ev f2 hi hw mm n u2 wh):=
 RunsL.stop [] 300 [.t false] (fun h=>by cases h)
  (Ro (Ai h0 tI))
theorem qq1 (g:List Ev) (x:Ev):some (SV.row 61 5 (g.length+1) (qau g++ecV x))=some (SV.row 61 5 (g.length+1) (qau (g++[x]))):=by rw[qcL];rfl
theorem qrW {u fr wh3:List Int} {b:List Bool} {ev3:List Ev} {z tn td:Int} {p la:Nat} (htw:Fn 72 5 [agA u b fr ev wh] [(0,0,zrI u),(1,0,zrB b),(2,0,zrI fr),(3,0,qap ev),(4,0,zrI wh)] (.ag [.ls 5 u.length,.ls 6 b.length,.ls 7 fr.length,.ls 8 ev.length,.ls 9 wh.length]) 5 [(5,0,zrI u),(6,0,zrB b),(7,0,zrI fr),(8,0,qap ev),(9,0,zrI wh)]) (htk:Fn 243 3 [.ag [.ls 0 u.length,.ls 1 b.length,.ls 2 fr.length]] [(0,0,zrI u),(1,0,zrB b),(2,0,zrI fr)] (.tu [.ag [.ls 3 u2.length,.ls 4 b2.length,.ls 5 f2.length],.one (.pv (qaK hi hw))]) 3 [(3,0,zrI u2),(4,0,zrB b2),(5,0,zrI f2)]) (hl:ev.length+1≤1000000) (hla:iV (IntKind.i64.wrap (((ev.length+1:Nat):Int)-1))=iV (la:Int)) (hiw:0≤hi∧hi<(wh.length:Int)) (hws:hi.toNat<wh.length) (r0:Rl 5 22 154 0 32 23 ([(1,.pv (iV (la:Int))),(2,.pp 22 0)]) ([(22,0,.ls 15 u2.length),(22,1,.ls 16 b2.length),(22,2,.ls 17 f2.length),(22,3,.ls 21 (ev.length+1)),(22,4,.ls 13 wh.length),(14,0,.ls 15 u2.length),(14,1,.ls 16 b2.length),(14,2,.ls 17 f2.length),(14,3,.ls 21 (ev.length+1)),(14,4,.ls 13 wh.length),(7,0,.pv (.slice none 0 0)),(7,1,.pv (.slice none 0 0)),(7,2,.pv (.slice none 0 0)),(7,3,.pv (.slice none 0 0)),(7,4,.pv (.slice none 0 0)),(8,0,.pv (iV 0)),(8,1,.pv (iV 0)),(19,0,.pv (iV hi)),(19,1,.pv (iV hw)),(15,0,zrI u2),(16,0,zrB b2),(17,0,zrI f2),(21,0,.row 61 5 (ev.length+1) (qau (ev++[⟨tn,td,z,hi,hw⟩]))),(13,0,.row 3 1 wh.length (ziV (wh.set hi.toNat (la:Int))))]) (.exit 0) ([(1,.pv (iV (p:Int)))]) ([(14,0,.ls 15 u2.length),(14,1,.ls 16 b2.length),(14,2,.ls 17 f2.length),(14,3,.ls 21 (ev.length+1)),(14,4,.ls 13 wh.length),(7,0,.pv (.slice none 0 0)),(7,1,.pv (.slice none 0 0)),(7,2,.pv (.slice none 0 0)),(7,3,.pv (.slice none 0 0)),(7,4,.pv (.slice none 0 0)),(8,0,.pv (iV 0)),(8,1,.pv (iV 0)),(19,0,.pv (iV hi)),(19,1,.pv (iV hw)),(15,0,zrI u2),(16,0,zrB b2),(17,0,zrI f2),(21,0,.row 61 5 (ev.length+1) (qau (ev3))),(13,0,.row 3 1 wh.length (ziV (wh3)))])) :
 Fn 198 5 [agA u b fr ev wh,.pv (qab tn td),.pv (iV (z))] [(0,0,zrI u),(1,0,zrB b),(2,0,zrI fr),(3,0,qap ev),(4,0,zrI wh)] (.tu [.ag [.ls 5 u2.length,.ls 6 b2.length,.ls 7 f2.length,.ls 8 (ev.length+1),.ls 9 wh.length],.one (.pv (qaK hi hw))]) 5 [(5,0,zrI u2),(6,0,zrB b2),(7,0,zrI f2),(8,0,.row 61 5 (ev.length+1) (qau (ev3))),(9,0,.row 3 1 wh.length (ziV (wh3)))]:=
 Fz [(5,15),(6,16),(7,17),(8,21),(9,13)] [Cf htw [0,1,2,3,4],Cf htk [9,10,11],.r (iV (la:Int)),.w (ziV (wh.set hi.toNat (la:Int))),.r (iV (la:Int)),.k,Lf r0]
  (qaG (qaM [(5,15),(6,16),(7,17),(8,21),(9,13)]) [(5,0,zrI u2),(6,0,zrB b2),(7,0,zrI f2),(8,0,.row 61 5 (ev.length+1) (qau (ev3))),(9,0,.row 3 1 wh.length (ziV (wh3)))]) (Co htw [0,1,2,3,4] 9 (Co htk [9,10,11] 15 (A9 hl hla hiw (qcB wh hi.toNat (la:Int) hws) (qaQ wh hi.toNat hws) hla (Lt r0 []) (Ai (El 15 u2.length) (Ai (El 16 b2.length) (Ai (El 17 f2.length) (Ai (El 21 (ev.length+1)) (Ai (El 13 wh.length) (Ai (El 15 u2.length) (Ai (El 16 b2.length) (Ai (El 17 f2.length) (Ai (El 21 (ev.length+1)) (Ai (El 13 wh.length) (Ai (Er (SV.pv (.slice none 0 0))) (Ai (Er (SV.pv (.slice none 0 0))) (Ai (Er (SV.pv (.slice none 0 0))) (Ai (Er (SV.pv (.slice none 0 0))) (Ai (Er (SV.pv (.slice none 0 0))) (Ai (Er (SV.pv (iV 0))) (Ai (Er (SV.pv (iV 0))) (Ai (Er (SV.pv (iV hi))) (Ai (Er (SV.pv (iV hw))) (Ai (Er (zrI u2)) (Ai (Er (zrB b2)) (Ai (Er (zrI f2)) (Ai (qq1 ev ⟨tn,td,z,hi,hw⟩) (Ai (Er (SV.row 3 1 wh.length (ziV (wh.set hi.toNat (la:Int))))) tI)))))))))))))))))))))))) r0 tI)))
end Go.Proofs.YtkckcgpmnipnaaaGreat

namespace Go.Proofs.YtkckcgpmnipnaaaGreat
set_option maxRecDepth 100000
open Go.RowKit
variable {wh u2 f2 u fr:List Int} {b2 b:List Bool} {ev:List Ev} {x y m:Ev} {k j q n mm la:Nat} {hi hw:Int}
abbrev qHL (b2:List Bool) (ev:List Ev) (f2:List Int) (mm:Nat) (n:Nat) (u2:List Int) (wh:List Int):HpL:=[(19,0,.ls 16 u2.length),(19,1,.ls 17 b2.length),(19,2,.ls 18 f2.length),(19,3,.ls 15 n),(19,4,.ls 12 mm),(13,0,.ls 16 u2.length),(13,1,.ls 17 b2.length),(13,2,.ls 18 f2.length),(13,3,.ls 15 n),(13,4,.ls 12 mm),(7,0,.pv (.slice none 0 0)),(7,1,.pv (.slice none 0 0)),(7,2,.pv (.slice none 0 0)),(7,3,.pv (.slice none 0 0)),(7,4,.pv (.slice none 0 0)),(16,0,zrI u2),(17,0,zrB b2),(18,0,zrI f2),(15,0,.row 61 5 n (qau (ev))),(12,0,.row 3 1 mm (ziV (wh)))]
abbrev qE3 (k:Nat):TmL:=[(1,.pv (iV (k:Int))),(2,.pp 19 0)]
theorem qka (n2:¬ (2:Int)=0) (hin_x:0≤(k:Int)∧(k:Int)<(n:Int)) (he_x:ev[k]?=some x) (hin_y:0≤(j:Int)∧(j:Int)<(n:Int)) (he_y:ev[j]?=some y) (h0:decide ((k:Int)>0)=true) (hm1:iV (IntKind.i64.wrap ((k:Int)-1))=iV (q:Int)) (hm2:iV (IntKind.i64.wrap (Int.tdiv (q:Int) 2))=iV (j:Int)) (hl:Pure Tryz.prog 187 #[qaa x,qaa y] (.bool true)) (hsa:k<(ev).length) (hsb:j<((ev).set k y).length) (h2a:(((ev).set k y).set j x)[k]?=some y) (h2b:(((ev).set k y).set j x)[j]?=some x) (hwb:0≤y.i∧y.i<(mm:Int)) (hwbl:y.i.toNat<(wh).length) (hwa:0≤x.i∧x.i<(mm:Int)) (hwal:x.i.toNat<((wh).set y.i.toNat (k:Int)).length) {e:Exit} {tm2:TmL} {hp2:HpL}
 (r:Rl 5 19 154 0 32 20 ([(1,.pv (iV (j:Int))),(2,.pp 19 0)]) ([(19,0,.ls 16 u2.length),(19,1,.ls 17 b2.length),(19,2,.ls 18 f2.length),(19,3,.ls 15 n),(19,4,.ls 12 mm),(13,0,.ls 16 u2.length),(13,1,.ls 17 b2.length),(13,2,.ls 18 f2.length),(13,3,.ls 15 n),(13,4,.ls 12 mm),(7,0,.pv (.slice none 0 0)),(7,1,.pv (.slice none 0 0)),(7,2,.pv (.slice none 0 0)),(7,3,.pv (.slice none 0 0)),(7,4,.pv (.slice none 0 0)),(16,0,zrI u2),(17,0,zrB b2),(18,0,zrI f2),(15,0,.row 61 5 n (qau (((ev).set k y).set j x))),(12,0,.row 3 1 mm (ziV (((wh).set y.i.toNat (k:Int)).set x.i.toNat (j:Int))))]) e tm2 hp2):Rl 5 19 154 0 32 20 (qE3 k) (qHL b2 ev f2 mm n u2 wh) e tm2 hp2:=
 RunsL.next [] 300 [.t true,.r (qaa x),Re hm1,Re hm2,.r (qaa y),Rf hl,Re hm1,Re hm2,.k,.gh [(20,3)],.r (qaa y),.r (qaa x),.w (qau ((ev).set k y)),.w (qau (((ev).set k y).set j x)),.gh [(20,3),(20,4)],.r (iV (y.i)),.r (iV (x.i)),.w (ziV ((wh).set y.i.toNat (k:Int))),.w (ziV (((wh).set y.i.toNat (k:Int)).set x.i.toNat (j:Int))),Re hm1,Re hm2]
  (Ro (A9 h0 hin_x (qaF he_x) hm1 n2 hm2 hin_y (qaF he_y) hl (A9 hm1 n2 hm2 hin_y hin_x (qaF he_y) (qaF he_x) hin_x (El 15 n) (A9 (qdk (ev) k y hsa) (qbl (ev) k hsa) (El 15 n) hin_y (El 15 n) (qdk ((ev).set k y) j x hsb) (qbl ((ev).set k y) j hsb) (El 15 n) hin_x (A9 hin_y (qfy h2a) (qfy h2b) hwb (El 15 n) (El 12 mm) (qcB (wh) y.i.toNat (k:Int) hwbl) (qaQ (wh) y.i.toNat hwbl) (El 15 n) (A9 (El 12 mm) hwa (El 15 n) (El 12 mm) (qcB ((wh).set y.i.toNat (k:Int)) x.i.toNat (j:Int) hwal) (qaQ ((wh).set y.i.toNat (k:Int)) x.i.toNat hwal) (El 15 n) (El 12 mm) hm1 (A2 n2 hm2 tI))))))) r
abbrev qzz (b2:List Bool) (ev:List Ev) (f2:List Int) (mm:Nat) (n:Nat) (u2:List Int) (wh:List Int):HpL:=[(13,0,.ls 16 u2.length),(13,1,.ls 17 b2.length),(13,2,.ls 18 f2.length),(13,3,.ls 15 n),(13,4,.ls 12 mm),(7,0,.pv (.slice none 0 0)),(7,1,.pv (.slice none 0 0)),(7,2,.pv (.slice none 0 0)),(7,3,.pv (.slice none 0 0)),(7,4,.pv (.slice none 0 0)),(16,0,zrI u2),(17,0,zrB b2),(18,0,zrI f2),(15,0,.row 61 5 n (qau (ev))),(12,0,.row 3 1 mm (ziV (wh)))]
theorem qjQ (n2:¬ (2:Int)=0) (hin_x:Bd k n) (he_x:ev[k]?=some x) (hin_y:Bd j n) (he_y:ev[j]?=some y) (h0:Dt ((k:Int)>0)) (hm1:iV (IntKind.i64.wrap ((k:Int)-1))=iV (q:Int)) (hm2:iV (IntKind.i64.wrap (Int.tdiv (q:Int) 2))=iV (j:Int)) (hl:ya x y):Rl 5 19 154 0 32 20 (qE3 k) (qHL b2 ev f2 mm n u2 wh) (.exit 0) ([(1,.pv (iV (k:Int)))]) (qzz b2 ev f2 mm n u2 wh):=
 RunsL.stop [] 300 [.t true,.r (qaa x),Re hm1,Re hm2,.r (qaa y),Rf hl] (fun h=>by cases h)
  (Ro (A9 h0 hin_x (qaF he_x) hm1 n2 hm2 hin_y (qaF he_y) hl tI))
theorem qjg (h0:decide ((k:Int)>0)=false):Rl 5 19 154 0 32 20 (qE3 k) (qHL b2 ev f2 mm n u2 wh) (.exit 0) ([(1,.pv (iV (k:Int)))]) (qzz b2 ev f2 mm n u2 wh):=
 RunsL.stop [] 300 [.t false] (fun h=>by cases h)
  (Ro (Ai h0 tI))
abbrev qwp (b2:List Bool) (ev:List Ev) (f2:List Int) (mm:Nat) (n:Nat) (u2:List Int) (wh:List Int):HpL:=[(20,0,.ls 16 u2.length),(20,1,.ls 17 b2.length),(20,2,.ls 18 f2.length),(20,3,.ls 15 n),(20,4,.ls 12 mm),(13,0,.ls 16 u2.length),(13,1,.ls 17 b2.length),(13,2,.ls 18 f2.length),(13,3,.ls 15 n),(13,4,.ls 12 mm),(7,0,.pv (.slice none 0 0)),(7,1,.pv (.slice none 0 0)),(7,2,.pv (.slice none 0 0)),(7,3,.pv (.slice none 0 0)),(7,4,.pv (.slice none 0 0)),(16,0,zrI u2),(17,0,zrB b2),(18,0,zrI f2),(15,0,.row 61 5 n (qau (ev))),(12,0,.row 3 1 mm (ziV (wh)))]
abbrev qy2 (k:Nat):TmL:=[(1,.pv (iV (k:Int))),(2,.pp 20 0)]
theorem qkf (hq:iV (IntKind.i64.wrap (2*(k:Int)))=iV (q:Int)) (hq1:iV (IntKind.i64.wrap ((q:Int)+1))=iV (((q+1:Nat):Int))) (hge:decide (((q+1:Nat):Int)≥(n:Int))=true):Rl 5 20 153 0 52 21 (qy2 k) (qwp b2 ev f2 mm n u2 wh) (.ret) ([]) (qzz b2 ev f2 mm n u2 wh):=
 RunsL.stop [] 300 [Re hq,Re hq1,.t true] (fun h=>by cases h)
  (Ro (A3 hq hq1 hge tI))
abbrev qI1 (b2:List Bool) (ev:List Ev) (f2:List Int) (k:Nat) (m:Ev) (mm:Nat) (n:Nat) (q:Nat) (u2:List Int) (wh:List Int) (x:Ev):HpL:=[(20,0,.ls 16 u2.length),(20,1,.ls 17 b2.length),(20,2,.ls 18 f2.length),(20,3,.ls 15 n),(20,4,.ls 12 mm),(13,0,.ls 16 u2.length),(13,1,.ls 17 b2.length),(13,2,.ls 18 f2.length),(13,3,.ls 15 n),(13,4,.ls 12 mm),(7,0,.pv (.slice none 0 0)),(7,1,.pv (.slice none 0 0)),(7,2,.pv (.slice none 0 0)),(7,3,.pv (.slice none 0 0)),(7,4,.pv (.slice none 0 0)),(16,0,zrI u2),(17,0,zrB b2),(18,0,zrI f2),(15,0,.row 61 5 n (qau (((ev).set k m).set (q+1:Nat) x))),(12,0,.row 3 1 mm (ziV (((wh).set m.i.toNat (k:Int)).set x.i.toNat ((q+1:Nat):Int))))]
theorem qfK (hq:iV (IntKind.i64.wrap (2*(k:Int)))=iV (q:Int)) (hq1:iV (IntKind.i64.wrap ((q:Int)+1))=iV (((q+1:Nat):Int))) (hge:decide (((q+1:Nat):Int)≥(n:Int))=false) (hq2:iV (IntKind.i64.wrap (((q+1:Nat):Int)+1))=iV (((q+2:Nat):Int))) (h2:decide (((q+2:Nat):Int)<(n:Int))=false) (hin_m:0≤((q+1:Nat):Int)∧((q+1:Nat):Int)<(n:Int)) (he_m:ev[(q+1:Nat)]?=some m) (hin_x:0≤(k:Int)∧(k:Int)<(n:Int)) (he_x:ev[k]?=some x) (hl:Pure Tryz.prog 187 #[qaa m,qaa x] (.bool true)) (hsa:k<(ev).length) (hsb:(q+1:Nat)<((ev).set k m).length) (h2a:(((ev).set k m).set (q+1:Nat) x)[k]?=some m) (h2b:(((ev).set k m).set (q+1:Nat) x)[(q+1:Nat)]?=some x) (hwb:0≤m.i∧m.i<(mm:Int)) (hwbl:m.i.toNat<(wh).length) (hwa:0≤x.i∧x.i<(mm:Int)) (hwal:x.i.toNat<((wh).set m.i.toNat (k:Int)).length) {e:Exit} {tm2:TmL} {hp2:HpL}
 (r:Rl 5 20 153 0 52 21 ([(1,.pv (iV ((q+1:Nat):Int))),(2,.pp 20 0)]) (qI1 b2 ev f2 k m mm n q u2 wh x) e tm2 hp2):Rl 5 20 153 0 52 21 (qy2 k) (qwp b2 ev f2 mm n u2 wh) e tm2 hp2:=
 RunsL.next [] 300 [Re hq,Re hq1,.t false,.r (iV (((q+2:Nat):Int))),.t false,.r (qaa m),.r (qaa x),Rf hl,.k,.k,.gh [(21,3)],.r (qaa m),.r (qaa x),.w (qau ((ev).set k m)),.w (qau (((ev).set k m).set (q+1:Nat) x)),.gh [(21,3),(21,4)],.r (iV (m.i)),.r (iV (x.i)),.w (ziV ((wh).set m.i.toNat (k:Int))),.w (ziV (((wh).set m.i.toNat (k:Int)).set x.i.toNat ((q+1:Nat):Int)))]
  (Ro (A9 hq hq1 hge hq2 h2 hin_m (qaF he_m) hin_x (qaF he_x) (A9 hl hin_m hin_x (qaF he_m) (qaF he_x) hin_x (El 15 n) (qdk (ev) k m hsa) (qbl (ev) k hsa) (A9 (El 15 n) hin_m (El 15 n) (qdk ((ev).set k m) (q+1:Nat) x hsb) (qbl ((ev).set k m) (q+1:Nat) hsb) (El 15 n) hin_x hin_m (qfy h2a) (A9 (qfy h2b) hwb (El 15 n) (El 12 mm) (qcB (wh) m.i.toNat (k:Int) hwbl) (qaQ (wh) m.i.toNat hwbl) (El 15 n) (El 12 mm) hwa (A6 (El 15 n) (El 12 mm) (qcB ((wh).set m.i.toNat (k:Int)) x.i.toNat ((q+1:Nat):Int) hwal) (qaQ ((wh).set m.i.toNat (k:Int)) x.i.toNat hwal) (El 15 n) (El 12 mm) tI)))))) r
theorem qfn (hq:iV (IntKind.i64.wrap (2*(k:Int)))=iV (q:Int)) (hq1:iV (IntKind.i64.wrap ((q:Int)+1))=iV (((q+1:Nat):Int))) (hge:Df (((q+1:Nat):Int)≥(n:Int))) (hq2:iV (IntKind.i64.wrap (((q+1:Nat):Int)+1))=iV (((q+2:Nat):Int))) (h2:Df (((q+2:Nat):Int)<(n:Int))) (hin_m:0≤((q+1:Nat):Int)∧((q+1:Nat):Int)<(n:Int)) (he_m:ev[(q+1:Nat)]?=some m) (hin_x:Bd k n) (he_x:ev[k]?=some x) (hl:ya m x):Rl 5 20 153 0 52 21 (qy2 k) (qwp b2 ev f2 mm n u2 wh) (.ret) ([]) (qzz b2 ev f2 mm n u2 wh):=
 RunsL.stop [] 300 [Re hq,Re hq1,.t false,.r (iV (((q+2:Nat):Int))),.t false,.r (qaa m),.r (qaa x),Rf hl,.k] (fun h=>by cases h)
  (Ro (A9 hq hq1 hge hq2 h2 hin_m (qaF he_m) hin_x (qaF he_x) (Ai hl tI)))
theorem qe1 (hq:iV (IntKind.i64.wrap (2*(k:Int)))=iV (q:Int)) (hq1:iV (IntKind.i64.wrap ((q:Int)+1))=iV (((q+1:Nat):Int))) (hge:decide (((q+1:Nat):Int)≥(n:Int))=false) (hq2:iV (IntKind.i64.wrap (((q+1:Nat):Int)+1))=iV (((q+2:Nat):Int))) (h2:decide (((q+2:Nat):Int)<(n:Int))=true) (hin_y:0≤((q+2:Nat):Int)∧((q+2:Nat):Int)<(n:Int)) (he_y:ev[(q+2:Nat)]?=some y) (hin_m:0≤((q+1:Nat):Int)∧((q+1:Nat):Int)<(n:Int)) (he_m:ev[(q+1:Nat)]?=some m) (hl2:Pure Tryz.prog 187 #[qaa y,qaa m] (.bool false)) (hin_x:0≤(k:Int)∧(k:Int)<(n:Int)) (he_x:ev[k]?=some x) (hl:Pure Tryz.prog 187 #[qaa m,qaa x] (.bool true)) (hsa:k<(ev).length) (hsb:(q+1:Nat)<((ev).set k m).length) (h2a:(((ev).set k m).set (q+1:Nat) x)[k]?=some m) (h2b:(((ev).set k m).set (q+1:Nat) x)[(q+1:Nat)]?=some x) (hwb:0≤m.i∧m.i<(mm:Int)) (hwbl:m.i.toNat<(wh).length) (hwa:0≤x.i∧x.i<(mm:Int)) (hwal:x.i.toNat<((wh).set m.i.toNat (k:Int)).length) {e:Exit} {tm2:TmL} {hp2:HpL}
 (r:Rl 5 20 153 0 52 21 ([(1,.pv (iV ((q+1:Nat):Int))),(2,.pp 20 0)]) (qI1 b2 ev f2 k m mm n q u2 wh x) e tm2 hp2):Rl 5 20 153 0 52 21 (qy2 k) (qwp b2 ev f2 mm n u2 wh) e tm2 hp2:=
 RunsL.next [] 300 [Re hq,Re hq1,.t false,.r (iV (((q+2:Nat):Int))),.t true,.r (iV (((q+2:Nat):Int))),.r (qaa y),.r (qaa m),Rf hl2,.r (qaa m),.r (qaa x),Rf hl,.k,.k,.gh [(21,3)],.r (qaa m),.r (qaa x),.w (qau ((ev).set k m)),.w (qau (((ev).set k m).set (q+1:Nat) x)),.gh [(21,3),(21,4)],.r (iV (m.i)),.r (iV (x.i)),.w (ziV ((wh).set m.i.toNat (k:Int))),.w (ziV (((wh).set m.i.toNat (k:Int)).set x.i.toNat ((q+1:Nat):Int)))]
  (Ro (A9 hq hq1 hge hq2 h2 hq2 hin_y (qaF he_y) hin_m (A9 (qaF he_m) hl2 hin_m (qaF he_m) hin_x (qaF he_x) hl hin_m hin_x (A9 (qaF he_m) (qaF he_x) hin_x (El 15 n) (qdk (ev) k m hsa) (qbl (ev) k hsa) (El 15 n) hin_m (El 15 n) (A9 (qdk ((ev).set k m) (q+1:Nat) x hsb) (qbl ((ev).set k m) (q+1:Nat) hsb) (El 15 n) hin_x hin_m (qfy h2a) (qfy h2b) hwb (El 15 n) (A9 (El 12 mm) (qcB (wh) m.i.toNat (k:Int) hwbl) (qaQ (wh) m.i.toNat hwbl) (El 15 n) (El 12 mm) hwa (El 15 n) (El 12 mm) (qcB ((wh).set m.i.toNat (k:Int)) x.i.toNat ((q+1:Nat):Int) hwal) (A3 (qaQ ((wh).set m.i.toNat (k:Int)) x.i.toNat hwal) (El 15 n) (El 12 mm) tI))))))) r
theorem qe3 (hq:iV (IntKind.i64.wrap (2*(k:Int)))=iV (q:Int)) (hq1:iV (IntKind.i64.wrap ((q:Int)+1))=iV (((q+1:Nat):Int))) (hge:Df (((q+1:Nat):Int)≥(n:Int))) (hq2:iV (IntKind.i64.wrap (((q+1:Nat):Int)+1))=iV (((q+2:Nat):Int))) (h2:decide (((q+2:Nat):Int)<(n:Int))=true) (hin_y:0≤((q+2:Nat):Int)∧((q+2:Nat):Int)<(n:Int)) (he_y:ev[(q+2:Nat)]?=some y) (hin_m:0≤((q+1:Nat):Int)∧((q+1:Nat):Int)<(n:Int)) (he_m:ev[(q+1:Nat)]?=some m) (hl2:ya y m) (hin_x:Bd k n) (he_x:ev[k]?=some x) (hl:ya m x):Rl 5 20 153 0 52 21 (qy2 k) (qwp b2 ev f2 mm n u2 wh) (.ret) ([]) (qzz b2 ev f2 mm n u2 wh):=
 RunsL.stop [] 300 [Re hq,Re hq1,.t false,.r (iV (((q+2:Nat):Int))),.t true,.r (iV (((q+2:Nat):Int))),.r (qaa y),.r (qaa m),Rf hl2,.r (qaa m),.r (qaa x),Rf hl2,.k] (fun h=>by cases h)
  (Ro (A9 hq hq1 hge hq2 h2 hq2 hin_y (qaF he_y) hin_m (A7 (qaF he_m) hl2 hin_m (qaF he_m) hin_x (qaF he_x) hl tI)))
theorem qen (hq:iV (IntKind.i64.wrap (2*(k:Int)))=iV (q:Int)) (hq1:iV (IntKind.i64.wrap ((q:Int)+1))=iV (((q+1:Nat):Int))) (hge:decide (((q+1:Nat):Int)≥(n:Int))=false) (hq2:iV (IntKind.i64.wrap (((q+1:Nat):Int)+1))=iV (((q+2:Nat):Int))) (h2:decide (((q+2:Nat):Int)<(n:Int))=true) (hin_y:0≤((q+2:Nat):Int)∧((q+2:Nat):Int)<(n:Int)) (he_y:ev[(q+2:Nat)]?=some y) (hin_m:0≤((q+1:Nat):Int)∧((q+1:Nat):Int)<(n:Int)) (he_m:ev[(q+1:Nat)]?=some m) (hl2:Pure Tryz.prog 187 #[qaa y,qaa m] (.bool true)) (hin_x:0≤(k:Int)∧(k:Int)<(n:Int)) (he_x:ev[k]?=some x) (hl:Pure Tryz.prog 187 #[qaa y,qaa x] (.bool true)) (hsa:k<(ev).length) (hsb:(q+2:Nat)<((ev).set k y).length) (h2a:(((ev).set k y).set (q+2:Nat) x)[k]?=some y) (h2b:(((ev).set k y).set (q+2:Nat) x)[(q+2:Nat)]?=some x) (hwb:0≤y.i∧y.i<(mm:Int)) (hwbl:y.i.toNat<(wh).length) (hwa:0≤x.i∧x.i<(mm:Int)) (hwal:x.i.toNat<((wh).set y.i.toNat (k:Int)).length) {e:Exit} {tm2:TmL} {hp2:HpL}
 (r:Rl 5 20 153 0 52 21 ([(1,.pv (iV ((q+2:Nat):Int))),(2,.pp 20 0)]) ([(20,0,.ls 16 u2.length),(20,1,.ls 17 b2.length),(20,2,.ls 18 f2.length),(20,3,.ls 15 n),(20,4,.ls 12 mm),(13,0,.ls 16 u2.length),(13,1,.ls 17 b2.length),(13,2,.ls 18 f2.length),(13,3,.ls 15 n),(13,4,.ls 12 mm),(7,0,.pv (.slice none 0 0)),(7,1,.pv (.slice none 0 0)),(7,2,.pv (.slice none 0 0)),(7,3,.pv (.slice none 0 0)),(7,4,.pv (.slice none 0 0)),(16,0,zrI u2),(17,0,zrB b2),(18,0,zrI f2),(15,0,.row 61 5 n (qau (((ev).set k y).set (q+2:Nat) x))),(12,0,.row 3 1 mm (ziV (((wh).set y.i.toNat (k:Int)).set x.i.toNat ((q+2:Nat):Int))))]) e tm2 hp2):Rl 5 20 153 0 52 21 (qy2 k) (qwp b2 ev f2 mm n u2 wh) e tm2 hp2:=
 RunsL.next [] 300 [Re hq,Re hq1,.t false,.r (iV (((q+2:Nat):Int))),.t true,.r (iV (((q+2:Nat):Int))),.r (qaa y),.r (qaa m),Rf hl2,.r (iV (((q+2:Nat):Int))),.r (qaa y),.r (qaa x),Rf hl2,.k,.k,.gh [(21,3)],.r (qaa y),.r (qaa x),.w (qau ((ev).set k y)),.w (qau (((ev).set k y).set (q+2:Nat) x)),.gh [(21,3),(21,4)],.r (iV (y.i)),.r (iV (x.i)),.w (ziV ((wh).set y.i.toNat (k:Int))),.w (ziV (((wh).set y.i.toNat (k:Int)).set x.i.toNat ((q+2:Nat):Int)))]
  (Ro (A9 hq hq1 hge hq2 h2 hq2 hin_y (qaF he_y) hin_m (A9 (qaF he_m) hl2 hq2 hin_y (qaF he_y) hin_x (qaF he_x) hl hin_y (A9 hin_x (qaF he_y) (qaF he_x) hin_x (El 15 n) (qdk (ev) k y hsa) (qbl (ev) k hsa) (El 15 n) hin_y (A9 (El 15 n) (qdk ((ev).set k y) (q+2:Nat) x hsb) (qbl ((ev).set k y) (q+2:Nat) hsb) (El 15 n) hin_x hin_y (qfy h2a) (qfy h2b) hwb (A9 (El 15 n) (El 12 mm) (qcB (wh) y.i.toNat (k:Int) hwbl) (qaQ (wh) y.i.toNat hwbl) (El 15 n) (El 12 mm) hwa (El 15 n) (El 12 mm) (A4 (qcB ((wh).set y.i.toNat (k:Int)) x.i.toNat ((q+2:Nat):Int) hwal) (qaQ ((wh).set y.i.toNat (k:Int)) x.i.toNat hwal) (El 15 n) (El 12 mm) tI))))))) r
theorem qeb (hq:iV (IntKind.i64.wrap (2*(k:Int)))=iV (q:Int)) (hq1:iV (IntKind.i64.wrap ((q:Int)+1))=iV (((q+1:Nat):Int))) (hge:Df (((q+1:Nat):Int)≥(n:Int))) (hq2:iV (IntKind.i64.wrap (((q+1:Nat):Int)+1))=iV (((q+2:Nat):Int))) (h2:decide (((q+2:Nat):Int)<(n:Int))=true) (hin_y:0≤((q+2:Nat):Int)∧((q+2:Nat):Int)<(n:Int)) (he_y:ev[(q+2:Nat)]?=some y) (hin_m:0≤((q+1:Nat):Int)∧((q+1:Nat):Int)<(n:Int)) (he_m:ev[(q+1:Nat)]?=some m) (hl2:Pure Tryz.prog 187 #[qaa y,qaa m] (.bool true)) (hin_x:Bd k n) (he_x:ev[k]?=some x) (hl:ya y x):Rl 5 20 153 0 52 21 (qy2 k) (qwp b2 ev f2 mm n u2 wh) (.ret) ([]) (qzz b2 ev f2 mm n u2 wh):=
 RunsL.stop [] 300 [Re hq,Re hq1,.t false,.r (iV (((q+2:Nat):Int))),.t true,.r (iV (((q+2:Nat):Int))),.r (qaa y),.r (qaa m),Rf hl2,.r (iV (((q+2:Nat):Int))),.r (qaa y),.r (qaa x),Rf hl,.k] (fun h=>by cases h)
  (Ro (A9 hq hq1 hge hq2 h2 hq2 hin_y (qaF he_y) hin_m (A8 (qaF he_m) hl2 hq2 hin_y (qaF he_y) hin_x (qaF he_x) hl tI)))
theorem qo4 (g:List Ev) (k:Nat):some (SV.row 61 5 k ((qau g).take (k*5)))=some (SV.row 61 5 k (qau (g.take k))):=by rw[qfr]
abbrev qJa (b:List Bool) (ev:List Ev) (fr:List Int) (u:List Int) (wh:List Int):Prop:=Fn 72 5 [agA u b fr ev wh] [(0,0,zrI u),(1,0,zrB b),(2,0,zrI fr),(3,0,qap ev),(4,0,zrI wh)] (.ag [.ls 5 u.length,.ls 6 b.length,.ls 7 fr.length,.ls 8 ev.length,.ls 9 wh.length]) 5 [(5,0,zrI u),(6,0,zrB b),(7,0,zrI fr),(8,0,qap ev),(9,0,zrI wh)]
theorem qv5 (htw:qJa b ev fr u wh) (hiw:0≤hi∧hi<(wh.length:Int)) (hwk:wh[hi.toNat]?=some (k:Int)) (hla:iV (IntKind.i64.wrap ((ev.length:Int)-1))=iV (la:Int)) (hne:(!((k:Int)==(la:Int)))=false) (hll:la≤ev.length) (hws:hi.toNat<(wh).length) (hg:Fn 152 3 [.ag [.ls 0 u.length,.ls 1 b.length,.ls 2 fr.length],.pv (qaK hi hw)] [(0,0,zrI u),(1,0,zrB b),(2,0,zrI fr)] (.ag [.ls 3 u2.length,.ls 4 b2.length,.ls 5 f2.length]) 3 [(3,0,zrI u2),(4,0,zrB b2),(5,0,zrI f2)]) :
 Fn 85 5 [agA u b fr ev wh,.pv (qaK hi hw)] [(0,0,zrI u),(1,0,zrB b),(2,0,zrI fr),(3,0,qap ev),(4,0,zrI wh)] (.ag [.ls 5 u2.length,.ls 6 b2.length,.ls 7 f2.length,.ls 8 la,.ls 9 wh.length]) 5 [(5,0,zrI u2),(6,0,zrB b2),(7,0,zrI f2),(8,0,.row 61 5 la (qau (ev.take la))),(9,0,.row 3 1 wh.length (ziV (wh.set hi.toNat (-1))))]:=
 Fz [(5,15),(6,16),(7,17),(8,14),(9,12)] [Cf htw [0,1,2,3,4],.r (iV (k:Int)),Re hla,.t false,.w [],.w (ziV ((wh).set hi.toNat (-1))),Cf hg [8,9,10],.t false]
  (A5 (Er (zrI u2)) (Er (zrB b2)) (Er (zrI f2)) (qo4 ev la) (Er (SV.row 3 1 wh.length (ziV (wh.set hi.toNat (-1))))) tI) (Co htw [0,1,2,3,4] 8 (A9 hiw (qc3 hwk) hla hne (Int.natCast_nonneg la) hll hiw (qcB (wh) hi.toNat (-1) hws) (qaQ (wh) hi.toNat hws) (Co hg [8,9,10] 15 (Ai hne tI))))
theorem qwL {wh3 wh4:List Int} {ev3 ev4:List Ev} {xl:Ev} {n mm p:Nat} (htw:qJa b ev fr u wh) (hiw:0≤hi∧hi<(wh.length:Int)) (hwk:wh[hi.toNat]?=some (k:Int)) (hla:iV (IntKind.i64.wrap ((ev.length:Int)-1))=iV (la:Int)) (hne:(!((k:Int)==(la:Int)))=true) (hin_x:0≤(k:Int)∧(k:Int)<(ev.length:Int)) (he_x:ev[k]?=some x) (hin_xl:0≤(la:Int)∧(la:Int)<(ev.length:Int)) (he_xl:ev[la]?=some xl) (hsa:k<(ev).length) (hsb:la<((ev).set k xl).length) (h2a:(((ev).set k xl).set la x)[k]?=some xl) (h2b:(((ev).set k xl).set la x)[la]?=some x) (hwb:0≤xl.i∧xl.i<(wh.length:Int)) (hwbl:xl.i.toNat<(wh).length) (hwa:0≤x.i∧x.i<(wh.length:Int)) (hwal:x.i.toNat<((wh).set xl.i.toNat (k:Int)).length) (hll:la≤ev.length) (hws:hi.toNat<(((wh).set xl.i.toNat (k:Int)).set x.i.toNat (la:Int)).length) (hg:Fn 152 3 [.ag [.ls 0 u.length,.ls 1 b.length,.ls 2 fr.length],.pv (qaK hi hw)] [(0,0,zrI u),(1,0,zrB b),(2,0,zrI fr)] (.ag [.ls 3 u2.length,.ls 4 b2.length,.ls 5 f2.length]) 3 [(3,0,zrI u2),(4,0,zrB b2),(5,0,zrI f2)]) (r0:Rl 5 19 154 0 32 20 (qE3 k) ([(19,0,.ls 16 u2.length),(19,1,.ls 17 b2.length),(19,2,.ls 18 f2.length),(19,3,.ls 15 la),(19,4,.ls 12 wh.length),(13,0,.ls 16 u2.length),(13,1,.ls 17 b2.length),(13,2,.ls 18 f2.length),(13,3,.ls 15 la),(13,4,.ls 12 wh.length),(7,0,.pv (.slice none 0 0)),(7,1,.pv (.slice none 0 0)),(7,2,.pv (.slice none 0 0)),(7,3,.pv (.slice none 0 0)),(7,4,.pv (.slice none 0 0)),(16,0,zrI u2),(17,0,zrB b2),(18,0,zrI f2),(15,0,.row 61 5 la (qau ((((ev).set k xl).set la x).take la))),(12,0,.row 3 1 wh.length (ziV ((((wh).set xl.i.toNat (k:Int)).set x.i.toNat (la:Int)).set hi.toNat (-1))))]) (.exit 0) ([(1,.pv (iV (p:Int)))]) ([(13,0,.ls 16 u2.length),(13,1,.ls 17 b2.length),(13,2,.ls 18 f2.length),(13,3,.ls 15 la),(13,4,.ls 12 wh.length),(7,0,.pv (.slice none 0 0)),(7,1,.pv (.slice none 0 0)),(7,2,.pv (.slice none 0 0)),(7,3,.pv (.slice none 0 0)),(7,4,.pv (.slice none 0 0)),(16,0,zrI u2),(17,0,zrB b2),(18,0,zrI f2),(15,0,.row 61 5 la (qau (ev3))),(12,0,.row 3 1 wh.length (ziV (wh3)))])) (r1:Rl 5 20 153 0 52 21 ([(1,.pv (iV (p:Int))),(2,.pp 20 0)]) ([(20,0,.ls 16 u2.length),(20,1,.ls 17 b2.length),(20,2,.ls 18 f2.length),(20,3,.ls 15 la),(20,4,.ls 12 wh.length),(13,0,.ls 16 u2.length),(13,1,.ls 17 b2.length),(13,2,.ls 18 f2.length),(13,3,.ls 15 la),(13,4,.ls 12 wh.length),(7,0,.pv (.slice none 0 0)),(7,1,.pv (.slice none 0 0)),(7,2,.pv (.slice none 0 0)),(7,3,.pv (.slice none 0 0)),(7,4,.pv (.slice none 0 0)),(16,0,zrI u2),(17,0,zrB b2),(18,0,zrI f2),(15,0,.row 61 5 la (qau (ev3))),(12,0,.row 3 1 wh.length (ziV (wh3)))]) (.ret) ([]) ([(13,0,.ls 16 u2.length),(13,1,.ls 17 b2.length),(13,2,.ls 18 f2.length),(13,3,.ls 15 la),(13,4,.ls 12 wh.length),(7,0,.pv (.slice none 0 0)),(7,1,.pv (.slice none 0 0)),(7,2,.pv (.slice none 0 0)),(7,3,.pv (.slice none 0 0)),(7,4,.pv (.slice none 0 0)),(16,0,zrI u2),(17,0,zrB b2),(18,0,zrI f2),(15,0,.row 61 5 la (qau (ev4))),(12,0,.row 3 1 wh.length (ziV (wh4)))])) :
 Fn 85 5 [agA u b fr ev wh,.pv (qaK hi hw)] [(0,0,zrI u),(1,0,zrB b),(2,0,zrI fr),(3,0,qap ev),(4,0,zrI wh)] (.ag [.ls 5 u2.length,.ls 6 b2.length,.ls 7 f2.length,.ls 8 la,.ls 9 wh.length]) 5 [(5,0,zrI u2),(6,0,zrB b2),(7,0,zrI f2),(8,0,.row 61 5 la (qau (ev4))),(9,0,.row 3 1 wh.length (ziV (wh4)))]:=
 qeh 400 [(5,16),(6,17),(7,18),(8,15),(9,12)] [Cf htw [0,1,2,3,4],.r (iV (k:Int)),Re hla,.t true,.k,.gh [(14,3)],.r (qaa xl),.r (qaa x),.w (qau ((ev).set k xl)),.w (qau (((ev).set k xl).set la x)),.gh [(14,3),(14,4)],.r (iV (xl.i)),.r (iV (x.i)),.w (ziV ((wh).set xl.i.toNat (k:Int))),.w (ziV (((wh).set xl.i.toNat (k:Int)).set x.i.toNat (la:Int))),.w [],.w (ziV ((((wh).set xl.i.toNat (k:Int)).set x.i.toNat (la:Int)).set hi.toNat (-1))),Cf hg [8,9,10],.t true,.gh [(13,0),(13,1),(13,2),(13,3),(13,4)],.k,Lf r0,.k,Lf r1]
  (qaG (qaM [(5,16),(6,17),(7,18),(8,15),(9,12)]) [(5,0,zrI u2),(6,0,zrB b2),(7,0,zrI f2),(8,0,.row 61 5 la (qau (ev4))),(9,0,.row 3 1 wh.length (ziV (wh4)))]) (Co htw [0,1,2,3,4] 8 (A9 hiw (qc3 hwk) hla hne hin_xl hin_x (qaF he_xl) (qaF he_x) hin_x (A9 (El 11 ev.length) (qdk (ev) k xl hsa) (qbl (ev) k hsa) (El 11 ev.length) hin_xl (El 11 ev.length) (qdk ((ev).set k xl) la x hsb) (qbl ((ev).set k xl) la hsb) (El 11 ev.length) (A9 hin_x hin_xl (qfy h2a) (qfy h2b) hwb (El 11 ev.length) (El 12 wh.length) (qcB (wh) xl.i.toNat (k:Int) hwbl) (qaQ (wh) xl.i.toNat hwbl) (A9 (El 11 ev.length) (El 12 wh.length) hwa (El 11 ev.length) (El 12 wh.length) (qcB ((wh).set xl.i.toNat (k:Int)) x.i.toNat (la:Int) hwal) (qaQ ((wh).set xl.i.toNat (k:Int)) x.i.toNat hwal) (El 11 ev.length) (El 12 wh.length) (A5 (Int.natCast_nonneg la) hll hiw (qcB (((wh).set xl.i.toNat (k:Int)).set x.i.toNat (la:Int)) hi.toNat (-1) hws) (qaQ (((wh).set xl.i.toNat (k:Int)).set x.i.toNat (la:Int)) hi.toNat hws) (Co hg [8,9,10] 16 (A9 hne (El 16 u2.length) (El 17 b2.length) (El 18 f2.length) (El 15 la) (El 12 wh.length) (Lt r0 []) (Ai (El 16 u2.length) (Ai (El 17 b2.length) (Ai (El 18 f2.length) (Ai (El 15 la) (Ai (El 12 wh.length) (Ai (El 16 u2.length) (Ai (El 17 b2.length) (Ai (El 18 f2.length) (Ai (El 15 la) (Ai (El 12 wh.length) (Ai (Er (SV.pv (.slice none 0 0))) (Ai (Er (SV.pv (.slice none 0 0))) (Ai (Er (SV.pv (.slice none 0 0))) (Ai (Er (SV.pv (.slice none 0 0))) (Ai (Er (SV.pv (.slice none 0 0))) (Ai (Er (zrI u2)) (Ai (Er (zrB b2)) (Ai (Er (zrI f2)) (Ai (qo4 (((ev).set k xl).set la x) la) (Ai (Er (SV.row 3 1 wh.length (ziV ((((wh).set xl.i.toNat (k:Int)).set x.i.toNat (la:Int)).set hi.toNat (-1))))) tI)))))))))))))))))))) r0 (A5 (El 16 u2.length) (El 17 b2.length) (El 18 f2.length) (El 15 la) (El 12 wh.length) (Lo r1 [] (A5 (El 16 u2.length) (El 17 b2.length) (El 18 f2.length) (El 15 la) (El 12 wh.length) tI))))))))))) (by kernel_rfl)
end Go.Proofs.YtkckcgpmnipnaaaGreat

namespace Go.Proofs.YtkckcgpmnipnaaaGreat
set_option maxRecDepth 100000
open Go.RowKit
theorem qJt {f:FuncId} {y:Int} (h:Fn f 0 [] [] (.pv (.agg #[iV y,.slice none 0 0])) 0 []):Fn f 0 [] [] (.ag [.pv (iV y),.ls 0 0]) 1 [(0,0,qak [])]:=by
 intro w β us hH hd hi
 refine (h w β us hH hd hi).mono fun e w' ⟨v,β',he,hle,hx,hh,hd'⟩=>?_
 cases hx;have hd0:=hd' 0 (by omega);have hle0:β'.le (β'.setG 0 (.slice none 0 0)):=Bl.le_setG hd0.1 hd0.2;have ho:w'.ownsRow w.heap.size 171 3 (.slice none 0 0) 0 []:=⟨rfl,Or.inl ⟨rfl,rfl⟩⟩
 have look:∀ {b o:Nat} {s t:SV},qaj [(0,0,s)] b o=some t→b=0∧o=0∧t=s:=by
  intro b o s t h;rw[qao] at h;split at h
  ·rename_i e;cases h;exact⟨e.1.symm,e.2.symm,rfl⟩
  ·cases h
 refine⟨_,β'.setG 0 (.slice none 0 0),he,Bl.le_trans hle hle0,⟨[iV y,.slice none 0 0],⟨rfl,⟨Bl.setG_same _ _ _,none,0,rfl⟩,tI⟩,rfl⟩,?_,fun b hb=>⟨(hd' b (by omega)).1,by unfold Bl.setG;simp only[if_neg (show b≠0 by omega)];exact (hd' b (by omega)).2⟩⟩;refine⟨hh.gr,hh.live,hh.inj,hh.new,fun c r hc=>?_,fun c o s hs hsr=>?_,fun c o e es n xs hs=>?_,fun c o e es n xs c' o' e' es' n' xs' u v hs hs' h1 h2 hne=>?_,fun c o xs hs=>?_⟩
 ·have hc':β' c=some r:=hc
  have:c≠0:=fun e=>by subst e;rw[hd0.1] at hc';cases hc'
  show (if c=0 then _ else β'.g c)=none
  rw[if_neg this];exact hh.sep c r hc'
 ·obtain⟨_,_,rfl⟩:=look hs;cases hsr
 ·obtain⟨rfl,_,e1⟩:=look hs;cases e1;exact⟨_,Bl.setG_same _ _ _,qkk ho,(fun v hv=>by cases hv),fun h=>by omega,fun _=>ho,fun _ c r hc hu=>by cases hu⟩
 ·exact (hne ((look hs).1.trans (look hs').1.symm)).elim
 ·obtain⟨_,_,e1⟩:=look hs;cases e1
theorem qjX {f:FuncId} {v:Value} (h:Pure Tryz.prog f #[] v):Fn f 0 [] [] (.pv v) 0 []:=by
 intro w β us hH hd hi
 match us,hi with
 | [],_=>
  refine (h w).mono fun e w' ⟨he,hg⟩=>⟨v,β,he,Bl.le_refl β,rfl,hH.gr_mono hg,hd⟩
theorem qj9:Fn 104 0 [] [] (.ag [.pv (iV 0),.ls 0 0]) 1 [(0,0,qak [])]:=qJt (qjX qJE)
theorem V8.none {x:Int} (h:0≤x∧x≤1000000):V8 x []:=⟨by simp,by simp,fun k p q hp=>by simp at hp,by simp,by simp,h,fun i k p q _ hp=>by simp at hp⟩
theorem qdf {l:List Pt} {r p:Pt} {k:Nat} (h:(l++[r])[k]?=some p):l[k]?=some p∨(k=l.length∧p=r):=by
 rcases Nat.lt_or_ge k l.length with h1 | h1
 ·rw[List.getElem?_append_left h1] at h;exact Or.inl h
 ·have:=qan h
  have e:k=l.length:=by simp at this;omega
  subst e;simp at h;exact Or.inr ⟨rfl,h.symm⟩
theorem V8.add {x a b:Int} {l:List Pt} (h:V8 x l) (hc:qby a b=true) (hh:qd1 l a b=false) (hn:l.length<200) (hx:x<1000000):V8 (x+1) (l++[Pt.mk x a b]) where
 len:=by simp;omega
 ok:=fun p hp=>by
  rcases List.mem_append.1 hp with hp | hp
  ·exact h.ok p hp
  ·simp at hp;subst hp;exact hc
 up:=fun k p q hp hq=>by
  rcases qdf hq with hq | ⟨e,rfl⟩
  ·rcases qdf hp with hp | ⟨e,_⟩
   ·exact h.up k p q hp hq
   ·have:=qan hq;omega
  ·rcases qdf hp with hp | ⟨e',_⟩
   ·exact h.hi p (List.mem_of_getElem? hp)
   ·omega
 lo:=fun p hp=>by
  rcases List.mem_append.1 hp with hp | hp
  ·exact h.lo p hp
  ·simp at hp;subst hp;exact h.nx.1
 hi:=fun p hp=>by
  rcases List.mem_append.1 hp with hp | hp
  ·have:=h.hi p hp;omega
  ·simp at hp;subst hp;show x<x+1;omega
 nx:=by have:=h.nx;omega
 dis:=fun i k p q hik hp hq=>by
  rcases qdf hq with hq | ⟨e,rfl⟩
  ·rcases qdf hp with hp | ⟨e,_⟩
   ·exact h.dis i k p q hik hp hq
   ·have:=qan hq;omega
  ·rcases qdf hp with hp | ⟨e',_⟩
   ·intro he;have:qd1 l a b=true:=qfl.2 ⟨p,List.mem_of_getElem? hp,he⟩;rw[hh] at this;cases this
   ·omega
theorem qhv {l:List Pt} {k i:Nat} {p:Pt} (h:(l.take k++l.drop (k+1))[i]?=some p):∃ j,l[j]?=some p∧j≠k∧(i<k∧j=i∨k≤i∧j=i+1):=by
 rcases Nat.lt_or_ge i (l.take k).length with h1 | h1
 ·rw[List.getElem?_append_left h1,List.getElem?_take] at h;split at h
  ·rename_i hik;exact⟨i,h,by omega,Or.inl ⟨hik,rfl⟩⟩
  ·cases h
 ·rw[List.getElem?_append_right h1,List.getElem?_drop] at h;have hl:=qan h;rw[List.length_take] at h1 hl h
  have hk:k≤i:=by omega
  refine⟨i+1,?_,by omega,Or.inr ⟨hk,rfl⟩⟩;rw[show k+1+(i-min k l.length)=i+1 by omega] at h;exact h
theorem V8.cut {x:Int} {l:List Pt} (h:V8 x l) (k:Nat):V8 x (l.take k++l.drop (k+1)):=by
 have hm:∀ p∈l.take k++l.drop (k+1),p∈l:=fun p hp=>by
  rcases List.mem_append.1 hp with hp | hp
  ·exact List.mem_of_mem_take hp
  ·exact List.mem_of_mem_drop hp
 refine⟨?_,fun p hp=>h.ok p (hm p hp),fun i p q hp hq=>?_,fun p hp=>h.lo p (hm p hp),fun p hp=>h.hi p (hm p hp),h.nx,fun i j p q hij hp hq=>?_⟩
 ·have:=h.len;simp;omega
 ·obtain⟨i1,h1,_,c1⟩:=qhv hp;obtain⟨j1,h2,_,c2⟩:=qhv hq;exact h.up.mono (by omega) h1 h2
 ·obtain⟨i1,h1,_,c1⟩:=qhv hp;obtain⟨j1,h2,_,c2⟩:=qhv hq;exact h.dis i1 j1 p q (by omega) h1 h2
end Go.Proofs.YtkckcgpmnipnaaaGreat
