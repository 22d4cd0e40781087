/-
  Joined: Lf, Ea, Eh0, En, Eb, Ee. Conditions: none.
-/
import Derived.Test.YtkckcgpmnipnaaaGreatW42
import Derived.Test.YtkckcgpmnipnaaaGreatW21
import Derived.Test.YtkckcgpmnipnaaaGreatW41
import Derived.Test.YtkckcgpmnipnaaaGreatW29
import Derived.Test.YtkckcgpmnipnaaaGreatW28
import Derived.Test.YtkckcgpmnipnaaaGreatW25
namespace Go.Proofs.YtkckcgpmnipnaaaGreat
set_option maxRecDepth 100000
open Go.RowKit
theorem qoD (m:List Pt) (p:Pt):some (SV.row 134 3 (m.length+1) (qa3 m++[iV p.id,iV p.a,iV p.b]))=some (qaP (m++[p])):=by rw[qg3,qaP,List.length_append];rfl
theorem qER (c o:Ck) (x2 n hi hw:Int) (l2:List Pt):SV.tu [.ag [.pv (iV c.tn),.pv (iV c.td),.ls 13 c.s.length,.pv (iV x2),.ls 11 l2.length,.ls 23 o.u.length,.ls 24 o.b.length,.ls 25 o.fr.length,.ls 26 o.ev.length,.ls 27 o.wh.length,.ls 31 (c.d.length+1)],.one (.pv (iV n)),.one (.pv (iV 0))]=(SV.tu [qrc { c with x:=x2,l:=l2,u:=o.u,b:=o.b,fr:=o.fr,ev:=o.ev,wh:=o.wh,d:=c.d++[(Pt.mk n hi hw)] },.one (.pv (iV n)),.one (.pv (iV 0))]).ren (qaK [(8,13),(9,11),(10,23),(11,24),(12,25),(13,26),(14,27),(15,31)]):=by
 rw[show c.d.length+1=(c.d++[(Pt.mk n hi hw)]).length by rw[List.length_append];rfl];rfl
theorem qnW {c:Ck} {a b e:Int} (ha:Fn 199 1 [qaS 0 c.x c.l,.pv (qah a b)] [(0,0,qam c.l)] (.pv (.tuple #[.agg #[iV 0,.slice none 0 0],iV 0,iV e])) 0 []) (he:(e !=0)=true) :
 Fn 147 8 [qaz c,.pv (qah a b)] (qaC c) (.pv (.tuple #[qiC,iV 0,iV e])) 0 []:=
 Fz [] [Cf ha [1],.t true]
  tI (Co ha [1] 11 (Ai he tI))
abbrev qGB (a:Int) (b:Int) (c:Ck) (l2:List Pt) (n:Int) (x2:Int):Prop:=Fn 199 1 [qaS 0 c.x c.l,.pv (qah a b)] [(0,0,qam c.l)] (.tu [.ag [.pv (iV x2),.ls 1 l2.length],.one (.pv (iV n)),.one (.pv (iV 0))]) 1 [(1,0,qam l2)]
theorem qDc {c:Ck} {n a b tn td:Int} {x2:Int} {l2:List Pt} (ha:qGB a b c l2 n x2) (htw:Fn 29 8 [qaz c] (qaC c) (qkn c) 8 (qeR c)) (hwn:Fn 124 1 [qas 0 c.s,.pv (qah a b),.pv (qaa c.tn c.td)] [(0,0,qad c.s)] (.pv (.tuple #[qaa tn td,.bool false])) 0 []) :
 Fn 147 8 [qaz c,.pv (qah a b)] (qaC c) (.tu [qrc { c with x:=x2,l:=l2 },.one (.pv (iV n)),.one (.pv (iV 0))]) 8 (qeR ({ c with x:=x2,l:=l2 }:Ck)):=
 Fz [(8,13),(9,11),(10,15),(11,16),(12,17),(13,18),(14,19),(15,20)] [Cf ha [1],.k,Cf htw [0,1,2,3,4,5,6,7],Cf hwn [0],.k]
  (qaE (qaK [(8,13),(9,11),(10,15),(11,16),(12,17),(13,18),(14,19),(15,20)]) (qeR ({ c with x:=x2,l:=l2 }:Ck))) (Co ha [1] 11 (Co htw [0,1,2,3,4,5,6,7] 13 (Co hwn [0] 22 tI)))
theorem qrM {c:Ck} {n a b tn td:Int} {x2:Int} {l2:List Pt} (ha:qGB a b c l2 n x2) (htw:Fn 29 8 [qaz c] (qaC c) (qkn c) 8 (qeR c)) (hwn:Fn 124 1 [qas 0 c.s,.pv (qah a b),.pv (qaa c.tn c.td)] [(0,0,qad c.s)] (.pv (.tuple #[qaa tn td,.bool true])) 0 []) (ho:Fn 197 3 [.ag [.ls 0 c.u.length,.ls 1 c.b.length,.ls 2 c.fr.length]] [(0,0,zrI c.u),(1,0,zrB c.b),(2,0,zrI c.fr)] (.pv (.bool false)) 0 []) :
 Fn 147 8 [qaz c,.pv (qah a b)] (qaC c) (.pv (.tuple #[qiC,iV 0,iV 18])) 0 []:=
 Fz [] [Cf ha [1],.k,Cf htw [0,1,2,3,4,5,6,7],Cf hwn [0],.k,Cf ho [2,3,4],.k]
  tI (Co ha [1] 11 (Co htw [0,1,2,3,4,5,6,7] 13 (Co hwn [0] 22 (Co ho [2,3,4] 23 tI))))
theorem qxn {c o:Ck} {n a b tn td:Int} {hi hw x2:Int} {l2:List Pt} (ha:qGB a b c l2 n x2) (htw:Fn 29 8 [qaz c] (qaC c) (qkn c) 8 (qeR c)) (hwn:Fn 124 1 [qas 0 c.s,.pv (qah a b),.pv (qaa c.tn c.td)] [(0,0,qad c.s)] (.pv (.tuple #[qaa tn td,.bool true])) 0 []) (ho:Fn 197 3 [.ag [.ls 0 c.u.length,.ls 1 c.b.length,.ls 2 c.fr.length]] [(0,0,zrI c.u),(1,0,zrB c.b),(2,0,zrI c.fr)] (.pv (.bool true)) 0 []) (hp:Fn 198 5 [agA c.u c.b c.fr c.ev c.wh,.pv (qaa tn td),.pv (iV (n))] [(0,0,zrI c.u),(1,0,zrB c.b),(2,0,zrI c.fr),(3,0,qar c.ev),(4,0,zrI c.wh)] (.tu [.ag [.ls 5 o.u.length,.ls 6 o.b.length,.ls 7 o.fr.length,.ls 8 o.ev.length,.ls 9 o.wh.length],.one (.pv (qbb hi hw))]) 5 [(5,0,zrI o.u),(6,0,zrB o.b),(7,0,zrI o.fr),(8,0,qar o.ev),(9,0,zrI o.wh)]) (hd:c.d.length+1≤1000000) :
 Fn 147 8 [qaz c,.pv (qah a b)] (qaC c) (.tu [qrc { c with x:=x2,l:=l2,u:=o.u,b:=o.b,fr:=o.fr,ev:=o.ev,wh:=o.wh,d:=c.d++[(Pt.mk n hi hw)] },.one (.pv (iV n)),.one (.pv (iV 0))]) 8 (qeR ({ c with x:=x2,l:=l2,u:=o.u,b:=o.b,fr:=o.fr,ev:=o.ev,wh:=o.wh,d:=c.d++[(Pt.mk n hi hw)] }:Ck)):=
 Fx [(8,13),(9,11),(10,23),(11,24),(12,25),(13,26),(14,27),(15,31)] [Cf ha [1],.k,Cf htw [0,1,2,3,4,5,6,7],Cf hwn [0],.k,Cf ho [2,3,4],.k,Cf hp [2,3,4,5,6]]
  (qER c o x2 n hi hw l2) (Ai (Er (qad c.s)) (Ai (Er (qam l2)) (Ai (Er (zrI o.u)) (Ai (Er (zrB o.b)) (Ai (Er (zrI o.fr)) (Ai (Er (qar o.ev)) (Ai (Er (zrI o.wh)) (Ai (qoD c.d (Pt.mk n hi hw)) tI)))))))) (Co ha [1] 11 (Co htw [0,1,2,3,4,5,6,7] 13 (Co hwn [0] 22 (Co ho [2,3,4] 23 (Co hp [2,3,4,5,6] 23 (Ai hd tI))))))
end Go.Proofs.YtkckcgpmnipnaaaGreat

namespace Go.Proofs.YtkckcgpmnipnaaaGreat
set_option maxRecDepth 100000
open Go.RowKit
theorem qdx {l:List P2} {k:Nat} {x:P2} (h:l[k]?=some x):qcO (p2V l) (0*2+k*2) [iV x.a,iV x.b]:=fun j v hj=>by
 obtain⟨h1,h2⟩:=qoE h
 rw[show 0*2+k*2+j=k*2+j by omega]
 match j,hj with
 | 0,hj=>cases hj;exact h1
 | 1,hj=>cases hj;exact h2
 | j+2,hj=>simp at hj
theorem qoi:∀ (l:List Pt) (k:Nat) (p:Pt),k<l.length→qa3 (l.set k p)=qeH (qa3 l) (0*3+k*3) [iV p.id,iV p.a,iV p.b]
 | [],k,p,h=>absurd h (Nat.not_lt_zero _)
 | q::r,0,p,_=>rfl
 | q::r,k+1,p,h=>by
  have ih:=qoi r k p (by simpa using h)
  rw[Nat.zero_mul,Nat.zero_add] at ih ⊢
  show iV q.id::iV q.a::iV q.b::qa3 (r.set k p)=_
  rw[ih,show (k+1)*3=k*3+1+1+1 by omega]
  rfl
theorem qBm (l:List Pt) (k:Nat) (h:k<l.length):0*3+k*3+3≤(qa3 l).length:=by rw[qaZ];omega
theorem qqg {z y1 z2:Int} (h1:iV (IntKind.i64.wrap (z-1))=iV (y1)) (nz:¬ (2:Int)=0) (h2:iV (IntKind.i64.wrap (Int.tdiv y1 2))=iV (z2)) :
 Pure Tryz.prog 112 #[iV z] (iV (z2)):=
 qac (args:=[iV z]) 300 [Re h1,Re h2]
  (Ai rfl (Ai h1 (Ai nz (Ai h2 tI)))) (by kernel_rfl)
theorem qtG {p q:Pt} {tn td e:Int} {w:Bool} (ha:Pure Tryz.prog 158 #[qab p.id p.a p.b,qab q.id q.a q.b,qaa tn td] (.tuple #[.bool w,iV e])) :
 Pure Tryz.prog 172 #[qab p.id p.a p.b,qab q.id q.a q.b,qaa tn td] (.bool w):=
 qac (args:=[qab p.id p.a p.b,qab q.id q.a q.b,qaa tn td]) 300 [Rf ha]
  (Ai rfl (Ai ha tI)) (by kernel_rfl)
theorem qqe {g:List Int} {k:Nat} {u v:Int} {xs:List Value} (hlt:decide (((k+1:Nat):Int)<(g.length:Int))=true) (hpa:Pure Tryz.prog 112 #[iV (((k+1:Nat):Int))] (iV (((k/2:Nat):Int)))) (i2:0≤((k/2:Nat):Int)∧((k/2:Nat):Int)<(g.length:Int)) (i1:0≤((k+1:Nat):Int)∧((k+1:Nat):Int)<(g.length:Int)) (g2:g[k/2]?=some v) (g1:g[k+1]?=some u) (hm:k+1≤1000000) (hs:iV (IntKind.i64.wrap (((k+1:Nat):Int)+1))=iV (((k+1+1:Nat):Int))) {e:Exit} {tm2:TmL} {hp2:HpL}
 (r:Rl 1 1 53 0 25 2 ([(0,.ls 0 g.length),(3,.ls 1 (k+1)),(4,.pv (iV (((k+1)+1:Nat):Int)))]) ([(0,0,zrI g),(1,0,.row 90 2 (k+1) (xs++[iV u,iV v]))]) e tm2 hp2):Rl 1 1 53 0 25 2 ([(0,.ls 0 g.length),(3,.ls 1 k),(4,.pv (iV ((k+1:Nat):Int)))]) ([(0,0,zrI g),(1,0,.row 90 2 k xs)]) e tm2 hp2:=
 RunsL.next [(1,3)] 300 [.t true,.md,Rf hpa,.r (iV v),.r (iV u),.r (iV (((k+1+1:Nat):Int)))]
  (Ro (Ai hlt (Ai hpa (Ai i2 (Ai (qaQ g2) (Ai i1 (Ai (qaQ g1) (Ai hm (Ai hs tI))))))))) r
theorem qyU {g:List Int} {k:Nat} {xs:List Value} (hlt:decide (((k+1:Nat):Int)<(g.length:Int))=false):Rl 1 1 53 0 25 2 ([(0,.ls 0 g.length),(3,.ls 1 k),(4,.pv (iV ((k+1:Nat):Int)))]) ([(0,0,zrI g),(1,0,.row 90 2 k xs)]) (.exit 0) ([(3,.ls 1 k)]) ([(0,0,zrI g),(1,0,.row 90 2 k xs)]):=
 RunsL.stop [] 300 [.t false] (fun h=>by cases h)
  (Ro (Ai hlt tI))
theorem qsE {g:List Int} {k:Nat} {xs:List Value} (r0:Rl 1 1 53 0 25 2 ([(0,.ls 0 g.length),(3,.ls 1 0),(4,.pv (iV ((0+1:Nat):Int)))]) ([(0,0,zrI g),(1,0,.row 90 2 0 [])]) (.exit 0) ([(3,.ls 1 k)]) ([(0,0,zrI g),(1,0,.row 90 2 k xs)])) :
 Fn 53 1 [.ls 0 g.length] [(0,0,zrI g)] (.ls 1 k) 1 [(1,0,.row 90 2 k xs)]:=
 Fz [] [.ln true 3 0 90 2,Lf r0]
  (qaE (qaK []) [(1,0,.row 90 2 k xs)]) (Lo r0 [] tI)
abbrev qDP (l:List P2) (ps:List Pt):HpL:=[(1,0,.mrow (qaI ps)),(0,0,.row 90 2 l.length (p2V l))]
theorem qtA {l:List P2} {k:Nat} {x:P2} {ps qs:List Pt} (hlt:decide ((k:Int)<(l.length:Int))=true) (hin:0≤(k:Int)∧(k:Int)<(l.length:Int)) (hk:l[k]?=some x) (hP:ql0 Tryz.prog 167 (qaI ps) (qah x.a x.b) (.bool true) (qaI qs)) (hs:iV (IntKind.i64.wrap ((k:Int)+1))=iV (((k+1:Nat):Int))) {e:Exit} {tm2:TmL} {hp2:HpL}
 (r:Rl 1 1 106 0 17 2 ([(3,.mp 1),(7,.ls 0 l.length),(8,.pv (iV (l.length:Int))),(9,.pv (iV ((k+1:Nat):Int)))]) ([(1,0,.mrow (qaI qs)),(0,0,.row 90 2 l.length (p2V l))]) e tm2 hp2):Rl 1 1 106 0 17 2 ([(3,.mp 1),(7,.ls 0 l.length),(8,.pv (iV (l.length:Int))),(9,.pv (iV (k:Int)))]) (qDP l ps) e tm2 hp2:=
 RunsL.next [] 300 [.t true,.r (qah x.a x.b),.w (qaI qs),Re hs]
  (Ro (Ai hlt (Ai hin (Ai (qdx hk) (Ai hP (Ai hs tI)))))) r
theorem qwV {l:List P2} {k:Nat} {ps:List Pt} (hlt:decide ((k:Int)<(l.length:Int))=false):Rl 1 1 106 0 17 2 ([(3,.mp 1),(7,.ls 0 l.length),(8,.pv (iV (l.length:Int))),(9,.pv (iV (k:Int)))]) (qDP l ps) (.exit 0) ([(3,.mp 1)]) (qDP l ps):=
 RunsL.stop [] 300 [.t false] (fun h=>by cases h)
  (Ro (Ai hlt tI))
theorem qs9 {l:List P2} {ps:List Pt} (r0:Rl 1 1 106 0 17 2 ([(3,.mp 1),(7,.ls 0 l.length),(8,.pv (iV (l.length:Int))),(9,.pv (iV ((0:Nat):Int)))]) ([(1,0,.mrow (qaI [])),(0,0,.row 90 2 l.length (p2V l))]) (.exit 0) ([(3,.mp 1)]) (qDP l ps)) :
 Fn 106 1 [.ls 0 l.length] [(0,0,.row 90 2 l.length (p2V l))] (.mp 1) 1 [(1,0,.mrow (qaI ps))]:=
 Fz [] [Lf r0]
  (qaE (qaK []) [(1,0,.mrow (qaI ps))]) (Lo r0 [] tI)
theorem qsg {k:Nat} {p:Pt} {xs:List Value} {c:Ck} (hlt:decide ((k:Int)<(c.l.length:Int))=true) (hin:0≤(k:Int)∧(k:Int)<(c.l.length:Int)) (hk:c.l[k]?=some p) (hm:k+1≤1000000) (hs:iV (IntKind.i64.wrap ((k:Int)+1))=iV (((k+1:Nat):Int))) {e:Exit} {tm2:TmL} {hp2:HpL}
 (r:Rl 8 8 107 0 22 10 ([(3,.ls 9 (k+1:Nat)),(8,.ls 1 c.l.length),(9,.pv (iV (c.l.length:Int))),(10,.pv (iV ((k+1:Nat):Int)))]) ([(1,0,qam c.l),(9,0,.row 90 2 (k+1) (xs++[iV p.a,iV p.b]))]) e tm2 hp2):Rl 8 8 107 0 22 10 ([(3,.ls 9 k),(8,.ls 1 c.l.length),(9,.pv (iV (c.l.length:Int))),(10,.pv (iV (k:Int)))]) ([(1,0,qam c.l),(9,0,.row 90 2 k xs)]) e tm2 hp2:=
 RunsL.next [(9,12)] 300 [.t true,.r (ptV p),Re hs]
  (Ro (Ai hlt (Ai hin (Ai (qaA hk) (Ai hm (Ai hs tI)))))) r
theorem qyx {k:Nat} {xs:List Value} {c:Ck} (hlt:decide ((k:Int)<(c.l.length:Int))=false):Rl 8 8 107 0 22 10 ([(3,.ls 9 k),(8,.ls 1 c.l.length),(9,.pv (iV (c.l.length:Int))),(10,.pv (iV (k:Int)))]) ([(1,0,qam c.l),(9,0,.row 90 2 k xs)]) (.exit 0) ([(3,.ls 9 k)]) ([(1,0,qam c.l),(9,0,.row 90 2 k xs)]):=
 RunsL.stop [] 300 [.t false] (fun h=>by cases h)
  (Ro (Ai hlt tI))
theorem qpK {k:Nat} {xs:List Value} {c:Ck} {ps:List Pt} (r0:Rl 8 8 107 0 22 10 ([(3,.ls 9 0),(8,.ls 1 c.l.length),(9,.pv (iV (c.l.length:Int))),(10,.pv (iV (0:Int)))]) ([(1,0,qam c.l),(9,0,.row 90 2 0 [])]) (.exit 0) ([(3,.ls 9 k)]) ([(1,0,qam c.l),(9,0,.row 90 2 k xs)])) (hs:Fn 106 1 [.ls 0 k] [(0,0,.row 90 2 k xs)] (.mp 1) 1 [(1,0,.mrow (qaI ps))]) :
 Fn 107 8 [qaz c] (qaC c) (.mp 8) 1 [(8,0,.mrow (qaI ps))]:=
 Fz [(8,10)] [.ln true 3 0 90 2,Lf r0,Cf hs [9]]
  (qaE (qaK [(8,10)]) [(8,0,.mrow (qaI ps))]) (Lo r0 [] (Co hs [9] 10 tI))
abbrev qAp (h:List Pt) (ps:List Pt) (s:List Pt) (td:Int) (tn:Int):HpL:=[(1,0,.ls 0 s.length),(2,0,.pv (iV tn)),(2,1,.pv (iV td)),(0,0,qad s),(7,0,.pv (iV tn)),(7,1,.pv (iV td)),(6,0,.row 137 3 h.length (qa3 ps))]
theorem qrs {s h:List Pt} {tn td:Int} {ps:List Pt} (h0:decide (((0:Nat):Int)>0)=false):Rl 1 7 105 0 41 8 ([(0,.ls 6 h.length),(3,.pp 7 0),(4,.pv (iV ((0:Nat):Int)))]) (qAp h ps s td tn) (.exit 0) ([]) (qAp h ps s td tn):=
 RunsL.stop [] 300 [.md,.t false] (fun h=>by cases h)
  (Ro (Ai h0 tI))
theorem qqk {s h:List Pt} {j:Nat} {p q:Pt} {tn td:Int} {ps:List Pt} (h0:decide (((j+1:Nat):Int)>0)=true) (i1:0≤((j+1:Nat):Int)∧((j+1:Nat):Int)<(h.length:Int)) (i2:0≤((j/2:Nat):Int)∧((j/2:Nat):Int)<(h.length:Int)) (g1:ps[j+1]?=some p) (g2:ps[j/2]?=some q) (hpa:Pure Tryz.prog 112 #[iV (((j+1:Nat):Int))] (iV (((j/2:Nat):Int)))) (hah:Pure Tryz.prog 172 #[qab p.id p.a p.b,qab q.id q.a q.b,qaa tn td] (.bool false)):Rl 1 7 105 0 41 8 ([(0,.ls 6 h.length),(3,.pp 7 0),(4,.pv (iV ((j+1:Nat):Int)))]) (qAp h ps s td tn) (.exit 0) ([]) (qAp h ps s td tn):=
 RunsL.stop [] 300 [.md,.t true,.r (ptV p),Rf hpa,.r (ptV q),Rf hah] (fun h=>by cases h)
  (Ro (Ai h0 (Ai i1 (Ai (qaA g1) (Ai hpa (Ai i2 (Ai (qaA g2) (Ai hah tI))))))))
theorem qAH {s h:List Pt} {j:Nat} {p q:Pt} {tn td:Int} {ps:List Pt} (h0:decide (((j+1:Nat):Int)>0)=true) (i1:0≤((j+1:Nat):Int)∧((j+1:Nat):Int)<(h.length:Int)) (i2:0≤((j/2:Nat):Int)∧((j/2:Nat):Int)<(h.length:Int)) (g1:ps[j+1]?=some p) (g2:ps[j/2]?=some q) (hpa:Pure Tryz.prog 112 #[iV (((j+1:Nat):Int))] (iV (((j/2:Nat):Int)))) (hah:Pure Tryz.prog 172 #[qab p.id p.a p.b,qab q.id q.a q.b,qaa tn td] (.bool true)) (l1:j+1<ps.length) (l2:j/2<ps.length) {e:Exit} {tm2:TmL} {hp2:HpL}
 (r:Rl 1 7 105 0 41 8 ([(0,.ls 6 h.length),(3,.pp 7 0),(4,.pv (iV ((j/2:Nat):Int)))]) ([(1,0,.ls 0 s.length),(2,0,.pv (iV tn)),(2,1,.pv (iV td)),(0,0,qad s),(7,0,.pv (iV tn)),(7,1,.pv (iV td)),(6,0,.row 137 3 h.length (qa3 ((ps.set (j+1) q).set (j/2) p)))]) e tm2 hp2):Rl 1 7 105 0 41 8 ([(0,.ls 6 h.length),(3,.pp 7 0),(4,.pv (iV ((j+1:Nat):Int)))]) (qAp h ps s td tn) e tm2 hp2:=
 RunsL.next [] 300 [.md,.t true,.r (ptV p),Rf hpa,.r (ptV q),Rf hah,.md,Rf hpa,Rf hpa,.r (ptV q),.r (ptV p),.w (qa3 (ps.set (j+1) q)),.w (qa3 ((ps.set (j+1) q).set (j/2) p)),Rf hpa]
  (Ro (Ai h0 (Ai i1 (Ai (qaA g1) (Ai hpa (Ai i2 (Ai (qaA g2) (Ai hah (Ai hpa (Ai hpa (Ai i2 (Ai (qaA g2) (Ai i1 (Ai (qaA g1) (Ai i1 (Ai (qoi ps (j+1) q l1) (Ai (qBm ps (j+1) l1) (Ai i2 (Ai (qoi (ps.set (j+1) q) (j/2) p (by rw[List.length_set];exact l2)) (Ai (qBm (ps.set (j+1) q) (j/2) (by rw[List.length_set];exact l2)) (Ai hpa tI))))))))))))))))))))) r
abbrev qET (k:Nat) (s:List Pt) (td:Int) (tn:Int) (xs:List Value):HpL:=[(1,0,.ls 0 s.length),(2,0,.pv (iV tn)),(2,1,.pv (iV td)),(0,0,qad s),(3,0,.row 137 3 k xs)]
theorem qtR {s:List Pt} {k:Nat} {p:Pt} {tn td:Int} {xs ys:List Value} (hlt:decide ((k:Int)<(s.length:Int))=true) (hin:0≤(k:Int)∧(k:Int)<(s.length:Int)) (hk:s[k]?=some p) (hm:k+1≤1000000) (h1:iV (IntKind.i64.wrap (((k+1:Nat):Int)-1))=iV (k:Int)) (r0:Rl 1 7 105 0 41 8 ([(0,.ls 6 (k+1)),(3,.pp 7 0),(4,.pv (iV (k:Int)))]) ([(1,0,.ls 0 s.length),(2,0,.pv (iV tn)),(2,1,.pv (iV td)),(0,0,qad s),(7,0,.pv (iV tn)),(7,1,.pv (iV td)),(6,0,.row 137 3 (k+1) (xs++[iV p.id,iV p.a,iV p.b]))]) (.exit 0) ([]) ([(1,0,.ls 0 s.length),(2,0,.pv (iV tn)),(2,1,.pv (iV td)),(0,0,qad s),(7,0,.pv (iV tn)),(7,1,.pv (iV td)),(6,0,.row 137 3 (k+1) ys)])) (hs:iV (IntKind.i64.wrap ((k:Int)+1))=iV (((k+1:Nat):Int))) {e:Exit} {tm2:TmL} {hp2:HpL}
 (r:Rl 1 1 51 0 39 4 ([(3,.pp 2 0),(5,.ls 3 (k+1:Nat)),(12,.ls 0 s.length),(13,.pv (iV (s.length:Int))),(14,.pv (iV ((k+1:Nat):Int)))]) ([(1,0,.ls 0 s.length),(2,0,.pv (iV tn)),(2,1,.pv (iV td)),(0,0,qad s),(3,0,.row 137 3 (k+1) ys)]) e tm2 hp2):Rl 1 1 51 0 39 4 ([(3,.pp 2 0),(5,.ls 3 k),(12,.ls 0 s.length),(13,.pv (iV (s.length:Int))),(14,.pv (iV (k:Int)))]) (qET k s td tn xs) e tm2 hp2:=
 RunsL.next [(3,6)] 300 [.t true,.r (ptV p),.k,.r (iV (k:Int)),Lf r0,Re hs]
  (Ro (Ai hlt (Ai hin (Ai (qaA hk) (Ai hm (Ai h1 (Lo r0 [] (Ai hs tI)))))))) r
theorem qxt {s:List Pt} {k:Nat} {tn td:Int} {xs:List Value} (hlt:decide ((k:Int)<(s.length:Int))=false):Rl 1 1 51 0 39 4 ([(3,.pp 2 0),(5,.ls 3 k),(12,.ls 0 s.length),(13,.pv (iV (s.length:Int))),(14,.pv (iV (k:Int)))]) (qET k s td tn xs) (.exit 0) ([(5,.ls 3 k)]) (qET k s td tn xs):=
 RunsL.stop [] 300 [.t false] (fun h=>by cases h)
  (Ro (Ai hlt tI))
theorem qpM {h:List Pt} {k n:Nat} {p:Pt} {xs:List Value} (hlt:decide ((k:Int)<(n:Int))=true) (hin:0≤(k:Int)∧(k:Int)<(n:Int)) (hk:h[k]?=some p) (hm:k+1≤1000000) (hs:iV (IntKind.i64.wrap ((k:Int)+1))=iV (((k+1:Nat):Int))) {e:Exit} {tm2:TmL} {hp2:HpL}
 (r:Rl 1 1 51 1 39 5 ([(8,.ls 4 (k+1:Nat)),(26,.ls 3 n),(27,.pv (iV (n:Int))),(28,.pv (iV ((k+1:Nat):Int)))]) ([(3,0,.row 137 3 n (qa3 h)),(4,0,.row 3 1 (k+1) (xs++[iV p.id]))]) e tm2 hp2):Rl 1 1 51 1 39 5 ([(8,.ls 4 k),(26,.ls 3 n),(27,.pv (iV (n:Int))),(28,.pv (iV (k:Int)))]) ([(3,0,.row 137 3 n (qa3 h)),(4,0,.row 3 1 k xs)]) e tm2 hp2:=
 RunsL.next [(4,7)] 300 [.t true,.r (ptV p),Re hs]
  (Ro (Ai hlt (Ai hin (Ai (qaA hk) (Ai hm (Ai hs tI)))))) r
theorem qyg {h:List Pt} {k n:Nat} {xs:List Value} (hlt:decide ((k:Int)<(n:Int))=false):Rl 1 1 51 1 39 5 ([(8,.ls 4 k),(26,.ls 3 n),(27,.pv (iV (n:Int))),(28,.pv (iV (k:Int)))]) ([(3,0,.row 137 3 n (qa3 h)),(4,0,.row 3 1 k xs)]) (.exit 2) ([(8,.ls 4 k)]) ([(3,0,.row 137 3 n (qa3 h)),(4,0,.row 3 1 k xs)]):=
 RunsL.stop [] 300 [.t false] (fun h=>by cases h)
  (Ro (Ai hlt tI))
theorem qrZ {s h:List Pt} {g:List Int} {n:Nat} {tn td:Int} (r0:Rl 1 1 51 0 39 4 ([(3,.pp 2 0),(5,.ls 3 0),(12,.ls 0 s.length),(13,.pv (iV (s.length:Int))),(14,.pv (iV (0:Int)))]) ([(1,0,.ls 0 s.length),(2,0,.pv (iV tn)),(2,1,.pv (iV td)),(0,0,qad s),(3,0,.row 137 3 0 [])]) (.exit 0) ([(5,.ls 3 n)]) ([(1,0,.ls 0 s.length),(2,0,.pv (iV tn)),(2,1,.pv (iV td)),(0,0,qad s),(3,0,.row 137 3 n (qa3 h))])) (r1:Rl 1 1 51 1 39 5 ([(8,.ls 4 0),(26,.ls 3 n),(27,.pv (iV (n:Int))),(28,.pv (iV (0:Int)))]) ([(3,0,.row 137 3 n (qa3 h)),(4,0,.row 3 1 0 [])]) (.exit 2) ([(8,.ls 4 n)]) ([(3,0,.row 137 3 n (qa3 h)),(4,0,.row 3 1 n (ziV g))])) :
 Fn 51 1 [qas 0 s,.pv (qaa tn td)] [(0,0,qad s)] (.ls 1 n) 1 [(1,0,.row 3 1 n (ziV g))]:=
 Fz [(1,4)] [.ln true 5 0 137 3,Lf r0,.ln true 8 0 3 1,Lf r1]
  (qaE (qaK [(1,4)]) [(1,0,.row 3 1 n (ziV g))]) (Lo r0 [] (Lo r1 [] tI))
end Go.Proofs.YtkckcgpmnipnaaaGreat

namespace Go.Proofs.YtkckcgpmnipnaaaGreat
set_option maxRecDepth 100000
open Go.RowKit
theorem qrU {s:List Pt} {k:Nat} {p:Pt} (hlt:decide ((k:Int)<(s.length:Int))=true) (i1:0≤(k:Int)∧(k:Int)<(s.length:Int)) (g1:s[k]?=some p) (hne:(!((p.id==p.id)&&((p.a==p.a)&&((p.b==p.b)&&true))))=false) (hs:iV (IntKind.i64.wrap ((k:Int)+1))=iV (((k+1:Nat):Int))) {e:Exit} {tm2:TmL} {hp2:HpL}
 (r:Rl 2 2 109 0 26 2 ([(0,.ls 0 s.length),(1,.ls 1 s.length),(12,.pv (iV (s.length:Int))),(13,.pv (iV ((k+1:Nat):Int)))]) ([(0,0,qad s),(1,0,qad s)]) e tm2 hp2):Rl 2 2 109 0 26 2 ([(0,.ls 0 s.length),(1,.ls 1 s.length),(12,.pv (iV (s.length:Int))),(13,.pv (iV (k:Int)))]) ([(0,0,qad s),(1,0,qad s)]) e tm2 hp2:=
 RunsL.next [] 300 [.t true,.md,.r (ptV p),.r (ptV p),.t false,Re hs]
  (Ro (Ai hlt (Ai i1 (Ai (qaA g1) (Ai i1 (Ai (qaA g1) (Ai hne (Ai hs tI)))))))) r
theorem qwZ {s:List Pt} {k:Nat} (hlt:decide ((k:Int)<(s.length:Int))=false):Rl 2 2 109 0 26 2 ([(0,.ls 0 s.length),(1,.ls 1 s.length),(12,.pv (iV (s.length:Int))),(13,.pv (iV (k:Int)))]) ([(0,0,qad s),(1,0,qad s)]) (.exit 0) ([]) ([]):=
 RunsL.stop [] 300 [.t false] (fun h=>by cases h)
  (Ro (Ai hlt tI))
theorem qrJ {s:List Pt} (hl:((s.length:Int) !=(s.length:Int))=false) (r0:Rl 2 2 109 0 26 2 ([(0,.ls 0 s.length),(1,.ls 1 s.length),(12,.pv (iV (s.length:Int))),(13,.pv (iV ((0:Nat):Int)))]) ([(0,0,qad s),(1,0,qad s)]) (.exit 0) ([]) ([])) :
 Fn 109 2 [.ls 0 s.length,.ls 1 s.length] [(0,0,qad s),(1,0,qad s)] (.pv (.bool true)) 0 []:=
 Fz [] [.t false,Lf r0]
  tI (Ai hl (Lo r0 [] tI))
end Go.Proofs.YtkckcgpmnipnaaaGreat

namespace Go.Proofs.YtkckcgpmnipnaaaGreat
set_option maxRecDepth 100000
open Go.RowKit
abbrev qly (c:Ck) (g:List Int) (s:List Pt):HpL:=[(0,0,qad s),(1,0,qad c.s),(2,0,qam c.l),(3,0,zrI c.u),(4,0,zrB c.b),(5,0,zrI c.fr),(6,0,qar c.ev),(7,0,zrI c.wh),(8,0,qaP c.d),(9,0,zrI g)]
theorem qEC {s:List Pt} {g:List Int} {tn td:Int} {c:Ck} (hG:Fn 10 1 [qas 0 s] [(0,0,qad s)] (.pv (.bool true)) 0 []) :
 Fn 3 10 [qas 0 s,.pv (qaa tn td),.ag [.pv (iV c.tn),.pv (iV c.td),.ls 1 c.s.length,.pv (iV c.x),.ls 2 c.l.length,.ls 3 c.u.length,.ls 4 c.b.length,.ls 5 c.fr.length,.ls 6 c.ev.length,.ls 7 c.wh.length,.ls 8 c.d.length,.ls 9 g.length]] (qly c g s) (.pv (.bool true)) 0 []:=
 Fz [] [Cf hG [0]]
  tI (Co hG [0] 13 tI)
abbrev qmj (c:Ck) (g:List Int):HpL:=[(0,0,qad c.s),(1,0,qam c.l),(2,0,zrI c.u),(3,0,zrB c.b),(4,0,zrI c.fr),(5,0,qar c.ev),(6,0,zrI c.wh),(7,0,qaP c.d),(8,0,zrI g)]
abbrev qnV (s:List Pt):Prop:=Fn 10 1 [qas 0 s] [(0,0,qad s)] (.pv (.bool false)) 0 []
theorem qEE {s:List Pt} {g:List Int} {tn td:Int} {c:Ck} (hG:qnV s) (hK:Fn 11 9 [.ag [.pv (iV c.tn),.pv (iV c.td),.ls 0 c.s.length,.pv (iV c.x),.ls 1 c.l.length,.ls 2 c.u.length,.ls 3 c.b.length,.ls 4 c.fr.length,.ls 5 c.ev.length,.ls 6 c.wh.length,.ls 7 c.d.length,.ls 8 g.length]] (qmj c g) (.pv (.bool true)) 0 []) :
 Fn 3 10 [qas 0 s,.pv (qaa tn td),.ag [.pv (iV c.tn),.pv (iV c.td),.ls 1 c.s.length,.pv (iV c.x),.ls 2 c.l.length,.ls 3 c.u.length,.ls 4 c.b.length,.ls 5 c.fr.length,.ls 6 c.ev.length,.ls 7 c.wh.length,.ls 8 c.d.length,.ls 9 g.length]] (qly c g s) (.pv (.bool true)) 0 []:=
 Fz [] [Cf hG [0],Cf hK [1,2,3,4,5,6,7,8,9]]
  tI (Co hG [0] 13 (Co hK [1,2,3,4,5,6,7,8,9] 13 tI))
abbrev qDN (c:Ck) (g:List Int) (u:Int) (v:Int):Prop:=Fn 16 9 [.ag [.pv (iV c.tn),.pv (iV c.td),.ls 0 c.s.length,.pv (iV c.x),.ls 1 c.l.length,.ls 2 c.u.length,.ls 3 c.b.length,.ls 4 c.fr.length,.ls 5 c.ev.length,.ls 6 c.wh.length,.ls 7 c.d.length,.ls 8 g.length]] (qmj c g) (.pv (.tuple #[iV u,iV v])) 0 []
abbrev qDO (c:Ck) (g:List Int) (u:Int) (v:Int):Prop:=Fn 17 9 [.ag [.pv (iV c.tn),.pv (iV c.td),.ls 0 c.s.length,.pv (iV c.x),.ls 1 c.l.length,.ls 2 c.u.length,.ls 3 c.b.length,.ls 4 c.fr.length,.ls 5 c.ev.length,.ls 6 c.wh.length,.ls 7 c.d.length,.ls 8 g.length]] (qmj c g) (.pv (.tuple #[iV u,iV v])) 0 []
abbrev qDJ (c:Ck) (g:List Int) (y:Ev) (z:Int):Prop:=Fn 18 9 [.ag [.pv (iV c.tn),.pv (iV c.td),.ls 0 c.s.length,.pv (iV c.x),.ls 1 c.l.length,.ls 2 c.u.length,.ls 3 c.b.length,.ls 4 c.fr.length,.ls 5 c.ev.length,.ls 6 c.wh.length,.ls 7 c.d.length,.ls 8 g.length]] (qmj c g) (.pv (.tuple #[qae y,iV z])) 0 []
abbrev qEk (c:Ck) (g:List Int) (y:Ev) (z:Int):Prop:=Fn 19 9 [.ag [.pv (iV c.tn),.pv (iV c.td),.ls 0 c.s.length,.pv (iV c.x),.ls 1 c.l.length,.ls 2 c.u.length,.ls 3 c.b.length,.ls 4 c.fr.length,.ls 5 c.ev.length,.ls 6 c.wh.length,.ls 7 c.d.length,.ls 8 g.length]] (qmj c g) (.pv (.tuple #[qae y,iV z])) 0 []
abbrev qHD (gs:List Int) (o:Ck):Prop:=Fn 20 18 [.ag [.pv (iV o.tn),.pv (iV o.td),.ls 0 o.s.length,.pv (iV o.x),.ls 1 o.l.length,.ls 2 o.u.length,.ls 3 o.b.length,.ls 4 o.fr.length,.ls 5 o.ev.length,.ls 6 o.wh.length,.ls 7 o.d.length,.ls 8 gs.length],.ag [.pv (iV o.tn),.pv (iV o.td),.ls 9 o.s.length,.pv (iV o.x),.ls 10 o.l.length,.ls 11 o.u.length,.ls 12 o.b.length,.ls 13 o.fr.length,.ls 14 o.ev.length,.ls 15 o.wh.length,.ls 16 o.d.length,.ls 17 gs.length]] [(0,0,qad o.s),(1,0,qam o.l),(2,0,zrI o.u),(3,0,zrB o.b),(4,0,zrI o.fr),(5,0,qar o.ev),(6,0,zrI o.wh),(7,0,qaP o.d),(8,0,zrI gs),(9,0,qad o.s),(10,0,qam o.l),(11,0,zrI o.u),(12,0,zrB o.b),(13,0,zrI o.fr),(14,0,qar o.ev),(15,0,zrI o.wh),(16,0,qaP o.d),(17,0,zrI gs)] (.pv (.bool true)) 0 []
abbrev qDE (c:Ck) (g:List Int):Prop:=Fn 11 9 [.ag [.pv (iV c.tn),.pv (iV c.td),.ls 0 c.s.length,.pv (iV c.x),.ls 1 c.l.length,.ls 2 c.u.length,.ls 3 c.b.length,.ls 4 c.fr.length,.ls 5 c.ev.length,.ls 6 c.wh.length,.ls 7 c.d.length,.ls 8 g.length]] (qmj c g) (.pv (.bool false)) 0 []
abbrev qDK (c:Ck) (g:List Int) (n9:Int):Prop:=Fn 21 9 [.ag [.pv (iV c.tn),.pv (iV c.td),.ls 0 c.s.length,.pv (iV c.x),.ls 1 c.l.length,.ls 2 c.u.length,.ls 3 c.b.length,.ls 4 c.fr.length,.ls 5 c.ev.length,.ls 6 c.wh.length,.ls 7 c.d.length,.ls 8 g.length]] (qmj c g) (.pv (iV (n9))) 0 []
abbrev qDW (c:Ck) (g:List Int) (n9:Int):Prop:=Fn 22 9 [.ag [.pv (iV c.tn),.pv (iV c.td),.ls 0 c.s.length,.pv (iV c.x),.ls 1 c.l.length,.ls 2 c.u.length,.ls 3 c.b.length,.ls 4 c.fr.length,.ls 5 c.ev.length,.ls 6 c.wh.length,.ls 7 c.d.length,.ls 8 g.length]] (qmj c g) (.pv (iV (n9))) 0 []
abbrev qAm (gs:List Int) (o:Ck):HpL:=[(1,0,qad o.s),(2,0,qam o.l),(3,0,zrI o.u),(4,0,zrB o.b),(5,0,zrI o.fr),(6,0,qar o.ev),(7,0,zrI o.wh),(8,0,qaP o.d),(9,0,zrI gs)]
abbrev qBb (c:Ck) (g:List Int) (l:List P2):Prop:=Fn 14 9 [.ag [.pv (iV c.tn),.pv (iV c.td),.ls 0 c.s.length,.pv (iV c.x),.ls 1 c.l.length,.ls 2 c.u.length,.ls 3 c.b.length,.ls 4 c.fr.length,.ls 5 c.ev.length,.ls 6 c.wh.length,.ls 7 c.d.length,.ls 8 g.length]] (qmj c g) (.tu [.one (.ls 9 l.length),.one (.pv (iV 0))]) 1 [(9,0,.row 90 2 l.length (p2V l))]
abbrev qzY (c:Ck) (g:List Int) (l:List P2):Prop:=Fn 15 9 [.ag [.pv (iV c.tn),.pv (iV c.td),.ls 0 c.s.length,.pv (iV c.x),.ls 1 c.l.length,.ls 2 c.u.length,.ls 3 c.b.length,.ls 4 c.fr.length,.ls 5 c.ev.length,.ls 6 c.wh.length,.ls 7 c.d.length,.ls 8 g.length]] (qmj c g) (.tu [.one (.ls 9 l.length),.one (.pv (iV 0))]) 1 [(9,0,.row 90 2 l.length (p2V l))]
abbrev qz1 (gs:List Int) (o:Ck) (s:List Pt) (td:Int) (tn:Int):Prop:=Fn 12 1 [qas 0 s,.pv (qaa tn td)] [(0,0,qad s)] (.tu [.ag [.pv (iV o.tn),.pv (iV o.td),.ls 1 o.s.length,.pv (iV o.x),.ls 2 o.l.length,.ls 3 o.u.length,.ls 4 o.b.length,.ls 5 o.fr.length,.ls 6 o.ev.length,.ls 7 o.wh.length,.ls 8 o.d.length,.ls 9 gs.length],.one (.pv (iV 0))]) 9 (qAm gs o)
abbrev qAP (gs:List Int) (o:Ck) (s:List Pt) (td:Int) (tn:Int):Prop:=Fn 13 1 [qas 0 s,.pv (qaa tn td)] [(0,0,qad s)] (.tu [.ag [.pv (iV o.tn),.pv (iV o.td),.ls 1 o.s.length,.pv (iV o.x),.ls 2 o.l.length,.ls 3 o.u.length,.ls 4 o.b.length,.ls 5 o.fr.length,.ls 6 o.ev.length,.ls 7 o.wh.length,.ls 8 o.d.length,.ls 9 gs.length],.one (.pv (iV 0))]) 9 (qAm gs o)
abbrev qBi (l:List P2):Prop:=Fn 23 2 [.ls 0 l.length,.ls 1 l.length] [(0,0,.row 90 2 l.length (p2V l)),(1,0,.row 90 2 l.length (p2V l))] (.pv (.bool true)) 0 []
theorem qAT {s:List Pt} {l:List P2} {g:List Int} {tn td z u v:Int} {c:Ck} {gs:List Int} {o:Ck} {n9:Int} {y:Ev} (hG:qnV s) (hK:qDE c g) (hB:qz1 gs o s td tn) (hR:qAP gs o s td tn) (hE:qBb c g l) (hF:qzY c g l) (hL:qDN c g u v) (hM:qDO c g u v) (hN:qDJ c g y z) (hO:qEk c g y z) (hS:qHD gs o) (hC:qDK c g n9) (hD:qDW c g n9) (hT:qBi l) (hy:((y.n==y.n&&(y.d==y.d&&true))&&(y.k==y.k&&((y.i==y.i&&(y.w==y.w&&true))&&true)))=true) :
 Fn 3 10 [qas 0 s,.pv (qaa tn td),.ag [.pv (iV c.tn),.pv (iV c.td),.ls 1 c.s.length,.pv (iV c.x),.ls 2 c.l.length,.ls 3 c.u.length,.ls 4 c.b.length,.ls 5 c.fr.length,.ls 6 c.ev.length,.ls 7 c.wh.length,.ls 8 c.d.length,.ls 9 g.length]] (qly c g s) (.pv (.bool true)) 0 []:=
 Fz [] [Cf hG [0],Cf hK [1,2,3,4,5,6,7,8,9],Cf hB [0],Cf hB [0],Cf hE [1,2,3,4,5,6,7,8,9],Cf hE [1,2,3,4,5,6,7,8,9],Cf hL [1,2,3,4,5,6,7,8,9],Cf hL [1,2,3,4,5,6,7,8,9],Cf hN [1,2,3,4,5,6,7,8,9],Cf hN [1,2,3,4,5,6,7,8,9],.md,Cf hS [13,14,15,16,17,18,19,20,21,23,24,25,26,27,28,29,30,31],.k,Cf hC [1,2,3,4,5,6,7,8,9],Cf hC [1,2,3,4,5,6,7,8,9],.t true,Cf hT [33,34],.k,.t true,.t true,.t true,.t true]
  tI (Co hG [0] 13 (Co hK [1,2,3,4,5,6,7,8,9] 13 (Co hB [0] 13 (Co hR [0] 23 (Co hE [1,2,3,4,5,6,7,8,9] 33 (Co hF [1,2,3,4,5,6,7,8,9] 34 (Co hL [1,2,3,4,5,6,7,8,9] 35 (Co hM [1,2,3,4,5,6,7,8,9] 35 (Co hN [1,2,3,4,5,6,7,8,9] 35 (Co hO [1,2,3,4,5,6,7,8,9] 36 (Co hS [13,14,15,16,17,18,19,20,21,23,24,25,26,27,28,29,30,31] 37 (Co hC [1,2,3,4,5,6,7,8,9] 37 (Co hD [1,2,3,4,5,6,7,8,9] 37 (Ai (beq_self_eq_true n9) (Co hT [33,34] 37 (Ai (beq_self_eq_true u) (Ai (beq_self_eq_true v) (Ai hy (Ai (beq_self_eq_true z) tI)))))))))))))))))))
abbrev qDa (c:Ck) (g:List Int):Prop:=Fn 14 9 [.ag [.pv (iV c.tn),.pv (iV c.td),.ls 0 c.s.length,.pv (iV c.x),.ls 1 c.l.length,.ls 2 c.u.length,.ls 3 c.b.length,.ls 4 c.fr.length,.ls 5 c.ev.length,.ls 6 c.wh.length,.ls 7 c.d.length,.ls 8 g.length]] (qmj c g) (.pv (.tuple #[.slice none 0 0,iV 8])) 0 []
abbrev qDg (c:Ck) (g:List Int):Prop:=Fn 15 9 [.ag [.pv (iV c.tn),.pv (iV c.td),.ls 0 c.s.length,.pv (iV c.x),.ls 1 c.l.length,.ls 2 c.u.length,.ls 3 c.b.length,.ls 4 c.fr.length,.ls 5 c.ev.length,.ls 6 c.wh.length,.ls 7 c.d.length,.ls 8 g.length]] (qmj c g) (.pv (.tuple #[.slice none 0 0,iV 8])) 0 []
theorem qA1 {s:List Pt} {g:List Int} {tn td z u v:Int} {c:Ck} {gs:List Int} {o:Ck} {n9:Int} {y:Ev} (hG:qnV s) (hK:qDE c g) (hB:qz1 gs o s td tn) (hR:qAP gs o s td tn) (hE:qDa c g) (hF:qDg c g) (hL:qDN c g u v) (hM:qDO c g u v) (hN:qDJ c g y z) (hO:qEk c g y z) (hS:qHD gs o) (hC:qDK c g n9) (hD:qDW c g n9) (hT:Pure Tryz.prog 23 #[.slice none 0 0,.slice none 0 0] (.bool true)) (hy:((y.n==y.n&&(y.d==y.d&&true))&&(y.k==y.k&&((y.i==y.i&&(y.w==y.w&&true))&&true)))=true) :
 Fn 3 10 [qas 0 s,.pv (qaa tn td),.ag [.pv (iV c.tn),.pv (iV c.td),.ls 1 c.s.length,.pv (iV c.x),.ls 2 c.l.length,.ls 3 c.u.length,.ls 4 c.b.length,.ls 5 c.fr.length,.ls 6 c.ev.length,.ls 7 c.wh.length,.ls 8 c.d.length,.ls 9 g.length]] (qly c g s) (.pv (.bool true)) 0 []:=
 Fz [] [Cf hG [0],Cf hK [1,2,3,4,5,6,7,8,9],Cf hB [0],Cf hB [0],Cf hE [1,2,3,4,5,6,7,8,9],Cf hE [1,2,3,4,5,6,7,8,9],Cf hL [1,2,3,4,5,6,7,8,9],Cf hL [1,2,3,4,5,6,7,8,9],Cf hN [1,2,3,4,5,6,7,8,9],Cf hN [1,2,3,4,5,6,7,8,9],.md,Cf hS [13,14,15,16,17,18,19,20,21,23,24,25,26,27,28,29,30,31],.k,Cf hC [1,2,3,4,5,6,7,8,9],Cf hC [1,2,3,4,5,6,7,8,9],.t true,Rf hT,.k,.t true,.t true,.t true,.t true]
  tI (Co hG [0] 13 (Co hK [1,2,3,4,5,6,7,8,9] 13 (Co hB [0] 13 (Co hR [0] 23 (Co hE [1,2,3,4,5,6,7,8,9] 33 (Co hF [1,2,3,4,5,6,7,8,9] 33 (Co hL [1,2,3,4,5,6,7,8,9] 33 (Co hM [1,2,3,4,5,6,7,8,9] 33 (Co hN [1,2,3,4,5,6,7,8,9] 33 (Co hO [1,2,3,4,5,6,7,8,9] 34 (Co hS [13,14,15,16,17,18,19,20,21,23,24,25,26,27,28,29,30,31] 35 (Co hC [1,2,3,4,5,6,7,8,9] 35 (Co hD [1,2,3,4,5,6,7,8,9] 35 (Ai (beq_self_eq_true n9) (Ai hT (Ai (beq_self_eq_true u) (Ai (beq_self_eq_true v) (Ai hy (Ai (beq_self_eq_true z) tI)))))))))))))))))))
abbrev qz0:Prop:=Pure Tryz.prog 20 #[.agg #[(iV 0),(iV 0),(.slice none 0 0),(iV 0),(.slice none 0 0),(.slice none 0 0),(.slice none 0 0),(.slice none 0 0),(.slice none 0 0),(.slice none 0 0),(.slice none 0 0),(.slice none 0 0)],.agg #[(iV 0),(iV 0),(.slice none 0 0),(iV 0),(.slice none 0 0),(.slice none 0 0),(.slice none 0 0),(.slice none 0 0),(.slice none 0 0),(.slice none 0 0),(.slice none 0 0),(.slice none 0 0)]] (.bool true)
theorem qzO {s:List Pt} {l:List P2} {g:List Int} {tn td e z u v:Int} {c:Ck} {n9:Int} {y:Ev} (hG:qnV s) (hK:qDE c g) (hB:Fn 12 1 [qas 0 s,.pv (qaa tn td)] [(0,0,qad s)] (.pv (.tuple #[.agg #[(iV 0),(iV 0),(.slice none 0 0),(iV 0),(.slice none 0 0),(.slice none 0 0),(.slice none 0 0),(.slice none 0 0),(.slice none 0 0),(.slice none 0 0),(.slice none 0 0),(.slice none 0 0)],iV e])) 0 []) (hR:Fn 13 1 [qas 0 s,.pv (qaa tn td)] [(0,0,qad s)] (.pv (.tuple #[.agg #[(iV 0),(iV 0),(.slice none 0 0),(iV 0),(.slice none 0 0),(.slice none 0 0),(.slice none 0 0),(.slice none 0 0),(.slice none 0 0),(.slice none 0 0),(.slice none 0 0),(.slice none 0 0)],iV e])) 0 []) (hE:qBb c g l) (hF:qzY c g l) (hL:qDN c g u v) (hM:qDO c g u v) (hN:qDJ c g y z) (hO:qEk c g y z) (hS:qz0) (hC:qDK c g n9) (hD:qDW c g n9) (hT:qBi l) (hy:((y.n==y.n&&(y.d==y.d&&true))&&(y.k==y.k&&((y.i==y.i&&(y.w==y.w&&true))&&true)))=true) :
 Fn 3 10 [qas 0 s,.pv (qaa tn td),.ag [.pv (iV c.tn),.pv (iV c.td),.ls 1 c.s.length,.pv (iV c.x),.ls 2 c.l.length,.ls 3 c.u.length,.ls 4 c.b.length,.ls 5 c.fr.length,.ls 6 c.ev.length,.ls 7 c.wh.length,.ls 8 c.d.length,.ls 9 g.length]] (qly c g s) (.pv (.bool true)) 0 []:=
 Fz [] [Cf hG [0],Cf hK [1,2,3,4,5,6,7,8,9],Cf hB [0],Cf hB [0],Cf hE [1,2,3,4,5,6,7,8,9],Cf hE [1,2,3,4,5,6,7,8,9],Cf hL [1,2,3,4,5,6,7,8,9],Cf hL [1,2,3,4,5,6,7,8,9],Cf hN [1,2,3,4,5,6,7,8,9],Cf hN [1,2,3,4,5,6,7,8,9],.md,Rf hS,.t true,Cf hC [1,2,3,4,5,6,7,8,9],Cf hC [1,2,3,4,5,6,7,8,9],.t true,Cf hT [15,16],.k,.t true,.t true,.t true,.t true]
  tI (Co hG [0] 13 (Co hK [1,2,3,4,5,6,7,8,9] 13 (Co hB [0] 13 (Co hR [0] 14 (Co hE [1,2,3,4,5,6,7,8,9] 15 (Co hF [1,2,3,4,5,6,7,8,9] 16 (Co hL [1,2,3,4,5,6,7,8,9] 17 (Co hM [1,2,3,4,5,6,7,8,9] 17 (Co hN [1,2,3,4,5,6,7,8,9] 17 (Co hO [1,2,3,4,5,6,7,8,9] 18 (Ai hS (Ai (beq_self_eq_true e) (Co hC [1,2,3,4,5,6,7,8,9] 19 (Co hD [1,2,3,4,5,6,7,8,9] 19 (Ai (beq_self_eq_true n9) (Co hT [15,16] 19 (Ai (beq_self_eq_true u) (Ai (beq_self_eq_true v) (Ai hy (Ai (beq_self_eq_true z) tI))))))))))))))))))))
theorem qAg {s:List Pt} {g:List Int} {tn td e z u v:Int} {c:Ck} {n9:Int} {y:Ev} (hG:qnV s) (hK:qDE c g) (hB:Fn 12 1 [qas 0 s,.pv (qaa tn td)] [(0,0,qad s)] (.pv (.tuple #[.agg #[(iV 0),(iV 0),(.slice none 0 0),(iV 0),(.slice none 0 0),(.slice none 0 0),(.slice none 0 0),(.slice none 0 0),(.slice none 0 0),(.slice none 0 0),(.slice none 0 0),(.slice none 0 0)],iV e])) 0 []) (hR:Fn 13 1 [qas 0 s,.pv (qaa tn td)] [(0,0,qad s)] (.pv (.tuple #[.agg #[(iV 0),(iV 0),(.slice none 0 0),(iV 0),(.slice none 0 0),(.slice none 0 0),(.slice none 0 0),(.slice none 0 0),(.slice none 0 0),(.slice none 0 0),(.slice none 0 0),(.slice none 0 0)],iV e])) 0 []) (hE:qDa c g) (hF:qDg c g) (hL:qDN c g u v) (hM:qDO c g u v) (hN:qDJ c g y z) (hO:qEk c g y z) (hS:qz0) (hC:qDK c g n9) (hD:qDW c g n9) (hT:Pure Tryz.prog 23 #[.slice none 0 0,.slice none 0 0] (.bool true)) (hy:((y.n==y.n&&(y.d==y.d&&true))&&(y.k==y.k&&((y.i==y.i&&(y.w==y.w&&true))&&true)))=true) :
 Fn 3 10 [qas 0 s,.pv (qaa tn td),.ag [.pv (iV c.tn),.pv (iV c.td),.ls 1 c.s.length,.pv (iV c.x),.ls 2 c.l.length,.ls 3 c.u.length,.ls 4 c.b.length,.ls 5 c.fr.length,.ls 6 c.ev.length,.ls 7 c.wh.length,.ls 8 c.d.length,.ls 9 g.length]] (qly c g s) (.pv (.bool true)) 0 []:=
 Fz [] [Cf hG [0],Cf hK [1,2,3,4,5,6,7,8,9],Cf hB [0],Cf hB [0],Cf hE [1,2,3,4,5,6,7,8,9],Cf hE [1,2,3,4,5,6,7,8,9],Cf hL [1,2,3,4,5,6,7,8,9],Cf hL [1,2,3,4,5,6,7,8,9],Cf hN [1,2,3,4,5,6,7,8,9],Cf hN [1,2,3,4,5,6,7,8,9],.md,Rf hS,.t true,Cf hC [1,2,3,4,5,6,7,8,9],Cf hC [1,2,3,4,5,6,7,8,9],.t true,Rf hS,.k,.t true,.t true,.t true,.t true]
  tI (Co hG [0] 13 (Co hK [1,2,3,4,5,6,7,8,9] 13 (Co hB [0] 13 (Co hR [0] 14 (Co hE [1,2,3,4,5,6,7,8,9] 15 (Co hF [1,2,3,4,5,6,7,8,9] 15 (Co hL [1,2,3,4,5,6,7,8,9] 15 (Co hM [1,2,3,4,5,6,7,8,9] 15 (Co hN [1,2,3,4,5,6,7,8,9] 15 (Co hO [1,2,3,4,5,6,7,8,9] 16 (Ai hS (Ai (beq_self_eq_true e) (Co hC [1,2,3,4,5,6,7,8,9] 17 (Co hD [1,2,3,4,5,6,7,8,9] 17 (Ai (beq_self_eq_true n9) (Ai hT (Ai (beq_self_eq_true u) (Ai (beq_self_eq_true v) (Ai hy (Ai (beq_self_eq_true z) tI))))))))))))))))))))
end Go.Proofs.YtkckcgpmnipnaaaGreat

namespace Go.Proofs.YtkckcgpmnipnaaaGreat
set_option maxRecDepth 100000
open Go.RowKit
abbrev qzz (c:Ck) (l:List P2) (s:List Pt):HpL:=[(0,0,qad c.s),(1,0,qam c.l),(2,0,zrI c.u),(3,0,zrB c.b),(4,0,zrI c.fr),(5,0,qar c.ev),(6,0,zrI c.wh),(7,0,qaP c.d),(8,0,qad s),(9,0,.row 90 2 l.length (p2V l))]
theorem qFZ {s:List Pt} {l:List P2} {c:Ck} {ps:List Pt} (hs1:Fn 106 1 [.ls 0 l.length] [(0,0,.row 90 2 l.length (p2V l))] (.mp 1) 1 [(1,0,.mrow (qaI ps))]) (hs2:Fn 107 8 [qaz c] (qaC c) (.mp 8) 1 [(8,0,.mrow (qaI []))]) (h0:decide ((0:Int)<(c.l.length:Int))=false) (heq:Fn 109 2 [.ls 0 c.s.length,.ls 1 s.length] [(0,0,qad c.s),(1,0,qad s)] (.pv (.bool true)) 0 []) (h1:decide ((0:Int)<(l.length:Int))=false) :
 Fn 52 10 [qaz c,qas 8 s,.ls 9 l.length] (qzz c l s) (.tu [.ag [.pv (iV c.tn),.pv (iV c.td),.ls 0 c.s.length,.pv (iV c.x),.ls 1 c.l.length,.ls 2 c.u.length,.ls 3 c.b.length,.ls 4 c.fr.length,.ls 5 c.ev.length,.ls 6 c.wh.length,.ls 7 c.d.length],.one (.pv (iV 0))]) 0 []:=
 Fz [] [.md,Cf hs1 [9],Cf hs2 [0,1,2,3,4,5,6,7],.t false,Cf heq [0,8],.k,.t false]
  tI (Co hs1 [9] 13 (Co hs2 [0,1,2,3,4,5,6,7] 14 (Ai h0 (Co heq [0,8] 15 (Ai h1 tI)))))
abbrev qHs (l:List P2) (o1:Ck):HpL:=[(10,0,.pv (iV o1.tn)),(10,1,.pv (iV o1.td)),(10,2,.ls 16 o1.s.length),(10,3,.pv (iV o1.x)),(10,4,.ls 17 o1.l.length),(10,5,.ls 18 o1.u.length),(10,6,.ls 19 o1.b.length),(10,7,.ls 20 o1.fr.length),(10,8,.ls 21 o1.ev.length),(10,9,.ls 22 o1.wh.length),(10,10,.ls 23 o1.d.length),(12,0,.pv (iV 0)),(12,1,.pv (iV 0)),(12,2,.pv (.slice none 0 0)),(12,3,.pv (iV 0)),(12,4,.pv (.slice none 0 0)),(12,5,.pv (.slice none 0 0)),(12,6,.pv (.slice none 0 0)),(12,7,.pv (.slice none 0 0)),(12,8,.pv (.slice none 0 0)),(12,9,.pv (.slice none 0 0)),(12,10,.pv (.slice none 0 0)),(16,0,qad o1.s),(17,0,qam o1.l),(18,0,zrI o1.u),(19,0,zrB o1.b),(20,0,zrI o1.fr),(21,0,qar o1.ev),(22,0,zrI o1.wh),(23,0,qaP o1.d),(14,0,.mrow (qaI [])),(9,0,.row 90 2 l.length (p2V l))]
abbrev qHd (o:Ck):HpL:=[(10,0,.pv (iV o.tn)),(10,1,.pv (iV o.td)),(10,2,.ls 16 o.s.length),(10,3,.pv (iV o.x)),(10,4,.ls 17 o.l.length),(10,5,.ls 18 o.u.length),(10,6,.ls 19 o.b.length),(10,7,.ls 20 o.fr.length),(10,8,.ls 21 o.ev.length),(10,9,.ls 22 o.wh.length),(10,10,.ls 23 o.d.length),(12,0,.pv (iV 0)),(12,1,.pv (iV 0)),(12,2,.pv (.slice none 0 0)),(12,3,.pv (iV 0)),(12,4,.pv (.slice none 0 0)),(12,5,.pv (.slice none 0 0)),(12,6,.pv (.slice none 0 0)),(12,7,.pv (.slice none 0 0)),(12,8,.pv (.slice none 0 0)),(12,9,.pv (.slice none 0 0)),(12,10,.pv (.slice none 0 0)),(16,0,qad o.s),(17,0,qam o.l),(18,0,zrI o.u),(19,0,zrB o.b),(20,0,zrI o.fr),(21,0,qar o.ev),(22,0,zrI o.wh),(23,0,qaP o.d)]
abbrev quZ (o:Ck):HpL:=[(10,0,qad o.s),(11,0,qam o.l),(12,0,zrI o.u),(13,0,zrB o.b),(14,0,zrI o.fr),(15,0,qar o.ev),(16,0,zrI o.wh),(17,0,qaP o.d)]
theorem qFG {s:List Pt} {l:List P2} {x:P2} {c:Ck} {ps:List Pt} {o o1:Ck} {n9:Int} (hs1:Fn 106 1 [.ls 0 l.length] [(0,0,.row 90 2 l.length (p2V l))] (.mp 1) 1 [(1,0,.mrow (qaI ps))]) (hs2:Fn 107 8 [qaz c] (qaC c) (.mp 8) 1 [(8,0,.mrow (qaI []))]) (h0:decide ((0:Int)<(c.l.length:Int))=false) (heq:Fn 109 2 [.ls 0 c.s.length,.ls 1 s.length] [(0,0,qad c.s),(1,0,qad s)] (.pv (.bool true)) 0 []) (h1:decide ((0:Int)<(l.length:Int))=true) (hin:0≤((0:Nat):Int)∧((0:Nat):Int)<(l.length:Int)) (hk:l[(0:Nat)]?=some x) (hL:qcp Tryz.prog 167 (qaI []) (qah x.a x.b) false (.bool false)) (hc:Fn 111 8 [qaz c,.pv (qah x.a x.b)] (qaC c) (.tu [qrc o1,.one (.pv (iV n9)),.one (.pv (iV 0))]) 8 (qeR o1)) (r0:Rl 10 10 52 1 79 24 ([(3,.pp 10 0),(6,.pp 12 0),(9,.mp 14),(57,.ls 9 l.length),(58,.pv (iV (l.length:Int))),(59,.pv (iV ((1:Nat):Int)))]) (qHs l o1) (.exit 2) ([(3,.pp 10 0),(6,.pp 12 0)]) (qHd o)) :
 Fn 52 10 [qaz c,qas 8 s,.ls 9 l.length] (qzz c l s) (.tu [.ag [.pv (iV o.tn),.pv (iV o.td),.ls 10 o.s.length,.pv (iV o.x),.ls 11 o.l.length,.ls 12 o.u.length,.ls 13 o.b.length,.ls 14 o.fr.length,.ls 15 o.ev.length,.ls 16 o.wh.length,.ls 17 o.d.length],.one (.pv (iV 0))]) 8 (quZ o):=
 Fz [(10,16),(11,17),(12,18),(13,19),(14,20),(15,21),(16,22),(17,23)] [.md,Cf hs1 [9],Cf hs2 [0,1,2,3,4,5,6,7],.t false,Cf heq [0,8],.k,.t true,.r (qah x.a x.b),.r (.bool false),Cf hc [0,1,2,3,4,5,6,7],.k,.k,Lf r0]
  (qaE (qaK [(10,16),(11,17),(12,18),(13,19),(14,20),(15,21),(16,22),(17,23)]) (quZ o)) (Co hs1 [9] 13 (Co hs2 [0,1,2,3,4,5,6,7] 14 (Ai h0 (Co heq [0,8] 15 (Ai h1 (Ai hin (Ai (qdx hk) (Ai hL (Co hc [0,1,2,3,4,5,6,7] 16 (Lo r0 [] tI))))))))))
abbrev qHa (l:List P2) (o:Ck):HpL:=[(10,0,.pv (iV o.tn)),(10,1,.pv (iV o.td)),(10,2,.ls 16 o.s.length),(10,3,.pv (iV o.x)),(10,4,.ls 17 o.l.length),(10,5,.ls 18 o.u.length),(10,6,.ls 19 o.b.length),(10,7,.ls 20 o.fr.length),(10,8,.ls 21 o.ev.length),(10,9,.ls 22 o.wh.length),(10,10,.ls 23 o.d.length),(12,0,.pv (iV 0)),(12,1,.pv (iV 0)),(12,2,.pv (.slice none 0 0)),(12,3,.pv (iV 0)),(12,4,.pv (.slice none 0 0)),(12,5,.pv (.slice none 0 0)),(12,6,.pv (.slice none 0 0)),(12,7,.pv (.slice none 0 0)),(12,8,.pv (.slice none 0 0)),(12,9,.pv (.slice none 0 0)),(12,10,.pv (.slice none 0 0)),(16,0,qad o.s),(17,0,qam o.l),(18,0,zrI o.u),(19,0,zrB o.b),(20,0,zrI o.fr),(21,0,qar o.ev),(22,0,zrI o.wh),(23,0,qaP o.d),(14,0,.mrow (qaI [])),(9,0,.row 90 2 l.length (p2V l))]
theorem qpZ {l:List P2} {k:Nat} {x:P2} {o o1:Ck} {n9:Int} (hlt:decide ((k:Int)<(l.length:Int))=true) (hin:0≤(k:Int)∧(k:Int)<(l.length:Int)) (hk:l[k]?=some x) (hL:qcp Tryz.prog 167 (qaI []) (qah x.a x.b) false (.bool false)) (hc:Fn 111 8 [qaz o,.pv (qah x.a x.b)] (qaC o) (.tu [qrc o1,.one (.pv (iV n9)),.one (.pv (iV 0))]) 8 (qeR o1)) (hs:iV (IntKind.i64.wrap ((k:Int)+1))=iV (((k+1:Nat):Int))) {e:Exit} {tm2:TmL} {hp2:HpL}
 (r:Rl 10 10 52 1 79 24 ([(3,.pp 10 0),(6,.pp 12 0),(9,.mp 14),(57,.ls 9 l.length),(58,.pv (iV (l.length:Int))),(59,.pv (iV ((k+1:Nat):Int)))]) (qHs l o1) e tm2 hp2):Rl 10 10 52 1 79 24 ([(3,.pp 10 0),(6,.pp 12 0),(9,.mp 14),(57,.ls 9 l.length),(58,.pv (iV (l.length:Int))),(59,.pv (iV (k:Int)))]) (qHa l o) e tm2 hp2:=
 RunsL.next [(16,25),(17,26),(18,27),(19,28),(20,29),(21,30),(22,31),(23,32)] 300 [.t true,.r (qah x.a x.b),.r (.bool false),Cf hc [16,17,18,19,20,21,22,23],.k,Re hs]
  (Ro (Ai hlt (Ai hin (Ai (qdx hk) (Ai hL (Co hc [16,17,18,19,20,21,22,23] 25 (Ai hs tI))))))) r
theorem quO {l:List P2} {k:Nat} {o:Ck} (hlt:decide ((k:Int)<(l.length:Int))=false):Rl 10 10 52 1 79 24 ([(3,.pp 10 0),(6,.pp 12 0),(9,.mp 14),(57,.ls 9 l.length),(58,.pv (iV (l.length:Int))),(59,.pv (iV (k:Int)))]) (qHa l o) (.exit 2) ([(3,.pp 10 0),(6,.pp 12 0)]) (qHd o):=
 RunsL.stop [] 300 [.t false] (fun h=>by cases h)
  (Ro (Ai hlt tI))
theorem qv7 {s:List Pt} {tn td e:Int} (hn:Fn 50 1 [qas 0 s,.pv (qaa tn td)] [(0,0,qad s)] (.pv (.tuple #[qiC,iV e])) 0 []) (he:(e !=0)=true) :
 Fn 12 1 [qas 0 s,.pv (qaa tn td)] [(0,0,qad s)] (.pv (.tuple #[.agg #[(iV 0),(iV 0),(.slice none 0 0),(iV 0),(.slice none 0 0),(.slice none 0 0),(.slice none 0 0),(.slice none 0 0),(.slice none 0 0),(.slice none 0 0),(.slice none 0 0),(.slice none 0 0)],iV e])) 0 []:=
 Fz [] [Cf hn [0],.t true]
  tI (Co hn [0] 4 (Ai he tI))
abbrev qHA (c:Ck) (l:List P2) (s:List Pt):HpL:=[(0,0,qad (Ck.mk c.tn c.td c.s 0 [] c.u c.b c.fr [] c.wh []).s),(1,0,qam (Ck.mk c.tn c.td c.s 0 [] c.u c.b c.fr [] c.wh []).l),(2,0,zrI (Ck.mk c.tn c.td c.s 0 [] c.u c.b c.fr [] c.wh []).u),(3,0,zrB (Ck.mk c.tn c.td c.s 0 [] c.u c.b c.fr [] c.wh []).b),(4,0,zrI (Ck.mk c.tn c.td c.s 0 [] c.u c.b c.fr [] c.wh []).fr),(5,0,qar (Ck.mk c.tn c.td c.s 0 [] c.u c.b c.fr [] c.wh []).ev),(6,0,zrI (Ck.mk c.tn c.td c.s 0 [] c.u c.b c.fr [] c.wh []).wh),(7,0,qaP (Ck.mk c.tn c.td c.s 0 [] c.u c.b c.fr [] c.wh []).d),(8,0,qad s),(9,0,.row 90 2 l.length (p2V l))]
abbrev qHF (c:Ck) (s:List Pt) (td:Int) (tn:Int):Prop:=Fn 50 1 [qas 0 s,.pv (qaa tn td)] [(0,0,qad s)] (.tu [.ag [.pv (iV c.tn),.pv (iV c.td),.ls 1 c.s.length,.pv (iV 0),.ls 7 0,.ls 2 c.u.length,.ls 3 c.b.length,.ls 4 c.fr.length,.ls 6 0,.ls 5 c.wh.length,.ls 8 0],.one (.pv (iV 0))]) 8 [(8,0,qaP []),(7,0,qam []),(1,0,qad c.s),(2,0,zrI c.u),(3,0,zrB c.b),(4,0,zrI c.fr),(5,0,zrI c.wh),(6,0,qar [])]
abbrev qEp (g:List Int) (l:List P2):Prop:=Fn 53 1 [.ls 0 g.length] [(0,0,zrI g)] (.ls 1 l.length) 1 [(1,0,.row 90 2 l.length (p2V l))]
theorem qGJ {s:List Pt} {l:List P2} {g:List Int} {tn td:Int} {c:Ck} (hn:qHF c s td tn) (hg:Fn 51 1 [qas 0 s,.pv (qaa tn td)] [(0,0,qad s)] (.ls 1 g.length) 1 [(1,0,zrI g)]) (he:qEp g l) (hr:Fn 52 10 [qaz (Ck.mk c.tn c.td c.s 0 [] c.u c.b c.fr [] c.wh []),qas 8 s,.ls 9 l.length] (qHA c l s) (.tu [.ag [.pv (iV (Ck.mk c.tn c.td c.s 0 [] c.u c.b c.fr [] c.wh []).tn),.pv (iV (Ck.mk c.tn c.td c.s 0 [] c.u c.b c.fr [] c.wh []).td),.ls 0 (Ck.mk c.tn c.td c.s 0 [] c.u c.b c.fr [] c.wh []).s.length,.pv (iV (Ck.mk c.tn c.td c.s 0 [] c.u c.b c.fr [] c.wh []).x),.ls 1 (Ck.mk c.tn c.td c.s 0 [] c.u c.b c.fr [] c.wh []).l.length,.ls 2 (Ck.mk c.tn c.td c.s 0 [] c.u c.b c.fr [] c.wh []).u.length,.ls 3 (Ck.mk c.tn c.td c.s 0 [] c.u c.b c.fr [] c.wh []).b.length,.ls 4 (Ck.mk c.tn c.td c.s 0 [] c.u c.b c.fr [] c.wh []).fr.length,.ls 5 (Ck.mk c.tn c.td c.s 0 [] c.u c.b c.fr [] c.wh []).ev.length,.ls 6 (Ck.mk c.tn c.td c.s 0 [] c.u c.b c.fr [] c.wh []).wh.length,.ls 7 (Ck.mk c.tn c.td c.s 0 [] c.u c.b c.fr [] c.wh []).d.length],.one (.pv (iV 0))]) 0 []) :
 Fn 12 1 [qas 0 s,.pv (qaa tn td)] [(0,0,qad s)] (.tu [.ag [.pv (iV (Ck.mk c.tn c.td c.s 0 [] c.u c.b c.fr [] c.wh []).tn),.pv (iV (Ck.mk c.tn c.td c.s 0 [] c.u c.b c.fr [] c.wh []).td),.ls 1 (Ck.mk c.tn c.td c.s 0 [] c.u c.b c.fr [] c.wh []).s.length,.pv (iV (Ck.mk c.tn c.td c.s 0 [] c.u c.b c.fr [] c.wh []).x),.ls 2 (Ck.mk c.tn c.td c.s 0 [] c.u c.b c.fr [] c.wh []).l.length,.ls 3 (Ck.mk c.tn c.td c.s 0 [] c.u c.b c.fr [] c.wh []).u.length,.ls 4 (Ck.mk c.tn c.td c.s 0 [] c.u c.b c.fr [] c.wh []).b.length,.ls 5 (Ck.mk c.tn c.td c.s 0 [] c.u c.b c.fr [] c.wh []).fr.length,.ls 6 (Ck.mk c.tn c.td c.s 0 [] c.u c.b c.fr [] c.wh []).ev.length,.ls 7 (Ck.mk c.tn c.td c.s 0 [] c.u c.b c.fr [] c.wh []).wh.length,.ls 8 (Ck.mk c.tn c.td c.s 0 [] c.u c.b c.fr [] c.wh []).d.length,.ls 9 g.length],.one (.pv (iV 0))]) 9 [(1,0,qad (Ck.mk c.tn c.td c.s 0 [] c.u c.b c.fr [] c.wh []).s),(2,0,qam (Ck.mk c.tn c.td c.s 0 [] c.u c.b c.fr [] c.wh []).l),(3,0,zrI (Ck.mk c.tn c.td c.s 0 [] c.u c.b c.fr [] c.wh []).u),(4,0,zrB (Ck.mk c.tn c.td c.s 0 [] c.u c.b c.fr [] c.wh []).b),(5,0,zrI (Ck.mk c.tn c.td c.s 0 [] c.u c.b c.fr [] c.wh []).fr),(6,0,qar (Ck.mk c.tn c.td c.s 0 [] c.u c.b c.fr [] c.wh []).ev),(7,0,zrI (Ck.mk c.tn c.td c.s 0 [] c.u c.b c.fr [] c.wh []).wh),(8,0,qaP (Ck.mk c.tn c.td c.s 0 [] c.u c.b c.fr [] c.wh []).d),(9,0,zrI g)]:=
 Fz [(1,4),(2,10),(3,5),(4,6),(5,7),(6,9),(7,8),(8,11),(9,13)] [Cf hn [0],.k,Cf hg [0],.md,Cf he [13],Cf hr [4,10,5,6,7,9,8,11,0,14]]
  (qaE (qaK [(1,4),(2,10),(3,5),(4,6),(5,7),(6,9),(7,8),(8,11),(9,13)]) [(1,0,qad (Ck.mk c.tn c.td c.s 0 [] c.u c.b c.fr [] c.wh []).s),(2,0,qam (Ck.mk c.tn c.td c.s 0 [] c.u c.b c.fr [] c.wh []).l),(3,0,zrI (Ck.mk c.tn c.td c.s 0 [] c.u c.b c.fr [] c.wh []).u),(4,0,zrB (Ck.mk c.tn c.td c.s 0 [] c.u c.b c.fr [] c.wh []).b),(5,0,zrI (Ck.mk c.tn c.td c.s 0 [] c.u c.b c.fr [] c.wh []).fr),(6,0,qar (Ck.mk c.tn c.td c.s 0 [] c.u c.b c.fr [] c.wh []).ev),(7,0,zrI (Ck.mk c.tn c.td c.s 0 [] c.u c.b c.fr [] c.wh []).wh),(8,0,qaP (Ck.mk c.tn c.td c.s 0 [] c.u c.b c.fr [] c.wh []).d),(9,0,zrI g)]) (Co hn [0] 4 (Co hg [0] 13 (Co he [13] 14 (Co hr [4,10,5,6,7,9,8,11,0,14] 15 tI))))
theorem qGD {s:List Pt} {l:List P2} {g:List Int} {tn td:Int} {c:Ck} {o:Ck} (hn:qHF c s td tn) (hg:Fn 51 1 [qas 0 s,.pv (qaa tn td)] [(0,0,qad s)] (.ls 1 g.length) 1 [(1,0,zrI g)]) (he:qEp g l) (hr:Fn 52 10 [qaz (Ck.mk c.tn c.td c.s 0 [] c.u c.b c.fr [] c.wh []),qas 8 s,.ls 9 l.length] (qHA c l s) (.tu [.ag [.pv (iV o.tn),.pv (iV o.td),.ls 10 o.s.length,.pv (iV o.x),.ls 11 o.l.length,.ls 12 o.u.length,.ls 13 o.b.length,.ls 14 o.fr.length,.ls 15 o.ev.length,.ls 16 o.wh.length,.ls 17 o.d.length],.one (.pv (iV 0))]) 8 (quZ o)) :
 Fn 12 1 [qas 0 s,.pv (qaa tn td)] [(0,0,qad s)] (.tu [.ag [.pv (iV o.tn),.pv (iV o.td),.ls 1 o.s.length,.pv (iV o.x),.ls 2 o.l.length,.ls 3 o.u.length,.ls 4 o.b.length,.ls 5 o.fr.length,.ls 6 o.ev.length,.ls 7 o.wh.length,.ls 8 o.d.length,.ls 9 g.length],.one (.pv (iV 0))]) 9 [(1,0,qad o.s),(2,0,qam o.l),(3,0,zrI o.u),(4,0,zrB o.b),(5,0,zrI o.fr),(6,0,qar o.ev),(7,0,zrI o.wh),(8,0,qaP o.d),(9,0,zrI g)]:=
 Fz [(1,15),(2,16),(3,17),(4,18),(5,19),(6,20),(7,21),(8,22),(9,13)] [Cf hn [0],.k,Cf hg [0],.md,Cf he [13],Cf hr [4,10,5,6,7,9,8,11,0,14]]
  (qaE (qaK [(1,15),(2,16),(3,17),(4,18),(5,19),(6,20),(7,21),(8,22),(9,13)]) [(1,0,qad o.s),(2,0,qam o.l),(3,0,zrI o.u),(4,0,zrB o.b),(5,0,zrI o.fr),(6,0,qar o.ev),(7,0,zrI o.wh),(8,0,qaP o.d),(9,0,zrI g)]) (Co hn [0] 4 (Co hg [0] 13 (Co he [13] 14 (Co hr [4,10,5,6,7,9,8,11,0,14] 15 tI))))
abbrev qr3 (c:Ck) (g:List Int):HpL:=[(0,0,qad c.s),(1,0,qam c.l),(2,0,zrI c.u),(3,0,zrB c.b),(4,0,zrI c.fr),(5,0,qar c.ev),(6,0,zrI c.wh),(7,0,qaP c.d),(8,0,zrI g)]
abbrev qGE (c:Ck) (g:List Int):Prop:=Fn 21 9 [.ag [.pv (iV c.tn),.pv (iV c.td),.ls 0 c.s.length,.pv (iV c.x),.ls 1 c.l.length,.ls 2 c.u.length,.ls 3 c.b.length,.ls 4 c.fr.length,.ls 5 c.ev.length,.ls 6 c.wh.length,.ls 7 c.d.length,.ls 8 g.length]] (qr3 c g) (.pv (iV (8))) 0 []
theorem qwS {g:List Int} {c:Ck} (hc:qGE c g) :
 Fn 14 9 [.ag [.pv (iV c.tn),.pv (iV c.td),.ls 0 c.s.length,.pv (iV c.x),.ls 1 c.l.length,.ls 2 c.u.length,.ls 3 c.b.length,.ls 4 c.fr.length,.ls 5 c.ev.length,.ls 6 c.wh.length,.ls 7 c.d.length,.ls 8 g.length]] (qr3 c g) (.pv (.tuple #[.slice none 0 0,iV 8])) 0 []:=
 Fz [] [Cf hc [0,1,2,3,4,5,6,7,8],.k]
  tI (Co hc [0,1,2,3,4,5,6,7,8] 10 tI)
abbrev qDQ (c:Ck) (g:List Int):Prop:=Fn 21 9 [.ag [.pv (iV c.tn),.pv (iV c.td),.ls 0 c.s.length,.pv (iV c.x),.ls 1 c.l.length,.ls 2 c.u.length,.ls 3 c.b.length,.ls 4 c.fr.length,.ls 5 c.ev.length,.ls 6 c.wh.length,.ls 7 c.d.length,.ls 8 g.length]] (qr3 c g) (.pv (iV (0))) 0 []
theorem qzJ {l:List P2} {g:List Int} {c:Ck} (hc:qDQ c g) (he:qEp g l) :
 Fn 14 9 [.ag [.pv (iV c.tn),.pv (iV c.td),.ls 0 c.s.length,.pv (iV c.x),.ls 1 c.l.length,.ls 2 c.u.length,.ls 3 c.b.length,.ls 4 c.fr.length,.ls 5 c.ev.length,.ls 6 c.wh.length,.ls 7 c.d.length,.ls 8 g.length]] (qr3 c g) (.tu [.one (.ls 9 l.length),.one (.pv (iV 0))]) 1 [(9,0,.row 90 2 l.length (p2V l))]:=
 Fz [(9,10)] [Cf hc [0,1,2,3,4,5,6,7,8],.k,Cf he [8]]
  (qaE (qaK [(9,10)]) [(9,0,.row 90 2 l.length (p2V l))]) (Co hc [0,1,2,3,4,5,6,7,8] 10 (Co he [8] 10 tI))
theorem qwb {g:List Int} {c:Ck} (hc:qGE c g) :
 Fn 16 9 [.ag [.pv (iV c.tn),.pv (iV c.td),.ls 0 c.s.length,.pv (iV c.x),.ls 1 c.l.length,.ls 2 c.u.length,.ls 3 c.b.length,.ls 4 c.fr.length,.ls 5 c.ev.length,.ls 6 c.wh.length,.ls 7 c.d.length,.ls 8 g.length]] (qr3 c g) (.pv (.tuple #[iV 0,iV 8])) 0 []:=
 Fz [] [Cf hc [0,1,2,3,4,5,6,7,8],.k]
  tI (Co hc [0,1,2,3,4,5,6,7,8] 10 tI)
theorem qqP {g:List Int} {c:Ck} (hc:qDQ c g) (h0:((g.length:Int)==0)=true) :
 Fn 16 9 [.ag [.pv (iV c.tn),.pv (iV c.td),.ls 0 c.s.length,.pv (iV c.x),.ls 1 c.l.length,.ls 2 c.u.length,.ls 3 c.b.length,.ls 4 c.fr.length,.ls 5 c.ev.length,.ls 6 c.wh.length,.ls 7 c.d.length,.ls 8 g.length]] (qr3 c g) (.pv (.tuple #[iV 0,iV 42])) 0 []:=
 Fz [] [Cf hc [0,1,2,3,4,5,6,7,8],.k,.t true]
  tI (Co hc [0,1,2,3,4,5,6,7,8] 10 (Ai h0 tI))
theorem qzF {g:List Int} {u:Int} {c:Ck} (hc:qDQ c g) (h0:((g.length:Int)==0)=false) (hin:0≤(0:Int)∧(0:Int)<(g.length:Int)) (hk:g[0]?=some u) :
 Fn 16 9 [.ag [.pv (iV c.tn),.pv (iV c.td),.ls 0 c.s.length,.pv (iV c.x),.ls 1 c.l.length,.ls 2 c.u.length,.ls 3 c.b.length,.ls 4 c.fr.length,.ls 5 c.ev.length,.ls 6 c.wh.length,.ls 7 c.d.length,.ls 8 g.length]] (qr3 c g) (.pv (.tuple #[iV u,iV 0])) 0 []:=
 Fz [] [Cf hc [0,1,2,3,4,5,6,7,8],.k,.t false,.r (iV u)]
  tI (Co hc [0,1,2,3,4,5,6,7,8] 10 (Ai h0 (Ai hin (Ai (qaQ hk) tI))))
theorem qy5 {g:List Int} {c:Ck} (hc:qGE c g) :
 Fn 18 9 [.ag [.pv (iV c.tn),.pv (iV c.td),.ls 0 c.s.length,.pv (iV c.x),.ls 1 c.l.length,.ls 2 c.u.length,.ls 3 c.b.length,.ls 4 c.fr.length,.ls 5 c.ev.length,.ls 6 c.wh.length,.ls 7 c.d.length,.ls 8 g.length]] (qr3 c g) (.pv (.tuple #[.agg #[iV 0,iV 0,iV 0,iV 0,iV 0],iV 8])) 0 []:=
 Fz [] [Cf hc [0,1,2,3,4,5,6,7,8],.k]
  tI (Co hc [0,1,2,3,4,5,6,7,8] 11 tI)
theorem qtZ {y9:Ev} {g:List Int} {e:Int} {c:Ck} (hc:qDQ c g) (hx:Fn 55 8 [qaz c] (qaC c) (.pv (.tuple #[qae y9,iV e])) 0 []) :
 Fn 18 9 [.ag [.pv (iV c.tn),.pv (iV c.td),.ls 0 c.s.length,.pv (iV c.x),.ls 1 c.l.length,.ls 2 c.u.length,.ls 3 c.b.length,.ls 4 c.fr.length,.ls 5 c.ev.length,.ls 6 c.wh.length,.ls 7 c.d.length,.ls 8 g.length]] (qr3 c g) (.pv (.tuple #[qae y9,iV e])) 0 []:=
 Fz [] [Cf hc [0,1,2,3,4,5,6,7,8],.k,Cf hx [0,1,2,3,4,5,6,7]]
  tI (Co hc [0,1,2,3,4,5,6,7,8] 11 (Co hx [0,1,2,3,4,5,6,7] 11 tI))
end Go.Proofs.YtkckcgpmnipnaaaGreat

namespace Go.Proofs.YtkckcgpmnipnaaaGreat
set_option maxRecDepth 100000
open Go.RowKit
theorem qpQ {W w':World} {k:Nat} {β:Bl} {pre:List (Nat×Nat×SV)} {u:Value} {e:TypeId} {es n:Nat} {xs:List Value} (H:HRel W k β pre W) (hd:β.dom k) (hg:Gr W w') (ho:w'.ownsRow W.heap.size e es u n xs) (h1:∀ v∈xs,v.oneCell'=true) :
 HRel W k (β.setG k u) [(k,0,.row e es n xs)] w' where
 gr:=hg
 live:=fun b r h=>Nat.lt_of_lt_of_le (H.live b r h) hg.size
 inj:=H.inj
 new:=fun b r hb h=>by
  have h':β b=some r:=h
  rw[(hd b hb).1] at h';cases h'
 sep:=fun b r h=>by
  have hb:b≠k:=fun e=>by
   subst e
   have h':β b=some r:=h
   rw[(hd b (Nat.le_refl _)).1] at h';cases h'
  unfold Bl.setG
  simp only[if_neg hb]
  exact H.sep b r h
 cells:=fun b o sv hl hs=>by
  rw[qag] at hl
  split at hl
  ·cases hl;cases hs
  ·cases hl
 rows:=fun b o e' es' n' xs' hl=>by
  rw[qag] at hl
  split at hl
  ·rename_i hb
   obtain⟨rfl,rfl⟩:=hb
   cases hl
   exact⟨u,Bl.setG_same β _ u,qdF ho,h1,fun h=>by omega,fun _=>ho,fun _ c r hc hu=>by
    have h1:=(qat ho r hu).1
    have h2:=H.live c r hc
    omega⟩
  ·cases hl
 rinj:=fun b o e es n xs c o' e' es' n' xs' u v hl hl' h1 h2 hne=>by
  rw[qag] at hl hl'
  split at hl
  ·rename_i hb
   split at hl'
   ·rename_i hb'
    exact (hne (hb.1.symm.trans hb'.1)).elim
   ·cases hl'
  ·cases hl
 maps:=fun b o xs hl=>(qul (by rfl) hl).elim
theorem qmQ {k:Nat} {β:Bl} {u:Value} (hd:β.dom k):(β.setG k u).dom (k+1):=fun b hb=>⟨(hd b (by omega)).1,by unfold Bl.setG;simp only[if_neg (show b≠k by omega)];exact (hd b (by omega)).2⟩
abbrev qG7:SV:=.pc 183 [.pp 1 0]
theorem qjI {g:List Int} (hn:g.length≤100000):Fn 230 2 [.pv qdW,qG7] (vHI g) (.ls 2 g.length) 1 [(2,0,zrI g)]:=by
 intro W β us H hdm hu
 obtain⟨u,g0,hrow⟩:=H.rows 0 0 _ _ _ _ (show qaf (vHI g) 0 0=some (zrI g) from rfl)
 have hrd:Rd W 1 u g.length (ziV g):=hrow.rd
 obtain⟨rb,u',eb,h2,_,h4,h5⟩:=H.cells 1 0 _ (show qaf (vHI g) 1 0=some (.ls 0 g.length) from rfl) rfl
 have h3:β.g 0=some u':=h2.1
 rw[g0] at h3;cases h3
 have hrl:=H.live 1 rb eb
 obtain rfl:us=[qdW,fvI 183 #[qD9 rb]]:=by
  match us,hu with
  | [x,y],⟨h3,⟨vs,h1,h2⟩,_⟩=>
   match vs,h1 with
   | [v],⟨⟨r,hr,hx⟩,_⟩=>
    rw[eb] at hr;cases hr
    rw[h2,show x=qdW from h3,hx]
 refine (qeK (W:=W) (X:=g) (B:=fun b=>b=rb∨(ziV g≠[]∧u.ownBlock=some b)) (by kernel_rfl) (qrh h4 h5 hrd (Or.inl rfl) (fun hx k hk=>Or.inr ⟨hx,hk⟩) (by omega)) (fun b hb=>?_) hn).mono fun e w' ⟨v,he,hg,ho,_⟩=>?_
 ·rcases hb with rfl | ⟨hx,h⟩
  ·exact hrl
  ·exact hrd.lt hx b h
 ·have hd8:=hdm 2 (Nat.le_refl _)
  exact⟨v,β.setG 2 v,he,Bl.le_setG hd8.1 hd8.2,⟨Bl.setG_same _ _ _,qe8 ho⟩,qpQ H hdm hg ho (qfk g),qmQ hdm⟩
theorem qFT {g:List Int} (ha:Fn 230 2 [.pv qdW,.pc 183 [.pp 1 0]] [(1,0,.ls 0 g.length),(0,0,zrI g)] (.ls 2 g.length) 1 [(2,0,zrI g)]) :
 Fn 181 2 [.pc 183 [.pp 1 0]] [(1,0,.ls 0 g.length),(0,0,zrI g)] (.ls 2 g.length) 1 [(2,0,zrI g)]:=
 Fz [] [Cf ha [0,1]]
  (qaE (qaK []) [(2,0,zrI g)]) (Co ha [0,1] 2 tI)
theorem qFe {g:List Int} {gs:List Int} (hc:Fn 181 2 [.pc 183 [.pp 1 0]] [(1,0,.ls 0 g.length),(0,0,zrI g)] (.ls 2 g.length) 1 [(2,0,zrI g)]) (hm:FnM Tryz.prog 182 1 [.ls 0 g.length] [(0,0,zrI g)] (.tuple #[]) 0 ⟨3,1,g.length,ziV g⟩ (ziV gs)) :
 Fn 116 2 [.pc 183 [.pp 1 0]] [(1,0,.ls 0 g.length),(0,0,zrI g)] (.ls 2 g.length) 1 [(2,0,.row 3 1 g.length (ziV gs))]:=
 Fz [] [Cf hc [0,1],.m [2] [.ls 0 g.length] [(0,0,zrI g)] (.tuple #[]) 0 (ziV gs)]
  (qaE (qaK []) [(2,0,.row 3 1 g.length (ziV gs))]) (Co hc [0,1] 2 (Ai hm (Ai (Eq.refl (List.map (SV.ren (qbR [2] 3)) [.ls 0 g.length])) (Ai (qaE (qbR [2] 3) [(0,0,zrI g)]) tI))))
theorem qs6 {p:Pt} {z:Int} (hw:(z==p.id)=true) :
 Pure Tryz.prog 119 #[iV z,qab p.id p.a p.b] (.bool true):=
 qac (args:=[iV z,qab p.id p.a p.b]) 300 [.t true]
  (Ai rfl (Ai hw tI)) (by kernel_rfl)
theorem qzQ {p:Pt} {z:Int} (hw:(z==p.id)=false) :
 Pure Tryz.prog 119 #[iV z,qab p.id p.a p.b] (.bool false):=
 qac (args:=[iV z,qab p.id p.a p.b]) 300 [.t false]
  (Ai rfl (Ai hw tI)) (by kernel_rfl)
theorem qyI {s:List Pt} {gs:List Int} (hl:((gs.length:Int) !=(s.length:Int))=true) :
 Fn 118 2 [.ls 0 gs.length,.ls 1 s.length,.pv (.func (.func 119) #[] #[])] [(0,0,zrI gs),(1,0,qad s)] (.pv (.bool false)) 0 []:=
 Fz [] [.t true]
  tI (Ai hl tI)
abbrev qEZ (gs:List Int) (k:Nat) (s:List Pt):TmL:=[(1,.ls 1 s.length),(2,.pv (.func (.func 119) #[] #[])),(15,.ls 0 gs.length),(16,.pv (iV (gs.length:Int))),(17,.pv (iV (k:Int)))]
theorem qj0 {s:List Pt} {k:Nat} {p:Pt} {z:Int} {gs:List Int} (hlt:decide ((k:Int)<(gs.length:Int))=true) (i1:0≤(k:Int)∧(k:Int)<(gs.length:Int)) (g1:gs[k]?=some z) (i2:0≤(k:Int)∧(k:Int)<(s.length:Int)) (g2:s[k]?=some p) (hc:Pure Tryz.prog 119 #[iV z,qab p.id p.a p.b] (.bool true)) (hs:iV (IntKind.i64.wrap ((k:Int)+1))=iV (((k+1:Nat):Int))) {e:Exit} {tm2:TmL} {hp2:HpL}
 (r:Rl 2 2 118 0 32 2 ([(1,.ls 1 s.length),(2,.pv (.func (.func 119) #[] #[])),(15,.ls 0 gs.length),(16,.pv (iV (gs.length:Int))),(17,.pv (iV ((k+1:Nat):Int)))]) ([(0,0,zrI gs),(1,0,qad s)]) e tm2 hp2):Rl 2 2 118 0 32 2 (qEZ gs k s) ([(0,0,zrI gs),(1,0,qad s)]) e tm2 hp2:=
 RunsL.next [] 300 [.t true,.r (iV z),.r (ptV p),Rf hc,.k,Re hs]
  (Ro (Ai hlt (Ai i1 (Ai (qaQ g1) (Ai i2 (Ai (qaA g2) (Ai hc (Ai hs tI)))))))) r
theorem qzT {s:List Pt} {k:Nat} {p:Pt} {z:Int} {gs:List Int} (hlt:decide ((k:Int)<(gs.length:Int))=true) (i1:0≤(k:Int)∧(k:Int)<(gs.length:Int)) (g1:gs[k]?=some z) (i2:0≤(k:Int)∧(k:Int)<(s.length:Int)) (g2:s[k]?=some p) (hc:Pure Tryz.prog 119 #[iV z,qab p.id p.a p.b] (.bool false)):Rl 2 2 118 0 32 2 (qEZ gs k s) ([(0,0,zrI gs),(1,0,qad s)]) (.ret) ([(6,.pv (.bool false))]) ([]):=
 RunsL.stop [] 300 [.t true,.r (iV z),.r (ptV p),Rf hc,.k] (fun h=>by cases h)
  (Ro (Ai hlt (Ai i1 (Ai (qaQ g1) (Ai i2 (Ai (qaA g2) (Ai hc tI)))))))
theorem qwQ {s:List Pt} {k:Nat} {gs:List Int} (hlt:decide ((k:Int)<(gs.length:Int))=false):Rl 2 2 118 0 32 2 (qEZ gs k s) ([(0,0,zrI gs),(1,0,qad s)]) (.exit 0) ([]) ([]):=
 RunsL.stop [] 300 [.t false] (fun h=>by cases h)
  (Ro (Ai hlt tI))
abbrev qHp (gs:List Int) (s:List Pt):TmL:=[(1,.ls 1 s.length),(2,.pv (.func (.func 119) #[] #[])),(15,.ls 0 gs.length),(16,.pv (iV (gs.length:Int))),(17,.pv (iV ((0:Nat):Int)))]
theorem qoy {s:List Pt} {gs:List Int} (hl:((gs.length:Int) !=(s.length:Int))=false) (r0:Rl 2 2 118 0 32 2 (qHp gs s) ([(0,0,zrI gs),(1,0,qad s)]) (.ret) ([(6,.pv (.bool false))]) ([])) :
 Fn 118 2 [.ls 0 gs.length,.ls 1 s.length,.pv (.func (.func 119) #[] #[])] [(0,0,zrI gs),(1,0,qad s)] (.pv (.bool false)) 0 []:=
 Fz [] [.t false,Lf r0]
  tI (Ai hl (Lo r0 [] tI))
theorem qqd {s:List Pt} {gs:List Int} (hl:((gs.length:Int) !=(s.length:Int))=false) (r0:Rl 2 2 118 0 32 2 (qHp gs s) ([(0,0,zrI gs),(1,0,qad s)]) (.exit 0) ([]) ([])) :
 Fn 118 2 [.ls 0 gs.length,.ls 1 s.length,.pv (.func (.func 119) #[] #[])] [(0,0,zrI gs),(1,0,qad s)] (.pv (.bool true)) 0 []:=
 Fz [] [.t false,Lf r0]
  tI (Ai hl (Lo r0 [] tI))
abbrev qmk (c:Ck) (g:List Int):HpL:=[(0,0,qad c.s),(1,0,qam c.l),(2,0,zrI c.u),(3,0,zrB c.b),(4,0,zrI c.fr),(5,0,qar c.ev),(6,0,zrI c.wh),(7,0,qaP c.d),(8,0,zrI g)]
theorem qqK {g:List Int} {w:Bool} {c:Ck} {gs:List Int} (hq:Fn 116 2 [.pc 183 [.pp 1 0]] [(1,0,.ls 0 g.length),(0,0,zrI g)] (.ls 2 gs.length) 1 [(2,0,zrI gs)]) (he:Fn 118 2 [.ls 0 gs.length,.ls 1 c.s.length,.pv (.func (.func 119) #[] #[])] [(0,0,zrI gs),(1,0,qad c.s)] (.pv (.bool w)) 0 []) :
 Fn 58 9 [.ag [.pv (iV c.tn),.pv (iV c.td),.ls 0 c.s.length,.pv (iV c.x),.ls 1 c.l.length,.ls 2 c.u.length,.ls 3 c.b.length,.ls 4 c.fr.length,.ls 5 c.ev.length,.ls 6 c.wh.length,.ls 7 c.d.length,.ls 8 g.length]] (qmk c g) (.pv (.bool w)) 0 []:=
 Fz [] [.k,Cf hq [8,10],Cf he [11,0]]
  tI (Co hq [8,10] 11 (Co he [11,0] 12 tI))
theorem qsQ {p q:Pt} {w:Bool} {c:Ck} {e1 e2 a b:Int} (h1:Fn 184 1 [qas 0 c.s,.pv (iV b)] [(0,0,qad c.s)] (.pv (.tuple #[qab p.id p.a p.b,iV e1])) 0 []) (h2:Fn 184 1 [qas 0 c.s,.pv (iV a)] [(0,0,qad c.s)] (.pv (.tuple #[qab q.id q.a q.b,iV e2])) 0 []) (h3:Pure Tryz.prog 172 #[qab p.id p.a p.b,qab q.id q.a q.b,qaa c.tn c.td] (.bool w)) :
 Fn 120 8 [qaz c,.pv (qah a b)] (qaC c) (.pv (.bool w)) 0 []:=
 Fz [] [Cf h1 [0],Cf h2 [0],Rf h3]
  tI (Co h1 [0] 10 (Co h2 [0] 11 (Ai h3 tI)))
abbrev qv6 (c:Ck) (g:List Int) (l:List P2) (ps:List Pt):HpL:=[(9,0,.pv (iV c.tn)),(9,1,.pv (iV c.td)),(9,2,.ls 0 c.s.length),(9,3,.pv (iV c.x)),(9,4,.ls 1 c.l.length),(9,5,.ls 2 c.u.length),(9,6,.ls 3 c.b.length),(9,7,.ls 4 c.fr.length),(9,8,.ls 5 c.ev.length),(9,9,.ls 6 c.wh.length),(9,10,.ls 7 c.d.length),(9,11,.ls 8 g.length),(10,0,.row 90 2 l.length (p2V l)),(11,0,.mrow (qaI ps)),(0,0,qad c.s),(1,0,qam c.l),(2,0,zrI c.u),(3,0,zrB c.b),(4,0,zrI c.fr),(5,0,qar c.ev),(6,0,zrI c.wh),(7,0,qaP c.d),(8,0,zrI g)]
abbrev qDT (k:Nat) (l:List P2):TmL:=[(1,.pp 9 0),(3,.ls 10 l.length),(4,.mp 11),(13,.ls 10 l.length),(14,.pv (iV (l.length:Int))),(15,.pv (iV (k:Int)))]
theorem qke {l:List P2} {g:List Int} {k:Nat} {x:P2} {c:Ck} {ps:List Pt} (hlt:decide ((k:Int)<(l.length:Int))=true) (i1:0≤(k:Int)∧(k:Int)<(l.length:Int)) (g1:l[k]?=some x) (hL:qcp Tryz.prog 167 (qaI ps) (qah x.a x.b) false (.bool true)) (hh:Fn 120 8 [qaz c,.pv (qah x.a x.b)] (qaC c) (.pv (.bool true)) 0 []) (hs:iV (IntKind.i64.wrap ((k:Int)+1))=iV (((k+1:Nat):Int))) {e:Exit} {tm2:TmL} {hp2:HpL}
 (r:Rl 9 9 59 0 36 12 ([(1,.pp 9 0),(3,.ls 10 l.length),(4,.mp 11),(13,.ls 10 l.length),(14,.pv (iV (l.length:Int))),(15,.pv (iV ((k+1:Nat):Int)))]) (qv6 c g l ps) e tm2 hp2):Rl 9 9 59 0 36 12 (qDT k l) (qv6 c g l ps) e tm2 hp2:=
 RunsL.next [] 300 [.t true,.r (qah x.a x.b),.r (.bool true),.k,Cf hh [0,1,2,3,4,5,6,7],.k,Re hs]
  (Ro (Ai hlt (Ai i1 (Ai (qdx g1) (Ai hL (Co hh [0,1,2,3,4,5,6,7] 13 (Ai hs tI))))))) r
theorem qCQ {l:List P2} {g:List Int} {k:Nat} {x:P2} {c:Ck} {ps:List Pt} (hlt:decide ((k:Int)<(l.length:Int))=true) (i1:0≤(k:Int)∧(k:Int)<(l.length:Int)) (g1:l[k]?=some x) (hL:qcp Tryz.prog 167 (qaI ps) (qah x.a x.b) false (.bool false)):Rl 9 9 59 0 36 12 (qDT k l) (qv6 c g l ps) (.ret) ([(2,.pv (.bool false))]) ([]):=
 RunsL.stop [] 300 [.t true,.r (qah x.a x.b),.r (.bool false),.k] (fun h=>by cases h)
  (Ro (Ai hlt (Ai i1 (Ai (qdx g1) (Ai hL tI)))))
theorem qyV {l:List P2} {g:List Int} {k:Nat} {x:P2} {c:Ck} {ps:List Pt} (hlt:decide ((k:Int)<(l.length:Int))=true) (i1:0≤(k:Int)∧(k:Int)<(l.length:Int)) (g1:l[k]?=some x) (hL:qcp Tryz.prog 167 (qaI ps) (qah x.a x.b) false (.bool true)) (hh:Fn 120 8 [qaz c,.pv (qah x.a x.b)] (qaC c) (.pv (.bool false)) 0 []):Rl 9 9 59 0 36 12 (qDT k l) (qv6 c g l ps) (.ret) ([(2,.pv (.bool false))]) ([]):=
 RunsL.stop [] 300 [.t true,.r (qah x.a x.b),.r (.bool true),.k,Cf hh [0,1,2,3,4,5,6,7],.k] (fun h=>by cases h)
  (Ro (Ai hlt (Ai i1 (Ai (qdx g1) (Ai hL (Co hh [0,1,2,3,4,5,6,7] 13 tI))))))
theorem qxF {l:List P2} {g:List Int} {k:Nat} {c:Ck} {ps:List Pt} (hlt:decide ((k:Int)<(l.length:Int))=false):Rl 9 9 59 0 36 12 (qDT k l) (qv6 c g l ps) (.exit 0) ([(3,.ls 10 l.length),(4,.mp 11)]) ([(10,0,.row 90 2 l.length (p2V l)),(11,0,.mrow (qaI ps))]):=
 RunsL.stop [] 300 [.t false] (fun h=>by cases h)
  (Ro (Ai hlt tI))
abbrev qHG (l:List P2):TmL:=[(1,.pp 9 0),(3,.ls 10 l.length),(4,.mp 11),(13,.ls 10 l.length),(14,.pv (iV (l.length:Int))),(15,.pv (iV ((0:Nat):Int)))]
abbrev qFU (g:List Int) (l:List P2):Prop:=Fn 53 1 [.ls 0 g.length] [(0,0,zrI g)] (.ls 1 l.length) 1 [(1,0,.row 90 2 l.length (p2V l))]
theorem qms {l:List P2} {g:List Int} {c:Ck} {ps:List Pt} (h1:qFU g l) (h2:Fn 107 8 [qaz c] (qaC c) (.mp 8) 1 [(8,0,.mrow (qaI ps))]) (r0:Rl 9 9 59 0 36 12 (qHG l) (qv6 c g l ps) (.ret) ([(2,.pv (.bool false))]) ([])) :
 Fn 59 9 [.ag [.pv (iV c.tn),.pv (iV c.td),.ls 0 c.s.length,.pv (iV c.x),.ls 1 c.l.length,.ls 2 c.u.length,.ls 3 c.b.length,.ls 4 c.fr.length,.ls 5 c.ev.length,.ls 6 c.wh.length,.ls 7 c.d.length,.ls 8 g.length]] (qmk c g) (.pv (.bool false)) 0 []:=
 Fz [] [.md,Cf h1 [8],Cf h2 [0,1,2,3,4,5,6,7],Lf r0]
  tI (Co h1 [8] 10 (Co h2 [0,1,2,3,4,5,6,7] 11 (Lo r0 [] tI)))
abbrev qHz (c:Ck) (g:List Int) (l:List P2) (ps:List Pt):Prop:=Rl 9 9 59 0 36 12 (qHG l) (qv6 c g l ps) (.exit 0) ([(3,.ls 10 l.length),(4,.mp 11)]) ([(10,0,.row 90 2 l.length (p2V l)),(11,0,.mrow (qaI ps))])
theorem qw0 {l:List P2} {g:List Int} {c:Ck} {ps:List Pt} (h1:qFU g l) (h2:Fn 107 8 [qaz c] (qaC c) (.mp 8) 1 [(8,0,.mrow (qaI ps))]) (r0:qHz c g l ps) (hn:((l.length:Int)==(((qaI ps).length/2:Nat):Int))=true) :
 Fn 59 9 [.ag [.pv (iV c.tn),.pv (iV c.td),.ls 0 c.s.length,.pv (iV c.x),.ls 1 c.l.length,.ls 2 c.u.length,.ls 3 c.b.length,.ls 4 c.fr.length,.ls 5 c.ev.length,.ls 6 c.wh.length,.ls 7 c.d.length,.ls 8 g.length]] (qmk c g) (.pv (.bool true)) 0 []:=
 Fz [] [.md,Cf h1 [8],Cf h2 [0,1,2,3,4,5,6,7],Lf r0,.t true]
  tI (Co h1 [8] 10 (Co h2 [0,1,2,3,4,5,6,7] 11 (Lo r0 [] (Ai hn tI))))
theorem qqN {l:List P2} {g:List Int} {c:Ck} {ps:List Pt} (h1:qFU g l) (h2:Fn 107 8 [qaz c] (qaC c) (.mp 8) 1 [(8,0,.mrow (qaI ps))]) (r0:qHz c g l ps) (hn:((l.length:Int)==(((qaI ps).length/2:Nat):Int))=false) :
 Fn 59 9 [.ag [.pv (iV c.tn),.pv (iV c.td),.ls 0 c.s.length,.pv (iV c.x),.ls 1 c.l.length,.ls 2 c.u.length,.ls 3 c.b.length,.ls 4 c.fr.length,.ls 5 c.ev.length,.ls 6 c.wh.length,.ls 7 c.d.length,.ls 8 g.length]] (qmk c g) (.pv (.bool false)) 0 []:=
 Fz [] [.md,Cf h1 [8],Cf h2 [0,1,2,3,4,5,6,7],Lf r0,.t false]
  tI (Co h1 [8] 10 (Co h2 [0,1,2,3,4,5,6,7] 11 (Lo r0 [] (Ai hn tI))))
theorem qn8 {g:List Int} {c:Ck} (hc:Fn 57 8 [qaz c] (qaC c) (.pv (iV (8))) 0 []) :
 Fn 21 9 [.ag [.pv (iV c.tn),.pv (iV c.td),.ls 0 c.s.length,.pv (iV c.x),.ls 1 c.l.length,.ls 2 c.u.length,.ls 3 c.b.length,.ls 4 c.fr.length,.ls 5 c.ev.length,.ls 6 c.wh.length,.ls 7 c.d.length,.ls 8 g.length]] (qmk c g) (.pv (iV (8))) 0 []:=
 Fz [] [Cf hc [0,1,2,3,4,5,6,7],.k]
  tI (Co hc [0,1,2,3,4,5,6,7] 10 tI)
theorem qsS {g:List Int} {c:Ck} (hc:Fn 57 8 [qaz c] (qaC c) (.pv (iV (0))) 0 []) (hh:Fn 58 9 [.ag [.pv (iV c.tn),.pv (iV c.td),.ls 0 c.s.length,.pv (iV c.x),.ls 1 c.l.length,.ls 2 c.u.length,.ls 3 c.b.length,.ls 4 c.fr.length,.ls 5 c.ev.length,.ls 6 c.wh.length,.ls 7 c.d.length,.ls 8 g.length]] (qmk c g) (.pv (.bool false)) 0 []) :
 Fn 21 9 [.ag [.pv (iV c.tn),.pv (iV c.td),.ls 0 c.s.length,.pv (iV c.x),.ls 1 c.l.length,.ls 2 c.u.length,.ls 3 c.b.length,.ls 4 c.fr.length,.ls 5 c.ev.length,.ls 6 c.wh.length,.ls 7 c.d.length,.ls 8 g.length]] (qmk c g) (.pv (iV (8))) 0 []:=
 Fz [] [Cf hc [0,1,2,3,4,5,6,7],.k,Cf hh [0,1,2,3,4,5,6,7,8],.k]
  tI (Co hc [0,1,2,3,4,5,6,7] 10 (Co hh [0,1,2,3,4,5,6,7,8] 10 tI))
abbrev qHi (c:Ck) (g:List Int):Prop:=Fn 58 9 [.ag [.pv (iV c.tn),.pv (iV c.td),.ls 0 c.s.length,.pv (iV c.x),.ls 1 c.l.length,.ls 2 c.u.length,.ls 3 c.b.length,.ls 4 c.fr.length,.ls 5 c.ev.length,.ls 6 c.wh.length,.ls 7 c.d.length,.ls 8 g.length]] (qmk c g) (.pv (.bool true)) 0 []
theorem qvs {g:List Int} {c:Ck} (hc:Fn 57 8 [qaz c] (qaC c) (.pv (iV (0))) 0 []) (hh:qHi c g) (hf:Fn 59 9 [.ag [.pv (iV c.tn),.pv (iV c.td),.ls 0 c.s.length,.pv (iV c.x),.ls 1 c.l.length,.ls 2 c.u.length,.ls 3 c.b.length,.ls 4 c.fr.length,.ls 5 c.ev.length,.ls 6 c.wh.length,.ls 7 c.d.length,.ls 8 g.length]] (qmk c g) (.pv (.bool false)) 0 []) :
 Fn 21 9 [.ag [.pv (iV c.tn),.pv (iV c.td),.ls 0 c.s.length,.pv (iV c.x),.ls 1 c.l.length,.ls 2 c.u.length,.ls 3 c.b.length,.ls 4 c.fr.length,.ls 5 c.ev.length,.ls 6 c.wh.length,.ls 7 c.d.length,.ls 8 g.length]] (qmk c g) (.pv (iV (8))) 0 []:=
 Fz [] [Cf hc [0,1,2,3,4,5,6,7],.k,Cf hh [0,1,2,3,4,5,6,7,8],.k,Cf hf [0,1,2,3,4,5,6,7,8],.k]
  tI (Co hc [0,1,2,3,4,5,6,7] 10 (Co hh [0,1,2,3,4,5,6,7,8] 10 (Co hf [0,1,2,3,4,5,6,7,8] 10 tI)))
theorem qBD {g:List Int} {c:Ck} (hc:Fn 57 8 [qaz c] (qaC c) (.pv (iV (0))) 0 []) (hh:qHi c g) (hf:Fn 59 9 [.ag [.pv (iV c.tn),.pv (iV c.td),.ls 0 c.s.length,.pv (iV c.x),.ls 1 c.l.length,.ls 2 c.u.length,.ls 3 c.b.length,.ls 4 c.fr.length,.ls 5 c.ev.length,.ls 6 c.wh.length,.ls 7 c.d.length,.ls 8 g.length]] (qmk c g) (.pv (.bool true)) 0 []) :
 Fn 21 9 [.ag [.pv (iV c.tn),.pv (iV c.td),.ls 0 c.s.length,.pv (iV c.x),.ls 1 c.l.length,.ls 2 c.u.length,.ls 3 c.b.length,.ls 4 c.fr.length,.ls 5 c.ev.length,.ls 6 c.wh.length,.ls 7 c.d.length,.ls 8 g.length]] (qmk c g) (.pv (iV (0))) 0 []:=
 Fz [] [Cf hc [0,1,2,3,4,5,6,7],.k,Cf hh [0,1,2,3,4,5,6,7,8],.k,Cf hh [0,1,2,3,4,5,6,7,8],.k]
  tI (Co hc [0,1,2,3,4,5,6,7] 10 (Co hh [0,1,2,3,4,5,6,7,8] 10 (Co hf [0,1,2,3,4,5,6,7,8] 10 tI)))
end Go.Proofs.YtkckcgpmnipnaaaGreat
