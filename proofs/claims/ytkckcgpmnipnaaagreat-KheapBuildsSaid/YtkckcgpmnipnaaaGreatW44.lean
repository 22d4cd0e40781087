/-
  Joined: Ef, Ei, Lh. Conditions: none.
-/
import Derived.Test.YtkckcgpmnipnaaaGreatW43
import Derived.Test.YtkckcgpmnipnaaaGreatW24
import Derived.Test.YtkckcgpmnipnaaaGreatW21
namespace Go.Proofs.YtkckcgpmnipnaaaGreat
set_option maxRecDepth 100000
open Go.RowKit
theorem qqn {s:List Pt} {k j:Nat} {p q:Pt} {tn td u v:Int} {w:Bool} (ij:0≤(j:Int)∧(j:Int)<(s.length:Int)) (ik:0≤(k:Int)∧(k:Int)<(s.length:Int)) (gj:s[j]?=some p) (gk:s[k]?=some q) (hu:Fn 61 1 [qas 0 s,.pv (iV u)] [(0,0,qad s)] (.pv (iV (j:Int))) 0 []) (hv:Fn 61 1 [qas 0 s,.pv (iV v)] [(0,0,qad s)] (.pv (iV (k:Int))) 0 []) (hl:Pure Tryz.prog 90 #[qab p.id p.a p.b,qab q.id q.a q.b,qaa tn td] (.bool w)) :
 Fn 42 1 [qas 0 s,.pv (qaa tn td),.pv (iV u),.pv (iV v)] [(0,0,qad s)] (.pv (.bool w)) 0 []:=
 Fz [] [.md,Cf hu [0],.r (ptV p),Cf hv [0],.r (ptV q),Rf hl]
  tI (Co hu [0] 3 (Ai ij (Ai (qaA gj) (Co hv [0] 3 (Ai ik (Ai (qaA gk) (Ai hl tI)))))))
theorem qqQ {g:List Int} {k:Nat} {u v:Int} {xs:List Value} (hlt:decide (((k+1:Nat):Int)<(g.length:Int))=true) (i2:0≤((k/2:Nat):Int)∧((k/2:Nat):Int)<(g.length:Int)) (i1:0≤((k+1:Nat):Int)∧((k+1:Nat):Int)<(g.length:Int)) (g2:g[k/2]?=some v) (g1:g[k+1]?=some u) (nz:¬ (2:Int)=0) (hm:k+1≤1000000) (h1:iV (IntKind.i64.wrap (((k+1:Nat):Int)-1))=iV (k:Int)) (h2:iV (IntKind.i64.wrap (Int.tdiv (k:Int) 2))=iV (((k/2:Nat):Int))) (hs:iV (IntKind.i64.wrap (((k+1:Nat):Int)+1))=iV (((k+1+1:Nat):Int))) {e:Exit} {tm2:TmL} {hp2:HpL}
 (r:Rl 1 1 54 0 26 2 ([(0,.ls 0 g.length),(3,.ls 1 (k+1)),(4,.pv (iV (((k+1)+1:Nat):Int)))]) ([(0,0,zrI g),(1,0,.row 90 2 (k+1) (xs++[iV u,iV v]))]) e tm2 hp2):Rl 1 1 54 0 26 2 ([(0,.ls 0 g.length),(3,.ls 1 k),(4,.pv (iV ((k+1:Nat):Int)))]) ([(0,0,zrI g),(1,0,.row 90 2 k xs)]) e tm2 hp2:=
 RunsL.next [(1,3)] 300 [.t true,.md,.r (iV u),.r (iV (k:Int)),Re h2,.r (iV v),.r (iV (((k+1+1:Nat):Int)))]
  (Ro (Ai hlt (Ai i1 (Ai (qaQ g1) (Ai h1 (Ai nz (Ai h2 (Ai i2 (Ai (qaQ g2) (Ai hm (Ai hs tI))))))))))) r
theorem qyz {g:List Int} {k:Nat} {xs:List Value} (hlt:decide (((k+1:Nat):Int)<(g.length:Int))=false):Rl 1 1 54 0 26 2 ([(0,.ls 0 g.length),(3,.ls 1 k),(4,.pv (iV ((k+1:Nat):Int)))]) ([(0,0,zrI g),(1,0,.row 90 2 k xs)]) (.exit 0) ([(3,.ls 1 k)]) ([(0,0,zrI g),(1,0,.row 90 2 k xs)]):=
 RunsL.stop [] 300 [.t false] (fun h=>by cases h)
  (Ro (Ai hlt tI))
theorem qsR {g:List Int} {k:Nat} {xs:List Value} (r0:Rl 1 1 54 0 26 2 ([(0,.ls 0 g.length),(3,.ls 1 0),(4,.pv (iV ((0+1:Nat):Int)))]) ([(0,0,zrI g),(1,0,.row 90 2 0 [])]) (.exit 0) ([(3,.ls 1 k)]) ([(0,0,zrI g),(1,0,.row 90 2 k xs)])) :
 Fn 54 1 [.ls 0 g.length] [(0,0,zrI g)] (.ls 1 k) 1 [(1,0,.row 90 2 k xs)]:=
 Fz [] [.ln true 3 0 90 2,Lf r0]
  (qaE (qaK []) [(1,0,.row 90 2 k xs)]) (Lo r0 [] tI)
abbrev qyB (gs:List Int) (hh:List Int) (s:List Pt) (td:Int) (tn:Int):HpL:=[(2,0,.ls 0 s.length),(3,0,.pv (iV tn)),(3,1,.pv (iV td)),(0,0,qad s),(5,0,.row 3 1 gs.length (ziV hh))]
theorem qqV {s:List Pt} {tn td:Int} {gs:List Int} {hh:List Int} (h0:decide (((0:Nat):Int)>0)=false):Rl 2 2 81 0 52 6 ([(3,.pv (iV ((0:Nat):Int))),(4,.pp 2 0),(5,.pp 3 0),(9,.ls 5 gs.length)]) (qyB gs hh s td tn) (.exit 0) ([(9,.ls 5 gs.length)]) ([(5,0,.row 3 1 gs.length (ziV hh))]):=
 RunsL.stop [] 300 [.md,.t false] (fun h=>by cases h)
  (Ro (Ai h0 tI))
theorem qqO {s:List Pt} {j:Nat} {tn td u v:Int} {gs:List Int} {hh:List Int} (h0:decide (((j+1:Nat):Int)>0)=true) (i1:0≤((j+1:Nat):Int)∧((j+1:Nat):Int)<(gs.length:Int)) (i2:0≤((j/2:Nat):Int)∧((j/2:Nat):Int)<(gs.length:Int)) (g1:hh[j+1]?=some u) (g2:hh[j/2]?=some v) (nz:¬ (2:Int)=0) (h1:iV (IntKind.i64.wrap (((j+1:Nat):Int)-1))=iV (j:Int)) (h2:iV (IntKind.i64.wrap (Int.tdiv (j:Int) 2))=iV (((j/2:Nat):Int))) (hA:Fn 42 1 [qas 0 s,.pv (qaa tn td),.pv (iV u),.pv (iV v)] [(0,0,qad s)] (.pv (.bool false)) 0 []):Rl 2 2 81 0 52 6 ([(3,.pv (iV ((j+1:Nat):Int))),(4,.pp 2 0),(5,.pp 3 0),(9,.ls 5 gs.length)]) (qyB gs hh s td tn) (.exit 0) ([(9,.ls 5 gs.length)]) ([(5,0,.row 3 1 gs.length (ziV hh))]):=
 RunsL.stop [] 300 [.md,.t true,.r (iV u),.r (iV (j:Int)),Re h2,.r (iV v),Cf hA [0]] (fun h=>by cases h)
  (Ro (Ai h0 (Ai i1 (Ai (qaQ g1) (Ai h1 (Ai nz (Ai h2 (Ai i2 (Ai (qaQ g2) (Co hA [0] 6 tI))))))))))
theorem qDd {s:List Pt} {j:Nat} {tn td u v:Int} {gs:List Int} {hh:List Int} (h0:decide (((j+1:Nat):Int)>0)=true) (i1:0≤((j+1:Nat):Int)∧((j+1:Nat):Int)<(gs.length:Int)) (i2:0≤((j/2:Nat):Int)∧((j/2:Nat):Int)<(gs.length:Int)) (g1:hh[j+1]?=some u) (g2:hh[j/2]?=some v) (nz:¬ (2:Int)=0) (h1:iV (IntKind.i64.wrap (((j+1:Nat):Int)-1))=iV (j:Int)) (h2:iV (IntKind.i64.wrap (Int.tdiv (j:Int) 2))=iV (((j/2:Nat):Int))) (hA:Fn 42 1 [qas 0 s,.pv (qaa tn td),.pv (iV u),.pv (iV v)] [(0,0,qad s)] (.pv (.bool true)) 0 []) (l1:j+1<hh.length) (l2:j/2<hh.length) {e:Exit} {tm2:TmL} {hp2:HpL}
 (r:Rl 2 2 81 0 52 6 ([(3,.pv (iV ((j/2:Nat):Int))),(4,.pp 2 0),(5,.pp 3 0),(9,.ls 5 gs.length)]) ([(2,0,.ls 0 s.length),(3,0,.pv (iV tn)),(3,1,.pv (iV td)),(0,0,qad s),(5,0,.row 3 1 gs.length (ziV ((hh.set (j+1) v).set (j/2) u)))]) e tm2 hp2):Rl 2 2 81 0 52 6 ([(3,.pv (iV ((j+1:Nat):Int))),(4,.pp 2 0),(5,.pp 3 0),(9,.ls 5 gs.length)]) (qyB gs hh s td tn) e tm2 hp2:=
 RunsL.next [] 300 [.md,.t true,.r (iV u),.r (iV (j:Int)),Re h2,.r (iV v),Cf hA [0],.md,.r (iV (j:Int)),Re h2,.r (iV (j:Int)),Re h2,.r (iV v),.r (iV u),.w (ziV (hh.set (j+1) v)),.w (ziV ((hh.set (j+1) v).set (j/2) u)),.r (iV (j:Int)),Re h2]
  (Ro (Ai h0 (Ai i1 (Ai (qaQ g1) (Ai h1 (Ai nz (Ai h2 (Ai i2 (Ai (qaQ g2) (Co hA [0] 6 (Ai h1 (Ai nz (Ai h2 (Ai h1 (Ai nz (Ai h2 (Ai i2 (Ai (qaQ g2) (Ai i1 (Ai (qaQ g1) (Ai i1 (Ai (qmi hh (j+1) v l1) (Ai (qcK hh (j+1) l1) (Ai i2 (Ai (qmi (hh.set (j+1) v) (j/2) u (by rw[List.length_set];exact l2)) (Ai (qcK (hh.set (j+1) v) (j/2) (by rw[List.length_set];exact l2)) (Ai h1 (Ai nz (Ai h2 tI))))))))))))))))))))))))))))) r
abbrev qAd (c:Ck) (l:List P2):HpL:=[(0,0,qad c.s),(1,0,qam c.l),(2,0,zrI c.u),(3,0,zrB c.b),(4,0,zrI c.fr),(5,0,qar c.ev),(6,0,zrI c.wh),(7,0,qaP c.d),(8,0,.row 90 2 l.length (p2V l))]
theorem qvo {l:List P2} {c:Ck} (hl:((c.l.length:Int) !=(l.length:Int))=true) :
 Fn 62 9 [qaz c,.ls 8 l.length] (qAd c l) (.pv (.bool false)) 0 []:=
 Fz [] [.t true]
  tI (Ai hl tI)
abbrev quP (c:Ck) (l:List P2):HpL:=[(9,0,.pv (iV c.tn)),(9,1,.pv (iV c.td)),(9,2,.ls 0 c.s.length),(9,3,.pv (iV c.x)),(9,4,.ls 1 c.l.length),(9,5,.ls 2 c.u.length),(9,6,.ls 3 c.b.length),(9,7,.ls 4 c.fr.length),(9,8,.ls 5 c.ev.length),(9,9,.ls 6 c.wh.length),(9,10,.ls 7 c.d.length),(8,0,.row 90 2 l.length (p2V l)),(0,0,qad c.s),(1,0,qam c.l),(2,0,zrI c.u),(3,0,zrB c.b),(4,0,zrI c.fr),(5,0,qar c.ev),(6,0,zrI c.wh),(7,0,qaP c.d)]
abbrev qrF (k:Nat) (l:List P2):TmL:=[(1,.ls 8 l.length),(2,.pp 9 0),(5,.pv (iV (k:Int)))]
theorem qkM {l:List P2} {k:Nat} {x:P2} {c:Ck} (hlt:decide ((k:Int)<(l.length:Int))=true) (i1:0≤(k:Int)∧(k:Int)<(l.length:Int)) (g1:l[k]?=some x) (hH:Fn 126 1 [qaS 0 c.x c.l,.pv (qah x.a x.b)] [(0,0,qam c.l)] (.pv (.bool true)) 0 []) (hT:Fn 49 1 [.pv (qah x.a x.b),qas 0 c.s,.pv (qaa c.tn c.td)] [(0,0,qad c.s)] (.pv (.bool true)) 0 []) (hs:iV (IntKind.i64.wrap ((k:Int)+1))=iV (((k+1:Nat):Int))) {e:Exit} {tm2:TmL} {hp2:HpL}
 (r:Rl 9 9 62 0 39 10 ([(1,.ls 8 l.length),(2,.pp 9 0),(5,.pv (iV ((k+1:Nat):Int)))]) (quP c l) e tm2 hp2):Rl 9 9 62 0 39 10 (qrF k l) (quP c l) e tm2 hp2:=
 RunsL.next [] 300 [.t true,.md,.r (qah x.a x.b),Cf hH [1],.k,.r (qah x.a x.b),Cf hT [0],.k,Re hs]
  (Ro (Ai hlt (Ai i1 (Ai (qdx g1) (Co hH [1] 10 (Ai i1 (Ai (qdx g1) (Co hT [0] 10 (Ai hs tI))))))))) r
theorem qB0 {l:List P2} {k:Nat} {x:P2} {c:Ck} (hlt:decide ((k:Int)<(l.length:Int))=true) (i1:0≤(k:Int)∧(k:Int)<(l.length:Int)) (g1:l[k]?=some x) (hH:Fn 126 1 [qaS 0 c.x c.l,.pv (qah x.a x.b)] [(0,0,qam c.l)] (.pv (.bool false)) 0 []):Rl 9 9 62 0 39 10 (qrF k l) (quP c l) (.ret) ([(4,.pv (.bool false))]) ([]):=
 RunsL.stop [] 300 [.t true,.md,.r (qah x.a x.b),Cf hH [1],.k] (fun h=>by cases h)
  (Ro (Ai hlt (Ai i1 (Ai (qdx g1) (Co hH [1] 10 tI)))))
theorem qv4 {l:List P2} {k:Nat} {x:P2} {c:Ck} (hlt:decide ((k:Int)<(l.length:Int))=true) (i1:0≤(k:Int)∧(k:Int)<(l.length:Int)) (g1:l[k]?=some x) (hH:Fn 126 1 [qaS 0 c.x c.l,.pv (qah x.a x.b)] [(0,0,qam c.l)] (.pv (.bool true)) 0 []) (hT:Fn 49 1 [.pv (qah x.a x.b),qas 0 c.s,.pv (qaa c.tn c.td)] [(0,0,qad c.s)] (.pv (.bool false)) 0 []):Rl 9 9 62 0 39 10 (qrF k l) (quP c l) (.ret) ([(4,.pv (.bool false))]) ([]):=
 RunsL.stop [] 300 [.t true,.md,.r (qah x.a x.b),Cf hH [1],.k,.r (qah x.a x.b),Cf hT [0],.k] (fun h=>by cases h)
  (Ro (Ai hlt (Ai i1 (Ai (qdx g1) (Co hH [1] 10 (Ai i1 (Ai (qdx g1) (Co hT [0] 10 tI))))))))
theorem qxe {l:List P2} {k:Nat} {c:Ck} (hlt:decide ((k:Int)<(l.length:Int))=false):Rl 9 9 62 0 39 10 (qrF k l) (quP c l) (.exit 0) ([]) ([]):=
 RunsL.stop [] 300 [.t false] (fun h=>by cases h)
  (Ro (Ai hlt tI))
theorem qop {l:List P2} {c:Ck} (hl:((c.l.length:Int) !=(l.length:Int))=false) (r0:Rl 9 9 62 0 39 10 ([(1,.ls 8 l.length),(2,.pp 9 0),(5,.pv (iV ((0:Nat):Int)))]) (quP c l) (.ret) ([(4,.pv (.bool false))]) ([])) :
 Fn 62 9 [qaz c,.ls 8 l.length] (qAd c l) (.pv (.bool false)) 0 []:=
 Fz [] [.t false,Lf r0]
  tI (Ai hl (Lo r0 [] tI))
theorem qtQ {l:List P2} {c:Ck} (hl:((c.l.length:Int) !=(l.length:Int))=false) (r0:Rl 9 9 62 0 39 10 ([(1,.ls 8 l.length),(2,.pp 9 0),(5,.pv (iV ((0:Nat):Int)))]) (quP c l) (.exit 0) ([]) ([])) :
 Fn 62 9 [qaz c,.ls 8 l.length] (qAd c l) (.pv (.bool true)) 0 []:=
 Fz [] [.t false,Lf r0]
  tI (Ai hl (Lo r0 [] tI))
abbrev qhv (c:Ck) (g:List Int):HpL:=[(0,0,qad c.s),(1,0,qam c.l),(2,0,zrI c.u),(3,0,zrB c.b),(4,0,zrI c.fr),(5,0,qar c.ev),(6,0,zrI c.wh),(7,0,qaP c.d),(8,0,zrI g)]
theorem qnU {g:List Int} {c:Ck} (hc:Fn 60 8 [qaz c] (qaC c) (.pv (iV (8))) 0 []) :
 Fn 22 9 [.ag [.pv (iV c.tn),.pv (iV c.td),.ls 0 c.s.length,.pv (iV c.x),.ls 1 c.l.length,.ls 2 c.u.length,.ls 3 c.b.length,.ls 4 c.fr.length,.ls 5 c.ev.length,.ls 6 c.wh.length,.ls 7 c.d.length,.ls 8 g.length]] (qhv c g) (.pv (iV (8))) 0 []:=
 Fz [] [Cf hc [0,1,2,3,4,5,6,7],.k]
  tI (Co hc [0,1,2,3,4,5,6,7] 10 tI)
abbrev qqW (c:Ck):Prop:=Fn 60 8 [qaz c] (qaC c) (.pv (iV (0))) 0 []
theorem qxJ {g:List Int} {c:Ck} (hc:qqW c) (hl:((g.length:Int) !=(c.s.length:Int))=true) :
 Fn 22 9 [.ag [.pv (iV c.tn),.pv (iV c.td),.ls 0 c.s.length,.pv (iV c.x),.ls 1 c.l.length,.ls 2 c.u.length,.ls 3 c.b.length,.ls 4 c.fr.length,.ls 5 c.ev.length,.ls 6 c.wh.length,.ls 7 c.d.length,.ls 8 g.length]] (qhv c g) (.pv (iV (8))) 0 []:=
 Fz [] [Cf hc [0,1,2,3,4,5,6,7],.k,.t true]
  tI (Co hc [0,1,2,3,4,5,6,7] 10 (Ai hl tI))
abbrev qin (c:Ck) (g:List Int):HpL:=[(9,0,.pv (iV c.tn)),(9,1,.pv (iV c.td)),(9,2,.ls 0 c.s.length),(9,3,.pv (iV c.x)),(9,4,.ls 1 c.l.length),(9,5,.ls 2 c.u.length),(9,6,.ls 3 c.b.length),(9,7,.ls 4 c.fr.length),(9,8,.ls 5 c.ev.length),(9,9,.ls 6 c.wh.length),(9,10,.ls 7 c.d.length),(9,11,.ls 8 g.length),(0,0,qad c.s),(1,0,qam c.l),(2,0,zrI c.u),(3,0,zrB c.b),(4,0,zrI c.fr),(5,0,qar c.ev),(6,0,zrI c.wh),(7,0,qaP c.d),(8,0,zrI g)]
abbrev qzf (k:Nat):TmL:=[(1,.pp 9 0),(3,.pv (iV (k:Int)))]
abbrev qwm (c:Ck) (u:Int) (z:Int):Prop:=Fn 61 1 [qas 0 c.s,.pv (iV u)] [(0,0,qad c.s)] (.pv (iV z)) 0 []
theorem qvM {g:List Int} {k:Nat} {z u:Int} {c:Ck} (hlt:decide ((k:Int)<(g.length:Int))=true) (i1:0≤(k:Int)∧(k:Int)<(g.length:Int)) (g1:g[k]?=some u) (hu:qwm c u z) (hz:decide (z<0)=true):Rl 9 9 22 0 60 10 (qzf k) (qin c g) (.ret) ([(2,.pv (iV 8))]) ([]):=
 RunsL.stop [] 300 [.t true,.md,.r (iV u),Cf hu [0],.t true] (fun h=>by cases h)
  (Ro (Ai hlt (Ai i1 (Ai (qaQ g1) (Co hu [0] 10 (Ai hz tI))))))
theorem qne {g:List Int} {k:Nat} {z u:Int} {c:Ck} (hlt:decide ((k:Int)<(g.length:Int))=true) (i1:0≤(k:Int)∧(k:Int)<(g.length:Int)) (g1:g[k]?=some u) (hu:qwm c u z) (hz:decide (z<0)=false) (r1:Rl 9 9 22 1 60 10 ([(1,.pp 9 0),(3,.pv (iV (k:Int))),(4,.pv (iV ((0:Nat):Int)))]) (qin c g) (.ret) ([(2,.pv (iV 8))]) ([])):Rl 9 9 22 0 60 10 (qzf k) (qin c g) (.ret) ([(2,.pv (iV 8))]) ([]):=
 RunsL.stop [] 300 [.t true,.md,.r (iV u),Cf hu [0],.t false,Lf r1] (fun h=>by cases h)
  (Ro (Ai hlt (Ai i1 (Ai (qaQ g1) (Co hu [0] 10 (Ai hz (Lo r1 [] tI)))))))
theorem qkL {g:List Int} {k:Nat} {z u:Int} {c:Ck} (hlt:decide ((k:Int)<(g.length:Int))=true) (i1:0≤(k:Int)∧(k:Int)<(g.length:Int)) (g1:g[k]?=some u) (hu:qwm c u z) (hz:decide (z<0)=false) (r1:Rl 9 9 22 1 60 10 ([(1,.pp 9 0),(3,.pv (iV (k:Int))),(4,.pv (iV ((0:Nat):Int)))]) (qin c g) (.exit 2) (qzf k) (qin c g)) (hs:iV (IntKind.i64.wrap ((k:Int)+1))=iV (((k+1:Nat):Int))) {e:Exit} {tm2:TmL} {hp2:HpL}
 (r:Rl 9 9 22 0 60 10 ([(1,.pp 9 0),(3,.pv (iV ((k+1:Nat):Int)))]) (qin c g) e tm2 hp2):Rl 9 9 22 0 60 10 (qzf k) (qin c g) e tm2 hp2:=
 RunsL.next [] 300 [.t true,.md,.r (iV u),Cf hu [0],.t false,Lf r1,Re hs]
  (Ro (Ai hlt (Ai i1 (Ai (qaQ g1) (Co hu [0] 10 (Ai hz (Lo r1 [] (Ai hs tI)))))))) r
theorem qvl {g:List Int} {k:Nat} {c:Ck} (hlt:decide ((k:Int)<(g.length:Int))=false):Rl 9 9 22 0 60 10 (qzf k) (qin c g) (.exit 0) ([(1,.pp 9 0)]) (qin c g):=
 RunsL.stop [] 300 [.t false] (fun h=>by cases h)
  (Ro (Ai hlt tI))
abbrev qvd (j:Nat) (k:Nat):TmL:=[(1,.pp 9 0),(3,.pv (iV (k:Int))),(4,.pv (iV (j:Int)))]
theorem qsc {g:List Int} {k j:Nat} {u v:Int} {c:Ck} (hj:decide ((j:Int)<(k:Int))=true) (i1:0≤(k:Int)∧(k:Int)<(g.length:Int)) (g1:g[k]?=some u) (i2:0≤(j:Int)∧(j:Int)<(g.length:Int)) (g2:g[j]?=some v) (he:(v==u)=true):Rl 9 9 22 1 60 10 (qvd j k) (qin c g) (.ret) ([(2,.pv (iV 8))]) ([]):=
 RunsL.stop [] 300 [.t true,.md,.r (iV v),.r (iV u),.t true] (fun h=>by cases h)
  (Ro (Ai hj (Ai i2 (Ai (qaQ g2) (Ai i1 (Ai (qaQ g1) (Ai he tI)))))))
theorem qkI {g:List Int} {k j:Nat} {u v:Int} {c:Ck} (hj:decide ((j:Int)<(k:Int))=true) (i1:0≤(k:Int)∧(k:Int)<(g.length:Int)) (g1:g[k]?=some u) (i2:0≤(j:Int)∧(j:Int)<(g.length:Int)) (g2:g[j]?=some v) (he:(v==u)=false) (hsj:iV (IntKind.i64.wrap ((j:Int)+1))=iV (((j+1:Nat):Int))) {e:Exit} {tm2:TmL} {hp2:HpL}
 (r:Rl 9 9 22 1 60 10 ([(1,.pp 9 0),(3,.pv (iV (k:Int))),(4,.pv (iV ((j+1:Nat):Int)))]) (qin c g) e tm2 hp2):Rl 9 9 22 1 60 10 (qvd j k) (qin c g) e tm2 hp2:=
 RunsL.next [] 300 [.t true,.md,.r (iV v),.r (iV u),.t false,Re hsj]
  (Ro (Ai hj (Ai i2 (Ai (qaQ g2) (Ai i1 (Ai (qaQ g1) (Ai he (Ai hsj tI)))))))) r
theorem qvh {g:List Int} {k j:Nat} {c:Ck} (hj:decide ((j:Int)<(k:Int))=false):Rl 9 9 22 1 60 10 (qvd j k) (qin c g) (.exit 2) (qzf k) (qin c g):=
 RunsL.stop [] 300 [.t false] (fun h=>by cases h)
  (Ro (Ai hj tI))
theorem qxK {g:List Int} {c:Ck} (hc:qqW c) (hl:((g.length:Int) !=(c.s.length:Int))=false) (r0:Rl 9 9 22 0 60 10 ([(1,.pp 9 0),(3,.pv (iV ((0:Nat):Int)))]) (qin c g) (.ret) ([(2,.pv (iV 8))]) ([])) :
 Fn 22 9 [.ag [.pv (iV c.tn),.pv (iV c.td),.ls 0 c.s.length,.pv (iV c.x),.ls 1 c.l.length,.ls 2 c.u.length,.ls 3 c.b.length,.ls 4 c.fr.length,.ls 5 c.ev.length,.ls 6 c.wh.length,.ls 7 c.d.length,.ls 8 g.length]] (qhv c g) (.pv (iV (8))) 0 []:=
 Fz [] [Cf hc [0,1,2,3,4,5,6,7],.k,.t false,Lf r0]
  tI (Co hc [0,1,2,3,4,5,6,7] 10 (Ai hl (Lo r0 [] tI)))
abbrev qFh (g:List Int) (l:List P2):Prop:=Fn 54 1 [.ls 0 g.length] [(0,0,zrI g)] (.ls 1 l.length) 1 [(1,0,.row 90 2 l.length (p2V l))]
abbrev qzR (c:Ck) (g:List Int):Prop:=Rl 9 9 22 0 60 10 ([(1,.pp 9 0),(3,.pv (iV ((0:Nat):Int)))]) (qin c g) (.exit 0) ([(1,.pp 9 0)]) (qin c g)
theorem qsA {l:List P2} {g:List Int} {c:Ck} (hc:qqW c) (hl:((g.length:Int) !=(c.s.length:Int))=false) (r0:qzR c g) (ho:qFh g l) (hj:Fn 62 9 [qaz c,.ls 8 l.length] (qAd c l) (.pv (.bool false)) 0 []) :
 Fn 22 9 [.ag [.pv (iV c.tn),.pv (iV c.td),.ls 0 c.s.length,.pv (iV c.x),.ls 1 c.l.length,.ls 2 c.u.length,.ls 3 c.b.length,.ls 4 c.fr.length,.ls 5 c.ev.length,.ls 6 c.wh.length,.ls 7 c.d.length,.ls 8 g.length]] (qhv c g) (.pv (iV (8))) 0 []:=
 Fz [] [Cf hc [0,1,2,3,4,5,6,7],.k,.t false,Lf r0,.md,Cf ho [8],Cf hj [0,1,2,3,4,5,6,7,10],.k]
  tI (Co hc [0,1,2,3,4,5,6,7] 10 (Ai hl (Lo r0 [] (Co ho [8] 10 (Co hj [0,1,2,3,4,5,6,7,10] 11 tI)))))
theorem qvz {l:List P2} {g:List Int} {c:Ck} (hc:qqW c) (hl:((g.length:Int) !=(c.s.length:Int))=false) (r0:qzR c g) (ho:qFh g l) (hj:Fn 62 9 [qaz c,.ls 8 l.length] (qAd c l) (.pv (.bool true)) 0 []) :
 Fn 22 9 [.ag [.pv (iV c.tn),.pv (iV c.td),.ls 0 c.s.length,.pv (iV c.x),.ls 1 c.l.length,.ls 2 c.u.length,.ls 3 c.b.length,.ls 4 c.fr.length,.ls 5 c.ev.length,.ls 6 c.wh.length,.ls 7 c.d.length,.ls 8 g.length]] (qhv c g) (.pv (iV (0))) 0 []:=
 Fz [] [Cf hc [0,1,2,3,4,5,6,7],.k,.t false,Lf r0,.md,Cf ho [8],Cf hj [0,1,2,3,4,5,6,7,10],.k]
  tI (Co hc [0,1,2,3,4,5,6,7] 10 (Ai hl (Lo r0 [] (Co ho [8] 10 (Co hj [0,1,2,3,4,5,6,7,10] 11 tI)))))
abbrev qGk (c:Ck) (g:List Int):Prop:=Fn 22 9 [.ag [.pv (iV c.tn),.pv (iV c.td),.ls 0 c.s.length,.pv (iV c.x),.ls 1 c.l.length,.ls 2 c.u.length,.ls 3 c.b.length,.ls 4 c.fr.length,.ls 5 c.ev.length,.ls 6 c.wh.length,.ls 7 c.d.length,.ls 8 g.length]] (qhv c g) (.pv (iV (8))) 0 []
theorem qw3 {g:List Int} {c:Ck} (hc:qGk c g) :
 Fn 15 9 [.ag [.pv (iV c.tn),.pv (iV c.td),.ls 0 c.s.length,.pv (iV c.x),.ls 1 c.l.length,.ls 2 c.u.length,.ls 3 c.b.length,.ls 4 c.fr.length,.ls 5 c.ev.length,.ls 6 c.wh.length,.ls 7 c.d.length,.ls 8 g.length]] (qhv c g) (.pv (.tuple #[.slice none 0 0,iV 8])) 0 []:=
 Fz [] [Cf hc [0,1,2,3,4,5,6,7,8],.k,Cf hc [0,1,2,3,4,5,6,7,8]]
  tI (Co hc [0,1,2,3,4,5,6,7,8] 10 (Co hc [0,1,2,3,4,5,6,7,8] 10 tI))
abbrev qBj (c:Ck) (g:List Int):Prop:=Fn 22 9 [.ag [.pv (iV c.tn),.pv (iV c.td),.ls 0 c.s.length,.pv (iV c.x),.ls 1 c.l.length,.ls 2 c.u.length,.ls 3 c.b.length,.ls 4 c.fr.length,.ls 5 c.ev.length,.ls 6 c.wh.length,.ls 7 c.d.length,.ls 8 g.length]] (qhv c g) (.pv (iV (0))) 0 []
theorem qBS {l:List P2} {g:List Int} {c:Ck} (hc:qBj c g) (he:qFh g l) :
 Fn 15 9 [.ag [.pv (iV c.tn),.pv (iV c.td),.ls 0 c.s.length,.pv (iV c.x),.ls 1 c.l.length,.ls 2 c.u.length,.ls 3 c.b.length,.ls 4 c.fr.length,.ls 5 c.ev.length,.ls 6 c.wh.length,.ls 7 c.d.length,.ls 8 g.length]] (qhv c g) (.tu [.one (.ls 9 l.length),.one (.pv (iV 0))]) 1 [(9,0,.row 90 2 l.length (p2V l))]:=
 Fz [(9,10)] [Cf hc [0,1,2,3,4,5,6,7,8],.k,Cf he [8]]
  (qaE (qaK [(9,10)]) [(9,0,.row 90 2 l.length (p2V l))]) (Co hc [0,1,2,3,4,5,6,7,8] 10 (Co he [8] 10 tI))
theorem qu5 {g:List Int} {c:Ck} (hc:qGk c g) :
 Fn 17 9 [.ag [.pv (iV c.tn),.pv (iV c.td),.ls 0 c.s.length,.pv (iV c.x),.ls 1 c.l.length,.ls 2 c.u.length,.ls 3 c.b.length,.ls 4 c.fr.length,.ls 5 c.ev.length,.ls 6 c.wh.length,.ls 7 c.d.length,.ls 8 g.length]] (qhv c g) (.pv (.tuple #[iV 0,iV 8])) 0 []:=
 Fz [] [Cf hc [0,1,2,3,4,5,6,7,8],.k,Cf hc [0,1,2,3,4,5,6,7,8]]
  tI (Co hc [0,1,2,3,4,5,6,7,8] 10 (Co hc [0,1,2,3,4,5,6,7,8] 10 tI))
theorem qrl {g:List Int} {c:Ck} (hc:qBj c g) (h0:((g.length:Int)==0)=true) :
 Fn 17 9 [.ag [.pv (iV c.tn),.pv (iV c.td),.ls 0 c.s.length,.pv (iV c.x),.ls 1 c.l.length,.ls 2 c.u.length,.ls 3 c.b.length,.ls 4 c.fr.length,.ls 5 c.ev.length,.ls 6 c.wh.length,.ls 7 c.d.length,.ls 8 g.length]] (qhv c g) (.pv (.tuple #[iV 0,iV 42])) 0 []:=
 Fz [] [Cf hc [0,1,2,3,4,5,6,7,8],.k,.t true]
  tI (Co hc [0,1,2,3,4,5,6,7,8] 10 (Ai h0 tI))
theorem qBR {g:List Int} {u:Int} {c:Ck} (hc:qBj c g) (h0:((g.length:Int)==0)=false) (hin:0≤(0:Int)∧(0:Int)<(g.length:Int)) (hk:g[0]?=some u) :
 Fn 17 9 [.ag [.pv (iV c.tn),.pv (iV c.td),.ls 0 c.s.length,.pv (iV c.x),.ls 1 c.l.length,.ls 2 c.u.length,.ls 3 c.b.length,.ls 4 c.fr.length,.ls 5 c.ev.length,.ls 6 c.wh.length,.ls 7 c.d.length,.ls 8 g.length]] (qhv c g) (.pv (.tuple #[iV u,iV 0])) 0 []:=
 Fz [] [Cf hc [0,1,2,3,4,5,6,7,8],.k,.t false,.r (iV u)]
  tI (Co hc [0,1,2,3,4,5,6,7,8] 10 (Ai h0 (Ai hin (Ai (qaQ hk) tI))))
theorem qvP {g:List Int} {c:Ck} (hc:qGk c g) :
 Fn 19 9 [.ag [.pv (iV c.tn),.pv (iV c.td),.ls 0 c.s.length,.pv (iV c.x),.ls 1 c.l.length,.ls 2 c.u.length,.ls 3 c.b.length,.ls 4 c.fr.length,.ls 5 c.ev.length,.ls 6 c.wh.length,.ls 7 c.d.length,.ls 8 g.length]] (qhv c g) (.pv (.tuple #[.agg #[iV 0,iV 0,iV 0,iV 0,iV 0],iV 8])) 0 []:=
 Fz [] [Cf hc [0,1,2,3,4,5,6,7,8],.k,Cf hc [0,1,2,3,4,5,6,7,8]]
  tI (Co hc [0,1,2,3,4,5,6,7,8] 11 (Co hc [0,1,2,3,4,5,6,7,8] 11 tI))
theorem qs5 {g:List Int} {c:Ck} (hc:qBj c g) (h0:((c.ev.length:Int)==0)=true) :
 Fn 19 9 [.ag [.pv (iV c.tn),.pv (iV c.td),.ls 0 c.s.length,.pv (iV c.x),.ls 1 c.l.length,.ls 2 c.u.length,.ls 3 c.b.length,.ls 4 c.fr.length,.ls 5 c.ev.length,.ls 6 c.wh.length,.ls 7 c.d.length,.ls 8 g.length]] (qhv c g) (.pv (.tuple #[.agg #[iV 0,iV 0,iV 0,iV 0,iV 0],iV 42])) 0 []:=
 Fz [] [Cf hc [0,1,2,3,4,5,6,7,8],.k,.t true]
  tI (Co hc [0,1,2,3,4,5,6,7,8] 11 (Ai h0 tI))
theorem qA9 {y9:Ev} {g:List Int} {c:Ck} (hc:qBj c g) (h0:((c.ev.length:Int)==0)=false) (hin:0≤(0:Int)∧(0:Int)<(c.ev.length:Int)) (hk:c.ev[0]?=some y9) :
 Fn 19 9 [.ag [.pv (iV c.tn),.pv (iV c.td),.ls 0 c.s.length,.pv (iV c.x),.ls 1 c.l.length,.ls 2 c.u.length,.ls 3 c.b.length,.ls 4 c.fr.length,.ls 5 c.ev.length,.ls 6 c.wh.length,.ls 7 c.d.length,.ls 8 g.length]] (qhv c g) (.pv (.tuple #[qae y9,iV 0])) 0 []:=
 Fz [] [Cf hc [0,1,2,3,4,5,6,7,8],.k,.t false,.r (qae y9)]
  tI (Co hc [0,1,2,3,4,5,6,7,8] 11 (Ai h0 (Ai hin (Ai (qcw hk) tI))))
abbrev qBU (l:List P2) (m:List P2):HpL:=[(0,0,.row 90 2 l.length (p2V l)),(1,0,.row 90 2 m.length (p2V m))]
theorem qse {l m:List P2} {k:Nat} {x:P2} {y:P2} (hlt:decide ((k:Int)<(l.length:Int))=true) (i1:0≤(k:Int)∧(k:Int)<(l.length:Int)) (g1:l[k]?=some x) (i2:0≤(k:Int)∧(k:Int)<(m.length:Int)) (g2:m[k]?=some y) (hne:(!((x.a==y.a)&&((x.b==y.b)&&true)))=false) (hs:iV (IntKind.i64.wrap ((k:Int)+1))=iV (((k+1:Nat):Int))) {e:Exit} {tm2:TmL} {hp2:HpL}
 (r:Rl 2 2 23 0 26 2 ([(0,.ls 0 l.length),(1,.ls 1 m.length),(5,.pv (iV ((k+1:Nat):Int)))]) (qBU l m) e tm2 hp2):Rl 2 2 23 0 26 2 ([(0,.ls 0 l.length),(1,.ls 1 m.length),(5,.pv (iV (k:Int)))]) (qBU l m) e tm2 hp2:=
 RunsL.next [] 300 [.t true,.md,.r (qah x.a x.b),.r (qah y.a y.b),.t false,Re hs]
  (Ro (Ai hlt (Ai i1 (Ai (qdx g1) (Ai i2 (Ai (qdx g2) (Ai hne (Ai hs tI)))))))) r
theorem qvG {l m:List P2} {k:Nat} (hlt:decide ((k:Int)<(l.length:Int))=false):Rl 2 2 23 0 26 2 ([(0,.ls 0 l.length),(1,.ls 1 m.length),(5,.pv (iV (k:Int)))]) (qBU l m) (.exit 0) ([]) ([]):=
 RunsL.stop [] 300 [.t false] (fun h=>by cases h)
  (Ro (Ai hlt tI))
theorem qrp {l m:List P2} (hl:((l.length:Int) !=(m.length:Int))=false) (r0:Rl 2 2 23 0 26 2 ([(0,.ls 0 l.length),(1,.ls 1 m.length),(5,.pv (iV ((0:Nat):Int)))]) (qBU l m) (.exit 0) ([]) ([])) :
 Fn 23 2 [.ls 0 l.length,.ls 1 m.length] (qBU l m) (.pv (.bool true)) 0 []:=
 Fz [] [.t false,Lf r0]
  tI (Ai hl (Lo r0 [] tI))
theorem ql6 {g:List Int} {c:Ck} {gs:List Int} {o:Ck} (h9:Fn 32 16 [qaz c,.ag [.pv (iV o.tn),.pv (iV o.td),.ls 8 o.s.length,.pv (iV o.x),.ls 9 o.l.length,.ls 10 o.u.length,.ls 11 o.b.length,.ls 12 o.fr.length,.ls 13 o.ev.length,.ls 14 o.wh.length,.ls 15 o.d.length]] [(0,0,qad c.s),(1,0,qam c.l),(2,0,zrI c.u),(3,0,zrB c.b),(4,0,zrI c.fr),(5,0,qar c.ev),(6,0,zrI c.wh),(7,0,qaP c.d),(8,0,qad o.s),(9,0,qam o.l),(10,0,zrI o.u),(11,0,zrB o.b),(12,0,zrI o.fr),(13,0,qar o.ev),(14,0,zrI o.wh),(15,0,qaP o.d)] (.pv (.bool true)) 0 []) (hi:Fn 56 2 [.ls 0 g.length,.ls 1 gs.length] [(0,0,zrI g),(1,0,zrI gs)] (.pv (.bool true)) 0 []) :
 Fn 20 18 [.ag [.pv (iV c.tn),.pv (iV c.td),.ls 0 c.s.length,.pv (iV c.x),.ls 1 c.l.length,.ls 2 c.u.length,.ls 3 c.b.length,.ls 4 c.fr.length,.ls 5 c.ev.length,.ls 6 c.wh.length,.ls 7 c.d.length,.ls 8 g.length],.ag [.pv (iV o.tn),.pv (iV o.td),.ls 9 o.s.length,.pv (iV o.x),.ls 10 o.l.length,.ls 11 o.u.length,.ls 12 o.b.length,.ls 13 o.fr.length,.ls 14 o.ev.length,.ls 15 o.wh.length,.ls 16 o.d.length,.ls 17 gs.length]] [(0,0,qad c.s),(1,0,qam c.l),(2,0,zrI c.u),(3,0,zrB c.b),(4,0,zrI c.fr),(5,0,qar c.ev),(6,0,zrI c.wh),(7,0,qaP c.d),(8,0,zrI g),(9,0,qad o.s),(10,0,qam o.l),(11,0,zrI o.u),(12,0,zrB o.b),(13,0,zrI o.fr),(14,0,qar o.ev),(15,0,zrI o.wh),(16,0,qaP o.d),(17,0,zrI gs)] (.pv (.bool true)) 0 []:=
 Fz [] [Cf h9 [0,1,2,3,4,5,6,7,9,10,11,12,13,14,15,16],Cf hi [8,17]]
  tI (Co h9 [0,1,2,3,4,5,6,7,9,10,11,12,13,14,15,16] 20 (Co hi [8,17] 20 tI))
theorem qwu {g:List Int} {c:Ck} (h9:Fn 28 8 [qaz c] (qaC c) (.pv (.bool true)) 0 []) :
 Fn 11 9 [.ag [.pv (iV c.tn),.pv (iV c.td),.ls 0 c.s.length,.pv (iV c.x),.ls 1 c.l.length,.ls 2 c.u.length,.ls 3 c.b.length,.ls 4 c.fr.length,.ls 5 c.ev.length,.ls 6 c.wh.length,.ls 7 c.d.length,.ls 8 g.length]] (qhv c g) (.pv (.bool true)) 0 []:=
 Fz [] [Cf h9 [0,1,2,3,4,5,6,7]]
  tI (Co h9 [0,1,2,3,4,5,6,7] 10 tI)
theorem qwD {g:List Int} {c:Ck} (h9:Fn 28 8 [qaz c] (qaC c) (.pv (.bool false)) 0 []) (hg:decide ((g.length:Int)>70)=true) :
 Fn 11 9 [.ag [.pv (iV c.tn),.pv (iV c.td),.ls 0 c.s.length,.pv (iV c.x),.ls 1 c.l.length,.ls 2 c.u.length,.ls 3 c.b.length,.ls 4 c.fr.length,.ls 5 c.ev.length,.ls 6 c.wh.length,.ls 7 c.d.length,.ls 8 g.length]] (qhv c g) (.pv (.bool true)) 0 []:=
 Fz [] [Cf h9 [0,1,2,3,4,5,6,7],.t true]
  tI (Co h9 [0,1,2,3,4,5,6,7] 10 (Ai hg tI))
theorem qAn {g:List Int} {c:Ck} (h9:Fn 28 8 [qaz c] (qaC c) (.pv (.bool false)) 0 []) (hg:decide ((g.length:Int)>70)=false) :
 Fn 11 9 [.ag [.pv (iV c.tn),.pv (iV c.td),.ls 0 c.s.length,.pv (iV c.x),.ls 1 c.l.length,.ls 2 c.u.length,.ls 3 c.b.length,.ls 4 c.fr.length,.ls 5 c.ev.length,.ls 6 c.wh.length,.ls 7 c.d.length,.ls 8 g.length]] (qhv c g) (.pv (.bool false)) 0 []:=
 Fz [] [Cf h9 [0,1,2,3,4,5,6,7],.t false]
  tI (Co h9 [0,1,2,3,4,5,6,7] 10 (Ai hg tI))
end Go.Proofs.YtkckcgpmnipnaaaGreat

namespace Go.Proofs.YtkckcgpmnipnaaaGreat
set_option maxRecDepth 100000
open Go.RowKit
theorem qsk {s:List Pt} {n j:Nat} {tn td:Int} {xs ys:List Value} (hm:0+n≤1000000) (r0:Rl 2 2 81 0 52 6 ([(3,.pv (iV (j:Int))),(4,.pp 2 0),(5,.pp 3 0),(9,.ls 5 (0+n))]) ([(2,0,.ls 0 s.length),(3,0,.pv (iV tn)),(3,1,.pv (iV td)),(0,0,qad s),(5,0,.row 3 1 (0+n) xs)]) (.exit 0) ([(9,.ls 5 (0+n))]) ([(5,0,.row 3 1 (0+n) ys)])) :
 Fn 81 2 [qas 0 s,.pv (qaa tn td),.ls 1 n,.pv (iV (j:Int))] [(0,0,qad s),(1,0,.row 3 1 n xs)] (.ls 2 (0+n)) 1 [(2,0,.row 3 1 (0+n) ys)]:=
 Fz [(2,5)] [Lf r0]
  (qaE (qaK [(2,5)]) [(2,0,.row 3 1 (0+n) ys)]) (Ai hm (Lo r0 [] tI))
abbrev qHn (l:List P2) (o:Ck):HpL:=[(21,0,.pv (iV o.tn)),(21,1,.pv (iV o.td)),(21,2,.ls 13 o.s.length),(21,3,.pv (iV o.x)),(21,4,.ls 14 o.l.length),(21,5,.ls 15 o.u.length),(21,6,.ls 16 o.b.length),(21,7,.ls 17 o.fr.length),(21,8,.ls 18 o.ev.length),(21,9,.ls 19 o.wh.length),(21,10,.ls 20 o.d.length),(12,0,.pv (iV 0)),(12,1,.pv (iV 0)),(12,2,.pv (.slice none 0 0)),(12,3,.pv (iV 0)),(12,4,.pv (.slice none 0 0)),(12,5,.pv (.slice none 0 0)),(12,6,.pv (.slice none 0 0)),(12,7,.pv (.slice none 0 0)),(12,8,.pv (.slice none 0 0)),(12,9,.pv (.slice none 0 0)),(12,10,.pv (.slice none 0 0)),(13,0,qad o.s),(14,0,qam o.l),(15,0,zrI o.u),(16,0,zrB o.b),(17,0,zrI o.fr),(18,0,qar o.ev),(19,0,zrI o.wh),(20,0,qaP o.d),(9,0,.row 90 2 l.length (p2V l))]
theorem qs0 {l:List P2} {k:Nat} {x:P2} {o o1:Ck} {n9:Int} (hlt:decide ((k:Int)<(l.length:Int))=true) (hin:0≤(k:Int)∧(k:Int)<(l.length:Int)) (hk:l[k]?=some x) (hh:Fn 126 1 [qaS 0 o.x o.l,.pv (qah x.a x.b)] [(0,0,qam o.l)] (.pv (.bool false)) 0 []) (ha:Fn 147 8 [qaz o,.pv (qah x.a x.b)] (qaC o) (.tu [qrc o1,.one (.pv (iV n9)),.one (.pv (iV 0))]) 8 (qeR o1)) (hs:iV (IntKind.i64.wrap ((k:Int)+1))=iV (((k+1:Nat):Int))) {e:Exit} {tm2:TmL} {hp2:HpL}
 (r:Rl 10 10 78 1 90 22 ([(2,.ls 9 l.length),(6,.pp 12 0),(8,.pp 21 0),(12,.pv (iV ((k+1:Nat):Int)))]) ([(21,0,.pv (iV o1.tn)),(21,1,.pv (iV o1.td)),(21,2,.ls 13 o1.s.length),(21,3,.pv (iV o1.x)),(21,4,.ls 14 o1.l.length),(21,5,.ls 15 o1.u.length),(21,6,.ls 16 o1.b.length),(21,7,.ls 17 o1.fr.length),(21,8,.ls 18 o1.ev.length),(21,9,.ls 19 o1.wh.length),(21,10,.ls 20 o1.d.length),(12,0,.pv (iV 0)),(12,1,.pv (iV 0)),(12,2,.pv (.slice none 0 0)),(12,3,.pv (iV 0)),(12,4,.pv (.slice none 0 0)),(12,5,.pv (.slice none 0 0)),(12,6,.pv (.slice none 0 0)),(12,7,.pv (.slice none 0 0)),(12,8,.pv (.slice none 0 0)),(12,9,.pv (.slice none 0 0)),(12,10,.pv (.slice none 0 0)),(13,0,qad o1.s),(14,0,qam o1.l),(15,0,zrI o1.u),(16,0,zrB o1.b),(17,0,zrI o1.fr),(18,0,qar o1.ev),(19,0,zrI o1.wh),(20,0,qaP o1.d),(9,0,.row 90 2 l.length (p2V l))]) e tm2 hp2):Rl 10 10 78 1 90 22 ([(2,.ls 9 l.length),(6,.pp 12 0),(8,.pp 21 0),(12,.pv (iV (k:Int)))]) (qHn l o) e tm2 hp2:=
 RunsL.next [(13,22),(14,23),(15,24),(16,25),(17,26),(18,27),(19,28),(20,29)] 300 [.t true,.md,.r (qah x.a x.b),Cf hh [14],.md,.r (qah x.a x.b),Cf ha [13,14,15,16,17,18,19,20],.k,Re hs]
  (Ro (Ai hlt (Ai hin (Ai (qdx hk) (Co hh [14] 22 (Ai hin (Ai (qdx hk) (Co ha [13,14,15,16,17,18,19,20] 22 (Ai hs tI))))))))) r
abbrev qHg (o:Ck):HpL:=[(21,0,.pv (iV o.tn)),(21,1,.pv (iV o.td)),(21,2,.ls 13 o.s.length),(21,3,.pv (iV o.x)),(21,4,.ls 14 o.l.length),(21,5,.ls 15 o.u.length),(21,6,.ls 16 o.b.length),(21,7,.ls 17 o.fr.length),(21,8,.ls 18 o.ev.length),(21,9,.ls 19 o.wh.length),(21,10,.ls 20 o.d.length),(12,0,.pv (iV 0)),(12,1,.pv (iV 0)),(12,2,.pv (.slice none 0 0)),(12,3,.pv (iV 0)),(12,4,.pv (.slice none 0 0)),(12,5,.pv (.slice none 0 0)),(12,6,.pv (.slice none 0 0)),(12,7,.pv (.slice none 0 0)),(12,8,.pv (.slice none 0 0)),(12,9,.pv (.slice none 0 0)),(12,10,.pv (.slice none 0 0)),(13,0,qad o.s),(14,0,qam o.l),(15,0,zrI o.u),(16,0,zrB o.b),(17,0,zrI o.fr),(18,0,qar o.ev),(19,0,zrI o.wh),(20,0,qaP o.d)]
theorem qyi {l:List P2} {k:Nat} {o:Ck} (hlt:decide ((k:Int)<(l.length:Int))=false):Rl 10 10 78 1 90 22 ([(2,.ls 9 l.length),(6,.pp 12 0),(8,.pp 21 0),(12,.pv (iV (k:Int)))]) (qHn l o) (.exit 2) ([(6,.pp 12 0),(8,.pp 21 0)]) (qHg o):=
 RunsL.stop [] 300 [.t false] (fun h=>by cases h)
  (Ro (Ai hlt tI))
abbrev qEA (o:Ck):HpL:=[(10,0,qad o.s),(11,0,qam o.l),(12,0,zrI o.u),(13,0,zrB o.b),(14,0,zrI o.fr),(15,0,qar o.ev),(16,0,zrI o.wh),(17,0,qaP o.d)]
theorem qsf {l:List P2} {c:Ck} {o:Ck} (ht:Fn 29 8 [qaz c] (qaC c) (qkn c) 8 (qeR c)) (h0:decide ((0:Int)<(c.l.length:Int))=false) (hf:Fn 41 2 [qas 0 c.s,qas 1 c.s] [(0,0,qad c.s),(1,0,qad c.s)] (.pv (.bool true)) 0 []) (r0:Rl 10 10 78 1 90 22 ([(2,.ls 9 l.length),(6,.pp 12 0),(8,.pp 21 0),(12,.pv (iV ((0:Nat):Int)))]) ([(21,0,.pv (iV c.tn)),(21,1,.pv (iV c.td)),(21,2,.ls 13 c.s.length),(21,3,.pv (iV c.x)),(21,4,.ls 14 c.l.length),(21,5,.ls 15 c.u.length),(21,6,.ls 16 c.b.length),(21,7,.ls 17 c.fr.length),(21,8,.ls 18 c.ev.length),(21,9,.ls 19 c.wh.length),(21,10,.ls 20 c.d.length),(12,0,.pv (iV 0)),(12,1,.pv (iV 0)),(12,2,.pv (.slice none 0 0)),(12,3,.pv (iV 0)),(12,4,.pv (.slice none 0 0)),(12,5,.pv (.slice none 0 0)),(12,6,.pv (.slice none 0 0)),(12,7,.pv (.slice none 0 0)),(12,8,.pv (.slice none 0 0)),(12,9,.pv (.slice none 0 0)),(12,10,.pv (.slice none 0 0)),(13,0,qad c.s),(14,0,qam c.l),(15,0,zrI c.u),(16,0,zrB c.b),(17,0,zrI c.fr),(18,0,qar c.ev),(19,0,zrI c.wh),(20,0,qaP c.d),(9,0,.row 90 2 l.length (p2V l))]) (.exit 2) ([(6,.pp 12 0),(8,.pp 21 0)]) (qHg o)) :
 Fn 78 10 [qaz c,qas 8 c.s,.ls 9 l.length] [(0,0,qad c.s),(1,0,qam c.l),(2,0,zrI c.u),(3,0,zrB c.b),(4,0,zrI c.fr),(5,0,qar c.ev),(6,0,zrI c.wh),(7,0,qaP c.d),(8,0,qad c.s),(9,0,.row 90 2 l.length (p2V l))] (.tu [.ag [.pv (iV o.tn),.pv (iV o.td),.ls 10 o.s.length,.pv (iV o.x),.ls 11 o.l.length,.ls 12 o.u.length,.ls 13 o.b.length,.ls 14 o.fr.length,.ls 15 o.ev.length,.ls 16 o.wh.length,.ls 17 o.d.length],.one (.pv (iV 0))]) 8 (qEA o):=
 Fz [(10,13),(11,14),(12,15),(13,16),(14,17),(15,18),(16,19),(17,20)] [Cf ht [0,1,2,3,4,5,6,7],.t false,Cf hf [13,8],.k,Lf r0]
  (qaE (qaK [(10,13),(11,14),(12,15),(13,16),(14,17),(15,18),(16,19),(17,20)]) (qEA o)) (Co ht [0,1,2,3,4,5,6,7] 13 (Ai h0 (Co hf [13,8] 22 (Lo r0 [] tI))))
abbrev qGR (k:Nat) (s:List Pt) (td:Int) (tn:Int) (xs:List Value):HpL:=[(1,0,.ls 0 s.length),(2,0,.pv (iV tn)),(2,1,.pv (iV td)),(3,0,.pv (iV 0)),(3,1,.pv (iV 0)),(3,2,.pv (.slice none 0 0)),(3,3,.pv (iV 0)),(3,4,.pv (.slice none 0 0)),(3,5,.pv (.slice none 0 0)),(3,6,.pv (.slice none 0 0)),(3,7,.pv (.slice none 0 0)),(3,8,.pv (.slice none 0 0)),(3,9,.pv (.slice none 0 0)),(3,10,.pv (.slice none 0 0)),(3,11,.pv (.slice none 0 0)),(0,0,qad s),(4,0,.row 3 1 k xs)]
theorem qtN {s:List Pt} {k:Nat} {p:Pt} {tn td:Int} {xs ys:List Value} (hlt:decide ((k:Int)<(s.length:Int))=true) (hin:0≤(k:Int)∧(k:Int)<(s.length:Int)) (hk:s[k]?=some p) (hm1:0+k≤1000000) (hm2:0+k+1≤1000000) (hr:Fn 81 2 [qas 0 s,.pv (qaa tn td),.ls 1 (0+k+1),.pv (iV (k:Int))] [(0,0,qad s),(1,0,.row 3 1 (0+k+1) (xs++[iV p.id]))] (.ls 2 (k+1)) 1 [(2,0,.row 3 1 (k+1) ys)]) (hs:iV (IntKind.i64.wrap ((k:Int)+1))=iV (((k+1:Nat):Int))) {e:Exit} {tm2:TmL} {hp2:HpL}
 (r:Rl 1 1 33 0 44 5 ([(2,.pp 1 0),(3,.pp 2 0),(4,.pp 3 0),(5,.ls 4 (k+1:Nat)),(6,.pv (iV ((k+1:Nat):Int)))]) ([(1,0,.ls 0 s.length),(2,0,.pv (iV tn)),(2,1,.pv (iV td)),(3,0,.pv (iV 0)),(3,1,.pv (iV 0)),(3,2,.pv (.slice none 0 0)),(3,3,.pv (iV 0)),(3,4,.pv (.slice none 0 0)),(3,5,.pv (.slice none 0 0)),(3,6,.pv (.slice none 0 0)),(3,7,.pv (.slice none 0 0)),(3,8,.pv (.slice none 0 0)),(3,9,.pv (.slice none 0 0)),(3,10,.pv (.slice none 0 0)),(3,11,.pv (.slice none 0 0)),(0,0,qad s),(4,0,.row 3 1 (k+1) ys)]) e tm2 hp2):Rl 1 1 33 0 44 5 ([(2,.pp 1 0),(3,.pp 2 0),(4,.pp 3 0),(5,.ls 4 k),(6,.pv (iV (k:Int)))]) (qGR k s td tn xs) e tm2 hp2:=
 RunsL.next [(4,9)] 300 [.t true,.md,.r (iV p.id),Cf hr [0,8],Re hs]
  (Ro (Ai hlt (Ai hm1 (Ai hin (Ai (qk7 hk) (Ai hm2 (Co hr [0,8] 9 (Ai hs tI)))))))) r
theorem qwf {s:List Pt} {k:Nat} {tn td:Int} {xs:List Value} (hlt:decide ((k:Int)<(s.length:Int))=false):Rl 1 1 33 0 44 5 ([(2,.pp 1 0),(3,.pp 2 0),(4,.pp 3 0),(5,.ls 4 k),(6,.pv (iV (k:Int)))]) (qGR k s td tn xs) (.exit 0) ([(2,.pp 1 0),(3,.pp 2 0),(4,.pp 3 0),(5,.ls 4 k)]) (qGR k s td tn xs):=
 RunsL.stop [] 300 [.t false] (fun h=>by cases h)
  (Ro (Ai hlt tI))
abbrev qBV (g:List Int) (o:Ck):HpL:=[(1,0,qad o.s),(2,0,qam o.l),(3,0,zrI o.u),(4,0,zrB o.b),(5,0,zrI o.fr),(6,0,qar o.ev),(7,0,zrI o.wh),(8,0,qaP o.d),(9,0,zrI g)]
theorem qqb {s:List Pt} {l:List P2} {g:List Int} {tn td:Int} {c:Ck} {o:Ck} (r0:Rl 1 1 33 0 44 5 ([(2,.pp 1 0),(3,.pp 2 0),(4,.pp 3 0),(5,.ls 4 0),(6,.pv (iV (0:Int)))]) ([(1,0,.ls 0 s.length),(2,0,.pv (iV tn)),(2,1,.pv (iV td)),(3,0,.pv (iV 0)),(3,1,.pv (iV 0)),(3,2,.pv (.slice none 0 0)),(3,3,.pv (iV 0)),(3,4,.pv (.slice none 0 0)),(3,5,.pv (.slice none 0 0)),(3,6,.pv (.slice none 0 0)),(3,7,.pv (.slice none 0 0)),(3,8,.pv (.slice none 0 0)),(3,9,.pv (.slice none 0 0)),(3,10,.pv (.slice none 0 0)),(3,11,.pv (.slice none 0 0)),(0,0,qad s),(4,0,.row 3 1 0 [])]) (.exit 0) ([(2,.pp 1 0),(3,.pp 2 0),(4,.pp 3 0),(5,.ls 4 g.length)]) ([(1,0,.ls 0 s.length),(2,0,.pv (iV tn)),(2,1,.pv (iV td)),(3,0,.pv (iV 0)),(3,1,.pv (iV 0)),(3,2,.pv (.slice none 0 0)),(3,3,.pv (iV 0)),(3,4,.pv (.slice none 0 0)),(3,5,.pv (.slice none 0 0)),(3,6,.pv (.slice none 0 0)),(3,7,.pv (.slice none 0 0)),(3,8,.pv (.slice none 0 0)),(3,9,.pv (.slice none 0 0)),(3,10,.pv (.slice none 0 0)),(3,11,.pv (.slice none 0 0)),(0,0,qad s),(4,0,.row 3 1 g.length (ziV g))])) (hb:Fn 82 1 [qas 0 s,.pv (qaa tn td)] [(0,0,qad s)] (.ag [.pv (iV c.tn),.pv (iV c.td),.ls 1 c.s.length,.pv (iV 0),.ls 7 0,.ls 2 c.u.length,.ls 3 c.b.length,.ls 4 c.fr.length,.ls 6 0,.ls 5 c.wh.length,.ls 8 0]) 8 [(8,0,qaP []),(7,0,qam []),(1,0,qad c.s),(2,0,zrI c.u),(3,0,zrB c.b),(4,0,zrI c.fr),(5,0,zrI c.wh),(6,0,qar [])]) (ho:Fn 54 1 [.ls 0 g.length] [(0,0,zrI g)] (.ls 1 l.length) 1 [(1,0,.row 90 2 l.length (p2V l))]) (hR:Fn 78 10 [qaz (Ck.mk c.tn c.td c.s 0 [] c.u c.b c.fr [] c.wh []),qas 8 s,.ls 9 l.length] [(0,0,qad (Ck.mk c.tn c.td c.s 0 [] c.u c.b c.fr [] c.wh []).s),(1,0,qam (Ck.mk c.tn c.td c.s 0 [] c.u c.b c.fr [] c.wh []).l),(2,0,zrI (Ck.mk c.tn c.td c.s 0 [] c.u c.b c.fr [] c.wh []).u),(3,0,zrB (Ck.mk c.tn c.td c.s 0 [] c.u c.b c.fr [] c.wh []).b),(4,0,zrI (Ck.mk c.tn c.td c.s 0 [] c.u c.b c.fr [] c.wh []).fr),(5,0,qar (Ck.mk c.tn c.td c.s 0 [] c.u c.b c.fr [] c.wh []).ev),(6,0,zrI (Ck.mk c.tn c.td c.s 0 [] c.u c.b c.fr [] c.wh []).wh),(7,0,qaP (Ck.mk c.tn c.td c.s 0 [] c.u c.b c.fr [] c.wh []).d),(8,0,qad s),(9,0,.row 90 2 l.length (p2V l))] (.tu [.ag [.pv (iV o.tn),.pv (iV o.td),.ls 10 o.s.length,.pv (iV o.x),.ls 11 o.l.length,.ls 12 o.u.length,.ls 13 o.b.length,.ls 14 o.fr.length,.ls 15 o.ev.length,.ls 16 o.wh.length,.ls 17 o.d.length],.one (.pv (iV 0))]) 8 (qEA o)) :
 Fn 33 1 [qas 0 s,.pv (qaa tn td)] [(0,0,qad s)] (.ag [.pv (iV o.tn),.pv (iV o.td),.ls 1 o.s.length,.pv (iV o.x),.ls 2 o.l.length,.ls 3 o.u.length,.ls 4 o.b.length,.ls 5 o.fr.length,.ls 6 o.ev.length,.ls 7 o.wh.length,.ls 8 o.d.length,.ls 9 g.length]) 9 (qBV g o):=
 Fz [(1,14),(2,15),(3,16),(4,17),(5,18),(6,19),(7,20),(8,21),(9,4)] [.ln true 5 0 3 1,Lf r0,.md,Cf hb [0],Cf ho [4],Cf hR [5,11,6,7,8,10,9,12,0,13]]
  (qaE (qaK [(1,14),(2,15),(3,16),(4,17),(5,18),(6,19),(7,20),(8,21),(9,4)]) (qBV g o)) (Lo r0 [] (Co hb [0] 5 (Co ho [4] 13 (Co hR [5,11,6,7,8,10,9,12,0,13] 14 tI))))
theorem qC6 {s:List Pt} {tn td e:Int} (h1:Fn 38 1 [qas 0 s] [(0,0,qad s)] (.pv (iV (e))) 0 []) (he:(e !=0)=true) :
 Fn 13 1 [qas 0 s,.pv (qaa tn td)] [(0,0,qad s)] (.pv (.tuple #[.agg #[(iV 0),(iV 0),(.slice none 0 0),(iV 0),(.slice none 0 0),(.slice none 0 0),(.slice none 0 0),(.slice none 0 0),(.slice none 0 0),(.slice none 0 0),(.slice none 0 0),(.slice none 0 0)],iV e])) 0 []:=
 Fz [] [Cf h1 [0],.t true,Cf h1 [0]]
  tI (Co h1 [0] 4 (Ai he (Co h1 [0] 4 tI)))
theorem qBa {s:List Pt} {tn td:Int} (h1:Fn 38 1 [qas 0 s] [(0,0,qad s)] (.pv (iV (0))) 0 []) (h2:Pure Tryz.prog 45 #[qaa tn td] (iV (8))) :
 Fn 13 1 [qas 0 s,.pv (qaa tn td)] [(0,0,qad s)] (.pv (.tuple #[.agg #[(iV 0),(iV 0),(.slice none 0 0),(iV 0),(.slice none 0 0),(.slice none 0 0),(.slice none 0 0),(.slice none 0 0),(.slice none 0 0),(.slice none 0 0),(.slice none 0 0),(.slice none 0 0)],iV 8])) 0 []:=
 Fz [] [Cf h1 [0],.k,Rf h2,.k]
  tI (Co h1 [0] 4 (Ai h2 tI))
theorem qDq {s:List Pt} {g:List Int} {tn td:Int} {o:Ck} (h1:Fn 38 1 [qas 0 s] [(0,0,qad s)] (.pv (iV (0))) 0 []) (h2:Pure Tryz.prog 45 #[qaa tn td] (iV (0))) (hH:Fn 33 1 [qas 0 s,.pv (qaa tn td)] [(0,0,qad s)] (.ag [.pv (iV o.tn),.pv (iV o.td),.ls 1 o.s.length,.pv (iV o.x),.ls 2 o.l.length,.ls 3 o.u.length,.ls 4 o.b.length,.ls 5 o.fr.length,.ls 6 o.ev.length,.ls 7 o.wh.length,.ls 8 o.d.length,.ls 9 g.length]) 9 (qBV g o)) :
 Fn 13 1 [qas 0 s,.pv (qaa tn td)] [(0,0,qad s)] (.tu [.ag [.pv (iV o.tn),.pv (iV o.td),.ls 1 o.s.length,.pv (iV o.x),.ls 2 o.l.length,.ls 3 o.u.length,.ls 4 o.b.length,.ls 5 o.fr.length,.ls 6 o.ev.length,.ls 7 o.wh.length,.ls 8 o.d.length,.ls 9 g.length],.one (.pv (iV 0))]) 9 (qBV g o):=
 Fz [(1,4),(2,5),(3,6),(4,7),(5,8),(6,9),(7,10),(8,11),(9,12)] [Cf h1 [0],.k,Rf h2,.k,Cf hH [0]]
  (qaE (qaK [(1,4),(2,5),(3,6),(4,7),(5,8),(6,9),(7,10),(8,11),(9,12)]) (qBV g o)) (Co h1 [0] 4 (Ai h2 (Co hH [0] 4 tI)))
end Go.Proofs.YtkckcgpmnipnaaaGreat

namespace Go.Proofs.YtkckcgpmnipnaaaGreat
set_option maxRecDepth 100000
open Go.RowKit
theorem qtY {s:List Pt} {n d:Int} {c:Pt} (hn:I64 n) (hd:I64 d) (ht:okB n d=true) (hs:Val s) (hc:qbC c.a c.b=true) (ha:∃ q∈s,q.id=c.a) (hb:∃ q∈s,q.id=c.b) :
 Fn 124 1 [qas 0 s,.pv (qah c.a c.b),.pv (qaa n d)] [(0,0,qad s)] (.pv (.tuple #[qaa (qaq s n d c).1 (qaq s n d c).2.1,.bool (qaq s n d c).2.2])) 0 []:=by
 have F:=(qc6 hn hd ht hs hc ha hb).f
 obtain⟨q,hq,ea⟩:=ha
 obtain⟨p,hp,eb⟩:=hb
 have e1:qcS s c.a=q:=by rw[← ea];exact qcj hs hq
 have e2:qcS s c.b=p:=by rw[← eb];exact qcj hs hp
 rw[e1,e2] at F
 obtain⟨j,hj,rfl⟩:=List.getElem_of_mem hq
 obtain⟨i,hi,rfl⟩:=List.getElem_of_mem hp
 exact wn9 (hg:=List.getElem?_eq_getElem hi) (hq:=List.getElem?_eq_getElem hj) (hi:=qak hi) (hj:=qak hj) (ha:=qe4 hs (List.getElem?_eq_getElem hi) eb) (hb:=qe4 hs (List.getElem?_eq_getElem hj) ea) (hl:=F)
structure DueOk (c:Ck) (p q:Pt) (y:Ev):Prop where
 id:q.id=p.id
 lv:Live c.u c.b q.a q.b
 at_:∃ j:Nat,c.wh[q.a.toNat]?=some (j:Int)∧c.ev[j]?=some y
 k:y.k=p.id
 n:y.n=(qaq c.s c.tn c.td p).1
 d:y.d=(qaq c.s c.tn c.td p).2.1
def DueF (c:Ck):List Pt→List Pt→Prop
 | [],d=>d=[]
 | p::l,d=>if (qaq c.s c.tn c.td p).2.2=true then ∃ q r,d=q::r∧(∃ y,DueOk c p q y)∧DueF c l r else DueF c l d
structure V9 (c:Ck):Prop where
 t:okB c.tn c.td=true
 s:Val c.s
 v:V8 c.x c.l
 k:qdw c.l c.s
 a:VA c.u c.b c.fr c.ev c.wh
 w:c.wh.length=200
 e:c.ev.length=c.d.length
 f:DueF c c.l c.d
structure S9 (c:Ck):Prop where
 tn:I64 c.tn
 td:I64 c.td
 l:c.l.length≤210
 d:c.d.length≤210
 a:ASm c.u c.b c.fr c.ev c.wh
noncomputable def qpA (c:Ck):Int:=open Classical in if V9 c then 0 else 8
theorem qbc {α:Type} {l:List α} {k:Nat} {p:α} (h:l[k]?=some p):l.drop k=p::l.drop (k+1):=by
 obtain⟨h1,h2⟩:=List.getElem?_eq_some_iff.1 h
 rw[← h2]
 exact List.drop_eq_getElem_cons h1
abbrev qBp (j k:Nat):List (Nat×SV):=[(1,.pp 8 0),(3,.pv (iV (j:Int))),(4,.pv (iV (k:Int)))]
abbrev qHB (j:Nat):List (Nat×SV):=[(1,.pp 8 0),(3,.pv (iV (j:Int)))]
theorem qrm {c:Ck} (S:S9 c) (ht:okB c.tn c.td=true) (hs:Val c.s) (hv:V8 c.x c.l) (hk:qdw c.l c.s) (ha:VA c.u c.b c.fr c.ev c.wh):∀ (n k j:Nat),k+n=c.l.length→j≤c.d.length→
 (DueF c (c.l.drop k) (c.d.drop j)∧Rl 8 8 60 0 133 9 (qBp j k) (qcL 8 c) (.exit 0) (qHB c.d.length) (qcL 8 c))∨
 (¬ DueF c (c.l.drop k) (c.d.drop j)∧Rl 8 8 60 0 133 9 (qBp j k) (qcL 8 c) .ret [(2,.pv (iV 8))] [])∨
 (¬ DueF c (c.l.drop k) (c.d.drop j)∧∃ m:Nat,m≠c.d.length∧Rl 8 8 60 0 133 9 (qBp j k) (qcL 8 c) (.exit 0) (qHB m) (qcL 8 c)):=by
 intro n
 induction n with
 | zero=>
  intro k j hkn hj
  have r:=qyd (c:=c) (k:=k) (j:=j) (df (by omega))
  rw[List.drop_eq_nil_of_le (show c.l.length≤k by omega)]
  by_cases e:j=c.d.length
  ·subst e
   exact Or.inl ⟨List.drop_length,r⟩
  ·refine Or.inr (Or.inr ⟨fun h=>?_,j,e,r⟩)
   have h':c.d.drop j=[]:=h
   have:=List.drop_eq_nil_iff.1 h'
   omega
 | succ n ih=>
  intro k j hkn hj
  have hlk:k<c.l.length:=by omega
  obtain⟨p,hp⟩:=qai hlk
  have hmem:=List.mem_of_getElem? hp
  have W:=qtY S.tn S.td ht hs (hv.ok p hmem) (hk p hmem).1 (hk p hmem).2
  have hl:=S.l
  have hd':=S.d
  have hdr:=qbc hp
  have lk:decide ((k:Int)<(c.l.length:Int))=true:=dt (by omega)
  rw[hdr]
  cases hf:(qaq c.s c.tn c.td p).2.2
  ·rw[hf] at W
   have e:DueF c (p::c.l.drop (k+1)) (c.d.drop j)=DueF c (c.l.drop (k+1)) (c.d.drop j):=by
    show (if (qaq c.s c.tn c.td p).2.2=true then _ else _)=_
    rw[if_neg (by rw[hf];decide)]
   rw[e]
   have st:=fun {ex:Exit} {tm2:List (Nat×SV)} {hp2:List (Nat×Nat×SV)} (r:Rl 8 8 60 0 133 9 (qBp j (k+1)) (qcL 8 c) ex tm2 hp2)=>qtx (c:=c) (j:=j) (hk:=hp) (hin:=qak hlk) (hlt:=lk) (hw:=W) (hs:=qal (by omega)) (r:=r)
   rcases ih (k+1) j (by omega) hj with ⟨h1,r⟩ | ⟨h1,r⟩ | ⟨h1,m,h2,r⟩
   ·exact Or.inl ⟨h1,st r⟩
   ·exact Or.inr (Or.inl ⟨h1,st r⟩)
   ·exact Or.inr (Or.inr ⟨h1,m,h2,st r⟩)
  ·rw[hf] at W
   have e:DueF c (p::c.l.drop (k+1)) (c.d.drop j)=(∃ q r,c.d.drop j=q::r∧(∃ y,DueOk c p q y)∧DueF c (c.l.drop (k+1)) r):=by
    show (if (qaq c.s c.tn c.td p).2.2=true then _ else _)=_
    rw[if_pos hf]
   rw[e]
   by_cases hjd:j<c.d.length
   ·obtain⟨q,hq⟩:=qai hjd
    have hdq:=qbc hq
    rw[hdq]
    have nj:decide ((j:Int)≥(c.d.length:Int))=false:=df (by omega)
    have bad:(¬ ∃ y,DueOk c p q y)→¬ ∃ q' r,q::c.d.drop (j+1)=q'::r∧(∃ y,DueOk c p q' y)∧DueF c (c.l.drop (k+1)) r:=by
     rintro h ⟨q',r,e1,e2,_⟩
     cases e1
     exact h e2
    by_cases hid:q.id=p.id
    ·have nid:(q.id !=p.id)=false:=by simp[hid]
     by_cases hlv:Live c.u c.b q.a q.b
     ·obtain⟨w,y,hw1,hy,_,_⟩:=VA.find ha hlv
      have F:=qlb ha hlv hw1 hy
      have uq:∀ y',DueOk c p q y'→y'=y:=by
       rintro y' ⟨_,_,⟨w',h1,h2⟩,_,_,_⟩
       rw[hw1] at h1
       have e1:(w:Int)=(w':Int):=Option.some.inj h1
       have e2:w=w':=by omega
       subst e2
       rw[hy] at h2
       exact (Option.some.inj h2).symm
      by_cases hyk:y.k=p.id
      ·have nk:(y.k !=p.id)=false:=by simp[hyk]
       by_cases ht2:y.n=(qaq c.s c.tn c.td p).1∧y.d=(qaq c.s c.tn c.td p).2.1
       ·have nt:(!(y.n==(qaq c.s c.tn c.td p).1&&(y.d==(qaq c.s c.tn c.td p).2.1&&true)))=false:=by simp[ht2.1,ht2.2]
        have ok:∃ y,DueOk c p q y:=⟨y,hid,hlv,⟨w,hw1,hy⟩,hyk,ht2.1,ht2.2⟩
        have e2:(∃ q' r,q::c.d.drop (j+1)=q'::r∧(∃ y,DueOk c p q' y)∧DueF c (c.l.drop (k+1)) r)↔DueF c (c.l.drop (k+1)) (c.d.drop (j+1)):=by
         constructor
         ·rintro⟨q',r,e1,_,e3⟩
          cases e1
          exact e3
         ·exact fun h=>⟨q,_,rfl,ok,h⟩
        rw[e2]
        have st:=fun {ex:Exit} {tm2:List (Nat×SV)} {hp2:List (Nat×Nat×SV)} (r:Rl 8 8 60 0 133 9 (qBp (j+1) (k+1)) (qcL 8 c) ex tm2 hp2)=>qpS (c:=c) (j:=j) (hk:=hp) (hin:=qak hlk) (hlt:=lk) (hw:=W) (hj:=nj) (hq:=hq) (hiq:=qak hjd) (hne:=nid) (hf:=F) (hk2:=nk) (ht2:=nt) (hs2:=qal (by omega)) (hs:=qal (by omega)) (r:=r)
        rcases ih (k+1) (j+1) (by omega) (by omega) with ⟨h1,r⟩ | ⟨h1,r⟩ | ⟨h1,m,h2,r⟩
        ·exact Or.inl ⟨h1,st r⟩
        ·exact Or.inr (Or.inl ⟨h1,st r⟩)
        ·exact Or.inr (Or.inr ⟨h1,m,h2,st r⟩)
       ·have nt:(!(y.n==(qaq c.s c.tn c.td p).1&&(y.d==(qaq c.s c.tn c.td p).2.1&&true)))=true:=by
         rw[Bool.not_eq_true',Bool.and_true,Bool.and_eq_false_iff]
         by_cases h1:y.n=(qaq c.s c.tn c.td p).1
         ·exact Or.inr (by simpa using fun h2=>ht2 ⟨h1,h2⟩)
         ·exact Or.inl (by simpa using h1)
        refine Or.inr (Or.inl ⟨bad ?_,qrP (c:=c) (hk:=hp) (hin:=qak hlk) (hlt:=lk) (hw:=W) (hj:=nj) (hq:=hq) (hiq:=qak hjd) (hne:=nid) (hf:=F) (hk2:=nk) (ht2:=nt)⟩)
        rintro⟨y',h⟩
        have:=uq y' h
        subst this
        exact ht2 ⟨h.n,h.d⟩
      ·refine Or.inr (Or.inl ⟨bad ?_,qn5 (c:=c) (hk:=hp) (hin:=qak hlk) (hlt:=lk) (hw:=W) (hj:=nj) (hq:=hq) (hiq:=qak hjd) (hne:=nid) (hf:=F) (hk2:=by simpa using hyk)⟩)
       rintro⟨y',h⟩
       have:=uq y' h
       subst this
       exact hyk h.k
     ·have F:=qlu ha hlv
      refine Or.inr (Or.inl ⟨bad (fun ⟨y,h⟩=>hlv h.lv),qq4 (c:=c) (y:=Ev.mk 0 0 0 0 0) (e:=6) (hk:=hp) (hin:=qak hlk) (hlt:=lk) (hw:=W) (hj:=nj) (hq:=hq) (hiq:=qak hjd) (hne:=nid) (hf:=F) (he:=by decide)⟩)
    ·exact Or.inr (Or.inl ⟨bad (fun ⟨y,h⟩=>hid h.id),qwL (c:=c) (hk:=hp) (hin:=qak hlk) (hlt:=lk) (hw:=W) (hj:=nj) (hq:=hq) (hiq:=qak hjd) (hne:=by simpa using hid)⟩)
   ·have e3:c.d.drop j=[]:=List.drop_eq_nil_of_le (by omega)
    rw[e3]
    refine Or.inr (Or.inl ⟨?_,qys (c:=c) (hk:=hp) (hin:=qak hlk) (hlt:=lk) (hw:=W) (hj:=dt (by omega))⟩)
    rintro⟨q,r,e4,_⟩
    cases e4
theorem qqY {c:Ck} (S:S9 c):Fn 60 8 [qaz c] (qaC c) (.pv (iV (qpA c))) 0 []:=by
 have bad:(¬ V9 c)→qpA c=8:=fun h=>by unfold qpA;rw[if_neg h]
 have h2:=qgg c.s
 have h3:=qmy c.x c.l
 by_cases ht:okB c.tn c.td=true
 ·have h1:=qfo S.tn S.td ht
  by_cases hs:Val c.s
  ·rw[qc0.2 hs] at h2
   by_cases hv:V8 c.x c.l
   ·rw[qfC hv] at h3
    have h4:=qAa c.x S.l hs
    by_cases hk:qdw c.l c.s
    ·rw[qej.2 hk] at h4
     by_cases ha:VA c.u c.b c.fr c.ev c.wh
     ·have h5:=qel ha
      by_cases hw:c.wh.length=200
      ·by_cases he:c.ev.length=c.d.length
       ·have w:((c.wh.length:Int) !=200)=false:=by simp[hw]
        have d0:((c.ev.length:Int) !=(c.d.length:Int))=false:=by simp[he]
        rcases qrm S ht hs hv hk ha c.l.length 0 0 (Nat.zero_add _) (Nat.zero_le _) with ⟨hf,r⟩ | ⟨hf,r⟩ | ⟨hf,m,hm,r⟩
        ·have e0:qpA c=0:=by unfold qpA;rw[if_pos ⟨ht,hs,hv,hk,ha,hw,he,hf⟩]
         rw[e0]
         exact qBY (j:=c.d.length) (h1:=h1) (h2:=h2) (h3:=h3) (h4:=h4) (h5:=h5) (h6:=w) (h7:=d0) (r0:=r) (hd:=by simp)
        ·rw[bad fun v=>hf v.f]
         exact qvK (h1:=h1) (h2:=h2) (h3:=h3) (h4:=h4) (h5:=h5) (h6:=w) (h7:=d0) (r0:=r)
        ·rw[bad fun v=>hf v.f]
         exact qqu (j:=m) (h1:=h1) (h2:=h2) (h3:=h3) (h4:=h4) (h5:=h5) (h6:=w) (h7:=d0) (r0:=r) (hd:=by simp;omega)
       ·rw[bad fun v=>he v.e]
        exact qFp (h1:=h1) (h2:=h2) (h3:=h3) (h4:=h4) (h5:=h5) (h6:=by simp[hw]) (h7:=by simp;omega)
      ·rw[bad fun v=>hw v.w]
       exact qEt (h1:=h1) (h2:=h2) (h3:=h3) (h4:=h4) (h5:=h5) (h6:=by simp;omega)
     ·rw[bad fun v=>ha v.a]
      exact qGN (h1:=h1) (h2:=h2) (h3:=h3) (h4:=h4) (h5:=qi5 S.a ha)
    ·rw[bad fun v=>hk v.k]
     rw[qij hk] at h4
     exact qE2 (h1:=h1) (h2:=h2) (h3:=h3) (h4:=h4)
   ·rw[bad fun v=>hv v.v]
    rw[qbx hv] at h3
    exact qGu (h1:=h1) (h2:=h2) (h3:=h3)
  ·rw[bad fun v=>hs v.s]
   exact qFW (h1:=h1) (h2:=h2) (hne:=by
    have:qf7 c.s≠0:=fun e=>hs (qc0.1 e)
    simpa using this)
 ·rw[bad fun v=>ht v.t]
  exact qGZ (h1:=qen S.tn S.td ht)
end Go.Proofs.YtkckcgpmnipnaaaGreat
