/-
  Joined: Es, Ev. Conditions: none.
-/
import Derived.Test.YtkckcgpmnipnaaaGreatW32
import Derived.Test.YtkckcgpmnipnaaaGreatW16
import Derived.Test.YtkckcgpmnipnaaaGreatW38
import Derived.Test.YtkckcgpmnipnaaaGreatW33
namespace Go.Proofs.YtkckcgpmnipnaaaGreat
set_option maxRecDepth 100000
open Go.RowKit
variable {c o1 o o3 o2:Ck} {z e n9 e2 e3:Int} {s ps qs:List Pt} {p:Pt} {l:List P2} {k:Nat} {x:P2}
theorem qtF (c0:Fn 63 1 [.ls 0 c.u.length] [(0,0,zrI c.u)] (.ls 1 c.u.length) 1 [(1,0,zrI c.u)]) (c1:Fn 140 1 [.ls 0 c.b.length] [(0,0,zrB c.b)] (.ls 1 c.b.length) 1 [(1,0,zrB c.b)]) (c2:Fn 63 1 [.ls 0 c.fr.length] [(0,0,zrI c.fr)] (.ls 1 c.fr.length) 1 [(1,0,zrI c.fr)]) (h1:Fn 141 1 [.ls 0 c.s.length] [(0,0,qaf c.s)] (.ls 1 c.s.length) 1 [(1,0,qaf c.s)]) (h2:Fn 142 1 [.ls 0 c.l.length] [(0,0,qak c.l)] (.ls 1 c.l.length) 1 [(1,0,qak c.l)]) (c3:Fn 143 1 [.ls 0 c.ev.length] [(0,0,qap c.ev)] (.ls 1 c.ev.length) 1 [(1,0,qap c.ev)]) (c4:Fn 63 1 [.ls 0 c.wh.length] [(0,0,zrI c.wh)] (.ls 1 c.wh.length) 1 [(1,0,zrI c.wh)]) (h4:Fn 144 1 [.ls 0 c.d.length] [(0,0,qaH c.d)] (.ls 1 c.d.length) 1 [(1,0,qaH c.d)]) :
 Fn 76 8 [qar c] (qaA c) (qeS c) 8 (qcc c):=
 Fz [(8,14),(9,15),(10,11),(11,12),(12,13),(13,16),(14,17),(15,18)] [.md,Cf c0 [2],Cf c1 [3],Cf c2 [4],.md,Cf h1 [0],Cf h2 [1],Cf c3 [5],Cf c4 [6],Cf h4 [7]]
  (qaG (qaM [(8,14),(9,15),(10,11),(11,12),(12,13),(13,16),(14,17),(15,18)]) (qcc c)) (Co c0 [2] 11 (Co c1 [3] 12 (Co c2 [4] 13 (Co h1 [0] 14 (Co h2 [1] 15 (Co c3 [5] 16 (Co c4 [6] 17 (Co h4 [7] 18 tI))))))))
theorem qD3 (h1:Df (0≤z)) :
 Pure Tryz.prog 138 #[iV z] (.bool false):=
 qad (args:=[iV z]) 300 [.t false]
  (A2 rfl h1 tI) (by kernel_rfl)
theorem qzh (h1:Dt (0≤z)) (h2:Dt (z≤65535)) :
 Pure Tryz.prog 138 #[iV z] (.bool true):=
 qad (args:=[iV z]) 300 [.t true,.t true]
  (A3 rfl h1 h2 tI) (by kernel_rfl)
theorem qwu (h1:Dt (0≤z)) (h2:Df (z≤65535)) :
 Pure Tryz.prog 138 #[iV z] (.bool false):=
 qad (args:=[iV z]) 300 [.t true,.t false]
  (A3 rfl h1 h2 tI) (by kernel_rfl)
theorem qsJ (hf:Fn 184 1 [qaq 0 s,.pv (iV z)] [(0,0,qaf s)] (.pv (.tuple #[ptV p,iV e])) 0 []) (he:(e==0)=true) :
 Fn 139 1 [qaq 0 s,.pv (iV z)] [(0,0,qaf s)] (.pv (.bool true)) 0 []:=
 Fz [] [Cf hf [0],.t true]
  tI (Co hf [0] 2 (Ai he tI))
theorem qt9 (hf:Fn 184 1 [qaq 0 s,.pv (iV z)] [(0,0,qaf s)] (.pv (.tuple #[ptV p,iV e])) 0 []) (he:(e==0)=false) :
 Fn 139 1 [qaq 0 s,.pv (iV z)] [(0,0,qaf s)] (.pv (.bool false)) 0 []:=
 Fz [] [Cf hf [0],.t false]
  tI (Co hf [0] 2 (Ai he tI))
abbrev qhQ (l:List P2) (s:List Pt):HpL:=[(2,0,.ls 0 s.length),(0,0,qaf s),(1,0,.row 90 2 l.length (p2V l))]
abbrev qou (k:Nat) (l:List P2):TmL:=[(1,.ls 1 l.length),(2,.pp 2 0),(9,.ls 1 l.length),(10,.pv (iV (l.length:Int))),(11,.pv (iV (k:Int)))]
theorem qHR (hlt:Dt ((k:Int)<(l.length:Int))) (hin:Bd k l.length) (hk:l[k]?=some x) (hA:Pure Tryz.prog 138 #[iV (x.a)] (.bool false)):Rl 2 2 75 0 58 3 (qou k l) (qhQ l s) (.ret) ([(4,.pv (iV 8))]) ([]):=
 RunsL.stop [] 300 [.t true,.r (qae x.a x.b),Rf hA,.k] (fun h=>by cases h)
  (Ro (A4 hlt hin (qbD hk) hA tI))
theorem qFT (hlt:Dt ((k:Int)<(l.length:Int))) (hin:Bd k l.length) (hk:l[k]?=some x) (hA:Pure Tryz.prog 138 #[iV (x.a)] (.bool true)) (hB:Pure Tryz.prog 138 #[iV (x.b)] (.bool false)):Rl 2 2 75 0 58 3 (qou k l) (qhQ l s) (.ret) ([(4,.pv (iV 8))]) ([]):=
 RunsL.stop [] 300 [.t true,.r (qae x.a x.b),Rf hA,.k,Rf hB,.k] (fun h=>by cases h)
  (Ro (A5 hlt hin (qbD hk) hA hB tI))
theorem qFq (hlt:decide ((k:Int)<(l.length:Int))=true) (hin:0≤(k:Int)∧(k:Int)<(l.length:Int)) (hk:l[k]?=some x) (hA:Pure Tryz.prog 138 #[iV (x.a)] (.bool true)) (hB:Pure Tryz.prog 138 #[iV (x.b)] (.bool true)) (hab:(x.a==x.b)=true):Rl 2 2 75 0 58 3 (qou k l) (qhQ l s) (.ret) ([(4,.pv (iV 8))]) ([]):=
 RunsL.stop [] 300 [.t true,.r (qae x.a x.b),Rf hA,.k,Rf hA,.k,.t true] (fun h=>by cases h)
  (Ro (A6 hlt hin (qbD hk) hA hB hab tI))
theorem qAj (hlt:Dt ((k:Int)<(l.length:Int))) (hin:Bd k l.length) (hk:l[k]?=some x) (hA:Pure Tryz.prog 138 #[iV (x.a)] (.bool true)) (hB:Pure Tryz.prog 138 #[iV (x.b)] (.bool true)) (hab:(x.a==x.b)=false) (hs:iV (IntKind.i64.wrap ((k:Int)+1))=iV (((k+1:Nat):Int))) {e:Exit} {tm2:TmL} {hp2:HpL}
 (r:Rl 2 2 75 0 58 3 ([(1,.ls 1 l.length),(2,.pp 2 0),(9,.ls 1 l.length),(10,.pv (iV (l.length:Int))),(11,.pv (iV ((k+1:Nat):Int)))]) (qhQ l s) e tm2 hp2):Rl 2 2 75 0 58 3 (qou k l) (qhQ l s) e tm2 hp2:=
 RunsL.next [] 300 [.t true,.r (qae x.a x.b),Rf hA,.k,Rf hA,.k,.t false,Re hs]
  (Ro (A7 hlt hin (qbD hk) hA hB hab hs tI)) r
theorem qxK (hlt:decide ((k:Int)<(l.length:Int))=false):Rl 2 2 75 0 58 3 (qou k l) (qhQ l s) (.exit 0) ([(1,.ls 1 l.length),(2,.pp 2 0)]) (qhQ l s):=
 RunsL.stop [] 300 [.t false] (fun h=>by cases h)
  (Ro (Ai hlt tI))
abbrev qqq (k:Nat) (l:List P2):TmL:=[(2,.pp 2 0),(39,.ls 1 l.length),(40,.pv (iV (l.length:Int))),(41,.pv (iV (k:Int)))]
theorem qHv (hlt:Dt ((k:Int)<(l.length:Int))) (hin:Bd k l.length) (hk:l[k]?=some x) (hA:Fn 139 1 [qaq 0 s,.pv (iV x.a)] [(0,0,qaf s)] (.pv (.bool false)) 0 []):Rl 2 2 75 1 58 4 (qqq k l) (qhQ l s) (.ret) ([(4,.pv (iV 6))]) ([]):=
 RunsL.stop [] 300 [.t true,.r (qae x.a x.b),Cf hA [0],.k] (fun h=>by cases h)
  (Ro (A3 hlt hin (qbD hk) (Co hA [0] 5 tI)))
theorem qIq (hlt:Dt ((k:Int)<(l.length:Int))) (hin:Bd k l.length) (hk:l[k]?=some x) (hA:Fn 139 1 [qaq 0 s,.pv (iV x.a)] [(0,0,qaf s)] (.pv (.bool true)) 0 []) (hB:Fn 139 1 [qaq 0 s,.pv (iV x.b)] [(0,0,qaf s)] (.pv (.bool false)) 0 []):Rl 2 2 75 1 58 4 (qqq k l) (qhQ l s) (.ret) ([(4,.pv (iV 6))]) ([]):=
 RunsL.stop [] 300 [.t true,.r (qae x.a x.b),Cf hA [0],.k,Cf hB [0],.k] (fun h=>by cases h)
  (Ro (A3 hlt hin (qbD hk) (Co hA [0] 5 (Co hB [0] 5 tI))))
theorem qCR (hlt:Dt ((k:Int)<(l.length:Int))) (hin:Bd k l.length) (hk:l[k]?=some x) (hA:Fn 139 1 [qaq 0 s,.pv (iV x.a)] [(0,0,qaf s)] (.pv (.bool true)) 0 []) (hB:Fn 139 1 [qaq 0 s,.pv (iV x.b)] [(0,0,qaf s)] (.pv (.bool true)) 0 []) (hs:iV (IntKind.i64.wrap ((k:Int)+1))=iV (((k+1:Nat):Int))) {e:Exit} {tm2:TmL} {hp2:HpL}
 (r:Rl 2 2 75 1 58 4 ([(2,.pp 2 0),(39,.ls 1 l.length),(40,.pv (iV (l.length:Int))),(41,.pv (iV ((k+1:Nat):Int)))]) (qhQ l s) e tm2 hp2):Rl 2 2 75 1 58 4 (qqq k l) (qhQ l s) e tm2 hp2:=
 RunsL.next [] 300 [.t true,.r (qae x.a x.b),Cf hA [0],.k,Cf hB [0],.k,Re hs]
  (Ro (A3 hlt hin (qbD hk) (Co hA [0] 5 (Co hB [0] 5 (Ai hs tI))))) r
theorem qvt (hlt:decide ((k:Int)<(l.length:Int))=false):Rl 2 2 75 1 58 4 (qqq k l) (qhQ l s) (.exit 2) ([]) ([]):=
 RunsL.stop [] 300 [.t false] (fun h=>by cases h)
  (Ro (Ai hlt tI))
abbrev qh4 (l:List P2) (s:List Pt):HpL:=[(0,0,qaf s),(1,0,.row 90 2 l.length (p2V l))]
theorem qHM (r0:Rl 2 2 75 0 58 3 ([(1,.ls 1 l.length),(2,.pp 2 0),(9,.ls 1 l.length),(10,.pv (iV (l.length:Int))),(11,.pv (iV ((0:Nat):Int)))]) (qhQ l s) (.ret) ([(4,.pv (iV 8))]) ([])) :
 Fn 75 2 [qaq 0 s,.ls 1 l.length] (qh4 l s) (.pv (iV (8))) 0 []:=
 Fz [] [Lf r0]
  tI (Lo r0 [] tI)
abbrev qkv (l:List P2) (ps:List Pt):Prop:=Fn 106 1 [.ls 0 l.length] [(0,0,.row 90 2 l.length (p2V l))] (.mp 1) 1 [(1,0,.mrow (qaI ps))]
abbrev qGE (l:List P2) (s:List Pt):Prop:=Rl 2 2 75 0 58 3 ([(1,.ls 1 l.length),(2,.pp 2 0),(9,.ls 1 l.length),(10,.pv (iV (l.length:Int))),(11,.pv (iV ((0:Nat):Int)))]) (qhQ l s) (.exit 0) ([(1,.ls 1 l.length),(2,.pp 2 0)]) (qhQ l s)
theorem qDT (r0:qGE l s) (hs:qkv l ps) (hlen:decide ((((qaI ps).length/2:Nat):Int)<(l.length:Int))=true) :
 Fn 75 2 [qaq 0 s,.ls 1 l.length] (qh4 l s) (.pv (iV (14))) 0 []:=
 Fz [] [Lf r0,Cf hs [1],.t true]
  tI (Lo r0 [] (Co hs [1] 3 (Ai hlen tI)))
theorem qIs (r0:qGE l s) (hs:qkv l ps) (hlen:Df ((((qaI ps).length/2:Nat):Int)<(l.length:Int))) (r1:Rl 2 2 75 1 58 4 ([(2,.pp 2 0),(39,.ls 1 l.length),(40,.pv (iV (l.length:Int))),(41,.pv (iV ((0:Nat):Int)))]) (qhQ l s) (.ret) ([(4,.pv (iV 6))]) ([])) :
 Fn 75 2 [qaq 0 s,.ls 1 l.length] (qh4 l s) (.pv (iV (6))) 0 []:=
 Fz [] [Lf r0,Cf hs [1],.t false,Lf r1]
  tI (Lo r0 [] (Co hs [1] 3 (Ai hlen (Lo r1 [] tI))))
theorem qHg (r0:qGE l s) (hs:qkv l ps) (hlen:Df ((((qaI ps).length/2:Nat):Int)<(l.length:Int))) (r1:Rl 2 2 75 1 58 4 ([(2,.pp 2 0),(39,.ls 1 l.length),(40,.pv (iV (l.length:Int))),(41,.pv (iV ((0:Nat):Int)))]) (qhQ l s) (.exit 2) ([]) ([])) :
 Fn 75 2 [qaq 0 s,.ls 1 l.length] (qh4 l s) (.pv (iV (0))) 0 []:=
 Fz [] [Lf r0,Cf hs [1],.t false,Lf r1]
  tI (Lo r0 [] (Co hs [1] 3 (Ai hlen (Lo r1 [] tI))))
theorem qur (hlt:Dt ((k:Int)<(c.l.length:Int))) (hin:Bd k c.l.length) (hk:c.l[k]?=some p) (hL:qbu Tryz.prog 167 (qaI ps) (qae p.a p.b) false (.bool true)) (hs:iV (IntKind.i64.wrap ((k:Int)+1))=iV (((k+1:Nat):Int))) {e:Exit} {tm2:TmL} {hp2:HpL}
 (r:Rl 10 10 52 0 79 23 (raT l.length c.l.length (k+1:Nat)) (raO c s l ps qs) e tm2 hp2):Rl 10 10 52 0 79 23 (raT l.length c.l.length k) (raO c s l ps qs) e tm2 hp2:=
 RunsL.next [] 300 [.t true,.r (ptV p),.r (.bool true),.k,Re hs]
  (Ro (A5 hlt hin (qaB hk) hL hs tI)) r
theorem qAZ (hlt:Dt ((k:Int)<(c.l.length:Int))) (hin:Bd k c.l.length) (hk:c.l[k]?=some p) (hL:qbu Tryz.prog 167 (qaI ps) (qae p.a p.b) false (.bool false)) (hr:Fn 108 8 [qar c,.pv (iV p.id)] (qaA c) (.tu [qiJ o1,.one (.pv (iV 0))]) 8 (qcc o1)) (hs:iV (IntKind.i64.wrap ((k:Int)+1))=iV (((k+1:Nat):Int))) {e:Exit} {tm2:TmL} {hp2:HpL}
 (r:Rl 10 10 52 0 79 23 (raT l.length c.l.length (k+1:Nat)) (raN c s l ps qs o1) e tm2 hp2):Rl 10 10 52 0 79 23 (raT l.length c.l.length k) (raO c s l ps qs) e tm2 hp2:=
 RunsL.next [(15,24),(16,25),(17,26),(18,27),(19,28),(20,29),(21,30),(22,31)] 300 [.t true,.r (ptV p),.r (.bool false),.k,Cf hr [0,1,2,3,4,5,6,7],Re hs]
  (Ro (A4 hlt hin (qaB hk) hL (Co hr [0,1,2,3,4,5,6,7] 24 (Ai hs tI)))) r
theorem qAv (hlt:decide ((k:Int)<(c.l.length:Int))=false):Rl 10 10 52 0 79 23 (raT l.length c.l.length k) (raO c s l ps qs) (.exit 0) (qwS l.length) (qFm c s l qs):=
 RunsL.stop [] 300 [.t false] (fun h=>by cases h)
  (Ro (Ai hlt tI))
theorem qBp (hlt:Dt ((k:Int)<(c.l.length:Int))) (hin:Bd k c.l.length) (hk:c.l[k]?=some p) (hL:qbu Tryz.prog 167 (qaI ps) (qae p.a p.b) false (.bool true)) (hs:iV (IntKind.i64.wrap ((k:Int)+1))=iV (((k+1:Nat):Int))) {e:Exit} {tm2:TmL} {hp2:HpL}
 (r:Rl 10 10 52 0 79 23 (raT l.length c.l.length (k+1:Nat)) (raN c s l ps qs o) e tm2 hp2):Rl 10 10 52 0 79 23 (raT l.length c.l.length k) (raN c s l ps qs o) e tm2 hp2:=
 RunsL.next [] 300 [.t true,.r (ptV p),.r (.bool true),.k,Re hs]
  (Ro (A5 hlt hin (qaB hk) hL hs tI)) r
theorem qCF (hlt:Dt ((k:Int)<(c.l.length:Int))) (hin:Bd k c.l.length) (hk:c.l[k]?=some p) (hL:qbu Tryz.prog 167 (qaI ps) (qae p.a p.b) false (.bool false)) (hr:Fn 108 8 [qar o,.pv (iV p.id)] (qaA o) (.tu [qiJ o1,.one (.pv (iV 0))]) 8 (qcc o1)) (hs:iV (IntKind.i64.wrap ((k:Int)+1))=iV (((k+1:Nat):Int))) {e:Exit} {tm2:TmL} {hp2:HpL}
 (r:Rl 10 10 52 0 79 23 (raT l.length c.l.length (k+1:Nat)) (raN c s l ps qs o1) e tm2 hp2):Rl 10 10 52 0 79 23 (raT l.length c.l.length k) (raN c s l ps qs o) e tm2 hp2:=
 RunsL.next [(15,24),(16,25),(17,26),(18,27),(19,28),(20,29),(21,30),(22,31)] 300 [.t true,.r (ptV p),.r (.bool false),.k,Cf hr [15,16,17,18,19,20,21,22],Re hs]
  (Ro (A4 hlt hin (qaB hk) hL (Co hr [15,16,17,18,19,20,21,22] 24 (Ai hs tI)))) r
theorem qDO (hlt:decide ((k:Int)<(c.l.length:Int))=false):Rl 10 10 52 0 79 23 (raT l.length c.l.length k) (raN c s l ps qs o) (.exit 0) (qwS l.length) (qEv s l qs o):=
 RunsL.stop [] 300 [.t false] (fun h=>by cases h)
  (Ro (Ai hlt tI))
theorem qpK (hlt:Dt ((k:Int)<(l.length:Int))) (hin:Bd k l.length) (hk:l[k]?=some x) (hL:qbu Tryz.prog 167 (qaI qs) (qae x.a x.b) false (.bool true)) (hs:iV (IntKind.i64.wrap ((k:Int)+1))=iV (((k+1:Nat):Int))) {e:Exit} {tm2:TmL} {hp2:HpL}
 (r:Rl 10 10 52 1 79 31 (rbT l.length (k+1:Nat)) (rbO l qs c) e tm2 hp2):Rl 10 10 52 1 79 31 (rbT l.length k) (rbO l qs c) e tm2 hp2:=
 RunsL.next [] 300 [.t true,.r (qae x.a x.b),.r (.bool true),Re hs]
  (Ro (A5 hlt hin (qbD hk) hL hs tI)) r
theorem quu (hlt:Dt ((k:Int)<(l.length:Int))) (hin:Bd k l.length) (hk:l[k]?=some x) (hL:qbu Tryz.prog 167 (qaI qs) (qae x.a x.b) false (.bool false)) (hc:Fn 111 8 [qar c,.pv (qae x.a x.b)] (qaA c) (.tu [qiJ o1,.one (.pv (iV n9)),.one (.pv (iV 0))]) 8 (qcc o1)) (hs:iV (IntKind.i64.wrap ((k:Int)+1))=iV (((k+1:Nat):Int))) {e:Exit} {tm2:TmL} {hp2:HpL}
 (r:Rl 10 10 52 1 79 31 (rbT l.length (k+1:Nat)) (rbN l qs o1) e tm2 hp2):Rl 10 10 52 1 79 31 (rbT l.length k) (rbO l qs c) e tm2 hp2:=
 RunsL.next [(15,32),(16,33),(17,34),(18,35),(19,36),(20,37),(21,38),(22,39)] 300 [.t true,.r (qae x.a x.b),.r (.bool false),Cf hc [0,1,2,3,4,5,6,7],.k,Re hs]
  (Ro (A4 hlt hin (qbD hk) hL (Co hc [0,1,2,3,4,5,6,7] 32 (Ai hs tI)))) r
theorem qB0 (hlt:Dt ((k:Int)<(l.length:Int))) (hin:Bd k l.length) (hk:l[k]?=some x) (hL:qbu Tryz.prog 167 (qaI qs) (qae x.a x.b) false (.bool false)) (hc:Fn 111 8 [qar c,.pv (qae x.a x.b)] (qaA c) (.pv (.tuple #[qbt,iV 0,iV 18])) 0 []):Rl 10 10 52 1 79 31 (rbT l.length k) (rbO l qs c) (.ret) (qna) (qnb):=
 RunsL.stop [] 300 [.t true,.r (qae x.a x.b),.r (.bool false),Cf hc [0,1,2,3,4,5,6,7],.k] (fun h=>by cases h)
  (Ro (A4 hlt hin (qbD hk) hL (Co hc [0,1,2,3,4,5,6,7] 32 tI)))
theorem qA5 (hlt:decide ((k:Int)<(l.length:Int))=false):Rl 10 10 52 1 79 31 (rbT l.length k) (rbO l qs c) (.exit 2) (qqb) (qGC c):=
 RunsL.stop [] 300 [.t false] (fun h=>by cases h)
  (Ro (Ai hlt tI))
theorem qum (hlt:Dt ((k:Int)<(l.length:Int))) (hin:Bd k l.length) (hk:l[k]?=some x) (hL:qbu Tryz.prog 167 (qaI qs) (qae x.a x.b) false (.bool true)) (hs:iV (IntKind.i64.wrap ((k:Int)+1))=iV (((k+1:Nat):Int))) {e:Exit} {tm2:TmL} {hp2:HpL}
 (r:Rl 10 10 52 1 79 31 (rbT l.length (k+1:Nat)) (rbN l qs o) e tm2 hp2):Rl 10 10 52 1 79 31 (rbT l.length k) (rbN l qs o) e tm2 hp2:=
 RunsL.next [] 300 [.t true,.r (qae x.a x.b),.r (.bool true),Re hs]
  (Ro (A5 hlt hin (qbD hk) hL hs tI)) r
theorem quF (hlt:Dt ((k:Int)<(l.length:Int))) (hin:Bd k l.length) (hk:l[k]?=some x) (hL:qbu Tryz.prog 167 (qaI qs) (qae x.a x.b) false (.bool false)) (hc:Fn 111 8 [qar o,.pv (qae x.a x.b)] (qaA o) (.tu [qiJ o1,.one (.pv (iV n9)),.one (.pv (iV 0))]) 8 (qcc o1)) (hs:iV (IntKind.i64.wrap ((k:Int)+1))=iV (((k+1:Nat):Int))) {e:Exit} {tm2:TmL} {hp2:HpL}
 (r:Rl 10 10 52 1 79 31 (rbT l.length (k+1:Nat)) (rbN l qs o1) e tm2 hp2):Rl 10 10 52 1 79 31 (rbT l.length k) (rbN l qs o) e tm2 hp2:=
 RunsL.next [(15,32),(16,33),(17,34),(18,35),(19,36),(20,37),(21,38),(22,39)] 300 [.t true,.r (qae x.a x.b),.r (.bool false),Cf hc [15,16,17,18,19,20,21,22],.k,Re hs]
  (Ro (A4 hlt hin (qbD hk) hL (Co hc [15,16,17,18,19,20,21,22] 32 (Ai hs tI)))) r
theorem qCE (hlt:Dt ((k:Int)<(l.length:Int))) (hin:Bd k l.length) (hk:l[k]?=some x) (hL:qbu Tryz.prog 167 (qaI qs) (qae x.a x.b) false (.bool false)) (hc:Fn 111 8 [qar o,.pv (qae x.a x.b)] (qaA o) (.pv (.tuple #[qbt,iV 0,iV 18])) 0 []):Rl 10 10 52 1 79 31 (rbT l.length k) (rbN l qs o) (.ret) (qna) (qnb):=
 RunsL.stop [] 300 [.t true,.r (qae x.a x.b),.r (.bool false),Cf hc [15,16,17,18,19,20,21,22],.k] (fun h=>by cases h)
  (Ro (A4 hlt hin (qbD hk) hL (Co hc [15,16,17,18,19,20,21,22] 32 tI)))
theorem qAW (hlt:decide ((k:Int)<(l.length:Int))=false):Rl 10 10 52 1 79 31 (rbT l.length k) (rbN l qs o) (.exit 2) (qqb) (qya o):=
 RunsL.stop [] 300 [.t false] (fun h=>by cases h)
  (Ro (Ai hlt tI))
abbrev qgN (c:Ck) (l:List P2) (s:List Pt):HpL:=[(0,0,qaf c.s),(1,0,qak c.l),(2,0,zrI c.u),(3,0,zrB c.b),(4,0,zrI c.fr),(5,0,qap c.ev),(6,0,zrI c.wh),(7,0,qaH c.d),(8,0,qaf s),(9,0,.row 90 2 l.length (p2V l))]
abbrev qp3 (c:Ck) (qs:List Pt):Prop:=Fn 107 8 [qar c] (qaA c) (.mp 8) 1 [(8,0,.mrow (qaI qs))]
abbrev qzE (c:Ck) (l:List P2) (ps:List Pt) (qs:List Pt) (s:List Pt):Prop:=Rl 10 10 52 0 79 23 (raT l.length c.l.length (0:Nat)) (raO c s l ps qs) (.exit 0) (qwS l.length) (qFm c s l qs)
abbrev qw1 (c:Ck) (s:List Pt):Prop:=Fn 109 2 [.ls 0 c.s.length,.ls 1 s.length] [(0,0,qaf c.s),(1,0,qaf s)] (.pv (.bool true)) 0 []
theorem qvl (hs1:qkv l ps) (hs2:qp3 c qs) (rA:qzE c l ps qs s) (heq:qw1 c s) (rB:Rl 10 10 52 1 79 31 (rbT l.length (0:Nat)) (rbO l qs c) (.exit 2) (qqb) (qGC c)) :
 Fn 52 10 [qar c,qaq 8 s,.ls 9 l.length] (qgN c l s) (.tu [.ag [.pv (iV c.tn),.pv (iV c.td),.ls 0 c.s.length,.pv (iV c.x),.ls 1 c.l.length,.ls 2 c.u.length,.ls 3 c.b.length,.ls 4 c.fr.length,.ls 5 c.ev.length,.ls 6 c.wh.length,.ls 7 c.d.length],.one (.pv (iV 0))]) 0 []:=
 Fz [] [.md,Cf hs1 [9],Cf hs2 [0,1,2,3,4,5,6,7],.up 23,Lf rA,Cf heq [0,8],.k,.up 31,Lf rB]
  tI (Co hs1 [9] 13 (Co hs2 [0,1,2,3,4,5,6,7] 14 (Lo rA [] (Co heq [0,8] 23 (Lo rB [] tI)))))
abbrev qpe (o3:Ck):HpL:=[(10,0,qaf o3.s),(11,0,qak o3.l),(12,0,zrI o3.u),(13,0,zrB o3.b),(14,0,zrI o3.fr),(15,0,qap o3.ev),(16,0,zrI o3.wh),(17,0,qaH o3.d)]
theorem qvU (hs1:qkv l ps) (hs2:qp3 c qs) (rA:qzE c l ps qs s) (heq:qw1 c s) (rB:Rl 10 10 52 1 79 31 (rbT l.length (0:Nat)) (rbO l qs c) (.exit 2) (qqb) (qya o3)) :
 Fn 52 10 [qar c,qaq 8 s,.ls 9 l.length] (qgN c l s) (.tu [.ag [.pv (iV o3.tn),.pv (iV o3.td),.ls 10 o3.s.length,.pv (iV o3.x),.ls 11 o3.l.length,.ls 12 o3.u.length,.ls 13 o3.b.length,.ls 14 o3.fr.length,.ls 15 o3.ev.length,.ls 16 o3.wh.length,.ls 17 o3.d.length],.one (.pv (iV 0))]) 8 (qpe o3):=
 Fz [(10,15),(11,16),(12,17),(13,18),(14,19),(15,20),(16,21),(17,22)] [.md,Cf hs1 [9],Cf hs2 [0,1,2,3,4,5,6,7],.up 23,Lf rA,Cf heq [0,8],.k,.up 31,Lf rB]
  (qaG (qaM [(10,15),(11,16),(12,17),(13,18),(14,19),(15,20),(16,21),(17,22)]) (qpe o3)) (Co hs1 [9] 13 (Co hs2 [0,1,2,3,4,5,6,7] 14 (Lo rA [] (Co heq [0,8] 23 (Lo rB [] tI)))))
theorem qvC (hs1:qkv l ps) (hs2:qp3 c qs) (rA:qzE c l ps qs s) (heq:qw1 c s) (rB:Rl 10 10 52 1 79 31 (rbT l.length (0:Nat)) (rbO l qs c) (.ret) (qna) (qnb)) :
 Fn 52 10 [qar c,qaq 8 s,.ls 9 l.length] (qgN c l s) (.pv (.tuple #[qbt,iV 18])) 0 []:=
 Fz [] [.md,Cf hs1 [9],Cf hs2 [0,1,2,3,4,5,6,7],.up 23,Lf rA,Cf heq [0,8],.k,.up 31,Lf rB]
  tI (Co hs1 [9] 13 (Co hs2 [0,1,2,3,4,5,6,7] 14 (Lo rA [] (Co heq [0,8] 23 (Lo rB [] tI)))))
abbrev qIW (c:Ck) (o2:Ck) (s:List Pt):Prop:=Fn 110 9 [qar c,qaq 8 s] [(0,0,qaf c.s),(1,0,qak c.l),(2,0,zrI c.u),(3,0,zrB c.b),(4,0,zrI c.fr),(5,0,qap c.ev),(6,0,zrI c.wh),(7,0,qaH c.d),(8,0,qaf s)] (.tu [.ag [.pv (iV o2.tn),.pv (iV o2.td),.ls 9 o2.s.length,.pv (iV o2.x),.ls 10 o2.l.length,.ls 11 o2.u.length,.ls 12 o2.b.length,.ls 13 o2.fr.length,.ls 14 o2.ev.length,.ls 15 o2.wh.length,.ls 16 o2.d.length],.one (.pv (iV 0))]) 8 [(9,0,qaf o2.s),(10,0,qak o2.l),(11,0,zrI o2.u),(12,0,zrB o2.b),(13,0,zrI o2.fr),(14,0,qap o2.ev),(15,0,zrI o2.wh),(16,0,qaH o2.d)]
abbrev qyb (c:Ck) (s:List Pt):Prop:=Fn 109 2 [.ls 0 c.s.length,.ls 1 s.length] [(0,0,qaf c.s),(1,0,qaf s)] (.pv (.bool false)) 0 []
theorem qxW (hs1:qkv l ps) (hs2:qp3 c qs) (rA:qzE c l ps qs s) (heq:qyb c s) (hal:qIW c o2 s) (rB:yv l qs o2 o3) :
 Fn 52 10 [qar c,qaq 8 s,.ls 9 l.length] (qgN c l s) (.tu [.ag [.pv (iV o3.tn),.pv (iV o3.td),.ls 10 o3.s.length,.pv (iV o3.x),.ls 11 o3.l.length,.ls 12 o3.u.length,.ls 13 o3.b.length,.ls 14 o3.fr.length,.ls 15 o3.ev.length,.ls 16 o3.wh.length,.ls 17 o3.d.length],.one (.pv (iV 0))]) 8 (qpe o3):=
 Fz [(10,15),(11,16),(12,17),(13,18),(14,19),(15,20),(16,21),(17,22)] [.md,Cf hs1 [9],Cf hs2 [0,1,2,3,4,5,6,7],.up 23,Lf rA,Cf heq [0,8],.k,Cf hal [0,1,2,3,4,5,6,7,8],.k,.up 31,Lr rB [(15,23),(16,24),(17,25),(18,26),(19,27),(20,28),(21,29),(22,30)]]
  (qaG (qaM [(10,15),(11,16),(12,17),(13,18),(14,19),(15,20),(16,21),(17,22)]) (qpe o3)) (Co hs1 [9] 13 (Co hs2 [0,1,2,3,4,5,6,7] 14 (Lo rA [] (Co heq [0,8] 23 (Co hal [0,1,2,3,4,5,6,7,8] 23 (Lo rB [(15,23),(16,24),(17,25),(18,26),(19,27),(20,28),(21,29),(22,30)] tI))))))
theorem qwj (hs1:qkv l ps) (hs2:qp3 c qs) (rA:qzE c l ps qs s) (heq:qyb c s) (hal:qIW c o2 s) (rB:yu l qs o2) :
 Fn 52 10 [qar c,qaq 8 s,.ls 9 l.length] (qgN c l s) (.pv (.tuple #[qbt,iV 18])) 0 []:=
 Fz [] [.md,Cf hs1 [9],Cf hs2 [0,1,2,3,4,5,6,7],.up 23,Lf rA,Cf heq [0,8],.k,Cf hal [0,1,2,3,4,5,6,7,8],.k,.up 31,Lr rB [(15,23),(16,24),(17,25),(18,26),(19,27),(20,28),(21,29),(22,30)]]
  tI (Co hs1 [9] 13 (Co hs2 [0,1,2,3,4,5,6,7] 14 (Lo rA [] (Co heq [0,8] 23 (Co hal [0,1,2,3,4,5,6,7,8] 23 (Lo rB [(15,23),(16,24),(17,25),(18,26),(19,27),(20,28),(21,29),(22,30)] tI))))))
theorem qre (hs1:qkv l ps) (hs2:qp3 c qs) (rA:qzE c l ps qs s) (heq:qyb c s) (hal:Fn 110 9 [qar c,qaq 8 s] (yh c s) (.pv (.tuple #[qbt,iV 18])) 0 []) :
 Fn 52 10 [qar c,qaq 8 s,.ls 9 l.length] (qgN c l s) (.pv (.tuple #[qbt,iV 18])) 0 []:=
 Fz [] [.md,Cf hs1 [9],Cf hs2 [0,1,2,3,4,5,6,7],.up 23,Lf rA,Cf heq [0,8],.k,Cf hal [0,1,2,3,4,5,6,7,8],.k]
  tI (Co hs1 [9] 13 (Co hs2 [0,1,2,3,4,5,6,7] 14 (Lo rA [] (Co heq [0,8] 23 (Co hal [0,1,2,3,4,5,6,7,8] 23 tI)))))
abbrev qoT (c:Ck) (l:List P2) (o:Ck) (ps:List Pt) (qs:List Pt) (s:List Pt):Prop:=Rl 10 10 52 0 79 23 (raT l.length c.l.length (0:Nat)) (raO c s l ps qs) (.exit 0) (qwS l.length) (qEv s l qs o)
theorem qxu (hs1:qkv l ps) (hs2:qp3 c qs) (rA:qoT c l o ps qs s) (heq:Fn 109 2 [.ls 0 o.s.length,.ls 1 s.length] [(0,0,qaf o.s),(1,0,qaf s)] (.pv (.bool true)) 0 []) (rB:yv l qs o o3) :
 Fn 52 10 [qar c,qaq 8 s,.ls 9 l.length] (qgN c l s) (.tu [.ag [.pv (iV o3.tn),.pv (iV o3.td),.ls 10 o3.s.length,.pv (iV o3.x),.ls 11 o3.l.length,.ls 12 o3.u.length,.ls 13 o3.b.length,.ls 14 o3.fr.length,.ls 15 o3.ev.length,.ls 16 o3.wh.length,.ls 17 o3.d.length],.one (.pv (iV 0))]) 8 (qpe o3):=
 Fz [(10,15),(11,16),(12,17),(13,18),(14,19),(15,20),(16,21),(17,22)] [.md,Cf hs1 [9],Cf hs2 [0,1,2,3,4,5,6,7],.up 23,Lf rA,Cf heq [15,8],.k,.up 31,Lf rB]
  (qaG (qaM [(10,15),(11,16),(12,17),(13,18),(14,19),(15,20),(16,21),(17,22)]) (qpe o3)) (Co hs1 [9] 13 (Co hs2 [0,1,2,3,4,5,6,7] 14 (Lo rA [] (Co heq [15,8] 23 (Lo rB [] tI)))))
theorem quZ (hs1:qkv l ps) (hs2:qp3 c qs) (rA:qoT c l o ps qs s) (heq:Fn 109 2 [.ls 0 o.s.length,.ls 1 s.length] [(0,0,qaf o.s),(1,0,qaf s)] (.pv (.bool true)) 0 []) (rB:yu l qs o) :
 Fn 52 10 [qar c,qaq 8 s,.ls 9 l.length] (qgN c l s) (.pv (.tuple #[qbt,iV 18])) 0 []:=
 Fz [] [.md,Cf hs1 [9],Cf hs2 [0,1,2,3,4,5,6,7],.up 23,Lf rA,Cf heq [15,8],.k,.up 31,Lf rB]
  tI (Co hs1 [9] 13 (Co hs2 [0,1,2,3,4,5,6,7] 14 (Lo rA [] (Co heq [15,8] 23 (Lo rB [] tI)))))
abbrev qIO (o:Ck) (o2:Ck) (s:List Pt):Prop:=Fn 110 9 [qar o,qaq 8 s] [(0,0,qaf o.s),(1,0,qak o.l),(2,0,zrI o.u),(3,0,zrB o.b),(4,0,zrI o.fr),(5,0,qap o.ev),(6,0,zrI o.wh),(7,0,qaH o.d),(8,0,qaf s)] (.tu [.ag [.pv (iV o2.tn),.pv (iV o2.td),.ls 9 o2.s.length,.pv (iV o2.x),.ls 10 o2.l.length,.ls 11 o2.u.length,.ls 12 o2.b.length,.ls 13 o2.fr.length,.ls 14 o2.ev.length,.ls 15 o2.wh.length,.ls 16 o2.d.length],.one (.pv (iV 0))]) 8 [(9,0,qaf o2.s),(10,0,qak o2.l),(11,0,zrI o2.u),(12,0,zrB o2.b),(13,0,zrI o2.fr),(14,0,qap o2.ev),(15,0,zrI o2.wh),(16,0,qaH o2.d)]
abbrev qyq (o:Ck) (s:List Pt):Prop:=Fn 109 2 [.ls 0 o.s.length,.ls 1 s.length] [(0,0,qaf o.s),(1,0,qaf s)] (.pv (.bool false)) 0 []
theorem qwG (hs1:qkv l ps) (hs2:qp3 c qs) (rA:qoT c l o ps qs s) (heq:qyq o s) (hal:qIO o o2 s) (rB:yv l qs o2 o3) :
 Fn 52 10 [qar c,qaq 8 s,.ls 9 l.length] (qgN c l s) (.tu [.ag [.pv (iV o3.tn),.pv (iV o3.td),.ls 10 o3.s.length,.pv (iV o3.x),.ls 11 o3.l.length,.ls 12 o3.u.length,.ls 13 o3.b.length,.ls 14 o3.fr.length,.ls 15 o3.ev.length,.ls 16 o3.wh.length,.ls 17 o3.d.length],.one (.pv (iV 0))]) 8 (qpe o3):=
 Fz [(10,15),(11,16),(12,17),(13,18),(14,19),(15,20),(16,21),(17,22)] [.md,Cf hs1 [9],Cf hs2 [0,1,2,3,4,5,6,7],.up 23,Lf rA,Cf heq [15,8],.k,Cf hal [15,16,17,18,19,20,21,22,8],.k,.up 31,Lr rB [(15,23),(16,24),(17,25),(18,26),(19,27),(20,28),(21,29),(22,30)]]
  (qaG (qaM [(10,15),(11,16),(12,17),(13,18),(14,19),(15,20),(16,21),(17,22)]) (qpe o3)) (Co hs1 [9] 13 (Co hs2 [0,1,2,3,4,5,6,7] 14 (Lo rA [] (Co heq [15,8] 23 (Co hal [15,16,17,18,19,20,21,22,8] 23 (Lo rB [(15,23),(16,24),(17,25),(18,26),(19,27),(20,28),(21,29),(22,30)] tI))))))
theorem qyX (hs1:qkv l ps) (hs2:qp3 c qs) (rA:qoT c l o ps qs s) (heq:qyq o s) (hal:qIO o o2 s) (rB:yu l qs o2) :
 Fn 52 10 [qar c,qaq 8 s,.ls 9 l.length] (qgN c l s) (.pv (.tuple #[qbt,iV 18])) 0 []:=
 Fz [] [.md,Cf hs1 [9],Cf hs2 [0,1,2,3,4,5,6,7],.up 23,Lf rA,Cf heq [15,8],.k,Cf hal [15,16,17,18,19,20,21,22,8],.k,.up 31,Lr rB [(15,23),(16,24),(17,25),(18,26),(19,27),(20,28),(21,29),(22,30)]]
  tI (Co hs1 [9] 13 (Co hs2 [0,1,2,3,4,5,6,7] 14 (Lo rA [] (Co heq [15,8] 23 (Co hal [15,16,17,18,19,20,21,22,8] 23 (Lo rB [(15,23),(16,24),(17,25),(18,26),(19,27),(20,28),(21,29),(22,30)] tI))))))
theorem qs6 (hs1:qkv l ps) (hs2:qp3 c qs) (rA:qoT c l o ps qs s) (heq:qyq o s) (hal:Fn 110 9 [qar o,qaq 8 s] (yh o s) (.pv (.tuple #[qbt,iV 18])) 0 []) :
 Fn 52 10 [qar c,qaq 8 s,.ls 9 l.length] (qgN c l s) (.pv (.tuple #[qbt,iV 18])) 0 []:=
 Fz [] [.md,Cf hs1 [9],Cf hs2 [0,1,2,3,4,5,6,7],.up 23,Lf rA,Cf heq [15,8],.k,Cf hal [15,16,17,18,19,20,21,22,8],.k]
  tI (Co hs1 [9] 13 (Co hs2 [0,1,2,3,4,5,6,7] 14 (Lo rA [] (Co heq [15,8] 23 (Co hal [15,16,17,18,19,20,21,22,8] 23 tI)))))
theorem qFp {e1:Int} (h1:Fn 57 8 [qar c] (qaA c) (.pv (iV (e1))) 0 []) (h2:Fn 74 1 [qaq 0 s] [(0,0,qaf s)] (.pv (iV (e2))) 0 []) (h3:Fn 75 2 [qaq 0 s,.ls 1 l.length] (qh4 l s) (.pv (iV (e3))) 0 []) (he:(e1 !=0)=true) :
 Fn 30 10 [qar c,qaq 8 s,.ls 9 l.length] (qgN c l s) (.pv (.tuple #[qbt,iV e1])) 0 []:=
 Fz [] [Cf h1 [0,1,2,3,4,5,6,7],Cf h2 [8],Cf h3 [8,9],.k,.k,.t true,.t true]
  tI (Co h1 [0,1,2,3,4,5,6,7] 13 (Co h2 [8] 13 (Co h3 [8,9] 13 (A2 he he tI))))
abbrev qoL (c:Ck):Prop:=Fn 57 8 [qar c] (qaA c) (.pv (iV (0))) 0 []
theorem qIl (h1:qoL c) (h2:Fn 74 1 [qaq 0 s] [(0,0,qaf s)] (.pv (iV (e2))) 0 []) (h3:Fn 75 2 [qaq 0 s,.ls 1 l.length] (qh4 l s) (.pv (iV (e3))) 0 []) (he:(e2 !=0)=true) :
 Fn 30 10 [qar c,qaq 8 s,.ls 9 l.length] (qgN c l s) (.pv (.tuple #[qbt,iV e2])) 0 []:=
 Fz [] [Cf h1 [0,1,2,3,4,5,6,7],Cf h2 [8],Cf h3 [8,9],.k,.k,.k,.k,.k,.t true,.t true]
  tI (Co h1 [0,1,2,3,4,5,6,7] 13 (Co h2 [8] 13 (Co h3 [8,9] 13 (A2 he he tI))))
abbrev qsP (s:List Pt):Prop:=Fn 74 1 [qaq 0 s] [(0,0,qaf s)] (.pv (iV (0))) 0 []
theorem qIE (h1:qoL c) (h2:qsP s) (h3:Fn 75 2 [qaq 0 s,.ls 1 l.length] (qh4 l s) (.pv (iV (e3))) 0 []) (he:(e3 !=0)=true) :
 Fn 30 10 [qar c,qaq 8 s,.ls 9 l.length] (qgN c l s) (.pv (.tuple #[qbt,iV e3])) 0 []:=
 Fz [] [Cf h1 [0,1,2,3,4,5,6,7],Cf h2 [8],Cf h3 [8,9],.k,.k,.k,.k,.k,.k,.k,.k,.t true,.t true]
  tI (Co h1 [0,1,2,3,4,5,6,7] 13 (Co h2 [8] 13 (Co h3 [8,9] 13 (A2 he he tI))))
abbrev qyM (l:List P2) (s:List Pt):Prop:=Fn 75 2 [qaq 0 s,.ls 1 l.length] (qh4 l s) (.pv (iV (0))) 0 []
theorem qIm (h1:qoL c) (h2:qsP s) (h3:qyM l s) (hcl:Fn 76 8 [qar c] (qaA c) (qeS c) 8 (qcc c)) (hR:Fn 52 10 [qar c,qaq 8 s,.ls 9 l.length] (qgN c l s) (.pv (.tuple #[qbt,iV 18])) 0 []) :
 Fn 30 10 [qar c,qaq 8 s,.ls 9 l.length] (qgN c l s) (.pv (.tuple #[qbt,iV 18])) 0 []:=
 Fz [] [Cf h1 [0,1,2,3,4,5,6,7],Cf h2 [8],Cf h3 [8,9],.k,.k,.k,.k,.k,.k,.k,.k,.k,.k,.k,.k,.md,Cf hcl [0,1,2,3,4,5,6,7],Cf hR [14,15,16,17,18,19,20,21,8,9]]
  tI (Co h1 [0,1,2,3,4,5,6,7] 13 (Co h2 [8] 13 (Co h3 [8,9] 13 (Co hcl [0,1,2,3,4,5,6,7] 14 (Co hR [14,15,16,17,18,19,20,21,8,9] 22 tI)))))
theorem qIG (h1:qoL c) (h2:qsP s) (h3:qyM l s) (hcl:Fn 76 8 [qar c] (qaA c) (qeS c) 8 (qcc c)) (hR:Fn 52 10 [qar c,qaq 8 s,.ls 9 l.length] (qgN c l s) (.tu [.ag [.pv (iV c.tn),.pv (iV c.td),.ls 0 c.s.length,.pv (iV c.x),.ls 1 c.l.length,.ls 2 c.u.length,.ls 3 c.b.length,.ls 4 c.fr.length,.ls 5 c.ev.length,.ls 6 c.wh.length,.ls 7 c.d.length],.one (.pv (iV 0))]) 0 []) :
 Fn 30 10 [qar c,qaq 8 s,.ls 9 l.length] (qgN c l s) (.tu [.ag [.pv (iV c.tn),.pv (iV c.td),.ls 10 c.s.length,.pv (iV c.x),.ls 11 c.l.length,.ls 12 c.u.length,.ls 13 c.b.length,.ls 14 c.fr.length,.ls 15 c.ev.length,.ls 16 c.wh.length,.ls 17 c.d.length],.one (.pv (iV 0))]) 8 [(10,0,qaf c.s),(11,0,qak c.l),(12,0,zrI c.u),(13,0,zrB c.b),(14,0,zrI c.fr),(15,0,qap c.ev),(16,0,zrI c.wh),(17,0,qaH c.d)]:=
 Fz [(10,14),(11,15),(12,16),(13,17),(14,18),(15,19),(16,20),(17,21)] [Cf h1 [0,1,2,3,4,5,6,7],Cf h2 [8],Cf h3 [8,9],.k,.k,.k,.k,.k,.k,.k,.k,.k,.k,.k,.k,.md,Cf hcl [0,1,2,3,4,5,6,7],Cf hR [14,15,16,17,18,19,20,21,8,9]]
  (qaG (qaM [(10,14),(11,15),(12,16),(13,17),(14,18),(15,19),(16,20),(17,21)]) [(10,0,qaf c.s),(11,0,qak c.l),(12,0,zrI c.u),(13,0,zrB c.b),(14,0,zrI c.fr),(15,0,qap c.ev),(16,0,zrI c.wh),(17,0,qaH c.d)]) (Co h1 [0,1,2,3,4,5,6,7] 13 (Co h2 [8] 13 (Co h3 [8,9] 13 (Co hcl [0,1,2,3,4,5,6,7] 14 (Co hR [14,15,16,17,18,19,20,21,8,9] 22 tI)))))
theorem qHH (h1:qoL c) (h2:qsP s) (h3:qyM l s) (hcl:Fn 76 8 [qar c] (qaA c) (qeS c) 8 (qcc c)) (hR:Fn 52 10 [qar c,qaq 8 s,.ls 9 l.length] (qgN c l s) (.tu [.ag [.pv (iV o3.tn),.pv (iV o3.td),.ls 10 o3.s.length,.pv (iV o3.x),.ls 11 o3.l.length,.ls 12 o3.u.length,.ls 13 o3.b.length,.ls 14 o3.fr.length,.ls 15 o3.ev.length,.ls 16 o3.wh.length,.ls 17 o3.d.length],.one (.pv (iV 0))]) 8 (qpe o3)) :
 Fn 30 10 [qar c,qaq 8 s,.ls 9 l.length] (qgN c l s) (.tu [.ag [.pv (iV o3.tn),.pv (iV o3.td),.ls 10 o3.s.length,.pv (iV o3.x),.ls 11 o3.l.length,.ls 12 o3.u.length,.ls 13 o3.b.length,.ls 14 o3.fr.length,.ls 15 o3.ev.length,.ls 16 o3.wh.length,.ls 17 o3.d.length],.one (.pv (iV 0))]) 8 (qpe o3):=
 Fz [(10,22),(11,23),(12,24),(13,25),(14,26),(15,27),(16,28),(17,29)] [Cf h1 [0,1,2,3,4,5,6,7],Cf h2 [8],Cf h3 [8,9],.k,.k,.k,.k,.k,.k,.k,.k,.k,.k,.k,.k,.md,Cf hcl [0,1,2,3,4,5,6,7],Cf hR [14,15,16,17,18,19,20,21,8,9]]
  (qaG (qaM [(10,22),(11,23),(12,24),(13,25),(14,26),(15,27),(16,28),(17,29)]) (qpe o3)) (Co h1 [0,1,2,3,4,5,6,7] 13 (Co h2 [8] 13 (Co h3 [8,9] 13 (Co hcl [0,1,2,3,4,5,6,7] 14 (Co hR [14,15,16,17,18,19,20,21,8,9] 22 tI)))))
end Go.Proofs.YtkckcgpmnipnaaaGreat

namespace Go.Proofs.YtkckcgpmnipnaaaGreat
set_option maxRecDepth 100000
open Go.RowKit
theorem qoG {m:List Pt} {x:P2} {p:Pt} (h:∀ q∈m,q.id=0):p∈qct m x↔p∈m∨p=ptO x:=by
 unfold qct;split
 ·rename_i hx;exact⟨Or.inl,fun h=>h.elim id fun e=>by rw[e];exact hx⟩
 ·rw[List.mem_append,List.mem_singleton]
theorem qwI {m:List Pt} (h0:∀ q∈m,q.id=0) (x:P2):qiG Tryz.prog 167 (qaI m) (qae x.a x.b) (.bool true) (qaI (qct m x)):=by
 unfold qct;split
 ·rename_i hx;exact qmh (p:=ptO x) hx ⟨rfl,rfl⟩
 ·rename_i hx
  refine qgZ (p:=ptO x) fun q hq e=>hx ?_
  have e0:=h0 q hq;obtain⟨i,a,b⟩:=q;have e1:i=0:=e0;have e2:a=x.a:=e.1;have e3:b=x.b:=e.2;rw[e1,e2,e3] at hq;exact hq
theorem qmI {m:List Pt} {x:P2} (h:∀ q∈m,q.id=0):∀ q∈qct m x,q.id=0:=fun q hq=>by
 rcases (qoG h).1 hq with hq | hq
 ·exact h q hq
 ·rw[hq];rfl
theorem qsE {l:List P2} (hn:l.length≤1000):∀ (r k:Nat) (m:List Pt),k+r=l.length→(∀ q∈m,q.id=0)→
 Rl 1 1 106 0 17 2 [(3,.mp 1),(7,.ls 0 l.length),(8,.pv (iV (l.length:Int))),(9,.pv (iV (k:Int)))] [(1,0,.mrow (qaI m)),(0,0,qdH l)] (.exit 0) [(3,.mp 1)] [(1,0,.mrow (qaI ((l.drop k).foldl qct m))),(0,0,qdH l)]:=by
 intro r
 induction r with
 | zero=>
  intro k m hk _;rw[List.drop_eq_nil_of_le (by omega)];exact qoz (df (by omega))
 | succ r ih=>
  intro k m hk h0
  have hlk:k<l.length:=by omega
  obtain⟨g,hg⟩:=qah hlk;rw[qaP hg,List.foldl_cons];exact qkB (dt (by omega)) (qal hlk) hg (qwI h0 g) (qag (by omega)) (ih (k+1) (qct m g) (by omega) (qmI h0))
theorem qp2 {l:List P2} (hn:l.length≤1000):Fn 106 1 [.ls 0 l.length] [(0,0,qdH l)] (.mp 1) 1 [(1,0,.mrow (qaI (l.foldl qct [])))]:=by
 have h:=qsE hn l.length 0 [] (Nat.zero_add _) (fun q hq=>by cases hq);rw[List.drop_zero] at h;exact qkL h
theorem qhT (m:List Pt):(qaI m).length/2=m.length:=by
 have:∀ m:List Pt,(qaI m).length=2*m.length:=fun m=>by
  induction m with
  | nil=>rfl
  | cons p m ih=>
   have e:qaI (p::m)=qae p.a p.b::.bool true::qaI m:=rfl;rw[e,List.length_cons,List.length_cons,ih,List.length_cons];omega
 rw[this];omega
theorem qle (z:Int):Pure Tryz.prog 138 #[iV z] (.bool (decide (0≤z∧z≤65535))):=by
 by_cases h1:0≤z
 ·by_cases h2:z≤65535
  ·rw[decide_eq_true ⟨h1,h2⟩];exact qzh (dt h1) (dt h2)
  ·rw[decide_eq_false fun h=>h2 h.2];exact qwu (dt h1) (df h2)
 ·rw[decide_eq_false fun h=>h1 h.1];exact qD3 (df h1)
noncomputable def hsB (s:List Pt) (z:Int):Bool:=open Classical in decide (qeQ s=0∧∃ q∈s,q.id=z)
theorem qfM {s:List Pt} {z:Int}:hsB s z=true↔qeQ s=0∧∃ q∈s,q.id=z:=by unfold hsB;rw[decide_eq_true_eq]
theorem qkw (s:List Pt) (z:Int):Fn 139 1 [qaq 0 s,.pv (iV z)] [(0,0,qaf s)] (.pv (.bool (hsB s z))) 0 []:=by
 have c1:=qcA s;by_cases h0:qeQ s=0
 ·have hv:=qbL.1 h0;rw[h0] at c1
  rcases place s hv z with ⟨k,p,hk,he⟩ | ⟨hno,k,hkl,hlo,hhi⟩
  ·rw[qfM.2 ⟨h0,p,List.mem_of_getElem? hk,he⟩];exact qsJ (qnU hk (qal (qan hk)) c1 (qq4 hv hk he)) rfl
  ·have hb:hsB s z=false:=by
    unfold hsB;exact decide_eq_false fun ⟨_,q,hq,h⟩=>hno q hq h
   rw[hb];exact qt9 (p:=⟨0,0,0⟩) (e:=6) (qqJ c1 (qxk hv hkl hlo hhi)) rfl
 ·have hb:hsB s z=false:=by
   unfold hsB;exact decide_eq_false fun h=>h0 h.1
  rw[hb];exact qt9 (p:=⟨0,0,0⟩) (e:=qeQ s) (qnx c1 (by simp[h0])) (by simp[h0])
noncomputable def qff (s:List Pt) (l:List P2):Int:=open Classical in
 if ∃ g∈l,qby g.a g.b=false then 8 else if ¬ l.Nodup then 14 else if ∃ g∈l,¬ (hsB s g.a=true∧hsB s g.b=true) then 6 else 0
theorem qn2 {s:List Pt} {l:List P2} (h:qff s l=0):(∀ g∈l,qby g.a g.b=true)∧l.Nodup∧∀ g∈l,hsB s g.a=true∧hsB s g.b=true:=by
 unfold qff at h;split at h
 ·cases h
 ·rename_i h1;split at h
  ·cases h
  ·rename_i h2;split at h
   ·cases h
   ·rename_i h3;refine⟨fun g hg=>?_,Classical.not_not.1 h2,fun g hg=>Classical.byContradiction fun hn=>h3 ⟨g,hg,hn⟩⟩;cases hc:qby g.a g.b
    ·exact (h1 ⟨g,hg,hc⟩).elim
    ·rfl
section
variable {s:List Pt} {l:List P2}
abbrev ceH (s:List Pt) (l:List P2):List (Nat×Nat×SV):=[(2,0,.ls 0 s.length),(0,0,qaf s),(1,0,qdH l)]
theorem qdN {g:P2}:qby g.a g.b=true↔(0≤g.a∧g.a≤65535)∧(0≤g.b∧g.b≤65535)∧g.a≠g.b:=by
 rw[qbn];exact⟨fun ⟨a,b,c,d,e⟩=>⟨⟨a,b⟩,⟨c,d⟩,e⟩,fun ⟨⟨a,b⟩,⟨c,d⟩,e⟩=>⟨a,b,c,d,e⟩⟩
abbrev qIS (l:List P2) (k:Nat):TmL:=[(1,.ls 1 l.length),(2,.pp 2 0),(9,.ls 1 l.length),(10,.pv (iV (l.length:Int))),(11,.pv (iV (k:Int)))]
theorem qqH (hn:l.length≤1000):∀ (r k:Nat),k+r=l.length→
 ((∀ g∈l.drop k,qby g.a g.b=true)∧Rl 2 2 75 0 58 3 (qIS l k) (ceH s l) (.exit 0) [(1,.ls 1 l.length),(2,.pp 2 0)] (ceH s l))∨
 ((∃ g∈l.drop k,qby g.a g.b=false)∧Rl 2 2 75 0 58 3 (qIS l k) (ceH s l) .ret [(4,.pv (iV 8))] []):=by
 intro r
 induction r with
 | zero=>
  intro k hk;rw[List.drop_eq_nil_of_le (by omega)];exact Or.inl ⟨fun g hg=>(by cases hg),qxK (df (by omega))⟩
 | succ r ih=>
  intro k hk
  have hlk:k<l.length:=by omega
  obtain⟨g,hg⟩:=qah hlk;rw[qaP hg];have lk:decide ((k:Int)<(l.length:Int))=true:=dt (by omega)
  have bad:¬ qby g.a g.b=true→∃ x∈g::l.drop (k+1),qby x.a x.b=false:=fun h=>⟨g,List.mem_cons_self,by simpa using h⟩
  have hA:=qle g.a;have hB:=qle g.b;by_cases h1:0≤g.a∧g.a≤65535
  ·rw[decide_eq_true h1] at hA;by_cases h2:0≤g.b∧g.b≤65535
   ·rw[decide_eq_true h2] at hB;by_cases h3:g.a=g.b
    ·exact Or.inr ⟨bad fun h=>(qdN.1 h).2.2 h3,qFq lk (qal hlk) hg hA hB (by rw[beq_iff_eq];exact h3)⟩
    ·have hc:qby g.a g.b=true:=qdN.2 ⟨h1,h2,h3⟩
     have hab:(g.a==g.b)=false:=by rw[beq_eq_false_iff_ne];exact h3
     rcases ih (k+1) (by omega) with ⟨i1,i2⟩ | ⟨⟨x,i0,i1⟩,i2⟩
     ·exact Or.inl ⟨fun x hx=>(List.mem_cons.1 hx).elim (fun e=>by rw[e];exact hc) (i1 x),qAj lk (qal hlk) hg hA hB hab (qag (by omega)) i2⟩
     ·exact Or.inr ⟨⟨x,List.mem_cons_of_mem _ i0,i1⟩,qAj lk (qal hlk) hg hA hB hab (qag (by omega)) i2⟩
   ·rw[decide_eq_false h2] at hB;exact Or.inr ⟨bad fun h=>h2 (qdN.1 h).2.1,qFT lk (qal hlk) hg hA hB⟩
  ·rw[decide_eq_false h1] at hA;exact Or.inr ⟨bad fun h=>h1 (qdN.1 h).1,qHR lk (qal hlk) hg hA⟩
theorem qtz (hn:l.length≤1000):∀ (r k:Nat),k+r=l.length→
 ((∀ g∈l.drop k,hsB s g.a=true∧hsB s g.b=true)∧Rl 2 2 75 1 58 4 [(2,.pp 2 0),(39,.ls 1 l.length),(40,.pv (iV (l.length:Int))),(41,.pv (iV (k:Int)))] (ceH s l) (.exit 2) [] [])∨
 ((∃ g∈l.drop k,¬ (hsB s g.a=true∧hsB s g.b=true))∧Rl 2 2 75 1 58 4 [(2,.pp 2 0),(39,.ls 1 l.length),(40,.pv (iV (l.length:Int))),(41,.pv (iV (k:Int)))] (ceH s l) .ret [(4,.pv (iV 6))] []):=by
 intro r
 induction r with
 | zero=>
  intro k hk;rw[List.drop_eq_nil_of_le (by omega)];exact Or.inl ⟨fun g hg=>(by cases hg),qvt (df (by omega))⟩
 | succ r ih=>
  intro k hk
  have hlk:k<l.length:=by omega
  obtain⟨g,hg⟩:=qah hlk;rw[qaP hg];have lk:decide ((k:Int)<(l.length:Int))=true:=dt (by omega);have hA:=qkw s g.a;have hB:=qkw s g.b;cases h1:hsB s g.a
  ·rw[h1] at hA;exact Or.inr ⟨⟨g,List.mem_cons_self,fun h=>by rw[h1] at h;cases h.1⟩,qHv lk (qal hlk) hg hA⟩
  ·rw[h1] at hA;cases h2:hsB s g.b
   ·rw[h2] at hB;exact Or.inr ⟨⟨g,List.mem_cons_self,fun h=>by rw[h2] at h;cases h.2⟩,qIq lk (qal hlk) hg hA hB⟩
   ·rw[h2] at hB
    rcases ih (k+1) (by omega) with ⟨i1,i2⟩ | ⟨⟨x,i0,i1⟩,i2⟩
    ·exact Or.inl ⟨fun x hx=>(List.mem_cons.1 hx).elim (fun e=>by rw[e];exact⟨h1,h2⟩) (i1 x),qCR lk (qal hlk) hg hA hB (qag (by omega)) i2⟩
    ·exact Or.inr ⟨⟨x,List.mem_cons_of_mem _ i0,i1⟩,qCR lk (qal hlk) hg hA hB (qag (by omega)) i2⟩
theorem qua (hn:l.length≤1000):Fn 75 2 [qaq 0 s,.ls 1 l.length] [(0,0,qaf s),(1,0,qdH l)] (.pv (iV (qff s l))) 0 []:=by
 have hs:=qp2 hn;have h0:=qqH (s:=s) hn l.length 0 (Nat.zero_add _);have h1:=qtz (s:=s) hn l.length 0 (Nat.zero_add _);rw[List.drop_zero] at h0 h1
 rcases h0 with ⟨a0,r0⟩ | ⟨a0,r0⟩
 ·have n0:¬ ∃ g∈l,qby g.a g.b=false:=fun ⟨g,hg,h⟩=>by rw[a0 g hg] at h;cases h
  by_cases nd:l.Nodup
  ·have hlen:decide ((((qaI (l.foldl qct [])).length/2:Nat):Int)<(l.length:Int))=false:=df fun h=>qtR.1 (by rw[qhT] at h;omega) nd
   rcases h1 with ⟨a1,r1⟩ | ⟨a1,r1⟩
   ·have e:qff s l=0:=by
     unfold qff;rw[if_neg n0,if_neg (not_not_intro nd),if_neg fun ⟨g,hg,h⟩=>h (a1 g hg)]
    rw[e];exact qHg r0 hs hlen r1
   ·have e:qff s l=6:=by
     unfold qff;rw[if_neg n0,if_neg (not_not_intro nd),if_pos a1]
    rw[e];exact qIs r0 hs hlen r1
  ·have e:qff s l=14:=by
    unfold qff;rw[if_neg n0,if_pos nd]
   rw[e];exact qDT r0 hs (dt (by rw[qhT];have:=qtR.2 nd;omega))
 ·have e:qff s l=8:=by
   unfold qff;rw[if_pos a0]
  rw[e];exact qHM r0
end
end Go.Proofs.YtkckcgpmnipnaaaGreat
