/-
  Joined: Ld, Le, Lf, Lg, Eu, Et. Conditions: none.
-/
import Derived.Test.YtkckcgpmnipnaaaGreatW32
import Derived.Test.YtkckcgpmnipnaaaGreatW16
namespace Go.Proofs.YtkckcgpmnipnaaaGreat
set_option maxRecDepth 100000
open Go.RowKit
variable {c:Ck} {n z:Int} {p q:Pt} {j k:Nat} {y:Ev}
theorem qFw (h1:Pure Tryz.prog 45 #[qab c.tn c.td] (iV (8))) :
 Fn 60 8 [qar c] (qaA c) (.pv (iV (8))) 0 []:=
 Fz [] [Rf h1,.k]
  tI (Ai h1 tI)
abbrev qrJ (c:Ck):Prop:=Pure Tryz.prog 45 #[qab c.tn c.td] (iV (0))
theorem qHV (h1:qrJ c) (h2:Fn 38 1 [qaq 0 c.s] [(0,0,qaf c.s)] (.pv (iV (n))) 0 []) (hne:(n !=0)=true) :
 Fn 60 8 [qar c] (qaA c) (.pv (iV (8))) 0 []:=
 Fz [] [Rf h1,.k,Cf h2 [0],.t true]
  tI (Ai h1 (Co h2 [0] 9 (Ai hne tI)))
abbrev qtW (c:Ck):Prop:=Fn 38 1 [qaq 0 c.s] [(0,0,qaf c.s)] (.pv (iV (0))) 0 []
theorem qFh (h1:qrJ c) (h2:qtW c) (h3:Fn 121 1 [qaU 0 c.x c.l] [(0,0,qak c.l)] (.pv (iV (8))) 0 []) :
 Fn 60 8 [qar c] (qaA c) (.pv (iV (8))) 0 []:=
 Fz [] [Rf h1,.k,Cf h2 [0],.k,Cf h3 [1],.k]
  tI (Ai h1 (Co h2 [0] 9 (Co h3 [1] 9 tI)))
abbrev qyR (c:Ck):Prop:=Fn 121 1 [qaU 0 c.x c.l] [(0,0,qak c.l)] (.pv (iV (0))) 0 []
theorem qIc (h1:qrJ c) (h2:qtW c) (h3:qyR c) (h4:Fn 122 2 [qaU 0 c.x c.l,qaq 1 c.s] [(0,0,qak c.l),(1,0,qaf c.s)] (.pv (.bool false)) 0 []) :
 Fn 60 8 [qar c] (qaA c) (.pv (iV (8))) 0 []:=
 Fz [] [Rf h1,.k,Cf h2 [0],.k,Cf h3 [1],.k,Cf h4 [1,0],.k]
  tI (Ai h1 (Co h2 [0] 9 (Co h3 [1] 9 (Co h4 [1,0] 9 tI))))
abbrev qEk (c:Ck):HpL:=[(0,0,zrI c.u),(1,0,zrB c.b),(2,0,zrI c.fr),(3,0,qap c.ev),(4,0,zrI c.wh)]
abbrev qzl (c:Ck):Prop:=Fn 122 2 [qaU 0 c.x c.l,qaq 1 c.s] [(0,0,qak c.l),(1,0,qaf c.s)] (.pv (.bool true)) 0 []
theorem qHf (h1:qrJ c) (h2:qtW c) (h3:qyR c) (h4:qzl c) (h5:Fn 123 5 [agA c.u c.b c.fr c.ev c.wh] (qEk c) (.pv (iV (8))) 0 []) :
 Fn 60 8 [qar c] (qaA c) (.pv (iV (8))) 0 []:=
 Fz [] [Rf h1,.k,Cf h2 [0],.k,Cf h3 [1],.k,Cf h4 [1,0],.k,Cf h5 [2,3,4,5,6],.k]
  tI (Ai h1 (Co h2 [0] 9 (Co h3 [1] 9 (Co h4 [1,0] 9 (Co h5 [2,3,4,5,6] 9 tI)))))
abbrev qzL (c:Ck):Prop:=Fn 123 5 [agA c.u c.b c.fr c.ev c.wh] (qEk c) (.pv (iV (0))) 0 []
theorem qHB (h1:qrJ c) (h2:qtW c) (h3:qyR c) (h4:qzl c) (h5:qzL c) (h6:((c.wh.length:Int) !=200)=true) :
 Fn 60 8 [qar c] (qaA c) (.pv (iV (8))) 0 []:=
 Fz [] [Rf h1,.k,Cf h2 [0],.k,Cf h3 [1],.k,Cf h4 [1,0],.k,Cf h5 [2,3,4,5,6],.k,.t true]
  tI (Ai h1 (Co h2 [0] 9 (Co h3 [1] 9 (Co h4 [1,0] 9 (Co h5 [2,3,4,5,6] 9 (Ai h6 tI))))))
theorem qFP (h1:qrJ c) (h2:qtW c) (h3:qyR c) (h4:qzl c) (h5:qzL c) (h6:((c.wh.length:Int) !=200)=false) (h7:((c.ev.length:Int) !=(c.d.length:Int))=true) :
 Fn 60 8 [qar c] (qaA c) (.pv (iV (8))) 0 []:=
 Fz [] [Rf h1,.k,Cf h2 [0],.k,Cf h3 [1],.k,Cf h4 [1,0],.k,Cf h5 [2,3,4,5,6],.k,.t false,.t true]
  tI (Ai h1 (Co h2 [0] 9 (Co h3 [1] 9 (Co h4 [1,0] 9 (Co h5 [2,3,4,5,6] 9 (A2 h6 h7 tI))))))
abbrev quc (j:Nat) (k:Nat):TmL:=[(1,.pp 8 0),(3,.pv (iV (j:Int))),(4,.pv (iV (k:Int)))]
theorem qr7 (hk:c.l[k]?=some p) (hin:Bd k c.l.length) (hlt:Dt ((k:Int)<(c.l.length:Int))) (hw:Fn 124 1 [qaq 0 c.s,.pv (qae p.a p.b),.pv (qab c.tn c.td)] [(0,0,qaf c.s)] (.pv (.tuple #[qab n z,.bool false])) 0 []) (hs:iV (IntKind.i64.wrap ((k:Int)+1))=iV (((k+1:Nat):Int))) {e:Exit} {tm2:TmL} {hp2:HpL}
 (r:Rl 8 8 60 0 133 9 ([(1,.pp 8 0),(3,.pv (iV (j:Int))),(4,.pv (iV ((k+1:Nat):Int)))]) (qcb 8 c) e tm2 hp2):Rl 8 8 60 0 133 9 (quc j k) (qcb 8 c) e tm2 hp2:=
 RunsL.next [] 300 [.t true,.r (ptV p),Cf hw [0],.k,Re hs]
  (Ro (A3 hlt hin (qaB hk) (Co hw [0] 10 (Ai hs tI)))) r
abbrev qzD (c:Ck) (n:Int) (p:Pt) (z:Int):Prop:=Fn 124 1 [qaq 0 c.s,.pv (qae p.a p.b),.pv (qab c.tn c.td)] [(0,0,qaf c.s)] (.pv (.tuple #[qab n z,.bool true])) 0 []
theorem qwq (hk:c.l[k]?=some p) (hin:Bd k c.l.length) (hlt:Dt ((k:Int)<(c.l.length:Int))) (hw:qzD c n p z) (hj:decide ((j:Int)≥(c.d.length:Int))=true):Rl 8 8 60 0 133 9 (quc j k) (qcb 8 c) (.ret) ([(2,.pv (iV 8))]) ([]):=
 RunsL.stop [] 300 [.t true,.r (ptV p),Cf hw [0],.k,.t true] (fun h=>by cases h)
  (Ro (A3 hlt hin (qaB hk) (Co hw [0] 10 (Ai hj tI))))
theorem qx8 (hk:c.l[k]?=some p) (hin:0≤(k:Int)∧(k:Int)<(c.l.length:Int)) (hlt:decide ((k:Int)<(c.l.length:Int))=true) (hq:c.d[j]?=some q) (hiq:0≤(j:Int)∧(j:Int)<(c.d.length:Int)) (hw:qzD c n p z) (hj:decide ((j:Int)≥(c.d.length:Int))=false) (hne:(q.id !=p.id)=true):Rl 8 8 60 0 133 9 (quc j k) (qcb 8 c) (.ret) ([(2,.pv (iV 8))]) ([]):=
 RunsL.stop [] 300 [.t true,.r (ptV p),Cf hw [0],.k,.t false,.r (iV q.id),.t true] (fun h=>by cases h)
  (Ro (A3 hlt hin (qaB hk) (Co hw [0] 10 (A4 hj hiq (qiT hq) hne tI))))
theorem qqS {e:Int} (hk:c.l[k]?=some p) (hin:Bd k c.l.length) (hlt:Dt ((k:Int)<(c.l.length:Int))) (hq:c.d[j]?=some q) (hiq:Bd j c.d.length) (hw:qzD c n p z) (hj:Df ((j:Int)≥(c.d.length:Int))) (hne:(q.id !=p.id)=false) (hf:Fn 125 5 [agA c.u c.b c.fr c.ev c.wh,.pv (qaK q.a q.b)] (qEk c) (.pv (.tuple #[qaa y,iV (e)])) 0 []) (he:(e !=0)=true):Rl 8 8 60 0 133 9 (quc j k) (qcb 8 c) (.ret) ([(2,.pv (iV 8))]) ([]):=
 RunsL.stop [] 300 [.t true,.r (ptV p),Cf hw [0],.k,.t false,.r (iV q.id),.t false,.r (qaK q.a q.b),Cf hf [2,3,4,5,6],.t true] (fun h=>by cases h)
  (Ro (A3 hlt hin (qaB hk) (Co hw [0] 10 (A6 hj hiq (qiT hq) hne hiq (qcI hq) (Co hf [2,3,4,5,6] 11 (Ai he tI))))))
abbrev qyy (c:Ck) (q:Pt) (y:Ev):Prop:=Fn 125 5 [agA c.u c.b c.fr c.ev c.wh,.pv (qaK q.a q.b)] (qEk c) (.pv (.tuple #[qaa y,iV (0)])) 0 []
theorem qny (hk:c.l[k]?=some p) (hin:0≤(k:Int)∧(k:Int)<(c.l.length:Int)) (hlt:decide ((k:Int)<(c.l.length:Int))=true) (hq:c.d[j]?=some q) (hiq:0≤(j:Int)∧(j:Int)<(c.d.length:Int)) (hw:qzD c n p z) (hj:decide ((j:Int)≥(c.d.length:Int))=false) (hne:(q.id !=p.id)=false) (hf:qyy c q y) (hk2:(y.k !=p.id)=true):Rl 8 8 60 0 133 9 (quc j k) (qcb 8 c) (.ret) ([(2,.pv (iV 8))]) ([]):=
 RunsL.stop [] 300 [.t true,.r (ptV p),Cf hw [0],.k,.t false,.r (iV q.id),.t false,.r (qaK q.a q.b),Cf hf [2,3,4,5,6],.k,.t true] (fun h=>by cases h)
  (Ro (A3 hlt hin (qaB hk) (Co hw [0] 10 (A6 hj hiq (qiT hq) hne hiq (qcI hq) (Co hf [2,3,4,5,6] 11 (Ai hk2 tI))))))
theorem qtu (hk:c.l[k]?=some p) (hin:Bd k c.l.length) (hlt:Dt ((k:Int)<(c.l.length:Int))) (hq:c.d[j]?=some q) (hiq:Bd j c.d.length) (hw:qzD c n p z) (hj:Df ((j:Int)≥(c.d.length:Int))) (hne:(q.id !=p.id)=false) (hf:qyy c q y) (hk2:(y.k !=p.id)=false) (ht2:(!(y.n==n&&(y.d==z&&true)))=true):Rl 8 8 60 0 133 9 (quc j k) (qcb 8 c) (.ret) ([(2,.pv (iV 8))]) ([]):=
 RunsL.stop [] 300 [.t true,.r (ptV p),Cf hw [0],.k,.t false,.r (iV q.id),.t false,.r (qaK q.a q.b),Cf hf [2,3,4,5,6],.k,.t false,.t true] (fun h=>by cases h)
  (Ro (A3 hlt hin (qaB hk) (Co hw [0] 10 (A6 hj hiq (qiT hq) hne hiq (qcI hq) (Co hf [2,3,4,5,6] 11 (A2 hk2 ht2 tI))))))
theorem qq5 (hk:c.l[k]?=some p) (hin:Bd k c.l.length) (hlt:Dt ((k:Int)<(c.l.length:Int))) (hq:c.d[j]?=some q) (hiq:Bd j c.d.length) (hw:qzD c n p z) (hj:Df ((j:Int)≥(c.d.length:Int))) (hne:(q.id !=p.id)=false) (hf:qyy c q y) (hk2:(y.k !=p.id)=false) (ht2:(!(y.n==n&&(y.d==z&&true)))=false) (hs2:iV (IntKind.i64.wrap ((j:Int)+1))=iV (((j+1:Nat):Int))) (hs:iV (IntKind.i64.wrap ((k:Int)+1))=iV (((k+1:Nat):Int))) {e:Exit} {tm2:TmL} {hp2:HpL}
 (r:Rl 8 8 60 0 133 9 ([(1,.pp 8 0),(3,.pv (iV ((j+1:Nat):Int))),(4,.pv (iV ((k+1:Nat):Int)))]) (qcb 8 c) e tm2 hp2):Rl 8 8 60 0 133 9 (quc j k) (qcb 8 c) e tm2 hp2:=
 RunsL.next [] 300 [.t true,.r (ptV p),Cf hw [0],.k,.t false,.r (iV q.id),.t false,.r (qaK q.a q.b),Cf hf [2,3,4,5,6],.k,.t false,.t false,Re hs2,Re hs]
  (Ro (A3 hlt hin (qaB hk) (Co hw [0] 10 (A6 hj hiq (qiT hq) hne hiq (qcI hq) (Co hf [2,3,4,5,6] 11 (A4 hk2 ht2 hs2 hs tI)))))) r
theorem qyc (hge:decide ((k:Int)<(c.l.length:Int))=false):Rl 8 8 60 0 133 9 (quc j k) (qcb 8 c) (.exit 0) ([(1,.pp 8 0),(3,.pv (iV (j:Int)))]) (qcb 8 c):=
 RunsL.stop [] 300 [.t false] (fun h=>by cases h)
  (Ro (Ai hge tI))
theorem qwx (h1:qrJ c) (h2:qtW c) (h3:qyR c) (h4:qzl c) (h5:qzL c) (h6:((c.wh.length:Int) !=200)=false) (h7:((c.ev.length:Int) !=(c.d.length:Int))=false) (r0:Rl 8 8 60 0 133 9 ([(1,.pp 8 0),(3,.pv (iV ((0:Nat):Int))),(4,.pv (iV ((0:Nat):Int)))]) (qcb 8 c) (.ret) ([(2,.pv (iV 8))]) ([])) :
 Fn 60 8 [qar c] (qaA c) (.pv (iV (8))) 0 []:=
 Fz [] [Rf h1,.k,Cf h2 [0],.k,Cf h3 [1],.k,Cf h4 [1,0],.k,Cf h5 [2,3,4,5,6],.k,.t false,.t false,Lf r0]
  tI (Ai h1 (Co h2 [0] 9 (Co h3 [1] 9 (Co h4 [1,0] 9 (Co h5 [2,3,4,5,6] 9 (A2 h6 h7 (Lo r0 [] tI)))))))
abbrev qIR (c:Ck) (j:Nat):Prop:=Rl 8 8 60 0 133 9 ([(1,.pp 8 0),(3,.pv (iV ((0:Nat):Int))),(4,.pv (iV ((0:Nat):Int)))]) (qcb 8 c) (.exit 0) ([(1,.pp 8 0),(3,.pv (iV (j:Int)))]) (qcb 8 c)
theorem qqo (h1:qrJ c) (h2:qtW c) (h3:qyR c) (h4:qzl c) (h5:qzL c) (h6:((c.wh.length:Int) !=200)=false) (h7:((c.ev.length:Int) !=(c.d.length:Int))=false) (r0:qIR c j) (hd:((j:Int) !=(c.d.length:Int))=true) :
 Fn 60 8 [qar c] (qaA c) (.pv (iV (8))) 0 []:=
 Fz [] [Rf h1,.k,Cf h2 [0],.k,Cf h3 [1],.k,Cf h4 [1,0],.k,Cf h5 [2,3,4,5,6],.k,.t false,.t false,Lf r0,.t true]
  tI (Ai h1 (Co h2 [0] 9 (Co h3 [1] 9 (Co h4 [1,0] 9 (Co h5 [2,3,4,5,6] 9 (A2 h6 h7 (Lo r0 [] (Ai hd tI))))))))
theorem qAi (h1:qrJ c) (h2:qtW c) (h3:qyR c) (h4:qzl c) (h5:qzL c) (h6:((c.wh.length:Int) !=200)=false) (h7:((c.ev.length:Int) !=(c.d.length:Int))=false) (r0:qIR c j) (hd:((j:Int) !=(c.d.length:Int))=false) :
 Fn 60 8 [qar c] (qaA c) (.pv (iV (0))) 0 []:=
 Fz [] [Rf h1,.k,Cf h2 [0],.k,Cf h3 [1],.k,Cf h4 [1,0],.k,Cf h5 [2,3,4,5,6],.k,.t false,.t false,Lf r0,.t false]
  tI (Ai h1 (Co h2 [0] 9 (Co h3 [1] 9 (Co h4 [1,0] 9 (Co h5 [2,3,4,5,6] 9 (A2 h6 h7 (Lo r0 [] (Ai hd tI))))))))
end Go.Proofs.YtkckcgpmnipnaaaGreat

namespace Go.Proofs.YtkckcgpmnipnaaaGreat
set_option maxRecDepth 100000
open Go.RowKit
variable {c:Ck} {k:Nat}
theorem qIp (c:Ck):SV.ag [.pv (iV c.tn),.pv (iV c.td),.ls 10 c.s.length,.pv (iV c.x),.ls 11 c.l.length,.ls 12 c.u.length,.ls 13 c.b.length,.ls 14 c.fr.length,.ls 15 c.ev.length,.ls 16 c.wh.length,.ls 18 (0+c.d.length)]=(qeS c).ren (qaM [(8,10),(9,11),(10,12),(11,13),(12,14),(13,15),(14,16),(15,18)]):=by rw[Nat.zero_add];rfl
theorem qp4 (p:Pt):(!(p.id==p.id&&((p.a==p.a&&(p.b==p.b&&true))&&true)))=false:=by simp
theorem qpl (a b:Int):(!(a==a&&(b==b&&true)))=false:=by simp
theorem qsr (hf:Fn 70 1 [qaq 0 c.s] [(0,0,qaf c.s)] (.ag [.ls 1 c.s.length]) 1 [(1,0,qaf c.s)]) (hs:Fn 71 1 [qaU 0 c.x c.l] [(0,0,qak c.l)] (.ag [.pv (iV c.x),.ls 1 c.l.length]) 1 [(1,0,qak c.l)]) (ha:Fn 72 5 [agA c.u c.b c.fr c.ev c.wh] (yf c) (.ag [.ls 5 c.u.length,.ls 6 c.b.length,.ls 7 c.fr.length,.ls 8 c.ev.length,.ls 9 c.wh.length]) 5 (ye c)) (hn:0+c.d.length≤1000000) :
 Fn 29 8 [qar c] (qaA c) (qeS c) 8 (qcc c):=
 Fx [(8,10),(9,11),(10,12),(11,13),(12,14),(13,15),(14,16),(15,18)] [.md,Cf hf [0],Cf hs [1],Cf ha [2,3,4,5,6]]
  (qIp c) (A8 (Er (qaf c.s)) (Er (qak c.l)) (Er (zrI c.u)) (Er (zrB c.b)) (Er (zrI c.fr)) (Er (qap c.ev)) (Er (zrI c.wh)) (qkd 134 3 c.d.length (qbs c.d)) tI) (Co hf [0] 10 (Co hs [1] 11 (Co ha [2,3,4,5,6] 12 (Ai hn tI))))
abbrev qE5 (c:Ck):HpL:=[(16,10,.ls 7 c.d.length),(17,10,.ls 15 c.d.length),(7,0,qaH c.d),(15,0,qaH c.d)]
theorem qtc {p:Pt} (hk:c.d[k]?=some p) (hin:Bd k c.d.length) (hlt:Dt ((k:Int)<(c.d.length:Int))) (hs:iV (IntKind.i64.wrap ((k:Int)+1))=iV (((k+1:Nat):Int))) {e:Exit} {tm2:TmL} {hp2:HpL}
 (r:Rl 16 16 32 0 62 18 ([(2,.pp 16 0),(3,.pp 17 0),(5,.pv (iV ((k+1:Nat):Int)))]) (qE5 c) e tm2 hp2):Rl 16 16 32 0 62 18 ([(2,.pp 16 0),(3,.pp 17 0),(5,.pv (iV (k:Int)))]) (qE5 c) e tm2 hp2:=
 RunsL.next [] 300 [.t true,.r (ptV p),.r (ptV p),.t false,Re hs]
  (Ro (A7 hlt hin (qaB hk) hin (qaB hk) (qp4 p) hs tI)) r
theorem qyO (hge:decide ((k:Int)<(c.d.length:Int))=false):Rl 16 16 32 0 62 18 ([(2,.pp 16 0),(3,.pp 17 0),(5,.pv (iV (k:Int)))]) (qE5 c) (.exit 0) ([]) ([]):=
 RunsL.stop [] 300 [.t false] (fun h=>by cases h)
  (Ro (Ai hge tI))
theorem quR (hf:Fn 41 2 [qaq 0 c.s,qaq 1 c.s] [(0,0,qaf c.s),(1,0,qaf c.s)] (.pv (.bool true)) 0 []) (hs:Fn 79 2 [qaU 0 c.x c.l,qaU 1 c.x c.l] [(0,0,qak c.l),(1,0,qak c.l)] (.pv (.bool true)) 0 []) (ha:Fn 80 10 [agA c.u c.b c.fr c.ev c.wh,.ag [.ls 5 c.u.length,.ls 6 c.b.length,.ls 7 c.fr.length,.ls 8 c.ev.length,.ls 9 c.wh.length]] [(0,0,zrI c.u),(1,0,zrB c.b),(2,0,zrI c.fr),(3,0,qap c.ev),(4,0,zrI c.wh),(5,0,zrI c.u),(6,0,zrB c.b),(7,0,zrI c.fr),(8,0,qap c.ev),(9,0,zrI c.wh)] (.pv (.bool true)) 0 []) (r0:Rl 16 16 32 0 62 18 ([(2,.pp 16 0),(3,.pp 17 0),(5,.pv (iV ((0:Nat):Int)))]) (qE5 c) (.exit 0) ([]) ([])) :
 Fn 32 16 [qar c,qeS c] [(0,0,qaf c.s),(1,0,qak c.l),(2,0,zrI c.u),(3,0,zrB c.b),(4,0,zrI c.fr),(5,0,qap c.ev),(6,0,zrI c.wh),(7,0,qaH c.d),(8,0,qaf c.s),(9,0,qak c.l),(10,0,zrI c.u),(11,0,zrB c.b),(12,0,zrI c.fr),(13,0,qap c.ev),(14,0,zrI c.wh),(15,0,qaH c.d)] (.pv (.bool true)) 0 []:=
 Fz [] [.t false,Cf hf [0,8],.k,Cf hs [1,9],.k,Cf ha [2,3,4,5,6,10,11,12,13,14],.k,.t false,Lf r0]
  tI (Ai (qpl c.tn c.td) (Co hf [0,8] 18 (Co hs [1,9] 18 (Co ha [2,3,4,5,6,10,11,12,13,14] 18 (Ai (qw9 (c.d.length:Int)) (Lo r0 [] tI))))))
theorem qok :
 Pure Tryz.prog 32 #[qbt,qbt] (.bool true):=
 qad (args:=[qbt,qbt]) 600 [.k,.k,.k,.k,.k,.k,.k,.k,.k,.k,.k,.k,.k,.k,.k,.k,.k,.k,.k,.k,.k,.k,.k,.k,.k,.k,.k,.k,.k,.k,.k,.k,.k,.k,.k,.k,.k,.k,.k,.k,.k,.k,.k,.k,.k,.k,.k,.k,.k,.k,.k,.k,.k,.k,.k,.k,.k,.k,.k,.k]
  (Ai rfl tI) (by kernel_rfl)
end Go.Proofs.YtkckcgpmnipnaaaGreat

namespace Go.Proofs.YtkckcgpmnipnaaaGreat
set_option maxRecDepth 100000
open Go.RowKit
variable {c o:Ck} {a b n tn td x2:Int} {l2:List Pt}
theorem qf0 (m:List Pt) (p:Pt):some (SV.row 134 3 (m.length+1) (qbs m++[iV p.id,iV p.a,iV p.b]))=some (qaH (m++[p])):=by rw[qhi,qaH,List.length_append];rfl
theorem qG5 (c o:Ck) (x2 n hi hw:Int) (l2:List Pt):SV.tu [.ag [.pv (iV c.tn),.pv (iV c.td),.ls 13 c.s.length,.pv (iV x2),.ls 11 l2.length,.ls 23 o.u.length,.ls 24 o.b.length,.ls 25 o.fr.length,.ls 26 o.ev.length,.ls 27 o.wh.length,.ls 31 (c.d.length+1)],.one (.pv (iV n)),.one (.pv (iV 0))]=(SV.tu [qiJ { c with x:=x2,l:=l2,u:=o.u,b:=o.b,fr:=o.fr,ev:=o.ev,wh:=o.wh,d:=c.d++[(Pt.mk n hi hw)] },.one (.pv (iV n)),.one (.pv (iV 0))]).ren (qaM [(8,13),(9,11),(10,23),(11,24),(12,25),(13,26),(14,27),(15,31)]):=by
 rw[show c.d.length+1=(c.d++[(Pt.mk n hi hw)]).length by rw[List.length_append];rfl];rfl
theorem qhp (l:List Pt) (k:Nat) (h:k+1≤l.length):some (SV.row 134 3 (0+k+(l.length-(k+1))) ([]++((qbs l).drop (0*3)).take (k*3)++((qbs l).drop ((0+(k+1))*3)).take ((l.length-(k+1))*3)))=some (qaH (l.take k++l.drop (k+1))):=by
 have h1:=qjE l k;have h2:=qjB l (k+1);rw[Nat.zero_add] at h1;rw[h1,h2,qaH,qhl l k h,qb5,List.nil_append]
theorem qGh (c o:Ck) (k:Nat) (l2:List Pt) (h:k+1≤c.d.length):SV.ag [.pv (iV c.tn),.pv (iV c.td),.ls 10 c.s.length,.pv (iV c.x),.ls 19 l2.length,.ls 20 o.u.length,.ls 21 o.b.length,.ls 22 o.fr.length,.ls 23 o.ev.length,.ls 24 o.wh.length,.ls 27 (0+k+(c.d.length-(k+1)))]=(qeS { c with l:=l2,u:=o.u,b:=o.b,fr:=o.fr,ev:=o.ev,wh:=o.wh,d:=(c.d.take k++c.d.drop (k+1)) }).ren (qaM [(8,10),(9,19),(10,20),(11,21),(12,22),(13,23),(14,24),(15,27)]):=by
 rw[show 0+k+(c.d.length-(k+1))=(c.d.take k++c.d.drop (k+1)).length by simp;omega];rfl
theorem qov {e:Int} (ha:Fn 199 1 [qaU 0 c.x c.l,.pv (qae a b)] [(0,0,qak c.l)] (.pv (.tuple #[.agg #[iV 0,.slice none 0 0],iV 0,iV e])) 0 []) (he:(e !=0)=true) :
 Fn 147 8 [qar c,.pv (qae a b)] (qaA c) (.pv (.tuple #[qbt,iV 0,iV e])) 0 []:=
 Fz [] [Cf ha [1],.t true]
  tI (Co ha [1] 11 (Ai he tI))
abbrev qG0 (a:Int) (b:Int) (c:Ck) (l2:List Pt) (n:Int) (x2:Int):Prop:=Fn 199 1 [qaU 0 c.x c.l,.pv (qae a b)] [(0,0,qak c.l)] (.tu [.ag [.pv (iV x2),.ls 1 l2.length],.one (.pv (iV n)),.one (.pv (iV 0))]) 1 [(1,0,qak l2)]
abbrev qDc (c:Ck):Prop:=Fn 29 8 [qar c] (qaA c) (qeS c) 8 (qcc c)
theorem qAC (ha:qG0 a b c l2 n x2) (htw:qDc c) (hwn:Fn 124 1 [qaq 0 c.s,.pv (qae a b),.pv (qab c.tn c.td)] [(0,0,qaf c.s)] (.pv (.tuple #[qab tn td,.bool false])) 0 []) :
 Fn 147 8 [qar c,.pv (qae a b)] (qaA c) (.tu [qiJ { c with x:=x2,l:=l2 },.one (.pv (iV n)),.one (.pv (iV 0))]) 8 (qcc ({ c with x:=x2,l:=l2 }:Ck)):=
 Fz [(8,13),(9,11),(10,15),(11,16),(12,17),(13,18),(14,19),(15,20)] [Cf ha [1],.k,Cf htw [0,1,2,3,4,5,6,7],Cf hwn [0],.k]
  (qaG (qaM [(8,13),(9,11),(10,15),(11,16),(12,17),(13,18),(14,19),(15,20)]) (qcc ({ c with x:=x2,l:=l2 }:Ck))) (Co ha [1] 11 (Co htw [0,1,2,3,4,5,6,7] 13 (Co hwn [0] 22 tI)))
theorem qrk (ha:qG0 a b c l2 n x2) (htw:qDc c) (hwn:Fn 124 1 [qaq 0 c.s,.pv (qae a b),.pv (qab c.tn c.td)] [(0,0,qaf c.s)] (.pv (.tuple #[qab tn td,.bool true])) 0 []) (ho:yn c) :
 Fn 147 8 [qar c,.pv (qae a b)] (qaA c) (.pv (.tuple #[qbt,iV 0,iV 18])) 0 []:=
 Fz [] [Cf ha [1],.k,Cf htw [0,1,2,3,4,5,6,7],Cf hwn [0],.k,Cf ho [2,3,4],.k]
  tI (Co ha [1] 11 (Co htw [0,1,2,3,4,5,6,7] 13 (Co hwn [0] 22 (Co ho [2,3,4] 23 tI))))
theorem qwO {hi hw:Int} (ha:qG0 a b c l2 n x2) (htw:qDc c) (hwn:Fn 124 1 [qaq 0 c.s,.pv (qae a b),.pv (qab c.tn c.td)] [(0,0,qaf c.s)] (.pv (.tuple #[qab tn td,.bool true])) 0 []) (ho:yo c) (hp:Fn 198 5 [agA c.u c.b c.fr c.ev c.wh,.pv (qab tn td),.pv (iV (n))] (yf c) (.tu [.ag [.ls 5 o.u.length,.ls 6 o.b.length,.ls 7 o.fr.length,.ls 8 o.ev.length,.ls 9 o.wh.length],.one (.pv (qaK hi hw))]) 5 (ye o)) (hd:c.d.length+1≤1000000) :
 Fn 147 8 [qar c,.pv (qae a b)] (qaA c) (.tu [qiJ { c with x:=x2,l:=l2,u:=o.u,b:=o.b,fr:=o.fr,ev:=o.ev,wh:=o.wh,d:=c.d++[(Pt.mk n hi hw)] },.one (.pv (iV n)),.one (.pv (iV 0))]) 8 (qcc ({ c with x:=x2,l:=l2,u:=o.u,b:=o.b,fr:=o.fr,ev:=o.ev,wh:=o.wh,d:=c.d++[(Pt.mk n hi hw)] }:Ck)):=
 Fx [(8,13),(9,11),(10,23),(11,24),(12,25),(13,26),(14,27),(15,31)] [Cf ha [1],.k,Cf htw [0,1,2,3,4,5,6,7],Cf hwn [0],.k,Cf ho [2,3,4],.k,Cf hp [2,3,4,5,6]]
  (qG5 c o x2 n hi hw l2) (A8 (Er (qaf c.s)) (Er (qak l2)) (Er (zrI o.u)) (Er (zrB o.b)) (Er (zrI o.fr)) (Er (qap o.ev)) (Er (zrI o.wh)) (qf0 c.d (Pt.mk n hi hw)) tI) (Co ha [1] 11 (Co htw [0,1,2,3,4,5,6,7] 13 (Co hwn [0] 22 (Co ho [2,3,4] 23 (Co hp [2,3,4,5,6] 23 (Ai hd tI))))))
theorem qBT (htw:qDc c) (hwo:Fn 83 1 [qaU 0 c.x c.l,.pv (iV (n))] [(0,0,qak c.l)] (.ag [.pv (iV c.x),.ls 1 l2.length]) 1 [(1,0,qak l2)]) (hd:Fn 84 8 [qar c,.pv (iV (n))] (qaA c) (.pv (iV (-1))) 0 []) :
 Fn 36 8 [qar c,.pv (iV (n))] (qaA c) (qeS { c with l:=l2 }) 8 (qcc ({ c with l:=l2 }:Ck)):=
 Fz [(8,10),(9,19),(10,12),(11,13),(12,14),(13,15),(14,16),(15,17)] [Cf htw [0,1,2,3,4,5,6,7],Cf hwo [1],Cf hd [0,1,2,3,4,5,6,7],.k]
  (qaG (qaM [(8,10),(9,19),(10,12),(11,13),(12,14),(13,15),(14,16),(15,17)]) (qcc ({ c with l:=l2 }:Ck))) (Co htw [0,1,2,3,4,5,6,7] 10 (Co hwo [1] 19 (Co hd [0,1,2,3,4,5,6,7] 20 tI)))
theorem qyI {q:Pt} {k:Nat} (htw:qDc c) (hwo:Fn 83 1 [qaU 0 c.x c.l,.pv (iV (n))] [(0,0,qak c.l)] (.ag [.pv (iV c.x),.ls 1 l2.length]) 1 [(1,0,qak l2)]) (hd:Fn 84 8 [qar c,.pv (iV (n))] (qaA c) (.pv (iV (k:Int))) 0 []) (h0:Dt ((k:Int)≥0)) (hq:c.d[k]?=some q) (hin:Bd k c.d.length) (hr:Fn 85 5 [agA c.u c.b c.fr c.ev c.wh,.pv (qaK q.a q.b)] (yf c) (.ag [.ls 5 o.u.length,.ls 6 o.b.length,.ls 7 o.fr.length,.ls 8 o.ev.length,.ls 9 o.wh.length]) 5 (ye o)) (hkl:k≤c.d.length) (hkl1:k+1≤c.d.length) (a1:0+k≤1000000) (a2:0+k+(c.d.length-(k+1))≤1000000) (hk1:iV (IntKind.i64.wrap ((k:Int)+1))=iV (((k+1:Nat):Int))) :
 Fn 36 8 [qar c,.pv (iV (n))] (qaA c) (qeS { c with l:=l2,u:=o.u,b:=o.b,fr:=o.fr,ev:=o.ev,wh:=o.wh,d:=(c.d.take k++c.d.drop (k+1)) }) 8 (qcc ({ c with l:=l2,u:=o.u,b:=o.b,fr:=o.fr,ev:=o.ev,wh:=o.wh,d:=(c.d.take k++c.d.drop (k+1)) }:Ck)):=
 Fx [(8,10),(9,19),(10,20),(11,21),(12,22),(13,23),(14,24),(15,27)] [Cf htw [0,1,2,3,4,5,6,7],Cf hwo [1],Cf hd [0,1,2,3,4,5,6,7],.t true,.r (qaK q.a q.b),Cf hr [2,3,4,5,6],.md,.k,Re hk1,.k]
  (qGh c o k l2 hkl1) (A8 (Er (qaf c.s)) (Er (qak l2)) (Er (zrI o.u)) (Er (zrB o.b)) (Er (zrI o.fr)) (Er (qap o.ev)) (Er (zrI o.wh)) (qhp c.d k hkl1) tI) (Co htw [0,1,2,3,4,5,6,7] 10 (Co hwo [1] 19 (Co hd [0,1,2,3,4,5,6,7] 20 (A3 h0 hin (qcI hq) (Co hr [2,3,4,5,6] 20 (A9 tI (Int.natCast_nonneg k) (Nat.zero_le k) hkl a1 hk1 (Int.natCast_nonneg (k+1)) tI hkl1 (A2 (Nat.le_refl c.d.length) a2 tI)))))))
end Go.Proofs.YtkckcgpmnipnaaaGreat

namespace Go.Proofs.YtkckcgpmnipnaaaGreat
set_option maxRecDepth 100000
open Go.RowKit
variable {c o r9:Ck} {s:List Pt} {p q:Pt} {j k:Nat} {tn td:Int}
abbrev qxU (c:Ck) (o:Ck) (s:List Pt):HpL:=[(9,0,.pv (iV c.tn)),(9,1,.pv (iV c.td)),(9,2,.ls 0 c.s.length),(9,3,.pv (iV c.x)),(9,4,.ls 1 c.l.length),(9,5,.ls 2 c.u.length),(9,6,.ls 3 c.b.length),(9,7,.ls 4 c.fr.length),(9,8,.ls 5 c.ev.length),(9,9,.ls 6 c.wh.length),(9,10,.ls 7 c.d.length),(0,0,qaf c.s),(1,0,qak c.l),(2,0,zrI c.u),(3,0,zrB c.b),(4,0,zrI c.fr),(5,0,qap c.ev),(6,0,zrI c.wh),(7,0,qaH c.d),(10,0,.ls 8 s.length),(8,0,qaf s),(11,0,.pv (iV 0)),(11,1,.pv (iV 0)),(11,2,.pv (.slice none 0 0)),(11,3,.pv (iV 0)),(11,4,.pv (.slice none 0 0)),(11,5,.pv (.slice none 0 0)),(11,6,.pv (.slice none 0 0)),(11,7,.pv (.slice none 0 0)),(11,8,.pv (.slice none 0 0)),(11,9,.pv (.slice none 0 0)),(11,10,.pv (.slice none 0 0)),(20,0,.pv (iV c.tn)),(20,1,.pv (iV c.td)),(20,2,.ls 21 s.length),(20,3,.pv (iV c.x)),(20,4,.ls 13 c.l.length),(20,5,.ls 14 o.u.length),(20,6,.ls 15 o.b.length),(20,7,.ls 16 o.fr.length),(20,8,.ls 17 o.ev.length),(20,9,.ls 18 o.wh.length),(20,10,.ls 22 (o.d).length),(21,0,qaf s),(13,0,qak c.l),(14,0,zrI o.u),(15,0,zrB o.b),(16,0,zrI o.fr),(17,0,qap o.ev),(18,0,zrI o.wh),(22,0,qaH (o.d))]
abbrev qzo (k:Nat):TmL:=[(2,.pp 9 0),(3,.pp 10 0),(4,.pp 11 0),(6,.pp 20 0),(7,.pv (iV (k:Int)))]
abbrev qE0 (k:Nat):TmL:=[(2,.pp 9 0),(3,.pp 10 0),(4,.pp 11 0),(6,.pp 20 0),(7,.pv (iV ((k+1:Nat):Int)))]
abbrev qH8 (c:Ck) (p:Pt) (s:List Pt) (td:Int) (tn:Int):Prop:=Fn 124 1 [qaq 0 s,.pv (qae p.a p.b),.pv (qab c.tn c.td)] [(0,0,qaf s)] (.pv (.tuple #[qab tn td,.bool true])) 0 []
abbrev qGj (r9:Ck):HpL:=[(5,0,zrI r9.u),(6,0,zrB r9.b),(7,0,zrI r9.fr),(8,0,qap r9.ev),(9,0,zrI r9.wh)]
abbrev qFN (o:Ck):HpL:=[(0,0,zrI o.u),(1,0,zrB o.b),(2,0,zrI o.fr),(3,0,qap o.ev),(4,0,zrI o.wh)]
theorem qx1 (hk:c.l[k]?=some p) (hin:Bd k c.l.length) (hlt:Dt ((k:Int)<(c.l.length:Int))) (hd:Fn 84 8 [qar c,.pv (iV (p.id))] (qaA c) (.pv (iV (j:Int))) 0 []) (hwn:qH8 c p s td tn) (hq:c.d[j]?=some q) (hiq:Bd j c.d.length) (h0:Dt ((j:Int)≥0)) (hr:Fn 196 5 [agA o.u o.b o.fr o.ev o.wh,.pv (qaK q.a q.b),.pv (qab tn td)] (qFN o) (.ag [.ls 5 r9.u.length,.ls 6 r9.b.length,.ls 7 r9.fr.length,.ls 8 r9.ev.length,.ls 9 r9.wh.length]) 5 (qGj r9)) (hd1:o.d.length+1≤1000000) (hs:iV (IntKind.i64.wrap ((k:Int)+1))=iV (((k+1:Nat):Int))) {e:Exit} {tm2:TmL} {hp2:HpL}
 (r:Rl 9 9 146 0 122 23 (qE0 k) ([(9,0,.pv (iV c.tn)),(9,1,.pv (iV c.td)),(9,2,.ls 0 c.s.length),(9,3,.pv (iV c.x)),(9,4,.ls 1 c.l.length),(9,5,.ls 2 c.u.length),(9,6,.ls 3 c.b.length),(9,7,.ls 4 c.fr.length),(9,8,.ls 5 c.ev.length),(9,9,.ls 6 c.wh.length),(9,10,.ls 7 c.d.length),(0,0,qaf c.s),(1,0,qak c.l),(2,0,zrI c.u),(3,0,zrB c.b),(4,0,zrI c.fr),(5,0,qap c.ev),(6,0,zrI c.wh),(7,0,qaH c.d),(10,0,.ls 8 s.length),(8,0,qaf s),(11,0,.pv (iV 0)),(11,1,.pv (iV 0)),(11,2,.pv (.slice none 0 0)),(11,3,.pv (iV 0)),(11,4,.pv (.slice none 0 0)),(11,5,.pv (.slice none 0 0)),(11,6,.pv (.slice none 0 0)),(11,7,.pv (.slice none 0 0)),(11,8,.pv (.slice none 0 0)),(11,9,.pv (.slice none 0 0)),(11,10,.pv (.slice none 0 0)),(20,0,.pv (iV c.tn)),(20,1,.pv (iV c.td)),(20,2,.ls 21 s.length),(20,3,.pv (iV c.x)),(20,4,.ls 13 c.l.length),(20,5,.ls 14 r9.u.length),(20,6,.ls 15 r9.b.length),(20,7,.ls 16 r9.fr.length),(20,8,.ls 17 r9.ev.length),(20,9,.ls 18 r9.wh.length),(20,10,.ls 22 (o.d++[q]).length),(21,0,qaf s),(13,0,qak c.l),(14,0,zrI r9.u),(15,0,zrB r9.b),(16,0,zrI r9.fr),(17,0,qap r9.ev),(18,0,zrI r9.wh),(22,0,qaH (o.d++[q]))]) e tm2 hp2):Rl 9 9 146 0 122 23 (qzo k) (qxU c o s) e tm2 hp2:=
 RunsL.next [(14,25),(15,26),(16,27),(17,28),(18,29),(22,31)] 300 [.t true,.r (ptV p),Cf hd [0,1,2,3,4,5,6,7],Cf hwn [8],.t true,.r (qaK q.a q.b),Cf hr [14,15,16,17,18],.md,.r (ptV q),.k,.k,.t true,Re hs]
  (Rh (A9 (Er ((.pv (iV c.tn):SV))) (Er ((.pv (iV c.td):SV))) (Er (.ls 0 c.s.length:SV)) (Er ((.pv (iV c.x):SV))) (Er (.ls 1 c.l.length:SV)) (Er (.ls 2 c.u.length:SV)) (Er (.ls 3 c.b.length:SV)) (Er (.ls 4 c.fr.length:SV)) (Er (.ls 5 c.ev.length:SV)) (A9 (Er (.ls 6 c.wh.length:SV)) (Er (.ls 7 c.d.length:SV)) (Er (qaf c.s)) (Er (qak c.l)) (Er (zrI c.u)) (Er (zrB c.b)) (Er (zrI c.fr)) (Er (qap c.ev)) (Er (zrI c.wh)) (A9 (Er (qaH c.d)) (Er (.ls 8 s.length:SV)) (Er (qaf s)) (Er ((.pv (iV 0):SV))) (Er ((.pv (iV 0):SV))) (Er ((.pv (.slice none 0 0):SV))) (Er ((.pv (iV 0):SV))) (Er ((.pv (.slice none 0 0):SV))) (Er ((.pv (.slice none 0 0):SV))) (A9 (Er ((.pv (.slice none 0 0):SV))) (Er ((.pv (.slice none 0 0):SV))) (Er ((.pv (.slice none 0 0):SV))) (Er ((.pv (.slice none 0 0):SV))) (Er ((.pv (.slice none 0 0):SV))) (Er ((.pv (iV c.tn):SV))) (Er ((.pv (iV c.td):SV))) (Er (.ls 21 s.length:SV)) (Er ((.pv (iV c.x):SV))) (A9 (Er (.ls 13 c.l.length:SV)) (Er (.ls 25 r9.u.length:SV)) (Er (.ls 26 r9.b.length:SV)) (Er (.ls 27 r9.fr.length:SV)) (Er (.ls 28 r9.ev.length:SV)) (Er (.ls 29 r9.wh.length:SV)) (qjJ 31 o.d q) (Er (qaf s)) (Er (qak c.l)) (A6 (Er (zrI r9.u)) (Er (zrB r9.b)) (Er (zrI r9.fr)) (Er (qap r9.ev)) (Er (zrI r9.wh)) (qf0 o.d q) tI)))))) (A3 hlt hin (qaB hk) (Co hd [0,1,2,3,4,5,6,7] 24 (Co hwn [8] 24 (A3 h0 hiq (qcI hq) (Co hr [14,15,16,17,18] 25 (A5 hiq (qaB hq) hd1 h0 hs tI))))))) r
abbrev qIZ:HpL:=[(11,0,.pv (iV 0)),(11,1,.pv (iV 0)),(11,2,.pv (.slice none 0 0)),(11,3,.pv (iV 0)),(11,4,.pv (.slice none 0 0)),(11,5,.pv (.slice none 0 0)),(11,6,.pv (.slice none 0 0)),(11,7,.pv (.slice none 0 0)),(11,8,.pv (.slice none 0 0)),(11,9,.pv (.slice none 0 0)),(11,10,.pv (.slice none 0 0))]
abbrev qyA (c:Ck) (p:Pt):Prop:=Fn 84 8 [qar c,.pv (iV (p.id))] (qaA c) (.pv (iV (-1))) 0 []
theorem qq8 (hk:c.l[k]?=some p) (hin:Bd k c.l.length) (hlt:Dt ((k:Int)<(c.l.length:Int))) (hd:qyA c p) (hwn:qH8 c p s td tn) (ho:yn o):Rl 9 9 146 0 122 23 (qzo k) (qxU c o s) (.ret) ([(4,.pp 11 0),(5,.pv (iV 18))]) (qIZ):=
 RunsL.stop [] 300 [.t true,.r (ptV p),Cf hd [0,1,2,3,4,5,6,7],Cf hwn [8],.k,.k,.k,.k,Cf ho [14,15,16],.k] (fun h=>by cases h)
  (Ro (A3 hlt hin (qaB hk) (Co hd [0,1,2,3,4,5,6,7] 24 (Co hwn [8] 24 (Co ho [14,15,16] 25 tI)))))
theorem qsS {hi hw:Int} (hk:c.l[k]?=some p) (hin:Bd k c.l.length) (hlt:Dt ((k:Int)<(c.l.length:Int))) (hd:qyA c p) (hwn:qH8 c p s td tn) (ho:yo o) (hp:Fn 198 5 [agA o.u o.b o.fr o.ev o.wh,.pv (qab tn td),.pv (iV (p.id))] (qFN o) (.tu [.ag [.ls 5 r9.u.length,.ls 6 r9.b.length,.ls 7 r9.fr.length,.ls 8 r9.ev.length,.ls 9 r9.wh.length],.one (.pv (qaK hi hw))]) 5 (qGj r9)) (hd1:o.d.length+1≤1000000) (hs:iV (IntKind.i64.wrap ((k:Int)+1))=iV (((k+1:Nat):Int))) {e:Exit} {tm2:TmL} {hp2:HpL}
 (r:Rl 9 9 146 0 122 23 (qE0 k) ([(9,0,.pv (iV c.tn)),(9,1,.pv (iV c.td)),(9,2,.ls 0 c.s.length),(9,3,.pv (iV c.x)),(9,4,.ls 1 c.l.length),(9,5,.ls 2 c.u.length),(9,6,.ls 3 c.b.length),(9,7,.ls 4 c.fr.length),(9,8,.ls 5 c.ev.length),(9,9,.ls 6 c.wh.length),(9,10,.ls 7 c.d.length),(0,0,qaf c.s),(1,0,qak c.l),(2,0,zrI c.u),(3,0,zrB c.b),(4,0,zrI c.fr),(5,0,qap c.ev),(6,0,zrI c.wh),(7,0,qaH c.d),(10,0,.ls 8 s.length),(8,0,qaf s),(11,0,.pv (iV 0)),(11,1,.pv (iV 0)),(11,2,.pv (.slice none 0 0)),(11,3,.pv (iV 0)),(11,4,.pv (.slice none 0 0)),(11,5,.pv (.slice none 0 0)),(11,6,.pv (.slice none 0 0)),(11,7,.pv (.slice none 0 0)),(11,8,.pv (.slice none 0 0)),(11,9,.pv (.slice none 0 0)),(11,10,.pv (.slice none 0 0)),(20,0,.pv (iV c.tn)),(20,1,.pv (iV c.td)),(20,2,.ls 21 s.length),(20,3,.pv (iV c.x)),(20,4,.ls 13 c.l.length),(20,5,.ls 14 r9.u.length),(20,6,.ls 15 r9.b.length),(20,7,.ls 16 r9.fr.length),(20,8,.ls 17 r9.ev.length),(20,9,.ls 18 r9.wh.length),(20,10,.ls 22 (o.d++[(Pt.mk p.id hi hw)]).length),(21,0,qaf s),(13,0,qak c.l),(14,0,zrI r9.u),(15,0,zrB r9.b),(16,0,zrI r9.fr),(17,0,qap r9.ev),(18,0,zrI r9.wh),(22,0,qaH (o.d++[(Pt.mk p.id hi hw)]))]) e tm2 hp2):Rl 9 9 146 0 122 23 (qzo k) (qxU c o s) e tm2 hp2:=
 RunsL.next [(14,25),(15,26),(16,27),(17,28),(18,29),(22,33)] 300 [.t true,.r (ptV p),Cf hd [0,1,2,3,4,5,6,7],Cf hwn [8],.k,.k,.k,.k,Cf ho [14,15,16],.k,Cf hp [14,15,16,17,18],Re hs]
  (Rh (A9 (Er ((.pv (iV c.tn):SV))) (Er ((.pv (iV c.td):SV))) (Er (.ls 0 c.s.length:SV)) (Er ((.pv (iV c.x):SV))) (Er (.ls 1 c.l.length:SV)) (Er (.ls 2 c.u.length:SV)) (Er (.ls 3 c.b.length:SV)) (Er (.ls 4 c.fr.length:SV)) (Er (.ls 5 c.ev.length:SV)) (A9 (Er (.ls 6 c.wh.length:SV)) (Er (.ls 7 c.d.length:SV)) (Er (qaf c.s)) (Er (qak c.l)) (Er (zrI c.u)) (Er (zrB c.b)) (Er (zrI c.fr)) (Er (qap c.ev)) (Er (zrI c.wh)) (A9 (Er (qaH c.d)) (Er (.ls 8 s.length:SV)) (Er (qaf s)) (Er ((.pv (iV 0):SV))) (Er ((.pv (iV 0):SV))) (Er ((.pv (.slice none 0 0):SV))) (Er ((.pv (iV 0):SV))) (Er ((.pv (.slice none 0 0):SV))) (Er ((.pv (.slice none 0 0):SV))) (A9 (Er ((.pv (.slice none 0 0):SV))) (Er ((.pv (.slice none 0 0):SV))) (Er ((.pv (.slice none 0 0):SV))) (Er ((.pv (.slice none 0 0):SV))) (Er ((.pv (.slice none 0 0):SV))) (Er ((.pv (iV c.tn):SV))) (Er ((.pv (iV c.td):SV))) (Er (.ls 21 s.length:SV)) (Er ((.pv (iV c.x):SV))) (A9 (Er (.ls 13 c.l.length:SV)) (Er (.ls 25 r9.u.length:SV)) (Er (.ls 26 r9.b.length:SV)) (Er (.ls 27 r9.fr.length:SV)) (Er (.ls 28 r9.ev.length:SV)) (Er (.ls 29 r9.wh.length:SV)) (qjJ 33 o.d (Pt.mk p.id hi hw)) (Er (qaf s)) (Er (qak c.l)) (A6 (Er (zrI r9.u)) (Er (zrB r9.b)) (Er (zrI r9.fr)) (Er (qap r9.ev)) (Er (zrI r9.wh)) (qf0 o.d (Pt.mk p.id hi hw)) tI)))))) (A3 hlt hin (qaB hk) (Co hd [0,1,2,3,4,5,6,7] 24 (Co hwn [8] 24 (Co ho [14,15,16] 25 (Co hp [14,15,16,17,18] 25 (A2 hd1 hs tI))))))) r
theorem qsx (hk:c.l[k]?=some p) (hin:Bd k c.l.length) (hlt:Dt ((k:Int)<(c.l.length:Int))) (hd:Fn 84 8 [qar c,.pv (iV (p.id))] (qaA c) (.pv (iV (j:Int))) 0 []) (hwn:Fn 124 1 [qaq 0 s,.pv (qae p.a p.b),.pv (qab c.tn c.td)] [(0,0,qaf s)] (.pv (.tuple #[qab tn td,.bool false])) 0 []) (hq:c.d[j]?=some q) (hiq:Bd j c.d.length) (h0:Dt ((j:Int)≥0)) (hr:Fn 85 5 [agA o.u o.b o.fr o.ev o.wh,.pv (qaK q.a q.b)] (qFN o) (.ag [.ls 5 r9.u.length,.ls 6 r9.b.length,.ls 7 r9.fr.length,.ls 8 r9.ev.length,.ls 9 r9.wh.length]) 5 (qGj r9)) (hs:iV (IntKind.i64.wrap ((k:Int)+1))=iV (((k+1:Nat):Int))) {e:Exit} {tm2:TmL} {hp2:HpL}
 (r:Rl 9 9 146 0 122 23 (qE0 k) ([(9,0,.pv (iV c.tn)),(9,1,.pv (iV c.td)),(9,2,.ls 0 c.s.length),(9,3,.pv (iV c.x)),(9,4,.ls 1 c.l.length),(9,5,.ls 2 c.u.length),(9,6,.ls 3 c.b.length),(9,7,.ls 4 c.fr.length),(9,8,.ls 5 c.ev.length),(9,9,.ls 6 c.wh.length),(9,10,.ls 7 c.d.length),(0,0,qaf c.s),(1,0,qak c.l),(2,0,zrI c.u),(3,0,zrB c.b),(4,0,zrI c.fr),(5,0,qap c.ev),(6,0,zrI c.wh),(7,0,qaH c.d),(10,0,.ls 8 s.length),(8,0,qaf s),(11,0,.pv (iV 0)),(11,1,.pv (iV 0)),(11,2,.pv (.slice none 0 0)),(11,3,.pv (iV 0)),(11,4,.pv (.slice none 0 0)),(11,5,.pv (.slice none 0 0)),(11,6,.pv (.slice none 0 0)),(11,7,.pv (.slice none 0 0)),(11,8,.pv (.slice none 0 0)),(11,9,.pv (.slice none 0 0)),(11,10,.pv (.slice none 0 0)),(20,0,.pv (iV c.tn)),(20,1,.pv (iV c.td)),(20,2,.ls 21 s.length),(20,3,.pv (iV c.x)),(20,4,.ls 13 c.l.length),(20,5,.ls 14 r9.u.length),(20,6,.ls 15 r9.b.length),(20,7,.ls 16 r9.fr.length),(20,8,.ls 17 r9.ev.length),(20,9,.ls 18 r9.wh.length),(20,10,.ls 22 (o.d).length),(21,0,qaf s),(13,0,qak c.l),(14,0,zrI r9.u),(15,0,zrB r9.b),(16,0,zrI r9.fr),(17,0,qap r9.ev),(18,0,zrI r9.wh),(22,0,qaH (o.d))]) e tm2 hp2):Rl 9 9 146 0 122 23 (qzo k) (qxU c o s) e tm2 hp2:=
 RunsL.next [(14,25),(15,26),(16,27),(17,28),(18,29)] 300 [.t true,.r (ptV p),Cf hd [0,1,2,3,4,5,6,7],Cf hwn [8],.k,.t true,.r (qaK q.a q.b),Cf hr [14,15,16,17,18],.k,Re hs]
  (Ro (A3 hlt hin (qaB hk) (Co hd [0,1,2,3,4,5,6,7] 24 (Co hwn [8] 24 (A3 h0 hiq (qcI hq) (Co hr [14,15,16,17,18] 25 (Ai hs tI))))))) r
theorem qq6 (hk:c.l[k]?=some p) (hin:Bd k c.l.length) (hlt:Dt ((k:Int)<(c.l.length:Int))) (hd:qyA c p) (hwn:Fn 124 1 [qaq 0 s,.pv (qae p.a p.b),.pv (qab c.tn c.td)] [(0,0,qaf s)] (.pv (.tuple #[qab tn td,.bool false])) 0 []) (hs:iV (IntKind.i64.wrap ((k:Int)+1))=iV (((k+1:Nat):Int))) {e:Exit} {tm2:TmL} {hp2:HpL}
 (r:Rl 9 9 146 0 122 23 (qE0 k) (qxU c o s) e tm2 hp2):Rl 9 9 146 0 122 23 (qzo k) (qxU c o s) e tm2 hp2:=
 RunsL.next [] 300 [.t true,.r (ptV p),Cf hd [0,1,2,3,4,5,6,7],Cf hwn [8],.k,.k,.k,Re hs]
  (Ro (A3 hlt hin (qaB hk) (Co hd [0,1,2,3,4,5,6,7] 24 (Co hwn [8] 24 (Ai hs tI))))) r
abbrev qIV (c:Ck) (o:Ck) (s:List Pt):HpL:=[(11,0,.pv (iV 0)),(11,1,.pv (iV 0)),(11,2,.pv (.slice none 0 0)),(11,3,.pv (iV 0)),(11,4,.pv (.slice none 0 0)),(11,5,.pv (.slice none 0 0)),(11,6,.pv (.slice none 0 0)),(11,7,.pv (.slice none 0 0)),(11,8,.pv (.slice none 0 0)),(11,9,.pv (.slice none 0 0)),(11,10,.pv (.slice none 0 0)),(20,0,.pv (iV c.tn)),(20,1,.pv (iV c.td)),(20,2,.ls 21 s.length),(20,3,.pv (iV c.x)),(20,4,.ls 13 c.l.length),(20,5,.ls 14 o.u.length),(20,6,.ls 15 o.b.length),(20,7,.ls 16 o.fr.length),(20,8,.ls 17 o.ev.length),(20,9,.ls 18 o.wh.length),(20,10,.ls 22 (o.d).length),(21,0,qaf s),(13,0,qak c.l),(14,0,zrI o.u),(15,0,zrB o.b),(16,0,zrI o.fr),(17,0,qap o.ev),(18,0,zrI o.wh),(22,0,qaH (o.d))]
theorem qxB (hge:decide ((k:Int)<(c.l.length:Int))=false):Rl 9 9 146 0 122 23 (qzo k) (qxU c o s) (.exit 0) ([(4,.pp 11 0),(6,.pp 20 0)]) (qIV c o s):=
 RunsL.stop [] 300 [.t false] (fun h=>by cases h)
  (Ro (Ai hge tI))
abbrev qJb (c:Ck) (s:List Pt):HpL:=[(9,0,.pv (iV c.tn)),(9,1,.pv (iV c.td)),(9,2,.ls 0 c.s.length),(9,3,.pv (iV c.x)),(9,4,.ls 1 c.l.length),(9,5,.ls 2 c.u.length),(9,6,.ls 3 c.b.length),(9,7,.ls 4 c.fr.length),(9,8,.ls 5 c.ev.length),(9,9,.ls 6 c.wh.length),(9,10,.ls 7 c.d.length),(0,0,qaf c.s),(1,0,qak c.l),(2,0,zrI c.u),(3,0,zrB c.b),(4,0,zrI c.fr),(5,0,qap c.ev),(6,0,zrI c.wh),(7,0,qaH c.d),(10,0,.ls 8 s.length),(8,0,qaf s),(11,0,.pv (iV 0)),(11,1,.pv (iV 0)),(11,2,.pv (.slice none 0 0)),(11,3,.pv (iV 0)),(11,4,.pv (.slice none 0 0)),(11,5,.pv (.slice none 0 0)),(11,6,.pv (.slice none 0 0)),(11,7,.pv (.slice none 0 0)),(11,8,.pv (.slice none 0 0)),(11,9,.pv (.slice none 0 0)),(11,10,.pv (.slice none 0 0)),(20,0,.pv (iV c.tn)),(20,1,.pv (iV c.td)),(20,2,.ls 21 s.length),(20,3,.pv (iV c.x)),(20,4,.ls 13 c.l.length),(20,5,.ls 14 c.u.length),(20,6,.ls 15 c.b.length),(20,7,.ls 16 c.fr.length),(20,8,.ls 17 c.ev.length),(20,9,.ls 18 c.wh.length),(20,10,.ls 22 ([]:List Pt).length),(21,0,qaf s),(13,0,qak c.l),(14,0,zrI c.u),(15,0,zrB c.b),(16,0,zrI c.fr),(17,0,qap c.ev),(18,0,zrI c.wh),(22,0,qaH ([]:List Pt))]
abbrev qAb (c:Ck) (s:List Pt):HpL:=[(0,0,qaf c.s),(1,0,qak c.l),(2,0,zrI c.u),(3,0,zrB c.b),(4,0,zrI c.fr),(5,0,qap c.ev),(6,0,zrI c.wh),(7,0,qaH c.d),(8,0,qaf s)]
theorem qwl (htw:Fn 29 8 [qar c] (qaA c) (qeS c) 8 (qcc c)) (hf:Fn 70 1 [qaq 0 s] [(0,0,qaf s)] (.ag [.ls 1 s.length]) 1 [(1,0,qaf s)]) (r0:Rl 9 9 146 0 122 23 (yy) (qJb c s) (.ret) ([(4,.pp 11 0),(5,.pv (iV 18))]) (qIZ)) :
 Fn 146 9 [qar c,qaq 8 s] (qAb c s) (.pv (.tuple #[qbt,iV 18])) 0 []:=
 Fz [] [Cf htw [0,1,2,3,4,5,6,7],Cf hf [8],.ln false 20 10 134 3,Lf r0]
  tI (Co htw [0,1,2,3,4,5,6,7] 12 (Co hf [8] 21 (Lo r0 [] tI)))
theorem qB7 (htw:Fn 29 8 [qar c] (qaA c) (qeS c) 8 (qcc c)) (hf:Fn 70 1 [qaq 0 s] [(0,0,qaf s)] (.ag [.ls 1 s.length]) 1 [(1,0,qaf s)]) (r0:Rl 9 9 146 0 122 23 (yy) (qJb c s) (.exit 0) ([(4,.pp 11 0),(6,.pp 20 0)]) (qIV c o s)) :
 Fn 146 9 [qar c,qaq 8 s] (qAb c s) (.tu [.ag [.pv (iV c.tn),.pv (iV c.td),.ls 9 s.length,.pv (iV c.x),.ls 10 c.l.length,.ls 11 o.u.length,.ls 12 o.b.length,.ls 13 o.fr.length,.ls 14 o.ev.length,.ls 15 o.wh.length,.ls 16 (o.d).length],.one (.pv (iV 0))]) 8 [(9,0,qaf s),(10,0,qak c.l),(11,0,zrI o.u),(12,0,zrB o.b),(13,0,zrI o.fr),(14,0,qap o.ev),(15,0,zrI o.wh),(16,0,qaH (o.d))]:=
 Fz [(9,21),(10,13),(11,14),(12,15),(13,16),(14,17),(15,18),(16,22)] [Cf htw [0,1,2,3,4,5,6,7],Cf hf [8],.ln false 20 10 134 3,Lf r0]
  (qaG (qaM [(9,21),(10,13),(11,14),(12,15),(13,16),(14,17),(15,18),(16,22)]) [(9,0,qaf s),(10,0,qak c.l),(11,0,zrI o.u),(12,0,zrB o.b),(13,0,zrI o.fr),(14,0,qap o.ev),(15,0,zrI o.wh),(16,0,qaH (o.d))]) (Co htw [0,1,2,3,4,5,6,7] 12 (Co hf [8] 21 (Lo r0 [] tI)))
end Go.Proofs.YtkckcgpmnipnaaaGreat

namespace Go.Proofs.YtkckcgpmnipnaaaGreat
set_option maxRecDepth 100000
open Go.RowKit
variable {s:List Pt} {l:List P2} {k:Nat} {p:Pt} {c o o1 o3 o2:Ck} {x:P2}
theorem qIa (hlt:Dt ((k:Int)<(c.l.length:Int))) (hin:Bd k c.l.length) (hk:c.l[k]?=some p) (hi:Fn 48 1 [.ls 0 l.length,.pv (qae p.a p.b)] [(0,0,.row 90 2 l.length (p2V l))] (.pv (.bool true)) 0 []) (hs:iV (IntKind.i64.wrap ((k:Int)+1))=iV (((k+1:Nat):Int))) {e:Exit} {tm2:TmL} {hp2:HpL}
 (r:Rl 10 10 78 0 90 22 (qaT l.length (k+1:Nat)) (qaN c s l o) e tm2 hp2):Rl 10 10 78 0 90 22 (qaT l.length k) (qaN c s l o) e tm2 hp2:=
 RunsL.next [] 300 [.t true,.r (qae p.a p.b),Cf hi [9],.k,Re hs]
  (Ro (A3 hlt hin (qcI hk) (Co hi [9] 22 (Ai hs tI)))) r
theorem qHA (hlt:Dt ((k:Int)<(c.l.length:Int))) (hin:Bd k c.l.length) (hk:c.l[k]?=some p) (hi:Fn 48 1 [.ls 0 l.length,.pv (qae p.a p.b)] [(0,0,.row 90 2 l.length (p2V l))] (.pv (.bool false)) 0 []) (hg:Fn 36 8 [qar o,.pv (iV p.id)] (qaA o) (qeS o1) 8 (qcc o1)) (hs:iV (IntKind.i64.wrap ((k:Int)+1))=iV (((k+1:Nat):Int))) {e:Exit} {tm2:TmL} {hp2:HpL}
 (r:Rl 10 10 78 0 90 22 (qaT l.length (k+1:Nat)) (qaN c s l o1) e tm2 hp2):Rl 10 10 78 0 90 22 (qaT l.length k) (qaN c s l o) e tm2 hp2:=
 RunsL.next [(13,22),(14,23),(15,24),(16,25),(17,26),(18,27),(19,28),(20,29)] 300 [.t true,.r (qae p.a p.b),Cf hi [9],.k,.md,.r (iV p.id),Cf hg [13,14,15,16,17,18,19,20],Re hs]
  (Ro (A3 hlt hin (qcI hk) (Co hi [9] 22 (A2 hin (qiT hk) (Co hg [13,14,15,16,17,18,19,20] 22 (Ai hs tI)))))) r
theorem qFn (hlt:decide ((k:Int)<(c.l.length:Int))=false):Rl 10 10 78 0 90 22 (qaT l.length k) (qaN c s l o) (.exit 0) (qH0 l.length) (qGp s l o):=
 RunsL.stop [] 300 [.t false] (fun h=>by cases h)
  (Ro (Ai hlt tI))
theorem qCA (hlt:Dt ((k:Int)<(l.length:Int))) (hin:Bd k l.length) (hk:l[k]?=some x) (hh:Fn 126 1 [qaU 0 o.x o.l,.pv (qae x.a x.b)] [(0,0,qak o.l)] (.pv (.bool true)) 0 []) (hs:iV (IntKind.i64.wrap ((k:Int)+1))=iV (((k+1:Nat):Int))) {e:Exit} {tm2:TmL} {hp2:HpL}
 (r:Rl 10 10 78 1 90 31 (qbT l.length (k+1:Nat)) (qbN l o) e tm2 hp2):Rl 10 10 78 1 90 31 (qbT l.length k) (qbN l o) e tm2 hp2:=
 RunsL.next [] 300 [.t true,.md,.r (qae x.a x.b),Cf hh [14],Re hs]
  (Ro (A3 hlt hin (qbD hk) (Co hh [14] 31 (Ai hs tI)))) r
theorem qCw {n9:Int} (hlt:Dt ((k:Int)<(l.length:Int))) (hin:Bd k l.length) (hk:l[k]?=some x) (hh:Fn 126 1 [qaU 0 o.x o.l,.pv (qae x.a x.b)] [(0,0,qak o.l)] (.pv (.bool false)) 0 []) (ha:Fn 147 8 [qar o,.pv (qae x.a x.b)] (qaA o) (.tu [qiJ o1,.one (.pv (iV n9)),.one (.pv (iV 0))]) 8 (qcc o1)) (hs:iV (IntKind.i64.wrap ((k:Int)+1))=iV (((k+1:Nat):Int))) {e:Exit} {tm2:TmL} {hp2:HpL}
 (r:Rl 10 10 78 1 90 31 (qbT l.length (k+1:Nat)) (qbN l o1) e tm2 hp2):Rl 10 10 78 1 90 31 (qbT l.length k) (qbN l o) e tm2 hp2:=
 RunsL.next [(13,31),(14,32),(15,33),(16,34),(17,35),(18,36),(19,37),(20,38)] 300 [.t true,.md,.r (qae x.a x.b),Cf hh [14],.md,.r (qae x.a x.b),Cf ha [13,14,15,16,17,18,19,20],.k,Re hs]
  (Ro (A3 hlt hin (qbD hk) (Co hh [14] 31 (A2 hin (qbD hk) (Co ha [13,14,15,16,17,18,19,20] 31 (Ai hs tI)))))) r
theorem qFJ (hlt:Dt ((k:Int)<(l.length:Int))) (hin:Bd k l.length) (hk:l[k]?=some x) (hh:Fn 126 1 [qaU 0 o.x o.l,.pv (qae x.a x.b)] [(0,0,qak o.l)] (.pv (.bool false)) 0 []) (ha:Fn 147 8 [qar o,.pv (qae x.a x.b)] (qaA o) (.pv (.tuple #[qbt,iV 0,iV 18])) 0 []):Rl 10 10 78 1 90 31 (qbT l.length k) (qbN l o) (.ret) (qna) (qnb):=
 RunsL.stop [] 300 [.t true,.md,.r (qae x.a x.b),Cf hh [14],.md,.r (qae x.a x.b),Cf ha [13,14,15,16,17,18,19,20],.k] (fun h=>by cases h)
  (Ro (A3 hlt hin (qbD hk) (Co hh [14] 31 (A2 hin (qbD hk) (Co ha [13,14,15,16,17,18,19,20] 31 tI)))))
theorem qG1 (hlt:decide ((k:Int)<(l.length:Int))=false):Rl 10 10 78 1 90 31 (qbT l.length k) (qbN l o) (.exit 2) (qEo) (qE4 o):=
 RunsL.stop [] 300 [.t false] (fun h=>by cases h)
  (Ro (Ai hlt tI))
abbrev qgi (c:Ck) (l:List P2) (s:List Pt):HpL:=[(0,0,qaf c.s),(1,0,qak c.l),(2,0,zrI c.u),(3,0,zrB c.b),(4,0,zrI c.fr),(5,0,qap c.ev),(6,0,zrI c.wh),(7,0,qaH c.d),(8,0,qaf s),(9,0,.row 90 2 l.length (p2V l))]
abbrev qsM (o3:Ck):HpL:=[(10,0,qaf o3.s),(11,0,qak o3.l),(12,0,zrI o3.u),(13,0,zrB o3.b),(14,0,zrI o3.fr),(15,0,qap o3.ev),(16,0,zrI o3.wh),(17,0,qaH o3.d)]
abbrev qDx (c:Ck) (l:List P2) (o:Ck) (s:List Pt):Prop:=Rl 10 10 78 0 90 22 (qaT l.length (0:Nat)) (qaN c s l c) (.exit 0) (qH0 l.length) (qGp s l o)
abbrev qvW (c:Ck):Prop:=Fn 29 8 [qar c] (qaA c) (qeS c) 8 (qcc c)
theorem qD4 (ht:qvW c) (rA:qDx c l o s) (hf:Fn 41 2 [qaq 0 o.s,qaq 1 s] [(0,0,qaf o.s),(1,0,qaf s)] (.pv (.bool true)) 0 []) (rB:Rl 10 10 78 1 90 31 (qbT l.length (0:Nat)) (qbN l o) (.exit 2) (qEo) (qE4 o3)) :
 Fn 78 10 [qar c,qaq 8 s,.ls 9 l.length] (qgi c l s) (.tu [.ag [.pv (iV o3.tn),.pv (iV o3.td),.ls 10 o3.s.length,.pv (iV o3.x),.ls 11 o3.l.length,.ls 12 o3.u.length,.ls 13 o3.b.length,.ls 14 o3.fr.length,.ls 15 o3.ev.length,.ls 16 o3.wh.length,.ls 17 o3.d.length],.one (.pv (iV 0))]) 8 (qsM o3):=
 Fz [(10,13),(11,14),(12,15),(13,16),(14,17),(15,18),(16,19),(17,20)] [Cf ht [0,1,2,3,4,5,6,7],Lf rA,Cf hf [13,8],.k,.up 31,Lf rB]
  (qaG (qaM [(10,13),(11,14),(12,15),(13,16),(14,17),(15,18),(16,19),(17,20)]) (qsM o3)) (Co ht [0,1,2,3,4,5,6,7] 13 (Lo rA [] (Co hf [13,8] 22 (Lo rB [] tI))))
abbrev qIM (o:Ck) (o2:Ck) (s:List Pt):Prop:=Fn 146 9 [qar o,qaq 8 s] [(0,0,qaf o.s),(1,0,qak o.l),(2,0,zrI o.u),(3,0,zrB o.b),(4,0,zrI o.fr),(5,0,qap o.ev),(6,0,zrI o.wh),(7,0,qaH o.d),(8,0,qaf s)] (.tu [.ag [.pv (iV o2.tn),.pv (iV o2.td),.ls 9 o2.s.length,.pv (iV o2.x),.ls 10 o2.l.length,.ls 11 o2.u.length,.ls 12 o2.b.length,.ls 13 o2.fr.length,.ls 14 o2.ev.length,.ls 15 o2.wh.length,.ls 16 o2.d.length],.one (.pv (iV 0))]) 8 [(9,0,qaf o2.s),(10,0,qak o2.l),(11,0,zrI o2.u),(12,0,zrB o2.b),(13,0,zrI o2.fr),(14,0,qap o2.ev),(15,0,zrI o2.wh),(16,0,qaH o2.d)]
abbrev qHz (o:Ck) (s:List Pt):Prop:=Fn 41 2 [qaq 0 o.s,qaq 1 s] [(0,0,qaf o.s),(1,0,qaf s)] (.pv (.bool false)) 0 []
theorem qCk (ht:qvW c) (rA:qDx c l o s) (hf:qHz o s) (hal:qIM o o2 s) (rB:Rl 10 10 78 1 90 31 (qbT l.length (0:Nat)) (qbN l o2) (.exit 2) (qEo) (qE4 o3)) :
 Fn 78 10 [qar c,qaq 8 s,.ls 9 l.length] (qgi c l s) (.tu [.ag [.pv (iV o3.tn),.pv (iV o3.td),.ls 10 o3.s.length,.pv (iV o3.x),.ls 11 o3.l.length,.ls 12 o3.u.length,.ls 13 o3.b.length,.ls 14 o3.fr.length,.ls 15 o3.ev.length,.ls 16 o3.wh.length,.ls 17 o3.d.length],.one (.pv (iV 0))]) 8 (qsM o3):=
 Fz [(10,13),(11,14),(12,15),(13,16),(14,17),(15,18),(16,19),(17,20)] [Cf ht [0,1,2,3,4,5,6,7],Lf rA,Cf hf [13,8],.k,Cf hal [13,14,15,16,17,18,19,20,8],.k,.up 31,Lr rB [(13,22),(14,23),(15,24),(16,25),(17,26),(18,27),(19,28),(20,29)]]
  (qaG (qaM [(10,13),(11,14),(12,15),(13,16),(14,17),(15,18),(16,19),(17,20)]) (qsM o3)) (Co ht [0,1,2,3,4,5,6,7] 13 (Lo rA [] (Co hf [13,8] 22 (Co hal [13,14,15,16,17,18,19,20,8] 22 (Lo rB [(13,22),(14,23),(15,24),(16,25),(17,26),(18,27),(19,28),(20,29)] tI)))))
theorem qBx (ht:qvW c) (rA:qDx c l o s) (hf:Fn 41 2 [qaq 0 o.s,qaq 1 s] [(0,0,qaf o.s),(1,0,qaf s)] (.pv (.bool true)) 0 []) (rB:Rl 10 10 78 1 90 31 (qbT l.length (0:Nat)) (qbN l o) (.ret) (qna) (qnb)) :
 Fn 78 10 [qar c,qaq 8 s,.ls 9 l.length] (qgi c l s) (.pv (.tuple #[qbt,iV 18])) 0 []:=
 Fz [] [Cf ht [0,1,2,3,4,5,6,7],Lf rA,Cf hf [13,8],.k,.up 31,Lf rB]
  tI (Co ht [0,1,2,3,4,5,6,7] 13 (Lo rA [] (Co hf [13,8] 22 (Lo rB [] tI))))
theorem qCP (ht:qvW c) (rA:qDx c l o s) (hf:qHz o s) (hal:qIM o o2 s) (rB:Rl 10 10 78 1 90 31 (qbT l.length (0:Nat)) (qbN l o2) (.ret) (qna) (qnb)) :
 Fn 78 10 [qar c,qaq 8 s,.ls 9 l.length] (qgi c l s) (.pv (.tuple #[qbt,iV 18])) 0 []:=
 Fz [] [Cf ht [0,1,2,3,4,5,6,7],Lf rA,Cf hf [13,8],.k,Cf hal [13,14,15,16,17,18,19,20,8],.k,.up 31,Lr rB [(13,22),(14,23),(15,24),(16,25),(17,26),(18,27),(19,28),(20,29)]]
  tI (Co ht [0,1,2,3,4,5,6,7] 13 (Lo rA [] (Co hf [13,8] 22 (Co hal [13,14,15,16,17,18,19,20,8] 22 (Lo rB [(13,22),(14,23),(15,24),(16,25),(17,26),(18,27),(19,28),(20,29)] tI)))))
theorem qvb (ht:qvW c) (rA:qDx c l o s) (hf:qHz o s) (hal:Fn 146 9 [qar o,qaq 8 s] (yh o s) (.pv (.tuple #[qbt,iV 18])) 0 []) :
 Fn 78 10 [qar c,qaq 8 s,.ls 9 l.length] (qgi c l s) (.pv (.tuple #[qbt,iV 18])) 0 []:=
 Fz [] [Cf ht [0,1,2,3,4,5,6,7],Lf rA,Cf hf [13,8],.k,Cf hal [13,14,15,16,17,18,19,20,8],.k]
  tI (Co ht [0,1,2,3,4,5,6,7] 13 (Lo rA [] (Co hf [13,8] 22 (Co hal [13,14,15,16,17,18,19,20,8] 22 tI))))
theorem qF9 {e1:Int} (h1:Fn 60 8 [qar c] (qaA c) (.pv (iV (e1))) 0 []) (he:(e1 !=0)=true) :
 Fn 31 10 [qar c,qaq 8 s,.ls 9 l.length] (qgi c l s) (.pv (.tuple #[qbt,iV e1])) 0 []:=
 Fz [] [Cf h1 [0,1,2,3,4,5,6,7],.t true,Cf h1 [0,1,2,3,4,5,6,7]]
  tI (Co h1 [0,1,2,3,4,5,6,7] 13 (Ai he (Co h1 [0,1,2,3,4,5,6,7] 13 tI)))
abbrev qEu (c:Ck):Prop:=Fn 60 8 [qar c] (qaA c) (.pv (iV (0))) 0 []
theorem qFY {e2:Int} (h1:qEu c) (h2:Fn 38 1 [qaq 0 s] [(0,0,qaf s)] (.pv (iV (e2))) 0 []) (he:(e2 !=0)=true) :
 Fn 31 10 [qar c,qaq 8 s,.ls 9 l.length] (qgi c l s) (.pv (.tuple #[qbt,iV e2])) 0 []:=
 Fz [] [Cf h1 [0,1,2,3,4,5,6,7],.k,Cf h2 [8],.t true,Cf h2 [8]]
  tI (Co h1 [0,1,2,3,4,5,6,7] 13 (Co h2 [8] 13 (Ai he (Co h2 [8] 13 tI))))
abbrev qy3 (s:List Pt):Prop:=Fn 38 1 [qaq 0 s] [(0,0,qaf s)] (.pv (iV (0))) 0 []
theorem qFK {e3:Int} (h1:qEu c) (h2:qy3 s) (h3:Fn 77 2 [qaq 0 s,.ls 1 l.length] (yj s l) (.pv (iV (e3))) 0 []) (he:(e3 !=0)=true) :
 Fn 31 10 [qar c,qaq 8 s,.ls 9 l.length] (qgi c l s) (.pv (.tuple #[qbt,iV e3])) 0 []:=
 Fz [] [Cf h1 [0,1,2,3,4,5,6,7],.k,Cf h2 [8],.k,Cf h3 [8,9],.t true,Cf h3 [8,9]]
  tI (Co h1 [0,1,2,3,4,5,6,7] 13 (Co h2 [8] 13 (Co h3 [8,9] 13 (Ai he (Co h3 [8,9] 13 tI)))))
theorem qG3 (h1:qEu c) (h2:qy3 s) (h3:Fn 77 2 [qaq 0 s,.ls 1 l.length] (yj s l) (.pv (iV (0))) 0 []) (hR:Fn 78 10 [qar c,qaq 8 s,.ls 9 l.length] (qgi c l s) (.pv (.tuple #[qbt,iV 18])) 0 []) :
 Fn 31 10 [qar c,qaq 8 s,.ls 9 l.length] (qgi c l s) (.pv (.tuple #[qbt,iV 18])) 0 []:=
 Fz [] [Cf h1 [0,1,2,3,4,5,6,7],.k,Cf h2 [8],.k,Cf h3 [8,9],.k,Cf hR [0,1,2,3,4,5,6,7,8,9]]
  tI (Co h1 [0,1,2,3,4,5,6,7] 13 (Co h2 [8] 13 (Co h3 [8,9] 13 (Co hR [0,1,2,3,4,5,6,7,8,9] 13 tI))))
theorem qGA (h1:qEu c) (h2:qy3 s) (h3:Fn 77 2 [qaq 0 s,.ls 1 l.length] (yj s l) (.pv (iV (0))) 0 []) (hR:Fn 78 10 [qar c,qaq 8 s,.ls 9 l.length] (qgi c l s) (.tu [.ag [.pv (iV o3.tn),.pv (iV o3.td),.ls 10 o3.s.length,.pv (iV o3.x),.ls 11 o3.l.length,.ls 12 o3.u.length,.ls 13 o3.b.length,.ls 14 o3.fr.length,.ls 15 o3.ev.length,.ls 16 o3.wh.length,.ls 17 o3.d.length],.one (.pv (iV 0))]) 8 (qsM o3)) :
 Fn 31 10 [qar c,qaq 8 s,.ls 9 l.length] (qgi c l s) (.tu [.ag [.pv (iV o3.tn),.pv (iV o3.td),.ls 10 o3.s.length,.pv (iV o3.x),.ls 11 o3.l.length,.ls 12 o3.u.length,.ls 13 o3.b.length,.ls 14 o3.fr.length,.ls 15 o3.ev.length,.ls 16 o3.wh.length,.ls 17 o3.d.length],.one (.pv (iV 0))]) 8 (qsM o3):=
 Fz [(10,13),(11,14),(12,15),(13,16),(14,17),(15,18),(16,19),(17,20)] [Cf h1 [0,1,2,3,4,5,6,7],.k,Cf h2 [8],.k,Cf h3 [8,9],.k,Cf hR [0,1,2,3,4,5,6,7,8,9]]
  (qaG (qaM [(10,13),(11,14),(12,15),(13,16),(14,17),(15,18),(16,19),(17,20)]) (qsM o3)) (Co h1 [0,1,2,3,4,5,6,7] 13 (Co h2 [8] 13 (Co h3 [8,9] 13 (Co hR [0,1,2,3,4,5,6,7,8,9] 13 tI))))
theorem qGy (hg:Fn 28 8 [qar c] (qaA c) (.pv (.bool true)) 0 []) :
 Fn 5 10 [qar c,qaq 8 s,.ls 9 l.length] (qgi c l s) (.pv (.bool true)) 0 []:=
 Fz [] [Cf hg [0,1,2,3,4,5,6,7]]
  tI (Co hg [0,1,2,3,4,5,6,7] 12 tI)
abbrev qEs (c:Ck):Prop:=Fn 28 8 [qar c] (qaA c) (.pv (.bool false)) 0 []
theorem qHl (hg:qEs c) (hG:Fn 10 1 [qaq 0 s] [(0,0,qaf s)] (.pv (.bool true)) 0 []) :
 Fn 5 10 [qar c,qaq 8 s,.ls 9 l.length] (qgi c l s) (.pv (.bool true)) 0 []:=
 Fz [] [Cf hg [0,1,2,3,4,5,6,7],Cf hG [8]]
  tI (Co hg [0,1,2,3,4,5,6,7] 12 (Co hG [8] 12 tI))
abbrev qu0 (s:List Pt):Prop:=Fn 10 1 [qaq 0 s] [(0,0,qaf s)] (.pv (.bool false)) 0 []
theorem qHC (hg:qEs c) (hG:qu0 s) (hl:Dt ((l.length:Int)>40)) :
 Fn 5 10 [qar c,qaq 8 s,.ls 9 l.length] (qgi c l s) (.pv (.bool true)) 0 []:=
 Fz [] [Cf hg [0,1,2,3,4,5,6,7],Cf hG [8],.t true]
  tI (Co hg [0,1,2,3,4,5,6,7] 12 (Co hG [8] 12 (Ai hl tI)))
abbrev qIT (c:Ck):Prop:=Fn 32 16 [qar c,qeS c] [(0,0,qaf c.s),(1,0,qak c.l),(2,0,zrI c.u),(3,0,zrB c.b),(4,0,zrI c.fr),(5,0,qap c.ev),(6,0,zrI c.wh),(7,0,qaH c.d),(8,0,qaf c.s),(9,0,qak c.l),(10,0,zrI c.u),(11,0,zrB c.b),(12,0,zrI c.fr),(13,0,qap c.ev),(14,0,zrI c.wh),(15,0,qaH c.d)] (.pv (.bool true)) 0 []
theorem qAw {e:Int} (hg:qEs c) (hG:qu0 s) (hl:Df ((l.length:Int)>40)) (ht:qvW c) (hR:Fn 30 10 [qar c,qaq 8 s,.ls 9 l.length] (qgi c l s) (.pv (.tuple #[qbt,iV e])) 0 []) (hS:Fn 31 10 [qar c,qaq 8 s,.ls 9 l.length] (qgi c l s) (.pv (.tuple #[qbt,iV e])) 0 []) (hz:Pure Tryz.prog 32 #[qbt,qbt] (.bool true)) (hs:qIT c) :
 Fn 5 10 [qar c,qaq 8 s,.ls 9 l.length] (qgi c l s) (.pv (.bool true)) 0 []:=
 Fz [] [Cf hg [0,1,2,3,4,5,6,7],Cf hG [8],.t false,Cf ht [0,1,2,3,4,5,6,7],Cf hR [12,13,14,15,16,17,18,19,8,9],Cf hR [0,1,2,3,4,5,6,7,8,9],Rf hz,.t true,Cf hs [12,13,14,15,16,17,18,19,0,1,2,3,4,5,6,7]]
  tI (Co hg [0,1,2,3,4,5,6,7] 12 (Co hG [8] 12 (Ai hl (Co ht [0,1,2,3,4,5,6,7] 12 (Co hR [12,13,14,15,16,17,18,19,8,9] 21 (Co hS [0,1,2,3,4,5,6,7,8,9] 22 (A2 hz (beq_self_eq_true e) (Co hs [12,13,14,15,16,17,18,19,0,1,2,3,4,5,6,7] 23 tI))))))))
theorem qGU (hg:qEs c) (hG:qu0 s) (hl:decide ((l.length:Int)>40)=false) (ht:qvW c) (hR:Fn 30 10 [qar c,qaq 8 s,.ls 9 l.length] (qgi c l s) (.tu [.ag [.pv (iV o3.tn),.pv (iV o3.td),.ls 10 o3.s.length,.pv (iV o3.x),.ls 11 o3.l.length,.ls 12 o3.u.length,.ls 13 o3.b.length,.ls 14 o3.fr.length,.ls 15 o3.ev.length,.ls 16 o3.wh.length,.ls 17 o3.d.length],.one (.pv (iV 0))]) 8 (qsM o3)) (hS:Fn 31 10 [qar c,qaq 8 s,.ls 9 l.length] (qgi c l s) (.tu [.ag [.pv (iV o3.tn),.pv (iV o3.td),.ls 10 o3.s.length,.pv (iV o3.x),.ls 11 o3.l.length,.ls 12 o3.u.length,.ls 13 o3.b.length,.ls 14 o3.fr.length,.ls 15 o3.ev.length,.ls 16 o3.wh.length,.ls 17 o3.d.length],.one (.pv (iV 0))]) 8 (qsM o3)) (hz:Fn 32 16 [qar o3,qeS o3] [(0,0,qaf o3.s),(1,0,qak o3.l),(2,0,zrI o3.u),(3,0,zrB o3.b),(4,0,zrI o3.fr),(5,0,qap o3.ev),(6,0,zrI o3.wh),(7,0,qaH o3.d),(8,0,qaf o3.s),(9,0,qak o3.l),(10,0,zrI o3.u),(11,0,zrB o3.b),(12,0,zrI o3.fr),(13,0,qap o3.ev),(14,0,zrI o3.wh),(15,0,qaH o3.d)] (.pv (.bool true)) 0 []) (hs:qIT c) :
 Fn 5 10 [qar c,qaq 8 s,.ls 9 l.length] (qgi c l s) (.pv (.bool true)) 0 []:=
 Fz [] [Cf hg [0,1,2,3,4,5,6,7],Cf hG [8],.t false,Cf ht [0,1,2,3,4,5,6,7],Cf hR [12,13,14,15,16,17,18,19,8,9],Cf hR [0,1,2,3,4,5,6,7,8,9],Cf hz [21,22,23,24,25,26,27,28,30,31,32,33,34,35,36,37],.k,Cf hs [12,13,14,15,16,17,18,19,0,1,2,3,4,5,6,7]]
  tI (Co hg [0,1,2,3,4,5,6,7] 12 (Co hG [8] 12 (Ai hl (Co ht [0,1,2,3,4,5,6,7] 12 (Co hR [12,13,14,15,16,17,18,19,8,9] 21 (Co hS [0,1,2,3,4,5,6,7,8,9] 30 (Co hz [21,22,23,24,25,26,27,28,30,31,32,33,34,35,36,37] 39 (Co hs [12,13,14,15,16,17,18,19,0,1,2,3,4,5,6,7] 39 tI))))))))
end Go.Proofs.YtkckcgpmnipnaaaGreat

namespace Go.Proofs.YtkckcgpmnipnaaaGreat
set_option maxRecDepth 100000
open Go.RowKit
variable {s m9:List Pt} {k n:Nat} {p q:Pt} {l:List P2} {x:P2} {a b u v:Int}
theorem qnz {l:List P2} {k:Nat} {x:P2} (h:l[k]?=some x):qcJ (p2V l) (0*2+k*2+0) [iV x.a]:=fun j v hj=>by
 obtain⟨h1,h2⟩:=qfD h;rw[show 0*2+k*2+0+j=k*2+j by omega]
 match j,hj with
 | 0,hj=>cases hj;exact h1
 | j+1,hj=>simp at hj
theorem qt7 {l:List P2} {k:Nat} {x:P2} (h:l[k]?=some x):qcJ (p2V l) (0*2+k*2+1) [iV x.b]:=fun j v hj=>by
 obtain⟨h1,h2⟩:=qfD h;rw[show 0*2+k*2+1+j=k*2+1+j by omega]
 match j,hj with
 | 0,hj=>cases hj;exact h2
 | j+1,hj=>simp at hj
abbrev qGD (k:Nat) (m9:List Pt) (s:List Pt):TmL:=[(0,.ls 0 s.length),(1,.ls 1 m9.length),(12,.pv (iV (s.length:Int))),(13,.pv (iV (k:Int)))]
theorem qlq (hlt:decide ((k:Int)<(s.length:Int))=true) (i1:0≤(k:Int)∧(k:Int)<(s.length:Int)) (g1:s[k]?=some p) (i2:0≤(k:Int)∧(k:Int)<(m9.length:Int)) (g2:m9[k]?=some q) (hne:(!((p.id==q.id)&&((p.a==q.a)&&((p.b==q.b)&&true))))=false) (hs:iV (IntKind.i64.wrap ((k:Int)+1))=iV (((k+1:Nat):Int))) {e:Exit} {tm2:TmL} {hp2:HpL}
 (r:Rl 2 2 109 0 26 2 ([(0,.ls 0 s.length),(1,.ls 1 m9.length),(12,.pv (iV (s.length:Int))),(13,.pv (iV ((k+1:Nat):Int)))]) ([(0,0,qaf s),(1,0,qaf m9)]) e tm2 hp2):Rl 2 2 109 0 26 2 (qGD k m9 s) ([(0,0,qaf s),(1,0,qaf m9)]) e tm2 hp2:=
 RunsL.next [] 300 [.t true,.md,.r (ptV p),.r (ptV q),.t false,Re hs]
  (Ro (A7 hlt i1 (qaB g1) i2 (qaB g2) hne hs tI)) r
theorem qwm (hlt:Dt ((k:Int)<(s.length:Int))) (i1:Bd k s.length) (g1:s[k]?=some p) (i2:Bd k m9.length) (g2:m9[k]?=some q) (hne:(!((p.id==q.id)&&((p.a==q.a)&&((p.b==q.b)&&true))))=true):Rl 2 2 109 0 26 2 (qGD k m9 s) ([(0,0,qaf s),(1,0,qaf m9)]) (.ret) ([(4,.pv (.bool false))]) ([]):=
 RunsL.stop [] 300 [.t true,.md,.r (ptV p),.r (ptV q),.t true] (fun h=>by cases h)
  (Ro (A6 hlt i1 (qaB g1) i2 (qaB g2) hne tI))
theorem qvs (hlt:decide ((k:Int)<(s.length:Int))=false):Rl 2 2 109 0 26 2 (qGD k m9 s) ([(0,0,qaf s),(1,0,qaf m9)]) (.exit 0) ([]) ([]):=
 RunsL.stop [] 300 [.t false] (fun h=>by cases h)
  (Ro (Ai hlt tI))
theorem qwk (hl:((s.length:Int) !=(m9.length:Int))=true) :
 Fn 109 2 [.ls 0 s.length,.ls 1 m9.length] [(0,0,qaf s),(1,0,qaf m9)] (.pv (.bool false)) 0 []:=
 Fz [] [.t true]
  tI (Ai hl tI)
theorem quX (hl:((s.length:Int) !=(m9.length:Int))=false) (r0:Rl 2 2 109 0 26 2 ([(0,.ls 0 s.length),(1,.ls 1 m9.length),(12,.pv (iV (s.length:Int))),(13,.pv (iV ((0:Nat):Int)))]) ([(0,0,qaf s),(1,0,qaf m9)]) (.exit 0) ([]) ([])) :
 Fn 109 2 [.ls 0 s.length,.ls 1 m9.length] [(0,0,qaf s),(1,0,qaf m9)] (.pv (.bool true)) 0 []:=
 Fz [] [.t false,Lf r0]
  tI (Ai hl (Lo r0 [] tI))
theorem qDG (hl:((s.length:Int) !=(m9.length:Int))=false) (r0:Rl 2 2 109 0 26 2 ([(0,.ls 0 s.length),(1,.ls 1 m9.length),(12,.pv (iV (s.length:Int))),(13,.pv (iV ((0:Nat):Int)))]) ([(0,0,qaf s),(1,0,qaf m9)]) (.ret) ([(4,.pv (.bool false))]) ([])) :
 Fn 109 2 [.ls 0 s.length,.ls 1 m9.length] [(0,0,qaf s),(1,0,qaf m9)] (.pv (.bool false)) 0 []:=
 Fz [] [.t false,Lf r0]
  tI (Ai hl (Lo r0 [] tI))
abbrev qm9 (a:Int) (b:Int) (l:List P2):HpL:=[(1,0,.pv (iV a)),(1,1,.pv (iV b)),(0,0,.row 90 2 l.length (p2V l))]
theorem qun (hlt:Dt ((k:Int)<(l.length:Int))) (hin:Bd k l.length) (hk:l[k]?=some x) (he:((x.a==a)&&((x.b==b)&&true))=false) (hs:iV (IntKind.i64.wrap ((k:Int)+1))=iV (((k+1:Nat):Int))) {e:Exit} {tm2:TmL} {hp2:HpL}
 (r:Rl 1 1 48 0 18 2 ([(0,.ls 0 l.length),(3,.pp 1 0),(5,.pv (iV ((k+1:Nat):Int)))]) (qm9 a b l) e tm2 hp2):Rl 1 1 48 0 18 2 ([(0,.ls 0 l.length),(3,.pp 1 0),(5,.pv (iV (k:Int)))]) (qm9 a b l) e tm2 hp2:=
 RunsL.next [] 300 [.t true,.md,.r (qae x.a x.b),.t false,Re hs]
  (Ro (A5 hlt hin (qbD hk) he hs tI)) r
theorem qBE (hlt:Dt ((k:Int)<(l.length:Int))) (hin:Bd k l.length) (hk:l[k]?=some x) (he:((x.a==a)&&((x.b==b)&&true))=true):Rl 1 1 48 0 18 2 ([(0,.ls 0 l.length),(3,.pp 1 0),(5,.pv (iV (k:Int)))]) (qm9 a b l) (.ret) ([(4,.pv (.bool true))]) ([]):=
 RunsL.stop [] 300 [.t true,.md,.r (qae x.a x.b),.t true] (fun h=>by cases h)
  (Ro (A4 hlt hin (qbD hk) he tI))
theorem qBz (hlt:decide ((k:Int)<(l.length:Int))=false):Rl 1 1 48 0 18 2 ([(0,.ls 0 l.length),(3,.pp 1 0),(5,.pv (iV (k:Int)))]) (qm9 a b l) (.exit 0) ([]) ([]):=
 RunsL.stop [] 300 [.t false] (fun h=>by cases h)
  (Ro (Ai hlt tI))
theorem qCf (r0:Rl 1 1 48 0 18 2 ([(0,.ls 0 l.length),(3,.pp 1 0),(5,.pv (iV ((0:Nat):Int)))]) (qm9 a b l) (.ret) ([(4,.pv (.bool true))]) ([])) :
 Fn 48 1 [.ls 0 l.length,.pv (qae a b)] [(0,0,.row 90 2 l.length (p2V l))] (.pv (.bool true)) 0 []:=
 Fz [] [Lf r0]
  tI (Lo r0 [] tI)
theorem qD5 (r0:Rl 1 1 48 0 18 2 ([(0,.ls 0 l.length),(3,.pp 1 0),(5,.pv (iV ((0:Nat):Int)))]) (qm9 a b l) (.exit 0) ([]) ([])) :
 Fn 48 1 [.ls 0 l.length,.pv (qae a b)] [(0,0,.row 90 2 l.length (p2V l))] (.pv (.bool false)) 0 []:=
 Fz [] [Lf r0]
  tI (Lo r0 [] tI)
theorem quD (hlt:Dt ((k:Int)<(n:Int))) (hin:Bd k n) (hk:l[k]?=some x) (he:((x.a==a)&&((x.b==b)&&true))=false) (hs:iV (IntKind.i64.wrap ((k:Int)+1))=iV (((k+1:Nat):Int))) {e:Exit} {tm2:TmL} {hp2:HpL}
 (r:Rl 1 1 48 0 18 2 ([(0,.lq 0 2 0 n),(3,.pp 1 0),(5,.pv (iV ((k+1:Nat):Int)))]) (qm9 a b l) e tm2 hp2):Rl 1 1 48 0 18 2 ([(0,.lq 0 2 0 n),(3,.pp 1 0),(5,.pv (iV (k:Int)))]) (qm9 a b l) e tm2 hp2:=
 RunsL.next [] 300 [.t true,.md,.r (qae x.a x.b),.t false,Re hs]
  (Ro (A5 hlt hin (qbD hk) he hs tI)) r
theorem qC9 (hlt:Dt ((k:Int)<(n:Int))) (hin:Bd k n) (hk:l[k]?=some x) (he:((x.a==a)&&((x.b==b)&&true))=true):Rl 1 1 48 0 18 2 ([(0,.lq 0 2 0 n),(3,.pp 1 0),(5,.pv (iV (k:Int)))]) (qm9 a b l) (.ret) ([(4,.pv (.bool true))]) ([]):=
 RunsL.stop [] 300 [.t true,.md,.r (qae x.a x.b),.t true] (fun h=>by cases h)
  (Ro (A4 hlt hin (qbD hk) he tI))
theorem qC1 (hlt:decide ((k:Int)<(n:Int))=false):Rl 1 1 48 0 18 2 ([(0,.lq 0 2 0 n),(3,.pp 1 0),(5,.pv (iV (k:Int)))]) (qm9 a b l) (.exit 0) ([]) ([]):=
 RunsL.stop [] 300 [.t false] (fun h=>by cases h)
  (Ro (Ai hlt tI))
theorem qDV (r0:Rl 1 1 48 0 18 2 ([(0,.lq 0 2 0 n),(3,.pp 1 0),(5,.pv (iV ((0:Nat):Int)))]) (qm9 a b l) (.ret) ([(4,.pv (.bool true))]) ([])) :
 Fn 48 1 [.lq 0 2 0 n,.pv (qae a b)] [(0,0,.row 90 2 l.length (p2V l))] (.pv (.bool true)) 0 []:=
 Fz [] [Lf r0]
  tI (Lo r0 [] tI)
theorem qBi (r0:Rl 1 1 48 0 18 2 ([(0,.lq 0 2 0 n),(3,.pp 1 0),(5,.pv (iV ((0:Nat):Int)))]) (qm9 a b l) (.exit 0) ([]) ([])) :
 Fn 48 1 [.lq 0 2 0 n,.pv (qae a b)] [(0,0,.row 90 2 l.length (p2V l))] (.pv (.bool false)) 0 []:=
 Fz [] [Lf r0]
  tI (Lo r0 [] tI)
abbrev qfC (l:List P2) (s:List Pt):HpL:=[(2,0,.ls 0 s.length),(0,0,qaf s),(1,0,.row 90 2 l.length (p2V l))]
theorem qIg (hlt:Dt ((k:Int)<(l.length:Int))) (hin:Bd k l.length) (hk:l[k]?=some x) (hv:Pure Tryz.prog 145 #[qae x.a x.b] (.bool false)):Rl 2 2 77 0 58 3 ([(1,.ls 1 l.length),(2,.pp 2 0),(5,.pv (iV (k:Int)))]) (qfC l s) (.ret) ([(4,.pv (iV 8))]) ([]):=
 RunsL.stop [] 300 [.t true,.r (qae x.a x.b),Rf hv,.k] (fun h=>by cases h)
  (Ro (A4 hlt hin (qbD hk) hv tI))
theorem qCl (hlt:Dt ((k:Int)<(l.length:Int))) (hin:Bd k l.length) (hk:l[k]?=some x) (hv:Pure Tryz.prog 145 #[qae x.a x.b] (.bool true)) (hs:iV (IntKind.i64.wrap ((k:Int)+1))=iV (((k+1:Nat):Int))) {e:Exit} {tm2:TmL} {hp2:HpL}
 (r:Rl 2 2 77 0 58 3 ([(1,.ls 1 l.length),(2,.pp 2 0),(5,.pv (iV ((k+1:Nat):Int)))]) (qfC l s) e tm2 hp2):Rl 2 2 77 0 58 3 ([(1,.ls 1 l.length),(2,.pp 2 0),(5,.pv (iV (k:Int)))]) (qfC l s) e tm2 hp2:=
 RunsL.next [] 300 [.t true,.r (qae x.a x.b),Rf hv,.k,Re hs]
  (Ro (A5 hlt hin (qbD hk) hv hs tI)) r
theorem qBf (hlt:decide ((k:Int)<(l.length:Int))=false):Rl 2 2 77 0 58 3 ([(1,.ls 1 l.length),(2,.pp 2 0),(5,.pv (iV (k:Int)))]) (qfC l s) (.exit 0) ([(1,.ls 1 l.length),(2,.pp 2 0)]) (qfC l s):=
 RunsL.stop [] 300 [.t false] (fun h=>by cases h)
  (Ro (Ai hlt tI))
theorem qCx (hlt:Dt ((k:Int)<(l.length:Int))) (hin:Bd k l.length) (hk:l[k]?=some x) (hin2:k≤l.length) (hi:Fn 48 1 [.lq 0 2 0 k,.pv (qae x.a x.b)] [(0,0,.row 90 2 l.length (p2V l))] (.pv (.bool true)) 0 []):Rl 2 2 77 1 58 3 ([(1,.ls 1 l.length),(2,.pp 2 0),(6,.pv (iV (k:Int)))]) (qfC l s) (.ret) ([(4,.pv (iV 14))]) ([]):=
 RunsL.stop [] 300 [.t true,.md,.k,.r (qae x.a x.b),Cf hi [1]] (fun h=>by cases h)
  (Ro (A7 hlt tI (Int.natCast_nonneg k) (Nat.zero_le k) hin2 hin (qbD hk) (Co hi [1] 3 tI)))
theorem qDE (hlt:Dt ((k:Int)<(l.length:Int))) (hin:Bd k l.length) (hk:l[k]?=some x) (hin2:k≤l.length) (hi:Fn 48 1 [.lq 0 2 0 k,.pv (qae x.a x.b)] [(0,0,.row 90 2 l.length (p2V l))] (.pv (.bool false)) 0 []) (hs:iV (IntKind.i64.wrap ((k:Int)+1))=iV (((k+1:Nat):Int))) {e:Exit} {tm2:TmL} {hp2:HpL}
 (r:Rl 2 2 77 1 58 3 ([(1,.ls 1 l.length),(2,.pp 2 0),(6,.pv (iV ((k+1:Nat):Int)))]) (qfC l s) e tm2 hp2):Rl 2 2 77 1 58 3 ([(1,.ls 1 l.length),(2,.pp 2 0),(6,.pv (iV (k:Int)))]) (qfC l s) e tm2 hp2:=
 RunsL.next [] 300 [.t true,.md,.k,.r (qae x.a x.b),Cf hi [1],Re hs]
  (Ro (A7 hlt tI (Int.natCast_nonneg k) (Nat.zero_le k) hin2 hin (qbD hk) (Co hi [1] 3 (Ai hs tI)))) r
theorem qzR (hlt:decide ((k:Int)<(l.length:Int))=false):Rl 2 2 77 1 58 3 ([(1,.ls 1 l.length),(2,.pp 2 0),(6,.pv (iV (k:Int)))]) (qfC l s) (.exit 2) ([(1,.ls 1 l.length),(2,.pp 2 0)]) (qfC l s):=
 RunsL.stop [] 300 [.t false] (fun h=>by cases h)
  (Ro (Ai hlt tI))
abbrev qEP (k:Nat) (l:List P2):TmL:=[(1,.ls 1 l.length),(2,.pp 2 0),(7,.pv (iV (k:Int)))]
theorem qC5 (hlt:Dt ((k:Int)<(l.length:Int))) (hin:Bd k l.length) (hk:l[k]?=some x) (hA:yx s x u) (hu:decide (u<0)=true):Rl 2 2 77 2 58 3 (qEP k l) (qfC l s) (.ret) ([(4,.pv (iV 6))]) ([]):=
 RunsL.stop [] 300 [.t true,.md,.r (iV x.a),Cf hA [0],.t true] (fun h=>by cases h)
  (Ro (A3 hlt hin (qnz hk) (Co hA [0] 3 (Ai hu tI))))
theorem qBd (hlt:Dt ((k:Int)<(l.length:Int))) (hin:Bd k l.length) (hk:l[k]?=some x) (hA:yx s x u) (hu:Df (u<0)) (hB:Fn 61 1 [qaq 0 s,.pv (iV x.b)] [(0,0,qaf s)] (.pv (iV (v))) 0 []) (hv:decide (v<0)=true):Rl 2 2 77 2 58 3 (qEP k l) (qfC l s) (.ret) ([(4,.pv (iV 6))]) ([]):=
 RunsL.stop [] 300 [.t true,.md,.r (iV x.a),Cf hA [0],.t false,.r (iV x.b),Cf hB [0],.t true] (fun h=>by cases h)
  (Ro (A3 hlt hin (qnz hk) (Co hA [0] 3 (A3 hu hin (qt7 hk) (Co hB [0] 3 (Ai hv tI))))))
theorem qCO (hlt:Dt ((k:Int)<(l.length:Int))) (hin:Bd k l.length) (hk:l[k]?=some x) (hA:yx s x u) (hu:Df (u<0)) (hB:Fn 61 1 [qaq 0 s,.pv (iV x.b)] [(0,0,qaf s)] (.pv (iV (v))) 0 []) (hv:Df (v<0)) (hs:iV (IntKind.i64.wrap ((k:Int)+1))=iV (((k+1:Nat):Int))) {e:Exit} {tm2:TmL} {hp2:HpL}
 (r:Rl 2 2 77 2 58 3 ([(1,.ls 1 l.length),(2,.pp 2 0),(7,.pv (iV ((k+1:Nat):Int)))]) (qfC l s) e tm2 hp2):Rl 2 2 77 2 58 3 (qEP k l) (qfC l s) e tm2 hp2:=
 RunsL.next [] 300 [.t true,.md,.r (iV x.a),Cf hA [0],.t false,.r (iV x.b),Cf hB [0],.t false,Re hs]
  (Ro (A3 hlt hin (qnz hk) (Co hA [0] 3 (A3 hu hin (qt7 hk) (Co hB [0] 3 (A2 hv hs tI)))))) r
theorem qAP (hlt:decide ((k:Int)<(l.length:Int))=false):Rl 2 2 77 2 58 3 (qEP k l) (qfC l s) (.exit 4) ([]) ([]):=
 RunsL.stop [] 300 [.t false] (fun h=>by cases h)
  (Ro (Ai hlt tI))
theorem qHQ (r0:Rl 2 2 77 0 58 3 ([(1,.ls 1 l.length),(2,.pp 2 0),(5,.pv (iV ((0:Nat):Int)))]) (qfC l s) (.ret) ([(4,.pv (iV 8))]) ([])) :
 Fn 77 2 [qaq 0 s,.ls 1 l.length] (yj s l) (.pv (iV (8))) 0 []:=
 Fz [] [Lf r0]
  tI (Lo r0 [] tI)
abbrev qIb (l:List P2) (s:List Pt):Prop:=Rl 2 2 77 0 58 3 ([(1,.ls 1 l.length),(2,.pp 2 0),(5,.pv (iV ((0:Nat):Int)))]) (qfC l s) (.exit 0) ([(1,.ls 1 l.length),(2,.pp 2 0)]) (qfC l s)
theorem qzZ (r0:qIb l s) (r1:Rl 2 2 77 1 58 3 ([(1,.ls 1 l.length),(2,.pp 2 0),(6,.pv (iV ((0:Nat):Int)))]) (qfC l s) (.ret) ([(4,.pv (iV 14))]) ([])) :
 Fn 77 2 [qaq 0 s,.ls 1 l.length] (yj s l) (.pv (iV (14))) 0 []:=
 Fz [] [Lf r0,Lf r1]
  tI (Lo r0 [] (Lo r1 [] tI))
abbrev qJj (l:List P2) (s:List Pt):Prop:=Rl 2 2 77 1 58 3 ([(1,.ls 1 l.length),(2,.pp 2 0),(6,.pv (iV ((0:Nat):Int)))]) (qfC l s) (.exit 2) ([(1,.ls 1 l.length),(2,.pp 2 0)]) (qfC l s)
theorem qFu (r0:qIb l s) (r1:qJj l s) (r2:Rl 2 2 77 2 58 3 ([(1,.ls 1 l.length),(2,.pp 2 0),(7,.pv (iV ((0:Nat):Int)))]) (qfC l s) (.ret) ([(4,.pv (iV 6))]) ([])) :
 Fn 77 2 [qaq 0 s,.ls 1 l.length] (yj s l) (.pv (iV (6))) 0 []:=
 Fz [] [Lf r0,Lf r1,Lf r2]
  tI (Lo r0 [] (Lo r1 [] (Lo r2 [] tI)))
theorem qGr (r0:qIb l s) (r1:qJj l s) (r2:Rl 2 2 77 2 58 3 ([(1,.ls 1 l.length),(2,.pp 2 0),(7,.pv (iV ((0:Nat):Int)))]) (qfC l s) (.exit 4) ([]) ([])) :
 Fn 77 2 [qaq 0 s,.ls 1 l.length] (yj s l) (.pv (iV (0))) 0 []:=
 Fz [] [Lf r0,Lf r1,Lf r2]
  tI (Lo r0 [] (Lo r1 [] (Lo r2 [] tI)))
end Go.Proofs.YtkckcgpmnipnaaaGreat
