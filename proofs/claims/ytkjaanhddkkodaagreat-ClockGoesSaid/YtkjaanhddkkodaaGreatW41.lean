/-
  Joined: Ld, Le, Lf, Lg, Lm. Conditions: none.
-/
import Derived.Test.YtkjaanhddkkodaaGreatW40
import Derived.Test.YtkjaanhddkkodaaGreatW18
import Derived.Test.YtkjaanhddkkodaaGreatW39
import Derived.Test.YtkjaanhddkkodaaGreatW31
import Derived.Test.YtkjaanhddkkodaaGreatW24
namespace Go.Proofs.YtkjaanhddkkodaaGreat
set_option maxRecDepth 100000
open Go.RowKit
theorem qGg {c:Ck} (h1:Pure Tryz.prog 75 #[qab c.tn c.td] (iV (8))) :
 Fn 31 8 [qan c] (qaq c) (.pv (iV (8))) 0 []:=
 Fz [] [Rf h1,.k]
  tI (Ai h1 tI)
abbrev qrr (c:Ck):Prop:=Pure Tryz.prog 75 #[qab c.tn c.td] (iV (0))
theorem qE1 {c:Ck} {n:Int} (h1:qrr c) (h2:Fn 44 1 [qaB 0 c.s] [(0,0,qam c.s)] (.pv (iV (n))) 0 []) (hne:(n !=0)=true) :
 Fn 31 8 [qan c] (qaq c) (.pv (iV (8))) 0 []:=
 Fz [] [Rf h1,.k,Cf h2 [0],.t true]
  tI (Ai h1 (Co h2 [0] 9 (Ai hne tI)))
abbrev qtd (c:Ck):Prop:=Fn 44 1 [qaB 0 c.s] [(0,0,qam c.s)] (.pv (iV (0))) 0 []
theorem qFZ {c:Ck} (h1:qrr c) (h2:qtd c) (h3:Fn 76 1 [qaP 0 c.x c.l] [(0,0,qak c.l)] (.pv (iV (8))) 0 []) :
 Fn 31 8 [qan c] (qaq c) (.pv (iV (8))) 0 []:=
 Fz [] [Rf h1,.k,Cf h2 [0],.k,Cf h3 [1],.k]
  tI (Ai h1 (Co h2 [0] 9 (Co h3 [1] 9 tI)))
abbrev qxg (c:Ck):Prop:=Fn 76 1 [qaP 0 c.x c.l] [(0,0,qak c.l)] (.pv (iV (0))) 0 []
theorem qFm {c:Ck} (h1:qrr c) (h2:qtd c) (h3:qxg c) (h4:Fn 45 2 [qaP 0 c.x c.l,qaB 1 c.s] [(0,0,qak c.l),(1,0,qam c.s)] (.pv (.bool false)) 0 []) :
 Fn 31 8 [qan c] (qaq c) (.pv (iV (8))) 0 []:=
 Fz [] [Rf h1,.k,Cf h2 [0],.k,Cf h3 [1],.k,Cf h4 [1,0],.k]
  tI (Ai h1 (Co h2 [0] 9 (Co h3 [1] 9 (Co h4 [1,0] 9 tI))))
abbrev qDm (c:Ck):HpL:=[(0,0,zrI c.u),(1,0,zrB c.b),(2,0,zrI c.fr),(3,0,qap c.ev),(4,0,zrI c.wh)]
abbrev qyB (c:Ck):Prop:=Fn 45 2 [qaP 0 c.x c.l,qaB 1 c.s] [(0,0,qak c.l),(1,0,qam c.s)] (.pv (.bool true)) 0 []
theorem qGk {c:Ck} (h1:qrr c) (h2:qtd c) (h3:qxg c) (h4:qyB c) (h5:Fn 77 5 [agA c.u c.b c.fr c.ev c.wh] (qDm c) (.pv (iV (8))) 0 []) :
 Fn 31 8 [qan c] (qaq c) (.pv (iV (8))) 0 []:=
 Fz [] [Rf h1,.k,Cf h2 [0],.k,Cf h3 [1],.k,Cf h4 [1,0],.k,Cf h5 [2,3,4,5,6],.k]
  tI (Ai h1 (Co h2 [0] 9 (Co h3 [1] 9 (Co h4 [1,0] 9 (Co h5 [2,3,4,5,6] 9 tI)))))
abbrev qBC (c:Ck):Prop:=Fn 77 5 [agA c.u c.b c.fr c.ev c.wh] (qDm c) (.pv (iV (0))) 0 []
theorem qFD {c:Ck} (h1:qrr c) (h2:qtd c) (h3:qxg c) (h4:qyB c) (h5:qBC c) (h6:((c.wh.length:Int) !=200)=true) :
 Fn 31 8 [qan c] (qaq c) (.pv (iV (8))) 0 []:=
 Fz [] [Rf h1,.k,Cf h2 [0],.k,Cf h3 [1],.k,Cf h4 [1,0],.k,Cf h5 [2,3,4,5,6],.k,.t true]
  tI (Ai h1 (Co h2 [0] 9 (Co h3 [1] 9 (Co h4 [1,0] 9 (Co h5 [2,3,4,5,6] 9 (Ai h6 tI))))))
theorem qEq {c:Ck} (h1:qrr c) (h2:qtd c) (h3:qxg c) (h4:qyB c) (h5:qBC c) (h6:((c.wh.length:Int) !=200)=false) (h7:((c.ev.length:Int) !=(c.d.length:Int))=true) :
 Fn 31 8 [qan c] (qaq c) (.pv (iV (8))) 0 []:=
 Fz [] [Rf h1,.k,Cf h2 [0],.k,Cf h3 [1],.k,Cf h4 [1,0],.k,Cf h5 [2,3,4,5,6],.k,.t false,.t true]
  tI (Ai h1 (Co h2 [0] 9 (Co h3 [1] 9 (Co h4 [1,0] 9 (Co h5 [2,3,4,5,6] 9 (Ai h6 (Ai h7 tI)))))))
abbrev qtA (j:Nat) (k:Nat):TmL:=[(1,.pp 8 0),(3,.pv (iV (j:Int))),(4,.pv (iV (k:Int)))]
theorem qsa {c:Ck} {p:Pt} {j k:Nat} {n z:Int} (hk:c.l[k]?=some p) (hin:0≤(k:Int)∧(k:Int)<(c.l.length:Int)) (hlt:decide ((k:Int)<(c.l.length:Int))=true) (hw:Fn 39 1 [qaB 0 c.s,.pv (qag p.a p.b),.pv (qab c.tn c.td)] [(0,0,qam c.s)] (.pv (.tuple #[qab n z,.bool false])) 0 []) (hs:iV (IntKind.i64.wrap ((k:Int)+1))=iV (((k+1:Nat):Int))) {e:Exit} {tm2:TmL} {hp2:HpL}
 (r:Rl 8 8 31 0 133 9 ([(1,.pp 8 0),(3,.pv (iV (j:Int))),(4,.pv (iV ((k+1:Nat):Int)))]) (qb5 8 c) e tm2 hp2):Rl 8 8 31 0 133 9 (qtA j k) (qb5 8 c) e tm2 hp2:=
 RunsL.next [] 300 [.t true,.r (ptV p),Cf hw [0],.k,Re hs]
  (Ro (Ai hlt (Ai hin (Ai (qaL hk) (Co hw [0] 10 (Ai hs tI)))))) r
abbrev qyq (c:Ck) (n:Int) (p:Pt) (z:Int):Prop:=Fn 39 1 [qaB 0 c.s,.pv (qag p.a p.b),.pv (qab c.tn c.td)] [(0,0,qam c.s)] (.pv (.tuple #[qab n z,.bool true])) 0 []
theorem quv {c:Ck} {p:Pt} {j k:Nat} {n z:Int} (hk:c.l[k]?=some p) (hin:0≤(k:Int)∧(k:Int)<(c.l.length:Int)) (hlt:decide ((k:Int)<(c.l.length:Int))=true) (hw:qyq c n p z) (hj:decide ((j:Int)≥(c.d.length:Int))=true):Rl 8 8 31 0 133 9 (qtA j k) (qb5 8 c) (.ret) ([(2,.pv (iV 8))]) ([]):=
 RunsL.stop [] 300 [.t true,.r (ptV p),Cf hw [0],.k,.t true] (fun h=>by cases h)
  (Ro (Ai hlt (Ai hin (Ai (qaL hk) (Co hw [0] 10 (Ai hj tI))))))
theorem qx4 {c:Ck} {p q:Pt} {j k:Nat} {n z:Int} (hk:c.l[k]?=some p) (hin:0≤(k:Int)∧(k:Int)<(c.l.length:Int)) (hlt:decide ((k:Int)<(c.l.length:Int))=true) (hq:c.d[j]?=some q) (hiq:0≤(j:Int)∧(j:Int)<(c.d.length:Int)) (hw:qyq c n p z) (hj:decide ((j:Int)≥(c.d.length:Int))=false) (hne:(q.id !=p.id)=true):Rl 8 8 31 0 133 9 (qtA j k) (qb5 8 c) (.ret) ([(2,.pv (iV 8))]) ([]):=
 RunsL.stop [] 300 [.t true,.r (ptV p),Cf hw [0],.k,.t false,.r (iV q.id),.t true] (fun h=>by cases h)
  (Ro (Ai hlt (Ai hin (Ai (qaL hk) (Co hw [0] 10 (Ai hj (Ai hiq (Ai (qjv hq) (Ai hne tI)))))))))
theorem qq9 {c:Ck} {p q:Pt} {j k:Nat} {n z e:Int} {y:Ev} (hk:c.l[k]?=some p) (hin:0≤(k:Int)∧(k:Int)<(c.l.length:Int)) (hlt:decide ((k:Int)<(c.l.length:Int))=true) (hq:c.d[j]?=some q) (hiq:0≤(j:Int)∧(j:Int)<(c.d.length:Int)) (hw:qyq c n p z) (hj:decide ((j:Int)≥(c.d.length:Int))=false) (hne:(q.id !=p.id)=false) (hf:Fn 78 5 [agA c.u c.b c.fr c.ev c.wh,.pv (qaG q.a q.b)] (qDm c) (.pv (.tuple #[qaa y,iV (e)])) 0 []) (he:(e !=0)=true):Rl 8 8 31 0 133 9 (qtA j k) (qb5 8 c) (.ret) ([(2,.pv (iV 8))]) ([]):=
 RunsL.stop [] 300 [.t true,.r (ptV p),Cf hw [0],.k,.t false,.r (iV q.id),.t false,.r (qaG q.a q.b),Cf hf [2,3,4,5,6],.t true] (fun h=>by cases h)
  (Ro (Ai hlt (Ai hin (Ai (qaL hk) (Co hw [0] 10 (Ai hj (Ai hiq (Ai (qjv hq) (Ai hne (Ai hiq (Ai (qcQ hq) (Co hf [2,3,4,5,6] 11 (Ai he tI)))))))))))))
abbrev qu6 (c:Ck) (q:Pt) (y:Ev):Prop:=Fn 78 5 [agA c.u c.b c.fr c.ev c.wh,.pv (qaG q.a q.b)] (qDm c) (.pv (.tuple #[qaa y,iV (0)])) 0 []
theorem qo6 {c:Ck} {p q:Pt} {j k:Nat} {n z:Int} {y:Ev} (hk:c.l[k]?=some p) (hin:0≤(k:Int)∧(k:Int)<(c.l.length:Int)) (hlt:decide ((k:Int)<(c.l.length:Int))=true) (hq:c.d[j]?=some q) (hiq:0≤(j:Int)∧(j:Int)<(c.d.length:Int)) (hw:qyq c n p z) (hj:decide ((j:Int)≥(c.d.length:Int))=false) (hne:(q.id !=p.id)=false) (hf:qu6 c q y) (hk2:(y.k !=p.id)=true):Rl 8 8 31 0 133 9 (qtA j k) (qb5 8 c) (.ret) ([(2,.pv (iV 8))]) ([]):=
 RunsL.stop [] 300 [.t true,.r (ptV p),Cf hw [0],.k,.t false,.r (iV q.id),.t false,.r (qaG q.a q.b),Cf hf [2,3,4,5,6],.k,.t true] (fun h=>by cases h)
  (Ro (Ai hlt (Ai hin (Ai (qaL hk) (Co hw [0] 10 (Ai hj (Ai hiq (Ai (qjv hq) (Ai hne (Ai hiq (Ai (qcQ hq) (Co hf [2,3,4,5,6] 11 (Ai hk2 tI)))))))))))))
theorem qsC {c:Ck} {p q:Pt} {j k:Nat} {n z:Int} {y:Ev} (hk:c.l[k]?=some p) (hin:0≤(k:Int)∧(k:Int)<(c.l.length:Int)) (hlt:decide ((k:Int)<(c.l.length:Int))=true) (hq:c.d[j]?=some q) (hiq:0≤(j:Int)∧(j:Int)<(c.d.length:Int)) (hw:qyq c n p z) (hj:decide ((j:Int)≥(c.d.length:Int))=false) (hne:(q.id !=p.id)=false) (hf:qu6 c q y) (hk2:(y.k !=p.id)=false) (ht2:(!(y.n==n&&(y.d==z&&true)))=true):Rl 8 8 31 0 133 9 (qtA j k) (qb5 8 c) (.ret) ([(2,.pv (iV 8))]) ([]):=
 RunsL.stop [] 300 [.t true,.r (ptV p),Cf hw [0],.k,.t false,.r (iV q.id),.t false,.r (qaG q.a q.b),Cf hf [2,3,4,5,6],.k,.t false,.t true] (fun h=>by cases h)
  (Ro (Ai hlt (Ai hin (Ai (qaL hk) (Co hw [0] 10 (Ai hj (Ai hiq (Ai (qjv hq) (Ai hne (Ai hiq (Ai (qcQ hq) (Co hf [2,3,4,5,6] 11 (Ai hk2 (Ai ht2 tI))))))))))))))
theorem qpM {c:Ck} {p q:Pt} {j k:Nat} {n z:Int} {y:Ev} (hk:c.l[k]?=some p) (hin:0≤(k:Int)∧(k:Int)<(c.l.length:Int)) (hlt:decide ((k:Int)<(c.l.length:Int))=true) (hq:c.d[j]?=some q) (hiq:0≤(j:Int)∧(j:Int)<(c.d.length:Int)) (hw:qyq c n p z) (hj:decide ((j:Int)≥(c.d.length:Int))=false) (hne:(q.id !=p.id)=false) (hf:qu6 c q y) (hk2:(y.k !=p.id)=false) (ht2:(!(y.n==n&&(y.d==z&&true)))=false) (hs2:iV (IntKind.i64.wrap ((j:Int)+1))=iV (((j+1:Nat):Int))) (hs:iV (IntKind.i64.wrap ((k:Int)+1))=iV (((k+1:Nat):Int))) {e:Exit} {tm2:TmL} {hp2:HpL}
 (r:Rl 8 8 31 0 133 9 ([(1,.pp 8 0),(3,.pv (iV ((j+1:Nat):Int))),(4,.pv (iV ((k+1:Nat):Int)))]) (qb5 8 c) e tm2 hp2):Rl 8 8 31 0 133 9 (qtA j k) (qb5 8 c) e tm2 hp2:=
 RunsL.next [] 300 [.t true,.r (ptV p),Cf hw [0],.k,.t false,.r (iV q.id),.t false,.r (qaG q.a q.b),Cf hf [2,3,4,5,6],.k,.t false,.t false,Re hs2,Re hs]
  (Ro (Ai hlt (Ai hin (Ai (qaL hk) (Co hw [0] 10 (Ai hj (Ai hiq (Ai (qjv hq) (Ai hne (Ai hiq (Ai (qcQ hq) (Co hf [2,3,4,5,6] 11 (Ai hk2 (Ai ht2 (Ai hs2 (Ai hs tI)))))))))))))))) r
theorem qu3 {c:Ck} {j k:Nat} (hge:decide ((k:Int)<(c.l.length:Int))=false):Rl 8 8 31 0 133 9 (qtA j k) (qb5 8 c) (.exit 0) ([(1,.pp 8 0),(3,.pv (iV (j:Int)))]) (qb5 8 c):=
 RunsL.stop [] 300 [.t false] (fun h=>by cases h)
  (Ro (Ai hge tI))
theorem qxM {c:Ck} (h1:qrr c) (h2:qtd c) (h3:qxg c) (h4:qyB c) (h5:qBC c) (h6:((c.wh.length:Int) !=200)=false) (h7:((c.ev.length:Int) !=(c.d.length:Int))=false) (r0:Rl 8 8 31 0 133 9 ([(1,.pp 8 0),(3,.pv (iV ((0:Nat):Int))),(4,.pv (iV ((0:Nat):Int)))]) (qb5 8 c) (.ret) ([(2,.pv (iV 8))]) ([])) :
 Fn 31 8 [qan c] (qaq c) (.pv (iV (8))) 0 []:=
 Fz [] [Rf h1,.k,Cf h2 [0],.k,Cf h3 [1],.k,Cf h4 [1,0],.k,Cf h5 [2,3,4,5,6],.k,.t false,.t false,Lf r0]
  tI (Ai h1 (Co h2 [0] 9 (Co h3 [1] 9 (Co h4 [1,0] 9 (Co h5 [2,3,4,5,6] 9 (Ai h6 (Ai h7 (Lo r0 [] tI))))))))
abbrev qHb (c:Ck) (j:Nat):Prop:=Rl 8 8 31 0 133 9 ([(1,.pp 8 0),(3,.pv (iV ((0:Nat):Int))),(4,.pv (iV ((0:Nat):Int)))]) (qb5 8 c) (.exit 0) ([(1,.pp 8 0),(3,.pv (iV (j:Int)))]) (qb5 8 c)
theorem qsZ {c:Ck} {j:Nat} (h1:qrr c) (h2:qtd c) (h3:qxg c) (h4:qyB c) (h5:qBC c) (h6:((c.wh.length:Int) !=200)=false) (h7:((c.ev.length:Int) !=(c.d.length:Int))=false) (r0:qHb c j) (hd:((j:Int) !=(c.d.length:Int))=true) :
 Fn 31 8 [qan c] (qaq c) (.pv (iV (8))) 0 []:=
 Fz [] [Rf h1,.k,Cf h2 [0],.k,Cf h3 [1],.k,Cf h4 [1,0],.k,Cf h5 [2,3,4,5,6],.k,.t false,.t false,Lf r0,.t true]
  tI (Ai h1 (Co h2 [0] 9 (Co h3 [1] 9 (Co h4 [1,0] 9 (Co h5 [2,3,4,5,6] 9 (Ai h6 (Ai h7 (Lo r0 [] (Ai hd tI)))))))))
theorem qCr {c:Ck} {j:Nat} (h1:qrr c) (h2:qtd c) (h3:qxg c) (h4:qyB c) (h5:qBC c) (h6:((c.wh.length:Int) !=200)=false) (h7:((c.ev.length:Int) !=(c.d.length:Int))=false) (r0:qHb c j) (hd:((j:Int) !=(c.d.length:Int))=false) :
 Fn 31 8 [qan c] (qaq c) (.pv (iV (0))) 0 []:=
 Fz [] [Rf h1,.k,Cf h2 [0],.k,Cf h3 [1],.k,Cf h4 [1,0],.k,Cf h5 [2,3,4,5,6],.k,.t false,.t false,Lf r0,.t false]
  tI (Ai h1 (Co h2 [0] 9 (Co h3 [1] 9 (Co h4 [1,0] 9 (Co h5 [2,3,4,5,6] 9 (Ai h6 (Ai h7 (Lo r0 [] (Ai hd tI)))))))))
end Go.Proofs.YtkjaanhddkkodaaGreat

namespace Go.Proofs.YtkjaanhddkkodaaGreat
set_option maxRecDepth 100000
open Go.RowKit
theorem qE2 (c:Ck):SV.ag [.pv (iV c.tn),.pv (iV c.td),.ls 10 c.s.length,.pv (iV c.x),.ls 11 c.l.length,.ls 12 c.u.length,.ls 13 c.b.length,.ls 14 c.fr.length,.ls 15 c.ev.length,.ls 16 c.wh.length,.ls 18 (0+c.d.length)]=(qdy c).ren (qaK [(8,10),(9,11),(10,12),(11,13),(12,14),(13,15),(14,16),(15,18)]):=by rw[Nat.zero_add];rfl
theorem qnN (p:Pt):(!(p.id==p.id&&((p.a==p.a&&(p.b==p.b&&true))&&true)))=false:=by simp
theorem qnm (a b:Int):(!(a==a&&(b==b&&true)))=false:=by simp
theorem qq6 {c:Ck} (hf:Fn 32 1 [qaB 0 c.s] [(0,0,qam c.s)] (.ag [.ls 1 c.s.length]) 1 [(1,0,qam c.s)]) (hs:Fn 53 1 [qaP 0 c.x c.l] [(0,0,qak c.l)] (.ag [.pv (iV c.x),.ls 1 c.l.length]) 1 [(1,0,qak c.l)]) (ha:Fn 54 5 [agA c.u c.b c.fr c.ev c.wh] [(0,0,zrI c.u),(1,0,zrB c.b),(2,0,zrI c.fr),(3,0,qap c.ev),(4,0,zrI c.wh)] (.ag [.ls 5 c.u.length,.ls 6 c.b.length,.ls 7 c.fr.length,.ls 8 c.ev.length,.ls 9 c.wh.length]) 5 [(5,0,zrI c.u),(6,0,zrB c.b),(7,0,zrI c.fr),(8,0,qap c.ev),(9,0,zrI c.wh)]) (hn:0+c.d.length≤1000000) :
 Fn 14 8 [qan c] (qaq c) (qdy c) 8 (qbu c):=
 Fx [(8,10),(9,11),(10,12),(11,13),(12,14),(13,15),(14,16),(15,18)] [.md,Cf hf [0],Cf hs [1],Cf ha [2,3,4,5,6]]
  (qE2 c) (Ai (Er (qam c.s)) (Ai (Er (qak c.l)) (Ai (Er (zrI c.u)) (Ai (Er (zrB c.b)) (Ai (Er (zrI c.fr)) (Ai (Er (qap c.ev)) (Ai (Er (zrI c.wh)) (Ai (qjf 54 3 c.d.length (qbo c.d)) tI)))))))) (Co hf [0] 10 (Co hs [1] 11 (Co ha [2,3,4,5,6] 12 (Ai hn tI))))
abbrev qDb (c:Ck):HpL:=[(16,10,.ls 7 c.d.length),(17,10,.ls 15 c.d.length),(7,0,qaQ c.d),(15,0,qaQ c.d)]
theorem qsS {c:Ck} {p:Pt} {k:Nat} (hk:c.d[k]?=some p) (hin:0≤(k:Int)∧(k:Int)<(c.d.length:Int)) (hlt:decide ((k:Int)<(c.d.length:Int))=true) (hs:iV (IntKind.i64.wrap ((k:Int)+1))=iV (((k+1:Nat):Int))) {e:Exit} {tm2:TmL} {hp2:HpL}
 (r:Rl 16 16 23 0 62 18 ([(2,.pp 16 0),(3,.pp 17 0),(5,.pv (iV ((k+1:Nat):Int)))]) (qDb c) e tm2 hp2):Rl 16 16 23 0 62 18 ([(2,.pp 16 0),(3,.pp 17 0),(5,.pv (iV (k:Int)))]) (qDb c) e tm2 hp2:=
 RunsL.next [] 300 [.t true,.r (ptV p),.r (ptV p),.t false,Re hs]
  (Ro (Ai hlt (Ai hin (Ai (qaL hk) (Ai hin (Ai (qaL hk) (Ai (qnN p) (Ai hs tI)))))))) r
theorem qvX {c:Ck} {k:Nat} (hge:decide ((k:Int)<(c.d.length:Int))=false):Rl 16 16 23 0 62 18 ([(2,.pp 16 0),(3,.pp 17 0),(5,.pv (iV (k:Int)))]) (qDb c) (.exit 0) ([]) ([]):=
 RunsL.stop [] 300 [.t false] (fun h=>by cases h)
  (Ro (Ai hge tI))
theorem qwB {c:Ck} (hf:Fn 36 2 [qaB 0 c.s,qaB 1 c.s] [(0,0,qam c.s),(1,0,qam c.s)] (.pv (.bool true)) 0 []) (hs:Fn 43 2 [qaP 0 c.x c.l,qaP 1 c.x c.l] [(0,0,qak c.l),(1,0,qak c.l)] (.pv (.bool true)) 0 []) (ha:Fn 67 10 [agA c.u c.b c.fr c.ev c.wh,.ag [.ls 5 c.u.length,.ls 6 c.b.length,.ls 7 c.fr.length,.ls 8 c.ev.length,.ls 9 c.wh.length]] [(0,0,zrI c.u),(1,0,zrB c.b),(2,0,zrI c.fr),(3,0,qap c.ev),(4,0,zrI c.wh),(5,0,zrI c.u),(6,0,zrB c.b),(7,0,zrI c.fr),(8,0,qap c.ev),(9,0,zrI c.wh)] (.pv (.bool true)) 0 []) (r0:Rl 16 16 23 0 62 18 ([(2,.pp 16 0),(3,.pp 17 0),(5,.pv (iV ((0:Nat):Int)))]) (qDb c) (.exit 0) ([]) ([])) :
 Fn 23 16 [qan c,qdy c] [(0,0,qam c.s),(1,0,qak c.l),(2,0,zrI c.u),(3,0,zrB c.b),(4,0,zrI c.fr),(5,0,qap c.ev),(6,0,zrI c.wh),(7,0,qaQ c.d),(8,0,qam c.s),(9,0,qak c.l),(10,0,zrI c.u),(11,0,zrB c.b),(12,0,zrI c.fr),(13,0,qap c.ev),(14,0,zrI c.wh),(15,0,qaQ c.d)] (.pv (.bool true)) 0 []:=
 Fz [] [.t false,Cf hf [0,8],.k,Cf hs [1,9],.k,Cf ha [2,3,4,5,6,10,11,12,13,14],.k,.t false,Lf r0]
  tI (Ai (qnm c.tn c.td) (Co hf [0,8] 18 (Co hs [1,9] 18 (Co ha [2,3,4,5,6,10,11,12,13,14] 18 (Ai (qxn (c.d.length:Int)) (Lo r0 [] tI))))))
theorem qt3 :
 Pure Tryz.prog 23 #[qbv,qbv] (.bool true):=
 qad (args:=[qbv,qbv]) 600 [.k,.k,.k,.k,.k,.k,.k,.k,.k,.k,.k,.k,.k,.k,.k,.k,.k,.k,.k,.k,.k,.k,.k,.k,.k,.k,.k,.k,.k,.k,.k,.k,.k,.k,.k,.k,.k,.k,.k,.k,.k,.k,.k,.k,.k,.k,.k,.k,.k,.k,.k,.k,.k,.k,.k,.k,.k,.k,.k,.k]
  (Ai rfl tI) (by kernel_rfl)
theorem qrM {c:Ck} {tn td:Int} (htw:Fn 14 8 [qan c] (qaq c) (qdy c) 8 (qbu c)) :
 Fn 81 8 [qan c,.pv (qab tn td)] (qaq c) (qdy { c with tn:=tn,td:=td }) 8 (qbu c):=
 Fz [(8,11),(9,12),(10,13),(11,14),(12,15),(13,16),(14,17),(15,18)] [Cf htw [0,1,2,3,4,5,6,7]]
  (qaE (qaK [(8,11),(9,12),(10,13),(11,14),(12,15),(13,16),(14,17),(15,18)]) (qbu c)) (Co htw [0,1,2,3,4,5,6,7] 11 tI)
theorem qvL {c:Ck} {tn td e:Int} (hu:Fn 38 8 [qan c,.pv (qab tn td)] (qaq c) (.pv (iV (e))) 0 []) (he:(e !=0)=true) :
 Fn 34 8 [qan c,.pv (qab tn td)] (qaq c) (.pv (.tuple #[qbv,iV e])) 0 []:=
 Fz [] [Cf hu [0,1,2,3,4,5,6,7],.t true]
  tI (Co hu [0,1,2,3,4,5,6,7] 11 (Ai he tI))
theorem qvr {c:Ck} {tn td:Int} (hu:Fn 38 8 [qan c,.pv (qab tn td)] (qaq c) (.pv (iV (0))) 0 []) (hw:Fn 79 8 [qan c,.pv (qab tn td)] (qaq c) (.pv (.bool true)) 0 []) :
 Fn 34 8 [qan c,.pv (qab tn td)] (qaq c) (.pv (.tuple #[qbv,iV 36])) 0 []:=
 Fz [] [Cf hu [0,1,2,3,4,5,6,7],.k,Cf hw [0,1,2,3,4,5,6,7]]
  tI (Co hu [0,1,2,3,4,5,6,7] 11 (Co hw [0,1,2,3,4,5,6,7] 11 tI))
theorem qzI {c:Ck} {tn td:Int} (hu:Fn 38 8 [qan c,.pv (qab tn td)] (qaq c) (.pv (iV (0))) 0 []) (hw:Fn 79 8 [qan c,.pv (qab tn td)] (qaq c) (.pv (.bool false)) 0 []) (hm:Fn 81 8 [qan c,.pv (qab tn td)] (qaq c) (qdy { c with tn:=tn,td:=td }) 8 (qbu c)) :
 Fn 34 8 [qan c,.pv (qab tn td)] (qaq c) (.tu [qfW { c with tn:=tn,td:=td },.one (.pv (iV 0))]) 8 (qbu c):=
 Fz [(8,11),(9,12),(10,13),(11,14),(12,15),(13,16),(14,17),(15,18)] [Cf hu [0,1,2,3,4,5,6,7],.k,Cf hw [0,1,2,3,4,5,6,7],Cf hm [0,1,2,3,4,5,6,7]]
  (qaE (qaK [(8,11),(9,12),(10,13),(11,14),(12,15),(13,16),(14,17),(15,18)]) (qbu c)) (Co hu [0,1,2,3,4,5,6,7] 11 (Co hw [0,1,2,3,4,5,6,7] 11 (Co hm [0,1,2,3,4,5,6,7] 11 tI)))
end Go.Proofs.YtkjaanhddkkodaaGreat

namespace Go.Proofs.YtkjaanhddkkodaaGreat
set_option maxRecDepth 100000
open Go.RowKit
theorem qiy (m:List Pt) (p:Pt):some (SV.row 54 3 (m.length+1) (qbo m++[iV p.id,iV p.a,iV p.b]))=some (qaQ (m++[p])):=by rw[qgT,qaQ,List.length_append];rfl
theorem qhx (l:List Pt) (k:Nat) (h:k+1≤l.length):some (SV.row 54 3 (0+k+(l.length-(k+1))) ([]++((qbo l).drop (0*3)).take (k*3)++((qbo l).drop ((0+(k+1))*3)).take ((l.length-(k+1))*3)))=some (qaQ (l.take k++l.drop (k+1))):=by
 have h1:=qjC l k
 have h2:=qjL l (k+1)
 rw[Nat.zero_add] at h1
 rw[h1,h2,qaQ,qg0 l k h,qbW,List.nil_append]
theorem qFx (c o:Ck) (k:Nat) (l2:List Pt) (h:k+1≤c.d.length):SV.ag [.pv (iV c.tn),.pv (iV c.td),.ls 10 c.s.length,.pv (iV c.x),.ls 19 l2.length,.ls 20 o.u.length,.ls 21 o.b.length,.ls 22 o.fr.length,.ls 23 o.ev.length,.ls 24 o.wh.length,.ls 27 (0+k+(c.d.length-(k+1)))]=(qdy { c with l:=l2,u:=o.u,b:=o.b,fr:=o.fr,ev:=o.ev,wh:=o.wh,d:=(c.d.take k++c.d.drop (k+1)) }).ren (qaK [(8,10),(9,19),(10,20),(11,21),(12,22),(13,23),(14,24),(15,27)]):=by
 rw[show 0+k+(c.d.length-(k+1))=(c.d.take k++c.d.drop (k+1)).length by simp;omega];rfl
theorem qAO {c:Ck} {n:Int} {l2:List Pt} (htw:Fn 14 8 [qan c] (qaq c) (qdy c) 8 (qbu c)) (hwo:Fn 125 1 [qaP 0 c.x c.l,.pv (iV (n))] [(0,0,qak c.l)] (.ag [.pv (iV c.x),.ls 1 l2.length]) 1 [(1,0,qak l2)]) (hd:Fn 46 8 [qan c,.pv (iV (n))] (qaq c) (.pv (iV (-1))) 0 []) :
 Fn 74 8 [qan c,.pv (iV (n))] (qaq c) (qdy { c with l:=l2 }) 8 (qbu ({ c with l:=l2 }:Ck)):=
 Fz [(8,10),(9,19),(10,12),(11,13),(12,14),(13,15),(14,16),(15,17)] [Cf htw [0,1,2,3,4,5,6,7],Cf hwo [1],Cf hd [0,1,2,3,4,5,6,7],.k]
  (qaE (qaK [(8,10),(9,19),(10,12),(11,13),(12,14),(13,15),(14,16),(15,17)]) (qbu ({ c with l:=l2 }:Ck))) (Co htw [0,1,2,3,4,5,6,7] 10 (Co hwo [1] 19 (Co hd [0,1,2,3,4,5,6,7] 20 tI)))
theorem quO {c o:Ck} {q:Pt} {k:Nat} {n:Int} {l2:List Pt} (htw:Fn 14 8 [qan c] (qaq c) (qdy c) 8 (qbu c)) (hwo:Fn 125 1 [qaP 0 c.x c.l,.pv (iV (n))] [(0,0,qak c.l)] (.ag [.pv (iV c.x),.ls 1 l2.length]) 1 [(1,0,qak l2)]) (hd:Fn 46 8 [qan c,.pv (iV (n))] (qaq c) (.pv (iV (k:Int))) 0 []) (h0:decide ((k:Int)≥0)=true) (hq:c.d[k]?=some q) (hin:0≤(k:Int)∧(k:Int)<(c.d.length:Int)) (hr:Fn 126 5 [agA c.u c.b c.fr c.ev c.wh,.pv (qaG q.a q.b)] [(0,0,zrI c.u),(1,0,zrB c.b),(2,0,zrI c.fr),(3,0,qap c.ev),(4,0,zrI c.wh)] (.ag [.ls 5 o.u.length,.ls 6 o.b.length,.ls 7 o.fr.length,.ls 8 o.ev.length,.ls 9 o.wh.length]) 5 [(5,0,zrI o.u),(6,0,zrB o.b),(7,0,zrI o.fr),(8,0,qap o.ev),(9,0,zrI o.wh)]) (hkl:k≤c.d.length) (hkl1:k+1≤c.d.length) (a1:0+k≤1000000) (a2:0+k+(c.d.length-(k+1))≤1000000) (hk1:iV (IntKind.i64.wrap ((k:Int)+1))=iV (((k+1:Nat):Int))) :
 Fn 74 8 [qan c,.pv (iV (n))] (qaq c) (qdy { c with l:=l2,u:=o.u,b:=o.b,fr:=o.fr,ev:=o.ev,wh:=o.wh,d:=(c.d.take k++c.d.drop (k+1)) }) 8 (qbu ({ c with l:=l2,u:=o.u,b:=o.b,fr:=o.fr,ev:=o.ev,wh:=o.wh,d:=(c.d.take k++c.d.drop (k+1)) }:Ck)):=
 Fx [(8,10),(9,19),(10,20),(11,21),(12,22),(13,23),(14,24),(15,27)] [Cf htw [0,1,2,3,4,5,6,7],Cf hwo [1],Cf hd [0,1,2,3,4,5,6,7],.t true,.r (qaG q.a q.b),Cf hr [2,3,4,5,6],.md,.k,Re hk1,.k]
  (qFx c o k l2 hkl1) (Ai (Er (qam c.s)) (Ai (Er (qak l2)) (Ai (Er (zrI o.u)) (Ai (Er (zrB o.b)) (Ai (Er (zrI o.fr)) (Ai (Er (qap o.ev)) (Ai (Er (zrI o.wh)) (Ai (qhx c.d k hkl1) tI)))))))) (Co htw [0,1,2,3,4,5,6,7] 10 (Co hwo [1] 19 (Co hd [0,1,2,3,4,5,6,7] 20 (Ai h0 (Ai hin (Ai (qcQ hq) (Co hr [2,3,4,5,6] 20 (Ai tI (Ai (Int.natCast_nonneg k) (Ai (Nat.zero_le k) (Ai hkl (Ai a1 (Ai hk1 (Ai (Int.natCast_nonneg (k+1)) (Ai tI (Ai hkl1 (Ai (Nat.le_refl c.d.length) (Ai a2 tI))))))))))))))))))
theorem qql {c o:Ck} {p:Pt} {k:Nat} {y:Ev} (hy:c.ev[0]?=some y) (hi0:0≤(0:Int)∧(0:Int)<(c.ev.length:Int)) (hk:c.l[k]?=some p) (hin:0≤(k:Int)∧(k:Int)<(c.l.length:Int)) (ha8:Fn 41 1 [qaP 0 c.x c.l,.pv (iV (y.k))] [(0,0,qak c.l)] (.pv (iV (k:Int))) 0 []) (hg:Fn 74 8 [qan c,.pv (iV (y.k))] (qaq c) (qdy o) 8 (qbu o)) :
 Fn 80 8 [qan c] (qaq c) (.tu [qfW { o with tn:=y.n,td:=y.d },.one (.pv (qaa y)),.one (.pv (qag p.a p.b))]) 8 (qbu o):=
 Fz [(8,14),(9,15),(10,16),(11,17),(12,18),(13,19),(14,20),(15,21)] [.r (qaa y),Cf ha8 [1],.r (qag p.a p.b),Cf hg [0,1,2,3,4,5,6,7]]
  (qaE (qaK [(8,14),(9,15),(10,16),(11,17),(12,18),(13,19),(14,20),(15,21)]) (qbu o)) (Ai hi0 (Ai (qaC hy) (Co ha8 [1] 13 (Ai hin (Ai (qcQ hk) (Co hg [0,1,2,3,4,5,6,7] 14 tI))))))
theorem qwf {c:Ck} {tn td e:Int} (hu:Fn 38 8 [qan c,.pv (qab tn td)] (qaq c) (.pv (iV (e))) 0 []) (he:(e !=0)=true) :
 Fn 33 8 [qan c,.pv (qab tn td)] (qaq c) (.pv (.tuple #[qbv,.agg #[iV 0,iV 0,iV 0,iV 0,iV 0],qag 0 0,iV e])) 0 []:=
 Fz [] [Cf hu [0,1,2,3,4,5,6,7],.t true]
  tI (Co hu [0,1,2,3,4,5,6,7] 13 (Ai he tI))
theorem qBv {c:Ck} {tn td:Int} (hu:Fn 38 8 [qan c,.pv (qab tn td)] (qaq c) (.pv (iV (0))) 0 []) (hwt:Fn 79 8 [qan c,.pv (qab tn td)] (qaq c) (.pv (.bool false)) 0 []) :
 Fn 33 8 [qan c,.pv (qab tn td)] (qaq c) (.pv (.tuple #[qbv,.agg #[iV 0,iV 0,iV 0,iV 0,iV 0],qag 0 0,iV 6])) 0 []:=
 Fz [] [Cf hu [0,1,2,3,4,5,6,7],.k,Cf hwt [0,1,2,3,4,5,6,7],.k]
  tI (Co hu [0,1,2,3,4,5,6,7] 13 (Co hwt [0,1,2,3,4,5,6,7] 13 tI))
theorem qCm {c o:Ck} {p:Pt} {tn td:Int} {y:Ev} (hu:Fn 38 8 [qan c,.pv (qab tn td)] (qaq c) (.pv (iV (0))) 0 []) (hwt:Fn 79 8 [qan c,.pv (qab tn td)] (qaq c) (.pv (.bool true)) 0 []) (hf:Fn 80 8 [qan c] (qaq c) (.tu [qfW o,.one (.pv (qaa y)),.one (.pv (qag p.a p.b))]) 8 (qbu o)) :
 Fn 33 8 [qan c,.pv (qab tn td)] (qaq c) (.tu [qfW o,.one (.pv (qaa y)),.one (.pv (qag p.a p.b)),.one (.pv (iV 0))]) 8 (qbu o):=
 Fz [(8,13),(9,14),(10,15),(11,16),(12,17),(13,18),(14,19),(15,20)] [Cf hu [0,1,2,3,4,5,6,7],.k,Cf hwt [0,1,2,3,4,5,6,7],.k,Cf hf [0,1,2,3,4,5,6,7]]
  (qaE (qaK [(8,13),(9,14),(10,15),(11,16),(12,17),(13,18),(14,19),(15,20)]) (qbu o)) (Co hu [0,1,2,3,4,5,6,7] 13 (Co hwt [0,1,2,3,4,5,6,7] 13 (Co hf [0,1,2,3,4,5,6,7] 13 tI)))
end Go.Proofs.YtkjaanhddkkodaaGreat

namespace Go.Proofs.YtkjaanhddkkodaaGreat
set_option maxRecDepth 100000
open Go.RowKit
abbrev qvA (c:Ck) (o:Ck) (s:List Pt):HpL:=[(9,0,.pv (iV c.tn)),(9,1,.pv (iV c.td)),(9,2,.ls 0 c.s.length),(9,3,.pv (iV c.x)),(9,4,.ls 1 c.l.length),(9,5,.ls 2 c.u.length),(9,6,.ls 3 c.b.length),(9,7,.ls 4 c.fr.length),(9,8,.ls 5 c.ev.length),(9,9,.ls 6 c.wh.length),(9,10,.ls 7 c.d.length),(0,0,qam c.s),(1,0,qak c.l),(2,0,zrI c.u),(3,0,zrB c.b),(4,0,zrI c.fr),(5,0,qap c.ev),(6,0,zrI c.wh),(7,0,qaQ c.d),(10,0,.ls 8 s.length),(8,0,qam s),(11,0,.pv (iV 0)),(11,1,.pv (iV 0)),(11,2,.pv (.slice none 0 0)),(11,3,.pv (iV 0)),(11,4,.pv (.slice none 0 0)),(11,5,.pv (.slice none 0 0)),(11,6,.pv (.slice none 0 0)),(11,7,.pv (.slice none 0 0)),(11,8,.pv (.slice none 0 0)),(11,9,.pv (.slice none 0 0)),(11,10,.pv (.slice none 0 0)),(20,0,.pv (iV c.tn)),(20,1,.pv (iV c.td)),(20,2,.ls 21 s.length),(20,3,.pv (iV c.x)),(20,4,.ls 13 c.l.length),(20,5,.ls 14 o.u.length),(20,6,.ls 15 o.b.length),(20,7,.ls 16 o.fr.length),(20,8,.ls 17 o.ev.length),(20,9,.ls 18 o.wh.length),(20,10,.ls 22 (o.d).length),(21,0,qam s),(13,0,qak c.l),(14,0,zrI o.u),(15,0,zrB o.b),(16,0,zrI o.fr),(17,0,qap o.ev),(18,0,zrI o.wh),(22,0,qaQ (o.d))]
abbrev qyG (k:Nat):TmL:=[(2,.pp 9 0),(3,.pp 10 0),(4,.pp 11 0),(6,.pp 20 0),(7,.pv (iV (k:Int)))]
abbrev qDL (k:Nat):TmL:=[(2,.pp 9 0),(3,.pp 10 0),(4,.pp 11 0),(6,.pp 20 0),(7,.pv (iV ((k+1:Nat):Int)))]
abbrev qGp (c:Ck) (p:Pt) (s:List Pt) (td:Int) (tn:Int):Prop:=Fn 39 1 [qaB 0 s,.pv (qag p.a p.b),.pv (qab c.tn c.td)] [(0,0,qam s)] (.pv (.tuple #[qab tn td,.bool true])) 0 []
abbrev qyi (r9:Ck):HpL:=[(5,0,zrI r9.u),(6,0,zrB r9.b),(7,0,zrI r9.fr),(8,0,qap r9.ev),(9,0,zrI r9.wh)]
abbrev qxF (o:Ck):HpL:=[(0,0,zrI o.u),(1,0,zrB o.b),(2,0,zrI o.fr),(3,0,qap o.ev),(4,0,zrI o.wh)]
theorem qwY {c o:Ck} {s:List Pt} {p q:Pt} {j k:Nat} {tn td:Int} {r9:Ck} (hk:c.l[k]?=some p) (hin:0≤(k:Int)∧(k:Int)<(c.l.length:Int)) (hlt:decide ((k:Int)<(c.l.length:Int))=true) (hd:Fn 46 8 [qan c,.pv (iV (p.id))] (qaq c) (.pv (iV (j:Int))) 0 []) (hwn:qGp c p s td tn) (hq:c.d[j]?=some q) (hiq:0≤(j:Int)∧(j:Int)<(c.d.length:Int)) (h0:decide ((j:Int)≥0)=true) (hr:Fn 133 5 [agA o.u o.b o.fr o.ev o.wh,.pv (qaG q.a q.b),.pv (qab tn td)] (qxF o) (.ag [.ls 5 r9.u.length,.ls 6 r9.b.length,.ls 7 r9.fr.length,.ls 8 r9.ev.length,.ls 9 r9.wh.length]) 5 (qyi r9)) (hd1:o.d.length+1≤1000000) (hs:iV (IntKind.i64.wrap ((k:Int)+1))=iV (((k+1:Nat):Int))) {e:Exit} {tm2:TmL} {hp2:HpL}
 (r:Rl 9 9 82 0 122 23 (qDL k) ([(9,0,.pv (iV c.tn)),(9,1,.pv (iV c.td)),(9,2,.ls 0 c.s.length),(9,3,.pv (iV c.x)),(9,4,.ls 1 c.l.length),(9,5,.ls 2 c.u.length),(9,6,.ls 3 c.b.length),(9,7,.ls 4 c.fr.length),(9,8,.ls 5 c.ev.length),(9,9,.ls 6 c.wh.length),(9,10,.ls 7 c.d.length),(0,0,qam c.s),(1,0,qak c.l),(2,0,zrI c.u),(3,0,zrB c.b),(4,0,zrI c.fr),(5,0,qap c.ev),(6,0,zrI c.wh),(7,0,qaQ c.d),(10,0,.ls 8 s.length),(8,0,qam s),(11,0,.pv (iV 0)),(11,1,.pv (iV 0)),(11,2,.pv (.slice none 0 0)),(11,3,.pv (iV 0)),(11,4,.pv (.slice none 0 0)),(11,5,.pv (.slice none 0 0)),(11,6,.pv (.slice none 0 0)),(11,7,.pv (.slice none 0 0)),(11,8,.pv (.slice none 0 0)),(11,9,.pv (.slice none 0 0)),(11,10,.pv (.slice none 0 0)),(20,0,.pv (iV c.tn)),(20,1,.pv (iV c.td)),(20,2,.ls 21 s.length),(20,3,.pv (iV c.x)),(20,4,.ls 13 c.l.length),(20,5,.ls 14 r9.u.length),(20,6,.ls 15 r9.b.length),(20,7,.ls 16 r9.fr.length),(20,8,.ls 17 r9.ev.length),(20,9,.ls 18 r9.wh.length),(20,10,.ls 22 (o.d++[q]).length),(21,0,qam s),(13,0,qak c.l),(14,0,zrI r9.u),(15,0,zrB r9.b),(16,0,zrI r9.fr),(17,0,qap r9.ev),(18,0,zrI r9.wh),(22,0,qaQ (o.d++[q]))]) e tm2 hp2):Rl 9 9 82 0 122 23 (qyG k) (qvA c o s) e tm2 hp2:=
 RunsL.next [(14,25),(15,26),(16,27),(17,28),(18,29),(22,31)] 300 [.t true,.r (ptV p),Cf hd [0,1,2,3,4,5,6,7],Cf hwn [8],.t true,.r (qaG q.a q.b),Cf hr [14,15,16,17,18],.md,.r (ptV q),.k,.k,.t true,Re hs]
  (Rh (Ai (Er ((.pv (iV c.tn):SV))) (Ai (Er ((.pv (iV c.td):SV))) (Ai (Er (.ls 0 c.s.length:SV)) (Ai (Er ((.pv (iV c.x):SV))) (Ai (Er (.ls 1 c.l.length:SV)) (Ai (Er (.ls 2 c.u.length:SV)) (Ai (Er (.ls 3 c.b.length:SV)) (Ai (Er (.ls 4 c.fr.length:SV)) (Ai (Er (.ls 5 c.ev.length:SV)) (Ai (Er (.ls 6 c.wh.length:SV)) (Ai (Er (.ls 7 c.d.length:SV)) (Ai (Er (qam c.s)) (Ai (Er (qak c.l)) (Ai (Er (zrI c.u)) (Ai (Er (zrB c.b)) (Ai (Er (zrI c.fr)) (Ai (Er (qap c.ev)) (Ai (Er (zrI c.wh)) (Ai (Er (qaQ c.d)) (Ai (Er (.ls 8 s.length:SV)) (Ai (Er (qam s)) (Ai (Er ((.pv (iV 0):SV))) (Ai (Er ((.pv (iV 0):SV))) (Ai (Er ((.pv (.slice none 0 0):SV))) (Ai (Er ((.pv (iV 0):SV))) (Ai (Er ((.pv (.slice none 0 0):SV))) (Ai (Er ((.pv (.slice none 0 0):SV))) (Ai (Er ((.pv (.slice none 0 0):SV))) (Ai (Er ((.pv (.slice none 0 0):SV))) (Ai (Er ((.pv (.slice none 0 0):SV))) (Ai (Er ((.pv (.slice none 0 0):SV))) (Ai (Er ((.pv (.slice none 0 0):SV))) (Ai (Er ((.pv (iV c.tn):SV))) (Ai (Er ((.pv (iV c.td):SV))) (Ai (Er (.ls 21 s.length:SV)) (Ai (Er ((.pv (iV c.x):SV))) (Ai (Er (.ls 13 c.l.length:SV)) (Ai (Er (.ls 25 r9.u.length:SV)) (Ai (Er (.ls 26 r9.b.length:SV)) (Ai (Er (.ls 27 r9.fr.length:SV)) (Ai (Er (.ls 28 r9.ev.length:SV)) (Ai (Er (.ls 29 r9.wh.length:SV)) (Ai (qjm 31 o.d q) (Ai (Er (qam s)) (Ai (Er (qak c.l)) (Ai (Er (zrI r9.u)) (Ai (Er (zrB r9.b)) (Ai (Er (zrI r9.fr)) (Ai (Er (qap r9.ev)) (Ai (Er (zrI r9.wh)) (Ai (qiy o.d q) tI))))))))))))))))))))))))))))))))))))))))))))))))))) (Ai hlt (Ai hin (Ai (qaL hk) (Co hd [0,1,2,3,4,5,6,7] 24 (Co hwn [8] 24 (Ai h0 (Ai hiq (Ai (qcQ hq) (Co hr [14,15,16,17,18] 25 (Ai hiq (Ai (qaL hq) (Ai hd1 (Ai h0 (Ai hs tI))))))))))))))) r
abbrev qGW:HpL:=[(11,0,.pv (iV 0)),(11,1,.pv (iV 0)),(11,2,.pv (.slice none 0 0)),(11,3,.pv (iV 0)),(11,4,.pv (.slice none 0 0)),(11,5,.pv (.slice none 0 0)),(11,6,.pv (.slice none 0 0)),(11,7,.pv (.slice none 0 0)),(11,8,.pv (.slice none 0 0)),(11,9,.pv (.slice none 0 0)),(11,10,.pv (.slice none 0 0))]
abbrev qvl (c:Ck) (p:Pt):Prop:=Fn 46 8 [qan c,.pv (iV (p.id))] (qaq c) (.pv (iV (-1))) 0 []
theorem qsm {c o:Ck} {s:List Pt} {p:Pt} {k:Nat} {tn td:Int} (hk:c.l[k]?=some p) (hin:0≤(k:Int)∧(k:Int)<(c.l.length:Int)) (hlt:decide ((k:Int)<(c.l.length:Int))=true) (hd:qvl c p) (hwn:qGp c p s td tn) (ho:Fn 123 3 [.ag [.ls 0 o.u.length,.ls 1 o.b.length,.ls 2 o.fr.length]] [(0,0,zrI o.u),(1,0,zrB o.b),(2,0,zrI o.fr)] (.pv (.bool false)) 0 []):Rl 9 9 82 0 122 23 (qyG k) (qvA c o s) (.ret) ([(4,.pp 11 0),(5,.pv (iV 18))]) (qGW):=
 RunsL.stop [] 300 [.t true,.r (ptV p),Cf hd [0,1,2,3,4,5,6,7],Cf hwn [8],.k,.k,.k,.k,Cf ho [14,15,16],.k] (fun h=>by cases h)
  (Ro (Ai hlt (Ai hin (Ai (qaL hk) (Co hd [0,1,2,3,4,5,6,7] 24 (Co hwn [8] 24 (Co ho [14,15,16] 25 tI)))))))
theorem qrL {c o:Ck} {s:List Pt} {p:Pt} {k:Nat} {tn td:Int} {hi hw:Int} {r9:Ck} (hk:c.l[k]?=some p) (hin:0≤(k:Int)∧(k:Int)<(c.l.length:Int)) (hlt:decide ((k:Int)<(c.l.length:Int))=true) (hd:qvl c p) (hwn:qGp c p s td tn) (ho:Fn 123 3 [.ag [.ls 0 o.u.length,.ls 1 o.b.length,.ls 2 o.fr.length]] [(0,0,zrI o.u),(1,0,zrB o.b),(2,0,zrI o.fr)] (.pv (.bool true)) 0 []) (hp:Fn 124 5 [agA o.u o.b o.fr o.ev o.wh,.pv (qab tn td),.pv (iV (p.id))] (qxF o) (.tu [.ag [.ls 5 r9.u.length,.ls 6 r9.b.length,.ls 7 r9.fr.length,.ls 8 r9.ev.length,.ls 9 r9.wh.length],.one (.pv (qaG hi hw))]) 5 (qyi r9)) (hd1:o.d.length+1≤1000000) (hs:iV (IntKind.i64.wrap ((k:Int)+1))=iV (((k+1:Nat):Int))) {e:Exit} {tm2:TmL} {hp2:HpL}
 (r:Rl 9 9 82 0 122 23 (qDL k) ([(9,0,.pv (iV c.tn)),(9,1,.pv (iV c.td)),(9,2,.ls 0 c.s.length),(9,3,.pv (iV c.x)),(9,4,.ls 1 c.l.length),(9,5,.ls 2 c.u.length),(9,6,.ls 3 c.b.length),(9,7,.ls 4 c.fr.length),(9,8,.ls 5 c.ev.length),(9,9,.ls 6 c.wh.length),(9,10,.ls 7 c.d.length),(0,0,qam c.s),(1,0,qak c.l),(2,0,zrI c.u),(3,0,zrB c.b),(4,0,zrI c.fr),(5,0,qap c.ev),(6,0,zrI c.wh),(7,0,qaQ c.d),(10,0,.ls 8 s.length),(8,0,qam s),(11,0,.pv (iV 0)),(11,1,.pv (iV 0)),(11,2,.pv (.slice none 0 0)),(11,3,.pv (iV 0)),(11,4,.pv (.slice none 0 0)),(11,5,.pv (.slice none 0 0)),(11,6,.pv (.slice none 0 0)),(11,7,.pv (.slice none 0 0)),(11,8,.pv (.slice none 0 0)),(11,9,.pv (.slice none 0 0)),(11,10,.pv (.slice none 0 0)),(20,0,.pv (iV c.tn)),(20,1,.pv (iV c.td)),(20,2,.ls 21 s.length),(20,3,.pv (iV c.x)),(20,4,.ls 13 c.l.length),(20,5,.ls 14 r9.u.length),(20,6,.ls 15 r9.b.length),(20,7,.ls 16 r9.fr.length),(20,8,.ls 17 r9.ev.length),(20,9,.ls 18 r9.wh.length),(20,10,.ls 22 (o.d++[(Pt.mk p.id hi hw)]).length),(21,0,qam s),(13,0,qak c.l),(14,0,zrI r9.u),(15,0,zrB r9.b),(16,0,zrI r9.fr),(17,0,qap r9.ev),(18,0,zrI r9.wh),(22,0,qaQ (o.d++[(Pt.mk p.id hi hw)]))]) e tm2 hp2):Rl 9 9 82 0 122 23 (qyG k) (qvA c o s) e tm2 hp2:=
 RunsL.next [(14,25),(15,26),(16,27),(17,28),(18,29),(22,33)] 300 [.t true,.r (ptV p),Cf hd [0,1,2,3,4,5,6,7],Cf hwn [8],.k,.k,.k,.k,Cf ho [14,15,16],.k,Cf hp [14,15,16,17,18],Re hs]
  (Rh (Ai (Er ((.pv (iV c.tn):SV))) (Ai (Er ((.pv (iV c.td):SV))) (Ai (Er (.ls 0 c.s.length:SV)) (Ai (Er ((.pv (iV c.x):SV))) (Ai (Er (.ls 1 c.l.length:SV)) (Ai (Er (.ls 2 c.u.length:SV)) (Ai (Er (.ls 3 c.b.length:SV)) (Ai (Er (.ls 4 c.fr.length:SV)) (Ai (Er (.ls 5 c.ev.length:SV)) (Ai (Er (.ls 6 c.wh.length:SV)) (Ai (Er (.ls 7 c.d.length:SV)) (Ai (Er (qam c.s)) (Ai (Er (qak c.l)) (Ai (Er (zrI c.u)) (Ai (Er (zrB c.b)) (Ai (Er (zrI c.fr)) (Ai (Er (qap c.ev)) (Ai (Er (zrI c.wh)) (Ai (Er (qaQ c.d)) (Ai (Er (.ls 8 s.length:SV)) (Ai (Er (qam s)) (Ai (Er ((.pv (iV 0):SV))) (Ai (Er ((.pv (iV 0):SV))) (Ai (Er ((.pv (.slice none 0 0):SV))) (Ai (Er ((.pv (iV 0):SV))) (Ai (Er ((.pv (.slice none 0 0):SV))) (Ai (Er ((.pv (.slice none 0 0):SV))) (Ai (Er ((.pv (.slice none 0 0):SV))) (Ai (Er ((.pv (.slice none 0 0):SV))) (Ai (Er ((.pv (.slice none 0 0):SV))) (Ai (Er ((.pv (.slice none 0 0):SV))) (Ai (Er ((.pv (.slice none 0 0):SV))) (Ai (Er ((.pv (iV c.tn):SV))) (Ai (Er ((.pv (iV c.td):SV))) (Ai (Er (.ls 21 s.length:SV)) (Ai (Er ((.pv (iV c.x):SV))) (Ai (Er (.ls 13 c.l.length:SV)) (Ai (Er (.ls 25 r9.u.length:SV)) (Ai (Er (.ls 26 r9.b.length:SV)) (Ai (Er (.ls 27 r9.fr.length:SV)) (Ai (Er (.ls 28 r9.ev.length:SV)) (Ai (Er (.ls 29 r9.wh.length:SV)) (Ai (qjm 33 o.d (Pt.mk p.id hi hw)) (Ai (Er (qam s)) (Ai (Er (qak c.l)) (Ai (Er (zrI r9.u)) (Ai (Er (zrB r9.b)) (Ai (Er (zrI r9.fr)) (Ai (Er (qap r9.ev)) (Ai (Er (zrI r9.wh)) (Ai (qiy o.d (Pt.mk p.id hi hw)) tI))))))))))))))))))))))))))))))))))))))))))))))))))) (Ai hlt (Ai hin (Ai (qaL hk) (Co hd [0,1,2,3,4,5,6,7] 24 (Co hwn [8] 24 (Co ho [14,15,16] 25 (Co hp [14,15,16,17,18] 25 (Ai hd1 (Ai hs tI)))))))))) r
theorem qsw {c o:Ck} {s:List Pt} {p q:Pt} {j k:Nat} {tn td:Int} {r9:Ck} (hk:c.l[k]?=some p) (hin:0≤(k:Int)∧(k:Int)<(c.l.length:Int)) (hlt:decide ((k:Int)<(c.l.length:Int))=true) (hd:Fn 46 8 [qan c,.pv (iV (p.id))] (qaq c) (.pv (iV (j:Int))) 0 []) (hwn:Fn 39 1 [qaB 0 s,.pv (qag p.a p.b),.pv (qab c.tn c.td)] [(0,0,qam s)] (.pv (.tuple #[qab tn td,.bool false])) 0 []) (hq:c.d[j]?=some q) (hiq:0≤(j:Int)∧(j:Int)<(c.d.length:Int)) (h0:decide ((j:Int)≥0)=true) (hr:Fn 126 5 [agA o.u o.b o.fr o.ev o.wh,.pv (qaG q.a q.b)] (qxF o) (.ag [.ls 5 r9.u.length,.ls 6 r9.b.length,.ls 7 r9.fr.length,.ls 8 r9.ev.length,.ls 9 r9.wh.length]) 5 (qyi r9)) (hs:iV (IntKind.i64.wrap ((k:Int)+1))=iV (((k+1:Nat):Int))) {e:Exit} {tm2:TmL} {hp2:HpL}
 (r:Rl 9 9 82 0 122 23 (qDL k) ([(9,0,.pv (iV c.tn)),(9,1,.pv (iV c.td)),(9,2,.ls 0 c.s.length),(9,3,.pv (iV c.x)),(9,4,.ls 1 c.l.length),(9,5,.ls 2 c.u.length),(9,6,.ls 3 c.b.length),(9,7,.ls 4 c.fr.length),(9,8,.ls 5 c.ev.length),(9,9,.ls 6 c.wh.length),(9,10,.ls 7 c.d.length),(0,0,qam c.s),(1,0,qak c.l),(2,0,zrI c.u),(3,0,zrB c.b),(4,0,zrI c.fr),(5,0,qap c.ev),(6,0,zrI c.wh),(7,0,qaQ c.d),(10,0,.ls 8 s.length),(8,0,qam s),(11,0,.pv (iV 0)),(11,1,.pv (iV 0)),(11,2,.pv (.slice none 0 0)),(11,3,.pv (iV 0)),(11,4,.pv (.slice none 0 0)),(11,5,.pv (.slice none 0 0)),(11,6,.pv (.slice none 0 0)),(11,7,.pv (.slice none 0 0)),(11,8,.pv (.slice none 0 0)),(11,9,.pv (.slice none 0 0)),(11,10,.pv (.slice none 0 0)),(20,0,.pv (iV c.tn)),(20,1,.pv (iV c.td)),(20,2,.ls 21 s.length),(20,3,.pv (iV c.x)),(20,4,.ls 13 c.l.length),(20,5,.ls 14 r9.u.length),(20,6,.ls 15 r9.b.length),(20,7,.ls 16 r9.fr.length),(20,8,.ls 17 r9.ev.length),(20,9,.ls 18 r9.wh.length),(20,10,.ls 22 (o.d).length),(21,0,qam s),(13,0,qak c.l),(14,0,zrI r9.u),(15,0,zrB r9.b),(16,0,zrI r9.fr),(17,0,qap r9.ev),(18,0,zrI r9.wh),(22,0,qaQ (o.d))]) e tm2 hp2):Rl 9 9 82 0 122 23 (qyG k) (qvA c o s) e tm2 hp2:=
 RunsL.next [(14,25),(15,26),(16,27),(17,28),(18,29)] 300 [.t true,.r (ptV p),Cf hd [0,1,2,3,4,5,6,7],Cf hwn [8],.k,.t true,.r (qaG q.a q.b),Cf hr [14,15,16,17,18],.k,Re hs]
  (Ro (Ai hlt (Ai hin (Ai (qaL hk) (Co hd [0,1,2,3,4,5,6,7] 24 (Co hwn [8] 24 (Ai h0 (Ai hiq (Ai (qcQ hq) (Co hr [14,15,16,17,18] 25 (Ai hs tI))))))))))) r
theorem qrA {c o:Ck} {s:List Pt} {p:Pt} {k:Nat} {tn td:Int} (hk:c.l[k]?=some p) (hin:0≤(k:Int)∧(k:Int)<(c.l.length:Int)) (hlt:decide ((k:Int)<(c.l.length:Int))=true) (hd:qvl c p) (hwn:Fn 39 1 [qaB 0 s,.pv (qag p.a p.b),.pv (qab c.tn c.td)] [(0,0,qam s)] (.pv (.tuple #[qab tn td,.bool false])) 0 []) (hs:iV (IntKind.i64.wrap ((k:Int)+1))=iV (((k+1:Nat):Int))) {e:Exit} {tm2:TmL} {hp2:HpL}
 (r:Rl 9 9 82 0 122 23 (qDL k) (qvA c o s) e tm2 hp2):Rl 9 9 82 0 122 23 (qyG k) (qvA c o s) e tm2 hp2:=
 RunsL.next [] 300 [.t true,.r (ptV p),Cf hd [0,1,2,3,4,5,6,7],Cf hwn [8],.k,.k,.k,Re hs]
  (Ro (Ai hlt (Ai hin (Ai (qaL hk) (Co hd [0,1,2,3,4,5,6,7] 24 (Co hwn [8] 24 (Ai hs tI))))))) r
abbrev qG4 (c:Ck) (o:Ck) (s:List Pt):HpL:=[(11,0,.pv (iV 0)),(11,1,.pv (iV 0)),(11,2,.pv (.slice none 0 0)),(11,3,.pv (iV 0)),(11,4,.pv (.slice none 0 0)),(11,5,.pv (.slice none 0 0)),(11,6,.pv (.slice none 0 0)),(11,7,.pv (.slice none 0 0)),(11,8,.pv (.slice none 0 0)),(11,9,.pv (.slice none 0 0)),(11,10,.pv (.slice none 0 0)),(20,0,.pv (iV c.tn)),(20,1,.pv (iV c.td)),(20,2,.ls 21 s.length),(20,3,.pv (iV c.x)),(20,4,.ls 13 c.l.length),(20,5,.ls 14 o.u.length),(20,6,.ls 15 o.b.length),(20,7,.ls 16 o.fr.length),(20,8,.ls 17 o.ev.length),(20,9,.ls 18 o.wh.length),(20,10,.ls 22 (o.d).length),(21,0,qam s),(13,0,qak c.l),(14,0,zrI o.u),(15,0,zrB o.b),(16,0,zrI o.fr),(17,0,qap o.ev),(18,0,zrI o.wh),(22,0,qaQ (o.d))]
theorem qvv {c o:Ck} {s:List Pt} {k:Nat} (hge:decide ((k:Int)<(c.l.length:Int))=false):Rl 9 9 82 0 122 23 (qyG k) (qvA c o s) (.exit 0) ([(4,.pp 11 0),(6,.pp 20 0)]) (qG4 c o s):=
 RunsL.stop [] 300 [.t false] (fun h=>by cases h)
  (Ro (Ai hge tI))
abbrev qGV (c:Ck) (s:List Pt):HpL:=[(9,0,.pv (iV c.tn)),(9,1,.pv (iV c.td)),(9,2,.ls 0 c.s.length),(9,3,.pv (iV c.x)),(9,4,.ls 1 c.l.length),(9,5,.ls 2 c.u.length),(9,6,.ls 3 c.b.length),(9,7,.ls 4 c.fr.length),(9,8,.ls 5 c.ev.length),(9,9,.ls 6 c.wh.length),(9,10,.ls 7 c.d.length),(0,0,qam c.s),(1,0,qak c.l),(2,0,zrI c.u),(3,0,zrB c.b),(4,0,zrI c.fr),(5,0,qap c.ev),(6,0,zrI c.wh),(7,0,qaQ c.d),(10,0,.ls 8 s.length),(8,0,qam s),(11,0,.pv (iV 0)),(11,1,.pv (iV 0)),(11,2,.pv (.slice none 0 0)),(11,3,.pv (iV 0)),(11,4,.pv (.slice none 0 0)),(11,5,.pv (.slice none 0 0)),(11,6,.pv (.slice none 0 0)),(11,7,.pv (.slice none 0 0)),(11,8,.pv (.slice none 0 0)),(11,9,.pv (.slice none 0 0)),(11,10,.pv (.slice none 0 0)),(20,0,.pv (iV c.tn)),(20,1,.pv (iV c.td)),(20,2,.ls 21 s.length),(20,3,.pv (iV c.x)),(20,4,.ls 13 c.l.length),(20,5,.ls 14 c.u.length),(20,6,.ls 15 c.b.length),(20,7,.ls 16 c.fr.length),(20,8,.ls 17 c.ev.length),(20,9,.ls 18 c.wh.length),(20,10,.ls 22 ([]:List Pt).length),(21,0,qam s),(13,0,qak c.l),(14,0,zrI c.u),(15,0,zrB c.b),(16,0,zrI c.fr),(17,0,qap c.ev),(18,0,zrI c.wh),(22,0,qaQ ([]:List Pt))]
abbrev qsL (c:Ck) (s:List Pt):HpL:=[(0,0,qam c.s),(1,0,qak c.l),(2,0,zrI c.u),(3,0,zrB c.b),(4,0,zrI c.fr),(5,0,qap c.ev),(6,0,zrI c.wh),(7,0,qaQ c.d),(8,0,qam s)]
theorem qvc {c:Ck} {s:List Pt} (htw:Fn 14 8 [qan c] (qaq c) (qdy c) 8 (qbu c)) (hf:Fn 32 1 [qaB 0 s] [(0,0,qam s)] (.ag [.ls 1 s.length]) 1 [(1,0,qam s)]) (r0:Rl 9 9 82 0 122 23 ([(2,.pp 9 0),(3,.pp 10 0),(4,.pp 11 0),(6,.pp 20 0),(7,.pv (iV ((0:Nat):Int)))]) (qGV c s) (.ret) ([(4,.pp 11 0),(5,.pv (iV 18))]) (qGW)) :
 Fn 82 9 [qan c,qaB 8 s] (qsL c s) (.pv (.tuple #[qbv,iV 18])) 0 []:=
 Fz [] [Cf htw [0,1,2,3,4,5,6,7],Cf hf [8],.ln false 20 10 54 3,Lf r0]
  tI (Co htw [0,1,2,3,4,5,6,7] 12 (Co hf [8] 21 (Lo r0 [] tI)))
abbrev qAC (c:Ck) (o:Ck) (s:List Pt):HpL:=[(9,0,qam s),(10,0,qak c.l),(11,0,zrI o.u),(12,0,zrB o.b),(13,0,zrI o.fr),(14,0,qap o.ev),(15,0,zrI o.wh),(16,0,qaQ (o.d))]
theorem qAN {c o:Ck} {s:List Pt} (htw:Fn 14 8 [qan c] (qaq c) (qdy c) 8 (qbu c)) (hf:Fn 32 1 [qaB 0 s] [(0,0,qam s)] (.ag [.ls 1 s.length]) 1 [(1,0,qam s)]) (r0:Rl 9 9 82 0 122 23 ([(2,.pp 9 0),(3,.pp 10 0),(4,.pp 11 0),(6,.pp 20 0),(7,.pv (iV ((0:Nat):Int)))]) (qGV c s) (.exit 0) ([(4,.pp 11 0),(6,.pp 20 0)]) (qG4 c o s)) :
 Fn 82 9 [qan c,qaB 8 s] (qsL c s) (.tu [.ag [.pv (iV c.tn),.pv (iV c.td),.ls 9 s.length,.pv (iV c.x),.ls 10 c.l.length,.ls 11 o.u.length,.ls 12 o.b.length,.ls 13 o.fr.length,.ls 14 o.ev.length,.ls 15 o.wh.length,.ls 16 (o.d).length],.one (.pv (iV 0))]) 8 (qAC c o s):=
 Fz [(9,21),(10,13),(11,14),(12,15),(13,16),(14,17),(15,18),(16,22)] [Cf htw [0,1,2,3,4,5,6,7],Cf hf [8],.ln false 20 10 54 3,Lf r0]
  (qaE (qaK [(9,21),(10,13),(11,14),(12,15),(13,16),(14,17),(15,18),(16,22)]) (qAC c o s)) (Co htw [0,1,2,3,4,5,6,7] 12 (Co hf [8] 21 (Lo r0 [] tI)))
theorem qve {c:Ck} {s:List Pt} (hc:Fn 31 8 [qan c] (qaq c) (.pv (iV (8))) 0 []) :
 Fn 35 9 [qan c,qaB 8 s] (qsL c s) (.pv (.tuple #[qbv,iV 8])) 0 []:=
 Fz [] [Cf hc [0,1,2,3,4,5,6,7],.k]
  tI (Co hc [0,1,2,3,4,5,6,7] 12 tI)
abbrev qp2 (c:Ck):Prop:=Fn 31 8 [qan c] (qaq c) (.pv (iV (0))) 0 []
theorem qt7 {c:Ck} {s:List Pt} {e:Int} (hc:qp2 c) (hf:Fn 44 1 [qaB 0 s] [(0,0,qam s)] (.pv (iV (e))) 0 []) (he:(e !=0)=true) :
 Fn 35 9 [qan c,qaB 8 s] (qsL c s) (.pv (.tuple #[qbv,iV e])) 0 []:=
 Fz [] [Cf hc [0,1,2,3,4,5,6,7],.k,Cf hf [8],.t true]
  tI (Co hc [0,1,2,3,4,5,6,7] 12 (Co hf [8] 12 (Ai he tI)))
abbrev qx0 (s:List Pt):Prop:=Fn 44 1 [qaB 0 s] [(0,0,qam s)] (.pv (iV (0))) 0 []
theorem qsW {c:Ck} {s:List Pt} (hc:qp2 c) (hf:qx0 s) (hkn:Fn 45 2 [qaP 0 c.x c.l,qaB 1 s] [(0,0,qak c.l),(1,0,qam s)] (.pv (.bool false)) 0 []) :
 Fn 35 9 [qan c,qaB 8 s] (qsL c s) (.pv (.tuple #[qbv,iV 6])) 0 []:=
 Fz [] [Cf hc [0,1,2,3,4,5,6,7],.k,Cf hf [8],.k,Cf hkn [1,8],.k]
  tI (Co hc [0,1,2,3,4,5,6,7] 12 (Co hf [8] 12 (Co hkn [1,8] 12 tI)))
theorem qpP {c:Ck} {s:List Pt} (hc:qp2 c) (hf:qx0 s) (hkn:Fn 45 2 [qaP 0 c.x c.l,qaB 1 s] [(0,0,qak c.l),(1,0,qam s)] (.pv (.bool true)) 0 []) (hal:Fn 82 9 [qan c,qaB 8 s] (qsL c s) (.pv (.tuple #[qbv,iV 18])) 0 []) :
 Fn 35 9 [qan c,qaB 8 s] (qsL c s) (.pv (.tuple #[qbv,iV 18])) 0 []:=
 Fz [] [Cf hc [0,1,2,3,4,5,6,7],.k,Cf hf [8],.k,Cf hkn [1,8],.k,Cf hal [0,1,2,3,4,5,6,7,8]]
  tI (Co hc [0,1,2,3,4,5,6,7] 12 (Co hf [8] 12 (Co hkn [1,8] 12 (Co hal [0,1,2,3,4,5,6,7,8] 12 tI))))
theorem qyX {c o:Ck} {s:List Pt} (hc:qp2 c) (hf:qx0 s) (hkn:Fn 45 2 [qaP 0 c.x c.l,qaB 1 s] [(0,0,qak c.l),(1,0,qam s)] (.pv (.bool true)) 0 []) (hal:Fn 82 9 [qan c,qaB 8 s] (qsL c s) (.tu [.ag [.pv (iV c.tn),.pv (iV c.td),.ls 9 s.length,.pv (iV c.x),.ls 10 c.l.length,.ls 11 o.u.length,.ls 12 o.b.length,.ls 13 o.fr.length,.ls 14 o.ev.length,.ls 15 o.wh.length,.ls 16 (o.d).length],.one (.pv (iV 0))]) 8 (qAC c o s)) :
 Fn 35 9 [qan c,qaB 8 s] (qsL c s) (.tu [.ag [.pv (iV c.tn),.pv (iV c.td),.ls 9 s.length,.pv (iV c.x),.ls 10 c.l.length,.ls 11 o.u.length,.ls 12 o.b.length,.ls 13 o.fr.length,.ls 14 o.ev.length,.ls 15 o.wh.length,.ls 16 (o.d).length],.one (.pv (iV 0))]) 8 (qAC c o s):=
 Fz [(9,12),(10,13),(11,14),(12,15),(13,16),(14,17),(15,18),(16,19)] [Cf hc [0,1,2,3,4,5,6,7],.k,Cf hf [8],.k,Cf hkn [1,8],.k,Cf hal [0,1,2,3,4,5,6,7,8]]
  (qaE (qaK [(9,12),(10,13),(11,14),(12,15),(13,16),(14,17),(15,18),(16,19)]) (qAC c o s)) (Co hc [0,1,2,3,4,5,6,7] 12 (Co hf [8] 12 (Co hkn [1,8] 12 (Co hal [0,1,2,3,4,5,6,7,8] 12 tI))))
end Go.Proofs.YtkjaanhddkkodaaGreat

namespace Go.Proofs.YtkjaanhddkkodaaGreat
set_option maxRecDepth 100000
open Go.ChangeShapes Go.WideShapes Go.ChangeAt Go.RowKit Go.Joins Go.Deep
theorem qAB:Tryz.prog.cellsOf 54=3:=by kernel_rfl
theorem quL:Tryz.prog.cellsOf 37=1:=by kernel_rfl
theorem qC0:Tryz.prog.cellsOf 26=1:=by kernel_rfl
theorem qyI:Tryz.prog.cellsOf 24=1:=by kernel_rfl
theorem qqS:Tryz.prog.cellsOf 39=11:=by kernel_rfl
theorem qwi:Tryz.prog.readableRec 39=true:=by kernel_rfl
theorem qAr:39<Tryz.prog.types.size:=of_decide_eq_true (by kernel_rfl)
section
variable {H:Type} {enc:TypeId×Value→H} {W:World} {base:Nat} {spare:Nat→Bool} {held:Bool}
theorem qiK {P:Program} {t:TypeId} {f0 f1 f2 f3 f4:Field} {fuel:Nat} {cs:List Value} {x:DataW H×List MemPlace} (ht:P.underlying t=some (.struct #[f0,f1,f2,f3,f4])) (h:DataW.trod enc P W base spare held fuel t cs=some x) :
 ∃ y0 y1 y2 y3 y4 n,cs.length=P.cellsOf t∧DataW.trod enc P W base spare held n f0.type ((cs.drop f0.offset).take (P.cellsOf f0.type))=some y0∧DataW.trod enc P W base spare held n f1.type ((cs.drop f1.offset).take (P.cellsOf f1.type))=some y1∧
  DataW.trod enc P W base spare held n f2.type ((cs.drop f2.offset).take (P.cellsOf f2.type))=some y2∧DataW.trod enc P W base spare held n f3.type ((cs.drop f3.offset).take (P.cellsOf f3.type))=some y3∧DataW.trod enc P W base spare held n f4.type ((cs.drop f4.offset).take (P.cellsOf f4.type))=some y4:=by
 obtain⟨xs,n,_,rfl,hl,hlen,hf⟩:=DataW.trod_struct ht h
 match xs,hlen with
 | [y0,y1,y2,y3,y4],_=>exact⟨y0,y1,y2,y3,y4,n,hl,by simpa using hf 0 f0 rfl,by simpa using hf 1 f1 rfl,by simpa using hf 2 f2 rfl,by simpa using hf 3 f3 rfl,by simpa using hf 4 f4 rfl⟩
theorem qox {fuel:Nat} {cs:List Value} {x:DataW H×List MemPlace} (h:DataW.trod enc Tryz.prog W base spare held fuel 37 cs=some x) :
 ∃ (u:Value) (l:List Pt),cs=[u]∧Rd W 3 u l.length (qbo l):=by
 rcases open_slice Tryz.underlying37 h with ⟨rfl,_⟩ | ⟨a,len,cap,m,n,D,Pl,rfl,_,hlc,_,hm,_,hi⟩
 ·exact⟨_,[],rfl,⟨rfl,none,0,rfl,Nat.le_refl _,fun j v hv=>by simp[qbo] at hv⟩⟩
 have hlm:len≤m:=by rw[hm];split<;>omega
 have each:∀ i,i<len→∃ p:Pt,W.cell? (a.add (i*3))=some (iV p.id)∧W.cell? (a.add (i*3+1))=some (iV p.a)∧W.cell? (a.add (i*3+2))=some (iV p.b):=by
  intro i hil
  obtain⟨cs',hc,ht⟩:=hi i (by omega)
  rw[qAB] at hc
  obtain⟨y0,y1,n',_,hlen,t0,t1⟩:=trod_struct2 Tryz.underlying54 ht
  obtain⟨z0,z1,n2,_,hlen2,s0,s1⟩:=trod_struct2 Tryz.underlying52 t1
  obtain⟨_,hcl,hat⟩:=World.cells?_some hc
  match cs',hcl with
  | [c0,c1,c2],_=>
   obtain⟨pi,e0,_,w0⟩:=DataW.trod_int Tryz.underlying3 t0
   obtain⟨pa,e1,_,w1⟩:=DataW.trod_int Tryz.underlying3 s0
   obtain⟨pb,e2,_,w2⟩:=DataW.trod_int Tryz.underlying3 s1
   simp[qAe,qBx] at e0 e1 e2
   refine⟨⟨pi,pa,pb⟩,?_,?_,?_⟩
   ·have:=hat 0 (by omega);rw[add_add] at this;simpa [e0] using this
   ·have:=hat 1 (by omega);rw[add_add] at this;simpa [e1] using this
   ·have:=hat 2 (by omega);rw[add_add] at this;simpa [e2] using this
 haveI:Inhabited Pt:=⟨⟨0,0,0⟩⟩
 obtain⟨f,hf⟩:=choose_lt (α:=Pt) each
 refine⟨_,(List.range len).map f,rfl,⟨qbe _,some a,cap,by simp,by simpa using hlc,fun j v hv=>?_⟩⟩
 obtain⟨hk,he⟩:=qos f len j v hv
 obtain⟨c0,c1,c2⟩:=hf _ hk
 have hcell:W.cell? (a.add j)=some v:=by
  have h3:j%3=0∨j%3=1∨j%3=2:=by omega
  have e:j=j/3*3+j%3:=by omega
  rcases h3 with e3 | e3 | e3<;>rw[e3] at he e<;>rw[e]<;>simp at he<;>subst he
  ·exact c0
  ·exact c1
  ·exact c2
 obtain⟨b,off,spot⟩:=a
 have hs:spot=none:=by simpa [Addr.add] using World.cell?_spot (hf 0 (by omega)).1
 subst hs
 exact⟨b,off,rfl,by rw[← Go.WideShapes.add_plain];exact hcell⟩
abbrev ckR (c:Ck):List (TypeId×Nat×Nat×List Value):=[(57,3,c.s.length,qbo c.s),(94,3,c.l.length,qbo c.l),(3,1,c.u.length,ziV c.u),(4,1,c.b.length,zbV c.b),(3,1,c.fr.length,ziV c.fr),(62,5,c.ev.length,qat c.ev),(3,1,c.wh.length,ziV c.wh),(54,3,c.d.length,qbo c.d)]
theorem qk5 {r:Reach} {b0:Nat} {v:Value} {d:DataW H} {p:List MemPlace} (hv:Value.okWide Tryz.prog W r b0 39 v) (h:DataW.Trod enc Tryz.prog W base spare held 39 v d p) :
 ∃ (c:Ck) (u0 u1 u2 u3 u4 u5 u6 u7:Value),v=.agg #[iV c.tn,iV c.td,u0,iV c.x,u1,u2,u3,u4,u5,u6,u7]∧ZIns W [u0,u1,u2,u3,u4,u5,u6,u7] (ckR c)∧I64 c.tn∧I64 c.td∧∀ y∈c.ev,EvI y:=by
 obtain⟨cs,rfl,hsz⟩:=okWide_struct Tryz.underlying39 hv
 obtain⟨fuel,hf⟩:=h
 obtain⟨y0,y1,y2,y3,y4,n,hlen,h0,h1,h2,h3,h4⟩:=qiK Tryz.underlying39 hf
 obtain⟨z0,z1,n1,_,_,a0,a1⟩:=trod_struct2 Tryz.underlying23 h0
 obtain⟨tn,e0,_,w0⟩:=DataW.trod_int Tryz.underlying2 a0
 obtain⟨td,e1,_,w1⟩:=DataW.trod_int Tryz.underlying2 a1
 obtain⟨z2,n2,_,_,b0⟩:=trod_struct1 Tryz.underlying26 h1
 obtain⟨u0,s,c0,r0,_⟩:=qkm b0
 obtain⟨z3,z4,n3,_,_,d0,d1⟩:=trod_struct2 Tryz.underlying29 h2
 obtain⟨x,e2,_,_⟩:=DataW.trod_int Tryz.underlying3 d0
 obtain⟨u1,l,c1,r1⟩:=qn6 d1
 obtain⟨z5,z6,z7,n4,_,_,k0,k1,k2⟩:=trod_struct3 Tryz.underlying36 h3
 obtain⟨x0,x1,x2,n5,_,_,g0,g1,g2⟩:=trod_struct3 Tryz.underlying33 k0
 obtain⟨u2,lu,c2,r2,_⟩:=qer g0
 obtain⟨u3,lb,c3,r3⟩:=qjR g1
 obtain⟨u4,lf,c4,r4,_⟩:=qer g2
 obtain⟨u5,le,c5,r5,w5⟩:=qpF k1
 obtain⟨u6,lw,c6,r6,_⟩:=qer k2
 obtain⟨u7,ld,c7,r7⟩:=qox h4
 refine⟨⟨tn,td,s,x,l,lu,lb,lf,le,lw,ld⟩,u0,u1,u2,u3,u4,u5,u6,u7,?_,.cons r0 (qfr s) (.cons r1 (qfr l) (.cons r2 (qkv lu) (.cons r3 (qA9 lb) (.cons r4 (qkv lf) (.cons r5 (qm4 le) (.cons r6 (qkv lw) (.cons r7 (qfr ld) .nil))))))),qDD w0,qDD w1,w5⟩
 rw[qC0,qyI] at c0
 rw[qvb,qkg] at c1
 rw[qAe,qkg] at e2
 rw[qtK,qAl] at e0 e1
 rw[qEb] at c2 c4 c6
 rw[qEU] at c3
 rw[qGD] at c5
 rw[qGm] at c2 c3 c4
 rw[qED] at c2 c3 c4 c5 c6
 rw[quL] at c7
 have hs:cs.size=11:=hsz.trans qqS
 obtain⟨L⟩:=cs
 match L,hs with
 | [v0,v1,v2,v3,v4,v5,v6,v7,v8,v9,v10],_=>
  simp[Value.cells] at c0 c1 c2 c3 c4 c5 c6 c7 e0 e1 e2
  rw[c0,c1,c2,c3,c4,c5,c6,c7,e0,e1,e2]
end
theorem qrd {W:World} {c:Ck} {u0 u1 u2 u3 u4 u5 u6 u7:Value} {us:List Value} (h:ZIns W [u0,u1,u2,u3,u4,u5,u6,u7] (ckR c)):SV.is (ql4 (u0::u1::u2::u3::u4::u5::u6::u7::us)) (qan c) (.agg #[iV c.tn,iV c.td,u0,iV c.x,u1,u2,u3,u4,u5,u6,u7]):=by
 match h with
 | .cons h0 _ (.cons h1 _ (.cons h2 _ (.cons h3 _ (.cons h4 _ (.cons h5 _ (.cons h6 _ (.cons h7 _ .nil)))))))=>
 exact⟨[iV c.tn,iV c.td,u0,iV c.x,u1,u2,u3,u4,u5,u6,u7],⟨rfl,rfl,⟨rfl,h0.zsl⟩,rfl,⟨rfl,h1.zsl⟩,⟨rfl,h2.zsl⟩,⟨rfl,h3.zsl⟩,⟨rfl,h4.zsl⟩,⟨rfl,h5.zsl⟩,⟨rfl,h6.zsl⟩,⟨rfl,h7.zsl⟩,tI⟩,rfl⟩
theorem ZIns.snoc {W:World} {us:List Value} {rs:List (TypeId×Nat×Nat×List Value)} (h:ZIns W us rs) {u:Value} {e:TypeId} {es n:Nat} {xs:List Value} (h1:Rd W es u n xs) (h2:∀ v∈xs,v.oneCell'=true):ZIns W (us++[u]) (rs++[(e,es,n,xs)]):=by
 induction h with
 | nil=>exact .cons h1 h2 .nil
 | cons a b _ ih=>exact .cons a b ih
end Go.Proofs.YtkjaanhddkkodaaGreat
