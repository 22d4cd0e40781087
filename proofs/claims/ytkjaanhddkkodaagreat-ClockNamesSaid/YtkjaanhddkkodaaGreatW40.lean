/-
  Joined: Ld, Le, Lf, Lh, Li, Lj. Conditions: none.
-/
import Derived.Test.YtkjaanhddkkodaaGreatW39
import Derived.Test.YtkjaanhddkkodaaGreatW18
namespace Go.Proofs.YtkjaanhddkkodaaGreat
set_option maxRecDepth 100000
open Go.RowKit
theorem qEg {c:Ck} (h1:Pure Tryz.prog 75 #[qaa c.tn c.td] (iV (8))) :
 Fn 31 8 [qam c] (qas c) (.pv (iV (8))) 0 []:=
 Fz [] [Rf h1,.k]
  tI (Ai h1 tI)
abbrev qqY (c:Ck):Prop:=Pure Tryz.prog 75 #[qaa c.tn c.td] (iV (0))
theorem qB6 {c:Ck} {n:Int} (h1:qqY c) (h2:Fn 44 1 [qaE 0 c.s] [(0,0,qaj c.s)] (.pv (iV (n))) 0 []) (hne:(n !=0)=true) :
 Fn 31 8 [qam c] (qas c) (.pv (iV (8))) 0 []:=
 Fz [] [Rf h1,.k,Cf h2 [0],.t true]
  tI (Ai h1 (Co h2 [0] 9 (Ai hne tI)))
abbrev qr2 (c:Ck):Prop:=Fn 44 1 [qaE 0 c.s] [(0,0,qaj c.s)] (.pv (iV (0))) 0 []
theorem qB4 {c:Ck} (h1:qqY c) (h2:qr2 c) (h3:Fn 76 1 [qaP 0 c.x c.l] [(0,0,qal c.l)] (.pv (iV (8))) 0 []) :
 Fn 31 8 [qam c] (qas c) (.pv (iV (8))) 0 []:=
 Fz [] [Rf h1,.k,Cf h2 [0],.k,Cf h3 [1],.k]
  tI (Ai h1 (Co h2 [0] 9 (Co h3 [1] 9 tI)))
abbrev qvQ (c:Ck):Prop:=Fn 76 1 [qaP 0 c.x c.l] [(0,0,qal c.l)] (.pv (iV (0))) 0 []
theorem qCD {c:Ck} (h1:qqY c) (h2:qr2 c) (h3:qvQ c) (h4:Fn 45 2 [qaP 0 c.x c.l,qaE 1 c.s] [(0,0,qal c.l),(1,0,qaj c.s)] (.pv (.bool false)) 0 []) :
 Fn 31 8 [qam c] (qas c) (.pv (iV (8))) 0 []:=
 Fz [] [Rf h1,.k,Cf h2 [0],.k,Cf h3 [1],.k,Cf h4 [1,0],.k]
  tI (Ai h1 (Co h2 [0] 9 (Co h3 [1] 9 (Co h4 [1,0] 9 tI))))
abbrev qBb (c:Ck):HpL:=[(0,0,zrI c.u),(1,0,zrB c.b),(2,0,zrI c.fr),(3,0,qao c.ev),(4,0,zrI c.wh)]
abbrev qwP (c:Ck):Prop:=Fn 45 2 [qaP 0 c.x c.l,qaE 1 c.s] [(0,0,qal c.l),(1,0,qaj c.s)] (.pv (.bool true)) 0 []
theorem qDn {c:Ck} (h1:qqY c) (h2:qr2 c) (h3:qvQ c) (h4:qwP c) (h5:Fn 77 5 [agA c.u c.b c.fr c.ev c.wh] (qBb c) (.pv (iV (8))) 0 []) :
 Fn 31 8 [qam c] (qas c) (.pv (iV (8))) 0 []:=
 Fz [] [Rf h1,.k,Cf h2 [0],.k,Cf h3 [1],.k,Cf h4 [1,0],.k,Cf h5 [2,3,4,5,6],.k]
  tI (Ai h1 (Co h2 [0] 9 (Co h3 [1] 9 (Co h4 [1,0] 9 (Co h5 [2,3,4,5,6] 9 tI)))))
abbrev qye (c:Ck):Prop:=Fn 77 5 [agA c.u c.b c.fr c.ev c.wh] (qBb c) (.pv (iV (0))) 0 []
theorem qDU {c:Ck} (h1:qqY c) (h2:qr2 c) (h3:qvQ c) (h4:qwP c) (h5:qye c) (h6:((c.wh.length:Int) !=200)=true) :
 Fn 31 8 [qam c] (qas c) (.pv (iV (8))) 0 []:=
 Fz [] [Rf h1,.k,Cf h2 [0],.k,Cf h3 [1],.k,Cf h4 [1,0],.k,Cf h5 [2,3,4,5,6],.k,.t true]
  tI (Ai h1 (Co h2 [0] 9 (Co h3 [1] 9 (Co h4 [1,0] 9 (Co h5 [2,3,4,5,6] 9 (Ai h6 tI))))))
theorem qDh {c:Ck} (h1:qqY c) (h2:qr2 c) (h3:qvQ c) (h4:qwP c) (h5:qye c) (h6:((c.wh.length:Int) !=200)=false) (h7:((c.ev.length:Int) !=(c.d.length:Int))=true) :
 Fn 31 8 [qam c] (qas c) (.pv (iV (8))) 0 []:=
 Fz [] [Rf h1,.k,Cf h2 [0],.k,Cf h3 [1],.k,Cf h4 [1,0],.k,Cf h5 [2,3,4,5,6],.k,.t false,.t true]
  tI (Ai h1 (Co h2 [0] 9 (Co h3 [1] 9 (Co h4 [1,0] 9 (Co h5 [2,3,4,5,6] 9 (Ai h6 (Ai h7 tI)))))))
abbrev qsb (j:Nat) (k:Nat):TmL:=[(1,.pp 8 0),(3,.pv (iV (j:Int))),(4,.pv (iV (k:Int)))]
theorem qqU {c:Ck} {p:Pt} {j k:Nat} {n z:Int} (hk:c.l[k]?=some p) (hin:0≤(k:Int)∧(k:Int)<(c.l.length:Int)) (hlt:decide ((k:Int)<(c.l.length:Int))=true) (hw:Fn 39 1 [qaE 0 c.s,.pv (qaf p.a p.b),.pv (qaa c.tn c.td)] [(0,0,qaj c.s)] (.pv (.tuple #[qaa n z,.bool false])) 0 []) (hs:iV (IntKind.i64.wrap ((k:Int)+1))=iV (((k+1:Nat):Int))) {e:Exit} {tm2:TmL} {hp2:HpL}
 (r:Rl 8 8 31 0 133 9 ([(1,.pp 8 0),(3,.pv (iV (j:Int))),(4,.pv (iV ((k+1:Nat):Int)))]) (qcE 8 c) e tm2 hp2):Rl 8 8 31 0 133 9 (qsb j k) (qcE 8 c) e tm2 hp2:=
 RunsL.next [] 300 [.t true,.r (ptV p),Cf hw [0],.k,Re hs]
  (Ro (Ai hlt (Ai hin (Ai (qaN hk) (Co hw [0] 10 (Ai hs tI)))))) r
abbrev qwV (c:Ck) (n:Int) (p:Pt) (z:Int):Prop:=Fn 39 1 [qaE 0 c.s,.pv (qaf p.a p.b),.pv (qaa c.tn c.td)] [(0,0,qaj c.s)] (.pv (.tuple #[qaa n z,.bool true])) 0 []
theorem qsz {c:Ck} {p:Pt} {j k:Nat} {n z:Int} (hk:c.l[k]?=some p) (hin:0≤(k:Int)∧(k:Int)<(c.l.length:Int)) (hlt:decide ((k:Int)<(c.l.length:Int))=true) (hw:qwV c n p z) (hj:decide ((j:Int)≥(c.d.length:Int))=true):Rl 8 8 31 0 133 9 (qsb j k) (qcE 8 c) (.ret) ([(2,.pv (iV 8))]) ([]):=
 RunsL.stop [] 300 [.t true,.r (ptV p),Cf hw [0],.k,.t true] (fun h=>by cases h)
  (Ro (Ai hlt (Ai hin (Ai (qaN hk) (Co hw [0] 10 (Ai hj tI))))))
theorem qsL {c:Ck} {p q:Pt} {j k:Nat} {n z:Int} (hk:c.l[k]?=some p) (hin:0≤(k:Int)∧(k:Int)<(c.l.length:Int)) (hlt:decide ((k:Int)<(c.l.length:Int))=true) (hq:c.d[j]?=some q) (hiq:0≤(j:Int)∧(j:Int)<(c.d.length:Int)) (hw:qwV c n p z) (hj:decide ((j:Int)≥(c.d.length:Int))=false) (hne:(q.id !=p.id)=true):Rl 8 8 31 0 133 9 (qsb j k) (qcE 8 c) (.ret) ([(2,.pv (iV 8))]) ([]):=
 RunsL.stop [] 300 [.t true,.r (ptV p),Cf hw [0],.k,.t false,.r (iV q.id),.t true] (fun h=>by cases h)
  (Ro (Ai hlt (Ai hin (Ai (qaN hk) (Co hw [0] 10 (Ai hj (Ai hiq (Ai (qn5 hq) (Ai hne tI)))))))))
theorem qpd {c:Ck} {p q:Pt} {j k:Nat} {n z e:Int} {y:Ev} (hk:c.l[k]?=some p) (hin:0≤(k:Int)∧(k:Int)<(c.l.length:Int)) (hlt:decide ((k:Int)<(c.l.length:Int))=true) (hq:c.d[j]?=some q) (hiq:0≤(j:Int)∧(j:Int)<(c.d.length:Int)) (hw:qwV c n p z) (hj:decide ((j:Int)≥(c.d.length:Int))=false) (hne:(q.id !=p.id)=false) (hf:Fn 78 5 [agA c.u c.b c.fr c.ev c.wh,.pv (qaL q.a q.b)] (qBb c) (.pv (.tuple #[qab y,iV (e)])) 0 []) (he:(e !=0)=true):Rl 8 8 31 0 133 9 (qsb j k) (qcE 8 c) (.ret) ([(2,.pv (iV 8))]) ([]):=
 RunsL.stop [] 300 [.t true,.r (ptV p),Cf hw [0],.k,.t false,.r (iV q.id),.t false,.r (qaL q.a q.b),Cf hf [2,3,4,5,6],.t true] (fun h=>by cases h)
  (Ro (Ai hlt (Ai hin (Ai (qaN hk) (Co hw [0] 10 (Ai hj (Ai hiq (Ai (qn5 hq) (Ai hne (Ai hiq (Ai (qdv hq) (Co hf [2,3,4,5,6] 11 (Ai he tI)))))))))))))
abbrev qvL (c:Ck) (q:Pt) (y:Ev):Prop:=Fn 78 5 [agA c.u c.b c.fr c.ev c.wh,.pv (qaL q.a q.b)] (qBb c) (.pv (.tuple #[qab y,iV (0)])) 0 []
theorem qoc {c:Ck} {p q:Pt} {j k:Nat} {n z:Int} {y:Ev} (hk:c.l[k]?=some p) (hin:0≤(k:Int)∧(k:Int)<(c.l.length:Int)) (hlt:decide ((k:Int)<(c.l.length:Int))=true) (hq:c.d[j]?=some q) (hiq:0≤(j:Int)∧(j:Int)<(c.d.length:Int)) (hw:qwV c n p z) (hj:decide ((j:Int)≥(c.d.length:Int))=false) (hne:(q.id !=p.id)=false) (hf:qvL c q y) (hk2:(y.k !=p.id)=true):Rl 8 8 31 0 133 9 (qsb j k) (qcE 8 c) (.ret) ([(2,.pv (iV 8))]) ([]):=
 RunsL.stop [] 300 [.t true,.r (ptV p),Cf hw [0],.k,.t false,.r (iV q.id),.t false,.r (qaL q.a q.b),Cf hf [2,3,4,5,6],.k,.t true] (fun h=>by cases h)
  (Ro (Ai hlt (Ai hin (Ai (qaN hk) (Co hw [0] 10 (Ai hj (Ai hiq (Ai (qn5 hq) (Ai hne (Ai hiq (Ai (qdv hq) (Co hf [2,3,4,5,6] 11 (Ai hk2 tI)))))))))))))
theorem qo4 {c:Ck} {p q:Pt} {j k:Nat} {n z:Int} {y:Ev} (hk:c.l[k]?=some p) (hin:0≤(k:Int)∧(k:Int)<(c.l.length:Int)) (hlt:decide ((k:Int)<(c.l.length:Int))=true) (hq:c.d[j]?=some q) (hiq:0≤(j:Int)∧(j:Int)<(c.d.length:Int)) (hw:qwV c n p z) (hj:decide ((j:Int)≥(c.d.length:Int))=false) (hne:(q.id !=p.id)=false) (hf:qvL c q y) (hk2:(y.k !=p.id)=false) (ht2:(!(y.n==n&&(y.d==z&&true)))=true):Rl 8 8 31 0 133 9 (qsb j k) (qcE 8 c) (.ret) ([(2,.pv (iV 8))]) ([]):=
 RunsL.stop [] 300 [.t true,.r (ptV p),Cf hw [0],.k,.t false,.r (iV q.id),.t false,.r (qaL q.a q.b),Cf hf [2,3,4,5,6],.k,.t false,.t true] (fun h=>by cases h)
  (Ro (Ai hlt (Ai hin (Ai (qaN hk) (Co hw [0] 10 (Ai hj (Ai hiq (Ai (qn5 hq) (Ai hne (Ai hiq (Ai (qdv hq) (Co hf [2,3,4,5,6] 11 (Ai hk2 (Ai ht2 tI))))))))))))))
theorem qo0 {c:Ck} {p q:Pt} {j k:Nat} {n z:Int} {y:Ev} (hk:c.l[k]?=some p) (hin:0≤(k:Int)∧(k:Int)<(c.l.length:Int)) (hlt:decide ((k:Int)<(c.l.length:Int))=true) (hq:c.d[j]?=some q) (hiq:0≤(j:Int)∧(j:Int)<(c.d.length:Int)) (hw:qwV c n p z) (hj:decide ((j:Int)≥(c.d.length:Int))=false) (hne:(q.id !=p.id)=false) (hf:qvL c q y) (hk2:(y.k !=p.id)=false) (ht2:(!(y.n==n&&(y.d==z&&true)))=false) (hs2:iV (IntKind.i64.wrap ((j:Int)+1))=iV (((j+1:Nat):Int))) (hs:iV (IntKind.i64.wrap ((k:Int)+1))=iV (((k+1:Nat):Int))) {e:Exit} {tm2:TmL} {hp2:HpL}
 (r:Rl 8 8 31 0 133 9 ([(1,.pp 8 0),(3,.pv (iV ((j+1:Nat):Int))),(4,.pv (iV ((k+1:Nat):Int)))]) (qcE 8 c) e tm2 hp2):Rl 8 8 31 0 133 9 (qsb j k) (qcE 8 c) e tm2 hp2:=
 RunsL.next [] 300 [.t true,.r (ptV p),Cf hw [0],.k,.t false,.r (iV q.id),.t false,.r (qaL q.a q.b),Cf hf [2,3,4,5,6],.k,.t false,.t false,Re hs2,Re hs]
  (Ro (Ai hlt (Ai hin (Ai (qaN hk) (Co hw [0] 10 (Ai hj (Ai hiq (Ai (qn5 hq) (Ai hne (Ai hiq (Ai (qdv hq) (Co hf [2,3,4,5,6] 11 (Ai hk2 (Ai ht2 (Ai hs2 (Ai hs tI)))))))))))))))) r
theorem qvU {c:Ck} {j k:Nat} (hge:decide ((k:Int)<(c.l.length:Int))=false):Rl 8 8 31 0 133 9 (qsb j k) (qcE 8 c) (.exit 0) ([(1,.pp 8 0),(3,.pv (iV (j:Int)))]) (qcE 8 c):=
 RunsL.stop [] 300 [.t false] (fun h=>by cases h)
  (Ro (Ai hge tI))
theorem qur {c:Ck} (h1:qqY c) (h2:qr2 c) (h3:qvQ c) (h4:qwP c) (h5:qye c) (h6:((c.wh.length:Int) !=200)=false) (h7:((c.ev.length:Int) !=(c.d.length:Int))=false) (r0:Rl 8 8 31 0 133 9 ([(1,.pp 8 0),(3,.pv (iV ((0:Nat):Int))),(4,.pv (iV ((0:Nat):Int)))]) (qcE 8 c) (.ret) ([(2,.pv (iV 8))]) ([])) :
 Fn 31 8 [qam c] (qas c) (.pv (iV (8))) 0 []:=
 Fz [] [Rf h1,.k,Cf h2 [0],.k,Cf h3 [1],.k,Cf h4 [1,0],.k,Cf h5 [2,3,4,5,6],.k,.t false,.t false,Lf r0]
  tI (Ai h1 (Co h2 [0] 9 (Co h3 [1] 9 (Co h4 [1,0] 9 (Co h5 [2,3,4,5,6] 9 (Ai h6 (Ai h7 (Lo r0 [] tI))))))))
abbrev qEK (c:Ck) (j:Nat):Prop:=Rl 8 8 31 0 133 9 ([(1,.pp 8 0),(3,.pv (iV ((0:Nat):Int))),(4,.pv (iV ((0:Nat):Int)))]) (qcE 8 c) (.exit 0) ([(1,.pp 8 0),(3,.pv (iV (j:Int)))]) (qcE 8 c)
theorem qqO {c:Ck} {j:Nat} (h1:qqY c) (h2:qr2 c) (h3:qvQ c) (h4:qwP c) (h5:qye c) (h6:((c.wh.length:Int) !=200)=false) (h7:((c.ev.length:Int) !=(c.d.length:Int))=false) (r0:qEK c j) (hd:((j:Int) !=(c.d.length:Int))=true) :
 Fn 31 8 [qam c] (qas c) (.pv (iV (8))) 0 []:=
 Fz [] [Rf h1,.k,Cf h2 [0],.k,Cf h3 [1],.k,Cf h4 [1,0],.k,Cf h5 [2,3,4,5,6],.k,.t false,.t false,Lf r0,.t true]
  tI (Ai h1 (Co h2 [0] 9 (Co h3 [1] 9 (Co h4 [1,0] 9 (Co h5 [2,3,4,5,6] 9 (Ai h6 (Ai h7 (Lo r0 [] (Ai hd tI)))))))))
theorem qzX {c:Ck} {j:Nat} (h1:qqY c) (h2:qr2 c) (h3:qvQ c) (h4:qwP c) (h5:qye c) (h6:((c.wh.length:Int) !=200)=false) (h7:((c.ev.length:Int) !=(c.d.length:Int))=false) (r0:qEK c j) (hd:((j:Int) !=(c.d.length:Int))=false) :
 Fn 31 8 [qam c] (qas c) (.pv (iV (0))) 0 []:=
 Fz [] [Rf h1,.k,Cf h2 [0],.k,Cf h3 [1],.k,Cf h4 [1,0],.k,Cf h5 [2,3,4,5,6],.k,.t false,.t false,Lf r0,.t false]
  tI (Ai h1 (Co h2 [0] 9 (Co h3 [1] 9 (Co h4 [1,0] 9 (Co h5 [2,3,4,5,6] 9 (Ai h6 (Ai h7 (Lo r0 [] (Ai hd tI)))))))))
end Go.Proofs.YtkjaanhddkkodaaGreat

namespace Go.Proofs.YtkjaanhddkkodaaGreat
set_option maxRecDepth 100000
open Go.RowKit
theorem qCY (c:Ck):SV.ag [.pv (iV c.tn),.pv (iV c.td),.ls 10 c.s.length,.pv (iV c.x),.ls 11 c.l.length,.ls 12 c.u.length,.ls 13 c.b.length,.ls 14 c.fr.length,.ls 15 c.ev.length,.ls 16 c.wh.length,.ls 18 (0+c.d.length)]=(ql0 c).ren (qaK [(8,10),(9,11),(10,12),(11,13),(12,14),(13,15),(14,16),(15,18)]):=by rw[Nat.zero_add];rfl
theorem qnv (p:Pt):(!(p.id==p.id&&((p.a==p.a&&(p.b==p.b&&true))&&true)))=false:=by simp
theorem qmg (a b:Int):(!(a==a&&(b==b&&true)))=false:=by simp
theorem qpI {c:Ck} (hf:Fn 32 1 [qaE 0 c.s] [(0,0,qaj c.s)] (.ag [.ls 1 c.s.length]) 1 [(1,0,qaj c.s)]) (hs:Fn 53 1 [qaP 0 c.x c.l] [(0,0,qal c.l)] (.ag [.pv (iV c.x),.ls 1 c.l.length]) 1 [(1,0,qal c.l)]) (ha:Fn 54 5 [agA c.u c.b c.fr c.ev c.wh] [(0,0,zrI c.u),(1,0,zrB c.b),(2,0,zrI c.fr),(3,0,qao c.ev),(4,0,zrI c.wh)] (.ag [.ls 5 c.u.length,.ls 6 c.b.length,.ls 7 c.fr.length,.ls 8 c.ev.length,.ls 9 c.wh.length]) 5 [(5,0,zrI c.u),(6,0,zrB c.b),(7,0,zrI c.fr),(8,0,qao c.ev),(9,0,zrI c.wh)]) (hn:0+c.d.length≤1000000) :
 Fn 14 8 [qam c] (qas c) (ql0 c) 8 (qc9 c):=
 Fx [(8,10),(9,11),(10,12),(11,13),(12,14),(13,15),(14,16),(15,18)] [.md,Cf hf [0],Cf hs [1],Cf ha [2,3,4,5,6]]
  (qCY c) (Ai (Er (qaj c.s)) (Ai (Er (qal c.l)) (Ai (Er (zrI c.u)) (Ai (Er (zrB c.b)) (Ai (Er (zrI c.fr)) (Ai (Er (qao c.ev)) (Ai (Er (zrI c.wh)) (Ai (qi2 54 3 c.d.length (qbd c.d)) tI)))))))) (Co hf [0] 10 (Co hs [1] 11 (Co ha [2,3,4,5,6] 12 (Ai hn tI))))
abbrev qBE (c:Ck):HpL:=[(16,10,.ls 7 c.d.length),(17,10,.ls 15 c.d.length),(7,0,qaJ c.d),(15,0,qaJ c.d)]
theorem qoO {c:Ck} {p:Pt} {k:Nat} (hk:c.d[k]?=some p) (hin:0≤(k:Int)∧(k:Int)<(c.d.length:Int)) (hlt:decide ((k:Int)<(c.d.length:Int))=true) (hs:iV (IntKind.i64.wrap ((k:Int)+1))=iV (((k+1:Nat):Int))) {e:Exit} {tm2:TmL} {hp2:HpL}
 (r:Rl 16 16 23 0 62 18 ([(2,.pp 16 0),(3,.pp 17 0),(5,.pv (iV ((k+1:Nat):Int)))]) (qBE c) e tm2 hp2):Rl 16 16 23 0 62 18 ([(2,.pp 16 0),(3,.pp 17 0),(5,.pv (iV (k:Int)))]) (qBE c) e tm2 hp2:=
 RunsL.next [] 300 [.t true,.r (ptV p),.r (ptV p),.t false,Re hs]
  (Ro (Ai hlt (Ai hin (Ai (qaN hk) (Ai hin (Ai (qaN hk) (Ai (qnv p) (Ai hs tI)))))))) r
theorem qvC {c:Ck} {k:Nat} (hge:decide ((k:Int)<(c.d.length:Int))=false):Rl 16 16 23 0 62 18 ([(2,.pp 16 0),(3,.pp 17 0),(5,.pv (iV (k:Int)))]) (qBE c) (.exit 0) ([]) ([]):=
 RunsL.stop [] 300 [.t false] (fun h=>by cases h)
  (Ro (Ai hge tI))
theorem qtn {c:Ck} (hf:Fn 36 2 [qaE 0 c.s,qaE 1 c.s] [(0,0,qaj c.s),(1,0,qaj c.s)] (.pv (.bool true)) 0 []) (hs:Fn 43 2 [qaP 0 c.x c.l,qaP 1 c.x c.l] [(0,0,qal c.l),(1,0,qal c.l)] (.pv (.bool true)) 0 []) (ha:Fn 67 10 [agA c.u c.b c.fr c.ev c.wh,.ag [.ls 5 c.u.length,.ls 6 c.b.length,.ls 7 c.fr.length,.ls 8 c.ev.length,.ls 9 c.wh.length]] [(0,0,zrI c.u),(1,0,zrB c.b),(2,0,zrI c.fr),(3,0,qao c.ev),(4,0,zrI c.wh),(5,0,zrI c.u),(6,0,zrB c.b),(7,0,zrI c.fr),(8,0,qao c.ev),(9,0,zrI c.wh)] (.pv (.bool true)) 0 []) (r0:Rl 16 16 23 0 62 18 ([(2,.pp 16 0),(3,.pp 17 0),(5,.pv (iV ((0:Nat):Int)))]) (qBE c) (.exit 0) ([]) ([])) :
 Fn 23 16 [qam c,ql0 c] [(0,0,qaj c.s),(1,0,qal c.l),(2,0,zrI c.u),(3,0,zrB c.b),(4,0,zrI c.fr),(5,0,qao c.ev),(6,0,zrI c.wh),(7,0,qaJ c.d),(8,0,qaj c.s),(9,0,qal c.l),(10,0,zrI c.u),(11,0,zrB c.b),(12,0,zrI c.fr),(13,0,qao c.ev),(14,0,zrI c.wh),(15,0,qaJ c.d)] (.pv (.bool true)) 0 []:=
 Fz [] [.t false,Cf hf [0,8],.k,Cf hs [1,9],.k,Cf ha [2,3,4,5,6,10,11,12,13,14],.k,.t false,Lf r0]
  tI (Ai (qmg c.tn c.td) (Co hf [0,8] 18 (Co hs [1,9] 18 (Co ha [2,3,4,5,6,10,11,12,13,14] 18 (Ai (qvk (c.d.length:Int)) (Lo r0 [] tI))))))
end Go.Proofs.YtkjaanhddkkodaaGreat

namespace Go.Proofs.YtkjaanhddkkodaaGreat
set_option maxRecDepth 100000
open Go.RowKit
theorem qj9 (l:List Pt) (k:Nat) (h:k+1≤l.length):some (SV.row 54 3 (0+k+(l.length-(k+1))) ([]++((qbd l).drop (0*3)).take (k*3)++((qbd l).drop ((0+(k+1))*3)).take ((l.length-(k+1))*3)))=some (qaJ (l.take k++l.drop (k+1))):=by
 have h1:=qji l k
 have h2:=qjb l (k+1)
 rw[Nat.zero_add] at h1
 rw[h1,h2,qaJ,qgw l k h,qbU,List.nil_append]
end Go.Proofs.YtkjaanhddkkodaaGreat

namespace Go.Proofs.YtkjaanhddkkodaaGreat
set_option maxRecDepth 100000
open Go.RowKit
theorem qAw {s:List Pt} {n d:Int} {c:Pt} (hn:I64 n) (hd:I64 d) (ht:okB n d=true) (hs:Val s) (hc:qb8 c.a c.b=true) (ha:∃ q∈s,q.id=c.a) (hb:∃ q∈s,q.id=c.b) :
 Fn 39 1 [qaE 0 s,.pv (qaf c.a c.b),.pv (qaa n d)] [(0,0,qaj s)] (.pv (.tuple #[qaa (qae s n d c).1 (qae s n d c).2.1,.bool (qae s n d c).2.2])) 0 []:=by
 have F:=(qbs hn hd ht hs hc ha hb).f
 obtain⟨q,hq,ea⟩:=ha
 obtain⟨p,hp,eb⟩:=hb
 have e1:qcJ s c.a=q:=by rw[← ea];exact qbV hs hq
 have e2:qcJ s c.b=p:=by rw[← eb];exact qbV hs hp
 rw[e1,e2] at F
 obtain⟨j,hj,rfl⟩:=List.getElem_of_mem hq
 obtain⟨i,hi,rfl⟩:=List.getElem_of_mem hp
 exact wn9 (hg:=List.getElem?_eq_getElem hi) (hq:=List.getElem?_eq_getElem hj) (hi:=qap hi) (hj:=qap hj) (ha:=qn4 hs (List.getElem?_eq_getElem hi) eb) (hb:=qn4 hs (List.getElem?_eq_getElem hj) ea) (hl:=F)
structure DueOk (c:Ck) (p q:Pt) (y:Ev):Prop where
 id:q.id=p.id
 lv:Live c.u c.b q.a q.b
 at_:∃ j:Nat,c.wh[q.a.toNat]?=some (j:Int)∧c.ev[j]?=some y
 k:y.k=p.id
 n:y.n=(qae c.s c.tn c.td p).1
 d:y.d=(qae c.s c.tn c.td p).2.1
def DueF (c:Ck):List Pt→List Pt→Prop
 | [],d=>d=[]
 | p::l,d=>if (qae c.s c.tn c.td p).2.2=true then ∃ q r,d=q::r∧(∃ y,DueOk c p q y)∧DueF c l r else DueF c l d
structure V9 (c:Ck):Prop where
 t:okB c.tn c.td=true
 s:Val c.s
 v:V8 c.x c.l
 k:qcQ c.l c.s
 a:VA c.u c.b c.fr c.ev c.wh
 w:c.wh.length=200
 e:c.ev.length=c.d.length
 f:DueF c c.l c.d
structure S9 (c:Ck):Prop where
 tn:I64 c.tn
 td:I64 c.td
 l:c.l.length≤210
 d:c.d.length≤210
 a:ASm c.u c.b c.fr c.ev c.wh
noncomputable def qnz (c:Ck):Int:=open Classical in if V9 c then 0 else 8
theorem qdK {α:Type} {l:List α} {k:Nat} {p:α} (h:l[k]?=some p):l.drop k=p::l.drop (k+1):=by
 obtain⟨h1,h2⟩:=List.getElem?_eq_some_iff.1 h
 rw[← h2]
 exact List.drop_eq_getElem_cons h1
abbrev qyj (j k:Nat):List (Nat×SV):=[(1,.pp 8 0),(3,.pv (iV (j:Int))),(4,.pv (iV (k:Int)))]
abbrev qEO (j:Nat):List (Nat×SV):=[(1,.pp 8 0),(3,.pv (iV (j:Int)))]
theorem qpa {c:Ck} (S:S9 c) (ht:okB c.tn c.td=true) (hs:Val c.s) (hv:V8 c.x c.l) (hk:qcQ c.l c.s) (ha:VA c.u c.b c.fr c.ev c.wh):∀ (n k j:Nat),k+n=c.l.length→j≤c.d.length→
 (DueF c (c.l.drop k) (c.d.drop j)∧Rl 8 8 31 0 133 9 (qyj j k) (qcE 8 c) (.exit 0) (qEO c.d.length) (qcE 8 c))∨
 (¬ DueF c (c.l.drop k) (c.d.drop j)∧Rl 8 8 31 0 133 9 (qyj j k) (qcE 8 c) .ret [(2,.pv (iV 8))] [])∨
 (¬ DueF c (c.l.drop k) (c.d.drop j)∧∃ m:Nat,m≠c.d.length∧Rl 8 8 31 0 133 9 (qyj j k) (qcE 8 c) (.exit 0) (qEO m) (qcE 8 c)):=by
 intro n
 induction n with
 | zero=>
  intro k j hkn hj
  have r:=qvU (c:=c) (k:=k) (j:=j) (df (by omega))
  rw[List.drop_eq_nil_of_le (show c.l.length≤k by omega)]
  by_cases e:j=c.d.length
  ·subst e
   exact Or.inl ⟨List.drop_length,r⟩
  ·refine Or.inr (Or.inr ⟨fun h=>?_,j,e,r⟩)
   have h':c.d.drop j=[]:=h
   have:=List.drop_eq_nil_iff.1 h'
   omega
 | succ n ih=>
  intro k j hkn hj
  have hlk:k<c.l.length:=by omega
  obtain⟨p,hp⟩:=qai hlk
  have hmem:=List.mem_of_getElem? hp
  have W:=qAw S.tn S.td ht hs (hv.ok p hmem) (hk p hmem).1 (hk p hmem).2
  have hl:=S.l
  have hd':=S.d
  have hdr:=qdK hp
  have lk:decide ((k:Int)<(c.l.length:Int))=true:=dt (by omega)
  rw[hdr]
  cases hf:(qae c.s c.tn c.td p).2.2
  ·rw[hf] at W
   have e:DueF c (p::c.l.drop (k+1)) (c.d.drop j)=DueF c (c.l.drop (k+1)) (c.d.drop j):=by
    show (if (qae c.s c.tn c.td p).2.2=true then _ else _)=_
    rw[if_neg (by rw[hf];decide)]
   rw[e]
   have st:=fun {ex:Exit} {tm2:List (Nat×SV)} {hp2:List (Nat×Nat×SV)} (r:Rl 8 8 31 0 133 9 (qyj j (k+1)) (qcE 8 c) ex tm2 hp2)=>qqU (c:=c) (j:=j) (hk:=hp) (hin:=qap hlk) (hlt:=lk) (hw:=W) (hs:=qay (by omega)) (r:=r)
   rcases ih (k+1) j (by omega) hj with ⟨h1,r⟩ | ⟨h1,r⟩ | ⟨h1,m,h2,r⟩
   ·exact Or.inl ⟨h1,st r⟩
   ·exact Or.inr (Or.inl ⟨h1,st r⟩)
   ·exact Or.inr (Or.inr ⟨h1,m,h2,st r⟩)
  ·rw[hf] at W
   have e:DueF c (p::c.l.drop (k+1)) (c.d.drop j)=(∃ q r,c.d.drop j=q::r∧(∃ y,DueOk c p q y)∧DueF c (c.l.drop (k+1)) r):=by
    show (if (qae c.s c.tn c.td p).2.2=true then _ else _)=_
    rw[if_pos hf]
   rw[e]
   by_cases hjd:j<c.d.length
   ·obtain⟨q,hq⟩:=qai hjd
    have hdq:=qdK hq
    rw[hdq]
    have nj:decide ((j:Int)≥(c.d.length:Int))=false:=df (by omega)
    have bad:(¬ ∃ y,DueOk c p q y)→¬ ∃ q' r,q::c.d.drop (j+1)=q'::r∧(∃ y,DueOk c p q' y)∧DueF c (c.l.drop (k+1)) r:=by
     rintro h ⟨q',r,e1,e2,_⟩
     cases e1
     exact h e2
    by_cases hid:q.id=p.id
    ·have nid:(q.id !=p.id)=false:=by simp[hid]
     by_cases hlv:Live c.u c.b q.a q.b
     ·obtain⟨w,y,hw1,hy,_,_⟩:=VA.find ha hlv
      have F:=qlu ha hlv hw1 hy
      have uq:∀ y',DueOk c p q y'→y'=y:=by
       rintro y' ⟨_,_,⟨w',h1,h2⟩,_,_,_⟩
       rw[hw1] at h1
       have e1:(w:Int)=(w':Int):=Option.some.inj h1
       have e2:w=w':=by omega
       subst e2
       rw[hy] at h2
       exact (Option.some.inj h2).symm
      by_cases hyk:y.k=p.id
      ·have nk:(y.k !=p.id)=false:=by simp[hyk]
       by_cases ht2:y.n=(qae c.s c.tn c.td p).1∧y.d=(qae c.s c.tn c.td p).2.1
       ·have nt:(!(y.n==(qae c.s c.tn c.td p).1&&(y.d==(qae c.s c.tn c.td p).2.1&&true)))=false:=by simp[ht2.1,ht2.2]
        have ok:∃ y,DueOk c p q y:=⟨y,hid,hlv,⟨w,hw1,hy⟩,hyk,ht2.1,ht2.2⟩
        have e2:(∃ q' r,q::c.d.drop (j+1)=q'::r∧(∃ y,DueOk c p q' y)∧DueF c (c.l.drop (k+1)) r)↔DueF c (c.l.drop (k+1)) (c.d.drop (j+1)):=by
         constructor
         ·rintro⟨q',r,e1,_,e3⟩
          cases e1
          exact e3
         ·exact fun h=>⟨q,_,rfl,ok,h⟩
        rw[e2]
        have st:=fun {ex:Exit} {tm2:List (Nat×SV)} {hp2:List (Nat×Nat×SV)} (r:Rl 8 8 31 0 133 9 (qyj (j+1) (k+1)) (qcE 8 c) ex tm2 hp2)=>qo0 (c:=c) (j:=j) (hk:=hp) (hin:=qap hlk) (hlt:=lk) (hw:=W) (hj:=nj) (hq:=hq) (hiq:=qap hjd) (hne:=nid) (hf:=F) (hk2:=nk) (ht2:=nt) (hs2:=qay (by omega)) (hs:=qay (by omega)) (r:=r)
        rcases ih (k+1) (j+1) (by omega) (by omega) with ⟨h1,r⟩ | ⟨h1,r⟩ | ⟨h1,m,h2,r⟩
        ·exact Or.inl ⟨h1,st r⟩
        ·exact Or.inr (Or.inl ⟨h1,st r⟩)
        ·exact Or.inr (Or.inr ⟨h1,m,h2,st r⟩)
       ·have nt:(!(y.n==(qae c.s c.tn c.td p).1&&(y.d==(qae c.s c.tn c.td p).2.1&&true)))=true:=by
         rw[Bool.not_eq_true',Bool.and_true,Bool.and_eq_false_iff]
         by_cases h1:y.n=(qae c.s c.tn c.td p).1
         ·exact Or.inr (by simpa using fun h2=>ht2 ⟨h1,h2⟩)
         ·exact Or.inl (by simpa using h1)
        refine Or.inr (Or.inl ⟨bad ?_,qo4 (c:=c) (hk:=hp) (hin:=qap hlk) (hlt:=lk) (hw:=W) (hj:=nj) (hq:=hq) (hiq:=qap hjd) (hne:=nid) (hf:=F) (hk2:=nk) (ht2:=nt)⟩)
        rintro⟨y',h⟩
        have:=uq y' h
        subst this
        exact ht2 ⟨h.n,h.d⟩
      ·refine Or.inr (Or.inl ⟨bad ?_,qoc (c:=c) (hk:=hp) (hin:=qap hlk) (hlt:=lk) (hw:=W) (hj:=nj) (hq:=hq) (hiq:=qap hjd) (hne:=nid) (hf:=F) (hk2:=by simpa using hyk)⟩)
       rintro⟨y',h⟩
       have:=uq y' h
       subst this
       exact hyk h.k
     ·have F:=qk7 ha hlv
      refine Or.inr (Or.inl ⟨bad (fun ⟨y,h⟩=>hlv h.lv),qpd (c:=c) (y:=Ev.mk 0 0 0 0 0) (e:=6) (hk:=hp) (hin:=qap hlk) (hlt:=lk) (hw:=W) (hj:=nj) (hq:=hq) (hiq:=qap hjd) (hne:=nid) (hf:=F) (he:=by decide)⟩)
    ·exact Or.inr (Or.inl ⟨bad (fun ⟨y,h⟩=>hid h.id),qsL (c:=c) (hk:=hp) (hin:=qap hlk) (hlt:=lk) (hw:=W) (hj:=nj) (hq:=hq) (hiq:=qap hjd) (hne:=by simpa using hid)⟩)
   ·have e3:c.d.drop j=[]:=List.drop_eq_nil_of_le (by omega)
    rw[e3]
    refine Or.inr (Or.inl ⟨?_,qsz (c:=c) (hk:=hp) (hin:=qap hlk) (hlt:=lk) (hw:=W) (hj:=dt (by omega))⟩)
    rintro⟨q,r,e4,_⟩
    cases e4
theorem qpY {c:Ck} (S:S9 c):Fn 31 8 [qam c] (qas c) (.pv (iV (qnz c))) 0 []:=by
 have bad:(¬ V9 c)→qnz c=8:=fun h=>by unfold qnz;rw[if_neg h]
 have h2:=qku c.s
 have h3:=qnM c.x c.l
 by_cases ht:okB c.tn c.td=true
 ·have h1:=qhL S.tn S.td ht
  by_cases hs:Val c.s
  ·rw[qbZ.2 hs] at h2
   by_cases hv:V8 c.x c.l
   ·rw[qdp hv] at h3
    have h4:=qxC c.x S.l hs
    by_cases hk:qcQ c.l c.s
    ·rw[qd2.2 hk] at h4
     by_cases ha:VA c.u c.b c.fr c.ev c.wh
     ·have h5:=qd6 ha
      by_cases hw:c.wh.length=200
      ·by_cases he:c.ev.length=c.d.length
       ·have w:((c.wh.length:Int) !=200)=false:=by simp[hw]
        have d0:((c.ev.length:Int) !=(c.d.length:Int))=false:=by simp[he]
        rcases qpa S ht hs hv hk ha c.l.length 0 0 (Nat.zero_add _) (Nat.zero_le _) with ⟨hf,r⟩ | ⟨hf,r⟩ | ⟨hf,m,hm,r⟩
        ·have e0:qnz c=0:=by unfold qnz;rw[if_pos ⟨ht,hs,hv,hk,ha,hw,he,hf⟩]
         rw[e0]
         exact qzX (j:=c.d.length) (h1:=h1) (h2:=h2) (h3:=h3) (h4:=h4) (h5:=h5) (h6:=w) (h7:=d0) (r0:=r) (hd:=by simp)
        ·rw[bad fun v=>hf v.f]
         exact qur (h1:=h1) (h2:=h2) (h3:=h3) (h4:=h4) (h5:=h5) (h6:=w) (h7:=d0) (r0:=r)
        ·rw[bad fun v=>hf v.f]
         exact qqO (j:=m) (h1:=h1) (h2:=h2) (h3:=h3) (h4:=h4) (h5:=h5) (h6:=w) (h7:=d0) (r0:=r) (hd:=by simp;omega)
       ·rw[bad fun v=>he v.e]
        exact qDh (h1:=h1) (h2:=h2) (h3:=h3) (h4:=h4) (h5:=h5) (h6:=by simp[hw]) (h7:=by simp;omega)
      ·rw[bad fun v=>hw v.w]
       exact qDU (h1:=h1) (h2:=h2) (h3:=h3) (h4:=h4) (h5:=h5) (h6:=by simp;omega)
     ·rw[bad fun v=>ha v.a]
      exact qDn (h1:=h1) (h2:=h2) (h3:=h3) (h4:=h4) (h5:=qiJ S.a ha)
    ·rw[bad fun v=>hk v.k]
     rw[qhE hk] at h4
     exact qCD (h1:=h1) (h2:=h2) (h3:=h3) (h4:=h4)
   ·rw[bad fun v=>hv v.v]
    rw[qbA hv] at h3
    exact qB4 (h1:=h1) (h2:=h2) (h3:=h3)
  ·rw[bad fun v=>hs v.s]
   exact qB6 (h1:=h1) (h2:=h2) (hne:=by
    have:qez c.s≠0:=fun e=>hs (qbZ.1 e)
    simpa using this)
 ·rw[bad fun v=>ht v.t]
  exact qEg (h1:=qfS S.tn S.td ht)
end Go.Proofs.YtkjaanhddkkodaaGreat

namespace Go.Proofs.YtkjaanhddkkodaaGreat
set_option maxRecDepth 100000
open Go.RowKit
noncomputable abbrev qaX (c:Ck) (p:Pt):Bool:=(qae c.s c.tn c.td p).2.2
theorem DueF.ids {c:Ck}:∀ {l d:List Pt},DueF c l d→d.map Pt.id=(l.filter (qaX c)).map Pt.id
 | [],d,h=>by
  have e:d=[]:=h
  subst e;rfl
 | p::l,d,h=>by
  cases hf:qaX c p
  ·have h':DueF c l d:=by
    have:(if (qae c.s c.tn c.td p).2.2=true then _ else _):=h
    rwa [if_neg (by rw[show (qae c.s c.tn c.td p).2.2=false from hf];decide)] at this
   rw[List.filter_cons_of_neg (by rw[hf];decide)]
   exact DueF.ids h'
  ·have h':∃ q r,d=q::r∧(∃ y,DueOk c p q y)∧DueF c l r:=by
    have:(if (qae c.s c.tn c.td p).2.2=true then _ else _):=h
    rwa [if_pos hf] at this
   obtain⟨q,r,rfl,⟨y,hy⟩,hr⟩:=h'
   rw[List.filter_cons_of_pos hf,List.map_cons,List.map_cons,DueF.ids hr,hy.id]
theorem DueF.some {c:Ck}:∀ {l d:List Pt},DueF c l d→∀ q∈d,∃ p∈l,qaX c p=true∧∃ y,DueOk c p q y
 | [],d,h,q,hq=>by
  have e:d=[]:=h
  subst e;cases hq
 | p::l,d,h,q,hq=>by
  cases hf:qaX c p
  ·have h':DueF c l d:=by
    have:(if (qae c.s c.tn c.td p).2.2=true then _ else _):=h
    rwa [if_neg (by rw[show (qae c.s c.tn c.td p).2.2=false from hf];decide)] at this
   obtain⟨p',hp',h2⟩:=DueF.some h' q hq
   exact⟨p',List.mem_cons_of_mem _ hp',h2⟩
  ·have h':∃ q r,d=q::r∧(∃ y,DueOk c p q y)∧DueF c l r:=by
    have:(if (qae c.s c.tn c.td p).2.2=true then _ else _):=h
    rwa [if_pos hf] at this
   obtain⟨q',r,rfl,hy,hr⟩:=h'
   rcases List.mem_cons.1 hq with rfl | hq
   ·exact⟨p,List.mem_cons_self,hf,hy⟩
   ·obtain⟨p',hp',h2⟩:=DueF.some hr q hq
    exact⟨p',List.mem_cons_of_mem _ hp',h2⟩
theorem DueF.all {c:Ck} {l:List Pt}:∀ {d:List Pt},DueF c l d→∀ p∈l,qaX c p=true→∃ q∈d,∃ y,DueOk c p q y:=by
 induction l with
 | nil=>intro d _ p hp _;cases hp
 | cons p' l ih=>
  intro d h p hp hf
  cases hf':qaX c p'
  ·have h':DueF c l d:=by
    have:(if (qae c.s c.tn c.td p').2.2=true then _ else _):=h
    rwa [if_neg (by rw[show (qae c.s c.tn c.td p').2.2=false from hf'];decide)] at this
   rcases List.mem_cons.1 hp with e | hp
   ·rw[e,hf'] at hf;cases hf
   ·exact ih h' p hp hf
  ·have h':∃ q r,d=q::r∧(∃ y,DueOk c p' q y)∧DueF c l r:=by
    have:(if (qae c.s c.tn c.td p').2.2=true then _ else _):=h
    rwa [if_pos hf'] at this
   obtain⟨q,r,hd,hy,hr⟩:=h'
   rw[hd]
   rcases List.mem_cons.1 hp with e | hp
   ·rw[e];exact⟨q,List.mem_cons_self,hy⟩
   ·obtain⟨q',hq',h2⟩:=ih hr p hp hf
    exact⟨q',List.mem_cons_of_mem _ hq',h2⟩
theorem Up.nodup {l:List Pt} (h:Up l):(l.map Pt.id).Nodup:=by
 have hlt:∀ (i j:Nat) (p q:Pt),i<j→l[i]?=some p→l[j]?=some q→p.id<q.id:=fun i j p q hij hp hq=>h.mono hij hp hq
 rw[List.nodup_iff_pairwise_ne,List.pairwise_iff_getElem]
 intro i j hi hj hij
 rw[List.getElem_map,List.getElem_map]
 have hi':i<l.length:=by simpa using hi
 have hj':j<l.length:=by simpa using hj
 have:=hlt i j _ _ hij (List.getElem?_eq_getElem hi') (List.getElem?_eq_getElem hj')
 omega
theorem V9.due_nodup {c:Ck} (h:V9 c):(c.d.map Pt.id).Nodup:=by
 rw[h.f.ids]
 exact h.v.up.nodup.sublist (List.Sublist.map _ List.filter_sublist)
theorem V9.ev {c:Ck} (h:V9 c) {j:Nat} {y:Ev} (hy:c.ev[j]?=some y):∃ p∈c.l,qaX c p=true∧∃ q∈c.d,DueOk c p q y:=by
 let J:List Nat:=c.d.map fun q=>((c.wh[q.a.toNat]?).getD 0).toNat
 let g:Nat→Int:=fun j=>((c.ev[j]?).map Ev.k).getD 0
 have at_:∀ q∈c.d,∃ p∈c.l,qaX c p=true∧∃ y,DueOk c p q y∧c.ev[((c.wh[q.a.toNat]?).getD 0).toNat]?=some y:=by
  intro q hq
  obtain⟨p,hp,hf,y,hd⟩:=h.f.some q hq
  obtain⟨w,h1,h2⟩:=hd.at_
  refine⟨p,hp,hf,y,hd,?_⟩
  rw[h1]
  exact h2
 have e1:J.map g=c.d.map Pt.id:=by
  rw[List.map_map]
  apply List.map_congr_left
  intro q hq
  obtain⟨p,_,_,y,hd,h2⟩:=at_ q hq
  show ((c.ev[((c.wh[q.a.toNat]?).getD 0).toNat]?).map Ev.k).getD 0=q.id
  rw[h2]
  exact hd.k.trans hd.id.symm
 have nd:J.Nodup:=by
  have:=h.due_nodup
  rw[← e1] at this
  exact List.Pairwise.of_map g (fun a b hne e=>hne (congrArg g e)) this
 have lt:∀ x∈J,x<c.ev.length:=by
  intro x hx
  obtain⟨q,hq,rfl⟩:=List.mem_map.1 hx
  obtain⟨_,_,_,y,_,h2⟩:=at_ q hq
  exact qak h2
 have hj:j∈J:=qfD nd lt (by show (c.d.map _).length=_;rw[List.length_map,h.e]) (qak hy)
 obtain⟨q,hq,ej⟩:=List.mem_map.1 hj
 obtain⟨p,hp,hf,y',hd,h2⟩:=at_ q hq
 rw[ej,hy] at h2
 have e2:y=y':=Option.some.inj h2
 subst e2
 exact⟨p,hp,hf,q,hq,hd⟩
theorem V9.ev_id {c:Ck} (h:V9 c) {y:Ev} (hy:y∈c.ev):∃ p∈c.l,y.k=p.id:=by
 obtain⟨j,hj⟩:=List.getElem?_of_mem hy
 obtain⟨p,hp,_,q,_,hd⟩:=h.ev hj
 exact⟨p,hp,hd.k⟩
theorem V9.new {c:Ck} (h:V9 c):cnE c.ev c.x=0:=by
 have:=h.v.nx
 unfold cnE
 rw[if_pos (by omega),if_neg]
 rintro⟨m,hm,e⟩
 obtain⟨p,hp,e2⟩:=h.ev_id hm
 have:=h.v.hi p hp
 omega
end Go.Proofs.YtkjaanhddkkodaaGreat

namespace Go.Proofs.YtkjaanhddkkodaaGreat
set_option maxRecDepth 100000
open Go.RowKit
theorem qh1 {u fr wh:List Int} {b:List Bool} {ev:List Ev} (s:ASm u b fr ev wh):qdw u b fr=false:=by
 have h1:=s.lu
 have h2:=s.lb
 have h3:=s.lf
 unfold qdw
 rw[df (by omega),df (by omega),df (by omega)]
 rfl
theorem qzJ {c:Ck} (S:S9 c) (hs:c.s.length≤1000000):Fn 14 8 [qam c] (qas c) (ql0 c) 8 (qc9 c):=by
 have h1:=S.l
 have h2:=S.d
 have h3:=S.a.le
 have h4:=S.a.lw
 exact qpI (hf:=qqi hs) (hs:=qii c.x (by omega)) (ha:=qFg (h6:=qmb (qh1 S.a)) (ne:=by omega) (nw:=by omega)) (hn:=by omega)
theorem qxc {c:Ck} (S:S9 c) (hs:c.s.length≤1000000):Fn 23 16 [qam c,ql0 c] (qas c++qc9 c) (.pv (.bool true)) 0 []:=by
 have h1:=S.l
 have h2:=S.d
 have h3:=S.a.le
 have h4:=S.a.lw
 exact qtn (hf:=qwv hs) (hs:=qqf c.x (by omega)) (ha:=qoR (qh1 S.a) (by omega) (by omega))
  (r0:=RunsL.rounds (fun k=>[(2,.pp 16 0),(3,.pp 17 0),(5,.pv (iV (k:Int)))]) (fun _=>[(16,10,.ls 7 c.d.length),(17,10,.ls 15 c.d.length),(7,0,qaJ c.d),(15,0,qaJ c.d)]) c.d.length 0 (Nat.zero_add _)
   (fun k _ hk r=>by
    obtain⟨p,hp⟩:=qai hk
    exact qoO hp (qap hk) (dt (by omega)) (qay (by omega)) r)
   (qvC (df (by omega))))
noncomputable def qde (c:Ck) (tn td:Int):Int:=open Classical in if V9 c∧okB tn td=true then (if tn*c.td<c.tn*td then 44 else 0) else 8
theorem qcA {c:Ck} (h:V9 c):qnz c=0:=by unfold qnz;rw[if_pos h]
theorem qbR {c:Ck} (h:¬ V9 c):qnz c=8:=by unfold qnz;rw[if_neg h]
def qlZ (c:Ck) (tn td:Int):Bool:=match c.ev[0]? with
 | some y=>decide (y.n*td≤tn*y.d)
 | none=>false
abbrev qFE (c:Ck) (a b:Int):Ck:={ c with x:=c.x+1,l:=c.l++[⟨c.x,a,b⟩] }
abbrev qxh (c:Ck) (a b n d:Int) (u2:List Int) (b2:List Bool) (f2:List Int) (hi hw:Int):Ck:={ c with x:=c.x+1,l:=c.l++[⟨c.x,a,b⟩],u:=u2,b:=b2,fr:=f2,ev:=(qba c.ev c.wh ⟨n,d,c.x,hi,hw⟩).1,wh:=(qba c.ev c.wh ⟨n,d,c.x,hi,hw⟩).2,d:=c.d++[⟨c.x,hi,hw⟩] }
def qhS (c:Ck) (a b:Int) (o:Ck):Prop:=(qaX c ⟨c.x,a,b⟩=false∧o=qFE c a b)∨(qaX c ⟨c.x,a,b⟩=true∧∃ u2 b2 f2 hi hw,qbD c.u c.b c.fr=some (u2,b2,f2,hi,hw)∧o=qxh c a b (qae c.s c.tn c.td ⟨c.x,a,b⟩).1 (qae c.s c.tn c.td ⟨c.x,a,b⟩).2.1 u2 b2 f2 hi hw)
noncomputable def adE (c:Ck) (a b:Int):Int:=open Classical in if qfu c.l a b=true then 14 else if c.l.length=200∨c.x=1000000 then 18 else if qaX c ⟨c.x,a,b⟩=true∧qbD c.u c.b c.fr=none then 18 else 0
noncomputable def cyE (c:Ck) (a b:Int):Int:=open Classical in if V9 c∧qb8 a b=true then (if (∃ q∈c.s,q.id=a)∧(∃ q∈c.s,q.id=b) then adE c a b else 6) else 8
abbrev qsV (f:FuncId) (c:Ck) (a b e:Int):Prop:=Fn f 8 [qam c,.pv (qaf a b)] (qas c) (.pv (.tuple #[qa3,iV 0,iV e])) 0 []
abbrev qEA (f:FuncId) (c:Ck) (a b:Int) (o:Ck):Prop:=Fn f 8 [qam c,.pv (qaf a b)] (qas c) (.tu [qg6 o,.one (.pv (iV c.x)),.one (.pv (iV 0))]) 8 (qc9 o)
theorem qBY {c:Ck} {a b:Int} (h:adE c a b=0):∃ o,qhS c a b o:=by
 cases hf:qaX c ⟨c.x,a,b⟩
 ·exact⟨_,Or.inl ⟨hf,rfl⟩⟩
 ·cases ht:qbD c.u c.b c.fr with
  | none=>
   exfalso
   unfold adE at h
   rw[if_pos (show qaX c ⟨c.x,a,b⟩=true∧qbD c.u c.b c.fr=none from ⟨hf,ht⟩)] at h
   split at h
   ·cases h
   ·split at h<;>cases h
  | some z=>
   obtain⟨u2,b2,f2,hi,hw⟩:=z
   exact⟨_,Or.inr ⟨hf,u2,b2,f2,hi,hw,ht,rfl⟩⟩
end Go.Proofs.YtkjaanhddkkodaaGreat
