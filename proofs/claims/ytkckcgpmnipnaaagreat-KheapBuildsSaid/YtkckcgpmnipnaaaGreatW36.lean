/-
  Joined: Yb, Yc, Yd. Conditions: none.
-/
import Derived.Test.YtkckcgpmnipnaaaGreatW35
import Derived.Test.YtkckcgpmnipnaaaGreatW21
import Derived.Test.YtkckcgpmnipnaaaGreatW25
namespace Go.Proofs.YtkckcgpmnipnaaaGreat
set_option maxRecDepth 100000
open Go.RowKit
theorem qhV {x y:Ev} (h1:(x.n==y.n&&(x.d==y.d&&true))=true) (h2:decide (x.k<y.k)=true):Pure Tryz.prog 282 #[qae x,qae y] (.bool true):=
 qax (args:=[qae x,qae y]) 300 [.t true,.t true] (Ai rfl (Ai h1 (Ai h2 tI))) (by kernel_rfl)
theorem qhN {x y:Ev} {c:Int} (h1:(x.n==y.n&&(x.d==y.d&&true))=false) (hc:Pure Tryz.prog 190 #[qaa x.n x.d,qaa y.n y.d] (.tuple #[iV c,iV 0])) (h2:decide (c<0)=true):Pure Tryz.prog 282 #[qae x,qae y] (.bool true):=
 qax (args:=[qae x,qae y]) 300 [.t false,Rf hc,.t true] (Ai rfl (Ai h1 (Ai hc (Ai h2 tI)))) (by kernel_rfl)
theorem qgL {x y:Ev} (h1:(x.n==y.n&&(x.d==y.d&&true))=true) (h2:decide (x.k<y.k)=false):Pure Tryz.prog 282 #[qae x,qae y] (.bool false):=
 qax (args:=[qae x,qae y]) 300 [.t true,.t false] (Ai rfl (Ai h1 (Ai h2 tI))) (by kernel_rfl)
theorem qg1 {x y:Ev} {c:Int} (h1:(x.n==y.n&&(x.d==y.d&&true))=false) (hc:Pure Tryz.prog 190 #[qaa x.n x.d,qaa y.n y.d] (.tuple #[iV c,iV 0])) (h2:decide (c<0)=false):Pure Tryz.prog 282 #[qae x,qae y] (.bool false):=
 qax (args:=[qae x,qae y]) 300 [.t false,Rf hc,.t false] (Ai rfl (Ai h1 (Ai hc (Ai h2 tI)))) (by kernel_rfl)
theorem qi8 {z y r:Int} (h1:iV (IntKind.i64.wrap (z-1))=iV y) (nz:¬ (2:Int)=0) (h2:iV (IntKind.i64.wrap (Int.tdiv y 2))=iV r):Pure Tryz.prog 283 #[iV z] (iV r):=
 qax (args:=[iV z]) 300 [Re h1,Re h2] (Ai rfl (Ai h1 (Ai nz (Ai h2 tI)))) (by kernel_rfl)
theorem qBT {z:Int} (h1:decide (0≤z)=false):Pure Tryz.prog 280 #[iV z] (.bool false):=
 qax (args:=[iV z]) 300 [.t false] (Ai rfl (Ai h1 tI)) (by kernel_rfl)
theorem qAr {z:Int} (h1:decide (0≤z)=true) (h2:decide (z≤1000000)=false):Pure Tryz.prog 280 #[iV z] (.bool false):=
 qax (args:=[iV z]) 300 [.t true,.t false] (Ai rfl (Ai h1 (Ai h2 tI))) (by kernel_rfl)
theorem qBI {z:Int} (h1:decide (0≤z)=true) (h2:decide (z≤1000000)=true):Pure Tryz.prog 280 #[iV z] (.bool true):=
 qax (args:=[iV z]) 300 [.t true,.t true] (Ai rfl (Ai h1 (Ai h2 tI))) (by kernel_rfl)
theorem qo1 {ev:List Ev} {x y:Ev} {k j:Nat} (hk:ev[k]?=some x) (hin:0≤(k:Int)∧(k:Int)<(ev.length:Int)) (hj:ev[j]?=some y) (hij:0≤(j:Int)∧(j:Int)<(ev.length:Int)) (hlt:decide ((k:Int)<(ev.length:Int))=true) (hp:Pure Tryz.prog 283 #[iV (k:Int)] (iV (j:Int))) (hl:Pure Tryz.prog 282 #[qae x,qae y] (.bool false)) (hs:iV (IntKind.i64.wrap ((k:Int)+1))=iV (((k+1:Nat):Int))) {e:Exit} {tm2:TmL} {hp2:HpL}
 (r:Rl 1 1 227 0 20 1 ([(0,.ls 0 ev.length),(3,.pv (iV ((k+1:Nat):Int)))]) ([(0,0,qar ev)]) e tm2 hp2):Rl 1 1 227 0 20 1 ([(0,.ls 0 ev.length),(3,.pv (iV (k:Int)))]) ([(0,0,qar ev)]) e tm2 hp2:=
 RunsL.next [] 300 [.t true,.r (qae x),Rf hp,.r (qae y),Rf hl,Re hs]
  (Ro (Ai hlt (Ai hin (Ai (qcw hk) (Ai hp (Ai hij (Ai (qcw hj) (Ai hl (Ai hs tI))))))))) r
theorem qCe {ev:List Ev} {x y:Ev} {k j:Nat} (hk:ev[k]?=some x) (hin:0≤(k:Int)∧(k:Int)<(ev.length:Int)) (hj:ev[j]?=some y) (hij:0≤(j:Int)∧(j:Int)<(ev.length:Int)) (hlt:decide ((k:Int)<(ev.length:Int))=true) (hp:Pure Tryz.prog 283 #[iV (k:Int)] (iV (j:Int))) (hl:Pure Tryz.prog 282 #[qae x,qae y] (.bool true)):Rl 1 1 227 0 20 1 ([(0,.ls 0 ev.length),(3,.pv (iV (k:Int)))]) ([(0,0,qar ev)]) (.ret) ([(2,.pv (.bool false))]) ([]):=
 RunsL.stop [] 300 [.t true,.r (qae x),Rf hp,.r (qae y),Rf hl] (fun h=>by cases h)
  (Ro (Ai hlt (Ai hin (Ai (qcw hk) (Ai hp (Ai hij (Ai (qcw hj) (Ai hl tI))))))))
theorem quu {ev:List Ev} {k:Nat} (hge:decide ((k:Int)<(ev.length:Int))=false):Rl 1 1 227 0 20 1 ([(0,.ls 0 ev.length),(3,.pv (iV (k:Int)))]) ([(0,0,qar ev)]) (.exit 0) ([]) ([]):=
 RunsL.stop [] 300 [.t false] (fun h=>by cases h)
  (Ro (Ai hge tI))
theorem qEX {ev:List Ev} (r0:Rl 1 1 227 0 20 1 ([(0,.ls 0 ev.length),(3,.pv (iV ((1:Nat):Int)))]) ([(0,0,qar ev)]) (.ret) ([(2,.pv (.bool false))]) ([])) :
 Fn 227 1 [.ls 0 ev.length] [(0,0,qar ev)] (.pv (.bool false)) 0 []:=
 Fz [] [Lf r0]
  tI (Lo r0 [] tI)
theorem qBz {ev:List Ev} (r0:Rl 1 1 227 0 20 1 ([(0,.ls 0 ev.length),(3,.pv (iV ((1:Nat):Int)))]) ([(0,0,qar ev)]) (.exit 0) ([]) ([])) :
 Fn 227 1 [.ls 0 ev.length] [(0,0,qar ev)] (.pv (.bool true)) 0 []:=
 Fz [] [Lf r0]
  tI (Lo r0 [] tI)
abbrev qhe (b:List Bool) (ev:List Ev) (fr:List Int) (u:List Int) (wh:List Int):HpL:=[(0,0,zrI u),(1,0,zrB b),(2,0,zrI fr),(3,0,qar ev),(4,0,zrI wh)]
theorem qCq {u fr wh:List Int} {b:List Bool} {ev:List Ev} {z c:Int} {k:Nat} (hiw:0≤(k:Int)∧(k:Int)<(wh.length:Int)) (hw:wh[k]?=some z) (hiu:0≤(k:Int)∧(k:Int)<(u.length:Int)) (hu:u[k]?=some c) (h0:decide (0≤z)=false) :
 Fn 279 5 [agA u b fr ev wh,.pv (iV (k:Int))] (qhe b ev fr u wh) (.pv (.bool false)) 0 []:=
 Fz [] [.r (iV (z)),.r (iV (c)),.t false]
  tI (Ai hiw (Ai (qaQ hw) (Ai hiu (Ai (qaQ hu) (Ai h0 tI)))))
theorem qAy {u fr wh:List Int} {b:List Bool} {ev:List Ev} {z c:Int} {k:Nat} (hiw:0≤(k:Int)∧(k:Int)<(wh.length:Int)) (hw:wh[k]?=some z) (hiu:0≤(k:Int)∧(k:Int)<(u.length:Int)) (hu:u[k]?=some c) (h0:decide (0≤z)=true) (h1:decide (z<(ev.length:Int))=false) :
 Fn 279 5 [agA u b fr ev wh,.pv (iV (k:Int))] (qhe b ev fr u wh) (.pv (.bool false)) 0 []:=
 Fz [] [.r (iV (z)),.r (iV (c)),.t true,.t false]
  tI (Ai hiw (Ai (qaQ hw) (Ai hiu (Ai (qaQ hu) (Ai h0 (Ai h1 tI))))))
theorem qvi {u fr wh:List Int} {b:List Bool} {ev:List Ev} {x:Ev} {z c:Int} {k:Nat} (hiw:0≤(k:Int)∧(k:Int)<(wh.length:Int)) (hw:wh[k]?=some z) (hiu:0≤(k:Int)∧(k:Int)<(u.length:Int)) (hu:u[k]?=some c) (h0:decide (0≤z)=true) (h1:decide (z<(ev.length:Int))=true) (hz:0≤z∧z<(ev.length:Int)) (hx:ev[z.toNat]?=some x) (h2:(x.i==(k:Int)&&(x.w==c&&true))=true) :
 Fn 279 5 [agA u b fr ev wh,.pv (iV (k:Int))] (qhe b ev fr u wh) (.pv (.bool true)) 0 []:=
 Fz [] [.r (iV (z)),.r (iV (c)),.t true,.t true,.r (qbb x.i x.w),.t true]
  tI (Ai hiw (Ai (qaQ hw) (Ai hiu (Ai (qaQ hu) (Ai h0 (Ai h1 (Ai hz (Ai (qD3 hx) (Ai h2 tI)))))))))
theorem qsV {u fr wh:List Int} {b:List Bool} {ev:List Ev} {x:Ev} {z c:Int} {k:Nat} (hiw:0≤(k:Int)∧(k:Int)<(wh.length:Int)) (hw:wh[k]?=some z) (hiu:0≤(k:Int)∧(k:Int)<(u.length:Int)) (hu:u[k]?=some c) (h0:decide (0≤z)=true) (h1:decide (z<(ev.length:Int))=true) (hz:0≤z∧z<(ev.length:Int)) (hx:ev[z.toNat]?=some x) (h2:(x.i==(k:Int)&&(x.w==c&&true))=false) :
 Fn 279 5 [agA u b fr ev wh,.pv (iV (k:Int))] (qhe b ev fr u wh) (.pv (.bool false)) 0 []:=
 Fz [] [.r (iV (z)),.r (iV (c)),.t true,.t true,.r (qbb x.i x.w),.t false]
  tI (Ai hiw (Ai (qaQ hw) (Ai hiu (Ai (qaQ hu) (Ai h0 (Ai h1 (Ai hz (Ai (qD3 hx) (Ai h2 tI)))))))))
abbrev qlS (b:List Bool) (ev:List Ev) (fr:List Int) (u:List Int) (wh:List Int):HpL:=[(5,0,.ls 0 u.length),(5,1,.ls 1 b.length),(5,2,.ls 2 fr.length),(5,3,.ls 3 ev.length),(5,4,.ls 4 wh.length),(0,0,zrI u),(1,0,zrB b),(2,0,zrI fr),(3,0,qar ev),(4,0,zrI wh)]
abbrev qAz (b:List Bool) (j:Nat) (k:Nat):TmL:=[(1,.pp 5 0),(3,.pv (iV (j:Int))),(16,.ls 1 b.length),(17,.pv (iV (b.length:Int))),(18,.pv (iV (k:Int)))]
theorem qnK {u fr wh:List Int} {b:List Bool} {ev:List Ev} {z:Int} {k j:Nat} (hb:b[k]?=some false) (hib:0≤(k:Int)∧(k:Int)<(b.length:Int)) (hlt:decide ((k:Int)<(b.length:Int))=true) (hiw:0≤(k:Int)∧(k:Int)<(wh.length:Int)) (hw:wh[k]?=some z) (hz:(!(z==-1))=false) (hs:iV (IntKind.i64.wrap ((k:Int)+1))=iV (((k+1:Nat):Int))) {e:Exit} {tm2:TmL} {hp2:HpL}
 (r:Rl 5 5 225 0 51 6 ([(1,.pp 5 0),(3,.pv (iV (j:Int))),(16,.ls 1 b.length),(17,.pv (iV (b.length:Int))),(18,.pv (iV ((k+1:Nat):Int)))]) (qlS b ev fr u wh) e tm2 hp2):Rl 5 5 225 0 51 6 (qAz b j k) (qlS b ev fr u wh) e tm2 hp2:=
 RunsL.next [] 300 [.t true,.r (.bool false),.k,.r (iV (z)),.t false,Re hs]
  (Ro (Ai hlt (Ai hib (Ai (qcG hb) (Ai hiw (Ai (qaQ hw) (Ai hz (Ai hs tI)))))))) r
theorem qvk {u fr wh:List Int} {b:List Bool} {ev:List Ev} {z:Int} {k j:Nat} (hb:b[k]?=some false) (hib:0≤(k:Int)∧(k:Int)<(b.length:Int)) (hlt:decide ((k:Int)<(b.length:Int))=true) (hiw:0≤(k:Int)∧(k:Int)<(wh.length:Int)) (hw:wh[k]?=some z) (hz:(!(z==-1))=true):Rl 5 5 225 0 51 6 (qAz b j k) (qlS b ev fr u wh) (.ret) ([(2,.pv (.bool false))]) ([]):=
 RunsL.stop [] 300 [.t true,.r (.bool false),.k,.r (iV (z)),.t true] (fun h=>by cases h)
  (Ro (Ai hlt (Ai hib (Ai (qcG hb) (Ai hiw (Ai (qaQ hw) (Ai hz tI)))))))
theorem qmx {u fr wh:List Int} {b:List Bool} {ev:List Ev} {k j:Nat} (hb:b[k]?=some true) (hib:0≤(k:Int)∧(k:Int)<(b.length:Int)) (hlt:decide ((k:Int)<(b.length:Int))=true) (hh:Fn 279 5 [agA u b fr ev wh,.pv (iV (k:Int))] (qhe b ev fr u wh) (.pv (.bool true)) 0 []) (hj:iV (IntKind.i64.wrap ((j:Int)+1))=iV (((j+1:Nat):Int))) (hs:iV (IntKind.i64.wrap ((k:Int)+1))=iV (((k+1:Nat):Int))) {e:Exit} {tm2:TmL} {hp2:HpL}
 (r:Rl 5 5 225 0 51 6 ([(1,.pp 5 0),(3,.pv (iV ((j+1:Nat):Int))),(16,.ls 1 b.length),(17,.pv (iV (b.length:Int))),(18,.pv (iV ((k+1:Nat):Int)))]) (qlS b ev fr u wh) e tm2 hp2):Rl 5 5 225 0 51 6 (qAz b j k) (qlS b ev fr u wh) e tm2 hp2:=
 RunsL.next [] 300 [.t true,.r (.bool true),.k,Cf hh [0,1,2,3,4],.k,Re hj,Re hs]
  (Ro (Ai hlt (Ai hib (Ai (qcG hb) (Co hh [0,1,2,3,4] 6 (Ai hj (Ai hs tI))))))) r
theorem qyL {u fr wh:List Int} {b:List Bool} {ev:List Ev} {k j:Nat} (hb:b[k]?=some true) (hib:0≤(k:Int)∧(k:Int)<(b.length:Int)) (hlt:decide ((k:Int)<(b.length:Int))=true) (hh:Fn 279 5 [agA u b fr ev wh,.pv (iV (k:Int))] (qhe b ev fr u wh) (.pv (.bool false)) 0 []):Rl 5 5 225 0 51 6 (qAz b j k) (qlS b ev fr u wh) (.ret) ([(2,.pv (.bool false))]) ([]):=
 RunsL.stop [] 300 [.t true,.r (.bool true),.k,Cf hh [0,1,2,3,4],.k] (fun h=>by cases h)
  (Ro (Ai hlt (Ai hib (Ai (qcG hb) (Co hh [0,1,2,3,4] 6 tI)))))
theorem qAw {u fr wh:List Int} {b:List Bool} {ev:List Ev} {k j:Nat} (hge:decide ((k:Int)<(b.length:Int))=false):Rl 5 5 225 0 51 6 (qAz b j k) (qlS b ev fr u wh) (.exit 0) ([(1,.pp 5 0),(3,.pv (iV (j:Int)))]) (qlS b ev fr u wh):=
 RunsL.stop [] 300 [.t false] (fun h=>by cases h)
  (Ro (Ai hge tI))
theorem qAB {u fr wh:List Int} {b:List Bool} {ev:List Ev} (hn:(!((wh.length:Int)==(b.length:Int)))=true) :
 Fn 225 5 [agA u b fr ev wh] (qhe b ev fr u wh) (.pv (.bool false)) 0 []:=
 Fz [] [.t true]
  tI (Ai hn tI)
abbrev qFi (b:List Bool):TmL:=[(1,.pp 5 0),(3,.pv (iV ((0:Nat):Int))),(16,.ls 1 b.length),(17,.pv (iV (b.length:Int))),(18,.pv (iV ((0:Nat):Int)))]
theorem qFy {u fr wh:List Int} {b:List Bool} {ev:List Ev} (hn:(!((wh.length:Int)==(b.length:Int)))=false) (r0:Rl 5 5 225 0 51 6 (qFi b) (qlS b ev fr u wh) (.ret) ([(2,.pv (.bool false))]) ([])) :
 Fn 225 5 [agA u b fr ev wh] (qhe b ev fr u wh) (.pv (.bool false)) 0 []:=
 Fz [] [.t false,Lf r0]
  tI (Ai hn (Lo r0 [] tI))
theorem qi1 {u fr wh:List Int} {b:List Bool} {ev:List Ev} {j:Nat} (hn:(!((wh.length:Int)==(b.length:Int)))=false) (r0:Rl 5 5 225 0 51 6 (qFi b) (qlS b ev fr u wh) (.exit 0) ([(1,.pp 5 0),(3,.pv (iV (j:Int)))]) (qlS b ev fr u wh)) (hc:((j:Int)==(ev.length:Int))=true) :
 Fn 225 5 [agA u b fr ev wh] (qhe b ev fr u wh) (.pv (.bool true)) 0 []:=
 Fz [] [.t false,Lf r0,.t true]
  tI (Ai hn (Lo r0 [] (Ai hc tI)))
theorem qhX {u fr wh:List Int} {b:List Bool} {ev:List Ev} {j:Nat} (hn:(!((wh.length:Int)==(b.length:Int)))=false) (r0:Rl 5 5 225 0 51 6 (qFi b) (qlS b ev fr u wh) (.exit 0) ([(1,.pp 5 0),(3,.pv (iV (j:Int)))]) (qlS b ev fr u wh)) (hc:((j:Int)==(ev.length:Int))=false) :
 Fn 225 5 [agA u b fr ev wh] (qhe b ev fr u wh) (.pv (.bool false)) 0 []:=
 Fz [] [.t false,Lf r0,.t false]
  tI (Ai hn (Lo r0 [] (Ai hc tI)))
theorem qC7 {u fr wh:List Int} {b:List Bool} {ev:List Ev} (h1:Fn 224 3 [.ag [.ls 0 u.length,.ls 1 b.length,.ls 2 fr.length]] [(0,0,zrI u),(1,0,zrB b),(2,0,zrI fr)] (.pv (iV (8))) 0 []) :
 Fn 177 5 [agA u b fr ev wh] (qhe b ev fr u wh) (.pv (iV (8))) 0 []:=
 Fz [] [Cf h1 [0,1,2],.k]
  tI (Co h1 [0,1,2] 6 tI)
abbrev qDV (b:List Bool) (fr:List Int) (u:List Int):Prop:=Fn 224 3 [.ag [.ls 0 u.length,.ls 1 b.length,.ls 2 fr.length]] [(0,0,zrI u),(1,0,zrB b),(2,0,zrI fr)] (.pv (iV (0))) 0 []
theorem qAj {u fr wh:List Int} {b:List Bool} {ev:List Ev} (h1:qDV b fr u) (h2:Fn 225 5 [agA u b fr ev wh] (qhe b ev fr u wh) (.pv (.bool false)) 0 []) :
 Fn 177 5 [agA u b fr ev wh] (qhe b ev fr u wh) (.pv (iV (8))) 0 []:=
 Fz [] [Cf h1 [0,1,2],.k,Cf h2 [0,1,2,3,4],.k]
  tI (Co h1 [0,1,2] 6 (Co h2 [0,1,2,3,4] 6 tI))
theorem qCU {u fr wh:List Int} {b:List Bool} {ev:List Ev} (h1:qDV b fr u) (h2:Fn 225 5 [agA u b fr ev wh] (qhe b ev fr u wh) (.pv (.bool true)) 0 []) (h3:Fn 226 1 [.ls 0 ev.length] [(0,0,qar ev)] (.pv (.bool false)) 0 []) :
 Fn 177 5 [agA u b fr ev wh] (qhe b ev fr u wh) (.pv (iV (8))) 0 []:=
 Fz [] [Cf h1 [0,1,2],.k,Cf h2 [0,1,2,3,4],.k,Cf h3 [3],.k]
  tI (Co h1 [0,1,2] 6 (Co h2 [0,1,2,3,4] 6 (Co h3 [3] 6 tI)))
theorem qCc {u fr wh:List Int} {b:List Bool} {ev:List Ev} (h1:qDV b fr u) (h2:Fn 225 5 [agA u b fr ev wh] (qhe b ev fr u wh) (.pv (.bool true)) 0 []) (h3:Fn 226 1 [.ls 0 ev.length] [(0,0,qar ev)] (.pv (.bool true)) 0 []) (h4:Fn 227 1 [.ls 0 ev.length] [(0,0,qar ev)] (.pv (.bool false)) 0 []) :
 Fn 177 5 [agA u b fr ev wh] (qhe b ev fr u wh) (.pv (iV (8))) 0 []:=
 Fz [] [Cf h1 [0,1,2],.k,Cf h2 [0,1,2,3,4],.k,Cf h3 [3],.k,Cf h4 [3],.k]
  tI (Co h1 [0,1,2] 6 (Co h2 [0,1,2,3,4] 6 (Co h3 [3] 6 (Co h4 [3] 6 tI))))
theorem qCb {u fr wh:List Int} {b:List Bool} {ev:List Ev} (h1:qDV b fr u) (h2:Fn 225 5 [agA u b fr ev wh] (qhe b ev fr u wh) (.pv (.bool true)) 0 []) (h3:Fn 226 1 [.ls 0 ev.length] [(0,0,qar ev)] (.pv (.bool true)) 0 []) (h4:Fn 227 1 [.ls 0 ev.length] [(0,0,qar ev)] (.pv (.bool true)) 0 []) :
 Fn 177 5 [agA u b fr ev wh] (qhe b ev fr u wh) (.pv (iV (0))) 0 []:=
 Fz [] [Cf h1 [0,1,2],.k,Cf h2 [0,1,2,3,4],.k,Cf h3 [3],.k,Cf h3 [3],.k]
  tI (Co h1 [0,1,2] 6 (Co h2 [0,1,2,3,4] 6 (Co h3 [3] 6 (Co h4 [3] 6 tI))))
end Go.Proofs.YtkckcgpmnipnaaaGreat

namespace Go.Proofs.YtkckcgpmnipnaaaGreat
set_option maxRecDepth 100000
open Go.RowKit
theorem qws (g:List Int) (x:Int):some (SV.row 3 1 (g.length+1) (ziV g++[iV x]))=some (zrI (g++[x])):=by rw[zrI,qaW,List.length_append];rfl
theorem qBF (b:Nat) (g:List Int) (x:Int):SV.ls b (g.length+1)=SV.ls b (g++[x]).length:=by rw[List.length_append];rfl
theorem qA8 {l:List Int} {k j:Nat} {x:Int} (h:l[k+j]?=some x):qcO (ziV l) ((0+k)*1+j*1) [iV x]:=by
 have e:(0+k)*1+j*1=0*1+(k+j)*1:=by omega
 rw[e];exact qaQ h
abbrev qDI (ev:List Ev) (g:List Int) (k:Nat):TmL:=[(0,.ls 0 ev.length),(3,.ls 1 (g).length),(6,.ls 0 ev.length),(7,.pv (iV (ev.length:Int))),(8,.pv (iV (k:Int)))]
theorem qzs {g:List Int} {ev:List Ev} {m:Ev} {k:Nat} (hk:ev[k]?=some m) (hin:0≤(k:Int)∧(k:Int)<(ev.length:Int)) (hlt:decide ((k:Int)<(ev.length:Int))=true) (hc:Pure Tryz.prog 101 #[qaa m.n m.d] (iV (8))):Rl 1 1 226 0 36 2 (qDI ev g k) ([(0,0,qar ev),(1,0,zrI (g))]) (.ret) ([(2,.pv (.bool false))]) ([]):=
 RunsL.stop [] 300 [.t true,.r (qae m),Rf hc,.k] (fun h=>by cases h)
  (Ro (Ai hlt (Ai hin (Ai (qcw hk) (Ai hc tI)))))
theorem qAG {g:List Int} {ev:List Ev} {m:Ev} {k:Nat} (hk:ev[k]?=some m) (hin:0≤(k:Int)∧(k:Int)<(ev.length:Int)) (hlt:decide ((k:Int)<(ev.length:Int))=true) (hc:Pure Tryz.prog 101 #[qaa m.n m.d] (iV (0))) (hn:Pure Tryz.prog 280 #[iV (m.k)] (.bool false)):Rl 1 1 226 0 36 2 (qDI ev g k) ([(0,0,qar ev),(1,0,zrI (g))]) (.ret) ([(2,.pv (.bool false))]) ([]):=
 RunsL.stop [] 300 [.t true,.r (qae m),Rf hc,.k,Rf hn,.k] (fun h=>by cases h)
  (Ro (Ai hlt (Ai hin (Ai (qcw hk) (Ai hc (Ai hn tI))))))
theorem qmK {g:List Int} {ev:List Ev} {m:Ev} {k:Nat} (hk:ev[k]?=some m) (hin:0≤(k:Int)∧(k:Int)<(ev.length:Int)) (hlt:decide ((k:Int)<(ev.length:Int))=true) (hc:Pure Tryz.prog 101 #[qaa m.n m.d] (iV (0))) (hn:Pure Tryz.prog 280 #[iV (m.k)] (.bool true)) (hl:g.length+1≤1000000) (hs:iV (IntKind.i64.wrap ((k:Int)+1))=iV (((k+1:Nat):Int))) {e:Exit} {tm2:TmL} {hp2:HpL}
 (r:Rl 1 1 226 0 36 2 ([(0,.ls 0 ev.length),(3,.ls 1 (g++[m.k]).length),(6,.ls 0 ev.length),(7,.pv (iV (ev.length:Int))),(8,.pv (iV ((k+1:Nat):Int)))]) ([(0,0,qar ev),(1,0,zrI (g++[m.k]))]) e tm2 hp2):Rl 1 1 226 0 36 2 (qDI ev g k) ([(0,0,qar ev),(1,0,zrI (g))]) e tm2 hp2:=
 RunsL.next [(1,4)] 300 [.t true,.r (qae m),Rf hc,.k,Rf hn,.k,Re hs]
  (qf2 (Ai (Eq.refl (SV.ls 0 ev.length)) (Ai (qBF 4 g m.k) (Ai (Eq.refl (SV.ls 0 ev.length)) (Ai (Eq.refl (SV.pv (iV (ev.length:Int)))) (Ai (Eq.refl (SV.pv (iV ((k+1:Nat):Int)))) tI))))) (Ai (Er (qar ev)) (Ai (qws g m.k) tI)) (Ai hlt (Ai hin (Ai (qcw hk) (Ai hc (Ai hn (Ai hl (Ai hs tI))))))) (by kernel_rfl)) r
theorem qAx {g:List Int} {ev:List Ev} {k:Nat} (hge:decide ((k:Int)<(ev.length:Int))=false):Rl 1 1 226 0 36 2 (qDI ev g k) ([(0,0,qar ev),(1,0,zrI (g))]) (.exit 0) ([(0,.ls 0 ev.length),(3,.ls 1 g.length)]) ([(0,0,qar ev),(1,0,zrI (g))]):=
 RunsL.stop [] 300 [.t false] (fun h=>by cases h)
  (Ro (Ai hge tI))
theorem qFg {ev:List Ev} (r0:Rl 1 1 226 0 36 2 ([(0,.ls 0 ev.length),(3,.ls 1 ([]:List Int).length),(6,.ls 0 ev.length),(7,.pv (iV (ev.length:Int))),(8,.pv (iV ((0:Nat):Int)))]) ([(0,0,qar ev),(1,0,zrI ([]:List Int))]) (.ret) ([(2,.pv (.bool false))]) ([])) :
 Fn 226 1 [.ls 0 ev.length] [(0,0,qar ev)] (.pv (.bool false)) 0 []:=
 Fz [] [.ln true 3 0 3 1,Lf r0]
  tI (Lo r0 [] tI)
theorem qps {wv:List Int} {x y:Int} {k j nn:Nat} (hx:wv[k]?=some x) (hin:0≤(k:Int)∧(k:Int)<(nn:Int)) (hy:wv[j]?=some y) (hij:0≤(j:Int)∧(j:Int)<(nn:Int)) (hlt:decide ((k:Int)<(nn:Int))=true) (hm:iV (IntKind.i64.wrap ((k:Int)-1))=iV (j:Int)) (hq:(x==y)=false) (hs:iV (IntKind.i64.wrap ((k:Int)+1))=iV (((k+1:Nat):Int))) {e:Exit} {tm2:TmL} {hp2:HpL}
 (r:Rl 1 2 281 0 61 2 ([(0,.ls 1 nn),(3,.pv (iV ((k+1:Nat):Int)))]) ([(1,0,.row 3 1 nn (ziV (wv)))]) e tm2 hp2):Rl 1 2 281 0 61 2 ([(0,.ls 1 nn),(3,.pv (iV (k:Int)))]) ([(1,0,.row 3 1 nn (ziV (wv)))]) e tm2 hp2:=
 RunsL.next [] 300 [.t true,.r (iV (x)),Re hm,.r (iV (y)),.t false,Re hs]
  (Ro (Ai hlt (Ai hin (Ai (qaQ hx) (Ai hm (Ai hij (Ai (qaQ hy) (Ai hq (Ai hs tI))))))))) r
theorem qB2 {wv:List Int} {k nn:Nat} (hge:decide ((k:Int)<(nn:Int))=false):Rl 1 2 281 0 61 2 ([(0,.ls 1 nn),(3,.pv (iV (k:Int)))]) ([(1,0,.row 3 1 nn (ziV (wv)))]) (.exit 0) ([(0,.ls 1 nn)]) ([(1,0,.row 3 1 nn (ziV (wv)))]):=
 RunsL.stop [] 300 [.t false] (fun h=>by cases h)
  (Ro (Ai hge tI))
abbrev qFs (c:Nat) (j:Nat) (k:Nat) (nn:Nat):TmL:=[(0,.ls 1 nn),(3,.pv (iV (c:Int))),(4,.lq 1 1 (0+k) (nn-k)),(5,.pv (iV ((j+1:Nat):Int)))]
theorem qva {wv:List Int} {x y:Int} {k j nn c:Nat} (hj1:0≤((j+1:Nat):Int)∧((j+1:Nat):Int)<((nn-k:Nat):Int)) (hj0:0≤(j:Int)∧(j:Int)<((nn-k:Nat):Int)) (hx:wv[k+(j+1)]?=some x) (hy:wv[k+j]?=some y) (hlt:decide (((j+1:Nat):Int)<((nn-k:Nat):Int))=true) (hm:iV (IntKind.i64.wrap (((j+1:Nat):Int)-1))=iV (j:Int)) (hq:(!(x==y))=false) (hsj:iV (IntKind.i64.wrap (((j+1:Nat):Int)+1))=iV (((j+1+1:Nat):Int))) {e:Exit} {tm2:TmL} {hp2:HpL}
 (r:Rl 1 2 281 1 61 2 ([(0,.ls 1 nn),(3,.pv (iV (c:Int))),(4,.lq 1 1 (0+k) (nn-k)),(5,.pv (iV ((j+1+1:Nat):Int)))]) ([(1,0,.row 3 1 nn (ziV (wv)))]) e tm2 hp2):Rl 1 2 281 1 61 2 (qFs c j k nn) ([(1,0,.row 3 1 nn (ziV (wv)))]) e tm2 hp2:=
 RunsL.next [] 300 [.t true,.r (iV (x)),.r (iV (j:Int)),.r (iV (y)),.t false,.r (iV (((j+1+1:Nat):Int)))]
  (Ro (Ai hlt (Ai hj1 (Ai (qA8 hx) (Ai hm (Ai hj0 (Ai (qA8 hy) (Ai hq (Ai hsj tI))))))))) r
theorem qC0 {wv:List Int} {x y:Int} {k j nn c:Nat} (hj1:0≤((j+1:Nat):Int)∧((j+1:Nat):Int)<((nn-k:Nat):Int)) (hj0:0≤(j:Int)∧(j:Int)<((nn-k:Nat):Int)) (hx:wv[k+(j+1)]?=some x) (hy:wv[k+j]?=some y) (hlt:decide (((j+1:Nat):Int)<((nn-k:Nat):Int))=true) (hm:iV (IntKind.i64.wrap (((j+1:Nat):Int)-1))=iV (j:Int)) (hq:(!(x==y))=true) (hc:0≤(c:Int)∧(c:Int)<(nn:Int)) (hcl:c<wv.length) (hsc:iV (IntKind.i64.wrap ((c:Int)+1))=iV (((c+1:Nat):Int))) (hsj:iV (IntKind.i64.wrap (((j+1:Nat):Int)+1))=iV (((j+1+1:Nat):Int))) {e:Exit} {tm2:TmL} {hp2:HpL}
 (r:Rl 1 2 281 1 61 2 ([(0,.ls 1 nn),(3,.pv (iV ((c+1:Nat):Int))),(4,.lq 1 1 (0+k) (nn-k)),(5,.pv (iV ((j+1+1:Nat):Int)))]) ([(1,0,.row 3 1 nn (ziV (wv.set c x)))]) e tm2 hp2):Rl 1 2 281 1 61 2 (qFs c j k nn) ([(1,0,.row 3 1 nn (ziV (wv)))]) e tm2 hp2:=
 RunsL.next [] 300 [.t true,.r (iV (x)),.r (iV (j:Int)),.r (iV (y)),.t true,.r (iV (x)),.w (ziV (wv.set c x)),Re hsc,.r (iV (((j+1+1:Nat):Int)))]
  (Ro (Ai hlt (Ai hj1 (Ai (qA8 hx) (Ai hm (Ai hj0 (Ai (qA8 hy) (Ai hq (Ai hj1 (Ai (qA8 hx) (Ai hc (Ai (qmi wv c x hcl) (Ai (qcK wv c hcl) (Ai hsc (Ai hsj tI))))))))))))))) r
theorem qCj {wv:List Int} {k j nn c:Nat} (hge:decide (((j+1:Nat):Int)<((nn-k:Nat):Int))=false):Rl 1 2 281 1 61 2 (qFs c j k nn) ([(1,0,.row 3 1 nn (ziV (wv)))]) (.exit 2) ([(0,.ls 1 nn),(3,.pv (iV (c:Int)))]) ([(1,0,.row 3 1 nn (ziV (wv)))]):=
 RunsL.stop [] 300 [.t false] (fun h=>by cases h)
  (Ro (Ai hge tI))
theorem qAU {s wv:List Int} {x y:Int} {k j nn c:Nat} {ys:List Value} (hx:wv[k]?=some x) (hin:0≤(k:Int)∧(k:Int)<(nn:Int)) (hy:wv[j]?=some y) (hij:0≤(j:Int)∧(j:Int)<(nn:Int)) (hlt:decide ((k:Int)<(nn:Int))=true) (hm:iV (IntKind.i64.wrap ((k:Int)-1))=iV (j:Int)) (hq:(x==y)=true) (hkn:k≤nn) (r1:Rl 1 2 281 1 61 2 ([(0,.ls 1 nn),(3,.pv (iV (k:Int))),(4,.lq 1 1 (0+k) (nn-k)),(5,.pv (iV ((1:Nat):Int)))]) ([(1,0,.row 3 1 nn (ziV (wv)))]) (.exit 2) ([(0,.ls 1 nn),(3,.pv (iV (c:Int)))]) ([(1,0,.row 3 1 nn (ziV (s)))])) (hcn:c≤nn) (hys:ys=qeH (ziV s) ((0+c)*1) (qdh [iV 0] (nn-c))) (hp:0<nn-c) (hb:(0+c)*1+((qdh [iV 0] (nn-c))).length≤(ziV s).length):Rl 1 2 281 0 61 2 ([(0,.ls 1 nn),(3,.pv (iV (k:Int)))]) ([(1,0,.row 3 1 nn (ziV (wv)))]) (.ret) ([(2,.lq 1 1 0 c)]) ([(1,0,.row 3 1 nn ys)]):=
 RunsL.stop [] 300 [.t true,.r (iV (x)),Re hm,.r (iV (y)),.t true,.k,Lf r1,.k,.w ys,.k] (fun h=>by cases h)
  (Ro (Ai hlt (Ai hin (Ai (qaQ hx) (Ai hm (Ai hij (Ai (qaQ hy) (Ai hq (Ai (Int.natCast_nonneg k) (Ai tI (Ai hkn (Ai (Nat.le_refl nn) (Lo r1 [] (Ai (Int.natCast_nonneg c) (Ai tI (Ai hcn (Ai (Nat.le_refl nn) (Ai hys (Ai hp (Ai hb (Ai tI (Ai (Int.natCast_nonneg c) (Ai (Nat.zero_le c) (Ai hcn tI))))))))))))))))))))))))
abbrev qGK (ev:List Ev) (g:List Int):Prop:=Rl 1 1 226 0 36 2 ([(0,.ls 0 ev.length),(3,.ls 1 ([]:List Int).length),(6,.ls 0 ev.length),(7,.pv (iV (ev.length:Int))),(8,.pv (iV ((0:Nat):Int)))]) ([(0,0,qar ev),(1,0,zrI ([]:List Int))]) (.exit 0) ([(0,.ls 0 ev.length),(3,.ls 1 g.length)]) ([(0,0,qar ev),(1,0,zrI (g))])
theorem qi9 {g s:List Int} {ev:List Ev} (r0:qGK ev g) (hso:FnM Tryz.prog 182 1 [.ls 0 g.length] [(0,0,zrI g)] (.tuple #[]) 0 ⟨3,1,g.length,ziV g⟩ (ziV s)) (h2:decide ((g.length:Int)<2)=true) (hl:((g.length:Int)==(ev.length:Int))=true) :
 Fn 226 1 [.ls 0 ev.length] [(0,0,qar ev)] (.pv (.bool true)) 0 []:=
 Fz [] [.ln true 3 0 3 1,Lf r0,.m [1] [.ls 0 g.length] [(0,0,zrI g)] (.tuple #[]) 0 (ziV s),.k,.t true,.t true]
  tI (Lo r0 [] (Ai hso (Ai (Eq.refl (List.map (SV.ren (qbR [1] 2)) [.ls 0 g.length])) (Ai (qaE (qbR [1] 2) [(0,0,zrI g)]) (Ai h2 (Ai hl tI))))))
theorem qjo {g s:List Int} {ev:List Ev} (r0:qGK ev g) (hso:FnM Tryz.prog 182 1 [.ls 0 g.length] [(0,0,zrI g)] (.tuple #[]) 0 ⟨3,1,g.length,ziV g⟩ (ziV s)) (h2:decide ((g.length:Int)<2)=false) (r2:Rl 1 2 281 0 61 2 ([(0,.ls 1 g.length),(3,.pv (iV ((1:Nat):Int)))]) ([(1,0,.row 3 1 g.length (ziV (s)))]) (.exit 0) ([(0,.ls 1 g.length)]) ([(1,0,.row 3 1 g.length (ziV (s)))])) (hl:((g.length:Int)==(ev.length:Int))=true) :
 Fn 226 1 [.ls 0 ev.length] [(0,0,qar ev)] (.pv (.bool true)) 0 []:=
 Fz [] [.ln true 3 0 3 1,Lf r0,.m [1] [.ls 0 g.length] [(0,0,zrI g)] (.tuple #[]) 0 (ziV s),.k,.t false,Lf r2,.t true]
  tI (Lo r0 [] (Ai hso (Ai (Eq.refl (List.map (SV.ren (qbR [1] 2)) [.ls 0 g.length])) (Ai (qaE (qbR [1] 2) [(0,0,zrI g)]) (Ai h2 (Lo r2 [] (Ai hl tI)))))))
theorem qzC {g s:List Int} {ev:List Ev} {c:Nat} {ys:List Value} (r0:qGK ev g) (hso:FnM Tryz.prog 182 1 [.ls 0 g.length] [(0,0,zrI g)] (.tuple #[]) 0 ⟨3,1,g.length,ziV g⟩ (ziV s)) (h2:decide ((g.length:Int)<2)=false) (r2:Rl 1 2 281 0 61 2 ([(0,.ls 1 g.length),(3,.pv (iV ((1:Nat):Int)))]) ([(1,0,.row 3 1 g.length (ziV (s)))]) (.ret) ([(2,.lq 1 1 0 c)]) ([(1,0,.row 3 1 g.length ys)])) (hl:((c:Int)==(ev.length:Int))=false) :
 Fn 226 1 [.ls 0 ev.length] [(0,0,qar ev)] (.pv (.bool false)) 0 []:=
 Fz [] [.ln true 3 0 3 1,Lf r0,.m [1] [.ls 0 g.length] [(0,0,zrI g)] (.tuple #[]) 0 (ziV s),.k,.t false,Lf r2,.t false]
  tI (Lo r0 [] (Ai hso (Ai (Eq.refl (List.map (SV.ren (qbR [1] 2)) [.ls 0 g.length])) (Ai (qaE (qbR [1] 2) [(0,0,zrI g)]) (Ai h2 (Lo r2 [] (Ai hl tI)))))))
end Go.Proofs.YtkckcgpmnipnaaaGreat

namespace Go.Proofs.YtkckcgpmnipnaaaGreat
set_option maxRecDepth 100000
open Go.RowKit
theorem qgG {x y:Ev} (hx:EvOk x) (hy:EvOk y):Pure Tryz.prog 282 #[qae x,qae y] (.bool (ltE x y)):=by
 by_cases e:x.n=y.n∧x.d=y.d
 ·have h1:(x.n==y.n&&(x.d==y.d&&true))=true:=by simp[e.1,e.2]
  have h2:ltE x y=decide (x.k<y.k):=by simp[ltE,e.1,e.2]
  rw[h2]
  cases h3:decide (x.k<y.k)
  ·exact qgL h1 h3
  ·exact qhV h1 h3
 ·have h1:(x.n==y.n&&(x.d==y.d&&true))=false:=by
   rw[Bool.and_true,Bool.and_eq_false_iff]
   by_cases e1:x.n=y.n
   ·right;simp;exact fun e2=>e ⟨e1,e2⟩
   ·left;simpa using e1
  have hne:x.n*y.d≠y.n*x.d:=fun h=>e (qiP hx.ok hy.ok h)
  have hc:=qoc hx.i.1 hx.i.2 hy.i.1 hy.i.2 hx.ok hy.ok
  have h2:ltE x y=decide ((x.n*y.d-y.n*x.d).sign<0):=by
   simp only[ltE,hne,decide_false,Bool.false_and,Bool.or_false]
   by_cases h3:x.n*y.d<y.n*x.d
   ·rw[decide_eq_true h3,decide_eq_true (by rw[Int.sign_eq_neg_one_of_neg (by omega)];omega)]
   ·rw[decide_eq_false h3,decide_eq_false (by rw[Int.sign_eq_one_of_pos (by omega)];omega)]
  rw[h2]
  cases h3:decide ((x.n*y.d-y.n*x.d).sign<0)
  ·exact qg1 h1 hc h3
  ·exact qhN h1 hc h3
theorem qcs {k:Nat} (h:1≤k) (hk:k≤1000000):Pure Tryz.prog 283 #[iV (k:Int)] (iV (((k-1)/2:Nat):Int)):=by
 refine qi8 (y:=((k-1:Nat):Int)) (by rw[show (k:Int)-1=((k-1:Nat):Int) by omega];exact qbl (by omega) (by omega)) (by decide) ?_
 have e:Int.tdiv ((k-1:Nat):Int) 2=(((k-1)/2:Nat):Int):=by rw[Int.tdiv_eq_ediv_of_nonneg (by omega)];omega
 rw[e]
 exact qbl (by omega) (by omega)
theorem qgY (z:Int):Pure Tryz.prog 280 #[iV z] (.bool (decide (0≤z∧z≤1000000))):=by
 by_cases h1:0≤z
 ·by_cases h2:z≤1000000
  ·rw[decide_eq_true ⟨h1,h2⟩];exact qBI (decide_eq_true h1) (decide_eq_true h2)
  ·rw[decide_eq_false (fun h=>h2 h.2)];exact qAr (decide_eq_true h1) (decide_eq_false h2)
 ·rw[decide_eq_false (fun h=>h1 h.1)];exact qBT (decide_eq_false h1)
def qHw (ev:List Ev) (i:Nat):Nat:=match ev[2*i+1]?,ev[i]? with
 | some x,some m=>if ltE x m=true then 2*i+1 else i
 | _,_=>i
def qbL (ev:List Ev) (k:Nat):Bool:=match ev[k]?,ev[(k-1)/2]? with
 | some x,some y=>!ltE x y
 | _,_=>true
abbrev ihT (ev:List Ev) (k:Nat):List (Nat×SV):=[(0,.ls 0 ev.length),(3,.pv (iV (k:Int)))]
theorem qjV {ev:List Ev} {k:Nat} (h:∀ x∈ev,EvOk x) (hl:ev.length≤1000000) (h1:1≤k) (hk:k<ev.length):∃ x y,ev[k]?=some x∧ev[(k-1)/2]?=some y∧Pure Tryz.prog 282 #[qae x,qae y] (.bool (ltE x y))∧qbL ev k = !ltE x y:=by
 have hj:(k-1)/2<ev.length:=by omega
 refine⟨_,_,List.getElem?_eq_getElem hk,List.getElem?_eq_getElem hj,qgG (h _ (List.getElem_mem hk)) (h _ (List.getElem_mem hj)),?_⟩
 simp[qbL,hk,hj]
theorem qxM {ev:List Ev} (h:∀ x∈ev,EvOk x) (hl:ev.length≤1000000):∀ (d k:Nat),ev.length≤k+d→1≤k→(∀ j,k≤j→j<ev.length→qbL ev j=true)→Rl 1 1 227 0 20 1 (ihT ev k) [(0,0,qar ev)] (.exit 0) [] []:=by
 intro d
 induction d with
 | zero=>intro k hd h1 hg;exact quu (decide_eq_false (by omega))
 | succ d ih=>
  intro k hd h1 hg
  by_cases hk:k<ev.length
  ·obtain⟨x,y,hx,hy,hc,e⟩:=qjV h hl h1 hk
   rw[hg k (Nat.le_refl _) hk] at e
   have e':ltE x y=false:=by simpa using e.symm
   rw[e'] at hc
   exact qo1 hx (by omega) hy (by omega) (decide_eq_true (by omega)) (qcs h1 (by omega)) hc (qaB (by omega)) (ih (k+1) (by omega) (by omega) (fun j a b=>hg j (by omega) b))
  ·exact quu (decide_eq_false (by omega))
theorem qqG {ev:List Ev} (h:∀ x∈ev,EvOk x) (hl:ev.length≤1000000):∀ (d k:Nat),ev.length≤k+d→1≤k→(∃ j,k≤j∧j<ev.length∧qbL ev j=false)→Rl 1 1 227 0 20 1 (ihT ev k) [(0,0,qar ev)] .ret [(2,.pv (.bool false))] []:=by
 intro d
 induction d with
 | zero=>intro k hd h1 ⟨j,a,b,_⟩;omega
 | succ d ih=>
  intro k hd h1 ⟨j,a,b,hj⟩
  obtain⟨x,y,hx,hy,hc,e⟩:=qjV h hl h1 (show k<ev.length by omega)
  cases e':ltE x y<;>rw[e'] at hc e
  ·refine qo1 hx (by omega) hy (by omega) (decide_eq_true (by omega)) (qcs h1 (by omega)) hc (qaB (by omega)) (ih (k+1) (by omega) (by omega) ⟨j,?_,b,hj⟩)
   rcases Nat.lt_or_ge k j with c | c
   ·exact c
   ·have:k=j:=by omega
    subst this;rw[hj] at e;cases e
  ·exact qCe hx (by omega) hy (by omega) (decide_eq_true (by omega)) (qcs h1 (by omega)) hc
theorem ql7 {ev:List Ev} (h:∀ x∈ev,EvOk x) (hl:ev.length≤1000000) (hg:∀ j,1≤j→j<ev.length→qbL ev j=true):Fn 227 1 [.ls 0 ev.length] [(0,0,qar ev)] (.pv (.bool true)) 0 []:=qBz (qxM h hl ev.length 1 (by omega) (by omega) hg)
theorem qnL {ev:List Ev} (h:∀ x∈ev,EvOk x) (hl:ev.length≤1000000) (hg:∃ j,1≤j∧j<ev.length∧qbL ev j=false):Fn 227 1 [.ls 0 ev.length] [(0,0,qar ev)] (.pv (.bool false)) 0 []:=qEX (qqG h hl ev.length 1 (by omega) (by omega) hg)
section
variable {u fr wh:List Int} {b:List Bool} {ev:List Ev}
def qa5 (u:List Int) (ev:List Ev) (wh:List Int) (k:Nat):Bool:=match wh[k]?,u[k]? with
 | some z,some c=>decide (0≤z)&&(match ev[z.toNat]? with
  | some x=>decide (x.i=(k:Int))&&decide (x.w=c)
  | none=>false)
 | _,_=>false
theorem qhH {k:Nat} (hw:k<wh.length) (hu:k<u.length):Fn 279 5 [agA u b fr ev wh,.pv (iV (k:Int))] (agP u b fr ev wh) (.pv (.bool (qa5 u ev wh k))) 0 []:=by
 obtain⟨z,hz⟩:∃ z,wh[k]?=some z:=⟨_,List.getElem?_eq_getElem hw⟩
 obtain⟨c,hc⟩:∃ c,u[k]?=some c:=⟨_,List.getElem?_eq_getElem hu⟩
 by_cases h0:0≤z
 ·by_cases h1:z<(ev.length:Int)
  ·obtain⟨x,hx⟩:∃ x,ev[z.toNat]?=some x:=⟨_,List.getElem?_eq_getElem (by omega)⟩
   have e:qa5 u ev wh k=(x.i==(k:Int)&&(x.w==c&&true)):=by
    simp only[qa5,hz,hc,hx,decide_eq_true h0,Bool.true_and,Bool.and_true]
    rfl
   rw[e]
   cases e2:(x.i==(k:Int)&&(x.w==c&&true))
   ·exact qsV (by omega) hz (by omega) hc (decide_eq_true h0) (decide_eq_true h1) ⟨h0,h1⟩ hx e2
   ·exact qvi (by omega) hz (by omega) hc (decide_eq_true h0) (decide_eq_true h1) ⟨h0,h1⟩ hx e2
  ·have hx:ev[z.toNat]?=none:=List.getElem?_eq_none (by omega)
   have e:qa5 u ev wh k=false:=by simp[qa5,hz,hc,hx]
   rw[e]
   exact qAy (by omega) hz (by omega) hc (decide_eq_true h0) (decide_eq_false h1)
 ·have e:qa5 u ev wh k=false:=by simp[qa5,hz,hc,h0]
  rw[e]
  exact qCq (by omega) hz (by omega) hc (decide_eq_false h0)
def whB (u:List Int) (b:List Bool) (ev:List Ev) (wh:List Int) (k:Nat):Bool:=match b[k]? with
 | some true=>qa5 u ev wh k
 | some false=>wh[k]?==some (-1)
 | none=>true
abbrev wfT (b:List Bool) (j k:Nat):List (Nat×SV):=[(1,.pp 5 0),(3,.pv (iV (j:Int))),(16,.ls 1 b.length),(17,.pv (iV (b.length:Int))),(18,.pv (iV (k:Int)))]
abbrev wfH (u:List Int) (b:List Bool) (fr:List Int) (ev:List Ev) (wh:List Int):List (Nat×Nat×SV):=[(5,0,.ls 0 u.length),(5,1,.ls 1 b.length),(5,2,.ls 2 fr.length),(5,3,.ls 3 ev.length),(5,4,.ls 4 wh.length),(0,0,zrI u),(1,0,zrB b),(2,0,zrI fr),(3,0,qar ev),(4,0,zrI wh)]
theorem qpy (hw:wh.length=b.length) (hu:u.length=b.length) (hl:b.length≤1000000):∀ (d k j:Nat),k+d=b.length→j≤k→(∀ i,k≤i→i<b.length→whB u b ev wh i=true)→
 Rl 5 5 225 0 51 6 (wfT b j k) (wfH u b fr ev wh) (.exit 0) [(1,.pp 5 0),(3,.pv (iV ((j+(b.drop k).count true:Nat):Int)))] (wfH u b fr ev wh):=by
 intro d
 induction d with
 | zero=>
  intro k j hd hj _
  rw[List.drop_of_length_le (by omega)]
  exact qAw (decide_eq_false (by omega))
 | succ d ih=>
  intro k j hd hj hg
  have hk:k<b.length:=by omega
  have g:=hg k (Nat.le_refl _) hk
  have hb:b[k]?=some b[k]:=List.getElem?_eq_getElem hk
  have hdr:b.drop k=b[k]::b.drop (k+1):=List.drop_eq_getElem_cons hk
  rw[hdr]
  cases e:b[k]<;>rw[e] at hb
  ·have hz:wh[k]?=some (-1):=by simpa [whB,hb] using g
   rw[List.count_cons_of_ne (by decide)]
   exact qnK hb (by omega) (decide_eq_true (by omega)) (by omega) hz (by decide) (qaB (by omega)) (ih (k+1) j (by omega) (by omega) (fun i a c=>hg i (by omega) c))
  ·have hh:qa5 u ev wh k=true:=by simpa [whB,hb] using g
   have hc:=qhH (b:=b) (fr:=fr) (ev:=ev) (show k<wh.length by omega) (show k<u.length by omega)
   rw[hh] at hc
   rw[List.count_cons_self,show j+((b.drop (k+1)).count true+1)=(j+1)+(b.drop (k+1)).count true by omega]
   exact qmx hb (by omega) (decide_eq_true (by omega)) hc (qaB (by omega)) (qaB (by omega)) (ih (k+1) (j+1) (by omega) (by omega) (fun i a c=>hg i (by omega) c))
theorem qsH (hw:wh.length=b.length) (hu:u.length=b.length) (hl:b.length≤1000000):∀ (d k j:Nat),k+d=b.length→j≤k→(∃ i,k≤i∧i<b.length∧whB u b ev wh i=false)→
 Rl 5 5 225 0 51 6 (wfT b j k) (wfH u b fr ev wh) .ret [(2,.pv (.bool false))] []:=by
 intro d
 induction d with
 | zero=>intro k j hd hj ⟨i,a,c,_⟩;omega
 | succ d ih=>
  intro k j hd hj ⟨i,a,c,hi⟩
  have hk:k<b.length:=by omega
  have hb:b[k]?=some b[k]:=List.getElem?_eq_getElem hk
  obtain⟨z,hz⟩:∃ z,wh[k]?=some z:=⟨_,List.getElem?_eq_getElem (by omega)⟩
  have hc:=qhH (b:=b) (fr:=fr) (ev:=ev) (show k<wh.length by omega) (show k<u.length by omega)
  have more:whB u b ev wh k=true→∃ i,k+1≤i∧i<b.length∧whB u b ev wh i=false:=fun h=>by
   refine⟨i,?_,c,hi⟩
   rcases Nat.lt_or_ge k i with q | q
   ·exact q
   ·have:k=i:=by omega
    subst this;rw[hi] at h;cases h
  cases e:b[k]<;>rw[e] at hb
  ·by_cases h1:z = -1
   ·subst h1
    exact qnK hb (by omega) (decide_eq_true (by omega)) (by omega) hz (by decide) (qaB (by omega)) (ih (k+1) j (by omega) (by omega) (more (by simp[whB,hb,hz])))
   ·exact qvk hb (by omega) (decide_eq_true (by omega)) (by omega) hz (by simpa using h1)
  ·cases hh:qa5 u ev wh k<;>rw[hh] at hc
   ·exact qyL hb (by omega) (decide_eq_true (by omega)) hc
   ·exact qmx hb (by omega) (decide_eq_true (by omega)) hc (qaB (by omega)) (qaB (by omega)) (ih (k+1) (j+1) (by omega) (by omega) (more (by simp[whB,hb,hh])))
structure WhF (u:List Int) (b:List Bool) (ev:List Ev) (wh:List Int):Prop where
 len:wh.length=b.length
 at_:∀ i,i<b.length→whB u b ev wh i=true
 cnt:b.count true=ev.length
theorem qcE (hu:u.length=b.length) (hl:b.length≤1000000) (h:WhF u b ev wh):Fn 225 5 [agA u b fr ev wh] (agP u b fr ev wh) (.pv (.bool true)) 0 []:=by
 have r:=qpy (fr:=fr) (ev:=ev) h.len hu hl b.length 0 0 (by omega) (by omega) (fun i _ c=>h.at_ i c)
 rw[List.drop_zero,Nat.zero_add,h.cnt] at r
 exact qi1 (by simp[h.len]) r (by simp)
theorem qhO (hu:u.length=b.length) (hl:b.length≤1000000) (h:¬ WhF u b ev wh):Fn 225 5 [agA u b fr ev wh] (agP u b fr ev wh) (.pv (.bool false)) 0 []:=by
 by_cases h1:wh.length=b.length
 ·have hn:(!((wh.length:Int)==(b.length:Int)))=false:=by simp[h1]
  by_cases h2:∀ i,i<b.length→whB u b ev wh i=true
  ·have r:=qpy (fr:=fr) (ev:=ev) h1 hu hl b.length 0 0 (by omega) (by omega) (fun i _ c=>h2 i c)
   rw[List.drop_zero,Nat.zero_add] at r
   refine qhX hn r ?_
   have:b.count true≠ev.length:=fun e=>h ⟨h1,h2,e⟩
   simp;omega
  ·refine qFy hn (qsH h1 hu hl b.length 0 0 (by omega) (by omega) ?_)
   simp only[Classical.not_forall] at h2
   obtain⟨i,hi,e⟩:=h2
   exact⟨i,by omega,hi,by simpa using e⟩
 ·exact qAB (by simp;omega)
end
end Go.Proofs.YtkckcgpmnipnaaaGreat
