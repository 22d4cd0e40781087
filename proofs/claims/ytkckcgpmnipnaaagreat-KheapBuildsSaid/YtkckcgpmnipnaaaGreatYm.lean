/-
  The reference's Less, Great and Check, path by path. Conditions: none.
-/
import Derived.Test.YtkckcgpmnipnaaaGreatW38
import Derived.Test.YtkckcgpmnipnaaaGreatW21
namespace Go.Proofs.YtkckcgpmnipnaaaGreat
set_option maxRecDepth 100000
open Go.RowKit
abbrev qDv (c:Int) (x:Ev) (y:Ev):Prop:=Pure Tryz.prog 40 #[qaa x.n x.d,qaa y.n y.d] (iV c)
theorem qGi {x y:Ev} {c:Int} (hc:qDv c x y) (h1:decide (c<0)=true):Pure Tryz.prog 187 #[qae x,qae y] (.bool true):=
 qax (args:=[qae x,qae y]) 300 [Rf hc,.t true] (Ai rfl (Ai hc (Ai h1 tI))) (by kernel_rfl)
theorem qFo {x y:Ev} {c:Int} (hc:qDv c x y) (h1:decide (c<0)=false) (h2:(c==0)=false):Pure Tryz.prog 187 #[qae x,qae y] (.bool false):=
 qax (args:=[qae x,qae y]) 300 [Rf hc,.t false,.t false] (Ai rfl (Ai hc (Ai h1 (Ai h2 tI)))) (by kernel_rfl)
theorem qlh {x y:Ev} {c:Int} (hc:qDv c x y) (h1:decide (c<0)=false) (h2:(c==0)=true) (h3:decide (x.k<y.k)=true):Pure Tryz.prog 187 #[qae x,qae y] (.bool true):=
 qax (args:=[qae x,qae y]) 300 [Rf hc,.t false,.t true,.t true] (Ai rfl (Ai hc (Ai h1 (Ai h2 (Ai h3 tI))))) (by kernel_rfl)
theorem qi3 {x y:Ev} {c:Int} (hc:qDv c x y) (h1:decide (c<0)=false) (h2:(c==0)=true) (h3:decide (x.k<y.k)=false):Pure Tryz.prog 187 #[qae x,qae y] (.bool false):=
 qax (args:=[qae x,qae y]) 300 [Rf hc,.t false,.t true,.t false] (Ai rfl (Ai hc (Ai h1 (Ai h2 (Ai h3 tI))))) (by kernel_rfl)
abbrev qil (b:List Bool) (ev:List Ev) (fr:List Int) (u:List Int) (wh:List Int):HpL:=[(0,0,zrI u),(1,0,zrB b),(2,0,zrI fr),(3,0,qar ev),(4,0,zrI wh)]
theorem qH2 {u fr wh:List Int} {b:List Bool} {ev:List Ev} (hg:Fn 135 3 [.ag [.ls 0 u.length,.ls 1 b.length,.ls 2 fr.length]] [(0,0,zrI u),(1,0,zrB b),(2,0,zrI fr)] (.pv (.bool true)) 0 []) :
 Fn 69 5 [agA u b fr ev wh] (qil b ev fr u wh) (.pv (.bool true)) 0 []:=
 Fz [] [Cf hg [0,1,2]]
  tI (Co hg [0,1,2] 6 tI)
abbrev qFk (b:List Bool) (fr:List Int) (u:List Int):Prop:=Fn 135 3 [.ag [.ls 0 u.length,.ls 1 b.length,.ls 2 fr.length]] [(0,0,zrI u),(1,0,zrB b),(2,0,zrI fr)] (.pv (.bool false)) 0 []
theorem qHN {u fr wh:List Int} {b:List Bool} {ev:List Ev} (hg:qFk b fr u) (h1:decide ((ev.length:Int)>210)=true) :
 Fn 69 5 [agA u b fr ev wh] (qil b ev fr u wh) (.pv (.bool true)) 0 []:=
 Fz [] [Cf hg [0,1,2],.t true]
  tI (Co hg [0,1,2] 6 (Ai h1 tI))
theorem qxz {u fr wh:List Int} {b:List Bool} {ev:List Ev} (hg:qFk b fr u) (h1:decide ((ev.length:Int)>210)=false) (h2:decide ((wh.length:Int)>210)=true) :
 Fn 69 5 [agA u b fr ev wh] (qil b ev fr u wh) (.pv (.bool true)) 0 []:=
 Fz [] [Cf hg [0,1,2],.t false,.t true]
  tI (Co hg [0,1,2] 6 (Ai h1 (Ai h2 tI)))
theorem qsZ {u fr wh:List Int} {b:List Bool} {ev:List Ev} (hg:qFk b fr u) (h1:decide ((ev.length:Int)>210)=false) (h2:decide ((wh.length:Int)>210)=false) :
 Fn 69 5 [agA u b fr ev wh] (qil b ev fr u wh) (.pv (.bool false)) 0 []:=
 Fz [] [Cf hg [0,1,2],.t false,.t false]
  tI (Co hg [0,1,2] 6 (Ai h1 (Ai h2 tI)))
abbrev qdk (b:List Bool) (ev:List Ev) (fr:List Int) (u:List Int) (wh:List Int):HpL:=[(5,0,.ls 0 u.length),(5,1,.ls 1 b.length),(5,2,.ls 2 fr.length),(5,3,.ls 3 ev.length),(5,4,.ls 4 wh.length),(0,0,zrI u),(1,0,zrB b),(2,0,zrI fr),(3,0,qar ev),(4,0,zrI wh)]
abbrev qux (k:Nat) (u:List Int):TmL:=[(1,.pp 5 0),(3,.pv (iV (u.length:Int))),(4,.pv (iV (k:Int)))]
theorem qyv {u fr wh:List Int} {b:List Bool} {ev:List Ev} {z:Int} {k:Nat} (hb:b[k]?=some false) (hib:0≤(k:Int)∧(k:Int)<(b.length:Int)) (hiw:0≤(k:Int)∧(k:Int)<(wh.length:Int)) (hw:wh[k]?=some z) (hlt:decide ((k:Int)<(u.length:Int))=true) (hz:(!(z==-1))=false) (hs:iV (IntKind.i64.wrap ((k:Int)+1))=iV (((k+1:Nat):Int))) {e:Exit} {tm2:TmL} {hp2:HpL}
 (r:Rl 5 5 186 0 82 6 ([(1,.pp 5 0),(3,.pv (iV (u.length:Int))),(4,.pv (iV ((k+1:Nat):Int)))]) (qdk b ev fr u wh) e tm2 hp2):Rl 5 5 186 0 82 6 (qux k u) (qdk b ev fr u wh) e tm2 hp2:=
 RunsL.next [] 300 [.t true,.r (.bool false),.k,.r (iV (z)),.t false,Re hs]
  (Ro (Ai hlt (Ai hib (Ai (qcG hb) (Ai hiw (Ai (qaQ hw) (Ai hz (Ai hs tI)))))))) r
theorem qvA {u fr wh:List Int} {b:List Bool} {ev:List Ev} {z:Int} {k:Nat} (hb:b[k]?=some false) (hib:0≤(k:Int)∧(k:Int)<(b.length:Int)) (hiw:0≤(k:Int)∧(k:Int)<(wh.length:Int)) (hw:wh[k]?=some z) (hlt:decide ((k:Int)<(u.length:Int))=true) (hz:(!(z==-1))=true):Rl 5 5 186 0 82 6 (qux k u) (qdk b ev fr u wh) (.ret) ([(2,.pv (.bool false))]) ([]):=
 RunsL.stop [] 300 [.t true,.r (.bool false),.k,.r (iV (z)),.t true] (fun h=>by cases h)
  (Ro (Ai hlt (Ai hib (Ai (qcG hb) (Ai hiw (Ai (qaQ hw) (Ai hz tI)))))))
theorem qCo {u fr wh:List Int} {b:List Bool} {ev:List Ev} {z:Int} {k:Nat} (hb:b[k]?=some true) (hib:0≤(k:Int)∧(k:Int)<(b.length:Int)) (hiw:0≤(k:Int)∧(k:Int)<(wh.length:Int)) (hw:wh[k]?=some z) (hlt:decide ((k:Int)<(u.length:Int))=true) (h0:decide (z<0)=true):Rl 5 5 186 0 82 6 (qux k u) (qdk b ev fr u wh) (.ret) ([(2,.pv (.bool false))]) ([]):=
 RunsL.stop [] 300 [.t true,.r (.bool true),.k,.r (iV (z)),.t true] (fun h=>by cases h)
  (Ro (Ai hlt (Ai hib (Ai (qcG hb) (Ai hiw (Ai (qaQ hw) (Ai h0 tI)))))))
theorem qAv {u fr wh:List Int} {b:List Bool} {ev:List Ev} {z:Int} {k:Nat} (hb:b[k]?=some true) (hib:0≤(k:Int)∧(k:Int)<(b.length:Int)) (hiw:0≤(k:Int)∧(k:Int)<(wh.length:Int)) (hw:wh[k]?=some z) (hlt:decide ((k:Int)<(u.length:Int))=true) (h0:decide (z<0)=false) (h1:decide (z≥(ev.length:Int))=true):Rl 5 5 186 0 82 6 (qux k u) (qdk b ev fr u wh) (.ret) ([(2,.pv (.bool false))]) ([]):=
 RunsL.stop [] 300 [.t true,.r (.bool true),.k,.r (iV (z)),.t false,.t true] (fun h=>by cases h)
  (Ro (Ai hlt (Ai hib (Ai (qcG hb) (Ai hiw (Ai (qaQ hw) (Ai h0 (Ai h1 tI))))))))
theorem qC5 {u fr wh:List Int} {b:List Bool} {ev:List Ev} {x:Ev} {z:Int} {k:Nat} (hb:b[k]?=some true) (hib:0≤(k:Int)∧(k:Int)<(b.length:Int)) (hiw:0≤(k:Int)∧(k:Int)<(wh.length:Int)) (hw:wh[k]?=some z) (hlt:decide ((k:Int)<(u.length:Int))=true) (h0:decide (z<0)=false) (h1:decide (z≥(ev.length:Int))=false) (hx:ev[z.toNat]?=some x) (hiz:0≤z∧z<(ev.length:Int)) (h2:(!(x.i==(k:Int)))=true):Rl 5 5 186 0 82 6 (qux k u) (qdk b ev fr u wh) (.ret) ([(2,.pv (.bool false))]) ([]):=
 RunsL.stop [] 300 [.t true,.r (.bool true),.k,.r (iV (z)),.t false,.t false,.r (iV (x.i)),.t true] (fun h=>by cases h)
  (Ro (Ai hlt (Ai hib (Ai (qcG hb) (Ai hiw (Ai (qaQ hw) (Ai h0 (Ai h1 (Ai hiz (Ai (qDh hx) (Ai h2 tI)))))))))))
theorem qye {u fr wh:List Int} {b:List Bool} {ev:List Ev} {x:Ev} {z:Int} {k:Nat} (hb:b[k]?=some true) (hib:0≤(k:Int)∧(k:Int)<(b.length:Int)) (hiw:0≤(k:Int)∧(k:Int)<(wh.length:Int)) (hw:wh[k]?=some z) (hlt:decide ((k:Int)<(u.length:Int))=true) (h0:decide (z<0)=false) (h1:decide (z≥(ev.length:Int))=false) (hx:ev[z.toNat]?=some x) (hiz:0≤z∧z<(ev.length:Int)) (h2:(!(x.i==(k:Int)))=false) (hl:Fn 189 3 [.ag [.ls 0 u.length,.ls 1 b.length,.ls 2 fr.length],.pv (qbb x.i x.w)] [(0,0,zrI u),(1,0,zrB b),(2,0,zrI fr)] (.pv (.bool false)) 0 []):Rl 5 5 186 0 82 6 (qux k u) (qdk b ev fr u wh) (.ret) ([(2,.pv (.bool false))]) ([]):=
 RunsL.stop [] 300 [.t true,.r (.bool true),.k,.r (iV (z)),.t false,.t false,.r (iV (x.i)),.t false,.r (qbb x.i x.w),Cf hl [0,1,2],.k] (fun h=>by cases h)
  (Ro (Ai hlt (Ai hib (Ai (qcG hb) (Ai hiw (Ai (qaQ hw) (Ai h0 (Ai h1 (Ai hiz (Ai (qDh hx) (Ai h2 (Ai hiz (Ai (qD3 hx) (Co hl [0,1,2] 6 tI))))))))))))))
theorem qu0 {u fr wh:List Int} {b:List Bool} {ev:List Ev} {x:Ev} {z:Int} {k:Nat} (hb:b[k]?=some true) (hib:0≤(k:Int)∧(k:Int)<(b.length:Int)) (hiw:0≤(k:Int)∧(k:Int)<(wh.length:Int)) (hw:wh[k]?=some z) (hlt:decide ((k:Int)<(u.length:Int))=true) (h0:decide (z<0)=false) (h1:decide (z≥(ev.length:Int))=false) (hx:ev[z.toNat]?=some x) (hiz:0≤z∧z<(ev.length:Int)) (h2:(!(x.i==(k:Int)))=false) (hl:Fn 189 3 [.ag [.ls 0 u.length,.ls 1 b.length,.ls 2 fr.length],.pv (qbb x.i x.w)] [(0,0,zrI u),(1,0,zrB b),(2,0,zrI fr)] (.pv (.bool true)) 0 []) (hs:iV (IntKind.i64.wrap ((k:Int)+1))=iV (((k+1:Nat):Int))) {e:Exit} {tm2:TmL} {hp2:HpL}
 (r:Rl 5 5 186 0 82 6 ([(1,.pp 5 0),(3,.pv (iV (u.length:Int))),(4,.pv (iV ((k+1:Nat):Int)))]) (qdk b ev fr u wh) e tm2 hp2):Rl 5 5 186 0 82 6 (qux k u) (qdk b ev fr u wh) e tm2 hp2:=
 RunsL.next [] 300 [.t true,.r (.bool true),.k,.r (iV (z)),.t false,.t false,.r (iV (x.i)),.t false,.r (qbb x.i x.w),Cf hl [0,1,2],.k,Re hs]
  (Ro (Ai hlt (Ai hib (Ai (qcG hb) (Ai hiw (Ai (qaQ hw) (Ai h0 (Ai h1 (Ai hiz (Ai (qDh hx) (Ai h2 (Ai hiz (Ai (qD3 hx) (Co hl [0,1,2] 6 (Ai hs tI))))))))))))))) r
theorem qAF {u fr wh:List Int} {b:List Bool} {ev:List Ev} {k:Nat} (hge:decide ((k:Int)<(u.length:Int))=false):Rl 5 5 186 0 82 6 (qux k u) (qdk b ev fr u wh) (.exit 0) ([]) ([]):=
 RunsL.stop [] 300 [.t false] (fun h=>by cases h)
  (Ro (Ai hge tI))
theorem qz7 {u fr wh:List Int} {b:List Bool} {ev:List Ev} (h1:(!((wh.length:Int)==(u.length:Int)))=true) :
 Fn 186 5 [agA u b fr ev wh] (qil b ev fr u wh) (.pv (.bool false)) 0 []:=
 Fz [] [.t true]
  tI (Ai h1 tI)
theorem qzr {u fr wh:List Int} {b:List Bool} {ev:List Ev} {z:Int} (h1:(!((wh.length:Int)==(u.length:Int)))=false) (h2:iV (IntKind.i64.wrap ((u.length:Int)-(fr.length:Int)))=iV (z)) (h3:(!((ev.length:Int)==z))=true) :
 Fn 186 5 [agA u b fr ev wh] (qil b ev fr u wh) (.pv (.bool false)) 0 []:=
 Fz [] [.t false,Re h2,.t true]
  tI (Ai h1 (Ai h2 (Ai h3 tI)))
theorem qEJ {u fr wh:List Int} {b:List Bool} {ev:List Ev} {z:Int} (h1:(!((wh.length:Int)==(u.length:Int)))=false) (h2:iV (IntKind.i64.wrap ((u.length:Int)-(fr.length:Int)))=iV (z)) (h3:(!((ev.length:Int)==z))=false) (r0:Rl 5 5 186 0 82 6 ([(1,.pp 5 0),(3,.pv (iV (u.length:Int))),(4,.pv (iV ((0:Nat):Int)))]) (qdk b ev fr u wh) (.ret) ([(2,.pv (.bool false))]) ([])) :
 Fn 186 5 [agA u b fr ev wh] (qil b ev fr u wh) (.pv (.bool false)) 0 []:=
 Fz [] [.t false,Re h2,.t false,Lf r0]
  tI (Ai h1 (Ai h2 (Ai h3 (Lo r0 [] tI))))
theorem qBO {u fr wh:List Int} {b:List Bool} {ev:List Ev} {z:Int} (h1:(!((wh.length:Int)==(u.length:Int)))=false) (h2:iV (IntKind.i64.wrap ((u.length:Int)-(fr.length:Int)))=iV (z)) (h3:(!((ev.length:Int)==z))=false) (r0:Rl 5 5 186 0 82 6 ([(1,.pp 5 0),(3,.pv (iV (u.length:Int))),(4,.pv (iV ((0:Nat):Int)))]) (qdk b ev fr u wh) (.exit 0) ([]) ([])) :
 Fn 186 5 [agA u b fr ev wh] (qil b ev fr u wh) (.pv (.bool true)) 0 []:=
 Fz [] [.t false,Re h2,.t false,Lf r0]
  tI (Ai h1 (Ai h2 (Ai h3 (Lo r0 [] tI))))
abbrev qzm (b:List Bool) (ev:List Ev) (fr:List Int) (m:Ev) (u:List Int) (wh:List Int):HpL:=[(6,0,.pv (iV m.n)),(6,1,.pv (iV m.d)),(6,2,.pv (iV m.k)),(6,3,.pv (iV m.i)),(6,4,.pv (iV m.w)),(5,0,.ls 0 u.length),(5,1,.ls 1 b.length),(5,2,.ls 2 fr.length),(5,3,.ls 3 ev.length),(5,4,.ls 4 wh.length),(0,0,zrI u),(1,0,zrB b),(2,0,zrI fr),(3,0,qar ev),(4,0,zrI wh)]
abbrev qE5 (j:Nat) (k:Nat):TmL:=[(1,.pp 5 0),(3,.pv (iV (k:Int))),(4,.pp 6 0),(5,.pv (iV (j:Int)))]
theorem qBw {u fr wh:List Int} {b:List Bool} {ev:List Ev} {y m:Ev} {k j:Nat} (hj:ev[j]?=some y) (hij:0≤(j:Int)∧(j:Int)<(ev.length:Int)) (hlt:decide ((j:Int)<(k:Int))=true) (hq:(y.k==m.k)=false) (hs:iV (IntKind.i64.wrap ((j:Int)+1))=iV (((j+1:Nat):Int))) {e:Exit} {tm2:TmL} {hp2:HpL}
 (r:Rl 5 5 123 1 76 7 ([(1,.pp 5 0),(3,.pv (iV (k:Int))),(4,.pp 6 0),(5,.pv (iV ((j+1:Nat):Int)))]) (qzm b ev fr m u wh) e tm2 hp2):Rl 5 5 123 1 76 7 (qE5 j k) (qzm b ev fr m u wh) e tm2 hp2:=
 RunsL.next [] 300 [.t true,.r (iV (y.k)),.t false,Re hs]
  (Ro (Ai hlt (Ai hij (Ai (qG9 hj) (Ai hq (Ai hs tI)))))) r
theorem qqC {u fr wh:List Int} {b:List Bool} {ev:List Ev} {y m:Ev} {k j:Nat} (hj:ev[j]?=some y) (hij:0≤(j:Int)∧(j:Int)<(ev.length:Int)) (hlt:decide ((j:Int)<(k:Int))=true) (hq:(y.k==m.k)=true):Rl 5 5 123 1 76 7 (qE5 j k) (qzm b ev fr m u wh) (.ret) ([(2,.pv (iV 8))]) ([]):=
 RunsL.stop [] 300 [.t true,.r (iV (y.k)),.t true] (fun h=>by cases h)
  (Ro (Ai hlt (Ai hij (Ai (qG9 hj) (Ai hq tI)))))
abbrev qus (k:Nat):TmL:=[(1,.pp 5 0),(3,.pv (iV (k:Int)))]
theorem qsl {u fr wh:List Int} {b:List Bool} {ev:List Ev} {m:Ev} {k j:Nat} (hge:decide ((j:Int)<(k:Int))=false):Rl 5 5 123 1 76 7 (qE5 j k) (qzm b ev fr m u wh) (.exit 2) (qus k) (qdk b ev fr u wh):=
 RunsL.stop [] 300 [.t false] (fun h=>by cases h)
  (Ro (Ai hge tI))
theorem qBX {u fr wh:List Int} {b:List Bool} {ev:List Ev} {m:Ev} {k:Nat} (hk:ev[k]?=some m) (hin:0≤(k:Int)∧(k:Int)<(ev.length:Int)) (hlt:decide ((k:Int)<(ev.length:Int))=true) (hc:Pure Tryz.prog 45 #[qaa m.n m.d] (iV (8))):Rl 5 5 123 0 76 6 (qus k) (qdk b ev fr u wh) (.ret) ([(2,.pv (iV 8))]) ([]):=
 RunsL.stop [] 300 [.t true,.r (qae m),Rf hc,.k] (fun h=>by cases h)
  (Ro (Ai hlt (Ai hin (Ai (qcw hk) (Ai hc tI)))))
abbrev qqA (m:Ev):Prop:=Pure Tryz.prog 45 #[qaa m.n m.d] (iV (0))
theorem qBZ {u fr wh:List Int} {b:List Bool} {ev:List Ev} {m:Ev} {k:Nat} (hk:ev[k]?=some m) (hin:0≤(k:Int)∧(k:Int)<(ev.length:Int)) (hlt:decide ((k:Int)<(ev.length:Int))=true) (hc:qqA m) (h1:decide (m.k<0)=true):Rl 5 5 123 0 76 6 (qus k) (qdk b ev fr u wh) (.ret) ([(2,.pv (iV 8))]) ([]):=
 RunsL.stop [] 300 [.t true,.r (qae m),Rf hc,.k,.t true] (fun h=>by cases h)
  (Ro (Ai hlt (Ai hin (Ai (qcw hk) (Ai hc (Ai h1 tI))))))
theorem qAh {u fr wh:List Int} {b:List Bool} {ev:List Ev} {m:Ev} {k:Nat} (hk:ev[k]?=some m) (hin:0≤(k:Int)∧(k:Int)<(ev.length:Int)) (hlt:decide ((k:Int)<(ev.length:Int))=true) (hc:qqA m) (h1:decide (m.k<0)=false) (h2:decide (m.k>1000000)=true):Rl 5 5 123 0 76 6 (qus k) (qdk b ev fr u wh) (.ret) ([(2,.pv (iV 8))]) ([]):=
 RunsL.stop [] 300 [.t true,.r (qae m),Rf hc,.k,.t false,.t true] (fun h=>by cases h)
  (Ro (Ai hlt (Ai hin (Ai (qcw hk) (Ai hc (Ai h1 (Ai h2 tI)))))))
theorem qw1 {u fr wh:List Int} {b:List Bool} {ev:List Ev} {m:Ev} {k:Nat} (hk:ev[k]?=some m) (hin:0≤(k:Int)∧(k:Int)<(ev.length:Int)) (hlt:decide ((k:Int)<(ev.length:Int))=true) (hc:qqA m) (h1:decide (m.k<0)=false) (h2:decide (m.k>1000000)=false) (r1:Rl 5 5 123 1 76 7 ([(1,.pp 5 0),(3,.pv (iV (k:Int))),(4,.pp 6 0),(5,.pv (iV ((0:Nat):Int)))]) (qzm b ev fr m u wh) (.exit 2) (qus k) (qdk b ev fr u wh)) (hs:iV (IntKind.i64.wrap ((k:Int)+1))=iV (((k+1:Nat):Int))) {e:Exit} {tm2:TmL} {hp2:HpL}
 (r:Rl 5 5 123 0 76 6 ([(1,.pp 5 0),(3,.pv (iV ((k+1:Nat):Int)))]) (qdk b ev fr u wh) e tm2 hp2):Rl 5 5 123 0 76 6 (qus k) (qdk b ev fr u wh) e tm2 hp2:=
 RunsL.next [] 300 [.t true,.r (qae m),Rf hc,.k,.t false,.t false,Lf r1,Re hs]
  (Ro (Ai hlt (Ai hin (Ai (qcw hk) (Ai hc (Ai h1 (Ai h2 (Lo r1 [] (Ai hs tI))))))))) r
theorem qCO {u fr wh:List Int} {b:List Bool} {ev:List Ev} {m:Ev} {k:Nat} (hk:ev[k]?=some m) (hin:0≤(k:Int)∧(k:Int)<(ev.length:Int)) (hlt:decide ((k:Int)<(ev.length:Int))=true) (hc:qqA m) (h1:decide (m.k<0)=false) (h2:decide (m.k>1000000)=false) (r1:Rl 5 5 123 1 76 7 ([(1,.pp 5 0),(3,.pv (iV (k:Int))),(4,.pp 6 0),(5,.pv (iV ((0:Nat):Int)))]) (qzm b ev fr m u wh) (.ret) ([(2,.pv (iV 8))]) ([])):Rl 5 5 123 0 76 6 (qus k) (qdk b ev fr u wh) (.ret) ([(2,.pv (iV 8))]) ([]):=
 RunsL.stop [] 300 [.t true,.r (qae m),Rf hc,.k,.t false,.t false,Lf r1] (fun h=>by cases h)
  (Ro (Ai hlt (Ai hin (Ai (qcw hk) (Ai hc (Ai h1 (Ai h2 (Lo r1 [] tI))))))))
theorem qCG {u fr wh:List Int} {b:List Bool} {ev:List Ev} {k:Nat} (hge:decide ((k:Int)<(ev.length:Int))=false):Rl 5 5 123 0 76 6 (qus k) (qdk b ev fr u wh) (.exit 0) ([(1,.pp 5 0)]) (qdk b ev fr u wh):=
 RunsL.stop [] 300 [.t false] (fun h=>by cases h)
  (Ro (Ai hge tI))
theorem qoz {u fr wh:List Int} {b:List Bool} {ev:List Ev} {x y:Ev} {k j q:Nat} (hk:ev[k]?=some x) (hin:0≤(k:Int)∧(k:Int)<(ev.length:Int)) (hj:ev[j]?=some y) (hij:0≤(j:Int)∧(j:Int)<(ev.length:Int)) (hlt:decide ((k:Int)<(ev.length:Int))=true) (hm:iV (IntKind.i64.wrap ((k:Int)-1))=iV (q:Int)) (nz:¬ (2:Int)=0) (hd:iV (IntKind.i64.wrap (Int.tdiv (q:Int) 2))=iV (j:Int)) (hl:Pure Tryz.prog 187 #[qae x,qae y] (.bool false)) (hs:iV (IntKind.i64.wrap ((k:Int)+1))=iV (((k+1:Nat):Int))) {e:Exit} {tm2:TmL} {hp2:HpL}
 (r:Rl 5 5 123 2 76 6 ([(1,.pp 5 0),(6,.pv (iV ((k+1:Nat):Int)))]) (qdk b ev fr u wh) e tm2 hp2):Rl 5 5 123 2 76 6 ([(1,.pp 5 0),(6,.pv (iV (k:Int)))]) (qdk b ev fr u wh) e tm2 hp2:=
 RunsL.next [] 300 [.t true,.r (qae x),Re hm,Re hd,.r (qae y),Rf hl,Re hs]
  (Ro (Ai hlt (Ai hin (Ai (qcw hk) (Ai hm (Ai nz (Ai hd (Ai hij (Ai (qcw hj) (Ai hl (Ai hs tI))))))))))) r
theorem qC4 {u fr wh:List Int} {b:List Bool} {ev:List Ev} {x y:Ev} {k j q:Nat} (hk:ev[k]?=some x) (hin:0≤(k:Int)∧(k:Int)<(ev.length:Int)) (hj:ev[j]?=some y) (hij:0≤(j:Int)∧(j:Int)<(ev.length:Int)) (hlt:decide ((k:Int)<(ev.length:Int))=true) (hm:iV (IntKind.i64.wrap ((k:Int)-1))=iV (q:Int)) (nz:¬ (2:Int)=0) (hd:iV (IntKind.i64.wrap (Int.tdiv (q:Int) 2))=iV (j:Int)) (hl:Pure Tryz.prog 187 #[qae x,qae y] (.bool true)):Rl 5 5 123 2 76 6 ([(1,.pp 5 0),(6,.pv (iV (k:Int)))]) (qdk b ev fr u wh) (.ret) ([(2,.pv (iV 8))]) ([]):=
 RunsL.stop [] 300 [.t true,.r (qae x),Re hm,Re hd,.r (qae y),Rf hl] (fun h=>by cases h)
  (Ro (Ai hlt (Ai hin (Ai (qcw hk) (Ai hm (Ai nz (Ai hd (Ai hij (Ai (qcw hj) (Ai hl tI))))))))))
theorem quC {u fr wh:List Int} {b:List Bool} {ev:List Ev} {k:Nat} (hge:decide ((k:Int)<(ev.length:Int))=false):Rl 5 5 123 2 76 6 ([(1,.pp 5 0),(6,.pv (iV (k:Int)))]) (qdk b ev fr u wh) (.exit 4) ([]) ([]):=
 RunsL.stop [] 300 [.t false] (fun h=>by cases h)
  (Ro (Ai hge tI))
theorem qwA {u fr wh:List Int} {b:List Bool} {ev:List Ev} (hs6:Fn 185 3 [.ag [.ls 0 u.length,.ls 1 b.length,.ls 2 fr.length]] [(0,0,zrI u),(1,0,zrB b),(2,0,zrI fr)] (.pv (iV (8))) 0 []) :
 Fn 123 5 [agA u b fr ev wh] (qil b ev fr u wh) (.pv (iV (8))) 0 []:=
 Fz [] [Cf hs6 [0,1,2],.k]
  tI (Co hs6 [0,1,2] 6 tI)
abbrev qD6 (b:List Bool) (fr:List Int) (u:List Int):Prop:=Fn 185 3 [.ag [.ls 0 u.length,.ls 1 b.length,.ls 2 fr.length]] [(0,0,zrI u),(1,0,zrB b),(2,0,zrI fr)] (.pv (iV (0))) 0 []
theorem qBt {u fr wh:List Int} {b:List Bool} {ev:List Ev} (hs6:qD6 b fr u) (hpl:Fn 186 5 [agA u b fr ev wh] (qil b ev fr u wh) (.pv (.bool false)) 0 []) :
 Fn 123 5 [agA u b fr ev wh] (qil b ev fr u wh) (.pv (iV (8))) 0 []:=
 Fz [] [Cf hs6 [0,1,2],.k,Cf hpl [0,1,2,3,4],.k]
  tI (Co hs6 [0,1,2] 6 (Co hpl [0,1,2,3,4] 6 tI))
theorem qAt {u fr wh:List Int} {b:List Bool} {ev:List Ev} (hs6:qD6 b fr u) (hpl:Fn 186 5 [agA u b fr ev wh] (qil b ev fr u wh) (.pv (.bool true)) 0 []) (r0:Rl 5 5 123 0 76 6 ([(1,.pp 5 0),(3,.pv (iV ((0:Nat):Int)))]) (qdk b ev fr u wh) (.ret) ([(2,.pv (iV 8))]) ([])) :
 Fn 123 5 [agA u b fr ev wh] (qil b ev fr u wh) (.pv (iV (8))) 0 []:=
 Fz [] [Cf hs6 [0,1,2],.k,Cf hpl [0,1,2,3,4],.k,Lf r0]
  tI (Co hs6 [0,1,2] 6 (Co hpl [0,1,2,3,4] 6 (Lo r0 [] tI)))
theorem qC3 {u fr wh:List Int} {b:List Bool} {ev:List Ev} (hs6:qD6 b fr u) (hpl:Fn 186 5 [agA u b fr ev wh] (qil b ev fr u wh) (.pv (.bool true)) 0 []) (r0:Rl 5 5 123 0 76 6 ([(1,.pp 5 0),(3,.pv (iV ((0:Nat):Int)))]) (qdk b ev fr u wh) (.exit 0) ([(1,.pp 5 0)]) (qdk b ev fr u wh)) (r2:Rl 5 5 123 2 76 6 ([(1,.pp 5 0),(6,.pv (iV ((1:Nat):Int)))]) (qdk b ev fr u wh) (.ret) ([(2,.pv (iV 8))]) ([])) :
 Fn 123 5 [agA u b fr ev wh] (qil b ev fr u wh) (.pv (iV (8))) 0 []:=
 Fz [] [Cf hs6 [0,1,2],.k,Cf hpl [0,1,2,3,4],.k,Lf r0,Lf r2]
  tI (Co hs6 [0,1,2] 6 (Co hpl [0,1,2,3,4] 6 (Lo r0 [] (Lo r2 [] tI))))
theorem qBC {u fr wh:List Int} {b:List Bool} {ev:List Ev} (hs6:qD6 b fr u) (hpl:Fn 186 5 [agA u b fr ev wh] (qil b ev fr u wh) (.pv (.bool true)) 0 []) (r0:Rl 5 5 123 0 76 6 ([(1,.pp 5 0),(3,.pv (iV ((0:Nat):Int)))]) (qdk b ev fr u wh) (.exit 0) ([(1,.pp 5 0)]) (qdk b ev fr u wh)) (r2:Rl 5 5 123 2 76 6 ([(1,.pp 5 0),(6,.pv (iV ((1:Nat):Int)))]) (qdk b ev fr u wh) (.exit 4) ([]) ([])) :
 Fn 123 5 [agA u b fr ev wh] (qil b ev fr u wh) (.pv (iV (0))) 0 []:=
 Fz [] [Cf hs6 [0,1,2],.k,Cf hpl [0,1,2,3,4],.k,Lf r0,Lf r2]
  tI (Co hs6 [0,1,2] 6 (Co hpl [0,1,2,3,4] 6 (Lo r0 [] (Lo r2 [] tI))))
end Go.Proofs.YtkckcgpmnipnaaaGreat
