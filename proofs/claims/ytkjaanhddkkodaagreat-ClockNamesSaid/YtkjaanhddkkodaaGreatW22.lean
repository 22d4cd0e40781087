/-
  Joined: Zb, Rt, Rw, Rx, Ct. Conditions: none.
-/
import Derived.Test.YtkjaanhddkkodaaGreatW21
import Derived.Test.YtkjaanhddkkodaaGreatW18
import Derived.Test.YtkjaanhddkkodaaGreatW19
namespace Go.Proofs.YtkjaanhddkkodaaGreat
set_option maxRecDepth 100000
open Go.RowKit
theorem qca (n:Nat):some (SV.row 4 1 n (qc0 [Value.bool false] n))=some (SV.row 4 1 n (zbV (List.replicate n false))):=by rw[qr0]
theorem qAV {x:Int} (h1:decide (1≤x)=false):Pure Tryz.prog 145 #[iV x] (.bool false):=
 qaA (args:=[iV x]) 200 [.t false] (Ai rfl (Ai h1 tI)) (by kernel_rfl)
theorem qyw {x:Int} (h1:decide (1≤x)=true) (h2:decide (x≤200)=false):Pure Tryz.prog 145 #[iV x] (.bool false):=
 qaA (args:=[iV x]) 200 [.t true,.t false] (Ai rfl (Ai h1 (Ai h2 tI))) (by kernel_rfl)
theorem qr8 {x:Int} (h1:decide (1≤x)=true) (h2:decide (x≤200)=true):Pure Tryz.prog 145 #[iV x] (.bool true):=
 qaA (args:=[iV x]) 200 [.t true,.t true] (Ai rfl (Ai h1 (Ai h2 tI))) (by kernel_rfl)
abbrev qfA (b:List Bool) (fr:List Int) (u:List Int):HpL:=[(0,0,zrI u),(1,0,zrB b),(2,0,zrI fr)]
theorem quE {u fr:List Int} {b:List Bool} {x:Int} (h1:decide (0≤x)=false) :
 Fn 231 3 [.ag [.ls 0 u.length,.ls 1 b.length,.ls 2 fr.length],.pv (iV (x))] (qfA b fr u) (.pv (.bool false)) 0 []:=
 Fz [] [.t false]
  tI (Ai h1 tI)
theorem qt5 {u fr:List Int} {b:List Bool} {x:Int} (h1:decide (0≤x)=true) (h2:decide (x<(b.length:Int))=false) :
 Fn 231 3 [.ag [.ls 0 u.length,.ls 1 b.length,.ls 2 fr.length],.pv (iV (x))] (qfA b fr u) (.pv (.bool false)) 0 []:=
 Fz [] [.t true,.t false]
  tI (Ai h1 (Ai h2 tI))
theorem qtO {u fr:List Int} {b:List Bool} {x:Int} (h1:decide (0≤x)=true) (h2:decide (x<(b.length:Int))=true) :
 Fn 231 3 [.ag [.ls 0 u.length,.ls 1 b.length,.ls 2 fr.length],.pv (iV (x))] (qfA b fr u) (.pv (.bool true)) 0 []:=
 Fz [] [.t true,.t true]
  tI (Ai h1 (Ai h2 tI))
abbrev qmX (b:List Bool) (fr:List Int) (u:List Int):HpL:=[(3,0,.ls 0 u.length),(3,1,.ls 1 b.length),(3,2,.ls 2 fr.length),(0,0,zrI u),(1,0,zrB b),(2,0,zrI fr)]
abbrev qul (b:List Bool) (k:Nat):TmL:=[(1,.pp 3 0),(7,.ls 1 b.length),(8,.pv (iV (b.length:Int))),(9,.pv (iV (k:Int)))]
theorem qhl {u fr:List Int} {b:List Bool} {x:Int} {k:Nat} (hb:b[k]?=some true) (hu:u[k]?=some x) (hib:0≤(k:Int)∧(k:Int)<(b.length:Int)) (hiu:0≤(k:Int)∧(k:Int)<(u.length:Int)) (hlt:decide ((k:Int)<(b.length:Int))=true) (h1:decide (x<1)=false) (h2:decide (x>1000000)=false) (hs:iV (IntKind.i64.wrap ((k:Int)+1))=iV (((k+1:Nat):Int))) {e:Exit} {tm2:TmL} {hp2:HpL}
 (r:Rl 3 3 207 0 31 4 ([(1,.pp 3 0),(7,.ls 1 b.length),(8,.pv (iV (b.length:Int))),(9,.pv (iV ((k+1:Nat):Int)))]) (qmX b fr u) e tm2 hp2):Rl 3 3 207 0 31 4 (qul b k) (qmX b fr u) e tm2 hp2:=
 RunsL.next [] 300 [.t true,.r (.bool true),.r (iV x),.t false,.r (iV x),.t false,Re hs]
  (Ro (Ai hlt (Ai hib (Ai (qcy hb) (Ai hiu (Ai (qbb hu) (Ai h1 (Ai hiu (Ai (qbb hu) (Ai h2 (Ai hs tI))))))))))) r
theorem qkA {u fr:List Int} {b:List Bool} {x:Int} {k:Nat} (hb:b[k]?=some true) (hu:u[k]?=some x) (hib:0≤(k:Int)∧(k:Int)<(b.length:Int)) (hiu:0≤(k:Int)∧(k:Int)<(u.length:Int)) (hlt:decide ((k:Int)<(b.length:Int))=true) (h1:decide (x<1)=true):Rl 3 3 207 0 31 4 (qul b k) (qmX b fr u) (.ret) ([(2,.pv (.bool false))]) ([]):=
 RunsL.stop [] 300 [.t true,.r (.bool true),.r (iV x),.t true] (fun h=>by cases h)
  (Ro (Ai hlt (Ai hib (Ai (qcy hb) (Ai hiu (Ai (qbb hu) (Ai h1 tI)))))))
theorem qlL {u fr:List Int} {b:List Bool} {x:Int} {k:Nat} (hb:b[k]?=some true) (hu:u[k]?=some x) (hib:0≤(k:Int)∧(k:Int)<(b.length:Int)) (hiu:0≤(k:Int)∧(k:Int)<(u.length:Int)) (hlt:decide ((k:Int)<(b.length:Int))=true) (h1:decide (x<1)=false) (h2:decide (x>1000000)=true):Rl 3 3 207 0 31 4 (qul b k) (qmX b fr u) (.ret) ([(2,.pv (.bool false))]) ([]):=
 RunsL.stop [] 300 [.t true,.r (.bool true),.r (iV x),.t false,.r (iV x),.t true] (fun h=>by cases h)
  (Ro (Ai hlt (Ai hib (Ai (qcy hb) (Ai hiu (Ai (qbb hu) (Ai h1 (Ai hiu (Ai (qbb hu) (Ai h2 tI))))))))))
theorem qgE {u fr:List Int} {b:List Bool} {x:Int} {k:Nat} (hb:b[k]?=some false) (hu:u[k]?=some x) (hib:0≤(k:Int)∧(k:Int)<(b.length:Int)) (hiu:0≤(k:Int)∧(k:Int)<(u.length:Int)) (hlt:decide ((k:Int)<(b.length:Int))=true) (h1:decide (x<0)=false) (h2:decide (x>1000000)=false) (hs:iV (IntKind.i64.wrap ((k:Int)+1))=iV (((k+1:Nat):Int))) {e:Exit} {tm2:TmL} {hp2:HpL}
 (r:Rl 3 3 207 0 31 4 ([(1,.pp 3 0),(7,.ls 1 b.length),(8,.pv (iV (b.length:Int))),(9,.pv (iV ((k+1:Nat):Int)))]) (qmX b fr u) e tm2 hp2):Rl 3 3 207 0 31 4 (qul b k) (qmX b fr u) e tm2 hp2:=
 RunsL.next [] 300 [.t true,.r (.bool false),.r (iV x),.t false,.r (iV x),.t false,Re hs]
  (Ro (Ai hlt (Ai hib (Ai (qcy hb) (Ai hiu (Ai (qbb hu) (Ai h1 (Ai hiu (Ai (qbb hu) (Ai h2 (Ai hs tI))))))))))) r
theorem qiC {u fr:List Int} {b:List Bool} {x:Int} {k:Nat} (hb:b[k]?=some false) (hu:u[k]?=some x) (hib:0≤(k:Int)∧(k:Int)<(b.length:Int)) (hiu:0≤(k:Int)∧(k:Int)<(u.length:Int)) (hlt:decide ((k:Int)<(b.length:Int))=true) (h1:decide (x<0)=true):Rl 3 3 207 0 31 4 (qul b k) (qmX b fr u) (.ret) ([(2,.pv (.bool false))]) ([]):=
 RunsL.stop [] 300 [.t true,.r (.bool false),.r (iV x),.t true] (fun h=>by cases h)
  (Ro (Ai hlt (Ai hib (Ai (qcy hb) (Ai hiu (Ai (qbb hu) (Ai h1 tI)))))))
theorem qiw {u fr:List Int} {b:List Bool} {x:Int} {k:Nat} (hb:b[k]?=some false) (hu:u[k]?=some x) (hib:0≤(k:Int)∧(k:Int)<(b.length:Int)) (hiu:0≤(k:Int)∧(k:Int)<(u.length:Int)) (hlt:decide ((k:Int)<(b.length:Int))=true) (h1:decide (x<0)=false) (h2:decide (x>1000000)=true):Rl 3 3 207 0 31 4 (qul b k) (qmX b fr u) (.ret) ([(2,.pv (.bool false))]) ([]):=
 RunsL.stop [] 300 [.t true,.r (.bool false),.r (iV x),.t false,.r (iV x),.t true] (fun h=>by cases h)
  (Ro (Ai hlt (Ai hib (Ai (qcy hb) (Ai hiu (Ai (qbb hu) (Ai h1 (Ai hiu (Ai (qbb hu) (Ai h2 tI))))))))))
theorem qAz {u fr:List Int} {b:List Bool} {k:Nat} (hge:decide ((k:Int)<(b.length:Int))=false):Rl 3 3 207 0 31 4 (qul b k) (qmX b fr u) (.exit 0) ([]) ([]):=
 RunsL.stop [] 300 [.t false] (fun h=>by cases h)
  (Ro (Ai hge tI))
theorem qEk {u fr:List Int} {b:List Bool} (r0:Rl 3 3 207 0 31 4 ([(1,.pp 3 0),(7,.ls 1 b.length),(8,.pv (iV (b.length:Int))),(9,.pv (iV ((0:Nat):Int)))]) (qmX b fr u) (.ret) ([(2,.pv (.bool false))]) ([])) :
 Fn 207 3 [.ag [.ls 0 u.length,.ls 1 b.length,.ls 2 fr.length]] (qfA b fr u) (.pv (.bool false)) 0 []:=
 Fz [] [Lf r0]
  tI (Lo r0 [] tI)
theorem qzR {u fr:List Int} {b:List Bool} (r0:Rl 3 3 207 0 31 4 ([(1,.pp 3 0),(7,.ls 1 b.length),(8,.pv (iV (b.length:Int))),(9,.pv (iV ((0:Nat):Int)))]) (qmX b fr u) (.exit 0) ([]) ([])) :
 Fn 207 3 [.ag [.ls 0 u.length,.ls 1 b.length,.ls 2 fr.length]] (qfA b fr u) (.pv (.bool true)) 0 []:=
 Fz [] [Lf r0]
  tI (Lo r0 [] tI)
abbrev qks (b:List Bool) (fr:List Int) (g:List Bool) (u:List Int):HpL:=[(3,0,.ls 0 u.length),(3,1,.ls 1 b.length),(3,2,.ls 2 fr.length),(5,0,.ls 4 b.length),(0,0,zrI u),(1,0,zrB b),(2,0,zrI fr),(4,0,.row 4 1 b.length (zbV g))]
abbrev qB1 (b:List Bool) (k:Nat):TmL:=[(1,.pp 3 0),(3,.pp 5 0),(12,.ls 1 b.length),(13,.pv (iV (b.length:Int))),(14,.pv (iV (k:Int)))]
theorem qhx {u fr:List Int} {b g:List Bool} {k:Nat} (hb:b[k]?=some true) (hib:0≤(k:Int)∧(k:Int)<(b.length:Int)) (hg:k<g.length) (hlt:decide ((k:Int)<(b.length:Int))=true) (hs:iV (IntKind.i64.wrap ((k:Int)+1))=iV (((k+1:Nat):Int))) {e:Exit} {tm2:TmL} {hp2:HpL}
 (r:Rl 3 3 208 0 36 6 ([(1,.pp 3 0),(3,.pp 5 0),(12,.ls 1 b.length),(13,.pv (iV (b.length:Int))),(14,.pv (iV ((k+1:Nat):Int)))]) ([(3,0,.ls 0 u.length),(3,1,.ls 1 b.length),(3,2,.ls 2 fr.length),(5,0,.ls 4 b.length),(0,0,zrI u),(1,0,zrB b),(2,0,zrI fr),(4,0,.row 4 1 b.length (zbV (g.set k false)))]) e tm2 hp2):Rl 3 3 208 0 36 6 (qB1 b k) (qks b fr g u) e tm2 hp2:=
 RunsL.next [] 300 [.t true,.r (.bool true),.k,.w (zbV (g.set k false)),Re hs]
  (Ro (Ai hlt (Ai hib (Ai (qcy hb) (Ai hib (Ai (qwI g k false hg) (Ai (qfE g k hg) (Ai hs tI)))))))) r
theorem qgT {u fr:List Int} {b g:List Bool} {k:Nat} (hb:b[k]?=some false) (hib:0≤(k:Int)∧(k:Int)<(b.length:Int)) (hg:k<g.length) (hlt:decide ((k:Int)<(b.length:Int))=true) (hs:iV (IntKind.i64.wrap ((k:Int)+1))=iV (((k+1:Nat):Int))) {e:Exit} {tm2:TmL} {hp2:HpL}
 (r:Rl 3 3 208 0 36 6 ([(1,.pp 3 0),(3,.pp 5 0),(12,.ls 1 b.length),(13,.pv (iV (b.length:Int))),(14,.pv (iV ((k+1:Nat):Int)))]) ([(3,0,.ls 0 u.length),(3,1,.ls 1 b.length),(3,2,.ls 2 fr.length),(5,0,.ls 4 b.length),(0,0,zrI u),(1,0,zrB b),(2,0,zrI fr),(4,0,.row 4 1 b.length (zbV (g.set k true)))]) e tm2 hp2):Rl 3 3 208 0 36 6 (qB1 b k) (qks b fr g u) e tm2 hp2:=
 RunsL.next [] 300 [.t true,.r (.bool false),.k,.w (zbV (g.set k true)),Re hs]
  (Ro (Ai hlt (Ai hib (Ai (qcy hb) (Ai hib (Ai (qwI g k true hg) (Ai (qfE g k hg) (Ai hs tI)))))))) r
theorem qwY {u fr:List Int} {b g:List Bool} {k:Nat} (hge:decide ((k:Int)<(b.length:Int))=false):Rl 3 3 208 0 36 6 (qB1 b k) (qks b fr g u) (.exit 0) ([(1,.pp 3 0),(3,.pp 5 0)]) (qks b fr g u):=
 RunsL.stop [] 300 [.t false] (fun h=>by cases h)
  (Ro (Ai hge tI))
abbrev qBC (fr:List Int) (k:Nat):TmL:=[(0,.ls 2 fr.length),(1,.pc 230 [.pp 3 0,.pp 5 0]),(7,.pv (iV (fr.length:Int))),(8,.pv (iV (k:Int)))]
theorem qy3 {u fr:List Int} {b g:List Bool} {x:Int} {k:Nat} (hf:fr[k]?=some x) (hif:0≤(k:Int)∧(k:Int)<(fr.length:Int)) (hlt:decide ((k:Int)<(fr.length:Int))=true) (hh:Fn 231 3 [.ag [.ls 0 u.length,.ls 1 b.length,.ls 2 fr.length],.pv (iV (x))] (qfA b fr u) (.pv (.bool false)) 0 []):Rl 3 6 246 0 19 6 (qBC fr k) (qks b fr g u) (.ret) ([(4,.pv (iV (k:Int)))]) (qks b fr g u):=
 RunsL.stop [] 300 [.t true,.r (iV x),.k,Cf hh [0,1,2],.k] (fun h=>by cases h)
  (Ro (Ai hlt (Ai hif (Ai (qbb hf) (Co hh [0,1,2] 6 tI)))))
theorem qtT {u fr:List Int} {b g:List Bool} {x:Int} {k:Nat} (hf:fr[k]?=some x) (hif:0≤(k:Int)∧(k:Int)<(fr.length:Int)) (hlt:decide ((k:Int)<(fr.length:Int))=true) (hh:Fn 231 3 [.ag [.ls 0 u.length,.ls 1 b.length,.ls 2 fr.length],.pv (iV (x))] (qfA b fr u) (.pv (.bool true)) 0 []) (hg:g[x.toNat]?=some false) (hix:0≤x∧x<(b.length:Int)):Rl 3 6 246 0 19 6 (qBC fr k) (qks b fr g u) (.ret) ([(4,.pv (iV (k:Int)))]) (qks b fr g u):=
 RunsL.stop [] 300 [.t true,.r (iV x),.k,Cf hh [0,1,2],.k,.r (.bool false),.k] (fun h=>by cases h)
  (Ro (Ai hlt (Ai hif (Ai (qbb hf) (Co hh [0,1,2] 6 (Ai hix (Ai (qfy hg) tI)))))))
theorem qtL {u fr:List Int} {b g:List Bool} {x:Int} {k:Nat} (hf:fr[k]?=some x) (hif:0≤(k:Int)∧(k:Int)<(fr.length:Int)) (hlt:decide ((k:Int)<(fr.length:Int))=true) (hh:Fn 231 3 [.ag [.ls 0 u.length,.ls 1 b.length,.ls 2 fr.length],.pv (iV (x))] (qfA b fr u) (.pv (.bool true)) 0 []) (hg:g[x.toNat]?=some true) (hix:0≤x∧x<(b.length:Int)) (hgl:x.toNat<g.length) (hs:iV (IntKind.i64.wrap ((k:Int)+1))=iV (((k+1:Nat):Int))) {e:Exit} {tm2:TmL} {hp2:HpL}
 (r:Rl 3 6 246 0 19 6 ([(0,.ls 2 fr.length),(1,.pc 230 [.pp 3 0,.pp 5 0]),(7,.pv (iV (fr.length:Int))),(8,.pv (iV ((k+1:Nat):Int)))]) ([(3,0,.ls 0 u.length),(3,1,.ls 1 b.length),(3,2,.ls 2 fr.length),(5,0,.ls 4 b.length),(0,0,zrI u),(1,0,zrB b),(2,0,zrI fr),(4,0,.row 4 1 b.length (zbV (g.set x.toNat false)))]) e tm2 hp2):Rl 3 6 246 0 19 6 (qBC fr k) (qks b fr g u) e tm2 hp2:=
 RunsL.next [] 300 [.t true,.r (iV x),.k,Cf hh [0,1,2],.k,.r (.bool true),.k,.w (zbV (g.set x.toNat false)),Re hs]
  (Ro (Ai hlt (Ai hif (Ai (qbb hf) (Co hh [0,1,2] 6 (Ai hix (Ai (qfy hg) (Ai hix (Ai (qwI g x.toNat false hgl) (Ai (qfE g x.toNat hgl) (Ai hs tI))))))))))) r
theorem qAO {u fr:List Int} {b g:List Bool} {k:Nat} (hge:decide ((k:Int)<(fr.length:Int))=false):Rl 3 6 246 0 19 6 (qBC fr k) (qks b fr g u) (.exit 0) ([]) (qks b fr g u):=
 RunsL.stop [] 300 [.t false] (fun h=>by cases h)
  (Ro (Ai hge tI))
abbrev qCS (g:List Bool) (k:Nat):TmL:=[(0,.ls 0 g.length),(1,.pv (.bool true)),(7,.pv (iV (g.length:Int))),(8,.pv (iV (k:Int)))]
theorem qt6 {g:List Bool} {k:Nat} (hg:g[k]?=some true) (hig:0≤(k:Int)∧(k:Int)<(g.length:Int)) (hlt:decide ((k:Int)<(g.length:Int))=true):Rl 1 1 247 0 19 1 (qCS g k) ([(0,0,zrB g)]) (.ret) ([(4,.pv (iV (k:Int)))]) ([]):=
 RunsL.stop [] 300 [.t true,.r (.bool true),.k] (fun h=>by cases h)
  (Ro (Ai hlt (Ai hig (Ai (qcy hg) tI))))
theorem qjR {g:List Bool} {k:Nat} (hg:g[k]?=some false) (hig:0≤(k:Int)∧(k:Int)<(g.length:Int)) (hlt:decide ((k:Int)<(g.length:Int))=true) (hs:iV (IntKind.i64.wrap ((k:Int)+1))=iV (((k+1:Nat):Int))) {e:Exit} {tm2:TmL} {hp2:HpL}
 (r:Rl 1 1 247 0 19 1 ([(0,.ls 0 g.length),(1,.pv (.bool true)),(7,.pv (iV (g.length:Int))),(8,.pv (iV ((k+1:Nat):Int)))]) ([(0,0,zrB g)]) e tm2 hp2):Rl 1 1 247 0 19 1 (qCS g k) ([(0,0,zrB g)]) e tm2 hp2:=
 RunsL.next [] 300 [.t true,.r (.bool false),.k,Re hs]
  (Ro (Ai hlt (Ai hig (Ai (qcy hg) (Ai hs tI))))) r
theorem qyI {g:List Bool} {k:Nat} (hge:decide ((k:Int)<(g.length:Int))=false):Rl 1 1 247 0 19 1 (qCS g k) ([(0,0,zrB g)]) (.exit 0) ([]) ([]):=
 RunsL.stop [] 300 [.t false] (fun h=>by cases h)
  (Ro (Ai hge tI))
theorem qzZ {g:List Bool} {k:Nat} (r0:Rl 1 1 247 0 19 1 ([(0,.ls 0 g.length),(1,.pv (.bool true)),(7,.pv (iV (g.length:Int))),(8,.pv (iV ((0:Nat):Int)))]) ([(0,0,zrB g)]) (.ret) ([(4,.pv (iV (k:Int)))]) ([])) (hk:decide ((k:Int)≥0)=true) :
 Fn 233 1 [.ls 0 g.length,.pv (.bool true)] [(0,0,zrB g)] (.pv (.bool true)) 0 []:=
 Fz [] [.k,Lf r0,.t true]
  tI (Lo r0 [] (Ai hk tI))
theorem qBQ {g:List Bool} (r0:Rl 1 1 247 0 19 1 ([(0,.ls 0 g.length),(1,.pv (.bool true)),(7,.pv (iV (g.length:Int))),(8,.pv (iV ((0:Nat):Int)))]) ([(0,0,zrB g)]) (.exit 0) ([]) ([])) :
 Fn 233 1 [.ls 0 g.length,.pv (.bool true)] [(0,0,zrB g)] (.pv (.bool false)) 0 []:=
 Fz [] [.k,Lf r0,.k]
  tI (Lo r0 [] tI)
abbrev qCR (b:List Bool) (fr:List Int) (g:List Bool) (u:List Int):Prop:=Rl 3 3 208 0 36 6 ([(1,.pp 3 0),(3,.pp 5 0),(12,.ls 1 b.length),(13,.pv (iV (b.length:Int))),(14,.pv (iV ((0:Nat):Int)))]) ([(3,0,.ls 0 u.length),(3,1,.ls 1 b.length),(3,2,.ls 2 fr.length),(5,0,.ls 4 b.length),(0,0,zrI u),(1,0,zrB b),(2,0,zrI fr),(4,0,.row 4 1 b.length (zbV (List.replicate b.length false)))]) (.exit 0) ([(1,.pp 3 0),(3,.pp 5 0)]) (qks b fr g u)
theorem qo9 {u fr:List Int} {b g g1:List Bool} {k:Nat} (n0:0≤(b.length:Int)) (n1:(b.length:Int)≤1000000) (r0:qCR b fr g u) (r1:Rl 3 6 246 0 19 6 ([(0,.ls 2 fr.length),(1,.pc 230 [.pp 3 0,.pp 5 0]),(7,.pv (iV (fr.length:Int))),(8,.pv (iV ((0:Nat):Int)))]) (qks b fr g u) (.ret) ([(4,.pv (iV (k:Int)))]) ([(3,0,.ls 0 u.length),(3,1,.ls 1 b.length),(3,2,.ls 2 fr.length),(5,0,.ls 4 b.length),(0,0,zrI u),(1,0,zrB b),(2,0,zrI fr),(4,0,.row 4 1 b.length (zbV g1))])) (hk:decide ((k:Int)≥0)=true) :
 Fn 208 3 [.ag [.ls 0 u.length,.ls 1 b.length,.ls 2 fr.length]] (qfA b fr u) (.pv (.bool false)) 0 []:=
 Fz [] [Lf r0,.k,.k,Lf r1,.t true,.k]
  tI (Ai n0 (Ai (Eq.refl (b.length:Int)) (Ai n1 (Ai (Lt r0 []) (Ai (Ai (Er (SV.ls 0 u.length)) (Ai (Er (SV.ls 1 b.length)) (Ai (Er (SV.ls 2 fr.length)) (Ai (Er (SV.ls 4 b.length)) (Ai (Er (zrI u)) (Ai (Er (zrB b)) (Ai (Er (zrI fr)) (Ai (qca b.length) tI)))))))) (Ai r0 (Lo r1 [] (Ai hk tI))))))))
abbrev qEI (b:List Bool) (fr:List Int) (g:List Bool) (g1:List Bool) (u:List Int):Prop:=Rl 3 6 246 0 19 6 ([(0,.ls 2 fr.length),(1,.pc 230 [.pp 3 0,.pp 5 0]),(7,.pv (iV (fr.length:Int))),(8,.pv (iV ((0:Nat):Int)))]) (qks b fr g u) (.exit 0) ([]) ([(3,0,.ls 0 u.length),(3,1,.ls 1 b.length),(3,2,.ls 2 fr.length),(5,0,.ls 4 b.length),(0,0,zrI u),(1,0,zrB b),(2,0,zrI fr),(4,0,.row 4 1 b.length (zbV g1))])
theorem qvj {u fr:List Int} {b g g1:List Bool} (n0:0≤(b.length:Int)) (n1:(b.length:Int)≤1000000) (r0:qCR b fr g u) (r1:qEI b fr g g1 u) (hl:g1.length=b.length) (hc:Fn 233 1 [.ls 0 b.length,.pv (.bool true)] [(0,0,.row 4 1 b.length (zbV g1))] (.pv (.bool true)) 0 []) :
 Fn 208 3 [.ag [.ls 0 u.length,.ls 1 b.length,.ls 2 fr.length]] (qfA b fr u) (.pv (.bool false)) 0 []:=
 Fz [] [Lf r0,.k,.k,Lf r1,.k,.k,Cf hc [4],.k]
  tI (Ai n0 (Ai (Eq.refl (b.length:Int)) (Ai n1 (Ai (Lt r0 []) (Ai (Ai (Er (SV.ls 0 u.length)) (Ai (Er (SV.ls 1 b.length)) (Ai (Er (SV.ls 2 fr.length)) (Ai (Er (SV.ls 4 b.length)) (Ai (Er (zrI u)) (Ai (Er (zrB b)) (Ai (Er (zrI fr)) (Ai (qca b.length) tI)))))))) (Ai r0 (Lo r1 [] (Co hc [4] 6 tI))))))))
theorem qCw {u fr:List Int} {b g g1:List Bool} (n0:0≤(b.length:Int)) (n1:(b.length:Int)≤1000000) (r0:qCR b fr g u) (r1:qEI b fr g g1 u) (hl:g1.length=b.length) (hc:Fn 233 1 [.ls 0 b.length,.pv (.bool true)] [(0,0,.row 4 1 b.length (zbV g1))] (.pv (.bool false)) 0 []) :
 Fn 208 3 [.ag [.ls 0 u.length,.ls 1 b.length,.ls 2 fr.length]] (qfA b fr u) (.pv (.bool true)) 0 []:=
 Fz [] [Lf r0,.k,.k,Lf r1,.k,.k,Cf hc [4],.k]
  tI (Ai n0 (Ai (Eq.refl (b.length:Int)) (Ai n1 (Ai (Lt r0 []) (Ai (Ai (Er (SV.ls 0 u.length)) (Ai (Er (SV.ls 1 b.length)) (Ai (Er (SV.ls 2 fr.length)) (Ai (Er (SV.ls 4 b.length)) (Ai (Er (zrI u)) (Ai (Er (zrB b)) (Ai (Er (zrI fr)) (Ai (qca b.length) tI)))))))) (Ai r0 (Lo r1 [] (Co hc [4] 6 tI))))))))
theorem qmD {u fr:List Int} {b:List Bool} (hz:Pure Tryz.prog 145 #[iV (u.length:Int)] (.bool false)) :
 Fn 166 3 [.ag [.ls 0 u.length,.ls 1 b.length,.ls 2 fr.length]] (qfA b fr u) (.pv (iV (8))) 0 []:=
 Fz [] [Rf hz,.k]
  tI (Ai hz tI)
abbrev qpt (u:List Int):Prop:=Pure Tryz.prog 145 #[iV (u.length:Int)] (.bool true)
theorem qy1 {u fr:List Int} {b:List Bool} (hz:qpt u) (hl:(!((b.length:Int)==(u.length:Int)))=true) :
 Fn 166 3 [.ag [.ls 0 u.length,.ls 1 b.length,.ls 2 fr.length]] (qfA b fr u) (.pv (iV (8))) 0 []:=
 Fz [] [Rf hz,.k,.t true]
  tI (Ai hz (Ai hl tI))
theorem qzE {u fr:List Int} {b:List Bool} (hz:qpt u) (hl:(!((b.length:Int)==(u.length:Int)))=false) (hu:Fn 207 3 [.ag [.ls 0 u.length,.ls 1 b.length,.ls 2 fr.length]] (qfA b fr u) (.pv (.bool false)) 0 []) :
 Fn 166 3 [.ag [.ls 0 u.length,.ls 1 b.length,.ls 2 fr.length]] (qfA b fr u) (.pv (iV (8))) 0 []:=
 Fz [] [Rf hz,.k,.t false,Cf hu [0,1,2],.k]
  tI (Ai hz (Ai hl (Co hu [0,1,2] 4 tI)))
theorem qvN {u fr:List Int} {b:List Bool} (hz:qpt u) (hl:(!((b.length:Int)==(u.length:Int)))=false) (hu:Fn 207 3 [.ag [.ls 0 u.length,.ls 1 b.length,.ls 2 fr.length]] (qfA b fr u) (.pv (.bool true)) 0 []) (hf:Fn 208 3 [.ag [.ls 0 u.length,.ls 1 b.length,.ls 2 fr.length]] (qfA b fr u) (.pv (.bool false)) 0 []) :
 Fn 166 3 [.ag [.ls 0 u.length,.ls 1 b.length,.ls 2 fr.length]] (qfA b fr u) (.pv (iV (8))) 0 []:=
 Fz [] [Rf hz,.k,.t false,Cf hu [0,1,2],.k,Cf hf [0,1,2],.k]
  tI (Ai hz (Ai hl (Co hu [0,1,2] 4 (Co hf [0,1,2] 4 tI))))
theorem qza {u fr:List Int} {b:List Bool} (hz:qpt u) (hl:(!((b.length:Int)==(u.length:Int)))=false) (hu:Fn 207 3 [.ag [.ls 0 u.length,.ls 1 b.length,.ls 2 fr.length]] (qfA b fr u) (.pv (.bool true)) 0 []) (hf:Fn 208 3 [.ag [.ls 0 u.length,.ls 1 b.length,.ls 2 fr.length]] (qfA b fr u) (.pv (.bool true)) 0 []) :
 Fn 166 3 [.ag [.ls 0 u.length,.ls 1 b.length,.ls 2 fr.length]] (qfA b fr u) (.pv (iV (0))) 0 []:=
 Fz [] [Rf hz,.k,.t false,Cf hu [0,1,2],.k,Cf hu [0,1,2],.k]
  tI (Ai hz (Ai hl (Co hu [0,1,2] 4 (Co hf [0,1,2] 4 tI))))
end Go.Proofs.YtkjaanhddkkodaaGreat

namespace Go.Proofs.YtkjaanhddkkodaaGreat
set_option maxRecDepth 100000
open Go.RowKit
theorem qxP (x y:Nat):Int.tdiv (x:Int) (y:Int)=((x/y:Nat):Int):=by rw[Int.tdiv_eq_ediv_of_nonneg (Int.natCast_nonneg x)];simp
theorem qCg (x y:Nat):Int.tmod (x:Int) (y:Int)=((x%y:Nat):Int):=by rw[Int.tmod_eq_emod_of_nonneg (Int.natCast_nonneg x)];simp
theorem qyM (x:Nat) (h:x<18446744073709551616):Value.int .u64 (IntKind.u64.wrap (Int.tdiv (x:Int) 4294967296))=.int .u64 ((x/4294967296:Nat):Int):=by
 rw[show (4294967296:Int)=((4294967296:Nat):Int) from rfl,qxP,qe6 (by omega) (by omega)]
theorem qx0 (x:Nat):Value.int .u64 (Int.tmod (x:Int) 4294967296)=.int .u64 ((x%4294967296:Nat):Int):=by
 rw[show (4294967296:Int)=((4294967296:Nat):Int) from rfl,qCg]
theorem qBl {x y:Nat} (h:x*y<18446744073709551616):Value.int .u64 (IntKind.u64.wrap ((x:Int)*(y:Int)))=.int .u64 ((x*y:Nat):Int):=qgX (by simp) (Int.natCast_nonneg _) (by omega)
theorem quL {x y:Nat} (h:x+y<18446744073709551616):Value.int .u64 (IntKind.u64.wrap ((x:Int)+(y:Int)))=.int .u64 ((x+y:Nat):Int):=qgX (by simp) (by omega) (by omega)
theorem qyZ (ah al bh bl:Nat):(ah*4294967296+al)*(bh*4294967296+bl)=ah*bh*18446744073709551616+(ah*bl+al*bh)*4294967296+al*bl:=by
 have e1:ah*4294967296*(bh*4294967296)=ah*bh*18446744073709551616:=Nat.mul_mul_mul_comm ah 4294967296 bh 4294967296
 have e2:ah*4294967296*bl=ah*bl*4294967296:=Nat.mul_right_comm ah 4294967296 bl
 have e3:al*(bh*4294967296)=al*bh*4294967296:=(Nat.mul_assoc al bh 4294967296).symm
 rw[Nat.add_mul,Nat.mul_add,Nat.mul_add,e1,e2,e3,Nat.add_mul]
 omega
theorem qnK (a b:Nat) (ha:a<18446744073709551616) (hb:b<18446744073709551616):Pure Tryz.prog 136 #[.int .u64 a,.int .u64 b] (qik false (a*b)):=by
 obtain⟨ah,hah⟩:∃ x,x=a/4294967296:=⟨_,rfl⟩
 obtain⟨al,hal⟩:∃ x,x=a%4294967296:=⟨_,rfl⟩
 obtain⟨bh,hbh⟩:∃ x,x=b/4294967296:=⟨_,rfl⟩
 obtain⟨bl,hbl⟩:∃ x,x=b%4294967296:=⟨_,rfl⟩
 have e1:a=ah*4294967296+al:=by omega
 have e2:b=bh*4294967296+bl:=by omega
 have key:=qyZ ah al bh bl
 rw[← e1,← e2] at key
 have m1:ah*bl≤4294967295*4294967295:=Nat.mul_le_mul (by omega) (by omega)
 have m2:al*bh≤4294967295*4294967295:=Nat.mul_le_mul (by omega) (by omega)
 have m3:ah*bh≤4294967295*4294967295:=Nat.mul_le_mul (by omega) (by omega)
 have m4:al*bl≤4294967295*4294967295:=Nat.mul_le_mul (by omega) (by omega)
 have hab:a*b<340282366920938463463374607431768211456:=by
  have:a*b≤18446744073709551615*18446744073709551615:=Nat.mul_le_mul (by omega) (by omega)
  omega
 have x1:=qBl (x:=al) (y:=bl) (by omega)
 have x2:=qBl (x:=ah) (y:=bl) (by omega)
 have x4:=qBl (x:=al) (y:=bh) (by omega)
 have x6:=qBl (x:=ah) (y:=bh) (by omega)
 have q1:=qyM a ha
 have q2:=qx0 a
 have q3:=qyM b hb
 have q4:=qx0 b
 rw[← hah] at q1
 rw[← hal] at q2
 rw[← hbh] at q3
 rw[← hbl] at q4
 generalize ah*bl=p1 at *
 generalize al*bh=p2 at *
 generalize ah*bh=p3 at *
 generalize al*bl=low at *
 generalize a*b=ab at *
 obtain⟨m,hm⟩:∃ m,m=p1+low/4294967296:=⟨_,rfl⟩
 obtain⟨n,hn⟩:∃ n,n=p2+m%4294967296:=⟨_,rfl⟩
 have r:=qlN (nz:=by decide) q1 q2 q3 q4 x1 x2 (qyM low (by omega)) (quL (by omega)) x4 (qx0 _) (quL (by omega)) x6 (qyM _ (by omega)) (quL (by omega)) (qyM _ (by omega)) (quL (by omega))
  (qx0 _) (qgX (y:=((n%4294967296*4294967296:Nat):Int)) (by rw[hn,hm];simp) (by omega) (by omega)) (qx0 _) (quL (by omega))
 rw[← hm,← hn] at r
 have f1:p3+m/4294967296+n/4294967296=ab/18446744073709551616:=by omega
 have f2:n%4294967296*4294967296+low%4294967296=ab%18446744073709551616:=by omega
 rw[f1,f2] at r
 exact r
abbrev qdV (x:Int):Value:=qik (decide (x<0)) x.natAbs
theorem qdS (n:Int) (h:I64 n):Pure Tryz.prog 128 #[iV n] (.int .u64 (n.natAbs:Int)):=
 fun w=>(qfH n w h.1 h.2).mono fun _ _ ⟨h1,h2⟩=>⟨h1,Gr.of_eq h2⟩
theorem qaR {p:Prop} [Decidable p] (h:p):decide p=true:=by simp[h]
theorem qaF {p:Prop} [Decidable p] (h:¬ p):decide p=false:=by simp[h]
theorem qb5 (a b:Int) (ha:I64 a) (hb:I64 b):Pure Tryz.prog 84 #[iV a,iV b] (qdV (a*b)):=by
 have ca:=qdS a ha
 have cb:=qdS b hb
 unfold I64 at ha hb
 have cp:=qnK a.natAbs b.natAbs (by omega) (by omega)
 unfold qdV
 rw[Int.natAbs_mul]
 by_cases sa:a<0<;>by_cases sb:b<0
 ·rw[qaF (show ¬ a*b<0 by have:=Int.mul_pos_of_neg_of_neg sa sb;omega)]
  exact qlE ca cb cp (qaR sa) (qaR sb)
 ·by_cases nb:b=0
  ·subst nb
   rw[qaF (by simp)]
   exact qkJ ca cb cp (qaR sa) (qaF sb) (by simp;omega) (by simp)
  ·rw[qaR (Int.mul_neg_of_neg_of_pos sa (by omega))]
   exact qlh ca cb cp (qaR sa) (qaF sb) (by simp;omega) (by simpa using nb)
 ·by_cases na:a=0
  ·subst na
   rw[qaF (by simp)]
   exact qk1 ca cb cp (qaF sa) (qaR sb) (by simp)
  ·rw[qaR (Int.mul_neg_of_pos_of_neg (by omega) sb)]
   exact qkt ca cb cp (qaF sa) (qaR sb) (by simpa using na) (by simp;omega)
 ·rw[qaF (show ¬ a*b<0 by have:=Int.mul_nonneg (show 0≤a by omega) (show 0≤b by omega);omega)]
  exact qla ca cb cp (qaF sa) (qaF sb)
theorem qfr (x:Int):Pure Tryz.prog 85 #[qdV x] (iV x.sign):=by
 unfold qdV
 obtain⟨A,hA⟩:∃ A,A=x.natAbs:=⟨_,rfl⟩
 rw[← hA]
 by_cases h0:x=0
 ·subst h0
  subst hA
  exact qsY (by simp) (by simp)
 ·by_cases hs:x<0
  ·rw[qaR hs,Int.sign_eq_neg_one_of_neg hs]
   by_cases hh:A/18446744073709551616=0
   ·exact qqj (by simp[hh]) (by simp;omega)
   ·exact qqT (by simp;omega)
  ·rw[qaF hs,Int.sign_eq_one_of_pos (by omega)]
   by_cases hh:A/18446744073709551616=0
   ·exact qrn (by simp[hh]) (by simp;omega)
   ·exact qqM (by simp;omega)
def qf4 (A B:Nat):Int:=if A<B then -1 else if A=B then 0 else 1
theorem qdP (s t:Bool) (A B:Nat):Pure Tryz.prog 86 #[qik s A,qik t B] (iV (qf4 A B)):=by
 by_cases hh:A/18446744073709551616=B/18446744073709551616
 ·by_cases hl:A%18446744073709551616=B%18446744073709551616
  ·have e:A=B:=by omega
   subst e
   rw[show qf4 A A=0 by simp[qf4]]
   exact qrm (by simp) (by simp)
  ·by_cases hlt:A%18446744073709551616<B%18446744073709551616
   ·rw[show qf4 A B = -1 by unfold qf4;rw[if_pos (by omega)]]
    exact qpu (by simp[hh]) (by simp;omega) (by simp;omega)
   ·rw[show qf4 A B=1 by unfold qf4;rw[if_neg (by omega),if_neg (by omega)]]
    exact qpP (by simp[hh]) (by simp;omega) (by simp;omega)
 ·by_cases hlt:A/18446744073709551616<B/18446744073709551616
  ·rw[show qf4 A B = -1 by unfold qf4;rw[if_pos (by omega)]]
   exact qqV (by simp;omega) (by simp;omega)
  ·rw[show qf4 A B=1 by unfold qf4;rw[if_neg (by omega),if_neg (by omega)]]
   exact qpg (by simp;omega) (by simp;omega)
theorem qi9 {x y:Nat} (h:x<y) (hy:y<18446744073709551616):Value.int .u64 (IntKind.u64.wrap ((x:Int)-(y:Int)))=.int .u64 ((18446744073709551616+x-y:Nat):Int):=by
 rw[IntKind.wrap_u64];congr 1;omega
theorem qeI (s t:Bool) (A B:Nat) (hA:A<340282366920938463463374607431768211456) (h:B≤A):Pure Tryz.prog 236 #[qik s A,qik t B] (qik false (A-B)):=by
 obtain⟨a1,ha1⟩:∃ x,x=A/18446744073709551616:=⟨_,rfl⟩
 obtain⟨a0,ha0⟩:∃ x,x=A%18446744073709551616:=⟨_,rfl⟩
 obtain⟨b1,hb1⟩:∃ x,x=B/18446744073709551616:=⟨_,rfl⟩
 obtain⟨b0,hb0⟩:∃ x,x=B%18446744073709551616:=⟨_,rfl⟩
 unfold qik
 rw[← ha1,← ha0,← hb1,← hb0]
 have hs:Value.int .u64 (IntKind.u64.wrap ((a1:Int)-(b1:Int)))=.int .u64 ((a1-b1:Nat):Int):=qgX (by omega) (by omega) (by omega)
 by_cases hl:a0<b0
 ·rw[show (A-B)/18446744073709551616=a1-b1-1 by omega,show (A-B)%18446744073709551616=18446744073709551616+a0-b0 by omega]
  exact qzr hs (qi9 hl (by omega)) (by simp;omega) (qgX (by omega) (by omega) (by omega))
 ·rw[show (A-B)/18446744073709551616=a1-b1 by omega,show (A-B)%18446744073709551616=a0-b0 by omega]
  exact qyH hs (qgX (by omega) (by omega) (by omega)) (by simp;omega)
theorem qiL {x y z:Nat} (h:x+y=z+18446744073709551616) (hz:z<18446744073709551616):Value.int .u64 (IntKind.u64.wrap ((x:Int)+(y:Int)))=.int .u64 (z:Int):=by
 rw[IntKind.wrap_u64,show ((x:Int)+(y:Int))%18446744073709551616=(z:Int) by omega]
theorem qy5 (s:Bool) (A B:Nat) (h:A+B<340282366920938463463374607431768211456):Pure Tryz.prog 217 #[qik s A,qik s B] (qik s (A+B)):=by
 obtain⟨a1,ha1⟩:∃ x,x=A/18446744073709551616:=⟨_,rfl⟩
 obtain⟨a0,ha0⟩:∃ x,x=A%18446744073709551616:=⟨_,rfl⟩
 obtain⟨b1,hb1⟩:∃ x,x=B/18446744073709551616:=⟨_,rfl⟩
 obtain⟨b0,hb0⟩:∃ x,x=B%18446744073709551616:=⟨_,rfl⟩
 unfold qik
 rw[← ha1,← ha0,← hb1,← hb0]
 have hh:Value.int .u64 (IntKind.u64.wrap ((a1:Int)+(b1:Int)))=.int .u64 ((a1+b1:Nat):Int):=quL (by omega)
 by_cases hl:a0+b0<18446744073709551616
 ·have l1:=quL hl
  rw[show (A+B)/18446744073709551616=a1+b1 by omega,show (A+B)%18446744073709551616=a0+b0 by omega]
  cases s
  ·exact qnQ hh l1 (qaF (by omega))
  ·exact qnw hh l1 (qaF (by omega))
 ·obtain⟨z,hz⟩:∃ z,a0+b0=z+18446744073709551616:=⟨a0+b0-18446744073709551616,by omega⟩
  have l1:=qiL hz (by omega)
  rw[show (A+B)/18446744073709551616=a1+b1+1 by omega,show (A+B)%18446744073709551616=z by omega]
  cases s
  ·exact qnP hh l1 (qaR (by omega)) (qgX (by omega) (by omega) (by omega))
  ·exact qnh hh l1 (qaR (by omega)) (qgX (by omega) (by omega) (by omega))
theorem qoh (x y:Int) (hx:x.natAbs<170141183460469231731687303715884105728) (hy:y.natAbs<170141183460469231731687303715884105728):Pure Tryz.prog 217 #[qdV x,qdV y] (qdV (x+y)):=by
 unfold qdV
 by_cases sx:x<0<;>by_cases sy:y<0
 ·rw[qaR sx,qaR sy,qaR (show x+y<0 by omega),show (x+y).natAbs=x.natAbs+y.natAbs by omega]
  exact qy5 true _ _ (by omega)
 ·rw[qaR sx,qaF sy]
  have cl:=qdP true false x.natAbs y.natAbs
  by_cases hc:y.natAbs≤x.natAbs
  ·have cm:=qeI true false x.natAbs y.natAbs (by omega) hc
   rw[show (x+y).natAbs=x.natAbs-y.natAbs by omega]
   have hge:decide (qf4 x.natAbs y.natAbs≥0)=true:=by unfold qf4;rw[if_neg (by omega)];split<;>decide
   obtain⟨D,hD⟩:∃ D,D=x.natAbs-y.natAbs:=⟨_,rfl⟩
   rw[← hD] at cm ⊢
   by_cases hd:D=0
   ·rw[qaF (show ¬ x+y<0 by omega)]
    exact qmA cl hge cm (by simp[hd]) (by simp[hd])
   ·rw[qaR (show x+y<0 by omega)]
    by_cases hh:D/18446744073709551616=0
    ·exact qnu cl hge cm (by simp[hh]) (by simp;omega)
    ·exact qno cl hge cm (by simp;omega)
  ·have cm:=qeI false true y.natAbs x.natAbs (by omega) (by omega)
   rw[show (x+y).natAbs=y.natAbs-x.natAbs by omega,qaF (show ¬ x+y<0 by omega)]
   exact qqp cl (by unfold qf4;rw[if_pos (by omega)];decide) cm
 ·rw[qaF sx,qaR sy]
  have cl:=qdP false true x.natAbs y.natAbs
  by_cases hc:y.natAbs≤x.natAbs
  ·have cm:=qeI false true x.natAbs y.natAbs (by omega) hc
   rw[show (x+y).natAbs=x.natAbs-y.natAbs by omega,qaF (show ¬ x+y<0 by omega)]
   exact qpl cl (by unfold qf4;rw[if_neg (by omega)];split<;>decide) cm
  ·have cm:=qeI true false y.natAbs x.natAbs (by omega) (by omega)
   rw[show (x+y).natAbs=y.natAbs-x.natAbs by omega,qaR (show x+y<0 by omega)]
   exact qrp cl (by unfold qf4;rw[if_pos (by omega)];decide) cm
 ·rw[qaF sx,qaF sy,qaF (show ¬ x+y<0 by omega),show (x+y).natAbs=x.natAbs+y.natAbs by omega]
  exact qy5 false _ _ (by omega)
theorem ql9 (g s t:Bool) (A B:Nat):Pure Tryz.prog 218 #[.bool g,qik s A,qik t B] (.tuple #[qaa (qea (qbr A&&qbr B) (sgV A g)) (qea (qbr A&&qbr B) (B:Int)),iV (qnt (qbr A&&qbr B))]):=by
 by_cases hA:A<9223372036854775808
 ·by_cases hB:B<9223372036854775808
  ·have hf:(qbr A&&qbr B)=true:=by simp[qbr,hA,hB]
   rw[hf,show qea true (sgV A g)=sgV A g from rfl,show qea true (B:Int)=(B:Int) from rfl,show qnt true=0 from rfl]
   have v1:iV (IntKind.i64.wrap ((A%18446744073709551616:Nat):Int))=iV (A:Int):=by rw[qaq (by omega) (by omega)];congr 1;omega
   have v3:iV (IntKind.i64.wrap ((B%18446744073709551616:Nat):Int))=iV (B:Int):=by rw[qaq (by omega) (by omega)];congr 1;omega
   cases g
   ·rw[show sgV A false=(A:Int) by unfold sgV;rw[if_pos hA];rfl]
    exact qvi (by simp;omega) (by simp;omega) (by simp;omega) (by simp;omega) v1 v3
   ·rw[show sgV A true = -(A:Int) by unfold sgV;rw[if_pos hA];rfl]
    exact qvF (by simp;omega) (by simp;omega) (by simp;omega) (by simp;omega) v1 (by rw[Int.zero_sub,qaq (by omega) (by omega)]) v3
  ·rw[show (qbr A&&qbr B)=false by simp[qbr,hB]]
   by_cases hh:B/18446744073709551616=0
   ·exact qpC (by simp;omega) (by simp;omega) (by simp;omega) (by simp;omega)
   ·exact qpB (by simp;omega) (by simp;omega) (by simp;omega)
 ·rw[show (qbr A&&qbr B)=false by simp[qbr,hA]]
  by_cases hh:A/18446744073709551616=0
  ·exact qqu (by simp;omega) (by simp;omega)
  ·exact qrg (by simp;omega)
end Go.Proofs.YtkjaanhddkkodaaGreat

namespace Go.Proofs.YtkjaanhddkkodaaGreat
set_option maxRecDepth 100000
open Go.RowKit
abbrev qBu (x:Int):Prop:=Pure Tryz.prog 85 #[qdV (x)] (iV x.sign)
abbrev qBK (y:Int):Prop:=Pure Tryz.prog 85 #[qdV (y)] (iV y.sign)
theorem qlK {a b c d x y:Int} (c1:Pure Tryz.prog 84 #[iV a,iV d] (qdV (x))) (c2:Pure Tryz.prog 84 #[iV c,iV b] (qdV (y))) (s1:qBu x) (s2:qBK y) (t1:(x.sign !=y.sign)=true) (t2:decide (x.sign<y.sign)=true) :
 Pure Tryz.prog 40 #[qaa a b,qaa c d] (iV (-1)):=
 qad (args:=[qaa a b,qaa c d]) 200 [Rf c1,Rf c2,Rf s1,Rf s2,.t true,Rf s1,Rf s2,.t true]
  (Ai rfl (Ai c1 (Ai c2 (Ai s1 (Ai s2 (Ai t1 (Ai s1 (Ai s2 (Ai t2 tI))))))))) (by kernel_rfl)
theorem qlX {a b c d x y:Int} (c1:Pure Tryz.prog 84 #[iV a,iV d] (qdV (x))) (c2:Pure Tryz.prog 84 #[iV c,iV b] (qdV (y))) (s1:qBu x) (s2:qBK y) (t1:(x.sign !=y.sign)=true) (t2:decide (x.sign<y.sign)=false) :
 Pure Tryz.prog 40 #[qaa a b,qaa c d] (iV 1):=
 qad (args:=[qaa a b,qaa c d]) 200 [Rf c1,Rf c2,Rf s1,Rf s2,.t true,Rf s1,Rf s2,.t false]
  (Ai rfl (Ai c1 (Ai c2 (Ai s1 (Ai s2 (Ai t1 (Ai s1 (Ai s2 (Ai t2 tI))))))))) (by kernel_rfl)
theorem qkR {a b c d x y e:Int} (c1:Pure Tryz.prog 84 #[iV a,iV d] (qdV (x))) (c2:Pure Tryz.prog 84 #[iV c,iV b] (qdV (y))) (s1:qBu x) (s2:qBK y) (t1:(x.sign !=y.sign)=false) (t3:decide (x.sign<0)=true) (l1:Pure Tryz.prog 86 #[qdV (y),qdV (x)] (iV e)) :
 Pure Tryz.prog 40 #[qaa a b,qaa c d] (iV e):=
 qad (args:=[qaa a b,qaa c d]) 200 [Rf c1,Rf c2,Rf s1,Rf s2,.t false,Rf s1,.t true,Rf l1]
  (Ai rfl (Ai c1 (Ai c2 (Ai s1 (Ai s2 (Ai t1 (Ai s1 (Ai t3 (Ai l1 tI))))))))) (by kernel_rfl)
theorem qlg {a b c d x y e:Int} (c1:Pure Tryz.prog 84 #[iV a,iV d] (qdV (x))) (c2:Pure Tryz.prog 84 #[iV c,iV b] (qdV (y))) (s1:qBu x) (s2:qBK y) (t1:(x.sign !=y.sign)=false) (t3:decide (x.sign<0)=false) (l1:Pure Tryz.prog 86 #[qdV (x),qdV (y)] (iV e)) :
 Pure Tryz.prog 40 #[qaa a b,qaa c d] (iV e):=
 qad (args:=[qaa a b,qaa c d]) 200 [Rf c1,Rf c2,Rf s1,Rf s2,.t false,Rf s1,.t false,Rf l1]
  (Ai rfl (Ai c1 (Ai c2 (Ai s1 (Ai s2 (Ai t1 (Ai s1 (Ai t3 (Ai l1 tI))))))))) (by kernel_rfl)
end Go.Proofs.YtkjaanhddkkodaaGreat

namespace Go.Proofs.YtkjaanhddkkodaaGreat
set_option maxRecDepth 100000
open Go.RowKit
theorem qhh {a b c d:Int} (ha:I64 a) (hb:I64 b) (hc:I64 c) (hd:I64 d):Pure Tryz.prog 40 #[qaa a b,qaa c d] (iV (a*d-c*b).sign):=by
 have c1:=qb5 a d ha hd
 have c2:=qb5 c b hc hb
 generalize a*d=x at *
 generalize c*b=y at *
 have s1:=qfr x
 have s2:=qfr y
 have kx:x<0∧x.sign = -1∨x=0∧x.sign=0∨0<x∧x.sign=1:=by
  rcases Int.lt_trichotomy x 0 with h | h | h
  ·exact Or.inl ⟨h,Int.sign_eq_neg_one_of_neg h⟩
  ·exact Or.inr (Or.inl ⟨h,by rw[h];rfl⟩)
  ·exact Or.inr (Or.inr ⟨h,Int.sign_eq_one_of_pos h⟩)
 have ky:y<0∧y.sign = -1∨y=0∧y.sign=0∨0<y∧y.sign=1:=by
  rcases Int.lt_trichotomy y 0 with h | h | h
  ·exact Or.inl ⟨h,Int.sign_eq_neg_one_of_neg h⟩
  ·exact Or.inr (Or.inl ⟨h,by rw[h];rfl⟩)
  ·exact Or.inr (Or.inr ⟨h,Int.sign_eq_one_of_pos h⟩)
 have kd:x-y<0∧(x-y).sign = -1∨x-y=0∧(x-y).sign=0∨0<x-y∧(x-y).sign=1:=by
  rcases Int.lt_trichotomy (x-y) 0 with h | h | h
  ·exact Or.inl ⟨h,Int.sign_eq_neg_one_of_neg h⟩
  ·exact Or.inr (Or.inl ⟨h,by rw[h];rfl⟩)
  ·exact Or.inr (Or.inr ⟨h,Int.sign_eq_one_of_pos h⟩)
 by_cases he:x.sign=y.sign
 ·by_cases hn:x.sign<0
  ·have l:=qdP (decide (y<0)) (decide (x<0)) y.natAbs x.natAbs
   rw[show (x-y).sign=qf4 y.natAbs x.natAbs by unfold qf4;split<;>(try split)<;>omega]
   exact qkR c1 c2 s1 s2 (by simp[he]) (qaR hn) l
  ·have l:=qdP (decide (x<0)) (decide (y<0)) x.natAbs y.natAbs
   rw[show (x-y).sign=qf4 x.natAbs y.natAbs by unfold qf4;split<;>(try split)<;>omega]
   exact qlg c1 c2 s1 s2 (by simp[he]) (qaF hn) l
 ·by_cases hl:x.sign<y.sign
  ·rw[show (x-y).sign = -1 by omega]
   exact qlK c1 c2 s1 s2 (by simpa using he) (qaR hl)
  ·rw[show (x-y).sign=1 by omega]
   exact qlX c1 c2 s1 s2 (by simpa using he) (qaF hl)
theorem qiT (a b g:Nat) (ha:a<18446744073709551616) (hb:b<18446744073709551616) (hg:g=Nat.gcd a b):Pure Tryz.prog 127 #[.int .u64 a,.int .u64 b] (.int .u64 (g:Int)):=
 fun w=>hg▸qmU a b w ha hb
theorem qEw {x y:Nat} (h:x<18446744073709551616):Value.int .u64 (IntKind.u64.wrap ((x:Int).tdiv (y:Int)))=.int .u64 ((x/y:Nat):Int):=qgX (qxP x y) (Int.natCast_nonneg _) (by have:=Nat.div_le_self x y;omega)
theorem qsF {f:Bool} {U:Nat} (h:f=true→U<9223372036854775808):qea f (sgV U false)=qea f (U:Int):=by
 cases f
 ·rfl
 ·show sgV U false=(U:Int)
  unfold sgV
  rw[if_pos (h rfl)]
  rfl
end Go.Proofs.YtkjaanhddkkodaaGreat

namespace Go.Proofs.YtkjaanhddkkodaaGreat
set_option maxRecDepth 100000
open Go.RowKit
theorem qef (X:Int):(X.sign≥0)↔0≤X:=by
 rcases Int.lt_trichotomy X 0 with h | h | h
 ·rw[Int.sign_eq_neg_one_of_neg h];omega
 ·rw[h];decide
 ·rw[Int.sign_eq_one_of_pos h];omega
theorem qfJ {pi pa pb qi qa qb n d m k:Int} (k0:0<k) (h4:m*(pb-qb)=(qa-pa)*k) (hb:pb≠qb) :
 qbk (pa*d+pb*n) (qa*d+qb*n) pb qb pi qi=(decide (pb>qb)==decide ((n*k-m*d).sign≥0)):=by
 have key:(pa*d+pb*n-(qa*d+qb*n))*k=(pb-qb)*(n*k-m*d):=by
  have e1:(pb-qb)*(m*d)=(qa-pa)*k*d:=by rw[← h4,← Int.mul_assoc,Int.mul_comm (pb-qb) m]
  rw[Int.mul_sub,e1,Int.sub_mul,Int.add_mul,Int.add_mul,Int.sub_mul,Int.sub_mul,Int.sub_mul,← Int.mul_assoc,← Int.mul_assoc,Int.mul_right_comm qa k d,Int.mul_right_comm pa k d]
  omega
 have hs:=qef (n*k-m*d)
 generalize n*k-m*d=X at *
 generalize pa*d+pb*n=P at *
 generalize qa*d+qb*n=Q at *
 have hk:((P-Q)*k<0↔P-Q<0)∧(0<(P-Q)*k↔0<P-Q):=by
  rcases Int.lt_trichotomy (P-Q) 0 with h | h | h
  ·have:=Int.mul_neg_of_neg_of_pos h k0;omega
  ·rw[h];simp
  ·have:=Int.mul_pos h k0;omega
 have hx:((pb-qb)*X<0↔(pb>qb∧X<0∨pb<qb∧0<X))∧(0<(pb-qb)*X↔(pb>qb∧0<X∨pb<qb∧X<0)):=by
  rcases Int.lt_trichotomy X 0 with h | h | h
  ·rcases Int.lt_or_gt_of_ne hb with g | g
   ·have:=Int.mul_pos_of_neg_of_neg (show pb-qb<0 by omega) h;omega
   ·have:=Int.mul_neg_of_pos_of_neg (show 0<pb-qb by omega) h;omega
  ·rw[h];simp
  ·rcases Int.lt_or_gt_of_ne hb with g | g
   ·have:=Int.mul_neg_of_neg_of_pos (show pb-qb<0 by omega) h;omega
   ·have:=Int.mul_pos (show 0<pb-qb by omega) h;omega
 rw[key] at hk
 by_cases g:pb>qb
 ·by_cases l:0≤X
  ·rw[dt g,dt (hs.2 l)];exact qdi (by omega)
  ·rw[dt g,df (fun h=>l (hs.1 h))];exact qcV (by omega)
 ·by_cases l:0≤X
  ·rw[df g,dt (hs.2 l)];exact qcV (by omega)
  ·rw[df g,df (fun h=>l (hs.1 h))];exact qdi (by omega)
theorem qfQ {pi pa b qi qa n d:Int} (d0:0<d):qbk (pa*d+b*n) (qa*d+b*n) b b pi qi=qbk pa qa b b pi qi:=by
 have e:pa*d-qa*d=(pa-qa)*d:=(Int.sub_mul _ _ _).symm
 have hk:((pa-qa)*d<0↔pa-qa<0)∧(0<(pa-qa)*d↔0<pa-qa):=by
  rcases Int.lt_trichotomy (pa-qa) 0 with h | h | h
  ·have:=Int.mul_neg_of_neg_of_pos h d0;omega
  ·rw[h];simp
  ·have:=Int.mul_pos h d0;omega
 unfold qbk
 rw[← e] at hk
 exact decide_eq_decide.2 (by omega)
theorem qkw {pi pa pb qi qa qb:Int} (h:pi≠qi):Pure Tryz.prog 142 #[qac pi pa pb,qac qi qa qb] (iV 0):=qCu (by simp[h])
theorem qhe {pi pa pb qi qa qb:Int} (hp:okP pi pa pb=true) (hq:okP qi qa qb=true) (hb:pb≠qb) :
 ∃ m k,okB m k=true∧I64 m∧I64 k∧m*(pb-qb)=(qa-pa)*k∧Pure Tryz.prog 188 #[qac pi pa pb,qac qi qa qb] (qaa m k)∧Pure Tryz.prog 188 #[qac qi qa qb,qac pi pa pb] (qaa m k):=by
 obtain⟨m,k,h1,h2,h3,h4,h5⟩:=qfL hp hq hb
 obtain⟨m',k',g1,g2,g3,g4,g5⟩:=qfL hq hp (Ne.symm hb)
 have e:m*k'=m'*k:=by
  refine Int.eq_of_mul_eq_mul_right (show pb-qb≠0 by omega) ?_
  have a1:m*k'*(pb-qb)=(qa-pa)*k*k':=by rw[Int.mul_right_comm,h4]
  have a2:m'*k*(pb-qb) = -((pa-qa)*k'*k):=by
   rw[Int.mul_right_comm,← Int.neg_mul,← g4,← Int.mul_neg];congr 2;omega
  rw[a1,a2,← Int.neg_mul,← Int.neg_mul,Int.mul_right_comm (qa-pa) k k']
  congr 2;omega
 obtain⟨rfl,rfl⟩:=qgL h1 g1 e
 exact⟨m,k,h1,h2,h3,h4,h5,g5⟩
end Go.Proofs.YtkjaanhddkkodaaGreat
