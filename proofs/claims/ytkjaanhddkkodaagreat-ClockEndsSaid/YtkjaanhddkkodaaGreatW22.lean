/-
  Joined: Zb, Rt, Rw, Rx, Ct. Conditions: none.
-/
import Derived.Test.YtkjaanhddkkodaaGreatW21
import Derived.Test.YtkjaanhddkkodaaGreatW18
import Derived.Test.YtkjaanhddkkodaaGreatW19
namespace Go.Proofs.YtkjaanhddkkodaaGreat
set_option maxRecDepth 100000
open Go.RowKit
theorem qcp (n:Nat):some (SV.row 4 1 n (qc8 [Value.bool false] n))=some (SV.row 4 1 n (zbV (List.replicate n false))):=by rw[qrE]
theorem qz2 {x:Int} (h1:decide (1≤x)=false):Pure Tryz.prog 145 #[iV x] (.bool false):=
 qaz (args:=[iV x]) 200 [.t false] (Ai rfl (Ai h1 tI)) (by kernel_rfl)
theorem qxW {x:Int} (h1:decide (1≤x)=true) (h2:decide (x≤200)=false):Pure Tryz.prog 145 #[iV x] (.bool false):=
 qaz (args:=[iV x]) 200 [.t true,.t false] (Ai rfl (Ai h1 (Ai h2 tI))) (by kernel_rfl)
theorem qrC {x:Int} (h1:decide (1≤x)=true) (h2:decide (x≤200)=true):Pure Tryz.prog 145 #[iV x] (.bool true):=
 qaz (args:=[iV x]) 200 [.t true,.t true] (Ai rfl (Ai h1 (Ai h2 tI))) (by kernel_rfl)
abbrev qfw (b:List Bool) (fr:List Int) (u:List Int):HpL:=[(0,0,zrI u),(1,0,zrB b),(2,0,zrI fr)]
theorem qtS {u fr:List Int} {b:List Bool} {x:Int} (h1:decide (0≤x)=false) :
 Fn 231 3 [.ag [.ls 0 u.length,.ls 1 b.length,.ls 2 fr.length],.pv (iV (x))] (qfw b fr u) (.pv (.bool false)) 0 []:=
 Fz [] [.t false]
  tI (Ai h1 tI)
theorem qsj {u fr:List Int} {b:List Bool} {x:Int} (h1:decide (0≤x)=true) (h2:decide (x<(b.length:Int))=false) :
 Fn 231 3 [.ag [.ls 0 u.length,.ls 1 b.length,.ls 2 fr.length],.pv (iV (x))] (qfw b fr u) (.pv (.bool false)) 0 []:=
 Fz [] [.t true,.t false]
  tI (Ai h1 (Ai h2 tI))
theorem qug {u fr:List Int} {b:List Bool} {x:Int} (h1:decide (0≤x)=true) (h2:decide (x<(b.length:Int))=true) :
 Fn 231 3 [.ag [.ls 0 u.length,.ls 1 b.length,.ls 2 fr.length],.pv (iV (x))] (qfw b fr u) (.pv (.bool true)) 0 []:=
 Fz [] [.t true,.t true]
  tI (Ai h1 (Ai h2 tI))
abbrev qnM (b:List Bool) (fr:List Int) (u:List Int):HpL:=[(3,0,.ls 0 u.length),(3,1,.ls 1 b.length),(3,2,.ls 2 fr.length),(0,0,zrI u),(1,0,zrB b),(2,0,zrI fr)]
abbrev qv0 (b:List Bool) (k:Nat):TmL:=[(1,.pp 3 0),(7,.ls 1 b.length),(8,.pv (iV (b.length:Int))),(9,.pv (iV (k:Int)))]
theorem qhU {u fr:List Int} {b:List Bool} {x:Int} {k:Nat} (hb:b[k]?=some true) (hu:u[k]?=some x) (hib:0≤(k:Int)∧(k:Int)<(b.length:Int)) (hiu:0≤(k:Int)∧(k:Int)<(u.length:Int)) (hlt:decide ((k:Int)<(b.length:Int))=true) (h1:decide (x<1)=false) (h2:decide (x>1000000)=false) (hs:iV (IntKind.i64.wrap ((k:Int)+1))=iV (((k+1:Nat):Int))) {e:Exit} {tm2:TmL} {hp2:HpL}
 (r:Rl 3 3 207 0 31 4 ([(1,.pp 3 0),(7,.ls 1 b.length),(8,.pv (iV (b.length:Int))),(9,.pv (iV ((k+1:Nat):Int)))]) (qnM b fr u) e tm2 hp2):Rl 3 3 207 0 31 4 (qv0 b k) (qnM b fr u) e tm2 hp2:=
 RunsL.next [] 300 [.t true,.r (.bool true),.r (iV x),.t false,.r (iV x),.t false,Re hs]
  (Ro (Ai hlt (Ai hib (Ai (qcP hb) (Ai hiu (Ai (qbb hu) (Ai h1 (Ai hiu (Ai (qbb hu) (Ai h2 (Ai hs tI))))))))))) r
theorem qkV {u fr:List Int} {b:List Bool} {x:Int} {k:Nat} (hb:b[k]?=some true) (hu:u[k]?=some x) (hib:0≤(k:Int)∧(k:Int)<(b.length:Int)) (hiu:0≤(k:Int)∧(k:Int)<(u.length:Int)) (hlt:decide ((k:Int)<(b.length:Int))=true) (h1:decide (x<1)=true):Rl 3 3 207 0 31 4 (qv0 b k) (qnM b fr u) (.ret) ([(2,.pv (.bool false))]) ([]):=
 RunsL.stop [] 300 [.t true,.r (.bool true),.r (iV x),.t true] (fun h=>by cases h)
  (Ro (Ai hlt (Ai hib (Ai (qcP hb) (Ai hiu (Ai (qbb hu) (Ai h1 tI)))))))
theorem qk0 {u fr:List Int} {b:List Bool} {x:Int} {k:Nat} (hb:b[k]?=some true) (hu:u[k]?=some x) (hib:0≤(k:Int)∧(k:Int)<(b.length:Int)) (hiu:0≤(k:Int)∧(k:Int)<(u.length:Int)) (hlt:decide ((k:Int)<(b.length:Int))=true) (h1:decide (x<1)=false) (h2:decide (x>1000000)=true):Rl 3 3 207 0 31 4 (qv0 b k) (qnM b fr u) (.ret) ([(2,.pv (.bool false))]) ([]):=
 RunsL.stop [] 300 [.t true,.r (.bool true),.r (iV x),.t false,.r (iV x),.t true] (fun h=>by cases h)
  (Ro (Ai hlt (Ai hib (Ai (qcP hb) (Ai hiu (Ai (qbb hu) (Ai h1 (Ai hiu (Ai (qbb hu) (Ai h2 tI))))))))))
theorem qgT {u fr:List Int} {b:List Bool} {x:Int} {k:Nat} (hb:b[k]?=some false) (hu:u[k]?=some x) (hib:0≤(k:Int)∧(k:Int)<(b.length:Int)) (hiu:0≤(k:Int)∧(k:Int)<(u.length:Int)) (hlt:decide ((k:Int)<(b.length:Int))=true) (h1:decide (x<0)=false) (h2:decide (x>1000000)=false) (hs:iV (IntKind.i64.wrap ((k:Int)+1))=iV (((k+1:Nat):Int))) {e:Exit} {tm2:TmL} {hp2:HpL}
 (r:Rl 3 3 207 0 31 4 ([(1,.pp 3 0),(7,.ls 1 b.length),(8,.pv (iV (b.length:Int))),(9,.pv (iV ((k+1:Nat):Int)))]) (qnM b fr u) e tm2 hp2):Rl 3 3 207 0 31 4 (qv0 b k) (qnM b fr u) e tm2 hp2:=
 RunsL.next [] 300 [.t true,.r (.bool false),.r (iV x),.t false,.r (iV x),.t false,Re hs]
  (Ro (Ai hlt (Ai hib (Ai (qcP hb) (Ai hiu (Ai (qbb hu) (Ai h1 (Ai hiu (Ai (qbb hu) (Ai h2 (Ai hs tI))))))))))) r
theorem qiM {u fr:List Int} {b:List Bool} {x:Int} {k:Nat} (hb:b[k]?=some false) (hu:u[k]?=some x) (hib:0≤(k:Int)∧(k:Int)<(b.length:Int)) (hiu:0≤(k:Int)∧(k:Int)<(u.length:Int)) (hlt:decide ((k:Int)<(b.length:Int))=true) (h1:decide (x<0)=true):Rl 3 3 207 0 31 4 (qv0 b k) (qnM b fr u) (.ret) ([(2,.pv (.bool false))]) ([]):=
 RunsL.stop [] 300 [.t true,.r (.bool false),.r (iV x),.t true] (fun h=>by cases h)
  (Ro (Ai hlt (Ai hib (Ai (qcP hb) (Ai hiu (Ai (qbb hu) (Ai h1 tI)))))))
theorem qis {u fr:List Int} {b:List Bool} {x:Int} {k:Nat} (hb:b[k]?=some false) (hu:u[k]?=some x) (hib:0≤(k:Int)∧(k:Int)<(b.length:Int)) (hiu:0≤(k:Int)∧(k:Int)<(u.length:Int)) (hlt:decide ((k:Int)<(b.length:Int))=true) (h1:decide (x<0)=false) (h2:decide (x>1000000)=true):Rl 3 3 207 0 31 4 (qv0 b k) (qnM b fr u) (.ret) ([(2,.pv (.bool false))]) ([]):=
 RunsL.stop [] 300 [.t true,.r (.bool false),.r (iV x),.t false,.r (iV x),.t true] (fun h=>by cases h)
  (Ro (Ai hlt (Ai hib (Ai (qcP hb) (Ai hiu (Ai (qbb hu) (Ai h1 (Ai hiu (Ai (qbb hu) (Ai h2 tI))))))))))
theorem qyn {u fr:List Int} {b:List Bool} {k:Nat} (hge:decide ((k:Int)<(b.length:Int))=false):Rl 3 3 207 0 31 4 (qv0 b k) (qnM b fr u) (.exit 0) ([]) ([]):=
 RunsL.stop [] 300 [.t false] (fun h=>by cases h)
  (Ro (Ai hge tI))
theorem qCy {u fr:List Int} {b:List Bool} (r0:Rl 3 3 207 0 31 4 ([(1,.pp 3 0),(7,.ls 1 b.length),(8,.pv (iV (b.length:Int))),(9,.pv (iV ((0:Nat):Int)))]) (qnM b fr u) (.ret) ([(2,.pv (.bool false))]) ([])) :
 Fn 207 3 [.ag [.ls 0 u.length,.ls 1 b.length,.ls 2 fr.length]] (qfw b fr u) (.pv (.bool false)) 0 []:=
 Fz [] [Lf r0]
  tI (Lo r0 [] tI)
theorem qwN {u fr:List Int} {b:List Bool} (r0:Rl 3 3 207 0 31 4 ([(1,.pp 3 0),(7,.ls 1 b.length),(8,.pv (iV (b.length:Int))),(9,.pv (iV ((0:Nat):Int)))]) (qnM b fr u) (.exit 0) ([]) ([])) :
 Fn 207 3 [.ag [.ls 0 u.length,.ls 1 b.length,.ls 2 fr.length]] (qfw b fr u) (.pv (.bool true)) 0 []:=
 Fz [] [Lf r0]
  tI (Lo r0 [] tI)
abbrev qjp (b:List Bool) (fr:List Int) (g:List Bool) (u:List Int):HpL:=[(3,0,.ls 0 u.length),(3,1,.ls 1 b.length),(3,2,.ls 2 fr.length),(5,0,.ls 4 b.length),(0,0,zrI u),(1,0,zrB b),(2,0,zrI fr),(4,0,.row 4 1 b.length (zbV g))]
abbrev qCE (b:List Bool) (k:Nat):TmL:=[(1,.pp 3 0),(3,.pp 5 0),(12,.ls 1 b.length),(13,.pv (iV (b.length:Int))),(14,.pv (iV (k:Int)))]
theorem qhW {u fr:List Int} {b g:List Bool} {k:Nat} (hb:b[k]?=some true) (hib:0≤(k:Int)∧(k:Int)<(b.length:Int)) (hg:k<g.length) (hlt:decide ((k:Int)<(b.length:Int))=true) (hs:iV (IntKind.i64.wrap ((k:Int)+1))=iV (((k+1:Nat):Int))) {e:Exit} {tm2:TmL} {hp2:HpL}
 (r:Rl 3 3 208 0 36 6 ([(1,.pp 3 0),(3,.pp 5 0),(12,.ls 1 b.length),(13,.pv (iV (b.length:Int))),(14,.pv (iV ((k+1:Nat):Int)))]) ([(3,0,.ls 0 u.length),(3,1,.ls 1 b.length),(3,2,.ls 2 fr.length),(5,0,.ls 4 b.length),(0,0,zrI u),(1,0,zrB b),(2,0,zrI fr),(4,0,.row 4 1 b.length (zbV (g.set k false)))]) e tm2 hp2):Rl 3 3 208 0 36 6 (qCE b k) (qjp b fr g u) e tm2 hp2:=
 RunsL.next [] 300 [.t true,.r (.bool true),.k,.w (zbV (g.set k false)),Re hs]
  (Ro (Ai hlt (Ai hib (Ai (qcP hb) (Ai hib (Ai (qwq g k false hg) (Ai (qfS g k hg) (Ai hs tI)))))))) r
theorem qgy {u fr:List Int} {b g:List Bool} {k:Nat} (hb:b[k]?=some false) (hib:0≤(k:Int)∧(k:Int)<(b.length:Int)) (hg:k<g.length) (hlt:decide ((k:Int)<(b.length:Int))=true) (hs:iV (IntKind.i64.wrap ((k:Int)+1))=iV (((k+1:Nat):Int))) {e:Exit} {tm2:TmL} {hp2:HpL}
 (r:Rl 3 3 208 0 36 6 ([(1,.pp 3 0),(3,.pp 5 0),(12,.ls 1 b.length),(13,.pv (iV (b.length:Int))),(14,.pv (iV ((k+1:Nat):Int)))]) ([(3,0,.ls 0 u.length),(3,1,.ls 1 b.length),(3,2,.ls 2 fr.length),(5,0,.ls 4 b.length),(0,0,zrI u),(1,0,zrB b),(2,0,zrI fr),(4,0,.row 4 1 b.length (zbV (g.set k true)))]) e tm2 hp2):Rl 3 3 208 0 36 6 (qCE b k) (qjp b fr g u) e tm2 hp2:=
 RunsL.next [] 300 [.t true,.r (.bool false),.k,.w (zbV (g.set k true)),Re hs]
  (Ro (Ai hlt (Ai hib (Ai (qcP hb) (Ai hib (Ai (qwq g k true hg) (Ai (qfS g k hg) (Ai hs tI)))))))) r
theorem qyx {u fr:List Int} {b g:List Bool} {k:Nat} (hge:decide ((k:Int)<(b.length:Int))=false):Rl 3 3 208 0 36 6 (qCE b k) (qjp b fr g u) (.exit 0) ([(1,.pp 3 0),(3,.pp 5 0)]) (qjp b fr g u):=
 RunsL.stop [] 300 [.t false] (fun h=>by cases h)
  (Ro (Ai hge tI))
abbrev qAS (fr:List Int) (k:Nat):TmL:=[(0,.ls 2 fr.length),(1,.pc 230 [.pp 3 0,.pp 5 0]),(7,.pv (iV (fr.length:Int))),(8,.pv (iV (k:Int)))]
theorem qxr {u fr:List Int} {b g:List Bool} {x:Int} {k:Nat} (hf:fr[k]?=some x) (hif:0≤(k:Int)∧(k:Int)<(fr.length:Int)) (hlt:decide ((k:Int)<(fr.length:Int))=true) (hh:Fn 231 3 [.ag [.ls 0 u.length,.ls 1 b.length,.ls 2 fr.length],.pv (iV (x))] (qfw b fr u) (.pv (.bool false)) 0 []):Rl 3 6 246 0 19 6 (qAS fr k) (qjp b fr g u) (.ret) ([(4,.pv (iV (k:Int)))]) (qjp b fr g u):=
 RunsL.stop [] 300 [.t true,.r (iV x),.k,Cf hh [0,1,2],.k] (fun h=>by cases h)
  (Ro (Ai hlt (Ai hif (Ai (qbb hf) (Co hh [0,1,2] 6 tI)))))
theorem quP {u fr:List Int} {b g:List Bool} {x:Int} {k:Nat} (hf:fr[k]?=some x) (hif:0≤(k:Int)∧(k:Int)<(fr.length:Int)) (hlt:decide ((k:Int)<(fr.length:Int))=true) (hh:Fn 231 3 [.ag [.ls 0 u.length,.ls 1 b.length,.ls 2 fr.length],.pv (iV (x))] (qfw b fr u) (.pv (.bool true)) 0 []) (hg:g[x.toNat]?=some false) (hix:0≤x∧x<(b.length:Int)):Rl 3 6 246 0 19 6 (qAS fr k) (qjp b fr g u) (.ret) ([(4,.pv (iV (k:Int)))]) (qjp b fr g u):=
 RunsL.stop [] 300 [.t true,.r (iV x),.k,Cf hh [0,1,2],.k,.r (.bool false),.k] (fun h=>by cases h)
  (Ro (Ai hlt (Ai hif (Ai (qbb hf) (Co hh [0,1,2] 6 (Ai hix (Ai (qfs hg) tI)))))))
theorem qtM {u fr:List Int} {b g:List Bool} {x:Int} {k:Nat} (hf:fr[k]?=some x) (hif:0≤(k:Int)∧(k:Int)<(fr.length:Int)) (hlt:decide ((k:Int)<(fr.length:Int))=true) (hh:Fn 231 3 [.ag [.ls 0 u.length,.ls 1 b.length,.ls 2 fr.length],.pv (iV (x))] (qfw b fr u) (.pv (.bool true)) 0 []) (hg:g[x.toNat]?=some true) (hix:0≤x∧x<(b.length:Int)) (hgl:x.toNat<g.length) (hs:iV (IntKind.i64.wrap ((k:Int)+1))=iV (((k+1:Nat):Int))) {e:Exit} {tm2:TmL} {hp2:HpL}
 (r:Rl 3 6 246 0 19 6 ([(0,.ls 2 fr.length),(1,.pc 230 [.pp 3 0,.pp 5 0]),(7,.pv (iV (fr.length:Int))),(8,.pv (iV ((k+1:Nat):Int)))]) ([(3,0,.ls 0 u.length),(3,1,.ls 1 b.length),(3,2,.ls 2 fr.length),(5,0,.ls 4 b.length),(0,0,zrI u),(1,0,zrB b),(2,0,zrI fr),(4,0,.row 4 1 b.length (zbV (g.set x.toNat false)))]) e tm2 hp2):Rl 3 6 246 0 19 6 (qAS fr k) (qjp b fr g u) e tm2 hp2:=
 RunsL.next [] 300 [.t true,.r (iV x),.k,Cf hh [0,1,2],.k,.r (.bool true),.k,.w (zbV (g.set x.toNat false)),Re hs]
  (Ro (Ai hlt (Ai hif (Ai (qbb hf) (Co hh [0,1,2] 6 (Ai hix (Ai (qfs hg) (Ai hix (Ai (qwq g x.toNat false hgl) (Ai (qfS g x.toNat hgl) (Ai hs tI))))))))))) r
theorem qAp {u fr:List Int} {b g:List Bool} {k:Nat} (hge:decide ((k:Int)<(fr.length:Int))=false):Rl 3 6 246 0 19 6 (qAS fr k) (qjp b fr g u) (.exit 0) ([]) (qjp b fr g u):=
 RunsL.stop [] 300 [.t false] (fun h=>by cases h)
  (Ro (Ai hge tI))
abbrev qCq (g:List Bool) (k:Nat):TmL:=[(0,.ls 0 g.length),(1,.pv (.bool true)),(7,.pv (iV (g.length:Int))),(8,.pv (iV (k:Int)))]
theorem qtE {g:List Bool} {k:Nat} (hg:g[k]?=some true) (hig:0≤(k:Int)∧(k:Int)<(g.length:Int)) (hlt:decide ((k:Int)<(g.length:Int))=true):Rl 1 1 247 0 19 1 (qCq g k) ([(0,0,zrB g)]) (.ret) ([(4,.pv (iV (k:Int)))]) ([]):=
 RunsL.stop [] 300 [.t true,.r (.bool true),.k] (fun h=>by cases h)
  (Ro (Ai hlt (Ai hig (Ai (qcP hg) tI))))
theorem qjM {g:List Bool} {k:Nat} (hg:g[k]?=some false) (hig:0≤(k:Int)∧(k:Int)<(g.length:Int)) (hlt:decide ((k:Int)<(g.length:Int))=true) (hs:iV (IntKind.i64.wrap ((k:Int)+1))=iV (((k+1:Nat):Int))) {e:Exit} {tm2:TmL} {hp2:HpL}
 (r:Rl 1 1 247 0 19 1 ([(0,.ls 0 g.length),(1,.pv (.bool true)),(7,.pv (iV (g.length:Int))),(8,.pv (iV ((k+1:Nat):Int)))]) ([(0,0,zrB g)]) e tm2 hp2):Rl 1 1 247 0 19 1 (qCq g k) ([(0,0,zrB g)]) e tm2 hp2:=
 RunsL.next [] 300 [.t true,.r (.bool false),.k,Re hs]
  (Ro (Ai hlt (Ai hig (Ai (qcP hg) (Ai hs tI))))) r
theorem qwJ {g:List Bool} {k:Nat} (hge:decide ((k:Int)<(g.length:Int))=false):Rl 1 1 247 0 19 1 (qCq g k) ([(0,0,zrB g)]) (.exit 0) ([]) ([]):=
 RunsL.stop [] 300 [.t false] (fun h=>by cases h)
  (Ro (Ai hge tI))
theorem qxp {g:List Bool} {k:Nat} (r0:Rl 1 1 247 0 19 1 ([(0,.ls 0 g.length),(1,.pv (.bool true)),(7,.pv (iV (g.length:Int))),(8,.pv (iV ((0:Nat):Int)))]) ([(0,0,zrB g)]) (.ret) ([(4,.pv (iV (k:Int)))]) ([])) (hk:decide ((k:Int)≥0)=true) :
 Fn 233 1 [.ls 0 g.length,.pv (.bool true)] [(0,0,zrB g)] (.pv (.bool true)) 0 []:=
 Fz [] [.k,Lf r0,.t true]
  tI (Lo r0 [] (Ai hk tI))
theorem qCU {g:List Bool} (r0:Rl 1 1 247 0 19 1 ([(0,.ls 0 g.length),(1,.pv (.bool true)),(7,.pv (iV (g.length:Int))),(8,.pv (iV ((0:Nat):Int)))]) ([(0,0,zrB g)]) (.exit 0) ([]) ([])) :
 Fn 233 1 [.ls 0 g.length,.pv (.bool true)] [(0,0,zrB g)] (.pv (.bool false)) 0 []:=
 Fz [] [.k,Lf r0,.k]
  tI (Lo r0 [] tI)
abbrev qBL (b:List Bool) (fr:List Int) (g:List Bool) (u:List Int):Prop:=Rl 3 3 208 0 36 6 ([(1,.pp 3 0),(3,.pp 5 0),(12,.ls 1 b.length),(13,.pv (iV (b.length:Int))),(14,.pv (iV ((0:Nat):Int)))]) ([(3,0,.ls 0 u.length),(3,1,.ls 1 b.length),(3,2,.ls 2 fr.length),(5,0,.ls 4 b.length),(0,0,zrI u),(1,0,zrB b),(2,0,zrI fr),(4,0,.row 4 1 b.length (zbV (List.replicate b.length false)))]) (.exit 0) ([(1,.pp 3 0),(3,.pp 5 0)]) (qjp b fr g u)
theorem qoy {u fr:List Int} {b g g1:List Bool} {k:Nat} (n0:0≤(b.length:Int)) (n1:(b.length:Int)≤1000000) (r0:qBL b fr g u) (r1:Rl 3 6 246 0 19 6 ([(0,.ls 2 fr.length),(1,.pc 230 [.pp 3 0,.pp 5 0]),(7,.pv (iV (fr.length:Int))),(8,.pv (iV ((0:Nat):Int)))]) (qjp b fr g u) (.ret) ([(4,.pv (iV (k:Int)))]) ([(3,0,.ls 0 u.length),(3,1,.ls 1 b.length),(3,2,.ls 2 fr.length),(5,0,.ls 4 b.length),(0,0,zrI u),(1,0,zrB b),(2,0,zrI fr),(4,0,.row 4 1 b.length (zbV g1))])) (hk:decide ((k:Int)≥0)=true) :
 Fn 208 3 [.ag [.ls 0 u.length,.ls 1 b.length,.ls 2 fr.length]] (qfw b fr u) (.pv (.bool false)) 0 []:=
 Fz [] [Lf r0,.k,.k,Lf r1,.t true,.k]
  tI (Ai n0 (Ai (Eq.refl (b.length:Int)) (Ai n1 (Ai (Lt r0 []) (Ai (Ai (Er (SV.ls 0 u.length)) (Ai (Er (SV.ls 1 b.length)) (Ai (Er (SV.ls 2 fr.length)) (Ai (Er (SV.ls 4 b.length)) (Ai (Er (zrI u)) (Ai (Er (zrB b)) (Ai (Er (zrI fr)) (Ai (qcp b.length) tI)))))))) (Ai r0 (Lo r1 [] (Ai hk tI))))))))
abbrev qEd (b:List Bool) (fr:List Int) (g:List Bool) (g1:List Bool) (u:List Int):Prop:=Rl 3 6 246 0 19 6 ([(0,.ls 2 fr.length),(1,.pc 230 [.pp 3 0,.pp 5 0]),(7,.pv (iV (fr.length:Int))),(8,.pv (iV ((0:Nat):Int)))]) (qjp b fr g u) (.exit 0) ([]) ([(3,0,.ls 0 u.length),(3,1,.ls 1 b.length),(3,2,.ls 2 fr.length),(5,0,.ls 4 b.length),(0,0,zrI u),(1,0,zrB b),(2,0,zrI fr),(4,0,.row 4 1 b.length (zbV g1))])
theorem qtL {u fr:List Int} {b g g1:List Bool} (n0:0≤(b.length:Int)) (n1:(b.length:Int)≤1000000) (r0:qBL b fr g u) (r1:qEd b fr g g1 u) (hl:g1.length=b.length) (hc:Fn 233 1 [.ls 0 b.length,.pv (.bool true)] [(0,0,.row 4 1 b.length (zbV g1))] (.pv (.bool true)) 0 []) :
 Fn 208 3 [.ag [.ls 0 u.length,.ls 1 b.length,.ls 2 fr.length]] (qfw b fr u) (.pv (.bool false)) 0 []:=
 Fz [] [Lf r0,.k,.k,Lf r1,.k,.k,Cf hc [4],.k]
  tI (Ai n0 (Ai (Eq.refl (b.length:Int)) (Ai n1 (Ai (Lt r0 []) (Ai (Ai (Er (SV.ls 0 u.length)) (Ai (Er (SV.ls 1 b.length)) (Ai (Er (SV.ls 2 fr.length)) (Ai (Er (SV.ls 4 b.length)) (Ai (Er (zrI u)) (Ai (Er (zrB b)) (Ai (Er (zrI fr)) (Ai (qcp b.length) tI)))))))) (Ai r0 (Lo r1 [] (Co hc [4] 6 tI))))))))
theorem qDX {u fr:List Int} {b g g1:List Bool} (n0:0≤(b.length:Int)) (n1:(b.length:Int)≤1000000) (r0:qBL b fr g u) (r1:qEd b fr g g1 u) (hl:g1.length=b.length) (hc:Fn 233 1 [.ls 0 b.length,.pv (.bool true)] [(0,0,.row 4 1 b.length (zbV g1))] (.pv (.bool false)) 0 []) :
 Fn 208 3 [.ag [.ls 0 u.length,.ls 1 b.length,.ls 2 fr.length]] (qfw b fr u) (.pv (.bool true)) 0 []:=
 Fz [] [Lf r0,.k,.k,Lf r1,.k,.k,Cf hc [4],.k]
  tI (Ai n0 (Ai (Eq.refl (b.length:Int)) (Ai n1 (Ai (Lt r0 []) (Ai (Ai (Er (SV.ls 0 u.length)) (Ai (Er (SV.ls 1 b.length)) (Ai (Er (SV.ls 2 fr.length)) (Ai (Er (SV.ls 4 b.length)) (Ai (Er (zrI u)) (Ai (Er (zrB b)) (Ai (Er (zrI fr)) (Ai (qcp b.length) tI)))))))) (Ai r0 (Lo r1 [] (Co hc [4] 6 tI))))))))
theorem qmr {u fr:List Int} {b:List Bool} (hz:Pure Tryz.prog 145 #[iV (u.length:Int)] (.bool false)) :
 Fn 166 3 [.ag [.ls 0 u.length,.ls 1 b.length,.ls 2 fr.length]] (qfw b fr u) (.pv (iV (8))) 0 []:=
 Fz [] [Rf hz,.k]
  tI (Ai hz tI)
abbrev qqS (u:List Int):Prop:=Pure Tryz.prog 145 #[iV (u.length:Int)] (.bool true)
theorem qxg {u fr:List Int} {b:List Bool} (hz:qqS u) (hl:(!((b.length:Int)==(u.length:Int)))=true) :
 Fn 166 3 [.ag [.ls 0 u.length,.ls 1 b.length,.ls 2 fr.length]] (qfw b fr u) (.pv (iV (8))) 0 []:=
 Fz [] [Rf hz,.k,.t true]
  tI (Ai hz (Ai hl tI))
theorem qwx {u fr:List Int} {b:List Bool} (hz:qqS u) (hl:(!((b.length:Int)==(u.length:Int)))=false) (hu:Fn 207 3 [.ag [.ls 0 u.length,.ls 1 b.length,.ls 2 fr.length]] (qfw b fr u) (.pv (.bool false)) 0 []) :
 Fn 166 3 [.ag [.ls 0 u.length,.ls 1 b.length,.ls 2 fr.length]] (qfw b fr u) (.pv (iV (8))) 0 []:=
 Fz [] [Rf hz,.k,.t false,Cf hu [0,1,2],.k]
  tI (Ai hz (Ai hl (Co hu [0,1,2] 4 tI)))
theorem qte {u fr:List Int} {b:List Bool} (hz:qqS u) (hl:(!((b.length:Int)==(u.length:Int)))=false) (hu:Fn 207 3 [.ag [.ls 0 u.length,.ls 1 b.length,.ls 2 fr.length]] (qfw b fr u) (.pv (.bool true)) 0 []) (hf:Fn 208 3 [.ag [.ls 0 u.length,.ls 1 b.length,.ls 2 fr.length]] (qfw b fr u) (.pv (.bool false)) 0 []) :
 Fn 166 3 [.ag [.ls 0 u.length,.ls 1 b.length,.ls 2 fr.length]] (qfw b fr u) (.pv (iV (8))) 0 []:=
 Fz [] [Rf hz,.k,.t false,Cf hu [0,1,2],.k,Cf hf [0,1,2],.k]
  tI (Ai hz (Ai hl (Co hu [0,1,2] 4 (Co hf [0,1,2] 4 tI))))
theorem qz7 {u fr:List Int} {b:List Bool} (hz:qqS u) (hl:(!((b.length:Int)==(u.length:Int)))=false) (hu:Fn 207 3 [.ag [.ls 0 u.length,.ls 1 b.length,.ls 2 fr.length]] (qfw b fr u) (.pv (.bool true)) 0 []) (hf:Fn 208 3 [.ag [.ls 0 u.length,.ls 1 b.length,.ls 2 fr.length]] (qfw b fr u) (.pv (.bool true)) 0 []) :
 Fn 166 3 [.ag [.ls 0 u.length,.ls 1 b.length,.ls 2 fr.length]] (qfw b fr u) (.pv (iV (0))) 0 []:=
 Fz [] [Rf hz,.k,.t false,Cf hu [0,1,2],.k,Cf hu [0,1,2],.k]
  tI (Ai hz (Ai hl (Co hu [0,1,2] 4 (Co hf [0,1,2] 4 tI))))
end Go.Proofs.YtkjaanhddkkodaaGreat

namespace Go.Proofs.YtkjaanhddkkodaaGreat
set_option maxRecDepth 100000
open Go.RowKit
theorem qz0 (x y:Nat):Int.tdiv (x:Int) (y:Int)=((x/y:Nat):Int):=by rw[Int.tdiv_eq_ediv_of_nonneg (Int.natCast_nonneg x)];simp
theorem qCB (x y:Nat):Int.tmod (x:Int) (y:Int)=((x%y:Nat):Int):=by rw[Int.tmod_eq_emod_of_nonneg (Int.natCast_nonneg x)];simp
theorem qwF (x:Nat) (h:x<18446744073709551616):Value.int .u64 (IntKind.u64.wrap (Int.tdiv (x:Int) 4294967296))=.int .u64 ((x/4294967296:Nat):Int):=by
 rw[show (4294967296:Int)=((4294967296:Nat):Int) from rfl,qz0,qfg (by omega) (by omega)]
theorem qAs (x:Nat):Value.int .u64 (Int.tmod (x:Int) 4294967296)=.int .u64 ((x%4294967296:Nat):Int):=by
 rw[show (4294967296:Int)=((4294967296:Nat):Int) from rfl,qCB]
theorem qA4 {x y:Nat} (h:x*y<18446744073709551616):Value.int .u64 (IntKind.u64.wrap ((x:Int)*(y:Int)))=.int .u64 ((x*y:Nat):Int):=qgQ (by simp) (Int.natCast_nonneg _) (by omega)
theorem qtN {x y:Nat} (h:x+y<18446744073709551616):Value.int .u64 (IntKind.u64.wrap ((x:Int)+(y:Int)))=.int .u64 ((x+y:Nat):Int):=qgQ (by simp) (by omega) (by omega)
theorem qzN (ah al bh bl:Nat):(ah*4294967296+al)*(bh*4294967296+bl)=ah*bh*18446744073709551616+(ah*bl+al*bh)*4294967296+al*bl:=by
 have e1:ah*4294967296*(bh*4294967296)=ah*bh*18446744073709551616:=Nat.mul_mul_mul_comm ah 4294967296 bh 4294967296
 have e2:ah*4294967296*bl=ah*bl*4294967296:=Nat.mul_right_comm ah 4294967296 bl
 have e3:al*(bh*4294967296)=al*bh*4294967296:=(Nat.mul_assoc al bh 4294967296).symm
 rw[Nat.add_mul,Nat.mul_add,Nat.mul_add,e1,e2,e3,Nat.add_mul]
 omega
theorem qnd (a b:Nat) (ha:a<18446744073709551616) (hb:b<18446744073709551616):Pure Tryz.prog 136 #[.int .u64 a,.int .u64 b] (qig false (a*b)):=by
 obtain⟨ah,hah⟩:∃ x,x=a/4294967296:=⟨_,rfl⟩
 obtain⟨al,hal⟩:∃ x,x=a%4294967296:=⟨_,rfl⟩
 obtain⟨bh,hbh⟩:∃ x,x=b/4294967296:=⟨_,rfl⟩
 obtain⟨bl,hbl⟩:∃ x,x=b%4294967296:=⟨_,rfl⟩
 have e1:a=ah*4294967296+al:=by omega
 have e2:b=bh*4294967296+bl:=by omega
 have key:=qzN ah al bh bl
 rw[← e1,← e2] at key
 have m1:ah*bl≤4294967295*4294967295:=Nat.mul_le_mul (by omega) (by omega)
 have m2:al*bh≤4294967295*4294967295:=Nat.mul_le_mul (by omega) (by omega)
 have m3:ah*bh≤4294967295*4294967295:=Nat.mul_le_mul (by omega) (by omega)
 have m4:al*bl≤4294967295*4294967295:=Nat.mul_le_mul (by omega) (by omega)
 have hab:a*b<340282366920938463463374607431768211456:=by
  have:a*b≤18446744073709551615*18446744073709551615:=Nat.mul_le_mul (by omega) (by omega)
  omega
 have x1:=qA4 (x:=al) (y:=bl) (by omega)
 have x2:=qA4 (x:=ah) (y:=bl) (by omega)
 have x4:=qA4 (x:=al) (y:=bh) (by omega)
 have x6:=qA4 (x:=ah) (y:=bh) (by omega)
 have q1:=qwF a ha
 have q2:=qAs a
 have q3:=qwF b hb
 have q4:=qAs b
 rw[← hah] at q1
 rw[← hal] at q2
 rw[← hbh] at q3
 rw[← hbl] at q4
 generalize ah*bl=p1 at *
 generalize al*bh=p2 at *
 generalize ah*bh=p3 at *
 generalize al*bl=low at *
 generalize a*b=ab at *
 obtain⟨m,hm⟩:∃ m,m=p1+low/4294967296:=⟨_,rfl⟩
 obtain⟨n,hn⟩:∃ n,n=p2+m%4294967296:=⟨_,rfl⟩
 have r:=qlz (nz:=by decide) q1 q2 q3 q4 x1 x2 (qwF low (by omega)) (qtN (by omega)) x4 (qAs _) (qtN (by omega)) x6 (qwF _ (by omega)) (qtN (by omega)) (qwF _ (by omega)) (qtN (by omega))
  (qAs _) (qgQ (y:=((n%4294967296*4294967296:Nat):Int)) (by rw[hn,hm];simp) (by omega) (by omega)) (qAs _) (qtN (by omega))
 rw[← hm,← hn] at r
 have f1:p3+m/4294967296+n/4294967296=ab/18446744073709551616:=by omega
 have f2:n%4294967296*4294967296+low%4294967296=ab%18446744073709551616:=by omega
 rw[f1,f2] at r
 exact r
abbrev qdX (x:Int):Value:=qig (decide (x<0)) x.natAbs
theorem qdC (n:Int) (h:I64 n):Pure Tryz.prog 128 #[iV n] (.int .u64 (n.natAbs:Int)):=
 fun w=>(qfU n w h.1 h.2).mono fun _ _ ⟨h1,h2⟩=>⟨h1,Gr.of_eq h2⟩
theorem qaM {p:Prop} [Decidable p] (h:p):decide p=true:=by simp[h]
theorem qaE {p:Prop} [Decidable p] (h:¬ p):decide p=false:=by simp[h]
theorem qca (a b:Int) (ha:I64 a) (hb:I64 b):Pure Tryz.prog 84 #[iV a,iV b] (qdX (a*b)):=by
 have ca:=qdC a ha
 have cb:=qdC b hb
 unfold I64 at ha hb
 have cp:=qnd a.natAbs b.natAbs (by omega) (by omega)
 unfold qdX
 rw[Int.natAbs_mul]
 by_cases sa:a<0<;>by_cases sb:b<0
 ·rw[qaE (show ¬ a*b<0 by have:=Int.mul_pos_of_neg_of_neg sa sb;omega)]
  exact qlk ca cb cp (qaM sa) (qaM sb)
 ·by_cases nb:b=0
  ·subst nb
   rw[qaE (by simp)]
   exact qlm ca cb cp (qaM sa) (qaE sb) (by simp;omega) (by simp)
  ·rw[qaM (Int.mul_neg_of_neg_of_pos sa (by omega))]
   exact qlA ca cb cp (qaM sa) (qaE sb) (by simp;omega) (by simpa using nb)
 ·by_cases na:a=0
  ·subst na
   rw[qaE (by simp)]
   exact qlJ ca cb cp (qaE sa) (qaM sb) (by simp)
  ·rw[qaM (Int.mul_neg_of_pos_of_neg (by omega) sb)]
   exact qk1 ca cb cp (qaE sa) (qaM sb) (by simpa using na) (by simp;omega)
 ·rw[qaE (show ¬ a*b<0 by have:=Int.mul_nonneg (show 0≤a by omega) (show 0≤b by omega);omega)]
  exact qls ca cb cp (qaE sa) (qaE sb)
theorem qe8 (x:Int):Pure Tryz.prog 85 #[qdX x] (iV x.sign):=by
 unfold qdX
 obtain⟨A,hA⟩:∃ A,A=x.natAbs:=⟨_,rfl⟩
 rw[← hA]
 by_cases h0:x=0
 ·subst h0
  subst hA
  exact qtf (by simp) (by simp)
 ·by_cases hs:x<0
  ·rw[qaM hs,Int.sign_eq_neg_one_of_neg hs]
   by_cases hh:A/18446744073709551616=0
   ·exact qp3 (by simp[hh]) (by simp;omega)
   ·exact qqu (by simp;omega)
  ·rw[qaE hs,Int.sign_eq_one_of_pos (by omega)]
   by_cases hh:A/18446744073709551616=0
   ·exact qpI (by simp[hh]) (by simp;omega)
   ·exact qoZ (by simp;omega)
def qfV (A B:Nat):Int:=if A<B then -1 else if A=B then 0 else 1
theorem qdI (s t:Bool) (A B:Nat):Pure Tryz.prog 86 #[qig s A,qig t B] (iV (qfV A B)):=by
 by_cases hh:A/18446744073709551616=B/18446744073709551616
 ·by_cases hl:A%18446744073709551616=B%18446744073709551616
  ·have e:A=B:=by omega
   subst e
   rw[show qfV A A=0 by simp[qfV]]
   exact qqL (by simp) (by simp)
  ·by_cases hlt:A%18446744073709551616<B%18446744073709551616
   ·rw[show qfV A B = -1 by unfold qfV;rw[if_pos (by omega)]]
    exact qqw (by simp[hh]) (by simp;omega) (by simp;omega)
   ·rw[show qfV A B=1 by unfold qfV;rw[if_neg (by omega),if_neg (by omega)]]
    exact qqE (by simp[hh]) (by simp;omega) (by simp;omega)
 ·by_cases hlt:A/18446744073709551616<B/18446744073709551616
  ·rw[show qfV A B = -1 by unfold qfV;rw[if_pos (by omega)]]
   exact qoR (by simp;omega) (by simp;omega)
  ·rw[show qfV A B=1 by unfold qfV;rw[if_neg (by omega),if_neg (by omega)]]
   exact qoC (by simp;omega) (by simp;omega)
theorem qiy {x y:Nat} (h:x<y) (hy:y<18446744073709551616):Value.int .u64 (IntKind.u64.wrap ((x:Int)-(y:Int)))=.int .u64 ((18446744073709551616+x-y:Nat):Int):=by
 rw[IntKind.wrap_u64];congr 1;omega
theorem qeI (s t:Bool) (A B:Nat) (hA:A<340282366920938463463374607431768211456) (h:B≤A):Pure Tryz.prog 236 #[qig s A,qig t B] (qig false (A-B)):=by
 obtain⟨a1,ha1⟩:∃ x,x=A/18446744073709551616:=⟨_,rfl⟩
 obtain⟨a0,ha0⟩:∃ x,x=A%18446744073709551616:=⟨_,rfl⟩
 obtain⟨b1,hb1⟩:∃ x,x=B/18446744073709551616:=⟨_,rfl⟩
 obtain⟨b0,hb0⟩:∃ x,x=B%18446744073709551616:=⟨_,rfl⟩
 unfold qig
 rw[← ha1,← ha0,← hb1,← hb0]
 have hs:Value.int .u64 (IntKind.u64.wrap ((a1:Int)-(b1:Int)))=.int .u64 ((a1-b1:Nat):Int):=qgQ (by omega) (by omega) (by omega)
 by_cases hl:a0<b0
 ·rw[show (A-B)/18446744073709551616=a1-b1-1 by omega,show (A-B)%18446744073709551616=18446744073709551616+a0-b0 by omega]
  exact qyS hs (qiy hl (by omega)) (by simp;omega) (qgQ (by omega) (by omega) (by omega))
 ·rw[show (A-B)/18446744073709551616=a1-b1 by omega,show (A-B)%18446744073709551616=a0-b0 by omega]
  exact qww hs (qgQ (by omega) (by omega) (by omega)) (by simp;omega)
theorem qjb {x y z:Nat} (h:x+y=z+18446744073709551616) (hz:z<18446744073709551616):Value.int .u64 (IntKind.u64.wrap ((x:Int)+(y:Int)))=.int .u64 (z:Int):=by
 rw[IntKind.wrap_u64,show ((x:Int)+(y:Int))%18446744073709551616=(z:Int) by omega]
theorem qw1 (s:Bool) (A B:Nat) (h:A+B<340282366920938463463374607431768211456):Pure Tryz.prog 217 #[qig s A,qig s B] (qig s (A+B)):=by
 obtain⟨a1,ha1⟩:∃ x,x=A/18446744073709551616:=⟨_,rfl⟩
 obtain⟨a0,ha0⟩:∃ x,x=A%18446744073709551616:=⟨_,rfl⟩
 obtain⟨b1,hb1⟩:∃ x,x=B/18446744073709551616:=⟨_,rfl⟩
 obtain⟨b0,hb0⟩:∃ x,x=B%18446744073709551616:=⟨_,rfl⟩
 unfold qig
 rw[← ha1,← ha0,← hb1,← hb0]
 have hh:Value.int .u64 (IntKind.u64.wrap ((a1:Int)+(b1:Int)))=.int .u64 ((a1+b1:Nat):Int):=qtN (by omega)
 by_cases hl:a0+b0<18446744073709551616
 ·have l1:=qtN hl
  rw[show (A+B)/18446744073709551616=a1+b1 by omega,show (A+B)%18446744073709551616=a0+b0 by omega]
  cases s
  ·exact qmG hh l1 (qaE (by omega))
  ·exact qny hh l1 (qaE (by omega))
 ·obtain⟨z,hz⟩:∃ z,a0+b0=z+18446744073709551616:=⟨a0+b0-18446744073709551616,by omega⟩
  have l1:=qjb hz (by omega)
  rw[show (A+B)/18446744073709551616=a1+b1+1 by omega,show (A+B)%18446744073709551616=z by omega]
  cases s
  ·exact qn3 hh l1 (qaM (by omega)) (qgQ (by omega) (by omega) (by omega))
  ·exact qnG hh l1 (qaM (by omega)) (qgQ (by omega) (by omega) (by omega))
theorem qoa (x y:Int) (hx:x.natAbs<170141183460469231731687303715884105728) (hy:y.natAbs<170141183460469231731687303715884105728):Pure Tryz.prog 217 #[qdX x,qdX y] (qdX (x+y)):=by
 unfold qdX
 by_cases sx:x<0<;>by_cases sy:y<0
 ·rw[qaM sx,qaM sy,qaM (show x+y<0 by omega),show (x+y).natAbs=x.natAbs+y.natAbs by omega]
  exact qw1 true _ _ (by omega)
 ·rw[qaM sx,qaE sy]
  have cl:=qdI true false x.natAbs y.natAbs
  by_cases hc:y.natAbs≤x.natAbs
  ·have cm:=qeI true false x.natAbs y.natAbs (by omega) hc
   rw[show (x+y).natAbs=x.natAbs-y.natAbs by omega]
   have hge:decide (qfV x.natAbs y.natAbs≥0)=true:=by unfold qfV;rw[if_neg (by omega)];split<;>decide
   obtain⟨D,hD⟩:∃ D,D=x.natAbs-y.natAbs:=⟨_,rfl⟩
   rw[← hD] at cm ⊢
   by_cases hd:D=0
   ·rw[qaE (show ¬ x+y<0 by omega)]
    exact qnZ cl hge cm (by simp[hd]) (by simp[hd])
   ·rw[qaM (show x+y<0 by omega)]
    by_cases hh:D/18446744073709551616=0
    ·exact qnj cl hge cm (by simp[hh]) (by simp;omega)
    ·exact qnU cl hge cm (by simp;omega)
  ·have cm:=qeI false true y.natAbs x.natAbs (by omega) (by omega)
   rw[show (x+y).natAbs=y.natAbs-x.natAbs by omega,qaE (show ¬ x+y<0 by omega)]
   exact qo8 cl (by unfold qfV;rw[if_pos (by omega)];decide) cm
 ·rw[qaE sx,qaM sy]
  have cl:=qdI false true x.natAbs y.natAbs
  by_cases hc:y.natAbs≤x.natAbs
  ·have cm:=qeI false true x.natAbs y.natAbs (by omega) hc
   rw[show (x+y).natAbs=x.natAbs-y.natAbs by omega,qaE (show ¬ x+y<0 by omega)]
   exact qpQ cl (by unfold qfV;rw[if_neg (by omega)];split<;>decide) cm
  ·have cm:=qeI true false y.natAbs x.natAbs (by omega) (by omega)
   rw[show (x+y).natAbs=y.natAbs-x.natAbs by omega,qaM (show x+y<0 by omega)]
   exact qoG cl (by unfold qfV;rw[if_pos (by omega)];decide) cm
 ·rw[qaE sx,qaE sy,qaE (show ¬ x+y<0 by omega),show (x+y).natAbs=x.natAbs+y.natAbs by omega]
  exact qw1 false _ _ (by omega)
theorem qmC (g s t:Bool) (A B:Nat):Pure Tryz.prog 218 #[.bool g,qig s A,qig t B] (.tuple #[qaa (qd1 (qbl A&&qbl B) (sgV A g)) (qd1 (qbl A&&qbl B) (B:Int)),iV (qn4 (qbl A&&qbl B))]):=by
 by_cases hA:A<9223372036854775808
 ·by_cases hB:B<9223372036854775808
  ·have hf:(qbl A&&qbl B)=true:=by simp[qbl,hA,hB]
   rw[hf,show qd1 true (sgV A g)=sgV A g from rfl,show qd1 true (B:Int)=(B:Int) from rfl,show qn4 true=0 from rfl]
   have v1:iV (IntKind.i64.wrap ((A%18446744073709551616:Nat):Int))=iV (A:Int):=by rw[qam (by omega) (by omega)];congr 1;omega
   have v3:iV (IntKind.i64.wrap ((B%18446744073709551616:Nat):Int))=iV (B:Int):=by rw[qam (by omega) (by omega)];congr 1;omega
   cases g
   ·rw[show sgV A false=(A:Int) by unfold sgV;rw[if_pos hA];rfl]
    exact qvZ (by simp;omega) (by simp;omega) (by simp;omega) (by simp;omega) v1 v3
   ·rw[show sgV A true = -(A:Int) by unfold sgV;rw[if_pos hA];rfl]
    exact qtO (by simp;omega) (by simp;omega) (by simp;omega) (by simp;omega) v1 (by rw[Int.zero_sub,qam (by omega) (by omega)]) v3
  ·rw[show (qbl A&&qbl B)=false by simp[qbl,hB]]
   by_cases hh:B/18446744073709551616=0
   ·exact qpk (by simp;omega) (by simp;omega) (by simp;omega) (by simp;omega)
   ·exact qqd (by simp;omega) (by simp;omega) (by simp;omega)
 ·rw[show (qbl A&&qbl B)=false by simp[qbl,hA]]
  by_cases hh:A/18446744073709551616=0
  ·exact qoX (by simp;omega) (by simp;omega)
  ·exact qqa (by simp;omega)
end Go.Proofs.YtkjaanhddkkodaaGreat

namespace Go.Proofs.YtkjaanhddkkodaaGreat
set_option maxRecDepth 100000
open Go.RowKit
abbrev qBb (x:Int):Prop:=Pure Tryz.prog 85 #[qdX (x)] (iV x.sign)
abbrev qAO (y:Int):Prop:=Pure Tryz.prog 85 #[qdX (y)] (iV y.sign)
theorem qko {a b c d x y:Int} (c1:Pure Tryz.prog 84 #[iV a,iV d] (qdX (x))) (c2:Pure Tryz.prog 84 #[iV c,iV b] (qdX (y))) (s1:qBb x) (s2:qAO y) (t1:(x.sign !=y.sign)=true) (t2:decide (x.sign<y.sign)=true) :
 Pure Tryz.prog 40 #[qaa a b,qaa c d] (iV (-1)):=
 qad (args:=[qaa a b,qaa c d]) 200 [Rf c1,Rf c2,Rf s1,Rf s2,.t true,Rf s1,Rf s2,.t true]
  (Ai rfl (Ai c1 (Ai c2 (Ai s1 (Ai s2 (Ai t1 (Ai s1 (Ai s2 (Ai t2 tI))))))))) (by kernel_rfl)
theorem qlH {a b c d x y:Int} (c1:Pure Tryz.prog 84 #[iV a,iV d] (qdX (x))) (c2:Pure Tryz.prog 84 #[iV c,iV b] (qdX (y))) (s1:qBb x) (s2:qAO y) (t1:(x.sign !=y.sign)=true) (t2:decide (x.sign<y.sign)=false) :
 Pure Tryz.prog 40 #[qaa a b,qaa c d] (iV 1):=
 qad (args:=[qaa a b,qaa c d]) 200 [Rf c1,Rf c2,Rf s1,Rf s2,.t true,Rf s1,Rf s2,.t false]
  (Ai rfl (Ai c1 (Ai c2 (Ai s1 (Ai s2 (Ai t1 (Ai s1 (Ai s2 (Ai t2 tI))))))))) (by kernel_rfl)
theorem qli {a b c d x y e:Int} (c1:Pure Tryz.prog 84 #[iV a,iV d] (qdX (x))) (c2:Pure Tryz.prog 84 #[iV c,iV b] (qdX (y))) (s1:qBb x) (s2:qAO y) (t1:(x.sign !=y.sign)=false) (t3:decide (x.sign<0)=true) (l1:Pure Tryz.prog 86 #[qdX (y),qdX (x)] (iV e)) :
 Pure Tryz.prog 40 #[qaa a b,qaa c d] (iV e):=
 qad (args:=[qaa a b,qaa c d]) 200 [Rf c1,Rf c2,Rf s1,Rf s2,.t false,Rf s1,.t true,Rf l1]
  (Ai rfl (Ai c1 (Ai c2 (Ai s1 (Ai s2 (Ai t1 (Ai s1 (Ai t3 (Ai l1 tI))))))))) (by kernel_rfl)
theorem qkk {a b c d x y e:Int} (c1:Pure Tryz.prog 84 #[iV a,iV d] (qdX (x))) (c2:Pure Tryz.prog 84 #[iV c,iV b] (qdX (y))) (s1:qBb x) (s2:qAO y) (t1:(x.sign !=y.sign)=false) (t3:decide (x.sign<0)=false) (l1:Pure Tryz.prog 86 #[qdX (x),qdX (y)] (iV e)) :
 Pure Tryz.prog 40 #[qaa a b,qaa c d] (iV e):=
 qad (args:=[qaa a b,qaa c d]) 200 [Rf c1,Rf c2,Rf s1,Rf s2,.t false,Rf s1,.t false,Rf l1]
  (Ai rfl (Ai c1 (Ai c2 (Ai s1 (Ai s2 (Ai t1 (Ai s1 (Ai t3 (Ai l1 tI))))))))) (by kernel_rfl)
end Go.Proofs.YtkjaanhddkkodaaGreat

namespace Go.Proofs.YtkjaanhddkkodaaGreat
set_option maxRecDepth 100000
open Go.RowKit
theorem qbi {a b c d:Int} (ha:I64 a) (hb:I64 b) (hc:I64 c) (hd:I64 d):Pure Tryz.prog 40 #[qaa a b,qaa c d] (iV (a*d-c*b).sign):=by
 have c1:=qca a d ha hd
 have c2:=qca c b hc hb
 generalize a*d=x at *
 generalize c*b=y at *
 have s1:=qe8 x
 have s2:=qe8 y
 have kx:x<0∧x.sign = -1∨x=0∧x.sign=0∨0<x∧x.sign=1:=by
  rcases Int.lt_trichotomy x 0 with h | h | h
  ·exact Or.inl ⟨h,Int.sign_eq_neg_one_of_neg h⟩
  ·exact Or.inr (Or.inl ⟨h,by rw[h];rfl⟩)
  ·exact Or.inr (Or.inr ⟨h,Int.sign_eq_one_of_pos h⟩)
 have ky:y<0∧y.sign = -1∨y=0∧y.sign=0∨0<y∧y.sign=1:=by
  rcases Int.lt_trichotomy y 0 with h | h | h
  ·exact Or.inl ⟨h,Int.sign_eq_neg_one_of_neg h⟩
  ·exact Or.inr (Or.inl ⟨h,by rw[h];rfl⟩)
  ·exact Or.inr (Or.inr ⟨h,Int.sign_eq_one_of_pos h⟩)
 have kd:x-y<0∧(x-y).sign = -1∨x-y=0∧(x-y).sign=0∨0<x-y∧(x-y).sign=1:=by
  rcases Int.lt_trichotomy (x-y) 0 with h | h | h
  ·exact Or.inl ⟨h,Int.sign_eq_neg_one_of_neg h⟩
  ·exact Or.inr (Or.inl ⟨h,by rw[h];rfl⟩)
  ·exact Or.inr (Or.inr ⟨h,Int.sign_eq_one_of_pos h⟩)
 by_cases he:x.sign=y.sign
 ·by_cases hn:x.sign<0
  ·have l:=qdI (decide (y<0)) (decide (x<0)) y.natAbs x.natAbs
   rw[show (x-y).sign=qfV y.natAbs x.natAbs by unfold qfV;split<;>(try split)<;>omega]
   exact qli c1 c2 s1 s2 (by simp[he]) (qaM hn) l
  ·have l:=qdI (decide (x<0)) (decide (y<0)) x.natAbs y.natAbs
   rw[show (x-y).sign=qfV x.natAbs y.natAbs by unfold qfV;split<;>(try split)<;>omega]
   exact qkk c1 c2 s1 s2 (by simp[he]) (qaE hn) l
 ·by_cases hl:x.sign<y.sign
  ·rw[show (x-y).sign = -1 by omega]
   exact qko c1 c2 s1 s2 (by simpa using he) (qaM hl)
  ·rw[show (x-y).sign=1 by omega]
   exact qlH c1 c2 s1 s2 (by simpa using he) (qaE hl)
theorem qip (a b g:Nat) (ha:a<18446744073709551616) (hb:b<18446744073709551616) (hg:g=Nat.gcd a b):Pure Tryz.prog 127 #[.int .u64 a,.int .u64 b] (.int .u64 (g:Int)):=
 fun w=>hg▸qmL a b w ha hb
theorem qEk {x y:Nat} (h:x<18446744073709551616):Value.int .u64 (IntKind.u64.wrap ((x:Int).tdiv (y:Int)))=.int .u64 ((x/y:Nat):Int):=qgQ (qz0 x y) (Int.natCast_nonneg _) (by have:=Nat.div_le_self x y;omega)
theorem qtC {f:Bool} {U:Nat} (h:f=true→U<9223372036854775808):qd1 f (sgV U false)=qd1 f (U:Int):=by
 cases f
 ·rfl
 ·show sgV U false=(U:Int)
  unfold sgV
  rw[if_pos (h rfl)]
  rfl
end Go.Proofs.YtkjaanhddkkodaaGreat

namespace Go.Proofs.YtkjaanhddkkodaaGreat
set_option maxRecDepth 100000
open Go.RowKit
theorem qd3 (X:Int):(X.sign≥0)↔0≤X:=by
 rcases Int.lt_trichotomy X 0 with h | h | h
 ·rw[Int.sign_eq_neg_one_of_neg h];omega
 ·rw[h];decide
 ·rw[Int.sign_eq_one_of_pos h];omega
theorem qfz {pi pa pb qi qa qb n d m k:Int} (k0:0<k) (h4:m*(pb-qb)=(qa-pa)*k) (hb:pb≠qb) :
 qbh (pa*d+pb*n) (qa*d+qb*n) pb qb pi qi=(decide (pb>qb)==decide ((n*k-m*d).sign≥0)):=by
 have key:(pa*d+pb*n-(qa*d+qb*n))*k=(pb-qb)*(n*k-m*d):=by
  have e1:(pb-qb)*(m*d)=(qa-pa)*k*d:=by rw[← h4,← Int.mul_assoc,Int.mul_comm (pb-qb) m]
  rw[Int.mul_sub,e1,Int.sub_mul,Int.add_mul,Int.add_mul,Int.sub_mul,Int.sub_mul,Int.sub_mul,← Int.mul_assoc,← Int.mul_assoc,Int.mul_right_comm qa k d,Int.mul_right_comm pa k d]
  omega
 have hs:=qd3 (n*k-m*d)
 generalize n*k-m*d=X at *
 generalize pa*d+pb*n=P at *
 generalize qa*d+qb*n=Q at *
 have hk:((P-Q)*k<0↔P-Q<0)∧(0<(P-Q)*k↔0<P-Q):=by
  rcases Int.lt_trichotomy (P-Q) 0 with h | h | h
  ·have:=Int.mul_neg_of_neg_of_pos h k0;omega
  ·rw[h];simp
  ·have:=Int.mul_pos h k0;omega
 have hx:((pb-qb)*X<0↔(pb>qb∧X<0∨pb<qb∧0<X))∧(0<(pb-qb)*X↔(pb>qb∧0<X∨pb<qb∧X<0)):=by
  rcases Int.lt_trichotomy X 0 with h | h | h
  ·rcases Int.lt_or_gt_of_ne hb with g | g
   ·have:=Int.mul_pos_of_neg_of_neg (show pb-qb<0 by omega) h;omega
   ·have:=Int.mul_neg_of_pos_of_neg (show 0<pb-qb by omega) h;omega
  ·rw[h];simp
  ·rcases Int.lt_or_gt_of_ne hb with g | g
   ·have:=Int.mul_neg_of_neg_of_pos (show pb-qb<0 by omega) h;omega
   ·have:=Int.mul_pos (show 0<pb-qb by omega) h;omega
 rw[key] at hk
 by_cases g:pb>qb
 ·by_cases l:0≤X
  ·rw[dt g,dt (hs.2 l)];exact qdt (by omega)
  ·rw[dt g,df (fun h=>l (hs.1 h))];exact qcU (by omega)
 ·by_cases l:0≤X
  ·rw[df g,dt (hs.2 l)];exact qcU (by omega)
  ·rw[df g,df (fun h=>l (hs.1 h))];exact qdt (by omega)
theorem qf8 {pi pa b qi qa n d:Int} (d0:0<d):qbh (pa*d+b*n) (qa*d+b*n) b b pi qi=qbh pa qa b b pi qi:=by
 have e:pa*d-qa*d=(pa-qa)*d:=(Int.sub_mul _ _ _).symm
 have hk:((pa-qa)*d<0↔pa-qa<0)∧(0<(pa-qa)*d↔0<pa-qa):=by
  rcases Int.lt_trichotomy (pa-qa) 0 with h | h | h
  ·have:=Int.mul_neg_of_neg_of_pos h d0;omega
  ·rw[h];simp
  ·have:=Int.mul_pos h d0;omega
 unfold qbh
 rw[← e] at hk
 exact decide_eq_decide.2 (by omega)
theorem qkv {pi pa pb qi qa qb:Int} (h:pi≠qi):Pure Tryz.prog 142 #[qac pi pa pb,qac qi qa qb] (iV 0):=qCZ (by simp[h])
theorem qhL {pi pa pb qi qa qb:Int} (hp:okP pi pa pb=true) (hq:okP qi qa qb=true) (hb:pb≠qb) :
 ∃ m k,okB m k=true∧I64 m∧I64 k∧m*(pb-qb)=(qa-pa)*k∧Pure Tryz.prog 188 #[qac pi pa pb,qac qi qa qb] (qaa m k)∧Pure Tryz.prog 188 #[qac qi qa qb,qac pi pa pb] (qaa m k):=by
 obtain⟨m,k,h1,h2,h3,h4,h5⟩:=qfJ hp hq hb
 obtain⟨m',k',g1,g2,g3,g4,g5⟩:=qfJ hq hp (Ne.symm hb)
 have e:m*k'=m'*k:=by
  refine Int.eq_of_mul_eq_mul_right (show pb-qb≠0 by omega) ?_
  have a1:m*k'*(pb-qb)=(qa-pa)*k*k':=by rw[Int.mul_right_comm,h4]
  have a2:m'*k*(pb-qb) = -((pa-qa)*k'*k):=by
   rw[Int.mul_right_comm,← Int.neg_mul,← g4,← Int.mul_neg];congr 2;omega
  rw[a1,a2,← Int.neg_mul,← Int.neg_mul,Int.mul_right_comm (qa-pa) k k']
  congr 2;omega
 obtain⟨rfl,rfl⟩:=qgj h1 g1 e
 exact⟨m,k,h1,h2,h3,h4,h5,g5⟩
end Go.Proofs.YtkjaanhddkkodaaGreat
