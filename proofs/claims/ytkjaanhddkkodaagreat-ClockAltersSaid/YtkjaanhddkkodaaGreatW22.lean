/-
  Joined: Zb, Rt, Rw, Rx, Ct. Conditions: none.
-/
import Derived.Test.YtkjaanhddkkodaaGreatW21
import Derived.Test.YtkjaanhddkkodaaGreatW18
import Derived.Test.YtkjaanhddkkodaaGreatW19
namespace Go.Proofs.YtkjaanhddkkodaaGreat
set_option maxRecDepth 100000
open Go.RowKit
theorem qcy (n:Nat):some (SV.row 4 1 n (qc5 [Value.bool false] n))=some (SV.row 4 1 n (zbV (List.replicate n false))):=by rw[qsG]
theorem qy5 {x:Int} (h1:decide (1≤x)=false):Pure Tryz.prog 145 #[iV x] (.bool false):=
 qaz (args:=[iV x]) 200 [.t false] (Ai rfl (Ai h1 tI)) (by kernel_rfl)
theorem qzq {x:Int} (h1:decide (1≤x)=true) (h2:decide (x≤200)=false):Pure Tryz.prog 145 #[iV x] (.bool false):=
 qaz (args:=[iV x]) 200 [.t true,.t false] (Ai rfl (Ai h1 (Ai h2 tI))) (by kernel_rfl)
theorem qsA {x:Int} (h1:decide (1≤x)=true) (h2:decide (x≤200)=true):Pure Tryz.prog 145 #[iV x] (.bool true):=
 qaz (args:=[iV x]) 200 [.t true,.t true] (Ai rfl (Ai h1 (Ai h2 tI))) (by kernel_rfl)
abbrev qfs (b:List Bool) (fr:List Int) (u:List Int):HpL:=[(0,0,zrI u),(1,0,zrB b),(2,0,zrI fr)]
theorem qt1 {u fr:List Int} {b:List Bool} {x:Int} (h1:decide (0≤x)=false) :
 Fn 231 3 [.ag [.ls 0 u.length,.ls 1 b.length,.ls 2 fr.length],.pv (iV (x))] (qfs b fr u) (.pv (.bool false)) 0 []:=
 Fz [] [.t false]
  tI (Ai h1 tI)
theorem qui {u fr:List Int} {b:List Bool} {x:Int} (h1:decide (0≤x)=true) (h2:decide (x<(b.length:Int))=false) :
 Fn 231 3 [.ag [.ls 0 u.length,.ls 1 b.length,.ls 2 fr.length],.pv (iV (x))] (qfs b fr u) (.pv (.bool false)) 0 []:=
 Fz [] [.t true,.t false]
  tI (Ai h1 (Ai h2 tI))
theorem qwC {u fr:List Int} {b:List Bool} {x:Int} (h1:decide (0≤x)=true) (h2:decide (x<(b.length:Int))=true) :
 Fn 231 3 [.ag [.ls 0 u.length,.ls 1 b.length,.ls 2 fr.length],.pv (iV (x))] (qfs b fr u) (.pv (.bool true)) 0 []:=
 Fz [] [.t true,.t true]
  tI (Ai h1 (Ai h2 tI))
abbrev qms (b:List Bool) (fr:List Int) (u:List Int):HpL:=[(3,0,.ls 0 u.length),(3,1,.ls 1 b.length),(3,2,.ls 2 fr.length),(0,0,zrI u),(1,0,zrB b),(2,0,zrI fr)]
abbrev qtq (b:List Bool) (k:Nat):TmL:=[(1,.pp 3 0),(7,.ls 1 b.length),(8,.pv (iV (b.length:Int))),(9,.pv (iV (k:Int)))]
theorem qhb {u fr:List Int} {b:List Bool} {x:Int} {k:Nat} (hb:b[k]?=some true) (hu:u[k]?=some x) (hib:0≤(k:Int)∧(k:Int)<(b.length:Int)) (hiu:0≤(k:Int)∧(k:Int)<(u.length:Int)) (hlt:decide ((k:Int)<(b.length:Int))=true) (h1:decide (x<1)=false) (h2:decide (x>1000000)=false) (hs:iV (IntKind.i64.wrap ((k:Int)+1))=iV (((k+1:Nat):Int))) {e:Exit} {tm2:TmL} {hp2:HpL}
 (r:Rl 3 3 207 0 31 4 ([(1,.pp 3 0),(7,.ls 1 b.length),(8,.pv (iV (b.length:Int))),(9,.pv (iV ((k+1:Nat):Int)))]) (qms b fr u) e tm2 hp2):Rl 3 3 207 0 31 4 (qtq b k) (qms b fr u) e tm2 hp2:=
 RunsL.next [] 300 [.t true,.r (.bool true),.r (iV x),.t false,.r (iV x),.t false,Re hs]
  (Ro (Ai hlt (Ai hib (Ai (qcN hb) (Ai hiu (Ai (qbb hu) (Ai h1 (Ai hiu (Ai (qbb hu) (Ai h2 (Ai hs tI))))))))))) r
theorem qkZ {u fr:List Int} {b:List Bool} {x:Int} {k:Nat} (hb:b[k]?=some true) (hu:u[k]?=some x) (hib:0≤(k:Int)∧(k:Int)<(b.length:Int)) (hiu:0≤(k:Int)∧(k:Int)<(u.length:Int)) (hlt:decide ((k:Int)<(b.length:Int))=true) (h1:decide (x<1)=true):Rl 3 3 207 0 31 4 (qtq b k) (qms b fr u) (.ret) ([(2,.pv (.bool false))]) ([]):=
 RunsL.stop [] 300 [.t true,.r (.bool true),.r (iV x),.t true] (fun h=>by cases h)
  (Ro (Ai hlt (Ai hib (Ai (qcN hb) (Ai hiu (Ai (qbb hu) (Ai h1 tI)))))))
theorem ql2 {u fr:List Int} {b:List Bool} {x:Int} {k:Nat} (hb:b[k]?=some true) (hu:u[k]?=some x) (hib:0≤(k:Int)∧(k:Int)<(b.length:Int)) (hiu:0≤(k:Int)∧(k:Int)<(u.length:Int)) (hlt:decide ((k:Int)<(b.length:Int))=true) (h1:decide (x<1)=false) (h2:decide (x>1000000)=true):Rl 3 3 207 0 31 4 (qtq b k) (qms b fr u) (.ret) ([(2,.pv (.bool false))]) ([]):=
 RunsL.stop [] 300 [.t true,.r (.bool true),.r (iV x),.t false,.r (iV x),.t true] (fun h=>by cases h)
  (Ro (Ai hlt (Ai hib (Ai (qcN hb) (Ai hiu (Ai (qbb hu) (Ai h1 (Ai hiu (Ai (qbb hu) (Ai h2 tI))))))))))
theorem qgw {u fr:List Int} {b:List Bool} {x:Int} {k:Nat} (hb:b[k]?=some false) (hu:u[k]?=some x) (hib:0≤(k:Int)∧(k:Int)<(b.length:Int)) (hiu:0≤(k:Int)∧(k:Int)<(u.length:Int)) (hlt:decide ((k:Int)<(b.length:Int))=true) (h1:decide (x<0)=false) (h2:decide (x>1000000)=false) (hs:iV (IntKind.i64.wrap ((k:Int)+1))=iV (((k+1:Nat):Int))) {e:Exit} {tm2:TmL} {hp2:HpL}
 (r:Rl 3 3 207 0 31 4 ([(1,.pp 3 0),(7,.ls 1 b.length),(8,.pv (iV (b.length:Int))),(9,.pv (iV ((k+1:Nat):Int)))]) (qms b fr u) e tm2 hp2):Rl 3 3 207 0 31 4 (qtq b k) (qms b fr u) e tm2 hp2:=
 RunsL.next [] 300 [.t true,.r (.bool false),.r (iV x),.t false,.r (iV x),.t false,Re hs]
  (Ro (Ai hlt (Ai hib (Ai (qcN hb) (Ai hiu (Ai (qbb hu) (Ai h1 (Ai hiu (Ai (qbb hu) (Ai h2 (Ai hs tI))))))))))) r
theorem qi0 {u fr:List Int} {b:List Bool} {x:Int} {k:Nat} (hb:b[k]?=some false) (hu:u[k]?=some x) (hib:0≤(k:Int)∧(k:Int)<(b.length:Int)) (hiu:0≤(k:Int)∧(k:Int)<(u.length:Int)) (hlt:decide ((k:Int)<(b.length:Int))=true) (h1:decide (x<0)=true):Rl 3 3 207 0 31 4 (qtq b k) (qms b fr u) (.ret) ([(2,.pv (.bool false))]) ([]):=
 RunsL.stop [] 300 [.t true,.r (.bool false),.r (iV x),.t true] (fun h=>by cases h)
  (Ro (Ai hlt (Ai hib (Ai (qcN hb) (Ai hiu (Ai (qbb hu) (Ai h1 tI)))))))
theorem qi3 {u fr:List Int} {b:List Bool} {x:Int} {k:Nat} (hb:b[k]?=some false) (hu:u[k]?=some x) (hib:0≤(k:Int)∧(k:Int)<(b.length:Int)) (hiu:0≤(k:Int)∧(k:Int)<(u.length:Int)) (hlt:decide ((k:Int)<(b.length:Int))=true) (h1:decide (x<0)=false) (h2:decide (x>1000000)=true):Rl 3 3 207 0 31 4 (qtq b k) (qms b fr u) (.ret) ([(2,.pv (.bool false))]) ([]):=
 RunsL.stop [] 300 [.t true,.r (.bool false),.r (iV x),.t false,.r (iV x),.t true] (fun h=>by cases h)
  (Ro (Ai hlt (Ai hib (Ai (qcN hb) (Ai hiu (Ai (qbb hu) (Ai h1 (Ai hiu (Ai (qbb hu) (Ai h2 tI))))))))))
theorem qAP {u fr:List Int} {b:List Bool} {k:Nat} (hge:decide ((k:Int)<(b.length:Int))=false):Rl 3 3 207 0 31 4 (qtq b k) (qms b fr u) (.exit 0) ([]) ([]):=
 RunsL.stop [] 300 [.t false] (fun h=>by cases h)
  (Ro (Ai hge tI))
theorem qDl {u fr:List Int} {b:List Bool} (r0:Rl 3 3 207 0 31 4 ([(1,.pp 3 0),(7,.ls 1 b.length),(8,.pv (iV (b.length:Int))),(9,.pv (iV ((0:Nat):Int)))]) (qms b fr u) (.ret) ([(2,.pv (.bool false))]) ([])) :
 Fn 207 3 [.ag [.ls 0 u.length,.ls 1 b.length,.ls 2 fr.length]] (qfs b fr u) (.pv (.bool false)) 0 []:=
 Fz [] [Lf r0]
  tI (Lo r0 [] tI)
theorem qBm {u fr:List Int} {b:List Bool} (r0:Rl 3 3 207 0 31 4 ([(1,.pp 3 0),(7,.ls 1 b.length),(8,.pv (iV (b.length:Int))),(9,.pv (iV ((0:Nat):Int)))]) (qms b fr u) (.exit 0) ([]) ([])) :
 Fn 207 3 [.ag [.ls 0 u.length,.ls 1 b.length,.ls 2 fr.length]] (qfs b fr u) (.pv (.bool true)) 0 []:=
 Fz [] [Lf r0]
  tI (Lo r0 [] tI)
abbrev qkl (b:List Bool) (fr:List Int) (g:List Bool) (u:List Int):HpL:=[(3,0,.ls 0 u.length),(3,1,.ls 1 b.length),(3,2,.ls 2 fr.length),(5,0,.ls 4 b.length),(0,0,zrI u),(1,0,zrB b),(2,0,zrI fr),(4,0,.row 4 1 b.length (zbV g))]
abbrev qDC (b:List Bool) (k:Nat):TmL:=[(1,.pp 3 0),(3,.pp 5 0),(12,.ls 1 b.length),(13,.pv (iV (b.length:Int))),(14,.pv (iV (k:Int)))]
theorem qhv {u fr:List Int} {b g:List Bool} {k:Nat} (hb:b[k]?=some true) (hib:0≤(k:Int)∧(k:Int)<(b.length:Int)) (hg:k<g.length) (hlt:decide ((k:Int)<(b.length:Int))=true) (hs:iV (IntKind.i64.wrap ((k:Int)+1))=iV (((k+1:Nat):Int))) {e:Exit} {tm2:TmL} {hp2:HpL}
 (r:Rl 3 3 208 0 36 6 ([(1,.pp 3 0),(3,.pp 5 0),(12,.ls 1 b.length),(13,.pv (iV (b.length:Int))),(14,.pv (iV ((k+1:Nat):Int)))]) ([(3,0,.ls 0 u.length),(3,1,.ls 1 b.length),(3,2,.ls 2 fr.length),(5,0,.ls 4 b.length),(0,0,zrI u),(1,0,zrB b),(2,0,zrI fr),(4,0,.row 4 1 b.length (zbV (g.set k false)))]) e tm2 hp2):Rl 3 3 208 0 36 6 (qDC b k) (qkl b fr g u) e tm2 hp2:=
 RunsL.next [] 300 [.t true,.r (.bool true),.k,.w (zbV (g.set k false)),Re hs]
  (Ro (Ai hlt (Ai hib (Ai (qcN hb) (Ai hib (Ai (qwZ g k false hg) (Ai (qfI g k hg) (Ai hs tI)))))))) r
theorem qgH {u fr:List Int} {b g:List Bool} {k:Nat} (hb:b[k]?=some false) (hib:0≤(k:Int)∧(k:Int)<(b.length:Int)) (hg:k<g.length) (hlt:decide ((k:Int)<(b.length:Int))=true) (hs:iV (IntKind.i64.wrap ((k:Int)+1))=iV (((k+1:Nat):Int))) {e:Exit} {tm2:TmL} {hp2:HpL}
 (r:Rl 3 3 208 0 36 6 ([(1,.pp 3 0),(3,.pp 5 0),(12,.ls 1 b.length),(13,.pv (iV (b.length:Int))),(14,.pv (iV ((k+1:Nat):Int)))]) ([(3,0,.ls 0 u.length),(3,1,.ls 1 b.length),(3,2,.ls 2 fr.length),(5,0,.ls 4 b.length),(0,0,zrI u),(1,0,zrB b),(2,0,zrI fr),(4,0,.row 4 1 b.length (zbV (g.set k true)))]) e tm2 hp2):Rl 3 3 208 0 36 6 (qDC b k) (qkl b fr g u) e tm2 hp2:=
 RunsL.next [] 300 [.t true,.r (.bool false),.k,.w (zbV (g.set k true)),Re hs]
  (Ro (Ai hlt (Ai hib (Ai (qcN hb) (Ai hib (Ai (qwZ g k true hg) (Ai (qfI g k hg) (Ai hs tI)))))))) r
theorem qzB {u fr:List Int} {b g:List Bool} {k:Nat} (hge:decide ((k:Int)<(b.length:Int))=false):Rl 3 3 208 0 36 6 (qDC b k) (qkl b fr g u) (.exit 0) ([(1,.pp 3 0),(3,.pp 5 0)]) (qkl b fr g u):=
 RunsL.stop [] 300 [.t false] (fun h=>by cases h)
  (Ro (Ai hge tI))
abbrev qBv (fr:List Int) (k:Nat):TmL:=[(0,.ls 2 fr.length),(1,.pc 230 [.pp 3 0,.pp 5 0]),(7,.pv (iV (fr.length:Int))),(8,.pv (iV (k:Int)))]
theorem qzA {u fr:List Int} {b g:List Bool} {x:Int} {k:Nat} (hf:fr[k]?=some x) (hif:0≤(k:Int)∧(k:Int)<(fr.length:Int)) (hlt:decide ((k:Int)<(fr.length:Int))=true) (hh:Fn 231 3 [.ag [.ls 0 u.length,.ls 1 b.length,.ls 2 fr.length],.pv (iV (x))] (qfs b fr u) (.pv (.bool false)) 0 []):Rl 3 6 246 0 19 6 (qBv fr k) (qkl b fr g u) (.ret) ([(4,.pv (iV (k:Int)))]) (qkl b fr g u):=
 RunsL.stop [] 300 [.t true,.r (iV x),.k,Cf hh [0,1,2],.k] (fun h=>by cases h)
  (Ro (Ai hlt (Ai hif (Ai (qbb hf) (Co hh [0,1,2] 6 tI)))))
theorem quf {u fr:List Int} {b g:List Bool} {x:Int} {k:Nat} (hf:fr[k]?=some x) (hif:0≤(k:Int)∧(k:Int)<(fr.length:Int)) (hlt:decide ((k:Int)<(fr.length:Int))=true) (hh:Fn 231 3 [.ag [.ls 0 u.length,.ls 1 b.length,.ls 2 fr.length],.pv (iV (x))] (qfs b fr u) (.pv (.bool true)) 0 []) (hg:g[x.toNat]?=some false) (hix:0≤x∧x<(b.length:Int)):Rl 3 6 246 0 19 6 (qBv fr k) (qkl b fr g u) (.ret) ([(4,.pv (iV (k:Int)))]) (qkl b fr g u):=
 RunsL.stop [] 300 [.t true,.r (iV x),.k,Cf hh [0,1,2],.k,.r (.bool false),.k] (fun h=>by cases h)
  (Ro (Ai hlt (Ai hif (Ai (qbb hf) (Co hh [0,1,2] 6 (Ai hix (Ai (qfr hg) tI)))))))
theorem qs1 {u fr:List Int} {b g:List Bool} {x:Int} {k:Nat} (hf:fr[k]?=some x) (hif:0≤(k:Int)∧(k:Int)<(fr.length:Int)) (hlt:decide ((k:Int)<(fr.length:Int))=true) (hh:Fn 231 3 [.ag [.ls 0 u.length,.ls 1 b.length,.ls 2 fr.length],.pv (iV (x))] (qfs b fr u) (.pv (.bool true)) 0 []) (hg:g[x.toNat]?=some true) (hix:0≤x∧x<(b.length:Int)) (hgl:x.toNat<g.length) (hs:iV (IntKind.i64.wrap ((k:Int)+1))=iV (((k+1:Nat):Int))) {e:Exit} {tm2:TmL} {hp2:HpL}
 (r:Rl 3 6 246 0 19 6 ([(0,.ls 2 fr.length),(1,.pc 230 [.pp 3 0,.pp 5 0]),(7,.pv (iV (fr.length:Int))),(8,.pv (iV ((k+1:Nat):Int)))]) ([(3,0,.ls 0 u.length),(3,1,.ls 1 b.length),(3,2,.ls 2 fr.length),(5,0,.ls 4 b.length),(0,0,zrI u),(1,0,zrB b),(2,0,zrI fr),(4,0,.row 4 1 b.length (zbV (g.set x.toNat false)))]) e tm2 hp2):Rl 3 6 246 0 19 6 (qBv fr k) (qkl b fr g u) e tm2 hp2:=
 RunsL.next [] 300 [.t true,.r (iV x),.k,Cf hh [0,1,2],.k,.r (.bool true),.k,.w (zbV (g.set x.toNat false)),Re hs]
  (Ro (Ai hlt (Ai hif (Ai (qbb hf) (Co hh [0,1,2] 6 (Ai hix (Ai (qfr hg) (Ai hix (Ai (qwZ g x.toNat false hgl) (Ai (qfI g x.toNat hgl) (Ai hs tI))))))))))) r
theorem qA9 {u fr:List Int} {b g:List Bool} {k:Nat} (hge:decide ((k:Int)<(fr.length:Int))=false):Rl 3 6 246 0 19 6 (qBv fr k) (qkl b fr g u) (.exit 0) ([]) (qkl b fr g u):=
 RunsL.stop [] 300 [.t false] (fun h=>by cases h)
  (Ro (Ai hge tI))
abbrev qDL (g:List Bool) (k:Nat):TmL:=[(0,.ls 0 g.length),(1,.pv (.bool true)),(7,.pv (iV (g.length:Int))),(8,.pv (iV (k:Int)))]
theorem qs9 {g:List Bool} {k:Nat} (hg:g[k]?=some true) (hig:0≤(k:Int)∧(k:Int)<(g.length:Int)) (hlt:decide ((k:Int)<(g.length:Int))=true):Rl 1 1 247 0 19 1 (qDL g k) ([(0,0,zrB g)]) (.ret) ([(4,.pv (iV (k:Int)))]) ([]):=
 RunsL.stop [] 300 [.t true,.r (.bool true),.k] (fun h=>by cases h)
  (Ro (Ai hlt (Ai hig (Ai (qcN hg) tI))))
theorem qjy {g:List Bool} {k:Nat} (hg:g[k]?=some false) (hig:0≤(k:Int)∧(k:Int)<(g.length:Int)) (hlt:decide ((k:Int)<(g.length:Int))=true) (hs:iV (IntKind.i64.wrap ((k:Int)+1))=iV (((k+1:Nat):Int))) {e:Exit} {tm2:TmL} {hp2:HpL}
 (r:Rl 1 1 247 0 19 1 ([(0,.ls 0 g.length),(1,.pv (.bool true)),(7,.pv (iV (g.length:Int))),(8,.pv (iV ((k+1:Nat):Int)))]) ([(0,0,zrB g)]) e tm2 hp2):Rl 1 1 247 0 19 1 (qDL g k) ([(0,0,zrB g)]) e tm2 hp2:=
 RunsL.next [] 300 [.t true,.r (.bool false),.k,Re hs]
  (Ro (Ai hlt (Ai hig (Ai (qcN hg) (Ai hs tI))))) r
theorem qzm {g:List Bool} {k:Nat} (hge:decide ((k:Int)<(g.length:Int))=false):Rl 1 1 247 0 19 1 (qDL g k) ([(0,0,zrB g)]) (.exit 0) ([]) ([]):=
 RunsL.stop [] 300 [.t false] (fun h=>by cases h)
  (Ro (Ai hge tI))
theorem qz8 {g:List Bool} {k:Nat} (r0:Rl 1 1 247 0 19 1 ([(0,.ls 0 g.length),(1,.pv (.bool true)),(7,.pv (iV (g.length:Int))),(8,.pv (iV ((0:Nat):Int)))]) ([(0,0,zrB g)]) (.ret) ([(4,.pv (iV (k:Int)))]) ([])) (hk:decide ((k:Int)≥0)=true) :
 Fn 233 1 [.ls 0 g.length,.pv (.bool true)] [(0,0,zrB g)] (.pv (.bool true)) 0 []:=
 Fz [] [.k,Lf r0,.t true]
  tI (Lo r0 [] (Ai hk tI))
theorem qCd {g:List Bool} (r0:Rl 1 1 247 0 19 1 ([(0,.ls 0 g.length),(1,.pv (.bool true)),(7,.pv (iV (g.length:Int))),(8,.pv (iV ((0:Nat):Int)))]) ([(0,0,zrB g)]) (.exit 0) ([]) ([])) :
 Fn 233 1 [.ls 0 g.length,.pv (.bool true)] [(0,0,zrB g)] (.pv (.bool false)) 0 []:=
 Fz [] [.k,Lf r0,.k]
  tI (Lo r0 [] tI)
abbrev qCS (b:List Bool) (fr:List Int) (g:List Bool) (u:List Int):Prop:=Rl 3 3 208 0 36 6 ([(1,.pp 3 0),(3,.pp 5 0),(12,.ls 1 b.length),(13,.pv (iV (b.length:Int))),(14,.pv (iV ((0:Nat):Int)))]) ([(3,0,.ls 0 u.length),(3,1,.ls 1 b.length),(3,2,.ls 2 fr.length),(5,0,.ls 4 b.length),(0,0,zrI u),(1,0,zrB b),(2,0,zrI fr),(4,0,.row 4 1 b.length (zbV (List.replicate b.length false)))]) (.exit 0) ([(1,.pp 3 0),(3,.pp 5 0)]) (qkl b fr g u)
theorem qpe {u fr:List Int} {b g g1:List Bool} {k:Nat} (n0:0≤(b.length:Int)) (n1:(b.length:Int)≤1000000) (r0:qCS b fr g u) (r1:Rl 3 6 246 0 19 6 ([(0,.ls 2 fr.length),(1,.pc 230 [.pp 3 0,.pp 5 0]),(7,.pv (iV (fr.length:Int))),(8,.pv (iV ((0:Nat):Int)))]) (qkl b fr g u) (.ret) ([(4,.pv (iV (k:Int)))]) ([(3,0,.ls 0 u.length),(3,1,.ls 1 b.length),(3,2,.ls 2 fr.length),(5,0,.ls 4 b.length),(0,0,zrI u),(1,0,zrB b),(2,0,zrI fr),(4,0,.row 4 1 b.length (zbV g1))])) (hk:decide ((k:Int)≥0)=true) :
 Fn 208 3 [.ag [.ls 0 u.length,.ls 1 b.length,.ls 2 fr.length]] (qfs b fr u) (.pv (.bool false)) 0 []:=
 Fz [] [Lf r0,.k,.k,Lf r1,.t true,.k]
  tI (Ai n0 (Ai (Eq.refl (b.length:Int)) (Ai n1 (Ai (Lt r0 []) (Ai (Ai (Er (SV.ls 0 u.length)) (Ai (Er (SV.ls 1 b.length)) (Ai (Er (SV.ls 2 fr.length)) (Ai (Er (SV.ls 4 b.length)) (Ai (Er (zrI u)) (Ai (Er (zrB b)) (Ai (Er (zrI fr)) (Ai (qcy b.length) tI)))))))) (Ai r0 (Lo r1 [] (Ai hk tI))))))))
abbrev qEY (b:List Bool) (fr:List Int) (g:List Bool) (g1:List Bool) (u:List Int):Prop:=Rl 3 6 246 0 19 6 ([(0,.ls 2 fr.length),(1,.pc 230 [.pp 3 0,.pp 5 0]),(7,.pv (iV (fr.length:Int))),(8,.pv (iV ((0:Nat):Int)))]) (qkl b fr g u) (.exit 0) ([]) ([(3,0,.ls 0 u.length),(3,1,.ls 1 b.length),(3,2,.ls 2 fr.length),(5,0,.ls 4 b.length),(0,0,zrI u),(1,0,zrB b),(2,0,zrI fr),(4,0,.row 4 1 b.length (zbV g1))])
theorem quD {u fr:List Int} {b g g1:List Bool} (n0:0≤(b.length:Int)) (n1:(b.length:Int)≤1000000) (r0:qCS b fr g u) (r1:qEY b fr g g1 u) (hl:g1.length=b.length) (hc:Fn 233 1 [.ls 0 b.length,.pv (.bool true)] [(0,0,.row 4 1 b.length (zbV g1))] (.pv (.bool true)) 0 []) :
 Fn 208 3 [.ag [.ls 0 u.length,.ls 1 b.length,.ls 2 fr.length]] (qfs b fr u) (.pv (.bool false)) 0 []:=
 Fz [] [Lf r0,.k,.k,Lf r1,.k,.k,Cf hc [4],.k]
  tI (Ai n0 (Ai (Eq.refl (b.length:Int)) (Ai n1 (Ai (Lt r0 []) (Ai (Ai (Er (SV.ls 0 u.length)) (Ai (Er (SV.ls 1 b.length)) (Ai (Er (SV.ls 2 fr.length)) (Ai (Er (SV.ls 4 b.length)) (Ai (Er (zrI u)) (Ai (Er (zrB b)) (Ai (Er (zrI fr)) (Ai (qcy b.length) tI)))))))) (Ai r0 (Lo r1 [] (Co hc [4] 6 tI))))))))
theorem qEE {u fr:List Int} {b g g1:List Bool} (n0:0≤(b.length:Int)) (n1:(b.length:Int)≤1000000) (r0:qCS b fr g u) (r1:qEY b fr g g1 u) (hl:g1.length=b.length) (hc:Fn 233 1 [.ls 0 b.length,.pv (.bool true)] [(0,0,.row 4 1 b.length (zbV g1))] (.pv (.bool false)) 0 []) :
 Fn 208 3 [.ag [.ls 0 u.length,.ls 1 b.length,.ls 2 fr.length]] (qfs b fr u) (.pv (.bool true)) 0 []:=
 Fz [] [Lf r0,.k,.k,Lf r1,.k,.k,Cf hc [4],.k]
  tI (Ai n0 (Ai (Eq.refl (b.length:Int)) (Ai n1 (Ai (Lt r0 []) (Ai (Ai (Er (SV.ls 0 u.length)) (Ai (Er (SV.ls 1 b.length)) (Ai (Er (SV.ls 2 fr.length)) (Ai (Er (SV.ls 4 b.length)) (Ai (Er (zrI u)) (Ai (Er (zrB b)) (Ai (Er (zrI fr)) (Ai (qcy b.length) tI)))))))) (Ai r0 (Lo r1 [] (Co hc [4] 6 tI))))))))
theorem qop {u fr:List Int} {b:List Bool} (hz:Pure Tryz.prog 145 #[iV (u.length:Int)] (.bool false)) :
 Fn 166 3 [.ag [.ls 0 u.length,.ls 1 b.length,.ls 2 fr.length]] (qfs b fr u) (.pv (iV (8))) 0 []:=
 Fz [] [Rf hz,.k]
  tI (Ai hz tI)
abbrev qp3 (u:List Int):Prop:=Pure Tryz.prog 145 #[iV (u.length:Int)] (.bool true)
theorem qzR {u fr:List Int} {b:List Bool} (hz:qp3 u) (hl:(!((b.length:Int)==(u.length:Int)))=true) :
 Fn 166 3 [.ag [.ls 0 u.length,.ls 1 b.length,.ls 2 fr.length]] (qfs b fr u) (.pv (iV (8))) 0 []:=
 Fz [] [Rf hz,.k,.t true]
  tI (Ai hz (Ai hl tI))
theorem qAQ {u fr:List Int} {b:List Bool} (hz:qp3 u) (hl:(!((b.length:Int)==(u.length:Int)))=false) (hu:Fn 207 3 [.ag [.ls 0 u.length,.ls 1 b.length,.ls 2 fr.length]] (qfs b fr u) (.pv (.bool false)) 0 []) :
 Fn 166 3 [.ag [.ls 0 u.length,.ls 1 b.length,.ls 2 fr.length]] (qfs b fr u) (.pv (iV (8))) 0 []:=
 Fz [] [Rf hz,.k,.t false,Cf hu [0,1,2],.k]
  tI (Ai hz (Ai hl (Co hu [0,1,2] 4 tI)))
theorem qtT {u fr:List Int} {b:List Bool} (hz:qp3 u) (hl:(!((b.length:Int)==(u.length:Int)))=false) (hu:Fn 207 3 [.ag [.ls 0 u.length,.ls 1 b.length,.ls 2 fr.length]] (qfs b fr u) (.pv (.bool true)) 0 []) (hf:Fn 208 3 [.ag [.ls 0 u.length,.ls 1 b.length,.ls 2 fr.length]] (qfs b fr u) (.pv (.bool false)) 0 []) :
 Fn 166 3 [.ag [.ls 0 u.length,.ls 1 b.length,.ls 2 fr.length]] (qfs b fr u) (.pv (iV (8))) 0 []:=
 Fz [] [Rf hz,.k,.t false,Cf hu [0,1,2],.k,Cf hf [0,1,2],.k]
  tI (Ai hz (Ai hl (Co hu [0,1,2] 4 (Co hf [0,1,2] 4 tI))))
theorem qyM {u fr:List Int} {b:List Bool} (hz:qp3 u) (hl:(!((b.length:Int)==(u.length:Int)))=false) (hu:Fn 207 3 [.ag [.ls 0 u.length,.ls 1 b.length,.ls 2 fr.length]] (qfs b fr u) (.pv (.bool true)) 0 []) (hf:Fn 208 3 [.ag [.ls 0 u.length,.ls 1 b.length,.ls 2 fr.length]] (qfs b fr u) (.pv (.bool true)) 0 []) :
 Fn 166 3 [.ag [.ls 0 u.length,.ls 1 b.length,.ls 2 fr.length]] (qfs b fr u) (.pv (iV (0))) 0 []:=
 Fz [] [Rf hz,.k,.t false,Cf hu [0,1,2],.k,Cf hu [0,1,2],.k]
  tI (Ai hz (Ai hl (Co hu [0,1,2] 4 (Co hf [0,1,2] 4 tI))))
end Go.Proofs.YtkjaanhddkkodaaGreat

namespace Go.Proofs.YtkjaanhddkkodaaGreat
set_option maxRecDepth 100000
open Go.RowKit
theorem qxQ (x y:Nat):Int.tdiv (x:Int) (y:Int)=((x/y:Nat):Int):=by rw[Int.tdiv_eq_ediv_of_nonneg (Int.natCast_nonneg x)];simp
theorem qCZ (x y:Nat):Int.tmod (x:Int) (y:Int)=((x%y:Nat):Int):=by rw[Int.tmod_eq_emod_of_nonneg (Int.natCast_nonneg x)];simp
theorem qzf (x:Nat) (h:x<18446744073709551616):Value.int .u64 (IntKind.u64.wrap (Int.tdiv (x:Int) 4294967296))=.int .u64 ((x/4294967296:Nat):Int):=by
 rw[show (4294967296:Int)=((4294967296:Nat):Int) from rfl,qxQ,qe0 (by omega) (by omega)]
theorem qxW (x:Nat):Value.int .u64 (Int.tmod (x:Int) 4294967296)=.int .u64 ((x%4294967296:Nat):Int):=by
 rw[show (4294967296:Int)=((4294967296:Nat):Int) from rfl,qCZ]
theorem qBH {x y:Nat} (h:x*y<18446744073709551616):Value.int .u64 (IntKind.u64.wrap ((x:Int)*(y:Int)))=.int .u64 ((x*y:Nat):Int):=qgK (by simp) (Int.natCast_nonneg _) (by omega)
theorem qvh {x y:Nat} (h:x+y<18446744073709551616):Value.int .u64 (IntKind.u64.wrap ((x:Int)+(y:Int)))=.int .u64 ((x+y:Nat):Int):=qgK (by simp) (by omega) (by omega)
theorem qy3 (ah al bh bl:Nat):(ah*4294967296+al)*(bh*4294967296+bl)=ah*bh*18446744073709551616+(ah*bl+al*bh)*4294967296+al*bl:=by
 have e1:ah*4294967296*(bh*4294967296)=ah*bh*18446744073709551616:=Nat.mul_mul_mul_comm ah 4294967296 bh 4294967296
 have e2:ah*4294967296*bl=ah*bl*4294967296:=Nat.mul_right_comm ah 4294967296 bl
 have e3:al*(bh*4294967296)=al*bh*4294967296:=(Nat.mul_assoc al bh 4294967296).symm
 rw[Nat.add_mul,Nat.mul_add,Nat.mul_add,e1,e2,e3,Nat.add_mul]
 omega
theorem qns (a b:Nat) (ha:a<18446744073709551616) (hb:b<18446744073709551616):Pure Tryz.prog 136 #[.int .u64 a,.int .u64 b] (qih false (a*b)):=by
 obtain⟨ah,hah⟩:∃ x,x=a/4294967296:=⟨_,rfl⟩
 obtain⟨al,hal⟩:∃ x,x=a%4294967296:=⟨_,rfl⟩
 obtain⟨bh,hbh⟩:∃ x,x=b/4294967296:=⟨_,rfl⟩
 obtain⟨bl,hbl⟩:∃ x,x=b%4294967296:=⟨_,rfl⟩
 have e1:a=ah*4294967296+al:=by omega
 have e2:b=bh*4294967296+bl:=by omega
 have key:=qy3 ah al bh bl
 rw[← e1,← e2] at key
 have m1:ah*bl≤4294967295*4294967295:=Nat.mul_le_mul (by omega) (by omega)
 have m2:al*bh≤4294967295*4294967295:=Nat.mul_le_mul (by omega) (by omega)
 have m3:ah*bh≤4294967295*4294967295:=Nat.mul_le_mul (by omega) (by omega)
 have m4:al*bl≤4294967295*4294967295:=Nat.mul_le_mul (by omega) (by omega)
 have hab:a*b<340282366920938463463374607431768211456:=by
  have:a*b≤18446744073709551615*18446744073709551615:=Nat.mul_le_mul (by omega) (by omega)
  omega
 have x1:=qBH (x:=al) (y:=bl) (by omega)
 have x2:=qBH (x:=ah) (y:=bl) (by omega)
 have x4:=qBH (x:=al) (y:=bh) (by omega)
 have x6:=qBH (x:=ah) (y:=bh) (by omega)
 have q1:=qzf a ha
 have q2:=qxW a
 have q3:=qzf b hb
 have q4:=qxW b
 rw[← hah] at q1
 rw[← hal] at q2
 rw[← hbh] at q3
 rw[← hbl] at q4
 generalize ah*bl=p1 at *
 generalize al*bh=p2 at *
 generalize ah*bh=p3 at *
 generalize al*bl=low at *
 generalize a*b=ab at *
 obtain⟨m,hm⟩:∃ m,m=p1+low/4294967296:=⟨_,rfl⟩
 obtain⟨n,hn⟩:∃ n,n=p2+m%4294967296:=⟨_,rfl⟩
 have r:=qk9 (nz:=by decide) q1 q2 q3 q4 x1 x2 (qzf low (by omega)) (qvh (by omega)) x4 (qxW _) (qvh (by omega)) x6 (qzf _ (by omega)) (qvh (by omega)) (qzf _ (by omega)) (qvh (by omega))
  (qxW _) (qgK (y:=((n%4294967296*4294967296:Nat):Int)) (by rw[hn,hm];simp) (by omega) (by omega)) (qxW _) (qvh (by omega))
 rw[← hm,← hn] at r
 have f1:p3+m/4294967296+n/4294967296=ab/18446744073709551616:=by omega
 have f2:n%4294967296*4294967296+low%4294967296=ab%18446744073709551616:=by omega
 rw[f1,f2] at r
 exact r
abbrev qdT (x:Int):Value:=qih (decide (x<0)) x.natAbs
theorem qdA (n:Int) (h:I64 n):Pure Tryz.prog 128 #[iV n] (.int .u64 (n.natAbs:Int)):=
 fun w=>(qfZ n w h.1 h.2).mono fun _ _ ⟨h1,h2⟩=>⟨h1,Gr.of_eq h2⟩
theorem qaP {p:Prop} [Decidable p] (h:p):decide p=true:=by simp[h]
theorem qaF {p:Prop} [Decidable p] (h:¬ p):decide p=false:=by simp[h]
theorem qca (a b:Int) (ha:I64 a) (hb:I64 b):Pure Tryz.prog 84 #[iV a,iV b] (qdT (a*b)):=by
 have ca:=qdA a ha
 have cb:=qdA b hb
 unfold I64 at ha hb
 have cp:=qns a.natAbs b.natAbs (by omega) (by omega)
 unfold qdT
 rw[Int.natAbs_mul]
 by_cases sa:a<0<;>by_cases sb:b<0
 ·rw[qaF (show ¬ a*b<0 by have:=Int.mul_pos_of_neg_of_neg sa sb;omega)]
  exact qkP ca cb cp (qaP sa) (qaP sb)
 ·by_cases nb:b=0
  ·subst nb
   rw[qaF (by simp)]
   exact qlP ca cb cp (qaP sa) (qaF sb) (by simp;omega) (by simp)
  ·rw[qaP (Int.mul_neg_of_neg_of_pos sa (by omega))]
   exact qkB ca cb cp (qaP sa) (qaF sb) (by simp;omega) (by simpa using nb)
 ·by_cases na:a=0
  ·subst na
   rw[qaF (by simp)]
   exact qlD ca cb cp (qaF sa) (qaP sb) (by simp)
  ·rw[qaP (Int.mul_neg_of_pos_of_neg (by omega) sb)]
   exact qkx ca cb cp (qaF sa) (qaP sb) (by simpa using na) (by simp;omega)
 ·rw[qaF (show ¬ a*b<0 by have:=Int.mul_nonneg (show 0≤a by omega) (show 0≤b by omega);omega)]
  exact qlt ca cb cp (qaF sa) (qaF sb)
theorem qeP (x:Int):Pure Tryz.prog 85 #[qdT x] (iV x.sign):=by
 unfold qdT
 obtain⟨A,hA⟩:∃ A,A=x.natAbs:=⟨_,rfl⟩
 rw[← hA]
 by_cases h0:x=0
 ·subst h0
  subst hA
  exact qwA (by simp) (by simp)
 ·by_cases hs:x<0
  ·rw[qaP hs,Int.sign_eq_neg_one_of_neg hs]
   by_cases hh:A/18446744073709551616=0
   ·exact qoX (by simp[hh]) (by simp;omega)
   ·exact qpA (by simp;omega)
  ·rw[qaF hs,Int.sign_eq_one_of_pos (by omega)]
   by_cases hh:A/18446744073709551616=0
   ·exact qqf (by simp[hh]) (by simp;omega)
   ·exact qpg (by simp;omega)
def qfY (A B:Nat):Int:=if A<B then -1 else if A=B then 0 else 1
theorem qdP (s t:Bool) (A B:Nat):Pure Tryz.prog 86 #[qih s A,qih t B] (iV (qfY A B)):=by
 by_cases hh:A/18446744073709551616=B/18446744073709551616
 ·by_cases hl:A%18446744073709551616=B%18446744073709551616
  ·have e:A=B:=by omega
   subst e
   rw[show qfY A A=0 by simp[qfY]]
   exact qqQ (by simp) (by simp)
  ·by_cases hlt:A%18446744073709551616<B%18446744073709551616
   ·rw[show qfY A B = -1 by unfold qfY;rw[if_pos (by omega)]]
    exact qrW (by simp[hh]) (by simp;omega) (by simp;omega)
   ·rw[show qfY A B=1 by unfold qfY;rw[if_neg (by omega),if_neg (by omega)]]
    exact qqy (by simp[hh]) (by simp;omega) (by simp;omega)
 ·by_cases hlt:A/18446744073709551616<B/18446744073709551616
  ·rw[show qfY A B = -1 by unfold qfY;rw[if_pos (by omega)]]
   exact qrH (by simp;omega) (by simp;omega)
  ·rw[show qfY A B=1 by unfold qfY;rw[if_neg (by omega),if_neg (by omega)]]
   exact qqS (by simp;omega) (by simp;omega)
theorem qiB {x y:Nat} (h:x<y) (hy:y<18446744073709551616):Value.int .u64 (IntKind.u64.wrap ((x:Int)-(y:Int)))=.int .u64 ((18446744073709551616+x-y:Nat):Int):=by
 rw[IntKind.wrap_u64];congr 1;omega
theorem qeD (s t:Bool) (A B:Nat) (hA:A<340282366920938463463374607431768211456) (h:B≤A):Pure Tryz.prog 236 #[qih s A,qih t B] (qih false (A-B)):=by
 obtain⟨a1,ha1⟩:∃ x,x=A/18446744073709551616:=⟨_,rfl⟩
 obtain⟨a0,ha0⟩:∃ x,x=A%18446744073709551616:=⟨_,rfl⟩
 obtain⟨b1,hb1⟩:∃ x,x=B/18446744073709551616:=⟨_,rfl⟩
 obtain⟨b0,hb0⟩:∃ x,x=B%18446744073709551616:=⟨_,rfl⟩
 unfold qih
 rw[← ha1,← ha0,← hb1,← hb0]
 have hs:Value.int .u64 (IntKind.u64.wrap ((a1:Int)-(b1:Int)))=.int .u64 ((a1-b1:Nat):Int):=qgK (by omega) (by omega) (by omega)
 by_cases hl:a0<b0
 ·rw[show (A-B)/18446744073709551616=a1-b1-1 by omega,show (A-B)%18446744073709551616=18446744073709551616+a0-b0 by omega]
  exact qBt hs (qiB hl (by omega)) (by simp;omega) (qgK (by omega) (by omega) (by omega))
 ·rw[show (A-B)/18446744073709551616=a1-b1 by omega,show (A-B)%18446744073709551616=a0-b0 by omega]
  exact qxF hs (qgK (by omega) (by omega) (by omega)) (by simp;omega)
theorem qiH {x y z:Nat} (h:x+y=z+18446744073709551616) (hz:z<18446744073709551616):Value.int .u64 (IntKind.u64.wrap ((x:Int)+(y:Int)))=.int .u64 (z:Int):=by
 rw[IntKind.wrap_u64,show ((x:Int)+(y:Int))%18446744073709551616=(z:Int) by omega]
theorem qAr (s:Bool) (A B:Nat) (h:A+B<340282366920938463463374607431768211456):Pure Tryz.prog 217 #[qih s A,qih s B] (qih s (A+B)):=by
 obtain⟨a1,ha1⟩:∃ x,x=A/18446744073709551616:=⟨_,rfl⟩
 obtain⟨a0,ha0⟩:∃ x,x=A%18446744073709551616:=⟨_,rfl⟩
 obtain⟨b1,hb1⟩:∃ x,x=B/18446744073709551616:=⟨_,rfl⟩
 obtain⟨b0,hb0⟩:∃ x,x=B%18446744073709551616:=⟨_,rfl⟩
 unfold qih
 rw[← ha1,← ha0,← hb1,← hb0]
 have hh:Value.int .u64 (IntKind.u64.wrap ((a1:Int)+(b1:Int)))=.int .u64 ((a1+b1:Nat):Int):=qvh (by omega)
 by_cases hl:a0+b0<18446744073709551616
 ·have l1:=qvh hl
  rw[show (A+B)/18446744073709551616=a1+b1 by omega,show (A+B)%18446744073709551616=a0+b0 by omega]
  cases s
  ·exact qmD hh l1 (qaF (by omega))
  ·exact qnf hh l1 (qaF (by omega))
 ·obtain⟨z,hz⟩:∃ z,a0+b0=z+18446744073709551616:=⟨a0+b0-18446744073709551616,by omega⟩
  have l1:=qiH hz (by omega)
  rw[show (A+B)/18446744073709551616=a1+b1+1 by omega,show (A+B)%18446744073709551616=z by omega]
  cases s
  ·exact qmR hh l1 (qaP (by omega)) (qgK (by omega) (by omega) (by omega))
  ·exact qoi hh l1 (qaP (by omega)) (qgK (by omega) (by omega) (by omega))
theorem qmY (x y:Int) (hx:x.natAbs<170141183460469231731687303715884105728) (hy:y.natAbs<170141183460469231731687303715884105728):Pure Tryz.prog 217 #[qdT x,qdT y] (qdT (x+y)):=by
 unfold qdT
 by_cases sx:x<0<;>by_cases sy:y<0
 ·rw[qaP sx,qaP sy,qaP (show x+y<0 by omega),show (x+y).natAbs=x.natAbs+y.natAbs by omega]
  exact qAr true _ _ (by omega)
 ·rw[qaP sx,qaF sy]
  have cl:=qdP true false x.natAbs y.natAbs
  by_cases hc:y.natAbs≤x.natAbs
  ·have cm:=qeD true false x.natAbs y.natAbs (by omega) hc
   rw[show (x+y).natAbs=x.natAbs-y.natAbs by omega]
   have hge:decide (qfY x.natAbs y.natAbs≥0)=true:=by unfold qfY;rw[if_neg (by omega)];split<;>decide
   obtain⟨D,hD⟩:∃ D,D=x.natAbs-y.natAbs:=⟨_,rfl⟩
   rw[← hD] at cm ⊢
   by_cases hd:D=0
   ·rw[qaF (show ¬ x+y<0 by omega)]
    exact qnp cl hge cm (by simp[hd]) (by simp[hd])
   ·rw[qaP (show x+y<0 by omega)]
    by_cases hh:D/18446744073709551616=0
    ·exact qoI cl hge cm (by simp[hh]) (by simp;omega)
    ·exact qmj cl hge cm (by simp;omega)
  ·have cm:=qeD false true y.natAbs x.natAbs (by omega) (by omega)
   rw[show (x+y).natAbs=y.natAbs-x.natAbs by omega,qaF (show ¬ x+y<0 by omega)]
   exact qrs cl (by unfold qfY;rw[if_pos (by omega)];decide) cm
 ·rw[qaF sx,qaP sy]
  have cl:=qdP false true x.natAbs y.natAbs
  by_cases hc:y.natAbs≤x.natAbs
  ·have cm:=qeD false true x.natAbs y.natAbs (by omega) hc
   rw[show (x+y).natAbs=x.natAbs-y.natAbs by omega,qaF (show ¬ x+y<0 by omega)]
   exact qp4 cl (by unfold qfY;rw[if_neg (by omega)];split<;>decide) cm
  ·have cm:=qeD true false y.natAbs x.natAbs (by omega) (by omega)
   rw[show (x+y).natAbs=y.natAbs-x.natAbs by omega,qaP (show x+y<0 by omega)]
   exact qpb cl (by unfold qfY;rw[if_pos (by omega)];decide) cm
 ·rw[qaF sx,qaF sy,qaF (show ¬ x+y<0 by omega),show (x+y).natAbs=x.natAbs+y.natAbs by omega]
  exact qAr false _ _ (by omega)
theorem qnm (g s t:Bool) (A B:Nat):Pure Tryz.prog 218 #[.bool g,qih s A,qih t B] (.tuple #[qaa (qeg (qbl A&&qbl B) (sgV A g)) (qeg (qbl A&&qbl B) (B:Int)),iV (qoA (qbl A&&qbl B))]):=by
 by_cases hA:A<9223372036854775808
 ·by_cases hB:B<9223372036854775808
  ·have hf:(qbl A&&qbl B)=true:=by simp[qbl,hA,hB]
   rw[hf,show qeg true (sgV A g)=sgV A g from rfl,show qeg true (B:Int)=(B:Int) from rfl,show qoA true=0 from rfl]
   have v1:iV (IntKind.i64.wrap ((A%18446744073709551616:Nat):Int))=iV (A:Int):=by rw[qai (by omega) (by omega)];congr 1;omega
   have v3:iV (IntKind.i64.wrap ((B%18446744073709551616:Nat):Int))=iV (B:Int):=by rw[qai (by omega) (by omega)];congr 1;omega
   cases g
   ·rw[show sgV A false=(A:Int) by unfold sgV;rw[if_pos hA];rfl]
    exact qtd (by simp;omega) (by simp;omega) (by simp;omega) (by simp;omega) v1 v3
   ·rw[show sgV A true = -(A:Int) by unfold sgV;rw[if_pos hA];rfl]
    exact qwL (by simp;omega) (by simp;omega) (by simp;omega) (by simp;omega) v1 (by rw[Int.zero_sub,qai (by omega) (by omega)]) v3
  ·rw[show (qbl A&&qbl B)=false by simp[qbl,hB]]
   by_cases hh:B/18446744073709551616=0
   ·exact qpV (by simp;omega) (by simp;omega) (by simp;omega) (by simp;omega)
   ·exact qqE (by simp;omega) (by simp;omega) (by simp;omega)
 ·rw[show (qbl A&&qbl B)=false by simp[qbl,hA]]
  by_cases hh:A/18446744073709551616=0
  ·exact qqw (by simp;omega) (by simp;omega)
  ·exact qpx (by simp;omega)
end Go.Proofs.YtkjaanhddkkodaaGreat

namespace Go.Proofs.YtkjaanhddkkodaaGreat
set_option maxRecDepth 100000
open Go.RowKit
abbrev qBT (x:Int):Prop:=Pure Tryz.prog 85 #[qdT (x)] (iV x.sign)
abbrev qBQ (y:Int):Prop:=Pure Tryz.prog 85 #[qdT (y)] (iV y.sign)
theorem qkA {a b c d x y:Int} (c1:Pure Tryz.prog 84 #[iV a,iV d] (qdT (x))) (c2:Pure Tryz.prog 84 #[iV c,iV b] (qdT (y))) (s1:qBT x) (s2:qBQ y) (t1:(x.sign !=y.sign)=true) (t2:decide (x.sign<y.sign)=true) :
 Pure Tryz.prog 40 #[qaa a b,qaa c d] (iV (-1)):=
 qad (args:=[qaa a b,qaa c d]) 200 [Rf c1,Rf c2,Rf s1,Rf s2,.t true,Rf s1,Rf s2,.t true]
  (Ai rfl (Ai c1 (Ai c2 (Ai s1 (Ai s2 (Ai t1 (Ai s1 (Ai s2 (Ai t2 tI))))))))) (by kernel_rfl)
theorem qk3 {a b c d x y:Int} (c1:Pure Tryz.prog 84 #[iV a,iV d] (qdT (x))) (c2:Pure Tryz.prog 84 #[iV c,iV b] (qdT (y))) (s1:qBT x) (s2:qBQ y) (t1:(x.sign !=y.sign)=true) (t2:decide (x.sign<y.sign)=false) :
 Pure Tryz.prog 40 #[qaa a b,qaa c d] (iV 1):=
 qad (args:=[qaa a b,qaa c d]) 200 [Rf c1,Rf c2,Rf s1,Rf s2,.t true,Rf s1,Rf s2,.t false]
  (Ai rfl (Ai c1 (Ai c2 (Ai s1 (Ai s2 (Ai t1 (Ai s1 (Ai s2 (Ai t2 tI))))))))) (by kernel_rfl)
theorem qls {a b c d x y e:Int} (c1:Pure Tryz.prog 84 #[iV a,iV d] (qdT (x))) (c2:Pure Tryz.prog 84 #[iV c,iV b] (qdT (y))) (s1:qBT x) (s2:qBQ y) (t1:(x.sign !=y.sign)=false) (t3:decide (x.sign<0)=true) (l1:Pure Tryz.prog 86 #[qdT (y),qdT (x)] (iV e)) :
 Pure Tryz.prog 40 #[qaa a b,qaa c d] (iV e):=
 qad (args:=[qaa a b,qaa c d]) 200 [Rf c1,Rf c2,Rf s1,Rf s2,.t false,Rf s1,.t true,Rf l1]
  (Ai rfl (Ai c1 (Ai c2 (Ai s1 (Ai s2 (Ai t1 (Ai s1 (Ai t3 (Ai l1 tI))))))))) (by kernel_rfl)
theorem qlm {a b c d x y e:Int} (c1:Pure Tryz.prog 84 #[iV a,iV d] (qdT (x))) (c2:Pure Tryz.prog 84 #[iV c,iV b] (qdT (y))) (s1:qBT x) (s2:qBQ y) (t1:(x.sign !=y.sign)=false) (t3:decide (x.sign<0)=false) (l1:Pure Tryz.prog 86 #[qdT (x),qdT (y)] (iV e)) :
 Pure Tryz.prog 40 #[qaa a b,qaa c d] (iV e):=
 qad (args:=[qaa a b,qaa c d]) 200 [Rf c1,Rf c2,Rf s1,Rf s2,.t false,Rf s1,.t false,Rf l1]
  (Ai rfl (Ai c1 (Ai c2 (Ai s1 (Ai s2 (Ai t1 (Ai s1 (Ai t3 (Ai l1 tI))))))))) (by kernel_rfl)
end Go.Proofs.YtkjaanhddkkodaaGreat

namespace Go.Proofs.YtkjaanhddkkodaaGreat
set_option maxRecDepth 100000
open Go.RowKit
theorem qh1 {a b c d:Int} (ha:I64 a) (hb:I64 b) (hc:I64 c) (hd:I64 d):Pure Tryz.prog 40 #[qaa a b,qaa c d] (iV (a*d-c*b).sign):=by
 have c1:=qca a d ha hd
 have c2:=qca c b hc hb
 generalize a*d=x at *
 generalize c*b=y at *
 have s1:=qeP x
 have s2:=qeP y
 have kx:x<0∧x.sign = -1∨x=0∧x.sign=0∨0<x∧x.sign=1:=by
  rcases Int.lt_trichotomy x 0 with h | h | h
  ·exact Or.inl ⟨h,Int.sign_eq_neg_one_of_neg h⟩
  ·exact Or.inr (Or.inl ⟨h,by rw[h];rfl⟩)
  ·exact Or.inr (Or.inr ⟨h,Int.sign_eq_one_of_pos h⟩)
 have ky:y<0∧y.sign = -1∨y=0∧y.sign=0∨0<y∧y.sign=1:=by
  rcases Int.lt_trichotomy y 0 with h | h | h
  ·exact Or.inl ⟨h,Int.sign_eq_neg_one_of_neg h⟩
  ·exact Or.inr (Or.inl ⟨h,by rw[h];rfl⟩)
  ·exact Or.inr (Or.inr ⟨h,Int.sign_eq_one_of_pos h⟩)
 have kd:x-y<0∧(x-y).sign = -1∨x-y=0∧(x-y).sign=0∨0<x-y∧(x-y).sign=1:=by
  rcases Int.lt_trichotomy (x-y) 0 with h | h | h
  ·exact Or.inl ⟨h,Int.sign_eq_neg_one_of_neg h⟩
  ·exact Or.inr (Or.inl ⟨h,by rw[h];rfl⟩)
  ·exact Or.inr (Or.inr ⟨h,Int.sign_eq_one_of_pos h⟩)
 by_cases he:x.sign=y.sign
 ·by_cases hn:x.sign<0
  ·have l:=qdP (decide (y<0)) (decide (x<0)) y.natAbs x.natAbs
   rw[show (x-y).sign=qfY y.natAbs x.natAbs by unfold qfY;split<;>(try split)<;>omega]
   exact qls c1 c2 s1 s2 (by simp[he]) (qaP hn) l
  ·have l:=qdP (decide (x<0)) (decide (y<0)) x.natAbs y.natAbs
   rw[show (x-y).sign=qfY x.natAbs y.natAbs by unfold qfY;split<;>(try split)<;>omega]
   exact qlm c1 c2 s1 s2 (by simp[he]) (qaF hn) l
 ·by_cases hl:x.sign<y.sign
  ·rw[show (x-y).sign = -1 by omega]
   exact qkA c1 c2 s1 s2 (by simpa using he) (qaP hl)
  ·rw[show (x-y).sign=1 by omega]
   exact qk3 c1 c2 s1 s2 (by simpa using he) (qaF hl)
theorem qiV (a b g:Nat) (ha:a<18446744073709551616) (hb:b<18446744073709551616) (hg:g=Nat.gcd a b):Pure Tryz.prog 127 #[.int .u64 a,.int .u64 b] (.int .u64 (g:Int)):=
 fun w=>hg▸qos a b w ha hb
theorem qE0 {x y:Nat} (h:x<18446744073709551616):Value.int .u64 (IntKind.u64.wrap ((x:Int).tdiv (y:Int)))=.int .u64 ((x/y:Nat):Int):=qgK (qxQ x y) (Int.natCast_nonneg _) (by have:=Nat.div_le_self x y;omega)
theorem qvl {f:Bool} {U:Nat} (h:f=true→U<9223372036854775808):qeg f (sgV U false)=qeg f (U:Int):=by
 cases f
 ·rfl
 ·show sgV U false=(U:Int)
  unfold sgV
  rw[if_pos (h rfl)]
  rfl
end Go.Proofs.YtkjaanhddkkodaaGreat

namespace Go.Proofs.YtkjaanhddkkodaaGreat
set_option maxRecDepth 100000
open Go.RowKit
theorem qd9 (X:Int):(X.sign≥0)↔0≤X:=by
 rcases Int.lt_trichotomy X 0 with h | h | h
 ·rw[Int.sign_eq_neg_one_of_neg h];omega
 ·rw[h];decide
 ·rw[Int.sign_eq_one_of_pos h];omega
theorem qfN {pi pa pb qi qa qb n d m k:Int} (k0:0<k) (h4:m*(pb-qb)=(qa-pa)*k) (hb:pb≠qb) :
 qbg (pa*d+pb*n) (qa*d+qb*n) pb qb pi qi=(decide (pb>qb)==decide ((n*k-m*d).sign≥0)):=by
 have key:(pa*d+pb*n-(qa*d+qb*n))*k=(pb-qb)*(n*k-m*d):=by
  have e1:(pb-qb)*(m*d)=(qa-pa)*k*d:=by rw[← h4,← Int.mul_assoc,Int.mul_comm (pb-qb) m]
  rw[Int.mul_sub,e1,Int.sub_mul,Int.add_mul,Int.add_mul,Int.sub_mul,Int.sub_mul,Int.sub_mul,← Int.mul_assoc,← Int.mul_assoc,Int.mul_right_comm qa k d,Int.mul_right_comm pa k d]
  omega
 have hs:=qd9 (n*k-m*d)
 generalize n*k-m*d=X at *
 generalize pa*d+pb*n=P at *
 generalize qa*d+qb*n=Q at *
 have hk:((P-Q)*k<0↔P-Q<0)∧(0<(P-Q)*k↔0<P-Q):=by
  rcases Int.lt_trichotomy (P-Q) 0 with h | h | h
  ·have:=Int.mul_neg_of_neg_of_pos h k0;omega
  ·rw[h];simp
  ·have:=Int.mul_pos h k0;omega
 have hx:((pb-qb)*X<0↔(pb>qb∧X<0∨pb<qb∧0<X))∧(0<(pb-qb)*X↔(pb>qb∧0<X∨pb<qb∧X<0)):=by
  rcases Int.lt_trichotomy X 0 with h | h | h
  ·rcases Int.lt_or_gt_of_ne hb with g | g
   ·have:=Int.mul_pos_of_neg_of_neg (show pb-qb<0 by omega) h;omega
   ·have:=Int.mul_neg_of_pos_of_neg (show 0<pb-qb by omega) h;omega
  ·rw[h];simp
  ·rcases Int.lt_or_gt_of_ne hb with g | g
   ·have:=Int.mul_neg_of_neg_of_pos (show pb-qb<0 by omega) h;omega
   ·have:=Int.mul_pos (show 0<pb-qb by omega) h;omega
 rw[key] at hk
 by_cases g:pb>qb
 ·by_cases l:0≤X
  ·rw[dt g,dt (hs.2 l)];exact qds (by omega)
  ·rw[dt g,df (fun h=>l (hs.1 h))];exact qcP (by omega)
 ·by_cases l:0≤X
  ·rw[df g,dt (hs.2 l)];exact qcP (by omega)
  ·rw[df g,df (fun h=>l (hs.1 h))];exact qds (by omega)
theorem qfL {pi pa b qi qa n d:Int} (d0:0<d):qbg (pa*d+b*n) (qa*d+b*n) b b pi qi=qbg pa qa b b pi qi:=by
 have e:pa*d-qa*d=(pa-qa)*d:=(Int.sub_mul _ _ _).symm
 have hk:((pa-qa)*d<0↔pa-qa<0)∧(0<(pa-qa)*d↔0<pa-qa):=by
  rcases Int.lt_trichotomy (pa-qa) 0 with h | h | h
  ·have:=Int.mul_neg_of_neg_of_pos h d0;omega
  ·rw[h];simp
  ·have:=Int.mul_pos h d0;omega
 unfold qbg
 rw[← e] at hk
 exact decide_eq_decide.2 (by omega)
theorem qkD {pi pa pb qi qa qb:Int} (h:pi≠qi):Pure Tryz.prog 142 #[qac pi pa pb,qac qi qa qb] (iV 0):=qEP (by simp[h])
theorem qic {pi pa pb qi qa qb:Int} (hp:okP pi pa pb=true) (hq:okP qi qa qb=true) (hb:pb≠qb) :
 ∃ m k,okB m k=true∧I64 m∧I64 k∧m*(pb-qb)=(qa-pa)*k∧Pure Tryz.prog 188 #[qac pi pa pb,qac qi qa qb] (qaa m k)∧Pure Tryz.prog 188 #[qac qi qa qb,qac pi pa pb] (qaa m k):=by
 obtain⟨m,k,h1,h2,h3,h4,h5⟩:=qga hp hq hb
 obtain⟨m',k',g1,g2,g3,g4,g5⟩:=qga hq hp (Ne.symm hb)
 have e:m*k'=m'*k:=by
  refine Int.eq_of_mul_eq_mul_right (show pb-qb≠0 by omega) ?_
  have a1:m*k'*(pb-qb)=(qa-pa)*k*k':=by rw[Int.mul_right_comm,h4]
  have a2:m'*k*(pb-qb) = -((pa-qa)*k'*k):=by
   rw[Int.mul_right_comm,← Int.neg_mul,← g4,← Int.mul_neg];congr 2;omega
  rw[a1,a2,← Int.neg_mul,← Int.neg_mul,Int.mul_right_comm (qa-pa) k k']
  congr 2;omega
 obtain⟨rfl,rfl⟩:=qgV h1 g1 e
 exact⟨m,k,h1,h2,h3,h4,h5,g5⟩
end Go.Proofs.YtkjaanhddkkodaaGreat
