/-
  Joined: Qa, Qb, Qr. Conditions: none.
-/
import Derived.Test.YtgbmdijodlfcaaaW28
import Derived.Test.YtgbmdijodlfcaaaW24
import Derived.Test.YtgbmdijodlfcaaaW27
import Derived.Test.YtgbmdijodlfcaaaW21
namespace Go.Proofs.Ytgbmdijodlfcaaa
set_option maxRecDepth 100000
open Go.RowKit
abbrev brS (i j:Nat) (b:Br):SV:=.ag [.ls i b.p.length,.ls j b.w.length]
abbrev qoL (i j:Nat) (b:Br):S1:=.ag [.ls i b.p.length,.ls j b.w.length]
def qov (m:List Int):List (Value×Value):=m.map fun x=>(iV x,.bool true)
abbrev qc5 (m:List Int):List Value:=kvL (qov m)
theorem qqk {l:List Int} (h1:decide ((l.length:Int)<1)=true) :
 Fn 37 1 [.ls 0 l.length] [(0,0,zrI l)] (.pv (iV (2))) 0 []:=
 Fz [] [.t true]
  tI (Ai h1 tI)
theorem qpI {l:List Int} (h1:decide ((l.length:Int)<1)=false) (h2:decide ((l.length:Int)>64)=true) :
 Fn 37 1 [.ls 0 l.length] [(0,0,zrI l)] (.pv (iV (2))) 0 []:=
 Fz [] [.t false,.t true]
  tI (Ai h1 (Ai h2 tI))
theorem qpo {l:List Int} (h1:decide ((l.length:Int)<1)=false) (h2:decide ((l.length:Int)>64)=false) :
 Fn 37 1 [.ls 0 l.length] [(0,0,zrI l)] (.pv (iV (0))) 0 []:=
 Fz [] [.t false,.t false]
  tI (Ai h1 (Ai h2 tI))
theorem qoN {b:Br} {x:Int} (h1:decide (x<0)=true) :
 Fn 44 2 [brS 0 1 b,.pv (iV (x))] [(0,0,zrI b.p),(1,0,zrI b.w)] (.pv (iV (2))) 0 []:=
 Fz [] [.t true]
  tI (Ai h1 tI)
theorem qo2 {b:Br} {x:Int} (h1:decide (x<0)=false) (h2:decide (x≥(b.p.length:Int))=true) :
 Fn 44 2 [brS 0 1 b,.pv (iV (x))] [(0,0,zrI b.p),(1,0,zrI b.w)] (.pv (iV (2))) 0 []:=
 Fz [] [.t false,.t true]
  tI (Ai h1 (Ai h2 tI))
theorem qpX {b:Br} {x:Int} (h1:decide (x<0)=false) (h2:decide (x≥(b.p.length:Int))=false) :
 Fn 44 2 [brS 0 1 b,.pv (iV (x))] [(0,0,zrI b.p),(1,0,zrI b.w)] (.pv (iV (0))) 0 []:=
 Fz [] [.t false,.t false]
  tI (Ai h1 (Ai h2 tI))
theorem qln {l s:List Pt} {k:Nat} {p:Pt} (hk:l[k]?=some p) (hin:0≤(k:Int)∧(k:Int)<(l.length:Int)) (hlt:decide ((k:Int)<(l.length:Int))=true) (hP:qdG Try.prog 77 (byV s) (iV p.id) (ptV p) (byV (s++[p]))) (hs:iV (IntKind.i64.wrap ((k:Int)+1))=iV (((k+1:Nat):Int))) {e:Exit} {tm2:TmL} {hp2:HpL}
 (r:Rl 1 1 38 0 23 3 ([(3,.mp 2),(11,.ls 0 l.length),(12,.pv (iV (l.length:Int))),(13,.pv (iV ((k+1:Nat):Int)))]) ([(2,0,.mrow (byV (s++[p]))),(0,0,qai l)]) e tm2 hp2):Rl 1 1 38 0 23 3 ([(3,.mp 2),(11,.ls 0 l.length),(12,.pv (iV (l.length:Int))),(13,.pv (iV (k:Int)))]) ([(2,0,.mrow (byV (s))),(0,0,qai l)]) e tm2 hp2:=
 RunsL.next [] 300 [.t true,.r (ptV p),.w (byV (s++[p])),Re hs]
  (Ro (Ai hlt (Ai hin (Ai (qeq hk) (Ai hP (Ai hs tI)))))) r
theorem qmw {l s:List Pt} {k:Nat} (hge:decide ((k:Int)<(l.length:Int))=false):Rl 1 1 38 0 23 3 ([(3,.mp 2),(11,.ls 0 l.length),(12,.pv (iV (l.length:Int))),(13,.pv (iV (k:Int)))]) ([(2,0,.mrow (byV (s))),(0,0,qai l)]) (.exit 0) ([(3,.mp 2)]) ([(2,0,.mrow (byV (s))),(0,0,qai l)]):=
 RunsL.stop [] 300 [.t false] (fun h=>by cases h)
  (Ro (Ai hge tI))
theorem qlN {l s:List Pt} (r0:Rl 1 1 38 0 23 3 ([(3,.mp 2),(11,.ls 0 l.length),(12,.pv (iV (l.length:Int))),(13,.pv (iV ((0:Nat):Int)))]) ([(2,0,.mrow (byV ([]))),(0,0,qai l)]) (.exit 0) ([(3,.mp 2)]) ([(2,0,.mrow (byV (s))),(0,0,qai l)])) :
 Fn 38 1 [qaD 0 l] [(0,0,qai l)] (.mp 1) 1 [(1,0,.mrow (byV s))]:=
 Fz [(1,2)] [Lf r0]
  (qc1 (qaR [(1,2)]) [(1,0,.mrow (byV s))]) (Lo r0 [] tI)
abbrev qfz (l:List Int) (s:List Pt):HpL:=[(0,0,zrI l),(1,0,.mrow (byV s)),(2,0,.mp 1)]
abbrev qqC (k:Nat) (l:List Int):TmL:=[(0,.ls 0 l.length),(1,.pc 80 [.pp 2 0]),(7,.pv (iV (l.length:Int))),(8,.pv (iV (k:Int)))]
theorem qlh {l:List Int} {s:List Pt} {k:Nat} {x:Int} (hk:l[k]?=some x) (hin:0≤(k:Int)∧(k:Int)<(l.length:Int)) (hlt:decide ((k:Int)<(l.length:Int))=true) (hA:qaU Try.prog 77 (byV s) (iV x) true (.tuple #[qaa 0 0 0,.bool false])) (hx:(x !=(-1))=false) (hs:iV (IntKind.i64.wrap ((k:Int)+1))=iV (((k+1:Nat):Int))) {e:Exit} {tm2:TmL} {hp2:HpL}
 (r:Rl 3 3 84 0 19 3 ([(0,.ls 0 l.length),(1,.pc 80 [.pp 2 0]),(7,.pv (iV (l.length:Int))),(8,.pv (iV ((k+1:Nat):Int)))]) (qfz l s) e tm2 hp2):Rl 3 3 84 0 19 3 (qqC k l) (qfz l s) e tm2 hp2:=
 RunsL.next [] 300 [.t true,.r (iV x),.k,.r (.tuple #[qaa 0 0 0,.bool false]),.t false,Re hs]
  (Ro (Ai hlt (Ai hin (Ai (qaZ hk) (Ai hA (Ai hx (Ai hs tI))))))) r
theorem qiO {l:List Int} {s:List Pt} {q:Pt} {k:Nat} {x:Int} (hk:l[k]?=some x) (hin:0≤(k:Int)∧(k:Int)<(l.length:Int)) (hlt:decide ((k:Int)<(l.length:Int))=true) (hA:qaU Try.prog 77 (byV s) (iV x) true (.tuple #[ptV q,.bool true])) (hx:(x !=(-1))=true) (hs:iV (IntKind.i64.wrap ((k:Int)+1))=iV (((k+1:Nat):Int))) {e:Exit} {tm2:TmL} {hp2:HpL}
 (r:Rl 3 3 84 0 19 3 ([(0,.ls 0 l.length),(1,.pc 80 [.pp 2 0]),(7,.pv (iV (l.length:Int))),(8,.pv (iV ((k+1:Nat):Int)))]) (qfz l s) e tm2 hp2):Rl 3 3 84 0 19 3 (qqC k l) (qfz l s) e tm2 hp2:=
 RunsL.next [] 300 [.t true,.r (iV x),.k,.r (.tuple #[ptV q,.bool true]),.t true,.k,Re hs]
  (Ro (Ai hlt (Ai hin (Ai (qaZ hk) (Ai hA (Ai hx (Ai hs tI))))))) r
theorem qlK {l:List Int} {s:List Pt} {k:Nat} {x:Int} (hk:l[k]?=some x) (hin:0≤(k:Int)∧(k:Int)<(l.length:Int)) (hlt:decide ((k:Int)<(l.length:Int))=true) (hA:qaU Try.prog 77 (byV s) (iV x) true (.tuple #[qaa 0 0 0,.bool false])) (hx:(x !=(-1))=true):Rl 3 3 84 0 19 3 (qqC k l) (qfz l s) (.ret) ([(4,.pv (iV (k:Int)))]) ([]):=
 RunsL.stop [] 300 [.t true,.r (iV x),.k,.r (.tuple #[qaa 0 0 0,.bool false]),.t true,.k] (fun h=>by cases h)
  (Ro (Ai hlt (Ai hin (Ai (qaZ hk) (Ai hA (Ai hx tI))))))
theorem qm6 {l:List Int} {s:List Pt} {k:Nat} (hge:decide ((k:Int)<(l.length:Int))=false):Rl 3 3 84 0 19 3 (qqC k l) (qfz l s) (.exit 0) ([]) ([]):=
 RunsL.stop [] 300 [.t false] (fun h=>by cases h)
  (Ro (Ai hge tI))
theorem qp4 {l:List Int} {s:List Pt} (r0:Rl 3 3 84 0 19 3 ([(0,.ls 0 l.length),(1,.pc 80 [.pp 2 0]),(7,.pv (iV (l.length:Int))),(8,.pv (iV ((0:Nat):Int)))]) (qfz l s) (.exit 0) ([]) ([])) :
 Fn 84 3 [.ls 0 l.length,.pc 80 [.pp 2 0]] (qfz l s) (.pv (iV (-1))) 0 []:=
 Fz [] [Lf r0]
  tI (Lo r0 [] tI)
theorem qoh {l:List Int} {s:List Pt} {k:Nat} (r0:Rl 3 3 84 0 19 3 ([(0,.ls 0 l.length),(1,.pc 80 [.pp 2 0]),(7,.pv (iV (l.length:Int))),(8,.pv (iV ((0:Nat):Int)))]) (qfz l s) (.ret) ([(4,.pv (iV (k:Int)))]) ([])) :
 Fn 84 3 [.ls 0 l.length,.pc 80 [.pp 2 0]] (qfz l s) (.pv (iV (k:Int))) 0 []:=
 Fz [] [Lf r0]
  tI (Lo r0 [] tI)
theorem qqf {l:List Int} {s:List Pt} (hi:Fn 84 3 [.ls 0 l.length,.pc 80 [.pp 2 0]] (qfz l s) (.pv (iV (-1))) 0 []) :
 Fn 73 3 [.ls 0 l.length,.pc 80 [.pp 2 0]] (qfz l s) (.pv (.bool false)) 0 []:=
 Fz [] [Cf hi [0,1,2],.k]
  tI (Co hi [0,1,2] 3 tI)
theorem qn4 {l:List Int} {s:List Pt} {k:Nat} (hi:Fn 84 3 [.ls 0 l.length,.pc 80 [.pp 2 0]] (qfz l s) (.pv (iV (k:Int))) 0 []) (h0:decide ((k:Int)≥0)=true) :
 Fn 73 3 [.ls 0 l.length,.pc 80 [.pp 2 0]] (qfz l s) (.pv (.bool true)) 0 []:=
 Fz [] [Cf hi [0,1,2],.t true]
  tI (Co hi [0,1,2] 3 (Ai h0 tI))
theorem qqh {l:List Int} {s:List Pt} (ht:Fn 73 3 [.ls 0 l.length,.pc 80 [.pp 2 0]] (qfz l s) (.pv (.bool true)) 0 []) :
 Fn 65 2 [.mp 1,.ls 0 l.length] [(0,0,zrI l),(1,0,.mrow (byV s))] (.pv (.bool false)) 0 []:=
 Fz [] [Cf ht [0,1,2],.k]
  tI (Co ht [0,1,2] 4 tI)
theorem qmX {l:List Int} {s:List Pt} (ht:Fn 73 3 [.ls 0 l.length,.pc 80 [.pp 2 0]] (qfz l s) (.pv (.bool false)) 0 []) :
 Fn 65 2 [.mp 1,.ls 0 l.length] [(0,0,zrI l),(1,0,.mrow (byV s))] (.pv (.bool true)) 0 []:=
 Fz [] [Cf ht [0,1,2],.k]
  tI (Co ht [0,1,2] 4 tI)
abbrev qqt (k:Nat) (l:List Int):TmL:=[(0,.ls 0 l.length),(1,.pv (.func (.func 72) #[] #[])),(7,.pv (iV (l.length:Int))),(8,.pv (iV (k:Int)))]
theorem qkq {l:List Int} {k:Nat} {x:Int} (hk:l[k]?=some x) (hin:0≤(k:Int)∧(k:Int)<(l.length:Int)) (hlt:decide ((k:Int)<(l.length:Int))=true) (hlo:decide (x<(-1))=false) (hhi:decide (x>65535)=false) (hs:iV (IntKind.i64.wrap ((k:Int)+1))=iV (((k+1:Nat):Int))) {e:Exit} {tm2:TmL} {hp2:HpL}
 (r:Rl 1 1 84 0 19 1 ([(0,.ls 0 l.length),(1,.pv (.func (.func 72) #[] #[])),(7,.pv (iV (l.length:Int))),(8,.pv (iV ((k+1:Nat):Int)))]) ([(0,0,zrI l)]) e tm2 hp2):Rl 1 1 84 0 19 1 (qqt k l) ([(0,0,zrI l)]) e tm2 hp2:=
 RunsL.next [] 300 [.t true,.r (iV x),.k,.t false,.t false,Re hs]
  (Ro (Ai hlt (Ai hin (Ai (qaZ hk) (Ai hlo (Ai hhi (Ai hs tI))))))) r
theorem qoR {l:List Int} {k:Nat} {x:Int} (hk:l[k]?=some x) (hin:0≤(k:Int)∧(k:Int)<(l.length:Int)) (hlt:decide ((k:Int)<(l.length:Int))=true) (hlo:decide (x<(-1))=true):Rl 1 1 84 0 19 1 (qqt k l) ([(0,0,zrI l)]) (.ret) ([(4,.pv (iV (k:Int)))]) ([]):=
 RunsL.stop [] 300 [.t true,.r (iV x),.k,.t true] (fun h=>by cases h)
  (Ro (Ai hlt (Ai hin (Ai (qaZ hk) (Ai hlo tI)))))
theorem qpm {l:List Int} {k:Nat} {x:Int} (hk:l[k]?=some x) (hin:0≤(k:Int)∧(k:Int)<(l.length:Int)) (hlt:decide ((k:Int)<(l.length:Int))=true) (hlo:decide (x<(-1))=false) (hhi:decide (x>65535)=true):Rl 1 1 84 0 19 1 (qqt k l) ([(0,0,zrI l)]) (.ret) ([(4,.pv (iV (k:Int)))]) ([]):=
 RunsL.stop [] 300 [.t true,.r (iV x),.k,.t false,.t true] (fun h=>by cases h)
  (Ro (Ai hlt (Ai hin (Ai (qaZ hk) (Ai hlo (Ai hhi tI))))))
theorem qnH {l:List Int} {k:Nat} (hge:decide ((k:Int)<(l.length:Int))=false):Rl 1 1 84 0 19 1 (qqt k l) ([(0,0,zrI l)]) (.exit 0) ([]) ([]):=
 RunsL.stop [] 300 [.t false] (fun h=>by cases h)
  (Ro (Ai hge tI))
abbrev qsE (l:List Int):TmL:=[(0,.ls 0 l.length),(1,.pv (.func (.func 72) #[] #[])),(7,.pv (iV (l.length:Int))),(8,.pv (iV ((0:Nat):Int)))]
theorem qpO {l:List Int} (r0:Rl 1 1 84 0 19 1 (qsE l) ([(0,0,zrI l)]) (.exit 0) ([]) ([])) :
 Fn 84 1 [.ls 0 l.length,.pv (.func (.func 72) #[] #[])] [(0,0,zrI l)] (.pv (iV (-1))) 0 []:=
 Fz [] [Lf r0]
  tI (Lo r0 [] tI)
theorem qm9 {l:List Int} {k:Nat} (r0:Rl 1 1 84 0 19 1 (qsE l) ([(0,0,zrI l)]) (.ret) ([(4,.pv (iV (k:Int)))]) ([])) :
 Fn 84 1 [.ls 0 l.length,.pv (.func (.func 72) #[] #[])] [(0,0,zrI l)] (.pv (iV (k:Int))) 0 []:=
 Fz [] [Lf r0]
  tI (Lo r0 [] tI)
theorem qqc {l:List Int} (hi:Fn 84 1 [.ls 0 l.length,.pv (.func (.func 72) #[] #[])] [(0,0,zrI l)] (.pv (iV (-1))) 0 []) :
 Fn 73 1 [.ls 0 l.length,.pv (.func (.func 72) #[] #[])] [(0,0,zrI l)] (.pv (.bool false)) 0 []:=
 Fz [] [Cf hi [0],.k]
  tI (Co hi [0] 1 tI)
theorem qn9 {l:List Int} {k:Nat} (hi:Fn 84 1 [.ls 0 l.length,.pv (.func (.func 72) #[] #[])] [(0,0,zrI l)] (.pv (iV (k:Int))) 0 []) (h0:decide ((k:Int)≥0)=true) :
 Fn 73 1 [.ls 0 l.length,.pv (.func (.func 72) #[] #[])] [(0,0,zrI l)] (.pv (.bool true)) 0 []:=
 Fz [] [Cf hi [0],.t true]
  tI (Co hi [0] 1 (Ai h0 tI))
abbrev qqM (k:Nat) (l:List Int):TmL:=[(3,.mp 1),(9,.ls 0 l.length),(10,.pv (iV (l.length:Int))),(11,.pv (iV (k:Int)))]
theorem qc9 {l m g:List Int} {k:Nat} {x:Int} (hk:l[k]?=some x) (hin:0≤(k:Int)∧(k:Int)<(l.length:Int)) (hlt:decide ((k:Int)<(l.length:Int))=true) (hx:(x !=(-1))=false) (hP:qdG Try.prog 118 (qc5 m) (iV x) (.bool true) (qc5 g)) (hs:iV (IntKind.i64.wrap ((k:Int)+1))=iV (((k+1:Nat):Int))) {e:Exit} {tm2:TmL} {hp2:HpL}
 (r:Rl 1 1 66 0 25 2 ([(3,.mp 1),(9,.ls 0 l.length),(10,.pv (iV (l.length:Int))),(11,.pv (iV ((k+1:Nat):Int)))]) ([(1,0,.mrow (qc5 g)),(0,0,zrI l)]) e tm2 hp2):Rl 1 1 66 0 25 2 (qqM k l) ([(1,0,.mrow (qc5 m)),(0,0,zrI l)]) e tm2 hp2:=
 RunsL.next [] 300 [.t true,.r (iV x),.t false,.w (qc5 g),Re hs]
  (Ro (Ai hlt (Ai hin (Ai (qaZ hk) (Ai hx (Ai hP (Ai hs tI))))))) r
theorem qgz {l m g:List Int} {k:Nat} {x:Int} (hk:l[k]?=some x) (hin:0≤(k:Int)∧(k:Int)<(l.length:Int)) (hlt:decide ((k:Int)<(l.length:Int))=true) (hx:(x !=(-1))=true) (hL:qaU Try.prog 118 (qc5 m) (iV x) false (.bool false)) (hP:qdG Try.prog 118 (qc5 m) (iV x) (.bool true) (qc5 g)) (hs:iV (IntKind.i64.wrap ((k:Int)+1))=iV (((k+1:Nat):Int))) {e:Exit} {tm2:TmL} {hp2:HpL}
 (r:Rl 1 1 66 0 25 2 ([(3,.mp 1),(9,.ls 0 l.length),(10,.pv (iV (l.length:Int))),(11,.pv (iV ((k+1:Nat):Int)))]) ([(1,0,.mrow (qc5 g)),(0,0,zrI l)]) e tm2 hp2):Rl 1 1 66 0 25 2 (qqM k l) ([(1,0,.mrow (qc5 m)),(0,0,zrI l)]) e tm2 hp2:=
 RunsL.next [] 300 [.t true,.r (iV x),.t true,.r (.bool false),.w (qc5 g),Re hs]
  (Ro (Ai hlt (Ai hin (Ai (qaZ hk) (Ai hx (Ai hL (Ai hP (Ai hs tI)))))))) r
theorem qms {l m:List Int} {k:Nat} {x:Int} (hk:l[k]?=some x) (hin:0≤(k:Int)∧(k:Int)<(l.length:Int)) (hlt:decide ((k:Int)<(l.length:Int))=true) (hx:(x !=(-1))=true) (hL:qaU Try.prog 118 (qc5 m) (iV x) false (.bool true)):Rl 1 1 66 0 25 2 (qqM k l) ([(1,0,.mrow (qc5 m)),(0,0,zrI l)]) (.ret) ([(2,.pv (.bool true))]) ([]):=
 RunsL.stop [] 300 [.t true,.r (iV x),.t true,.r (.bool true)] (fun h=>by cases h)
  (Ro (Ai hlt (Ai hin (Ai (qaZ hk) (Ai hx (Ai hL tI))))))
theorem qnq {l m:List Int} {k:Nat} (hge:decide ((k:Int)<(l.length:Int))=false):Rl 1 1 66 0 25 2 (qqM k l) ([(1,0,.mrow (qc5 m)),(0,0,zrI l)]) (.exit 0) ([]) ([]):=
 RunsL.stop [] 300 [.t false] (fun h=>by cases h)
  (Ro (Ai hge tI))
theorem qns {l:List Int} (r0:Rl 1 1 66 0 25 2 ([(3,.mp 1),(9,.ls 0 l.length),(10,.pv (iV (l.length:Int))),(11,.pv (iV ((0:Nat):Int)))]) ([(1,0,.mrow (qc5 [])),(0,0,zrI l)]) (.ret) ([(2,.pv (.bool true))]) ([])) :
 Fn 66 1 [.ls 0 l.length] [(0,0,zrI l)] (.pv (.bool true)) 0 []:=
 Fz [] [Lf r0]
  tI (Lo r0 [] tI)
theorem qoA {l:List Int} (r0:Rl 1 1 66 0 25 2 ([(3,.mp 1),(9,.ls 0 l.length),(10,.pv (iV (l.length:Int))),(11,.pv (iV ((0:Nat):Int)))]) ([(1,0,.mrow (qc5 [])),(0,0,zrI l)]) (.exit 0) ([]) ([])) :
 Fn 66 1 [.ls 0 l.length] [(0,0,zrI l)] (.pv (.bool false)) 0 []:=
 Fz [] [Lf r0]
  tI (Lo r0 [] tI)
theorem qpz {l:List Int} {s:List Pt} (h1:Fn 65 2 [.mp 1,.ls 0 l.length] [(0,0,zrI l),(1,0,.mrow (byV s))] (.pv (.bool false)) 0 []) :
 Fn 39 2 [.mp 1,.ls 0 l.length] [(0,0,zrI l),(1,0,.mrow (byV s))] (.pv (iV (6))) 0 []:=
 Fz [] [Cf h1 [0,1],.k]
  tI (Co h1 [0,1] 2 tI)
theorem qny {l:List Int} {s:List Pt} (h1:Fn 65 2 [.mp 1,.ls 0 l.length] [(0,0,zrI l),(1,0,.mrow (byV s))] (.pv (.bool true)) 0 []) (h2:Fn 66 1 [.ls 0 l.length] [(0,0,zrI l)] (.pv (.bool true)) 0 []) :
 Fn 39 2 [.mp 1,.ls 0 l.length] [(0,0,zrI l),(1,0,.mrow (byV s))] (.pv (iV (14))) 0 []:=
 Fz [] [Cf h1 [0,1],.k,Cf h2 [0]]
  tI (Co h1 [0,1] 2 (Co h2 [0] 2 tI))
theorem qp9 {l:List Int} {s:List Pt} (h1:Fn 65 2 [.mp 1,.ls 0 l.length] [(0,0,zrI l),(1,0,.mrow (byV s))] (.pv (.bool true)) 0 []) (h2:Fn 66 1 [.ls 0 l.length] [(0,0,zrI l)] (.pv (.bool false)) 0 []) :
 Fn 39 2 [.mp 1,.ls 0 l.length] [(0,0,zrI l),(1,0,.mrow (byV s))] (.pv (iV (0))) 0 []:=
 Fz [] [Cf h1 [0,1],.k,Cf h2 [0]]
  tI (Co h1 [0,1] 2 (Co h2 [0] 2 tI))
theorem qpi {l:List Int} (h1:Fn 73 1 [.ls 0 l.length,.pv (.func (.func 72) #[] #[])] [(0,0,zrI l)] (.pv (.bool true)) 0 []) :
 Fn 49 1 [.ls 0 l.length] [(0,0,zrI l)] (.pv (.bool false)) 0 []:=
 Fz [] [Cf h1 [0],.k]
  tI (Co h1 [0] 1 tI)
theorem qof {l:List Int} (h1:Fn 73 1 [.ls 0 l.length,.pv (.func (.func 72) #[] #[])] [(0,0,zrI l)] (.pv (.bool false)) 0 []) (h2:Fn 66 1 [.ls 0 l.length] [(0,0,zrI l)] (.pv (.bool true)) 0 []) :
 Fn 49 1 [.ls 0 l.length] [(0,0,zrI l)] (.pv (.bool false)) 0 []:=
 Fz [] [Cf h1 [0],.k,Cf h2 [0],.k]
  tI (Co h1 [0] 1 (Co h2 [0] 1 tI))
theorem qqe {l:List Int} (h1:Fn 73 1 [.ls 0 l.length,.pv (.func (.func 72) #[] #[])] [(0,0,zrI l)] (.pv (.bool false)) 0 []) (h2:Fn 66 1 [.ls 0 l.length] [(0,0,zrI l)] (.pv (.bool false)) 0 []) :
 Fn 49 1 [.ls 0 l.length] [(0,0,zrI l)] (.pv (.bool true)) 0 []:=
 Fz [] [Cf h1 [0],.k,Cf h2 [0],.k]
  tI (Co h1 [0] 1 (Co h2 [0] 1 tI))
abbrev qqq (j:Nat) (l:List Int) (m:List Int) (n:Nat):HpL:=[(0,0,.row 3 1 n (ziV m)),(1,0,.row 3 1 j (ziV l))]
theorem qpq {l m:List Int} {j n:Nat} {x z:Int} (h1:decide (z<(n:Int))=true) (hin:0≤z∧z<(n:Int)) (hk:m[z.toNat]?=some x) :
 Fn 43 2 [.ls 0 n,.ls 1 j,.pv (iV (z))] (qqq j l m n) (.pv (iV (x))) 0 []:=
 Fz [] [.t true,.r (iV x)]
  tI (Ai h1 (Ai hin (Ai (qfe hk) tI)))
theorem qm3 {l m:List Int} {j n:Nat} {x y z:Int} (h1:decide (z<(n:Int))=false) (hs:iV (IntKind.i64.wrap (z-(n:Int)))=iV (y)) (hin:0≤y∧y<(j:Int)) (hk:l[y.toNat]?=some x) :
 Fn 43 2 [.ls 0 n,.ls 1 j,.pv (iV (z))] (qqq j l m n) (.pv (iV (x))) 0 []:=
 Fz [] [.t false,Re hs,.r (iV x)]
  tI (Ai h1 (Ai hs (Ai hin (Ai (qfe hk) tI))))
theorem qch {l m:List Int} {j n:Nat} {x y z e e1 e2:Int} (hm:iV (IntKind.i64.wrap (2*z))=iV (e)) (ha:iV (IntKind.i64.wrap (e+1))=iV (e1)) (h1:Fn 43 2 [.ls 0 n,.ls 1 j,.pv (iV (e1))] (qqq j l m n) (.pv (iV (x))) 0 []) (hb:iV (IntKind.i64.wrap (e+2))=iV (e2)) (h2:Fn 43 2 [.ls 0 n,.ls 1 j,.pv (iV (e2))] (qqq j l m n) (.pv (iV (y))) 0 []) :
 Fn 67 2 [.ls 0 n,.ls 1 j,.pv (iV (z))] (qqq j l m n) (.pv (.tuple #[iV x,iV y])) 0 []:=
 Fz [] [Re hm,Re ha,Cf h1 [0,1],Re hm,Re hb,Cf h2 [0,1]]
  tI (Ai hm (Ai ha (Co h1 [0,1] 2 (Ai hm (Ai hb (Co h2 [0,1] 2 tI))))))
theorem qpB {b:Br} {k:Nat} {x y v:Int} (hk:b.w[k]?=some v) (hin:0≤(k:Int)∧(k:Int)<(b.w.length:Int)) (hlt:decide ((k:Int)<(b.w.length:Int))=true) (hc:Fn 67 2 [.ls 0 b.w.length,.ls 1 b.p.length,.pv (iV (k:Int))] [(0,0,zrI b.w),(1,0,zrI b.p)] (.pv (.tuple #[iV x,iV y])) 0 []) (hx:(v !=x)=false) (hn:(v==(-1))=false) (hs:iV (IntKind.i64.wrap ((k:Int)+1))=iV (((k+1:Nat):Int))) {e:Exit} {tm2:TmL} {hp2:HpL}
 (r:Rl 2 2 50 0 42 3 ([(1,.pp 2 0),(8,.ls 1 b.w.length),(9,.pv (iV (b.w.length:Int))),(10,.pv (iV ((k+1:Nat):Int)))]) ([(2,0,.ls 0 b.p.length),(2,1,.ls 1 b.w.length),(0,0,zrI b.p),(1,0,zrI b.w)]) e tm2 hp2):Rl 2 2 50 0 42 3 ([(1,.pp 2 0),(8,.ls 1 b.w.length),(9,.pv (iV (b.w.length:Int))),(10,.pv (iV (k:Int)))]) ([(2,0,.ls 0 b.p.length),(2,1,.ls 1 b.w.length),(0,0,zrI b.p),(1,0,zrI b.w)]) e tm2 hp2:=
 RunsL.next [] 300 [.t true,.r (iV v),Cf hc [1,0],.t false,.t false,Re hs]
  (Ro (Ai hlt (Ai hin (Ai (qaZ hk) (Co hc [1,0] 3 (Ai hx (Ai hn (Ai hs tI)))))))) r
theorem qoB {b:Br} {k:Nat} {x y v:Int} (hk:b.w[k]?=some v) (hin:0≤(k:Int)∧(k:Int)<(b.w.length:Int)) (hlt:decide ((k:Int)<(b.w.length:Int))=true) (hc:Fn 67 2 [.ls 0 b.w.length,.ls 1 b.p.length,.pv (iV (k:Int))] [(0,0,zrI b.w),(1,0,zrI b.p)] (.pv (.tuple #[iV x,iV y])) 0 []) (hx:(v !=x)=false) (hn:(v==(-1))=true) (hxy:(x !=y)=false) (hs:iV (IntKind.i64.wrap ((k:Int)+1))=iV (((k+1:Nat):Int))) {e:Exit} {tm2:TmL} {hp2:HpL}
 (r:Rl 2 2 50 0 42 3 ([(1,.pp 2 0),(8,.ls 1 b.w.length),(9,.pv (iV (b.w.length:Int))),(10,.pv (iV ((k+1:Nat):Int)))]) ([(2,0,.ls 0 b.p.length),(2,1,.ls 1 b.w.length),(0,0,zrI b.p),(1,0,zrI b.w)]) e tm2 hp2):Rl 2 2 50 0 42 3 ([(1,.pp 2 0),(8,.ls 1 b.w.length),(9,.pv (iV (b.w.length:Int))),(10,.pv (iV (k:Int)))]) ([(2,0,.ls 0 b.p.length),(2,1,.ls 1 b.w.length),(0,0,zrI b.p),(1,0,zrI b.w)]) e tm2 hp2:=
 RunsL.next [] 300 [.t true,.r (iV v),Cf hc [1,0],.t false,.t true,.t false,Re hs]
  (Ro (Ai hlt (Ai hin (Ai (qaZ hk) (Co hc [1,0] 3 (Ai hx (Ai hn (Ai hxy (Ai hs tI))))))))) r
theorem qpg {b:Br} {k:Nat} {x y v:Int} (hk:b.w[k]?=some v) (hin:0≤(k:Int)∧(k:Int)<(b.w.length:Int)) (hlt:decide ((k:Int)<(b.w.length:Int))=true) (hc:Fn 67 2 [.ls 0 b.w.length,.ls 1 b.p.length,.pv (iV (k:Int))] [(0,0,zrI b.w),(1,0,zrI b.p)] (.pv (.tuple #[iV x,iV y])) 0 []) (hx:(v !=x)=true) (hy:(v !=y)=false) (hn:(v==(-1))=false) (hs:iV (IntKind.i64.wrap ((k:Int)+1))=iV (((k+1:Nat):Int))) {e:Exit} {tm2:TmL} {hp2:HpL}
 (r:Rl 2 2 50 0 42 3 ([(1,.pp 2 0),(8,.ls 1 b.w.length),(9,.pv (iV (b.w.length:Int))),(10,.pv (iV ((k+1:Nat):Int)))]) ([(2,0,.ls 0 b.p.length),(2,1,.ls 1 b.w.length),(0,0,zrI b.p),(1,0,zrI b.w)]) e tm2 hp2):Rl 2 2 50 0 42 3 ([(1,.pp 2 0),(8,.ls 1 b.w.length),(9,.pv (iV (b.w.length:Int))),(10,.pv (iV (k:Int)))]) ([(2,0,.ls 0 b.p.length),(2,1,.ls 1 b.w.length),(0,0,zrI b.p),(1,0,zrI b.w)]) e tm2 hp2:=
 RunsL.next [] 300 [.t true,.r (iV v),Cf hc [1,0],.t true,.t false,.t false,Re hs]
  (Ro (Ai hlt (Ai hin (Ai (qaZ hk) (Co hc [1,0] 3 (Ai hx (Ai hy (Ai hn (Ai hs tI))))))))) r
theorem qoT {b:Br} {k:Nat} {x y v:Int} (hk:b.w[k]?=some v) (hin:0≤(k:Int)∧(k:Int)<(b.w.length:Int)) (hlt:decide ((k:Int)<(b.w.length:Int))=true) (hc:Fn 67 2 [.ls 0 b.w.length,.ls 1 b.p.length,.pv (iV (k:Int))] [(0,0,zrI b.w),(1,0,zrI b.p)] (.pv (.tuple #[iV x,iV y])) 0 []) (hx:(v !=x)=true) (hy:(v !=y)=true):Rl 2 2 50 0 42 3 ([(1,.pp 2 0),(8,.ls 1 b.w.length),(9,.pv (iV (b.w.length:Int))),(10,.pv (iV (k:Int)))]) ([(2,0,.ls 0 b.p.length),(2,1,.ls 1 b.w.length),(0,0,zrI b.p),(1,0,zrI b.w)]) (.ret) ([(2,.pv (.bool false))]) ([]):=
 RunsL.stop [] 300 [.t true,.r (iV v),Cf hc [1,0],.t true,.t true] (fun h=>by cases h)
  (Ro (Ai hlt (Ai hin (Ai (qaZ hk) (Co hc [1,0] 3 (Ai hx (Ai hy tI)))))))
theorem qpc {b:Br} {k:Nat} {x y v:Int} (hk:b.w[k]?=some v) (hin:0≤(k:Int)∧(k:Int)<(b.w.length:Int)) (hlt:decide ((k:Int)<(b.w.length:Int))=true) (hc:Fn 67 2 [.ls 0 b.w.length,.ls 1 b.p.length,.pv (iV (k:Int))] [(0,0,zrI b.w),(1,0,zrI b.p)] (.pv (.tuple #[iV x,iV y])) 0 []) (hx:(v !=x)=false) (hn:(v==(-1))=true) (hxy:(x !=y)=true):Rl 2 2 50 0 42 3 ([(1,.pp 2 0),(8,.ls 1 b.w.length),(9,.pv (iV (b.w.length:Int))),(10,.pv (iV (k:Int)))]) ([(2,0,.ls 0 b.p.length),(2,1,.ls 1 b.w.length),(0,0,zrI b.p),(1,0,zrI b.w)]) (.ret) ([(2,.pv (.bool false))]) ([]):=
 RunsL.stop [] 300 [.t true,.r (iV v),Cf hc [1,0],.t false,.t true,.t true] (fun h=>by cases h)
  (Ro (Ai hlt (Ai hin (Ai (qaZ hk) (Co hc [1,0] 3 (Ai hx (Ai hn (Ai hxy tI))))))))
theorem qqj {b:Br} {k:Nat} {x y v:Int} (hk:b.w[k]?=some v) (hin:0≤(k:Int)∧(k:Int)<(b.w.length:Int)) (hlt:decide ((k:Int)<(b.w.length:Int))=true) (hc:Fn 67 2 [.ls 0 b.w.length,.ls 1 b.p.length,.pv (iV (k:Int))] [(0,0,zrI b.w),(1,0,zrI b.p)] (.pv (.tuple #[iV x,iV y])) 0 []) (hx:(v !=x)=true) (hy:(v !=y)=false) (hn:(v==(-1))=true) (hxy:(x !=y)=true):Rl 2 2 50 0 42 3 ([(1,.pp 2 0),(8,.ls 1 b.w.length),(9,.pv (iV (b.w.length:Int))),(10,.pv (iV (k:Int)))]) ([(2,0,.ls 0 b.p.length),(2,1,.ls 1 b.w.length),(0,0,zrI b.p),(1,0,zrI b.w)]) (.ret) ([(2,.pv (.bool false))]) ([]):=
 RunsL.stop [] 300 [.t true,.r (iV v),Cf hc [1,0],.t true,.t false,.t true,.t true] (fun h=>by cases h)
  (Ro (Ai hlt (Ai hin (Ai (qaZ hk) (Co hc [1,0] 3 (Ai hx (Ai hy (Ai hn (Ai hxy tI)))))))))
theorem qmN {b:Br} {k:Nat} (hge:decide ((k:Int)<(b.w.length:Int))=false):Rl 2 2 50 0 42 3 ([(1,.pp 2 0),(8,.ls 1 b.w.length),(9,.pv (iV (b.w.length:Int))),(10,.pv (iV (k:Int)))]) ([(2,0,.ls 0 b.p.length),(2,1,.ls 1 b.w.length),(0,0,zrI b.p),(1,0,zrI b.w)]) (.exit 0) ([]) ([]):=
 RunsL.stop [] 300 [.t false] (fun h=>by cases h)
  (Ro (Ai hge tI))
theorem qps {b:Br} (r0:Rl 2 2 50 0 42 3 ([(1,.pp 2 0),(8,.ls 1 b.w.length),(9,.pv (iV (b.w.length:Int))),(10,.pv (iV ((0:Nat):Int)))]) ([(2,0,.ls 0 b.p.length),(2,1,.ls 1 b.w.length),(0,0,zrI b.p),(1,0,zrI b.w)]) (.ret) ([(2,.pv (.bool false))]) ([])) :
 Fn 50 2 [brS 0 1 b] [(0,0,zrI b.p),(1,0,zrI b.w)] (.pv (.bool false)) 0 []:=
 Fz [] [Lf r0]
  tI (Lo r0 [] tI)
theorem qog {b:Br} (r0:Rl 2 2 50 0 42 3 ([(1,.pp 2 0),(8,.ls 1 b.w.length),(9,.pv (iV (b.w.length:Int))),(10,.pv (iV ((0:Nat):Int)))]) ([(2,0,.ls 0 b.p.length),(2,1,.ls 1 b.w.length),(0,0,zrI b.p),(1,0,zrI b.w)]) (.exit 0) ([]) ([])) :
 Fn 50 2 [brS 0 1 b] [(0,0,zrI b.p),(1,0,zrI b.w)] (.pv (.bool true)) 0 []:=
 Fz [] [Lf r0]
  tI (Lo r0 [] tI)
theorem qko {b:Br} (h1:Fn 37 1 [.ls 0 b.p.length] [(0,0,zrI b.p)] (.pv (iV (2))) 0 []) :
 Fn 16 2 [brS 0 1 b] [(0,0,zrI b.p),(1,0,zrI b.w)] (.pv (iV (8))) 0 []:=
 Fz [] [Cf h1 [0],.k]
  tI (Co h1 [0] 3 tI)
theorem qnf {b:Br} {x:Int} (h1:Fn 37 1 [.ls 0 b.p.length] [(0,0,zrI b.p)] (.pv (iV (0))) 0 []) (hs:iV (IntKind.i64.wrap ((b.p.length:Int)-1))=iV (x)) (hl:((b.w.length:Int) !=x)=true) :
 Fn 16 2 [brS 0 1 b] [(0,0,zrI b.p),(1,0,zrI b.w)] (.pv (iV (8))) 0 []:=
 Fz [] [Cf h1 [0],.k,Re hs,.t true]
  tI (Co h1 [0] 3 (Ai hs (Ai hl tI)))
theorem qpR {b:Br} {x:Int} (h1:Fn 37 1 [.ls 0 b.p.length] [(0,0,zrI b.p)] (.pv (iV (0))) 0 []) (hs:iV (IntKind.i64.wrap ((b.p.length:Int)-1))=iV (x)) (hl:((b.w.length:Int) !=x)=false) (h2:Fn 49 1 [.ls 0 b.p.length] [(0,0,zrI b.p)] (.pv (.bool false)) 0 []) :
 Fn 16 2 [brS 0 1 b] [(0,0,zrI b.p),(1,0,zrI b.w)] (.pv (iV (8))) 0 []:=
 Fz [] [Cf h1 [0],.k,Re hs,.t false,Cf h2 [0],.k]
  tI (Co h1 [0] 3 (Ai hs (Ai hl (Co h2 [0] 3 tI))))
theorem qpS {b:Br} {x:Int} (h1:Fn 37 1 [.ls 0 b.p.length] [(0,0,zrI b.p)] (.pv (iV (0))) 0 []) (hs:iV (IntKind.i64.wrap ((b.p.length:Int)-1))=iV (x)) (hl:((b.w.length:Int) !=x)=false) (h2:Fn 49 1 [.ls 0 b.p.length] [(0,0,zrI b.p)] (.pv (.bool true)) 0 []) (h3:Fn 50 2 [brS 0 1 b] [(0,0,zrI b.p),(1,0,zrI b.w)] (.pv (.bool false)) 0 []) :
 Fn 16 2 [brS 0 1 b] [(0,0,zrI b.p),(1,0,zrI b.w)] (.pv (iV (8))) 0 []:=
 Fz [] [Cf h1 [0],.k,Re hs,.t false,Cf h2 [0],.k,Cf h3 [0,1],.k]
  tI (Co h1 [0] 3 (Ai hs (Ai hl (Co h2 [0] 3 (Co h3 [0,1] 3 tI)))))
theorem qoZ {b:Br} {x:Int} (h1:Fn 37 1 [.ls 0 b.p.length] [(0,0,zrI b.p)] (.pv (iV (0))) 0 []) (hs:iV (IntKind.i64.wrap ((b.p.length:Int)-1))=iV (x)) (hl:((b.w.length:Int) !=x)=false) (h2:Fn 49 1 [.ls 0 b.p.length] [(0,0,zrI b.p)] (.pv (.bool true)) 0 []) (h3:Fn 50 2 [brS 0 1 b] [(0,0,zrI b.p),(1,0,zrI b.w)] (.pv (.bool true)) 0 []) :
 Fn 16 2 [brS 0 1 b] [(0,0,zrI b.p),(1,0,zrI b.w)] (.pv (iV (0))) 0 []:=
 Fz [] [Cf h1 [0],.k,Re hs,.t false,Cf h2 [0],.k,Cf h3 [0,1],.k]
  tI (Co h1 [0] 3 (Ai hs (Ai hl (Co h2 [0] 3 (Co h3 [0,1] 3 tI)))))
abbrev qpn (s:List Pt) (td:Int) (tn:Int):HpL:=[(0,0,.mrow (byV s)),(1,0,.mp 0),(2,0,.pv (iV tn)),(2,1,.pv (iV td))]
theorem qqS {s:List Pt} {x y tn td:Int} (hx:(x==(-1))=true) :
 Fn 68 3 [.pv (iV (x)),.pv (iV (y)),.pp 1 0,.pp 2 0] (qpn s td tn) (.pv (iV (y))) 0 []:=
 Fz [] [.t true]
  tI (Ai hx tI)
theorem qsg {s:List Pt} {x y tn td:Int} (hx:(x==(-1))=false) (hy:(y==(-1))=true) :
 Fn 68 3 [.pv (iV (x)),.pv (iV (y)),.pp 1 0,.pp 2 0] (qpn s td tn) (.pv (iV (x))) 0 []:=
 Fz [] [.t false,.t true]
  tI (Ai hx (Ai hy tI))
theorem qrw {s:List Pt} {p q:Pt} {x y tn td:Int} (hx:(x==(-1))=false) (hy:(y==(-1))=false) (hp:qaU Try.prog 77 (byV s) (iV x) false (ptV p)) (hq:qaU Try.prog 77 (byV s) (iV y) false (ptV q)) (ha:Pure Try.prog 69 #[ptV p,ptV q,qad tn td] (.tuple #[.bool true,iV 0])) :
 Fn 68 3 [.pv (iV (x)),.pv (iV (y)),.pp 1 0,.pp 2 0] (qpn s td tn) (.pv (iV (x))) 0 []:=
 Fz [] [.t false,.t false,.r (ptV p),.r (ptV q),Rf ha]
  tI (Ai hx (Ai hy (Ai hp (Ai hq (Ai ha tI)))))
theorem qr7 {s:List Pt} {p q:Pt} {x y tn td:Int} (hx:(x==(-1))=false) (hy:(y==(-1))=false) (hp:qaU Try.prog 77 (byV s) (iV x) false (ptV p)) (hq:qaU Try.prog 77 (byV s) (iV y) false (ptV q)) (ha:Pure Try.prog 69 #[ptV p,ptV q,qad tn td] (.tuple #[.bool false,iV 0])) :
 Fn 68 3 [.pv (iV (x)),.pv (iV (y)),.pp 1 0,.pp 2 0] (qpn s td tn) (.pv (iV (y))) 0 []:=
 Fz [] [.t false,.t false,.r (ptV p),.r (ptV q),Rf ha]
  tI (Ai hx (Ai hy (Ai hp (Ai hq (Ai ha tI)))))
theorem qls {p q:Pt} (h:(p.id==q.id)=true) :
 Pure Try.prog 82 #[ptV p,ptV q] (iV 2):=
 qae (args:=[ptV p,ptV q]) 300 [.t true]
  (Ai rfl (Ai h tI)) (by kernel_rfl)
theorem qnh {p q:Pt} {tn td e4:Int} (h1:Pure Try.prog 62 #[ptV p] (iV (0))) (h2:Pure Try.prog 62 #[ptV q] (iV (0))) (h3:Pure Try.prog 36 #[qad tn td] (iV (0))) (h4:Pure Try.prog 82 #[ptV p,ptV q] (iV (e4))) (he:(e4 !=0)=true) :
 Pure Try.prog 69 #[ptV p,ptV q,qad tn td] (.tuple #[.bool false,iV e4]):=
 qae (args:=[ptV p,ptV q,qad tn td]) 300 [Rf h1,Rf h1,Rf h1,Rf h4,.k,.k,.k,.k,.k,.k,.k,.k,.k,.k,.k,.t true,.t true]
  (Ai rfl (Ai h1 (Ai h2 (Ai h3 (Ai h4 (Ai he (Ai he tI))))))) (by kernel_rfl)
theorem qr9 {s:List Pt} {p q:Pt} {x y tn td:Int} (hx:(x==(-1))=false) (hy:(y==(-1))=false) (hp:qaU Try.prog 77 (byV s) (iV x) false (ptV p)) (hq:qaU Try.prog 77 (byV s) (iV y) false (ptV q)) (ha:Pure Try.prog 69 #[ptV p,ptV q,qad tn td] (.tuple #[.bool false,iV 2])) :
 Fn 68 3 [.pv (iV (x)),.pv (iV (y)),.pp 1 0,.pp 2 0] (qpn s td tn) (.pv (iV (y))) 0 []:=
 Fz [] [.t false,.t false,.r (ptV p),.r (ptV q),Rf ha]
  tI (Ai hx (Ai hy (Ai hp (Ai hq (Ai ha tI)))))
end Go.Proofs.Ytgbmdijodlfcaaa

namespace Go.Proofs.Ytgbmdijodlfcaaa
set_option maxRecDepth 100000
open Go.RowKit
theorem qrV {b:Br} {s:List Pt} {tn td e1 e2 e3 e4 pz id:Int} (h1:Fn 16 2 [brS 0 1 b] [(0,0,zrI b.p),(1,0,zrI b.w)] (.pv (iV (e1))) 0 []) (h2:Fn 35 1 [qaD 0 s] [(0,0,qai s)] (.pv (iV (e2))) 0 []) (h3:Pure Try.prog 36 #[qad tn td] (iV (e3))) (h4:Fn 44 2 [brS 0 1 b,.pv (iV (pz))] [(0,0,zrI b.p),(1,0,zrI b.w)] (.pv (iV (e4))) 0 []) (he:(e1 !=0)=true) :
 Fn 14 3 [brS 0 1 b,qaD 2 s,.pv (qad tn td),.pv (iV (pz)),.pv (iV (id))] [(0,0,zrI b.p),(1,0,zrI b.w),(2,0,qai s)] (.pv (.tuple #[.agg #[.slice none 0 0,.slice none 0 0],.slice none 0 0,iV e1])) 0 []:=
 Fz [] [Cf h1 [0,1],Cf h2 [2],Rf h3,Cf h4 [0,1],.k,.k,.t true,.t true]
  tI (Co h1 [0,1] 7 (Co h2 [2] 7 (Ai h3 (Co h4 [0,1] 7 (Ai he (Ai he tI))))))
theorem qrO {b:Br} {s:List Pt} {tn td e2 e3 e4 pz id:Int} (h1:Fn 16 2 [brS 0 1 b] [(0,0,zrI b.p),(1,0,zrI b.w)] (.pv (iV (0))) 0 []) (h2:Fn 35 1 [qaD 0 s] [(0,0,qai s)] (.pv (iV (e2))) 0 []) (h3:Pure Try.prog 36 #[qad tn td] (iV (e3))) (h4:Fn 44 2 [brS 0 1 b,.pv (iV (pz))] [(0,0,zrI b.p),(1,0,zrI b.w)] (.pv (iV (e4))) 0 []) (he:(e2 !=0)=true) :
 Fn 14 3 [brS 0 1 b,qaD 2 s,.pv (qad tn td),.pv (iV (pz)),.pv (iV (id))] [(0,0,zrI b.p),(1,0,zrI b.w),(2,0,qai s)] (.pv (.tuple #[.agg #[.slice none 0 0,.slice none 0 0],.slice none 0 0,iV e2])) 0 []:=
 Fz [] [Cf h1 [0,1],Cf h2 [2],Rf h3,Cf h4 [0,1],.k,.k,.k,.k,.k,.t true,.t true]
  tI (Co h1 [0,1] 7 (Co h2 [2] 7 (Ai h3 (Co h4 [0,1] 7 (Ai he (Ai he tI))))))
abbrev qqG (s:List Pt):Prop:=Fn 35 1 [qaD 0 s] [(0,0,qai s)] (.pv (iV (0))) 0 []
theorem qq7 {b:Br} {s:List Pt} {tn td e3 e4 pz id:Int} (h1:Fn 16 2 [brS 0 1 b] [(0,0,zrI b.p),(1,0,zrI b.w)] (.pv (iV (0))) 0 []) (h2:qqG s) (h3:Pure Try.prog 36 #[qad tn td] (iV (e3))) (h4:Fn 44 2 [brS 0 1 b,.pv (iV (pz))] [(0,0,zrI b.p),(1,0,zrI b.w)] (.pv (iV (e4))) 0 []) (he:(e3 !=0)=true) :
 Fn 14 3 [brS 0 1 b,qaD 2 s,.pv (qad tn td),.pv (iV (pz)),.pv (iV (id))] [(0,0,zrI b.p),(1,0,zrI b.w),(2,0,qai s)] (.pv (.tuple #[.agg #[.slice none 0 0,.slice none 0 0],.slice none 0 0,iV e3])) 0 []:=
 Fz [] [Cf h1 [0,1],Cf h2 [2],Rf h3,Cf h4 [0,1],.k,.k,.k,.k,.k,.k,.k,.k,.t true,.t true]
  tI (Co h1 [0,1] 7 (Co h2 [2] 7 (Ai h3 (Co h4 [0,1] 7 (Ai he (Ai he tI))))))
theorem qrJ {b:Br} {s:List Pt} {tn td e4 pz id:Int} (h1:Fn 16 2 [brS 0 1 b] [(0,0,zrI b.p),(1,0,zrI b.w)] (.pv (iV (0))) 0 []) (h2:qqG s) (h3:Pure Try.prog 36 #[qad tn td] (iV (0))) (h4:Fn 44 2 [brS 0 1 b,.pv (iV (pz))] [(0,0,zrI b.p),(1,0,zrI b.w)] (.pv (iV (e4))) 0 []) (he:(e4 !=0)=true) :
 Fn 14 3 [brS 0 1 b,qaD 2 s,.pv (qad tn td),.pv (iV (pz)),.pv (iV (id))] [(0,0,zrI b.p),(1,0,zrI b.w),(2,0,qai s)] (.pv (.tuple #[.agg #[.slice none 0 0,.slice none 0 0],.slice none 0 0,iV e4])) 0 []:=
 Fz [] [Cf h1 [0,1],Cf h2 [2],Rf h3,Cf h4 [0,1],.k,.k,.k,.k,.k,.k,.k,.k,.k,.k,.k,.t true,.t true]
  tI (Co h1 [0,1] 7 (Co h2 [2] 7 (Ai h3 (Co h4 [0,1] 7 (Ai he (Ai he tI))))))
theorem qnz {b:Br} {s:List Pt} {tn td e pz id:Int} (h1:Fn 16 2 [brS 0 1 b] [(0,0,zrI b.p),(1,0,zrI b.w)] (.pv (iV (0))) 0 []) (h2:qqG s) (h3:Pure Try.prog 36 #[qad tn td] (iV (0))) (h4:Fn 44 2 [brS 0 1 b,.pv (iV (pz))] [(0,0,zrI b.p),(1,0,zrI b.w)] (.pv (iV (0))) 0 []) (hc1:Fn 40 1 [.ls 0 b.p.length] [(0,0,zrI b.p)] (.ls 1 b.p.length) 1 [(1,0,zrI b.p)]) (hc2:Fn 40 1 [.ls 0 b.w.length] [(0,0,zrI b.w)] (.ls 1 b.w.length) 1 [(1,0,zrI b.w)]) (hix:0≤pz∧pz<(b.p.length:Int)) (hg:pz.toNat<b.p.length) (hb:Fn 38 1 [qaD 0 s] [(0,0,qai s)] (.mp 1) 1 [(1,0,.mrow (byV s))]) (hi:Fn 39 2 [.mp 1,.ls 0 b.p.length] [(0,0,.row 3 1 b.p.length (ziV (b.p.set pz.toNat id))),(1,0,.mrow (byV s))] (.pv (iV (e))) 0 []) (hee:(e !=0)=true) :
 Fn 14 3 [brS 0 1 b,qaD 2 s,.pv (qad tn td),.pv (iV (pz)),.pv (iV (id))] [(0,0,zrI b.p),(1,0,zrI b.w),(2,0,qai s)] (.pv (.tuple #[.agg #[.slice none 0 0,.slice none 0 0],.slice none 0 0,iV e])) 0 []:=
 Fz [] [Cf h1 [0,1],Cf h2 [2],Rf h3,Cf h4 [0,1],.k,.k,.k,.k,.k,.k,.k,.k,.k,.k,.k,.k,.k,.k,.k,.md,Cf hc1 [0],Cf hc2 [1],.w (ziV (b.p.set pz.toNat id)),Cf hb [2],Cf hi [8,11],.t true]
  tI (Co h1 [0,1] 7 (Co h2 [2] 7 (Ai h3 (Co h4 [0,1] 7 (Co hc1 [0] 8 (Co hc2 [1] 9 (Ai hix (Ai (qli b.p pz.toNat id hg) (Ai (qcA b.p pz.toNat hg) (Co hb [2] 11 (Co hi [8,11] 12 (Ai hee tI))))))))))))
theorem qoJ {b:Br} {l m:List Int} {s:List Pt} {n:Nat} {tn td pz id:Int} (h1:Fn 16 2 [brS 0 1 b] [(0,0,zrI b.p),(1,0,zrI b.w)] (.pv (iV (0))) 0 []) (h2:qqG s) (h3:Pure Try.prog 36 #[qad tn td] (iV (0))) (h4:Fn 44 2 [brS 0 1 b,.pv (iV (pz))] [(0,0,zrI b.p),(1,0,zrI b.w)] (.pv (iV (0))) 0 []) (hc1:Fn 40 1 [.ls 0 b.p.length] [(0,0,zrI b.p)] (.ls 1 b.p.length) 1 [(1,0,zrI b.p)]) (hc2:Fn 40 1 [.ls 0 b.w.length] [(0,0,zrI b.w)] (.ls 1 b.w.length) 1 [(1,0,zrI b.w)]) (hix:0≤pz∧pz<(b.p.length:Int)) (hg:pz.toNat<b.p.length) (hb:Fn 38 1 [qaD 0 s] [(0,0,qai s)] (.mp 1) 1 [(1,0,.mrow (byV s))]) (hi:Fn 39 2 [.mp 1,.ls 0 b.p.length] [(0,0,.row 3 1 b.p.length (ziV (b.p.set pz.toNat id))),(1,0,.mrow (byV s))] (.pv (iV (0))) 0 []) (hr:FnX Try.prog 47 5 [.ag [.ls 1 b.p.length,.ls 0 b.w.length],.pv (iV (pz)),.pc 68 [.pp 3 0,.pp 4 0]] [(0,0,zrI b.w),(1,0,.row 3 1 b.p.length (ziV (b.p.set pz.toNat id))),(2,0,.mrow (byV s)),(3,0,.mp 2),(4,0,.pv (iV tn)),(4,1,.pv (iV td))] 0 (⟨3,1,b.w.length,ziV b.w⟩) (ziV m) 3 1 n (ziV l)) :
 Fn 14 3 [brS 0 1 b,qaD 2 s,.pv (qad tn td),.pv (iV (pz)),.pv (iV (id))] [(0,0,zrI b.p),(1,0,zrI b.w),(2,0,qai s)] (.tu [.ag [.ls 3 b.p.length,.ls 4 b.w.length],.one (.ls 5 n),.one (.pv (iV 0))]) 3 [(3,0,.row 3 1 b.p.length (ziV (b.p.set pz.toNat id))),(4,0,.row 3 1 b.w.length (ziV m)),(5,0,.row 3 1 n (ziV l))]:=
 Fz [(3,8),(4,9),(5,14)] [Cf h1 [0,1],Cf h2 [2],Rf h3,Cf h4 [0,1],.k,.k,.k,.k,.k,.k,.k,.k,.k,.k,.k,.k,.k,.k,.k,.md,Cf hc1 [0],Cf hc2 [1],.w (ziV (b.p.set pz.toNat id)),Cf hb [2],Cf hi [8,11],.k,.gh [(10,0),(10,1),(5,0),(5,1)],.k,.mx [9,8,11,12,13] [.ag [.ls 1 b.p.length,.ls 0 b.w.length],.pv (iV (pz)),.pc 68 [.pp 3 0,.pp 4 0]] [(0,0,zrI b.w),(1,0,.row 3 1 b.p.length (ziV (b.p.set pz.toNat id))),(2,0,.mrow (byV s)),(3,0,.mp 2),(4,0,.pv (iV tn)),(4,1,.pv (iV td))] 0 (ziV m) 3 1 n (ziV l)]
  (qc1 (qaR [(3,8),(4,9),(5,14)]) [(3,0,.row 3 1 b.p.length (ziV (b.p.set pz.toNat id))),(4,0,.row 3 1 b.w.length (ziV m)),(5,0,.row 3 1 n (ziV l))]) (Co h1 [0,1] 7 (Co h2 [2] 7 (Ai h3 (Co h4 [0,1] 7 (Co hc1 [0] 8 (Co hc2 [1] 9 (Ai hix (Ai (qli b.p pz.toNat id hg) (Ai (qcA b.p pz.toNat hg) (Co hb [2] 11 (Co hi [8,11] 12 (Ai (Er (SV.ls 8 b.p.length)) (Ai (Er (SV.ls 9 b.w.length)) (Ai (Er (SV.pv (iV tn))) (Ai (Er (SV.pv (iV td))) (Ai (Er (SV.ls 8 b.p.length)) (Ai (Er (SV.ls 9 b.w.length)) (Ai (Er (SV.pv (iV tn))) (Ai (Er (SV.pv (iV td))) (Ai hr (Ai (Eq.refl (List.map (SV.ren (qaV [9,8,11,12,13] 14)) [.ag [.ls 1 b.p.length,.ls 0 b.w.length],.pv (iV (pz)),.pc 68 [.pp 3 0,.pp 4 0]])) (Ai (qc1 (qaV [9,8,11,12,13] 14) [(0,0,zrI b.w),(1,0,.row 3 1 b.p.length (ziV (b.p.set pz.toNat id))),(2,0,.mrow (byV s)),(3,0,.mp 2),(4,0,.pv (iV tn)),(4,1,.pv (iV td))]) (Ai (Er (SV.ls 8 b.p.length)) (Ai (Er (SV.ls 9 b.w.length)) (Ai (Er (SV.pv (iV tn))) (Ai (Er (SV.pv (iV td))) (Ai (Er (SV.ls 8 b.p.length)) (Ai (Er (SV.ls 9 b.w.length)) (Ai (Er (SV.pv (iV tn))) (Ai (Er (SV.pv (iV td))) (Ai (Er (SV.ls 8 b.p.length)) (Ai (Er (SV.ls 9 b.w.length)) (Ai (Er (SV.pv (iV tn))) (Ai (Er (SV.pv (iV td))) (Ai (Er (SV.ls 8 b.p.length)) (Ai (Er (SV.ls 9 b.w.length)) (Ai (Er (SV.pv (iV tn))) (Ai (Er (SV.pv (iV td))) tI))))))))))))))))))))))))))))))))))))))
end Go.Proofs.Ytgbmdijodlfcaaa

namespace Go.Proofs.Ytgbmdijodlfcaaa
set_option maxRecDepth 100000
open Go.RowKit
theorem qr2 (a c:Nat):SV.ag [.ls 5 (0+a),.ls 7 (0+c)]=(SV.ag [.ls 2 a,.ls 3 c]).ren (qaR [(2,5),(3,7)]):=by rw[Nat.zero_add,Nat.zero_add];rfl
theorem qf1 (n:Nat) (xs:List Value):some (SV.row 3 1 (0+n) ([]++xs))=some (SV.row 3 1 n xs):=by rw[Nat.zero_add,List.nil_append]
theorem qkF {l:List Int} {k:Nat} {x:Int} (hk:l[k]?=some x) (hin:0≤(k:Int)∧(k:Int)<(l.length:Int)) (hlt:decide ((k:Int)<(l.length:Int))=true) (hne:(!(x==x))=false) (hs:iV (IntKind.i64.wrap ((k:Int)+1))=iV (((k+1:Nat):Int))) {e:Exit} {tm2:TmL} {hp2:HpL}
 (r:Rl 2 2 27 0 26 2 ([(0,.ls 0 l.length),(1,.ls 1 l.length),(5,.pv (iV ((k+1:Nat):Int)))]) ([(0,0,zrI l),(1,0,zrI l)]) e tm2 hp2):Rl 2 2 27 0 26 2 ([(0,.ls 0 l.length),(1,.ls 1 l.length),(5,.pv (iV (k:Int)))]) ([(0,0,zrI l),(1,0,zrI l)]) e tm2 hp2:=
 RunsL.next [] 300 [.t true,.r (iV x),.r (iV x),.t false,Re hs]
  (Ro (Ai hlt (Ai hin (Ai (qaZ hk) (Ai hin (Ai (qaZ hk) (Ai hne (Ai hs tI)))))))) r
theorem qnC {l:List Int} {k:Nat} (hge:decide ((k:Int)<(l.length:Int))=false):Rl 2 2 27 0 26 2 ([(0,.ls 0 l.length),(1,.ls 1 l.length),(5,.pv (iV (k:Int)))]) ([(0,0,zrI l),(1,0,zrI l)]) (.exit 0) ([]) ([]):=
 RunsL.stop [] 300 [.t false] (fun h=>by cases h)
  (Ro (Ai hge tI))
theorem qmG {l:List Int} (hl:(!((l.length:Int)==(l.length:Int)))=false) (r0:Rl 2 2 27 0 26 2 ([(0,.ls 0 l.length),(1,.ls 1 l.length),(5,.pv (iV ((0:Nat):Int)))]) ([(0,0,zrI l),(1,0,zrI l)]) (.exit 0) ([]) ([])) :
 Fn 27 2 [.ls 0 l.length,.ls 1 l.length] [(0,0,zrI l),(1,0,zrI l)] (.pv (.bool true)) 0 []:=
 Fz [] [.t false,Lf r0]
  tI (Ai hl (Lo r0 [] tI))
theorem qsm {b:Br} (h1:Fn 27 2 [.ls 0 b.p.length,.ls 1 b.p.length] [(0,0,zrI b.p),(1,0,zrI b.p)] (.pv (.bool true)) 0 []) (h2:Fn 27 2 [.ls 0 b.w.length,.ls 1 b.w.length] [(0,0,zrI b.w),(1,0,zrI b.w)] (.pv (.bool true)) 0 []) :
 Fn 17 4 [brS 0 1 b,brS 2 3 b] [(0,0,zrI b.p),(1,0,zrI b.w),(2,0,zrI b.p),(3,0,zrI b.w)] (.pv (.bool true)) 0 []:=
 Fz [] [Cf h1 [0,2],Cf h2 [1,3]]
  tI (Co h1 [0,2] 6 (Co h2 [1,3] 6 tI))
theorem qr3 {b:Br} (h1:decide ((b.p.length:Int)>70)=true) :
 Fn 20 2 [brS 0 1 b] [(0,0,zrI b.p),(1,0,zrI b.w)] (.pv (.bool true)) 0 []:=
 Fz [] [.t true]
  tI (Ai h1 tI)
theorem qr8 {b:Br} (h1:decide ((b.p.length:Int)>70)=false) (h2:decide ((b.w.length:Int)>70)=true) :
 Fn 20 2 [brS 0 1 b] [(0,0,zrI b.p),(1,0,zrI b.w)] (.pv (.bool true)) 0 []:=
 Fz [] [.t false,.t true]
  tI (Ai h1 (Ai h2 tI))
theorem qp5 {b:Br} (h1:decide ((b.p.length:Int)>70)=false) (h2:decide ((b.w.length:Int)>70)=false) :
 Fn 20 2 [brS 0 1 b] [(0,0,zrI b.p),(1,0,zrI b.w)] (.pv (.bool false)) 0 []:=
 Fz [] [.t false,.t false]
  tI (Ai h1 (Ai h2 tI))
theorem qtw {b:Br} (n1:0+b.p.length≤1000000) (n2:0+b.w.length≤1000000) :
 Fn 21 2 [brS 0 1 b] [(0,0,zrI b.p),(1,0,zrI b.w)] (brS 2 3 b) 2 [(2,0,zrI b.p),(3,0,zrI b.w)]:=
 Fx [(2,5),(3,7)] [.md]
  (qr2 b.p.length b.w.length) (Ai (qf1 b.p.length (ziV b.p)) (Ai (qf1 b.w.length (ziV b.w)) tI)) (Ai n1 (Ai n2 tI))
theorem qo1 {l m:List Int} {j n:Nat} {x z:Int} (h1:decide (z<(n:Int))=true) (hin:0≤z∧z<(n:Int)) (hk:m[z.toNat]?=some x) :
 Fn 52 2 [.ag [.ls 0 j,.ls 1 n],.pv (iV (z))] [(0,0,.row 3 1 j (ziV l)),(1,0,.row 3 1 n (ziV m))] (.pv (iV (x))) 0 []:=
 Fz [] [.t true,.r (iV x)]
  tI (Ai h1 (Ai hin (Ai (qfe hk) tI)))
theorem qmz {l m:List Int} {j n:Nat} {x y z:Int} (h1:decide (z<(n:Int))=false) (hs:iV (IntKind.i64.wrap (z-(n:Int)))=iV (y)) (hin:0≤y∧y<(j:Int)) (hk:l[y.toNat]?=some x) :
 Fn 52 2 [.ag [.ls 0 j,.ls 1 n],.pv (iV (z))] [(0,0,.row 3 1 j (ziV l)),(1,0,.row 3 1 n (ziV m))] (.pv (iV (x))) 0 []:=
 Fz [] [.t false,Re hs,.r (iV x)]
  tI (Ai h1 (Ai hs (Ai hin (Ai (qfe hk) tI))))
abbrev qqI (i:Nat) (k:Nat) (l:List Int):TmL:=[(0,.ls 0 l.length),(3,.pv (iV (i:Int))),(4,.pv (iV (k:Int)))]
theorem qm8 {l:List Int} {i k:Nat} {x y:Int} (hki:decide ((k:Int)<(i:Int))=true) (hi:l[i]?=some x) (hii:0≤(i:Int)∧(i:Int)<(l.length:Int)) (hk:l[k]?=some y) (hin:0≤(k:Int)∧(k:Int)<(l.length:Int)) (h0:decide (x≥0)=false) (hs:iV (IntKind.i64.wrap ((k:Int)+1))=iV (((k+1:Nat):Int))) {e:Exit} {tm2:TmL} {hp2:HpL}
 (r:Rl 1 1 31 1 32 1 ([(0,.ls 0 l.length),(3,.pv (iV (i:Int))),(4,.pv (iV ((k+1:Nat):Int)))]) ([(0,0,zrI l)]) e tm2 hp2):Rl 1 1 31 1 32 1 (qqI i k l) ([(0,0,zrI l)]) e tm2 hp2:=
 RunsL.next [] 300 [.t true,.r (iV x),.t false,Re hs]
  (Ro (Ai hki (Ai hii (Ai (qaZ hi) (Ai h0 (Ai hs tI)))))) r
theorem qm1 {l:List Int} {i k:Nat} {x y:Int} (hki:decide ((k:Int)<(i:Int))=true) (hi:l[i]?=some x) (hii:0≤(i:Int)∧(i:Int)<(l.length:Int)) (hk:l[k]?=some y) (hin:0≤(k:Int)∧(k:Int)<(l.length:Int)) (h0:decide (x≥0)=true) (he:(y==x)=false) (hs:iV (IntKind.i64.wrap ((k:Int)+1))=iV (((k+1:Nat):Int))) {e:Exit} {tm2:TmL} {hp2:HpL}
 (r:Rl 1 1 31 1 32 1 ([(0,.ls 0 l.length),(3,.pv (iV (i:Int))),(4,.pv (iV ((k+1:Nat):Int)))]) ([(0,0,zrI l)]) e tm2 hp2):Rl 1 1 31 1 32 1 (qqI i k l) ([(0,0,zrI l)]) e tm2 hp2:=
 RunsL.next [] 300 [.t true,.r (iV x),.t true,.r (iV y),.r (iV x),.t false,Re hs]
  (Ro (Ai hki (Ai hii (Ai (qaZ hi) (Ai h0 (Ai hin (Ai (qaZ hk) (Ai hii (Ai (qaZ hi) (Ai he (Ai hs tI))))))))))) r
theorem qnm {l:List Int} {i k:Nat} {x y:Int} (hki:decide ((k:Int)<(i:Int))=true) (hi:l[i]?=some x) (hii:0≤(i:Int)∧(i:Int)<(l.length:Int)) (hk:l[k]?=some y) (hin:0≤(k:Int)∧(k:Int)<(l.length:Int)) (h0:decide (x≥0)=true) (he:(y==x)=true):Rl 1 1 31 1 32 1 (qqI i k l) ([(0,0,zrI l)]) (.ret) ([(2,.pv (.bool true))]) ([]):=
 RunsL.stop [] 300 [.t true,.r (iV x),.t true,.r (iV y),.r (iV x),.t true] (fun h=>by cases h)
  (Ro (Ai hki (Ai hii (Ai (qaZ hi) (Ai h0 (Ai hin (Ai (qaZ hk) (Ai hii (Ai (qaZ hi) (Ai he tI))))))))))
abbrev qpT (i:Nat) (l:List Int):TmL:=[(0,.ls 0 l.length),(3,.pv (iV (i:Int)))]
theorem qk8 {l:List Int} {i k:Nat} (hki:decide ((k:Int)<(i:Int))=false):Rl 1 1 31 1 32 1 (qqI i k l) ([(0,0,zrI l)]) (.exit 2) (qpT i l) ([(0,0,zrI l)]):=
 RunsL.stop [] 300 [.t false] (fun h=>by cases h)
  (Ro (Ai hki tI))
theorem qlD {l:List Int} {i:Nat} (hlt:decide ((i:Int)<(l.length:Int))=true) (r1:Rl 1 1 31 1 32 1 ([(0,.ls 0 l.length),(3,.pv (iV (i:Int))),(4,.pv (iV ((0:Nat):Int)))]) ([(0,0,zrI l)]) (.exit 2) (qpT i l) ([(0,0,zrI l)])) (hs:iV (IntKind.i64.wrap ((i:Int)+1))=iV (((i+1:Nat):Int))) {e:Exit} {tm2:TmL} {hp2:HpL}
 (r:Rl 1 1 31 0 32 1 ([(0,.ls 0 l.length),(3,.pv (iV ((i+1:Nat):Int)))]) ([(0,0,zrI l)]) e tm2 hp2):Rl 1 1 31 0 32 1 (qpT i l) ([(0,0,zrI l)]) e tm2 hp2:=
 RunsL.next [] 300 [.t true,Lf r1,Re hs]
  (Ro (Ai hlt (Lo r1 [] (Ai hs tI)))) r
theorem qnA {l:List Int} {i:Nat} (hlt:decide ((i:Int)<(l.length:Int))=true) (r1:Rl 1 1 31 1 32 1 ([(0,.ls 0 l.length),(3,.pv (iV (i:Int))),(4,.pv (iV ((0:Nat):Int)))]) ([(0,0,zrI l)]) (.ret) ([(2,.pv (.bool true))]) ([])):Rl 1 1 31 0 32 1 (qpT i l) ([(0,0,zrI l)]) (.ret) ([(2,.pv (.bool true))]) ([]):=
 RunsL.stop [] 300 [.t true,Lf r1] (fun h=>by cases h)
  (Ro (Ai hlt (Lo r1 [] tI)))
theorem qmB {l:List Int} {i:Nat} (hge:decide ((i:Int)<(l.length:Int))=false):Rl 1 1 31 0 32 1 (qpT i l) ([(0,0,zrI l)]) (.exit 0) ([]) ([]):=
 RunsL.stop [] 300 [.t false] (fun h=>by cases h)
  (Ro (Ai hge tI))
theorem qnP {l:List Int} (r0:Rl 1 1 31 0 32 1 ([(0,.ls 0 l.length),(3,.pv (iV ((0:Nat):Int)))]) ([(0,0,zrI l)]) (.ret) ([(2,.pv (.bool true))]) ([])) :
 Fn 31 1 [.ls 0 l.length] [(0,0,zrI l)] (.pv (.bool true)) 0 []:=
 Fz [] [Lf r0]
  tI (Lo r0 [] tI)
theorem qpe {l:List Int} (r0:Rl 1 1 31 0 32 1 ([(0,.ls 0 l.length),(3,.pv (iV ((0:Nat):Int)))]) ([(0,0,zrI l)]) (.exit 0) ([]) ([])) :
 Fn 31 1 [.ls 0 l.length] [(0,0,zrI l)] (.pv (.bool false)) 0 []:=
 Fz [] [Lf r0]
  tI (Lo r0 [] tI)
theorem qpf {b:Br} (h1:decide ((b.p.length:Int)<1)=true) :
 Fn 26 2 [brS 0 1 b] [(0,0,zrI b.p),(1,0,zrI b.w)] (.pv (iV (8))) 0 []:=
 Fz [] [.t true]
  tI (Ai h1 tI)
theorem qo3 {b:Br} (h1:decide ((b.p.length:Int)<1)=false) (hh:decide ((b.p.length:Int)>64)=true) :
 Fn 26 2 [brS 0 1 b] [(0,0,zrI b.p),(1,0,zrI b.w)] (.pv (iV (8))) 0 []:=
 Fz [] [.t false,.t true]
  tI (Ai h1 (Ai hh tI))
theorem qok {b:Br} {x:Int} (h1:decide ((b.p.length:Int)<1)=false) (hh:decide ((b.p.length:Int)>64)=false) (hs:iV (IntKind.i64.wrap ((b.p.length:Int)-1))=iV (x)) (hl:((b.w.length:Int) !=x)=true) :
 Fn 26 2 [brS 0 1 b] [(0,0,zrI b.p),(1,0,zrI b.w)] (.pv (iV (8))) 0 []:=
 Fz [] [.t false,.t false,Re hs,.t true]
  tI (Ai h1 (Ai hh (Ai hs (Ai hl tI))))
theorem qmH {b:Br} {x:Int} (h1:decide ((b.p.length:Int)<1)=false) (hh:decide ((b.p.length:Int)>64)=false) (hs:iV (IntKind.i64.wrap ((b.p.length:Int)-1))=iV (x)) (hl:((b.w.length:Int) !=x)=false) (h2:Fn 31 1 [.ls 0 b.p.length] [(0,0,zrI b.p)] (.pv (.bool true)) 0 []) :
 Fn 26 2 [brS 0 1 b] [(0,0,zrI b.p),(1,0,zrI b.w)] (.pv (iV (8))) 0 []:=
 Fz [] [.t false,.t false,Re hs,.t false,Cf h2 [0]]
  tI (Ai h1 (Ai hh (Ai hs (Ai hl (Co h2 [0] 3 tI)))))
theorem qr1 {b:Br} {k:Nat} {x:Int} (hk:b.p[k]?=some x) (hin:0≤(k:Int)∧(k:Int)<(b.p.length:Int)) (hlt:decide ((k:Int)<(b.p.length:Int))=true) (hlo:decide (x<(-1))=false) (hhi:decide (x>65535)=false) (hs:iV (IntKind.i64.wrap ((k:Int)+1))=iV (((k+1:Nat):Int))) {e:Exit} {tm2:TmL} {hp2:HpL}
 (r:Rl 2 2 26 0 98 3 ([(1,.pp 2 0),(3,.pv (iV (b.p.length:Int))),(4,.pv (iV ((k+1:Nat):Int)))]) ([(2,0,.ls 0 b.p.length),(2,1,.ls 1 b.w.length),(0,0,zrI b.p),(1,0,zrI b.w)]) e tm2 hp2):Rl 2 2 26 0 98 3 ([(1,.pp 2 0),(3,.pv (iV (b.p.length:Int))),(4,.pv (iV (k:Int)))]) ([(2,0,.ls 0 b.p.length),(2,1,.ls 1 b.w.length),(0,0,zrI b.p),(1,0,zrI b.w)]) e tm2 hp2:=
 RunsL.next [] 300 [.t true,.r (iV x),.t false,.r (iV x),.t false,Re hs]
  (Ro (Ai hlt (Ai hin (Ai (qaZ hk) (Ai hlo (Ai hin (Ai (qaZ hk) (Ai hhi (Ai hs tI))))))))) r
theorem qnd {b:Br} {k:Nat} {x:Int} (hk:b.p[k]?=some x) (hin:0≤(k:Int)∧(k:Int)<(b.p.length:Int)) (hlt:decide ((k:Int)<(b.p.length:Int))=true) (hlo:decide (x<(-1))=true):Rl 2 2 26 0 98 3 ([(1,.pp 2 0),(3,.pv (iV (b.p.length:Int))),(4,.pv (iV (k:Int)))]) ([(2,0,.ls 0 b.p.length),(2,1,.ls 1 b.w.length),(0,0,zrI b.p),(1,0,zrI b.w)]) (.ret) ([(2,.pv (iV 8))]) ([]):=
 RunsL.stop [] 300 [.t true,.r (iV x),.t true] (fun h=>by cases h)
  (Ro (Ai hlt (Ai hin (Ai (qaZ hk) (Ai hlo tI)))))
theorem qnG {b:Br} {k:Nat} {x:Int} (hk:b.p[k]?=some x) (hin:0≤(k:Int)∧(k:Int)<(b.p.length:Int)) (hlt:decide ((k:Int)<(b.p.length:Int))=true) (hlo:decide (x<(-1))=false) (hhi:decide (x>65535)=true):Rl 2 2 26 0 98 3 ([(1,.pp 2 0),(3,.pv (iV (b.p.length:Int))),(4,.pv (iV (k:Int)))]) ([(2,0,.ls 0 b.p.length),(2,1,.ls 1 b.w.length),(0,0,zrI b.p),(1,0,zrI b.w)]) (.ret) ([(2,.pv (iV 8))]) ([]):=
 RunsL.stop [] 300 [.t true,.r (iV x),.t false,.r (iV x),.t true] (fun h=>by cases h)
  (Ro (Ai hlt (Ai hin (Ai (qaZ hk) (Ai hlo (Ai hin (Ai (qaZ hk) (Ai hhi tI))))))))
theorem qlo {b:Br} {k:Nat} (hge:decide ((k:Int)<(b.p.length:Int))=false):Rl 2 2 26 0 98 3 ([(1,.pp 2 0),(3,.pv (iV (b.p.length:Int))),(4,.pv (iV (k:Int)))]) ([(2,0,.ls 0 b.p.length),(2,1,.ls 1 b.w.length),(0,0,zrI b.p),(1,0,zrI b.w)]) (.exit 0) ([(1,.pp 2 0)]) ([(2,0,.ls 0 b.p.length),(2,1,.ls 1 b.w.length),(0,0,zrI b.p),(1,0,zrI b.w)]):=
 RunsL.stop [] 300 [.t false] (fun h=>by cases h)
  (Ro (Ai hge tI))
abbrev qn6 (k:Nat):TmL:=[(1,.pp 2 0),(5,.pv (iV (k:Int)))]
theorem qqp {b:Br} {k:Nat} {x y z v e1 e2:Int} (hk:b.w[k]?=some v) (hin:0≤(k:Int)∧(k:Int)<(b.w.length:Int)) (hlt:decide ((k:Int)<(b.w.length:Int))=true) (hm:iV (IntKind.i64.wrap (2*(k:Int)))=iV (z)) (ha:iV (IntKind.i64.wrap (z+1))=iV (e1)) (hx:Fn 52 2 [.ag [.ls 0 b.p.length,.ls 1 b.w.length],.pv (iV (e1))] [(0,0,.row 3 1 b.p.length (ziV b.p)),(1,0,.row 3 1 b.w.length (ziV b.w))] (.pv (iV (x))) 0 []) (hb:iV (IntKind.i64.wrap (z+2))=iV (e2)) (hy:Fn 52 2 [.ag [.ls 0 b.p.length,.ls 1 b.w.length],.pv (iV (e2))] [(0,0,.row 3 1 b.p.length (ziV b.p)),(1,0,.row 3 1 b.w.length (ziV b.w))] (.pv (iV (y))) 0 []) (q1:(v !=x)=false) (q3:(v==(-1))=false) (hs:iV (IntKind.i64.wrap ((k:Int)+1))=iV (((k+1:Nat):Int))) {e:Exit} {tm2:TmL} {hp2:HpL}
 (r:Rl 2 2 26 1 98 3 ([(1,.pp 2 0),(5,.pv (iV ((k+1:Nat):Int)))]) ([(2,0,.ls 0 b.p.length),(2,1,.ls 1 b.w.length),(0,0,zrI b.p),(1,0,zrI b.w)]) e tm2 hp2):Rl 2 2 26 1 98 3 (qn6 k) ([(2,0,.ls 0 b.p.length),(2,1,.ls 1 b.w.length),(0,0,zrI b.p),(1,0,zrI b.w)]) e tm2 hp2:=
 RunsL.next [] 300 [.t true,Re hm,Re ha,Cf hx [0,1],Re hm,Re hb,Cf hy [0,1],.r (iV v),.t false,.r (iV v),.t false,Re hs]
  (Ro (Ai hlt (Ai hm (Ai ha (Co hx [0,1] 3 (Ai hm (Ai hb (Co hy [0,1] 3 (Ai hin (Ai (qaZ hk) (Ai q1 (Ai hin (Ai (qaZ hk) (Ai q3 (Ai hs tI))))))))))))))) r
theorem qql {b:Br} {k:Nat} {x y z v e1 e2:Int} (hk:b.w[k]?=some v) (hin:0≤(k:Int)∧(k:Int)<(b.w.length:Int)) (hlt:decide ((k:Int)<(b.w.length:Int))=true) (hm:iV (IntKind.i64.wrap (2*(k:Int)))=iV (z)) (ha:iV (IntKind.i64.wrap (z+1))=iV (e1)) (hx:Fn 52 2 [.ag [.ls 0 b.p.length,.ls 1 b.w.length],.pv (iV (e1))] [(0,0,.row 3 1 b.p.length (ziV b.p)),(1,0,.row 3 1 b.w.length (ziV b.w))] (.pv (iV (x))) 0 []) (hb:iV (IntKind.i64.wrap (z+2))=iV (e2)) (hy:Fn 52 2 [.ag [.ls 0 b.p.length,.ls 1 b.w.length],.pv (iV (e2))] [(0,0,.row 3 1 b.p.length (ziV b.p)),(1,0,.row 3 1 b.w.length (ziV b.w))] (.pv (iV (y))) 0 []) (q1:(v !=x)=false) (q3:(v==(-1))=true) (q5:(x !=(-1))=false) (q6:(y !=(-1))=false) (hs:iV (IntKind.i64.wrap ((k:Int)+1))=iV (((k+1:Nat):Int))) {e:Exit} {tm2:TmL} {hp2:HpL}
 (r:Rl 2 2 26 1 98 3 ([(1,.pp 2 0),(5,.pv (iV ((k+1:Nat):Int)))]) ([(2,0,.ls 0 b.p.length),(2,1,.ls 1 b.w.length),(0,0,zrI b.p),(1,0,zrI b.w)]) e tm2 hp2):Rl 2 2 26 1 98 3 (qn6 k) ([(2,0,.ls 0 b.p.length),(2,1,.ls 1 b.w.length),(0,0,zrI b.p),(1,0,zrI b.w)]) e tm2 hp2:=
 RunsL.next [] 300 [.t true,Re hm,Re ha,Cf hx [0,1],Re hm,Re hb,Cf hy [0,1],.r (iV v),.t false,.r (iV v),.t true,.t false,.t false,Re hs]
  (Ro (Ai hlt (Ai hm (Ai ha (Co hx [0,1] 3 (Ai hm (Ai hb (Co hy [0,1] 3 (Ai hin (Ai (qaZ hk) (Ai q1 (Ai hin (Ai (qaZ hk) (Ai q3 (Ai q5 (Ai q6 (Ai hs tI))))))))))))))))) r
theorem qoP {b:Br} {k:Nat} {x y z v e1 e2:Int} (hk:b.w[k]?=some v) (hin:0≤(k:Int)∧(k:Int)<(b.w.length:Int)) (hlt:decide ((k:Int)<(b.w.length:Int))=true) (hm:iV (IntKind.i64.wrap (2*(k:Int)))=iV (z)) (ha:iV (IntKind.i64.wrap (z+1))=iV (e1)) (hx:Fn 52 2 [.ag [.ls 0 b.p.length,.ls 1 b.w.length],.pv (iV (e1))] [(0,0,.row 3 1 b.p.length (ziV b.p)),(1,0,.row 3 1 b.w.length (ziV b.w))] (.pv (iV (x))) 0 []) (hb:iV (IntKind.i64.wrap (z+2))=iV (e2)) (hy:Fn 52 2 [.ag [.ls 0 b.p.length,.ls 1 b.w.length],.pv (iV (e2))] [(0,0,.row 3 1 b.p.length (ziV b.p)),(1,0,.row 3 1 b.w.length (ziV b.w))] (.pv (iV (y))) 0 []) (q1:(v !=x)=true) (q2:(v !=y)=false) (q3:(v==(-1))=false) (hs:iV (IntKind.i64.wrap ((k:Int)+1))=iV (((k+1:Nat):Int))) {e:Exit} {tm2:TmL} {hp2:HpL}
 (r:Rl 2 2 26 1 98 3 ([(1,.pp 2 0),(5,.pv (iV ((k+1:Nat):Int)))]) ([(2,0,.ls 0 b.p.length),(2,1,.ls 1 b.w.length),(0,0,zrI b.p),(1,0,zrI b.w)]) e tm2 hp2):Rl 2 2 26 1 98 3 (qn6 k) ([(2,0,.ls 0 b.p.length),(2,1,.ls 1 b.w.length),(0,0,zrI b.p),(1,0,zrI b.w)]) e tm2 hp2:=
 RunsL.next [] 300 [.t true,Re hm,Re ha,Cf hx [0,1],Re hm,Re hb,Cf hy [0,1],.r (iV v),.t true,.r (iV v),.t false,.r (iV v),.t false,Re hs]
  (Ro (Ai hlt (Ai hm (Ai ha (Co hx [0,1] 3 (Ai hm (Ai hb (Co hy [0,1] 3 (Ai hin (Ai (qaZ hk) (Ai q1 (Ai hin (Ai (qaZ hk) (Ai q2 (Ai hin (Ai (qaZ hk) (Ai q3 (Ai hs tI)))))))))))))))))) r
theorem qoQ {b:Br} {k:Nat} {x y z v e1 e2:Int} (hk:b.w[k]?=some v) (hin:0≤(k:Int)∧(k:Int)<(b.w.length:Int)) (hlt:decide ((k:Int)<(b.w.length:Int))=true) (hm:iV (IntKind.i64.wrap (2*(k:Int)))=iV (z)) (ha:iV (IntKind.i64.wrap (z+1))=iV (e1)) (hx:Fn 52 2 [.ag [.ls 0 b.p.length,.ls 1 b.w.length],.pv (iV (e1))] [(0,0,.row 3 1 b.p.length (ziV b.p)),(1,0,.row 3 1 b.w.length (ziV b.w))] (.pv (iV (x))) 0 []) (hb:iV (IntKind.i64.wrap (z+2))=iV (e2)) (hy:Fn 52 2 [.ag [.ls 0 b.p.length,.ls 1 b.w.length],.pv (iV (e2))] [(0,0,.row 3 1 b.p.length (ziV b.p)),(1,0,.row 3 1 b.w.length (ziV b.w))] (.pv (iV (y))) 0 []) (q1:(v !=x)=true) (q2:(v !=y)=true):Rl 2 2 26 1 98 3 (qn6 k) ([(2,0,.ls 0 b.p.length),(2,1,.ls 1 b.w.length),(0,0,zrI b.p),(1,0,zrI b.w)]) (.ret) ([(2,.pv (iV 8))]) ([]):=
 RunsL.stop [] 300 [.t true,Re hm,Re ha,Cf hx [0,1],Re hm,Re hb,Cf hy [0,1],.r (iV v),.t true,.r (iV v),.t true] (fun h=>by cases h)
  (Ro (Ai hlt (Ai hm (Ai ha (Co hx [0,1] 3 (Ai hm (Ai hb (Co hy [0,1] 3 (Ai hin (Ai (qaZ hk) (Ai q1 (Ai hin (Ai (qaZ hk) (Ai q2 tI))))))))))))))
theorem qoE {b:Br} {k:Nat} {x y z v e1 e2:Int} (hk:b.w[k]?=some v) (hin:0≤(k:Int)∧(k:Int)<(b.w.length:Int)) (hlt:decide ((k:Int)<(b.w.length:Int))=true) (hm:iV (IntKind.i64.wrap (2*(k:Int)))=iV (z)) (ha:iV (IntKind.i64.wrap (z+1))=iV (e1)) (hx:Fn 52 2 [.ag [.ls 0 b.p.length,.ls 1 b.w.length],.pv (iV (e1))] [(0,0,.row 3 1 b.p.length (ziV b.p)),(1,0,.row 3 1 b.w.length (ziV b.w))] (.pv (iV (x))) 0 []) (hb:iV (IntKind.i64.wrap (z+2))=iV (e2)) (hy:Fn 52 2 [.ag [.ls 0 b.p.length,.ls 1 b.w.length],.pv (iV (e2))] [(0,0,.row 3 1 b.p.length (ziV b.p)),(1,0,.row 3 1 b.w.length (ziV b.w))] (.pv (iV (y))) 0 []) (q1:(v !=x)=false) (q3:(v==(-1))=true) (q5:(x !=(-1))=false) (q6:(y !=(-1))=true):Rl 2 2 26 1 98 3 (qn6 k) ([(2,0,.ls 0 b.p.length),(2,1,.ls 1 b.w.length),(0,0,zrI b.p),(1,0,zrI b.w)]) (.ret) ([(2,.pv (iV 8))]) ([]):=
 RunsL.stop [] 300 [.t true,Re hm,Re ha,Cf hx [0,1],Re hm,Re hb,Cf hy [0,1],.r (iV v),.t false,.r (iV v),.t true,.t false,.t true] (fun h=>by cases h)
  (Ro (Ai hlt (Ai hm (Ai ha (Co hx [0,1] 3 (Ai hm (Ai hb (Co hy [0,1] 3 (Ai hin (Ai (qaZ hk) (Ai q1 (Ai hin (Ai (qaZ hk) (Ai q3 (Ai q5 (Ai q6 tI))))))))))))))))
theorem qo0 {b:Br} {k:Nat} {x y z v e1 e2:Int} (hk:b.w[k]?=some v) (hin:0≤(k:Int)∧(k:Int)<(b.w.length:Int)) (hlt:decide ((k:Int)<(b.w.length:Int))=true) (hm:iV (IntKind.i64.wrap (2*(k:Int)))=iV (z)) (ha:iV (IntKind.i64.wrap (z+1))=iV (e1)) (hx:Fn 52 2 [.ag [.ls 0 b.p.length,.ls 1 b.w.length],.pv (iV (e1))] [(0,0,.row 3 1 b.p.length (ziV b.p)),(1,0,.row 3 1 b.w.length (ziV b.w))] (.pv (iV (x))) 0 []) (hb:iV (IntKind.i64.wrap (z+2))=iV (e2)) (hy:Fn 52 2 [.ag [.ls 0 b.p.length,.ls 1 b.w.length],.pv (iV (e2))] [(0,0,.row 3 1 b.p.length (ziV b.p)),(1,0,.row 3 1 b.w.length (ziV b.w))] (.pv (iV (y))) 0 []) (q1:(v !=x)=true) (q2:(v !=y)=false) (q3:(v==(-1))=true) (q5:(x !=(-1))=true):Rl 2 2 26 1 98 3 (qn6 k) ([(2,0,.ls 0 b.p.length),(2,1,.ls 1 b.w.length),(0,0,zrI b.p),(1,0,zrI b.w)]) (.ret) ([(2,.pv (iV 8))]) ([]):=
 RunsL.stop [] 300 [.t true,Re hm,Re ha,Cf hx [0,1],Re hm,Re hb,Cf hy [0,1],.r (iV v),.t true,.r (iV v),.t false,.r (iV v),.t true,.t true] (fun h=>by cases h)
  (Ro (Ai hlt (Ai hm (Ai ha (Co hx [0,1] 3 (Ai hm (Ai hb (Co hy [0,1] 3 (Ai hin (Ai (qaZ hk) (Ai q1 (Ai hin (Ai (qaZ hk) (Ai q2 (Ai hin (Ai (qaZ hk) (Ai q3 (Ai q5 tI))))))))))))))))))
theorem qle {b:Br} {k:Nat} (hge:decide ((k:Int)<(b.w.length:Int))=false):Rl 2 2 26 1 98 3 (qn6 k) ([(2,0,.ls 0 b.p.length),(2,1,.ls 1 b.w.length),(0,0,zrI b.p),(1,0,zrI b.w)]) (.exit 2) ([]) ([]):=
 RunsL.stop [] 300 [.t false] (fun h=>by cases h)
  (Ro (Ai hge tI))
theorem qq4 {b:Br} {x:Int} (h1:decide ((b.p.length:Int)<1)=false) (hh:decide ((b.p.length:Int)>64)=false) (hs:iV (IntKind.i64.wrap ((b.p.length:Int)-1))=iV (x)) (hl:((b.w.length:Int) !=x)=false) (h2:Fn 31 1 [.ls 0 b.p.length] [(0,0,zrI b.p)] (.pv (.bool false)) 0 []) (r0:Rl 2 2 26 0 98 3 ([(1,.pp 2 0),(3,.pv (iV (b.p.length:Int))),(4,.pv (iV ((0:Nat):Int)))]) ([(2,0,.ls 0 b.p.length),(2,1,.ls 1 b.w.length),(0,0,zrI b.p),(1,0,zrI b.w)]) (.ret) ([(2,.pv (iV 8))]) ([])) :
 Fn 26 2 [brS 0 1 b] [(0,0,zrI b.p),(1,0,zrI b.w)] (.pv (iV (8))) 0 []:=
 Fz [] [.t false,.t false,Re hs,.t false,Cf h2 [0],Lf r0]
  tI (Ai h1 (Ai hh (Ai hs (Ai hl (Co h2 [0] 3 (Lo r0 [] tI))))))
theorem qq0 {b:Br} {x:Int} (h1:decide ((b.p.length:Int)<1)=false) (hh:decide ((b.p.length:Int)>64)=false) (hs:iV (IntKind.i64.wrap ((b.p.length:Int)-1))=iV (x)) (hl:((b.w.length:Int) !=x)=false) (h2:Fn 31 1 [.ls 0 b.p.length] [(0,0,zrI b.p)] (.pv (.bool false)) 0 []) (r0:Rl 2 2 26 0 98 3 ([(1,.pp 2 0),(3,.pv (iV (b.p.length:Int))),(4,.pv (iV ((0:Nat):Int)))]) ([(2,0,.ls 0 b.p.length),(2,1,.ls 1 b.w.length),(0,0,zrI b.p),(1,0,zrI b.w)]) (.exit 0) ([(1,.pp 2 0)]) ([(2,0,.ls 0 b.p.length),(2,1,.ls 1 b.w.length),(0,0,zrI b.p),(1,0,zrI b.w)])) (r1:Rl 2 2 26 1 98 3 ([(1,.pp 2 0),(5,.pv (iV ((0:Nat):Int)))]) ([(2,0,.ls 0 b.p.length),(2,1,.ls 1 b.w.length),(0,0,zrI b.p),(1,0,zrI b.w)]) (.ret) ([(2,.pv (iV 8))]) ([])) :
 Fn 26 2 [brS 0 1 b] [(0,0,zrI b.p),(1,0,zrI b.w)] (.pv (iV (8))) 0 []:=
 Fz [] [.t false,.t false,Re hs,.t false,Cf h2 [0],Lf r0,Lf r1]
  tI (Ai h1 (Ai hh (Ai hs (Ai hl (Co h2 [0] 3 (Lo r0 [] (Lo r1 [] tI)))))))
theorem qp7 {b:Br} {x:Int} (h1:decide ((b.p.length:Int)<1)=false) (hh:decide ((b.p.length:Int)>64)=false) (hs:iV (IntKind.i64.wrap ((b.p.length:Int)-1))=iV (x)) (hl:((b.w.length:Int) !=x)=false) (h2:Fn 31 1 [.ls 0 b.p.length] [(0,0,zrI b.p)] (.pv (.bool false)) 0 []) (r0:Rl 2 2 26 0 98 3 ([(1,.pp 2 0),(3,.pv (iV (b.p.length:Int))),(4,.pv (iV ((0:Nat):Int)))]) ([(2,0,.ls 0 b.p.length),(2,1,.ls 1 b.w.length),(0,0,zrI b.p),(1,0,zrI b.w)]) (.exit 0) ([(1,.pp 2 0)]) ([(2,0,.ls 0 b.p.length),(2,1,.ls 1 b.w.length),(0,0,zrI b.p),(1,0,zrI b.w)])) (r1:Rl 2 2 26 1 98 3 ([(1,.pp 2 0),(5,.pv (iV ((0:Nat):Int)))]) ([(2,0,.ls 0 b.p.length),(2,1,.ls 1 b.w.length),(0,0,zrI b.p),(1,0,zrI b.w)]) (.exit 2) ([]) ([])) :
 Fn 26 2 [brS 0 1 b] [(0,0,zrI b.p),(1,0,zrI b.w)] (.pv (iV (0))) 0 []:=
 Fz [] [.t false,.t false,Re hs,.t false,Cf h2 [0],Lf r0,Lf r1]
  tI (Ai h1 (Ai hh (Ai hs (Ai hl (Co h2 [0] 3 (Lo r0 [] (Lo r1 [] tI)))))))
theorem qrH {s:List Pt} {x y tn td:Int} (hx:decide (x<0)=true) :
 Fn 74 1 [qaD 0 s,.pv (qad tn td),.pv (iV (x)),.pv (iV (y))] [(0,0,qai s)] (.pv (iV (y))) 0 []:=
 Fz [] [.t true]
  tI (Ai hx tI)
theorem qsf {s:List Pt} {x y tn td:Int} (hx:decide (x<0)=false) (hy:decide (y<0)=true) :
 Fn 74 1 [qaD 0 s,.pv (qad tn td),.pv (iV (x)),.pv (iV (y))] [(0,0,qai s)] (.pv (iV (x))) 0 []:=
 Fz [] [.t false,.t true]
  tI (Ai hx (Ai hy tI))
theorem qrc {s:List Pt} {p q:Pt} {i k:Nat} {x y tn td:Int} (hx:decide (x<0)=false) (hy:decide (y<0)=false) (hp:s[i]?=some p) (hip:0≤(i:Int)∧(i:Int)<(s.length:Int)) (a1:Fn 58 1 [qaD 0 s,.pv (iV (x))] [(0,0,qai s)] (.pv (iV (i:Int))) 0 []) (hq:s[k]?=some q) (hiq:0≤(k:Int)∧(k:Int)<(s.length:Int)) (a2:Fn 58 1 [qaD 0 s,.pv (iV (y))] [(0,0,qai s)] (.pv (iV (k:Int))) 0 []) (hl:Pure Try.prog 85 #[ptV p,ptV q,qad tn td] (.bool true)) :
 Fn 74 1 [qaD 0 s,.pv (qad tn td),.pv (iV (x)),.pv (iV (y))] [(0,0,qai s)] (.pv (iV (x))) 0 []:=
 Fz [] [.t false,.t false,Cf a1 [0],.r (ptV p),Cf a2 [0],.r (ptV q),Rf hl]
  tI (Ai hx (Ai hy (Co a1 [0] 3 (Ai hip (Ai (qeq hp) (Co a2 [0] 3 (Ai hiq (Ai (qeq hq) (Ai hl tI)))))))))
theorem qsh {s:List Pt} {p q:Pt} {i k:Nat} {x y tn td:Int} (hx:decide (x<0)=false) (hy:decide (y<0)=false) (hp:s[i]?=some p) (hip:0≤(i:Int)∧(i:Int)<(s.length:Int)) (a1:Fn 58 1 [qaD 0 s,.pv (iV (x))] [(0,0,qai s)] (.pv (iV (i:Int))) 0 []) (hq:s[k]?=some q) (hiq:0≤(k:Int)∧(k:Int)<(s.length:Int)) (a2:Fn 58 1 [qaD 0 s,.pv (iV (y))] [(0,0,qai s)] (.pv (iV (k:Int))) 0 []) (hl:Pure Try.prog 85 #[ptV p,ptV q,qad tn td] (.bool false)) :
 Fn 74 1 [qaD 0 s,.pv (qad tn td),.pv (iV (x)),.pv (iV (y))] [(0,0,qai s)] (.pv (iV (y))) 0 []:=
 Fz [] [.t false,.t false,Cf a1 [0],.r (ptV p),Cf a2 [0],.r (ptV q),Rf hl]
  tI (Ai hx (Ai hy (Co a1 [0] 3 (Ai hip (Ai (qeq hp) (Co a2 [0] 3 (Ai hiq (Ai (qeq hq) (Ai hl tI)))))))))
abbrev ql8 (l:List Int) (s:List Pt):HpL:=[(2,0,.ls 0 s.length),(0,0,qai s),(1,0,zrI l)]
abbrev qqO (k:Nat) (l:List Int):TmL:=[(1,.ls 1 l.length),(2,.pp 2 0),(5,.pv (iV (k:Int)))]
theorem qlH {l:List Int} {s:List Pt} {k:Nat} {x:Int} (hk:l[k]?=some x) (hin:0≤(k:Int)∧(k:Int)<(l.length:Int)) (hlt:decide ((k:Int)<(l.length:Int))=true) (hx:(x !=(-1))=false) (hs:iV (IntKind.i64.wrap ((k:Int)+1))=iV (((k+1:Nat):Int))) {e:Exit} {tm2:TmL} {hp2:HpL}
 (r:Rl 2 2 30 0 26 3 ([(1,.ls 1 l.length),(2,.pp 2 0),(5,.pv (iV ((k+1:Nat):Int)))]) (ql8 l s) e tm2 hp2):Rl 2 2 30 0 26 3 (qqO k l) (ql8 l s) e tm2 hp2:=
 RunsL.next [] 300 [.t true,.r (iV x),.t false,Re hs]
  (Ro (Ai hlt (Ai hin (Ai (qaZ hk) (Ai hx (Ai hs tI)))))) r
theorem qlB {l:List Int} {s:List Pt} {k:Nat} {x v:Int} (hk:l[k]?=some x) (hin:0≤(k:Int)∧(k:Int)<(l.length:Int)) (hlt:decide ((k:Int)<(l.length:Int))=true) (hx:(x !=(-1))=true) (ha:Fn 58 1 [qaD 0 s,.pv (iV (x))] [(0,0,qai s)] (.pv (iV (v))) 0 []) (hv:decide (v<0)=false) (hs:iV (IntKind.i64.wrap ((k:Int)+1))=iV (((k+1:Nat):Int))) {e:Exit} {tm2:TmL} {hp2:HpL}
 (r:Rl 2 2 30 0 26 3 ([(1,.ls 1 l.length),(2,.pp 2 0),(5,.pv (iV ((k+1:Nat):Int)))]) (ql8 l s) e tm2 hp2):Rl 2 2 30 0 26 3 (qqO k l) (ql8 l s) e tm2 hp2:=
 RunsL.next [] 300 [.t true,.r (iV x),.t true,.r (iV x),Cf ha [0],.t false,Re hs]
  (Ro (Ai hlt (Ai hin (Ai (qaZ hk) (Ai hx (Ai hin (Ai (qaZ hk) (Co ha [0] 3 (Ai hv (Ai hs tI)))))))))) r
theorem qk3 {l:List Int} {s:List Pt} {k:Nat} {x v:Int} (hk:l[k]?=some x) (hin:0≤(k:Int)∧(k:Int)<(l.length:Int)) (hlt:decide ((k:Int)<(l.length:Int))=true) (hx:(x !=(-1))=true) (ha:Fn 58 1 [qaD 0 s,.pv (iV (x))] [(0,0,qai s)] (.pv (iV (v))) 0 []) (hv:decide (v<0)=true):Rl 2 2 30 0 26 3 (qqO k l) (ql8 l s) (.ret) ([(4,.pv (.bool false))]) ([]):=
 RunsL.stop [] 300 [.t true,.r (iV x),.t true,.r (iV x),Cf ha [0],.t true] (fun h=>by cases h)
  (Ro (Ai hlt (Ai hin (Ai (qaZ hk) (Ai hx (Ai hin (Ai (qaZ hk) (Co ha [0] 3 (Ai hv tI)))))))))
theorem qn2 {l:List Int} {s:List Pt} {k:Nat} (hge:decide ((k:Int)<(l.length:Int))=false):Rl 2 2 30 0 26 3 (qqO k l) (ql8 l s) (.exit 0) ([]) ([]):=
 RunsL.stop [] 300 [.t false] (fun h=>by cases h)
  (Ro (Ai hge tI))
theorem qpF {l:List Int} {s:List Pt} (r0:Rl 2 2 30 0 26 3 ([(1,.ls 1 l.length),(2,.pp 2 0),(5,.pv (iV ((0:Nat):Int)))]) (ql8 l s) (.ret) ([(4,.pv (.bool false))]) ([])) :
 Fn 30 2 [qaD 0 s,.ls 1 l.length] [(0,0,qai s),(1,0,zrI l)] (.pv (.bool false)) 0 []:=
 Fz [] [Lf r0]
  tI (Lo r0 [] tI)
theorem qmU {l:List Int} {s:List Pt} (r0:Rl 2 2 30 0 26 3 ([(1,.ls 1 l.length),(2,.pp 2 0),(5,.pv (iV ((0:Nat):Int)))]) (ql8 l s) (.exit 0) ([]) ([])) :
 Fn 30 2 [qaD 0 s,.ls 1 l.length] [(0,0,qai s),(1,0,zrI l)] (.pv (.bool true)) 0 []:=
 Fz [] [Lf r0]
  tI (Lo r0 [] tI)
end Go.Proofs.Ytgbmdijodlfcaaa
