/-
  Joined: Qa, Qr, Qb. Conditions: none.
-/
import Derived.Test.YtgbmdijodlfcaaaW26
import Derived.Test.YtgbmdijodlfcaaaW25
import Derived.Test.YtgbmdijodlfcaaaW21
namespace Go.Proofs.Ytgbmdijodlfcaaa
set_option maxRecDepth 100000
open Go.RowKit
abbrev brS (i j:Nat) (b:Br):SV:=.ag [.ls i b.p.length,.ls j b.w.length]
abbrev qkD (i j:Nat) (b:Br):S1:=.ag [.ls i b.p.length,.ls j b.w.length]
def qnJ (m:List Int):List (Value×Value):=m.map fun x=>(iV x,.bool true)
abbrev qdf (m:List Int):List Value:=kvL (qnJ m)
theorem qkV (n:Nat):some (SV.row 3 1 n (qc7 [iV 0] n))=some (SV.row 3 1 n (ziV (List.replicate n 0))):=by rw[qlC]
theorem qpm {l:List Int} (h1:decide ((l.length:Int)<1)=true) :
 Fn 37 1 [.ls 0 l.length] [(0,0,zrI l)] (.pv (iV (2))) 0 []:=
 Fz [] [.t true]
  tI (Ai h1 tI)
theorem qoM {l:List Int} (h1:decide ((l.length:Int)<1)=false) (h2:decide ((l.length:Int)>64)=true) :
 Fn 37 1 [.ls 0 l.length] [(0,0,zrI l)] (.pv (iV (2))) 0 []:=
 Fz [] [.t false,.t true]
  tI (Ai h1 (Ai h2 tI))
theorem qoA {l:List Int} (h1:decide ((l.length:Int)<1)=false) (h2:decide ((l.length:Int)>64)=false) :
 Fn 37 1 [.ls 0 l.length] [(0,0,zrI l)] (.pv (iV (0))) 0 []:=
 Fz [] [.t false,.t false]
  tI (Ai h1 (Ai h2 tI))
theorem qoB {b:Br} {x:Int} (h1:decide (x<0)=true) :
 Fn 44 2 [brS 0 1 b,.pv (iV (x))] [(0,0,zrI b.p),(1,0,zrI b.w)] (.pv (iV (2))) 0 []:=
 Fz [] [.t true]
  tI (Ai h1 tI)
theorem qpb {b:Br} {x:Int} (h1:decide (x<0)=false) (h2:decide (x≥(b.p.length:Int))=true) :
 Fn 44 2 [brS 0 1 b,.pv (iV (x))] [(0,0,zrI b.p),(1,0,zrI b.w)] (.pv (iV (2))) 0 []:=
 Fz [] [.t false,.t true]
  tI (Ai h1 (Ai h2 tI))
theorem qoh {b:Br} {x:Int} (h1:decide (x<0)=false) (h2:decide (x≥(b.p.length:Int))=false) :
 Fn 44 2 [brS 0 1 b,.pv (iV (x))] [(0,0,zrI b.p),(1,0,zrI b.w)] (.pv (iV (0))) 0 []:=
 Fz [] [.t false,.t false]
  tI (Ai h1 (Ai h2 tI))
theorem qk0 {l s:List Pt} {k:Nat} {p:Pt} (hk:l[k]?=some p) (hin:0≤(k:Int)∧(k:Int)<(l.length:Int)) (hlt:decide ((k:Int)<(l.length:Int))=true) (hP:qdT Try.prog 77 (byV s) (iV p.id) (ptV p) (byV (s++[p]))) (hs:iV (IntKind.i64.wrap ((k:Int)+1))=iV (((k+1:Nat):Int))) {e:Exit} {tm2:TmL} {hp2:HpL}
 (r:Rl 1 1 38 0 23 3 ([(3,.mp 2),(11,.ls 0 l.length),(12,.pv (iV (l.length:Int))),(13,.pv (iV ((k+1:Nat):Int)))]) ([(2,0,.mrow (byV (s++[p]))),(0,0,qaq l)]) e tm2 hp2):Rl 1 1 38 0 23 3 ([(3,.mp 2),(11,.ls 0 l.length),(12,.pv (iV (l.length:Int))),(13,.pv (iV (k:Int)))]) ([(2,0,.mrow (byV (s))),(0,0,qaq l)]) e tm2 hp2:=
 RunsL.next [] 300 [.t true,.r (ptV p),.w (byV (s++[p])),Re hs]
  (Ro (Ai hlt (Ai hin (Ai (qmO hk) (Ai hP (Ai hs tI)))))) r
theorem qmj {l s:List Pt} {k:Nat} (hge:decide ((k:Int)<(l.length:Int))=false):Rl 1 1 38 0 23 3 ([(3,.mp 2),(11,.ls 0 l.length),(12,.pv (iV (l.length:Int))),(13,.pv (iV (k:Int)))]) ([(2,0,.mrow (byV (s))),(0,0,qaq l)]) (.exit 0) ([(3,.mp 2)]) ([(2,0,.mrow (byV (s))),(0,0,qaq l)]):=
 RunsL.stop [] 300 [.t false] (fun h=>by cases h)
  (Ro (Ai hge tI))
theorem qkw {l s:List Pt} (r0:Rl 1 1 38 0 23 3 ([(3,.mp 2),(11,.ls 0 l.length),(12,.pv (iV (l.length:Int))),(13,.pv (iV ((0:Nat):Int)))]) ([(2,0,.mrow (byV ([]))),(0,0,qaq l)]) (.exit 0) ([(3,.mp 2)]) ([(2,0,.mrow (byV (s))),(0,0,qaq l)])) :
 Fn 38 1 [qaF 0 l] [(0,0,qaq l)] (.mp 1) 1 [(1,0,.mrow (byV s))]:=
 Fz [(1,2)] [Lf r0]
  (qcv (qaV [(1,2)]) [(1,0,.mrow (byV s))]) (Lo r0 [] tI)
abbrev qfW (l:List Int) (s:List Pt):HpL:=[(0,0,zrI l),(1,0,.mrow (byV s)),(2,0,.mp 1)]
abbrev qpC (k:Nat) (l:List Int):TmL:=[(0,.ls 0 l.length),(1,.pc 80 [.pp 2 0]),(7,.pv (iV (l.length:Int))),(8,.pv (iV (k:Int)))]
theorem qkC {l:List Int} {s:List Pt} {k:Nat} {x:Int} (hk:l[k]?=some x) (hin:0≤(k:Int)∧(k:Int)<(l.length:Int)) (hlt:decide ((k:Int)<(l.length:Int))=true) (hA:qaQ Try.prog 77 (byV s) (iV x) true (.tuple #[qad 0 0 0,.bool false])) (hx:(x !=(-1))=false) (hs:iV (IntKind.i64.wrap ((k:Int)+1))=iV (((k+1:Nat):Int))) {e:Exit} {tm2:TmL} {hp2:HpL}
 (r:Rl 3 3 84 0 19 3 ([(0,.ls 0 l.length),(1,.pc 80 [.pp 2 0]),(7,.pv (iV (l.length:Int))),(8,.pv (iV ((k+1:Nat):Int)))]) (qfW l s) e tm2 hp2):Rl 3 3 84 0 19 3 (qpC k l) (qfW l s) e tm2 hp2:=
 RunsL.next [] 300 [.t true,.r (iV x),.k,.r (.tuple #[qad 0 0 0,.bool false]),.t false,Re hs]
  (Ro (Ai hlt (Ai hin (Ai (qdp hk) (Ai hA (Ai hx (Ai hs tI))))))) r
theorem qia {l:List Int} {s:List Pt} {q:Pt} {k:Nat} {x:Int} (hk:l[k]?=some x) (hin:0≤(k:Int)∧(k:Int)<(l.length:Int)) (hlt:decide ((k:Int)<(l.length:Int))=true) (hA:qaQ Try.prog 77 (byV s) (iV x) true (.tuple #[ptV q,.bool true])) (hx:(x !=(-1))=true) (hs:iV (IntKind.i64.wrap ((k:Int)+1))=iV (((k+1:Nat):Int))) {e:Exit} {tm2:TmL} {hp2:HpL}
 (r:Rl 3 3 84 0 19 3 ([(0,.ls 0 l.length),(1,.pc 80 [.pp 2 0]),(7,.pv (iV (l.length:Int))),(8,.pv (iV ((k+1:Nat):Int)))]) (qfW l s) e tm2 hp2):Rl 3 3 84 0 19 3 (qpC k l) (qfW l s) e tm2 hp2:=
 RunsL.next [] 300 [.t true,.r (iV x),.k,.r (.tuple #[ptV q,.bool true]),.t true,.k,Re hs]
  (Ro (Ai hlt (Ai hin (Ai (qdp hk) (Ai hA (Ai hx (Ai hs tI))))))) r
theorem qkM {l:List Int} {s:List Pt} {k:Nat} {x:Int} (hk:l[k]?=some x) (hin:0≤(k:Int)∧(k:Int)<(l.length:Int)) (hlt:decide ((k:Int)<(l.length:Int))=true) (hA:qaQ Try.prog 77 (byV s) (iV x) true (.tuple #[qad 0 0 0,.bool false])) (hx:(x !=(-1))=true):Rl 3 3 84 0 19 3 (qpC k l) (qfW l s) (.ret) ([(4,.pv (iV (k:Int)))]) ([]):=
 RunsL.stop [] 300 [.t true,.r (iV x),.k,.r (.tuple #[qad 0 0 0,.bool false]),.t true,.k] (fun h=>by cases h)
  (Ro (Ai hlt (Ai hin (Ai (qdp hk) (Ai hA (Ai hx tI))))))
theorem qmy {l:List Int} {s:List Pt} {k:Nat} (hge:decide ((k:Int)<(l.length:Int))=false):Rl 3 3 84 0 19 3 (qpC k l) (qfW l s) (.exit 0) ([]) ([]):=
 RunsL.stop [] 300 [.t false] (fun h=>by cases h)
  (Ro (Ai hge tI))
theorem qo0 {l:List Int} {s:List Pt} (r0:Rl 3 3 84 0 19 3 ([(0,.ls 0 l.length),(1,.pc 80 [.pp 2 0]),(7,.pv (iV (l.length:Int))),(8,.pv (iV ((0:Nat):Int)))]) (qfW l s) (.exit 0) ([]) ([])) :
 Fn 84 3 [.ls 0 l.length,.pc 80 [.pp 2 0]] (qfW l s) (.pv (iV (-1))) 0 []:=
 Fz [] [Lf r0]
  tI (Lo r0 [] tI)
theorem qmZ {l:List Int} {s:List Pt} {k:Nat} (r0:Rl 3 3 84 0 19 3 ([(0,.ls 0 l.length),(1,.pc 80 [.pp 2 0]),(7,.pv (iV (l.length:Int))),(8,.pv (iV ((0:Nat):Int)))]) (qfW l s) (.ret) ([(4,.pv (iV (k:Int)))]) ([])) :
 Fn 84 3 [.ls 0 l.length,.pc 80 [.pp 2 0]] (qfW l s) (.pv (iV (k:Int))) 0 []:=
 Fz [] [Lf r0]
  tI (Lo r0 [] tI)
theorem qn0 {l:List Int} {s:List Pt} (hi:Fn 84 3 [.ls 0 l.length,.pc 80 [.pp 2 0]] (qfW l s) (.pv (iV (-1))) 0 []) :
 Fn 73 3 [.ls 0 l.length,.pc 80 [.pp 2 0]] (qfW l s) (.pv (.bool false)) 0 []:=
 Fz [] [Cf hi [0,1,2],.k]
  tI (Co hi [0,1,2] 3 tI)
theorem qmn {l:List Int} {s:List Pt} {k:Nat} (hi:Fn 84 3 [.ls 0 l.length,.pc 80 [.pp 2 0]] (qfW l s) (.pv (iV (k:Int))) 0 []) (h0:decide ((k:Int)≥0)=true) :
 Fn 73 3 [.ls 0 l.length,.pc 80 [.pp 2 0]] (qfW l s) (.pv (.bool true)) 0 []:=
 Fz [] [Cf hi [0,1,2],.t true]
  tI (Co hi [0,1,2] 3 (Ai h0 tI))
theorem qph {l:List Int} {s:List Pt} (ht:Fn 73 3 [.ls 0 l.length,.pc 80 [.pp 2 0]] (qfW l s) (.pv (.bool true)) 0 []) :
 Fn 65 2 [.mp 1,.ls 0 l.length] [(0,0,zrI l),(1,0,.mrow (byV s))] (.pv (.bool false)) 0 []:=
 Fz [] [Cf ht [0,1,2],.k]
  tI (Co ht [0,1,2] 4 tI)
theorem qm3 {l:List Int} {s:List Pt} (ht:Fn 73 3 [.ls 0 l.length,.pc 80 [.pp 2 0]] (qfW l s) (.pv (.bool false)) 0 []) :
 Fn 65 2 [.mp 1,.ls 0 l.length] [(0,0,zrI l),(1,0,.mrow (byV s))] (.pv (.bool true)) 0 []:=
 Fz [] [Cf ht [0,1,2],.k]
  tI (Co ht [0,1,2] 4 tI)
abbrev qpL (k:Nat) (l:List Int):TmL:=[(0,.ls 0 l.length),(1,.pv (.func (.func 72) #[] #[])),(7,.pv (iV (l.length:Int))),(8,.pv (iV (k:Int)))]
theorem qkO {l:List Int} {k:Nat} {x:Int} (hk:l[k]?=some x) (hin:0≤(k:Int)∧(k:Int)<(l.length:Int)) (hlt:decide ((k:Int)<(l.length:Int))=true) (hlo:decide (x<(-1))=false) (hhi:decide (x>65535)=false) (hs:iV (IntKind.i64.wrap ((k:Int)+1))=iV (((k+1:Nat):Int))) {e:Exit} {tm2:TmL} {hp2:HpL}
 (r:Rl 1 1 84 0 19 1 ([(0,.ls 0 l.length),(1,.pv (.func (.func 72) #[] #[])),(7,.pv (iV (l.length:Int))),(8,.pv (iV ((k+1:Nat):Int)))]) ([(0,0,zrI l)]) e tm2 hp2):Rl 1 1 84 0 19 1 (qpL k l) ([(0,0,zrI l)]) e tm2 hp2:=
 RunsL.next [] 300 [.t true,.r (iV x),.k,.t false,.t false,Re hs]
  (Ro (Ai hlt (Ai hin (Ai (qdp hk) (Ai hlo (Ai hhi (Ai hs tI))))))) r
theorem qop {l:List Int} {k:Nat} {x:Int} (hk:l[k]?=some x) (hin:0≤(k:Int)∧(k:Int)<(l.length:Int)) (hlt:decide ((k:Int)<(l.length:Int))=true) (hlo:decide (x<(-1))=true):Rl 1 1 84 0 19 1 (qpL k l) ([(0,0,zrI l)]) (.ret) ([(4,.pv (iV (k:Int)))]) ([]):=
 RunsL.stop [] 300 [.t true,.r (iV x),.k,.t true] (fun h=>by cases h)
  (Ro (Ai hlt (Ai hin (Ai (qdp hk) (Ai hlo tI)))))
theorem qo5 {l:List Int} {k:Nat} {x:Int} (hk:l[k]?=some x) (hin:0≤(k:Int)∧(k:Int)<(l.length:Int)) (hlt:decide ((k:Int)<(l.length:Int))=true) (hlo:decide (x<(-1))=false) (hhi:decide (x>65535)=true):Rl 1 1 84 0 19 1 (qpL k l) ([(0,0,zrI l)]) (.ret) ([(4,.pv (iV (k:Int)))]) ([]):=
 RunsL.stop [] 300 [.t true,.r (iV x),.k,.t false,.t true] (fun h=>by cases h)
  (Ro (Ai hlt (Ai hin (Ai (qdp hk) (Ai hlo (Ai hhi tI))))))
theorem ql8 {l:List Int} {k:Nat} (hge:decide ((k:Int)<(l.length:Int))=false):Rl 1 1 84 0 19 1 (qpL k l) ([(0,0,zrI l)]) (.exit 0) ([]) ([]):=
 RunsL.stop [] 300 [.t false] (fun h=>by cases h)
  (Ro (Ai hge tI))
abbrev qrc (l:List Int):TmL:=[(0,.ls 0 l.length),(1,.pv (.func (.func 72) #[] #[])),(7,.pv (iV (l.length:Int))),(8,.pv (iV ((0:Nat):Int)))]
theorem qn7 {l:List Int} (r0:Rl 1 1 84 0 19 1 (qrc l) ([(0,0,zrI l)]) (.exit 0) ([]) ([])) :
 Fn 84 1 [.ls 0 l.length,.pv (.func (.func 72) #[] #[])] [(0,0,zrI l)] (.pv (iV (-1))) 0 []:=
 Fz [] [Lf r0]
  tI (Lo r0 [] tI)
theorem qmr {l:List Int} {k:Nat} (r0:Rl 1 1 84 0 19 1 (qrc l) ([(0,0,zrI l)]) (.ret) ([(4,.pv (iV (k:Int)))]) ([])) :
 Fn 84 1 [.ls 0 l.length,.pv (.func (.func 72) #[] #[])] [(0,0,zrI l)] (.pv (iV (k:Int))) 0 []:=
 Fz [] [Lf r0]
  tI (Lo r0 [] tI)
theorem qo4 {l:List Int} (hi:Fn 84 1 [.ls 0 l.length,.pv (.func (.func 72) #[] #[])] [(0,0,zrI l)] (.pv (iV (-1))) 0 []) :
 Fn 73 1 [.ls 0 l.length,.pv (.func (.func 72) #[] #[])] [(0,0,zrI l)] (.pv (.bool false)) 0 []:=
 Fz [] [Cf hi [0],.k]
  tI (Co hi [0] 1 tI)
theorem qmt {l:List Int} {k:Nat} (hi:Fn 84 1 [.ls 0 l.length,.pv (.func (.func 72) #[] #[])] [(0,0,zrI l)] (.pv (iV (k:Int))) 0 []) (h0:decide ((k:Int)≥0)=true) :
 Fn 73 1 [.ls 0 l.length,.pv (.func (.func 72) #[] #[])] [(0,0,zrI l)] (.pv (.bool true)) 0 []:=
 Fz [] [Cf hi [0],.t true]
  tI (Co hi [0] 1 (Ai h0 tI))
abbrev qpH (k:Nat) (l:List Int):TmL:=[(3,.mp 1),(9,.ls 0 l.length),(10,.pv (iV (l.length:Int))),(11,.pv (iV (k:Int)))]
theorem qde {l m g:List Int} {k:Nat} {x:Int} (hk:l[k]?=some x) (hin:0≤(k:Int)∧(k:Int)<(l.length:Int)) (hlt:decide ((k:Int)<(l.length:Int))=true) (hx:(x !=(-1))=false) (hP:qdT Try.prog 118 (qdf m) (iV x) (.bool true) (qdf g)) (hs:iV (IntKind.i64.wrap ((k:Int)+1))=iV (((k+1:Nat):Int))) {e:Exit} {tm2:TmL} {hp2:HpL}
 (r:Rl 1 1 66 0 25 2 ([(3,.mp 1),(9,.ls 0 l.length),(10,.pv (iV (l.length:Int))),(11,.pv (iV ((k+1:Nat):Int)))]) ([(1,0,.mrow (qdf g)),(0,0,zrI l)]) e tm2 hp2):Rl 1 1 66 0 25 2 (qpH k l) ([(1,0,.mrow (qdf m)),(0,0,zrI l)]) e tm2 hp2:=
 RunsL.next [] 300 [.t true,.r (iV x),.t false,.w (qdf g),Re hs]
  (Ro (Ai hlt (Ai hin (Ai (qdp hk) (Ai hx (Ai hP (Ai hs tI))))))) r
theorem qgT {l m g:List Int} {k:Nat} {x:Int} (hk:l[k]?=some x) (hin:0≤(k:Int)∧(k:Int)<(l.length:Int)) (hlt:decide ((k:Int)<(l.length:Int))=true) (hx:(x !=(-1))=true) (hL:qaQ Try.prog 118 (qdf m) (iV x) false (.bool false)) (hP:qdT Try.prog 118 (qdf m) (iV x) (.bool true) (qdf g)) (hs:iV (IntKind.i64.wrap ((k:Int)+1))=iV (((k+1:Nat):Int))) {e:Exit} {tm2:TmL} {hp2:HpL}
 (r:Rl 1 1 66 0 25 2 ([(3,.mp 1),(9,.ls 0 l.length),(10,.pv (iV (l.length:Int))),(11,.pv (iV ((k+1:Nat):Int)))]) ([(1,0,.mrow (qdf g)),(0,0,zrI l)]) e tm2 hp2):Rl 1 1 66 0 25 2 (qpH k l) ([(1,0,.mrow (qdf m)),(0,0,zrI l)]) e tm2 hp2:=
 RunsL.next [] 300 [.t true,.r (iV x),.t true,.r (.bool false),.w (qdf g),Re hs]
  (Ro (Ai hlt (Ai hin (Ai (qdp hk) (Ai hx (Ai hL (Ai hP (Ai hs tI)))))))) r
theorem qmb {l m:List Int} {k:Nat} {x:Int} (hk:l[k]?=some x) (hin:0≤(k:Int)∧(k:Int)<(l.length:Int)) (hlt:decide ((k:Int)<(l.length:Int))=true) (hx:(x !=(-1))=true) (hL:qaQ Try.prog 118 (qdf m) (iV x) false (.bool true)):Rl 1 1 66 0 25 2 (qpH k l) ([(1,0,.mrow (qdf m)),(0,0,zrI l)]) (.ret) ([(2,.pv (.bool true))]) ([]):=
 RunsL.stop [] 300 [.t true,.r (iV x),.t true,.r (.bool true)] (fun h=>by cases h)
  (Ro (Ai hlt (Ai hin (Ai (qdp hk) (Ai hx (Ai hL tI))))))
theorem qmh {l m:List Int} {k:Nat} (hge:decide ((k:Int)<(l.length:Int))=false):Rl 1 1 66 0 25 2 (qpH k l) ([(1,0,.mrow (qdf m)),(0,0,zrI l)]) (.exit 0) ([]) ([]):=
 RunsL.stop [] 300 [.t false] (fun h=>by cases h)
  (Ro (Ai hge tI))
theorem qm0 {l:List Int} (r0:Rl 1 1 66 0 25 2 ([(3,.mp 1),(9,.ls 0 l.length),(10,.pv (iV (l.length:Int))),(11,.pv (iV ((0:Nat):Int)))]) ([(1,0,.mrow (qdf [])),(0,0,zrI l)]) (.ret) ([(2,.pv (.bool true))]) ([])) :
 Fn 66 1 [.ls 0 l.length] [(0,0,zrI l)] (.pv (.bool true)) 0 []:=
 Fz [] [Lf r0]
  tI (Lo r0 [] tI)
theorem qov {l:List Int} (r0:Rl 1 1 66 0 25 2 ([(3,.mp 1),(9,.ls 0 l.length),(10,.pv (iV (l.length:Int))),(11,.pv (iV ((0:Nat):Int)))]) ([(1,0,.mrow (qdf [])),(0,0,zrI l)]) (.exit 0) ([]) ([])) :
 Fn 66 1 [.ls 0 l.length] [(0,0,zrI l)] (.pv (.bool false)) 0 []:=
 Fz [] [Lf r0]
  tI (Lo r0 [] tI)
theorem qoW {l:List Int} {s:List Pt} (h1:Fn 65 2 [.mp 1,.ls 0 l.length] [(0,0,zrI l),(1,0,.mrow (byV s))] (.pv (.bool false)) 0 []) :
 Fn 39 2 [.mp 1,.ls 0 l.length] [(0,0,zrI l),(1,0,.mrow (byV s))] (.pv (iV (6))) 0 []:=
 Fz [] [Cf h1 [0,1],.k]
  tI (Co h1 [0,1] 2 tI)
theorem qnv {l:List Int} {s:List Pt} (h1:Fn 65 2 [.mp 1,.ls 0 l.length] [(0,0,zrI l),(1,0,.mrow (byV s))] (.pv (.bool true)) 0 []) (h2:Fn 66 1 [.ls 0 l.length] [(0,0,zrI l)] (.pv (.bool true)) 0 []) :
 Fn 39 2 [.mp 1,.ls 0 l.length] [(0,0,zrI l),(1,0,.mrow (byV s))] (.pv (iV (14))) 0 []:=
 Fz [] [Cf h1 [0,1],.k,Cf h2 [0]]
  tI (Co h1 [0,1] 2 (Co h2 [0] 2 tI))
theorem qo2 {l:List Int} {s:List Pt} (h1:Fn 65 2 [.mp 1,.ls 0 l.length] [(0,0,zrI l),(1,0,.mrow (byV s))] (.pv (.bool true)) 0 []) (h2:Fn 66 1 [.ls 0 l.length] [(0,0,zrI l)] (.pv (.bool false)) 0 []) :
 Fn 39 2 [.mp 1,.ls 0 l.length] [(0,0,zrI l),(1,0,.mrow (byV s))] (.pv (iV (0))) 0 []:=
 Fz [] [Cf h1 [0,1],.k,Cf h2 [0]]
  tI (Co h1 [0,1] 2 (Co h2 [0] 2 tI))
theorem qpl {l:List Int} (h1:Fn 73 1 [.ls 0 l.length,.pv (.func (.func 72) #[] #[])] [(0,0,zrI l)] (.pv (.bool true)) 0 []) :
 Fn 49 1 [.ls 0 l.length] [(0,0,zrI l)] (.pv (.bool false)) 0 []:=
 Fz [] [Cf h1 [0],.k]
  tI (Co h1 [0] 1 tI)
theorem qmz {l:List Int} (h1:Fn 73 1 [.ls 0 l.length,.pv (.func (.func 72) #[] #[])] [(0,0,zrI l)] (.pv (.bool false)) 0 []) (h2:Fn 66 1 [.ls 0 l.length] [(0,0,zrI l)] (.pv (.bool true)) 0 []) :
 Fn 49 1 [.ls 0 l.length] [(0,0,zrI l)] (.pv (.bool false)) 0 []:=
 Fz [] [Cf h1 [0],.k,Cf h2 [0],.k]
  tI (Co h1 [0] 1 (Co h2 [0] 1 tI))
theorem qoK {l:List Int} (h1:Fn 73 1 [.ls 0 l.length,.pv (.func (.func 72) #[] #[])] [(0,0,zrI l)] (.pv (.bool false)) 0 []) (h2:Fn 66 1 [.ls 0 l.length] [(0,0,zrI l)] (.pv (.bool false)) 0 []) :
 Fn 49 1 [.ls 0 l.length] [(0,0,zrI l)] (.pv (.bool true)) 0 []:=
 Fz [] [Cf h1 [0],.k,Cf h2 [0],.k]
  tI (Co h1 [0] 1 (Co h2 [0] 1 tI))
abbrev qoc (j:Nat) (l:List Int) (m:List Int) (n:Nat):HpL:=[(0,0,.row 3 1 n (ziV m)),(1,0,.row 3 1 j (ziV l))]
theorem qpj {l m:List Int} {j n:Nat} {x z:Int} (h1:decide (z<(n:Int))=true) (hin:0≤z∧z<(n:Int)) (hk:m[z.toNat]?=some x) :
 Fn 43 2 [.ls 0 n,.ls 1 j,.pv (iV (z))] (qoc j l m n) (.pv (iV (x))) 0 []:=
 Fz [] [.t true,.r (iV x)]
  tI (Ai h1 (Ai hin (Ai (qnX hk) tI)))
theorem qmH {l m:List Int} {j n:Nat} {x y z:Int} (h1:decide (z<(n:Int))=false) (hs:iV (IntKind.i64.wrap (z-(n:Int)))=iV (y)) (hin:0≤y∧y<(j:Int)) (hk:l[y.toNat]?=some x) :
 Fn 43 2 [.ls 0 n,.ls 1 j,.pv (iV (z))] (qoc j l m n) (.pv (iV (x))) 0 []:=
 Fz [] [.t false,Re hs,.r (iV x)]
  tI (Ai h1 (Ai hs (Ai hin (Ai (qnX hk) tI))))
theorem qch {l m:List Int} {j n:Nat} {x y z e e1 e2:Int} (hm:iV (IntKind.i64.wrap (2*z))=iV (e)) (ha:iV (IntKind.i64.wrap (e+1))=iV (e1)) (h1:Fn 43 2 [.ls 0 n,.ls 1 j,.pv (iV (e1))] (qoc j l m n) (.pv (iV (x))) 0 []) (hb:iV (IntKind.i64.wrap (e+2))=iV (e2)) (h2:Fn 43 2 [.ls 0 n,.ls 1 j,.pv (iV (e2))] (qoc j l m n) (.pv (iV (y))) 0 []) :
 Fn 67 2 [.ls 0 n,.ls 1 j,.pv (iV (z))] (qoc j l m n) (.pv (.tuple #[iV x,iV y])) 0 []:=
 Fz [] [Re hm,Re ha,Cf h1 [0,1],Re hm,Re hb,Cf h2 [0,1]]
  tI (Ai hm (Ai ha (Co h1 [0,1] 2 (Ai hm (Ai hb (Co h2 [0,1] 2 tI))))))
theorem qpr {b:Br} {k:Nat} {x y v:Int} (hk:b.w[k]?=some v) (hin:0≤(k:Int)∧(k:Int)<(b.w.length:Int)) (hlt:decide ((k:Int)<(b.w.length:Int))=true) (hc:Fn 67 2 [.ls 0 b.w.length,.ls 1 b.p.length,.pv (iV (k:Int))] [(0,0,zrI b.w),(1,0,zrI b.p)] (.pv (.tuple #[iV x,iV y])) 0 []) (hx:(v !=x)=false) (hn:(v==(-1))=false) (hs:iV (IntKind.i64.wrap ((k:Int)+1))=iV (((k+1:Nat):Int))) {e:Exit} {tm2:TmL} {hp2:HpL}
 (r:Rl 2 2 50 0 42 3 ([(1,.pp 2 0),(8,.ls 1 b.w.length),(9,.pv (iV (b.w.length:Int))),(10,.pv (iV ((k+1:Nat):Int)))]) ([(2,0,.ls 0 b.p.length),(2,1,.ls 1 b.w.length),(0,0,zrI b.p),(1,0,zrI b.w)]) e tm2 hp2):Rl 2 2 50 0 42 3 ([(1,.pp 2 0),(8,.ls 1 b.w.length),(9,.pv (iV (b.w.length:Int))),(10,.pv (iV (k:Int)))]) ([(2,0,.ls 0 b.p.length),(2,1,.ls 1 b.w.length),(0,0,zrI b.p),(1,0,zrI b.w)]) e tm2 hp2:=
 RunsL.next [] 300 [.t true,.r (iV v),Cf hc [1,0],.t false,.t false,Re hs]
  (Ro (Ai hlt (Ai hin (Ai (qdp hk) (Co hc [1,0] 3 (Ai hx (Ai hn (Ai hs tI)))))))) r
theorem qoq {b:Br} {k:Nat} {x y v:Int} (hk:b.w[k]?=some v) (hin:0≤(k:Int)∧(k:Int)<(b.w.length:Int)) (hlt:decide ((k:Int)<(b.w.length:Int))=true) (hc:Fn 67 2 [.ls 0 b.w.length,.ls 1 b.p.length,.pv (iV (k:Int))] [(0,0,zrI b.w),(1,0,zrI b.p)] (.pv (.tuple #[iV x,iV y])) 0 []) (hx:(v !=x)=false) (hn:(v==(-1))=true) (hxy:(x !=y)=false) (hs:iV (IntKind.i64.wrap ((k:Int)+1))=iV (((k+1:Nat):Int))) {e:Exit} {tm2:TmL} {hp2:HpL}
 (r:Rl 2 2 50 0 42 3 ([(1,.pp 2 0),(8,.ls 1 b.w.length),(9,.pv (iV (b.w.length:Int))),(10,.pv (iV ((k+1:Nat):Int)))]) ([(2,0,.ls 0 b.p.length),(2,1,.ls 1 b.w.length),(0,0,zrI b.p),(1,0,zrI b.w)]) e tm2 hp2):Rl 2 2 50 0 42 3 ([(1,.pp 2 0),(8,.ls 1 b.w.length),(9,.pv (iV (b.w.length:Int))),(10,.pv (iV (k:Int)))]) ([(2,0,.ls 0 b.p.length),(2,1,.ls 1 b.w.length),(0,0,zrI b.p),(1,0,zrI b.w)]) e tm2 hp2:=
 RunsL.next [] 300 [.t true,.r (iV v),Cf hc [1,0],.t false,.t true,.t false,Re hs]
  (Ro (Ai hlt (Ai hin (Ai (qdp hk) (Co hc [1,0] 3 (Ai hx (Ai hn (Ai hxy (Ai hs tI))))))))) r
theorem qnZ {b:Br} {k:Nat} {x y v:Int} (hk:b.w[k]?=some v) (hin:0≤(k:Int)∧(k:Int)<(b.w.length:Int)) (hlt:decide ((k:Int)<(b.w.length:Int))=true) (hc:Fn 67 2 [.ls 0 b.w.length,.ls 1 b.p.length,.pv (iV (k:Int))] [(0,0,zrI b.w),(1,0,zrI b.p)] (.pv (.tuple #[iV x,iV y])) 0 []) (hx:(v !=x)=true) (hy:(v !=y)=false) (hn:(v==(-1))=false) (hs:iV (IntKind.i64.wrap ((k:Int)+1))=iV (((k+1:Nat):Int))) {e:Exit} {tm2:TmL} {hp2:HpL}
 (r:Rl 2 2 50 0 42 3 ([(1,.pp 2 0),(8,.ls 1 b.w.length),(9,.pv (iV (b.w.length:Int))),(10,.pv (iV ((k+1:Nat):Int)))]) ([(2,0,.ls 0 b.p.length),(2,1,.ls 1 b.w.length),(0,0,zrI b.p),(1,0,zrI b.w)]) e tm2 hp2):Rl 2 2 50 0 42 3 ([(1,.pp 2 0),(8,.ls 1 b.w.length),(9,.pv (iV (b.w.length:Int))),(10,.pv (iV (k:Int)))]) ([(2,0,.ls 0 b.p.length),(2,1,.ls 1 b.w.length),(0,0,zrI b.p),(1,0,zrI b.w)]) e tm2 hp2:=
 RunsL.next [] 300 [.t true,.r (iV v),Cf hc [1,0],.t true,.t false,.t false,Re hs]
  (Ro (Ai hlt (Ai hin (Ai (qdp hk) (Co hc [1,0] 3 (Ai hx (Ai hy (Ai hn (Ai hs tI))))))))) r
theorem qn3 {b:Br} {k:Nat} {x y v:Int} (hk:b.w[k]?=some v) (hin:0≤(k:Int)∧(k:Int)<(b.w.length:Int)) (hlt:decide ((k:Int)<(b.w.length:Int))=true) (hc:Fn 67 2 [.ls 0 b.w.length,.ls 1 b.p.length,.pv (iV (k:Int))] [(0,0,zrI b.w),(1,0,zrI b.p)] (.pv (.tuple #[iV x,iV y])) 0 []) (hx:(v !=x)=true) (hy:(v !=y)=true):Rl 2 2 50 0 42 3 ([(1,.pp 2 0),(8,.ls 1 b.w.length),(9,.pv (iV (b.w.length:Int))),(10,.pv (iV (k:Int)))]) ([(2,0,.ls 0 b.p.length),(2,1,.ls 1 b.w.length),(0,0,zrI b.p),(1,0,zrI b.w)]) (.ret) ([(2,.pv (.bool false))]) ([]):=
 RunsL.stop [] 300 [.t true,.r (iV v),Cf hc [1,0],.t true,.t true] (fun h=>by cases h)
  (Ro (Ai hlt (Ai hin (Ai (qdp hk) (Co hc [1,0] 3 (Ai hx (Ai hy tI)))))))
theorem qoU {b:Br} {k:Nat} {x y v:Int} (hk:b.w[k]?=some v) (hin:0≤(k:Int)∧(k:Int)<(b.w.length:Int)) (hlt:decide ((k:Int)<(b.w.length:Int))=true) (hc:Fn 67 2 [.ls 0 b.w.length,.ls 1 b.p.length,.pv (iV (k:Int))] [(0,0,zrI b.w),(1,0,zrI b.p)] (.pv (.tuple #[iV x,iV y])) 0 []) (hx:(v !=x)=false) (hn:(v==(-1))=true) (hxy:(x !=y)=true):Rl 2 2 50 0 42 3 ([(1,.pp 2 0),(8,.ls 1 b.w.length),(9,.pv (iV (b.w.length:Int))),(10,.pv (iV (k:Int)))]) ([(2,0,.ls 0 b.p.length),(2,1,.ls 1 b.w.length),(0,0,zrI b.p),(1,0,zrI b.w)]) (.ret) ([(2,.pv (.bool false))]) ([]):=
 RunsL.stop [] 300 [.t true,.r (iV v),Cf hc [1,0],.t false,.t true,.t true] (fun h=>by cases h)
  (Ro (Ai hlt (Ai hin (Ai (qdp hk) (Co hc [1,0] 3 (Ai hx (Ai hn (Ai hxy tI))))))))
theorem qoI {b:Br} {k:Nat} {x y v:Int} (hk:b.w[k]?=some v) (hin:0≤(k:Int)∧(k:Int)<(b.w.length:Int)) (hlt:decide ((k:Int)<(b.w.length:Int))=true) (hc:Fn 67 2 [.ls 0 b.w.length,.ls 1 b.p.length,.pv (iV (k:Int))] [(0,0,zrI b.w),(1,0,zrI b.p)] (.pv (.tuple #[iV x,iV y])) 0 []) (hx:(v !=x)=true) (hy:(v !=y)=false) (hn:(v==(-1))=true) (hxy:(x !=y)=true):Rl 2 2 50 0 42 3 ([(1,.pp 2 0),(8,.ls 1 b.w.length),(9,.pv (iV (b.w.length:Int))),(10,.pv (iV (k:Int)))]) ([(2,0,.ls 0 b.p.length),(2,1,.ls 1 b.w.length),(0,0,zrI b.p),(1,0,zrI b.w)]) (.ret) ([(2,.pv (.bool false))]) ([]):=
 RunsL.stop [] 300 [.t true,.r (iV v),Cf hc [1,0],.t true,.t false,.t true,.t true] (fun h=>by cases h)
  (Ro (Ai hlt (Ai hin (Ai (qdp hk) (Co hc [1,0] 3 (Ai hx (Ai hy (Ai hn (Ai hxy tI)))))))))
theorem qng {b:Br} {k:Nat} (hge:decide ((k:Int)<(b.w.length:Int))=false):Rl 2 2 50 0 42 3 ([(1,.pp 2 0),(8,.ls 1 b.w.length),(9,.pv (iV (b.w.length:Int))),(10,.pv (iV (k:Int)))]) ([(2,0,.ls 0 b.p.length),(2,1,.ls 1 b.w.length),(0,0,zrI b.p),(1,0,zrI b.w)]) (.exit 0) ([]) ([]):=
 RunsL.stop [] 300 [.t false] (fun h=>by cases h)
  (Ro (Ai hge tI))
theorem qok {b:Br} (r0:Rl 2 2 50 0 42 3 ([(1,.pp 2 0),(8,.ls 1 b.w.length),(9,.pv (iV (b.w.length:Int))),(10,.pv (iV ((0:Nat):Int)))]) ([(2,0,.ls 0 b.p.length),(2,1,.ls 1 b.w.length),(0,0,zrI b.p),(1,0,zrI b.w)]) (.ret) ([(2,.pv (.bool false))]) ([])) :
 Fn 50 2 [brS 0 1 b] [(0,0,zrI b.p),(1,0,zrI b.w)] (.pv (.bool false)) 0 []:=
 Fz [] [Lf r0]
  tI (Lo r0 [] tI)
theorem qmw {b:Br} (r0:Rl 2 2 50 0 42 3 ([(1,.pp 2 0),(8,.ls 1 b.w.length),(9,.pv (iV (b.w.length:Int))),(10,.pv (iV ((0:Nat):Int)))]) ([(2,0,.ls 0 b.p.length),(2,1,.ls 1 b.w.length),(0,0,zrI b.p),(1,0,zrI b.w)]) (.exit 0) ([]) ([])) :
 Fn 50 2 [brS 0 1 b] [(0,0,zrI b.p),(1,0,zrI b.w)] (.pv (.bool true)) 0 []:=
 Fz [] [Lf r0]
  tI (Lo r0 [] tI)
theorem qkv {b:Br} (h1:Fn 37 1 [.ls 0 b.p.length] [(0,0,zrI b.p)] (.pv (iV (2))) 0 []) :
 Fn 16 2 [brS 0 1 b] [(0,0,zrI b.p),(1,0,zrI b.w)] (.pv (iV (8))) 0 []:=
 Fz [] [Cf h1 [0],.k]
  tI (Co h1 [0] 3 tI)
theorem qmk {b:Br} {x:Int} (h1:Fn 37 1 [.ls 0 b.p.length] [(0,0,zrI b.p)] (.pv (iV (0))) 0 []) (hs:iV (IntKind.i64.wrap ((b.p.length:Int)-1))=iV (x)) (hl:((b.w.length:Int) !=x)=true) :
 Fn 16 2 [brS 0 1 b] [(0,0,zrI b.p),(1,0,zrI b.w)] (.pv (iV (8))) 0 []:=
 Fz [] [Cf h1 [0],.k,Re hs,.t true]
  tI (Co h1 [0] 3 (Ai hs (Ai hl tI)))
theorem qof {b:Br} {x:Int} (h1:Fn 37 1 [.ls 0 b.p.length] [(0,0,zrI b.p)] (.pv (iV (0))) 0 []) (hs:iV (IntKind.i64.wrap ((b.p.length:Int)-1))=iV (x)) (hl:((b.w.length:Int) !=x)=false) (h2:Fn 49 1 [.ls 0 b.p.length] [(0,0,zrI b.p)] (.pv (.bool false)) 0 []) :
 Fn 16 2 [brS 0 1 b] [(0,0,zrI b.p),(1,0,zrI b.w)] (.pv (iV (8))) 0 []:=
 Fz [] [Cf h1 [0],.k,Re hs,.t false,Cf h2 [0],.k]
  tI (Co h1 [0] 3 (Ai hs (Ai hl (Co h2 [0] 3 tI))))
theorem qo1 {b:Br} {x:Int} (h1:Fn 37 1 [.ls 0 b.p.length] [(0,0,zrI b.p)] (.pv (iV (0))) 0 []) (hs:iV (IntKind.i64.wrap ((b.p.length:Int)-1))=iV (x)) (hl:((b.w.length:Int) !=x)=false) (h2:Fn 49 1 [.ls 0 b.p.length] [(0,0,zrI b.p)] (.pv (.bool true)) 0 []) (h3:Fn 50 2 [brS 0 1 b] [(0,0,zrI b.p),(1,0,zrI b.w)] (.pv (.bool false)) 0 []) :
 Fn 16 2 [brS 0 1 b] [(0,0,zrI b.p),(1,0,zrI b.w)] (.pv (iV (8))) 0 []:=
 Fz [] [Cf h1 [0],.k,Re hs,.t false,Cf h2 [0],.k,Cf h3 [0,1],.k]
  tI (Co h1 [0] 3 (Ai hs (Ai hl (Co h2 [0] 3 (Co h3 [0,1] 3 tI)))))
theorem qpf {b:Br} {x:Int} (h1:Fn 37 1 [.ls 0 b.p.length] [(0,0,zrI b.p)] (.pv (iV (0))) 0 []) (hs:iV (IntKind.i64.wrap ((b.p.length:Int)-1))=iV (x)) (hl:((b.w.length:Int) !=x)=false) (h2:Fn 49 1 [.ls 0 b.p.length] [(0,0,zrI b.p)] (.pv (.bool true)) 0 []) (h3:Fn 50 2 [brS 0 1 b] [(0,0,zrI b.p),(1,0,zrI b.w)] (.pv (.bool true)) 0 []) :
 Fn 16 2 [brS 0 1 b] [(0,0,zrI b.p),(1,0,zrI b.w)] (.pv (iV (0))) 0 []:=
 Fz [] [Cf h1 [0],.k,Re hs,.t false,Cf h2 [0],.k,Cf h3 [0,1],.k]
  tI (Co h1 [0] 3 (Ai hs (Ai hl (Co h2 [0] 3 (Co h3 [0,1] 3 tI)))))
abbrev qnF (s:List Pt) (td:Int) (tn:Int):HpL:=[(0,0,.mrow (byV s)),(1,0,.mp 0),(2,0,.pv (iV tn)),(2,1,.pv (iV td))]
theorem qqe {s:List Pt} {x y tn td:Int} (hx:(x==(-1))=true) :
 Fn 68 3 [.pv (iV (x)),.pv (iV (y)),.pp 1 0,.pp 2 0] (qnF s td tn) (.pv (iV (y))) 0 []:=
 Fz [] [.t true]
  tI (Ai hx tI)
theorem qqc {s:List Pt} {x y tn td:Int} (hx:(x==(-1))=false) (hy:(y==(-1))=true) :
 Fn 68 3 [.pv (iV (x)),.pv (iV (y)),.pp 1 0,.pp 2 0] (qnF s td tn) (.pv (iV (x))) 0 []:=
 Fz [] [.t false,.t true]
  tI (Ai hx (Ai hy tI))
theorem qpU {s:List Pt} {p q:Pt} {x y tn td:Int} (hx:(x==(-1))=false) (hy:(y==(-1))=false) (hp:qaQ Try.prog 77 (byV s) (iV x) false (ptV p)) (hq:qaQ Try.prog 77 (byV s) (iV y) false (ptV q)) (ha:Pure Try.prog 69 #[ptV p,ptV q,qac tn td] (.tuple #[.bool true,iV 0])) :
 Fn 68 3 [.pv (iV (x)),.pv (iV (y)),.pp 1 0,.pp 2 0] (qnF s td tn) (.pv (iV (x))) 0 []:=
 Fz [] [.t false,.t false,.r (ptV p),.r (ptV q),Rf ha]
  tI (Ai hx (Ai hy (Ai hp (Ai hq (Ai ha tI)))))
theorem qqU {s:List Pt} {p q:Pt} {x y tn td:Int} (hx:(x==(-1))=false) (hy:(y==(-1))=false) (hp:qaQ Try.prog 77 (byV s) (iV x) false (ptV p)) (hq:qaQ Try.prog 77 (byV s) (iV y) false (ptV q)) (ha:Pure Try.prog 69 #[ptV p,ptV q,qac tn td] (.tuple #[.bool false,iV 0])) :
 Fn 68 3 [.pv (iV (x)),.pv (iV (y)),.pp 1 0,.pp 2 0] (qnF s td tn) (.pv (iV (y))) 0 []:=
 Fz [] [.t false,.t false,.r (ptV p),.r (ptV q),Rf ha]
  tI (Ai hx (Ai hy (Ai hp (Ai hq (Ai ha tI)))))
theorem qlk {p q:Pt} (h:(p.id==q.id)=true) :
 Pure Try.prog 82 #[ptV p,ptV q] (iV 2):=
 qal (args:=[ptV p,ptV q]) 300 [.t true]
  (Ai rfl (Ai h tI)) (by kernel_rfl)
theorem qmX {p q:Pt} {tn td e4:Int} (h1:Pure Try.prog 62 #[ptV p] (iV (0))) (h2:Pure Try.prog 62 #[ptV q] (iV (0))) (h3:Pure Try.prog 36 #[qac tn td] (iV (0))) (h4:Pure Try.prog 82 #[ptV p,ptV q] (iV (e4))) (he:(e4 !=0)=true) :
 Pure Try.prog 69 #[ptV p,ptV q,qac tn td] (.tuple #[.bool false,iV e4]):=
 qal (args:=[ptV p,ptV q,qac tn td]) 300 [Rf h1,Rf h1,Rf h1,Rf h4,.k,.k,.k,.k,.k,.k,.k,.k,.k,.k,.k,.t true,.t true]
  (Ai rfl (Ai h1 (Ai h2 (Ai h3 (Ai h4 (Ai he (Ai he tI))))))) (by kernel_rfl)
theorem qp5 {s:List Pt} {p q:Pt} {x y tn td:Int} (hx:(x==(-1))=false) (hy:(y==(-1))=false) (hp:qaQ Try.prog 77 (byV s) (iV x) false (ptV p)) (hq:qaQ Try.prog 77 (byV s) (iV y) false (ptV q)) (ha:Pure Try.prog 69 #[ptV p,ptV q,qac tn td] (.tuple #[.bool false,iV 2])) :
 Fn 68 3 [.pv (iV (x)),.pv (iV (y)),.pp 1 0,.pp 2 0] (qnF s td tn) (.pv (iV (y))) 0 []:=
 Fz [] [.t false,.t false,.r (ptV p),.r (ptV q),Rf ha]
  tI (Ai hx (Ai hy (Ai hp (Ai hq (Ai ha tI)))))
abbrev qpG (l:List Int) (m:List Int) (n:Nat) (s:List Pt) (td:Int) (tn:Int):HpL:=[(0,0,zrI l),(1,0,.mrow (byV s)),(2,0,.mp 1),(3,0,.pv (iV tn)),(3,1,.pv (iV td)),(4,0,.row 3 1 n (ziV m))]
abbrev qpP (l:List Int) (n:Nat) (z:Int):TmL:=[(0,.ls 0 l.length),(1,.pc 68 [.pp 2 0,.pp 3 0]),(5,.ls 4 n),(6,.pv (iV (z)))]
theorem qkF {l m:List Int} {s:List Pt} {n:Nat} {x y z z2 v tn td:Int} (h0:decide (z≥0)=true) (hc:Fn 67 2 [.ls 0 n,.ls 1 l.length,.pv (iV (z))] [(0,0,.row 3 1 n (ziV m)),(1,0,zrI l)] (.pv (.tuple #[iV x,iV y])) 0 []) (hw:Fn 68 3 [.pv (iV (x)),.pv (iV (y)),.pp 1 0,.pp 2 0] (qnF s td tn) (.pv (iV (v))) 0 []) (hix:0≤z∧z<(n:Int)) (hg:z.toNat<m.length) (hd:iV (IntKind.i64.wrap (z-1))=iV (z2)) {e:Exit} {tm2:TmL} {hp2:HpL}
 (r:Rl 4 4 41 0 30 5 ([(0,.ls 0 l.length),(1,.pc 68 [.pp 2 0,.pp 3 0]),(5,.ls 4 n),(6,.pv (iV (z2)))]) ([(0,0,zrI l),(1,0,.mrow (byV s)),(2,0,.mp 1),(3,0,.pv (iV tn)),(3,1,.pv (iV td)),(4,0,.row 3 1 n (ziV (m.set z.toNat v)))]) e tm2 hp2):Rl 4 4 41 0 30 5 (qpP l n z) (qpG l m n s td tn) e tm2 hp2:=
 RunsL.next [] 300 [.t true,Cf hc [4,0],Cf hw [1,2,3],.w (ziV (m.set z.toNat v)),Re hd]
  (Ro (Ai h0 (Co hc [4,0] 5 (Co hw [1,2,3] 5 (Ai hix (Ai (qpE m z.toNat v hg) (Ai (qg6 m z.toNat hg) (Ai hd tI)))))))) r
theorem qmc {l m:List Int} {s:List Pt} {n:Nat} {z tn td:Int} (h0:decide (z≥0)=false):Rl 4 4 41 0 30 5 (qpP l n z) (qpG l m n s td tn) (.exit 0) ([(5,.ls 4 n)]) (qpG l m n s td tn):=
 RunsL.stop [] 300 [.t false] (fun h=>by cases h)
  (Ro (Ai h0 tI))
theorem qkR {l m:List Int} {s:List Pt} {n:Nat} {z tn td:Int} (hs:iV (IntKind.i64.wrap ((l.length:Int)-1))=iV (n:Int)) (n0:0≤(n:Int)) (n1:(n:Int)≤1000000) (hd:iV (IntKind.i64.wrap ((n:Int)-1))=iV (z)) (r0:Rl 4 4 41 0 30 5 (qpP l n z) ([(0,0,zrI l),(1,0,.mrow (byV s)),(2,0,.mp 1),(3,0,.pv (iV tn)),(3,1,.pv (iV td)),(4,0,.row 3 1 n (ziV (List.replicate n 0)))]) (.exit 0) ([(5,.ls 4 n)]) (qpG l m n s td tn)) :
 Fn 41 4 [.ls 0 l.length,.pc 68 [.pp 2 0,.pp 3 0]] [(0,0,zrI l),(1,0,.mrow (byV s)),(2,0,.mp 1),(3,0,.pv (iV tn)),(3,1,.pv (iV td))] (.ls 4 n) 1 [(4,0,.row 3 1 n (ziV m))]:=
 Fz [] [Re hs,Re hd,Lf r0]
  (qcv (qaV []) [(4,0,.row 3 1 n (ziV m))]) (Ai hs (Ai n0 (Ai (Eq.refl (n:Int)) (Ai n1 (Ai hd (Ai (Lt r0 []) (Ai (Ai (Er (zrI l)) (Ai (Er (SV.mrow (byV s))) (Ai (Er (SV.mp 1)) (Ai (Er (SV.pv (iV tn))) (Ai (Er (SV.pv (iV td))) (Ai (qkV n) tI)))))) (Ai r0 tI))))))))
end Go.Proofs.Ytgbmdijodlfcaaa

namespace Go.Proofs.Ytgbmdijodlfcaaa
set_option maxRecDepth 100000
open Go.RowKit
theorem qkS {l:List Int} {k:Nat} {x:Int} (hk:l[k]?=some x) (hin:0≤(k:Int)∧(k:Int)<(l.length:Int)) (hlt:decide ((k:Int)<(l.length:Int))=true) (hne:(!(x==x))=false) (hs:iV (IntKind.i64.wrap ((k:Int)+1))=iV (((k+1:Nat):Int))) {e:Exit} {tm2:TmL} {hp2:HpL}
 (r:Rl 2 2 27 0 26 2 ([(0,.ls 0 l.length),(1,.ls 1 l.length),(5,.pv (iV ((k+1:Nat):Int)))]) ([(0,0,zrI l),(1,0,zrI l)]) e tm2 hp2):Rl 2 2 27 0 26 2 ([(0,.ls 0 l.length),(1,.ls 1 l.length),(5,.pv (iV (k:Int)))]) ([(0,0,zrI l),(1,0,zrI l)]) e tm2 hp2:=
 RunsL.next [] 300 [.t true,.r (iV x),.r (iV x),.t false,Re hs]
  (Ro (Ai hlt (Ai hin (Ai (qdp hk) (Ai hin (Ai (qdp hk) (Ai hne (Ai hs tI)))))))) r
theorem qni {l:List Int} {k:Nat} (hge:decide ((k:Int)<(l.length:Int))=false):Rl 2 2 27 0 26 2 ([(0,.ls 0 l.length),(1,.ls 1 l.length),(5,.pv (iV (k:Int)))]) ([(0,0,zrI l),(1,0,zrI l)]) (.exit 0) ([]) ([]):=
 RunsL.stop [] 300 [.t false] (fun h=>by cases h)
  (Ro (Ai hge tI))
theorem qnh {l:List Int} (hl:(!((l.length:Int)==(l.length:Int)))=false) (r0:Rl 2 2 27 0 26 2 ([(0,.ls 0 l.length),(1,.ls 1 l.length),(5,.pv (iV ((0:Nat):Int)))]) ([(0,0,zrI l),(1,0,zrI l)]) (.exit 0) ([]) ([])) :
 Fn 27 2 [.ls 0 l.length,.ls 1 l.length] [(0,0,zrI l),(1,0,zrI l)] (.pv (.bool true)) 0 []:=
 Fz [] [.t false,Lf r0]
  tI (Ai hl (Lo r0 [] tI))
theorem qsm {b:Br} (h1:Fn 27 2 [.ls 0 b.p.length,.ls 1 b.p.length] [(0,0,zrI b.p),(1,0,zrI b.p)] (.pv (.bool true)) 0 []) (h2:Fn 27 2 [.ls 0 b.w.length,.ls 1 b.w.length] [(0,0,zrI b.w),(1,0,zrI b.w)] (.pv (.bool true)) 0 []) :
 Fn 17 4 [brS 0 1 b,brS 2 3 b] [(0,0,zrI b.p),(1,0,zrI b.w),(2,0,zrI b.p),(3,0,zrI b.w)] (.pv (.bool true)) 0 []:=
 Fz [] [Cf h1 [0,2],Cf h2 [1,3]]
  tI (Co h1 [0,2] 6 (Co h2 [1,3] 6 tI))
end Go.Proofs.Ytgbmdijodlfcaaa

namespace Go.Proofs.Ytgbmdijodlfcaaa
set_option maxRecDepth 100000
open Go.RowKit
abbrev qlv (l:List Int) (m:List Int) (n:Nat):HpL:=[(0,0,zrI l),(1,0,.row 3 1 n (ziV m))]
abbrev qqf (k:Nat) (l:List Int) (n:Nat):TmL:=[(0,.ls 0 l.length),(1,.ls 1 n),(12,.pv (iV (l.length:Int))),(13,.pv (iV (k:Int)))]
theorem qlm {l m:List Int} {k n:Nat} {x y:Int} (hk:l[k]?=some x) (hin:0≤(k:Int)∧(k:Int)<(l.length:Int)) (hlt:decide ((k:Int)<(l.length:Int))=true) (hm:m[k]?=some y) (hin2:0≤(k:Int)∧(k:Int)<(n:Int)) (hxy:(x !=y)=false) (hs:iV (IntKind.i64.wrap ((k:Int)+1))=iV (((k+1:Nat):Int))) {e:Exit} {tm2:TmL} {hp2:HpL}
 (r:Rl 2 2 48 0 26 2 ([(0,.ls 0 l.length),(1,.ls 1 n),(12,.pv (iV (l.length:Int))),(13,.pv (iV ((k+1:Nat):Int)))]) (qlv l m n) e tm2 hp2):Rl 2 2 48 0 26 2 (qqf k l n) (qlv l m n) e tm2 hp2:=
 RunsL.next [] 300 [.t true,.r (iV x),.r (iV y),.t false,Re hs]
  (Ro (Ai hlt (Ai hin (Ai (qdp hk) (Ai hin2 (Ai (qdp hm) (Ai hxy (Ai hs tI)))))))) r
theorem qnx {l m:List Int} {k n:Nat} {x y:Int} (hk:l[k]?=some x) (hin:0≤(k:Int)∧(k:Int)<(l.length:Int)) (hlt:decide ((k:Int)<(l.length:Int))=true) (hm:m[k]?=some y) (hin2:0≤(k:Int)∧(k:Int)<(n:Int)) (hxy:(x !=y)=true):Rl 2 2 48 0 26 2 (qqf k l n) (qlv l m n) (.ret) ([(4,.pv (.bool false))]) ([]):=
 RunsL.stop [] 300 [.t true,.r (iV x),.r (iV y),.t true] (fun h=>by cases h)
  (Ro (Ai hlt (Ai hin (Ai (qdp hk) (Ai hin2 (Ai (qdp hm) (Ai hxy tI)))))))
theorem qmm {l m:List Int} {k n:Nat} (hge:decide ((k:Int)<(l.length:Int))=false):Rl 2 2 48 0 26 2 (qqf k l n) (qlv l m n) (.exit 0) ([]) ([]):=
 RunsL.stop [] 300 [.t false] (fun h=>by cases h)
  (Ro (Ai hge tI))
theorem qn5 {l m:List Int} {n:Nat} (hl:((l.length:Int) !=(n:Int))=false) (r0:Rl 2 2 48 0 26 2 ([(0,.ls 0 l.length),(1,.ls 1 n),(12,.pv (iV (l.length:Int))),(13,.pv (iV ((0:Nat):Int)))]) (qlv l m n) (.ret) ([(4,.pv (.bool false))]) ([])) :
 Fn 48 2 [.ls 0 l.length,.ls 1 n] (qlv l m n) (.pv (.bool false)) 0 []:=
 Fz [] [.t false,Lf r0]
  tI (Ai hl (Lo r0 [] tI))
theorem qms {l m:List Int} {n:Nat} (hl:((l.length:Int) !=(n:Int))=false) (r0:Rl 2 2 48 0 26 2 ([(0,.ls 0 l.length),(1,.ls 1 n),(12,.pv (iV (l.length:Int))),(13,.pv (iV ((0:Nat):Int)))]) (qlv l m n) (.exit 0) ([]) ([])) :
 Fn 48 2 [.ls 0 l.length,.ls 1 n] (qlv l m n) (.pv (.bool true)) 0 []:=
 Fz [] [.t false,Lf r0]
  tI (Ai hl (Lo r0 [] tI))
theorem qmW {b:Br} {e:Int} (h1:Fn 16 2 [brS 0 1 b] [(0,0,zrI b.p),(1,0,zrI b.w)] (.pv (iV (e))) 0 []) (he:(e !=0)=true) :
 Fn 12 2 [brS 0 1 b] [(0,0,zrI b.p),(1,0,zrI b.w)] (.pv (.tuple #[iV 0,iV e])) 0 []:=
 Fz [] [Cf h1 [0,1],.t true]
  tI (Co h1 [0,1] 3 (Ai he tI))
theorem qpo {b:Br} {x:Int} (h1:Fn 16 2 [brS 0 1 b] [(0,0,zrI b.p),(1,0,zrI b.w)] (.pv (iV (0))) 0 []) (hn:Fn 43 2 [.ls 0 b.w.length,.ls 1 b.p.length,.pv (iV (0))] [(0,0,zrI b.w),(1,0,zrI b.p)] (.pv (iV (x))) 0 []) (hx:(x==(-1))=true) :
 Fn 12 2 [brS 0 1 b] [(0,0,zrI b.p),(1,0,zrI b.w)] (.pv (.tuple #[iV 0,iV 42])) 0 []:=
 Fz [] [Cf h1 [0,1],.k,Cf hn [1,0],.t true]
  tI (Co h1 [0,1] 3 (Co hn [1,0] 3 (Ai hx tI)))
theorem qoV {b:Br} {x:Int} (h1:Fn 16 2 [brS 0 1 b] [(0,0,zrI b.p),(1,0,zrI b.w)] (.pv (iV (0))) 0 []) (hn:Fn 43 2 [.ls 0 b.w.length,.ls 1 b.p.length,.pv (iV (0))] [(0,0,zrI b.w),(1,0,zrI b.p)] (.pv (iV (x))) 0 []) (hx:(x==(-1))=false) :
 Fn 12 2 [brS 0 1 b] [(0,0,zrI b.p),(1,0,zrI b.w)] (.pv (.tuple #[iV x,iV 0])) 0 []:=
 Fz [] [Cf h1 [0,1],.k,Cf hn [1,0],.t false]
  tI (Co h1 [0,1] 3 (Co hn [1,0] 3 (Ai hx tI)))
theorem qpd {b:Br} {e1 e2 pz:Int} (h1:Fn 16 2 [brS 0 1 b] [(0,0,zrI b.p),(1,0,zrI b.w)] (.pv (iV (e1))) 0 []) (h4:Fn 44 2 [brS 0 1 b,.pv (iV (pz))] [(0,0,zrI b.p),(1,0,zrI b.w)] (.pv (iV (e2))) 0 []) (he:(e1 !=0)=true) :
 Fn 13 2 [brS 0 1 b,.pv (iV (pz))] [(0,0,zrI b.p),(1,0,zrI b.w)] (.pv (.tuple #[.slice none 0 0,iV e1])) 0 []:=
 Fz [] [Cf h1 [0,1],Cf h4 [0,1],.k,.k,.t true,.t true]
  tI (Co h1 [0,1] 3 (Co h4 [0,1] 3 (Ai he (Ai he tI))))
theorem qoj {b:Br} {e2 pz:Int} (h1:Fn 16 2 [brS 0 1 b] [(0,0,zrI b.p),(1,0,zrI b.w)] (.pv (iV (0))) 0 []) (h4:Fn 44 2 [brS 0 1 b,.pv (iV (pz))] [(0,0,zrI b.p),(1,0,zrI b.w)] (.pv (iV (e2))) 0 []) (he:(e2 !=0)=true) :
 Fn 13 2 [brS 0 1 b,.pv (iV (pz))] [(0,0,zrI b.p),(1,0,zrI b.w)] (.pv (.tuple #[.slice none 0 0,iV e2])) 0 []:=
 Fz [] [Cf h1 [0,1],Cf h4 [0,1],.k,.k,.k,.k,.k,.t true,.t true]
  tI (Co h1 [0,1] 3 (Co h4 [0,1] 3 (Ai he (Ai he tI))))
theorem qnT {b:Br} {g:List Int} {x pz:Int} (h1:Fn 16 2 [brS 0 1 b] [(0,0,zrI b.p),(1,0,zrI b.w)] (.pv (iV (0))) 0 []) (h4:Fn 44 2 [brS 0 1 b,.pv (iV (pz))] [(0,0,zrI b.p),(1,0,zrI b.w)] (.pv (iV (0))) 0 []) (ha:iV (IntKind.i64.wrap ((b.w.length:Int)+pz))=iV (x)) (hco:Fn 45 1 [.pc 71 [.pp 0 0]] [(0,0,.pv (iV x))] (.ls 1 g.length) 1 [(1,0,zrI g)]) :
 Fn 13 2 [brS 0 1 b,.pv (iV (pz))] [(0,0,zrI b.p),(1,0,zrI b.w)] (.tu [.one (.ls 2 g.length),.one (.pv (iV 0))]) 1 [(2,0,zrI g)]:=
 Fz [(2,5)] [Cf h1 [0,1],Cf h4 [0,1],.k,.k,.k,.k,.k,.k,.k,.k,.k,Re ha,.k,Cf hco [4]]
  (qcv (qaV [(2,5)]) [(2,0,zrI g)]) (Co h1 [0,1] 3 (Co h4 [0,1] 3 (Ai ha (Co hco [4] 5 tI))))
abbrev qpO (e2:Int) (s:List Pt):Prop:=Fn 35 1 [qaF 0 s] [(0,0,qaq s)] (.pv (iV (e2))) 0 []
abbrev qnH (e3:Int) (td:Int) (tn:Int):Prop:=Pure Try.prog 36 #[qac tn td] (iV (e3))
theorem qqx {b:Br} {s:List Pt} {tn td e1 e2 e3:Int} (h1:Fn 16 2 [brS 0 1 b] [(0,0,zrI b.p),(1,0,zrI b.w)] (.pv (iV (e1))) 0 []) (h2:qpO e2 s) (h3:qnH e3 td tn) (he:(e1 !=0)=true) :
 Fn 15 3 [brS 0 1 b,qaF 2 s,.pv (qac tn td)] [(0,0,zrI b.p),(1,0,zrI b.w),(2,0,qaq s)] (.pv (.tuple #[.bool false,iV e1])) 0 []:=
 Fz [] [Cf h1 [0,1],Cf h2 [2],Rf h3,.k,.k,.t true,.t true]
  tI (Co h1 [0,1] 6 (Co h2 [2] 6 (Ai h3 (Ai he (Ai he tI)))))
theorem qqo {b:Br} {s:List Pt} {tn td e2 e3:Int} (h1:Fn 16 2 [brS 0 1 b] [(0,0,zrI b.p),(1,0,zrI b.w)] (.pv (iV (0))) 0 []) (h2:qpO e2 s) (h3:qnH e3 td tn) (he:(e2 !=0)=true) :
 Fn 15 3 [brS 0 1 b,qaF 2 s,.pv (qac tn td)] [(0,0,zrI b.p),(1,0,zrI b.w),(2,0,qaq s)] (.pv (.tuple #[.bool false,iV e2])) 0 []:=
 Fz [] [Cf h1 [0,1],Cf h2 [2],Rf h3,.k,.k,.k,.k,.k,.t true,.t true]
  tI (Co h1 [0,1] 6 (Co h2 [2] 6 (Ai h3 (Ai he (Ai he tI)))))
abbrev qiw (s:List Pt):Prop:=Fn 35 1 [qaF 0 s] [(0,0,qaq s)] (.pv (iV (0))) 0 []
theorem qqQ {b:Br} {s:List Pt} {tn td e3:Int} (h1:Fn 16 2 [brS 0 1 b] [(0,0,zrI b.p),(1,0,zrI b.w)] (.pv (iV (0))) 0 []) (h2:qiw s) (h3:qnH e3 td tn) (he:(e3 !=0)=true) :
 Fn 15 3 [brS 0 1 b,qaF 2 s,.pv (qac tn td)] [(0,0,zrI b.p),(1,0,zrI b.w),(2,0,qaq s)] (.pv (.tuple #[.bool false,iV e3])) 0 []:=
 Fz [] [Cf h1 [0,1],Cf h2 [2],Rf h3,.k,.k,.k,.k,.k,.k,.k,.k,.t true,.t true]
  tI (Co h1 [0,1] 6 (Co h2 [2] 6 (Ai h3 (Ai he (Ai he tI)))))
abbrev qnO (s:List Pt):Prop:=Fn 38 1 [qaF 0 s] [(0,0,qaq s)] (.mp 1) 1 [(1,0,.mrow (byV s))]
abbrev qlG (td:Int) (tn:Int):Prop:=Pure Try.prog 36 #[qac tn td] (iV (0))
theorem qmP {b:Br} {s:List Pt} {tn td e4:Int} (h1:Fn 16 2 [brS 0 1 b] [(0,0,zrI b.p),(1,0,zrI b.w)] (.pv (iV (0))) 0 []) (h2:qiw s) (h3:qlG td tn) (hb:qnO s) (hi:Fn 39 2 [.mp 1,.ls 0 b.p.length] [(0,0,.row 3 1 b.p.length (ziV b.p)),(1,0,.mrow (byV s))] (.pv (iV (e4))) 0 []) (he4:(e4 !=0)=true) :
 Fn 15 3 [brS 0 1 b,qaF 2 s,.pv (qac tn td)] [(0,0,zrI b.p),(1,0,zrI b.w),(2,0,qaq s)] (.pv (.tuple #[.bool false,iV e4])) 0 []:=
 Fz [] [Cf h1 [0,1],Cf h2 [2],Rf h3,.k,.k,.k,.k,.k,.k,.k,.k,.k,.k,.k,.k,Cf hb [2],Cf hi [0,7],.t true]
  tI (Co h1 [0,1] 6 (Co h2 [2] 6 (Ai h3 (Co hb [2] 7 (Co hi [0,7] 8 (Ai he4 tI))))))
theorem qol {b:Br} {m:List Int} {s:List Pt} {n:Nat} {tn td:Int} {w:Bool} (h1:Fn 16 2 [brS 0 1 b] [(0,0,zrI b.p),(1,0,zrI b.w)] (.pv (iV (0))) 0 []) (h2:qiw s) (h3:qlG td tn) (hb:qnO s) (hi:Fn 39 2 [.mp 1,.ls 0 b.p.length] [(0,0,.row 3 1 b.p.length (ziV b.p)),(1,0,.mrow (byV s))] (.pv (iV (0))) 0 []) (hf:Fn 41 4 [.ls 0 b.p.length,.pc 68 [.pp 2 0,.pp 3 0]] [(0,0,zrI b.p),(1,0,.mrow (byV s)),(2,0,.mp 1),(3,0,.pv (iV tn)),(3,1,.pv (iV td))] (.ls 4 n) 1 [(4,0,.row 3 1 n (ziV m))]) (hq:Fn 48 2 [.ls 0 b.w.length,.ls 1 n] [(0,0,zrI b.w),(1,0,.row 3 1 n (ziV m))] (.pv (.bool w)) 0 []) :
 Fn 15 3 [brS 0 1 b,qaF 2 s,.pv (qac tn td)] [(0,0,zrI b.p),(1,0,zrI b.w),(2,0,qaq s)] (.pv (.tuple #[.bool w,iV 0])) 0 []:=
 Fz [] [Cf h1 [0,1],Cf h2 [2],Rf h3,.k,.k,.k,.k,.k,.k,.k,.k,.k,.k,.k,.k,Cf hb [2],Cf hi [0,7],.k,.md,.k,Cf hf [0,7,8,9],Cf hq [1,10]]
  tI (Co h1 [0,1] 6 (Co h2 [2] 6 (Ai h3 (Co hb [2] 7 (Co hi [0,7] 8 (Co hf [0,7,8,9] 10 (Co hq [1,10] 11 tI)))))))
abbrev qp4 (e3:Int) (l:List Int):Prop:=Fn 37 1 [.ls 0 l.length] [(0,0,zrI l)] (.pv (iV (e3))) 0 []
theorem qog {l:List Int} {s:List Pt} {tn td e1 e2 e3:Int} (h2:Fn 35 1 [qaF 0 s] [(0,0,qaq s)] (.pv (iV (e1))) 0 []) (h3:Pure Try.prog 36 #[qac tn td] (iV (e2))) (h4:qp4 e3 l) (he:(e1 !=0)=true) :
 Fn 9 2 [qaF 0 s,.pv (qac tn td),.ls 1 l.length] [(0,0,qaq s),(1,0,zrI l)] (.pv (.tuple #[.agg #[.slice none 0 0,.slice none 0 0],iV e1])) 0 []:=
 Fz [] [Cf h2 [0],Rf h3,Cf h4 [1],.k,.k,.t true,.t true]
  tI (Co h2 [0] 5 (Ai h3 (Co h4 [1] 5 (Ai he (Ai he tI)))))
theorem qpc {l:List Int} {s:List Pt} {tn td e2 e3:Int} (h2:qiw s) (h3:Pure Try.prog 36 #[qac tn td] (iV (e2))) (h4:qp4 e3 l) (he:(e2 !=0)=true) :
 Fn 9 2 [qaF 0 s,.pv (qac tn td),.ls 1 l.length] [(0,0,qaq s),(1,0,zrI l)] (.pv (.tuple #[.agg #[.slice none 0 0,.slice none 0 0],iV e2])) 0 []:=
 Fz [] [Cf h2 [0],Rf h3,Cf h4 [1],.k,.k,.k,.k,.k,.t true,.t true]
  tI (Co h2 [0] 5 (Ai h3 (Co h4 [1] 5 (Ai he (Ai he tI)))))
theorem qn1 {l:List Int} {s:List Pt} {tn td e3:Int} (h2:qiw s) (h3:qlG td tn) (h4:qp4 e3 l) (he:(e3 !=0)=true) :
 Fn 9 2 [qaF 0 s,.pv (qac tn td),.ls 1 l.length] [(0,0,qaq s),(1,0,zrI l)] (.pv (.tuple #[.agg #[.slice none 0 0,.slice none 0 0],iV e3])) 0 []:=
 Fz [] [Cf h2 [0],Rf h3,Cf h4 [1],.k,.k,.k,.k,.k,.k,.k,.k,.t true,.t true]
  tI (Co h2 [0] 5 (Ai h3 (Co h4 [1] 5 (Ai he (Ai he tI)))))
theorem qjq {l:List Int} {s:List Pt} {tn td e4:Int} (h2:qiw s) (h3:qlG td tn) (h4:Fn 37 1 [.ls 0 l.length] [(0,0,zrI l)] (.pv (iV (0))) 0 []) (hb:qnO s) (hi:Fn 39 2 [.mp 1,.ls 0 l.length] [(0,0,.row 3 1 l.length (ziV l)),(1,0,.mrow (byV s))] (.pv (iV (e4))) 0 []) (he4:(e4 !=0)=true) :
 Fn 9 2 [qaF 0 s,.pv (qac tn td),.ls 1 l.length] [(0,0,qaq s),(1,0,zrI l)] (.pv (.tuple #[.agg #[.slice none 0 0,.slice none 0 0],iV e4])) 0 []:=
 Fz [] [Cf h2 [0],Rf h3,Cf h4 [1],.k,.k,.k,.k,.k,.k,.k,.k,.k,.k,.k,.k,Cf hb [0],Cf hi [1,6],.t true]
  tI (Co h2 [0] 5 (Ai h3 (Co h4 [1] 5 (Co hb [0] 6 (Co hi [1,6] 7 (Ai he4 tI))))))
theorem qpu {l m:List Int} {s:List Pt} {n:Nat} {tn td:Int} (h2:qiw s) (h3:qlG td tn) (h4:Fn 37 1 [.ls 0 l.length] [(0,0,zrI l)] (.pv (iV (0))) 0 []) (hb:qnO s) (hi:Fn 39 2 [.mp 1,.ls 0 l.length] [(0,0,.row 3 1 l.length (ziV l)),(1,0,.mrow (byV s))] (.pv (iV (0))) 0 []) (hcl:Fn 40 1 [.ls 0 l.length] [(0,0,zrI l)] (.ls 1 l.length) 1 [(1,0,zrI l)]) (hf:Fn 41 4 [.ls 0 l.length,.pc 68 [.pp 2 0,.pp 3 0]] [(0,0,zrI l),(1,0,.mrow (byV s)),(2,0,.mp 1),(3,0,.pv (iV tn)),(3,1,.pv (iV td))] (.ls 4 n) 1 [(4,0,.row 3 1 n (ziV m))]) :
 Fn 9 2 [qaF 0 s,.pv (qac tn td),.ls 1 l.length] [(0,0,qaq s),(1,0,zrI l)] (.tu [.ag [.ls 2 l.length,.ls 3 n],.one (.pv (iV 0))]) 2 [(2,0,zrI l),(3,0,.row 3 1 n (ziV m))]:=
 Fz [(2,7),(3,10)] [Cf h2 [0],Rf h3,Cf h4 [1],.k,.k,.k,.k,.k,.k,.k,.k,.k,.k,.k,.k,Cf hb [0],Cf hi [1,6],.k,.md,Cf hcl [1],.k,Cf hf [1,6,8,9]]
  (qcv (qaV [(2,7),(3,10)]) [(2,0,zrI l),(3,0,.row 3 1 n (ziV m))]) (Co h2 [0] 5 (Ai h3 (Co h4 [1] 5 (Co hb [0] 6 (Co hi [1,6] 7 (Co hcl [1] 7 (Co hf [1,6,8,9] 10 tI)))))))
theorem qoC {b:Br} {s:List Pt} {tn td e1 e2 e3 e4 pz id:Int} (h1:Fn 16 2 [brS 0 1 b] [(0,0,zrI b.p),(1,0,zrI b.w)] (.pv (iV (e1))) 0 []) (h2:qpO e2 s) (h3:qnH e3 td tn) (h4:Fn 44 2 [brS 0 1 b,.pv (iV (pz))] [(0,0,zrI b.p),(1,0,zrI b.w)] (.pv (iV (e4))) 0 []) (he:(e1 !=0)=true) :
 Fn 14 3 [brS 0 1 b,qaF 2 s,.pv (qac tn td),.pv (iV (pz)),.pv (iV (id))] [(0,0,zrI b.p),(1,0,zrI b.w),(2,0,qaq s)] (.pv (.tuple #[.agg #[.slice none 0 0,.slice none 0 0],.slice none 0 0,iV e1])) 0 []:=
 Fz [] [Cf h1 [0,1],Cf h2 [2],Rf h3,Cf h4 [0,1],.k,.k,.t true,.t true]
  tI (Co h1 [0,1] 7 (Co h2 [2] 7 (Ai h3 (Co h4 [0,1] 7 (Ai he (Ai he tI))))))
theorem qo8 {b:Br} {s:List Pt} {tn td e2 e3 e4 pz id:Int} (h1:Fn 16 2 [brS 0 1 b] [(0,0,zrI b.p),(1,0,zrI b.w)] (.pv (iV (0))) 0 []) (h2:qpO e2 s) (h3:qnH e3 td tn) (h4:Fn 44 2 [brS 0 1 b,.pv (iV (pz))] [(0,0,zrI b.p),(1,0,zrI b.w)] (.pv (iV (e4))) 0 []) (he:(e2 !=0)=true) :
 Fn 14 3 [brS 0 1 b,qaF 2 s,.pv (qac tn td),.pv (iV (pz)),.pv (iV (id))] [(0,0,zrI b.p),(1,0,zrI b.w),(2,0,qaq s)] (.pv (.tuple #[.agg #[.slice none 0 0,.slice none 0 0],.slice none 0 0,iV e2])) 0 []:=
 Fz [] [Cf h1 [0,1],Cf h2 [2],Rf h3,Cf h4 [0,1],.k,.k,.k,.k,.k,.t true,.t true]
  tI (Co h1 [0,1] 7 (Co h2 [2] 7 (Ai h3 (Co h4 [0,1] 7 (Ai he (Ai he tI))))))
theorem qoJ {b:Br} {s:List Pt} {tn td e3 e4 pz id:Int} (h1:Fn 16 2 [brS 0 1 b] [(0,0,zrI b.p),(1,0,zrI b.w)] (.pv (iV (0))) 0 []) (h2:qiw s) (h3:qnH e3 td tn) (h4:Fn 44 2 [brS 0 1 b,.pv (iV (pz))] [(0,0,zrI b.p),(1,0,zrI b.w)] (.pv (iV (e4))) 0 []) (he:(e3 !=0)=true) :
 Fn 14 3 [brS 0 1 b,qaF 2 s,.pv (qac tn td),.pv (iV (pz)),.pv (iV (id))] [(0,0,zrI b.p),(1,0,zrI b.w),(2,0,qaq s)] (.pv (.tuple #[.agg #[.slice none 0 0,.slice none 0 0],.slice none 0 0,iV e3])) 0 []:=
 Fz [] [Cf h1 [0,1],Cf h2 [2],Rf h3,Cf h4 [0,1],.k,.k,.k,.k,.k,.k,.k,.k,.t true,.t true]
  tI (Co h1 [0,1] 7 (Co h2 [2] 7 (Ai h3 (Co h4 [0,1] 7 (Ai he (Ai he tI))))))
theorem qoZ {b:Br} {s:List Pt} {tn td e4 pz id:Int} (h1:Fn 16 2 [brS 0 1 b] [(0,0,zrI b.p),(1,0,zrI b.w)] (.pv (iV (0))) 0 []) (h2:qiw s) (h3:qlG td tn) (h4:Fn 44 2 [brS 0 1 b,.pv (iV (pz))] [(0,0,zrI b.p),(1,0,zrI b.w)] (.pv (iV (e4))) 0 []) (he:(e4 !=0)=true) :
 Fn 14 3 [brS 0 1 b,qaF 2 s,.pv (qac tn td),.pv (iV (pz)),.pv (iV (id))] [(0,0,zrI b.p),(1,0,zrI b.w),(2,0,qaq s)] (.pv (.tuple #[.agg #[.slice none 0 0,.slice none 0 0],.slice none 0 0,iV e4])) 0 []:=
 Fz [] [Cf h1 [0,1],Cf h2 [2],Rf h3,Cf h4 [0,1],.k,.k,.k,.k,.k,.k,.k,.k,.k,.k,.k,.t true,.t true]
  tI (Co h1 [0,1] 7 (Co h2 [2] 7 (Ai h3 (Co h4 [0,1] 7 (Ai he (Ai he tI))))))
theorem qjc {b:Br} {s:List Pt} {tn td e pz id:Int} (h1:Fn 16 2 [brS 0 1 b] [(0,0,zrI b.p),(1,0,zrI b.w)] (.pv (iV (0))) 0 []) (h2:qiw s) (h3:qlG td tn) (h4:Fn 44 2 [brS 0 1 b,.pv (iV (pz))] [(0,0,zrI b.p),(1,0,zrI b.w)] (.pv (iV (0))) 0 []) (hc1:Fn 40 1 [.ls 0 b.p.length] [(0,0,zrI b.p)] (.ls 1 b.p.length) 1 [(1,0,zrI b.p)]) (hc2:Fn 40 1 [.ls 0 b.w.length] [(0,0,zrI b.w)] (.ls 1 b.w.length) 1 [(1,0,zrI b.w)]) (hix:0≤pz∧pz<(b.p.length:Int)) (hg:pz.toNat<b.p.length) (hb:qnO s) (hi:Fn 39 2 [.mp 1,.ls 0 b.p.length] [(0,0,.row 3 1 b.p.length (ziV (b.p.set pz.toNat id))),(1,0,.mrow (byV s))] (.pv (iV (e))) 0 []) (hee:(e !=0)=true) :
 Fn 14 3 [brS 0 1 b,qaF 2 s,.pv (qac tn td),.pv (iV (pz)),.pv (iV (id))] [(0,0,zrI b.p),(1,0,zrI b.w),(2,0,qaq s)] (.pv (.tuple #[.agg #[.slice none 0 0,.slice none 0 0],.slice none 0 0,iV e])) 0 []:=
 Fz [] [Cf h1 [0,1],Cf h2 [2],Rf h3,Cf h4 [0,1],.k,.k,.k,.k,.k,.k,.k,.k,.k,.k,.k,.k,.k,.k,.k,.md,Cf hc1 [0],Cf hc2 [1],.w (ziV (b.p.set pz.toNat id)),Cf hb [2],Cf hi [8,11],.t true]
  tI (Co h1 [0,1] 7 (Co h2 [2] 7 (Ai h3 (Co h4 [0,1] 7 (Co hc1 [0] 8 (Co hc2 [1] 9 (Ai hix (Ai (qpE b.p pz.toNat id hg) (Ai (qg6 b.p pz.toNat hg) (Co hb [2] 11 (Co hi [8,11] 12 (Ai hee tI))))))))))))
theorem qob {b:Br} {l m:List Int} {s:List Pt} {n:Nat} {tn td pz id:Int} (h1:Fn 16 2 [brS 0 1 b] [(0,0,zrI b.p),(1,0,zrI b.w)] (.pv (iV (0))) 0 []) (h2:qiw s) (h3:qlG td tn) (h4:Fn 44 2 [brS 0 1 b,.pv (iV (pz))] [(0,0,zrI b.p),(1,0,zrI b.w)] (.pv (iV (0))) 0 []) (hc1:Fn 40 1 [.ls 0 b.p.length] [(0,0,zrI b.p)] (.ls 1 b.p.length) 1 [(1,0,zrI b.p)]) (hc2:Fn 40 1 [.ls 0 b.w.length] [(0,0,zrI b.w)] (.ls 1 b.w.length) 1 [(1,0,zrI b.w)]) (hix:0≤pz∧pz<(b.p.length:Int)) (hg:pz.toNat<b.p.length) (hb:qnO s) (hi:Fn 39 2 [.mp 1,.ls 0 b.p.length] [(0,0,.row 3 1 b.p.length (ziV (b.p.set pz.toNat id))),(1,0,.mrow (byV s))] (.pv (iV (0))) 0 []) (hr:FnX Try.prog 47 5 [.ag [.ls 1 b.p.length,.ls 0 b.w.length],.pv (iV (pz)),.pc 68 [.pp 3 0,.pp 4 0]] [(0,0,zrI b.w),(1,0,.row 3 1 b.p.length (ziV (b.p.set pz.toNat id))),(2,0,.mrow (byV s)),(3,0,.mp 2),(4,0,.pv (iV tn)),(4,1,.pv (iV td))] 0 (⟨3,1,b.w.length,ziV b.w⟩) (ziV m) 3 1 n (ziV l)) :
 Fn 14 3 [brS 0 1 b,qaF 2 s,.pv (qac tn td),.pv (iV (pz)),.pv (iV (id))] [(0,0,zrI b.p),(1,0,zrI b.w),(2,0,qaq s)] (.tu [.ag [.ls 3 b.p.length,.ls 4 b.w.length],.one (.ls 5 n),.one (.pv (iV 0))]) 3 [(3,0,.row 3 1 b.p.length (ziV (b.p.set pz.toNat id))),(4,0,.row 3 1 b.w.length (ziV m)),(5,0,.row 3 1 n (ziV l))]:=
 Fz [(3,8),(4,9),(5,14)] [Cf h1 [0,1],Cf h2 [2],Rf h3,Cf h4 [0,1],.k,.k,.k,.k,.k,.k,.k,.k,.k,.k,.k,.k,.k,.k,.k,.md,Cf hc1 [0],Cf hc2 [1],.w (ziV (b.p.set pz.toNat id)),Cf hb [2],Cf hi [8,11],.k,.gh [(10,0),(10,1),(5,0),(5,1)],.k,.mx [9,8,11,12,13] [.ag [.ls 1 b.p.length,.ls 0 b.w.length],.pv (iV (pz)),.pc 68 [.pp 3 0,.pp 4 0]] [(0,0,zrI b.w),(1,0,.row 3 1 b.p.length (ziV (b.p.set pz.toNat id))),(2,0,.mrow (byV s)),(3,0,.mp 2),(4,0,.pv (iV tn)),(4,1,.pv (iV td))] 0 (ziV m) 3 1 n (ziV l)]
  (qcv (qaV [(3,8),(4,9),(5,14)]) [(3,0,.row 3 1 b.p.length (ziV (b.p.set pz.toNat id))),(4,0,.row 3 1 b.w.length (ziV m)),(5,0,.row 3 1 n (ziV l))]) (Co h1 [0,1] 7 (Co h2 [2] 7 (Ai h3 (Co h4 [0,1] 7 (Co hc1 [0] 8 (Co hc2 [1] 9 (Ai hix (Ai (qpE b.p pz.toNat id hg) (Ai (qg6 b.p pz.toNat hg) (Co hb [2] 11 (Co hi [8,11] 12 (Ai (Er (SV.ls 8 b.p.length)) (Ai (Er (SV.ls 9 b.w.length)) (Ai (Er (SV.pv (iV tn))) (Ai (Er (SV.pv (iV td))) (Ai (Er (SV.ls 8 b.p.length)) (Ai (Er (SV.ls 9 b.w.length)) (Ai (Er (SV.pv (iV tn))) (Ai (Er (SV.pv (iV td))) (Ai hr (Ai (Eq.refl (List.map (SV.ren (qaU [9,8,11,12,13] 14)) [.ag [.ls 1 b.p.length,.ls 0 b.w.length],.pv (iV (pz)),.pc 68 [.pp 3 0,.pp 4 0]])) (Ai (qcv (qaU [9,8,11,12,13] 14) [(0,0,zrI b.w),(1,0,.row 3 1 b.p.length (ziV (b.p.set pz.toNat id))),(2,0,.mrow (byV s)),(3,0,.mp 2),(4,0,.pv (iV tn)),(4,1,.pv (iV td))]) (Ai (Er (SV.ls 8 b.p.length)) (Ai (Er (SV.ls 9 b.w.length)) (Ai (Er (SV.pv (iV tn))) (Ai (Er (SV.pv (iV td))) (Ai (Er (SV.ls 8 b.p.length)) (Ai (Er (SV.ls 9 b.w.length)) (Ai (Er (SV.pv (iV tn))) (Ai (Er (SV.pv (iV td))) (Ai (Er (SV.ls 8 b.p.length)) (Ai (Er (SV.ls 9 b.w.length)) (Ai (Er (SV.pv (iV tn))) (Ai (Er (SV.pv (iV td))) (Ai (Er (SV.ls 8 b.p.length)) (Ai (Er (SV.ls 9 b.w.length)) (Ai (Er (SV.pv (iV tn))) (Ai (Er (SV.pv (iV td))) tI))))))))))))))))))))))))))))))))))))))
end Go.Proofs.Ytgbmdijodlfcaaa
