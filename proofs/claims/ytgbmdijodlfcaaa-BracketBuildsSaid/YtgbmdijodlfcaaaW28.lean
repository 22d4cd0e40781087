/-
  Joined: Nc, Nd, Qa, Qb. Conditions: none.
-/
import Derived.Test.YtgbmdijodlfcaaaW27
import Derived.Test.YtgbmdijodlfcaaaW21
import Derived.Test.YtgbmdijodlfcaaaW24
namespace Go.Proofs.Ytgbmdijodlfcaaa
set_option maxRecDepth 100000
open Go.RowKit
def qqY (s:List Pt) (p:List Int):List Pt:=s.filter fun q=>decide (q.id∈p)
theorem qll {s:List Pt} {p:List Int} {q:Pt}:q∈qqY s p↔q∈s∧q.id∈p:=by
 unfold qqY
 rw[List.mem_filter,decide_eq_true_iff]
section
variable {s t:List Pt} {tn td:Int} {b:Br}
theorem RtB.none (h:RtB s tn td b) (hw:b.w.length+1=b.p.length) (hk:KnB s b.p) (he:qqY s b.p=[]):b.nd 0 = -1:=by
 have hr:=h.mem hw (i:=0) (by omega)
 by_cases e:b.nd 0 = -1
 ·exact e
 ·obtain⟨q,hq,eq⟩:=hk _ hr e
  have:q∈qqY s b.p:=qll.2 ⟨hq,by rw[eq];exact hr⟩
  rw[he] at this
  cases this
end
end Go.Proofs.Ytgbmdijodlfcaaa

namespace Go.Proofs.Ytgbmdijodlfcaaa
set_option maxRecDepth 100000
open Go.RowKit
open Classical in
noncomputable def erB (b:Br):Int:=if VB b then 0 else 8
open Classical in
noncomputable def buE (s:List Pt) (tn td:Int) (p:List Int):Int:=if tE s tn td=0 then (if 1≤p.length∧p.length≤64 then (if KnB s p then (if OneB p then 0 else 14) else 6) else 2) else tE s tn td
open Classical in
noncomputable def wiE (b:Br):Int:=if VB b then (if b.nd 0<0 then 42 else 0) else 8
open Classical in
noncomputable def paE (b:Br) (j:Int):Int:=if VB b then (if 0≤j∧j<b.p.length then 0 else 2) else 8
open Classical in
noncomputable def riE (b:Br) (s:List Pt) (tn td:Int):Int:=if VB b then (if tE s tn td=0 then (if KnB s b.p then 0 else 6) else tE s tn td) else 8
theorem qcI {s:List Pt} {tn td:Int} (h:tE s tn td=0):Val s∧okB tn td=true:=by
 unfold tE at h
 split at h
 ·rename_i h0
  split at h
  ·rename_i h1;exact⟨qjH.1 h0,h1⟩
  ·cases h
 ·rename_i h0;exact (h0 h).elim
theorem qrm {s:List Pt} {tn td:Int} {p:List Int} (h:buE s tn td p=0):Val s∧okB tn td=true∧1≤p.length∧p.length≤64∧KnB s p∧OneB p:=by
 unfold buE at h
 split at h
 ·rename_i h0
  obtain⟨v,t⟩:=qcI h0
  split at h
  ·rename_i h1
   split at h
   ·rename_i h2
    split at h
    ·rename_i h3;exact⟨v,t,h1.1,h1.2,h2,h3⟩
    ·cases h
   ·cases h
  ·cases h
 ·rename_i h0;exact (h0 h).elim
end Go.Proofs.Ytgbmdijodlfcaaa

namespace Go.Proofs.Ytgbmdijodlfcaaa
set_option maxRecDepth 100000
open Go.RowKit
abbrev brS (i j:Nat) (b:Br):SV:=.ag [.ls i b.p.length,.ls j b.w.length]
abbrev qoZ (i j:Nat) (b:Br):S1:=.ag [.ls i b.p.length,.ls j b.w.length]
def qoJ (m:List Int):List (Value×Value):=m.map fun x=>(iV x,.bool true)
abbrev qc7 (m:List Int):List Value:=kvL (qoJ m)
theorem qgG (n:Nat):some (SV.row 3 1 n (qc6 [iV 0] n))=some (SV.row 3 1 n (ziV (List.replicate n 0))):=by rw[qmm]
theorem qpf {l:List Int} (h1:decide ((l.length:Int)<1)=true) :
 Fn 37 1 [.ls 0 l.length] [(0,0,zrI l)] (.pv (iV (2))) 0 []:=
 Fz [] [.t true]
  tI (Ai h1 tI)
theorem qpK {l:List Int} (h1:decide ((l.length:Int)<1)=false) (h2:decide ((l.length:Int)>64)=true) :
 Fn 37 1 [.ls 0 l.length] [(0,0,zrI l)] (.pv (iV (2))) 0 []:=
 Fz [] [.t false,.t true]
  tI (Ai h1 (Ai h2 tI))
theorem qqA {l:List Int} (h1:decide ((l.length:Int)<1)=false) (h2:decide ((l.length:Int)>64)=false) :
 Fn 37 1 [.ls 0 l.length] [(0,0,zrI l)] (.pv (iV (0))) 0 []:=
 Fz [] [.t false,.t false]
  tI (Ai h1 (Ai h2 tI))
theorem qqp {b:Br} {x:Int} (h1:decide (x<0)=true) :
 Fn 44 2 [brS 0 1 b,.pv (iV (x))] [(0,0,zrI b.p),(1,0,zrI b.w)] (.pv (iV (2))) 0 []:=
 Fz [] [.t true]
  tI (Ai h1 tI)
theorem qqJ {b:Br} {x:Int} (h1:decide (x<0)=false) (h2:decide (x≥(b.p.length:Int))=true) :
 Fn 44 2 [brS 0 1 b,.pv (iV (x))] [(0,0,zrI b.p),(1,0,zrI b.w)] (.pv (iV (2))) 0 []:=
 Fz [] [.t false,.t true]
  tI (Ai h1 (Ai h2 tI))
theorem qoT {b:Br} {x:Int} (h1:decide (x<0)=false) (h2:decide (x≥(b.p.length:Int))=false) :
 Fn 44 2 [brS 0 1 b,.pv (iV (x))] [(0,0,zrI b.p),(1,0,zrI b.w)] (.pv (iV (0))) 0 []:=
 Fz [] [.t false,.t false]
  tI (Ai h1 (Ai h2 tI))
theorem qle {l s:List Pt} {k:Nat} {p:Pt} (hk:l[k]?=some p) (hin:0≤(k:Int)∧(k:Int)<(l.length:Int)) (hlt:decide ((k:Int)<(l.length:Int))=true) (hP:qdI Try.prog 77 (byV s) (iV p.id) (ptV p) (byV (s++[p]))) (hs:iV (IntKind.i64.wrap ((k:Int)+1))=iV (((k+1:Nat):Int))) {e:Exit} {tm2:TmL} {hp2:HpL}
 (r:Rl 1 1 38 0 23 3 ([(3,.mp 2),(11,.ls 0 l.length),(12,.pv (iV (l.length:Int))),(13,.pv (iV ((k+1:Nat):Int)))]) ([(2,0,.mrow (byV (s++[p]))),(0,0,qai l)]) e tm2 hp2):Rl 1 1 38 0 23 3 ([(3,.mp 2),(11,.ls 0 l.length),(12,.pv (iV (l.length:Int))),(13,.pv (iV (k:Int)))]) ([(2,0,.mrow (byV (s))),(0,0,qai l)]) e tm2 hp2:=
 RunsL.next [] 300 [.t true,.r (ptV p),.w (byV (s++[p])),Re hs]
  (Ro (Ai hlt (Ai hin (Ai (qeq hk) (Ai hP (Ai hs tI)))))) r
theorem qmB {l s:List Pt} {k:Nat} (hge:decide ((k:Int)<(l.length:Int))=false):Rl 1 1 38 0 23 3 ([(3,.mp 2),(11,.ls 0 l.length),(12,.pv (iV (l.length:Int))),(13,.pv (iV (k:Int)))]) ([(2,0,.mrow (byV (s))),(0,0,qai l)]) (.exit 0) ([(3,.mp 2)]) ([(2,0,.mrow (byV (s))),(0,0,qai l)]):=
 RunsL.stop [] 300 [.t false] (fun h=>by cases h)
  (Ro (Ai hge tI))
theorem qkp {l s:List Pt} (r0:Rl 1 1 38 0 23 3 ([(3,.mp 2),(11,.ls 0 l.length),(12,.pv (iV (l.length:Int))),(13,.pv (iV ((0:Nat):Int)))]) ([(2,0,.mrow (byV ([]))),(0,0,qai l)]) (.exit 0) ([(3,.mp 2)]) ([(2,0,.mrow (byV (s))),(0,0,qai l)])) :
 Fn 38 1 [qaw 0 l] [(0,0,qai l)] (.mp 1) 1 [(1,0,.mrow (byV s))]:=
 Fz [(1,2)] [Lf r0]
  (qco (qaT [(1,2)]) [(1,0,.mrow (byV s))]) (Lo r0 [] tI)
abbrev qfs (l:List Int) (s:List Pt):HpL:=[(0,0,zrI l),(1,0,.mrow (byV s)),(2,0,.mp 1)]
abbrev qqV (k:Nat) (l:List Int):TmL:=[(0,.ls 0 l.length),(1,.pc 80 [.pp 2 0]),(7,.pv (iV (l.length:Int))),(8,.pv (iV (k:Int)))]
theorem qks {l:List Int} {s:List Pt} {k:Nat} {x:Int} (hk:l[k]?=some x) (hin:0≤(k:Int)∧(k:Int)<(l.length:Int)) (hlt:decide ((k:Int)<(l.length:Int))=true) (hA:qaR Try.prog 77 (byV s) (iV x) true (.tuple #[qaa 0 0 0,.bool false])) (hx:(x !=(-1))=false) (hs:iV (IntKind.i64.wrap ((k:Int)+1))=iV (((k+1:Nat):Int))) {e:Exit} {tm2:TmL} {hp2:HpL}
 (r:Rl 3 3 84 0 19 3 ([(0,.ls 0 l.length),(1,.pc 80 [.pp 2 0]),(7,.pv (iV (l.length:Int))),(8,.pv (iV ((k+1:Nat):Int)))]) (qfs l s) e tm2 hp2):Rl 3 3 84 0 19 3 (qqV k l) (qfs l s) e tm2 hp2:=
 RunsL.next [] 300 [.t true,.r (iV x),.k,.r (.tuple #[qaa 0 0 0,.bool false]),.t false,Re hs]
  (Ro (Ai hlt (Ai hin (Ai (qaX hk) (Ai hA (Ai hx (Ai hs tI))))))) r
theorem qjr {l:List Int} {s:List Pt} {q:Pt} {k:Nat} {x:Int} (hk:l[k]?=some x) (hin:0≤(k:Int)∧(k:Int)<(l.length:Int)) (hlt:decide ((k:Int)<(l.length:Int))=true) (hA:qaR Try.prog 77 (byV s) (iV x) true (.tuple #[ptV q,.bool true])) (hx:(x !=(-1))=true) (hs:iV (IntKind.i64.wrap ((k:Int)+1))=iV (((k+1:Nat):Int))) {e:Exit} {tm2:TmL} {hp2:HpL}
 (r:Rl 3 3 84 0 19 3 ([(0,.ls 0 l.length),(1,.pc 80 [.pp 2 0]),(7,.pv (iV (l.length:Int))),(8,.pv (iV ((k+1:Nat):Int)))]) (qfs l s) e tm2 hp2):Rl 3 3 84 0 19 3 (qqV k l) (qfs l s) e tm2 hp2:=
 RunsL.next [] 300 [.t true,.r (iV x),.k,.r (.tuple #[ptV q,.bool true]),.t true,.k,Re hs]
  (Ro (Ai hlt (Ai hin (Ai (qaX hk) (Ai hA (Ai hx (Ai hs tI))))))) r
theorem qlI {l:List Int} {s:List Pt} {k:Nat} {x:Int} (hk:l[k]?=some x) (hin:0≤(k:Int)∧(k:Int)<(l.length:Int)) (hlt:decide ((k:Int)<(l.length:Int))=true) (hA:qaR Try.prog 77 (byV s) (iV x) true (.tuple #[qaa 0 0 0,.bool false])) (hx:(x !=(-1))=true):Rl 3 3 84 0 19 3 (qqV k l) (qfs l s) (.ret) ([(4,.pv (iV (k:Int)))]) ([]):=
 RunsL.stop [] 300 [.t true,.r (iV x),.k,.r (.tuple #[qaa 0 0 0,.bool false]),.t true,.k] (fun h=>by cases h)
  (Ro (Ai hlt (Ai hin (Ai (qaX hk) (Ai hA (Ai hx tI))))))
theorem qmZ {l:List Int} {s:List Pt} {k:Nat} (hge:decide ((k:Int)<(l.length:Int))=false):Rl 3 3 84 0 19 3 (qqV k l) (qfs l s) (.exit 0) ([]) ([]):=
 RunsL.stop [] 300 [.t false] (fun h=>by cases h)
  (Ro (Ai hge tI))
theorem qqI {l:List Int} {s:List Pt} (r0:Rl 3 3 84 0 19 3 ([(0,.ls 0 l.length),(1,.pc 80 [.pp 2 0]),(7,.pv (iV (l.length:Int))),(8,.pv (iV ((0:Nat):Int)))]) (qfs l s) (.exit 0) ([]) ([])) :
 Fn 84 3 [.ls 0 l.length,.pc 80 [.pp 2 0]] (qfs l s) (.pv (iV (-1))) 0 []:=
 Fz [] [Lf r0]
  tI (Lo r0 [] tI)
theorem qnp {l:List Int} {s:List Pt} {k:Nat} (r0:Rl 3 3 84 0 19 3 ([(0,.ls 0 l.length),(1,.pc 80 [.pp 2 0]),(7,.pv (iV (l.length:Int))),(8,.pv (iV ((0:Nat):Int)))]) (qfs l s) (.ret) ([(4,.pv (iV (k:Int)))]) ([])) :
 Fn 84 3 [.ls 0 l.length,.pc 80 [.pp 2 0]] (qfs l s) (.pv (iV (k:Int))) 0 []:=
 Fz [] [Lf r0]
  tI (Lo r0 [] tI)
theorem qo0 {l:List Int} {s:List Pt} (hi:Fn 84 3 [.ls 0 l.length,.pc 80 [.pp 2 0]] (qfs l s) (.pv (iV (-1))) 0 []) :
 Fn 73 3 [.ls 0 l.length,.pc 80 [.pp 2 0]] (qfs l s) (.pv (.bool false)) 0 []:=
 Fz [] [Cf hi [0,1,2],.k]
  tI (Co hi [0,1,2] 3 tI)
theorem qnb {l:List Int} {s:List Pt} {k:Nat} (hi:Fn 84 3 [.ls 0 l.length,.pc 80 [.pp 2 0]] (qfs l s) (.pv (iV (k:Int))) 0 []) (h0:decide ((k:Int)≥0)=true) :
 Fn 73 3 [.ls 0 l.length,.pc 80 [.pp 2 0]] (qfs l s) (.pv (.bool true)) 0 []:=
 Fz [] [Cf hi [0,1,2],.t true]
  tI (Co hi [0,1,2] 3 (Ai h0 tI))
theorem qqE {l:List Int} {s:List Pt} (ht:Fn 73 3 [.ls 0 l.length,.pc 80 [.pp 2 0]] (qfs l s) (.pv (.bool true)) 0 []) :
 Fn 65 2 [.mp 1,.ls 0 l.length] [(0,0,zrI l),(1,0,.mrow (byV s))] (.pv (.bool false)) 0 []:=
 Fz [] [Cf ht [0,1,2],.k]
  tI (Co ht [0,1,2] 4 tI)
theorem qmX {l:List Int} {s:List Pt} (ht:Fn 73 3 [.ls 0 l.length,.pc 80 [.pp 2 0]] (qfs l s) (.pv (.bool false)) 0 []) :
 Fn 65 2 [.mp 1,.ls 0 l.length] [(0,0,zrI l),(1,0,.mrow (byV s))] (.pv (.bool true)) 0 []:=
 Fz [] [Cf ht [0,1,2],.k]
  tI (Co ht [0,1,2] 4 tI)
abbrev qqS (k:Nat) (l:List Int):TmL:=[(0,.ls 0 l.length),(1,.pv (.func (.func 72) #[] #[])),(7,.pv (iV (l.length:Int))),(8,.pv (iV (k:Int)))]
theorem qlj {l:List Int} {k:Nat} {x:Int} (hk:l[k]?=some x) (hin:0≤(k:Int)∧(k:Int)<(l.length:Int)) (hlt:decide ((k:Int)<(l.length:Int))=true) (hlo:decide (x<(-1))=false) (hhi:decide (x>65535)=false) (hs:iV (IntKind.i64.wrap ((k:Int)+1))=iV (((k+1:Nat):Int))) {e:Exit} {tm2:TmL} {hp2:HpL}
 (r:Rl 1 1 84 0 19 1 ([(0,.ls 0 l.length),(1,.pv (.func (.func 72) #[] #[])),(7,.pv (iV (l.length:Int))),(8,.pv (iV ((k+1:Nat):Int)))]) ([(0,0,zrI l)]) e tm2 hp2):Rl 1 1 84 0 19 1 (qqS k l) ([(0,0,zrI l)]) e tm2 hp2:=
 RunsL.next [] 300 [.t true,.r (iV x),.k,.t false,.t false,Re hs]
  (Ro (Ai hlt (Ai hin (Ai (qaX hk) (Ai hlo (Ai hhi (Ai hs tI))))))) r
theorem qpG {l:List Int} {k:Nat} {x:Int} (hk:l[k]?=some x) (hin:0≤(k:Int)∧(k:Int)<(l.length:Int)) (hlt:decide ((k:Int)<(l.length:Int))=true) (hlo:decide (x<(-1))=true):Rl 1 1 84 0 19 1 (qqS k l) ([(0,0,zrI l)]) (.ret) ([(4,.pv (iV (k:Int)))]) ([]):=
 RunsL.stop [] 300 [.t true,.r (iV x),.k,.t true] (fun h=>by cases h)
  (Ro (Ai hlt (Ai hin (Ai (qaX hk) (Ai hlo tI)))))
theorem qqk {l:List Int} {k:Nat} {x:Int} (hk:l[k]?=some x) (hin:0≤(k:Int)∧(k:Int)<(l.length:Int)) (hlt:decide ((k:Int)<(l.length:Int))=true) (hlo:decide (x<(-1))=false) (hhi:decide (x>65535)=true):Rl 1 1 84 0 19 1 (qqS k l) ([(0,0,zrI l)]) (.ret) ([(4,.pv (iV (k:Int)))]) ([]):=
 RunsL.stop [] 300 [.t true,.r (iV x),.k,.t false,.t true] (fun h=>by cases h)
  (Ro (Ai hlt (Ai hin (Ai (qaX hk) (Ai hlo (Ai hhi tI))))))
theorem qnr {l:List Int} {k:Nat} (hge:decide ((k:Int)<(l.length:Int))=false):Rl 1 1 84 0 19 1 (qqS k l) ([(0,0,zrI l)]) (.exit 0) ([]) ([]):=
 RunsL.stop [] 300 [.t false] (fun h=>by cases h)
  (Ro (Ai hge tI))
abbrev qsD (l:List Int):TmL:=[(0,.ls 0 l.length),(1,.pv (.func (.func 72) #[] #[])),(7,.pv (iV (l.length:Int))),(8,.pv (iV ((0:Nat):Int)))]
theorem qpQ {l:List Int} (r0:Rl 1 1 84 0 19 1 (qsD l) ([(0,0,zrI l)]) (.exit 0) ([]) ([])) :
 Fn 84 1 [.ls 0 l.length,.pv (.func (.func 72) #[] #[])] [(0,0,zrI l)] (.pv (iV (-1))) 0 []:=
 Fz [] [Lf r0]
  tI (Lo r0 [] tI)
theorem qnS {l:List Int} {k:Nat} (r0:Rl 1 1 84 0 19 1 (qsD l) ([(0,0,zrI l)]) (.ret) ([(4,.pv (iV (k:Int)))]) ([])) :
 Fn 84 1 [.ls 0 l.length,.pv (.func (.func 72) #[] #[])] [(0,0,zrI l)] (.pv (iV (k:Int))) 0 []:=
 Fz [] [Lf r0]
  tI (Lo r0 [] tI)
theorem qqz {l:List Int} (hi:Fn 84 1 [.ls 0 l.length,.pv (.func (.func 72) #[] #[])] [(0,0,zrI l)] (.pv (iV (-1))) 0 []) :
 Fn 73 1 [.ls 0 l.length,.pv (.func (.func 72) #[] #[])] [(0,0,zrI l)] (.pv (.bool false)) 0 []:=
 Fz [] [Cf hi [0],.k]
  tI (Co hi [0] 1 tI)
theorem qoq {l:List Int} {k:Nat} (hi:Fn 84 1 [.ls 0 l.length,.pv (.func (.func 72) #[] #[])] [(0,0,zrI l)] (.pv (iV (k:Int))) 0 []) (h0:decide ((k:Int)≥0)=true) :
 Fn 73 1 [.ls 0 l.length,.pv (.func (.func 72) #[] #[])] [(0,0,zrI l)] (.pv (.bool true)) 0 []:=
 Fz [] [Cf hi [0],.t true]
  tI (Co hi [0] 1 (Ai h0 tI))
abbrev qq2 (k:Nat) (l:List Int):TmL:=[(3,.mp 1),(9,.ls 0 l.length),(10,.pv (iV (l.length:Int))),(11,.pv (iV (k:Int)))]
theorem qde {l m g:List Int} {k:Nat} {x:Int} (hk:l[k]?=some x) (hin:0≤(k:Int)∧(k:Int)<(l.length:Int)) (hlt:decide ((k:Int)<(l.length:Int))=true) (hx:(x !=(-1))=false) (hP:qdI Try.prog 118 (qc7 m) (iV x) (.bool true) (qc7 g)) (hs:iV (IntKind.i64.wrap ((k:Int)+1))=iV (((k+1:Nat):Int))) {e:Exit} {tm2:TmL} {hp2:HpL}
 (r:Rl 1 1 66 0 25 2 ([(3,.mp 1),(9,.ls 0 l.length),(10,.pv (iV (l.length:Int))),(11,.pv (iV ((k+1:Nat):Int)))]) ([(1,0,.mrow (qc7 g)),(0,0,zrI l)]) e tm2 hp2):Rl 1 1 66 0 25 2 (qq2 k l) ([(1,0,.mrow (qc7 m)),(0,0,zrI l)]) e tm2 hp2:=
 RunsL.next [] 300 [.t true,.r (iV x),.t false,.w (qc7 g),Re hs]
  (Ro (Ai hlt (Ai hin (Ai (qaX hk) (Ai hx (Ai hP (Ai hs tI))))))) r
theorem qgX {l m g:List Int} {k:Nat} {x:Int} (hk:l[k]?=some x) (hin:0≤(k:Int)∧(k:Int)<(l.length:Int)) (hlt:decide ((k:Int)<(l.length:Int))=true) (hx:(x !=(-1))=true) (hL:qaR Try.prog 118 (qc7 m) (iV x) false (.bool false)) (hP:qdI Try.prog 118 (qc7 m) (iV x) (.bool true) (qc7 g)) (hs:iV (IntKind.i64.wrap ((k:Int)+1))=iV (((k+1:Nat):Int))) {e:Exit} {tm2:TmL} {hp2:HpL}
 (r:Rl 1 1 66 0 25 2 ([(3,.mp 1),(9,.ls 0 l.length),(10,.pv (iV (l.length:Int))),(11,.pv (iV ((k+1:Nat):Int)))]) ([(1,0,.mrow (qc7 g)),(0,0,zrI l)]) e tm2 hp2):Rl 1 1 66 0 25 2 (qq2 k l) ([(1,0,.mrow (qc7 m)),(0,0,zrI l)]) e tm2 hp2:=
 RunsL.next [] 300 [.t true,.r (iV x),.t true,.r (.bool false),.w (qc7 g),Re hs]
  (Ro (Ai hlt (Ai hin (Ai (qaX hk) (Ai hx (Ai hL (Ai hP (Ai hs tI)))))))) r
theorem qmL {l m:List Int} {k:Nat} {x:Int} (hk:l[k]?=some x) (hin:0≤(k:Int)∧(k:Int)<(l.length:Int)) (hlt:decide ((k:Int)<(l.length:Int))=true) (hx:(x !=(-1))=true) (hL:qaR Try.prog 118 (qc7 m) (iV x) false (.bool true)):Rl 1 1 66 0 25 2 (qq2 k l) ([(1,0,.mrow (qc7 m)),(0,0,zrI l)]) (.ret) ([(2,.pv (.bool true))]) ([]):=
 RunsL.stop [] 300 [.t true,.r (iV x),.t true,.r (.bool true)] (fun h=>by cases h)
  (Ro (Ai hlt (Ai hin (Ai (qaX hk) (Ai hx (Ai hL tI))))))
theorem qnY {l m:List Int} {k:Nat} (hge:decide ((k:Int)<(l.length:Int))=false):Rl 1 1 66 0 25 2 (qq2 k l) ([(1,0,.mrow (qc7 m)),(0,0,zrI l)]) (.exit 0) ([]) ([]):=
 RunsL.stop [] 300 [.t false] (fun h=>by cases h)
  (Ro (Ai hge tI))
theorem qmP {l:List Int} (r0:Rl 1 1 66 0 25 2 ([(3,.mp 1),(9,.ls 0 l.length),(10,.pv (iV (l.length:Int))),(11,.pv (iV ((0:Nat):Int)))]) ([(1,0,.mrow (qc7 [])),(0,0,zrI l)]) (.ret) ([(2,.pv (.bool true))]) ([])) :
 Fn 66 1 [.ls 0 l.length] [(0,0,zrI l)] (.pv (.bool true)) 0 []:=
 Fz [] [Lf r0]
  tI (Lo r0 [] tI)
theorem qoY {l:List Int} (r0:Rl 1 1 66 0 25 2 ([(3,.mp 1),(9,.ls 0 l.length),(10,.pv (iV (l.length:Int))),(11,.pv (iV ((0:Nat):Int)))]) ([(1,0,.mrow (qc7 [])),(0,0,zrI l)]) (.exit 0) ([]) ([])) :
 Fn 66 1 [.ls 0 l.length] [(0,0,zrI l)] (.pv (.bool false)) 0 []:=
 Fz [] [Lf r0]
  tI (Lo r0 [] tI)
theorem qoV {l:List Int} {s:List Pt} (h1:Fn 65 2 [.mp 1,.ls 0 l.length] [(0,0,zrI l),(1,0,.mrow (byV s))] (.pv (.bool false)) 0 []) :
 Fn 39 2 [.mp 1,.ls 0 l.length] [(0,0,zrI l),(1,0,.mrow (byV s))] (.pv (iV (6))) 0 []:=
 Fz [] [Cf h1 [0,1],.k]
  tI (Co h1 [0,1] 2 tI)
theorem qny {l:List Int} {s:List Pt} (h1:Fn 65 2 [.mp 1,.ls 0 l.length] [(0,0,zrI l),(1,0,.mrow (byV s))] (.pv (.bool true)) 0 []) (h2:Fn 66 1 [.ls 0 l.length] [(0,0,zrI l)] (.pv (.bool true)) 0 []) :
 Fn 39 2 [.mp 1,.ls 0 l.length] [(0,0,zrI l),(1,0,.mrow (byV s))] (.pv (iV (14))) 0 []:=
 Fz [] [Cf h1 [0,1],.k,Cf h2 [0]]
  tI (Co h1 [0,1] 2 (Co h2 [0] 2 tI))
theorem qpV {l:List Int} {s:List Pt} (h1:Fn 65 2 [.mp 1,.ls 0 l.length] [(0,0,zrI l),(1,0,.mrow (byV s))] (.pv (.bool true)) 0 []) (h2:Fn 66 1 [.ls 0 l.length] [(0,0,zrI l)] (.pv (.bool false)) 0 []) :
 Fn 39 2 [.mp 1,.ls 0 l.length] [(0,0,zrI l),(1,0,.mrow (byV s))] (.pv (iV (0))) 0 []:=
 Fz [] [Cf h1 [0,1],.k,Cf h2 [0]]
  tI (Co h1 [0,1] 2 (Co h2 [0] 2 tI))
theorem qpk {l:List Int} (h1:Fn 73 1 [.ls 0 l.length,.pv (.func (.func 72) #[] #[])] [(0,0,zrI l)] (.pv (.bool true)) 0 []) :
 Fn 49 1 [.ls 0 l.length] [(0,0,zrI l)] (.pv (.bool false)) 0 []:=
 Fz [] [Cf h1 [0],.k]
  tI (Co h1 [0] 1 tI)
theorem qnJ {l:List Int} (h1:Fn 73 1 [.ls 0 l.length,.pv (.func (.func 72) #[] #[])] [(0,0,zrI l)] (.pv (.bool false)) 0 []) (h2:Fn 66 1 [.ls 0 l.length] [(0,0,zrI l)] (.pv (.bool true)) 0 []) :
 Fn 49 1 [.ls 0 l.length] [(0,0,zrI l)] (.pv (.bool false)) 0 []:=
 Fz [] [Cf h1 [0],.k,Cf h2 [0],.k]
  tI (Co h1 [0] 1 (Co h2 [0] 1 tI))
theorem qpb {l:List Int} (h1:Fn 73 1 [.ls 0 l.length,.pv (.func (.func 72) #[] #[])] [(0,0,zrI l)] (.pv (.bool false)) 0 []) (h2:Fn 66 1 [.ls 0 l.length] [(0,0,zrI l)] (.pv (.bool false)) 0 []) :
 Fn 49 1 [.ls 0 l.length] [(0,0,zrI l)] (.pv (.bool true)) 0 []:=
 Fz [] [Cf h1 [0],.k,Cf h2 [0],.k]
  tI (Co h1 [0] 1 (Co h2 [0] 1 tI))
abbrev qqa (j:Nat) (l:List Int) (m:List Int) (n:Nat):HpL:=[(0,0,.row 3 1 n (ziV m)),(1,0,.row 3 1 j (ziV l))]
theorem qo3 {l m:List Int} {j n:Nat} {x z:Int} (h1:decide (z<(n:Int))=true) (hin:0≤z∧z<(n:Int)) (hk:m[z.toNat]?=some x) :
 Fn 43 2 [.ls 0 n,.ls 1 j,.pv (iV (z))] (qqa j l m n) (.pv (iV (x))) 0 []:=
 Fz [] [.t true,.r (iV x)]
  tI (Ai h1 (Ai hin (Ai (qkU hk) tI)))
theorem qnq {l m:List Int} {j n:Nat} {x y z:Int} (h1:decide (z<(n:Int))=false) (hs:iV (IntKind.i64.wrap (z-(n:Int)))=iV (y)) (hin:0≤y∧y<(j:Int)) (hk:l[y.toNat]?=some x) :
 Fn 43 2 [.ls 0 n,.ls 1 j,.pv (iV (z))] (qqa j l m n) (.pv (iV (x))) 0 []:=
 Fz [] [.t false,Re hs,.r (iV x)]
  tI (Ai h1 (Ai hs (Ai hin (Ai (qkU hk) tI))))
theorem qch {l m:List Int} {j n:Nat} {x y z e e1 e2:Int} (hm:iV (IntKind.i64.wrap (2*z))=iV (e)) (ha:iV (IntKind.i64.wrap (e+1))=iV (e1)) (h1:Fn 43 2 [.ls 0 n,.ls 1 j,.pv (iV (e1))] (qqa j l m n) (.pv (iV (x))) 0 []) (hb:iV (IntKind.i64.wrap (e+2))=iV (e2)) (h2:Fn 43 2 [.ls 0 n,.ls 1 j,.pv (iV (e2))] (qqa j l m n) (.pv (iV (y))) 0 []) :
 Fn 67 2 [.ls 0 n,.ls 1 j,.pv (iV (z))] (qqa j l m n) (.pv (.tuple #[iV x,iV y])) 0 []:=
 Fz [] [Re hm,Re ha,Cf h1 [0,1],Re hm,Re hb,Cf h2 [0,1]]
  tI (Ai hm (Ai ha (Co h1 [0,1] 2 (Ai hm (Ai hb (Co h2 [0,1] 2 tI))))))
theorem qpS {b:Br} {k:Nat} {x y v:Int} (hk:b.w[k]?=some v) (hin:0≤(k:Int)∧(k:Int)<(b.w.length:Int)) (hlt:decide ((k:Int)<(b.w.length:Int))=true) (hc:Fn 67 2 [.ls 0 b.w.length,.ls 1 b.p.length,.pv (iV (k:Int))] [(0,0,zrI b.w),(1,0,zrI b.p)] (.pv (.tuple #[iV x,iV y])) 0 []) (hx:(v !=x)=false) (hn:(v==(-1))=false) (hs:iV (IntKind.i64.wrap ((k:Int)+1))=iV (((k+1:Nat):Int))) {e:Exit} {tm2:TmL} {hp2:HpL}
 (r:Rl 2 2 50 0 42 3 ([(1,.pp 2 0),(8,.ls 1 b.w.length),(9,.pv (iV (b.w.length:Int))),(10,.pv (iV ((k+1:Nat):Int)))]) ([(2,0,.ls 0 b.p.length),(2,1,.ls 1 b.w.length),(0,0,zrI b.p),(1,0,zrI b.w)]) e tm2 hp2):Rl 2 2 50 0 42 3 ([(1,.pp 2 0),(8,.ls 1 b.w.length),(9,.pv (iV (b.w.length:Int))),(10,.pv (iV (k:Int)))]) ([(2,0,.ls 0 b.p.length),(2,1,.ls 1 b.w.length),(0,0,zrI b.p),(1,0,zrI b.w)]) e tm2 hp2:=
 RunsL.next [] 300 [.t true,.r (iV v),Cf hc [1,0],.t false,.t false,Re hs]
  (Ro (Ai hlt (Ai hin (Ai (qaX hk) (Co hc [1,0] 3 (Ai hx (Ai hn (Ai hs tI)))))))) r
theorem qpX {b:Br} {k:Nat} {x y v:Int} (hk:b.w[k]?=some v) (hin:0≤(k:Int)∧(k:Int)<(b.w.length:Int)) (hlt:decide ((k:Int)<(b.w.length:Int))=true) (hc:Fn 67 2 [.ls 0 b.w.length,.ls 1 b.p.length,.pv (iV (k:Int))] [(0,0,zrI b.w),(1,0,zrI b.p)] (.pv (.tuple #[iV x,iV y])) 0 []) (hx:(v !=x)=false) (hn:(v==(-1))=true) (hxy:(x !=y)=false) (hs:iV (IntKind.i64.wrap ((k:Int)+1))=iV (((k+1:Nat):Int))) {e:Exit} {tm2:TmL} {hp2:HpL}
 (r:Rl 2 2 50 0 42 3 ([(1,.pp 2 0),(8,.ls 1 b.w.length),(9,.pv (iV (b.w.length:Int))),(10,.pv (iV ((k+1:Nat):Int)))]) ([(2,0,.ls 0 b.p.length),(2,1,.ls 1 b.w.length),(0,0,zrI b.p),(1,0,zrI b.w)]) e tm2 hp2):Rl 2 2 50 0 42 3 ([(1,.pp 2 0),(8,.ls 1 b.w.length),(9,.pv (iV (b.w.length:Int))),(10,.pv (iV (k:Int)))]) ([(2,0,.ls 0 b.p.length),(2,1,.ls 1 b.w.length),(0,0,zrI b.p),(1,0,zrI b.w)]) e tm2 hp2:=
 RunsL.next [] 300 [.t true,.r (iV v),Cf hc [1,0],.t false,.t true,.t false,Re hs]
  (Ro (Ai hlt (Ai hin (Ai (qaX hk) (Co hc [1,0] 3 (Ai hx (Ai hn (Ai hxy (Ai hs tI))))))))) r
theorem qqy {b:Br} {k:Nat} {x y v:Int} (hk:b.w[k]?=some v) (hin:0≤(k:Int)∧(k:Int)<(b.w.length:Int)) (hlt:decide ((k:Int)<(b.w.length:Int))=true) (hc:Fn 67 2 [.ls 0 b.w.length,.ls 1 b.p.length,.pv (iV (k:Int))] [(0,0,zrI b.w),(1,0,zrI b.p)] (.pv (.tuple #[iV x,iV y])) 0 []) (hx:(v !=x)=true) (hy:(v !=y)=false) (hn:(v==(-1))=false) (hs:iV (IntKind.i64.wrap ((k:Int)+1))=iV (((k+1:Nat):Int))) {e:Exit} {tm2:TmL} {hp2:HpL}
 (r:Rl 2 2 50 0 42 3 ([(1,.pp 2 0),(8,.ls 1 b.w.length),(9,.pv (iV (b.w.length:Int))),(10,.pv (iV ((k+1:Nat):Int)))]) ([(2,0,.ls 0 b.p.length),(2,1,.ls 1 b.w.length),(0,0,zrI b.p),(1,0,zrI b.w)]) e tm2 hp2):Rl 2 2 50 0 42 3 ([(1,.pp 2 0),(8,.ls 1 b.w.length),(9,.pv (iV (b.w.length:Int))),(10,.pv (iV (k:Int)))]) ([(2,0,.ls 0 b.p.length),(2,1,.ls 1 b.w.length),(0,0,zrI b.p),(1,0,zrI b.w)]) e tm2 hp2:=
 RunsL.next [] 300 [.t true,.r (iV v),Cf hc [1,0],.t true,.t false,.t false,Re hs]
  (Ro (Ai hlt (Ai hin (Ai (qaX hk) (Co hc [1,0] 3 (Ai hx (Ai hy (Ai hn (Ai hs tI))))))))) r
theorem qpj {b:Br} {k:Nat} {x y v:Int} (hk:b.w[k]?=some v) (hin:0≤(k:Int)∧(k:Int)<(b.w.length:Int)) (hlt:decide ((k:Int)<(b.w.length:Int))=true) (hc:Fn 67 2 [.ls 0 b.w.length,.ls 1 b.p.length,.pv (iV (k:Int))] [(0,0,zrI b.w),(1,0,zrI b.p)] (.pv (.tuple #[iV x,iV y])) 0 []) (hx:(v !=x)=true) (hy:(v !=y)=true):Rl 2 2 50 0 42 3 ([(1,.pp 2 0),(8,.ls 1 b.w.length),(9,.pv (iV (b.w.length:Int))),(10,.pv (iV (k:Int)))]) ([(2,0,.ls 0 b.p.length),(2,1,.ls 1 b.w.length),(0,0,zrI b.p),(1,0,zrI b.w)]) (.ret) ([(2,.pv (.bool false))]) ([]):=
 RunsL.stop [] 300 [.t true,.r (iV v),Cf hc [1,0],.t true,.t true] (fun h=>by cases h)
  (Ro (Ai hlt (Ai hin (Ai (qaX hk) (Co hc [1,0] 3 (Ai hx (Ai hy tI)))))))
theorem qo7 {b:Br} {k:Nat} {x y v:Int} (hk:b.w[k]?=some v) (hin:0≤(k:Int)∧(k:Int)<(b.w.length:Int)) (hlt:decide ((k:Int)<(b.w.length:Int))=true) (hc:Fn 67 2 [.ls 0 b.w.length,.ls 1 b.p.length,.pv (iV (k:Int))] [(0,0,zrI b.w),(1,0,zrI b.p)] (.pv (.tuple #[iV x,iV y])) 0 []) (hx:(v !=x)=false) (hn:(v==(-1))=true) (hxy:(x !=y)=true):Rl 2 2 50 0 42 3 ([(1,.pp 2 0),(8,.ls 1 b.w.length),(9,.pv (iV (b.w.length:Int))),(10,.pv (iV (k:Int)))]) ([(2,0,.ls 0 b.p.length),(2,1,.ls 1 b.w.length),(0,0,zrI b.p),(1,0,zrI b.w)]) (.ret) ([(2,.pv (.bool false))]) ([]):=
 RunsL.stop [] 300 [.t true,.r (iV v),Cf hc [1,0],.t false,.t true,.t true] (fun h=>by cases h)
  (Ro (Ai hlt (Ai hin (Ai (qaX hk) (Co hc [1,0] 3 (Ai hx (Ai hn (Ai hxy tI))))))))
theorem qpR {b:Br} {k:Nat} {x y v:Int} (hk:b.w[k]?=some v) (hin:0≤(k:Int)∧(k:Int)<(b.w.length:Int)) (hlt:decide ((k:Int)<(b.w.length:Int))=true) (hc:Fn 67 2 [.ls 0 b.w.length,.ls 1 b.p.length,.pv (iV (k:Int))] [(0,0,zrI b.w),(1,0,zrI b.p)] (.pv (.tuple #[iV x,iV y])) 0 []) (hx:(v !=x)=true) (hy:(v !=y)=false) (hn:(v==(-1))=true) (hxy:(x !=y)=true):Rl 2 2 50 0 42 3 ([(1,.pp 2 0),(8,.ls 1 b.w.length),(9,.pv (iV (b.w.length:Int))),(10,.pv (iV (k:Int)))]) ([(2,0,.ls 0 b.p.length),(2,1,.ls 1 b.w.length),(0,0,zrI b.p),(1,0,zrI b.w)]) (.ret) ([(2,.pv (.bool false))]) ([]):=
 RunsL.stop [] 300 [.t true,.r (iV v),Cf hc [1,0],.t true,.t false,.t true,.t true] (fun h=>by cases h)
  (Ro (Ai hlt (Ai hin (Ai (qaX hk) (Co hc [1,0] 3 (Ai hx (Ai hy (Ai hn (Ai hxy tI)))))))))
theorem qnG {b:Br} {k:Nat} (hge:decide ((k:Int)<(b.w.length:Int))=false):Rl 2 2 50 0 42 3 ([(1,.pp 2 0),(8,.ls 1 b.w.length),(9,.pv (iV (b.w.length:Int))),(10,.pv (iV (k:Int)))]) ([(2,0,.ls 0 b.p.length),(2,1,.ls 1 b.w.length),(0,0,zrI b.p),(1,0,zrI b.w)]) (.exit 0) ([]) ([]):=
 RunsL.stop [] 300 [.t false] (fun h=>by cases h)
  (Ro (Ai hge tI))
theorem qqr {b:Br} (r0:Rl 2 2 50 0 42 3 ([(1,.pp 2 0),(8,.ls 1 b.w.length),(9,.pv (iV (b.w.length:Int))),(10,.pv (iV ((0:Nat):Int)))]) ([(2,0,.ls 0 b.p.length),(2,1,.ls 1 b.w.length),(0,0,zrI b.p),(1,0,zrI b.w)]) (.ret) ([(2,.pv (.bool false))]) ([])) :
 Fn 50 2 [brS 0 1 b] [(0,0,zrI b.p),(1,0,zrI b.w)] (.pv (.bool false)) 0 []:=
 Fz [] [Lf r0]
  tI (Lo r0 [] tI)
theorem qmC {b:Br} (r0:Rl 2 2 50 0 42 3 ([(1,.pp 2 0),(8,.ls 1 b.w.length),(9,.pv (iV (b.w.length:Int))),(10,.pv (iV ((0:Nat):Int)))]) ([(2,0,.ls 0 b.p.length),(2,1,.ls 1 b.w.length),(0,0,zrI b.p),(1,0,zrI b.w)]) (.exit 0) ([]) ([])) :
 Fn 50 2 [brS 0 1 b] [(0,0,zrI b.p),(1,0,zrI b.w)] (.pv (.bool true)) 0 []:=
 Fz [] [Lf r0]
  tI (Lo r0 [] tI)
theorem qlF {b:Br} (h1:Fn 37 1 [.ls 0 b.p.length] [(0,0,zrI b.p)] (.pv (iV (2))) 0 []) :
 Fn 16 2 [brS 0 1 b] [(0,0,zrI b.p),(1,0,zrI b.w)] (.pv (iV (8))) 0 []:=
 Fz [] [Cf h1 [0],.k]
  tI (Co h1 [0] 3 tI)
theorem qol {b:Br} {x:Int} (h1:Fn 37 1 [.ls 0 b.p.length] [(0,0,zrI b.p)] (.pv (iV (0))) 0 []) (hs:iV (IntKind.i64.wrap ((b.p.length:Int)-1))=iV (x)) (hl:((b.w.length:Int) !=x)=true) :
 Fn 16 2 [brS 0 1 b] [(0,0,zrI b.p),(1,0,zrI b.w)] (.pv (iV (8))) 0 []:=
 Fz [] [Cf h1 [0],.k,Re hs,.t true]
  tI (Co h1 [0] 3 (Ai hs (Ai hl tI)))
theorem qpZ {b:Br} {x:Int} (h1:Fn 37 1 [.ls 0 b.p.length] [(0,0,zrI b.p)] (.pv (iV (0))) 0 []) (hs:iV (IntKind.i64.wrap ((b.p.length:Int)-1))=iV (x)) (hl:((b.w.length:Int) !=x)=false) (h2:Fn 49 1 [.ls 0 b.p.length] [(0,0,zrI b.p)] (.pv (.bool false)) 0 []) :
 Fn 16 2 [brS 0 1 b] [(0,0,zrI b.p),(1,0,zrI b.w)] (.pv (iV (8))) 0 []:=
 Fz [] [Cf h1 [0],.k,Re hs,.t false,Cf h2 [0],.k]
  tI (Co h1 [0] 3 (Ai hs (Ai hl (Co h2 [0] 3 tI))))
theorem qpN {b:Br} {x:Int} (h1:Fn 37 1 [.ls 0 b.p.length] [(0,0,zrI b.p)] (.pv (iV (0))) 0 []) (hs:iV (IntKind.i64.wrap ((b.p.length:Int)-1))=iV (x)) (hl:((b.w.length:Int) !=x)=false) (h2:Fn 49 1 [.ls 0 b.p.length] [(0,0,zrI b.p)] (.pv (.bool true)) 0 []) (h3:Fn 50 2 [brS 0 1 b] [(0,0,zrI b.p),(1,0,zrI b.w)] (.pv (.bool false)) 0 []) :
 Fn 16 2 [brS 0 1 b] [(0,0,zrI b.p),(1,0,zrI b.w)] (.pv (iV (8))) 0 []:=
 Fz [] [Cf h1 [0],.k,Re hs,.t false,Cf h2 [0],.k,Cf h3 [0,1],.k]
  tI (Co h1 [0] 3 (Ai hs (Ai hl (Co h2 [0] 3 (Co h3 [0,1] 3 tI)))))
theorem qpw {b:Br} {x:Int} (h1:Fn 37 1 [.ls 0 b.p.length] [(0,0,zrI b.p)] (.pv (iV (0))) 0 []) (hs:iV (IntKind.i64.wrap ((b.p.length:Int)-1))=iV (x)) (hl:((b.w.length:Int) !=x)=false) (h2:Fn 49 1 [.ls 0 b.p.length] [(0,0,zrI b.p)] (.pv (.bool true)) 0 []) (h3:Fn 50 2 [brS 0 1 b] [(0,0,zrI b.p),(1,0,zrI b.w)] (.pv (.bool true)) 0 []) :
 Fn 16 2 [brS 0 1 b] [(0,0,zrI b.p),(1,0,zrI b.w)] (.pv (iV (0))) 0 []:=
 Fz [] [Cf h1 [0],.k,Re hs,.t false,Cf h2 [0],.k,Cf h3 [0,1],.k]
  tI (Co h1 [0] 3 (Ai hs (Ai hl (Co h2 [0] 3 (Co h3 [0,1] 3 tI)))))
abbrev qoG (s:List Pt) (td:Int) (tn:Int):HpL:=[(0,0,.mrow (byV s)),(1,0,.mp 0),(2,0,.pv (iV tn)),(2,1,.pv (iV td))]
theorem qsa {s:List Pt} {x y tn td:Int} (hx:(x==(-1))=true) :
 Fn 68 3 [.pv (iV (x)),.pv (iV (y)),.pp 1 0,.pp 2 0] (qoG s td tn) (.pv (iV (y))) 0 []:=
 Fz [] [.t true]
  tI (Ai hx tI)
theorem qrz {s:List Pt} {x y tn td:Int} (hx:(x==(-1))=false) (hy:(y==(-1))=true) :
 Fn 68 3 [.pv (iV (x)),.pv (iV (y)),.pp 1 0,.pp 2 0] (qoG s td tn) (.pv (iV (x))) 0 []:=
 Fz [] [.t false,.t true]
  tI (Ai hx (Ai hy tI))
theorem qsz {s:List Pt} {p q:Pt} {x y tn td:Int} (hx:(x==(-1))=false) (hy:(y==(-1))=false) (hp:qaR Try.prog 77 (byV s) (iV x) false (ptV p)) (hq:qaR Try.prog 77 (byV s) (iV y) false (ptV q)) (ha:Pure Try.prog 69 #[ptV p,ptV q,qab tn td] (.tuple #[.bool true,iV 0])) :
 Fn 68 3 [.pv (iV (x)),.pv (iV (y)),.pp 1 0,.pp 2 0] (qoG s td tn) (.pv (iV (x))) 0 []:=
 Fz [] [.t false,.t false,.r (ptV p),.r (ptV q),Rf ha]
  tI (Ai hx (Ai hy (Ai hp (Ai hq (Ai ha tI)))))
theorem qrM {s:List Pt} {p q:Pt} {x y tn td:Int} (hx:(x==(-1))=false) (hy:(y==(-1))=false) (hp:qaR Try.prog 77 (byV s) (iV x) false (ptV p)) (hq:qaR Try.prog 77 (byV s) (iV y) false (ptV q)) (ha:Pure Try.prog 69 #[ptV p,ptV q,qab tn td] (.tuple #[.bool false,iV 0])) :
 Fn 68 3 [.pv (iV (x)),.pv (iV (y)),.pp 1 0,.pp 2 0] (qoG s td tn) (.pv (iV (y))) 0 []:=
 Fz [] [.t false,.t false,.r (ptV p),.r (ptV q),Rf ha]
  tI (Ai hx (Ai hy (Ai hp (Ai hq (Ai ha tI)))))
theorem qj8 {p q:Pt} (h:(p.id==q.id)=true) :
 Pure Try.prog 82 #[ptV p,ptV q] (iV 2):=
 qae (args:=[ptV p,ptV q]) 300 [.t true]
  (Ai rfl (Ai h tI)) (by kernel_rfl)
theorem qmI {p q:Pt} {tn td e4:Int} (h1:Pure Try.prog 62 #[ptV p] (iV (0))) (h2:Pure Try.prog 62 #[ptV q] (iV (0))) (h3:Pure Try.prog 36 #[qab tn td] (iV (0))) (h4:Pure Try.prog 82 #[ptV p,ptV q] (iV (e4))) (he:(e4 !=0)=true) :
 Pure Try.prog 69 #[ptV p,ptV q,qab tn td] (.tuple #[.bool false,iV e4]):=
 qae (args:=[ptV p,ptV q,qab tn td]) 300 [Rf h1,Rf h1,Rf h1,Rf h4,.k,.k,.k,.k,.k,.k,.k,.k,.k,.k,.k,.t true,.t true]
  (Ai rfl (Ai h1 (Ai h2 (Ai h3 (Ai h4 (Ai he (Ai he tI))))))) (by kernel_rfl)
theorem qrC {s:List Pt} {p q:Pt} {x y tn td:Int} (hx:(x==(-1))=false) (hy:(y==(-1))=false) (hp:qaR Try.prog 77 (byV s) (iV x) false (ptV p)) (hq:qaR Try.prog 77 (byV s) (iV y) false (ptV q)) (ha:Pure Try.prog 69 #[ptV p,ptV q,qab tn td] (.tuple #[.bool false,iV 2])) :
 Fn 68 3 [.pv (iV (x)),.pv (iV (y)),.pp 1 0,.pp 2 0] (qoG s td tn) (.pv (iV (y))) 0 []:=
 Fz [] [.t false,.t false,.r (ptV p),.r (ptV q),Rf ha]
  tI (Ai hx (Ai hy (Ai hp (Ai hq (Ai ha tI)))))
abbrev qrb (l:List Int) (m:List Int) (n:Nat) (s:List Pt) (td:Int) (tn:Int):HpL:=[(0,0,zrI l),(1,0,.mrow (byV s)),(2,0,.mp 1),(3,0,.pv (iV tn)),(3,1,.pv (iV td)),(4,0,.row 3 1 n (ziV m))]
abbrev qrS (l:List Int) (n:Nat) (z:Int):TmL:=[(0,.ls 0 l.length),(1,.pc 68 [.pp 2 0,.pp 3 0]),(5,.ls 4 n),(6,.pv (iV (z)))]
theorem qka {l m:List Int} {s:List Pt} {n:Nat} {x y z z2 v tn td:Int} (h0:decide (z≥0)=true) (hc:Fn 67 2 [.ls 0 n,.ls 1 l.length,.pv (iV (z))] [(0,0,.row 3 1 n (ziV m)),(1,0,zrI l)] (.pv (.tuple #[iV x,iV y])) 0 []) (hw:Fn 68 3 [.pv (iV (x)),.pv (iV (y)),.pp 1 0,.pp 2 0] (qoG s td tn) (.pv (iV (v))) 0 []) (hix:0≤z∧z<(n:Int)) (hg:z.toNat<m.length) (hd:iV (IntKind.i64.wrap (z-1))=iV (z2)) {e:Exit} {tm2:TmL} {hp2:HpL}
 (r:Rl 4 4 41 0 30 5 ([(0,.ls 0 l.length),(1,.pc 68 [.pp 2 0,.pp 3 0]),(5,.ls 4 n),(6,.pv (iV (z2)))]) ([(0,0,zrI l),(1,0,.mrow (byV s)),(2,0,.mp 1),(3,0,.pv (iV tn)),(3,1,.pv (iV td)),(4,0,.row 3 1 n (ziV (m.set z.toNat v)))]) e tm2 hp2):Rl 4 4 41 0 30 5 (qrS l n z) (qrb l m n s td tn) e tm2 hp2:=
 RunsL.next [] 300 [.t true,Cf hc [4,0],Cf hw [1,2,3],.w (ziV (m.set z.toNat v)),Re hd]
  (Ro (Ai h0 (Co hc [4,0] 5 (Co hw [1,2,3] 5 (Ai hix (Ai (qsF m z.toNat v hg) (Ai (ql1 m z.toNat hg) (Ai hd tI)))))))) r
theorem qnB {l m:List Int} {s:List Pt} {n:Nat} {z tn td:Int} (h0:decide (z≥0)=false):Rl 4 4 41 0 30 5 (qrS l n z) (qrb l m n s td tn) (.exit 0) ([(5,.ls 4 n)]) (qrb l m n s td tn):=
 RunsL.stop [] 300 [.t false] (fun h=>by cases h)
  (Ro (Ai h0 tI))
theorem qkB {l m:List Int} {s:List Pt} {n:Nat} {z tn td:Int} (hs:iV (IntKind.i64.wrap ((l.length:Int)-1))=iV (n:Int)) (n0:0≤(n:Int)) (n1:(n:Int)≤1000000) (hd:iV (IntKind.i64.wrap ((n:Int)-1))=iV (z)) (r0:Rl 4 4 41 0 30 5 (qrS l n z) ([(0,0,zrI l),(1,0,.mrow (byV s)),(2,0,.mp 1),(3,0,.pv (iV tn)),(3,1,.pv (iV td)),(4,0,.row 3 1 n (ziV (List.replicate n 0)))]) (.exit 0) ([(5,.ls 4 n)]) (qrb l m n s td tn)) :
 Fn 41 4 [.ls 0 l.length,.pc 68 [.pp 2 0,.pp 3 0]] [(0,0,zrI l),(1,0,.mrow (byV s)),(2,0,.mp 1),(3,0,.pv (iV tn)),(3,1,.pv (iV td))] (.ls 4 n) 1 [(4,0,.row 3 1 n (ziV m))]:=
 Fz [] [Re hs,Re hd,Lf r0]
  (qco (qaT []) [(4,0,.row 3 1 n (ziV m))]) (Ai hs (Ai n0 (Ai (Eq.refl (n:Int)) (Ai n1 (Ai hd (Ai (Lt r0 []) (Ai (Ai (Er (zrI l)) (Ai (Er (SV.mrow (byV s))) (Ai (Er (SV.mp 1)) (Ai (Er (SV.pv (iV tn))) (Ai (Er (SV.pv (iV td))) (Ai (qgG n) tI)))))) (Ai r0 tI))))))))
end Go.Proofs.Ytgbmdijodlfcaaa

namespace Go.Proofs.Ytgbmdijodlfcaaa
set_option maxRecDepth 100000
open Go.RowKit
abbrev ql6 (l:List Int) (m:List Int) (n:Nat):HpL:=[(0,0,zrI l),(1,0,.row 3 1 n (ziV m))]
abbrev qrI (k:Nat) (l:List Int) (n:Nat):TmL:=[(0,.ls 0 l.length),(1,.ls 1 n),(12,.pv (iV (l.length:Int))),(13,.pv (iV (k:Int)))]
theorem qlM {l m:List Int} {k n:Nat} {x y:Int} (hk:l[k]?=some x) (hin:0≤(k:Int)∧(k:Int)<(l.length:Int)) (hlt:decide ((k:Int)<(l.length:Int))=true) (hm:m[k]?=some y) (hin2:0≤(k:Int)∧(k:Int)<(n:Int)) (hxy:(x !=y)=false) (hs:iV (IntKind.i64.wrap ((k:Int)+1))=iV (((k+1:Nat):Int))) {e:Exit} {tm2:TmL} {hp2:HpL}
 (r:Rl 2 2 48 0 26 2 ([(0,.ls 0 l.length),(1,.ls 1 n),(12,.pv (iV (l.length:Int))),(13,.pv (iV ((k+1:Nat):Int)))]) (ql6 l m n) e tm2 hp2):Rl 2 2 48 0 26 2 (qrI k l n) (ql6 l m n) e tm2 hp2:=
 RunsL.next [] 300 [.t true,.r (iV x),.r (iV y),.t false,Re hs]
  (Ro (Ai hlt (Ai hin (Ai (qaX hk) (Ai hin2 (Ai (qaX hm) (Ai hxy (Ai hs tI)))))))) r
theorem qoc {l m:List Int} {k n:Nat} {x y:Int} (hk:l[k]?=some x) (hin:0≤(k:Int)∧(k:Int)<(l.length:Int)) (hlt:decide ((k:Int)<(l.length:Int))=true) (hm:m[k]?=some y) (hin2:0≤(k:Int)∧(k:Int)<(n:Int)) (hxy:(x !=y)=true):Rl 2 2 48 0 26 2 (qrI k l n) (ql6 l m n) (.ret) ([(4,.pv (.bool false))]) ([]):=
 RunsL.stop [] 300 [.t true,.r (iV x),.r (iV y),.t true] (fun h=>by cases h)
  (Ro (Ai hlt (Ai hin (Ai (qaX hk) (Ai hin2 (Ai (qaX hm) (Ai hxy tI)))))))
theorem qoz {l m:List Int} {k n:Nat} (hge:decide ((k:Int)<(l.length:Int))=false):Rl 2 2 48 0 26 2 (qrI k l n) (ql6 l m n) (.exit 0) ([]) ([]):=
 RunsL.stop [] 300 [.t false] (fun h=>by cases h)
  (Ro (Ai hge tI))
theorem qpJ {l m:List Int} {n:Nat} (hl:((l.length:Int) !=(n:Int))=false) (r0:Rl 2 2 48 0 26 2 ([(0,.ls 0 l.length),(1,.ls 1 n),(12,.pv (iV (l.length:Int))),(13,.pv (iV ((0:Nat):Int)))]) (ql6 l m n) (.ret) ([(4,.pv (.bool false))]) ([])) :
 Fn 48 2 [.ls 0 l.length,.ls 1 n] (ql6 l m n) (.pv (.bool false)) 0 []:=
 Fz [] [.t false,Lf r0]
  tI (Ai hl (Lo r0 [] tI))
theorem qna {l m:List Int} {n:Nat} (hl:((l.length:Int) !=(n:Int))=false) (r0:Rl 2 2 48 0 26 2 ([(0,.ls 0 l.length),(1,.ls 1 n),(12,.pv (iV (l.length:Int))),(13,.pv (iV ((0:Nat):Int)))]) (ql6 l m n) (.exit 0) ([]) ([])) :
 Fn 48 2 [.ls 0 l.length,.ls 1 n] (ql6 l m n) (.pv (.bool true)) 0 []:=
 Fz [] [.t false,Lf r0]
  tI (Ai hl (Lo r0 [] tI))
theorem qmH {b:Br} {e:Int} (h1:Fn 16 2 [brS 0 1 b] [(0,0,zrI b.p),(1,0,zrI b.w)] (.pv (iV (e))) 0 []) (he:(e !=0)=true) :
 Fn 12 2 [brS 0 1 b] [(0,0,zrI b.p),(1,0,zrI b.w)] (.pv (.tuple #[iV 0,iV e])) 0 []:=
 Fz [] [Cf h1 [0,1],.t true]
  tI (Co h1 [0,1] 3 (Ai he tI))
theorem qqb {b:Br} {x:Int} (h1:Fn 16 2 [brS 0 1 b] [(0,0,zrI b.p),(1,0,zrI b.w)] (.pv (iV (0))) 0 []) (hn:Fn 43 2 [.ls 0 b.w.length,.ls 1 b.p.length,.pv (iV (0))] [(0,0,zrI b.w),(1,0,zrI b.p)] (.pv (iV (x))) 0 []) (hx:(x==(-1))=true) :
 Fn 12 2 [brS 0 1 b] [(0,0,zrI b.p),(1,0,zrI b.w)] (.pv (.tuple #[iV 0,iV 42])) 0 []:=
 Fz [] [Cf h1 [0,1],.k,Cf hn [1,0],.t true]
  tI (Co h1 [0,1] 3 (Co hn [1,0] 3 (Ai hx tI)))
theorem qpo {b:Br} {x:Int} (h1:Fn 16 2 [brS 0 1 b] [(0,0,zrI b.p),(1,0,zrI b.w)] (.pv (iV (0))) 0 []) (hn:Fn 43 2 [.ls 0 b.w.length,.ls 1 b.p.length,.pv (iV (0))] [(0,0,zrI b.w),(1,0,zrI b.p)] (.pv (iV (x))) 0 []) (hx:(x==(-1))=false) :
 Fn 12 2 [brS 0 1 b] [(0,0,zrI b.p),(1,0,zrI b.w)] (.pv (.tuple #[iV x,iV 0])) 0 []:=
 Fz [] [Cf h1 [0,1],.k,Cf hn [1,0],.t false]
  tI (Co h1 [0,1] 3 (Co hn [1,0] 3 (Ai hx tI)))
theorem qrF {b:Br} {e1 e2 pz:Int} (h1:Fn 16 2 [brS 0 1 b] [(0,0,zrI b.p),(1,0,zrI b.w)] (.pv (iV (e1))) 0 []) (h4:Fn 44 2 [brS 0 1 b,.pv (iV (pz))] [(0,0,zrI b.p),(1,0,zrI b.w)] (.pv (iV (e2))) 0 []) (he:(e1 !=0)=true) :
 Fn 13 2 [brS 0 1 b,.pv (iV (pz))] [(0,0,zrI b.p),(1,0,zrI b.w)] (.pv (.tuple #[.slice none 0 0,iV e1])) 0 []:=
 Fz [] [Cf h1 [0,1],Cf h4 [0,1],.k,.k,.t true,.t true]
  tI (Co h1 [0,1] 3 (Co h4 [0,1] 3 (Ai he (Ai he tI))))
theorem qrj {b:Br} {e2 pz:Int} (h1:Fn 16 2 [brS 0 1 b] [(0,0,zrI b.p),(1,0,zrI b.w)] (.pv (iV (0))) 0 []) (h4:Fn 44 2 [brS 0 1 b,.pv (iV (pz))] [(0,0,zrI b.p),(1,0,zrI b.w)] (.pv (iV (e2))) 0 []) (he:(e2 !=0)=true) :
 Fn 13 2 [brS 0 1 b,.pv (iV (pz))] [(0,0,zrI b.p),(1,0,zrI b.w)] (.pv (.tuple #[.slice none 0 0,iV e2])) 0 []:=
 Fz [] [Cf h1 [0,1],Cf h4 [0,1],.k,.k,.k,.k,.k,.t true,.t true]
  tI (Co h1 [0,1] 3 (Co h4 [0,1] 3 (Ai he (Ai he tI))))
theorem qqF {b:Br} {g:List Int} {x pz:Int} (h1:Fn 16 2 [brS 0 1 b] [(0,0,zrI b.p),(1,0,zrI b.w)] (.pv (iV (0))) 0 []) (h4:Fn 44 2 [brS 0 1 b,.pv (iV (pz))] [(0,0,zrI b.p),(1,0,zrI b.w)] (.pv (iV (0))) 0 []) (ha:iV (IntKind.i64.wrap ((b.w.length:Int)+pz))=iV (x)) (hco:Fn 45 1 [.pc 71 [.pp 0 0]] [(0,0,.pv (iV x))] (.ls 1 g.length) 1 [(1,0,zrI g)]) :
 Fn 13 2 [brS 0 1 b,.pv (iV (pz))] [(0,0,zrI b.p),(1,0,zrI b.w)] (.tu [.one (.ls 2 g.length),.one (.pv (iV 0))]) 1 [(2,0,zrI g)]:=
 Fz [(2,5)] [Cf h1 [0,1],Cf h4 [0,1],.k,.k,.k,.k,.k,.k,.k,.k,.k,Re ha,.k,Cf hco [4]]
  (qco (qaT [(2,5)]) [(2,0,zrI g)]) (Co h1 [0,1] 3 (Co h4 [0,1] 3 (Ai ha (Co hco [4] 5 tI))))
theorem qr7 {b:Br} {s:List Pt} {tn td e1 e2 e3:Int} (h1:Fn 16 2 [brS 0 1 b] [(0,0,zrI b.p),(1,0,zrI b.w)] (.pv (iV (e1))) 0 []) (h2:Fn 35 1 [qaw 0 s] [(0,0,qai s)] (.pv (iV (e2))) 0 []) (h3:Pure Try.prog 36 #[qab tn td] (iV (e3))) (he:(e1 !=0)=true) :
 Fn 15 3 [brS 0 1 b,qaw 2 s,.pv (qab tn td)] [(0,0,zrI b.p),(1,0,zrI b.w),(2,0,qai s)] (.pv (.tuple #[.bool false,iV e1])) 0 []:=
 Fz [] [Cf h1 [0,1],Cf h2 [2],Rf h3,.k,.k,.t true,.t true]
  tI (Co h1 [0,1] 6 (Co h2 [2] 6 (Ai h3 (Ai he (Ai he tI)))))
theorem qrQ {b:Br} {s:List Pt} {tn td e2 e3:Int} (h1:Fn 16 2 [brS 0 1 b] [(0,0,zrI b.p),(1,0,zrI b.w)] (.pv (iV (0))) 0 []) (h2:Fn 35 1 [qaw 0 s] [(0,0,qai s)] (.pv (iV (e2))) 0 []) (h3:Pure Try.prog 36 #[qab tn td] (iV (e3))) (he:(e2 !=0)=true) :
 Fn 15 3 [brS 0 1 b,qaw 2 s,.pv (qab tn td)] [(0,0,zrI b.p),(1,0,zrI b.w),(2,0,qai s)] (.pv (.tuple #[.bool false,iV e2])) 0 []:=
 Fz [] [Cf h1 [0,1],Cf h2 [2],Rf h3,.k,.k,.k,.k,.k,.t true,.t true]
  tI (Co h1 [0,1] 6 (Co h2 [2] 6 (Ai h3 (Ai he (Ai he tI)))))
abbrev qmx (s:List Pt):Prop:=Fn 35 1 [qaw 0 s] [(0,0,qai s)] (.pv (iV (0))) 0 []
theorem qrB {b:Br} {s:List Pt} {tn td e3:Int} (h1:Fn 16 2 [brS 0 1 b] [(0,0,zrI b.p),(1,0,zrI b.w)] (.pv (iV (0))) 0 []) (h2:qmx s) (h3:Pure Try.prog 36 #[qab tn td] (iV (e3))) (he:(e3 !=0)=true) :
 Fn 15 3 [brS 0 1 b,qaw 2 s,.pv (qab tn td)] [(0,0,zrI b.p),(1,0,zrI b.w),(2,0,qai s)] (.pv (.tuple #[.bool false,iV e3])) 0 []:=
 Fz [] [Cf h1 [0,1],Cf h2 [2],Rf h3,.k,.k,.k,.k,.k,.k,.k,.k,.t true,.t true]
  tI (Co h1 [0,1] 6 (Co h2 [2] 6 (Ai h3 (Ai he (Ai he tI)))))
abbrev qq1 (s:List Pt):Prop:=Fn 38 1 [qaw 0 s] [(0,0,qai s)] (.mp 1) 1 [(1,0,.mrow (byV s))]
abbrev qqx (td:Int) (tn:Int):Prop:=Pure Try.prog 36 #[qab tn td] (iV (0))
theorem qm0 {b:Br} {s:List Pt} {tn td e4:Int} (h1:Fn 16 2 [brS 0 1 b] [(0,0,zrI b.p),(1,0,zrI b.w)] (.pv (iV (0))) 0 []) (h2:qmx s) (h3:qqx td tn) (hb:qq1 s) (hi:Fn 39 2 [.mp 1,.ls 0 b.p.length] [(0,0,.row 3 1 b.p.length (ziV b.p)),(1,0,.mrow (byV s))] (.pv (iV (e4))) 0 []) (he4:(e4 !=0)=true) :
 Fn 15 3 [brS 0 1 b,qaw 2 s,.pv (qab tn td)] [(0,0,zrI b.p),(1,0,zrI b.w),(2,0,qai s)] (.pv (.tuple #[.bool false,iV e4])) 0 []:=
 Fz [] [Cf h1 [0,1],Cf h2 [2],Rf h3,.k,.k,.k,.k,.k,.k,.k,.k,.k,.k,.k,.k,Cf hb [2],Cf hi [0,7],.t true]
  tI (Co h1 [0,1] 6 (Co h2 [2] 6 (Ai h3 (Co hb [2] 7 (Co hi [0,7] 8 (Ai he4 tI))))))
theorem qpi {b:Br} {m:List Int} {s:List Pt} {n:Nat} {tn td:Int} {w:Bool} (h1:Fn 16 2 [brS 0 1 b] [(0,0,zrI b.p),(1,0,zrI b.w)] (.pv (iV (0))) 0 []) (h2:qmx s) (h3:qqx td tn) (hb:qq1 s) (hi:Fn 39 2 [.mp 1,.ls 0 b.p.length] [(0,0,.row 3 1 b.p.length (ziV b.p)),(1,0,.mrow (byV s))] (.pv (iV (0))) 0 []) (hf:Fn 41 4 [.ls 0 b.p.length,.pc 68 [.pp 2 0,.pp 3 0]] [(0,0,zrI b.p),(1,0,.mrow (byV s)),(2,0,.mp 1),(3,0,.pv (iV tn)),(3,1,.pv (iV td))] (.ls 4 n) 1 [(4,0,.row 3 1 n (ziV m))]) (hq:Fn 48 2 [.ls 0 b.w.length,.ls 1 n] [(0,0,zrI b.w),(1,0,.row 3 1 n (ziV m))] (.pv (.bool w)) 0 []) :
 Fn 15 3 [brS 0 1 b,qaw 2 s,.pv (qab tn td)] [(0,0,zrI b.p),(1,0,zrI b.w),(2,0,qai s)] (.pv (.tuple #[.bool w,iV 0])) 0 []:=
 Fz [] [Cf h1 [0,1],Cf h2 [2],Rf h3,.k,.k,.k,.k,.k,.k,.k,.k,.k,.k,.k,.k,Cf hb [2],Cf hi [0,7],.k,.md,.k,Cf hf [0,7,8,9],Cf hq [1,10]]
  tI (Co h1 [0,1] 6 (Co h2 [2] 6 (Ai h3 (Co hb [2] 7 (Co hi [0,7] 8 (Co hf [0,7,8,9] 10 (Co hq [1,10] 11 tI)))))))
abbrev qsj (e3:Int) (l:List Int):Prop:=Fn 37 1 [.ls 0 l.length] [(0,0,zrI l)] (.pv (iV (e3))) 0 []
theorem qrV {l:List Int} {s:List Pt} {tn td e1 e2 e3:Int} (h2:Fn 35 1 [qaw 0 s] [(0,0,qai s)] (.pv (iV (e1))) 0 []) (h3:Pure Try.prog 36 #[qab tn td] (iV (e2))) (h4:qsj e3 l) (he:(e1 !=0)=true) :
 Fn 9 2 [qaw 0 s,.pv (qab tn td),.ls 1 l.length] [(0,0,qai s),(1,0,zrI l)] (.pv (.tuple #[.agg #[.slice none 0 0,.slice none 0 0],iV e1])) 0 []:=
 Fz [] [Cf h2 [0],Rf h3,Cf h4 [1],.k,.k,.t true,.t true]
  tI (Co h2 [0] 5 (Ai h3 (Co h4 [1] 5 (Ai he (Ai he tI)))))
theorem qrX {l:List Int} {s:List Pt} {tn td e2 e3:Int} (h2:qmx s) (h3:Pure Try.prog 36 #[qab tn td] (iV (e2))) (h4:qsj e3 l) (he:(e2 !=0)=true) :
 Fn 9 2 [qaw 0 s,.pv (qab tn td),.ls 1 l.length] [(0,0,qai s),(1,0,zrI l)] (.pv (.tuple #[.agg #[.slice none 0 0,.slice none 0 0],iV e2])) 0 []:=
 Fz [] [Cf h2 [0],Rf h3,Cf h4 [1],.k,.k,.k,.k,.k,.t true,.t true]
  tI (Co h2 [0] 5 (Ai h3 (Co h4 [1] 5 (Ai he (Ai he tI)))))
theorem qrh {l:List Int} {s:List Pt} {tn td e3:Int} (h2:qmx s) (h3:qqx td tn) (h4:qsj e3 l) (he:(e3 !=0)=true) :
 Fn 9 2 [qaw 0 s,.pv (qab tn td),.ls 1 l.length] [(0,0,qai s),(1,0,zrI l)] (.pv (.tuple #[.agg #[.slice none 0 0,.slice none 0 0],iV e3])) 0 []:=
 Fz [] [Cf h2 [0],Rf h3,Cf h4 [1],.k,.k,.k,.k,.k,.k,.k,.k,.t true,.t true]
  tI (Co h2 [0] 5 (Ai h3 (Co h4 [1] 5 (Ai he (Ai he tI)))))
theorem qnT {l:List Int} {s:List Pt} {tn td e4:Int} (h2:qmx s) (h3:qqx td tn) (h4:Fn 37 1 [.ls 0 l.length] [(0,0,zrI l)] (.pv (iV (0))) 0 []) (hb:qq1 s) (hi:Fn 39 2 [.mp 1,.ls 0 l.length] [(0,0,.row 3 1 l.length (ziV l)),(1,0,.mrow (byV s))] (.pv (iV (e4))) 0 []) (he4:(e4 !=0)=true) :
 Fn 9 2 [qaw 0 s,.pv (qab tn td),.ls 1 l.length] [(0,0,qai s),(1,0,zrI l)] (.pv (.tuple #[.agg #[.slice none 0 0,.slice none 0 0],iV e4])) 0 []:=
 Fz [] [Cf h2 [0],Rf h3,Cf h4 [1],.k,.k,.k,.k,.k,.k,.k,.k,.k,.k,.k,.k,Cf hb [0],Cf hi [1,6],.t true]
  tI (Co h2 [0] 5 (Ai h3 (Co h4 [1] 5 (Co hb [0] 6 (Co hi [1,6] 7 (Ai he4 tI))))))
theorem qp7 {l m:List Int} {s:List Pt} {n:Nat} {tn td:Int} (h2:qmx s) (h3:qqx td tn) (h4:Fn 37 1 [.ls 0 l.length] [(0,0,zrI l)] (.pv (iV (0))) 0 []) (hb:qq1 s) (hi:Fn 39 2 [.mp 1,.ls 0 l.length] [(0,0,.row 3 1 l.length (ziV l)),(1,0,.mrow (byV s))] (.pv (iV (0))) 0 []) (hcl:Fn 40 1 [.ls 0 l.length] [(0,0,zrI l)] (.ls 1 l.length) 1 [(1,0,zrI l)]) (hf:Fn 41 4 [.ls 0 l.length,.pc 68 [.pp 2 0,.pp 3 0]] [(0,0,zrI l),(1,0,.mrow (byV s)),(2,0,.mp 1),(3,0,.pv (iV tn)),(3,1,.pv (iV td))] (.ls 4 n) 1 [(4,0,.row 3 1 n (ziV m))]) :
 Fn 9 2 [qaw 0 s,.pv (qab tn td),.ls 1 l.length] [(0,0,qai s),(1,0,zrI l)] (.tu [.ag [.ls 2 l.length,.ls 3 n],.one (.pv (iV 0))]) 2 [(2,0,zrI l),(3,0,.row 3 1 n (ziV m))]:=
 Fz [(2,7),(3,10)] [Cf h2 [0],Rf h3,Cf h4 [1],.k,.k,.k,.k,.k,.k,.k,.k,.k,.k,.k,.k,Cf hb [0],Cf hi [1,6],.k,.md,Cf hcl [1],.k,Cf hf [1,6,8,9]]
  (qco (qaT [(2,7),(3,10)]) [(2,0,zrI l),(3,0,.row 3 1 n (ziV m))]) (Co h2 [0] 5 (Ai h3 (Co h4 [1] 5 (Co hb [0] 6 (Co hi [1,6] 7 (Co hcl [1] 7 (Co hf [1,6,8,9] 10 tI)))))))
end Go.Proofs.Ytgbmdijodlfcaaa
