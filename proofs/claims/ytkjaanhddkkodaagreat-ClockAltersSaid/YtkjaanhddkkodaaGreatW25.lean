/-
  Joined: Ke, Kd, Kb, Kc. Conditions: none.
-/
import Derived.Test.YtkjaanhddkkodaaGreatW24
import Derived.Test.YtkjaanhddkkodaaGreatW18
namespace Go.Proofs.YtkjaanhddkkodaaGreat
set_option maxRecDepth 100000
open Go.RowKit
theorem qvn (x:Int) (l:List Pt):SV.ag [.pv (iV x),.ls 4 (0+l.length)]=(SV.ag [.pv (iV x),.ls 1 l.length]).ren (qaM [(1,4)]):=by rw[Nat.zero_add];rfl
theorem qmx (l:List Pt):some (SV.row 94 3 (0+l.length) ([]++qbm l))=some (qam l):=by rw[Nat.zero_add,List.nil_append]
theorem qnc (m:List Pt) (p:Pt):some (SV.row 94 3 (m.length+1) (qbm m++[iV p.id,iV p.a,iV p.b]))=some (qam (m++[p])):=by rw[qjz,qam,List.length_append];rfl
theorem qpZ (b:Nat) (y x:Int) (m:List Pt) (p:Pt):SV.tu [.ag [.pv (iV y),.ls b (m.length+1)],.one (.pv (iV x)),.one (.pv (iV 0))]=(SV.tu [.ag [.pv (iV y),.ls 1 (m++[p]).length],.one (.pv (iV x)),.one (.pv (iV 0))]).ren (qaM [(1,b)]):=by rw[List.length_append];rfl
theorem qrl {l:List Pt} {x:Int} (hn:0+l.length≤1000000) :
 Fn 53 1 [qaL 0 x l] [(0,0,qam l)] (.ag [.pv (iV x),.ls 1 l.length]) 1 [(1,0,qam l)]:=
 Fx [(1,4)] [.md]
  (qvn x l) (Ai (qmx l) tI) (Ai hn tI)
abbrev qBF (l:List Pt) (m:List Pt) (x:Int) (y:Int):HpL:=[(2,0,.pv (iV x)),(2,1,.ls 0 l.length),(3,0,.pv (iV y)),(3,1,.ls 1 m.length),(0,0,qam l),(1,0,qam m)]
theorem qqk {l m:List Pt} {x y:Int} {k:Nat} {p q:Pt} (hk:l[k]?=some p) (hin:0≤(k:Int)∧(k:Int)<(l.length:Int)) (hq:m[k]?=some q) (hin2:0≤(k:Int)∧(k:Int)<(m.length:Int)) (hlt:decide ((k:Int)<(l.length:Int))=true) (hne:(!(p.id==q.id&&((p.a==q.a&&(p.b==q.b&&true))&&true)))=false) (hs:iV (IntKind.i64.wrap ((k:Int)+1))=iV (((k+1:Nat):Int))) {e:Exit} {tm2:TmL} {hp2:HpL}
 (r:Rl 2 2 43 0 38 4 ([(2,.pp 2 0),(3,.pp 3 0),(5,.pv (iV ((k+1:Nat):Int)))]) (qBF l m x y) e tm2 hp2):Rl 2 2 43 0 38 4 ([(2,.pp 2 0),(3,.pp 3 0),(5,.pv (iV (k:Int)))]) (qBF l m x y) e tm2 hp2:=
 RunsL.next [] 300 [.t true,.r (ptV p),.r (ptV q),.t false,Re hs]
  (Ro (Ai hlt (Ai hin (Ai (qaO hk) (Ai hin2 (Ai (qaO hq) (Ai hne (Ai hs tI)))))))) r
theorem quT {l m:List Pt} {x y:Int} {k:Nat} (hge:decide ((k:Int)<(l.length:Int))=false):Rl 2 2 43 0 38 4 ([(2,.pp 2 0),(3,.pp 3 0),(5,.pv (iV (k:Int)))]) (qBF l m x y) (.exit 0) ([]) ([]):=
 RunsL.stop [] 300 [.t false] (fun h=>by cases h)
  (Ro (Ai hge tI))
theorem qto {l m:List Pt} {x y:Int} (hx:(!(x==y))=false) (hl:(!((l.length:Int)==(m.length:Int)))=false) (r0:Rl 2 2 43 0 38 4 ([(2,.pp 2 0),(3,.pp 3 0),(5,.pv (iV ((0:Nat):Int)))]) (qBF l m x y) (.exit 0) ([]) ([])) :
 Fn 43 2 [qaL 0 x l,qaL 1 y m] [(0,0,qam l),(1,0,qam m)] (.pv (.bool true)) 0 []:=
 Fz [] [.t false,.t false,Lf r0]
  tI (Ai hx (Ai hl (Lo r0 [] tI)))
abbrev qBI (l:List Pt) (x:Int):HpL:=[(1,0,.pv (iV x)),(1,1,.ls 0 l.length),(0,0,qam l)]
theorem qqP {l:List Pt} {k:Nat} {p:Pt} {x n:Int} (hk:l[k]?=some p) (hin:0≤(k:Int)∧(k:Int)<(l.length:Int)) (hlt:decide ((k:Int)<(l.length:Int))=true) (he:(p.id==n)=false) (hs:iV (IntKind.i64.wrap ((k:Int)+1))=iV (((k+1:Nat):Int))) {e:Exit} {tm2:TmL} {hp2:HpL}
 (r:Rl 1 1 41 0 22 2 ([(1,.pv (iV n)),(2,.pp 1 0),(5,.pv (iV ((k+1:Nat):Int)))]) (qBI l x) e tm2 hp2):Rl 1 1 41 0 22 2 ([(1,.pv (iV n)),(2,.pp 1 0),(5,.pv (iV (k:Int)))]) (qBI l x) e tm2 hp2:=
 RunsL.next [] 300 [.t true,.r (iV p.id),.t false,Re hs]
  (Ro (Ai hlt (Ai hin (Ai (qcK hk) (Ai he (Ai hs tI)))))) r
theorem qvz {l:List Pt} {k:Nat} {x n:Int} (hge:decide ((k:Int)<(l.length:Int))=false):Rl 1 1 41 0 22 2 ([(1,.pv (iV n)),(2,.pp 1 0),(5,.pv (iV (k:Int)))]) (qBI l x) (.exit 0) ([]) ([]):=
 RunsL.stop [] 300 [.t false] (fun h=>by cases h)
  (Ro (Ai hge tI))
theorem qxg {l:List Pt} {x n:Int} (r0:Rl 1 1 41 0 22 2 ([(1,.pv (iV n)),(2,.pp 1 0),(5,.pv (iV ((0:Nat):Int)))]) (qBI l x) (.exit 0) ([]) ([])) :
 Fn 41 1 [qaL 0 x l,.pv (iV (n))] [(0,0,qam l)] (.pv (iV (-1))) 0 []:=
 Fz [] [Lf r0]
  tI (Lo r0 [] tI)
abbrev qxb (a:Int) (b:Int) (l:List Pt) (x:Int):HpL:=[(1,0,.pv (iV x)),(1,1,.ls 0 l.length),(2,0,.pv (iV a)),(2,1,.pv (iV b)),(0,0,qam l)]
theorem qqY {l:List Pt} {k:Nat} {p:Pt} {x a b:Int} (hk:l[k]?=some p) (hin:0≤(k:Int)∧(k:Int)<(l.length:Int)) (hlt:decide ((k:Int)<(l.length:Int))=true) (he:(p.a==a&&(p.b==b&&true))=false) (hs:iV (IntKind.i64.wrap ((k:Int)+1))=iV (((k+1:Nat):Int))) {e:Exit} {tm2:TmL} {hp2:HpL}
 (r:Rl 1 1 176 0 21 3 ([(2,.pp 1 0),(3,.pp 2 0),(5,.pv (iV ((k+1:Nat):Int)))]) (qxb a b l x) e tm2 hp2):Rl 1 1 176 0 21 3 ([(2,.pp 1 0),(3,.pp 2 0),(5,.pv (iV (k:Int)))]) (qxb a b l x) e tm2 hp2:=
 RunsL.next [] 300 [.t true,.r (qag p.a p.b),.t false,Re hs]
  (Ro (Ai hlt (Ai hin (Ai (qdr hk) (Ai he (Ai hs tI)))))) r
theorem qs8 {l:List Pt} {k:Nat} {p:Pt} {x a b:Int} (hk:l[k]?=some p) (hin:0≤(k:Int)∧(k:Int)<(l.length:Int)) (hlt:decide ((k:Int)<(l.length:Int))=true) (he:(p.a==a&&(p.b==b&&true))=true):Rl 1 1 176 0 21 3 ([(2,.pp 1 0),(3,.pp 2 0),(5,.pv (iV (k:Int)))]) (qxb a b l x) (.ret) ([(4,.pv (.bool true))]) ([]):=
 RunsL.stop [] 300 [.t true,.r (qag p.a p.b),.t true] (fun h=>by cases h)
  (Ro (Ai hlt (Ai hin (Ai (qdr hk) (Ai he tI)))))
theorem qtP {l:List Pt} {k:Nat} {x a b:Int} (hge:decide ((k:Int)<(l.length:Int))=false):Rl 1 1 176 0 21 3 ([(2,.pp 1 0),(3,.pp 2 0),(5,.pv (iV (k:Int)))]) (qxb a b l x) (.exit 0) ([]) ([]):=
 RunsL.stop [] 300 [.t false] (fun h=>by cases h)
  (Ro (Ai hge tI))
theorem qAp {l:List Pt} {x a b:Int} (r0:Rl 1 1 176 0 21 3 ([(2,.pp 1 0),(3,.pp 2 0),(5,.pv (iV ((0:Nat):Int)))]) (qxb a b l x) (.exit 0) ([]) ([])) :
 Fn 176 1 [qaL 0 x l,.pv (qag a b)] [(0,0,qam l)] (.pv (.bool false)) 0 []:=
 Fz [] [Lf r0]
  tI (Lo r0 [] tI)
theorem qsY {l:List Pt} {x a b:Int} (r0:Rl 1 1 176 0 21 3 ([(2,.pp 1 0),(3,.pp 2 0),(5,.pv (iV ((0:Nat):Int)))]) (qxb a b l x) (.ret) ([(4,.pv (.bool true))]) ([])) :
 Fn 176 1 [qaL 0 x l,.pv (qag a b)] [(0,0,qam l)] (.pv (.bool true)) 0 []:=
 Fz [] [Lf r0]
  tI (Lo r0 [] tI)
theorem qsT {l:List Pt} {x a b:Int} (hc:Fn 76 1 [qaL 0 x l] [(0,0,qam l)] (.pv (iV (8))) 0 []) :
 Fn 122 1 [qaL 0 x l,.pv (qag a b)] [(0,0,qam l)] (.pv (.tuple #[.agg #[iV 0,.slice none 0 0],iV 0,iV 8])) 0 []:=
 Fz [] [Cf hc [0],.k]
  tI (Co hc [0] 4 tI)
abbrev qyw (l:List Pt) (x:Int):Prop:=Fn 76 1 [qaL 0 x l] [(0,0,qam l)] (.pv (iV (0))) 0 []
theorem qtU {l:List Pt} {x a b:Int} (hc:qyw l x) (hv:Pure Tryz.prog 71 #[qag a b] (.bool false)) :
 Fn 122 1 [qaL 0 x l,.pv (qag a b)] [(0,0,qam l)] (.pv (.tuple #[.agg #[iV 0,.slice none 0 0],iV 0,iV 8])) 0 []:=
 Fz [] [Cf hc [0],.k,Rf hv,.k]
  tI (Co hc [0] 4 (Ai hv tI))
theorem qwl {l:List Pt} {x a b:Int} (hc:qyw l x) (hv:Pure Tryz.prog 71 #[qag a b] (.bool true)) (hh:Fn 176 1 [qaL 0 x l,.pv (qag a b)] [(0,0,qam l)] (.pv (.bool true)) 0 []) :
 Fn 122 1 [qaL 0 x l,.pv (qag a b)] [(0,0,qam l)] (.pv (.tuple #[.agg #[iV 0,.slice none 0 0],iV 0,iV 14])) 0 []:=
 Fz [] [Cf hc [0],.k,Rf hv,.k,Cf hh [0]]
  tI (Co hc [0] 4 (Ai hv (Co hh [0] 4 tI)))
theorem qpr {l:List Pt} {x a b:Int} (hc:qyw l x) (hv:Pure Tryz.prog 71 #[qag a b] (.bool true)) (hh:Fn 176 1 [qaL 0 x l,.pv (qag a b)] [(0,0,qam l)] (.pv (.bool false)) 0 []) (hf:((l.length:Int)==200)=true) :
 Fn 122 1 [qaL 0 x l,.pv (qag a b)] [(0,0,qam l)] (.pv (.tuple #[.agg #[iV 0,.slice none 0 0],iV 0,iV 18])) 0 []:=
 Fz [] [Cf hc [0],.k,Rf hv,.k,Cf hh [0],.t true]
  tI (Co hc [0] 4 (Ai hv (Co hh [0] 4 (Ai hf tI))))
theorem qre {l:List Pt} {x a b:Int} (hc:qyw l x) (hv:Pure Tryz.prog 71 #[qag a b] (.bool true)) (hh:Fn 176 1 [qaL 0 x l,.pv (qag a b)] [(0,0,qam l)] (.pv (.bool false)) 0 []) (hf:((l.length:Int)==200)=false) (hu:(x==1000000)=true) :
 Fn 122 1 [qaL 0 x l,.pv (qag a b)] [(0,0,qam l)] (.pv (.tuple #[.agg #[iV 0,.slice none 0 0],iV 0,iV 18])) 0 []:=
 Fz [] [Cf hc [0],.k,Rf hv,.k,Cf hh [0],.t false,.t true]
  tI (Co hc [0] 4 (Ai hv (Co hh [0] 4 (Ai hf (Ai hu tI)))))
theorem qyE {l:List Pt} {x y a b:Int} (hc:qyw l x) (hv:Pure Tryz.prog 71 #[qag a b] (.bool true)) (hh:Fn 176 1 [qaL 0 x l,.pv (qag a b)] [(0,0,qam l)] (.pv (.bool false)) 0 []) (hf:((l.length:Int)==200)=false) (hu:(x==1000000)=false) (ht:Fn 53 1 [qaL 0 x l] [(0,0,qam l)] (.ag [.pv (iV x),.ls 1 l.length]) 1 [(1,0,qam l)]) (hn:l.length+1≤1000000) (hy:iV (IntKind.i64.wrap (x+1))=iV (y)) :
 Fn 122 1 [qaL 0 x l,.pv (qag a b)] [(0,0,qam l)] (.tu [.ag [.pv (iV y),.ls 1 (l++[(Pt.mk x a b)]).length],.one (.pv (iV x)),.one (.pv (iV 0))]) 1 [(1,0,qam (l++[(Pt.mk x a b)]))]:=
 Fx [(1,7)] [Cf hc [0],.k,Rf hv,.k,Cf hh [0],.t false,.t false,Cf ht [0],Re hy]
  (qpZ 7 y x l (Pt.mk x a b)) (Ai (qnc l (Pt.mk x a b)) tI) (Co hc [0] 4 (Ai hv (Co hh [0] 4 (Ai hf (Ai hu (Co ht [0] 4 (Ai hn (Ai hy tI))))))))
end Go.Proofs.YtkjaanhddkkodaaGreat

namespace Go.Proofs.YtkjaanhddkkodaaGreat
set_option maxRecDepth 100000
open Go.RowKit
theorem qFz {a b:Int} (h1:decide (a≥0)=false) :
 Pure Tryz.prog 71 #[qag a b] (.bool false):=
 qad (args:=[qag a b]) 300 [.t false]
  (Ai rfl (Ai h1 tI)) (by kernel_rfl)
theorem qF5 {a b:Int} (h1:decide (a≥0)=true) (h2:decide (a≤65535)=false) :
 Pure Tryz.prog 71 #[qag a b] (.bool false):=
 qad (args:=[qag a b]) 300 [.t true,.t false]
  (Ai rfl (Ai h1 (Ai h2 tI))) (by kernel_rfl)
theorem qFx {a b:Int} (h1:decide (a≥0)=true) (h2:decide (a≤65535)=true) (h3:decide (b≥0)=false) :
 Pure Tryz.prog 71 #[qag a b] (.bool false):=
 qad (args:=[qag a b]) 300 [.t true,.t true,.t false]
  (Ai rfl (Ai h1 (Ai h2 (Ai h3 tI)))) (by kernel_rfl)
theorem qFG {a b:Int} (h1:decide (a≥0)=true) (h2:decide (a≤65535)=true) (h3:decide (b≥0)=true) (h4:decide (b≤65535)=false) :
 Pure Tryz.prog 71 #[qag a b] (.bool false):=
 qad (args:=[qag a b]) 300 [.t true,.t true,.t true,.t false]
  (Ai rfl (Ai h1 (Ai h2 (Ai h3 (Ai h4 tI))))) (by kernel_rfl)
theorem qCA {a b:Int} (h1:decide (a≥0)=true) (h2:decide (a≤65535)=true) (h3:decide (b≥0)=true) (h4:decide (b≤65535)=true) (hn:(a !=b)=true) :
 Pure Tryz.prog 71 #[qag a b] (.bool true):=
 qad (args:=[qag a b]) 300 [.t true,.t true,.t true,.t true,.t true]
  (Ai rfl (Ai h1 (Ai h2 (Ai h3 (Ai h4 (Ai hn tI)))))) (by kernel_rfl)
theorem qCx {a b:Int} (h1:decide (a≥0)=true) (h2:decide (a≤65535)=true) (h3:decide (b≥0)=true) (h4:decide (b≤65535)=true) (hn:(a !=b)=false) :
 Pure Tryz.prog 71 #[qag a b] (.bool false):=
 qad (args:=[qag a b]) 300 [.t true,.t true,.t true,.t true,.t false]
  (Ai rfl (Ai h1 (Ai h2 (Ai h3 (Ai h4 (Ai hn tI)))))) (by kernel_rfl)
abbrev qiU (l:List Pt) (x:Int):HpL:=[(1,0,.pv (iV x)),(1,1,.ls 0 l.length),(0,0,qam l)]
abbrev qvy (k:Nat):TmL:=[(1,.pp 1 0),(3,.pv (iV (k:Int)))]
theorem qDf {l:List Pt} {k:Nat} {p:Pt} {x:Int} (hk:l[k]?=some p) (hin:0≤(k:Int)∧(k:Int)<(l.length:Int)) (hlt:decide ((k:Int)<(l.length:Int))=true) (hv:Pure Tryz.prog 71 #[qag p.a p.b] (.bool false)):Rl 1 1 76 0 78 2 (qvy k) (qiU l x) (.ret) ([(2,.pv (iV 8))]) ([]):=
 RunsL.stop [] 300 [.t true,.r (ptV p),Rf hv,.k] (fun h=>by cases h)
  (Ro (Ai hlt (Ai hin (Ai (qaO hk) (Ai hv tI)))))
theorem qCq {l:List Pt} {k:Nat} {p:Pt} {x:Int} (hk:l[k]?=some p) (hin:0≤(k:Int)∧(k:Int)<(l.length:Int)) (hlt:decide ((k:Int)<(l.length:Int))=true) (hv:Pure Tryz.prog 71 #[qag p.a p.b] (.bool true)) (h1:decide (p.id<0)=true):Rl 1 1 76 0 78 2 (qvy k) (qiU l x) (.ret) ([(2,.pv (iV 8))]) ([]):=
 RunsL.stop [] 300 [.t true,.r (ptV p),Rf hv,.k,.t true] (fun h=>by cases h)
  (Ro (Ai hlt (Ai hin (Ai (qaO hk) (Ai hv (Ai h1 tI))))))
theorem qEp {l:List Pt} {k:Nat} {p:Pt} {x:Int} (hk:l[k]?=some p) (hin:0≤(k:Int)∧(k:Int)<(l.length:Int)) (hlt:decide ((k:Int)<(l.length:Int))=true) (hv:Pure Tryz.prog 71 #[qag p.a p.b] (.bool true)) (h1:decide (p.id<0)=false) (h2:decide (p.id≥x)=true):Rl 1 1 76 0 78 2 (qvy k) (qiU l x) (.ret) ([(2,.pv (iV 8))]) ([]):=
 RunsL.stop [] 300 [.t true,.r (ptV p),Rf hv,.k,.t false,.t true] (fun h=>by cases h)
  (Ro (Ai hlt (Ai hin (Ai (qaO hk) (Ai hv (Ai h1 (Ai h2 tI)))))))
abbrev qAi (k:Nat):TmL:=[(1,.pp 1 0),(3,.pv (iV ((k+1:Nat):Int)))]
theorem qDq {l:List Pt} {k:Nat} {p q:Pt} {x:Int} (hk:l[k+1]?=some p) (hin:0≤((k+1:Nat):Int)∧((k+1:Nat):Int)<(l.length:Int)) (hlt:decide (((k+1:Nat):Int)<(l.length:Int))=true) (hv:Pure Tryz.prog 71 #[qag p.a p.b] (.bool true)) (h1:decide (p.id<0)=false) (h2:decide (p.id≥x)=false) (hz:decide (((k+1:Nat):Int)>0)=true) (hq:l[k]?=some q) (hin0:0≤(k:Int)∧(k:Int)<(l.length:Int)) (hm:iV (IntKind.i64.wrap (((k+1:Nat):Int)-1))=iV (k:Int)) (hg:decide (q.id≥p.id)=true):Rl 1 1 76 0 78 2 (qAi k) (qiU l x) (.ret) ([(2,.pv (iV 8))]) ([]):=
 RunsL.stop [] 300 [.t true,.r (ptV p),Rf hv,.k,.t false,.t false,.t true,.r (iV (k:Int)),.r (iV q.id),.t true] (fun h=>by cases h)
  (Ro (Ai hlt (Ai hin (Ai (qaO hk) (Ai hv (Ai h1 (Ai h2 (Ai hz (Ai hm (Ai hin0 (Ai (qcK hq) (Ai hg tI))))))))))))
abbrev qtL (l:List Pt) (p:Pt) (x:Int):HpL:=[(1,0,.pv (iV x)),(1,1,.ls 0 l.length),(2,0,.pv (iV p.id)),(2,1,.pv (iV p.a)),(2,2,.pv (iV p.b)),(0,0,qam l)]
theorem qDe {l:List Pt} {k:Nat} {p:Pt} {x:Int} (hk:l[k]?=some p) (hin:0≤(k:Int)∧(k:Int)<(l.length:Int)) (hlt:decide ((k:Int)<(l.length:Int))=true) (hv:Pure Tryz.prog 71 #[qag p.a p.b] (.bool true)) (h1:decide (p.id<0)=false) (h2:decide (p.id≥x)=false) (hz:decide ((k:Int)>0)=false) (r1:Rl 1 1 76 1 78 3 ([(1,.pp 1 0),(3,.pv (iV (k:Int))),(4,.pp 2 0),(5,.pv (iV ((0:Nat):Int)))]) (qtL l p x) (.exit 2) (qvy k) (qiU l x)) (hs:iV (IntKind.i64.wrap ((k:Int)+1))=iV (((k+1:Nat):Int))) {e:Exit} {tm2:TmL} {hp2:HpL}
 (r:Rl 1 1 76 0 78 2 (qAi k) (qiU l x) e tm2 hp2):Rl 1 1 76 0 78 2 (qvy k) (qiU l x) e tm2 hp2:=
 RunsL.next [] 300 [.t true,.r (ptV p),Rf hv,.k,.t false,.t false,.t false,Lf r1,Re hs]
  (Ro (Ai hlt (Ai hin (Ai (qaO hk) (Ai hv (Ai h1 (Ai h2 (Ai hz (Lo r1 [] (Ai hs tI)))))))))) r
theorem qB8 {l:List Pt} {k:Nat} {p q:Pt} {x:Int} (hk:l[k+1]?=some p) (hin:0≤((k+1:Nat):Int)∧((k+1:Nat):Int)<(l.length:Int)) (hlt:decide (((k+1:Nat):Int)<(l.length:Int))=true) (hv:Pure Tryz.prog 71 #[qag p.a p.b] (.bool true)) (h1:decide (p.id<0)=false) (h2:decide (p.id≥x)=false) (hz:decide (((k+1:Nat):Int)>0)=true) (hq:l[k]?=some q) (hin0:0≤(k:Int)∧(k:Int)<(l.length:Int)) (hm:iV (IntKind.i64.wrap (((k+1:Nat):Int)-1))=iV (k:Int)) (hg:decide (q.id≥p.id)=false) (r1:Rl 1 1 76 1 78 3 ([(1,.pp 1 0),(3,.pv (iV ((k+1:Nat):Int))),(4,.pp 2 0),(5,.pv (iV ((0:Nat):Int)))]) (qtL l p x) (.exit 2) (qAi k) (qiU l x)) (hs:iV (IntKind.i64.wrap (((k+1:Nat):Int)+1))=iV (((k+1+1:Nat):Int))) {e:Exit} {tm2:TmL} {hp2:HpL}
 (r:Rl 1 1 76 0 78 2 ([(1,.pp 1 0),(3,.pv (iV ((k+1+1:Nat):Int)))]) (qiU l x) e tm2 hp2):Rl 1 1 76 0 78 2 (qAi k) (qiU l x) e tm2 hp2:=
 RunsL.next [] 300 [.t true,.r (ptV p),Rf hv,.k,.t false,.t false,.t true,.r (iV (k:Int)),.r (iV q.id),.t false,Lf r1,.r (iV (((k+1+1:Nat):Int)))]
  (Ro (Ai hlt (Ai hin (Ai (qaO hk) (Ai hv (Ai h1 (Ai h2 (Ai hz (Ai hm (Ai hin0 (Ai (qcK hq) (Ai hg (Lo r1 [] (Ai hs tI)))))))))))))) r
theorem qou {l:List Pt} {k:Nat} {p q:Pt} {x:Int} (hk:l[k+1]?=some p) (hin:0≤((k+1:Nat):Int)∧((k+1:Nat):Int)<(l.length:Int)) (hlt:decide (((k+1:Nat):Int)<(l.length:Int))=true) (hv:Pure Tryz.prog 71 #[qag p.a p.b] (.bool true)) (h1:decide (p.id<0)=false) (h2:decide (p.id≥x)=false) (hz:decide (((k+1:Nat):Int)>0)=true) (hq:l[k]?=some q) (hin0:0≤(k:Int)∧(k:Int)<(l.length:Int)) (hm:iV (IntKind.i64.wrap (((k+1:Nat):Int)-1))=iV (k:Int)) (hg:decide (q.id≥p.id)=false) (r1:Rl 1 1 76 1 78 3 ([(1,.pp 1 0),(3,.pv (iV ((k+1:Nat):Int))),(4,.pp 2 0),(5,.pv (iV ((0:Nat):Int)))]) (qtL l p x) (.ret) ([(2,.pv (iV 8))]) ([])):Rl 1 1 76 0 78 2 (qAi k) (qiU l x) (.ret) ([(2,.pv (iV 8))]) ([]):=
 RunsL.stop [] 300 [.t true,.r (ptV p),Rf hv,.k,.t false,.t false,.t true,.r (iV (k:Int)),.r (iV q.id),.t false,Lf r1] (fun h=>by cases h)
  (Ro (Ai hlt (Ai hin (Ai (qaO hk) (Ai hv (Ai h1 (Ai h2 (Ai hz (Ai hm (Ai hin0 (Ai (qcK hq) (Ai hg (Lo r1 [] tI)))))))))))))
theorem quU {l:List Pt} {k:Nat} {x:Int} (hge:decide ((k:Int)<(l.length:Int))=false):Rl 1 1 76 0 78 2 (qvy k) (qiU l x) (.exit 0) ([]) ([]):=
 RunsL.stop [] 300 [.t false] (fun h=>by cases h)
  (Ro (Ai hge tI))
abbrev qDK (j:Nat) (k:Nat):TmL:=[(1,.pp 1 0),(3,.pv (iV (k:Int))),(4,.pp 2 0),(5,.pv (iV (j:Int)))]
theorem qox {l:List Pt} {k j:Nat} {p q:Pt} {x:Int} (hq:l[j]?=some q) (hin:0≤(j:Int)∧(j:Int)<(l.length:Int)) (hlt:decide ((j:Int)<(k:Int))=true) (he:(q.a==p.a&&(q.b==p.b&&true))=false) (hs:iV (IntKind.i64.wrap ((j:Int)+1))=iV (((j+1:Nat):Int))) {e:Exit} {tm2:TmL} {hp2:HpL}
 (r:Rl 1 1 76 1 78 3 ([(1,.pp 1 0),(3,.pv (iV (k:Int))),(4,.pp 2 0),(5,.pv (iV ((j+1:Nat):Int)))]) (qtL l p x) e tm2 hp2):Rl 1 1 76 1 78 3 (qDK j k) (qtL l p x) e tm2 hp2:=
 RunsL.next [] 300 [.t true,.r (qag q.a q.b),.t false,Re hs]
  (Ro (Ai hlt (Ai hin (Ai (qdr hq) (Ai he (Ai hs tI)))))) r
theorem qpB {l:List Pt} {k j:Nat} {p q:Pt} {x:Int} (hq:l[j]?=some q) (hin:0≤(j:Int)∧(j:Int)<(l.length:Int)) (hlt:decide ((j:Int)<(k:Int))=true) (he:(q.a==p.a&&(q.b==p.b&&true))=true):Rl 1 1 76 1 78 3 (qDK j k) (qtL l p x) (.ret) ([(2,.pv (iV 8))]) ([]):=
 RunsL.stop [] 300 [.t true,.r (qag q.a q.b),.t true] (fun h=>by cases h)
  (Ro (Ai hlt (Ai hin (Ai (qdr hq) (Ai he tI)))))
theorem qrB {l:List Pt} {k j:Nat} {p:Pt} {x:Int} (hge:decide ((j:Int)<(k:Int))=false):Rl 1 1 76 1 78 3 (qDK j k) (qtL l p x) (.exit 2) (qvy k) (qiU l x):=
 RunsL.stop [] 300 [.t false] (fun h=>by cases h)
  (Ro (Ai hge tI))
theorem qpc {l:List Pt} {x:Int} (g1:decide ((l.length:Int)>200)=true) :
 Fn 76 1 [qaL 0 x l] [(0,0,qam l)] (.pv (iV (8))) 0 []:=
 Fz [] [.t true]
  tI (Ai g1 tI)
theorem qun {l:List Pt} {x:Int} (g1:decide ((l.length:Int)>200)=false) (g2:decide (x<0)=true) :
 Fn 76 1 [qaL 0 x l] [(0,0,qam l)] (.pv (iV (8))) 0 []:=
 Fz [] [.t false,.t true]
  tI (Ai g1 (Ai g2 tI))
theorem qt7 {l:List Pt} {x:Int} (g1:decide ((l.length:Int)>200)=false) (g2:decide (x<0)=false) (g3:decide (x>1000000)=true) :
 Fn 76 1 [qaL 0 x l] [(0,0,qam l)] (.pv (iV (8))) 0 []:=
 Fz [] [.t false,.t false,.t true]
  tI (Ai g1 (Ai g2 (Ai g3 tI)))
theorem qsO {l:List Pt} {x:Int} (g1:decide ((l.length:Int)>200)=false) (g2:decide (x<0)=false) (g3:decide (x>1000000)=false) (r0:Rl 1 1 76 0 78 2 ([(1,.pp 1 0),(3,.pv (iV ((0:Nat):Int)))]) (qiU l x) (.ret) ([(2,.pv (iV 8))]) ([])) :
 Fn 76 1 [qaL 0 x l] [(0,0,qam l)] (.pv (iV (8))) 0 []:=
 Fz [] [.t false,.t false,.t false,Lf r0]
  tI (Ai g1 (Ai g2 (Ai g3 (Lo r0 [] tI))))
theorem qBk {l:List Pt} {x:Int} (g1:decide ((l.length:Int)>200)=false) (g2:decide (x<0)=false) (g3:decide (x>1000000)=false) (r0:Rl 1 1 76 0 78 2 ([(1,.pp 1 0),(3,.pv (iV ((0:Nat):Int)))]) (qiU l x) (.exit 0) ([]) ([])) :
 Fn 76 1 [qaL 0 x l] [(0,0,qam l)] (.pv (iV (0))) 0 []:=
 Fz [] [.t false,.t false,.t false,Lf r0]
  tI (Ai g1 (Ai g2 (Ai g3 (Lo r0 [] tI))))
end Go.Proofs.YtkjaanhddkkodaaGreat

namespace Go.Proofs.YtkjaanhddkkodaaGreat
set_option maxRecDepth 100000
open Go.RowKit
theorem qCi {a:Int} (h0:decide (0≤a)=false) :
 Pure Tryz.prog 194 #[iV a] (.bool false):=
 qad (args:=[iV a]) 300 [.t false]
  (Ai rfl (Ai h0 tI)) (by kernel_rfl)
theorem qCU {a:Int} (h0:decide (0≤a)=true) (h1:decide (a≤65535)=false) :
 Pure Tryz.prog 194 #[iV a] (.bool false):=
 qad (args:=[iV a]) 300 [.t true,.t false]
  (Ai rfl (Ai h0 (Ai h1 tI))) (by kernel_rfl)
theorem qDM {a:Int} (h0:decide (0≤a)=true) (h1:decide (a≤65535)=true) :
 Pure Tryz.prog 194 #[iV a] (.bool true):=
 qad (args:=[iV a]) 300 [.t true,.t true]
  (Ai rfl (Ai h0 (Ai h1 tI))) (by kernel_rfl)
theorem qFH {a b:Int} (ha:Pure Tryz.prog 194 #[iV a] (.bool false)) :
 Pure Tryz.prog 148 #[qag a b] (.bool false):=
 qad (args:=[qag a b]) 300 [Rf ha]
  (Ai rfl (Ai ha tI)) (by kernel_rfl)
theorem qFX {a b:Int} (ha:Pure Tryz.prog 194 #[iV a] (.bool true)) (hb:Pure Tryz.prog 194 #[iV b] (.bool false)) :
 Pure Tryz.prog 148 #[qag a b] (.bool false):=
 qad (args:=[qag a b]) 300 [Rf ha,Rf hb]
  (Ai rfl (Ai ha (Ai hb tI))) (by kernel_rfl)
theorem qDt {a b:Int} (ha:Pure Tryz.prog 194 #[iV a] (.bool true)) (hb:Pure Tryz.prog 194 #[iV b] (.bool true)) (hn:(a !=b)=true) :
 Pure Tryz.prog 148 #[qag a b] (.bool true):=
 qad (args:=[qag a b]) 300 [Rf ha,Rf ha,.t true]
  (Ai rfl (Ai ha (Ai hb (Ai hn tI)))) (by kernel_rfl)
theorem qDy {a b:Int} (ha:Pure Tryz.prog 194 #[iV a] (.bool true)) (hb:Pure Tryz.prog 194 #[iV b] (.bool true)) (hn:(a !=b)=false) :
 Pure Tryz.prog 148 #[qag a b] (.bool false):=
 qad (args:=[qag a b]) 300 [Rf ha,Rf ha,.t false]
  (Ai rfl (Ai ha (Ai hb (Ai hn tI)))) (by kernel_rfl)
abbrev qwS (l:List Pt) (x:Int):HpL:=[(1,0,.pv (iV x)),(1,1,.ls 0 l.length),(0,0,qam l)]
abbrev qDs (k:Nat) (l:List Pt) (y:Int):TmL:=[(1,.pp 1 0),(3,.pv (iV (y))),(7,.ls 0 l.length),(8,.pv (iV (l.length:Int))),(9,.pv (iV (k:Int)))]
theorem qsN {l:List Pt} {k:Nat} {p:Pt} {x y:Int} (hk:l[k]?=some p) (hin:0≤(k:Int)∧(k:Int)<(l.length:Int)) (hlt:decide ((k:Int)<(l.length:Int))=true) (hle:decide (p.id≤y)=false) (hs:iV (IntKind.i64.wrap ((k:Int)+1))=iV (((k+1:Nat):Int))) {e:Exit} {tm2:TmL} {hp2:HpL}
 (r:Rl 1 1 137 0 29 2 ([(1,.pp 1 0),(3,.pv (iV (p.id))),(7,.ls 0 l.length),(8,.pv (iV (l.length:Int))),(9,.pv (iV ((k+1:Nat):Int)))]) (qwS l x) e tm2 hp2):Rl 1 1 137 0 29 2 (qDs k l y) (qwS l x) e tm2 hp2:=
 RunsL.next [] 300 [.t true,.r (ptV p),.t false,Re hs]
  (Ro (Ai hlt (Ai hin (Ai (qaO hk) (Ai hle (Ai hs tI)))))) r
theorem qAR {l:List Pt} {k:Nat} {p:Pt} {x y:Int} (hk:l[k]?=some p) (hin:0≤(k:Int)∧(k:Int)<(l.length:Int)) (hlt:decide ((k:Int)<(l.length:Int))=true) (hle:decide (p.id≤y)=true):Rl 1 1 137 0 29 2 (qDs k l y) (qwS l x) (.ret) ([(2,.pv (.bool false))]) ([]):=
 RunsL.stop [] 300 [.t true,.r (ptV p),.t true] (fun h=>by cases h)
  (Ro (Ai hlt (Ai hin (Ai (qaO hk) (Ai hle tI)))))
theorem qAo {l:List Pt} {k:Nat} {x y:Int} (hge:decide ((k:Int)<(l.length:Int))=false):Rl 1 1 137 0 29 2 (qDs k l y) (qwS l x) (.exit 0) ([(1,.pp 1 0),(3,.pv (iV (y)))]) (qwS l x):=
 RunsL.stop [] 300 [.t false] (fun h=>by cases h)
  (Ro (Ai hge tI))
theorem qEN {l:List Pt} {x:Int} (r0:Rl 1 1 137 0 29 2 ([(1,.pp 1 0),(3,.pv (iV (-1))),(7,.ls 0 l.length),(8,.pv (iV (l.length:Int))),(9,.pv (iV ((0:Nat):Int)))]) (qwS l x) (.ret) ([(2,.pv (.bool false))]) ([])) :
 Fn 137 1 [qaL 0 x l] [(0,0,qam l)] (.pv (.bool false)) 0 []:=
 Fz [] [Lf r0]
  tI (Lo r0 [] tI)
abbrev qEj (l:List Pt) (x:Int) (y:Int):Prop:=Rl 1 1 137 0 29 2 ([(1,.pp 1 0),(3,.pv (iV (-1))),(7,.ls 0 l.length),(8,.pv (iV (l.length:Int))),(9,.pv (iV ((0:Nat):Int)))]) ([(1,0,.pv (iV x)),(1,1,.ls 0 l.length),(0,0,qam l)]) (.exit 0) ([(1,.pp 1 0),(3,.pv (iV (y)))]) ([(1,0,.pv (iV x)),(1,1,.ls 0 l.length),(0,0,qam l)])
theorem qEJ {l:List Pt} {x y:Int} (r0:qEj l x y) (h1:decide (y<x)=false) :
 Fn 137 1 [qaL 0 x l] [(0,0,qam l)] (.pv (.bool false)) 0 []:=
 Fz [] [Lf r0,.t false]
  tI (Lo r0 [] (Ai h1 tI))
theorem qCh {l:List Pt} {x y:Int} (r0:qEj l x y) (h1:decide (y<x)=true) (h2:decide (x≤1000000)=false) :
 Fn 137 1 [qaL 0 x l] [(0,0,qam l)] (.pv (.bool false)) 0 []:=
 Fz [] [Lf r0,.t true,.t false]
  tI (Lo r0 [] (Ai h1 (Ai h2 tI)))
theorem qEq {l:List Pt} {x y:Int} (r0:qEj l x y) (h1:decide (y<x)=true) (h2:decide (x≤1000000)=true) :
 Fn 137 1 [qaL 0 x l] [(0,0,qam l)] (.pv (.bool true)) 0 []:=
 Fz [] [Lf r0,.t true,.t true]
  tI (Lo r0 [] (Ai h1 (Ai h2 tI)))
abbrev qBU (k:Nat) (l:List Pt):TmL:=[(3,.mp 1),(9,.ls 0 l.length),(10,.pv (iV (l.length:Int))),(11,.pv (iV (k:Int)))]
theorem qxG {l m:List Pt} {k:Nat} {p:Pt} (hk:l[k]?=some p) (hin:0≤(k:Int)∧(k:Int)<(l.length:Int)) (hlt:decide ((k:Int)<(l.length:Int))=true) (hv:Pure Tryz.prog 148 #[qag p.a p.b] (.bool false)):Rl 1 1 138 0 29 2 (qBU k l) ([(1,0,.mrow (qcT (m))),(0,0,qam l)]) (.ret) ([(2,.pv (.bool false))]) ([]):=
 RunsL.stop [] 300 [.t true,.r (ptV p),Rf hv,.k] (fun h=>by cases h)
  (Ro (Ai hlt (Ai hin (Ai (qaO hk) (Ai hv tI)))))
theorem qA1 {l m:List Pt} {k:Nat} {p:Pt} (hk:l[k]?=some p) (hin:0≤(k:Int)∧(k:Int)<(l.length:Int)) (hlt:decide ((k:Int)<(l.length:Int))=true) (hv:Pure Tryz.prog 148 #[qag p.a p.b] (.bool true)) (hL:qfd Tryz.prog 250 (qcT m) (qag p.a p.b) false (.bool true)):Rl 1 1 138 0 29 2 (qBU k l) ([(1,0,.mrow (qcT (m))),(0,0,qam l)]) (.ret) ([(2,.pv (.bool false))]) ([]):=
 RunsL.stop [] 300 [.t true,.r (ptV p),Rf hv,.k,Rf hv] (fun h=>by cases h)
  (Ro (Ai hlt (Ai hin (Ai (qaO hk) (Ai hv (Ai hL tI))))))
theorem qv3 {l m:List Pt} {k:Nat} {p:Pt} (hk:l[k]?=some p) (hin:0≤(k:Int)∧(k:Int)<(l.length:Int)) (hlt:decide ((k:Int)<(l.length:Int))=true) (hv:Pure Tryz.prog 148 #[qag p.a p.b] (.bool true)) (hL:qfd Tryz.prog 250 (qcT m) (qag p.a p.b) false (.bool false)) (hP:qoB Tryz.prog 250 (qcT m) (qag p.a p.b) (.bool true) (qcT (m++[p]))) (hs:iV (IntKind.i64.wrap ((k:Int)+1))=iV (((k+1:Nat):Int))) {e:Exit} {tm2:TmL} {hp2:HpL}
 (r:Rl 1 1 138 0 29 2 ([(3,.mp 1),(9,.ls 0 l.length),(10,.pv (iV (l.length:Int))),(11,.pv (iV ((k+1:Nat):Int)))]) ([(1,0,.mrow (qcT (m++[p]))),(0,0,qam l)]) e tm2 hp2):Rl 1 1 138 0 29 2 (qBU k l) ([(1,0,.mrow (qcT (m))),(0,0,qam l)]) e tm2 hp2:=
 RunsL.next [] 300 [.t true,.r (ptV p),Rf hv,.k,.r (.bool false),.w (qcT (m++[p])),Re hs]
  (Ro (Ai hlt (Ai hin (Ai (qaO hk) (Ai hv (Ai hL (Ai hP (Ai hs tI)))))))) r
theorem qBl {l m:List Pt} {k:Nat} (hge:decide ((k:Int)<(l.length:Int))=false):Rl 1 1 138 0 29 2 (qBU k l) ([(1,0,.mrow (qcT (m))),(0,0,qam l)]) (.exit 0) ([]) ([]):=
 RunsL.stop [] 300 [.t false] (fun h=>by cases h)
  (Ro (Ai hge tI))
theorem qyi {l:List Pt} (r0:Rl 1 1 138 0 29 2 ([(3,.mp 1),(9,.ls 0 l.length),(10,.pv (iV (l.length:Int))),(11,.pv (iV ((0:Nat):Int)))]) ([(1,0,.mrow (qcT ([]))),(0,0,qam l)]) (.ret) ([(2,.pv (.bool false))]) ([])) :
 Fn 138 1 [.ls 0 l.length] [(0,0,qam l)] (.pv (.bool false)) 0 []:=
 Fz [] [Lf r0]
  tI (Lo r0 [] tI)
theorem qER {l:List Pt} (r0:Rl 1 1 138 0 29 2 ([(3,.mp 1),(9,.ls 0 l.length),(10,.pv (iV (l.length:Int))),(11,.pv (iV ((0:Nat):Int)))]) ([(1,0,.mrow (qcT ([]))),(0,0,qam l)]) (.exit 0) ([]) ([])) :
 Fn 138 1 [.ls 0 l.length] [(0,0,qam l)] (.pv (.bool true)) 0 []:=
 Fz [] [Lf r0]
  tI (Lo r0 [] tI)
theorem qqN {l:List Pt} {x:Int} (h2:decide ((l.length:Int)>200)=true) :
 Fn 88 1 [qaL 0 x l] [(0,0,qam l)] (.pv (iV (8))) 0 []:=
 Fz [] [.t true]
  tI (Ai h2 tI)
theorem qv1 {l:List Pt} {x:Int} (h2:decide ((l.length:Int)>200)=false) (hn:Fn 137 1 [qaL 0 x l] [(0,0,qam l)] (.pv (.bool false)) 0 []) :
 Fn 88 1 [qaL 0 x l] [(0,0,qam l)] (.pv (iV (8))) 0 []:=
 Fz [] [.t false,Cf hn [0],.k]
  tI (Ai h2 (Co hn [0] 2 tI))
theorem qwn {l:List Pt} {x:Int} (h2:decide ((l.length:Int)>200)=false) (hn:Fn 137 1 [qaL 0 x l] [(0,0,qam l)] (.pv (.bool true)) 0 []) (hc:Fn 138 1 [.ls 0 l.length] [(0,0,qam l)] (.pv (.bool false)) 0 []) :
 Fn 88 1 [qaL 0 x l] [(0,0,qam l)] (.pv (iV (8))) 0 []:=
 Fz [] [.t false,Cf hn [0],.k,Cf hc [0],.k]
  tI (Ai h2 (Co hn [0] 2 (Co hc [0] 2 tI)))
theorem qzg {l:List Pt} {x:Int} (h2:decide ((l.length:Int)>200)=false) (hn:Fn 137 1 [qaL 0 x l] [(0,0,qam l)] (.pv (.bool true)) 0 []) (hc:Fn 138 1 [.ls 0 l.length] [(0,0,qam l)] (.pv (.bool true)) 0 []) :
 Fn 88 1 [qaL 0 x l] [(0,0,qam l)] (.pv (iV (0))) 0 []:=
 Fz [] [.t false,Cf hn [0],.k,Cf hc [0],.k]
  tI (Ai h2 (Co hn [0] 2 (Co hc [0] 2 tI)))
end Go.Proofs.YtkjaanhddkkodaaGreat

namespace Go.Proofs.YtkjaanhddkkodaaGreat
set_option maxRecDepth 100000
open Go.RowKit
theorem qr2 (a:Int):∃ b,Pure Tryz.prog 194 #[iV a] (.bool b)∧(b=true↔0≤a∧a≤65535):=by
 by_cases h0:0≤a
 ·by_cases h1:a≤65535
  ·exact⟨true,qDM (dt h0) (dt h1),⟨fun _=>⟨h0,h1⟩,fun _=>rfl⟩⟩
  ·exact⟨false,qCU (dt h0) (df h1),⟨fun h=>(by cases h),fun h=>(h1 h.2).elim⟩⟩
 ·exact⟨false,qCi (df h0),⟨fun h=>(by cases h),fun h=>(h0 h.1).elim⟩⟩
theorem qj0 (a b:Int):Pure Tryz.prog 148 #[qag a b] (.bool (qce a b)):=by
 obtain⟨u,hu,hu2⟩:=qr2 a
 obtain⟨v,hv,hv2⟩:=qr2 b
 cases u
 ·rw[show qce a b=false by
   cases h:qce a b
   ·rfl
   ·have:=qbn.1 h;have:=hu2.2 ⟨this.1,this.2.1⟩;cases this]
  exact qFH hu
 ·cases v
  ·rw[show qce a b=false by
    cases h:qce a b
    ·rfl
    ·have:=qbn.1 h;have:=hv2.2 ⟨this.2.2.1,this.2.2.2.1⟩;cases this]
   exact qFX hu hv
  ·have h1:=hu2.1 rfl
   have h2:=hv2.1 rfl
   by_cases hab:a=b
   ·rw[show qce a b=false by
     cases h:qce a b
     ·rfl
     ·exact ((qbn.1 h).2.2.2.2 hab).elim]
    exact qDy hu hv (by simpa using hab)
   ·rw[qbn.2 ⟨h1.1,h1.2,h2.1,h2.2,hab⟩]
    exact qDt hu hv (by simpa using hab)
def lst (m:List Pt):Int:=match m.getLast? with
 | none=>-1
 | some p=>p.id
theorem qiA:lst [] = -1:=rfl
theorem qeK (m:List Pt) (p:Pt):lst (m++[p])=p.id:=by simp[lst]
abbrev nfT (l:List Pt) (k:Nat) (y:Int):List (Nat×SV):=[(1,.pp 1 0),(3,.pv (iV (y))),(7,.ls 0 l.length),(8,.pv (iV (l.length:Int))),(9,.pv (iV (k:Int)))]
abbrev nfH (x:Int) (l:List Pt):List (Nat×Nat×SV):=[(1,0,.pv (iV x)),(1,1,.ls 0 l.length),(0,0,qam l)]
def Inc (l:List Pt):Prop:=∀ (k:Nat) (p:Pt),l[k]?=some p→lst (l.take k)<p.id
theorem Inc.up {l:List Pt} (h:Inc l):Up l:=fun k p q hp hq=>by
 have:=h (k+1) q hq
 rw[qbW hp,qeK] at this
 exact this
theorem Inc.lo {l:List Pt} (h:Inc l):∀ p∈l,0≤p.id:=by
 have key:∀ (k:Nat) (p:Pt),l[k]?=some p→0≤p.id:=by
  intro k
  induction k with
  | zero=>intro p hp;have:=h 0 p hp;rw[List.take_zero,qiA] at this;omega
  | succ k ih=>
   intro p hp
   obtain⟨q,hq⟩:=qah (l:=l) (k:=k) (by have:=qaj hp;omega)
   have:=ih q hq
   have:=h.up k q p hq hp
   omega
 intro p hp
 obtain⟨k,hk,rfl⟩:=List.getElem_of_mem hp
 exact key k _ (List.getElem?_eq_getElem hk)
theorem Inc.of {l:List Pt} (h:Up l) (h0:∀ p∈l,0≤p.id):Inc l:=fun k p hp=>by
 cases k with
 | zero=>rw[List.take_zero,qiA];have:=h0 p (List.mem_of_getElem? hp);omega
 | succ k=>
  obtain⟨q,hq⟩:=qah (l:=l) (k:=k) (by have:=qaj hp;omega)
  rw[qbW hq,qeK]
  exact h k q p hq hp
theorem Inc.lt {l:List Pt} (h:Inc l) {x:Int}:lst l<x↔(∀ p∈l,p.id<x)∧0≤x:=by
 have hup:=h.up
 have hlo:=h.lo
 rcases List.eq_nil_or_concat l with rfl | ⟨m,q,rfl⟩
 ·rw[qiA];exact⟨fun h=>⟨fun p hp=>by simp at hp,by omega⟩,fun h=>by omega⟩
 ·rw[List.concat_eq_append,qeK]
  rw[List.concat_eq_append] at hup hlo
  refine⟨fun hx=>⟨fun p hp=>?_,by have:=hlo q (by simp);omega⟩,fun hx=>hx.1 q (by simp)⟩
  obtain⟨k,hk,rfl⟩:=List.getElem_of_mem hp
  rcases Nat.lt_or_ge k m.length with h1 | h1
  ·have:=hup.mono h1 (List.getElem?_eq_getElem hk) (show (m++[q])[m.length]?=some q by simp)
   omega
  ·have hkm:k=m.length:=by simp at hk;omega
   subst hkm
   simpa using hx
theorem qzH (x:Int) {l:List Pt} (hn:l.length≤1000000):∃ b,Fn 137 1 [qaL 0 x l] [(0,0,qam l)] (.pv (.bool b)) 0 []∧(b=true↔Inc l∧(∀ p∈l,p.id<x)∧0≤x∧x≤1000000):=by
 have step:∀ k,(∀ j,j<k→∀ p,l[j]?=some p→lst (l.take j)<p.id)→∀ {e:Exit} {tm2:TmL} {hp2:HpL},k≤l.length→
  Rl 1 1 137 0 29 2 (nfT l k (lst (l.take k))) (nfH x l) e tm2 hp2→Rl 1 1 137 0 29 2 (nfT l 0 (-1)) (nfH x l) e tm2 hp2:=by
  intro k hk e tm2 hp2 hkl r
  refine RunsL.rounds (fun j=>nfT l j (lst (l.take j))) (fun _=>nfH x l) (N:=k) k 0 (Nat.zero_add _) (fun j _ hj r=>?_) r
  obtain⟨p,hp⟩:=qah (l:=l) (k:=j) (by omega)
  refine qsN hp (qao (qaj hp)) (dt (by have:=qaj hp;omega)) (df (by have:=hk j hj p hp;omega)) (qau (by omega)) ?_
  have e1:lst (l.take (j+1))=p.id:=by rw[qbW hp,qeK]
  rw[← e1]
  exact r
 rcases qaV (fun j=>∀ p,l[j]?=some p→lst (l.take j)<p.id) l.length with h | ⟨j,hj,hb,hf⟩
 ·have hi:Inc l:=fun k p hp=>h k (qaj hp) p hp
  have hend:=step l.length (fun j hj=>h j hj) (Nat.le_refl _) (e:=.exit 0) (qAo (df (by omega)))
  rw[List.take_length] at hend
  by_cases h1:lst l<x
  ·by_cases h2:x≤1000000
   ·exact⟨true,qEq hend (dt h1) (dt h2),⟨fun _=>⟨hi,(hi.lt.1 h1).1,(hi.lt.1 h1).2,h2⟩,fun _=>rfl⟩⟩
   ·exact⟨false,qCh hend (dt h1) (df h2),⟨fun h=>(by cases h),fun h=>(h2 h.2.2.2).elim⟩⟩
  ·exact⟨false,qEJ hend (df h1),⟨fun h=>(by cases h),fun h=>(h1 (hi.lt.2 ⟨h.2.1,h.2.2.1⟩)).elim⟩⟩
 ·simp only[Classical.not_forall,not_imp] at hb
  obtain⟨p,hp,hlt⟩:=hb
  exact⟨false,qEN (step j hf (by omega) (qAR hp (qao (qaj hp)) (dt (by omega)) (dt (by omega)))),⟨fun h=>(by cases h),fun h=>(hlt (h.1 j p hp)).elim⟩⟩
abbrev cfT (l:List Pt) (k:Nat):List (Nat×SV):=[(3,.mp 1),(9,.ls 0 l.length),(10,.pv (iV (l.length:Int))),(11,.pv (iV (k:Int)))]
abbrev cfH (l m:List Pt):List (Nat×Nat×SV):=[(1,0,.mrow (qcT (m))),(0,0,qam l)]
theorem qju {l:List Pt} {k:Nat} {q:Pt} (h:q∈l.take k):∃ i,i<k∧l[i]?=some q:=by
 obtain⟨i,hi,rfl⟩:=List.getElem_of_mem h
 have hi':i<k∧i<l.length:=by simp at hi;omega
 exact⟨i,hi'.1,by rw[List.getElem_take];exact List.getElem?_eq_getElem hi'.2⟩
theorem qo3 {l:List Pt} {i k:Nat} {q:Pt} (h:l[i]?=some q) (hik:i<k):q∈l.take k:=List.mem_of_getElem? (i:=i) (by rw[List.getElem?_take,if_pos hik];exact h)
theorem qxI {l:List Pt} (hn:l.length≤1000000):∃ b,FnL Tryz.prog 138 1 [.ls 0 l.length] [(0,0,qam l)] (.pv (.bool b)) 0 []∧(b=true↔(∀ p∈l,qce p.a p.b=true)∧Dis l):=by
 have step:∀ k,(∀ j,j<k→∀ p,l[j]?=some p→qce p.a p.b=true∧∀ q∈l.take j,¬ (q.a=p.a∧q.b=p.b))→∀ {e:Exit} {tm2:TmL} {hp2:HpL},k≤l.length→
  RunsL Tryz.prog 1 1 (qfE Tryz.prog 138 0) 29 2 (cfT l k) (cfH l (l.take k)) e tm2 hp2→RunsL Tryz.prog 1 1 (qfE Tryz.prog 138 0) 29 2 (cfT l 0) (cfH l []) e tm2 hp2:=by
  intro k hk e tm2 hp2 hkl r
  refine RunsL.rounds (fun j=>cfT l j) (fun j=>cfH l (l.take j)) (N:=k) k 0 (Nat.zero_add _) (fun j _ hj r=>?_) r
  obtain⟨p,hp⟩:=qah (l:=l) (k:=j) (by omega)
  obtain⟨h1,h2⟩:=hk j hj p hp
  refine qv3 hp (qao (qaj hp)) (dt (by have:=qaj hp;omega)) (h1▸qj0 p.a p.b) (qu2 h2) (qqT h2) (qau (by omega)) ?_
  rw[← qbW hp]
  exact r
 rcases qaV (fun j=>∀ p,l[j]?=some p→qce p.a p.b=true∧∀ q∈l.take j,¬ (q.a=p.a∧q.b=p.b)) l.length with h | ⟨j,hj,hb,hf⟩
 ·refine⟨true,qER (step l.length (fun j hj=>h j hj) (Nat.le_refl _) (qBl (df (by omega)))),⟨fun _=>⟨fun p hp=>?_,fun i k p q hik hp hq=>?_⟩,fun _=>rfl⟩⟩
  ·obtain⟨k,hk,rfl⟩:=List.getElem_of_mem hp
   exact (h k hk _ (List.getElem?_eq_getElem hk)).1
  ·exact (h k (qaj hq) q hq).2 p (qo3 hp hik)
 ·simp only[Classical.not_forall,not_imp] at hb
  obtain⟨p,hp,hnp⟩:=hb
  by_cases hv:qce p.a p.b=true
  ·have:∃ q∈l.take j,q.a=p.a∧q.b=p.b:=Classical.byContradiction fun hno=>hnp ⟨hv,fun q hq e=>hno ⟨q,hq,e⟩⟩
   obtain⟨q,hq,he⟩:=this
   refine⟨false,qyi (step j hf (by omega) (qA1 hp (qao hj) (dt (by omega)) (hv▸qj0 p.a p.b) (qq2 hq he))),⟨fun h=>(by cases h),fun h=>?_⟩⟩
   obtain⟨i,hi,hq'⟩:=qju hq
   exact (h.2 i j q p hi hq' hp he).elim
  ·have hv':qce p.a p.b=false:=by simpa using hv
   exact⟨false,qyi (step j hf (by omega) (qxG hp (qao hj) (dt (by omega)) (hv'▸qj0 p.a p.b))),⟨fun h=>(by cases h),fun h=>(hv (h.1 p (List.mem_of_getElem? hp))).elim⟩⟩
theorem qgv (x:Int) (l:List Pt):Fn 88 1 [qaL 0 x l] [(0,0,qam l)] (.pv (iV (qwT x l))) 0 []:=by
 by_cases h0:l.length≤200
 ·obtain⟨u,hu,hu2⟩:=qzH x (l:=l) (by omega)
  obtain⟨v,hv,hv2⟩:=qxI (l:=l) (by omega)
  cases u
  ·rw[qbx fun h=>by have:=hu2.2 ⟨Inc.of h.up h.lo,h.hi,h.nx.1,h.nx.2⟩;cases this]
   exact qv1 (df (by omega)) hu
  ·cases v
   ·rw[qbx fun h=>by have:=hv2.2 ⟨h.ok,h.dis⟩;cases this]
    exact qwn (df (by omega)) hu hv
   ·obtain⟨a1,a2,a3,a4⟩:=hu2.1 rfl
    obtain⟨b1,b2⟩:=hv2.1 rfl
    rw[qdq ⟨h0,b1,a1.up,a1.lo,a2,⟨a3,a4⟩,b2⟩]
    exact qzg (df (by omega)) hu hv
 ·rw[qbx fun h=>h0 h.len]
  exact qqN (dt (by omega))
end Go.Proofs.YtkjaanhddkkodaaGreat
