/-
  Joined: Kd, Ke, Kb, Kc. Conditions: none.
-/
import Derived.Test.YtkjaanhddkkodaaGreatW24
import Derived.Test.YtkjaanhddkkodaaGreatW18
namespace Go.Proofs.YtkjaanhddkkodaaGreat
set_option maxRecDepth 100000
open Go.RowKit
theorem qHo {a b:Int} (h1:decide (a≥0)=false) :
 Pure Tryz.prog 71 #[qag a b] (.bool false):=
 qad (args:=[qag a b]) 300 [.t false]
  (Ai rfl (Ai h1 tI)) (by kernel_rfl)
theorem qHP {a b:Int} (h1:decide (a≥0)=true) (h2:decide (a≤65535)=false) :
 Pure Tryz.prog 71 #[qag a b] (.bool false):=
 qad (args:=[qag a b]) 300 [.t true,.t false]
  (Ai rfl (Ai h1 (Ai h2 tI))) (by kernel_rfl)
theorem qHO {a b:Int} (h1:decide (a≥0)=true) (h2:decide (a≤65535)=true) (h3:decide (b≥0)=false) :
 Pure Tryz.prog 71 #[qag a b] (.bool false):=
 qad (args:=[qag a b]) 300 [.t true,.t true,.t false]
  (Ai rfl (Ai h1 (Ai h2 (Ai h3 tI)))) (by kernel_rfl)
theorem qHy {a b:Int} (h1:decide (a≥0)=true) (h2:decide (a≤65535)=true) (h3:decide (b≥0)=true) (h4:decide (b≤65535)=false) :
 Pure Tryz.prog 71 #[qag a b] (.bool false):=
 qad (args:=[qag a b]) 300 [.t true,.t true,.t true,.t false]
  (Ai rfl (Ai h1 (Ai h2 (Ai h3 (Ai h4 tI))))) (by kernel_rfl)
theorem qFG {a b:Int} (h1:decide (a≥0)=true) (h2:decide (a≤65535)=true) (h3:decide (b≥0)=true) (h4:decide (b≤65535)=true) (hn:(a !=b)=true) :
 Pure Tryz.prog 71 #[qag a b] (.bool true):=
 qad (args:=[qag a b]) 300 [.t true,.t true,.t true,.t true,.t true]
  (Ai rfl (Ai h1 (Ai h2 (Ai h3 (Ai h4 (Ai hn tI)))))) (by kernel_rfl)
theorem qF7 {a b:Int} (h1:decide (a≥0)=true) (h2:decide (a≤65535)=true) (h3:decide (b≥0)=true) (h4:decide (b≤65535)=true) (hn:(a !=b)=false) :
 Pure Tryz.prog 71 #[qag a b] (.bool false):=
 qad (args:=[qag a b]) 300 [.t true,.t true,.t true,.t true,.t false]
  (Ai rfl (Ai h1 (Ai h2 (Ai h3 (Ai h4 (Ai hn tI)))))) (by kernel_rfl)
abbrev qje (l:List Pt) (x:Int):HpL:=[(1,0,.pv (iV x)),(1,1,.ls 0 l.length),(0,0,qak l)]
abbrev qxX (k:Nat):TmL:=[(1,.pp 1 0),(3,.pv (iV (k:Int)))]
theorem qE7 {l:List Pt} {k:Nat} {p:Pt} {x:Int} (hk:l[k]?=some p) (hin:0≤(k:Int)∧(k:Int)<(l.length:Int)) (hlt:decide ((k:Int)<(l.length:Int))=true) (hv:Pure Tryz.prog 71 #[qag p.a p.b] (.bool false)):Rl 1 1 76 0 78 2 (qxX k) (qje l x) (.ret) ([(2,.pv (iV 8))]) ([]):=
 RunsL.stop [] 300 [.t true,.r (ptV p),Rf hv,.k] (fun h=>by cases h)
  (Ro (Ai hlt (Ai hin (Ai (qaL hk) (Ai hv tI)))))
theorem qFA {l:List Pt} {k:Nat} {p:Pt} {x:Int} (hk:l[k]?=some p) (hin:0≤(k:Int)∧(k:Int)<(l.length:Int)) (hlt:decide ((k:Int)<(l.length:Int))=true) (hv:Pure Tryz.prog 71 #[qag p.a p.b] (.bool true)) (h1:decide (p.id<0)=true):Rl 1 1 76 0 78 2 (qxX k) (qje l x) (.ret) ([(2,.pv (iV 8))]) ([]):=
 RunsL.stop [] 300 [.t true,.r (ptV p),Rf hv,.k,.t true] (fun h=>by cases h)
  (Ro (Ai hlt (Ai hin (Ai (qaL hk) (Ai hv (Ai h1 tI))))))
theorem qGq {l:List Pt} {k:Nat} {p:Pt} {x:Int} (hk:l[k]?=some p) (hin:0≤(k:Int)∧(k:Int)<(l.length:Int)) (hlt:decide ((k:Int)<(l.length:Int))=true) (hv:Pure Tryz.prog 71 #[qag p.a p.b] (.bool true)) (h1:decide (p.id<0)=false) (h2:decide (p.id≥x)=true):Rl 1 1 76 0 78 2 (qxX k) (qje l x) (.ret) ([(2,.pv (iV 8))]) ([]):=
 RunsL.stop [] 300 [.t true,.r (ptV p),Rf hv,.k,.t false,.t true] (fun h=>by cases h)
  (Ro (Ai hlt (Ai hin (Ai (qaL hk) (Ai hv (Ai h1 (Ai h2 tI)))))))
abbrev qzq (k:Nat):TmL:=[(1,.pp 1 0),(3,.pv (iV ((k+1:Nat):Int)))]
theorem qGa {l:List Pt} {k:Nat} {p q:Pt} {x:Int} (hk:l[k+1]?=some p) (hin:0≤((k+1:Nat):Int)∧((k+1:Nat):Int)<(l.length:Int)) (hlt:decide (((k+1:Nat):Int)<(l.length:Int))=true) (hv:Pure Tryz.prog 71 #[qag p.a p.b] (.bool true)) (h1:decide (p.id<0)=false) (h2:decide (p.id≥x)=false) (hz:decide (((k+1:Nat):Int)>0)=true) (hq:l[k]?=some q) (hin0:0≤(k:Int)∧(k:Int)<(l.length:Int)) (hm:iV (IntKind.i64.wrap (((k+1:Nat):Int)-1))=iV (k:Int)) (hg:decide (q.id≥p.id)=true):Rl 1 1 76 0 78 2 (qzq k) (qje l x) (.ret) ([(2,.pv (iV 8))]) ([]):=
 RunsL.stop [] 300 [.t true,.r (ptV p),Rf hv,.k,.t false,.t false,.t true,.r (iV (k:Int)),.r (iV q.id),.t true] (fun h=>by cases h)
  (Ro (Ai hlt (Ai hin (Ai (qaL hk) (Ai hv (Ai h1 (Ai h2 (Ai hz (Ai hm (Ai hin0 (Ai (qcj hq) (Ai hg tI))))))))))))
abbrev qwU (l:List Pt) (p:Pt) (x:Int):HpL:=[(1,0,.pv (iV x)),(1,1,.ls 0 l.length),(2,0,.pv (iV p.id)),(2,1,.pv (iV p.a)),(2,2,.pv (iV p.b)),(0,0,qak l)]
theorem qGj {l:List Pt} {k:Nat} {p:Pt} {x:Int} (hk:l[k]?=some p) (hin:0≤(k:Int)∧(k:Int)<(l.length:Int)) (hlt:decide ((k:Int)<(l.length:Int))=true) (hv:Pure Tryz.prog 71 #[qag p.a p.b] (.bool true)) (h1:decide (p.id<0)=false) (h2:decide (p.id≥x)=false) (hz:decide ((k:Int)>0)=false) (r1:Rl 1 1 76 1 78 3 ([(1,.pp 1 0),(3,.pv (iV (k:Int))),(4,.pp 2 0),(5,.pv (iV ((0:Nat):Int)))]) (qwU l p x) (.exit 2) (qxX k) (qje l x)) (hs:iV (IntKind.i64.wrap ((k:Int)+1))=iV (((k+1:Nat):Int))) {e:Exit} {tm2:TmL} {hp2:HpL}
 (r:Rl 1 1 76 0 78 2 (qzq k) (qje l x) e tm2 hp2):Rl 1 1 76 0 78 2 (qxX k) (qje l x) e tm2 hp2:=
 RunsL.next [] 300 [.t true,.r (ptV p),Rf hv,.k,.t false,.t false,.t false,Lf r1,Re hs]
  (Ro (Ai hlt (Ai hin (Ai (qaL hk) (Ai hv (Ai h1 (Ai h2 (Ai hz (Lo r1 [] (Ai hs tI)))))))))) r
theorem qE6 {l:List Pt} {k:Nat} {p q:Pt} {x:Int} (hk:l[k+1]?=some p) (hin:0≤((k+1:Nat):Int)∧((k+1:Nat):Int)<(l.length:Int)) (hlt:decide (((k+1:Nat):Int)<(l.length:Int))=true) (hv:Pure Tryz.prog 71 #[qag p.a p.b] (.bool true)) (h1:decide (p.id<0)=false) (h2:decide (p.id≥x)=false) (hz:decide (((k+1:Nat):Int)>0)=true) (hq:l[k]?=some q) (hin0:0≤(k:Int)∧(k:Int)<(l.length:Int)) (hm:iV (IntKind.i64.wrap (((k+1:Nat):Int)-1))=iV (k:Int)) (hg:decide (q.id≥p.id)=false) (r1:Rl 1 1 76 1 78 3 ([(1,.pp 1 0),(3,.pv (iV ((k+1:Nat):Int))),(4,.pp 2 0),(5,.pv (iV ((0:Nat):Int)))]) (qwU l p x) (.exit 2) (qzq k) (qje l x)) (hs:iV (IntKind.i64.wrap (((k+1:Nat):Int)+1))=iV (((k+1+1:Nat):Int))) {e:Exit} {tm2:TmL} {hp2:HpL}
 (r:Rl 1 1 76 0 78 2 ([(1,.pp 1 0),(3,.pv (iV ((k+1+1:Nat):Int)))]) (qje l x) e tm2 hp2):Rl 1 1 76 0 78 2 (qzq k) (qje l x) e tm2 hp2:=
 RunsL.next [] 300 [.t true,.r (ptV p),Rf hv,.k,.t false,.t false,.t true,.r (iV (k:Int)),.r (iV q.id),.t false,Lf r1,.r (iV (((k+1+1:Nat):Int)))]
  (Ro (Ai hlt (Ai hin (Ai (qaL hk) (Ai hv (Ai h1 (Ai h2 (Ai hz (Ai hm (Ai hin0 (Ai (qcj hq) (Ai hg (Lo r1 [] (Ai hs tI)))))))))))))) r
theorem qof {l:List Pt} {k:Nat} {p q:Pt} {x:Int} (hk:l[k+1]?=some p) (hin:0≤((k+1:Nat):Int)∧((k+1:Nat):Int)<(l.length:Int)) (hlt:decide (((k+1:Nat):Int)<(l.length:Int))=true) (hv:Pure Tryz.prog 71 #[qag p.a p.b] (.bool true)) (h1:decide (p.id<0)=false) (h2:decide (p.id≥x)=false) (hz:decide (((k+1:Nat):Int)>0)=true) (hq:l[k]?=some q) (hin0:0≤(k:Int)∧(k:Int)<(l.length:Int)) (hm:iV (IntKind.i64.wrap (((k+1:Nat):Int)-1))=iV (k:Int)) (hg:decide (q.id≥p.id)=false) (r1:Rl 1 1 76 1 78 3 ([(1,.pp 1 0),(3,.pv (iV ((k+1:Nat):Int))),(4,.pp 2 0),(5,.pv (iV ((0:Nat):Int)))]) (qwU l p x) (.ret) ([(2,.pv (iV 8))]) ([])):Rl 1 1 76 0 78 2 (qzq k) (qje l x) (.ret) ([(2,.pv (iV 8))]) ([]):=
 RunsL.stop [] 300 [.t true,.r (ptV p),Rf hv,.k,.t false,.t false,.t true,.r (iV (k:Int)),.r (iV q.id),.t false,Lf r1] (fun h=>by cases h)
  (Ro (Ai hlt (Ai hin (Ai (qaL hk) (Ai hv (Ai h1 (Ai h2 (Ai hz (Ai hm (Ai hin0 (Ai (qcj hq) (Ai hg (Lo r1 [] tI)))))))))))))
theorem qva {l:List Pt} {k:Nat} {x:Int} (hge:decide ((k:Int)<(l.length:Int))=false):Rl 1 1 76 0 78 2 (qxX k) (qje l x) (.exit 0) ([]) ([]):=
 RunsL.stop [] 300 [.t false] (fun h=>by cases h)
  (Ro (Ai hge tI))
abbrev qGh (j:Nat) (k:Nat):TmL:=[(1,.pp 1 0),(3,.pv (iV (k:Int))),(4,.pp 2 0),(5,.pv (iV (j:Int)))]
theorem qnY {l:List Pt} {k j:Nat} {p q:Pt} {x:Int} (hq:l[j]?=some q) (hin:0≤(j:Int)∧(j:Int)<(l.length:Int)) (hlt:decide ((j:Int)<(k:Int))=true) (he:(q.a==p.a&&(q.b==p.b&&true))=false) (hs:iV (IntKind.i64.wrap ((j:Int)+1))=iV (((j+1:Nat):Int))) {e:Exit} {tm2:TmL} {hp2:HpL}
 (r:Rl 1 1 76 1 78 3 ([(1,.pp 1 0),(3,.pv (iV (k:Int))),(4,.pp 2 0),(5,.pv (iV ((j+1:Nat):Int)))]) (qwU l p x) e tm2 hp2):Rl 1 1 76 1 78 3 (qGh j k) (qwU l p x) e tm2 hp2:=
 RunsL.next [] 300 [.t true,.r (qag q.a q.b),.t false,Re hs]
  (Ro (Ai hlt (Ai hin (Ai (qcQ hq) (Ai he (Ai hs tI)))))) r
theorem qrC {l:List Pt} {k j:Nat} {p q:Pt} {x:Int} (hq:l[j]?=some q) (hin:0≤(j:Int)∧(j:Int)<(l.length:Int)) (hlt:decide ((j:Int)<(k:Int))=true) (he:(q.a==p.a&&(q.b==p.b&&true))=true):Rl 1 1 76 1 78 3 (qGh j k) (qwU l p x) (.ret) ([(2,.pv (iV 8))]) ([]):=
 RunsL.stop [] 300 [.t true,.r (qag q.a q.b),.t true] (fun h=>by cases h)
  (Ro (Ai hlt (Ai hin (Ai (qcQ hq) (Ai he tI)))))
theorem qsd {l:List Pt} {k j:Nat} {p:Pt} {x:Int} (hge:decide ((j:Int)<(k:Int))=false):Rl 1 1 76 1 78 3 (qGh j k) (qwU l p x) (.exit 2) (qxX k) (qje l x):=
 RunsL.stop [] 300 [.t false] (fun h=>by cases h)
  (Ro (Ai hge tI))
theorem qq3 {l:List Pt} {x:Int} (g1:decide ((l.length:Int)>200)=true) :
 Fn 76 1 [qaP 0 x l] [(0,0,qak l)] (.pv (iV (8))) 0 []:=
 Fz [] [.t true]
  tI (Ai g1 tI)
theorem qws {l:List Pt} {x:Int} (g1:decide ((l.length:Int)>200)=false) (g2:decide (x<0)=true) :
 Fn 76 1 [qaP 0 x l] [(0,0,qak l)] (.pv (iV (8))) 0 []:=
 Fz [] [.t false,.t true]
  tI (Ai g1 (Ai g2 tI))
theorem qvm {l:List Pt} {x:Int} (g1:decide ((l.length:Int)>200)=false) (g2:decide (x<0)=false) (g3:decide (x>1000000)=true) :
 Fn 76 1 [qaP 0 x l] [(0,0,qak l)] (.pv (iV (8))) 0 []:=
 Fz [] [.t false,.t false,.t true]
  tI (Ai g1 (Ai g2 (Ai g3 tI)))
theorem qvT {l:List Pt} {x:Int} (g1:decide ((l.length:Int)>200)=false) (g2:decide (x<0)=false) (g3:decide (x>1000000)=false) (r0:Rl 1 1 76 0 78 2 ([(1,.pp 1 0),(3,.pv (iV ((0:Nat):Int)))]) (qje l x) (.ret) ([(2,.pv (iV 8))]) ([])) :
 Fn 76 1 [qaP 0 x l] [(0,0,qak l)] (.pv (iV (8))) 0 []:=
 Fz [] [.t false,.t false,.t false,Lf r0]
  tI (Ai g1 (Ai g2 (Ai g3 (Lo r0 [] tI))))
theorem qCM {l:List Pt} {x:Int} (g1:decide ((l.length:Int)>200)=false) (g2:decide (x<0)=false) (g3:decide (x>1000000)=false) (r0:Rl 1 1 76 0 78 2 ([(1,.pp 1 0),(3,.pv (iV ((0:Nat):Int)))]) (qje l x) (.exit 0) ([]) ([])) :
 Fn 76 1 [qaP 0 x l] [(0,0,qak l)] (.pv (iV (0))) 0 []:=
 Fz [] [.t false,.t false,.t false,Lf r0]
  tI (Ai g1 (Ai g2 (Ai g3 (Lo r0 [] tI))))
end Go.Proofs.YtkjaanhddkkodaaGreat

namespace Go.Proofs.YtkjaanhddkkodaaGreat
set_option maxRecDepth 100000
open Go.RowKit
theorem qxu (x:Int) (l:List Pt):SV.ag [.pv (iV x),.ls 4 (0+l.length)]=(SV.ag [.pv (iV x),.ls 1 l.length]).ren (qaK [(1,4)]):=by rw[Nat.zero_add];rfl
theorem qoX (l:List Pt):some (SV.row 94 3 (0+l.length) ([]++qbo l))=some (qak l):=by rw[Nat.zero_add,List.nil_append]
theorem qiz (m:List Pt) (p:Pt):some (SV.row 94 3 (m.length+1) (qbo m++[iV p.id,iV p.a,iV p.b]))=some (qak (m++[p])):=by rw[qgT,qak,List.length_append];rfl
theorem qrH (b:Nat) (y x:Int) (m:List Pt) (p:Pt):SV.tu [.ag [.pv (iV y),.ls b (m.length+1)],.one (.pv (iV x)),.one (.pv (iV 0))]=(SV.tu [.ag [.pv (iV y),.ls 1 (m++[p]).length],.one (.pv (iV x)),.one (.pv (iV 0))]).ren (qaK [(1,b)]):=by rw[List.length_append];rfl
theorem qsY {l:List Pt} {x:Int} (hn:0+l.length≤1000000) :
 Fn 53 1 [qaP 0 x l] [(0,0,qak l)] (.ag [.pv (iV x),.ls 1 l.length]) 1 [(1,0,qak l)]:=
 Fx [(1,4)] [.md]
  (qxu x l) (Ai (qoX l) tI) (Ai hn tI)
abbrev qDt (l:List Pt) (m:List Pt) (x:Int) (y:Int):HpL:=[(2,0,.pv (iV x)),(2,1,.ls 0 l.length),(3,0,.pv (iV y)),(3,1,.ls 1 m.length),(0,0,qak l),(1,0,qak m)]
theorem qro {l m:List Pt} {x y:Int} {k:Nat} {p q:Pt} (hk:l[k]?=some p) (hin:0≤(k:Int)∧(k:Int)<(l.length:Int)) (hq:m[k]?=some q) (hin2:0≤(k:Int)∧(k:Int)<(m.length:Int)) (hlt:decide ((k:Int)<(l.length:Int))=true) (hne:(!(p.id==q.id&&((p.a==q.a&&(p.b==q.b&&true))&&true)))=false) (hs:iV (IntKind.i64.wrap ((k:Int)+1))=iV (((k+1:Nat):Int))) {e:Exit} {tm2:TmL} {hp2:HpL}
 (r:Rl 2 2 43 0 38 4 ([(2,.pp 2 0),(3,.pp 3 0),(5,.pv (iV ((k+1:Nat):Int)))]) (qDt l m x y) e tm2 hp2):Rl 2 2 43 0 38 4 ([(2,.pp 2 0),(3,.pp 3 0),(5,.pv (iV (k:Int)))]) (qDt l m x y) e tm2 hp2:=
 RunsL.next [] 300 [.t true,.r (ptV p),.r (ptV q),.t false,Re hs]
  (Ro (Ai hlt (Ai hin (Ai (qaL hk) (Ai hin2 (Ai (qaL hq) (Ai hne (Ai hs tI)))))))) r
theorem qwX {l m:List Pt} {x y:Int} {k:Nat} (hge:decide ((k:Int)<(l.length:Int))=false):Rl 2 2 43 0 38 4 ([(2,.pp 2 0),(3,.pp 3 0),(5,.pv (iV (k:Int)))]) (qDt l m x y) (.exit 0) ([]) ([]):=
 RunsL.stop [] 300 [.t false] (fun h=>by cases h)
  (Ro (Ai hge tI))
theorem qvf {l m:List Pt} {x y:Int} (hx:(!(x==y))=false) (hl:(!((l.length:Int)==(m.length:Int)))=false) (r0:Rl 2 2 43 0 38 4 ([(2,.pp 2 0),(3,.pp 3 0),(5,.pv (iV ((0:Nat):Int)))]) (qDt l m x y) (.exit 0) ([]) ([])) :
 Fn 43 2 [qaP 0 x l,qaP 1 y m] [(0,0,qak l),(1,0,qak m)] (.pv (.bool true)) 0 []:=
 Fz [] [.t false,.t false,Lf r0]
  tI (Ai hx (Ai hl (Lo r0 [] tI)))
abbrev qDJ (l:List Pt) (x:Int):HpL:=[(1,0,.pv (iV x)),(1,1,.ls 0 l.length),(0,0,qak l)]
theorem qqo {l:List Pt} {k:Nat} {p:Pt} {x n:Int} (hk:l[k]?=some p) (hin:0≤(k:Int)∧(k:Int)<(l.length:Int)) (hlt:decide ((k:Int)<(l.length:Int))=true) (he:(p.id==n)=false) (hs:iV (IntKind.i64.wrap ((k:Int)+1))=iV (((k+1:Nat):Int))) {e:Exit} {tm2:TmL} {hp2:HpL}
 (r:Rl 1 1 41 0 22 2 ([(1,.pv (iV n)),(2,.pp 1 0),(5,.pv (iV ((k+1:Nat):Int)))]) (qDJ l x) e tm2 hp2):Rl 1 1 41 0 22 2 ([(1,.pv (iV n)),(2,.pp 1 0),(5,.pv (iV (k:Int)))]) (qDJ l x) e tm2 hp2:=
 RunsL.next [] 300 [.t true,.r (iV p.id),.t false,Re hs]
  (Ro (Ai hlt (Ai hin (Ai (qcj hk) (Ai he (Ai hs tI)))))) r
theorem qvP {l:List Pt} {k:Nat} {p:Pt} {x n:Int} (hk:l[k]?=some p) (hin:0≤(k:Int)∧(k:Int)<(l.length:Int)) (hlt:decide ((k:Int)<(l.length:Int))=true) (he:(p.id==n)=true):Rl 1 1 41 0 22 2 ([(1,.pv (iV n)),(2,.pp 1 0),(5,.pv (iV (k:Int)))]) (qDJ l x) (.ret) ([(4,.pv (iV (k:Int)))]) ([]):=
 RunsL.stop [] 300 [.t true,.r (iV p.id),.t true] (fun h=>by cases h)
  (Ro (Ai hlt (Ai hin (Ai (qcj hk) (Ai he tI)))))
theorem qwp {l:List Pt} {k:Nat} {x n:Int} (r0:Rl 1 1 41 0 22 2 ([(1,.pv (iV n)),(2,.pp 1 0),(5,.pv (iV ((0:Nat):Int)))]) (qDJ l x) (.ret) ([(4,.pv (iV (k:Int)))]) ([])) :
 Fn 41 1 [qaP 0 x l,.pv (iV (n))] [(0,0,qak l)] (.pv (iV (k:Int))) 0 []:=
 Fz [] [Lf r0]
  tI (Lo r0 [] tI)
abbrev qyr (a:Int) (b:Int) (l:List Pt) (x:Int):HpL:=[(1,0,.pv (iV x)),(1,1,.ls 0 l.length),(2,0,.pv (iV a)),(2,1,.pv (iV b)),(0,0,qak l)]
theorem qqI {l:List Pt} {k:Nat} {p:Pt} {x a b:Int} (hk:l[k]?=some p) (hin:0≤(k:Int)∧(k:Int)<(l.length:Int)) (hlt:decide ((k:Int)<(l.length:Int))=true) (he:(p.a==a&&(p.b==b&&true))=false) (hs:iV (IntKind.i64.wrap ((k:Int)+1))=iV (((k+1:Nat):Int))) {e:Exit} {tm2:TmL} {hp2:HpL}
 (r:Rl 1 1 176 0 21 3 ([(2,.pp 1 0),(3,.pp 2 0),(5,.pv (iV ((k+1:Nat):Int)))]) (qyr a b l x) e tm2 hp2):Rl 1 1 176 0 21 3 ([(2,.pp 1 0),(3,.pp 2 0),(5,.pv (iV (k:Int)))]) (qyr a b l x) e tm2 hp2:=
 RunsL.next [] 300 [.t true,.r (qag p.a p.b),.t false,Re hs]
  (Ro (Ai hlt (Ai hin (Ai (qcQ hk) (Ai he (Ai hs tI)))))) r
theorem quW {l:List Pt} {k:Nat} {p:Pt} {x a b:Int} (hk:l[k]?=some p) (hin:0≤(k:Int)∧(k:Int)<(l.length:Int)) (hlt:decide ((k:Int)<(l.length:Int))=true) (he:(p.a==a&&(p.b==b&&true))=true):Rl 1 1 176 0 21 3 ([(2,.pp 1 0),(3,.pp 2 0),(5,.pv (iV (k:Int)))]) (qyr a b l x) (.ret) ([(4,.pv (.bool true))]) ([]):=
 RunsL.stop [] 300 [.t true,.r (qag p.a p.b),.t true] (fun h=>by cases h)
  (Ro (Ai hlt (Ai hin (Ai (qcQ hk) (Ai he tI)))))
theorem qxe {l:List Pt} {k:Nat} {x a b:Int} (hge:decide ((k:Int)<(l.length:Int))=false):Rl 1 1 176 0 21 3 ([(2,.pp 1 0),(3,.pp 2 0),(5,.pv (iV (k:Int)))]) (qyr a b l x) (.exit 0) ([]) ([]):=
 RunsL.stop [] 300 [.t false] (fun h=>by cases h)
  (Ro (Ai hge tI))
theorem qB6 {l:List Pt} {x a b:Int} (r0:Rl 1 1 176 0 21 3 ([(2,.pp 1 0),(3,.pp 2 0),(5,.pv (iV ((0:Nat):Int)))]) (qyr a b l x) (.exit 0) ([]) ([])) :
 Fn 176 1 [qaP 0 x l,.pv (qag a b)] [(0,0,qak l)] (.pv (.bool false)) 0 []:=
 Fz [] [Lf r0]
  tI (Lo r0 [] tI)
theorem qwF {l:List Pt} {x a b:Int} (r0:Rl 1 1 176 0 21 3 ([(2,.pp 1 0),(3,.pp 2 0),(5,.pv (iV ((0:Nat):Int)))]) (qyr a b l x) (.ret) ([(4,.pv (.bool true))]) ([])) :
 Fn 176 1 [qaP 0 x l,.pv (qag a b)] [(0,0,qak l)] (.pv (.bool true)) 0 []:=
 Fz [] [Lf r0]
  tI (Lo r0 [] tI)
abbrev qyu (l:List Pt) (m:List Pt) (x:Int):HpL:=[(1,0,.pv (iV x)),(1,1,.ls 0 l.length),(0,0,qak l),(3,0,.pv (iV x)),(3,1,.ls 4 (m).length),(4,0,qak (m)),(2,0,.pv (iV 0)),(2,1,.pv (.slice none 0 0))]
abbrev qFV (k:Nat) (n:Int):TmL:=[(1,.pv (iV n)),(2,.pp 1 0),(4,.pp 2 0),(5,.pp 3 0),(6,.pv (iV (k:Int)))]
theorem qrO {l m:List Pt} {k:Nat} {p:Pt} {x n:Int} (hk:l[k]?=some p) (hin:0≤(k:Int)∧(k:Int)<(l.length:Int)) (hlt:decide ((k:Int)<(l.length:Int))=true) (hne:(p.id !=n)=false) (hs:iV (IntKind.i64.wrap ((k:Int)+1))=iV (((k+1:Nat):Int))) {e:Exit} {tm2:TmL} {hp2:HpL}
 (r:Rl 1 1 125 0 36 5 ([(1,.pv (iV n)),(2,.pp 1 0),(4,.pp 2 0),(5,.pp 3 0),(6,.pv (iV ((k+1:Nat):Int)))]) (qyu l m x) e tm2 hp2):Rl 1 1 125 0 36 5 (qFV k n) (qyu l m x) e tm2 hp2:=
 RunsL.next [] 300 [.t true,.r (iV p.id),.t false,Re hs]
  (Ro (Ai hlt (Ai hin (Ai (qcj hk) (Ai hne (Ai hs tI)))))) r
theorem qsg {l m:List Pt} {k:Nat} {p:Pt} {x n:Int} (hk:l[k]?=some p) (hin:0≤(k:Int)∧(k:Int)<(l.length:Int)) (hlt:decide ((k:Int)<(l.length:Int))=true) (hne:(p.id !=n)=true) (hm:m.length+1≤1000000) (hs:iV (IntKind.i64.wrap ((k:Int)+1))=iV (((k+1:Nat):Int))) {e:Exit} {tm2:TmL} {hp2:HpL}
 (r:Rl 1 1 125 0 36 5 ([(1,.pv (iV n)),(2,.pp 1 0),(4,.pp 2 0),(5,.pp 3 0),(6,.pv (iV ((k+1:Nat):Int)))]) ([(1,0,.pv (iV x)),(1,1,.ls 0 l.length),(0,0,qak l),(3,0,.pv (iV x)),(3,1,.ls 4 (m++[p]).length),(4,0,qak (m++[p])),(2,0,.pv (iV 0)),(2,1,.pv (.slice none 0 0))]) e tm2 hp2):Rl 1 1 125 0 36 5 (qFV k n) (qyu l m x) e tm2 hp2:=
 RunsL.next [(4,6)] 300 [.t true,.r (iV p.id),.t true,.r (ptV p),Re hs]
  (Rh (Ai (Er (SV.pv (iV x))) (Ai (Er (SV.ls 0 l.length)) (Ai (Er (qak l)) (Ai (Er (SV.pv (iV x))) (Ai (qjm 6 m p) (Ai (qiz m p) (Ai (Er (SV.pv (iV 0))) (Ai (Er (SV.pv (.slice none 0 0))) tI)))))))) (Ai hlt (Ai hin (Ai (qcj hk) (Ai hne (Ai hin (Ai (qaL hk) (Ai hm (Ai hs tI))))))))) r
theorem qxZ {l m:List Pt} {k:Nat} {x n:Int} (hge:decide ((k:Int)<(l.length:Int))=false):Rl 1 1 125 0 36 5 (qFV k n) (qyu l m x) (.exit 0) ([(4,.pp 2 0),(5,.pp 3 0)]) (qyu l m x):=
 RunsL.stop [] 300 [.t false] (fun h=>by cases h)
  (Ro (Ai hge tI))
theorem qqL {l m:List Pt} {x n:Int} (r0:Rl 1 1 125 0 36 5 ([(1,.pv (iV n)),(2,.pp 1 0),(4,.pp 2 0),(5,.pp 3 0),(6,.pv (iV ((0:Nat):Int)))]) ([(1,0,.pv (iV x)),(1,1,.ls 0 l.length),(0,0,qak l),(3,0,.pv (iV x)),(3,1,.ls 4 ([]:List Pt).length),(4,0,qak ([]:List Pt)),(2,0,.pv (iV 0)),(2,1,.pv (.slice none 0 0))]) (.exit 0) ([(4,.pp 2 0),(5,.pp 3 0)]) (qyu l m x)) :
 Fn 125 1 [qaP 0 x l,.pv (iV (n))] [(0,0,qak l)] (.ag [.pv (iV x),.ls 1 m.length]) 1 [(1,0,qak m)]:=
 Fz [(1,4)] [.ln false 3 1 94 3,Lf r0]
  (qaE (qaK [(1,4)]) [(1,0,qak m)]) (Lo r0 [] tI)
theorem qvh {l:List Pt} {x a b:Int} (hc:Fn 76 1 [qaP 0 x l] [(0,0,qak l)] (.pv (iV (8))) 0 []) :
 Fn 122 1 [qaP 0 x l,.pv (qag a b)] [(0,0,qak l)] (.pv (.tuple #[.agg #[iV 0,.slice none 0 0],iV 0,iV 8])) 0 []:=
 Fz [] [Cf hc [0],.k]
  tI (Co hc [0] 4 tI)
abbrev qBf (l:List Pt) (x:Int):Prop:=Fn 76 1 [qaP 0 x l] [(0,0,qak l)] (.pv (iV (0))) 0 []
theorem quh {l:List Pt} {x a b:Int} (hc:qBf l x) (hv:Pure Tryz.prog 71 #[qag a b] (.bool false)) :
 Fn 122 1 [qaP 0 x l,.pv (qag a b)] [(0,0,qak l)] (.pv (.tuple #[.agg #[iV 0,.slice none 0 0],iV 0,iV 8])) 0 []:=
 Fz [] [Cf hc [0],.k,Rf hv,.k]
  tI (Co hc [0] 4 (Ai hv tI))
theorem qvW {l:List Pt} {x a b:Int} (hc:qBf l x) (hv:Pure Tryz.prog 71 #[qag a b] (.bool true)) (hh:Fn 176 1 [qaP 0 x l,.pv (qag a b)] [(0,0,qak l)] (.pv (.bool true)) 0 []) :
 Fn 122 1 [qaP 0 x l,.pv (qag a b)] [(0,0,qak l)] (.pv (.tuple #[.agg #[iV 0,.slice none 0 0],iV 0,iV 14])) 0 []:=
 Fz [] [Cf hc [0],.k,Rf hv,.k,Cf hh [0]]
  tI (Co hc [0] 4 (Ai hv (Co hh [0] 4 tI)))
theorem qqp {l:List Pt} {x a b:Int} (hc:qBf l x) (hv:Pure Tryz.prog 71 #[qag a b] (.bool true)) (hh:Fn 176 1 [qaP 0 x l,.pv (qag a b)] [(0,0,qak l)] (.pv (.bool false)) 0 []) (hf:((l.length:Int)==200)=true) :
 Fn 122 1 [qaP 0 x l,.pv (qag a b)] [(0,0,qak l)] (.pv (.tuple #[.agg #[iV 0,.slice none 0 0],iV 0,iV 18])) 0 []:=
 Fz [] [Cf hc [0],.k,Rf hv,.k,Cf hh [0],.t true]
  tI (Co hc [0] 4 (Ai hv (Co hh [0] 4 (Ai hf tI))))
theorem qq5 {l:List Pt} {x a b:Int} (hc:qBf l x) (hv:Pure Tryz.prog 71 #[qag a b] (.bool true)) (hh:Fn 176 1 [qaP 0 x l,.pv (qag a b)] [(0,0,qak l)] (.pv (.bool false)) 0 []) (hf:((l.length:Int)==200)=false) (hu:(x==1000000)=true) :
 Fn 122 1 [qaP 0 x l,.pv (qag a b)] [(0,0,qak l)] (.pv (.tuple #[.agg #[iV 0,.slice none 0 0],iV 0,iV 18])) 0 []:=
 Fz [] [Cf hc [0],.k,Rf hv,.k,Cf hh [0],.t false,.t true]
  tI (Co hc [0] 4 (Ai hv (Co hh [0] 4 (Ai hf (Ai hu tI)))))
theorem qAL {l:List Pt} {x y a b:Int} (hc:qBf l x) (hv:Pure Tryz.prog 71 #[qag a b] (.bool true)) (hh:Fn 176 1 [qaP 0 x l,.pv (qag a b)] [(0,0,qak l)] (.pv (.bool false)) 0 []) (hf:((l.length:Int)==200)=false) (hu:(x==1000000)=false) (ht:Fn 53 1 [qaP 0 x l] [(0,0,qak l)] (.ag [.pv (iV x),.ls 1 l.length]) 1 [(1,0,qak l)]) (hn:l.length+1≤1000000) (hy:iV (IntKind.i64.wrap (x+1))=iV (y)) :
 Fn 122 1 [qaP 0 x l,.pv (qag a b)] [(0,0,qak l)] (.tu [.ag [.pv (iV y),.ls 1 (l++[(Pt.mk x a b)]).length],.one (.pv (iV x)),.one (.pv (iV 0))]) 1 [(1,0,qak (l++[(Pt.mk x a b)]))]:=
 Fx [(1,7)] [Cf hc [0],.k,Rf hv,.k,Cf hh [0],.t false,.t false,Cf ht [0],Re hy]
  (qrH 7 y x l (Pt.mk x a b)) (Ai (qiz l (Pt.mk x a b)) tI) (Co hc [0] 4 (Ai hv (Co hh [0] 4 (Ai hf (Ai hu (Co ht [0] 4 (Ai hn (Ai hy tI))))))))
end Go.Proofs.YtkjaanhddkkodaaGreat

namespace Go.Proofs.YtkjaanhddkkodaaGreat
set_option maxRecDepth 100000
open Go.RowKit
theorem qFP {a:Int} (h0:decide (0≤a)=false) :
 Pure Tryz.prog 194 #[iV a] (.bool false):=
 qad (args:=[iV a]) 300 [.t false]
  (Ai rfl (Ai h0 tI)) (by kernel_rfl)
theorem qFH {a:Int} (h0:decide (0≤a)=true) (h1:decide (a≤65535)=false) :
 Pure Tryz.prog 194 #[iV a] (.bool false):=
 qad (args:=[iV a]) 300 [.t true,.t false]
  (Ai rfl (Ai h0 (Ai h1 tI))) (by kernel_rfl)
theorem qEo {a:Int} (h0:decide (0≤a)=true) (h1:decide (a≤65535)=true) :
 Pure Tryz.prog 194 #[iV a] (.bool true):=
 qad (args:=[iV a]) 300 [.t true,.t true]
  (Ai rfl (Ai h0 (Ai h1 tI))) (by kernel_rfl)
theorem qHl {a b:Int} (ha:Pure Tryz.prog 194 #[iV a] (.bool false)) :
 Pure Tryz.prog 148 #[qag a b] (.bool false):=
 qad (args:=[qag a b]) 300 [Rf ha]
  (Ai rfl (Ai ha tI)) (by kernel_rfl)
theorem qHt {a b:Int} (ha:Pure Tryz.prog 194 #[iV a] (.bool true)) (hb:Pure Tryz.prog 194 #[iV b] (.bool false)) :
 Pure Tryz.prog 148 #[qag a b] (.bool false):=
 qad (args:=[qag a b]) 300 [Rf ha,Rf hb]
  (Ai rfl (Ai ha (Ai hb tI))) (by kernel_rfl)
theorem qGv {a b:Int} (ha:Pure Tryz.prog 194 #[iV a] (.bool true)) (hb:Pure Tryz.prog 194 #[iV b] (.bool true)) (hn:(a !=b)=true) :
 Pure Tryz.prog 148 #[qag a b] (.bool true):=
 qad (args:=[qag a b]) 300 [Rf ha,Rf ha,.t true]
  (Ai rfl (Ai ha (Ai hb (Ai hn tI)))) (by kernel_rfl)
theorem qEw {a b:Int} (ha:Pure Tryz.prog 194 #[iV a] (.bool true)) (hb:Pure Tryz.prog 194 #[iV b] (.bool true)) (hn:(a !=b)=false) :
 Pure Tryz.prog 148 #[qag a b] (.bool false):=
 qad (args:=[qag a b]) 300 [Rf ha,Rf ha,.t false]
  (Ai rfl (Ai ha (Ai hb (Ai hn tI)))) (by kernel_rfl)
abbrev qyz (l:List Pt) (x:Int):HpL:=[(1,0,.pv (iV x)),(1,1,.ls 0 l.length),(0,0,qak l)]
abbrev qEB (k:Nat) (l:List Pt) (y:Int):TmL:=[(1,.pp 1 0),(3,.pv (iV (y))),(7,.ls 0 l.length),(8,.pv (iV (l.length:Int))),(9,.pv (iV (k:Int)))]
theorem qvZ {l:List Pt} {k:Nat} {p:Pt} {x y:Int} (hk:l[k]?=some p) (hin:0≤(k:Int)∧(k:Int)<(l.length:Int)) (hlt:decide ((k:Int)<(l.length:Int))=true) (hle:decide (p.id≤y)=false) (hs:iV (IntKind.i64.wrap ((k:Int)+1))=iV (((k+1:Nat):Int))) {e:Exit} {tm2:TmL} {hp2:HpL}
 (r:Rl 1 1 137 0 29 2 ([(1,.pp 1 0),(3,.pv (iV (p.id))),(7,.ls 0 l.length),(8,.pv (iV (l.length:Int))),(9,.pv (iV ((k+1:Nat):Int)))]) (qyz l x) e tm2 hp2):Rl 1 1 137 0 29 2 (qEB k l y) (qyz l x) e tm2 hp2:=
 RunsL.next [] 300 [.t true,.r (ptV p),.t false,Re hs]
  (Ro (Ai hlt (Ai hin (Ai (qaL hk) (Ai hle (Ai hs tI)))))) r
theorem qAV {l:List Pt} {k:Nat} {p:Pt} {x y:Int} (hk:l[k]?=some p) (hin:0≤(k:Int)∧(k:Int)<(l.length:Int)) (hlt:decide ((k:Int)<(l.length:Int))=true) (hle:decide (p.id≤y)=true):Rl 1 1 137 0 29 2 (qEB k l y) (qyz l x) (.ret) ([(2,.pv (.bool false))]) ([]):=
 RunsL.stop [] 300 [.t true,.r (ptV p),.t true] (fun h=>by cases h)
  (Ro (Ai hlt (Ai hin (Ai (qaL hk) (Ai hle tI)))))
theorem qBZ {l:List Pt} {k:Nat} {x y:Int} (hge:decide ((k:Int)<(l.length:Int))=false):Rl 1 1 137 0 29 2 (qEB k l y) (qyz l x) (.exit 0) ([(1,.pp 1 0),(3,.pv (iV (y)))]) (qyz l x):=
 RunsL.stop [] 300 [.t false] (fun h=>by cases h)
  (Ro (Ai hge tI))
theorem qD2 {l:List Pt} {x:Int} (r0:Rl 1 1 137 0 29 2 ([(1,.pp 1 0),(3,.pv (iV (-1))),(7,.ls 0 l.length),(8,.pv (iV (l.length:Int))),(9,.pv (iV ((0:Nat):Int)))]) (qyz l x) (.ret) ([(2,.pv (.bool false))]) ([])) :
 Fn 137 1 [qaP 0 x l] [(0,0,qak l)] (.pv (.bool false)) 0 []:=
 Fz [] [Lf r0]
  tI (Lo r0 [] tI)
abbrev qFd (l:List Pt) (x:Int) (y:Int):Prop:=Rl 1 1 137 0 29 2 ([(1,.pp 1 0),(3,.pv (iV (-1))),(7,.ls 0 l.length),(8,.pv (iV (l.length:Int))),(9,.pv (iV ((0:Nat):Int)))]) ([(1,0,.pv (iV x)),(1,1,.ls 0 l.length),(0,0,qak l)]) (.exit 0) ([(1,.pp 1 0),(3,.pv (iV (y)))]) ([(1,0,.pv (iV x)),(1,1,.ls 0 l.length),(0,0,qak l)])
theorem qEF {l:List Pt} {x y:Int} (r0:qFd l x y) (h1:decide (y<x)=false) :
 Fn 137 1 [qaP 0 x l] [(0,0,qak l)] (.pv (.bool false)) 0 []:=
 Fz [] [Lf r0,.t false]
  tI (Lo r0 [] (Ai h1 tI))
theorem qE9 {l:List Pt} {x y:Int} (r0:qFd l x y) (h1:decide (y<x)=true) (h2:decide (x≤1000000)=false) :
 Fn 137 1 [qaP 0 x l] [(0,0,qak l)] (.pv (.bool false)) 0 []:=
 Fz [] [Lf r0,.t true,.t false]
  tI (Lo r0 [] (Ai h1 (Ai h2 tI)))
theorem qEE {l:List Pt} {x y:Int} (r0:qFd l x y) (h1:decide (y<x)=true) (h2:decide (x≤1000000)=true) :
 Fn 137 1 [qaP 0 x l] [(0,0,qak l)] (.pv (.bool true)) 0 []:=
 Fz [] [Lf r0,.t true,.t true]
  tI (Lo r0 [] (Ai h1 (Ai h2 tI)))
abbrev qDG (k:Nat) (l:List Pt):TmL:=[(3,.mp 1),(9,.ls 0 l.length),(10,.pv (iV (l.length:Int))),(11,.pv (iV (k:Int)))]
theorem qAS {l m:List Pt} {k:Nat} {p:Pt} (hk:l[k]?=some p) (hin:0≤(k:Int)∧(k:Int)<(l.length:Int)) (hlt:decide ((k:Int)<(l.length:Int))=true) (hv:Pure Tryz.prog 148 #[qag p.a p.b] (.bool false)):Rl 1 1 138 0 29 2 (qDG k l) ([(1,0,.mrow (qcU (m))),(0,0,qak l)]) (.ret) ([(2,.pv (.bool false))]) ([]):=
 RunsL.stop [] 300 [.t true,.r (ptV p),Rf hv,.k] (fun h=>by cases h)
  (Ro (Ai hlt (Ai hin (Ai (qaL hk) (Ai hv tI)))))
theorem qBq {l m:List Pt} {k:Nat} {p:Pt} (hk:l[k]?=some p) (hin:0≤(k:Int)∧(k:Int)<(l.length:Int)) (hlt:decide ((k:Int)<(l.length:Int))=true) (hv:Pure Tryz.prog 148 #[qag p.a p.b] (.bool true)) (hL:qfD Tryz.prog 250 (qcU m) (qag p.a p.b) false (.bool true)):Rl 1 1 138 0 29 2 (qDG k l) ([(1,0,.mrow (qcU (m))),(0,0,qak l)]) (.ret) ([(2,.pv (.bool false))]) ([]):=
 RunsL.stop [] 300 [.t true,.r (ptV p),Rf hv,.k,Rf hv] (fun h=>by cases h)
  (Ro (Ai hlt (Ai hin (Ai (qaL hk) (Ai hv (Ai hL tI))))))
theorem qwE {l m:List Pt} {k:Nat} {p:Pt} (hk:l[k]?=some p) (hin:0≤(k:Int)∧(k:Int)<(l.length:Int)) (hlt:decide ((k:Int)<(l.length:Int))=true) (hv:Pure Tryz.prog 148 #[qag p.a p.b] (.bool true)) (hL:qfD Tryz.prog 250 (qcU m) (qag p.a p.b) false (.bool false)) (hP:qoW Tryz.prog 250 (qcU m) (qag p.a p.b) (.bool true) (qcU (m++[p]))) (hs:iV (IntKind.i64.wrap ((k:Int)+1))=iV (((k+1:Nat):Int))) {e:Exit} {tm2:TmL} {hp2:HpL}
 (r:Rl 1 1 138 0 29 2 ([(3,.mp 1),(9,.ls 0 l.length),(10,.pv (iV (l.length:Int))),(11,.pv (iV ((k+1:Nat):Int)))]) ([(1,0,.mrow (qcU (m++[p]))),(0,0,qak l)]) e tm2 hp2):Rl 1 1 138 0 29 2 (qDG k l) ([(1,0,.mrow (qcU (m))),(0,0,qak l)]) e tm2 hp2:=
 RunsL.next [] 300 [.t true,.r (ptV p),Rf hv,.k,.r (.bool false),.w (qcU (m++[p])),Re hs]
  (Ro (Ai hlt (Ai hin (Ai (qaL hk) (Ai hv (Ai hL (Ai hP (Ai hs tI)))))))) r
theorem qCn {l m:List Pt} {k:Nat} (hge:decide ((k:Int)<(l.length:Int))=false):Rl 1 1 138 0 29 2 (qDG k l) ([(1,0,.mrow (qcU (m))),(0,0,qak l)]) (.exit 0) ([]) ([]):=
 RunsL.stop [] 300 [.t false] (fun h=>by cases h)
  (Ro (Ai hge tI))
theorem qA3 {l:List Pt} (r0:Rl 1 1 138 0 29 2 ([(3,.mp 1),(9,.ls 0 l.length),(10,.pv (iV (l.length:Int))),(11,.pv (iV ((0:Nat):Int)))]) ([(1,0,.mrow (qcU ([]))),(0,0,qak l)]) (.ret) ([(2,.pv (.bool false))]) ([])) :
 Fn 138 1 [.ls 0 l.length] [(0,0,qak l)] (.pv (.bool false)) 0 []:=
 Fz [] [Lf r0]
  tI (Lo r0 [] tI)
theorem qEM {l:List Pt} (r0:Rl 1 1 138 0 29 2 ([(3,.mp 1),(9,.ls 0 l.length),(10,.pv (iV (l.length:Int))),(11,.pv (iV ((0:Nat):Int)))]) ([(1,0,.mrow (qcU ([]))),(0,0,qak l)]) (.exit 0) ([]) ([])) :
 Fn 138 1 [.ls 0 l.length] [(0,0,qak l)] (.pv (.bool true)) 0 []:=
 Fz [] [Lf r0]
  tI (Lo r0 [] tI)
theorem qrP {l:List Pt} {x:Int} (h2:decide ((l.length:Int)>200)=true) :
 Fn 88 1 [qaP 0 x l] [(0,0,qak l)] (.pv (iV (8))) 0 []:=
 Fz [] [.t true]
  tI (Ai h2 tI)
theorem qxs {l:List Pt} {x:Int} (h2:decide ((l.length:Int)>200)=false) (hn:Fn 137 1 [qaP 0 x l] [(0,0,qak l)] (.pv (.bool false)) 0 []) :
 Fn 88 1 [qaP 0 x l] [(0,0,qak l)] (.pv (iV (8))) 0 []:=
 Fz [] [.t false,Cf hn [0],.k]
  tI (Ai h2 (Co hn [0] 2 tI))
theorem qwe {l:List Pt} {x:Int} (h2:decide ((l.length:Int)>200)=false) (hn:Fn 137 1 [qaP 0 x l] [(0,0,qak l)] (.pv (.bool true)) 0 []) (hc:Fn 138 1 [.ls 0 l.length] [(0,0,qak l)] (.pv (.bool false)) 0 []) :
 Fn 88 1 [qaP 0 x l] [(0,0,qak l)] (.pv (iV (8))) 0 []:=
 Fz [] [.t false,Cf hn [0],.k,Cf hc [0],.k]
  tI (Ai h2 (Co hn [0] 2 (Co hc [0] 2 tI)))
theorem qB5 {l:List Pt} {x:Int} (h2:decide ((l.length:Int)>200)=false) (hn:Fn 137 1 [qaP 0 x l] [(0,0,qak l)] (.pv (.bool true)) 0 []) (hc:Fn 138 1 [.ls 0 l.length] [(0,0,qak l)] (.pv (.bool true)) 0 []) :
 Fn 88 1 [qaP 0 x l] [(0,0,qak l)] (.pv (iV (0))) 0 []:=
 Fz [] [.t false,Cf hn [0],.k,Cf hc [0],.k]
  tI (Ai h2 (Co hn [0] 2 (Co hc [0] 2 tI)))
end Go.Proofs.YtkjaanhddkkodaaGreat

namespace Go.Proofs.YtkjaanhddkkodaaGreat
set_option maxRecDepth 100000
open Go.RowKit
theorem qtb (a:Int):∃ b,Pure Tryz.prog 194 #[iV a] (.bool b)∧(b=true↔0≤a∧a≤65535):=by
 by_cases h0:0≤a
 ·by_cases h1:a≤65535
  ·exact⟨true,qEo (dt h0) (dt h1),⟨fun _=>⟨h0,h1⟩,fun _=>rfl⟩⟩
  ·exact⟨false,qFH (dt h0) (df h1),⟨fun h=>(by cases h),fun h=>(h1 h.2).elim⟩⟩
 ·exact⟨false,qFP (df h0),⟨fun h=>(by cases h),fun h=>(h0 h.1).elim⟩⟩
theorem qkw (a b:Int):Pure Tryz.prog 148 #[qag a b] (.bool (qcR a b)):=by
 obtain⟨u,hu,hu2⟩:=qtb a
 obtain⟨v,hv,hv2⟩:=qtb b
 cases u
 ·rw[show qcR a b=false by
   cases h:qcR a b
   ·rfl
   ·have:=qbq.1 h;have:=hu2.2 ⟨this.1,this.2.1⟩;cases this]
  exact qHl hu
 ·cases v
  ·rw[show qcR a b=false by
    cases h:qcR a b
    ·rfl
    ·have:=qbq.1 h;have:=hv2.2 ⟨this.2.2.1,this.2.2.2.1⟩;cases this]
   exact qHt hu hv
  ·have h1:=hu2.1 rfl
   have h2:=hv2.1 rfl
   by_cases hab:a=b
   ·rw[show qcR a b=false by
     cases h:qcR a b
     ·rfl
     ·exact ((qbq.1 h).2.2.2.2 hab).elim]
    exact qEw hu hv (by simpa using hab)
   ·rw[qbq.2 ⟨h1.1,h1.2,h2.1,h2.2,hab⟩]
    exact qGv hu hv (by simpa using hab)
def lst (m:List Pt):Int:=match m.getLast? with
 | none=>-1
 | some p=>p.id
theorem qi9:lst [] = -1:=rfl
theorem qe8 (m:List Pt) (p:Pt):lst (m++[p])=p.id:=by simp[lst]
abbrev nfT (l:List Pt) (k:Nat) (y:Int):List (Nat×SV):=[(1,.pp 1 0),(3,.pv (iV (y))),(7,.ls 0 l.length),(8,.pv (iV (l.length:Int))),(9,.pv (iV (k:Int)))]
abbrev nfH (x:Int) (l:List Pt):List (Nat×Nat×SV):=[(1,0,.pv (iV x)),(1,1,.ls 0 l.length),(0,0,qak l)]
def Inc (l:List Pt):Prop:=∀ (k:Nat) (p:Pt),l[k]?=some p→lst (l.take k)<p.id
theorem Inc.up {l:List Pt} (h:Inc l):Up l:=fun k p q hp hq=>by
 have:=h (k+1) q hq
 rw[qbV hp,qe8] at this
 exact this
theorem Inc.lo {l:List Pt} (h:Inc l):∀ p∈l,0≤p.id:=by
 have key:∀ (k:Nat) (p:Pt),l[k]?=some p→0≤p.id:=by
  intro k
  induction k with
  | zero=>intro p hp;have:=h 0 p hp;rw[List.take_zero,qi9] at this;omega
  | succ k ih=>
   intro p hp
   obtain⟨q,hq⟩:=qah (l:=l) (k:=k) (by have:=qai hp;omega)
   have:=ih q hq
   have:=h.up k q p hq hp
   omega
 intro p hp
 obtain⟨k,hk,rfl⟩:=List.getElem_of_mem hp
 exact key k _ (List.getElem?_eq_getElem hk)
theorem Inc.of {l:List Pt} (h:Up l) (h0:∀ p∈l,0≤p.id):Inc l:=fun k p hp=>by
 cases k with
 | zero=>rw[List.take_zero,qi9];have:=h0 p (List.mem_of_getElem? hp);omega
 | succ k=>
  obtain⟨q,hq⟩:=qah (l:=l) (k:=k) (by have:=qai hp;omega)
  rw[qbV hq,qe8]
  exact h k q p hq hp
theorem Inc.lt {l:List Pt} (h:Inc l) {x:Int}:lst l<x↔(∀ p∈l,p.id<x)∧0≤x:=by
 have hup:=h.up
 have hlo:=h.lo
 rcases List.eq_nil_or_concat l with rfl | ⟨m,q,rfl⟩
 ·rw[qi9];exact⟨fun h=>⟨fun p hp=>by simp at hp,by omega⟩,fun h=>by omega⟩
 ·rw[List.concat_eq_append,qe8]
  rw[List.concat_eq_append] at hup hlo
  refine⟨fun hx=>⟨fun p hp=>?_,by have:=hlo q (by simp);omega⟩,fun hx=>hx.1 q (by simp)⟩
  obtain⟨k,hk,rfl⟩:=List.getElem_of_mem hp
  rcases Nat.lt_or_ge k m.length with h1 | h1
  ·have:=hup.mono h1 (List.getElem?_eq_getElem hk) (show (m++[q])[m.length]?=some q by simp)
   omega
  ·have hkm:k=m.length:=by simp at hk;omega
   subst hkm
   simpa using hx
theorem qyP (x:Int) {l:List Pt} (hn:l.length≤1000000):∃ b,Fn 137 1 [qaP 0 x l] [(0,0,qak l)] (.pv (.bool b)) 0 []∧(b=true↔Inc l∧(∀ p∈l,p.id<x)∧0≤x∧x≤1000000):=by
 have step:∀ k,(∀ j,j<k→∀ p,l[j]?=some p→lst (l.take j)<p.id)→∀ {e:Exit} {tm2:TmL} {hp2:HpL},k≤l.length→
  Rl 1 1 137 0 29 2 (nfT l k (lst (l.take k))) (nfH x l) e tm2 hp2→Rl 1 1 137 0 29 2 (nfT l 0 (-1)) (nfH x l) e tm2 hp2:=by
  intro k hk e tm2 hp2 hkl r
  refine RunsL.rounds (fun j=>nfT l j (lst (l.take j))) (fun _=>nfH x l) (N:=k) k 0 (Nat.zero_add _) (fun j _ hj r=>?_) r
  obtain⟨p,hp⟩:=qah (l:=l) (k:=j) (by omega)
  refine qvZ hp (qao (qai hp)) (dt (by have:=qai hp;omega)) (df (by have:=hk j hj p hp;omega)) (qar (by omega)) ?_
  have e1:lst (l.take (j+1))=p.id:=by rw[qbV hp,qe8]
  rw[← e1]
  exact r
 rcases qaZ (fun j=>∀ p,l[j]?=some p→lst (l.take j)<p.id) l.length with h | ⟨j,hj,hb,hf⟩
 ·have hi:Inc l:=fun k p hp=>h k (qai hp) p hp
  have hend:=step l.length (fun j hj=>h j hj) (Nat.le_refl _) (e:=.exit 0) (qBZ (df (by omega)))
  rw[List.take_length] at hend
  by_cases h1:lst l<x
  ·by_cases h2:x≤1000000
   ·exact⟨true,qEE hend (dt h1) (dt h2),⟨fun _=>⟨hi,(hi.lt.1 h1).1,(hi.lt.1 h1).2,h2⟩,fun _=>rfl⟩⟩
   ·exact⟨false,qE9 hend (dt h1) (df h2),⟨fun h=>(by cases h),fun h=>(h2 h.2.2.2).elim⟩⟩
  ·exact⟨false,qEF hend (df h1),⟨fun h=>(by cases h),fun h=>(h1 (hi.lt.2 ⟨h.2.1,h.2.2.1⟩)).elim⟩⟩
 ·simp only[Classical.not_forall,not_imp] at hb
  obtain⟨p,hp,hlt⟩:=hb
  exact⟨false,qD2 (step j hf (by omega) (qAV hp (qao (qai hp)) (dt (by omega)) (dt (by omega)))),⟨fun h=>(by cases h),fun h=>(hlt (h.1 j p hp)).elim⟩⟩
abbrev cfT (l:List Pt) (k:Nat):List (Nat×SV):=[(3,.mp 1),(9,.ls 0 l.length),(10,.pv (iV (l.length:Int))),(11,.pv (iV (k:Int)))]
abbrev cfH (l m:List Pt):List (Nat×Nat×SV):=[(1,0,.mrow (qcU (m))),(0,0,qak l)]
theorem qkU {l:List Pt} {k:Nat} {q:Pt} (h:q∈l.take k):∃ i,i<k∧l[i]?=some q:=by
 obtain⟨i,hi,rfl⟩:=List.getElem_of_mem h
 have hi':i<k∧i<l.length:=by simp at hi;omega
 exact⟨i,hi'.1,by rw[List.getElem_take];exact List.getElem?_eq_getElem hi'.2⟩
theorem qsU {l:List Pt} {i k:Nat} {q:Pt} (h:l[i]?=some q) (hik:i<k):q∈l.take k:=List.mem_of_getElem? (i:=i) (by rw[List.getElem?_take,if_pos hik];exact h)
theorem qBm {l:List Pt} (hn:l.length≤1000000):∃ b,FnL Tryz.prog 138 1 [.ls 0 l.length] [(0,0,qak l)] (.pv (.bool b)) 0 []∧(b=true↔(∀ p∈l,qcR p.a p.b=true)∧Dis l):=by
 have step:∀ k,(∀ j,j<k→∀ p,l[j]?=some p→qcR p.a p.b=true∧∀ q∈l.take j,¬ (q.a=p.a∧q.b=p.b))→∀ {e:Exit} {tm2:TmL} {hp2:HpL},k≤l.length→
  RunsL Tryz.prog 1 1 (qfC Tryz.prog 138 0) 29 2 (cfT l k) (cfH l (l.take k)) e tm2 hp2→RunsL Tryz.prog 1 1 (qfC Tryz.prog 138 0) 29 2 (cfT l 0) (cfH l []) e tm2 hp2:=by
  intro k hk e tm2 hp2 hkl r
  refine RunsL.rounds (fun j=>cfT l j) (fun j=>cfH l (l.take j)) (N:=k) k 0 (Nat.zero_add _) (fun j _ hj r=>?_) r
  obtain⟨p,hp⟩:=qah (l:=l) (k:=j) (by omega)
  obtain⟨h1,h2⟩:=hk j hj p hp
  refine qwE hp (qao (qai hp)) (dt (by have:=qai hp;omega)) (h1▸qkw p.a p.b) (quk h2) (qsc h2) (qar (by omega)) ?_
  rw[← qbV hp]
  exact r
 rcases qaZ (fun j=>∀ p,l[j]?=some p→qcR p.a p.b=true∧∀ q∈l.take j,¬ (q.a=p.a∧q.b=p.b)) l.length with h | ⟨j,hj,hb,hf⟩
 ·refine⟨true,qEM (step l.length (fun j hj=>h j hj) (Nat.le_refl _) (qCn (df (by omega)))),⟨fun _=>⟨fun p hp=>?_,fun i k p q hik hp hq=>?_⟩,fun _=>rfl⟩⟩
  ·obtain⟨k,hk,rfl⟩:=List.getElem_of_mem hp
   exact (h k hk _ (List.getElem?_eq_getElem hk)).1
  ·exact (h k (qai hq) q hq).2 p (qsU hp hik)
 ·simp only[Classical.not_forall,not_imp] at hb
  obtain⟨p,hp,hnp⟩:=hb
  by_cases hv:qcR p.a p.b=true
  ·have:∃ q∈l.take j,q.a=p.a∧q.b=p.b:=Classical.byContradiction fun hno=>hnp ⟨hv,fun q hq e=>hno ⟨q,hq,e⟩⟩
   obtain⟨q,hq,he⟩:=this
   refine⟨false,qA3 (step j hf (by omega) (qBq hp (qao hj) (dt (by omega)) (hv▸qkw p.a p.b) (qqm hq he))),⟨fun h=>(by cases h),fun h=>?_⟩⟩
   obtain⟨i,hi,hq'⟩:=qkU hq
   exact (h.2 i j q p hi hq' hp he).elim
  ·have hv':qcR p.a p.b=false:=by simpa using hv
   exact⟨false,qA3 (step j hf (by omega) (qAS hp (qao hj) (dt (by omega)) (hv'▸qkw p.a p.b))),⟨fun h=>(by cases h),fun h=>(hv (h.1 p (List.mem_of_getElem? hp))).elim⟩⟩
theorem qhh (x:Int) (l:List Pt):Fn 88 1 [qaP 0 x l] [(0,0,qak l)] (.pv (iV (qym x l))) 0 []:=by
 by_cases h0:l.length≤200
 ·obtain⟨u,hu,hu2⟩:=qyP x (l:=l) (by omega)
  obtain⟨v,hv,hv2⟩:=qBm (l:=l) (by omega)
  cases u
  ·rw[qbC fun h=>by have:=hu2.2 ⟨Inc.of h.up h.lo,h.hi,h.nx.1,h.nx.2⟩;cases this]
   exact qxs (df (by omega)) hu
  ·cases v
   ·rw[qbC fun h=>by have:=hv2.2 ⟨h.ok,h.dis⟩;cases this]
    exact qwe (df (by omega)) hu hv
   ·obtain⟨a1,a2,a3,a4⟩:=hu2.1 rfl
    obtain⟨b1,b2⟩:=hv2.1 rfl
    rw[qdr ⟨h0,b1,a1.up,a1.lo,a2,⟨a3,a4⟩,b2⟩]
    exact qB5 (df (by omega)) hu hv
 ·rw[qbC fun h=>h0 h.len]
  exact qrP (dt (by omega))
end Go.Proofs.YtkjaanhddkkodaaGreat
