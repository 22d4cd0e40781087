/-
  Joined: Kd, Kb, Kc. Conditions: none.
-/
import Derived.Test.YtkjaanhddkkodaaGreatW24
import Derived.Test.YtkjaanhddkkodaaGreatW18
namespace Go.Proofs.YtkjaanhddkkodaaGreat
set_option maxRecDepth 100000
open Go.RowKit
theorem qFq {a b:Int} (h1:decide (a≥0)=false) :
 Pure Tryz.prog 71 #[qaf a b] (.bool false):=
 qad (args:=[qaf a b]) 300 [.t false]
  (Ai rfl (Ai h1 tI)) (by kernel_rfl)
theorem qFA {a b:Int} (h1:decide (a≥0)=true) (h2:decide (a≤65535)=false) :
 Pure Tryz.prog 71 #[qaf a b] (.bool false):=
 qad (args:=[qaf a b]) 300 [.t true,.t false]
  (Ai rfl (Ai h1 (Ai h2 tI))) (by kernel_rfl)
theorem qFv {a b:Int} (h1:decide (a≥0)=true) (h2:decide (a≤65535)=true) (h3:decide (b≥0)=false) :
 Pure Tryz.prog 71 #[qaf a b] (.bool false):=
 qad (args:=[qaf a b]) 300 [.t true,.t true,.t false]
  (Ai rfl (Ai h1 (Ai h2 (Ai h3 tI)))) (by kernel_rfl)
theorem qFC {a b:Int} (h1:decide (a≥0)=true) (h2:decide (a≤65535)=true) (h3:decide (b≥0)=true) (h4:decide (b≤65535)=false) :
 Pure Tryz.prog 71 #[qaf a b] (.bool false):=
 qad (args:=[qaf a b]) 300 [.t true,.t true,.t true,.t false]
  (Ai rfl (Ai h1 (Ai h2 (Ai h3 (Ai h4 tI))))) (by kernel_rfl)
theorem qC0 {a b:Int} (h1:decide (a≥0)=true) (h2:decide (a≤65535)=true) (h3:decide (b≥0)=true) (h4:decide (b≤65535)=true) (hn:(a !=b)=true) :
 Pure Tryz.prog 71 #[qaf a b] (.bool true):=
 qad (args:=[qaf a b]) 300 [.t true,.t true,.t true,.t true,.t true]
  (Ai rfl (Ai h1 (Ai h2 (Ai h3 (Ai h4 (Ai hn tI)))))) (by kernel_rfl)
theorem qEs {a b:Int} (h1:decide (a≥0)=true) (h2:decide (a≤65535)=true) (h3:decide (b≥0)=true) (h4:decide (b≤65535)=true) (hn:(a !=b)=false) :
 Pure Tryz.prog 71 #[qaf a b] (.bool false):=
 qad (args:=[qaf a b]) 300 [.t true,.t true,.t true,.t true,.t false]
  (Ai rfl (Ai h1 (Ai h2 (Ai h3 (Ai h4 (Ai hn tI)))))) (by kernel_rfl)
abbrev qjh (l:List Pt) (x:Int):HpL:=[(1,0,.pv (iV x)),(1,1,.ls 0 l.length),(0,0,qal l)]
abbrev quU (k:Nat):TmL:=[(1,.pp 1 0),(3,.pv (iV (k:Int)))]
theorem qDQ {l:List Pt} {k:Nat} {p:Pt} {x:Int} (hk:l[k]?=some p) (hin:0≤(k:Int)∧(k:Int)<(l.length:Int)) (hlt:decide ((k:Int)<(l.length:Int))=true) (hv:Pure Tryz.prog 71 #[qaf p.a p.b] (.bool false)):Rl 1 1 76 0 78 2 (quU k) (qjh l x) (.ret) ([(2,.pv (iV 8))]) ([]):=
 RunsL.stop [] 300 [.t true,.r (ptV p),Rf hv,.k] (fun h=>by cases h)
  (Ro (Ai hlt (Ai hin (Ai (qaN hk) (Ai hv tI)))))
theorem qDE {l:List Pt} {k:Nat} {p:Pt} {x:Int} (hk:l[k]?=some p) (hin:0≤(k:Int)∧(k:Int)<(l.length:Int)) (hlt:decide ((k:Int)<(l.length:Int))=true) (hv:Pure Tryz.prog 71 #[qaf p.a p.b] (.bool true)) (h1:decide (p.id<0)=true):Rl 1 1 76 0 78 2 (quU k) (qjh l x) (.ret) ([(2,.pv (iV 8))]) ([]):=
 RunsL.stop [] 300 [.t true,.r (ptV p),Rf hv,.k,.t true] (fun h=>by cases h)
  (Ro (Ai hlt (Ai hin (Ai (qaN hk) (Ai hv (Ai h1 tI))))))
theorem qDo {l:List Pt} {k:Nat} {p:Pt} {x:Int} (hk:l[k]?=some p) (hin:0≤(k:Int)∧(k:Int)<(l.length:Int)) (hlt:decide ((k:Int)<(l.length:Int))=true) (hv:Pure Tryz.prog 71 #[qaf p.a p.b] (.bool true)) (h1:decide (p.id<0)=false) (h2:decide (p.id≥x)=true):Rl 1 1 76 0 78 2 (quU k) (qjh l x) (.ret) ([(2,.pv (iV 8))]) ([]):=
 RunsL.stop [] 300 [.t true,.r (ptV p),Rf hv,.k,.t false,.t true] (fun h=>by cases h)
  (Ro (Ai hlt (Ai hin (Ai (qaN hk) (Ai hv (Ai h1 (Ai h2 tI)))))))
abbrev qzb (k:Nat):TmL:=[(1,.pp 1 0),(3,.pv (iV ((k+1:Nat):Int)))]
theorem qEj {l:List Pt} {k:Nat} {p q:Pt} {x:Int} (hk:l[k+1]?=some p) (hin:0≤((k+1:Nat):Int)∧((k+1:Nat):Int)<(l.length:Int)) (hlt:decide (((k+1:Nat):Int)<(l.length:Int))=true) (hv:Pure Tryz.prog 71 #[qaf p.a p.b] (.bool true)) (h1:decide (p.id<0)=false) (h2:decide (p.id≥x)=false) (hz:decide (((k+1:Nat):Int)>0)=true) (hq:l[k]?=some q) (hin0:0≤(k:Int)∧(k:Int)<(l.length:Int)) (hm:iV (IntKind.i64.wrap (((k+1:Nat):Int)-1))=iV (k:Int)) (hg:decide (q.id≥p.id)=true):Rl 1 1 76 0 78 2 (qzb k) (qjh l x) (.ret) ([(2,.pv (iV 8))]) ([]):=
 RunsL.stop [] 300 [.t true,.r (ptV p),Rf hv,.k,.t false,.t false,.t true,.r (iV (k:Int)),.r (iV q.id),.t true] (fun h=>by cases h)
  (Ro (Ai hlt (Ai hin (Ai (qaN hk) (Ai hv (Ai h1 (Ai h2 (Ai hz (Ai hm (Ai hin0 (Ai (qcO hq) (Ai hg tI))))))))))))
abbrev quH (l:List Pt) (p:Pt) (x:Int):HpL:=[(1,0,.pv (iV x)),(1,1,.ls 0 l.length),(2,0,.pv (iV p.id)),(2,1,.pv (iV p.a)),(2,2,.pv (iV p.b)),(0,0,qal l)]
theorem qDV {l:List Pt} {k:Nat} {p:Pt} {x:Int} (hk:l[k]?=some p) (hin:0≤(k:Int)∧(k:Int)<(l.length:Int)) (hlt:decide ((k:Int)<(l.length:Int))=true) (hv:Pure Tryz.prog 71 #[qaf p.a p.b] (.bool true)) (h1:decide (p.id<0)=false) (h2:decide (p.id≥x)=false) (hz:decide ((k:Int)>0)=false) (r1:Rl 1 1 76 1 78 3 ([(1,.pp 1 0),(3,.pv (iV (k:Int))),(4,.pp 2 0),(5,.pv (iV ((0:Nat):Int)))]) (quH l p x) (.exit 2) (quU k) (qjh l x)) (hs:iV (IntKind.i64.wrap ((k:Int)+1))=iV (((k+1:Nat):Int))) {e:Exit} {tm2:TmL} {hp2:HpL}
 (r:Rl 1 1 76 0 78 2 (qzb k) (qjh l x) e tm2 hp2):Rl 1 1 76 0 78 2 (quU k) (qjh l x) e tm2 hp2:=
 RunsL.next [] 300 [.t true,.r (ptV p),Rf hv,.k,.t false,.t false,.t false,Lf r1,Re hs]
  (Ro (Ai hlt (Ai hin (Ai (qaN hk) (Ai hv (Ai h1 (Ai h2 (Ai hz (Lo r1 [] (Ai hs tI)))))))))) r
theorem qCU {l:List Pt} {k:Nat} {p q:Pt} {x:Int} (hk:l[k+1]?=some p) (hin:0≤((k+1:Nat):Int)∧((k+1:Nat):Int)<(l.length:Int)) (hlt:decide (((k+1:Nat):Int)<(l.length:Int))=true) (hv:Pure Tryz.prog 71 #[qaf p.a p.b] (.bool true)) (h1:decide (p.id<0)=false) (h2:decide (p.id≥x)=false) (hz:decide (((k+1:Nat):Int)>0)=true) (hq:l[k]?=some q) (hin0:0≤(k:Int)∧(k:Int)<(l.length:Int)) (hm:iV (IntKind.i64.wrap (((k+1:Nat):Int)-1))=iV (k:Int)) (hg:decide (q.id≥p.id)=false) (r1:Rl 1 1 76 1 78 3 ([(1,.pp 1 0),(3,.pv (iV ((k+1:Nat):Int))),(4,.pp 2 0),(5,.pv (iV ((0:Nat):Int)))]) (quH l p x) (.exit 2) (qzb k) (qjh l x)) (hs:iV (IntKind.i64.wrap (((k+1:Nat):Int)+1))=iV (((k+1+1:Nat):Int))) {e:Exit} {tm2:TmL} {hp2:HpL}
 (r:Rl 1 1 76 0 78 2 ([(1,.pp 1 0),(3,.pv (iV ((k+1+1:Nat):Int)))]) (qjh l x) e tm2 hp2):Rl 1 1 76 0 78 2 (qzb k) (qjh l x) e tm2 hp2:=
 RunsL.next [] 300 [.t true,.r (ptV p),Rf hv,.k,.t false,.t false,.t true,.r (iV (k:Int)),.r (iV q.id),.t false,Lf r1,.r (iV (((k+1+1:Nat):Int)))]
  (Ro (Ai hlt (Ai hin (Ai (qaN hk) (Ai hv (Ai h1 (Ai h2 (Ai hz (Ai hm (Ai hin0 (Ai (qcO hq) (Ai hg (Lo r1 [] (Ai hs tI)))))))))))))) r
theorem qnb {l:List Pt} {k:Nat} {p q:Pt} {x:Int} (hk:l[k+1]?=some p) (hin:0≤((k+1:Nat):Int)∧((k+1:Nat):Int)<(l.length:Int)) (hlt:decide (((k+1:Nat):Int)<(l.length:Int))=true) (hv:Pure Tryz.prog 71 #[qaf p.a p.b] (.bool true)) (h1:decide (p.id<0)=false) (h2:decide (p.id≥x)=false) (hz:decide (((k+1:Nat):Int)>0)=true) (hq:l[k]?=some q) (hin0:0≤(k:Int)∧(k:Int)<(l.length:Int)) (hm:iV (IntKind.i64.wrap (((k+1:Nat):Int)-1))=iV (k:Int)) (hg:decide (q.id≥p.id)=false) (r1:Rl 1 1 76 1 78 3 ([(1,.pp 1 0),(3,.pv (iV ((k+1:Nat):Int))),(4,.pp 2 0),(5,.pv (iV ((0:Nat):Int)))]) (quH l p x) (.ret) ([(2,.pv (iV 8))]) ([])):Rl 1 1 76 0 78 2 (qzb k) (qjh l x) (.ret) ([(2,.pv (iV 8))]) ([]):=
 RunsL.stop [] 300 [.t true,.r (ptV p),Rf hv,.k,.t false,.t false,.t true,.r (iV (k:Int)),.r (iV q.id),.t false,Lf r1] (fun h=>by cases h)
  (Ro (Ai hlt (Ai hin (Ai (qaN hk) (Ai hv (Ai h1 (Ai h2 (Ai hz (Ai hm (Ai hin0 (Ai (qcO hq) (Ai hg (Lo r1 [] tI)))))))))))))
theorem qtA {l:List Pt} {k:Nat} {x:Int} (hge:decide ((k:Int)<(l.length:Int))=false):Rl 1 1 76 0 78 2 (quU k) (qjh l x) (.exit 0) ([]) ([]):=
 RunsL.stop [] 300 [.t false] (fun h=>by cases h)
  (Ro (Ai hge tI))
abbrev qD9 (j:Nat) (k:Nat):TmL:=[(1,.pp 1 0),(3,.pv (iV (k:Int))),(4,.pp 2 0),(5,.pv (iV (j:Int)))]
theorem qng {l:List Pt} {k j:Nat} {p q:Pt} {x:Int} (hq:l[j]?=some q) (hin:0≤(j:Int)∧(j:Int)<(l.length:Int)) (hlt:decide ((j:Int)<(k:Int))=true) (he:(q.a==p.a&&(q.b==p.b&&true))=false) (hs:iV (IntKind.i64.wrap ((j:Int)+1))=iV (((j+1:Nat):Int))) {e:Exit} {tm2:TmL} {hp2:HpL}
 (r:Rl 1 1 76 1 78 3 ([(1,.pp 1 0),(3,.pv (iV (k:Int))),(4,.pp 2 0),(5,.pv (iV ((j+1:Nat):Int)))]) (quH l p x) e tm2 hp2):Rl 1 1 76 1 78 3 (qD9 j k) (quH l p x) e tm2 hp2:=
 RunsL.next [] 300 [.t true,.r (qaf q.a q.b),.t false,Re hs]
  (Ro (Ai hlt (Ai hin (Ai (qdv hq) (Ai he (Ai hs tI)))))) r
theorem qoP {l:List Pt} {k j:Nat} {p q:Pt} {x:Int} (hq:l[j]?=some q) (hin:0≤(j:Int)∧(j:Int)<(l.length:Int)) (hlt:decide ((j:Int)<(k:Int))=true) (he:(q.a==p.a&&(q.b==p.b&&true))=true):Rl 1 1 76 1 78 3 (qD9 j k) (quH l p x) (.ret) ([(2,.pv (iV 8))]) ([]):=
 RunsL.stop [] 300 [.t true,.r (qaf q.a q.b),.t true] (fun h=>by cases h)
  (Ro (Ai hlt (Ai hin (Ai (qdv hq) (Ai he tI)))))
theorem qq7 {l:List Pt} {k j:Nat} {p:Pt} {x:Int} (hge:decide ((j:Int)<(k:Int))=false):Rl 1 1 76 1 78 3 (qD9 j k) (quH l p x) (.exit 2) (quU k) (qjh l x):=
 RunsL.stop [] 300 [.t false] (fun h=>by cases h)
  (Ro (Ai hge tI))
theorem qpq {l:List Pt} {x:Int} (g1:decide ((l.length:Int)>200)=true) :
 Fn 76 1 [qaP 0 x l] [(0,0,qal l)] (.pv (iV (8))) 0 []:=
 Fz [] [.t true]
  tI (Ai g1 tI)
theorem qvM {l:List Pt} {x:Int} (g1:decide ((l.length:Int)>200)=false) (g2:decide (x<0)=true) :
 Fn 76 1 [qaP 0 x l] [(0,0,qal l)] (.pv (iV (8))) 0 []:=
 Fz [] [.t false,.t true]
  tI (Ai g1 (Ai g2 tI))
theorem qs6 {l:List Pt} {x:Int} (g1:decide ((l.length:Int)>200)=false) (g2:decide (x<0)=false) (g3:decide (x>1000000)=true) :
 Fn 76 1 [qaP 0 x l] [(0,0,qal l)] (.pv (iV (8))) 0 []:=
 Fz [] [.t false,.t false,.t true]
  tI (Ai g1 (Ai g2 (Ai g3 tI)))
theorem qvV {l:List Pt} {x:Int} (g1:decide ((l.length:Int)>200)=false) (g2:decide (x<0)=false) (g3:decide (x>1000000)=false) (r0:Rl 1 1 76 0 78 2 ([(1,.pp 1 0),(3,.pv (iV ((0:Nat):Int)))]) (qjh l x) (.ret) ([(2,.pv (iV 8))]) ([])) :
 Fn 76 1 [qaP 0 x l] [(0,0,qal l)] (.pv (iV (8))) 0 []:=
 Fz [] [.t false,.t false,.t false,Lf r0]
  tI (Ai g1 (Ai g2 (Ai g3 (Lo r0 [] tI))))
theorem qAK {l:List Pt} {x:Int} (g1:decide ((l.length:Int)>200)=false) (g2:decide (x<0)=false) (g3:decide (x>1000000)=false) (r0:Rl 1 1 76 0 78 2 ([(1,.pp 1 0),(3,.pv (iV ((0:Nat):Int)))]) (qjh l x) (.exit 0) ([]) ([])) :
 Fn 76 1 [qaP 0 x l] [(0,0,qal l)] (.pv (iV (0))) 0 []:=
 Fz [] [.t false,.t false,.t false,Lf r0]
  tI (Ai g1 (Ai g2 (Ai g3 (Lo r0 [] tI))))
end Go.Proofs.YtkjaanhddkkodaaGreat

namespace Go.Proofs.YtkjaanhddkkodaaGreat
set_option maxRecDepth 100000
open Go.RowKit
theorem qD6 {a:Int} (h0:decide (0≤a)=false) :
 Pure Tryz.prog 194 #[iV a] (.bool false):=
 qad (args:=[iV a]) 300 [.t false]
  (Ai rfl (Ai h0 tI)) (by kernel_rfl)
theorem qEi {a:Int} (h0:decide (0≤a)=true) (h1:decide (a≤65535)=false) :
 Pure Tryz.prog 194 #[iV a] (.bool false):=
 qad (args:=[iV a]) 300 [.t true,.t false]
  (Ai rfl (Ai h0 (Ai h1 tI))) (by kernel_rfl)
theorem qDP {a:Int} (h0:decide (0≤a)=true) (h1:decide (a≤65535)=true) :
 Pure Tryz.prog 194 #[iV a] (.bool true):=
 qad (args:=[iV a]) 300 [.t true,.t true]
  (Ai rfl (Ai h0 (Ai h1 tI))) (by kernel_rfl)
theorem qFF {a b:Int} (ha:Pure Tryz.prog 194 #[iV a] (.bool false)) :
 Pure Tryz.prog 148 #[qaf a b] (.bool false):=
 qad (args:=[qaf a b]) 300 [Rf ha]
  (Ai rfl (Ai ha tI)) (by kernel_rfl)
theorem qFt {a b:Int} (ha:Pure Tryz.prog 194 #[iV a] (.bool true)) (hb:Pure Tryz.prog 194 #[iV b] (.bool false)) :
 Pure Tryz.prog 148 #[qaf a b] (.bool false):=
 qad (args:=[qaf a b]) 300 [Rf ha,Rf hb]
  (Ai rfl (Ai ha (Ai hb tI))) (by kernel_rfl)
theorem qDC {a b:Int} (ha:Pure Tryz.prog 194 #[iV a] (.bool true)) (hb:Pure Tryz.prog 194 #[iV b] (.bool true)) (hn:(a !=b)=true) :
 Pure Tryz.prog 148 #[qaf a b] (.bool true):=
 qad (args:=[qaf a b]) 300 [Rf ha,Rf ha,.t true]
  (Ai rfl (Ai ha (Ai hb (Ai hn tI)))) (by kernel_rfl)
theorem qCk {a b:Int} (ha:Pure Tryz.prog 194 #[iV a] (.bool true)) (hb:Pure Tryz.prog 194 #[iV b] (.bool true)) (hn:(a !=b)=false) :
 Pure Tryz.prog 148 #[qaf a b] (.bool false):=
 qad (args:=[qaf a b]) 300 [Rf ha,Rf ha,.t false]
  (Ai rfl (Ai ha (Ai hb (Ai hn tI)))) (by kernel_rfl)
abbrev qwK (l:List Pt) (x:Int):HpL:=[(1,0,.pv (iV x)),(1,1,.ls 0 l.length),(0,0,qal l)]
abbrev qCm (k:Nat) (l:List Pt) (y:Int):TmL:=[(1,.pp 1 0),(3,.pv (iV (y))),(7,.ls 0 l.length),(8,.pv (iV (l.length:Int))),(9,.pv (iV (k:Int)))]
theorem quG {l:List Pt} {k:Nat} {p:Pt} {x y:Int} (hk:l[k]?=some p) (hin:0≤(k:Int)∧(k:Int)<(l.length:Int)) (hlt:decide ((k:Int)<(l.length:Int))=true) (hle:decide (p.id≤y)=false) (hs:iV (IntKind.i64.wrap ((k:Int)+1))=iV (((k+1:Nat):Int))) {e:Exit} {tm2:TmL} {hp2:HpL}
 (r:Rl 1 1 137 0 29 2 ([(1,.pp 1 0),(3,.pv (iV (p.id))),(7,.ls 0 l.length),(8,.pv (iV (l.length:Int))),(9,.pv (iV ((k+1:Nat):Int)))]) (qwK l x) e tm2 hp2):Rl 1 1 137 0 29 2 (qCm k l y) (qwK l x) e tm2 hp2:=
 RunsL.next [] 300 [.t true,.r (ptV p),.t false,Re hs]
  (Ro (Ai hlt (Ai hin (Ai (qaN hk) (Ai hle (Ai hs tI)))))) r
theorem qzQ {l:List Pt} {k:Nat} {p:Pt} {x y:Int} (hk:l[k]?=some p) (hin:0≤(k:Int)∧(k:Int)<(l.length:Int)) (hlt:decide ((k:Int)<(l.length:Int))=true) (hle:decide (p.id≤y)=true):Rl 1 1 137 0 29 2 (qCm k l y) (qwK l x) (.ret) ([(2,.pv (.bool false))]) ([]):=
 RunsL.stop [] 300 [.t true,.r (ptV p),.t true] (fun h=>by cases h)
  (Ro (Ai hlt (Ai hin (Ai (qaN hk) (Ai hle tI)))))
theorem qyn {l:List Pt} {k:Nat} {x y:Int} (hge:decide ((k:Int)<(l.length:Int))=false):Rl 1 1 137 0 29 2 (qCm k l y) (qwK l x) (.exit 0) ([(1,.pp 1 0),(3,.pv (iV (y)))]) (qwK l x):=
 RunsL.stop [] 300 [.t false] (fun h=>by cases h)
  (Ro (Ai hge tI))
theorem qDH {l:List Pt} {x:Int} (r0:Rl 1 1 137 0 29 2 ([(1,.pp 1 0),(3,.pv (iV (-1))),(7,.ls 0 l.length),(8,.pv (iV (l.length:Int))),(9,.pv (iV ((0:Nat):Int)))]) (qwK l x) (.ret) ([(2,.pv (.bool false))]) ([])) :
 Fn 137 1 [qaP 0 x l] [(0,0,qal l)] (.pv (.bool false)) 0 []:=
 Fz [] [Lf r0]
  tI (Lo r0 [] tI)
abbrev qDs (l:List Pt) (x:Int) (y:Int):Prop:=Rl 1 1 137 0 29 2 ([(1,.pp 1 0),(3,.pv (iV (-1))),(7,.ls 0 l.length),(8,.pv (iV (l.length:Int))),(9,.pv (iV ((0:Nat):Int)))]) ([(1,0,.pv (iV x)),(1,1,.ls 0 l.length),(0,0,qal l)]) (.exit 0) ([(1,.pp 1 0),(3,.pv (iV (y)))]) ([(1,0,.pv (iV x)),(1,1,.ls 0 l.length),(0,0,qal l)])
theorem qDG {l:List Pt} {x y:Int} (r0:qDs l x y) (h1:decide (y<x)=false) :
 Fn 137 1 [qaP 0 x l] [(0,0,qal l)] (.pv (.bool false)) 0 []:=
 Fz [] [Lf r0,.t false]
  tI (Lo r0 [] (Ai h1 tI))
theorem qBU {l:List Pt} {x y:Int} (r0:qDs l x y) (h1:decide (y<x)=true) (h2:decide (x≤1000000)=false) :
 Fn 137 1 [qaP 0 x l] [(0,0,qal l)] (.pv (.bool false)) 0 []:=
 Fz [] [Lf r0,.t true,.t false]
  tI (Lo r0 [] (Ai h1 (Ai h2 tI)))
theorem qDu {l:List Pt} {x y:Int} (r0:qDs l x y) (h1:decide (y<x)=true) (h2:decide (x≤1000000)=true) :
 Fn 137 1 [qaP 0 x l] [(0,0,qal l)] (.pv (.bool true)) 0 []:=
 Fz [] [Lf r0,.t true,.t true]
  tI (Lo r0 [] (Ai h1 (Ai h2 tI)))
abbrev qBJ (k:Nat) (l:List Pt):TmL:=[(3,.mp 1),(9,.ls 0 l.length),(10,.pv (iV (l.length:Int))),(11,.pv (iV (k:Int)))]
theorem qz6 {l m:List Pt} {k:Nat} {p:Pt} (hk:l[k]?=some p) (hin:0≤(k:Int)∧(k:Int)<(l.length:Int)) (hlt:decide ((k:Int)<(l.length:Int))=true) (hv:Pure Tryz.prog 148 #[qaf p.a p.b] (.bool false)):Rl 1 1 138 0 29 2 (qBJ k l) ([(1,0,.mrow (qcM (m))),(0,0,qal l)]) (.ret) ([(2,.pv (.bool false))]) ([]):=
 RunsL.stop [] 300 [.t true,.r (ptV p),Rf hv,.k] (fun h=>by cases h)
  (Ro (Ai hlt (Ai hin (Ai (qaN hk) (Ai hv tI)))))
theorem qw7 {l m:List Pt} {k:Nat} {p:Pt} (hk:l[k]?=some p) (hin:0≤(k:Int)∧(k:Int)<(l.length:Int)) (hlt:decide ((k:Int)<(l.length:Int))=true) (hv:Pure Tryz.prog 148 #[qaf p.a p.b] (.bool true)) (hL:qeT Tryz.prog 250 (qcM m) (qaf p.a p.b) false (.bool true)):Rl 1 1 138 0 29 2 (qBJ k l) ([(1,0,.mrow (qcM (m))),(0,0,qal l)]) (.ret) ([(2,.pv (.bool false))]) ([]):=
 RunsL.stop [] 300 [.t true,.r (ptV p),Rf hv,.k,Rf hv] (fun h=>by cases h)
  (Ro (Ai hlt (Ai hin (Ai (qaN hk) (Ai hv (Ai hL tI))))))
theorem qu6 {l m:List Pt} {k:Nat} {p:Pt} (hk:l[k]?=some p) (hin:0≤(k:Int)∧(k:Int)<(l.length:Int)) (hlt:decide ((k:Int)<(l.length:Int))=true) (hv:Pure Tryz.prog 148 #[qaf p.a p.b] (.bool true)) (hL:qeT Tryz.prog 250 (qcM m) (qaf p.a p.b) false (.bool false)) (hP:qmP Tryz.prog 250 (qcM m) (qaf p.a p.b) (.bool true) (qcM (m++[p]))) (hs:iV (IntKind.i64.wrap ((k:Int)+1))=iV (((k+1:Nat):Int))) {e:Exit} {tm2:TmL} {hp2:HpL}
 (r:Rl 1 1 138 0 29 2 ([(3,.mp 1),(9,.ls 0 l.length),(10,.pv (iV (l.length:Int))),(11,.pv (iV ((k+1:Nat):Int)))]) ([(1,0,.mrow (qcM (m++[p]))),(0,0,qal l)]) e tm2 hp2):Rl 1 1 138 0 29 2 (qBJ k l) ([(1,0,.mrow (qcM (m))),(0,0,qal l)]) e tm2 hp2:=
 RunsL.next [] 300 [.t true,.r (ptV p),Rf hv,.k,.r (.bool false),.w (qcM (m++[p])),Re hs]
  (Ro (Ai hlt (Ai hin (Ai (qaN hk) (Ai hv (Ai hL (Ai hP (Ai hs tI)))))))) r
theorem qzu {l m:List Pt} {k:Nat} (hge:decide ((k:Int)<(l.length:Int))=false):Rl 1 1 138 0 29 2 (qBJ k l) ([(1,0,.mrow (qcM (m))),(0,0,qal l)]) (.exit 0) ([]) ([]):=
 RunsL.stop [] 300 [.t false] (fun h=>by cases h)
  (Ro (Ai hge tI))
theorem qAp {l:List Pt} (r0:Rl 1 1 138 0 29 2 ([(3,.mp 1),(9,.ls 0 l.length),(10,.pv (iV (l.length:Int))),(11,.pv (iV ((0:Nat):Int)))]) ([(1,0,.mrow (qcM ([]))),(0,0,qal l)]) (.ret) ([(2,.pv (.bool false))]) ([])) :
 Fn 138 1 [.ls 0 l.length] [(0,0,qal l)] (.pv (.bool false)) 0 []:=
 Fz [] [Lf r0]
  tI (Lo r0 [] tI)
theorem qEn {l:List Pt} (r0:Rl 1 1 138 0 29 2 ([(3,.mp 1),(9,.ls 0 l.length),(10,.pv (iV (l.length:Int))),(11,.pv (iV ((0:Nat):Int)))]) ([(1,0,.mrow (qcM ([]))),(0,0,qal l)]) (.exit 0) ([]) ([])) :
 Fn 138 1 [.ls 0 l.length] [(0,0,qal l)] (.pv (.bool true)) 0 []:=
 Fz [] [Lf r0]
  tI (Lo r0 [] tI)
theorem qo2 {l:List Pt} {x:Int} (h2:decide ((l.length:Int)>200)=true) :
 Fn 88 1 [qaP 0 x l] [(0,0,qal l)] (.pv (iV (8))) 0 []:=
 Fz [] [.t true]
  tI (Ai h2 tI)
theorem qsP {l:List Pt} {x:Int} (h2:decide ((l.length:Int)>200)=false) (hn:Fn 137 1 [qaP 0 x l] [(0,0,qal l)] (.pv (.bool false)) 0 []) :
 Fn 88 1 [qaP 0 x l] [(0,0,qal l)] (.pv (iV (8))) 0 []:=
 Fz [] [.t false,Cf hn [0],.k]
  tI (Ai h2 (Co hn [0] 2 tI))
theorem qtB {l:List Pt} {x:Int} (h2:decide ((l.length:Int)>200)=false) (hn:Fn 137 1 [qaP 0 x l] [(0,0,qal l)] (.pv (.bool true)) 0 []) (hc:Fn 138 1 [.ls 0 l.length] [(0,0,qal l)] (.pv (.bool false)) 0 []) :
 Fn 88 1 [qaP 0 x l] [(0,0,qal l)] (.pv (iV (8))) 0 []:=
 Fz [] [.t false,Cf hn [0],.k,Cf hc [0],.k]
  tI (Ai h2 (Co hn [0] 2 (Co hc [0] 2 tI)))
theorem qzl {l:List Pt} {x:Int} (h2:decide ((l.length:Int)>200)=false) (hn:Fn 137 1 [qaP 0 x l] [(0,0,qal l)] (.pv (.bool true)) 0 []) (hc:Fn 138 1 [.ls 0 l.length] [(0,0,qal l)] (.pv (.bool true)) 0 []) :
 Fn 88 1 [qaP 0 x l] [(0,0,qal l)] (.pv (iV (0))) 0 []:=
 Fz [] [.t false,Cf hn [0],.k,Cf hc [0],.k]
  tI (Ai h2 (Co hn [0] 2 (Co hc [0] 2 tI)))
end Go.Proofs.YtkjaanhddkkodaaGreat

namespace Go.Proofs.YtkjaanhddkkodaaGreat
set_option maxRecDepth 100000
open Go.RowKit
theorem qrL (a:Int):∃ b,Pure Tryz.prog 194 #[iV a] (.bool b)∧(b=true↔0≤a∧a≤65535):=by
 by_cases h0:0≤a
 ·by_cases h1:a≤65535
  ·exact⟨true,qDP (dt h0) (dt h1),⟨fun _=>⟨h0,h1⟩,fun _=>rfl⟩⟩
  ·exact⟨false,qEi (dt h0) (df h1),⟨fun h=>(by cases h),fun h=>(h1 h.2).elim⟩⟩
 ·exact⟨false,qD6 (df h0),⟨fun h=>(by cases h),fun h=>(h0 h.1).elim⟩⟩
theorem qjp (a b:Int):Pure Tryz.prog 148 #[qaf a b] (.bool (qb8 a b)):=by
 obtain⟨u,hu,hu2⟩:=qrL a
 obtain⟨v,hv,hv2⟩:=qrL b
 cases u
 ·rw[show qb8 a b=false by
   cases h:qb8 a b
   ·rfl
   ·have:=qbt.1 h;have:=hu2.2 ⟨this.1,this.2.1⟩;cases this]
  exact qFF hu
 ·cases v
  ·rw[show qb8 a b=false by
    cases h:qb8 a b
    ·rfl
    ·have:=qbt.1 h;have:=hv2.2 ⟨this.2.2.1,this.2.2.2.1⟩;cases this]
   exact qFt hu hv
  ·have h1:=hu2.1 rfl
   have h2:=hv2.1 rfl
   by_cases hab:a=b
   ·rw[show qb8 a b=false by
     cases h:qb8 a b
     ·rfl
     ·exact ((qbt.1 h).2.2.2.2 hab).elim]
    exact qCk hu hv (by simpa using hab)
   ·rw[qbt.2 ⟨h1.1,h1.2,h2.1,h2.2,hab⟩]
    exact qDC hu hv (by simpa using hab)
def lst (m:List Pt):Int:=match m.getLast? with
 | none=>-1
 | some p=>p.id
theorem qis:lst [] = -1:=rfl
theorem qeD (m:List Pt) (p:Pt):lst (m++[p])=p.id:=by simp[lst]
abbrev nfT (l:List Pt) (k:Nat) (y:Int):List (Nat×SV):=[(1,.pp 1 0),(3,.pv (iV (y))),(7,.ls 0 l.length),(8,.pv (iV (l.length:Int))),(9,.pv (iV (k:Int)))]
abbrev nfH (x:Int) (l:List Pt):List (Nat×Nat×SV):=[(1,0,.pv (iV x)),(1,1,.ls 0 l.length),(0,0,qal l)]
def Inc (l:List Pt):Prop:=∀ (k:Nat) (p:Pt),l[k]?=some p→lst (l.take k)<p.id
theorem Inc.up {l:List Pt} (h:Inc l):Up l:=fun k p q hp hq=>by
 have:=h (k+1) q hq
 rw[qck hp,qeD] at this
 exact this
theorem Inc.lo {l:List Pt} (h:Inc l):∀ p∈l,0≤p.id:=by
 have key:∀ (k:Nat) (p:Pt),l[k]?=some p→0≤p.id:=by
  intro k
  induction k with
  | zero=>intro p hp;have:=h 0 p hp;rw[List.take_zero,qis] at this;omega
  | succ k ih=>
   intro p hp
   obtain⟨q,hq⟩:=qai (l:=l) (k:=k) (by have:=qak hp;omega)
   have:=ih q hq
   have:=h.up k q p hq hp
   omega
 intro p hp
 obtain⟨k,hk,rfl⟩:=List.getElem_of_mem hp
 exact key k _ (List.getElem?_eq_getElem hk)
theorem Inc.of {l:List Pt} (h:Up l) (h0:∀ p∈l,0≤p.id):Inc l:=fun k p hp=>by
 cases k with
 | zero=>rw[List.take_zero,qis];have:=h0 p (List.mem_of_getElem? hp);omega
 | succ k=>
  obtain⟨q,hq⟩:=qai (l:=l) (k:=k) (by have:=qak hp;omega)
  rw[qck hq,qeD]
  exact h k q p hq hp
theorem Inc.lt {l:List Pt} (h:Inc l) {x:Int}:lst l<x↔(∀ p∈l,p.id<x)∧0≤x:=by
 have hup:=h.up
 have hlo:=h.lo
 rcases List.eq_nil_or_concat l with rfl | ⟨m,q,rfl⟩
 ·rw[qis];exact⟨fun h=>⟨fun p hp=>by simp at hp,by omega⟩,fun h=>by omega⟩
 ·rw[List.concat_eq_append,qeD]
  rw[List.concat_eq_append] at hup hlo
  refine⟨fun hx=>⟨fun p hp=>?_,by have:=hlo q (by simp);omega⟩,fun hx=>hx.1 q (by simp)⟩
  obtain⟨k,hk,rfl⟩:=List.getElem_of_mem hp
  rcases Nat.lt_or_ge k m.length with h1 | h1
  ·have:=hup.mono h1 (List.getElem?_eq_getElem hk) (show (m++[q])[m.length]?=some q by simp)
   omega
  ·have hkm:k=m.length:=by simp at hk;omega
   subst hkm
   simpa using hx
theorem qxV (x:Int) {l:List Pt} (hn:l.length≤1000000):∃ b,Fn 137 1 [qaP 0 x l] [(0,0,qal l)] (.pv (.bool b)) 0 []∧(b=true↔Inc l∧(∀ p∈l,p.id<x)∧0≤x∧x≤1000000):=by
 have step:∀ k,(∀ j,j<k→∀ p,l[j]?=some p→lst (l.take j)<p.id)→∀ {e:Exit} {tm2:TmL} {hp2:HpL},k≤l.length→
  Rl 1 1 137 0 29 2 (nfT l k (lst (l.take k))) (nfH x l) e tm2 hp2→Rl 1 1 137 0 29 2 (nfT l 0 (-1)) (nfH x l) e tm2 hp2:=by
  intro k hk e tm2 hp2 hkl r
  refine RunsL.rounds (fun j=>nfT l j (lst (l.take j))) (fun _=>nfH x l) (N:=k) k 0 (Nat.zero_add _) (fun j _ hj r=>?_) r
  obtain⟨p,hp⟩:=qai (l:=l) (k:=j) (by omega)
  refine quG hp (qap (qak hp)) (dt (by have:=qak hp;omega)) (df (by have:=hk j hj p hp;omega)) (qay (by omega)) ?_
  have e1:lst (l.take (j+1))=p.id:=by rw[qck hp,qeD]
  rw[← e1]
  exact r
 rcases qaY (fun j=>∀ p,l[j]?=some p→lst (l.take j)<p.id) l.length with h | ⟨j,hj,hb,hf⟩
 ·have hi:Inc l:=fun k p hp=>h k (qak hp) p hp
  have hend:=step l.length (fun j hj=>h j hj) (Nat.le_refl _) (e:=.exit 0) (qyn (df (by omega)))
  rw[List.take_length] at hend
  by_cases h1:lst l<x
  ·by_cases h2:x≤1000000
   ·exact⟨true,qDu hend (dt h1) (dt h2),⟨fun _=>⟨hi,(hi.lt.1 h1).1,(hi.lt.1 h1).2,h2⟩,fun _=>rfl⟩⟩
   ·exact⟨false,qBU hend (dt h1) (df h2),⟨fun h=>(by cases h),fun h=>(h2 h.2.2.2).elim⟩⟩
  ·exact⟨false,qDG hend (df h1),⟨fun h=>(by cases h),fun h=>(h1 (hi.lt.2 ⟨h.2.1,h.2.2.1⟩)).elim⟩⟩
 ·simp only[Classical.not_forall,not_imp] at hb
  obtain⟨p,hp,hlt⟩:=hb
  exact⟨false,qDH (step j hf (by omega) (qzQ hp (qap (qak hp)) (dt (by omega)) (dt (by omega)))),⟨fun h=>(by cases h),fun h=>(hlt (h.1 j p hp)).elim⟩⟩
abbrev cfT (l:List Pt) (k:Nat):List (Nat×SV):=[(3,.mp 1),(9,.ls 0 l.length),(10,.pv (iV (l.length:Int))),(11,.pv (iV (k:Int)))]
abbrev cfH (l m:List Pt):List (Nat×Nat×SV):=[(1,0,.mrow (qcM (m))),(0,0,qal l)]
theorem qjz {l:List Pt} {k:Nat} {q:Pt} (h:q∈l.take k):∃ i,i<k∧l[i]?=some q:=by
 obtain⟨i,hi,rfl⟩:=List.getElem_of_mem h
 have hi':i<k∧i<l.length:=by simp at hi;omega
 exact⟨i,hi'.1,by rw[List.getElem_take];exact List.getElem?_eq_getElem hi'.2⟩
theorem qpv {l:List Pt} {i k:Nat} {q:Pt} (h:l[i]?=some q) (hik:i<k):q∈l.take k:=List.mem_of_getElem? (i:=i) (by rw[List.getElem?_take,if_pos hik];exact h)
theorem qA1 {l:List Pt} (hn:l.length≤1000000):∃ b,FnL Tryz.prog 138 1 [.ls 0 l.length] [(0,0,qal l)] (.pv (.bool b)) 0 []∧(b=true↔(∀ p∈l,qb8 p.a p.b=true)∧Dis l):=by
 have step:∀ k,(∀ j,j<k→∀ p,l[j]?=some p→qb8 p.a p.b=true∧∀ q∈l.take j,¬ (q.a=p.a∧q.b=p.b))→∀ {e:Exit} {tm2:TmL} {hp2:HpL},k≤l.length→
  RunsL Tryz.prog 1 1 (qf7 Tryz.prog 138 0) 29 2 (cfT l k) (cfH l (l.take k)) e tm2 hp2→RunsL Tryz.prog 1 1 (qf7 Tryz.prog 138 0) 29 2 (cfT l 0) (cfH l []) e tm2 hp2:=by
  intro k hk e tm2 hp2 hkl r
  refine RunsL.rounds (fun j=>cfT l j) (fun j=>cfH l (l.take j)) (N:=k) k 0 (Nat.zero_add _) (fun j _ hj r=>?_) r
  obtain⟨p,hp⟩:=qai (l:=l) (k:=j) (by omega)
  obtain⟨h1,h2⟩:=hk j hj p hp
  refine qu6 hp (qap (qak hp)) (dt (by have:=qak hp;omega)) (h1▸qjp p.a p.b) (qv0 h2) (qqW h2) (qay (by omega)) ?_
  rw[← qck hp]
  exact r
 rcases qaY (fun j=>∀ p,l[j]?=some p→qb8 p.a p.b=true∧∀ q∈l.take j,¬ (q.a=p.a∧q.b=p.b)) l.length with h | ⟨j,hj,hb,hf⟩
 ·refine⟨true,qEn (step l.length (fun j hj=>h j hj) (Nat.le_refl _) (qzu (df (by omega)))),⟨fun _=>⟨fun p hp=>?_,fun i k p q hik hp hq=>?_⟩,fun _=>rfl⟩⟩
  ·obtain⟨k,hk,rfl⟩:=List.getElem_of_mem hp
   exact (h k hk _ (List.getElem?_eq_getElem hk)).1
  ·exact (h k (qak hq) q hq).2 p (qpv hp hik)
 ·simp only[Classical.not_forall,not_imp] at hb
  obtain⟨p,hp,hnp⟩:=hb
  by_cases hv:qb8 p.a p.b=true
  ·have:∃ q∈l.take j,q.a=p.a∧q.b=p.b:=Classical.byContradiction fun hno=>hnp ⟨hv,fun q hq e=>hno ⟨q,hq,e⟩⟩
   obtain⟨q,hq,he⟩:=this
   refine⟨false,qAp (step j hf (by omega) (qw7 hp (qap hj) (dt (by omega)) (hv▸qjp p.a p.b) (qp2 hq he))),⟨fun h=>(by cases h),fun h=>?_⟩⟩
   obtain⟨i,hi,hq'⟩:=qjz hq
   exact (h.2 i j q p hi hq' hp he).elim
  ·have hv':qb8 p.a p.b=false:=by simpa using hv
   exact⟨false,qAp (step j hf (by omega) (qz6 hp (qap hj) (dt (by omega)) (hv'▸qjp p.a p.b))),⟨fun h=>(by cases h),fun h=>(hv (h.1 p (List.mem_of_getElem? hp))).elim⟩⟩
theorem qgS (x:Int) (l:List Pt):Fn 88 1 [qaP 0 x l] [(0,0,qal l)] (.pv (iV (qwW x l))) 0 []:=by
 by_cases h0:l.length≤200
 ·obtain⟨u,hu,hu2⟩:=qxV x (l:=l) (by omega)
  obtain⟨v,hv,hv2⟩:=qA1 (l:=l) (by omega)
  cases u
  ·rw[qbA fun h=>by have:=hu2.2 ⟨Inc.of h.up h.lo,h.hi,h.nx.1,h.nx.2⟩;cases this]
   exact qsP (df (by omega)) hu
  ·cases v
   ·rw[qbA fun h=>by have:=hv2.2 ⟨h.ok,h.dis⟩;cases this]
    exact qtB (df (by omega)) hu hv
   ·obtain⟨a1,a2,a3,a4⟩:=hu2.1 rfl
    obtain⟨b1,b2⟩:=hv2.1 rfl
    rw[qdp ⟨h0,b1,a1.up,a1.lo,a2,⟨a3,a4⟩,b2⟩]
    exact qzl (df (by omega)) hu hv
 ·rw[qbA fun h=>h0 h.len]
  exact qo2 (dt (by omega))
end Go.Proofs.YtkjaanhddkkodaaGreat
