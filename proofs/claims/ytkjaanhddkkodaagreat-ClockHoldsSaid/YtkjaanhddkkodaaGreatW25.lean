/-
  Joined: Kh2, Ke, Kh, Kd, Kb. Conditions: none.
-/
import Derived.Test.YtkjaanhddkkodaaGreatW24
import Derived.Test.YtkjaanhddkkodaaGreatW18
namespace Go.Proofs.YtkjaanhddkkodaaGreat
set_option maxRecDepth 100000
open Go.RowKit
abbrev qiM (l:List Pt) (s:List Pt) (x:Int):HpL:=[(2,0,.pv (iV x)),(2,1,.ls 0 l.length),(3,0,.ls 1 s.length),(0,0,qak l),(1,0,qal s)]
abbrev qrA (k:Nat):TmL:=[(2,.pp 2 0),(3,.pp 3 0),(5,.pv (iV (k:Int)))]
abbrev qul (p:Pt) (s:List Pt) (u1:Int):Prop:=Fn 72 1 [qaJ 0 s,.pv (iV (p.a))] [(0,0,qal s)] (.pv (iV (u1))) 0 []
theorem qrI {l s:List Pt} {k:Nat} {p:Pt} {x u1 u2:Int} (hk:l[k]?=some p) (hin:0≤(k:Int)∧(k:Int)<(l.length:Int)) (hlt:decide ((k:Int)<(l.length:Int))=true) (ha:qul p s u1) (h1:decide (u1<0)=false) (hb:Fn 72 1 [qaJ 0 s,.pv (iV (p.b))] [(0,0,qal s)] (.pv (iV (u2))) 0 []) (h2:decide (u2<0)=false) (hs:iV (IntKind.i64.wrap ((k:Int)+1))=iV (((k+1:Nat):Int))) {e:Exit} {tm2:TmL} {hp2:HpL}
 (r:Rl 2 2 45 0 35 4 ([(2,.pp 2 0),(3,.pp 3 0),(5,.pv (iV ((k+1:Nat):Int)))]) (qiM l s x) e tm2 hp2):Rl 2 2 45 0 35 4 (qrA k) (qiM l s x) e tm2 hp2:=
 RunsL.next [] 300 [.t true,.r (iV p.a),Cf ha [1],.t false,.r (iV p.b),Cf hb [1],.t false,Re hs]
  (Ro (Ai hlt (Ai hin (Ai (qve hk) (Co ha [1] 4 (Ai h1 (Ai hin (Ai (qxF hk) (Co hb [1] 4 (Ai h2 (Ai hs tI))))))))))) r
theorem qAi {l s:List Pt} {k:Nat} {p:Pt} {x u1:Int} (hk:l[k]?=some p) (hin:0≤(k:Int)∧(k:Int)<(l.length:Int)) (hlt:decide ((k:Int)<(l.length:Int))=true) (ha:qul p s u1) (h1:decide (u1<0)=true):Rl 2 2 45 0 35 4 (qrA k) (qiM l s x) (.ret) ([(4,.pv (.bool false))]) ([]):=
 RunsL.stop [] 300 [.t true,.r (iV p.a),Cf ha [1],.t true] (fun h=>by cases h)
  (Ro (Ai hlt (Ai hin (Ai (qve hk) (Co ha [1] 4 (Ai h1 tI))))))
theorem qxe {l s:List Pt} {k:Nat} {p:Pt} {x u1 u2:Int} (hk:l[k]?=some p) (hin:0≤(k:Int)∧(k:Int)<(l.length:Int)) (hlt:decide ((k:Int)<(l.length:Int))=true) (ha:qul p s u1) (h1:decide (u1<0)=false) (hb:Fn 72 1 [qaJ 0 s,.pv (iV (p.b))] [(0,0,qal s)] (.pv (iV (u2))) 0 []) (h2:decide (u2<0)=true):Rl 2 2 45 0 35 4 (qrA k) (qiM l s x) (.ret) ([(4,.pv (.bool false))]) ([]):=
 RunsL.stop [] 300 [.t true,.r (iV p.a),Cf ha [1],.t false,.r (iV p.b),Cf hb [1],.t true] (fun h=>by cases h)
  (Ro (Ai hlt (Ai hin (Ai (qve hk) (Co ha [1] 4 (Ai h1 (Ai hin (Ai (qxF hk) (Co hb [1] 4 (Ai h2 tI))))))))))
theorem qwC {l s:List Pt} {k:Nat} {x:Int} (hge:decide ((k:Int)<(l.length:Int))=false):Rl 2 2 45 0 35 4 (qrA k) (qiM l s x) (.exit 0) ([]) ([]):=
 RunsL.stop [] 300 [.t false] (fun h=>by cases h)
  (Ro (Ai hge tI))
theorem qxr {l s:List Pt} {x:Int} (r0:Rl 2 2 45 0 35 4 ([(2,.pp 2 0),(3,.pp 3 0),(5,.pv (iV ((0:Nat):Int)))]) (qiM l s x) (.ret) ([(4,.pv (.bool false))]) ([])) :
 Fn 45 2 [qaH 0 x l,qaJ 1 s] [(0,0,qak l),(1,0,qal s)] (.pv (.bool false)) 0 []:=
 Fz [] [Lf r0]
  tI (Lo r0 [] tI)
theorem quG {l s:List Pt} {x:Int} (r0:Rl 2 2 45 0 35 4 ([(2,.pp 2 0),(3,.pp 3 0),(5,.pv (iV ((0:Nat):Int)))]) (qiM l s x) (.exit 0) ([]) ([])) :
 Fn 45 2 [qaH 0 x l,qaJ 1 s] [(0,0,qak l),(1,0,qal s)] (.pv (.bool true)) 0 []:=
 Fz [] [Lf r0]
  tI (Lo r0 [] tI)
end Go.Proofs.YtkjaanhddkkodaaGreat

namespace Go.Proofs.YtkjaanhddkkodaaGreat
set_option maxRecDepth 100000
open Go.RowKit
theorem qts (x:Int) (l:List Pt):SV.ag [.pv (iV x),.ls 4 (0+l.length)]=(SV.ag [.pv (iV x),.ls 1 l.length]).ren (qaK [(1,4)]):=by rw[Nat.zero_add];rfl
theorem qmz (l:List Pt):some (SV.row 94 3 (0+l.length) ([]++qbu l))=some (qak l):=by rw[Nat.zero_add,List.nil_append]
theorem qou (m:List Pt) (p:Pt):some (SV.row 94 3 (m.length+1) (qbu m++[iV p.id,iV p.a,iV p.b]))=some (qak (m++[p])):=by rw[qjw,qak,List.length_append];rfl
theorem qpE (b:Nat) (y x:Int) (m:List Pt) (p:Pt):SV.tu [.ag [.pv (iV y),.ls b (m.length+1)],.one (.pv (iV x)),.one (.pv (iV 0))]=(SV.tu [.ag [.pv (iV y),.ls 1 (m++[p]).length],.one (.pv (iV x)),.one (.pv (iV 0))]).ren (qaK [(1,b)]):=by rw[List.length_append];rfl
theorem qqe {l:List Pt} {x:Int} (hn:0+l.length≤1000000) :
 Fn 53 1 [qaH 0 x l] [(0,0,qak l)] (.ag [.pv (iV x),.ls 1 l.length]) 1 [(1,0,qak l)]:=
 Fx [(1,4)] [.md]
  (qts x l) (Ai (qmz l) tI) (Ai hn tI)
abbrev qBU (l:List Pt) (m:List Pt) (x:Int) (y:Int):HpL:=[(2,0,.pv (iV x)),(2,1,.ls 0 l.length),(3,0,.pv (iV y)),(3,1,.ls 1 m.length),(0,0,qak l),(1,0,qak m)]
theorem qpe {l m:List Pt} {x y:Int} {k:Nat} {p q:Pt} (hk:l[k]?=some p) (hin:0≤(k:Int)∧(k:Int)<(l.length:Int)) (hq:m[k]?=some q) (hin2:0≤(k:Int)∧(k:Int)<(m.length:Int)) (hlt:decide ((k:Int)<(l.length:Int))=true) (hne:(!(p.id==q.id&&((p.a==q.a&&(p.b==q.b&&true))&&true)))=false) (hs:iV (IntKind.i64.wrap ((k:Int)+1))=iV (((k+1:Nat):Int))) {e:Exit} {tm2:TmL} {hp2:HpL}
 (r:Rl 2 2 43 0 38 4 ([(2,.pp 2 0),(3,.pp 3 0),(5,.pv (iV ((k+1:Nat):Int)))]) (qBU l m x y) e tm2 hp2):Rl 2 2 43 0 38 4 ([(2,.pp 2 0),(3,.pp 3 0),(5,.pv (iV (k:Int)))]) (qBU l m x y) e tm2 hp2:=
 RunsL.next [] 300 [.t true,.r (ptV p),.r (ptV q),.t false,Re hs]
  (Ro (Ai hlt (Ai hin (Ai (qaI hk) (Ai hin2 (Ai (qaI hq) (Ai hne (Ai hs tI)))))))) r
theorem quo {l m:List Pt} {x y:Int} {k:Nat} (hge:decide ((k:Int)<(l.length:Int))=false):Rl 2 2 43 0 38 4 ([(2,.pp 2 0),(3,.pp 3 0),(5,.pv (iV (k:Int)))]) (qBU l m x y) (.exit 0) ([]) ([]):=
 RunsL.stop [] 300 [.t false] (fun h=>by cases h)
  (Ro (Ai hge tI))
theorem qvA {l m:List Pt} {x y:Int} (hx:(!(x==y))=false) (hl:(!((l.length:Int)==(m.length:Int)))=false) (r0:Rl 2 2 43 0 38 4 ([(2,.pp 2 0),(3,.pp 3 0),(5,.pv (iV ((0:Nat):Int)))]) (qBU l m x y) (.exit 0) ([]) ([])) :
 Fn 43 2 [qaH 0 x l,qaH 1 y m] [(0,0,qak l),(1,0,qak m)] (.pv (.bool true)) 0 []:=
 Fz [] [.t false,.t false,Lf r0]
  tI (Ai hx (Ai hl (Lo r0 [] tI)))
abbrev qw1 (a:Int) (b:Int) (l:List Pt) (x:Int):HpL:=[(1,0,.pv (iV x)),(1,1,.ls 0 l.length),(2,0,.pv (iV a)),(2,1,.pv (iV b)),(0,0,qak l)]
theorem qqB {l:List Pt} {k:Nat} {p:Pt} {x a b:Int} (hk:l[k]?=some p) (hin:0≤(k:Int)∧(k:Int)<(l.length:Int)) (hlt:decide ((k:Int)<(l.length:Int))=true) (he:(p.a==a&&(p.b==b&&true))=false) (hs:iV (IntKind.i64.wrap ((k:Int)+1))=iV (((k+1:Nat):Int))) {e:Exit} {tm2:TmL} {hp2:HpL}
 (r:Rl 1 1 176 0 21 3 ([(2,.pp 1 0),(3,.pp 2 0),(5,.pv (iV ((k+1:Nat):Int)))]) (qw1 a b l x) e tm2 hp2):Rl 1 1 176 0 21 3 ([(2,.pp 1 0),(3,.pp 2 0),(5,.pv (iV (k:Int)))]) (qw1 a b l x) e tm2 hp2:=
 RunsL.next [] 300 [.t true,.r (qag p.a p.b),.t false,Re hs]
  (Ro (Ai hlt (Ai hin (Ai (qdx hk) (Ai he (Ai hs tI)))))) r
theorem qup {l:List Pt} {k:Nat} {p:Pt} {x a b:Int} (hk:l[k]?=some p) (hin:0≤(k:Int)∧(k:Int)<(l.length:Int)) (hlt:decide ((k:Int)<(l.length:Int))=true) (he:(p.a==a&&(p.b==b&&true))=true):Rl 1 1 176 0 21 3 ([(2,.pp 1 0),(3,.pp 2 0),(5,.pv (iV (k:Int)))]) (qw1 a b l x) (.ret) ([(4,.pv (.bool true))]) ([]):=
 RunsL.stop [] 300 [.t true,.r (qag p.a p.b),.t true] (fun h=>by cases h)
  (Ro (Ai hlt (Ai hin (Ai (qdx hk) (Ai he tI)))))
theorem qtM {l:List Pt} {k:Nat} {x a b:Int} (hge:decide ((k:Int)<(l.length:Int))=false):Rl 1 1 176 0 21 3 ([(2,.pp 1 0),(3,.pp 2 0),(5,.pv (iV (k:Int)))]) (qw1 a b l x) (.exit 0) ([]) ([]):=
 RunsL.stop [] 300 [.t false] (fun h=>by cases h)
  (Ro (Ai hge tI))
theorem qzn {l:List Pt} {x a b:Int} (r0:Rl 1 1 176 0 21 3 ([(2,.pp 1 0),(3,.pp 2 0),(5,.pv (iV ((0:Nat):Int)))]) (qw1 a b l x) (.exit 0) ([]) ([])) :
 Fn 176 1 [qaH 0 x l,.pv (qag a b)] [(0,0,qak l)] (.pv (.bool false)) 0 []:=
 Fz [] [Lf r0]
  tI (Lo r0 [] tI)
theorem quF {l:List Pt} {x a b:Int} (r0:Rl 1 1 176 0 21 3 ([(2,.pp 1 0),(3,.pp 2 0),(5,.pv (iV ((0:Nat):Int)))]) (qw1 a b l x) (.ret) ([(4,.pv (.bool true))]) ([])) :
 Fn 176 1 [qaH 0 x l,.pv (qag a b)] [(0,0,qak l)] (.pv (.bool true)) 0 []:=
 Fz [] [Lf r0]
  tI (Lo r0 [] tI)
theorem qtG {l:List Pt} {x a b:Int} (hc:Fn 76 1 [qaH 0 x l] [(0,0,qak l)] (.pv (iV (8))) 0 []) :
 Fn 122 1 [qaH 0 x l,.pv (qag a b)] [(0,0,qak l)] (.pv (.tuple #[.agg #[iV 0,.slice none 0 0],iV 0,iV 8])) 0 []:=
 Fz [] [Cf hc [0],.k]
  tI (Co hc [0] 4 tI)
abbrev qAE (l:List Pt) (x:Int):Prop:=Fn 76 1 [qaH 0 x l] [(0,0,qak l)] (.pv (iV (0))) 0 []
theorem qtu {l:List Pt} {x a b:Int} (hc:qAE l x) (hv:Pure Tryz.prog 71 #[qag a b] (.bool false)) :
 Fn 122 1 [qaH 0 x l,.pv (qag a b)] [(0,0,qak l)] (.pv (.tuple #[.agg #[iV 0,.slice none 0 0],iV 0,iV 8])) 0 []:=
 Fz [] [Cf hc [0],.k,Rf hv,.k]
  tI (Co hc [0] 4 (Ai hv tI))
theorem qwH {l:List Pt} {x a b:Int} (hc:qAE l x) (hv:Pure Tryz.prog 71 #[qag a b] (.bool true)) (hh:Fn 176 1 [qaH 0 x l,.pv (qag a b)] [(0,0,qak l)] (.pv (.bool true)) 0 []) :
 Fn 122 1 [qaH 0 x l,.pv (qag a b)] [(0,0,qak l)] (.pv (.tuple #[.agg #[iV 0,.slice none 0 0],iV 0,iV 14])) 0 []:=
 Fz [] [Cf hc [0],.k,Rf hv,.k,Cf hh [0]]
  tI (Co hc [0] 4 (Ai hv (Co hh [0] 4 tI)))
theorem qri {l:List Pt} {x a b:Int} (hc:qAE l x) (hv:Pure Tryz.prog 71 #[qag a b] (.bool true)) (hh:Fn 176 1 [qaH 0 x l,.pv (qag a b)] [(0,0,qak l)] (.pv (.bool false)) 0 []) (hf:((l.length:Int)==200)=true) :
 Fn 122 1 [qaH 0 x l,.pv (qag a b)] [(0,0,qak l)] (.pv (.tuple #[.agg #[iV 0,.slice none 0 0],iV 0,iV 18])) 0 []:=
 Fz [] [Cf hc [0],.k,Rf hv,.k,Cf hh [0],.t true]
  tI (Co hc [0] 4 (Ai hv (Co hh [0] 4 (Ai hf tI))))
theorem qpy {l:List Pt} {x a b:Int} (hc:qAE l x) (hv:Pure Tryz.prog 71 #[qag a b] (.bool true)) (hh:Fn 176 1 [qaH 0 x l,.pv (qag a b)] [(0,0,qak l)] (.pv (.bool false)) 0 []) (hf:((l.length:Int)==200)=false) (hu:(x==1000000)=true) :
 Fn 122 1 [qaH 0 x l,.pv (qag a b)] [(0,0,qak l)] (.pv (.tuple #[.agg #[iV 0,.slice none 0 0],iV 0,iV 18])) 0 []:=
 Fz [] [Cf hc [0],.k,Rf hv,.k,Cf hh [0],.t false,.t true]
  tI (Co hc [0] 4 (Ai hv (Co hh [0] 4 (Ai hf (Ai hu tI)))))
theorem qBA {l:List Pt} {x y a b:Int} (hc:qAE l x) (hv:Pure Tryz.prog 71 #[qag a b] (.bool true)) (hh:Fn 176 1 [qaH 0 x l,.pv (qag a b)] [(0,0,qak l)] (.pv (.bool false)) 0 []) (hf:((l.length:Int)==200)=false) (hu:(x==1000000)=false) (ht:Fn 53 1 [qaH 0 x l] [(0,0,qak l)] (.ag [.pv (iV x),.ls 1 l.length]) 1 [(1,0,qak l)]) (hn:l.length+1≤1000000) (hy:iV (IntKind.i64.wrap (x+1))=iV (y)) :
 Fn 122 1 [qaH 0 x l,.pv (qag a b)] [(0,0,qak l)] (.tu [.ag [.pv (iV y),.ls 1 (l++[(Pt.mk x a b)]).length],.one (.pv (iV x)),.one (.pv (iV 0))]) 1 [(1,0,qak (l++[(Pt.mk x a b)]))]:=
 Fx [(1,7)] [Cf hc [0],.k,Rf hv,.k,Cf hh [0],.t false,.t false,Cf ht [0],Re hy]
  (qpE 7 y x l (Pt.mk x a b)) (Ai (qou l (Pt.mk x a b)) tI) (Co hc [0] 4 (Ai hv (Co hh [0] 4 (Ai hf (Ai hu (Co ht [0] 4 (Ai hn (Ai hy tI))))))))
end Go.Proofs.YtkjaanhddkkodaaGreat

namespace Go.Proofs.YtkjaanhddkkodaaGreat
set_option maxRecDepth 100000
open Go.RowKit
theorem qt6 {l s:List Pt} {k:Nat} {p:Pt} (hk:l[k]?=some p) (hin:0≤(k:Int)∧(k:Int)<(l.length:Int)) (hlt:decide ((k:Int)<(l.length:Int))=true) (hP:qhM Tryz.prog 147 (byV s) (iV p.id) (ptV p) (byV (s++[p]))) (hs:iV (IntKind.i64.wrap ((k:Int)+1))=iV (((k+1:Nat):Int))) {e:Exit} {tm2:TmL} {hp2:HpL}
 (r:Rl 1 1 89 0 23 3 ([(3,.mp 2),(11,.ls 0 l.length),(12,.pv (iV (l.length:Int))),(13,.pv (iV ((k+1:Nat):Int)))]) ([(2,0,.mrow (byV (s++[p]))),(0,0,qal l)]) e tm2 hp2):Rl 1 1 89 0 23 3 ([(3,.mp 2),(11,.ls 0 l.length),(12,.pv (iV (l.length:Int))),(13,.pv (iV (k:Int)))]) ([(2,0,.mrow (byV (s))),(0,0,qal l)]) e tm2 hp2:=
 RunsL.next [] 300 [.t true,.r (ptV p),.w (byV (s++[p])),Re hs]
  (Ro (Ai hlt (Ai hin (Ai (qaI hk) (Ai hP (Ai hs tI)))))) r
theorem qxM {l s:List Pt} {k:Nat} (hge:decide ((k:Int)<(l.length:Int))=false):Rl 1 1 89 0 23 3 ([(3,.mp 2),(11,.ls 0 l.length),(12,.pv (iV (l.length:Int))),(13,.pv (iV (k:Int)))]) ([(2,0,.mrow (byV (s))),(0,0,qal l)]) (.exit 0) ([(3,.mp 2)]) ([(2,0,.mrow (byV (s))),(0,0,qal l)]):=
 RunsL.stop [] 300 [.t false] (fun h=>by cases h)
  (Ro (Ai hge tI))
theorem qs3 {l s:List Pt} (r0:Rl 1 1 89 0 23 3 ([(3,.mp 2),(11,.ls 0 l.length),(12,.pv (iV (l.length:Int))),(13,.pv (iV ((0:Nat):Int)))]) ([(2,0,.mrow (byV ([]))),(0,0,qal l)]) (.exit 0) ([(3,.mp 2)]) ([(2,0,.mrow (byV (s))),(0,0,qal l)])) :
 Fn 89 1 [qaJ 0 l] [(0,0,qal l)] (.mp 1) 1 [(1,0,.mrow (byV s))]:=
 Fz [(1,2)] [Lf r0]
  (qaC (qaK [(1,2)]) [(1,0,.mrow (byV s))]) (Lo r0 [] tI)
abbrev qil (l:List Pt) (s:List Pt):HpL:=[(0,0,qak l),(1,0,.mrow (byV s)),(2,0,.mp 1)]
abbrev qz8 (k:Nat) (l:List Pt):TmL:=[(0,.ls 0 l.length),(1,.pc 139 [.pp 2 0]),(7,.pv (iV (l.length:Int))),(8,.pv (iV (k:Int)))]
theorem qvf {l s:List Pt} {k:Nat} {p q g:Pt} (hk:l[k]?=some p) (hin:0≤(k:Int)∧(k:Int)<(l.length:Int)) (hlt:decide ((k:Int)<(l.length:Int))=true) (hA:qbb Tryz.prog 147 (byV s) (iV p.a) true (.tuple #[ptV q,.bool true])) (hB:qbb Tryz.prog 147 (byV s) (iV p.b) true (.tuple #[ptV g,.bool true])) (hs:iV (IntKind.i64.wrap ((k:Int)+1))=iV (((k+1:Nat):Int))) {e:Exit} {tm2:TmL} {hp2:HpL}
 (r:Rl 3 3 184 0 19 3 ([(0,.ls 0 l.length),(1,.pc 139 [.pp 2 0]),(7,.pv (iV (l.length:Int))),(8,.pv (iV ((k+1:Nat):Int)))]) (qil l s) e tm2 hp2):Rl 3 3 184 0 19 3 (qz8 k l) (qil l s) e tm2 hp2:=
 RunsL.next [] 300 [.t true,.r (ptV p),.k,.r (.tuple #[ptV q,.bool true]),.r (.tuple #[ptV g,.bool true]),.k,.k,Re hs]
  (Ro (Ai hlt (Ai hin (Ai (qaI hk) (Ai hA (Ai hB (Ai hs tI))))))) r
theorem qEe {l s:List Pt} {k:Nat} {p:Pt} (hk:l[k]?=some p) (hin:0≤(k:Int)∧(k:Int)<(l.length:Int)) (hlt:decide ((k:Int)<(l.length:Int))=true) (hA:qbb Tryz.prog 147 (byV s) (iV p.a) true (.tuple #[qab 0 0 0,.bool false])) (hB:qbb Tryz.prog 147 (byV s) (iV p.b) true (.tuple #[qab 0 0 0,.bool false])):Rl 3 3 184 0 19 3 (qz8 k l) (qil l s) (.ret) ([(4,.pv (iV (k:Int)))]) ([]):=
 RunsL.stop [] 300 [.t true,.r (ptV p),.k,.r (.tuple #[qab 0 0 0,.bool false]),.r (.tuple #[qab 0 0 0,.bool false]),.k] (fun h=>by cases h)
  (Ro (Ai hlt (Ai hin (Ai (qaI hk) (Ai hA (Ai hB tI))))))
theorem qCZ {l s:List Pt} {k:Nat} {p g:Pt} (hk:l[k]?=some p) (hin:0≤(k:Int)∧(k:Int)<(l.length:Int)) (hlt:decide ((k:Int)<(l.length:Int))=true) (hA:qbb Tryz.prog 147 (byV s) (iV p.a) true (.tuple #[qab 0 0 0,.bool false])) (hB:qbb Tryz.prog 147 (byV s) (iV p.b) true (.tuple #[ptV g,.bool true])):Rl 3 3 184 0 19 3 (qz8 k l) (qil l s) (.ret) ([(4,.pv (iV (k:Int)))]) ([]):=
 RunsL.stop [] 300 [.t true,.r (ptV p),.k,.r (.tuple #[qab 0 0 0,.bool false]),.r (.tuple #[ptV g,.bool true]),.k] (fun h=>by cases h)
  (Ro (Ai hlt (Ai hin (Ai (qaI hk) (Ai hA (Ai hB tI))))))
theorem qCE {l s:List Pt} {k:Nat} {p q:Pt} (hk:l[k]?=some p) (hin:0≤(k:Int)∧(k:Int)<(l.length:Int)) (hlt:decide ((k:Int)<(l.length:Int))=true) (hA:qbb Tryz.prog 147 (byV s) (iV p.a) true (.tuple #[ptV q,.bool true])) (hB:qbb Tryz.prog 147 (byV s) (iV p.b) true (.tuple #[qab 0 0 0,.bool false])):Rl 3 3 184 0 19 3 (qz8 k l) (qil l s) (.ret) ([(4,.pv (iV (k:Int)))]) ([]):=
 RunsL.stop [] 300 [.t true,.r (ptV p),.k,.r (.tuple #[ptV q,.bool true]),.r (.tuple #[qab 0 0 0,.bool false]),.k,.k] (fun h=>by cases h)
  (Ro (Ai hlt (Ai hin (Ai (qaI hk) (Ai hA (Ai hB tI))))))
theorem qy6 {l s:List Pt} {k:Nat} (hge:decide ((k:Int)<(l.length:Int))=false):Rl 3 3 184 0 19 3 (qz8 k l) (qil l s) (.exit 0) ([]) ([]):=
 RunsL.stop [] 300 [.t false] (fun h=>by cases h)
  (Ro (Ai hge tI))
theorem qEi {l s:List Pt} (r0:Rl 3 3 184 0 19 3 ([(0,.ls 0 l.length),(1,.pc 139 [.pp 2 0]),(7,.pv (iV (l.length:Int))),(8,.pv (iV ((0:Nat):Int)))]) (qil l s) (.exit 0) ([]) ([])) :
 Fn 184 3 [.ls 0 l.length,.pc 139 [.pp 2 0]] (qil l s) (.pv (iV (-1))) 0 []:=
 Fz [] [Lf r0]
  tI (Lo r0 [] tI)
theorem qA0 {l s:List Pt} {k:Nat} (r0:Rl 3 3 184 0 19 3 ([(0,.ls 0 l.length),(1,.pc 139 [.pp 2 0]),(7,.pv (iV (l.length:Int))),(8,.pv (iV ((0:Nat):Int)))]) (qil l s) (.ret) ([(4,.pv (iV (k:Int)))]) ([])) :
 Fn 184 3 [.ls 0 l.length,.pc 139 [.pp 2 0]] (qil l s) (.pv (iV (k:Int))) 0 []:=
 Fz [] [Lf r0]
  tI (Lo r0 [] tI)
theorem qDZ {l s:List Pt} (hi:Fn 184 3 [.ls 0 l.length,.pc 139 [.pp 2 0]] (qil l s) (.pv (iV (-1))) 0 []) :
 Fn 140 3 [.ls 0 l.length,.pc 139 [.pp 2 0]] (qil l s) (.pv (.bool false)) 0 []:=
 Fz [] [Cf hi [0,1,2],.k]
  tI (Co hi [0,1,2] 3 tI)
theorem qAm {l s:List Pt} {k:Nat} (hi:Fn 184 3 [.ls 0 l.length,.pc 139 [.pp 2 0]] (qil l s) (.pv (iV (k:Int))) 0 []) (h0:decide ((k:Int)≥0)=true) :
 Fn 140 3 [.ls 0 l.length,.pc 139 [.pp 2 0]] (qil l s) (.pv (.bool true)) 0 []:=
 Fz [] [Cf hi [0,1,2],.t true]
  tI (Co hi [0,1,2] 3 (Ai h0 tI))
theorem qED {l s:List Pt} {x:Int} (ht:Fn 140 3 [.ls 0 l.length,.pc 139 [.pp 2 0]] (qil l s) (.pv (.bool true)) 0 []) :
 Fn 90 2 [.mp 1,qaH 0 x l] [(0,0,qak l),(1,0,.mrow (byV s))] (.pv (.bool false)) 0 []:=
 Fz [] [Cf ht [0,1,2],.k]
  tI (Co ht [0,1,2] 4 tI)
theorem qzz {l s:List Pt} {x:Int} (ht:Fn 140 3 [.ls 0 l.length,.pc 139 [.pp 2 0]] (qil l s) (.pv (.bool false)) 0 []) :
 Fn 90 2 [.mp 1,qaH 0 x l] [(0,0,qak l),(1,0,.mrow (byV s))] (.pv (.bool true)) 0 []:=
 Fz [] [Cf ht [0,1,2],.k]
  tI (Co ht [0,1,2] 4 tI)
abbrev qw0 (l:List Pt) (m:Nat) (s:List Pt) (td:Int) (tn:Int) (vs:List Value):HpL:=[(0,0,qak l),(1,0,.mrow (byV s)),(2,0,.mp 1),(3,0,.pv (iV tn)),(3,1,.pv (iV td)),(5,0,.row 3 1 (m) (vs))]
abbrev qCe (k:Nat) (l:List Pt) (m:Nat):TmL:=[(1,.pc 91 [.pp 2 0,.pp 3 0]),(5,.ls 5 (m)),(9,.ls 0 l.length),(10,.pv (iV (l.length:Int))),(11,.pv (iV (k:Int)))]
theorem qtU {l s:List Pt} {vs:List Value} {k m:Nat} {p q g:Pt} {tn td:Int} (hk:l[k]?=some p) (hin:0≤(k:Int)∧(k:Int)<(l.length:Int)) (hlt:decide ((k:Int)<(l.length:Int))=true) (hB:qbb Tryz.prog 147 (byV s) (iV p.b) false (ptV g)) (hA:qbb Tryz.prog 147 (byV s) (iV p.a) false (ptV q)) (ha:Pure Tryz.prog 92 #[ptV g,ptV q,qaa tn td] (.tuple #[.bool false,iV 0])) (hs:iV (IntKind.i64.wrap ((k:Int)+1))=iV (((k+1:Nat):Int))) {e:Exit} {tm2:TmL} {hp2:HpL}
 (r:Rl 4 4 93 0 26 6 ([(1,.pc 91 [.pp 2 0,.pp 3 0]),(5,.ls 5 (m)),(9,.ls 0 l.length),(10,.pv (iV (l.length:Int))),(11,.pv (iV ((k+1:Nat):Int)))]) (qw0 l m s td tn vs) e tm2 hp2):Rl 4 4 93 0 26 6 (qCe k l m) (qw0 l m s td tn vs) e tm2 hp2:=
 RunsL.next [] 300 [.t true,.r (ptV p),.k,.r (ptV g),.r (ptV q),Rf ha,Re hs]
  (Ro (Ai hlt (Ai hin (Ai (qaI hk) (Ai hB (Ai hA (Ai ha (Ai hs tI)))))))) r
theorem qub {l s:List Pt} {vs:List Value} {k m:Nat} {p q g:Pt} {tn td:Int} (hk:l[k]?=some p) (hin:0≤(k:Int)∧(k:Int)<(l.length:Int)) (hlt:decide ((k:Int)<(l.length:Int))=true) (hB:qbb Tryz.prog 147 (byV s) (iV p.b) false (ptV g)) (hA:qbb Tryz.prog 147 (byV s) (iV p.a) false (ptV q)) (ha:Pure Tryz.prog 92 #[ptV g,ptV q,qaa tn td] (.tuple #[.bool true,iV 0])) (hm:m+1≤1000000) (hs:iV (IntKind.i64.wrap ((k:Int)+1))=iV (((k+1:Nat):Int))) {e:Exit} {tm2:TmL} {hp2:HpL}
 (r:Rl 4 4 93 0 26 6 ([(1,.pc 91 [.pp 2 0,.pp 3 0]),(5,.ls 5 (m+1)),(9,.ls 0 l.length),(10,.pv (iV (l.length:Int))),(11,.pv (iV ((k+1:Nat):Int)))]) ([(0,0,qak l),(1,0,.mrow (byV s)),(2,0,.mp 1),(3,0,.pv (iV tn)),(3,1,.pv (iV td)),(5,0,.row 3 1 (m+1) (vs++[iV p.id]))]) e tm2 hp2):Rl 4 4 93 0 26 6 (qCe k l m) (qw0 l m s td tn vs) e tm2 hp2:=
 RunsL.next [(5,9)] 300 [.t true,.r (ptV p),.k,.r (ptV g),.r (ptV q),Rf ha,Re hs]
  (Ro (Ai hlt (Ai hin (Ai (qaI hk) (Ai hB (Ai hA (Ai ha (Ai hm (Ai hs tI))))))))) r
theorem qyW {l s:List Pt} {vs:List Value} {k m:Nat} {tn td:Int} (hge:decide ((k:Int)<(l.length:Int))=false):Rl 4 4 93 0 26 6 (qCe k l m) (qw0 l m s td tn vs) (.exit 0) ([(5,.ls 5 m)]) (qw0 l m s td tn vs):=
 RunsL.stop [] 300 [.t false] (fun h=>by cases h)
  (Ro (Ai hge tI))
theorem qtY {l s:List Pt} {vs:List Value} {m:Nat} {x tn td:Int} (r0:Rl 4 4 93 0 26 6 ([(1,.pc 91 [.pp 2 0,.pp 3 0]),(5,.ls 5 (0)),(9,.ls 0 l.length),(10,.pv (iV (l.length:Int))),(11,.pv (iV ((0:Nat):Int)))]) ([(0,0,qak l),(1,0,.mrow (byV s)),(2,0,.mp 1),(3,0,.pv (iV tn)),(3,1,.pv (iV td)),(5,0,.row 3 1 (0) ([]))]) (.exit 0) ([(5,.ls 5 m)]) (qw0 l m s td tn vs)) :
 Fn 93 4 [qaH 0 x l,.pc 91 [.pp 2 0,.pp 3 0]] [(0,0,qak l),(1,0,.mrow (byV s)),(2,0,.mp 1),(3,0,.pv (iV tn)),(3,1,.pv (iV td))] (.ls 4 m) 1 [(4,0,.row 3 1 m vs)]:=
 Fz [(4,5)] [.ln true 5 0 3 1,Lf r0]
  (qaC (qaK [(4,5)]) [(4,0,.row 3 1 m vs)]) (Lo r0 [] tI)
theorem qyu {l s s2:List Pt} {vs:List Value} {m:Nat} {x tn td:Int} (c1:Fn 88 1 [qaH 0 x l] [(0,0,qak l)] (.pv (iV (0))) 0 []) (c2:Fn 48 1 [qaJ 0 s] [(0,0,qal s)] (.pv (iV (0))) 0 []) (c3:Pure Tryz.prog 49 #[qaa tn td] (iV (0))) (hb:Fn 89 1 [qaJ 0 s] [(0,0,qal s)] (.mp 1) 1 [(1,0,.mrow (byV s2))]) (hh:Fn 90 2 [.mp 1,qaH 0 x l] [(0,0,qak l),(1,0,.mrow (byV s2))] (.pv (.bool true)) 0 []) (hn:Fn 93 4 [qaH 0 x l,.pc 91 [.pp 2 0,.pp 3 0]] [(0,0,qak l),(1,0,.mrow (byV s2)),(2,0,.mp 1),(3,0,.pv (iV tn)),(3,1,.pv (iV td))] (.ls 4 m) 1 [(4,0,.row 3 1 m vs)]) :
 Fn 42 2 [qaH 0 x l,qaJ 1 s,.pv (qaa tn td)] [(0,0,qak l),(1,0,qal s)] (.tu [.one (.ls 2 m),.one (.pv (iV 0))]) 1 [(2,0,.row 3 1 m vs)]:=
 Fz [(2,8)] [Cf c1 [0],Cf c2 [1],Rf c3,.k,.k,.k,.k,.k,.k,.k,.k,.k,.k,.k,.k,Cf hb [1],Cf hh [0,6],.k,Cf hn [0,6,7,4]]
  (qaC (qaK [(2,8)]) [(2,0,.row 3 1 m vs)]) (Co c1 [0] 5 (Co c2 [1] 5 (Ai c3 (Co hb [1] 6 (Co hh [0,6] 8 (Co hn [0,6,7,4] 8 tI))))))
end Go.Proofs.YtkjaanhddkkodaaGreat

namespace Go.Proofs.YtkjaanhddkkodaaGreat
set_option maxRecDepth 100000
open Go.RowKit
theorem qF2 {a b:Int} (h1:decide (a≥0)=false) :
 Pure Tryz.prog 71 #[qag a b] (.bool false):=
 qad (args:=[qag a b]) 300 [.t false]
  (Ai rfl (Ai h1 tI)) (by kernel_rfl)
theorem qF1 {a b:Int} (h1:decide (a≥0)=true) (h2:decide (a≤65535)=false) :
 Pure Tryz.prog 71 #[qag a b] (.bool false):=
 qad (args:=[qag a b]) 300 [.t true,.t false]
  (Ai rfl (Ai h1 (Ai h2 tI))) (by kernel_rfl)
theorem qFP {a b:Int} (h1:decide (a≥0)=true) (h2:decide (a≤65535)=true) (h3:decide (b≥0)=false) :
 Pure Tryz.prog 71 #[qag a b] (.bool false):=
 qad (args:=[qag a b]) 300 [.t true,.t true,.t false]
  (Ai rfl (Ai h1 (Ai h2 (Ai h3 tI)))) (by kernel_rfl)
theorem qGa {a b:Int} (h1:decide (a≥0)=true) (h2:decide (a≤65535)=true) (h3:decide (b≥0)=true) (h4:decide (b≤65535)=false) :
 Pure Tryz.prog 71 #[qag a b] (.bool false):=
 qad (args:=[qag a b]) 300 [.t true,.t true,.t true,.t false]
  (Ai rfl (Ai h1 (Ai h2 (Ai h3 (Ai h4 tI))))) (by kernel_rfl)
theorem qEW {a b:Int} (h1:decide (a≥0)=true) (h2:decide (a≤65535)=true) (h3:decide (b≥0)=true) (h4:decide (b≤65535)=true) (hn:(a !=b)=true) :
 Pure Tryz.prog 71 #[qag a b] (.bool true):=
 qad (args:=[qag a b]) 300 [.t true,.t true,.t true,.t true,.t true]
  (Ai rfl (Ai h1 (Ai h2 (Ai h3 (Ai h4 (Ai hn tI)))))) (by kernel_rfl)
theorem qEn {a b:Int} (h1:decide (a≥0)=true) (h2:decide (a≤65535)=true) (h3:decide (b≥0)=true) (h4:decide (b≤65535)=true) (hn:(a !=b)=false) :
 Pure Tryz.prog 71 #[qag a b] (.bool false):=
 qad (args:=[qag a b]) 300 [.t true,.t true,.t true,.t true,.t false]
  (Ai rfl (Ai h1 (Ai h2 (Ai h3 (Ai h4 (Ai hn tI)))))) (by kernel_rfl)
abbrev qiu (l:List Pt) (x:Int):HpL:=[(1,0,.pv (iV x)),(1,1,.ls 0 l.length),(0,0,qak l)]
abbrev qtf (k:Nat):TmL:=[(1,.pp 1 0),(3,.pv (iV (k:Int)))]
theorem qCO {l:List Pt} {k:Nat} {p:Pt} {x:Int} (hk:l[k]?=some p) (hin:0≤(k:Int)∧(k:Int)<(l.length:Int)) (hlt:decide ((k:Int)<(l.length:Int))=true) (hv:Pure Tryz.prog 71 #[qag p.a p.b] (.bool false)):Rl 1 1 76 0 78 2 (qtf k) (qiu l x) (.ret) ([(2,.pv (iV 8))]) ([]):=
 RunsL.stop [] 300 [.t true,.r (ptV p),Rf hv,.k] (fun h=>by cases h)
  (Ro (Ai hlt (Ai hin (Ai (qaI hk) (Ai hv tI)))))
theorem qDz {l:List Pt} {k:Nat} {p:Pt} {x:Int} (hk:l[k]?=some p) (hin:0≤(k:Int)∧(k:Int)<(l.length:Int)) (hlt:decide ((k:Int)<(l.length:Int))=true) (hv:Pure Tryz.prog 71 #[qag p.a p.b] (.bool true)) (h1:decide (p.id<0)=true):Rl 1 1 76 0 78 2 (qtf k) (qiu l x) (.ret) ([(2,.pv (iV 8))]) ([]):=
 RunsL.stop [] 300 [.t true,.r (ptV p),Rf hv,.k,.t true] (fun h=>by cases h)
  (Ro (Ai hlt (Ai hin (Ai (qaI hk) (Ai hv (Ai h1 tI))))))
theorem qE7 {l:List Pt} {k:Nat} {p:Pt} {x:Int} (hk:l[k]?=some p) (hin:0≤(k:Int)∧(k:Int)<(l.length:Int)) (hlt:decide ((k:Int)<(l.length:Int))=true) (hv:Pure Tryz.prog 71 #[qag p.a p.b] (.bool true)) (h1:decide (p.id<0)=false) (h2:decide (p.id≥x)=true):Rl 1 1 76 0 78 2 (qtf k) (qiu l x) (.ret) ([(2,.pv (iV 8))]) ([]):=
 RunsL.stop [] 300 [.t true,.r (ptV p),Rf hv,.k,.t false,.t true] (fun h=>by cases h)
  (Ro (Ai hlt (Ai hin (Ai (qaI hk) (Ai hv (Ai h1 (Ai h2 tI)))))))
abbrev qAs (k:Nat):TmL:=[(1,.pp 1 0),(3,.pv (iV ((k+1:Nat):Int)))]
theorem qCQ {l:List Pt} {k:Nat} {p q:Pt} {x:Int} (hk:l[k+1]?=some p) (hin:0≤((k+1:Nat):Int)∧((k+1:Nat):Int)<(l.length:Int)) (hlt:decide (((k+1:Nat):Int)<(l.length:Int))=true) (hv:Pure Tryz.prog 71 #[qag p.a p.b] (.bool true)) (h1:decide (p.id<0)=false) (h2:decide (p.id≥x)=false) (hz:decide (((k+1:Nat):Int)>0)=true) (hq:l[k]?=some q) (hin0:0≤(k:Int)∧(k:Int)<(l.length:Int)) (hm:iV (IntKind.i64.wrap (((k+1:Nat):Int)-1))=iV (k:Int)) (hg:decide (q.id≥p.id)=true):Rl 1 1 76 0 78 2 (qAs k) (qiu l x) (.ret) ([(2,.pv (iV 8))]) ([]):=
 RunsL.stop [] 300 [.t true,.r (ptV p),Rf hv,.k,.t false,.t false,.t true,.r (iV (k:Int)),.r (iV q.id),.t true] (fun h=>by cases h)
  (Ro (Ai hlt (Ai hin (Ai (qaI hk) (Ai hv (Ai h1 (Ai h2 (Ai hz (Ai hm (Ai hin0 (Ai (qcW hq) (Ai hg tI))))))))))))
abbrev qvk (l:List Pt) (p:Pt) (x:Int):HpL:=[(1,0,.pv (iV x)),(1,1,.ls 0 l.length),(2,0,.pv (iV p.id)),(2,1,.pv (iV p.a)),(2,2,.pv (iV p.b)),(0,0,qak l)]
theorem qDC {l:List Pt} {k:Nat} {p:Pt} {x:Int} (hk:l[k]?=some p) (hin:0≤(k:Int)∧(k:Int)<(l.length:Int)) (hlt:decide ((k:Int)<(l.length:Int))=true) (hv:Pure Tryz.prog 71 #[qag p.a p.b] (.bool true)) (h1:decide (p.id<0)=false) (h2:decide (p.id≥x)=false) (hz:decide ((k:Int)>0)=false) (r1:Rl 1 1 76 1 78 3 ([(1,.pp 1 0),(3,.pv (iV (k:Int))),(4,.pp 2 0),(5,.pv (iV ((0:Nat):Int)))]) (qvk l p x) (.exit 2) (qtf k) (qiu l x)) (hs:iV (IntKind.i64.wrap ((k:Int)+1))=iV (((k+1:Nat):Int))) {e:Exit} {tm2:TmL} {hp2:HpL}
 (r:Rl 1 1 76 0 78 2 (qAs k) (qiu l x) e tm2 hp2):Rl 1 1 76 0 78 2 (qtf k) (qiu l x) e tm2 hp2:=
 RunsL.next [] 300 [.t true,.r (ptV p),Rf hv,.k,.t false,.t false,.t false,Lf r1,Re hs]
  (Ro (Ai hlt (Ai hin (Ai (qaI hk) (Ai hv (Ai h1 (Ai h2 (Ai hz (Lo r1 [] (Ai hs tI)))))))))) r
theorem qCq {l:List Pt} {k:Nat} {p q:Pt} {x:Int} (hk:l[k+1]?=some p) (hin:0≤((k+1:Nat):Int)∧((k+1:Nat):Int)<(l.length:Int)) (hlt:decide (((k+1:Nat):Int)<(l.length:Int))=true) (hv:Pure Tryz.prog 71 #[qag p.a p.b] (.bool true)) (h1:decide (p.id<0)=false) (h2:decide (p.id≥x)=false) (hz:decide (((k+1:Nat):Int)>0)=true) (hq:l[k]?=some q) (hin0:0≤(k:Int)∧(k:Int)<(l.length:Int)) (hm:iV (IntKind.i64.wrap (((k+1:Nat):Int)-1))=iV (k:Int)) (hg:decide (q.id≥p.id)=false) (r1:Rl 1 1 76 1 78 3 ([(1,.pp 1 0),(3,.pv (iV ((k+1:Nat):Int))),(4,.pp 2 0),(5,.pv (iV ((0:Nat):Int)))]) (qvk l p x) (.exit 2) (qAs k) (qiu l x)) (hs:iV (IntKind.i64.wrap (((k+1:Nat):Int)+1))=iV (((k+1+1:Nat):Int))) {e:Exit} {tm2:TmL} {hp2:HpL}
 (r:Rl 1 1 76 0 78 2 ([(1,.pp 1 0),(3,.pv (iV ((k+1+1:Nat):Int)))]) (qiu l x) e tm2 hp2):Rl 1 1 76 0 78 2 (qAs k) (qiu l x) e tm2 hp2:=
 RunsL.next [] 300 [.t true,.r (ptV p),Rf hv,.k,.t false,.t false,.t true,.r (iV (k:Int)),.r (iV q.id),.t false,Lf r1,.r (iV (((k+1+1:Nat):Int)))]
  (Ro (Ai hlt (Ai hin (Ai (qaI hk) (Ai hv (Ai h1 (Ai h2 (Ai hz (Ai hm (Ai hin0 (Ai (qcW hq) (Ai hg (Lo r1 [] (Ai hs tI)))))))))))))) r
theorem qok {l:List Pt} {k:Nat} {p q:Pt} {x:Int} (hk:l[k+1]?=some p) (hin:0≤((k+1:Nat):Int)∧((k+1:Nat):Int)<(l.length:Int)) (hlt:decide (((k+1:Nat):Int)<(l.length:Int))=true) (hv:Pure Tryz.prog 71 #[qag p.a p.b] (.bool true)) (h1:decide (p.id<0)=false) (h2:decide (p.id≥x)=false) (hz:decide (((k+1:Nat):Int)>0)=true) (hq:l[k]?=some q) (hin0:0≤(k:Int)∧(k:Int)<(l.length:Int)) (hm:iV (IntKind.i64.wrap (((k+1:Nat):Int)-1))=iV (k:Int)) (hg:decide (q.id≥p.id)=false) (r1:Rl 1 1 76 1 78 3 ([(1,.pp 1 0),(3,.pv (iV ((k+1:Nat):Int))),(4,.pp 2 0),(5,.pv (iV ((0:Nat):Int)))]) (qvk l p x) (.ret) ([(2,.pv (iV 8))]) ([])):Rl 1 1 76 0 78 2 (qAs k) (qiu l x) (.ret) ([(2,.pv (iV 8))]) ([]):=
 RunsL.stop [] 300 [.t true,.r (ptV p),Rf hv,.k,.t false,.t false,.t true,.r (iV (k:Int)),.r (iV q.id),.t false,Lf r1] (fun h=>by cases h)
  (Ro (Ai hlt (Ai hin (Ai (qaI hk) (Ai hv (Ai h1 (Ai h2 (Ai hz (Ai hm (Ai hin0 (Ai (qcW hq) (Ai hg (Lo r1 [] tI)))))))))))))
theorem qu4 {l:List Pt} {k:Nat} {x:Int} (hge:decide ((k:Int)<(l.length:Int))=false):Rl 1 1 76 0 78 2 (qtf k) (qiu l x) (.exit 0) ([]) ([]):=
 RunsL.stop [] 300 [.t false] (fun h=>by cases h)
  (Ro (Ai hge tI))
abbrev qE1 (j:Nat) (k:Nat):TmL:=[(1,.pp 1 0),(3,.pv (iV (k:Int))),(4,.pp 2 0),(5,.pv (iV (j:Int)))]
theorem qnz {l:List Pt} {k j:Nat} {p q:Pt} {x:Int} (hq:l[j]?=some q) (hin:0≤(j:Int)∧(j:Int)<(l.length:Int)) (hlt:decide ((j:Int)<(k:Int))=true) (he:(q.a==p.a&&(q.b==p.b&&true))=false) (hs:iV (IntKind.i64.wrap ((j:Int)+1))=iV (((j+1:Nat):Int))) {e:Exit} {tm2:TmL} {hp2:HpL}
 (r:Rl 1 1 76 1 78 3 ([(1,.pp 1 0),(3,.pv (iV (k:Int))),(4,.pp 2 0),(5,.pv (iV ((j+1:Nat):Int)))]) (qvk l p x) e tm2 hp2):Rl 1 1 76 1 78 3 (qE1 j k) (qvk l p x) e tm2 hp2:=
 RunsL.next [] 300 [.t true,.r (qag q.a q.b),.t false,Re hs]
  (Ro (Ai hlt (Ai hin (Ai (qdx hq) (Ai he (Ai hs tI)))))) r
theorem qqK {l:List Pt} {k j:Nat} {p q:Pt} {x:Int} (hq:l[j]?=some q) (hin:0≤(j:Int)∧(j:Int)<(l.length:Int)) (hlt:decide ((j:Int)<(k:Int))=true) (he:(q.a==p.a&&(q.b==p.b&&true))=true):Rl 1 1 76 1 78 3 (qE1 j k) (qvk l p x) (.ret) ([(2,.pv (iV 8))]) ([]):=
 RunsL.stop [] 300 [.t true,.r (qag q.a q.b),.t true] (fun h=>by cases h)
  (Ro (Ai hlt (Ai hin (Ai (qdx hq) (Ai he tI)))))
theorem qqC {l:List Pt} {k j:Nat} {p:Pt} {x:Int} (hge:decide ((j:Int)<(k:Int))=false):Rl 1 1 76 1 78 3 (qE1 j k) (qvk l p x) (.exit 2) (qtf k) (qiu l x):=
 RunsL.stop [] 300 [.t false] (fun h=>by cases h)
  (Ro (Ai hge tI))
theorem qoP {l:List Pt} {x:Int} (g1:decide ((l.length:Int)>200)=true) :
 Fn 76 1 [qaH 0 x l] [(0,0,qak l)] (.pv (iV (8))) 0 []:=
 Fz [] [.t true]
  tI (Ai g1 tI)
theorem qs6 {l:List Pt} {x:Int} (g1:decide ((l.length:Int)>200)=false) (g2:decide (x<0)=true) :
 Fn 76 1 [qaH 0 x l] [(0,0,qak l)] (.pv (iV (8))) 0 []:=
 Fz [] [.t false,.t true]
  tI (Ai g1 (Ai g2 tI))
theorem quj {l:List Pt} {x:Int} (g1:decide ((l.length:Int)>200)=false) (g2:decide (x<0)=false) (g3:decide (x>1000000)=true) :
 Fn 76 1 [qaH 0 x l] [(0,0,qak l)] (.pv (iV (8))) 0 []:=
 Fz [] [.t false,.t false,.t true]
  tI (Ai g1 (Ai g2 (Ai g3 tI)))
theorem qvq {l:List Pt} {x:Int} (g1:decide ((l.length:Int)>200)=false) (g2:decide (x<0)=false) (g3:decide (x>1000000)=false) (r0:Rl 1 1 76 0 78 2 ([(1,.pp 1 0),(3,.pv (iV ((0:Nat):Int)))]) (qiu l x) (.ret) ([(2,.pv (iV 8))]) ([])) :
 Fn 76 1 [qaH 0 x l] [(0,0,qak l)] (.pv (iV (8))) 0 []:=
 Fz [] [.t false,.t false,.t false,Lf r0]
  tI (Ai g1 (Ai g2 (Ai g3 (Lo r0 [] tI))))
theorem qAc {l:List Pt} {x:Int} (g1:decide ((l.length:Int)>200)=false) (g2:decide (x<0)=false) (g3:decide (x>1000000)=false) (r0:Rl 1 1 76 0 78 2 ([(1,.pp 1 0),(3,.pv (iV ((0:Nat):Int)))]) (qiu l x) (.exit 0) ([]) ([])) :
 Fn 76 1 [qaH 0 x l] [(0,0,qak l)] (.pv (iV (0))) 0 []:=
 Fz [] [.t false,.t false,.t false,Lf r0]
  tI (Ai g1 (Ai g2 (Ai g3 (Lo r0 [] tI))))
end Go.Proofs.YtkjaanhddkkodaaGreat

namespace Go.Proofs.YtkjaanhddkkodaaGreat
set_option maxRecDepth 100000
open Go.RowKit
theorem qDO {a:Int} (h0:decide (0≤a)=false) :
 Pure Tryz.prog 194 #[iV a] (.bool false):=
 qad (args:=[iV a]) 300 [.t false]
  (Ai rfl (Ai h0 tI)) (by kernel_rfl)
theorem qCv {a:Int} (h0:decide (0≤a)=true) (h1:decide (a≤65535)=false) :
 Pure Tryz.prog 194 #[iV a] (.bool false):=
 qad (args:=[iV a]) 300 [.t true,.t false]
  (Ai rfl (Ai h0 (Ai h1 tI))) (by kernel_rfl)
theorem qEh {a:Int} (h0:decide (0≤a)=true) (h1:decide (a≤65535)=true) :
 Pure Tryz.prog 194 #[iV a] (.bool true):=
 qad (args:=[iV a]) 300 [.t true,.t true]
  (Ai rfl (Ai h0 (Ai h1 tI))) (by kernel_rfl)
theorem qGi {a b:Int} (ha:Pure Tryz.prog 194 #[iV a] (.bool false)) :
 Pure Tryz.prog 148 #[qag a b] (.bool false):=
 qad (args:=[qag a b]) 300 [Rf ha]
  (Ai rfl (Ai ha tI)) (by kernel_rfl)
theorem qGe {a b:Int} (ha:Pure Tryz.prog 194 #[iV a] (.bool true)) (hb:Pure Tryz.prog 194 #[iV b] (.bool false)) :
 Pure Tryz.prog 148 #[qag a b] (.bool false):=
 qad (args:=[qag a b]) 300 [Rf ha,Rf hb]
  (Ai rfl (Ai ha (Ai hb tI))) (by kernel_rfl)
theorem qE2 {a b:Int} (ha:Pure Tryz.prog 194 #[iV a] (.bool true)) (hb:Pure Tryz.prog 194 #[iV b] (.bool true)) (hn:(a !=b)=true) :
 Pure Tryz.prog 148 #[qag a b] (.bool true):=
 qad (args:=[qag a b]) 300 [Rf ha,Rf ha,.t true]
  (Ai rfl (Ai ha (Ai hb (Ai hn tI)))) (by kernel_rfl)
theorem qEJ {a b:Int} (ha:Pure Tryz.prog 194 #[iV a] (.bool true)) (hb:Pure Tryz.prog 194 #[iV b] (.bool true)) (hn:(a !=b)=false) :
 Pure Tryz.prog 148 #[qag a b] (.bool false):=
 qad (args:=[qag a b]) 300 [Rf ha,Rf ha,.t false]
  (Ai rfl (Ai ha (Ai hb (Ai hn tI)))) (by kernel_rfl)
abbrev qwR (l:List Pt) (x:Int):HpL:=[(1,0,.pv (iV x)),(1,1,.ls 0 l.length),(0,0,qak l)]
abbrev qEF (k:Nat) (l:List Pt) (y:Int):TmL:=[(1,.pp 1 0),(3,.pv (iV (y))),(7,.ls 0 l.length),(8,.pv (iV (l.length:Int))),(9,.pv (iV (k:Int)))]
theorem qvb {l:List Pt} {k:Nat} {p:Pt} {x y:Int} (hk:l[k]?=some p) (hin:0≤(k:Int)∧(k:Int)<(l.length:Int)) (hlt:decide ((k:Int)<(l.length:Int))=true) (hle:decide (p.id≤y)=false) (hs:iV (IntKind.i64.wrap ((k:Int)+1))=iV (((k+1:Nat):Int))) {e:Exit} {tm2:TmL} {hp2:HpL}
 (r:Rl 1 1 137 0 29 2 ([(1,.pp 1 0),(3,.pv (iV (p.id))),(7,.ls 0 l.length),(8,.pv (iV (l.length:Int))),(9,.pv (iV ((k+1:Nat):Int)))]) (qwR l x) e tm2 hp2):Rl 1 1 137 0 29 2 (qEF k l y) (qwR l x) e tm2 hp2:=
 RunsL.next [] 300 [.t true,.r (ptV p),.t false,Re hs]
  (Ro (Ai hlt (Ai hin (Ai (qaI hk) (Ai hle (Ai hs tI)))))) r
theorem qxA {l:List Pt} {k:Nat} {p:Pt} {x y:Int} (hk:l[k]?=some p) (hin:0≤(k:Int)∧(k:Int)<(l.length:Int)) (hlt:decide ((k:Int)<(l.length:Int))=true) (hle:decide (p.id≤y)=true):Rl 1 1 137 0 29 2 (qEF k l y) (qwR l x) (.ret) ([(2,.pv (.bool false))]) ([]):=
 RunsL.stop [] 300 [.t true,.r (ptV p),.t true] (fun h=>by cases h)
  (Ro (Ai hlt (Ai hin (Ai (qaI hk) (Ai hle tI)))))
theorem qzB {l:List Pt} {k:Nat} {x y:Int} (hge:decide ((k:Int)<(l.length:Int))=false):Rl 1 1 137 0 29 2 (qEF k l y) (qwR l x) (.exit 0) ([(1,.pp 1 0),(3,.pv (iV (y)))]) (qwR l x):=
 RunsL.stop [] 300 [.t false] (fun h=>by cases h)
  (Ro (Ai hge tI))
theorem qCV {l:List Pt} {x:Int} (r0:Rl 1 1 137 0 29 2 ([(1,.pp 1 0),(3,.pv (iV (-1))),(7,.ls 0 l.length),(8,.pv (iV (l.length:Int))),(9,.pv (iV ((0:Nat):Int)))]) (qwR l x) (.ret) ([(2,.pv (.bool false))]) ([])) :
 Fn 137 1 [qaH 0 x l] [(0,0,qak l)] (.pv (.bool false)) 0 []:=
 Fz [] [Lf r0]
  tI (Lo r0 [] tI)
abbrev qEP (l:List Pt) (x:Int) (y:Int):Prop:=Rl 1 1 137 0 29 2 ([(1,.pp 1 0),(3,.pv (iV (-1))),(7,.ls 0 l.length),(8,.pv (iV (l.length:Int))),(9,.pv (iV ((0:Nat):Int)))]) ([(1,0,.pv (iV x)),(1,1,.ls 0 l.length),(0,0,qak l)]) (.exit 0) ([(1,.pp 1 0),(3,.pv (iV (y)))]) ([(1,0,.pv (iV x)),(1,1,.ls 0 l.length),(0,0,qak l)])
theorem qDh {l:List Pt} {x y:Int} (r0:qEP l x y) (h1:decide (y<x)=false) :
 Fn 137 1 [qaH 0 x l] [(0,0,qak l)] (.pv (.bool false)) 0 []:=
 Fz [] [Lf r0,.t false]
  tI (Lo r0 [] (Ai h1 tI))
theorem qEm {l:List Pt} {x y:Int} (r0:qEP l x y) (h1:decide (y<x)=true) (h2:decide (x≤1000000)=false) :
 Fn 137 1 [qaH 0 x l] [(0,0,qak l)] (.pv (.bool false)) 0 []:=
 Fz [] [Lf r0,.t true,.t false]
  tI (Lo r0 [] (Ai h1 (Ai h2 tI)))
theorem qDv {l:List Pt} {x y:Int} (r0:qEP l x y) (h1:decide (y<x)=true) (h2:decide (x≤1000000)=true) :
 Fn 137 1 [qaH 0 x l] [(0,0,qak l)] (.pv (.bool true)) 0 []:=
 Fz [] [Lf r0,.t true,.t true]
  tI (Lo r0 [] (Ai h1 (Ai h2 tI)))
abbrev qBF (k:Nat) (l:List Pt):TmL:=[(3,.mp 1),(9,.ls 0 l.length),(10,.pv (iV (l.length:Int))),(11,.pv (iV (k:Int)))]
theorem qz5 {l m:List Pt} {k:Nat} {p:Pt} (hk:l[k]?=some p) (hin:0≤(k:Int)∧(k:Int)<(l.length:Int)) (hlt:decide ((k:Int)<(l.length:Int))=true) (hv:Pure Tryz.prog 148 #[qag p.a p.b] (.bool false)):Rl 1 1 138 0 29 2 (qBF k l) ([(1,0,.mrow (qcZ (m))),(0,0,qak l)]) (.ret) ([(2,.pv (.bool false))]) ([]):=
 RunsL.stop [] 300 [.t true,.r (ptV p),Rf hv,.k] (fun h=>by cases h)
  (Ro (Ai hlt (Ai hin (Ai (qaI hk) (Ai hv tI)))))
theorem qx2 {l m:List Pt} {k:Nat} {p:Pt} (hk:l[k]?=some p) (hin:0≤(k:Int)∧(k:Int)<(l.length:Int)) (hlt:decide ((k:Int)<(l.length:Int))=true) (hv:Pure Tryz.prog 148 #[qag p.a p.b] (.bool true)) (hL:qbb Tryz.prog 250 (qcZ m) (qag p.a p.b) false (.bool true)):Rl 1 1 138 0 29 2 (qBF k l) ([(1,0,.mrow (qcZ (m))),(0,0,qak l)]) (.ret) ([(2,.pv (.bool false))]) ([]):=
 RunsL.stop [] 300 [.t true,.r (ptV p),Rf hv,.k,Rf hv] (fun h=>by cases h)
  (Ro (Ai hlt (Ai hin (Ai (qaI hk) (Ai hv (Ai hL tI))))))
theorem qwe {l m:List Pt} {k:Nat} {p:Pt} (hk:l[k]?=some p) (hin:0≤(k:Int)∧(k:Int)<(l.length:Int)) (hlt:decide ((k:Int)<(l.length:Int))=true) (hv:Pure Tryz.prog 148 #[qag p.a p.b] (.bool true)) (hL:qbb Tryz.prog 250 (qcZ m) (qag p.a p.b) false (.bool false)) (hP:qhM Tryz.prog 250 (qcZ m) (qag p.a p.b) (.bool true) (qcZ (m++[p]))) (hs:iV (IntKind.i64.wrap ((k:Int)+1))=iV (((k+1:Nat):Int))) {e:Exit} {tm2:TmL} {hp2:HpL}
 (r:Rl 1 1 138 0 29 2 ([(3,.mp 1),(9,.ls 0 l.length),(10,.pv (iV (l.length:Int))),(11,.pv (iV ((k+1:Nat):Int)))]) ([(1,0,.mrow (qcZ (m++[p]))),(0,0,qak l)]) e tm2 hp2):Rl 1 1 138 0 29 2 (qBF k l) ([(1,0,.mrow (qcZ (m))),(0,0,qak l)]) e tm2 hp2:=
 RunsL.next [] 300 [.t true,.r (ptV p),Rf hv,.k,.r (.bool false),.w (qcZ (m++[p])),Re hs]
  (Ro (Ai hlt (Ai hin (Ai (qaI hk) (Ai hv (Ai hL (Ai hP (Ai hs tI)))))))) r
theorem qzb {l m:List Pt} {k:Nat} (hge:decide ((k:Int)<(l.length:Int))=false):Rl 1 1 138 0 29 2 (qBF k l) ([(1,0,.mrow (qcZ (m))),(0,0,qak l)]) (.exit 0) ([]) ([]):=
 RunsL.stop [] 300 [.t false] (fun h=>by cases h)
  (Ro (Ai hge tI))
theorem qBb {l:List Pt} (r0:Rl 1 1 138 0 29 2 ([(3,.mp 1),(9,.ls 0 l.length),(10,.pv (iV (l.length:Int))),(11,.pv (iV ((0:Nat):Int)))]) ([(1,0,.mrow (qcZ ([]))),(0,0,qak l)]) (.ret) ([(2,.pv (.bool false))]) ([])) :
 Fn 138 1 [.ls 0 l.length] [(0,0,qak l)] (.pv (.bool false)) 0 []:=
 Fz [] [Lf r0]
  tI (Lo r0 [] tI)
theorem qCJ {l:List Pt} (r0:Rl 1 1 138 0 29 2 ([(3,.mp 1),(9,.ls 0 l.length),(10,.pv (iV (l.length:Int))),(11,.pv (iV ((0:Nat):Int)))]) ([(1,0,.mrow (qcZ ([]))),(0,0,qak l)]) (.exit 0) ([]) ([])) :
 Fn 138 1 [.ls 0 l.length] [(0,0,qak l)] (.pv (.bool true)) 0 []:=
 Fz [] [Lf r0]
  tI (Lo r0 [] tI)
theorem qrv {l:List Pt} {x:Int} (h2:decide ((l.length:Int)>200)=true) :
 Fn 88 1 [qaH 0 x l] [(0,0,qak l)] (.pv (iV (8))) 0 []:=
 Fz [] [.t true]
  tI (Ai h2 tI)
theorem qwx {l:List Pt} {x:Int} (h2:decide ((l.length:Int)>200)=false) (hn:Fn 137 1 [qaH 0 x l] [(0,0,qak l)] (.pv (.bool false)) 0 []) :
 Fn 88 1 [qaH 0 x l] [(0,0,qak l)] (.pv (iV (8))) 0 []:=
 Fz [] [.t false,Cf hn [0],.k]
  tI (Ai h2 (Co hn [0] 2 tI))
theorem qsH {l:List Pt} {x:Int} (h2:decide ((l.length:Int)>200)=false) (hn:Fn 137 1 [qaH 0 x l] [(0,0,qak l)] (.pv (.bool true)) 0 []) (hc:Fn 138 1 [.ls 0 l.length] [(0,0,qak l)] (.pv (.bool false)) 0 []) :
 Fn 88 1 [qaH 0 x l] [(0,0,qak l)] (.pv (iV (8))) 0 []:=
 Fz [] [.t false,Cf hn [0],.k,Cf hc [0],.k]
  tI (Ai h2 (Co hn [0] 2 (Co hc [0] 2 tI)))
theorem qBx {l:List Pt} {x:Int} (h2:decide ((l.length:Int)>200)=false) (hn:Fn 137 1 [qaH 0 x l] [(0,0,qak l)] (.pv (.bool true)) 0 []) (hc:Fn 138 1 [.ls 0 l.length] [(0,0,qak l)] (.pv (.bool true)) 0 []) :
 Fn 88 1 [qaH 0 x l] [(0,0,qak l)] (.pv (iV (0))) 0 []:=
 Fz [] [.t false,Cf hn [0],.k,Cf hc [0],.k]
  tI (Ai h2 (Co hn [0] 2 (Co hc [0] 2 tI)))
end Go.Proofs.YtkjaanhddkkodaaGreat
