/-
  Joined: Da, Db, Ea, Eb, Ec. Conditions: none.
-/
import Derived.Test.YtalnjplghagbpaaW28
import Derived.Test.YtalnjplghagbpaaSxJ
import Derived.Test.YtalnjplghagbpaaW19
namespace Go.Proofs.Ytalnjplghagbpaa
set_option maxRecDepth 100000
open Go.RowKit
theorem qcU {rt z:Int} {l:List Pt} {n:Nat} {vs:List Value} (h0:decide (z<0)=true) :
 FnO Try.prog 96 1 2 [trS 0 rt l,.pv (iV (z)),.ls 1 n] [(0,0,qae l),(1,0,.row 3 1 n (vs))] (.ls 1 n) 0 [(1,0,.row 3 1 n (vs))]:=
 qaD 300 [] [.t true]
  (qam (qaF []) [(1,0,.row 3 1 n (vs))]) (Ai h0 tI) (by kernel_rfl)
theorem qgk {rt z:Int} {l:List Pt} (h0:decide (z<0)=true) :
 Fn 96 1 [trS 0 rt l,.pv (iV (z)),.pv (.slice none 0 0)] [(0,0,qae l)] (.pv (.slice none 0 0)) 0 []:=
 Fz [] [.t true]
  tI (Ai h0 tI)
abbrev qij (c1:List Int) (l:List Pt) (z:Int):HpL:=[(0,0,qae l),(1,0,.row 3 1 (c1.length+1) (ziV c1++[iV z]))]
theorem qqX {rt z:Int} {l:List Pt} {p:Pt} {g c1 c2:List Int} (h0:decide (z<0)=false) (h1:decide (((g.length:Int):Int)>(l.length:Int))=false) (hk:l[z.toNat]?=some p) (hin:0≤z∧z<(l.length:Int)) (hl:FnO Try.prog 96 1 2 [trS 0 rt l,.pv (iV (p.a)),.ls 1 g.length] [(0,0,qae l),(1,0,.row 3 1 g.length (ziV g))] (.ls 2 c1.length) 1 [(2,0,zrI c1)]) (hn:c1.length+1≤1000000) (hr:FnO Try.prog 96 1 2 [trS 0 rt l,.pv (iV (p.b)),.ls 1 (c1.length+1)] (qij c1 l z) (.ls 2 c2.length) 1 [(2,0,zrI c2)]) :
 FnO Try.prog 96 1 2 [trS 0 rt l,.pv (iV (z)),.ls 1 g.length] [(0,0,qae l),(1,0,zrI g)] (.ls 2 c2.length) 1 [(2,0,.row 3 1 c2.length (ziV c2))]:=
 qaD 300 [(2,6)] [.t false,.t false,.gh [(2,0),(2,1)],.r (iV p.a),.fo 1 [0,1] [trS 0 rt l,.pv (iV (p.a)),.ls 1 g.length] [(0,0,qae l),(1,0,.row 3 1 g.length (ziV g))] (.ls 2 c1.length) 1 [(2,0,zrI c1)],.gh [(2,0),(2,1)],.r (iV p.b),.fo 1 [0,5] [trS 0 rt l,.pv (iV (p.b)),.ls 1 (c1.length+1)] (qij c1 l z) (.ls 2 c2.length) 1 [(2,0,zrI c2)]]
  (qam (qaF [(2,6)]) [(2,0,.row 3 1 c2.length (ziV c2))]) (Ai h0 (Ai h1 (Ai (Er (SV.pv (iV rt))) (Ai (Er (SV.ls 0 l.length)) (Ai hin (Ai (Er (SV.pv (iV rt))) (Ai (Er (SV.ls 0 l.length)) (Ai (Er (SV.pv (iV rt))) (Ai (Er (SV.ls 0 l.length)) (Ai (qbS hk) (Ai (Er (SV.pv (iV rt))) (Ai (Er (SV.ls 0 l.length)) (Ai hl (Ai (Eq.refl (List.map (SV.ren (qar [0,1] 3)) [trS 0 rt l,.pv (iV (p.a)),.ls 1 g.length])) (Ai (qam (qar [0,1] 3) [(0,0,qae l),(1,0,.row 3 1 g.length (ziV g))]) (Ai (Er (SV.pv (iV rt))) (Ai (Er (SV.ls 0 l.length)) (Ai (Er (SV.pv (iV rt))) (Ai (Er (SV.ls 0 l.length)) (Ai hn (Ai (Er (SV.pv (iV rt))) (Ai (Er (SV.ls 0 l.length)) (Ai hin (Ai (Er (SV.pv (iV rt))) (Ai (Er (SV.ls 0 l.length)) (Ai (Er (SV.pv (iV rt))) (Ai (Er (SV.ls 0 l.length)) (Ai (qb7 hk) (Ai (Er (SV.pv (iV rt))) (Ai (Er (SV.ls 0 l.length)) (Ai hr (Ai (Eq.refl (List.map (SV.ren (qar [0,5] 6)) [trS 0 rt l,.pv (iV (p.b)),.ls 1 (c1.length+1)])) (Ai (qam (qar [0,5] 6) (qij c1 l z)) (Ai (Er (SV.pv (iV rt))) (Ai (Er (SV.ls 0 l.length)) (Ai (Er (SV.pv (iV rt))) (Ai (Er (SV.ls 0 l.length)) tI))))))))))))))))))))))))))))))))))))) (by kernel_rfl)
theorem qq2 {rt z:Int} {l:List Pt} {p:Pt} {g c1:List Int} (h0:decide (z<0)=false) (h1:decide (((g.length:Int):Int)>(l.length:Int))=false) (hk:l[z.toNat]?=some p) (hin:0≤z∧z<(l.length:Int)) (hl:FnO Try.prog 96 1 2 [trS 0 rt l,.pv (iV (p.a)),.ls 1 g.length] [(0,0,qae l),(1,0,.row 3 1 g.length (ziV g))] (.ls 2 c1.length) 1 [(2,0,zrI c1)]) (hn:c1.length+1≤1000000) (hr:FnO Try.prog 96 1 2 [trS 0 rt l,.pv (iV (p.b)),.ls 1 (c1.length+1)] (qij c1 l z) (.ls 1 (c1.length+1)) 0 [(1,0,.row 3 1 (c1.length+1) (ziV c1++[iV z]))]) :
 FnO Try.prog 96 1 2 [trS 0 rt l,.pv (iV (z)),.ls 1 g.length] [(0,0,qae l),(1,0,zrI g)] (.ls 2 (c1.length+1)) 1 [(2,0,.row 3 1 (c1.length+1) (ziV c1++[iV z]))]:=
 qaD 300 [(2,5)] [.t false,.t false,.gh [(2,0),(2,1)],.r (iV p.a),.fo 1 [0,1] [trS 0 rt l,.pv (iV (p.a)),.ls 1 g.length] [(0,0,qae l),(1,0,.row 3 1 g.length (ziV g))] (.ls 2 c1.length) 1 [(2,0,zrI c1)],.gh [(2,0),(2,1)],.r (iV p.b),.fo 1 [0,5] [trS 0 rt l,.pv (iV (p.b)),.ls 1 (c1.length+1)] (qij c1 l z) (.ls 1 (c1.length+1)) 0 [(1,0,.row 3 1 (c1.length+1) (ziV c1++[iV z]))]]
  (qam (qaF [(2,5)]) [(2,0,.row 3 1 (c1.length+1) (ziV c1++[iV z]))]) (Ai h0 (Ai h1 (Ai (Er (SV.pv (iV rt))) (Ai (Er (SV.ls 0 l.length)) (Ai hin (Ai (Er (SV.pv (iV rt))) (Ai (Er (SV.ls 0 l.length)) (Ai (Er (SV.pv (iV rt))) (Ai (Er (SV.ls 0 l.length)) (Ai (qbS hk) (Ai (Er (SV.pv (iV rt))) (Ai (Er (SV.ls 0 l.length)) (Ai hl (Ai (Eq.refl (List.map (SV.ren (qar [0,1] 3)) [trS 0 rt l,.pv (iV (p.a)),.ls 1 g.length])) (Ai (qam (qar [0,1] 3) [(0,0,qae l),(1,0,.row 3 1 g.length (ziV g))]) (Ai (Er (SV.pv (iV rt))) (Ai (Er (SV.ls 0 l.length)) (Ai (Er (SV.pv (iV rt))) (Ai (Er (SV.ls 0 l.length)) (Ai hn (Ai (Er (SV.pv (iV rt))) (Ai (Er (SV.ls 0 l.length)) (Ai hin (Ai (Er (SV.pv (iV rt))) (Ai (Er (SV.ls 0 l.length)) (Ai (Er (SV.pv (iV rt))) (Ai (Er (SV.ls 0 l.length)) (Ai (qb7 hk) (Ai (Er (SV.pv (iV rt))) (Ai (Er (SV.ls 0 l.length)) (Ai hr (Ai (Eq.refl (List.map (SV.ren (qar [0,5] 6)) [trS 0 rt l,.pv (iV (p.b)),.ls 1 (c1.length+1)])) (Ai (qam (qar [0,5] 6) (qij c1 l z)) (Ai (Er (SV.pv (iV rt))) (Ai (Er (SV.ls 0 l.length)) (Ai (Er (SV.pv (iV rt))) (Ai (Er (SV.ls 0 l.length)) tI))))))))))))))))))))))))))))))))))))) (by kernel_rfl)
theorem qq4 {rt z:Int} {l:List Pt} {p:Pt} {g c2:List Int} (h0:decide (z<0)=false) (h1:decide (((g.length:Int):Int)>(l.length:Int))=false) (hk:l[z.toNat]?=some p) (hin:0≤z∧z<(l.length:Int)) (hl:FnO Try.prog 96 1 2 [trS 0 rt l,.pv (iV (p.a)),.ls 1 g.length] [(0,0,qae l),(1,0,.row 3 1 g.length (ziV g))] (.ls 1 g.length) 0 [(1,0,.row 3 1 g.length (ziV g))]) (hn:g.length+1≤1000000) (hr:FnO Try.prog 96 1 2 [trS 0 rt l,.pv (iV (p.b)),.ls 1 (g.length+1)] [(0,0,qae l),(1,0,.row 3 1 (g.length+1) (ziV g++[iV z]))] (.ls 2 c2.length) 1 [(2,0,zrI c2)]) :
 FnO Try.prog 96 1 2 [trS 0 rt l,.pv (iV (z)),.ls 1 g.length] [(0,0,qae l),(1,0,zrI g)] (.ls 2 c2.length) 1 [(2,0,.row 3 1 c2.length (ziV c2))]:=
 qaD 300 [(2,5)] [.t false,.t false,.gh [(2,0),(2,1)],.r (iV p.a),.fo 1 [0,1] [trS 0 rt l,.pv (iV (p.a)),.ls 1 g.length] [(0,0,qae l),(1,0,.row 3 1 g.length (ziV g))] (.ls 1 g.length) 0 [(1,0,.row 3 1 g.length (ziV g))],.gh [(2,0),(2,1)],.r (iV p.b),.fo 1 [0,4] [trS 0 rt l,.pv (iV (p.b)),.ls 1 (g.length+1)] [(0,0,qae l),(1,0,.row 3 1 (g.length+1) (ziV g++[iV z]))] (.ls 2 c2.length) 1 [(2,0,zrI c2)]]
  (qam (qaF [(2,5)]) [(2,0,.row 3 1 c2.length (ziV c2))]) (Ai h0 (Ai h1 (Ai (Er (SV.pv (iV rt))) (Ai (Er (SV.ls 0 l.length)) (Ai hin (Ai (Er (SV.pv (iV rt))) (Ai (Er (SV.ls 0 l.length)) (Ai (Er (SV.pv (iV rt))) (Ai (Er (SV.ls 0 l.length)) (Ai (qbS hk) (Ai (Er (SV.pv (iV rt))) (Ai (Er (SV.ls 0 l.length)) (Ai hl (Ai (Eq.refl (List.map (SV.ren (qar [0,1] 3)) [trS 0 rt l,.pv (iV (p.a)),.ls 1 g.length])) (Ai (qam (qar [0,1] 3) [(0,0,qae l),(1,0,.row 3 1 g.length (ziV g))]) (Ai (Er (SV.pv (iV rt))) (Ai (Er (SV.ls 0 l.length)) (Ai (Er (SV.pv (iV rt))) (Ai (Er (SV.ls 0 l.length)) (Ai hn (Ai (Er (SV.pv (iV rt))) (Ai (Er (SV.ls 0 l.length)) (Ai hin (Ai (Er (SV.pv (iV rt))) (Ai (Er (SV.ls 0 l.length)) (Ai (Er (SV.pv (iV rt))) (Ai (Er (SV.ls 0 l.length)) (Ai (qb7 hk) (Ai (Er (SV.pv (iV rt))) (Ai (Er (SV.ls 0 l.length)) (Ai hr (Ai (Eq.refl (List.map (SV.ren (qar [0,4] 5)) [trS 0 rt l,.pv (iV (p.b)),.ls 1 (g.length+1)])) (Ai (qam (qar [0,4] 5) [(0,0,qae l),(1,0,.row 3 1 (g.length+1) (ziV g++[iV z]))]) (Ai (Er (SV.pv (iV rt))) (Ai (Er (SV.ls 0 l.length)) (Ai (Er (SV.pv (iV rt))) (Ai (Er (SV.ls 0 l.length)) tI))))))))))))))))))))))))))))))))))))) (by kernel_rfl)
theorem qq3 {rt z:Int} {l:List Pt} {p:Pt} {g:List Int} (h0:decide (z<0)=false) (h1:decide (((g.length:Int):Int)>(l.length:Int))=false) (hk:l[z.toNat]?=some p) (hin:0≤z∧z<(l.length:Int)) (hl:FnO Try.prog 96 1 2 [trS 0 rt l,.pv (iV (p.a)),.ls 1 g.length] [(0,0,qae l),(1,0,.row 3 1 g.length (ziV g))] (.ls 1 g.length) 0 [(1,0,.row 3 1 g.length (ziV g))]) (hn:g.length+1≤1000000) (hr:FnO Try.prog 96 1 2 [trS 0 rt l,.pv (iV (p.b)),.ls 1 (g.length+1)] [(0,0,qae l),(1,0,.row 3 1 (g.length+1) (ziV g++[iV z]))] (.ls 1 (g.length+1)) 0 [(1,0,.row 3 1 (g.length+1) (ziV g++[iV z]))]) :
 FnO Try.prog 96 1 2 [trS 0 rt l,.pv (iV (z)),.ls 1 g.length] [(0,0,qae l),(1,0,zrI g)] (.ls 2 (g.length+1)) 1 [(2,0,.row 3 1 (g.length+1) (ziV g++[iV z]))]:=
 qaD 300 [(2,4)] [.t false,.t false,.gh [(2,0),(2,1)],.r (iV p.a),.fo 1 [0,1] [trS 0 rt l,.pv (iV (p.a)),.ls 1 g.length] [(0,0,qae l),(1,0,.row 3 1 g.length (ziV g))] (.ls 1 g.length) 0 [(1,0,.row 3 1 g.length (ziV g))],.gh [(2,0),(2,1)],.r (iV p.b),.fo 1 [0,4] [trS 0 rt l,.pv (iV (p.b)),.ls 1 (g.length+1)] [(0,0,qae l),(1,0,.row 3 1 (g.length+1) (ziV g++[iV z]))] (.ls 1 (g.length+1)) 0 [(1,0,.row 3 1 (g.length+1) (ziV g++[iV z]))]]
  (qam (qaF [(2,4)]) [(2,0,.row 3 1 (g.length+1) (ziV g++[iV z]))]) (Ai h0 (Ai h1 (Ai (Er (SV.pv (iV rt))) (Ai (Er (SV.ls 0 l.length)) (Ai hin (Ai (Er (SV.pv (iV rt))) (Ai (Er (SV.ls 0 l.length)) (Ai (Er (SV.pv (iV rt))) (Ai (Er (SV.ls 0 l.length)) (Ai (qbS hk) (Ai (Er (SV.pv (iV rt))) (Ai (Er (SV.ls 0 l.length)) (Ai hl (Ai (Eq.refl (List.map (SV.ren (qar [0,1] 3)) [trS 0 rt l,.pv (iV (p.a)),.ls 1 g.length])) (Ai (qam (qar [0,1] 3) [(0,0,qae l),(1,0,.row 3 1 g.length (ziV g))]) (Ai (Er (SV.pv (iV rt))) (Ai (Er (SV.ls 0 l.length)) (Ai (Er (SV.pv (iV rt))) (Ai (Er (SV.ls 0 l.length)) (Ai hn (Ai (Er (SV.pv (iV rt))) (Ai (Er (SV.ls 0 l.length)) (Ai hin (Ai (Er (SV.pv (iV rt))) (Ai (Er (SV.ls 0 l.length)) (Ai (Er (SV.pv (iV rt))) (Ai (Er (SV.ls 0 l.length)) (Ai (qb7 hk) (Ai (Er (SV.pv (iV rt))) (Ai (Er (SV.ls 0 l.length)) (Ai hr (Ai (Eq.refl (List.map (SV.ren (qar [0,4] 5)) [trS 0 rt l,.pv (iV (p.b)),.ls 1 (g.length+1)])) (Ai (qam (qar [0,4] 5) [(0,0,qae l),(1,0,.row 3 1 (g.length+1) (ziV g++[iV z]))]) (Ai (Er (SV.pv (iV rt))) (Ai (Er (SV.ls 0 l.length)) (Ai (Er (SV.pv (iV rt))) (Ai (Er (SV.ls 0 l.length)) tI))))))))))))))))))))))))))))))))))))) (by kernel_rfl)
theorem qq7 {rt z:Int} {l:List Pt} {p:Pt} {c1 c2:List Int} (h0:decide (z<0)=false) (h1:decide ((0:Int)>(l.length:Int))=false) (hk:l[z.toNat]?=some p) (hin:0≤z∧z<(l.length:Int)) (hl:FnO Try.prog 96 1 2 [trS 0 rt l,.pv (iV (p.a)),.ls 1 0] [(0,0,qae l),(1,0,.row 3 1 0 ([]))] (.ls 2 c1.length) 1 [(2,0,zrI c1)]) (hn:c1.length+1≤1000000) (hr:FnO Try.prog 96 1 2 [trS 0 rt l,.pv (iV (p.b)),.ls 1 (c1.length+1)] (qij c1 l z) (.ls 2 c2.length) 1 [(2,0,zrI c2)]) :
 Fn 96 1 [trS 0 rt l,.pv (iV (z)),.pv (.slice none 0 0)] [(0,0,qae l)] (.ls 1 c2.length) 1 [(1,0,.row 3 1 c2.length (ziV c2))]:=
 Fz [(1,6)] [.lz true 2 0 3 1,.t false,.t false,.gh [(2,0),(2,1)],.r (iV p.a),.fo 1 [0,1] [trS 0 rt l,.pv (iV (p.a)),.ls 1 0] [(0,0,qae l),(1,0,.row 3 1 0 ([]))] (.ls 2 c1.length) 1 [(2,0,zrI c1)],.gh [(2,0),(2,1)],.r (iV p.b),.fo 1 [0,5] [trS 0 rt l,.pv (iV (p.b)),.ls 1 (c1.length+1)] (qij c1 l z) (.ls 2 c2.length) 1 [(2,0,zrI c2)]]
  (qam (qaF [(1,6)]) [(1,0,.row 3 1 c2.length (ziV c2))]) (Ai h0 (Ai h1 (Ai (Er (SV.pv (iV rt))) (Ai (Er (SV.ls 0 l.length)) (Ai hin (Ai (Er (SV.pv (iV rt))) (Ai (Er (SV.ls 0 l.length)) (Ai (Er (SV.pv (iV rt))) (Ai (Er (SV.ls 0 l.length)) (Ai (qbS hk) (Ai (Er (SV.pv (iV rt))) (Ai (Er (SV.ls 0 l.length)) (Ai hl (Ai (Eq.refl (List.map (SV.ren (qar [0,1] 3)) [trS 0 rt l,.pv (iV (p.a)),.ls 1 0])) (Ai (qam (qar [0,1] 3) [(0,0,qae l),(1,0,.row 3 1 0 ([]))]) (Ai (Er (SV.pv (iV rt))) (Ai (Er (SV.ls 0 l.length)) (Ai (Er (SV.pv (iV rt))) (Ai (Er (SV.ls 0 l.length)) (Ai hn (Ai (Er (SV.pv (iV rt))) (Ai (Er (SV.ls 0 l.length)) (Ai hin (Ai (Er (SV.pv (iV rt))) (Ai (Er (SV.ls 0 l.length)) (Ai (Er (SV.pv (iV rt))) (Ai (Er (SV.ls 0 l.length)) (Ai (qb7 hk) (Ai (Er (SV.pv (iV rt))) (Ai (Er (SV.ls 0 l.length)) (Ai hr (Ai (Eq.refl (List.map (SV.ren (qar [0,5] 6)) [trS 0 rt l,.pv (iV (p.b)),.ls 1 (c1.length+1)])) (Ai (qam (qar [0,5] 6) (qij c1 l z)) (Ai (Er (SV.pv (iV rt))) (Ai (Er (SV.ls 0 l.length)) (Ai (Er (SV.pv (iV rt))) (Ai (Er (SV.ls 0 l.length)) tI)))))))))))))))))))))))))))))))))))))
theorem qqB {rt z:Int} {l:List Pt} {p:Pt} {c1:List Int} (h0:decide (z<0)=false) (h1:decide ((0:Int)>(l.length:Int))=false) (hk:l[z.toNat]?=some p) (hin:0≤z∧z<(l.length:Int)) (hl:FnO Try.prog 96 1 2 [trS 0 rt l,.pv (iV (p.a)),.ls 1 0] [(0,0,qae l),(1,0,.row 3 1 0 ([]))] (.ls 2 c1.length) 1 [(2,0,zrI c1)]) (hn:c1.length+1≤1000000) (hr:FnO Try.prog 96 1 2 [trS 0 rt l,.pv (iV (p.b)),.ls 1 (c1.length+1)] (qij c1 l z) (.ls 1 (c1.length+1)) 0 [(1,0,.row 3 1 (c1.length+1) (ziV c1++[iV z]))]) :
 Fn 96 1 [trS 0 rt l,.pv (iV (z)),.pv (.slice none 0 0)] [(0,0,qae l)] (.ls 1 (c1.length+1)) 1 [(1,0,.row 3 1 (c1.length+1) (ziV c1++[iV z]))]:=
 Fz [(1,5)] [.lz true 2 0 3 1,.t false,.t false,.gh [(2,0),(2,1)],.r (iV p.a),.fo 1 [0,1] [trS 0 rt l,.pv (iV (p.a)),.ls 1 0] [(0,0,qae l),(1,0,.row 3 1 0 ([]))] (.ls 2 c1.length) 1 [(2,0,zrI c1)],.gh [(2,0),(2,1)],.r (iV p.b),.fo 1 [0,5] [trS 0 rt l,.pv (iV (p.b)),.ls 1 (c1.length+1)] (qij c1 l z) (.ls 1 (c1.length+1)) 0 [(1,0,.row 3 1 (c1.length+1) (ziV c1++[iV z]))]]
  (qam (qaF [(1,5)]) [(1,0,.row 3 1 (c1.length+1) (ziV c1++[iV z]))]) (Ai h0 (Ai h1 (Ai (Er (SV.pv (iV rt))) (Ai (Er (SV.ls 0 l.length)) (Ai hin (Ai (Er (SV.pv (iV rt))) (Ai (Er (SV.ls 0 l.length)) (Ai (Er (SV.pv (iV rt))) (Ai (Er (SV.ls 0 l.length)) (Ai (qbS hk) (Ai (Er (SV.pv (iV rt))) (Ai (Er (SV.ls 0 l.length)) (Ai hl (Ai (Eq.refl (List.map (SV.ren (qar [0,1] 3)) [trS 0 rt l,.pv (iV (p.a)),.ls 1 0])) (Ai (qam (qar [0,1] 3) [(0,0,qae l),(1,0,.row 3 1 0 ([]))]) (Ai (Er (SV.pv (iV rt))) (Ai (Er (SV.ls 0 l.length)) (Ai (Er (SV.pv (iV rt))) (Ai (Er (SV.ls 0 l.length)) (Ai hn (Ai (Er (SV.pv (iV rt))) (Ai (Er (SV.ls 0 l.length)) (Ai hin (Ai (Er (SV.pv (iV rt))) (Ai (Er (SV.ls 0 l.length)) (Ai (Er (SV.pv (iV rt))) (Ai (Er (SV.ls 0 l.length)) (Ai (qb7 hk) (Ai (Er (SV.pv (iV rt))) (Ai (Er (SV.ls 0 l.length)) (Ai hr (Ai (Eq.refl (List.map (SV.ren (qar [0,5] 6)) [trS 0 rt l,.pv (iV (p.b)),.ls 1 (c1.length+1)])) (Ai (qam (qar [0,5] 6) (qij c1 l z)) (Ai (Er (SV.pv (iV rt))) (Ai (Er (SV.ls 0 l.length)) (Ai (Er (SV.pv (iV rt))) (Ai (Er (SV.ls 0 l.length)) tI)))))))))))))))))))))))))))))))))))))
theorem qpt {rt z:Int} {l:List Pt} {p:Pt} {c2:List Int} (h0:decide (z<0)=false) (h1:decide ((0:Int)>(l.length:Int))=false) (hk:l[z.toNat]?=some p) (hin:0≤z∧z<(l.length:Int)) (hl:FnO Try.prog 96 1 2 [trS 0 rt l,.pv (iV (p.a)),.ls 1 0] [(0,0,qae l),(1,0,.row 3 1 0 ([]))] (.ls 1 0) 0 [(1,0,.row 3 1 0 ([]))]) (hn:0+1≤1000000) (hr:FnO Try.prog 96 1 2 [trS 0 rt l,.pv (iV (p.b)),.ls 1 (0+1)] [(0,0,qae l),(1,0,.row 3 1 (0+1) ([]++[iV z]))] (.ls 2 c2.length) 1 [(2,0,zrI c2)]) :
 Fn 96 1 [trS 0 rt l,.pv (iV (z)),.pv (.slice none 0 0)] [(0,0,qae l)] (.ls 1 c2.length) 1 [(1,0,.row 3 1 c2.length (ziV c2))]:=
 Fz [(1,5)] [.lz true 2 0 3 1,.t false,.t false,.gh [(2,0),(2,1)],.r (iV p.a),.fo 1 [0,1] [trS 0 rt l,.pv (iV (p.a)),.ls 1 0] [(0,0,qae l),(1,0,.row 3 1 0 ([]))] (.ls 1 0) 0 [(1,0,.row 3 1 0 ([]))],.gh [(2,0),(2,1)],.r (iV p.b),.fo 1 [0,4] [trS 0 rt l,.pv (iV (p.b)),.ls 1 (0+1)] [(0,0,qae l),(1,0,.row 3 1 (0+1) ([]++[iV z]))] (.ls 2 c2.length) 1 [(2,0,zrI c2)]]
  (qam (qaF [(1,5)]) [(1,0,.row 3 1 c2.length (ziV c2))]) (Ai h0 (Ai h1 (Ai (Er (SV.pv (iV rt))) (Ai (Er (SV.ls 0 l.length)) (Ai hin (Ai (Er (SV.pv (iV rt))) (Ai (Er (SV.ls 0 l.length)) (Ai (Er (SV.pv (iV rt))) (Ai (Er (SV.ls 0 l.length)) (Ai (qbS hk) (Ai (Er (SV.pv (iV rt))) (Ai (Er (SV.ls 0 l.length)) (Ai hl (Ai (Eq.refl (List.map (SV.ren (qar [0,1] 3)) [trS 0 rt l,.pv (iV (p.a)),.ls 1 0])) (Ai (qam (qar [0,1] 3) [(0,0,qae l),(1,0,.row 3 1 0 ([]))]) (Ai (Er (SV.pv (iV rt))) (Ai (Er (SV.ls 0 l.length)) (Ai (Er (SV.pv (iV rt))) (Ai (Er (SV.ls 0 l.length)) (Ai hn (Ai (Er (SV.pv (iV rt))) (Ai (Er (SV.ls 0 l.length)) (Ai hin (Ai (Er (SV.pv (iV rt))) (Ai (Er (SV.ls 0 l.length)) (Ai (Er (SV.pv (iV rt))) (Ai (Er (SV.ls 0 l.length)) (Ai (qb7 hk) (Ai (Er (SV.pv (iV rt))) (Ai (Er (SV.ls 0 l.length)) (Ai hr (Ai (Eq.refl (List.map (SV.ren (qar [0,4] 5)) [trS 0 rt l,.pv (iV (p.b)),.ls 1 (0+1)])) (Ai (qam (qar [0,4] 5) [(0,0,qae l),(1,0,.row 3 1 (0+1) ([]++[iV z]))]) (Ai (Er (SV.pv (iV rt))) (Ai (Er (SV.ls 0 l.length)) (Ai (Er (SV.pv (iV rt))) (Ai (Er (SV.ls 0 l.length)) tI)))))))))))))))))))))))))))))))))))))
theorem qpP {rt z:Int} {l:List Pt} {p:Pt} (h0:decide (z<0)=false) (h1:decide ((0:Int)>(l.length:Int))=false) (hk:l[z.toNat]?=some p) (hin:0≤z∧z<(l.length:Int)) (hl:FnO Try.prog 96 1 2 [trS 0 rt l,.pv (iV (p.a)),.ls 1 0] [(0,0,qae l),(1,0,.row 3 1 0 ([]))] (.ls 1 0) 0 [(1,0,.row 3 1 0 ([]))]) (hn:0+1≤1000000) (hr:FnO Try.prog 96 1 2 [trS 0 rt l,.pv (iV (p.b)),.ls 1 (0+1)] [(0,0,qae l),(1,0,.row 3 1 (0+1) ([]++[iV z]))] (.ls 1 (0+1)) 0 [(1,0,.row 3 1 (0+1) ([]++[iV z]))]) :
 Fn 96 1 [trS 0 rt l,.pv (iV (z)),.pv (.slice none 0 0)] [(0,0,qae l)] (.ls 1 (0+1)) 1 [(1,0,.row 3 1 (0+1) ([]++[iV z]))]:=
 Fz [(1,4)] [.lz true 2 0 3 1,.t false,.t false,.gh [(2,0),(2,1)],.r (iV p.a),.fo 1 [0,1] [trS 0 rt l,.pv (iV (p.a)),.ls 1 0] [(0,0,qae l),(1,0,.row 3 1 0 ([]))] (.ls 1 0) 0 [(1,0,.row 3 1 0 ([]))],.gh [(2,0),(2,1)],.r (iV p.b),.fo 1 [0,4] [trS 0 rt l,.pv (iV (p.b)),.ls 1 (0+1)] [(0,0,qae l),(1,0,.row 3 1 (0+1) ([]++[iV z]))] (.ls 1 (0+1)) 0 [(1,0,.row 3 1 (0+1) ([]++[iV z]))]]
  (qam (qaF [(1,4)]) [(1,0,.row 3 1 (0+1) ([]++[iV z]))]) (Ai h0 (Ai h1 (Ai (Er (SV.pv (iV rt))) (Ai (Er (SV.ls 0 l.length)) (Ai hin (Ai (Er (SV.pv (iV rt))) (Ai (Er (SV.ls 0 l.length)) (Ai (Er (SV.pv (iV rt))) (Ai (Er (SV.ls 0 l.length)) (Ai (qbS hk) (Ai (Er (SV.pv (iV rt))) (Ai (Er (SV.ls 0 l.length)) (Ai hl (Ai (Eq.refl (List.map (SV.ren (qar [0,1] 3)) [trS 0 rt l,.pv (iV (p.a)),.ls 1 0])) (Ai (qam (qar [0,1] 3) [(0,0,qae l),(1,0,.row 3 1 0 ([]))]) (Ai (Er (SV.pv (iV rt))) (Ai (Er (SV.ls 0 l.length)) (Ai (Er (SV.pv (iV rt))) (Ai (Er (SV.ls 0 l.length)) (Ai hn (Ai (Er (SV.pv (iV rt))) (Ai (Er (SV.ls 0 l.length)) (Ai hin (Ai (Er (SV.pv (iV rt))) (Ai (Er (SV.ls 0 l.length)) (Ai (Er (SV.pv (iV rt))) (Ai (Er (SV.ls 0 l.length)) (Ai (qb7 hk) (Ai (Er (SV.pv (iV rt))) (Ai (Er (SV.ls 0 l.length)) (Ai hr (Ai (Eq.refl (List.map (SV.ren (qar [0,4] 5)) [trS 0 rt l,.pv (iV (p.b)),.ls 1 (0+1)])) (Ai (qam (qar [0,4] 5) [(0,0,qae l),(1,0,.row 3 1 (0+1) ([]++[iV z]))]) (Ai (Er (SV.pv (iV rt))) (Ai (Er (SV.ls 0 l.length)) (Ai (Er (SV.pv (iV rt))) (Ai (Er (SV.ls 0 l.length)) tI)))))))))))))))))))))))))))))))))))))
end Go.Proofs.Ytalnjplghagbpaa

namespace Go.Proofs.Ytalnjplghagbpaa
set_option maxRecDepth 100000
open Go.RowKit
theorem qm8:∀ {l:List Pt} {k:Nat} {p:Pt} (_:l[k]?=some p) (x:Int),qaq (l.set k ⟨p.id,x,p.b⟩)=qev (qaq l) (k*3+1) [iV x]
 | [],k,p,h,_=>by simp at h
 | q::r,0,p,h,x=>by simp at h;subst h;rfl
 | q::r,k+1,p,h,x=>by
  rw[List.set_cons_succ,qaq,qm8 (l:=r) (k:=k) (p:=p) (by simpa using h) x,show (k+1)*3+1=(k*3+1)+1+1+1 by omega]
  simp[qev,qaq,Nat.add_right_comm]
theorem qmO:∀ {l:List Pt} {k:Nat} {p:Pt} (_:l[k]?=some p) (x:Int),qaq (l.set k ⟨p.id,p.a,x⟩)=qev (qaq l) (k*3+2) [iV x]
 | [],k,p,h,_=>by simp at h
 | q::r,0,p,h,x=>by simp at h;subst h;rfl
 | q::r,k+1,p,h,x=>by
  rw[List.set_cons_succ,qaq,qmO (l:=r) (k:=k) (p:=p) (by simpa using h) x,show (k+1)*3+2=(k*3+2)+1+1+1 by omega]
  simp[qev,qaq,Nat.add_right_comm]
theorem qoO {l:List Pt} {z:Int} {p:Pt} (h:l[z.toNat]?=some p) (x:Int):qaq (l.set z.toNat ⟨p.id,x,p.b⟩)=qev (qaq l) (0*3+z.toNat*3+1) [iV x]:=by
 rw[show 0*3+z.toNat*3+1=z.toNat*3+1 by omega];exact qm8 h x
theorem qnw {l:List Pt} {z:Int} {p:Pt} (h:l[z.toNat]?=some p) (x:Int):qaq (l.set z.toNat ⟨p.id,p.a,x⟩)=qev (qaq l) (0*3+z.toNat*3+2) [iV x]:=by
 rw[show 0*3+z.toNat*3+2=z.toNat*3+2 by omega];exact qmO h x
theorem qgc:∀ l:List Pt,(qaq l).length=l.length*3
 | []=>rfl
 | _::r=>by rw[qaq];simp only[List.length_cons];rw[qgc r];omega
theorem qoI {l:List Pt} {z:Int} {p:Pt} (h:l[z.toNat]?=some p):0*3+z.toNat*3+1+1≤(qaq l).length:=by
 rw[qgc];have:=qal h;omega
theorem qoF {l:List Pt} {z:Int} {p:Pt} (h:l[z.toNat]?=some p):0*3+z.toNat*3+2+1≤(qaq l).length:=by
 rw[qgc];have:=qal h;omega
theorem qlb {rt z lo hi tn td:Int} {s l:List Pt} {n:Nat} (ht:Fn 110 1 [qay 0 s,.pv (qaa tn td),.pv (iV (lo)),.pv (iV (hi))] [(0,0,qah s)] (.pv (iV (z))) 0 []) (h0:decide (z≥0)=false) :
 FnO Try.prog 94 1 2 [qay 0 s,.pv (qaa tn td),.ag [.pv (iV rt),.ls 1 n],.pv (iV (lo)),.pv (iV (hi))] [(0,0,qah s),(1,0,.row 26 3 n (qaq l))] (.pv (iV (z))) 0 [(1,0,.row 26 3 n (qaq l))]:=
 qaD 300 [] [.f [0] [qay 0 s,.pv (qaa tn td),.pv (iV (lo)),.pv (iV (hi))] [(0,0,qah s)] (.pv (iV (z))) 0 [],.t false]
  (qam (qaF []) [(1,0,.row 26 3 n (qaq l))]) (Ai ht (Ai (Eq.refl (List.map (SV.ren (qar [0] 5)) [qay 0 s,.pv (qaa tn td),.pv (iV (lo)),.pv (iV (hi))])) (Ai (qam (qar [0] 5) [(0,0,qah s)]) (Ai h0 tI)))) (by kernel_rfl)
theorem qkG {rt x y z w1 lo hi tn td:Int} {s l n1 n2:List Pt} {p q:Pt} {n:Nat} (ht:Fn 110 1 [qay 0 s,.pv (qaa tn td),.pv (iV (lo)),.pv (iV (hi))] [(0,0,qah s)] (.pv (iV (z))) 0 []) (h0:decide (z≥0)=true) (hl:FnO Try.prog 94 1 2 [qay 0 s,.pv (qaa tn td),.ag [.pv (iV rt),.ls 1 n],.pv (iV (lo)),.pv (iV (z))] [(0,0,qah s),(1,0,.row 26 3 n (qaq l))] (.pv (iV (x))) 0 [(1,0,.row 26 3 n (qaq n1))]) (hin:0≤z∧z<(n:Int)) (hp1:n1[z.toNat]?=some p) (hs:iV (IntKind.i64.wrap (z+1))=iV (w1)) (hr:FnO Try.prog 94 1 2 [qay 0 s,.pv (qaa tn td),.ag [.pv (iV rt),.ls 1 n],.pv (iV (w1)),.pv (iV (hi))] [(0,0,qah s),(1,0,.row 26 3 n (qaq (n1.set z.toNat ⟨p.id,x,p.b⟩)))] (.pv (iV (y))) 0 [(1,0,.row 26 3 n (qaq n2))]) (hq1:n2[z.toNat]?=some q) :
 FnO Try.prog 94 1 2 [qay 0 s,.pv (qaa tn td),.ag [.pv (iV rt),.ls 1 n],.pv (iV (lo)),.pv (iV (hi))] [(0,0,qah s),(1,0,.row 26 3 n (qaq l))] (.pv (iV (z))) 0 [(1,0,.row 26 3 n (qaq (n2.set z.toNat ⟨q.id,q.a,y⟩)))]:=
 qaD 300 [] [.f [0] [qay 0 s,.pv (qaa tn td),.pv (iV (lo)),.pv (iV (hi))] [(0,0,qah s)] (.pv (iV (z))) 0 [],.t true,.gh [(2,0),(3,0),(3,1),(4,0),(4,1)],.fo 1 [0,1] [qay 0 s,.pv (qaa tn td),.ag [.pv (iV rt),.ls 1 n],.pv (iV (lo)),.pv (iV (z))] [(0,0,qah s),(1,0,.row 26 3 n (qaq l))] (.pv (iV (x))) 0 [(1,0,.row 26 3 n (qaq n1))],.w (qaq (n1.set z.toNat ⟨p.id,x,p.b⟩)),.gh [(2,0),(3,0),(3,1),(4,0),(4,1)],.r (iV (w1)),.fo 1 [0,1] [qay 0 s,.pv (qaa tn td),.ag [.pv (iV rt),.ls 1 n],.pv (iV (w1)),.pv (iV (hi))] [(0,0,qah s),(1,0,.row 26 3 n (qaq (n1.set z.toNat ⟨p.id,x,p.b⟩)))] (.pv (iV (y))) 0 [(1,0,.row 26 3 n (qaq n2))],.w (qaq (n2.set z.toNat ⟨q.id,q.a,y⟩))]
  (qam (qaF []) [(1,0,.row 26 3 n (qaq (n2.set z.toNat ⟨q.id,q.a,y⟩)))]) (Ai ht (Ai (Eq.refl (List.map (SV.ren (qar [0] 5)) [qay 0 s,.pv (qaa tn td),.pv (iV (lo)),.pv (iV (hi))])) (Ai (qam (qar [0] 5) [(0,0,qah s)]) (Ai h0 (Ai (Er (SV.ls 0 s.length)) (Ai (Er (SV.pv (iV tn))) (Ai (Er (SV.pv (iV td))) (Ai (Er (SV.pv (iV rt))) (Ai (Er (SV.ls 1 n)) (Ai hl (Ai (Eq.refl (List.map (SV.ren (qar [0,1] 5)) [qay 0 s,.pv (qaa tn td),.ag [.pv (iV rt),.ls 1 n],.pv (iV (lo)),.pv (iV (z))])) (Ai (qam (qar [0,1] 5) [(0,0,qah s),(1,0,.row 26 3 n (qaq l))]) (Ai (Er (SV.ls 0 s.length)) (Ai (Er (SV.pv (iV tn))) (Ai (Er (SV.pv (iV td))) (Ai (Er (SV.pv (iV rt))) (Ai (Er (SV.ls 1 n)) (Ai hin (Ai (Er (SV.ls 0 s.length)) (Ai (Er (SV.pv (iV tn))) (Ai (Er (SV.pv (iV td))) (Ai (Er (SV.pv (iV rt))) (Ai (Er (SV.ls 1 n)) (Ai (Er (SV.ls 0 s.length)) (Ai (Er (SV.pv (iV tn))) (Ai (Er (SV.pv (iV td))) (Ai (Er (SV.pv (iV rt))) (Ai (Er (SV.ls 1 n)) (Ai (qoO hp1 x) (Ai (qoI hp1) (Ai (Er (SV.ls 0 s.length)) (Ai (Er (SV.pv (iV tn))) (Ai (Er (SV.pv (iV td))) (Ai (Er (SV.pv (iV rt))) (Ai (Er (SV.ls 1 n)) (Ai hs (Ai (Er (SV.ls 0 s.length)) (Ai (Er (SV.pv (iV tn))) (Ai (Er (SV.pv (iV td))) (Ai (Er (SV.pv (iV rt))) (Ai (Er (SV.ls 1 n)) (Ai hr (Ai (Eq.refl (List.map (SV.ren (qar [0,1] 5)) [qay 0 s,.pv (qaa tn td),.ag [.pv (iV rt),.ls 1 n],.pv (iV (w1)),.pv (iV (hi))])) (Ai (qam (qar [0,1] 5) [(0,0,qah s),(1,0,.row 26 3 n (qaq (n1.set z.toNat ⟨p.id,x,p.b⟩)))]) (Ai (Er (SV.ls 0 s.length)) (Ai (Er (SV.pv (iV tn))) (Ai (Er (SV.pv (iV td))) (Ai (Er (SV.pv (iV rt))) (Ai (Er (SV.ls 1 n)) (Ai hin (Ai (Er (SV.ls 0 s.length)) (Ai (Er (SV.pv (iV tn))) (Ai (Er (SV.pv (iV td))) (Ai (Er (SV.pv (iV rt))) (Ai (Er (SV.ls 1 n)) (Ai (Er (SV.ls 0 s.length)) (Ai (Er (SV.pv (iV tn))) (Ai (Er (SV.pv (iV td))) (Ai (Er (SV.pv (iV rt))) (Ai (Er (SV.ls 1 n)) (Ai (qnw hq1 y) (Ai (qoF hq1) (Ai (Er (SV.ls 0 s.length)) (Ai (Er (SV.pv (iV tn))) (Ai (Er (SV.pv (iV td))) (Ai (Er (SV.pv (iV rt))) (Ai (Er (SV.ls 1 n)) tI))))))))))))))))))))))))))))))))))))))))))))))))))))))))))))))))))) (by kernel_rfl)
end Go.Proofs.Ytalnjplghagbpaa

namespace Go.Proofs.Ytalnjplghagbpaa
set_option maxRecDepth 100000
open Go.RowKit
theorem qj9:∀ n:Nat,qcC [Value.bool false] n=zbV (List.replicate n false)
 | 0=>rfl
 | n+1=>by rw[qcC,qj9 n];rfl
theorem qcM (n:Nat):some (SV.row 4 1 n (qcC [Value.bool false] n))=some (SV.row 4 1 n (zbV (List.replicate n false))):=by rw[qj9]
abbrev qky (bs:List Bool) (g:List Int) (l:List Pt):HpL:=[(3,0,.ls 0 l.length),(3,1,.ls 1 l.length),(3,2,.ls 2 g.length),(1,0,.row 4 1 l.length (zbV bs)),(2,0,.row 3 1 g.length (ziV g)),(0,0,qae l)]
abbrev qmI (bs:List Bool) (g:List Int) (l:List Pt):HpL:=[(3,0,.ls 0 l.length),(3,1,.ls 1 l.length),(3,2,.ls 2 g.length),(1,0,.row 4 1 l.length (zbV bs)),(2,0,.row 3 1 g.length (ziV g))]
theorem qoJ {z:Int} {l:List Pt} {g:List Int} {bs:List Bool} (h0:(z==(-1))=true) :
 FnO Try.prog 83 1 4 [.pp 3 0,.pv (iV (z))] (qky bs g l) (.pv (.bool true)) 0 (qmI bs g l):=
 qaD 300 [] [.t true]
  (qam (qaF []) (qmI bs g l)) (Ai h0 tI) (by kernel_rfl)
theorem qo1 {z:Int} {l:List Pt} {g:List Int} {bs:List Bool} (h0:(z==(-1))=false) (h1:decide (z<0)=true) :
 FnO Try.prog 83 1 4 [.pp 3 0,.pv (iV (z))] (qky bs g l) (.pv (.bool false)) 0 (qmI bs g l):=
 qaD 300 [] [.t false,.t true]
  (qam (qaF []) (qmI bs g l)) (Ai h0 (Ai h1 tI)) (by kernel_rfl)
theorem qnm {z:Int} {l:List Pt} {g:List Int} {bs:List Bool} (h0:(z==(-1))=false) (h1:decide (z<0)=false) (h2:decide (z≥(l.length:Int))=true) :
 FnO Try.prog 83 1 4 [.pp 3 0,.pv (iV (z))] (qky bs g l) (.pv (.bool false)) 0 (qmI bs g l):=
 qaD 300 [] [.t false,.t false,.t true]
  (qam (qaF []) (qmI bs g l)) (Ai h0 (Ai h1 (Ai h2 tI))) (by kernel_rfl)
theorem qkD {z:Int} {l:List Pt} {g:List Int} {bs:List Bool} (h0:(z==(-1))=false) (h1:decide (z<0)=false) (h2:decide (z≥(l.length:Int))=false) (hin:0≤z∧z<(l.length:Int)) (hs:bs[z.toNat]?=some true) :
 FnO Try.prog 83 1 4 [.pp 3 0,.pv (iV (z))] (qky bs g l) (.pv (.bool false)) 0 (qmI bs g l):=
 qaD 300 [] [.t false,.t false,.t false,.r (.bool true)]
  (qam (qaF []) (qmI bs g l)) (Ai h0 (Ai h1 (Ai h2 (Ai hin (Ai (qf1 hs) tI))))) (by kernel_rfl)
abbrev qeM (bs:List Bool) (g:List Int) (l:List Pt) (z:Int):HpL:=[(3,0,.ls 0 l.length),(3,1,.ls 1 l.length),(3,2,.ls 2 g.length),(1,0,.row 4 1 l.length (zbV (bs.set z.toNat true))),(2,0,.row 3 1 g.length (ziV g)),(0,0,qae l)]
abbrev qgC (bs1:List Bool) (c1:List Int) (l:List Pt):HpL:=[(3,0,.ls 0 l.length),(3,1,.ls 1 l.length),(3,2,.ls 4 c1.length),(1,0,.row 4 1 l.length (zbV bs1)),(4,0,.row 3 1 c1.length (ziV c1))]
theorem qqE {z:Int} {l:List Pt} {p:Pt} {g c1:List Int} {bs bs1:List Bool} (h0:(z==(-1))=false) (h1:decide (z<0)=false) (h2:decide (z≥(l.length:Int))=false) (hin:0≤z∧z<(l.length:Int)) (hs:bs[z.toNat]?=some false) (hb:z.toNat<bs.length) (hk:l[z.toNat]?=some p) (hl:FnO Try.prog 83 1 4 [.pp 3 0,.pv (iV (p.a))] (qeM bs g l z) (.pv (.bool false)) 1 (qgC bs1 c1 l)) :
 FnO Try.prog 83 1 4 [.pp 3 0,.pv (iV (z))] (qky bs g l) (.pv (.bool false)) 1 (qgC bs1 c1 l):=
 qaD 300 [] [.t false,.t false,.t false,.r (.bool false),.w (zbV (bs.set z.toNat true)),.r (iV p.a),.fo 1 [0,1,2,3] [.pp 3 0,.pv (iV (p.a))] (qeM bs g l z) (.pv (.bool false)) 1 (qgC bs1 c1 l),.k]
  (qam (qaF []) (qgC bs1 c1 l)) (Ai h0 (Ai h1 (Ai h2 (Ai hin (Ai (qf1 hs) (Ai hin (Ai (qpk bs z.toNat true hb) (Ai (qd4 bs z.toNat hb) (Ai hin (Ai (qbS hk) (Ai hl (Ai (Eq.refl (List.map (SV.ren (qar [0,1,2,3] 4)) [.pp 3 0,.pv (iV (p.a))])) (Ai (qam (qar [0,1,2,3] 4) (qeM bs g l z)) tI))))))))))))) (by kernel_rfl)
abbrev qnc (bs1:List Bool) (g:List Int) (l:List Pt):HpL:=[(3,0,.ls 0 l.length),(3,1,.ls 1 l.length),(3,2,.ls 2 g.length),(1,0,.row 4 1 l.length (zbV bs1)),(2,0,.row 3 1 g.length (ziV g))]
theorem qpy {z:Int} {l:List Pt} {p:Pt} {g:List Int} {bs bs1:List Bool} (h0:(z==(-1))=false) (h1:decide (z<0)=false) (h2:decide (z≥(l.length:Int))=false) (hin:0≤z∧z<(l.length:Int)) (hs:bs[z.toNat]?=some false) (hb:z.toNat<bs.length) (hk:l[z.toNat]?=some p) (hl:FnO Try.prog 83 1 4 [.pp 3 0,.pv (iV (p.a))] (qeM bs g l z) (.pv (.bool false)) 0 (qnc bs1 g l)) :
 FnO Try.prog 83 1 4 [.pp 3 0,.pv (iV (z))] (qky bs g l) (.pv (.bool false)) 0 (qnc bs1 g l):=
 qaD 300 [] [.t false,.t false,.t false,.r (.bool false),.w (zbV (bs.set z.toNat true)),.r (iV p.a),.fo 1 [0,1,2,3] [.pp 3 0,.pv (iV (p.a))] (qeM bs g l z) (.pv (.bool false)) 0 (qnc bs1 g l),.k]
  (qam (qaF []) (qnc bs1 g l)) (Ai h0 (Ai h1 (Ai h2 (Ai hin (Ai (qf1 hs) (Ai hin (Ai (qpk bs z.toNat true hb) (Ai (qd4 bs z.toNat hb) (Ai hin (Ai (qbS hk) (Ai hl (Ai (Eq.refl (List.map (SV.ren (qar [0,1,2,3] 4)) [.pp 3 0,.pv (iV (p.a))])) (Ai (qam (qar [0,1,2,3] 4) (qeM bs g l z)) tI))))))))))))) (by kernel_rfl)
abbrev qmJ (bs2:List Bool) (c2:List Int) (l:List Pt):HpL:=[(3,0,.ls 0 l.length),(3,1,.ls 1 l.length),(3,2,.ls 4 c2.length),(1,0,.row 4 1 l.length (zbV bs2)),(4,0,.row 3 1 c2.length (ziV c2))]
abbrev qh6 (bs1:List Bool) (c1:List Int) (l:List Pt) (z:Int):HpL:=[(3,0,.ls 0 l.length),(3,1,.ls 1 l.length),(3,2,.ls 2 (c1.length+1)),(1,0,.row 4 1 l.length (zbV bs1)),(2,0,.row 3 1 (c1.length+1) (ziV c1++[iV z])),(0,0,qae l)]
theorem qq1 {z:Int} {l:List Pt} {p:Pt} {g c1 c2:List Int} {w:Bool} {bs bs1 bs2:List Bool} (h0:(z==(-1))=false) (h1:decide (z<0)=false) (h2:decide (z≥(l.length:Int))=false) (hin:0≤z∧z<(l.length:Int)) (hs:bs[z.toNat]?=some false) (hb:z.toNat<bs.length) (hk:l[z.toNat]?=some p) (hl:FnO Try.prog 83 1 4 [.pp 3 0,.pv (iV (p.a))] (qeM bs g l z) (.pv (.bool true)) 1 (qgC bs1 c1 l)) (hn:c1.length+1≤1000000) (hr:FnO Try.prog 83 1 4 [.pp 3 0,.pv (iV (p.b))] (qh6 bs1 c1 l z) (.pv (.bool w)) 1 (qmJ bs2 c2 l)) :
 FnO Try.prog 83 1 4 [.pp 3 0,.pv (iV (z))] (qky bs g l) (.pv (.bool w)) 1 (qmJ bs2 c2 l):=
 qaD 300 [(4,7)] [.t false,.t false,.t false,.r (.bool false),.w (zbV (bs.set z.toNat true)),.r (iV p.a),.fo 1 [0,1,2,3] [.pp 3 0,.pv (iV (p.a))] (qeM bs g l z) (.pv (.bool true)) 1 (qgC bs1 c1 l),.k,.r (iV p.b),.fo 1 [0,1,6,3] [.pp 3 0,.pv (iV (p.b))] (qh6 bs1 c1 l z) (.pv (.bool w)) 1 (qmJ bs2 c2 l)]
  (qam (qaF [(4,7)]) (qmJ bs2 c2 l)) (Ai h0 (Ai h1 (Ai h2 (Ai hin (Ai (qf1 hs) (Ai hin (Ai (qpk bs z.toNat true hb) (Ai (qd4 bs z.toNat hb) (Ai hin (Ai (qbS hk) (Ai hl (Ai (Eq.refl (List.map (SV.ren (qar [0,1,2,3] 4)) [.pp 3 0,.pv (iV (p.a))])) (Ai (qam (qar [0,1,2,3] 4) (qeM bs g l z)) (Ai hn (Ai hin (Ai (qb7 hk) (Ai hr (Ai (Eq.refl (List.map (SV.ren (qar [0,1,6,3] 7)) [.pp 3 0,.pv (iV (p.b))])) (Ai (qam (qar [0,1,6,3] 7) (qh6 bs1 c1 l z)) tI))))))))))))))))))) (by kernel_rfl)
theorem qpu {z:Int} {l:List Pt} {p:Pt} {g c1:List Int} {w:Bool} {bs bs1 bs2:List Bool} (h0:(z==(-1))=false) (h1:decide (z<0)=false) (h2:decide (z≥(l.length:Int))=false) (hin:0≤z∧z<(l.length:Int)) (hs:bs[z.toNat]?=some false) (hb:z.toNat<bs.length) (hk:l[z.toNat]?=some p) (hl:FnO Try.prog 83 1 4 [.pp 3 0,.pv (iV (p.a))] (qeM bs g l z) (.pv (.bool true)) 1 (qgC bs1 c1 l)) (hn:c1.length+1≤1000000) (hr:FnO Try.prog 83 1 4 [.pp 3 0,.pv (iV (p.b))] (qh6 bs1 c1 l z) (.pv (.bool w)) 0 [(3,0,.ls 0 l.length),(3,1,.ls 1 l.length),(3,2,.ls 2 (c1.length+1)),(1,0,.row 4 1 l.length (zbV bs2)),(2,0,.row 3 1 (c1.length+1) (ziV c1++[iV z]))]) :
 FnO Try.prog 83 1 4 [.pp 3 0,.pv (iV (z))] (qky bs g l) (.pv (.bool w)) 1 [(3,0,.ls 0 l.length),(3,1,.ls 1 l.length),(3,2,.ls 4 (c1.length+1)),(1,0,.row 4 1 l.length (zbV bs2)),(4,0,.row 3 1 (c1.length+1) (ziV c1++[iV z]))]:=
 qaD 300 [(4,6)] [.t false,.t false,.t false,.r (.bool false),.w (zbV (bs.set z.toNat true)),.r (iV p.a),.fo 1 [0,1,2,3] [.pp 3 0,.pv (iV (p.a))] (qeM bs g l z) (.pv (.bool true)) 1 (qgC bs1 c1 l),.k,.r (iV p.b),.fo 1 [0,1,6,3] [.pp 3 0,.pv (iV (p.b))] (qh6 bs1 c1 l z) (.pv (.bool w)) 0 [(3,0,.ls 0 l.length),(3,1,.ls 1 l.length),(3,2,.ls 2 (c1.length+1)),(1,0,.row 4 1 l.length (zbV bs2)),(2,0,.row 3 1 (c1.length+1) (ziV c1++[iV z]))]]
  (qam (qaF [(4,6)]) [(3,0,.ls 0 l.length),(3,1,.ls 1 l.length),(3,2,.ls 4 (c1.length+1)),(1,0,.row 4 1 l.length (zbV bs2)),(4,0,.row 3 1 (c1.length+1) (ziV c1++[iV z]))]) (Ai h0 (Ai h1 (Ai h2 (Ai hin (Ai (qf1 hs) (Ai hin (Ai (qpk bs z.toNat true hb) (Ai (qd4 bs z.toNat hb) (Ai hin (Ai (qbS hk) (Ai hl (Ai (Eq.refl (List.map (SV.ren (qar [0,1,2,3] 4)) [.pp 3 0,.pv (iV (p.a))])) (Ai (qam (qar [0,1,2,3] 4) (qeM bs g l z)) (Ai hn (Ai hin (Ai (qb7 hk) (Ai hr (Ai (Eq.refl (List.map (SV.ren (qar [0,1,6,3] 7)) [.pp 3 0,.pv (iV (p.b))])) (Ai (qam (qar [0,1,6,3] 7) (qh6 bs1 c1 l z)) tI))))))))))))))))))) (by kernel_rfl)
abbrev qh3 (bs1:List Bool) (g:List Int) (l:List Pt) (z:Int):HpL:=[(3,0,.ls 0 l.length),(3,1,.ls 1 l.length),(3,2,.ls 2 (g.length+1)),(1,0,.row 4 1 l.length (zbV bs1)),(2,0,.row 3 1 (g.length+1) (ziV g++[iV z])),(0,0,qae l)]
theorem qqV {z:Int} {l:List Pt} {p:Pt} {g c2:List Int} {w:Bool} {bs bs1 bs2:List Bool} (h0:(z==(-1))=false) (h1:decide (z<0)=false) (h2:decide (z≥(l.length:Int))=false) (hin:0≤z∧z<(l.length:Int)) (hs:bs[z.toNat]?=some false) (hb:z.toNat<bs.length) (hk:l[z.toNat]?=some p) (hl:FnO Try.prog 83 1 4 [.pp 3 0,.pv (iV (p.a))] (qeM bs g l z) (.pv (.bool true)) 0 (qnc bs1 g l)) (hn:g.length+1≤1000000) (hr:FnO Try.prog 83 1 4 [.pp 3 0,.pv (iV (p.b))] (qh3 bs1 g l z) (.pv (.bool w)) 1 (qmJ bs2 c2 l)) :
 FnO Try.prog 83 1 4 [.pp 3 0,.pv (iV (z))] (qky bs g l) (.pv (.bool w)) 1 (qmJ bs2 c2 l):=
 qaD 300 [(4,6)] [.t false,.t false,.t false,.r (.bool false),.w (zbV (bs.set z.toNat true)),.r (iV p.a),.fo 1 [0,1,2,3] [.pp 3 0,.pv (iV (p.a))] (qeM bs g l z) (.pv (.bool true)) 0 (qnc bs1 g l),.k,.r (iV p.b),.fo 1 [0,1,5,3] [.pp 3 0,.pv (iV (p.b))] (qh3 bs1 g l z) (.pv (.bool w)) 1 (qmJ bs2 c2 l)]
  (qam (qaF [(4,6)]) (qmJ bs2 c2 l)) (Ai h0 (Ai h1 (Ai h2 (Ai hin (Ai (qf1 hs) (Ai hin (Ai (qpk bs z.toNat true hb) (Ai (qd4 bs z.toNat hb) (Ai hin (Ai (qbS hk) (Ai hl (Ai (Eq.refl (List.map (SV.ren (qar [0,1,2,3] 4)) [.pp 3 0,.pv (iV (p.a))])) (Ai (qam (qar [0,1,2,3] 4) (qeM bs g l z)) (Ai hn (Ai hin (Ai (qb7 hk) (Ai hr (Ai (Eq.refl (List.map (SV.ren (qar [0,1,5,3] 6)) [.pp 3 0,.pv (iV (p.b))])) (Ai (qam (qar [0,1,5,3] 6) (qh3 bs1 g l z)) tI))))))))))))))))))) (by kernel_rfl)
theorem qp8 {z:Int} {l:List Pt} {p:Pt} {g:List Int} {w:Bool} {bs bs1 bs2:List Bool} (h0:(z==(-1))=false) (h1:decide (z<0)=false) (h2:decide (z≥(l.length:Int))=false) (hin:0≤z∧z<(l.length:Int)) (hs:bs[z.toNat]?=some false) (hb:z.toNat<bs.length) (hk:l[z.toNat]?=some p) (hl:FnO Try.prog 83 1 4 [.pp 3 0,.pv (iV (p.a))] (qeM bs g l z) (.pv (.bool true)) 0 (qnc bs1 g l)) (hn:g.length+1≤1000000) (hr:FnO Try.prog 83 1 4 [.pp 3 0,.pv (iV (p.b))] (qh3 bs1 g l z) (.pv (.bool w)) 0 [(3,0,.ls 0 l.length),(3,1,.ls 1 l.length),(3,2,.ls 2 (g.length+1)),(1,0,.row 4 1 l.length (zbV bs2)),(2,0,.row 3 1 (g.length+1) (ziV g++[iV z]))]) :
 FnO Try.prog 83 1 4 [.pp 3 0,.pv (iV (z))] (qky bs g l) (.pv (.bool w)) 1 [(3,0,.ls 0 l.length),(3,1,.ls 1 l.length),(3,2,.ls 4 (g.length+1)),(1,0,.row 4 1 l.length (zbV bs2)),(4,0,.row 3 1 (g.length+1) (ziV g++[iV z]))]:=
 qaD 300 [(4,5)] [.t false,.t false,.t false,.r (.bool false),.w (zbV (bs.set z.toNat true)),.r (iV p.a),.fo 1 [0,1,2,3] [.pp 3 0,.pv (iV (p.a))] (qeM bs g l z) (.pv (.bool true)) 0 (qnc bs1 g l),.k,.r (iV p.b),.fo 1 [0,1,5,3] [.pp 3 0,.pv (iV (p.b))] (qh3 bs1 g l z) (.pv (.bool w)) 0 [(3,0,.ls 0 l.length),(3,1,.ls 1 l.length),(3,2,.ls 2 (g.length+1)),(1,0,.row 4 1 l.length (zbV bs2)),(2,0,.row 3 1 (g.length+1) (ziV g++[iV z]))]]
  (qam (qaF [(4,5)]) [(3,0,.ls 0 l.length),(3,1,.ls 1 l.length),(3,2,.ls 4 (g.length+1)),(1,0,.row 4 1 l.length (zbV bs2)),(4,0,.row 3 1 (g.length+1) (ziV g++[iV z]))]) (Ai h0 (Ai h1 (Ai h2 (Ai hin (Ai (qf1 hs) (Ai hin (Ai (qpk bs z.toNat true hb) (Ai (qd4 bs z.toNat hb) (Ai hin (Ai (qbS hk) (Ai hl (Ai (Eq.refl (List.map (SV.ren (qar [0,1,2,3] 4)) [.pp 3 0,.pv (iV (p.a))])) (Ai (qam (qar [0,1,2,3] 4) (qeM bs g l z)) (Ai hn (Ai hin (Ai (qb7 hk) (Ai hr (Ai (Eq.refl (List.map (SV.ren (qar [0,1,5,3] 6)) [.pp 3 0,.pv (iV (p.b))])) (Ai (qam (qar [0,1,5,3] 6) (qh3 bs1 g l z)) tI))))))))))))))))))) (by kernel_rfl)
abbrev qim (l:List Pt):HpL:=[(3,0,.ls 0 l.length),(3,1,.ls 1 l.length),(3,2,.ls 2 0),(1,0,.row 4 1 l.length (zbV (List.replicate l.length false))),(2,0,.row 3 1 0 ([])),(0,0,qae l)]
theorem qpD {rt:Int} {l:List Pt} {c1:List Int} {bs1:List Bool} (m0:0≤(l.length:Int)) (m1:(l.length:Int)≤1000000) (hf:FnO Try.prog 83 1 4 [.pp 3 0,.pv (iV (rt))] (qim l) (.pv (.bool false)) 1 (qgC bs1 c1 l)) :
 Fn 45 1 [trS 0 rt l] [(0,0,qae l)] (.tu [.one (.ls 1 c1.length),.one (.pv (.bool false))]) 1 [(1,0,.row 3 1 c1.length (ziV c1))]:=
 Fz [(1,5)] [.md,.lz false 3 2 3 1,.fo 1 [0,2,4,3] [.pp 3 0,.pv (iV (rt))] (qim l) (.pv (.bool false)) 1 (qgC bs1 c1 l)]
  (qam (qaF [(1,5)]) [(1,0,.row 3 1 c1.length (ziV c1))]) (Ai m0 (Ai (Eq.refl (l.length:Int)) (Ai m1 (Ai hf (Ai (Eq.refl (List.map (SV.ren (qar [0,2,4,3] 5)) [.pp 3 0,.pv (iV (rt))])) (Ai (Ai (Er (SV.ls 0 l.length)) (Ai (Er (SV.ls 2 l.length)) (Ai (Er (SV.ls 4 0)) (Ai (qcM l.length) (Ai (Er (SV.row 3 1 0 [])) (Ai (Er (qae l)) tI)))))) tI))))))
theorem qiU {rt:Int} {l:List Pt} {c1:List Int} {bs1:List Bool} (m0:0≤(l.length:Int)) (m1:(l.length:Int)≤1000000) (hf:FnO Try.prog 83 1 4 [.pp 3 0,.pv (iV (rt))] (qim l) (.pv (.bool true)) 1 (qgC bs1 c1 l)) (he:(((c1.length:Int):Int)==(l.length:Int))=true) :
 Fn 45 1 [trS 0 rt l] [(0,0,qae l)] (.tu [.one (.ls 1 c1.length),.one (.pv (.bool true))]) 1 [(1,0,.row 3 1 c1.length (ziV c1))]:=
 Fz [(1,5)] [.md,.lz false 3 2 3 1,.fo 1 [0,2,4,3] [.pp 3 0,.pv (iV (rt))] (qim l) (.pv (.bool true)) 1 (qgC bs1 c1 l),.t true]
  (qam (qaF [(1,5)]) [(1,0,.row 3 1 c1.length (ziV c1))]) (Ai m0 (Ai (Eq.refl (l.length:Int)) (Ai m1 (Ai hf (Ai (Eq.refl (List.map (SV.ren (qar [0,2,4,3] 5)) [.pp 3 0,.pv (iV (rt))])) (Ai (Ai (Er (SV.ls 0 l.length)) (Ai (Er (SV.ls 2 l.length)) (Ai (Er (SV.ls 4 0)) (Ai (qcM l.length) (Ai (Er (SV.row 3 1 0 [])) (Ai (Er (qae l)) tI)))))) (Ai he tI)))))))
theorem qh8 {rt:Int} {l:List Pt} {c1:List Int} {bs1:List Bool} (m0:0≤(l.length:Int)) (m1:(l.length:Int)≤1000000) (hf:FnO Try.prog 83 1 4 [.pp 3 0,.pv (iV (rt))] (qim l) (.pv (.bool true)) 1 (qgC bs1 c1 l)) (he:(((c1.length:Int):Int)==(l.length:Int))=false) :
 Fn 45 1 [trS 0 rt l] [(0,0,qae l)] (.tu [.one (.ls 1 c1.length),.one (.pv (.bool false))]) 1 [(1,0,.row 3 1 c1.length (ziV c1))]:=
 Fz [(1,5)] [.md,.lz false 3 2 3 1,.fo 1 [0,2,4,3] [.pp 3 0,.pv (iV (rt))] (qim l) (.pv (.bool true)) 1 (qgC bs1 c1 l),.t false]
  (qam (qaF [(1,5)]) [(1,0,.row 3 1 c1.length (ziV c1))]) (Ai m0 (Ai (Eq.refl (l.length:Int)) (Ai m1 (Ai hf (Ai (Eq.refl (List.map (SV.ren (qar [0,2,4,3] 5)) [.pp 3 0,.pv (iV (rt))])) (Ai (Ai (Er (SV.ls 0 l.length)) (Ai (Er (SV.ls 2 l.length)) (Ai (Er (SV.ls 4 0)) (Ai (qcM l.length) (Ai (Er (SV.row 3 1 0 [])) (Ai (Er (qae l)) tI)))))) (Ai he tI)))))))
abbrev qpn (bs1:List Bool) (l:List Pt):HpL:=[(3,0,.ls 0 l.length),(3,1,.ls 1 l.length),(3,2,.ls 2 0),(1,0,.row 4 1 l.length (zbV bs1)),(2,0,.row 3 1 0 ([]))]
theorem qqy {rt:Int} {l:List Pt} {bs1:List Bool} (m0:0≤(l.length:Int)) (m1:(l.length:Int)≤1000000) (hf:FnO Try.prog 83 1 4 [.pp 3 0,.pv (iV (rt))] (qim l) (.pv (.bool false)) 0 (qpn bs1 l)) :
 Fn 45 1 [trS 0 rt l] [(0,0,qae l)] (.tu [.one (.ls 1 0),.one (.pv (.bool false))]) 1 [(1,0,.row 3 1 0 ([]))]:=
 Fz [(1,4)] [.md,.lz false 3 2 3 1,.fo 1 [0,2,4,3] [.pp 3 0,.pv (iV (rt))] (qim l) (.pv (.bool false)) 0 (qpn bs1 l)]
  (qam (qaF [(1,4)]) [(1,0,.row 3 1 0 ([]))]) (Ai m0 (Ai (Eq.refl (l.length:Int)) (Ai m1 (Ai hf (Ai (Eq.refl (List.map (SV.ren (qar [0,2,4,3] 5)) [.pp 3 0,.pv (iV (rt))])) (Ai (Ai (Er (SV.ls 0 l.length)) (Ai (Er (SV.ls 2 l.length)) (Ai (Er (SV.ls 4 0)) (Ai (qcM l.length) (Ai (Er (SV.row 3 1 0 [])) (Ai (Er (qae l)) tI)))))) tI))))))
theorem qio {rt:Int} {l:List Pt} {bs1:List Bool} (m0:0≤(l.length:Int)) (m1:(l.length:Int)≤1000000) (hf:FnO Try.prog 83 1 4 [.pp 3 0,.pv (iV (rt))] (qim l) (.pv (.bool true)) 0 (qpn bs1 l)) (he:((0:Int)==(l.length:Int))=true) :
 Fn 45 1 [trS 0 rt l] [(0,0,qae l)] (.tu [.one (.ls 1 0),.one (.pv (.bool true))]) 1 [(1,0,.row 3 1 0 ([]))]:=
 Fz [(1,4)] [.md,.lz false 3 2 3 1,.fo 1 [0,2,4,3] [.pp 3 0,.pv (iV (rt))] (qim l) (.pv (.bool true)) 0 (qpn bs1 l),.t true]
  (qam (qaF [(1,4)]) [(1,0,.row 3 1 0 ([]))]) (Ai m0 (Ai (Eq.refl (l.length:Int)) (Ai m1 (Ai hf (Ai (Eq.refl (List.map (SV.ren (qar [0,2,4,3] 5)) [.pp 3 0,.pv (iV (rt))])) (Ai (Ai (Er (SV.ls 0 l.length)) (Ai (Er (SV.ls 2 l.length)) (Ai (Er (SV.ls 4 0)) (Ai (qcM l.length) (Ai (Er (SV.row 3 1 0 [])) (Ai (Er (qae l)) tI)))))) (Ai he tI)))))))
theorem qhE {rt:Int} {l:List Pt} {bs1:List Bool} (m0:0≤(l.length:Int)) (m1:(l.length:Int)≤1000000) (hf:FnO Try.prog 83 1 4 [.pp 3 0,.pv (iV (rt))] (qim l) (.pv (.bool true)) 0 (qpn bs1 l)) (he:((0:Int)==(l.length:Int))=false) :
 Fn 45 1 [trS 0 rt l] [(0,0,qae l)] (.tu [.one (.ls 1 0),.one (.pv (.bool false))]) 1 [(1,0,.row 3 1 0 ([]))]:=
 Fz [(1,4)] [.md,.lz false 3 2 3 1,.fo 1 [0,2,4,3] [.pp 3 0,.pv (iV (rt))] (qim l) (.pv (.bool true)) 0 (qpn bs1 l),.t false]
  (qam (qaF [(1,4)]) [(1,0,.row 3 1 0 ([]))]) (Ai m0 (Ai (Eq.refl (l.length:Int)) (Ai m1 (Ai hf (Ai (Eq.refl (List.map (SV.ren (qar [0,2,4,3] 5)) [.pp 3 0,.pv (iV (rt))])) (Ai (Ai (Er (SV.ls 0 l.length)) (Ai (Er (SV.ls 2 l.length)) (Ai (Er (SV.ls 4 0)) (Ai (qcM l.length) (Ai (Er (SV.row 3 1 0 [])) (Ai (Er (qae l)) tI)))))) (Ai he tI)))))))
theorem qn5 {z v:Int} {l:List Pt} {n:Nat} (h0:(z==(-1))=true) :
 FnO Try.prog 54 0 1 [.ls 0 n,.pv (iV (z)),.pv (iV (v))] [(0,0,.row 26 3 n (qaq l))] (.pv (.tuple #[iV (-1),iV (-1)])) 0 [(0,0,.row 26 3 n (qaq l))]:=
 qaD 300 [] [.t true]
  (qam (qaF []) [(0,0,.row 26 3 n (qaq l))]) (Ai h0 tI) (by kernel_rfl)
theorem qop {x y z v:Int} {l n1:List Pt} {p:Pt} {n:Nat} {p2:Pt} (h0:(z==(-1))=false) (hin:0≤z∧z<(n:Int)) (hk:l[z.toNat]?=some p) (hc:decide (p.id<v)=true) (hl:FnO Try.prog 54 0 1 [.ls 0 n,.pv (iV (p.b)),.pv (iV (v))] [(0,0,.row 26 3 n (qaq l))] (.pv (.tuple #[iV x,iV y])) 0 [(0,0,.row 26 3 n (qaq n1))]) (hs:n1[z.toNat]?=some p2) :
 FnO Try.prog 54 0 1 [.ls 0 n,.pv (iV (z)),.pv (iV (v))] [(0,0,.row 26 3 n (qaq l))] (.pv (.tuple #[iV z,iV y])) 0 [(0,0,.row 26 3 n (qaq (n1.set z.toNat ⟨p2.id,p2.a,x⟩)))]:=
 qaD 300 [] [.t false,.r (iV p.id),.t true,.r (iV p.b),.fo 0 [0] [.ls 0 n,.pv (iV (p.b)),.pv (iV (v))] [(0,0,.row 26 3 n (qaq l))] (.pv (.tuple #[iV x,iV y])) 0 [(0,0,.row 26 3 n (qaq n1))],.w (qaq (n1.set z.toNat ⟨p2.id,p2.a,x⟩))]
  (qam (qaF []) [(0,0,.row 26 3 n (qaq (n1.set z.toNat ⟨p2.id,p2.a,x⟩)))]) (Ai h0 (Ai hin (Ai (qaK hk) (Ai hc (Ai hin (Ai (qb7 hk) (Ai hl (Ai (Eq.refl (List.map (SV.ren (qar [0] 1)) [.ls 0 n,.pv (iV (p.b)),.pv (iV (v))])) (Ai (qam (qar [0] 1) [(0,0,.row 26 3 n (qaq l))]) (Ai hin (Ai (qnw hs x) (Ai (qoF hs) tI)))))))))))) (by kernel_rfl)
theorem qlZ {x y z v:Int} {l n1:List Pt} {p:Pt} {n:Nat} {p2:Pt} (h0:(z==(-1))=false) (hin:0≤z∧z<(n:Int)) (hk:l[z.toNat]?=some p) (hc:decide (p.id<v)=false) (hl:FnO Try.prog 54 0 1 [.ls 0 n,.pv (iV (p.a)),.pv (iV (v))] [(0,0,.row 26 3 n (qaq l))] (.pv (.tuple #[iV x,iV y])) 0 [(0,0,.row 26 3 n (qaq n1))]) (hs:n1[z.toNat]?=some p2) :
 FnO Try.prog 54 0 1 [.ls 0 n,.pv (iV (z)),.pv (iV (v))] [(0,0,.row 26 3 n (qaq l))] (.pv (.tuple #[iV x,iV z])) 0 [(0,0,.row 26 3 n (qaq (n1.set z.toNat ⟨p2.id,y,p2.b⟩)))]:=
 qaD 300 [] [.t false,.r (iV p.id),.t false,.r (iV p.a),.fo 0 [0] [.ls 0 n,.pv (iV (p.a)),.pv (iV (v))] [(0,0,.row 26 3 n (qaq l))] (.pv (.tuple #[iV x,iV y])) 0 [(0,0,.row 26 3 n (qaq n1))],.w (qaq (n1.set z.toNat ⟨p2.id,y,p2.b⟩))]
  (qam (qaF []) [(0,0,.row 26 3 n (qaq (n1.set z.toNat ⟨p2.id,y,p2.b⟩)))]) (Ai h0 (Ai hin (Ai (qaK hk) (Ai hc (Ai hin (Ai (qbS hk) (Ai hl (Ai (Eq.refl (List.map (SV.ren (qar [0] 1)) [.ls 0 n,.pv (iV (p.a)),.pv (iV (v))])) (Ai (qam (qar [0] 1) [(0,0,.row 26 3 n (qaq l))]) (Ai hin (Ai (qoO hs y) (Ai (qoI hs) tI)))))))))))) (by kernel_rfl)
abbrev qkz (l:List Pt) (n:Nat) (s:List Pt):HpL:=[(0,0,qah s),(1,0,.row 26 3 n (qaq l))]
theorem qrX {z v tn td:Int} {s l:List Pt} {n:Nat} (h0:(z==(-1))=true) :
 FnO Try.prog 62 1 2 [.ag [.ls 1 n,.ls 0 s.length,.pv (iV tn),.pv (iV td)],.pv (iV (z)),.pv (iV (v))] (qkz l n s) (.pv (iV (v))) 0 [(1,0,.row 26 3 n (qaq l))]:=
 qaD 300 [] [.t true]
  (qam (qaF []) [(1,0,.row 26 3 n (qaq l))]) (Ai h0 tI) (by kernel_rfl)
theorem qsL {z v tn td:Int} {s l:List Pt} {n:Nat} (h0:(z==(-1))=false) (h1:(v==(-1))=true) :
 FnO Try.prog 62 1 2 [.ag [.ls 1 n,.ls 0 s.length,.pv (iV tn),.pv (iV td)],.pv (iV (z)),.pv (iV (v))] (qkz l n s) (.pv (iV (z))) 0 [(1,0,.row 26 3 n (qaq l))]:=
 qaD 300 [] [.t false,.t true]
  (qam (qaF []) [(1,0,.row 26 3 n (qaq l))]) (Ai h0 (Ai h1 tI)) (by kernel_rfl)
theorem qsA {x z v tn td:Int} {s l n1:List Pt} {p:Pt} {n:Nat} {p1 q1 p2:Pt} (h0:(z==(-1))=false) (h1:(v==(-1))=false) (hin:0≤z∧z<(n:Int)) (hjn:0≤v∧v<(n:Int)) (hpn:0≤z∧z<(s.length:Int)) (hqn:0≤v∧v<(s.length:Int)) (hp:s[z.toNat]?=some p1) (hq:s[v.toNat]?=some q1) (hw:Pure Try.prog 79 #[ptV p1,ptV q1,qaa tn td] (.tuple #[.bool true,iV 0])) (hk:l[z.toNat]?=some p) (hl:FnO Try.prog 62 1 2 [.ag [.ls 1 n,.ls 0 s.length,.pv (iV tn),.pv (iV td)],.pv (iV (p.b)),.pv (iV (v))] (qkz l n s) (.pv (iV (x))) 0 [(1,0,.row 26 3 n (qaq n1))]) (hs:n1[z.toNat]?=some p2) :
 FnO Try.prog 62 1 2 [.ag [.ls 1 n,.ls 0 s.length,.pv (iV tn),.pv (iV td)],.pv (iV (z)),.pv (iV (v))] (qkz l n s) (.pv (iV (z))) 0 [(1,0,.row 26 3 n (qaq (n1.set z.toNat ⟨p2.id,p2.a,x⟩)))]:=
 qaD 300 [] [.t false,.t false,.r (ptV p1),.r (ptV q1),.r (.tuple #[.bool true,iV 0]),.gh [(2,0),(2,1),(2,2),(2,3)],.r (iV p.b),.fo 1 [0,1] [.ag [.ls 1 n,.ls 0 s.length,.pv (iV tn),.pv (iV td)],.pv (iV (p.b)),.pv (iV (v))] (qkz l n s) (.pv (iV (x))) 0 [(1,0,.row 26 3 n (qaq n1))],.w (qaq (n1.set z.toNat ⟨p2.id,p2.a,x⟩))]
  (qam (qaF []) [(1,0,.row 26 3 n (qaq (n1.set z.toNat ⟨p2.id,p2.a,x⟩)))]) (Ai h0 (Ai h1 (Ai hpn (Ai (qcs hp) (Ai hqn (Ai (qcs hq) (Ai hw (Ai (Er (SV.ls 1 n)) (Ai (Er (SV.ls 0 s.length)) (Ai (Er (SV.pv (iV tn))) (Ai (Er (SV.pv (iV td))) (Ai hin (Ai (Er (SV.ls 1 n)) (Ai (Er (SV.ls 0 s.length)) (Ai (Er (SV.pv (iV tn))) (Ai (Er (SV.pv (iV td))) (Ai (Er (SV.ls 1 n)) (Ai (Er (SV.ls 0 s.length)) (Ai (Er (SV.pv (iV tn))) (Ai (Er (SV.pv (iV td))) (Ai (qb7 hk) (Ai (Er (SV.ls 1 n)) (Ai (Er (SV.ls 0 s.length)) (Ai (Er (SV.pv (iV tn))) (Ai (Er (SV.pv (iV td))) (Ai hl (Ai (Eq.refl (List.map (SV.ren (qar [0,1] 3)) [.ag [.ls 1 n,.ls 0 s.length,.pv (iV tn),.pv (iV td)],.pv (iV (p.b)),.pv (iV (v))])) (Ai (qam (qar [0,1] 3) (qkz l n s)) (Ai (Er (SV.ls 1 n)) (Ai (Er (SV.ls 0 s.length)) (Ai (Er (SV.pv (iV tn))) (Ai (Er (SV.pv (iV td))) (Ai hin (Ai (Er (SV.ls 1 n)) (Ai (Er (SV.ls 0 s.length)) (Ai (Er (SV.pv (iV tn))) (Ai (Er (SV.pv (iV td))) (Ai (Er (SV.ls 1 n)) (Ai (Er (SV.ls 0 s.length)) (Ai (Er (SV.pv (iV tn))) (Ai (Er (SV.pv (iV td))) (Ai (qnw hs x) (Ai (qoF hs) (Ai (Er (SV.ls 1 n)) (Ai (Er (SV.ls 0 s.length)) (Ai (Er (SV.pv (iV tn))) (Ai (Er (SV.pv (iV td))) tI))))))))))))))))))))))))))))))))))))))))))))))) (by kernel_rfl)
theorem qsK {x z v tn td:Int} {s l n1:List Pt} {q:Pt} {n:Nat} {p1 q1 p2:Pt} (h0:(z==(-1))=false) (h1:(v==(-1))=false) (hin:0≤z∧z<(n:Int)) (hjn:0≤v∧v<(n:Int)) (hpn:0≤z∧z<(s.length:Int)) (hqn:0≤v∧v<(s.length:Int)) (hp:s[z.toNat]?=some p1) (hq:s[v.toNat]?=some q1) (hw:Pure Try.prog 79 #[ptV p1,ptV q1,qaa tn td] (.tuple #[.bool false,iV 0])) (hk:l[v.toNat]?=some q) (hl:FnO Try.prog 62 1 2 [.ag [.ls 1 n,.ls 0 s.length,.pv (iV tn),.pv (iV td)],.pv (iV (z)),.pv (iV (q.a))] (qkz l n s) (.pv (iV (x))) 0 [(1,0,.row 26 3 n (qaq n1))]) (hs:n1[v.toNat]?=some p2) :
 FnO Try.prog 62 1 2 [.ag [.ls 1 n,.ls 0 s.length,.pv (iV tn),.pv (iV td)],.pv (iV (z)),.pv (iV (v))] (qkz l n s) (.pv (iV (v))) 0 [(1,0,.row 26 3 n (qaq (n1.set v.toNat ⟨p2.id,x,p2.b⟩)))]:=
 qaD 300 [] [.t false,.t false,.r (ptV p1),.r (ptV q1),.r (.tuple #[.bool false,iV 0]),.gh [(2,0),(2,1),(2,2),(2,3)],.r (iV q.a),.fo 1 [0,1] [.ag [.ls 1 n,.ls 0 s.length,.pv (iV tn),.pv (iV td)],.pv (iV (z)),.pv (iV (q.a))] (qkz l n s) (.pv (iV (x))) 0 [(1,0,.row 26 3 n (qaq n1))],.w (qaq (n1.set v.toNat ⟨p2.id,x,p2.b⟩))]
  (qam (qaF []) [(1,0,.row 26 3 n (qaq (n1.set v.toNat ⟨p2.id,x,p2.b⟩)))]) (Ai h0 (Ai h1 (Ai hpn (Ai (qcs hp) (Ai hqn (Ai (qcs hq) (Ai hw (Ai (Er (SV.ls 1 n)) (Ai (Er (SV.ls 0 s.length)) (Ai (Er (SV.pv (iV tn))) (Ai (Er (SV.pv (iV td))) (Ai hjn (Ai (Er (SV.ls 1 n)) (Ai (Er (SV.ls 0 s.length)) (Ai (Er (SV.pv (iV tn))) (Ai (Er (SV.pv (iV td))) (Ai (Er (SV.ls 1 n)) (Ai (Er (SV.ls 0 s.length)) (Ai (Er (SV.pv (iV tn))) (Ai (Er (SV.pv (iV td))) (Ai (qbS hk) (Ai (Er (SV.ls 1 n)) (Ai (Er (SV.ls 0 s.length)) (Ai (Er (SV.pv (iV tn))) (Ai (Er (SV.pv (iV td))) (Ai hl (Ai (Eq.refl (List.map (SV.ren (qar [0,1] 3)) [.ag [.ls 1 n,.ls 0 s.length,.pv (iV tn),.pv (iV td)],.pv (iV (z)),.pv (iV (q.a))])) (Ai (qam (qar [0,1] 3) (qkz l n s)) (Ai (Er (SV.ls 1 n)) (Ai (Er (SV.ls 0 s.length)) (Ai (Er (SV.pv (iV tn))) (Ai (Er (SV.pv (iV td))) (Ai hjn (Ai (Er (SV.ls 1 n)) (Ai (Er (SV.ls 0 s.length)) (Ai (Er (SV.pv (iV tn))) (Ai (Er (SV.pv (iV td))) (Ai (Er (SV.ls 1 n)) (Ai (Er (SV.ls 0 s.length)) (Ai (Er (SV.pv (iV tn))) (Ai (Er (SV.pv (iV td))) (Ai (qoO hs x) (Ai (qoI hs) (Ai (Er (SV.ls 1 n)) (Ai (Er (SV.ls 0 s.length)) (Ai (Er (SV.pv (iV tn))) (Ai (Er (SV.pv (iV td))) tI))))))))))))))))))))))))))))))))))))))))))))))) (by kernel_rfl)
end Go.Proofs.Ytalnjplghagbpaa

namespace Go.Proofs.Ytalnjplghagbpaa
set_option maxRecDepth 100000
open Go.RowKit
theorem qrT (n:Nat):SV.ls 2 (0+n)=(SV.ls 1 n).ren (qaF [(1,2)]):=by rw[Nat.zero_add];rfl
theorem qo6 (e:TypeId) (es n:Nat) (xs:List Value):some (SV.row e es (0+n) ([]++xs))=some (SV.row e es n xs):=by rw[Nat.zero_add,List.nil_append]
theorem qpE {z v:Int} (h:(z==(-1))=true) :
 Pure Try.prog 57 #[iV (z),iV (v)] (iV (-1)):=
 qad (args:=[iV (z),iV (v)]) 300 [.t true]
  (Ai rfl (Ai h tI)) (by kernel_rfl)
theorem qnU {y z v:Int} (h:(z==(-1))=false) (hs:iV (IntKind.i64.wrap (z+v))=iV (y)) :
 Pure Try.prog 57 #[iV (z),iV (v)] (iV (y)):=
 qad (args:=[iV (z),iV (v)]) 300 [.t false,Re hs]
  (Ai rfl (Ai h (Ai hs tI))) (by kernel_rfl)
theorem qkP {l:List Pt} (h:decide ((l.length:Int)>64)=true) :
 Fn 61 1 [.ls 0 l.length] [(0,0,qae l)] (.pv (iV (4))) 0 []:=
 Fz [] [.t true]
  tI (Ai h tI)
theorem qjt {l:List Pt} (h:decide ((l.length:Int)>64)=false) :
 Fn 61 1 [.ls 0 l.length] [(0,0,qae l)] (.pv (iV (0))) 0 []:=
 Fz [] [.t false]
  tI (Ai h tI)
theorem ql7 {l:List Pt} {p q:Pt} {j k:Nat} (hlt:decide ((k:Int)<(l.length:Int))=true) (hs1:iV (IntKind.i64.wrap ((k:Int)-1))=iV (j:Int)) (hj:l[j]?=some p) (hinj:0≤(j:Int)∧(j:Int)<(l.length:Int)) (hk:l[k]?=some q) (hin:0≤(k:Int)∧(k:Int)<(l.length:Int)) (hc:decide (p.id≥q.id)=false) (hs:iV (IntKind.i64.wrap ((k:Int)+1))=iV (((k+1:Nat):Int))) {e:Exit} {tm2:TmL} {hp2:HpL}
 (r:Rl 1 1 52 0 22 1 ([(0,.ls 0 l.length),(3,.pv (iV ((k+1:Nat):Int)))]) ([(0,0,qae l)]) e tm2 hp2):Rl 1 1 52 0 22 1 ([(0,.ls 0 l.length),(3,.pv (iV (k:Int)))]) ([(0,0,qae l)]) e tm2 hp2:=
 RunsL.next [] 300 [.t true,Re hs1,.r (iV p.id),.r (iV q.id),.t false,Re hs]
  (Ro (Ai hlt (Ai hs1 (Ai hinj (Ai (qbI hj) (Ai hin (Ai (qbI hk) (Ai hc (Ai hs tI))))))))) r
theorem qot {l:List Pt} {p q:Pt} {j k:Nat} (hlt:decide ((k:Int)<(l.length:Int))=true) (hs1:iV (IntKind.i64.wrap ((k:Int)-1))=iV (j:Int)) (hj:l[j]?=some p) (hinj:0≤(j:Int)∧(j:Int)<(l.length:Int)) (hk:l[k]?=some q) (hin:0≤(k:Int)∧(k:Int)<(l.length:Int)) (hc:decide (p.id≥q.id)=true):Rl 1 1 52 0 22 1 ([(0,.ls 0 l.length),(3,.pv (iV (k:Int)))]) ([(0,0,qae l)]) (.ret) ([(2,.pv (iV 32))]) ([]):=
 RunsL.stop [] 300 [.t true,Re hs1,.r (iV p.id),.r (iV q.id),.t true] (fun h=>by cases h)
  (Ro (Ai hlt (Ai hs1 (Ai hinj (Ai (qbI hj) (Ai hin (Ai (qbI hk) (Ai hc tI))))))))
theorem qki {l:List Pt} {k:Nat} (hlt:decide ((k:Int)<(l.length:Int))=false):Rl 1 1 52 0 22 1 ([(0,.ls 0 l.length),(3,.pv (iV (k:Int)))]) ([(0,0,qae l)]) (.exit 0) ([]) ([]):=
 RunsL.stop [] 300 [.t false] (fun h=>by cases h)
  (Ro (Ai hlt tI))
theorem qpY {l:List Pt} (r0:Rl 1 1 52 0 22 1 ([(0,.ls 0 l.length),(3,.pv (iV ((1:Nat):Int)))]) ([(0,0,qae l)]) (.ret) ([(2,.pv (iV 32))]) ([])) :
 Fn 52 1 [.ls 0 l.length] [(0,0,qae l)] (.pv (iV (32))) 0 []:=
 Fz [] [Lf r0]
  tI (Lo r0 [] tI)
theorem qjy {l:List Pt} (r0:Rl 1 1 52 0 22 1 ([(0,.ls 0 l.length),(3,.pv (iV ((1:Nat):Int)))]) ([(0,0,qae l)]) (.exit 0) ([]) ([])) :
 Fn 52 1 [.ls 0 l.length] [(0,0,qae l)] (.pv (iV (0))) 0 []:=
 Fz [] [Lf r0]
  tI (Lo r0 [] tI)
abbrev qrJ (g:List Int) (k:Nat) (l:List Pt) (y:Int):TmL:=[(0,.ls 0 l.length),(5,.pv (iV (y))),(9,.ls 1 g.length),(10,.pv (iV (g.length:Int))),(11,.pv (iV (k:Int)))]
theorem qpK {y z:Int} {l:List Pt} {p:Pt} {g:List Int} {k:Nat} (hlt:decide ((k:Int)<(g.length:Int))=true) (hin:0≤(k:Int)∧(k:Int)<(g.length:Int)) (hg:g[k]?=some z) (hzi:0≤z∧z<(l.length:Int)) (hp:l[z.toNat]?=some p) (h1:decide (p.id≤y)=true):Rl 2 2 63 0 29 2 (qrJ g k l y) ([(0,0,qae l),(1,0,zrI g)]) (.ret) ([(4,.pv (.bool false))]) ([]):=
 RunsL.stop [] 300 [.t true,.r (iV z),.r (iV p.id),.t true] (fun h=>by cases h)
  (Ro (Ai hlt (Ai hin (Ai (qii hg) (Ai hzi (Ai (qaK hp) (Ai h1 tI)))))))
theorem qpr {y z:Int} {l:List Pt} {p:Pt} {g:List Int} {k:Nat} (hlt:decide ((k:Int)<(g.length:Int))=true) (hin:0≤(k:Int)∧(k:Int)<(g.length:Int)) (hg:g[k]?=some z) (hzi:0≤z∧z<(l.length:Int)) (hp:l[z.toNat]?=some p) (h1:decide (p.id≤y)=false) (h2:decide (p.id>65535)=true):Rl 2 2 63 0 29 2 (qrJ g k l y) ([(0,0,qae l),(1,0,zrI g)]) (.ret) ([(4,.pv (.bool false))]) ([]):=
 RunsL.stop [] 300 [.t true,.r (iV z),.r (iV p.id),.t false,.t true] (fun h=>by cases h)
  (Ro (Ai hlt (Ai hin (Ai (qii hg) (Ai hzi (Ai (qaK hp) (Ai h1 (Ai h2 tI))))))))
theorem qmy {y z:Int} {l:List Pt} {p:Pt} {g:List Int} {k:Nat} (hlt:decide ((k:Int)<(g.length:Int))=true) (hin:0≤(k:Int)∧(k:Int)<(g.length:Int)) (hg:g[k]?=some z) (hzi:0≤z∧z<(l.length:Int)) (hp:l[z.toNat]?=some p) (h1:decide (p.id≤y)=false) (h2:decide (p.id>65535)=false) (hs:iV (IntKind.i64.wrap ((k:Int)+1))=iV (((k+1:Nat):Int))) {e:Exit} {tm2:TmL} {hp2:HpL}
 (r:Rl 2 2 63 0 29 2 ([(0,.ls 0 l.length),(5,.pv (iV (p.id))),(9,.ls 1 g.length),(10,.pv (iV (g.length:Int))),(11,.pv (iV ((k+1:Nat):Int)))]) ([(0,0,qae l),(1,0,zrI g)]) e tm2 hp2):Rl 2 2 63 0 29 2 (qrJ g k l y) ([(0,0,qae l),(1,0,zrI g)]) e tm2 hp2:=
 RunsL.next [] 300 [.t true,.r (iV z),.r (iV p.id),.t false,.t false,Re hs]
  (Ro (Ai hlt (Ai hin (Ai (qii hg) (Ai hzi (Ai (qaK hp) (Ai h1 (Ai h2 (Ai hs tI))))))))) r
theorem qo9 {y:Int} {l:List Pt} {g:List Int} {k:Nat} (hlt:decide ((k:Int)<(g.length:Int))=false):Rl 2 2 63 0 29 2 (qrJ g k l y) ([(0,0,qae l),(1,0,zrI g)]) (.exit 0) ([]) ([]):=
 RunsL.stop [] 300 [.t false] (fun h=>by cases h)
  (Ro (Ai hlt tI))
abbrev qta (g:List Int) (l:List Pt):TmL:=[(0,.ls 0 l.length),(5,.pv (iV (-1))),(9,.ls 1 g.length),(10,.pv (iV (g.length:Int))),(11,.pv (iV ((0:Nat):Int)))]
theorem qpG {l:List Pt} {g:List Int} (r0:Rl 2 2 63 0 29 2 (qta g l) ([(0,0,qae l),(1,0,zrI g)]) (.ret) ([(4,.pv (.bool false))]) ([])) :
 Fn 63 2 [.ls 0 l.length,.ls 1 g.length] [(0,0,qae l),(1,0,zrI g)] (.pv (.bool false)) 0 []:=
 Fz [] [Lf r0]
  tI (Lo r0 [] tI)
theorem qow {l:List Pt} {g:List Int} (r0:Rl 2 2 63 0 29 2 (qta g l) ([(0,0,qae l),(1,0,zrI g)]) (.exit 0) ([]) ([])) :
 Fn 63 2 [.ls 0 l.length,.ls 1 g.length] [(0,0,qae l),(1,0,zrI g)] (.pv (.bool true)) 0 []:=
 Fz [] [Lf r0]
  tI (Lo r0 [] tI)
theorem qk7 {n:Nat} {xs:List Value} (h0:0<n) (hn:0+n≤1000000) :
 Fn 53 1 [.ls 0 n] [(0,0,.row 26 3 n xs)] (.ls 1 n) 1 [(1,0,.row 26 3 n xs)]:=
 Fx [(1,2)] [.t false]
  (qrT n) (Ai (qo6 26 3 n xs) tI) (Ai h0 (Ai hn tI))
theorem qsa {ad:Addr} {c:Nat} :
 Fn 53 0 [.pv (.slice (some ad) 0 c)] [] (.ls 0 0) 1 [(0,0,.row 26 3 0 [])]:=
 Fz [(0,1)] [.k]
  (qam (qaF [(0,1)]) [(0,0,.row 26 3 0 [])]) (Ai (Nat.zero_le _:0+0≤1000000) tI)
theorem qol {c:Nat}:Pure Try.prog 53 #[.slice none 0 c] (.slice none 0 0):=
 qiD (args:=[.slice none 0 c]) 200 [] (Ai rfl tI) (by kernel_rfl)
theorem qlh {x y v:Int} {l:List Pt} {p:Pt} {k n:Nat} {vs:List Value} (hlt:decide ((k:Int)<(l.length:Int))=true) (hk:l[k]?=some p) (hin:0≤(k:Int)∧(k:Int)<(l.length:Int)) (hn:n+1≤1000000) (ha:Pure Try.prog 57 #[iV (p.a),iV (v)] (iV (x))) (hb:Pure Try.prog 57 #[iV (p.b),iV (v)] (iV (y))) (hs:iV (IntKind.i64.wrap ((k:Int)+1))=iV (((k+1:Nat):Int))) {e:Exit} {tm2:TmL} {hp2:HpL}
 (r:Rl 1 1 58 0 30 2 ([(1,.pv (iV v)),(5,.ls 1 (n+1)),(8,.ls 0 l.length),(9,.pv (iV (l.length:Int))),(10,.pv (iV ((k+1:Nat):Int)))]) ([(0,0,qae l),(1,0,.row 26 3 (n+1) (vs++[iV p.id,iV x,iV y]))]) e tm2 hp2):Rl 1 1 58 0 30 2 ([(1,.pv (iV v)),(5,.ls 1 n),(8,.ls 0 l.length),(9,.pv (iV (l.length:Int))),(10,.pv (iV (k:Int)))]) ([(0,0,qae l),(1,0,.row 26 3 n (vs))]) e tm2 hp2:=
 RunsL.next [(1,4)] 300 [.t true,.r (ptV p),.md,Rf ha,Rf hb,Re hs]
  (Ro (Ai hlt (Ai hin (Ai (qaZ hk) (Ai ha (Ai hb (Ai hn (Ai hs tI)))))))) r
theorem qoR {v:Int} {l:List Pt} {k n:Nat} {vs:List Value} (hlt:decide ((k:Int)<(l.length:Int))=false):Rl 1 1 58 0 30 2 ([(1,.pv (iV v)),(5,.ls 1 n),(8,.ls 0 l.length),(9,.pv (iV (l.length:Int))),(10,.pv (iV (k:Int)))]) ([(0,0,qae l),(1,0,.row 26 3 n (vs))]) (.exit 0) ([(5,.ls 1 n)]) ([(1,0,.row 26 3 n (vs))]):=
 RunsL.stop [] 300 [.t false] (fun h=>by cases h)
  (Ro (Ai hlt tI))
theorem qpJ {v:Int} {l:List Pt} {n:Nat} {vs:List Value} (r0:Rl 1 1 58 0 30 2 ([(1,.pv (iV v)),(5,.ls 1 0),(8,.ls 0 l.length),(9,.pv (iV (l.length:Int))),(10,.pv (iV ((0:Nat):Int)))]) ([(0,0,qae l),(1,0,.row 26 3 0 ([]))]) (.exit 0) ([(5,.ls 1 n)]) ([(1,0,.row 26 3 n (vs))])) :
 Fn 58 1 [.ls 0 l.length,.pv (iV (v))] [(0,0,qae l)] (.ls 1 n) 1 [(1,0,.row 26 3 n (vs))]:=
 Fz [] [.ln true 5 0 26 3,Lf r0]
  (qam (qaF []) [(1,0,.row 26 3 n (vs))]) (Lo r0 [] tI)
theorem qqh {a pa pb n:Int} (n1:(!(a==a))=false) (n2:(!(n==n))=false) (h1:decide (a<n)=true) :
 Pure Try.prog 90 #[qab a pa pb,iV n] (iV (-1)):=
 qad (args:=[qab a pa pb,iV n]) 300 [.k,.k,.t false,.k,.t false,.t true]
  (Ai rfl (Ai n1 (Ai n2 (Ai h1 tI)))) (by kernel_rfl)
theorem qrr {a pa pb n:Int} (n1:(!(a==a))=false) (n2:(!(n==n))=false) (h1:decide (a<n)=false) (h2:decide (a>n)=true) :
 Pure Try.prog 90 #[qab a pa pb,iV n] (iV (1)):=
 qad (args:=[qab a pa pb,iV n]) 300 [.k,.k,.t false,.k,.t false,.t false,.t true]
  (Ai rfl (Ai n1 (Ai n2 (Ai h1 (Ai h2 tI))))) (by kernel_rfl)
theorem qp4 {a pa pb n:Int} (n1:(!(a==a))=false) (n2:(!(n==n))=false) (h1:decide (a<n)=false) (h2:decide (a>n)=false) :
 Pure Try.prog 90 #[qab a pa pb,iV n] (iV (0)):=
 qad (args:=[qab a pa pb,iV n]) 300 [.k,.k,.t false,.k,.t false,.t false,.t false]
  (Ai rfl (Ai n1 (Ai n2 (Ai h1 (Ai h2 tI))))) (by kernel_rfl)
abbrev qrO (i:Nat) (j:Nat) (l:List Pt) (n:Int):TmL:=[(0,.ls 0 l.length),(1,.pv (iV n)),(2,.pv (.func (.func 90) #[] #[])),(8,.pv (iV (l.length:Int))),(9,.pv (iV (i:Int))),(10,.pv (iV (j:Int)))]
abbrev qrB (c:Int) (n:Int) (p:Pt):Prop:=Pure Try.prog 90 #[qab p.id p.a p.b,iV n] (iV (c))
theorem qpF {l:List Pt} {i j h:Nat} {p:Pt} {c n:Int} (hk:l[h]?=some p) (hin:0≤(h:Int)∧(h:Int)<(l.length:Int)) (hlt:decide ((i:Int)<(j:Int))=true) (ha:iV (IntKind.i64.wrap ((i:Int)+(j:Int)))=iV ((i:Int)+(j:Int))) (hu:Value.int .u64 (IntKind.u64.wrap ((i:Int)+(j:Int)))=.int .u64 ((i:Int)+(j:Int))) (h1:¬ (1:Int)<0) (hs:Value.int .u64 (((i:Int)+(j:Int)).fdiv (2 ^ (min (1:Int).toNat IntKind.u64.bits)))=.int .u64 (h:Int)) (hb:iV (IntKind.i64.wrap (h:Int))=iV (h:Int)) (hc:qrB c n p) (hz:decide (c<0)=true) (hh:iV (IntKind.i64.wrap ((h:Int)+1))=iV (((h+1:Nat):Int))) {e:Exit} {tm2:TmL} {hp2:HpL}
 (r:Rl 1 1 89 0 49 1 ([(0,.ls 0 l.length),(1,.pv (iV n)),(2,.pv (.func (.func 90) #[] #[])),(8,.pv (iV (l.length:Int))),(9,.pv (iV ((h+1:Nat):Int))),(10,.pv (iV (j:Int)))]) ([(0,0,qae l)]) e tm2 hp2):Rl 1 1 89 0 49 1 (qrO i j l n) ([(0,0,qae l)]) e tm2 hp2:=
 RunsL.next [] 300 [.t true,Re ha,Re hu,.r (.int .u64 (h:Int)),Re hb,.r (ptV p),Rf hc,.t true,Re hh]
  (Ro (Ai hlt (Ai ha (Ai hu (Ai h1 (Ai hs (Ai hb (Ai hin (Ai (qaZ hk) (Ai hc (Ai hz (Ai hh tI)))))))))))) r
theorem qqx {l:List Pt} {i j h:Nat} {p:Pt} {c n:Int} (hk:l[h]?=some p) (hin:0≤(h:Int)∧(h:Int)<(l.length:Int)) (hlt:decide ((i:Int)<(j:Int))=true) (ha:iV (IntKind.i64.wrap ((i:Int)+(j:Int)))=iV ((i:Int)+(j:Int))) (hu:Value.int .u64 (IntKind.u64.wrap ((i:Int)+(j:Int)))=.int .u64 ((i:Int)+(j:Int))) (h1:¬ (1:Int)<0) (hs:Value.int .u64 (((i:Int)+(j:Int)).fdiv (2 ^ (min (1:Int).toNat IntKind.u64.bits)))=.int .u64 (h:Int)) (hb:iV (IntKind.i64.wrap (h:Int))=iV (h:Int)) (hc:qrB c n p) (hz:decide (c<0)=false) {e:Exit} {tm2:TmL} {hp2:HpL}
 (r:Rl 1 1 89 0 49 1 ([(0,.ls 0 l.length),(1,.pv (iV n)),(2,.pv (.func (.func 90) #[] #[])),(8,.pv (iV (l.length:Int))),(9,.pv (iV (i:Int))),(10,.pv (iV (h:Int)))]) ([(0,0,qae l)]) e tm2 hp2):Rl 1 1 89 0 49 1 (qrO i j l n) ([(0,0,qae l)]) e tm2 hp2:=
 RunsL.next [] 300 [.t true,Re ha,Re hu,.r (.int .u64 (h:Int)),Re hb,.r (ptV p),Rf hc,.t false]
  (Ro (Ai hlt (Ai ha (Ai hu (Ai h1 (Ai hs (Ai hb (Ai hin (Ai (qaZ hk) (Ai hc (Ai hz tI))))))))))) r
theorem qjZ {l:List Pt} {i j:Nat} {n:Int} (hge:decide ((i:Int)<(j:Int))=false):Rl 1 1 89 0 49 1 (qrO i j l n) ([(0,0,qae l)]) (.exit 0) (qrO i j l n) ([(0,0,qae l)]):=
 RunsL.stop [] 300 [.t false] (fun h=>by cases h)
  (Ro (Ai hge tI))
abbrev qr3 (k:Nat) (l:List Pt) (n:Int):Prop:=Rl 1 1 89 0 49 1 ([(0,.ls 0 l.length),(1,.pv (iV n)),(2,.pv (.func (.func 90) #[] #[])),(8,.pv (iV (l.length:Int))),(9,.pv (iV ((0:Nat):Int))),(10,.pv (iV (l.length:Int)))]) ([(0,0,qae l)]) (.exit 0) ([(0,.ls 0 l.length),(1,.pv (iV n)),(2,.pv (.func (.func 90) #[] #[])),(8,.pv (iV (l.length:Int))),(9,.pv (iV (k:Int))),(10,.pv (iV (k:Int)))]) ([(0,0,qae l)])
theorem qnQ {l:List Pt} {k:Nat} {n:Int} (r0:qr3 k l n) (hge:decide ((k:Int)<(l.length:Int))=false) :
 Fn 89 1 [.ls 0 l.length,.pv (iV (n)),.pv (.func (.func 90) #[] #[])] [(0,0,qae l)] (.pv (.tuple #[iV (k:Int),.bool false])) 0 []:=
 Fz [] [Lf r0,.t false]
  tI (Lo r0 [] (Ai hge tI))
theorem qnR {l:List Pt} {k:Nat} {p:Pt} {c:Int} {n:Int} (r0:qr3 k l n) (hk:l[k]?=some p) (hin:0≤(k:Int)∧(k:Int)<(l.length:Int)) (hlt:decide ((k:Int)<(l.length:Int))=true) (hc:qrB c n p) (hz:(c==0)=true) :
 Fn 89 1 [.ls 0 l.length,.pv (iV (n)),.pv (.func (.func 90) #[] #[])] [(0,0,qae l)] (.pv (.tuple #[iV (k:Int),.bool true])) 0 []:=
 Fz [] [Lf r0,.t true,.r (ptV p),Rf hc,.t true]
  tI (Lo r0 [] (Ai hlt (Ai hin (Ai (qaZ hk) (Ai hc (Ai hz tI))))))
theorem qrm {l:List Pt} {k:Nat} {p:Pt} {c:Int} {n:Int} (r0:qr3 k l n) (hk:l[k]?=some p) (hin:0≤(k:Int)∧(k:Int)<(l.length:Int)) (hlt:decide ((k:Int)<(l.length:Int))=true) (hc:qrB c n p) (hz:(c==0)=false) :
 Fn 89 1 [.ls 0 l.length,.pv (iV (n)),.pv (.func (.func 90) #[] #[])] [(0,0,qae l)] (.pv (.tuple #[iV (k:Int),.bool false])) 0 []:=
 Fz [] [Lf r0,.t true,.r (ptV p),Rf hc,.t false]
  tI (Lo r0 [] (Ai hlt (Ai hin (Ai (qaZ hk) (Ai hc (Ai hz tI))))))
theorem ele {l:List Pt} {k:Nat} {n:Int} {w:Bool} (hb:Fn 89 1 [.ls 0 l.length,.pv (iV (n)),.pv (.func (.func 90) #[] #[])] [(0,0,qae l)] (.pv (.tuple #[iV (k:Int),.bool w])) 0 []) :
 Fn 55 1 [.ls 0 l.length,.pv (iV (n))] [(0,0,qae l)] (.pv (iV (k:Int))) 0 []:=
 Fz [] [Cf hb [0]]
  tI (Co hb [0] 1 tI)
end Go.Proofs.Ytalnjplghagbpaa

namespace Go.Proofs.Ytalnjplghagbpaa
set_option maxRecDepth 100000
open Go.RowKit
theorem ql8 {rt:Int} {l:List Pt} (hs:Fn 61 1 [.ls 0 l.length] [(0,0,qae l)] (.pv (iV (4))) 0 []) :
 Fn 17 1 [trS 0 rt l] [(0,0,qae l)] (.pv (iV (4))) 0 []:=
 Fz [] [Cf hs [0],.k]
  tI (Co hs [0] 2 tI)
abbrev qsl (l:List Pt):Prop:=Fn 61 1 [.ls 0 l.length] [(0,0,qae l)] (.pv (iV (0))) 0 []
theorem qlQ {rt:Int} {l:List Pt} {g:List Int} (hs:qsl l) (hw:Fn 45 1 [trS 0 rt l] [(0,0,qae l)] (.tu [.one (.ls 1 g.length),.one (.pv (.bool false))]) 1 [(1,0,zrI g)]) :
 Fn 17 1 [trS 0 rt l] [(0,0,qae l)] (.pv (iV (8))) 0 []:=
 Fz [] [Cf hs [0],.k,Cf hw [0],.k]
  tI (Co hs [0] 2 (Co hw [0] 2 tI))
theorem qqg {rt:Int} {l:List Pt} {g:List Int} (hs:qsl l) (hw:Fn 45 1 [trS 0 rt l] [(0,0,qae l)] (.tu [.one (.ls 1 g.length),.one (.pv (.bool true))]) 1 [(1,0,zrI g)]) (hfi:Fn 63 2 [.ls 0 l.length,.ls 1 g.length] [(0,0,qae l),(1,0,zrI g)] (.pv (.bool true)) 0 []) :
 Fn 17 1 [trS 0 rt l] [(0,0,qae l)] (.pv (iV (0))) 0 []:=
 Fz [] [Cf hs [0],.k,Cf hw [0],.k,Cf hfi [0,2],.k]
  tI (Co hs [0] 2 (Co hw [0] 2 (Co hfi [0,2] 3 tI)))
theorem qoZ {rt:Int} {l:List Pt} {g:List Int} (hs:qsl l) (hw:Fn 45 1 [trS 0 rt l] [(0,0,qae l)] (.tu [.one (.ls 1 g.length),.one (.pv (.bool true))]) 1 [(1,0,zrI g)]) (hfi:Fn 63 2 [.ls 0 l.length,.ls 1 g.length] [(0,0,qae l),(1,0,zrI g)] (.pv (.bool false)) 0 []) :
 Fn 17 1 [trS 0 rt l] [(0,0,qae l)] (.pv (iV (8))) 0 []:=
 Fz [] [Cf hs [0],.k,Cf hw [0],.k,Cf hfi [0,2],.k]
  tI (Co hs [0] 2 (Co hw [0] 2 (Co hfi [0,2] 3 tI)))
abbrev qsJ (n:Nat) (s:List Pt) (td:Int) (tn:Int) (vs:List Value):HpL:=[(1,0,.ls 0 s.length),(2,0,.pv (iV tn)),(2,1,.pv (iV td)),(3,0,.pv (iV 0)),(3,1,.pv (.slice none 0 0)),(4,0,.pv (iV (-1))),(4,1,.ls 5 n),(0,0,qah s),(5,0,.row 26 3 n (vs))]
abbrev qth (k:Nat) (s:List Pt):TmL:=[(2,.pp 1 0),(3,.pp 2 0),(4,.pp 3 0),(5,.pp 4 0),(12,.ls 0 s.length),(13,.pv (iV (s.length:Int))),(14,.pv (iV (k:Int)))]
theorem qmw {tn td:Int} {s:List Pt} {p:Pt} {k n:Nat} {vs:List Value} (hlt:decide ((k:Int)<(s.length:Int))=true) (hin:0≤(k:Int)∧(k:Int)<(s.length:Int)) (hk:s[k]?=some p) (hn:n+1≤1000000) (hs:iV (IntKind.i64.wrap ((k:Int)+1))=iV (((k+1:Nat):Int))) {e:Exit} {tm2:TmL} {hp2:HpL}
 (r:Rl 1 1 51 0 47 6 ([(2,.pp 1 0),(3,.pp 2 0),(4,.pp 3 0),(5,.pp 4 0),(12,.ls 0 s.length),(13,.pv (iV (s.length:Int))),(14,.pv (iV ((k+1:Nat):Int)))]) ([(1,0,.ls 0 s.length),(2,0,.pv (iV tn)),(2,1,.pv (iV td)),(3,0,.pv (iV 0)),(3,1,.pv (.slice none 0 0)),(4,0,.pv (iV (-1))),(4,1,.ls 5 (n+1)),(0,0,qah s),(5,0,.row 26 3 (n+1) (vs++[iV p.id,iV (-1),iV (-1)]))]) e tm2 hp2):Rl 1 1 51 0 47 6 (qth k s) (qsJ n s td tn vs) e tm2 hp2:=
 RunsL.next [(5,8)] 300 [.t true,.r (ptV p),Re hs]
  (Ro (Ai hlt (Ai hin (Ai (qaZ hk) (Ai hn (Ai hs tI)))))) r
theorem qoe {tn td:Int} {s:List Pt} {k n:Nat} {vs:List Value} (hlt:decide ((k:Int)<(s.length:Int))=false):Rl 1 1 51 0 47 6 (qth k s) (qsJ n s td tn vs) (.exit 0) ([(2,.pp 1 0),(3,.pp 2 0),(4,.pp 3 0),(5,.pp 4 0)]) (qsJ n s td tn vs):=
 RunsL.stop [] 300 [.t false] (fun h=>by cases h)
  (Ro (Ai hlt tI))
abbrev qs7 (n:Nat) (s:List Pt) (td:Int) (tn:Int) (vs:List Value) (z:Int):HpL:=[(3,0,.pv (iV 0)),(3,1,.pv (.slice none 0 0)),(4,0,.pv (iV (z))),(4,1,.ls 5 n),(6,0,.ls 5 n),(6,1,.ls 0 s.length),(6,2,.pv (iV tn)),(6,3,.pv (iV td)),(0,0,qah s),(5,0,.row 26 3 n (vs))]
theorem qjP {y z tn td:Int} {s:List Pt} {k n:Nat} {vs:List Value} {vs2:List Value} (hlt:decide ((k:Int)<(n:Int))=true) (hj:FnO Try.prog 62 1 2 [.ag [.ls 1 n,.ls 0 s.length,.pv (iV tn),.pv (iV td)],.pv (iV (z)),.pv (iV (k:Int))] [(0,0,qah s),(1,0,.row 26 3 n (vs))] (.pv (iV (y))) 0 [(1,0,.row 26 3 n (vs2))]) (hs:iV (IntKind.i64.wrap ((k:Int)+1))=iV (((k+1:Nat):Int))) {e:Exit} {tm2:TmL} {hp2:HpL}
 (r:Rl 1 1 51 1 47 7 ([(4,.pp 3 0),(5,.pp 4 0),(8,.pp 6 0),(35,.pv (iV (n:Int))),(36,.pv (iV ((k+1:Nat):Int)))]) ([(3,0,.pv (iV 0)),(3,1,.pv (.slice none 0 0)),(4,0,.pv (iV (y))),(4,1,.ls 5 n),(6,0,.ls 5 n),(6,1,.ls 0 s.length),(6,2,.pv (iV tn)),(6,3,.pv (iV td)),(0,0,qah s),(5,0,.row 26 3 n (vs2))]) e tm2 hp2):Rl 1 1 51 1 47 7 ([(4,.pp 3 0),(5,.pp 4 0),(8,.pp 6 0),(35,.pv (iV (n:Int))),(36,.pv (iV (k:Int)))]) (qs7 n s td tn vs z) e tm2 hp2:=
 RunsL.next [] 300 [.t true,.fo 1 [0,5] [.ag [.ls 1 n,.ls 0 s.length,.pv (iV tn),.pv (iV td)],.pv (iV (z)),.pv (iV (k:Int))] [(0,0,qah s),(1,0,.row 26 3 n (vs))] (.pv (iV (y))) 0 [(1,0,.row 26 3 n (vs2))],Re hs]
  (Ro (Ai hlt (Ai hj (Ai (Eq.refl (List.map (SV.ren (qar [0,5] 7)) [.ag [.ls 1 n,.ls 0 s.length,.pv (iV tn),.pv (iV td)],.pv (iV (z)),.pv (iV (k:Int))])) (Ai (qam (qar [0,5] 7) [(0,0,qah s),(1,0,.row 26 3 n (vs))]) (Ai hs tI)))))) r
theorem qmz {z tn td:Int} {s:List Pt} {k n:Nat} {vs:List Value} (hlt:decide ((k:Int)<(n:Int))=false):Rl 1 1 51 1 47 7 ([(4,.pp 3 0),(5,.pp 4 0),(8,.pp 6 0),(35,.pv (iV (n:Int))),(36,.pv (iV (k:Int)))]) (qs7 n s td tn vs z) (.exit 2) ([(4,.pp 3 0),(5,.pp 4 0)]) ([(3,0,.pv (iV 0)),(3,1,.pv (.slice none 0 0)),(4,0,.pv (iV (z))),(4,1,.ls 5 n),(5,0,.row 26 3 n (vs))]):=
 RunsL.stop [] 300 [.t false] (fun h=>by cases h)
  (Ro (Ai hlt tI))
theorem qqi {z tn td:Int} {s:List Pt} {n:Nat} {vs:List Value} {vs2:List Value} (r0:Rl 1 1 51 0 47 6 ([(2,.pp 1 0),(3,.pp 2 0),(4,.pp 3 0),(5,.pp 4 0),(12,.ls 0 s.length),(13,.pv (iV (s.length:Int))),(14,.pv (iV ((0:Nat):Int)))]) ([(1,0,.ls 0 s.length),(2,0,.pv (iV tn)),(2,1,.pv (iV td)),(3,0,.pv (iV 0)),(3,1,.pv (.slice none 0 0)),(4,0,.pv (iV (-1))),(4,1,.ls 5 0),(0,0,qah s),(5,0,.row 26 3 0 ([]))]) (.exit 0) ([(2,.pp 1 0),(3,.pp 2 0),(4,.pp 3 0),(5,.pp 4 0)]) ([(1,0,.ls 0 s.length),(2,0,.pv (iV tn)),(2,1,.pv (iV td)),(3,0,.pv (iV 0)),(3,1,.pv (.slice none 0 0)),(4,0,.pv (iV (-1))),(4,1,.ls 5 n),(0,0,qah s),(5,0,.row 26 3 n (vs2))])) (rr1:Rl 1 1 51 1 47 7 ([(4,.pp 3 0),(5,.pp 4 0),(8,.pp 6 0),(35,.pv (iV (n:Int))),(36,.pv (iV ((0:Nat):Int)))]) ([(3,0,.pv (iV 0)),(3,1,.pv (.slice none 0 0)),(4,0,.pv (iV (-1))),(4,1,.ls 5 n),(6,0,.ls 5 n),(6,1,.ls 0 s.length),(6,2,.pv (iV tn)),(6,3,.pv (iV td)),(0,0,qah s),(5,0,.row 26 3 n (vs2))]) (.exit 2) ([(4,.pp 3 0),(5,.pp 4 0)]) ([(3,0,.pv (iV 0)),(3,1,.pv (.slice none 0 0)),(4,0,.pv (iV (z))),(4,1,.ls 5 n),(5,0,.row 26 3 n (vs))])) :
 Fn 51 1 [qay 0 s,.pv (qaa tn td)] [(0,0,qah s)] (.ag [.pv (iV z),.ls 1 n]) 1 [(1,0,.row 26 3 n (vs))]:=
 Fz [(1,5)] [.ln false 4 1 26 3,Lf r0,Lf rr1]
  (qam (qaF [(1,5)]) [(1,0,.row 26 3 n (vs))]) (Lo r0 [] (Lo rr1 [] tI))
theorem qro {tn td e1:Int} {s:List Pt} {e2:Int} (h1:Fn 47 1 [qay 0 s] [(0,0,qah s)] (.pv (iV (e1))) 0 []) (h2:Pure Try.prog 48 #[qaa tn td] (iV (e2))) (he:(e1 !=0)=true) :
 Fn 18 1 [qay 0 s,.pv (qaa tn td)] [(0,0,qah s)] (.pv (.tuple #[.agg #[iV 0,.slice none 0 0],iV (e1)])) 0 []:=
 Fz [] [.md,Cf h1 [0],Rf h2,.k,.k,.t true,.t true]
  tI (Co h1 [0] 4 (Ai h2 (Ai he (Ai he tI))))
theorem qss {tn td:Int} {s:List Pt} {e2:Int} (h1:Fn 47 1 [qay 0 s] [(0,0,qah s)] (.pv (iV (0))) 0 []) (h2:Pure Try.prog 48 #[qaa tn td] (iV (e2))) (he:(e2 !=0)=true) :
 Fn 18 1 [qay 0 s,.pv (qaa tn td)] [(0,0,qah s)] (.pv (.tuple #[.agg #[iV 0,.slice none 0 0],iV (e2)])) 0 []:=
 Fz [] [.md,Cf h1 [0],Rf h2,.k,.k,.k,.k,.k,.t true,.t true]
  tI (Co h1 [0] 4 (Ai h2 (Ai he (Ai he tI))))
theorem qpN {tn td:Int} {s n1:List Pt} {r1:Int} (h1:Fn 47 1 [qay 0 s] [(0,0,qah s)] (.pv (iV (0))) 0 []) (h2:Pure Try.prog 48 #[qaa tn td] (iV (0))) (hg:Fn 51 1 [qay 0 s,.pv (qaa tn td)] [(0,0,qah s)] (.ag [.pv (iV r1),.ls 1 n1.length]) 1 [(1,0,qae n1)]) :
 Fn 18 1 [qay 0 s,.pv (qaa tn td)] [(0,0,qah s)] (.tu [.ag [.pv (iV r1),.ls 1 n1.length],.one (.pv (iV 0))]) 1 [(1,0,qae n1)]:=
 Fz [(1,5)] [.md,Cf h1 [0],Rf h2,.k,.k,.k,.k,.k,.k,.k,.k,.k,Cf hg [0]]
  (qam (qaF [(1,5)]) [(1,0,qae n1)]) (Co h1 [0] 4 (Ai h2 (Co hg [0] 5 tI)))
theorem qr0 {rt z e1:Int} {l:List Pt} (hc:Fn 17 1 [trS 0 rt l] [(0,0,qae l)] (.pv (iV (e1))) 0 []) (hce:(e1 !=0)=true) :
 Fn 12 1 [trS 0 rt l,.pv (iV (z))] [(0,0,qae l)] (.pv (.tuple #[iV (0),iV (e1)])) 0 []:=
 Fz [] [Cf hc [0],.t true]
  tI (Co hc [0] 2 (Ai hce tI))
abbrev qmV (l:List Pt) (rt:Int):HpL:=[(1,0,.pv (iV rt)),(1,1,.ls 0 l.length),(0,0,qae l)]
abbrev qrP (k:Nat) (y:Int) (z:Int):TmL:=[(1,.pv (iV z)),(2,.pp 1 0),(7,.pv (iV (y))),(8,.pv (iV (k:Int)))]
theorem qqO {rt y z:Int} {l:List Pt} {p:Pt} {k:Nat} (hne:(y !=(-1))=true) (hin:0≤y∧y<(l.length:Int)) (hk:l[y.toNat]?=some p) (h1:decide (z<p.id)=true) (hs:iV (IntKind.i64.wrap ((k:Int)+1))=iV (((k+1:Nat):Int))) {e:Exit} {tm2:TmL} {hp2:HpL}
 (r:Rl 1 1 12 0 41 2 ([(1,.pv (iV z)),(2,.pp 1 0),(7,.pv (iV (p.a))),(8,.pv (iV ((k+1:Nat):Int)))]) (qmV l rt) e tm2 hp2):Rl 1 1 12 0 41 2 (qrP k y z) (qmV l rt) e tm2 hp2:=
 RunsL.next [] 300 [.t true,.r (ptV p),.t true,Re hs]
  (Ro (Ai hne (Ai hin (Ai (qcs hk) (Ai h1 (Ai hs tI)))))) r
theorem qri {rt y z:Int} {l:List Pt} {p:Pt} {k:Nat} (hne:(y !=(-1))=true) (hin:0≤y∧y<(l.length:Int)) (hk:l[y.toNat]?=some p) (h1:decide (z<p.id)=false) (h2:decide (z>p.id)=true) (hs:iV (IntKind.i64.wrap ((k:Int)+1))=iV (((k+1:Nat):Int))) {e:Exit} {tm2:TmL} {hp2:HpL}
 (r:Rl 1 1 12 0 41 2 ([(1,.pv (iV z)),(2,.pp 1 0),(7,.pv (iV (p.b))),(8,.pv (iV ((k+1:Nat):Int)))]) (qmV l rt) e tm2 hp2):Rl 1 1 12 0 41 2 (qrP k y z) (qmV l rt) e tm2 hp2:=
 RunsL.next [] 300 [.t true,.r (ptV p),.t false,.t true,Re hs]
  (Ro (Ai hne (Ai hin (Ai (qcs hk) (Ai h1 (Ai h2 (Ai hs tI))))))) r
theorem qnY {rt y z:Int} {l:List Pt} {p:Pt} {k:Nat} (hne:(y !=(-1))=true) (hin:0≤y∧y<(l.length:Int)) (hk:l[y.toNat]?=some p) (h1:decide (z<p.id)=false) (h2:decide (z>p.id)=false):Rl 1 1 12 0 41 2 (qrP k y z) (qmV l rt) (.ret) ([(4,.pv (iV (k:Int))),(5,.pv (iV 0))]) ([]):=
 RunsL.stop [] 300 [.t true,.r (ptV p),.t false,.t false] (fun h=>by cases h)
  (Ro (Ai hne (Ai hin (Ai (qcs hk) (Ai h1 (Ai h2 tI))))))
theorem qni {rt y z:Int} {l:List Pt} {k:Nat} (hne:(y !=(-1))=false):Rl 1 1 12 0 41 2 (qrP k y z) (qmV l rt) (.exit 0) ([]) ([]):=
 RunsL.stop [] 300 [.t false] (fun h=>by cases h)
  (Ro (Ai hne tI))
theorem qqs {rt z e1:Int} {l:List Pt} (hc:Fn 17 1 [trS 0 rt l] [(0,0,qae l)] (.pv (iV (e1))) 0 []) (hce:(e1 !=0)=false) (r0:Rl 1 1 12 0 41 2 ([(1,.pv (iV z)),(2,.pp 1 0),(7,.pv (iV (rt))),(8,.pv (iV ((0:Nat):Int)))]) (qmV l rt) (.exit 0) ([]) ([])) :
 Fn 12 1 [trS 0 rt l,.pv (iV (z))] [(0,0,qae l)] (.pv (.tuple #[iV (0),iV (6)])) 0 []:=
 Fz [] [Cf hc [0],.t false,Lf r0]
  tI (Co hc [0] 2 (Ai hce (Lo r0 [] tI)))
theorem qpM {rt z e1:Int} {l:List Pt} {k:Nat} (hc:Fn 17 1 [trS 0 rt l] [(0,0,qae l)] (.pv (iV (e1))) 0 []) (hce:(e1 !=0)=false) (r0:Rl 1 1 12 0 41 2 ([(1,.pv (iV z)),(2,.pp 1 0),(7,.pv (iV (rt))),(8,.pv (iV ((0:Nat):Int)))]) (qmV l rt) (.ret) ([(4,.pv (iV (k:Int))),(5,.pv (iV 0))]) ([])) :
 Fn 12 1 [trS 0 rt l,.pv (iV (z))] [(0,0,qae l)] (.pv (.tuple #[iV (k:Int),iV (0)])) 0 []:=
 Fz [] [Cf hc [0],.t false,Lf r0]
  tI (Co hc [0] 2 (Ai hce (Lo r0 [] tI)))
theorem qqw {rt y z v:Int} {l n1 n2:List Pt} {n:Nat} {p1 p2:Pt} {x1 y1:Int} (h1:Fn 17 1 [trS 0 rt l] [(0,0,qae l)] (.pv (iV (0))) 0 []) (h2:Fn 52 1 [.ls 0 l.length] [(0,0,qae l)] (.pv (iV (0))) 0 []) (hcl:Fn 53 1 [.ls 0 l.length] [(0,0,qae l)] (.ls 1 l.length) 1 [(1,0,qae l)]) (hp:FnO Try.prog 54 0 1 [.ls 0 l.length,.pv (iV (rt)),.pv (iV (z))] [(0,0,.row 26 3 l.length (qaq l))] (.pv (.tuple #[iV (x1),iV (y1)])) 0 [(0,0,.row 26 3 l.length (qaq n1))]) (hle:Fn 55 1 [.ls 0 l.length,.pv (iV (z))] [(0,0,.row 26 3 l.length (qaq n1))] (.pv (iV (n:Int))) 0 []) (t1:True) (p0:0≤(n:Int)) (p1:0≤n) (p2:n≤l.length) (hn1:iV (IntKind.i64.wrap (0-(n:Int)))=iV (v)) (hfu:Pure Try.prog 57 #[iV (y1),iV (v)] (iV (y))) (hn2:iV (IntKind.i64.wrap (0-(n:Int)))=iV (v)) (hsh:Fn 58 1 [.lq 0 3 (0+n) (l.length-n),.pv (iV (v))] [(0,0,.row 26 3 l.length (qaq n1))] (.ls 1 n2.length) 1 [(1,0,qae n2)]) :
 Fn 13 1 [trS 0 rt l,.pv (iV (z))] [(0,0,qae l)] (.tu [.ag [.pv (iV x1),.lq 1 3 0 n],.ag [.pv (iV y),.ls 2 n2.length],.one (.pv (iV 0))]) 2 [(1,0,.row 26 3 l.length (qaq n1)),(2,0,qae n2)]:=
 Fz [(1,5),(2,6)] [.md,Cf h1 [0],Cf h2 [0],.k,.k,.k,.k,.k,.k,.k,.k,.k,Cf hcl [0],.fo 0 [5] [.ls 0 l.length,.pv (iV (rt)),.pv (iV (z))] [(0,0,.row 26 3 l.length (qaq l))] (.pv (.tuple #[iV (x1),iV (y1)])) 0 [(0,0,.row 26 3 l.length (qaq n1))],Cf hle [5],.k,.k,.md,Re hn1,Rf hfu,.k,Re hn1,Cf hsh [5]]
  (qam (qaF [(1,5),(2,6)]) [(1,0,.row 26 3 l.length (qaq n1)),(2,0,qae n2)]) (Co h1 [0] 4 (Co h2 [0] 4 (Co hcl [0] 5 (Ai hp (Ai (Eq.refl (List.map (SV.ren (qar [5] 6)) [.ls 0 l.length,.pv (iV (rt)),.pv (iV (z))])) (Ai (qam (qar [5] 6) [(0,0,.row 26 3 l.length (qaq l))]) (Co hle [5] 6 (Ai t1 (Ai p0 (Ai p1 (Ai p2 (Ai t1 (Ai p0 (Ai p0 (Ai p1 (Ai (Nat.le_refl n) (Ai (Nat.le_refl n) (Ai hn1 (Ai hfu (Ai p0 (Ai t1 (Ai p2 (Ai (Nat.le_refl l.length) (Ai hn2 (Co hsh [5] 6 tI)))))))))))))))))))))))))
end Go.Proofs.Ytalnjplghagbpaa
