/-
  Joined: Da, Db, Wa, Ea, Dd, De. Conditions: none.
-/
import Derived.Test.YtalnjplghagbpaaW28
import Derived.Test.YtalnjplghagbpaaSxJ
import Derived.Test.YtalnjplghagbpaaW19
import Derived.Test.YtalnjplghagbpaaW27
import Derived.Test.YtalnjplghagbpaaW23
namespace Go.Proofs.Ytalnjplghagbpaa
set_option maxRecDepth 100000
open Go.RowKit
theorem qc8 {rt z:Int} {l:List Pt} {n:Nat} {vs:List Value} (h0:decide (z<0)=true) :
 FnO Try.prog 96 1 2 [trS 0 rt l,.pv (iV (z)),.ls 1 n] [(0,0,qaa l),(1,0,.row 3 1 n (vs))] (.ls 1 n) 0 [(1,0,.row 3 1 n (vs))]:=
 qaI 300 [] [.t true]
  (qai (qaB []) [(1,0,.row 3 1 n (vs))]) (Ai h0 tI) (by kernel_rfl)
theorem qg1 {rt z:Int} {l:List Pt} (h0:decide (z<0)=true) :
 Fn 96 1 [trS 0 rt l,.pv (iV (z)),.pv (.slice none 0 0)] [(0,0,qaa l)] (.pv (.slice none 0 0)) 0 []:=
 Fz [] [.t true]
  tI (Ai h0 tI)
abbrev qiY (c1:List Int) (l:List Pt) (z:Int):HpL:=[(0,0,qaa l),(1,0,.row 3 1 (c1.length+1) (ziV c1++[iV z]))]
theorem qr4 {rt z:Int} {l:List Pt} {p:Pt} {g c1 c2:List Int} (h0:decide (z<0)=false) (h1:decide (((g.length:Int):Int)>(l.length:Int))=false) (hk:l[z.toNat]?=some p) (hin:0≤z∧z<(l.length:Int)) (hl:FnO Try.prog 96 1 2 [trS 0 rt l,.pv (iV (p.a)),.ls 1 g.length] [(0,0,qaa l),(1,0,.row 3 1 g.length (ziV g))] (.ls 2 c1.length) 1 [(2,0,zrI c1)]) (hn:c1.length+1≤1000000) (hr:FnO Try.prog 96 1 2 [trS 0 rt l,.pv (iV (p.b)),.ls 1 (c1.length+1)] (qiY c1 l z) (.ls 2 c2.length) 1 [(2,0,zrI c2)]) :
 FnO Try.prog 96 1 2 [trS 0 rt l,.pv (iV (z)),.ls 1 g.length] [(0,0,qaa l),(1,0,zrI g)] (.ls 2 c2.length) 1 [(2,0,.row 3 1 c2.length (ziV c2))]:=
 qaI 300 [(2,6)] [.t false,.t false,.gh [(2,0),(2,1)],.r (iV p.a),.fo 1 [0,1] [trS 0 rt l,.pv (iV (p.a)),.ls 1 g.length] [(0,0,qaa l),(1,0,.row 3 1 g.length (ziV g))] (.ls 2 c1.length) 1 [(2,0,zrI c1)],.gh [(2,0),(2,1)],.r (iV p.b),.fo 1 [0,5] [trS 0 rt l,.pv (iV (p.b)),.ls 1 (c1.length+1)] (qiY c1 l z) (.ls 2 c2.length) 1 [(2,0,zrI c2)]]
  (qai (qaB [(2,6)]) [(2,0,.row 3 1 c2.length (ziV c2))]) (Ai h0 (Ai h1 (Ai (Er (SV.pv (iV rt))) (Ai (Er (SV.ls 0 l.length)) (Ai hin (Ai (Er (SV.pv (iV rt))) (Ai (Er (SV.ls 0 l.length)) (Ai (Er (SV.pv (iV rt))) (Ai (Er (SV.ls 0 l.length)) (Ai (qbX hk) (Ai (Er (SV.pv (iV rt))) (Ai (Er (SV.ls 0 l.length)) (Ai hl (Ai (Eq.refl (List.map (SV.ren (qau [0,1] 3)) [trS 0 rt l,.pv (iV (p.a)),.ls 1 g.length])) (Ai (qai (qau [0,1] 3) [(0,0,qaa l),(1,0,.row 3 1 g.length (ziV g))]) (Ai (Er (SV.pv (iV rt))) (Ai (Er (SV.ls 0 l.length)) (Ai (Er (SV.pv (iV rt))) (Ai (Er (SV.ls 0 l.length)) (Ai hn (Ai (Er (SV.pv (iV rt))) (Ai (Er (SV.ls 0 l.length)) (Ai hin (Ai (Er (SV.pv (iV rt))) (Ai (Er (SV.ls 0 l.length)) (Ai (Er (SV.pv (iV rt))) (Ai (Er (SV.ls 0 l.length)) (Ai (qcf hk) (Ai (Er (SV.pv (iV rt))) (Ai (Er (SV.ls 0 l.length)) (Ai hr (Ai (Eq.refl (List.map (SV.ren (qau [0,5] 6)) [trS 0 rt l,.pv (iV (p.b)),.ls 1 (c1.length+1)])) (Ai (qai (qau [0,5] 6) (qiY c1 l z)) (Ai (Er (SV.pv (iV rt))) (Ai (Er (SV.ls 0 l.length)) (Ai (Er (SV.pv (iV rt))) (Ai (Er (SV.ls 0 l.length)) tI))))))))))))))))))))))))))))))))))))) (by kernel_rfl)
theorem qsi {rt z:Int} {l:List Pt} {p:Pt} {g c1:List Int} (h0:decide (z<0)=false) (h1:decide (((g.length:Int):Int)>(l.length:Int))=false) (hk:l[z.toNat]?=some p) (hin:0≤z∧z<(l.length:Int)) (hl:FnO Try.prog 96 1 2 [trS 0 rt l,.pv (iV (p.a)),.ls 1 g.length] [(0,0,qaa l),(1,0,.row 3 1 g.length (ziV g))] (.ls 2 c1.length) 1 [(2,0,zrI c1)]) (hn:c1.length+1≤1000000) (hr:FnO Try.prog 96 1 2 [trS 0 rt l,.pv (iV (p.b)),.ls 1 (c1.length+1)] (qiY c1 l z) (.ls 1 (c1.length+1)) 0 [(1,0,.row 3 1 (c1.length+1) (ziV c1++[iV z]))]) :
 FnO Try.prog 96 1 2 [trS 0 rt l,.pv (iV (z)),.ls 1 g.length] [(0,0,qaa l),(1,0,zrI g)] (.ls 2 (c1.length+1)) 1 [(2,0,.row 3 1 (c1.length+1) (ziV c1++[iV z]))]:=
 qaI 300 [(2,5)] [.t false,.t false,.gh [(2,0),(2,1)],.r (iV p.a),.fo 1 [0,1] [trS 0 rt l,.pv (iV (p.a)),.ls 1 g.length] [(0,0,qaa l),(1,0,.row 3 1 g.length (ziV g))] (.ls 2 c1.length) 1 [(2,0,zrI c1)],.gh [(2,0),(2,1)],.r (iV p.b),.fo 1 [0,5] [trS 0 rt l,.pv (iV (p.b)),.ls 1 (c1.length+1)] (qiY c1 l z) (.ls 1 (c1.length+1)) 0 [(1,0,.row 3 1 (c1.length+1) (ziV c1++[iV z]))]]
  (qai (qaB [(2,5)]) [(2,0,.row 3 1 (c1.length+1) (ziV c1++[iV z]))]) (Ai h0 (Ai h1 (Ai (Er (SV.pv (iV rt))) (Ai (Er (SV.ls 0 l.length)) (Ai hin (Ai (Er (SV.pv (iV rt))) (Ai (Er (SV.ls 0 l.length)) (Ai (Er (SV.pv (iV rt))) (Ai (Er (SV.ls 0 l.length)) (Ai (qbX hk) (Ai (Er (SV.pv (iV rt))) (Ai (Er (SV.ls 0 l.length)) (Ai hl (Ai (Eq.refl (List.map (SV.ren (qau [0,1] 3)) [trS 0 rt l,.pv (iV (p.a)),.ls 1 g.length])) (Ai (qai (qau [0,1] 3) [(0,0,qaa l),(1,0,.row 3 1 g.length (ziV g))]) (Ai (Er (SV.pv (iV rt))) (Ai (Er (SV.ls 0 l.length)) (Ai (Er (SV.pv (iV rt))) (Ai (Er (SV.ls 0 l.length)) (Ai hn (Ai (Er (SV.pv (iV rt))) (Ai (Er (SV.ls 0 l.length)) (Ai hin (Ai (Er (SV.pv (iV rt))) (Ai (Er (SV.ls 0 l.length)) (Ai (Er (SV.pv (iV rt))) (Ai (Er (SV.ls 0 l.length)) (Ai (qcf hk) (Ai (Er (SV.pv (iV rt))) (Ai (Er (SV.ls 0 l.length)) (Ai hr (Ai (Eq.refl (List.map (SV.ren (qau [0,5] 6)) [trS 0 rt l,.pv (iV (p.b)),.ls 1 (c1.length+1)])) (Ai (qai (qau [0,5] 6) (qiY c1 l z)) (Ai (Er (SV.pv (iV rt))) (Ai (Er (SV.ls 0 l.length)) (Ai (Er (SV.pv (iV rt))) (Ai (Er (SV.ls 0 l.length)) tI))))))))))))))))))))))))))))))))))))) (by kernel_rfl)
theorem qrj {rt z:Int} {l:List Pt} {p:Pt} {g c2:List Int} (h0:decide (z<0)=false) (h1:decide (((g.length:Int):Int)>(l.length:Int))=false) (hk:l[z.toNat]?=some p) (hin:0≤z∧z<(l.length:Int)) (hl:FnO Try.prog 96 1 2 [trS 0 rt l,.pv (iV (p.a)),.ls 1 g.length] [(0,0,qaa l),(1,0,.row 3 1 g.length (ziV g))] (.ls 1 g.length) 0 [(1,0,.row 3 1 g.length (ziV g))]) (hn:g.length+1≤1000000) (hr:FnO Try.prog 96 1 2 [trS 0 rt l,.pv (iV (p.b)),.ls 1 (g.length+1)] [(0,0,qaa l),(1,0,.row 3 1 (g.length+1) (ziV g++[iV z]))] (.ls 2 c2.length) 1 [(2,0,zrI c2)]) :
 FnO Try.prog 96 1 2 [trS 0 rt l,.pv (iV (z)),.ls 1 g.length] [(0,0,qaa l),(1,0,zrI g)] (.ls 2 c2.length) 1 [(2,0,.row 3 1 c2.length (ziV c2))]:=
 qaI 300 [(2,5)] [.t false,.t false,.gh [(2,0),(2,1)],.r (iV p.a),.fo 1 [0,1] [trS 0 rt l,.pv (iV (p.a)),.ls 1 g.length] [(0,0,qaa l),(1,0,.row 3 1 g.length (ziV g))] (.ls 1 g.length) 0 [(1,0,.row 3 1 g.length (ziV g))],.gh [(2,0),(2,1)],.r (iV p.b),.fo 1 [0,4] [trS 0 rt l,.pv (iV (p.b)),.ls 1 (g.length+1)] [(0,0,qaa l),(1,0,.row 3 1 (g.length+1) (ziV g++[iV z]))] (.ls 2 c2.length) 1 [(2,0,zrI c2)]]
  (qai (qaB [(2,5)]) [(2,0,.row 3 1 c2.length (ziV c2))]) (Ai h0 (Ai h1 (Ai (Er (SV.pv (iV rt))) (Ai (Er (SV.ls 0 l.length)) (Ai hin (Ai (Er (SV.pv (iV rt))) (Ai (Er (SV.ls 0 l.length)) (Ai (Er (SV.pv (iV rt))) (Ai (Er (SV.ls 0 l.length)) (Ai (qbX hk) (Ai (Er (SV.pv (iV rt))) (Ai (Er (SV.ls 0 l.length)) (Ai hl (Ai (Eq.refl (List.map (SV.ren (qau [0,1] 3)) [trS 0 rt l,.pv (iV (p.a)),.ls 1 g.length])) (Ai (qai (qau [0,1] 3) [(0,0,qaa l),(1,0,.row 3 1 g.length (ziV g))]) (Ai (Er (SV.pv (iV rt))) (Ai (Er (SV.ls 0 l.length)) (Ai (Er (SV.pv (iV rt))) (Ai (Er (SV.ls 0 l.length)) (Ai hn (Ai (Er (SV.pv (iV rt))) (Ai (Er (SV.ls 0 l.length)) (Ai hin (Ai (Er (SV.pv (iV rt))) (Ai (Er (SV.ls 0 l.length)) (Ai (Er (SV.pv (iV rt))) (Ai (Er (SV.ls 0 l.length)) (Ai (qcf hk) (Ai (Er (SV.pv (iV rt))) (Ai (Er (SV.ls 0 l.length)) (Ai hr (Ai (Eq.refl (List.map (SV.ren (qau [0,4] 5)) [trS 0 rt l,.pv (iV (p.b)),.ls 1 (g.length+1)])) (Ai (qai (qau [0,4] 5) [(0,0,qaa l),(1,0,.row 3 1 (g.length+1) (ziV g++[iV z]))]) (Ai (Er (SV.pv (iV rt))) (Ai (Er (SV.ls 0 l.length)) (Ai (Er (SV.pv (iV rt))) (Ai (Er (SV.ls 0 l.length)) tI))))))))))))))))))))))))))))))))))))) (by kernel_rfl)
theorem qrq {rt z:Int} {l:List Pt} {p:Pt} {g:List Int} (h0:decide (z<0)=false) (h1:decide (((g.length:Int):Int)>(l.length:Int))=false) (hk:l[z.toNat]?=some p) (hin:0≤z∧z<(l.length:Int)) (hl:FnO Try.prog 96 1 2 [trS 0 rt l,.pv (iV (p.a)),.ls 1 g.length] [(0,0,qaa l),(1,0,.row 3 1 g.length (ziV g))] (.ls 1 g.length) 0 [(1,0,.row 3 1 g.length (ziV g))]) (hn:g.length+1≤1000000) (hr:FnO Try.prog 96 1 2 [trS 0 rt l,.pv (iV (p.b)),.ls 1 (g.length+1)] [(0,0,qaa l),(1,0,.row 3 1 (g.length+1) (ziV g++[iV z]))] (.ls 1 (g.length+1)) 0 [(1,0,.row 3 1 (g.length+1) (ziV g++[iV z]))]) :
 FnO Try.prog 96 1 2 [trS 0 rt l,.pv (iV (z)),.ls 1 g.length] [(0,0,qaa l),(1,0,zrI g)] (.ls 2 (g.length+1)) 1 [(2,0,.row 3 1 (g.length+1) (ziV g++[iV z]))]:=
 qaI 300 [(2,4)] [.t false,.t false,.gh [(2,0),(2,1)],.r (iV p.a),.fo 1 [0,1] [trS 0 rt l,.pv (iV (p.a)),.ls 1 g.length] [(0,0,qaa l),(1,0,.row 3 1 g.length (ziV g))] (.ls 1 g.length) 0 [(1,0,.row 3 1 g.length (ziV g))],.gh [(2,0),(2,1)],.r (iV p.b),.fo 1 [0,4] [trS 0 rt l,.pv (iV (p.b)),.ls 1 (g.length+1)] [(0,0,qaa l),(1,0,.row 3 1 (g.length+1) (ziV g++[iV z]))] (.ls 1 (g.length+1)) 0 [(1,0,.row 3 1 (g.length+1) (ziV g++[iV z]))]]
  (qai (qaB [(2,4)]) [(2,0,.row 3 1 (g.length+1) (ziV g++[iV z]))]) (Ai h0 (Ai h1 (Ai (Er (SV.pv (iV rt))) (Ai (Er (SV.ls 0 l.length)) (Ai hin (Ai (Er (SV.pv (iV rt))) (Ai (Er (SV.ls 0 l.length)) (Ai (Er (SV.pv (iV rt))) (Ai (Er (SV.ls 0 l.length)) (Ai (qbX hk) (Ai (Er (SV.pv (iV rt))) (Ai (Er (SV.ls 0 l.length)) (Ai hl (Ai (Eq.refl (List.map (SV.ren (qau [0,1] 3)) [trS 0 rt l,.pv (iV (p.a)),.ls 1 g.length])) (Ai (qai (qau [0,1] 3) [(0,0,qaa l),(1,0,.row 3 1 g.length (ziV g))]) (Ai (Er (SV.pv (iV rt))) (Ai (Er (SV.ls 0 l.length)) (Ai (Er (SV.pv (iV rt))) (Ai (Er (SV.ls 0 l.length)) (Ai hn (Ai (Er (SV.pv (iV rt))) (Ai (Er (SV.ls 0 l.length)) (Ai hin (Ai (Er (SV.pv (iV rt))) (Ai (Er (SV.ls 0 l.length)) (Ai (Er (SV.pv (iV rt))) (Ai (Er (SV.ls 0 l.length)) (Ai (qcf hk) (Ai (Er (SV.pv (iV rt))) (Ai (Er (SV.ls 0 l.length)) (Ai hr (Ai (Eq.refl (List.map (SV.ren (qau [0,4] 5)) [trS 0 rt l,.pv (iV (p.b)),.ls 1 (g.length+1)])) (Ai (qai (qau [0,4] 5) [(0,0,qaa l),(1,0,.row 3 1 (g.length+1) (ziV g++[iV z]))]) (Ai (Er (SV.pv (iV rt))) (Ai (Er (SV.ls 0 l.length)) (Ai (Er (SV.pv (iV rt))) (Ai (Er (SV.ls 0 l.length)) tI))))))))))))))))))))))))))))))))))))) (by kernel_rfl)
theorem qrF {rt z:Int} {l:List Pt} {p:Pt} {c1 c2:List Int} (h0:decide (z<0)=false) (h1:decide ((0:Int)>(l.length:Int))=false) (hk:l[z.toNat]?=some p) (hin:0≤z∧z<(l.length:Int)) (hl:FnO Try.prog 96 1 2 [trS 0 rt l,.pv (iV (p.a)),.ls 1 0] [(0,0,qaa l),(1,0,.row 3 1 0 ([]))] (.ls 2 c1.length) 1 [(2,0,zrI c1)]) (hn:c1.length+1≤1000000) (hr:FnO Try.prog 96 1 2 [trS 0 rt l,.pv (iV (p.b)),.ls 1 (c1.length+1)] (qiY c1 l z) (.ls 2 c2.length) 1 [(2,0,zrI c2)]) :
 Fn 96 1 [trS 0 rt l,.pv (iV (z)),.pv (.slice none 0 0)] [(0,0,qaa l)] (.ls 1 c2.length) 1 [(1,0,.row 3 1 c2.length (ziV c2))]:=
 Fz [(1,6)] [.lz true 2 0 3 1,.t false,.t false,.gh [(2,0),(2,1)],.r (iV p.a),.fo 1 [0,1] [trS 0 rt l,.pv (iV (p.a)),.ls 1 0] [(0,0,qaa l),(1,0,.row 3 1 0 ([]))] (.ls 2 c1.length) 1 [(2,0,zrI c1)],.gh [(2,0),(2,1)],.r (iV p.b),.fo 1 [0,5] [trS 0 rt l,.pv (iV (p.b)),.ls 1 (c1.length+1)] (qiY c1 l z) (.ls 2 c2.length) 1 [(2,0,zrI c2)]]
  (qai (qaB [(1,6)]) [(1,0,.row 3 1 c2.length (ziV c2))]) (Ai h0 (Ai h1 (Ai (Er (SV.pv (iV rt))) (Ai (Er (SV.ls 0 l.length)) (Ai hin (Ai (Er (SV.pv (iV rt))) (Ai (Er (SV.ls 0 l.length)) (Ai (Er (SV.pv (iV rt))) (Ai (Er (SV.ls 0 l.length)) (Ai (qbX hk) (Ai (Er (SV.pv (iV rt))) (Ai (Er (SV.ls 0 l.length)) (Ai hl (Ai (Eq.refl (List.map (SV.ren (qau [0,1] 3)) [trS 0 rt l,.pv (iV (p.a)),.ls 1 0])) (Ai (qai (qau [0,1] 3) [(0,0,qaa l),(1,0,.row 3 1 0 ([]))]) (Ai (Er (SV.pv (iV rt))) (Ai (Er (SV.ls 0 l.length)) (Ai (Er (SV.pv (iV rt))) (Ai (Er (SV.ls 0 l.length)) (Ai hn (Ai (Er (SV.pv (iV rt))) (Ai (Er (SV.ls 0 l.length)) (Ai hin (Ai (Er (SV.pv (iV rt))) (Ai (Er (SV.ls 0 l.length)) (Ai (Er (SV.pv (iV rt))) (Ai (Er (SV.ls 0 l.length)) (Ai (qcf hk) (Ai (Er (SV.pv (iV rt))) (Ai (Er (SV.ls 0 l.length)) (Ai hr (Ai (Eq.refl (List.map (SV.ren (qau [0,5] 6)) [trS 0 rt l,.pv (iV (p.b)),.ls 1 (c1.length+1)])) (Ai (qai (qau [0,5] 6) (qiY c1 l z)) (Ai (Er (SV.pv (iV rt))) (Ai (Er (SV.ls 0 l.length)) (Ai (Er (SV.pv (iV rt))) (Ai (Er (SV.ls 0 l.length)) tI)))))))))))))))))))))))))))))))))))))
theorem qsU {rt z:Int} {l:List Pt} {p:Pt} {c1:List Int} (h0:decide (z<0)=false) (h1:decide ((0:Int)>(l.length:Int))=false) (hk:l[z.toNat]?=some p) (hin:0≤z∧z<(l.length:Int)) (hl:FnO Try.prog 96 1 2 [trS 0 rt l,.pv (iV (p.a)),.ls 1 0] [(0,0,qaa l),(1,0,.row 3 1 0 ([]))] (.ls 2 c1.length) 1 [(2,0,zrI c1)]) (hn:c1.length+1≤1000000) (hr:FnO Try.prog 96 1 2 [trS 0 rt l,.pv (iV (p.b)),.ls 1 (c1.length+1)] (qiY c1 l z) (.ls 1 (c1.length+1)) 0 [(1,0,.row 3 1 (c1.length+1) (ziV c1++[iV z]))]) :
 Fn 96 1 [trS 0 rt l,.pv (iV (z)),.pv (.slice none 0 0)] [(0,0,qaa l)] (.ls 1 (c1.length+1)) 1 [(1,0,.row 3 1 (c1.length+1) (ziV c1++[iV z]))]:=
 Fz [(1,5)] [.lz true 2 0 3 1,.t false,.t false,.gh [(2,0),(2,1)],.r (iV p.a),.fo 1 [0,1] [trS 0 rt l,.pv (iV (p.a)),.ls 1 0] [(0,0,qaa l),(1,0,.row 3 1 0 ([]))] (.ls 2 c1.length) 1 [(2,0,zrI c1)],.gh [(2,0),(2,1)],.r (iV p.b),.fo 1 [0,5] [trS 0 rt l,.pv (iV (p.b)),.ls 1 (c1.length+1)] (qiY c1 l z) (.ls 1 (c1.length+1)) 0 [(1,0,.row 3 1 (c1.length+1) (ziV c1++[iV z]))]]
  (qai (qaB [(1,5)]) [(1,0,.row 3 1 (c1.length+1) (ziV c1++[iV z]))]) (Ai h0 (Ai h1 (Ai (Er (SV.pv (iV rt))) (Ai (Er (SV.ls 0 l.length)) (Ai hin (Ai (Er (SV.pv (iV rt))) (Ai (Er (SV.ls 0 l.length)) (Ai (Er (SV.pv (iV rt))) (Ai (Er (SV.ls 0 l.length)) (Ai (qbX hk) (Ai (Er (SV.pv (iV rt))) (Ai (Er (SV.ls 0 l.length)) (Ai hl (Ai (Eq.refl (List.map (SV.ren (qau [0,1] 3)) [trS 0 rt l,.pv (iV (p.a)),.ls 1 0])) (Ai (qai (qau [0,1] 3) [(0,0,qaa l),(1,0,.row 3 1 0 ([]))]) (Ai (Er (SV.pv (iV rt))) (Ai (Er (SV.ls 0 l.length)) (Ai (Er (SV.pv (iV rt))) (Ai (Er (SV.ls 0 l.length)) (Ai hn (Ai (Er (SV.pv (iV rt))) (Ai (Er (SV.ls 0 l.length)) (Ai hin (Ai (Er (SV.pv (iV rt))) (Ai (Er (SV.ls 0 l.length)) (Ai (Er (SV.pv (iV rt))) (Ai (Er (SV.ls 0 l.length)) (Ai (qcf hk) (Ai (Er (SV.pv (iV rt))) (Ai (Er (SV.ls 0 l.length)) (Ai hr (Ai (Eq.refl (List.map (SV.ren (qau [0,5] 6)) [trS 0 rt l,.pv (iV (p.b)),.ls 1 (c1.length+1)])) (Ai (qai (qau [0,5] 6) (qiY c1 l z)) (Ai (Er (SV.pv (iV rt))) (Ai (Er (SV.ls 0 l.length)) (Ai (Er (SV.pv (iV rt))) (Ai (Er (SV.ls 0 l.length)) tI)))))))))))))))))))))))))))))))))))))
theorem qsz {rt z:Int} {l:List Pt} {p:Pt} {c2:List Int} (h0:decide (z<0)=false) (h1:decide ((0:Int)>(l.length:Int))=false) (hk:l[z.toNat]?=some p) (hin:0≤z∧z<(l.length:Int)) (hl:FnO Try.prog 96 1 2 [trS 0 rt l,.pv (iV (p.a)),.ls 1 0] [(0,0,qaa l),(1,0,.row 3 1 0 ([]))] (.ls 1 0) 0 [(1,0,.row 3 1 0 ([]))]) (hn:0+1≤1000000) (hr:FnO Try.prog 96 1 2 [trS 0 rt l,.pv (iV (p.b)),.ls 1 (0+1)] [(0,0,qaa l),(1,0,.row 3 1 (0+1) ([]++[iV z]))] (.ls 2 c2.length) 1 [(2,0,zrI c2)]) :
 Fn 96 1 [trS 0 rt l,.pv (iV (z)),.pv (.slice none 0 0)] [(0,0,qaa l)] (.ls 1 c2.length) 1 [(1,0,.row 3 1 c2.length (ziV c2))]:=
 Fz [(1,5)] [.lz true 2 0 3 1,.t false,.t false,.gh [(2,0),(2,1)],.r (iV p.a),.fo 1 [0,1] [trS 0 rt l,.pv (iV (p.a)),.ls 1 0] [(0,0,qaa l),(1,0,.row 3 1 0 ([]))] (.ls 1 0) 0 [(1,0,.row 3 1 0 ([]))],.gh [(2,0),(2,1)],.r (iV p.b),.fo 1 [0,4] [trS 0 rt l,.pv (iV (p.b)),.ls 1 (0+1)] [(0,0,qaa l),(1,0,.row 3 1 (0+1) ([]++[iV z]))] (.ls 2 c2.length) 1 [(2,0,zrI c2)]]
  (qai (qaB [(1,5)]) [(1,0,.row 3 1 c2.length (ziV c2))]) (Ai h0 (Ai h1 (Ai (Er (SV.pv (iV rt))) (Ai (Er (SV.ls 0 l.length)) (Ai hin (Ai (Er (SV.pv (iV rt))) (Ai (Er (SV.ls 0 l.length)) (Ai (Er (SV.pv (iV rt))) (Ai (Er (SV.ls 0 l.length)) (Ai (qbX hk) (Ai (Er (SV.pv (iV rt))) (Ai (Er (SV.ls 0 l.length)) (Ai hl (Ai (Eq.refl (List.map (SV.ren (qau [0,1] 3)) [trS 0 rt l,.pv (iV (p.a)),.ls 1 0])) (Ai (qai (qau [0,1] 3) [(0,0,qaa l),(1,0,.row 3 1 0 ([]))]) (Ai (Er (SV.pv (iV rt))) (Ai (Er (SV.ls 0 l.length)) (Ai (Er (SV.pv (iV rt))) (Ai (Er (SV.ls 0 l.length)) (Ai hn (Ai (Er (SV.pv (iV rt))) (Ai (Er (SV.ls 0 l.length)) (Ai hin (Ai (Er (SV.pv (iV rt))) (Ai (Er (SV.ls 0 l.length)) (Ai (Er (SV.pv (iV rt))) (Ai (Er (SV.ls 0 l.length)) (Ai (qcf hk) (Ai (Er (SV.pv (iV rt))) (Ai (Er (SV.ls 0 l.length)) (Ai hr (Ai (Eq.refl (List.map (SV.ren (qau [0,4] 5)) [trS 0 rt l,.pv (iV (p.b)),.ls 1 (0+1)])) (Ai (qai (qau [0,4] 5) [(0,0,qaa l),(1,0,.row 3 1 (0+1) ([]++[iV z]))]) (Ai (Er (SV.pv (iV rt))) (Ai (Er (SV.ls 0 l.length)) (Ai (Er (SV.pv (iV rt))) (Ai (Er (SV.ls 0 l.length)) tI)))))))))))))))))))))))))))))))))))))
theorem qss {rt z:Int} {l:List Pt} {p:Pt} (h0:decide (z<0)=false) (h1:decide ((0:Int)>(l.length:Int))=false) (hk:l[z.toNat]?=some p) (hin:0≤z∧z<(l.length:Int)) (hl:FnO Try.prog 96 1 2 [trS 0 rt l,.pv (iV (p.a)),.ls 1 0] [(0,0,qaa l),(1,0,.row 3 1 0 ([]))] (.ls 1 0) 0 [(1,0,.row 3 1 0 ([]))]) (hn:0+1≤1000000) (hr:FnO Try.prog 96 1 2 [trS 0 rt l,.pv (iV (p.b)),.ls 1 (0+1)] [(0,0,qaa l),(1,0,.row 3 1 (0+1) ([]++[iV z]))] (.ls 1 (0+1)) 0 [(1,0,.row 3 1 (0+1) ([]++[iV z]))]) :
 Fn 96 1 [trS 0 rt l,.pv (iV (z)),.pv (.slice none 0 0)] [(0,0,qaa l)] (.ls 1 (0+1)) 1 [(1,0,.row 3 1 (0+1) ([]++[iV z]))]:=
 Fz [(1,4)] [.lz true 2 0 3 1,.t false,.t false,.gh [(2,0),(2,1)],.r (iV p.a),.fo 1 [0,1] [trS 0 rt l,.pv (iV (p.a)),.ls 1 0] [(0,0,qaa l),(1,0,.row 3 1 0 ([]))] (.ls 1 0) 0 [(1,0,.row 3 1 0 ([]))],.gh [(2,0),(2,1)],.r (iV p.b),.fo 1 [0,4] [trS 0 rt l,.pv (iV (p.b)),.ls 1 (0+1)] [(0,0,qaa l),(1,0,.row 3 1 (0+1) ([]++[iV z]))] (.ls 1 (0+1)) 0 [(1,0,.row 3 1 (0+1) ([]++[iV z]))]]
  (qai (qaB [(1,4)]) [(1,0,.row 3 1 (0+1) ([]++[iV z]))]) (Ai h0 (Ai h1 (Ai (Er (SV.pv (iV rt))) (Ai (Er (SV.ls 0 l.length)) (Ai hin (Ai (Er (SV.pv (iV rt))) (Ai (Er (SV.ls 0 l.length)) (Ai (Er (SV.pv (iV rt))) (Ai (Er (SV.ls 0 l.length)) (Ai (qbX hk) (Ai (Er (SV.pv (iV rt))) (Ai (Er (SV.ls 0 l.length)) (Ai hl (Ai (Eq.refl (List.map (SV.ren (qau [0,1] 3)) [trS 0 rt l,.pv (iV (p.a)),.ls 1 0])) (Ai (qai (qau [0,1] 3) [(0,0,qaa l),(1,0,.row 3 1 0 ([]))]) (Ai (Er (SV.pv (iV rt))) (Ai (Er (SV.ls 0 l.length)) (Ai (Er (SV.pv (iV rt))) (Ai (Er (SV.ls 0 l.length)) (Ai hn (Ai (Er (SV.pv (iV rt))) (Ai (Er (SV.ls 0 l.length)) (Ai hin (Ai (Er (SV.pv (iV rt))) (Ai (Er (SV.ls 0 l.length)) (Ai (Er (SV.pv (iV rt))) (Ai (Er (SV.ls 0 l.length)) (Ai (qcf hk) (Ai (Er (SV.pv (iV rt))) (Ai (Er (SV.ls 0 l.length)) (Ai hr (Ai (Eq.refl (List.map (SV.ren (qau [0,4] 5)) [trS 0 rt l,.pv (iV (p.b)),.ls 1 (0+1)])) (Ai (qai (qau [0,4] 5) [(0,0,qaa l),(1,0,.row 3 1 (0+1) ([]++[iV z]))]) (Ai (Er (SV.pv (iV rt))) (Ai (Er (SV.ls 0 l.length)) (Ai (Er (SV.pv (iV rt))) (Ai (Er (SV.ls 0 l.length)) tI)))))))))))))))))))))))))))))))))))))
end Go.Proofs.Ytalnjplghagbpaa

namespace Go.Proofs.Ytalnjplghagbpaa
set_option maxRecDepth 100000
open Go.RowKit
theorem qn3:∀ {l:List Pt} {k:Nat} {p:Pt} (_:l[k]?=some p) (x:Int),qam (l.set k ⟨p.id,x,p.b⟩)=qfh (qam l) (k*3+1) [iV x]
 | [],k,p,h,_=>by simp at h
 | q::r,0,p,h,x=>by simp at h;subst h;rfl
 | q::r,k+1,p,h,x=>by
  rw[List.set_cons_succ,qam,qn3 (l:=r) (k:=k) (p:=p) (by simpa using h) x,show (k+1)*3+1=(k*3+1)+1+1+1 by omega]
  simp[qfh,qam,Nat.add_right_comm]
theorem qos:∀ {l:List Pt} {k:Nat} {p:Pt} (_:l[k]?=some p) (x:Int),qam (l.set k ⟨p.id,p.a,x⟩)=qfh (qam l) (k*3+2) [iV x]
 | [],k,p,h,_=>by simp at h
 | q::r,0,p,h,x=>by simp at h;subst h;rfl
 | q::r,k+1,p,h,x=>by
  rw[List.set_cons_succ,qam,qos (l:=r) (k:=k) (p:=p) (by simpa using h) x,show (k+1)*3+2=(k*3+2)+1+1+1 by omega]
  simp[qfh,qam,Nat.add_right_comm]
theorem qqt {l:List Pt} {z:Int} {p:Pt} (h:l[z.toNat]?=some p) (x:Int):qam (l.set z.toNat ⟨p.id,x,p.b⟩)=qfh (qam l) (0*3+z.toNat*3+1) [iV x]:=by
 rw[show 0*3+z.toNat*3+1=z.toNat*3+1 by omega];exact qn3 h x
theorem qmI {l:List Pt} {z:Int} {p:Pt} (h:l[z.toNat]?=some p) (x:Int):qam (l.set z.toNat ⟨p.id,p.a,x⟩)=qfh (qam l) (0*3+z.toNat*3+2) [iV x]:=by
 rw[show 0*3+z.toNat*3+2=z.toNat*3+2 by omega];exact qos h x
theorem qha:∀ l:List Pt,(qam l).length=l.length*3
 | []=>rfl
 | _::r=>by rw[qam];simp only[List.length_cons];rw[qha r];omega
theorem qpk {l:List Pt} {z:Int} {p:Pt} (h:l[z.toNat]?=some p):0*3+z.toNat*3+1+1≤(qam l).length:=by
 rw[qha];have:=qak h;omega
theorem qlS {l:List Pt} {z:Int} {p:Pt} (h:l[z.toNat]?=some p):0*3+z.toNat*3+2+1≤(qam l).length:=by
 rw[qha];have:=qak h;omega
theorem qmE {rt z lo hi tn td:Int} {s l:List Pt} {n:Nat} (ht:Fn 110 1 [qas 0 s,.pv (qab tn td),.pv (iV (lo)),.pv (iV (hi))] [(0,0,qag s)] (.pv (iV (z))) 0 []) (h0:decide (z≥0)=false) :
 FnO Try.prog 94 1 2 [qas 0 s,.pv (qab tn td),.ag [.pv (iV rt),.ls 1 n],.pv (iV (lo)),.pv (iV (hi))] [(0,0,qag s),(1,0,.row 26 3 n (qam l))] (.pv (iV (z))) 0 [(1,0,.row 26 3 n (qam l))]:=
 qaI 300 [] [.f [0] [qas 0 s,.pv (qab tn td),.pv (iV (lo)),.pv (iV (hi))] [(0,0,qag s)] (.pv (iV (z))) 0 [],.t false]
  (qai (qaB []) [(1,0,.row 26 3 n (qam l))]) (Ai ht (Ai (Eq.refl (List.map (SV.ren (qau [0] 5)) [qas 0 s,.pv (qab tn td),.pv (iV (lo)),.pv (iV (hi))])) (Ai (qai (qau [0] 5) [(0,0,qag s)]) (Ai h0 tI)))) (by kernel_rfl)
theorem qlG {rt x y z w1 lo hi tn td:Int} {s l n1 n2:List Pt} {p q:Pt} {n:Nat} (ht:Fn 110 1 [qas 0 s,.pv (qab tn td),.pv (iV (lo)),.pv (iV (hi))] [(0,0,qag s)] (.pv (iV (z))) 0 []) (h0:decide (z≥0)=true) (hl:FnO Try.prog 94 1 2 [qas 0 s,.pv (qab tn td),.ag [.pv (iV rt),.ls 1 n],.pv (iV (lo)),.pv (iV (z))] [(0,0,qag s),(1,0,.row 26 3 n (qam l))] (.pv (iV (x))) 0 [(1,0,.row 26 3 n (qam n1))]) (hin:0≤z∧z<(n:Int)) (hp1:n1[z.toNat]?=some p) (hs:iV (IntKind.i64.wrap (z+1))=iV (w1)) (hr:FnO Try.prog 94 1 2 [qas 0 s,.pv (qab tn td),.ag [.pv (iV rt),.ls 1 n],.pv (iV (w1)),.pv (iV (hi))] [(0,0,qag s),(1,0,.row 26 3 n (qam (n1.set z.toNat ⟨p.id,x,p.b⟩)))] (.pv (iV (y))) 0 [(1,0,.row 26 3 n (qam n2))]) (hq1:n2[z.toNat]?=some q) :
 FnO Try.prog 94 1 2 [qas 0 s,.pv (qab tn td),.ag [.pv (iV rt),.ls 1 n],.pv (iV (lo)),.pv (iV (hi))] [(0,0,qag s),(1,0,.row 26 3 n (qam l))] (.pv (iV (z))) 0 [(1,0,.row 26 3 n (qam (n2.set z.toNat ⟨q.id,q.a,y⟩)))]:=
 qaI 300 [] [.f [0] [qas 0 s,.pv (qab tn td),.pv (iV (lo)),.pv (iV (hi))] [(0,0,qag s)] (.pv (iV (z))) 0 [],.t true,.gh [(2,0),(3,0),(3,1),(4,0),(4,1)],.fo 1 [0,1] [qas 0 s,.pv (qab tn td),.ag [.pv (iV rt),.ls 1 n],.pv (iV (lo)),.pv (iV (z))] [(0,0,qag s),(1,0,.row 26 3 n (qam l))] (.pv (iV (x))) 0 [(1,0,.row 26 3 n (qam n1))],.w (qam (n1.set z.toNat ⟨p.id,x,p.b⟩)),.gh [(2,0),(3,0),(3,1),(4,0),(4,1)],.r (iV (w1)),.fo 1 [0,1] [qas 0 s,.pv (qab tn td),.ag [.pv (iV rt),.ls 1 n],.pv (iV (w1)),.pv (iV (hi))] [(0,0,qag s),(1,0,.row 26 3 n (qam (n1.set z.toNat ⟨p.id,x,p.b⟩)))] (.pv (iV (y))) 0 [(1,0,.row 26 3 n (qam n2))],.w (qam (n2.set z.toNat ⟨q.id,q.a,y⟩))]
  (qai (qaB []) [(1,0,.row 26 3 n (qam (n2.set z.toNat ⟨q.id,q.a,y⟩)))]) (Ai ht (Ai (Eq.refl (List.map (SV.ren (qau [0] 5)) [qas 0 s,.pv (qab tn td),.pv (iV (lo)),.pv (iV (hi))])) (Ai (qai (qau [0] 5) [(0,0,qag s)]) (Ai h0 (Ai (Er (SV.ls 0 s.length)) (Ai (Er (SV.pv (iV tn))) (Ai (Er (SV.pv (iV td))) (Ai (Er (SV.pv (iV rt))) (Ai (Er (SV.ls 1 n)) (Ai hl (Ai (Eq.refl (List.map (SV.ren (qau [0,1] 5)) [qas 0 s,.pv (qab tn td),.ag [.pv (iV rt),.ls 1 n],.pv (iV (lo)),.pv (iV (z))])) (Ai (qai (qau [0,1] 5) [(0,0,qag s),(1,0,.row 26 3 n (qam l))]) (Ai (Er (SV.ls 0 s.length)) (Ai (Er (SV.pv (iV tn))) (Ai (Er (SV.pv (iV td))) (Ai (Er (SV.pv (iV rt))) (Ai (Er (SV.ls 1 n)) (Ai hin (Ai (Er (SV.ls 0 s.length)) (Ai (Er (SV.pv (iV tn))) (Ai (Er (SV.pv (iV td))) (Ai (Er (SV.pv (iV rt))) (Ai (Er (SV.ls 1 n)) (Ai (Er (SV.ls 0 s.length)) (Ai (Er (SV.pv (iV tn))) (Ai (Er (SV.pv (iV td))) (Ai (Er (SV.pv (iV rt))) (Ai (Er (SV.ls 1 n)) (Ai (qqt hp1 x) (Ai (qpk hp1) (Ai (Er (SV.ls 0 s.length)) (Ai (Er (SV.pv (iV tn))) (Ai (Er (SV.pv (iV td))) (Ai (Er (SV.pv (iV rt))) (Ai (Er (SV.ls 1 n)) (Ai hs (Ai (Er (SV.ls 0 s.length)) (Ai (Er (SV.pv (iV tn))) (Ai (Er (SV.pv (iV td))) (Ai (Er (SV.pv (iV rt))) (Ai (Er (SV.ls 1 n)) (Ai hr (Ai (Eq.refl (List.map (SV.ren (qau [0,1] 5)) [qas 0 s,.pv (qab tn td),.ag [.pv (iV rt),.ls 1 n],.pv (iV (w1)),.pv (iV (hi))])) (Ai (qai (qau [0,1] 5) [(0,0,qag s),(1,0,.row 26 3 n (qam (n1.set z.toNat ⟨p.id,x,p.b⟩)))]) (Ai (Er (SV.ls 0 s.length)) (Ai (Er (SV.pv (iV tn))) (Ai (Er (SV.pv (iV td))) (Ai (Er (SV.pv (iV rt))) (Ai (Er (SV.ls 1 n)) (Ai hin (Ai (Er (SV.ls 0 s.length)) (Ai (Er (SV.pv (iV tn))) (Ai (Er (SV.pv (iV td))) (Ai (Er (SV.pv (iV rt))) (Ai (Er (SV.ls 1 n)) (Ai (Er (SV.ls 0 s.length)) (Ai (Er (SV.pv (iV tn))) (Ai (Er (SV.pv (iV td))) (Ai (Er (SV.pv (iV rt))) (Ai (Er (SV.ls 1 n)) (Ai (qmI hq1 y) (Ai (qlS hq1) (Ai (Er (SV.ls 0 s.length)) (Ai (Er (SV.pv (iV tn))) (Ai (Er (SV.pv (iV td))) (Ai (Er (SV.pv (iV rt))) (Ai (Er (SV.ls 1 n)) tI))))))))))))))))))))))))))))))))))))))))))))))))))))))))))))))))))) (by kernel_rfl)
end Go.Proofs.Ytalnjplghagbpaa

namespace Go.Proofs.Ytalnjplghagbpaa
set_option maxRecDepth 100000
open Go.RowKit
abbrev quX (m:Nat) (vs:List Value) (x:Int):HpL:=[(0,0,.pv (iV 0)),(0,1,.pv (.slice none 0 0)),(1,0,.pv (iV (x))),(1,1,.ls 2 m),(2,0,.row 26 3 m (vs))]
theorem qlB {z y x:Int} {k n m:Nat} {vs:List Value} (hlt:decide ((k:Int)<(n:Int))=true) (ha:iV (IntKind.i64.wrap (z+(k:Int)))=iV (y)) (hb:iV (IntKind.i64.wrap ((k:Int)+1))=iV (((k+1:Nat):Int))) (hn:m+1≤1000000) (hs:iV (IntKind.i64.wrap ((k:Int)+1))=iV (((k+1:Nat):Int))) {e:Exit} {tm2:TmL} {hp2:HpL}
 (r:Rl 0 0 9 0 34 3 ([(0,.pv (iV (n:Int))),(1,.pv (iV z)),(4,.pp 0 0),(5,.pp 1 0),(6,.pv (iV ((k+1:Nat):Int)))]) ([(0,0,.pv (iV 0)),(0,1,.pv (.slice none 0 0)),(1,0,.pv (iV (0))),(1,1,.ls 2 (m+1)),(2,0,.row 26 3 (m+1) (vs++[iV y,iV (-1),iV ((k+1:Nat):Int)]))]) e tm2 hp2):Rl 0 0 9 0 34 3 ([(0,.pv (iV (n:Int))),(1,.pv (iV z)),(4,.pp 0 0),(5,.pp 1 0),(6,.pv (iV (k:Int)))]) (quX m vs x) e tm2 hp2:=
 RunsL.next [(2,4)] 300 [.t true,Re ha,Re hb,Re hb]
  (Ro (Ai hlt (Ai ha (Ai hb (Ai hn (Ai hs tI)))))) r
theorem qpp {z x:Int} {k n m:Nat} {vs:List Value} (hlt:decide ((k:Int)<(n:Int))=false):Rl 0 0 9 0 34 3 ([(0,.pv (iV (n:Int))),(1,.pv (iV z)),(4,.pp 0 0),(5,.pp 1 0),(6,.pv (iV (k:Int)))]) (quX m vs x) (.exit 0) ([(0,.pv (iV (n:Int))),(1,.pv (iV z)),(4,.pp 0 0),(5,.pp 1 0)]) (quX m vs x):=
 RunsL.stop [] 300 [.t false] (fun h=>by cases h)
  (Ro (Ai hlt tI))
theorem qrH {z:Int} {l:List Pt} {p:Pt} {j n m:Nat} (r0:Rl 0 0 9 0 34 3 ([(0,.pv (iV (n:Int))),(1,.pv (iV z)),(4,.pp 0 0),(5,.pp 1 0),(6,.pv (iV ((0:Nat):Int)))]) ([(0,0,.pv (iV 0)),(0,1,.pv (.slice none 0 0)),(1,0,.pv (iV (-1))),(1,1,.ls 2 0),(2,0,.row 26 3 0 ([]))]) (.exit 0) ([(0,.pv (iV (n:Int))),(1,.pv (iV z)),(4,.pp 0 0),(5,.pp 1 0)]) ([(0,0,.pv (iV 0)),(0,1,.pv (.slice none 0 0)),(1,0,.pv (iV (0))),(1,1,.ls 2 m),(2,0,.row 26 3 m (qam l))])) (hp0:decide ((n:Int)>0)=true) (hj:iV (IntKind.i64.wrap ((n:Int)-1))=iV (j:Int)) (hji:0≤(j:Int)∧(j:Int)<(m:Int)) (hk:l[j]?=some p) :
 Fn 9 0 [.pv (iV (n:Int)),.pv (iV (z))] [] (.ag [.pv (iV 0),.ls 0 m]) 1 [(0,0,.row 26 3 m (qam (l.set j (Pt.mk p.id p.a (-1)))))]:=
 Fz [(0,2)] [.ln false 1 1 26 3,Lf r0,.t true,Re hj,.w (qam (l.set j (Pt.mk p.id p.a (-1))))]
  (qai (qaB [(0,2)]) [(0,0,.row 26 3 m (qam (l.set j (Pt.mk p.id p.a (-1)))))]) (Lo r0 [] (Ai hp0 (Ai hj (Ai hji (Ai (qmI (z:=(j:Int)) hk (-1)) (Ai (qlS (z:=(j:Int)) hk) tI))))))
end Go.Proofs.Ytalnjplghagbpaa

namespace Go.Proofs.Ytalnjplghagbpaa
set_option maxRecDepth 100000
open Go.RowKit
theorem qk5:∀ n:Nat,qci [Value.bool false] n=zbV (List.replicate n false)
 | 0=>rfl
 | n+1=>by rw[qci,qk5 n];rfl
theorem qcR (n:Nat):some (SV.row 4 1 n (qci [Value.bool false] n))=some (SV.row 4 1 n (zbV (List.replicate n false))):=by rw[qk5]
abbrev qlk (bs:List Bool) (g:List Int) (l:List Pt):HpL:=[(3,0,.ls 0 l.length),(3,1,.ls 1 l.length),(3,2,.ls 2 g.length),(1,0,.row 4 1 l.length (zbV bs)),(2,0,.row 3 1 g.length (ziV g)),(0,0,qaa l)]
abbrev qoe (bs:List Bool) (g:List Int) (l:List Pt):HpL:=[(3,0,.ls 0 l.length),(3,1,.ls 1 l.length),(3,2,.ls 2 g.length),(1,0,.row 4 1 l.length (zbV bs)),(2,0,.row 3 1 g.length (ziV g))]
theorem qpq {z:Int} {l:List Pt} {g:List Int} {bs:List Bool} (h0:(z==(-1))=true) :
 FnO Try.prog 83 1 4 [.pp 3 0,.pv (iV (z))] (qlk bs g l) (.pv (.bool true)) 0 (qoe bs g l):=
 qaI 300 [] [.t true]
  (qai (qaB []) (qoe bs g l)) (Ai h0 tI) (by kernel_rfl)
theorem qpb {z:Int} {l:List Pt} {g:List Int} {bs:List Bool} (h0:(z==(-1))=false) (h1:decide (z<0)=true) :
 FnO Try.prog 83 1 4 [.pp 3 0,.pv (iV (z))] (qlk bs g l) (.pv (.bool false)) 0 (qoe bs g l):=
 qaI 300 [] [.t false,.t true]
  (qai (qaB []) (qoe bs g l)) (Ai h0 (Ai h1 tI)) (by kernel_rfl)
theorem qqg {z:Int} {l:List Pt} {g:List Int} {bs:List Bool} (h0:(z==(-1))=false) (h1:decide (z<0)=false) (h2:decide (z≥(l.length:Int))=true) :
 FnO Try.prog 83 1 4 [.pp 3 0,.pv (iV (z))] (qlk bs g l) (.pv (.bool false)) 0 (qoe bs g l):=
 qaI 300 [] [.t false,.t false,.t true]
  (qai (qaB []) (qoe bs g l)) (Ai h0 (Ai h1 (Ai h2 tI))) (by kernel_rfl)
theorem qmx {z:Int} {l:List Pt} {g:List Int} {bs:List Bool} (h0:(z==(-1))=false) (h1:decide (z<0)=false) (h2:decide (z≥(l.length:Int))=false) (hin:0≤z∧z<(l.length:Int)) (hs:bs[z.toNat]?=some true) :
 FnO Try.prog 83 1 4 [.pp 3 0,.pv (iV (z))] (qlk bs g l) (.pv (.bool false)) 0 (qoe bs g l):=
 qaI 300 [] [.t false,.t false,.t false,.r (.bool true)]
  (qai (qaB []) (qoe bs g l)) (Ai h0 (Ai h1 (Ai h2 (Ai hin (Ai (qgG hs) tI))))) (by kernel_rfl)
abbrev qfo (bs:List Bool) (g:List Int) (l:List Pt) (z:Int):HpL:=[(3,0,.ls 0 l.length),(3,1,.ls 1 l.length),(3,2,.ls 2 g.length),(1,0,.row 4 1 l.length (zbV (bs.set z.toNat true))),(2,0,.row 3 1 g.length (ziV g)),(0,0,qaa l)]
abbrev qhD (bs1:List Bool) (c1:List Int) (l:List Pt):HpL:=[(3,0,.ls 0 l.length),(3,1,.ls 1 l.length),(3,2,.ls 4 c1.length),(1,0,.row 4 1 l.length (zbV bs1)),(4,0,.row 3 1 c1.length (ziV c1))]
theorem qrX {z:Int} {l:List Pt} {p:Pt} {g c1:List Int} {bs bs1:List Bool} (h0:(z==(-1))=false) (h1:decide (z<0)=false) (h2:decide (z≥(l.length:Int))=false) (hin:0≤z∧z<(l.length:Int)) (hs:bs[z.toNat]?=some false) (hb:z.toNat<bs.length) (hk:l[z.toNat]?=some p) (hl:FnO Try.prog 83 1 4 [.pp 3 0,.pv (iV (p.a))] (qfo bs g l z) (.pv (.bool false)) 1 (qhD bs1 c1 l)) :
 FnO Try.prog 83 1 4 [.pp 3 0,.pv (iV (z))] (qlk bs g l) (.pv (.bool false)) 1 (qhD bs1 c1 l):=
 qaI 300 [] [.t false,.t false,.t false,.r (.bool false),.w (zbV (bs.set z.toNat true)),.r (iV p.a),.fo 1 [0,1,2,3] [.pp 3 0,.pv (iV (p.a))] (qfo bs g l z) (.pv (.bool false)) 1 (qhD bs1 c1 l),.k]
  (qai (qaB []) (qhD bs1 c1 l)) (Ai h0 (Ai h1 (Ai h2 (Ai hin (Ai (qgG hs) (Ai hin (Ai (qqS bs z.toNat true hb) (Ai (qeg bs z.toNat hb) (Ai hin (Ai (qbX hk) (Ai hl (Ai (Eq.refl (List.map (SV.ren (qau [0,1,2,3] 4)) [.pp 3 0,.pv (iV (p.a))])) (Ai (qai (qau [0,1,2,3] 4) (qfo bs g l z)) tI))))))))))))) (by kernel_rfl)
abbrev qoy (bs1:List Bool) (g:List Int) (l:List Pt):HpL:=[(3,0,.ls 0 l.length),(3,1,.ls 1 l.length),(3,2,.ls 2 g.length),(1,0,.row 4 1 l.length (zbV bs1)),(2,0,.row 3 1 g.length (ziV g))]
theorem qsD {z:Int} {l:List Pt} {p:Pt} {g:List Int} {bs bs1:List Bool} (h0:(z==(-1))=false) (h1:decide (z<0)=false) (h2:decide (z≥(l.length:Int))=false) (hin:0≤z∧z<(l.length:Int)) (hs:bs[z.toNat]?=some false) (hb:z.toNat<bs.length) (hk:l[z.toNat]?=some p) (hl:FnO Try.prog 83 1 4 [.pp 3 0,.pv (iV (p.a))] (qfo bs g l z) (.pv (.bool false)) 0 (qoy bs1 g l)) :
 FnO Try.prog 83 1 4 [.pp 3 0,.pv (iV (z))] (qlk bs g l) (.pv (.bool false)) 0 (qoy bs1 g l):=
 qaI 300 [] [.t false,.t false,.t false,.r (.bool false),.w (zbV (bs.set z.toNat true)),.r (iV p.a),.fo 1 [0,1,2,3] [.pp 3 0,.pv (iV (p.a))] (qfo bs g l z) (.pv (.bool false)) 0 (qoy bs1 g l),.k]
  (qai (qaB []) (qoy bs1 g l)) (Ai h0 (Ai h1 (Ai h2 (Ai hin (Ai (qgG hs) (Ai hin (Ai (qqS bs z.toNat true hb) (Ai (qeg bs z.toNat hb) (Ai hin (Ai (qbX hk) (Ai hl (Ai (Eq.refl (List.map (SV.ren (qau [0,1,2,3] 4)) [.pp 3 0,.pv (iV (p.a))])) (Ai (qai (qau [0,1,2,3] 4) (qfo bs g l z)) tI))))))))))))) (by kernel_rfl)
abbrev qnX (bs2:List Bool) (c2:List Int) (l:List Pt):HpL:=[(3,0,.ls 0 l.length),(3,1,.ls 1 l.length),(3,2,.ls 4 c2.length),(1,0,.row 4 1 l.length (zbV bs2)),(4,0,.row 3 1 c2.length (ziV c2))]
abbrev qiI (bs1:List Bool) (c1:List Int) (l:List Pt) (z:Int):HpL:=[(3,0,.ls 0 l.length),(3,1,.ls 1 l.length),(3,2,.ls 2 (c1.length+1)),(1,0,.row 4 1 l.length (zbV bs1)),(2,0,.row 3 1 (c1.length+1) (ziV c1++[iV z])),(0,0,qaa l)]
theorem qsX {z:Int} {l:List Pt} {p:Pt} {g c1 c2:List Int} {w:Bool} {bs bs1 bs2:List Bool} (h0:(z==(-1))=false) (h1:decide (z<0)=false) (h2:decide (z≥(l.length:Int))=false) (hin:0≤z∧z<(l.length:Int)) (hs:bs[z.toNat]?=some false) (hb:z.toNat<bs.length) (hk:l[z.toNat]?=some p) (hl:FnO Try.prog 83 1 4 [.pp 3 0,.pv (iV (p.a))] (qfo bs g l z) (.pv (.bool true)) 1 (qhD bs1 c1 l)) (hn:c1.length+1≤1000000) (hr:FnO Try.prog 83 1 4 [.pp 3 0,.pv (iV (p.b))] (qiI bs1 c1 l z) (.pv (.bool w)) 1 (qnX bs2 c2 l)) :
 FnO Try.prog 83 1 4 [.pp 3 0,.pv (iV (z))] (qlk bs g l) (.pv (.bool w)) 1 (qnX bs2 c2 l):=
 qaI 300 [(4,7)] [.t false,.t false,.t false,.r (.bool false),.w (zbV (bs.set z.toNat true)),.r (iV p.a),.fo 1 [0,1,2,3] [.pp 3 0,.pv (iV (p.a))] (qfo bs g l z) (.pv (.bool true)) 1 (qhD bs1 c1 l),.k,.r (iV p.b),.fo 1 [0,1,6,3] [.pp 3 0,.pv (iV (p.b))] (qiI bs1 c1 l z) (.pv (.bool w)) 1 (qnX bs2 c2 l)]
  (qai (qaB [(4,7)]) (qnX bs2 c2 l)) (Ai h0 (Ai h1 (Ai h2 (Ai hin (Ai (qgG hs) (Ai hin (Ai (qqS bs z.toNat true hb) (Ai (qeg bs z.toNat hb) (Ai hin (Ai (qbX hk) (Ai hl (Ai (Eq.refl (List.map (SV.ren (qau [0,1,2,3] 4)) [.pp 3 0,.pv (iV (p.a))])) (Ai (qai (qau [0,1,2,3] 4) (qfo bs g l z)) (Ai hn (Ai hin (Ai (qcf hk) (Ai hr (Ai (Eq.refl (List.map (SV.ren (qau [0,1,6,3] 7)) [.pp 3 0,.pv (iV (p.b))])) (Ai (qai (qau [0,1,6,3] 7) (qiI bs1 c1 l z)) tI))))))))))))))))))) (by kernel_rfl)
theorem qrU {z:Int} {l:List Pt} {p:Pt} {g c1:List Int} {w:Bool} {bs bs1 bs2:List Bool} (h0:(z==(-1))=false) (h1:decide (z<0)=false) (h2:decide (z≥(l.length:Int))=false) (hin:0≤z∧z<(l.length:Int)) (hs:bs[z.toNat]?=some false) (hb:z.toNat<bs.length) (hk:l[z.toNat]?=some p) (hl:FnO Try.prog 83 1 4 [.pp 3 0,.pv (iV (p.a))] (qfo bs g l z) (.pv (.bool true)) 1 (qhD bs1 c1 l)) (hn:c1.length+1≤1000000) (hr:FnO Try.prog 83 1 4 [.pp 3 0,.pv (iV (p.b))] (qiI bs1 c1 l z) (.pv (.bool w)) 0 [(3,0,.ls 0 l.length),(3,1,.ls 1 l.length),(3,2,.ls 2 (c1.length+1)),(1,0,.row 4 1 l.length (zbV bs2)),(2,0,.row 3 1 (c1.length+1) (ziV c1++[iV z]))]) :
 FnO Try.prog 83 1 4 [.pp 3 0,.pv (iV (z))] (qlk bs g l) (.pv (.bool w)) 1 [(3,0,.ls 0 l.length),(3,1,.ls 1 l.length),(3,2,.ls 4 (c1.length+1)),(1,0,.row 4 1 l.length (zbV bs2)),(4,0,.row 3 1 (c1.length+1) (ziV c1++[iV z]))]:=
 qaI 300 [(4,6)] [.t false,.t false,.t false,.r (.bool false),.w (zbV (bs.set z.toNat true)),.r (iV p.a),.fo 1 [0,1,2,3] [.pp 3 0,.pv (iV (p.a))] (qfo bs g l z) (.pv (.bool true)) 1 (qhD bs1 c1 l),.k,.r (iV p.b),.fo 1 [0,1,6,3] [.pp 3 0,.pv (iV (p.b))] (qiI bs1 c1 l z) (.pv (.bool w)) 0 [(3,0,.ls 0 l.length),(3,1,.ls 1 l.length),(3,2,.ls 2 (c1.length+1)),(1,0,.row 4 1 l.length (zbV bs2)),(2,0,.row 3 1 (c1.length+1) (ziV c1++[iV z]))]]
  (qai (qaB [(4,6)]) [(3,0,.ls 0 l.length),(3,1,.ls 1 l.length),(3,2,.ls 4 (c1.length+1)),(1,0,.row 4 1 l.length (zbV bs2)),(4,0,.row 3 1 (c1.length+1) (ziV c1++[iV z]))]) (Ai h0 (Ai h1 (Ai h2 (Ai hin (Ai (qgG hs) (Ai hin (Ai (qqS bs z.toNat true hb) (Ai (qeg bs z.toNat hb) (Ai hin (Ai (qbX hk) (Ai hl (Ai (Eq.refl (List.map (SV.ren (qau [0,1,2,3] 4)) [.pp 3 0,.pv (iV (p.a))])) (Ai (qai (qau [0,1,2,3] 4) (qfo bs g l z)) (Ai hn (Ai hin (Ai (qcf hk) (Ai hr (Ai (Eq.refl (List.map (SV.ren (qau [0,1,6,3] 7)) [.pp 3 0,.pv (iV (p.b))])) (Ai (qai (qau [0,1,6,3] 7) (qiI bs1 c1 l z)) tI))))))))))))))))))) (by kernel_rfl)
abbrev qiH (bs1:List Bool) (g:List Int) (l:List Pt) (z:Int):HpL:=[(3,0,.ls 0 l.length),(3,1,.ls 1 l.length),(3,2,.ls 2 (g.length+1)),(1,0,.row 4 1 l.length (zbV bs1)),(2,0,.row 3 1 (g.length+1) (ziV g++[iV z])),(0,0,qaa l)]
theorem qq8 {z:Int} {l:List Pt} {p:Pt} {g c2:List Int} {w:Bool} {bs bs1 bs2:List Bool} (h0:(z==(-1))=false) (h1:decide (z<0)=false) (h2:decide (z≥(l.length:Int))=false) (hin:0≤z∧z<(l.length:Int)) (hs:bs[z.toNat]?=some false) (hb:z.toNat<bs.length) (hk:l[z.toNat]?=some p) (hl:FnO Try.prog 83 1 4 [.pp 3 0,.pv (iV (p.a))] (qfo bs g l z) (.pv (.bool true)) 0 (qoy bs1 g l)) (hn:g.length+1≤1000000) (hr:FnO Try.prog 83 1 4 [.pp 3 0,.pv (iV (p.b))] (qiH bs1 g l z) (.pv (.bool w)) 1 (qnX bs2 c2 l)) :
 FnO Try.prog 83 1 4 [.pp 3 0,.pv (iV (z))] (qlk bs g l) (.pv (.bool w)) 1 (qnX bs2 c2 l):=
 qaI 300 [(4,6)] [.t false,.t false,.t false,.r (.bool false),.w (zbV (bs.set z.toNat true)),.r (iV p.a),.fo 1 [0,1,2,3] [.pp 3 0,.pv (iV (p.a))] (qfo bs g l z) (.pv (.bool true)) 0 (qoy bs1 g l),.k,.r (iV p.b),.fo 1 [0,1,5,3] [.pp 3 0,.pv (iV (p.b))] (qiH bs1 g l z) (.pv (.bool w)) 1 (qnX bs2 c2 l)]
  (qai (qaB [(4,6)]) (qnX bs2 c2 l)) (Ai h0 (Ai h1 (Ai h2 (Ai hin (Ai (qgG hs) (Ai hin (Ai (qqS bs z.toNat true hb) (Ai (qeg bs z.toNat hb) (Ai hin (Ai (qbX hk) (Ai hl (Ai (Eq.refl (List.map (SV.ren (qau [0,1,2,3] 4)) [.pp 3 0,.pv (iV (p.a))])) (Ai (qai (qau [0,1,2,3] 4) (qfo bs g l z)) (Ai hn (Ai hin (Ai (qcf hk) (Ai hr (Ai (Eq.refl (List.map (SV.ren (qau [0,1,5,3] 6)) [.pp 3 0,.pv (iV (p.b))])) (Ai (qai (qau [0,1,5,3] 6) (qiH bs1 g l z)) tI))))))))))))))))))) (by kernel_rfl)
theorem qrV {z:Int} {l:List Pt} {p:Pt} {g:List Int} {w:Bool} {bs bs1 bs2:List Bool} (h0:(z==(-1))=false) (h1:decide (z<0)=false) (h2:decide (z≥(l.length:Int))=false) (hin:0≤z∧z<(l.length:Int)) (hs:bs[z.toNat]?=some false) (hb:z.toNat<bs.length) (hk:l[z.toNat]?=some p) (hl:FnO Try.prog 83 1 4 [.pp 3 0,.pv (iV (p.a))] (qfo bs g l z) (.pv (.bool true)) 0 (qoy bs1 g l)) (hn:g.length+1≤1000000) (hr:FnO Try.prog 83 1 4 [.pp 3 0,.pv (iV (p.b))] (qiH bs1 g l z) (.pv (.bool w)) 0 [(3,0,.ls 0 l.length),(3,1,.ls 1 l.length),(3,2,.ls 2 (g.length+1)),(1,0,.row 4 1 l.length (zbV bs2)),(2,0,.row 3 1 (g.length+1) (ziV g++[iV z]))]) :
 FnO Try.prog 83 1 4 [.pp 3 0,.pv (iV (z))] (qlk bs g l) (.pv (.bool w)) 1 [(3,0,.ls 0 l.length),(3,1,.ls 1 l.length),(3,2,.ls 4 (g.length+1)),(1,0,.row 4 1 l.length (zbV bs2)),(4,0,.row 3 1 (g.length+1) (ziV g++[iV z]))]:=
 qaI 300 [(4,5)] [.t false,.t false,.t false,.r (.bool false),.w (zbV (bs.set z.toNat true)),.r (iV p.a),.fo 1 [0,1,2,3] [.pp 3 0,.pv (iV (p.a))] (qfo bs g l z) (.pv (.bool true)) 0 (qoy bs1 g l),.k,.r (iV p.b),.fo 1 [0,1,5,3] [.pp 3 0,.pv (iV (p.b))] (qiH bs1 g l z) (.pv (.bool w)) 0 [(3,0,.ls 0 l.length),(3,1,.ls 1 l.length),(3,2,.ls 2 (g.length+1)),(1,0,.row 4 1 l.length (zbV bs2)),(2,0,.row 3 1 (g.length+1) (ziV g++[iV z]))]]
  (qai (qaB [(4,5)]) [(3,0,.ls 0 l.length),(3,1,.ls 1 l.length),(3,2,.ls 4 (g.length+1)),(1,0,.row 4 1 l.length (zbV bs2)),(4,0,.row 3 1 (g.length+1) (ziV g++[iV z]))]) (Ai h0 (Ai h1 (Ai h2 (Ai hin (Ai (qgG hs) (Ai hin (Ai (qqS bs z.toNat true hb) (Ai (qeg bs z.toNat hb) (Ai hin (Ai (qbX hk) (Ai hl (Ai (Eq.refl (List.map (SV.ren (qau [0,1,2,3] 4)) [.pp 3 0,.pv (iV (p.a))])) (Ai (qai (qau [0,1,2,3] 4) (qfo bs g l z)) (Ai hn (Ai hin (Ai (qcf hk) (Ai hr (Ai (Eq.refl (List.map (SV.ren (qau [0,1,5,3] 6)) [.pp 3 0,.pv (iV (p.b))])) (Ai (qai (qau [0,1,5,3] 6) (qiH bs1 g l z)) tI))))))))))))))))))) (by kernel_rfl)
abbrev qi1 (l:List Pt):HpL:=[(3,0,.ls 0 l.length),(3,1,.ls 1 l.length),(3,2,.ls 2 0),(1,0,.row 4 1 l.length (zbV (List.replicate l.length false))),(2,0,.row 3 1 0 ([])),(0,0,qaa l)]
theorem qsJ {rt:Int} {l:List Pt} {c1:List Int} {bs1:List Bool} (m0:0≤(l.length:Int)) (m1:(l.length:Int)≤1000000) (hf:FnO Try.prog 83 1 4 [.pp 3 0,.pv (iV (rt))] (qi1 l) (.pv (.bool false)) 1 (qhD bs1 c1 l)) :
 Fn 45 1 [trS 0 rt l] [(0,0,qaa l)] (.tu [.one (.ls 1 c1.length),.one (.pv (.bool false))]) 1 [(1,0,.row 3 1 c1.length (ziV c1))]:=
 Fz [(1,5)] [.md,.lz false 3 2 3 1,.fo 1 [0,2,4,3] [.pp 3 0,.pv (iV (rt))] (qi1 l) (.pv (.bool false)) 1 (qhD bs1 c1 l)]
  (qai (qaB [(1,5)]) [(1,0,.row 3 1 c1.length (ziV c1))]) (Ai m0 (Ai (Eq.refl (l.length:Int)) (Ai m1 (Ai hf (Ai (Eq.refl (List.map (SV.ren (qau [0,2,4,3] 5)) [.pp 3 0,.pv (iV (rt))])) (Ai (Ai (Er (SV.ls 0 l.length)) (Ai (Er (SV.ls 2 l.length)) (Ai (Er (SV.ls 4 0)) (Ai (qcR l.length) (Ai (Er (SV.row 3 1 0 [])) (Ai (Er (qaa l)) tI)))))) tI))))))
theorem qkV {rt:Int} {l:List Pt} {c1:List Int} {bs1:List Bool} (m0:0≤(l.length:Int)) (m1:(l.length:Int)≤1000000) (hf:FnO Try.prog 83 1 4 [.pp 3 0,.pv (iV (rt))] (qi1 l) (.pv (.bool true)) 1 (qhD bs1 c1 l)) (he:(((c1.length:Int):Int)==(l.length:Int))=true) :
 Fn 45 1 [trS 0 rt l] [(0,0,qaa l)] (.tu [.one (.ls 1 c1.length),.one (.pv (.bool true))]) 1 [(1,0,.row 3 1 c1.length (ziV c1))]:=
 Fz [(1,5)] [.md,.lz false 3 2 3 1,.fo 1 [0,2,4,3] [.pp 3 0,.pv (iV (rt))] (qi1 l) (.pv (.bool true)) 1 (qhD bs1 c1 l),.t true]
  (qai (qaB [(1,5)]) [(1,0,.row 3 1 c1.length (ziV c1))]) (Ai m0 (Ai (Eq.refl (l.length:Int)) (Ai m1 (Ai hf (Ai (Eq.refl (List.map (SV.ren (qau [0,2,4,3] 5)) [.pp 3 0,.pv (iV (rt))])) (Ai (Ai (Er (SV.ls 0 l.length)) (Ai (Er (SV.ls 2 l.length)) (Ai (Er (SV.ls 4 0)) (Ai (qcR l.length) (Ai (Er (SV.row 3 1 0 [])) (Ai (Er (qaa l)) tI)))))) (Ai he tI)))))))
theorem qic {rt:Int} {l:List Pt} {c1:List Int} {bs1:List Bool} (m0:0≤(l.length:Int)) (m1:(l.length:Int)≤1000000) (hf:FnO Try.prog 83 1 4 [.pp 3 0,.pv (iV (rt))] (qi1 l) (.pv (.bool true)) 1 (qhD bs1 c1 l)) (he:(((c1.length:Int):Int)==(l.length:Int))=false) :
 Fn 45 1 [trS 0 rt l] [(0,0,qaa l)] (.tu [.one (.ls 1 c1.length),.one (.pv (.bool false))]) 1 [(1,0,.row 3 1 c1.length (ziV c1))]:=
 Fz [(1,5)] [.md,.lz false 3 2 3 1,.fo 1 [0,2,4,3] [.pp 3 0,.pv (iV (rt))] (qi1 l) (.pv (.bool true)) 1 (qhD bs1 c1 l),.t false]
  (qai (qaB [(1,5)]) [(1,0,.row 3 1 c1.length (ziV c1))]) (Ai m0 (Ai (Eq.refl (l.length:Int)) (Ai m1 (Ai hf (Ai (Eq.refl (List.map (SV.ren (qau [0,2,4,3] 5)) [.pp 3 0,.pv (iV (rt))])) (Ai (Ai (Er (SV.ls 0 l.length)) (Ai (Er (SV.ls 2 l.length)) (Ai (Er (SV.ls 4 0)) (Ai (qcR l.length) (Ai (Er (SV.row 3 1 0 [])) (Ai (Er (qaa l)) tI)))))) (Ai he tI)))))))
abbrev qqN (bs1:List Bool) (l:List Pt):HpL:=[(3,0,.ls 0 l.length),(3,1,.ls 1 l.length),(3,2,.ls 2 0),(1,0,.row 4 1 l.length (zbV bs1)),(2,0,.row 3 1 0 ([]))]
theorem qq9 {rt:Int} {l:List Pt} {bs1:List Bool} (m0:0≤(l.length:Int)) (m1:(l.length:Int)≤1000000) (hf:FnO Try.prog 83 1 4 [.pp 3 0,.pv (iV (rt))] (qi1 l) (.pv (.bool false)) 0 (qqN bs1 l)) :
 Fn 45 1 [trS 0 rt l] [(0,0,qaa l)] (.tu [.one (.ls 1 0),.one (.pv (.bool false))]) 1 [(1,0,.row 3 1 0 ([]))]:=
 Fz [(1,4)] [.md,.lz false 3 2 3 1,.fo 1 [0,2,4,3] [.pp 3 0,.pv (iV (rt))] (qi1 l) (.pv (.bool false)) 0 (qqN bs1 l)]
  (qai (qaB [(1,4)]) [(1,0,.row 3 1 0 ([]))]) (Ai m0 (Ai (Eq.refl (l.length:Int)) (Ai m1 (Ai hf (Ai (Eq.refl (List.map (SV.ren (qau [0,2,4,3] 5)) [.pp 3 0,.pv (iV (rt))])) (Ai (Ai (Er (SV.ls 0 l.length)) (Ai (Er (SV.ls 2 l.length)) (Ai (Er (SV.ls 4 0)) (Ai (qcR l.length) (Ai (Er (SV.row 3 1 0 [])) (Ai (Er (qaa l)) tI)))))) tI))))))
theorem qkj {rt:Int} {l:List Pt} {bs1:List Bool} (m0:0≤(l.length:Int)) (m1:(l.length:Int)≤1000000) (hf:FnO Try.prog 83 1 4 [.pp 3 0,.pv (iV (rt))] (qi1 l) (.pv (.bool true)) 0 (qqN bs1 l)) (he:((0:Int)==(l.length:Int))=true) :
 Fn 45 1 [trS 0 rt l] [(0,0,qaa l)] (.tu [.one (.ls 1 0),.one (.pv (.bool true))]) 1 [(1,0,.row 3 1 0 ([]))]:=
 Fz [(1,4)] [.md,.lz false 3 2 3 1,.fo 1 [0,2,4,3] [.pp 3 0,.pv (iV (rt))] (qi1 l) (.pv (.bool true)) 0 (qqN bs1 l),.t true]
  (qai (qaB [(1,4)]) [(1,0,.row 3 1 0 ([]))]) (Ai m0 (Ai (Eq.refl (l.length:Int)) (Ai m1 (Ai hf (Ai (Eq.refl (List.map (SV.ren (qau [0,2,4,3] 5)) [.pp 3 0,.pv (iV (rt))])) (Ai (Ai (Er (SV.ls 0 l.length)) (Ai (Er (SV.ls 2 l.length)) (Ai (Er (SV.ls 4 0)) (Ai (qcR l.length) (Ai (Er (SV.row 3 1 0 [])) (Ai (Er (qaa l)) tI)))))) (Ai he tI)))))))
theorem qh3 {rt:Int} {l:List Pt} {bs1:List Bool} (m0:0≤(l.length:Int)) (m1:(l.length:Int)≤1000000) (hf:FnO Try.prog 83 1 4 [.pp 3 0,.pv (iV (rt))] (qi1 l) (.pv (.bool true)) 0 (qqN bs1 l)) (he:((0:Int)==(l.length:Int))=false) :
 Fn 45 1 [trS 0 rt l] [(0,0,qaa l)] (.tu [.one (.ls 1 0),.one (.pv (.bool false))]) 1 [(1,0,.row 3 1 0 ([]))]:=
 Fz [(1,4)] [.md,.lz false 3 2 3 1,.fo 1 [0,2,4,3] [.pp 3 0,.pv (iV (rt))] (qi1 l) (.pv (.bool true)) 0 (qqN bs1 l),.t false]
  (qai (qaB [(1,4)]) [(1,0,.row 3 1 0 ([]))]) (Ai m0 (Ai (Eq.refl (l.length:Int)) (Ai m1 (Ai hf (Ai (Eq.refl (List.map (SV.ren (qau [0,2,4,3] 5)) [.pp 3 0,.pv (iV (rt))])) (Ai (Ai (Er (SV.ls 0 l.length)) (Ai (Er (SV.ls 2 l.length)) (Ai (Er (SV.ls 4 0)) (Ai (qcR l.length) (Ai (Er (SV.row 3 1 0 [])) (Ai (Er (qaa l)) tI)))))) (Ai he tI)))))))
theorem qoF {z v:Int} {l:List Pt} {n:Nat} (h0:(z==(-1))=true) :
 FnO Try.prog 54 0 1 [.ls 0 n,.pv (iV (z)),.pv (iV (v))] [(0,0,.row 26 3 n (qam l))] (.pv (.tuple #[iV (-1),iV (-1)])) 0 [(0,0,.row 26 3 n (qam l))]:=
 qaI 300 [] [.t true]
  (qai (qaB []) [(0,0,.row 26 3 n (qam l))]) (Ai h0 tI) (by kernel_rfl)
theorem qpR {x y z v:Int} {l n1:List Pt} {p:Pt} {n:Nat} {p2:Pt} (h0:(z==(-1))=false) (hin:0≤z∧z<(n:Int)) (hk:l[z.toNat]?=some p) (hc:decide (p.id<v)=true) (hl:FnO Try.prog 54 0 1 [.ls 0 n,.pv (iV (p.b)),.pv (iV (v))] [(0,0,.row 26 3 n (qam l))] (.pv (.tuple #[iV x,iV y])) 0 [(0,0,.row 26 3 n (qam n1))]) (hs:n1[z.toNat]?=some p2) :
 FnO Try.prog 54 0 1 [.ls 0 n,.pv (iV (z)),.pv (iV (v))] [(0,0,.row 26 3 n (qam l))] (.pv (.tuple #[iV z,iV y])) 0 [(0,0,.row 26 3 n (qam (n1.set z.toNat ⟨p2.id,p2.a,x⟩)))]:=
 qaI 300 [] [.t false,.r (iV p.id),.t true,.r (iV p.b),.fo 0 [0] [.ls 0 n,.pv (iV (p.b)),.pv (iV (v))] [(0,0,.row 26 3 n (qam l))] (.pv (.tuple #[iV x,iV y])) 0 [(0,0,.row 26 3 n (qam n1))],.w (qam (n1.set z.toNat ⟨p2.id,p2.a,x⟩))]
  (qai (qaB []) [(0,0,.row 26 3 n (qam (n1.set z.toNat ⟨p2.id,p2.a,x⟩)))]) (Ai h0 (Ai hin (Ai (qaG hk) (Ai hc (Ai hin (Ai (qcf hk) (Ai hl (Ai (Eq.refl (List.map (SV.ren (qau [0] 1)) [.ls 0 n,.pv (iV (p.b)),.pv (iV (v))])) (Ai (qai (qau [0] 1) [(0,0,.row 26 3 n (qam l))]) (Ai hin (Ai (qmI hs x) (Ai (qlS hs) tI)))))))))))) (by kernel_rfl)
theorem qlw {x y z v:Int} {l n1:List Pt} {p:Pt} {n:Nat} {p2:Pt} (h0:(z==(-1))=false) (hin:0≤z∧z<(n:Int)) (hk:l[z.toNat]?=some p) (hc:decide (p.id<v)=false) (hl:FnO Try.prog 54 0 1 [.ls 0 n,.pv (iV (p.a)),.pv (iV (v))] [(0,0,.row 26 3 n (qam l))] (.pv (.tuple #[iV x,iV y])) 0 [(0,0,.row 26 3 n (qam n1))]) (hs:n1[z.toNat]?=some p2) :
 FnO Try.prog 54 0 1 [.ls 0 n,.pv (iV (z)),.pv (iV (v))] [(0,0,.row 26 3 n (qam l))] (.pv (.tuple #[iV x,iV z])) 0 [(0,0,.row 26 3 n (qam (n1.set z.toNat ⟨p2.id,y,p2.b⟩)))]:=
 qaI 300 [] [.t false,.r (iV p.id),.t false,.r (iV p.a),.fo 0 [0] [.ls 0 n,.pv (iV (p.a)),.pv (iV (v))] [(0,0,.row 26 3 n (qam l))] (.pv (.tuple #[iV x,iV y])) 0 [(0,0,.row 26 3 n (qam n1))],.w (qam (n1.set z.toNat ⟨p2.id,y,p2.b⟩))]
  (qai (qaB []) [(0,0,.row 26 3 n (qam (n1.set z.toNat ⟨p2.id,y,p2.b⟩)))]) (Ai h0 (Ai hin (Ai (qaG hk) (Ai hc (Ai hin (Ai (qbX hk) (Ai hl (Ai (Eq.refl (List.map (SV.ren (qau [0] 1)) [.ls 0 n,.pv (iV (p.a)),.pv (iV (v))])) (Ai (qai (qau [0] 1) [(0,0,.row 26 3 n (qam l))]) (Ai hin (Ai (qqt hs y) (Ai (qpk hs) tI)))))))))))) (by kernel_rfl)
abbrev qli (l:List Pt) (n:Nat) (s:List Pt):HpL:=[(0,0,qag s),(1,0,.row 26 3 n (qam l))]
theorem qrM {z v tn td:Int} {s l:List Pt} {n:Nat} (h0:(z==(-1))=true) :
 FnO Try.prog 62 1 2 [.ag [.ls 1 n,.ls 0 s.length,.pv (iV tn),.pv (iV td)],.pv (iV (z)),.pv (iV (v))] (qli l n s) (.pv (iV (v))) 0 [(1,0,.row 26 3 n (qam l))]:=
 qaI 300 [] [.t true]
  (qai (qaB []) [(1,0,.row 26 3 n (qam l))]) (Ai h0 tI) (by kernel_rfl)
theorem quG {z v tn td:Int} {s l:List Pt} {n:Nat} (h0:(z==(-1))=false) (h1:(v==(-1))=true) :
 FnO Try.prog 62 1 2 [.ag [.ls 1 n,.ls 0 s.length,.pv (iV tn),.pv (iV td)],.pv (iV (z)),.pv (iV (v))] (qli l n s) (.pv (iV (z))) 0 [(1,0,.row 26 3 n (qam l))]:=
 qaI 300 [] [.t false,.t true]
  (qai (qaB []) [(1,0,.row 26 3 n (qam l))]) (Ai h0 (Ai h1 tI)) (by kernel_rfl)
theorem quv {x z v tn td:Int} {s l n1:List Pt} {p:Pt} {n:Nat} {p1 q1 p2:Pt} (h0:(z==(-1))=false) (h1:(v==(-1))=false) (hin:0≤z∧z<(n:Int)) (hjn:0≤v∧v<(n:Int)) (hpn:0≤z∧z<(s.length:Int)) (hqn:0≤v∧v<(s.length:Int)) (hp:s[z.toNat]?=some p1) (hq:s[v.toNat]?=some q1) (hw:Pure Try.prog 79 #[ptV p1,ptV q1,qab tn td] (.tuple #[.bool true,iV 0])) (hk:l[z.toNat]?=some p) (hl:FnO Try.prog 62 1 2 [.ag [.ls 1 n,.ls 0 s.length,.pv (iV tn),.pv (iV td)],.pv (iV (p.b)),.pv (iV (v))] (qli l n s) (.pv (iV (x))) 0 [(1,0,.row 26 3 n (qam n1))]) (hs:n1[z.toNat]?=some p2) :
 FnO Try.prog 62 1 2 [.ag [.ls 1 n,.ls 0 s.length,.pv (iV tn),.pv (iV td)],.pv (iV (z)),.pv (iV (v))] (qli l n s) (.pv (iV (z))) 0 [(1,0,.row 26 3 n (qam (n1.set z.toNat ⟨p2.id,p2.a,x⟩)))]:=
 qaI 300 [] [.t false,.t false,.r (ptV p1),.r (ptV q1),.r (.tuple #[.bool true,iV 0]),.gh [(2,0),(2,1),(2,2),(2,3)],.r (iV p.b),.fo 1 [0,1] [.ag [.ls 1 n,.ls 0 s.length,.pv (iV tn),.pv (iV td)],.pv (iV (p.b)),.pv (iV (v))] (qli l n s) (.pv (iV (x))) 0 [(1,0,.row 26 3 n (qam n1))],.w (qam (n1.set z.toNat ⟨p2.id,p2.a,x⟩))]
  (qai (qaB []) [(1,0,.row 26 3 n (qam (n1.set z.toNat ⟨p2.id,p2.a,x⟩)))]) (Ai h0 (Ai h1 (Ai hpn (Ai (qbm hp) (Ai hqn (Ai (qbm hq) (Ai hw (Ai (Er (SV.ls 1 n)) (Ai (Er (SV.ls 0 s.length)) (Ai (Er (SV.pv (iV tn))) (Ai (Er (SV.pv (iV td))) (Ai hin (Ai (Er (SV.ls 1 n)) (Ai (Er (SV.ls 0 s.length)) (Ai (Er (SV.pv (iV tn))) (Ai (Er (SV.pv (iV td))) (Ai (Er (SV.ls 1 n)) (Ai (Er (SV.ls 0 s.length)) (Ai (Er (SV.pv (iV tn))) (Ai (Er (SV.pv (iV td))) (Ai (qcf hk) (Ai (Er (SV.ls 1 n)) (Ai (Er (SV.ls 0 s.length)) (Ai (Er (SV.pv (iV tn))) (Ai (Er (SV.pv (iV td))) (Ai hl (Ai (Eq.refl (List.map (SV.ren (qau [0,1] 3)) [.ag [.ls 1 n,.ls 0 s.length,.pv (iV tn),.pv (iV td)],.pv (iV (p.b)),.pv (iV (v))])) (Ai (qai (qau [0,1] 3) (qli l n s)) (Ai (Er (SV.ls 1 n)) (Ai (Er (SV.ls 0 s.length)) (Ai (Er (SV.pv (iV tn))) (Ai (Er (SV.pv (iV td))) (Ai hin (Ai (Er (SV.ls 1 n)) (Ai (Er (SV.ls 0 s.length)) (Ai (Er (SV.pv (iV tn))) (Ai (Er (SV.pv (iV td))) (Ai (Er (SV.ls 1 n)) (Ai (Er (SV.ls 0 s.length)) (Ai (Er (SV.pv (iV tn))) (Ai (Er (SV.pv (iV td))) (Ai (qmI hs x) (Ai (qlS hs) (Ai (Er (SV.ls 1 n)) (Ai (Er (SV.ls 0 s.length)) (Ai (Er (SV.pv (iV tn))) (Ai (Er (SV.pv (iV td))) tI))))))))))))))))))))))))))))))))))))))))))))))) (by kernel_rfl)
theorem quJ {x z v tn td:Int} {s l n1:List Pt} {q:Pt} {n:Nat} {p1 q1 p2:Pt} (h0:(z==(-1))=false) (h1:(v==(-1))=false) (hin:0≤z∧z<(n:Int)) (hjn:0≤v∧v<(n:Int)) (hpn:0≤z∧z<(s.length:Int)) (hqn:0≤v∧v<(s.length:Int)) (hp:s[z.toNat]?=some p1) (hq:s[v.toNat]?=some q1) (hw:Pure Try.prog 79 #[ptV p1,ptV q1,qab tn td] (.tuple #[.bool false,iV 0])) (hk:l[v.toNat]?=some q) (hl:FnO Try.prog 62 1 2 [.ag [.ls 1 n,.ls 0 s.length,.pv (iV tn),.pv (iV td)],.pv (iV (z)),.pv (iV (q.a))] (qli l n s) (.pv (iV (x))) 0 [(1,0,.row 26 3 n (qam n1))]) (hs:n1[v.toNat]?=some p2) :
 FnO Try.prog 62 1 2 [.ag [.ls 1 n,.ls 0 s.length,.pv (iV tn),.pv (iV td)],.pv (iV (z)),.pv (iV (v))] (qli l n s) (.pv (iV (v))) 0 [(1,0,.row 26 3 n (qam (n1.set v.toNat ⟨p2.id,x,p2.b⟩)))]:=
 qaI 300 [] [.t false,.t false,.r (ptV p1),.r (ptV q1),.r (.tuple #[.bool false,iV 0]),.gh [(2,0),(2,1),(2,2),(2,3)],.r (iV q.a),.fo 1 [0,1] [.ag [.ls 1 n,.ls 0 s.length,.pv (iV tn),.pv (iV td)],.pv (iV (z)),.pv (iV (q.a))] (qli l n s) (.pv (iV (x))) 0 [(1,0,.row 26 3 n (qam n1))],.w (qam (n1.set v.toNat ⟨p2.id,x,p2.b⟩))]
  (qai (qaB []) [(1,0,.row 26 3 n (qam (n1.set v.toNat ⟨p2.id,x,p2.b⟩)))]) (Ai h0 (Ai h1 (Ai hpn (Ai (qbm hp) (Ai hqn (Ai (qbm hq) (Ai hw (Ai (Er (SV.ls 1 n)) (Ai (Er (SV.ls 0 s.length)) (Ai (Er (SV.pv (iV tn))) (Ai (Er (SV.pv (iV td))) (Ai hjn (Ai (Er (SV.ls 1 n)) (Ai (Er (SV.ls 0 s.length)) (Ai (Er (SV.pv (iV tn))) (Ai (Er (SV.pv (iV td))) (Ai (Er (SV.ls 1 n)) (Ai (Er (SV.ls 0 s.length)) (Ai (Er (SV.pv (iV tn))) (Ai (Er (SV.pv (iV td))) (Ai (qbX hk) (Ai (Er (SV.ls 1 n)) (Ai (Er (SV.ls 0 s.length)) (Ai (Er (SV.pv (iV tn))) (Ai (Er (SV.pv (iV td))) (Ai hl (Ai (Eq.refl (List.map (SV.ren (qau [0,1] 3)) [.ag [.ls 1 n,.ls 0 s.length,.pv (iV tn),.pv (iV td)],.pv (iV (z)),.pv (iV (q.a))])) (Ai (qai (qau [0,1] 3) (qli l n s)) (Ai (Er (SV.ls 1 n)) (Ai (Er (SV.ls 0 s.length)) (Ai (Er (SV.pv (iV tn))) (Ai (Er (SV.pv (iV td))) (Ai hjn (Ai (Er (SV.ls 1 n)) (Ai (Er (SV.ls 0 s.length)) (Ai (Er (SV.pv (iV tn))) (Ai (Er (SV.pv (iV td))) (Ai (Er (SV.ls 1 n)) (Ai (Er (SV.ls 0 s.length)) (Ai (Er (SV.pv (iV tn))) (Ai (Er (SV.pv (iV td))) (Ai (qqt hs x) (Ai (qpk hs) (Ai (Er (SV.ls 1 n)) (Ai (Er (SV.ls 0 s.length)) (Ai (Er (SV.pv (iV tn))) (Ai (Er (SV.pv (iV td))) tI))))))))))))))))))))))))))))))))))))))))))))))) (by kernel_rfl)
end Go.Proofs.Ytalnjplghagbpaa

namespace Go.Proofs.Ytalnjplghagbpaa
set_option maxRecDepth 100000
open Go.RowKit
abbrev quU (l:List Pt) (rt:Int):Prop:=Fn 96 1 [trS 0 rt l,.pv (iV (rt)),.pv (.slice none 0 0)] [(0,0,qaa l)] (.pv (.slice none 0 0)) 0 []
theorem qpD {rt:Int} {l:List Pt} (hw:quU l rt) :
 Fn 73 1 [trS 0 rt l] [(0,0,qaa l)] (.pv (.slice none 0 0)) 0 []:=
 Fz [] [Cf hw [0]]
  tI (Co hw [0] 2 tI)
abbrev qqv (g:List Int) (l:List Pt) (rt:Int):Prop:=Fn 96 1 [trS 0 rt l,.pv (iV (rt)),.pv (.slice none 0 0)] [(0,0,qaa l)] (.ls 1 g.length) 1 [(1,0,zrI g)]
theorem qq6 {rt:Int} {l:List Pt} {g:List Int} (hw:qqv g l rt) :
 Fn 73 1 [trS 0 rt l] [(0,0,qaa l)] (.ls 1 g.length) 1 [(1,0,zrI g)]:=
 Fz [(1,2)] [Cf hw [0]]
  (qai (qaB [(1,2)]) [(1,0,zrI g)]) (Co hw [0] 2 tI)
theorem qpQ {rt:Int} {l:List Pt} (hw:quU l rt) (he:((0:Int)==(l.length:Int))=true) :
 Fn 72 1 [trS 0 rt l] [(0,0,qaa l)] (.pv (.bool true)) 0 []:=
 Fz [] [.md,Cf hw [0],.t true]
  tI (Co hw [0] 2 (Ai he tI))
theorem qmZ {rt:Int} {l:List Pt} (hw:quU l rt) (he:((0:Int)==(l.length:Int))=false) :
 Fn 72 1 [trS 0 rt l] [(0,0,qaa l)] (.pv (.bool false)) 0 []:=
 Fz [] [.md,Cf hw [0],.t false]
  tI (Co hw [0] 2 (Ai he tI))
theorem qme {rt:Int} {l:List Pt} {g:List Int} (hw:qqv g l rt) (he:((g.length:Int)==(l.length:Int))=true) :
 Fn 72 1 [trS 0 rt l] [(0,0,qaa l)] (.pv (.bool true)) 0 []:=
 Fz [] [.md,Cf hw [0],.t true]
  tI (Co hw [0] 2 (Ai he tI))
theorem qjD {rt:Int} {l:List Pt} {g:List Int} (hw:qqv g l rt) (he:((g.length:Int)==(l.length:Int))=false) :
 Fn 72 1 [trS 0 rt l] [(0,0,qaa l)] (.pv (.bool false)) 0 []:=
 Fz [] [.md,Cf hw [0],.t false]
  tI (Co hw [0] 2 (Ai he tI))
theorem qlL {rt z:Int} {l:List Pt} {p:Pt} {g:List Int} {k n:Nat} {vs:List Value} (hlt:decide ((k:Int)<(g.length:Int))=true) (hin:0≤(k:Int)∧(k:Int)<(g.length:Int)) (hg:g[k]?=some z) (hiz:0≤z∧z<(l.length:Int)) (hk:l[z.toNat]?=some p) (hn:n+1≤1000000) (hs:iV (IntKind.i64.wrap ((k:Int)+1))=iV (((k+1:Nat):Int))) {e:Exit} {tm2:TmL} {hp2:HpL}
 (r:Rl 1 1 66 0 27 4 ([(1,.pp 1 0),(3,.ls 3 (n+1)),(4,.ls 2 g.length),(5,.pv (iV ((k+1:Nat):Int)))]) ([(1,0,.pv (iV rt)),(1,1,.ls 0 l.length),(0,0,qaa l),(2,0,zrI g),(3,0,.row 3 1 (n+1) (vs++[iV p.id]))]) e tm2 hp2):Rl 1 1 66 0 27 4 ([(1,.pp 1 0),(3,.ls 3 n),(4,.ls 2 g.length),(5,.pv (iV (k:Int)))]) ([(1,0,.pv (iV rt)),(1,1,.ls 0 l.length),(0,0,qaa l),(2,0,zrI g),(3,0,.row 3 1 n (vs))]) e tm2 hp2:=
 RunsL.next [(3,5)] 300 [.t true,.md,.r (iV z),.r (iV p.id),Re hs]
  (Ro (Ai hlt (Ai hin (Ai (qgd hg) (Ai hiz (Ai (qaG hk) (Ai hn (Ai hs tI)))))))) r
theorem qo6 {rt:Int} {l:List Pt} {g:List Int} {k n:Nat} {vs:List Value} (hlt:decide ((k:Int)<(g.length:Int))=false):Rl 1 1 66 0 27 4 ([(1,.pp 1 0),(3,.ls 3 n),(4,.ls 2 g.length),(5,.pv (iV (k:Int)))]) ([(1,0,.pv (iV rt)),(1,1,.ls 0 l.length),(0,0,qaa l),(2,0,zrI g),(3,0,.row 3 1 n (vs))]) (.exit 0) ([(3,.ls 3 n)]) ([(3,0,.row 3 1 n (vs))]):=
 RunsL.stop [] 300 [.t false] (fun h=>by cases h)
  (Ro (Ai hlt tI))
abbrev qsN (g:List Int) (l:List Pt) (rt:Int):Prop:=Fn 73 1 [trS 0 rt l] [(0,0,qaa l)] (.ls 1 g.length) 1 [(1,0,zrI g)]
theorem qtg {rt:Int} {l:List Pt} {g:List Int} {n:Nat} {vs:List Value} (hw:qsN g l rt) (r0:Rl 1 1 66 0 27 4 ([(1,.pp 1 0),(3,.ls 3 0),(4,.ls 2 g.length),(5,.pv (iV ((0:Nat):Int)))]) ([(1,0,.pv (iV rt)),(1,1,.ls 0 l.length),(0,0,qaa l),(2,0,zrI g),(3,0,.row 3 1 0 ([]))]) (.exit 0) ([(3,.ls 3 n)]) ([(3,0,.row 3 1 n (vs))])) :
 Fn 66 1 [trS 0 rt l] [(0,0,qaa l)] (.ls 1 n) 1 [(1,0,.row 3 1 n (vs))]:=
 Fz [(1,3)] [Cf hw [0],.ln true 3 0 3 1,Lf r0]
  (qai (qaB [(1,3)]) [(1,0,.row 3 1 n (vs))]) (Co hw [0] 2 (Lo r0 [] tI))
theorem qnv {rt:Int} {l:List Pt} (hm:decide ((l.length:Int)>64)=true) :
 Fn 34 1 [trS 0 rt l] [(0,0,qaa l)] (.pv (iV (4))) 0 []:=
 Fz [] [.t true]
  tI (Ai hm tI)
theorem qlz {rt:Int} {l:List Pt} (hm:decide ((l.length:Int)>64)=false) (hl:Fn 70 1 [trS 0 rt l,.pv (iV (rt))] [(0,0,qaa l)] (.pv (.bool false)) 0 []) :
 Fn 34 1 [trS 0 rt l] [(0,0,qaa l)] (.pv (iV (8))) 0 []:=
 Fz [] [.t false,Cf hl [0],.k]
  tI (Ai hm (Co hl [0] 2 tI))
abbrev qi0 (l:List Pt) (rt:Int):Prop:=Fn 70 1 [trS 0 rt l,.pv (iV (rt))] [(0,0,qaa l)] (.pv (.bool true)) 0 []
theorem qka {rt:Int} {l:List Pt} (hm:decide ((l.length:Int)>64)=false) (hl:qi0 l rt) (hr:(rt==(-1))=true) (h0:((l.length:Int)==0)=false) :
 Fn 34 1 [trS 0 rt l] [(0,0,qaa l)] (.pv (iV (8))) 0 []:=
 Fz [] [.t false,Cf hl [0],.k,.t true,.t false,.k]
  tI (Ai hm (Co hl [0] 2 (Ai hr (Ai h0 tI))))
theorem qiW {rt:Int} {l:List Pt} (hm:decide ((l.length:Int)>64)=false) (hl:qi0 l rt) (hr:(rt==(-1))=false) (h0:((l.length:Int)==0)=true) :
 Fn 34 1 [trS 0 rt l] [(0,0,qaa l)] (.pv (iV (8))) 0 []:=
 Fz [] [.t false,Cf hl [0],.k,.t false,.t true,.k]
  tI (Ai hm (Co hl [0] 2 (Ai hr (Ai h0 tI))))
abbrev qmj (l:List Pt) (rt:Int):HpL:=[(1,0,.pv (iV rt)),(1,1,.ls 0 l.length),(0,0,qaa l)]
abbrev qiF (k:Nat):TmL:=[(1,.pp 1 0),(3,.pv (iV (k:Int)))]
theorem qrG {rt:Int} {l:List Pt} {p:Pt} {k:Nat} (hlt:decide ((k:Int)<(l.length:Int))=true) (hk:l[k]?=some p) (hin:0≤(k:Int)∧(k:Int)<(l.length:Int)) (ha:Fn 70 1 [trS 0 rt l,.pv (iV (p.a))] [(0,0,qaa l)] (.pv (.bool false)) 0 []):Rl 1 1 34 0 96 2 (qiF k) (qmj l rt) (.ret) ([(2,.pv (iV 8))]) ([]):=
 RunsL.stop [] 300 [.t true,.r (ptV p),Cf ha [0],.k] (fun h=>by cases h)
  (Ro (Ai hlt (Ai hin (Ai (qa1 hk) (Co ha [0] 3 tI)))))
abbrev qtS (l:List Pt) (p:Pt) (rt:Int):Prop:=Fn 70 1 [trS 0 rt l,.pv (iV (p.a))] [(0,0,qaa l)] (.pv (.bool true)) 0 []
theorem qr6 {rt:Int} {l:List Pt} {p:Pt} {k:Nat} (hlt:decide ((k:Int)<(l.length:Int))=true) (hk:l[k]?=some p) (hin:0≤(k:Int)∧(k:Int)<(l.length:Int)) (ha:qtS l p rt) (hb:Fn 70 1 [trS 0 rt l,.pv (iV (p.b))] [(0,0,qaa l)] (.pv (.bool false)) 0 []):Rl 1 1 34 0 96 2 (qiF k) (qmj l rt) (.ret) ([(2,.pv (iV 8))]) ([]):=
 RunsL.stop [] 300 [.t true,.r (ptV p),Cf ha [0],.k,Cf hb [0],.k] (fun h=>by cases h)
  (Ro (Ai hlt (Ai hin (Ai (qa1 hk) (Co ha [0] 3 (Co hb [0] 3 tI))))))
abbrev qqD (l:List Pt) (p:Pt) (rt:Int):Prop:=Fn 70 1 [trS 0 rt l,.pv (iV (p.b))] [(0,0,qaa l)] (.pv (.bool true)) 0 []
theorem qsZ {rt:Int} {l:List Pt} {p:Pt} {k:Nat} (hlt:decide ((k:Int)<(l.length:Int))=true) (hk:l[k]?=some p) (hin:0≤(k:Int)∧(k:Int)<(l.length:Int)) (ha:qtS l p rt) (hb:qqD l p rt) (h1:decide (p.id<0)=true):Rl 1 1 34 0 96 2 (qiF k) (qmj l rt) (.ret) ([(2,.pv (iV 8))]) ([]):=
 RunsL.stop [] 300 [.t true,.r (ptV p),Cf ha [0],.k,Cf hb [0],.k,.t true] (fun h=>by cases h)
  (Ro (Ai hlt (Ai hin (Ai (qa1 hk) (Co ha [0] 3 (Co hb [0] 3 (Ai h1 tI)))))))
theorem qs8 {rt:Int} {l:List Pt} {p:Pt} {k:Nat} (hlt:decide ((k:Int)<(l.length:Int))=true) (hk:l[k]?=some p) (hin:0≤(k:Int)∧(k:Int)<(l.length:Int)) (ha:qtS l p rt) (hb:qqD l p rt) (h1:decide (p.id<0)=false) (h2:decide (p.id>65535)=true):Rl 1 1 34 0 96 2 (qiF k) (qmj l rt) (.ret) ([(2,.pv (iV 8))]) ([]):=
 RunsL.stop [] 300 [.t true,.r (ptV p),Cf ha [0],.k,Cf hb [0],.k,.t false,.t true] (fun h=>by cases h)
  (Ro (Ai hlt (Ai hin (Ai (qa1 hk) (Co ha [0] 3 (Co hb [0] 3 (Ai h1 (Ai h2 tI))))))))
theorem qlm {rt:Int} {l:List Pt} {p:Pt} {k:Nat} (hlt:decide ((k:Int)<(l.length:Int))=true) (hk:l[k]?=some p) (hin:0≤(k:Int)∧(k:Int)<(l.length:Int)) (ha:qtS l p rt) (hb:qqD l p rt) (h1:decide (p.id<0)=false) (h2:decide (p.id>65535)=false) (hs:iV (IntKind.i64.wrap ((k:Int)+1))=iV (((k+1:Nat):Int))) {e:Exit} {tm2:TmL} {hp2:HpL}
 (r:Rl 1 1 34 0 96 2 ([(1,.pp 1 0),(3,.pv (iV ((k+1:Nat):Int)))]) (qmj l rt) e tm2 hp2):Rl 1 1 34 0 96 2 (qiF k) (qmj l rt) e tm2 hp2:=
 RunsL.next [] 300 [.t true,.r (ptV p),Cf ha [0],.k,Cf hb [0],.k,.t false,.t false,Re hs]
  (Ro (Ai hlt (Ai hin (Ai (qa1 hk) (Co ha [0] 3 (Co hb [0] 3 (Ai h1 (Ai h2 (Ai hs tI))))))))) r
theorem qqu {rt:Int} {l:List Pt} {k:Nat} (hlt:decide ((k:Int)<(l.length:Int))=false):Rl 1 1 34 0 96 2 (qiF k) (qmj l rt) (.exit 0) ([(1,.pp 1 0)]) (qmj l rt):=
 RunsL.stop [] 300 [.t false] (fun h=>by cases h)
  (Ro (Ai hlt tI))
abbrev qn6 (g:List Int) (l:List Pt) (rt:Int):HpL:=[(1,0,.pv (iV rt)),(1,1,.ls 0 l.length),(0,0,qaa l),(2,0,zrI g)]
theorem qky {rt y z:Int} {l:List Pt} {p q:Pt} {g:List Int} {j k:Nat} (hlt:decide ((k:Int)<(g.length:Int))=true) (hs1:iV (IntKind.i64.wrap ((k:Int)-1))=iV (j:Int)) (hji:0≤(j:Int)∧(j:Int)<(g.length:Int)) (hgj:g[j]?=some y) (hyi:0≤y∧y<(l.length:Int)) (hp:l[y.toNat]?=some p) (hki:0≤(k:Int)∧(k:Int)<(g.length:Int)) (hgk:g[k]?=some z) (hzi:0≤z∧z<(l.length:Int)) (hq:l[z.toNat]?=some q) (hc:decide (p.id≥q.id)=false) (hs:iV (IntKind.i64.wrap ((k:Int)+1))=iV (((k+1:Nat):Int))) {e:Exit} {tm2:TmL} {hp2:HpL}
 (r:Rl 1 1 34 1 96 3 ([(1,.pp 1 0),(5,.ls 2 g.length),(6,.pv (iV ((k+1:Nat):Int)))]) (qn6 g l rt) e tm2 hp2):Rl 1 1 34 1 96 3 ([(1,.pp 1 0),(5,.ls 2 g.length),(6,.pv (iV (k:Int)))]) (qn6 g l rt) e tm2 hp2:=
 RunsL.next [] 300 [.t true,Re hs1,.r (iV y),.r (iV p.id),.r (iV z),.r (iV q.id),.t false,Re hs]
  (Ro (Ai hlt (Ai hs1 (Ai hji (Ai (qgd hgj) (Ai hyi (Ai (qaG hp) (Ai hki (Ai (qgd hgk) (Ai hzi (Ai (qaG hq) (Ai hc (Ai hs tI))))))))))))) r
theorem qlP {rt y z:Int} {l:List Pt} {p q:Pt} {g:List Int} {j k:Nat} (hlt:decide ((k:Int)<(g.length:Int))=true) (hs1:iV (IntKind.i64.wrap ((k:Int)-1))=iV (j:Int)) (hji:0≤(j:Int)∧(j:Int)<(g.length:Int)) (hgj:g[j]?=some y) (hyi:0≤y∧y<(l.length:Int)) (hp:l[y.toNat]?=some p) (hki:0≤(k:Int)∧(k:Int)<(g.length:Int)) (hgk:g[k]?=some z) (hzi:0≤z∧z<(l.length:Int)) (hq:l[z.toNat]?=some q) (hc:decide (p.id≥q.id)=true):Rl 1 1 34 1 96 3 ([(1,.pp 1 0),(5,.ls 2 g.length),(6,.pv (iV (k:Int)))]) (qn6 g l rt) (.ret) ([(2,.pv (iV 8))]) ([]):=
 RunsL.stop [] 300 [.t true,Re hs1,.r (iV y),.r (iV p.id),.r (iV z),.r (iV q.id),.t true] (fun h=>by cases h)
  (Ro (Ai hlt (Ai hs1 (Ai hji (Ai (qgd hgj) (Ai hyi (Ai (qaG hp) (Ai hki (Ai (qgd hgk) (Ai hzi (Ai (qaG hq) (Ai hc tI))))))))))))
theorem qhv {rt:Int} {l:List Pt} {g:List Int} {k:Nat} (hlt:decide ((k:Int)<(g.length:Int))=false):Rl 1 1 34 1 96 3 ([(1,.pp 1 0),(5,.ls 2 g.length),(6,.pv (iV (k:Int)))]) (qn6 g l rt) (.exit 2) ([]) ([]):=
 RunsL.stop [] 300 [.t false] (fun h=>by cases h)
  (Ro (Ai hlt tI))
abbrev qsc (l:List Pt) (rt:Int):Prop:=Rl 1 1 34 0 96 2 ([(1,.pp 1 0),(3,.pv (iV ((0:Nat):Int)))]) (qmj l rt) (.ret) ([(2,.pv (iV 8))]) ([])
theorem qm0 {rt:Int} {l:List Pt} (hm:decide ((l.length:Int)>64)=false) (hl:qi0 l rt) (hr:(rt==(-1))=true) (h0:((l.length:Int)==0)=true) (r0:qsc l rt) :
 Fn 34 1 [trS 0 rt l] [(0,0,qaa l)] (.pv (iV (8))) 0 []:=
 Fz [] [.t false,Cf hl [0],.k,.t true,.t true,.k,Lf r0]
  tI (Ai hm (Co hl [0] 2 (Ai hr (Ai h0 (Lo r0 [] tI)))))
abbrev qn1 (l:List Pt) (rt:Int):Prop:=Rl 1 1 34 0 96 2 ([(1,.pp 1 0),(3,.pv (iV ((0:Nat):Int)))]) ([(1,0,.pv (iV rt)),(1,1,.ls 0 l.length),(0,0,qaa l)]) (.exit 0) ([(1,.pp 1 0)]) ([(1,0,.pv (iV rt)),(1,1,.ls 0 l.length),(0,0,qaa l)])
theorem qjn {rt:Int} {l:List Pt} (hm:decide ((l.length:Int)>64)=false) (hl:qi0 l rt) (hr:(rt==(-1))=true) (h0:((l.length:Int)==0)=true) (r0:qn1 l rt) (ho:Fn 71 1 [trS 0 rt l] [(0,0,qaa l)] (.pv (.bool false)) 0 []) :
 Fn 34 1 [trS 0 rt l] [(0,0,qaa l)] (.pv (iV (8))) 0 []:=
 Fz [] [.t false,Cf hl [0],.k,.t true,.t true,.k,Lf r0,Cf ho [0],.k]
  tI (Ai hm (Co hl [0] 2 (Ai hr (Ai h0 (Lo r0 [] (Co ho [0] 2 tI))))))
abbrev qqO (l:List Pt) (rt:Int):Prop:=Fn 71 1 [trS 0 rt l] [(0,0,qaa l)] (.pv (.bool true)) 0 []
theorem qiV {rt:Int} {l:List Pt} (hm:decide ((l.length:Int)>64)=false) (hl:qi0 l rt) (hr:(rt==(-1))=true) (h0:((l.length:Int)==0)=true) (r0:qn1 l rt) (ho:qqO l rt) (hrc:Fn 72 1 [trS 0 rt l] [(0,0,qaa l)] (.pv (.bool false)) 0 []) :
 Fn 34 1 [trS 0 rt l] [(0,0,qaa l)] (.pv (iV (8))) 0 []:=
 Fz [] [.t false,Cf hl [0],.k,.t true,.t true,.k,Lf r0,Cf ho [0],.k,Cf hrc [0],.k]
  tI (Ai hm (Co hl [0] 2 (Ai hr (Ai h0 (Lo r0 [] (Co ho [0] 2 (Co hrc [0] 2 tI)))))))
abbrev qmC (g:List Int):TmL:=[(1,.pp 1 0),(5,.ls 2 g.length),(6,.pv (iV ((1:Nat):Int)))]
abbrev qmW (l:List Pt) (rt:Int):Prop:=Fn 72 1 [trS 0 rt l] [(0,0,qaa l)] (.pv (.bool true)) 0 []
theorem qlR {rt:Int} {l:List Pt} {g:List Int} (hm:decide ((l.length:Int)>64)=false) (hl:qi0 l rt) (hr:(rt==(-1))=true) (h0:((l.length:Int)==0)=true) (r0:qn1 l rt) (ho:qqO l rt) (hrc:qmW l rt) (hw:qsN g l rt) (r1:Rl 1 1 34 1 96 3 (qmC g) (qn6 g l rt) (.ret) ([(2,.pv (iV 8))]) ([])) :
 Fn 34 1 [trS 0 rt l] [(0,0,qaa l)] (.pv (iV (8))) 0 []:=
 Fz [] [.t false,Cf hl [0],.k,.t true,.t true,.k,Lf r0,Cf ho [0],.k,Cf ho [0],.k,Cf hw [0],Lf r1]
  tI (Ai hm (Co hl [0] 2 (Ai hr (Ai h0 (Lo r0 [] (Co ho [0] 2 (Co hrc [0] 2 (Co hw [0] 2 (Lo r1 [] tI)))))))))
theorem qoG {rt:Int} {l:List Pt} {g:List Int} (hm:decide ((l.length:Int)>64)=false) (hl:qi0 l rt) (hr:(rt==(-1))=true) (h0:((l.length:Int)==0)=true) (r0:qn1 l rt) (ho:qqO l rt) (hrc:qmW l rt) (hw:qsN g l rt) (r1:Rl 1 1 34 1 96 3 (qmC g) (qn6 g l rt) (.exit 2) ([]) ([])) :
 Fn 34 1 [trS 0 rt l] [(0,0,qaa l)] (.pv (iV (0))) 0 []:=
 Fz [] [.t false,Cf hl [0],.k,.t true,.t true,.k,Lf r0,Cf ho [0],.k,Cf ho [0],.k,Cf hw [0],Lf r1]
  tI (Ai hm (Co hl [0] 2 (Ai hr (Ai h0 (Lo r0 [] (Co ho [0] 2 (Co hrc [0] 2 (Co hw [0] 2 (Lo r1 [] tI)))))))))
theorem qmn {rt:Int} {l:List Pt} (hm:decide ((l.length:Int)>64)=false) (hl:qi0 l rt) (hr:(rt==(-1))=false) (h0:((l.length:Int)==0)=false) (r0:qsc l rt) :
 Fn 34 1 [trS 0 rt l] [(0,0,qaa l)] (.pv (iV (8))) 0 []:=
 Fz [] [.t false,Cf hl [0],.k,.t false,.t false,.k,Lf r0]
  tI (Ai hm (Co hl [0] 2 (Ai hr (Ai h0 (Lo r0 [] tI)))))
theorem qki {rt:Int} {l:List Pt} (hm:decide ((l.length:Int)>64)=false) (hl:qi0 l rt) (hr:(rt==(-1))=false) (h0:((l.length:Int)==0)=false) (r0:qn1 l rt) (ho:Fn 71 1 [trS 0 rt l] [(0,0,qaa l)] (.pv (.bool false)) 0 []) :
 Fn 34 1 [trS 0 rt l] [(0,0,qaa l)] (.pv (iV (8))) 0 []:=
 Fz [] [.t false,Cf hl [0],.k,.t false,.t false,.k,Lf r0,Cf ho [0],.k]
  tI (Ai hm (Co hl [0] 2 (Ai hr (Ai h0 (Lo r0 [] (Co ho [0] 2 tI))))))
theorem qib {rt:Int} {l:List Pt} (hm:decide ((l.length:Int)>64)=false) (hl:qi0 l rt) (hr:(rt==(-1))=false) (h0:((l.length:Int)==0)=false) (r0:qn1 l rt) (ho:qqO l rt) (hrc:Fn 72 1 [trS 0 rt l] [(0,0,qaa l)] (.pv (.bool false)) 0 []) :
 Fn 34 1 [trS 0 rt l] [(0,0,qaa l)] (.pv (iV (8))) 0 []:=
 Fz [] [.t false,Cf hl [0],.k,.t false,.t false,.k,Lf r0,Cf ho [0],.k,Cf hrc [0],.k]
  tI (Ai hm (Co hl [0] 2 (Ai hr (Ai h0 (Lo r0 [] (Co ho [0] 2 (Co hrc [0] 2 tI)))))))
theorem qlY {rt:Int} {l:List Pt} {g:List Int} (hm:decide ((l.length:Int)>64)=false) (hl:qi0 l rt) (hr:(rt==(-1))=false) (h0:((l.length:Int)==0)=false) (r0:qn1 l rt) (ho:qqO l rt) (hrc:qmW l rt) (hw:qsN g l rt) (r1:Rl 1 1 34 1 96 3 (qmC g) (qn6 g l rt) (.ret) ([(2,.pv (iV 8))]) ([])) :
 Fn 34 1 [trS 0 rt l] [(0,0,qaa l)] (.pv (iV (8))) 0 []:=
 Fz [] [.t false,Cf hl [0],.k,.t false,.t false,.k,Lf r0,Cf ho [0],.k,Cf ho [0],.k,Cf hw [0],Lf r1]
  tI (Ai hm (Co hl [0] 2 (Ai hr (Ai h0 (Lo r0 [] (Co ho [0] 2 (Co hrc [0] 2 (Co hw [0] 2 (Lo r1 [] tI)))))))))
theorem qph {rt:Int} {l:List Pt} {g:List Int} (hm:decide ((l.length:Int)>64)=false) (hl:qi0 l rt) (hr:(rt==(-1))=false) (h0:((l.length:Int)==0)=false) (r0:qn1 l rt) (ho:qqO l rt) (hrc:qmW l rt) (hw:qsN g l rt) (r1:Rl 1 1 34 1 96 3 (qmC g) (qn6 g l rt) (.exit 2) ([]) ([])) :
 Fn 34 1 [trS 0 rt l] [(0,0,qaa l)] (.pv (iV (0))) 0 []:=
 Fz [] [.t false,Cf hl [0],.k,.t false,.t false,.k,Lf r0,Cf ho [0],.k,Cf ho [0],.k,Cf hw [0],Lf r1]
  tI (Ai hm (Co hl [0] 2 (Ai hr (Ai h0 (Lo r0 [] (Co ho [0] 2 (Co hrc [0] 2 (Co hw [0] 2 (Lo r1 [] tI)))))))))
abbrev qtr (n:Nat) (s:List Pt) (td:Int) (tn:Int) (vs:List Value):HpL:=[(1,0,.ls 0 s.length),(2,0,.pv (iV tn)),(2,1,.pv (iV td)),(3,0,.pv (iV 0)),(3,1,.pv (.slice none 0 0)),(4,0,.pv (iV 0)),(4,1,.ls 5 n),(0,0,qag s),(5,0,.row 26 3 n (vs))]
theorem qmP {tn td:Int} {s:List Pt} {p:Pt} {k n:Nat} {vs:List Value} (hlt:decide ((k:Int)<(s.length:Int))=true) (hk:s[k]?=some p) (hin:0≤(k:Int)∧(k:Int)<(s.length:Int)) (hn:n+1≤1000000) (hs:iV (IntKind.i64.wrap ((k:Int)+1))=iV (((k+1:Nat):Int))) {e:Exit} {tm2:TmL} {hp2:HpL}
 (r:Rl 1 1 65 0 35 6 ([(2,.pp 1 0),(3,.pp 2 0),(4,.pp 3 0),(5,.pp 4 0),(6,.pv (iV ((k+1:Nat):Int)))]) ([(1,0,.ls 0 s.length),(2,0,.pv (iV tn)),(2,1,.pv (iV td)),(3,0,.pv (iV 0)),(3,1,.pv (.slice none 0 0)),(4,0,.pv (iV 0)),(4,1,.ls 5 (n+1)),(0,0,qag s),(5,0,.row 26 3 (n+1) (vs++[iV p.id,iV 0,iV 0]))]) e tm2 hp2):Rl 1 1 65 0 35 6 ([(2,.pp 1 0),(3,.pp 2 0),(4,.pp 3 0),(5,.pp 4 0),(6,.pv (iV (k:Int)))]) (qtr n s td tn vs) e tm2 hp2:=
 RunsL.next [(5,7)] 300 [.t true,.md,.r (iV p.id),Re hs]
  (Ro (Ai hlt (Ai hin (Ai (qcg hk) (Ai hn (Ai hs tI)))))) r
theorem qoQ {tn td:Int} {s:List Pt} {k n:Nat} {vs:List Value} (hlt:decide ((k:Int)<(s.length:Int))=false):Rl 1 1 65 0 35 6 ([(2,.pp 1 0),(3,.pp 2 0),(4,.pp 3 0),(5,.pp 4 0),(6,.pv (iV (k:Int)))]) (qtr n s td tn vs) (.exit 0) ([(2,.pp 1 0),(3,.pp 2 0),(4,.pp 3 0),(5,.pp 4 0)]) (qtr n s td tn vs):=
 RunsL.stop [] 300 [.t false] (fun h=>by cases h)
  (Ro (Ai hlt tI))
theorem qmG {z tn td:Int} {s n1:List Pt} {n:Nat} {vs:List Value} (r0:Rl 1 1 65 0 35 6 ([(2,.pp 1 0),(3,.pp 2 0),(4,.pp 3 0),(5,.pp 4 0),(6,.pv (iV ((0:Nat):Int)))]) ([(1,0,.ls 0 s.length),(2,0,.pv (iV tn)),(2,1,.pv (iV td)),(3,0,.pv (iV 0)),(3,1,.pv (.slice none 0 0)),(4,0,.pv (iV 0)),(4,1,.ls 5 0),(0,0,qag s),(5,0,.row 26 3 0 ([]))]) (.exit 0) ([(2,.pp 1 0),(3,.pp 2 0),(4,.pp 3 0),(5,.pp 4 0)]) (qtr n s td tn vs)) (hg:FnO Try.prog 94 1 2 [qas 0 s,.pv (qab tn td),.ag [.pv (iV 0),.ls 1 n],.pv (iV (0)),.pv (iV (s.length:Int))] [(0,0,qag s),(1,0,.row 26 3 n (vs))] (.pv (iV (z))) 0 [(1,0,.row 26 3 n (qam n1))]) :
 Fn 65 1 [qas 0 s,.pv (qab tn td)] [(0,0,qag s)] (.ag [.pv (iV z),.ls 1 n]) 1 [(1,0,.row 26 3 n (qam n1))]:=
 Fz [(1,5)] [.ln false 4 1 26 3,Lf r0,.fo 1 [0,5] [qas 0 s,.pv (qab tn td),.ag [.pv (iV 0),.ls 1 n],.pv (iV (0)),.pv (iV (s.length:Int))] [(0,0,qag s),(1,0,.row 26 3 n (vs))] (.pv (iV (z))) 0 [(1,0,.row 26 3 n (qam n1))]]
  (qai (qaB [(1,5)]) [(1,0,.row 26 3 n (qam n1))]) (Lo r0 [] (Ai hg (Ai (Eq.refl (List.map (SV.ren (qau [0,5] 6)) [qas 0 s,.pv (qab tn td),.ag [.pv (iV 0),.ls 1 n],.pv (iV (0)),.pv (iV (s.length:Int))])) (Ai (qai (qau [0,5] 6) [(0,0,qag s),(1,0,.row 26 3 n (vs))]) tI))))
end Go.Proofs.Ytalnjplghagbpaa

namespace Go.Proofs.Ytalnjplghagbpaa
set_option maxRecDepth 100000
open Go.RowKit
theorem qld {tn td e:Int} {s:List Pt} (ht:Fn 64 1 [qas 0 s,.pv (qab tn td)] [(0,0,qag s)] (.pv (iV (e))) 0 []) (hte:(e !=0)=true) :
 Fn 29 1 [qas 0 s,.pv (qab tn td)] [(0,0,qag s)] (.pv (.tuple #[.agg #[iV 0,.slice none 0 0],iV (e)])) 0 []:=
 Fz [] [Cf ht [0],.t true]
  tI (Co ht [0] 4 (Ai hte tI))
theorem qpr {tn td e:Int} {s n1:List Pt} {r1:Int} (ht:Fn 64 1 [qas 0 s,.pv (qab tn td)] [(0,0,qag s)] (.pv (iV (e))) 0 []) (hte:(e !=0)=false) (hm:Fn 65 1 [qas 0 s,.pv (qab tn td)] [(0,0,qag s)] (.ag [.pv (iV r1),.ls 1 n1.length]) 1 [(1,0,qaa n1)]) :
 Fn 29 1 [qas 0 s,.pv (qab tn td)] [(0,0,qag s)] (.tu [.ag [.pv (iV r1),.ls 1 n1.length],.one (.pv (iV 0))]) 1 [(1,0,qaa n1)]:=
 Fz [(1,4)] [Cf ht [0],.t false,Cf hm [0]]
  (qai (qaB [(1,4)]) [(1,0,qaa n1)]) (Co ht [0] 4 (Ai hte (Co hm [0] 4 tI)))
abbrev qjV (e1:Int) (l:List Pt) (rt:Int):Prop:=Fn 34 1 [trS 0 rt l] [(0,0,qaa l)] (.pv (iV (e1))) 0 []
theorem qs0 {rt e1:Int} {l:List Pt} (hc:qjV e1 l rt) (hce:(e1 !=0)=true) :
 Fn 30 1 [trS 0 rt l] [(0,0,qaa l)] (.pv (.tuple #[.slice none 0 0,iV (e1)])) 0 []:=
 Fz [] [Cf hc [0],.t true]
  tI (Co hc [0] 2 (Ai hce tI))
theorem qoO {rt e1:Int} {l:List Pt} {g:List Int} (hc:qjV e1 l rt) (hce:(e1 !=0)=false) (hli:Fn 66 1 [trS 0 rt l] [(0,0,qaa l)] (.ls 1 g.length) 1 [(1,0,zrI g)]) :
 Fn 30 1 [trS 0 rt l] [(0,0,qaa l)] (.tu [.one (.ls 1 g.length),.one (.pv (iV 0))]) 1 [(1,0,zrI g)]:=
 Fz [(1,2)] [Cf hc [0],.t false,Cf hli [0]]
  (qai (qaB [(1,2)]) [(1,0,zrI g)]) (Co hc [0] 2 (Ai hce (Co hli [0] 2 tI)))
theorem qvz {rt x:Int} {l m:List Pt} {w:Bool} (hal:Fn 95 2 [trS 0 rt l,trS 1 x m,.pv (iV (rt)),.pv (iV (x))] [(0,0,qaa l),(1,0,qaa m)] (.pv (.bool w)) 0 []) :
 Fn 67 2 [trS 0 rt l,trS 1 x m] [(0,0,qaa l),(1,0,qaa m)] (.pv (.bool w)) 0 []:=
 Fz [] [Cf hal [0,1]]
  tI (Co hal [0,1] 4 tI)
theorem qut {rt tn td e1:Int} {s l:List Pt} (hc:qjV e1 l rt) (hce:(e1 !=0)=true) :
 Fn 31 2 [trS 0 rt l,qas 1 s,.pv (qab tn td)] [(0,0,qaa l),(1,0,qag s)] (.pv (.tuple #[.bool false,iV (e1)])) 0 []:=
 Fz [] [Cf hc [0],.t true]
  tI (Co hc [0] 5 (Ai hce tI))
theorem qrh {rt tn td e e1:Int} {s l:List Pt} (hc:qjV e1 l rt) (hce:(e1 !=0)=false) (ht:Fn 64 1 [qas 0 s,.pv (qab tn td)] [(0,0,qag s)] (.pv (iV (e))) 0 []) (hte:(e !=0)=true) :
 Fn 31 2 [trS 0 rt l,qas 1 s,.pv (qab tn td)] [(0,0,qaa l),(1,0,qag s)] (.pv (.tuple #[.bool false,iV (e)])) 0 []:=
 Fz [] [Cf hc [0],.t false,Cf ht [1],.t true]
  tI (Co hc [0] 5 (Ai hce (Co ht [1] 5 (Ai hte tI))))
theorem qrQ {rt tn td e e1:Int} {s l n1:List Pt} {w:Bool} {r1:Int} (hc:qjV e1 l rt) (hce:(e1 !=0)=false) (ht:Fn 64 1 [qas 0 s,.pv (qab tn td)] [(0,0,qag s)] (.pv (iV (e))) 0 []) (hte:(e !=0)=false) (hm:Fn 65 1 [qas 0 s,.pv (qab tn td)] [(0,0,qag s)] (.ag [.pv (iV r1),.ls 1 n1.length]) 1 [(1,0,qaa n1)]) (hal:Fn 67 2 [trS 0 rt l,trS 1 r1 n1] [(0,0,qaa l),(1,0,qaa n1)] (.pv (.bool w)) 0 []) :
 Fn 31 2 [trS 0 rt l,qas 1 s,.pv (qab tn td)] [(0,0,qaa l),(1,0,qag s)] (.pv (.tuple #[.bool w,iV (0)])) 0 []:=
 Fz [] [Cf hc [0],.t false,Cf ht [1],.t false,.md,Cf hm [1],Cf hal [0,5]]
  tI (Co hc [0] 5 (Ai hce (Co ht [1] 5 (Ai hte (Co hm [1] 5 (Co hal [0,5] 6 tI))))))
theorem qup {rt z e1:Int} {l:List Pt} (hc:qjV e1 l rt) (hce:(e1 !=0)=true) :
 Fn 32 1 [trS 0 rt l,.pv (iV (z))] [(0,0,qaa l)] (.pv (.tuple #[iV (0),iV (e1)])) 0 []:=
 Fz [] [Cf hc [0],.t true]
  tI (Co hc [0] 2 (Ai hce tI))
theorem qs4 {rt y z e1:Int} {l:List Pt} (hc:qjV e1 l rt) (hce:(e1 !=0)=false) (hat:Fn 68 1 [trS 0 rt l,.pv (iV (z))] [(0,0,qaa l)] (.pv (iV (y))) 0 []) (hy:decide (y<0)=true) :
 Fn 32 1 [trS 0 rt l,.pv (iV (z))] [(0,0,qaa l)] (.pv (.tuple #[iV (0),iV (6)])) 0 []:=
 Fz [] [Cf hc [0],.t false,Cf hat [0],.t true]
  tI (Co hc [0] 2 (Ai hce (Co hat [0] 2 (Ai hy tI))))
theorem qsx {rt y z v e1:Int} {l:List Pt} (hc:qjV e1 l rt) (hce:(e1 !=0)=false) (hat:Fn 68 1 [trS 0 rt l,.pv (iV (z))] [(0,0,qaa l)] (.pv (iV (y))) 0 []) (hy:decide (y<0)=false) (hab:Fn 69 1 [trS 0 rt l,.pv (iV (z))] [(0,0,qaa l)] (.pv (iV (v))) 0 []) :
 Fn 32 1 [trS 0 rt l,.pv (iV (z))] [(0,0,qaa l)] (.pv (.tuple #[iV (v),iV (0)])) 0 []:=
 Fz [] [Cf hc [0],.t false,Cf hat [0],.t false,Cf hab [0]]
  tI (Co hc [0] 2 (Ai hce (Co hat [0] 2 (Ai hy (Co hab [0] 2 tI)))))
theorem quu {rt x e1:Int} {l m:List Pt} (hc:qjV e1 l rt) (hce:(e1 !=0)=true) :
 Fn 33 2 [trS 0 rt l,trS 1 x m] [(0,0,qaa l),(1,0,qaa m)] (.pv (.tuple #[.bool false,iV (e1)])) 0 []:=
 Fz [] [Cf hc [0],.t true]
  tI (Co hc [0] 4 (Ai hce tI))
theorem qsV {rt x e1:Int} {l m:List Pt} {e2:Int} (hc:qjV e1 l rt) (hce:(e1 !=0)=false) (hc2:Fn 34 1 [trS 0 x m] [(0,0,qaa m)] (.pv (iV (e2))) 0 []) (hce2:(e2 !=0)=true) :
 Fn 33 2 [trS 0 rt l,trS 1 x m] [(0,0,qaa l),(1,0,qaa m)] (.pv (.tuple #[.bool false,iV (e2)])) 0 []:=
 Fz [] [Cf hc [0],.t false,Cf hc2 [1],.t true]
  tI (Co hc [0] 4 (Ai hce (Co hc2 [1] 4 (Ai hce2 tI))))
theorem qsl {rt x e1:Int} {l m:List Pt} {w:Bool} {e2:Int} (hc:qjV e1 l rt) (hce:(e1 !=0)=false) (hc2:Fn 34 1 [trS 0 x m] [(0,0,qaa m)] (.pv (iV (e2))) 0 []) (hce2:(e2 !=0)=false) (hal:Fn 67 2 [trS 0 rt l,trS 1 x m] [(0,0,qaa l),(1,0,qaa m)] (.pv (.bool w)) 0 []) :
 Fn 33 2 [trS 0 rt l,trS 1 x m] [(0,0,qaa l),(1,0,qaa m)] (.pv (.tuple #[.bool w,iV (0)])) 0 []:=
 Fz [] [Cf hc [0],.t false,Cf hc2 [1],.t false,Cf hal [0,1]]
  tI (Co hc [0] 4 (Ai hce (Co hc2 [1] 4 (Ai hce2 (Co hal [0,1] 4 tI)))))
end Go.Proofs.Ytalnjplghagbpaa
