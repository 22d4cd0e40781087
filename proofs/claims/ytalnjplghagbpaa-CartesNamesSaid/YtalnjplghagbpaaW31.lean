/-
  Joined: Ec, Wd. Conditions: none.
-/
import Derived.Test.YtalnjplghagbpaaW30
import Derived.Test.YtalnjplghagbpaaW19
namespace Go.Proofs.Ytalnjplghagbpaa
set_option maxRecDepth 100000
open Go.RowKit
theorem qnm {rt:Int} {l:List Pt} (hs:Fn 61 1 [.ls 0 l.length] [(0,0,qaa l)] (.pv (iV (4))) 0 []) :
 Fn 17 1 [trS 0 rt l] [(0,0,qaa l)] (.pv (iV (4))) 0 []:=
 Fz [] [Cf hs [0],.k]
  tI (Co hs [0] 2 tI)
abbrev qqi (l:List Pt):Prop:=Fn 61 1 [.ls 0 l.length] [(0,0,qaa l)] (.pv (iV (0))) 0 []
theorem qmQ {rt:Int} {l:List Pt} {g:List Int} (hs:qqi l) (hw:Fn 45 1 [trS 0 rt l] [(0,0,qaa l)] (.tu [.one (.ls 1 g.length),.one (.pv (.bool false))]) 1 [(1,0,zrI g)]) :
 Fn 17 1 [trS 0 rt l] [(0,0,qaa l)] (.pv (iV (8))) 0 []:=
 Fz [] [Cf hs [0],.k,Cf hw [0],.k]
  tI (Co hs [0] 2 (Co hw [0] 2 tI))
theorem qrI {rt:Int} {l:List Pt} {g:List Int} (hs:qqi l) (hw:Fn 45 1 [trS 0 rt l] [(0,0,qaa l)] (.tu [.one (.ls 1 g.length),.one (.pv (.bool true))]) 1 [(1,0,zrI g)]) (hfi:Fn 63 2 [.ls 0 l.length,.ls 1 g.length] [(0,0,qaa l),(1,0,zrI g)] (.pv (.bool true)) 0 []) :
 Fn 17 1 [trS 0 rt l] [(0,0,qaa l)] (.pv (iV (0))) 0 []:=
 Fz [] [Cf hs [0],.k,Cf hw [0],.k,Cf hfi [0,2],.k]
  tI (Co hs [0] 2 (Co hw [0] 2 (Co hfi [0,2] 3 tI)))
theorem qpy {rt:Int} {l:List Pt} {g:List Int} (hs:qqi l) (hw:Fn 45 1 [trS 0 rt l] [(0,0,qaa l)] (.tu [.one (.ls 1 g.length),.one (.pv (.bool true))]) 1 [(1,0,zrI g)]) (hfi:Fn 63 2 [.ls 0 l.length,.ls 1 g.length] [(0,0,qaa l),(1,0,zrI g)] (.pv (.bool false)) 0 []) :
 Fn 17 1 [trS 0 rt l] [(0,0,qaa l)] (.pv (iV (8))) 0 []:=
 Fz [] [Cf hs [0],.k,Cf hw [0],.k,Cf hfi [0,2],.k]
  tI (Co hs [0] 2 (Co hw [0] 2 (Co hfi [0,2] 3 tI)))
abbrev qnK (e1:Int) (l:List Pt) (rt:Int):Prop:=Fn 17 1 [trS 0 rt l] [(0,0,qaa l)] (.pv (iV (e1))) 0 []
theorem qse {rt e1:Int} {l:List Pt} (hc:qnK e1 l rt) (hce:(e1 !=0)=true) :
 Fn 10 1 [trS 0 rt l] [(0,0,qaa l)] (.pv (.tuple #[.slice none 0 0,iV (e1)])) 0 []:=
 Fz [] [Cf hc [0],.t true]
  tI (Co hc [0] 2 (Ai hce tI))
abbrev qoT (g:List Int) (l:List Pt) (n:Nat) (rt:Int):HpL:=[(1,0,.pv (iV rt)),(1,1,.ls 0 l.length),(0,0,qaa l),(2,0,.row 3 1 n (ziV g))]
theorem qnI {rt z:Int} {l:List Pt} {p:Pt} {g:List Int} {k n:Nat} (hlt:decide ((k:Int)<(n:Int))=true) (hin:0≤(k:Int)∧(k:Int)<(n:Int)) (hg:g[k]?=some z) (hzi:0≤z∧z<(l.length:Int)) (hp:l[z.toNat]?=some p) (hl:k<g.length) (hs:iV (IntKind.i64.wrap ((k:Int)+1))=iV (((k+1:Nat):Int))) {e:Exit} {tm2:TmL} {hp2:HpL}
 (r:Rl 1 1 10 0 37 3 ([(1,.pp 1 0),(5,.ls 2 n),(19,.ls 2 n),(20,.pv (iV (n:Int))),(21,.pv (iV ((k+1:Nat):Int)))]) ([(1,0,.pv (iV rt)),(1,1,.ls 0 l.length),(0,0,qaa l),(2,0,.row 3 1 n (ziV (g.set k p.id)))]) e tm2 hp2):Rl 1 1 10 0 37 3 ([(1,.pp 1 0),(5,.ls 2 n),(19,.ls 2 n),(20,.pv (iV (n:Int))),(21,.pv (iV (k:Int)))]) (qoT g l n rt) e tm2 hp2:=
 RunsL.next [] 300 [.t true,.r (iV z),.r (iV p.id),.w (ziV (g.set k p.id)),Re hs]
  (Ro (Ai hlt (Ai hin (Ai (qgd hg) (Ai hzi (Ai (qaG hp) (Ai hin (Ai (qqH g k p.id hl) (Ai (qee g k hl) (Ai hs tI)))))))))) r
theorem qp8 {rt:Int} {l:List Pt} {g:List Int} {k n:Nat} (hlt:decide ((k:Int)<(n:Int))=false):Rl 1 1 10 0 37 3 ([(1,.pp 1 0),(5,.ls 2 n),(19,.ls 2 n),(20,.pv (iV (n:Int))),(21,.pv (iV (k:Int)))]) (qoT g l n rt) (.exit 0) ([(5,.ls 2 n)]) ([(2,0,.row 3 1 n (ziV g))]):=
 RunsL.stop [] 300 [.t false] (fun h=>by cases h)
  (Ro (Ai hlt tI))
theorem qrl {rt e1:Int} {l:List Pt} {g c1:List Int} {n:Nat} {w:Bool} (hc:qnK e1 l rt) (hce:(e1 !=0)=false) (hw:Fn 45 1 [trS 0 rt l] [(0,0,qaa l)] (.tu [.one (.ls 1 n),.one (.pv (.bool w))]) 1 [(1,0,.row 3 1 n (ziV g))]) (r0:Rl 1 1 10 0 37 3 ([(1,.pp 1 0),(5,.ls 2 n),(19,.ls 2 n),(20,.pv (iV (n:Int))),(21,.pv (iV ((0:Nat):Int)))]) (qoT g l n rt) (.exit 0) ([(5,.ls 2 n)]) ([(2,0,.row 3 1 n (ziV c1))])) :
 Fn 10 1 [trS 0 rt l] [(0,0,qaa l)] (.tu [.one (.ls 1 n),.one (.pv (iV 0))]) 1 [(1,0,.row 3 1 n (ziV c1))]:=
 Fz [(1,2)] [Cf hc [0],.t false,Cf hw [0],Lf r0]
  (qai (qaB [(1,2)]) [(1,0,.row 3 1 n (ziV c1))]) (Co hc [0] 2 (Ai hce (Co hw [0] 2 (Lo r0 [] tI))))
theorem qrS {z:Int} {g:List Int} {n:Nat} (h:(z==(-1))=true) :
 Fn 88 2 [.pv (iV (z)),.pp 0 0] [(0,0,.ls 1 n),(1,0,.row 3 1 n (ziV g))] (.pv (iV (-1))) 0 []:=
 Fz [] [.t true]
  tI (Ai h tI)
theorem qoS {y z:Int} {g:List Int} {n:Nat} (h:(z==(-1))=false) (hin:0≤z∧z<(n:Int)) (hg:g[z.toNat]?=some y) :
 Fn 88 2 [.pv (iV (z)),.pp 0 0] [(0,0,.ls 1 n),(1,0,.row 3 1 n (ziV g))] (.pv (iV (y))) 0 []:=
 Fz [] [.t false,.r (iV y)]
  tI (Ai h (Ai hin (Ai (qkM hg) tI)))
abbrev qtC (c1:List Int) (g:List Int) (l:List Pt) (n:Nat) (rt:Int):HpL:=[(1,0,.pv (iV rt)),(1,1,.ls 0 l.length),(2,0,.pv (iV 0)),(2,1,.pv (.slice none 0 0)),(5,0,.ls 4 n),(0,0,qaa l),(3,0,.row 3 1 n (ziV g)),(4,0,.row 3 1 n (ziV c1))]
abbrev qsT (k:Nat) (n:Nat):TmL:=[(1,.pp 1 0),(2,.pp 2 0),(3,.ls 3 n),(5,.pp 5 0),(21,.ls 3 n),(22,.pv (iV (n:Int))),(23,.pv (iV (k:Int)))]
theorem qnB {rt z:Int} {l:List Pt} {g c1:List Int} {k n:Nat} (hlt:decide ((k:Int)<(n:Int))=true) (hin:0≤(k:Int)∧(k:Int)<(n:Int)) (hg:g[k]?=some z) (hzi:0≤z∧z<(n:Int)) (hl:z.toNat<c1.length) (hs:iV (IntKind.i64.wrap ((k:Int)+1))=iV (((k+1:Nat):Int))) {e:Exit} {tm2:TmL} {hp2:HpL}
 (r:Rl 1 1 50 0 68 6 ([(1,.pp 1 0),(2,.pp 2 0),(3,.ls 3 n),(5,.pp 5 0),(21,.ls 3 n),(22,.pv (iV (n:Int))),(23,.pv (iV ((k+1:Nat):Int)))]) ([(1,0,.pv (iV rt)),(1,1,.ls 0 l.length),(2,0,.pv (iV 0)),(2,1,.pv (.slice none 0 0)),(5,0,.ls 4 n),(0,0,qaa l),(3,0,.row 3 1 n (ziV g)),(4,0,.row 3 1 n (ziV (c1.set z.toNat (k:Int))))]) e tm2 hp2):Rl 1 1 50 0 68 6 (qsT k n) (qtC c1 g l n rt) e tm2 hp2:=
 RunsL.next [] 300 [.t true,.r (iV z),.w (ziV (c1.set z.toNat (k:Int))),Re hs]
  (Ro (Ai hlt (Ai hin (Ai (qgd hg) (Ai hzi (Ai (qqH c1 z.toNat (k:Int) hl) (Ai (qee c1 z.toNat hl) (Ai hs tI)))))))) r
theorem qqC {rt:Int} {l:List Pt} {g c1:List Int} {k n:Nat} (hlt:decide ((k:Int)<(n:Int))=false):Rl 1 1 50 0 68 6 (qsT k n) (qtC c1 g l n rt) (.exit 0) ([(1,.pp 1 0),(2,.pp 2 0),(3,.ls 3 n),(5,.pp 5 0)]) (qtC c1 g l n rt):=
 RunsL.stop [] 300 [.t false] (fun h=>by cases h)
  (Ro (Ai hlt tI))
abbrev qsW (N:Nat) (c1:List Int) (g:List Int) (l:List Pt) (n:Nat) (rt:Int) (vs:List Value) (x:Int):HpL:=[(1,0,.pv (iV rt)),(1,1,.ls 0 l.length),(2,0,.pv (iV 0)),(2,1,.pv (.slice none 0 0)),(5,0,.ls 4 n),(0,0,qaa l),(3,0,.row 3 1 n (ziV g)),(4,0,.row 3 1 n (ziV c1)),(6,0,.pv (iV x)),(6,1,.ls 7 N),(7,0,.row 26 3 N (vs))]
abbrev qrs (k:Nat) (n:Nat):TmL:=[(1,.pp 1 0),(2,.pp 2 0),(8,.pc 88 [.pp 5 0]),(9,.pp 6 0),(39,.ls 3 n),(40,.pv (iV (n:Int))),(41,.pv (iV (k:Int)))]
theorem qjl {rt x z:Int} {l:List Pt} {p:Pt} {g c1:List Int} {k n:Nat} {vs:List Value} {a2 b2:Int} {N:Nat} (hlt:decide ((k:Int)<(n:Int))=true) (hin:0≤(k:Int)∧(k:Int)<(n:Int)) (hg:g[k]?=some z) (hzi:0≤z∧z<(l.length:Int)) (hp:l[z.toNat]?=some p) (hn:N+1≤1000000) (ha:Fn 88 2 [.pv (iV (p.a)),.pp 0 0] [(0,0,.ls 1 n),(1,0,.row 3 1 n (ziV c1))] (.pv (iV (a2))) 0 []) (hb:Fn 88 2 [.pv (iV (p.b)),.pp 0 0] [(0,0,.ls 1 n),(1,0,.row 3 1 n (ziV c1))] (.pv (iV (b2))) 0 []) (hs:iV (IntKind.i64.wrap ((k:Int)+1))=iV (((k+1:Nat):Int))) {e:Exit} {tm2:TmL} {hp2:HpL}
 (r:Rl 1 1 50 1 68 8 ([(1,.pp 1 0),(2,.pp 2 0),(8,.pc 88 [.pp 5 0]),(9,.pp 6 0),(39,.ls 3 n),(40,.pv (iV (n:Int))),(41,.pv (iV ((k+1:Nat):Int)))]) ([(1,0,.pv (iV rt)),(1,1,.ls 0 l.length),(2,0,.pv (iV 0)),(2,1,.pv (.slice none 0 0)),(5,0,.ls 4 n),(0,0,qaa l),(3,0,.row 3 1 n (ziV g)),(4,0,.row 3 1 n (ziV c1)),(6,0,.pv (iV x)),(6,1,.ls 7 (N+1)),(7,0,.row 26 3 (N+1) (vs++[iV p.id,iV a2,iV b2]))]) e tm2 hp2):Rl 1 1 50 1 68 8 (qrs k n) (qsW N c1 g l n rt vs x) e tm2 hp2:=
 RunsL.next [(7,10)] 300 [.t true,.r (iV z),.r (ptV p),.md,Cf ha [5,4],Cf hb [5,4],Re hs]
  (Ro (Ai hlt (Ai hin (Ai (qgd hg) (Ai hzi (Ai (qbm hp) (Co ha [5,4] 9 (Co hb [5,4] 9 (Ai hn (Ai hs tI)))))))))) r
theorem qny {rt x:Int} {l:List Pt} {g c1:List Int} {k n:Nat} {vs:List Value} {N:Nat} (hlt:decide ((k:Int)<(n:Int))=false):Rl 1 1 50 1 68 8 (qrs k n) (qsW N c1 g l n rt vs x) (.exit 2) ([(2,.pp 2 0),(9,.pp 6 0)]) ([(2,0,.pv (iV 0)),(2,1,.pv (.slice none 0 0)),(6,0,.pv (iV x)),(6,1,.ls 7 N),(7,0,.row 26 3 N (vs))]):=
 RunsL.stop [] 300 [.t false] (fun h=>by cases h)
  (Ro (Ai hlt tI))
theorem qs2 {rt x:Int} {l:List Pt} {g c1:List Int} {n:Nat} {w:Bool} {vs:List Value} {N:Nat} (hw:Fn 45 1 [trS 0 rt l] [(0,0,qaa l)] (.tu [.one (.ls 1 n),.one (.pv (.bool w))]) 1 [(1,0,.row 3 1 n (ziV g))]) (m0:0≤(n:Int)) (m1:(n:Int)≤1000000) (r0:Rl 1 1 50 0 68 6 ([(1,.pp 1 0),(2,.pp 2 0),(3,.ls 3 n),(5,.pp 5 0),(21,.ls 3 n),(22,.pv (iV (n:Int))),(23,.pv (iV ((0:Nat):Int)))]) ([(1,0,.pv (iV rt)),(1,1,.ls 0 l.length),(2,0,.pv (iV 0)),(2,1,.pv (.slice none 0 0)),(5,0,.ls 4 n),(0,0,qaa l),(3,0,.row 3 1 n (ziV g)),(4,0,.row 3 1 n (ziV (List.replicate n 0)))]) (.exit 0) ([(1,.pp 1 0),(2,.pp 2 0),(3,.ls 3 n),(5,.pp 5 0)]) (qtC c1 g l n rt)) (hr:Fn 88 2 [.pv (iV (rt)),.pp 0 0] [(0,0,.ls 1 n),(1,0,.row 3 1 n (ziV c1))] (.pv (iV (x))) 0 []) (rr1:Rl 1 1 50 1 68 8 ([(1,.pp 1 0),(2,.pp 2 0),(8,.pc 88 [.pp 5 0]),(9,.pp 6 0),(39,.ls 3 n),(40,.pv (iV (n:Int))),(41,.pv (iV ((0:Nat):Int)))]) ([(1,0,.pv (iV rt)),(1,1,.ls 0 l.length),(2,0,.pv (iV 0)),(2,1,.pv (.slice none 0 0)),(5,0,.ls 4 n),(0,0,qaa l),(3,0,.row 3 1 n (ziV g)),(4,0,.row 3 1 n (ziV c1)),(6,0,.pv (iV x)),(6,1,.ls 7 0),(7,0,.row 26 3 0 ([]))]) (.exit 2) ([(2,.pp 2 0),(9,.pp 6 0)]) ([(2,0,.pv (iV 0)),(2,1,.pv (.slice none 0 0)),(6,0,.pv (iV x)),(6,1,.ls 7 N),(7,0,.row 26 3 N (vs))])) :
 Fn 50 1 [trS 0 rt l] [(0,0,qaa l)] (.ag [.pv (iV x),.ls 1 N]) 1 [(1,0,.row 26 3 N (vs))]:=
 Fz [(1,7)] [Cf hw [0],Lf r0,Cf hr [5,4],.ln false 6 1 26 3,Lf rr1]
  (qai (qaB [(1,7)]) [(1,0,.row 26 3 N (vs))]) (Co hw [0] 3 (Ai m0 (Ai (Eq.refl (n:Int)) (Ai m1 (Ai (Lt r0 []) (Ai (Ai (Er (SV.pv (iV rt))) (Ai (Er (SV.ls 0 l.length)) (Ai (Er (SV.pv (iV 0))) (Ai (Er (SV.pv (.slice none 0 0))) (Ai (Er (SV.ls 4 n)) (Ai (Er (qaa l)) (Ai (Er (SV.row 3 1 n (ziV g))) (Ai (qgv n) tI)))))))) (Ai r0 (Co hr [5,4] 6 (Lo rr1 [] tI)))))))))
abbrev qvj (n:Nat) (s:List Pt) (td:Int) (tn:Int) (vs:List Value):HpL:=[(1,0,.ls 0 s.length),(2,0,.pv (iV tn)),(2,1,.pv (iV td)),(3,0,.pv (iV 0)),(3,1,.pv (.slice none 0 0)),(4,0,.pv (iV (-1))),(4,1,.ls 5 n),(0,0,qag s),(5,0,.row 26 3 n (vs))]
abbrev qsI (k:Nat) (s:List Pt):TmL:=[(2,.pp 1 0),(3,.pp 2 0),(4,.pp 3 0),(5,.pp 4 0),(12,.ls 0 s.length),(13,.pv (iV (s.length:Int))),(14,.pv (iV (k:Int)))]
theorem qlE {tn td:Int} {s:List Pt} {p:Pt} {k n:Nat} {vs:List Value} (hlt:decide ((k:Int)<(s.length:Int))=true) (hin:0≤(k:Int)∧(k:Int)<(s.length:Int)) (hk:s[k]?=some p) (hn:n+1≤1000000) (hs:iV (IntKind.i64.wrap ((k:Int)+1))=iV (((k+1:Nat):Int))) {e:Exit} {tm2:TmL} {hp2:HpL}
 (r:Rl 1 1 51 0 47 6 ([(2,.pp 1 0),(3,.pp 2 0),(4,.pp 3 0),(5,.pp 4 0),(12,.ls 0 s.length),(13,.pv (iV (s.length:Int))),(14,.pv (iV ((k+1:Nat):Int)))]) ([(1,0,.ls 0 s.length),(2,0,.pv (iV tn)),(2,1,.pv (iV td)),(3,0,.pv (iV 0)),(3,1,.pv (.slice none 0 0)),(4,0,.pv (iV (-1))),(4,1,.ls 5 (n+1)),(0,0,qag s),(5,0,.row 26 3 (n+1) (vs++[iV p.id,iV (-1),iV (-1)]))]) e tm2 hp2):Rl 1 1 51 0 47 6 (qsI k s) (qvj n s td tn vs) e tm2 hp2:=
 RunsL.next [(5,8)] 300 [.t true,.r (ptV p),Re hs]
  (Ro (Ai hlt (Ai hin (Ai (qa1 hk) (Ai hn (Ai hs tI)))))) r
theorem qpg {tn td:Int} {s:List Pt} {k n:Nat} {vs:List Value} (hlt:decide ((k:Int)<(s.length:Int))=false):Rl 1 1 51 0 47 6 (qsI k s) (qvj n s td tn vs) (.exit 0) ([(2,.pp 1 0),(3,.pp 2 0),(4,.pp 3 0),(5,.pp 4 0)]) (qvj n s td tn vs):=
 RunsL.stop [] 300 [.t false] (fun h=>by cases h)
  (Ro (Ai hlt tI))
abbrev qti (n:Nat) (s:List Pt) (td:Int) (tn:Int) (vs:List Value) (z:Int):HpL:=[(3,0,.pv (iV 0)),(3,1,.pv (.slice none 0 0)),(4,0,.pv (iV (z))),(4,1,.ls 5 n),(6,0,.ls 5 n),(6,1,.ls 0 s.length),(6,2,.pv (iV tn)),(6,3,.pv (iV td)),(0,0,qag s),(5,0,.row 26 3 n (vs))]
theorem qjE {y z tn td:Int} {s:List Pt} {k n:Nat} {vs:List Value} {vs2:List Value} (hlt:decide ((k:Int)<(n:Int))=true) (hj:FnO Try.prog 62 1 2 [.ag [.ls 1 n,.ls 0 s.length,.pv (iV tn),.pv (iV td)],.pv (iV (z)),.pv (iV (k:Int))] [(0,0,qag s),(1,0,.row 26 3 n (vs))] (.pv (iV (y))) 0 [(1,0,.row 26 3 n (vs2))]) (hs:iV (IntKind.i64.wrap ((k:Int)+1))=iV (((k+1:Nat):Int))) {e:Exit} {tm2:TmL} {hp2:HpL}
 (r:Rl 1 1 51 1 47 7 ([(4,.pp 3 0),(5,.pp 4 0),(8,.pp 6 0),(35,.pv (iV (n:Int))),(36,.pv (iV ((k+1:Nat):Int)))]) ([(3,0,.pv (iV 0)),(3,1,.pv (.slice none 0 0)),(4,0,.pv (iV (y))),(4,1,.ls 5 n),(6,0,.ls 5 n),(6,1,.ls 0 s.length),(6,2,.pv (iV tn)),(6,3,.pv (iV td)),(0,0,qag s),(5,0,.row 26 3 n (vs2))]) e tm2 hp2):Rl 1 1 51 1 47 7 ([(4,.pp 3 0),(5,.pp 4 0),(8,.pp 6 0),(35,.pv (iV (n:Int))),(36,.pv (iV (k:Int)))]) (qti n s td tn vs z) e tm2 hp2:=
 RunsL.next [] 300 [.t true,.fo 1 [0,5] [.ag [.ls 1 n,.ls 0 s.length,.pv (iV tn),.pv (iV td)],.pv (iV (z)),.pv (iV (k:Int))] [(0,0,qag s),(1,0,.row 26 3 n (vs))] (.pv (iV (y))) 0 [(1,0,.row 26 3 n (vs2))],Re hs]
  (Ro (Ai hlt (Ai hj (Ai (Eq.refl (List.map (SV.ren (qau [0,5] 7)) [.ag [.ls 1 n,.ls 0 s.length,.pv (iV tn),.pv (iV td)],.pv (iV (z)),.pv (iV (k:Int))])) (Ai (qai (qau [0,5] 7) [(0,0,qag s),(1,0,.row 26 3 n (vs))]) (Ai hs tI)))))) r
theorem qnC {z tn td:Int} {s:List Pt} {k n:Nat} {vs:List Value} (hlt:decide ((k:Int)<(n:Int))=false):Rl 1 1 51 1 47 7 ([(4,.pp 3 0),(5,.pp 4 0),(8,.pp 6 0),(35,.pv (iV (n:Int))),(36,.pv (iV (k:Int)))]) (qti n s td tn vs z) (.exit 2) ([(4,.pp 3 0),(5,.pp 4 0)]) ([(3,0,.pv (iV 0)),(3,1,.pv (.slice none 0 0)),(4,0,.pv (iV (z))),(4,1,.ls 5 n),(5,0,.row 26 3 n (vs))]):=
 RunsL.stop [] 300 [.t false] (fun h=>by cases h)
  (Ro (Ai hlt tI))
theorem qs5 {z tn td:Int} {s:List Pt} {n:Nat} {vs:List Value} {vs2:List Value} (r0:Rl 1 1 51 0 47 6 ([(2,.pp 1 0),(3,.pp 2 0),(4,.pp 3 0),(5,.pp 4 0),(12,.ls 0 s.length),(13,.pv (iV (s.length:Int))),(14,.pv (iV ((0:Nat):Int)))]) ([(1,0,.ls 0 s.length),(2,0,.pv (iV tn)),(2,1,.pv (iV td)),(3,0,.pv (iV 0)),(3,1,.pv (.slice none 0 0)),(4,0,.pv (iV (-1))),(4,1,.ls 5 0),(0,0,qag s),(5,0,.row 26 3 0 ([]))]) (.exit 0) ([(2,.pp 1 0),(3,.pp 2 0),(4,.pp 3 0),(5,.pp 4 0)]) ([(1,0,.ls 0 s.length),(2,0,.pv (iV tn)),(2,1,.pv (iV td)),(3,0,.pv (iV 0)),(3,1,.pv (.slice none 0 0)),(4,0,.pv (iV (-1))),(4,1,.ls 5 n),(0,0,qag s),(5,0,.row 26 3 n (vs2))])) (rr1:Rl 1 1 51 1 47 7 ([(4,.pp 3 0),(5,.pp 4 0),(8,.pp 6 0),(35,.pv (iV (n:Int))),(36,.pv (iV ((0:Nat):Int)))]) ([(3,0,.pv (iV 0)),(3,1,.pv (.slice none 0 0)),(4,0,.pv (iV (-1))),(4,1,.ls 5 n),(6,0,.ls 5 n),(6,1,.ls 0 s.length),(6,2,.pv (iV tn)),(6,3,.pv (iV td)),(0,0,qag s),(5,0,.row 26 3 n (vs2))]) (.exit 2) ([(4,.pp 3 0),(5,.pp 4 0)]) ([(3,0,.pv (iV 0)),(3,1,.pv (.slice none 0 0)),(4,0,.pv (iV (z))),(4,1,.ls 5 n),(5,0,.row 26 3 n (vs))])) :
 Fn 51 1 [qas 0 s,.pv (qab tn td)] [(0,0,qag s)] (.ag [.pv (iV z),.ls 1 n]) 1 [(1,0,.row 26 3 n (vs))]:=
 Fz [(1,5)] [.ln false 4 1 26 3,Lf r0,Lf rr1]
  (qai (qaB [(1,5)]) [(1,0,.row 26 3 n (vs))]) (Lo r0 [] (Lo rr1 [] tI))
theorem qpn {tn td e1:Int} {s:List Pt} {e2:Int} (h1:Fn 47 1 [qas 0 s] [(0,0,qag s)] (.pv (iV (e1))) 0 []) (h2:Pure Try.prog 48 #[qab tn td] (iV (e2))) (he:(e1 !=0)=true) :
 Fn 18 1 [qas 0 s,.pv (qab tn td)] [(0,0,qag s)] (.pv (.tuple #[.agg #[iV 0,.slice none 0 0],iV (e1)])) 0 []:=
 Fz [] [.md,Cf h1 [0],Rf h2,.k,.k,.t true,.t true]
  tI (Co h1 [0] 4 (Ai h2 (Ai he (Ai he tI))))
abbrev qmq (s:List Pt):Prop:=Fn 47 1 [qas 0 s] [(0,0,qag s)] (.pv (iV (0))) 0 []
theorem qsO {tn td:Int} {s:List Pt} {e2:Int} (h1:qmq s) (h2:Pure Try.prog 48 #[qab tn td] (iV (e2))) (he:(e2 !=0)=true) :
 Fn 18 1 [qas 0 s,.pv (qab tn td)] [(0,0,qag s)] (.pv (.tuple #[.agg #[iV 0,.slice none 0 0],iV (e2)])) 0 []:=
 Fz [] [.md,Cf h1 [0],Rf h2,.k,.k,.k,.k,.k,.t true,.t true]
  tI (Co h1 [0] 4 (Ai h2 (Ai he (Ai he tI))))
abbrev qh9 (td:Int) (tn:Int):Prop:=Pure Try.prog 48 #[qab tn td] (iV (0))
theorem qqZ {tn td:Int} {s n1:List Pt} {r1:Int} (h1:qmq s) (h2:qh9 td tn) (hg:Fn 51 1 [qas 0 s,.pv (qab tn td)] [(0,0,qag s)] (.ag [.pv (iV r1),.ls 1 n1.length]) 1 [(1,0,qaa n1)]) :
 Fn 18 1 [qas 0 s,.pv (qab tn td)] [(0,0,qag s)] (.tu [.ag [.pv (iV r1),.ls 1 n1.length],.one (.pv (iV 0))]) 1 [(1,0,qaa n1)]:=
 Fz [(1,5)] [.md,Cf h1 [0],Rf h2,.k,.k,.k,.k,.k,.k,.k,.k,.k,Cf hg [0]]
  (qai (qaB [(1,5)]) [(1,0,qaa n1)]) (Co h1 [0] 4 (Ai h2 (Co hg [0] 5 tI)))
theorem qs3 {rt tn td e1:Int} {s l:List Pt} {e2 e3:Int} (h1:qnK e1 l rt) (h2:Fn 47 1 [qas 0 s] [(0,0,qag s)] (.pv (iV (e2))) 0 []) (h3:Pure Try.prog 48 #[qab tn td] (iV (e3))) (he:(e1 !=0)=true) :
 Fn 11 2 [trS 0 rt l,qas 1 s,.pv (qab tn td)] [(0,0,qaa l),(1,0,qag s)] (.pv (.tuple #[.bool false,iV (e1)])) 0 []:=
 Fz [] [.md,Cf h1 [0],Cf h2 [1],Rf h3,.k,.k,.t true,.t true]
  tI (Co h1 [0] 5 (Co h2 [1] 5 (Ai h3 (Ai he (Ai he tI)))))
abbrev qgl (l:List Pt) (rt:Int):Prop:=Fn 17 1 [trS 0 rt l] [(0,0,qaa l)] (.pv (iV (0))) 0 []
theorem qt2 {rt tn td:Int} {s l:List Pt} {e2 e3:Int} (h1:qgl l rt) (h2:Fn 47 1 [qas 0 s] [(0,0,qag s)] (.pv (iV (e2))) 0 []) (h3:Pure Try.prog 48 #[qab tn td] (iV (e3))) (he:(e2 !=0)=true) :
 Fn 11 2 [trS 0 rt l,qas 1 s,.pv (qab tn td)] [(0,0,qaa l),(1,0,qag s)] (.pv (.tuple #[.bool false,iV (e2)])) 0 []:=
 Fz [] [.md,Cf h1 [0],Cf h2 [1],Rf h3,.k,.k,.k,.k,.k,.t true,.t true]
  tI (Co h1 [0] 5 (Co h2 [1] 5 (Ai h3 (Ai he (Ai he tI)))))
theorem qrJ {rt tn td:Int} {s l:List Pt} {e3:Int} (h1:qgl l rt) (h2:qmq s) (h3:Pure Try.prog 48 #[qab tn td] (iV (e3))) (he:(e3 !=0)=true) :
 Fn 11 2 [trS 0 rt l,qas 1 s,.pv (qab tn td)] [(0,0,qaa l),(1,0,qag s)] (.pv (.tuple #[.bool false,iV (e3)])) 0 []:=
 Fz [] [.md,Cf h1 [0],Cf h2 [1],Rf h3,.k,.k,.k,.k,.k,.k,.k,.k,.t true,.t true]
  tI (Co h1 [0] 5 (Co h2 [1] 5 (Ai h3 (Ai he (Ai he tI)))))
theorem qrZ {rt tn td:Int} {s l n1 n2:List Pt} {w:Bool} {r1 r2:Int} (h1:qgl l rt) (h2:qmq s) (h3:qh9 td tn) (ho:Fn 50 1 [trS 0 rt l] [(0,0,qaa l)] (.ag [.pv (iV r1),.ls 1 n1.length]) 1 [(1,0,qaa n1)]) (hg:Fn 51 1 [qas 0 s,.pv (qab tn td)] [(0,0,qag s)] (.ag [.pv (iV r2),.ls 1 n2.length]) 1 [(1,0,qaa n2)]) (hq:Fn 49 2 [trS 0 r1 n1,trS 1 r2 n2] [(0,0,qaa n1),(1,0,qaa n2)] (.pv (.bool w)) 0 []) :
 Fn 11 2 [trS 0 rt l,qas 1 s,.pv (qab tn td)] [(0,0,qaa l),(1,0,qag s)] (.pv (.tuple #[.bool w,iV (0)])) 0 []:=
 Fz [] [.md,Cf h1 [0],Cf h2 [1],Rf h3,.k,.k,.k,.k,.k,.k,.k,.k,.k,.k,.k,.k,.md,Cf ho [0],Cf hg [1],Cf hq [6,7]]
  tI (Co h1 [0] 5 (Co h2 [1] 5 (Ai h3 (Co ho [0] 6 (Co hg [1] 7 (Co hq [6,7] 8 tI))))))
theorem qq5 {rt x e1:Int} {l m:List Pt} {e2:Int} (h1:qnK e1 l rt) (h2:Fn 17 1 [trS 0 x m] [(0,0,qaa m)] (.pv (iV (e2))) 0 []) (he:(e1 !=0)=true) :
 Fn 16 2 [trS 0 rt l,trS 1 x m] [(0,0,qaa l),(1,0,qaa m)] (.pv (.tuple #[.bool false,iV (e1)])) 0 []:=
 Fz [] [.md,Cf h1 [0],Cf h2 [1],.k,.k,.t true,.t true]
  tI (Co h1 [0] 4 (Co h2 [1] 4 (Ai he (Ai he tI))))
theorem qsH {rt x:Int} {l m:List Pt} {e2:Int} (h1:qgl l rt) (h2:Fn 17 1 [trS 0 x m] [(0,0,qaa m)] (.pv (iV (e2))) 0 []) (he:(e2 !=0)=true) :
 Fn 16 2 [trS 0 rt l,trS 1 x m] [(0,0,qaa l),(1,0,qaa m)] (.pv (.tuple #[.bool false,iV (e2)])) 0 []:=
 Fz [] [.md,Cf h1 [0],Cf h2 [1],.k,.k,.k,.k,.k,.t true,.t true]
  tI (Co h1 [0] 4 (Co h2 [1] 4 (Ai he (Ai he tI))))
abbrev qnQ (m:List Pt) (x:Int):Prop:=Fn 17 1 [trS 0 x m] [(0,0,qaa m)] (.pv (iV (0))) 0 []
theorem qrv {rt x:Int} {l m n1 n2:List Pt} {w:Bool} {r1 r2:Int} (h1:qgl l rt) (h2:qnQ m x) (ho:Fn 50 1 [trS 0 rt l] [(0,0,qaa l)] (.ag [.pv (iV r1),.ls 1 n1.length]) 1 [(1,0,qaa n1)]) (ho2:Fn 50 1 [trS 0 x m] [(0,0,qaa m)] (.ag [.pv (iV r2),.ls 1 n2.length]) 1 [(1,0,qaa n2)]) (hq:Fn 49 2 [trS 0 r1 n1,trS 1 r2 n2] [(0,0,qaa n1),(1,0,qaa n2)] (.pv (.bool w)) 0 []) :
 Fn 16 2 [trS 0 rt l,trS 1 x m] [(0,0,qaa l),(1,0,qaa m)] (.pv (.tuple #[.bool w,iV (0)])) 0 []:=
 Fz [] [.md,Cf h1 [0],Cf h2 [1],.k,.k,.k,.k,.k,.k,.k,.k,.k,.md,Cf ho [0],Cf ho2 [1],Cf hq [5,6]]
  tI (Co h1 [0] 4 (Co h2 [1] 4 (Co ho [0] 5 (Co ho2 [1] 6 (Co hq [5,6] 7 tI)))))
theorem qsq {rt z e1:Int} {l:List Pt} (hc:qnK e1 l rt) (hce:(e1 !=0)=true) :
 Fn 12 1 [trS 0 rt l,.pv (iV (z))] [(0,0,qaa l)] (.pv (.tuple #[iV (0),iV (e1)])) 0 []:=
 Fz [] [Cf hc [0],.t true]
  tI (Co hc [0] 2 (Ai hce tI))
abbrev qnT (l:List Pt) (rt:Int):HpL:=[(1,0,.pv (iV rt)),(1,1,.ls 0 l.length),(0,0,qaa l)]
abbrev qmO (k:Nat) (y:Int) (z:Int):TmL:=[(1,.pv (iV z)),(2,.pp 1 0),(7,.pv (iV (y))),(8,.pv (iV (k:Int)))]
theorem qsA {rt y z:Int} {l:List Pt} {p:Pt} {k:Nat} (hne:(y !=(-1))=true) (hin:0≤y∧y<(l.length:Int)) (hk:l[y.toNat]?=some p) (h1:decide (z<p.id)=true) (hs:iV (IntKind.i64.wrap ((k:Int)+1))=iV (((k+1:Nat):Int))) {e:Exit} {tm2:TmL} {hp2:HpL}
 (r:Rl 1 1 12 0 41 2 ([(1,.pv (iV z)),(2,.pp 1 0),(7,.pv (iV (p.a))),(8,.pv (iV ((k+1:Nat):Int)))]) (qnT l rt) e tm2 hp2):Rl 1 1 12 0 41 2 (qmO k y z) (qnT l rt) e tm2 hp2:=
 RunsL.next [] 300 [.t true,.r (ptV p),.t true,Re hs]
  (Ro (Ai hne (Ai hin (Ai (qbm hk) (Ai h1 (Ai hs tI)))))) r
theorem qsF {rt y z:Int} {l:List Pt} {p:Pt} {k:Nat} (hne:(y !=(-1))=true) (hin:0≤y∧y<(l.length:Int)) (hk:l[y.toNat]?=some p) (h1:decide (z<p.id)=false) (h2:decide (z>p.id)=true) (hs:iV (IntKind.i64.wrap ((k:Int)+1))=iV (((k+1:Nat):Int))) {e:Exit} {tm2:TmL} {hp2:HpL}
 (r:Rl 1 1 12 0 41 2 ([(1,.pv (iV z)),(2,.pp 1 0),(7,.pv (iV (p.b))),(8,.pv (iV ((k+1:Nat):Int)))]) (qnT l rt) e tm2 hp2):Rl 1 1 12 0 41 2 (qmO k y z) (qnT l rt) e tm2 hp2:=
 RunsL.next [] 300 [.t true,.r (ptV p),.t false,.t true,Re hs]
  (Ro (Ai hne (Ai hin (Ai (qbm hk) (Ai h1 (Ai h2 (Ai hs tI))))))) r
theorem qpP {rt y z:Int} {l:List Pt} {p:Pt} {k:Nat} (hne:(y !=(-1))=true) (hin:0≤y∧y<(l.length:Int)) (hk:l[y.toNat]?=some p) (h1:decide (z<p.id)=false) (h2:decide (z>p.id)=false):Rl 1 1 12 0 41 2 (qmO k y z) (qnT l rt) (.ret) ([(4,.pv (iV (k:Int))),(5,.pv (iV 0))]) ([]):=
 RunsL.stop [] 300 [.t true,.r (ptV p),.t false,.t false] (fun h=>by cases h)
  (Ro (Ai hne (Ai hin (Ai (qbm hk) (Ai h1 (Ai h2 tI))))))
theorem qql {rt y z:Int} {l:List Pt} {k:Nat} (hne:(y !=(-1))=false):Rl 1 1 12 0 41 2 (qmO k y z) (qnT l rt) (.exit 0) ([]) ([]):=
 RunsL.stop [] 300 [.t false] (fun h=>by cases h)
  (Ro (Ai hne tI))
theorem qsd {rt z e1:Int} {l:List Pt} (hc:qnK e1 l rt) (hce:(e1 !=0)=false) (r0:Rl 1 1 12 0 41 2 ([(1,.pv (iV z)),(2,.pp 1 0),(7,.pv (iV (rt))),(8,.pv (iV ((0:Nat):Int)))]) (qnT l rt) (.exit 0) ([]) ([])) :
 Fn 12 1 [trS 0 rt l,.pv (iV (z))] [(0,0,qaa l)] (.pv (.tuple #[iV (0),iV (6)])) 0 []:=
 Fz [] [Cf hc [0],.t false,Lf r0]
  tI (Co hc [0] 2 (Ai hce (Lo r0 [] tI)))
theorem qtc {rt z e1:Int} {l:List Pt} {k:Nat} (hc:qnK e1 l rt) (hce:(e1 !=0)=false) (r0:Rl 1 1 12 0 41 2 ([(1,.pv (iV z)),(2,.pp 1 0),(7,.pv (iV (rt))),(8,.pv (iV ((0:Nat):Int)))]) (qnT l rt) (.ret) ([(4,.pv (iV (k:Int))),(5,.pv (iV 0))]) ([])) :
 Fn 12 1 [trS 0 rt l,.pv (iV (z))] [(0,0,qaa l)] (.pv (.tuple #[iV (k:Int),iV (0)])) 0 []:=
 Fz [] [Cf hc [0],.t false,Lf r0]
  tI (Co hc [0] 2 (Ai hce (Lo r0 [] tI)))
abbrev qpv (k:Nat) (l:List Pt) (n:Nat):TmL:=[(2,.pp 2 0),(6,.ls 3 n),(11,.ls 1 l.length),(12,.pv (iV (l.length:Int))),(13,.pv (iV (k:Int)))]
theorem qng {s l:List Pt} {p q:Pt} {k n:Nat} {vs:List Value} {e7:Int} (hlt:decide ((k:Int)<(l.length:Int))=true) (hk:l[k]?=some p) (hin:0≤(k:Int)∧(k:Int)<(l.length:Int)) (hf:Fn 93 1 [qas 0 s,.pv (iV (p.id))] [(0,0,qag s)] (.pv (.tuple #[ptV q,iV (e7)])) 0 []) (he:(e7 !=0)=false) (hn:n+1≤1000000) (hs:iV (IntKind.i64.wrap ((k:Int)+1))=iV (((k+1:Nat):Int))) {e:Exit} {tm2:TmL} {hp2:HpL}
 (r:Rl 2 2 60 0 33 4 ([(2,.pp 2 0),(6,.ls 3 (n+1)),(11,.ls 1 l.length),(12,.pv (iV (l.length:Int))),(13,.pv (iV ((k+1:Nat):Int)))]) ([(2,0,.ls 0 s.length),(0,0,qag s),(1,0,qaa l),(3,0,.row 80 3 (n+1) (vs++[iV q.id,iV q.a,iV q.b]))]) e tm2 hp2):Rl 2 2 60 0 33 4 (qpv k l n) ([(2,0,.ls 0 s.length),(0,0,qag s),(1,0,qaa l),(3,0,.row 80 3 n (vs))]) e tm2 hp2:=
 RunsL.next [(3,7)] 300 [.t true,.r (ptV p),Cf hf [0],.t false,Re hs]
  (Ro (Ai hlt (Ai hin (Ai (qa1 hk) (Co hf [0] 5 (Ai he (Ai hn (Ai hs tI)))))))) r
theorem qp9 {s l:List Pt} {p q:Pt} {k n:Nat} {vs:List Value} {e7:Int} (hlt:decide ((k:Int)<(l.length:Int))=true) (hk:l[k]?=some p) (hin:0≤(k:Int)∧(k:Int)<(l.length:Int)) (hf:Fn 93 1 [qas 0 s,.pv (iV (p.id))] [(0,0,qag s)] (.pv (.tuple #[ptV q,iV (e7)])) 0 []) (he:(e7 !=0)=true):Rl 2 2 60 0 33 4 (qpv k l n) ([(2,0,.ls 0 s.length),(0,0,qag s),(1,0,qaa l),(3,0,.row 80 3 n (vs))]) (.ret) ([(4,.pv (.slice none 0 0)),(5,.pv (iV e7))]) ([]):=
 RunsL.stop [] 300 [.t true,.r (ptV p),Cf hf [0],.t true] (fun h=>by cases h)
  (Ro (Ai hlt (Ai hin (Ai (qa1 hk) (Co hf [0] 5 (Ai he tI))))))
theorem qo3 {s l:List Pt} {k n:Nat} {vs:List Value} (hlt:decide ((k:Int)<(l.length:Int))=false):Rl 2 2 60 0 33 4 (qpv k l n) ([(2,0,.ls 0 s.length),(0,0,qag s),(1,0,qaa l),(3,0,.row 80 3 n (vs))]) (.exit 0) ([(6,.ls 3 n)]) ([(3,0,.row 80 3 n (vs))]):=
 RunsL.stop [] 300 [.t false] (fun h=>by cases h)
  (Ro (Ai hlt tI))
abbrev qrc (l:List Pt):TmL:=[(2,.pp 2 0),(6,.ls 3 0),(11,.ls 1 l.length),(12,.pv (iV (l.length:Int))),(13,.pv (iV ((0:Nat):Int)))]
theorem qqb {s l:List Pt} {e7:Int} (r0:Rl 2 2 60 0 33 4 (qrc l) ([(2,0,.ls 0 s.length),(0,0,qag s),(1,0,qaa l),(3,0,.row 80 3 0 ([]))]) (.ret) ([(4,.pv (.slice none 0 0)),(5,.pv (iV e7))]) ([])) :
 Fn 60 2 [qas 0 s,.ls 1 l.length] [(0,0,qag s),(1,0,qaa l)] (.pv (.tuple #[.slice none 0 0,iV (e7)])) 0 []:=
 Fz [] [.ln true 6 0 80 3,Lf r0]
  tI (Lo r0 [] tI)
theorem qtd {s l:List Pt} {n:Nat} {vs:List Value} (r0:Rl 2 2 60 0 33 4 (qrc l) ([(2,0,.ls 0 s.length),(0,0,qag s),(1,0,qaa l),(3,0,.row 80 3 0 ([]))]) (.exit 0) ([(6,.ls 3 n)]) ([(3,0,.row 80 3 n (vs))])) :
 Fn 60 2 [qas 0 s,.ls 1 l.length] [(0,0,qag s),(1,0,qaa l)] (.tu [.one (.ls 2 n),.one (.pv (iV 0))]) 1 [(2,0,.row 80 3 n (vs))]:=
 Fz [(2,3)] [.ln true 6 0 80 3,Lf r0]
  (qai (qaB [(2,3)]) [(2,0,.row 80 3 n (vs))]) (Lo r0 [] tI)
theorem qvf {rt z e1:Int} {l:List Pt} {e2:Int} (h1:qnK e1 l rt) (h2:Fn 52 1 [.ls 0 l.length] [(0,0,qaa l)] (.pv (iV (e2))) 0 []) (he:(e1 !=0)=true) :
 Fn 13 1 [trS 0 rt l,.pv (iV (z))] [(0,0,qaa l)] (.pv (.tuple #[.agg #[iV 0,.slice none 0 0],.agg #[iV 0,.slice none 0 0],iV (e1)])) 0 []:=
 Fz [] [.md,Cf h1 [0],Cf h2 [0],.k,.k,.t true,.t true]
  tI (Co h1 [0] 4 (Co h2 [0] 4 (Ai he (Ai he tI))))
theorem qu1 {rt z:Int} {l:List Pt} {e2:Int} (h1:qgl l rt) (h2:Fn 52 1 [.ls 0 l.length] [(0,0,qaa l)] (.pv (iV (e2))) 0 []) (he:(e2 !=0)=true) :
 Fn 13 1 [trS 0 rt l,.pv (iV (z))] [(0,0,qaa l)] (.pv (.tuple #[.agg #[iV 0,.slice none 0 0],.agg #[iV 0,.slice none 0 0],iV (e2)])) 0 []:=
 Fz [] [.md,Cf h1 [0],Cf h2 [0],.k,.k,.k,.k,.k,.t true,.t true]
  tI (Co h1 [0] 4 (Co h2 [0] 4 (Ai he (Ai he tI))))
abbrev qoN (l:List Pt):Prop:=Fn 52 1 [.ls 0 l.length] [(0,0,qaa l)] (.pv (iV (0))) 0 []
theorem qsw {rt y z v:Int} {l n1 n2:List Pt} {n:Nat} {p1 p2:Pt} {x1 y1:Int} (h1:qgl l rt) (h2:qoN l) (hcl:Fn 53 1 [.ls 0 l.length] [(0,0,qaa l)] (.ls 1 l.length) 1 [(1,0,qaa l)]) (hp:FnO Try.prog 54 0 1 [.ls 0 l.length,.pv (iV (rt)),.pv (iV (z))] [(0,0,.row 26 3 l.length (qam l))] (.pv (.tuple #[iV (x1),iV (y1)])) 0 [(0,0,.row 26 3 l.length (qam n1))]) (hle:Fn 55 1 [.ls 0 l.length,.pv (iV (z))] [(0,0,.row 26 3 l.length (qam n1))] (.pv (iV (n:Int))) 0 []) (t1:True) (p0:0≤(n:Int)) (p1:0≤n) (p2:n≤l.length) (hn1:iV (IntKind.i64.wrap (0-(n:Int)))=iV (v)) (hfu:Pure Try.prog 57 #[iV (y1),iV (v)] (iV (y))) (hn2:iV (IntKind.i64.wrap (0-(n:Int)))=iV (v)) (hsh:Fn 58 1 [.lq 0 3 (0+n) (l.length-n),.pv (iV (v))] [(0,0,.row 26 3 l.length (qam n1))] (.ls 1 n2.length) 1 [(1,0,qaa n2)]) :
 Fn 13 1 [trS 0 rt l,.pv (iV (z))] [(0,0,qaa l)] (.tu [.ag [.pv (iV x1),.lq 1 3 0 n],.ag [.pv (iV y),.ls 2 n2.length],.one (.pv (iV 0))]) 2 [(1,0,.row 26 3 l.length (qam n1)),(2,0,qaa n2)]:=
 Fz [(1,5),(2,6)] [.md,Cf h1 [0],Cf h2 [0],.k,.k,.k,.k,.k,.k,.k,.k,.k,Cf hcl [0],.fo 0 [5] [.ls 0 l.length,.pv (iV (rt)),.pv (iV (z))] [(0,0,.row 26 3 l.length (qam l))] (.pv (.tuple #[iV (x1),iV (y1)])) 0 [(0,0,.row 26 3 l.length (qam n1))],Cf hle [5],.k,.k,.md,Re hn1,Rf hfu,.k,Re hn1,Cf hsh [5]]
  (qai (qaB [(1,5),(2,6)]) [(1,0,.row 26 3 l.length (qam n1)),(2,0,qaa n2)]) (Co h1 [0] 4 (Co h2 [0] 4 (Co hcl [0] 5 (Ai hp (Ai (Eq.refl (List.map (SV.ren (qau [5] 6)) [.ls 0 l.length,.pv (iV (rt)),.pv (iV (z))])) (Ai (qai (qau [5] 6) [(0,0,.row 26 3 l.length (qam l))]) (Co hle [5] 6 (Ai t1 (Ai p0 (Ai p1 (Ai p2 (Ai t1 (Ai p0 (Ai p0 (Ai p1 (Ai (Nat.le_refl n) (Ai (Nat.le_refl n) (Ai hn1 (Ai hfu (Ai p0 (Ai t1 (Ai p2 (Ai (Nat.le_refl l.length) (Ai hn2 (Co hsh [5] 6 tI)))))))))))))))))))))))))
abbrev qgb (l:List Pt) (m:List Pt) (s:List Pt):HpL:=[(0,0,qaa l),(1,0,qaa m),(2,0,qag s)]
theorem qu8 {rt x tn td:Int} {s l m:List Pt} {e5 e6:Int} {e2 e3 e4:Int} (h1:qgl l rt) (h2:Fn 17 1 [trS 0 x m] [(0,0,qaa m)] (.pv (iV (e2))) 0 []) (h3:Fn 52 1 [.ls 0 l.length] [(0,0,qaa l)] (.pv (iV (e3))) 0 []) (h4:Fn 52 1 [.ls 0 m.length] [(0,0,qaa m)] (.pv (iV (e4))) 0 []) (h5:Fn 47 1 [qas 0 s] [(0,0,qag s)] (.pv (iV (e5))) 0 []) (h6:Pure Try.prog 48 #[qab tn td] (iV (e6))) (he:(e2 !=0)=true) :
 Fn 14 3 [trS 0 rt l,trS 1 x m,qas 2 s,.pv (qab tn td)] (qgb l m s) (.pv (.tuple #[.agg #[iV 0,.slice none 0 0],iV (e2)])) 0 []:=
 Fz [] [.md,Cf h1 [0],Cf h2 [1],Cf h3 [0],Cf h4 [1],Cf h5 [2],Rf h6,.k,.k,.k,.k,.k,.t true,.t true]
  tI (Co h1 [0] 8 (Co h2 [1] 8 (Co h3 [0] 8 (Co h4 [1] 8 (Co h5 [2] 8 (Ai h6 (Ai he (Ai he tI))))))))
theorem qu7 {rt x tn td:Int} {s l m:List Pt} {e5 e6:Int} {e3 e4:Int} (h1:qgl l rt) (h2:qnQ m x) (h3:Fn 52 1 [.ls 0 l.length] [(0,0,qaa l)] (.pv (iV (e3))) 0 []) (h4:Fn 52 1 [.ls 0 m.length] [(0,0,qaa m)] (.pv (iV (e4))) 0 []) (h5:Fn 47 1 [qas 0 s] [(0,0,qag s)] (.pv (iV (e5))) 0 []) (h6:Pure Try.prog 48 #[qab tn td] (iV (e6))) (he:(e3 !=0)=true) :
 Fn 14 3 [trS 0 rt l,trS 1 x m,qas 2 s,.pv (qab tn td)] (qgb l m s) (.pv (.tuple #[.agg #[iV 0,.slice none 0 0],iV (e3)])) 0 []:=
 Fz [] [.md,Cf h1 [0],Cf h2 [1],Cf h3 [0],Cf h4 [1],Cf h5 [2],Rf h6,.k,.k,.k,.k,.k,.k,.k,.k,.t true,.t true]
  tI (Co h1 [0] 8 (Co h2 [1] 8 (Co h3 [0] 8 (Co h4 [1] 8 (Co h5 [2] 8 (Ai h6 (Ai he (Ai he tI))))))))
abbrev qh1 (m:List Pt):Prop:=Fn 52 1 [.ls 0 m.length] [(0,0,qaa m)] (.pv (iV (0))) 0 []
theorem qux {rt x tn td:Int} {s l m:List Pt} {e5 e6:Int} (h1:qgl l rt) (h2:qnQ m x) (h3:qoN l) (h4:qh1 m) (h5:Fn 47 1 [qas 0 s] [(0,0,qag s)] (.pv (iV (e5))) 0 []) (h6:Pure Try.prog 48 #[qab tn td] (iV (e6))) (he:(e5 !=0)=true) :
 Fn 14 3 [trS 0 rt l,trS 1 x m,qas 2 s,.pv (qab tn td)] (qgb l m s) (.pv (.tuple #[.agg #[iV 0,.slice none 0 0],iV (e5)])) 0 []:=
 Fz [] [.md,Cf h1 [0],Cf h2 [1],Cf h3 [0],Cf h4 [1],Cf h5 [2],Rf h6,.k,.k,.k,.k,.k,.k,.k,.k,.k,.k,.k,.k,.k,.k,.t true,.t true]
  tI (Co h1 [0] 8 (Co h2 [1] 8 (Co h3 [0] 8 (Co h4 [1] 8 (Co h5 [2] 8 (Ai h6 (Ai he (Ai he tI))))))))
theorem qum {rt x tn td:Int} {s l m:List Pt} {e6:Int} (h1:qgl l rt) (h2:qnQ m x) (h3:qoN l) (h4:qh1 m) (h5:qmq s) (h6:Pure Try.prog 48 #[qab tn td] (iV (e6))) (he:(e6 !=0)=true) :
 Fn 14 3 [trS 0 rt l,trS 1 x m,qas 2 s,.pv (qab tn td)] (qgb l m s) (.pv (.tuple #[.agg #[iV 0,.slice none 0 0],iV (e6)])) 0 []:=
 Fz [] [.md,Cf h1 [0],Cf h2 [1],Cf h3 [0],Cf h4 [1],Cf h5 [2],Rf h6,.k,.k,.k,.k,.k,.k,.k,.k,.k,.k,.k,.k,.k,.k,.k,.k,.k,.t true,.t true]
  tI (Co h1 [0] 8 (Co h2 [1] 8 (Co h3 [0] 8 (Co h4 [1] 8 (Co h5 [2] 8 (Ai h6 (Ai he (Ai he tI))))))))
abbrev qtm (l:List Pt) (n1:List Pt) (n2:List Pt):Prop:=Fn 59 3 [.ps 2 0 2 2] [(2,0,.ls 0 l.length),(2,1,.ls 1 n2.length),(0,0,qaa l),(1,0,qaa n2)] (.ls 3 n1.length) 1 [(3,0,qaa n1)]
abbrev qlH (l:List Pt) (m:List Pt) (n2:List Pt):Prop:=Fn 58 1 [.ls 0 m.length,.pv (iV (l.length:Int))] [(0,0,qaa m)] (.ls 1 n2.length) 1 [(1,0,qaa n2)]
abbrev qpx (e4:Int) (n1:List Pt):Prop:=Fn 52 1 [.ls 0 n1.length] [(0,0,qaa n1)] (.pv (iV (e4))) 0 []
theorem qmp {rt x tn td:Int} {s l m n1 n2:List Pt} {e4:Int} {d:List Pt} (h1:qgl l rt) (h2:qnQ m x) (h3:qoN l) (h4:qh1 m) (h5:qmq s) (h6:qh9 td tn) (hsh:qlH l m n2) (hca:qtm l n1 n2) (hpo:Fn 60 2 [qas 0 s,.ls 1 n1.length] [(0,0,qag s),(1,0,qaa n1)] (.tu [.one (.ls 2 d.length),.one (.pv (iV 0))]) 1 [(2,0,qag d)]) (h7:Fn 61 1 [.ls 0 n1.length] [(0,0,qaa n1)] (.pv (iV (4))) 0 []) (h8:qpx e4 n1) :
 Fn 14 3 [trS 0 rt l,trS 1 x m,qas 2 s,.pv (qab tn td)] (qgb l m s) (.pv (.tuple #[.agg #[iV 0,.slice none 0 0],iV (4)])) 0 []:=
 Fz [] [.md,Cf h1 [0],Cf h2 [1],Cf h3 [0],Cf h4 [1],Cf h5 [2],Rf h6,.k,.k,.k,.k,.k,.k,.k,.k,.k,.k,.k,.k,.k,.k,.k,.k,.k,.k,.k,.k,.k,.md,Cf hsh [1],Cf hca [0,9,10],Cf hpo [2,11],Cf h7 [11],Cf h8 [11],.k,.k,.k,.k]
  tI (Co h1 [0] 8 (Co h2 [1] 8 (Co h3 [0] 8 (Co h4 [1] 8 (Co h5 [2] 8 (Ai h6 (Co hsh [1] 9 (Co hca [0,9,10] 11 (Co hpo [2,11] 12 (Co h7 [11] 13 (Co h8 [11] 13 tI)))))))))))
theorem qkN {rt x tn td e:Int} {s l m n1 n2:List Pt} {e4:Int} (h1:qgl l rt) (h2:qnQ m x) (h3:qoN l) (h4:qh1 m) (h5:qmq s) (h6:qh9 td tn) (hsh:qlH l m n2) (hca:qtm l n1 n2) (hpo:Fn 60 2 [qas 0 s,.ls 1 n1.length] [(0,0,qag s),(1,0,qaa n1)] (.pv (.tuple #[.slice none 0 0,iV (e)])) 0 []) (h7:Fn 61 1 [.ls 0 n1.length] [(0,0,qaa n1)] (.pv (iV (4))) 0 []) (h8:qpx e4 n1) :
 Fn 14 3 [trS 0 rt l,trS 1 x m,qas 2 s,.pv (qab tn td)] (qgb l m s) (.pv (.tuple #[.agg #[iV 0,.slice none 0 0],iV (4)])) 0 []:=
 Fz [] [.md,Cf h1 [0],Cf h2 [1],Cf h3 [0],Cf h4 [1],Cf h5 [2],Rf h6,.k,.k,.k,.k,.k,.k,.k,.k,.k,.k,.k,.k,.k,.k,.k,.k,.k,.k,.k,.k,.k,.md,Cf hsh [1],Cf hca [0,9,10],Cf hpo [2,11],Cf h7 [11],Cf h8 [11],.k,.k,.k,.k]
  tI (Co h1 [0] 8 (Co h2 [1] 8 (Co h3 [0] 8 (Co h4 [1] 8 (Co h5 [2] 8 (Ai h6 (Co hsh [1] 9 (Co hca [0,9,10] 11 (Co hpo [2,11] 12 (Co h7 [11] 12 (Co h8 [11] 12 tI)))))))))))
theorem qmz {rt x tn td e:Int} {s l m n1 n2:List Pt} {e4:Int} (h1:qgl l rt) (h2:qnQ m x) (h3:qoN l) (h4:qh1 m) (h5:qmq s) (h6:qh9 td tn) (hsh:qlH l m n2) (hca:qtm l n1 n2) (hpo:Fn 60 2 [qas 0 s,.ls 1 n1.length] [(0,0,qag s),(1,0,qaa n1)] (.pv (.tuple #[.slice none 0 0,iV (e)])) 0 []) (h7:Fn 61 1 [.ls 0 n1.length] [(0,0,qaa n1)] (.pv (iV (0))) 0 []) (h8:qpx e4 n1) (hee:(e !=0)=true) :
 Fn 14 3 [trS 0 rt l,trS 1 x m,qas 2 s,.pv (qab tn td)] (qgb l m s) (.pv (.tuple #[.agg #[iV 0,.slice none 0 0],iV (e)])) 0 []:=
 Fz [] [.md,Cf h1 [0],Cf h2 [1],Cf h3 [0],Cf h4 [1],Cf h5 [2],Rf h6,.k,.k,.k,.k,.k,.k,.k,.k,.k,.k,.k,.k,.k,.k,.k,.k,.k,.k,.k,.k,.k,.md,Cf hsh [1],Cf hca [0,9,10],Cf hpo [2,11],Cf h7 [11],Cf h8 [11],.k,.k,.k,.k,.k,.t true,.t true]
  tI (Co h1 [0] 8 (Co h2 [1] 8 (Co h3 [0] 8 (Co h4 [1] 8 (Co h5 [2] 8 (Ai h6 (Co hsh [1] 9 (Co hca [0,9,10] 11 (Co hpo [2,11] 12 (Co h7 [11] 12 (Co h8 [11] 12 (Ai hee (Ai hee tI)))))))))))))
theorem qqh {rt x tn td:Int} {s l m n1 n2:List Pt} {d:List Pt} (h1:qgl l rt) (h2:qnQ m x) (h3:qoN l) (h4:qh1 m) (h5:qmq s) (h6:qh9 td tn) (hsh:qlH l m n2) (hca:qtm l n1 n2) (hpo:Fn 60 2 [qas 0 s,.ls 1 n1.length] [(0,0,qag s),(1,0,qaa n1)] (.tu [.one (.ls 2 d.length),.one (.pv (iV 0))]) 1 [(2,0,qag d)]) (h7:Fn 61 1 [.ls 0 n1.length] [(0,0,qaa n1)] (.pv (iV (0))) 0 []) (h8:Fn 52 1 [.ls 0 n1.length] [(0,0,qaa n1)] (.pv (iV (32))) 0 []) :
 Fn 14 3 [trS 0 rt l,trS 1 x m,qas 2 s,.pv (qab tn td)] (qgb l m s) (.pv (.tuple #[.agg #[iV 0,.slice none 0 0],iV (32)])) 0 []:=
 Fz [] [.md,Cf h1 [0],Cf h2 [1],Cf h3 [0],Cf h4 [1],Cf h5 [2],Rf h6,.k,.k,.k,.k,.k,.k,.k,.k,.k,.k,.k,.k,.k,.k,.k,.k,.k,.k,.k,.k,.k,.md,Cf hsh [1],Cf hca [0,9,10],Cf hpo [2,11],Cf h7 [11],Cf h8 [11],.k,.k,.k,.k,.k,.k,.k,.k,.k,.k]
  tI (Co h1 [0] 8 (Co h2 [1] 8 (Co h3 [0] 8 (Co h4 [1] 8 (Co h5 [2] 8 (Ai h6 (Co hsh [1] 9 (Co hca [0,9,10] 11 (Co hpo [2,11] 12 (Co h7 [11] 13 (Co h8 [11] 13 tI)))))))))))
end Go.Proofs.Ytalnjplghagbpaa

namespace Go.Proofs.Ytalnjplghagbpaa
set_option maxRecDepth 100000
open Go.RowKit
theorem qm5 {rt z tn td:Int} {s l n1 n2:List Pt} {n3 d:List Pt} {x1:Int} (h1:Fn 17 1 [trS 0 rt l] [(0,0,qaa l)] (.pv (iV (0))) 0 []) (h3:Fn 52 1 [.ls 0 l.length] [(0,0,qaa l)] (.pv (iV (0))) 0 []) (h5:Fn 47 1 [qas 0 s] [(0,0,qag s)] (.pv (iV (0))) 0 []) (h6:Pure Try.prog 48 #[qab tn td] (iV (0))) (hsh:Fn 58 1 [.ls 0 l.length,.pv (iV (l.length:Int))] [(0,0,qaa l)] (.ls 1 n2.length) 1 [(1,0,qaa n2)]) (hca:Fn 59 3 [.ps 2 0 2 2] [(2,0,.ls 0 l.length),(2,1,.ls 1 n2.length),(0,0,qaa l),(1,0,qaa n2)] (.ls 3 n1.length) 1 [(3,0,qaa n1)]) (hpo:Fn 60 2 [qas 0 s,.ls 1 n1.length] [(0,0,qag s),(1,0,qaa n1)] (.tu [.one (.ls 2 d.length),.one (.pv (iV 0))]) 1 [(2,0,qag d)]) (h7:Fn 61 1 [.ls 0 n1.length] [(0,0,qaa n1)] (.pv (iV (0))) 0 []) (h8:Fn 52 1 [.ls 0 n1.length] [(0,0,qaa n1)] (.pv (iV (0))) 0 []) (hfu:Pure Try.prog 57 #[iV (rt),iV (l.length:Int)] (iV (x1))) (hj:FnO Try.prog 62 1 2 [.ag [.ls 1 n1.length,.ls 0 d.length,.pv (iV tn),.pv (iV td)],.pv (iV (rt)),.pv (iV (x1))] [(0,0,qag d),(1,0,qaa n1)] (.pv (iV (z))) 0 [(1,0,.row 26 3 n1.length (qam n3))]) :
 Fn 14 2 [trS 0 rt l,trS 0 rt l,qas 1 s,.pv (qab tn td)] [(0,0,qaa l),(1,0,qag s)] (.tu [.ag [.pv (iV z),.ls 2 n1.length],.one (.pv (iV 0))]) 1 [(2,0,.row 26 3 n1.length (qam n3))]:=
 Fz [(2,10)] [.md,Cf h1 [0],Cf h1 [0],Cf h3 [0],Cf h3 [0],Cf h5 [1],Rf h6,.k,.k,.k,.k,.k,.k,.k,.k,.k,.k,.k,.k,.k,.k,.k,.k,.k,.k,.k,.k,.k,.md,Cf hsh [0],Cf hca [0,8,9],Cf hpo [1,10],Cf h7 [10],Cf h7 [10],.k,.k,.k,.k,.k,.k,.k,.k,.k,.k,.k,.k,.gh [(2,0),(3,0),(5,0),(5,1)],Rf hfu,.fo 1 [11,10] [.ag [.ls 1 n1.length,.ls 0 d.length,.pv (iV tn),.pv (iV td)],.pv (iV (rt)),.pv (iV (x1))] [(0,0,qag d),(1,0,qaa n1)] (.pv (iV (z))) 0 [(1,0,.row 26 3 n1.length (qam n3))]]
  (qai (qaB [(2,10)]) [(2,0,.row 26 3 n1.length (qam n3))]) (Co h1 [0] 7 (Co h1 [0] 7 (Co h3 [0] 7 (Co h3 [0] 7 (Co h5 [1] 7 (Ai h6 (Co hsh [0] 8 (Co hca [0,8,9] 10 (Co hpo [1,10] 11 (Co h7 [10] 12 (Co h8 [10] 12 (Ai (Er (SV.pv (iV rt))) (Ai (Er (SV.pv (iV rt))) (Ai (Er (SV.pv (iV tn))) (Ai (Er (SV.pv (iV td))) (Ai hfu (Ai (Er (SV.pv (iV rt))) (Ai (Er (SV.pv (iV rt))) (Ai (Er (SV.pv (iV tn))) (Ai (Er (SV.pv (iV td))) (Ai hj (Ai (Eq.refl (List.map (SV.ren (qau [11,10] 13)) [.ag [.ls 1 n1.length,.ls 0 d.length,.pv (iV tn),.pv (iV td)],.pv (iV (rt)),.pv (iV (x1))])) (Ai (qai (qau [11,10] 13) [(0,0,qag d),(1,0,qaa n1)]) (Ai (Er (SV.pv (iV rt))) (Ai (Er (SV.pv (iV rt))) (Ai (Er (SV.pv (iV tn))) (Ai (Er (SV.pv (iV td))) (Ai (Er (SV.pv (iV rt))) (Ai (Er (SV.pv (iV rt))) (Ai (Er (SV.pv (iV tn))) (Ai (Er (SV.pv (iV td))) tI)))))))))))))))))))))))))))))))
end Go.Proofs.Ytalnjplghagbpaa
