/-
  Joined: Ec, Df. Conditions: none.
-/
import Derived.Test.YtalnjplghagbpaaW29
import Derived.Test.YtalnjplghagbpaaW19
import Derived.Test.YtalnjplghagbpaaW30
namespace Go.Proofs.Ytalnjplghagbpaa
set_option maxRecDepth 100000
open Go.RowKit
theorem qkN {rt:Int} {l:List Pt} (hs:Fn 61 1 [.ls 0 l.length] [(0,0,qac l)] (.pv (iV (4))) 0 []) :
 Fn 17 1 [trS 0 rt l] [(0,0,qac l)] (.pv (iV (4))) 0 []:=
 Fz [] [Cf hs [0],.k]
  tI (Co hs [0] 2 tI)
abbrev qn6 (l:List Pt):Prop:=Fn 61 1 [.ls 0 l.length] [(0,0,qac l)] (.pv (iV (0))) 0 []
theorem qkF {rt:Int} {l:List Pt} {g:List Int} (hs:qn6 l) (hw:Fn 45 1 [trS 0 rt l] [(0,0,qac l)] (.tu [.one (.ls 1 g.length),.one (.pv (.bool false))]) 1 [(1,0,zrI g)]) :
 Fn 17 1 [trS 0 rt l] [(0,0,qac l)] (.pv (iV (8))) 0 []:=
 Fz [] [Cf hs [0],.k,Cf hw [0],.k]
  tI (Co hs [0] 2 (Co hw [0] 2 tI))
theorem qpL {rt:Int} {l:List Pt} {g:List Int} (hs:qn6 l) (hw:Fn 45 1 [trS 0 rt l] [(0,0,qac l)] (.tu [.one (.ls 1 g.length),.one (.pv (.bool true))]) 1 [(1,0,zrI g)]) (hfi:Fn 63 2 [.ls 0 l.length,.ls 1 g.length] [(0,0,qac l),(1,0,zrI g)] (.pv (.bool true)) 0 []) :
 Fn 17 1 [trS 0 rt l] [(0,0,qac l)] (.pv (iV (0))) 0 []:=
 Fz [] [Cf hs [0],.k,Cf hw [0],.k,Cf hfi [0,2],.k]
  tI (Co hs [0] 2 (Co hw [0] 2 (Co hfi [0,2] 3 tI)))
theorem qnQ {rt:Int} {l:List Pt} {g:List Int} (hs:qn6 l) (hw:Fn 45 1 [trS 0 rt l] [(0,0,qac l)] (.tu [.one (.ls 1 g.length),.one (.pv (.bool true))]) 1 [(1,0,zrI g)]) (hfi:Fn 63 2 [.ls 0 l.length,.ls 1 g.length] [(0,0,qac l),(1,0,zrI g)] (.pv (.bool false)) 0 []) :
 Fn 17 1 [trS 0 rt l] [(0,0,qac l)] (.pv (iV (8))) 0 []:=
 Fz [] [Cf hs [0],.k,Cf hw [0],.k,Cf hfi [0,2],.k]
  tI (Co hs [0] 2 (Co hw [0] 2 (Co hfi [0,2] 3 tI)))
abbrev qm8 (e1:Int) (l:List Pt) (rt:Int):Prop:=Fn 17 1 [trS 0 rt l] [(0,0,qac l)] (.pv (iV (e1))) 0 []
theorem qsj {rt e1:Int} {l:List Pt} (hc:qm8 e1 l rt) (hce:(e1 !=0)=true) :
 Fn 10 1 [trS 0 rt l] [(0,0,qac l)] (.pv (.tuple #[.slice none 0 0,iV (e1)])) 0 []:=
 Fz [] [Cf hc [0],.t true]
  tI (Co hc [0] 2 (Ai hce tI))
abbrev qng (g:List Int) (l:List Pt) (n:Nat) (rt:Int):HpL:=[(1,0,.pv (iV rt)),(1,1,.ls 0 l.length),(0,0,qac l),(2,0,.row 3 1 n (ziV g))]
theorem qma {rt z:Int} {l:List Pt} {p:Pt} {g:List Int} {k n:Nat} (hlt:decide ((k:Int)<(n:Int))=true) (hin:0≤(k:Int)∧(k:Int)<(n:Int)) (hg:g[k]?=some z) (hzi:0≤z∧z<(l.length:Int)) (hp:l[z.toNat]?=some p) (hl:k<g.length) (hs:iV (IntKind.i64.wrap ((k:Int)+1))=iV (((k+1:Nat):Int))) {e:Exit} {tm2:TmL} {hp2:HpL}
 (r:Rl 1 1 10 0 37 3 ([(1,.pp 1 0),(5,.ls 2 n),(19,.ls 2 n),(20,.pv (iV (n:Int))),(21,.pv (iV ((k+1:Nat):Int)))]) ([(1,0,.pv (iV rt)),(1,1,.ls 0 l.length),(0,0,qac l),(2,0,.row 3 1 n (ziV (g.set k p.id)))]) e tm2 hp2):Rl 1 1 10 0 37 3 ([(1,.pp 1 0),(5,.ls 2 n),(19,.ls 2 n),(20,.pv (iV (n:Int))),(21,.pv (iV (k:Int)))]) (qng g l n rt) e tm2 hp2:=
 RunsL.next [] 300 [.t true,.r (iV z),.r (iV p.id),.w (ziV (g.set k p.id)),Re hs]
  (Ro (Ai hlt (Ai hin (Ai (qfu hg) (Ai hzi (Ai (qaH hp) (Ai hin (Ai (qpg g k p.id hl) (Ai (qd6 g k hl) (Ai hs tI)))))))))) r
theorem qm9 {rt:Int} {l:List Pt} {g:List Int} {k n:Nat} (hlt:decide ((k:Int)<(n:Int))=false):Rl 1 1 10 0 37 3 ([(1,.pp 1 0),(5,.ls 2 n),(19,.ls 2 n),(20,.pv (iV (n:Int))),(21,.pv (iV (k:Int)))]) (qng g l n rt) (.exit 0) ([(5,.ls 2 n)]) ([(2,0,.row 3 1 n (ziV g))]):=
 RunsL.stop [] 300 [.t false] (fun h=>by cases h)
  (Ro (Ai hlt tI))
theorem qqy {rt e1:Int} {l:List Pt} {g c1:List Int} {n:Nat} {w:Bool} (hc:qm8 e1 l rt) (hce:(e1 !=0)=false) (hw:Fn 45 1 [trS 0 rt l] [(0,0,qac l)] (.tu [.one (.ls 1 n),.one (.pv (.bool w))]) 1 [(1,0,.row 3 1 n (ziV g))]) (r0:Rl 1 1 10 0 37 3 ([(1,.pp 1 0),(5,.ls 2 n),(19,.ls 2 n),(20,.pv (iV (n:Int))),(21,.pv (iV ((0:Nat):Int)))]) (qng g l n rt) (.exit 0) ([(5,.ls 2 n)]) ([(2,0,.row 3 1 n (ziV c1))])) :
 Fn 10 1 [trS 0 rt l] [(0,0,qac l)] (.tu [.one (.ls 1 n),.one (.pv (iV 0))]) 1 [(1,0,.row 3 1 n (ziV c1))]:=
 Fz [(1,2)] [Cf hc [0],.t false,Cf hw [0],Lf r0]
  (qam (qaF [(1,2)]) [(1,0,.row 3 1 n (ziV c1))]) (Co hc [0] 2 (Ai hce (Co hw [0] 2 (Lo r0 [] tI))))
theorem qpt {z:Int} {g:List Int} {n:Nat} (h:(z==(-1))=true) :
 Fn 88 2 [.pv (iV (z)),.pp 0 0] [(0,0,.ls 1 n),(1,0,.row 3 1 n (ziV g))] (.pv (iV (-1))) 0 []:=
 Fz [] [.t true]
  tI (Ai h tI)
theorem qnU {y z:Int} {g:List Int} {n:Nat} (h:(z==(-1))=false) (hin:0≤z∧z<(n:Int)) (hg:g[z.toNat]?=some y) :
 Fn 88 2 [.pv (iV (z)),.pp 0 0] [(0,0,.ls 1 n),(1,0,.row 3 1 n (ziV g))] (.pv (iV (y))) 0 []:=
 Fz [] [.t false,.r (iV y)]
  tI (Ai h (Ai hin (Ai (qju hg) tI)))
abbrev qrH (c1:List Int) (g:List Int) (l:List Pt) (n:Nat) (rt:Int):HpL:=[(1,0,.pv (iV rt)),(1,1,.ls 0 l.length),(2,0,.pv (iV 0)),(2,1,.pv (.slice none 0 0)),(5,0,.ls 4 n),(0,0,qac l),(3,0,.row 3 1 n (ziV g)),(4,0,.row 3 1 n (ziV c1))]
abbrev qpB (k:Nat) (n:Nat):TmL:=[(1,.pp 1 0),(2,.pp 2 0),(3,.ls 3 n),(5,.pp 5 0),(21,.ls 3 n),(22,.pv (iV (n:Int))),(23,.pv (iV (k:Int)))]
theorem qln {rt z:Int} {l:List Pt} {g c1:List Int} {k n:Nat} (hlt:decide ((k:Int)<(n:Int))=true) (hin:0≤(k:Int)∧(k:Int)<(n:Int)) (hg:g[k]?=some z) (hzi:0≤z∧z<(n:Int)) (hl:z.toNat<c1.length) (hs:iV (IntKind.i64.wrap ((k:Int)+1))=iV (((k+1:Nat):Int))) {e:Exit} {tm2:TmL} {hp2:HpL}
 (r:Rl 1 1 50 0 68 6 ([(1,.pp 1 0),(2,.pp 2 0),(3,.ls 3 n),(5,.pp 5 0),(21,.ls 3 n),(22,.pv (iV (n:Int))),(23,.pv (iV ((k+1:Nat):Int)))]) ([(1,0,.pv (iV rt)),(1,1,.ls 0 l.length),(2,0,.pv (iV 0)),(2,1,.pv (.slice none 0 0)),(5,0,.ls 4 n),(0,0,qac l),(3,0,.row 3 1 n (ziV g)),(4,0,.row 3 1 n (ziV (c1.set z.toNat (k:Int))))]) e tm2 hp2):Rl 1 1 50 0 68 6 (qpB k n) (qrH c1 g l n rt) e tm2 hp2:=
 RunsL.next [] 300 [.t true,.r (iV z),.w (ziV (c1.set z.toNat (k:Int))),Re hs]
  (Ro (Ai hlt (Ai hin (Ai (qfu hg) (Ai hzi (Ai (qpg c1 z.toNat (k:Int) hl) (Ai (qd6 c1 z.toNat hl) (Ai hs tI)))))))) r
theorem qnK {rt:Int} {l:List Pt} {g c1:List Int} {k n:Nat} (hlt:decide ((k:Int)<(n:Int))=false):Rl 1 1 50 0 68 6 (qpB k n) (qrH c1 g l n rt) (.exit 0) ([(1,.pp 1 0),(2,.pp 2 0),(3,.ls 3 n),(5,.pp 5 0)]) (qrH c1 g l n rt):=
 RunsL.stop [] 300 [.t false] (fun h=>by cases h)
  (Ro (Ai hlt tI))
abbrev qty (N:Nat) (c1:List Int) (g:List Int) (l:List Pt) (n:Nat) (rt:Int) (vs:List Value) (x:Int):HpL:=[(1,0,.pv (iV rt)),(1,1,.ls 0 l.length),(2,0,.pv (iV 0)),(2,1,.pv (.slice none 0 0)),(5,0,.ls 4 n),(0,0,qac l),(3,0,.row 3 1 n (ziV g)),(4,0,.row 3 1 n (ziV c1)),(6,0,.pv (iV x)),(6,1,.ls 7 N),(7,0,.row 26 3 N (vs))]
abbrev qqu (k:Nat) (n:Nat):TmL:=[(1,.pp 1 0),(2,.pp 2 0),(8,.pc 88 [.pp 5 0]),(9,.pp 6 0),(39,.ls 3 n),(40,.pv (iV (n:Int))),(41,.pv (iV (k:Int)))]
theorem qj1 {rt x z:Int} {l:List Pt} {p:Pt} {g c1:List Int} {k n:Nat} {vs:List Value} {a2 b2:Int} {N:Nat} (hlt:decide ((k:Int)<(n:Int))=true) (hin:0≤(k:Int)∧(k:Int)<(n:Int)) (hg:g[k]?=some z) (hzi:0≤z∧z<(l.length:Int)) (hp:l[z.toNat]?=some p) (hn:N+1≤1000000) (ha:Fn 88 2 [.pv (iV (p.a)),.pp 0 0] [(0,0,.ls 1 n),(1,0,.row 3 1 n (ziV c1))] (.pv (iV (a2))) 0 []) (hb:Fn 88 2 [.pv (iV (p.b)),.pp 0 0] [(0,0,.ls 1 n),(1,0,.row 3 1 n (ziV c1))] (.pv (iV (b2))) 0 []) (hs:iV (IntKind.i64.wrap ((k:Int)+1))=iV (((k+1:Nat):Int))) {e:Exit} {tm2:TmL} {hp2:HpL}
 (r:Rl 1 1 50 1 68 8 ([(1,.pp 1 0),(2,.pp 2 0),(8,.pc 88 [.pp 5 0]),(9,.pp 6 0),(39,.ls 3 n),(40,.pv (iV (n:Int))),(41,.pv (iV ((k+1:Nat):Int)))]) ([(1,0,.pv (iV rt)),(1,1,.ls 0 l.length),(2,0,.pv (iV 0)),(2,1,.pv (.slice none 0 0)),(5,0,.ls 4 n),(0,0,qac l),(3,0,.row 3 1 n (ziV g)),(4,0,.row 3 1 n (ziV c1)),(6,0,.pv (iV x)),(6,1,.ls 7 (N+1)),(7,0,.row 26 3 (N+1) (vs++[iV p.id,iV a2,iV b2]))]) e tm2 hp2):Rl 1 1 50 1 68 8 (qqu k n) (qty N c1 g l n rt vs x) e tm2 hp2:=
 RunsL.next [(7,10)] 300 [.t true,.r (iV z),.r (ptV p),.md,Cf ha [5,4],Cf hb [5,4],Re hs]
  (Ro (Ai hlt (Ai hin (Ai (qfu hg) (Ai hzi (Ai (qbe hp) (Co ha [5,4] 9 (Co hb [5,4] 9 (Ai hn (Ai hs tI)))))))))) r
theorem qkp {rt x:Int} {l:List Pt} {g c1:List Int} {k n:Nat} {vs:List Value} {N:Nat} (hlt:decide ((k:Int)<(n:Int))=false):Rl 1 1 50 1 68 8 (qqu k n) (qty N c1 g l n rt vs x) (.exit 2) ([(2,.pp 2 0),(9,.pp 6 0)]) ([(2,0,.pv (iV 0)),(2,1,.pv (.slice none 0 0)),(6,0,.pv (iV x)),(6,1,.ls 7 N),(7,0,.row 26 3 N (vs))]):=
 RunsL.stop [] 300 [.t false] (fun h=>by cases h)
  (Ro (Ai hlt tI))
theorem qrp {rt x:Int} {l:List Pt} {g c1:List Int} {n:Nat} {w:Bool} {vs:List Value} {N:Nat} (hw:Fn 45 1 [trS 0 rt l] [(0,0,qac l)] (.tu [.one (.ls 1 n),.one (.pv (.bool w))]) 1 [(1,0,.row 3 1 n (ziV g))]) (m0:0≤(n:Int)) (m1:(n:Int)≤1000000) (r0:Rl 1 1 50 0 68 6 ([(1,.pp 1 0),(2,.pp 2 0),(3,.ls 3 n),(5,.pp 5 0),(21,.ls 3 n),(22,.pv (iV (n:Int))),(23,.pv (iV ((0:Nat):Int)))]) ([(1,0,.pv (iV rt)),(1,1,.ls 0 l.length),(2,0,.pv (iV 0)),(2,1,.pv (.slice none 0 0)),(5,0,.ls 4 n),(0,0,qac l),(3,0,.row 3 1 n (ziV g)),(4,0,.row 3 1 n (ziV (List.replicate n 0)))]) (.exit 0) ([(1,.pp 1 0),(2,.pp 2 0),(3,.ls 3 n),(5,.pp 5 0)]) (qrH c1 g l n rt)) (hr:Fn 88 2 [.pv (iV (rt)),.pp 0 0] [(0,0,.ls 1 n),(1,0,.row 3 1 n (ziV c1))] (.pv (iV (x))) 0 []) (rr1:Rl 1 1 50 1 68 8 ([(1,.pp 1 0),(2,.pp 2 0),(8,.pc 88 [.pp 5 0]),(9,.pp 6 0),(39,.ls 3 n),(40,.pv (iV (n:Int))),(41,.pv (iV ((0:Nat):Int)))]) ([(1,0,.pv (iV rt)),(1,1,.ls 0 l.length),(2,0,.pv (iV 0)),(2,1,.pv (.slice none 0 0)),(5,0,.ls 4 n),(0,0,qac l),(3,0,.row 3 1 n (ziV g)),(4,0,.row 3 1 n (ziV c1)),(6,0,.pv (iV x)),(6,1,.ls 7 0),(7,0,.row 26 3 0 ([]))]) (.exit 2) ([(2,.pp 2 0),(9,.pp 6 0)]) ([(2,0,.pv (iV 0)),(2,1,.pv (.slice none 0 0)),(6,0,.pv (iV x)),(6,1,.ls 7 N),(7,0,.row 26 3 N (vs))])) :
 Fn 50 1 [trS 0 rt l] [(0,0,qac l)] (.ag [.pv (iV x),.ls 1 N]) 1 [(1,0,.row 26 3 N (vs))]:=
 Fz [(1,7)] [Cf hw [0],Lf r0,Cf hr [5,4],.ln false 6 1 26 3,Lf rr1]
  (qam (qaF [(1,7)]) [(1,0,.row 26 3 N (vs))]) (Co hw [0] 3 (Ai m0 (Ai (Eq.refl (n:Int)) (Ai m1 (Ai (Lt r0 []) (Ai (Ai (Er (SV.pv (iV rt))) (Ai (Er (SV.ls 0 l.length)) (Ai (Er (SV.pv (iV 0))) (Ai (Er (SV.pv (.slice none 0 0))) (Ai (Er (SV.ls 4 n)) (Ai (Er (qac l)) (Ai (Er (SV.row 3 1 n (ziV g))) (Ai (qfP n) tI)))))))) (Ai r0 (Co hr [5,4] 6 (Lo rr1 [] tI)))))))))
abbrev qr1 (n:Nat) (s:List Pt) (td:Int) (tn:Int) (vs:List Value):HpL:=[(1,0,.ls 0 s.length),(2,0,.pv (iV tn)),(2,1,.pv (iV td)),(3,0,.pv (iV 0)),(3,1,.pv (.slice none 0 0)),(4,0,.pv (iV (-1))),(4,1,.ls 5 n),(0,0,qag s),(5,0,.row 26 3 n (vs))]
abbrev qpp (k:Nat) (s:List Pt):TmL:=[(2,.pp 1 0),(3,.pp 2 0),(4,.pp 3 0),(5,.pp 4 0),(12,.ls 0 s.length),(13,.pv (iV (s.length:Int))),(14,.pv (iV (k:Int)))]
theorem qkw {tn td:Int} {s:List Pt} {p:Pt} {k n:Nat} {vs:List Value} (hlt:decide ((k:Int)<(s.length:Int))=true) (hin:0≤(k:Int)∧(k:Int)<(s.length:Int)) (hk:s[k]?=some p) (hn:n+1≤1000000) (hs:iV (IntKind.i64.wrap ((k:Int)+1))=iV (((k+1:Nat):Int))) {e:Exit} {tm2:TmL} {hp2:HpL}
 (r:Rl 1 1 51 0 47 6 ([(2,.pp 1 0),(3,.pp 2 0),(4,.pp 3 0),(5,.pp 4 0),(12,.ls 0 s.length),(13,.pv (iV (s.length:Int))),(14,.pv (iV ((k+1:Nat):Int)))]) ([(1,0,.ls 0 s.length),(2,0,.pv (iV tn)),(2,1,.pv (iV td)),(3,0,.pv (iV 0)),(3,1,.pv (.slice none 0 0)),(4,0,.pv (iV (-1))),(4,1,.ls 5 (n+1)),(0,0,qag s),(5,0,.row 26 3 (n+1) (vs++[iV p.id,iV (-1),iV (-1)]))]) e tm2 hp2):Rl 1 1 51 0 47 6 (qpp k s) (qr1 n s td tn vs) e tm2 hp2:=
 RunsL.next [(5,8)] 300 [.t true,.r (ptV p),Re hs]
  (Ro (Ai hlt (Ai hin (Ai (qaY hk) (Ai hn (Ai hs tI)))))) r
theorem qoB {tn td:Int} {s:List Pt} {k n:Nat} {vs:List Value} (hlt:decide ((k:Int)<(s.length:Int))=false):Rl 1 1 51 0 47 6 (qpp k s) (qr1 n s td tn vs) (.exit 0) ([(2,.pp 1 0),(3,.pp 2 0),(4,.pp 3 0),(5,.pp 4 0)]) (qr1 n s td tn vs):=
 RunsL.stop [] 300 [.t false] (fun h=>by cases h)
  (Ro (Ai hlt tI))
abbrev qtD (n:Nat) (s:List Pt) (td:Int) (tn:Int) (vs:List Value) (z:Int):HpL:=[(3,0,.pv (iV 0)),(3,1,.pv (.slice none 0 0)),(4,0,.pv (iV (z))),(4,1,.ls 5 n),(6,0,.ls 5 n),(6,1,.ls 0 s.length),(6,2,.pv (iV tn)),(6,3,.pv (iV td)),(0,0,qag s),(5,0,.row 26 3 n (vs))]
theorem qjX {y z tn td:Int} {s:List Pt} {k n:Nat} {vs:List Value} {vs2:List Value} (hlt:decide ((k:Int)<(n:Int))=true) (hj:FnO Try.prog 62 1 2 [.ag [.ls 1 n,.ls 0 s.length,.pv (iV tn),.pv (iV td)],.pv (iV (z)),.pv (iV (k:Int))] [(0,0,qag s),(1,0,.row 26 3 n (vs))] (.pv (iV (y))) 0 [(1,0,.row 26 3 n (vs2))]) (hs:iV (IntKind.i64.wrap ((k:Int)+1))=iV (((k+1:Nat):Int))) {e:Exit} {tm2:TmL} {hp2:HpL}
 (r:Rl 1 1 51 1 47 7 ([(4,.pp 3 0),(5,.pp 4 0),(8,.pp 6 0),(35,.pv (iV (n:Int))),(36,.pv (iV ((k+1:Nat):Int)))]) ([(3,0,.pv (iV 0)),(3,1,.pv (.slice none 0 0)),(4,0,.pv (iV (y))),(4,1,.ls 5 n),(6,0,.ls 5 n),(6,1,.ls 0 s.length),(6,2,.pv (iV tn)),(6,3,.pv (iV td)),(0,0,qag s),(5,0,.row 26 3 n (vs2))]) e tm2 hp2):Rl 1 1 51 1 47 7 ([(4,.pp 3 0),(5,.pp 4 0),(8,.pp 6 0),(35,.pv (iV (n:Int))),(36,.pv (iV (k:Int)))]) (qtD n s td tn vs z) e tm2 hp2:=
 RunsL.next [] 300 [.t true,.fo 1 [0,5] [.ag [.ls 1 n,.ls 0 s.length,.pv (iV tn),.pv (iV td)],.pv (iV (z)),.pv (iV (k:Int))] [(0,0,qag s),(1,0,.row 26 3 n (vs))] (.pv (iV (y))) 0 [(1,0,.row 26 3 n (vs2))],Re hs]
  (Ro (Ai hlt (Ai hj (Ai (Eq.refl (List.map (SV.ren (qap [0,5] 7)) [.ag [.ls 1 n,.ls 0 s.length,.pv (iV tn),.pv (iV td)],.pv (iV (z)),.pv (iV (k:Int))])) (Ai (qam (qap [0,5] 7) [(0,0,qag s),(1,0,.row 26 3 n (vs))]) (Ai hs tI)))))) r
theorem qlS {z tn td:Int} {s:List Pt} {k n:Nat} {vs:List Value} (hlt:decide ((k:Int)<(n:Int))=false):Rl 1 1 51 1 47 7 ([(4,.pp 3 0),(5,.pp 4 0),(8,.pp 6 0),(35,.pv (iV (n:Int))),(36,.pv (iV (k:Int)))]) (qtD n s td tn vs z) (.exit 2) ([(4,.pp 3 0),(5,.pp 4 0)]) ([(3,0,.pv (iV 0)),(3,1,.pv (.slice none 0 0)),(4,0,.pv (iV (z))),(4,1,.ls 5 n),(5,0,.row 26 3 n (vs))]):=
 RunsL.stop [] 300 [.t false] (fun h=>by cases h)
  (Ro (Ai hlt tI))
theorem qpj {z tn td:Int} {s:List Pt} {n:Nat} {vs:List Value} {vs2:List Value} (r0:Rl 1 1 51 0 47 6 ([(2,.pp 1 0),(3,.pp 2 0),(4,.pp 3 0),(5,.pp 4 0),(12,.ls 0 s.length),(13,.pv (iV (s.length:Int))),(14,.pv (iV ((0:Nat):Int)))]) ([(1,0,.ls 0 s.length),(2,0,.pv (iV tn)),(2,1,.pv (iV td)),(3,0,.pv (iV 0)),(3,1,.pv (.slice none 0 0)),(4,0,.pv (iV (-1))),(4,1,.ls 5 0),(0,0,qag s),(5,0,.row 26 3 0 ([]))]) (.exit 0) ([(2,.pp 1 0),(3,.pp 2 0),(4,.pp 3 0),(5,.pp 4 0)]) ([(1,0,.ls 0 s.length),(2,0,.pv (iV tn)),(2,1,.pv (iV td)),(3,0,.pv (iV 0)),(3,1,.pv (.slice none 0 0)),(4,0,.pv (iV (-1))),(4,1,.ls 5 n),(0,0,qag s),(5,0,.row 26 3 n (vs2))])) (rr1:Rl 1 1 51 1 47 7 ([(4,.pp 3 0),(5,.pp 4 0),(8,.pp 6 0),(35,.pv (iV (n:Int))),(36,.pv (iV ((0:Nat):Int)))]) ([(3,0,.pv (iV 0)),(3,1,.pv (.slice none 0 0)),(4,0,.pv (iV (-1))),(4,1,.ls 5 n),(6,0,.ls 5 n),(6,1,.ls 0 s.length),(6,2,.pv (iV tn)),(6,3,.pv (iV td)),(0,0,qag s),(5,0,.row 26 3 n (vs2))]) (.exit 2) ([(4,.pp 3 0),(5,.pp 4 0)]) ([(3,0,.pv (iV 0)),(3,1,.pv (.slice none 0 0)),(4,0,.pv (iV (z))),(4,1,.ls 5 n),(5,0,.row 26 3 n (vs))])) :
 Fn 51 1 [qav 0 s,.pv (qab tn td)] [(0,0,qag s)] (.ag [.pv (iV z),.ls 1 n]) 1 [(1,0,.row 26 3 n (vs))]:=
 Fz [(1,5)] [.ln false 4 1 26 3,Lf r0,Lf rr1]
  (qam (qaF [(1,5)]) [(1,0,.row 26 3 n (vs))]) (Lo r0 [] (Lo rr1 [] tI))
theorem qp4 {tn td e1:Int} {s:List Pt} {e2:Int} (h1:Fn 47 1 [qav 0 s] [(0,0,qag s)] (.pv (iV (e1))) 0 []) (h2:Pure Try.prog 48 #[qab tn td] (iV (e2))) (he:(e1 !=0)=true) :
 Fn 18 1 [qav 0 s,.pv (qab tn td)] [(0,0,qag s)] (.pv (.tuple #[.agg #[iV 0,.slice none 0 0],iV (e1)])) 0 []:=
 Fz [] [.md,Cf h1 [0],Rf h2,.k,.k,.t true,.t true]
  tI (Co h1 [0] 4 (Ai h2 (Ai he (Ai he tI))))
abbrev qrD (s:List Pt):Prop:=Fn 47 1 [qav 0 s] [(0,0,qag s)] (.pv (iV (0))) 0 []
theorem qsH {tn td:Int} {s:List Pt} {e2:Int} (h1:qrD s) (h2:Pure Try.prog 48 #[qab tn td] (iV (e2))) (he:(e2 !=0)=true) :
 Fn 18 1 [qav 0 s,.pv (qab tn td)] [(0,0,qag s)] (.pv (.tuple #[.agg #[iV 0,.slice none 0 0],iV (e2)])) 0 []:=
 Fz [] [.md,Cf h1 [0],Rf h2,.k,.k,.k,.k,.k,.t true,.t true]
  tI (Co h1 [0] 4 (Ai h2 (Ai he (Ai he tI))))
theorem qqx {tn td:Int} {s n1:List Pt} {r1:Int} (h1:qrD s) (h2:Pure Try.prog 48 #[qab tn td] (iV (0))) (hg:Fn 51 1 [qav 0 s,.pv (qab tn td)] [(0,0,qag s)] (.ag [.pv (iV r1),.ls 1 n1.length]) 1 [(1,0,qac n1)]) :
 Fn 18 1 [qav 0 s,.pv (qab tn td)] [(0,0,qag s)] (.tu [.ag [.pv (iV r1),.ls 1 n1.length],.one (.pv (iV 0))]) 1 [(1,0,qac n1)]:=
 Fz [(1,5)] [.md,Cf h1 [0],Rf h2,.k,.k,.k,.k,.k,.k,.k,.k,.k,Cf hg [0]]
  (qam (qaF [(1,5)]) [(1,0,qac n1)]) (Co h1 [0] 4 (Ai h2 (Co hg [0] 5 tI)))
theorem qr2 {rt tn td e1:Int} {s l:List Pt} {e2 e3:Int} (h1:qm8 e1 l rt) (h2:Fn 47 1 [qav 0 s] [(0,0,qag s)] (.pv (iV (e2))) 0 []) (h3:Pure Try.prog 48 #[qab tn td] (iV (e3))) (he:(e1 !=0)=true) :
 Fn 11 2 [trS 0 rt l,qav 1 s,.pv (qab tn td)] [(0,0,qac l),(1,0,qag s)] (.pv (.tuple #[.bool false,iV (e1)])) 0 []:=
 Fz [] [.md,Cf h1 [0],Cf h2 [1],Rf h3,.k,.k,.t true,.t true]
  tI (Co h1 [0] 5 (Co h2 [1] 5 (Ai h3 (Ai he (Ai he tI)))))
abbrev qp9 (l:List Pt) (rt:Int):Prop:=Fn 17 1 [trS 0 rt l] [(0,0,qac l)] (.pv (iV (0))) 0 []
theorem qsV {rt tn td:Int} {s l:List Pt} {e2 e3:Int} (h1:qp9 l rt) (h2:Fn 47 1 [qav 0 s] [(0,0,qag s)] (.pv (iV (e2))) 0 []) (h3:Pure Try.prog 48 #[qab tn td] (iV (e3))) (he:(e2 !=0)=true) :
 Fn 11 2 [trS 0 rt l,qav 1 s,.pv (qab tn td)] [(0,0,qac l),(1,0,qag s)] (.pv (.tuple #[.bool false,iV (e2)])) 0 []:=
 Fz [] [.md,Cf h1 [0],Cf h2 [1],Rf h3,.k,.k,.k,.k,.k,.t true,.t true]
  tI (Co h1 [0] 5 (Co h2 [1] 5 (Ai h3 (Ai he (Ai he tI)))))
theorem qsP {rt tn td:Int} {s l:List Pt} {e3:Int} (h1:qp9 l rt) (h2:qrD s) (h3:Pure Try.prog 48 #[qab tn td] (iV (e3))) (he:(e3 !=0)=true) :
 Fn 11 2 [trS 0 rt l,qav 1 s,.pv (qab tn td)] [(0,0,qac l),(1,0,qag s)] (.pv (.tuple #[.bool false,iV (e3)])) 0 []:=
 Fz [] [.md,Cf h1 [0],Cf h2 [1],Rf h3,.k,.k,.k,.k,.k,.k,.k,.k,.t true,.t true]
  tI (Co h1 [0] 5 (Co h2 [1] 5 (Ai h3 (Ai he (Ai he tI)))))
theorem qqm {rt tn td:Int} {s l n1 n2:List Pt} {w:Bool} {r1 r2:Int} (h1:qp9 l rt) (h2:qrD s) (h3:Pure Try.prog 48 #[qab tn td] (iV (0))) (ho:Fn 50 1 [trS 0 rt l] [(0,0,qac l)] (.ag [.pv (iV r1),.ls 1 n1.length]) 1 [(1,0,qac n1)]) (hg:Fn 51 1 [qav 0 s,.pv (qab tn td)] [(0,0,qag s)] (.ag [.pv (iV r2),.ls 1 n2.length]) 1 [(1,0,qac n2)]) (hq:Fn 49 2 [trS 0 r1 n1,trS 1 r2 n2] [(0,0,qac n1),(1,0,qac n2)] (.pv (.bool w)) 0 []) :
 Fn 11 2 [trS 0 rt l,qav 1 s,.pv (qab tn td)] [(0,0,qac l),(1,0,qag s)] (.pv (.tuple #[.bool w,iV (0)])) 0 []:=
 Fz [] [.md,Cf h1 [0],Cf h2 [1],Rf h3,.k,.k,.k,.k,.k,.k,.k,.k,.k,.k,.k,.k,.md,Cf ho [0],Cf hg [1],Cf hq [6,7]]
  tI (Co h1 [0] 5 (Co h2 [1] 5 (Ai h3 (Co ho [0] 6 (Co hg [1] 7 (Co hq [6,7] 8 tI))))))
theorem qsv {rt x e1:Int} {l m:List Pt} {e2:Int} (h1:qm8 e1 l rt) (h2:Fn 17 1 [trS 0 x m] [(0,0,qac m)] (.pv (iV (e2))) 0 []) (he:(e1 !=0)=true) :
 Fn 16 2 [trS 0 rt l,trS 1 x m] [(0,0,qac l),(1,0,qac m)] (.pv (.tuple #[.bool false,iV (e1)])) 0 []:=
 Fz [] [.md,Cf h1 [0],Cf h2 [1],.k,.k,.t true,.t true]
  tI (Co h1 [0] 4 (Co h2 [1] 4 (Ai he (Ai he tI))))
theorem qsg {rt x:Int} {l m:List Pt} {e2:Int} (h1:qp9 l rt) (h2:Fn 17 1 [trS 0 x m] [(0,0,qac m)] (.pv (iV (e2))) 0 []) (he:(e2 !=0)=true) :
 Fn 16 2 [trS 0 rt l,trS 1 x m] [(0,0,qac l),(1,0,qac m)] (.pv (.tuple #[.bool false,iV (e2)])) 0 []:=
 Fz [] [.md,Cf h1 [0],Cf h2 [1],.k,.k,.k,.k,.k,.t true,.t true]
  tI (Co h1 [0] 4 (Co h2 [1] 4 (Ai he (Ai he tI))))
theorem qpI {rt x:Int} {l m n1 n2:List Pt} {w:Bool} {r1 r2:Int} (h1:qp9 l rt) (h2:Fn 17 1 [trS 0 x m] [(0,0,qac m)] (.pv (iV (0))) 0 []) (ho:Fn 50 1 [trS 0 rt l] [(0,0,qac l)] (.ag [.pv (iV r1),.ls 1 n1.length]) 1 [(1,0,qac n1)]) (ho2:Fn 50 1 [trS 0 x m] [(0,0,qac m)] (.ag [.pv (iV r2),.ls 1 n2.length]) 1 [(1,0,qac n2)]) (hq:Fn 49 2 [trS 0 r1 n1,trS 1 r2 n2] [(0,0,qac n1),(1,0,qac n2)] (.pv (.bool w)) 0 []) :
 Fn 16 2 [trS 0 rt l,trS 1 x m] [(0,0,qac l),(1,0,qac m)] (.pv (.tuple #[.bool w,iV (0)])) 0 []:=
 Fz [] [.md,Cf h1 [0],Cf h2 [1],.k,.k,.k,.k,.k,.k,.k,.k,.k,.md,Cf ho [0],Cf ho2 [1],Cf hq [5,6]]
  tI (Co h1 [0] 4 (Co h2 [1] 4 (Co ho [0] 5 (Co ho2 [1] 6 (Co hq [5,6] 7 tI)))))
theorem qsW {rt z e1:Int} {l:List Pt} (hc:qm8 e1 l rt) (hce:(e1 !=0)=true) :
 Fn 12 1 [trS 0 rt l,.pv (iV (z))] [(0,0,qac l)] (.pv (.tuple #[iV (0),iV (e1)])) 0 []:=
 Fz [] [Cf hc [0],.t true]
  tI (Co hc [0] 2 (Ai hce tI))
abbrev qmr (l:List Pt) (rt:Int):HpL:=[(1,0,.pv (iV rt)),(1,1,.ls 0 l.length),(0,0,qac l)]
abbrev qrQ (k:Nat) (y:Int) (z:Int):TmL:=[(1,.pv (iV z)),(2,.pp 1 0),(7,.pv (iV (y))),(8,.pv (iV (k:Int)))]
theorem qpX {rt y z:Int} {l:List Pt} {p:Pt} {k:Nat} (hne:(y !=(-1))=true) (hin:0≤y∧y<(l.length:Int)) (hk:l[y.toNat]?=some p) (h1:decide (z<p.id)=true) (hs:iV (IntKind.i64.wrap ((k:Int)+1))=iV (((k+1:Nat):Int))) {e:Exit} {tm2:TmL} {hp2:HpL}
 (r:Rl 1 1 12 0 41 2 ([(1,.pv (iV z)),(2,.pp 1 0),(7,.pv (iV (p.a))),(8,.pv (iV ((k+1:Nat):Int)))]) (qmr l rt) e tm2 hp2):Rl 1 1 12 0 41 2 (qrQ k y z) (qmr l rt) e tm2 hp2:=
 RunsL.next [] 300 [.t true,.r (ptV p),.t true,Re hs]
  (Ro (Ai hne (Ai hin (Ai (qbe hk) (Ai h1 (Ai hs tI)))))) r
theorem qqi {rt y z:Int} {l:List Pt} {p:Pt} {k:Nat} (hne:(y !=(-1))=true) (hin:0≤y∧y<(l.length:Int)) (hk:l[y.toNat]?=some p) (h1:decide (z<p.id)=false) (h2:decide (z>p.id)=true) (hs:iV (IntKind.i64.wrap ((k:Int)+1))=iV (((k+1:Nat):Int))) {e:Exit} {tm2:TmL} {hp2:HpL}
 (r:Rl 1 1 12 0 41 2 ([(1,.pv (iV z)),(2,.pp 1 0),(7,.pv (iV (p.b))),(8,.pv (iV ((k+1:Nat):Int)))]) (qmr l rt) e tm2 hp2):Rl 1 1 12 0 41 2 (qrQ k y z) (qmr l rt) e tm2 hp2:=
 RunsL.next [] 300 [.t true,.r (ptV p),.t false,.t true,Re hs]
  (Ro (Ai hne (Ai hin (Ai (qbe hk) (Ai h1 (Ai h2 (Ai hs tI))))))) r
theorem qoO {rt y z:Int} {l:List Pt} {p:Pt} {k:Nat} (hne:(y !=(-1))=true) (hin:0≤y∧y<(l.length:Int)) (hk:l[y.toNat]?=some p) (h1:decide (z<p.id)=false) (h2:decide (z>p.id)=false):Rl 1 1 12 0 41 2 (qrQ k y z) (qmr l rt) (.ret) ([(4,.pv (iV (k:Int))),(5,.pv (iV 0))]) ([]):=
 RunsL.stop [] 300 [.t true,.r (ptV p),.t false,.t false] (fun h=>by cases h)
  (Ro (Ai hne (Ai hin (Ai (qbe hk) (Ai h1 (Ai h2 tI))))))
theorem qnX {rt y z:Int} {l:List Pt} {k:Nat} (hne:(y !=(-1))=false):Rl 1 1 12 0 41 2 (qrQ k y z) (qmr l rt) (.exit 0) ([]) ([]):=
 RunsL.stop [] 300 [.t false] (fun h=>by cases h)
  (Ro (Ai hne tI))
theorem qpo {rt z e1:Int} {l:List Pt} (hc:qm8 e1 l rt) (hce:(e1 !=0)=false) (r0:Rl 1 1 12 0 41 2 ([(1,.pv (iV z)),(2,.pp 1 0),(7,.pv (iV (rt))),(8,.pv (iV ((0:Nat):Int)))]) (qmr l rt) (.exit 0) ([]) ([])) :
 Fn 12 1 [trS 0 rt l,.pv (iV (z))] [(0,0,qac l)] (.pv (.tuple #[iV (0),iV (6)])) 0 []:=
 Fz [] [Cf hc [0],.t false,Lf r0]
  tI (Co hc [0] 2 (Ai hce (Lo r0 [] tI)))
theorem qql {rt z e1:Int} {l:List Pt} {k:Nat} (hc:qm8 e1 l rt) (hce:(e1 !=0)=false) (r0:Rl 1 1 12 0 41 2 ([(1,.pv (iV z)),(2,.pp 1 0),(7,.pv (iV (rt))),(8,.pv (iV ((0:Nat):Int)))]) (qmr l rt) (.ret) ([(4,.pv (iV (k:Int))),(5,.pv (iV 0))]) ([])) :
 Fn 12 1 [trS 0 rt l,.pv (iV (z))] [(0,0,qac l)] (.pv (.tuple #[iV (k:Int),iV (0)])) 0 []:=
 Fz [] [Cf hc [0],.t false,Lf r0]
  tI (Co hc [0] 2 (Ai hce (Lo r0 [] tI)))
end Go.Proofs.Ytalnjplghagbpaa

namespace Go.Proofs.Ytalnjplghagbpaa
set_option maxRecDepth 100000
open Go.RowKit
open Classical in
noncomputable def chE (x:Tr):Int:=if 64<x.n.length then 4 else if VT x then 0 else 8
theorem qeq {x:Tr} (h:64<x.n.length):chE x=4:=by unfold chE;rw[if_pos h]
theorem qgz {x:Tr} (h:¬ 64<x.n.length) (k:¬ VT x):chE x=8:=by unfold chE;rw[if_neg h,if_neg k]
theorem qid {x:Tr} (k:VT x):chE x=0:=by unfold chE;rw[if_neg (by have:=k.len;omega),if_pos k]
theorem qjC {x:Tr}:chE x=0↔VT x:=by
 refine⟨fun h=>?_,qid⟩
 apply Classical.byContradiction
 intro k
 by_cases hm:64<x.n.length
 ·rw[qeq hm] at h;cases h
 ·rw[qgz hm k] at h;cases h
theorem qfN {α:Type} {f:α→Int}:∀ {L:List α},(∀ j p q,L[j]?=some p→L[j+1]?=some q→f p<f q)→(L.map f).Pairwise (· < ·)
 | [],_=>.nil
 | [_],_=>by simp
 | a::b::r,h=>by
  have ih:=qfN (L:=b::r) fun j p q hp hq=>h (j+1) p q (by simpa using hp) (by simpa using hq)
  rw[List.map_cons,List.pairwise_cons]
  refine⟨fun y hy=>?_,ih⟩
  have hab:=h 0 a b rfl rfl
  rw[List.map_cons] at hy ih
  rcases List.mem_cons.1 hy with rfl | hy
  ·exact hab
  ·exact Int.lt_trans hab ((List.pairwise_cons.1 ih).1 y hy)
theorem qfM {α:Type} {f:α→Int} {L:List α} (h:(L.map f).Pairwise (· < ·)) {j:Nat} {p q:α} (hp:L[j]?=some p) (hq:L[j+1]?=some q):f p<f q:=by
 have h1:=qal hq
 have:=List.pairwise_iff_getElem.1 h j (j+1) (by rw[List.length_map];omega) (by rw[List.length_map];omega) (by omega)
 rw[List.getElem_map,List.getElem_map] at this
 rw[List.getElem?_eq_getElem (by omega)] at hp hq
 cases hp
 cases hq
 exact this
section
variable {rt:Int} {l:List Pt}
abbrev qrM (k:Nat):List (Nat×SV):=[(1,.pp 1 0),(3,.pv (iV (k:Int)))]
abbrev qrq (rt:Int) (l:List Pt):List (Nat×Nat×SV):=[(1,0,.pv (iV rt)),(1,1,.ls 0 l.length),(0,0,qac l)]
abbrev qrw (g:List Int) (k:Nat):List (Nat×SV):=[(1,.pp 1 0),(5,.ls 2 g.length),(6,.pv (iV (k:Int)))]
abbrev qrJ (rt:Int) (l:List Pt) (g:List Int):List (Nat×Nat×SV):=[(1,0,.pv (iV rt)),(1,1,.ls 0 l.length),(0,0,qac l),(2,0,zrI g)]
def GdN (l:List Pt) (p:Pt):Prop:=(-1≤p.a∧p.a<(l.length:Int))∧(-1≤p.b∧p.b<(l.length:Int))∧0≤p.id∧p.id≤65535
theorem ckb {k:Nat} {p:Pt} (hp:l[k]?=some p) (hb:¬ GdN l p):Rl 1 1 34 0 96 2 (qrM k) (qrq rt l) .ret [(2,.pv (iV 8))] []:=by
 have hkl:=qal hp
 have ha:=qjh (rt:=rt) (l:=l) p.a
 have hbl:=qjh (rt:=rt) (l:=l) p.b
 by_cases c1 : -1≤p.a∧p.a<(l.length:Int)
 ·rw[qdL c1] at ha
  by_cases c2 : -1≤p.b∧p.b<(l.length:Int)
  ·rw[qdL c2] at hbl
   by_cases c3:0≤p.id
   ·have c4:65535<p.id:=by
     apply Classical.byContradiction
     intro h
     exact hb ⟨c1,c2,c3,by omega⟩
    exact qqO (hlt:=dt (by omega)) (hk:=hp) (hin:=⟨by omega,by omega⟩) (ha:=ha) (hb:=hbl) (h1:=df (by omega)) (h2:=dt (by omega))
   ·exact qqs (hlt:=dt (by omega)) (hk:=hp) (hin:=⟨by omega,by omega⟩) (ha:=ha) (hb:=hbl) (h1:=dt (by omega))
  ·rw[qc7 c2] at hbl
   exact qrj (hlt:=dt (by omega)) (hk:=hp) (hin:=⟨by omega,by omega⟩) (ha:=ha) (hb:=hbl)
 ·rw[qc7 c1] at ha
  exact qq6 (hlt:=dt (by omega)) (hk:=hp) (hin:=⟨by omega,by omega⟩) (ha:=ha)
theorem cks (hl:l.length≤999999) {m:Nat} (hm:m≤l.length) (hg:∀ k,k<m→∀ p,l[k]?=some p→GdN l p) {e:Exit} {tm2:TmL} {hp2:HpL}
 (r:Rl 1 1 34 0 96 2 (qrM m) (qrq rt l) e tm2 hp2):Rl 1 1 34 0 96 2 (qrM 0) (qrq rt l) e tm2 hp2:=
 RunsL.roundsZ (fun k=>qrM k) (fun _=>qrq rt l) (N:=m) m 0 (Nat.zero_add _) (fun k _ hk r=>by
  obtain⟨p,hp⟩:=qao (l:=l) (k:=k) (by omega)
  obtain⟨c1,c2,c3,c4⟩:=hg k hk p hp
  have ha:=qjh (rt:=rt) (l:=l) p.a
  have hb:=qjh (rt:=rt) (l:=l) p.b
  rw[qdL c1] at ha
  rw[qdL c2] at hb
  exact ql4 (hlt:=dt (by omega)) (hk:=hp) (hin:=⟨by omega,by omega⟩) (ha:=ha) (hb:=hb) (h1:=df (by omega)) (h2:=df (by omega)) (hs:=qaj (by omega)) r) r
theorem qo1 (hl:l.length≤999999):Fn 34 1 [trS 0 rt l] [(0,0,qac l)] (.pv (iV (chE ⟨rt,l⟩))) 0 []:=by
 by_cases hm:64<l.length
 ·rw[qeq (x:=⟨rt,l⟩) hm];exact ql3 (hm:=dt (by omega))
 have hm':decide ((l.length:Int)>64)=false:=df (by omega)
 have no:¬ VT ⟨rt,l⟩→chE ⟨rt,l⟩=8:=qgz hm
 have hL:=qjh (rt:=rt) (l:=l) rt
 by_cases hr : -1≤rt∧rt<(l.length:Int)
 rotate_left
 ·rw[no fun ⟨_,_,T,hT⟩=>hr hT.root.1]
  rw[qc7 hr] at hL
  exact qlB (hm:=hm') (hl:=hL)
 rw[qdL hr] at hL
 by_cases hre:rt = -1↔l.length=0
 rotate_left
 ·rw[no fun ⟨_,_,T,hT⟩=>hre hT.root.2]
  by_cases h1:rt = -1
  ·exact qjN (hm:=hm') (hl:=hL) (hr:=beq_iff_eq.2 h1) (h0:=beq_eq_false_iff_ne.2 (by omega))
  ·exact qhB (hm:=hm') (hl:=hL) (hr:=beq_eq_false_iff_ne.2 h1) (h0:=beq_iff_eq.2 (by omega))
 have he:(rt==(-1))=true∧((l.length:Int)==0)=true∨(rt==(-1))=false∧((l.length:Int)==0)=false:=by
  by_cases h1:rt = -1
  ·exact Or.inl ⟨beq_iff_eq.2 h1,beq_iff_eq.2 (by omega)⟩
  ·exact Or.inr ⟨beq_eq_false_iff_ne.2 h1,beq_eq_false_iff_ne.2 (by omega)⟩
 rcases qaW (fun k=>∀ p,l[k]?=some p→GdN l p) l.length with hg | ⟨k,hk,hb,hg⟩
 rotate_left
 ·simp only[Classical.not_forall] at hb
  obtain⟨p,hp,hb⟩:=hb
  rw[no fun ⟨_,hrng,T,hT⟩=>hb ⟨(hT.lnk p (List.mem_of_getElem? hp)).1,(hT.lnk p (List.mem_of_getElem? hp)).2,hrng p (List.mem_of_getElem? hp)⟩]
  have r:=cks (rt:=rt) hl (Nat.le_of_lt hk) hg (ckb hp hb)
  rcases he with ⟨e1,e2⟩ | ⟨e1,e2⟩
  ·exact qkT (hm:=hm') (hl:=hL) (hr:=e1) (h0:=e2) (r0:=r)
  ·exact qk4 (hm:=hm') (hl:=hL) (hr:=e1) (h0:=e2) (r0:=r)
 have hgd:∀ p∈l,GdN l p:=fun p hp=>by
  obtain⟨k,hk⟩:=List.getElem?_of_mem hp
  exact hg k (qal hk) p hk
 have hLn:Lnk ⟨rt,l⟩:=fun p hp=>⟨(hgd p hp).1,(hgd p hp).2.1⟩
 have r0:=cks (rt:=rt) hl (Nat.le_refl _) hg (qnp (rt:=rt) (l:=l) (k:=l.length) (hlt:=df (by omega)))
 have ho:=qs2 (rt:=rt) hLn (by omega)
 by_cases h1:One ⟨rt,l⟩
 rotate_left
 ·rw[no fun ⟨_,_,T,hT⟩=>h1 hT.one]
  rw[qc7 h1] at ho
  rcases he with ⟨e1,e2⟩ | ⟨e1,e2⟩
  ·exact qjw (hm:=hm') (hl:=hL) (hr:=e1) (h0:=e2) (r0:=r0) (ho:=ho)
  ·exact qjK (hm:=hm') (hl:=hL) (hr:=e1) (h0:=e2) (r0:=r0) (ho:=ho)
 rw[qdL h1] at ho
 obtain⟨T,hT⟩:=One.tree h1 hLn hr
 have hT:Rep l rt T:=hT
 have hnd:T.list.Nodup:=Rep.nodup h1 hT
 have hTl:T.list.length≤l.length:=by
  have:=hnd.length_le_of_subset (l₂:=List.range l.length) fun v hv=>List.mem_range.2 (hT.lt v hv)
  rwa [List.length_range] at this
 have hre2:=qpr hl hT hTl
 by_cases hall:T.list.length=l.length
 rotate_left
 ·rw[no fun ⟨_,_,T',hT'⟩=>hall (by rw[hT.uniq hT'.rep];exact hT'.all)]
  rw[decide_eq_false hall] at hre2
  rcases he with ⟨e1,e2⟩ | ⟨e1,e2⟩
  ·exact qh0 (hm:=hm') (hl:=hL) (hr:=e1) (h0:=e2) (r0:=r0) (ho:=ho) (hrc:=hre2)
  ·exact qhK (hm:=hm') (hl:=hL) (hr:=e1) (h0:=e2) (r0:=r0) (ho:=ho) (hrc:=hre2)
 rw[decide_eq_true hall] at hre2
 have hw:=qm3 hl hT hTl
 have hwl:=qcd T
 have at2:∀ j,j<T.list.length→∃ k p,T.list[j]?=some k∧l[k]?=some p∧k<l.length:=fun j hj=>by
  have hk:=List.getElem?_eq_getElem hj
  have hkl:=hT.lt _ (List.mem_of_getElem? hk)
  exact⟨_,_,hk,qau hkl,hkl⟩
 have step:∀ m,1≤m→m≤T.list.length→(∀ j,1≤j→j<m→∀ a b,T.list[j-1]?=some a→T.list[j]?=some b→idN l a<idN l b)→∀ {e:Exit} {tm2:TmL} {hp2:HpL},
  Rl 1 1 34 1 96 3 (qrw (wL T) m) (qrJ rt l (wL T)) e tm2 hp2→Rl 1 1 34 1 96 3 (qrw (wL T) 1) (qrJ rt l (wL T)) e tm2 hp2:=by
  intro m h1 hm2 hlt e tm2 hp2 r
  refine RunsL.roundsZ (fun k=>qrw (wL T) k) (fun _=>qrJ rt l (wL T)) (N:=m) (m-1) 1 (by omega) (fun k k1 k2 r=>?_) r
  obtain⟨u,p,hu,hp,hul⟩:=at2 (k-1) (by omega)
  obtain⟨v,q,hv,hq,hvl⟩:=at2 k (by omega)
  have:=hlt k k1 k2 u v hu hv
  rw[qaC hp,qaC hq] at this
  exact qiK (j:=k-1) (hlt:=dt (by omega)) (hs1:=by rw[qhG (by omega) (by omega)];congr 1;omega) (hji:=⟨by omega,by omega⟩) (hgj:=qdi hu) (hyi:=⟨by omega,by omega⟩) (hp:=hp) (hki:=⟨by omega,by omega⟩) (hgk:=qdi hv) (hzi:=⟨by omega,by omega⟩) (hq:=hq) (hc:=df (by omega)) (hs:=qaj (by omega)) r
 rcases qaW (fun k=>1≤k→∀ a b,T.list[k-1]?=some a→T.list[k]?=some b→idN l a<idN l b) T.list.length with h | ⟨k,hk,hb,hf⟩
 ·have hup:(T.list.map (idN l)).Pairwise (· < ·):=qfN fun j p q hp hq=>h (j+1) (qal hq) (by omega) p q hp hq
  rw[qid (x:=⟨rt,l⟩) ⟨by show l.length≤64;omega,fun p hp=>(hgd p hp).2.2,T,hT,hall,hup⟩]
  have r1:Rl 1 1 34 1 96 3 (qrw (wL T) 1) (qrJ rt l (wL T)) (.exit 2) [] []:=by
   rcases Nat.eq_zero_or_pos T.list.length with h0 | h0
   ·exact qgu (hlt:=df (by omega))
   ·exact step T.list.length h0 (Nat.le_refl _) (fun j j1 j2=>h j j2 j1) (qgu (hlt:=df (by omega)))
  rcases he with ⟨e1,e2⟩ | ⟨e1,e2⟩
  ·exact qnZ (hm:=hm') (hl:=hL) (hr:=e1) (h0:=e2) (r0:=r0) (ho:=ho) (hrc:=hre2) (hw:=hw) (r1:=r1)
  ·exact qoC (hm:=hm') (hl:=hL) (hr:=e1) (h0:=e2) (r0:=r0) (ho:=ho) (hrc:=hre2) (hw:=hw) (r1:=r1)
 ·simp only[Classical.not_forall] at hb
  obtain⟨k1,a,b,ha,hb,hlt⟩:=hb
  rw[no fun ⟨_,_,T',hT'⟩=>hlt (by
   have e:=hT.uniq hT'.rep
   subst e
   exact qfM hT'.up ha (by rw[show k-1+1=k by omega];exact hb))]
  obtain⟨u,p,hu,hp,hul⟩:=at2 (k-1) (by omega)
  obtain⟨v,q,hv,hq,hvl⟩:=at2 k (by omega)
  rw[ha] at hu
  rw[hb] at hv
  cases hu
  cases hv
  rw[qaC hp,qaC hq] at hlt
  have r1:=step k k1 (by omega) (fun j j1 j2=>hf j j2 j1) (qkn (j:=k-1) (hlt:=dt (by omega)) (hs1:=by rw[qhG (by omega) (by omega)];congr 1;omega) (hji:=⟨by omega,by omega⟩) (hgj:=qdi ha) (hyi:=⟨by omega,by omega⟩) (hp:=hp) (hki:=⟨by omega,by omega⟩) (hgk:=qdi hb) (hzi:=⟨by omega,by omega⟩) (hq:=hq) (hc:=dt (by omega)))
  rcases he with ⟨e1,e2⟩ | ⟨e1,e2⟩
  ·exact qlo (hm:=hm') (hl:=hL) (hr:=e1) (h0:=e2) (r0:=r0) (ho:=ho) (hrc:=hre2) (hw:=hw) (r1:=r1)
  ·exact qlb (hm:=hm') (hl:=hL) (hr:=e1) (h0:=e2) (r0:=r0) (ho:=ho) (hrc:=hre2) (hw:=hw) (r1:=r1)
end
end Go.Proofs.Ytalnjplghagbpaa
