/-
  Joined: Dd, De, Dc, Df. Conditions: none.
-/
import Derived.Test.YtalnjplghagbpaaW29
import Derived.Test.YtalnjplghagbpaaW19
import Derived.Test.YtalnjplghagbpaaSxP
import Derived.Test.YtalnjplghagbpaaW24
namespace Go.Proofs.Ytalnjplghagbpaa
set_option maxRecDepth 100000
open Go.RowKit
abbrev qsn (l:List Pt) (rt:Int):Prop:=Fn 96 1 [trS 0 rt l,.pv (iV (rt)),.pv (.slice none 0 0)] [(0,0,qae l)] (.pv (.slice none 0 0)) 0 []
theorem qoc {rt:Int} {l:List Pt} (hw:qsn l rt) :
 Fn 73 1 [trS 0 rt l] [(0,0,qae l)] (.pv (.slice none 0 0)) 0 []:=
 Fz [] [Cf hw [0]]
  tI (Co hw [0] 2 tI)
abbrev qsC (g:List Int) (l:List Pt) (rt:Int):Prop:=Fn 96 1 [trS 0 rt l,.pv (iV (rt)),.pv (.slice none 0 0)] [(0,0,qae l)] (.ls 1 g.length) 1 [(1,0,zrI g)]
theorem qqA {rt:Int} {l:List Pt} {g:List Int} (hw:qsC g l rt) :
 Fn 73 1 [trS 0 rt l] [(0,0,qae l)] (.ls 1 g.length) 1 [(1,0,zrI g)]:=
 Fz [(1,2)] [Cf hw [0]]
  (qam (qaF [(1,2)]) [(1,0,zrI g)]) (Co hw [0] 2 tI)
theorem qoP {rt:Int} {l:List Pt} (hw:qsn l rt) (he:((0:Int)==(l.length:Int))=true) :
 Fn 72 1 [trS 0 rt l] [(0,0,qae l)] (.pv (.bool true)) 0 []:=
 Fz [] [.md,Cf hw [0],.t true]
  tI (Co hw [0] 2 (Ai he tI))
theorem qmi {rt:Int} {l:List Pt} (hw:qsn l rt) (he:((0:Int)==(l.length:Int))=false) :
 Fn 72 1 [trS 0 rt l] [(0,0,qae l)] (.pv (.bool false)) 0 []:=
 Fz [] [.md,Cf hw [0],.t false]
  tI (Co hw [0] 2 (Ai he tI))
theorem qlI {rt:Int} {l:List Pt} {g:List Int} (hw:qsC g l rt) (he:((g.length:Int)==(l.length:Int))=true) :
 Fn 72 1 [trS 0 rt l] [(0,0,qae l)] (.pv (.bool true)) 0 []:=
 Fz [] [.md,Cf hw [0],.t true]
  tI (Co hw [0] 2 (Ai he tI))
theorem qkw {rt:Int} {l:List Pt} {g:List Int} (hw:qsC g l rt) (he:((g.length:Int)==(l.length:Int))=false) :
 Fn 72 1 [trS 0 rt l] [(0,0,qae l)] (.pv (.bool false)) 0 []:=
 Fz [] [.md,Cf hw [0],.t false]
  tI (Co hw [0] 2 (Ai he tI))
theorem ql5 {rt:Int} {l:List Pt} (hm:decide ((l.length:Int)>64)=true) :
 Fn 34 1 [trS 0 rt l] [(0,0,qae l)] (.pv (iV (4))) 0 []:=
 Fz [] [.t true]
  tI (Ai hm tI)
theorem qkY {rt:Int} {l:List Pt} (hm:decide ((l.length:Int)>64)=false) (hl:Fn 70 1 [trS 0 rt l,.pv (iV (rt))] [(0,0,qae l)] (.pv (.bool false)) 0 []) :
 Fn 34 1 [trS 0 rt l] [(0,0,qae l)] (.pv (iV (8))) 0 []:=
 Fz [] [.t false,Cf hl [0],.k]
  tI (Ai hm (Co hl [0] 2 tI))
abbrev qil (l:List Pt) (rt:Int):Prop:=Fn 70 1 [trS 0 rt l,.pv (iV (rt))] [(0,0,qae l)] (.pv (.bool true)) 0 []
theorem qj2 {rt:Int} {l:List Pt} (hm:decide ((l.length:Int)>64)=false) (hl:qil l rt) (hr:(rt==(-1))=true) (h0:((l.length:Int)==0)=false) :
 Fn 34 1 [trS 0 rt l] [(0,0,qae l)] (.pv (iV (8))) 0 []:=
 Fz [] [.t false,Cf hl [0],.k,.t true,.t false,.k]
  tI (Ai hm (Co hl [0] 2 (Ai hr (Ai h0 tI))))
theorem qhW {rt:Int} {l:List Pt} (hm:decide ((l.length:Int)>64)=false) (hl:qil l rt) (hr:(rt==(-1))=false) (h0:((l.length:Int)==0)=true) :
 Fn 34 1 [trS 0 rt l] [(0,0,qae l)] (.pv (iV (8))) 0 []:=
 Fz [] [.t false,Cf hl [0],.k,.t false,.t true,.k]
  tI (Ai hm (Co hl [0] 2 (Ai hr (Ai h0 tI))))
abbrev qmm (l:List Pt) (rt:Int):HpL:=[(1,0,.pv (iV rt)),(1,1,.ls 0 l.length),(0,0,qae l)]
abbrev qhQ (k:Nat):TmL:=[(1,.pp 1 0),(3,.pv (iV (k:Int)))]
theorem qqf {rt:Int} {l:List Pt} {p:Pt} {k:Nat} (hlt:decide ((k:Int)<(l.length:Int))=true) (hk:l[k]?=some p) (hin:0≤(k:Int)∧(k:Int)<(l.length:Int)) (ha:Fn 70 1 [trS 0 rt l,.pv (iV (p.a))] [(0,0,qae l)] (.pv (.bool false)) 0 []):Rl 1 1 34 0 96 2 (qhQ k) (qmm l rt) (.ret) ([(2,.pv (iV 8))]) ([]):=
 RunsL.stop [] 300 [.t true,.r (ptV p),Cf ha [0],.k] (fun h=>by cases h)
  (Ro (Ai hlt (Ai hin (Ai (qaZ hk) (Co ha [0] 3 tI)))))
abbrev qrs (l:List Pt) (p:Pt) (rt:Int):Prop:=Fn 70 1 [trS 0 rt l,.pv (iV (p.a))] [(0,0,qae l)] (.pv (.bool true)) 0 []
theorem qpQ {rt:Int} {l:List Pt} {p:Pt} {k:Nat} (hlt:decide ((k:Int)<(l.length:Int))=true) (hk:l[k]?=some p) (hin:0≤(k:Int)∧(k:Int)<(l.length:Int)) (ha:qrs l p rt) (hb:Fn 70 1 [trS 0 rt l,.pv (iV (p.b))] [(0,0,qae l)] (.pv (.bool false)) 0 []):Rl 1 1 34 0 96 2 (qhQ k) (qmm l rt) (.ret) ([(2,.pv (iV 8))]) ([]):=
 RunsL.stop [] 300 [.t true,.r (ptV p),Cf ha [0],.k,Cf hb [0],.k] (fun h=>by cases h)
  (Ro (Ai hlt (Ai hin (Ai (qaZ hk) (Co ha [0] 3 (Co hb [0] 3 tI))))))
abbrev qoK (l:List Pt) (p:Pt) (rt:Int):Prop:=Fn 70 1 [trS 0 rt l,.pv (iV (p.b))] [(0,0,qae l)] (.pv (.bool true)) 0 []
theorem qqU {rt:Int} {l:List Pt} {p:Pt} {k:Nat} (hlt:decide ((k:Int)<(l.length:Int))=true) (hk:l[k]?=some p) (hin:0≤(k:Int)∧(k:Int)<(l.length:Int)) (ha:qrs l p rt) (hb:qoK l p rt) (h1:decide (p.id<0)=true):Rl 1 1 34 0 96 2 (qhQ k) (qmm l rt) (.ret) ([(2,.pv (iV 8))]) ([]):=
 RunsL.stop [] 300 [.t true,.r (ptV p),Cf ha [0],.k,Cf hb [0],.k,.t true] (fun h=>by cases h)
  (Ro (Ai hlt (Ai hin (Ai (qaZ hk) (Co ha [0] 3 (Co hb [0] 3 (Ai h1 tI)))))))
theorem qrd {rt:Int} {l:List Pt} {p:Pt} {k:Nat} (hlt:decide ((k:Int)<(l.length:Int))=true) (hk:l[k]?=some p) (hin:0≤(k:Int)∧(k:Int)<(l.length:Int)) (ha:qrs l p rt) (hb:qoK l p rt) (h1:decide (p.id<0)=false) (h2:decide (p.id>65535)=true):Rl 1 1 34 0 96 2 (qhQ k) (qmm l rt) (.ret) ([(2,.pv (iV 8))]) ([]):=
 RunsL.stop [] 300 [.t true,.r (ptV p),Cf ha [0],.k,Cf hb [0],.k,.t false,.t true] (fun h=>by cases h)
  (Ro (Ai hlt (Ai hin (Ai (qaZ hk) (Co ha [0] 3 (Co hb [0] 3 (Ai h1 (Ai h2 tI))))))))
theorem qli {rt:Int} {l:List Pt} {p:Pt} {k:Nat} (hlt:decide ((k:Int)<(l.length:Int))=true) (hk:l[k]?=some p) (hin:0≤(k:Int)∧(k:Int)<(l.length:Int)) (ha:qrs l p rt) (hb:qoK l p rt) (h1:decide (p.id<0)=false) (h2:decide (p.id>65535)=false) (hs:iV (IntKind.i64.wrap ((k:Int)+1))=iV (((k+1:Nat):Int))) {e:Exit} {tm2:TmL} {hp2:HpL}
 (r:Rl 1 1 34 0 96 2 ([(1,.pp 1 0),(3,.pv (iV ((k+1:Nat):Int)))]) (qmm l rt) e tm2 hp2):Rl 1 1 34 0 96 2 (qhQ k) (qmm l rt) e tm2 hp2:=
 RunsL.next [] 300 [.t true,.r (ptV p),Cf ha [0],.k,Cf hb [0],.k,.t false,.t false,Re hs]
  (Ro (Ai hlt (Ai hin (Ai (qaZ hk) (Co ha [0] 3 (Co hb [0] 3 (Ai h1 (Ai h2 (Ai hs tI))))))))) r
theorem qnz {rt:Int} {l:List Pt} {k:Nat} (hlt:decide ((k:Int)<(l.length:Int))=false):Rl 1 1 34 0 96 2 (qhQ k) (qmm l rt) (.exit 0) ([(1,.pp 1 0)]) (qmm l rt):=
 RunsL.stop [] 300 [.t false] (fun h=>by cases h)
  (Ro (Ai hlt tI))
abbrev qm4 (g:List Int) (l:List Pt) (rt:Int):HpL:=[(1,0,.pv (iV rt)),(1,1,.ls 0 l.length),(0,0,qae l),(2,0,zrI g)]
theorem qi8 {rt y z:Int} {l:List Pt} {p q:Pt} {g:List Int} {j k:Nat} (hlt:decide ((k:Int)<(g.length:Int))=true) (hs1:iV (IntKind.i64.wrap ((k:Int)-1))=iV (j:Int)) (hji:0≤(j:Int)∧(j:Int)<(g.length:Int)) (hgj:g[j]?=some y) (hyi:0≤y∧y<(l.length:Int)) (hp:l[y.toNat]?=some p) (hki:0≤(k:Int)∧(k:Int)<(g.length:Int)) (hgk:g[k]?=some z) (hzi:0≤z∧z<(l.length:Int)) (hq:l[z.toNat]?=some q) (hc:decide (p.id≥q.id)=false) (hs:iV (IntKind.i64.wrap ((k:Int)+1))=iV (((k+1:Nat):Int))) {e:Exit} {tm2:TmL} {hp2:HpL}
 (r:Rl 1 1 34 1 96 3 ([(1,.pp 1 0),(5,.ls 2 g.length),(6,.pv (iV ((k+1:Nat):Int)))]) (qm4 g l rt) e tm2 hp2):Rl 1 1 34 1 96 3 ([(1,.pp 1 0),(5,.ls 2 g.length),(6,.pv (iV (k:Int)))]) (qm4 g l rt) e tm2 hp2:=
 RunsL.next [] 300 [.t true,Re hs1,.r (iV y),.r (iV p.id),.r (iV z),.r (iV q.id),.t false,Re hs]
  (Ro (Ai hlt (Ai hs1 (Ai hji (Ai (qii hgj) (Ai hyi (Ai (qaK hp) (Ai hki (Ai (qii hgk) (Ai hzi (Ai (qaK hq) (Ai hc (Ai hs tI))))))))))))) r
theorem qkT {rt y z:Int} {l:List Pt} {p q:Pt} {g:List Int} {j k:Nat} (hlt:decide ((k:Int)<(g.length:Int))=true) (hs1:iV (IntKind.i64.wrap ((k:Int)-1))=iV (j:Int)) (hji:0≤(j:Int)∧(j:Int)<(g.length:Int)) (hgj:g[j]?=some y) (hyi:0≤y∧y<(l.length:Int)) (hp:l[y.toNat]?=some p) (hki:0≤(k:Int)∧(k:Int)<(g.length:Int)) (hgk:g[k]?=some z) (hzi:0≤z∧z<(l.length:Int)) (hq:l[z.toNat]?=some q) (hc:decide (p.id≥q.id)=true):Rl 1 1 34 1 96 3 ([(1,.pp 1 0),(5,.ls 2 g.length),(6,.pv (iV (k:Int)))]) (qm4 g l rt) (.ret) ([(2,.pv (iV 8))]) ([]):=
 RunsL.stop [] 300 [.t true,Re hs1,.r (iV y),.r (iV p.id),.r (iV z),.r (iV q.id),.t true] (fun h=>by cases h)
  (Ro (Ai hlt (Ai hs1 (Ai hji (Ai (qii hgj) (Ai hyi (Ai (qaK hp) (Ai hki (Ai (qii hgk) (Ai hzi (Ai (qaK hq) (Ai hc tI))))))))))))
theorem qhh {rt:Int} {l:List Pt} {g:List Int} {k:Nat} (hlt:decide ((k:Int)<(g.length:Int))=false):Rl 1 1 34 1 96 3 ([(1,.pp 1 0),(5,.ls 2 g.length),(6,.pv (iV (k:Int)))]) (qm4 g l rt) (.exit 2) ([]) ([]):=
 RunsL.stop [] 300 [.t false] (fun h=>by cases h)
  (Ro (Ai hlt tI))
abbrev qqI (l:List Pt) (rt:Int):Prop:=Rl 1 1 34 0 96 2 ([(1,.pp 1 0),(3,.pv (iV ((0:Nat):Int)))]) (qmm l rt) (.ret) ([(2,.pv (iV 8))]) ([])
theorem qlm {rt:Int} {l:List Pt} (hm:decide ((l.length:Int)>64)=false) (hl:qil l rt) (hr:(rt==(-1))=true) (h0:((l.length:Int)==0)=true) (r0:qqI l rt) :
 Fn 34 1 [trS 0 rt l] [(0,0,qae l)] (.pv (iV (8))) 0 []:=
 Fz [] [.t false,Cf hl [0],.k,.t true,.t true,.k,Lf r0]
  tI (Ai hm (Co hl [0] 2 (Ai hr (Ai h0 (Lo r0 [] tI)))))
abbrev qmY (l:List Pt) (rt:Int):Prop:=Rl 1 1 34 0 96 2 ([(1,.pp 1 0),(3,.pv (iV ((0:Nat):Int)))]) ([(1,0,.pv (iV rt)),(1,1,.ls 0 l.length),(0,0,qae l)]) (.exit 0) ([(1,.pp 1 0)]) ([(1,0,.pv (iV rt)),(1,1,.ls 0 l.length),(0,0,qae l)])
theorem qjV {rt:Int} {l:List Pt} (hm:decide ((l.length:Int)>64)=false) (hl:qil l rt) (hr:(rt==(-1))=true) (h0:((l.length:Int)==0)=true) (r0:qmY l rt) (ho:Fn 71 1 [trS 0 rt l] [(0,0,qae l)] (.pv (.bool false)) 0 []) :
 Fn 34 1 [trS 0 rt l] [(0,0,qae l)] (.pv (iV (8))) 0 []:=
 Fz [] [.t false,Cf hl [0],.k,.t true,.t true,.k,Lf r0,Cf ho [0],.k]
  tI (Ai hm (Co hl [0] 2 (Ai hr (Ai h0 (Lo r0 [] (Co ho [0] 2 tI))))))
abbrev qpo (l:List Pt) (rt:Int):Prop:=Fn 71 1 [trS 0 rt l] [(0,0,qae l)] (.pv (.bool true)) 0 []
theorem qhC {rt:Int} {l:List Pt} (hm:decide ((l.length:Int)>64)=false) (hl:qil l rt) (hr:(rt==(-1))=true) (h0:((l.length:Int)==0)=true) (r0:qmY l rt) (ho:qpo l rt) (hrc:Fn 72 1 [trS 0 rt l] [(0,0,qae l)] (.pv (.bool false)) 0 []) :
 Fn 34 1 [trS 0 rt l] [(0,0,qae l)] (.pv (iV (8))) 0 []:=
 Fz [] [.t false,Cf hl [0],.k,.t true,.t true,.k,Lf r0,Cf ho [0],.k,Cf hrc [0],.k]
  tI (Ai hm (Co hl [0] 2 (Ai hr (Ai h0 (Lo r0 [] (Co ho [0] 2 (Co hrc [0] 2 tI)))))))
abbrev qmf (g:List Int):TmL:=[(1,.pp 1 0),(5,.ls 2 g.length),(6,.pv (iV ((1:Nat):Int)))]
abbrev qlq (g:List Int) (l:List Pt) (rt:Int):Prop:=Fn 73 1 [trS 0 rt l] [(0,0,qae l)] (.ls 1 g.length) 1 [(1,0,zrI g)]
abbrev qkH (l:List Pt) (rt:Int):Prop:=Fn 72 1 [trS 0 rt l] [(0,0,qae l)] (.pv (.bool true)) 0 []
theorem qmr {rt:Int} {l:List Pt} {g:List Int} (hm:decide ((l.length:Int)>64)=false) (hl:qil l rt) (hr:(rt==(-1))=true) (h0:((l.length:Int)==0)=true) (r0:qmY l rt) (ho:qpo l rt) (hrc:qkH l rt) (hw:qlq g l rt) (r1:Rl 1 1 34 1 96 3 (qmf g) (qm4 g l rt) (.ret) ([(2,.pv (iV 8))]) ([])) :
 Fn 34 1 [trS 0 rt l] [(0,0,qae l)] (.pv (iV (8))) 0 []:=
 Fz [] [.t false,Cf hl [0],.k,.t true,.t true,.k,Lf r0,Cf ho [0],.k,Cf ho [0],.k,Cf hw [0],Lf r1]
  tI (Ai hm (Co hl [0] 2 (Ai hr (Ai h0 (Lo r0 [] (Co ho [0] 2 (Co hrc [0] 2 (Co hw [0] 2 (Lo r1 [] tI)))))))))
theorem qnZ {rt:Int} {l:List Pt} {g:List Int} (hm:decide ((l.length:Int)>64)=false) (hl:qil l rt) (hr:(rt==(-1))=true) (h0:((l.length:Int)==0)=true) (r0:qmY l rt) (ho:qpo l rt) (hrc:qkH l rt) (hw:qlq g l rt) (r1:Rl 1 1 34 1 96 3 (qmf g) (qm4 g l rt) (.exit 2) ([]) ([])) :
 Fn 34 1 [trS 0 rt l] [(0,0,qae l)] (.pv (iV (0))) 0 []:=
 Fz [] [.t false,Cf hl [0],.k,.t true,.t true,.k,Lf r0,Cf ho [0],.k,Cf ho [0],.k,Cf hw [0],Lf r1]
  tI (Ai hm (Co hl [0] 2 (Ai hr (Ai h0 (Lo r0 [] (Co ho [0] 2 (Co hrc [0] 2 (Co hw [0] 2 (Lo r1 [] tI)))))))))
theorem qlt {rt:Int} {l:List Pt} (hm:decide ((l.length:Int)>64)=false) (hl:qil l rt) (hr:(rt==(-1))=false) (h0:((l.length:Int)==0)=false) (r0:qqI l rt) :
 Fn 34 1 [trS 0 rt l] [(0,0,qae l)] (.pv (iV (8))) 0 []:=
 Fz [] [.t false,Cf hl [0],.k,.t false,.t false,.k,Lf r0]
  tI (Ai hm (Co hl [0] 2 (Ai hr (Ai h0 (Lo r0 [] tI)))))
theorem qjq {rt:Int} {l:List Pt} (hm:decide ((l.length:Int)>64)=false) (hl:qil l rt) (hr:(rt==(-1))=false) (h0:((l.length:Int)==0)=false) (r0:qmY l rt) (ho:Fn 71 1 [trS 0 rt l] [(0,0,qae l)] (.pv (.bool false)) 0 []) :
 Fn 34 1 [trS 0 rt l] [(0,0,qae l)] (.pv (iV (8))) 0 []:=
 Fz [] [.t false,Cf hl [0],.k,.t false,.t false,.k,Lf r0,Cf ho [0],.k]
  tI (Ai hm (Co hl [0] 2 (Ai hr (Ai h0 (Lo r0 [] (Co ho [0] 2 tI))))))
theorem qhL {rt:Int} {l:List Pt} (hm:decide ((l.length:Int)>64)=false) (hl:qil l rt) (hr:(rt==(-1))=false) (h0:((l.length:Int)==0)=false) (r0:qmY l rt) (ho:qpo l rt) (hrc:Fn 72 1 [trS 0 rt l] [(0,0,qae l)] (.pv (.bool false)) 0 []) :
 Fn 34 1 [trS 0 rt l] [(0,0,qae l)] (.pv (iV (8))) 0 []:=
 Fz [] [.t false,Cf hl [0],.k,.t false,.t false,.k,Lf r0,Cf ho [0],.k,Cf hrc [0],.k]
  tI (Ai hm (Co hl [0] 2 (Ai hr (Ai h0 (Lo r0 [] (Co ho [0] 2 (Co hrc [0] 2 tI)))))))
theorem qkO {rt:Int} {l:List Pt} {g:List Int} (hm:decide ((l.length:Int)>64)=false) (hl:qil l rt) (hr:(rt==(-1))=false) (h0:((l.length:Int)==0)=false) (r0:qmY l rt) (ho:qpo l rt) (hrc:qkH l rt) (hw:qlq g l rt) (r1:Rl 1 1 34 1 96 3 (qmf g) (qm4 g l rt) (.ret) ([(2,.pv (iV 8))]) ([])) :
 Fn 34 1 [trS 0 rt l] [(0,0,qae l)] (.pv (iV (8))) 0 []:=
 Fz [] [.t false,Cf hl [0],.k,.t false,.t false,.k,Lf r0,Cf ho [0],.k,Cf ho [0],.k,Cf hw [0],Lf r1]
  tI (Ai hm (Co hl [0] 2 (Ai hr (Ai h0 (Lo r0 [] (Co ho [0] 2 (Co hrc [0] 2 (Co hw [0] 2 (Lo r1 [] tI)))))))))
theorem qnX {rt:Int} {l:List Pt} {g:List Int} (hm:decide ((l.length:Int)>64)=false) (hl:qil l rt) (hr:(rt==(-1))=false) (h0:((l.length:Int)==0)=false) (r0:qmY l rt) (ho:qpo l rt) (hrc:qkH l rt) (hw:qlq g l rt) (r1:Rl 1 1 34 1 96 3 (qmf g) (qm4 g l rt) (.exit 2) ([]) ([])) :
 Fn 34 1 [trS 0 rt l] [(0,0,qae l)] (.pv (iV (0))) 0 []:=
 Fz [] [.t false,Cf hl [0],.k,.t false,.t false,.k,Lf r0,Cf ho [0],.k,Cf ho [0],.k,Cf hw [0],Lf r1]
  tI (Ai hm (Co hl [0] 2 (Ai hr (Ai h0 (Lo r0 [] (Co ho [0] 2 (Co hrc [0] 2 (Co hw [0] 2 (Lo r1 [] tI)))))))))
abbrev qrK (n:Nat) (s:List Pt) (td:Int) (tn:Int) (vs:List Value):HpL:=[(1,0,.ls 0 s.length),(2,0,.pv (iV tn)),(2,1,.pv (iV td)),(3,0,.pv (iV 0)),(3,1,.pv (.slice none 0 0)),(4,0,.pv (iV 0)),(4,1,.ls 5 n),(0,0,qah s),(5,0,.row 26 3 n (vs))]
theorem qlN {tn td:Int} {s:List Pt} {p:Pt} {k n:Nat} {vs:List Value} (hlt:decide ((k:Int)<(s.length:Int))=true) (hk:s[k]?=some p) (hin:0≤(k:Int)∧(k:Int)<(s.length:Int)) (hn:n+1≤1000000) (hs:iV (IntKind.i64.wrap ((k:Int)+1))=iV (((k+1:Nat):Int))) {e:Exit} {tm2:TmL} {hp2:HpL}
 (r:Rl 1 1 65 0 35 6 ([(2,.pp 1 0),(3,.pp 2 0),(4,.pp 3 0),(5,.pp 4 0),(6,.pv (iV ((k+1:Nat):Int)))]) ([(1,0,.ls 0 s.length),(2,0,.pv (iV tn)),(2,1,.pv (iV td)),(3,0,.pv (iV 0)),(3,1,.pv (.slice none 0 0)),(4,0,.pv (iV 0)),(4,1,.ls 5 (n+1)),(0,0,qah s),(5,0,.row 26 3 (n+1) (vs++[iV p.id,iV 0,iV 0]))]) e tm2 hp2):Rl 1 1 65 0 35 6 ([(2,.pp 1 0),(3,.pp 2 0),(4,.pp 3 0),(5,.pp 4 0),(6,.pv (iV (k:Int)))]) (qrK n s td tn vs) e tm2 hp2:=
 RunsL.next [(5,7)] 300 [.t true,.md,.r (iV p.id),Re hs]
  (Ro (Ai hlt (Ai hin (Ai (qbI hk) (Ai hn (Ai hs tI)))))) r
theorem qom {tn td:Int} {s:List Pt} {k n:Nat} {vs:List Value} (hlt:decide ((k:Int)<(s.length:Int))=false):Rl 1 1 65 0 35 6 ([(2,.pp 1 0),(3,.pp 2 0),(4,.pp 3 0),(5,.pp 4 0),(6,.pv (iV (k:Int)))]) (qrK n s td tn vs) (.exit 0) ([(2,.pp 1 0),(3,.pp 2 0),(4,.pp 3 0),(5,.pp 4 0)]) (qrK n s td tn vs):=
 RunsL.stop [] 300 [.t false] (fun h=>by cases h)
  (Ro (Ai hlt tI))
theorem ql9 {z tn td:Int} {s n1:List Pt} {n:Nat} {vs:List Value} (r0:Rl 1 1 65 0 35 6 ([(2,.pp 1 0),(3,.pp 2 0),(4,.pp 3 0),(5,.pp 4 0),(6,.pv (iV ((0:Nat):Int)))]) ([(1,0,.ls 0 s.length),(2,0,.pv (iV tn)),(2,1,.pv (iV td)),(3,0,.pv (iV 0)),(3,1,.pv (.slice none 0 0)),(4,0,.pv (iV 0)),(4,1,.ls 5 0),(0,0,qah s),(5,0,.row 26 3 0 ([]))]) (.exit 0) ([(2,.pp 1 0),(3,.pp 2 0),(4,.pp 3 0),(5,.pp 4 0)]) (qrK n s td tn vs)) (hg:FnO Try.prog 94 1 2 [qay 0 s,.pv (qaa tn td),.ag [.pv (iV 0),.ls 1 n],.pv (iV (0)),.pv (iV (s.length:Int))] [(0,0,qah s),(1,0,.row 26 3 n (vs))] (.pv (iV (z))) 0 [(1,0,.row 26 3 n (qaq n1))]) :
 Fn 65 1 [qay 0 s,.pv (qaa tn td)] [(0,0,qah s)] (.ag [.pv (iV z),.ls 1 n]) 1 [(1,0,.row 26 3 n (qaq n1))]:=
 Fz [(1,5)] [.ln false 4 1 26 3,Lf r0,.fo 1 [0,5] [qay 0 s,.pv (qaa tn td),.ag [.pv (iV 0),.ls 1 n],.pv (iV (0)),.pv (iV (s.length:Int))] [(0,0,qah s),(1,0,.row 26 3 n (vs))] (.pv (iV (z))) 0 [(1,0,.row 26 3 n (qaq n1))]]
  (qam (qaF [(1,5)]) [(1,0,.row 26 3 n (qaq n1))]) (Lo r0 [] (Ai hg (Ai (Eq.refl (List.map (SV.ren (qar [0,5] 6)) [qay 0 s,.pv (qaa tn td),.ag [.pv (iV 0),.ls 1 n],.pv (iV (0)),.pv (iV (s.length:Int))])) (Ai (qam (qar [0,5] 6) [(0,0,qah s),(1,0,.row 26 3 n (vs))]) tI))))
end Go.Proofs.Ytalnjplghagbpaa

namespace Go.Proofs.Ytalnjplghagbpaa
set_option maxRecDepth 100000
open Go.RowKit
theorem qjl {tn td e:Int} {s:List Pt} (ht:Fn 64 1 [qay 0 s,.pv (qaa tn td)] [(0,0,qah s)] (.pv (iV (e))) 0 []) (hte:(e !=0)=true) :
 Fn 29 1 [qay 0 s,.pv (qaa tn td)] [(0,0,qah s)] (.pv (.tuple #[.agg #[iV 0,.slice none 0 0],iV (e)])) 0 []:=
 Fz [] [Cf ht [0],.t true]
  tI (Co ht [0] 4 (Ai hte tI))
theorem qoi {tn td e:Int} {s n1:List Pt} {r1:Int} (ht:Fn 64 1 [qay 0 s,.pv (qaa tn td)] [(0,0,qah s)] (.pv (iV (e))) 0 []) (hte:(e !=0)=false) (hm:Fn 65 1 [qay 0 s,.pv (qaa tn td)] [(0,0,qah s)] (.ag [.pv (iV r1),.ls 1 n1.length]) 1 [(1,0,qae n1)]) :
 Fn 29 1 [qay 0 s,.pv (qaa tn td)] [(0,0,qah s)] (.tu [.ag [.pv (iV r1),.ls 1 n1.length],.one (.pv (iV 0))]) 1 [(1,0,qae n1)]:=
 Fz [(1,4)] [Cf ht [0],.t false,Cf hm [0]]
  (qam (qaF [(1,4)]) [(1,0,qae n1)]) (Co ht [0] 4 (Ai hte (Co hm [0] 4 tI)))
theorem qsD {rt z e1:Int} {l:List Pt} (hc:Fn 34 1 [trS 0 rt l] [(0,0,qae l)] (.pv (iV (e1))) 0 []) (hce:(e1 !=0)=true) :
 Fn 32 1 [trS 0 rt l,.pv (iV (z))] [(0,0,qae l)] (.pv (.tuple #[iV (0),iV (e1)])) 0 []:=
 Fz [] [Cf hc [0],.t true]
  tI (Co hc [0] 2 (Ai hce tI))
theorem qq6 {rt y z e1:Int} {l:List Pt} (hc:Fn 34 1 [trS 0 rt l] [(0,0,qae l)] (.pv (iV (e1))) 0 []) (hce:(e1 !=0)=false) (hat:Fn 68 1 [trS 0 rt l,.pv (iV (z))] [(0,0,qae l)] (.pv (iV (y))) 0 []) (hy:decide (y<0)=true) :
 Fn 32 1 [trS 0 rt l,.pv (iV (z))] [(0,0,qae l)] (.pv (.tuple #[iV (0),iV (6)])) 0 []:=
 Fz [] [Cf hc [0],.t false,Cf hat [0],.t true]
  tI (Co hc [0] 2 (Ai hce (Co hat [0] 2 (Ai hy tI))))
theorem qqz {rt y z v e1:Int} {l:List Pt} (hc:Fn 34 1 [trS 0 rt l] [(0,0,qae l)] (.pv (iV (e1))) 0 []) (hce:(e1 !=0)=false) (hat:Fn 68 1 [trS 0 rt l,.pv (iV (z))] [(0,0,qae l)] (.pv (iV (y))) 0 []) (hy:decide (y<0)=false) (hab:Fn 69 1 [trS 0 rt l,.pv (iV (z))] [(0,0,qae l)] (.pv (iV (v))) 0 []) :
 Fn 32 1 [trS 0 rt l,.pv (iV (z))] [(0,0,qae l)] (.pv (.tuple #[iV (v),iV (0)])) 0 []:=
 Fz [] [Cf hc [0],.t false,Cf hat [0],.t false,Cf hab [0]]
  tI (Co hc [0] 2 (Ai hce (Co hat [0] 2 (Ai hy (Co hab [0] 2 tI)))))
end Go.Proofs.Ytalnjplghagbpaa

namespace Go.Proofs.Ytalnjplghagbpaa
set_option maxRecDepth 100000
open Go.RowKit
def wL (T:Sh Nat):List Int:=T.list.map fun k:Nat=>(k:Int)
theorem qdt (T:Sh Nat):(wL T).length=T.list.length:=List.length_map ..
theorem qez (a b:Sh Nat) (k:Nat):wL (.node a k b)=wL a++((k:Int)::wL b):=by simp[wL,Sh.list]
theorem qc0:wL .nil=[]:=rfl
theorem qfL {T:Sh Nat} {j k:Nat} (h:T.list[j]?=some k):(wL T)[j]?=some (k:Int):=by unfold wL;rw[List.getElem?_map,h];rfl
theorem qbh (g:List Int) (x:Int):ziV (g++[x])=ziV g++[iV x]:=qic g [x]
section
variable {rt:Int} {l:List Pt}
theorem qnx (hl:l.length≤999999):∀ {T:Sh Nat} {z:Int} (g:List Int) {n:Nat} {v:List Value},Rep l z T→n=g.length→v=ziV g→n+T.list.length≤l.length→T≠.nil→
 FnO Try.prog 96 1 2 [trS 0 rt l,.pv (iV z),.ls 1 n] [(0,0,qae l),(1,0,.row 3 1 n v)] (.ls 2 (g++wL T).length) 1 [(2,0,zrI (g++wL T))]:=by
 intro T
 induction T with
 | nil=>intro z g n v _ _ _ _ h;exact (h rfl).elim
 | node a k b iha ihb=>
  intro z g n v hr hn hv hlen _
  subst hn hv
  obtain⟨hz,p,hp,a1,a2⟩:=hr
  subst hz
  have hkl:=qal hp
  have hs:(Sh.node a k b).list.length=a.list.length+(b.list.length+1):=by simp[Sh.list]
  rw[hs] at hlen
  have e:g++wL (.node a k b)=((g++wL a)++[(k:Int)])++wL b:=by rw[qez];simp
  have c0:decide ((k:Int)<0)=false:=df (by omega)
  have c1:decide ((g.length:Int)>(l.length:Int))=false:=df (by omega)
  have hin:0≤(k:Int)∧(k:Int)<(l.length:Int):=⟨by omega,by omega⟩
  have la:(g++wL a).length=g.length+a.list.length:=by rw[List.length_append,qdt]
  have lr:∀ c:List Int,(c++[(k:Int)]).length=c.length+1:=fun c=>by simp
  by_cases ea:a=.nil
  ·subst ea
   have ga:g++wL .nil=g:=by rw[qc0,List.append_nil]
   rw[ga] at e
   have pa:p.a = -1:=a1
   have hL:=qcU (rt:=rt) (l:=l) (z:=p.a) (n:=g.length) (vs:=ziV g) (dt (by omega))
   by_cases eb:b=.nil
   ·subst eb
    have pb:p.b = -1:=a2
    rw[e,qc0,List.append_nil]
    have:=qq3 (h0:=c0) (h1:=c1) (hk:=hp) (hin:=hin) (hl:=hL) (hn:=by omega) (hr:=qcU (rt:=rt) (l:=l) (z:=p.b) (n:=g.length+1) (vs:=ziV g++[iV (k:Int)]) (dt (by omega)))
    rw[zrI,lr,qbh]
    exact this
   ·rw[e]
    exact qq4 (h0:=c0) (h1:=c1) (hk:=hp) (hin:=hin) (hl:=hL) (hn:=by omega) (hr:=ihb (g++[(k:Int)]) a2 (lr g).symm (qbh g k).symm (by omega) eb)
  ·have hL:=iha g a1 rfl rfl (by omega) ea
   by_cases eb:b=.nil
   ·subst eb
    have pb:p.b = -1:=a2
    rw[e,qc0,List.append_nil]
    have:=qq2 (h0:=c0) (h1:=c1) (hk:=hp) (hin:=hin) (hl:=hL) (hn:=by omega) (hr:=qcU (rt:=rt) (l:=l) (z:=p.b) (n:=(g++wL a).length+1) (vs:=ziV (g++wL a)++[iV (k:Int)]) (dt (by omega)))
    rw[zrI,lr,qbh]
    exact this
   ·rw[e]
    exact qqX (h0:=c0) (h1:=c1) (hk:=hp) (hin:=hin) (hl:=hL) (hn:=by omega) (hr:=ihb ((g++wL a)++[(k:Int)]) a2 (lr _).symm (qbh _ k).symm (by omega) eb)
theorem qmZ (hl:l.length≤999999) {T:Sh Nat} {z:Int} (hr:Rep l z T) (hlen:T.list.length≤l.length) (hT:T≠.nil) :
 Fn 96 1 [trS 0 rt l,.pv (iV z),.pv (.slice none 0 0)] [(0,0,qae l)] (.ls 1 (wL T).length) 1 [(1,0,zrI (wL T))]:=by
 cases T with
 | nil=>exact (hT rfl).elim
 | node a k b=>
  obtain⟨hz,p,hp,a1,a2⟩:=hr
  subst hz
  have hkl:=qal hp
  have hs:(Sh.node a k b).list.length=a.list.length+(b.list.length+1):=by simp[Sh.list]
  rw[hs] at hlen
  have e:wL (.node a k b)=(wL a++[(k:Int)])++wL b:=by rw[qez];simp
  have c0:decide ((k:Int)<0)=false:=df (by omega)
  have c1:decide ((0:Int)>(l.length:Int))=false:=df (by omega)
  have hin:0≤(k:Int)∧(k:Int)<(l.length:Int):=⟨by omega,by omega⟩
  have la:(wL a).length=a.list.length:=qdt a
  have lr:∀ c:List Int,(c++[(k:Int)]).length=c.length+1:=fun c=>by simp
  by_cases ea:a=.nil
  ·subst ea
   rw[qc0,List.nil_append] at e
   have pa:p.a = -1:=a1
   have hL:=qcU (rt:=rt) (l:=l) (z:=p.a) (n:=0) (vs:=[]) (dt (by omega))
   by_cases eb:b=.nil
   ·subst eb
    have pb:p.b = -1:=a2
    rw[e,qc0,List.append_nil]
    exact qpP (h0:=c0) (h1:=c1) (hk:=hp) (hin:=hin) (hl:=hL) (hn:=by omega) (hr:=qcU (rt:=rt) (l:=l) (z:=p.b) (n:=0+1) (vs:=[]++[iV (k:Int)]) (dt (by omega)))
   ·rw[e]
    exact qpt (h0:=c0) (h1:=c1) (hk:=hp) (hin:=hin) (hl:=hL) (hn:=by omega) (hr:=qnx hl [(k:Int)] a2 rfl rfl (by omega) eb)
  ·have hL:=qnx (rt:=rt) (n:=0) hl [] a1 rfl rfl (by omega) ea
   rw[List.nil_append] at hL
   by_cases eb:b=.nil
   ·subst eb
    have pb:p.b = -1:=a2
    rw[e,qc0,List.append_nil]
    have:=qqB (h0:=c0) (h1:=c1) (hk:=hp) (hin:=hin) (hl:=hL) (hn:=by omega) (hr:=qcU (rt:=rt) (l:=l) (z:=p.b) (n:=(wL a).length+1) (vs:=ziV (wL a)++[iV (k:Int)]) (dt (by omega)))
    rw[zrI,lr,qbh]
    exact this
   ·rw[e]
    exact qq7 (h0:=c0) (h1:=c1) (hk:=hp) (hin:=hin) (hl:=hL) (hn:=by omega) (hr:=qnx hl (wL a++[(k:Int)]) a2 (lr _).symm (qbh _ k).symm (by omega) eb)
theorem qrf (hl:l.length≤999999) {T:Sh Nat} (hr:Rep l rt T) (hlen:T.list.length≤l.length) :
 Fn 73 1 [trS 0 rt l] [(0,0,qae l)] (.ls 1 (wL T).length) 1 [(1,0,zrI (wL T))]:=by
 by_cases hT:T=.nil
 ·subst hT
  have h:rt = -1:=hr
  exact qj8 3 1 (qoc (hw:=qgk (h0:=dt (by omega)))) .ls
 ·exact qqA (hw:=qmZ hl hr hlen hT)
theorem qra (hl:l.length≤999999) {T:Sh Nat} (hr:Rep l rt T) (hlen:T.list.length≤l.length) :
 Fn 72 1 [trS 0 rt l] [(0,0,qae l)] (.pv (.bool (decide (T.list.length=l.length)))) 0 []:=by
 by_cases hT:T=.nil
 ·subst hT
  have h:rt = -1:=hr
  by_cases e:l.length=0
  ·rw[show decide ((Sh.nil:Sh Nat).list.length=l.length)=true from decide_eq_true (by rw[e];rfl)]
   exact qoP (hw:=qgk (h0:=dt (by omega))) (he:=by rw[e];rfl)
  ·rw[show decide ((Sh.nil:Sh Nat).list.length=l.length)=false from decide_eq_false (fun h=>e h.symm)]
   exact qmi (hw:=qgk (h0:=dt (by omega))) (he:=beq_eq_false_iff_ne.2 (by omega))
 ·have hw:=qmZ (rt:=rt) hl hr hlen hT
  have hg:=qdt T
  by_cases e:T.list.length=l.length
  ·rw[decide_eq_true e]
   exact qlI (hw:=hw) (he:=beq_iff_eq.2 (by omega))
  ·rw[decide_eq_false e]
   exact qkw (hw:=hw) (he:=beq_eq_false_iff_ne.2 (by omega))
end
end Go.Proofs.Ytalnjplghagbpaa

namespace Go.Proofs.Ytalnjplghagbpaa
set_option maxRecDepth 100000
open Go.RowKit
open Classical in
noncomputable def chE (x:Tr):Int:=if 64<x.n.length then 4 else if VT x then 0 else 8
theorem qeC {x:Tr} (h:64<x.n.length):chE x=4:=by unfold chE;rw[if_pos h]
theorem qg9 {x:Tr} (h:¬ 64<x.n.length) (k:¬ VT x):chE x=8:=by unfold chE;rw[if_neg h,if_neg k]
theorem qe0 {x:Tr} (k:VT x):chE x=0:=by unfold chE;rw[if_neg (by have:=k.len;omega),if_pos k]
theorem qjb {x:Tr}:chE x=0↔VT x:=by
 refine⟨fun h=>?_,qe0⟩
 apply Classical.byContradiction
 intro k
 by_cases hm:64<x.n.length
 ·rw[qeC hm] at h;cases h
 ·rw[qg9 hm k] at h;cases h
theorem qf5 {α:Type} {f:α→Int}:∀ {L:List α},(∀ j p q,L[j]?=some p→L[j+1]?=some q→f p<f q)→(L.map f).Pairwise (· < ·)
 | [],_=>.nil
 | [_],_=>by simp
 | a::b::r,h=>by
  have ih:=qf5 (L:=b::r) fun j p q hp hq=>h (j+1) p q (by simpa using hp) (by simpa using hq)
  rw[List.map_cons,List.pairwise_cons]
  refine⟨fun y hy=>?_,ih⟩
  have hab:=h 0 a b rfl rfl
  rw[List.map_cons] at hy ih
  rcases List.mem_cons.1 hy with rfl | hy
  ·exact hab
  ·exact Int.lt_trans hab ((List.pairwise_cons.1 ih).1 y hy)
theorem qi6 {α:Type} {f:α→Int} {L:List α} (h:(L.map f).Pairwise (· < ·)) {j:Nat} {p q:α} (hp:L[j]?=some p) (hq:L[j+1]?=some q):f p<f q:=by
 have h1:=qal hq
 have:=List.pairwise_iff_getElem.1 h j (j+1) (by rw[List.length_map];omega) (by rw[List.length_map];omega) (by omega)
 rw[List.getElem_map,List.getElem_map] at this
 rw[List.getElem?_eq_getElem (by omega)] at hp hq
 cases hp
 cases hq
 exact this
section
variable {rt:Int} {l:List Pt}
abbrev qru (k:Nat):List (Nat×SV):=[(1,.pp 1 0),(3,.pv (iV (k:Int)))]
abbrev qrv (rt:Int) (l:List Pt):List (Nat×Nat×SV):=[(1,0,.pv (iV rt)),(1,1,.ls 0 l.length),(0,0,qae l)]
abbrev qrH (g:List Int) (k:Nat):List (Nat×SV):=[(1,.pp 1 0),(5,.ls 2 g.length),(6,.pv (iV (k:Int)))]
abbrev qrI (rt:Int) (l:List Pt) (g:List Int):List (Nat×Nat×SV):=[(1,0,.pv (iV rt)),(1,1,.ls 0 l.length),(0,0,qae l),(2,0,zrI g)]
def GdN (l:List Pt) (p:Pt):Prop:=(-1≤p.a∧p.a<(l.length:Int))∧(-1≤p.b∧p.b<(l.length:Int))∧0≤p.id∧p.id≤65535
theorem ckb {k:Nat} {p:Pt} (hp:l[k]?=some p) (hb:¬ GdN l p):Rl 1 1 34 0 96 2 (qru k) (qrv rt l) .ret [(2,.pv (iV 8))] []:=by
 have hkl:=qal hp
 have ha:=qiL (rt:=rt) (l:=l) p.a
 have hbl:=qiL (rt:=rt) (l:=l) p.b
 by_cases c1 : -1≤p.a∧p.a<(l.length:Int)
 ·rw[qin c1] at ha
  by_cases c2 : -1≤p.b∧p.b<(l.length:Int)
  ·rw[qin c2] at hbl
   by_cases c3:0≤p.id
   ·have c4:65535<p.id:=by
     apply Classical.byContradiction
     intro h
     exact hb ⟨c1,c2,c3,by omega⟩
    exact qrd (hlt:=dt (by omega)) (hk:=hp) (hin:=⟨by omega,by omega⟩) (ha:=ha) (hb:=hbl) (h1:=df (by omega)) (h2:=dt (by omega))
   ·exact qqU (hlt:=dt (by omega)) (hk:=hp) (hin:=⟨by omega,by omega⟩) (ha:=ha) (hb:=hbl) (h1:=dt (by omega))
  ·rw[qiq c2] at hbl
   exact qpQ (hlt:=dt (by omega)) (hk:=hp) (hin:=⟨by omega,by omega⟩) (ha:=ha) (hb:=hbl)
 ·rw[qiq c1] at ha
  exact qqf (hlt:=dt (by omega)) (hk:=hp) (hin:=⟨by omega,by omega⟩) (ha:=ha)
theorem cks (hl:l.length≤999999) {m:Nat} (hm:m≤l.length) (hg:∀ k,k<m→∀ p,l[k]?=some p→GdN l p) {e:Exit} {tm2:TmL} {hp2:HpL}
 (r:Rl 1 1 34 0 96 2 (qru m) (qrv rt l) e tm2 hp2):Rl 1 1 34 0 96 2 (qru 0) (qrv rt l) e tm2 hp2:=
 RunsL.roundsZ (fun k=>qru k) (fun _=>qrv rt l) (N:=m) m 0 (Nat.zero_add _) (fun k _ hk r=>by
  obtain⟨p,hp⟩:=qap (l:=l) (k:=k) (by omega)
  obtain⟨c1,c2,c3,c4⟩:=hg k hk p hp
  have ha:=qiL (rt:=rt) (l:=l) p.a
  have hb:=qiL (rt:=rt) (l:=l) p.b
  rw[qin c1] at ha
  rw[qin c2] at hb
  exact qli (hlt:=dt (by omega)) (hk:=hp) (hin:=⟨by omega,by omega⟩) (ha:=ha) (hb:=hb) (h1:=df (by omega)) (h2:=df (by omega)) (hs:=qak (by omega)) r) r
theorem qs1 (hl:l.length≤999999):Fn 34 1 [trS 0 rt l] [(0,0,qae l)] (.pv (iV (chE ⟨rt,l⟩))) 0 []:=by
 by_cases hm:64<l.length
 ·rw[qeC (x:=⟨rt,l⟩) hm];exact ql5 (hm:=dt (by omega))
 have hm':decide ((l.length:Int)>64)=false:=df (by omega)
 have no:¬ VT ⟨rt,l⟩→chE ⟨rt,l⟩=8:=qg9 hm
 have hL:=qiL (rt:=rt) (l:=l) rt
 by_cases hr : -1≤rt∧rt<(l.length:Int)
 rotate_left
 ·rw[no fun ⟨_,_,T,hT⟩=>hr hT.root.1]
  rw[qiq hr] at hL
  exact qkY (hm:=hm') (hl:=hL)
 rw[qin hr] at hL
 by_cases hre:rt = -1↔l.length=0
 rotate_left
 ·rw[no fun ⟨_,_,T,hT⟩=>hre hT.root.2]
  by_cases h1:rt = -1
  ·exact qj2 (hm:=hm') (hl:=hL) (hr:=beq_iff_eq.2 h1) (h0:=beq_eq_false_iff_ne.2 (by omega))
  ·exact qhW (hm:=hm') (hl:=hL) (hr:=beq_eq_false_iff_ne.2 h1) (h0:=beq_iff_eq.2 (by omega))
 have he:(rt==(-1))=true∧((l.length:Int)==0)=true∨(rt==(-1))=false∧((l.length:Int)==0)=false:=by
  by_cases h1:rt = -1
  ·exact Or.inl ⟨beq_iff_eq.2 h1,beq_iff_eq.2 (by omega)⟩
  ·exact Or.inr ⟨beq_eq_false_iff_ne.2 h1,beq_eq_false_iff_ne.2 (by omega)⟩
 rcases qaS (fun k=>∀ p,l[k]?=some p→GdN l p) l.length with hg | ⟨k,hk,hb,hg⟩
 rotate_left
 ·simp only[Classical.not_forall] at hb
  obtain⟨p,hp,hb⟩:=hb
  rw[no fun ⟨_,hrng,T,hT⟩=>hb ⟨(hT.lnk p (List.mem_of_getElem? hp)).1,(hT.lnk p (List.mem_of_getElem? hp)).2,hrng p (List.mem_of_getElem? hp)⟩]
  have r:=cks (rt:=rt) hl (Nat.le_of_lt hk) hg (ckb hp hb)
  rcases he with ⟨e1,e2⟩ | ⟨e1,e2⟩
  ·exact qlm (hm:=hm') (hl:=hL) (hr:=e1) (h0:=e2) (r0:=r)
  ·exact qlt (hm:=hm') (hl:=hL) (hr:=e1) (h0:=e2) (r0:=r)
 have hgd:∀ p∈l,GdN l p:=fun p hp=>by
  obtain⟨k,hk⟩:=List.getElem?_of_mem hp
  exact hg k (qal hk) p hk
 have hLn:Lnk ⟨rt,l⟩:=fun p hp=>⟨(hgd p hp).1,(hgd p hp).2.1⟩
 have r0:=cks (rt:=rt) hl (Nat.le_refl _) hg (qnz (rt:=rt) (l:=l) (k:=l.length) (hlt:=df (by omega)))
 have ho:=qsQ (rt:=rt) hLn (by omega)
 by_cases h1:One ⟨rt,l⟩
 rotate_left
 ·rw[no fun ⟨_,_,T,hT⟩=>h1 hT.one]
  rw[qiq h1] at ho
  rcases he with ⟨e1,e2⟩ | ⟨e1,e2⟩
  ·exact qjV (hm:=hm') (hl:=hL) (hr:=e1) (h0:=e2) (r0:=r0) (ho:=ho)
  ·exact qjq (hm:=hm') (hl:=hL) (hr:=e1) (h0:=e2) (r0:=r0) (ho:=ho)
 rw[qin h1] at ho
 obtain⟨T,hT⟩:=One.tree h1 hLn hr
 have hT:Rep l rt T:=hT
 have hnd:T.list.Nodup:=Rep.nodup h1 hT
 have hTl:T.list.length≤l.length:=by
  have:=hnd.length_le_of_subset (l₂:=List.range l.length) fun v hv=>List.mem_range.2 (hT.lt v hv)
  rwa [List.length_range] at this
 have hre2:=qra hl hT hTl
 by_cases hall:T.list.length=l.length
 rotate_left
 ·rw[no fun ⟨_,_,T',hT'⟩=>hall (by rw[hT.uniq hT'.rep];exact hT'.all)]
  rw[decide_eq_false hall] at hre2
  rcases he with ⟨e1,e2⟩ | ⟨e1,e2⟩
  ·exact qhC (hm:=hm') (hl:=hL) (hr:=e1) (h0:=e2) (r0:=r0) (ho:=ho) (hrc:=hre2)
  ·exact qhL (hm:=hm') (hl:=hL) (hr:=e1) (h0:=e2) (r0:=r0) (ho:=ho) (hrc:=hre2)
 rw[decide_eq_true hall] at hre2
 have hw:=qrf hl hT hTl
 have hwl:=qdt T
 have at2:∀ j,j<T.list.length→∃ k p,T.list[j]?=some k∧l[k]?=some p∧k<l.length:=fun j hj=>by
  have hk:=List.getElem?_eq_getElem hj
  have hkl:=hT.lt _ (List.mem_of_getElem? hk)
  exact⟨_,_,hk,qag hkl,hkl⟩
 have step:∀ m,1≤m→m≤T.list.length→(∀ j,1≤j→j<m→∀ a b,T.list[j-1]?=some a→T.list[j]?=some b→idN l a<idN l b)→∀ {e:Exit} {tm2:TmL} {hp2:HpL},
  Rl 1 1 34 1 96 3 (qrH (wL T) m) (qrI rt l (wL T)) e tm2 hp2→Rl 1 1 34 1 96 3 (qrH (wL T) 1) (qrI rt l (wL T)) e tm2 hp2:=by
  intro m h1 hm2 hlt e tm2 hp2 r
  refine RunsL.roundsZ (fun k=>qrH (wL T) k) (fun _=>qrI rt l (wL T)) (N:=m) (m-1) 1 (by omega) (fun k k1 k2 r=>?_) r
  obtain⟨u,p,hu,hp,hul⟩:=at2 (k-1) (by omega)
  obtain⟨v,q,hv,hq,hvl⟩:=at2 k (by omega)
  have:=hlt k k1 k2 u v hu hv
  rw[qaw hp,qaw hq] at this
  exact qi8 (j:=k-1) (hlt:=dt (by omega)) (hs1:=by rw[qhX (by omega) (by omega)];congr 1;omega) (hji:=⟨by omega,by omega⟩) (hgj:=qfL hu) (hyi:=⟨by omega,by omega⟩) (hp:=hp) (hki:=⟨by omega,by omega⟩) (hgk:=qfL hv) (hzi:=⟨by omega,by omega⟩) (hq:=hq) (hc:=df (by omega)) (hs:=qak (by omega)) r
 rcases qaS (fun k=>1≤k→∀ a b,T.list[k-1]?=some a→T.list[k]?=some b→idN l a<idN l b) T.list.length with h | ⟨k,hk,hb,hf⟩
 ·have hup:(T.list.map (idN l)).Pairwise (· < ·):=qf5 fun j p q hp hq=>h (j+1) (qal hq) (by omega) p q hp hq
  rw[qe0 (x:=⟨rt,l⟩) ⟨by show l.length≤64;omega,fun p hp=>(hgd p hp).2.2,T,hT,hall,hup⟩]
  have r1:Rl 1 1 34 1 96 3 (qrH (wL T) 1) (qrI rt l (wL T)) (.exit 2) [] []:=by
   rcases Nat.eq_zero_or_pos T.list.length with h0 | h0
   ·exact qhh (hlt:=df (by omega))
   ·exact step T.list.length h0 (Nat.le_refl _) (fun j j1 j2=>h j j2 j1) (qhh (hlt:=df (by omega)))
  rcases he with ⟨e1,e2⟩ | ⟨e1,e2⟩
  ·exact qnZ (hm:=hm') (hl:=hL) (hr:=e1) (h0:=e2) (r0:=r0) (ho:=ho) (hrc:=hre2) (hw:=hw) (r1:=r1)
  ·exact qnX (hm:=hm') (hl:=hL) (hr:=e1) (h0:=e2) (r0:=r0) (ho:=ho) (hrc:=hre2) (hw:=hw) (r1:=r1)
 ·simp only[Classical.not_forall] at hb
  obtain⟨k1,a,b,ha,hb,hlt⟩:=hb
  rw[no fun ⟨_,_,T',hT'⟩=>hlt (by
   have e:=hT.uniq hT'.rep
   subst e
   exact qi6 hT'.up ha (by rw[show k-1+1=k by omega];exact hb))]
  obtain⟨u,p,hu,hp,hul⟩:=at2 (k-1) (by omega)
  obtain⟨v,q,hv,hq,hvl⟩:=at2 k (by omega)
  rw[ha] at hu
  rw[hb] at hv
  cases hu
  cases hv
  rw[qaw hp,qaw hq] at hlt
  have r1:=step k k1 (by omega) (fun j j1 j2=>hf j j2 j1) (qkT (j:=k-1) (hlt:=dt (by omega)) (hs1:=by rw[qhX (by omega) (by omega)];congr 1;omega) (hji:=⟨by omega,by omega⟩) (hgj:=qfL ha) (hyi:=⟨by omega,by omega⟩) (hp:=hp) (hki:=⟨by omega,by omega⟩) (hgk:=qfL hb) (hzi:=⟨by omega,by omega⟩) (hq:=hq) (hc:=dt (by omega)))
  rcases he with ⟨e1,e2⟩ | ⟨e1,e2⟩
  ·exact qmr (hm:=hm') (hl:=hL) (hr:=e1) (h0:=e2) (r0:=r0) (ho:=ho) (hrc:=hre2) (hw:=hw) (r1:=r1)
  ·exact qkO (hm:=hm') (hl:=hL) (hr:=e1) (h0:=e2) (r0:=r0) (ho:=ho) (hrc:=hre2) (hw:=hw) (r1:=r1)
end
end Go.Proofs.Ytalnjplghagbpaa
