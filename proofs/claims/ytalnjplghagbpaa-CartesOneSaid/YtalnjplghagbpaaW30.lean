/-
  Joined: Dd, De, Dc, Uu. Conditions: none.
-/
import Derived.Test.YtalnjplghagbpaaW29
import Derived.Test.YtalnjplghagbpaaW19
import Derived.Test.YtalnjplghagbpaaSxP
import Derived.Test.YtalnjplghagbpaaW24
import Derived.Test.YtalnjplghagbpaaW28
namespace Go.Proofs.Ytalnjplghagbpaa
set_option maxRecDepth 100000
open Go.RowKit
abbrev qt0 (l:List Pt) (rt:Int):Prop:=Fn 96 1 [trS 0 rt l,.pv (iV (rt)),.pv (.slice none 0 0)] [(0,0,qab l)] (.pv (.slice none 0 0)) 0 []
theorem qow {rt:Int} {l:List Pt} (hw:qt0 l rt) :
 Fn 73 1 [trS 0 rt l] [(0,0,qab l)] (.pv (.slice none 0 0)) 0 []:=
 Fz [] [Cf hw [0]]
  tI (Co hw [0] 2 tI)
abbrev qpC (g:List Int) (l:List Pt) (rt:Int):Prop:=Fn 96 1 [trS 0 rt l,.pv (iV (rt)),.pv (.slice none 0 0)] [(0,0,qab l)] (.ls 1 g.length) 1 [(1,0,zrI g)]
theorem qrq {rt:Int} {l:List Pt} {g:List Int} (hw:qpC g l rt) :
 Fn 73 1 [trS 0 rt l] [(0,0,qab l)] (.ls 1 g.length) 1 [(1,0,zrI g)]:=
 Fz [(1,2)] [Cf hw [0]]
  (qan (qaC [(1,2)]) [(1,0,zrI g)]) (Co hw [0] 2 tI)
theorem qor {rt:Int} {l:List Pt} (hw:qt0 l rt) (he:((0:Int)==(l.length:Int))=true) :
 Fn 72 1 [trS 0 rt l] [(0,0,qab l)] (.pv (.bool true)) 0 []:=
 Fz [] [.md,Cf hw [0],.t true]
  tI (Co hw [0] 2 (Ai he tI))
theorem qmt {rt:Int} {l:List Pt} (hw:qt0 l rt) (he:((0:Int)==(l.length:Int))=false) :
 Fn 72 1 [trS 0 rt l] [(0,0,qab l)] (.pv (.bool false)) 0 []:=
 Fz [] [.md,Cf hw [0],.t false]
  tI (Co hw [0] 2 (Ai he tI))
theorem ql9 {rt:Int} {l:List Pt} {g:List Int} (hw:qpC g l rt) (he:((g.length:Int)==(l.length:Int))=true) :
 Fn 72 1 [trS 0 rt l] [(0,0,qab l)] (.pv (.bool true)) 0 []:=
 Fz [] [.md,Cf hw [0],.t true]
  tI (Co hw [0] 2 (Ai he tI))
theorem qkJ {rt:Int} {l:List Pt} {g:List Int} (hw:qpC g l rt) (he:((g.length:Int)==(l.length:Int))=false) :
 Fn 72 1 [trS 0 rt l] [(0,0,qab l)] (.pv (.bool false)) 0 []:=
 Fz [] [.md,Cf hw [0],.t false]
  tI (Co hw [0] 2 (Ai he tI))
theorem qlH {rt z:Int} {l:List Pt} {p:Pt} {g:List Int} {k n:Nat} {vs:List Value} (hlt:decide ((k:Int)<(g.length:Int))=true) (hin:0≤(k:Int)∧(k:Int)<(g.length:Int)) (hg:g[k]?=some z) (hiz:0≤z∧z<(l.length:Int)) (hk:l[z.toNat]?=some p) (hn:n+1≤1000000) (hs:iV (IntKind.i64.wrap ((k:Int)+1))=iV (((k+1:Nat):Int))) {e:Exit} {tm2:TmL} {hp2:HpL}
 (r:Rl 1 1 66 0 27 4 ([(1,.pp 1 0),(3,.ls 3 (n+1)),(4,.ls 2 g.length),(5,.pv (iV ((k+1:Nat):Int)))]) ([(1,0,.pv (iV rt)),(1,1,.ls 0 l.length),(0,0,qab l),(2,0,zrI g),(3,0,.row 3 1 (n+1) (vs++[iV p.id]))]) e tm2 hp2):Rl 1 1 66 0 27 4 ([(1,.pp 1 0),(3,.ls 3 n),(4,.ls 2 g.length),(5,.pv (iV (k:Int)))]) ([(1,0,.pv (iV rt)),(1,1,.ls 0 l.length),(0,0,qab l),(2,0,zrI g),(3,0,.row 3 1 n (vs))]) e tm2 hp2:=
 RunsL.next [(3,5)] 300 [.t true,.md,.r (iV z),.r (iV p.id),Re hs]
  (Ro (Ai hlt (Ai hin (Ai (qe7 hg) (Ai hiz (Ai (qaH hk) (Ai hn (Ai hs tI)))))))) r
theorem qn7 {rt:Int} {l:List Pt} {g:List Int} {k n:Nat} {vs:List Value} (hlt:decide ((k:Int)<(g.length:Int))=false):Rl 1 1 66 0 27 4 ([(1,.pp 1 0),(3,.ls 3 n),(4,.ls 2 g.length),(5,.pv (iV (k:Int)))]) ([(1,0,.pv (iV rt)),(1,1,.ls 0 l.length),(0,0,qab l),(2,0,zrI g),(3,0,.row 3 1 n (vs))]) (.exit 0) ([(3,.ls 3 n)]) ([(3,0,.row 3 1 n (vs))]):=
 RunsL.stop [] 300 [.t false] (fun h=>by cases h)
  (Ro (Ai hlt tI))
abbrev qqY (g:List Int) (l:List Pt) (rt:Int):Prop:=Fn 73 1 [trS 0 rt l] [(0,0,qab l)] (.ls 1 g.length) 1 [(1,0,zrI g)]
theorem qrB {rt:Int} {l:List Pt} {g:List Int} {n:Nat} {vs:List Value} (hw:qqY g l rt) (r0:Rl 1 1 66 0 27 4 ([(1,.pp 1 0),(3,.ls 3 0),(4,.ls 2 g.length),(5,.pv (iV ((0:Nat):Int)))]) ([(1,0,.pv (iV rt)),(1,1,.ls 0 l.length),(0,0,qab l),(2,0,zrI g),(3,0,.row 3 1 0 ([]))]) (.exit 0) ([(3,.ls 3 n)]) ([(3,0,.row 3 1 n (vs))])) :
 Fn 66 1 [trS 0 rt l] [(0,0,qab l)] (.ls 1 n) 1 [(1,0,.row 3 1 n (vs))]:=
 Fz [(1,3)] [Cf hw [0],.ln true 3 0 3 1,Lf r0]
  (qan (qaC [(1,3)]) [(1,0,.row 3 1 n (vs))]) (Co hw [0] 2 (Lo r0 [] tI))
theorem qlT {rt:Int} {l:List Pt} (hm:decide ((l.length:Int)>64)=true) :
 Fn 34 1 [trS 0 rt l] [(0,0,qab l)] (.pv (iV (4))) 0 []:=
 Fz [] [.t true]
  tI (Ai hm tI)
theorem qlF {rt:Int} {l:List Pt} (hm:decide ((l.length:Int)>64)=false) (hl:Fn 70 1 [trS 0 rt l,.pv (iV (rt))] [(0,0,qab l)] (.pv (.bool false)) 0 []) :
 Fn 34 1 [trS 0 rt l] [(0,0,qab l)] (.pv (iV (8))) 0 []:=
 Fz [] [.t false,Cf hl [0],.k]
  tI (Ai hm (Co hl [0] 2 tI))
abbrev qiD (l:List Pt) (rt:Int):Prop:=Fn 70 1 [trS 0 rt l,.pv (iV (rt))] [(0,0,qab l)] (.pv (.bool true)) 0 []
theorem qkl {rt:Int} {l:List Pt} (hm:decide ((l.length:Int)>64)=false) (hl:qiD l rt) (hr:(rt==(-1))=true) (h0:((l.length:Int)==0)=false) :
 Fn 34 1 [trS 0 rt l] [(0,0,qab l)] (.pv (iV (8))) 0 []:=
 Fz [] [.t false,Cf hl [0],.k,.t true,.t false,.k]
  tI (Ai hm (Co hl [0] 2 (Ai hr (Ai h0 tI))))
theorem qic {rt:Int} {l:List Pt} (hm:decide ((l.length:Int)>64)=false) (hl:qiD l rt) (hr:(rt==(-1))=false) (h0:((l.length:Int)==0)=true) :
 Fn 34 1 [trS 0 rt l] [(0,0,qab l)] (.pv (iV (8))) 0 []:=
 Fz [] [.t false,Cf hl [0],.k,.t false,.t true,.k]
  tI (Ai hm (Co hl [0] 2 (Ai hr (Ai h0 tI))))
abbrev qmn (l:List Pt) (rt:Int):HpL:=[(1,0,.pv (iV rt)),(1,1,.ls 0 l.length),(0,0,qab l)]
abbrev qim (k:Nat):TmL:=[(1,.pp 1 0),(3,.pv (iV (k:Int)))]
theorem qrP {rt:Int} {l:List Pt} {p:Pt} {k:Nat} (hlt:decide ((k:Int)<(l.length:Int))=true) (hk:l[k]?=some p) (hin:0≤(k:Int)∧(k:Int)<(l.length:Int)) (ha:Fn 70 1 [trS 0 rt l,.pv (iV (p.a))] [(0,0,qab l)] (.pv (.bool false)) 0 []):Rl 1 1 34 0 96 2 (qim k) (qmn l rt) (.ret) ([(2,.pv (iV 8))]) ([]):=
 RunsL.stop [] 300 [.t true,.r (ptV p),Cf ha [0],.k] (fun h=>by cases h)
  (Ro (Ai hlt (Ai hin (Ai (qbc hk) (Co ha [0] 3 tI)))))
abbrev qsL (l:List Pt) (p:Pt) (rt:Int):Prop:=Fn 70 1 [trS 0 rt l,.pv (iV (p.a))] [(0,0,qab l)] (.pv (.bool true)) 0 []
theorem qrj {rt:Int} {l:List Pt} {p:Pt} {k:Nat} (hlt:decide ((k:Int)<(l.length:Int))=true) (hk:l[k]?=some p) (hin:0≤(k:Int)∧(k:Int)<(l.length:Int)) (ha:qsL l p rt) (hb:Fn 70 1 [trS 0 rt l,.pv (iV (p.b))] [(0,0,qab l)] (.pv (.bool false)) 0 []):Rl 1 1 34 0 96 2 (qim k) (qmn l rt) (.ret) ([(2,.pv (iV 8))]) ([]):=
 RunsL.stop [] 300 [.t true,.r (ptV p),Cf ha [0],.k,Cf hb [0],.k] (fun h=>by cases h)
  (Ro (Ai hlt (Ai hin (Ai (qbc hk) (Co ha [0] 3 (Co hb [0] 3 tI))))))
abbrev qoI (l:List Pt) (p:Pt) (rt:Int):Prop:=Fn 70 1 [trS 0 rt l,.pv (iV (p.b))] [(0,0,qab l)] (.pv (.bool true)) 0 []
theorem qrH {rt:Int} {l:List Pt} {p:Pt} {k:Nat} (hlt:decide ((k:Int)<(l.length:Int))=true) (hk:l[k]?=some p) (hin:0≤(k:Int)∧(k:Int)<(l.length:Int)) (ha:qsL l p rt) (hb:qoI l p rt) (h1:decide (p.id<0)=true):Rl 1 1 34 0 96 2 (qim k) (qmn l rt) (.ret) ([(2,.pv (iV 8))]) ([]):=
 RunsL.stop [] 300 [.t true,.r (ptV p),Cf ha [0],.k,Cf hb [0],.k,.t true] (fun h=>by cases h)
  (Ro (Ai hlt (Ai hin (Ai (qbc hk) (Co ha [0] 3 (Co hb [0] 3 (Ai h1 tI)))))))
theorem qqN {rt:Int} {l:List Pt} {p:Pt} {k:Nat} (hlt:decide ((k:Int)<(l.length:Int))=true) (hk:l[k]?=some p) (hin:0≤(k:Int)∧(k:Int)<(l.length:Int)) (ha:qsL l p rt) (hb:qoI l p rt) (h1:decide (p.id<0)=false) (h2:decide (p.id>65535)=true):Rl 1 1 34 0 96 2 (qim k) (qmn l rt) (.ret) ([(2,.pv (iV 8))]) ([]):=
 RunsL.stop [] 300 [.t true,.r (ptV p),Cf ha [0],.k,Cf hb [0],.k,.t false,.t true] (fun h=>by cases h)
  (Ro (Ai hlt (Ai hin (Ai (qbc hk) (Co ha [0] 3 (Co hb [0] 3 (Ai h1 (Ai h2 tI))))))))
theorem ql1 {rt:Int} {l:List Pt} {p:Pt} {k:Nat} (hlt:decide ((k:Int)<(l.length:Int))=true) (hk:l[k]?=some p) (hin:0≤(k:Int)∧(k:Int)<(l.length:Int)) (ha:qsL l p rt) (hb:qoI l p rt) (h1:decide (p.id<0)=false) (h2:decide (p.id>65535)=false) (hs:iV (IntKind.i64.wrap ((k:Int)+1))=iV (((k+1:Nat):Int))) {e:Exit} {tm2:TmL} {hp2:HpL}
 (r:Rl 1 1 34 0 96 2 ([(1,.pp 1 0),(3,.pv (iV ((k+1:Nat):Int)))]) (qmn l rt) e tm2 hp2):Rl 1 1 34 0 96 2 (qim k) (qmn l rt) e tm2 hp2:=
 RunsL.next [] 300 [.t true,.r (ptV p),Cf ha [0],.k,Cf hb [0],.k,.t false,.t false,Re hs]
  (Ro (Ai hlt (Ai hin (Ai (qbc hk) (Co ha [0] 3 (Co hb [0] 3 (Ai h1 (Ai h2 (Ai hs tI))))))))) r
theorem qpj {rt:Int} {l:List Pt} {k:Nat} (hlt:decide ((k:Int)<(l.length:Int))=false):Rl 1 1 34 0 96 2 (qim k) (qmn l rt) (.exit 0) ([(1,.pp 1 0)]) (qmn l rt):=
 RunsL.stop [] 300 [.t false] (fun h=>by cases h)
  (Ro (Ai hlt tI))
abbrev qnh (g:List Int) (l:List Pt) (rt:Int):HpL:=[(1,0,.pv (iV rt)),(1,1,.ls 0 l.length),(0,0,qab l),(2,0,zrI g)]
theorem qj4 {rt y z:Int} {l:List Pt} {p q:Pt} {g:List Int} {j k:Nat} (hlt:decide ((k:Int)<(g.length:Int))=true) (hs1:iV (IntKind.i64.wrap ((k:Int)-1))=iV (j:Int)) (hji:0≤(j:Int)∧(j:Int)<(g.length:Int)) (hgj:g[j]?=some y) (hyi:0≤y∧y<(l.length:Int)) (hp:l[y.toNat]?=some p) (hki:0≤(k:Int)∧(k:Int)<(g.length:Int)) (hgk:g[k]?=some z) (hzi:0≤z∧z<(l.length:Int)) (hq:l[z.toNat]?=some q) (hc:decide (p.id≥q.id)=false) (hs:iV (IntKind.i64.wrap ((k:Int)+1))=iV (((k+1:Nat):Int))) {e:Exit} {tm2:TmL} {hp2:HpL}
 (r:Rl 1 1 34 1 96 3 ([(1,.pp 1 0),(5,.ls 2 g.length),(6,.pv (iV ((k+1:Nat):Int)))]) (qnh g l rt) e tm2 hp2):Rl 1 1 34 1 96 3 ([(1,.pp 1 0),(5,.ls 2 g.length),(6,.pv (iV (k:Int)))]) (qnh g l rt) e tm2 hp2:=
 RunsL.next [] 300 [.t true,Re hs1,.r (iV y),.r (iV p.id),.r (iV z),.r (iV q.id),.t false,Re hs]
  (Ro (Ai hlt (Ai hs1 (Ai hji (Ai (qe7 hgj) (Ai hyi (Ai (qaH hp) (Ai hki (Ai (qe7 hgk) (Ai hzi (Ai (qaH hq) (Ai hc (Ai hs tI))))))))))))) r
theorem qmk {rt y z:Int} {l:List Pt} {p q:Pt} {g:List Int} {j k:Nat} (hlt:decide ((k:Int)<(g.length:Int))=true) (hs1:iV (IntKind.i64.wrap ((k:Int)-1))=iV (j:Int)) (hji:0≤(j:Int)∧(j:Int)<(g.length:Int)) (hgj:g[j]?=some y) (hyi:0≤y∧y<(l.length:Int)) (hp:l[y.toNat]?=some p) (hki:0≤(k:Int)∧(k:Int)<(g.length:Int)) (hgk:g[k]?=some z) (hzi:0≤z∧z<(l.length:Int)) (hq:l[z.toNat]?=some q) (hc:decide (p.id≥q.id)=true):Rl 1 1 34 1 96 3 ([(1,.pp 1 0),(5,.ls 2 g.length),(6,.pv (iV (k:Int)))]) (qnh g l rt) (.ret) ([(2,.pv (iV 8))]) ([]):=
 RunsL.stop [] 300 [.t true,Re hs1,.r (iV y),.r (iV p.id),.r (iV z),.r (iV q.id),.t true] (fun h=>by cases h)
  (Ro (Ai hlt (Ai hs1 (Ai hji (Ai (qe7 hgj) (Ai hyi (Ai (qaH hp) (Ai hki (Ai (qe7 hgk) (Ai hzi (Ai (qaH hq) (Ai hc tI))))))))))))
theorem qgN {rt:Int} {l:List Pt} {g:List Int} {k:Nat} (hlt:decide ((k:Int)<(g.length:Int))=false):Rl 1 1 34 1 96 3 ([(1,.pp 1 0),(5,.ls 2 g.length),(6,.pv (iV (k:Int)))]) (qnh g l rt) (.exit 2) ([]) ([]):=
 RunsL.stop [] 300 [.t false] (fun h=>by cases h)
  (Ro (Ai hlt tI))
abbrev qru (l:List Pt) (rt:Int):Prop:=Rl 1 1 34 0 96 2 ([(1,.pp 1 0),(3,.pv (iV ((0:Nat):Int)))]) (qmn l rt) (.ret) ([(2,.pv (iV 8))]) ([])
theorem qlJ {rt:Int} {l:List Pt} (hm:decide ((l.length:Int)>64)=false) (hl:qiD l rt) (hr:(rt==(-1))=true) (h0:((l.length:Int)==0)=true) (r0:qru l rt) :
 Fn 34 1 [trS 0 rt l] [(0,0,qab l)] (.pv (iV (8))) 0 []:=
 Fz [] [.t false,Cf hl [0],.k,.t true,.t true,.k,Lf r0]
  tI (Ai hm (Co hl [0] 2 (Ai hr (Ai h0 (Lo r0 [] tI)))))
abbrev qns (l:List Pt) (rt:Int):Prop:=Rl 1 1 34 0 96 2 ([(1,.pp 1 0),(3,.pv (iV ((0:Nat):Int)))]) ([(1,0,.pv (iV rt)),(1,1,.ls 0 l.length),(0,0,qab l)]) (.exit 0) ([(1,.pp 1 0)]) ([(1,0,.pv (iV rt)),(1,1,.ls 0 l.length),(0,0,qab l)])
theorem qj7 {rt:Int} {l:List Pt} (hm:decide ((l.length:Int)>64)=false) (hl:qiD l rt) (hr:(rt==(-1))=true) (h0:((l.length:Int)==0)=true) (r0:qns l rt) (ho:Fn 71 1 [trS 0 rt l] [(0,0,qab l)] (.pv (.bool false)) 0 []) :
 Fn 34 1 [trS 0 rt l] [(0,0,qab l)] (.pv (iV (8))) 0 []:=
 Fz [] [.t false,Cf hl [0],.k,.t true,.t true,.k,Lf r0,Cf ho [0],.k]
  tI (Ai hm (Co hl [0] 2 (Ai hr (Ai h0 (Lo r0 [] (Co ho [0] 2 tI))))))
abbrev qql (l:List Pt) (rt:Int):Prop:=Fn 71 1 [trS 0 rt l] [(0,0,qab l)] (.pv (.bool true)) 0 []
theorem qif {rt:Int} {l:List Pt} (hm:decide ((l.length:Int)>64)=false) (hl:qiD l rt) (hr:(rt==(-1))=true) (h0:((l.length:Int)==0)=true) (r0:qns l rt) (ho:qql l rt) (hrc:Fn 72 1 [trS 0 rt l] [(0,0,qab l)] (.pv (.bool false)) 0 []) :
 Fn 34 1 [trS 0 rt l] [(0,0,qab l)] (.pv (iV (8))) 0 []:=
 Fz [] [.t false,Cf hl [0],.k,.t true,.t true,.k,Lf r0,Cf ho [0],.k,Cf hrc [0],.k]
  tI (Ai hm (Co hl [0] 2 (Ai hr (Ai h0 (Lo r0 [] (Co ho [0] 2 (Co hrc [0] 2 tI)))))))
abbrev qm1 (g:List Int):TmL:=[(1,.pp 1 0),(5,.ls 2 g.length),(6,.pv (iV ((1:Nat):Int)))]
abbrev qlp (l:List Pt) (rt:Int):Prop:=Fn 72 1 [trS 0 rt l] [(0,0,qab l)] (.pv (.bool true)) 0 []
theorem qmU {rt:Int} {l:List Pt} {g:List Int} (hm:decide ((l.length:Int)>64)=false) (hl:qiD l rt) (hr:(rt==(-1))=true) (h0:((l.length:Int)==0)=true) (r0:qns l rt) (ho:qql l rt) (hrc:qlp l rt) (hw:qqY g l rt) (r1:Rl 1 1 34 1 96 3 (qm1 g) (qnh g l rt) (.ret) ([(2,.pv (iV 8))]) ([])) :
 Fn 34 1 [trS 0 rt l] [(0,0,qab l)] (.pv (iV (8))) 0 []:=
 Fz [] [.t false,Cf hl [0],.k,.t true,.t true,.k,Lf r0,Cf ho [0],.k,Cf ho [0],.k,Cf hw [0],Lf r1]
  tI (Ai hm (Co hl [0] 2 (Ai hr (Ai h0 (Lo r0 [] (Co ho [0] 2 (Co hrc [0] 2 (Co hw [0] 2 (Lo r1 [] tI)))))))))
theorem qoc {rt:Int} {l:List Pt} {g:List Int} (hm:decide ((l.length:Int)>64)=false) (hl:qiD l rt) (hr:(rt==(-1))=true) (h0:((l.length:Int)==0)=true) (r0:qns l rt) (ho:qql l rt) (hrc:qlp l rt) (hw:qqY g l rt) (r1:Rl 1 1 34 1 96 3 (qm1 g) (qnh g l rt) (.exit 2) ([]) ([])) :
 Fn 34 1 [trS 0 rt l] [(0,0,qab l)] (.pv (iV (0))) 0 []:=
 Fz [] [.t false,Cf hl [0],.k,.t true,.t true,.k,Lf r0,Cf ho [0],.k,Cf ho [0],.k,Cf hw [0],Lf r1]
  tI (Ai hm (Co hl [0] 2 (Ai hr (Ai h0 (Lo r0 [] (Co ho [0] 2 (Co hrc [0] 2 (Co hw [0] 2 (Lo r1 [] tI)))))))))
theorem qmh {rt:Int} {l:List Pt} (hm:decide ((l.length:Int)>64)=false) (hl:qiD l rt) (hr:(rt==(-1))=false) (h0:((l.length:Int)==0)=false) (r0:qru l rt) :
 Fn 34 1 [trS 0 rt l] [(0,0,qab l)] (.pv (iV (8))) 0 []:=
 Fz [] [.t false,Cf hl [0],.k,.t false,.t false,.k,Lf r0]
  tI (Ai hm (Co hl [0] 2 (Ai hr (Ai h0 (Lo r0 [] tI)))))
theorem qkk {rt:Int} {l:List Pt} (hm:decide ((l.length:Int)>64)=false) (hl:qiD l rt) (hr:(rt==(-1))=false) (h0:((l.length:Int)==0)=false) (r0:qns l rt) (ho:Fn 71 1 [trS 0 rt l] [(0,0,qab l)] (.pv (.bool false)) 0 []) :
 Fn 34 1 [trS 0 rt l] [(0,0,qab l)] (.pv (iV (8))) 0 []:=
 Fz [] [.t false,Cf hl [0],.k,.t false,.t false,.k,Lf r0,Cf ho [0],.k]
  tI (Ai hm (Co hl [0] 2 (Ai hr (Ai h0 (Lo r0 [] (Co ho [0] 2 tI))))))
theorem qhH {rt:Int} {l:List Pt} (hm:decide ((l.length:Int)>64)=false) (hl:qiD l rt) (hr:(rt==(-1))=false) (h0:((l.length:Int)==0)=false) (r0:qns l rt) (ho:qql l rt) (hrc:Fn 72 1 [trS 0 rt l] [(0,0,qab l)] (.pv (.bool false)) 0 []) :
 Fn 34 1 [trS 0 rt l] [(0,0,qab l)] (.pv (iV (8))) 0 []:=
 Fz [] [.t false,Cf hl [0],.k,.t false,.t false,.k,Lf r0,Cf ho [0],.k,Cf hrc [0],.k]
  tI (Ai hm (Co hl [0] 2 (Ai hr (Ai h0 (Lo r0 [] (Co ho [0] 2 (Co hrc [0] 2 tI)))))))
theorem qlV {rt:Int} {l:List Pt} {g:List Int} (hm:decide ((l.length:Int)>64)=false) (hl:qiD l rt) (hr:(rt==(-1))=false) (h0:((l.length:Int)==0)=false) (r0:qns l rt) (ho:qql l rt) (hrc:qlp l rt) (hw:qqY g l rt) (r1:Rl 1 1 34 1 96 3 (qm1 g) (qnh g l rt) (.ret) ([(2,.pv (iV 8))]) ([])) :
 Fn 34 1 [trS 0 rt l] [(0,0,qab l)] (.pv (iV (8))) 0 []:=
 Fz [] [.t false,Cf hl [0],.k,.t false,.t false,.k,Lf r0,Cf ho [0],.k,Cf ho [0],.k,Cf hw [0],Lf r1]
  tI (Ai hm (Co hl [0] 2 (Ai hr (Ai h0 (Lo r0 [] (Co ho [0] 2 (Co hrc [0] 2 (Co hw [0] 2 (Lo r1 [] tI)))))))))
theorem qpS {rt:Int} {l:List Pt} {g:List Int} (hm:decide ((l.length:Int)>64)=false) (hl:qiD l rt) (hr:(rt==(-1))=false) (h0:((l.length:Int)==0)=false) (r0:qns l rt) (ho:qql l rt) (hrc:qlp l rt) (hw:qqY g l rt) (r1:Rl 1 1 34 1 96 3 (qm1 g) (qnh g l rt) (.exit 2) ([]) ([])) :
 Fn 34 1 [trS 0 rt l] [(0,0,qab l)] (.pv (iV (0))) 0 []:=
 Fz [] [.t false,Cf hl [0],.k,.t false,.t false,.k,Lf r0,Cf ho [0],.k,Cf ho [0],.k,Cf hw [0],Lf r1]
  tI (Ai hm (Co hl [0] 2 (Ai hr (Ai h0 (Lo r0 [] (Co ho [0] 2 (Co hrc [0] 2 (Co hw [0] 2 (Lo r1 [] tI)))))))))
abbrev qsK (n:Nat) (s:List Pt) (td:Int) (tn:Int) (vs:List Value):HpL:=[(1,0,.ls 0 s.length),(2,0,.pv (iV tn)),(2,1,.pv (iV td)),(3,0,.pv (iV 0)),(3,1,.pv (.slice none 0 0)),(4,0,.pv (iV 0)),(4,1,.ls 5 n),(0,0,qag s),(5,0,.row 26 3 n (vs))]
theorem qlL {tn td:Int} {s:List Pt} {p:Pt} {k n:Nat} {vs:List Value} (hlt:decide ((k:Int)<(s.length:Int))=true) (hk:s[k]?=some p) (hin:0≤(k:Int)∧(k:Int)<(s.length:Int)) (hn:n+1≤1000000) (hs:iV (IntKind.i64.wrap ((k:Int)+1))=iV (((k+1:Nat):Int))) {e:Exit} {tm2:TmL} {hp2:HpL}
 (r:Rl 1 1 65 0 35 6 ([(2,.pp 1 0),(3,.pp 2 0),(4,.pp 3 0),(5,.pp 4 0),(6,.pv (iV ((k+1:Nat):Int)))]) ([(1,0,.ls 0 s.length),(2,0,.pv (iV tn)),(2,1,.pv (iV td)),(3,0,.pv (iV 0)),(3,1,.pv (.slice none 0 0)),(4,0,.pv (iV 0)),(4,1,.ls 5 (n+1)),(0,0,qag s),(5,0,.row 26 3 (n+1) (vs++[iV p.id,iV 0,iV 0]))]) e tm2 hp2):Rl 1 1 65 0 35 6 ([(2,.pp 1 0),(3,.pp 2 0),(4,.pp 3 0),(5,.pp 4 0),(6,.pv (iV (k:Int)))]) (qsK n s td tn vs) e tm2 hp2:=
 RunsL.next [(5,7)] 300 [.t true,.md,.r (iV p.id),Re hs]
  (Ro (Ai hlt (Ai hin (Ai (qa1 hk) (Ai hn (Ai hs tI)))))) r
theorem qpM {tn td:Int} {s:List Pt} {k n:Nat} {vs:List Value} (hlt:decide ((k:Int)<(s.length:Int))=false):Rl 1 1 65 0 35 6 ([(2,.pp 1 0),(3,.pp 2 0),(4,.pp 3 0),(5,.pp 4 0),(6,.pv (iV (k:Int)))]) (qsK n s td tn vs) (.exit 0) ([(2,.pp 1 0),(3,.pp 2 0),(4,.pp 3 0),(5,.pp 4 0)]) (qsK n s td tn vs):=
 RunsL.stop [] 300 [.t false] (fun h=>by cases h)
  (Ro (Ai hlt tI))
theorem qll {z tn td:Int} {s n1:List Pt} {n:Nat} {vs:List Value} (r0:Rl 1 1 65 0 35 6 ([(2,.pp 1 0),(3,.pp 2 0),(4,.pp 3 0),(5,.pp 4 0),(6,.pv (iV ((0:Nat):Int)))]) ([(1,0,.ls 0 s.length),(2,0,.pv (iV tn)),(2,1,.pv (iV td)),(3,0,.pv (iV 0)),(3,1,.pv (.slice none 0 0)),(4,0,.pv (iV 0)),(4,1,.ls 5 0),(0,0,qag s),(5,0,.row 26 3 0 ([]))]) (.exit 0) ([(2,.pp 1 0),(3,.pp 2 0),(4,.pp 3 0),(5,.pp 4 0)]) (qsK n s td tn vs)) (hg:FnO Try.prog 94 1 2 [qax 0 s,.pv (qaa tn td),.ag [.pv (iV 0),.ls 1 n],.pv (iV (0)),.pv (iV (s.length:Int))] [(0,0,qag s),(1,0,.row 26 3 n (vs))] (.pv (iV (z))) 0 [(1,0,.row 26 3 n (qao n1))]) :
 Fn 65 1 [qax 0 s,.pv (qaa tn td)] [(0,0,qag s)] (.ag [.pv (iV z),.ls 1 n]) 1 [(1,0,.row 26 3 n (qao n1))]:=
 Fz [(1,5)] [.ln false 4 1 26 3,Lf r0,.fo 1 [0,5] [qax 0 s,.pv (qaa tn td),.ag [.pv (iV 0),.ls 1 n],.pv (iV (0)),.pv (iV (s.length:Int))] [(0,0,qag s),(1,0,.row 26 3 n (vs))] (.pv (iV (z))) 0 [(1,0,.row 26 3 n (qao n1))]]
  (qan (qaC [(1,5)]) [(1,0,.row 26 3 n (qao n1))]) (Lo r0 [] (Ai hg (Ai (Eq.refl (List.map (SV.ren (qar [0,5] 6)) [qax 0 s,.pv (qaa tn td),.ag [.pv (iV 0),.ls 1 n],.pv (iV (0)),.pv (iV (s.length:Int))])) (Ai (qan (qar [0,5] 6) [(0,0,qag s),(1,0,.row 26 3 n (vs))]) tI))))
end Go.Proofs.Ytalnjplghagbpaa

namespace Go.Proofs.Ytalnjplghagbpaa
set_option maxRecDepth 100000
open Go.RowKit
theorem qjm {tn td e:Int} {s:List Pt} (ht:Fn 64 1 [qax 0 s,.pv (qaa tn td)] [(0,0,qag s)] (.pv (iV (e))) 0 []) (hte:(e !=0)=true) :
 Fn 29 1 [qax 0 s,.pv (qaa tn td)] [(0,0,qag s)] (.pv (.tuple #[.agg #[iV 0,.slice none 0 0],iV (e)])) 0 []:=
 Fz [] [Cf ht [0],.t true]
  tI (Co ht [0] 4 (Ai hte tI))
theorem qoN {tn td e:Int} {s n1:List Pt} {r1:Int} (ht:Fn 64 1 [qax 0 s,.pv (qaa tn td)] [(0,0,qag s)] (.pv (iV (e))) 0 []) (hte:(e !=0)=false) (hm:Fn 65 1 [qax 0 s,.pv (qaa tn td)] [(0,0,qag s)] (.ag [.pv (iV r1),.ls 1 n1.length]) 1 [(1,0,qab n1)]) :
 Fn 29 1 [qax 0 s,.pv (qaa tn td)] [(0,0,qag s)] (.tu [.ag [.pv (iV r1),.ls 1 n1.length],.one (.pv (iV 0))]) 1 [(1,0,qab n1)]:=
 Fz [(1,4)] [Cf ht [0],.t false,Cf hm [0]]
  (qan (qaC [(1,4)]) [(1,0,qab n1)]) (Co ht [0] 4 (Ai hte (Co hm [0] 4 tI)))
theorem quE {rt x:Int} {l m:List Pt} {w:Bool} (hal:Fn 95 2 [trS 0 rt l,trS 1 x m,.pv (iV (rt)),.pv (iV (x))] [(0,0,qab l),(1,0,qab m)] (.pv (.bool w)) 0 []) :
 Fn 67 2 [trS 0 rt l,trS 1 x m] [(0,0,qab l),(1,0,qab m)] (.pv (.bool w)) 0 []:=
 Fz [] [Cf hal [0,1]]
  tI (Co hal [0,1] 4 tI)
abbrev ql8 (e1:Int) (l:List Pt) (rt:Int):Prop:=Fn 34 1 [trS 0 rt l] [(0,0,qab l)] (.pv (iV (e1))) 0 []
theorem qtQ {rt tn td e1:Int} {s l:List Pt} (hc:ql8 e1 l rt) (hce:(e1 !=0)=true) :
 Fn 31 2 [trS 0 rt l,qax 1 s,.pv (qaa tn td)] [(0,0,qab l),(1,0,qag s)] (.pv (.tuple #[.bool false,iV (e1)])) 0 []:=
 Fz [] [Cf hc [0],.t true]
  tI (Co hc [0] 5 (Ai hce tI))
theorem qrs {rt tn td e e1:Int} {s l:List Pt} (hc:ql8 e1 l rt) (hce:(e1 !=0)=false) (ht:Fn 64 1 [qax 0 s,.pv (qaa tn td)] [(0,0,qag s)] (.pv (iV (e))) 0 []) (hte:(e !=0)=true) :
 Fn 31 2 [trS 0 rt l,qax 1 s,.pv (qaa tn td)] [(0,0,qab l),(1,0,qag s)] (.pv (.tuple #[.bool false,iV (e)])) 0 []:=
 Fz [] [Cf hc [0],.t false,Cf ht [1],.t true]
  tI (Co hc [0] 5 (Ai hce (Co ht [1] 5 (Ai hte tI))))
theorem qrC {rt tn td e e1:Int} {s l n1:List Pt} {w:Bool} {r1:Int} (hc:ql8 e1 l rt) (hce:(e1 !=0)=false) (ht:Fn 64 1 [qax 0 s,.pv (qaa tn td)] [(0,0,qag s)] (.pv (iV (e))) 0 []) (hte:(e !=0)=false) (hm:Fn 65 1 [qax 0 s,.pv (qaa tn td)] [(0,0,qag s)] (.ag [.pv (iV r1),.ls 1 n1.length]) 1 [(1,0,qab n1)]) (hal:Fn 67 2 [trS 0 rt l,trS 1 r1 n1] [(0,0,qab l),(1,0,qab n1)] (.pv (.bool w)) 0 []) :
 Fn 31 2 [trS 0 rt l,qax 1 s,.pv (qaa tn td)] [(0,0,qab l),(1,0,qag s)] (.pv (.tuple #[.bool w,iV (0)])) 0 []:=
 Fz [] [Cf hc [0],.t false,Cf ht [1],.t false,.md,Cf hm [1],Cf hal [0,5]]
  tI (Co hc [0] 5 (Ai hce (Co ht [1] 5 (Ai hte (Co hm [1] 5 (Co hal [0,5] 6 tI))))))
theorem quk {rt z e1:Int} {l:List Pt} (hc:ql8 e1 l rt) (hce:(e1 !=0)=true) :
 Fn 32 1 [trS 0 rt l,.pv (iV (z))] [(0,0,qab l)] (.pv (.tuple #[iV (0),iV (e1)])) 0 []:=
 Fz [] [Cf hc [0],.t true]
  tI (Co hc [0] 2 (Ai hce tI))
theorem qrm {rt y z e1:Int} {l:List Pt} (hc:ql8 e1 l rt) (hce:(e1 !=0)=false) (hat:Fn 68 1 [trS 0 rt l,.pv (iV (z))] [(0,0,qab l)] (.pv (iV (y))) 0 []) (hy:decide (y<0)=true) :
 Fn 32 1 [trS 0 rt l,.pv (iV (z))] [(0,0,qab l)] (.pv (.tuple #[iV (0),iV (6)])) 0 []:=
 Fz [] [Cf hc [0],.t false,Cf hat [0],.t true]
  tI (Co hc [0] 2 (Ai hce (Co hat [0] 2 (Ai hy tI))))
theorem qqP {rt y z v e1:Int} {l:List Pt} (hc:ql8 e1 l rt) (hce:(e1 !=0)=false) (hat:Fn 68 1 [trS 0 rt l,.pv (iV (z))] [(0,0,qab l)] (.pv (iV (y))) 0 []) (hy:decide (y<0)=false) (hab:Fn 69 1 [trS 0 rt l,.pv (iV (z))] [(0,0,qab l)] (.pv (iV (v))) 0 []) :
 Fn 32 1 [trS 0 rt l,.pv (iV (z))] [(0,0,qab l)] (.pv (.tuple #[iV (v),iV (0)])) 0 []:=
 Fz [] [Cf hc [0],.t false,Cf hat [0],.t false,Cf hab [0]]
  tI (Co hc [0] 2 (Ai hce (Co hat [0] 2 (Ai hy (Co hab [0] 2 tI)))))
theorem qti {rt x e1:Int} {l m:List Pt} (hc:ql8 e1 l rt) (hce:(e1 !=0)=true) :
 Fn 33 2 [trS 0 rt l,trS 1 x m] [(0,0,qab l),(1,0,qab m)] (.pv (.tuple #[.bool false,iV (e1)])) 0 []:=
 Fz [] [Cf hc [0],.t true]
  tI (Co hc [0] 4 (Ai hce tI))
theorem qsp {rt x e1:Int} {l m:List Pt} {e2:Int} (hc:ql8 e1 l rt) (hce:(e1 !=0)=false) (hc2:Fn 34 1 [trS 0 x m] [(0,0,qab m)] (.pv (iV (e2))) 0 []) (hce2:(e2 !=0)=true) :
 Fn 33 2 [trS 0 rt l,trS 1 x m] [(0,0,qab l),(1,0,qab m)] (.pv (.tuple #[.bool false,iV (e2)])) 0 []:=
 Fz [] [Cf hc [0],.t false,Cf hc2 [1],.t true]
  tI (Co hc [0] 4 (Ai hce (Co hc2 [1] 4 (Ai hce2 tI))))
theorem qre {rt x e1:Int} {l m:List Pt} {w:Bool} {e2:Int} (hc:ql8 e1 l rt) (hce:(e1 !=0)=false) (hc2:Fn 34 1 [trS 0 x m] [(0,0,qab m)] (.pv (iV (e2))) 0 []) (hce2:(e2 !=0)=false) (hal:Fn 67 2 [trS 0 rt l,trS 1 x m] [(0,0,qab l),(1,0,qab m)] (.pv (.bool w)) 0 []) :
 Fn 33 2 [trS 0 rt l,trS 1 x m] [(0,0,qab l),(1,0,qab m)] (.pv (.tuple #[.bool w,iV (0)])) 0 []:=
 Fz [] [Cf hc [0],.t false,Cf hc2 [1],.t false,Cf hal [0,1]]
  tI (Co hc [0] 4 (Ai hce (Co hc2 [1] 4 (Ai hce2 (Co hal [0,1] 4 tI)))))
end Go.Proofs.Ytalnjplghagbpaa

namespace Go.Proofs.Ytalnjplghagbpaa
set_option maxRecDepth 100000
open Go.RowKit
def wL (T:Sh Nat):List Int:=T.list.map fun k:Nat=>(k:Int)
theorem qcq (T:Sh Nat):(wL T).length=T.list.length:=List.length_map ..
theorem qeA (a b:Sh Nat) (k:Nat):wL (.node a k b)=wL a++((k:Int)::wL b):=by simp[wL,Sh.list]
theorem qc7:wL .nil=[]:=rfl
theorem qdV {T:Sh Nat} {j k:Nat} (h:T.list[j]?=some k):(wL T)[j]?=some (k:Int):=by unfold wL;rw[List.getElem?_map,h];rfl
theorem qa6 (g:List Int) (x:Int):ziV (g++[x])=ziV g++[iV x]:=qh0 g [x]
section
variable {rt:Int} {l:List Pt}
theorem qoj (hl:l.length≤999999):∀ {T:Sh Nat} {z:Int} (g:List Int) {n:Nat} {v:List Value},Rep l z T→n=g.length→v=ziV g→n+T.list.length≤l.length→T≠.nil→
 FnO Try.prog 96 1 2 [trS 0 rt l,.pv (iV z),.ls 1 n] [(0,0,qab l),(1,0,.row 3 1 n v)] (.ls 2 (g++wL T).length) 1 [(2,0,zrI (g++wL T))]:=by
 intro T
 induction T with
 | nil=>intro z g n v _ _ _ _ h;exact (h rfl).elim
 | node a k b iha ihb=>
  intro z g n v hr hn hv hlen _
  subst hn hv
  obtain⟨hz,p,hp,a1,a2⟩:=hr
  subst hz
  have hkl:=qam hp
  have hs:(Sh.node a k b).list.length=a.list.length+(b.list.length+1):=by simp[Sh.list]
  rw[hs] at hlen
  have e:g++wL (.node a k b)=((g++wL a)++[(k:Int)])++wL b:=by rw[qeA];simp
  have c0:decide ((k:Int)<0)=false:=df (by omega)
  have c1:decide ((g.length:Int)>(l.length:Int))=false:=df (by omega)
  have hin:0≤(k:Int)∧(k:Int)<(l.length:Int):=⟨by omega,by omega⟩
  have la:(g++wL a).length=g.length+a.list.length:=by rw[List.length_append,qcq]
  have lr:∀ c:List Int,(c++[(k:Int)]).length=c.length+1:=fun c=>by simp
  by_cases ea:a=.nil
  ·subst ea
   have ga:g++wL .nil=g:=by rw[qc7,List.append_nil]
   rw[ga] at e
   have pa:p.a = -1:=a1
   have hL:=qcO (rt:=rt) (l:=l) (z:=p.a) (n:=g.length) (vs:=ziV g) (dt (by omega))
   by_cases eb:b=.nil
   ·subst eb
    have pb:p.b = -1:=a2
    rw[e,qc7,List.append_nil]
    have:=qrE (h0:=c0) (h1:=c1) (hk:=hp) (hin:=hin) (hl:=hL) (hn:=by omega) (hr:=qcO (rt:=rt) (l:=l) (z:=p.b) (n:=g.length+1) (vs:=ziV g++[iV (k:Int)]) (dt (by omega)))
    rw[zrI,lr,qa6]
    exact this
   ·rw[e]
    exact qr3 (h0:=c0) (h1:=c1) (hk:=hp) (hin:=hin) (hl:=hL) (hn:=by omega) (hr:=ihb (g++[(k:Int)]) a2 (lr g).symm (qa6 g k).symm (by omega) eb)
  ·have hL:=iha g a1 rfl rfl (by omega) ea
   by_cases eb:b=.nil
   ·subst eb
    have pb:p.b = -1:=a2
    rw[e,qc7,List.append_nil]
    have:=qqF (h0:=c0) (h1:=c1) (hk:=hp) (hin:=hin) (hl:=hL) (hn:=by omega) (hr:=qcO (rt:=rt) (l:=l) (z:=p.b) (n:=(g++wL a).length+1) (vs:=ziV (g++wL a)++[iV (k:Int)]) (dt (by omega)))
    rw[zrI,lr,qa6]
    exact this
   ·rw[e]
    exact qq8 (h0:=c0) (h1:=c1) (hk:=hp) (hin:=hin) (hl:=hL) (hn:=by omega) (hr:=ihb ((g++wL a)++[(k:Int)]) a2 (lr _).symm (qa6 _ k).symm (by omega) eb)
theorem qnc (hl:l.length≤999999) {T:Sh Nat} {z:Int} (hr:Rep l z T) (hlen:T.list.length≤l.length) (hT:T≠.nil) :
 Fn 96 1 [trS 0 rt l,.pv (iV z),.pv (.slice none 0 0)] [(0,0,qab l)] (.ls 1 (wL T).length) 1 [(1,0,zrI (wL T))]:=by
 cases T with
 | nil=>exact (hT rfl).elim
 | node a k b=>
  obtain⟨hz,p,hp,a1,a2⟩:=hr
  subst hz
  have hkl:=qam hp
  have hs:(Sh.node a k b).list.length=a.list.length+(b.list.length+1):=by simp[Sh.list]
  rw[hs] at hlen
  have e:wL (.node a k b)=(wL a++[(k:Int)])++wL b:=by rw[qeA];simp
  have c0:decide ((k:Int)<0)=false:=df (by omega)
  have c1:decide ((0:Int)>(l.length:Int))=false:=df (by omega)
  have hin:0≤(k:Int)∧(k:Int)<(l.length:Int):=⟨by omega,by omega⟩
  have la:(wL a).length=a.list.length:=qcq a
  have lr:∀ c:List Int,(c++[(k:Int)]).length=c.length+1:=fun c=>by simp
  by_cases ea:a=.nil
  ·subst ea
   rw[qc7,List.nil_append] at e
   have pa:p.a = -1:=a1
   have hL:=qcO (rt:=rt) (l:=l) (z:=p.a) (n:=0) (vs:=[]) (dt (by omega))
   by_cases eb:b=.nil
   ·subst eb
    have pb:p.b = -1:=a2
    rw[e,qc7,List.append_nil]
    exact qss (h0:=c0) (h1:=c1) (hk:=hp) (hin:=hin) (hl:=hL) (hn:=by omega) (hr:=qcO (rt:=rt) (l:=l) (z:=p.b) (n:=0+1) (vs:=[]++[iV (k:Int)]) (dt (by omega)))
   ·rw[e]
    exact qrn (h0:=c0) (h1:=c1) (hk:=hp) (hin:=hin) (hl:=hL) (hn:=by omega) (hr:=qoj hl [(k:Int)] a2 rfl rfl (by omega) eb)
  ·have hL:=qoj (rt:=rt) (n:=0) hl [] a1 rfl rfl (by omega) ea
   rw[List.nil_append] at hL
   by_cases eb:b=.nil
   ·subst eb
    have pb:p.b = -1:=a2
    rw[e,qc7,List.append_nil]
    have:=qsu (h0:=c0) (h1:=c1) (hk:=hp) (hin:=hin) (hl:=hL) (hn:=by omega) (hr:=qcO (rt:=rt) (l:=l) (z:=p.b) (n:=(wL a).length+1) (vs:=ziV (wL a)++[iV (k:Int)]) (dt (by omega)))
    rw[zrI,lr,qa6]
    exact this
   ·rw[e]
    exact qqQ (h0:=c0) (h1:=c1) (hk:=hp) (hin:=hin) (hl:=hL) (hn:=by omega) (hr:=qoj hl (wL a++[(k:Int)]) a2 (lr _).symm (qa6 _ k).symm (by omega) eb)
theorem qnr (hl:l.length≤999999) {T:Sh Nat} (hr:Rep l rt T) (hlen:T.list.length≤l.length) :
 Fn 73 1 [trS 0 rt l] [(0,0,qab l)] (.ls 1 (wL T).length) 1 [(1,0,zrI (wL T))]:=by
 by_cases hT:T=.nil
 ·subst hT
  have h:rt = -1:=hr
  exact qjq 3 1 (qow (hw:=qgw (h0:=dt (by omega)))) .ls
 ·exact qrq (hw:=qnc hl hr hlen hT)
theorem qrF (hl:l.length≤999999) {T:Sh Nat} (hr:Rep l rt T) (hlen:T.list.length≤l.length) :
 Fn 72 1 [trS 0 rt l] [(0,0,qab l)] (.pv (.bool (decide (T.list.length=l.length)))) 0 []:=by
 by_cases hT:T=.nil
 ·subst hT
  have h:rt = -1:=hr
  by_cases e:l.length=0
  ·rw[show decide ((Sh.nil:Sh Nat).list.length=l.length)=true from decide_eq_true (by rw[e];rfl)]
   exact qor (hw:=qgw (h0:=dt (by omega))) (he:=by rw[e];rfl)
  ·rw[show decide ((Sh.nil:Sh Nat).list.length=l.length)=false from decide_eq_false (fun h=>e h.symm)]
   exact qmt (hw:=qgw (h0:=dt (by omega))) (he:=beq_eq_false_iff_ne.2 (by omega))
 ·have hw:=qnc (rt:=rt) hl hr hlen hT
  have hg:=qcq T
  by_cases e:T.list.length=l.length
  ·rw[decide_eq_true e]
   exact ql9 (hw:=hw) (he:=beq_iff_eq.2 (by omega))
  ·rw[decide_eq_false e]
   exact qkJ (hw:=hw) (he:=beq_eq_false_iff_ne.2 (by omega))
def lsI (l:List Pt) (T:Sh Nat):List Int:=T.list.map (idN l)
theorem qgg (T:Sh Nat):(lsI l T).length=T.list.length:=List.length_map ..
theorem qoP (hl:l.length≤999999) {T:Sh Nat} (hr:Rep l rt T) (hlen:T.list.length≤l.length) :
 Fn 66 1 [trS 0 rt l] [(0,0,qab l)] (.ls 1 (lsI l T).length) 1 [(1,0,zrI (lsI l T))]:=by
 have hg:=qcq T
 have htake:∀ j,(T.list.take j).map (idN l)=(lsI l T).take j:=fun j=>by unfold lsI;rw[List.map_take]
 have run:=RunsL.roundsZ (fun j=>[(1,.pp 1 0),(3,.ls 3 j),(4,.ls 2 (wL T).length),(5,.pv (iV (j:Int)))])
  (fun j=>[(1,0,.pv (iV rt)),(1,1,.ls 0 l.length),(0,0,qab l),(2,0,zrI (wL T)),(3,0,.row 3 1 j (ziV ((lsI l T).take j)))]) (N:=T.list.length) T.list.length 0 (Nat.zero_add _) (fun j _ hj r=>by
   obtain⟨k,hk⟩:∃ k,T.list[j]?=some k:=⟨_,List.getElem?_eq_getElem hj⟩
   have hkl:=hr.lt k (List.mem_of_getElem? hk)
   have hid:(lsI l T)[j]?=some (idN l k):=by unfold lsI;rw[List.getElem?_map,hk];rfl
   have hp:=qal hkl
   have e:ziV ((lsI l T).take (j+1))=ziV ((lsI l T).take j)++[iV (ndT l k).id]:=by
    rw[qbW hid,qa6,← qav hp]
   rw[e] at r
   exact qlH (hlt:=dt (by omega)) (hin:=⟨by omega,by omega⟩) (hg:=qdV hk) (hiz:=⟨by omega,by omega⟩) (hk:=hp) (hn:=by omega) (hs:=qah (by omega)) r) (qn7 (rt:=rt) (l:=l) (g:=wL T) (k:=T.list.length) (n:=T.list.length) (vs:=ziV ((lsI l T).take T.list.length)) (hlt:=df (by omega)))
 rw[List.take_of_length_le (Nat.le_of_eq (qgg T))] at run
 rw[zrI,qgg]
 exact qrB (hw:=qnr hl hr hlen) (r0:=run)
end
end Go.Proofs.Ytalnjplghagbpaa

namespace Go.Proofs.Ytalnjplghagbpaa
set_option maxRecDepth 100000
open Go.RowKit
section
variable {s l:List Pt} {tn td rt:Int}
def OkL (s l:List Pt) (tn td:Int) (p:Pt) (v:Int):Prop:=v<0∨RI s tn td p.id (idN l v.toNat)
def OkN (s l:List Pt) (tn td:Int) (k:Nat):Prop:=OkL s l tn td (ndT l k) (ndT l k).a∧OkL s l tn td (ndT l k) (ndT l k).b
theorem qjs {p:Pt}:∀ {A:Sh Nat} {v:Int},Rep l v A→(OkL s l tn td p v↔∀ y,(idT l A).top=some y→RI s tn td p.id y)
 | .nil,v,h=>⟨fun _ y hy=>(by cases hy),fun _=>Or.inl (by have e:v = -1:=h;omega)⟩
 | .node a k b,v,⟨e,_⟩=>by
  subst e
  refine⟨fun h y hy=>?_,fun h=>Or.inr (h _ rfl)⟩
  cases hy
  rcases h with h | h
  ·omega
  ·exact h
theorem qka:∀ {T:Sh Nat} {i:Int},Rep l i T→((idT l T).HK (RI s tn td)↔∀ k∈T.list,OkN s l tn td k)
 | .nil,_,_=>⟨fun _ k hk=>(by cases hk),fun _=>trivial⟩
 | .node a k b,i,⟨_,p,hp,a1,a2⟩=>by
  have ep:ndT l k=p:=by
   have:=qal (n:=l) (k:=k) (qam hp)
   rw[hp] at this
   exact (Option.some.inj this).symm
  have e1:idN l k=p.id:=qav hp
  have ih1:=qka a1
  have ih2:=qka a2
  have t1:=qjs (s:=s) (tn:=tn) (td:=td) (p:=p) a1
  have t2:=qjs (s:=s) (tn:=tn) (td:=td) (p:=p) a2
  have ek:OkN s l tn td k↔OkL s l tn td p p.a∧OkL s l tn td p p.b:=by unfold OkN;rw[ep]
  show ((∀ y,(idT l a).top=some y→RI s tn td (idN l k) y)∧(∀ y,(idT l b).top=some y→RI s tn td (idN l k) y)∧(idT l a).HK (RI s tn td)∧(idT l b).HK (RI s tn td))↔_
  rw[e1,← t1,← t2,ih1,ih2]
  refine⟨fun ⟨h1,h2,h3,h4⟩ j hj=>?_,fun h=>?_⟩
  ·rcases List.mem_append.1 hj with hj | hj
   ·exact h3 j hj
   ·rcases List.mem_cons.1 hj with rfl | hj
    ·exact ek.2 ⟨h1,h2⟩
    ·exact h4 j hj
  ·have hk:=ek.1 (h k (List.mem_append_right _ List.mem_cons_self))
   exact⟨hk.1,hk.2,fun j hj=>h j (List.mem_append_left _ hj),fun j hj=>h j (List.mem_append_right _ (List.mem_cons_of_mem _ hj))⟩
abbrev abT (k:Nat):List (Nat×SV):=[(3,.pp 2 0),(4,.pp 3 0),(5,.pp 4 0),(7,.pv (iV (k:Int)))]
abbrev qqj (k j:Nat):List (Nat×SV):=[(3,.pp 2 0),(4,.pp 3 0),(5,.pp 4 0),(7,.pv (iV (k:Int))),(8,.pp 5 0),(9,.ls 6 2),(10,.pv (iV (j:Int)))]
abbrev abH (rt:Int) (l s:List Pt) (tn td:Int):List (Nat×Nat×SV):=[(2,0,.pv (iV rt)),(2,1,.ls 0 l.length),(3,0,.ls 1 s.length),(4,0,.pv (iV tn)),(4,1,.pv (iV td)),(0,0,qab l),(1,0,qag s)]
abbrev qqd (rt:Int) (l s:List Pt) (tn td:Int) (q p:Pt):List (Nat×Nat×SV):=abH rt l s tn td++[(5,0,.pv (iV q.id)),(5,1,.pv (iV q.a)),(5,2,.pv (iV q.b)),(6,0,.row 3 1 2 [iV p.a,iV p.b])]
theorem qrp (htn:I64 tn) (htd:I64 td) (ht:okB tn td=true) (hs:Val s) (hK:∀ p∈l,∃ q∈s,q.id=p.id) {k:Nat} {p q:Pt} (hq:q∈s) (hqp:q.id=p.id) (hpa:p.a<(l.length:Int)) (hpb:p.b<(l.length:Int)) (hne:∀ c:Int,(c=p.a∨c=p.b)→0≤c→idN l c.toNat≠p.id) :
 ((OkL s l tn td p p.a∧OkL s l tn td p p.b)∧Rl 2 2 41 1 81 7 (qqj k 0) (qqd rt l s tn td q p) (.exit 2) (abT k) (abH rt l s tn td))∨
 (¬ (OkL s l tn td p p.a∧OkL s l tn td p p.b)∧Rl 2 2 41 1 81 7 (qqj k 0) (qqd rt l s tn td q p) .ret [(6,.pv (.bool false))] []):=by
 have hsl:=hs.len
 have fin:Rl 2 2 41 1 81 7 (qqj k 2) (qqd rt l s tn td q p) (.exit 2) (abT k) (abH rt l s tn td):=qm0 (hj2:=by decide)
 have one:∀ (j:Nat) (v:Int),j<2→(v=p.a∨v=p.b)→qbz [iV p.a,iV p.b] (0*1+((j:Nat):Int).toNat*1) [iV v]→
  (OkL s l tn td p v∧∀ {e:Exit} {tm2:TmL} {hp2:HpL},Rl 2 2 41 1 81 7 (qqj k (j+1)) (qqd rt l s tn td q p) e tm2 hp2→Rl 2 2 41 1 81 7 (qqj k j) (qqd rt l s tn td q p) e tm2 hp2)∨
  (¬ OkL s l tn td p v∧Rl 2 2 41 1 81 7 (qqj k j) (qqd rt l s tn td q p) .ret [(6,.pv (.bool false))] []):=by
  intro j v hj hvab hrow
  have hinj:0≤(j:Int)∧(j:Int)<((2:Nat):Int):=⟨by omega,by omega⟩
  by_cases hv:v<0
  ·exact Or.inl ⟨Or.inl hv,fun r=>qou (hj2:=dt (by omega)) (hinj:=hinj) (hjv:=hrow) (hv:=dt hv) (hs:=qah (by omega)) r⟩
  ·have hvl:v<(l.length:Int):=by rcases hvab with rfl | rfl<;>assumption
   have hp2:=qal (n:=l) (k:=v.toNat) (by omega)
   obtain⟨q2,hq2,e2⟩:=hK _ (List.mem_of_getElem? hp2)
   obtain⟨b,hb⟩:=List.getElem?_of_mem hq2
   have hbl:=qam hb
   have hat:=qnt hs (id:=(ndT l v.toNat).id) hb e2
   have eid:idN l v.toNat=(ndT l v.toNat).id:=qav hp2
   have hids:q.id≠q2.id:=fun e=>hne v hvab (by omega) (by rw[eid,← e2,← e,hqp])
   have ha:=qg2 htn htd (hs.ok _ hq) (hs.ok _ hq2) ht hids
   have eR:RI s tn td p.id (idN l v.toNat)↔ld tn td q q2=true:=by
    unfold RI
    rw[← hqp,eid,← e2,qcb hs hq,qcb hs hq2]
   by_cases hw:ld tn td q q2=true
   ·exact Or.inl ⟨Or.inr (eR.2 hw),fun r=>qna (b0:=(b:Int)) (hj2:=dt (by omega)) (hinj:=hinj) (hjv:=hrow) (hv:=df hv) (hinv:=⟨by omega,hvl⟩) (hpp:=hp2) (hat:=hat) (hinb:=⟨by omega,by omega⟩) (hq2:=hb) (hah:=by rw[← hw];exact ha) (hs:=qah (by omega)) r⟩
   ·have hw':ld tn td q q2=false:=by simpa using hw
    exact Or.inr ⟨fun h=>h.elim hv fun h=>hw (eR.1 h),qpn (b0:=(b:Int)) (hj2:=dt (by omega)) (hinj:=hinj) (hjv:=hrow) (hv:=df hv) (hinv:=⟨by omega,hvl⟩) (hpp:=hp2) (hat:=hat) (hinb:=⟨by omega,by omega⟩) (hq2:=hb) (hah:=by rw[← hw'];exact ha)⟩
 rcases one 0 p.a (by omega) (Or.inl rfl) (fun i v hv=>by
  match i,hv with
  | 0,hv=>cases hv;rfl) with ⟨o1,r1⟩ | ⟨o1,r1⟩
 ·rcases one 1 p.b (by omega) (Or.inr rfl) (fun i v hv=>by
   match i,hv with
   | 0,hv=>cases hv;rfl) with ⟨o2,r2⟩ | ⟨o2,r2⟩
  ·exact Or.inl ⟨⟨o1,o2⟩,r1 (r2 fin)⟩
  ·exact Or.inr ⟨fun h=>o2 h.2,r1 r2⟩
 ·exact Or.inr ⟨fun h=>o1 h.1,r1⟩
theorem Rep.child:∀ {T:Sh Nat} {i:Int},Rep l i T→T.list.Nodup→∀ k∈T.list,∀ v,(v=(ndT l k).a∨v=(ndT l k).b)→0≤v→v.toNat≠k∧v.toNat∈T.list
 | .nil,_,_,_,k,hk=>by cases hk
 | .node a j b,i,⟨_,p,hp,a1,a2⟩,hn,k,hk=>by
  intro v hv h0
  obtain⟨o1,o2,o3,o4⟩:=Sh.mid_out hn
  rcases List.mem_append.1 hk with hk | hk
  ·obtain⟨g1,g2⟩:=a1.child o3 k hk v hv h0
   exact⟨g1,List.mem_append_left _ g2⟩
  ·rcases List.mem_cons.1 hk with rfl | hk
   ·have ep:ndT l k=p:=by
     have:=qal (n:=l) (k:=k) (qam hp)
     rw[hp] at this
     exact (Option.some.inj this).symm
    rw[ep] at hv
    have root:∀ {S:Sh Nat},Rep l v S→v.toNat∈S.list:=fun {S} hS=>by
     cases S with
     | nil=>have e:v = -1:=hS;omega
     | node x y z=>
      have e:v=(y:Int):=hS.1
      subst e
      exact List.mem_append_right _ List.mem_cons_self
    rcases hv with rfl | rfl
    ·have m:=root a1
     exact⟨fun e=>o1 (e▸m),List.mem_append_left _ m⟩
    ·have m:=root a2
     exact⟨fun e=>o2 (e▸m),List.mem_append_right _ (List.mem_cons_of_mem _ m)⟩
   ·obtain⟨g1,g2⟩:=a2.child o4 k hk v hv h0
    exact⟨g1,List.mem_append_right _ (List.mem_cons_of_mem _ g2)⟩
theorem Fits.id_inj {x:Tr} {T:Sh Nat} (h:Fits x T) {k c:Nat} (hk:k∈T.list) (hc:c∈T.list) (e:idN x.n k=idN x.n c):k=c:=by
 have hp:=h.up
 rw[List.pairwise_map,List.pairwise_iff_getElem] at hp
 obtain⟨a,ha,rfl⟩:=List.getElem_of_mem hk
 obtain⟨b,hb,rfl⟩:=List.getElem_of_mem hc
 rcases Nat.lt_trichotomy a b with h0 | h0 | h0
 ·have:=hp a b ha hb h0;omega
 ·subst h0;rfl
 ·have:=hp b a hb ha h0;omega
theorem qnQ (htn:I64 tn) (htd:I64 td) (ht:okB tn td=true) (hs:Val s) {T:Sh Nat} (h:Fits ⟨rt,l⟩ T) (hn:l.length≤1000000) (hK:∀ p∈l,∃ q∈s,q.id=p.id) :
 Fn 41 2 [trS 0 rt l,qax 1 s,.pv (qaa tn td)] [(0,0,qab l),(1,0,qag s)] (.pv (.bool (pT ((idT l T).HK (RI s tn td))))) 0 []:=by
 have hsl:=hs.len
 have hrep:Rep l rt T:=h.rep
 have hL:Lnk ⟨rt,l⟩:=h.lnk
 have row:∀ k,k<l.length→(OkN s l tn td k∧∀ {e:Exit} {tm2:TmL} {hp2:HpL},Rl 2 2 41 0 81 5 (abT (k+1)) (abH rt l s tn td) e tm2 hp2→Rl 2 2 41 0 81 5 (abT k) (abH rt l s tn td) e tm2 hp2)∨
  (¬ OkN s l tn td k∧Rl 2 2 41 0 81 5 (abT k) (abH rt l s tn td) .ret [(6,.pv (.bool false))] []):=by
  intro k hk
  have hp:=qal (n:=l) hk
  have hkT:k∈T.list:=(h.mem k).2 hk
  obtain⟨⟨_,la⟩,_,lb⟩:=hL _ (List.mem_of_getElem? hp)
  obtain⟨q,hq,eq⟩:=hK _ (List.mem_of_getElem? hp)
  obtain⟨a,ha⟩:=List.getElem?_of_mem hq
  have hal:=qam ha
  have hat:=qnt hs (id:=(ndT l k).id) ha eq
  have eid:idN l k=(ndT l k).id:=qav hp
  have hr:=qrp (rt:=rt) htn htd ht hs hK (k:=k) (p:=ndT l k) hq eq la lb fun c hc h0 e=>by
   obtain⟨g1,g2⟩:=hrep.child h.nodup k hkT c hc h0
   exact g1 (h.id_inj g2 hkT (e.trans eid.symm))
  rcases hr with ⟨o,r1⟩ | ⟨o,r1⟩
  ·exact Or.inl ⟨o,fun r=>qpQ (a0:=(a:Int)) (hlt:=dt (by omega)) (hk:=hp) (hin:=⟨by omega,by omega⟩) (hat:=hat) (hina:=⟨by omega,by omega⟩) (hq:=ha) (hl1:=r1) (hs:=qah (by omega)) r⟩
  ·exact Or.inr ⟨o,qmM (a0:=(a:Int)) (hlt:=dt (by omega)) (hk:=hp) (hin:=⟨by omega,by omega⟩) (hat:=hat) (hina:=⟨by omega,by omega⟩) (hq:=ha) (hl1:=r1)⟩
 have step:∀ m,(∀ k,k<m→OkN s l tn td k)→m≤l.length→∀ {e:Exit} {tm2:TmL} {hp2:HpL},Rl 2 2 41 0 81 5 (abT m) (abH rt l s tn td) e tm2 hp2→Rl 2 2 41 0 81 5 (abT 0) (abH rt l s tn td) e tm2 hp2:=by
  intro m hm hml e tm2 hp2 r
  refine RunsL.rounds (fun k=>abT k) (fun _=>abH rt l s tn td) (N:=m) m 0 (Nat.zero_add _) (fun k _ hk r=>?_) r
  rcases row k (by omega) with ⟨_,g⟩ | ⟨g,_⟩
  ·exact g r
  ·exact (g (hm k hk)).elim
 have key:(idT l T).HK (RI s tn td)↔∀ k,k<l.length→OkN s l tn td k:=(qka hrep).trans ⟨fun g k hk=>g k ((h.mem k).2 hk),fun g k hk=>g k ((h.mem k).1 hk)⟩
 rcases qaL (fun k=>OkN s l tn td k) l.length with g | ⟨k,hk,hb,hf⟩
 ·rw[qcH (key.2 g)]
  exact qoA (hl0:=step l.length g (Nat.le_refl _) (qp0 (hlt:=df (by omega))))
 ·rw[qco fun g=>hb (key.1 g k hk)]
  rcases row k hk with ⟨g,_⟩ | ⟨_,r⟩
  ·exact (hb g).elim
  ·exact qqw (hl0:=step k hf (by omega) r)
end
end Go.Proofs.Ytalnjplghagbpaa
