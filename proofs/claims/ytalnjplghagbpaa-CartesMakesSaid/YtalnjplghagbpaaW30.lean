/-
  Joined: Dd, De, Dc. Conditions: none.
-/
import Derived.Test.YtalnjplghagbpaaW29
import Derived.Test.YtalnjplghagbpaaW19
import Derived.Test.YtalnjplghagbpaaSxP
import Derived.Test.YtalnjplghagbpaaW25
namespace Go.Proofs.Ytalnjplghagbpaa
set_option maxRecDepth 100000
open Go.RowKit
abbrev qsy (l:List Pt) (rt:Int):Prop:=Fn 96 1 [trS 0 rt l,.pv (iV (rt)),.pv (.slice none 0 0)] [(0,0,qac l)] (.pv (.slice none 0 0)) 0 []
theorem qoo {rt:Int} {l:List Pt} (hw:qsy l rt) :
 Fn 73 1 [trS 0 rt l] [(0,0,qac l)] (.pv (.slice none 0 0)) 0 []:=
 Fz [] [Cf hw [0]]
  tI (Co hw [0] 2 tI)
abbrev qnR (g:List Int) (l:List Pt) (rt:Int):Prop:=Fn 96 1 [trS 0 rt l,.pv (iV (rt)),.pv (.slice none 0 0)] [(0,0,qac l)] (.ls 1 g.length) 1 [(1,0,zrI g)]
theorem qpM {rt:Int} {l:List Pt} {g:List Int} (hw:qnR g l rt) :
 Fn 73 1 [trS 0 rt l] [(0,0,qac l)] (.ls 1 g.length) 1 [(1,0,zrI g)]:=
 Fz [(1,2)] [Cf hw [0]]
  (qam (qaF [(1,2)]) [(1,0,zrI g)]) (Co hw [0] 2 tI)
theorem qni {rt:Int} {l:List Pt} (hw:qsy l rt) (he:((0:Int)==(l.length:Int))=true) :
 Fn 72 1 [trS 0 rt l] [(0,0,qac l)] (.pv (.bool true)) 0 []:=
 Fz [] [.md,Cf hw [0],.t true]
  tI (Co hw [0] 2 (Ai he tI))
theorem qlY {rt:Int} {l:List Pt} (hw:qsy l rt) (he:((0:Int)==(l.length:Int))=false) :
 Fn 72 1 [trS 0 rt l] [(0,0,qac l)] (.pv (.bool false)) 0 []:=
 Fz [] [.md,Cf hw [0],.t false]
  tI (Co hw [0] 2 (Ai he tI))
theorem qkj {rt:Int} {l:List Pt} {g:List Int} (hw:qnR g l rt) (he:((g.length:Int)==(l.length:Int))=true) :
 Fn 72 1 [trS 0 rt l] [(0,0,qac l)] (.pv (.bool true)) 0 []:=
 Fz [] [.md,Cf hw [0],.t true]
  tI (Co hw [0] 2 (Ai he tI))
theorem qio {rt:Int} {l:List Pt} {g:List Int} (hw:qnR g l rt) (he:((g.length:Int)==(l.length:Int))=false) :
 Fn 72 1 [trS 0 rt l] [(0,0,qac l)] (.pv (.bool false)) 0 []:=
 Fz [] [.md,Cf hw [0],.t false]
  tI (Co hw [0] 2 (Ai he tI))
theorem qkD {rt z:Int} {l:List Pt} {p:Pt} {g:List Int} {k n:Nat} {vs:List Value} (hlt:decide ((k:Int)<(g.length:Int))=true) (hin:0≤(k:Int)∧(k:Int)<(g.length:Int)) (hg:g[k]?=some z) (hiz:0≤z∧z<(l.length:Int)) (hk:l[z.toNat]?=some p) (hn:n+1≤1000000) (hs:iV (IntKind.i64.wrap ((k:Int)+1))=iV (((k+1:Nat):Int))) {e:Exit} {tm2:TmL} {hp2:HpL}
 (r:Rl 1 1 66 0 27 4 ([(1,.pp 1 0),(3,.ls 3 (n+1)),(4,.ls 2 g.length),(5,.pv (iV ((k+1:Nat):Int)))]) ([(1,0,.pv (iV rt)),(1,1,.ls 0 l.length),(0,0,qac l),(2,0,zrI g),(3,0,.row 3 1 (n+1) (vs++[iV p.id]))]) e tm2 hp2):Rl 1 1 66 0 27 4 ([(1,.pp 1 0),(3,.ls 3 n),(4,.ls 2 g.length),(5,.pv (iV (k:Int)))]) ([(1,0,.pv (iV rt)),(1,1,.ls 0 l.length),(0,0,qac l),(2,0,zrI g),(3,0,.row 3 1 n (vs))]) e tm2 hp2:=
 RunsL.next [(3,5)] 300 [.t true,.md,.r (iV z),.r (iV p.id),Re hs]
  (Ro (Ai hlt (Ai hin (Ai (qfu hg) (Ai hiz (Ai (qaH hk) (Ai hn (Ai hs tI)))))))) r
theorem qnt {rt:Int} {l:List Pt} {g:List Int} {k n:Nat} {vs:List Value} (hlt:decide ((k:Int)<(g.length:Int))=false):Rl 1 1 66 0 27 4 ([(1,.pp 1 0),(3,.ls 3 n),(4,.ls 2 g.length),(5,.pv (iV (k:Int)))]) ([(1,0,.pv (iV rt)),(1,1,.ls 0 l.length),(0,0,qac l),(2,0,zrI g),(3,0,.row 3 1 n (vs))]) (.exit 0) ([(3,.ls 3 n)]) ([(3,0,.row 3 1 n (vs))]):=
 RunsL.stop [] 300 [.t false] (fun h=>by cases h)
  (Ro (Ai hlt tI))
abbrev qqq (g:List Int) (l:List Pt) (rt:Int):Prop:=Fn 73 1 [trS 0 rt l] [(0,0,qac l)] (.ls 1 g.length) 1 [(1,0,zrI g)]
theorem qpS {rt:Int} {l:List Pt} {g:List Int} {n:Nat} {vs:List Value} (hw:qqq g l rt) (r0:Rl 1 1 66 0 27 4 ([(1,.pp 1 0),(3,.ls 3 0),(4,.ls 2 g.length),(5,.pv (iV ((0:Nat):Int)))]) ([(1,0,.pv (iV rt)),(1,1,.ls 0 l.length),(0,0,qac l),(2,0,zrI g),(3,0,.row 3 1 0 ([]))]) (.exit 0) ([(3,.ls 3 n)]) ([(3,0,.row 3 1 n (vs))])) :
 Fn 66 1 [trS 0 rt l] [(0,0,qac l)] (.ls 1 n) 1 [(1,0,.row 3 1 n (vs))]:=
 Fz [(1,3)] [Cf hw [0],.ln true 3 0 3 1,Lf r0]
  (qam (qaF [(1,3)]) [(1,0,.row 3 1 n (vs))]) (Co hw [0] 2 (Lo r0 [] tI))
theorem ql3 {rt:Int} {l:List Pt} (hm:decide ((l.length:Int)>64)=true) :
 Fn 34 1 [trS 0 rt l] [(0,0,qac l)] (.pv (iV (4))) 0 []:=
 Fz [] [.t true]
  tI (Ai hm tI)
theorem qlB {rt:Int} {l:List Pt} (hm:decide ((l.length:Int)>64)=false) (hl:Fn 70 1 [trS 0 rt l,.pv (iV (rt))] [(0,0,qac l)] (.pv (.bool false)) 0 []) :
 Fn 34 1 [trS 0 rt l] [(0,0,qac l)] (.pv (iV (8))) 0 []:=
 Fz [] [.t false,Cf hl [0],.k]
  tI (Ai hm (Co hl [0] 2 tI))
abbrev qia (l:List Pt) (rt:Int):Prop:=Fn 70 1 [trS 0 rt l,.pv (iV (rt))] [(0,0,qac l)] (.pv (.bool true)) 0 []
theorem qjN {rt:Int} {l:List Pt} (hm:decide ((l.length:Int)>64)=false) (hl:qia l rt) (hr:(rt==(-1))=true) (h0:((l.length:Int)==0)=false) :
 Fn 34 1 [trS 0 rt l] [(0,0,qac l)] (.pv (iV (8))) 0 []:=
 Fz [] [.t false,Cf hl [0],.k,.t true,.t false,.k]
  tI (Ai hm (Co hl [0] 2 (Ai hr (Ai h0 tI))))
theorem qhB {rt:Int} {l:List Pt} (hm:decide ((l.length:Int)>64)=false) (hl:qia l rt) (hr:(rt==(-1))=false) (h0:((l.length:Int)==0)=true) :
 Fn 34 1 [trS 0 rt l] [(0,0,qac l)] (.pv (iV (8))) 0 []:=
 Fz [] [.t false,Cf hl [0],.k,.t false,.t true,.k]
  tI (Ai hm (Co hl [0] 2 (Ai hr (Ai h0 tI))))
abbrev qlt (l:List Pt) (rt:Int):HpL:=[(1,0,.pv (iV rt)),(1,1,.ls 0 l.length),(0,0,qac l)]
abbrev qhg (k:Nat):TmL:=[(1,.pp 1 0),(3,.pv (iV (k:Int)))]
theorem qq6 {rt:Int} {l:List Pt} {p:Pt} {k:Nat} (hlt:decide ((k:Int)<(l.length:Int))=true) (hk:l[k]?=some p) (hin:0≤(k:Int)∧(k:Int)<(l.length:Int)) (ha:Fn 70 1 [trS 0 rt l,.pv (iV (p.a))] [(0,0,qac l)] (.pv (.bool false)) 0 []):Rl 1 1 34 0 96 2 (qhg k) (qlt l rt) (.ret) ([(2,.pv (iV 8))]) ([]):=
 RunsL.stop [] 300 [.t true,.r (ptV p),Cf ha [0],.k] (fun h=>by cases h)
  (Ro (Ai hlt (Ai hin (Ai (qaY hk) (Co ha [0] 3 tI)))))
abbrev qrv (l:List Pt) (p:Pt) (rt:Int):Prop:=Fn 70 1 [trS 0 rt l,.pv (iV (p.a))] [(0,0,qac l)] (.pv (.bool true)) 0 []
theorem qrj {rt:Int} {l:List Pt} {p:Pt} {k:Nat} (hlt:decide ((k:Int)<(l.length:Int))=true) (hk:l[k]?=some p) (hin:0≤(k:Int)∧(k:Int)<(l.length:Int)) (ha:qrv l p rt) (hb:Fn 70 1 [trS 0 rt l,.pv (iV (p.b))] [(0,0,qac l)] (.pv (.bool false)) 0 []):Rl 1 1 34 0 96 2 (qhg k) (qlt l rt) (.ret) ([(2,.pv (iV 8))]) ([]):=
 RunsL.stop [] 300 [.t true,.r (ptV p),Cf ha [0],.k,Cf hb [0],.k] (fun h=>by cases h)
  (Ro (Ai hlt (Ai hin (Ai (qaY hk) (Co ha [0] 3 (Co hb [0] 3 tI))))))
abbrev qnP (l:List Pt) (p:Pt) (rt:Int):Prop:=Fn 70 1 [trS 0 rt l,.pv (iV (p.b))] [(0,0,qac l)] (.pv (.bool true)) 0 []
theorem qqs {rt:Int} {l:List Pt} {p:Pt} {k:Nat} (hlt:decide ((k:Int)<(l.length:Int))=true) (hk:l[k]?=some p) (hin:0≤(k:Int)∧(k:Int)<(l.length:Int)) (ha:qrv l p rt) (hb:qnP l p rt) (h1:decide (p.id<0)=true):Rl 1 1 34 0 96 2 (qhg k) (qlt l rt) (.ret) ([(2,.pv (iV 8))]) ([]):=
 RunsL.stop [] 300 [.t true,.r (ptV p),Cf ha [0],.k,Cf hb [0],.k,.t true] (fun h=>by cases h)
  (Ro (Ai hlt (Ai hin (Ai (qaY hk) (Co ha [0] 3 (Co hb [0] 3 (Ai h1 tI)))))))
theorem qqO {rt:Int} {l:List Pt} {p:Pt} {k:Nat} (hlt:decide ((k:Int)<(l.length:Int))=true) (hk:l[k]?=some p) (hin:0≤(k:Int)∧(k:Int)<(l.length:Int)) (ha:qrv l p rt) (hb:qnP l p rt) (h1:decide (p.id<0)=false) (h2:decide (p.id>65535)=true):Rl 1 1 34 0 96 2 (qhg k) (qlt l rt) (.ret) ([(2,.pv (iV 8))]) ([]):=
 RunsL.stop [] 300 [.t true,.r (ptV p),Cf ha [0],.k,Cf hb [0],.k,.t false,.t true] (fun h=>by cases h)
  (Ro (Ai hlt (Ai hin (Ai (qaY hk) (Co ha [0] 3 (Co hb [0] 3 (Ai h1 (Ai h2 tI))))))))
theorem ql4 {rt:Int} {l:List Pt} {p:Pt} {k:Nat} (hlt:decide ((k:Int)<(l.length:Int))=true) (hk:l[k]?=some p) (hin:0≤(k:Int)∧(k:Int)<(l.length:Int)) (ha:qrv l p rt) (hb:qnP l p rt) (h1:decide (p.id<0)=false) (h2:decide (p.id>65535)=false) (hs:iV (IntKind.i64.wrap ((k:Int)+1))=iV (((k+1:Nat):Int))) {e:Exit} {tm2:TmL} {hp2:HpL}
 (r:Rl 1 1 34 0 96 2 ([(1,.pp 1 0),(3,.pv (iV ((k+1:Nat):Int)))]) (qlt l rt) e tm2 hp2):Rl 1 1 34 0 96 2 (qhg k) (qlt l rt) e tm2 hp2:=
 RunsL.next [] 300 [.t true,.r (ptV p),Cf ha [0],.k,Cf hb [0],.k,.t false,.t false,Re hs]
  (Ro (Ai hlt (Ai hin (Ai (qaY hk) (Co ha [0] 3 (Co hb [0] 3 (Ai h1 (Ai h2 (Ai hs tI))))))))) r
theorem qnp {rt:Int} {l:List Pt} {k:Nat} (hlt:decide ((k:Int)<(l.length:Int))=false):Rl 1 1 34 0 96 2 (qhg k) (qlt l rt) (.exit 0) ([(1,.pp 1 0)]) (qlt l rt):=
 RunsL.stop [] 300 [.t false] (fun h=>by cases h)
  (Ro (Ai hlt tI))
abbrev qmz (g:List Int) (l:List Pt) (rt:Int):HpL:=[(1,0,.pv (iV rt)),(1,1,.ls 0 l.length),(0,0,qac l),(2,0,zrI g)]
theorem qiK {rt y z:Int} {l:List Pt} {p q:Pt} {g:List Int} {j k:Nat} (hlt:decide ((k:Int)<(g.length:Int))=true) (hs1:iV (IntKind.i64.wrap ((k:Int)-1))=iV (j:Int)) (hji:0≤(j:Int)∧(j:Int)<(g.length:Int)) (hgj:g[j]?=some y) (hyi:0≤y∧y<(l.length:Int)) (hp:l[y.toNat]?=some p) (hki:0≤(k:Int)∧(k:Int)<(g.length:Int)) (hgk:g[k]?=some z) (hzi:0≤z∧z<(l.length:Int)) (hq:l[z.toNat]?=some q) (hc:decide (p.id≥q.id)=false) (hs:iV (IntKind.i64.wrap ((k:Int)+1))=iV (((k+1:Nat):Int))) {e:Exit} {tm2:TmL} {hp2:HpL}
 (r:Rl 1 1 34 1 96 3 ([(1,.pp 1 0),(5,.ls 2 g.length),(6,.pv (iV ((k+1:Nat):Int)))]) (qmz g l rt) e tm2 hp2):Rl 1 1 34 1 96 3 ([(1,.pp 1 0),(5,.ls 2 g.length),(6,.pv (iV (k:Int)))]) (qmz g l rt) e tm2 hp2:=
 RunsL.next [] 300 [.t true,Re hs1,.r (iV y),.r (iV p.id),.r (iV z),.r (iV q.id),.t false,Re hs]
  (Ro (Ai hlt (Ai hs1 (Ai hji (Ai (qfu hgj) (Ai hyi (Ai (qaH hp) (Ai hki (Ai (qfu hgk) (Ai hzi (Ai (qaH hq) (Ai hc (Ai hs tI))))))))))))) r
theorem qkn {rt y z:Int} {l:List Pt} {p q:Pt} {g:List Int} {j k:Nat} (hlt:decide ((k:Int)<(g.length:Int))=true) (hs1:iV (IntKind.i64.wrap ((k:Int)-1))=iV (j:Int)) (hji:0≤(j:Int)∧(j:Int)<(g.length:Int)) (hgj:g[j]?=some y) (hyi:0≤y∧y<(l.length:Int)) (hp:l[y.toNat]?=some p) (hki:0≤(k:Int)∧(k:Int)<(g.length:Int)) (hgk:g[k]?=some z) (hzi:0≤z∧z<(l.length:Int)) (hq:l[z.toNat]?=some q) (hc:decide (p.id≥q.id)=true):Rl 1 1 34 1 96 3 ([(1,.pp 1 0),(5,.ls 2 g.length),(6,.pv (iV (k:Int)))]) (qmz g l rt) (.ret) ([(2,.pv (iV 8))]) ([]):=
 RunsL.stop [] 300 [.t true,Re hs1,.r (iV y),.r (iV p.id),.r (iV z),.r (iV q.id),.t true] (fun h=>by cases h)
  (Ro (Ai hlt (Ai hs1 (Ai hji (Ai (qfu hgj) (Ai hyi (Ai (qaH hp) (Ai hki (Ai (qfu hgk) (Ai hzi (Ai (qaH hq) (Ai hc tI))))))))))))
theorem qgu {rt:Int} {l:List Pt} {g:List Int} {k:Nat} (hlt:decide ((k:Int)<(g.length:Int))=false):Rl 1 1 34 1 96 3 ([(1,.pp 1 0),(5,.ls 2 g.length),(6,.pv (iV (k:Int)))]) (qmz g l rt) (.exit 2) ([]) ([]):=
 RunsL.stop [] 300 [.t false] (fun h=>by cases h)
  (Ro (Ai hlt tI))
abbrev qqB (l:List Pt) (rt:Int):Prop:=Rl 1 1 34 0 96 2 ([(1,.pp 1 0),(3,.pv (iV ((0:Nat):Int)))]) (qlt l rt) (.ret) ([(2,.pv (iV 8))]) ([])
theorem qkT {rt:Int} {l:List Pt} (hm:decide ((l.length:Int)>64)=false) (hl:qia l rt) (hr:(rt==(-1))=true) (h0:((l.length:Int)==0)=true) (r0:qqB l rt) :
 Fn 34 1 [trS 0 rt l] [(0,0,qac l)] (.pv (iV (8))) 0 []:=
 Fz [] [.t false,Cf hl [0],.k,.t true,.t true,.k,Lf r0]
  tI (Ai hm (Co hl [0] 2 (Ai hr (Ai h0 (Lo r0 [] tI)))))
abbrev qm0 (l:List Pt) (rt:Int):Prop:=Rl 1 1 34 0 96 2 ([(1,.pp 1 0),(3,.pv (iV ((0:Nat):Int)))]) ([(1,0,.pv (iV rt)),(1,1,.ls 0 l.length),(0,0,qac l)]) (.exit 0) ([(1,.pp 1 0)]) ([(1,0,.pv (iV rt)),(1,1,.ls 0 l.length),(0,0,qac l)])
theorem qjw {rt:Int} {l:List Pt} (hm:decide ((l.length:Int)>64)=false) (hl:qia l rt) (hr:(rt==(-1))=true) (h0:((l.length:Int)==0)=true) (r0:qm0 l rt) (ho:Fn 71 1 [trS 0 rt l] [(0,0,qac l)] (.pv (.bool false)) 0 []) :
 Fn 34 1 [trS 0 rt l] [(0,0,qac l)] (.pv (iV (8))) 0 []:=
 Fz [] [.t false,Cf hl [0],.k,.t true,.t true,.k,Lf r0,Cf ho [0],.k]
  tI (Ai hm (Co hl [0] 2 (Ai hr (Ai h0 (Lo r0 [] (Co ho [0] 2 tI))))))
abbrev qo4 (l:List Pt) (rt:Int):Prop:=Fn 71 1 [trS 0 rt l] [(0,0,qac l)] (.pv (.bool true)) 0 []
theorem qh0 {rt:Int} {l:List Pt} (hm:decide ((l.length:Int)>64)=false) (hl:qia l rt) (hr:(rt==(-1))=true) (h0:((l.length:Int)==0)=true) (r0:qm0 l rt) (ho:qo4 l rt) (hrc:Fn 72 1 [trS 0 rt l] [(0,0,qac l)] (.pv (.bool false)) 0 []) :
 Fn 34 1 [trS 0 rt l] [(0,0,qac l)] (.pv (iV (8))) 0 []:=
 Fz [] [.t false,Cf hl [0],.k,.t true,.t true,.k,Lf r0,Cf ho [0],.k,Cf hrc [0],.k]
  tI (Ai hm (Co hl [0] 2 (Ai hr (Ai h0 (Lo r0 [] (Co ho [0] 2 (Co hrc [0] 2 tI)))))))
abbrev qld (g:List Int):TmL:=[(1,.pp 1 0),(5,.ls 2 g.length),(6,.pv (iV ((1:Nat):Int)))]
abbrev qmj (l:List Pt) (rt:Int):Prop:=Fn 72 1 [trS 0 rt l] [(0,0,qac l)] (.pv (.bool true)) 0 []
theorem qlo {rt:Int} {l:List Pt} {g:List Int} (hm:decide ((l.length:Int)>64)=false) (hl:qia l rt) (hr:(rt==(-1))=true) (h0:((l.length:Int)==0)=true) (r0:qm0 l rt) (ho:qo4 l rt) (hrc:qmj l rt) (hw:qqq g l rt) (r1:Rl 1 1 34 1 96 3 (qld g) (qmz g l rt) (.ret) ([(2,.pv (iV 8))]) ([])) :
 Fn 34 1 [trS 0 rt l] [(0,0,qac l)] (.pv (iV (8))) 0 []:=
 Fz [] [.t false,Cf hl [0],.k,.t true,.t true,.k,Lf r0,Cf ho [0],.k,Cf ho [0],.k,Cf hw [0],Lf r1]
  tI (Ai hm (Co hl [0] 2 (Ai hr (Ai h0 (Lo r0 [] (Co ho [0] 2 (Co hrc [0] 2 (Co hw [0] 2 (Lo r1 [] tI)))))))))
theorem qnZ {rt:Int} {l:List Pt} {g:List Int} (hm:decide ((l.length:Int)>64)=false) (hl:qia l rt) (hr:(rt==(-1))=true) (h0:((l.length:Int)==0)=true) (r0:qm0 l rt) (ho:qo4 l rt) (hrc:qmj l rt) (hw:qqq g l rt) (r1:Rl 1 1 34 1 96 3 (qld g) (qmz g l rt) (.exit 2) ([]) ([])) :
 Fn 34 1 [trS 0 rt l] [(0,0,qac l)] (.pv (iV (0))) 0 []:=
 Fz [] [.t false,Cf hl [0],.k,.t true,.t true,.k,Lf r0,Cf ho [0],.k,Cf ho [0],.k,Cf hw [0],Lf r1]
  tI (Ai hm (Co hl [0] 2 (Ai hr (Ai h0 (Lo r0 [] (Co ho [0] 2 (Co hrc [0] 2 (Co hw [0] 2 (Lo r1 [] tI)))))))))
theorem qk4 {rt:Int} {l:List Pt} (hm:decide ((l.length:Int)>64)=false) (hl:qia l rt) (hr:(rt==(-1))=false) (h0:((l.length:Int)==0)=false) (r0:qqB l rt) :
 Fn 34 1 [trS 0 rt l] [(0,0,qac l)] (.pv (iV (8))) 0 []:=
 Fz [] [.t false,Cf hl [0],.k,.t false,.t false,.k,Lf r0]
  tI (Ai hm (Co hl [0] 2 (Ai hr (Ai h0 (Lo r0 [] tI)))))
theorem qjK {rt:Int} {l:List Pt} (hm:decide ((l.length:Int)>64)=false) (hl:qia l rt) (hr:(rt==(-1))=false) (h0:((l.length:Int)==0)=false) (r0:qm0 l rt) (ho:Fn 71 1 [trS 0 rt l] [(0,0,qac l)] (.pv (.bool false)) 0 []) :
 Fn 34 1 [trS 0 rt l] [(0,0,qac l)] (.pv (iV (8))) 0 []:=
 Fz [] [.t false,Cf hl [0],.k,.t false,.t false,.k,Lf r0,Cf ho [0],.k]
  tI (Ai hm (Co hl [0] 2 (Ai hr (Ai h0 (Lo r0 [] (Co ho [0] 2 tI))))))
theorem qhK {rt:Int} {l:List Pt} (hm:decide ((l.length:Int)>64)=false) (hl:qia l rt) (hr:(rt==(-1))=false) (h0:((l.length:Int)==0)=false) (r0:qm0 l rt) (ho:qo4 l rt) (hrc:Fn 72 1 [trS 0 rt l] [(0,0,qac l)] (.pv (.bool false)) 0 []) :
 Fn 34 1 [trS 0 rt l] [(0,0,qac l)] (.pv (iV (8))) 0 []:=
 Fz [] [.t false,Cf hl [0],.k,.t false,.t false,.k,Lf r0,Cf ho [0],.k,Cf hrc [0],.k]
  tI (Ai hm (Co hl [0] 2 (Ai hr (Ai h0 (Lo r0 [] (Co ho [0] 2 (Co hrc [0] 2 tI)))))))
theorem qlb {rt:Int} {l:List Pt} {g:List Int} (hm:decide ((l.length:Int)>64)=false) (hl:qia l rt) (hr:(rt==(-1))=false) (h0:((l.length:Int)==0)=false) (r0:qm0 l rt) (ho:qo4 l rt) (hrc:qmj l rt) (hw:qqq g l rt) (r1:Rl 1 1 34 1 96 3 (qld g) (qmz g l rt) (.ret) ([(2,.pv (iV 8))]) ([])) :
 Fn 34 1 [trS 0 rt l] [(0,0,qac l)] (.pv (iV (8))) 0 []:=
 Fz [] [.t false,Cf hl [0],.k,.t false,.t false,.k,Lf r0,Cf ho [0],.k,Cf ho [0],.k,Cf hw [0],Lf r1]
  tI (Ai hm (Co hl [0] 2 (Ai hr (Ai h0 (Lo r0 [] (Co ho [0] 2 (Co hrc [0] 2 (Co hw [0] 2 (Lo r1 [] tI)))))))))
theorem qoC {rt:Int} {l:List Pt} {g:List Int} (hm:decide ((l.length:Int)>64)=false) (hl:qia l rt) (hr:(rt==(-1))=false) (h0:((l.length:Int)==0)=false) (r0:qm0 l rt) (ho:qo4 l rt) (hrc:qmj l rt) (hw:qqq g l rt) (r1:Rl 1 1 34 1 96 3 (qld g) (qmz g l rt) (.exit 2) ([]) ([])) :
 Fn 34 1 [trS 0 rt l] [(0,0,qac l)] (.pv (iV (0))) 0 []:=
 Fz [] [.t false,Cf hl [0],.k,.t false,.t false,.k,Lf r0,Cf ho [0],.k,Cf ho [0],.k,Cf hw [0],Lf r1]
  tI (Ai hm (Co hl [0] 2 (Ai hr (Ai h0 (Lo r0 [] (Co ho [0] 2 (Co hrc [0] 2 (Co hw [0] 2 (Lo r1 [] tI)))))))))
abbrev qry (n:Nat) (s:List Pt) (td:Int) (tn:Int) (vs:List Value):HpL:=[(1,0,.ls 0 s.length),(2,0,.pv (iV tn)),(2,1,.pv (iV td)),(3,0,.pv (iV 0)),(3,1,.pv (.slice none 0 0)),(4,0,.pv (iV 0)),(4,1,.ls 5 n),(0,0,qag s),(5,0,.row 26 3 n (vs))]
theorem qme {tn td:Int} {s:List Pt} {p:Pt} {k n:Nat} {vs:List Value} (hlt:decide ((k:Int)<(s.length:Int))=true) (hk:s[k]?=some p) (hin:0≤(k:Int)∧(k:Int)<(s.length:Int)) (hn:n+1≤1000000) (hs:iV (IntKind.i64.wrap ((k:Int)+1))=iV (((k+1:Nat):Int))) {e:Exit} {tm2:TmL} {hp2:HpL}
 (r:Rl 1 1 65 0 35 6 ([(2,.pp 1 0),(3,.pp 2 0),(4,.pp 3 0),(5,.pp 4 0),(6,.pv (iV ((k+1:Nat):Int)))]) ([(1,0,.ls 0 s.length),(2,0,.pv (iV tn)),(2,1,.pv (iV td)),(3,0,.pv (iV 0)),(3,1,.pv (.slice none 0 0)),(4,0,.pv (iV 0)),(4,1,.ls 5 (n+1)),(0,0,qag s),(5,0,.row 26 3 (n+1) (vs++[iV p.id,iV 0,iV 0]))]) e tm2 hp2):Rl 1 1 65 0 35 6 ([(2,.pp 1 0),(3,.pp 2 0),(4,.pp 3 0),(5,.pp 4 0),(6,.pv (iV (k:Int)))]) (qry n s td tn vs) e tm2 hp2:=
 RunsL.next [(5,7)] 300 [.t true,.md,.r (iV p.id),Re hs]
  (Ro (Ai hlt (Ai hin (Ai (qcv hk) (Ai hn (Ai hs tI)))))) r
theorem qnA {tn td:Int} {s:List Pt} {k n:Nat} {vs:List Value} (hlt:decide ((k:Int)<(s.length:Int))=false):Rl 1 1 65 0 35 6 ([(2,.pp 1 0),(3,.pp 2 0),(4,.pp 3 0),(5,.pp 4 0),(6,.pv (iV (k:Int)))]) (qry n s td tn vs) (.exit 0) ([(2,.pp 1 0),(3,.pp 2 0),(4,.pp 3 0),(5,.pp 4 0)]) (qry n s td tn vs):=
 RunsL.stop [] 300 [.t false] (fun h=>by cases h)
  (Ro (Ai hlt tI))
theorem qmk {z tn td:Int} {s n1:List Pt} {n:Nat} {vs:List Value} (r0:Rl 1 1 65 0 35 6 ([(2,.pp 1 0),(3,.pp 2 0),(4,.pp 3 0),(5,.pp 4 0),(6,.pv (iV ((0:Nat):Int)))]) ([(1,0,.ls 0 s.length),(2,0,.pv (iV tn)),(2,1,.pv (iV td)),(3,0,.pv (iV 0)),(3,1,.pv (.slice none 0 0)),(4,0,.pv (iV 0)),(4,1,.ls 5 0),(0,0,qag s),(5,0,.row 26 3 0 ([]))]) (.exit 0) ([(2,.pp 1 0),(3,.pp 2 0),(4,.pp 3 0),(5,.pp 4 0)]) (qry n s td tn vs)) (hg:FnO Try.prog 94 1 2 [qav 0 s,.pv (qab tn td),.ag [.pv (iV 0),.ls 1 n],.pv (iV (0)),.pv (iV (s.length:Int))] [(0,0,qag s),(1,0,.row 26 3 n (vs))] (.pv (iV (z))) 0 [(1,0,.row 26 3 n (qaz n1))]) :
 Fn 65 1 [qav 0 s,.pv (qab tn td)] [(0,0,qag s)] (.ag [.pv (iV z),.ls 1 n]) 1 [(1,0,.row 26 3 n (qaz n1))]:=
 Fz [(1,5)] [.ln false 4 1 26 3,Lf r0,.fo 1 [0,5] [qav 0 s,.pv (qab tn td),.ag [.pv (iV 0),.ls 1 n],.pv (iV (0)),.pv (iV (s.length:Int))] [(0,0,qag s),(1,0,.row 26 3 n (vs))] (.pv (iV (z))) 0 [(1,0,.row 26 3 n (qaz n1))]]
  (qam (qaF [(1,5)]) [(1,0,.row 26 3 n (qaz n1))]) (Lo r0 [] (Ai hg (Ai (Eq.refl (List.map (SV.ren (qap [0,5] 6)) [qav 0 s,.pv (qab tn td),.ag [.pv (iV 0),.ls 1 n],.pv (iV (0)),.pv (iV (s.length:Int))])) (Ai (qam (qap [0,5] 6) [(0,0,qag s),(1,0,.row 26 3 n (vs))]) tI))))
end Go.Proofs.Ytalnjplghagbpaa

namespace Go.Proofs.Ytalnjplghagbpaa
set_option maxRecDepth 100000
open Go.RowKit
theorem qjY {tn td e:Int} {s:List Pt} (ht:Fn 64 1 [qav 0 s,.pv (qab tn td)] [(0,0,qag s)] (.pv (iV (e))) 0 []) (hte:(e !=0)=true) :
 Fn 29 1 [qav 0 s,.pv (qab tn td)] [(0,0,qag s)] (.pv (.tuple #[.agg #[iV 0,.slice none 0 0],iV (e)])) 0 []:=
 Fz [] [Cf ht [0],.t true]
  tI (Co ht [0] 4 (Ai hte tI))
theorem qn7 {tn td e:Int} {s n1:List Pt} {r1:Int} (ht:Fn 64 1 [qav 0 s,.pv (qab tn td)] [(0,0,qag s)] (.pv (iV (e))) 0 []) (hte:(e !=0)=false) (hm:Fn 65 1 [qav 0 s,.pv (qab tn td)] [(0,0,qag s)] (.ag [.pv (iV r1),.ls 1 n1.length]) 1 [(1,0,qac n1)]) :
 Fn 29 1 [qav 0 s,.pv (qab tn td)] [(0,0,qag s)] (.tu [.ag [.pv (iV r1),.ls 1 n1.length],.one (.pv (iV 0))]) 1 [(1,0,qac n1)]:=
 Fz [(1,4)] [Cf ht [0],.t false,Cf hm [0]]
  (qam (qaF [(1,4)]) [(1,0,qac n1)]) (Co ht [0] 4 (Ai hte (Co hm [0] 4 tI)))
abbrev qjf (e1:Int) (l:List Pt) (rt:Int):Prop:=Fn 34 1 [trS 0 rt l] [(0,0,qac l)] (.pv (iV (e1))) 0 []
theorem qqT {rt e1:Int} {l:List Pt} (hc:qjf e1 l rt) (hce:(e1 !=0)=true) :
 Fn 30 1 [trS 0 rt l] [(0,0,qac l)] (.pv (.tuple #[.slice none 0 0,iV (e1)])) 0 []:=
 Fz [] [Cf hc [0],.t true]
  tI (Co hc [0] 2 (Ai hce tI))
theorem qoa {rt e1:Int} {l:List Pt} {g:List Int} (hc:qjf e1 l rt) (hce:(e1 !=0)=false) (hli:Fn 66 1 [trS 0 rt l] [(0,0,qac l)] (.ls 1 g.length) 1 [(1,0,zrI g)]) :
 Fn 30 1 [trS 0 rt l] [(0,0,qac l)] (.tu [.one (.ls 1 g.length),.one (.pv (iV 0))]) 1 [(1,0,zrI g)]:=
 Fz [(1,2)] [Cf hc [0],.t false,Cf hli [0]]
  (qam (qaF [(1,2)]) [(1,0,zrI g)]) (Co hc [0] 2 (Ai hce (Co hli [0] 2 tI)))
theorem qtl {rt x:Int} {l m:List Pt} {w:Bool} (hal:Fn 95 2 [trS 0 rt l,trS 1 x m,.pv (iV (rt)),.pv (iV (x))] [(0,0,qac l),(1,0,qac m)] (.pv (.bool w)) 0 []) :
 Fn 67 2 [trS 0 rt l,trS 1 x m] [(0,0,qac l),(1,0,qac m)] (.pv (.bool w)) 0 []:=
 Fz [] [Cf hal [0,1]]
  tI (Co hal [0,1] 4 tI)
theorem qsz {rt tn td e1:Int} {s l:List Pt} (hc:qjf e1 l rt) (hce:(e1 !=0)=true) :
 Fn 31 2 [trS 0 rt l,qav 1 s,.pv (qab tn td)] [(0,0,qac l),(1,0,qag s)] (.pv (.tuple #[.bool false,iV (e1)])) 0 []:=
 Fz [] [Cf hc [0],.t true]
  tI (Co hc [0] 5 (Ai hce tI))
theorem qq4 {rt tn td e e1:Int} {s l:List Pt} (hc:qjf e1 l rt) (hce:(e1 !=0)=false) (ht:Fn 64 1 [qav 0 s,.pv (qab tn td)] [(0,0,qag s)] (.pv (iV (e))) 0 []) (hte:(e !=0)=true) :
 Fn 31 2 [trS 0 rt l,qav 1 s,.pv (qab tn td)] [(0,0,qac l),(1,0,qag s)] (.pv (.tuple #[.bool false,iV (e)])) 0 []:=
 Fz [] [Cf hc [0],.t false,Cf ht [1],.t true]
  tI (Co hc [0] 5 (Ai hce (Co ht [1] 5 (Ai hte tI))))
theorem qqr {rt tn td e e1:Int} {s l n1:List Pt} {w:Bool} {r1:Int} (hc:qjf e1 l rt) (hce:(e1 !=0)=false) (ht:Fn 64 1 [qav 0 s,.pv (qab tn td)] [(0,0,qag s)] (.pv (iV (e))) 0 []) (hte:(e !=0)=false) (hm:Fn 65 1 [qav 0 s,.pv (qab tn td)] [(0,0,qag s)] (.ag [.pv (iV r1),.ls 1 n1.length]) 1 [(1,0,qac n1)]) (hal:Fn 67 2 [trS 0 rt l,trS 1 r1 n1] [(0,0,qac l),(1,0,qac n1)] (.pv (.bool w)) 0 []) :
 Fn 31 2 [trS 0 rt l,qav 1 s,.pv (qab tn td)] [(0,0,qac l),(1,0,qag s)] (.pv (.tuple #[.bool w,iV (0)])) 0 []:=
 Fz [] [Cf hc [0],.t false,Cf ht [1],.t false,.md,Cf hm [1],Cf hal [0,5]]
  tI (Co hc [0] 5 (Ai hce (Co ht [1] 5 (Ai hte (Co hm [1] 5 (Co hal [0,5] 6 tI))))))
theorem qsG {rt z e1:Int} {l:List Pt} (hc:qjf e1 l rt) (hce:(e1 !=0)=true) :
 Fn 32 1 [trS 0 rt l,.pv (iV (z))] [(0,0,qac l)] (.pv (.tuple #[iV (0),iV (e1)])) 0 []:=
 Fz [] [Cf hc [0],.t true]
  tI (Co hc [0] 2 (Ai hce tI))
theorem qqI {rt y z e1:Int} {l:List Pt} (hc:qjf e1 l rt) (hce:(e1 !=0)=false) (hat:Fn 68 1 [trS 0 rt l,.pv (iV (z))] [(0,0,qac l)] (.pv (iV (y))) 0 []) (hy:decide (y<0)=true) :
 Fn 32 1 [trS 0 rt l,.pv (iV (z))] [(0,0,qac l)] (.pv (.tuple #[iV (0),iV (6)])) 0 []:=
 Fz [] [Cf hc [0],.t false,Cf hat [0],.t true]
  tI (Co hc [0] 2 (Ai hce (Co hat [0] 2 (Ai hy tI))))
theorem qrl {rt y z v e1:Int} {l:List Pt} (hc:qjf e1 l rt) (hce:(e1 !=0)=false) (hat:Fn 68 1 [trS 0 rt l,.pv (iV (z))] [(0,0,qac l)] (.pv (iV (y))) 0 []) (hy:decide (y<0)=false) (hab:Fn 69 1 [trS 0 rt l,.pv (iV (z))] [(0,0,qac l)] (.pv (iV (v))) 0 []) :
 Fn 32 1 [trS 0 rt l,.pv (iV (z))] [(0,0,qac l)] (.pv (.tuple #[iV (v),iV (0)])) 0 []:=
 Fz [] [Cf hc [0],.t false,Cf hat [0],.t false,Cf hab [0]]
  tI (Co hc [0] 2 (Ai hce (Co hat [0] 2 (Ai hy (Co hab [0] 2 tI)))))
theorem qsp {rt x e1:Int} {l m:List Pt} (hc:qjf e1 l rt) (hce:(e1 !=0)=true) :
 Fn 33 2 [trS 0 rt l,trS 1 x m] [(0,0,qac l),(1,0,qac m)] (.pv (.tuple #[.bool false,iV (e1)])) 0 []:=
 Fz [] [Cf hc [0],.t true]
  tI (Co hc [0] 4 (Ai hce tI))
theorem qqA {rt x e1:Int} {l m:List Pt} {e2:Int} (hc:qjf e1 l rt) (hce:(e1 !=0)=false) (hc2:Fn 34 1 [trS 0 x m] [(0,0,qac m)] (.pv (iV (e2))) 0 []) (hce2:(e2 !=0)=true) :
 Fn 33 2 [trS 0 rt l,trS 1 x m] [(0,0,qac l),(1,0,qac m)] (.pv (.tuple #[.bool false,iV (e2)])) 0 []:=
 Fz [] [Cf hc [0],.t false,Cf hc2 [1],.t true]
  tI (Co hc [0] 4 (Ai hce (Co hc2 [1] 4 (Ai hce2 tI))))
theorem qpQ {rt x e1:Int} {l m:List Pt} {w:Bool} {e2:Int} (hc:qjf e1 l rt) (hce:(e1 !=0)=false) (hc2:Fn 34 1 [trS 0 x m] [(0,0,qac m)] (.pv (iV (e2))) 0 []) (hce2:(e2 !=0)=false) (hal:Fn 67 2 [trS 0 rt l,trS 1 x m] [(0,0,qac l),(1,0,qac m)] (.pv (.bool w)) 0 []) :
 Fn 33 2 [trS 0 rt l,trS 1 x m] [(0,0,qac l),(1,0,qac m)] (.pv (.tuple #[.bool w,iV (0)])) 0 []:=
 Fz [] [Cf hc [0],.t false,Cf hc2 [1],.t false,Cf hal [0,1]]
  tI (Co hc [0] 4 (Ai hce (Co hc2 [1] 4 (Ai hce2 (Co hal [0,1] 4 tI)))))
end Go.Proofs.Ytalnjplghagbpaa

namespace Go.Proofs.Ytalnjplghagbpaa
set_option maxRecDepth 100000
open Go.RowKit
def wL (T:Sh Nat):List Int:=T.list.map fun k:Nat=>(k:Int)
theorem qcd (T:Sh Nat):(wL T).length=T.list.length:=List.length_map ..
theorem qer (a b:Sh Nat) (k:Nat):wL (.node a k b)=wL a++((k:Int)::wL b):=by simp[wL,Sh.list]
theorem qc1:wL .nil=[]:=rfl
theorem qdi {T:Sh Nat} {j k:Nat} (h:T.list[j]?=some k):(wL T)[j]?=some (k:Int):=by unfold wL;rw[List.getElem?_map,h];rfl
theorem qa4 (g:List Int) (x:Int):ziV (g++[x])=ziV g++[iV x]:=qhJ g [x]
section
variable {rt:Int} {l:List Pt}
theorem qoN (hl:l.length≤999999):∀ {T:Sh Nat} {z:Int} (g:List Int) {n:Nat} {v:List Value},Rep l z T→n=g.length→v=ziV g→n+T.list.length≤l.length→T≠.nil→
 FnO Try.prog 96 1 2 [trS 0 rt l,.pv (iV z),.ls 1 n] [(0,0,qac l),(1,0,.row 3 1 n v)] (.ls 2 (g++wL T).length) 1 [(2,0,zrI (g++wL T))]:=by
 intro T
 induction T with
 | nil=>intro z g n v _ _ _ _ h;exact (h rfl).elim
 | node a k b iha ihb=>
  intro z g n v hr hn hv hlen _
  subst hn hv
  obtain⟨hz,p,hp,a1,a2⟩:=hr
  subst hz
  have hkl:=qal hp
  have hs:(Sh.node a k b).list.length=a.list.length+(b.list.length+1):=by simp[Sh.list]
  rw[hs] at hlen
  have e:g++wL (.node a k b)=((g++wL a)++[(k:Int)])++wL b:=by rw[qer];simp
  have c0:decide ((k:Int)<0)=false:=df (by omega)
  have c1:decide ((g.length:Int)>(l.length:Int))=false:=df (by omega)
  have hin:0≤(k:Int)∧(k:Int)<(l.length:Int):=⟨by omega,by omega⟩
  have la:(g++wL a).length=g.length+a.list.length:=by rw[List.length_append,qcd]
  have lr:∀ c:List Int,(c++[(k:Int)]).length=c.length+1:=fun c=>by simp
  by_cases ea:a=.nil
  ·subst ea
   have ga:g++wL .nil=g:=by rw[qc1,List.append_nil]
   rw[ga] at e
   have pa:p.a = -1:=a1
   have hL:=qcK (rt:=rt) (l:=l) (z:=p.a) (n:=g.length) (vs:=ziV g) (dt (by omega))
   by_cases eb:b=.nil
   ·subst eb
    have pb:p.b = -1:=a2
    rw[e,qc1,List.append_nil]
    have:=qpO (h0:=c0) (h1:=c1) (hk:=hp) (hin:=hin) (hl:=hL) (hn:=by omega) (hr:=qcK (rt:=rt) (l:=l) (z:=p.b) (n:=g.length+1) (vs:=ziV g++[iV (k:Int)]) (dt (by omega)))
    rw[zrI,lr,qa4]
    exact this
   ·rw[e]
    exact qre (h0:=c0) (h1:=c1) (hk:=hp) (hin:=hin) (hl:=hL) (hn:=by omega) (hr:=ihb (g++[(k:Int)]) a2 (lr g).symm (qa4 g k).symm (by omega) eb)
  ·have hL:=iha g a1 rfl rfl (by omega) ea
   by_cases eb:b=.nil
   ·subst eb
    have pb:p.b = -1:=a2
    rw[e,qc1,List.append_nil]
    have:=qrm (h0:=c0) (h1:=c1) (hk:=hp) (hin:=hin) (hl:=hL) (hn:=by omega) (hr:=qcK (rt:=rt) (l:=l) (z:=p.b) (n:=(g++wL a).length+1) (vs:=ziV (g++wL a)++[iV (k:Int)]) (dt (by omega)))
    rw[zrI,lr,qa4]
    exact this
   ·rw[e]
    exact qpi (h0:=c0) (h1:=c1) (hk:=hp) (hin:=hin) (hl:=hL) (hn:=by omega) (hr:=ihb ((g++wL a)++[(k:Int)]) a2 (lr _).symm (qa4 _ k).symm (by omega) eb)
theorem qmP (hl:l.length≤999999) {T:Sh Nat} {z:Int} (hr:Rep l z T) (hlen:T.list.length≤l.length) (hT:T≠.nil) :
 Fn 96 1 [trS 0 rt l,.pv (iV z),.pv (.slice none 0 0)] [(0,0,qac l)] (.ls 1 (wL T).length) 1 [(1,0,zrI (wL T))]:=by
 cases T with
 | nil=>exact (hT rfl).elim
 | node a k b=>
  obtain⟨hz,p,hp,a1,a2⟩:=hr
  subst hz
  have hkl:=qal hp
  have hs:(Sh.node a k b).list.length=a.list.length+(b.list.length+1):=by simp[Sh.list]
  rw[hs] at hlen
  have e:wL (.node a k b)=(wL a++[(k:Int)])++wL b:=by rw[qer];simp
  have c0:decide ((k:Int)<0)=false:=df (by omega)
  have c1:decide ((0:Int)>(l.length:Int))=false:=df (by omega)
  have hin:0≤(k:Int)∧(k:Int)<(l.length:Int):=⟨by omega,by omega⟩
  have la:(wL a).length=a.list.length:=qcd a
  have lr:∀ c:List Int,(c++[(k:Int)]).length=c.length+1:=fun c=>by simp
  by_cases ea:a=.nil
  ·subst ea
   rw[qc1,List.nil_append] at e
   have pa:p.a = -1:=a1
   have hL:=qcK (rt:=rt) (l:=l) (z:=p.a) (n:=0) (vs:=[]) (dt (by omega))
   by_cases eb:b=.nil
   ·subst eb
    have pb:p.b = -1:=a2
    rw[e,qc1,List.append_nil]
    exact qrn (h0:=c0) (h1:=c1) (hk:=hp) (hin:=hin) (hl:=hL) (hn:=by omega) (hr:=qcK (rt:=rt) (l:=l) (z:=p.b) (n:=0+1) (vs:=[]++[iV (k:Int)]) (dt (by omega)))
   ·rw[e]
    exact qpC (h0:=c0) (h1:=c1) (hk:=hp) (hin:=hin) (hl:=hL) (hn:=by omega) (hr:=qoN hl [(k:Int)] a2 rfl rfl (by omega) eb)
  ·have hL:=qoN (rt:=rt) (n:=0) hl [] a1 rfl rfl (by omega) ea
   rw[List.nil_append] at hL
   by_cases eb:b=.nil
   ·subst eb
    have pb:p.b = -1:=a2
    rw[e,qc1,List.append_nil]
    have:=qrd (h0:=c0) (h1:=c1) (hk:=hp) (hin:=hin) (hl:=hL) (hn:=by omega) (hr:=qcK (rt:=rt) (l:=l) (z:=p.b) (n:=(wL a).length+1) (vs:=ziV (wL a)++[iV (k:Int)]) (dt (by omega)))
    rw[zrI,lr,qa4]
    exact this
   ·rw[e]
    exact qpU (h0:=c0) (h1:=c1) (hk:=hp) (hin:=hin) (hl:=hL) (hn:=by omega) (hr:=qoN hl (wL a++[(k:Int)]) a2 (lr _).symm (qa4 _ k).symm (by omega) eb)
theorem qm3 (hl:l.length≤999999) {T:Sh Nat} (hr:Rep l rt T) (hlen:T.list.length≤l.length) :
 Fn 73 1 [trS 0 rt l] [(0,0,qac l)] (.ls 1 (wL T).length) 1 [(1,0,zrI (wL T))]:=by
 by_cases hT:T=.nil
 ·subst hT
  have h:rt = -1:=hr
  exact qfz 3 1 (qoo (hw:=qfF (h0:=dt (by omega)))) .ls
 ·exact qpM (hw:=qmP hl hr hlen hT)
theorem qpr (hl:l.length≤999999) {T:Sh Nat} (hr:Rep l rt T) (hlen:T.list.length≤l.length) :
 Fn 72 1 [trS 0 rt l] [(0,0,qac l)] (.pv (.bool (decide (T.list.length=l.length)))) 0 []:=by
 by_cases hT:T=.nil
 ·subst hT
  have h:rt = -1:=hr
  by_cases e:l.length=0
  ·rw[show decide ((Sh.nil:Sh Nat).list.length=l.length)=true from decide_eq_true (by rw[e];rfl)]
   exact qni (hw:=qfF (h0:=dt (by omega))) (he:=by rw[e];rfl)
  ·rw[show decide ((Sh.nil:Sh Nat).list.length=l.length)=false from decide_eq_false (fun h=>e h.symm)]
   exact qlY (hw:=qfF (h0:=dt (by omega))) (he:=beq_eq_false_iff_ne.2 (by omega))
 ·have hw:=qmP (rt:=rt) hl hr hlen hT
  have hg:=qcd T
  by_cases e:T.list.length=l.length
  ·rw[decide_eq_true e]
   exact qkj (hw:=hw) (he:=beq_iff_eq.2 (by omega))
  ·rw[decide_eq_false e]
   exact qio (hw:=hw) (he:=beq_eq_false_iff_ne.2 (by omega))
def lsI (l:List Pt) (T:Sh Nat):List Int:=T.list.map (idN l)
theorem qfL (T:Sh Nat):(lsI l T).length=T.list.length:=List.length_map ..
theorem qog (hl:l.length≤999999) {T:Sh Nat} (hr:Rep l rt T) (hlen:T.list.length≤l.length) :
 Fn 66 1 [trS 0 rt l] [(0,0,qac l)] (.ls 1 (lsI l T).length) 1 [(1,0,zrI (lsI l T))]:=by
 have hg:=qcd T
 have htake:∀ j,(T.list.take j).map (idN l)=(lsI l T).take j:=fun j=>by unfold lsI;rw[List.map_take]
 have run:=RunsL.roundsZ (fun j=>[(1,.pp 1 0),(3,.ls 3 j),(4,.ls 2 (wL T).length),(5,.pv (iV (j:Int)))])
  (fun j=>[(1,0,.pv (iV rt)),(1,1,.ls 0 l.length),(0,0,qac l),(2,0,zrI (wL T)),(3,0,.row 3 1 j (ziV ((lsI l T).take j)))]) (N:=T.list.length) T.list.length 0 (Nat.zero_add _) (fun j _ hj r=>by
   obtain⟨k,hk⟩:∃ k,T.list[j]?=some k:=⟨_,List.getElem?_eq_getElem hj⟩
   have hkl:=hr.lt k (List.mem_of_getElem? hk)
   have hid:(lsI l T)[j]?=some (idN l k):=by unfold lsI;rw[List.getElem?_map,hk];rfl
   have hp:=qau hkl
   have e:ziV ((lsI l T).take (j+1))=ziV ((lsI l T).take j)++[iV (ndT l k).id]:=by
    rw[qbV hid,qa4,← qaC hp]
   rw[e] at r
   exact qkD (hlt:=dt (by omega)) (hin:=⟨by omega,by omega⟩) (hg:=qdi hk) (hiz:=⟨by omega,by omega⟩) (hk:=hp) (hn:=by omega) (hs:=qaj (by omega)) r) (qnt (rt:=rt) (l:=l) (g:=wL T) (k:=T.list.length) (n:=T.list.length) (vs:=ziV ((lsI l T).take T.list.length)) (hlt:=df (by omega)))
 rw[List.take_of_length_le (Nat.le_of_eq (qfL T))] at run
 rw[zrI,qfL]
 exact qpS (hw:=qm3 hl hr hlen) (r0:=run)
end
end Go.Proofs.Ytalnjplghagbpaa
