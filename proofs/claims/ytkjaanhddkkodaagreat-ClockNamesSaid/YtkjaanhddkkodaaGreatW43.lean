/-
  Joined: Ba, Bb. Conditions: none.
-/
import Derived.Test.YtkjaanhddkkodaaGreatW40
import Derived.Test.YtkjaanhddkkodaaGreatW18
namespace Go.Proofs.YtkjaanhddkkodaaGreat
set_option maxRecDepth 100000
open Go.RowKit
theorem qA7 {a pa pb n:Int} (n1:(!(a==a))=false) (n2:(!(n==n))=false) (h1:decide (a<n)=true) :
 Pure Tryz.prog 193 #[qac a pa pb,iV n] (iV (-1)):=
 qad (args:=[qac a pa pb,iV n]) 300 [.k,.k,.t false,.k,.t false,.t true]
  (Ai rfl (Ai n1 (Ai n2 (Ai h1 tI)))) (by kernel_rfl)
theorem qAs {a pa pb n:Int} (n1:(!(a==a))=false) (n2:(!(n==n))=false) (h1:decide (a<n)=false) (h2:decide (a>n)=true) :
 Pure Tryz.prog 193 #[qac a pa pb,iV n] (iV (1)):=
 qad (args:=[qac a pa pb,iV n]) 300 [.k,.k,.t false,.k,.t false,.t false,.t true]
  (Ai rfl (Ai n1 (Ai n2 (Ai h1 (Ai h2 tI))))) (by kernel_rfl)
theorem qAU {a pa pb n:Int} (n1:(!(a==a))=false) (n2:(!(n==n))=false) (h1:decide (a<n)=false) (h2:decide (a>n)=false) :
 Pure Tryz.prog 193 #[qac a pa pb,iV n] (iV (0)):=
 qad (args:=[qac a pa pb,iV n]) 300 [.k,.k,.t false,.k,.t false,.t false,.t false]
  (Ai rfl (Ai n1 (Ai n2 (Ai h1 (Ai h2 tI))))) (by kernel_rfl)
abbrev qBI (i:Nat) (j:Nat) (l:List Pt) (n:Int):TmL:=[(0,.ls 0 l.length),(1,.pv (iV n)),(2,.pv (.func (.func 193) #[] #[])),(8,.pv (iV (l.length:Int))),(9,.pv (iV (i:Int))),(10,.pv (iV (j:Int)))]
abbrev qqD (c:Int) (n:Int) (p:Pt):Prop:=Pure Tryz.prog 193 #[qac p.id p.a p.b,iV n] (iV (c))
theorem qAc {l:List Pt} {i j h:Nat} {p:Pt} {c n:Int} (hk:l[h]?=some p) (hin:0≤(h:Int)∧(h:Int)<(l.length:Int)) (hlt:decide ((i:Int)<(j:Int))=true) (ha:iV (IntKind.i64.wrap ((i:Int)+(j:Int)))=iV ((i:Int)+(j:Int))) (hu:Value.int .u64 (IntKind.u64.wrap ((i:Int)+(j:Int)))=.int .u64 ((i:Int)+(j:Int))) (h1:¬ (1:Int)<0) (hs:Value.int .u64 (((i:Int)+(j:Int)).fdiv (2 ^ (min (1:Int).toNat IntKind.u64.bits)))=.int .u64 (h:Int)) (hb:iV (IntKind.i64.wrap (h:Int))=iV (h:Int)) (hc:qqD c n p) (hz:decide (c<0)=true) (hh:iV (IntKind.i64.wrap ((h:Int)+1))=iV (((h+1:Nat):Int))) {e:Exit} {tm2:TmL} {hp2:HpL}
 (r:Rl 1 1 192 0 49 1 ([(0,.ls 0 l.length),(1,.pv (iV n)),(2,.pv (.func (.func 193) #[] #[])),(8,.pv (iV (l.length:Int))),(9,.pv (iV ((h+1:Nat):Int))),(10,.pv (iV (j:Int)))]) ([(0,0,qaj l)]) e tm2 hp2):Rl 1 1 192 0 49 1 (qBI i j l n) ([(0,0,qaj l)]) e tm2 hp2:=
 RunsL.next [] 300 [.t true,Re ha,Re hu,.r (.int .u64 (h:Int)),Re hb,.r (ptV p),Rf hc,.t true,Re hh]
  (Ro (Ai hlt (Ai ha (Ai hu (Ai h1 (Ai hs (Ai hb (Ai hin (Ai (qaN hk) (Ai hc (Ai hz (Ai hh tI)))))))))))) r
theorem qyD {l:List Pt} {i j h:Nat} {p:Pt} {c n:Int} (hk:l[h]?=some p) (hin:0≤(h:Int)∧(h:Int)<(l.length:Int)) (hlt:decide ((i:Int)<(j:Int))=true) (ha:iV (IntKind.i64.wrap ((i:Int)+(j:Int)))=iV ((i:Int)+(j:Int))) (hu:Value.int .u64 (IntKind.u64.wrap ((i:Int)+(j:Int)))=.int .u64 ((i:Int)+(j:Int))) (h1:¬ (1:Int)<0) (hs:Value.int .u64 (((i:Int)+(j:Int)).fdiv (2 ^ (min (1:Int).toNat IntKind.u64.bits)))=.int .u64 (h:Int)) (hb:iV (IntKind.i64.wrap (h:Int))=iV (h:Int)) (hc:qqD c n p) (hz:decide (c<0)=false) {e:Exit} {tm2:TmL} {hp2:HpL}
 (r:Rl 1 1 192 0 49 1 ([(0,.ls 0 l.length),(1,.pv (iV n)),(2,.pv (.func (.func 193) #[] #[])),(8,.pv (iV (l.length:Int))),(9,.pv (iV (i:Int))),(10,.pv (iV (h:Int)))]) ([(0,0,qaj l)]) e tm2 hp2):Rl 1 1 192 0 49 1 (qBI i j l n) ([(0,0,qaj l)]) e tm2 hp2:=
 RunsL.next [] 300 [.t true,Re ha,Re hu,.r (.int .u64 (h:Int)),Re hb,.r (ptV p),Rf hc,.t false]
  (Ro (Ai hlt (Ai ha (Ai hu (Ai h1 (Ai hs (Ai hb (Ai hin (Ai (qaN hk) (Ai hc (Ai hz tI))))))))))) r
theorem qol {l:List Pt} {i j:Nat} {n:Int} (hge:decide ((i:Int)<(j:Int))=false):Rl 1 1 192 0 49 1 (qBI i j l n) ([(0,0,qaj l)]) (.exit 0) (qBI i j l n) ([(0,0,qaj l)]):=
 RunsL.stop [] 300 [.t false] (fun h=>by cases h)
  (Ro (Ai hge tI))
abbrev qCc (k:Nat) (l:List Pt) (n:Int):Prop:=Rl 1 1 192 0 49 1 ([(0,.ls 0 l.length),(1,.pv (iV n)),(2,.pv (.func (.func 193) #[] #[])),(8,.pv (iV (l.length:Int))),(9,.pv (iV ((0:Nat):Int))),(10,.pv (iV (l.length:Int)))]) ([(0,0,qaj l)]) (.exit 0) ([(0,.ls 0 l.length),(1,.pv (iV n)),(2,.pv (.func (.func 193) #[] #[])),(8,.pv (iV (l.length:Int))),(9,.pv (iV (k:Int))),(10,.pv (iV (k:Int)))]) ([(0,0,qaj l)])
theorem qv7 {l:List Pt} {k:Nat} {n:Int} (r0:qCc k l n) (hge:decide ((k:Int)<(l.length:Int))=false) :
 Fn 192 1 [.ls 0 l.length,.pv (iV (n)),.pv (.func (.func 193) #[] #[])] [(0,0,qaj l)] (.pv (.tuple #[iV (k:Int),.bool false])) 0 []:=
 Fz [] [Lf r0,.t false]
  tI (Lo r0 [] (Ai hge tI))
theorem qws {l:List Pt} {k:Nat} {p:Pt} {c:Int} {n:Int} (r0:qCc k l n) (hk:l[k]?=some p) (hin:0≤(k:Int)∧(k:Int)<(l.length:Int)) (hlt:decide ((k:Int)<(l.length:Int))=true) (hc:qqD c n p) (hz:(c==0)=true) :
 Fn 192 1 [.ls 0 l.length,.pv (iV (n)),.pv (.func (.func 193) #[] #[])] [(0,0,qaj l)] (.pv (.tuple #[iV (k:Int),.bool true])) 0 []:=
 Fz [] [Lf r0,.t true,.r (ptV p),Rf hc,.t true]
  tI (Lo r0 [] (Ai hlt (Ai hin (Ai (qaN hk) (Ai hc (Ai hz tI))))))
theorem qx7 {l:List Pt} {k:Nat} {p:Pt} {c:Int} {n:Int} (r0:qCc k l n) (hk:l[k]?=some p) (hin:0≤(k:Int)∧(k:Int)<(l.length:Int)) (hlt:decide ((k:Int)<(l.length:Int))=true) (hc:qqD c n p) (hz:(c==0)=false) :
 Fn 192 1 [.ls 0 l.length,.pv (iV (n)),.pv (.func (.func 193) #[] #[])] [(0,0,qaj l)] (.pv (.tuple #[iV (k:Int),.bool false])) 0 []:=
 Fz [] [Lf r0,.t true,.r (ptV p),Rf hc,.t false]
  tI (Lo r0 [] (Ai hlt (Ai hin (Ai (qaN hk) (Ai hc (Ai hz tI))))))
theorem qmc {s:List Pt} {p:Pt} {k:Nat} {n:Int} (hb:Fn 192 1 [.ls 0 s.length,.pv (iV (n)),.pv (.func (.func 193) #[] #[])] [(0,0,qaj s)] (.pv (.tuple #[iV (k:Int),.bool true])) 0 []) (hk:s[k]?=some p) (hin:0≤(k:Int)∧(k:Int)<(s.length:Int)) :
 Fn 147 1 [qaE 0 s,.pv (iV (n))] [(0,0,qaj s)] (.pv (.tuple #[ptV p,.bool true])) 0 []:=
 Fz [] [Cf hb [0],.k,.r (ptV p)]
  tI (Co hb [0] 3 (Ai hin (Ai (qaN hk) tI)))
theorem qx4 {s:List Pt} {k:Nat} {n:Int} (hb:Fn 192 1 [.ls 0 s.length,.pv (iV (n)),.pv (.func (.func 193) #[] #[])] [(0,0,qaj s)] (.pv (.tuple #[iV (k:Int),.bool false])) 0 []) :
 Fn 147 1 [qaE 0 s,.pv (iV (n))] [(0,0,qaj s)] (.pv (.tuple #[ptV (Pt.mk 0 0 0),.bool false])) 0 []:=
 Fz [] [Cf hb [0],.k]
  tI (Co hb [0] 3 tI)
theorem cfl {c:Ck} {p q:Pt} {a b tn td:Int} {w:Bool} (h1:Fn 147 1 [qaE 0 c.s,.pv (iV (b))] [(0,0,qaj c.s)] (.pv (.tuple #[ptV p,.bool true])) 0 []) (h2:Fn 147 1 [qaE 0 c.s,.pv (iV (a))] [(0,0,qaj c.s)] (.pv (.tuple #[ptV q,.bool true])) 0 []) (hl:Pure Tryz.prog 154 #[ptV p,ptV q,qaa c.tn c.td] (.tuple #[qaa tn td,.bool w,iV 0])) :
 Fn 109 8 [qam c,.pv (qaf a b)] (qas c) (.pv (.tuple #[qaa tn td,.bool w])) 0 []:=
 Fz [] [Cf h1 [0],Cf h2 [0],Rf hl]
  tI (Co h1 [0] 11 (Co h2 [0] 12 (Ai hl tI)))
theorem qxF {s:List Pt} {p q:Pt} {a b:Int} (h1:Fn 147 1 [qaE 0 s,.pv (iV (b))] [(0,0,qaj s)] (.pv (.tuple #[ptV p,.bool true])) 0 []) (h2:Fn 147 1 [qaE 0 s,.pv (iV (a))] [(0,0,qaj s)] (.pv (.tuple #[ptV q,.bool true])) 0 []) :
 Fn 102 1 [qaE 0 s,.pv (qaf a b)] [(0,0,qaj s)] (.pv (.bool true)) 0 []:=
 Fz [] [Cf h1 [0],Cf h2 [0]]
  tI (Co h1 [0] 3 (Co h2 [0] 4 tI))
theorem qym {s:List Pt} {p q:Pt} {a b:Int} (h1:Fn 147 1 [qaE 0 s,.pv (iV (b))] [(0,0,qaj s)] (.pv (.tuple #[ptV p,.bool true])) 0 []) (h2:Fn 147 1 [qaE 0 s,.pv (iV (a))] [(0,0,qaj s)] (.pv (.tuple #[ptV q,.bool false])) 0 []) :
 Fn 102 1 [qaE 0 s,.pv (qaf a b)] [(0,0,qaj s)] (.pv (.bool false)) 0 []:=
 Fz [] [Cf h1 [0],Cf h2 [0]]
  tI (Co h1 [0] 3 (Co h2 [0] 4 tI))
theorem qC3 {s:List Pt} {p q:Pt} {a b:Int} {w:Bool} (h1:Fn 147 1 [qaE 0 s,.pv (iV (b))] [(0,0,qaj s)] (.pv (.tuple #[ptV p,.bool false])) 0 []) (h2:Fn 147 1 [qaE 0 s,.pv (iV (a))] [(0,0,qaj s)] (.pv (.tuple #[ptV q,.bool w])) 0 []) :
 Fn 102 1 [qaE 0 s,.pv (qaf a b)] [(0,0,qaj s)] (.pv (.bool false)) 0 []:=
 Fz [] [Cf h1 [0],Cf h2 [0]]
  tI (Co h1 [0] 3 (Co h2 [0] 4 tI))
abbrev qkZ (l:List Pt) (s:List Pt):HpL:=[(2,0,.ls 0 s.length),(0,0,qaj s),(1,0,qal l)]
abbrev quI (k:Nat) (l:List Pt):TmL:=[(2,.pp 2 0),(8,.ls 1 l.length),(9,.pv (iV (l.length:Int))),(10,.pv (iV (k:Int)))]
theorem qj0 {s:List Pt} {p:Pt} {k:Nat} {l:List Pt} (hk:l[k]?=some p) (hin:0≤(k:Int)∧(k:Int)<(l.length:Int)) (hlt:decide ((k:Int)<(l.length:Int))=true) (hb:Fn 102 1 [qaE 0 s,.pv (qaf p.a p.b)] [(0,0,qaj s)] (.pv (.bool true)) 0 []) (hs:iV (IntKind.i64.wrap ((k:Int)+1))=iV (((k+1:Nat):Int))) {e:Exit} {tm2:TmL} {hp2:HpL}
 (r:Rl 2 2 64 0 20 4 ([(2,.pp 2 0),(8,.ls 1 l.length),(9,.pv (iV (l.length:Int))),(10,.pv (iV ((k+1:Nat):Int)))]) (qkZ l s) e tm2 hp2):Rl 2 2 64 0 20 4 (quI k l) (qkZ l s) e tm2 hp2:=
 RunsL.next [] 300 [.t true,.r (ptV p),Cf hb [0],.k,Re hs]
  (Ro (Ai hlt (Ai hin (Ai (qaN hk) (Co hb [0] 5 (Ai hs tI)))))) r
theorem qu3 {s:List Pt} {p:Pt} {k:Nat} {l:List Pt} (hk:l[k]?=some p) (hin:0≤(k:Int)∧(k:Int)<(l.length:Int)) (hlt:decide ((k:Int)<(l.length:Int))=true) (hb:Fn 102 1 [qaE 0 s,.pv (qaf p.a p.b)] [(0,0,qaj s)] (.pv (.bool false)) 0 []):Rl 2 2 64 0 20 4 (quI k l) (qkZ l s) (.ret) ([(4,.pv (iV 6))]) ([]):=
 RunsL.stop [] 300 [.t true,.r (ptV p),Cf hb [0],.k] (fun h=>by cases h)
  (Ro (Ai hlt (Ai hin (Ai (qaN hk) (Co hb [0] 5 tI)))))
theorem qv5 {s:List Pt} {k:Nat} {l:List Pt} (hge:decide ((k:Int)<(l.length:Int))=false):Rl 2 2 64 0 20 4 (quI k l) (qkZ l s) (.exit 0) ([]) ([]):=
 RunsL.stop [] 300 [.t false] (fun h=>by cases h)
  (Ro (Ai hge tI))
theorem qAl {s:List Pt} {x2:Int} {l:List Pt} (r0:Rl 2 2 64 0 20 4 ([(2,.pp 2 0),(8,.ls 1 l.length),(9,.pv (iV (l.length:Int))),(10,.pv (iV ((0:Nat):Int)))]) (qkZ l s) (.ret) ([(4,.pv (iV 6))]) ([])) :
 Fn 64 2 [qaE 0 s,qaP 1 x2 l] [(0,0,qaj s),(1,0,qal l)] (.pv (iV (6))) 0 []:=
 Fz [] [Lf r0]
  tI (Lo r0 [] tI)
theorem qzC {s:List Pt} {x2:Int} {l:List Pt} (r0:Rl 2 2 64 0 20 4 ([(2,.pp 2 0),(8,.ls 1 l.length),(9,.pv (iV (l.length:Int))),(10,.pv (iV ((0:Nat):Int)))]) (qkZ l s) (.exit 0) ([]) ([])) :
 Fn 64 2 [qaE 0 s,qaP 1 x2 l] [(0,0,qaj s),(1,0,qal l)] (.pv (iV (0))) 0 []:=
 Fz [] [Lf r0]
  tI (Lo r0 [] tI)
abbrev qD0 (c:Ck) (k:Nat) (m:Nat):TmL:=[(1,.pp 8 0),(3,.ls 9 (m)),(10,.ls 1 c.l.length),(11,.pv (iV (c.l.length:Int))),(12,.pv (iV (k:Int)))]
theorem qp0 {c:Ck} {p:Pt} {k m:Nat} {tn td:Int} {vs:List Value} (hk:c.l[k]?=some p) (hin:0≤(k:Int)∧(k:Int)<(c.l.length:Int)) (hlt:decide ((k:Int)<(c.l.length:Int))=true) (hf:Fn 109 8 [qam c,.pv (qaf p.a p.b)] (qas c) (.pv (.tuple #[qaa tn td,.bool false])) 0 []) (hs:iV (IntKind.i64.wrap ((k:Int)+1))=iV (((k+1:Nat):Int))) {e:Exit} {tm2:TmL} {hp2:HpL}
 (r:Rl 8 8 117 0 33 10 ([(1,.pp 8 0),(3,.ls 9 (m)),(10,.ls 1 c.l.length),(11,.pv (iV (c.l.length:Int))),(12,.pv (iV ((k+1:Nat):Int)))]) ((qcE 8 c++[(9,0,.row 62 5 (m) (vs))])) e tm2 hp2):Rl 8 8 117 0 33 10 (qD0 c k m) ((qcE 8 c++[(9,0,.row 62 5 (m) (vs))])) e tm2 hp2:=
 RunsL.next [] 300 [.t true,.r (ptV p),Cf hf [0,1,2,3,4,5,6,7],Re hs]
  (Ro (Ai hlt (Ai hin (Ai (qaN hk) (Co hf [0,1,2,3,4,5,6,7] 11 (Ai hs tI)))))) r
theorem qqo {c:Ck} {p:Pt} {k m:Nat} {tn td:Int} {vs:List Value} (hk:c.l[k]?=some p) (hin:0≤(k:Int)∧(k:Int)<(c.l.length:Int)) (hlt:decide ((k:Int)<(c.l.length:Int))=true) (hf:Fn 109 8 [qam c,.pv (qaf p.a p.b)] (qas c) (.pv (.tuple #[qaa tn td,.bool true])) 0 []) (hm:m+1≤1000000) (hs:iV (IntKind.i64.wrap ((k:Int)+1))=iV (((k+1:Nat):Int))) {e:Exit} {tm2:TmL} {hp2:HpL}
 (r:Rl 8 8 117 0 33 10 ([(1,.pp 8 0),(3,.ls 9 (m+1)),(10,.ls 1 c.l.length),(11,.pv (iV (c.l.length:Int))),(12,.pv (iV ((k+1:Nat):Int)))]) ((qcE 8 c++[(9,0,.row 62 5 (m+1) (vs++[iV tn,iV td,iV p.id,iV 0,iV 0]))])) e tm2 hp2):Rl 8 8 117 0 33 10 (qD0 c k m) ((qcE 8 c++[(9,0,.row 62 5 (m) (vs))])) e tm2 hp2:=
 RunsL.next [(9,13)] 300 [.t true,.r (ptV p),Cf hf [0,1,2,3,4,5,6,7],Re hs]
  (Ro (Ai hlt (Ai hin (Ai (qaN hk) (Co hf [0,1,2,3,4,5,6,7] 11 (Ai hm (Ai hs tI))))))) r
theorem qvc {c:Ck} {k m:Nat} {vs:List Value} (hge:decide ((k:Int)<(c.l.length:Int))=false):Rl 8 8 117 0 33 10 (qD0 c k m) ((qcE 8 c++[(9,0,.row 62 5 (m) (vs))])) (.exit 0) ([(3,.ls 9 m)]) ([(9,0,.row 62 5 m vs)]):=
 RunsL.stop [] 300 [.t false] (fun h=>by cases h)
  (Ro (Ai hge tI))
theorem qoT {c:Ck} {m:Nat} {vs:List Value} (r0:Rl 8 8 117 0 33 10 ([(1,.pp 8 0),(3,.ls 9 (0)),(10,.ls 1 c.l.length),(11,.pv (iV (c.l.length:Int))),(12,.pv (iV ((0:Nat):Int)))]) ((qcE 8 c++[(9,0,.row 62 5 (0) ([]))])) (.exit 0) ([(3,.ls 9 m)]) ([(9,0,.row 62 5 m vs)])) :
 Fn 117 8 [qam c] (qas c) (.ls 8 m) 1 [(8,0,.row 62 5 m vs)]:=
 Fz [(8,9)] [.ln true 3 0 62 5,Lf r0]
  (qaG (qaK [(8,9)]) [(8,0,.row 62 5 m vs)]) (Lo r0 [] tI)
abbrev qrC (c:Ck):HpL:=[(0,0,zrI c.u),(1,0,zrB c.b),(2,0,zrI c.fr),(3,0,qao c.ev),(4,0,zrI c.wh)]
theorem qyO {c:Ck} {z9:Ev} (h0:decide (0≤z9.i)=false) :
 Fn 118 5 [agA c.u c.b c.fr c.ev c.wh,.pv (qab z9)] (qrC c) (.pv (.bool false)) 0 []:=
 Fz [] [.t false]
  tI (Ai h0 tI)
theorem qyJ {c:Ck} {z9:Ev} (h0:decide (0≤z9.i)=true) (h1:decide (z9.i<(c.wh.length:Int))=false) :
 Fn 118 5 [agA c.u c.b c.fr c.ev c.wh,.pv (qab z9)] (qrC c) (.pv (.bool false)) 0 []:=
 Fz [] [.t true,.t false]
  tI (Ai h0 (Ai h1 tI))
theorem quJ {c:Ck} {n:Int} {z9:Ev} (h0:decide (0≤z9.i)=true) (h1:decide (z9.i<(c.wh.length:Int))=true) (hi1:0≤z9.i∧z9.i<(c.wh.length:Int)) (hw1:c.wh[z9.i.toNat]?=some n) (h2:decide (n≥0)=false) :
 Fn 118 5 [agA c.u c.b c.fr c.ev c.wh,.pv (qab z9)] (qrC c) (.pv (.bool false)) 0 []:=
 Fz [] [.t true,.t true,.r (iV n),.t false]
  tI (Ai h0 (Ai h1 (Ai hi1 (Ai (qbb hw1) (Ai h2 tI)))))
theorem qtJ {c:Ck} {n:Int} {y:Ev} {z9:Ev} (h0:decide (0≤z9.i)=true) (h1:decide (z9.i<(c.wh.length:Int))=true) (hi1:0≤z9.i∧z9.i<(c.wh.length:Int)) (hw1:c.wh[z9.i.toNat]?=some n) (h2:decide (n≥0)=true) (hi2:0≤n∧n<(c.ev.length:Int)) (hy:c.ev[n.toNat]?=some y) (h3:((y.n==z9.n&&(y.d==z9.d&&true))&&(y.k==z9.k&&((y.i==z9.i&&(y.w==z9.w&&true))&&true)))=true) :
 Fn 118 5 [agA c.u c.b c.fr c.ev c.wh,.pv (qab z9)] (qrC c) (.pv (.bool true)) 0 []:=
 Fz [] [.t true,.t true,.r (iV n),.t true,.r (iV n),.r (qab y),.t true]
  tI (Ai h0 (Ai h1 (Ai hi1 (Ai (qbb hw1) (Ai h2 (Ai hi1 (Ai (qbb hw1) (Ai hi2 (Ai (qbc hy) (Ai h3 tI))))))))))
theorem qyb {c:Ck} {n:Int} {y:Ev} {z9:Ev} (h0:decide (0≤z9.i)=true) (h1:decide (z9.i<(c.wh.length:Int))=true) (hi1:0≤z9.i∧z9.i<(c.wh.length:Int)) (hw1:c.wh[z9.i.toNat]?=some n) (h2:decide (n≥0)=true) (hi2:0≤n∧n<(c.ev.length:Int)) (hy:c.ev[n.toNat]?=some y) (h3:((y.n==z9.n&&(y.d==z9.d&&true))&&(y.k==z9.k&&((y.i==z9.i&&(y.w==z9.w&&true))&&true)))=false) :
 Fn 118 5 [agA c.u c.b c.fr c.ev c.wh,.pv (qab z9)] (qrC c) (.pv (.bool false)) 0 []:=
 Fz [] [.t true,.t true,.r (iV n),.t true,.r (iV n),.r (qab y),.t false]
  tI (Ai h0 (Ai h1 (Ai hi1 (Ai (qbb hw1) (Ai h2 (Ai hi1 (Ai (qbb hw1) (Ai hi2 (Ai (qbc hy) (Ai h3 tI))))))))))
abbrev qo6 (c:Ck) (fl:List Ev):Prop:=Fn 117 8 [qam c] (qas c) (.ls 8 fl.length) 1 [(8,0,qao fl)]
theorem qCz {c:Ck} {fl:List Ev} (hfs:qo6 c fl) (hn1:((c.d.length:Int) !=(fl.length:Int))=true) :
 Fn 66 8 [qam c] (qas c) (.pv (.bool false)) 0 []:=
 Fz [] [Cf hfs [0,1,2,3,4,5,6,7],.t true]
  tI (Co hfs [0,1,2,3,4,5,6,7] 9 (Ai hn1 tI))
theorem qCx {c:Ck} {fl:List Ev} (hfs:qo6 c fl) (hn1:((c.d.length:Int) !=(fl.length:Int))=false) (hn2:((c.ev.length:Int) !=(fl.length:Int))=true) :
 Fn 66 8 [qam c] (qas c) (.pv (.bool false)) 0 []:=
 Fz [] [Cf hfs [0,1,2,3,4,5,6,7],.t false,.t true]
  tI (Co hfs [0,1,2,3,4,5,6,7] 9 (Ai hn1 (Ai hn2 tI)))
abbrev qBg (fl:List Ev) (k:Nat):TmL:=[(1,.pp 8 0),(23,.ls 9 fl.length),(24,.pv (iV (fl.length:Int))),(25,.pv (iV (k:Int)))]
theorem qwi {c:Ck} {q:Pt} {k:Nat} {y:Ev} {fl:List Ev} (hk:fl[k]?=some y) (hin:0≤(k:Int)∧(k:Int)<(fl.length:Int)) (hq:c.d[k]?=some q) (hiq:0≤(k:Int)∧(k:Int)<(c.d.length:Int)) (hlt:decide ((k:Int)<(fl.length:Int))=true) (hne:(q.id !=y.k)=true):Rl 8 8 66 0 54 10 (qBg fl k) ((qcE 8 c++[(9,0,qao fl)])) (.ret) ([(2,.pv (.bool false))]) ([]):=
 RunsL.stop [] 300 [.t true,.r (qab y),.r (qaL q.a q.b),.r (iV q.id),.t true] (fun h=>by cases h)
  (Ro (Ai hlt (Ai hin (Ai (qbc hk) (Ai hiq (Ai (qdv hq) (Ai hiq (Ai (qcO hq) (Ai hne tI)))))))))
theorem qA4 {c:Ck} {q:Pt} {k:Nat} {y:Ev} {fl:List Ev} (hk:fl[k]?=some y) (hin:0≤(k:Int)∧(k:Int)<(fl.length:Int)) (hq:c.d[k]?=some q) (hiq:0≤(k:Int)∧(k:Int)<(c.d.length:Int)) (hlt:decide ((k:Int)<(fl.length:Int))=true) (hne:(q.id !=y.k)=false) (hv:Fn 118 5 [agA c.u c.b c.fr c.ev c.wh,.pv (qab (Ev.mk y.n y.d y.k q.a q.b))] (qrC c) (.pv (.bool false)) 0 []):Rl 8 8 66 0 54 10 (qBg fl k) ((qcE 8 c++[(9,0,qao fl)])) (.ret) ([(2,.pv (.bool false))]) ([]):=
 RunsL.stop [] 300 [.t true,.r (qab y),.r (qaL q.a q.b),.r (iV q.id),.t false,Cf hv [2,3,4,5,6],.k] (fun h=>by cases h)
  (Ro (Ai hlt (Ai hin (Ai (qbc hk) (Ai hiq (Ai (qdv hq) (Ai hiq (Ai (qcO hq) (Ai hne (Co hv [2,3,4,5,6] 11 tI))))))))))
theorem qpw {c:Ck} {q:Pt} {k:Nat} {y:Ev} {fl:List Ev} (hk:fl[k]?=some y) (hin:0≤(k:Int)∧(k:Int)<(fl.length:Int)) (hq:c.d[k]?=some q) (hiq:0≤(k:Int)∧(k:Int)<(c.d.length:Int)) (hlt:decide ((k:Int)<(fl.length:Int))=true) (hne:(q.id !=y.k)=false) (hv:Fn 118 5 [agA c.u c.b c.fr c.ev c.wh,.pv (qab (Ev.mk y.n y.d y.k q.a q.b))] (qrC c) (.pv (.bool true)) 0 []) (hs:iV (IntKind.i64.wrap ((k:Int)+1))=iV (((k+1:Nat):Int))) {e:Exit} {tm2:TmL} {hp2:HpL}
 (r:Rl 8 8 66 0 54 10 ([(1,.pp 8 0),(23,.ls 9 fl.length),(24,.pv (iV (fl.length:Int))),(25,.pv (iV ((k+1:Nat):Int)))]) ((qcE 8 c++[(9,0,qao fl)])) e tm2 hp2):Rl 8 8 66 0 54 10 (qBg fl k) ((qcE 8 c++[(9,0,qao fl)])) e tm2 hp2:=
 RunsL.next [] 300 [.t true,.r (qab y),.r (qaL q.a q.b),.r (iV q.id),.t false,Cf hv [2,3,4,5,6],.k,Re hs]
  (Ro (Ai hlt (Ai hin (Ai (qbc hk) (Ai hiq (Ai (qdv hq) (Ai hiq (Ai (qcO hq) (Ai hne (Co hv [2,3,4,5,6] 11 (Ai hs tI))))))))))) r
theorem qvp {c:Ck} {k:Nat} {fl:List Ev} (hge:decide ((k:Int)<(fl.length:Int))=false):Rl 8 8 66 0 54 10 (qBg fl k) ((qcE 8 c++[(9,0,qao fl)])) (.exit 0) ([]) ([]):=
 RunsL.stop [] 300 [.t false] (fun h=>by cases h)
  (Ro (Ai hge tI))
theorem qtQ {c:Ck} {fl:List Ev} (hfs:qo6 c fl) (hn1:((c.d.length:Int) !=(fl.length:Int))=false) (hn2:((c.ev.length:Int) !=(fl.length:Int))=false) (r0:Rl 8 8 66 0 54 10 ([(1,.pp 8 0),(23,.ls 9 fl.length),(24,.pv (iV (fl.length:Int))),(25,.pv (iV ((0:Nat):Int)))]) ((qcE 8 c++[(9,0,qao fl)])) (.ret) ([(2,.pv (.bool false))]) ([])) :
 Fn 66 8 [qam c] (qas c) (.pv (.bool false)) 0 []:=
 Fz [] [Cf hfs [0,1,2,3,4,5,6,7],.t false,.t false,Lf r0]
  tI (Co hfs [0,1,2,3,4,5,6,7] 9 (Ai hn1 (Ai hn2 (Lo r0 [] tI))))
theorem qzz {c:Ck} {fl:List Ev} (hfs:qo6 c fl) (hn1:((c.d.length:Int) !=(fl.length:Int))=false) (hn2:((c.ev.length:Int) !=(fl.length:Int))=false) (r0:Rl 8 8 66 0 54 10 ([(1,.pp 8 0),(23,.ls 9 fl.length),(24,.pv (iV (fl.length:Int))),(25,.pv (iV ((0:Nat):Int)))]) ((qcE 8 c++[(9,0,qao fl)])) (.exit 0) ([]) ([])) :
 Fn 66 8 [qam c] (qas c) (.pv (.bool true)) 0 []:=
 Fz [] [Cf hfs [0,1,2,3,4,5,6,7],.t false,.t false,Lf r0]
  tI (Co hfs [0,1,2,3,4,5,6,7] 9 (Ai hn1 (Ai hn2 (Lo r0 [] tI))))
abbrev qBA (c:Ck) (e4:Int):Prop:=Fn 115 5 [agA c.u c.b c.fr c.ev c.wh] (qrC c) (.pv (iV (e4))) 0 []
abbrev qwz (c:Ck) (e3:Int):Prop:=Fn 88 1 [qaP 0 c.x c.l] [(0,0,qal c.l)] (.pv (iV (e3))) 0 []
theorem qB9 {c:Ck} {e1 e2 e3 e4:Int} (h1:Pure Tryz.prog 49 #[qaa c.tn c.td] (iV (e1))) (h2:Fn 48 1 [qaE 0 c.s] [(0,0,qaj c.s)] (.pv (iV (e2))) 0 []) (h3:qwz c e3) (h4:qBA c e4) (he:(e1 !=0)=true) :
 Fn 65 8 [qam c] (qas c) (.pv (.bool false)) 0 []:=
 Fz [] [Rf h1,Cf h2 [0],Cf h3 [1],Cf h4 [2,3,4,5,6],.k,.k,.t true,.t true]
  tI (Ai h1 (Co h2 [0] 9 (Co h3 [1] 9 (Co h4 [2,3,4,5,6] 9 (Ai he (Ai he tI))))))
abbrev qwF (c:Ck):Prop:=Pure Tryz.prog 49 #[qaa c.tn c.td] (iV (0))
theorem qDr {c:Ck} {e2 e3 e4:Int} (h1:qwF c) (h2:Fn 48 1 [qaE 0 c.s] [(0,0,qaj c.s)] (.pv (iV (e2))) 0 []) (h3:qwz c e3) (h4:qBA c e4) (he:(e2 !=0)=true) :
 Fn 65 8 [qam c] (qas c) (.pv (.bool false)) 0 []:=
 Fz [] [Rf h1,Cf h2 [0],Cf h3 [1],Cf h4 [2,3,4,5,6],.k,.k,.k,.k,.k,.t true,.t true]
  tI (Ai h1 (Co h2 [0] 9 (Co h3 [1] 9 (Co h4 [2,3,4,5,6] 9 (Ai he (Ai he tI))))))
abbrev qyr (c:Ck):Prop:=Fn 48 1 [qaE 0 c.s] [(0,0,qaj c.s)] (.pv (iV (0))) 0 []
theorem qCW {c:Ck} {e3 e4:Int} (h1:qwF c) (h2:qyr c) (h3:qwz c e3) (h4:qBA c e4) (he:(e3 !=0)=true) :
 Fn 65 8 [qam c] (qas c) (.pv (.bool false)) 0 []:=
 Fz [] [Rf h1,Cf h2 [0],Cf h3 [1],Cf h4 [2,3,4,5,6],.k,.k,.k,.k,.k,.k,.k,.k,.t true,.t true]
  tI (Ai h1 (Co h2 [0] 9 (Co h3 [1] 9 (Co h4 [2,3,4,5,6] 9 (Ai he (Ai he tI))))))
abbrev qBv (c:Ck):Prop:=Fn 88 1 [qaP 0 c.x c.l] [(0,0,qal c.l)] (.pv (iV (0))) 0 []
theorem qBT {c:Ck} {e4:Int} (h1:qwF c) (h2:qyr c) (h3:qBv c) (h4:qBA c e4) (he:(e4 !=0)=true) :
 Fn 65 8 [qam c] (qas c) (.pv (.bool false)) 0 []:=
 Fz [] [Rf h1,Cf h2 [0],Cf h3 [1],Cf h4 [2,3,4,5,6],.k,.k,.k,.k,.k,.k,.k,.k,.k,.k,.k,.t true,.t true]
  tI (Ai h1 (Co h2 [0] 9 (Co h3 [1] 9 (Co h4 [2,3,4,5,6] 9 (Ai he (Ai he tI))))))
abbrev quM (c:Ck):Prop:=Fn 115 5 [agA c.u c.b c.fr c.ev c.wh] (qrC c) (.pv (iV (0))) 0 []
theorem qDd {c:Ck} (h1:qwF c) (h2:qyr c) (h3:qBv c) (h4:quM c) (h5:Fn 64 2 [qaE 0 c.s,qaP 1 c.x c.l] [(0,0,qaj c.s),(1,0,qal c.l)] (.pv (iV (6))) 0 []) :
 Fn 65 8 [qam c] (qas c) (.pv (.bool false)) 0 []:=
 Fz [] [Rf h1,Cf h2 [0],Cf h3 [1],Cf h4 [2,3,4,5,6],.k,.k,.k,.k,.k,.k,.k,.k,.k,.k,.k,.k,.k,.k,.k,Cf h5 [0,1],.k]
  tI (Ai h1 (Co h2 [0] 9 (Co h3 [1] 9 (Co h4 [2,3,4,5,6] 9 (Co h5 [0,1] 10 tI)))))
theorem qAM {c:Ck} (h1:qwF c) (h2:qyr c) (h3:qBv c) (h4:quM c) (h5:Fn 64 2 [qaE 0 c.s,qaP 1 c.x c.l] [(0,0,qaj c.s),(1,0,qal c.l)] (.pv (iV (0))) 0 []) (h6:((c.u.length:Int)==200)=true) :
 Fn 65 8 [qam c] (qas c) (.pv (.bool true)) 0 []:=
 Fz [] [Rf h1,Cf h2 [0],Cf h3 [1],Cf h4 [2,3,4,5,6],.k,.k,.k,.k,.k,.k,.k,.k,.k,.k,.k,.k,.k,.k,.k,Cf h5 [0,1],.k,.t true]
  tI (Ai h1 (Co h2 [0] 9 (Co h3 [1] 9 (Co h4 [2,3,4,5,6] 9 (Co h5 [0,1] 10 (Ai h6 tI))))))
theorem qCi {c:Ck} (h1:qwF c) (h2:qyr c) (h3:qBv c) (h4:quM c) (h5:Fn 64 2 [qaE 0 c.s,qaP 1 c.x c.l] [(0,0,qaj c.s),(1,0,qal c.l)] (.pv (iV (0))) 0 []) (h6:((c.u.length:Int)==200)=false) :
 Fn 65 8 [qam c] (qas c) (.pv (.bool false)) 0 []:=
 Fz [] [Rf h1,Cf h2 [0],Cf h3 [1],Cf h4 [2,3,4,5,6],.k,.k,.k,.k,.k,.k,.k,.k,.k,.k,.k,.k,.k,.k,.k,Cf h5 [0,1],.k,.t false]
  tI (Ai h1 (Co h2 [0] 9 (Co h3 [1] 9 (Co h4 [2,3,4,5,6] 9 (Co h5 [0,1] 10 (Ai h6 tI))))))
theorem qDN {c:Ck} (h1:Fn 65 8 [qam c] (qas c) (.pv (.bool false)) 0 []) :
 Fn 22 8 [qam c] (qas c) (.pv (iV (8))) 0 []:=
 Fz [] [Cf h1 [0,1,2,3,4,5,6,7],.k]
  tI (Co h1 [0,1,2,3,4,5,6,7] 9 tI)
theorem qCy {c:Ck} (h1:Fn 65 8 [qam c] (qas c) (.pv (.bool true)) 0 []) (h2:Fn 66 8 [qam c] (qas c) (.pv (.bool false)) 0 []) :
 Fn 22 8 [qam c] (qas c) (.pv (iV (8))) 0 []:=
 Fz [] [Cf h1 [0,1,2,3,4,5,6,7],.k,Cf h2 [0,1,2,3,4,5,6,7],.k]
  tI (Co h1 [0,1,2,3,4,5,6,7] 9 (Co h2 [0,1,2,3,4,5,6,7] 9 tI))
theorem qyP {c:Ck} (h1:Fn 65 8 [qam c] (qas c) (.pv (.bool true)) 0 []) (h2:Fn 66 8 [qam c] (qas c) (.pv (.bool true)) 0 []) :
 Fn 22 8 [qam c] (qas c) (.pv (iV (0))) 0 []:=
 Fz [] [Cf h1 [0,1,2,3,4,5,6,7],.k,Cf h1 [0,1,2,3,4,5,6,7],.k]
  tI (Co h1 [0,1,2,3,4,5,6,7] 9 (Co h2 [0,1,2,3,4,5,6,7] 9 tI))
end Go.Proofs.YtkjaanhddkkodaaGreat

namespace Go.Proofs.YtkjaanhddkkodaaGreat
set_option maxRecDepth 100000
open Go.RowKit
abbrev qru (c:Ck):S1:=.ag [.pv (iV c.tn),.pv (iV c.td),.ls 0 c.s.length,.pv (iV c.x),.ls 1 c.l.length,.ls 2 c.u.length,.ls 3 c.b.length,.ls 4 c.fr.length,.ls 5 c.ev.length,.ls 6 c.wh.length,.ls 7 c.d.length]
abbrev qBz (c o:Ck) (d:List Pt):SV:=.ag [.pv (iV c.tn),.pv (iV c.td),.ls 0 c.s.length,.pv (iV c.x),.ls 1 c.l.length,.ls 8 o.u.length,.ls 9 o.b.length,.ls 10 o.fr.length,.ls 11 o.ev.length,.ls 12 o.wh.length,.ls 13 d.length]
abbrev qhs (c o:Ck) (d:List Pt):S1:=.ag [.pv (iV c.tn),.pv (iV c.td),.ls 0 c.s.length,.pv (iV c.x),.ls 1 c.l.length,.ls 8 o.u.length,.ls 9 o.b.length,.ls 10 o.fr.length,.ls 11 o.ev.length,.ls 12 o.wh.length,.ls 13 d.length]
abbrev qwr (c o:Ck):S1:=.ag [.pv (iV c.tn),.pv (iV c.td),.ls 0 c.s.length,.pv (iV c.x),.ls 1 c.l.length,.ls 8 o.u.length,.ls 9 o.b.length,.ls 10 o.fr.length,.ls 11 o.ev.length,.ls 12 o.wh.length,.ls 7 c.d.length]
theorem qqy {n:Nat} {xs:List Value} (h0:0<n) (hn:0+n≤1000000) :
 Fn 106 1 [.ls 0 n] [(0,0,.row 94 3 n xs)] (.ls 1 n) 1 [(1,0,.row 94 3 n xs)]:=
 Fx [(1,2)] [.t false]
  (qoK n) (Ai (qgF 94 3 n xs) tI) (Ai h0 (Ai hn tI))
theorem qDa {ad:Addr} {c:Nat} :
 Fn 106 0 [.pv (.slice (some ad) 0 c)] [] (.ls 0 0) 1 [(0,0,.row 94 3 0 [])]:=
 Fz [(0,1)] [.k]
  (qaG (qaK [(0,1)]) [(0,0,.row 94 3 0 [])]) (Ai (Nat.zero_le _:0+0≤1000000) tI)
theorem qtF {c:Nat}:Pure Tryz.prog 106 #[.slice none 0 c] (.slice none 0 0):=
 qaA (args:=[.slice none 0 c]) 200 [] (Ai rfl tI) (by kernel_rfl)
theorem qrA {n:Nat} {xs:List Value} (h0:0<n) (hn:0+n≤1000000) :
 Fn 108 1 [.ls 0 n] [(0,0,.row 54 3 n xs)] (.ls 1 n) 1 [(1,0,.row 54 3 n xs)]:=
 Fx [(1,2)] [.t false]
  (qoK n) (Ai (qgF 54 3 n xs) tI) (Ai h0 (Ai hn tI))
theorem qEr {ad:Addr} {c:Nat} :
 Fn 108 0 [.pv (.slice (some ad) 0 c)] [] (.ls 0 0) 1 [(0,0,.row 54 3 0 [])]:=
 Fz [(0,1)] [.k]
  (qaG (qaK [(0,1)]) [(0,0,.row 54 3 0 [])]) (Ai (Nat.zero_le _:0+0≤1000000) tI)
theorem qv3 {c:Nat}:Pure Tryz.prog 108 #[.slice none 0 c] (.slice none 0 0):=
 qaA (args:=[.slice none 0 c]) 200 [] (Ai rfl tI) (by kernel_rfl)
theorem qmo (l:List Pt) (k:Nat) (q:Pt) (h:k≤l.length):0+k+1+(l.length-k)=(l.take k++q::l.drop k).length:=by rw[List.length_append,List.length_cons,List.length_take,List.length_drop];omega
theorem qz9 (b:Nat) (l:List Pt) (k:Nat) (q:Pt) (h:k≤l.length):SV.ls b (0+k+1+(l.length-k))=(SV.ls 3 (l.take k++q::l.drop k).length).ren (qaK [(3,b)]):=by rw[qmo l k q h];rfl
theorem qro (l:List Pt) (k:Nat) (q:Pt) (h:k≤l.length):some (SV.row 54 3 (0+k+1+(l.length-k)) ([]++((qbd l).drop (0*3)).take (k*3)++[iV q.id,iV q.a,iV q.b]++((qbd l).drop ((0+k)*3)).take ((l.length-k)*3)))=some (qaJ (l.take k++q::l.drop k)):=by
 have h1:=qji l k
 have h2:=qjb l k
 rw[Nat.zero_add] at h1
 rw[h1,h2,qaJ,qmo l k q h,qbU,List.nil_append,List.append_assoc]
 rfl
theorem ccf {s:List Pt} (h1:Fn 100 1 [.ls 0 s.length] [(0,0,qaj s)] (.ls 1 s.length) 1 [(1,0,qaj s)]) :
 Fn 51 1 [qaE 0 s] [(0,0,qaj s)] (.ag [.ls 1 s.length]) 1 [(1,0,qaj s)]:=
 Fz [(1,3)] [Cf h1 [0]]
  (qaG (qaK [(1,3)]) [(1,0,qaj s)]) (Co h1 [0] 3 tI)
abbrev qwL (c:Ck):HpL:=[(0,0,zrI c.u),(1,0,zrB c.b),(2,0,zrI c.fr),(3,0,qao c.ev),(4,0,zrI c.wh)]
theorem cca {c:Ck} (c0:Fn 151 1 [.ls 0 c.u.length] [(0,0,zrI c.u)] (.ls 1 c.u.length) 1 [(1,0,zrI c.u)]) (c1:Fn 152 1 [.ls 0 c.b.length] [(0,0,zrB c.b)] (.ls 1 c.b.length) 1 [(1,0,zrB c.b)]) (c2:Fn 151 1 [.ls 0 c.fr.length] [(0,0,zrI c.fr)] (.ls 1 c.fr.length) 1 [(1,0,zrI c.fr)]) (c3:Fn 153 1 [.ls 0 c.ev.length] [(0,0,qao c.ev)] (.ls 1 c.ev.length) 1 [(1,0,qao c.ev)]) (c4:Fn 151 1 [.ls 0 c.wh.length] [(0,0,zrI c.wh)] (.ls 1 c.wh.length) 1 [(1,0,zrI c.wh)]) :
 Fn 107 5 [agA c.u c.b c.fr c.ev c.wh] (qwL c) (.ag [.ls 5 c.u.length,.ls 6 c.b.length,.ls 7 c.fr.length,.ls 8 c.ev.length,.ls 9 c.wh.length]) 5 [(5,0,zrI c.u),(6,0,zrB c.b),(7,0,zrI c.fr),(8,0,qao c.ev),(9,0,zrI c.wh)]:=
 Fz [(5,7),(6,8),(7,9),(8,11),(9,12)] [.md,Cf c0 [0],Cf c1 [1],Cf c2 [2],.md,Cf c3 [3],Cf c4 [4]]
  (qaG (qaK [(5,7),(6,8),(7,9),(8,11),(9,12)]) [(5,0,zrI c.u),(6,0,zrB c.b),(7,0,zrI c.fr),(8,0,qao c.ev),(9,0,zrI c.wh)]) (Co c0 [0] 7 (Co c1 [1] 8 (Co c2 [2] 9 (Co c3 [3] 11 (Co c4 [4] 12 tI)))))
theorem ccl {c:Ck} (h1:Fn 51 1 [qaE 0 c.s] [(0,0,qaj c.s)] (.ag [.ls 1 c.s.length]) 1 [(1,0,qaj c.s)]) (h2:Fn 106 1 [.ls 0 c.l.length] [(0,0,qal c.l)] (.ls 1 c.l.length) 1 [(1,0,qal c.l)]) (h3:Fn 107 5 [agA c.u c.b c.fr c.ev c.wh] (qwL c) (.ag [.ls 5 c.u.length,.ls 6 c.b.length,.ls 7 c.fr.length,.ls 8 c.ev.length,.ls 9 c.wh.length]) 5 [(5,0,zrI c.u),(6,0,zrB c.b),(7,0,zrI c.fr),(8,0,qao c.ev),(9,0,zrI c.wh)]) (h4:Fn 108 1 [.ls 0 c.d.length] [(0,0,qaJ c.d)] (.ls 1 c.d.length) 1 [(1,0,qaJ c.d)]) :
 Fn 58 8 [qam c] (qas c) (ql0 c) 8 (qc9 c):=
 Fz [(8,10),(9,11),(10,12),(11,13),(12,14),(13,15),(14,16),(15,17)] [.md,Cf h1 [0],Cf h2 [1],Cf h3 [2,3,4,5,6],Cf h4 [7]]
  (qaG (qaK [(8,10),(9,11),(10,12),(11,13),(12,14),(13,15),(14,16),(15,17)]) (qc9 c)) (Co h1 [0] 10 (Co h2 [1] 11 (Co h3 [2,3,4,5,6] 12 (Co h4 [7] 17 tI))))
theorem qxT {a pa pb n:Int} (n1:(!(a==a))=false) (n2:(!(n==n))=false) (h1:decide (a<n)=true) :
 Pure Tryz.prog 156 #[qac a pa pb,iV n] (iV (-1)):=
 qad (args:=[qac a pa pb,iV n]) 300 [.k,.k,.t false,.k,.t false,.t true]
  (Ai rfl (Ai n1 (Ai n2 (Ai h1 tI)))) (by kernel_rfl)
theorem qzq {a pa pb n:Int} (n1:(!(a==a))=false) (n2:(!(n==n))=false) (h1:decide (a<n)=false) (h2:decide (a>n)=true) :
 Pure Tryz.prog 156 #[qac a pa pb,iV n] (iV (1)):=
 qad (args:=[qac a pa pb,iV n]) 300 [.k,.k,.t false,.k,.t false,.t false,.t true]
  (Ai rfl (Ai n1 (Ai n2 (Ai h1 (Ai h2 tI))))) (by kernel_rfl)
theorem qyA {a pa pb n:Int} (n1:(!(a==a))=false) (n2:(!(n==n))=false) (h1:decide (a<n)=false) (h2:decide (a>n)=false) :
 Pure Tryz.prog 156 #[qac a pa pb,iV n] (iV (0)):=
 qad (args:=[qac a pa pb,iV n]) 300 [.k,.k,.t false,.k,.t false,.t false,.t false]
  (Ai rfl (Ai n1 (Ai n2 (Ai h1 (Ai h2 tI))))) (by kernel_rfl)
abbrev qBd (i:Nat) (j:Nat) (l:List Pt) (n:Int):TmL:=[(0,.ls 0 l.length),(1,.pv (iV n)),(2,.pv (.func (.func 156) #[] #[])),(8,.pv (iV (l.length:Int))),(9,.pv (iV (i:Int))),(10,.pv (iV (j:Int)))]
abbrev qBB (c:Int) (n:Int) (p:Pt):Prop:=Pure Tryz.prog 156 #[qac p.id p.a p.b,iV n] (iV (c))
theorem qxq {l:List Pt} {i j h:Nat} {p:Pt} {c n:Int} (hk:l[h]?=some p) (hin:0≤(h:Int)∧(h:Int)<(l.length:Int)) (hlt:decide ((i:Int)<(j:Int))=true) (ha:iV (IntKind.i64.wrap ((i:Int)+(j:Int)))=iV ((i:Int)+(j:Int))) (hu:Value.int .u64 (IntKind.u64.wrap ((i:Int)+(j:Int)))=.int .u64 ((i:Int)+(j:Int))) (h1:¬ (1:Int)<0) (hs:Value.int .u64 (((i:Int)+(j:Int)).fdiv (2 ^ (min (1:Int).toNat IntKind.u64.bits)))=.int .u64 (h:Int)) (hb:iV (IntKind.i64.wrap (h:Int))=iV (h:Int)) (hc:qBB c n p) (hz:decide (c<0)=true) (hh:iV (IntKind.i64.wrap ((h:Int)+1))=iV (((h+1:Nat):Int))) {e:Exit} {tm2:TmL} {hp2:HpL}
 (r:Rl 1 1 155 0 49 1 ([(0,.ls 0 l.length),(1,.pv (iV n)),(2,.pv (.func (.func 156) #[] #[])),(8,.pv (iV (l.length:Int))),(9,.pv (iV ((h+1:Nat):Int))),(10,.pv (iV (j:Int)))]) ([(0,0,qaJ l)]) e tm2 hp2):Rl 1 1 155 0 49 1 (qBd i j l n) ([(0,0,qaJ l)]) e tm2 hp2:=
 RunsL.next [] 300 [.t true,Re ha,Re hu,.r (.int .u64 (h:Int)),Re hb,.r (ptV p),Rf hc,.t true,Re hh]
  (Ro (Ai hlt (Ai ha (Ai hu (Ai h1 (Ai hs (Ai hb (Ai hin (Ai (qaN hk) (Ai hc (Ai hz (Ai hh tI)))))))))))) r
theorem qyL {l:List Pt} {i j h:Nat} {p:Pt} {c n:Int} (hk:l[h]?=some p) (hin:0≤(h:Int)∧(h:Int)<(l.length:Int)) (hlt:decide ((i:Int)<(j:Int))=true) (ha:iV (IntKind.i64.wrap ((i:Int)+(j:Int)))=iV ((i:Int)+(j:Int))) (hu:Value.int .u64 (IntKind.u64.wrap ((i:Int)+(j:Int)))=.int .u64 ((i:Int)+(j:Int))) (h1:¬ (1:Int)<0) (hs:Value.int .u64 (((i:Int)+(j:Int)).fdiv (2 ^ (min (1:Int).toNat IntKind.u64.bits)))=.int .u64 (h:Int)) (hb:iV (IntKind.i64.wrap (h:Int))=iV (h:Int)) (hc:qBB c n p) (hz:decide (c<0)=false) {e:Exit} {tm2:TmL} {hp2:HpL}
 (r:Rl 1 1 155 0 49 1 ([(0,.ls 0 l.length),(1,.pv (iV n)),(2,.pv (.func (.func 156) #[] #[])),(8,.pv (iV (l.length:Int))),(9,.pv (iV (i:Int))),(10,.pv (iV (h:Int)))]) ([(0,0,qaJ l)]) e tm2 hp2):Rl 1 1 155 0 49 1 (qBd i j l n) ([(0,0,qaJ l)]) e tm2 hp2:=
 RunsL.next [] 300 [.t true,Re ha,Re hu,.r (.int .u64 (h:Int)),Re hb,.r (ptV p),Rf hc,.t false]
  (Ro (Ai hlt (Ai ha (Ai hu (Ai h1 (Ai hs (Ai hb (Ai hin (Ai (qaN hk) (Ai hc (Ai hz tI))))))))))) r
theorem qmK {l:List Pt} {i j:Nat} {n:Int} (hge:decide ((i:Int)<(j:Int))=false):Rl 1 1 155 0 49 1 (qBd i j l n) ([(0,0,qaJ l)]) (.exit 0) (qBd i j l n) ([(0,0,qaJ l)]):=
 RunsL.stop [] 300 [.t false] (fun h=>by cases h)
  (Ro (Ai hge tI))
abbrev qCG (k:Nat) (l:List Pt) (n:Int):Prop:=Rl 1 1 155 0 49 1 ([(0,.ls 0 l.length),(1,.pv (iV n)),(2,.pv (.func (.func 156) #[] #[])),(8,.pv (iV (l.length:Int))),(9,.pv (iV ((0:Nat):Int))),(10,.pv (iV (l.length:Int)))]) ([(0,0,qaJ l)]) (.exit 0) ([(0,.ls 0 l.length),(1,.pv (iV n)),(2,.pv (.func (.func 156) #[] #[])),(8,.pv (iV (l.length:Int))),(9,.pv (iV (k:Int))),(10,.pv (iV (k:Int)))]) ([(0,0,qaJ l)])
theorem qtC {l:List Pt} {k:Nat} {n:Int} (r0:qCG k l n) (hge:decide ((k:Int)<(l.length:Int))=false) :
 Fn 155 1 [.ls 0 l.length,.pv (iV (n)),.pv (.func (.func 156) #[] #[])] [(0,0,qaJ l)] (.pv (.tuple #[iV (k:Int),.bool false])) 0 []:=
 Fz [] [Lf r0,.t false]
  tI (Lo r0 [] (Ai hge tI))
theorem qtS {l:List Pt} {k:Nat} {p:Pt} {c:Int} {n:Int} (r0:qCG k l n) (hk:l[k]?=some p) (hin:0≤(k:Int)∧(k:Int)<(l.length:Int)) (hlt:decide ((k:Int)<(l.length:Int))=true) (hc:qBB c n p) (hz:(c==0)=true) :
 Fn 155 1 [.ls 0 l.length,.pv (iV (n)),.pv (.func (.func 156) #[] #[])] [(0,0,qaJ l)] (.pv (.tuple #[iV (k:Int),.bool true])) 0 []:=
 Fz [] [Lf r0,.t true,.r (ptV p),Rf hc,.t true]
  tI (Lo r0 [] (Ai hlt (Ai hin (Ai (qaN hk) (Ai hc (Ai hz tI))))))
theorem qAP {l:List Pt} {k:Nat} {p:Pt} {c:Int} {n:Int} (r0:qCG k l n) (hk:l[k]?=some p) (hin:0≤(k:Int)∧(k:Int)<(l.length:Int)) (hlt:decide ((k:Int)<(l.length:Int))=true) (hc:qBB c n p) (hz:(c==0)=false) :
 Fn 155 1 [.ls 0 l.length,.pv (iV (n)),.pv (.func (.func 156) #[] #[])] [(0,0,qaJ l)] (.pv (.tuple #[iV (k:Int),.bool false])) 0 []:=
 Fz [] [Lf r0,.t true,.r (ptV p),Rf hc,.t false]
  tI (Lo r0 [] (Ai hlt (Ai hin (Ai (qaN hk) (Ai hc (Ai hz tI))))))
theorem cfd {l:List Pt} {k:Nat} {w:Bool} {n:Int} (hb:Fn 155 1 [.ls 0 l.length,.pv (iV (n)),.pv (.func (.func 156) #[] #[])] [(0,0,qaJ l)] (.pv (.tuple #[iV (k:Int),.bool w])) 0 []) :
 Fn 110 1 [.ls 0 l.length,.pv (iV (n))] [(0,0,qaJ l)] (.pv (.tuple #[iV (k:Int),.bool w])) 0 []:=
 Fz [] [Cf hb [0]]
  tI (Co hb [0] 1 tI)
theorem qD7 {z:Int} (h0:decide (z<0)=false) (hs:iV (IntKind.i64.wrap (z-0))=iV (z)) (hg:decide (z>0)=false) :
 Fn 202 0 [.pv (.slice none 0 0),.pv (iV (z))] [] (.pv (.slice none 0 0)) 0 []:=
 Fz [] [.t false,.k,Re hs,.t false]
  tI (Ai h0 (Ai hs (Ai hg tI)))
theorem qAy {z:Int} (h0:decide (z<0)=false) (hs:iV (IntKind.i64.wrap (z-0))=iV (z)) (hg:decide (z>0)=true) (a0:0≤z) (a1:z≤1000000) :
 Fn 202 0 [.pv (.slice none 0 0),.pv (iV (z))] [] (.ls 0 0) 1 [(0,0,qaJ ([]:List Pt))]:=
 Fz [(0,1)] [.t false,.k,Re hs,.t true,.w []]
  (qaG (qaK [(0,1)]) [(0,0,qaJ ([]:List Pt))]) (Ai h0 (Ai hs (Ai hg (Ai a0 (Ai a1 (Ai (Int.le_refl (0:Int)) (Ai (Nat.zero_le z.toNat) tI)))))))
theorem qAB {l:List Pt} {k:Nat} {s1 s2:Int} (q1:iV (IntKind.i64.wrap ((0:Int)+((k:Nat):Int)))=iV (s1)) (n1:decide (s1<0)=false) (q2:iV (IntKind.i64.wrap (s1+((l.length-(k+1):Nat):Int)))=iV (s2)) (n2:decide (s2<0)=false) (hgr:Fn 202 0 [.pv (.slice none 0 0),.pv (iV (s2))] [] (.ls 0 0) 1 [(0,0,qaJ ([]:List Pt))]) (a1:0+k≤1000000) (a2:0+k+(l.length-(k+1))≤1000000) (hkl1:k+1≤l.length) :
 Fn 162 2 [.ps 1 0 2 2] [(1,0,.lq 0 3 0 k),(1,1,.lq 0 3 (0+(k+1)) (l.length-(k+1))),(0,0,qaJ l)] (.ls 2 (l.take k++l.drop (k+1)).length) 1 [(2,0,qaJ (l.take k++l.drop (k+1)))]:=
 Fx [(2,4)] [.k,.r (iV (s1)),.t false,.k,.k,.r (iV (s2)),.t false,.k,.k,Cf hgr [],.k,.k,.k,.k,.k]
  (qkg 4 l k hkl1) (Ai (qj9 l k hkl1) tI) (Ai q1 (Ai n1 (Ai q2 (Ai n2 (Co hgr [] 2 (Ai a1 (Ai a2 tI)))))))
theorem qxA {l:List Pt} {k:Nat} {s1 s2:Int} (q1:iV (IntKind.i64.wrap ((0:Int)+((k:Nat):Int)))=iV (s1)) (n1:decide (s1<0)=false) (q2:iV (IntKind.i64.wrap (s1+((l.length-(k+1):Nat):Int)))=iV (s2)) (n2:decide (s2<0)=false) (hgr:Fn 202 0 [.pv (.slice none 0 0),.pv (iV (s2))] [] (.pv (.slice none 0 0)) 0 []) (a1:0+k≤1000000) (a2:0+k+(l.length-(k+1))≤1000000) (hkl1:k+1≤l.length) :
 Fn 162 2 [.ps 1 0 2 2] [(1,0,.lq 0 3 0 k),(1,1,.lq 0 3 (0+(k+1)) (l.length-(k+1))),(0,0,qaJ l)] (.ls 2 (l.take k++l.drop (k+1)).length) 1 [(2,0,qaJ (l.take k++l.drop (k+1)))]:=
 Fx [(2,3)] [.k,.r (iV (s1)),.t false,.k,.k,.r (iV (s2)),.t false,.k,.k,Cf hgr [],.k,.k,.k,.k,.k]
  (qkg 3 l k hkl1) (Ai (qj9 l k hkl1) tI) (Ai q1 (Ai n1 (Ai q2 (Ai n2 (Co hgr [] 2 (Ai a1 (Ai a2 tI)))))))
theorem qFo {l:List Pt} {n hi hw:Int} {k:Nat} {s1 s2 s3:Int} (q1:iV (IntKind.i64.wrap ((0:Int)+((k:Nat):Int)))=iV (s1)) (n1:decide (s1<0)=false) (q2:iV (IntKind.i64.wrap (s1+((1:Nat):Int)))=iV (s2)) (n2:decide (s2<0)=false) (q3:iV (IntKind.i64.wrap (s2+((l.length-k:Nat):Int)))=iV (s3)) (n3:decide (s3<0)=false) (hgr:Fn 202 0 [.pv (.slice none 0 0),.pv (iV (s3))] [] (.ls 0 0) 1 [(0,0,qaJ ([]:List Pt))]) (a1:0+k≤1000000) (a2:0+k+1≤1000000) (a3:0+k+1+(l.length-k)≤1000000) (hkl:k≤l.length) :
 Fn 162 3 [.ps 2 0 3 3] [(2,0,.lq 0 3 0 k),(2,1,.ps 1 0 1 1),(2,2,.lq 0 3 (0+k) (l.length-k)),(1,0,.pv (iV n)),(1,1,.pv (iV hi)),(1,2,.pv (iV hw)),(0,0,qaJ l)] (.ls 3 (l.take k++(Pt.mk n hi hw)::l.drop k).length) 1 [(3,0,qaJ (l.take k++(Pt.mk n hi hw)::l.drop k))]:=
 Fx [(3,6)] [.k,.r (iV (s1)),.t false,.k,.k,.r (iV (s2)),.t false,.k,.k,.r (iV (s3)),.t false,.k,.k,Cf hgr [],.k,.k,.k,.k,.k,.k,.k]
  (qz9 6 l k (Pt.mk n hi hw) hkl) (Ai (qro l k (Pt.mk n hi hw) hkl) tI) (Ai q1 (Ai n1 (Ai q2 (Ai n2 (Ai q3 (Ai n3 (Co hgr [] 3 (Ai a1 (Ai a2 (Ai a3 tI))))))))))
theorem qDx {c:Ck} {k:Nat} {n:Int} (hfd:Fn 110 1 [.ls 0 c.d.length,.pv (iV (n))] [(0,0,qaJ c.d)] (.pv (.tuple #[iV (k:Int),.bool false])) 0 []) :
 Fn 113 8 [qam c,.pv (iV (n))] (qas c) (qam c) 0 []:=
 Fz [] [Cf hfd [7],.k]
  tI (Co hfd [7] 10 tI)
abbrev qDe (o:Ck):HpL:=[(5,0,zrI o.u),(6,0,zrB o.b),(7,0,zrI o.fr),(8,0,qao o.ev),(9,0,zrI o.wh)]
theorem qxe {c o:Ck} {q:Pt} {k:Nat} {n:Int} {y:Ev} (hfd:Fn 110 1 [.ls 0 c.d.length,.pv (iV (n))] [(0,0,qaJ c.d)] (.pv (.tuple #[iV (k:Int),.bool true])) 0 []) (hq:c.d[k]?=some q) (hiq:0≤(k:Int)∧(k:Int)<(c.d.length:Int)) (hr:Fn 163 5 [agA c.u c.b c.fr c.ev c.wh,.pv (qaL q.a q.b)] (qwL c) (.tu [.ag [.ls 5 o.u.length,.ls 6 o.b.length,.ls 7 o.fr.length,.ls 8 o.ev.length,.ls 9 o.wh.length],.one (.pv (qab y)),.one (.pv (iV 0))]) 5 (qDe o)) (hkl:k≤c.d.length) (hkl1:k+1≤c.d.length) (hk1:iV (IntKind.i64.wrap ((k:Int)+1))=iV (((k+1:Nat):Int))) (hcut:Fn 162 2 [.ps 1 0 2 2] [(1,0,.lq 0 3 0 k),(1,1,.lq 0 3 (0+(k+1)) (c.d.length-(k+1))),(0,0,qaJ c.d)] (.ls 2 (c.d.take k++c.d.drop (k+1)).length) 1 [(2,0,qaJ (c.d.take k++c.d.drop (k+1)))]) :
 Fn 113 8 [qam c,.pv (iV (n))] (qas c) (qBz c o (c.d.take k++c.d.drop (k+1))) 6 [(8,0,zrI o.u),(9,0,zrB o.b),(10,0,zrI o.fr),(11,0,qao o.ev),(12,0,zrI o.wh),(13,0,qaJ (c.d.take k++c.d.drop (k+1)))]:=
 Fz [(8,10),(9,11),(10,12),(11,13),(12,14),(13,16)] [Cf hfd [7],.k,.md,.r (qaL q.a q.b),Cf hr [2,3,4,5,6],.md,.k,Re hk1,.k,Cf hcut [7,15]]
  (qaG (qaK [(8,10),(9,11),(10,12),(11,13),(12,14),(13,16)]) [(8,0,zrI o.u),(9,0,zrB o.b),(10,0,zrI o.fr),(11,0,qao o.ev),(12,0,zrI o.wh),(13,0,qaJ (c.d.take k++c.d.drop (k+1)))]) (Co hfd [7] 10 (Ai hiq (Ai (qdv hq) (Co hr [2,3,4,5,6] 10 (Ai tI (Ai (Int.natCast_nonneg k) (Ai (Nat.zero_le k) (Ai hkl (Ai hk1 (Ai (Int.natCast_nonneg (k+1)) (Ai tI (Ai hkl1 (Ai (Nat.le_refl c.d.length) (Co hcut [7,15] 16 tI))))))))))))))
theorem qzx {c:Ck} {n tn td e:Int} (hp:Fn 161 5 [agA c.u c.b c.fr c.ev c.wh,.pv (qaa tn td),.pv (iV (n))] (qwL c) (.pv (.tuple #[.agg #[.slice none 0 0,.slice none 0 0,.slice none 0 0,.slice none 0 0,.slice none 0 0],qaL 0 0,iV e])) 0 []) (he:(e !=0)=true) :
 Fn 112 8 [qam c,.pv (qaa tn td),.pv (iV (n))] (qas c) (.pv (.tuple #[qa3,iV e])) 0 []:=
 Fz [] [Cf hp [2,3,4,5,6],.t true]
  tI (Co hp [2,3,4,5,6] 11 (Ai he tI))
theorem qCM {c o:Ck} {k:Nat} {n tn td:Int} {hi hw:Int} (hp:Fn 161 5 [agA c.u c.b c.fr c.ev c.wh,.pv (qaa tn td),.pv (iV (n))] (qwL c) (.tu [.ag [.ls 5 o.u.length,.ls 6 o.b.length,.ls 7 o.fr.length,.ls 8 o.ev.length,.ls 9 o.wh.length],.one (.pv (qaL hi hw)),.one (.pv (iV 0))]) 5 (qDe o)) (hfd:Fn 110 1 [.ls 0 c.d.length,.pv (iV (n))] [(0,0,qaJ c.d)] (.pv (.tuple #[iV (k:Int),.bool false])) 0 []) (hkl:k≤c.d.length) (hins:Fn 162 3 [.ps 2 0 3 3] [(2,0,.lq 0 3 0 k),(2,1,.ps 1 0 1 1),(2,2,.lq 0 3 (0+k) (c.d.length-k)),(1,0,.pv (iV n)),(1,1,.pv (iV hi)),(1,2,.pv (iV hw)),(0,0,qaJ c.d)] (.ls 3 (c.d.take k++(Pt.mk n hi hw)::c.d.drop k).length) 1 [(3,0,qaJ (c.d.take k++(Pt.mk n hi hw)::c.d.drop k))]) :
 Fn 112 8 [qam c,.pv (qaa tn td),.pv (iV (n))] (qas c) (.tu [qhs c o (c.d.take k++(Pt.mk n hi hw)::c.d.drop k),.one (.pv (iV 0))]) 6 [(8,0,zrI o.u),(9,0,zrB o.b),(10,0,zrI o.fr),(11,0,qao o.ev),(12,0,zrI o.wh),(13,0,qaJ (c.d.take k++(Pt.mk n hi hw)::c.d.drop k))]:=
 Fz [(8,11),(9,12),(10,13),(11,14),(12,15),(13,20)] [Cf hp [2,3,4,5,6],.k,Cf hfd [7],.md,.k,.k,Cf hins [7,18,19]]
  (qaG (qaK [(8,11),(9,12),(10,13),(11,14),(12,15),(13,20)]) [(8,0,zrI o.u),(9,0,zrB o.b),(10,0,zrI o.fr),(11,0,qao o.ev),(12,0,zrI o.wh),(13,0,qaJ (c.d.take k++(Pt.mk n hi hw)::c.d.drop k))]) (Co hp [2,3,4,5,6] 11 (Co hfd [7] 18 (Ai tI (Ai (Int.natCast_nonneg k) (Ai (Nat.zero_le k) (Ai hkl (Ai (Int.natCast_nonneg k) (Ai tI (Ai hkl (Ai (Nat.le_refl c.d.length) (Co hins [7,18,19] 20 tI)))))))))))
abbrev qCA (c:Ck) (p:Pt) (td:Int) (tn:Int):Prop:=Fn 109 8 [qam c,.pv (qaf p.a p.b)] (qas c) (.pv (.tuple #[qaa tn td,.bool true])) 0 []
theorem qxv {c o:Ck} {p q:Pt} {k:Nat} {tn td:Int} (hf:qCA c p td tn) (hfd:Fn 110 1 [.ls 0 c.d.length,.pv (iV (p.id))] [(0,0,qaJ c.d)] (.pv (.tuple #[iV (k:Int),.bool true])) 0 []) (hq:c.d[k]?=some q) (hiq:0≤(k:Int)∧(k:Int)<(c.d.length:Int)) (hr:Fn 111 5 [agA c.u c.b c.fr c.ev c.wh,.pv (qaL q.a q.b),.pv (qaa tn td)] (qwL c) (.tu [.ag [.ls 5 o.u.length,.ls 6 o.b.length,.ls 7 o.fr.length,.ls 8 o.ev.length,.ls 9 o.wh.length],.one (.pv (iV 0))]) 5 (qDe o)) :
 Fn 59 8 [qam c,.pv (ptV p)] (qas c) (.tu [qwr c o,.one (.pv (iV 0))]) 5 [(8,0,zrI o.u),(9,0,zrB o.b),(10,0,zrI o.fr),(11,0,qao o.ev),(12,0,zrI o.wh)]:=
 Fz [(8,12),(9,13),(10,14),(11,15),(12,16)] [Cf hf [0,1,2,3,4,5,6,7],Cf hfd [7],.md,.r (qaL q.a q.b),Cf hr [2,3,4,5,6]]
  (qaG (qaK [(8,12),(9,13),(10,14),(11,15),(12,16)]) [(8,0,zrI o.u),(9,0,zrB o.b),(10,0,zrI o.fr),(11,0,qao o.ev),(12,0,zrI o.wh)]) (Co hf [0,1,2,3,4,5,6,7] 11 (Co hfd [7] 12 (Ai hiq (Ai (qdv hq) (Co hr [2,3,4,5,6] 12 tI)))))
abbrev qwT (l2:List Pt) (o:Ck):HpL:=[(8,0,zrI o.u),(9,0,zrB o.b),(10,0,zrI o.fr),(11,0,qao o.ev),(12,0,zrI o.wh),(13,0,qaJ l2)]
theorem qvR {c o:Ck} {p:Pt} {k:Nat} {tn td:Int} {l2:List Pt} (hf:qCA c p td tn) (hfd:Fn 110 1 [.ls 0 c.d.length,.pv (iV (p.id))] [(0,0,qaJ c.d)] (.pv (.tuple #[iV (k:Int),.bool false])) 0 []) (hp:Fn 112 8 [qam c,.pv (qaa tn td),.pv (iV (p.id))] (qas c) (.tu [qhs c o l2,.one (.pv (iV 0))]) 6 (qwT l2 o)) :
 Fn 59 8 [qam c,.pv (ptV p)] (qas c) (.tu [qhs c o l2,.one (.pv (iV 0))]) 6 (qwT l2 o):=
 Fz [(8,12),(9,13),(10,14),(11,15),(12,16),(13,17)] [Cf hf [0,1,2,3,4,5,6,7],Cf hfd [7],Cf hp [0,1,2,3,4,5,6,7]]
  (qaG (qaK [(8,12),(9,13),(10,14),(11,15),(12,16),(13,17)]) (qwT l2 o)) (Co hf [0,1,2,3,4,5,6,7] 11 (Co hfd [7] 12 (Co hp [0,1,2,3,4,5,6,7] 12 tI)))
theorem qvs {c:Ck} {p:Pt} {k:Nat} {tn td e:Int} (hf:qCA c p td tn) (hfd:Fn 110 1 [.ls 0 c.d.length,.pv (iV (p.id))] [(0,0,qaJ c.d)] (.pv (.tuple #[iV (k:Int),.bool false])) 0 []) (hp:Fn 112 8 [qam c,.pv (qaa tn td),.pv (iV (p.id))] (qas c) (.pv (.tuple #[qa3,iV e])) 0 []) :
 Fn 59 8 [qam c,.pv (ptV p)] (qas c) (.pv (.tuple #[qa3,iV e])) 0 []:=
 Fz [] [Cf hf [0,1,2,3,4,5,6,7],Cf hfd [7],Cf hp [0,1,2,3,4,5,6,7]]
  tI (Co hf [0,1,2,3,4,5,6,7] 11 (Co hfd [7] 12 (Co hp [0,1,2,3,4,5,6,7] 12 tI)))
theorem qtU {c o:Ck} {p:Pt} {k:Nat} {tn td:Int} {w:Bool} {l2:List Pt} (hf:Fn 109 8 [qam c,.pv (qaf p.a p.b)] (qas c) (.pv (.tuple #[qaa tn td,.bool false])) 0 []) (hfd:Fn 110 1 [.ls 0 c.d.length,.pv (iV (p.id))] [(0,0,qaJ c.d)] (.pv (.tuple #[iV (k:Int),.bool w])) 0 []) (hel:Fn 113 8 [qam c,.pv (iV (p.id))] (qas c) (qBz c o l2) 6 (qwT l2 o)) :
 Fn 59 8 [qam c,.pv (ptV p)] (qas c) (.tu [qhs c o l2,.one (.pv (iV 0))]) 6 (qwT l2 o):=
 Fz [(8,12),(9,13),(10,14),(11,15),(12,16),(13,17)] [Cf hf [0,1,2,3,4,5,6,7],Cf hfd [7],Cf hel [0,1,2,3,4,5,6,7]]
  (qaG (qaK [(8,12),(9,13),(10,14),(11,15),(12,16),(13,17)]) (qwT l2 o)) (Co hf [0,1,2,3,4,5,6,7] 11 (Co hfd [7] 12 (Co hel [0,1,2,3,4,5,6,7] 12 tI)))
theorem qwk {c:Ck} {p:Pt} {k:Nat} {tn td:Int} {w:Bool} (hf:Fn 109 8 [qam c,.pv (qaf p.a p.b)] (qas c) (.pv (.tuple #[qaa tn td,.bool false])) 0 []) (hfd:Fn 110 1 [.ls 0 c.d.length,.pv (iV (p.id))] [(0,0,qaJ c.d)] (.pv (.tuple #[iV (k:Int),.bool w])) 0 []) (hel:Fn 113 8 [qam c,.pv (iV (p.id))] (qas c) (qam c) 0 []) :
 Fn 59 8 [qam c,.pv (ptV p)] (qas c) (.tu [qru c,.one (.pv (iV 0))]) 0 []:=
 Fz [] [Cf hf [0,1,2,3,4,5,6,7],Cf hfd [7],Cf hel [0,1,2,3,4,5,6,7]]
  tI (Co hf [0,1,2,3,4,5,6,7] 11 (Co hfd [7] 12 (Co hel [0,1,2,3,4,5,6,7] 12 tI)))
theorem qAN {c:Ck} {n e:Int} (hrm:Fn 114 1 [qaP 0 c.x c.l,.pv (iV (n))] [(0,0,qal c.l)] (.pv (.tuple #[.agg #[iV 0,.slice none 0 0],qaf 0 0,iV e])) 0 []) (he:(e !=0)=true) :
 Fn 60 8 [qam c,.pv (iV (n))] (qas c) (.pv (.tuple #[qa3,qaf 0 0,iV e])) 0 []:=
 Fz [] [Cf hrm [1],.t true]
  tI (Co hrm [1] 11 (Ai he tI))
abbrev qEZ (a:Int) (b:Int) (c:Ck) (l2:List Pt) (n:Int):Prop:=Fn 114 1 [qaP 0 c.x c.l,.pv (iV (n))] [(0,0,qal c.l)] (.tu [.ag [.pv (iV c.x),.ls 1 l2.length],.one (.pv (qaf a b)),.one (.pv (iV 0))]) 1 [(1,0,qal l2)]
theorem qCa {c:Ck} {n a b:Int} {l2:List Pt} (hrm:qEZ a b c l2 n) (hcl:Fn 58 8 [qam c] (qas c) (ql0 c) 8 (qc9 c)) (hel:Fn 113 8 [qam c,.pv (iV (n))] (qas c) (qam c) 0 []) :
 Fn 60 8 [qam c,.pv (iV (n))] (qas c) (.tu [qg6 { c with l:=l2 },.one (.pv (qaf a b)),.one (.pv (iV 0))]) 8 (qc9 ({ c with l:=l2 }:Ck)):=
 Fz [(8,14),(9,11),(10,16),(11,17),(12,18),(13,19),(14,20),(15,21)] [Cf hrm [1],.k,Cf hcl [0,1,2,3,4,5,6,7],Cf hel [14,15,16,17,18,19,20,21]]
  (qaG (qaK [(8,14),(9,11),(10,16),(11,17),(12,18),(13,19),(14,20),(15,21)]) (qc9 ({ c with l:=l2 }:Ck))) (Co hrm [1] 11 (Co hcl [0,1,2,3,4,5,6,7] 14 (Co hel [14,15,16,17,18,19,20,21] 22 tI)))
theorem qxD {c o:Ck} {n a b:Int} {l l2:List Pt} (hrm:qEZ a b c l2 n) (hcl:Fn 58 8 [qam c] (qas c) (ql0 c) 8 (qc9 c)) (hel:Fn 113 8 [qam c,.pv (iV (n))] (qas c) (qBz c o l) 6 [(8,0,zrI o.u),(9,0,zrB o.b),(10,0,zrI o.fr),(11,0,qao o.ev),(12,0,zrI o.wh),(13,0,qaJ l)]) :
 Fn 60 8 [qam c,.pv (iV (n))] (qas c) (.tu [qg6 { c with l:=l2,u:=o.u,b:=o.b,fr:=o.fr,ev:=o.ev,wh:=o.wh,d:=l },.one (.pv (qaf a b)),.one (.pv (iV 0))]) 8 (qc9 ({ c with l:=l2,u:=o.u,b:=o.b,fr:=o.fr,ev:=o.ev,wh:=o.wh,d:=l }:Ck)):=
 Fz [(8,14),(9,11),(10,22),(11,23),(12,24),(13,25),(14,26),(15,27)] [Cf hrm [1],.k,Cf hcl [0,1,2,3,4,5,6,7],Cf hel [14,15,16,17,18,19,20,21]]
  (qaG (qaK [(8,14),(9,11),(10,22),(11,23),(12,24),(13,25),(14,26),(15,27)]) (qc9 ({ c with l:=l2,u:=o.u,b:=o.b,fr:=o.fr,ev:=o.ev,wh:=o.wh,d:=l }:Ck))) (Co hrm [1] 11 (Co hcl [0,1,2,3,4,5,6,7] 14 (Co hel [14,15,16,17,18,19,20,21] 22 tI)))
end Go.Proofs.YtkjaanhddkkodaaGreat
