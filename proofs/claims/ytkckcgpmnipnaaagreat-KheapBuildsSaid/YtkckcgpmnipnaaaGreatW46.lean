/-
  Joined: Ba, Bb, Bc. Conditions: none.
-/
import Derived.Test.YtkckcgpmnipnaaaGreatW44
import Derived.Test.YtkckcgpmnipnaaaGreatW21
namespace Go.Proofs.YtkckcgpmnipnaaaGreat
set_option maxRecDepth 100000
open Go.RowKit
theorem qBk {a pa pb n:Int} (n1:(!(a==a))=false) (n2:(!(n==n))=false) (h1:decide (a<n)=true) :
 Pure Tryz.prog 310 #[qab a pa pb,iV n] (iV (-1)):=
 qac (args:=[qab a pa pb,iV n]) 300 [.k,.k,.t false,.k,.t false,.t true]
  (Ai rfl (Ai n1 (Ai n2 (Ai h1 tI)))) (by kernel_rfl)
theorem qCk {a pa pb n:Int} (n1:(!(a==a))=false) (n2:(!(n==n))=false) (h1:decide (a<n)=false) (h2:decide (a>n)=true) :
 Pure Tryz.prog 310 #[qab a pa pb,iV n] (iV (1)):=
 qac (args:=[qab a pa pb,iV n]) 300 [.k,.k,.t false,.k,.t false,.t false,.t true]
  (Ai rfl (Ai n1 (Ai n2 (Ai h1 (Ai h2 tI))))) (by kernel_rfl)
theorem qCK {a pa pb n:Int} (n1:(!(a==a))=false) (n2:(!(n==n))=false) (h1:decide (a<n)=false) (h2:decide (a>n)=false) :
 Pure Tryz.prog 310 #[qab a pa pb,iV n] (iV (0)):=
 qac (args:=[qab a pa pb,iV n]) 300 [.k,.k,.t false,.k,.t false,.t false,.t false]
  (Ai rfl (Ai n1 (Ai n2 (Ai h1 (Ai h2 tI))))) (by kernel_rfl)
abbrev qEi (i:Nat) (j:Nat) (l:List Pt) (n:Int):TmL:=[(0,.ls 0 l.length),(1,.pv (iV n)),(2,.pv (.func (.func 310) #[] #[])),(8,.pv (iV (l.length:Int))),(9,.pv (iV (i:Int))),(10,.pv (iV (j:Int)))]
abbrev qtn (c:Int) (n:Int) (p:Pt):Prop:=Pure Tryz.prog 310 #[qab p.id p.a p.b,iV n] (iV (c))
theorem qzD {l:List Pt} {i j h:Nat} {p:Pt} {c n:Int} (hk:l[h]?=some p) (hin:0≤(h:Int)∧(h:Int)<(l.length:Int)) (hlt:decide ((i:Int)<(j:Int))=true) (ha:iV (IntKind.i64.wrap ((i:Int)+(j:Int)))=iV ((i:Int)+(j:Int))) (hu:Value.int .u64 (IntKind.u64.wrap ((i:Int)+(j:Int)))=.int .u64 ((i:Int)+(j:Int))) (h1:¬ (1:Int)<0) (hs:Value.int .u64 (((i:Int)+(j:Int)).fdiv (2 ^ (min (1:Int).toNat IntKind.u64.bits)))=.int .u64 (h:Int)) (hb:iV (IntKind.i64.wrap (h:Int))=iV (h:Int)) (hc:qtn c n p) (hz:decide (c<0)=true) (hh:iV (IntKind.i64.wrap ((h:Int)+1))=iV (((h+1:Nat):Int))) {e:Exit} {tm2:TmL} {hp2:HpL}
 (r:Rl 1 1 293 0 49 1 ([(0,.ls 0 l.length),(1,.pv (iV n)),(2,.pv (.func (.func 310) #[] #[])),(8,.pv (iV (l.length:Int))),(9,.pv (iV ((h+1:Nat):Int))),(10,.pv (iV (j:Int)))]) ([(0,0,qad l)]) e tm2 hp2):Rl 1 1 293 0 49 1 (qEi i j l n) ([(0,0,qad l)]) e tm2 hp2:=
 RunsL.next [] 300 [.t true,Re ha,Re hu,.r (.int .u64 (h:Int)),Re hb,.r (ptV p),Rf hc,.t true,Re hh]
  (Ro (Ai hlt (Ai ha (Ai hu (Ai h1 (Ai hs (Ai hb (Ai hin (Ai (qaA hk) (Ai hc (Ai hz (Ai hh tI)))))))))))) r
theorem qAE {l:List Pt} {i j h:Nat} {p:Pt} {c n:Int} (hk:l[h]?=some p) (hin:0≤(h:Int)∧(h:Int)<(l.length:Int)) (hlt:decide ((i:Int)<(j:Int))=true) (ha:iV (IntKind.i64.wrap ((i:Int)+(j:Int)))=iV ((i:Int)+(j:Int))) (hu:Value.int .u64 (IntKind.u64.wrap ((i:Int)+(j:Int)))=.int .u64 ((i:Int)+(j:Int))) (h1:¬ (1:Int)<0) (hs:Value.int .u64 (((i:Int)+(j:Int)).fdiv (2 ^ (min (1:Int).toNat IntKind.u64.bits)))=.int .u64 (h:Int)) (hb:iV (IntKind.i64.wrap (h:Int))=iV (h:Int)) (hc:qtn c n p) (hz:decide (c<0)=false) {e:Exit} {tm2:TmL} {hp2:HpL}
 (r:Rl 1 1 293 0 49 1 ([(0,.ls 0 l.length),(1,.pv (iV n)),(2,.pv (.func (.func 310) #[] #[])),(8,.pv (iV (l.length:Int))),(9,.pv (iV (i:Int))),(10,.pv (iV (h:Int)))]) ([(0,0,qad l)]) e tm2 hp2):Rl 1 1 293 0 49 1 (qEi i j l n) ([(0,0,qad l)]) e tm2 hp2:=
 RunsL.next [] 300 [.t true,Re ha,Re hu,.r (.int .u64 (h:Int)),Re hb,.r (ptV p),Rf hc,.t false]
  (Ro (Ai hlt (Ai ha (Ai hu (Ai h1 (Ai hs (Ai hb (Ai hin (Ai (qaA hk) (Ai hc (Ai hz tI))))))))))) r
theorem qpq {l:List Pt} {i j:Nat} {n:Int} (hge:decide ((i:Int)<(j:Int))=false):Rl 1 1 293 0 49 1 (qEi i j l n) ([(0,0,qad l)]) (.exit 0) (qEi i j l n) ([(0,0,qad l)]):=
 RunsL.stop [] 300 [.t false] (fun h=>by cases h)
  (Ro (Ai hge tI))
abbrev qGp (k:Nat) (l:List Pt) (n:Int):Prop:=Rl 1 1 293 0 49 1 ([(0,.ls 0 l.length),(1,.pv (iV n)),(2,.pv (.func (.func 310) #[] #[])),(8,.pv (iV (l.length:Int))),(9,.pv (iV ((0:Nat):Int))),(10,.pv (iV (l.length:Int)))]) ([(0,0,qad l)]) (.exit 0) ([(0,.ls 0 l.length),(1,.pv (iV n)),(2,.pv (.func (.func 310) #[] #[])),(8,.pv (iV (l.length:Int))),(9,.pv (iV (k:Int))),(10,.pv (iV (k:Int)))]) ([(0,0,qad l)])
theorem qvL {l:List Pt} {k:Nat} {n:Int} (r0:qGp k l n) (hge:decide ((k:Int)<(l.length:Int))=false) :
 Fn 293 1 [.ls 0 l.length,.pv (iV (n)),.pv (.func (.func 310) #[] #[])] [(0,0,qad l)] (.pv (.tuple #[iV (k:Int),.bool false])) 0 []:=
 Fz [] [Lf r0,.t false]
  tI (Lo r0 [] (Ai hge tI))
theorem qyb {l:List Pt} {k:Nat} {p:Pt} {c:Int} {n:Int} (r0:qGp k l n) (hk:l[k]?=some p) (hin:0≤(k:Int)∧(k:Int)<(l.length:Int)) (hlt:decide ((k:Int)<(l.length:Int))=true) (hc:qtn c n p) (hz:(c==0)=true) :
 Fn 293 1 [.ls 0 l.length,.pv (iV (n)),.pv (.func (.func 310) #[] #[])] [(0,0,qad l)] (.pv (.tuple #[iV (k:Int),.bool true])) 0 []:=
 Fz [] [Lf r0,.t true,.r (ptV p),Rf hc,.t true]
  tI (Lo r0 [] (Ai hlt (Ai hin (Ai (qaA hk) (Ai hc (Ai hz tI))))))
theorem qBg {l:List Pt} {k:Nat} {p:Pt} {c:Int} {n:Int} (r0:qGp k l n) (hk:l[k]?=some p) (hin:0≤(k:Int)∧(k:Int)<(l.length:Int)) (hlt:decide ((k:Int)<(l.length:Int))=true) (hc:qtn c n p) (hz:(c==0)=false) :
 Fn 293 1 [.ls 0 l.length,.pv (iV (n)),.pv (.func (.func 310) #[] #[])] [(0,0,qad l)] (.pv (.tuple #[iV (k:Int),.bool false])) 0 []:=
 Fz [] [Lf r0,.t true,.r (ptV p),Rf hc,.t false]
  tI (Lo r0 [] (Ai hlt (Ai hin (Ai (qaA hk) (Ai hc (Ai hz tI))))))
theorem qm7 {s:List Pt} {p:Pt} {k:Nat} {n:Int} (hb:Fn 293 1 [.ls 0 s.length,.pv (iV (n)),.pv (.func (.func 310) #[] #[])] [(0,0,qad s)] (.pv (.tuple #[iV (k:Int),.bool true])) 0 []) (hk:s[k]?=some p) (hin:0≤(k:Int)∧(k:Int)<(s.length:Int)) :
 Fn 265 1 [qas 0 s,.pv (iV (n))] [(0,0,qad s)] (.pv (.tuple #[ptV p,.bool true])) 0 []:=
 Fz [] [Cf hb [0],.k,.r (ptV p)]
  tI (Co hb [0] 3 (Ai hin (Ai (qaA hk) tI)))
theorem qBd {s:List Pt} {k:Nat} {n:Int} (hb:Fn 293 1 [.ls 0 s.length,.pv (iV (n)),.pv (.func (.func 310) #[] #[])] [(0,0,qad s)] (.pv (.tuple #[iV (k:Int),.bool false])) 0 []) :
 Fn 265 1 [qas 0 s,.pv (iV (n))] [(0,0,qad s)] (.pv (.tuple #[ptV (Pt.mk 0 0 0),.bool false])) 0 []:=
 Fz [] [Cf hb [0],.k]
  tI (Co hb [0] 3 tI)
theorem cfl {c:Ck} {p q:Pt} {a b tn td:Int} {w:Bool} (h1:Fn 265 1 [qas 0 c.s,.pv (iV (b))] [(0,0,qad c.s)] (.pv (.tuple #[ptV p,.bool true])) 0 []) (h2:Fn 265 1 [qas 0 c.s,.pv (iV (a))] [(0,0,qad c.s)] (.pv (.tuple #[ptV q,.bool true])) 0 []) (hl:Pure Tryz.prog 266 #[ptV p,ptV q,qaa c.tn c.td] (.tuple #[qaa tn td,.bool w,iV 0])) :
 Fn 216 8 [qaz c,.pv (qah a b)] (qaC c) (.pv (.tuple #[qaa tn td,.bool w])) 0 []:=
 Fz [] [Cf h1 [0],Cf h2 [0],Rf hl]
  tI (Co h1 [0] 11 (Co h2 [0] 12 (Ai hl tI)))
theorem qB4 {s:List Pt} {p q:Pt} {a b:Int} (h1:Fn 265 1 [qas 0 s,.pv (iV (b))] [(0,0,qad s)] (.pv (.tuple #[ptV p,.bool true])) 0 []) (h2:Fn 265 1 [qas 0 s,.pv (iV (a))] [(0,0,qad s)] (.pv (.tuple #[ptV q,.bool true])) 0 []) :
 Fn 215 1 [qas 0 s,.pv (qah a b)] [(0,0,qad s)] (.pv (.bool true)) 0 []:=
 Fz [] [Cf h1 [0],Cf h2 [0]]
  tI (Co h1 [0] 3 (Co h2 [0] 4 tI))
theorem qzy {s:List Pt} {p q:Pt} {a b:Int} (h1:Fn 265 1 [qas 0 s,.pv (iV (b))] [(0,0,qad s)] (.pv (.tuple #[ptV p,.bool true])) 0 []) (h2:Fn 265 1 [qas 0 s,.pv (iV (a))] [(0,0,qad s)] (.pv (.tuple #[ptV q,.bool false])) 0 []) :
 Fn 215 1 [qas 0 s,.pv (qah a b)] [(0,0,qad s)] (.pv (.bool false)) 0 []:=
 Fz [] [Cf h1 [0],Cf h2 [0]]
  tI (Co h1 [0] 3 (Co h2 [0] 4 tI))
theorem qGo {s:List Pt} {p q:Pt} {a b:Int} {w:Bool} (h1:Fn 265 1 [qas 0 s,.pv (iV (b))] [(0,0,qad s)] (.pv (.tuple #[ptV p,.bool false])) 0 []) (h2:Fn 265 1 [qas 0 s,.pv (iV (a))] [(0,0,qad s)] (.pv (.tuple #[ptV q,.bool w])) 0 []) :
 Fn 215 1 [qas 0 s,.pv (qah a b)] [(0,0,qad s)] (.pv (.bool false)) 0 []:=
 Fz [] [Cf h1 [0],Cf h2 [0]]
  tI (Co h1 [0] 3 (Co h2 [0] 4 tI))
abbrev qlJ (l:List Pt) (s:List Pt):HpL:=[(2,0,.ls 0 s.length),(0,0,qad s),(1,0,qam l)]
abbrev quR (k:Nat) (l:List Pt):TmL:=[(2,.pp 2 0),(8,.ls 1 l.length),(9,.pv (iV (l.length:Int))),(10,.pv (iV (k:Int)))]
theorem qkw {s:List Pt} {p:Pt} {k:Nat} {l:List Pt} (hk:l[k]?=some p) (hin:0≤(k:Int)∧(k:Int)<(l.length:Int)) (hlt:decide ((k:Int)<(l.length:Int))=true) (hb:Fn 215 1 [qas 0 s,.pv (qah p.a p.b)] [(0,0,qad s)] (.pv (.bool true)) 0 []) (hs:iV (IntKind.i64.wrap ((k:Int)+1))=iV (((k+1:Nat):Int))) {e:Exit} {tm2:TmL} {hp2:HpL}
 (r:Rl 2 2 173 0 20 4 ([(2,.pp 2 0),(8,.ls 1 l.length),(9,.pv (iV (l.length:Int))),(10,.pv (iV ((k+1:Nat):Int)))]) (qlJ l s) e tm2 hp2):Rl 2 2 173 0 20 4 (quR k l) (qlJ l s) e tm2 hp2:=
 RunsL.next [] 300 [.t true,.r (ptV p),Cf hb [0],.k,Re hs]
  (Ro (Ai hlt (Ai hin (Ai (qaA hk) (Co hb [0] 5 (Ai hs tI)))))) r
theorem qx5 {s:List Pt} {p:Pt} {k:Nat} {l:List Pt} (hk:l[k]?=some p) (hin:0≤(k:Int)∧(k:Int)<(l.length:Int)) (hlt:decide ((k:Int)<(l.length:Int))=true) (hb:Fn 215 1 [qas 0 s,.pv (qah p.a p.b)] [(0,0,qad s)] (.pv (.bool false)) 0 []):Rl 2 2 173 0 20 4 (quR k l) (qlJ l s) (.ret) ([(4,.pv (iV 6))]) ([]):=
 RunsL.stop [] 300 [.t true,.r (ptV p),Cf hb [0],.k] (fun h=>by cases h)
  (Ro (Ai hlt (Ai hin (Ai (qaA hk) (Co hb [0] 5 tI)))))
theorem qxY {s:List Pt} {k:Nat} {l:List Pt} (hge:decide ((k:Int)<(l.length:Int))=false):Rl 2 2 173 0 20 4 (quR k l) (qlJ l s) (.exit 0) ([]) ([]):=
 RunsL.stop [] 300 [.t false] (fun h=>by cases h)
  (Ro (Ai hge tI))
theorem qCF {s:List Pt} {x2:Int} {l:List Pt} (r0:Rl 2 2 173 0 20 4 ([(2,.pp 2 0),(8,.ls 1 l.length),(9,.pv (iV (l.length:Int))),(10,.pv (iV ((0:Nat):Int)))]) (qlJ l s) (.ret) ([(4,.pv (iV 6))]) ([])) :
 Fn 173 2 [qas 0 s,qaS 1 x2 l] [(0,0,qad s),(1,0,qam l)] (.pv (iV (6))) 0 []:=
 Fz [] [Lf r0]
  tI (Lo r0 [] tI)
theorem qA5 {s:List Pt} {x2:Int} {l:List Pt} (r0:Rl 2 2 173 0 20 4 ([(2,.pp 2 0),(8,.ls 1 l.length),(9,.pv (iV (l.length:Int))),(10,.pv (iV ((0:Nat):Int)))]) (qlJ l s) (.exit 0) ([]) ([])) :
 Fn 173 2 [qas 0 s,qaS 1 x2 l] [(0,0,qad s),(1,0,qam l)] (.pv (iV (0))) 0 []:=
 Fz [] [Lf r0]
  tI (Lo r0 [] tI)
abbrev qEr (c:Ck) (k:Nat) (m:Nat):TmL:=[(1,.pp 8 0),(3,.ls 9 (m)),(10,.ls 1 c.l.length),(11,.pv (iV (c.l.length:Int))),(12,.pv (iV (k:Int)))]
theorem qtD {c:Ck} {p:Pt} {k m:Nat} {tn td:Int} {vs:List Value} (hk:c.l[k]?=some p) (hin:0≤(k:Int)∧(k:Int)<(c.l.length:Int)) (hlt:decide ((k:Int)<(c.l.length:Int))=true) (hf:Fn 216 8 [qaz c,.pv (qah p.a p.b)] (qaC c) (.pv (.tuple #[qaa tn td,.bool false])) 0 []) (hs:iV (IntKind.i64.wrap ((k:Int)+1))=iV (((k+1:Nat):Int))) {e:Exit} {tm2:TmL} {hp2:HpL}
 (r:Rl 8 8 179 0 33 10 ([(1,.pp 8 0),(3,.ls 9 (m)),(10,.ls 1 c.l.length),(11,.pv (iV (c.l.length:Int))),(12,.pv (iV ((k+1:Nat):Int)))]) ((qcL 8 c++[(9,0,.row 61 5 (m) (vs))])) e tm2 hp2):Rl 8 8 179 0 33 10 (qEr c k m) ((qcL 8 c++[(9,0,.row 61 5 (m) (vs))])) e tm2 hp2:=
 RunsL.next [] 300 [.t true,.r (ptV p),Cf hf [0,1,2,3,4,5,6,7],Re hs]
  (Ro (Ai hlt (Ai hin (Ai (qaA hk) (Co hf [0,1,2,3,4,5,6,7] 11 (Ai hs tI)))))) r
theorem qqD {c:Ck} {p:Pt} {k m:Nat} {tn td:Int} {vs:List Value} (hk:c.l[k]?=some p) (hin:0≤(k:Int)∧(k:Int)<(c.l.length:Int)) (hlt:decide ((k:Int)<(c.l.length:Int))=true) (hf:Fn 216 8 [qaz c,.pv (qah p.a p.b)] (qaC c) (.pv (.tuple #[qaa tn td,.bool true])) 0 []) (hm:m+1≤1000000) (hs:iV (IntKind.i64.wrap ((k:Int)+1))=iV (((k+1:Nat):Int))) {e:Exit} {tm2:TmL} {hp2:HpL}
 (r:Rl 8 8 179 0 33 10 ([(1,.pp 8 0),(3,.ls 9 (m+1)),(10,.ls 1 c.l.length),(11,.pv (iV (c.l.length:Int))),(12,.pv (iV ((k+1:Nat):Int)))]) ((qcL 8 c++[(9,0,.row 61 5 (m+1) (vs++[iV tn,iV td,iV p.id,iV 0,iV 0]))])) e tm2 hp2):Rl 8 8 179 0 33 10 (qEr c k m) ((qcL 8 c++[(9,0,.row 61 5 (m) (vs))])) e tm2 hp2:=
 RunsL.next [(9,13)] 300 [.t true,.r (ptV p),Cf hf [0,1,2,3,4,5,6,7],Re hs]
  (Ro (Ai hlt (Ai hin (Ai (qaA hk) (Co hf [0,1,2,3,4,5,6,7] 11 (Ai hm (Ai hs tI))))))) r
theorem qyo {c:Ck} {k m:Nat} {vs:List Value} (hge:decide ((k:Int)<(c.l.length:Int))=false):Rl 8 8 179 0 33 10 (qEr c k m) ((qcL 8 c++[(9,0,.row 61 5 (m) (vs))])) (.exit 0) ([(3,.ls 9 m)]) ([(9,0,.row 61 5 m vs)]):=
 RunsL.stop [] 300 [.t false] (fun h=>by cases h)
  (Ro (Ai hge tI))
theorem qqz {c:Ck} {m:Nat} {vs:List Value} (r0:Rl 8 8 179 0 33 10 ([(1,.pp 8 0),(3,.ls 9 (0)),(10,.ls 1 c.l.length),(11,.pv (iV (c.l.length:Int))),(12,.pv (iV ((0:Nat):Int)))]) ((qcL 8 c++[(9,0,.row 61 5 (0) ([]))])) (.exit 0) ([(3,.ls 9 m)]) ([(9,0,.row 61 5 m vs)])) :
 Fn 179 8 [qaz c] (qaC c) (.ls 8 m) 1 [(8,0,.row 61 5 m vs)]:=
 Fz [(8,9)] [.ln true 3 0 61 5,Lf r0]
  (qaE (qaK [(8,9)]) [(8,0,.row 61 5 m vs)]) (Lo r0 [] tI)
abbrev qrv (c:Ck):HpL:=[(0,0,zrI c.u),(1,0,zrB c.b),(2,0,zrI c.fr),(3,0,qar c.ev),(4,0,zrI c.wh)]
theorem qCR {c:Ck} {z9:Ev} (h0:decide (0≤z9.i)=false) :
 Fn 180 5 [agA c.u c.b c.fr c.ev c.wh,.pv (qae z9)] (qrv c) (.pv (.bool false)) 0 []:=
 Fz [] [.t false]
  tI (Ai h0 tI)
theorem qBe {c:Ck} {z9:Ev} (h0:decide (0≤z9.i)=true) (h1:decide (z9.i<(c.wh.length:Int))=false) :
 Fn 180 5 [agA c.u c.b c.fr c.ev c.wh,.pv (qae z9)] (qrv c) (.pv (.bool false)) 0 []:=
 Fz [] [.t true,.t false]
  tI (Ai h0 (Ai h1 tI))
theorem qwo {c:Ck} {n:Int} {z9:Ev} (h0:decide (0≤z9.i)=true) (h1:decide (z9.i<(c.wh.length:Int))=true) (hi1:0≤z9.i∧z9.i<(c.wh.length:Int)) (hw1:c.wh[z9.i.toNat]?=some n) (h2:decide (n≥0)=false) :
 Fn 180 5 [agA c.u c.b c.fr c.ev c.wh,.pv (qae z9)] (qrv c) (.pv (.bool false)) 0 []:=
 Fz [] [.t true,.t true,.r (iV n),.t false]
  tI (Ai h0 (Ai h1 (Ai hi1 (Ai (qaQ hw1) (Ai h2 tI)))))
theorem qvm {c:Ck} {n:Int} {y:Ev} {z9:Ev} (h0:decide (0≤z9.i)=true) (h1:decide (z9.i<(c.wh.length:Int))=true) (hi1:0≤z9.i∧z9.i<(c.wh.length:Int)) (hw1:c.wh[z9.i.toNat]?=some n) (h2:decide (n≥0)=true) (hi2:0≤n∧n<(c.ev.length:Int)) (hy:c.ev[n.toNat]?=some y) (h3:((y.n==z9.n&&(y.d==z9.d&&true))&&(y.k==z9.k&&((y.i==z9.i&&(y.w==z9.w&&true))&&true)))=true) :
 Fn 180 5 [agA c.u c.b c.fr c.ev c.wh,.pv (qae z9)] (qrv c) (.pv (.bool true)) 0 []:=
 Fz [] [.t true,.t true,.r (iV n),.t true,.r (iV n),.r (qae y),.t true]
  tI (Ai h0 (Ai h1 (Ai hi1 (Ai (qaQ hw1) (Ai h2 (Ai hi1 (Ai (qaQ hw1) (Ai hi2 (Ai (qcw hy) (Ai h3 tI))))))))))
theorem qBx {c:Ck} {n:Int} {y:Ev} {z9:Ev} (h0:decide (0≤z9.i)=true) (h1:decide (z9.i<(c.wh.length:Int))=true) (hi1:0≤z9.i∧z9.i<(c.wh.length:Int)) (hw1:c.wh[z9.i.toNat]?=some n) (h2:decide (n≥0)=true) (hi2:0≤n∧n<(c.ev.length:Int)) (hy:c.ev[n.toNat]?=some y) (h3:((y.n==z9.n&&(y.d==z9.d&&true))&&(y.k==z9.k&&((y.i==z9.i&&(y.w==z9.w&&true))&&true)))=false) :
 Fn 180 5 [agA c.u c.b c.fr c.ev c.wh,.pv (qae z9)] (qrv c) (.pv (.bool false)) 0 []:=
 Fz [] [.t true,.t true,.r (iV n),.t true,.r (iV n),.r (qae y),.t false]
  tI (Ai h0 (Ai h1 (Ai hi1 (Ai (qaQ hw1) (Ai h2 (Ai hi1 (Ai (qaQ hw1) (Ai hi2 (Ai (qcw hy) (Ai h3 tI))))))))))
abbrev qsP (c:Ck) (fl:List Ev):Prop:=Fn 179 8 [qaz c] (qaC c) (.ls 8 fl.length) 1 [(8,0,qar fl)]
theorem qEH {c:Ck} {fl:List Ev} (hfs:qsP c fl) (hn1:((c.d.length:Int) !=(fl.length:Int))=true) :
 Fn 115 8 [qaz c] (qaC c) (.pv (.bool false)) 0 []:=
 Fz [] [Cf hfs [0,1,2,3,4,5,6,7],.t true]
  tI (Co hfs [0,1,2,3,4,5,6,7] 9 (Ai hn1 tI))
theorem qGC {c:Ck} {fl:List Ev} (hfs:qsP c fl) (hn1:((c.d.length:Int) !=(fl.length:Int))=false) (hn2:((c.ev.length:Int) !=(fl.length:Int))=true) :
 Fn 115 8 [qaz c] (qaC c) (.pv (.bool false)) 0 []:=
 Fz [] [Cf hfs [0,1,2,3,4,5,6,7],.t false,.t true]
  tI (Co hfs [0,1,2,3,4,5,6,7] 9 (Ai hn1 (Ai hn2 tI)))
abbrev qDA (fl:List Ev) (k:Nat):TmL:=[(1,.pp 8 0),(23,.ls 9 fl.length),(24,.pv (iV (fl.length:Int))),(25,.pv (iV (k:Int)))]
theorem qxC {c:Ck} {q:Pt} {k:Nat} {y:Ev} {fl:List Ev} (hk:fl[k]?=some y) (hin:0≤(k:Int)∧(k:Int)<(fl.length:Int)) (hq:c.d[k]?=some q) (hiq:0≤(k:Int)∧(k:Int)<(c.d.length:Int)) (hlt:decide ((k:Int)<(fl.length:Int))=true) (hne:(q.id !=y.k)=true):Rl 8 8 115 0 54 10 (qDA fl k) ((qcL 8 c++[(9,0,qar fl)])) (.ret) ([(2,.pv (.bool false))]) ([]):=
 RunsL.stop [] 300 [.t true,.r (qae y),.r (qbb q.a q.b),.r (iV q.id),.t true] (fun h=>by cases h)
  (Ro (Ai hlt (Ai hin (Ai (qcw hk) (Ai hiq (Ai (qfp hq) (Ai hiq (Ai (qcU hq) (Ai hne tI)))))))))
theorem qCd {c:Ck} {q:Pt} {k:Nat} {y:Ev} {fl:List Ev} (hk:fl[k]?=some y) (hin:0≤(k:Int)∧(k:Int)<(fl.length:Int)) (hq:c.d[k]?=some q) (hiq:0≤(k:Int)∧(k:Int)<(c.d.length:Int)) (hlt:decide ((k:Int)<(fl.length:Int))=true) (hne:(q.id !=y.k)=false) (hv:Fn 180 5 [agA c.u c.b c.fr c.ev c.wh,.pv (qae (Ev.mk y.n y.d y.k q.a q.b))] (qrv c) (.pv (.bool false)) 0 []):Rl 8 8 115 0 54 10 (qDA fl k) ((qcL 8 c++[(9,0,qar fl)])) (.ret) ([(2,.pv (.bool false))]) ([]):=
 RunsL.stop [] 300 [.t true,.r (qae y),.r (qbb q.a q.b),.r (iV q.id),.t false,Cf hv [2,3,4,5,6],.k] (fun h=>by cases h)
  (Ro (Ai hlt (Ai hin (Ai (qcw hk) (Ai hiq (Ai (qfp hq) (Ai hiq (Ai (qcU hq) (Ai hne (Co hv [2,3,4,5,6] 11 tI))))))))))
theorem qpN {c:Ck} {q:Pt} {k:Nat} {y:Ev} {fl:List Ev} (hk:fl[k]?=some y) (hin:0≤(k:Int)∧(k:Int)<(fl.length:Int)) (hq:c.d[k]?=some q) (hiq:0≤(k:Int)∧(k:Int)<(c.d.length:Int)) (hlt:decide ((k:Int)<(fl.length:Int))=true) (hne:(q.id !=y.k)=false) (hv:Fn 180 5 [agA c.u c.b c.fr c.ev c.wh,.pv (qae (Ev.mk y.n y.d y.k q.a q.b))] (qrv c) (.pv (.bool true)) 0 []) (hs:iV (IntKind.i64.wrap ((k:Int)+1))=iV (((k+1:Nat):Int))) {e:Exit} {tm2:TmL} {hp2:HpL}
 (r:Rl 8 8 115 0 54 10 ([(1,.pp 8 0),(23,.ls 9 fl.length),(24,.pv (iV (fl.length:Int))),(25,.pv (iV ((k+1:Nat):Int)))]) ((qcL 8 c++[(9,0,qar fl)])) e tm2 hp2):Rl 8 8 115 0 54 10 (qDA fl k) ((qcL 8 c++[(9,0,qar fl)])) e tm2 hp2:=
 RunsL.next [] 300 [.t true,.r (qae y),.r (qbb q.a q.b),.r (iV q.id),.t false,Cf hv [2,3,4,5,6],.k,Re hs]
  (Ro (Ai hlt (Ai hin (Ai (qcw hk) (Ai hiq (Ai (qfp hq) (Ai hiq (Ai (qcU hq) (Ai hne (Co hv [2,3,4,5,6] 11 (Ai hs tI))))))))))) r
theorem qvx {c:Ck} {k:Nat} {fl:List Ev} (hge:decide ((k:Int)<(fl.length:Int))=false):Rl 8 8 115 0 54 10 (qDA fl k) ((qcL 8 c++[(9,0,qar fl)])) (.exit 0) ([]) ([]):=
 RunsL.stop [] 300 [.t false] (fun h=>by cases h)
  (Ro (Ai hge tI))
theorem qwn {c:Ck} {fl:List Ev} (hfs:qsP c fl) (hn1:((c.d.length:Int) !=(fl.length:Int))=false) (hn2:((c.ev.length:Int) !=(fl.length:Int))=false) (r0:Rl 8 8 115 0 54 10 ([(1,.pp 8 0),(23,.ls 9 fl.length),(24,.pv (iV (fl.length:Int))),(25,.pv (iV ((0:Nat):Int)))]) ((qcL 8 c++[(9,0,qar fl)])) (.ret) ([(2,.pv (.bool false))]) ([])) :
 Fn 115 8 [qaz c] (qaC c) (.pv (.bool false)) 0 []:=
 Fz [] [Cf hfs [0,1,2,3,4,5,6,7],.t false,.t false,Lf r0]
  tI (Co hfs [0,1,2,3,4,5,6,7] 9 (Ai hn1 (Ai hn2 (Lo r0 [] tI))))
theorem qCD {c:Ck} {fl:List Ev} (hfs:qsP c fl) (hn1:((c.d.length:Int) !=(fl.length:Int))=false) (hn2:((c.ev.length:Int) !=(fl.length:Int))=false) (r0:Rl 8 8 115 0 54 10 ([(1,.pp 8 0),(23,.ls 9 fl.length),(24,.pv (iV (fl.length:Int))),(25,.pv (iV ((0:Nat):Int)))]) ((qcL 8 c++[(9,0,qar fl)])) (.exit 0) ([]) ([])) :
 Fn 115 8 [qaz c] (qaC c) (.pv (.bool true)) 0 []:=
 Fz [] [Cf hfs [0,1,2,3,4,5,6,7],.t false,.t false,Lf r0]
  tI (Co hfs [0,1,2,3,4,5,6,7] 9 (Ai hn1 (Ai hn2 (Lo r0 [] tI))))
abbrev qEb (c:Ck) (e4:Int):Prop:=Fn 177 5 [agA c.u c.b c.fr c.ev c.wh] (qrv c) (.pv (iV (e4))) 0 []
abbrev qwO (c:Ck) (e3:Int):Prop:=Fn 178 1 [qaS 0 c.x c.l] [(0,0,qam c.l)] (.pv (iV (e3))) 0 []
theorem qFA {c:Ck} {e1 e2 e3 e4:Int} (h1:Pure Tryz.prog 101 #[qaa c.tn c.td] (iV (e1))) (h2:Fn 74 1 [qas 0 c.s] [(0,0,qad c.s)] (.pv (iV (e2))) 0 []) (h3:qwO c e3) (h4:qEb c e4) (he:(e1 !=0)=true) :
 Fn 114 8 [qaz c] (qaC c) (.pv (.bool false)) 0 []:=
 Fz [] [Rf h1,Cf h2 [0],Cf h3 [1],Cf h4 [2,3,4,5,6],.k,.k,.t true,.t true]
  tI (Ai h1 (Co h2 [0] 9 (Co h3 [1] 9 (Co h4 [2,3,4,5,6] 9 (Ai he (Ai he tI))))))
abbrev qze (c:Ck):Prop:=Pure Tryz.prog 101 #[qaa c.tn c.td] (iV (0))
theorem qGO {c:Ck} {e2 e3 e4:Int} (h1:qze c) (h2:Fn 74 1 [qas 0 c.s] [(0,0,qad c.s)] (.pv (iV (e2))) 0 []) (h3:qwO c e3) (h4:qEb c e4) (he:(e2 !=0)=true) :
 Fn 114 8 [qaz c] (qaC c) (.pv (.bool false)) 0 []:=
 Fz [] [Rf h1,Cf h2 [0],Cf h3 [1],Cf h4 [2,3,4,5,6],.k,.k,.k,.k,.k,.t true,.t true]
  tI (Ai h1 (Co h2 [0] 9 (Co h3 [1] 9 (Co h4 [2,3,4,5,6] 9 (Ai he (Ai he tI))))))
abbrev qBJ (c:Ck):Prop:=Fn 74 1 [qas 0 c.s] [(0,0,qad c.s)] (.pv (iV (0))) 0 []
theorem qEN {c:Ck} {e3 e4:Int} (h1:qze c) (h2:qBJ c) (h3:qwO c e3) (h4:qEb c e4) (he:(e3 !=0)=true) :
 Fn 114 8 [qaz c] (qaC c) (.pv (.bool false)) 0 []:=
 Fz [] [Rf h1,Cf h2 [0],Cf h3 [1],Cf h4 [2,3,4,5,6],.k,.k,.k,.k,.k,.k,.k,.k,.t true,.t true]
  tI (Ai h1 (Co h2 [0] 9 (Co h3 [1] 9 (Co h4 [2,3,4,5,6] 9 (Ai he (Ai he tI))))))
abbrev qD0 (c:Ck):Prop:=Fn 178 1 [qaS 0 c.x c.l] [(0,0,qam c.l)] (.pv (iV (0))) 0 []
theorem qF4 {c:Ck} {e4:Int} (h1:qze c) (h2:qBJ c) (h3:qD0 c) (h4:qEb c e4) (he:(e4 !=0)=true) :
 Fn 114 8 [qaz c] (qaC c) (.pv (.bool false)) 0 []:=
 Fz [] [Rf h1,Cf h2 [0],Cf h3 [1],Cf h4 [2,3,4,5,6],.k,.k,.k,.k,.k,.k,.k,.k,.k,.k,.k,.t true,.t true]
  tI (Ai h1 (Co h2 [0] 9 (Co h3 [1] 9 (Co h4 [2,3,4,5,6] 9 (Ai he (Ai he tI))))))
abbrev quU (c:Ck):Prop:=Fn 177 5 [agA c.u c.b c.fr c.ev c.wh] (qrv c) (.pv (iV (0))) 0 []
theorem qE4 {c:Ck} (h1:qze c) (h2:qBJ c) (h3:qD0 c) (h4:quU c) (h5:Fn 173 2 [qas 0 c.s,qaS 1 c.x c.l] [(0,0,qad c.s),(1,0,qam c.l)] (.pv (iV (6))) 0 []) :
 Fn 114 8 [qaz c] (qaC c) (.pv (.bool false)) 0 []:=
 Fz [] [Rf h1,Cf h2 [0],Cf h3 [1],Cf h4 [2,3,4,5,6],.k,.k,.k,.k,.k,.k,.k,.k,.k,.k,.k,.k,.k,.k,.k,Cf h5 [0,1],.k]
  tI (Ai h1 (Co h2 [0] 9 (Co h3 [1] 9 (Co h4 [2,3,4,5,6] 9 (Co h5 [0,1] 10 tI)))))
theorem qB9 {c:Ck} (h1:qze c) (h2:qBJ c) (h3:qD0 c) (h4:quU c) (h5:Fn 173 2 [qas 0 c.s,qaS 1 c.x c.l] [(0,0,qad c.s),(1,0,qam c.l)] (.pv (iV (0))) 0 []) (h6:((c.u.length:Int)==200)=true) :
 Fn 114 8 [qaz c] (qaC c) (.pv (.bool true)) 0 []:=
 Fz [] [Rf h1,Cf h2 [0],Cf h3 [1],Cf h4 [2,3,4,5,6],.k,.k,.k,.k,.k,.k,.k,.k,.k,.k,.k,.k,.k,.k,.k,Cf h5 [0,1],.k,.t true]
  tI (Ai h1 (Co h2 [0] 9 (Co h3 [1] 9 (Co h4 [2,3,4,5,6] 9 (Co h5 [0,1] 10 (Ai h6 tI))))))
theorem qEq {c:Ck} (h1:qze c) (h2:qBJ c) (h3:qD0 c) (h4:quU c) (h5:Fn 173 2 [qas 0 c.s,qaS 1 c.x c.l] [(0,0,qad c.s),(1,0,qam c.l)] (.pv (iV (0))) 0 []) (h6:((c.u.length:Int)==200)=false) :
 Fn 114 8 [qaz c] (qaC c) (.pv (.bool false)) 0 []:=
 Fz [] [Rf h1,Cf h2 [0],Cf h3 [1],Cf h4 [2,3,4,5,6],.k,.k,.k,.k,.k,.k,.k,.k,.k,.k,.k,.k,.k,.k,.k,Cf h5 [0,1],.k,.t false]
  tI (Ai h1 (Co h2 [0] 9 (Co h3 [1] 9 (Co h4 [2,3,4,5,6] 9 (Co h5 [0,1] 10 (Ai h6 tI))))))
theorem qFX {c:Ck} (h1:Fn 114 8 [qaz c] (qaC c) (.pv (.bool false)) 0 []) :
 Fn 57 8 [qaz c] (qaC c) (.pv (iV (8))) 0 []:=
 Fz [] [Cf h1 [0,1,2,3,4,5,6,7],.k]
  tI (Co h1 [0,1,2,3,4,5,6,7] 9 tI)
theorem qGG {c:Ck} (h1:Fn 114 8 [qaz c] (qaC c) (.pv (.bool true)) 0 []) (h2:Fn 115 8 [qaz c] (qaC c) (.pv (.bool false)) 0 []) :
 Fn 57 8 [qaz c] (qaC c) (.pv (iV (8))) 0 []:=
 Fz [] [Cf h1 [0,1,2,3,4,5,6,7],.k,Cf h2 [0,1,2,3,4,5,6,7],.k]
  tI (Co h1 [0,1,2,3,4,5,6,7] 9 (Co h2 [0,1,2,3,4,5,6,7] 9 tI))
theorem qC9 {c:Ck} (h1:Fn 114 8 [qaz c] (qaC c) (.pv (.bool true)) 0 []) (h2:Fn 115 8 [qaz c] (qaC c) (.pv (.bool true)) 0 []) :
 Fn 57 8 [qaz c] (qaC c) (.pv (iV (0))) 0 []:=
 Fz [] [Cf h1 [0,1,2,3,4,5,6,7],.k,Cf h1 [0,1,2,3,4,5,6,7],.k]
  tI (Co h1 [0,1,2,3,4,5,6,7] 9 (Co h2 [0,1,2,3,4,5,6,7] 9 tI))
end Go.Proofs.YtkckcgpmnipnaaaGreat

namespace Go.Proofs.YtkckcgpmnipnaaaGreat
set_option maxRecDepth 100000
open Go.RowKit
abbrev qyJ (c:Ck):S1:=.ag [.pv (iV c.tn),.pv (iV c.td),.ls 0 c.s.length,.pv (iV c.x),.ls 1 c.l.length,.ls 2 c.u.length,.ls 3 c.b.length,.ls 4 c.fr.length,.ls 5 c.ev.length,.ls 6 c.wh.length,.ls 7 c.d.length]
abbrev qoR (c o:Ck) (d:List Pt):S1:=.ag [.pv (iV c.tn),.pv (iV c.td),.ls 0 c.s.length,.pv (iV c.x),.ls 1 c.l.length,.ls 8 o.u.length,.ls 9 o.b.length,.ls 10 o.fr.length,.ls 11 o.ev.length,.ls 12 o.wh.length,.ls 13 d.length]
theorem qtU {n:Nat} {xs:List Value} (h0:0<n) (hn:0+n≤1000000) :
 Fn 142 1 [.ls 0 n] [(0,0,.row 171 3 n xs)] (.ls 1 n) 1 [(1,0,.row 171 3 n xs)]:=
 Fx [(1,2)] [.t false]
  (qpE n) (Ai (qgU 171 3 n xs) tI) (Ai h0 (Ai hn tI))
theorem qGz {ad:Addr} {c:Nat} :
 Fn 142 0 [.pv (.slice (some ad) 0 c)] [] (.ls 0 0) 1 [(0,0,.row 171 3 0 [])]:=
 Fz [(0,1)] [.k]
  (qaE (qaK [(0,1)]) [(0,0,.row 171 3 0 [])]) (Ai (Nat.zero_le _:0+0≤1000000) tI)
theorem qvf {c:Nat}:Pure Tryz.prog 142 #[.slice none 0 c] (.slice none 0 0):=
 qax (args:=[.slice none 0 c]) 200 [] (Ai rfl tI) (by kernel_rfl)
theorem qs2 {n:Nat} {xs:List Value} (h0:0<n) (hn:0+n≤1000000) :
 Fn 144 1 [.ls 0 n] [(0,0,.row 134 3 n xs)] (.ls 1 n) 1 [(1,0,.row 134 3 n xs)]:=
 Fx [(1,2)] [.t false]
  (qpE n) (Ai (qgU 134 3 n xs) tI) (Ai h0 (Ai hn tI))
theorem qEu {ad:Addr} {c:Nat} :
 Fn 144 0 [.pv (.slice (some ad) 0 c)] [] (.ls 0 0) 1 [(0,0,.row 134 3 0 [])]:=
 Fz [(0,1)] [.k]
  (qaE (qaK [(0,1)]) [(0,0,.row 134 3 0 [])]) (Ai (Nat.zero_le _:0+0≤1000000) tI)
theorem qw4 {c:Nat}:Pure Tryz.prog 144 #[.slice none 0 c] (.slice none 0 0):=
 qax (args:=[.slice none 0 c]) 200 [] (Ai rfl tI) (by kernel_rfl)
theorem qoV (l:List Pt) (k:Nat) (q:Pt) (h:k≤l.length):0+k+1+(l.length-k)=(l.take k++q::l.drop k).length:=by rw[List.length_append,List.length_cons,List.length_take,List.length_drop];omega
theorem qBL (b:Nat) (l:List Pt) (k:Nat) (q:Pt) (h:k≤l.length):SV.ls b (0+k+1+(l.length-k))=(SV.ls 3 (l.take k++q::l.drop k).length).ren (qaK [(3,b)]):=by rw[qoV l k q h];rfl
theorem qqH (l:List Pt) (k:Nat) (q:Pt) (h:k≤l.length):some (SV.row 134 3 (0+k+1+(l.length-k)) ([]++((qa3 l).drop (0*3)).take (k*3)++[iV q.id,iV q.a,iV q.b]++((qa3 l).drop ((0+k)*3)).take ((l.length-k)*3)))=some (qaP (l.take k++q::l.drop k)):=by
 have h1:=qv5 l k
 have h2:=qvF l k
 rw[Nat.zero_add] at h1
 rw[h1,h2,qaP,qoV l k q h,qcH,List.nil_append,List.append_assoc]
 rfl
theorem ccf {s:List Pt} (h1:Fn 141 1 [.ls 0 s.length] [(0,0,qad s)] (.ls 1 s.length) 1 [(1,0,qad s)]) :
 Fn 103 1 [qas 0 s] [(0,0,qad s)] (.ag [.ls 1 s.length]) 1 [(1,0,qad s)]:=
 Fz [(1,3)] [Cf h1 [0]]
  (qaE (qaK [(1,3)]) [(1,0,qad s)]) (Co h1 [0] 3 tI)
abbrev qDZ (c:Ck):HpL:=[(0,0,zrI c.u),(1,0,zrB c.b),(2,0,zrI c.fr),(3,0,qar c.ev),(4,0,zrI c.wh)]
theorem cca {c:Ck} (c0:Fn 63 1 [.ls 0 c.u.length] [(0,0,zrI c.u)] (.ls 1 c.u.length) 1 [(1,0,zrI c.u)]) (c1:Fn 140 1 [.ls 0 c.b.length] [(0,0,zrB c.b)] (.ls 1 c.b.length) 1 [(1,0,zrB c.b)]) (c2:Fn 63 1 [.ls 0 c.fr.length] [(0,0,zrI c.fr)] (.ls 1 c.fr.length) 1 [(1,0,zrI c.fr)]) (c3:Fn 143 1 [.ls 0 c.ev.length] [(0,0,qar c.ev)] (.ls 1 c.ev.length) 1 [(1,0,qar c.ev)]) (c4:Fn 63 1 [.ls 0 c.wh.length] [(0,0,zrI c.wh)] (.ls 1 c.wh.length) 1 [(1,0,zrI c.wh)]) :
 Fn 193 5 [agA c.u c.b c.fr c.ev c.wh] (qDZ c) (.ag [.ls 5 c.u.length,.ls 6 c.b.length,.ls 7 c.fr.length,.ls 8 c.ev.length,.ls 9 c.wh.length]) 5 [(5,0,zrI c.u),(6,0,zrB c.b),(7,0,zrI c.fr),(8,0,qar c.ev),(9,0,zrI c.wh)]:=
 Fz [(5,7),(6,8),(7,9),(8,11),(9,12)] [.md,Cf c0 [0],Cf c1 [1],Cf c2 [2],.md,Cf c3 [3],Cf c4 [4]]
  (qaE (qaK [(5,7),(6,8),(7,9),(8,11),(9,12)]) [(5,0,zrI c.u),(6,0,zrB c.b),(7,0,zrI c.fr),(8,0,qar c.ev),(9,0,zrI c.wh)]) (Co c0 [0] 7 (Co c1 [1] 8 (Co c2 [2] 9 (Co c3 [3] 11 (Co c4 [4] 12 tI)))))
theorem ccl {c:Ck} (h1:Fn 103 1 [qas 0 c.s] [(0,0,qad c.s)] (.ag [.ls 1 c.s.length]) 1 [(1,0,qad c.s)]) (h2:Fn 142 1 [.ls 0 c.l.length] [(0,0,qam c.l)] (.ls 1 c.l.length) 1 [(1,0,qam c.l)]) (h3:Fn 193 5 [agA c.u c.b c.fr c.ev c.wh] (qDZ c) (.ag [.ls 5 c.u.length,.ls 6 c.b.length,.ls 7 c.fr.length,.ls 8 c.ev.length,.ls 9 c.wh.length]) 5 [(5,0,zrI c.u),(6,0,zrB c.b),(7,0,zrI c.fr),(8,0,qar c.ev),(9,0,zrI c.wh)]) (h4:Fn 144 1 [.ls 0 c.d.length] [(0,0,qaP c.d)] (.ls 1 c.d.length) 1 [(1,0,qaP c.d)]) :
 Fn 131 8 [qaz c] (qaC c) (qkn c) 8 (qeR c):=
 Fz [(8,10),(9,11),(10,12),(11,13),(12,14),(13,15),(14,16),(15,17)] [.md,Cf h1 [0],Cf h2 [1],Cf h3 [2,3,4,5,6],Cf h4 [7]]
  (qaE (qaK [(8,10),(9,11),(10,12),(11,13),(12,14),(13,15),(14,16),(15,17)]) (qeR c)) (Co h1 [0] 10 (Co h2 [1] 11 (Co h3 [2,3,4,5,6] 12 (Co h4 [7] 17 tI))))
theorem qBM {a pa pb n:Int} (n1:(!(a==a))=false) (n2:(!(n==n))=false) (h1:decide (a<n)=true) :
 Pure Tryz.prog 268 #[qab a pa pb,iV n] (iV (-1)):=
 qac (args:=[qab a pa pb,iV n]) 300 [.k,.k,.t false,.k,.t false,.t true]
  (Ai rfl (Ai n1 (Ai n2 (Ai h1 tI)))) (by kernel_rfl)
theorem qzu {a pa pb n:Int} (n1:(!(a==a))=false) (n2:(!(n==n))=false) (h1:decide (a<n)=false) (h2:decide (a>n)=true) :
 Pure Tryz.prog 268 #[qab a pa pb,iV n] (iV (1)):=
 qac (args:=[qab a pa pb,iV n]) 300 [.k,.k,.t false,.k,.t false,.t false,.t true]
  (Ai rfl (Ai n1 (Ai n2 (Ai h1 (Ai h2 tI))))) (by kernel_rfl)
theorem qAC {a pa pb n:Int} (n1:(!(a==a))=false) (n2:(!(n==n))=false) (h1:decide (a<n)=false) (h2:decide (a>n)=false) :
 Pure Tryz.prog 268 #[qab a pa pb,iV n] (iV (0)):=
 qac (args:=[qab a pa pb,iV n]) 300 [.k,.k,.t false,.k,.t false,.t false,.t false]
  (Ai rfl (Ai n1 (Ai n2 (Ai h1 (Ai h2 tI))))) (by kernel_rfl)
abbrev qEd (i:Nat) (j:Nat) (l:List Pt) (n:Int):TmL:=[(0,.ls 0 l.length),(1,.pv (iV n)),(2,.pv (.func (.func 268) #[] #[])),(8,.pv (iV (l.length:Int))),(9,.pv (iV (i:Int))),(10,.pv (iV (j:Int)))]
abbrev qDM (c:Int) (n:Int) (p:Pt):Prop:=Pure Tryz.prog 268 #[qab p.id p.a p.b,iV n] (iV (c))
theorem qzB {l:List Pt} {i j h:Nat} {p:Pt} {c n:Int} (hk:l[h]?=some p) (hin:0≤(h:Int)∧(h:Int)<(l.length:Int)) (hlt:decide ((i:Int)<(j:Int))=true) (ha:iV (IntKind.i64.wrap ((i:Int)+(j:Int)))=iV ((i:Int)+(j:Int))) (hu:Value.int .u64 (IntKind.u64.wrap ((i:Int)+(j:Int)))=.int .u64 ((i:Int)+(j:Int))) (h1:¬ (1:Int)<0) (hs:Value.int .u64 (((i:Int)+(j:Int)).fdiv (2 ^ (min (1:Int).toNat IntKind.u64.bits)))=.int .u64 (h:Int)) (hb:iV (IntKind.i64.wrap (h:Int))=iV (h:Int)) (hc:qDM c n p) (hz:decide (c<0)=true) (hh:iV (IntKind.i64.wrap ((h:Int)+1))=iV (((h+1:Nat):Int))) {e:Exit} {tm2:TmL} {hp2:HpL}
 (r:Rl 1 1 267 0 49 1 ([(0,.ls 0 l.length),(1,.pv (iV n)),(2,.pv (.func (.func 268) #[] #[])),(8,.pv (iV (l.length:Int))),(9,.pv (iV ((h+1:Nat):Int))),(10,.pv (iV (j:Int)))]) ([(0,0,qaP l)]) e tm2 hp2):Rl 1 1 267 0 49 1 (qEd i j l n) ([(0,0,qaP l)]) e tm2 hp2:=
 RunsL.next [] 300 [.t true,Re ha,Re hu,.r (.int .u64 (h:Int)),Re hb,.r (ptV p),Rf hc,.t true,Re hh]
  (Ro (Ai hlt (Ai ha (Ai hu (Ai h1 (Ai hs (Ai hb (Ai hin (Ai (qaA hk) (Ai hc (Ai hz (Ai hh tI)))))))))))) r
theorem qz9 {l:List Pt} {i j h:Nat} {p:Pt} {c n:Int} (hk:l[h]?=some p) (hin:0≤(h:Int)∧(h:Int)<(l.length:Int)) (hlt:decide ((i:Int)<(j:Int))=true) (ha:iV (IntKind.i64.wrap ((i:Int)+(j:Int)))=iV ((i:Int)+(j:Int))) (hu:Value.int .u64 (IntKind.u64.wrap ((i:Int)+(j:Int)))=.int .u64 ((i:Int)+(j:Int))) (h1:¬ (1:Int)<0) (hs:Value.int .u64 (((i:Int)+(j:Int)).fdiv (2 ^ (min (1:Int).toNat IntKind.u64.bits)))=.int .u64 (h:Int)) (hb:iV (IntKind.i64.wrap (h:Int))=iV (h:Int)) (hc:qDM c n p) (hz:decide (c<0)=false) {e:Exit} {tm2:TmL} {hp2:HpL}
 (r:Rl 1 1 267 0 49 1 ([(0,.ls 0 l.length),(1,.pv (iV n)),(2,.pv (.func (.func 268) #[] #[])),(8,.pv (iV (l.length:Int))),(9,.pv (iV (i:Int))),(10,.pv (iV (h:Int)))]) ([(0,0,qaP l)]) e tm2 hp2):Rl 1 1 267 0 49 1 (qEd i j l n) ([(0,0,qaP l)]) e tm2 hp2:=
 RunsL.next [] 300 [.t true,Re ha,Re hu,.r (.int .u64 (h:Int)),Re hb,.r (ptV p),Rf hc,.t false]
  (Ro (Ai hlt (Ai ha (Ai hu (Ai h1 (Ai hs (Ai hb (Ai hin (Ai (qaA hk) (Ai hc (Ai hz tI))))))))))) r
theorem qnT {l:List Pt} {i j:Nat} {n:Int} (hge:decide ((i:Int)<(j:Int))=false):Rl 1 1 267 0 49 1 (qEd i j l n) ([(0,0,qaP l)]) (.exit 0) (qEd i j l n) ([(0,0,qaP l)]):=
 RunsL.stop [] 300 [.t false] (fun h=>by cases h)
  (Ro (Ai hge tI))
abbrev qED (k:Nat) (l:List Pt) (n:Int):Prop:=Rl 1 1 267 0 49 1 ([(0,.ls 0 l.length),(1,.pv (iV n)),(2,.pv (.func (.func 268) #[] #[])),(8,.pv (iV (l.length:Int))),(9,.pv (iV ((0:Nat):Int))),(10,.pv (iV (l.length:Int)))]) ([(0,0,qaP l)]) (.exit 0) ([(0,.ls 0 l.length),(1,.pv (iV n)),(2,.pv (.func (.func 268) #[] #[])),(8,.pv (iV (l.length:Int))),(9,.pv (iV (k:Int))),(10,.pv (iV (k:Int)))]) ([(0,0,qaP l)])
theorem qyN {l:List Pt} {k:Nat} {n:Int} (r0:qED k l n) (hge:decide ((k:Int)<(l.length:Int))=false) :
 Fn 267 1 [.ls 0 l.length,.pv (iV (n)),.pv (.func (.func 268) #[] #[])] [(0,0,qaP l)] (.pv (.tuple #[iV (k:Int),.bool false])) 0 []:=
 Fz [] [Lf r0,.t false]
  tI (Lo r0 [] (Ai hge tI))
theorem qxi {l:List Pt} {k:Nat} {p:Pt} {c:Int} {n:Int} (r0:qED k l n) (hk:l[k]?=some p) (hin:0≤(k:Int)∧(k:Int)<(l.length:Int)) (hlt:decide ((k:Int)<(l.length:Int))=true) (hc:qDM c n p) (hz:(c==0)=true) :
 Fn 267 1 [.ls 0 l.length,.pv (iV (n)),.pv (.func (.func 268) #[] #[])] [(0,0,qaP l)] (.pv (.tuple #[iV (k:Int),.bool true])) 0 []:=
 Fz [] [Lf r0,.t true,.r (ptV p),Rf hc,.t true]
  tI (Lo r0 [] (Ai hlt (Ai hin (Ai (qaA hk) (Ai hc (Ai hz tI))))))
theorem qCV {l:List Pt} {k:Nat} {p:Pt} {c:Int} {n:Int} (r0:qED k l n) (hk:l[k]?=some p) (hin:0≤(k:Int)∧(k:Int)<(l.length:Int)) (hlt:decide ((k:Int)<(l.length:Int))=true) (hc:qDM c n p) (hz:(c==0)=false) :
 Fn 267 1 [.ls 0 l.length,.pv (iV (n)),.pv (.func (.func 268) #[] #[])] [(0,0,qaP l)] (.pv (.tuple #[iV (k:Int),.bool false])) 0 []:=
 Fz [] [Lf r0,.t true,.r (ptV p),Rf hc,.t false]
  tI (Lo r0 [] (Ai hlt (Ai hin (Ai (qaA hk) (Ai hc (Ai hz tI))))))
theorem cfd {l:List Pt} {k:Nat} {w:Bool} {n:Int} (hb:Fn 267 1 [.ls 0 l.length,.pv (iV (n)),.pv (.func (.func 268) #[] #[])] [(0,0,qaP l)] (.pv (.tuple #[iV (k:Int),.bool w])) 0 []) :
 Fn 217 1 [.ls 0 l.length,.pv (iV (n))] [(0,0,qaP l)] (.pv (.tuple #[iV (k:Int),.bool w])) 0 []:=
 Fz [] [Cf hb [0]]
  tI (Co hb [0] 1 tI)
theorem qGq {z:Int} (h0:decide (z<0)=false) (hs:iV (IntKind.i64.wrap (z-0))=iV (z)) (hg:decide (z>0)=true) (a0:0≤z) (a1:z≤1000000) :
 Fn 302 0 [.pv (.slice none 0 0),.pv (iV (z))] [] (.ls 0 0) 1 [(0,0,qaP ([]:List Pt))]:=
 Fz [(0,1)] [.t false,.k,Re hs,.t true,.w []]
  (qaE (qaK [(0,1)]) [(0,0,qaP ([]:List Pt))]) (Ai h0 (Ai hs (Ai hg (Ai a0 (Ai a1 (Ai (Int.le_refl (0:Int)) (Ai (Nat.zero_le z.toNat) tI)))))))
theorem qH4 {l:List Pt} {n hi hw:Int} {k:Nat} {s1 s2 s3:Int} (q1:iV (IntKind.i64.wrap ((0:Int)+((k:Nat):Int)))=iV (s1)) (n1:decide (s1<0)=false) (q2:iV (IntKind.i64.wrap (s1+((1:Nat):Int)))=iV (s2)) (n2:decide (s2<0)=false) (q3:iV (IntKind.i64.wrap (s2+((l.length-k:Nat):Int)))=iV (s3)) (n3:decide (s3<0)=false) (hgr:Fn 302 0 [.pv (.slice none 0 0),.pv (iV (s3))] [] (.ls 0 0) 1 [(0,0,qaP ([]:List Pt))]) (a1:0+k≤1000000) (a2:0+k+1≤1000000) (a3:0+k+1+(l.length-k)≤1000000) (hkl:k≤l.length) :
 Fn 242 3 [.ps 2 0 3 3] [(2,0,.lq 0 3 0 k),(2,1,.ps 1 0 1 1),(2,2,.lq 0 3 (0+k) (l.length-k)),(1,0,.pv (iV n)),(1,1,.pv (iV hi)),(1,2,.pv (iV hw)),(0,0,qaP l)] (.ls 3 (l.take k++(Pt.mk n hi hw)::l.drop k).length) 1 [(3,0,qaP (l.take k++(Pt.mk n hi hw)::l.drop k))]:=
 Fx [(3,6)] [.k,.r (iV (s1)),.t false,.k,.k,.r (iV (s2)),.t false,.k,.k,.r (iV (s3)),.t false,.k,.k,Cf hgr [],.k,.k,.k,.k,.k,.k,.k]
  (qBL 6 l k (Pt.mk n hi hw) hkl) (Ai (qqH l k (Pt.mk n hi hw) hkl) tI) (Ai q1 (Ai n1 (Ai q2 (Ai n2 (Ai q3 (Ai n3 (Co hgr [] 3 (Ai a1 (Ai a2 (Ai a3 tI))))))))))
theorem qGQ {c:Ck} {k:Nat} {n:Int} (hfd:Fn 217 1 [.ls 0 c.d.length,.pv (iV (n))] [(0,0,qaP c.d)] (.pv (.tuple #[iV (k:Int),.bool false])) 0 []) :
 Fn 192 8 [qaz c,.pv (iV (n))] (qaC c) (qaz c) 0 []:=
 Fz [] [Cf hfd [7],.k]
  tI (Co hfd [7] 10 tI)
theorem qCN {c:Ck} {n tn td e:Int} (hp:Fn 272 5 [agA c.u c.b c.fr c.ev c.wh,.pv (qaa tn td),.pv (iV (n))] (qDZ c) (.pv (.tuple #[.agg #[.slice none 0 0,.slice none 0 0,.slice none 0 0,.slice none 0 0,.slice none 0 0],qbb 0 0,iV e])) 0 []) (he:(e !=0)=true) :
 Fn 219 8 [qaz c,.pv (qaa tn td),.pv (iV (n))] (qaC c) (.pv (.tuple #[qiC,iV e])) 0 []:=
 Fz [] [Cf hp [2,3,4,5,6],.t true]
  tI (Co hp [2,3,4,5,6] 11 (Ai he tI))
theorem qFY {c o:Ck} {k:Nat} {n tn td:Int} {hi hw:Int} (hp:Fn 272 5 [agA c.u c.b c.fr c.ev c.wh,.pv (qaa tn td),.pv (iV (n))] (qDZ c) (.tu [.ag [.ls 5 o.u.length,.ls 6 o.b.length,.ls 7 o.fr.length,.ls 8 o.ev.length,.ls 9 o.wh.length],.one (.pv (qbb hi hw)),.one (.pv (iV 0))]) 5 [(5,0,zrI o.u),(6,0,zrB o.b),(7,0,zrI o.fr),(8,0,qar o.ev),(9,0,zrI o.wh)]) (hfd:Fn 217 1 [.ls 0 c.d.length,.pv (iV (n))] [(0,0,qaP c.d)] (.pv (.tuple #[iV (k:Int),.bool false])) 0 []) (hkl:k≤c.d.length) (hins:Fn 242 3 [.ps 2 0 3 3] [(2,0,.lq 0 3 0 k),(2,1,.ps 1 0 1 1),(2,2,.lq 0 3 (0+k) (c.d.length-k)),(1,0,.pv (iV n)),(1,1,.pv (iV hi)),(1,2,.pv (iV hw)),(0,0,qaP c.d)] (.ls 3 (c.d.take k++(Pt.mk n hi hw)::c.d.drop k).length) 1 [(3,0,qaP (c.d.take k++(Pt.mk n hi hw)::c.d.drop k))]) :
 Fn 219 8 [qaz c,.pv (qaa tn td),.pv (iV (n))] (qaC c) (.tu [qoR c o (c.d.take k++(Pt.mk n hi hw)::c.d.drop k),.one (.pv (iV 0))]) 6 [(8,0,zrI o.u),(9,0,zrB o.b),(10,0,zrI o.fr),(11,0,qar o.ev),(12,0,zrI o.wh),(13,0,qaP (c.d.take k++(Pt.mk n hi hw)::c.d.drop k))]:=
 Fz [(8,11),(9,12),(10,13),(11,14),(12,15),(13,20)] [Cf hp [2,3,4,5,6],.k,Cf hfd [7],.md,.k,.k,Cf hins [7,18,19]]
  (qaE (qaK [(8,11),(9,12),(10,13),(11,14),(12,15),(13,20)]) [(8,0,zrI o.u),(9,0,zrB o.b),(10,0,zrI o.fr),(11,0,qar o.ev),(12,0,zrI o.wh),(13,0,qaP (c.d.take k++(Pt.mk n hi hw)::c.d.drop k))]) (Co hp [2,3,4,5,6] 11 (Co hfd [7] 18 (Ai tI (Ai (Int.natCast_nonneg k) (Ai (Nat.zero_le k) (Ai hkl (Ai (Int.natCast_nonneg k) (Ai tI (Ai hkl (Ai (Nat.le_refl c.d.length) (Co hins [7,18,19] 20 tI)))))))))))
theorem qwU {c o:Ck} {p:Pt} {k:Nat} {tn td:Int} {l2:List Pt} (hf:Fn 216 8 [qaz c,.pv (qah p.a p.b)] (qaC c) (.pv (.tuple #[qaa tn td,.bool true])) 0 []) (hfd:Fn 217 1 [.ls 0 c.d.length,.pv (iV (p.id))] [(0,0,qaP c.d)] (.pv (.tuple #[iV (k:Int),.bool false])) 0 []) (hp:Fn 219 8 [qaz c,.pv (qaa tn td),.pv (iV (p.id))] (qaC c) (.tu [qoR c o l2,.one (.pv (iV 0))]) 6 [(8,0,zrI o.u),(9,0,zrB o.b),(10,0,zrI o.fr),(11,0,qar o.ev),(12,0,zrI o.wh),(13,0,qaP l2)]) :
 Fn 174 8 [qaz c,.pv (ptV p)] (qaC c) (.tu [qoR c o l2,.one (.pv (iV 0))]) 6 [(8,0,zrI o.u),(9,0,zrB o.b),(10,0,zrI o.fr),(11,0,qar o.ev),(12,0,zrI o.wh),(13,0,qaP l2)]:=
 Fz [(8,12),(9,13),(10,14),(11,15),(12,16),(13,17)] [Cf hf [0,1,2,3,4,5,6,7],Cf hfd [7],Cf hp [0,1,2,3,4,5,6,7]]
  (qaE (qaK [(8,12),(9,13),(10,14),(11,15),(12,16),(13,17)]) [(8,0,zrI o.u),(9,0,zrB o.b),(10,0,zrI o.fr),(11,0,qar o.ev),(12,0,zrI o.wh),(13,0,qaP l2)]) (Co hf [0,1,2,3,4,5,6,7] 11 (Co hfd [7] 12 (Co hp [0,1,2,3,4,5,6,7] 12 tI)))
theorem qxb {c:Ck} {p:Pt} {k:Nat} {tn td e:Int} (hf:Fn 216 8 [qaz c,.pv (qah p.a p.b)] (qaC c) (.pv (.tuple #[qaa tn td,.bool true])) 0 []) (hfd:Fn 217 1 [.ls 0 c.d.length,.pv (iV (p.id))] [(0,0,qaP c.d)] (.pv (.tuple #[iV (k:Int),.bool false])) 0 []) (hp:Fn 219 8 [qaz c,.pv (qaa tn td),.pv (iV (p.id))] (qaC c) (.pv (.tuple #[qiC,iV e])) 0 []) :
 Fn 174 8 [qaz c,.pv (ptV p)] (qaC c) (.pv (.tuple #[qiC,iV e])) 0 []:=
 Fz [] [Cf hf [0,1,2,3,4,5,6,7],Cf hfd [7],Cf hp [0,1,2,3,4,5,6,7]]
  tI (Co hf [0,1,2,3,4,5,6,7] 11 (Co hfd [7] 12 (Co hp [0,1,2,3,4,5,6,7] 12 tI)))
theorem qwi {c:Ck} {p:Pt} {k:Nat} {tn td:Int} {w:Bool} (hf:Fn 216 8 [qaz c,.pv (qah p.a p.b)] (qaC c) (.pv (.tuple #[qaa tn td,.bool false])) 0 []) (hfd:Fn 217 1 [.ls 0 c.d.length,.pv (iV (p.id))] [(0,0,qaP c.d)] (.pv (.tuple #[iV (k:Int),.bool w])) 0 []) (hel:Fn 192 8 [qaz c,.pv (iV (p.id))] (qaC c) (qaz c) 0 []) :
 Fn 174 8 [qaz c,.pv (ptV p)] (qaC c) (.tu [qyJ c,.one (.pv (iV 0))]) 0 []:=
 Fz [] [Cf hf [0,1,2,3,4,5,6,7],Cf hfd [7],Cf hel [0,1,2,3,4,5,6,7]]
  tI (Co hf [0,1,2,3,4,5,6,7] 11 (Co hfd [7] 12 (Co hel [0,1,2,3,4,5,6,7] 12 tI)))
end Go.Proofs.YtkckcgpmnipnaaaGreat

namespace Go.Proofs.YtkckcgpmnipnaaaGreat
set_option maxRecDepth 100000
open Go.RowKit
theorem qB7 {s:List Pt} {tn td:Int} {e1 e2:Int} (h1:Fn 74 1 [qas 0 s] [(0,0,qad s)] (.pv (iV (e1))) 0 []) (h2:Pure Tryz.prog 101 #[qaa tn td] (iV (e2))) (he:(e1 !=0)=true) :
 Fn 50 1 [qas 0 s,.pv (qaa tn td)] [(0,0,qad s)] (.pv (.tuple #[qiC,iV e1])) 0 []:=
 Fz [] [Cf h1 [0],Rf h2,.k,.k,.t true,.t true]
  tI (Co h1 [0] 4 (Ai h2 (Ai he (Ai he tI))))
theorem qBQ {s:List Pt} {tn td:Int} {e2:Int} (h1:Fn 74 1 [qas 0 s] [(0,0,qad s)] (.pv (iV (0))) 0 []) (h2:Pure Tryz.prog 101 #[qaa tn td] (iV (e2))) (he:(e2 !=0)=true) :
 Fn 50 1 [qas 0 s,.pv (qaa tn td)] [(0,0,qad s)] (.pv (.tuple #[qiC,iV e2])) 0 []:=
 Fz [] [Cf h1 [0],Rf h2,.k,.k,.k,.k,.k,.t true,.t true]
  tI (Co h1 [0] 4 (Ai h2 (Ai he (Ai he tI))))
abbrev qDB:Prop:=Fn 104 0 [] [] (.ag [.pv (iV 0),.ls 0 0]) 1 [(0,0,qam [])]
theorem qzM {o:Ck} {s:List Pt} {tn td:Int} (h1:Fn 74 1 [qas 0 s] [(0,0,qad s)] (.pv (iV (0))) 0 []) (h2:Pure Tryz.prog 101 #[qaa tn td] (iV (0))) (ha:Fn 102 0 [.pv (iV (200))] [] (.tu [.ag [.ls 0 o.u.length,.ls 1 o.b.length,.ls 2 o.fr.length,.ls 4 0,.ls 3 o.wh.length],.one (.pv (iV 0))]) 5 [(0,0,zrI o.u),(1,0,zrB o.b),(2,0,zrI o.fr),(3,0,zrI o.wh),(4,0,qar [])]) (hf:Fn 103 1 [qas 0 s] [(0,0,qad s)] (.ag [.ls 1 s.length]) 1 [(1,0,qad s)]) (hcn:qDB) :
 Fn 50 1 [qas 0 s,.pv (qaa tn td)] [(0,0,qad s)] (.tu [.ag [.pv (iV tn),.pv (iV td),.ls 1 s.length,.pv (iV 0),.ls 7 0,.ls 2 o.u.length,.ls 3 o.b.length,.ls 4 o.fr.length,.ls 6 0,.ls 5 o.wh.length,.pv (.slice none 0 0)],.one (.pv (iV 0))]) 7 [(7,0,qam []),(1,0,qad s),(2,0,zrI o.u),(3,0,zrB o.b),(4,0,zrI o.fr),(5,0,zrI o.wh),(6,0,qar [])]:=
 Fz [(1,11),(2,5),(3,6),(4,7),(5,8),(6,9),(7,12)] [Cf h1 [0],Rf h2,.k,.k,.k,.k,.k,.k,.k,.k,.k,Cf ha [],.md,Cf hf [0],Cf hcn []]
  (qaE (qaK [(1,11),(2,5),(3,6),(4,7),(5,8),(6,9),(7,12)]) [(7,0,qam []),(1,0,qad s),(2,0,zrI o.u),(3,0,zrB o.b),(4,0,zrI o.fr),(5,0,zrI o.wh),(6,0,qar [])]) (Co h1 [0] 4 (Ai h2 (Co ha [] 5 (Co hf [0] 11 (Co hcn [] 12 tI)))))
theorem qwI {s:List Pt} {a b:Int} (hn:qDB) (had:Fn 176 1 [qaS 0 0 ([]:List Pt),.pv (qah a b)] [(0,0,qam [])] (.pv (.tuple #[.agg #[iV 0,.slice none 0 0],iV 0,iV 8])) 0 []) :
 Fn 175 1 [qas 0 s,.pv (qah a b)] [(0,0,qad s)] (.pv (iV (8))) 0 []:=
 Fz [] [.md,Cf hn [],Cf had [3],.k]
  tI (Co hn [] 3 (Co had [3] 4 tI))
abbrev qHo (a:Int) (b:Int) (l2:List Pt) (n:Int) (x2:Int):Prop:=Fn 176 1 [qaS 0 0 ([]:List Pt),.pv (qah a b)] [(0,0,qam [])] (.tu [.ag [.pv (iV x2),.ls 1 l2.length],.one (.pv (iV n)),.one (.pv (iV 0))]) 1 [(1,0,qam l2)]
theorem qA7 {s:List Pt} {n a b:Int} {x2:Int} {l2:List Pt} (hn:qDB) (had:qHo a b l2 n x2) (hb:Fn 215 1 [qas 0 s,.pv (qah a b)] [(0,0,qad s)] (.pv (.bool true)) 0 []) :
 Fn 175 1 [qas 0 s,.pv (qah a b)] [(0,0,qad s)] (.pv (iV (0))) 0 []:=
 Fz [] [.md,Cf hn [],Cf had [3],.k,Cf hb [0],.k]
  tI (Co hn [] 3 (Co had [3] 4 (Co hb [0] 6 tI)))
theorem qtq {s:List Pt} {n a b:Int} {x2:Int} {l2:List Pt} (hn:qDB) (had:qHo a b l2 n x2) (hb:Fn 215 1 [qas 0 s,.pv (qah a b)] [(0,0,qad s)] (.pv (.bool false)) 0 []) :
 Fn 175 1 [qas 0 s,.pv (qah a b)] [(0,0,qad s)] (.pv (iV (6))) 0 []:=
 Fz [] [.md,Cf hn [],Cf had [3],.k,Cf hb [0],.k]
  tI (Co hn [] 3 (Co had [3] 4 (Co hb [0] 6 tI)))
theorem qBB {c:Ck} {a b:Int} {e1 e2:Int} (h1:Fn 57 8 [qaz c] (qaC c) (.pv (iV (e1))) 0 []) (h2:Fn 175 1 [qas 0 c.s,.pv (qah a b)] [(0,0,qad c.s)] (.pv (iV (e2))) 0 []) (he:(e1 !=0)=true) :
 Fn 111 8 [qaz c,.pv (qah a b)] (qaC c) (.pv (.tuple #[qiC,iV 0,iV e1])) 0 []:=
 Fz [] [Cf h1 [0,1,2,3,4,5,6,7],Cf h2 [0],.k,.k,.t true,.t true]
  tI (Co h1 [0,1,2,3,4,5,6,7] 11 (Co h2 [0] 11 (Ai he (Ai he tI))))
abbrev qy7 (c:Ck):Prop:=Fn 57 8 [qaz c] (qaC c) (.pv (iV (0))) 0 []
theorem qup {c:Ck} {a b:Int} {e2:Int} (h1:qy7 c) (h2:Fn 175 1 [qas 0 c.s,.pv (qah a b)] [(0,0,qad c.s)] (.pv (iV (e2))) 0 []) (he:(e2 !=0)=true) :
 Fn 111 8 [qaz c,.pv (qah a b)] (qaC c) (.pv (.tuple #[qiC,iV 0,iV e2])) 0 []:=
 Fz [] [Cf h1 [0,1,2,3,4,5,6,7],Cf h2 [0],.k,.k,.k,.k,.k,.t true,.t true]
  tI (Co h1 [0,1,2,3,4,5,6,7] 11 (Co h2 [0] 11 (Ai he (Ai he tI))))
abbrev qDU (a:Int) (b:Int) (c:Ck):Prop:=Fn 175 1 [qas 0 c.s,.pv (qah a b)] [(0,0,qad c.s)] (.pv (iV (0))) 0 []
theorem qnH {c:Ck} {a b e:Int} (h1:qy7 c) (h2:qDU a b c) (had:Fn 176 1 [qaS 0 c.x c.l,.pv (qah a b)] [(0,0,qam c.l)] (.pv (.tuple #[.agg #[iV 0,.slice none 0 0],iV 0,iV e])) 0 []) (he:(e !=0)=true) :
 Fn 111 8 [qaz c,.pv (qah a b)] (qaC c) (.pv (.tuple #[qiC,iV 0,iV e])) 0 []:=
 Fz [] [Cf h1 [0,1,2,3,4,5,6,7],Cf h2 [0],.k,.k,.k,.k,.k,.k,.k,.k,.k,Cf had [1],.t true]
  tI (Co h1 [0,1,2,3,4,5,6,7] 11 (Co h2 [0] 11 (Co had [1] 12 (Ai he tI))))
abbrev qFC (a:Int) (b:Int) (c:Ck) (l2:List Pt) (n:Int) (x2:Int):Prop:=Fn 176 1 [qaS 0 c.x c.l,.pv (qah a b)] [(0,0,qam c.l)] (.tu [.ag [.pv (iV x2),.ls 1 l2.length],.one (.pv (iV n)),.one (.pv (iV 0))]) 1 [(1,0,qam l2)]
theorem qBr {c:Ck} {n a b:Int} {x2:Int} {l2:List Pt} (h1:qy7 c) (h2:qDU a b c) (had:qFC a b c l2 n x2) (hcl:Fn 131 8 [qaz c] (qaC c) (qkn c) 8 (qeR c)) (ht:Fn 174 8 [qaz ({ c with x:=x2,l:=l2 }:Ck),.pv (ptV (Pt.mk n a b))] (qaC ({ c with x:=x2,l:=l2 }:Ck)) (.tu [qyJ ({ c with x:=x2,l:=l2 }:Ck),.one (.pv (iV 0))]) 0 []) :
 Fn 111 8 [qaz c,.pv (qah a b)] (qaC c) (.tu [qrc ({ c with x:=x2,l:=l2 }:Ck),.one (.pv (iV n)),.one (.pv (iV 0))]) 8 (qeR ({ c with x:=x2,l:=l2 }:Ck)):=
 Fz [(8,14),(9,12),(10,16),(11,17),(12,18),(13,19),(14,20),(15,21)] [Cf h1 [0,1,2,3,4,5,6,7],Cf h2 [0],.k,.k,.k,.k,.k,.k,.k,.k,.k,Cf had [1],.k,Cf hcl [0,1,2,3,4,5,6,7],Cf ht [14,12,16,17,18,19,20,21],.k]
  (qaE (qaK [(8,14),(9,12),(10,16),(11,17),(12,18),(13,19),(14,20),(15,21)]) (qeR ({ c with x:=x2,l:=l2 }:Ck))) (Co h1 [0,1,2,3,4,5,6,7] 11 (Co h2 [0] 11 (Co had [1] 12 (Co hcl [0,1,2,3,4,5,6,7] 14 (Co ht [14,12,16,17,18,19,20,21] 23 tI)))))
theorem qwH {c o:Ck} {n a b:Int} {x2:Int} {l l2:List Pt} (h1:qy7 c) (h2:qDU a b c) (had:qFC a b c l2 n x2) (hcl:Fn 131 8 [qaz c] (qaC c) (qkn c) 8 (qeR c)) (ht:Fn 174 8 [qaz ({ c with x:=x2,l:=l2 }:Ck),.pv (ptV (Pt.mk n a b))] (qaC ({ c with x:=x2,l:=l2 }:Ck)) (.tu [qoR ({ c with x:=x2,l:=l2 }:Ck) o l,.one (.pv (iV 0))]) 6 [(8,0,zrI o.u),(9,0,zrB o.b),(10,0,zrI o.fr),(11,0,qar o.ev),(12,0,zrI o.wh),(13,0,qaP l)]) :
 Fn 111 8 [qaz c,.pv (qah a b)] (qaC c) (.tu [qrc ({ c with x:=x2,l:=l2,u:=o.u,b:=o.b,fr:=o.fr,ev:=o.ev,wh:=o.wh,d:=l }:Ck),.one (.pv (iV n)),.one (.pv (iV 0))]) 8 (qeR ({ c with x:=x2,l:=l2,u:=o.u,b:=o.b,fr:=o.fr,ev:=o.ev,wh:=o.wh,d:=l }:Ck)):=
 Fz [(8,14),(9,12),(10,23),(11,24),(12,25),(13,26),(14,27),(15,28)] [Cf h1 [0,1,2,3,4,5,6,7],Cf h2 [0],.k,.k,.k,.k,.k,.k,.k,.k,.k,Cf had [1],.k,Cf hcl [0,1,2,3,4,5,6,7],Cf ht [14,12,16,17,18,19,20,21],.k]
  (qaE (qaK [(8,14),(9,12),(10,23),(11,24),(12,25),(13,26),(14,27),(15,28)]) (qeR ({ c with x:=x2,l:=l2,u:=o.u,b:=o.b,fr:=o.fr,ev:=o.ev,wh:=o.wh,d:=l }:Ck))) (Co h1 [0,1,2,3,4,5,6,7] 11 (Co h2 [0] 11 (Co had [1] 12 (Co hcl [0,1,2,3,4,5,6,7] 14 (Co ht [14,12,16,17,18,19,20,21] 23 tI)))))
theorem qsp {c:Ck} {n a b e:Int} {x2:Int} {l2:List Pt} (h1:qy7 c) (h2:qDU a b c) (had:qFC a b c l2 n x2) (hcl:Fn 131 8 [qaz c] (qaC c) (qkn c) 8 (qeR c)) (ht:Fn 174 8 [qaz ({ c with x:=x2,l:=l2 }:Ck),.pv (ptV (Pt.mk n a b))] (qaC ({ c with x:=x2,l:=l2 }:Ck)) (.pv (.tuple #[qiC,iV e])) 0 []) (he:(e !=0)=true) :
 Fn 111 8 [qaz c,.pv (qah a b)] (qaC c) (.pv (.tuple #[qiC,iV 0,iV e])) 0 []:=
 Fz [] [Cf h1 [0,1,2,3,4,5,6,7],Cf h2 [0],.k,.k,.k,.k,.k,.k,.k,.k,.k,Cf had [1],.k,Cf hcl [0,1,2,3,4,5,6,7],Cf ht [14,12,16,17,18,19,20,21],.t true]
  tI (Co h1 [0,1,2,3,4,5,6,7] 11 (Co h2 [0] 11 (Co had [1] 12 (Co hcl [0,1,2,3,4,5,6,7] 14 (Co ht [14,12,16,17,18,19,20,21] 23 (Ai he tI))))))
theorem qwF {c:Ck} {e:Int} (h1:Fn 57 8 [qaz c] (qaC c) (.pv (iV (e))) 0 []) (he:(e !=0)=true) :
 Fn 55 8 [qaz c] (qaC c) (.pv (.tuple #[.agg #[iV 0,iV 0,iV 0,iV 0,iV 0],iV e])) 0 []:=
 Fz [] [Cf h1 [0,1,2,3,4,5,6,7],.t true]
  tI (Co h1 [0,1,2,3,4,5,6,7] 10 (Ai he tI))
theorem quB {c:Ck} {e:Int} {y:Ev} (h1:qy7 c) (ht:Fn 113 5 [agA c.u c.b c.fr c.ev c.wh] [(0,0,zrI c.u),(1,0,zrB c.b),(2,0,zrI c.fr),(3,0,qar c.ev),(4,0,zrI c.wh)] (.pv (.tuple #[qae y,iV e])) 0 []) :
 Fn 55 8 [qaz c] (qaC c) (.pv (.tuple #[qae y,iV e])) 0 []:=
 Fz [] [Cf h1 [0,1,2,3,4,5,6,7],.k,Cf ht [2,3,4,5,6]]
  tI (Co h1 [0,1,2,3,4,5,6,7] 10 (Co ht [2,3,4,5,6] 10 tI))
end Go.Proofs.YtkckcgpmnipnaaaGreat
