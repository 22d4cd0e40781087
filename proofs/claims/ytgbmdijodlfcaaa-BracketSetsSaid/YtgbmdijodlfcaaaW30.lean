/-
  Joined: Qs, Qc, Qd. Conditions: none.
-/
import Derived.Test.YtgbmdijodlfcaaaW29
import Derived.Test.YtgbmdijodlfcaaaW21
import Derived.Test.YtgbmdijodlfcaaaW28
import Derived.Test.YtgbmdijodlfcaaaW27
namespace Go.Proofs.Ytgbmdijodlfcaaa
set_option maxRecDepth 100000
open Go.RowKit
theorem qky (n:Nat) (xs:List Value):some (SV.row 3 1 (0+n) xs)=some (SV.row 3 1 n xs):=by rw[Nat.zero_add]
theorem qk0 {n:Nat} {x y z:Int} {vs:List Value} (h0:decide (z>0)=true) (h1:iV (IntKind.i64.wrap (z-1))=iV (x)) (nz:¬ (2:Int)=0) (hq:iV (IntKind.i64.wrap (Int.tdiv x 2))=iV (y)) (hn:n+1≤1000000) {e:Exit} {tm2:TmL} {hp2:HpL}
 (r:Rl 2 2 53 0 22 4 ([(5,.ls 3 (n+1)),(6,.pv (iV (y)))]) ([(3,0,.row 3 1 (n+1) (vs++[iV y]))]) e tm2 hp2):Rl 2 2 53 0 22 4 ([(5,.ls 3 (n)),(6,.pv (iV (z)))]) ([(3,0,.row 3 1 (n) (vs))]) e tm2 hp2:=
 RunsL.next [(3,5)] 300 [.t true,Re h1,Re hq]
  (Ro (Ai h0 (Ai h1 (Ai nz (Ai hq (Ai hn tI)))))) r
theorem qmV {n:Nat} {z:Int} {vs:List Value} (h0:decide (z>0)=false):Rl 2 2 53 0 22 4 ([(5,.ls 3 (n)),(6,.pv (iV (z)))]) ([(3,0,.row 3 1 (n) (vs))]) (.exit 0) ([(5,.ls 3 n)]) ([(3,0,.row 3 1 (n) (vs))]):=
 RunsL.stop [] 300 [.t false] (fun h=>by cases h)
  (Ro (Ai h0 tI))
theorem qkU {b:Br} {n:Nat} {z pz:Int} {vs:List Value} (hs:iV (IntKind.i64.wrap (pz+(b.w.length:Int)))=iV (z)) (r0:Rl 2 2 53 0 22 4 ([(5,.ls 3 (0)),(6,.pv (iV (z)))]) ([(3,0,.row 3 1 (0) ([]))]) (.exit 0) ([(5,.ls 3 n)]) ([(3,0,.row 3 1 (n) (vs))])) :
 Fn 53 2 [brS 0 1 b,.pv (iV (pz))] [(0,0,zrI b.p),(1,0,zrI b.w)] (.ls 2 n) 1 [(2,0,.row 3 1 n vs)]:=
 Fz [(2,3)] [Re hs,.ln true 5 0 3 1,Lf r0]
  (qc1 (qaR [(2,3)]) [(2,0,.row 3 1 n vs)]) (Ai hs (Lo r0 [] tI))
abbrev qrh (g:List Int) (k:Nat) (n:Nat):TmL:=[(5,.pp 3 0),(6,.pp 4 0),(7,.pp 5 0),(10,.pp 6 0),(12,.pp 11 0),(13,.ls 13 (n)),(14,.ls 12 g.length),(15,.pv (iV (k:Int)))]
theorem qk6 {b:Br} {l m g:List Int} {vs:List Value} {s:List Pt} {k n:Nat} {x y z z2 v tn td e1 e2 u9:Int} (hlt:decide ((k:Int)<(g.length:Int))=true) (hk:g[k]?=some z) (hin:0≤(k:Int)∧(k:Int)<(g.length:Int)) (hm:iV (IntKind.i64.wrap (2*z))=iV (z2)) (ha:iV (IntKind.i64.wrap (z2+1))=iV (e1)) (hx:Fn 52 2 [.ag [.ls 0 b.p.length,.ls 1 b.w.length],.pv (iV (e1))] [(0,0,.row 3 1 b.p.length (ziV l)),(1,0,.row 3 1 b.w.length (ziV m))] (.pv (iV (x))) 0 []) (hb:iV (IntKind.i64.wrap (z2+2))=iV (e2)) (hy:Fn 52 2 [.ag [.ls 0 b.p.length,.ls 1 b.w.length],.pv (iV (e2))] [(0,0,.row 3 1 b.p.length (ziV l)),(1,0,.row 3 1 b.w.length (ziV m))] (.pv (iV (y))) 0 []) (hw:Fn 74 1 [qaD 0 s,.pv (qad tn td),.pv (iV (x)),.pv (iV (y))] [(0,0,qai s)] (.pv (iV (v))) 0 []) (hix:0≤z∧z<(b.w.length:Int)) (hg:z.toNat<m.length) (hv:(m.set z.toNat v)[z.toNat]?=some v) (hu:b.w[z.toNat]?=some u9) (hne:(v !=u9)=false) (hs:iV (IntKind.i64.wrap ((k:Int)+1))=iV (((k+1:Nat):Int))) {e:Exit} {tm2:TmL} {hp2:HpL}
 (r:Rl 3 3 55 0 78 14 ([(5,.pp 3 0),(6,.pp 4 0),(7,.pp 5 0),(10,.pp 6 0),(12,.pp 11 0),(13,.ls 13 (n)),(14,.ls 12 g.length),(15,.pv (iV ((k+1:Nat):Int)))]) ([(3,0,.ls 0 b.p.length),(3,1,.ls 1 b.w.length),(4,0,.ls 2 s.length),(5,0,.pv (iV tn)),(5,1,.pv (iV td)),(6,0,.pv (.slice none 0 0)),(6,1,.pv (.slice none 0 0)),(11,0,.ls 8 b.p.length),(11,1,.ls 10 b.w.length),(0,0,zrI b.p),(1,0,zrI b.w),(2,0,qai s),(8,0,.row 3 1 b.p.length (ziV l)),(10,0,.row 3 1 b.w.length (ziV (m.set z.toNat v))),(12,0,zrI g),(13,0,.row 3 1 (n) (vs))]) e tm2 hp2):Rl 3 3 55 0 78 14 (qrh g k n) ([(3,0,.ls 0 b.p.length),(3,1,.ls 1 b.w.length),(4,0,.ls 2 s.length),(5,0,.pv (iV tn)),(5,1,.pv (iV td)),(6,0,.pv (.slice none 0 0)),(6,1,.pv (.slice none 0 0)),(11,0,.ls 8 b.p.length),(11,1,.ls 10 b.w.length),(0,0,zrI b.p),(1,0,zrI b.w),(2,0,qai s),(8,0,.row 3 1 b.p.length (ziV l)),(10,0,.row 3 1 b.w.length (ziV m)),(12,0,zrI g),(13,0,.row 3 1 (n) (vs))]) e tm2 hp2:=
 RunsL.next [] 300 [.t true,.r (iV z),Re hm,Re ha,Cf hx [8,10],Re hm,Re hb,Cf hy [8,10],Cf hw [2],.w (ziV (m.set z.toNat v)),.r (iV v),.r (iV u9),.t false,Re hs]
  (Ro (Ai hlt (Ai hin (Ai (qaZ hk) (Ai hm (Ai ha (Co hx [8,10] 14 (Ai hm (Ai hb (Co hy [8,10] 14 (Co hw [2] 14 (Ai hix (Ai (qli m z.toNat v hg) (Ai (qcA m z.toNat hg) (Ai hix (Ai (qfe hv) (Ai hix (Ai (qfe hu) (Ai hne (Ai hs tI)))))))))))))))))))) r
theorem qiC {b:Br} {l m g:List Int} {vs:List Value} {s:List Pt} {k n:Nat} {x y z z2 v tn td e1 e2 u9:Int} (hlt:decide ((k:Int)<(g.length:Int))=true) (hk:g[k]?=some z) (hin:0≤(k:Int)∧(k:Int)<(g.length:Int)) (hm:iV (IntKind.i64.wrap (2*z))=iV (z2)) (ha:iV (IntKind.i64.wrap (z2+1))=iV (e1)) (hx:Fn 52 2 [.ag [.ls 0 b.p.length,.ls 1 b.w.length],.pv (iV (e1))] [(0,0,.row 3 1 b.p.length (ziV l)),(1,0,.row 3 1 b.w.length (ziV m))] (.pv (iV (x))) 0 []) (hb:iV (IntKind.i64.wrap (z2+2))=iV (e2)) (hy:Fn 52 2 [.ag [.ls 0 b.p.length,.ls 1 b.w.length],.pv (iV (e2))] [(0,0,.row 3 1 b.p.length (ziV l)),(1,0,.row 3 1 b.w.length (ziV m))] (.pv (iV (y))) 0 []) (hw:Fn 74 1 [qaD 0 s,.pv (qad tn td),.pv (iV (x)),.pv (iV (y))] [(0,0,qai s)] (.pv (iV (v))) 0 []) (hix:0≤z∧z<(b.w.length:Int)) (hg:z.toNat<m.length) (hv:(m.set z.toNat v)[z.toNat]?=some v) (hu:b.w[z.toNat]?=some u9) (hne:(v !=u9)=true) (hno:n+1≤1000000) (hs:iV (IntKind.i64.wrap ((k:Int)+1))=iV (((k+1:Nat):Int))) {e:Exit} {tm2:TmL} {hp2:HpL}
 (r:Rl 3 3 55 0 78 14 ([(5,.pp 3 0),(6,.pp 4 0),(7,.pp 5 0),(10,.pp 6 0),(12,.pp 11 0),(13,.ls 13 (n+1)),(14,.ls 12 g.length),(15,.pv (iV ((k+1:Nat):Int)))]) ([(3,0,.ls 0 b.p.length),(3,1,.ls 1 b.w.length),(4,0,.ls 2 s.length),(5,0,.pv (iV tn)),(5,1,.pv (iV td)),(6,0,.pv (.slice none 0 0)),(6,1,.pv (.slice none 0 0)),(11,0,.ls 8 b.p.length),(11,1,.ls 10 b.w.length),(0,0,zrI b.p),(1,0,zrI b.w),(2,0,qai s),(8,0,.row 3 1 b.p.length (ziV l)),(10,0,.row 3 1 b.w.length (ziV (m.set z.toNat v))),(12,0,zrI g),(13,0,.row 3 1 (n+1) (vs++[iV z]))]) e tm2 hp2):Rl 3 3 55 0 78 14 (qrh g k n) ([(3,0,.ls 0 b.p.length),(3,1,.ls 1 b.w.length),(4,0,.ls 2 s.length),(5,0,.pv (iV tn)),(5,1,.pv (iV td)),(6,0,.pv (.slice none 0 0)),(6,1,.pv (.slice none 0 0)),(11,0,.ls 8 b.p.length),(11,1,.ls 10 b.w.length),(0,0,zrI b.p),(1,0,zrI b.w),(2,0,qai s),(8,0,.row 3 1 b.p.length (ziV l)),(10,0,.row 3 1 b.w.length (ziV m)),(12,0,zrI g),(13,0,.row 3 1 (n) (vs))]) e tm2 hp2:=
 RunsL.next [(13,15)] 300 [.t true,.r (iV z),Re hm,Re ha,Cf hx [8,10],Re hm,Re hb,Cf hy [8,10],Cf hw [2],.w (ziV (m.set z.toNat v)),.r (iV v),.r (iV u9),.t true,Re hs]
  (Ro (Ai hlt (Ai hin (Ai (qaZ hk) (Ai hm (Ai ha (Co hx [8,10] 14 (Ai hm (Ai hb (Co hy [8,10] 14 (Co hw [2] 14 (Ai hix (Ai (qli m z.toNat v hg) (Ai (qcA m z.toNat hg) (Ai hix (Ai (qfe hv) (Ai hix (Ai (qfe hu) (Ai hne (Ai hno (Ai hs tI))))))))))))))))))))) r
theorem qnw {b:Br} {l m g:List Int} {vs:List Value} {s:List Pt} {k n:Nat} {tn td:Int} (hge:decide ((k:Int)<(g.length:Int))=false):Rl 3 3 55 0 78 14 (qrh g k n) ([(3,0,.ls 0 b.p.length),(3,1,.ls 1 b.w.length),(4,0,.ls 2 s.length),(5,0,.pv (iV tn)),(5,1,.pv (iV td)),(6,0,.pv (.slice none 0 0)),(6,1,.pv (.slice none 0 0)),(11,0,.ls 8 b.p.length),(11,1,.ls 10 b.w.length),(0,0,zrI b.p),(1,0,zrI b.w),(2,0,qai s),(8,0,.row 3 1 b.p.length (ziV l)),(10,0,.row 3 1 b.w.length (ziV m)),(12,0,zrI g),(13,0,.row 3 1 (n) (vs))]) (.exit 0) ([(10,.pp 6 0),(12,.pp 11 0),(13,.ls 13 n)]) ([(3,0,.ls 0 b.p.length),(3,1,.ls 1 b.w.length),(4,0,.ls 2 s.length),(5,0,.pv (iV tn)),(5,1,.pv (iV td)),(6,0,.pv (.slice none 0 0)),(6,1,.pv (.slice none 0 0)),(11,0,.ls 8 b.p.length),(11,1,.ls 10 b.w.length),(0,0,zrI b.p),(1,0,zrI b.w),(2,0,qai s),(8,0,.row 3 1 b.p.length (ziV l)),(10,0,.row 3 1 b.w.length (ziV m)),(12,0,zrI g),(13,0,.row 3 1 (n) (vs))]):=
 RunsL.stop [] 300 [.t false] (fun h=>by cases h)
  (Ro (Ai hge tI))
theorem qkL {b:Br} {l m g:List Int} {vs:List Value} {s:List Pt} {n:Nat} {tn td pz id:Int} (n1:0+b.p.length≤1000000) (n2:0+b.w.length≤1000000) (hix:0≤pz∧pz<((0+b.p.length:Nat):Int)) (hs9:ziV l=qdE ([]++ziV b.p) (0*1+pz.toNat*1) [iV id]) (hi9:0*1+pz.toNat*1+1≤([]++ziV b.p).length) (hy:Fn 53 2 [brS 0 1 b,.pv (iV (pz))] [(0,0,zrI b.p),(1,0,zrI b.w)] (.ls 2 g.length) 1 [(2,0,zrI g)]) (r0:Rl 3 3 55 0 78 14 ([(5,.pp 3 0),(6,.pp 4 0),(7,.pp 5 0),(10,.pp 6 0),(12,.pp 11 0),(13,.ls 13 (0)),(14,.ls 12 g.length),(15,.pv (iV ((0:Nat):Int)))]) ([(3,0,.ls 0 b.p.length),(3,1,.ls 1 b.w.length),(4,0,.ls 2 s.length),(5,0,.pv (iV tn)),(5,1,.pv (iV td)),(6,0,.pv (.slice none 0 0)),(6,1,.pv (.slice none 0 0)),(11,0,.ls 8 b.p.length),(11,1,.ls 10 b.w.length),(0,0,zrI b.p),(1,0,zrI b.w),(2,0,qai s),(8,0,.row 3 1 b.p.length (ziV l)),(10,0,.row 3 1 b.w.length (ziV b.w)),(12,0,zrI g),(13,0,.row 3 1 (0) ([]))]) (.exit 0) ([(10,.pp 6 0),(12,.pp 11 0),(13,.ls 13 n)]) ([(3,0,.ls 0 b.p.length),(3,1,.ls 1 b.w.length),(4,0,.ls 2 s.length),(5,0,.pv (iV tn)),(5,1,.pv (iV td)),(6,0,.pv (.slice none 0 0)),(6,1,.pv (.slice none 0 0)),(11,0,.ls 8 b.p.length),(11,1,.ls 10 b.w.length),(0,0,zrI b.p),(1,0,zrI b.w),(2,0,qai s),(8,0,.row 3 1 b.p.length (ziV l)),(10,0,.row 3 1 b.w.length (ziV m)),(12,0,zrI g),(13,0,.row 3 1 (n) (vs))])) :
 Fn 55 3 [brS 0 1 b,qaD 2 s,.pv (qad tn td),.pv (iV (pz)),.pv (iV (id))] [(0,0,zrI b.p),(1,0,zrI b.w),(2,0,qai s)] (.tu [.ag [.ls 3 b.p.length,.ls 4 b.w.length],.one (.ls 5 n)]) 3 [(3,0,.row 3 1 b.p.length (ziV l)),(4,0,.row 3 1 b.w.length (ziV m)),(5,0,.row 3 1 n vs)]:=
 Fz [(3,8),(4,10),(5,13)] [.md,.w (ziV l),Cf hy [0,1],.ln true 13 0 3 1,Lf r0]
  (qc1 (qaR [(3,8),(4,10),(5,13)]) [(3,0,.row 3 1 b.p.length (ziV l)),(4,0,.row 3 1 b.w.length (ziV m)),(5,0,.row 3 1 n vs)]) (Ai n1 (Ai n2 (Ai hix (Ai hs9 (Ai hi9 (Co hy [0,1] 12 (Ai (Lt r0 []) (Ai (Ai (Er (SV.ls 0 b.p.length)) (Ai (Er (SV.ls 1 b.w.length)) (Ai (Er (SV.ls 2 s.length)) (Ai (Er (SV.pv (iV tn))) (Ai (Er (SV.pv (iV td))) (Ai (Er (SV.pv (.slice none 0 0))) (Ai (Er (SV.pv (.slice none 0 0))) (Ai (congrArg some (congrArg (SV.ls 8) (Nat.zero_add b.p.length))) (Ai (congrArg some (congrArg (SV.ls 10) (Nat.zero_add b.w.length))) (Ai (Er (zrI b.p)) (Ai (Er (zrI b.w)) (Ai (Er (qai s)) (Ai (qky b.p.length (ziV l)) (Ai (qf1 b.w.length (ziV b.w)) (Ai (Er (zrI g)) (Ai (Er (SV.row 3 1 0 [])) tI)))))))))))))))) (Ai r0 tI)))))))))
theorem qnT {b:Br} {s:List Pt} {tn td pz id:Int} (hc:Fn 26 2 [brS 0 1 b] [(0,0,zrI b.p),(1,0,zrI b.w)] (.pv (iV (8))) 0 []) :
 Fn 28 3 [brS 0 1 b,qaD 2 s,.pv (qad tn td),.pv (iV (pz)),.pv (iV (id))] [(0,0,zrI b.p),(1,0,zrI b.w),(2,0,qai s)] (.pv (.tuple #[.agg #[.slice none 0 0,.slice none 0 0],.slice none 0 0,iV 8])) 0 []:=
 Fz [] [Cf hc [0,1],.k]
  tI (Co hc [0,1] 7 tI)
theorem qlm {b:Br} {s:List Pt} {tn td pz id:Int} {e:Int} (hc:Fn 26 2 [brS 0 1 b] [(0,0,zrI b.p),(1,0,zrI b.w)] (.pv (iV (0))) 0 []) (ht:Fn 29 1 [qaD 0 s,.pv (qad tn td)] [(0,0,qai s)] (.pv (iV (e))) 0 []) (he:(e !=0)=true) :
 Fn 28 3 [brS 0 1 b,qaD 2 s,.pv (qad tn td),.pv (iV (pz)),.pv (iV (id))] [(0,0,zrI b.p),(1,0,zrI b.w),(2,0,qai s)] (.pv (.tuple #[.agg #[.slice none 0 0,.slice none 0 0],.slice none 0 0,iV e])) 0 []:=
 Fz [] [Cf hc [0,1],.k,Cf ht [2],.t true]
  tI (Co hc [0,1] 7 (Co ht [2] 7 (Ai he tI)))
abbrev qo7 (s:List Pt) (td:Int) (tn:Int):Prop:=Fn 29 1 [qaD 0 s,.pv (qad tn td)] [(0,0,qai s)] (.pv (iV (0))) 0 []
theorem qqm {b:Br} {s:List Pt} {tn td pz id:Int} (hc:Fn 26 2 [brS 0 1 b] [(0,0,zrI b.p),(1,0,zrI b.w)] (.pv (iV (0))) 0 []) (ht:qo7 s td tn) (h1:decide (pz<0)=true) :
 Fn 28 3 [brS 0 1 b,qaD 2 s,.pv (qad tn td),.pv (iV (pz)),.pv (iV (id))] [(0,0,zrI b.p),(1,0,zrI b.w),(2,0,qai s)] (.pv (.tuple #[.agg #[.slice none 0 0,.slice none 0 0],.slice none 0 0,iV 2])) 0 []:=
 Fz [] [Cf hc [0,1],.k,Cf ht [2],.k,.t true]
  tI (Co hc [0,1] 7 (Co ht [2] 7 (Ai h1 tI)))
theorem qpL {b:Br} {s:List Pt} {tn td pz id:Int} (hc:Fn 26 2 [brS 0 1 b] [(0,0,zrI b.p),(1,0,zrI b.w)] (.pv (iV (0))) 0 []) (ht:qo7 s td tn) (h1:decide (pz<0)=false) (h3:decide (pz≥(b.p.length:Int))=true) :
 Fn 28 3 [brS 0 1 b,qaD 2 s,.pv (qad tn td),.pv (iV (pz)),.pv (iV (id))] [(0,0,zrI b.p),(1,0,zrI b.w),(2,0,qai s)] (.pv (.tuple #[.agg #[.slice none 0 0,.slice none 0 0],.slice none 0 0,iV 2])) 0 []:=
 Fz [] [Cf hc [0,1],.k,Cf ht [2],.k,.t false,.t true]
  tI (Co hc [0,1] 7 (Co ht [2] 7 (Ai h1 (Ai h3 tI))))
theorem qpW {b:Br} {l:List Int} {s:List Pt} {tn td pz id:Int} (hc:Fn 26 2 [brS 0 1 b] [(0,0,zrI b.p),(1,0,zrI b.w)] (.pv (iV (0))) 0 []) (ht:qo7 s td tn) (h1:decide (pz<0)=false) (h3:decide (pz≥(b.p.length:Int))=false) (n1:0+b.p.length≤1000000) (hix:0≤pz∧pz<((0+b.p.length:Nat):Int)) (hs9:ziV l=qdE ([]++ziV b.p) (0*1+pz.toNat*1) [iV id]) (hi9:0*1+pz.toNat*1+1≤([]++ziV b.p).length) (hkn:Fn 30 2 [qaD 0 s,.ls 1 (0+b.p.length)] [(0,0,qai s),(1,0,.row 3 1 (0+b.p.length) (ziV l))] (.pv (.bool false)) 0 []) :
 Fn 28 3 [brS 0 1 b,qaD 2 s,.pv (qad tn td),.pv (iV (pz)),.pv (iV (id))] [(0,0,zrI b.p),(1,0,zrI b.w),(2,0,qai s)] (.pv (.tuple #[.agg #[.slice none 0 0,.slice none 0 0],.slice none 0 0,iV 6])) 0 []:=
 Fz [] [Cf hc [0,1],.k,Cf ht [2],.k,.t false,.t false,.w (ziV l),Cf hkn [2,8],.k]
  tI (Co hc [0,1] 7 (Co ht [2] 7 (Ai h1 (Ai h3 (Ai n1 (Ai hix (Ai hs9 (Ai hi9 (Co hkn [2,8] 9 tI)))))))))
theorem qnJ {b:Br} {l:List Int} {s:List Pt} {tn td pz id:Int} (hc:Fn 26 2 [brS 0 1 b] [(0,0,zrI b.p),(1,0,zrI b.w)] (.pv (iV (0))) 0 []) (ht:qo7 s td tn) (h1:decide (pz<0)=false) (h3:decide (pz≥(b.p.length:Int))=false) (n1:0+b.p.length≤1000000) (hix:0≤pz∧pz<((0+b.p.length:Nat):Int)) (hs9:ziV l=qdE ([]++ziV b.p) (0*1+pz.toNat*1) [iV id]) (hi9:0*1+pz.toNat*1+1≤([]++ziV b.p).length) (hkn:Fn 30 2 [qaD 0 s,.ls 1 (0+b.p.length)] [(0,0,qai s),(1,0,.row 3 1 (0+b.p.length) (ziV l))] (.pv (.bool true)) 0 []) (h2:Fn 31 1 [.ls 0 (0+b.p.length)] [(0,0,.row 3 1 (0+b.p.length) (ziV l))] (.pv (.bool true)) 0 []) :
 Fn 28 3 [brS 0 1 b,qaD 2 s,.pv (qad tn td),.pv (iV (pz)),.pv (iV (id))] [(0,0,zrI b.p),(1,0,zrI b.w),(2,0,qai s)] (.pv (.tuple #[.agg #[.slice none 0 0,.slice none 0 0],.slice none 0 0,iV 14])) 0 []:=
 Fz [] [Cf hc [0,1],.k,Cf ht [2],.k,.t false,.t false,.w (ziV l),Cf hkn [2,8],.k,Cf h2 [8]]
  tI (Co hc [0,1] 7 (Co ht [2] 7 (Ai h1 (Ai h3 (Ai n1 (Ai hix (Ai hs9 (Ai hi9 (Co hkn [2,8] 9 (Co h2 [8] 9 tI))))))))))
theorem qo8 {b:Br} {l m:List Int} {vs:List Value} {s:List Pt} {n:Nat} {tn td pz id:Int} (hc:Fn 26 2 [brS 0 1 b] [(0,0,zrI b.p),(1,0,zrI b.w)] (.pv (iV (0))) 0 []) (ht:qo7 s td tn) (h1:decide (pz<0)=false) (h3:decide (pz≥(b.p.length:Int))=false) (n1:0+b.p.length≤1000000) (hix:0≤pz∧pz<((0+b.p.length:Nat):Int)) (hs9:ziV l=qdE ([]++ziV b.p) (0*1+pz.toNat*1) [iV id]) (hi9:0*1+pz.toNat*1+1≤([]++ziV b.p).length) (hkn:Fn 30 2 [qaD 0 s,.ls 1 (0+b.p.length)] [(0,0,qai s),(1,0,.row 3 1 (0+b.p.length) (ziV l))] (.pv (.bool true)) 0 []) (h2:Fn 31 1 [.ls 0 (0+b.p.length)] [(0,0,.row 3 1 (0+b.p.length) (ziV l))] (.pv (.bool false)) 0 []) (hp:Fn 55 3 [brS 0 1 b,qaD 2 s,.pv (qad tn td),.pv (iV (pz)),.pv (iV (id))] [(0,0,zrI b.p),(1,0,zrI b.w),(2,0,qai s)] (.tu [.ag [.ls 3 b.p.length,.ls 4 b.w.length],.one (.ls 5 n)]) 3 [(3,0,.row 3 1 b.p.length (ziV l)),(4,0,.row 3 1 b.w.length (ziV m)),(5,0,.row 3 1 n vs)]) :
 Fn 28 3 [brS 0 1 b,qaD 2 s,.pv (qad tn td),.pv (iV (pz)),.pv (iV (id))] [(0,0,zrI b.p),(1,0,zrI b.w),(2,0,qai s)] (.tu [.ag [.ls 3 b.p.length,.ls 4 b.w.length],.one (.ls 5 n),.one (.pv (iV 0))]) 3 [(3,0,.row 3 1 b.p.length (ziV l)),(4,0,.row 3 1 b.w.length (ziV m)),(5,0,.row 3 1 n vs)]:=
 Fz [(3,9),(4,10),(5,11)] [Cf hc [0,1],.k,Cf ht [2],.k,.t false,.t false,.w (ziV l),Cf hkn [2,8],.k,Cf h2 [8],Cf hp [0,1,2]]
  (qc1 (qaR [(3,9),(4,10),(5,11)]) [(3,0,.row 3 1 b.p.length (ziV l)),(4,0,.row 3 1 b.w.length (ziV m)),(5,0,.row 3 1 n vs)]) (Co hc [0,1] 7 (Co ht [2] 7 (Ai h1 (Ai h3 (Ai n1 (Ai hix (Ai hs9 (Ai hi9 (Co hkn [2,8] 9 (Co h2 [8] 9 (Co hp [0,1,2] 9 tI)))))))))))
end Go.Proofs.Ytgbmdijodlfcaaa

namespace Go.Proofs.Ytgbmdijodlfcaaa
set_option maxRecDepth 100000
open Go.RowKit
noncomputable def pB (p:Prop):Bool:=open Classical in decide p
open Classical in
theorem qgx {p:Prop} (h:p):pB p=true:=by unfold pB;exact decide_eq_true h
open Classical in
theorem qfU {p:Prop} (h:¬ p):pB p=false:=by unfold pB;exact decide_eq_false h
theorem qey (a:Int):MapK Try.prog 118 3 4 (iV a) (fun x=>∃ b,x=iV b) (.bool false):=
 qh5 (by kernel_rfl) Try.underlying3 (fun w=>qc2 (by kernel_rfl) w) a
theorem qkE (m:List Int):∀ p∈qov m,∃ b,p.1=iV b:=fun p hp=>by
 obtain⟨q,_,rfl⟩:=List.mem_map.1 hp
 exact⟨q,rfl⟩
theorem qmf {m:List Int} {x:Int} (h:x∉m):qaU Try.prog 118 (qc5 m) (.int .i64 x) false (.bool false):=
 qiR (qey x) (qkE m) (fun q hq e=>by
  obtain⟨r,hr,rfl⟩:=List.mem_map.1 hq
  exact h (qdl e▸hr)) false
theorem qoc {m:List Int} {x:Int} (h:x∈m):qaU Try.prog 118 (qc5 m) (iV x) false (.bool true):=
 qgu (v:=.bool true) (qey x) (qkE m) (List.mem_map.2 ⟨x,h,rfl⟩) (fun r hr _=>by
  obtain⟨s,_,rfl⟩:=List.mem_map.1 hr
  rfl) false
theorem qek {m:List Int} {x:Int} (h:x∉m):qdG Try.prog 118 (qc5 m) (.int .i64 x) (.bool true) (qc5 (m++[x])):=by
 have:=qjQ (qey x) (qkE m) (fun q hq e=>by
  obtain⟨r,hr,rfl⟩:=List.mem_map.1 hq
  exact h (qdl e▸hr)) (.bool true)
 show qdG _ _ _ _ _ (kvL (qov (m++[x])))
 rw[show qov (m++[x])=qov m++[(.int .i64 x,.bool true)] by simp[qov]]
 exact this
theorem ql3 {q:IntKind} {a:Int}:∀ (l:List MapEntry) (i:Nat),(∀ x∈l,∃ b,x.key=.int q b)→(∃ x∈l,x.key=.int q a)→∃ j e,l[j]?=some e∧e.key=.int q a∧Instr.findNow (.int q) (.int q a) l i=some (some (i+j,e.val))
 | [],_,_,h=>by obtain⟨x,hx,_⟩:=h;cases hx
 | x::r,i,h,hex=>by
  obtain⟨b,hb⟩:=h x (by simp)
  by_cases hab:a=b
  ·subst hab
   exact⟨0,x,rfl,hb,by simp[Instr.findNow,hb,Instr.sameNow]⟩
  ·have hf:(a==b)=false:=by simpa using hab
   obtain⟨y,hy,hya⟩:=hex
   have hyr:y∈r:=by
    rcases List.mem_cons.1 hy with rfl | hy
    ·rw[hb] at hya;injection hya with _ e;exact (hab e.symm).elim
    ·exact hy
   obtain⟨j,e,h1,h2,h3⟩:=ql3 (q:=q) (a:=a) r (i+1) (fun y hy=>h y (by simp[hy])) ⟨y,hyr,hya⟩
   exact⟨j+1,e,by simpa using h1,h2,by simp[Instr.findNow,hb,Instr.sameNow,hf,h3];omega⟩
theorem qit {m:List Int} {x:Int} (h:x∈m):qdG Try.prog 118 (qc5 m) (iV x) (.bool true) (qc5 m):=by
 intro w r ⟨en,clock,hb,hx⟩
 have M:=qey x
 have hin:=qdu (K:=fun x=>∃ b,x=iV b) hx (qkE m)
 obtain⟨y,hy,hyk⟩:=qmb hx (p:=(iV x,.bool true)) (List.mem_map.2 ⟨x,h,rfl⟩)
 obtain⟨j,e,h1,h2,h3⟩:=ql3 (q:=.i64) (a:=x) en.toList 0 (fun z hz=>(hin z hz).1) ⟨y,hy,hyk⟩
 have hv:e.val=.bool true:=by
  obtain⟨z,_,hz⟩:=List.mem_map.1 (hin e (List.mem_of_getElem? h1)).2
  injection hz with _ hz
  exact hz.symm
 have hf:(Instr.findKey 3 (iV x) en.toList).run Try.prog w=.ok (some (0+j,e.val)) w:=MapKept.run_findKey Try.underlying3 h3
 rw[Nat.zero_add] at hf
 have hj:en[j]?=some e:=by rw[← Array.getElem?_toList];exact h1
 have hm:en.modify j (fun e=>{ e with key:=iV x,val:=.bool true })=en:=by
  apply Array.ext (by simp)
  intro i hi hi'
  rw[Array.getElem_modify]
  split
  ·rename_i e1
   subst e1
   have:en[j]=e:=by
    have:=Array.getElem?_eq_getElem hi'
    rw[hj] at this
    exact (Option.some.inj this).symm
   have e3:∀ k v,e.key=k→e.val=v→({ e with key:=k,val:=v })=e:=fun k v a c=>by rw[← a,← c]
   rw[this]
   exact e3 _ _ h2 hv
  ·rfl
 have hs:(Instr.keyThatStays (iV x) (iV x)).run Try.prog w=.ok (iV x) w:=by
  simp[Instr.keyThatStays,Instr.sameBits]
 refine⟨en,clock,?_,hx⟩
 simp[Instr.mapUpdate,run_underlying M.ty,MapKept.run_getObj_map hb,M.ck,hf,hj,h2,hs,hm,MapKept.run_setObj_map _ hb,Result.andThen]
def OneN (l:List Int):Prop:=∀ (i k:Nat) (x:Int),l[i]?=some x→l[k]?=some x→x≠-1→i=k
theorem OneN.b {l:List Int} (h:OneN l):OneB l:=fun i k x hi hk h0=>h i k x hi hk (by omega)
theorem OneB.n {l:List Int} (h:OneB l) (hr:∀ x∈l,-1≤x):OneN l:=fun i k x hi hk h0=>h i k x hi hk (by have:=hr x (List.mem_of_getElem? hi);omega)
theorem qfL {l:List Int} (hn:l.length≤1000000):∀ (d k:Nat) (m:List Int),k+d=l.length→(∀ x,x∈m↔x∈l.take k)→(∀ (i j:Nat) (x:Int),i<k→j<k→l[i]?=some x→l[j]?=some x→x≠-1→i=j)→
 (OneN l∧RunsL Try.prog 1 1 (qgK Try.prog 66 0) 25 2 [(3,.mp 1),(9,.ls 0 l.length),(10,.pv (.int .i64 (l.length:Int))),(11,.pv (.int .i64 (k:Int)))] [(1,0,.mrow (qc5 m)),(0,0,zrI l)] (.exit 0) [] [])∨
 (¬ OneN l∧RunsL Try.prog 1 1 (qgK Try.prog 66 0) 25 2 [(3,.mp 1),(9,.ls 0 l.length),(10,.pv (.int .i64 (l.length:Int))),(11,.pv (.int .i64 (k:Int)))] [(1,0,.mrow (qc5 m)),(0,0,zrI l)] .ret [(2,.pv (.bool true))] [])
 | 0,k,m,hd,_,h1=>Or.inl ⟨fun i j x hi hj h0=>h1 i j x (by have:=qas hi;omega) (by have:=qas hj;omega) hi hj h0,qnq (hge:=df (by omega))⟩
 | d+1,k,m,hd,hm,h1=>by
  obtain⟨x,hx⟩:=qap (l:=l) (k:=k) (by omega)
  have hk:=qas hx
  have hs:=qdC hx
  have up:(x≠-1→x∉m)→(∀ (i j:Nat) (y:Int),i<k+1→j<k+1→l[i]?=some y→l[j]?=some y→y≠-1→i=j):=fun hno i j y hi hj e1 e2 h0=>by
   rcases Nat.lt_or_ge i k with a | a<;>rcases Nat.lt_or_ge j k with c | c
   ·exact h1 i j y a c e1 e2 h0
   ·have:j=k:=by omega
    subst this
    rw[hx] at e2;cases e2
    exact (hno h0 ((hm x).2 (List.mem_of_getElem? (i:=i) (by rw[List.getElem?_take,if_pos a];exact e1)))).elim
   ·have:i=k:=by omega
    subst this
    rw[hx] at e1;cases e1
    exact (hno h0 ((hm x).2 (List.mem_of_getElem? (i:=j) (by rw[List.getElem?_take,if_pos c];exact e2)))).elim
   ·omega
  by_cases hin:x∈m
  ·by_cases h0:x = -1
   ·have ih:=qfL hn d (k+1) m (by omega) (fun y=>by rw[hs,List.mem_append,← hm y,List.mem_singleton];exact⟨Or.inl,fun h=>h.elim id fun h=>h▸hin⟩) (up fun h=>(h h0).elim)
    exact ih.imp (fun ⟨a,r⟩=>⟨a,qc9 (hk:=hx) (hin:=qao hk) (hlt:=dt (by omega)) (hx:=by simp[h0]) (hP:=qit hin) (hs:=qal (by omega)) r⟩) (fun ⟨a,r⟩=>⟨a,qc9 (hk:=hx) (hin:=qao hk) (hlt:=dt (by omega)) (hx:=by simp[h0]) (hP:=qit hin) (hs:=qal (by omega)) r⟩)
   ·refine Or.inr ⟨fun H=>?_,qms (hk:=hx) (hin:=qao hk) (hlt:=dt (by omega)) (hx:=by simpa using h0) (hL:=qoc hin)⟩
    obtain⟨i,hi⟩:=List.getElem?_of_mem ((hm x).1 hin)
    have hl:=qas hi
    rw[List.length_take] at hl
    rw[List.getElem?_take,if_pos (by omega)] at hi
    have:=H i k x hi hx h0
    omega
  ·have ih:=qfL hn d (k+1) (m++[x]) (by omega) (fun y=>by rw[hs,List.mem_append,List.mem_append,hm y]) (up fun _=>hin)
   by_cases h0:x = -1
   ·exact ih.imp (fun ⟨a,r⟩=>⟨a,qc9 (hk:=hx) (hin:=qao hk) (hlt:=dt (by omega)) (hx:=by simp[h0]) (hP:=qek hin) (hs:=qal (by omega)) r⟩) (fun ⟨a,r⟩=>⟨a,qc9 (hk:=hx) (hin:=qao hk) (hlt:=dt (by omega)) (hx:=by simp[h0]) (hP:=qek hin) (hs:=qal (by omega)) r⟩)
   ·exact ih.imp (fun ⟨a,r⟩=>⟨a,qgz (hk:=hx) (hin:=qao hk) (hlt:=dt (by omega)) (hx:=by simpa using h0) (hL:=qmf hin) (hP:=qek hin) (hs:=qal (by omega)) r⟩) (fun ⟨a,r⟩=>⟨a,qgz (hk:=hx) (hin:=qao hk) (hlt:=dt (by omega)) (hx:=by simpa using h0) (hL:=qmf hin) (hP:=qek hin) (hs:=qal (by omega)) r⟩)
theorem qj0 {l:List Int} (hn:l.length≤1000000):Fn 66 1 [.ls 0 l.length] [(0,0,zrI l)] (.pv (.bool (pB (¬ OneN l)))) 0 []:=by
 rcases qfL hn l.length 0 [] (by omega) (by simp) (fun i j x hi=>by omega) with ⟨h,r⟩ | ⟨h,r⟩
 ·rw[qfU (fun k=>k h)];exact qoA (r0:=r)
 ·rw[qgx h];exact qns (r0:=r)
theorem qsx {s:List Pt} (hs:Val s):Fn 38 1 [qaD 0 s] [(0,0,qai s)] (.mp 1) 1 [(1,0,.mrow (byV s))]:=by
 have hlen:=hs.len
 refine qlN (s:=s) ?_
 have:=RunsL.rounds (P:=Try.prog) (lo:=1) (fr:=1) (c:=qgK Try.prog 38 0) (n:=23) (nb:=3) (fun k=>[(3,.mp 2),(11,.ls 0 s.length),(12,.pv (iV (s.length:Int))),(13,.pv (iV (k:Int)))]) (fun k=>[(2,0,.mrow (byV (s.take k))),(0,0,qai s)])
  (e:=.exit 0) (tm2:=[(3,.mp 2)]) (hp2:=[(2,0,.mrow (byV s)),(0,0,qai s)]) s.length 0 (Nat.zero_add _) (fun k _ hk r=>?_) (by rw[List.take_length];exact qmw (hge:=df (by omega)))
 ·simpa using this
 ·obtain⟨p,hp⟩:=qap hk
  rw[qdC hp] at r
  exact qln (hk:=hp) (hin:=qao hk) (hlt:=dt (by omega)) (hP:=qoX fun q hq=>by
   obtain⟨i,hi,hq'⟩:=qks hq
   have:=hs.up.mono hi hq' hp
   omega) (hs:=qal (by omega)) r
theorem qco {s:List Pt} (hs:Val s) {q:Pt} (hq:q∈s):0≤q.id∧q.id≤65535:=by
 have:=qbw.1 (hs.ok q hq)
 omega
theorem qkX {s:List Pt} (hs:Val s) {l:List Int} (hn:l.length≤1000000):Fn 65 2 [.mp 1,.ls 0 l.length] [(0,0,zrI l),(1,0,.mrow (byV s))] (.pv (.bool (pB (KnB s l)))) 0 []:=by
 have step:∀ k,(∀ j,j<k→∀ x,l[j]?=some x→x≠-1→∃ q∈s,q.id=x)→∀ {e:Exit} {tm2:TmL} {hp2:HpL},k≤l.length→
  Rl 3 3 84 0 19 3 [(0,.ls 0 l.length),(1,.pc 80 [.pp 2 0]),(7,.pv (iV (l.length:Int))),(8,.pv (iV (k:Int)))] [(0,0,zrI l),(1,0,.mrow (byV s)),(2,0,.mp 1)] e tm2 hp2→
  Rl 3 3 84 0 19 3 [(0,.ls 0 l.length),(1,.pc 80 [.pp 2 0]),(7,.pv (iV (l.length:Int))),(8,.pv (iV ((0:Nat):Int)))] [(0,0,zrI l),(1,0,.mrow (byV s)),(2,0,.mp 1)] e tm2 hp2:=by
  intro k hk e tm2 hp2 hkl r
  refine RunsL.rounds (fun j=>[(0,.ls 0 l.length),(1,.pc 80 [.pp 2 0]),(7,.pv (iV (l.length:Int))),(8,.pv (iV (j:Int)))]) (fun _=>[(0,0,zrI l),(1,0,.mrow (byV s)),(2,0,.mp 1)]) (N:=k) k 0 (Nat.zero_add _) (fun j _ hj r=>?_) r
  obtain⟨x,hx⟩:=qap (l:=l) (k:=j) (by omega)
  by_cases h0:x = -1
  ·exact qlh (hk:=hx) (hin:=qao (qas hx)) (hlt:=dt (by have:=qas hx;omega)) (hA:=qlZ fun ⟨q,hq,e⟩=>by have:=(qco hs hq).1;omega) (hx:=by simp[h0]) (hs:=qal (by omega)) r
  ·obtain⟨q,hq,hqx⟩:=hk j hj x hx h0
   exact qiO (hk:=hx) (hin:=qao (qas hx)) (hlt:=dt (by have:=qas hx;omega)) (hA:=qh0 hs hq hqx true) (hx:=by simpa using h0) (hs:=qal (by omega)) r
 rcases qaI (fun j=>∀ x,l[j]?=some x→x≠-1→∃ q∈s,q.id=x) l.length with h | ⟨j,hj,hb,hf⟩
 ·rw[qgx (p:=KnB s l) fun x hx=>by
   obtain⟨k,hk,rfl⟩:=List.getElem_of_mem hx
   exact h k hk _ (List.getElem?_eq_getElem hk)]
  exact qmX (ht:=qqf (hi:=qp4 (r0:=step l.length h (Nat.le_refl _) (qm6 (hge:=df (by omega))))))
 ·simp only[Classical.not_forall] at hb
  obtain⟨x,hx,h0,hno⟩:=hb
  rw[qfU (p:=KnB s l) fun h=>hno (h x (List.mem_of_getElem? hx) h0)]
  exact qqh (ht:=qn4 (k:=j) (hi:=qoh (r0:=step j hf (by omega) (qlK (hk:=hx) (hin:=qao hj) (hlt:=dt (by omega)) (hA:=qlZ hno) (hx:=by simpa using h0)))) (h0:=dt (by omega)))
noncomputable def idE (s:List Pt) (l:List Int):Int:=open Classical in if KnB s l then (if OneB l then 0 else 14) else 6
theorem qrn {s:List Pt} (hs:Val s) {l:List Int} (h:KnB s l):∀ x∈l,-1≤x:=fun x hx=>(qpM hs h x hx).1
theorem qnc {s:List Pt} (hs:Val s) {l:List Int} {n:Nat} (hl:l.length=n) (hn:n≤1000000):Fn 39 2 [.mp 1,.ls 0 n] [(0,0,.row 3 1 n (ziV l)),(1,0,.mrow (byV s))] (.pv (iV (idE s l))) 0 []:=by
 subst hl
 have h1:=qkX hs hn
 have h2:=qj0 hn
 unfold idE
 by_cases hk:KnB s l
 ·rw[qgx hk] at h1
  rw[if_pos hk]
  by_cases ho:OneB l
  ·rw[qfU (fun k=>k (ho.n (qrn hs hk)))] at h2
   rw[if_pos ho]
   exact qp9 (h1:=h1) (h2:=h2)
  ·rw[qgx (fun k=>ho k.b)] at h2
   rw[if_neg ho]
   exact qny (h1:=h1) (h2:=h2)
 ·rw[qfU hk] at h1
  rw[if_neg hk]
  exact qpz (h1:=h1)
theorem qkS {l:List Int} (hn:l.length≤1000000):Fn 49 1 [.ls 0 l.length] [(0,0,zrI l)] (.pv (.bool (pB ((∀ x∈l,-1≤x∧x≤65535)∧OneB l)))) 0 []:=by
 have step:∀ k,(∀ j,j<k→∀ x,l[j]?=some x→-1≤x∧x≤65535)→∀ {e:Exit} {tm2:TmL} {hp2:HpL},k≤l.length→
  Rl 1 1 84 0 19 1 [(0,.ls 0 l.length),(1,.pv (.func (.func 72) #[] #[])),(7,.pv (iV (l.length:Int))),(8,.pv (iV (k:Int)))] [(0,0,zrI l)] e tm2 hp2→
  Rl 1 1 84 0 19 1 [(0,.ls 0 l.length),(1,.pv (.func (.func 72) #[] #[])),(7,.pv (iV (l.length:Int))),(8,.pv (iV ((0:Nat):Int)))] [(0,0,zrI l)] e tm2 hp2:=by
  intro k hk e tm2 hp2 hkl r
  refine RunsL.rounds (fun j=>[(0,.ls 0 l.length),(1,.pv (.func (.func 72) #[] #[])),(7,.pv (iV (l.length:Int))),(8,.pv (iV (j:Int)))]) (fun _=>[(0,0,zrI l)]) (N:=k) k 0 (Nat.zero_add _) (fun j _ hj r=>?_) r
  obtain⟨x,hx⟩:=qap (l:=l) (k:=j) (by omega)
  obtain⟨h1,h2⟩:=hk j hj x hx
  exact qkq (hk:=hx) (hin:=qao (qas hx)) (hlt:=dt (by have:=qas hx;omega)) (hlo:=df (by omega)) (hhi:=df (by omega)) (hs:=qal (by omega)) r
 rcases qaI (fun j=>∀ x,l[j]?=some x→-1≤x∧x≤65535) l.length with h | ⟨j,hj,hb,hf⟩
 ·have hr:∀ x∈l,-1≤x∧x≤65535:=fun x hx=>by
   obtain⟨k,hk,rfl⟩:=List.getElem_of_mem hx
   exact h k hk _ (List.getElem?_eq_getElem hk)
  have hc:=qqc (hi:=qpO (r0:=step l.length h (Nat.le_refl _) (qnH (hge:=df (by omega)))))
  have h2:=qj0 hn
  by_cases ho:OneB l
  ·rw[qfU (fun k=>k (ho.n fun x hx=>(hr x hx).1))] at h2
   rw[qgx ⟨hr,ho⟩]
   exact qqe (h1:=hc) (h2:=h2)
  ·rw[qgx (fun k=>ho k.b)] at h2
   rw[qfU fun k=>ho k.2]
   exact qof (h1:=hc) (h2:=h2)
 ·simp only[Classical.not_forall] at hb
  obtain⟨x,hx,hno⟩:=hb
  rw[qfU fun h=>hno (h.1 x (List.mem_of_getElem? hx))]
  refine qpi (h1:=qn9 (k:=j) (hi:=qm9 (r0:=step j hf (by omega) ?_)) (h0:=dt (by omega)))
  by_cases h1:x < -1
  ·exact qoR (hk:=hx) (hin:=qao hj) (hlt:=dt (by omega)) (hlo:=dt h1)
  ·exact qpm (hk:=hx) (hin:=qao hj) (hlt:=dt (by omega)) (hlo:=df h1) (hhi:=dt (by omega))
end Go.Proofs.Ytgbmdijodlfcaaa

namespace Go.Proofs.Ytgbmdijodlfcaaa
set_option maxRecDepth 100000
open Go.RowKit
theorem qbN {b:Br} {i:Nat} (h:i<b.w.length):b.w[i]?=some (b.nd i):=by rw[qcW h];exact getD_some h
theorem qg0 {b:Br} {i:Nat} (h1:b.w.length≤i) (h2:i-b.w.length<b.p.length):b.p[i-b.w.length]?=some (b.nd i):=by rw[qaP h1];exact getD_some h2
theorem qh4 {b:Br} {n j:Nat} (hn:b.w.length=n) (hj:b.p.length=j) (hw:n+1=j) (hl:j≤100000) {i:Nat} (hi:i≤2*n) {z:Int} (hz:z=(i:Int)) :
 Fn 43 2 [.ls 0 n,.ls 1 j,.pv (iV z)] [(0,0,.row 3 1 n (ziV b.w)),(1,0,.row 3 1 j (ziV b.p))] (.pv (iV (b.nd i))) 0 []:=by
 by_cases h:i<n
 ·exact qpq (h1:=dt (by omega)) (hin:=⟨by omega,by omega⟩) (hk:=by rw[hz,show (i:Int).toNat=i from rfl];exact qbN (by omega))
 ·exact qm3 (y:=((i-n:Nat):Int)) (h1:=df (by omega)) (hs:=by rw[qbo (by omega) (by omega)];congr 1;omega) (hin:=⟨by omega,by omega⟩) (hk:=by
   have:=qg0 (b:=b) (i:=i) (by omega) (by omega)
   rw[hn] at this;exact this)
theorem qih {b:Br} {n j:Nat} (hn:b.w.length=n) (hj:b.p.length=j) (hw:n+1=j) (hl:j≤100000) {i:Nat} (hi:i<n) {z:Int} (hz:z=(i:Int)) :
 Fn 67 2 [.ls 0 n,.ls 1 j,.pv (iV z)] [(0,0,.row 3 1 n (ziV b.w)),(1,0,.row 3 1 j (ziV b.p))] (.pv (.tuple #[iV (b.nd (2*i+1)),iV (b.nd (2*i+2))])) 0 []:=
 qch (e:=2*z) (e1:=2*z+1) (e2:=2*z+2) (hm:=qbo (by omega) (by omega)) (ha:=qbo (by omega) (by omega)) (hb:=qbo (by omega) (by omega)) (h1:=qh4 hn hj hw hl (i:=2*i+1) (by omega) (by omega)) (h2:=qh4 hn hj hw hl (i:=2*i+2) (by omega) (by omega))
def qqA (b:Br):Prop:=∀ i,i<b.w.length→(b.nd i=b.nd (2*i+1)∨b.nd i=b.nd (2*i+2))∧(b.nd i = -1→b.nd (2*i+1) = -1∧b.nd (2*i+2) = -1)
theorem qlz {b:Br} (hw:b.w.length+1=b.p.length) (hl:b.p.length≤100000):Fn 50 2 [brS 0 1 b] [(0,0,zrI b.p),(1,0,zrI b.w)] (.pv (.bool (pB (qqA b)))) 0 []:=by
 have hc:∀ j,j<b.w.length→Fn 67 2 [.ls 0 b.w.length,.ls 1 b.p.length,.pv (iV (j:Int))] [(0,0,zrI b.w),(1,0,zrI b.p)] (.pv (.tuple #[iV (b.nd (2*j+1)),iV (b.nd (2*j+2))])) 0 []:=fun j hj=>qih rfl rfl hw hl hj rfl
 have step:∀ k,(∀ j,j<k→(b.nd j=b.nd (2*j+1)∨b.nd j=b.nd (2*j+2))∧(b.nd j = -1→b.nd (2*j+1) = -1∧b.nd (2*j+2) = -1))→∀ {e:Exit} {tm2:TmL} {hp2:HpL},k≤b.w.length→
  Rl 2 2 50 0 42 3 [(1,.pp 2 0),(8,.ls 1 b.w.length),(9,.pv (iV (b.w.length:Int))),(10,.pv (iV (k:Int)))] [(2,0,.ls 0 b.p.length),(2,1,.ls 1 b.w.length),(0,0,zrI b.p),(1,0,zrI b.w)] e tm2 hp2→
  Rl 2 2 50 0 42 3 [(1,.pp 2 0),(8,.ls 1 b.w.length),(9,.pv (iV (b.w.length:Int))),(10,.pv (iV ((0:Nat):Int)))] [(2,0,.ls 0 b.p.length),(2,1,.ls 1 b.w.length),(0,0,zrI b.p),(1,0,zrI b.w)] e tm2 hp2:=by
  intro k hk e tm2 hp2 hkl r
  refine RunsL.rounds (fun j=>[(1,.pp 2 0),(8,.ls 1 b.w.length),(9,.pv (iV (b.w.length:Int))),(10,.pv (iV (j:Int)))]) (fun _=>[(2,0,.ls 0 b.p.length),(2,1,.ls 1 b.w.length),(0,0,zrI b.p),(1,0,zrI b.w)]) (N:=k) k 0 (Nat.zero_add _) (fun j _ hj r=>?_) r
  have hjl:j<b.w.length:=by omega
  have hx:=qbN hjl
  obtain⟨h1,h2⟩:=hk j hj
  by_cases a1:b.nd j=b.nd (2*j+1)
  ·by_cases a3:b.nd j = -1
   ·obtain⟨c1,c2⟩:=h2 a3
    exact qoB (hk:=hx) (hin:=qao hjl) (hlt:=dt (by omega)) (hc:=hc j hjl) (hx:=by simp[a1]) (hn:=by simp[a3]) (hxy:=by simp[c1,c2]) (hs:=qal (by omega)) r
   ·exact qpB (hk:=hx) (hin:=qao hjl) (hlt:=dt (by omega)) (hc:=hc j hjl) (hx:=by simp[a1]) (hn:=by simpa using a3) (hs:=qal (by omega)) r
  ·have a2:=h1.resolve_left a1
   by_cases a3:b.nd j = -1
   ·obtain⟨c1,_⟩:=h2 a3
    exact (a1 (by omega)).elim
   ·exact qpg (hk:=hx) (hin:=qao hjl) (hlt:=dt (by omega)) (hc:=hc j hjl) (hx:=by simpa using a1) (hy:=by simp[a2]) (hn:=by simpa using a3) (hs:=qal (by omega)) r
 rcases qaI (fun j=>(b.nd j=b.nd (2*j+1)∨b.nd j=b.nd (2*j+2))∧(b.nd j = -1→b.nd (2*j+1) = -1∧b.nd (2*j+2) = -1)) b.w.length with h | ⟨j,hj,hb,hf⟩
 ·rw[qgx (p:=qqA b) h]
  exact qog (r0:=step b.w.length h (Nat.le_refl _) (qmN (hge:=df (by omega))))
 ·rw[qfU (p:=qqA b) fun h=>hb (h j hj)]
  refine qps (r0:=step j hf (by omega) ?_)
  have hx:=qbN hj
  by_cases a1:b.nd j=b.nd (2*j+1)
  ·have a3:b.nd j = -1:=Classical.byContradiction fun a3=>hb ⟨Or.inl a1,fun e=>(a3 e).elim⟩
   have a4:b.nd (2*j+1)≠b.nd (2*j+2):=fun a4=>hb ⟨Or.inl a1,fun e=>⟨by omega,by omega⟩⟩
   exact qpc (hk:=hx) (hin:=qao hj) (hlt:=dt (by omega)) (hc:=hc j hj) (hx:=by simp[a1]) (hn:=by simp[a3]) (hxy:=by simpa using a4)
  ·by_cases a2:b.nd j=b.nd (2*j+2)
   ·have a3:b.nd j = -1:=Classical.byContradiction fun a3=>hb ⟨Or.inr a2,fun e=>(a3 e).elim⟩
    exact qqj (hk:=hx) (hin:=qao hj) (hlt:=dt (by omega)) (hc:=hc j hj) (hx:=by simpa using a1) (hy:=by simp[a2]) (hn:=by simp[a3]) (hxy:=by simp;omega)
   ·exact qoT (hk:=hx) (hin:=qao hj) (hlt:=dt (by omega)) (hc:=hc j hj) (hx:=by simpa using a1) (hy:=by simpa using a2)
theorem qnk {l:List Int}:Fn 37 1 [.ls 0 l.length] [(0,0,zrI l)] (.pv (iV (if 1≤l.length∧l.length≤64 then 0 else 2))) 0 []:=by
 by_cases h1:l.length<1
 ·rw[if_neg (by omega)];exact qqk (h1:=dt (by omega))
 ·by_cases h2:l.length>64
  ·rw[if_neg (by omega)];exact qpI (h1:=df (by omega)) (h2:=dt (by omega))
  ·rw[if_pos (by omega)];exact qpo (h1:=df (by omega)) (h2:=df (by omega))
theorem qn5 {b:Br} (x:Int):Fn 44 2 [brS 0 1 b,.pv (iV x)] [(0,0,zrI b.p),(1,0,zrI b.w)] (.pv (iV (if 0≤x∧x<b.p.length then 0 else 2))) 0 []:=by
 by_cases h1:x<0
 ·rw[if_neg (by omega)];exact qoN (h1:=dt (by omega))
 ·by_cases h2:x≥b.p.length
  ·rw[if_neg (by omega)];exact qo2 (h1:=df (by omega)) (h2:=dt (by omega))
  ·rw[if_pos (by omega)];exact qpX (h1:=df (by omega)) (h2:=df (by omega))
theorem qgq {b:Br} (h:VB b):erB b=0:=by unfold erB;rw[if_pos h]
theorem qa8 {b:Br} (h:¬ VB b):erB b=8:=by unfold erB;rw[if_neg h]
theorem qsd {b:Br} (h1:b.p.length≤70) (h2:b.w.length≤70):Fn 16 2 [brS 0 1 b] [(0,0,zrI b.p),(1,0,zrI b.w)] (.pv (iV (erB b))) 0 []:=by
 have s1:=qnk (l:=b.p)
 by_cases a1:1≤b.p.length∧b.p.length≤64
 ·rw[if_pos a1] at s1
  have hs:iV (IntKind.i64.wrap ((b.p.length:Int)-1))=iV ((b.p.length:Int)-1):=qbo (by omega) (by omega)
  by_cases a2:b.w.length+1=b.p.length
  ·have hl:((b.w.length:Int) !=(b.p.length:Int)-1)=false:=by simp;omega
   have s2:=qkS (l:=b.p) (by omega)
   by_cases a3:(∀ x∈b.p,-1≤x∧x≤65535)∧OneB b.p
   ·rw[qgx a3] at s2
    have s3:=qlz a2 (by omega)
    by_cases a4:qqA b
    ·rw[qgx a4] at s3
     rw[qgq ⟨a1.1,a1.2,a2,a3.1,a3.2,a4⟩]
     exact qoZ (h1:=s1) (hs:=hs) (hl:=hl) (h2:=s2) (h3:=s3)
    ·rw[qfU a4] at s3
     rw[qa8 fun V=>a4 V.kid]
     exact qpS (h1:=s1) (hs:=hs) (hl:=hl) (h2:=s2) (h3:=s3)
   ·rw[qfU a3] at s2
    rw[qa8 fun V=>a3 ⟨V.rng,V.one⟩]
    exact qpR (h1:=s1) (hs:=hs) (hl:=hl) (h2:=s2)
  ·rw[qa8 fun V=>a2 V.w]
   exact qnf (h1:=s1) (hs:=hs) (hl:=by simp;omega)
 ·rw[if_neg a1] at s1
  rw[qa8 fun V=>a1 ⟨V.n1,V.n2⟩]
  exact qko (h1:=s1)
def InF (s:List Pt) (x:Int):Prop:=x = -1∨∃ q∈s,q.id=x
section
variable {s:List Pt} {tn td:Int} (htn:I64 tn) (htd:I64 td) (hs:Val s) (ht:okB tn td=true)
theorem qp6 {x y:Int} (hs:Val s) {p q:Pt} (hp:p∈s) (hq:q∈s) (ex:p.id=x) (ey:q.id=y):won s tn td x y=if ld tn td p q=true then x else y:=by
 have h1:=qco hs hp
 have h2:=qco hs hq
 have e1:idP s x=p:=by rw[← ex];exact qgD hs hp
 have e2:idP s y=q:=by rw[← ey];exact qgD hs hq
 unfold won
 rw[if_neg (by omega),e1,e2]
 by_cases h:ld tn td p q=true
 ·rw[if_pos (Or.inr h),if_pos h]
 ·rw[if_neg (fun k=>k.elim (fun k=>by omega) h),if_neg h]
theorem qlX {x y:Int} (hx:InF s x) (hy:InF s y):InF s (won s tn td x y):=by
 rcases qmh (s:=s) (tn:=tn) (td:=td) x y with e | e<;>rw[e]<;>assumption
include htn htd hs ht in
theorem qm2 {x y:Int} (hx:InF s x) (hy:InF s y):Fn 68 3 [.pv (iV x),.pv (iV y),.pp 1 0,.pp 2 0] [(0,0,.mrow (byV s)),(1,0,.mp 0),(2,0,.pv (iV tn)),(2,1,.pv (iV td))] (.pv (iV (won s tn td x y))) 0 []:=by
 rcases hx with rfl | ⟨p,hp,ex⟩
 ·have e:won s tn td (-1) y=y:=by unfold won;rw[if_pos (by omega)]
  rw[e]
  exact qqS (hx:=by simp)
 ·have p0:=qco hs hp
  have hx':(x==-1)=false:=by simp;omega
  rcases hy with rfl | ⟨q,hq,ey⟩
  ·have e:won s tn td x (-1)=x:=by unfold won;rw[if_neg (by omega),if_pos (Or.inl (by omega))]
   rw[e]
   exact qsg (hx:=hx') (hy:=by simp)
  ·have q0:=qco hs hq
   have hy':(y==-1)=false:=by simp;omega
   rw[qp6 hs hp hq ex ey]
   have l1:=qh0 hs hp ex false
   have l2:=qh0 hs hq ey false
   by_cases hne:p.id=q.id
   ·have hpq:p=q:=qjk hs hp hq hne
    have hf:ld tn td p q=false:=by
     subst hpq
     unfold ld
     rw[qcj]
     omega
    rw[if_neg (by rw[hf];decide)]
    have c1:=qbe (hs.ok p hp)
    have c2:=qbe (hs.ok q hq)
    exact qr9 (hx:=hx') (hy:=hy') (hp:=l1) (hq:=l2) (ha:=qnh (e4:=2) (h1:=c1) (h2:=c2) (h3:=qev htn htd ht) (h4:=qls (h:=by simpa using hne)) (he:=by decide))
   ·have ha:=qkH htn htd (hs.ok p hp) (hs.ok q hq) ht hne
    cases h:ld tn td p q
    ·rw[if_neg (by decide)]
     rw[show qbS _ _ _ _ _ _=ld tn td p q from rfl,h] at ha
     exact qr7 (hx:=hx') (hy:=hy') (hp:=l1) (hq:=l2) (ha:=ha)
    ·rw[if_pos rfl]
     rw[show qbS _ _ _ _ _ _=ld tn td p q from rfl,h] at ha
     exact qrw (hx:=hx') (hy:=hy') (hp:=l1) (hq:=l2) (ha:=ha)
theorem qoU {p:List Int} (h:KnB s p) {x:Int} (hx:x∈p):InF s x:=by
 by_cases h0:x = -1
 ·exact Or.inl h0
 ·exact Or.inr (h x hx h0)
structure Mk (s:List Pt) (tn td:Int) (p m:List Int) (k:Nat):Prop where
 len:m.length+1=p.length
 rt:∀ i,k≤i→i<m.length→(⟨p,m⟩:Br).nd i=won s tn td ((⟨p,m⟩:Br).nd (2*i+1)) ((⟨p,m⟩:Br).nd (2*i+2))
 inf:∀ i,k≤i→i≤2*m.length→InF s ((⟨p,m⟩:Br).nd i)
theorem Mk.zero {p:List Int} {n:Nat} (hn:n+1=p.length) (hk:KnB s p):Mk s tn td p (List.replicate n 0) n:=by
 have hl:(List.replicate n (0:Int)).length=n:=List.length_replicate
 refine⟨by omega,fun i h1 h2=>by omega,fun i h1 h2=>?_⟩
 rw[qaP (b:=⟨p,List.replicate n 0⟩) (by show (List.replicate n (0:Int)).length≤i;omega)]
 exact qoU hk (List.mem_of_getElem? (getD_some (by show i-(List.replicate n (0:Int)).length<p.length;omega)))
theorem Mk.next {p m:List Int} {k:Nat} (M:Mk s tn td p m (k+1)) (hk:k<m.length):Mk s tn td p (m.set k (won s tn td ((⟨p,m⟩:Br).nd (2*k+1)) ((⟨p,m⟩:Br).nd (2*k+2)))) k:=by
 have hl:(m.set k (won s tn td ((⟨p,m⟩:Br).nd (2*k+1)) ((⟨p,m⟩:Br).nd (2*k+2)))).length=m.length:=List.length_set
 have ns:∀ i,(⟨p,m.set k (won s tn td ((⟨p,m⟩:Br).nd (2*k+1)) ((⟨p,m⟩:Br).nd (2*k+2)))⟩:Br).nd i=if i=k then won s tn td ((⟨p,m⟩:Br).nd (2*k+1)) ((⟨p,m⟩:Br).nd (2*k+2)) else (⟨p,m⟩:Br).nd i:=fun i=>qlR (b:=⟨p,m⟩) hk
 refine⟨by rw[hl];exact M.len,fun i h1 h2=>?_,fun i h1 h2=>?_⟩
 ·rw[hl] at h2
  rw[ns,ns,ns,if_neg (show ¬ 2*i+1=k by omega),if_neg (show ¬ 2*i+2=k by omega)]
  by_cases e:i=k
  ·rw[if_pos e,e]
  ·rw[if_neg e];exact M.rt i (by omega) h2
 ·rw[hl] at h2
  rw[ns]
  by_cases e:i=k
  ·rw[if_pos e];exact qlX (M.inf _ (by omega) (by omega)) (M.inf _ (by omega) (by omega))
  ·rw[if_neg e];exact M.inf i (by omega) h2
theorem Mk.all {p m:List Int} (M:Mk s tn td p m 0) (n1:1≤p.length):m=(bld s tn td p).w:=by
 have:=qmu (s:=s) (tn:=tn) (td:=td) (b:=⟨p,m⟩) (b':=bld s tn td p) (fun i hi=>M.rt i (Nat.zero_le _) hi) (qim n1) rfl (by rw[qfX];show m.length=_;have:=M.len;omega)
 exact congrArg Br.w this
end
end Go.Proofs.Ytgbmdijodlfcaaa
