/-
  Joined: Qr, Qc. Conditions: none.
-/
import Derived.Test.YtgbmdijodlfcaaaW28
import Derived.Test.YtgbmdijodlfcaaaW21
import Derived.Test.YtgbmdijodlfcaaaW27
import Derived.Test.YtgbmdijodlfcaaaW25
namespace Go.Proofs.Ytgbmdijodlfcaaa
set_option maxRecDepth 100000
open Go.RowKit
theorem qk6 {l:List Int} {k:Nat} {x:Int} (hk:l[k]?=some x) (hin:0≤(k:Int)∧(k:Int)<(l.length:Int)) (hlt:decide ((k:Int)<(l.length:Int))=true) (hne:(!(x==x))=false) (hs:iV (IntKind.i64.wrap ((k:Int)+1))=iV (((k+1:Nat):Int))) {e:Exit} {tm2:TmL} {hp2:HpL}
 (r:Rl 2 2 27 0 26 2 ([(0,.ls 0 l.length),(1,.ls 1 l.length),(5,.pv (iV ((k+1:Nat):Int)))]) ([(0,0,zrI l),(1,0,zrI l)]) e tm2 hp2):Rl 2 2 27 0 26 2 ([(0,.ls 0 l.length),(1,.ls 1 l.length),(5,.pv (iV (k:Int)))]) ([(0,0,zrI l),(1,0,zrI l)]) e tm2 hp2:=
 RunsL.next [] 300 [.t true,.r (iV x),.r (iV x),.t false,Re hs]
  (Ro (Ai hlt (Ai hin (Ai (qaE hk) (Ai hin (Ai (qaE hk) (Ai hne (Ai hs tI)))))))) r
theorem qn0 {l:List Int} {k:Nat} (hge:decide ((k:Int)<(l.length:Int))=false):Rl 2 2 27 0 26 2 ([(0,.ls 0 l.length),(1,.ls 1 l.length),(5,.pv (iV (k:Int)))]) ([(0,0,zrI l),(1,0,zrI l)]) (.exit 0) ([]) ([]):=
 RunsL.stop [] 300 [.t false] (fun h=>by cases h)
  (Ro (Ai hge tI))
theorem qn3 {l:List Int} (hl:(!((l.length:Int)==(l.length:Int)))=false) (r0:Rl 2 2 27 0 26 2 ([(0,.ls 0 l.length),(1,.ls 1 l.length),(5,.pv (iV ((0:Nat):Int)))]) ([(0,0,zrI l),(1,0,zrI l)]) (.exit 0) ([]) ([])) :
 Fn 27 2 [.ls 0 l.length,.ls 1 l.length] [(0,0,zrI l),(1,0,zrI l)] (.pv (.bool true)) 0 []:=
 Fz [] [.t false,Lf r0]
  tI (Ai hl (Lo r0 [] tI))
theorem qrz {b:Br} (h1:decide ((b.p.length:Int)>70)=true) :
 Fn 20 2 [brS 0 1 b] [(0,0,zrI b.p),(1,0,zrI b.w)] (.pv (.bool true)) 0 []:=
 Fz [] [.t true]
  tI (Ai h1 tI)
theorem qq6 {b:Br} (h1:decide ((b.p.length:Int)>70)=false) (h2:decide ((b.w.length:Int)>70)=true) :
 Fn 20 2 [brS 0 1 b] [(0,0,zrI b.p),(1,0,zrI b.w)] (.pv (.bool true)) 0 []:=
 Fz [] [.t false,.t true]
  tI (Ai h1 (Ai h2 tI))
theorem qo1 {b:Br} (h1:decide ((b.p.length:Int)>70)=false) (h2:decide ((b.w.length:Int)>70)=false) :
 Fn 20 2 [brS 0 1 b] [(0,0,zrI b.p),(1,0,zrI b.w)] (.pv (.bool false)) 0 []:=
 Fz [] [.t false,.t false]
  tI (Ai h1 (Ai h2 tI))
theorem qpS {l m:List Int} {j n:Nat} {x z:Int} (h1:decide (z<(n:Int))=true) (hin:0≤z∧z<(n:Int)) (hk:m[z.toNat]?=some x) :
 Fn 52 2 [.ag [.ls 0 j,.ls 1 n],.pv (iV (z))] [(0,0,.row 3 1 j (ziV l)),(1,0,.row 3 1 n (ziV m))] (.pv (iV (x))) 0 []:=
 Fz [] [.t true,.r (iV x)]
  tI (Ai h1 (Ai hin (Ai (qb7 hk) tI)))
theorem qnj {l m:List Int} {j n:Nat} {x y z:Int} (h1:decide (z<(n:Int))=false) (hs:iV (IntKind.i64.wrap (z-(n:Int)))=iV (y)) (hin:0≤y∧y<(j:Int)) (hk:l[y.toNat]?=some x) :
 Fn 52 2 [.ag [.ls 0 j,.ls 1 n],.pv (iV (z))] [(0,0,.row 3 1 j (ziV l)),(1,0,.row 3 1 n (ziV m))] (.pv (iV (x))) 0 []:=
 Fz [] [.t false,Re hs,.r (iV x)]
  tI (Ai h1 (Ai hs (Ai hin (Ai (qb7 hk) tI))))
abbrev qqV (i:Nat) (k:Nat) (l:List Int):TmL:=[(0,.ls 0 l.length),(3,.pv (iV (i:Int))),(4,.pv (iV (k:Int)))]
theorem qnL {l:List Int} {i k:Nat} {x y:Int} (hki:decide ((k:Int)<(i:Int))=true) (hi:l[i]?=some x) (hii:0≤(i:Int)∧(i:Int)<(l.length:Int)) (hk:l[k]?=some y) (hin:0≤(k:Int)∧(k:Int)<(l.length:Int)) (h0:decide (x≥0)=false) (hs:iV (IntKind.i64.wrap ((k:Int)+1))=iV (((k+1:Nat):Int))) {e:Exit} {tm2:TmL} {hp2:HpL}
 (r:Rl 1 1 31 1 32 1 ([(0,.ls 0 l.length),(3,.pv (iV (i:Int))),(4,.pv (iV ((k+1:Nat):Int)))]) ([(0,0,zrI l)]) e tm2 hp2):Rl 1 1 31 1 32 1 (qqV i k l) ([(0,0,zrI l)]) e tm2 hp2:=
 RunsL.next [] 300 [.t true,.r (iV x),.t false,Re hs]
  (Ro (Ai hki (Ai hii (Ai (qaE hi) (Ai h0 (Ai hs tI)))))) r
theorem qm5 {l:List Int} {i k:Nat} {x y:Int} (hki:decide ((k:Int)<(i:Int))=true) (hi:l[i]?=some x) (hii:0≤(i:Int)∧(i:Int)<(l.length:Int)) (hk:l[k]?=some y) (hin:0≤(k:Int)∧(k:Int)<(l.length:Int)) (h0:decide (x≥0)=true) (he:(y==x)=false) (hs:iV (IntKind.i64.wrap ((k:Int)+1))=iV (((k+1:Nat):Int))) {e:Exit} {tm2:TmL} {hp2:HpL}
 (r:Rl 1 1 31 1 32 1 ([(0,.ls 0 l.length),(3,.pv (iV (i:Int))),(4,.pv (iV ((k+1:Nat):Int)))]) ([(0,0,zrI l)]) e tm2 hp2):Rl 1 1 31 1 32 1 (qqV i k l) ([(0,0,zrI l)]) e tm2 hp2:=
 RunsL.next [] 300 [.t true,.r (iV x),.t true,.r (iV y),.r (iV x),.t false,Re hs]
  (Ro (Ai hki (Ai hii (Ai (qaE hi) (Ai h0 (Ai hin (Ai (qaE hk) (Ai hii (Ai (qaE hi) (Ai he (Ai hs tI))))))))))) r
theorem qmZ {l:List Int} {i k:Nat} {x y:Int} (hki:decide ((k:Int)<(i:Int))=true) (hi:l[i]?=some x) (hii:0≤(i:Int)∧(i:Int)<(l.length:Int)) (hk:l[k]?=some y) (hin:0≤(k:Int)∧(k:Int)<(l.length:Int)) (h0:decide (x≥0)=true) (he:(y==x)=true):Rl 1 1 31 1 32 1 (qqV i k l) ([(0,0,zrI l)]) (.ret) ([(2,.pv (.bool true))]) ([]):=
 RunsL.stop [] 300 [.t true,.r (iV x),.t true,.r (iV y),.r (iV x),.t true] (fun h=>by cases h)
  (Ro (Ai hki (Ai hii (Ai (qaE hi) (Ai h0 (Ai hin (Ai (qaE hk) (Ai hii (Ai (qaE hi) (Ai he tI))))))))))
abbrev qpo (i:Nat) (l:List Int):TmL:=[(0,.ls 0 l.length),(3,.pv (iV (i:Int)))]
theorem qj6 {l:List Int} {i k:Nat} (hki:decide ((k:Int)<(i:Int))=false):Rl 1 1 31 1 32 1 (qqV i k l) ([(0,0,zrI l)]) (.exit 2) (qpo i l) ([(0,0,zrI l)]):=
 RunsL.stop [] 300 [.t false] (fun h=>by cases h)
  (Ro (Ai hki tI))
theorem qky {l:List Int} {i:Nat} (hlt:decide ((i:Int)<(l.length:Int))=true) (r1:Rl 1 1 31 1 32 1 ([(0,.ls 0 l.length),(3,.pv (iV (i:Int))),(4,.pv (iV ((0:Nat):Int)))]) ([(0,0,zrI l)]) (.exit 2) (qpo i l) ([(0,0,zrI l)])) (hs:iV (IntKind.i64.wrap ((i:Int)+1))=iV (((i+1:Nat):Int))) {e:Exit} {tm2:TmL} {hp2:HpL}
 (r:Rl 1 1 31 0 32 1 ([(0,.ls 0 l.length),(3,.pv (iV ((i+1:Nat):Int)))]) ([(0,0,zrI l)]) e tm2 hp2):Rl 1 1 31 0 32 1 (qpo i l) ([(0,0,zrI l)]) e tm2 hp2:=
 RunsL.next [] 300 [.t true,Lf r1,Re hs]
  (Ro (Ai hlt (Lo r1 [] (Ai hs tI)))) r
theorem qod {l:List Int} {i:Nat} (hlt:decide ((i:Int)<(l.length:Int))=true) (r1:Rl 1 1 31 1 32 1 ([(0,.ls 0 l.length),(3,.pv (iV (i:Int))),(4,.pv (iV ((0:Nat):Int)))]) ([(0,0,zrI l)]) (.ret) ([(2,.pv (.bool true))]) ([])):Rl 1 1 31 0 32 1 (qpo i l) ([(0,0,zrI l)]) (.ret) ([(2,.pv (.bool true))]) ([]):=
 RunsL.stop [] 300 [.t true,Lf r1] (fun h=>by cases h)
  (Ro (Ai hlt (Lo r1 [] tI)))
theorem qms {l:List Int} {i:Nat} (hge:decide ((i:Int)<(l.length:Int))=false):Rl 1 1 31 0 32 1 (qpo i l) ([(0,0,zrI l)]) (.exit 0) ([]) ([]):=
 RunsL.stop [] 300 [.t false] (fun h=>by cases h)
  (Ro (Ai hge tI))
theorem qou {l:List Int} (r0:Rl 1 1 31 0 32 1 ([(0,.ls 0 l.length),(3,.pv (iV ((0:Nat):Int)))]) ([(0,0,zrI l)]) (.ret) ([(2,.pv (.bool true))]) ([])) :
 Fn 31 1 [.ls 0 l.length] [(0,0,zrI l)] (.pv (.bool true)) 0 []:=
 Fz [] [Lf r0]
  tI (Lo r0 [] tI)
theorem qpz {l:List Int} (r0:Rl 1 1 31 0 32 1 ([(0,.ls 0 l.length),(3,.pv (iV ((0:Nat):Int)))]) ([(0,0,zrI l)]) (.exit 0) ([]) ([])) :
 Fn 31 1 [.ls 0 l.length] [(0,0,zrI l)] (.pv (.bool false)) 0 []:=
 Fz [] [Lf r0]
  tI (Lo r0 [] tI)
theorem qpI {b:Br} (h1:decide ((b.p.length:Int)<1)=true) :
 Fn 26 2 [brS 0 1 b] [(0,0,zrI b.p),(1,0,zrI b.w)] (.pv (iV (8))) 0 []:=
 Fz [] [.t true]
  tI (Ai h1 tI)
theorem qqi {b:Br} (h1:decide ((b.p.length:Int)<1)=false) (hh:decide ((b.p.length:Int)>64)=true) :
 Fn 26 2 [brS 0 1 b] [(0,0,zrI b.p),(1,0,zrI b.w)] (.pv (iV (8))) 0 []:=
 Fz [] [.t false,.t true]
  tI (Ai h1 (Ai hh tI))
theorem qmE {b:Br} {x:Int} (h1:decide ((b.p.length:Int)<1)=false) (hh:decide ((b.p.length:Int)>64)=false) (hs:iV (IntKind.i64.wrap ((b.p.length:Int)-1))=iV (x)) (hl:((b.w.length:Int) !=x)=true) :
 Fn 26 2 [brS 0 1 b] [(0,0,zrI b.p),(1,0,zrI b.w)] (.pv (iV (8))) 0 []:=
 Fz [] [.t false,.t false,Re hs,.t true]
  tI (Ai h1 (Ai hh (Ai hs (Ai hl tI))))
theorem qmy {b:Br} {x:Int} (h1:decide ((b.p.length:Int)<1)=false) (hh:decide ((b.p.length:Int)>64)=false) (hs:iV (IntKind.i64.wrap ((b.p.length:Int)-1))=iV (x)) (hl:((b.w.length:Int) !=x)=false) (h2:Fn 31 1 [.ls 0 b.p.length] [(0,0,zrI b.p)] (.pv (.bool true)) 0 []) :
 Fn 26 2 [brS 0 1 b] [(0,0,zrI b.p),(1,0,zrI b.w)] (.pv (iV (8))) 0 []:=
 Fz [] [.t false,.t false,Re hs,.t false,Cf h2 [0]]
  tI (Ai h1 (Ai hh (Ai hs (Ai hl (Co h2 [0] 3 tI)))))
theorem qrA {b:Br} {k:Nat} {x:Int} (hk:b.p[k]?=some x) (hin:0≤(k:Int)∧(k:Int)<(b.p.length:Int)) (hlt:decide ((k:Int)<(b.p.length:Int))=true) (hlo:decide (x<(-1))=false) (hhi:decide (x>65535)=false) (hs:iV (IntKind.i64.wrap ((k:Int)+1))=iV (((k+1:Nat):Int))) {e:Exit} {tm2:TmL} {hp2:HpL}
 (r:Rl 2 2 26 0 98 3 ([(1,.pp 2 0),(3,.pv (iV (b.p.length:Int))),(4,.pv (iV ((k+1:Nat):Int)))]) ([(2,0,.ls 0 b.p.length),(2,1,.ls 1 b.w.length),(0,0,zrI b.p),(1,0,zrI b.w)]) e tm2 hp2):Rl 2 2 26 0 98 3 ([(1,.pp 2 0),(3,.pv (iV (b.p.length:Int))),(4,.pv (iV (k:Int)))]) ([(2,0,.ls 0 b.p.length),(2,1,.ls 1 b.w.length),(0,0,zrI b.p),(1,0,zrI b.w)]) e tm2 hp2:=
 RunsL.next [] 300 [.t true,.r (iV x),.t false,.r (iV x),.t false,Re hs]
  (Ro (Ai hlt (Ai hin (Ai (qaE hk) (Ai hlo (Ai hin (Ai (qaE hk) (Ai hhi (Ai hs tI))))))))) r
theorem qnc {b:Br} {k:Nat} {x:Int} (hk:b.p[k]?=some x) (hin:0≤(k:Int)∧(k:Int)<(b.p.length:Int)) (hlt:decide ((k:Int)<(b.p.length:Int))=true) (hlo:decide (x<(-1))=true):Rl 2 2 26 0 98 3 ([(1,.pp 2 0),(3,.pv (iV (b.p.length:Int))),(4,.pv (iV (k:Int)))]) ([(2,0,.ls 0 b.p.length),(2,1,.ls 1 b.w.length),(0,0,zrI b.p),(1,0,zrI b.w)]) (.ret) ([(2,.pv (iV 8))]) ([]):=
 RunsL.stop [] 300 [.t true,.r (iV x),.t true] (fun h=>by cases h)
  (Ro (Ai hlt (Ai hin (Ai (qaE hk) (Ai hlo tI)))))
theorem qol {b:Br} {k:Nat} {x:Int} (hk:b.p[k]?=some x) (hin:0≤(k:Int)∧(k:Int)<(b.p.length:Int)) (hlt:decide ((k:Int)<(b.p.length:Int))=true) (hlo:decide (x<(-1))=false) (hhi:decide (x>65535)=true):Rl 2 2 26 0 98 3 ([(1,.pp 2 0),(3,.pv (iV (b.p.length:Int))),(4,.pv (iV (k:Int)))]) ([(2,0,.ls 0 b.p.length),(2,1,.ls 1 b.w.length),(0,0,zrI b.p),(1,0,zrI b.w)]) (.ret) ([(2,.pv (iV 8))]) ([]):=
 RunsL.stop [] 300 [.t true,.r (iV x),.t false,.r (iV x),.t true] (fun h=>by cases h)
  (Ro (Ai hlt (Ai hin (Ai (qaE hk) (Ai hlo (Ai hin (Ai (qaE hk) (Ai hhi tI))))))))
theorem qj2 {b:Br} {k:Nat} (hge:decide ((k:Int)<(b.p.length:Int))=false):Rl 2 2 26 0 98 3 ([(1,.pp 2 0),(3,.pv (iV (b.p.length:Int))),(4,.pv (iV (k:Int)))]) ([(2,0,.ls 0 b.p.length),(2,1,.ls 1 b.w.length),(0,0,zrI b.p),(1,0,zrI b.w)]) (.exit 0) ([(1,.pp 2 0)]) ([(2,0,.ls 0 b.p.length),(2,1,.ls 1 b.w.length),(0,0,zrI b.p),(1,0,zrI b.w)]):=
 RunsL.stop [] 300 [.t false] (fun h=>by cases h)
  (Ro (Ai hge tI))
abbrev qnN (k:Nat):TmL:=[(1,.pp 2 0),(5,.pv (iV (k:Int)))]
theorem qpb {b:Br} {k:Nat} {x y z v e1 e2:Int} (hk:b.w[k]?=some v) (hin:0≤(k:Int)∧(k:Int)<(b.w.length:Int)) (hlt:decide ((k:Int)<(b.w.length:Int))=true) (hm:iV (IntKind.i64.wrap (2*(k:Int)))=iV (z)) (ha:iV (IntKind.i64.wrap (z+1))=iV (e1)) (hx:Fn 52 2 [.ag [.ls 0 b.p.length,.ls 1 b.w.length],.pv (iV (e1))] [(0,0,.row 3 1 b.p.length (ziV b.p)),(1,0,.row 3 1 b.w.length (ziV b.w))] (.pv (iV (x))) 0 []) (hb:iV (IntKind.i64.wrap (z+2))=iV (e2)) (hy:Fn 52 2 [.ag [.ls 0 b.p.length,.ls 1 b.w.length],.pv (iV (e2))] [(0,0,.row 3 1 b.p.length (ziV b.p)),(1,0,.row 3 1 b.w.length (ziV b.w))] (.pv (iV (y))) 0 []) (q1:(v !=x)=false) (q3:(v==(-1))=false) (hs:iV (IntKind.i64.wrap ((k:Int)+1))=iV (((k+1:Nat):Int))) {e:Exit} {tm2:TmL} {hp2:HpL}
 (r:Rl 2 2 26 1 98 3 ([(1,.pp 2 0),(5,.pv (iV ((k+1:Nat):Int)))]) ([(2,0,.ls 0 b.p.length),(2,1,.ls 1 b.w.length),(0,0,zrI b.p),(1,0,zrI b.w)]) e tm2 hp2):Rl 2 2 26 1 98 3 (qnN k) ([(2,0,.ls 0 b.p.length),(2,1,.ls 1 b.w.length),(0,0,zrI b.p),(1,0,zrI b.w)]) e tm2 hp2:=
 RunsL.next [] 300 [.t true,Re hm,Re ha,Cf hx [0,1],Re hm,Re hb,Cf hy [0,1],.r (iV v),.t false,.r (iV v),.t false,Re hs]
  (Ro (Ai hlt (Ai hm (Ai ha (Co hx [0,1] 3 (Ai hm (Ai hb (Co hy [0,1] 3 (Ai hin (Ai (qaE hk) (Ai q1 (Ai hin (Ai (qaE hk) (Ai q3 (Ai hs tI))))))))))))))) r
theorem qoV {b:Br} {k:Nat} {x y z v e1 e2:Int} (hk:b.w[k]?=some v) (hin:0≤(k:Int)∧(k:Int)<(b.w.length:Int)) (hlt:decide ((k:Int)<(b.w.length:Int))=true) (hm:iV (IntKind.i64.wrap (2*(k:Int)))=iV (z)) (ha:iV (IntKind.i64.wrap (z+1))=iV (e1)) (hx:Fn 52 2 [.ag [.ls 0 b.p.length,.ls 1 b.w.length],.pv (iV (e1))] [(0,0,.row 3 1 b.p.length (ziV b.p)),(1,0,.row 3 1 b.w.length (ziV b.w))] (.pv (iV (x))) 0 []) (hb:iV (IntKind.i64.wrap (z+2))=iV (e2)) (hy:Fn 52 2 [.ag [.ls 0 b.p.length,.ls 1 b.w.length],.pv (iV (e2))] [(0,0,.row 3 1 b.p.length (ziV b.p)),(1,0,.row 3 1 b.w.length (ziV b.w))] (.pv (iV (y))) 0 []) (q1:(v !=x)=false) (q3:(v==(-1))=true) (q5:(x !=(-1))=false) (q6:(y !=(-1))=false) (hs:iV (IntKind.i64.wrap ((k:Int)+1))=iV (((k+1:Nat):Int))) {e:Exit} {tm2:TmL} {hp2:HpL}
 (r:Rl 2 2 26 1 98 3 ([(1,.pp 2 0),(5,.pv (iV ((k+1:Nat):Int)))]) ([(2,0,.ls 0 b.p.length),(2,1,.ls 1 b.w.length),(0,0,zrI b.p),(1,0,zrI b.w)]) e tm2 hp2):Rl 2 2 26 1 98 3 (qnN k) ([(2,0,.ls 0 b.p.length),(2,1,.ls 1 b.w.length),(0,0,zrI b.p),(1,0,zrI b.w)]) e tm2 hp2:=
 RunsL.next [] 300 [.t true,Re hm,Re ha,Cf hx [0,1],Re hm,Re hb,Cf hy [0,1],.r (iV v),.t false,.r (iV v),.t true,.t false,.t false,Re hs]
  (Ro (Ai hlt (Ai hm (Ai ha (Co hx [0,1] 3 (Ai hm (Ai hb (Co hy [0,1] 3 (Ai hin (Ai (qaE hk) (Ai q1 (Ai hin (Ai (qaE hk) (Ai q3 (Ai q5 (Ai q6 (Ai hs tI))))))))))))))))) r
theorem qqB {b:Br} {k:Nat} {x y z v e1 e2:Int} (hk:b.w[k]?=some v) (hin:0≤(k:Int)∧(k:Int)<(b.w.length:Int)) (hlt:decide ((k:Int)<(b.w.length:Int))=true) (hm:iV (IntKind.i64.wrap (2*(k:Int)))=iV (z)) (ha:iV (IntKind.i64.wrap (z+1))=iV (e1)) (hx:Fn 52 2 [.ag [.ls 0 b.p.length,.ls 1 b.w.length],.pv (iV (e1))] [(0,0,.row 3 1 b.p.length (ziV b.p)),(1,0,.row 3 1 b.w.length (ziV b.w))] (.pv (iV (x))) 0 []) (hb:iV (IntKind.i64.wrap (z+2))=iV (e2)) (hy:Fn 52 2 [.ag [.ls 0 b.p.length,.ls 1 b.w.length],.pv (iV (e2))] [(0,0,.row 3 1 b.p.length (ziV b.p)),(1,0,.row 3 1 b.w.length (ziV b.w))] (.pv (iV (y))) 0 []) (q1:(v !=x)=true) (q2:(v !=y)=false) (q3:(v==(-1))=false) (hs:iV (IntKind.i64.wrap ((k:Int)+1))=iV (((k+1:Nat):Int))) {e:Exit} {tm2:TmL} {hp2:HpL}
 (r:Rl 2 2 26 1 98 3 ([(1,.pp 2 0),(5,.pv (iV ((k+1:Nat):Int)))]) ([(2,0,.ls 0 b.p.length),(2,1,.ls 1 b.w.length),(0,0,zrI b.p),(1,0,zrI b.w)]) e tm2 hp2):Rl 2 2 26 1 98 3 (qnN k) ([(2,0,.ls 0 b.p.length),(2,1,.ls 1 b.w.length),(0,0,zrI b.p),(1,0,zrI b.w)]) e tm2 hp2:=
 RunsL.next [] 300 [.t true,Re hm,Re ha,Cf hx [0,1],Re hm,Re hb,Cf hy [0,1],.r (iV v),.t true,.r (iV v),.t false,.r (iV v),.t false,Re hs]
  (Ro (Ai hlt (Ai hm (Ai ha (Co hx [0,1] 3 (Ai hm (Ai hb (Co hy [0,1] 3 (Ai hin (Ai (qaE hk) (Ai q1 (Ai hin (Ai (qaE hk) (Ai q2 (Ai hin (Ai (qaE hk) (Ai q3 (Ai hs tI)))))))))))))))))) r
theorem qoU {b:Br} {k:Nat} {x y z v e1 e2:Int} (hk:b.w[k]?=some v) (hin:0≤(k:Int)∧(k:Int)<(b.w.length:Int)) (hlt:decide ((k:Int)<(b.w.length:Int))=true) (hm:iV (IntKind.i64.wrap (2*(k:Int)))=iV (z)) (ha:iV (IntKind.i64.wrap (z+1))=iV (e1)) (hx:Fn 52 2 [.ag [.ls 0 b.p.length,.ls 1 b.w.length],.pv (iV (e1))] [(0,0,.row 3 1 b.p.length (ziV b.p)),(1,0,.row 3 1 b.w.length (ziV b.w))] (.pv (iV (x))) 0 []) (hb:iV (IntKind.i64.wrap (z+2))=iV (e2)) (hy:Fn 52 2 [.ag [.ls 0 b.p.length,.ls 1 b.w.length],.pv (iV (e2))] [(0,0,.row 3 1 b.p.length (ziV b.p)),(1,0,.row 3 1 b.w.length (ziV b.w))] (.pv (iV (y))) 0 []) (q1:(v !=x)=true) (q2:(v !=y)=true):Rl 2 2 26 1 98 3 (qnN k) ([(2,0,.ls 0 b.p.length),(2,1,.ls 1 b.w.length),(0,0,zrI b.p),(1,0,zrI b.w)]) (.ret) ([(2,.pv (iV 8))]) ([]):=
 RunsL.stop [] 300 [.t true,Re hm,Re ha,Cf hx [0,1],Re hm,Re hb,Cf hy [0,1],.r (iV v),.t true,.r (iV v),.t true] (fun h=>by cases h)
  (Ro (Ai hlt (Ai hm (Ai ha (Co hx [0,1] 3 (Ai hm (Ai hb (Co hy [0,1] 3 (Ai hin (Ai (qaE hk) (Ai q1 (Ai hin (Ai (qaE hk) (Ai q2 tI))))))))))))))
theorem qqr {b:Br} {k:Nat} {x y z v e1 e2:Int} (hk:b.w[k]?=some v) (hin:0≤(k:Int)∧(k:Int)<(b.w.length:Int)) (hlt:decide ((k:Int)<(b.w.length:Int))=true) (hm:iV (IntKind.i64.wrap (2*(k:Int)))=iV (z)) (ha:iV (IntKind.i64.wrap (z+1))=iV (e1)) (hx:Fn 52 2 [.ag [.ls 0 b.p.length,.ls 1 b.w.length],.pv (iV (e1))] [(0,0,.row 3 1 b.p.length (ziV b.p)),(1,0,.row 3 1 b.w.length (ziV b.w))] (.pv (iV (x))) 0 []) (hb:iV (IntKind.i64.wrap (z+2))=iV (e2)) (hy:Fn 52 2 [.ag [.ls 0 b.p.length,.ls 1 b.w.length],.pv (iV (e2))] [(0,0,.row 3 1 b.p.length (ziV b.p)),(1,0,.row 3 1 b.w.length (ziV b.w))] (.pv (iV (y))) 0 []) (q1:(v !=x)=false) (q3:(v==(-1))=true) (q5:(x !=(-1))=false) (q6:(y !=(-1))=true):Rl 2 2 26 1 98 3 (qnN k) ([(2,0,.ls 0 b.p.length),(2,1,.ls 1 b.w.length),(0,0,zrI b.p),(1,0,zrI b.w)]) (.ret) ([(2,.pv (iV 8))]) ([]):=
 RunsL.stop [] 300 [.t true,Re hm,Re ha,Cf hx [0,1],Re hm,Re hb,Cf hy [0,1],.r (iV v),.t false,.r (iV v),.t true,.t false,.t true] (fun h=>by cases h)
  (Ro (Ai hlt (Ai hm (Ai ha (Co hx [0,1] 3 (Ai hm (Ai hb (Co hy [0,1] 3 (Ai hin (Ai (qaE hk) (Ai q1 (Ai hin (Ai (qaE hk) (Ai q3 (Ai q5 (Ai q6 tI))))))))))))))))
theorem qpE {b:Br} {k:Nat} {x y z v e1 e2:Int} (hk:b.w[k]?=some v) (hin:0≤(k:Int)∧(k:Int)<(b.w.length:Int)) (hlt:decide ((k:Int)<(b.w.length:Int))=true) (hm:iV (IntKind.i64.wrap (2*(k:Int)))=iV (z)) (ha:iV (IntKind.i64.wrap (z+1))=iV (e1)) (hx:Fn 52 2 [.ag [.ls 0 b.p.length,.ls 1 b.w.length],.pv (iV (e1))] [(0,0,.row 3 1 b.p.length (ziV b.p)),(1,0,.row 3 1 b.w.length (ziV b.w))] (.pv (iV (x))) 0 []) (hb:iV (IntKind.i64.wrap (z+2))=iV (e2)) (hy:Fn 52 2 [.ag [.ls 0 b.p.length,.ls 1 b.w.length],.pv (iV (e2))] [(0,0,.row 3 1 b.p.length (ziV b.p)),(1,0,.row 3 1 b.w.length (ziV b.w))] (.pv (iV (y))) 0 []) (q1:(v !=x)=true) (q2:(v !=y)=false) (q3:(v==(-1))=true) (q5:(x !=(-1))=true):Rl 2 2 26 1 98 3 (qnN k) ([(2,0,.ls 0 b.p.length),(2,1,.ls 1 b.w.length),(0,0,zrI b.p),(1,0,zrI b.w)]) (.ret) ([(2,.pv (iV 8))]) ([]):=
 RunsL.stop [] 300 [.t true,Re hm,Re ha,Cf hx [0,1],Re hm,Re hb,Cf hy [0,1],.r (iV v),.t true,.r (iV v),.t false,.r (iV v),.t true,.t true] (fun h=>by cases h)
  (Ro (Ai hlt (Ai hm (Ai ha (Co hx [0,1] 3 (Ai hm (Ai hb (Co hy [0,1] 3 (Ai hin (Ai (qaE hk) (Ai q1 (Ai hin (Ai (qaE hk) (Ai q2 (Ai hin (Ai (qaE hk) (Ai q3 (Ai q5 tI))))))))))))))))))
theorem qlj {b:Br} {k:Nat} (hge:decide ((k:Int)<(b.w.length:Int))=false):Rl 2 2 26 1 98 3 (qnN k) ([(2,0,.ls 0 b.p.length),(2,1,.ls 1 b.w.length),(0,0,zrI b.p),(1,0,zrI b.w)]) (.exit 2) ([]) ([]):=
 RunsL.stop [] 300 [.t false] (fun h=>by cases h)
  (Ro (Ai hge tI))
theorem qsa {b:Br} {x:Int} (h1:decide ((b.p.length:Int)<1)=false) (hh:decide ((b.p.length:Int)>64)=false) (hs:iV (IntKind.i64.wrap ((b.p.length:Int)-1))=iV (x)) (hl:((b.w.length:Int) !=x)=false) (h2:Fn 31 1 [.ls 0 b.p.length] [(0,0,zrI b.p)] (.pv (.bool false)) 0 []) (r0:Rl 2 2 26 0 98 3 ([(1,.pp 2 0),(3,.pv (iV (b.p.length:Int))),(4,.pv (iV ((0:Nat):Int)))]) ([(2,0,.ls 0 b.p.length),(2,1,.ls 1 b.w.length),(0,0,zrI b.p),(1,0,zrI b.w)]) (.ret) ([(2,.pv (iV 8))]) ([])) :
 Fn 26 2 [brS 0 1 b] [(0,0,zrI b.p),(1,0,zrI b.w)] (.pv (iV (8))) 0 []:=
 Fz [] [.t false,.t false,Re hs,.t false,Cf h2 [0],Lf r0]
  tI (Ai h1 (Ai hh (Ai hs (Ai hl (Co h2 [0] 3 (Lo r0 [] tI))))))
theorem qsm {b:Br} {x:Int} (h1:decide ((b.p.length:Int)<1)=false) (hh:decide ((b.p.length:Int)>64)=false) (hs:iV (IntKind.i64.wrap ((b.p.length:Int)-1))=iV (x)) (hl:((b.w.length:Int) !=x)=false) (h2:Fn 31 1 [.ls 0 b.p.length] [(0,0,zrI b.p)] (.pv (.bool false)) 0 []) (r0:Rl 2 2 26 0 98 3 ([(1,.pp 2 0),(3,.pv (iV (b.p.length:Int))),(4,.pv (iV ((0:Nat):Int)))]) ([(2,0,.ls 0 b.p.length),(2,1,.ls 1 b.w.length),(0,0,zrI b.p),(1,0,zrI b.w)]) (.exit 0) ([(1,.pp 2 0)]) ([(2,0,.ls 0 b.p.length),(2,1,.ls 1 b.w.length),(0,0,zrI b.p),(1,0,zrI b.w)])) (r1:Rl 2 2 26 1 98 3 ([(1,.pp 2 0),(5,.pv (iV ((0:Nat):Int)))]) ([(2,0,.ls 0 b.p.length),(2,1,.ls 1 b.w.length),(0,0,zrI b.p),(1,0,zrI b.w)]) (.ret) ([(2,.pv (iV 8))]) ([])) :
 Fn 26 2 [brS 0 1 b] [(0,0,zrI b.p),(1,0,zrI b.w)] (.pv (iV (8))) 0 []:=
 Fz [] [.t false,.t false,Re hs,.t false,Cf h2 [0],Lf r0,Lf r1]
  tI (Ai h1 (Ai hh (Ai hs (Ai hl (Co h2 [0] 3 (Lo r0 [] (Lo r1 [] tI)))))))
theorem qpf {b:Br} {x:Int} (h1:decide ((b.p.length:Int)<1)=false) (hh:decide ((b.p.length:Int)>64)=false) (hs:iV (IntKind.i64.wrap ((b.p.length:Int)-1))=iV (x)) (hl:((b.w.length:Int) !=x)=false) (h2:Fn 31 1 [.ls 0 b.p.length] [(0,0,zrI b.p)] (.pv (.bool false)) 0 []) (r0:Rl 2 2 26 0 98 3 ([(1,.pp 2 0),(3,.pv (iV (b.p.length:Int))),(4,.pv (iV ((0:Nat):Int)))]) ([(2,0,.ls 0 b.p.length),(2,1,.ls 1 b.w.length),(0,0,zrI b.p),(1,0,zrI b.w)]) (.exit 0) ([(1,.pp 2 0)]) ([(2,0,.ls 0 b.p.length),(2,1,.ls 1 b.w.length),(0,0,zrI b.p),(1,0,zrI b.w)])) (r1:Rl 2 2 26 1 98 3 ([(1,.pp 2 0),(5,.pv (iV ((0:Nat):Int)))]) ([(2,0,.ls 0 b.p.length),(2,1,.ls 1 b.w.length),(0,0,zrI b.p),(1,0,zrI b.w)]) (.exit 2) ([]) ([])) :
 Fn 26 2 [brS 0 1 b] [(0,0,zrI b.p),(1,0,zrI b.w)] (.pv (iV (0))) 0 []:=
 Fz [] [.t false,.t false,Re hs,.t false,Cf h2 [0],Lf r0,Lf r1]
  tI (Ai h1 (Ai hh (Ai hs (Ai hl (Co h2 [0] 3 (Lo r0 [] (Lo r1 [] tI)))))))
abbrev qlO (l:List Int) (s:List Pt):HpL:=[(2,0,.ls 0 s.length),(0,0,qal s),(1,0,zrI l)]
abbrev qqK (k:Nat) (l:List Int):TmL:=[(1,.ls 1 l.length),(2,.pp 2 0),(5,.pv (iV (k:Int)))]
theorem qj0 {l:List Int} {s:List Pt} {k:Nat} {x:Int} (hk:l[k]?=some x) (hin:0≤(k:Int)∧(k:Int)<(l.length:Int)) (hlt:decide ((k:Int)<(l.length:Int))=true) (hx:(x !=(-1))=false) (hs:iV (IntKind.i64.wrap ((k:Int)+1))=iV (((k+1:Nat):Int))) {e:Exit} {tm2:TmL} {hp2:HpL}
 (r:Rl 2 2 30 0 26 3 ([(1,.ls 1 l.length),(2,.pp 2 0),(5,.pv (iV ((k+1:Nat):Int)))]) (qlO l s) e tm2 hp2):Rl 2 2 30 0 26 3 (qqK k l) (qlO l s) e tm2 hp2:=
 RunsL.next [] 300 [.t true,.r (iV x),.t false,Re hs]
  (Ro (Ai hlt (Ai hin (Ai (qaE hk) (Ai hx (Ai hs tI)))))) r
theorem qkE {l:List Int} {s:List Pt} {k:Nat} {x v:Int} (hk:l[k]?=some x) (hin:0≤(k:Int)∧(k:Int)<(l.length:Int)) (hlt:decide ((k:Int)<(l.length:Int))=true) (hx:(x !=(-1))=true) (ha:Fn 58 1 [qaz 0 s,.pv (iV (x))] [(0,0,qal s)] (.pv (iV (v))) 0 []) (hv:decide (v<0)=false) (hs:iV (IntKind.i64.wrap ((k:Int)+1))=iV (((k+1:Nat):Int))) {e:Exit} {tm2:TmL} {hp2:HpL}
 (r:Rl 2 2 30 0 26 3 ([(1,.ls 1 l.length),(2,.pp 2 0),(5,.pv (iV ((k+1:Nat):Int)))]) (qlO l s) e tm2 hp2):Rl 2 2 30 0 26 3 (qqK k l) (qlO l s) e tm2 hp2:=
 RunsL.next [] 300 [.t true,.r (iV x),.t true,.r (iV x),Cf ha [0],.t false,Re hs]
  (Ro (Ai hlt (Ai hin (Ai (qaE hk) (Ai hx (Ai hin (Ai (qaE hk) (Co ha [0] 3 (Ai hv (Ai hs tI)))))))))) r
theorem qk1 {l:List Int} {s:List Pt} {k:Nat} {x v:Int} (hk:l[k]?=some x) (hin:0≤(k:Int)∧(k:Int)<(l.length:Int)) (hlt:decide ((k:Int)<(l.length:Int))=true) (hx:(x !=(-1))=true) (ha:Fn 58 1 [qaz 0 s,.pv (iV (x))] [(0,0,qal s)] (.pv (iV (v))) 0 []) (hv:decide (v<0)=true):Rl 2 2 30 0 26 3 (qqK k l) (qlO l s) (.ret) ([(4,.pv (.bool false))]) ([]):=
 RunsL.stop [] 300 [.t true,.r (iV x),.t true,.r (iV x),Cf ha [0],.t true] (fun h=>by cases h)
  (Ro (Ai hlt (Ai hin (Ai (qaE hk) (Ai hx (Ai hin (Ai (qaE hk) (Co ha [0] 3 (Ai hv tI)))))))))
theorem qmN {l:List Int} {s:List Pt} {k:Nat} (hge:decide ((k:Int)<(l.length:Int))=false):Rl 2 2 30 0 26 3 (qqK k l) (qlO l s) (.exit 0) ([]) ([]):=
 RunsL.stop [] 300 [.t false] (fun h=>by cases h)
  (Ro (Ai hge tI))
theorem qpQ {l:List Int} {s:List Pt} (r0:Rl 2 2 30 0 26 3 ([(1,.ls 1 l.length),(2,.pp 2 0),(5,.pv (iV ((0:Nat):Int)))]) (qlO l s) (.ret) ([(4,.pv (.bool false))]) ([])) :
 Fn 30 2 [qaz 0 s,.ls 1 l.length] [(0,0,qal s),(1,0,zrI l)] (.pv (.bool false)) 0 []:=
 Fz [] [Lf r0]
  tI (Lo r0 [] tI)
theorem qm9 {l:List Int} {s:List Pt} (r0:Rl 2 2 30 0 26 3 ([(1,.ls 1 l.length),(2,.pp 2 0),(5,.pv (iV ((0:Nat):Int)))]) (qlO l s) (.exit 0) ([]) ([])) :
 Fn 30 2 [qaz 0 s,.ls 1 l.length] [(0,0,qal s),(1,0,zrI l)] (.pv (.bool true)) 0 []:=
 Fz [] [Lf r0]
  tI (Lo r0 [] tI)
end Go.Proofs.Ytgbmdijodlfcaaa

namespace Go.Proofs.Ytgbmdijodlfcaaa
set_option maxRecDepth 100000
open Go.RowKit
noncomputable def pB (p:Prop):Bool:=open Classical in decide p
open Classical in
theorem qeX {p:Prop} (h:p):pB p=true:=by unfold pB;exact decide_eq_true h
open Classical in
theorem qe0 {p:Prop} (h:¬ p):pB p=false:=by unfold pB;exact decide_eq_false h
theorem qeW (a:Int):MapK Try.prog 118 3 4 (iV a) (fun x=>∃ b,x=iV b) (.bool false):=
 qjA (by kernel_rfl) Try.underlying3 (fun w=>qdb (by kernel_rfl) w) a
theorem qll (m:List Int):∀ p∈qoK m,∃ b,p.1=iV b:=fun p hp=>by
 obtain⟨q,_,rfl⟩:=List.mem_map.1 hp
 exact⟨q,rfl⟩
theorem qlM {m:List Int} {x:Int} (h:x∉m):qaQ Try.prog 118 (qdd m) (.int .i64 x) false (.bool false):=
 qjU (qeW x) (qll m) (fun q hq e=>by
  obtain⟨r,hr,rfl⟩:=List.mem_map.1 hq
  exact h (qdx e▸hr)) false
theorem qmL {m:List Int} {x:Int} (h:x∈m):qaQ Try.prog 118 (qdd m) (iV x) false (.bool true):=
 qgw (v:=.bool true) (qeW x) (qll m) (List.mem_map.2 ⟨x,h,rfl⟩) (fun r hr _=>by
  obtain⟨s,_,rfl⟩:=List.mem_map.1 hr
  rfl) false
theorem qeI {m:List Int} {x:Int} (h:x∉m):qdO Try.prog 118 (qdd m) (.int .i64 x) (.bool true) (qdd (m++[x])):=by
 have:=qim (qeW x) (qll m) (fun q hq e=>by
  obtain⟨r,hr,rfl⟩:=List.mem_map.1 hq
  exact h (qdx e▸hr)) (.bool true)
 show qdO _ _ _ _ _ (kvL (qoK (m++[x])))
 rw[show qoK (m++[x])=qoK m++[(.int .i64 x,.bool true)] by simp[qoK]]
 exact this
theorem ql1 {q:IntKind} {a:Int}:∀ (l:List MapEntry) (i:Nat),(∀ x∈l,∃ b,x.key=.int q b)→(∃ x∈l,x.key=.int q a)→∃ j e,l[j]?=some e∧e.key=.int q a∧Instr.findNow (.int q) (.int q a) l i=some (some (i+j,e.val))
 | [],_,_,h=>by obtain⟨x,hx,_⟩:=h;cases hx
 | x::r,i,h,hex=>by
  obtain⟨b,hb⟩:=h x (by simp)
  by_cases hab:a=b
  ·subst hab
   exact⟨0,x,rfl,hb,by simp[Instr.findNow,hb,Instr.sameNow]⟩
  ·have hf:(a==b)=false:=by simpa using hab
   obtain⟨y,hy,hya⟩:=hex
   have hyr:y∈r:=by
    rcases List.mem_cons.1 hy with rfl | hy
    ·rw[hb] at hya;injection hya with _ e;exact (hab e.symm).elim
    ·exact hy
   obtain⟨j,e,h1,h2,h3⟩:=ql1 (q:=q) (a:=a) r (i+1) (fun y hy=>h y (by simp[hy])) ⟨y,hyr,hya⟩
   exact⟨j+1,e,by simpa using h1,h2,by simp[Instr.findNow,hb,Instr.sameNow,hf,h3];omega⟩
theorem qiv {m:List Int} {x:Int} (h:x∈m):qdO Try.prog 118 (qdd m) (iV x) (.bool true) (qdd m):=by
 intro w r ⟨en,clock,hb,hx⟩
 have M:=qeW x
 have hin:=qdz (K:=fun x=>∃ b,x=iV b) hx (qll m)
 obtain⟨y,hy,hyk⟩:=ql8 hx (p:=(iV x,.bool true)) (List.mem_map.2 ⟨x,h,rfl⟩)
 obtain⟨j,e,h1,h2,h3⟩:=ql1 (q:=.i64) (a:=x) en.toList 0 (fun z hz=>(hin z hz).1) ⟨y,hy,hyk⟩
 have hv:e.val=.bool true:=by
  obtain⟨z,_,hz⟩:=List.mem_map.1 (hin e (List.mem_of_getElem? h1)).2
  injection hz with _ hz
  exact hz.symm
 have hf:(Instr.findKey 3 (iV x) en.toList).run Try.prog w=.ok (some (0+j,e.val)) w:=MapKept.run_findKey Try.underlying3 h3
 rw[Nat.zero_add] at hf
 have hj:en[j]?=some e:=by rw[← Array.getElem?_toList];exact h1
 have hm:en.modify j (fun e=>{ e with key:=iV x,val:=.bool true })=en:=by
  apply Array.ext (by simp)
  intro i hi hi'
  rw[Array.getElem_modify]
  split
  ·rename_i e1
   subst e1
   have:en[j]=e:=by
    have:=Array.getElem?_eq_getElem hi'
    rw[hj] at this
    exact (Option.some.inj this).symm
   have e3:∀ k v,e.key=k→e.val=v→({ e with key:=k,val:=v })=e:=fun k v a c=>by rw[← a,← c]
   rw[this]
   exact e3 _ _ h2 hv
  ·rfl
 have hs:(Instr.keyThatStays (iV x) (iV x)).run Try.prog w=.ok (iV x) w:=by
  simp[Instr.keyThatStays,Instr.sameBits]
 refine⟨en,clock,?_,hx⟩
 simp[Instr.mapUpdate,run_underlying M.ty,MapKept.run_getObj_map hb,M.ck,hf,hj,h2,hs,hm,MapKept.run_setObj_map _ hb,Result.andThen]
def OneN (l:List Int):Prop:=∀ (i k:Nat) (x:Int),l[i]?=some x→l[k]?=some x→x≠-1→i=k
theorem OneN.b {l:List Int} (h:OneN l):OneB l:=fun i k x hi hk h0=>h i k x hi hk (by omega)
theorem OneB.n {l:List Int} (h:OneB l) (hr:∀ x∈l,-1≤x):OneN l:=fun i k x hi hk h0=>h i k x hi hk (by have:=hr x (List.mem_of_getElem? hi);omega)
theorem qgd {l:List Int} (hn:l.length≤1000000):∀ (d k:Nat) (m:List Int),k+d=l.length→(∀ x,x∈m↔x∈l.take k)→(∀ (i j:Nat) (x:Int),i<k→j<k→l[i]?=some x→l[j]?=some x→x≠-1→i=j)→
 (OneN l∧RunsL Try.prog 1 1 (qgW Try.prog 66 0) 25 2 [(3,.mp 1),(9,.ls 0 l.length),(10,.pv (.int .i64 (l.length:Int))),(11,.pv (.int .i64 (k:Int)))] [(1,0,.mrow (qdd m)),(0,0,zrI l)] (.exit 0) [] [])∨
 (¬ OneN l∧RunsL Try.prog 1 1 (qgW Try.prog 66 0) 25 2 [(3,.mp 1),(9,.ls 0 l.length),(10,.pv (.int .i64 (l.length:Int))),(11,.pv (.int .i64 (k:Int)))] [(1,0,.mrow (qdd m)),(0,0,zrI l)] .ret [(2,.pv (.bool true))] [])
 | 0,k,m,hd,_,h1=>Or.inl ⟨fun i j x hi hj h0=>h1 i j x (by have:=qaq hi;omega) (by have:=qaq hj;omega) hi hj h0,qmM (hge:=df (by omega))⟩
 | d+1,k,m,hd,hm,h1=>by
  obtain⟨x,hx⟩:=qaj (l:=l) (k:=k) (by omega)
  have hk:=qaq hx
  have hs:=qdv hx
  have up:(x≠-1→x∉m)→(∀ (i j:Nat) (y:Int),i<k+1→j<k+1→l[i]?=some y→l[j]?=some y→y≠-1→i=j):=fun hno i j y hi hj e1 e2 h0=>by
   rcases Nat.lt_or_ge i k with a | a<;>rcases Nat.lt_or_ge j k with c | c
   ·exact h1 i j y a c e1 e2 h0
   ·have:j=k:=by omega
    subst this
    rw[hx] at e2;cases e2
    exact (hno h0 ((hm x).2 (List.mem_of_getElem? (i:=i) (by rw[List.getElem?_take,if_pos a];exact e1)))).elim
   ·have:i=k:=by omega
    subst this
    rw[hx] at e1;cases e1
    exact (hno h0 ((hm x).2 (List.mem_of_getElem? (i:=j) (by rw[List.getElem?_take,if_pos c];exact e2)))).elim
   ·omega
  by_cases hin:x∈m
  ·by_cases h0:x = -1
   ·have ih:=qgd hn d (k+1) m (by omega) (fun y=>by rw[hs,List.mem_append,← hm y,List.mem_singleton];exact⟨Or.inl,fun h=>h.elim id fun h=>h▸hin⟩) (up fun h=>(h h0).elim)
    exact ih.imp (fun ⟨a,r⟩=>⟨a,qda (hk:=hx) (hin:=qas hk) (hlt:=dt (by omega)) (hx:=by simp[h0]) (hP:=qiv hin) (hs:=qah (by omega)) r⟩) (fun ⟨a,r⟩=>⟨a,qda (hk:=hx) (hin:=qas hk) (hlt:=dt (by omega)) (hx:=by simp[h0]) (hP:=qiv hin) (hs:=qah (by omega)) r⟩)
   ·refine Or.inr ⟨fun H=>?_,qnP (hk:=hx) (hin:=qas hk) (hlt:=dt (by omega)) (hx:=by simpa using h0) (hL:=qmL hin)⟩
    obtain⟨i,hi⟩:=List.getElem?_of_mem ((hm x).1 hin)
    have hl:=qaq hi
    rw[List.length_take] at hl
    rw[List.getElem?_take,if_pos (by omega)] at hi
    have:=H i k x hi hx h0
    omega
  ·have ih:=qgd hn d (k+1) (m++[x]) (by omega) (fun y=>by rw[hs,List.mem_append,List.mem_append,hm y]) (up fun _=>hin)
   by_cases h0:x = -1
   ·exact ih.imp (fun ⟨a,r⟩=>⟨a,qda (hk:=hx) (hin:=qas hk) (hlt:=dt (by omega)) (hx:=by simp[h0]) (hP:=qeI hin) (hs:=qah (by omega)) r⟩) (fun ⟨a,r⟩=>⟨a,qda (hk:=hx) (hin:=qas hk) (hlt:=dt (by omega)) (hx:=by simp[h0]) (hP:=qeI hin) (hs:=qah (by omega)) r⟩)
   ·exact ih.imp (fun ⟨a,r⟩=>⟨a,qg7 (hk:=hx) (hin:=qas hk) (hlt:=dt (by omega)) (hx:=by simpa using h0) (hL:=qlM hin) (hP:=qeI hin) (hs:=qah (by omega)) r⟩) (fun ⟨a,r⟩=>⟨a,qg7 (hk:=hx) (hin:=qas hk) (hlt:=dt (by omega)) (hx:=by simpa using h0) (hL:=qlM hin) (hP:=qeI hin) (hs:=qah (by omega)) r⟩)
theorem qi4 {l:List Int} (hn:l.length≤1000000):Fn 66 1 [.ls 0 l.length] [(0,0,zrI l)] (.pv (.bool (pB (¬ OneN l)))) 0 []:=by
 rcases qgd hn l.length 0 [] (by omega) (by simp) (fun i j x hi=>by omega) with ⟨h,r⟩ | ⟨h,r⟩
 ·rw[qe0 (fun k=>k h)];exact qqF (r0:=r)
 ·rw[qeX h];exact qnX (r0:=r)
theorem qoz {s:List Pt} (hs:Val s):Fn 38 1 [qaz 0 s] [(0,0,qal s)] (.mp 1) 1 [(1,0,.mrow (byV s))]:=by
 have hlen:=hs.len
 refine qk5 (s:=s) ?_
 have:=RunsL.rounds (P:=Try.prog) (lo:=1) (fr:=1) (c:=qgW Try.prog 38 0) (n:=23) (nb:=3) (fun k=>[(3,.mp 2),(11,.ls 0 s.length),(12,.pv (iV (s.length:Int))),(13,.pv (iV (k:Int)))]) (fun k=>[(2,0,.mrow (byV (s.take k))),(0,0,qal s)])
  (e:=.exit 0) (tm2:=[(3,.mp 2)]) (hp2:=[(2,0,.mrow (byV s)),(0,0,qal s)]) s.length 0 (Nat.zero_add _) (fun k _ hk r=>?_) (by rw[List.take_length];exact qnR (hge:=df (by omega)))
 ·simpa using this
 ·obtain⟨p,hp⟩:=qaj hk
  rw[qdv hp] at r
  exact qkX (hk:=hp) (hin:=qas hk) (hlt:=dt (by omega)) (hP:=qpY fun q hq=>by
   obtain⟨i,hi,hq'⟩:=qlD hq
   have:=hs.up.mono hi hq' hp
   omega) (hs:=qah (by omega)) r
theorem qdA {s:List Pt} (hs:Val s) {q:Pt} (hq:q∈s):0≤q.id∧q.id≤65535:=by
 have:=qbX.1 (hs.ok q hq)
 omega
theorem qkO {s:List Pt} (hs:Val s) {l:List Int} (hn:l.length≤1000000):Fn 65 2 [.mp 1,.ls 0 l.length] [(0,0,zrI l),(1,0,.mrow (byV s))] (.pv (.bool (pB (KnB s l)))) 0 []:=by
 have step:∀ k,(∀ j,j<k→∀ x,l[j]?=some x→x≠-1→∃ q∈s,q.id=x)→∀ {e:Exit} {tm2:TmL} {hp2:HpL},k≤l.length→
  Rl 3 3 84 0 19 3 [(0,.ls 0 l.length),(1,.pc 80 [.pp 2 0]),(7,.pv (iV (l.length:Int))),(8,.pv (iV (k:Int)))] [(0,0,zrI l),(1,0,.mrow (byV s)),(2,0,.mp 1)] e tm2 hp2→
  Rl 3 3 84 0 19 3 [(0,.ls 0 l.length),(1,.pc 80 [.pp 2 0]),(7,.pv (iV (l.length:Int))),(8,.pv (iV ((0:Nat):Int)))] [(0,0,zrI l),(1,0,.mrow (byV s)),(2,0,.mp 1)] e tm2 hp2:=by
  intro k hk e tm2 hp2 hkl r
  refine RunsL.rounds (fun j=>[(0,.ls 0 l.length),(1,.pc 80 [.pp 2 0]),(7,.pv (iV (l.length:Int))),(8,.pv (iV (j:Int)))]) (fun _=>[(0,0,zrI l),(1,0,.mrow (byV s)),(2,0,.mp 1)]) (N:=k) k 0 (Nat.zero_add _) (fun j _ hj r=>?_) r
  obtain⟨x,hx⟩:=qaj (l:=l) (k:=j) (by omega)
  by_cases h0:x = -1
  ·exact qlx (hk:=hx) (hin:=qas (qaq hx)) (hlt:=dt (by have:=qaq hx;omega)) (hA:=qlS fun ⟨q,hq,e⟩=>by have:=(qdA hs hq).1;omega) (hx:=by simp[h0]) (hs:=qah (by omega)) r
  ·obtain⟨q,hq,hqx⟩:=hk j hj x hx h0
   exact qi9 (hk:=hx) (hin:=qas (qaq hx)) (hlt:=dt (by have:=qaq hx;omega)) (hA:=qid hs hq hqx true) (hx:=by simpa using h0) (hs:=qah (by omega)) r
 rcases qaC (fun j=>∀ x,l[j]?=some x→x≠-1→∃ q∈s,q.id=x) l.length with h | ⟨j,hj,hb,hf⟩
 ·rw[qeX (p:=KnB s l) fun x hx=>by
   obtain⟨k,hk,rfl⟩:=List.getElem_of_mem hx
   exact h k hk _ (List.getElem?_eq_getElem hk)]
  exact qmV (ht:=qoN (hi:=qpe (r0:=step l.length h (Nat.le_refl _) (qoo (hge:=df (by omega))))))
 ·simp only[Classical.not_forall] at hb
  obtain⟨x,hx,h0,hno⟩:=hb
  rw[qe0 (p:=KnB s l) fun h=>hno (h x (List.mem_of_getElem? hx) h0)]
  exact qpZ (ht:=qop (k:=j) (hi:=qmn (r0:=step j hf (by omega) (qln (hk:=hx) (hin:=qas hj) (hlt:=dt (by omega)) (hA:=qlS hno) (hx:=by simpa using h0)))) (h0:=dt (by omega)))
noncomputable def idE (s:List Pt) (l:List Int):Int:=open Classical in if KnB s l then (if OneB l then 0 else 14) else 6
theorem qrK {s:List Pt} (hs:Val s) {l:List Int} (h:KnB s l):∀ x∈l,-1≤x:=fun x hx=>(qjH hs h x hx).1
theorem qfW {s:List Pt} (hs:Val s) {l:List Int} {n:Nat} (hl:l.length=n) (hn:n≤1000000):Fn 39 2 [.mp 1,.ls 0 n] [(0,0,.row 3 1 n (ziV l)),(1,0,.mrow (byV s))] (.pv (iV (idE s l))) 0 []:=by
 subst hl
 have h1:=qkO hs hn
 have h2:=qi4 hn
 unfold idE
 by_cases hk:KnB s l
 ·rw[qeX hk] at h1
  rw[if_pos hk]
  by_cases ho:OneB l
  ·rw[qe0 (fun k=>k (ho.n (qrK hs hk)))] at h2
   rw[if_pos ho]
   exact qo7 (h1:=h1) (h2:=h2)
  ·rw[qeX (fun k=>ho k.b)] at h2
   rw[if_neg ho]
   exact qng (h1:=h1) (h2:=h2)
 ·rw[qe0 hk] at h1
  rw[if_neg hk]
  exact qpg (h1:=h1)
theorem qkj {l:List Int} (hn:l.length≤1000000):Fn 49 1 [.ls 0 l.length] [(0,0,zrI l)] (.pv (.bool (pB ((∀ x∈l,-1≤x∧x≤65535)∧OneB l)))) 0 []:=by
 have step:∀ k,(∀ j,j<k→∀ x,l[j]?=some x→-1≤x∧x≤65535)→∀ {e:Exit} {tm2:TmL} {hp2:HpL},k≤l.length→
  Rl 1 1 84 0 19 1 [(0,.ls 0 l.length),(1,.pv (.func (.func 72) #[] #[])),(7,.pv (iV (l.length:Int))),(8,.pv (iV (k:Int)))] [(0,0,zrI l)] e tm2 hp2→
  Rl 1 1 84 0 19 1 [(0,.ls 0 l.length),(1,.pv (.func (.func 72) #[] #[])),(7,.pv (iV (l.length:Int))),(8,.pv (iV ((0:Nat):Int)))] [(0,0,zrI l)] e tm2 hp2:=by
  intro k hk e tm2 hp2 hkl r
  refine RunsL.rounds (fun j=>[(0,.ls 0 l.length),(1,.pv (.func (.func 72) #[] #[])),(7,.pv (iV (l.length:Int))),(8,.pv (iV (j:Int)))]) (fun _=>[(0,0,zrI l)]) (N:=k) k 0 (Nat.zero_add _) (fun j _ hj r=>?_) r
  obtain⟨x,hx⟩:=qaj (l:=l) (k:=j) (by omega)
  obtain⟨h1,h2⟩:=hk j hj x hx
  exact qld (hk:=hx) (hin:=qas (qaq hx)) (hlt:=dt (by have:=qaq hx;omega)) (hlo:=df (by omega)) (hhi:=df (by omega)) (hs:=qah (by omega)) r
 rcases qaC (fun j=>∀ x,l[j]?=some x→-1≤x∧x≤65535) l.length with h | ⟨j,hj,hb,hf⟩
 ·have hr:∀ x∈l,-1≤x∧x≤65535:=fun x hx=>by
   obtain⟨k,hk,rfl⟩:=List.getElem_of_mem hx
   exact h k hk _ (List.getElem?_eq_getElem hk)
  have hc:=qo6 (hi:=qpN (r0:=step l.length h (Nat.le_refl _) (qnu (hge:=df (by omega)))))
  have h2:=qi4 hn
  by_cases ho:OneB l
  ·rw[qe0 (fun k=>k (ho.n fun x hx=>(hr x hx).1))] at h2
   rw[qeX ⟨hr,ho⟩]
   exact qoP (h1:=hc) (h2:=h2)
  ·rw[qeX (fun k=>ho k.b)] at h2
   rw[qe0 fun k=>ho k.2]
   exact qna (h1:=hc) (h2:=h2)
 ·simp only[Classical.not_forall] at hb
  obtain⟨x,hx,hno⟩:=hb
  rw[qe0 fun h=>hno (h.1 x (List.mem_of_getElem? hx))]
  refine qqz (h1:=qm0 (k:=j) (hi:=qmo (r0:=step j hf (by omega) ?_)) (h0:=dt (by omega)))
  by_cases h1:x < -1
  ·exact qqk (hk:=hx) (hin:=qas hj) (hlt:=dt (by omega)) (hlo:=dt h1)
  ·exact qpV (hk:=hx) (hin:=qas hj) (hlt:=dt (by omega)) (hlo:=df h1) (hhi:=dt (by omega))
end Go.Proofs.Ytgbmdijodlfcaaa
