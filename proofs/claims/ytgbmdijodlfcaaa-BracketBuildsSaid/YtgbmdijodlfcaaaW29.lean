/-
  Joined: Qr, Qs, Qc. Conditions: none.
-/
import Derived.Test.YtgbmdijodlfcaaaW28
import Derived.Test.YtgbmdijodlfcaaaW21
import Derived.Test.YtgbmdijodlfcaaaW27
namespace Go.Proofs.Ytgbmdijodlfcaaa
set_option maxRecDepth 100000
open Go.RowKit
theorem qrC (a c:Nat):SV.ag [.ls 5 (0+a),.ls 7 (0+c)]=(SV.ag [.ls 2 a,.ls 3 c]).ren (qaT [(2,5),(3,7)]):=by rw[Nat.zero_add,Nat.zero_add];rfl
theorem qfS (n:Nat) (xs:List Value):some (SV.row 3 1 (0+n) ([]++xs))=some (SV.row 3 1 n xs):=by rw[Nat.zero_add,List.nil_append]
theorem qlW {l:List Int} {k:Nat} {x:Int} (hk:l[k]?=some x) (hin:0≤(k:Int)∧(k:Int)<(l.length:Int)) (hlt:decide ((k:Int)<(l.length:Int))=true) (hne:(!(x==x))=false) (hs:iV (IntKind.i64.wrap ((k:Int)+1))=iV (((k+1:Nat):Int))) {e:Exit} {tm2:TmL} {hp2:HpL}
 (r:Rl 2 2 27 0 26 2 ([(0,.ls 0 l.length),(1,.ls 1 l.length),(5,.pv (iV ((k+1:Nat):Int)))]) ([(0,0,zrI l),(1,0,zrI l)]) e tm2 hp2):Rl 2 2 27 0 26 2 ([(0,.ls 0 l.length),(1,.ls 1 l.length),(5,.pv (iV (k:Int)))]) ([(0,0,zrI l),(1,0,zrI l)]) e tm2 hp2:=
 RunsL.next [] 300 [.t true,.r (iV x),.r (iV x),.t false,Re hs]
  (Ro (Ai hlt (Ai hin (Ai (qaW hk) (Ai hin (Ai (qaW hk) (Ai hne (Ai hs tI)))))))) r
theorem qmA {l:List Int} {k:Nat} (hge:decide ((k:Int)<(l.length:Int))=false):Rl 2 2 27 0 26 2 ([(0,.ls 0 l.length),(1,.ls 1 l.length),(5,.pv (iV (k:Int)))]) ([(0,0,zrI l),(1,0,zrI l)]) (.exit 0) ([]) ([]):=
 RunsL.stop [] 300 [.t false] (fun h=>by cases h)
  (Ro (Ai hge tI))
theorem qmU {l:List Int} (hl:(!((l.length:Int)==(l.length:Int)))=false) (r0:Rl 2 2 27 0 26 2 ([(0,.ls 0 l.length),(1,.ls 1 l.length),(5,.pv (iV ((0:Nat):Int)))]) ([(0,0,zrI l),(1,0,zrI l)]) (.exit 0) ([]) ([])) :
 Fn 27 2 [.ls 0 l.length,.ls 1 l.length] [(0,0,zrI l),(1,0,zrI l)] (.pv (.bool true)) 0 []:=
 Fz [] [.t false,Lf r0]
  tI (Ai hl (Lo r0 [] tI))
theorem qsm {b:Br} (h1:Fn 27 2 [.ls 0 b.p.length,.ls 1 b.p.length] [(0,0,zrI b.p),(1,0,zrI b.p)] (.pv (.bool true)) 0 []) (h2:Fn 27 2 [.ls 0 b.w.length,.ls 1 b.w.length] [(0,0,zrI b.w),(1,0,zrI b.w)] (.pv (.bool true)) 0 []) :
 Fn 17 4 [brS 0 1 b,brS 2 3 b] [(0,0,zrI b.p),(1,0,zrI b.w),(2,0,zrI b.p),(3,0,zrI b.w)] (.pv (.bool true)) 0 []:=
 Fz [] [Cf h1 [0,2],Cf h2 [1,3]]
  tI (Co h1 [0,2] 6 (Co h2 [1,3] 6 tI))
theorem qsr {b:Br} (h1:decide ((b.p.length:Int)>70)=true) :
 Fn 20 2 [brS 0 1 b] [(0,0,zrI b.p),(1,0,zrI b.w)] (.pv (.bool true)) 0 []:=
 Fz [] [.t true]
  tI (Ai h1 tI)
theorem qso {b:Br} (h1:decide ((b.p.length:Int)>70)=false) (h2:decide ((b.w.length:Int)>70)=true) :
 Fn 20 2 [brS 0 1 b] [(0,0,zrI b.p),(1,0,zrI b.w)] (.pv (.bool true)) 0 []:=
 Fz [] [.t false,.t true]
  tI (Ai h1 (Ai h2 tI))
theorem qqi {b:Br} (h1:decide ((b.p.length:Int)>70)=false) (h2:decide ((b.w.length:Int)>70)=false) :
 Fn 20 2 [brS 0 1 b] [(0,0,zrI b.p),(1,0,zrI b.w)] (.pv (.bool false)) 0 []:=
 Fz [] [.t false,.t false]
  tI (Ai h1 (Ai h2 tI))
theorem qtw {b:Br} (n1:0+b.p.length≤1000000) (n2:0+b.w.length≤1000000) :
 Fn 21 2 [brS 0 1 b] [(0,0,zrI b.p),(1,0,zrI b.w)] (brS 2 3 b) 2 [(2,0,zrI b.p),(3,0,zrI b.w)]:=
 Fx [(2,5),(3,7)] [.md]
  (qrC b.p.length b.w.length) (Ai (qfS b.p.length (ziV b.p)) (Ai (qfS b.w.length (ziV b.w)) tI)) (Ai n1 (Ai n2 tI))
theorem qoU {l m:List Int} {j n:Nat} {x z:Int} (h1:decide (z<(n:Int))=true) (hin:0≤z∧z<(n:Int)) (hk:m[z.toNat]?=some x) :
 Fn 52 2 [.ag [.ls 0 j,.ls 1 n],.pv (iV (z))] [(0,0,.row 3 1 j (ziV l)),(1,0,.row 3 1 n (ziV m))] (.pv (iV (x))) 0 []:=
 Fz [] [.t true,.r (iV x)]
  tI (Ai h1 (Ai hin (Ai (qkf hk) tI)))
theorem qou {l m:List Int} {j n:Nat} {x y z:Int} (h1:decide (z<(n:Int))=false) (hs:iV (IntKind.i64.wrap (z-(n:Int)))=iV (y)) (hin:0≤y∧y<(j:Int)) (hk:l[y.toNat]?=some x) :
 Fn 52 2 [.ag [.ls 0 j,.ls 1 n],.pv (iV (z))] [(0,0,.row 3 1 j (ziV l)),(1,0,.row 3 1 n (ziV m))] (.pv (iV (x))) 0 []:=
 Fz [] [.t false,Re hs,.r (iV x)]
  tI (Ai h1 (Ai hs (Ai hin (Ai (qkf hk) tI))))
abbrev qq6 (i:Nat) (k:Nat) (l:List Int):TmL:=[(0,.ls 0 l.length),(3,.pv (iV (i:Int))),(4,.pv (iV (k:Int)))]
theorem qnP {l:List Int} {i k:Nat} {x y:Int} (hki:decide ((k:Int)<(i:Int))=true) (hi:l[i]?=some x) (hii:0≤(i:Int)∧(i:Int)<(l.length:Int)) (hk:l[k]?=some y) (hin:0≤(k:Int)∧(k:Int)<(l.length:Int)) (h0:decide (x≥0)=false) (hs:iV (IntKind.i64.wrap ((k:Int)+1))=iV (((k+1:Nat):Int))) {e:Exit} {tm2:TmL} {hp2:HpL}
 (r:Rl 1 1 31 1 32 1 ([(0,.ls 0 l.length),(3,.pv (iV (i:Int))),(4,.pv (iV ((k+1:Nat):Int)))]) ([(0,0,zrI l)]) e tm2 hp2):Rl 1 1 31 1 32 1 (qq6 i k l) ([(0,0,zrI l)]) e tm2 hp2:=
 RunsL.next [] 300 [.t true,.r (iV x),.t false,Re hs]
  (Ro (Ai hki (Ai hii (Ai (qaW hi) (Ai h0 (Ai hs tI)))))) r
theorem qnm {l:List Int} {i k:Nat} {x y:Int} (hki:decide ((k:Int)<(i:Int))=true) (hi:l[i]?=some x) (hii:0≤(i:Int)∧(i:Int)<(l.length:Int)) (hk:l[k]?=some y) (hin:0≤(k:Int)∧(k:Int)<(l.length:Int)) (h0:decide (x≥0)=true) (he:(y==x)=false) (hs:iV (IntKind.i64.wrap ((k:Int)+1))=iV (((k+1:Nat):Int))) {e:Exit} {tm2:TmL} {hp2:HpL}
 (r:Rl 1 1 31 1 32 1 ([(0,.ls 0 l.length),(3,.pv (iV (i:Int))),(4,.pv (iV ((k+1:Nat):Int)))]) ([(0,0,zrI l)]) e tm2 hp2):Rl 1 1 31 1 32 1 (qq6 i k l) ([(0,0,zrI l)]) e tm2 hp2:=
 RunsL.next [] 300 [.t true,.r (iV x),.t true,.r (iV y),.r (iV x),.t false,Re hs]
  (Ro (Ai hki (Ai hii (Ai (qaW hi) (Ai h0 (Ai hin (Ai (qaW hk) (Ai hii (Ai (qaW hi) (Ai he (Ai hs tI))))))))))) r
theorem qm4 {l:List Int} {i k:Nat} {x y:Int} (hki:decide ((k:Int)<(i:Int))=true) (hi:l[i]?=some x) (hii:0≤(i:Int)∧(i:Int)<(l.length:Int)) (hk:l[k]?=some y) (hin:0≤(k:Int)∧(k:Int)<(l.length:Int)) (h0:decide (x≥0)=true) (he:(y==x)=true):Rl 1 1 31 1 32 1 (qq6 i k l) ([(0,0,zrI l)]) (.ret) ([(2,.pv (.bool true))]) ([]):=
 RunsL.stop [] 300 [.t true,.r (iV x),.t true,.r (iV y),.r (iV x),.t true] (fun h=>by cases h)
  (Ro (Ai hki (Ai hii (Ai (qaW hi) (Ai h0 (Ai hin (Ai (qaW hk) (Ai hii (Ai (qaW hi) (Ai he tI))))))))))
abbrev qpg (i:Nat) (l:List Int):TmL:=[(0,.ls 0 l.length),(3,.pv (iV (i:Int)))]
theorem qk8 {l:List Int} {i k:Nat} (hki:decide ((k:Int)<(i:Int))=false):Rl 1 1 31 1 32 1 (qq6 i k l) ([(0,0,zrI l)]) (.exit 2) (qpg i l) ([(0,0,zrI l)]):=
 RunsL.stop [] 300 [.t false] (fun h=>by cases h)
  (Ro (Ai hki tI))
theorem qlt {l:List Int} {i:Nat} (hlt:decide ((i:Int)<(l.length:Int))=true) (r1:Rl 1 1 31 1 32 1 ([(0,.ls 0 l.length),(3,.pv (iV (i:Int))),(4,.pv (iV ((0:Nat):Int)))]) ([(0,0,zrI l)]) (.exit 2) (qpg i l) ([(0,0,zrI l)])) (hs:iV (IntKind.i64.wrap ((i:Int)+1))=iV (((i+1:Nat):Int))) {e:Exit} {tm2:TmL} {hp2:HpL}
 (r:Rl 1 1 31 0 32 1 ([(0,.ls 0 l.length),(3,.pv (iV ((i+1:Nat):Int)))]) ([(0,0,zrI l)]) e tm2 hp2):Rl 1 1 31 0 32 1 (qpg i l) ([(0,0,zrI l)]) e tm2 hp2:=
 RunsL.next [] 300 [.t true,Lf r1,Re hs]
  (Ro (Ai hlt (Lo r1 [] (Ai hs tI)))) r
theorem qnn {l:List Int} {i:Nat} (hlt:decide ((i:Int)<(l.length:Int))=true) (r1:Rl 1 1 31 1 32 1 ([(0,.ls 0 l.length),(3,.pv (iV (i:Int))),(4,.pv (iV ((0:Nat):Int)))]) ([(0,0,zrI l)]) (.ret) ([(2,.pv (.bool true))]) ([])):Rl 1 1 31 0 32 1 (qpg i l) ([(0,0,zrI l)]) (.ret) ([(2,.pv (.bool true))]) ([]):=
 RunsL.stop [] 300 [.t true,Lf r1] (fun h=>by cases h)
  (Ro (Ai hlt (Lo r1 [] tI)))
theorem qmx {l:List Int} {i:Nat} (hge:decide ((i:Int)<(l.length:Int))=false):Rl 1 1 31 0 32 1 (qpg i l) ([(0,0,zrI l)]) (.exit 0) ([]) ([]):=
 RunsL.stop [] 300 [.t false] (fun h=>by cases h)
  (Ro (Ai hge tI))
theorem qn7 {l:List Int} (r0:Rl 1 1 31 0 32 1 ([(0,.ls 0 l.length),(3,.pv (iV ((0:Nat):Int)))]) ([(0,0,zrI l)]) (.ret) ([(2,.pv (.bool true))]) ([])) :
 Fn 31 1 [.ls 0 l.length] [(0,0,zrI l)] (.pv (.bool true)) 0 []:=
 Fz [] [Lf r0]
  tI (Lo r0 [] tI)
theorem qpp {l:List Int} (r0:Rl 1 1 31 0 32 1 ([(0,.ls 0 l.length),(3,.pv (iV ((0:Nat):Int)))]) ([(0,0,zrI l)]) (.exit 0) ([]) ([])) :
 Fn 31 1 [.ls 0 l.length] [(0,0,zrI l)] (.pv (.bool false)) 0 []:=
 Fz [] [Lf r0]
  tI (Lo r0 [] tI)
theorem qpH {b:Br} (h1:decide ((b.p.length:Int)<1)=true) :
 Fn 26 2 [brS 0 1 b] [(0,0,zrI b.p),(1,0,zrI b.w)] (.pv (iV (8))) 0 []:=
 Fz [] [.t true]
  tI (Ai h1 tI)
theorem qp5 {b:Br} (h1:decide ((b.p.length:Int)<1)=false) (hh:decide ((b.p.length:Int)>64)=true) :
 Fn 26 2 [brS 0 1 b] [(0,0,zrI b.p),(1,0,zrI b.w)] (.pv (iV (8))) 0 []:=
 Fz [] [.t false,.t true]
  tI (Ai h1 (Ai hh tI))
theorem qoe {b:Br} {x:Int} (h1:decide ((b.p.length:Int)<1)=false) (hh:decide ((b.p.length:Int)>64)=false) (hs:iV (IntKind.i64.wrap ((b.p.length:Int)-1))=iV (x)) (hl:((b.w.length:Int) !=x)=true) :
 Fn 26 2 [brS 0 1 b] [(0,0,zrI b.p),(1,0,zrI b.w)] (.pv (iV (8))) 0 []:=
 Fz [] [.t false,.t false,Re hs,.t true]
  tI (Ai h1 (Ai hh (Ai hs (Ai hl tI))))
theorem qoa {b:Br} {x:Int} (h1:decide ((b.p.length:Int)<1)=false) (hh:decide ((b.p.length:Int)>64)=false) (hs:iV (IntKind.i64.wrap ((b.p.length:Int)-1))=iV (x)) (hl:((b.w.length:Int) !=x)=false) (h2:Fn 31 1 [.ls 0 b.p.length] [(0,0,zrI b.p)] (.pv (.bool true)) 0 []) :
 Fn 26 2 [brS 0 1 b] [(0,0,zrI b.p),(1,0,zrI b.w)] (.pv (iV (8))) 0 []:=
 Fz [] [.t false,.t false,Re hs,.t false,Cf h2 [0]]
  tI (Ai h1 (Ai hh (Ai hs (Ai hl (Co h2 [0] 3 tI)))))
theorem qrG {b:Br} {k:Nat} {x:Int} (hk:b.p[k]?=some x) (hin:0≤(k:Int)∧(k:Int)<(b.p.length:Int)) (hlt:decide ((k:Int)<(b.p.length:Int))=true) (hlo:decide (x<(-1))=false) (hhi:decide (x>65535)=false) (hs:iV (IntKind.i64.wrap ((k:Int)+1))=iV (((k+1:Nat):Int))) {e:Exit} {tm2:TmL} {hp2:HpL}
 (r:Rl 2 2 26 0 98 3 ([(1,.pp 2 0),(3,.pv (iV (b.p.length:Int))),(4,.pv (iV ((k+1:Nat):Int)))]) ([(2,0,.ls 0 b.p.length),(2,1,.ls 1 b.w.length),(0,0,zrI b.p),(1,0,zrI b.w)]) e tm2 hp2):Rl 2 2 26 0 98 3 ([(1,.pp 2 0),(3,.pv (iV (b.p.length:Int))),(4,.pv (iV (k:Int)))]) ([(2,0,.ls 0 b.p.length),(2,1,.ls 1 b.w.length),(0,0,zrI b.p),(1,0,zrI b.w)]) e tm2 hp2:=
 RunsL.next [] 300 [.t true,.r (iV x),.t false,.r (iV x),.t false,Re hs]
  (Ro (Ai hlt (Ai hin (Ai (qaW hk) (Ai hlo (Ai hin (Ai (qaW hk) (Ai hhi (Ai hs tI))))))))) r
theorem qmB {b:Br} {k:Nat} {x:Int} (hk:b.p[k]?=some x) (hin:0≤(k:Int)∧(k:Int)<(b.p.length:Int)) (hlt:decide ((k:Int)<(b.p.length:Int))=true) (hlo:decide (x<(-1))=true):Rl 2 2 26 0 98 3 ([(1,.pp 2 0),(3,.pv (iV (b.p.length:Int))),(4,.pv (iV (k:Int)))]) ([(2,0,.ls 0 b.p.length),(2,1,.ls 1 b.w.length),(0,0,zrI b.p),(1,0,zrI b.w)]) (.ret) ([(2,.pv (iV 8))]) ([]):=
 RunsL.stop [] 300 [.t true,.r (iV x),.t true] (fun h=>by cases h)
  (Ro (Ai hlt (Ai hin (Ai (qaW hk) (Ai hlo tI)))))
theorem qos {b:Br} {k:Nat} {x:Int} (hk:b.p[k]?=some x) (hin:0≤(k:Int)∧(k:Int)<(b.p.length:Int)) (hlt:decide ((k:Int)<(b.p.length:Int))=true) (hlo:decide (x<(-1))=false) (hhi:decide (x>65535)=true):Rl 2 2 26 0 98 3 ([(1,.pp 2 0),(3,.pv (iV (b.p.length:Int))),(4,.pv (iV (k:Int)))]) ([(2,0,.ls 0 b.p.length),(2,1,.ls 1 b.w.length),(0,0,zrI b.p),(1,0,zrI b.w)]) (.ret) ([(2,.pv (iV 8))]) ([]):=
 RunsL.stop [] 300 [.t true,.r (iV x),.t false,.r (iV x),.t true] (fun h=>by cases h)
  (Ro (Ai hlt (Ai hin (Ai (qaW hk) (Ai hlo (Ai hin (Ai (qaW hk) (Ai hhi tI))))))))
theorem qk1 {b:Br} {k:Nat} (hge:decide ((k:Int)<(b.p.length:Int))=false):Rl 2 2 26 0 98 3 ([(1,.pp 2 0),(3,.pv (iV (b.p.length:Int))),(4,.pv (iV (k:Int)))]) ([(2,0,.ls 0 b.p.length),(2,1,.ls 1 b.w.length),(0,0,zrI b.p),(1,0,zrI b.w)]) (.exit 0) ([(1,.pp 2 0)]) ([(2,0,.ls 0 b.p.length),(2,1,.ls 1 b.w.length),(0,0,zrI b.p),(1,0,zrI b.w)]):=
 RunsL.stop [] 300 [.t false] (fun h=>by cases h)
  (Ro (Ai hge tI))
abbrev qmY (k:Nat):TmL:=[(1,.pp 2 0),(5,.pv (iV (k:Int)))]
theorem qoY {b:Br} {k:Nat} {x y z v e1 e2:Int} (hk:b.w[k]?=some v) (hin:0≤(k:Int)∧(k:Int)<(b.w.length:Int)) (hlt:decide ((k:Int)<(b.w.length:Int))=true) (hm:iV (IntKind.i64.wrap (2*(k:Int)))=iV (z)) (ha:iV (IntKind.i64.wrap (z+1))=iV (e1)) (hx:Fn 52 2 [.ag [.ls 0 b.p.length,.ls 1 b.w.length],.pv (iV (e1))] [(0,0,.row 3 1 b.p.length (ziV b.p)),(1,0,.row 3 1 b.w.length (ziV b.w))] (.pv (iV (x))) 0 []) (hb:iV (IntKind.i64.wrap (z+2))=iV (e2)) (hy:Fn 52 2 [.ag [.ls 0 b.p.length,.ls 1 b.w.length],.pv (iV (e2))] [(0,0,.row 3 1 b.p.length (ziV b.p)),(1,0,.row 3 1 b.w.length (ziV b.w))] (.pv (iV (y))) 0 []) (q1:(v !=x)=false) (q3:(v==(-1))=false) (hs:iV (IntKind.i64.wrap ((k:Int)+1))=iV (((k+1:Nat):Int))) {e:Exit} {tm2:TmL} {hp2:HpL}
 (r:Rl 2 2 26 1 98 3 ([(1,.pp 2 0),(5,.pv (iV ((k+1:Nat):Int)))]) ([(2,0,.ls 0 b.p.length),(2,1,.ls 1 b.w.length),(0,0,zrI b.p),(1,0,zrI b.w)]) e tm2 hp2):Rl 2 2 26 1 98 3 (qmY k) ([(2,0,.ls 0 b.p.length),(2,1,.ls 1 b.w.length),(0,0,zrI b.p),(1,0,zrI b.w)]) e tm2 hp2:=
 RunsL.next [] 300 [.t true,Re hm,Re ha,Cf hx [0,1],Re hm,Re hb,Cf hy [0,1],.r (iV v),.t false,.r (iV v),.t false,Re hs]
  (Ro (Ai hlt (Ai hm (Ai ha (Co hx [0,1] 3 (Ai hm (Ai hb (Co hy [0,1] 3 (Ai hin (Ai (qaW hk) (Ai q1 (Ai hin (Ai (qaW hk) (Ai q3 (Ai hs tI))))))))))))))) r
theorem qpY {b:Br} {k:Nat} {x y z v e1 e2:Int} (hk:b.w[k]?=some v) (hin:0≤(k:Int)∧(k:Int)<(b.w.length:Int)) (hlt:decide ((k:Int)<(b.w.length:Int))=true) (hm:iV (IntKind.i64.wrap (2*(k:Int)))=iV (z)) (ha:iV (IntKind.i64.wrap (z+1))=iV (e1)) (hx:Fn 52 2 [.ag [.ls 0 b.p.length,.ls 1 b.w.length],.pv (iV (e1))] [(0,0,.row 3 1 b.p.length (ziV b.p)),(1,0,.row 3 1 b.w.length (ziV b.w))] (.pv (iV (x))) 0 []) (hb:iV (IntKind.i64.wrap (z+2))=iV (e2)) (hy:Fn 52 2 [.ag [.ls 0 b.p.length,.ls 1 b.w.length],.pv (iV (e2))] [(0,0,.row 3 1 b.p.length (ziV b.p)),(1,0,.row 3 1 b.w.length (ziV b.w))] (.pv (iV (y))) 0 []) (q1:(v !=x)=false) (q3:(v==(-1))=true) (q5:(x !=(-1))=false) (q6:(y !=(-1))=false) (hs:iV (IntKind.i64.wrap ((k:Int)+1))=iV (((k+1:Nat):Int))) {e:Exit} {tm2:TmL} {hp2:HpL}
 (r:Rl 2 2 26 1 98 3 ([(1,.pp 2 0),(5,.pv (iV ((k+1:Nat):Int)))]) ([(2,0,.ls 0 b.p.length),(2,1,.ls 1 b.w.length),(0,0,zrI b.p),(1,0,zrI b.w)]) e tm2 hp2):Rl 2 2 26 1 98 3 (qmY k) ([(2,0,.ls 0 b.p.length),(2,1,.ls 1 b.w.length),(0,0,zrI b.p),(1,0,zrI b.w)]) e tm2 hp2:=
 RunsL.next [] 300 [.t true,Re hm,Re ha,Cf hx [0,1],Re hm,Re hb,Cf hy [0,1],.r (iV v),.t false,.r (iV v),.t true,.t false,.t false,Re hs]
  (Ro (Ai hlt (Ai hm (Ai ha (Co hx [0,1] 3 (Ai hm (Ai hb (Co hy [0,1] 3 (Ai hin (Ai (qaW hk) (Ai q1 (Ai hin (Ai (qaW hk) (Ai q3 (Ai q5 (Ai q6 (Ai hs tI))))))))))))))))) r
theorem qpt {b:Br} {k:Nat} {x y z v e1 e2:Int} (hk:b.w[k]?=some v) (hin:0≤(k:Int)∧(k:Int)<(b.w.length:Int)) (hlt:decide ((k:Int)<(b.w.length:Int))=true) (hm:iV (IntKind.i64.wrap (2*(k:Int)))=iV (z)) (ha:iV (IntKind.i64.wrap (z+1))=iV (e1)) (hx:Fn 52 2 [.ag [.ls 0 b.p.length,.ls 1 b.w.length],.pv (iV (e1))] [(0,0,.row 3 1 b.p.length (ziV b.p)),(1,0,.row 3 1 b.w.length (ziV b.w))] (.pv (iV (x))) 0 []) (hb:iV (IntKind.i64.wrap (z+2))=iV (e2)) (hy:Fn 52 2 [.ag [.ls 0 b.p.length,.ls 1 b.w.length],.pv (iV (e2))] [(0,0,.row 3 1 b.p.length (ziV b.p)),(1,0,.row 3 1 b.w.length (ziV b.w))] (.pv (iV (y))) 0 []) (q1:(v !=x)=true) (q2:(v !=y)=false) (q3:(v==(-1))=false) (hs:iV (IntKind.i64.wrap ((k:Int)+1))=iV (((k+1:Nat):Int))) {e:Exit} {tm2:TmL} {hp2:HpL}
 (r:Rl 2 2 26 1 98 3 ([(1,.pp 2 0),(5,.pv (iV ((k+1:Nat):Int)))]) ([(2,0,.ls 0 b.p.length),(2,1,.ls 1 b.w.length),(0,0,zrI b.p),(1,0,zrI b.w)]) e tm2 hp2):Rl 2 2 26 1 98 3 (qmY k) ([(2,0,.ls 0 b.p.length),(2,1,.ls 1 b.w.length),(0,0,zrI b.p),(1,0,zrI b.w)]) e tm2 hp2:=
 RunsL.next [] 300 [.t true,Re hm,Re ha,Cf hx [0,1],Re hm,Re hb,Cf hy [0,1],.r (iV v),.t true,.r (iV v),.t false,.r (iV v),.t false,Re hs]
  (Ro (Ai hlt (Ai hm (Ai ha (Co hx [0,1] 3 (Ai hm (Ai hb (Co hy [0,1] 3 (Ai hin (Ai (qaW hk) (Ai q1 (Ai hin (Ai (qaW hk) (Ai q2 (Ai hin (Ai (qaW hk) (Ai q3 (Ai hs tI)))))))))))))))))) r
theorem qqK {b:Br} {k:Nat} {x y z v e1 e2:Int} (hk:b.w[k]?=some v) (hin:0≤(k:Int)∧(k:Int)<(b.w.length:Int)) (hlt:decide ((k:Int)<(b.w.length:Int))=true) (hm:iV (IntKind.i64.wrap (2*(k:Int)))=iV (z)) (ha:iV (IntKind.i64.wrap (z+1))=iV (e1)) (hx:Fn 52 2 [.ag [.ls 0 b.p.length,.ls 1 b.w.length],.pv (iV (e1))] [(0,0,.row 3 1 b.p.length (ziV b.p)),(1,0,.row 3 1 b.w.length (ziV b.w))] (.pv (iV (x))) 0 []) (hb:iV (IntKind.i64.wrap (z+2))=iV (e2)) (hy:Fn 52 2 [.ag [.ls 0 b.p.length,.ls 1 b.w.length],.pv (iV (e2))] [(0,0,.row 3 1 b.p.length (ziV b.p)),(1,0,.row 3 1 b.w.length (ziV b.w))] (.pv (iV (y))) 0 []) (q1:(v !=x)=true) (q2:(v !=y)=true):Rl 2 2 26 1 98 3 (qmY k) ([(2,0,.ls 0 b.p.length),(2,1,.ls 1 b.w.length),(0,0,zrI b.p),(1,0,zrI b.w)]) (.ret) ([(2,.pv (iV 8))]) ([]):=
 RunsL.stop [] 300 [.t true,Re hm,Re ha,Cf hx [0,1],Re hm,Re hb,Cf hy [0,1],.r (iV v),.t true,.r (iV v),.t true] (fun h=>by cases h)
  (Ro (Ai hlt (Ai hm (Ai ha (Co hx [0,1] 3 (Ai hm (Ai hb (Co hy [0,1] 3 (Ai hin (Ai (qaW hk) (Ai q1 (Ai hin (Ai (qaW hk) (Ai q2 tI))))))))))))))
theorem qqg {b:Br} {k:Nat} {x y z v e1 e2:Int} (hk:b.w[k]?=some v) (hin:0≤(k:Int)∧(k:Int)<(b.w.length:Int)) (hlt:decide ((k:Int)<(b.w.length:Int))=true) (hm:iV (IntKind.i64.wrap (2*(k:Int)))=iV (z)) (ha:iV (IntKind.i64.wrap (z+1))=iV (e1)) (hx:Fn 52 2 [.ag [.ls 0 b.p.length,.ls 1 b.w.length],.pv (iV (e1))] [(0,0,.row 3 1 b.p.length (ziV b.p)),(1,0,.row 3 1 b.w.length (ziV b.w))] (.pv (iV (x))) 0 []) (hb:iV (IntKind.i64.wrap (z+2))=iV (e2)) (hy:Fn 52 2 [.ag [.ls 0 b.p.length,.ls 1 b.w.length],.pv (iV (e2))] [(0,0,.row 3 1 b.p.length (ziV b.p)),(1,0,.row 3 1 b.w.length (ziV b.w))] (.pv (iV (y))) 0 []) (q1:(v !=x)=false) (q3:(v==(-1))=true) (q5:(x !=(-1))=false) (q6:(y !=(-1))=true):Rl 2 2 26 1 98 3 (qmY k) ([(2,0,.ls 0 b.p.length),(2,1,.ls 1 b.w.length),(0,0,zrI b.p),(1,0,zrI b.w)]) (.ret) ([(2,.pv (iV 8))]) ([]):=
 RunsL.stop [] 300 [.t true,Re hm,Re ha,Cf hx [0,1],Re hm,Re hb,Cf hy [0,1],.r (iV v),.t false,.r (iV v),.t true,.t false,.t true] (fun h=>by cases h)
  (Ro (Ai hlt (Ai hm (Ai ha (Co hx [0,1] 3 (Ai hm (Ai hb (Co hy [0,1] 3 (Ai hin (Ai (qaW hk) (Ai q1 (Ai hin (Ai (qaW hk) (Ai q3 (Ai q5 (Ai q6 tI))))))))))))))))
theorem qqE {b:Br} {k:Nat} {x y z v e1 e2:Int} (hk:b.w[k]?=some v) (hin:0≤(k:Int)∧(k:Int)<(b.w.length:Int)) (hlt:decide ((k:Int)<(b.w.length:Int))=true) (hm:iV (IntKind.i64.wrap (2*(k:Int)))=iV (z)) (ha:iV (IntKind.i64.wrap (z+1))=iV (e1)) (hx:Fn 52 2 [.ag [.ls 0 b.p.length,.ls 1 b.w.length],.pv (iV (e1))] [(0,0,.row 3 1 b.p.length (ziV b.p)),(1,0,.row 3 1 b.w.length (ziV b.w))] (.pv (iV (x))) 0 []) (hb:iV (IntKind.i64.wrap (z+2))=iV (e2)) (hy:Fn 52 2 [.ag [.ls 0 b.p.length,.ls 1 b.w.length],.pv (iV (e2))] [(0,0,.row 3 1 b.p.length (ziV b.p)),(1,0,.row 3 1 b.w.length (ziV b.w))] (.pv (iV (y))) 0 []) (q1:(v !=x)=true) (q2:(v !=y)=false) (q3:(v==(-1))=true) (q5:(x !=(-1))=true):Rl 2 2 26 1 98 3 (qmY k) ([(2,0,.ls 0 b.p.length),(2,1,.ls 1 b.w.length),(0,0,zrI b.p),(1,0,zrI b.w)]) (.ret) ([(2,.pv (iV 8))]) ([]):=
 RunsL.stop [] 300 [.t true,Re hm,Re ha,Cf hx [0,1],Re hm,Re hb,Cf hy [0,1],.r (iV v),.t true,.r (iV v),.t false,.r (iV v),.t true,.t true] (fun h=>by cases h)
  (Ro (Ai hlt (Ai hm (Ai ha (Co hx [0,1] 3 (Ai hm (Ai hb (Co hy [0,1] 3 (Ai hin (Ai (qaW hk) (Ai q1 (Ai hin (Ai (qaW hk) (Ai q2 (Ai hin (Ai (qaW hk) (Ai q3 (Ai q5 tI))))))))))))))))))
theorem qk4 {b:Br} {k:Nat} (hge:decide ((k:Int)<(b.w.length:Int))=false):Rl 2 2 26 1 98 3 (qmY k) ([(2,0,.ls 0 b.p.length),(2,1,.ls 1 b.w.length),(0,0,zrI b.p),(1,0,zrI b.w)]) (.exit 2) ([]) ([]):=
 RunsL.stop [] 300 [.t false] (fun h=>by cases h)
  (Ro (Ai hge tI))
theorem qrT {b:Br} {x:Int} (h1:decide ((b.p.length:Int)<1)=false) (hh:decide ((b.p.length:Int)>64)=false) (hs:iV (IntKind.i64.wrap ((b.p.length:Int)-1))=iV (x)) (hl:((b.w.length:Int) !=x)=false) (h2:Fn 31 1 [.ls 0 b.p.length] [(0,0,zrI b.p)] (.pv (.bool false)) 0 []) (r0:Rl 2 2 26 0 98 3 ([(1,.pp 2 0),(3,.pv (iV (b.p.length:Int))),(4,.pv (iV ((0:Nat):Int)))]) ([(2,0,.ls 0 b.p.length),(2,1,.ls 1 b.w.length),(0,0,zrI b.p),(1,0,zrI b.w)]) (.ret) ([(2,.pv (iV 8))]) ([])) :
 Fn 26 2 [brS 0 1 b] [(0,0,zrI b.p),(1,0,zrI b.w)] (.pv (iV (8))) 0 []:=
 Fz [] [.t false,.t false,Re hs,.t false,Cf h2 [0],Lf r0]
  tI (Ai h1 (Ai hh (Ai hs (Ai hl (Co h2 [0] 3 (Lo r0 [] tI))))))
theorem qri {b:Br} {x:Int} (h1:decide ((b.p.length:Int)<1)=false) (hh:decide ((b.p.length:Int)>64)=false) (hs:iV (IntKind.i64.wrap ((b.p.length:Int)-1))=iV (x)) (hl:((b.w.length:Int) !=x)=false) (h2:Fn 31 1 [.ls 0 b.p.length] [(0,0,zrI b.p)] (.pv (.bool false)) 0 []) (r0:Rl 2 2 26 0 98 3 ([(1,.pp 2 0),(3,.pv (iV (b.p.length:Int))),(4,.pv (iV ((0:Nat):Int)))]) ([(2,0,.ls 0 b.p.length),(2,1,.ls 1 b.w.length),(0,0,zrI b.p),(1,0,zrI b.w)]) (.exit 0) ([(1,.pp 2 0)]) ([(2,0,.ls 0 b.p.length),(2,1,.ls 1 b.w.length),(0,0,zrI b.p),(1,0,zrI b.w)])) (r1:Rl 2 2 26 1 98 3 ([(1,.pp 2 0),(5,.pv (iV ((0:Nat):Int)))]) ([(2,0,.ls 0 b.p.length),(2,1,.ls 1 b.w.length),(0,0,zrI b.p),(1,0,zrI b.w)]) (.ret) ([(2,.pv (iV 8))]) ([])) :
 Fn 26 2 [brS 0 1 b] [(0,0,zrI b.p),(1,0,zrI b.w)] (.pv (iV (8))) 0 []:=
 Fz [] [.t false,.t false,Re hs,.t false,Cf h2 [0],Lf r0,Lf r1]
  tI (Ai h1 (Ai hh (Ai hs (Ai hl (Co h2 [0] 3 (Lo r0 [] (Lo r1 [] tI)))))))
theorem qqM {b:Br} {x:Int} (h1:decide ((b.p.length:Int)<1)=false) (hh:decide ((b.p.length:Int)>64)=false) (hs:iV (IntKind.i64.wrap ((b.p.length:Int)-1))=iV (x)) (hl:((b.w.length:Int) !=x)=false) (h2:Fn 31 1 [.ls 0 b.p.length] [(0,0,zrI b.p)] (.pv (.bool false)) 0 []) (r0:Rl 2 2 26 0 98 3 ([(1,.pp 2 0),(3,.pv (iV (b.p.length:Int))),(4,.pv (iV ((0:Nat):Int)))]) ([(2,0,.ls 0 b.p.length),(2,1,.ls 1 b.w.length),(0,0,zrI b.p),(1,0,zrI b.w)]) (.exit 0) ([(1,.pp 2 0)]) ([(2,0,.ls 0 b.p.length),(2,1,.ls 1 b.w.length),(0,0,zrI b.p),(1,0,zrI b.w)])) (r1:Rl 2 2 26 1 98 3 ([(1,.pp 2 0),(5,.pv (iV ((0:Nat):Int)))]) ([(2,0,.ls 0 b.p.length),(2,1,.ls 1 b.w.length),(0,0,zrI b.p),(1,0,zrI b.w)]) (.exit 2) ([]) ([])) :
 Fn 26 2 [brS 0 1 b] [(0,0,zrI b.p),(1,0,zrI b.w)] (.pv (iV (0))) 0 []:=
 Fz [] [.t false,.t false,Re hs,.t false,Cf h2 [0],Lf r0,Lf r1]
  tI (Ai h1 (Ai hh (Ai hs (Ai hl (Co h2 [0] 3 (Lo r0 [] (Lo r1 [] tI)))))))
theorem qre {s:List Pt} {x y tn td:Int} (hx:decide (x<0)=true) :
 Fn 74 1 [qaw 0 s,.pv (qab tn td),.pv (iV (x)),.pv (iV (y))] [(0,0,qai s)] (.pv (iV (y))) 0 []:=
 Fz [] [.t true]
  tI (Ai hx tI)
theorem qrs {s:List Pt} {x y tn td:Int} (hx:decide (x<0)=false) (hy:decide (y<0)=true) :
 Fn 74 1 [qaw 0 s,.pv (qab tn td),.pv (iV (x)),.pv (iV (y))] [(0,0,qai s)] (.pv (iV (x))) 0 []:=
 Fz [] [.t false,.t true]
  tI (Ai hx (Ai hy tI))
theorem qrZ {s:List Pt} {p q:Pt} {i k:Nat} {x y tn td:Int} (hx:decide (x<0)=false) (hy:decide (y<0)=false) (hp:s[i]?=some p) (hip:0≤(i:Int)∧(i:Int)<(s.length:Int)) (a1:Fn 58 1 [qaw 0 s,.pv (iV (x))] [(0,0,qai s)] (.pv (iV (i:Int))) 0 []) (hq:s[k]?=some q) (hiq:0≤(k:Int)∧(k:Int)<(s.length:Int)) (a2:Fn 58 1 [qaw 0 s,.pv (iV (y))] [(0,0,qai s)] (.pv (iV (k:Int))) 0 []) (hl:Pure Try.prog 85 #[ptV p,ptV q,qab tn td] (.bool true)) :
 Fn 74 1 [qaw 0 s,.pv (qab tn td),.pv (iV (x)),.pv (iV (y))] [(0,0,qai s)] (.pv (iV (x))) 0 []:=
 Fz [] [.t false,.t false,Cf a1 [0],.r (ptV p),Cf a2 [0],.r (ptV q),Rf hl]
  tI (Ai hx (Ai hy (Co a1 [0] 3 (Ai hip (Ai (qeq hp) (Co a2 [0] 3 (Ai hiq (Ai (qeq hq) (Ai hl tI)))))))))
theorem qrE {s:List Pt} {p q:Pt} {i k:Nat} {x y tn td:Int} (hx:decide (x<0)=false) (hy:decide (y<0)=false) (hp:s[i]?=some p) (hip:0≤(i:Int)∧(i:Int)<(s.length:Int)) (a1:Fn 58 1 [qaw 0 s,.pv (iV (x))] [(0,0,qai s)] (.pv (iV (i:Int))) 0 []) (hq:s[k]?=some q) (hiq:0≤(k:Int)∧(k:Int)<(s.length:Int)) (a2:Fn 58 1 [qaw 0 s,.pv (iV (y))] [(0,0,qai s)] (.pv (iV (k:Int))) 0 []) (hl:Pure Try.prog 85 #[ptV p,ptV q,qab tn td] (.bool false)) :
 Fn 74 1 [qaw 0 s,.pv (qab tn td),.pv (iV (x)),.pv (iV (y))] [(0,0,qai s)] (.pv (iV (y))) 0 []:=
 Fz [] [.t false,.t false,Cf a1 [0],.r (ptV p),Cf a2 [0],.r (ptV q),Rf hl]
  tI (Ai hx (Ai hy (Co a1 [0] 3 (Ai hip (Ai (qeq hp) (Co a2 [0] 3 (Ai hiq (Ai (qeq hq) (Ai hl tI)))))))))
abbrev ql2 (l:List Int) (s:List Pt):HpL:=[(2,0,.ls 0 s.length),(0,0,qai s),(1,0,zrI l)]
abbrev qq0 (k:Nat) (l:List Int):TmL:=[(1,.ls 1 l.length),(2,.pp 2 0),(5,.pv (iV (k:Int)))]
theorem qlO {l:List Int} {s:List Pt} {k:Nat} {x:Int} (hk:l[k]?=some x) (hin:0≤(k:Int)∧(k:Int)<(l.length:Int)) (hlt:decide ((k:Int)<(l.length:Int))=true) (hx:(x !=(-1))=false) (hs:iV (IntKind.i64.wrap ((k:Int)+1))=iV (((k+1:Nat):Int))) {e:Exit} {tm2:TmL} {hp2:HpL}
 (r:Rl 2 2 30 0 26 3 ([(1,.ls 1 l.length),(2,.pp 2 0),(5,.pv (iV ((k+1:Nat):Int)))]) (ql2 l s) e tm2 hp2):Rl 2 2 30 0 26 3 (qq0 k l) (ql2 l s) e tm2 hp2:=
 RunsL.next [] 300 [.t true,.r (iV x),.t false,Re hs]
  (Ro (Ai hlt (Ai hin (Ai (qaW hk) (Ai hx (Ai hs tI)))))) r
theorem qln {l:List Int} {s:List Pt} {k:Nat} {x v:Int} (hk:l[k]?=some x) (hin:0≤(k:Int)∧(k:Int)<(l.length:Int)) (hlt:decide ((k:Int)<(l.length:Int))=true) (hx:(x !=(-1))=true) (ha:Fn 58 1 [qaw 0 s,.pv (iV (x))] [(0,0,qai s)] (.pv (iV (v))) 0 []) (hv:decide (v<0)=false) (hs:iV (IntKind.i64.wrap ((k:Int)+1))=iV (((k+1:Nat):Int))) {e:Exit} {tm2:TmL} {hp2:HpL}
 (r:Rl 2 2 30 0 26 3 ([(1,.ls 1 l.length),(2,.pp 2 0),(5,.pv (iV ((k+1:Nat):Int)))]) (ql2 l s) e tm2 hp2):Rl 2 2 30 0 26 3 (qq0 k l) (ql2 l s) e tm2 hp2:=
 RunsL.next [] 300 [.t true,.r (iV x),.t true,.r (iV x),Cf ha [0],.t false,Re hs]
  (Ro (Ai hlt (Ai hin (Ai (qaW hk) (Ai hx (Ai hin (Ai (qaW hk) (Co ha [0] 3 (Ai hv (Ai hs tI)))))))))) r
theorem qk5 {l:List Int} {s:List Pt} {k:Nat} {x v:Int} (hk:l[k]?=some x) (hin:0≤(k:Int)∧(k:Int)<(l.length:Int)) (hlt:decide ((k:Int)<(l.length:Int))=true) (hx:(x !=(-1))=true) (ha:Fn 58 1 [qaw 0 s,.pv (iV (x))] [(0,0,qai s)] (.pv (iV (v))) 0 []) (hv:decide (v<0)=true):Rl 2 2 30 0 26 3 (qq0 k l) (ql2 l s) (.ret) ([(4,.pv (.bool false))]) ([]):=
 RunsL.stop [] 300 [.t true,.r (iV x),.t true,.r (iV x),Cf ha [0],.t true] (fun h=>by cases h)
  (Ro (Ai hlt (Ai hin (Ai (qaW hk) (Ai hx (Ai hin (Ai (qaW hk) (Co ha [0] 3 (Ai hv tI)))))))))
theorem qnM {l:List Int} {s:List Pt} {k:Nat} (hge:decide ((k:Int)<(l.length:Int))=false):Rl 2 2 30 0 26 3 (qq0 k l) (ql2 l s) (.exit 0) ([]) ([]):=
 RunsL.stop [] 300 [.t false] (fun h=>by cases h)
  (Ro (Ai hge tI))
theorem qo7 {l:List Int} {s:List Pt} (r0:Rl 2 2 30 0 26 3 ([(1,.ls 1 l.length),(2,.pp 2 0),(5,.pv (iV ((0:Nat):Int)))]) (ql2 l s) (.ret) ([(4,.pv (.bool false))]) ([])) :
 Fn 30 2 [qaw 0 s,.ls 1 l.length] [(0,0,qai s),(1,0,zrI l)] (.pv (.bool false)) 0 []:=
 Fz [] [Lf r0]
  tI (Lo r0 [] tI)
theorem qom {l:List Int} {s:List Pt} (r0:Rl 2 2 30 0 26 3 ([(1,.ls 1 l.length),(2,.pp 2 0),(5,.pv (iV ((0:Nat):Int)))]) (ql2 l s) (.exit 0) ([]) ([])) :
 Fn 30 2 [qaw 0 s,.ls 1 l.length] [(0,0,qai s),(1,0,zrI l)] (.pv (.bool true)) 0 []:=
 Fz [] [Lf r0]
  tI (Lo r0 [] tI)
end Go.Proofs.Ytgbmdijodlfcaaa

namespace Go.Proofs.Ytgbmdijodlfcaaa
set_option maxRecDepth 100000
open Go.RowKit
abbrev qqY (l:List Int) (m:List Int) (n:Nat) (s:List Pt) (td:Int) (tn:Int):HpL:=[(2,0,.ls 0 s.length),(3,0,.pv (iV tn)),(3,1,.pv (iV td)),(4,0,.pv (.slice none 0 0)),(4,1,.pv (.slice none 0 0)),(8,0,.ls 6 l.length),(8,1,.ls 7 n),(0,0,qai s),(1,0,zrI l),(6,0,zrI l),(7,0,.row 3 1 n (ziV m))]
abbrev qsg (s:List Pt) (td:Int) (tn:Int) (v:Int) (x:Int) (y:Int):Prop:=Fn 74 1 [qaw 0 s,.pv (qab tn td),.pv (iV (x)),.pv (iV (y))] [(0,0,qai s)] (.pv (iV (v))) 0 []
abbrev qsh (z:Int):TmL:=[(3,.pp 2 0),(4,.pp 3 0),(6,.pp 4 0),(7,.pp 8 0),(8,.pv (iV (z)))]
theorem qlq {l m:List Int} {s:List Pt} {n:Nat} {x y z z2 v tn td e1 e2:Int} {z4:Int} (h0:decide (z≥0)=true) (hm:iV (IntKind.i64.wrap (2*z))=iV (z2)) (ha:iV (IntKind.i64.wrap (z2+1))=iV (e1)) (hx:Fn 52 2 [.ag [.ls 0 l.length,.ls 1 n],.pv (iV (e1))] [(0,0,.row 3 1 l.length (ziV l)),(1,0,.row 3 1 n (ziV m))] (.pv (iV (x))) 0 []) (hb:iV (IntKind.i64.wrap (z2+2))=iV (e2)) (hy:Fn 52 2 [.ag [.ls 0 l.length,.ls 1 n],.pv (iV (e2))] [(0,0,.row 3 1 l.length (ziV l)),(1,0,.row 3 1 n (ziV m))] (.pv (iV (y))) 0 []) (hw:qsg s td tn v x y) (hix:0≤z∧z<(n:Int)) (hg:z.toNat<m.length) (hd:iV (IntKind.i64.wrap (z-1))=iV (z4)) {e:Exit} {tm2:TmL} {hp2:HpL}
 (r:Rl 2 2 51 0 43 9 ([(3,.pp 2 0),(4,.pp 3 0),(6,.pp 4 0),(7,.pp 8 0),(8,.pv (iV (z4)))]) ([(2,0,.ls 0 s.length),(3,0,.pv (iV tn)),(3,1,.pv (iV td)),(4,0,.pv (.slice none 0 0)),(4,1,.pv (.slice none 0 0)),(8,0,.ls 6 l.length),(8,1,.ls 7 n),(0,0,qai s),(1,0,zrI l),(6,0,zrI l),(7,0,.row 3 1 n (ziV (m.set z.toNat v)))]) e tm2 hp2):Rl 2 2 51 0 43 9 (qsh z) (qqY l m n s td tn) e tm2 hp2:=
 RunsL.next [] 300 [.t true,Re hm,Re ha,Cf hx [6,7],Re hm,Re hb,Cf hy [6,7],Cf hw [0],.w (ziV (m.set z.toNat v)),Re hd]
  (Ro (Ai h0 (Ai hm (Ai ha (Co hx [6,7] 9 (Ai hm (Ai hb (Co hy [6,7] 9 (Co hw [0] 9 (Ai hix (Ai (qsG m z.toNat v hg) (Ai (qlZ m z.toNat hg) (Ai hd tI))))))))))))) r
theorem qnK {l m:List Int} {s:List Pt} {n:Nat} {z tn td:Int} (h0:decide (z≥0)=false):Rl 2 2 51 0 43 9 (qsh z) (qqY l m n s td tn) (.exit 0) ([(6,.pp 4 0),(7,.pp 8 0)]) (qqY l m n s td tn):=
 RunsL.stop [] 300 [.t false] (fun h=>by cases h)
  (Ro (Ai h0 tI))
theorem qlH {l m:List Int} {s:List Pt} {n:Nat} {z tn td:Int} (nl:0+l.length≤1000000) (hs:iV (IntKind.i64.wrap ((l.length:Int)-1))=iV (n:Int)) (n0:0≤(n:Int)) (n1:(n:Int)≤1000000) (hd:iV (IntKind.i64.wrap ((n:Int)-1))=iV (z)) (r0:Rl 2 2 51 0 43 9 (qsh z) ([(2,0,.ls 0 s.length),(3,0,.pv (iV tn)),(3,1,.pv (iV td)),(4,0,.pv (.slice none 0 0)),(4,1,.pv (.slice none 0 0)),(8,0,.ls 6 l.length),(8,1,.ls 7 n),(0,0,qai s),(1,0,zrI l),(6,0,zrI l),(7,0,.row 3 1 n (ziV (List.replicate n 0)))]) (.exit 0) ([(6,.pp 4 0),(7,.pp 8 0)]) (qqY l m n s td tn)) :
 Fn 51 2 [qaw 0 s,.pv (qab tn td),.ls 1 l.length] [(0,0,qai s),(1,0,zrI l)] (.ag [.ls 2 l.length,.ls 3 n]) 2 [(2,0,zrI l),(3,0,.row 3 1 n (ziV m))]:=
 Fz [(2,6),(3,7)] [.md,Re hs,Re hd,Lf r0]
  (qcb (qaT [(2,6),(3,7)]) [(2,0,zrI l),(3,0,.row 3 1 n (ziV m))]) (Ai nl (Ai hs (Ai n0 (Ai (Eq.refl (n:Int)) (Ai n1 (Ai hd (Ai (Lt r0 []) (Ai (Ai (Er (SV.ls 0 s.length)) (Ai (Er (SV.pv (iV tn))) (Ai (Er (SV.pv (iV td))) (Ai (Er (SV.pv (.slice none 0 0))) (Ai (Er (SV.pv (.slice none 0 0))) (Ai (congrArg some (congrArg (SV.ls 6) (Nat.zero_add l.length))) (Ai (Er (SV.ls 7 n)) (Ai (Er (qai s)) (Ai (Er (zrI l)) (Ai (qfS l.length (ziV l)) (Ai (qgq n) tI))))))))))) (Ai r0 tI)))))))))
theorem qlv {l:List Int} {s:List Pt} {tn td e:Int} (ht:Fn 29 1 [qaw 0 s,.pv (qab tn td)] [(0,0,qai s)] (.pv (iV (e))) 0 []) (he:(e !=0)=true) :
 Fn 22 2 [qaw 0 s,.pv (qab tn td),.ls 1 l.length] [(0,0,qai s),(1,0,zrI l)] (.pv (.tuple #[.agg #[.slice none 0 0,.slice none 0 0],iV e])) 0 []:=
 Fz [] [Cf ht [0],.t true]
  tI (Co ht [0] 5 (Ai he tI))
abbrev qmH (s:List Pt) (td:Int) (tn:Int):Prop:=Fn 29 1 [qaw 0 s,.pv (qab tn td)] [(0,0,qai s)] (.pv (iV (0))) 0 []
theorem qpK {l:List Int} {s:List Pt} {tn td:Int} (ht:qmH s td tn) (h1:decide ((l.length:Int)<1)=true) :
 Fn 22 2 [qaw 0 s,.pv (qab tn td),.ls 1 l.length] [(0,0,qai s),(1,0,zrI l)] (.pv (.tuple #[.agg #[.slice none 0 0,.slice none 0 0],iV 2])) 0 []:=
 Fz [] [Cf ht [0],.k,.t true]
  tI (Co ht [0] 5 (Ai h1 tI))
theorem qps {l:List Int} {s:List Pt} {tn td:Int} (ht:qmH s td tn) (h1:decide ((l.length:Int)<1)=false) (hh:decide ((l.length:Int)>64)=true) :
 Fn 22 2 [qaw 0 s,.pv (qab tn td),.ls 1 l.length] [(0,0,qai s),(1,0,zrI l)] (.pv (.tuple #[.agg #[.slice none 0 0,.slice none 0 0],iV 2])) 0 []:=
 Fz [] [Cf ht [0],.k,.t false,.t true]
  tI (Co ht [0] 5 (Ai h1 (Ai hh tI)))
theorem qpS {l:List Int} {s:List Pt} {tn td:Int} (ht:qmH s td tn) (h1:decide ((l.length:Int)<1)=false) (hh:decide ((l.length:Int)>64)=false) (hkn:Fn 30 2 [qaw 0 s,.ls 1 l.length] [(0,0,qai s),(1,0,.row 3 1 l.length (ziV l))] (.pv (.bool false)) 0 []) :
 Fn 22 2 [qaw 0 s,.pv (qab tn td),.ls 1 l.length] [(0,0,qai s),(1,0,zrI l)] (.pv (.tuple #[.agg #[.slice none 0 0,.slice none 0 0],iV 6])) 0 []:=
 Fz [] [Cf ht [0],.k,.t false,.t false,Cf hkn [0,1],.k]
  tI (Co ht [0] 5 (Ai h1 (Ai hh (Co hkn [0,1] 5 tI))))
theorem qmO {l:List Int} {s:List Pt} {tn td:Int} (ht:qmH s td tn) (h1:decide ((l.length:Int)<1)=false) (hh:decide ((l.length:Int)>64)=false) (hkn:Fn 30 2 [qaw 0 s,.ls 1 l.length] [(0,0,qai s),(1,0,.row 3 1 l.length (ziV l))] (.pv (.bool true)) 0 []) (h2:Fn 31 1 [.ls 0 l.length] [(0,0,.row 3 1 l.length (ziV l))] (.pv (.bool true)) 0 []) :
 Fn 22 2 [qaw 0 s,.pv (qab tn td),.ls 1 l.length] [(0,0,qai s),(1,0,zrI l)] (.pv (.tuple #[.agg #[.slice none 0 0,.slice none 0 0],iV 14])) 0 []:=
 Fz [] [Cf ht [0],.k,.t false,.t false,Cf hkn [0,1],.k,Cf h2 [1]]
  tI (Co ht [0] 5 (Ai h1 (Ai hh (Co hkn [0,1] 5 (Co h2 [1] 5 tI)))))
theorem qpx {l m:List Int} {s:List Pt} {n:Nat} {tn td:Int} (ht:qmH s td tn) (h1:decide ((l.length:Int)<1)=false) (hh:decide ((l.length:Int)>64)=false) (hkn:Fn 30 2 [qaw 0 s,.ls 1 l.length] [(0,0,qai s),(1,0,.row 3 1 l.length (ziV l))] (.pv (.bool true)) 0 []) (h2:Fn 31 1 [.ls 0 l.length] [(0,0,.row 3 1 l.length (ziV l))] (.pv (.bool false)) 0 []) (hbt:Fn 51 2 [qaw 0 s,.pv (qab tn td),.ls 1 l.length] [(0,0,qai s),(1,0,zrI l)] (.ag [.ls 2 l.length,.ls 3 n]) 2 [(2,0,zrI l),(3,0,.row 3 1 n (ziV m))]) :
 Fn 22 2 [qaw 0 s,.pv (qab tn td),.ls 1 l.length] [(0,0,qai s),(1,0,zrI l)] (.tu [.ag [.ls 2 l.length,.ls 3 n],.one (.pv (iV 0))]) 2 [(2,0,zrI l),(3,0,.row 3 1 n (ziV m))]:=
 Fz [(2,5),(3,6)] [Cf ht [0],.k,.t false,.t false,Cf hkn [0,1],.k,Cf h2 [1],Cf hbt [0,1]]
  (qcb (qaT [(2,5),(3,6)]) [(2,0,zrI l),(3,0,.row 3 1 n (ziV m))]) (Co ht [0] 5 (Ai h1 (Ai hh (Co hkn [0,1] 5 (Co h2 [1] 5 (Co hbt [0,1] 5 tI))))))
theorem qod {b:Br} (hc:Fn 26 2 [brS 0 1 b] [(0,0,zrI b.p),(1,0,zrI b.w)] (.pv (iV (8))) 0 []) :
 Fn 23 2 [brS 0 1 b] [(0,0,zrI b.p),(1,0,zrI b.w)] (.pv (.tuple #[iV 0,iV 8])) 0 []:=
 Fz [] [Cf hc [0,1],.k]
  tI (Co hc [0,1] 3 tI)
theorem qpT {b:Br} {x:Int} (hc:Fn 26 2 [brS 0 1 b] [(0,0,zrI b.p),(1,0,zrI b.w)] (.pv (iV (0))) 0 []) (hn:Fn 52 2 [brS 0 1 b,.pv (iV (0))] [(0,0,zrI b.p),(1,0,zrI b.w)] (.pv (iV (x))) 0 []) (hx:decide (x<0)=true) :
 Fn 23 2 [brS 0 1 b] [(0,0,zrI b.p),(1,0,zrI b.w)] (.pv (.tuple #[iV 0,iV 42])) 0 []:=
 Fz [] [Cf hc [0,1],.k,Cf hn [0,1],.t true]
  tI (Co hc [0,1] 3 (Co hn [0,1] 3 (Ai hx tI)))
theorem qpz {b:Br} {x:Int} (hc:Fn 26 2 [brS 0 1 b] [(0,0,zrI b.p),(1,0,zrI b.w)] (.pv (iV (0))) 0 []) (hn:Fn 52 2 [brS 0 1 b,.pv (iV (0))] [(0,0,zrI b.p),(1,0,zrI b.w)] (.pv (iV (x))) 0 []) (hx:decide (x<0)=false) :
 Fn 23 2 [brS 0 1 b] [(0,0,zrI b.p),(1,0,zrI b.w)] (.pv (.tuple #[iV x,iV 0])) 0 []:=
 Fz [] [Cf hc [0,1],.k,Cf hn [0,1],.t false,Cf hn [0,1]]
  tI (Co hc [0,1] 3 (Co hn [0,1] 3 (Ai hx (Co hn [0,1] 3 tI))))
theorem qlK {n:Nat} {x y z:Int} {vs:List Value} (h0:decide (z>0)=true) (h1:iV (IntKind.i64.wrap (z-1))=iV (x)) (nz:¬ (2:Int)=0) (hq:iV (IntKind.i64.wrap (Int.tdiv x 2))=iV (y)) (hn:n+1≤1000000) {e:Exit} {tm2:TmL} {hp2:HpL}
 (r:Rl 2 2 53 0 22 4 ([(5,.ls 3 (n+1)),(6,.pv (iV (y)))]) ([(3,0,.row 3 1 (n+1) (vs++[iV y]))]) e tm2 hp2):Rl 2 2 53 0 22 4 ([(5,.ls 3 (n)),(6,.pv (iV (z)))]) ([(3,0,.row 3 1 (n) (vs))]) e tm2 hp2:=
 RunsL.next [(3,5)] 300 [.t true,Re h1,Re hq]
  (Ro (Ai h0 (Ai h1 (Ai nz (Ai hq (Ai hn tI)))))) r
theorem qol {n:Nat} {z:Int} {vs:List Value} (h0:decide (z>0)=false):Rl 2 2 53 0 22 4 ([(5,.ls 3 (n)),(6,.pv (iV (z)))]) ([(3,0,.row 3 1 (n) (vs))]) (.exit 0) ([(5,.ls 3 n)]) ([(3,0,.row 3 1 (n) (vs))]):=
 RunsL.stop [] 300 [.t false] (fun h=>by cases h)
  (Ro (Ai h0 tI))
theorem qlm {b:Br} {n:Nat} {z pz:Int} {vs:List Value} (hs:iV (IntKind.i64.wrap (pz+(b.w.length:Int)))=iV (z)) (r0:Rl 2 2 53 0 22 4 ([(5,.ls 3 (0)),(6,.pv (iV (z)))]) ([(3,0,.row 3 1 (0) ([]))]) (.exit 0) ([(5,.ls 3 n)]) ([(3,0,.row 3 1 (n) (vs))])) :
 Fn 53 2 [brS 0 1 b,.pv (iV (pz))] [(0,0,zrI b.p),(1,0,zrI b.w)] (.ls 2 n) 1 [(2,0,.row 3 1 n vs)]:=
 Fz [(2,3)] [Re hs,.ln true 5 0 3 1,Lf r0]
  (qcb (qaT [(2,3)]) [(2,0,.row 3 1 n vs)]) (Ai hs (Lo r0 [] tI))
theorem qnU {b:Br} {pz:Int} (hc:Fn 26 2 [brS 0 1 b] [(0,0,zrI b.p),(1,0,zrI b.w)] (.pv (iV (8))) 0 []) :
 Fn 24 2 [brS 0 1 b,.pv (iV (pz))] [(0,0,zrI b.p),(1,0,zrI b.w)] (.pv (.tuple #[.slice none 0 0,iV 8])) 0 []:=
 Fz [] [Cf hc [0,1],.k]
  tI (Co hc [0,1] 3 tI)
theorem qqJ {b:Br} {pz:Int} (hc:Fn 26 2 [brS 0 1 b] [(0,0,zrI b.p),(1,0,zrI b.w)] (.pv (iV (0))) 0 []) (h1:decide (pz<0)=true) :
 Fn 24 2 [brS 0 1 b,.pv (iV (pz))] [(0,0,zrI b.p),(1,0,zrI b.w)] (.pv (.tuple #[.slice none 0 0,iV 2])) 0 []:=
 Fz [] [Cf hc [0,1],.k,.t true]
  tI (Co hc [0,1] 3 (Ai h1 tI))
theorem qqp {b:Br} {pz:Int} (hc:Fn 26 2 [brS 0 1 b] [(0,0,zrI b.p),(1,0,zrI b.w)] (.pv (iV (0))) 0 []) (h1:decide (pz<0)=false) (h2:decide (pz≥(b.p.length:Int))=true) :
 Fn 24 2 [brS 0 1 b,.pv (iV (pz))] [(0,0,zrI b.p),(1,0,zrI b.w)] (.pv (.tuple #[.slice none 0 0,iV 2])) 0 []:=
 Fz [] [Cf hc [0,1],.k,.t false,.t true]
  tI (Co hc [0,1] 3 (Ai h1 (Ai h2 tI)))
theorem qpu {b:Br} {g:List Int} {pz:Int} (hc:Fn 26 2 [brS 0 1 b] [(0,0,zrI b.p),(1,0,zrI b.w)] (.pv (iV (0))) 0 []) (h1:decide (pz<0)=false) (h2:decide (pz≥(b.p.length:Int))=false) (hy:Fn 53 2 [brS 0 1 b,.pv (iV (pz))] [(0,0,zrI b.p),(1,0,zrI b.w)] (.ls 2 g.length) 1 [(2,0,zrI g)]) :
 Fn 24 2 [brS 0 1 b,.pv (iV (pz))] [(0,0,zrI b.p),(1,0,zrI b.w)] (.tu [.one (.ls 2 g.length),.one (.pv (iV 0))]) 1 [(2,0,zrI g)]:=
 Fz [(2,3)] [Cf hc [0,1],.k,.t false,.t false,Cf hy [0,1]]
  (qcb (qaT [(2,3)]) [(2,0,zrI g)]) (Co hc [0,1] 3 (Ai h1 (Ai h2 (Co hy [0,1] 3 tI))))
abbrev qr5 (k:Nat):TmL:=[(3,.pp 3 0),(4,.pp 4 0),(5,.pp 5 0),(7,.pv (iV (k:Int)))]
theorem qkR {b:Br} {s:List Pt} {k:Nat} {x y z2 v tn td e1 e2 id:Int} (hk:b.w[k]?=some id) (hin:0≤(k:Int)∧(k:Int)<(b.w.length:Int)) (hlt:decide ((k:Int)<(b.w.length:Int))=true) (hm:iV (IntKind.i64.wrap (2*(k:Int)))=iV (z2)) (ha:iV (IntKind.i64.wrap (z2+1))=iV (e1)) (hx:Fn 52 2 [.ag [.ls 0 b.p.length,.ls 1 b.w.length],.pv (iV (e1))] [(0,0,.row 3 1 b.p.length (ziV b.p)),(1,0,.row 3 1 b.w.length (ziV b.w))] (.pv (iV (x))) 0 []) (hb:iV (IntKind.i64.wrap (z2+2))=iV (e2)) (hy:Fn 52 2 [.ag [.ls 0 b.p.length,.ls 1 b.w.length],.pv (iV (e2))] [(0,0,.row 3 1 b.p.length (ziV b.p)),(1,0,.row 3 1 b.w.length (ziV b.w))] (.pv (iV (y))) 0 []) (hw:qsg s td tn v x y) (hv:(id !=v)=false) (hs:iV (IntKind.i64.wrap ((k:Int)+1))=iV (((k+1:Nat):Int))) {e:Exit} {tm2:TmL} {hp2:HpL}
 (r:Rl 3 3 54 0 34 6 ([(3,.pp 3 0),(4,.pp 4 0),(5,.pp 5 0),(7,.pv (iV ((k+1:Nat):Int)))]) ([(3,0,.ls 0 b.p.length),(3,1,.ls 1 b.w.length),(4,0,.ls 2 s.length),(5,0,.pv (iV tn)),(5,1,.pv (iV td)),(0,0,zrI b.p),(1,0,zrI b.w),(2,0,qai s)]) e tm2 hp2):Rl 3 3 54 0 34 6 (qr5 k) ([(3,0,.ls 0 b.p.length),(3,1,.ls 1 b.w.length),(4,0,.ls 2 s.length),(5,0,.pv (iV tn)),(5,1,.pv (iV td)),(0,0,zrI b.p),(1,0,zrI b.w),(2,0,qai s)]) e tm2 hp2:=
 RunsL.next [] 300 [.t true,.r (iV id),Re hm,Re ha,Cf hx [0,1],Re hm,Re hb,Cf hy [0,1],Cf hw [2],.t false,Re hs]
  (Ro (Ai hlt (Ai hin (Ai (qaW hk) (Ai hm (Ai ha (Co hx [0,1] 6 (Ai hm (Ai hb (Co hy [0,1] 6 (Co hw [2] 6 (Ai hv (Ai hs tI))))))))))))) r
theorem qn5 {b:Br} {s:List Pt} {k:Nat} {x y z2 v tn td e1 e2 id:Int} (hk:b.w[k]?=some id) (hin:0≤(k:Int)∧(k:Int)<(b.w.length:Int)) (hlt:decide ((k:Int)<(b.w.length:Int))=true) (hm:iV (IntKind.i64.wrap (2*(k:Int)))=iV (z2)) (ha:iV (IntKind.i64.wrap (z2+1))=iV (e1)) (hx:Fn 52 2 [.ag [.ls 0 b.p.length,.ls 1 b.w.length],.pv (iV (e1))] [(0,0,.row 3 1 b.p.length (ziV b.p)),(1,0,.row 3 1 b.w.length (ziV b.w))] (.pv (iV (x))) 0 []) (hb:iV (IntKind.i64.wrap (z2+2))=iV (e2)) (hy:Fn 52 2 [.ag [.ls 0 b.p.length,.ls 1 b.w.length],.pv (iV (e2))] [(0,0,.row 3 1 b.p.length (ziV b.p)),(1,0,.row 3 1 b.w.length (ziV b.w))] (.pv (iV (y))) 0 []) (hw:qsg s td tn v x y) (hv:(id !=v)=true):Rl 3 3 54 0 34 6 (qr5 k) ([(3,0,.ls 0 b.p.length),(3,1,.ls 1 b.w.length),(4,0,.ls 2 s.length),(5,0,.pv (iV tn)),(5,1,.pv (iV td)),(0,0,zrI b.p),(1,0,zrI b.w),(2,0,qai s)]) (.ret) ([(6,.pv (.bool false))]) ([]):=
 RunsL.stop [] 300 [.t true,.r (iV id),Re hm,Re ha,Cf hx [0,1],Re hm,Re hb,Cf hy [0,1],Cf hw [2],.t true] (fun h=>by cases h)
  (Ro (Ai hlt (Ai hin (Ai (qaW hk) (Ai hm (Ai ha (Co hx [0,1] 6 (Ai hm (Ai hb (Co hy [0,1] 6 (Co hw [2] 6 (Ai hv tI))))))))))))
theorem qnk {b:Br} {s:List Pt} {k:Nat} {tn td:Int} (hge:decide ((k:Int)<(b.w.length:Int))=false):Rl 3 3 54 0 34 6 (qr5 k) ([(3,0,.ls 0 b.p.length),(3,1,.ls 1 b.w.length),(4,0,.ls 2 s.length),(5,0,.pv (iV tn)),(5,1,.pv (iV td)),(0,0,zrI b.p),(1,0,zrI b.w),(2,0,qai s)]) (.exit 0) ([]) ([]):=
 RunsL.stop [] 300 [.t false] (fun h=>by cases h)
  (Ro (Ai hge tI))
theorem qqO {b:Br} {s:List Pt} {tn td:Int} (r0:Rl 3 3 54 0 34 6 ([(3,.pp 3 0),(4,.pp 4 0),(5,.pp 5 0),(7,.pv (iV ((0:Nat):Int)))]) ([(3,0,.ls 0 b.p.length),(3,1,.ls 1 b.w.length),(4,0,.ls 2 s.length),(5,0,.pv (iV tn)),(5,1,.pv (iV td)),(0,0,zrI b.p),(1,0,zrI b.w),(2,0,qai s)]) (.ret) ([(6,.pv (.bool false))]) ([])) :
 Fn 54 3 [brS 0 1 b,qaw 2 s,.pv (qab tn td)] [(0,0,zrI b.p),(1,0,zrI b.w),(2,0,qai s)] (.pv (.bool false)) 0 []:=
 Fz [] [Lf r0]
  tI (Lo r0 [] tI)
theorem qnd {b:Br} {s:List Pt} {tn td:Int} (r0:Rl 3 3 54 0 34 6 ([(3,.pp 3 0),(4,.pp 4 0),(5,.pp 5 0),(7,.pv (iV ((0:Nat):Int)))]) ([(3,0,.ls 0 b.p.length),(3,1,.ls 1 b.w.length),(4,0,.ls 2 s.length),(5,0,.pv (iV tn)),(5,1,.pv (iV td)),(0,0,zrI b.p),(1,0,zrI b.w),(2,0,qai s)]) (.exit 0) ([]) ([])) :
 Fn 54 3 [brS 0 1 b,qaw 2 s,.pv (qab tn td)] [(0,0,zrI b.p),(1,0,zrI b.w),(2,0,qai s)] (.pv (.bool true)) 0 []:=
 Fz [] [Lf r0]
  tI (Lo r0 [] tI)
theorem qmR {b:Br} {s:List Pt} {tn td:Int} (hc:Fn 26 2 [brS 0 1 b] [(0,0,zrI b.p),(1,0,zrI b.w)] (.pv (iV (8))) 0 []) :
 Fn 25 3 [brS 0 1 b,qaw 2 s,.pv (qab tn td)] [(0,0,zrI b.p),(1,0,zrI b.w),(2,0,qai s)] (.pv (.tuple #[.bool false,iV 8])) 0 []:=
 Fz [] [Cf hc [0,1],.k]
  tI (Co hc [0,1] 6 tI)
theorem qlk {b:Br} {s:List Pt} {tn td e:Int} (hc:Fn 26 2 [brS 0 1 b] [(0,0,zrI b.p),(1,0,zrI b.w)] (.pv (iV (0))) 0 []) (ht:Fn 29 1 [qaw 0 s,.pv (qab tn td)] [(0,0,qai s)] (.pv (iV (e))) 0 []) (he:(e !=0)=true) :
 Fn 25 3 [brS 0 1 b,qaw 2 s,.pv (qab tn td)] [(0,0,zrI b.p),(1,0,zrI b.w),(2,0,qai s)] (.pv (.tuple #[.bool false,iV e])) 0 []:=
 Fz [] [Cf hc [0,1],.k,Cf ht [2],.t true]
  tI (Co hc [0,1] 6 (Co ht [2] 6 (Ai he tI)))
theorem qp9 {b:Br} {s:List Pt} {tn td:Int} (hc:Fn 26 2 [brS 0 1 b] [(0,0,zrI b.p),(1,0,zrI b.w)] (.pv (iV (0))) 0 []) (ht:qmH s td tn) (hkn:Fn 30 2 [qaw 0 s,.ls 1 b.p.length] [(0,0,qai s),(1,0,.row 3 1 b.p.length (ziV b.p))] (.pv (.bool false)) 0 []) :
 Fn 25 3 [brS 0 1 b,qaw 2 s,.pv (qab tn td)] [(0,0,zrI b.p),(1,0,zrI b.w),(2,0,qai s)] (.pv (.tuple #[.bool false,iV 6])) 0 []:=
 Fz [] [Cf hc [0,1],.k,Cf ht [2],.k,Cf hkn [2,0],.k]
  tI (Co hc [0,1] 6 (Co ht [2] 6 (Co hkn [2,0] 6 tI)))
theorem qqx {b:Br} {s:List Pt} {tn td:Int} {w:Bool} (hc:Fn 26 2 [brS 0 1 b] [(0,0,zrI b.p),(1,0,zrI b.w)] (.pv (iV (0))) 0 []) (ht:qmH s td tn) (hkn:Fn 30 2 [qaw 0 s,.ls 1 b.p.length] [(0,0,qai s),(1,0,.row 3 1 b.p.length (ziV b.p))] (.pv (.bool true)) 0 []) (hf:Fn 54 3 [brS 0 1 b,qaw 2 s,.pv (qab tn td)] [(0,0,zrI b.p),(1,0,zrI b.w),(2,0,qai s)] (.pv (.bool w)) 0 []) :
 Fn 25 3 [brS 0 1 b,qaw 2 s,.pv (qab tn td)] [(0,0,zrI b.p),(1,0,zrI b.w),(2,0,qai s)] (.pv (.tuple #[.bool w,iV 0])) 0 []:=
 Fz [] [Cf hc [0,1],.k,Cf ht [2],.k,Cf hkn [2,0],.k,Cf hf [0,1,2]]
  tI (Co hc [0,1] 6 (Co ht [2] 6 (Co hkn [2,0] 6 (Co hf [0,1,2] 6 tI))))
end Go.Proofs.Ytgbmdijodlfcaaa

namespace Go.Proofs.Ytgbmdijodlfcaaa
set_option maxRecDepth 100000
open Go.RowKit
noncomputable def pB (p:Prop):Bool:=open Classical in decide p
open Classical in
theorem qew {p:Prop} (h:p):pB p=true:=by unfold pB;exact decide_eq_true h
open Classical in
theorem qdM {p:Prop} (h:¬ p):pB p=false:=by unfold pB;exact decide_eq_false h
theorem qeh (a:Int):MapK Try.prog 118 3 4 (iV a) (fun x=>∃ b,x=iV b) (.bool false):=
 qiH (by kernel_rfl) Try.underlying3 (fun w=>qde (by kernel_rfl) w) a
theorem qkc (m:List Int):∀ p∈qoG m,∃ b,p.1=iV b:=fun p hp=>by
 obtain⟨q,_,rfl⟩:=List.mem_map.1 hp
 exact⟨q,rfl⟩
theorem qmq {m:List Int} {x:Int} (h:x∉m):qaQ Try.prog 118 (qc7 m) (.int .i64 x) false (.bool false):=
 qh7 (qeh x) (qkc m) (fun q hq e=>by
  obtain⟨r,hr,rfl⟩:=List.mem_map.1 hq
  exact h (qdo e▸hr)) false
theorem qnI {m:List Int} {x:Int} (h:x∈m):qaQ Try.prog 118 (qc7 m) (iV x) false (.bool true):=
 qgN (v:=.bool true) (qeh x) (qkc m) (List.mem_map.2 ⟨x,h,rfl⟩) (fun r hr _=>by
  obtain⟨s,_,rfl⟩:=List.mem_map.1 hr
  rfl) false
theorem qep {m:List Int} {x:Int} (h:x∉m):qdI Try.prog 118 (qc7 m) (.int .i64 x) (.bool true) (qc7 (m++[x])):=by
 have:=qi1 (qeh x) (qkc m) (fun q hq e=>by
  obtain⟨r,hr,rfl⟩:=List.mem_map.1 hq
  exact h (qdo e▸hr)) (.bool true)
 show qdI _ _ _ _ _ (kvL (qoG (m++[x])))
 rw[show qoG (m++[x])=qoG m++[(.int .i64 x,.bool true)] by simp[qoG]]
 exact this
theorem qmo {q:IntKind} {a:Int}:∀ (l:List MapEntry) (i:Nat),(∀ x∈l,∃ b,x.key=.int q b)→(∃ x∈l,x.key=.int q a)→∃ j e,l[j]?=some e∧e.key=.int q a∧Instr.findNow (.int q) (.int q a) l i=some (some (i+j,e.val))
 | [],_,_,h=>by obtain⟨x,hx,_⟩:=h;cases hx
 | x::r,i,h,hex=>by
  obtain⟨b,hb⟩:=h x (by simp)
  by_cases hab:a=b
  ·subst hab
   exact⟨0,x,rfl,hb,by simp[Instr.findNow,hb,Instr.sameNow]⟩
  ·have hf:(a==b)=false:=by simpa using hab
   obtain⟨y,hy,hya⟩:=hex
   have hyr:y∈r:=by
    rcases List.mem_cons.1 hy with rfl | hy
    ·rw[hb] at hya;injection hya with _ e;exact (hab e.symm).elim
    ·exact hy
   obtain⟨j,e,h1,h2,h3⟩:=qmo (q:=q) (a:=a) r (i+1) (fun y hy=>h y (by simp[hy])) ⟨y,hyr,hya⟩
   exact⟨j+1,e,by simpa using h1,h2,by simp[Instr.findNow,hb,Instr.sameNow,hf,h3];omega⟩
theorem qik {m:List Int} {x:Int} (h:x∈m):qdI Try.prog 118 (qc7 m) (iV x) (.bool true) (qc7 m):=by
 intro w r ⟨en,clock,hb,hx⟩
 have M:=qeh x
 have hin:=qdj (K:=fun x=>∃ b,x=iV b) hx (qkc m)
 obtain⟨y,hy,hyk⟩:=qmh hx (p:=(iV x,.bool true)) (List.mem_map.2 ⟨x,h,rfl⟩)
 obtain⟨j,e,h1,h2,h3⟩:=qmo (q:=.i64) (a:=x) en.toList 0 (fun z hz=>(hin z hz).1) ⟨y,hy,hyk⟩
 have hv:e.val=.bool true:=by
  obtain⟨z,_,hz⟩:=List.mem_map.1 (hin e (List.mem_of_getElem? h1)).2
  injection hz with _ hz
  exact hz.symm
 have hf:(Instr.findKey 3 (iV x) en.toList).run Try.prog w=.ok (some (0+j,e.val)) w:=MapKept.run_findKey Try.underlying3 h3
 rw[Nat.zero_add] at hf
 have hj:en[j]?=some e:=by rw[← Array.getElem?_toList];exact h1
 have hm:en.modify j (fun e=>{ e with key:=iV x,val:=.bool true })=en:=by
  apply Array.ext (by simp)
  intro i hi hi'
  rw[Array.getElem_modify]
  split
  ·rename_i e1
   subst e1
   have:en[j]=e:=by
    have:=Array.getElem?_eq_getElem hi'
    rw[hj] at this
    exact (Option.some.inj this).symm
   rw[this,← h2,← hv]
  ·rfl
 have hs:(Instr.keyThatStays (iV x) (iV x)).run Try.prog w=.ok (iV x) w:=by
  simp[Instr.keyThatStays,Instr.sameBits]
 refine⟨en,clock,?_,hx⟩
 simp[Instr.mapUpdate,run_underlying M.ty,MapKept.run_getObj_map hb,M.ck,hf,hj,h2,hs,hm,MapKept.run_setObj_map _ hb,Result.andThen]
def OneN (l:List Int):Prop:=∀ (i k:Nat) (x:Int),l[i]?=some x→l[k]?=some x→x≠-1→i=k
theorem OneN.b {l:List Int} (h:OneN l):OneB l:=fun i k x hi hk h0=>h i k x hi hk (by omega)
theorem OneB.n {l:List Int} (h:OneB l) (hr:∀ x∈l,-1≤x):OneN l:=fun i k x hi hk h0=>h i k x hi hk (by have:=hr x (List.mem_of_getElem? hi);omega)
theorem qfK {l:List Int} (hn:l.length≤1000000):∀ (d k:Nat) (m:List Int),k+d=l.length→(∀ x,x∈m↔x∈l.take k)→(∀ (i j:Nat) (x:Int),i<k→j<k→l[i]?=some x→l[j]?=some x→x≠-1→i=j)→
 (OneN l∧RunsL Try.prog 1 1 (qgj Try.prog 66 0) 25 2 [(3,.mp 1),(9,.ls 0 l.length),(10,.pv (.int .i64 (l.length:Int))),(11,.pv (.int .i64 (k:Int)))] [(1,0,.mrow (qc7 m)),(0,0,zrI l)] (.exit 0) [] [])∨
 (¬ OneN l∧RunsL Try.prog 1 1 (qgj Try.prog 66 0) 25 2 [(3,.mp 1),(9,.ls 0 l.length),(10,.pv (.int .i64 (l.length:Int))),(11,.pv (.int .i64 (k:Int)))] [(1,0,.mrow (qc7 m)),(0,0,zrI l)] .ret [(2,.pv (.bool true))] [])
 | 0,k,m,hd,_,h1=>Or.inl ⟨fun i j x hi hj h0=>h1 i j x (by have:=qat hi;omega) (by have:=qat hj;omega) hi hj h0,qmL (hge:=df (by omega))⟩
 | d+1,k,m,hd,hm,h1=>by
  obtain⟨x,hx⟩:=qal (l:=l) (k:=k) (by omega)
  have hk:=qat hx
  have hs:=qdk hx
  have up:(x≠-1→x∉m)→(∀ (i j:Nat) (y:Int),i<k+1→j<k+1→l[i]?=some y→l[j]?=some y→y≠-1→i=j):=fun hno i j y hi hj e1 e2 h0=>by
   rcases Nat.lt_or_ge i k with a | a<;>rcases Nat.lt_or_ge j k with c | c
   ·exact h1 i j y a c e1 e2 h0
   ·have:j=k:=by omega
    subst this
    rw[hx] at e2;cases e2
    exact (hno h0 ((hm x).2 (List.mem_of_getElem? (i:=i) (by rw[List.getElem?_take,if_pos a];exact e1)))).elim
   ·have:i=k:=by omega
    subst this
    rw[hx] at e1;cases e1
    exact (hno h0 ((hm x).2 (List.mem_of_getElem? (i:=j) (by rw[List.getElem?_take,if_pos c];exact e2)))).elim
   ·omega
  by_cases hin:x∈m
  ·by_cases h0:x = -1
   ·have ih:=qfK hn d (k+1) m (by omega) (fun y=>by rw[hs,List.mem_append,← hm y,List.mem_singleton];exact⟨Or.inl,fun h=>h.elim id fun h=>h▸hin⟩) (up fun h=>(h h0).elim)
    exact ih.imp (fun ⟨a,r⟩=>⟨a,qda (hk:=hx) (hin:=qao hk) (hlt:=dt (by omega)) (hx:=by simp[h0]) (hP:=qik hin) (hs:=qap (by omega)) r⟩) (fun ⟨a,r⟩=>⟨a,qda (hk:=hx) (hin:=qao hk) (hlt:=dt (by omega)) (hx:=by simp[h0]) (hP:=qik hin) (hs:=qap (by omega)) r⟩)
   ·refine Or.inr ⟨fun H=>?_,qna (hk:=hx) (hin:=qao hk) (hlt:=dt (by omega)) (hx:=by simpa using h0) (hL:=qnI hin)⟩
    obtain⟨i,hi⟩:=List.getElem?_of_mem ((hm x).1 hin)
    have hl:=qat hi
    rw[List.length_take] at hl
    rw[List.getElem?_take,if_pos (by omega)] at hi
    have:=H i k x hi hx h0
    omega
  ·have ih:=qfK hn d (k+1) (m++[x]) (by omega) (fun y=>by rw[hs,List.mem_append,List.mem_append,hm y]) (up fun _=>hin)
   by_cases h0:x = -1
   ·exact ih.imp (fun ⟨a,r⟩=>⟨a,qda (hk:=hx) (hin:=qao hk) (hlt:=dt (by omega)) (hx:=by simp[h0]) (hP:=qep hin) (hs:=qap (by omega)) r⟩) (fun ⟨a,r⟩=>⟨a,qda (hk:=hx) (hin:=qao hk) (hlt:=dt (by omega)) (hx:=by simp[h0]) (hP:=qep hin) (hs:=qap (by omega)) r⟩)
   ·exact ih.imp (fun ⟨a,r⟩=>⟨a,qgk (hk:=hx) (hin:=qao hk) (hlt:=dt (by omega)) (hx:=by simpa using h0) (hL:=qmq hin) (hP:=qep hin) (hs:=qap (by omega)) r⟩) (fun ⟨a,r⟩=>⟨a,qgk (hk:=hx) (hin:=qao hk) (hlt:=dt (by omega)) (hx:=by simpa using h0) (hL:=qmq hin) (hP:=qep hin) (hs:=qap (by omega)) r⟩)
theorem qiJ {l:List Int} (hn:l.length≤1000000):Fn 66 1 [.ls 0 l.length] [(0,0,zrI l)] (.pv (.bool (pB (¬ OneN l)))) 0 []:=by
 rcases qfK hn l.length 0 [] (by omega) (by simp) (fun i j x hi=>by omega) with ⟨h,r⟩ | ⟨h,r⟩
 ·rw[qdM (fun k=>k h)];exact qo3 (r0:=r)
 ·rw[qew h];exact qoA (r0:=r)
theorem qra {s:List Pt} (hs:Val s):Fn 38 1 [qaw 0 s] [(0,0,qai s)] (.mp 1) 1 [(1,0,.mrow (byV s))]:=by
 have hlen:=hs.len
 refine qka (s:=s) ?_
 have:=RunsL.rounds (P:=Try.prog) (lo:=1) (fr:=1) (c:=qgj Try.prog 38 0) (n:=23) (nb:=3) (fun k=>[(3,.mp 2),(11,.ls 0 s.length),(12,.pv (iV (s.length:Int))),(13,.pv (iV (k:Int)))]) (fun k=>[(2,0,.mrow (byV (s.take k))),(0,0,qai s)])
  (e:=.exit 0) (tm2:=[(3,.mp 2)]) (hp2:=[(2,0,.mrow (byV s)),(0,0,qai s)]) s.length 0 (Nat.zero_add _) (fun k _ hk r=>?_) (by rw[List.take_length];exact qnj (hge:=df (by omega)))
 ·simpa using this
 ·obtain⟨p,hp⟩:=qal hk
  rw[qdk hp] at r
  exact qko (hk:=hp) (hin:=qao hk) (hlt:=dt (by omega)) (hP:=qoT fun q hq=>by
   obtain⟨i,hi,hq'⟩:=qlP hq
   have:=hs.up.mono hi hq' hp
   omega) (hs:=qap (by omega)) r
theorem qcd {s:List Pt} (hs:Val s) {q:Pt} (hq:q∈s):0≤q.id∧q.id≤65535:=by
 have:=qbr.1 (hs.ok q hq)
 omega
theorem qlu {s:List Pt} (hs:Val s) {l:List Int} (hn:l.length≤1000000):Fn 65 2 [.mp 1,.ls 0 l.length] [(0,0,zrI l),(1,0,.mrow (byV s))] (.pv (.bool (pB (KnB s l)))) 0 []:=by
 have step:∀ k,(∀ j,j<k→∀ x,l[j]?=some x→x≠-1→∃ q∈s,q.id=x)→∀ {e:Exit} {tm2:TmL} {hp2:HpL},k≤l.length→
  Rl 3 3 84 0 19 3 [(0,.ls 0 l.length),(1,.pc 80 [.pp 2 0]),(7,.pv (iV (l.length:Int))),(8,.pv (iV (k:Int)))] [(0,0,zrI l),(1,0,.mrow (byV s)),(2,0,.mp 1)] e tm2 hp2→
  Rl 3 3 84 0 19 3 [(0,.ls 0 l.length),(1,.pc 80 [.pp 2 0]),(7,.pv (iV (l.length:Int))),(8,.pv (iV ((0:Nat):Int)))] [(0,0,zrI l),(1,0,.mrow (byV s)),(2,0,.mp 1)] e tm2 hp2:=by
  intro k hk e tm2 hp2 hkl r
  refine RunsL.rounds (fun j=>[(0,.ls 0 l.length),(1,.pc 80 [.pp 2 0]),(7,.pv (iV (l.length:Int))),(8,.pv (iV (j:Int)))]) (fun _=>[(0,0,zrI l),(1,0,.mrow (byV s)),(2,0,.mp 1)]) (N:=k) k 0 (Nat.zero_add _) (fun j _ hj r=>?_) r
  obtain⟨x,hx⟩:=qal (l:=l) (k:=j) (by omega)
  by_cases h0:x = -1
  ·exact qkF (hk:=hx) (hin:=qao (qat hx)) (hlt:=dt (by have:=qat hx;omega)) (hA:=qms fun ⟨q,hq,e⟩=>by have:=(qcd hs hq).1;omega) (hx:=by simp[h0]) (hs:=qap (by omega)) r
  ·obtain⟨q,hq,hqx⟩:=hk j hj x hx h0
   exact qij (hk:=hx) (hin:=qao (qat hx)) (hlt:=dt (by have:=qat hx;omega)) (hA:=qju hs hq hqx true) (hx:=by simpa using h0) (hs:=qap (by omega)) r
 rcases qaC (fun j=>∀ x,l[j]?=some x→x≠-1→∃ q∈s,q.id=x) l.length with h | ⟨j,hj,hb,hf⟩
 ·rw[qew (p:=KnB s l) fun x hx=>by
   obtain⟨k,hk,rfl⟩:=List.getElem_of_mem hx
   exact h k hk _ (List.getElem?_eq_getElem hk)]
  exact qnH (ht:=qpv (hi:=qqL (r0:=step l.length h (Nat.le_refl _) (qmZ (hge:=df (by omega))))))
 ·simp only[Classical.not_forall] at hb
  obtain⟨x,hx,h0,hno⟩:=hb
  rw[qdM (p:=KnB s l) fun h=>hno (h x (List.mem_of_getElem? hx) h0)]
  exact qoV (ht:=qnG (k:=j) (hi:=qoo (r0:=step j hf (by omega) (qlR (hk:=hx) (hin:=qao hj) (hlt:=dt (by omega)) (hA:=qms hno) (hx:=by simpa using h0)))) (h0:=dt (by omega)))
noncomputable def idE (s:List Pt) (l:List Int):Int:=open Classical in if KnB s l then (if OneB l then 0 else 14) else 6
theorem qr7 {s:List Pt} (hs:Val s) {l:List Int} (h:KnB s l):∀ x∈l,-1≤x:=fun x hx=>(qo1 hs h x hx).1
theorem qjJ {s:List Pt} (hs:Val s) {l:List Int} {n:Nat} (hl:l.length=n) (hn:n≤1000000):Fn 39 2 [.mp 1,.ls 0 n] [(0,0,.row 3 1 n (ziV l)),(1,0,.mrow (byV s))] (.pv (iV (idE s l))) 0 []:=by
 subst hl
 have h1:=qlu hs hn
 have h2:=qiJ hn
 unfold idE
 by_cases hk:KnB s l
 ·rw[qew hk] at h1
  rw[if_pos hk]
  by_cases ho:OneB l
  ·rw[qdM (fun k=>k (ho.n (qr7 hs hk)))] at h2
   rw[if_pos ho]
   exact qoR (h1:=h1) (h2:=h2)
  ·rw[qew (fun k=>ho k.b)] at h2
   rw[if_neg ho]
   exact qmz (h1:=h1) (h2:=h2)
 ·rw[qdM hk] at h1
  rw[if_neg hk]
  exact qo4 (h1:=h1)
theorem qkV {l:List Int} (hn:l.length≤1000000):Fn 49 1 [.ls 0 l.length] [(0,0,zrI l)] (.pv (.bool (pB ((∀ x∈l,-1≤x∧x≤65535)∧OneB l)))) 0 []:=by
 have step:∀ k,(∀ j,j<k→∀ x,l[j]?=some x→-1≤x∧x≤65535)→∀ {e:Exit} {tm2:TmL} {hp2:HpL},k≤l.length→
  Rl 1 1 84 0 19 1 [(0,.ls 0 l.length),(1,.pv (.func (.func 72) #[] #[])),(7,.pv (iV (l.length:Int))),(8,.pv (iV (k:Int)))] [(0,0,zrI l)] e tm2 hp2→
  Rl 1 1 84 0 19 1 [(0,.ls 0 l.length),(1,.pv (.func (.func 72) #[] #[])),(7,.pv (iV (l.length:Int))),(8,.pv (iV ((0:Nat):Int)))] [(0,0,zrI l)] e tm2 hp2:=by
  intro k hk e tm2 hp2 hkl r
  refine RunsL.rounds (fun j=>[(0,.ls 0 l.length),(1,.pv (.func (.func 72) #[] #[])),(7,.pv (iV (l.length:Int))),(8,.pv (iV (j:Int)))]) (fun _=>[(0,0,zrI l)]) (N:=k) k 0 (Nat.zero_add _) (fun j _ hj r=>?_) r
  obtain⟨x,hx⟩:=qal (l:=l) (k:=j) (by omega)
  obtain⟨h1,h2⟩:=hk j hj x hx
  exact qkW (hk:=hx) (hin:=qao (qat hx)) (hlt:=dt (by have:=qat hx;omega)) (hlo:=df (by omega)) (hhi:=df (by omega)) (hs:=qap (by omega)) r
 rcases qaC (fun j=>∀ x,l[j]?=some x→-1≤x∧x≤65535) l.length with h | ⟨j,hj,hb,hf⟩
 ·have hr:∀ x∈l,-1≤x∧x≤65535:=fun x hx=>by
   obtain⟨k,hk,rfl⟩:=List.getElem_of_mem hx
   exact h k hk _ (List.getElem?_eq_getElem hk)
  have hc:=qqn (hi:=qqr (r0:=step l.length h (Nat.le_refl _) (qnZ (hge:=df (by omega)))))
  have h2:=qiJ hn
  by_cases ho:OneB l
  ·rw[qdM (fun k=>k (ho.n fun x hx=>(hr x hx).1))] at h2
   rw[qew ⟨hr,ho⟩]
   exact qpA (h1:=hc) (h2:=h2)
  ·rw[qew (fun k=>ho k.b)] at h2
   rw[qdM fun k=>ho k.2]
   exact qnb (h1:=hc) (h2:=h2)
 ·simp only[Classical.not_forall] at hb
  obtain⟨x,hx,hno⟩:=hb
  rw[qdM fun h=>hno (h.1 x (List.mem_of_getElem? hx))]
  refine qqc (h1:=qne (k:=j) (hi:=qow (r0:=step j hf (by omega) ?_)) (h0:=dt (by omega)))
  by_cases h1:x < -1
  ·exact qpP (hk:=hx) (hin:=qao hj) (hlt:=dt (by omega)) (hlo:=dt h1)
  ·exact qqt (hk:=hx) (hin:=qao hj) (hlt:=dt (by omega)) (hlo:=df h1) (hhi:=dt (by omega))
end Go.Proofs.Ytgbmdijodlfcaaa
