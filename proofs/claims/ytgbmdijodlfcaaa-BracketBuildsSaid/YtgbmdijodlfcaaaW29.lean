/-
  Joined: Qr, Qs. Conditions: none.
-/
import Derived.Test.YtgbmdijodlfcaaaW28
import Derived.Test.YtgbmdijodlfcaaaW21
namespace Go.Proofs.Ytgbmdijodlfcaaa
set_option maxRecDepth 100000
open Go.RowKit
theorem qsx (a c:Nat):SV.ag [.ls 5 (0+a),.ls 7 (0+c)]=(SV.ag [.ls 2 a,.ls 3 c]).ren (qaT [(2,5),(3,7)]):=by rw[Nat.zero_add,Nat.zero_add];rfl
theorem qf2 (n:Nat) (xs:List Value):some (SV.row 3 1 (0+n) ([]++xs))=some (SV.row 3 1 n xs):=by rw[Nat.zero_add,List.nil_append]
theorem qlW {l:List Int} {k:Nat} {x:Int} (hk:l[k]?=some x) (hin:0≤(k:Int)∧(k:Int)<(l.length:Int)) (hlt:decide ((k:Int)<(l.length:Int))=true) (hne:(!(x==x))=false) (hs:iV (IntKind.i64.wrap ((k:Int)+1))=iV (((k+1:Nat):Int))) {e:Exit} {tm2:TmL} {hp2:HpL}
 (r:Rl 2 2 27 0 26 2 ([(0,.ls 0 l.length),(1,.ls 1 l.length),(5,.pv (iV ((k+1:Nat):Int)))]) ([(0,0,zrI l),(1,0,zrI l)]) e tm2 hp2):Rl 2 2 27 0 26 2 ([(0,.ls 0 l.length),(1,.ls 1 l.length),(5,.pv (iV (k:Int)))]) ([(0,0,zrI l),(1,0,zrI l)]) e tm2 hp2:=
 RunsL.next [] 300 [.t true,.r (iV x),.r (iV x),.t false,Re hs]
  (Ro (Ai hlt (Ai hin (Ai (qaX hk) (Ai hin (Ai (qaX hk) (Ai hne (Ai hs tI)))))))) r
theorem qnA {l:List Int} {k:Nat} (hge:decide ((k:Int)<(l.length:Int))=false):Rl 2 2 27 0 26 2 ([(0,.ls 0 l.length),(1,.ls 1 l.length),(5,.pv (iV (k:Int)))]) ([(0,0,zrI l),(1,0,zrI l)]) (.exit 0) ([]) ([]):=
 RunsL.stop [] 300 [.t false] (fun h=>by cases h)
  (Ro (Ai hge tI))
theorem qnI {l:List Int} (hl:(!((l.length:Int)==(l.length:Int)))=false) (r0:Rl 2 2 27 0 26 2 ([(0,.ls 0 l.length),(1,.ls 1 l.length),(5,.pv (iV ((0:Nat):Int)))]) ([(0,0,zrI l),(1,0,zrI l)]) (.exit 0) ([]) ([])) :
 Fn 27 2 [.ls 0 l.length,.ls 1 l.length] [(0,0,zrI l),(1,0,zrI l)] (.pv (.bool true)) 0 []:=
 Fz [] [.t false,Lf r0]
  tI (Ai hl (Lo r0 [] tI))
theorem qsm {b:Br} (h1:Fn 27 2 [.ls 0 b.p.length,.ls 1 b.p.length] [(0,0,zrI b.p),(1,0,zrI b.p)] (.pv (.bool true)) 0 []) (h2:Fn 27 2 [.ls 0 b.w.length,.ls 1 b.w.length] [(0,0,zrI b.w),(1,0,zrI b.w)] (.pv (.bool true)) 0 []) :
 Fn 17 4 [brS 0 1 b,brS 2 3 b] [(0,0,zrI b.p),(1,0,zrI b.w),(2,0,zrI b.p),(3,0,zrI b.w)] (.pv (.bool true)) 0 []:=
 Fz [] [Cf h1 [0,2],Cf h2 [1,3]]
  tI (Co h1 [0,2] 6 (Co h2 [1,3] 6 tI))
theorem qrx {b:Br} (h1:decide ((b.p.length:Int)>70)=true) :
 Fn 20 2 [brS 0 1 b] [(0,0,zrI b.p),(1,0,zrI b.w)] (.pv (.bool true)) 0 []:=
 Fz [] [.t true]
  tI (Ai h1 tI)
theorem qr6 {b:Br} (h1:decide ((b.p.length:Int)>70)=false) (h2:decide ((b.w.length:Int)>70)=true) :
 Fn 20 2 [brS 0 1 b] [(0,0,zrI b.p),(1,0,zrI b.w)] (.pv (.bool true)) 0 []:=
 Fz [] [.t false,.t true]
  tI (Ai h1 (Ai h2 tI))
theorem qo2 {b:Br} (h1:decide ((b.p.length:Int)>70)=false) (h2:decide ((b.w.length:Int)>70)=false) :
 Fn 20 2 [brS 0 1 b] [(0,0,zrI b.p),(1,0,zrI b.w)] (.pv (.bool false)) 0 []:=
 Fz [] [.t false,.t false]
  tI (Ai h1 (Ai h2 tI))
theorem qtw {b:Br} (n1:0+b.p.length≤1000000) (n2:0+b.w.length≤1000000) :
 Fn 21 2 [brS 0 1 b] [(0,0,zrI b.p),(1,0,zrI b.w)] (brS 2 3 b) 2 [(2,0,zrI b.p),(3,0,zrI b.w)]:=
 Fx [(2,5),(3,7)] [.md]
  (qsx b.p.length b.w.length) (Ai (qf2 b.p.length (ziV b.p)) (Ai (qf2 b.w.length (ziV b.w)) tI)) (Ai n1 (Ai n2 tI))
theorem qqc {l m:List Int} {j n:Nat} {x z:Int} (h1:decide (z<(n:Int))=true) (hin:0≤z∧z<(n:Int)) (hk:m[z.toNat]?=some x) :
 Fn 52 2 [.ag [.ls 0 j,.ls 1 n],.pv (iV (z))] [(0,0,.row 3 1 j (ziV l)),(1,0,.row 3 1 n (ziV m))] (.pv (iV (x))) 0 []:=
 Fz [] [.t true,.r (iV x)]
  tI (Ai h1 (Ai hin (Ai (qkU hk) tI)))
theorem qmR {l m:List Int} {j n:Nat} {x y z:Int} (h1:decide (z<(n:Int))=false) (hs:iV (IntKind.i64.wrap (z-(n:Int)))=iV (y)) (hin:0≤y∧y<(j:Int)) (hk:l[y.toNat]?=some x) :
 Fn 52 2 [.ag [.ls 0 j,.ls 1 n],.pv (iV (z))] [(0,0,.row 3 1 j (ziV l)),(1,0,.row 3 1 n (ziV m))] (.pv (iV (x))) 0 []:=
 Fz [] [.t false,Re hs,.r (iV x)]
  tI (Ai h1 (Ai hs (Ai hin (Ai (qkU hk) tI))))
abbrev qqU (i:Nat) (k:Nat) (l:List Int):TmL:=[(0,.ls 0 l.length),(3,.pv (iV (i:Int))),(4,.pv (iV (k:Int)))]
theorem qm9 {l:List Int} {i k:Nat} {x y:Int} (hki:decide ((k:Int)<(i:Int))=true) (hi:l[i]?=some x) (hii:0≤(i:Int)∧(i:Int)<(l.length:Int)) (hk:l[k]?=some y) (hin:0≤(k:Int)∧(k:Int)<(l.length:Int)) (h0:decide (x≥0)=false) (hs:iV (IntKind.i64.wrap ((k:Int)+1))=iV (((k+1:Nat):Int))) {e:Exit} {tm2:TmL} {hp2:HpL}
 (r:Rl 1 1 31 1 32 1 ([(0,.ls 0 l.length),(3,.pv (iV (i:Int))),(4,.pv (iV ((k+1:Nat):Int)))]) ([(0,0,zrI l)]) e tm2 hp2):Rl 1 1 31 1 32 1 (qqU i k l) ([(0,0,zrI l)]) e tm2 hp2:=
 RunsL.next [] 300 [.t true,.r (iV x),.t false,Re hs]
  (Ro (Ai hki (Ai hii (Ai (qaX hi) (Ai h0 (Ai hs tI)))))) r
theorem qn4 {l:List Int} {i k:Nat} {x y:Int} (hki:decide ((k:Int)<(i:Int))=true) (hi:l[i]?=some x) (hii:0≤(i:Int)∧(i:Int)<(l.length:Int)) (hk:l[k]?=some y) (hin:0≤(k:Int)∧(k:Int)<(l.length:Int)) (h0:decide (x≥0)=true) (he:(y==x)=false) (hs:iV (IntKind.i64.wrap ((k:Int)+1))=iV (((k+1:Nat):Int))) {e:Exit} {tm2:TmL} {hp2:HpL}
 (r:Rl 1 1 31 1 32 1 ([(0,.ls 0 l.length),(3,.pv (iV (i:Int))),(4,.pv (iV ((k+1:Nat):Int)))]) ([(0,0,zrI l)]) e tm2 hp2):Rl 1 1 31 1 32 1 (qqU i k l) ([(0,0,zrI l)]) e tm2 hp2:=
 RunsL.next [] 300 [.t true,.r (iV x),.t true,.r (iV y),.r (iV x),.t false,Re hs]
  (Ro (Ai hki (Ai hii (Ai (qaX hi) (Ai h0 (Ai hin (Ai (qaX hk) (Ai hii (Ai (qaX hi) (Ai he (Ai hs tI))))))))))) r
theorem qnc {l:List Int} {i k:Nat} {x y:Int} (hki:decide ((k:Int)<(i:Int))=true) (hi:l[i]?=some x) (hii:0≤(i:Int)∧(i:Int)<(l.length:Int)) (hk:l[k]?=some y) (hin:0≤(k:Int)∧(k:Int)<(l.length:Int)) (h0:decide (x≥0)=true) (he:(y==x)=true):Rl 1 1 31 1 32 1 (qqU i k l) ([(0,0,zrI l)]) (.ret) ([(2,.pv (.bool true))]) ([]):=
 RunsL.stop [] 300 [.t true,.r (iV x),.t true,.r (iV y),.r (iV x),.t true] (fun h=>by cases h)
  (Ro (Ai hki (Ai hii (Ai (qaX hi) (Ai h0 (Ai hin (Ai (qaX hk) (Ai hii (Ai (qaX hi) (Ai he tI))))))))))
abbrev qpI (i:Nat) (l:List Int):TmL:=[(0,.ls 0 l.length),(3,.pv (iV (i:Int)))]
theorem qkA {l:List Int} {i k:Nat} (hki:decide ((k:Int)<(i:Int))=false):Rl 1 1 31 1 32 1 (qqU i k l) ([(0,0,zrI l)]) (.exit 2) (qpI i l) ([(0,0,zrI l)]):=
 RunsL.stop [] 300 [.t false] (fun h=>by cases h)
  (Ro (Ai hki tI))
theorem qlA {l:List Int} {i:Nat} (hlt:decide ((i:Int)<(l.length:Int))=true) (r1:Rl 1 1 31 1 32 1 ([(0,.ls 0 l.length),(3,.pv (iV (i:Int))),(4,.pv (iV ((0:Nat):Int)))]) ([(0,0,zrI l)]) (.exit 2) (qpI i l) ([(0,0,zrI l)])) (hs:iV (IntKind.i64.wrap ((i:Int)+1))=iV (((i+1:Nat):Int))) {e:Exit} {tm2:TmL} {hp2:HpL}
 (r:Rl 1 1 31 0 32 1 ([(0,.ls 0 l.length),(3,.pv (iV ((i+1:Nat):Int)))]) ([(0,0,zrI l)]) e tm2 hp2):Rl 1 1 31 0 32 1 (qpI i l) ([(0,0,zrI l)]) e tm2 hp2:=
 RunsL.next [] 300 [.t true,Lf r1,Re hs]
  (Ro (Ai hlt (Lo r1 [] (Ai hs tI)))) r
theorem qn9 {l:List Int} {i:Nat} (hlt:decide ((i:Int)<(l.length:Int))=true) (r1:Rl 1 1 31 1 32 1 ([(0,.ls 0 l.length),(3,.pv (iV (i:Int))),(4,.pv (iV ((0:Nat):Int)))]) ([(0,0,zrI l)]) (.ret) ([(2,.pv (.bool true))]) ([])):Rl 1 1 31 0 32 1 (qpI i l) ([(0,0,zrI l)]) (.ret) ([(2,.pv (.bool true))]) ([]):=
 RunsL.stop [] 300 [.t true,Lf r1] (fun h=>by cases h)
  (Ro (Ai hlt (Lo r1 [] tI)))
theorem qnE {l:List Int} {i:Nat} (hge:decide ((i:Int)<(l.length:Int))=false):Rl 1 1 31 0 32 1 (qpI i l) ([(0,0,zrI l)]) (.exit 0) ([]) ([]):=
 RunsL.stop [] 300 [.t false] (fun h=>by cases h)
  (Ro (Ai hge tI))
theorem qn7 {l:List Int} (r0:Rl 1 1 31 0 32 1 ([(0,.ls 0 l.length),(3,.pv (iV ((0:Nat):Int)))]) ([(0,0,zrI l)]) (.ret) ([(2,.pv (.bool true))]) ([])) :
 Fn 31 1 [.ls 0 l.length] [(0,0,zrI l)] (.pv (.bool true)) 0 []:=
 Fz [] [Lf r0]
  tI (Lo r0 [] tI)
theorem qp6 {l:List Int} (r0:Rl 1 1 31 0 32 1 ([(0,.ls 0 l.length),(3,.pv (iV ((0:Nat):Int)))]) ([(0,0,zrI l)]) (.exit 0) ([]) ([])) :
 Fn 31 1 [.ls 0 l.length] [(0,0,zrI l)] (.pv (.bool false)) 0 []:=
 Fz [] [Lf r0]
  tI (Lo r0 [] tI)
theorem qpe {b:Br} (h1:decide ((b.p.length:Int)<1)=true) :
 Fn 26 2 [brS 0 1 b] [(0,0,zrI b.p),(1,0,zrI b.w)] (.pv (iV (8))) 0 []:=
 Fz [] [.t true]
  tI (Ai h1 tI)
theorem qpq {b:Br} (h1:decide ((b.p.length:Int)<1)=false) (hh:decide ((b.p.length:Int)>64)=true) :
 Fn 26 2 [brS 0 1 b] [(0,0,zrI b.p),(1,0,zrI b.w)] (.pv (iV (8))) 0 []:=
 Fz [] [.t false,.t true]
  tI (Ai h1 (Ai hh tI))
theorem qnK {b:Br} {x:Int} (h1:decide ((b.p.length:Int)<1)=false) (hh:decide ((b.p.length:Int)>64)=false) (hs:iV (IntKind.i64.wrap ((b.p.length:Int)-1))=iV (x)) (hl:((b.w.length:Int) !=x)=true) :
 Fn 26 2 [brS 0 1 b] [(0,0,zrI b.p),(1,0,zrI b.w)] (.pv (iV (8))) 0 []:=
 Fz [] [.t false,.t false,Re hs,.t true]
  tI (Ai h1 (Ai hh (Ai hs (Ai hl tI))))
theorem qng {b:Br} {x:Int} (h1:decide ((b.p.length:Int)<1)=false) (hh:decide ((b.p.length:Int)>64)=false) (hs:iV (IntKind.i64.wrap ((b.p.length:Int)-1))=iV (x)) (hl:((b.w.length:Int) !=x)=false) (h2:Fn 31 1 [.ls 0 b.p.length] [(0,0,zrI b.p)] (.pv (.bool true)) 0 []) :
 Fn 26 2 [brS 0 1 b] [(0,0,zrI b.p),(1,0,zrI b.w)] (.pv (iV (8))) 0 []:=
 Fz [] [.t false,.t false,Re hs,.t false,Cf h2 [0]]
  tI (Ai h1 (Ai hh (Ai hs (Ai hl (Co h2 [0] 3 tI)))))
theorem qrH {b:Br} {k:Nat} {x:Int} (hk:b.p[k]?=some x) (hin:0≤(k:Int)∧(k:Int)<(b.p.length:Int)) (hlt:decide ((k:Int)<(b.p.length:Int))=true) (hlo:decide (x<(-1))=false) (hhi:decide (x>65535)=false) (hs:iV (IntKind.i64.wrap ((k:Int)+1))=iV (((k+1:Nat):Int))) {e:Exit} {tm2:TmL} {hp2:HpL}
 (r:Rl 2 2 26 0 98 3 ([(1,.pp 2 0),(3,.pv (iV (b.p.length:Int))),(4,.pv (iV ((k+1:Nat):Int)))]) ([(2,0,.ls 0 b.p.length),(2,1,.ls 1 b.w.length),(0,0,zrI b.p),(1,0,zrI b.w)]) e tm2 hp2):Rl 2 2 26 0 98 3 ([(1,.pp 2 0),(3,.pv (iV (b.p.length:Int))),(4,.pv (iV (k:Int)))]) ([(2,0,.ls 0 b.p.length),(2,1,.ls 1 b.w.length),(0,0,zrI b.p),(1,0,zrI b.w)]) e tm2 hp2:=
 RunsL.next [] 300 [.t true,.r (iV x),.t false,.r (iV x),.t false,Re hs]
  (Ro (Ai hlt (Ai hin (Ai (qaX hk) (Ai hlo (Ai hin (Ai (qaX hk) (Ai hhi (Ai hs tI))))))))) r
theorem qnC {b:Br} {k:Nat} {x:Int} (hk:b.p[k]?=some x) (hin:0≤(k:Int)∧(k:Int)<(b.p.length:Int)) (hlt:decide ((k:Int)<(b.p.length:Int))=true) (hlo:decide (x<(-1))=true):Rl 2 2 26 0 98 3 ([(1,.pp 2 0),(3,.pv (iV (b.p.length:Int))),(4,.pv (iV (k:Int)))]) ([(2,0,.ls 0 b.p.length),(2,1,.ls 1 b.w.length),(0,0,zrI b.p),(1,0,zrI b.w)]) (.ret) ([(2,.pv (iV 8))]) ([]):=
 RunsL.stop [] 300 [.t true,.r (iV x),.t true] (fun h=>by cases h)
  (Ro (Ai hlt (Ai hin (Ai (qaX hk) (Ai hlo tI)))))
theorem qnZ {b:Br} {k:Nat} {x:Int} (hk:b.p[k]?=some x) (hin:0≤(k:Int)∧(k:Int)<(b.p.length:Int)) (hlt:decide ((k:Int)<(b.p.length:Int))=true) (hlo:decide (x<(-1))=false) (hhi:decide (x>65535)=true):Rl 2 2 26 0 98 3 ([(1,.pp 2 0),(3,.pv (iV (b.p.length:Int))),(4,.pv (iV (k:Int)))]) ([(2,0,.ls 0 b.p.length),(2,1,.ls 1 b.w.length),(0,0,zrI b.p),(1,0,zrI b.w)]) (.ret) ([(2,.pv (iV 8))]) ([]):=
 RunsL.stop [] 300 [.t true,.r (iV x),.t false,.r (iV x),.t true] (fun h=>by cases h)
  (Ro (Ai hlt (Ai hin (Ai (qaX hk) (Ai hlo (Ai hin (Ai (qaX hk) (Ai hhi tI))))))))
theorem qki {b:Br} {k:Nat} (hge:decide ((k:Int)<(b.p.length:Int))=false):Rl 2 2 26 0 98 3 ([(1,.pp 2 0),(3,.pv (iV (b.p.length:Int))),(4,.pv (iV (k:Int)))]) ([(2,0,.ls 0 b.p.length),(2,1,.ls 1 b.w.length),(0,0,zrI b.p),(1,0,zrI b.w)]) (.exit 0) ([(1,.pp 2 0)]) ([(2,0,.ls 0 b.p.length),(2,1,.ls 1 b.w.length),(0,0,zrI b.p),(1,0,zrI b.w)]):=
 RunsL.stop [] 300 [.t false] (fun h=>by cases h)
  (Ro (Ai hge tI))
abbrev qni (k:Nat):TmL:=[(1,.pp 2 0),(5,.pv (iV (k:Int)))]
theorem qqw {b:Br} {k:Nat} {x y z v e1 e2:Int} (hk:b.w[k]?=some v) (hin:0≤(k:Int)∧(k:Int)<(b.w.length:Int)) (hlt:decide ((k:Int)<(b.w.length:Int))=true) (hm:iV (IntKind.i64.wrap (2*(k:Int)))=iV (z)) (ha:iV (IntKind.i64.wrap (z+1))=iV (e1)) (hx:Fn 52 2 [.ag [.ls 0 b.p.length,.ls 1 b.w.length],.pv (iV (e1))] [(0,0,.row 3 1 b.p.length (ziV b.p)),(1,0,.row 3 1 b.w.length (ziV b.w))] (.pv (iV (x))) 0 []) (hb:iV (IntKind.i64.wrap (z+2))=iV (e2)) (hy:Fn 52 2 [.ag [.ls 0 b.p.length,.ls 1 b.w.length],.pv (iV (e2))] [(0,0,.row 3 1 b.p.length (ziV b.p)),(1,0,.row 3 1 b.w.length (ziV b.w))] (.pv (iV (y))) 0 []) (q1:(v !=x)=false) (q3:(v==(-1))=false) (hs:iV (IntKind.i64.wrap ((k:Int)+1))=iV (((k+1:Nat):Int))) {e:Exit} {tm2:TmL} {hp2:HpL}
 (r:Rl 2 2 26 1 98 3 ([(1,.pp 2 0),(5,.pv (iV ((k+1:Nat):Int)))]) ([(2,0,.ls 0 b.p.length),(2,1,.ls 1 b.w.length),(0,0,zrI b.p),(1,0,zrI b.w)]) e tm2 hp2):Rl 2 2 26 1 98 3 (qni k) ([(2,0,.ls 0 b.p.length),(2,1,.ls 1 b.w.length),(0,0,zrI b.p),(1,0,zrI b.w)]) e tm2 hp2:=
 RunsL.next [] 300 [.t true,Re hm,Re ha,Cf hx [0,1],Re hm,Re hb,Cf hy [0,1],.r (iV v),.t false,.r (iV v),.t false,Re hs]
  (Ro (Ai hlt (Ai hm (Ai ha (Co hx [0,1] 3 (Ai hm (Ai hb (Co hy [0,1] 3 (Ai hin (Ai (qaX hk) (Ai q1 (Ai hin (Ai (qaX hk) (Ai q3 (Ai hs tI))))))))))))))) r
theorem qpA {b:Br} {k:Nat} {x y z v e1 e2:Int} (hk:b.w[k]?=some v) (hin:0≤(k:Int)∧(k:Int)<(b.w.length:Int)) (hlt:decide ((k:Int)<(b.w.length:Int))=true) (hm:iV (IntKind.i64.wrap (2*(k:Int)))=iV (z)) (ha:iV (IntKind.i64.wrap (z+1))=iV (e1)) (hx:Fn 52 2 [.ag [.ls 0 b.p.length,.ls 1 b.w.length],.pv (iV (e1))] [(0,0,.row 3 1 b.p.length (ziV b.p)),(1,0,.row 3 1 b.w.length (ziV b.w))] (.pv (iV (x))) 0 []) (hb:iV (IntKind.i64.wrap (z+2))=iV (e2)) (hy:Fn 52 2 [.ag [.ls 0 b.p.length,.ls 1 b.w.length],.pv (iV (e2))] [(0,0,.row 3 1 b.p.length (ziV b.p)),(1,0,.row 3 1 b.w.length (ziV b.w))] (.pv (iV (y))) 0 []) (q1:(v !=x)=false) (q3:(v==(-1))=true) (q5:(x !=(-1))=false) (q6:(y !=(-1))=false) (hs:iV (IntKind.i64.wrap ((k:Int)+1))=iV (((k+1:Nat):Int))) {e:Exit} {tm2:TmL} {hp2:HpL}
 (r:Rl 2 2 26 1 98 3 ([(1,.pp 2 0),(5,.pv (iV ((k+1:Nat):Int)))]) ([(2,0,.ls 0 b.p.length),(2,1,.ls 1 b.w.length),(0,0,zrI b.p),(1,0,zrI b.w)]) e tm2 hp2):Rl 2 2 26 1 98 3 (qni k) ([(2,0,.ls 0 b.p.length),(2,1,.ls 1 b.w.length),(0,0,zrI b.p),(1,0,zrI b.w)]) e tm2 hp2:=
 RunsL.next [] 300 [.t true,Re hm,Re ha,Cf hx [0,1],Re hm,Re hb,Cf hy [0,1],.r (iV v),.t false,.r (iV v),.t true,.t false,.t false,Re hs]
  (Ro (Ai hlt (Ai hm (Ai ha (Co hx [0,1] 3 (Ai hm (Ai hb (Co hy [0,1] 3 (Ai hin (Ai (qaX hk) (Ai q1 (Ai hin (Ai (qaX hk) (Ai q3 (Ai q5 (Ai q6 (Ai hs tI))))))))))))))))) r
theorem qpE {b:Br} {k:Nat} {x y z v e1 e2:Int} (hk:b.w[k]?=some v) (hin:0≤(k:Int)∧(k:Int)<(b.w.length:Int)) (hlt:decide ((k:Int)<(b.w.length:Int))=true) (hm:iV (IntKind.i64.wrap (2*(k:Int)))=iV (z)) (ha:iV (IntKind.i64.wrap (z+1))=iV (e1)) (hx:Fn 52 2 [.ag [.ls 0 b.p.length,.ls 1 b.w.length],.pv (iV (e1))] [(0,0,.row 3 1 b.p.length (ziV b.p)),(1,0,.row 3 1 b.w.length (ziV b.w))] (.pv (iV (x))) 0 []) (hb:iV (IntKind.i64.wrap (z+2))=iV (e2)) (hy:Fn 52 2 [.ag [.ls 0 b.p.length,.ls 1 b.w.length],.pv (iV (e2))] [(0,0,.row 3 1 b.p.length (ziV b.p)),(1,0,.row 3 1 b.w.length (ziV b.w))] (.pv (iV (y))) 0 []) (q1:(v !=x)=true) (q2:(v !=y)=false) (q3:(v==(-1))=false) (hs:iV (IntKind.i64.wrap ((k:Int)+1))=iV (((k+1:Nat):Int))) {e:Exit} {tm2:TmL} {hp2:HpL}
 (r:Rl 2 2 26 1 98 3 ([(1,.pp 2 0),(5,.pv (iV ((k+1:Nat):Int)))]) ([(2,0,.ls 0 b.p.length),(2,1,.ls 1 b.w.length),(0,0,zrI b.p),(1,0,zrI b.w)]) e tm2 hp2):Rl 2 2 26 1 98 3 (qni k) ([(2,0,.ls 0 b.p.length),(2,1,.ls 1 b.w.length),(0,0,zrI b.p),(1,0,zrI b.w)]) e tm2 hp2:=
 RunsL.next [] 300 [.t true,Re hm,Re ha,Cf hx [0,1],Re hm,Re hb,Cf hy [0,1],.r (iV v),.t true,.r (iV v),.t false,.r (iV v),.t false,Re hs]
  (Ro (Ai hlt (Ai hm (Ai ha (Co hx [0,1] 3 (Ai hm (Ai hb (Co hy [0,1] 3 (Ai hin (Ai (qaX hk) (Ai q1 (Ai hin (Ai (qaX hk) (Ai q2 (Ai hin (Ai (qaX hk) (Ai q3 (Ai hs tI)))))))))))))))))) r
theorem qqM {b:Br} {k:Nat} {x y z v e1 e2:Int} (hk:b.w[k]?=some v) (hin:0≤(k:Int)∧(k:Int)<(b.w.length:Int)) (hlt:decide ((k:Int)<(b.w.length:Int))=true) (hm:iV (IntKind.i64.wrap (2*(k:Int)))=iV (z)) (ha:iV (IntKind.i64.wrap (z+1))=iV (e1)) (hx:Fn 52 2 [.ag [.ls 0 b.p.length,.ls 1 b.w.length],.pv (iV (e1))] [(0,0,.row 3 1 b.p.length (ziV b.p)),(1,0,.row 3 1 b.w.length (ziV b.w))] (.pv (iV (x))) 0 []) (hb:iV (IntKind.i64.wrap (z+2))=iV (e2)) (hy:Fn 52 2 [.ag [.ls 0 b.p.length,.ls 1 b.w.length],.pv (iV (e2))] [(0,0,.row 3 1 b.p.length (ziV b.p)),(1,0,.row 3 1 b.w.length (ziV b.w))] (.pv (iV (y))) 0 []) (q1:(v !=x)=true) (q2:(v !=y)=true):Rl 2 2 26 1 98 3 (qni k) ([(2,0,.ls 0 b.p.length),(2,1,.ls 1 b.w.length),(0,0,zrI b.p),(1,0,zrI b.w)]) (.ret) ([(2,.pv (iV 8))]) ([]):=
 RunsL.stop [] 300 [.t true,Re hm,Re ha,Cf hx [0,1],Re hm,Re hb,Cf hy [0,1],.r (iV v),.t true,.r (iV v),.t true] (fun h=>by cases h)
  (Ro (Ai hlt (Ai hm (Ai ha (Co hx [0,1] 3 (Ai hm (Ai hb (Co hy [0,1] 3 (Ai hin (Ai (qaX hk) (Ai q1 (Ai hin (Ai (qaX hk) (Ai q2 tI))))))))))))))
theorem qql {b:Br} {k:Nat} {x y z v e1 e2:Int} (hk:b.w[k]?=some v) (hin:0≤(k:Int)∧(k:Int)<(b.w.length:Int)) (hlt:decide ((k:Int)<(b.w.length:Int))=true) (hm:iV (IntKind.i64.wrap (2*(k:Int)))=iV (z)) (ha:iV (IntKind.i64.wrap (z+1))=iV (e1)) (hx:Fn 52 2 [.ag [.ls 0 b.p.length,.ls 1 b.w.length],.pv (iV (e1))] [(0,0,.row 3 1 b.p.length (ziV b.p)),(1,0,.row 3 1 b.w.length (ziV b.w))] (.pv (iV (x))) 0 []) (hb:iV (IntKind.i64.wrap (z+2))=iV (e2)) (hy:Fn 52 2 [.ag [.ls 0 b.p.length,.ls 1 b.w.length],.pv (iV (e2))] [(0,0,.row 3 1 b.p.length (ziV b.p)),(1,0,.row 3 1 b.w.length (ziV b.w))] (.pv (iV (y))) 0 []) (q1:(v !=x)=false) (q3:(v==(-1))=true) (q5:(x !=(-1))=false) (q6:(y !=(-1))=true):Rl 2 2 26 1 98 3 (qni k) ([(2,0,.ls 0 b.p.length),(2,1,.ls 1 b.w.length),(0,0,zrI b.p),(1,0,zrI b.w)]) (.ret) ([(2,.pv (iV 8))]) ([]):=
 RunsL.stop [] 300 [.t true,Re hm,Re ha,Cf hx [0,1],Re hm,Re hb,Cf hy [0,1],.r (iV v),.t false,.r (iV v),.t true,.t false,.t true] (fun h=>by cases h)
  (Ro (Ai hlt (Ai hm (Ai ha (Co hx [0,1] 3 (Ai hm (Ai hb (Co hy [0,1] 3 (Ai hin (Ai (qaX hk) (Ai q1 (Ai hin (Ai (qaX hk) (Ai q3 (Ai q5 (Ai q6 tI))))))))))))))))
theorem qqv {b:Br} {k:Nat} {x y z v e1 e2:Int} (hk:b.w[k]?=some v) (hin:0≤(k:Int)∧(k:Int)<(b.w.length:Int)) (hlt:decide ((k:Int)<(b.w.length:Int))=true) (hm:iV (IntKind.i64.wrap (2*(k:Int)))=iV (z)) (ha:iV (IntKind.i64.wrap (z+1))=iV (e1)) (hx:Fn 52 2 [.ag [.ls 0 b.p.length,.ls 1 b.w.length],.pv (iV (e1))] [(0,0,.row 3 1 b.p.length (ziV b.p)),(1,0,.row 3 1 b.w.length (ziV b.w))] (.pv (iV (x))) 0 []) (hb:iV (IntKind.i64.wrap (z+2))=iV (e2)) (hy:Fn 52 2 [.ag [.ls 0 b.p.length,.ls 1 b.w.length],.pv (iV (e2))] [(0,0,.row 3 1 b.p.length (ziV b.p)),(1,0,.row 3 1 b.w.length (ziV b.w))] (.pv (iV (y))) 0 []) (q1:(v !=x)=true) (q2:(v !=y)=false) (q3:(v==(-1))=true) (q5:(x !=(-1))=true):Rl 2 2 26 1 98 3 (qni k) ([(2,0,.ls 0 b.p.length),(2,1,.ls 1 b.w.length),(0,0,zrI b.p),(1,0,zrI b.w)]) (.ret) ([(2,.pv (iV 8))]) ([]):=
 RunsL.stop [] 300 [.t true,Re hm,Re ha,Cf hx [0,1],Re hm,Re hb,Cf hy [0,1],.r (iV v),.t true,.r (iV v),.t false,.r (iV v),.t true,.t true] (fun h=>by cases h)
  (Ro (Ai hlt (Ai hm (Ai ha (Co hx [0,1] 3 (Ai hm (Ai hb (Co hy [0,1] 3 (Ai hin (Ai (qaX hk) (Ai q1 (Ai hin (Ai (qaX hk) (Ai q2 (Ai hin (Ai (qaX hk) (Ai q3 (Ai q5 tI))))))))))))))))))
theorem qkh {b:Br} {k:Nat} (hge:decide ((k:Int)<(b.w.length:Int))=false):Rl 2 2 26 1 98 3 (qni k) ([(2,0,.ls 0 b.p.length),(2,1,.ls 1 b.w.length),(0,0,zrI b.p),(1,0,zrI b.w)]) (.exit 2) ([]) ([]):=
 RunsL.stop [] 300 [.t false] (fun h=>by cases h)
  (Ro (Ai hge tI))
theorem qr2 {b:Br} {x:Int} (h1:decide ((b.p.length:Int)<1)=false) (hh:decide ((b.p.length:Int)>64)=false) (hs:iV (IntKind.i64.wrap ((b.p.length:Int)-1))=iV (x)) (hl:((b.w.length:Int) !=x)=false) (h2:Fn 31 1 [.ls 0 b.p.length] [(0,0,zrI b.p)] (.pv (.bool false)) 0 []) (r0:Rl 2 2 26 0 98 3 ([(1,.pp 2 0),(3,.pv (iV (b.p.length:Int))),(4,.pv (iV ((0:Nat):Int)))]) ([(2,0,.ls 0 b.p.length),(2,1,.ls 1 b.w.length),(0,0,zrI b.p),(1,0,zrI b.w)]) (.ret) ([(2,.pv (iV 8))]) ([])) :
 Fn 26 2 [brS 0 1 b] [(0,0,zrI b.p),(1,0,zrI b.w)] (.pv (iV (8))) 0 []:=
 Fz [] [.t false,.t false,Re hs,.t false,Cf h2 [0],Lf r0]
  tI (Ai h1 (Ai hh (Ai hs (Ai hl (Co h2 [0] 3 (Lo r0 [] tI))))))
theorem qry {b:Br} {x:Int} (h1:decide ((b.p.length:Int)<1)=false) (hh:decide ((b.p.length:Int)>64)=false) (hs:iV (IntKind.i64.wrap ((b.p.length:Int)-1))=iV (x)) (hl:((b.w.length:Int) !=x)=false) (h2:Fn 31 1 [.ls 0 b.p.length] [(0,0,zrI b.p)] (.pv (.bool false)) 0 []) (r0:Rl 2 2 26 0 98 3 ([(1,.pp 2 0),(3,.pv (iV (b.p.length:Int))),(4,.pv (iV ((0:Nat):Int)))]) ([(2,0,.ls 0 b.p.length),(2,1,.ls 1 b.w.length),(0,0,zrI b.p),(1,0,zrI b.w)]) (.exit 0) ([(1,.pp 2 0)]) ([(2,0,.ls 0 b.p.length),(2,1,.ls 1 b.w.length),(0,0,zrI b.p),(1,0,zrI b.w)])) (r1:Rl 2 2 26 1 98 3 ([(1,.pp 2 0),(5,.pv (iV ((0:Nat):Int)))]) ([(2,0,.ls 0 b.p.length),(2,1,.ls 1 b.w.length),(0,0,zrI b.p),(1,0,zrI b.w)]) (.ret) ([(2,.pv (iV 8))]) ([])) :
 Fn 26 2 [brS 0 1 b] [(0,0,zrI b.p),(1,0,zrI b.w)] (.pv (iV (8))) 0 []:=
 Fz [] [.t false,.t false,Re hs,.t false,Cf h2 [0],Lf r0,Lf r1]
  tI (Ai h1 (Ai hh (Ai hs (Ai hl (Co h2 [0] 3 (Lo r0 [] (Lo r1 [] tI)))))))
theorem qpv {b:Br} {x:Int} (h1:decide ((b.p.length:Int)<1)=false) (hh:decide ((b.p.length:Int)>64)=false) (hs:iV (IntKind.i64.wrap ((b.p.length:Int)-1))=iV (x)) (hl:((b.w.length:Int) !=x)=false) (h2:Fn 31 1 [.ls 0 b.p.length] [(0,0,zrI b.p)] (.pv (.bool false)) 0 []) (r0:Rl 2 2 26 0 98 3 ([(1,.pp 2 0),(3,.pv (iV (b.p.length:Int))),(4,.pv (iV ((0:Nat):Int)))]) ([(2,0,.ls 0 b.p.length),(2,1,.ls 1 b.w.length),(0,0,zrI b.p),(1,0,zrI b.w)]) (.exit 0) ([(1,.pp 2 0)]) ([(2,0,.ls 0 b.p.length),(2,1,.ls 1 b.w.length),(0,0,zrI b.p),(1,0,zrI b.w)])) (r1:Rl 2 2 26 1 98 3 ([(1,.pp 2 0),(5,.pv (iV ((0:Nat):Int)))]) ([(2,0,.ls 0 b.p.length),(2,1,.ls 1 b.w.length),(0,0,zrI b.p),(1,0,zrI b.w)]) (.exit 2) ([]) ([])) :
 Fn 26 2 [brS 0 1 b] [(0,0,zrI b.p),(1,0,zrI b.w)] (.pv (iV (0))) 0 []:=
 Fz [] [.t false,.t false,Re hs,.t false,Cf h2 [0],Lf r0,Lf r1]
  tI (Ai h1 (Ai hh (Ai hs (Ai hl (Co h2 [0] 3 (Lo r0 [] (Lo r1 [] tI)))))))
theorem qss {s:List Pt} {x y tn td:Int} (hx:decide (x<0)=true) :
 Fn 74 1 [qaw 0 s,.pv (qab tn td),.pv (iV (x)),.pv (iV (y))] [(0,0,qai s)] (.pv (iV (y))) 0 []:=
 Fz [] [.t true]
  tI (Ai hx tI)
theorem qrG {s:List Pt} {x y tn td:Int} (hx:decide (x<0)=false) (hy:decide (y<0)=true) :
 Fn 74 1 [qaw 0 s,.pv (qab tn td),.pv (iV (x)),.pv (iV (y))] [(0,0,qai s)] (.pv (iV (x))) 0 []:=
 Fz [] [.t false,.t true]
  tI (Ai hx (Ai hy tI))
theorem qsc {s:List Pt} {p q:Pt} {i k:Nat} {x y tn td:Int} (hx:decide (x<0)=false) (hy:decide (y<0)=false) (hp:s[i]?=some p) (hip:0≤(i:Int)∧(i:Int)<(s.length:Int)) (a1:Fn 58 1 [qaw 0 s,.pv (iV (x))] [(0,0,qai s)] (.pv (iV (i:Int))) 0 []) (hq:s[k]?=some q) (hiq:0≤(k:Int)∧(k:Int)<(s.length:Int)) (a2:Fn 58 1 [qaw 0 s,.pv (iV (y))] [(0,0,qai s)] (.pv (iV (k:Int))) 0 []) (hl:Pure Try.prog 85 #[ptV p,ptV q,qab tn td] (.bool true)) :
 Fn 74 1 [qaw 0 s,.pv (qab tn td),.pv (iV (x)),.pv (iV (y))] [(0,0,qai s)] (.pv (iV (x))) 0 []:=
 Fz [] [.t false,.t false,Cf a1 [0],.r (ptV p),Cf a2 [0],.r (ptV q),Rf hl]
  tI (Ai hx (Ai hy (Co a1 [0] 3 (Ai hip (Ai (qeq hp) (Co a2 [0] 3 (Ai hiq (Ai (qeq hq) (Ai hl tI)))))))))
theorem qrd {s:List Pt} {p q:Pt} {i k:Nat} {x y tn td:Int} (hx:decide (x<0)=false) (hy:decide (y<0)=false) (hp:s[i]?=some p) (hip:0≤(i:Int)∧(i:Int)<(s.length:Int)) (a1:Fn 58 1 [qaw 0 s,.pv (iV (x))] [(0,0,qai s)] (.pv (iV (i:Int))) 0 []) (hq:s[k]?=some q) (hiq:0≤(k:Int)∧(k:Int)<(s.length:Int)) (a2:Fn 58 1 [qaw 0 s,.pv (iV (y))] [(0,0,qai s)] (.pv (iV (k:Int))) 0 []) (hl:Pure Try.prog 85 #[ptV p,ptV q,qab tn td] (.bool false)) :
 Fn 74 1 [qaw 0 s,.pv (qab tn td),.pv (iV (x)),.pv (iV (y))] [(0,0,qai s)] (.pv (iV (y))) 0 []:=
 Fz [] [.t false,.t false,Cf a1 [0],.r (ptV p),Cf a2 [0],.r (ptV q),Rf hl]
  tI (Ai hx (Ai hy (Co a1 [0] 3 (Ai hip (Ai (qeq hp) (Co a2 [0] 3 (Ai hiq (Ai (qeq hq) (Ai hl tI)))))))))
abbrev qmh (l:List Int) (s:List Pt):HpL:=[(2,0,.ls 0 s.length),(0,0,qai s),(1,0,zrI l)]
abbrev qqQ (k:Nat) (l:List Int):TmL:=[(1,.ls 1 l.length),(2,.pp 2 0),(5,.pv (iV (k:Int)))]
theorem qlO {l:List Int} {s:List Pt} {k:Nat} {x:Int} (hk:l[k]?=some x) (hin:0≤(k:Int)∧(k:Int)<(l.length:Int)) (hlt:decide ((k:Int)<(l.length:Int))=true) (hx:(x !=(-1))=false) (hs:iV (IntKind.i64.wrap ((k:Int)+1))=iV (((k+1:Nat):Int))) {e:Exit} {tm2:TmL} {hp2:HpL}
 (r:Rl 2 2 30 0 26 3 ([(1,.ls 1 l.length),(2,.pp 2 0),(5,.pv (iV ((k+1:Nat):Int)))]) (qmh l s) e tm2 hp2):Rl 2 2 30 0 26 3 (qqQ k l) (qmh l s) e tm2 hp2:=
 RunsL.next [] 300 [.t true,.r (iV x),.t false,Re hs]
  (Ro (Ai hlt (Ai hin (Ai (qaX hk) (Ai hx (Ai hs tI)))))) r
theorem qk0 {l:List Int} {s:List Pt} {k:Nat} {x v:Int} (hk:l[k]?=some x) (hin:0≤(k:Int)∧(k:Int)<(l.length:Int)) (hlt:decide ((k:Int)<(l.length:Int))=true) (hx:(x !=(-1))=true) (ha:Fn 58 1 [qaw 0 s,.pv (iV (x))] [(0,0,qai s)] (.pv (iV (v))) 0 []) (hv:decide (v<0)=false) (hs:iV (IntKind.i64.wrap ((k:Int)+1))=iV (((k+1:Nat):Int))) {e:Exit} {tm2:TmL} {hp2:HpL}
 (r:Rl 2 2 30 0 26 3 ([(1,.ls 1 l.length),(2,.pp 2 0),(5,.pv (iV ((k+1:Nat):Int)))]) (qmh l s) e tm2 hp2):Rl 2 2 30 0 26 3 (qqQ k l) (qmh l s) e tm2 hp2:=
 RunsL.next [] 300 [.t true,.r (iV x),.t true,.r (iV x),Cf ha [0],.t false,Re hs]
  (Ro (Ai hlt (Ai hin (Ai (qaX hk) (Ai hx (Ai hin (Ai (qaX hk) (Co ha [0] 3 (Ai hv (Ai hs tI)))))))))) r
theorem qlR {l:List Int} {s:List Pt} {k:Nat} {x v:Int} (hk:l[k]?=some x) (hin:0≤(k:Int)∧(k:Int)<(l.length:Int)) (hlt:decide ((k:Int)<(l.length:Int))=true) (hx:(x !=(-1))=true) (ha:Fn 58 1 [qaw 0 s,.pv (iV (x))] [(0,0,qai s)] (.pv (iV (v))) 0 []) (hv:decide (v<0)=true):Rl 2 2 30 0 26 3 (qqQ k l) (qmh l s) (.ret) ([(4,.pv (.bool false))]) ([]):=
 RunsL.stop [] 300 [.t true,.r (iV x),.t true,.r (iV x),Cf ha [0],.t true] (fun h=>by cases h)
  (Ro (Ai hlt (Ai hin (Ai (qaX hk) (Ai hx (Ai hin (Ai (qaX hk) (Co ha [0] 3 (Ai hv tI)))))))))
theorem qmK {l:List Int} {s:List Pt} {k:Nat} (hge:decide ((k:Int)<(l.length:Int))=false):Rl 2 2 30 0 26 3 (qqQ k l) (qmh l s) (.exit 0) ([]) ([]):=
 RunsL.stop [] 300 [.t false] (fun h=>by cases h)
  (Ro (Ai hge tI))
theorem qp4 {l:List Int} {s:List Pt} (r0:Rl 2 2 30 0 26 3 ([(1,.ls 1 l.length),(2,.pp 2 0),(5,.pv (iV ((0:Nat):Int)))]) (qmh l s) (.ret) ([(4,.pv (.bool false))]) ([])) :
 Fn 30 2 [qaw 0 s,.ls 1 l.length] [(0,0,qai s),(1,0,zrI l)] (.pv (.bool false)) 0 []:=
 Fz [] [Lf r0]
  tI (Lo r0 [] tI)
theorem qmv {l:List Int} {s:List Pt} (r0:Rl 2 2 30 0 26 3 ([(1,.ls 1 l.length),(2,.pp 2 0),(5,.pv (iV ((0:Nat):Int)))]) (qmh l s) (.exit 0) ([]) ([])) :
 Fn 30 2 [qaw 0 s,.ls 1 l.length] [(0,0,qai s),(1,0,zrI l)] (.pv (.bool true)) 0 []:=
 Fz [] [Lf r0]
  tI (Lo r0 [] tI)
end Go.Proofs.Ytgbmdijodlfcaaa

namespace Go.Proofs.Ytgbmdijodlfcaaa
set_option maxRecDepth 100000
open Go.RowKit
abbrev qq3 (l:List Int) (m:List Int) (n:Nat) (s:List Pt) (td:Int) (tn:Int):HpL:=[(2,0,.ls 0 s.length),(3,0,.pv (iV tn)),(3,1,.pv (iV td)),(4,0,.pv (.slice none 0 0)),(4,1,.pv (.slice none 0 0)),(8,0,.ls 6 l.length),(8,1,.ls 7 n),(0,0,qai s),(1,0,zrI l),(6,0,zrI l),(7,0,.row 3 1 n (ziV m))]
abbrev qrp (s:List Pt) (td:Int) (tn:Int) (v:Int) (x:Int) (y:Int):Prop:=Fn 74 1 [qaw 0 s,.pv (qab tn td),.pv (iV (x)),.pv (iV (y))] [(0,0,qai s)] (.pv (iV (v))) 0 []
abbrev qrE (z:Int):TmL:=[(3,.pp 2 0),(4,.pp 3 0),(6,.pp 4 0),(7,.pp 8 0),(8,.pv (iV (z)))]
theorem qkN {l m:List Int} {s:List Pt} {n:Nat} {x y z z2 v tn td e1 e2:Int} {z4:Int} (h0:decide (z≥0)=true) (hm:iV (IntKind.i64.wrap (2*z))=iV (z2)) (ha:iV (IntKind.i64.wrap (z2+1))=iV (e1)) (hx:Fn 52 2 [.ag [.ls 0 l.length,.ls 1 n],.pv (iV (e1))] [(0,0,.row 3 1 l.length (ziV l)),(1,0,.row 3 1 n (ziV m))] (.pv (iV (x))) 0 []) (hb:iV (IntKind.i64.wrap (z2+2))=iV (e2)) (hy:Fn 52 2 [.ag [.ls 0 l.length,.ls 1 n],.pv (iV (e2))] [(0,0,.row 3 1 l.length (ziV l)),(1,0,.row 3 1 n (ziV m))] (.pv (iV (y))) 0 []) (hw:qrp s td tn v x y) (hix:0≤z∧z<(n:Int)) (hg:z.toNat<m.length) (hd:iV (IntKind.i64.wrap (z-1))=iV (z4)) {e:Exit} {tm2:TmL} {hp2:HpL}
 (r:Rl 2 2 51 0 43 9 ([(3,.pp 2 0),(4,.pp 3 0),(6,.pp 4 0),(7,.pp 8 0),(8,.pv (iV (z4)))]) ([(2,0,.ls 0 s.length),(3,0,.pv (iV tn)),(3,1,.pv (iV td)),(4,0,.pv (.slice none 0 0)),(4,1,.pv (.slice none 0 0)),(8,0,.ls 6 l.length),(8,1,.ls 7 n),(0,0,qai s),(1,0,zrI l),(6,0,zrI l),(7,0,.row 3 1 n (ziV (m.set z.toNat v)))]) e tm2 hp2):Rl 2 2 51 0 43 9 (qrE z) (qq3 l m n s td tn) e tm2 hp2:=
 RunsL.next [] 300 [.t true,Re hm,Re ha,Cf hx [6,7],Re hm,Re hb,Cf hy [6,7],Cf hw [0],.w (ziV (m.set z.toNat v)),Re hd]
  (Ro (Ai h0 (Ai hm (Ai ha (Co hx [6,7] 9 (Ai hm (Ai hb (Co hy [6,7] 9 (Co hw [0] 9 (Ai hix (Ai (qsF m z.toNat v hg) (Ai (ql1 m z.toNat hg) (Ai hd tI))))))))))))) r
theorem qmU {l m:List Int} {s:List Pt} {n:Nat} {z tn td:Int} (h0:decide (z≥0)=false):Rl 2 2 51 0 43 9 (qrE z) (qq3 l m n s td tn) (.exit 0) ([(6,.pp 4 0),(7,.pp 8 0)]) (qq3 l m n s td tn):=
 RunsL.stop [] 300 [.t false] (fun h=>by cases h)
  (Ro (Ai h0 tI))
theorem qkj {l m:List Int} {s:List Pt} {n:Nat} {z tn td:Int} (nl:0+l.length≤1000000) (hs:iV (IntKind.i64.wrap ((l.length:Int)-1))=iV (n:Int)) (n0:0≤(n:Int)) (n1:(n:Int)≤1000000) (hd:iV (IntKind.i64.wrap ((n:Int)-1))=iV (z)) (r0:Rl 2 2 51 0 43 9 (qrE z) ([(2,0,.ls 0 s.length),(3,0,.pv (iV tn)),(3,1,.pv (iV td)),(4,0,.pv (.slice none 0 0)),(4,1,.pv (.slice none 0 0)),(8,0,.ls 6 l.length),(8,1,.ls 7 n),(0,0,qai s),(1,0,zrI l),(6,0,zrI l),(7,0,.row 3 1 n (ziV (List.replicate n 0)))]) (.exit 0) ([(6,.pp 4 0),(7,.pp 8 0)]) (qq3 l m n s td tn)) :
 Fn 51 2 [qaw 0 s,.pv (qab tn td),.ls 1 l.length] [(0,0,qai s),(1,0,zrI l)] (.ag [.ls 2 l.length,.ls 3 n]) 2 [(2,0,zrI l),(3,0,.row 3 1 n (ziV m))]:=
 Fz [(2,6),(3,7)] [.md,Re hs,Re hd,Lf r0]
  (qco (qaT [(2,6),(3,7)]) [(2,0,zrI l),(3,0,.row 3 1 n (ziV m))]) (Ai nl (Ai hs (Ai n0 (Ai (Eq.refl (n:Int)) (Ai n1 (Ai hd (Ai (Lt r0 []) (Ai (Ai (Er (SV.ls 0 s.length)) (Ai (Er (SV.pv (iV tn))) (Ai (Er (SV.pv (iV td))) (Ai (Er (SV.pv (.slice none 0 0))) (Ai (Er (SV.pv (.slice none 0 0))) (Ai (congrArg some (congrArg (SV.ls 6) (Nat.zero_add l.length))) (Ai (Er (SV.ls 7 n)) (Ai (Er (qai s)) (Ai (Er (zrI l)) (Ai (qf2 l.length (ziV l)) (Ai (qgG n) tI))))))))))) (Ai r0 tI)))))))))
theorem qj1 {l:List Int} {s:List Pt} {tn td e:Int} (ht:Fn 29 1 [qaw 0 s,.pv (qab tn td)] [(0,0,qai s)] (.pv (iV (e))) 0 []) (he:(e !=0)=true) :
 Fn 22 2 [qaw 0 s,.pv (qab tn td),.ls 1 l.length] [(0,0,qai s),(1,0,zrI l)] (.pv (.tuple #[.agg #[.slice none 0 0,.slice none 0 0],iV e])) 0 []:=
 Fz [] [Cf ht [0],.t true]
  tI (Co ht [0] 5 (Ai he tI))
abbrev qnR (s:List Pt) (td:Int) (tn:Int):Prop:=Fn 29 1 [qaw 0 s,.pv (qab tn td)] [(0,0,qai s)] (.pv (iV (0))) 0 []
theorem qp9 {l:List Int} {s:List Pt} {tn td:Int} (ht:qnR s td tn) (h1:decide ((l.length:Int)<1)=true) :
 Fn 22 2 [qaw 0 s,.pv (qab tn td),.ls 1 l.length] [(0,0,qai s),(1,0,zrI l)] (.pv (.tuple #[.agg #[.slice none 0 0,.slice none 0 0],iV 2])) 0 []:=
 Fz [] [Cf ht [0],.k,.t true]
  tI (Co ht [0] 5 (Ai h1 tI))
theorem qo9 {l:List Int} {s:List Pt} {tn td:Int} (ht:qnR s td tn) (h1:decide ((l.length:Int)<1)=false) (hh:decide ((l.length:Int)>64)=true) :
 Fn 22 2 [qaw 0 s,.pv (qab tn td),.ls 1 l.length] [(0,0,qai s),(1,0,zrI l)] (.pv (.tuple #[.agg #[.slice none 0 0,.slice none 0 0],iV 2])) 0 []:=
 Fz [] [Cf ht [0],.k,.t false,.t true]
  tI (Co ht [0] 5 (Ai h1 (Ai hh tI)))
theorem qqd {l:List Int} {s:List Pt} {tn td:Int} (ht:qnR s td tn) (h1:decide ((l.length:Int)<1)=false) (hh:decide ((l.length:Int)>64)=false) (hkn:Fn 30 2 [qaw 0 s,.ls 1 l.length] [(0,0,qai s),(1,0,.row 3 1 l.length (ziV l))] (.pv (.bool false)) 0 []) :
 Fn 22 2 [qaw 0 s,.pv (qab tn td),.ls 1 l.length] [(0,0,qai s),(1,0,zrI l)] (.pv (.tuple #[.agg #[.slice none 0 0,.slice none 0 0],iV 6])) 0 []:=
 Fz [] [Cf ht [0],.k,.t false,.t false,Cf hkn [0,1],.k]
  tI (Co ht [0] 5 (Ai h1 (Ai hh (Co hkn [0,1] 5 tI))))
theorem qou {l:List Int} {s:List Pt} {tn td:Int} (ht:qnR s td tn) (h1:decide ((l.length:Int)<1)=false) (hh:decide ((l.length:Int)>64)=false) (hkn:Fn 30 2 [qaw 0 s,.ls 1 l.length] [(0,0,qai s),(1,0,.row 3 1 l.length (ziV l))] (.pv (.bool true)) 0 []) (h2:Fn 31 1 [.ls 0 l.length] [(0,0,.row 3 1 l.length (ziV l))] (.pv (.bool true)) 0 []) :
 Fn 22 2 [qaw 0 s,.pv (qab tn td),.ls 1 l.length] [(0,0,qai s),(1,0,zrI l)] (.pv (.tuple #[.agg #[.slice none 0 0,.slice none 0 0],iV 14])) 0 []:=
 Fz [] [Cf ht [0],.k,.t false,.t false,Cf hkn [0,1],.k,Cf h2 [1]]
  tI (Co ht [0] 5 (Ai h1 (Ai hh (Co hkn [0,1] 5 (Co h2 [1] 5 tI)))))
theorem qpP {l m:List Int} {s:List Pt} {n:Nat} {tn td:Int} (ht:qnR s td tn) (h1:decide ((l.length:Int)<1)=false) (hh:decide ((l.length:Int)>64)=false) (hkn:Fn 30 2 [qaw 0 s,.ls 1 l.length] [(0,0,qai s),(1,0,.row 3 1 l.length (ziV l))] (.pv (.bool true)) 0 []) (h2:Fn 31 1 [.ls 0 l.length] [(0,0,.row 3 1 l.length (ziV l))] (.pv (.bool false)) 0 []) (hbt:Fn 51 2 [qaw 0 s,.pv (qab tn td),.ls 1 l.length] [(0,0,qai s),(1,0,zrI l)] (.ag [.ls 2 l.length,.ls 3 n]) 2 [(2,0,zrI l),(3,0,.row 3 1 n (ziV m))]) :
 Fn 22 2 [qaw 0 s,.pv (qab tn td),.ls 1 l.length] [(0,0,qai s),(1,0,zrI l)] (.tu [.ag [.ls 2 l.length,.ls 3 n],.one (.pv (iV 0))]) 2 [(2,0,zrI l),(3,0,.row 3 1 n (ziV m))]:=
 Fz [(2,5),(3,6)] [Cf ht [0],.k,.t false,.t false,Cf hkn [0,1],.k,Cf h2 [1],Cf hbt [0,1]]
  (qco (qaT [(2,5),(3,6)]) [(2,0,zrI l),(3,0,.row 3 1 n (ziV m))]) (Co ht [0] 5 (Ai h1 (Ai hh (Co hkn [0,1] 5 (Co h2 [1] 5 (Co hbt [0,1] 5 tI))))))
theorem qnU {b:Br} (hc:Fn 26 2 [brS 0 1 b] [(0,0,zrI b.p),(1,0,zrI b.w)] (.pv (iV (8))) 0 []) :
 Fn 23 2 [brS 0 1 b] [(0,0,zrI b.p),(1,0,zrI b.w)] (.pv (.tuple #[iV 0,iV 8])) 0 []:=
 Fz [] [Cf hc [0,1],.k]
  tI (Co hc [0,1] 3 tI)
theorem qpW {b:Br} {x:Int} (hc:Fn 26 2 [brS 0 1 b] [(0,0,zrI b.p),(1,0,zrI b.w)] (.pv (iV (0))) 0 []) (hn:Fn 52 2 [brS 0 1 b,.pv (iV (0))] [(0,0,zrI b.p),(1,0,zrI b.w)] (.pv (iV (x))) 0 []) (hx:decide (x<0)=true) :
 Fn 23 2 [brS 0 1 b] [(0,0,zrI b.p),(1,0,zrI b.w)] (.pv (.tuple #[iV 0,iV 42])) 0 []:=
 Fz [] [Cf hc [0,1],.k,Cf hn [0,1],.t true]
  tI (Co hc [0,1] 3 (Co hn [0,1] 3 (Ai hx tI)))
theorem qoX {b:Br} {x:Int} (hc:Fn 26 2 [brS 0 1 b] [(0,0,zrI b.p),(1,0,zrI b.w)] (.pv (iV (0))) 0 []) (hn:Fn 52 2 [brS 0 1 b,.pv (iV (0))] [(0,0,zrI b.p),(1,0,zrI b.w)] (.pv (iV (x))) 0 []) (hx:decide (x<0)=false) :
 Fn 23 2 [brS 0 1 b] [(0,0,zrI b.p),(1,0,zrI b.w)] (.pv (.tuple #[iV x,iV 0])) 0 []:=
 Fz [] [Cf hc [0,1],.k,Cf hn [0,1],.t false,Cf hn [0,1]]
  tI (Co hc [0,1] 3 (Co hn [0,1] 3 (Ai hx (Co hn [0,1] 3 tI))))
theorem qkw {n:Nat} {x y z:Int} {vs:List Value} (h0:decide (z>0)=true) (h1:iV (IntKind.i64.wrap (z-1))=iV (x)) (nz:¬ (2:Int)=0) (hq:iV (IntKind.i64.wrap (Int.tdiv x 2))=iV (y)) (hn:n+1≤1000000) {e:Exit} {tm2:TmL} {hp2:HpL}
 (r:Rl 2 2 53 0 22 4 ([(5,.ls 3 (n+1)),(6,.pv (iV (y)))]) ([(3,0,.row 3 1 (n+1) (vs++[iV y]))]) e tm2 hp2):Rl 2 2 53 0 22 4 ([(5,.ls 3 (n)),(6,.pv (iV (z)))]) ([(3,0,.row 3 1 (n) (vs))]) e tm2 hp2:=
 RunsL.next [(3,5)] 300 [.t true,Re h1,Re hq]
  (Ro (Ai h0 (Ai h1 (Ai nz (Ai hq (Ai hn tI)))))) r
theorem qov {n:Nat} {z:Int} {vs:List Value} (h0:decide (z>0)=false):Rl 2 2 53 0 22 4 ([(5,.ls 3 (n)),(6,.pv (iV (z)))]) ([(3,0,.row 3 1 (n) (vs))]) (.exit 0) ([(5,.ls 3 n)]) ([(3,0,.row 3 1 (n) (vs))]):=
 RunsL.stop [] 300 [.t false] (fun h=>by cases h)
  (Ro (Ai h0 tI))
theorem qlV {b:Br} {n:Nat} {z pz:Int} {vs:List Value} (hs:iV (IntKind.i64.wrap (pz+(b.w.length:Int)))=iV (z)) (r0:Rl 2 2 53 0 22 4 ([(5,.ls 3 (0)),(6,.pv (iV (z)))]) ([(3,0,.row 3 1 (0) ([]))]) (.exit 0) ([(5,.ls 3 n)]) ([(3,0,.row 3 1 (n) (vs))])) :
 Fn 53 2 [brS 0 1 b,.pv (iV (pz))] [(0,0,zrI b.p),(1,0,zrI b.w)] (.ls 2 n) 1 [(2,0,.row 3 1 n vs)]:=
 Fz [(2,3)] [Re hs,.ln true 5 0 3 1,Lf r0]
  (qco (qaT [(2,3)]) [(2,0,.row 3 1 n vs)]) (Ai hs (Lo r0 [] tI))
theorem qm2 {b:Br} {pz:Int} (hc:Fn 26 2 [brS 0 1 b] [(0,0,zrI b.p),(1,0,zrI b.w)] (.pv (iV (8))) 0 []) :
 Fn 24 2 [brS 0 1 b,.pv (iV (pz))] [(0,0,zrI b.p),(1,0,zrI b.w)] (.pv (.tuple #[.slice none 0 0,iV 8])) 0 []:=
 Fz [] [Cf hc [0,1],.k]
  tI (Co hc [0,1] 3 tI)
theorem qp2 {b:Br} {pz:Int} (hc:Fn 26 2 [brS 0 1 b] [(0,0,zrI b.p),(1,0,zrI b.w)] (.pv (iV (0))) 0 []) (h1:decide (pz<0)=true) :
 Fn 24 2 [brS 0 1 b,.pv (iV (pz))] [(0,0,zrI b.p),(1,0,zrI b.w)] (.pv (.tuple #[.slice none 0 0,iV 2])) 0 []:=
 Fz [] [Cf hc [0,1],.k,.t true]
  tI (Co hc [0,1] 3 (Ai h1 tI))
theorem qoU {b:Br} {pz:Int} (hc:Fn 26 2 [brS 0 1 b] [(0,0,zrI b.p),(1,0,zrI b.w)] (.pv (iV (0))) 0 []) (h1:decide (pz<0)=false) (h2:decide (pz≥(b.p.length:Int))=true) :
 Fn 24 2 [brS 0 1 b,.pv (iV (pz))] [(0,0,zrI b.p),(1,0,zrI b.w)] (.pv (.tuple #[.slice none 0 0,iV 2])) 0 []:=
 Fz [] [Cf hc [0,1],.k,.t false,.t true]
  tI (Co hc [0,1] 3 (Ai h1 (Ai h2 tI)))
theorem qpp {b:Br} {g:List Int} {pz:Int} (hc:Fn 26 2 [brS 0 1 b] [(0,0,zrI b.p),(1,0,zrI b.w)] (.pv (iV (0))) 0 []) (h1:decide (pz<0)=false) (h2:decide (pz≥(b.p.length:Int))=false) (hy:Fn 53 2 [brS 0 1 b,.pv (iV (pz))] [(0,0,zrI b.p),(1,0,zrI b.w)] (.ls 2 g.length) 1 [(2,0,zrI g)]) :
 Fn 24 2 [brS 0 1 b,.pv (iV (pz))] [(0,0,zrI b.p),(1,0,zrI b.w)] (.tu [.one (.ls 2 g.length),.one (.pv (iV 0))]) 1 [(2,0,zrI g)]:=
 Fz [(2,3)] [Cf hc [0,1],.k,.t false,.t false,Cf hy [0,1]]
  (qco (qaT [(2,3)]) [(2,0,zrI g)]) (Co hc [0,1] 3 (Ai h1 (Ai h2 (Co hy [0,1] 3 tI))))
abbrev qsl (k:Nat):TmL:=[(3,.pp 3 0),(4,.pp 4 0),(5,.pp 5 0),(7,.pv (iV (k:Int)))]
theorem qlq {b:Br} {s:List Pt} {k:Nat} {x y z2 v tn td e1 e2 id:Int} (hk:b.w[k]?=some id) (hin:0≤(k:Int)∧(k:Int)<(b.w.length:Int)) (hlt:decide ((k:Int)<(b.w.length:Int))=true) (hm:iV (IntKind.i64.wrap (2*(k:Int)))=iV (z2)) (ha:iV (IntKind.i64.wrap (z2+1))=iV (e1)) (hx:Fn 52 2 [.ag [.ls 0 b.p.length,.ls 1 b.w.length],.pv (iV (e1))] [(0,0,.row 3 1 b.p.length (ziV b.p)),(1,0,.row 3 1 b.w.length (ziV b.w))] (.pv (iV (x))) 0 []) (hb:iV (IntKind.i64.wrap (z2+2))=iV (e2)) (hy:Fn 52 2 [.ag [.ls 0 b.p.length,.ls 1 b.w.length],.pv (iV (e2))] [(0,0,.row 3 1 b.p.length (ziV b.p)),(1,0,.row 3 1 b.w.length (ziV b.w))] (.pv (iV (y))) 0 []) (hw:qrp s td tn v x y) (hv:(id !=v)=false) (hs:iV (IntKind.i64.wrap ((k:Int)+1))=iV (((k+1:Nat):Int))) {e:Exit} {tm2:TmL} {hp2:HpL}
 (r:Rl 3 3 54 0 34 6 ([(3,.pp 3 0),(4,.pp 4 0),(5,.pp 5 0),(7,.pv (iV ((k+1:Nat):Int)))]) ([(3,0,.ls 0 b.p.length),(3,1,.ls 1 b.w.length),(4,0,.ls 2 s.length),(5,0,.pv (iV tn)),(5,1,.pv (iV td)),(0,0,zrI b.p),(1,0,zrI b.w),(2,0,qai s)]) e tm2 hp2):Rl 3 3 54 0 34 6 (qsl k) ([(3,0,.ls 0 b.p.length),(3,1,.ls 1 b.w.length),(4,0,.ls 2 s.length),(5,0,.pv (iV tn)),(5,1,.pv (iV td)),(0,0,zrI b.p),(1,0,zrI b.w),(2,0,qai s)]) e tm2 hp2:=
 RunsL.next [] 300 [.t true,.r (iV id),Re hm,Re ha,Cf hx [0,1],Re hm,Re hb,Cf hy [0,1],Cf hw [2],.t false,Re hs]
  (Ro (Ai hlt (Ai hin (Ai (qaX hk) (Ai hm (Ai ha (Co hx [0,1] 6 (Ai hm (Ai hb (Co hy [0,1] 6 (Co hw [2] 6 (Ai hv (Ai hs tI))))))))))))) r
theorem qoa {b:Br} {s:List Pt} {k:Nat} {x y z2 v tn td e1 e2 id:Int} (hk:b.w[k]?=some id) (hin:0≤(k:Int)∧(k:Int)<(b.w.length:Int)) (hlt:decide ((k:Int)<(b.w.length:Int))=true) (hm:iV (IntKind.i64.wrap (2*(k:Int)))=iV (z2)) (ha:iV (IntKind.i64.wrap (z2+1))=iV (e1)) (hx:Fn 52 2 [.ag [.ls 0 b.p.length,.ls 1 b.w.length],.pv (iV (e1))] [(0,0,.row 3 1 b.p.length (ziV b.p)),(1,0,.row 3 1 b.w.length (ziV b.w))] (.pv (iV (x))) 0 []) (hb:iV (IntKind.i64.wrap (z2+2))=iV (e2)) (hy:Fn 52 2 [.ag [.ls 0 b.p.length,.ls 1 b.w.length],.pv (iV (e2))] [(0,0,.row 3 1 b.p.length (ziV b.p)),(1,0,.row 3 1 b.w.length (ziV b.w))] (.pv (iV (y))) 0 []) (hw:qrp s td tn v x y) (hv:(id !=v)=true):Rl 3 3 54 0 34 6 (qsl k) ([(3,0,.ls 0 b.p.length),(3,1,.ls 1 b.w.length),(4,0,.ls 2 s.length),(5,0,.pv (iV tn)),(5,1,.pv (iV td)),(0,0,zrI b.p),(1,0,zrI b.w),(2,0,qai s)]) (.ret) ([(6,.pv (.bool false))]) ([]):=
 RunsL.stop [] 300 [.t true,.r (iV id),Re hm,Re ha,Cf hx [0,1],Re hm,Re hb,Cf hy [0,1],Cf hw [2],.t true] (fun h=>by cases h)
  (Ro (Ai hlt (Ai hin (Ai (qaX hk) (Ai hm (Ai ha (Co hx [0,1] 6 (Ai hm (Ai hb (Co hy [0,1] 6 (Co hw [2] 6 (Ai hv tI))))))))))))
theorem qnH {b:Br} {s:List Pt} {k:Nat} {tn td:Int} (hge:decide ((k:Int)<(b.w.length:Int))=false):Rl 3 3 54 0 34 6 (qsl k) ([(3,0,.ls 0 b.p.length),(3,1,.ls 1 b.w.length),(4,0,.ls 2 s.length),(5,0,.pv (iV tn)),(5,1,.pv (iV td)),(0,0,zrI b.p),(1,0,zrI b.w),(2,0,qai s)]) (.exit 0) ([]) ([]):=
 RunsL.stop [] 300 [.t false] (fun h=>by cases h)
  (Ro (Ai hge tI))
theorem qqj {b:Br} {s:List Pt} {tn td:Int} (r0:Rl 3 3 54 0 34 6 ([(3,.pp 3 0),(4,.pp 4 0),(5,.pp 5 0),(7,.pv (iV ((0:Nat):Int)))]) ([(3,0,.ls 0 b.p.length),(3,1,.ls 1 b.w.length),(4,0,.ls 2 s.length),(5,0,.pv (iV tn)),(5,1,.pv (iV td)),(0,0,zrI b.p),(1,0,zrI b.w),(2,0,qai s)]) (.ret) ([(6,.pv (.bool false))]) ([])) :
 Fn 54 3 [brS 0 1 b,qaw 2 s,.pv (qab tn td)] [(0,0,zrI b.p),(1,0,zrI b.w),(2,0,qai s)] (.pv (.bool false)) 0 []:=
 Fz [] [Lf r0]
  tI (Lo r0 [] tI)
theorem qmu {b:Br} {s:List Pt} {tn td:Int} (r0:Rl 3 3 54 0 34 6 ([(3,.pp 3 0),(4,.pp 4 0),(5,.pp 5 0),(7,.pv (iV ((0:Nat):Int)))]) ([(3,0,.ls 0 b.p.length),(3,1,.ls 1 b.w.length),(4,0,.ls 2 s.length),(5,0,.pv (iV tn)),(5,1,.pv (iV td)),(0,0,zrI b.p),(1,0,zrI b.w),(2,0,qai s)]) (.exit 0) ([]) ([])) :
 Fn 54 3 [brS 0 1 b,qaw 2 s,.pv (qab tn td)] [(0,0,zrI b.p),(1,0,zrI b.w),(2,0,qai s)] (.pv (.bool true)) 0 []:=
 Fz [] [Lf r0]
  tI (Lo r0 [] tI)
theorem qm4 {b:Br} {s:List Pt} {tn td:Int} (hc:Fn 26 2 [brS 0 1 b] [(0,0,zrI b.p),(1,0,zrI b.w)] (.pv (iV (8))) 0 []) :
 Fn 25 3 [brS 0 1 b,qaw 2 s,.pv (qab tn td)] [(0,0,zrI b.p),(1,0,zrI b.w),(2,0,qai s)] (.pv (.tuple #[.bool false,iV 8])) 0 []:=
 Fz [] [Cf hc [0,1],.k]
  tI (Co hc [0,1] 6 tI)
theorem qkF {b:Br} {s:List Pt} {tn td e:Int} (hc:Fn 26 2 [brS 0 1 b] [(0,0,zrI b.p),(1,0,zrI b.w)] (.pv (iV (0))) 0 []) (ht:Fn 29 1 [qaw 0 s,.pv (qab tn td)] [(0,0,qai s)] (.pv (iV (e))) 0 []) (he:(e !=0)=true) :
 Fn 25 3 [brS 0 1 b,qaw 2 s,.pv (qab tn td)] [(0,0,zrI b.p),(1,0,zrI b.w),(2,0,qai s)] (.pv (.tuple #[.bool false,iV e])) 0 []:=
 Fz [] [Cf hc [0,1],.k,Cf ht [2],.t true]
  tI (Co hc [0,1] 6 (Co ht [2] 6 (Ai he tI)))
theorem qoR {b:Br} {s:List Pt} {tn td:Int} (hc:Fn 26 2 [brS 0 1 b] [(0,0,zrI b.p),(1,0,zrI b.w)] (.pv (iV (0))) 0 []) (ht:qnR s td tn) (hkn:Fn 30 2 [qaw 0 s,.ls 1 b.p.length] [(0,0,qai s),(1,0,.row 3 1 b.p.length (ziV b.p))] (.pv (.bool false)) 0 []) :
 Fn 25 3 [brS 0 1 b,qaw 2 s,.pv (qab tn td)] [(0,0,zrI b.p),(1,0,zrI b.w),(2,0,qai s)] (.pv (.tuple #[.bool false,iV 6])) 0 []:=
 Fz [] [Cf hc [0,1],.k,Cf ht [2],.k,Cf hkn [2,0],.k]
  tI (Co hc [0,1] 6 (Co ht [2] 6 (Co hkn [2,0] 6 tI)))
theorem qqG {b:Br} {s:List Pt} {tn td:Int} {w:Bool} (hc:Fn 26 2 [brS 0 1 b] [(0,0,zrI b.p),(1,0,zrI b.w)] (.pv (iV (0))) 0 []) (ht:qnR s td tn) (hkn:Fn 30 2 [qaw 0 s,.ls 1 b.p.length] [(0,0,qai s),(1,0,.row 3 1 b.p.length (ziV b.p))] (.pv (.bool true)) 0 []) (hf:Fn 54 3 [brS 0 1 b,qaw 2 s,.pv (qab tn td)] [(0,0,zrI b.p),(1,0,zrI b.w),(2,0,qai s)] (.pv (.bool w)) 0 []) :
 Fn 25 3 [brS 0 1 b,qaw 2 s,.pv (qab tn td)] [(0,0,zrI b.p),(1,0,zrI b.w),(2,0,qai s)] (.pv (.tuple #[.bool w,iV 0])) 0 []:=
 Fz [] [Cf hc [0,1],.k,Cf ht [2],.k,Cf hkn [2,0],.k,Cf hf [0,1,2]]
  tI (Co hc [0,1] 6 (Co ht [2] 6 (Co hkn [2,0] 6 (Co hf [0,1,2] 6 tI))))
end Go.Proofs.Ytgbmdijodlfcaaa
