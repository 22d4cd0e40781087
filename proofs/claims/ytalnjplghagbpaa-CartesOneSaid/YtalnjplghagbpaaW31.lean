/-
  Joined: Eb, Ec, Df. Conditions: none.
-/
import Derived.Test.YtalnjplghagbpaaW29
import Derived.Test.YtalnjplghagbpaaW19
import Derived.Test.YtalnjplghagbpaaW30
namespace Go.Proofs.Ytalnjplghagbpaa
set_option maxRecDepth 100000
open Go.RowKit
theorem qtt (n:Nat):SV.ls 2 (0+n)=(SV.ls 1 n).ren (qaC [(1,2)]):=by rw[Nat.zero_add];rfl
theorem qp3 (e:TypeId) (es n:Nat) (xs:List Value):some (SV.row e es (0+n) ([]++xs))=some (SV.row e es n xs):=by rw[Nat.zero_add,List.nil_append]
theorem qq2 {z v:Int} (h:(z==(-1))=true) :
 Pure Try.prog 57 #[iV (z),iV (v)] (iV (-1)):=
 qae (args:=[iV (z),iV (v)]) 300 [.t true]
  (Ai rfl (Ai h tI)) (by kernel_rfl)
theorem qoW {y z v:Int} (h:(z==(-1))=false) (hs:iV (IntKind.i64.wrap (z+v))=iV (y)) :
 Pure Try.prog 57 #[iV (z),iV (v)] (iV (y)):=
 qae (args:=[iV (z),iV (v)]) 300 [.t false,Re hs]
  (Ai rfl (Ai h (Ai hs tI))) (by kernel_rfl)
theorem qmY {l:List Pt} (h:decide ((l.length:Int)>64)=true) :
 Fn 61 1 [.ls 0 l.length] [(0,0,qab l)] (.pv (iV (4))) 0 []:=
 Fz [] [.t true]
  tI (Ai h tI)
theorem qkt {l:List Pt} (h:decide ((l.length:Int)>64)=false) :
 Fn 61 1 [.ls 0 l.length] [(0,0,qab l)] (.pv (iV (0))) 0 []:=
 Fz [] [.t false]
  tI (Ai h tI)
theorem qle {l:List Pt} {p q:Pt} {j k:Nat} (hlt:decide ((k:Int)<(l.length:Int))=true) (hs1:iV (IntKind.i64.wrap ((k:Int)-1))=iV (j:Int)) (hj:l[j]?=some p) (hinj:0≤(j:Int)∧(j:Int)<(l.length:Int)) (hk:l[k]?=some q) (hin:0≤(k:Int)∧(k:Int)<(l.length:Int)) (hc:decide (p.id≥q.id)=false) (hs:iV (IntKind.i64.wrap ((k:Int)+1))=iV (((k+1:Nat):Int))) {e:Exit} {tm2:TmL} {hp2:HpL}
 (r:Rl 1 1 52 0 22 1 ([(0,.ls 0 l.length),(3,.pv (iV ((k+1:Nat):Int)))]) ([(0,0,qab l)]) e tm2 hp2):Rl 1 1 52 0 22 1 ([(0,.ls 0 l.length),(3,.pv (iV (k:Int)))]) ([(0,0,qab l)]) e tm2 hp2:=
 RunsL.next [] 300 [.t true,Re hs1,.r (iV p.id),.r (iV q.id),.t false,Re hs]
  (Ro (Ai hlt (Ai hs1 (Ai hinj (Ai (qa1 hj) (Ai hin (Ai (qa1 hk) (Ai hc (Ai hs tI))))))))) r
theorem qpP {l:List Pt} {p q:Pt} {j k:Nat} (hlt:decide ((k:Int)<(l.length:Int))=true) (hs1:iV (IntKind.i64.wrap ((k:Int)-1))=iV (j:Int)) (hj:l[j]?=some p) (hinj:0≤(j:Int)∧(j:Int)<(l.length:Int)) (hk:l[k]?=some q) (hin:0≤(k:Int)∧(k:Int)<(l.length:Int)) (hc:decide (p.id≥q.id)=true):Rl 1 1 52 0 22 1 ([(0,.ls 0 l.length),(3,.pv (iV (k:Int)))]) ([(0,0,qab l)]) (.ret) ([(2,.pv (iV 32))]) ([]):=
 RunsL.stop [] 300 [.t true,Re hs1,.r (iV p.id),.r (iV q.id),.t true] (fun h=>by cases h)
  (Ro (Ai hlt (Ai hs1 (Ai hinj (Ai (qa1 hj) (Ai hin (Ai (qa1 hk) (Ai hc tI))))))))
theorem qkA {l:List Pt} {k:Nat} (hlt:decide ((k:Int)<(l.length:Int))=false):Rl 1 1 52 0 22 1 ([(0,.ls 0 l.length),(3,.pv (iV (k:Int)))]) ([(0,0,qab l)]) (.exit 0) ([]) ([]):=
 RunsL.stop [] 300 [.t false] (fun h=>by cases h)
  (Ro (Ai hlt tI))
theorem qr2 {l:List Pt} (r0:Rl 1 1 52 0 22 1 ([(0,.ls 0 l.length),(3,.pv (iV ((1:Nat):Int)))]) ([(0,0,qab l)]) (.ret) ([(2,.pv (iV 32))]) ([])) :
 Fn 52 1 [.ls 0 l.length] [(0,0,qab l)] (.pv (iV (32))) 0 []:=
 Fz [] [Lf r0]
  tI (Lo r0 [] tI)
theorem qiV {l:List Pt} (r0:Rl 1 1 52 0 22 1 ([(0,.ls 0 l.length),(3,.pv (iV ((1:Nat):Int)))]) ([(0,0,qab l)]) (.exit 0) ([]) ([])) :
 Fn 52 1 [.ls 0 l.length] [(0,0,qab l)] (.pv (iV (0))) 0 []:=
 Fz [] [Lf r0]
  tI (Lo r0 [] tI)
abbrev qs8 (g:List Int) (k:Nat) (l:List Pt) (y:Int):TmL:=[(0,.ls 0 l.length),(5,.pv (iV (y))),(9,.ls 1 g.length),(10,.pv (iV (g.length:Int))),(11,.pv (iV (k:Int)))]
theorem qqL {y z:Int} {l:List Pt} {p:Pt} {g:List Int} {k:Nat} (hlt:decide ((k:Int)<(g.length:Int))=true) (hin:0≤(k:Int)∧(k:Int)<(g.length:Int)) (hg:g[k]?=some z) (hzi:0≤z∧z<(l.length:Int)) (hp:l[z.toNat]?=some p) (h1:decide (p.id≤y)=true):Rl 2 2 63 0 29 2 (qs8 g k l y) ([(0,0,qab l),(1,0,zrI g)]) (.ret) ([(4,.pv (.bool false))]) ([]):=
 RunsL.stop [] 300 [.t true,.r (iV z),.r (iV p.id),.t true] (fun h=>by cases h)
  (Ro (Ai hlt (Ai hin (Ai (qe7 hg) (Ai hzi (Ai (qaH hp) (Ai h1 tI)))))))
theorem qsf {y z:Int} {l:List Pt} {p:Pt} {g:List Int} {k:Nat} (hlt:decide ((k:Int)<(g.length:Int))=true) (hin:0≤(k:Int)∧(k:Int)<(g.length:Int)) (hg:g[k]?=some z) (hzi:0≤z∧z<(l.length:Int)) (hp:l[z.toNat]?=some p) (h1:decide (p.id≤y)=false) (h2:decide (p.id>65535)=true):Rl 2 2 63 0 29 2 (qs8 g k l y) ([(0,0,qab l),(1,0,zrI g)]) (.ret) ([(4,.pv (.bool false))]) ([]):=
 RunsL.stop [] 300 [.t true,.r (iV z),.r (iV p.id),.t false,.t true] (fun h=>by cases h)
  (Ro (Ai hlt (Ai hin (Ai (qe7 hg) (Ai hzi (Ai (qaH hp) (Ai h1 (Ai h2 tI))))))))
theorem qmO {y z:Int} {l:List Pt} {p:Pt} {g:List Int} {k:Nat} (hlt:decide ((k:Int)<(g.length:Int))=true) (hin:0≤(k:Int)∧(k:Int)<(g.length:Int)) (hg:g[k]?=some z) (hzi:0≤z∧z<(l.length:Int)) (hp:l[z.toNat]?=some p) (h1:decide (p.id≤y)=false) (h2:decide (p.id>65535)=false) (hs:iV (IntKind.i64.wrap ((k:Int)+1))=iV (((k+1:Nat):Int))) {e:Exit} {tm2:TmL} {hp2:HpL}
 (r:Rl 2 2 63 0 29 2 ([(0,.ls 0 l.length),(5,.pv (iV (p.id))),(9,.ls 1 g.length),(10,.pv (iV (g.length:Int))),(11,.pv (iV ((k+1:Nat):Int)))]) ([(0,0,qab l),(1,0,zrI g)]) e tm2 hp2):Rl 2 2 63 0 29 2 (qs8 g k l y) ([(0,0,qab l),(1,0,zrI g)]) e tm2 hp2:=
 RunsL.next [] 300 [.t true,.r (iV z),.r (iV p.id),.t false,.t false,Re hs]
  (Ro (Ai hlt (Ai hin (Ai (qe7 hg) (Ai hzi (Ai (qaH hp) (Ai h1 (Ai h2 (Ai hs tI))))))))) r
theorem qoB {y:Int} {l:List Pt} {g:List Int} {k:Nat} (hlt:decide ((k:Int)<(g.length:Int))=false):Rl 2 2 63 0 29 2 (qs8 g k l y) ([(0,0,qab l),(1,0,zrI g)]) (.exit 0) ([]) ([]):=
 RunsL.stop [] 300 [.t false] (fun h=>by cases h)
  (Ro (Ai hlt tI))
abbrev quA (g:List Int) (l:List Pt):TmL:=[(0,.ls 0 l.length),(5,.pv (iV (-1))),(9,.ls 1 g.length),(10,.pv (iV (g.length:Int))),(11,.pv (iV ((0:Nat):Int)))]
theorem qq0 {l:List Pt} {g:List Int} (r0:Rl 2 2 63 0 29 2 (quA g l) ([(0,0,qab l),(1,0,zrI g)]) (.ret) ([(4,.pv (.bool false))]) ([])) :
 Fn 63 2 [.ls 0 l.length,.ls 1 g.length] [(0,0,qab l),(1,0,zrI g)] (.pv (.bool false)) 0 []:=
 Fz [] [Lf r0]
  tI (Lo r0 [] tI)
theorem qnU {l:List Pt} {g:List Int} (r0:Rl 2 2 63 0 29 2 (quA g l) ([(0,0,qab l),(1,0,zrI g)]) (.exit 0) ([]) ([])) :
 Fn 63 2 [.ls 0 l.length,.ls 1 g.length] [(0,0,qab l),(1,0,zrI g)] (.pv (.bool true)) 0 []:=
 Fz [] [Lf r0]
  tI (Lo r0 [] tI)
abbrev qth (k:Nat) (l:List Pt) (m:List Pt):TmL:=[(0,.ls 0 l.length),(1,.ls 1 m.length),(12,.pv (iV (l.length:Int))),(13,.pv (iV (k:Int)))]
theorem qln {l m:List Pt} {p q:Pt} {k:Nat} (hlt:decide ((k:Int)<(l.length:Int))=true) (hk:l[k]?=some p) (hin:0≤(k:Int)∧(k:Int)<(l.length:Int)) (hm:m[k]?=some q) (hin2:0≤(k:Int)∧(k:Int)<(m.length:Int)) (hne:(!((p.id==q.id)&&((p.a==q.a)&&((p.b==q.b)&&true))))=false) (hs:iV (IntKind.i64.wrap ((k:Int)+1))=iV (((k+1:Nat):Int))) {e:Exit} {tm2:TmL} {hp2:HpL}
 (r:Rl 2 2 87 0 26 2 ([(0,.ls 0 l.length),(1,.ls 1 m.length),(12,.pv (iV (l.length:Int))),(13,.pv (iV ((k+1:Nat):Int)))]) ([(0,0,qab l),(1,0,qab m)]) e tm2 hp2):Rl 2 2 87 0 26 2 (qth k l m) ([(0,0,qab l),(1,0,qab m)]) e tm2 hp2:=
 RunsL.next [] 300 [.t true,.r (ptV p),.r (ptV q),.t false,Re hs]
  (Ro (Ai hlt (Ai hin (Ai (qbc hk) (Ai hin2 (Ai (qbc hm) (Ai hne (Ai hs tI)))))))) r
theorem qpJ {l m:List Pt} {p q:Pt} {k:Nat} (hlt:decide ((k:Int)<(l.length:Int))=true) (hk:l[k]?=some p) (hin:0≤(k:Int)∧(k:Int)<(l.length:Int)) (hm:m[k]?=some q) (hin2:0≤(k:Int)∧(k:Int)<(m.length:Int)) (hne:(!((p.id==q.id)&&((p.a==q.a)&&((p.b==q.b)&&true))))=true):Rl 2 2 87 0 26 2 (qth k l m) ([(0,0,qab l),(1,0,qab m)]) (.ret) ([(4,.pv (.bool false))]) ([]):=
 RunsL.stop [] 300 [.t true,.r (ptV p),.r (ptV q),.t true] (fun h=>by cases h)
  (Ro (Ai hlt (Ai hin (Ai (qbc hk) (Ai hin2 (Ai (qbc hm) (Ai hne tI)))))))
theorem qpz {l m:List Pt} {k:Nat} (hlt:decide ((k:Int)<(l.length:Int))=false):Rl 2 2 87 0 26 2 (qth k l m) ([(0,0,qab l),(1,0,qab m)]) (.exit 0) ([]) ([]):=
 RunsL.stop [] 300 [.t false] (fun h=>by cases h)
  (Ro (Ai hlt tI))
theorem qps {l m:List Pt} (hl:((l.length:Int) !=(m.length:Int))=true) :
 Fn 87 2 [.ls 0 l.length,.ls 1 m.length] [(0,0,qab l),(1,0,qab m)] (.pv (.bool false)) 0 []:=
 Fz [] [.t true]
  tI (Ai hl tI)
theorem qr1 {l m:List Pt} (hl:((l.length:Int) !=(m.length:Int))=false) (r0:Rl 2 2 87 0 26 2 ([(0,.ls 0 l.length),(1,.ls 1 m.length),(12,.pv (iV (l.length:Int))),(13,.pv (iV ((0:Nat):Int)))]) ([(0,0,qab l),(1,0,qab m)]) (.ret) ([(4,.pv (.bool false))]) ([])) :
 Fn 87 2 [.ls 0 l.length,.ls 1 m.length] [(0,0,qab l),(1,0,qab m)] (.pv (.bool false)) 0 []:=
 Fz [] [.t false,Lf r0]
  tI (Ai hl (Lo r0 [] tI))
theorem qnX {l m:List Pt} (hl:((l.length:Int) !=(m.length:Int))=false) (r0:Rl 2 2 87 0 26 2 ([(0,.ls 0 l.length),(1,.ls 1 m.length),(12,.pv (iV (l.length:Int))),(13,.pv (iV ((0:Nat):Int)))]) ([(0,0,qab l),(1,0,qab m)]) (.exit 0) ([]) ([])) :
 Fn 87 2 [.ls 0 l.length,.ls 1 m.length] [(0,0,qab l),(1,0,qab m)] (.pv (.bool true)) 0 []:=
 Fz [] [.t false,Lf r0]
  tI (Ai hl (Lo r0 [] tI))
theorem qme {rt x:Int} {l m:List Pt} (hr:(rt==x)=false) :
 Fn 49 2 [trS 0 rt l,trS 1 x m] [(0,0,qab l),(1,0,qab m)] (.pv (.bool false)) 0 []:=
 Fz [] [.t false]
  tI (Ai hr tI)
theorem qr7 {rt x:Int} {l m:List Pt} {w:Bool} (hr:(rt==x)=true) (hq:Fn 87 2 [.ls 0 l.length,.ls 1 m.length] [(0,0,qab l),(1,0,qab m)] (.pv (.bool w)) 0 []) :
 Fn 49 2 [trS 0 rt l,trS 1 x m] [(0,0,qab l),(1,0,qab m)] (.pv (.bool w)) 0 []:=
 Fz [] [.t true,Cf hq [0,1]]
  tI (Ai hr (Co hq [0,1] 4 tI))
theorem qmm {n:Nat} {xs:List Value} (h0:0<n) (hn:0+n≤1000000) :
 Fn 53 1 [.ls 0 n] [(0,0,.row 26 3 n xs)] (.ls 1 n) 1 [(1,0,.row 26 3 n xs)]:=
 Fx [(1,2)] [.t false]
  (qtt n) (Ai (qp3 26 3 n xs) tI) (Ai h0 (Ai hn tI))
theorem qtR {ad:Addr} {c:Nat} :
 Fn 53 0 [.pv (.slice (some ad) 0 c)] [] (.ls 0 0) 1 [(0,0,.row 26 3 0 [])]:=
 Fz [(0,1)] [.k]
  (qan (qaC [(0,1)]) [(0,0,.row 26 3 0 [])]) (Ai (Nat.zero_le _:0+0≤1000000) tI)
theorem qoF {c:Nat}:Pure Try.prog 53 #[.slice none 0 c] (.slice none 0 0):=
 qiI (args:=[.slice none 0 c]) 200 [] (Ai rfl tI) (by kernel_rfl)
theorem qmK {x y v:Int} {l:List Pt} {p:Pt} {k n:Nat} {vs:List Value} (hlt:decide ((k:Int)<(l.length:Int))=true) (hk:l[k]?=some p) (hin:0≤(k:Int)∧(k:Int)<(l.length:Int)) (hn:n+1≤1000000) (ha:Pure Try.prog 57 #[iV (p.a),iV (v)] (iV (x))) (hb:Pure Try.prog 57 #[iV (p.b),iV (v)] (iV (y))) (hs:iV (IntKind.i64.wrap ((k:Int)+1))=iV (((k+1:Nat):Int))) {e:Exit} {tm2:TmL} {hp2:HpL}
 (r:Rl 1 1 58 0 30 2 ([(1,.pv (iV v)),(5,.ls 1 (n+1)),(8,.ls 0 l.length),(9,.pv (iV (l.length:Int))),(10,.pv (iV ((k+1:Nat):Int)))]) ([(0,0,qab l),(1,0,.row 26 3 (n+1) (vs++[iV p.id,iV x,iV y]))]) e tm2 hp2):Rl 1 1 58 0 30 2 ([(1,.pv (iV v)),(5,.ls 1 n),(8,.ls 0 l.length),(9,.pv (iV (l.length:Int))),(10,.pv (iV (k:Int)))]) ([(0,0,qab l),(1,0,.row 26 3 n (vs))]) e tm2 hp2:=
 RunsL.next [(1,4)] 300 [.t true,.r (ptV p),.md,Rf ha,Rf hb,Re hs]
  (Ro (Ai hlt (Ai hin (Ai (qbc hk) (Ai ha (Ai hb (Ai hn (Ai hs tI)))))))) r
theorem qpT {v:Int} {l:List Pt} {k n:Nat} {vs:List Value} (hlt:decide ((k:Int)<(l.length:Int))=false):Rl 1 1 58 0 30 2 ([(1,.pv (iV v)),(5,.ls 1 n),(8,.ls 0 l.length),(9,.pv (iV (l.length:Int))),(10,.pv (iV (k:Int)))]) ([(0,0,qab l),(1,0,.row 26 3 n (vs))]) (.exit 0) ([(5,.ls 1 n)]) ([(1,0,.row 26 3 n (vs))]):=
 RunsL.stop [] 300 [.t false] (fun h=>by cases h)
  (Ro (Ai hlt tI))
theorem qqo {v:Int} {l:List Pt} {n:Nat} {vs:List Value} (r0:Rl 1 1 58 0 30 2 ([(1,.pv (iV v)),(5,.ls 1 0),(8,.ls 0 l.length),(9,.pv (iV (l.length:Int))),(10,.pv (iV ((0:Nat):Int)))]) ([(0,0,qab l),(1,0,.row 26 3 0 ([]))]) (.exit 0) ([(5,.ls 1 n)]) ([(1,0,.row 26 3 n (vs))])) :
 Fn 58 1 [.ls 0 l.length,.pv (iV (v))] [(0,0,qab l)] (.ls 1 n) 1 [(1,0,.row 26 3 n (vs))]:=
 Fz [] [.ln true 5 0 26 3,Lf r0]
  (qan (qaC []) [(1,0,.row 26 3 n (vs))]) (Lo r0 [] tI)
theorem qqp {a pa pb n:Int} (n1:(!(a==a))=false) (n2:(!(n==n))=false) (h1:decide (a<n)=true) :
 Pure Try.prog 90 #[qac a pa pb,iV n] (iV (-1)):=
 qae (args:=[qac a pa pb,iV n]) 300 [.k,.k,.t false,.k,.t false,.t true]
  (Ai rfl (Ai n1 (Ai n2 (Ai h1 tI)))) (by kernel_rfl)
theorem qrK {a pa pb n:Int} (n1:(!(a==a))=false) (n2:(!(n==n))=false) (h1:decide (a<n)=false) (h2:decide (a>n)=true) :
 Pure Try.prog 90 #[qac a pa pb,iV n] (iV (1)):=
 qae (args:=[qac a pa pb,iV n]) 300 [.k,.k,.t false,.k,.t false,.t false,.t true]
  (Ai rfl (Ai n1 (Ai n2 (Ai h1 (Ai h2 tI))))) (by kernel_rfl)
theorem qsg {a pa pb n:Int} (n1:(!(a==a))=false) (n2:(!(n==n))=false) (h1:decide (a<n)=false) (h2:decide (a>n)=false) :
 Pure Try.prog 90 #[qac a pa pb,iV n] (iV (0)):=
 qae (args:=[qac a pa pb,iV n]) 300 [.k,.k,.t false,.k,.t false,.t false,.t false]
  (Ai rfl (Ai n1 (Ai n2 (Ai h1 (Ai h2 tI))))) (by kernel_rfl)
abbrev qsI (i:Nat) (j:Nat) (l:List Pt) (n:Int):TmL:=[(0,.ls 0 l.length),(1,.pv (iV n)),(2,.pv (.func (.func 90) #[] #[])),(8,.pv (iV (l.length:Int))),(9,.pv (iV (i:Int))),(10,.pv (iV (j:Int)))]
abbrev qsM (c:Int) (n:Int) (p:Pt):Prop:=Pure Try.prog 90 #[qac p.id p.a p.b,iV n] (iV (c))
theorem qrk {l:List Pt} {i j h:Nat} {p:Pt} {c n:Int} (hk:l[h]?=some p) (hin:0≤(h:Int)∧(h:Int)<(l.length:Int)) (hlt:decide ((i:Int)<(j:Int))=true) (ha:iV (IntKind.i64.wrap ((i:Int)+(j:Int)))=iV ((i:Int)+(j:Int))) (hu:Value.int .u64 (IntKind.u64.wrap ((i:Int)+(j:Int)))=.int .u64 ((i:Int)+(j:Int))) (h1:¬ (1:Int)<0) (hs:Value.int .u64 (((i:Int)+(j:Int)).fdiv (2 ^ (min (1:Int).toNat IntKind.u64.bits)))=.int .u64 (h:Int)) (hb:iV (IntKind.i64.wrap (h:Int))=iV (h:Int)) (hc:qsM c n p) (hz:decide (c<0)=true) (hh:iV (IntKind.i64.wrap ((h:Int)+1))=iV (((h+1:Nat):Int))) {e:Exit} {tm2:TmL} {hp2:HpL}
 (r:Rl 1 1 89 0 49 1 ([(0,.ls 0 l.length),(1,.pv (iV n)),(2,.pv (.func (.func 90) #[] #[])),(8,.pv (iV (l.length:Int))),(9,.pv (iV ((h+1:Nat):Int))),(10,.pv (iV (j:Int)))]) ([(0,0,qab l)]) e tm2 hp2):Rl 1 1 89 0 49 1 (qsI i j l n) ([(0,0,qab l)]) e tm2 hp2:=
 RunsL.next [] 300 [.t true,Re ha,Re hu,.r (.int .u64 (h:Int)),Re hb,.r (ptV p),Rf hc,.t true,Re hh]
  (Ro (Ai hlt (Ai ha (Ai hu (Ai h1 (Ai hs (Ai hb (Ai hin (Ai (qbc hk) (Ai hc (Ai hz (Ai hh tI)))))))))))) r
theorem qst {l:List Pt} {i j h:Nat} {p:Pt} {c n:Int} (hk:l[h]?=some p) (hin:0≤(h:Int)∧(h:Int)<(l.length:Int)) (hlt:decide ((i:Int)<(j:Int))=true) (ha:iV (IntKind.i64.wrap ((i:Int)+(j:Int)))=iV ((i:Int)+(j:Int))) (hu:Value.int .u64 (IntKind.u64.wrap ((i:Int)+(j:Int)))=.int .u64 ((i:Int)+(j:Int))) (h1:¬ (1:Int)<0) (hs:Value.int .u64 (((i:Int)+(j:Int)).fdiv (2 ^ (min (1:Int).toNat IntKind.u64.bits)))=.int .u64 (h:Int)) (hb:iV (IntKind.i64.wrap (h:Int))=iV (h:Int)) (hc:qsM c n p) (hz:decide (c<0)=false) {e:Exit} {tm2:TmL} {hp2:HpL}
 (r:Rl 1 1 89 0 49 1 ([(0,.ls 0 l.length),(1,.pv (iV n)),(2,.pv (.func (.func 90) #[] #[])),(8,.pv (iV (l.length:Int))),(9,.pv (iV (i:Int))),(10,.pv (iV (h:Int)))]) ([(0,0,qab l)]) e tm2 hp2):Rl 1 1 89 0 49 1 (qsI i j l n) ([(0,0,qab l)]) e tm2 hp2:=
 RunsL.next [] 300 [.t true,Re ha,Re hu,.r (.int .u64 (h:Int)),Re hb,.r (ptV p),Rf hc,.t false]
  (Ro (Ai hlt (Ai ha (Ai hu (Ai h1 (Ai hs (Ai hb (Ai hin (Ai (qbc hk) (Ai hc (Ai hz tI))))))))))) r
theorem qkH {l:List Pt} {i j:Nat} {n:Int} (hge:decide ((i:Int)<(j:Int))=false):Rl 1 1 89 0 49 1 (qsI i j l n) ([(0,0,qab l)]) (.exit 0) (qsI i j l n) ([(0,0,qab l)]):=
 RunsL.stop [] 300 [.t false] (fun h=>by cases h)
  (Ro (Ai hge tI))
abbrev qtX (k:Nat) (l:List Pt) (n:Int):Prop:=Rl 1 1 89 0 49 1 ([(0,.ls 0 l.length),(1,.pv (iV n)),(2,.pv (.func (.func 90) #[] #[])),(8,.pv (iV (l.length:Int))),(9,.pv (iV ((0:Nat):Int))),(10,.pv (iV (l.length:Int)))]) ([(0,0,qab l)]) (.exit 0) ([(0,.ls 0 l.length),(1,.pv (iV n)),(2,.pv (.func (.func 90) #[] #[])),(8,.pv (iV (l.length:Int))),(9,.pv (iV (k:Int))),(10,.pv (iV (k:Int)))]) ([(0,0,qab l)])
theorem qoe {l:List Pt} {k:Nat} {n:Int} (r0:qtX k l n) (hge:decide ((k:Int)<(l.length:Int))=false) :
 Fn 89 1 [.ls 0 l.length,.pv (iV (n)),.pv (.func (.func 90) #[] #[])] [(0,0,qab l)] (.pv (.tuple #[iV (k:Int),.bool false])) 0 []:=
 Fz [] [Lf r0,.t false]
  tI (Lo r0 [] (Ai hge tI))
theorem qnT {l:List Pt} {k:Nat} {p:Pt} {c:Int} {n:Int} (r0:qtX k l n) (hk:l[k]?=some p) (hin:0≤(k:Int)∧(k:Int)<(l.length:Int)) (hlt:decide ((k:Int)<(l.length:Int))=true) (hc:qsM c n p) (hz:(c==0)=true) :
 Fn 89 1 [.ls 0 l.length,.pv (iV (n)),.pv (.func (.func 90) #[] #[])] [(0,0,qab l)] (.pv (.tuple #[iV (k:Int),.bool true])) 0 []:=
 Fz [] [Lf r0,.t true,.r (ptV p),Rf hc,.t true]
  tI (Lo r0 [] (Ai hlt (Ai hin (Ai (qbc hk) (Ai hc (Ai hz tI))))))
theorem qqt {l:List Pt} {k:Nat} {p:Pt} {c:Int} {n:Int} (r0:qtX k l n) (hk:l[k]?=some p) (hin:0≤(k:Int)∧(k:Int)<(l.length:Int)) (hlt:decide ((k:Int)<(l.length:Int))=true) (hc:qsM c n p) (hz:(c==0)=false) :
 Fn 89 1 [.ls 0 l.length,.pv (iV (n)),.pv (.func (.func 90) #[] #[])] [(0,0,qab l)] (.pv (.tuple #[iV (k:Int),.bool false])) 0 []:=
 Fz [] [Lf r0,.t true,.r (ptV p),Rf hc,.t false]
  tI (Lo r0 [] (Ai hlt (Ai hin (Ai (qbc hk) (Ai hc (Ai hz tI))))))
theorem ele {l:List Pt} {k:Nat} {n:Int} {w:Bool} (hb:Fn 89 1 [.ls 0 l.length,.pv (iV (n)),.pv (.func (.func 90) #[] #[])] [(0,0,qab l)] (.pv (.tuple #[iV (k:Int),.bool w])) 0 []) :
 Fn 55 1 [.ls 0 l.length,.pv (iV (n))] [(0,0,qab l)] (.pv (iV (k:Int))) 0 []:=
 Fz [] [Cf hb [0]]
  tI (Co hb [0] 1 tI)
end Go.Proofs.Ytalnjplghagbpaa

namespace Go.Proofs.Ytalnjplghagbpaa
set_option maxRecDepth 100000
open Go.RowKit
theorem qlD {rt:Int} {l:List Pt} (hs:Fn 61 1 [.ls 0 l.length] [(0,0,qab l)] (.pv (iV (4))) 0 []) :
 Fn 17 1 [trS 0 rt l] [(0,0,qab l)] (.pv (iV (4))) 0 []:=
 Fz [] [Cf hs [0],.k]
  tI (Co hs [0] 2 tI)
abbrev qoT (l:List Pt):Prop:=Fn 61 1 [.ls 0 l.length] [(0,0,qab l)] (.pv (iV (0))) 0 []
theorem qms {rt:Int} {l:List Pt} {g:List Int} (hs:qoT l) (hw:Fn 45 1 [trS 0 rt l] [(0,0,qab l)] (.tu [.one (.ls 1 g.length),.one (.pv (.bool false))]) 1 [(1,0,zrI g)]) :
 Fn 17 1 [trS 0 rt l] [(0,0,qab l)] (.pv (iV (8))) 0 []:=
 Fz [] [Cf hs [0],.k,Cf hw [0],.k]
  tI (Co hs [0] 2 (Co hw [0] 2 tI))
theorem qsc {rt:Int} {l:List Pt} {g:List Int} (hs:qoT l) (hw:Fn 45 1 [trS 0 rt l] [(0,0,qab l)] (.tu [.one (.ls 1 g.length),.one (.pv (.bool true))]) 1 [(1,0,zrI g)]) (hfi:Fn 63 2 [.ls 0 l.length,.ls 1 g.length] [(0,0,qab l),(1,0,zrI g)] (.pv (.bool true)) 0 []) :
 Fn 17 1 [trS 0 rt l] [(0,0,qab l)] (.pv (iV (0))) 0 []:=
 Fz [] [Cf hs [0],.k,Cf hw [0],.k,Cf hfi [0,2],.k]
  tI (Co hs [0] 2 (Co hw [0] 2 (Co hfi [0,2] 3 tI)))
theorem qot {rt:Int} {l:List Pt} {g:List Int} (hs:qoT l) (hw:Fn 45 1 [trS 0 rt l] [(0,0,qab l)] (.tu [.one (.ls 1 g.length),.one (.pv (.bool true))]) 1 [(1,0,zrI g)]) (hfi:Fn 63 2 [.ls 0 l.length,.ls 1 g.length] [(0,0,qab l),(1,0,zrI g)] (.pv (.bool false)) 0 []) :
 Fn 17 1 [trS 0 rt l] [(0,0,qab l)] (.pv (iV (8))) 0 []:=
 Fz [] [Cf hs [0],.k,Cf hw [0],.k,Cf hfi [0,2],.k]
  tI (Co hs [0] 2 (Co hw [0] 2 (Co hfi [0,2] 3 tI)))
theorem qr4 {z:Int} {g:List Int} {n:Nat} (h:(z==(-1))=true) :
 Fn 88 2 [.pv (iV (z)),.pp 0 0] [(0,0,.ls 1 n),(1,0,.row 3 1 n (ziV g))] (.pv (iV (-1))) 0 []:=
 Fz [] [.t true]
  tI (Ai h tI)
theorem qoM {y z:Int} {g:List Int} {n:Nat} (h:(z==(-1))=false) (hin:0≤z∧z<(n:Int)) (hg:g[z.toNat]?=some y) :
 Fn 88 2 [.pv (iV (z)),.pp 0 0] [(0,0,.ls 1 n),(1,0,.row 3 1 n (ziV g))] (.pv (iV (y))) 0 []:=
 Fz [] [.t false,.r (iV y)]
  tI (Ai h (Ai hin (Ai (qj3 hg) tI)))
abbrev qsT (c1:List Int) (g:List Int) (l:List Pt) (n:Nat) (rt:Int):HpL:=[(1,0,.pv (iV rt)),(1,1,.ls 0 l.length),(2,0,.pv (iV 0)),(2,1,.pv (.slice none 0 0)),(5,0,.ls 4 n),(0,0,qab l),(3,0,.row 3 1 n (ziV g)),(4,0,.row 3 1 n (ziV c1))]
abbrev qsy (k:Nat) (n:Nat):TmL:=[(1,.pp 1 0),(2,.pp 2 0),(3,.ls 3 n),(5,.pp 5 0),(21,.ls 3 n),(22,.pv (iV (n:Int))),(23,.pv (iV (k:Int)))]
theorem qlO {rt z:Int} {l:List Pt} {g c1:List Int} {k n:Nat} (hlt:decide ((k:Int)<(n:Int))=true) (hin:0≤(k:Int)∧(k:Int)<(n:Int)) (hg:g[k]?=some z) (hzi:0≤z∧z<(n:Int)) (hl:z.toNat<c1.length) (hs:iV (IntKind.i64.wrap ((k:Int)+1))=iV (((k+1:Nat):Int))) {e:Exit} {tm2:TmL} {hp2:HpL}
 (r:Rl 1 1 50 0 68 6 ([(1,.pp 1 0),(2,.pp 2 0),(3,.ls 3 n),(5,.pp 5 0),(21,.ls 3 n),(22,.pv (iV (n:Int))),(23,.pv (iV ((k+1:Nat):Int)))]) ([(1,0,.pv (iV rt)),(1,1,.ls 0 l.length),(2,0,.pv (iV 0)),(2,1,.pv (.slice none 0 0)),(5,0,.ls 4 n),(0,0,qab l),(3,0,.row 3 1 n (ziV g)),(4,0,.row 3 1 n (ziV (c1.set z.toNat (k:Int))))]) e tm2 hp2):Rl 1 1 50 0 68 6 (qsy k n) (qsT c1 g l n rt) e tm2 hp2:=
 RunsL.next [] 300 [.t true,.r (iV z),.w (ziV (c1.set z.toNat (k:Int))),Re hs]
  (Ro (Ai hlt (Ai hin (Ai (qe7 hg) (Ai hzi (Ai (qr9 c1 z.toNat (k:Int) hl) (Ai (qfE c1 z.toNat hl) (Ai hs tI)))))))) r
theorem qo9 {rt:Int} {l:List Pt} {g c1:List Int} {k n:Nat} (hlt:decide ((k:Int)<(n:Int))=false):Rl 1 1 50 0 68 6 (qsy k n) (qsT c1 g l n rt) (.exit 0) ([(1,.pp 1 0),(2,.pp 2 0),(3,.ls 3 n),(5,.pp 5 0)]) (qsT c1 g l n rt):=
 RunsL.stop [] 300 [.t false] (fun h=>by cases h)
  (Ro (Ai hlt tI))
abbrev quv (N:Nat) (c1:List Int) (g:List Int) (l:List Pt) (n:Nat) (rt:Int) (vs:List Value) (x:Int):HpL:=[(1,0,.pv (iV rt)),(1,1,.ls 0 l.length),(2,0,.pv (iV 0)),(2,1,.pv (.slice none 0 0)),(5,0,.ls 4 n),(0,0,qab l),(3,0,.row 3 1 n (ziV g)),(4,0,.row 3 1 n (ziV c1)),(6,0,.pv (iV x)),(6,1,.ls 7 N),(7,0,.row 26 3 N (vs))]
abbrev qrY (k:Nat) (n:Nat):TmL:=[(1,.pp 1 0),(2,.pp 2 0),(8,.pc 88 [.pp 5 0]),(9,.pp 6 0),(39,.ls 3 n),(40,.pv (iV (n:Int))),(41,.pv (iV (k:Int)))]
theorem qjk {rt x z:Int} {l:List Pt} {p:Pt} {g c1:List Int} {k n:Nat} {vs:List Value} {a2 b2:Int} {N:Nat} (hlt:decide ((k:Int)<(n:Int))=true) (hin:0≤(k:Int)∧(k:Int)<(n:Int)) (hg:g[k]?=some z) (hzi:0≤z∧z<(l.length:Int)) (hp:l[z.toNat]?=some p) (hn:N+1≤1000000) (ha:Fn 88 2 [.pv (iV (p.a)),.pp 0 0] [(0,0,.ls 1 n),(1,0,.row 3 1 n (ziV c1))] (.pv (iV (a2))) 0 []) (hb:Fn 88 2 [.pv (iV (p.b)),.pp 0 0] [(0,0,.ls 1 n),(1,0,.row 3 1 n (ziV c1))] (.pv (iV (b2))) 0 []) (hs:iV (IntKind.i64.wrap ((k:Int)+1))=iV (((k+1:Nat):Int))) {e:Exit} {tm2:TmL} {hp2:HpL}
 (r:Rl 1 1 50 1 68 8 ([(1,.pp 1 0),(2,.pp 2 0),(8,.pc 88 [.pp 5 0]),(9,.pp 6 0),(39,.ls 3 n),(40,.pv (iV (n:Int))),(41,.pv (iV ((k+1:Nat):Int)))]) ([(1,0,.pv (iV rt)),(1,1,.ls 0 l.length),(2,0,.pv (iV 0)),(2,1,.pv (.slice none 0 0)),(5,0,.ls 4 n),(0,0,qab l),(3,0,.row 3 1 n (ziV g)),(4,0,.row 3 1 n (ziV c1)),(6,0,.pv (iV x)),(6,1,.ls 7 (N+1)),(7,0,.row 26 3 (N+1) (vs++[iV p.id,iV a2,iV b2]))]) e tm2 hp2):Rl 1 1 50 1 68 8 (qrY k n) (quv N c1 g l n rt vs x) e tm2 hp2:=
 RunsL.next [(7,10)] 300 [.t true,.r (iV z),.r (ptV p),.md,Cf ha [5,4],Cf hb [5,4],Re hs]
  (Ro (Ai hlt (Ai hin (Ai (qe7 hg) (Ai hzi (Ai (qaZ hp) (Co ha [5,4] 9 (Co hb [5,4] 9 (Ai hn (Ai hs tI)))))))))) r
theorem qm3 {rt x:Int} {l:List Pt} {g c1:List Int} {k n:Nat} {vs:List Value} {N:Nat} (hlt:decide ((k:Int)<(n:Int))=false):Rl 1 1 50 1 68 8 (qrY k n) (quv N c1 g l n rt vs x) (.exit 2) ([(2,.pp 2 0),(9,.pp 6 0)]) ([(2,0,.pv (iV 0)),(2,1,.pv (.slice none 0 0)),(6,0,.pv (iV x)),(6,1,.ls 7 N),(7,0,.row 26 3 N (vs))]):=
 RunsL.stop [] 300 [.t false] (fun h=>by cases h)
  (Ro (Ai hlt tI))
theorem qqO {rt x:Int} {l:List Pt} {g c1:List Int} {n:Nat} {w:Bool} {vs:List Value} {N:Nat} (hw:Fn 45 1 [trS 0 rt l] [(0,0,qab l)] (.tu [.one (.ls 1 n),.one (.pv (.bool w))]) 1 [(1,0,.row 3 1 n (ziV g))]) (m0:0≤(n:Int)) (m1:(n:Int)≤1000000) (r0:Rl 1 1 50 0 68 6 ([(1,.pp 1 0),(2,.pp 2 0),(3,.ls 3 n),(5,.pp 5 0),(21,.ls 3 n),(22,.pv (iV (n:Int))),(23,.pv (iV ((0:Nat):Int)))]) ([(1,0,.pv (iV rt)),(1,1,.ls 0 l.length),(2,0,.pv (iV 0)),(2,1,.pv (.slice none 0 0)),(5,0,.ls 4 n),(0,0,qab l),(3,0,.row 3 1 n (ziV g)),(4,0,.row 3 1 n (ziV (List.replicate n 0)))]) (.exit 0) ([(1,.pp 1 0),(2,.pp 2 0),(3,.ls 3 n),(5,.pp 5 0)]) (qsT c1 g l n rt)) (hr:Fn 88 2 [.pv (iV (rt)),.pp 0 0] [(0,0,.ls 1 n),(1,0,.row 3 1 n (ziV c1))] (.pv (iV (x))) 0 []) (rr1:Rl 1 1 50 1 68 8 ([(1,.pp 1 0),(2,.pp 2 0),(8,.pc 88 [.pp 5 0]),(9,.pp 6 0),(39,.ls 3 n),(40,.pv (iV (n:Int))),(41,.pv (iV ((0:Nat):Int)))]) ([(1,0,.pv (iV rt)),(1,1,.ls 0 l.length),(2,0,.pv (iV 0)),(2,1,.pv (.slice none 0 0)),(5,0,.ls 4 n),(0,0,qab l),(3,0,.row 3 1 n (ziV g)),(4,0,.row 3 1 n (ziV c1)),(6,0,.pv (iV x)),(6,1,.ls 7 0),(7,0,.row 26 3 0 ([]))]) (.exit 2) ([(2,.pp 2 0),(9,.pp 6 0)]) ([(2,0,.pv (iV 0)),(2,1,.pv (.slice none 0 0)),(6,0,.pv (iV x)),(6,1,.ls 7 N),(7,0,.row 26 3 N (vs))])) :
 Fn 50 1 [trS 0 rt l] [(0,0,qab l)] (.ag [.pv (iV x),.ls 1 N]) 1 [(1,0,.row 26 3 N (vs))]:=
 Fz [(1,7)] [Cf hw [0],Lf r0,Cf hr [5,4],.ln false 6 1 26 3,Lf rr1]
  (qan (qaC [(1,7)]) [(1,0,.row 26 3 N (vs))]) (Co hw [0] 3 (Ai m0 (Ai (Eq.refl (n:Int)) (Ai m1 (Ai (Lt r0 []) (Ai (Ai (Er (SV.pv (iV rt))) (Ai (Er (SV.ls 0 l.length)) (Ai (Er (SV.pv (iV 0))) (Ai (Er (SV.pv (.slice none 0 0))) (Ai (Er (SV.ls 4 n)) (Ai (Er (qab l)) (Ai (Er (SV.row 3 1 n (ziV g))) (Ai (qge n) tI)))))))) (Ai r0 (Co hr [5,4] 6 (Lo rr1 [] tI)))))))))
abbrev qtV (n:Nat) (s:List Pt) (td:Int) (tn:Int) (vs:List Value):HpL:=[(1,0,.ls 0 s.length),(2,0,.pv (iV tn)),(2,1,.pv (iV td)),(3,0,.pv (iV 0)),(3,1,.pv (.slice none 0 0)),(4,0,.pv (iV (-1))),(4,1,.ls 5 n),(0,0,qag s),(5,0,.row 26 3 n (vs))]
abbrev qrf (k:Nat) (s:List Pt):TmL:=[(2,.pp 1 0),(3,.pp 2 0),(4,.pp 3 0),(5,.pp 4 0),(12,.ls 0 s.length),(13,.pv (iV (s.length:Int))),(14,.pv (iV (k:Int)))]
theorem qm2 {tn td:Int} {s:List Pt} {p:Pt} {k n:Nat} {vs:List Value} (hlt:decide ((k:Int)<(s.length:Int))=true) (hin:0≤(k:Int)∧(k:Int)<(s.length:Int)) (hk:s[k]?=some p) (hn:n+1≤1000000) (hs:iV (IntKind.i64.wrap ((k:Int)+1))=iV (((k+1:Nat):Int))) {e:Exit} {tm2:TmL} {hp2:HpL}
 (r:Rl 1 1 51 0 47 6 ([(2,.pp 1 0),(3,.pp 2 0),(4,.pp 3 0),(5,.pp 4 0),(12,.ls 0 s.length),(13,.pv (iV (s.length:Int))),(14,.pv (iV ((k+1:Nat):Int)))]) ([(1,0,.ls 0 s.length),(2,0,.pv (iV tn)),(2,1,.pv (iV td)),(3,0,.pv (iV 0)),(3,1,.pv (.slice none 0 0)),(4,0,.pv (iV (-1))),(4,1,.ls 5 (n+1)),(0,0,qag s),(5,0,.row 26 3 (n+1) (vs++[iV p.id,iV (-1),iV (-1)]))]) e tm2 hp2):Rl 1 1 51 0 47 6 (qrf k s) (qtV n s td tn vs) e tm2 hp2:=
 RunsL.next [(5,8)] 300 [.t true,.r (ptV p),Re hs]
  (Ro (Ai hlt (Ai hin (Ai (qbc hk) (Ai hn (Ai hs tI)))))) r
theorem qpa {tn td:Int} {s:List Pt} {k n:Nat} {vs:List Value} (hlt:decide ((k:Int)<(s.length:Int))=false):Rl 1 1 51 0 47 6 (qrf k s) (qtV n s td tn vs) (.exit 0) ([(2,.pp 1 0),(3,.pp 2 0),(4,.pp 3 0),(5,.pp 4 0)]) (qtV n s td tn vs):=
 RunsL.stop [] 300 [.t false] (fun h=>by cases h)
  (Ro (Ai hlt tI))
abbrev quG (n:Nat) (s:List Pt) (td:Int) (tn:Int) (vs:List Value) (z:Int):HpL:=[(3,0,.pv (iV 0)),(3,1,.pv (.slice none 0 0)),(4,0,.pv (iV (z))),(4,1,.ls 5 n),(6,0,.ls 5 n),(6,1,.ls 0 s.length),(6,2,.pv (iV tn)),(6,3,.pv (iV td)),(0,0,qag s),(5,0,.row 26 3 n (vs))]
theorem qiS {y z tn td:Int} {s:List Pt} {k n:Nat} {vs:List Value} {vs2:List Value} (hlt:decide ((k:Int)<(n:Int))=true) (hj:FnO Try.prog 62 1 2 [.ag [.ls 1 n,.ls 0 s.length,.pv (iV tn),.pv (iV td)],.pv (iV (z)),.pv (iV (k:Int))] [(0,0,qag s),(1,0,.row 26 3 n (vs))] (.pv (iV (y))) 0 [(1,0,.row 26 3 n (vs2))]) (hs:iV (IntKind.i64.wrap ((k:Int)+1))=iV (((k+1:Nat):Int))) {e:Exit} {tm2:TmL} {hp2:HpL}
 (r:Rl 1 1 51 1 47 7 ([(4,.pp 3 0),(5,.pp 4 0),(8,.pp 6 0),(35,.pv (iV (n:Int))),(36,.pv (iV ((k+1:Nat):Int)))]) ([(3,0,.pv (iV 0)),(3,1,.pv (.slice none 0 0)),(4,0,.pv (iV (y))),(4,1,.ls 5 n),(6,0,.ls 5 n),(6,1,.ls 0 s.length),(6,2,.pv (iV tn)),(6,3,.pv (iV td)),(0,0,qag s),(5,0,.row 26 3 n (vs2))]) e tm2 hp2):Rl 1 1 51 1 47 7 ([(4,.pp 3 0),(5,.pp 4 0),(8,.pp 6 0),(35,.pv (iV (n:Int))),(36,.pv (iV (k:Int)))]) (quG n s td tn vs z) e tm2 hp2:=
 RunsL.next [] 300 [.t true,.fo 1 [0,5] [.ag [.ls 1 n,.ls 0 s.length,.pv (iV tn),.pv (iV td)],.pv (iV (z)),.pv (iV (k:Int))] [(0,0,qag s),(1,0,.row 26 3 n (vs))] (.pv (iV (y))) 0 [(1,0,.row 26 3 n (vs2))],Re hs]
  (Ro (Ai hlt (Ai hj (Ai (Eq.refl (List.map (SV.ren (qar [0,5] 7)) [.ag [.ls 1 n,.ls 0 s.length,.pv (iV tn),.pv (iV td)],.pv (iV (z)),.pv (iV (k:Int))])) (Ai (qan (qar [0,5] 7) [(0,0,qag s),(1,0,.row 26 3 n (vs))]) (Ai hs tI)))))) r
theorem qlK {z tn td:Int} {s:List Pt} {k n:Nat} {vs:List Value} (hlt:decide ((k:Int)<(n:Int))=false):Rl 1 1 51 1 47 7 ([(4,.pp 3 0),(5,.pp 4 0),(8,.pp 6 0),(35,.pv (iV (n:Int))),(36,.pv (iV (k:Int)))]) (quG n s td tn vs z) (.exit 2) ([(4,.pp 3 0),(5,.pp 4 0)]) ([(3,0,.pv (iV 0)),(3,1,.pv (.slice none 0 0)),(4,0,.pv (iV (z))),(4,1,.ls 5 n),(5,0,.row 26 3 n (vs))]):=
 RunsL.stop [] 300 [.t false] (fun h=>by cases h)
  (Ro (Ai hlt tI))
theorem qsB {z tn td:Int} {s:List Pt} {n:Nat} {vs:List Value} {vs2:List Value} (r0:Rl 1 1 51 0 47 6 ([(2,.pp 1 0),(3,.pp 2 0),(4,.pp 3 0),(5,.pp 4 0),(12,.ls 0 s.length),(13,.pv (iV (s.length:Int))),(14,.pv (iV ((0:Nat):Int)))]) ([(1,0,.ls 0 s.length),(2,0,.pv (iV tn)),(2,1,.pv (iV td)),(3,0,.pv (iV 0)),(3,1,.pv (.slice none 0 0)),(4,0,.pv (iV (-1))),(4,1,.ls 5 0),(0,0,qag s),(5,0,.row 26 3 0 ([]))]) (.exit 0) ([(2,.pp 1 0),(3,.pp 2 0),(4,.pp 3 0),(5,.pp 4 0)]) ([(1,0,.ls 0 s.length),(2,0,.pv (iV tn)),(2,1,.pv (iV td)),(3,0,.pv (iV 0)),(3,1,.pv (.slice none 0 0)),(4,0,.pv (iV (-1))),(4,1,.ls 5 n),(0,0,qag s),(5,0,.row 26 3 n (vs2))])) (rr1:Rl 1 1 51 1 47 7 ([(4,.pp 3 0),(5,.pp 4 0),(8,.pp 6 0),(35,.pv (iV (n:Int))),(36,.pv (iV ((0:Nat):Int)))]) ([(3,0,.pv (iV 0)),(3,1,.pv (.slice none 0 0)),(4,0,.pv (iV (-1))),(4,1,.ls 5 n),(6,0,.ls 5 n),(6,1,.ls 0 s.length),(6,2,.pv (iV tn)),(6,3,.pv (iV td)),(0,0,qag s),(5,0,.row 26 3 n (vs2))]) (.exit 2) ([(4,.pp 3 0),(5,.pp 4 0)]) ([(3,0,.pv (iV 0)),(3,1,.pv (.slice none 0 0)),(4,0,.pv (iV (z))),(4,1,.ls 5 n),(5,0,.row 26 3 n (vs))])) :
 Fn 51 1 [qax 0 s,.pv (qaa tn td)] [(0,0,qag s)] (.ag [.pv (iV z),.ls 1 n]) 1 [(1,0,.row 26 3 n (vs))]:=
 Fz [(1,5)] [.ln false 4 1 26 3,Lf r0,Lf rr1]
  (qan (qaC [(1,5)]) [(1,0,.row 26 3 n (vs))]) (Lo r0 [] (Lo rr1 [] tI))
theorem qrV {tn td e1:Int} {s:List Pt} {e2:Int} (h1:Fn 47 1 [qax 0 s] [(0,0,qag s)] (.pv (iV (e1))) 0 []) (h2:Pure Try.prog 48 #[qaa tn td] (iV (e2))) (he:(e1 !=0)=true) :
 Fn 18 1 [qax 0 s,.pv (qaa tn td)] [(0,0,qag s)] (.pv (.tuple #[.agg #[iV 0,.slice none 0 0],iV (e1)])) 0 []:=
 Fz [] [.md,Cf h1 [0],Rf h2,.k,.k,.t true,.t true]
  tI (Co h1 [0] 4 (Ai h2 (Ai he (Ai he tI))))
abbrev qsY (s:List Pt):Prop:=Fn 47 1 [qax 0 s] [(0,0,qag s)] (.pv (iV (0))) 0 []
theorem qtp {tn td:Int} {s:List Pt} {e2:Int} (h1:qsY s) (h2:Pure Try.prog 48 #[qaa tn td] (iV (e2))) (he:(e2 !=0)=true) :
 Fn 18 1 [qax 0 s,.pv (qaa tn td)] [(0,0,qag s)] (.pv (.tuple #[.agg #[iV 0,.slice none 0 0],iV (e2)])) 0 []:=
 Fz [] [.md,Cf h1 [0],Rf h2,.k,.k,.k,.k,.k,.t true,.t true]
  tI (Co h1 [0] 4 (Ai h2 (Ai he (Ai he tI))))
theorem qq1 {tn td:Int} {s n1:List Pt} {r1:Int} (h1:qsY s) (h2:Pure Try.prog 48 #[qaa tn td] (iV (0))) (hg:Fn 51 1 [qax 0 s,.pv (qaa tn td)] [(0,0,qag s)] (.ag [.pv (iV r1),.ls 1 n1.length]) 1 [(1,0,qab n1)]) :
 Fn 18 1 [qax 0 s,.pv (qaa tn td)] [(0,0,qag s)] (.tu [.ag [.pv (iV r1),.ls 1 n1.length],.one (.pv (iV 0))]) 1 [(1,0,qab n1)]:=
 Fz [(1,5)] [.md,Cf h1 [0],Rf h2,.k,.k,.k,.k,.k,.k,.k,.k,.k,Cf hg [0]]
  (qan (qaC [(1,5)]) [(1,0,qab n1)]) (Co h1 [0] 4 (Ai h2 (Co hg [0] 5 tI)))
abbrev qsw (e1:Int) (l:List Pt) (rt:Int):Prop:=Fn 17 1 [trS 0 rt l] [(0,0,qab l)] (.pv (iV (e1))) 0 []
theorem qt8 {rt tn td e1:Int} {s l:List Pt} {e2 e3:Int} (h1:qsw e1 l rt) (h2:Fn 47 1 [qax 0 s] [(0,0,qag s)] (.pv (iV (e2))) 0 []) (h3:Pure Try.prog 48 #[qaa tn td] (iV (e3))) (he:(e1 !=0)=true) :
 Fn 11 2 [trS 0 rt l,qax 1 s,.pv (qaa tn td)] [(0,0,qab l),(1,0,qag s)] (.pv (.tuple #[.bool false,iV (e1)])) 0 []:=
 Fz [] [.md,Cf h1 [0],Cf h2 [1],Rf h3,.k,.k,.t true,.t true]
  tI (Co h1 [0] 5 (Co h2 [1] 5 (Ai h3 (Ai he (Ai he tI)))))
abbrev qp5 (l:List Pt) (rt:Int):Prop:=Fn 17 1 [trS 0 rt l] [(0,0,qab l)] (.pv (iV (0))) 0 []
theorem qtD {rt tn td:Int} {s l:List Pt} {e2 e3:Int} (h1:qp5 l rt) (h2:Fn 47 1 [qax 0 s] [(0,0,qag s)] (.pv (iV (e2))) 0 []) (h3:Pure Try.prog 48 #[qaa tn td] (iV (e3))) (he:(e2 !=0)=true) :
 Fn 11 2 [trS 0 rt l,qax 1 s,.pv (qaa tn td)] [(0,0,qab l),(1,0,qag s)] (.pv (.tuple #[.bool false,iV (e2)])) 0 []:=
 Fz [] [.md,Cf h1 [0],Cf h2 [1],Rf h3,.k,.k,.k,.k,.k,.t true,.t true]
  tI (Co h1 [0] 5 (Co h2 [1] 5 (Ai h3 (Ai he (Ai he tI)))))
theorem qtc {rt tn td:Int} {s l:List Pt} {e3:Int} (h1:qp5 l rt) (h2:qsY s) (h3:Pure Try.prog 48 #[qaa tn td] (iV (e3))) (he:(e3 !=0)=true) :
 Fn 11 2 [trS 0 rt l,qax 1 s,.pv (qaa tn td)] [(0,0,qab l),(1,0,qag s)] (.pv (.tuple #[.bool false,iV (e3)])) 0 []:=
 Fz [] [.md,Cf h1 [0],Cf h2 [1],Rf h3,.k,.k,.k,.k,.k,.k,.k,.k,.t true,.t true]
  tI (Co h1 [0] 5 (Co h2 [1] 5 (Ai h3 (Ai he (Ai he tI)))))
theorem qqn {rt tn td:Int} {s l n1 n2:List Pt} {w:Bool} {r1 r2:Int} (h1:qp5 l rt) (h2:qsY s) (h3:Pure Try.prog 48 #[qaa tn td] (iV (0))) (ho:Fn 50 1 [trS 0 rt l] [(0,0,qab l)] (.ag [.pv (iV r1),.ls 1 n1.length]) 1 [(1,0,qab n1)]) (hg:Fn 51 1 [qax 0 s,.pv (qaa tn td)] [(0,0,qag s)] (.ag [.pv (iV r2),.ls 1 n2.length]) 1 [(1,0,qab n2)]) (hq:Fn 49 2 [trS 0 r1 n1,trS 1 r2 n2] [(0,0,qab n1),(1,0,qab n2)] (.pv (.bool w)) 0 []) :
 Fn 11 2 [trS 0 rt l,qax 1 s,.pv (qaa tn td)] [(0,0,qab l),(1,0,qag s)] (.pv (.tuple #[.bool w,iV (0)])) 0 []:=
 Fz [] [.md,Cf h1 [0],Cf h2 [1],Rf h3,.k,.k,.k,.k,.k,.k,.k,.k,.k,.k,.k,.k,.md,Cf ho [0],Cf hg [1],Cf hq [6,7]]
  tI (Co h1 [0] 5 (Co h2 [1] 5 (Ai h3 (Co ho [0] 6 (Co hg [1] 7 (Co hq [6,7] 8 tI))))))
theorem qt3 {rt x e1:Int} {l m:List Pt} {e2:Int} (h1:qsw e1 l rt) (h2:Fn 17 1 [trS 0 x m] [(0,0,qab m)] (.pv (iV (e2))) 0 []) (he:(e1 !=0)=true) :
 Fn 16 2 [trS 0 rt l,trS 1 x m] [(0,0,qab l),(1,0,qab m)] (.pv (.tuple #[.bool false,iV (e1)])) 0 []:=
 Fz [] [.md,Cf h1 [0],Cf h2 [1],.k,.k,.t true,.t true]
  tI (Co h1 [0] 4 (Co h2 [1] 4 (Ai he (Ai he tI))))
theorem qud {rt x:Int} {l m:List Pt} {e2:Int} (h1:qp5 l rt) (h2:Fn 17 1 [trS 0 x m] [(0,0,qab m)] (.pv (iV (e2))) 0 []) (he:(e2 !=0)=true) :
 Fn 16 2 [trS 0 rt l,trS 1 x m] [(0,0,qab l),(1,0,qab m)] (.pv (.tuple #[.bool false,iV (e2)])) 0 []:=
 Fz [] [.md,Cf h1 [0],Cf h2 [1],.k,.k,.k,.k,.k,.t true,.t true]
  tI (Co h1 [0] 4 (Co h2 [1] 4 (Ai he (Ai he tI))))
theorem qrl {rt x:Int} {l m n1 n2:List Pt} {w:Bool} {r1 r2:Int} (h1:qp5 l rt) (h2:Fn 17 1 [trS 0 x m] [(0,0,qab m)] (.pv (iV (0))) 0 []) (ho:Fn 50 1 [trS 0 rt l] [(0,0,qab l)] (.ag [.pv (iV r1),.ls 1 n1.length]) 1 [(1,0,qab n1)]) (ho2:Fn 50 1 [trS 0 x m] [(0,0,qab m)] (.ag [.pv (iV r2),.ls 1 n2.length]) 1 [(1,0,qab n2)]) (hq:Fn 49 2 [trS 0 r1 n1,trS 1 r2 n2] [(0,0,qab n1),(1,0,qab n2)] (.pv (.bool w)) 0 []) :
 Fn 16 2 [trS 0 rt l,trS 1 x m] [(0,0,qab l),(1,0,qab m)] (.pv (.tuple #[.bool w,iV (0)])) 0 []:=
 Fz [] [.md,Cf h1 [0],Cf h2 [1],.k,.k,.k,.k,.k,.k,.k,.k,.k,.md,Cf ho [0],Cf ho2 [1],Cf hq [5,6]]
  tI (Co h1 [0] 4 (Co h2 [1] 4 (Co ho [0] 5 (Co ho2 [1] 6 (Co hq [5,6] 7 tI)))))
theorem qtC {rt z e1:Int} {l:List Pt} (hc:qsw e1 l rt) (hce:(e1 !=0)=true) :
 Fn 12 1 [trS 0 rt l,.pv (iV (z))] [(0,0,qab l)] (.pv (.tuple #[iV (0),iV (e1)])) 0 []:=
 Fz [] [Cf hc [0],.t true]
  tI (Co hc [0] 2 (Ai hce tI))
abbrev qnw (l:List Pt) (rt:Int):HpL:=[(1,0,.pv (iV rt)),(1,1,.ls 0 l.length),(0,0,qab l)]
abbrev qs4 (k:Nat) (y:Int) (z:Int):TmL:=[(1,.pv (iV z)),(2,.pp 1 0),(7,.pv (iV (y))),(8,.pv (iV (k:Int)))]
theorem qrz {rt y z:Int} {l:List Pt} {p:Pt} {k:Nat} (hne:(y !=(-1))=true) (hin:0≤y∧y<(l.length:Int)) (hk:l[y.toNat]?=some p) (h1:decide (z<p.id)=true) (hs:iV (IntKind.i64.wrap ((k:Int)+1))=iV (((k+1:Nat):Int))) {e:Exit} {tm2:TmL} {hp2:HpL}
 (r:Rl 1 1 12 0 41 2 ([(1,.pv (iV z)),(2,.pp 1 0),(7,.pv (iV (p.a))),(8,.pv (iV ((k+1:Nat):Int)))]) (qnw l rt) e tm2 hp2):Rl 1 1 12 0 41 2 (qs4 k y z) (qnw l rt) e tm2 hp2:=
 RunsL.next [] 300 [.t true,.r (ptV p),.t true,Re hs]
  (Ro (Ai hne (Ai hin (Ai (qaZ hk) (Ai h1 (Ai hs tI)))))) r
theorem qqD {rt y z:Int} {l:List Pt} {p:Pt} {k:Nat} (hne:(y !=(-1))=true) (hin:0≤y∧y<(l.length:Int)) (hk:l[y.toNat]?=some p) (h1:decide (z<p.id)=false) (h2:decide (z>p.id)=true) (hs:iV (IntKind.i64.wrap ((k:Int)+1))=iV (((k+1:Nat):Int))) {e:Exit} {tm2:TmL} {hp2:HpL}
 (r:Rl 1 1 12 0 41 2 ([(1,.pv (iV z)),(2,.pp 1 0),(7,.pv (iV (p.b))),(8,.pv (iV ((k+1:Nat):Int)))]) (qnw l rt) e tm2 hp2):Rl 1 1 12 0 41 2 (qs4 k y z) (qnw l rt) e tm2 hp2:=
 RunsL.next [] 300 [.t true,.r (ptV p),.t false,.t true,Re hs]
  (Ro (Ai hne (Ai hin (Ai (qaZ hk) (Ai h1 (Ai h2 (Ai hs tI))))))) r
theorem qpe {rt y z:Int} {l:List Pt} {p:Pt} {k:Nat} (hne:(y !=(-1))=true) (hin:0≤y∧y<(l.length:Int)) (hk:l[y.toNat]?=some p) (h1:decide (z<p.id)=false) (h2:decide (z>p.id)=false):Rl 1 1 12 0 41 2 (qs4 k y z) (qnw l rt) (.ret) ([(4,.pv (iV (k:Int))),(5,.pv (iV 0))]) ([]):=
 RunsL.stop [] 300 [.t true,.r (ptV p),.t false,.t false] (fun h=>by cases h)
  (Ro (Ai hne (Ai hin (Ai (qaZ hk) (Ai h1 (Ai h2 tI))))))
theorem qp1 {rt y z:Int} {l:List Pt} {k:Nat} (hne:(y !=(-1))=false):Rl 1 1 12 0 41 2 (qs4 k y z) (qnw l rt) (.exit 0) ([]) ([]):=
 RunsL.stop [] 300 [.t false] (fun h=>by cases h)
  (Ro (Ai hne tI))
theorem qqu {rt z e1:Int} {l:List Pt} (hc:qsw e1 l rt) (hce:(e1 !=0)=false) (r0:Rl 1 1 12 0 41 2 ([(1,.pv (iV z)),(2,.pp 1 0),(7,.pv (iV (rt))),(8,.pv (iV ((0:Nat):Int)))]) (qnw l rt) (.exit 0) ([]) ([])) :
 Fn 12 1 [trS 0 rt l,.pv (iV (z))] [(0,0,qab l)] (.pv (.tuple #[iV (0),iV (6)])) 0 []:=
 Fz [] [Cf hc [0],.t false,Lf r0]
  tI (Co hc [0] 2 (Ai hce (Lo r0 [] tI)))
theorem qrD {rt z e1:Int} {l:List Pt} {k:Nat} (hc:qsw e1 l rt) (hce:(e1 !=0)=false) (r0:Rl 1 1 12 0 41 2 ([(1,.pv (iV z)),(2,.pp 1 0),(7,.pv (iV (rt))),(8,.pv (iV ((0:Nat):Int)))]) (qnw l rt) (.ret) ([(4,.pv (iV (k:Int))),(5,.pv (iV 0))]) ([])) :
 Fn 12 1 [trS 0 rt l,.pv (iV (z))] [(0,0,qab l)] (.pv (.tuple #[iV (k:Int),iV (0)])) 0 []:=
 Fz [] [Cf hc [0],.t false,Lf r0]
  tI (Co hc [0] 2 (Ai hce (Lo r0 [] tI)))
theorem qqz {rt y z v:Int} {l n1 n2:List Pt} {n:Nat} {p1 p2:Pt} {x1 y1:Int} (h1:qp5 l rt) (h2:Fn 52 1 [.ls 0 l.length] [(0,0,qab l)] (.pv (iV (0))) 0 []) (hcl:Fn 53 1 [.ls 0 l.length] [(0,0,qab l)] (.ls 1 l.length) 1 [(1,0,qab l)]) (hp:FnO Try.prog 54 0 1 [.ls 0 l.length,.pv (iV (rt)),.pv (iV (z))] [(0,0,.row 26 3 l.length (qao l))] (.pv (.tuple #[iV (x1),iV (y1)])) 0 [(0,0,.row 26 3 l.length (qao n1))]) (hle:Fn 55 1 [.ls 0 l.length,.pv (iV (z))] [(0,0,.row 26 3 l.length (qao n1))] (.pv (iV (n:Int))) 0 []) (t1:True) (p0:0≤(n:Int)) (p1:0≤n) (p2:n≤l.length) (hn1:iV (IntKind.i64.wrap (0-(n:Int)))=iV (v)) (hfu:Pure Try.prog 57 #[iV (y1),iV (v)] (iV (y))) (hn2:iV (IntKind.i64.wrap (0-(n:Int)))=iV (v)) (hsh:Fn 58 1 [.lq 0 3 (0+n) (l.length-n),.pv (iV (v))] [(0,0,.row 26 3 l.length (qao n1))] (.ls 1 n2.length) 1 [(1,0,qab n2)]) :
 Fn 13 1 [trS 0 rt l,.pv (iV (z))] [(0,0,qab l)] (.tu [.ag [.pv (iV x1),.lq 1 3 0 n],.ag [.pv (iV y),.ls 2 n2.length],.one (.pv (iV 0))]) 2 [(1,0,.row 26 3 l.length (qao n1)),(2,0,qab n2)]:=
 Fz [(1,5),(2,6)] [.md,Cf h1 [0],Cf h2 [0],.k,.k,.k,.k,.k,.k,.k,.k,.k,Cf hcl [0],.fo 0 [5] [.ls 0 l.length,.pv (iV (rt)),.pv (iV (z))] [(0,0,.row 26 3 l.length (qao l))] (.pv (.tuple #[iV (x1),iV (y1)])) 0 [(0,0,.row 26 3 l.length (qao n1))],Cf hle [5],.k,.k,.md,Re hn1,Rf hfu,.k,Re hn1,Cf hsh [5]]
  (qan (qaC [(1,5),(2,6)]) [(1,0,.row 26 3 l.length (qao n1)),(2,0,qab n2)]) (Co h1 [0] 4 (Co h2 [0] 4 (Co hcl [0] 5 (Ai hp (Ai (Eq.refl (List.map (SV.ren (qar [5] 6)) [.ls 0 l.length,.pv (iV (rt)),.pv (iV (z))])) (Ai (qan (qar [5] 6) [(0,0,.row 26 3 l.length (qao l))]) (Co hle [5] 6 (Ai t1 (Ai p0 (Ai p1 (Ai p2 (Ai t1 (Ai p0 (Ai p0 (Ai p1 (Ai (Nat.le_refl n) (Ai (Nat.le_refl n) (Ai hn1 (Ai hfu (Ai p0 (Ai t1 (Ai p2 (Ai (Nat.le_refl l.length) (Ai hn2 (Co hsh [5] 6 tI)))))))))))))))))))))))))
end Go.Proofs.Ytalnjplghagbpaa

namespace Go.Proofs.Ytalnjplghagbpaa
set_option maxRecDepth 100000
open Go.RowKit
open Classical in
noncomputable def chE (x:Tr):Int:=if 64<x.n.length then 4 else if VT x then 0 else 8
theorem qey {x:Tr} (h:64<x.n.length):chE x=4:=by unfold chE;rw[if_pos h]
theorem qhk {x:Tr} (h:¬ 64<x.n.length) (k:¬ VT x):chE x=8:=by unfold chE;rw[if_neg h,if_neg k]
theorem qfF {x:Tr} (k:VT x):chE x=0:=by unfold chE;rw[if_neg (by have:=k.len;omega),if_pos k]
theorem qkf {x:Tr}:chE x=0↔VT x:=by
 refine⟨fun h=>?_,qfF⟩
 apply Classical.byContradiction
 intro k
 by_cases hm:64<x.n.length
 ·rw[qey hm] at h;cases h
 ·rw[qhk hm k] at h;cases h
theorem qgF {α:Type} {f:α→Int}:∀ {L:List α},(∀ j p q,L[j]?=some p→L[j+1]?=some q→f p<f q)→(L.map f).Pairwise (· < ·)
 | [],_=>.nil
 | [_],_=>by simp
 | a::b::r,h=>by
  have ih:=qgF (L:=b::r) fun j p q hp hq=>h (j+1) p q (by simpa using hp) (by simpa using hq)
  rw[List.map_cons,List.pairwise_cons]
  refine⟨fun y hy=>?_,ih⟩
  have hab:=h 0 a b rfl rfl
  rw[List.map_cons] at hy ih
  rcases List.mem_cons.1 hy with rfl | hy
  ·exact hab
  ·exact Int.lt_trans hab ((List.pairwise_cons.1 ih).1 y hy)
theorem qfU {α:Type} {f:α→Int} {L:List α} (h:(L.map f).Pairwise (· < ·)) {j:Nat} {p q:α} (hp:L[j]?=some p) (hq:L[j+1]?=some q):f p<f q:=by
 have h1:=qam hq
 have:=List.pairwise_iff_getElem.1 h j (j+1) (by rw[List.length_map];omega) (by rw[List.length_map];omega) (by omega)
 rw[List.getElem_map,List.getElem_map] at this
 rw[List.getElem?_eq_getElem (by omega)] at hp hq
 cases hp
 cases hq
 exact this
section
variable {rt:Int} {l:List Pt}
abbrev qsV (k:Nat):List (Nat×SV):=[(1,.pp 1 0),(3,.pv (iV (k:Int)))]
abbrev qsU (rt:Int) (l:List Pt):List (Nat×Nat×SV):=[(1,0,.pv (iV rt)),(1,1,.ls 0 l.length),(0,0,qab l)]
abbrev qsO (g:List Int) (k:Nat):List (Nat×SV):=[(1,.pp 1 0),(5,.ls 2 g.length),(6,.pv (iV (k:Int)))]
abbrev qsX (rt:Int) (l:List Pt) (g:List Int):List (Nat×Nat×SV):=[(1,0,.pv (iV rt)),(1,1,.ls 0 l.length),(0,0,qab l),(2,0,zrI g)]
def GdN (l:List Pt) (p:Pt):Prop:=(-1≤p.a∧p.a<(l.length:Int))∧(-1≤p.b∧p.b<(l.length:Int))∧0≤p.id∧p.id≤65535
theorem ckb {k:Nat} {p:Pt} (hp:l[k]?=some p) (hb:¬ GdN l p):Rl 1 1 34 0 96 2 (qsV k) (qsU rt l) .ret [(2,.pv (iV 8))] []:=by
 have hkl:=qam hp
 have ha:=qiQ (rt:=rt) (l:=l) p.a
 have hbl:=qiQ (rt:=rt) (l:=l) p.b
 by_cases c1 : -1≤p.a∧p.a<(l.length:Int)
 ·rw[qcH c1] at ha
  by_cases c2 : -1≤p.b∧p.b<(l.length:Int)
  ·rw[qcH c2] at hbl
   by_cases c3:0≤p.id
   ·have c4:65535<p.id:=by
     apply Classical.byContradiction
     intro h
     exact hb ⟨c1,c2,c3,by omega⟩
    exact qqN (hlt:=dt (by omega)) (hk:=hp) (hin:=⟨by omega,by omega⟩) (ha:=ha) (hb:=hbl) (h1:=df (by omega)) (h2:=dt (by omega))
   ·exact qrH (hlt:=dt (by omega)) (hk:=hp) (hin:=⟨by omega,by omega⟩) (ha:=ha) (hb:=hbl) (h1:=dt (by omega))
  ·rw[qco c2] at hbl
   exact qrj (hlt:=dt (by omega)) (hk:=hp) (hin:=⟨by omega,by omega⟩) (ha:=ha) (hb:=hbl)
 ·rw[qco c1] at ha
  exact qrP (hlt:=dt (by omega)) (hk:=hp) (hin:=⟨by omega,by omega⟩) (ha:=ha)
theorem cks (hl:l.length≤999999) {m:Nat} (hm:m≤l.length) (hg:∀ k,k<m→∀ p,l[k]?=some p→GdN l p) {e:Exit} {tm2:TmL} {hp2:HpL}
 (r:Rl 1 1 34 0 96 2 (qsV m) (qsU rt l) e tm2 hp2):Rl 1 1 34 0 96 2 (qsV 0) (qsU rt l) e tm2 hp2:=
 RunsL.roundsZ (fun k=>qsV k) (fun _=>qsU rt l) (N:=m) m 0 (Nat.zero_add _) (fun k _ hk r=>by
  obtain⟨p,hp⟩:=qaj (l:=l) (k:=k) (by omega)
  obtain⟨c1,c2,c3,c4⟩:=hg k hk p hp
  have ha:=qiQ (rt:=rt) (l:=l) p.a
  have hb:=qiQ (rt:=rt) (l:=l) p.b
  rw[qcH c1] at ha
  rw[qcH c2] at hb
  exact ql1 (hlt:=dt (by omega)) (hk:=hp) (hin:=⟨by omega,by omega⟩) (ha:=ha) (hb:=hb) (h1:=df (by omega)) (h2:=df (by omega)) (hs:=qah (by omega)) r) r
theorem qqi (hl:l.length≤999999):Fn 34 1 [trS 0 rt l] [(0,0,qab l)] (.pv (iV (chE ⟨rt,l⟩))) 0 []:=by
 by_cases hm:64<l.length
 ·rw[qey (x:=⟨rt,l⟩) hm];exact qlT (hm:=dt (by omega))
 have hm':decide ((l.length:Int)>64)=false:=df (by omega)
 have no:¬ VT ⟨rt,l⟩→chE ⟨rt,l⟩=8:=qhk hm
 have hL:=qiQ (rt:=rt) (l:=l) rt
 by_cases hr : -1≤rt∧rt<(l.length:Int)
 rotate_left
 ·rw[no fun ⟨_,_,T,hT⟩=>hr hT.root.1]
  rw[qco hr] at hL
  exact qlF (hm:=hm') (hl:=hL)
 rw[qcH hr] at hL
 by_cases hre:rt = -1↔l.length=0
 rotate_left
 ·rw[no fun ⟨_,_,T,hT⟩=>hre hT.root.2]
  by_cases h1:rt = -1
  ·exact qkl (hm:=hm') (hl:=hL) (hr:=beq_iff_eq.2 h1) (h0:=beq_eq_false_iff_ne.2 (by omega))
  ·exact qic (hm:=hm') (hl:=hL) (hr:=beq_eq_false_iff_ne.2 h1) (h0:=beq_iff_eq.2 (by omega))
 have he:(rt==(-1))=true∧((l.length:Int)==0)=true∨(rt==(-1))=false∧((l.length:Int)==0)=false:=by
  by_cases h1:rt = -1
  ·exact Or.inl ⟨beq_iff_eq.2 h1,beq_iff_eq.2 (by omega)⟩
  ·exact Or.inr ⟨beq_eq_false_iff_ne.2 h1,beq_eq_false_iff_ne.2 (by omega)⟩
 rcases qaL (fun k=>∀ p,l[k]?=some p→GdN l p) l.length with hg | ⟨k,hk,hb,hg⟩
 rotate_left
 ·simp only[Classical.not_forall] at hb
  obtain⟨p,hp,hb⟩:=hb
  rw[no fun ⟨_,hrng,T,hT⟩=>hb ⟨(hT.lnk p (List.mem_of_getElem? hp)).1,(hT.lnk p (List.mem_of_getElem? hp)).2,hrng p (List.mem_of_getElem? hp)⟩]
  have r:=cks (rt:=rt) hl (Nat.le_of_lt hk) hg (ckb hp hb)
  rcases he with ⟨e1,e2⟩ | ⟨e1,e2⟩
  ·exact qlJ (hm:=hm') (hl:=hL) (hr:=e1) (h0:=e2) (r0:=r)
  ·exact qmh (hm:=hm') (hl:=hL) (hr:=e1) (h0:=e2) (r0:=r)
 have hgd:∀ p∈l,GdN l p:=fun p hp=>by
  obtain⟨k,hk⟩:=List.getElem?_of_mem hp
  exact hg k (qam hk) p hk
 have hLn:Lnk ⟨rt,l⟩:=fun p hp=>⟨(hgd p hp).1,(hgd p hp).2.1⟩
 have r0:=cks (rt:=rt) hl (Nat.le_refl _) hg (qpj (rt:=rt) (l:=l) (k:=l.length) (hlt:=df (by omega)))
 have ho:=quq (rt:=rt) hLn (by omega)
 by_cases h1:One ⟨rt,l⟩
 rotate_left
 ·rw[no fun ⟨_,_,T,hT⟩=>h1 hT.one]
  rw[qco h1] at ho
  rcases he with ⟨e1,e2⟩ | ⟨e1,e2⟩
  ·exact qj7 (hm:=hm') (hl:=hL) (hr:=e1) (h0:=e2) (r0:=r0) (ho:=ho)
  ·exact qkk (hm:=hm') (hl:=hL) (hr:=e1) (h0:=e2) (r0:=r0) (ho:=ho)
 rw[qcH h1] at ho
 obtain⟨T,hT⟩:=One.tree h1 hLn hr
 have hT:Rep l rt T:=hT
 have hnd:T.list.Nodup:=Rep.nodup h1 hT
 have hTl:T.list.length≤l.length:=by
  have:=hnd.length_le_of_subset (l₂:=List.range l.length) fun v hv=>List.mem_range.2 (hT.lt v hv)
  rwa [List.length_range] at this
 have hre2:=qrF hl hT hTl
 by_cases hall:T.list.length=l.length
 rotate_left
 ·rw[no fun ⟨_,_,T',hT'⟩=>hall (by rw[hT.uniq hT'.rep];exact hT'.all)]
  rw[decide_eq_false hall] at hre2
  rcases he with ⟨e1,e2⟩ | ⟨e1,e2⟩
  ·exact qif (hm:=hm') (hl:=hL) (hr:=e1) (h0:=e2) (r0:=r0) (ho:=ho) (hrc:=hre2)
  ·exact qhH (hm:=hm') (hl:=hL) (hr:=e1) (h0:=e2) (r0:=r0) (ho:=ho) (hrc:=hre2)
 rw[decide_eq_true hall] at hre2
 have hw:=qnr hl hT hTl
 have hwl:=qcq T
 have at2:∀ j,j<T.list.length→∃ k p,T.list[j]?=some k∧l[k]?=some p∧k<l.length:=fun j hj=>by
  have hk:=List.getElem?_eq_getElem hj
  have hkl:=hT.lt _ (List.mem_of_getElem? hk)
  exact⟨_,_,hk,qal hkl,hkl⟩
 have step:∀ m,1≤m→m≤T.list.length→(∀ j,1≤j→j<m→∀ a b,T.list[j-1]?=some a→T.list[j]?=some b→idN l a<idN l b)→∀ {e:Exit} {tm2:TmL} {hp2:HpL},
  Rl 1 1 34 1 96 3 (qsO (wL T) m) (qsX rt l (wL T)) e tm2 hp2→Rl 1 1 34 1 96 3 (qsO (wL T) 1) (qsX rt l (wL T)) e tm2 hp2:=by
  intro m h1 hm2 hlt e tm2 hp2 r
  refine RunsL.roundsZ (fun k=>qsO (wL T) k) (fun _=>qsX rt l (wL T)) (N:=m) (m-1) 1 (by omega) (fun k k1 k2 r=>?_) r
  obtain⟨u,p,hu,hp,hul⟩:=at2 (k-1) (by omega)
  obtain⟨v,q,hv,hq,hvl⟩:=at2 k (by omega)
  have:=hlt k k1 k2 u v hu hv
  rw[qav hp,qav hq] at this
  exact qj4 (j:=k-1) (hlt:=dt (by omega)) (hs1:=by rw[qe5 (by omega) (by omega)];congr 1;omega) (hji:=⟨by omega,by omega⟩) (hgj:=qdV hu) (hyi:=⟨by omega,by omega⟩) (hp:=hp) (hki:=⟨by omega,by omega⟩) (hgk:=qdV hv) (hzi:=⟨by omega,by omega⟩) (hq:=hq) (hc:=df (by omega)) (hs:=qah (by omega)) r
 rcases qaL (fun k=>1≤k→∀ a b,T.list[k-1]?=some a→T.list[k]?=some b→idN l a<idN l b) T.list.length with h | ⟨k,hk,hb,hf⟩
 ·have hup:(T.list.map (idN l)).Pairwise (· < ·):=qgF fun j p q hp hq=>h (j+1) (qam hq) (by omega) p q hp hq
  rw[qfF (x:=⟨rt,l⟩) ⟨by show l.length≤64;omega,fun p hp=>(hgd p hp).2.2,T,hT,hall,hup⟩]
  have r1:Rl 1 1 34 1 96 3 (qsO (wL T) 1) (qsX rt l (wL T)) (.exit 2) [] []:=by
   rcases Nat.eq_zero_or_pos T.list.length with h0 | h0
   ·exact qgN (hlt:=df (by omega))
   ·exact step T.list.length h0 (Nat.le_refl _) (fun j j1 j2=>h j j2 j1) (qgN (hlt:=df (by omega)))
  rcases he with ⟨e1,e2⟩ | ⟨e1,e2⟩
  ·exact qoc (hm:=hm') (hl:=hL) (hr:=e1) (h0:=e2) (r0:=r0) (ho:=ho) (hrc:=hre2) (hw:=hw) (r1:=r1)
  ·exact qpS (hm:=hm') (hl:=hL) (hr:=e1) (h0:=e2) (r0:=r0) (ho:=ho) (hrc:=hre2) (hw:=hw) (r1:=r1)
 ·simp only[Classical.not_forall] at hb
  obtain⟨k1,a,b,ha,hb,hlt⟩:=hb
  rw[no fun ⟨_,_,T',hT'⟩=>hlt (by
   have e:=hT.uniq hT'.rep
   subst e
   exact qfU hT'.up ha (by rw[show k-1+1=k by omega];exact hb))]
  obtain⟨u,p,hu,hp,hul⟩:=at2 (k-1) (by omega)
  obtain⟨v,q,hv,hq,hvl⟩:=at2 k (by omega)
  rw[ha] at hu
  rw[hb] at hv
  cases hu
  cases hv
  rw[qav hp,qav hq] at hlt
  have r1:=step k k1 (by omega) (fun j j1 j2=>hf j j2 j1) (qmk (j:=k-1) (hlt:=dt (by omega)) (hs1:=by rw[qe5 (by omega) (by omega)];congr 1;omega) (hji:=⟨by omega,by omega⟩) (hgj:=qdV ha) (hyi:=⟨by omega,by omega⟩) (hp:=hp) (hki:=⟨by omega,by omega⟩) (hgk:=qdV hb) (hzi:=⟨by omega,by omega⟩) (hq:=hq) (hc:=dt (by omega)))
  rcases he with ⟨e1,e2⟩ | ⟨e1,e2⟩
  ·exact qmU (hm:=hm') (hl:=hL) (hr:=e1) (h0:=e2) (r0:=r0) (ho:=ho) (hrc:=hre2) (hw:=hw) (r1:=r1)
  ·exact qlV (hm:=hm') (hl:=hL) (hr:=e1) (h0:=e2) (r0:=r0) (ho:=ho) (hrc:=hre2) (hw:=hw) (r1:=r1)
end
end Go.Proofs.Ytalnjplghagbpaa
