/-
  Joined: Eb, Dd, De. Conditions: none.
-/
import Derived.Test.YtalnjplghagbpaaW30
import Derived.Test.YtalnjplghagbpaaW19
namespace Go.Proofs.Ytalnjplghagbpaa
set_option maxRecDepth 100000
open Go.RowKit
theorem qvC (n:Nat):SV.ls 2 (0+n)=(SV.ls 1 n).ren (qaA [(1,2)]):=by rw[Nat.zero_add];rfl
theorem qpf (e:TypeId) (es n:Nat) (xs:List Value):some (SV.row e es (0+n) ([]++xs))=some (SV.row e es n xs):=by rw[Nat.zero_add,List.nil_append]
theorem qsK {z v:Int} (h:(z==(-1))=true) :
 Pure Try.prog 57 #[iV (z),iV (v)] (iV (-1)):=
 qae (args:=[iV (z),iV (v)]) 300 [.t true]
  (Ai rfl (Ai h tI)) (by kernel_rfl)
theorem qqc {y z v:Int} (h:(z==(-1))=false) (hs:iV (IntKind.i64.wrap (z+v))=iV (y)) :
 Pure Try.prog 57 #[iV (z),iV (v)] (iV (y)):=
 qae (args:=[iV (z),iV (v)]) 300 [.t false,Re hs]
  (Ai rfl (Ai h (Ai hs tI))) (by kernel_rfl)
theorem qg1 {l:List Pt} (h:decide ((l.length:Int)>64)=true) :
 Fn 61 1 [.ls 0 l.length] [(0,0,qac l)] (.pv (iV (4))) 0 []:=
 Fz [] [.t true]
  tI (Ai h tI)
theorem qfy {l:List Pt} (h:decide ((l.length:Int)>64)=false) :
 Fn 61 1 [.ls 0 l.length] [(0,0,qac l)] (.pv (iV (0))) 0 []:=
 Fz [] [.t false]
  tI (Ai h tI)
theorem qlQ {l:List Pt} {p q:Pt} {j k:Nat} (hlt:decide ((k:Int)<(l.length:Int))=true) (hs1:iV (IntKind.i64.wrap ((k:Int)-1))=iV (j:Int)) (hj:l[j]?=some p) (hinj:0≤(j:Int)∧(j:Int)<(l.length:Int)) (hk:l[k]?=some q) (hin:0≤(k:Int)∧(k:Int)<(l.length:Int)) (hc:decide (p.id≥q.id)=false) (hs:iV (IntKind.i64.wrap ((k:Int)+1))=iV (((k+1:Nat):Int))) {e:Exit} {tm2:TmL} {hp2:HpL}
 (r:Rl 1 1 52 0 22 1 ([(0,.ls 0 l.length),(3,.pv (iV ((k+1:Nat):Int)))]) ([(0,0,qac l)]) e tm2 hp2):Rl 1 1 52 0 22 1 ([(0,.ls 0 l.length),(3,.pv (iV (k:Int)))]) ([(0,0,qac l)]) e tm2 hp2:=
 RunsL.next [] 300 [.t true,Re hs1,.r (iV p.id),.r (iV q.id),.t false,Re hs]
  (Ro (Ai hlt (Ai hs1 (Ai hinj (Ai (qa1 hj) (Ai hin (Ai (qa1 hk) (Ai hc (Ai hs tI))))))))) r
theorem qqp {l:List Pt} {p q:Pt} {j k:Nat} (hlt:decide ((k:Int)<(l.length:Int))=true) (hs1:iV (IntKind.i64.wrap ((k:Int)-1))=iV (j:Int)) (hj:l[j]?=some p) (hinj:0≤(j:Int)∧(j:Int)<(l.length:Int)) (hk:l[k]?=some q) (hin:0≤(k:Int)∧(k:Int)<(l.length:Int)) (hc:decide (p.id≥q.id)=true):Rl 1 1 52 0 22 1 ([(0,.ls 0 l.length),(3,.pv (iV (k:Int)))]) ([(0,0,qac l)]) (.ret) ([(2,.pv (iV 32))]) ([]):=
 RunsL.stop [] 300 [.t true,Re hs1,.r (iV p.id),.r (iV q.id),.t true] (fun h=>by cases h)
  (Ro (Ai hlt (Ai hs1 (Ai hinj (Ai (qa1 hj) (Ai hin (Ai (qa1 hk) (Ai hc tI))))))))
theorem qk4 {l:List Pt} {k:Nat} (hlt:decide ((k:Int)<(l.length:Int))=false):Rl 1 1 52 0 22 1 ([(0,.ls 0 l.length),(3,.pv (iV (k:Int)))]) ([(0,0,qac l)]) (.exit 0) ([]) ([]):=
 RunsL.stop [] 300 [.t false] (fun h=>by cases h)
  (Ro (Ai hlt tI))
theorem qrU {l:List Pt} (r0:Rl 1 1 52 0 22 1 ([(0,.ls 0 l.length),(3,.pv (iV ((1:Nat):Int)))]) ([(0,0,qac l)]) (.ret) ([(2,.pv (iV 32))]) ([])) :
 Fn 52 1 [.ls 0 l.length] [(0,0,qac l)] (.pv (iV (32))) 0 []:=
 Fz [] [Lf r0]
  tI (Lo r0 [] tI)
theorem qls {l:List Pt} (r0:Rl 1 1 52 0 22 1 ([(0,.ls 0 l.length),(3,.pv (iV ((1:Nat):Int)))]) ([(0,0,qac l)]) (.exit 0) ([]) ([])) :
 Fn 52 1 [.ls 0 l.length] [(0,0,qac l)] (.pv (iV (0))) 0 []:=
 Fz [] [Lf r0]
  tI (Lo r0 [] tI)
abbrev qup (g:List Int) (k:Nat) (l:List Pt) (y:Int):TmL:=[(0,.ls 0 l.length),(5,.pv (iV (y))),(9,.ls 1 g.length),(10,.pv (iV (g.length:Int))),(11,.pv (iV (k:Int)))]
theorem qsZ {y z:Int} {l:List Pt} {p:Pt} {g:List Int} {k:Nat} (hlt:decide ((k:Int)<(g.length:Int))=true) (hin:0≤(k:Int)∧(k:Int)<(g.length:Int)) (hg:g[k]?=some z) (hzi:0≤z∧z<(l.length:Int)) (hp:l[z.toNat]?=some p) (h1:decide (p.id≤y)=true):Rl 2 2 63 0 29 2 (qup g k l y) ([(0,0,qac l),(1,0,zrI g)]) (.ret) ([(4,.pv (.bool false))]) ([]):=
 RunsL.stop [] 300 [.t true,.r (iV z),.r (iV p.id),.t true] (fun h=>by cases h)
  (Ro (Ai hlt (Ai hin (Ai (qi2 hg) (Ai hzi (Ai (qaB hp) (Ai h1 tI)))))))
theorem qr4 {y z:Int} {l:List Pt} {p:Pt} {g:List Int} {k:Nat} (hlt:decide ((k:Int)<(g.length:Int))=true) (hin:0≤(k:Int)∧(k:Int)<(g.length:Int)) (hg:g[k]?=some z) (hzi:0≤z∧z<(l.length:Int)) (hp:l[z.toNat]?=some p) (h1:decide (p.id≤y)=false) (h2:decide (p.id>65535)=true):Rl 2 2 63 0 29 2 (qup g k l y) ([(0,0,qac l),(1,0,zrI g)]) (.ret) ([(4,.pv (.bool false))]) ([]):=
 RunsL.stop [] 300 [.t true,.r (iV z),.r (iV p.id),.t false,.t true] (fun h=>by cases h)
  (Ro (Ai hlt (Ai hin (Ai (qi2 hg) (Ai hzi (Ai (qaB hp) (Ai h1 (Ai h2 tI))))))))
theorem qna {y z:Int} {l:List Pt} {p:Pt} {g:List Int} {k:Nat} (hlt:decide ((k:Int)<(g.length:Int))=true) (hin:0≤(k:Int)∧(k:Int)<(g.length:Int)) (hg:g[k]?=some z) (hzi:0≤z∧z<(l.length:Int)) (hp:l[z.toNat]?=some p) (h1:decide (p.id≤y)=false) (h2:decide (p.id>65535)=false) (hs:iV (IntKind.i64.wrap ((k:Int)+1))=iV (((k+1:Nat):Int))) {e:Exit} {tm2:TmL} {hp2:HpL}
 (r:Rl 2 2 63 0 29 2 ([(0,.ls 0 l.length),(5,.pv (iV (p.id))),(9,.ls 1 g.length),(10,.pv (iV (g.length:Int))),(11,.pv (iV ((k+1:Nat):Int)))]) ([(0,0,qac l),(1,0,zrI g)]) e tm2 hp2):Rl 2 2 63 0 29 2 (qup g k l y) ([(0,0,qac l),(1,0,zrI g)]) e tm2 hp2:=
 RunsL.next [] 300 [.t true,.r (iV z),.r (iV p.id),.t false,.t false,Re hs]
  (Ro (Ai hlt (Ai hin (Ai (qi2 hg) (Ai hzi (Ai (qaB hp) (Ai h1 (Ai h2 (Ai hs tI))))))))) r
theorem qpg {y:Int} {l:List Pt} {g:List Int} {k:Nat} (hlt:decide ((k:Int)<(g.length:Int))=false):Rl 2 2 63 0 29 2 (qup g k l y) ([(0,0,qac l),(1,0,zrI g)]) (.exit 0) ([]) ([]):=
 RunsL.stop [] 300 [.t false] (fun h=>by cases h)
  (Ro (Ai hlt tI))
abbrev qv2 (g:List Int) (l:List Pt):TmL:=[(0,.ls 0 l.length),(5,.pv (iV (-1))),(9,.ls 1 g.length),(10,.pv (iV (g.length:Int))),(11,.pv (iV ((0:Nat):Int)))]
theorem qsq {l:List Pt} {g:List Int} (r0:Rl 2 2 63 0 29 2 (qv2 g l) ([(0,0,qac l),(1,0,zrI g)]) (.ret) ([(4,.pv (.bool false))]) ([])) :
 Fn 63 2 [.ls 0 l.length,.ls 1 g.length] [(0,0,qac l),(1,0,zrI g)] (.pv (.bool false)) 0 []:=
 Fz [] [Lf r0]
  tI (Lo r0 [] tI)
theorem qo3 {l:List Pt} {g:List Int} (r0:Rl 2 2 63 0 29 2 (qv2 g l) ([(0,0,qac l),(1,0,zrI g)]) (.exit 0) ([]) ([])) :
 Fn 63 2 [.ls 0 l.length,.ls 1 g.length] [(0,0,qac l),(1,0,zrI g)] (.pv (.bool true)) 0 []:=
 Fz [] [Lf r0]
  tI (Lo r0 [] tI)
theorem qm9 {n:Nat} {xs:List Value} (h0:0<n) (hn:0+n≤1000000) :
 Fn 53 1 [.ls 0 n] [(0,0,.row 26 3 n xs)] (.ls 1 n) 1 [(1,0,.row 26 3 n xs)]:=
 Fx [(1,2)] [.t false]
  (qvC n) (Ai (qpf 26 3 n xs) tI) (Ai h0 (Ai hn tI))
theorem quQ {ad:Addr} {c:Nat} :
 Fn 53 0 [.pv (.slice (some ad) 0 c)] [] (.ls 0 0) 1 [(0,0,.row 26 3 0 [])]:=
 Fz [(0,1)] [.k]
  (qak (qaA [(0,1)]) [(0,0,.row 26 3 0 [])]) (Ai (Nat.zero_le _:0+0≤1000000) tI)
theorem qpO {c:Nat}:Pure Try.prog 53 #[.slice none 0 c] (.slice none 0 0):=
 qli (args:=[.slice none 0 c]) 200 [] (Ai rfl tI) (by kernel_rfl)
theorem qvq {z:Int} (h0:decide (z<0)=false) (hs:iV (IntKind.i64.wrap (z-0))=iV (z)) (hg:decide (z>0)=true) (a0:0≤z) (a1:z≤1000000) :
 Fn 92 0 [.pv (.slice none 0 0),.pv (iV (z))] [] (.ls 0 0) 1 [(0,0,.row 26 3 0 [])]:=
 Fz [(0,1)] [.t false,.k,Re hs,.t true,.w []]
  (qak (qaA [(0,1)]) [(0,0,.row 26 3 0 [])]) (Ai h0 (Ai hs (Ai hg (Ai a0 (Ai a1 (Ai (Int.le_refl (0:Int)) (Ai (Nat.zero_le z.toNat) tI)))))))
theorem qtv {z:Int} (h0:decide (z<0)=false) (hs:iV (IntKind.i64.wrap (z-0))=iV (z)) (hg:decide (z>0)=false) :
 Fn 92 0 [.pv (.slice none 0 0),.pv (iV (z))] [] (.pv (.slice none 0 0)) 0 []:=
 Fz [] [.t false,.k,Re hs,.t false]
  tI (Ai h0 (Ai hs (Ai hg tI)))
theorem qwh {l m:List Pt} (hq1:iV (IntKind.i64.wrap ((0:Int)+(l.length:Int)))=iV (l.length:Int)) (hm1:decide ((l.length:Int)<0)=false) (hq2:iV (IntKind.i64.wrap ((l.length:Int)+(m.length:Int)))=iV (((l.length+m.length:Nat):Int))) (hm2:decide (((l.length+m.length:Nat):Int)<0)=false) (hgr:Fn 92 0 [.pv (.slice none 0 0),.pv (iV (((l.length+m.length:Nat):Int)))] [] (.ls 0 0) 1 [(0,0,.row 26 3 0 [])]) (ha1:0+l.length≤1000000) (ha2:0+l.length+m.length≤1000000) :
 Fn 59 3 [.ps 2 0 2 2] [(2,0,.ls 0 l.length),(2,1,.ls 1 m.length),(0,0,qac l),(1,0,qac m)] (.ls 3 (0+l.length+m.length)) 1 [(3,0,.row 26 3 (0+l.length+m.length) ([]++qam l++qam m))]:=
 Fz [(3,5)] [.k,Re hq1,.t false,.k,.k,Re hq2,.t false,.k,.k,Cf hgr [],.k,.k,.k,.k,.k]
  (qak (qaA [(3,5)]) [(3,0,.row 26 3 (0+l.length+m.length) ([]++qam l++qam m))]) (Ai hq1 (Ai hm1 (Ai hq2 (Ai hm2 (Co hgr [] 3 (Ai ha1 (Ai ha2 tI)))))))
theorem quM {l m:List Pt} (hq1:iV (IntKind.i64.wrap ((0:Int)+(l.length:Int)))=iV (l.length:Int)) (hm1:decide ((l.length:Int)<0)=false) (hq2:iV (IntKind.i64.wrap ((l.length:Int)+(m.length:Int)))=iV (((l.length+m.length:Nat):Int))) (hm2:decide (((l.length+m.length:Nat):Int)<0)=false) (hgr:Fn 92 0 [.pv (.slice none 0 0),.pv (iV (((l.length+m.length:Nat):Int)))] [] (.pv (.slice none 0 0)) 0 []) (ha1:0+l.length≤1000000) (ha2:0+l.length+m.length≤1000000) :
 Fn 59 3 [.ps 2 0 2 2] [(2,0,.ls 0 l.length),(2,1,.ls 1 m.length),(0,0,qac l),(1,0,qac m)] (.ls 3 (0+l.length+m.length)) 1 [(3,0,.row 26 3 (0+l.length+m.length) ([]++qam l++qam m))]:=
 Fz [(3,4)] [.k,Re hq1,.t false,.k,.k,Re hq2,.t false,.k,.k,Cf hgr [],.k,.k,.k,.k,.k]
  (qak (qaA [(3,4)]) [(3,0,.row 26 3 (0+l.length+m.length) ([]++qam l++qam m))]) (Ai hq1 (Ai hm1 (Ai hq2 (Ai hm2 (Co hgr [] 3 (Ai ha1 (Ai ha2 tI)))))))
theorem qmm {x y v:Int} {l:List Pt} {p:Pt} {k n:Nat} {vs:List Value} (hlt:decide ((k:Int)<(l.length:Int))=true) (hk:l[k]?=some p) (hin:0≤(k:Int)∧(k:Int)<(l.length:Int)) (hn:n+1≤1000000) (ha:Pure Try.prog 57 #[iV (p.a),iV (v)] (iV (x))) (hb:Pure Try.prog 57 #[iV (p.b),iV (v)] (iV (y))) (hs:iV (IntKind.i64.wrap ((k:Int)+1))=iV (((k+1:Nat):Int))) {e:Exit} {tm2:TmL} {hp2:HpL}
 (r:Rl 1 1 58 0 30 2 ([(1,.pv (iV v)),(5,.ls 1 (n+1)),(8,.ls 0 l.length),(9,.pv (iV (l.length:Int))),(10,.pv (iV ((k+1:Nat):Int)))]) ([(0,0,qac l),(1,0,.row 26 3 (n+1) (vs++[iV p.id,iV x,iV y]))]) e tm2 hp2):Rl 1 1 58 0 30 2 ([(1,.pv (iV v)),(5,.ls 1 n),(8,.ls 0 l.length),(9,.pv (iV (l.length:Int))),(10,.pv (iV (k:Int)))]) ([(0,0,qac l),(1,0,.row 26 3 n (vs))]) e tm2 hp2:=
 RunsL.next [(1,4)] 300 [.t true,.r (ptV p),.md,Rf ha,Rf hb,Re hs]
  (Ro (Ai hlt (Ai hin (Ai (qaP hk) (Ai ha (Ai hb (Ai hn (Ai hs tI)))))))) r
theorem qpw {v:Int} {l:List Pt} {k n:Nat} {vs:List Value} (hlt:decide ((k:Int)<(l.length:Int))=false):Rl 1 1 58 0 30 2 ([(1,.pv (iV v)),(5,.ls 1 n),(8,.ls 0 l.length),(9,.pv (iV (l.length:Int))),(10,.pv (iV (k:Int)))]) ([(0,0,qac l),(1,0,.row 26 3 n (vs))]) (.exit 0) ([(5,.ls 1 n)]) ([(1,0,.row 26 3 n (vs))]):=
 RunsL.stop [] 300 [.t false] (fun h=>by cases h)
  (Ro (Ai hlt tI))
theorem qrw {v:Int} {l:List Pt} {n:Nat} {vs:List Value} (r0:Rl 1 1 58 0 30 2 ([(1,.pv (iV v)),(5,.ls 1 0),(8,.ls 0 l.length),(9,.pv (iV (l.length:Int))),(10,.pv (iV ((0:Nat):Int)))]) ([(0,0,qac l),(1,0,.row 26 3 0 ([]))]) (.exit 0) ([(5,.ls 1 n)]) ([(1,0,.row 26 3 n (vs))])) :
 Fn 58 1 [.ls 0 l.length,.pv (iV (v))] [(0,0,qac l)] (.ls 1 n) 1 [(1,0,.row 26 3 n (vs))]:=
 Fz [] [.ln true 5 0 26 3,Lf r0]
  (qak (qaA []) [(1,0,.row 26 3 n (vs))]) (Lo r0 [] tI)
theorem qs5 {a pa pb n:Int} (n1:(!(a==a))=false) (n2:(!(n==n))=false) (h1:decide (a<n)=true) :
 Pure Try.prog 90 #[qab a pa pb,iV n] (iV (-1)):=
 qae (args:=[qab a pa pb,iV n]) 300 [.k,.k,.t false,.k,.t false,.t true]
  (Ai rfl (Ai n1 (Ai n2 (Ai h1 tI)))) (by kernel_rfl)
theorem qs8 {a pa pb n:Int} (n1:(!(a==a))=false) (n2:(!(n==n))=false) (h1:decide (a<n)=false) (h2:decide (a>n)=true) :
 Pure Try.prog 90 #[qab a pa pb,iV n] (iV (1)):=
 qae (args:=[qab a pa pb,iV n]) 300 [.k,.k,.t false,.k,.t false,.t false,.t true]
  (Ai rfl (Ai n1 (Ai n2 (Ai h1 (Ai h2 tI))))) (by kernel_rfl)
theorem qsk {a pa pb n:Int} (n1:(!(a==a))=false) (n2:(!(n==n))=false) (h1:decide (a<n)=false) (h2:decide (a>n)=false) :
 Pure Try.prog 90 #[qab a pa pb,iV n] (iV (0)):=
 qae (args:=[qab a pa pb,iV n]) 300 [.k,.k,.t false,.k,.t false,.t false,.t false]
  (Ai rfl (Ai n1 (Ai n2 (Ai h1 (Ai h2 tI))))) (by kernel_rfl)
abbrev qt7 (i:Nat) (j:Nat) (l:List Pt) (n:Int):TmL:=[(0,.ls 0 l.length),(1,.pv (iV n)),(2,.pv (.func (.func 90) #[] #[])),(8,.pv (iV (l.length:Int))),(9,.pv (iV (i:Int))),(10,.pv (iV (j:Int)))]
abbrev qtZ (c:Int) (n:Int) (p:Pt):Prop:=Pure Try.prog 90 #[qab p.id p.a p.b,iV n] (iV (c))
theorem qs2 {l:List Pt} {i j h:Nat} {p:Pt} {c n:Int} (hk:l[h]?=some p) (hin:0≤(h:Int)∧(h:Int)<(l.length:Int)) (hlt:decide ((i:Int)<(j:Int))=true) (ha:iV (IntKind.i64.wrap ((i:Int)+(j:Int)))=iV ((i:Int)+(j:Int))) (hu:Value.int .u64 (IntKind.u64.wrap ((i:Int)+(j:Int)))=.int .u64 ((i:Int)+(j:Int))) (h1:¬ (1:Int)<0) (hs:Value.int .u64 (((i:Int)+(j:Int)).fdiv (2 ^ (min (1:Int).toNat IntKind.u64.bits)))=.int .u64 (h:Int)) (hb:iV (IntKind.i64.wrap (h:Int))=iV (h:Int)) (hc:qtZ c n p) (hz:decide (c<0)=true) (hh:iV (IntKind.i64.wrap ((h:Int)+1))=iV (((h+1:Nat):Int))) {e:Exit} {tm2:TmL} {hp2:HpL}
 (r:Rl 1 1 89 0 49 1 ([(0,.ls 0 l.length),(1,.pv (iV n)),(2,.pv (.func (.func 90) #[] #[])),(8,.pv (iV (l.length:Int))),(9,.pv (iV ((h+1:Nat):Int))),(10,.pv (iV (j:Int)))]) ([(0,0,qac l)]) e tm2 hp2):Rl 1 1 89 0 49 1 (qt7 i j l n) ([(0,0,qac l)]) e tm2 hp2:=
 RunsL.next [] 300 [.t true,Re ha,Re hu,.r (.int .u64 (h:Int)),Re hb,.r (ptV p),Rf hc,.t true,Re hh]
  (Ro (Ai hlt (Ai ha (Ai hu (Ai h1 (Ai hs (Ai hb (Ai hin (Ai (qaP hk) (Ai hc (Ai hz (Ai hh tI)))))))))))) r
theorem qtt {l:List Pt} {i j h:Nat} {p:Pt} {c n:Int} (hk:l[h]?=some p) (hin:0≤(h:Int)∧(h:Int)<(l.length:Int)) (hlt:decide ((i:Int)<(j:Int))=true) (ha:iV (IntKind.i64.wrap ((i:Int)+(j:Int)))=iV ((i:Int)+(j:Int))) (hu:Value.int .u64 (IntKind.u64.wrap ((i:Int)+(j:Int)))=.int .u64 ((i:Int)+(j:Int))) (h1:¬ (1:Int)<0) (hs:Value.int .u64 (((i:Int)+(j:Int)).fdiv (2 ^ (min (1:Int).toNat IntKind.u64.bits)))=.int .u64 (h:Int)) (hb:iV (IntKind.i64.wrap (h:Int))=iV (h:Int)) (hc:qtZ c n p) (hz:decide (c<0)=false) {e:Exit} {tm2:TmL} {hp2:HpL}
 (r:Rl 1 1 89 0 49 1 ([(0,.ls 0 l.length),(1,.pv (iV n)),(2,.pv (.func (.func 90) #[] #[])),(8,.pv (iV (l.length:Int))),(9,.pv (iV (i:Int))),(10,.pv (iV (h:Int)))]) ([(0,0,qac l)]) e tm2 hp2):Rl 1 1 89 0 49 1 (qt7 i j l n) ([(0,0,qac l)]) e tm2 hp2:=
 RunsL.next [] 300 [.t true,Re ha,Re hu,.r (.int .u64 (h:Int)),Re hb,.r (ptV p),Rf hc,.t false]
  (Ro (Ai hlt (Ai ha (Ai hu (Ai h1 (Ai hs (Ai hb (Ai hin (Ai (qaP hk) (Ai hc (Ai hz tI))))))))))) r
theorem qk8 {l:List Pt} {i j:Nat} {n:Int} (hge:decide ((i:Int)<(j:Int))=false):Rl 1 1 89 0 49 1 (qt7 i j l n) ([(0,0,qac l)]) (.exit 0) (qt7 i j l n) ([(0,0,qac l)]):=
 RunsL.stop [] 300 [.t false] (fun h=>by cases h)
  (Ro (Ai hge tI))
abbrev qvN (k:Nat) (l:List Pt) (n:Int):Prop:=Rl 1 1 89 0 49 1 ([(0,.ls 0 l.length),(1,.pv (iV n)),(2,.pv (.func (.func 90) #[] #[])),(8,.pv (iV (l.length:Int))),(9,.pv (iV ((0:Nat):Int))),(10,.pv (iV (l.length:Int)))]) ([(0,0,qac l)]) (.exit 0) ([(0,.ls 0 l.length),(1,.pv (iV n)),(2,.pv (.func (.func 90) #[] #[])),(8,.pv (iV (l.length:Int))),(9,.pv (iV (k:Int))),(10,.pv (iV (k:Int)))]) ([(0,0,qac l)])
theorem qpq {l:List Pt} {k:Nat} {n:Int} (r0:qvN k l n) (hge:decide ((k:Int)<(l.length:Int))=false) :
 Fn 89 1 [.ls 0 l.length,.pv (iV (n)),.pv (.func (.func 90) #[] #[])] [(0,0,qac l)] (.pv (.tuple #[iV (k:Int),.bool false])) 0 []:=
 Fz [] [Lf r0,.t false]
  tI (Lo r0 [] (Ai hge tI))
theorem qpP {l:List Pt} {k:Nat} {p:Pt} {c:Int} {n:Int} (r0:qvN k l n) (hk:l[k]?=some p) (hin:0≤(k:Int)∧(k:Int)<(l.length:Int)) (hlt:decide ((k:Int)<(l.length:Int))=true) (hc:qtZ c n p) (hz:(c==0)=true) :
 Fn 89 1 [.ls 0 l.length,.pv (iV (n)),.pv (.func (.func 90) #[] #[])] [(0,0,qac l)] (.pv (.tuple #[iV (k:Int),.bool true])) 0 []:=
 Fz [] [Lf r0,.t true,.r (ptV p),Rf hc,.t true]
  tI (Lo r0 [] (Ai hlt (Ai hin (Ai (qaP hk) (Ai hc (Ai hz tI))))))
theorem qsX {l:List Pt} {k:Nat} {p:Pt} {c:Int} {n:Int} (r0:qvN k l n) (hk:l[k]?=some p) (hin:0≤(k:Int)∧(k:Int)<(l.length:Int)) (hlt:decide ((k:Int)<(l.length:Int))=true) (hc:qtZ c n p) (hz:(c==0)=false) :
 Fn 89 1 [.ls 0 l.length,.pv (iV (n)),.pv (.func (.func 90) #[] #[])] [(0,0,qac l)] (.pv (.tuple #[iV (k:Int),.bool false])) 0 []:=
 Fz [] [Lf r0,.t true,.r (ptV p),Rf hc,.t false]
  tI (Lo r0 [] (Ai hlt (Ai hin (Ai (qaP hk) (Ai hc (Ai hz tI))))))
theorem ele {l:List Pt} {k:Nat} {n:Int} {w:Bool} (hb:Fn 89 1 [.ls 0 l.length,.pv (iV (n)),.pv (.func (.func 90) #[] #[])] [(0,0,qac l)] (.pv (.tuple #[iV (k:Int),.bool w])) 0 []) :
 Fn 55 1 [.ls 0 l.length,.pv (iV (n))] [(0,0,qac l)] (.pv (iV (k:Int))) 0 []:=
 Fz [] [Cf hb [0]]
  tI (Co hb [0] 1 tI)
end Go.Proofs.Ytalnjplghagbpaa

namespace Go.Proofs.Ytalnjplghagbpaa
set_option maxRecDepth 100000
open Go.RowKit
abbrev qqo (l:List Pt) (rt:Int):Prop:=Fn 96 1 [trS 0 rt l,.pv (iV (rt)),.pv (.slice none 0 0)] [(0,0,qac l)] (.pv (.slice none 0 0)) 0 []
theorem qqb {rt:Int} {l:List Pt} (hw:qqo l rt) :
 Fn 73 1 [trS 0 rt l] [(0,0,qac l)] (.pv (.slice none 0 0)) 0 []:=
 Fz [] [Cf hw [0]]
  tI (Co hw [0] 2 tI)
abbrev qpI (g:List Int) (l:List Pt) (rt:Int):Prop:=Fn 96 1 [trS 0 rt l,.pv (iV (rt)),.pv (.slice none 0 0)] [(0,0,qac l)] (.ls 1 g.length) 1 [(1,0,zrI g)]
theorem qro {rt:Int} {l:List Pt} {g:List Int} (hw:qpI g l rt) :
 Fn 73 1 [trS 0 rt l] [(0,0,qac l)] (.ls 1 g.length) 1 [(1,0,zrI g)]:=
 Fz [(1,2)] [Cf hw [0]]
  (qak (qaA [(1,2)]) [(1,0,zrI g)]) (Co hw [0] 2 tI)
theorem qpj {rt:Int} {l:List Pt} (hw:qqo l rt) (he:((0:Int)==(l.length:Int))=true) :
 Fn 72 1 [trS 0 rt l] [(0,0,qac l)] (.pv (.bool true)) 0 []:=
 Fz [] [.md,Cf hw [0],.t true]
  tI (Co hw [0] 2 (Ai he tI))
theorem qlF {rt:Int} {l:List Pt} (hw:qqo l rt) (he:((0:Int)==(l.length:Int))=false) :
 Fn 72 1 [trS 0 rt l] [(0,0,qac l)] (.pv (.bool false)) 0 []:=
 Fz [] [.md,Cf hw [0],.t false]
  tI (Co hw [0] 2 (Ai he tI))
theorem qlM {rt:Int} {l:List Pt} {g:List Int} (hw:qpI g l rt) (he:((g.length:Int)==(l.length:Int))=true) :
 Fn 72 1 [trS 0 rt l] [(0,0,qac l)] (.pv (.bool true)) 0 []:=
 Fz [] [.md,Cf hw [0],.t true]
  tI (Co hw [0] 2 (Ai he tI))
theorem qkZ {rt:Int} {l:List Pt} {g:List Int} (hw:qpI g l rt) (he:((g.length:Int)==(l.length:Int))=false) :
 Fn 72 1 [trS 0 rt l] [(0,0,qac l)] (.pv (.bool false)) 0 []:=
 Fz [] [.md,Cf hw [0],.t false]
  tI (Co hw [0] 2 (Ai he tI))
theorem qm1 {rt:Int} {l:List Pt} (hm:decide ((l.length:Int)>64)=true) :
 Fn 34 1 [trS 0 rt l] [(0,0,qac l)] (.pv (iV (4))) 0 []:=
 Fz [] [.t true]
  tI (Ai hm tI)
theorem qne {rt:Int} {l:List Pt} (hm:decide ((l.length:Int)>64)=false) (hl:Fn 70 1 [trS 0 rt l,.pv (iV (rt))] [(0,0,qac l)] (.pv (.bool false)) 0 []) :
 Fn 34 1 [trS 0 rt l] [(0,0,qac l)] (.pv (iV (8))) 0 []:=
 Fz [] [.t false,Cf hl [0],.k]
  tI (Ai hm (Co hl [0] 2 tI))
abbrev qi1 (l:List Pt) (rt:Int):Prop:=Fn 70 1 [trS 0 rt l,.pv (iV (rt))] [(0,0,qac l)] (.pv (.bool true)) 0 []
theorem qkl {rt:Int} {l:List Pt} (hm:decide ((l.length:Int)>64)=false) (hl:qi1 l rt) (hr:(rt==(-1))=true) (h0:((l.length:Int)==0)=false) :
 Fn 34 1 [trS 0 rt l] [(0,0,qac l)] (.pv (iV (8))) 0 []:=
 Fz [] [.t false,Cf hl [0],.k,.t true,.t false,.k]
  tI (Ai hm (Co hl [0] 2 (Ai hr (Ai h0 tI))))
theorem qiY {rt:Int} {l:List Pt} (hm:decide ((l.length:Int)>64)=false) (hl:qi1 l rt) (hr:(rt==(-1))=false) (h0:((l.length:Int)==0)=true) :
 Fn 34 1 [trS 0 rt l] [(0,0,qac l)] (.pv (iV (8))) 0 []:=
 Fz [] [.t false,Cf hl [0],.k,.t false,.t true,.k]
  tI (Ai hm (Co hl [0] 2 (Ai hr (Ai h0 tI))))
abbrev ql8 (l:List Pt) (rt:Int):HpL:=[(1,0,.pv (iV rt)),(1,1,.ls 0 l.length),(0,0,qac l)]
abbrev qib (k:Nat):TmL:=[(1,.pp 1 0),(3,.pv (iV (k:Int)))]
theorem qsO {rt:Int} {l:List Pt} {p:Pt} {k:Nat} (hlt:decide ((k:Int)<(l.length:Int))=true) (hk:l[k]?=some p) (hin:0≤(k:Int)∧(k:Int)<(l.length:Int)) (ha:Fn 70 1 [trS 0 rt l,.pv (iV (p.a))] [(0,0,qac l)] (.pv (.bool false)) 0 []):Rl 1 1 34 0 96 2 (qib k) (ql8 l rt) (.ret) ([(2,.pv (iV 8))]) ([]):=
 RunsL.stop [] 300 [.t true,.r (ptV p),Cf ha [0],.k] (fun h=>by cases h)
  (Ro (Ai hlt (Ai hin (Ai (qaP hk) (Co ha [0] 3 tI)))))
abbrev qmx (l:List Pt) (p:Pt) (rt:Int):Prop:=Fn 70 1 [trS 0 rt l,.pv (iV (p.a))] [(0,0,qac l)] (.pv (.bool true)) 0 []
theorem qst {rt:Int} {l:List Pt} {p:Pt} {k:Nat} (hlt:decide ((k:Int)<(l.length:Int))=true) (hk:l[k]?=some p) (hin:0≤(k:Int)∧(k:Int)<(l.length:Int)) (ha:qmx l p rt) (hb:Fn 70 1 [trS 0 rt l,.pv (iV (p.b))] [(0,0,qac l)] (.pv (.bool false)) 0 []):Rl 1 1 34 0 96 2 (qib k) (ql8 l rt) (.ret) ([(2,.pv (iV 8))]) ([]):=
 RunsL.stop [] 300 [.t true,.r (ptV p),Cf ha [0],.k,Cf hb [0],.k] (fun h=>by cases h)
  (Ro (Ai hlt (Ai hin (Ai (qaP hk) (Co ha [0] 3 (Co hb [0] 3 tI))))))
abbrev qoK (l:List Pt) (p:Pt) (rt:Int):Prop:=Fn 70 1 [trS 0 rt l,.pv (iV (p.b))] [(0,0,qac l)] (.pv (.bool true)) 0 []
theorem qtn {rt:Int} {l:List Pt} {p:Pt} {k:Nat} (hlt:decide ((k:Int)<(l.length:Int))=true) (hk:l[k]?=some p) (hin:0≤(k:Int)∧(k:Int)<(l.length:Int)) (ha:qmx l p rt) (hb:qoK l p rt) (h1:decide (p.id<0)=true):Rl 1 1 34 0 96 2 (qib k) (ql8 l rt) (.ret) ([(2,.pv (iV 8))]) ([]):=
 RunsL.stop [] 300 [.t true,.r (ptV p),Cf ha [0],.k,Cf hb [0],.k,.t true] (fun h=>by cases h)
  (Ro (Ai hlt (Ai hin (Ai (qaP hk) (Co ha [0] 3 (Co hb [0] 3 (Ai h1 tI)))))))
theorem qrD {rt:Int} {l:List Pt} {p:Pt} {k:Nat} (hlt:decide ((k:Int)<(l.length:Int))=true) (hk:l[k]?=some p) (hin:0≤(k:Int)∧(k:Int)<(l.length:Int)) (ha:qmx l p rt) (hb:qoK l p rt) (h1:decide (p.id<0)=false) (h2:decide (p.id>65535)=true):Rl 1 1 34 0 96 2 (qib k) (ql8 l rt) (.ret) ([(2,.pv (iV 8))]) ([]):=
 RunsL.stop [] 300 [.t true,.r (ptV p),Cf ha [0],.k,Cf hb [0],.k,.t false,.t true] (fun h=>by cases h)
  (Ro (Ai hlt (Ai hin (Ai (qaP hk) (Co ha [0] 3 (Co hb [0] 3 (Ai h1 (Ai h2 tI))))))))
theorem qnA {rt:Int} {l:List Pt} {p:Pt} {k:Nat} (hlt:decide ((k:Int)<(l.length:Int))=true) (hk:l[k]?=some p) (hin:0≤(k:Int)∧(k:Int)<(l.length:Int)) (ha:qmx l p rt) (hb:qoK l p rt) (h1:decide (p.id<0)=false) (h2:decide (p.id>65535)=false) (hs:iV (IntKind.i64.wrap ((k:Int)+1))=iV (((k+1:Nat):Int))) {e:Exit} {tm2:TmL} {hp2:HpL}
 (r:Rl 1 1 34 0 96 2 ([(1,.pp 1 0),(3,.pv (iV ((k+1:Nat):Int)))]) (ql8 l rt) e tm2 hp2):Rl 1 1 34 0 96 2 (qib k) (ql8 l rt) e tm2 hp2:=
 RunsL.next [] 300 [.t true,.r (ptV p),Cf ha [0],.k,Cf hb [0],.k,.t false,.t false,Re hs]
  (Ro (Ai hlt (Ai hin (Ai (qaP hk) (Co ha [0] 3 (Co hb [0] 3 (Ai h1 (Ai h2 (Ai hs tI))))))))) r
theorem qpJ {rt:Int} {l:List Pt} {k:Nat} (hlt:decide ((k:Int)<(l.length:Int))=false):Rl 1 1 34 0 96 2 (qib k) (ql8 l rt) (.exit 0) ([(1,.pp 1 0)]) (ql8 l rt):=
 RunsL.stop [] 300 [.t false] (fun h=>by cases h)
  (Ro (Ai hlt tI))
abbrev qoa (g:List Int) (l:List Pt) (rt:Int):HpL:=[(1,0,.pv (iV rt)),(1,1,.ls 0 l.length),(0,0,qac l),(2,0,zrI g)]
theorem qk6 {rt y z:Int} {l:List Pt} {p q:Pt} {g:List Int} {j k:Nat} (hlt:decide ((k:Int)<(g.length:Int))=true) (hs1:iV (IntKind.i64.wrap ((k:Int)-1))=iV (j:Int)) (hji:0≤(j:Int)∧(j:Int)<(g.length:Int)) (hgj:g[j]?=some y) (hyi:0≤y∧y<(l.length:Int)) (hp:l[y.toNat]?=some p) (hki:0≤(k:Int)∧(k:Int)<(g.length:Int)) (hgk:g[k]?=some z) (hzi:0≤z∧z<(l.length:Int)) (hq:l[z.toNat]?=some q) (hc:decide (p.id≥q.id)=false) (hs:iV (IntKind.i64.wrap ((k:Int)+1))=iV (((k+1:Nat):Int))) {e:Exit} {tm2:TmL} {hp2:HpL}
 (r:Rl 1 1 34 1 96 3 ([(1,.pp 1 0),(5,.ls 2 g.length),(6,.pv (iV ((k+1:Nat):Int)))]) (qoa g l rt) e tm2 hp2):Rl 1 1 34 1 96 3 ([(1,.pp 1 0),(5,.ls 2 g.length),(6,.pv (iV (k:Int)))]) (qoa g l rt) e tm2 hp2:=
 RunsL.next [] 300 [.t true,Re hs1,.r (iV y),.r (iV p.id),.r (iV z),.r (iV q.id),.t false,Re hs]
  (Ro (Ai hlt (Ai hs1 (Ai hji (Ai (qi2 hgj) (Ai hyi (Ai (qaB hp) (Ai hki (Ai (qi2 hgk) (Ai hzi (Ai (qaB hq) (Ai hc (Ai hs tI))))))))))))) r
theorem qlU {rt y z:Int} {l:List Pt} {p q:Pt} {g:List Int} {j k:Nat} (hlt:decide ((k:Int)<(g.length:Int))=true) (hs1:iV (IntKind.i64.wrap ((k:Int)-1))=iV (j:Int)) (hji:0≤(j:Int)∧(j:Int)<(g.length:Int)) (hgj:g[j]?=some y) (hyi:0≤y∧y<(l.length:Int)) (hp:l[y.toNat]?=some p) (hki:0≤(k:Int)∧(k:Int)<(g.length:Int)) (hgk:g[k]?=some z) (hzi:0≤z∧z<(l.length:Int)) (hq:l[z.toNat]?=some q) (hc:decide (p.id≥q.id)=true):Rl 1 1 34 1 96 3 ([(1,.pp 1 0),(5,.ls 2 g.length),(6,.pv (iV (k:Int)))]) (qoa g l rt) (.ret) ([(2,.pv (iV 8))]) ([]):=
 RunsL.stop [] 300 [.t true,Re hs1,.r (iV y),.r (iV p.id),.r (iV z),.r (iV q.id),.t true] (fun h=>by cases h)
  (Ro (Ai hlt (Ai hs1 (Ai hji (Ai (qi2 hgj) (Ai hyi (Ai (qaB hp) (Ai hki (Ai (qi2 hgk) (Ai hzi (Ai (qaB hq) (Ai hc tI))))))))))))
theorem qho {rt:Int} {l:List Pt} {g:List Int} {k:Nat} (hlt:decide ((k:Int)<(g.length:Int))=false):Rl 1 1 34 1 96 3 ([(1,.pp 1 0),(5,.ls 2 g.length),(6,.pv (iV (k:Int)))]) (qoa g l rt) (.exit 2) ([]) ([]):=
 RunsL.stop [] 300 [.t false] (fun h=>by cases h)
  (Ro (Ai hlt tI))
abbrev qto (l:List Pt) (rt:Int):Prop:=Rl 1 1 34 0 96 2 ([(1,.pp 1 0),(3,.pv (iV ((0:Nat):Int)))]) (ql8 l rt) (.ret) ([(2,.pv (iV 8))]) ([])
theorem qnw {rt:Int} {l:List Pt} (hm:decide ((l.length:Int)>64)=false) (hl:qi1 l rt) (hr:(rt==(-1))=true) (h0:((l.length:Int)==0)=true) (r0:qto l rt) :
 Fn 34 1 [trS 0 rt l] [(0,0,qac l)] (.pv (iV (8))) 0 []:=
 Fz [] [.t false,Cf hl [0],.k,.t true,.t true,.k,Lf r0]
  tI (Ai hm (Co hl [0] 2 (Ai hr (Ai h0 (Lo r0 [] tI)))))
abbrev qoq (l:List Pt) (rt:Int):Prop:=Rl 1 1 34 0 96 2 ([(1,.pp 1 0),(3,.pv (iV ((0:Nat):Int)))]) ([(1,0,.pv (iV rt)),(1,1,.ls 0 l.length),(0,0,qac l)]) (.exit 0) ([(1,.pp 1 0)]) ([(1,0,.pv (iV rt)),(1,1,.ls 0 l.length),(0,0,qac l)])
theorem qju {rt:Int} {l:List Pt} (hm:decide ((l.length:Int)>64)=false) (hl:qi1 l rt) (hr:(rt==(-1))=true) (h0:((l.length:Int)==0)=true) (r0:qoq l rt) (ho:Fn 71 1 [trS 0 rt l] [(0,0,qac l)] (.pv (.bool false)) 0 []) :
 Fn 34 1 [trS 0 rt l] [(0,0,qac l)] (.pv (iV (8))) 0 []:=
 Fz [] [.t false,Cf hl [0],.k,.t true,.t true,.k,Lf r0,Cf ho [0],.k]
  tI (Ai hm (Co hl [0] 2 (Ai hr (Ai h0 (Lo r0 [] (Co ho [0] 2 tI))))))
abbrev qh8 (l:List Pt) (rt:Int):Prop:=Fn 71 1 [trS 0 rt l] [(0,0,qac l)] (.pv (.bool true)) 0 []
theorem qik {rt:Int} {l:List Pt} (hm:decide ((l.length:Int)>64)=false) (hl:qi1 l rt) (hr:(rt==(-1))=true) (h0:((l.length:Int)==0)=true) (r0:qoq l rt) (ho:qh8 l rt) (hrc:Fn 72 1 [trS 0 rt l] [(0,0,qac l)] (.pv (.bool false)) 0 []) :
 Fn 34 1 [trS 0 rt l] [(0,0,qac l)] (.pv (iV (8))) 0 []:=
 Fz [] [.t false,Cf hl [0],.k,.t true,.t true,.k,Lf r0,Cf ho [0],.k,Cf hrc [0],.k]
  tI (Ai hm (Co hl [0] 2 (Ai hr (Ai h0 (Lo r0 [] (Co ho [0] 2 (Co hrc [0] 2 tI)))))))
abbrev qmG (g:List Int):TmL:=[(1,.pp 1 0),(5,.ls 2 g.length),(6,.pv (iV ((1:Nat):Int)))]
abbrev qnT (g:List Int) (l:List Pt) (rt:Int):Prop:=Fn 73 1 [trS 0 rt l] [(0,0,qac l)] (.ls 1 g.length) 1 [(1,0,zrI g)]
abbrev qnI (l:List Pt) (rt:Int):Prop:=Fn 72 1 [trS 0 rt l] [(0,0,qac l)] (.pv (.bool true)) 0 []
theorem ql4 {rt:Int} {l:List Pt} {g:List Int} (hm:decide ((l.length:Int)>64)=false) (hl:qi1 l rt) (hr:(rt==(-1))=true) (h0:((l.length:Int)==0)=true) (r0:qoq l rt) (ho:qh8 l rt) (hrc:qnI l rt) (hw:qnT g l rt) (r1:Rl 1 1 34 1 96 3 (qmG g) (qoa g l rt) (.ret) ([(2,.pv (iV 8))]) ([])) :
 Fn 34 1 [trS 0 rt l] [(0,0,qac l)] (.pv (iV (8))) 0 []:=
 Fz [] [.t false,Cf hl [0],.k,.t true,.t true,.k,Lf r0,Cf ho [0],.k,Cf ho [0],.k,Cf hw [0],Lf r1]
  tI (Ai hm (Co hl [0] 2 (Ai hr (Ai h0 (Lo r0 [] (Co ho [0] 2 (Co hrc [0] 2 (Co hw [0] 2 (Lo r1 [] tI)))))))))
theorem qp6 {rt:Int} {l:List Pt} {g:List Int} (hm:decide ((l.length:Int)>64)=false) (hl:qi1 l rt) (hr:(rt==(-1))=true) (h0:((l.length:Int)==0)=true) (r0:qoq l rt) (ho:qh8 l rt) (hrc:qnI l rt) (hw:qnT g l rt) (r1:Rl 1 1 34 1 96 3 (qmG g) (qoa g l rt) (.exit 2) ([]) ([])) :
 Fn 34 1 [trS 0 rt l] [(0,0,qac l)] (.pv (iV (0))) 0 []:=
 Fz [] [.t false,Cf hl [0],.k,.t true,.t true,.k,Lf r0,Cf ho [0],.k,Cf ho [0],.k,Cf hw [0],Lf r1]
  tI (Ai hm (Co hl [0] 2 (Ai hr (Ai h0 (Lo r0 [] (Co ho [0] 2 (Co hrc [0] 2 (Co hw [0] 2 (Lo r1 [] tI)))))))))
theorem ql1 {rt:Int} {l:List Pt} (hm:decide ((l.length:Int)>64)=false) (hl:qi1 l rt) (hr:(rt==(-1))=false) (h0:((l.length:Int)==0)=false) (r0:qto l rt) :
 Fn 34 1 [trS 0 rt l] [(0,0,qac l)] (.pv (iV (8))) 0 []:=
 Fz [] [.t false,Cf hl [0],.k,.t false,.t false,.k,Lf r0]
  tI (Ai hm (Co hl [0] 2 (Ai hr (Ai h0 (Lo r0 [] tI)))))
theorem qkX {rt:Int} {l:List Pt} (hm:decide ((l.length:Int)>64)=false) (hl:qi1 l rt) (hr:(rt==(-1))=false) (h0:((l.length:Int)==0)=false) (r0:qoq l rt) (ho:Fn 71 1 [trS 0 rt l] [(0,0,qac l)] (.pv (.bool false)) 0 []) :
 Fn 34 1 [trS 0 rt l] [(0,0,qac l)] (.pv (iV (8))) 0 []:=
 Fz [] [.t false,Cf hl [0],.k,.t false,.t false,.k,Lf r0,Cf ho [0],.k]
  tI (Ai hm (Co hl [0] 2 (Ai hr (Ai h0 (Lo r0 [] (Co ho [0] 2 tI))))))
theorem qh6 {rt:Int} {l:List Pt} (hm:decide ((l.length:Int)>64)=false) (hl:qi1 l rt) (hr:(rt==(-1))=false) (h0:((l.length:Int)==0)=false) (r0:qoq l rt) (ho:qh8 l rt) (hrc:Fn 72 1 [trS 0 rt l] [(0,0,qac l)] (.pv (.bool false)) 0 []) :
 Fn 34 1 [trS 0 rt l] [(0,0,qac l)] (.pv (iV (8))) 0 []:=
 Fz [] [.t false,Cf hl [0],.k,.t false,.t false,.k,Lf r0,Cf ho [0],.k,Cf hrc [0],.k]
  tI (Ai hm (Co hl [0] 2 (Ai hr (Ai h0 (Lo r0 [] (Co ho [0] 2 (Co hrc [0] 2 tI)))))))
theorem ql6 {rt:Int} {l:List Pt} {g:List Int} (hm:decide ((l.length:Int)>64)=false) (hl:qi1 l rt) (hr:(rt==(-1))=false) (h0:((l.length:Int)==0)=false) (r0:qoq l rt) (ho:qh8 l rt) (hrc:qnI l rt) (hw:qnT g l rt) (r1:Rl 1 1 34 1 96 3 (qmG g) (qoa g l rt) (.ret) ([(2,.pv (iV 8))]) ([])) :
 Fn 34 1 [trS 0 rt l] [(0,0,qac l)] (.pv (iV (8))) 0 []:=
 Fz [] [.t false,Cf hl [0],.k,.t false,.t false,.k,Lf r0,Cf ho [0],.k,Cf ho [0],.k,Cf hw [0],Lf r1]
  tI (Ai hm (Co hl [0] 2 (Ai hr (Ai h0 (Lo r0 [] (Co ho [0] 2 (Co hrc [0] 2 (Co hw [0] 2 (Lo r1 [] tI)))))))))
theorem qpz {rt:Int} {l:List Pt} {g:List Int} (hm:decide ((l.length:Int)>64)=false) (hl:qi1 l rt) (hr:(rt==(-1))=false) (h0:((l.length:Int)==0)=false) (r0:qoq l rt) (ho:qh8 l rt) (hrc:qnI l rt) (hw:qnT g l rt) (r1:Rl 1 1 34 1 96 3 (qmG g) (qoa g l rt) (.exit 2) ([]) ([])) :
 Fn 34 1 [trS 0 rt l] [(0,0,qac l)] (.pv (iV (0))) 0 []:=
 Fz [] [.t false,Cf hl [0],.k,.t false,.t false,.k,Lf r0,Cf ho [0],.k,Cf ho [0],.k,Cf hw [0],Lf r1]
  tI (Ai hm (Co hl [0] 2 (Ai hr (Ai h0 (Lo r0 [] (Co ho [0] 2 (Co hrc [0] 2 (Co hw [0] 2 (Lo r1 [] tI)))))))))
abbrev qul (n:Nat) (s:List Pt) (td:Int) (tn:Int) (vs:List Value):HpL:=[(1,0,.ls 0 s.length),(2,0,.pv (iV tn)),(2,1,.pv (iV td)),(3,0,.pv (iV 0)),(3,1,.pv (.slice none 0 0)),(4,0,.pv (iV 0)),(4,1,.ls 5 n),(0,0,qag s),(5,0,.row 26 3 n (vs))]
theorem qmV {tn td:Int} {s:List Pt} {p:Pt} {k n:Nat} {vs:List Value} (hlt:decide ((k:Int)<(s.length:Int))=true) (hk:s[k]?=some p) (hin:0≤(k:Int)∧(k:Int)<(s.length:Int)) (hn:n+1≤1000000) (hs:iV (IntKind.i64.wrap ((k:Int)+1))=iV (((k+1:Nat):Int))) {e:Exit} {tm2:TmL} {hp2:HpL}
 (r:Rl 1 1 65 0 35 6 ([(2,.pp 1 0),(3,.pp 2 0),(4,.pp 3 0),(5,.pp 4 0),(6,.pv (iV ((k+1:Nat):Int)))]) ([(1,0,.ls 0 s.length),(2,0,.pv (iV tn)),(2,1,.pv (iV td)),(3,0,.pv (iV 0)),(3,1,.pv (.slice none 0 0)),(4,0,.pv (iV 0)),(4,1,.ls 5 (n+1)),(0,0,qag s),(5,0,.row 26 3 (n+1) (vs++[iV p.id,iV 0,iV 0]))]) e tm2 hp2):Rl 1 1 65 0 35 6 ([(2,.pp 1 0),(3,.pp 2 0),(4,.pp 3 0),(5,.pp 4 0),(6,.pv (iV (k:Int)))]) (qul n s td tn vs) e tm2 hp2:=
 RunsL.next [(5,7)] 300 [.t true,.md,.r (iV p.id),Re hs]
  (Ro (Ai hlt (Ai hin (Ai (qa1 hk) (Ai hn (Ai hs tI)))))) r
theorem qqA {tn td:Int} {s:List Pt} {k n:Nat} {vs:List Value} (hlt:decide ((k:Int)<(s.length:Int))=false):Rl 1 1 65 0 35 6 ([(2,.pp 1 0),(3,.pp 2 0),(4,.pp 3 0),(5,.pp 4 0),(6,.pv (iV (k:Int)))]) (qul n s td tn vs) (.exit 0) ([(2,.pp 1 0),(3,.pp 2 0),(4,.pp 3 0),(5,.pp 4 0)]) (qul n s td tn vs):=
 RunsL.stop [] 300 [.t false] (fun h=>by cases h)
  (Ro (Ai hlt tI))
theorem qnl {z tn td:Int} {s n1:List Pt} {n:Nat} {vs:List Value} (r0:Rl 1 1 65 0 35 6 ([(2,.pp 1 0),(3,.pp 2 0),(4,.pp 3 0),(5,.pp 4 0),(6,.pv (iV ((0:Nat):Int)))]) ([(1,0,.ls 0 s.length),(2,0,.pv (iV tn)),(2,1,.pv (iV td)),(3,0,.pv (iV 0)),(3,1,.pv (.slice none 0 0)),(4,0,.pv (iV 0)),(4,1,.ls 5 0),(0,0,qag s),(5,0,.row 26 3 0 ([]))]) (.exit 0) ([(2,.pp 1 0),(3,.pp 2 0),(4,.pp 3 0),(5,.pp 4 0)]) (qul n s td tn vs)) (hg:FnO Try.prog 94 1 2 [qaq 0 s,.pv (qaa tn td),.ag [.pv (iV 0),.ls 1 n],.pv (iV (0)),.pv (iV (s.length:Int))] [(0,0,qag s),(1,0,.row 26 3 n (vs))] (.pv (iV (z))) 0 [(1,0,.row 26 3 n (qam n1))]) :
 Fn 65 1 [qaq 0 s,.pv (qaa tn td)] [(0,0,qag s)] (.ag [.pv (iV z),.ls 1 n]) 1 [(1,0,.row 26 3 n (qam n1))]:=
 Fz [(1,5)] [.ln false 4 1 26 3,Lf r0,.fo 1 [0,5] [qaq 0 s,.pv (qaa tn td),.ag [.pv (iV 0),.ls 1 n],.pv (iV (0)),.pv (iV (s.length:Int))] [(0,0,qag s),(1,0,.row 26 3 n (vs))] (.pv (iV (z))) 0 [(1,0,.row 26 3 n (qam n1))]]
  (qak (qaA [(1,5)]) [(1,0,.row 26 3 n (qam n1))]) (Lo r0 [] (Ai hg (Ai (Eq.refl (List.map (SV.ren (qat [0,5] 6)) [qaq 0 s,.pv (qaa tn td),.ag [.pv (iV 0),.ls 1 n],.pv (iV (0)),.pv (iV (s.length:Int))])) (Ai (qak (qat [0,5] 6) [(0,0,qag s),(1,0,.row 26 3 n (vs))]) tI))))
abbrev qoO (l:List Pt) (m:List Pt) (n:Nat) (rt:Int) (s:List Pt) (td:Int) (tn:Int) (vs:List Value) (x:Int):HpL:=[(3,0,.pv (iV rt)),(3,1,.ls 0 l.length),(4,0,.pv (iV x)),(4,1,.ls 1 m.length),(5,0,.ls 2 s.length),(6,0,.pv (iV tn)),(6,1,.pv (iV td)),(7,0,.pv (iV 0)),(7,1,.pv (.slice none 0 0)),(8,0,.pv (iV 0)),(8,1,.ls 9 n),(0,0,qac l),(1,0,qac m),(2,0,qag s),(9,0,.row 26 3 n (vs))]
abbrev qsL (k:Nat) (l:List Pt):TmL:=[(4,.pp 3 0),(5,.pp 4 0),(6,.pp 5 0),(7,.pp 6 0),(8,.pp 7 0),(9,.pv (iV (l.length:Int))),(10,.pp 8 0),(11,.pv (iV (k:Int)))]
abbrev qt6 (k:Nat) (l:List Pt):TmL:=[(4,.pp 3 0),(5,.pp 4 0),(6,.pp 5 0),(7,.pp 6 0),(8,.pp 7 0),(9,.pv (iV (l.length:Int))),(10,.pp 8 0),(11,.pv (iV ((k+1:Nat):Int)))]
theorem qrC {rt x tn td:Int} {s l m:List Pt} {p:Pt} {k n:Nat} {vs:List Value} {a2 b2:Int} (hlt:decide ((k:Int)<(m.length:Int))=true) (hk:m[k]?=some p) (hin:0≤(k:Int)∧(k:Int)<(m.length:Int)) (hn:n+1≤1000000) (h1:decide (p.a≥0)=true) (ha:iV (IntKind.i64.wrap (p.a+(l.length:Int)))=iV (a2)) (h2:decide (p.b≥0)=true) (hb:iV (IntKind.i64.wrap (p.b+(l.length:Int)))=iV (b2)) (hs:iV (IntKind.i64.wrap ((k:Int)+1))=iV (((k+1:Nat):Int))) {e:Exit} {tm2:TmL} {hp2:HpL}
 (r:Rl 3 3 78 0 73 10 (qt6 k l) ([(3,0,.pv (iV rt)),(3,1,.ls 0 l.length),(4,0,.pv (iV x)),(4,1,.ls 1 m.length),(5,0,.ls 2 s.length),(6,0,.pv (iV tn)),(6,1,.pv (iV td)),(7,0,.pv (iV 0)),(7,1,.pv (.slice none 0 0)),(8,0,.pv (iV 0)),(8,1,.ls 9 (n+1)),(0,0,qac l),(1,0,qac m),(2,0,qag s),(9,0,.row 26 3 (n+1) (vs++[iV p.id,iV a2,iV b2]))]) e tm2 hp2):Rl 3 3 78 0 73 10 (qsL k l) (qoO l m n rt s td tn vs x) e tm2 hp2:=
 RunsL.next [(9,12)] 300 [.t true,.r (ptV p),.t true,Re ha,.t true,Re hb,Re hs]
  (Ro (Ai hlt (Ai hin (Ai (qaP hk) (Ai h1 (Ai ha (Ai h2 (Ai hb (Ai hn (Ai hs tI)))))))))) r
theorem qr6 {rt x tn td:Int} {s l m:List Pt} {p:Pt} {k n:Nat} {vs:List Value} {a2:Int} (hlt:decide ((k:Int)<(m.length:Int))=true) (hk:m[k]?=some p) (hin:0≤(k:Int)∧(k:Int)<(m.length:Int)) (hn:n+1≤1000000) (h1:decide (p.a≥0)=true) (ha:iV (IntKind.i64.wrap (p.a+(l.length:Int)))=iV (a2)) (h2:decide (p.b≥0)=false) (hs:iV (IntKind.i64.wrap ((k:Int)+1))=iV (((k+1:Nat):Int))) {e:Exit} {tm2:TmL} {hp2:HpL}
 (r:Rl 3 3 78 0 73 10 (qt6 k l) ([(3,0,.pv (iV rt)),(3,1,.ls 0 l.length),(4,0,.pv (iV x)),(4,1,.ls 1 m.length),(5,0,.ls 2 s.length),(6,0,.pv (iV tn)),(6,1,.pv (iV td)),(7,0,.pv (iV 0)),(7,1,.pv (.slice none 0 0)),(8,0,.pv (iV 0)),(8,1,.ls 9 (n+1)),(0,0,qac l),(1,0,qac m),(2,0,qag s),(9,0,.row 26 3 (n+1) (vs++[iV p.id,iV a2,iV p.b]))]) e tm2 hp2):Rl 3 3 78 0 73 10 (qsL k l) (qoO l m n rt s td tn vs x) e tm2 hp2:=
 RunsL.next [(9,12)] 300 [.t true,.r (ptV p),.t true,Re ha,.t false,Re hs]
  (Ro (Ai hlt (Ai hin (Ai (qaP hk) (Ai h1 (Ai ha (Ai h2 (Ai hn (Ai hs tI))))))))) r
theorem qrZ {rt x tn td:Int} {s l m:List Pt} {p:Pt} {k n:Nat} {vs:List Value} {b2:Int} (hlt:decide ((k:Int)<(m.length:Int))=true) (hk:m[k]?=some p) (hin:0≤(k:Int)∧(k:Int)<(m.length:Int)) (hn:n+1≤1000000) (h1:decide (p.a≥0)=false) (h2:decide (p.b≥0)=true) (hb:iV (IntKind.i64.wrap (p.b+(l.length:Int)))=iV (b2)) (hs:iV (IntKind.i64.wrap ((k:Int)+1))=iV (((k+1:Nat):Int))) {e:Exit} {tm2:TmL} {hp2:HpL}
 (r:Rl 3 3 78 0 73 10 (qt6 k l) ([(3,0,.pv (iV rt)),(3,1,.ls 0 l.length),(4,0,.pv (iV x)),(4,1,.ls 1 m.length),(5,0,.ls 2 s.length),(6,0,.pv (iV tn)),(6,1,.pv (iV td)),(7,0,.pv (iV 0)),(7,1,.pv (.slice none 0 0)),(8,0,.pv (iV 0)),(8,1,.ls 9 (n+1)),(0,0,qac l),(1,0,qac m),(2,0,qag s),(9,0,.row 26 3 (n+1) (vs++[iV p.id,iV p.a,iV b2]))]) e tm2 hp2):Rl 3 3 78 0 73 10 (qsL k l) (qoO l m n rt s td tn vs x) e tm2 hp2:=
 RunsL.next [(9,12)] 300 [.t true,.r (ptV p),.t false,.t true,Re hb,Re hs]
  (Ro (Ai hlt (Ai hin (Ai (qaP hk) (Ai h1 (Ai h2 (Ai hb (Ai hn (Ai hs tI))))))))) r
theorem qtU {rt x tn td:Int} {s l m:List Pt} {p:Pt} {k n:Nat} {vs:List Value} (hlt:decide ((k:Int)<(m.length:Int))=true) (hk:m[k]?=some p) (hin:0≤(k:Int)∧(k:Int)<(m.length:Int)) (hn:n+1≤1000000) (h1:decide (p.a≥0)=false) (h2:decide (p.b≥0)=false) (hs:iV (IntKind.i64.wrap ((k:Int)+1))=iV (((k+1:Nat):Int))) {e:Exit} {tm2:TmL} {hp2:HpL}
 (r:Rl 3 3 78 0 73 10 (qt6 k l) ([(3,0,.pv (iV rt)),(3,1,.ls 0 l.length),(4,0,.pv (iV x)),(4,1,.ls 1 m.length),(5,0,.ls 2 s.length),(6,0,.pv (iV tn)),(6,1,.pv (iV td)),(7,0,.pv (iV 0)),(7,1,.pv (.slice none 0 0)),(8,0,.pv (iV 0)),(8,1,.ls 9 (n+1)),(0,0,qac l),(1,0,qac m),(2,0,qag s),(9,0,.row 26 3 (n+1) (vs++[iV p.id,iV p.a,iV p.b]))]) e tm2 hp2):Rl 3 3 78 0 73 10 (qsL k l) (qoO l m n rt s td tn vs x) e tm2 hp2:=
 RunsL.next [(9,12)] 300 [.t true,.r (ptV p),.t false,.t false,Re hs]
  (Ro (Ai hlt (Ai hin (Ai (qaP hk) (Ai h1 (Ai h2 (Ai hn (Ai hs tI)))))))) r
theorem qqQ {rt x tn td:Int} {s l m:List Pt} {k n:Nat} {vs:List Value} (hlt:decide ((k:Int)<(m.length:Int))=false):Rl 3 3 78 0 73 10 (qsL k l) (qoO l m n rt s td tn vs x) (.exit 0) ([(4,.pp 3 0),(5,.pp 4 0),(6,.pp 5 0),(7,.pp 6 0),(8,.pp 7 0),(9,.pv (iV (l.length:Int))),(10,.pp 8 0)]) (qoO l m n rt s td tn vs x):=
 RunsL.stop [] 300 [.t false] (fun h=>by cases h)
  (Ro (Ai hlt tI))
abbrev qwg (l:List Pt) (m:List Pt) (n:Nat) (rt:Int) (s:List Pt) (td:Int) (tn:Int) (vs:List Value) (x:Int):Prop:=Rl 3 3 78 0 73 10 ([(4,.pp 3 0),(5,.pp 4 0),(6,.pp 5 0),(7,.pp 6 0),(8,.pp 7 0),(9,.pv (iV (l.length:Int))),(10,.pp 8 0),(11,.pv (iV ((0:Nat):Int)))]) ([(3,0,.pv (iV rt)),(3,1,.ls 0 l.length),(4,0,.pv (iV x)),(4,1,.ls 1 m.length),(5,0,.ls 2 s.length),(6,0,.pv (iV tn)),(6,1,.pv (iV td)),(7,0,.pv (iV 0)),(7,1,.pv (.slice none 0 0)),(8,0,.pv (iV 0)),(8,1,.ls 9 (0+l.length)),(0,0,qac l),(1,0,qac m),(2,0,qag s),(9,0,.row 26 3 (0+l.length) ([]++qam l))]) (.exit 0) ([(4,.pp 3 0),(5,.pp 4 0),(6,.pp 5 0),(7,.pp 6 0),(8,.pp 7 0),(9,.pv (iV (l.length:Int))),(10,.pp 8 0)]) (qoO l m n rt s td tn vs x)
theorem qsS {rt x z tn td:Int} {s l m n1:List Pt} {n:Nat} {vs:List Value} {x0:Int} (h0:0+l.length≤1000000) (r0:qwg l m n rt s td tn vs x) (h1:decide (x≥0)=true) (hs:iV (IntKind.i64.wrap (x+(l.length:Int)))=iV (x0)) (hj:FnO Try.prog 102 1 2 [.ag [.pv (iV 0),.ls 1 n],qaq 0 s,.pv (qaa tn td),.pv (iV (rt)),.pv (iV (x0))] [(0,0,qag s),(1,0,.row 26 3 n (vs))] (.pv (iV (z))) 0 [(1,0,.row 26 3 n (qam n1))]) :
 Fn 78 3 [trS 0 rt l,trS 1 x m,qaq 2 s,.pv (qaa tn td)] [(0,0,qac l),(1,0,qac m),(2,0,qag s)] (.ag [.pv (iV z),.ls 3 n]) 1 [(3,0,.row 26 3 n (qam n1))]:=
 Fz [(3,9)] [Lf r0,.t true,Re hs,.fo 1 [2,9] [.ag [.pv (iV 0),.ls 1 n],qaq 0 s,.pv (qaa tn td),.pv (iV (rt)),.pv (iV (x0))] [(0,0,qag s),(1,0,.row 26 3 n (vs))] (.pv (iV (z))) 0 [(1,0,.row 26 3 n (qam n1))]]
  (qak (qaA [(3,9)]) [(3,0,.row 26 3 n (qam n1))]) (Ai h0 (Lo r0 [] (Ai h1 (Ai hs (Ai hj (Ai (Eq.refl (List.map (SV.ren (qat [2,9] 10)) [.ag [.pv (iV 0),.ls 1 n],qaq 0 s,.pv (qaa tn td),.pv (iV (rt)),.pv (iV (x0))])) (Ai (qak (qat [2,9] 10) [(0,0,qag s),(1,0,.row 26 3 n (vs))]) tI)))))))
theorem qqF {rt x z tn td:Int} {s l m n1:List Pt} {n:Nat} {vs:List Value} (h0:0+l.length≤1000000) (r0:qwg l m n rt s td tn vs x) (h1:decide (x≥0)=false) (hj:FnO Try.prog 102 1 2 [.ag [.pv (iV 0),.ls 1 n],qaq 0 s,.pv (qaa tn td),.pv (iV (rt)),.pv (iV (x))] [(0,0,qag s),(1,0,.row 26 3 n (vs))] (.pv (iV (z))) 0 [(1,0,.row 26 3 n (qam n1))]) :
 Fn 78 3 [trS 0 rt l,trS 1 x m,qaq 2 s,.pv (qaa tn td)] [(0,0,qac l),(1,0,qac m),(2,0,qag s)] (.ag [.pv (iV z),.ls 3 n]) 1 [(3,0,.row 26 3 n (qam n1))]:=
 Fz [(3,9)] [Lf r0,.t false,.fo 1 [2,9] [.ag [.pv (iV 0),.ls 1 n],qaq 0 s,.pv (qaa tn td),.pv (iV (rt)),.pv (iV (x))] [(0,0,qag s),(1,0,.row 26 3 n (vs))] (.pv (iV (z))) 0 [(1,0,.row 26 3 n (qam n1))]]
  (qak (qaA [(3,9)]) [(3,0,.row 26 3 n (qam n1))]) (Ai h0 (Lo r0 [] (Ai h1 (Ai hj (Ai (Eq.refl (List.map (SV.ren (qat [2,9] 10)) [.ag [.pv (iV 0),.ls 1 n],qaq 0 s,.pv (qaa tn td),.pv (iV (rt)),.pv (iV (x))])) (Ai (qak (qat [2,9] 10) [(0,0,qag s),(1,0,.row 26 3 n (vs))]) tI))))))
end Go.Proofs.Ytalnjplghagbpaa

namespace Go.Proofs.Ytalnjplghagbpaa
set_option maxRecDepth 100000
open Go.RowKit
theorem qja {tn td e:Int} {s:List Pt} (ht:Fn 64 1 [qaq 0 s,.pv (qaa tn td)] [(0,0,qag s)] (.pv (iV (e))) 0 []) (hte:(e !=0)=true) :
 Fn 29 1 [qaq 0 s,.pv (qaa tn td)] [(0,0,qag s)] (.pv (.tuple #[.agg #[iV 0,.slice none 0 0],iV (e)])) 0 []:=
 Fz [] [Cf ht [0],.t true]
  tI (Co ht [0] 4 (Ai hte tI))
theorem qpB {tn td e:Int} {s n1:List Pt} {r1:Int} (ht:Fn 64 1 [qaq 0 s,.pv (qaa tn td)] [(0,0,qag s)] (.pv (iV (e))) 0 []) (hte:(e !=0)=false) (hm:Fn 65 1 [qaq 0 s,.pv (qaa tn td)] [(0,0,qag s)] (.ag [.pv (iV r1),.ls 1 n1.length]) 1 [(1,0,qac n1)]) :
 Fn 29 1 [qaq 0 s,.pv (qaa tn td)] [(0,0,qag s)] (.tu [.ag [.pv (iV r1),.ls 1 n1.length],.one (.pv (iV 0))]) 1 [(1,0,qac n1)]:=
 Fz [(1,4)] [Cf ht [0],.t false,Cf hm [0]]
  (qak (qaA [(1,4)]) [(1,0,qac n1)]) (Co ht [0] 4 (Ai hte (Co hm [0] 4 tI)))
abbrev qeU (e1:Int) (l:List Pt) (rt:Int):Prop:=Fn 34 1 [trS 0 rt l] [(0,0,qac l)] (.pv (iV (e1))) 0 []
theorem qvH {rt z e1:Int} {l:List Pt} (hc:qeU e1 l rt) (hce:(e1 !=0)=true) :
 Fn 32 1 [trS 0 rt l,.pv (iV (z))] [(0,0,qac l)] (.pv (.tuple #[iV (0),iV (e1)])) 0 []:=
 Fz [] [Cf hc [0],.t true]
  tI (Co hc [0] 2 (Ai hce tI))
theorem qtu {rt y z e1:Int} {l:List Pt} (hc:qeU e1 l rt) (hce:(e1 !=0)=false) (hat:Fn 68 1 [trS 0 rt l,.pv (iV (z))] [(0,0,qac l)] (.pv (iV (y))) 0 []) (hy:decide (y<0)=true) :
 Fn 32 1 [trS 0 rt l,.pv (iV (z))] [(0,0,qac l)] (.pv (.tuple #[iV (0),iV (6)])) 0 []:=
 Fz [] [Cf hc [0],.t false,Cf hat [0],.t true]
  tI (Co hc [0] 2 (Ai hce (Co hat [0] 2 (Ai hy tI))))
theorem qsi {rt y z v e1:Int} {l:List Pt} (hc:qeU e1 l rt) (hce:(e1 !=0)=false) (hat:Fn 68 1 [trS 0 rt l,.pv (iV (z))] [(0,0,qac l)] (.pv (iV (y))) 0 []) (hy:decide (y<0)=false) (hab:Fn 69 1 [trS 0 rt l,.pv (iV (z))] [(0,0,qac l)] (.pv (iV (v))) 0 []) :
 Fn 32 1 [trS 0 rt l,.pv (iV (z))] [(0,0,qac l)] (.pv (.tuple #[iV (v),iV (0)])) 0 []:=
 Fz [] [Cf hc [0],.t false,Cf hat [0],.t false,Cf hab [0]]
  tI (Co hc [0] 2 (Ai hce (Co hat [0] 2 (Ai hy (Co hab [0] 2 tI)))))
theorem quH {rt z e1:Int} {l:List Pt} (hc:qeU e1 l rt) (hce:(e1 !=0)=true) :
 Fn 36 1 [trS 0 rt l,.pv (iV (z))] [(0,0,qac l)] (.pv (.tuple #[.agg #[iV 0,.slice none 0 0],.agg #[iV 0,.slice none 0 0],iV (e1)])) 0 []:=
 Fz [] [Cf hc [0],.t true]
  tI (Co hc [0] 4 (Ai hce tI))
theorem qvA {rt z e1:Int} {l:List Pt} (hc:qeU e1 l rt) (hce:(e1 !=0)=false) (ho:Fn 39 1 [trS 0 rt l] [(0,0,qac l)] (.pv (.bool false)) 0 []) :
 Fn 36 1 [trS 0 rt l,.pv (iV (z))] [(0,0,qac l)] (.pv (.tuple #[.agg #[iV 0,.slice none 0 0],.agg #[iV 0,.slice none 0 0],iV (32)])) 0 []:=
 Fz [] [Cf hc [0],.t false,Cf ho [0],.k]
  tI (Co hc [0] 4 (Ai hce (Co ho [0] 4 tI)))
abbrev qoF (l:List Pt) (rt:Int):HpL:=[(1,0,.pv (iV rt)),(1,1,.ls 0 l.length),(2,0,.pv (iV 0)),(2,1,.pv (.slice none 0 0)),(3,0,.pv (iV 0)),(3,1,.pv (.slice none 0 0)),(0,0,qac l)]
abbrev qtH (k:Nat) (z:Int):TmL:=[(1,.pv (iV z)),(2,.pp 1 0),(4,.pp 2 0),(5,.pp 3 0),(8,.pv (iV (k:Int)))]
theorem qmf {rt z:Int} {l:List Pt} {p:Pt} {k:Nat} (hlt:decide ((k:Int)<(l.length:Int))=true) (hk:l[k]?=some p) (hin:0≤(k:Int)∧(k:Int)<(l.length:Int)) (hc:decide (p.id<z)=true) (hs:iV (IntKind.i64.wrap ((k:Int)+1))=iV (((k+1:Nat):Int))) {e:Exit} {tm2:TmL} {hp2:HpL}
 (r:Rl 1 1 36 0 47 4 ([(1,.pv (iV z)),(2,.pp 1 0),(4,.pp 2 0),(5,.pp 3 0),(8,.pv (iV ((k+1:Nat):Int)))]) (qoF l rt) e tm2 hp2):Rl 1 1 36 0 47 4 (qtH k z) (qoF l rt) e tm2 hp2:=
 RunsL.next [] 300 [.t true,.r (iV p.id),.t true,Re hs]
  (Ro (Ai hlt (Ai hin (Ai (qa1 hk) (Ai hc (Ai hs tI)))))) r
theorem qm3 {rt z:Int} {l:List Pt} {p:Pt} {k:Nat} (hlt:decide ((k:Int)<(l.length:Int))=true) (hk:l[k]?=some p) (hin:0≤(k:Int)∧(k:Int)<(l.length:Int)) (hc:decide (p.id<z)=false):Rl 1 1 36 0 47 4 (qtH k z) (qoF l rt) (.exit 0) (qtH k z) (qoF l rt):=
 RunsL.stop [] 300 [.t true,.r (iV p.id),.t false] (fun h=>by cases h)
  (Ro (Ai hlt (Ai hin (Ai (qa1 hk) (Ai hc tI)))))
theorem qpY {rt z:Int} {l:List Pt} {k:Nat} (hlt:decide ((k:Int)<(l.length:Int))=false):Rl 1 1 36 0 47 4 (qtH k z) (qoF l rt) (.exit 0) (qtH k z) (qoF l rt):=
 RunsL.stop [] 300 [.t false] (fun h=>by cases h)
  (Ro (Ai hlt tI))
abbrev qkb (l:List Pt) (rt:Int):Prop:=Fn 39 1 [trS 0 rt l] [(0,0,qac l)] (.pv (.bool true)) 0 []
theorem qrA {rt z e1:Int} {l n1 n2:List Pt} {n:Nat} {r1 r2:Int} (hc:qeU e1 l rt) (hce:(e1 !=0)=false) (ho:qkb l rt) (r0:Rl 1 1 36 0 47 4 ([(1,.pv (iV z)),(2,.pp 1 0),(4,.pp 2 0),(5,.pp 3 0),(8,.pv (iV ((0:Nat):Int)))]) (qoF l rt) (.exit 0) ([(1,.pv (iV z)),(2,.pp 1 0),(4,.pp 2 0),(5,.pp 3 0),(8,.pv (iV (n:Int)))]) (qoF l rt)) (hp1:Fn 74 1 [trS 0 rt l,.pv (iV (0)),.pv (iV (n:Int))] [(0,0,qac l)] (.ag [.pv (iV r1),.ls 1 n1.length]) 1 [(1,0,qac n1)]) (hp2:Fn 74 1 [trS 0 rt l,.pv (iV (n:Int)),.pv (iV (l.length:Int))] [(0,0,qac l)] (.ag [.pv (iV r2),.ls 1 n2.length]) 1 [(1,0,qac n2)]) :
 Fn 36 1 [trS 0 rt l,.pv (iV (z))] [(0,0,qac l)] (.tu [.ag [.pv (iV r1),.ls 1 n1.length],.ag [.pv (iV r2),.ls 2 n2.length],.one (.pv (iV 0))]) 2 [(1,0,qac n1),(2,0,qac n2)]:=
 Fz [(1,4),(2,5)] [Cf hc [0],.t false,Cf ho [0],.k,Lf r0,.md,Cf hp1 [0],Cf hp2 [0]]
  (qak (qaA [(1,4),(2,5)]) [(1,0,qac n1),(2,0,qac n2)]) (Co hc [0] 4 (Ai hce (Co ho [0] 4 (Lo r0 [] (Co hp1 [0] 4 (Co hp2 [0] 5 tI))))))
abbrev qhQ (l:List Pt) (m:List Pt) (s:List Pt):HpL:=[(0,0,qac l),(1,0,qac m),(2,0,qag s)]
theorem qtm {rt x tn td e1:Int} {s l m:List Pt} (hc:qeU e1 l rt) (hce:(e1 !=0)=true) :
 Fn 37 3 [trS 0 rt l,trS 1 x m,qaq 2 s,.pv (qaa tn td)] (qhQ l m s) (.pv (.tuple #[.agg #[iV 0,.slice none 0 0],iV (e1)])) 0 []:=
 Fz [] [Cf hc [0],.t true]
  tI (Co hc [0] 8 (Ai hce tI))
abbrev qi4 (e2:Int) (m:List Pt) (x:Int):Prop:=Fn 34 1 [trS 0 x m] [(0,0,qac m)] (.pv (iV (e2))) 0 []
theorem qrF {rt x tn td e1:Int} {s l m:List Pt} {e2:Int} (hc:qeU e1 l rt) (hce:(e1 !=0)=false) (hc2:qi4 e2 m x) (hce2:(e2 !=0)=true) :
 Fn 37 3 [trS 0 rt l,trS 1 x m,qaq 2 s,.pv (qaa tn td)] (qhQ l m s) (.pv (.tuple #[.agg #[iV 0,.slice none 0 0],iV (e2)])) 0 []:=
 Fz [] [Cf hc [0],.t false,Cf hc2 [1],.t true]
  tI (Co hc [0] 8 (Ai hce (Co hc2 [1] 8 (Ai hce2 tI))))
theorem qtF {rt x tn td e1:Int} {s l m:List Pt} {e2:Int} (hc:qeU e1 l rt) (hce:(e1 !=0)=false) (hc2:qi4 e2 m x) (hce2:(e2 !=0)=false) (ho1:Fn 39 1 [trS 0 rt l] [(0,0,qac l)] (.pv (.bool false)) 0 []) :
 Fn 37 3 [trS 0 rt l,trS 1 x m,qaq 2 s,.pv (qaa tn td)] (qhQ l m s) (.pv (.tuple #[.agg #[iV 0,.slice none 0 0],iV (32)])) 0 []:=
 Fz [] [Cf hc [0],.t false,Cf hc2 [1],.t false,Cf ho1 [0],.k]
  tI (Co hc [0] 8 (Ai hce (Co hc2 [1] 8 (Ai hce2 (Co ho1 [0] 8 tI)))))
theorem qtp {rt x tn td e1:Int} {s l m:List Pt} {e2:Int} (hc:qeU e1 l rt) (hce:(e1 !=0)=false) (hc2:qi4 e2 m x) (hce2:(e2 !=0)=false) (ho1:qkb l rt) (ho2:Fn 39 1 [trS 0 x m] [(0,0,qac m)] (.pv (.bool false)) 0 []) :
 Fn 37 3 [trS 0 rt l,trS 1 x m,qaq 2 s,.pv (qaa tn td)] (qhQ l m s) (.pv (.tuple #[.agg #[iV 0,.slice none 0 0],iV (32)])) 0 []:=
 Fz [] [Cf hc [0],.t false,Cf hc2 [1],.t false,Cf ho1 [0],.k,Cf ho2 [1],.k]
  tI (Co hc [0] 8 (Ai hce (Co hc2 [1] 8 (Ai hce2 (Co ho1 [0] 8 (Co ho2 [1] 8 tI))))))
abbrev qlN (e3:Int) (s:List Pt):Prop:=Fn 75 1 [qaq 0 s] [(0,0,qag s)] (.pv (iV (e3))) 0 []
abbrev qm2 (m:List Pt) (x:Int):Prop:=Fn 39 1 [trS 0 x m] [(0,0,qac m)] (.pv (.bool true)) 0 []
theorem qvX {rt x tn td e1:Int} {s l m:List Pt} {e2 e3:Int} (hc:qeU e1 l rt) (hce:(e1 !=0)=false) (hc2:qi4 e2 m x) (hce2:(e2 !=0)=false) (ho1:qkb l rt) (ho2:qm2 m x) (hf:qlN e3 s) (hfe:(e3 !=0)=true) :
 Fn 37 3 [trS 0 rt l,trS 1 x m,qaq 2 s,.pv (qaa tn td)] (qhQ l m s) (.pv (.tuple #[.agg #[iV 0,.slice none 0 0],iV (e3)])) 0 []:=
 Fz [] [Cf hc [0],.t false,Cf hc2 [1],.t false,Cf ho1 [0],.k,Cf ho2 [1],.k,Cf hf [2],.t true]
  tI (Co hc [0] 8 (Ai hce (Co hc2 [1] 8 (Ai hce2 (Co ho1 [0] 8 (Co ho2 [1] 8 (Co hf [2] 8 (Ai hfe tI))))))))
abbrev qfq (e4:Int) (td:Int) (tn:Int):Prop:=Pure Try.prog 76 #[qaa tn td] (iV (e4))
theorem qvJ {rt x tn td e1:Int} {s l m:List Pt} {e2 e3 e4:Int} (hc:qeU e1 l rt) (hce:(e1 !=0)=false) (hc2:qi4 e2 m x) (hce2:(e2 !=0)=false) (ho1:qkb l rt) (ho2:qm2 m x) (hf:qlN e3 s) (hfe:(e3 !=0)=false) (hr:qfq e4 td tn) (hre:(e4 !=0)=true) :
 Fn 37 3 [trS 0 rt l,trS 1 x m,qaq 2 s,.pv (qaa tn td)] (qhQ l m s) (.pv (.tuple #[.agg #[iV 0,.slice none 0 0],iV (8)])) 0 []:=
 Fz [] [Cf hc [0],.t false,Cf hc2 [1],.t false,Cf ho1 [0],.k,Cf ho2 [1],.k,Cf hf [2],.t false,Rf hr,.t true]
  tI (Co hc [0] 8 (Ai hce (Co hc2 [1] 8 (Ai hce2 (Co ho1 [0] 8 (Co ho2 [1] 8 (Co hf [2] 8 (Ai hfe (Ai hr (Ai hre tI))))))))))
theorem qme {rt x tn td e1:Int} {s l m:List Pt} {z1:Int} {e2 e3 e4:Int} (hc:qeU e1 l rt) (hce:(e1 !=0)=false) (hc2:qi4 e2 m x) (hce2:(e2 !=0)=false) (ho1:qkb l rt) (ho2:qm2 m x) (hf:qlN e3 s) (hfe:(e3 !=0)=false) (hr:qfq e4 td tn) (hre:(e4 !=0)=false) (hs:iV (IntKind.i64.wrap ((l.length:Int)+(m.length:Int)))=iV (z1)) (hm:decide (z1>64)=true) :
 Fn 37 3 [trS 0 rt l,trS 1 x m,qaq 2 s,.pv (qaa tn td)] (qhQ l m s) (.pv (.tuple #[.agg #[iV 0,.slice none 0 0],iV (4)])) 0 []:=
 Fz [] [Cf hc [0],.t false,Cf hc2 [1],.t false,Cf ho1 [0],.k,Cf ho2 [1],.k,Cf hf [2],.t false,Rf hr,.t false,Re hs,.t true]
  tI (Co hc [0] 8 (Ai hce (Co hc2 [1] 8 (Ai hce2 (Co ho1 [0] 8 (Co ho2 [1] 8 (Co hf [2] 8 (Ai hfe (Ai hr (Ai hre (Ai hs (Ai hm tI))))))))))))
theorem qtg {rt x tn td e1:Int} {s l m:List Pt} {z1:Int} {e2 e3 e4:Int} (hc:qeU e1 l rt) (hce:(e1 !=0)=false) (hc2:qi4 e2 m x) (hce2:(e2 !=0)=false) (ho1:qkb l rt) (ho2:qm2 m x) (hf:qlN e3 s) (hfe:(e3 !=0)=false) (hr:qfq e4 td tn) (hre:(e4 !=0)=false) (hs:iV (IntKind.i64.wrap ((l.length:Int)+(m.length:Int)))=iV (z1)) (hm:decide (z1>64)=false) (hk1:Fn 77 2 [qaq 0 s,trS 1 rt l] [(0,0,qag s),(1,0,qac l)] (.pv (.bool false)) 0 []) :
 Fn 37 3 [trS 0 rt l,trS 1 x m,qaq 2 s,.pv (qaa tn td)] (qhQ l m s) (.pv (.tuple #[.agg #[iV 0,.slice none 0 0],iV (6)])) 0 []:=
 Fz [] [Cf hc [0],.t false,Cf hc2 [1],.t false,Cf ho1 [0],.k,Cf ho2 [1],.k,Cf hf [2],.t false,Rf hr,.t false,Re hs,.t false,Cf hk1 [2,0],.k]
  tI (Co hc [0] 8 (Ai hce (Co hc2 [1] 8 (Ai hce2 (Co ho1 [0] 8 (Co ho2 [1] 8 (Co hf [2] 8 (Ai hfe (Ai hr (Ai hre (Ai hs (Ai hm (Co hk1 [2,0] 8 tI)))))))))))))
abbrev qtD (l:List Pt) (rt:Int) (s:List Pt):Prop:=Fn 77 2 [qaq 0 s,trS 1 rt l] [(0,0,qag s),(1,0,qac l)] (.pv (.bool true)) 0 []
theorem qs9 {rt x tn td e1:Int} {s l m:List Pt} {z1:Int} {e2 e3 e4:Int} (hc:qeU e1 l rt) (hce:(e1 !=0)=false) (hc2:qi4 e2 m x) (hce2:(e2 !=0)=false) (ho1:qkb l rt) (ho2:qm2 m x) (hf:qlN e3 s) (hfe:(e3 !=0)=false) (hr:qfq e4 td tn) (hre:(e4 !=0)=false) (hs:iV (IntKind.i64.wrap ((l.length:Int)+(m.length:Int)))=iV (z1)) (hm:decide (z1>64)=false) (hk1:qtD l rt s) (hk2:Fn 77 2 [qaq 0 s,trS 1 x m] [(0,0,qag s),(1,0,qac m)] (.pv (.bool false)) 0 []) :
 Fn 37 3 [trS 0 rt l,trS 1 x m,qaq 2 s,.pv (qaa tn td)] (qhQ l m s) (.pv (.tuple #[.agg #[iV 0,.slice none 0 0],iV (6)])) 0 []:=
 Fz [] [Cf hc [0],.t false,Cf hc2 [1],.t false,Cf ho1 [0],.k,Cf ho2 [1],.k,Cf hf [2],.t false,Rf hr,.t false,Re hs,.t false,Cf hk1 [2,0],.k,Cf hk2 [2,1],.k]
  tI (Co hc [0] 8 (Ai hce (Co hc2 [1] 8 (Ai hce2 (Co ho1 [0] 8 (Co ho2 [1] 8 (Co hf [2] 8 (Ai hfe (Ai hr (Ai hre (Ai hs (Ai hm (Co hk1 [2,0] 8 (Co hk2 [2,1] 8 tI))))))))))))))
abbrev qn0 (m:List Pt) (s:List Pt) (x:Int):Prop:=Fn 77 2 [qaq 0 s,trS 1 x m] [(0,0,qag s),(1,0,qac m)] (.pv (.bool true)) 0 []
theorem qmb {rt x tn td e1:Int} {s l m:List Pt} {p q:Pt} {j:Nat} {z1:Int} {e2 e3 e4:Int} (hc:qeU e1 l rt) (hce:(e1 !=0)=false) (hc2:qi4 e2 m x) (hce2:(e2 !=0)=false) (ho1:qkb l rt) (ho2:qm2 m x) (hf:qlN e3 s) (hfe:(e3 !=0)=false) (hr:qfq e4 td tn) (hre:(e4 !=0)=false) (hs:iV (IntKind.i64.wrap ((l.length:Int)+(m.length:Int)))=iV (z1)) (hm:decide (z1>64)=false) (hk1:qtD l rt s) (hk2:qn0 m s x) (hl0:decide ((l.length:Int)>0)=true) (hm0:decide ((m.length:Int)>0)=true) (hj1:iV (IntKind.i64.wrap ((l.length:Int)-1))=iV (j:Int)) (hji:0≤(j:Int)∧(j:Int)<(l.length:Int)) (hp:l[j]?=some p) (hmi:0≤(0:Int)∧(0:Int)<(m.length:Int)) (hq:m[0]?=some q) (hc3:decide (p.id≥q.id)=true) :
 Fn 37 3 [trS 0 rt l,trS 1 x m,qaq 2 s,.pv (qaa tn td)] (qhQ l m s) (.pv (.tuple #[.agg #[iV 0,.slice none 0 0],iV (32)])) 0 []:=
 Fz [] [Cf hc [0],.t false,Cf hc2 [1],.t false,Cf ho1 [0],.k,Cf ho2 [1],.k,Cf hf [2],.t false,Rf hr,.t false,Re hs,.t false,Cf hk1 [2,0],.k,Cf hk2 [2,1],.k,.t true,.t true,Re hj1,.r (iV p.id),.r (iV q.id),.t true]
  tI (Co hc [0] 8 (Ai hce (Co hc2 [1] 8 (Ai hce2 (Co ho1 [0] 8 (Co ho2 [1] 8 (Co hf [2] 8 (Ai hfe (Ai hr (Ai hre (Ai hs (Ai hm (Co hk1 [2,0] 8 (Co hk2 [2,1] 8 (Ai hl0 (Ai hm0 (Ai hj1 (Ai hji (Ai (qa1 hp) (Ai hmi (Ai (qa1 hq) (Ai hc3 tI))))))))))))))))))))))
abbrev qoY (l:List Pt) (m:List Pt) (n1:List Pt) (r1:Int) (rt:Int) (s:List Pt) (td:Int) (tn:Int) (x:Int):Prop:=Fn 78 3 [trS 0 rt l,trS 1 x m,qaq 2 s,.pv (qaa tn td)] (qhQ l m s) (.ag [.pv (iV r1),.ls 3 n1.length]) 1 [(3,0,qac n1)]
theorem qqg {rt x tn td e1:Int} {s l m n1:List Pt} {r1 z1:Int} {e2 e3 e4:Int} (hc:qeU e1 l rt) (hce:(e1 !=0)=false) (hc2:qi4 e2 m x) (hce2:(e2 !=0)=false) (ho1:qkb l rt) (ho2:qm2 m x) (hf:qlN e3 s) (hfe:(e3 !=0)=false) (hr:qfq e4 td tn) (hre:(e4 !=0)=false) (hs:iV (IntKind.i64.wrap ((l.length:Int)+(m.length:Int)))=iV (z1)) (hm:decide (z1>64)=false) (hk1:qtD l rt s) (hk2:qn0 m s x) (hl0:decide ((l.length:Int)>0)=false) (hj:qoY l m n1 r1 rt s td tn x) :
 Fn 37 3 [trS 0 rt l,trS 1 x m,qaq 2 s,.pv (qaa tn td)] (qhQ l m s) (.tu [.ag [.pv (iV r1),.ls 3 n1.length],.one (.pv (iV 0))]) 1 [(3,0,qac n1)]:=
 Fz [(3,8)] [Cf hc [0],.t false,Cf hc2 [1],.t false,Cf ho1 [0],.k,Cf ho2 [1],.k,Cf hf [2],.t false,Rf hr,.t false,Re hs,.t false,Cf hk1 [2,0],.k,Cf hk2 [2,1],.k,.t false,Cf hj [0,1,2]]
  (qak (qaA [(3,8)]) [(3,0,qac n1)]) (Co hc [0] 8 (Ai hce (Co hc2 [1] 8 (Ai hce2 (Co ho1 [0] 8 (Co ho2 [1] 8 (Co hf [2] 8 (Ai hfe (Ai hr (Ai hre (Ai hs (Ai hm (Co hk1 [2,0] 8 (Co hk2 [2,1] 8 (Ai hl0 (Co hj [0,1,2] 8 tI))))))))))))))))
theorem qqk {rt x tn td e1:Int} {s l m n1:List Pt} {r1 z1:Int} {e2 e3 e4:Int} (hc:qeU e1 l rt) (hce:(e1 !=0)=false) (hc2:qi4 e2 m x) (hce2:(e2 !=0)=false) (ho1:qkb l rt) (ho2:qm2 m x) (hf:qlN e3 s) (hfe:(e3 !=0)=false) (hr:qfq e4 td tn) (hre:(e4 !=0)=false) (hs:iV (IntKind.i64.wrap ((l.length:Int)+(m.length:Int)))=iV (z1)) (hm:decide (z1>64)=false) (hk1:qtD l rt s) (hk2:qn0 m s x) (hl0:decide ((l.length:Int)>0)=true) (hm0:decide ((m.length:Int)>0)=false) (hj:qoY l m n1 r1 rt s td tn x) :
 Fn 37 3 [trS 0 rt l,trS 1 x m,qaq 2 s,.pv (qaa tn td)] (qhQ l m s) (.tu [.ag [.pv (iV r1),.ls 3 n1.length],.one (.pv (iV 0))]) 1 [(3,0,qac n1)]:=
 Fz [(3,8)] [Cf hc [0],.t false,Cf hc2 [1],.t false,Cf ho1 [0],.k,Cf ho2 [1],.k,Cf hf [2],.t false,Rf hr,.t false,Re hs,.t false,Cf hk1 [2,0],.k,Cf hk2 [2,1],.k,.t true,.t false,Cf hj [0,1,2]]
  (qak (qaA [(3,8)]) [(3,0,qac n1)]) (Co hc [0] 8 (Ai hce (Co hc2 [1] 8 (Ai hce2 (Co ho1 [0] 8 (Co ho2 [1] 8 (Co hf [2] 8 (Ai hfe (Ai hr (Ai hre (Ai hs (Ai hm (Co hk1 [2,0] 8 (Co hk2 [2,1] 8 (Ai hl0 (Ai hm0 (Co hj [0,1,2] 8 tI)))))))))))))))))
theorem qpZ {rt x tn td e1:Int} {s l m n1:List Pt} {p q:Pt} {j:Nat} {r1 z1:Int} {e2 e3 e4:Int} (hc:qeU e1 l rt) (hce:(e1 !=0)=false) (hc2:qi4 e2 m x) (hce2:(e2 !=0)=false) (ho1:qkb l rt) (ho2:qm2 m x) (hf:qlN e3 s) (hfe:(e3 !=0)=false) (hr:qfq e4 td tn) (hre:(e4 !=0)=false) (hs:iV (IntKind.i64.wrap ((l.length:Int)+(m.length:Int)))=iV (z1)) (hm:decide (z1>64)=false) (hk1:qtD l rt s) (hk2:qn0 m s x) (hl0:decide ((l.length:Int)>0)=true) (hm0:decide ((m.length:Int)>0)=true) (hj1:iV (IntKind.i64.wrap ((l.length:Int)-1))=iV (j:Int)) (hji:0≤(j:Int)∧(j:Int)<(l.length:Int)) (hp:l[j]?=some p) (hmi:0≤(0:Int)∧(0:Int)<(m.length:Int)) (hq:m[0]?=some q) (hc3:decide (p.id≥q.id)=false) (hj:qoY l m n1 r1 rt s td tn x) :
 Fn 37 3 [trS 0 rt l,trS 1 x m,qaq 2 s,.pv (qaa tn td)] (qhQ l m s) (.tu [.ag [.pv (iV r1),.ls 3 n1.length],.one (.pv (iV 0))]) 1 [(3,0,qac n1)]:=
 Fz [(3,8)] [Cf hc [0],.t false,Cf hc2 [1],.t false,Cf ho1 [0],.k,Cf ho2 [1],.k,Cf hf [2],.t false,Rf hr,.t false,Re hs,.t false,Cf hk1 [2,0],.k,Cf hk2 [2,1],.k,.t true,.t true,Re hj1,.r (iV p.id),.r (iV q.id),.t false,Cf hj [0,1,2]]
  (qak (qaA [(3,8)]) [(3,0,qac n1)]) (Co hc [0] 8 (Ai hce (Co hc2 [1] 8 (Ai hce2 (Co ho1 [0] 8 (Co ho2 [1] 8 (Co hf [2] 8 (Ai hfe (Ai hr (Ai hre (Ai hs (Ai hm (Co hk1 [2,0] 8 (Co hk2 [2,1] 8 (Ai hl0 (Ai hm0 (Ai hj1 (Ai hji (Ai (qa1 hp) (Ai hmi (Ai (qa1 hq) (Ai hc3 (Co hj [0,1,2] 8 tI)))))))))))))))))))))))
end Go.Proofs.Ytalnjplghagbpaa
