/-
  Joined: Kg, Kf, Ki. Conditions: none.
-/
import Derived.Test.YtkjaanhddkkodaaGreatW24
import Derived.Test.YtkjaanhddkkodaaGreatW18
import Derived.Test.YtkjaanhddkkodaaGreatW25
namespace Go.Proofs.YtkjaanhddkkodaaGreat
set_option maxRecDepth 100000
open Go.RowKit
theorem qx3 (l:List Pt) (p:Pt):SV.ls 5 (0+l.length+1)=(SV.ls 3 (l++[p]).length).ren (qaK [(3,5)]):=by rw[Nat.zero_add,List.length_append];rfl
theorem qpD (l:List Pt) (p:Pt):some (SV.row 94 3 (0+l.length+1) ([]++qbd l++[iV p.id,iV p.a,iV p.b]))=some (qal (l++[p])):=by rw[Nat.zero_add,List.nil_append];exact (congrArg some (by rw[qj8,qal,List.length_append];rfl))
theorem qkg (b:Nat) (l:List Pt) (k:Nat) (h:k+1≤l.length):SV.ls b (0+k+(l.length-(k+1)))=(SV.ls 2 (l.take k++l.drop (k+1)).length).ren (qaK [(2,b)]):=by rw[qgw l k h];rfl
theorem qjq (l:List Pt) (k:Nat) (h:k+1≤l.length):some (SV.row 94 3 (0+k+(l.length-(k+1))) ([]++((qbd l).drop (0*3)).take (k*3)++((qbd l).drop ((0+(k+1))*3)).take ((l.length-(k+1))*3)))=some (qal (l.take k++l.drop (k+1))):=by
 have h1:=qji l k
 have h2:=qjb l (k+1)
 rw[Nat.zero_add] at h1
 rw[h1,h2,qal,qgw l k h,qbU,List.nil_append]
theorem qxY {a pa pb n:Int} (n1:(!(a==a))=false) (n2:(!(n==n))=false) (h1:decide (a<n)=true) :
 Pure Tryz.prog 206 #[qac a pa pb,iV n] (iV (-1)):=
 qad (args:=[qac a pa pb,iV n]) 300 [.k,.k,.t false,.k,.t false,.t true]
  (Ai rfl (Ai n1 (Ai n2 (Ai h1 tI)))) (by kernel_rfl)
theorem qAF {a pa pb n:Int} (n1:(!(a==a))=false) (n2:(!(n==n))=false) (h1:decide (a<n)=false) (h2:decide (a>n)=true) :
 Pure Tryz.prog 206 #[qac a pa pb,iV n] (iV (1)):=
 qad (args:=[qac a pa pb,iV n]) 300 [.k,.k,.t false,.k,.t false,.t false,.t true]
  (Ai rfl (Ai n1 (Ai n2 (Ai h1 (Ai h2 tI))))) (by kernel_rfl)
theorem qze {a pa pb n:Int} (n1:(!(a==a))=false) (n2:(!(n==n))=false) (h1:decide (a<n)=false) (h2:decide (a>n)=false) :
 Pure Tryz.prog 206 #[qac a pa pb,iV n] (iV (0)):=
 qad (args:=[qac a pa pb,iV n]) 300 [.k,.k,.t false,.k,.t false,.t false,.t false]
  (Ai rfl (Ai n1 (Ai n2 (Ai h1 (Ai h2 tI))))) (by kernel_rfl)
abbrev qBy (i:Nat) (j:Nat) (l:List Pt) (n:Int):TmL:=[(0,.ls 0 l.length),(1,.pv (iV n)),(2,.pv (.func (.func 206) #[] #[])),(8,.pv (iV (l.length:Int))),(9,.pv (iV (i:Int))),(10,.pv (iV (j:Int)))]
abbrev qBx (c:Int) (n:Int) (p:Pt):Prop:=Pure Tryz.prog 206 #[qac p.id p.a p.b,iV n] (iV (c))
theorem qxB {l:List Pt} {i j h:Nat} {p:Pt} {c n:Int} (hk:l[h]?=some p) (hin:0≤(h:Int)∧(h:Int)<(l.length:Int)) (hlt:decide ((i:Int)<(j:Int))=true) (ha:iV (IntKind.i64.wrap ((i:Int)+(j:Int)))=iV ((i:Int)+(j:Int))) (hu:Value.int .u64 (IntKind.u64.wrap ((i:Int)+(j:Int)))=.int .u64 ((i:Int)+(j:Int))) (h1:¬ (1:Int)<0) (hs:Value.int .u64 (((i:Int)+(j:Int)).fdiv (2 ^ (min (1:Int).toNat IntKind.u64.bits)))=.int .u64 (h:Int)) (hb:iV (IntKind.i64.wrap (h:Int))=iV (h:Int)) (hc:qBx c n p) (hz:decide (c<0)=true) (hh:iV (IntKind.i64.wrap ((h:Int)+1))=iV (((h+1:Nat):Int))) {e:Exit} {tm2:TmL} {hp2:HpL}
 (r:Rl 1 1 205 0 49 1 ([(0,.ls 0 l.length),(1,.pv (iV n)),(2,.pv (.func (.func 206) #[] #[])),(8,.pv (iV (l.length:Int))),(9,.pv (iV ((h+1:Nat):Int))),(10,.pv (iV (j:Int)))]) ([(0,0,qal l)]) e tm2 hp2):Rl 1 1 205 0 49 1 (qBy i j l n) ([(0,0,qal l)]) e tm2 hp2:=
 RunsL.next [] 300 [.t true,Re ha,Re hu,.r (.int .u64 (h:Int)),Re hb,.r (ptV p),Rf hc,.t true,Re hh]
  (Ro (Ai hlt (Ai ha (Ai hu (Ai h1 (Ai hs (Ai hb (Ai hin (Ai (qaN hk) (Ai hc (Ai hz (Ai hh tI)))))))))))) r
theorem qAD {l:List Pt} {i j h:Nat} {p:Pt} {c n:Int} (hk:l[h]?=some p) (hin:0≤(h:Int)∧(h:Int)<(l.length:Int)) (hlt:decide ((i:Int)<(j:Int))=true) (ha:iV (IntKind.i64.wrap ((i:Int)+(j:Int)))=iV ((i:Int)+(j:Int))) (hu:Value.int .u64 (IntKind.u64.wrap ((i:Int)+(j:Int)))=.int .u64 ((i:Int)+(j:Int))) (h1:¬ (1:Int)<0) (hs:Value.int .u64 (((i:Int)+(j:Int)).fdiv (2 ^ (min (1:Int).toNat IntKind.u64.bits)))=.int .u64 (h:Int)) (hb:iV (IntKind.i64.wrap (h:Int))=iV (h:Int)) (hc:qBx c n p) (hz:decide (c<0)=false) {e:Exit} {tm2:TmL} {hp2:HpL}
 (r:Rl 1 1 205 0 49 1 ([(0,.ls 0 l.length),(1,.pv (iV n)),(2,.pv (.func (.func 206) #[] #[])),(8,.pv (iV (l.length:Int))),(9,.pv (iV (i:Int))),(10,.pv (iV (h:Int)))]) ([(0,0,qal l)]) e tm2 hp2):Rl 1 1 205 0 49 1 (qBy i j l n) ([(0,0,qal l)]) e tm2 hp2:=
 RunsL.next [] 300 [.t true,Re ha,Re hu,.r (.int .u64 (h:Int)),Re hb,.r (ptV p),Rf hc,.t false]
  (Ro (Ai hlt (Ai ha (Ai hu (Ai h1 (Ai hs (Ai hb (Ai hin (Ai (qaN hk) (Ai hc (Ai hz tI))))))))))) r
theorem qom {l:List Pt} {i j:Nat} {n:Int} (hge:decide ((i:Int)<(j:Int))=false):Rl 1 1 205 0 49 1 (qBy i j l n) ([(0,0,qal l)]) (.exit 0) (qBy i j l n) ([(0,0,qal l)]):=
 RunsL.stop [] 300 [.t false] (fun h=>by cases h)
  (Ro (Ai hge tI))
abbrev qCf (k:Nat) (l:List Pt) (n:Int):Prop:=Rl 1 1 205 0 49 1 ([(0,.ls 0 l.length),(1,.pv (iV n)),(2,.pv (.func (.func 206) #[] #[])),(8,.pv (iV (l.length:Int))),(9,.pv (iV ((0:Nat):Int))),(10,.pv (iV (l.length:Int)))]) ([(0,0,qal l)]) (.exit 0) ([(0,.ls 0 l.length),(1,.pv (iV n)),(2,.pv (.func (.func 206) #[] #[])),(8,.pv (iV (l.length:Int))),(9,.pv (iV (k:Int))),(10,.pv (iV (k:Int)))]) ([(0,0,qal l)])
theorem qpL {l:List Pt} {k:Nat} {n:Int} (r0:qCf k l n) (hge:decide ((k:Int)<(l.length:Int))=false) :
 Fn 205 1 [.ls 0 l.length,.pv (iV (n)),.pv (.func (.func 206) #[] #[])] [(0,0,qal l)] (.pv (.tuple #[iV (k:Int),.bool false])) 0 []:=
 Fz [] [Lf r0,.t false]
  tI (Lo r0 [] (Ai hge tI))
theorem qpp {l:List Pt} {k:Nat} {p:Pt} {c:Int} {n:Int} (r0:qCf k l n) (hk:l[k]?=some p) (hin:0≤(k:Int)∧(k:Int)<(l.length:Int)) (hlt:decide ((k:Int)<(l.length:Int))=true) (hc:qBx c n p) (hz:(c==0)=true) :
 Fn 205 1 [.ls 0 l.length,.pv (iV (n)),.pv (.func (.func 206) #[] #[])] [(0,0,qal l)] (.pv (.tuple #[iV (k:Int),.bool true])) 0 []:=
 Fz [] [Lf r0,.t true,.r (ptV p),Rf hc,.t true]
  tI (Lo r0 [] (Ai hlt (Ai hin (Ai (qaN hk) (Ai hc (Ai hz tI))))))
theorem qwt {l:List Pt} {k:Nat} {p:Pt} {c:Int} {n:Int} (r0:qCf k l n) (hk:l[k]?=some p) (hin:0≤(k:Int)∧(k:Int)<(l.length:Int)) (hlt:decide ((k:Int)<(l.length:Int))=true) (hc:qBx c n p) (hz:(c==0)=false) :
 Fn 205 1 [.ls 0 l.length,.pv (iV (n)),.pv (.func (.func 206) #[] #[])] [(0,0,qal l)] (.pv (.tuple #[iV (k:Int),.bool false])) 0 []:=
 Fz [] [Lf r0,.t true,.r (ptV p),Rf hc,.t false]
  tI (Lo r0 [] (Ai hlt (Ai hin (Ai (qaN hk) (Ai hc (Ai hz tI))))))
theorem qeh {l:List Pt} {k:Nat} {b:Bool} {x n:Int} (hb:Fn 205 1 [.ls 0 l.length,.pv (iV (n)),.pv (.func (.func 206) #[] #[])] [(0,0,qal l)] (.pv (.tuple #[iV (k:Int),.bool b])) 0 []) :
 Fn 165 1 [qaP 0 x l,.pv (iV (n))] [(0,0,qal l)] (.pv (.tuple #[iV (k:Int),.bool b])) 0 []:=
 Fz [] [Cf hb [0]]
  tI (Co hb [0] 2 tI)
abbrev qy2 (l:List Pt) (x:Int):Prop:=Fn 88 1 [qaP 0 x l] [(0,0,qal l)] (.pv (iV (0))) 0 []
theorem qAS {l:List Pt} {k:Nat} {x n:Int} (hc:qy2 l x) (hf:Fn 165 1 [qaP 0 x l,.pv (iV (n))] [(0,0,qal l)] (.pv (.tuple #[iV (k:Int),.bool false])) 0 []) :
 Fn 164 1 [qaP 0 x l,.pv (iV (n))] [(0,0,qal l)] (.pv (.tuple #[qaf 0 0,iV 6])) 0 []:=
 Fz [] [Cf hc [0],.k,Cf hf [0],.k]
  tI (Co hc [0] 3 (Co hf [0] 3 tI))
theorem qvd {l:List Pt} {k:Nat} {p:Pt} {x n:Int} (hk:l[k]?=some p) (hin:0≤(k:Int)∧(k:Int)<(l.length:Int)) (hc:qy2 l x) (hf:Fn 165 1 [qaP 0 x l,.pv (iV (n))] [(0,0,qal l)] (.pv (.tuple #[iV (k:Int),.bool true])) 0 []) :
 Fn 164 1 [qaP 0 x l,.pv (iV (n))] [(0,0,qal l)] (.pv (.tuple #[qaf p.a p.b,iV 0])) 0 []:=
 Fz [] [Cf hc [0],.k,Cf hf [0],.k,.r (qaf p.a p.b)]
  tI (Co hc [0] 3 (Co hf [0] 3 (Ai hin (Ai (qdv hk) tI))))
abbrev qko (a:Int) (b:Int) (l:List Pt):HpL:=[(0,0,qal l),(1,0,.pv (iV a)),(1,1,.pv (iV b))]
abbrev qDy (k:Nat) (l:List Pt):TmL:=[(0,.ls 0 l.length),(1,.pc 149 [.pp 1 0]),(7,.pv (iV (l.length:Int))),(8,.pv (iV (k:Int)))]
theorem qpV {l:List Pt} {k:Nat} {p:Pt} {a b:Int} (hk:l[k]?=some p) (hin:0≤(k:Int)∧(k:Int)<(l.length:Int)) (hlt:decide ((k:Int)<(l.length:Int))=true) (he:(p.a==a&&(p.b==b&&true))=false) (hs:iV (IntKind.i64.wrap ((k:Int)+1))=iV (((k+1:Nat):Int))) {e:Exit} {tm2:TmL} {hp2:HpL}
 (r:Rl 2 2 184 0 19 2 ([(0,.ls 0 l.length),(1,.pc 149 [.pp 1 0]),(7,.pv (iV (l.length:Int))),(8,.pv (iV ((k+1:Nat):Int)))]) (qko a b l) e tm2 hp2):Rl 2 2 184 0 19 2 (qDy k l) (qko a b l) e tm2 hp2:=
 RunsL.next [] 300 [.t true,.r (ptV p),.k,.t false,Re hs]
  (Ro (Ai hlt (Ai hin (Ai (qaN hk) (Ai he (Ai hs tI)))))) r
theorem qt8 {l:List Pt} {k:Nat} {p:Pt} {a b:Int} (hk:l[k]?=some p) (hin:0≤(k:Int)∧(k:Int)<(l.length:Int)) (hlt:decide ((k:Int)<(l.length:Int))=true) (he:(p.a==a&&(p.b==b&&true))=true):Rl 2 2 184 0 19 2 (qDy k l) (qko a b l) (.ret) ([(4,.pv (iV (k:Int)))]) ([]):=
 RunsL.stop [] 300 [.t true,.r (ptV p),.k,.t true] (fun h=>by cases h)
  (Ro (Ai hlt (Ai hin (Ai (qaN hk) (Ai he tI)))))
theorem qwa {l:List Pt} {k:Nat} {a b:Int} (hge:decide ((k:Int)<(l.length:Int))=false):Rl 2 2 184 0 19 2 (qDy k l) (qko a b l) (.exit 0) ([]) ([]):=
 RunsL.stop [] 300 [.t false] (fun h=>by cases h)
  (Ro (Ai hge tI))
theorem qzK {l:List Pt} {a b:Int} (r0:Rl 2 2 184 0 19 2 ([(0,.ls 0 l.length),(1,.pc 149 [.pp 1 0]),(7,.pv (iV (l.length:Int))),(8,.pv (iV ((0:Nat):Int)))]) (qko a b l) (.exit 0) ([]) ([])) :
 Fn 184 2 [.ls 0 l.length,.pc 149 [.pp 1 0]] (qko a b l) (.pv (iV (-1))) 0 []:=
 Fz [] [Lf r0]
  tI (Lo r0 [] tI)
theorem qu0 {l:List Pt} {k:Nat} {a b:Int} (r0:Rl 2 2 184 0 19 2 ([(0,.ls 0 l.length),(1,.pc 149 [.pp 1 0]),(7,.pv (iV (l.length:Int))),(8,.pv (iV ((0:Nat):Int)))]) (qko a b l) (.ret) ([(4,.pv (iV (k:Int)))]) ([])) :
 Fn 184 2 [.ls 0 l.length,.pc 149 [.pp 1 0]] (qko a b l) (.pv (iV (k:Int))) 0 []:=
 Fz [] [Lf r0]
  tI (Lo r0 [] tI)
theorem qAT {l:List Pt} {a b:Int} (hi:Fn 184 2 [.ls 0 l.length,.pc 149 [.pp 1 0]] (qko a b l) (.pv (iV (-1))) 0 []) :
 Fn 140 2 [.ls 0 l.length,.pc 149 [.pp 1 0]] (qko a b l) (.pv (.bool false)) 0 []:=
 Fz [] [Cf hi [0,1],.k]
  tI (Co hi [0,1] 2 tI)
theorem qsA {l:List Pt} {k:Nat} {a b:Int} (hi:Fn 184 2 [.ls 0 l.length,.pc 149 [.pp 1 0]] (qko a b l) (.pv (iV (k:Int))) 0 []) (h0:decide ((k:Int)≥0)=true) :
 Fn 140 2 [.ls 0 l.length,.pc 149 [.pp 1 0]] (qko a b l) (.pv (.bool true)) 0 []:=
 Fz [] [Cf hi [0,1],.t true]
  tI (Co hi [0,1] 2 (Ai h0 tI))
theorem qvY {l:List Pt} {x a b:Int} (hv:Pure Tryz.prog 148 #[qaf a b] (.bool false)) :
 Fn 103 1 [qaP 0 x l,.pv (qaf a b)] [(0,0,qal l)] (.pv (iV (8))) 0 []:=
 Fz [] [Rf hv,.k]
  tI (Ai hv tI)
theorem qwu {l:List Pt} {x a b:Int} (hv:Pure Tryz.prog 148 #[qaf a b] (.bool true)) (ht:Fn 140 2 [.ls 0 l.length,.pc 149 [.pp 1 0]] (qko a b l) (.pv (.bool true)) 0 []) :
 Fn 103 1 [qaP 0 x l,.pv (qaf a b)] [(0,0,qal l)] (.pv (iV (14))) 0 []:=
 Fz [] [Rf hv,.k,Cf ht [0,2]]
  tI (Ai hv (Co ht [0,2] 3 tI))
theorem qxk {l:List Pt} {x a b:Int} (hv:Pure Tryz.prog 148 #[qaf a b] (.bool true)) (ht:Fn 140 2 [.ls 0 l.length,.pc 149 [.pp 1 0]] (qko a b l) (.pv (.bool false)) 0 []) :
 Fn 103 1 [qaP 0 x l,.pv (qaf a b)] [(0,0,qal l)] (.pv (iV (0))) 0 []:=
 Fz [] [Rf hv,.k,Cf ht [0,2]]
  tI (Ai hv (Co ht [0,2] 3 tI))
theorem qqk {l:List Pt} {x:Int} (hf:((l.length:Int)==200)=true) :
 Fn 104 1 [qaP 0 x l] [(0,0,qal l)] (.pv (iV (18))) 0 []:=
 Fz [] [.t true]
  tI (Ai hf tI)
theorem qpZ {l:List Pt} {x:Int} (hf:((l.length:Int)==200)=false) (hu:(x==1000000)=true) :
 Fn 104 1 [qaP 0 x l] [(0,0,qal l)] (.pv (iV (18))) 0 []:=
 Fz [] [.t false,.t true]
  tI (Ai hf (Ai hu tI))
theorem qyR {l:List Pt} {x:Int} (hf:((l.length:Int)==200)=false) (hu:(x==1000000)=false) :
 Fn 104 1 [qaP 0 x l] [(0,0,qal l)] (.pv (iV (0))) 0 []:=
 Fz [] [.t false,.t false]
  tI (Ai hf (Ai hu tI))
theorem qCr {s:Int} (h0:decide (s<0)=false) (hs:iV (IntKind.i64.wrap (s-0))=iV (s)) (hg:decide (s>0)=false) :
 Fn 150 0 [.pv (.slice none 0 0),.pv (iV (s))] [] (.pv (.slice none 0 0)) 0 []:=
 Fz [] [.t false,.k,Re hs,.t false]
  tI (Ai h0 (Ai hs (Ai hg tI)))
theorem qxb {s:Int} (h0:decide (s<0)=false) (hs:iV (IntKind.i64.wrap (s-0))=iV (s)) (hg:decide (s>0)=true) (a0:0≤s) (a1:s≤1000000) :
 Fn 150 0 [.pv (.slice none 0 0),.pv (iV (s))] [] (.ls 0 0) 1 [(0,0,qal ([]:List Pt))]:=
 Fz [(0,1)] [.t false,.k,Re hs,.t true,.w []]
  (qaG (qaK [(0,1)]) [(0,0,qal ([]:List Pt))]) (Ai h0 (Ai hs (Ai hg (Ai a0 (Ai a1 (Ai (Int.le_refl (0:Int)) (Ai (Nat.zero_le s.toNat) tI)))))))
theorem qE7 {l:List Pt} {x a b:Int} {s1 s2:Int} (q1:iV (IntKind.i64.wrap ((0:Int)+(l.length:Int)))=iV (s1)) (n1:decide (s1<0)=false) (q2:iV (IntKind.i64.wrap (s1+((1:Nat):Int)))=iV (s2)) (n2:decide (s2<0)=false) (hgr:Fn 150 0 [.pv (.slice none 0 0),.pv (iV (s2))] [] (.ls 0 0) 1 [(0,0,qal ([]:List Pt))]) (a1:0+l.length≤1000000) (a2:0+l.length+1≤1000000) :
 Fn 105 3 [.ps 2 0 2 2] [(2,0,.ls 0 l.length),(2,1,.ps 1 0 1 1),(1,0,.pv (iV x)),(1,1,.pv (iV a)),(1,2,.pv (iV b)),(0,0,qal l)] (.ls 3 (l++[(Pt.mk x a b)]).length) 1 [(3,0,qal (l++[(Pt.mk x a b)]))]:=
 Fx [(3,5)] [.k,Re q1,.t false,.k,.k,.r (iV (s2)),.t false,.k,.k,Cf hgr [],.k,.k,.k,.k,.k]
  (qx3 l (Pt.mk x a b)) (Ai (qpD l (Pt.mk x a b)) tI) (Ai q1 (Ai n1 (Ai q2 (Ai n2 (Co hgr [] 3 (Ai a1 (Ai a2 tI)))))))
abbrev qDj (k:Nat) (l:List Pt):HpL:=[(1,0,.lq 0 3 0 k),(1,1,.lq 0 3 (0+(k+1)) (l.length-(k+1))),(0,0,qal l)]
theorem qxf {l:List Pt} {k:Nat} {s1 s2:Int} (q1:iV (IntKind.i64.wrap ((0:Int)+((k:Nat):Int)))=iV (s1)) (n1:decide (s1<0)=false) (q2:iV (IntKind.i64.wrap (s1+((l.length-(k+1):Nat):Int)))=iV (s2)) (n2:decide (s2<0)=false) (hgr:Fn 150 0 [.pv (.slice none 0 0),.pv (iV (s2))] [] (.ls 0 0) 1 [(0,0,qal ([]:List Pt))]) (a1:0+k≤1000000) (a2:0+k+(l.length-(k+1))≤1000000) (hkl1:k+1≤l.length) :
 Fn 105 2 [.ps 1 0 2 2] (qDj k l) (.ls 2 (l.take k++l.drop (k+1)).length) 1 [(2,0,qal (l.take k++l.drop (k+1)))]:=
 Fx [(2,4)] [.k,.r (iV (s1)),.t false,.k,.k,.r (iV (s2)),.t false,.k,.k,Cf hgr [],.k,.k,.k,.k,.k]
  (qkg 4 l k hkl1) (Ai (qjq l k hkl1) tI) (Ai q1 (Ai n1 (Ai q2 (Ai n2 (Co hgr [] 2 (Ai a1 (Ai a2 tI)))))))
theorem qzh {l:List Pt} {k:Nat} {s1 s2:Int} (q1:iV (IntKind.i64.wrap ((0:Int)+((k:Nat):Int)))=iV (s1)) (n1:decide (s1<0)=false) (q2:iV (IntKind.i64.wrap (s1+((l.length-(k+1):Nat):Int)))=iV (s2)) (n2:decide (s2<0)=false) (hgr:Fn 150 0 [.pv (.slice none 0 0),.pv (iV (s2))] [] (.pv (.slice none 0 0)) 0 []) (a1:0+k≤1000000) (a2:0+k+(l.length-(k+1))≤1000000) (hkl1:k+1≤l.length) :
 Fn 105 2 [.ps 1 0 2 2] (qDj k l) (.ls 2 (l.take k++l.drop (k+1)).length) 1 [(2,0,qal (l.take k++l.drop (k+1)))]:=
 Fx [(2,3)] [.k,.r (iV (s1)),.t false,.k,.k,.r (iV (s2)),.t false,.k,.k,Cf hgr [],.k,.k,.k,.k,.k]
  (qkg 3 l k hkl1) (Ai (qjq l k hkl1) tI) (Ai q1 (Ai n1 (Ai q2 (Ai n2 (Co hgr [] 2 (Ai a1 (Ai a2 tI)))))))
theorem qAZ {l:List Pt} {x a b e e2 e3:Int} (c1:Fn 88 1 [qaP 0 x l] [(0,0,qal l)] (.pv (iV (e))) 0 []) (c2:Fn 103 1 [qaP 0 x l,.pv (qaf a b)] [(0,0,qal l)] (.pv (iV (e2))) 0 []) (c3:Fn 104 1 [qaP 0 x l] [(0,0,qal l)] (.pv (iV (e3))) 0 []) (he:(e !=0)=true) :
 Fn 57 1 [qaP 0 x l,.pv (qaf a b)] [(0,0,qal l)] (.pv (.tuple #[.agg #[iV 0,.slice none 0 0],iV 0,iV e])) 0 []:=
 Fz [] [Cf c1 [0],Cf c2 [0],Cf c3 [0],.k,.k,.t true,.t true]
  tI (Co c1 [0] 4 (Co c2 [0] 4 (Co c3 [0] 4 (Ai he (Ai he tI)))))
theorem qsh {l:List Pt} {x a b e e3:Int} (c1:qy2 l x) (c2:Fn 103 1 [qaP 0 x l,.pv (qaf a b)] [(0,0,qal l)] (.pv (iV (e))) 0 []) (c3:Fn 104 1 [qaP 0 x l] [(0,0,qal l)] (.pv (iV (e3))) 0 []) (he:(e !=0)=true) :
 Fn 57 1 [qaP 0 x l,.pv (qaf a b)] [(0,0,qal l)] (.pv (.tuple #[.agg #[iV 0,.slice none 0 0],iV 0,iV e])) 0 []:=
 Fz [] [Cf c1 [0],Cf c2 [0],Cf c3 [0],.k,.k,.k,.k,.k,.t true,.t true]
  tI (Co c1 [0] 4 (Co c2 [0] 4 (Co c3 [0] 4 (Ai he (Ai he tI)))))
theorem qsi {l:List Pt} {x a b e:Int} (c1:qy2 l x) (c2:Fn 103 1 [qaP 0 x l,.pv (qaf a b)] [(0,0,qal l)] (.pv (iV (0))) 0 []) (c3:Fn 104 1 [qaP 0 x l] [(0,0,qal l)] (.pv (iV (e))) 0 []) (he:(e !=0)=true) :
 Fn 57 1 [qaP 0 x l,.pv (qaf a b)] [(0,0,qal l)] (.pv (.tuple #[.agg #[iV 0,.slice none 0 0],iV 0,iV e])) 0 []:=
 Fz [] [Cf c1 [0],Cf c2 [0],Cf c3 [0],.k,.k,.k,.k,.k,.k,.k,.k,.t true,.t true]
  tI (Co c1 [0] 4 (Co c2 [0] 4 (Co c3 [0] 4 (Ai he (Ai he tI)))))
theorem qAt {l:List Pt} {x y a b:Int} (c1:qy2 l x) (c2:Fn 103 1 [qaP 0 x l,.pv (qaf a b)] [(0,0,qal l)] (.pv (iV (0))) 0 []) (c3:Fn 104 1 [qaP 0 x l] [(0,0,qal l)] (.pv (iV (0))) 0 []) (hcat:Fn 105 3 [.ps 2 0 2 2] [(2,0,.ls 0 l.length),(2,1,.ps 1 0 1 1),(1,0,.pv (iV x)),(1,1,.pv (iV a)),(1,2,.pv (iV b)),(0,0,qal l)] (.ls 3 (l++[(Pt.mk x a b)]).length) 1 [(3,0,qal (l++[(Pt.mk x a b)]))]) (hy:iV (IntKind.i64.wrap (x+1))=iV (y)) :
 Fn 57 1 [qaP 0 x l,.pv (qaf a b)] [(0,0,qal l)] (.tu [.ag [.pv (iV y),.ls 1 (l++[(Pt.mk x a b)]).length],.one (.pv (iV x)),.one (.pv (iV 0))]) 1 [(1,0,qal (l++[(Pt.mk x a b)]))]:=
 Fz [(1,7)] [Cf c1 [0],Cf c2 [0],Cf c1 [0],.k,.k,.k,.k,.k,.k,.k,.k,.k,.k,.k,.k,Cf hcat [0,5,6],Re hy]
  (qaG (qaK [(1,7)]) [(1,0,qal (l++[(Pt.mk x a b)]))]) (Co c1 [0] 4 (Co c2 [0] 4 (Co c3 [0] 4 (Co hcat [0,5,6] 7 (Ai hy tI)))))
theorem quj {l:List Pt} {x n a b e:Int} (hg:Fn 164 1 [qaP 0 x l,.pv (iV (n))] [(0,0,qal l)] (.pv (.tuple #[qaf a b,iV e])) 0 []) (he:(e !=0)=true) :
 Fn 114 1 [qaP 0 x l,.pv (iV (n))] [(0,0,qal l)] (.pv (.tuple #[.agg #[iV 0,.slice none 0 0],qaf 0 0,iV e])) 0 []:=
 Fz [] [Cf hg [0],.t true]
  tI (Co hg [0] 4 (Ai he tI))
theorem qyT {l:List Pt} {k:Nat} {x n a b:Int} (hg:Fn 164 1 [qaP 0 x l,.pv (iV (n))] [(0,0,qal l)] (.pv (.tuple #[qaf a b,iV 0])) 0 []) (hf:Fn 165 1 [qaP 0 x l,.pv (iV (n))] [(0,0,qal l)] (.pv (.tuple #[iV (k:Int),.bool true])) 0 []) (hkl:k≤l.length) (hkl1:k+1≤l.length) (hk1:iV (IntKind.i64.wrap ((k:Int)+1))=iV (((k+1:Nat):Int))) (hcut:Fn 105 2 [.ps 1 0 2 2] (qDj k l) (.ls 2 (l.take k++l.drop (k+1)).length) 1 [(2,0,qal (l.take k++l.drop (k+1)))]) :
 Fn 114 1 [qaP 0 x l,.pv (iV (n))] [(0,0,qal l)] (.tu [.ag [.pv (iV x),.ls 1 (l.take k++l.drop (k+1)).length],.one (.pv (qaf a b)),.one (.pv (iV 0))]) 1 [(1,0,qal (l.take k++l.drop (k+1)))]:=
 Fz [(1,6)] [Cf hg [0],.k,Cf hf [0],.md,.k,Re hk1,.k,Cf hcut [0,5]]
  (qaG (qaK [(1,6)]) [(1,0,qal (l.take k++l.drop (k+1)))]) (Co hg [0] 4 (Co hf [0] 5 (Ai tI (Ai (Int.natCast_nonneg k) (Ai (Nat.zero_le k) (Ai hkl (Ai hk1 (Ai (Int.natCast_nonneg (k+1)) (Ai tI (Ai hkl1 (Ai (Nat.le_refl l.length) (Co hcut [0,5] 6 tI))))))))))))
theorem qFw :
 Pure Tryz.prog 52 #[] (.agg #[iV 0,.slice none 0 0]):=
 qad (args:=[]) 300 []
  (Ai rfl tI) (by kernel_rfl)
end Go.Proofs.YtkjaanhddkkodaaGreat

namespace Go.Proofs.YtkjaanhddkkodaaGreat
set_option maxRecDepth 100000
open Go.RowKit
theorem qew (a b:Int):Pure Tryz.prog 71 #[qaf a b] (.bool (qb8 a b)):=by
 have no:∀ {P:Prop},¬ P→(qb8 a b=true→P)→qb8 a b=false:=fun h k=>by
  cases e:qb8 a b
  ·rfl
  ·exact (h (k e)).elim
 by_cases h1:0≤a
 ·by_cases h2:a≤65535
  ·by_cases h3:0≤b
   ·by_cases h4:b≤65535
    ·by_cases h5:a=b
     ·rw[no (P:=a≠b) (fun h=>h h5) (fun h=>(qbt.1 h).2.2.2.2)]
      exact qEs (dt h1) (dt h2) (dt h3) (dt h4) (by simpa using h5)
     ·rw[qbt.2 ⟨h1,h2,h3,h4,h5⟩]
      exact qC0 (dt h1) (dt h2) (dt h3) (dt h4) (by simpa using h5)
    ·rw[no h4 (fun h=>(qbt.1 h).2.2.2.1)]
     exact qFC (dt h1) (dt h2) (dt h3) (df h4)
   ·rw[no h3 (fun h=>(qbt.1 h).2.2.1)]
    exact qFv (dt h1) (dt h2) (df (by omega))
  ·rw[no h2 (fun h=>(qbt.1 h).2.1)]
   exact qFA (dt h1) (df h2)
 ·rw[no h1 (fun h=>(qbt.1 h).1)]
  exact qFq (df (by omega))
abbrev qBk (k:Nat):List (Nat×SV):=[(1,.pp 1 0),(3,.pv (iV (k:Int)))]
abbrev qmt (k j:Nat):List (Nat×SV):=[(1,.pp 1 0),(3,.pv (iV (k:Int))),(4,.pp 2 0),(5,.pv (iV (j:Int)))]
abbrev qBH (x:Int) (l:List Pt):List (Nat×Nat×SV):=[(1,0,.pv (iV x)),(1,1,.ls 0 l.length),(0,0,qal l)]
abbrev qn3 (x:Int) (l:List Pt) (p:Pt):List (Nat×Nat×SV):=[(1,0,.pv (iV x)),(1,1,.ls 0 l.length),(2,0,.pv (iV p.id)),(2,1,.pv (iV p.a)),(2,2,.pv (iV p.b)),(0,0,qal l)]
theorem qmh {p q:Pt} (h:¬ (q.a=p.a∧q.b=p.b)):(q.a==p.a&&(q.b==p.b&&true))=false:=by
 rw[Bool.and_true]
 cases e:(q.a==p.a&&q.b==p.b)
 ·rfl
 ·rw[Bool.and_eq_true,beq_iff_eq,beq_iff_eq] at e;exact (h e).elim
theorem qmf {p q:Pt} (h:q.a=p.a∧q.b=p.b):(q.a==p.a&&(q.b==p.b&&true))=true:=by rw[h.1,h.2];simp
theorem qjr {x:Int} {l:List Pt} {p:Pt} {k:Nat} (hn:l.length≤1000000) (hkl:k≤l.length) {j:Nat} (hj:j≤k) (h:∀ i,i<j→∀ q,l[i]?=some q→¬ (q.a=p.a∧q.b=p.b)) {e:Exit} {tm2:TmL} {hp2:HpL}
 (r:Rl 1 1 76 1 78 3 (qmt k j) (qn3 x l p) e tm2 hp2):Rl 1 1 76 1 78 3 (qmt k 0) (qn3 x l p) e tm2 hp2:=by
 refine RunsL.rounds (fun i=>qmt k i) (fun _=>qn3 x l p) (N:=j) j 0 (Nat.zero_add _) (fun i _ hi r=>?_) r
 obtain⟨q,hq⟩:=qai (l:=l) (k:=i) (by omega)
 exact qng hq (qap (qak hq)) (dt (by omega)) (qmh (h i hi q hq)) (qay (by omega)) r
theorem qsw {x:Int} {l:List Pt} {p:Pt} {k:Nat} (hn:l.length≤1000000) (hkl:k≤l.length) (h:∀ i,i<k→∀ q,l[i]?=some q→¬ (q.a=p.a∧q.b=p.b)) :
 Rl 1 1 76 1 78 3 (qmt k 0) (qn3 x l p) (.exit 2) (qBk k) (qBH x l):=
 qjr hn hkl (Nat.le_refl k) h (qq7 (df (by omega)))
theorem qu1 {x:Int} {l:List Pt} {p:Pt} {k:Nat} (hn:l.length≤1000000) (hkl:k≤l.length) (h:¬ ∀ i,i<k→∀ q,l[i]?=some q→¬ (q.a=p.a∧q.b=p.b)) :
 Rl 1 1 76 1 78 3 (qmt k 0) (qn3 x l p) .ret [(2,.pv (iV 8))] []:=by
 rcases qaY (fun i=>∀ q,l[i]?=some q→¬ (q.a=p.a∧q.b=p.b)) k with h1 | ⟨j,hj,hb,hf⟩
 ·exact (h h1).elim
 ·simp only[Classical.not_forall,Classical.not_not] at hb
  obtain⟨q,hq,he⟩:=hb
  exact qjr hn hkl (by omega) hf (qoP hq (qap (qak hq)) (dt (by omega)) (qmf he))
def At8 (x:Int) (l:List Pt) (k:Nat):Prop:=∀ p,l[k]?=some p→qb8 p.a p.b=true∧0≤p.id∧p.id<x∧(∀ j q,k=j+1→l[j]?=some q→q.id<p.id)∧∀ i,i<k→∀ q,l[i]?=some q→¬ (q.a=p.a∧q.b=p.b)
theorem qnM (x:Int) (l:List Pt):FnL Tryz.prog 76 1 [qaP 0 x l] [(0,0,qal l)] (.pv (.int .i64 (qwW x l))) 0 []:=by
 by_cases h0:l.length≤200
 ·by_cases h1:0≤x
  ·by_cases h2:x≤1000000
   ·have step:∀ k,(∀ j,j<k→At8 x l j)→∀ {e:Exit} {tm2:TmL} {hp2:HpL},k≤l.length→
     RunsL Tryz.prog 1 1 (qf7 Tryz.prog 76 0) 78 2 (qBk k) (qBH x l) e tm2 hp2→RunsL Tryz.prog 1 1 (qf7 Tryz.prog 76 0) 78 2 (qBk 0) (qBH x l) e tm2 hp2:=by
     intro k hk e tm2 hp2 hkl r
     refine RunsL.rounds (fun j=>qBk j) (fun _=>qBH x l) (N:=k) k 0 (Nat.zero_add _) (fun j _ hj r=>?_) r
     obtain⟨p,hp⟩:=qai (l:=l) (k:=j) (by omega)
     obtain⟨a1,a2,a3,a4,a5⟩:=hk j hj p hp
     have hjl:=qak hp
     cases j with
     | zero=>exact qDV (hk:=hp) (hin:=qap hjl) (hlt:=dt (by omega)) (hv:=a1▸qew p.a p.b) (h1:=df (by omega)) (h2:=df (by omega)) (hz:=df (by omega)) (r1:=qsw (by omega) (by omega) a5) (hs:=qay (by omega)) r
     | succ i=>
      obtain⟨q,hq⟩:=qai (l:=l) (k:=i) (by omega)
      exact qCU (hk:=hp) (hin:=qap hjl) (hlt:=dt (by omega)) (hv:=a1▸qew p.a p.b) (h1:=df (by omega)) (h2:=df (by omega)) (hz:=dt (by omega)) (hq:=hq) (hin0:=qap (qak hq)) (hm:=qbQ i (by omega)) (hg:=df (by have:=a4 i q rfl hq;omega)) (r1:=qsw (by omega) (by omega) a5) (hs:=qay (by omega)) r
    rcases qaY (At8 x l) l.length with h | ⟨j,hj,hb,hf⟩
    ·have hv:V8 x l:=⟨h0,fun p hp=>by
      obtain⟨k,hk,rfl⟩:=List.getElem_of_mem hp
      exact (h k hk _ (List.getElem?_eq_getElem hk)).1,fun k p q hp hq=>(h (k+1) (qak hq) q hq).2.2.2.1 k p rfl hp,fun p hp=>by
      obtain⟨k,hk,rfl⟩:=List.getElem_of_mem hp
      exact (h k hk _ (List.getElem?_eq_getElem hk)).2.1,fun p hp=>by
      obtain⟨k,hk,rfl⟩:=List.getElem_of_mem hp
      exact (h k hk _ (List.getElem?_eq_getElem hk)).2.2.1,⟨h1,h2⟩,fun i k p q hik hp hq=>(h k (qak hq) q hq).2.2.2.2 i hik p hp⟩
     rw[qdp hv]
     exact qAK (df (by omega)) (df (by omega)) (df (by omega)) (step l.length h (Nat.le_refl _) (qtA (df (by omega))))
    ·rw[qbA fun hv=>hb fun p hp=>⟨hv.ok p (List.mem_of_getElem? hp),hv.lo p (List.mem_of_getElem? hp),hv.hi p (List.mem_of_getElem? hp),fun i q e hq=>by subst e;exact hv.up i q p hq hp,fun i hi q hq=>hv.dis i j q p hi hq hp⟩]
     refine qvV (df (by omega)) (df (by omega)) (df (by omega)) (step j hf (by omega) ?_)
     obtain⟨p,hp⟩:=qai hj
     by_cases c1:qb8 p.a p.b=true
     ·by_cases c2:0≤p.id
      ·by_cases c3:p.id<x
       ·cases j with
        | zero=>exact (hb fun p' hp'=>by rw[hp] at hp';cases hp';exact⟨c1,c2,c3,fun i q e=>by omega,fun i hi=>by omega⟩).elim
        | succ i=>
         obtain⟨q,hq⟩:=qai (l:=l) (k:=i) (by omega)
         by_cases c4:q.id<p.id
         ·refine qnb (hk:=hp) (hin:=qap hj) (hlt:=dt (by omega)) (hv:=c1▸qew p.a p.b) (h1:=df (by omega)) (h2:=df (by omega)) (hz:=dt (by omega)) (hq:=hq) (hin0:=qap (qak hq)) (hm:=qbQ i (by omega)) (hg:=df (by omega)) (r1:=qu1 (by omega) (by omega) fun hno=>hb fun p' hp'=>?_)
          rw[hp] at hp';cases hp'
          exact⟨c1,c2,c3,fun i' q' e hq'=>by cases e;rw[hq] at hq';cases hq';exact c4,hno⟩
         ·exact qEj (hk:=hp) (hin:=qap hj) (hlt:=dt (by omega)) (hv:=c1▸qew p.a p.b) (h1:=df (by omega)) (h2:=df (by omega)) (hz:=dt (by omega)) (hq:=hq) (hin0:=qap (qak hq)) (hm:=qbQ i (by omega)) (hg:=dt (by omega))
       ·exact qDo (hk:=hp) (hin:=qap hj) (hlt:=dt (by omega)) (hv:=c1▸qew p.a p.b) (h1:=df (by omega)) (h2:=dt (by omega))
      ·exact qDE (hk:=hp) (hin:=qap hj) (hlt:=dt (by omega)) (hv:=c1▸qew p.a p.b) (h1:=dt (by omega))
     ·have c1':qb8 p.a p.b=false:=by simpa using c1
      exact qDQ (hk:=hp) (hin:=qap hj) (hlt:=dt (by omega)) (hv:=c1'▸qew p.a p.b)
   ·rw[qbA fun h=>h2 h.nx.2]
    exact qs6 (df (by omega)) (df (by omega)) (dt (by omega))
  ·rw[qbA fun h=>h1 h.nx.1]
   exact qvM (df (by omega)) (dt (by omega))
 ·rw[qbA fun h=>h0 h.len]
  exact qpq (dt (by omega))
theorem qii (x:Int) {l:List Pt} (hn:l.length≤1000000):Fn 53 1 [qaP 0 x l] [(0,0,qal l)] (.ag [.pv (iV x),.ls 1 l.length]) 1 [(1,0,qal l)]:=qpf (by omega)
theorem qqf (x:Int) {l:List Pt} (hn:l.length≤1000000):Fn 43 2 [qaP 0 x l,qaP 1 x l] [(0,0,qal l),(1,0,qal l)] (.pv (.bool true)) 0 []:=
 qty (by simp) (by simp) (RunsL.rounds (fun k=>[(2,.pp 2 0),(3,.pp 3 0),(5,.pv (iV (k:Int)))]) (fun _=>[(2,0,.pv (iV x)),(2,1,.ls 0 l.length),(3,0,.pv (iV x)),(3,1,.ls 1 l.length),(0,0,qal l),(1,0,qal l)]) l.length 0 (Nat.zero_add _)
  (fun k _ hk r=>by
   obtain⟨p,hp⟩:=qai hk
   exact qrl hp (qap hk) hp (qap hk) (dt (by omega)) (by simp) (qay (by omega)) r)
  (qwe (df (by omega))))
theorem qr7 {l:List Pt} (hu:Up l) (n:Int):(∃ (k:Nat) (p:Pt),l[k]?=some p∧p.id=n)∨((∀ p∈l,p.id≠n)∧∃ k,k≤l.length∧(∀ (t:Nat) (p:Pt),t<k→l[t]?=some p→p.id<n)∧∀ (t:Nat) (p:Pt),k≤t→l[t]?=some p→n<p.id):=by
 by_cases h:∃ (k:Nat) (p:Pt),l[k]?=some p∧p.id=n
 ·exact Or.inl h
 ·refine Or.inr ⟨fun p hp e=>?_,?_⟩
  ·obtain⟨k,hk,rfl⟩:=List.getElem_of_mem hp
   exact h ⟨k,_,List.getElem?_eq_getElem hk,e⟩
  ·rcases qaY (fun k=>∀ p,l[k]?=some p→p.id<n) l.length with hh | ⟨j,hj,hn,hb⟩
   ·exact⟨l.length,Nat.le_refl _,fun t p ht hp=>hh t ht p hp,fun t p ht hp=>by have:=qak hp;omega⟩
   ·refine⟨j,by omega,fun t p ht hp=>hb t ht p hp,fun t p ht hp=>?_⟩
    simp only[Classical.not_forall] at hn
    obtain⟨q,hq,hlt⟩:=hn
    have hne:q.id≠n:=fun e=>h ⟨j,q,hq,e⟩
    rcases Nat.lt_or_ge j t with h' | h'
    ·have:=hu.mono h' hq hp;omega
    ·have:t=j:=by omega
     subst this
     rw[hq] at hp
     cases hp
     omega
theorem qoo {l:List Pt} (hu:Up l) {i j:Nat} {p q:Pt} (hp:l[i]?=some p) (hq:l[j]?=some q) (h:p.id=q.id):i=j∧p=q:=by
 rcases Nat.lt_trichotomy i j with e | e | e
 ·have:=hu.mono e hp hq;omega
 ·subst e;rw[hp] at hq;cases hq;exact⟨rfl,rfl⟩
 ·have:=hu.mono e hq hp;omega
theorem qeo {l:List Pt} (hu:Up l) {k:Nat} {p:Pt} (hk:l[k]?=some p):(l.filter fun q=>decide (q.id≠p.id))=l.take k++l.drop (k+1):=by
 obtain⟨hkl,e⟩:=List.getElem?_eq_some_iff.1 hk
 have h1:l=l.take k++p::l.drop (k+1):=by rw[← e];simp
 have h2:∀ q∈l.take k,decide (q.id≠p.id)=true:=fun q hq=>by
  obtain⟨i,hi,hq'⟩:=qjz hq
  have:=hu.mono hi hq' hk
  exact dt (by omega)
 have h3:∀ q∈l.drop (k+1),decide (q.id≠p.id)=true:=fun q hq=>by
  obtain⟨i,hi,rfl⟩:=List.getElem_of_mem hq
  have hq':l[k+1+i]?=some (l.drop (k+1))[i]:=by rw[← List.getElem?_drop];exact List.getElem?_eq_getElem hi
  have:=hu.mono (show k<k+1+i by omega) hk hq'
  exact dt (by omega)
 conv=>lhs;rw[h1]
 rw[List.filter_append,List.filter_cons_of_neg (by simp),List.filter_eq_self.2 h2,List.filter_eq_self.2 h3]
noncomputable def qfu (l:List Pt) (a b:Int):Bool:=open Classical in decide (∃ p∈l,p.a=a∧p.b=b)
theorem qdJ {l:List Pt} {a b:Int}:qfu l a b=true↔∃ p∈l,p.a=a∧p.b=b:=by unfold qfu;exact decide_eq_true_iff
theorem qgn {l:List Pt} {a b:Int} (h:∀ (k:Nat) (p:Pt),l[k]?=some p→¬ (p.a=a∧p.b=b)):qfu l a b=false:=by
 cases e:qfu l a b
 ·rfl
 ·obtain⟨p,hp,he⟩:=qdJ.1 e
  obtain⟨k,hk,rfl⟩:=List.getElem_of_mem hp
  exact (h k _ (List.getElem?_eq_getElem hk) he).elim
theorem qvT (x:Int) {l:List Pt} (hn:l.length≤1000000) (a b:Int):Fn 176 1 [qaP 0 x l,.pv (qaf a b)] [(0,0,qal l)] (.pv (.bool (qfu l a b))) 0 []:=by
 have step:∀ k,(∀ j,j<k→∀ p,l[j]?=some p→¬ (p.a=a∧p.b=b))→∀ {e:Exit} {tm2:TmL} {hp2:HpL},k≤l.length→
  Rl 1 1 176 0 21 3 [(2,.pp 1 0),(3,.pp 2 0),(5,.pv (iV (k:Int)))] [(1,0,.pv (iV x)),(1,1,.ls 0 l.length),(2,0,.pv (iV a)),(2,1,.pv (iV b)),(0,0,qal l)] e tm2 hp2→
  Rl 1 1 176 0 21 3 [(2,.pp 1 0),(3,.pp 2 0),(5,.pv (iV ((0:Nat):Int)))] [(1,0,.pv (iV x)),(1,1,.ls 0 l.length),(2,0,.pv (iV a)),(2,1,.pv (iV b)),(0,0,qal l)] e tm2 hp2:=by
  intro k hk e tm2 hp2 hkl r
  refine RunsL.rounds (fun j=>[(2,.pp 1 0),(3,.pp 2 0),(5,.pv (iV (j:Int)))]) (fun _=>[(1,0,.pv (iV x)),(1,1,.ls 0 l.length),(2,0,.pv (iV a)),(2,1,.pv (iV b)),(0,0,qal l)]) (N:=k) k 0 (Nat.zero_add _) (fun j _ hj r=>?_) r
  obtain⟨p,hp⟩:=qai (l:=l) (k:=j) (by omega)
  exact qp6 hp (qap (qak hp)) (dt (by have:=qak hp;omega)) (qmh (p:=⟨0,a,b⟩) (hk j hj p hp)) (qay (by omega)) r
 rcases qaY (fun j=>∀ p,l[j]?=some p→¬ (p.a=a∧p.b=b)) l.length with h | ⟨j,hj,hb,hf⟩
 ·rw[qgn fun k p hp=>h k (qak hp) p hp]
  exact qxN (step l.length h (Nat.le_refl _) (qsI (df (by omega))))
 ·simp only[Classical.not_forall,Classical.not_not] at hb
  obtain⟨p,hp,he⟩:=hb
  rw[qdJ.2 ⟨p,List.mem_of_getElem? hp,he⟩]
  exact qwd (step j hf (by omega) (qud hp (qap hj) (dt (by omega)) (qmf (p:=⟨0,a,b⟩) he)))
end Go.Proofs.YtkjaanhddkkodaaGreat

namespace Go.Proofs.YtkjaanhddkkodaaGreat
set_option maxRecDepth 100000
open Go.RowKit
theorem fc1 (a pa pb n:Int):∃ c,Pure Tryz.prog 206 #[qac a pa pb,iV n] (iV c)∧(c<0↔a<n)∧(c=0↔a=n):=by
 rcases Int.lt_trichotomy a n with h | h | h
 ·exact⟨-1,qxY (by simp) (by simp) (dt h),⟨fun _=>h,fun _=>by omega⟩,⟨fun h=>by omega,fun h=>by omega⟩⟩
 ·exact⟨0,qze (by simp) (by simp) (df (by omega)) (df (by omega)),⟨fun h=>by omega,fun h=>by omega⟩,⟨fun _=>h,fun _=>rfl⟩⟩
 ·exact⟨1,qAF (by simp) (by simp) (df (by omega)) (dt (by omega)),⟨fun h=>by omega,fun h=>by omega⟩,⟨fun h=>by omega,fun h=>by omega⟩⟩
abbrev qEt (l:List Pt) (n:Int) (i j:Nat):List (Nat×SV):=[(0,.ls 0 l.length),(1,.pv (iV n)),(2,.pv (.func (.func 206) #[] #[])),(8,.pv (iV (l.length:Int))),(9,.pv (iV (i:Int))),(10,.pv (iV (j:Int)))]
theorem qjP {l:List Pt} (hn:l.length≤210) {n:Int} {k:Nat} (hlo:∀ (t:Nat) (p:Pt),t<k→l[t]?=some p→p.id<n) (hhi:∀ (t:Nat) (p:Pt),k≤t→l[t]?=some p→¬ p.id<n):∀ (d i j:Nat),j-i≤d→i≤k→k≤j→j≤l.length→
 Rl 1 1 205 0 49 1 (qEt l n i j) [(0,0,qal l)] (.exit 0) (qEt l n k k) [(0,0,qal l)]:=by
 intro d
 induction d with
 | zero=>
  intro i j hd h1 h2 h3
  have:i=k:=by omega
  have:j=k:=by omega
  subst i j
  exact qom (df (by omega))
 | succ d ih=>
  intro i j hd h1 h2 h3
  by_cases hij:i<j
  ·obtain⟨p,hp⟩:=qai (l:=l) (k:=(i+j)/2) (by omega)
   obtain⟨c,hc,hc1,hc2⟩:=fc1 p.id p.a p.b n
   have a1:iV (IntKind.i64.wrap ((i:Int)+(j:Int)))=iV ((i:Int)+(j:Int)):=by rw[qaq (by omega) (by omega)]
   have a2:Value.int .u64 (IntKind.u64.wrap ((i:Int)+(j:Int)))=.int .u64 ((i:Int)+(j:Int)):=by rw[qe6 (by omega) (by omega)]
   have a3:Value.int .u64 (((i:Int)+(j:Int)).fdiv (2 ^ (min (1:Int).toNat IntKind.u64.bits)))=.int .u64 (((i+j)/2:Nat):Int):=by
    have:(2:Int) ^ (min (1:Int).toNat IntKind.u64.bits)=2:=rfl
    rw[this,Int.fdiv_eq_ediv_of_nonneg _ (by omega)]
    congr 1
   have a4:iV (IntKind.i64.wrap (((i+j)/2:Nat):Int))=iV (((i+j)/2:Nat):Int):=by rw[qaq (by omega) (by omega)]
   by_cases hlt:p.id<n
   ·refine qxB hp (qap (qak hp)) (dt (by omega)) a1 a2 (by omega) a3 a4 hc (dt (hc1.2 hlt)) (qay (by omega)) (ih _ _ (by omega) ?_ h2 h3)
    rcases Nat.lt_or_ge ((i+j)/2) k with h | h
    ·exact h
    ·exact (hhi _ p h hp hlt).elim
   ·refine qAD hp (qap (qak hp)) (dt (by omega)) a1 a2 (by omega) a3 a4 hc (df (fun h=>hlt (hc1.1 h))) (ih _ _ (by omega) h1 ?_ (by omega))
    rcases Nat.lt_or_ge ((i+j)/2) k with h | h
    ·exact (hlt (hlo _ p h hp)).elim
    ·exact h
  ·have:i=k:=by omega
   have:j=k:=by omega
   subst i j
   exact qom (df (by omega))
theorem qoe (x:Int) {l:List Pt} (hn:l.length≤210) (hu:Up l) {n:Int} {k:Nat} {p:Pt} (hk:l[k]?=some p) (he:p.id=n):Fn 165 1 [qaP 0 x l,.pv (iV n)] [(0,0,qal l)] (.pv (.tuple #[iV (k:Int),.bool true])) 0 []:=by
 subst he
 obtain⟨c,hc,hc1,hc2⟩:=fc1 p.id p.a p.b p.id
 have hl:=qak hk
 refine qeh (qpp (qjP hn (fun t q ht hq=>hu.mono ht hq hk) (fun t q ht hq=>?_) l.length 0 l.length (by omega) (Nat.zero_le _) (by omega) (Nat.le_refl _)) hk (qap hl) (dt (by omega)) hc (by simpa using hc2.2 rfl))
 rcases Nat.lt_or_ge k t with h | h
 ·have:=hu.mono h hk hq;omega
 ·have:t=k:=by omega
  subst this
  rw[hk] at hq;cases hq;omega
theorem qq1 (x:Int) {l:List Pt} (hn:l.length≤210) {n:Int} {k:Nat} (hkl:k≤l.length) (hlo:∀ (t:Nat) (p:Pt),t<k→l[t]?=some p→p.id<n) (hhi:∀ (t:Nat) (p:Pt),k≤t→l[t]?=some p→n<p.id):Fn 165 1 [qaP 0 x l,.pv (iV n)] [(0,0,qal l)] (.pv (.tuple #[iV (k:Int),.bool false])) 0 []:=by
 have hb:=qjP hn hlo (fun t p ht hp=>by have:=hhi t p ht hp;omega) l.length 0 l.length (by omega) (Nat.zero_le _) hkl (Nat.le_refl _)
 by_cases h:k<l.length
 ·obtain⟨p,hp⟩:=qai h
  obtain⟨c,hc,hc1,hc2⟩:=fc1 p.id p.a p.b n
  refine qeh (qwt hb hp (qap h) (dt (by omega)) hc ?_)
  have:=hhi k p (Nat.le_refl _) hp
  simp only[beq_eq_false_iff_ne,ne_eq]
  exact fun e=>by have:=hc2.1 e;omega
 ·exact qeh (qpL hb (df (by omega)))
abbrev qEC:Value:=.agg #[iV 0,.slice none 0 0]
abbrev qA2 (f:FuncId) (x:Int) (l:List Pt) (n e:Int):Prop:=Fn f 1 [qaP 0 x l,.pv (iV n)] [(0,0,qal l)] (.pv (.tuple #[qEC,qaf 0 0,iV e])) 0 []
abbrev qCH (f:FuncId) (x:Int) (l:List Pt) (n:Int) (m:List Pt) (a b:Int):Prop:=Fn f 1 [qaP 0 x l,.pv (iV n)] [(0,0,qal l)] (.tu [.ag [.pv (iV x),.ls 1 m.length],.one (.pv (qaf a b)),.one (.pv (iV 0))]) 1 [(1,0,qal m)]
theorem qb7 {a b c:Int} (h:a+b=c) (h0:0≤c) (h1:c≤2000000):iV (IntKind.i64.wrap (a+b))=iV c:=by rw[h,qaq (by omega) (by omega)]
theorem qFB {l:List Pt} (hn:l.length≤210) {k:Nat} (hk:k<l.length):Fn 105 2 [.ps 1 0 2 2] [(1,0,.lq 0 3 0 k),(1,1,.lq 0 3 (0+(k+1)) (l.length-(k+1))),(0,0,qal l)] (.ls 2 (l.take k++l.drop (k+1)).length) 1 [(2,0,qal (l.take k++l.drop (k+1)))]:=by
 by_cases hz:l.length=1
 ·refine qzh (s1:=(k:Int)) (s2:=((k+(l.length-(k+1)):Nat):Int)) (q1:=qb7 (by omega) (by omega) (by omega)) (n1:=df (by omega)) (q2:=qb7 (by omega) (by omega) (by omega)) (n2:=df (by omega)) (hgr:=?_) (a1:=by omega) (a2:=by omega) (hkl1:=by omega)
  rw[show ((k+(l.length-(k+1)):Nat):Int)=0 by omega]
  exact qCr (h0:=df (by omega)) (hs:=by rw[qaq (by omega) (by omega)];rfl) (hg:=df (by omega))
 ·exact qxf (s1:=(k:Int)) (s2:=((k+(l.length-(k+1)):Nat):Int)) (q1:=qb7 (by omega) (by omega) (by omega)) (n1:=df (by omega)) (q2:=qb7 (by omega) (by omega) (by omega)) (n2:=df (by omega))
   (hgr:=qxb (h0:=df (by omega)) (hs:=by rw[qaq (by omega) (by omega)];congr 1<;>omega) (hg:=dt (by omega)) (a0:=by omega) (a1:=by omega)) (a1:=by omega) (a2:=by omega) (hkl1:=by omega)
abbrev qsd (f:FuncId) (x:Int) (l:List Pt) (a b e:Int):Prop:=Fn f 1 [qaP 0 x l,.pv (qaf a b)] [(0,0,qal l)] (.pv (.tuple #[qEC,iV 0,iV e])) 0 []
abbrev qzp (f:FuncId) (x:Int) (l:List Pt) (a b:Int):Prop:=Fn f 1 [qaP 0 x l,.pv (qaf a b)] [(0,0,qal l)] (.tu [.ag [.pv (iV (x+1)),.ls 1 (l++[Pt.mk x a b]).length],.one (.pv (iV x)),.one (.pv (iV 0))]) 1 [(1,0,qal (l++[Pt.mk x a b]))]
theorem qzL {l:List Pt} (hn:l.length≤210) (a b:Int):Fn 140 2 [.ls 0 l.length,.pc 149 [.pp 1 0]] [(0,0,qal l),(1,0,.pv (iV a)),(1,1,.pv (iV b))] (.pv (.bool (qfu l a b))) 0 []:=by
 have step:∀ k,(∀ j,j<k→∀ p,l[j]?=some p→¬ (p.a=a∧p.b=b))→∀ {e:Exit} {tm2:TmL} {hp2:HpL},k≤l.length→
  Rl 2 2 184 0 19 2 [(0,.ls 0 l.length),(1,.pc 149 [.pp 1 0]),(7,.pv (iV (l.length:Int))),(8,.pv (iV (k:Int)))] [(0,0,qal l),(1,0,.pv (iV a)),(1,1,.pv (iV b))] e tm2 hp2→
  Rl 2 2 184 0 19 2 [(0,.ls 0 l.length),(1,.pc 149 [.pp 1 0]),(7,.pv (iV (l.length:Int))),(8,.pv (iV ((0:Nat):Int)))] [(0,0,qal l),(1,0,.pv (iV a)),(1,1,.pv (iV b))] e tm2 hp2:=by
  intro k hk e tm2 hp2 hkl r
  refine RunsL.rounds (fun j=>[(0,.ls 0 l.length),(1,.pc 149 [.pp 1 0]),(7,.pv (iV (l.length:Int))),(8,.pv (iV (j:Int)))]) (fun _=>[(0,0,qal l),(1,0,.pv (iV a)),(1,1,.pv (iV b))]) (N:=k) k 0 (Nat.zero_add _) (fun j _ hj r=>?_) r
  obtain⟨p,hp⟩:=qai (l:=l) (k:=j) (by omega)
  exact qpV hp (qap (qak hp)) (dt (by have:=qak hp;omega)) (qmh (p:=⟨0,a,b⟩) (hk j hj p hp)) (qay (by omega)) r
 rcases qaY (fun j=>∀ p,l[j]?=some p→¬ (p.a=a∧p.b=b)) l.length with h | ⟨j,hj,hb,hf⟩
 ·rw[qgn fun k p hp=>h k (qak hp) p hp]
  exact qAT (qzK (step l.length h (Nat.le_refl _) (qwa (df (by omega)))))
 ·simp only[Classical.not_forall,Classical.not_not] at hb
  obtain⟨p,hp,he⟩:=hb
  rw[qdJ.2 ⟨p,List.mem_of_getElem? hp,he⟩]
  exact qsA (k:=j) (qu0 (step j hf (by omega) (qt8 hp (qap hj) (dt (by omega)) (qmf (p:=⟨0,a,b⟩) he)))) (dt (by omega))
noncomputable def qrM (l:List Pt) (a b:Int):Int:=if qb8 a b=true then (if qfu l a b=true then 14 else 0) else 8
def qhk (x:Int) (l:List Pt):Int:=if l.length=200∨x=1000000 then 18 else 0
theorem qAm (x:Int) {l:List Pt} (hn:l.length≤210) (a b:Int):Fn 103 1 [qaP 0 x l,.pv (qaf a b)] [(0,0,qal l)] (.pv (iV (qrM l a b))) 0 []:=by
 have h1:=qjp a b
 have h2:=qzL hn a b
 unfold qrM
 cases c:qb8 a b
 ·rw[c] at h1;rw[if_neg (by decide)];exact qvY h1
 ·rw[c] at h1
  rw[if_pos rfl]
  cases d:qfu l a b
  ·rw[d] at h2;rw[if_neg (by decide)];exact qxk h1 h2
  ·rw[d] at h2;rw[if_pos rfl];exact qwu h1 h2
theorem qnq (x:Int) (l:List Pt):Fn 104 1 [qaP 0 x l] [(0,0,qal l)] (.pv (iV (qhk x l))) 0 []:=by
 unfold qhk
 by_cases h1:l.length=200
 ·rw[if_pos (Or.inl h1)];exact qqk (by simp[h1])
 ·by_cases h2:x=1000000
  ·rw[if_pos (Or.inr h2)];exact qpZ (by simp;omega) (by simp[h2])
  ·rw[if_neg (by omega)];exact qyR (by simp;omega) (by simp[h2])
theorem qFG {l:List Pt} (hn:l.length≤210) (x a b:Int):Fn 105 3 [.ps 2 0 2 2] [(2,0,.ls 0 l.length),(2,1,.ps 1 0 1 1),(1,0,.pv (iV x)),(1,1,.pv (iV a)),(1,2,.pv (iV b)),(0,0,qal l)] (.ls 3 (l++[Pt.mk x a b]).length) 1 [(3,0,qal (l++[Pt.mk x a b]))]:=
 qE7 (s1:=(l.length:Int)) (s2:=((l.length+1:Nat):Int)) (q1:=qb7 (by omega) (by omega) (by omega)) (n1:=df (by omega)) (q2:=qb7 (by omega) (by omega) (by omega)) (n2:=df (by omega))
  (hgr:=qxb (h0:=df (by omega)) (hs:=by rw[qaq (by omega) (by omega)];congr 1<;>omega) (hg:=dt (by omega)) (a0:=by omega) (a1:=by omega)) (a1:=by omega) (a2:=by omega)
def qFh (x:Int) (l:List Pt) (a b e:Int):Prop:=(e=8∧(¬ V8 x l∨¬ qb8 a b=true))∨(e=14∧V8 x l∧qb8 a b=true∧qfu l a b=true)∨(e=18∧V8 x l∧qb8 a b=true∧qfu l a b=false∧(l.length=200∨x=1000000))
theorem qj6 (x:Int) {l:List Pt} (hn:l.length≤210) (a b:Int):(∃ e,qsd 57 x l a b e∧qsd 122 x l a b e∧qFh x l a b e)∨
 (V8 x l∧qb8 a b=true∧qfu l a b=false∧l.length<200∧x<1000000∧qzp 57 x l a b∧qzp 122 x l a b):=by
 have p1:=qgS x l
 have p2:=qAm x hn a b
 have p3:=qnq x l
 have r1:=qnM x l
 have r2:=qew a b
 have r3:=qvT x (l:=l) (by omega) a b
 by_cases hv:V8 x l
 ·rw[qdp hv] at p1 r1
  cases hc:qb8 a b
  ·rw[hc] at r2
   have e2:qrM l a b=8:=by unfold qrM;rw[hc,if_neg (by decide)]
   rw[e2] at p2
   exact Or.inl ⟨8,qsh (c1:=p1) (c2:=p2) (c3:=p3) (he:=by decide),qu2 (hc:=r1) (hv:=r2),Or.inl ⟨rfl,Or.inr (by rw[hc];decide)⟩⟩
  ·rw[hc] at r2
   cases hh:qfu l a b
   ·rw[hh] at r3
    have e2:qrM l a b=0:=by unfold qrM;rw[hc,if_pos rfl,hh,if_neg (by decide)]
    rw[e2] at p2
    by_cases hf:l.length=200
    ·have e3:qhk x l=18:=by unfold qhk;rw[if_pos (Or.inl hf)]
     rw[e3] at p3
     exact Or.inl ⟨18,qsi (c1:=p1) (c2:=p2) (c3:=p3) (he:=by decide),qo8 (hc:=r1) (hv:=r2) (hh:=r3) (hf:=by simp;omega),Or.inr (Or.inr ⟨rfl,hv,hc,hh,Or.inl hf⟩)⟩
    ·by_cases hw:x=1000000
     ·have e3:qhk x l=18:=by unfold qhk;rw[if_pos (Or.inr hw)]
      rw[e3] at p3
      exact Or.inl ⟨18,qsi (c1:=p1) (c2:=p2) (c3:=p3) (he:=by decide),qq6 (hc:=r1) (hv:=r2) (hh:=r3) (hf:=by simp;omega) (hu:=by simp[hw]),Or.inr (Or.inr ⟨rfl,hv,hc,hh,Or.inr hw⟩)⟩
     ·have e3:qhk x l=0:=by unfold qhk;rw[if_neg (by omega)]
      rw[e3] at p3
      have hl:=hv.len
      have hx:=hv.nx
      have hy:iV (IntKind.i64.wrap (x+1))=iV (x+1):=qb7 rfl (by omega) (by omega)
      refine Or.inr ⟨hv,rfl,rfl,by omega,by omega,qAt (c1:=p1) (c2:=p2) (c3:=p3) (hcat:=qFG hn x a b) (hy:=hy),qAL (hc:=r1) (hv:=r2) (hh:=r3) (hf:=by simp;omega) (hu:=by simpa using hw) (ht:=qii x (by omega)) (hn:=by omega) (hy:=hy)⟩
   ·rw[hh] at r3
    have e2:qrM l a b=14:=by unfold qrM;rw[hc,if_pos rfl,hh,if_pos rfl]
    rw[e2] at p2
    exact Or.inl ⟨14,qsh (c1:=p1) (c2:=p2) (c3:=p3) (he:=by decide),qtx (hc:=r1) (hv:=r2) (hh:=r3),Or.inr (Or.inl ⟨rfl,hv,hc,hh⟩)⟩
 ·rw[qbA hv] at p1 r1
  exact Or.inl ⟨8,qAZ (c1:=p1) (c2:=p2) (c3:=p3) (he:=by decide),qvo (hc:=r1),Or.inl ⟨rfl,Or.inl hv⟩⟩
end Go.Proofs.YtkjaanhddkkodaaGreat
