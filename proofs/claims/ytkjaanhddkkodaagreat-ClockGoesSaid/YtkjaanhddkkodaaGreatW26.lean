/-
  Joined: Kg, Kf. Conditions: none.
-/
import Derived.Test.YtkjaanhddkkodaaGreatW24
import Derived.Test.YtkjaanhddkkodaaGreatW18
import Derived.Test.YtkjaanhddkkodaaGreatW25
namespace Go.Proofs.YtkjaanhddkkodaaGreat
set_option maxRecDepth 100000
open Go.RowKit
theorem qzV (l:List Pt) (p:Pt):SV.ls 5 (0+l.length+1)=(SV.ls 3 (l++[p]).length).ren (qaK [(3,5)]):=by rw[Nat.zero_add,List.length_append];rfl
theorem qpD (l:List Pt) (p:Pt):some (SV.row 94 3 (0+l.length+1) ([]++qbo l++[iV p.id,iV p.a,iV p.b]))=some (qak (l++[p])):=by rw[Nat.zero_add,List.nil_append];exact (congrArg some (by rw[qgT,qak,List.length_append];rfl))
theorem qkE (b:Nat) (l:List Pt) (k:Nat) (h:k+1≤l.length):SV.ls b (0+k+(l.length-(k+1)))=(SV.ls 2 (l.take k++l.drop (k+1)).length).ren (qaK [(2,b)]):=by rw[qg0 l k h];rfl
theorem qkb (l:List Pt) (k:Nat) (h:k+1≤l.length):some (SV.row 94 3 (0+k+(l.length-(k+1))) ([]++((qbo l).drop (0*3)).take (k*3)++((qbo l).drop ((0+(k+1))*3)).take ((l.length-(k+1))*3)))=some (qak (l.take k++l.drop (k+1))):=by
 have h1:=qjC l k
 have h2:=qjL l (k+1)
 rw[Nat.zero_add] at h1
 rw[h1,h2,qak,qg0 l k h,qbW,List.nil_append]
theorem qCy {a pa pb n:Int} (n1:(!(a==a))=false) (n2:(!(n==n))=false) (h1:decide (a<n)=true) :
 Pure Tryz.prog 206 #[qac a pa pb,iV n] (iV (-1)):=
 qad (args:=[qac a pa pb,iV n]) 300 [.k,.k,.t false,.k,.t false,.t true]
  (Ai rfl (Ai n1 (Ai n2 (Ai h1 tI)))) (by kernel_rfl)
theorem qAn {a pa pb n:Int} (n1:(!(a==a))=false) (n2:(!(n==n))=false) (h1:decide (a<n)=false) (h2:decide (a>n)=true) :
 Pure Tryz.prog 206 #[qac a pa pb,iV n] (iV (1)):=
 qad (args:=[qac a pa pb,iV n]) 300 [.k,.k,.t false,.k,.t false,.t false,.t true]
  (Ai rfl (Ai n1 (Ai n2 (Ai h1 (Ai h2 tI))))) (by kernel_rfl)
theorem qzN {a pa pb n:Int} (n1:(!(a==a))=false) (n2:(!(n==n))=false) (h1:decide (a<n)=false) (h2:decide (a>n)=false) :
 Pure Tryz.prog 206 #[qac a pa pb,iV n] (iV (0)):=
 qad (args:=[qac a pa pb,iV n]) 300 [.k,.k,.t false,.k,.t false,.t false,.t false]
  (Ai rfl (Ai n1 (Ai n2 (Ai h1 (Ai h2 tI))))) (by kernel_rfl)
abbrev qDI (i:Nat) (j:Nat) (l:List Pt) (n:Int):TmL:=[(0,.ls 0 l.length),(1,.pv (iV n)),(2,.pv (.func (.func 206) #[] #[])),(8,.pv (iV (l.length:Int))),(9,.pv (iV (i:Int))),(10,.pv (iV (j:Int)))]
abbrev qDj (c:Int) (n:Int) (p:Pt):Prop:=Pure Tryz.prog 206 #[qac p.id p.a p.b,iV n] (iV (c))
theorem qBw {l:List Pt} {i j h:Nat} {p:Pt} {c n:Int} (hk:l[h]?=some p) (hin:0≤(h:Int)∧(h:Int)<(l.length:Int)) (hlt:decide ((i:Int)<(j:Int))=true) (ha:iV (IntKind.i64.wrap ((i:Int)+(j:Int)))=iV ((i:Int)+(j:Int))) (hu:Value.int .u64 (IntKind.u64.wrap ((i:Int)+(j:Int)))=.int .u64 ((i:Int)+(j:Int))) (h1:¬ (1:Int)<0) (hs:Value.int .u64 (((i:Int)+(j:Int)).fdiv (2 ^ (min (1:Int).toNat IntKind.u64.bits)))=.int .u64 (h:Int)) (hb:iV (IntKind.i64.wrap (h:Int))=iV (h:Int)) (hc:qDj c n p) (hz:decide (c<0)=true) (hh:iV (IntKind.i64.wrap ((h:Int)+1))=iV (((h+1:Nat):Int))) {e:Exit} {tm2:TmL} {hp2:HpL}
 (r:Rl 1 1 205 0 49 1 ([(0,.ls 0 l.length),(1,.pv (iV n)),(2,.pv (.func (.func 206) #[] #[])),(8,.pv (iV (l.length:Int))),(9,.pv (iV ((h+1:Nat):Int))),(10,.pv (iV (j:Int)))]) ([(0,0,qak l)]) e tm2 hp2):Rl 1 1 205 0 49 1 (qDI i j l n) ([(0,0,qak l)]) e tm2 hp2:=
 RunsL.next [] 300 [.t true,Re ha,Re hu,.r (.int .u64 (h:Int)),Re hb,.r (ptV p),Rf hc,.t true,Re hh]
  (Ro (Ai hlt (Ai ha (Ai hu (Ai h1 (Ai hs (Ai hb (Ai hin (Ai (qaL hk) (Ai hc (Ai hz (Ai hh tI)))))))))))) r
theorem qCQ {l:List Pt} {i j h:Nat} {p:Pt} {c n:Int} (hk:l[h]?=some p) (hin:0≤(h:Int)∧(h:Int)<(l.length:Int)) (hlt:decide ((i:Int)<(j:Int))=true) (ha:iV (IntKind.i64.wrap ((i:Int)+(j:Int)))=iV ((i:Int)+(j:Int))) (hu:Value.int .u64 (IntKind.u64.wrap ((i:Int)+(j:Int)))=.int .u64 ((i:Int)+(j:Int))) (h1:¬ (1:Int)<0) (hs:Value.int .u64 (((i:Int)+(j:Int)).fdiv (2 ^ (min (1:Int).toNat IntKind.u64.bits)))=.int .u64 (h:Int)) (hb:iV (IntKind.i64.wrap (h:Int))=iV (h:Int)) (hc:qDj c n p) (hz:decide (c<0)=false) {e:Exit} {tm2:TmL} {hp2:HpL}
 (r:Rl 1 1 205 0 49 1 ([(0,.ls 0 l.length),(1,.pv (iV n)),(2,.pv (.func (.func 206) #[] #[])),(8,.pv (iV (l.length:Int))),(9,.pv (iV (i:Int))),(10,.pv (iV (h:Int)))]) ([(0,0,qak l)]) e tm2 hp2):Rl 1 1 205 0 49 1 (qDI i j l n) ([(0,0,qak l)]) e tm2 hp2:=
 RunsL.next [] 300 [.t true,Re ha,Re hu,.r (.int .u64 (h:Int)),Re hb,.r (ptV p),Rf hc,.t false]
  (Ro (Ai hlt (Ai ha (Ai hu (Ai h1 (Ai hs (Ai hb (Ai hin (Ai (qaL hk) (Ai hc (Ai hz tI))))))))))) r
theorem qnb {l:List Pt} {i j:Nat} {n:Int} (hge:decide ((i:Int)<(j:Int))=false):Rl 1 1 205 0 49 1 (qDI i j l n) ([(0,0,qak l)]) (.exit 0) (qDI i j l n) ([(0,0,qak l)]):=
 RunsL.stop [] 300 [.t false] (fun h=>by cases h)
  (Ro (Ai hge tI))
abbrev qEh (k:Nat) (l:List Pt) (n:Int):Prop:=Rl 1 1 205 0 49 1 ([(0,.ls 0 l.length),(1,.pv (iV n)),(2,.pv (.func (.func 206) #[] #[])),(8,.pv (iV (l.length:Int))),(9,.pv (iV ((0:Nat):Int))),(10,.pv (iV (l.length:Int)))]) ([(0,0,qak l)]) (.exit 0) ([(0,.ls 0 l.length),(1,.pv (iV n)),(2,.pv (.func (.func 206) #[] #[])),(8,.pv (iV (l.length:Int))),(9,.pv (iV (k:Int))),(10,.pv (iV (k:Int)))]) ([(0,0,qak l)])
theorem qsG {l:List Pt} {k:Nat} {n:Int} (r0:qEh k l n) (hge:decide ((k:Int)<(l.length:Int))=false) :
 Fn 205 1 [.ls 0 l.length,.pv (iV (n)),.pv (.func (.func 206) #[] #[])] [(0,0,qak l)] (.pv (.tuple #[iV (k:Int),.bool false])) 0 []:=
 Fz [] [Lf r0,.t false]
  tI (Lo r0 [] (Ai hge tI))
theorem qp0 {l:List Pt} {k:Nat} {p:Pt} {c:Int} {n:Int} (r0:qEh k l n) (hk:l[k]?=some p) (hin:0≤(k:Int)∧(k:Int)<(l.length:Int)) (hlt:decide ((k:Int)<(l.length:Int))=true) (hc:qDj c n p) (hz:(c==0)=true) :
 Fn 205 1 [.ls 0 l.length,.pv (iV (n)),.pv (.func (.func 206) #[] #[])] [(0,0,qak l)] (.pv (.tuple #[iV (k:Int),.bool true])) 0 []:=
 Fz [] [Lf r0,.t true,.r (ptV p),Rf hc,.t true]
  tI (Lo r0 [] (Ai hlt (Ai hin (Ai (qaL hk) (Ai hc (Ai hz tI))))))
theorem qww {l:List Pt} {k:Nat} {p:Pt} {c:Int} {n:Int} (r0:qEh k l n) (hk:l[k]?=some p) (hin:0≤(k:Int)∧(k:Int)<(l.length:Int)) (hlt:decide ((k:Int)<(l.length:Int))=true) (hc:qDj c n p) (hz:(c==0)=false) :
 Fn 205 1 [.ls 0 l.length,.pv (iV (n)),.pv (.func (.func 206) #[] #[])] [(0,0,qak l)] (.pv (.tuple #[iV (k:Int),.bool false])) 0 []:=
 Fz [] [Lf r0,.t true,.r (ptV p),Rf hc,.t false]
  tI (Lo r0 [] (Ai hlt (Ai hin (Ai (qaL hk) (Ai hc (Ai hz tI))))))
theorem qd6 {l:List Pt} {k:Nat} {b:Bool} {x n:Int} (hb:Fn 205 1 [.ls 0 l.length,.pv (iV (n)),.pv (.func (.func 206) #[] #[])] [(0,0,qak l)] (.pv (.tuple #[iV (k:Int),.bool b])) 0 []) :
 Fn 165 1 [qaP 0 x l,.pv (iV (n))] [(0,0,qak l)] (.pv (.tuple #[iV (k:Int),.bool b])) 0 []:=
 Fz [] [Cf hb [0]]
  tI (Co hb [0] 2 tI)
abbrev qAZ (l:List Pt) (x:Int):Prop:=Fn 88 1 [qaP 0 x l] [(0,0,qak l)] (.pv (iV (0))) 0 []
theorem qAz {l:List Pt} {k:Nat} {x n:Int} (hc:qAZ l x) (hf:Fn 165 1 [qaP 0 x l,.pv (iV (n))] [(0,0,qak l)] (.pv (.tuple #[iV (k:Int),.bool false])) 0 []) :
 Fn 164 1 [qaP 0 x l,.pv (iV (n))] [(0,0,qak l)] (.pv (.tuple #[qag 0 0,iV 6])) 0 []:=
 Fz [] [Cf hc [0],.k,Cf hf [0],.k]
  tI (Co hc [0] 3 (Co hf [0] 3 tI))
theorem quc {l:List Pt} {k:Nat} {p:Pt} {x n:Int} (hk:l[k]?=some p) (hin:0≤(k:Int)∧(k:Int)<(l.length:Int)) (hc:qAZ l x) (hf:Fn 165 1 [qaP 0 x l,.pv (iV (n))] [(0,0,qak l)] (.pv (.tuple #[iV (k:Int),.bool true])) 0 []) :
 Fn 164 1 [qaP 0 x l,.pv (iV (n))] [(0,0,qak l)] (.pv (.tuple #[qag p.a p.b,iV 0])) 0 []:=
 Fz [] [Cf hc [0],.k,Cf hf [0],.k,.r (qag p.a p.b)]
  tI (Co hc [0] 3 (Co hf [0] 3 (Ai hin (Ai (qcQ hk) tI))))
abbrev qj8 (a:Int) (b:Int) (l:List Pt):HpL:=[(0,0,qak l),(1,0,.pv (iV a)),(1,1,.pv (iV b))]
abbrev qD5 (k:Nat) (l:List Pt):TmL:=[(0,.ls 0 l.length),(1,.pc 149 [.pp 1 0]),(7,.pv (iV (l.length:Int))),(8,.pv (iV (k:Int)))]
theorem qr2 {l:List Pt} {k:Nat} {p:Pt} {a b:Int} (hk:l[k]?=some p) (hin:0≤(k:Int)∧(k:Int)<(l.length:Int)) (hlt:decide ((k:Int)<(l.length:Int))=true) (he:(p.a==a&&(p.b==b&&true))=false) (hs:iV (IntKind.i64.wrap ((k:Int)+1))=iV (((k+1:Nat):Int))) {e:Exit} {tm2:TmL} {hp2:HpL}
 (r:Rl 2 2 184 0 19 2 ([(0,.ls 0 l.length),(1,.pc 149 [.pp 1 0]),(7,.pv (iV (l.length:Int))),(8,.pv (iV ((k+1:Nat):Int)))]) (qj8 a b l) e tm2 hp2):Rl 2 2 184 0 19 2 (qD5 k l) (qj8 a b l) e tm2 hp2:=
 RunsL.next [] 300 [.t true,.r (ptV p),.k,.t false,Re hs]
  (Ro (Ai hlt (Ai hin (Ai (qaL hk) (Ai he (Ai hs tI)))))) r
theorem qtW {l:List Pt} {k:Nat} {p:Pt} {a b:Int} (hk:l[k]?=some p) (hin:0≤(k:Int)∧(k:Int)<(l.length:Int)) (hlt:decide ((k:Int)<(l.length:Int))=true) (he:(p.a==a&&(p.b==b&&true))=true):Rl 2 2 184 0 19 2 (qD5 k l) (qj8 a b l) (.ret) ([(4,.pv (iV (k:Int)))]) ([]):=
 RunsL.stop [] 300 [.t true,.r (ptV p),.k,.t true] (fun h=>by cases h)
  (Ro (Ai hlt (Ai hin (Ai (qaL hk) (Ai he tI)))))
theorem qxY {l:List Pt} {k:Nat} {a b:Int} (hge:decide ((k:Int)<(l.length:Int))=false):Rl 2 2 184 0 19 2 (qD5 k l) (qj8 a b l) (.exit 0) ([]) ([]):=
 RunsL.stop [] 300 [.t false] (fun h=>by cases h)
  (Ro (Ai hge tI))
theorem qA8 {l:List Pt} {a b:Int} (r0:Rl 2 2 184 0 19 2 ([(0,.ls 0 l.length),(1,.pc 149 [.pp 1 0]),(7,.pv (iV (l.length:Int))),(8,.pv (iV ((0:Nat):Int)))]) (qj8 a b l) (.exit 0) ([]) ([])) :
 Fn 184 2 [.ls 0 l.length,.pc 149 [.pp 1 0]] (qj8 a b l) (.pv (iV (-1))) 0 []:=
 Fz [] [Lf r0]
  tI (Lo r0 [] tI)
theorem qx6 {l:List Pt} {k:Nat} {a b:Int} (r0:Rl 2 2 184 0 19 2 ([(0,.ls 0 l.length),(1,.pc 149 [.pp 1 0]),(7,.pv (iV (l.length:Int))),(8,.pv (iV ((0:Nat):Int)))]) (qj8 a b l) (.ret) ([(4,.pv (iV (k:Int)))]) ([])) :
 Fn 184 2 [.ls 0 l.length,.pc 149 [.pp 1 0]] (qj8 a b l) (.pv (iV (k:Int))) 0 []:=
 Fz [] [Lf r0]
  tI (Lo r0 [] tI)
theorem qzS {l:List Pt} {a b:Int} (hi:Fn 184 2 [.ls 0 l.length,.pc 149 [.pp 1 0]] (qj8 a b l) (.pv (iV (-1))) 0 []) :
 Fn 140 2 [.ls 0 l.length,.pc 149 [.pp 1 0]] (qj8 a b l) (.pv (.bool false)) 0 []:=
 Fz [] [Cf hi [0,1],.k]
  tI (Co hi [0,1] 2 tI)
theorem qxG {l:List Pt} {k:Nat} {a b:Int} (hi:Fn 184 2 [.ls 0 l.length,.pc 149 [.pp 1 0]] (qj8 a b l) (.pv (iV (k:Int))) 0 []) (h0:decide ((k:Int)≥0)=true) :
 Fn 140 2 [.ls 0 l.length,.pc 149 [.pp 1 0]] (qj8 a b l) (.pv (.bool true)) 0 []:=
 Fz [] [Cf hi [0,1],.t true]
  tI (Co hi [0,1] 2 (Ai h0 tI))
theorem qwv {l:List Pt} {x a b:Int} (hv:Pure Tryz.prog 148 #[qag a b] (.bool false)) :
 Fn 103 1 [qaP 0 x l,.pv (qag a b)] [(0,0,qak l)] (.pv (iV (8))) 0 []:=
 Fz [] [Rf hv,.k]
  tI (Ai hv tI)
theorem qt5 {l:List Pt} {x a b:Int} (hv:Pure Tryz.prog 148 #[qag a b] (.bool true)) (ht:Fn 140 2 [.ls 0 l.length,.pc 149 [.pp 1 0]] (qj8 a b l) (.pv (.bool true)) 0 []) :
 Fn 103 1 [qaP 0 x l,.pv (qag a b)] [(0,0,qak l)] (.pv (iV (14))) 0 []:=
 Fz [] [Rf hv,.k,Cf ht [0,2]]
  tI (Ai hv (Co ht [0,2] 3 tI))
theorem qyN {l:List Pt} {x a b:Int} (hv:Pure Tryz.prog 148 #[qag a b] (.bool true)) (ht:Fn 140 2 [.ls 0 l.length,.pc 149 [.pp 1 0]] (qj8 a b l) (.pv (.bool false)) 0 []) :
 Fn 103 1 [qaP 0 x l,.pv (qag a b)] [(0,0,qak l)] (.pv (iV (0))) 0 []:=
 Fz [] [Rf hv,.k,Cf ht [0,2]]
  tI (Ai hv (Co ht [0,2] 3 tI))
theorem qss {l:List Pt} {x:Int} (hf:((l.length:Int)==200)=true) :
 Fn 104 1 [qaP 0 x l] [(0,0,qak l)] (.pv (iV (18))) 0 []:=
 Fz [] [.t true]
  tI (Ai hf tI)
theorem qsF {l:List Pt} {x:Int} (hf:((l.length:Int)==200)=false) (hu:(x==1000000)=true) :
 Fn 104 1 [qaP 0 x l] [(0,0,qak l)] (.pv (iV (18))) 0 []:=
 Fz [] [.t false,.t true]
  tI (Ai hf (Ai hu tI))
theorem qzz {l:List Pt} {x:Int} (hf:((l.length:Int)==200)=false) (hu:(x==1000000)=false) :
 Fn 104 1 [qaP 0 x l] [(0,0,qak l)] (.pv (iV (0))) 0 []:=
 Fz [] [.t false,.t false]
  tI (Ai hf (Ai hu tI))
theorem qFL {s:Int} (h0:decide (s<0)=false) (hs:iV (IntKind.i64.wrap (s-0))=iV (s)) (hg:decide (s>0)=false) :
 Fn 150 0 [.pv (.slice none 0 0),.pv (iV (s))] [] (.pv (.slice none 0 0)) 0 []:=
 Fz [] [.t false,.k,Re hs,.t false]
  tI (Ai h0 (Ai hs (Ai hg tI)))
theorem qCF {s:Int} (h0:decide (s<0)=false) (hs:iV (IntKind.i64.wrap (s-0))=iV (s)) (hg:decide (s>0)=true) (a0:0≤s) (a1:s≤1000000) :
 Fn 150 0 [.pv (.slice none 0 0),.pv (iV (s))] [] (.ls 0 0) 1 [(0,0,qak ([]:List Pt))]:=
 Fz [(0,1)] [.t false,.k,Re hs,.t true,.w []]
  (qaE (qaK [(0,1)]) [(0,0,qak ([]:List Pt))]) (Ai h0 (Ai hs (Ai hg (Ai a0 (Ai a1 (Ai (Int.le_refl (0:Int)) (Ai (Nat.zero_le s.toNat) tI)))))))
theorem qHr {l:List Pt} {x a b:Int} {s1 s2:Int} (q1:iV (IntKind.i64.wrap ((0:Int)+(l.length:Int)))=iV (s1)) (n1:decide (s1<0)=false) (q2:iV (IntKind.i64.wrap (s1+((1:Nat):Int)))=iV (s2)) (n2:decide (s2<0)=false) (hgr:Fn 150 0 [.pv (.slice none 0 0),.pv (iV (s2))] [] (.ls 0 0) 1 [(0,0,qak ([]:List Pt))]) (a1:0+l.length≤1000000) (a2:0+l.length+1≤1000000) :
 Fn 105 3 [.ps 2 0 2 2] [(2,0,.ls 0 l.length),(2,1,.ps 1 0 1 1),(1,0,.pv (iV x)),(1,1,.pv (iV a)),(1,2,.pv (iV b)),(0,0,qak l)] (.ls 3 (l++[(Pt.mk x a b)]).length) 1 [(3,0,qak (l++[(Pt.mk x a b)]))]:=
 Fx [(3,5)] [.k,Re q1,.t false,.k,.k,.r (iV (s2)),.t false,.k,.k,Cf hgr [],.k,.k,.k,.k,.k]
  (qzV l (Pt.mk x a b)) (Ai (qpD l (Pt.mk x a b)) tI) (Ai q1 (Ai n1 (Ai q2 (Ai n2 (Co hgr [] 3 (Ai a1 (Ai a2 tI)))))))
abbrev qFq (k:Nat) (l:List Pt):HpL:=[(1,0,.lq 0 3 0 k),(1,1,.lq 0 3 (0+(k+1)) (l.length-(k+1))),(0,0,qak l)]
theorem qzc {l:List Pt} {k:Nat} {s1 s2:Int} (q1:iV (IntKind.i64.wrap ((0:Int)+((k:Nat):Int)))=iV (s1)) (n1:decide (s1<0)=false) (q2:iV (IntKind.i64.wrap (s1+((l.length-(k+1):Nat):Int)))=iV (s2)) (n2:decide (s2<0)=false) (hgr:Fn 150 0 [.pv (.slice none 0 0),.pv (iV (s2))] [] (.ls 0 0) 1 [(0,0,qak ([]:List Pt))]) (a1:0+k≤1000000) (a2:0+k+(l.length-(k+1))≤1000000) (hkl1:k+1≤l.length) :
 Fn 105 2 [.ps 1 0 2 2] (qFq k l) (.ls 2 (l.take k++l.drop (k+1)).length) 1 [(2,0,qak (l.take k++l.drop (k+1)))]:=
 Fx [(2,4)] [.k,.r (iV (s1)),.t false,.k,.k,.r (iV (s2)),.t false,.k,.k,Cf hgr [],.k,.k,.k,.k,.k]
  (qkE 4 l k hkl1) (Ai (qkb l k hkl1) tI) (Ai q1 (Ai n1 (Ai q2 (Ai n2 (Co hgr [] 2 (Ai a1 (Ai a2 tI)))))))
theorem qz7 {l:List Pt} {k:Nat} {s1 s2:Int} (q1:iV (IntKind.i64.wrap ((0:Int)+((k:Nat):Int)))=iV (s1)) (n1:decide (s1<0)=false) (q2:iV (IntKind.i64.wrap (s1+((l.length-(k+1):Nat):Int)))=iV (s2)) (n2:decide (s2<0)=false) (hgr:Fn 150 0 [.pv (.slice none 0 0),.pv (iV (s2))] [] (.pv (.slice none 0 0)) 0 []) (a1:0+k≤1000000) (a2:0+k+(l.length-(k+1))≤1000000) (hkl1:k+1≤l.length) :
 Fn 105 2 [.ps 1 0 2 2] (qFq k l) (.ls 2 (l.take k++l.drop (k+1)).length) 1 [(2,0,qak (l.take k++l.drop (k+1)))]:=
 Fx [(2,3)] [.k,.r (iV (s1)),.t false,.k,.k,.r (iV (s2)),.t false,.k,.k,Cf hgr [],.k,.k,.k,.k,.k]
  (qkE 3 l k hkl1) (Ai (qkb l k hkl1) tI) (Ai q1 (Ai n1 (Ai q2 (Ai n2 (Co hgr [] 2 (Ai a1 (Ai a2 tI)))))))
theorem qBF {l:List Pt} {x a b e e2 e3:Int} (c1:Fn 88 1 [qaP 0 x l] [(0,0,qak l)] (.pv (iV (e))) 0 []) (c2:Fn 103 1 [qaP 0 x l,.pv (qag a b)] [(0,0,qak l)] (.pv (iV (e2))) 0 []) (c3:Fn 104 1 [qaP 0 x l] [(0,0,qak l)] (.pv (iV (e3))) 0 []) (he:(e !=0)=true) :
 Fn 57 1 [qaP 0 x l,.pv (qag a b)] [(0,0,qak l)] (.pv (.tuple #[.agg #[iV 0,.slice none 0 0],iV 0,iV e])) 0 []:=
 Fz [] [Cf c1 [0],Cf c2 [0],Cf c3 [0],.k,.k,.t true,.t true]
  tI (Co c1 [0] 4 (Co c2 [0] 4 (Co c3 [0] 4 (Ai he (Ai he tI)))))
theorem qti {l:List Pt} {x a b e e3:Int} (c1:qAZ l x) (c2:Fn 103 1 [qaP 0 x l,.pv (qag a b)] [(0,0,qak l)] (.pv (iV (e))) 0 []) (c3:Fn 104 1 [qaP 0 x l] [(0,0,qak l)] (.pv (iV (e3))) 0 []) (he:(e !=0)=true) :
 Fn 57 1 [qaP 0 x l,.pv (qag a b)] [(0,0,qak l)] (.pv (.tuple #[.agg #[iV 0,.slice none 0 0],iV 0,iV e])) 0 []:=
 Fz [] [Cf c1 [0],Cf c2 [0],Cf c3 [0],.k,.k,.k,.k,.k,.t true,.t true]
  tI (Co c1 [0] 4 (Co c2 [0] 4 (Co c3 [0] 4 (Ai he (Ai he tI)))))
theorem qtH {l:List Pt} {x a b e:Int} (c1:qAZ l x) (c2:Fn 103 1 [qaP 0 x l,.pv (qag a b)] [(0,0,qak l)] (.pv (iV (0))) 0 []) (c3:Fn 104 1 [qaP 0 x l] [(0,0,qak l)] (.pv (iV (e))) 0 []) (he:(e !=0)=true) :
 Fn 57 1 [qaP 0 x l,.pv (qag a b)] [(0,0,qak l)] (.pv (.tuple #[.agg #[iV 0,.slice none 0 0],iV 0,iV e])) 0 []:=
 Fz [] [Cf c1 [0],Cf c2 [0],Cf c3 [0],.k,.k,.k,.k,.k,.k,.k,.k,.t true,.t true]
  tI (Co c1 [0] 4 (Co c2 [0] 4 (Co c3 [0] 4 (Ai he (Ai he tI)))))
theorem qzt {l:List Pt} {x y a b:Int} (c1:qAZ l x) (c2:Fn 103 1 [qaP 0 x l,.pv (qag a b)] [(0,0,qak l)] (.pv (iV (0))) 0 []) (c3:Fn 104 1 [qaP 0 x l] [(0,0,qak l)] (.pv (iV (0))) 0 []) (hcat:Fn 105 3 [.ps 2 0 2 2] [(2,0,.ls 0 l.length),(2,1,.ps 1 0 1 1),(1,0,.pv (iV x)),(1,1,.pv (iV a)),(1,2,.pv (iV b)),(0,0,qak l)] (.ls 3 (l++[(Pt.mk x a b)]).length) 1 [(3,0,qak (l++[(Pt.mk x a b)]))]) (hy:iV (IntKind.i64.wrap (x+1))=iV (y)) :
 Fn 57 1 [qaP 0 x l,.pv (qag a b)] [(0,0,qak l)] (.tu [.ag [.pv (iV y),.ls 1 (l++[(Pt.mk x a b)]).length],.one (.pv (iV x)),.one (.pv (iV 0))]) 1 [(1,0,qak (l++[(Pt.mk x a b)]))]:=
 Fz [(1,7)] [Cf c1 [0],Cf c2 [0],Cf c1 [0],.k,.k,.k,.k,.k,.k,.k,.k,.k,.k,.k,.k,Cf hcat [0,5,6],Re hy]
  (qaE (qaK [(1,7)]) [(1,0,qak (l++[(Pt.mk x a b)]))]) (Co c1 [0] 4 (Co c2 [0] 4 (Co c3 [0] 4 (Co hcat [0,5,6] 7 (Ai hy tI)))))
theorem qxh {l:List Pt} {x n a b e:Int} (hg:Fn 164 1 [qaP 0 x l,.pv (iV (n))] [(0,0,qak l)] (.pv (.tuple #[qag a b,iV e])) 0 []) (he:(e !=0)=true) :
 Fn 114 1 [qaP 0 x l,.pv (iV (n))] [(0,0,qak l)] (.pv (.tuple #[.agg #[iV 0,.slice none 0 0],qag 0 0,iV e])) 0 []:=
 Fz [] [Cf hg [0],.t true]
  tI (Co hg [0] 4 (Ai he tI))
theorem qz0 {l:List Pt} {k:Nat} {x n a b:Int} (hg:Fn 164 1 [qaP 0 x l,.pv (iV (n))] [(0,0,qak l)] (.pv (.tuple #[qag a b,iV 0])) 0 []) (hf:Fn 165 1 [qaP 0 x l,.pv (iV (n))] [(0,0,qak l)] (.pv (.tuple #[iV (k:Int),.bool true])) 0 []) (hkl:k≤l.length) (hkl1:k+1≤l.length) (hk1:iV (IntKind.i64.wrap ((k:Int)+1))=iV (((k+1:Nat):Int))) (hcut:Fn 105 2 [.ps 1 0 2 2] (qFq k l) (.ls 2 (l.take k++l.drop (k+1)).length) 1 [(2,0,qak (l.take k++l.drop (k+1)))]) :
 Fn 114 1 [qaP 0 x l,.pv (iV (n))] [(0,0,qak l)] (.tu [.ag [.pv (iV x),.ls 1 (l.take k++l.drop (k+1)).length],.one (.pv (qag a b)),.one (.pv (iV 0))]) 1 [(1,0,qak (l.take k++l.drop (k+1)))]:=
 Fz [(1,6)] [Cf hg [0],.k,Cf hf [0],.md,.k,Re hk1,.k,Cf hcut [0,5]]
  (qaE (qaK [(1,6)]) [(1,0,qak (l.take k++l.drop (k+1)))]) (Co hg [0] 4 (Co hf [0] 5 (Ai tI (Ai (Int.natCast_nonneg k) (Ai (Nat.zero_le k) (Ai hkl (Ai hk1 (Ai (Int.natCast_nonneg (k+1)) (Ai tI (Ai hkl1 (Ai (Nat.le_refl l.length) (Co hcut [0,5] 6 tI))))))))))))
theorem qHK :
 Pure Tryz.prog 52 #[] (.agg #[iV 0,.slice none 0 0]):=
 qad (args:=[]) 300 []
  (Ai rfl tI) (by kernel_rfl)
end Go.Proofs.YtkjaanhddkkodaaGreat

namespace Go.Proofs.YtkjaanhddkkodaaGreat
set_option maxRecDepth 100000
open Go.RowKit
theorem qeN (a b:Int):Pure Tryz.prog 71 #[qag a b] (.bool (qcR a b)):=by
 have no:∀ {P:Prop},¬ P→(qcR a b=true→P)→qcR a b=false:=fun h k=>by
  cases e:qcR a b
  ·rfl
  ·exact (h (k e)).elim
 by_cases h1:0≤a
 ·by_cases h2:a≤65535
  ·by_cases h3:0≤b
   ·by_cases h4:b≤65535
    ·by_cases h5:a=b
     ·rw[no (P:=a≠b) (fun h=>h h5) (fun h=>(qbq.1 h).2.2.2.2)]
      exact qF7 (dt h1) (dt h2) (dt h3) (dt h4) (by simpa using h5)
     ·rw[qbq.2 ⟨h1,h2,h3,h4,h5⟩]
      exact qFG (dt h1) (dt h2) (dt h3) (dt h4) (by simpa using h5)
    ·rw[no h4 (fun h=>(qbq.1 h).2.2.2.1)]
     exact qHy (dt h1) (dt h2) (dt h3) (df h4)
   ·rw[no h3 (fun h=>(qbq.1 h).2.2.1)]
    exact qHO (dt h1) (dt h2) (df (by omega))
  ·rw[no h2 (fun h=>(qbq.1 h).2.1)]
   exact qHP (dt h1) (df h2)
 ·rw[no h1 (fun h=>(qbq.1 h).1)]
  exact qHo (df (by omega))
abbrev qDh (k:Nat):List (Nat×SV):=[(1,.pp 1 0),(3,.pv (iV (k:Int)))]
abbrev qoB (k j:Nat):List (Nat×SV):=[(1,.pp 1 0),(3,.pv (iV (k:Int))),(4,.pp 2 0),(5,.pv (iV (j:Int)))]
abbrev qAR (x:Int) (l:List Pt):List (Nat×Nat×SV):=[(1,0,.pv (iV x)),(1,1,.ls 0 l.length),(0,0,qak l)]
abbrev qm6 (x:Int) (l:List Pt) (p:Pt):List (Nat×Nat×SV):=[(1,0,.pv (iV x)),(1,1,.ls 0 l.length),(2,0,.pv (iV p.id)),(2,1,.pv (iV p.a)),(2,2,.pv (iV p.b)),(0,0,qak l)]
theorem qpe {p q:Pt} (h:¬ (q.a=p.a∧q.b=p.b)):(q.a==p.a&&(q.b==p.b&&true))=false:=by
 rw[Bool.and_true]
 cases e:(q.a==p.a&&q.b==p.b)
 ·rfl
 ·rw[Bool.and_eq_true,beq_iff_eq,beq_iff_eq] at e;exact (h e).elim
theorem qnn {p q:Pt} (h:q.a=p.a∧q.b=p.b):(q.a==p.a&&(q.b==p.b&&true))=true:=by rw[h.1,h.2];simp
theorem qkX {x:Int} {l:List Pt} {p:Pt} {k:Nat} (hn:l.length≤1000000) (hkl:k≤l.length) {j:Nat} (hj:j≤k) (h:∀ i,i<j→∀ q,l[i]?=some q→¬ (q.a=p.a∧q.b=p.b)) {e:Exit} {tm2:TmL} {hp2:HpL}
 (r:Rl 1 1 76 1 78 3 (qoB k j) (qm6 x l p) e tm2 hp2):Rl 1 1 76 1 78 3 (qoB k 0) (qm6 x l p) e tm2 hp2:=by
 refine RunsL.rounds (fun i=>qoB k i) (fun _=>qm6 x l p) (N:=j) j 0 (Nat.zero_add _) (fun i _ hi r=>?_) r
 obtain⟨q,hq⟩:=qah (l:=l) (k:=i) (by omega)
 exact qnY hq (qao (qai hq)) (dt (by omega)) (qpe (h i hi q hq)) (qar (by omega)) r
theorem qta {x:Int} {l:List Pt} {p:Pt} {k:Nat} (hn:l.length≤1000000) (hkl:k≤l.length) (h:∀ i,i<k→∀ q,l[i]?=some q→¬ (q.a=p.a∧q.b=p.b)) :
 Rl 1 1 76 1 78 3 (qoB k 0) (qm6 x l p) (.exit 2) (qDh k) (qAR x l):=
 qkX hn hkl (Nat.le_refl k) h (qsd (df (by omega)))
theorem qvG {x:Int} {l:List Pt} {p:Pt} {k:Nat} (hn:l.length≤1000000) (hkl:k≤l.length) (h:¬ ∀ i,i<k→∀ q,l[i]?=some q→¬ (q.a=p.a∧q.b=p.b)) :
 Rl 1 1 76 1 78 3 (qoB k 0) (qm6 x l p) .ret [(2,.pv (iV 8))] []:=by
 rcases qaZ (fun i=>∀ q,l[i]?=some q→¬ (q.a=p.a∧q.b=p.b)) k with h1 | ⟨j,hj,hb,hf⟩
 ·exact (h h1).elim
 ·simp only[Classical.not_forall,Classical.not_not] at hb
  obtain⟨q,hq,he⟩:=hb
  exact qkX hn hkl (by omega) hf (qrC hq (qao (qai hq)) (dt (by omega)) (qnn he))
def At8 (x:Int) (l:List Pt) (k:Nat):Prop:=∀ p,l[k]?=some p→qcR p.a p.b=true∧0≤p.id∧p.id<x∧(∀ j q,k=j+1→l[j]?=some q→q.id<p.id)∧∀ i,i<k→∀ q,l[i]?=some q→¬ (q.a=p.a∧q.b=p.b)
theorem qoy (x:Int) (l:List Pt):FnL Tryz.prog 76 1 [qaP 0 x l] [(0,0,qak l)] (.pv (.int .i64 (qym x l))) 0 []:=by
 by_cases h0:l.length≤200
 ·by_cases h1:0≤x
  ·by_cases h2:x≤1000000
   ·have step:∀ k,(∀ j,j<k→At8 x l j)→∀ {e:Exit} {tm2:TmL} {hp2:HpL},k≤l.length→
     RunsL Tryz.prog 1 1 (qfC Tryz.prog 76 0) 78 2 (qDh k) (qAR x l) e tm2 hp2→RunsL Tryz.prog 1 1 (qfC Tryz.prog 76 0) 78 2 (qDh 0) (qAR x l) e tm2 hp2:=by
     intro k hk e tm2 hp2 hkl r
     refine RunsL.rounds (fun j=>qDh j) (fun _=>qAR x l) (N:=k) k 0 (Nat.zero_add _) (fun j _ hj r=>?_) r
     obtain⟨p,hp⟩:=qah (l:=l) (k:=j) (by omega)
     obtain⟨a1,a2,a3,a4,a5⟩:=hk j hj p hp
     have hjl:=qai hp
     cases j with
     | zero=>exact qGj (hk:=hp) (hin:=qao hjl) (hlt:=dt (by omega)) (hv:=a1▸qeN p.a p.b) (h1:=df (by omega)) (h2:=df (by omega)) (hz:=df (by omega)) (r1:=qta (by omega) (by omega) a5) (hs:=qar (by omega)) r
     | succ i=>
      obtain⟨q,hq⟩:=qah (l:=l) (k:=i) (by omega)
      exact qE6 (hk:=hp) (hin:=qao hjl) (hlt:=dt (by omega)) (hv:=a1▸qeN p.a p.b) (h1:=df (by omega)) (h2:=df (by omega)) (hz:=dt (by omega)) (hq:=hq) (hin0:=qao (qai hq)) (hm:=qbR i (by omega)) (hg:=df (by have:=a4 i q rfl hq;omega)) (r1:=qta (by omega) (by omega) a5) (hs:=qar (by omega)) r
    rcases qaZ (At8 x l) l.length with h | ⟨j,hj,hb,hf⟩
    ·have hv:V8 x l:=⟨h0,fun p hp=>by
      obtain⟨k,hk,rfl⟩:=List.getElem_of_mem hp
      exact (h k hk _ (List.getElem?_eq_getElem hk)).1,fun k p q hp hq=>(h (k+1) (qai hq) q hq).2.2.2.1 k p rfl hp,fun p hp=>by
      obtain⟨k,hk,rfl⟩:=List.getElem_of_mem hp
      exact (h k hk _ (List.getElem?_eq_getElem hk)).2.1,fun p hp=>by
      obtain⟨k,hk,rfl⟩:=List.getElem_of_mem hp
      exact (h k hk _ (List.getElem?_eq_getElem hk)).2.2.1,⟨h1,h2⟩,fun i k p q hik hp hq=>(h k (qai hq) q hq).2.2.2.2 i hik p hp⟩
     rw[qdr hv]
     exact qCM (df (by omega)) (df (by omega)) (df (by omega)) (step l.length h (Nat.le_refl _) (qva (df (by omega))))
    ·rw[qbC fun hv=>hb fun p hp=>⟨hv.ok p (List.mem_of_getElem? hp),hv.lo p (List.mem_of_getElem? hp),hv.hi p (List.mem_of_getElem? hp),fun i q e hq=>by subst e;exact hv.up i q p hq hp,fun i hi q hq=>hv.dis i j q p hi hq hp⟩]
     refine qvT (df (by omega)) (df (by omega)) (df (by omega)) (step j hf (by omega) ?_)
     obtain⟨p,hp⟩:=qah hj
     by_cases c1:qcR p.a p.b=true
     ·by_cases c2:0≤p.id
      ·by_cases c3:p.id<x
       ·cases j with
        | zero=>exact (hb fun p' hp'=>by rw[hp] at hp';cases hp';exact⟨c1,c2,c3,fun i q e=>by omega,fun i hi=>by omega⟩).elim
        | succ i=>
         obtain⟨q,hq⟩:=qah (l:=l) (k:=i) (by omega)
         by_cases c4:q.id<p.id
         ·refine qof (hk:=hp) (hin:=qao hj) (hlt:=dt (by omega)) (hv:=c1▸qeN p.a p.b) (h1:=df (by omega)) (h2:=df (by omega)) (hz:=dt (by omega)) (hq:=hq) (hin0:=qao (qai hq)) (hm:=qbR i (by omega)) (hg:=df (by omega)) (r1:=qvG (by omega) (by omega) fun hno=>hb fun p' hp'=>?_)
          rw[hp] at hp';cases hp'
          exact⟨c1,c2,c3,fun i' q' e hq'=>by cases e;rw[hq] at hq';cases hq';exact c4,hno⟩
         ·exact qGa (hk:=hp) (hin:=qao hj) (hlt:=dt (by omega)) (hv:=c1▸qeN p.a p.b) (h1:=df (by omega)) (h2:=df (by omega)) (hz:=dt (by omega)) (hq:=hq) (hin0:=qao (qai hq)) (hm:=qbR i (by omega)) (hg:=dt (by omega))
       ·exact qGq (hk:=hp) (hin:=qao hj) (hlt:=dt (by omega)) (hv:=c1▸qeN p.a p.b) (h1:=df (by omega)) (h2:=dt (by omega))
      ·exact qFA (hk:=hp) (hin:=qao hj) (hlt:=dt (by omega)) (hv:=c1▸qeN p.a p.b) (h1:=dt (by omega))
     ·have c1':qcR p.a p.b=false:=by simpa using c1
      exact qE7 (hk:=hp) (hin:=qao hj) (hlt:=dt (by omega)) (hv:=c1'▸qeN p.a p.b)
   ·rw[qbC fun h=>h2 h.nx.2]
    exact qvm (df (by omega)) (df (by omega)) (dt (by omega))
  ·rw[qbC fun h=>h1 h.nx.1]
   exact qws (df (by omega)) (dt (by omega))
 ·rw[qbC fun h=>h0 h.len]
  exact qq3 (dt (by omega))
theorem qhH (x:Int) {l:List Pt} (hn:l.length≤1000000):Fn 53 1 [qaP 0 x l] [(0,0,qak l)] (.ag [.pv (iV x),.ls 1 l.length]) 1 [(1,0,qak l)]:=qsY (by omega)
theorem qrx (x:Int) {l:List Pt} (hn:l.length≤1000000):Fn 43 2 [qaP 0 x l,qaP 1 x l] [(0,0,qak l),(1,0,qak l)] (.pv (.bool true)) 0 []:=
 qvf (by simp) (by simp) (RunsL.rounds (fun k=>[(2,.pp 2 0),(3,.pp 3 0),(5,.pv (iV (k:Int)))]) (fun _=>[(2,0,.pv (iV x)),(2,1,.ls 0 l.length),(3,0,.pv (iV x)),(3,1,.ls 1 l.length),(0,0,qak l),(1,0,qak l)]) l.length 0 (Nat.zero_add _)
  (fun k _ hk r=>by
   obtain⟨p,hp⟩:=qah hk
   exact qro hp (qao hk) hp (qao hk) (dt (by omega)) (by simp) (qar (by omega)) r)
  (qwX (df (by omega))))
theorem qtg {l:List Pt} (hu:Up l) (n:Int):(∃ (k:Nat) (p:Pt),l[k]?=some p∧p.id=n)∨((∀ p∈l,p.id≠n)∧∃ k,k≤l.length∧(∀ (t:Nat) (p:Pt),t<k→l[t]?=some p→p.id<n)∧∀ (t:Nat) (p:Pt),k≤t→l[t]?=some p→n<p.id):=by
 by_cases h:∃ (k:Nat) (p:Pt),l[k]?=some p∧p.id=n
 ·exact Or.inl h
 ·refine Or.inr ⟨fun p hp e=>?_,?_⟩
  ·obtain⟨k,hk,rfl⟩:=List.getElem_of_mem hp
   exact h ⟨k,_,List.getElem?_eq_getElem hk,e⟩
  ·rcases qaZ (fun k=>∀ p,l[k]?=some p→p.id<n) l.length with hh | ⟨j,hj,hn,hb⟩
   ·exact⟨l.length,Nat.le_refl _,fun t p ht hp=>hh t ht p hp,fun t p ht hp=>by have:=qai hp;omega⟩
   ·refine⟨j,by omega,fun t p ht hp=>hb t ht p hp,fun t p ht hp=>?_⟩
    simp only[Classical.not_forall] at hn
    obtain⟨q,hq,hlt⟩:=hn
    have hne:q.id≠n:=fun e=>h ⟨j,q,hq,e⟩
    rcases Nat.lt_or_ge j t with h' | h'
    ·have:=hu.mono h' hq hp;omega
    ·have:t=j:=by omega
     subst this
     rw[hq] at hp
     cases hp
     omega
theorem qtp {l:List Pt} (hu:Up l) {i j:Nat} {p q:Pt} (hp:l[i]?=some p) (hq:l[j]?=some q) (h:p.id=q.id):i=j∧p=q:=by
 rcases Nat.lt_trichotomy i j with e | e | e
 ·have:=hu.mono e hp hq;omega
 ·subst e;rw[hp] at hq;cases hq;exact⟨rfl,rfl⟩
 ·have:=hu.mono e hq hp;omega
theorem qel {l:List Pt} (hu:Up l) {k:Nat} {p:Pt} (hk:l[k]?=some p):(l.filter fun q=>decide (q.id≠p.id))=l.take k++l.drop (k+1):=by
 obtain⟨hkl,e⟩:=List.getElem?_eq_some_iff.1 hk
 have h1:l=l.take k++p::l.drop (k+1):=by rw[← e];simp
 have h2:∀ q∈l.take k,decide (q.id≠p.id)=true:=fun q hq=>by
  obtain⟨i,hi,hq'⟩:=qkU hq
  have:=hu.mono hi hq' hk
  exact dt (by omega)
 have h3:∀ q∈l.drop (k+1),decide (q.id≠p.id)=true:=fun q hq=>by
  obtain⟨i,hi,rfl⟩:=List.getElem_of_mem hq
  have hq':l[k+1+i]?=some (l.drop (k+1))[i]:=by rw[← List.getElem?_drop];exact List.getElem?_eq_getElem hi
  have:=hu.mono (show k<k+1+i by omega) hk hq'
  exact dt (by omega)
 conv=>lhs;rw[h1]
 rw[List.filter_append,List.filter_cons_of_neg (by simp),List.filter_eq_self.2 h2,List.filter_eq_self.2 h3]
theorem qwx (x:Int) {l:List Pt} (hn:l.length≤1000000) (hu:Up l) {n:Int} {k:Nat} {p:Pt} (hk:l[k]?=some p) (he:p.id=n):Fn 41 1 [qaP 0 x l,.pv (iV n)] [(0,0,qak l)] (.pv (iV (k:Int))) 0 []:=by
 have hl:=qai hk
 refine qwp (RunsL.rounds (fun k=>[(1,.pv (iV n)),(2,.pp 1 0),(5,.pv (iV (k:Int)))]) (fun _=>qAR x l) k 0 (Nat.zero_add _) (fun j _ hj r=>?_) (qvP hk (qao hl) (dt (by omega)) (by simpa using he)))
 obtain⟨q,hq⟩:=qah (l:=l) (k:=j) (by omega)
 exact qqo hq (qao (qai hq)) (dt (by omega)) (by have:=hu.mono hj hq hk;simp;omega) (qar (by omega)) r
noncomputable def qhB (l:List Pt) (a b:Int):Bool:=open Classical in decide (∃ p∈l,p.a=a∧p.b=b)
theorem qdK {l:List Pt} {a b:Int}:qhB l a b=true↔∃ p∈l,p.a=a∧p.b=b:=by unfold qhB;exact decide_eq_true_iff
theorem qjw {l:List Pt} {a b:Int} (h:∀ (k:Nat) (p:Pt),l[k]?=some p→¬ (p.a=a∧p.b=b)):qhB l a b=false:=by
 cases e:qhB l a b
 ·rfl
 ·obtain⟨p,hp,he⟩:=qdK.1 e
  obtain⟨k,hk,rfl⟩:=List.getElem_of_mem hp
  exact (h k _ (List.getElem?_eq_getElem hk) he).elim
theorem qxm (x:Int) {l:List Pt} (hn:l.length≤1000000) (a b:Int):Fn 176 1 [qaP 0 x l,.pv (qag a b)] [(0,0,qak l)] (.pv (.bool (qhB l a b))) 0 []:=by
 have step:∀ k,(∀ j,j<k→∀ p,l[j]?=some p→¬ (p.a=a∧p.b=b))→∀ {e:Exit} {tm2:TmL} {hp2:HpL},k≤l.length→
  Rl 1 1 176 0 21 3 [(2,.pp 1 0),(3,.pp 2 0),(5,.pv (iV (k:Int)))] [(1,0,.pv (iV x)),(1,1,.ls 0 l.length),(2,0,.pv (iV a)),(2,1,.pv (iV b)),(0,0,qak l)] e tm2 hp2→
  Rl 1 1 176 0 21 3 [(2,.pp 1 0),(3,.pp 2 0),(5,.pv (iV ((0:Nat):Int)))] [(1,0,.pv (iV x)),(1,1,.ls 0 l.length),(2,0,.pv (iV a)),(2,1,.pv (iV b)),(0,0,qak l)] e tm2 hp2:=by
  intro k hk e tm2 hp2 hkl r
  refine RunsL.rounds (fun j=>[(2,.pp 1 0),(3,.pp 2 0),(5,.pv (iV (j:Int)))]) (fun _=>[(1,0,.pv (iV x)),(1,1,.ls 0 l.length),(2,0,.pv (iV a)),(2,1,.pv (iV b)),(0,0,qak l)]) (N:=k) k 0 (Nat.zero_add _) (fun j _ hj r=>?_) r
  obtain⟨p,hp⟩:=qah (l:=l) (k:=j) (by omega)
  exact qqI hp (qao (qai hp)) (dt (by have:=qai hp;omega)) (qpe (p:=⟨0,a,b⟩) (hk j hj p hp)) (qar (by omega)) r
 rcases qaZ (fun j=>∀ p,l[j]?=some p→¬ (p.a=a∧p.b=b)) l.length with h | ⟨j,hj,hb,hf⟩
 ·rw[qjw fun k p hp=>h k (qai hp) p hp]
  exact qB6 (step l.length h (Nat.le_refl _) (qxe (df (by omega))))
 ·simp only[Classical.not_forall,Classical.not_not] at hb
  obtain⟨p,hp,he⟩:=hb
  rw[qdK.2 ⟨p,List.mem_of_getElem? hp,he⟩]
  exact qwF (step j hf (by omega) (quW hp (qao hj) (dt (by omega)) (qnn (p:=⟨0,a,b⟩) he)))
theorem qxT (x:Int) {l:List Pt} (hn:l.length≤210) (n:Int):Fn 125 1 [qaP 0 x l,.pv (iV n)] [(0,0,qak l)] (.ag [.pv (iV x),.ls 1 (l.filter fun p=>decide (p.id≠n)).length]) 1 [(1,0,qak (l.filter fun p=>decide (p.id≠n)))]:=by
 refine qqL ?_
 have:=RunsL.rounds (P:=Tryz.prog) (lo:=1) (fr:=1) (c:=qfC Tryz.prog 125 0) (n:=36) (nb:=5) (fun k=>[(1,.pv (iV n)),(2,.pp 1 0),(4,.pp 2 0),(5,.pp 3 0),(6,.pv (iV (k:Int)))])
  (fun k=>[(1,0,.pv (iV x)),(1,1,.ls 0 l.length),(0,0,qak l),(3,0,.pv (iV x)),(3,1,.ls 4 ((l.take k).filter fun p=>decide (p.id≠n)).length),(4,0,qak ((l.take k).filter fun p=>decide (p.id≠n))),(2,0,.pv (iV 0)),(2,1,.pv (.slice none 0 0))])
  (e:=.exit 0) (tm2:=[(4,.pp 2 0),(5,.pp 3 0)]) (hp2:=[(1,0,.pv (iV x)),(1,1,.ls 0 l.length),(0,0,qak l),(3,0,.pv (iV x)),(3,1,.ls 4 (l.filter fun p=>decide (p.id≠n)).length),(4,0,qak (l.filter fun p=>decide (p.id≠n))),(2,0,.pv (iV 0)),(2,1,.pv (.slice none 0 0))])
  l.length 0 (Nat.zero_add _) (fun k _ hk r=>?_) (by rw[List.take_length];exact qxZ (df (by omega)))
 ·simpa using this
 ·obtain⟨p,hp⟩:=qah hk
  rw[qbV hp,List.filter_append] at r
  have hlen:((l.take k).filter fun p=>decide (p.id≠n)).length≤l.length:=Nat.le_trans (List.length_filter_le _ _) (by simp;omega)
  by_cases hne:p.id=n
  ·rw[List.filter_cons_of_neg (by simp[hne]),List.filter_nil,List.append_nil] at r
   exact qrO hp (qao hk) (dt (by omega)) (by simp[hne]) (qar (by omega)) r
  ·rw[List.filter_cons_of_pos (by simp[hne]),List.filter_nil] at r
   exact qsg hp (qao hk) (dt (by omega)) (by simp[hne]) (by omega) (qar (by omega)) r
end Go.Proofs.YtkjaanhddkkodaaGreat
