/-
  Joined: Kg, Kf, Ki. Conditions: none.
-/
import Derived.Test.YtkjaanhddkkodaaGreatW24
import Derived.Test.YtkjaanhddkkodaaGreatW18
import Derived.Test.YtkjaanhddkkodaaGreatW25
namespace Go.Proofs.YtkjaanhddkkodaaGreat
set_option maxRecDepth 100000
open Go.RowKit
theorem qyA (l:List Pt) (p:Pt):SV.ls 5 (0+l.length+1)=(SV.ls 3 (l++[p]).length).ren (qaK [(3,5)]):=by rw[Nat.zero_add,List.length_append];rfl
theorem qoV (l:List Pt) (p:Pt):some (SV.row 94 3 (0+l.length+1) ([]++qbu l++[iV p.id,iV p.a,iV p.b]))=some (qak (l++[p])):=by rw[Nat.zero_add,List.nil_append];exact (congrArg some (by rw[qjF,qak,List.length_append];rfl))
theorem qkc (b:Nat) (l:List Pt) (k:Nat) (h:k+1≤l.length):SV.ls b (0+k+(l.length-(k+1)))=(SV.ls 2 (l.take k++l.drop (k+1)).length).ren (qaK [(2,b)]):=by rw[qgV l k h];rfl
theorem qj1 (l:List Pt) (k:Nat) (h:k+1≤l.length):some (SV.row 94 3 (0+k+(l.length-(k+1))) ([]++((qbu l).drop (0*3)).take (k*3)++((qbu l).drop ((0+(k+1))*3)).take ((l.length-(k+1))*3)))=some (qak (l.take k++l.drop (k+1))):=by
 have h1:=qi9 l k
 have h2:=qiL l (k+1)
 rw[Nat.zero_add] at h1
 rw[h1,h2,qak,qgV l k h,qbW,List.nil_append]
theorem qyr {a pa pb n:Int} (n1:(!(a==a))=false) (n2:(!(n==n))=false) (h1:decide (a<n)=true) :
 Pure Tryz.prog 206 #[qac a pa pb,iV n] (iV (-1)):=
 qad (args:=[qac a pa pb,iV n]) 300 [.k,.k,.t false,.k,.t false,.t true]
  (Ai rfl (Ai n1 (Ai n2 (Ai h1 tI)))) (by kernel_rfl)
theorem qy1 {a pa pb n:Int} (n1:(!(a==a))=false) (n2:(!(n==n))=false) (h1:decide (a<n)=false) (h2:decide (a>n)=true) :
 Pure Tryz.prog 206 #[qac a pa pb,iV n] (iV (1)):=
 qad (args:=[qac a pa pb,iV n]) 300 [.k,.k,.t false,.k,.t false,.t false,.t true]
  (Ai rfl (Ai n1 (Ai n2 (Ai h1 (Ai h2 tI))))) (by kernel_rfl)
theorem qAz {a pa pb n:Int} (n1:(!(a==a))=false) (n2:(!(n==n))=false) (h1:decide (a<n)=false) (h2:decide (a>n)=false) :
 Pure Tryz.prog 206 #[qac a pa pb,iV n] (iV (0)):=
 qad (args:=[qac a pa pb,iV n]) 300 [.k,.k,.t false,.k,.t false,.t false,.t false]
  (Ai rfl (Ai n1 (Ai n2 (Ai h1 (Ai h2 tI))))) (by kernel_rfl)
abbrev qBi (i:Nat) (j:Nat) (l:List Pt) (n:Int):TmL:=[(0,.ls 0 l.length),(1,.pv (iV n)),(2,.pv (.func (.func 206) #[] #[])),(8,.pv (iV (l.length:Int))),(9,.pv (iV (i:Int))),(10,.pv (iV (j:Int)))]
abbrev qAV (c:Int) (n:Int) (p:Pt):Prop:=Pure Tryz.prog 206 #[qac p.id p.a p.b,iV n] (iV (c))
theorem qwB {l:List Pt} {i j h:Nat} {p:Pt} {c n:Int} (hk:l[h]?=some p) (hin:0≤(h:Int)∧(h:Int)<(l.length:Int)) (hlt:decide ((i:Int)<(j:Int))=true) (ha:iV (IntKind.i64.wrap ((i:Int)+(j:Int)))=iV ((i:Int)+(j:Int))) (hu:Value.int .u64 (IntKind.u64.wrap ((i:Int)+(j:Int)))=.int .u64 ((i:Int)+(j:Int))) (h1:¬ (1:Int)<0) (hs:Value.int .u64 (((i:Int)+(j:Int)).fdiv (2 ^ (min (1:Int).toNat IntKind.u64.bits)))=.int .u64 (h:Int)) (hb:iV (IntKind.i64.wrap (h:Int))=iV (h:Int)) (hc:qAV c n p) (hz:decide (c<0)=true) (hh:iV (IntKind.i64.wrap ((h:Int)+1))=iV (((h+1:Nat):Int))) {e:Exit} {tm2:TmL} {hp2:HpL}
 (r:Rl 1 1 205 0 49 1 ([(0,.ls 0 l.length),(1,.pv (iV n)),(2,.pv (.func (.func 206) #[] #[])),(8,.pv (iV (l.length:Int))),(9,.pv (iV ((h+1:Nat):Int))),(10,.pv (iV (j:Int)))]) ([(0,0,qak l)]) e tm2 hp2):Rl 1 1 205 0 49 1 (qBi i j l n) ([(0,0,qak l)]) e tm2 hp2:=
 RunsL.next [] 300 [.t true,Re ha,Re hu,.r (.int .u64 (h:Int)),Re hb,.r (ptV p),Rf hc,.t true,Re hh]
  (Ro (Ai hlt (Ai ha (Ai hu (Ai h1 (Ai hs (Ai hb (Ai hin (Ai (qaS hk) (Ai hc (Ai hz (Ai hh tI)))))))))))) r
theorem qzL {l:List Pt} {i j h:Nat} {p:Pt} {c n:Int} (hk:l[h]?=some p) (hin:0≤(h:Int)∧(h:Int)<(l.length:Int)) (hlt:decide ((i:Int)<(j:Int))=true) (ha:iV (IntKind.i64.wrap ((i:Int)+(j:Int)))=iV ((i:Int)+(j:Int))) (hu:Value.int .u64 (IntKind.u64.wrap ((i:Int)+(j:Int)))=.int .u64 ((i:Int)+(j:Int))) (h1:¬ (1:Int)<0) (hs:Value.int .u64 (((i:Int)+(j:Int)).fdiv (2 ^ (min (1:Int).toNat IntKind.u64.bits)))=.int .u64 (h:Int)) (hb:iV (IntKind.i64.wrap (h:Int))=iV (h:Int)) (hc:qAV c n p) (hz:decide (c<0)=false) {e:Exit} {tm2:TmL} {hp2:HpL}
 (r:Rl 1 1 205 0 49 1 ([(0,.ls 0 l.length),(1,.pv (iV n)),(2,.pv (.func (.func 206) #[] #[])),(8,.pv (iV (l.length:Int))),(9,.pv (iV (i:Int))),(10,.pv (iV (h:Int)))]) ([(0,0,qak l)]) e tm2 hp2):Rl 1 1 205 0 49 1 (qBi i j l n) ([(0,0,qak l)]) e tm2 hp2:=
 RunsL.next [] 300 [.t true,Re ha,Re hu,.r (.int .u64 (h:Int)),Re hb,.r (ptV p),Rf hc,.t false]
  (Ro (Ai hlt (Ai ha (Ai hu (Ai h1 (Ai hs (Ai hb (Ai hin (Ai (qaS hk) (Ai hc (Ai hz tI))))))))))) r
theorem qn8 {l:List Pt} {i j:Nat} {n:Int} (hge:decide ((i:Int)<(j:Int))=false):Rl 1 1 205 0 49 1 (qBi i j l n) ([(0,0,qak l)]) (.exit 0) (qBi i j l n) ([(0,0,qak l)]):=
 RunsL.stop [] 300 [.t false] (fun h=>by cases h)
  (Ro (Ai hge tI))
abbrev qBA (k:Nat) (l:List Pt) (n:Int):Prop:=Rl 1 1 205 0 49 1 ([(0,.ls 0 l.length),(1,.pv (iV n)),(2,.pv (.func (.func 206) #[] #[])),(8,.pv (iV (l.length:Int))),(9,.pv (iV ((0:Nat):Int))),(10,.pv (iV (l.length:Int)))]) ([(0,0,qak l)]) (.exit 0) ([(0,.ls 0 l.length),(1,.pv (iV n)),(2,.pv (.func (.func 206) #[] #[])),(8,.pv (iV (l.length:Int))),(9,.pv (iV (k:Int))),(10,.pv (iV (k:Int)))]) ([(0,0,qak l)])
theorem qrr {l:List Pt} {k:Nat} {n:Int} (r0:qBA k l n) (hge:decide ((k:Int)<(l.length:Int))=false) :
 Fn 205 1 [.ls 0 l.length,.pv (iV (n)),.pv (.func (.func 206) #[] #[])] [(0,0,qak l)] (.pv (.tuple #[iV (k:Int),.bool false])) 0 []:=
 Fz [] [Lf r0,.t false]
  tI (Lo r0 [] (Ai hge tI))
theorem qoK {l:List Pt} {k:Nat} {p:Pt} {c:Int} {n:Int} (r0:qBA k l n) (hk:l[k]?=some p) (hin:0≤(k:Int)∧(k:Int)<(l.length:Int)) (hlt:decide ((k:Int)<(l.length:Int))=true) (hc:qAV c n p) (hz:(c==0)=true) :
 Fn 205 1 [.ls 0 l.length,.pv (iV (n)),.pv (.func (.func 206) #[] #[])] [(0,0,qak l)] (.pv (.tuple #[iV (k:Int),.bool true])) 0 []:=
 Fz [] [Lf r0,.t true,.r (ptV p),Rf hc,.t true]
  tI (Lo r0 [] (Ai hlt (Ai hin (Ai (qaS hk) (Ai hc (Ai hz tI))))))
theorem qsz {l:List Pt} {k:Nat} {p:Pt} {c:Int} {n:Int} (r0:qBA k l n) (hk:l[k]?=some p) (hin:0≤(k:Int)∧(k:Int)<(l.length:Int)) (hlt:decide ((k:Int)<(l.length:Int))=true) (hc:qAV c n p) (hz:(c==0)=false) :
 Fn 205 1 [.ls 0 l.length,.pv (iV (n)),.pv (.func (.func 206) #[] #[])] [(0,0,qak l)] (.pv (.tuple #[iV (k:Int),.bool false])) 0 []:=
 Fz [] [Lf r0,.t true,.r (ptV p),Rf hc,.t false]
  tI (Lo r0 [] (Ai hlt (Ai hin (Ai (qaS hk) (Ai hc (Ai hz tI))))))
theorem qek {l:List Pt} {k:Nat} {b:Bool} {x n:Int} (hb:Fn 205 1 [.ls 0 l.length,.pv (iV (n)),.pv (.func (.func 206) #[] #[])] [(0,0,qak l)] (.pv (.tuple #[iV (k:Int),.bool b])) 0 []) :
 Fn 165 1 [qaP 0 x l,.pv (iV (n))] [(0,0,qak l)] (.pv (.tuple #[iV (k:Int),.bool b])) 0 []:=
 Fz [] [Cf hb [0]]
  tI (Co hb [0] 2 tI)
abbrev qz4 (l:List Pt) (x:Int):Prop:=Fn 88 1 [qaP 0 x l] [(0,0,qak l)] (.pv (iV (0))) 0 []
theorem qyq {l:List Pt} {k:Nat} {x n:Int} (hc:qz4 l x) (hf:Fn 165 1 [qaP 0 x l,.pv (iV (n))] [(0,0,qak l)] (.pv (.tuple #[iV (k:Int),.bool false])) 0 []) :
 Fn 164 1 [qaP 0 x l,.pv (iV (n))] [(0,0,qak l)] (.pv (.tuple #[qag 0 0,iV 6])) 0 []:=
 Fz [] [Cf hc [0],.k,Cf hf [0],.k]
  tI (Co hc [0] 3 (Co hf [0] 3 tI))
theorem qv1 {l:List Pt} {k:Nat} {p:Pt} {x n:Int} (hk:l[k]?=some p) (hin:0≤(k:Int)∧(k:Int)<(l.length:Int)) (hc:qz4 l x) (hf:Fn 165 1 [qaP 0 x l,.pv (iV (n))] [(0,0,qak l)] (.pv (.tuple #[iV (k:Int),.bool true])) 0 []) :
 Fn 164 1 [qaP 0 x l,.pv (iV (n))] [(0,0,qak l)] (.pv (.tuple #[qag p.a p.b,iV 0])) 0 []:=
 Fz [] [Cf hc [0],.k,Cf hf [0],.k,.r (qag p.a p.b)]
  tI (Co hc [0] 3 (Co hf [0] 3 (Ai hin (Ai (qdN hk) tI))))
abbrev qjH (a:Int) (b:Int) (l:List Pt):HpL:=[(0,0,qak l),(1,0,.pv (iV a)),(1,1,.pv (iV b))]
abbrev qBJ (k:Nat) (l:List Pt):TmL:=[(0,.ls 0 l.length),(1,.pc 149 [.pp 1 0]),(7,.pv (iV (l.length:Int))),(8,.pv (iV (k:Int)))]
theorem qoI {l:List Pt} {k:Nat} {p:Pt} {a b:Int} (hk:l[k]?=some p) (hin:0≤(k:Int)∧(k:Int)<(l.length:Int)) (hlt:decide ((k:Int)<(l.length:Int))=true) (he:(p.a==a&&(p.b==b&&true))=false) (hs:iV (IntKind.i64.wrap ((k:Int)+1))=iV (((k+1:Nat):Int))) {e:Exit} {tm2:TmL} {hp2:HpL}
 (r:Rl 2 2 184 0 19 2 ([(0,.ls 0 l.length),(1,.pc 149 [.pp 1 0]),(7,.pv (iV (l.length:Int))),(8,.pv (iV ((k+1:Nat):Int)))]) (qjH a b l) e tm2 hp2):Rl 2 2 184 0 19 2 (qBJ k l) (qjH a b l) e tm2 hp2:=
 RunsL.next [] 300 [.t true,.r (ptV p),.k,.t false,Re hs]
  (Ro (Ai hlt (Ai hin (Ai (qaS hk) (Ai he (Ai hs tI)))))) r
theorem qvW {l:List Pt} {k:Nat} {p:Pt} {a b:Int} (hk:l[k]?=some p) (hin:0≤(k:Int)∧(k:Int)<(l.length:Int)) (hlt:decide ((k:Int)<(l.length:Int))=true) (he:(p.a==a&&(p.b==b&&true))=true):Rl 2 2 184 0 19 2 (qBJ k l) (qjH a b l) (.ret) ([(4,.pv (iV (k:Int)))]) ([]):=
 RunsL.stop [] 300 [.t true,.r (ptV p),.k,.t true] (fun h=>by cases h)
  (Ro (Ai hlt (Ai hin (Ai (qaS hk) (Ai he tI)))))
theorem quC {l:List Pt} {k:Nat} {a b:Int} (hge:decide ((k:Int)<(l.length:Int))=false):Rl 2 2 184 0 19 2 (qBJ k l) (qjH a b l) (.exit 0) ([]) ([]):=
 RunsL.stop [] 300 [.t false] (fun h=>by cases h)
  (Ro (Ai hge tI))
theorem qwQ {l:List Pt} {a b:Int} (r0:Rl 2 2 184 0 19 2 ([(0,.ls 0 l.length),(1,.pc 149 [.pp 1 0]),(7,.pv (iV (l.length:Int))),(8,.pv (iV ((0:Nat):Int)))]) (qjH a b l) (.exit 0) ([]) ([])) :
 Fn 184 2 [.ls 0 l.length,.pc 149 [.pp 1 0]] (qjH a b l) (.pv (iV (-1))) 0 []:=
 Fz [] [Lf r0]
  tI (Lo r0 [] tI)
theorem qt4 {l:List Pt} {k:Nat} {a b:Int} (r0:Rl 2 2 184 0 19 2 ([(0,.ls 0 l.length),(1,.pc 149 [.pp 1 0]),(7,.pv (iV (l.length:Int))),(8,.pv (iV ((0:Nat):Int)))]) (qjH a b l) (.ret) ([(4,.pv (iV (k:Int)))]) ([])) :
 Fn 184 2 [.ls 0 l.length,.pc 149 [.pp 1 0]] (qjH a b l) (.pv (iV (k:Int))) 0 []:=
 Fz [] [Lf r0]
  tI (Lo r0 [] tI)
theorem qy5 {l:List Pt} {a b:Int} (hi:Fn 184 2 [.ls 0 l.length,.pc 149 [.pp 1 0]] (qjH a b l) (.pv (iV (-1))) 0 []) :
 Fn 140 2 [.ls 0 l.length,.pc 149 [.pp 1 0]] (qjH a b l) (.pv (.bool false)) 0 []:=
 Fz [] [Cf hi [0,1],.k]
  tI (Co hi [0,1] 2 tI)
theorem qt6 {l:List Pt} {k:Nat} {a b:Int} (hi:Fn 184 2 [.ls 0 l.length,.pc 149 [.pp 1 0]] (qjH a b l) (.pv (iV (k:Int))) 0 []) (h0:decide ((k:Int)≥0)=true) :
 Fn 140 2 [.ls 0 l.length,.pc 149 [.pp 1 0]] (qjH a b l) (.pv (.bool true)) 0 []:=
 Fz [] [Cf hi [0,1],.t true]
  tI (Co hi [0,1] 2 (Ai h0 tI))
theorem qsK {l:List Pt} {x a b:Int} (hv:Pure Tryz.prog 148 #[qag a b] (.bool false)) :
 Fn 103 1 [qaP 0 x l,.pv (qag a b)] [(0,0,qak l)] (.pv (iV (8))) 0 []:=
 Fz [] [Rf hv,.k]
  tI (Ai hv tI)
theorem qtp {l:List Pt} {x a b:Int} (hv:Pure Tryz.prog 148 #[qag a b] (.bool true)) (ht:Fn 140 2 [.ls 0 l.length,.pc 149 [.pp 1 0]] (qjH a b l) (.pv (.bool true)) 0 []) :
 Fn 103 1 [qaP 0 x l,.pv (qag a b)] [(0,0,qak l)] (.pv (iV (14))) 0 []:=
 Fz [] [Rf hv,.k,Cf ht [0,2]]
  tI (Ai hv (Co ht [0,2] 3 tI))
theorem qyi {l:List Pt} {x a b:Int} (hv:Pure Tryz.prog 148 #[qag a b] (.bool true)) (ht:Fn 140 2 [.ls 0 l.length,.pc 149 [.pp 1 0]] (qjH a b l) (.pv (.bool false)) 0 []) :
 Fn 103 1 [qaP 0 x l,.pv (qag a b)] [(0,0,qak l)] (.pv (iV (0))) 0 []:=
 Fz [] [Rf hv,.k,Cf ht [0,2]]
  tI (Ai hv (Co ht [0,2] 3 tI))
theorem qp6 {l:List Pt} {x:Int} (hf:((l.length:Int)==200)=true) :
 Fn 104 1 [qaP 0 x l] [(0,0,qak l)] (.pv (iV (18))) 0 []:=
 Fz [] [.t true]
  tI (Ai hf tI)
theorem qp2 {l:List Pt} {x:Int} (hf:((l.length:Int)==200)=false) (hu:(x==1000000)=true) :
 Fn 104 1 [qaP 0 x l] [(0,0,qak l)] (.pv (iV (18))) 0 []:=
 Fz [] [.t false,.t true]
  tI (Ai hf (Ai hu tI))
theorem qxo {l:List Pt} {x:Int} (hf:((l.length:Int)==200)=false) (hu:(x==1000000)=false) :
 Fn 104 1 [qaP 0 x l] [(0,0,qak l)] (.pv (iV (0))) 0 []:=
 Fz [] [.t false,.t false]
  tI (Ai hf (Ai hu tI))
theorem qDw {s:Int} (h0:decide (s<0)=false) (hs:iV (IntKind.i64.wrap (s-0))=iV (s)) (hg:decide (s>0)=false) :
 Fn 150 0 [.pv (.slice none 0 0),.pv (iV (s))] [] (.pv (.slice none 0 0)) 0 []:=
 Fz [] [.t false,.k,Re hs,.t false]
  tI (Ai h0 (Ai hs (Ai hg tI)))
theorem qxK {s:Int} (h0:decide (s<0)=false) (hs:iV (IntKind.i64.wrap (s-0))=iV (s)) (hg:decide (s>0)=true) (a0:0≤s) (a1:s≤1000000) :
 Fn 150 0 [.pv (.slice none 0 0),.pv (iV (s))] [] (.ls 0 0) 1 [(0,0,qak ([]:List Pt))]:=
 Fz [(0,1)] [.t false,.k,Re hs,.t true,.w []]
  (qaH (qaK [(0,1)]) [(0,0,qak ([]:List Pt))]) (Ai h0 (Ai hs (Ai hg (Ai a0 (Ai a1 (Ai (Int.le_refl (0:Int)) (Ai (Nat.zero_le s.toNat) tI)))))))
theorem qE1 {l:List Pt} {x a b:Int} {s1 s2:Int} (q1:iV (IntKind.i64.wrap ((0:Int)+(l.length:Int)))=iV (s1)) (n1:decide (s1<0)=false) (q2:iV (IntKind.i64.wrap (s1+((1:Nat):Int)))=iV (s2)) (n2:decide (s2<0)=false) (hgr:Fn 150 0 [.pv (.slice none 0 0),.pv (iV (s2))] [] (.ls 0 0) 1 [(0,0,qak ([]:List Pt))]) (a1:0+l.length≤1000000) (a2:0+l.length+1≤1000000) :
 Fn 105 3 [.ps 2 0 2 2] [(2,0,.ls 0 l.length),(2,1,.ps 1 0 1 1),(1,0,.pv (iV x)),(1,1,.pv (iV a)),(1,2,.pv (iV b)),(0,0,qak l)] (.ls 3 (l++[(Pt.mk x a b)]).length) 1 [(3,0,qak (l++[(Pt.mk x a b)]))]:=
 Fx [(3,5)] [.k,Re q1,.t false,.k,.k,.r (iV (s2)),.t false,.k,.k,Cf hgr [],.k,.k,.k,.k,.k]
  (qyA l (Pt.mk x a b)) (Ai (qoV l (Pt.mk x a b)) tI) (Ai q1 (Ai n1 (Ai q2 (Ai n2 (Co hgr [] 3 (Ai a1 (Ai a2 tI)))))))
abbrev qCc (k:Nat) (l:List Pt):HpL:=[(1,0,.lq 0 3 0 k),(1,1,.lq 0 3 (0+(k+1)) (l.length-(k+1))),(0,0,qak l)]
theorem qxA {l:List Pt} {k:Nat} {s1 s2:Int} (q1:iV (IntKind.i64.wrap ((0:Int)+((k:Nat):Int)))=iV (s1)) (n1:decide (s1<0)=false) (q2:iV (IntKind.i64.wrap (s1+((l.length-(k+1):Nat):Int)))=iV (s2)) (n2:decide (s2<0)=false) (hgr:Fn 150 0 [.pv (.slice none 0 0),.pv (iV (s2))] [] (.ls 0 0) 1 [(0,0,qak ([]:List Pt))]) (a1:0+k≤1000000) (a2:0+k+(l.length-(k+1))≤1000000) (hkl1:k+1≤l.length) :
 Fn 105 2 [.ps 1 0 2 2] (qCc k l) (.ls 2 (l.take k++l.drop (k+1)).length) 1 [(2,0,qak (l.take k++l.drop (k+1)))]:=
 Fx [(2,4)] [.k,.r (iV (s1)),.t false,.k,.k,.r (iV (s2)),.t false,.k,.k,Cf hgr [],.k,.k,.k,.k,.k]
  (qkc 4 l k hkl1) (Ai (qj1 l k hkl1) tI) (Ai q1 (Ai n1 (Ai q2 (Ai n2 (Co hgr [] 2 (Ai a1 (Ai a2 tI)))))))
theorem qAD {l:List Pt} {k:Nat} {s1 s2:Int} (q1:iV (IntKind.i64.wrap ((0:Int)+((k:Nat):Int)))=iV (s1)) (n1:decide (s1<0)=false) (q2:iV (IntKind.i64.wrap (s1+((l.length-(k+1):Nat):Int)))=iV (s2)) (n2:decide (s2<0)=false) (hgr:Fn 150 0 [.pv (.slice none 0 0),.pv (iV (s2))] [] (.pv (.slice none 0 0)) 0 []) (a1:0+k≤1000000) (a2:0+k+(l.length-(k+1))≤1000000) (hkl1:k+1≤l.length) :
 Fn 105 2 [.ps 1 0 2 2] (qCc k l) (.ls 2 (l.take k++l.drop (k+1)).length) 1 [(2,0,qak (l.take k++l.drop (k+1)))]:=
 Fx [(2,3)] [.k,.r (iV (s1)),.t false,.k,.k,.r (iV (s2)),.t false,.k,.k,Cf hgr [],.k,.k,.k,.k,.k]
  (qkc 3 l k hkl1) (Ai (qj1 l k hkl1) tI) (Ai q1 (Ai n1 (Ai q2 (Ai n2 (Co hgr [] 2 (Ai a1 (Ai a2 tI)))))))
theorem qAn {l:List Pt} {x a b e e2 e3:Int} (c1:Fn 88 1 [qaP 0 x l] [(0,0,qak l)] (.pv (iV (e))) 0 []) (c2:Fn 103 1 [qaP 0 x l,.pv (qag a b)] [(0,0,qak l)] (.pv (iV (e2))) 0 []) (c3:Fn 104 1 [qaP 0 x l] [(0,0,qak l)] (.pv (iV (e3))) 0 []) (he:(e !=0)=true) :
 Fn 57 1 [qaP 0 x l,.pv (qag a b)] [(0,0,qak l)] (.pv (.tuple #[.agg #[iV 0,.slice none 0 0],iV 0,iV e])) 0 []:=
 Fz [] [Cf c1 [0],Cf c2 [0],Cf c3 [0],.k,.k,.t true,.t true]
  tI (Co c1 [0] 4 (Co c2 [0] 4 (Co c3 [0] 4 (Ai he (Ai he tI)))))
theorem qsg {l:List Pt} {x a b e e3:Int} (c1:qz4 l x) (c2:Fn 103 1 [qaP 0 x l,.pv (qag a b)] [(0,0,qak l)] (.pv (iV (e))) 0 []) (c3:Fn 104 1 [qaP 0 x l] [(0,0,qak l)] (.pv (iV (e3))) 0 []) (he:(e !=0)=true) :
 Fn 57 1 [qaP 0 x l,.pv (qag a b)] [(0,0,qak l)] (.pv (.tuple #[.agg #[iV 0,.slice none 0 0],iV 0,iV e])) 0 []:=
 Fz [] [Cf c1 [0],Cf c2 [0],Cf c3 [0],.k,.k,.k,.k,.k,.t true,.t true]
  tI (Co c1 [0] 4 (Co c2 [0] 4 (Co c3 [0] 4 (Ai he (Ai he tI)))))
theorem qrR {l:List Pt} {x a b e:Int} (c1:qz4 l x) (c2:Fn 103 1 [qaP 0 x l,.pv (qag a b)] [(0,0,qak l)] (.pv (iV (0))) 0 []) (c3:Fn 104 1 [qaP 0 x l] [(0,0,qak l)] (.pv (iV (e))) 0 []) (he:(e !=0)=true) :
 Fn 57 1 [qaP 0 x l,.pv (qag a b)] [(0,0,qak l)] (.pv (.tuple #[.agg #[iV 0,.slice none 0 0],iV 0,iV e])) 0 []:=
 Fz [] [Cf c1 [0],Cf c2 [0],Cf c3 [0],.k,.k,.k,.k,.k,.k,.k,.k,.t true,.t true]
  tI (Co c1 [0] 4 (Co c2 [0] 4 (Co c3 [0] 4 (Ai he (Ai he tI)))))
theorem qza {l:List Pt} {x y a b:Int} (c1:qz4 l x) (c2:Fn 103 1 [qaP 0 x l,.pv (qag a b)] [(0,0,qak l)] (.pv (iV (0))) 0 []) (c3:Fn 104 1 [qaP 0 x l] [(0,0,qak l)] (.pv (iV (0))) 0 []) (hcat:Fn 105 3 [.ps 2 0 2 2] [(2,0,.ls 0 l.length),(2,1,.ps 1 0 1 1),(1,0,.pv (iV x)),(1,1,.pv (iV a)),(1,2,.pv (iV b)),(0,0,qak l)] (.ls 3 (l++[(Pt.mk x a b)]).length) 1 [(3,0,qak (l++[(Pt.mk x a b)]))]) (hy:iV (IntKind.i64.wrap (x+1))=iV (y)) :
 Fn 57 1 [qaP 0 x l,.pv (qag a b)] [(0,0,qak l)] (.tu [.ag [.pv (iV y),.ls 1 (l++[(Pt.mk x a b)]).length],.one (.pv (iV x)),.one (.pv (iV 0))]) 1 [(1,0,qak (l++[(Pt.mk x a b)]))]:=
 Fz [(1,7)] [Cf c1 [0],Cf c2 [0],Cf c1 [0],.k,.k,.k,.k,.k,.k,.k,.k,.k,.k,.k,.k,Cf hcat [0,5,6],Re hy]
  (qaH (qaK [(1,7)]) [(1,0,qak (l++[(Pt.mk x a b)]))]) (Co c1 [0] 4 (Co c2 [0] 4 (Co c3 [0] 4 (Co hcat [0,5,6] 7 (Ai hy tI)))))
theorem qve {l:List Pt} {x n a b e:Int} (hg:Fn 164 1 [qaP 0 x l,.pv (iV (n))] [(0,0,qak l)] (.pv (.tuple #[qag a b,iV e])) 0 []) (he:(e !=0)=true) :
 Fn 114 1 [qaP 0 x l,.pv (iV (n))] [(0,0,qak l)] (.pv (.tuple #[.agg #[iV 0,.slice none 0 0],qag 0 0,iV e])) 0 []:=
 Fz [] [Cf hg [0],.t true]
  tI (Co hg [0] 4 (Ai he tI))
theorem qxt {l:List Pt} {k:Nat} {x n a b:Int} (hg:Fn 164 1 [qaP 0 x l,.pv (iV (n))] [(0,0,qak l)] (.pv (.tuple #[qag a b,iV 0])) 0 []) (hf:Fn 165 1 [qaP 0 x l,.pv (iV (n))] [(0,0,qak l)] (.pv (.tuple #[iV (k:Int),.bool true])) 0 []) (hkl:k≤l.length) (hkl1:k+1≤l.length) (hk1:iV (IntKind.i64.wrap ((k:Int)+1))=iV (((k+1:Nat):Int))) (hcut:Fn 105 2 [.ps 1 0 2 2] (qCc k l) (.ls 2 (l.take k++l.drop (k+1)).length) 1 [(2,0,qak (l.take k++l.drop (k+1)))]) :
 Fn 114 1 [qaP 0 x l,.pv (iV (n))] [(0,0,qak l)] (.tu [.ag [.pv (iV x),.ls 1 (l.take k++l.drop (k+1)).length],.one (.pv (qag a b)),.one (.pv (iV 0))]) 1 [(1,0,qak (l.take k++l.drop (k+1)))]:=
 Fz [(1,6)] [Cf hg [0],.k,Cf hf [0],.md,.k,Re hk1,.k,Cf hcut [0,5]]
  (qaH (qaK [(1,6)]) [(1,0,qak (l.take k++l.drop (k+1)))]) (Co hg [0] 4 (Co hf [0] 5 (Ai tI (Ai (Int.natCast_nonneg k) (Ai (Nat.zero_le k) (Ai hkl (Ai hk1 (Ai (Int.natCast_nonneg (k+1)) (Ai tI (Ai hkl1 (Ai (Nat.le_refl l.length) (Co hcut [0,5] 6 tI))))))))))))
theorem qE4 :
 Pure Tryz.prog 52 #[] (.agg #[iV 0,.slice none 0 0]):=
 qad (args:=[]) 300 []
  (Ai rfl tI) (by kernel_rfl)
end Go.Proofs.YtkjaanhddkkodaaGreat

namespace Go.Proofs.YtkjaanhddkkodaaGreat
set_option maxRecDepth 100000
open Go.RowKit
theorem qeA (a b:Int):Pure Tryz.prog 71 #[qag a b] (.bool (qcc a b)):=by
 have no:∀ {P:Prop},¬ P→(qcc a b=true→P)→qcc a b=false:=fun h k=>by
  cases e:qcc a b
  ·rfl
  ·exact (h (k e)).elim
 by_cases h1:0≤a
 ·by_cases h2:a≤65535
  ·by_cases h3:0≤b
   ·by_cases h4:b≤65535
    ·by_cases h5:a=b
     ·rw[no (P:=a≠b) (fun h=>h h5) (fun h=>(qbo.1 h).2.2.2.2)]
      exact qCg (dt h1) (dt h2) (dt h3) (dt h4) (by simpa using h5)
     ·rw[qbo.2 ⟨h1,h2,h3,h4,h5⟩]
      exact qBC (dt h1) (dt h2) (dt h3) (dt h4) (by simpa using h5)
    ·rw[no h4 (fun h=>(qbo.1 h).2.2.2.1)]
     exact qEN (dt h1) (dt h2) (dt h3) (df h4)
   ·rw[no h3 (fun h=>(qbo.1 h).2.2.1)]
    exact qEP (dt h1) (dt h2) (df (by omega))
  ·rw[no h2 (fun h=>(qbo.1 h).2.1)]
   exact qEZ (dt h1) (df h2)
 ·rw[no h1 (fun h=>(qbo.1 h).1)]
  exact qE2 (df (by omega))
abbrev qBa (k:Nat):List (Nat×SV):=[(1,.pp 1 0),(3,.pv (iV (k:Int)))]
abbrev qm5 (k j:Nat):List (Nat×SV):=[(1,.pp 1 0),(3,.pv (iV (k:Int))),(4,.pp 2 0),(5,.pv (iV (j:Int)))]
abbrev qAW (x:Int) (l:List Pt):List (Nat×Nat×SV):=[(1,0,.pv (iV x)),(1,1,.ls 0 l.length),(0,0,qak l)]
abbrev qmu (x:Int) (l:List Pt) (p:Pt):List (Nat×Nat×SV):=[(1,0,.pv (iV x)),(1,1,.ls 0 l.length),(2,0,.pv (iV p.id)),(2,1,.pv (iV p.a)),(2,2,.pv (iV p.b)),(0,0,qak l)]
theorem qnA {p q:Pt} (h:¬ (q.a=p.a∧q.b=p.b)):(q.a==p.a&&(q.b==p.b&&true))=false:=by
 rw[Bool.and_true]
 cases e:(q.a==p.a&&q.b==p.b)
 ·rfl
 ·rw[Bool.and_eq_true,beq_iff_eq,beq_iff_eq] at e;exact (h e).elim
theorem qnO {p q:Pt} (h:q.a=p.a∧q.b=p.b):(q.a==p.a&&(q.b==p.b&&true))=true:=by rw[h.1,h.2];simp
theorem qjG {x:Int} {l:List Pt} {p:Pt} {k:Nat} (hn:l.length≤1000000) (hkl:k≤l.length) {j:Nat} (hj:j≤k) (h:∀ i,i<j→∀ q,l[i]?=some q→¬ (q.a=p.a∧q.b=p.b)) {e:Exit} {tm2:TmL} {hp2:HpL}
 (r:Rl 1 1 76 1 78 3 (qm5 k j) (qmu x l p) e tm2 hp2):Rl 1 1 76 1 78 3 (qm5 k 0) (qmu x l p) e tm2 hp2:=by
 refine RunsL.rounds (fun i=>qm5 k i) (fun _=>qmu x l p) (N:=j) j 0 (Nat.zero_add _) (fun i _ hi r=>?_) r
 obtain⟨q,hq⟩:=qaj (l:=l) (k:=i) (by omega)
 exact qlU hq (qap (qai hq)) (dt (by omega)) (qnA (h i hi q hq)) (qay (by omega)) r
theorem qsh {x:Int} {l:List Pt} {p:Pt} {k:Nat} (hn:l.length≤1000000) (hkl:k≤l.length) (h:∀ i,i<k→∀ q,l[i]?=some q→¬ (q.a=p.a∧q.b=p.b)) :
 Rl 1 1 76 1 78 3 (qm5 k 0) (qmu x l p) (.exit 2) (qBa k) (qAW x l):=
 qjG hn hkl (Nat.le_refl k) h (qpV (df (by omega)))
theorem qvI {x:Int} {l:List Pt} {p:Pt} {k:Nat} (hn:l.length≤1000000) (hkl:k≤l.length) (h:¬ ∀ i,i<k→∀ q,l[i]?=some q→¬ (q.a=p.a∧q.b=p.b)) :
 Rl 1 1 76 1 78 3 (qm5 k 0) (qmu x l p) .ret [(2,.pv (iV 8))] []:=by
 rcases qaW (fun i=>∀ q,l[i]?=some q→¬ (q.a=p.a∧q.b=p.b)) k with h1 | ⟨j,hj,hb,hf⟩
 ·exact (h h1).elim
 ·simp only[Classical.not_forall,Classical.not_not] at hb
  obtain⟨q,hq,he⟩:=hb
  exact qjG hn hkl (by omega) hf (qoE hq (qap (qai hq)) (dt (by omega)) (qnO he))
def At8 (x:Int) (l:List Pt) (k:Nat):Prop:=∀ p,l[k]?=some p→qcc p.a p.b=true∧0≤p.id∧p.id<x∧(∀ j q,k=j+1→l[j]?=some q→q.id<p.id)∧∀ i,i<k→∀ q,l[i]?=some q→¬ (q.a=p.a∧q.b=p.b)
theorem qmM (x:Int) (l:List Pt):FnL Tryz.prog 76 1 [qaP 0 x l] [(0,0,qak l)] (.pv (.int .i64 (qwk x l))) 0 []:=by
 by_cases h0:l.length≤200
 ·by_cases h1:0≤x
  ·by_cases h2:x≤1000000
   ·have step:∀ k,(∀ j,j<k→At8 x l j)→∀ {e:Exit} {tm2:TmL} {hp2:HpL},k≤l.length→
     RunsL Tryz.prog 1 1 (qfH Tryz.prog 76 0) 78 2 (qBa k) (qAW x l) e tm2 hp2→RunsL Tryz.prog 1 1 (qfH Tryz.prog 76 0) 78 2 (qBa 0) (qAW x l) e tm2 hp2:=by
     intro k hk e tm2 hp2 hkl r
     refine RunsL.rounds (fun j=>qBa j) (fun _=>qAW x l) (N:=k) k 0 (Nat.zero_add _) (fun j _ hj r=>?_) r
     obtain⟨p,hp⟩:=qaj (l:=l) (k:=j) (by omega)
     obtain⟨a1,a2,a3,a4,a5⟩:=hk j hj p hp
     have hjl:=qai hp
     cases j with
     | zero=>exact qD6 (hk:=hp) (hin:=qap hjl) (hlt:=dt (by omega)) (hv:=a1▸qeA p.a p.b) (h1:=df (by omega)) (h2:=df (by omega)) (hz:=df (by omega)) (r1:=qsh (by omega) (by omega) a5) (hs:=qay (by omega)) r
     | succ i=>
      obtain⟨q,hq⟩:=qaj (l:=l) (k:=i) (by omega)
      exact qBX (hk:=hp) (hin:=qap hjl) (hlt:=dt (by omega)) (hv:=a1▸qeA p.a p.b) (h1:=df (by omega)) (h2:=df (by omega)) (hz:=dt (by omega)) (hq:=hq) (hin0:=qap (qai hq)) (hm:=qbP i (by omega)) (hg:=df (by have:=a4 i q rfl hq;omega)) (r1:=qsh (by omega) (by omega) a5) (hs:=qay (by omega)) r
    rcases qaW (At8 x l) l.length with h | ⟨j,hj,hb,hf⟩
    ·have hv:V8 x l:=⟨h0,fun p hp=>by
      obtain⟨k,hk,rfl⟩:=List.getElem_of_mem hp
      exact (h k hk _ (List.getElem?_eq_getElem hk)).1,fun k p q hp hq=>(h (k+1) (qai hq) q hq).2.2.2.1 k p rfl hp,fun p hp=>by
      obtain⟨k,hk,rfl⟩:=List.getElem_of_mem hp
      exact (h k hk _ (List.getElem?_eq_getElem hk)).2.1,fun p hp=>by
      obtain⟨k,hk,rfl⟩:=List.getElem_of_mem hp
      exact (h k hk _ (List.getElem?_eq_getElem hk)).2.2.1,⟨h1,h2⟩,fun i k p q hik hp hq=>(h k (qai hq) q hq).2.2.2.2 i hik p hp⟩
     rw[qdu hv]
     exact qzG (df (by omega)) (df (by omega)) (df (by omega)) (step l.length h (Nat.le_refl _) (qtX (df (by omega))))
    ·rw[qbx fun hv=>hb fun p hp=>⟨hv.ok p (List.mem_of_getElem? hp),hv.lo p (List.mem_of_getElem? hp),hv.hi p (List.mem_of_getElem? hp),fun i q e hq=>by subst e;exact hv.up i q p hq hp,fun i hi q hq=>hv.dis i j q p hi hq hp⟩]
     refine quM (df (by omega)) (df (by omega)) (df (by omega)) (step j hf (by omega) ?_)
     obtain⟨p,hp⟩:=qaj hj
     by_cases c1:qcc p.a p.b=true
     ·by_cases c2:0≤p.id
      ·by_cases c3:p.id<x
       ·cases j with
        | zero=>exact (hb fun p' hp'=>by rw[hp] at hp';cases hp';exact⟨c1,c2,c3,fun i q e=>by omega,fun i hi=>by omega⟩).elim
        | succ i=>
         obtain⟨q,hq⟩:=qaj (l:=l) (k:=i) (by omega)
         by_cases c4:q.id<p.id
         ·refine qoo (hk:=hp) (hin:=qap hj) (hlt:=dt (by omega)) (hv:=c1▸qeA p.a p.b) (h1:=df (by omega)) (h2:=df (by omega)) (hz:=dt (by omega)) (hq:=hq) (hin0:=qap (qai hq)) (hm:=qbP i (by omega)) (hg:=df (by omega)) (r1:=qvI (by omega) (by omega) fun hno=>hb fun p' hp'=>?_)
          rw[hp] at hp';cases hp'
          exact⟨c1,c2,c3,fun i' q' e hq'=>by cases e;rw[hq] at hq';cases hq';exact c4,hno⟩
         ·exact qBr (hk:=hp) (hin:=qap hj) (hlt:=dt (by omega)) (hv:=c1▸qeA p.a p.b) (h1:=df (by omega)) (h2:=df (by omega)) (hz:=dt (by omega)) (hq:=hq) (hin0:=qap (qai hq)) (hm:=qbP i (by omega)) (hg:=dt (by omega))
       ·exact qD5 (hk:=hp) (hin:=qap hj) (hlt:=dt (by omega)) (hv:=c1▸qeA p.a p.b) (h1:=df (by omega)) (h2:=dt (by omega))
      ·exact qB3 (hk:=hp) (hin:=qap hj) (hlt:=dt (by omega)) (hv:=c1▸qeA p.a p.b) (h1:=dt (by omega))
     ·have c1':qcc p.a p.b=false:=by simpa using c1
      exact qBn (hk:=hp) (hin:=qap hj) (hlt:=dt (by omega)) (hv:=c1'▸qeA p.a p.b)
   ·rw[qbx fun h=>h2 h.nx.2]
    exact qsQ (df (by omega)) (df (by omega)) (dt (by omega))
  ·rw[qbx fun h=>h1 h.nx.1]
   exact quT (df (by omega)) (dt (by omega))
 ·rw[qbx fun h=>h0 h.len]
  exact qoP (dt (by omega))
theorem ql7 (x:Int) {l:List Pt} (hn:l.length≤1000000):Fn 53 1 [qaP 0 x l] [(0,0,qak l)] (.ag [.pv (iV x),.ls 1 l.length]) 1 [(1,0,qak l)]:=qoL (by omega)
theorem qrJ {l:List Pt} (hu:Up l) (n:Int):(∃ (k:Nat) (p:Pt),l[k]?=some p∧p.id=n)∨((∀ p∈l,p.id≠n)∧∃ k,k≤l.length∧(∀ (t:Nat) (p:Pt),t<k→l[t]?=some p→p.id<n)∧∀ (t:Nat) (p:Pt),k≤t→l[t]?=some p→n<p.id):=by
 by_cases h:∃ (k:Nat) (p:Pt),l[k]?=some p∧p.id=n
 ·exact Or.inl h
 ·refine Or.inr ⟨fun p hp e=>?_,?_⟩
  ·obtain⟨k,hk,rfl⟩:=List.getElem_of_mem hp
   exact h ⟨k,_,List.getElem?_eq_getElem hk,e⟩
  ·rcases qaW (fun k=>∀ p,l[k]?=some p→p.id<n) l.length with hh | ⟨j,hj,hn,hb⟩
   ·exact⟨l.length,Nat.le_refl _,fun t p ht hp=>hh t ht p hp,fun t p ht hp=>by have:=qai hp;omega⟩
   ·refine⟨j,by omega,fun t p ht hp=>hb t ht p hp,fun t p ht hp=>?_⟩
    simp only[Classical.not_forall] at hn
    obtain⟨q,hq,hlt⟩:=hn
    have hne:q.id≠n:=fun e=>h ⟨j,q,hq,e⟩
    rcases Nat.lt_or_ge j t with h' | h'
    ·have:=hu.mono h' hq hp;omega
    ·have:t=j:=by omega
     subst this
     rw[hq] at hp
     cases hp
     omega
theorem qmE {l:List Pt} (hu:Up l) {i j:Nat} {p q:Pt} (hp:l[i]?=some p) (hq:l[j]?=some q) (h:p.id=q.id):i=j∧p=q:=by
 rcases Nat.lt_trichotomy i j with e | e | e
 ·have:=hu.mono e hp hq;omega
 ·subst e;rw[hp] at hq;cases hq;exact⟨rfl,rfl⟩
 ·have:=hu.mono e hq hp;omega
theorem qc6 {l:List Pt} (hu:Up l) {k:Nat} {p:Pt} (hk:l[k]?=some p):(l.filter fun q=>decide (q.id≠p.id))=l.take k++l.drop (k+1):=by
 obtain⟨hkl,e⟩:=List.getElem?_eq_some_iff.1 hk
 have h1:l=l.take k++p::l.drop (k+1):=by rw[← e];simp
 have h2:∀ q∈l.take k,decide (q.id≠p.id)=true:=fun q hq=>by
  obtain⟨i,hi,hq'⟩:=qjw hq
  have:=hu.mono hi hq' hk
  exact dt (by omega)
 have h3:∀ q∈l.drop (k+1),decide (q.id≠p.id)=true:=fun q hq=>by
  obtain⟨i,hi,rfl⟩:=List.getElem_of_mem hq
  have hq':l[k+1+i]?=some (l.drop (k+1))[i]:=by rw[← List.getElem?_drop];exact List.getElem?_eq_getElem hi
  have:=hu.mono (show k<k+1+i by omega) hk hq'
  exact dt (by omega)
 conv=>lhs;rw[h1]
 rw[List.filter_append,List.filter_cons_of_neg (by simp),List.filter_eq_self.2 h2,List.filter_eq_self.2 h3]
noncomputable def qfv (l:List Pt) (a b:Int):Bool:=open Classical in decide (∃ p∈l,p.a=a∧p.b=b)
theorem qdS {l:List Pt} {a b:Int}:qfv l a b=true↔∃ p∈l,p.a=a∧p.b=b:=by unfold qfv;exact decide_eq_true_iff
theorem qgA {l:List Pt} {a b:Int} (h:∀ (k:Nat) (p:Pt),l[k]?=some p→¬ (p.a=a∧p.b=b)):qfv l a b=false:=by
 cases e:qfv l a b
 ·rfl
 ·obtain⟨p,hp,he⟩:=qdS.1 e
  obtain⟨k,hk,rfl⟩:=List.getElem_of_mem hp
  exact (h k _ (List.getElem?_eq_getElem hk) he).elim
theorem quR (x:Int) {l:List Pt} (hn:l.length≤1000000) (a b:Int):Fn 176 1 [qaP 0 x l,.pv (qag a b)] [(0,0,qak l)] (.pv (.bool (qfv l a b))) 0 []:=by
 have step:∀ k,(∀ j,j<k→∀ p,l[j]?=some p→¬ (p.a=a∧p.b=b))→∀ {e:Exit} {tm2:TmL} {hp2:HpL},k≤l.length→
  Rl 1 1 176 0 21 3 [(2,.pp 1 0),(3,.pp 2 0),(5,.pv (iV (k:Int)))] [(1,0,.pv (iV x)),(1,1,.ls 0 l.length),(2,0,.pv (iV a)),(2,1,.pv (iV b)),(0,0,qak l)] e tm2 hp2→
  Rl 1 1 176 0 21 3 [(2,.pp 1 0),(3,.pp 2 0),(5,.pv (iV ((0:Nat):Int)))] [(1,0,.pv (iV x)),(1,1,.ls 0 l.length),(2,0,.pv (iV a)),(2,1,.pv (iV b)),(0,0,qak l)] e tm2 hp2:=by
  intro k hk e tm2 hp2 hkl r
  refine RunsL.rounds (fun j=>[(2,.pp 1 0),(3,.pp 2 0),(5,.pv (iV (j:Int)))]) (fun _=>[(1,0,.pv (iV x)),(1,1,.ls 0 l.length),(2,0,.pv (iV a)),(2,1,.pv (iV b)),(0,0,qak l)]) (N:=k) k 0 (Nat.zero_add _) (fun j _ hj r=>?_) r
  obtain⟨p,hp⟩:=qaj (l:=l) (k:=j) (by omega)
  exact qpa hp (qap (qai hp)) (dt (by have:=qai hp;omega)) (qnA (p:=⟨0,a,b⟩) (hk j hj p hp)) (qay (by omega)) r
 rcases qaW (fun j=>∀ p,l[j]?=some p→¬ (p.a=a∧p.b=b)) l.length with h | ⟨j,hj,hb,hf⟩
 ·rw[qgA fun k p hp=>h k (qai hp) p hp]
  exact qzH (step l.length h (Nat.le_refl _) (qtB (df (by omega))))
 ·simp only[Classical.not_forall,Classical.not_not] at hb
  obtain⟨p,hp,he⟩:=hb
  rw[qdS.2 ⟨p,List.mem_of_getElem? hp,he⟩]
  exact qtb (step j hf (by omega) (quu hp (qap hj) (dt (by omega)) (qnO (p:=⟨0,a,b⟩) he)))
end Go.Proofs.YtkjaanhddkkodaaGreat

namespace Go.Proofs.YtkjaanhddkkodaaGreat
set_option maxRecDepth 100000
open Go.RowKit
theorem fc1 (a pa pb n:Int):∃ c,Pure Tryz.prog 206 #[qac a pa pb,iV n] (iV c)∧(c<0↔a<n)∧(c=0↔a=n):=by
 rcases Int.lt_trichotomy a n with h | h | h
 ·exact⟨-1,qyr (by simp) (by simp) (dt h),⟨fun _=>h,fun _=>by omega⟩,⟨fun h=>by omega,fun h=>by omega⟩⟩
 ·exact⟨0,qAz (by simp) (by simp) (df (by omega)) (df (by omega)),⟨fun h=>by omega,fun h=>by omega⟩,⟨fun _=>h,fun _=>rfl⟩⟩
 ·exact⟨1,qy1 (by simp) (by simp) (df (by omega)) (dt (by omega)),⟨fun h=>by omega,fun h=>by omega⟩,⟨fun h=>by omega,fun h=>by omega⟩⟩
abbrev qEq (l:List Pt) (n:Int) (i j:Nat):List (Nat×SV):=[(0,.ls 0 l.length),(1,.pv (iV n)),(2,.pv (.func (.func 206) #[] #[])),(8,.pv (iV (l.length:Int))),(9,.pv (iV (i:Int))),(10,.pv (iV (j:Int)))]
theorem qj6 {l:List Pt} (hn:l.length≤210) {n:Int} {k:Nat} (hlo:∀ (t:Nat) (p:Pt),t<k→l[t]?=some p→p.id<n) (hhi:∀ (t:Nat) (p:Pt),k≤t→l[t]?=some p→¬ p.id<n):∀ (d i j:Nat),j-i≤d→i≤k→k≤j→j≤l.length→
 Rl 1 1 205 0 49 1 (qEq l n i j) [(0,0,qak l)] (.exit 0) (qEq l n k k) [(0,0,qak l)]:=by
 intro d
 induction d with
 | zero=>
  intro i j hd h1 h2 h3
  have:i=k:=by omega
  have:j=k:=by omega
  subst i j
  exact qn8 (df (by omega))
 | succ d ih=>
  intro i j hd h1 h2 h3
  by_cases hij:i<j
  ·obtain⟨p,hp⟩:=qaj (l:=l) (k:=(i+j)/2) (by omega)
   obtain⟨c,hc,hc1,hc2⟩:=fc1 p.id p.a p.b n
   have a1:iV (IntKind.i64.wrap ((i:Int)+(j:Int)))=iV ((i:Int)+(j:Int)):=by rw[qam (by omega) (by omega)]
   have a2:Value.int .u64 (IntKind.u64.wrap ((i:Int)+(j:Int)))=.int .u64 ((i:Int)+(j:Int)):=by rw[qfg (by omega) (by omega)]
   have a3:Value.int .u64 (((i:Int)+(j:Int)).fdiv (2 ^ (min (1:Int).toNat IntKind.u64.bits)))=.int .u64 (((i+j)/2:Nat):Int):=by
    have:(2:Int) ^ (min (1:Int).toNat IntKind.u64.bits)=2:=rfl
    rw[this,Int.fdiv_eq_ediv_of_nonneg _ (by omega)]
    congr 1
   have a4:iV (IntKind.i64.wrap (((i+j)/2:Nat):Int))=iV (((i+j)/2:Nat):Int):=by rw[qam (by omega) (by omega)]
   by_cases hlt:p.id<n
   ·refine qwB hp (qap (qai hp)) (dt (by omega)) a1 a2 (by omega) a3 a4 hc (dt (hc1.2 hlt)) (qay (by omega)) (ih _ _ (by omega) ?_ h2 h3)
    rcases Nat.lt_or_ge ((i+j)/2) k with h | h
    ·exact h
    ·exact (hhi _ p h hp hlt).elim
   ·refine qzL hp (qap (qai hp)) (dt (by omega)) a1 a2 (by omega) a3 a4 hc (df (fun h=>hlt (hc1.1 h))) (ih _ _ (by omega) h1 ?_ (by omega))
    rcases Nat.lt_or_ge ((i+j)/2) k with h | h
    ·exact (hlt (hlo _ p h hp)).elim
    ·exact h
  ·have:i=k:=by omega
   have:j=k:=by omega
   subst i j
   exact qn8 (df (by omega))
theorem qn1 (x:Int) {l:List Pt} (hn:l.length≤210) (hu:Up l) {n:Int} {k:Nat} {p:Pt} (hk:l[k]?=some p) (he:p.id=n):Fn 165 1 [qaP 0 x l,.pv (iV n)] [(0,0,qak l)] (.pv (.tuple #[iV (k:Int),.bool true])) 0 []:=by
 subst he
 obtain⟨c,hc,hc1,hc2⟩:=fc1 p.id p.a p.b p.id
 have hl:=qai hk
 refine qek (qoK (qj6 hn (fun t q ht hq=>hu.mono ht hq hk) (fun t q ht hq=>?_) l.length 0 l.length (by omega) (Nat.zero_le _) (by omega) (Nat.le_refl _)) hk (qap hl) (dt (by omega)) hc (by simpa using hc2.2 rfl))
 rcases Nat.lt_or_ge k t with h | h
 ·have:=hu.mono h hk hq;omega
 ·have:t=k:=by omega
  subst this
  rw[hk] at hq;cases hq;omega
theorem qrm (x:Int) {l:List Pt} (hn:l.length≤210) {n:Int} {k:Nat} (hkl:k≤l.length) (hlo:∀ (t:Nat) (p:Pt),t<k→l[t]?=some p→p.id<n) (hhi:∀ (t:Nat) (p:Pt),k≤t→l[t]?=some p→n<p.id):Fn 165 1 [qaP 0 x l,.pv (iV n)] [(0,0,qak l)] (.pv (.tuple #[iV (k:Int),.bool false])) 0 []:=by
 have hb:=qj6 hn hlo (fun t p ht hp=>by have:=hhi t p ht hp;omega) l.length 0 l.length (by omega) (Nat.zero_le _) hkl (Nat.le_refl _)
 by_cases h:k<l.length
 ·obtain⟨p,hp⟩:=qaj h
  obtain⟨c,hc,hc1,hc2⟩:=fc1 p.id p.a p.b n
  refine qek (qsz hb hp (qap h) (dt (by omega)) hc ?_)
  have:=hhi k p (Nat.le_refl _) hp
  simp only[beq_eq_false_iff_ne,ne_eq]
  exact fun e=>by have:=hc2.1 e;omega
 ·exact qek (qrr hb (df (by omega)))
abbrev qEB:Value:=.agg #[iV 0,.slice none 0 0]
abbrev qyU (f:FuncId) (x:Int) (l:List Pt) (n e:Int):Prop:=Fn f 1 [qaP 0 x l,.pv (iV n)] [(0,0,qak l)] (.pv (.tuple #[qEB,qag 0 0,iV e])) 0 []
abbrev qBz (f:FuncId) (x:Int) (l:List Pt) (n:Int) (m:List Pt) (a b:Int):Prop:=Fn f 1 [qaP 0 x l,.pv (iV n)] [(0,0,qak l)] (.tu [.ag [.pv (iV x),.ls 1 m.length],.one (.pv (qag a b)),.one (.pv (iV 0))]) 1 [(1,0,qak m)]
theorem qb4 {a b c:Int} (h:a+b=c) (h0:0≤c) (h1:c≤2000000):iV (IntKind.i64.wrap (a+b))=iV c:=by rw[h,qam (by omega) (by omega)]
theorem qEL {l:List Pt} (hn:l.length≤210) {k:Nat} (hk:k<l.length):Fn 105 2 [.ps 1 0 2 2] [(1,0,.lq 0 3 0 k),(1,1,.lq 0 3 (0+(k+1)) (l.length-(k+1))),(0,0,qak l)] (.ls 2 (l.take k++l.drop (k+1)).length) 1 [(2,0,qak (l.take k++l.drop (k+1)))]:=by
 by_cases hz:l.length=1
 ·refine qAD (s1:=(k:Int)) (s2:=((k+(l.length-(k+1)):Nat):Int)) (q1:=qb4 (by omega) (by omega) (by omega)) (n1:=df (by omega)) (q2:=qb4 (by omega) (by omega) (by omega)) (n2:=df (by omega)) (hgr:=?_) (a1:=by omega) (a2:=by omega) (hkl1:=by omega)
  rw[show ((k+(l.length-(k+1)):Nat):Int)=0 by omega]
  exact qDw (h0:=df (by omega)) (hs:=by rw[qam (by omega) (by omega)];rfl) (hg:=df (by omega))
 ·exact qxA (s1:=(k:Int)) (s2:=((k+(l.length-(k+1)):Nat):Int)) (q1:=qb4 (by omega) (by omega) (by omega)) (n1:=df (by omega)) (q2:=qb4 (by omega) (by omega) (by omega)) (n2:=df (by omega))
   (hgr:=qxK (h0:=df (by omega)) (hs:=by rw[qam (by omega) (by omega)];congr 1<;>omega) (hg:=dt (by omega)) (a0:=by omega) (a1:=by omega)) (a1:=by omega) (a2:=by omega) (hkl1:=by omega)
abbrev qrI (f:FuncId) (x:Int) (l:List Pt) (a b e:Int):Prop:=Fn f 1 [qaP 0 x l,.pv (qag a b)] [(0,0,qak l)] (.pv (.tuple #[qEB,iV 0,iV e])) 0 []
abbrev qzR (f:FuncId) (x:Int) (l:List Pt) (a b:Int):Prop:=Fn f 1 [qaP 0 x l,.pv (qag a b)] [(0,0,qak l)] (.tu [.ag [.pv (iV (x+1)),.ls 1 (l++[Pt.mk x a b]).length],.one (.pv (iV x)),.one (.pv (iV 0))]) 1 [(1,0,qak (l++[Pt.mk x a b]))]
theorem qyo {l:List Pt} (hn:l.length≤210) (a b:Int):Fn 140 2 [.ls 0 l.length,.pc 149 [.pp 1 0]] [(0,0,qak l),(1,0,.pv (iV a)),(1,1,.pv (iV b))] (.pv (.bool (qfv l a b))) 0 []:=by
 have step:∀ k,(∀ j,j<k→∀ p,l[j]?=some p→¬ (p.a=a∧p.b=b))→∀ {e:Exit} {tm2:TmL} {hp2:HpL},k≤l.length→
  Rl 2 2 184 0 19 2 [(0,.ls 0 l.length),(1,.pc 149 [.pp 1 0]),(7,.pv (iV (l.length:Int))),(8,.pv (iV (k:Int)))] [(0,0,qak l),(1,0,.pv (iV a)),(1,1,.pv (iV b))] e tm2 hp2→
  Rl 2 2 184 0 19 2 [(0,.ls 0 l.length),(1,.pc 149 [.pp 1 0]),(7,.pv (iV (l.length:Int))),(8,.pv (iV ((0:Nat):Int)))] [(0,0,qak l),(1,0,.pv (iV a)),(1,1,.pv (iV b))] e tm2 hp2:=by
  intro k hk e tm2 hp2 hkl r
  refine RunsL.rounds (fun j=>[(0,.ls 0 l.length),(1,.pc 149 [.pp 1 0]),(7,.pv (iV (l.length:Int))),(8,.pv (iV (j:Int)))]) (fun _=>[(0,0,qak l),(1,0,.pv (iV a)),(1,1,.pv (iV b))]) (N:=k) k 0 (Nat.zero_add _) (fun j _ hj r=>?_) r
  obtain⟨p,hp⟩:=qaj (l:=l) (k:=j) (by omega)
  exact qoI hp (qap (qai hp)) (dt (by have:=qai hp;omega)) (qnA (p:=⟨0,a,b⟩) (hk j hj p hp)) (qay (by omega)) r
 rcases qaW (fun j=>∀ p,l[j]?=some p→¬ (p.a=a∧p.b=b)) l.length with h | ⟨j,hj,hb,hf⟩
 ·rw[qgA fun k p hp=>h k (qai hp) p hp]
  exact qy5 (qwQ (step l.length h (Nat.le_refl _) (quC (df (by omega)))))
 ·simp only[Classical.not_forall,Classical.not_not] at hb
  obtain⟨p,hp,he⟩:=hb
  rw[qdS.2 ⟨p,List.mem_of_getElem? hp,he⟩]
  exact qt6 (k:=j) (qt4 (step j hf (by omega) (qvW hp (qap hj) (dt (by omega)) (qnO (p:=⟨0,a,b⟩) he)))) (dt (by omega))
noncomputable def qse (l:List Pt) (a b:Int):Int:=if qcc a b=true then (if qfv l a b=true then 14 else 0) else 8
def qho (x:Int) (l:List Pt):Int:=if l.length=200∨x=1000000 then 18 else 0
theorem qzb (x:Int) {l:List Pt} (hn:l.length≤210) (a b:Int):Fn 103 1 [qaP 0 x l,.pv (qag a b)] [(0,0,qak l)] (.pv (iV (qse l a b))) 0 []:=by
 have h1:=qjA a b
 have h2:=qyo hn a b
 unfold qse
 cases c:qcc a b
 ·rw[c] at h1;rw[if_neg (by decide)];exact qsK h1
 ·rw[c] at h1
  rw[if_pos rfl]
  cases d:qfv l a b
  ·rw[d] at h2;rw[if_neg (by decide)];exact qyi h1 h2
  ·rw[d] at h2;rw[if_pos rfl];exact qtp h1 h2
theorem qml (x:Int) (l:List Pt):Fn 104 1 [qaP 0 x l] [(0,0,qak l)] (.pv (iV (qho x l))) 0 []:=by
 unfold qho
 by_cases h1:l.length=200
 ·rw[if_pos (Or.inl h1)];exact qp6 (by simp[h1])
 ·by_cases h2:x=1000000
  ·rw[if_pos (Or.inr h2)];exact qp2 (by simp;omega) (by simp[h2])
  ·rw[if_neg (by omega)];exact qxo (by simp;omega) (by simp[h2])
theorem qFj {l:List Pt} (hn:l.length≤210) (x a b:Int):Fn 105 3 [.ps 2 0 2 2] [(2,0,.ls 0 l.length),(2,1,.ps 1 0 1 1),(1,0,.pv (iV x)),(1,1,.pv (iV a)),(1,2,.pv (iV b)),(0,0,qak l)] (.ls 3 (l++[Pt.mk x a b]).length) 1 [(3,0,qak (l++[Pt.mk x a b]))]:=
 qE1 (s1:=(l.length:Int)) (s2:=((l.length+1:Nat):Int)) (q1:=qb4 (by omega) (by omega) (by omega)) (n1:=df (by omega)) (q2:=qb4 (by omega) (by omega) (by omega)) (n2:=df (by omega))
  (hgr:=qxK (h0:=df (by omega)) (hs:=by rw[qam (by omega) (by omega)];congr 1<;>omega) (hg:=dt (by omega)) (a0:=by omega) (a1:=by omega)) (a1:=by omega) (a2:=by omega)
def qE9 (x:Int) (l:List Pt) (a b e:Int):Prop:=(e=8∧(¬ V8 x l∨¬ qcc a b=true))∨(e=14∧V8 x l∧qcc a b=true∧qfv l a b=true)∨(e=18∧V8 x l∧qcc a b=true∧qfv l a b=false∧(l.length=200∨x=1000000))
theorem qjL (x:Int) {l:List Pt} (hn:l.length≤210) (a b:Int):(∃ e,qrI 57 x l a b e∧qrI 122 x l a b e∧qE9 x l a b e)∨
 (V8 x l∧qcc a b=true∧qfv l a b=false∧l.length<200∧x<1000000∧qzR 57 x l a b∧qzR 122 x l a b):=by
 have p1:=qgl x l
 have p2:=qzb x hn a b
 have p3:=qml x l
 have r1:=qmM x l
 have r2:=qeA a b
 have r3:=quR x (l:=l) (by omega) a b
 by_cases hv:V8 x l
 ·rw[qdu hv] at p1 r1
  cases hc:qcc a b
  ·rw[hc] at r2
   have e2:qse l a b=8:=by unfold qse;rw[hc,if_neg (by decide)]
   rw[e2] at p2
   exact Or.inl ⟨8,qsg (c1:=p1) (c2:=p2) (c3:=p3) (he:=by decide),qvJ (hc:=r1) (hv:=r2),Or.inl ⟨rfl,Or.inr (by rw[hc];decide)⟩⟩
  ·rw[hc] at r2
   cases hh:qfv l a b
   ·rw[hh] at r3
    have e2:qse l a b=0:=by unfold qse;rw[hc,if_pos rfl,hh,if_neg (by decide)]
    rw[e2] at p2
    by_cases hf:l.length=200
    ·have e3:qho x l=18:=by unfold qho;rw[if_pos (Or.inl hf)]
     rw[e3] at p3
     exact Or.inl ⟨18,qrR (c1:=p1) (c2:=p2) (c3:=p3) (he:=by decide),qpE (hc:=r1) (hv:=r2) (hh:=r3) (hf:=by simp;omega),Or.inr (Or.inr ⟨rfl,hv,hc,hh,Or.inl hf⟩)⟩
    ·by_cases hw:x=1000000
     ·have e3:qho x l=18:=by unfold qho;rw[if_pos (Or.inr hw)]
      rw[e3] at p3
      exact Or.inl ⟨18,qrR (c1:=p1) (c2:=p2) (c3:=p3) (he:=by decide),qpf (hc:=r1) (hv:=r2) (hh:=r3) (hf:=by simp;omega) (hu:=by simp[hw]),Or.inr (Or.inr ⟨rfl,hv,hc,hh,Or.inr hw⟩)⟩
     ·have e3:qho x l=0:=by unfold qho;rw[if_neg (by omega)]
      rw[e3] at p3
      have hl:=hv.len
      have hx:=hv.nx
      have hy:iV (IntKind.i64.wrap (x+1))=iV (x+1):=qb4 rfl (by omega) (by omega)
      refine Or.inr ⟨hv,rfl,rfl,by omega,by omega,qza (c1:=p1) (c2:=p2) (c3:=p3) (hcat:=qFj hn x a b) (hy:=hy),qy3 (hc:=r1) (hv:=r2) (hh:=r3) (hf:=by simp;omega) (hu:=by simpa using hw) (ht:=ql7 x (by omega)) (hn:=by omega) (hy:=hy)⟩
   ·rw[hh] at r3
    have e2:qse l a b=14:=by unfold qse;rw[hc,if_pos rfl,hh,if_pos rfl]
    rw[e2] at p2
    exact Or.inl ⟨14,qsg (c1:=p1) (c2:=p2) (c3:=p3) (he:=by decide),qs2 (hc:=r1) (hv:=r2) (hh:=r3),Or.inr (Or.inl ⟨rfl,hv,hc,hh⟩)⟩
 ·rw[qbx hv] at p1 r1
  exact Or.inl ⟨8,qAn (c1:=p1) (c2:=p2) (c3:=p3) (he:=by decide),qtV (hc:=r1),Or.inl ⟨rfl,Or.inl hv⟩⟩
end Go.Proofs.YtkjaanhddkkodaaGreat
