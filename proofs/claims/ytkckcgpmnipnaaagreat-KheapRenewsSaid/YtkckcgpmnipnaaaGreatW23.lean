/-
  Joined: Kg, Ki, Kj, La. Conditions: none.
-/
import Derived.Test.YtkckcgpmnipnaaaGreatW21
import Derived.Test.YtkckcgpmnipnaaaGreatW16
import Derived.Test.YtkckcgpmnipnaaaGreatW22
import Derived.Test.YtkckcgpmnipnaaaGreatW19
namespace Go.Proofs.YtkckcgpmnipnaaaGreat
set_option maxRecDepth 100000
open Go.RowKit
variable {a pa pb n c b x s s1 s2 e e3:Int} {l:List Pt} {i j h k:Nat} {p:Pt}
theorem qDQ (l:List Pt) (p:Pt):SV.ls 5 (0+l.length+1)=(SV.ls 3 (l++[p]).length).ren (qaM [(3,5)]):=by rw[Nat.zero_add,List.length_append];rfl
theorem qs2 (l:List Pt) (p:Pt):some (SV.row 171 3 (0+l.length+1) ([]++qbs l++[iV p.id,iV p.a,iV p.b]))=some (qak (l++[p])):=by rw[Nat.zero_add,List.nil_append];exact (congrArg some (by rw[qhi,qak,List.length_append];rfl))
theorem qks (b:Nat) (l:List Pt) (k:Nat) (h:k+1≤l.length):SV.ls b (0+k+(l.length-(k+1)))=(SV.ls 2 (l.take k++l.drop (k+1)).length).ren (qaM [(2,b)]):=by rw[qhl l k h];rfl
theorem qkq (l:List Pt) (k:Nat) (h:k+1≤l.length):some (SV.row 171 3 (0+k+(l.length-(k+1))) ([]++((qbs l).drop (0*3)).take (k*3)++((qbs l).drop ((0+(k+1))*3)).take ((l.length-(k+1))*3)))=some (qak (l.take k++l.drop (k+1))):=by
 have h1:=qjE l k;have h2:=qjB l (k+1);rw[Nat.zero_add] at h1;rw[h1,h2,qak,qhl l k h,qb5,List.nil_append]
theorem qCo (n1:(!(a==a))=false) (n2:(!(n==n))=false) (h1:decide (a<n)=true) :
 Pure Tryz.prog 299 #[qac a pa pb,iV n] (iV (-1)):=
 qad (args:=[qac a pa pb,iV n]) 300 [.k,.k,.t false,.k,.t false,.t true]
  (A4 rfl n1 n2 h1 tI) (by kernel_rfl)
theorem qBe (n1:(!(a==a))=false) (n2:(!(n==n))=false) (h1:decide (a<n)=false) (h2:decide (a>n)=true) :
 Pure Tryz.prog 299 #[qac a pa pb,iV n] (iV (1)):=
 qad (args:=[qac a pa pb,iV n]) 300 [.k,.k,.t false,.k,.t false,.t false,.t true]
  (A5 rfl n1 n2 h1 h2 tI) (by kernel_rfl)
theorem qDn (n1:(!(a==a))=false) (n2:(!(n==n))=false) (h1:decide (a<n)=false) (h2:decide (a>n)=false) :
 Pure Tryz.prog 299 #[qac a pa pb,iV n] (iV (0)):=
 qad (args:=[qac a pa pb,iV n]) 300 [.k,.k,.t false,.k,.t false,.t false,.t false]
  (A5 rfl n1 n2 h1 h2 tI) (by kernel_rfl)
abbrev qES (i:Nat) (j:Nat) (l:List Pt) (n:Int):TmL:=[(0,.ls 0 l.length),(1,.pv (iV n)),(2,.pv (.func (.func 299) #[] #[])),(8,.pv (iV (l.length:Int))),(9,.pv (iV (i:Int))),(10,.pv (iV (j:Int)))]
abbrev qEr (c:Int) (n:Int) (p:Pt):Prop:=Pure Tryz.prog 299 #[qac p.id p.a p.b,iV n] (iV (c))
theorem qzN (hk:l[h]?=some p) (hin:Bd h l.length) (hlt:Dt ((i:Int)<(j:Int))) (ha:iV (IntKind.i64.wrap ((i:Int)+(j:Int)))=iV ((i:Int)+(j:Int))) (hu:Value.int .u64 (IntKind.u64.wrap ((i:Int)+(j:Int)))=.int .u64 ((i:Int)+(j:Int))) (h1:¬ (1:Int)<0) (hs:Value.int .u64 (((i:Int)+(j:Int)).fdiv (2 ^ (min (1:Int).toNat IntKind.u64.bits)))=.int .u64 (h:Int)) (hb:iV (IntKind.i64.wrap (h:Int))=iV (h:Int)) (hc:qEr c n p) (hz:Dt (c<0)) (hh:iV (IntKind.i64.wrap ((h:Int)+1))=iV (((h+1:Nat):Int))) {e:Exit} {tm2:TmL} {hp2:HpL}
 (r:Rl 1 1 298 0 49 1 ([(0,.ls 0 l.length),(1,.pv (iV n)),(2,.pv (.func (.func 299) #[] #[])),(8,.pv (iV (l.length:Int))),(9,.pv (iV ((h+1:Nat):Int))),(10,.pv (iV (j:Int)))]) ([(0,0,qak l)]) e tm2 hp2):Rl 1 1 298 0 49 1 (qES i j l n) ([(0,0,qak l)]) e tm2 hp2:=
 RunsL.next [] 300 [.t true,Re ha,Re hu,.r (.int .u64 (h:Int)),Re hb,.r (ptV p),Rf hc,.t true,Re hh]
  (Ro (A9 hlt ha hu h1 hs hb hin (qaB hk) hc (A2 hz hh tI))) r
theorem qDp (hk:l[h]?=some p) (hin:Bd h l.length) (hlt:Dt ((i:Int)<(j:Int))) (ha:iV (IntKind.i64.wrap ((i:Int)+(j:Int)))=iV ((i:Int)+(j:Int))) (hu:Value.int .u64 (IntKind.u64.wrap ((i:Int)+(j:Int)))=.int .u64 ((i:Int)+(j:Int))) (h1:¬ (1:Int)<0) (hs:Value.int .u64 (((i:Int)+(j:Int)).fdiv (2 ^ (min (1:Int).toNat IntKind.u64.bits)))=.int .u64 (h:Int)) (hb:iV (IntKind.i64.wrap (h:Int))=iV (h:Int)) (hc:qEr c n p) (hz:Df (c<0)) {e:Exit} {tm2:TmL} {hp2:HpL}
 (r:Rl 1 1 298 0 49 1 ([(0,.ls 0 l.length),(1,.pv (iV n)),(2,.pv (.func (.func 299) #[] #[])),(8,.pv (iV (l.length:Int))),(9,.pv (iV (i:Int))),(10,.pv (iV (h:Int)))]) ([(0,0,qak l)]) e tm2 hp2):Rl 1 1 298 0 49 1 (qES i j l n) ([(0,0,qak l)]) e tm2 hp2:=
 RunsL.next [] 300 [.t true,Re ha,Re hu,.r (.int .u64 (h:Int)),Re hb,.r (ptV p),Rf hc,.t false]
  (Ro (A9 hlt ha hu h1 hs hb hin (qaB hk) hc (Ai hz tI))) r
theorem qpI (hge:decide ((i:Int)<(j:Int))=false):Rl 1 1 298 0 49 1 (qES i j l n) ([(0,0,qak l)]) (.exit 0) (qES i j l n) ([(0,0,qak l)]):=
 RunsL.stop [] 300 [.t false] (fun h=>by cases h)
  (Ro (Ai hge tI))
abbrev qIA (k:Nat) (l:List Pt) (n:Int):Prop:=Rl 1 1 298 0 49 1 ([(0,.ls 0 l.length),(1,.pv (iV n)),(2,.pv (.func (.func 299) #[] #[])),(8,.pv (iV (l.length:Int))),(9,.pv (iV ((0:Nat):Int))),(10,.pv (iV (l.length:Int)))]) ([(0,0,qak l)]) (.exit 0) ([(0,.ls 0 l.length),(1,.pv (iV n)),(2,.pv (.func (.func 299) #[] #[])),(8,.pv (iV (l.length:Int))),(9,.pv (iV (k:Int))),(10,.pv (iV (k:Int)))]) ([(0,0,qak l)])
theorem qsw (r0:qIA k l n) (hge:Df ((k:Int)<(l.length:Int))) :
 Fn 298 1 [.ls 0 l.length,.pv (iV (n)),.pv (.func (.func 299) #[] #[])] [(0,0,qak l)] (.pv (.tuple #[iV (k:Int),.bool false])) 0 []:=
 Fz [] [Lf r0,.t false]
  tI (Lo r0 [] (Ai hge tI))
theorem qqX (r0:qIA k l n) (hk:l[k]?=some p) (hin:0≤(k:Int)∧(k:Int)<(l.length:Int)) (hlt:decide ((k:Int)<(l.length:Int))=true) (hc:qEr c n p) (hz:(c==0)=true) :
 Fn 298 1 [.ls 0 l.length,.pv (iV (n)),.pv (.func (.func 299) #[] #[])] [(0,0,qak l)] (.pv (.tuple #[iV (k:Int),.bool true])) 0 []:=
 Fz [] [Lf r0,.t true,.r (ptV p),Rf hc,.t true]
  tI (Lo r0 [] (A5 hlt hin (qaB hk) hc hz tI))
theorem qwV (r0:qIA k l n) (hk:l[k]?=some p) (hin:Bd k l.length) (hlt:Dt ((k:Int)<(l.length:Int))) (hc:qEr c n p) (hz:(c==0)=false) :
 Fn 298 1 [.ls 0 l.length,.pv (iV (n)),.pv (.func (.func 299) #[] #[])] [(0,0,qak l)] (.pv (.tuple #[iV (k:Int),.bool false])) 0 []:=
 Fz [] [Lf r0,.t true,.r (ptV p),Rf hc,.t false]
  tI (Lo r0 [] (A5 hlt hin (qaB hk) hc hz tI))
theorem qeC {b:Bool} (hb:Fn 298 1 [.ls 0 l.length,.pv (iV (n)),.pv (.func (.func 299) #[] #[])] [(0,0,qak l)] (.pv (.tuple #[iV (k:Int),.bool b])) 0 []) :
 Fn 240 1 [qaU 0 x l,.pv (iV (n))] [(0,0,qak l)] (.pv (.tuple #[iV (k:Int),.bool b])) 0 []:=
 Fz [] [Cf hb [0]]
  tI (Co hb [0] 2 tI)
abbrev qAH (l:List Pt) (x:Int):Prop:=Fn 178 1 [qaU 0 x l] [(0,0,qak l)] (.pv (iV (0))) 0 []
theorem qBL (hc:qAH l x) (hf:Fn 240 1 [qaU 0 x l,.pv (iV (n))] [(0,0,qak l)] (.pv (.tuple #[iV (k:Int),.bool false])) 0 []) :
 Fn 239 1 [qaU 0 x l,.pv (iV (n))] [(0,0,qak l)] (.pv (.tuple #[qae 0 0,iV 6])) 0 []:=
 Fz [] [Cf hc [0],.k,Cf hf [0],.k]
  tI (Co hc [0] 3 (Co hf [0] 3 tI))
theorem qyj (hk:l[k]?=some p) (hin:Bd k l.length) (hc:qAH l x) (hf:Fn 240 1 [qaU 0 x l,.pv (iV (n))] [(0,0,qak l)] (.pv (.tuple #[iV (k:Int),.bool true])) 0 []) :
 Fn 239 1 [qaU 0 x l,.pv (iV (n))] [(0,0,qak l)] (.pv (.tuple #[qae p.a p.b,iV 0])) 0 []:=
 Fz [] [Cf hc [0],.k,Cf hf [0],.k,.r (qae p.a p.b)]
  tI (Co hc [0] 3 (Co hf [0] 3 (A2 hin (qcI hk) tI)))
abbrev qk5 (a:Int) (b:Int) (l:List Pt):HpL:=[(0,0,qak l),(1,0,.pv (iV a)),(1,1,.pv (iV b))]
abbrev qHO (k:Nat) (l:List Pt):TmL:=[(0,.ls 0 l.length),(1,.pc 275 [.pp 1 0]),(7,.pv (iV (l.length:Int))),(8,.pv (iV (k:Int)))]
theorem qrI (hk:l[k]?=some p) (hin:Bd k l.length) (hlt:Dt ((k:Int)<(l.length:Int))) (he:(p.a==a&&(p.b==b&&true))=false) (hs:iV (IntKind.i64.wrap ((k:Int)+1))=iV (((k+1:Nat):Int))) {e:Exit} {tm2:TmL} {hp2:HpL}
 (r:Rl 2 2 318 0 19 2 ([(0,.ls 0 l.length),(1,.pc 275 [.pp 1 0]),(7,.pv (iV (l.length:Int))),(8,.pv (iV ((k+1:Nat):Int)))]) (qk5 a b l) e tm2 hp2):Rl 2 2 318 0 19 2 (qHO k l) (qk5 a b l) e tm2 hp2:=
 RunsL.next [] 300 [.t true,.r (ptV p),.k,.t false,Re hs]
  (Ro (A5 hlt hin (qaB hk) he hs tI)) r
theorem qzd (hk:l[k]?=some p) (hin:Bd k l.length) (hlt:Dt ((k:Int)<(l.length:Int))) (he:(p.a==a&&(p.b==b&&true))=true):Rl 2 2 318 0 19 2 (qHO k l) (qk5 a b l) (.ret) ([(4,.pv (iV (k:Int)))]) ([]):=
 RunsL.stop [] 300 [.t true,.r (ptV p),.k,.t true] (fun h=>by cases h)
  (Ro (A4 hlt hin (qaB hk) he tI))
theorem qy8 (hge:decide ((k:Int)<(l.length:Int))=false):Rl 2 2 318 0 19 2 (qHO k l) (qk5 a b l) (.exit 0) ([]) ([]):=
 RunsL.stop [] 300 [.t false] (fun h=>by cases h)
  (Ro (Ai hge tI))
theorem qDk (r0:Rl 2 2 318 0 19 2 ((yaa l)) (qk5 a b l) (.exit 0) ([]) ([])) :
 Fn 318 2 [.ls 0 l.length,.pc 275 [.pp 1 0]] (qk5 a b l) (.pv (iV (-1))) 0 []:=
 Fz [] [Lf r0]
  tI (Lo r0 [] tI)
theorem qwf (r0:Rl 2 2 318 0 19 2 ((yaa l)) (qk5 a b l) (.ret) ([(4,.pv (iV (k:Int)))]) ([])) :
 Fn 318 2 [.ls 0 l.length,.pc 275 [.pp 1 0]] (qk5 a b l) (.pv (iV (k:Int))) 0 []:=
 Fz [] [Lf r0]
  tI (Lo r0 [] tI)
theorem qA7 (hi:Fn 318 2 [.ls 0 l.length,.pc 275 [.pp 1 0]] (qk5 a b l) (.pv (iV (-1))) 0 []) :
 Fn 274 2 [.ls 0 l.length,.pc 275 [.pp 1 0]] (qk5 a b l) (.pv (.bool false)) 0 []:=
 Fz [] [Cf hi [0,1],.k]
  tI (Co hi [0,1] 2 tI)
theorem qw5 (hi:Fn 318 2 [.ls 0 l.length,.pc 275 [.pp 1 0]] (qk5 a b l) (.pv (iV (k:Int))) 0 []) (h0:Dt ((k:Int)≥0)) :
 Fn 274 2 [.ls 0 l.length,.pc 275 [.pp 1 0]] (qk5 a b l) (.pv (.bool true)) 0 []:=
 Fz [] [Cf hi [0,1],.t true]
  tI (Co hi [0,1] 2 (Ai h0 tI))
theorem qxF (hv:Pure Tryz.prog 273 #[qae a b] (.bool false)) :
 Fn 221 1 [qaU 0 x l,.pv (qae a b)] [(0,0,qak l)] (.pv (iV (8))) 0 []:=
 Fz [] [Rf hv,.k]
  tI (Ai hv tI)
theorem qw2 (hv:Pure Tryz.prog 273 #[qae a b] (.bool true)) (ht:Fn 274 2 [.ls 0 l.length,.pc 275 [.pp 1 0]] (qk5 a b l) (.pv (.bool true)) 0 []) :
 Fn 221 1 [qaU 0 x l,.pv (qae a b)] [(0,0,qak l)] (.pv (iV (14))) 0 []:=
 Fz [] [Rf hv,.k,Cf ht [0,2]]
  tI (Ai hv (Co ht [0,2] 3 tI))
theorem qCr (hv:Pure Tryz.prog 273 #[qae a b] (.bool true)) (ht:Fn 274 2 [.ls 0 l.length,.pc 275 [.pp 1 0]] (qk5 a b l) (.pv (.bool false)) 0 []) :
 Fn 221 1 [qaU 0 x l,.pv (qae a b)] [(0,0,qak l)] (.pv (iV (0))) 0 []:=
 Fz [] [Rf hv,.k,Cf ht [0,2]]
  tI (Ai hv (Co ht [0,2] 3 tI))
theorem qso (hf:((l.length:Int)==200)=true) :
 Fn 222 1 [qaU 0 x l] [(0,0,qak l)] (.pv (iV (18))) 0 []:=
 Fz [] [.t true]
  tI (Ai hf tI)
theorem qqW (hf:((l.length:Int)==200)=false) (hu:(x==1000000)=true) :
 Fn 222 1 [qaU 0 x l] [(0,0,qak l)] (.pv (iV (18))) 0 []:=
 Fz [] [.t false,.t true]
  tI (A2 hf hu tI)
theorem qCD (hf:((l.length:Int)==200)=false) (hu:(x==1000000)=false) :
 Fn 222 1 [qaU 0 x l] [(0,0,qak l)] (.pv (iV (0))) 0 []:=
 Fz [] [.t false,.t false]
  tI (A2 hf hu tI)
theorem qHq (h0:decide (s<0)=false) (hs:iV (IntKind.i64.wrap (s-0))=iV (s)) (hg:decide (s>0)=false) :
 Fn 276 0 [.pv (.slice none 0 0),.pv (iV (s))] [] (.pv (.slice none 0 0)) 0 []:=
 Fz [] [.t false,.k,Re hs,.t false]
  tI (A3 h0 hs hg tI)
theorem qEe (h0:decide (s<0)=false) (hs:iV (IntKind.i64.wrap (s-0))=iV (s)) (hg:decide (s>0)=true) (a0:0≤s) (a1:s≤1000000) :
 Fn 276 0 [.pv (.slice none 0 0),.pv (iV (s))] [] (.ls 0 0) 1 [(0,0,qak ([]:List Pt))]:=
 Fz [(0,1)] [.t false,.k,Re hs,.t true,.w []]
  (qaG (qaM [(0,1)]) [(0,0,qak ([]:List Pt))]) (A7 h0 hs hg a0 a1 (Int.le_refl (0:Int)) (Nat.zero_le s.toNat) tI)
theorem qJQ (q1:iV (IntKind.i64.wrap ((0:Int)+(l.length:Int)))=iV (s1)) (n1:Df (s1<0)) (q2:iV (IntKind.i64.wrap (s1+((1:Nat):Int)))=iV (s2)) (n2:Df (s2<0)) (hgr:Fn 276 0 [.pv (.slice none 0 0),.pv (iV (s2))] [] (.ls 0 0) 1 [(0,0,qak ([]:List Pt))]) (a1:0+l.length≤1000000) (a2:0+l.length+1≤1000000) :
 Fn 223 3 [.ps 2 0 2 2] [(2,0,.ls 0 l.length),(2,1,.ps 1 0 1 1),(1,0,.pv (iV x)),(1,1,.pv (iV a)),(1,2,.pv (iV b)),(0,0,qak l)] (.ls 3 (l++[(Pt.mk x a b)]).length) 1 [(3,0,qak (l++[(Pt.mk x a b)]))]:=
 Fx [(3,5)] [.k,Re q1,.t false,.k,.k,.r (iV (s2)),.t false,.k,.k,Cf hgr [],.k,.k,.k,.k,.k]
  (qDQ l (Pt.mk x a b)) (Ai (qs2 l (Pt.mk x a b)) tI) (A4 q1 n1 q2 n2 (Co hgr [] 3 (A2 a1 a2 tI)))
abbrev qHt (k:Nat) (l:List Pt):HpL:=[(1,0,.lq 0 3 0 k),(1,1,.lq 0 3 (0+(k+1)) (l.length-(k+1))),(0,0,qak l)]
theorem qEb (q1:iV (IntKind.i64.wrap ((0:Int)+((k:Nat):Int)))=iV (s1)) (n1:Df (s1<0)) (q2:iV (IntKind.i64.wrap (s1+((l.length-(k+1):Nat):Int)))=iV (s2)) (n2:Df (s2<0)) (hgr:Fn 276 0 [.pv (.slice none 0 0),.pv (iV (s2))] [] (.ls 0 0) 1 [(0,0,qak ([]:List Pt))]) (a1:0+k≤1000000) (a2:0+k+(l.length-(k+1))≤1000000) (hkl1:k+1≤l.length) :
 Fn 223 2 [.ps 1 0 2 2] (qHt k l) (.ls 2 (l.take k++l.drop (k+1)).length) 1 [(2,0,qak (l.take k++l.drop (k+1)))]:=
 Fx [(2,4)] [.k,.r (iV (s1)),.t false,.k,.k,.r (iV (s2)),.t false,.k,.k,Cf hgr [],.k,.k,.k,.k,.k]
  (qks 4 l k hkl1) (Ai (qkq l k hkl1) tI) (A4 q1 n1 q2 n2 (Co hgr [] 2 (A2 a1 a2 tI)))
theorem qCK (q1:iV (IntKind.i64.wrap ((0:Int)+((k:Nat):Int)))=iV (s1)) (n1:Df (s1<0)) (q2:iV (IntKind.i64.wrap (s1+((l.length-(k+1):Nat):Int)))=iV (s2)) (n2:Df (s2<0)) (hgr:Fn 276 0 [.pv (.slice none 0 0),.pv (iV (s2))] [] (.pv (.slice none 0 0)) 0 []) (a1:0+k≤1000000) (a2:0+k+(l.length-(k+1))≤1000000) (hkl1:k+1≤l.length) :
 Fn 223 2 [.ps 1 0 2 2] (qHt k l) (.ls 2 (l.take k++l.drop (k+1)).length) 1 [(2,0,qak (l.take k++l.drop (k+1)))]:=
 Fx [(2,3)] [.k,.r (iV (s1)),.t false,.k,.k,.r (iV (s2)),.t false,.k,.k,Cf hgr [],.k,.k,.k,.k,.k]
  (qks 3 l k hkl1) (Ai (qkq l k hkl1) tI) (A4 q1 n1 q2 n2 (Co hgr [] 2 (A2 a1 a2 tI)))
theorem qEh {e2:Int} (c1:Fn 178 1 [qaU 0 x l] [(0,0,qak l)] (.pv (iV (e))) 0 []) (c2:Fn 221 1 [qaU 0 x l,.pv (qae a b)] [(0,0,qak l)] (.pv (iV (e2))) 0 []) (c3:Fn 222 1 [qaU 0 x l] [(0,0,qak l)] (.pv (iV (e3))) 0 []) (he:(e !=0)=true) :
 Fn 176 1 [qaU 0 x l,.pv (qae a b)] [(0,0,qak l)] (.pv (.tuple #[.agg #[iV 0,.slice none 0 0],iV 0,iV e])) 0 []:=
 Fz [] [Cf c1 [0],Cf c2 [0],Cf c3 [0],.k,.k,.t true,.t true]
  tI (Co c1 [0] 4 (Co c2 [0] 4 (Co c3 [0] 4 (A2 he he tI))))
theorem quk (c1:qAH l x) (c2:Fn 221 1 [qaU 0 x l,.pv (qae a b)] [(0,0,qak l)] (.pv (iV (e))) 0 []) (c3:Fn 222 1 [qaU 0 x l] [(0,0,qak l)] (.pv (iV (e3))) 0 []) (he:(e !=0)=true) :
 Fn 176 1 [qaU 0 x l,.pv (qae a b)] [(0,0,qak l)] (.pv (.tuple #[.agg #[iV 0,.slice none 0 0],iV 0,iV e])) 0 []:=
 Fz [] [Cf c1 [0],Cf c2 [0],Cf c3 [0],.k,.k,.k,.k,.k,.t true,.t true]
  tI (Co c1 [0] 4 (Co c2 [0] 4 (Co c3 [0] 4 (A2 he he tI))))
theorem qus (c1:qAH l x) (c2:Fn 221 1 [qaU 0 x l,.pv (qae a b)] [(0,0,qak l)] (.pv (iV (0))) 0 []) (c3:Fn 222 1 [qaU 0 x l] [(0,0,qak l)] (.pv (iV (e))) 0 []) (he:(e !=0)=true) :
 Fn 176 1 [qaU 0 x l,.pv (qae a b)] [(0,0,qak l)] (.pv (.tuple #[.agg #[iV 0,.slice none 0 0],iV 0,iV e])) 0 []:=
 Fz [] [Cf c1 [0],Cf c2 [0],Cf c3 [0],.k,.k,.k,.k,.k,.k,.k,.k,.t true,.t true]
  tI (Co c1 [0] 4 (Co c2 [0] 4 (Co c3 [0] 4 (A2 he he tI))))
theorem qBN {y:Int} (c1:qAH l x) (c2:Fn 221 1 [qaU 0 x l,.pv (qae a b)] [(0,0,qak l)] (.pv (iV (0))) 0 []) (c3:Fn 222 1 [qaU 0 x l] [(0,0,qak l)] (.pv (iV (0))) 0 []) (hcat:Fn 223 3 [.ps 2 0 2 2] [(2,0,.ls 0 l.length),(2,1,.ps 1 0 1 1),(1,0,.pv (iV x)),(1,1,.pv (iV a)),(1,2,.pv (iV b)),(0,0,qak l)] (.ls 3 (l++[(Pt.mk x a b)]).length) 1 [(3,0,qak (l++[(Pt.mk x a b)]))]) (hy:iV (IntKind.i64.wrap (x+1))=iV (y)) :
 Fn 176 1 [qaU 0 x l,.pv (qae a b)] [(0,0,qak l)] (.tu [.ag [.pv (iV y),.ls 1 (l++[(Pt.mk x a b)]).length],.one (.pv (iV x)),.one (.pv (iV 0))]) 1 [(1,0,qak (l++[(Pt.mk x a b)]))]:=
 Fz [(1,7)] [Cf c1 [0],Cf c2 [0],Cf c1 [0],.k,.k,.k,.k,.k,.k,.k,.k,.k,.k,.k,.k,Cf hcat [0,5,6],Re hy]
  (qaG (qaM [(1,7)]) [(1,0,qak (l++[(Pt.mk x a b)]))]) (Co c1 [0] 4 (Co c2 [0] 4 (Co c3 [0] 4 (Co hcat [0,5,6] 7 (Ai hy tI)))))
theorem qxa (hg:Fn 239 1 [qaU 0 x l,.pv (iV (n))] [(0,0,qak l)] (.pv (.tuple #[qae a b,iV e])) 0 []) (he:(e !=0)=true) :
 Fn 191 1 [qaU 0 x l,.pv (iV (n))] [(0,0,qak l)] (.pv (.tuple #[.agg #[iV 0,.slice none 0 0],qae 0 0,iV e])) 0 []:=
 Fz [] [Cf hg [0],.t true]
  tI (Co hg [0] 4 (Ai he tI))
theorem qDr (hg:Fn 239 1 [qaU 0 x l,.pv (iV (n))] [(0,0,qak l)] (.pv (.tuple #[qae a b,iV 0])) 0 []) (hf:Fn 240 1 [qaU 0 x l,.pv (iV (n))] [(0,0,qak l)] (.pv (.tuple #[iV (k:Int),.bool true])) 0 []) (hkl:k≤l.length) (hkl1:k+1≤l.length) (hk1:iV (IntKind.i64.wrap ((k:Int)+1))=iV (((k+1:Nat):Int))) (hcut:Fn 223 2 [.ps 1 0 2 2] (qHt k l) (.ls 2 (l.take k++l.drop (k+1)).length) 1 [(2,0,qak (l.take k++l.drop (k+1)))]) :
 Fn 191 1 [qaU 0 x l,.pv (iV (n))] [(0,0,qak l)] (.tu [.ag [.pv (iV x),.ls 1 (l.take k++l.drop (k+1)).length],.one (.pv (qae a b)),.one (.pv (iV 0))]) 1 [(1,0,qak (l.take k++l.drop (k+1)))]:=
 Fz [(1,6)] [Cf hg [0],.k,Cf hf [0],.md,.k,Re hk1,.k,Cf hcut [0,5]]
  (qaG (qaM [(1,6)]) [(1,0,qak (l.take k++l.drop (k+1)))]) (Co hg [0] 4 (Co hf [0] 5 (A9 tI (Int.natCast_nonneg k) (Nat.zero_le k) hkl hk1 (Int.natCast_nonneg (k+1)) tI hkl1 (Nat.le_refl l.length) (Co hcut [0,5] 6 tI))))
theorem qJE :
 Pure Tryz.prog 104 #[] (.agg #[iV 0,.slice none 0 0]):=
 qad (args:=[]) 300 []
  (Ai rfl tI) (by kernel_rfl)
end Go.Proofs.YtkckcgpmnipnaaaGreat

namespace Go.Proofs.YtkckcgpmnipnaaaGreat
set_option maxRecDepth 100000
open Go.RowKit
theorem fc1 (a pa pb n:Int):∃ c,Pure Tryz.prog 299 #[qac a pa pb,iV n] (iV c)∧(c<0↔a<n)∧(c=0↔a=n):=by
 rcases Int.lt_trichotomy a n with h | h | h
 ·exact⟨-1,qCo (by simp) (by simp) (dt h),⟨fun _=>h,fun _=>by omega⟩,⟨fun h=>by omega,fun h=>by omega⟩⟩
 ·exact⟨0,qDn (by simp) (by simp) (df (by omega)) (df (by omega)),⟨fun h=>by omega,fun h=>by omega⟩,⟨fun _=>h,fun _=>rfl⟩⟩
 ·exact⟨1,qBe (by simp) (by simp) (df (by omega)) (dt (by omega)),⟨fun h=>by omega,fun h=>by omega⟩,⟨fun h=>by omega,fun h=>by omega⟩⟩
abbrev qIQ (l:List Pt) (n:Int) (i j:Nat):List (Nat×SV):=[(0,.ls 0 l.length),(1,.pv (iV n)),(2,.pv (.func (.func 299) #[] #[])),(8,.pv (iV (l.length:Int))),(9,.pv (iV (i:Int))),(10,.pv (iV (j:Int)))]
theorem qk9 {l:List Pt} (hn:l.length≤210) {n:Int} {k:Nat} (hlo:∀ (t:Nat) (p:Pt),t<k→l[t]?=some p→p.id<n) (hhi:∀ (t:Nat) (p:Pt),k≤t→l[t]?=some p→¬ p.id<n):∀ (d i j:Nat),j-i≤d→i≤k→k≤j→j≤l.length→
 Rl 1 1 298 0 49 1 (qIQ l n i j) [(0,0,qak l)] (.exit 0) (qIQ l n k k) [(0,0,qak l)]:=by
 intro d
 induction d with
 | zero=>
  intro i j hd h1 h2 h3
  have:i=k:=by omega
  have:j=k:=by omega
  subst i j;exact qpI (df (by omega))
 | succ d ih=>
  intro i j hd h1 h2 h3;by_cases hij:i<j
  ·obtain⟨p,hp⟩:=qah (l:=l) (k:=(i+j)/2) (by omega);obtain⟨c,hc,hc1,hc2⟩:=fc1 p.id p.a p.b n
   have a1:iV (IntKind.i64.wrap ((i:Int)+(j:Int)))=iV ((i:Int)+(j:Int)):=by rw[qas (by omega) (by omega)]
   have a2:Value.int .u64 (IntKind.u64.wrap ((i:Int)+(j:Int)))=.int .u64 ((i:Int)+(j:Int)):=by rw[qef (by omega) (by omega)]
   have a3:Value.int .u64 (((i:Int)+(j:Int)).fdiv (2 ^ (min (1:Int).toNat IntKind.u64.bits)))=.int .u64 (((i+j)/2:Nat):Int):=by
    have:(2:Int) ^ (min (1:Int).toNat IntKind.u64.bits)=2:=rfl;rw[this,Int.fdiv_eq_ediv_of_nonneg _ (by omega)];congr 1
   have a4:iV (IntKind.i64.wrap (((i+j)/2:Nat):Int))=iV (((i+j)/2:Nat):Int):=by rw[qas (by omega) (by omega)]
   by_cases hlt:p.id<n
   ·refine qzN hp (qal (qan hp)) (dt (by omega)) a1 a2 (by omega) a3 a4 hc (dt (hc1.2 hlt)) (qag (by omega)) (ih _ _ (by omega) ?_ h2 h3)
    rcases Nat.lt_or_ge ((i+j)/2) k with h | h
    ·exact h
    ·exact (hhi _ p h hp hlt).elim
   ·refine qDp hp (qal (qan hp)) (dt (by omega)) a1 a2 (by omega) a3 a4 hc (df (fun h=>hlt (hc1.1 h))) (ih _ _ (by omega) h1 ?_ (by omega))
    rcases Nat.lt_or_ge ((i+j)/2) k with h | h
    ·exact (hlt (hlo _ p h hp)).elim
    ·exact h
  ·have:i=k:=by omega
   have:j=k:=by omega
   subst i j;exact qpI (df (by omega))
theorem qn4 (x:Int) {l:List Pt} (hn:l.length≤210) (hu:Up l) {n:Int} {k:Nat} {p:Pt} (hk:l[k]?=some p) (he:p.id=n):Fn 240 1 [qaU 0 x l,.pv (iV n)] [(0,0,qak l)] (.pv (.tuple #[iV (k:Int),.bool true])) 0 []:=by
 subst he;obtain⟨c,hc,hc1,hc2⟩:=fc1 p.id p.a p.b p.id;have hl:=qan hk;refine qeC (qqX (qk9 hn (fun t q ht hq=>hu.mono ht hq hk) (fun t q ht hq=>?_) l.length 0 l.length (by omega) (Nat.zero_le _) (by omega) (Nat.le_refl _)) hk (qal hl) (dt (by omega)) hc (by simpa using hc2.2 rfl))
 rcases Nat.lt_or_ge k t with h | h
 ·have:=hu.mono h hk hq;omega
 ·have:t=k:=by omega
  subst this;rw[hk] at hq;cases hq;omega
theorem qqw (x:Int) {l:List Pt} (hn:l.length≤210) {n:Int} {k:Nat} (hkl:k≤l.length) (hlo:∀ (t:Nat) (p:Pt),t<k→l[t]?=some p→p.id<n) (hhi:∀ (t:Nat) (p:Pt),k≤t→l[t]?=some p→n<p.id):Fn 240 1 [qaU 0 x l,.pv (iV n)] [(0,0,qak l)] (.pv (.tuple #[iV (k:Int),.bool false])) 0 []:=by
 have hb:=qk9 hn hlo (fun t p ht hp=>by have:=hhi t p ht hp;omega) l.length 0 l.length (by omega) (Nat.zero_le _) hkl (Nat.le_refl _);by_cases h:k<l.length
 ·obtain⟨p,hp⟩:=qah h;obtain⟨c,hc,hc1,hc2⟩:=fc1 p.id p.a p.b n;refine qeC (qwV hb hp (qal h) (dt (by omega)) hc ?_);have:=hhi k p (Nat.le_refl _) hp;simp only[beq_eq_false_iff_ne,ne_eq]
  exact fun e=>by have:=hc2.1 e;omega
 ·exact qeC (qsw hb (df (by omega)))
abbrev qI4:Value:=.agg #[iV 0,.slice none 0 0]
abbrev qBD (f:FuncId) (x:Int) (l:List Pt) (n e:Int):Prop:=Fn f 1 [qaU 0 x l,.pv (iV n)] [(0,0,qak l)] (.pv (.tuple #[qI4,qae 0 0,iV e])) 0 []
abbrev qIn (f:FuncId) (x:Int) (l:List Pt) (n:Int) (m:List Pt) (a b:Int):Prop:=Fn f 1 [qaU 0 x l,.pv (iV n)] [(0,0,qak l)] (.tu [.ag [.pv (iV x),.ls 1 m.length],.one (.pv (qae a b)),.one (.pv (iV 0))]) 1 [(1,0,qak m)]
theorem qcm {a b c:Int} (h:a+b=c) (h0:0≤c) (h1:c≤2000000):iV (IntKind.i64.wrap (a+b))=iV c:=by rw[h,qas (by omega) (by omega)]
theorem qJW {l:List Pt} (hn:l.length≤210) {k:Nat} (hk:k<l.length):Fn 223 2 [.ps 1 0 2 2] [(1,0,.lq 0 3 0 k),(1,1,.lq 0 3 (0+(k+1)) (l.length-(k+1))),(0,0,qak l)] (.ls 2 (l.take k++l.drop (k+1)).length) 1 [(2,0,qak (l.take k++l.drop (k+1)))]:=by
 by_cases hz:l.length=1
 ·refine qCK (s1:=(k:Int)) (s2:=((k+(l.length-(k+1)):Nat):Int)) (qcm (by omega) (by omega) (by omega)) (df (by omega)) (qcm (by omega) (by omega) (by omega)) (df (by omega)) (?_) (by omega) (by omega) (by omega);rw[show ((k+(l.length-(k+1)):Nat):Int)=0 by omega];exact qHq (df (by omega)) (by rw[qas (by omega) (by omega)];rfl) (df (by omega))
 ·exact qEb (s1:=(k:Int)) (s2:=((k+(l.length-(k+1)):Nat):Int)) (q1:=qcm (by omega) (by omega) (by omega)) (n1:=df (by omega)) (q2:=qcm (by omega) (by omega) (by omega)) (n2:=df (by omega))
   (hgr:=qEe (df (by omega)) (by rw[qas (by omega) (by omega)];congr 1<;>omega) (dt (by omega)) (by omega) (by omega)) (a1:=by omega) (a2:=by omega) (hkl1:=by omega)
abbrev qud (f:FuncId) (x:Int) (l:List Pt) (a b e:Int):Prop:=Fn f 1 [qaU 0 x l,.pv (qae a b)] [(0,0,qak l)] (.pv (.tuple #[qI4,iV 0,iV e])) 0 []
abbrev qDH (f:FuncId) (x:Int) (l:List Pt) (a b:Int):Prop:=Fn f 1 [qaU 0 x l,.pv (qae a b)] [(0,0,qak l)] (.tu [.ag [.pv (iV (x+1)),.ls 1 (l++[Pt.mk x a b]).length],.one (.pv (iV x)),.one (.pv (iV 0))]) 1 [(1,0,qak (l++[Pt.mk x a b]))]
theorem qDS {l:List Pt} (hn:l.length≤210) (a b:Int):Fn 274 2 [.ls 0 l.length,.pc 275 [.pp 1 0]] [(0,0,qak l),(1,0,.pv (iV a)),(1,1,.pv (iV b))] (.pv (.bool (qd1 l a b))) 0 []:=by
 have step:∀ k,(∀ j,j<k→∀ p,l[j]?=some p→¬ (p.a=a∧p.b=b))→∀ {e:Exit} {tm2:TmL} {hp2:HpL},k≤l.length→
  Rl 2 2 318 0 19 2 [(0,.ls 0 l.length),(1,.pc 275 [.pp 1 0]),(7,.pv (iV (l.length:Int))),(8,.pv (iV (k:Int)))] [(0,0,qak l),(1,0,.pv (iV a)),(1,1,.pv (iV b))] e tm2 hp2→
  Rl 2 2 318 0 19 2 [(0,.ls 0 l.length),(1,.pc 275 [.pp 1 0]),(7,.pv (iV (l.length:Int))),(8,.pv (iV ((0:Nat):Int)))] [(0,0,qak l),(1,0,.pv (iV a)),(1,1,.pv (iV b))] e tm2 hp2:=by
  intro k hk e tm2 hp2 hkl r;refine RunsL.rounds (fun j=>[(0,.ls 0 l.length),(1,.pc 275 [.pp 1 0]),(7,.pv (iV (l.length:Int))),(8,.pv (iV (j:Int)))]) (fun _=>[(0,0,qak l),(1,0,.pv (iV a)),(1,1,.pv (iV b))]) (N:=k) k 0 (Nat.zero_add _) (fun j _ hj r=>?_) r;obtain⟨p,hp⟩:=qah (l:=l) (k:=j) (by omega);exact qrI hp (qal (qan hp)) (dt (by have:=qan hp;omega)) (qo3 (p:=⟨0,a,b⟩) (hk j hj p hp)) (qag (by omega)) r
 rcases qa3 (fun j=>∀ p,l[j]?=some p→¬ (p.a=a∧p.b=b)) l.length with h | ⟨j,hj,hb,hf⟩
 ·rw[qkl fun k p hp=>h k (qan hp) p hp];exact qA7 (qDk (step l.length h (Nat.le_refl _) (qy8 (df (by omega)))))
 ·simp only[Classical.not_forall,Classical.not_not] at hb;obtain⟨p,hp,he⟩:=hb;rw[qfl.2 ⟨p,List.mem_of_getElem? hp,he⟩];exact qw5 (k:=j) (qwf (step j hf (by omega) (qzd hp (qal hj) (dt (by omega)) (qnF (p:=⟨0,a,b⟩) he)))) (dt (by omega))
noncomputable def qtY (l:List Pt) (a b:Int):Int:=if qby a b=true then (if qd1 l a b=true then 14 else 0) else 8
def qh6 (x:Int) (l:List Pt):Int:=if l.length=200∨x=1000000 then 18 else 0
theorem qzP (x:Int) {l:List Pt} (hn:l.length≤210) (a b:Int):Fn 221 1 [qaU 0 x l,.pv (qae a b)] [(0,0,qak l)] (.pv (iV (qtY l a b))) 0 []:=by
 have h1:=qk2 a b;have h2:=qDS hn a b;unfold qtY;cases c:qby a b
 ·rw[c] at h1;rw[if_neg (by decide)];exact qxF h1
 ·rw[c] at h1;rw[if_pos rfl];cases d:qd1 l a b
  ·rw[d] at h2;rw[if_neg (by decide)];exact qCr h1 h2
  ·rw[d] at h2;rw[if_pos rfl];exact qw2 h1 h2
theorem qpQ (x:Int) (l:List Pt):Fn 222 1 [qaU 0 x l] [(0,0,qak l)] (.pv (iV (qh6 x l))) 0 []:=by
 unfold qh6;by_cases h1:l.length=200
 ·rw[if_pos (Or.inl h1)];exact qso (by simp[h1])
 ·by_cases h2:x=1000000
  ·rw[if_pos (Or.inr h2)];exact qqW (by simp;omega) (by simp[h2])
  ·rw[if_neg (by omega)];exact qCD (by simp;omega) (by simp[h2])
theorem qJs {l:List Pt} (hn:l.length≤210) (x a b:Int):Fn 223 3 [.ps 2 0 2 2] [(2,0,.ls 0 l.length),(2,1,.ps 1 0 1 1),(1,0,.pv (iV x)),(1,1,.pv (iV a)),(1,2,.pv (iV b)),(0,0,qak l)] (.ls 3 (l++[Pt.mk x a b]).length) 1 [(3,0,qak (l++[Pt.mk x a b]))]:=
 qJQ (s1:=(l.length:Int)) (s2:=((l.length+1:Nat):Int)) (q1:=qcm (by omega) (by omega) (by omega)) (n1:=df (by omega)) (q2:=qcm (by omega) (by omega) (by omega)) (n2:=df (by omega))
  (hgr:=qEe (df (by omega)) (by rw[qas (by omega) (by omega)];congr 1<;>omega) (dt (by omega)) (by omega) (by omega)) (a1:=by omega) (a2:=by omega)
def qJK (x:Int) (l:List Pt) (a b e:Int):Prop:=(e=8∧(¬ V8 x l∨¬ qby a b=true))∨(e=14∧V8 x l∧qby a b=true∧qd1 l a b=true)∨(e=18∧V8 x l∧qby a b=true∧qd1 l a b=false∧(l.length=200∨x=1000000))
theorem qhB (x:Int) {l:List Pt} (hn:l.length≤210) (a b:Int):(∃ e,qud 176 x l a b e∧qud 199 x l a b e∧qJK x l a b e)∨
 (V8 x l∧qby a b=true∧qd1 l a b=false∧l.length<200∧x<1000000∧qDH 176 x l a b∧qDH 199 x l a b):=by
 have p1:=qhH x l;have p2:=qzP x hn a b;have p3:=qpQ x l;have r1:=qpz x l;have r2:=qdP a b;have r3:=qpq x (l:=l) (by omega) a b;by_cases hv:V8 x l
 ·rw[qdt hv] at p1 r1;cases hc:qby a b
  ·rw[hc] at r2
   have e2:qtY l a b=8:=by unfold qtY;rw[hc,if_neg (by decide)]
   rw[e2] at p2;exact Or.inl ⟨8,quk p1 p2 p3 (by decide),qwn r1 r2,Or.inl ⟨rfl,Or.inr (by rw[hc];decide)⟩⟩
  ·rw[hc] at r2;cases hh:qd1 l a b
   ·rw[hh] at r3
    have e2:qtY l a b=0:=by unfold qtY;rw[hc,if_pos rfl,hh,if_neg (by decide)]
    rw[e2] at p2;by_cases hf:l.length=200
    ·have e3:qh6 x l=18:=by unfold qh6;rw[if_pos (Or.inl hf)]
     rw[e3] at p3;exact Or.inl ⟨18,qus p1 p2 p3 (by decide),qrV r1 r2 r3 (by simp;omega),Or.inr (Or.inr ⟨rfl,hv,hc,hh,Or.inl hf⟩)⟩
    ·by_cases hw:x=1000000
     ·have e3:qh6 x l=18:=by unfold qh6;rw[if_pos (Or.inr hw)]
      rw[e3] at p3;exact Or.inl ⟨18,qus p1 p2 p3 (by decide),qsj r1 r2 r3 (by simp;omega) (by simp[hw]),Or.inr (Or.inr ⟨rfl,hv,hc,hh,Or.inr hw⟩)⟩
     ·have e3:qh6 x l=0:=by unfold qh6;rw[if_neg (by omega)]
      rw[e3] at p3;have hl:=hv.len;have hx:=hv.nx;have hy:iV (IntKind.i64.wrap (x+1))=iV (x+1):=qcm rfl (by omega) (by omega);refine Or.inr ⟨hv,rfl,rfl,by omega,by omega,qBN p1 p2 p3 (qJs hn x a b) hy,qEf r1 r2 r3 (by simp;omega) (by simpa using hw) (qiH x (by omega)) (by omega) hy⟩
   ·rw[hh] at r3
    have e2:qtY l a b=14:=by unfold qtY;rw[hc,if_pos rfl,hh,if_pos rfl]
    rw[e2] at p2;exact Or.inl ⟨14,quk p1 p2 p3 (by decide),qwK r1 r2 r3,Or.inr (Or.inl ⟨rfl,hv,hc,hh⟩)⟩
 ·rw[qbH hv] at p1 r1;exact Or.inl ⟨8,qEh p1 p2 p3 (by decide),qys r1,Or.inl ⟨rfl,Or.inl hv⟩⟩
end Go.Proofs.YtkckcgpmnipnaaaGreat

namespace Go.Proofs.YtkckcgpmnipnaaaGreat
set_option maxRecDepth 100000
open Go.RowKit
theorem qvO {s:List Pt} (hs:Val s) {p q:Pt} (hp:p∈s) (hq:q∈s) (h:p.id=q.id):p=q:=by
 obtain⟨i,hi,rfl⟩:=List.getElem_of_mem hp;obtain⟨j,hj,rfl⟩:=List.getElem_of_mem hq;exact (qtS hs.up (List.getElem?_eq_getElem hi) (List.getElem?_eq_getElem hj) h).2
def qeN (s:List Pt) (i:Int):Pt:=(s.find? fun q=>q.id==i).getD ⟨0,0,0⟩
theorem qee {s:List Pt} (hs:Val s) {q:Pt} (hq:q∈s):qeN s q.id=q:=by
 unfold qeN
 cases h:s.find? fun r=>r.id==q.id with
 | none=>have:=List.find?_eq_none.1 h q hq;simp at this
 | some r=>
  have h1:=List.mem_of_find?_eq_some h;have h2:=List.find?_some h;simp only[beq_iff_eq] at h2;exact qvO hs h1 hq h2
def qdl (l s:List Pt):Prop:=∀ p∈l,(∃ q∈s,q.id=p.a)∧∃ g∈s,g.id=p.b
noncomputable def qhV (l s:List Pt):Bool:=open Classical in decide (qdl l s)
open Classical in
theorem qeD {l s:List Pt}:qhV l s=true↔qdl l s:=by unfold qhV;exact decide_eq_true_iff
theorem qi7 {l s:List Pt} (h:¬ qdl l s):qhV l s=false:=by
 cases e:qhV l s
 ·rfl
 ·exact (h (qeD.1 e)).elim
section
variable {tn td:Int} (htn:I64 tn) (htd:I64 td)
theorem qhr {s:List Pt} (hs:Val s) (i:Int):∃ u,Fn 61 1 [qaq 0 s,.pv (iV i)] [(0,0,qaf s)] (.pv (iV u)) 0 []∧((u<0∧¬ ∃ q∈s,q.id=i)∨∃ (k:Nat) (q:Pt),u=(k:Int)∧s[k]?=some q∧q.id=i):=by
 rcases place s hs i with ⟨k,q,hk,he⟩ | ⟨hno,_⟩
 ·exact⟨k,qlm hs hk he,Or.inr ⟨k,q,rfl,hk,he⟩⟩
 ·exact⟨-1,qDL hs.len hno,Or.inl ⟨by omega,fun ⟨q,hq,he⟩=>hno q hq he⟩⟩
theorem qBg (x:Int) {l s:List Pt} (hn:l.length≤210) (hs:Val s):Fn 122 2 [qaU 0 x l,qaq 1 s] [(0,0,qak l),(1,0,qaf s)] (.pv (.bool (qhV l s))) 0 []:=by
 have step:∀ k,(∀ j,j<k→∀ p,l[j]?=some p→(∃ q∈s,q.id=p.a)∧∃ g∈s,g.id=p.b)→∀ {e:Exit} {tm2:TmL} {hp2:HpL},k≤l.length→
  Rl 2 2 122 0 35 4 [(2,.pp 2 0),(3,.pp 3 0),(5,.pv (iV (k:Int)))] [(2,0,.pv (iV x)),(2,1,.ls 0 l.length),(3,0,.ls 1 s.length),(0,0,qak l),(1,0,qaf s)] e tm2 hp2→
  Rl 2 2 122 0 35 4 [(2,.pp 2 0),(3,.pp 3 0),(5,.pv (iV ((0:Nat):Int)))] [(2,0,.pv (iV x)),(2,1,.ls 0 l.length),(3,0,.ls 1 s.length),(0,0,qak l),(1,0,qaf s)] e tm2 hp2:=by
  intro k hk e tm2 hp2 hkl r;refine RunsL.rounds (fun j=>[(2,.pp 2 0),(3,.pp 3 0),(5,.pv (iV (j:Int)))]) (fun _=>[(2,0,.pv (iV x)),(2,1,.ls 0 l.length),(3,0,.ls 1 s.length),(0,0,qak l),(1,0,qaf s)]) (N:=k) k 0 (Nat.zero_add _) (fun j _ hj r=>?_) r;obtain⟨p,hp⟩:=qah (l:=l) (k:=j) (by omega);obtain⟨h1,h2⟩:=hk j hj p hp;obtain⟨u,a1,a2⟩:=qhr hs p.a;obtain⟨v,b1,b2⟩:=qhr hs p.b
  rcases a2 with ⟨_,a2⟩ | ⟨i,q,rfl,_⟩
  ·exact (a2 h1).elim
  ·rcases b2 with ⟨_,b2⟩ | ⟨i',g,rfl,_⟩
   ·exact (b2 h2).elim
   ·exact qq7 (hk:=hp) (hin:=qal (qan hp)) (hlt:=dt (by have:=qan hp;omega)) (ha:=a1) (h1:=df (by omega)) (hb:=b1) (h2:=df (by omega)) (hs:=qag (by omega)) r
 rcases qa3 (fun j=>∀ p,l[j]?=some p→(∃ q∈s,q.id=p.a)∧∃ g∈s,g.id=p.b) l.length with h | ⟨j,hj,hb,hf⟩
 ·rw[qeD.2 fun p hp=>by
   obtain⟨k,hk,rfl⟩:=List.getElem_of_mem hp
   exact h k hk _ (List.getElem?_eq_getElem hk)]
  exact qxY (step l.length h (Nat.le_refl _) (qyt (df (by omega))))
 ·simp only[Classical.not_forall] at hb;obtain⟨p,hp,hnp⟩:=hb;rw[qi7 fun h=>hnp (h p (List.mem_of_getElem? hp))];refine qCy (step j hf (by omega) ?_);obtain⟨u,a1,a2⟩:=qhr hs p.a;obtain⟨v,b1,b2⟩:=qhr hs p.b
  rcases a2 with ⟨a2,_⟩ | ⟨i,q,rfl,hq,hqa⟩
  ·exact qBy hp (qal hj) (dt (by omega)) a1 (dt a2)
  ·rcases b2 with ⟨b2,_⟩ | ⟨i',g,rfl,hg,hgb⟩
   ·exact qzS hp (qal hj) (dt (by omega)) a1 (df (by omega)) b1 (dt b2)
   ·exact (hnp ⟨⟨q,List.mem_of_getElem? hq,hqa⟩,⟨g,List.mem_of_getElem? hg,hgb⟩⟩).elim
end
end Go.Proofs.YtkckcgpmnipnaaaGreat

namespace Go.Proofs.YtkckcgpmnipnaaaGreat
set_option maxRecDepth 100000
open Go.RowKit
theorem qH6 {n d tn td m k:Int} (hd:0<d) (ht:0<td) (hk:0<k) (h1:m*d≤n*k) (h2:n*td≤tn*d):m*td≤tn*k:=by
 have e1:=Int.mul_le_mul_of_nonneg_right h1 (Int.le_of_lt ht);have e2:=Int.mul_le_mul_of_nonneg_right h2 (Int.le_of_lt hk);have e3:n*k*td=n*td*k:=Int.mul_right_comm n k td;have e4:m*d*td=m*td*d:=Int.mul_right_comm m d td;have e5:tn*d*k=tn*k*d:=Int.mul_right_comm tn d k;exact Int.le_of_mul_le_mul_right (a:=d) (by omega) hd
abbrev ldB (q p:Pt) (n d:Int):Bool:=qb8 (q.a*d+q.b*n) (p.a*d+p.b*n) q.b p.b q.id p.id
structure FailIs (p q:Pt) (n d m k:Int) (s:Bool):Prop where
 ok:s=true→okB m k=true∧I64 m∧I64 k∧n*k≤m*d
 no:s=false→m=0∧k=0
 then_:s=true→ldB q p m k=true
 before:∀ tn td,okB tn td=true→n*td≤tn*d→(s=true→tn*k<m*td)→ldB q p tn td=false
abbrev qrB (p q:Pt) (n d m k:Int) (s:Bool):Prop:=Pure Tryz.prog 266 #[ptV p,ptV q,qab n d] (.tuple #[qab m k,.bool s,iV 0])
abbrev qrt (p q:Pt) (n d m k:Int) (s:Bool):Prop:=Pure Tryz.prog 188 #[ptV p,ptV q,qab n d] (.tuple #[qab m k,.bool s])
theorem qha {p q:Pt} {n d:Int} (hn:I64 n) (hd:I64 d) (h3:okB n d=true) (hl:ldB q p n d=true):FailIs p q n d n d true where
 ok:=fun _=>⟨h3,hn,hd,Int.le_refl _⟩
 no:=fun h=>by cases h
 then_:=fun _=>hl
 before:=fun tn td _ h1 h2=>by have:=h2 rfl;omega
theorem qvc {p q:Pt} {n d:Int} (hn:I64 n) (hd:I64 d) (hp:qjb p=true) (hq:qjb q=true) (h3:okB n d=true) (h4:p.id≠q.id):∃ m k s,qrB p q n d m k s∧qrt p q n d m k s∧FailIs p q n d m k s:=by
 obtain⟨pi,pa,pb⟩:=p;obtain⟨qi,qa,qb⟩:=q;simp only at h4;have h1:okP pi pa pb=true:=hp;have h2:okP qi qa qb=true:=hq;have c1:=qc7 h1;have c2:=qc7 h2;have c3:=qcG hn hd h3;have c4:=qmU (pa:=pa) (pb:=pb) (qa:=qa) (qb:=qb) h4;have ld:=qry (pi:=qi) (qi:=pi) (n:=n) (d:=d) hn hd h2 h1
 have d0:0<d:=by have:=qer h3;omega
 have now:=fun (l:Pure Tryz.prog 90 #[qac qi qa qb,qac pi pa pb,qab n d] (.bool true))=>qkj (pi:=pi) (pa:=pa) (pb:=pb) l
 by_cases hb:qb=pb
 ·subst hb
  have no:=fun (l:Pure Tryz.prog 90 #[qac qi qa qb,qac pi pa qb,qab n d] (.bool false))=>qgR (pi:=pi) (pa:=pa) (pb:=qb) l (df (by omega))
  have sm:∀ tn td:Int,okB tn td=true→ldB ⟨qi,qa,qb⟩ ⟨pi,pa,qb⟩ tn td=qb8 qa pa qb qb qi pi:=fun tn td h=>qgH (by have:=qer h;omega)
  have none:qb8 qa pa qb qb qi pi=false→FailIs ⟨pi,pa,qb⟩ ⟨qi,qa,qb⟩ n d 0 0 false:=fun h=>⟨fun h=>(by cases h),fun _=>⟨rfl,rfl⟩,fun h=>(by cases h),fun tn td ht _ _=>by rw[sm tn td ht];exact h⟩
  have nw:qb8 qa pa qb qb qi pi=true→FailIs ⟨pi,pa,qb⟩ ⟨qi,qa,qb⟩ n d n d true:=fun h=>qha hn hd h3 (by rw[sm n d h3];exact h)
  rw[qgH d0] at ld;by_cases ha:qa=pa
  ·subst ha;by_cases hi:qi<pi
   ·have e:qb8 qa qa qb qb qi pi=true:=qdv (by omega);rw[e] at ld;exact⟨n,d,true,qqQ c1 c2 c3 c4 (by simp) (dt hi),now ld,nw e⟩
   ·have e:qb8 qa qa qb qb qi pi=false:=qdA (by omega);rw[e] at ld;exact⟨0,0,false,qrg c1 c2 c3 c4 (by simp) (df hi) (df (Int.lt_irrefl _)),no ld,none e⟩
  ·by_cases hg:qa>pa
   ·have e:qb8 qa pa qb qb qi pi=true:=qdv (by omega);rw[e] at ld;exact⟨n,d,true,qtj c1 c2 c3 c4 (by simp[ha]) (by simp) (dt hg),now ld,nw e⟩
   ·have e:qb8 qa pa qb qb qi pi=false:=qdA (by omega);rw[e] at ld;exact⟨0,0,false,qrY c1 c2 c3 c4 (by simp[ha]) (by simp) (df hg) (df (Int.lt_irrefl _)),no ld,none e⟩
 ·obtain⟨m,k,k1,k2,k3,k4,k5,k6⟩:=qh0 h2 h1 hb
  have k0:0<k:=by have:=qer k1;omega
  have cc:=qul hn hd k2 k3 h3 k1
  have lt:∀ tn td:Int,ldB ⟨qi,qa,qb⟩ ⟨pi,pa,pb⟩ tn td=(decide (qb>pb)==decide ((tn*k-m*td).sign≥0)):=fun tn td=>qgU k0 k4 hb
  have ld0:=lt n d;rw[qgU k0 k4 hb] at ld
  have w:(qa==pa&&(qb==pb&&true))=false:=by simp[hb]
  have bb:(qb==pb)=false:=by simp[hb]
  by_cases g:qb>pb<;>by_cases l:(n*k-m*d).sign≥0
  ·rw[dt g,dt l] at ld ld0;exact⟨n,d,true,qoU c1 c2 c3 c4 w bb k5 cc (dt l) (dt g),now ld,qha hn hd h3 ld0⟩
  ·rw[dt g,df l] at ld
   have mt:=qBl h1 h2 (Ne.symm hb) k1 k2 k3 (by
    have e1:m*(pb-qb) = -(m*(qb-pb)):=by rw[← Int.mul_neg];congr 1;omega
    have e2:(qa-pa)*k = -((pa-qa)*k):=by rw[← Int.neg_mul];congr 1;omega
    rw[e1,e2,k4])
   refine⟨m,k,true,qpN c1 c2 c3 c4 w bb k5 cc (df l) (dt g) k6,qjq ld (dt g) mt,fun _=>⟨k1,k2,k3,?_⟩,fun h=>(by cases h),fun _=>?_,fun tn td _ _ h=>?_⟩
   ·have:¬ 0≤n*k-m*d:=fun e=>l ((qfo _).2 e)
    omega
   ·rw[lt m k,dt g,Int.sub_self];rfl
   ·have h':=h rfl;rw[lt tn td,dt g,df (fun e=>by have:=(qfo (tn*k-m*td)).1 e;omega)];rfl
  ·rw[df g,dt l] at ld;have l':=(qfo (n*k-m*d)).1 l;refine⟨0,0,false,qoe c1 c2 c3 c4 w bb k5 cc (dt l) (df g),qgR ld (df g),fun h=>(by cases h),fun _=>⟨rfl,rfl⟩,fun h=>(by cases h),fun tn td ht h _=>?_⟩
   have t0:0<td:=by have:=qer ht;omega
   have:=qH6 d0 t0 k0 (show m*d≤n*k by omega) h;rw[lt tn td,df g,dt ((qfo _).2 (by omega))];rfl
  ·rw[df g,df l] at ld ld0;exact⟨n,d,true,qnQ c1 c2 c3 c4 w bb k5 cc (df l) (df g),now ld,qha hn hd h3 ld0⟩
noncomputable def qai (s:List Pt) (n d:Int) (c:Pt):Int×Int×Bool:=open Classical in if h:∃ r:Int×Int×Bool,qrB (qeN s c.b) (qeN s c.a) n d r.1 r.2.1 r.2.2∧qrt (qeN s c.b) (qeN s c.a) n d r.1 r.2.1 r.2.2∧FailIs (qeN s c.b) (qeN s c.a) n d r.1 r.2.1 r.2.2 then h.choose else (0,0,false)
structure FailT (s:List Pt) (n d:Int) (c:Pt):Prop where
 p:qrB (qeN s c.b) (qeN s c.a) n d (qai s n d c).1 (qai s n d c).2.1 (qai s n d c).2.2
 f:qrt (qeN s c.b) (qeN s c.a) n d (qai s n d c).1 (qai s n d c).2.1 (qai s n d c).2.2
 i:FailIs (qeN s c.b) (qeN s c.a) n d (qai s n d c).1 (qai s n d c).2.1 (qai s n d c).2.2
theorem qcf {s:List Pt} {n d:Int} {c:Pt} (hn:I64 n) (hd:I64 d) (ht:okB n d=true) (hs:Val s) (hc:qby c.a c.b=true) (ha:∃ q∈s,q.id=c.a) (hb:∃ q∈s,q.id=c.b):FailT s n d c:=by
 obtain⟨q,hq,ea⟩:=ha;obtain⟨p,hp,eb⟩:=hb
 have e1:qeN s c.a=q:=by rw[← ea];exact qee hs hq
 have e2:qeN s c.b=p:=by rw[← eb];exact qee hs hp
 have hne:p.id≠q.id:=by have:=(qbn.1 hc).2.2.2.2;omega
 obtain⟨m,k,b,h⟩:=qvc hn hd (hs.ok p hp) (hs.ok q hq) ht hne
 have ex:∃ r:Int×Int×Bool,qrB (qeN s c.b) (qeN s c.a) n d r.1 r.2.1 r.2.2∧qrt (qeN s c.b) (qeN s c.a) n d r.1 r.2.1 r.2.2∧FailIs (qeN s c.b) (qeN s c.a) n d r.1 r.2.1 r.2.2:=by
  rw[e1,e2];exact⟨(m,k,b),h⟩
 have hh:qai s n d c=ex.choose:=by unfold qai;rw[dif_pos ex]
 obtain⟨h1,h2,h3⟩:=ex.choose_spec;rw[← hh] at h1 h2 h3;exact⟨h1,h2,h3⟩
end Go.Proofs.YtkckcgpmnipnaaaGreat
