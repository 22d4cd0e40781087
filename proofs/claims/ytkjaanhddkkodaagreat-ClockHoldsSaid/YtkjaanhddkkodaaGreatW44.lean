/-
  Joined: Bb, Bd. Conditions: none.
-/
import Derived.Test.YtkjaanhddkkodaaGreatW43
import Derived.Test.YtkjaanhddkkodaaGreatW18
namespace Go.Proofs.YtkjaanhddkkodaaGreat
set_option maxRecDepth 100000
open Go.RowKit
abbrev qrE (c:Ck):S1:=.ag [.pv (iV c.tn),.pv (iV c.td),.ls 0 c.s.length,.pv (iV c.x),.ls 1 c.l.length,.ls 2 c.u.length,.ls 3 c.b.length,.ls 4 c.fr.length,.ls 5 c.ev.length,.ls 6 c.wh.length,.ls 7 c.d.length]
abbrev qBG (c o:Ck) (d:List Pt):SV:=.ag [.pv (iV c.tn),.pv (iV c.td),.ls 0 c.s.length,.pv (iV c.x),.ls 1 c.l.length,.ls 8 o.u.length,.ls 9 o.b.length,.ls 10 o.fr.length,.ls 11 o.ev.length,.ls 12 o.wh.length,.ls 13 d.length]
abbrev qhx (c o:Ck) (d:List Pt):S1:=.ag [.pv (iV c.tn),.pv (iV c.td),.ls 0 c.s.length,.pv (iV c.x),.ls 1 c.l.length,.ls 8 o.u.length,.ls 9 o.b.length,.ls 10 o.fr.length,.ls 11 o.ev.length,.ls 12 o.wh.length,.ls 13 d.length]
abbrev qtb (c o:Ck):S1:=.ag [.pv (iV c.tn),.pv (iV c.td),.ls 0 c.s.length,.pv (iV c.x),.ls 1 c.l.length,.ls 8 o.u.length,.ls 9 o.b.length,.ls 10 o.fr.length,.ls 11 o.ev.length,.ls 12 o.wh.length,.ls 7 c.d.length]
theorem qrb {n:Nat} {xs:List Value} (h0:0<n) (hn:0+n≤1000000) :
 Fn 106 1 [.ls 0 n] [(0,0,.row 94 3 n xs)] (.ls 1 n) 1 [(1,0,.row 94 3 n xs)]:=
 Fx [(1,2)] [.t false]
  (qoX n) (Ai (qgO 94 3 n xs) tI) (Ai h0 (Ai hn tI))
theorem qCK {ad:Addr} {c:Nat} :
 Fn 106 0 [.pv (.slice (some ad) 0 c)] [] (.ls 0 0) 1 [(0,0,.row 94 3 0 [])]:=
 Fz [(0,1)] [.k]
  (qaC (qaK [(0,1)]) [(0,0,.row 94 3 0 [])]) (Ai (Nat.zero_le _:0+0≤1000000) tI)
theorem qt3 {c:Nat}:Pure Tryz.prog 106 #[.slice none 0 c] (.slice none 0 0):=
 qaz (args:=[.slice none 0 c]) 200 [] (Ai rfl tI) (by kernel_rfl)
theorem qpv {n:Nat} {xs:List Value} (h0:0<n) (hn:0+n≤1000000) :
 Fn 108 1 [.ls 0 n] [(0,0,.row 54 3 n xs)] (.ls 1 n) 1 [(1,0,.row 54 3 n xs)]:=
 Fx [(1,2)] [.t false]
  (qoX n) (Ai (qgO 54 3 n xs) tI) (Ai h0 (Ai hn tI))
theorem qEV {ad:Addr} {c:Nat} :
 Fn 108 0 [.pv (.slice (some ad) 0 c)] [] (.ls 0 0) 1 [(0,0,.row 54 3 0 [])]:=
 Fz [(0,1)] [.k]
  (qaC (qaK [(0,1)]) [(0,0,.row 54 3 0 [])]) (Ai (Nat.zero_le _:0+0≤1000000) tI)
theorem qvD {c:Nat}:Pure Tryz.prog 108 #[.slice none 0 c] (.slice none 0 0):=
 qaz (args:=[.slice none 0 c]) 200 [] (Ai rfl tI) (by kernel_rfl)
theorem qmZ (l:List Pt) (k:Nat) (q:Pt) (h:k≤l.length):0+k+1+(l.length-k)=(l.take k++q::l.drop k).length:=by rw[List.length_append,List.length_cons,List.length_take,List.length_drop];omega
theorem qAQ (b:Nat) (l:List Pt) (k:Nat) (q:Pt) (h:k≤l.length):SV.ls b (0+k+1+(l.length-k))=(SV.ls 3 (l.take k++q::l.drop k).length).ren (qaK [(3,b)]):=by rw[qmZ l k q h];rfl
theorem qrH (l:List Pt) (k:Nat) (q:Pt) (h:k≤l.length):some (SV.row 54 3 (0+k+1+(l.length-k)) ([]++((qbu l).drop (0*3)).take (k*3)++[iV q.id,iV q.a,iV q.b]++((qbu l).drop ((0+k)*3)).take ((l.length-k)*3)))=some (qaV (l.take k++q::l.drop k)):=by
 have h1:=qiq l k
 have h2:=qiO l k
 rw[Nat.zero_add] at h1
 rw[h1,h2,qaV,qmZ l k q h,qb4,List.nil_append,List.append_assoc]
 rfl
theorem ccf {s:List Pt} (h1:Fn 100 1 [.ls 0 s.length] [(0,0,qal s)] (.ls 1 s.length) 1 [(1,0,qal s)]) :
 Fn 51 1 [qaJ 0 s] [(0,0,qal s)] (.ag [.ls 1 s.length]) 1 [(1,0,qal s)]:=
 Fz [(1,3)] [Cf h1 [0]]
  (qaC (qaK [(1,3)]) [(1,0,qal s)]) (Co h1 [0] 3 tI)
abbrev qw4 (c:Ck):HpL:=[(0,0,zrI c.u),(1,0,zrB c.b),(2,0,zrI c.fr),(3,0,qat c.ev),(4,0,zrI c.wh)]
theorem cca {c:Ck} (c0:Fn 151 1 [.ls 0 c.u.length] [(0,0,zrI c.u)] (.ls 1 c.u.length) 1 [(1,0,zrI c.u)]) (c1:Fn 152 1 [.ls 0 c.b.length] [(0,0,zrB c.b)] (.ls 1 c.b.length) 1 [(1,0,zrB c.b)]) (c2:Fn 151 1 [.ls 0 c.fr.length] [(0,0,zrI c.fr)] (.ls 1 c.fr.length) 1 [(1,0,zrI c.fr)]) (c3:Fn 153 1 [.ls 0 c.ev.length] [(0,0,qat c.ev)] (.ls 1 c.ev.length) 1 [(1,0,qat c.ev)]) (c4:Fn 151 1 [.ls 0 c.wh.length] [(0,0,zrI c.wh)] (.ls 1 c.wh.length) 1 [(1,0,zrI c.wh)]) :
 Fn 107 5 [agA c.u c.b c.fr c.ev c.wh] (qw4 c) (.ag [.ls 5 c.u.length,.ls 6 c.b.length,.ls 7 c.fr.length,.ls 8 c.ev.length,.ls 9 c.wh.length]) 5 [(5,0,zrI c.u),(6,0,zrB c.b),(7,0,zrI c.fr),(8,0,qat c.ev),(9,0,zrI c.wh)]:=
 Fz [(5,7),(6,8),(7,9),(8,11),(9,12)] [.md,Cf c0 [0],Cf c1 [1],Cf c2 [2],.md,Cf c3 [3],Cf c4 [4]]
  (qaC (qaK [(5,7),(6,8),(7,9),(8,11),(9,12)]) [(5,0,zrI c.u),(6,0,zrB c.b),(7,0,zrI c.fr),(8,0,qat c.ev),(9,0,zrI c.wh)]) (Co c0 [0] 7 (Co c1 [1] 8 (Co c2 [2] 9 (Co c3 [3] 11 (Co c4 [4] 12 tI)))))
theorem ccl {c:Ck} (h1:Fn 51 1 [qaJ 0 c.s] [(0,0,qal c.s)] (.ag [.ls 1 c.s.length]) 1 [(1,0,qal c.s)]) (h2:Fn 106 1 [.ls 0 c.l.length] [(0,0,qak c.l)] (.ls 1 c.l.length) 1 [(1,0,qak c.l)]) (h3:Fn 107 5 [agA c.u c.b c.fr c.ev c.wh] (qw4 c) (.ag [.ls 5 c.u.length,.ls 6 c.b.length,.ls 7 c.fr.length,.ls 8 c.ev.length,.ls 9 c.wh.length]) 5 [(5,0,zrI c.u),(6,0,zrB c.b),(7,0,zrI c.fr),(8,0,qat c.ev),(9,0,zrI c.wh)]) (h4:Fn 108 1 [.ls 0 c.d.length] [(0,0,qaV c.d)] (.ls 1 c.d.length) 1 [(1,0,qaV c.d)]) :
 Fn 58 8 [qao c] (qar c) (qBt c) 8 (qdw c):=
 Fz [(8,10),(9,11),(10,12),(11,13),(12,14),(13,15),(14,16),(15,17)] [.md,Cf h1 [0],Cf h2 [1],Cf h3 [2,3,4,5,6],Cf h4 [7]]
  (qaC (qaK [(8,10),(9,11),(10,12),(11,13),(12,14),(13,15),(14,16),(15,17)]) (qdw c)) (Co h1 [0] 10 (Co h2 [1] 11 (Co h3 [2,3,4,5,6] 12 (Co h4 [7] 17 tI))))
theorem qBs {a pa pb n:Int} (n1:(!(a==a))=false) (n2:(!(n==n))=false) (h1:decide (a<n)=true) :
 Pure Tryz.prog 156 #[qab a pa pb,iV n] (iV (-1)):=
 qad (args:=[qab a pa pb,iV n]) 300 [.k,.k,.t false,.k,.t false,.t true]
  (Ai rfl (Ai n1 (Ai n2 (Ai h1 tI)))) (by kernel_rfl)
theorem qw8 {a pa pb n:Int} (n1:(!(a==a))=false) (n2:(!(n==n))=false) (h1:decide (a<n)=false) (h2:decide (a>n)=true) :
 Pure Tryz.prog 156 #[qab a pa pb,iV n] (iV (1)):=
 qad (args:=[qab a pa pb,iV n]) 300 [.k,.k,.t false,.k,.t false,.t false,.t true]
  (Ai rfl (Ai n1 (Ai n2 (Ai h1 (Ai h2 tI))))) (by kernel_rfl)
theorem qzU {a pa pb n:Int} (n1:(!(a==a))=false) (n2:(!(n==n))=false) (h1:decide (a<n)=false) (h2:decide (a>n)=false) :
 Pure Tryz.prog 156 #[qab a pa pb,iV n] (iV (0)):=
 qad (args:=[qab a pa pb,iV n]) 300 [.k,.k,.t false,.k,.t false,.t false,.t false]
  (Ai rfl (Ai n1 (Ai n2 (Ai h1 (Ai h2 tI))))) (by kernel_rfl)
abbrev qBO (i:Nat) (j:Nat) (l:List Pt) (n:Int):TmL:=[(0,.ls 0 l.length),(1,.pv (iV n)),(2,.pv (.func (.func 156) #[] #[])),(8,.pv (iV (l.length:Int))),(9,.pv (iV (i:Int))),(10,.pv (iV (j:Int)))]
abbrev qB6 (c:Int) (n:Int) (p:Pt):Prop:=Pure Tryz.prog 156 #[qab p.id p.a p.b,iV n] (iV (c))
theorem qxz {l:List Pt} {i j h:Nat} {p:Pt} {c n:Int} (hk:l[h]?=some p) (hin:0≤(h:Int)∧(h:Int)<(l.length:Int)) (hlt:decide ((i:Int)<(j:Int))=true) (ha:iV (IntKind.i64.wrap ((i:Int)+(j:Int)))=iV ((i:Int)+(j:Int))) (hu:Value.int .u64 (IntKind.u64.wrap ((i:Int)+(j:Int)))=.int .u64 ((i:Int)+(j:Int))) (h1:¬ (1:Int)<0) (hs:Value.int .u64 (((i:Int)+(j:Int)).fdiv (2 ^ (min (1:Int).toNat IntKind.u64.bits)))=.int .u64 (h:Int)) (hb:iV (IntKind.i64.wrap (h:Int))=iV (h:Int)) (hc:qB6 c n p) (hz:decide (c<0)=true) (hh:iV (IntKind.i64.wrap ((h:Int)+1))=iV (((h+1:Nat):Int))) {e:Exit} {tm2:TmL} {hp2:HpL}
 (r:Rl 1 1 155 0 49 1 ([(0,.ls 0 l.length),(1,.pv (iV n)),(2,.pv (.func (.func 156) #[] #[])),(8,.pv (iV (l.length:Int))),(9,.pv (iV ((h+1:Nat):Int))),(10,.pv (iV (j:Int)))]) ([(0,0,qaV l)]) e tm2 hp2):Rl 1 1 155 0 49 1 (qBO i j l n) ([(0,0,qaV l)]) e tm2 hp2:=
 RunsL.next [] 300 [.t true,Re ha,Re hu,.r (.int .u64 (h:Int)),Re hb,.r (ptV p),Rf hc,.t true,Re hh]
  (Ro (Ai hlt (Ai ha (Ai hu (Ai h1 (Ai hs (Ai hb (Ai hin (Ai (qaI hk) (Ai hc (Ai hz (Ai hh tI)))))))))))) r
theorem qxu {l:List Pt} {i j h:Nat} {p:Pt} {c n:Int} (hk:l[h]?=some p) (hin:0≤(h:Int)∧(h:Int)<(l.length:Int)) (hlt:decide ((i:Int)<(j:Int))=true) (ha:iV (IntKind.i64.wrap ((i:Int)+(j:Int)))=iV ((i:Int)+(j:Int))) (hu:Value.int .u64 (IntKind.u64.wrap ((i:Int)+(j:Int)))=.int .u64 ((i:Int)+(j:Int))) (h1:¬ (1:Int)<0) (hs:Value.int .u64 (((i:Int)+(j:Int)).fdiv (2 ^ (min (1:Int).toNat IntKind.u64.bits)))=.int .u64 (h:Int)) (hb:iV (IntKind.i64.wrap (h:Int))=iV (h:Int)) (hc:qB6 c n p) (hz:decide (c<0)=false) {e:Exit} {tm2:TmL} {hp2:HpL}
 (r:Rl 1 1 155 0 49 1 ([(0,.ls 0 l.length),(1,.pv (iV n)),(2,.pv (.func (.func 156) #[] #[])),(8,.pv (iV (l.length:Int))),(9,.pv (iV (i:Int))),(10,.pv (iV (h:Int)))]) ([(0,0,qaV l)]) e tm2 hp2):Rl 1 1 155 0 49 1 (qBO i j l n) ([(0,0,qaV l)]) e tm2 hp2:=
 RunsL.next [] 300 [.t true,Re ha,Re hu,.r (.int .u64 (h:Int)),Re hb,.r (ptV p),Rf hc,.t false]
  (Ro (Ai hlt (Ai ha (Ai hu (Ai h1 (Ai hs (Ai hb (Ai hin (Ai (qaI hk) (Ai hc (Ai hz tI))))))))))) r
theorem ql4 {l:List Pt} {i j:Nat} {n:Int} (hge:decide ((i:Int)<(j:Int))=false):Rl 1 1 155 0 49 1 (qBO i j l n) ([(0,0,qaV l)]) (.exit 0) (qBO i j l n) ([(0,0,qaV l)]):=
 RunsL.stop [] 300 [.t false] (fun h=>by cases h)
  (Ro (Ai hge tI))
abbrev qDm (k:Nat) (l:List Pt) (n:Int):Prop:=Rl 1 1 155 0 49 1 ([(0,.ls 0 l.length),(1,.pv (iV n)),(2,.pv (.func (.func 156) #[] #[])),(8,.pv (iV (l.length:Int))),(9,.pv (iV ((0:Nat):Int))),(10,.pv (iV (l.length:Int)))]) ([(0,0,qaV l)]) (.exit 0) ([(0,.ls 0 l.length),(1,.pv (iV n)),(2,.pv (.func (.func 156) #[] #[])),(8,.pv (iV (l.length:Int))),(9,.pv (iV (k:Int))),(10,.pv (iV (k:Int)))]) ([(0,0,qaV l)])
theorem qtm {l:List Pt} {k:Nat} {n:Int} (r0:qDm k l n) (hge:decide ((k:Int)<(l.length:Int))=false) :
 Fn 155 1 [.ls 0 l.length,.pv (iV (n)),.pv (.func (.func 156) #[] #[])] [(0,0,qaV l)] (.pv (.tuple #[iV (k:Int),.bool false])) 0 []:=
 Fz [] [Lf r0,.t false]
  tI (Lo r0 [] (Ai hge tI))
theorem qwh {l:List Pt} {k:Nat} {p:Pt} {c:Int} {n:Int} (r0:qDm k l n) (hk:l[k]?=some p) (hin:0≤(k:Int)∧(k:Int)<(l.length:Int)) (hlt:decide ((k:Int)<(l.length:Int))=true) (hc:qB6 c n p) (hz:(c==0)=true) :
 Fn 155 1 [.ls 0 l.length,.pv (iV (n)),.pv (.func (.func 156) #[] #[])] [(0,0,qaV l)] (.pv (.tuple #[iV (k:Int),.bool true])) 0 []:=
 Fz [] [Lf r0,.t true,.r (ptV p),Rf hc,.t true]
  tI (Lo r0 [] (Ai hlt (Ai hin (Ai (qaI hk) (Ai hc (Ai hz tI))))))
theorem qx9 {l:List Pt} {k:Nat} {p:Pt} {c:Int} {n:Int} (r0:qDm k l n) (hk:l[k]?=some p) (hin:0≤(k:Int)∧(k:Int)<(l.length:Int)) (hlt:decide ((k:Int)<(l.length:Int))=true) (hc:qB6 c n p) (hz:(c==0)=false) :
 Fn 155 1 [.ls 0 l.length,.pv (iV (n)),.pv (.func (.func 156) #[] #[])] [(0,0,qaV l)] (.pv (.tuple #[iV (k:Int),.bool false])) 0 []:=
 Fz [] [Lf r0,.t true,.r (ptV p),Rf hc,.t false]
  tI (Lo r0 [] (Ai hlt (Ai hin (Ai (qaI hk) (Ai hc (Ai hz tI))))))
theorem cfd {l:List Pt} {k:Nat} {w:Bool} {n:Int} (hb:Fn 155 1 [.ls 0 l.length,.pv (iV (n)),.pv (.func (.func 156) #[] #[])] [(0,0,qaV l)] (.pv (.tuple #[iV (k:Int),.bool w])) 0 []) :
 Fn 110 1 [.ls 0 l.length,.pv (iV (n))] [(0,0,qaV l)] (.pv (.tuple #[iV (k:Int),.bool w])) 0 []:=
 Fz [] [Cf hb [0]]
  tI (Co hb [0] 1 tI)
theorem qCU {z:Int} (h0:decide (z<0)=false) (hs:iV (IntKind.i64.wrap (z-0))=iV (z)) (hg:decide (z>0)=false) :
 Fn 202 0 [.pv (.slice none 0 0),.pv (iV (z))] [] (.pv (.slice none 0 0)) 0 []:=
 Fz [] [.t false,.k,Re hs,.t false]
  tI (Ai h0 (Ai hs (Ai hg tI)))
theorem qBw {z:Int} (h0:decide (z<0)=false) (hs:iV (IntKind.i64.wrap (z-0))=iV (z)) (hg:decide (z>0)=true) (a0:0≤z) (a1:z≤1000000) :
 Fn 202 0 [.pv (.slice none 0 0),.pv (iV (z))] [] (.ls 0 0) 1 [(0,0,qaV ([]:List Pt))]:=
 Fz [(0,1)] [.t false,.k,Re hs,.t true,.w []]
  (qaC (qaK [(0,1)]) [(0,0,qaV ([]:List Pt))]) (Ai h0 (Ai hs (Ai hg (Ai a0 (Ai a1 (Ai (Int.le_refl (0:Int)) (Ai (Nat.zero_le z.toNat) tI)))))))
theorem qBe {l:List Pt} {k:Nat} {s1 s2:Int} (q1:iV (IntKind.i64.wrap ((0:Int)+((k:Nat):Int)))=iV (s1)) (n1:decide (s1<0)=false) (q2:iV (IntKind.i64.wrap (s1+((l.length-(k+1):Nat):Int)))=iV (s2)) (n2:decide (s2<0)=false) (hgr:Fn 202 0 [.pv (.slice none 0 0),.pv (iV (s2))] [] (.ls 0 0) 1 [(0,0,qaV ([]:List Pt))]) (a1:0+k≤1000000) (a2:0+k+(l.length-(k+1))≤1000000) (hkl1:k+1≤l.length) :
 Fn 162 2 [.ps 1 0 2 2] [(1,0,.lq 0 3 0 k),(1,1,.lq 0 3 (0+(k+1)) (l.length-(k+1))),(0,0,qaV l)] (.ls 2 (l.take k++l.drop (k+1)).length) 1 [(2,0,qaV (l.take k++l.drop (k+1)))]:=
 Fx [(2,4)] [.k,.r (iV (s1)),.t false,.k,.k,.r (iV (s2)),.t false,.k,.k,Cf hgr [],.k,.k,.k,.k,.k]
  (qjG 4 l k hkl1) (Ai (qj5 l k hkl1) tI) (Ai q1 (Ai n1 (Ai q2 (Ai n2 (Co hgr [] 2 (Ai a1 (Ai a2 tI)))))))
theorem qAD {l:List Pt} {k:Nat} {s1 s2:Int} (q1:iV (IntKind.i64.wrap ((0:Int)+((k:Nat):Int)))=iV (s1)) (n1:decide (s1<0)=false) (q2:iV (IntKind.i64.wrap (s1+((l.length-(k+1):Nat):Int)))=iV (s2)) (n2:decide (s2<0)=false) (hgr:Fn 202 0 [.pv (.slice none 0 0),.pv (iV (s2))] [] (.pv (.slice none 0 0)) 0 []) (a1:0+k≤1000000) (a2:0+k+(l.length-(k+1))≤1000000) (hkl1:k+1≤l.length) :
 Fn 162 2 [.ps 1 0 2 2] [(1,0,.lq 0 3 0 k),(1,1,.lq 0 3 (0+(k+1)) (l.length-(k+1))),(0,0,qaV l)] (.ls 2 (l.take k++l.drop (k+1)).length) 1 [(2,0,qaV (l.take k++l.drop (k+1)))]:=
 Fx [(2,3)] [.k,.r (iV (s1)),.t false,.k,.k,.r (iV (s2)),.t false,.k,.k,Cf hgr [],.k,.k,.k,.k,.k]
  (qjG 3 l k hkl1) (Ai (qj5 l k hkl1) tI) (Ai q1 (Ai n1 (Ai q2 (Ai n2 (Co hgr [] 2 (Ai a1 (Ai a2 tI)))))))
theorem qF5 {l:List Pt} {n hi hw:Int} {k:Nat} {s1 s2 s3:Int} (q1:iV (IntKind.i64.wrap ((0:Int)+((k:Nat):Int)))=iV (s1)) (n1:decide (s1<0)=false) (q2:iV (IntKind.i64.wrap (s1+((1:Nat):Int)))=iV (s2)) (n2:decide (s2<0)=false) (q3:iV (IntKind.i64.wrap (s2+((l.length-k:Nat):Int)))=iV (s3)) (n3:decide (s3<0)=false) (hgr:Fn 202 0 [.pv (.slice none 0 0),.pv (iV (s3))] [] (.ls 0 0) 1 [(0,0,qaV ([]:List Pt))]) (a1:0+k≤1000000) (a2:0+k+1≤1000000) (a3:0+k+1+(l.length-k)≤1000000) (hkl:k≤l.length) :
 Fn 162 3 [.ps 2 0 3 3] [(2,0,.lq 0 3 0 k),(2,1,.ps 1 0 1 1),(2,2,.lq 0 3 (0+k) (l.length-k)),(1,0,.pv (iV n)),(1,1,.pv (iV hi)),(1,2,.pv (iV hw)),(0,0,qaV l)] (.ls 3 (l.take k++(Pt.mk n hi hw)::l.drop k).length) 1 [(3,0,qaV (l.take k++(Pt.mk n hi hw)::l.drop k))]:=
 Fx [(3,6)] [.k,.r (iV (s1)),.t false,.k,.k,.r (iV (s2)),.t false,.k,.k,.r (iV (s3)),.t false,.k,.k,Cf hgr [],.k,.k,.k,.k,.k,.k,.k]
  (qAQ 6 l k (Pt.mk n hi hw) hkl) (Ai (qrH l k (Pt.mk n hi hw) hkl) tI) (Ai q1 (Ai n1 (Ai q2 (Ai n2 (Ai q3 (Ai n3 (Co hgr [] 3 (Ai a1 (Ai a2 (Ai a3 tI))))))))))
theorem qDP {c:Ck} {k:Nat} {n:Int} (hfd:Fn 110 1 [.ls 0 c.d.length,.pv (iV (n))] [(0,0,qaV c.d)] (.pv (.tuple #[iV (k:Int),.bool false])) 0 []) :
 Fn 113 8 [qao c,.pv (iV (n))] (qar c) (qao c) 0 []:=
 Fz [] [Cf hfd [7],.k]
  tI (Co hfd [7] 10 tI)
abbrev qDw (o:Ck):HpL:=[(5,0,zrI o.u),(6,0,zrB o.b),(7,0,zrI o.fr),(8,0,qat o.ev),(9,0,zrI o.wh)]
theorem qzA {c o:Ck} {q:Pt} {k:Nat} {n:Int} {y:Ev} (hfd:Fn 110 1 [.ls 0 c.d.length,.pv (iV (n))] [(0,0,qaV c.d)] (.pv (.tuple #[iV (k:Int),.bool true])) 0 []) (hq:c.d[k]?=some q) (hiq:0≤(k:Int)∧(k:Int)<(c.d.length:Int)) (hr:Fn 163 5 [agA c.u c.b c.fr c.ev c.wh,.pv (qaL q.a q.b)] (qw4 c) (.tu [.ag [.ls 5 o.u.length,.ls 6 o.b.length,.ls 7 o.fr.length,.ls 8 o.ev.length,.ls 9 o.wh.length],.one (.pv (qac y)),.one (.pv (iV 0))]) 5 (qDw o)) (hkl:k≤c.d.length) (hkl1:k+1≤c.d.length) (hk1:iV (IntKind.i64.wrap ((k:Int)+1))=iV (((k+1:Nat):Int))) (hcut:Fn 162 2 [.ps 1 0 2 2] [(1,0,.lq 0 3 0 k),(1,1,.lq 0 3 (0+(k+1)) (c.d.length-(k+1))),(0,0,qaV c.d)] (.ls 2 (c.d.take k++c.d.drop (k+1)).length) 1 [(2,0,qaV (c.d.take k++c.d.drop (k+1)))]) :
 Fn 113 8 [qao c,.pv (iV (n))] (qar c) (qBG c o (c.d.take k++c.d.drop (k+1))) 6 [(8,0,zrI o.u),(9,0,zrB o.b),(10,0,zrI o.fr),(11,0,qat o.ev),(12,0,zrI o.wh),(13,0,qaV (c.d.take k++c.d.drop (k+1)))]:=
 Fz [(8,10),(9,11),(10,12),(11,13),(12,14),(13,16)] [Cf hfd [7],.k,.md,.r (qaL q.a q.b),Cf hr [2,3,4,5,6],.md,.k,Re hk1,.k,Cf hcut [7,15]]
  (qaC (qaK [(8,10),(9,11),(10,12),(11,13),(12,14),(13,16)]) [(8,0,zrI o.u),(9,0,zrB o.b),(10,0,zrI o.fr),(11,0,qat o.ev),(12,0,zrI o.wh),(13,0,qaV (c.d.take k++c.d.drop (k+1)))]) (Co hfd [7] 10 (Ai hiq (Ai (qdx hq) (Co hr [2,3,4,5,6] 10 (Ai tI (Ai (Int.natCast_nonneg k) (Ai (Nat.zero_le k) (Ai hkl (Ai hk1 (Ai (Int.natCast_nonneg (k+1)) (Ai tI (Ai hkl1 (Ai (Nat.le_refl c.d.length) (Co hcut [7,15] 16 tI))))))))))))))
theorem qA1 {c:Ck} {n tn td e:Int} (hp:Fn 161 5 [agA c.u c.b c.fr c.ev c.wh,.pv (qaa tn td),.pv (iV (n))] (qw4 c) (.pv (.tuple #[.agg #[.slice none 0 0,.slice none 0 0,.slice none 0 0,.slice none 0 0,.slice none 0 0],qaL 0 0,iV e])) 0 []) (he:(e !=0)=true) :
 Fn 112 8 [qao c,.pv (qaa tn td),.pv (iV (n))] (qar c) (.pv (.tuple #[qcN,iV e])) 0 []:=
 Fz [] [Cf hp [2,3,4,5,6],.t true]
  tI (Co hp [2,3,4,5,6] 11 (Ai he tI))
theorem qCk {c o:Ck} {k:Nat} {n tn td:Int} {hi hw:Int} (hp:Fn 161 5 [agA c.u c.b c.fr c.ev c.wh,.pv (qaa tn td),.pv (iV (n))] (qw4 c) (.tu [.ag [.ls 5 o.u.length,.ls 6 o.b.length,.ls 7 o.fr.length,.ls 8 o.ev.length,.ls 9 o.wh.length],.one (.pv (qaL hi hw)),.one (.pv (iV 0))]) 5 (qDw o)) (hfd:Fn 110 1 [.ls 0 c.d.length,.pv (iV (n))] [(0,0,qaV c.d)] (.pv (.tuple #[iV (k:Int),.bool false])) 0 []) (hkl:k≤c.d.length) (hins:Fn 162 3 [.ps 2 0 3 3] [(2,0,.lq 0 3 0 k),(2,1,.ps 1 0 1 1),(2,2,.lq 0 3 (0+k) (c.d.length-k)),(1,0,.pv (iV n)),(1,1,.pv (iV hi)),(1,2,.pv (iV hw)),(0,0,qaV c.d)] (.ls 3 (c.d.take k++(Pt.mk n hi hw)::c.d.drop k).length) 1 [(3,0,qaV (c.d.take k++(Pt.mk n hi hw)::c.d.drop k))]) :
 Fn 112 8 [qao c,.pv (qaa tn td),.pv (iV (n))] (qar c) (.tu [qhx c o (c.d.take k++(Pt.mk n hi hw)::c.d.drop k),.one (.pv (iV 0))]) 6 [(8,0,zrI o.u),(9,0,zrB o.b),(10,0,zrI o.fr),(11,0,qat o.ev),(12,0,zrI o.wh),(13,0,qaV (c.d.take k++(Pt.mk n hi hw)::c.d.drop k))]:=
 Fz [(8,11),(9,12),(10,13),(11,14),(12,15),(13,20)] [Cf hp [2,3,4,5,6],.k,Cf hfd [7],.md,.k,.k,Cf hins [7,18,19]]
  (qaC (qaK [(8,11),(9,12),(10,13),(11,14),(12,15),(13,20)]) [(8,0,zrI o.u),(9,0,zrB o.b),(10,0,zrI o.fr),(11,0,qat o.ev),(12,0,zrI o.wh),(13,0,qaV (c.d.take k++(Pt.mk n hi hw)::c.d.drop k))]) (Co hp [2,3,4,5,6] 11 (Co hfd [7] 18 (Ai tI (Ai (Int.natCast_nonneg k) (Ai (Nat.zero_le k) (Ai hkl (Ai (Int.natCast_nonneg k) (Ai tI (Ai hkl (Ai (Nat.le_refl c.d.length) (Co hins [7,18,19] 20 tI)))))))))))
abbrev qEU (c:Ck) (p:Pt) (td:Int) (tn:Int):Prop:=Fn 109 8 [qao c,.pv (qag p.a p.b)] (qar c) (.pv (.tuple #[qaa tn td,.bool true])) 0 []
theorem qA4 {c o:Ck} {p q:Pt} {k:Nat} {tn td:Int} (hf:qEU c p td tn) (hfd:Fn 110 1 [.ls 0 c.d.length,.pv (iV (p.id))] [(0,0,qaV c.d)] (.pv (.tuple #[iV (k:Int),.bool true])) 0 []) (hq:c.d[k]?=some q) (hiq:0≤(k:Int)∧(k:Int)<(c.d.length:Int)) (hr:Fn 111 5 [agA c.u c.b c.fr c.ev c.wh,.pv (qaL q.a q.b),.pv (qaa tn td)] (qw4 c) (.tu [.ag [.ls 5 o.u.length,.ls 6 o.b.length,.ls 7 o.fr.length,.ls 8 o.ev.length,.ls 9 o.wh.length],.one (.pv (iV 0))]) 5 (qDw o)) :
 Fn 59 8 [qao c,.pv (ptV p)] (qar c) (.tu [qtb c o,.one (.pv (iV 0))]) 5 [(8,0,zrI o.u),(9,0,zrB o.b),(10,0,zrI o.fr),(11,0,qat o.ev),(12,0,zrI o.wh)]:=
 Fz [(8,12),(9,13),(10,14),(11,15),(12,16)] [Cf hf [0,1,2,3,4,5,6,7],Cf hfd [7],.md,.r (qaL q.a q.b),Cf hr [2,3,4,5,6]]
  (qaC (qaK [(8,12),(9,13),(10,14),(11,15),(12,16)]) [(8,0,zrI o.u),(9,0,zrB o.b),(10,0,zrI o.fr),(11,0,qat o.ev),(12,0,zrI o.wh)]) (Co hf [0,1,2,3,4,5,6,7] 11 (Co hfd [7] 12 (Ai hiq (Ai (qdx hq) (Co hr [2,3,4,5,6] 12 tI)))))
abbrev qwS (l2:List Pt) (o:Ck):HpL:=[(8,0,zrI o.u),(9,0,zrB o.b),(10,0,zrI o.fr),(11,0,qat o.ev),(12,0,zrI o.wh),(13,0,qaV l2)]
theorem qvZ {c o:Ck} {p:Pt} {k:Nat} {tn td:Int} {l2:List Pt} (hf:qEU c p td tn) (hfd:Fn 110 1 [.ls 0 c.d.length,.pv (iV (p.id))] [(0,0,qaV c.d)] (.pv (.tuple #[iV (k:Int),.bool false])) 0 []) (hp:Fn 112 8 [qao c,.pv (qaa tn td),.pv (iV (p.id))] (qar c) (.tu [qhx c o l2,.one (.pv (iV 0))]) 6 (qwS l2 o)) :
 Fn 59 8 [qao c,.pv (ptV p)] (qar c) (.tu [qhx c o l2,.one (.pv (iV 0))]) 6 (qwS l2 o):=
 Fz [(8,12),(9,13),(10,14),(11,15),(12,16),(13,17)] [Cf hf [0,1,2,3,4,5,6,7],Cf hfd [7],Cf hp [0,1,2,3,4,5,6,7]]
  (qaC (qaK [(8,12),(9,13),(10,14),(11,15),(12,16),(13,17)]) (qwS l2 o)) (Co hf [0,1,2,3,4,5,6,7] 11 (Co hfd [7] 12 (Co hp [0,1,2,3,4,5,6,7] 12 tI)))
theorem qtK {c:Ck} {p:Pt} {k:Nat} {tn td e:Int} (hf:qEU c p td tn) (hfd:Fn 110 1 [.ls 0 c.d.length,.pv (iV (p.id))] [(0,0,qaV c.d)] (.pv (.tuple #[iV (k:Int),.bool false])) 0 []) (hp:Fn 112 8 [qao c,.pv (qaa tn td),.pv (iV (p.id))] (qar c) (.pv (.tuple #[qcN,iV e])) 0 []) :
 Fn 59 8 [qao c,.pv (ptV p)] (qar c) (.pv (.tuple #[qcN,iV e])) 0 []:=
 Fz [] [Cf hf [0,1,2,3,4,5,6,7],Cf hfd [7],Cf hp [0,1,2,3,4,5,6,7]]
  tI (Co hf [0,1,2,3,4,5,6,7] 11 (Co hfd [7] 12 (Co hp [0,1,2,3,4,5,6,7] 12 tI)))
theorem qvM {c o:Ck} {p:Pt} {k:Nat} {tn td:Int} {w:Bool} {l2:List Pt} (hf:Fn 109 8 [qao c,.pv (qag p.a p.b)] (qar c) (.pv (.tuple #[qaa tn td,.bool false])) 0 []) (hfd:Fn 110 1 [.ls 0 c.d.length,.pv (iV (p.id))] [(0,0,qaV c.d)] (.pv (.tuple #[iV (k:Int),.bool w])) 0 []) (hel:Fn 113 8 [qao c,.pv (iV (p.id))] (qar c) (qBG c o l2) 6 (qwS l2 o)) :
 Fn 59 8 [qao c,.pv (ptV p)] (qar c) (.tu [qhx c o l2,.one (.pv (iV 0))]) 6 (qwS l2 o):=
 Fz [(8,12),(9,13),(10,14),(11,15),(12,16),(13,17)] [Cf hf [0,1,2,3,4,5,6,7],Cf hfd [7],Cf hel [0,1,2,3,4,5,6,7]]
  (qaC (qaK [(8,12),(9,13),(10,14),(11,15),(12,16),(13,17)]) (qwS l2 o)) (Co hf [0,1,2,3,4,5,6,7] 11 (Co hfd [7] 12 (Co hel [0,1,2,3,4,5,6,7] 12 tI)))
theorem qvw {c:Ck} {p:Pt} {k:Nat} {tn td:Int} {w:Bool} (hf:Fn 109 8 [qao c,.pv (qag p.a p.b)] (qar c) (.pv (.tuple #[qaa tn td,.bool false])) 0 []) (hfd:Fn 110 1 [.ls 0 c.d.length,.pv (iV (p.id))] [(0,0,qaV c.d)] (.pv (.tuple #[iV (k:Int),.bool w])) 0 []) (hel:Fn 113 8 [qao c,.pv (iV (p.id))] (qar c) (qao c) 0 []) :
 Fn 59 8 [qao c,.pv (ptV p)] (qar c) (.tu [qrE c,.one (.pv (iV 0))]) 0 []:=
 Fz [] [Cf hf [0,1,2,3,4,5,6,7],Cf hfd [7],Cf hel [0,1,2,3,4,5,6,7]]
  tI (Co hf [0,1,2,3,4,5,6,7] 11 (Co hfd [7] 12 (Co hel [0,1,2,3,4,5,6,7] 12 tI)))
theorem qzK {c:Ck} {n e:Int} (hrm:Fn 114 1 [qaH 0 c.x c.l,.pv (iV (n))] [(0,0,qak c.l)] (.pv (.tuple #[.agg #[iV 0,.slice none 0 0],qag 0 0,iV e])) 0 []) (he:(e !=0)=true) :
 Fn 60 8 [qao c,.pv (iV (n))] (qar c) (.pv (.tuple #[qcN,qag 0 0,iV e])) 0 []:=
 Fz [] [Cf hrm [1],.t true]
  tI (Co hrm [1] 11 (Ai he tI))
abbrev qFF (a:Int) (b:Int) (c:Ck) (l2:List Pt) (n:Int):Prop:=Fn 114 1 [qaH 0 c.x c.l,.pv (iV (n))] [(0,0,qak c.l)] (.tu [.ag [.pv (iV c.x),.ls 1 l2.length],.one (.pv (qag a b)),.one (.pv (iV 0))]) 1 [(1,0,qak l2)]
theorem qDT {c:Ck} {n a b:Int} {l2:List Pt} (hrm:qFF a b c l2 n) (hcl:Fn 58 8 [qao c] (qar c) (qBt c) 8 (qdw c)) (hel:Fn 113 8 [qao c,.pv (iV (n))] (qar c) (qao c) 0 []) :
 Fn 60 8 [qao c,.pv (iV (n))] (qar c) (.tu [qib { c with l:=l2 },.one (.pv (qag a b)),.one (.pv (iV 0))]) 8 (qdw ({ c with l:=l2 }:Ck)):=
 Fz [(8,14),(9,11),(10,16),(11,17),(12,18),(13,19),(14,20),(15,21)] [Cf hrm [1],.k,Cf hcl [0,1,2,3,4,5,6,7],Cf hel [14,15,16,17,18,19,20,21]]
  (qaC (qaK [(8,14),(9,11),(10,16),(11,17),(12,18),(13,19),(14,20),(15,21)]) (qdw ({ c with l:=l2 }:Ck))) (Co hrm [1] 11 (Co hcl [0,1,2,3,4,5,6,7] 14 (Co hel [14,15,16,17,18,19,20,21] 22 tI)))
theorem qAR {c o:Ck} {n a b:Int} {l l2:List Pt} (hrm:qFF a b c l2 n) (hcl:Fn 58 8 [qao c] (qar c) (qBt c) 8 (qdw c)) (hel:Fn 113 8 [qao c,.pv (iV (n))] (qar c) (qBG c o l) 6 [(8,0,zrI o.u),(9,0,zrB o.b),(10,0,zrI o.fr),(11,0,qat o.ev),(12,0,zrI o.wh),(13,0,qaV l)]) :
 Fn 60 8 [qao c,.pv (iV (n))] (qar c) (.tu [qib { c with l:=l2,u:=o.u,b:=o.b,fr:=o.fr,ev:=o.ev,wh:=o.wh,d:=l },.one (.pv (qag a b)),.one (.pv (iV 0))]) 8 (qdw ({ c with l:=l2,u:=o.u,b:=o.b,fr:=o.fr,ev:=o.ev,wh:=o.wh,d:=l }:Ck)):=
 Fz [(8,14),(9,11),(10,22),(11,23),(12,24),(13,25),(14,26),(15,27)] [Cf hrm [1],.k,Cf hcl [0,1,2,3,4,5,6,7],Cf hel [14,15,16,17,18,19,20,21]]
  (qaC (qaK [(8,14),(9,11),(10,22),(11,23),(12,24),(13,25),(14,26),(15,27)]) (qdw ({ c with l:=l2,u:=o.u,b:=o.b,fr:=o.fr,ev:=o.ev,wh:=o.wh,d:=l }:Ck))) (Co hrm [1] 11 (Co hcl [0,1,2,3,4,5,6,7] 14 (Co hel [14,15,16,17,18,19,20,21] 22 tI)))
end Go.Proofs.YtkjaanhddkkodaaGreat

namespace Go.Proofs.YtkjaanhddkkodaaGreat
set_option maxRecDepth 100000
open Go.RowKit
theorem qzp (a pa pb n:Int):∃ c,Pure Tryz.prog 193 #[qab a pa pb,iV n] (iV c)∧(c<0↔a<n)∧(c=0↔a=n):=by
 rcases Int.lt_trichotomy a n with h | h | h
 ·exact⟨-1,qBr (by simp) (by simp) (dt h),⟨fun _=>h,fun _=>by omega⟩,⟨fun h=>by omega,fun h=>by omega⟩⟩
 ·exact⟨0,qzO (by simp) (by simp) (df (by omega)) (df (by omega)),⟨fun h=>by omega,fun h=>by omega⟩,⟨fun _=>h,fun _=>rfl⟩⟩
 ·exact⟨1,qxa (by simp) (by simp) (df (by omega)) (dt (by omega)),⟨fun h=>by omega,fun h=>by omega⟩,⟨fun h=>by omega,fun h=>by omega⟩⟩
abbrev qFq (l:List Pt) (n:Int) (i j:Nat):List (Nat×SV):=[(0,.ls 0 l.length),(1,.pv (iV n)),(2,.pv (.func (.func 193) #[] #[])),(8,.pv (iV (l.length:Int))),(9,.pv (iV (i:Int))),(10,.pv (iV (j:Int)))]
theorem qrd {l:List Pt} (hn:l.length≤1000000) {n:Int}:∀ (d i j:Nat),j-i≤d→i≤j→j≤l.length→(∀ p,0<i→l[i-1]?=some p→p.id<n)→(∀ p,l[j]?=some p→¬ p.id<n)→
 ∃ k,k≤l.length∧(∀ p,0<k→l[k-1]?=some p→p.id<n)∧(∀ p,l[k]?=some p→¬ p.id<n)∧Rl 1 1 192 0 49 1 (qFq l n i j) [(0,0,qal l)] (.exit 0) (qFq l n k k) [(0,0,qal l)]:=by
 intro d
 induction d with
 | zero=>
  intro i j hd h1 h2 hi hj
  have:i=j:=by omega
  subst i
  exact⟨j,h2,hi,hj,qmW (df (by omega))⟩
 | succ d ih=>
  intro i j hd h1 h2 hi hj
  by_cases hij:i<j
  ·obtain⟨p,hp⟩:=qah (l:=l) (k:=(i+j)/2) (by omega)
   obtain⟨c,hc,hc1,hc2⟩:=qzp p.id p.a p.b n
   have a1:iV (IntKind.i64.wrap ((i:Int)+(j:Int)))=iV ((i:Int)+(j:Int)):=by rw[qap (by omega) (by omega)]
   have a2:Value.int .u64 (IntKind.u64.wrap ((i:Int)+(j:Int)))=.int .u64 ((i:Int)+(j:Int)):=by rw[qff (by omega) (by omega)]
   have a3:Value.int .u64 (((i:Int)+(j:Int)).fdiv (2 ^ (min (1:Int).toNat IntKind.u64.bits)))=.int .u64 (((i+j)/2:Nat):Int):=by
    have:(2:Int) ^ (min (1:Int).toNat IntKind.u64.bits)=2:=rfl
    rw[this,Int.fdiv_eq_ediv_of_nonneg _ (by omega)]
    congr 1
   have a4:iV (IntKind.i64.wrap (((i+j)/2:Nat):Int))=iV (((i+j)/2:Nat):Int):=by rw[qap (by omega) (by omega)]
   by_cases hlt:p.id<n
   ·obtain⟨k,k1,k2,k3,r⟩:=ih ((i+j)/2+1) j (by omega) (by omega) h2 (fun q _ hq=>by
     rw[Nat.add_sub_cancel,hp] at hq
     cases hq
     exact hlt) hj
    exact⟨k,k1,k2,k3,qy1 (hk:=hp) (hin:=qan (qai hp)) (hlt:=dt (by omega)) (ha:=a1) (hu:=a2) (h1:=by omega) (hs:=a3) (hb:=a4) (hc:=hc) (hz:=dt (hc1.2 hlt)) (hh:=qau (by omega)) (r:=r)⟩
   ·obtain⟨k,k1,k2,k3,r⟩:=ih i ((i+j)/2) (by omega) (by omega) (by omega) hi (fun q hq=>by
     rw[hp] at hq
     cases hq
     exact hlt)
    exact⟨k,k1,k2,k3,qxN (hk:=hp) (hin:=qan (qai hp)) (hlt:=dt (by omega)) (ha:=a1) (hu:=a2) (h1:=by omega) (hs:=a3) (hb:=a4) (hc:=hc) (hz:=df fun h=>hlt (hc1.1 h)) (r:=r)⟩
  ·have:i=j:=by omega
   subst i
   exact⟨j,h2,hi,hj,qmW (df (by omega))⟩
theorem qoa {l:List Pt} (hn:l.length≤1000000) (n:Int):∃ (k:Nat) (w:Bool),k≤l.length∧(∀ p,0<k→l[k-1]?=some p→p.id<n)∧(∀ p,l[k]?=some p→¬ p.id<n)∧(w=true→∃ p,l[k]?=some p∧p.id=n)∧(w=false→∀ p,l[k]?=some p→p.id≠n)∧
 Fn 192 1 [.ls 0 l.length,.pv (iV n),.pv (.func (.func 193) #[] #[])] [(0,0,qal l)] (.pv (.tuple #[iV (k:Int),.bool w])) 0 []:=by
 obtain⟨k,k1,k2,k3,r⟩:=qrd hn (n:=n) l.length 0 l.length (by omega) (Nat.zero_le _) (Nat.le_refl _) (fun p h=>by omega) (fun p hp=>by have:=qai hp;omega)
 by_cases h:k<l.length
 ·obtain⟨p,hp⟩:=qah h
  obtain⟨c,hc,hc1,hc2⟩:=qzp p.id p.a p.b n
  by_cases e:p.id=n
  ·exact⟨k,true,k1,k2,k3,fun _=>⟨p,hp,e⟩,fun h=>by (cases h),qwt (r0:=r) (hk:=hp) (hin:=qan h) (hlt:=dt (by omega)) (hc:=hc) (hz:=by simpa using hc2.2 e)⟩
  ·exact⟨k,false,k1,k2,k3,fun h=>by (cases h),fun _ q hq=>by (rw[hp] at hq;cases hq;exact e),qxk (r0:=r) (hk:=hp) (hin:=qan h) (hlt:=dt (by omega)) (hc:=hc) (hz:=by simpa using fun h=>e (hc2.1 h))⟩
 ·exact⟨k,false,k1,k2,k3,fun h=>by (cases h),fun _ q hq=>by (have:=qai hq;omega),quD (r0:=r) (hge:=df (by omega))⟩
theorem qtr {l:List Pt} (hn:l.length≤1000000) (hu:Up l) {n:Int} {k:Nat} {p:Pt} (hk:l[k]?=some p) (he:p.id=n):Fn 192 1 [.ls 0 l.length,.pv (iV n),.pv (.func (.func 193) #[] #[])] [(0,0,qal l)] (.pv (.tuple #[iV (k:Int),.bool true])) 0 []:=by
 obtain⟨j,w,j1,j2,j3,j4,j5,r⟩:=qoa hn n
 have hlk:=qai hk
 have e:j=k:=by
  rcases Nat.lt_trichotomy j k with h | h | h
  ·obtain⟨q,hq⟩:=qah (l:=l) (k:=j) (by omega)
   have:=hu.mono h hq hk
   have:=j3 q hq
   omega
  ·exact h
  ·obtain⟨q,hq⟩:=qah (l:=l) (k:=j-1) (by omega)
   have a:=j2 q (by omega) hq
   rcases Nat.lt_or_ge k (j-1) with h' | h'
   ·have:=hu.mono h' hk hq
    omega
   ·have:j-1=k:=by omega
    rw[this,hk] at hq
    cases hq
    omega
 subst e
 cases w
 ·exact (j5 rfl p hk he).elim
 ·exact r
theorem qxJ (a pa pb n:Int):∃ c,Pure Tryz.prog 156 #[qab a pa pb,iV n] (iV c)∧(c<0↔a<n)∧(c=0↔a=n):=by
 rcases Int.lt_trichotomy a n with h | h | h
 ·exact⟨-1,qBs (by simp) (by simp) (dt h),⟨fun _=>h,fun _=>by omega⟩,⟨fun h=>by omega,fun h=>by omega⟩⟩
 ·exact⟨0,qzU (by simp) (by simp) (df (by omega)) (df (by omega)),⟨fun h=>by omega,fun h=>by omega⟩,⟨fun _=>h,fun _=>rfl⟩⟩
 ·exact⟨1,qw8 (by simp) (by simp) (df (by omega)) (dt (by omega)),⟨fun h=>by omega,fun h=>by omega⟩,⟨fun h=>by omega,fun h=>by omega⟩⟩
abbrev qFG (l:List Pt) (n:Int) (i j:Nat):List (Nat×SV):=[(0,.ls 0 l.length),(1,.pv (iV n)),(2,.pv (.func (.func 156) #[] #[])),(8,.pv (iV (l.length:Int))),(9,.pv (iV (i:Int))),(10,.pv (iV (j:Int)))]
theorem qp9 {l:List Pt} (hn:l.length≤1000000) {n:Int}:∀ (d i j:Nat),j-i≤d→i≤j→j≤l.length→(∀ p,0<i→l[i-1]?=some p→p.id<n)→(∀ p,l[j]?=some p→¬ p.id<n)→
 ∃ k,k≤l.length∧(∀ p,0<k→l[k-1]?=some p→p.id<n)∧(∀ p,l[k]?=some p→¬ p.id<n)∧Rl 1 1 155 0 49 1 (qFG l n i j) [(0,0,qaV l)] (.exit 0) (qFG l n k k) [(0,0,qaV l)]:=by
 intro d
 induction d with
 | zero=>
  intro i j hd h1 h2 hi hj
  have:i=j:=by omega
  subst i
  exact⟨j,h2,hi,hj,ql4 (df (by omega))⟩
 | succ d ih=>
  intro i j hd h1 h2 hi hj
  by_cases hij:i<j
  ·obtain⟨p,hp⟩:=qah (l:=l) (k:=(i+j)/2) (by omega)
   obtain⟨c,hc,hc1,hc2⟩:=qxJ p.id p.a p.b n
   have a1:iV (IntKind.i64.wrap ((i:Int)+(j:Int)))=iV ((i:Int)+(j:Int)):=by rw[qap (by omega) (by omega)]
   have a2:Value.int .u64 (IntKind.u64.wrap ((i:Int)+(j:Int)))=.int .u64 ((i:Int)+(j:Int)):=by rw[qff (by omega) (by omega)]
   have a3:Value.int .u64 (((i:Int)+(j:Int)).fdiv (2 ^ (min (1:Int).toNat IntKind.u64.bits)))=.int .u64 (((i+j)/2:Nat):Int):=by
    have:(2:Int) ^ (min (1:Int).toNat IntKind.u64.bits)=2:=rfl
    rw[this,Int.fdiv_eq_ediv_of_nonneg _ (by omega)]
    congr 1
   have a4:iV (IntKind.i64.wrap (((i+j)/2:Nat):Int))=iV (((i+j)/2:Nat):Int):=by rw[qap (by omega) (by omega)]
   by_cases hlt:p.id<n
   ·obtain⟨k,k1,k2,k3,r⟩:=ih ((i+j)/2+1) j (by omega) (by omega) h2 (fun q _ hq=>by
     rw[Nat.add_sub_cancel,hp] at hq
     cases hq
     exact hlt) hj
    exact⟨k,k1,k2,k3,qxz (hk:=hp) (hin:=qan (qai hp)) (hlt:=dt (by omega)) (ha:=a1) (hu:=a2) (h1:=by omega) (hs:=a3) (hb:=a4) (hc:=hc) (hz:=dt (hc1.2 hlt)) (hh:=qau (by omega)) (r:=r)⟩
   ·obtain⟨k,k1,k2,k3,r⟩:=ih i ((i+j)/2) (by omega) (by omega) (by omega) hi (fun q hq=>by
     rw[hp] at hq
     cases hq
     exact hlt)
    exact⟨k,k1,k2,k3,qxu (hk:=hp) (hin:=qan (qai hp)) (hlt:=dt (by omega)) (ha:=a1) (hu:=a2) (h1:=by omega) (hs:=a3) (hb:=a4) (hc:=hc) (hz:=df fun h=>hlt (hc1.1 h)) (r:=r)⟩
  ·have:i=j:=by omega
   subst i
   exact⟨j,h2,hi,hj,ql4 (df (by omega))⟩
theorem qoE {l:List Pt} (hn:l.length≤1000000) (n:Int):∃ (k:Nat) (w:Bool),k≤l.length∧(∀ p,0<k→l[k-1]?=some p→p.id<n)∧(∀ p,l[k]?=some p→¬ p.id<n)∧(w=true→∃ p,l[k]?=some p∧p.id=n)∧(w=false→∀ p,l[k]?=some p→p.id≠n)∧
 Fn 155 1 [.ls 0 l.length,.pv (iV n),.pv (.func (.func 156) #[] #[])] [(0,0,qaV l)] (.pv (.tuple #[iV (k:Int),.bool w])) 0 []:=by
 obtain⟨k,k1,k2,k3,r⟩:=qp9 hn (n:=n) l.length 0 l.length (by omega) (Nat.zero_le _) (Nat.le_refl _) (fun p h=>by omega) (fun p hp=>by have:=qai hp;omega)
 by_cases h:k<l.length
 ·obtain⟨p,hp⟩:=qah h
  obtain⟨c,hc,hc1,hc2⟩:=qxJ p.id p.a p.b n
  by_cases e:p.id=n
  ·exact⟨k,true,k1,k2,k3,fun _=>⟨p,hp,e⟩,fun h=>by (cases h),qwh (r0:=r) (hk:=hp) (hin:=qan h) (hlt:=dt (by omega)) (hc:=hc) (hz:=by simpa using hc2.2 e)⟩
  ·exact⟨k,false,k1,k2,k3,fun h=>by (cases h),fun _ q hq=>by (rw[hp] at hq;cases hq;exact e),qx9 (r0:=r) (hk:=hp) (hin:=qan h) (hlt:=dt (by omega)) (hc:=hc) (hz:=by simpa using fun h=>e (hc2.1 h))⟩
 ·exact⟨k,false,k1,k2,k3,fun h=>by (cases h),fun _ q hq=>by (have:=qai hq;omega),qtm (r0:=r) (hge:=df (by omega))⟩
theorem qtx {l:List Pt} (hn:l.length≤1000000) (hu:Up l) {n:Int} {k:Nat} {p:Pt} (hk:l[k]?=some p) (he:p.id=n):Fn 155 1 [.ls 0 l.length,.pv (iV n),.pv (.func (.func 156) #[] #[])] [(0,0,qaV l)] (.pv (.tuple #[iV (k:Int),.bool true])) 0 []:=by
 obtain⟨j,w,j1,j2,j3,j4,j5,r⟩:=qoE hn n
 have hlk:=qai hk
 have e:j=k:=by
  rcases Nat.lt_trichotomy j k with h | h | h
  ·obtain⟨q,hq⟩:=qah (l:=l) (k:=j) (by omega)
   have:=hu.mono h hq hk
   have:=j3 q hq
   omega
  ·exact h
  ·obtain⟨q,hq⟩:=qah (l:=l) (k:=j-1) (by omega)
   have a:=j2 q (by omega) hq
   rcases Nat.lt_or_ge k (j-1) with h' | h'
   ·have:=hu.mono h' hk hq
    omega
   ·have:j-1=k:=by omega
    rw[this,hk] at hq
    cases hq
    omega
 subst e
 cases w
 ·exact (j5 rfl p hk he).elim
 ·exact r
theorem qoR {l:List Pt} (hn:l.length≤1000000) (hu:Up l) {n:Int} (h:∀ p∈l,p.id≠n):∃ k,k≤l.length∧(∀ (t:Nat) (p:Pt),t<k→l[t]?=some p→p.id<n)∧(∀ (t:Nat) (p:Pt),k≤t→l[t]?=some p→n<p.id)∧
 Fn 155 1 [.ls 0 l.length,.pv (iV n),.pv (.func (.func 156) #[] #[])] [(0,0,qaV l)] (.pv (.tuple #[iV (k:Int),.bool false])) 0 []:=by
 obtain⟨j,w,j1,j2,j3,j4,_,r⟩:=qoE hn n
 cases w
 ·refine⟨j,j1,fun t p ht hp=>?_,fun t p ht hp=>?_,r⟩
  ·obtain⟨q,hq⟩:=qah (l:=l) (k:=j-1) (by omega)
   have a:=j2 q (by omega) hq
   rcases Nat.lt_or_ge t (j-1) with h' | h'
   ·have:=hu.mono h' hp hq;omega
   ·have:j-1=t:=by omega
    rw[this,hp] at hq
    cases hq
    exact a
  ·obtain⟨q,hq⟩:=qah (l:=l) (k:=j) (by have:=qai hp;omega)
   have a:=j3 q hq
   have b:=h q (List.mem_of_getElem? hq)
   rcases Nat.lt_or_ge j t with h' | h'
   ·have:=hu.mono h' hq hp;omega
   ·have:t=j:=by omega
    rw[this,hq] at hp
    cases hp
    omega
 ·obtain⟨p,hp,e⟩:=j4 rfl
  exact (h p (List.mem_of_getElem? hp) e).elim
end Go.Proofs.YtkjaanhddkkodaaGreat
