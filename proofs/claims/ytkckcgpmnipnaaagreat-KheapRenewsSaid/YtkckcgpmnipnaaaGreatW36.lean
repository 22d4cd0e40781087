/-
  Joined: Bb, Bc, Bd. Conditions: none.
-/
import Derived.Test.YtkckcgpmnipnaaaGreatW35
import Derived.Test.YtkckcgpmnipnaaaGreatW16
namespace Go.Proofs.YtkckcgpmnipnaaaGreat
set_option maxRecDepth 100000
open Go.RowKit
variable {n a pa pb z s1 s2 hi hw tn td e b:Int} {xs:List Value} {ad:Addr} {c o:Ck} {l l2:List Pt} {i j h k:Nat} {p q:Pt} {w:Bool}
abbrev qty (c:Ck):S1:=.ag [.pv (iV c.tn),.pv (iV c.td),.ls 0 c.s.length,.pv (iV c.x),.ls 1 c.l.length,.ls 2 c.u.length,.ls 3 c.b.length,.ls 4 c.fr.length,.ls 5 c.ev.length,.ls 6 c.wh.length,.ls 7 c.d.length]
abbrev qED (c o:Ck) (d:List Pt):SV:=.ag [.pv (iV c.tn),.pv (iV c.td),.ls 0 c.s.length,.pv (iV c.x),.ls 1 c.l.length,.ls 8 o.u.length,.ls 9 o.b.length,.ls 10 o.fr.length,.ls 11 o.ev.length,.ls 12 o.wh.length,.ls 13 d.length]
abbrev qhR (c o:Ck) (d:List Pt):S1:=.ag [.pv (iV c.tn),.pv (iV c.td),.ls 0 c.s.length,.pv (iV c.x),.ls 1 c.l.length,.ls 8 o.u.length,.ls 9 o.b.length,.ls 10 o.fr.length,.ls 11 o.ev.length,.ls 12 o.wh.length,.ls 13 d.length]
abbrev qvE (c o:Ck):S1:=.ag [.pv (iV c.tn),.pv (iV c.td),.ls 0 c.s.length,.pv (iV c.x),.ls 1 c.l.length,.ls 8 o.u.length,.ls 9 o.b.length,.ls 10 o.fr.length,.ls 11 o.ev.length,.ls 12 o.wh.length,.ls 7 c.d.length]
theorem qsy {n:Nat} (h0:0<n) (hn:0+n≤1000000) :
 Fn 142 1 [.ls 0 n] [(0,0,.row 171 3 n xs)] (.ls 1 n) 1 [(1,0,.row 171 3 n xs)]:=
 Fx [(1,2)] [.t false]
  (qs3 n) (Ai (qhn 171 3 n xs) tI) (A2 h0 hn tI)
theorem qHN {c:Nat} :
 Fn 142 0 [.pv (.slice (some ad) 0 c)] [] (.ls 0 0) 1 [(0,0,.row 171 3 0 [])]:=
 Fz [(0,1)] [.k]
  (qaG (qaM [(0,1)]) [(0,0,.row 171 3 0 [])]) (Ai (Nat.zero_le _:0+0≤1000000) tI)
theorem qu9 {c:Nat} :Pure Tryz.prog 142 #[.slice none 0 c] (.slice none 0 0):=
 qaJ (args:=[.slice none 0 c]) 200 [] (Ai rfl tI) (by kernel_rfl)
theorem qqB {n:Nat} (h0:0<n) (hn:0+n≤1000000) :
 Fn 144 1 [.ls 0 n] [(0,0,.row 134 3 n xs)] (.ls 1 n) 1 [(1,0,.row 134 3 n xs)]:=
 Fx [(1,2)] [.t false]
  (qs3 n) (Ai (qhn 134 3 n xs) tI) (A2 h0 hn tI)
theorem qFB {c:Nat} :
 Fn 144 0 [.pv (.slice (some ad) 0 c)] [] (.ls 0 0) 1 [(0,0,.row 134 3 0 [])]:=
 Fz [(0,1)] [.k]
  (qaG (qaM [(0,1)]) [(0,0,.row 134 3 0 [])]) (Ai (Nat.zero_le _:0+0≤1000000) tI)
theorem qyn {c:Nat} :Pure Tryz.prog 144 #[.slice none 0 c] (.slice none 0 0):=
 qaJ (args:=[.slice none 0 c]) 200 [] (Ai rfl tI) (by kernel_rfl)
theorem qoa (l:List Pt) (k:Nat) (q:Pt) (h:k≤l.length):0+k+1+(l.length-k)=(l.take k++q::l.drop k).length:=by rw[List.length_append,List.length_cons,List.length_take,List.length_drop];omega
theorem qEc (b:Nat) (l:List Pt) (k:Nat) (q:Pt) (h:k≤l.length):SV.ls b (0+k+1+(l.length-k))=(SV.ls 3 (l.take k++q::l.drop k).length).ren (qaM [(3,b)]):=by rw[qoa l k q h];rfl
theorem qqE (l:List Pt) (k:Nat) (q:Pt) (h:k≤l.length):some (SV.row 134 3 (0+k+1+(l.length-k)) ([]++((qbs l).drop (0*3)).take (k*3)++[iV q.id,iV q.a,iV q.b]++((qbs l).drop ((0+k)*3)).take ((l.length-k)*3)))=some (qaH (l.take k++q::l.drop k)):=by
 have h1:=qjE l k;have h2:=qjB l k;rw[Nat.zero_add] at h1;rw[h1,h2,qaH,qoa l k q h,qb5,List.nil_append,List.append_assoc];rfl
theorem ccf {s:List Pt} (h1:Fn 141 1 [.ls 0 s.length] [(0,0,qaf s)] (.ls 1 s.length) 1 [(1,0,qaf s)]) :
 Fn 103 1 [qaq 0 s] [(0,0,qaf s)] (.ag [.ls 1 s.length]) 1 [(1,0,qaf s)]:=
 Fz [(1,3)] [Cf h1 [0]]
  (qaG (qaM [(1,3)]) [(1,0,qaf s)]) (Co h1 [0] 3 tI)
abbrev qzv (c:Ck):HpL:=[(0,0,zrI c.u),(1,0,zrB c.b),(2,0,zrI c.fr),(3,0,qap c.ev),(4,0,zrI c.wh)]
theorem cca (c0:Fn 63 1 [.ls 0 c.u.length] [(0,0,zrI c.u)] (.ls 1 c.u.length) 1 [(1,0,zrI c.u)]) (c1:Fn 140 1 [.ls 0 c.b.length] [(0,0,zrB c.b)] (.ls 1 c.b.length) 1 [(1,0,zrB c.b)]) (c2:Fn 63 1 [.ls 0 c.fr.length] [(0,0,zrI c.fr)] (.ls 1 c.fr.length) 1 [(1,0,zrI c.fr)]) (c3:Fn 143 1 [.ls 0 c.ev.length] [(0,0,qap c.ev)] (.ls 1 c.ev.length) 1 [(1,0,qap c.ev)]) (c4:Fn 63 1 [.ls 0 c.wh.length] [(0,0,zrI c.wh)] (.ls 1 c.wh.length) 1 [(1,0,zrI c.wh)]) :
 Fn 193 5 [agA c.u c.b c.fr c.ev c.wh] (qzv c) (.ag [.ls 5 c.u.length,.ls 6 c.b.length,.ls 7 c.fr.length,.ls 8 c.ev.length,.ls 9 c.wh.length]) 5 (ye c):=
 Fz [(5,7),(6,8),(7,9),(8,11),(9,12)] [.md,Cf c0 [0],Cf c1 [1],Cf c2 [2],.md,Cf c3 [3],Cf c4 [4]]
  (qaG (qaM [(5,7),(6,8),(7,9),(8,11),(9,12)]) [(5,0,zrI c.u),(6,0,zrB c.b),(7,0,zrI c.fr),(8,0,qap c.ev),(9,0,zrI c.wh)]) (Co c0 [0] 7 (Co c1 [1] 8 (Co c2 [2] 9 (Co c3 [3] 11 (Co c4 [4] 12 tI)))))
theorem ccl (h1:Fn 103 1 [qaq 0 c.s] [(0,0,qaf c.s)] (.ag [.ls 1 c.s.length]) 1 [(1,0,qaf c.s)]) (h2:Fn 142 1 [.ls 0 c.l.length] [(0,0,qak c.l)] (.ls 1 c.l.length) 1 [(1,0,qak c.l)]) (h3:Fn 193 5 [agA c.u c.b c.fr c.ev c.wh] (qzv c) (.ag [.ls 5 c.u.length,.ls 6 c.b.length,.ls 7 c.fr.length,.ls 8 c.ev.length,.ls 9 c.wh.length]) 5 (ye c)) (h4:Fn 144 1 [.ls 0 c.d.length] [(0,0,qaH c.d)] (.ls 1 c.d.length) 1 [(1,0,qaH c.d)]) :
 Fn 131 8 [qar c] (qaA c) (qeS c) 8 (qcc c):=
 Fz [(8,10),(9,11),(10,12),(11,13),(12,14),(13,15),(14,16),(15,17)] [.md,Cf h1 [0],Cf h2 [1],Cf h3 [2,3,4,5,6],Cf h4 [7]]
  (qaG (qaM [(8,10),(9,11),(10,12),(11,13),(12,14),(13,15),(14,16),(15,17)]) (qcc c)) (Co h1 [0] 10 (Co h2 [1] 11 (Co h3 [2,3,4,5,6] 12 (Co h4 [7] 17 tI))))
theorem qAD (n1:(!(a==a))=false) (n2:(!(n==n))=false) (h1:decide (a<n)=true) :
 Pure Tryz.prog 268 #[qac a pa pb,iV n] (iV (-1)):=
 qad (args:=[qac a pa pb,iV n]) 300 [.k,.k,.t false,.k,.t false,.t true]
  (A4 rfl n1 n2 h1 tI) (by kernel_rfl)
theorem qBt (n1:(!(a==a))=false) (n2:(!(n==n))=false) (h1:decide (a<n)=false) (h2:decide (a>n)=true) :
 Pure Tryz.prog 268 #[qac a pa pb,iV n] (iV (1)):=
 qad (args:=[qac a pa pb,iV n]) 300 [.k,.k,.t false,.k,.t false,.t false,.t true]
  (A5 rfl n1 n2 h1 h2 tI) (by kernel_rfl)
theorem qBm (n1:(!(a==a))=false) (n2:(!(n==n))=false) (h1:decide (a<n)=false) (h2:decide (a>n)=false) :
 Pure Tryz.prog 268 #[qac a pa pb,iV n] (iV (0)):=
 qad (args:=[qac a pa pb,iV n]) 300 [.k,.k,.t false,.k,.t false,.t false,.t false]
  (A5 rfl n1 n2 h1 h2 tI) (by kernel_rfl)
abbrev qEp (i:Nat) (j:Nat) (l:List Pt) (n:Int):TmL:=[(0,.ls 0 l.length),(1,.pv (iV n)),(2,.pv (.func (.func 268) #[] #[])),(8,.pv (iV (l.length:Int))),(9,.pv (iV (i:Int))),(10,.pv (iV (j:Int)))]
abbrev qEt (c:Int) (n:Int) (p:Pt):Prop:=Pure Tryz.prog 268 #[qac p.id p.a p.b,iV n] (iV (c))
theorem qAJ {c:Int} (hk:l[h]?=some p) (hin:Bd h l.length) (hlt:Dt ((i:Int)<(j:Int))) (ha:iV (IntKind.i64.wrap ((i:Int)+(j:Int)))=iV ((i:Int)+(j:Int))) (hu:Value.int .u64 (IntKind.u64.wrap ((i:Int)+(j:Int)))=.int .u64 ((i:Int)+(j:Int))) (h1:¬ (1:Int)<0) (hs:Value.int .u64 (((i:Int)+(j:Int)).fdiv (2 ^ (min (1:Int).toNat IntKind.u64.bits)))=.int .u64 (h:Int)) (hb:iV (IntKind.i64.wrap (h:Int))=iV (h:Int)) (hc:qEt c n p) (hz:Dt (c<0)) (hh:iV (IntKind.i64.wrap ((h:Int)+1))=iV (((h+1:Nat):Int))) {e:Exit} {tm2:TmL} {hp2:HpL}
 (r:Rl 1 1 267 0 49 1 ([(0,.ls 0 l.length),(1,.pv (iV n)),(2,.pv (.func (.func 268) #[] #[])),(8,.pv (iV (l.length:Int))),(9,.pv (iV ((h+1:Nat):Int))),(10,.pv (iV (j:Int)))]) ([(0,0,qaH l)]) e tm2 hp2):Rl 1 1 267 0 49 1 (qEp i j l n) ([(0,0,qaH l)]) e tm2 hp2:=
 RunsL.next [] 300 [.t true,Re ha,Re hu,.r (.int .u64 (h:Int)),Re hb,.r (ptV p),Rf hc,.t true,Re hh]
  (Ro (A9 hlt ha hu h1 hs hb hin (qaB hk) hc (A2 hz hh tI))) r
theorem qCc {c:Int} (hk:l[h]?=some p) (hin:Bd h l.length) (hlt:Dt ((i:Int)<(j:Int))) (ha:iV (IntKind.i64.wrap ((i:Int)+(j:Int)))=iV ((i:Int)+(j:Int))) (hu:Value.int .u64 (IntKind.u64.wrap ((i:Int)+(j:Int)))=.int .u64 ((i:Int)+(j:Int))) (h1:¬ (1:Int)<0) (hs:Value.int .u64 (((i:Int)+(j:Int)).fdiv (2 ^ (min (1:Int).toNat IntKind.u64.bits)))=.int .u64 (h:Int)) (hb:iV (IntKind.i64.wrap (h:Int))=iV (h:Int)) (hc:qEt c n p) (hz:Df (c<0)) {e:Exit} {tm2:TmL} {hp2:HpL}
 (r:Rl 1 1 267 0 49 1 ([(0,.ls 0 l.length),(1,.pv (iV n)),(2,.pv (.func (.func 268) #[] #[])),(8,.pv (iV (l.length:Int))),(9,.pv (iV (i:Int))),(10,.pv (iV (h:Int)))]) ([(0,0,qaH l)]) e tm2 hp2):Rl 1 1 267 0 49 1 (qEp i j l n) ([(0,0,qaH l)]) e tm2 hp2:=
 RunsL.next [] 300 [.t true,Re ha,Re hu,.r (.int .u64 (h:Int)),Re hb,.r (ptV p),Rf hc,.t false]
  (Ro (A9 hlt ha hu h1 hs hb hin (qaB hk) hc (Ai hz tI))) r
theorem qpo (hge:decide ((i:Int)<(j:Int))=false):Rl 1 1 267 0 49 1 (qEp i j l n) ([(0,0,qaH l)]) (.exit 0) (qEp i j l n) ([(0,0,qaH l)]):=
 RunsL.stop [] 300 [.t false] (fun h=>by cases h)
  (Ro (Ai hge tI))
abbrev qIk (k:Nat) (l:List Pt) (n:Int):Prop:=Rl 1 1 267 0 49 1 ([(0,.ls 0 l.length),(1,.pv (iV n)),(2,.pv (.func (.func 268) #[] #[])),(8,.pv (iV (l.length:Int))),(9,.pv (iV ((0:Nat):Int))),(10,.pv (iV (l.length:Int)))]) ([(0,0,qaH l)]) (.exit 0) ([(0,.ls 0 l.length),(1,.pv (iV n)),(2,.pv (.func (.func 268) #[] #[])),(8,.pv (iV (l.length:Int))),(9,.pv (iV (k:Int))),(10,.pv (iV (k:Int)))]) ([(0,0,qaH l)])
theorem qyi (r0:qIk k l n) (hge:Df ((k:Int)<(l.length:Int))) :
 Fn 267 1 [.ls 0 l.length,.pv (iV (n)),.pv (.func (.func 268) #[] #[])] [(0,0,qaH l)] (.pv (.tuple #[iV (k:Int),.bool false])) 0 []:=
 Fz [] [Lf r0,.t false]
  tI (Lo r0 [] (Ai hge tI))
theorem qxt {c:Int} (r0:qIk k l n) (hk:l[k]?=some p) (hin:0≤(k:Int)∧(k:Int)<(l.length:Int)) (hlt:decide ((k:Int)<(l.length:Int))=true) (hc:qEt c n p) (hz:(c==0)=true) :
 Fn 267 1 [.ls 0 l.length,.pv (iV (n)),.pv (.func (.func 268) #[] #[])] [(0,0,qaH l)] (.pv (.tuple #[iV (k:Int),.bool true])) 0 []:=
 Fz [] [Lf r0,.t true,.r (ptV p),Rf hc,.t true]
  tI (Lo r0 [] (A5 hlt hin (qaB hk) hc hz tI))
theorem qCM {c:Int} (r0:qIk k l n) (hk:l[k]?=some p) (hin:0≤(k:Int)∧(k:Int)<(l.length:Int)) (hlt:decide ((k:Int)<(l.length:Int))=true) (hc:qEt c n p) (hz:(c==0)=false) :
 Fn 267 1 [.ls 0 l.length,.pv (iV (n)),.pv (.func (.func 268) #[] #[])] [(0,0,qaH l)] (.pv (.tuple #[iV (k:Int),.bool false])) 0 []:=
 Fz [] [Lf r0,.t true,.r (ptV p),Rf hc,.t false]
  tI (Lo r0 [] (A5 hlt hin (qaB hk) hc hz tI))
theorem cfd (hb:Fn 267 1 [.ls 0 l.length,.pv (iV (n)),.pv (.func (.func 268) #[] #[])] [(0,0,qaH l)] (.pv (.tuple #[iV (k:Int),.bool w])) 0 []) :
 Fn 217 1 [.ls 0 l.length,.pv (iV (n))] [(0,0,qaH l)] (.pv (.tuple #[iV (k:Int),.bool w])) 0 []:=
 Fz [] [Cf hb [0]]
  tI (Co hb [0] 1 tI)
theorem qFS (h0:decide (z<0)=false) (hs:iV (IntKind.i64.wrap (z-0))=iV (z)) (hg:decide (z>0)=false) :
 Fn 302 0 [.pv (.slice none 0 0),.pv (iV (z))] [] (.pv (.slice none 0 0)) 0 []:=
 Fz [] [.t false,.k,Re hs,.t false]
  tI (A3 h0 hs hg tI)
theorem qAr (h0:decide (z<0)=false) (hs:iV (IntKind.i64.wrap (z-0))=iV (z)) (hg:decide (z>0)=true) (a0:0≤z) (a1:z≤1000000) :
 Fn 302 0 [.pv (.slice none 0 0),.pv (iV (z))] [] (.ls 0 0) 1 [(0,0,qaH ([]:List Pt))]:=
 Fz [(0,1)] [.t false,.k,Re hs,.t true,.w []]
  (qaG (qaM [(0,1)]) [(0,0,qaH ([]:List Pt))]) (A7 h0 hs hg a0 a1 (Int.le_refl (0:Int)) (Nat.zero_le z.toNat) tI)
theorem qDu (q1:iV (IntKind.i64.wrap ((0:Int)+((k:Nat):Int)))=iV (s1)) (n1:Df (s1<0)) (q2:iV (IntKind.i64.wrap (s1+((l.length-(k+1):Nat):Int)))=iV (s2)) (n2:Df (s2<0)) (hgr:Fn 302 0 [.pv (.slice none 0 0),.pv (iV (s2))] [] (.ls 0 0) 1 [(0,0,qaH ([]:List Pt))]) (a1:0+k≤1000000) (a2:0+k+(l.length-(k+1))≤1000000) (hkl1:k+1≤l.length) :
 Fn 242 2 [.ps 1 0 2 2] [(1,0,.lq 0 3 0 k),(1,1,.lq 0 3 (0+(k+1)) (l.length-(k+1))),(0,0,qaH l)] (.ls 2 (l.take k++l.drop (k+1)).length) 1 [(2,0,qaH (l.take k++l.drop (k+1)))]:=
 Fx [(2,4)] [.k,.r (iV (s1)),.t false,.k,.k,.r (iV (s2)),.t false,.k,.k,Cf hgr [],.k,.k,.k,.k,.k]
  (qks 4 l k hkl1) (Ai (qhp l k hkl1) tI) (A4 q1 n1 q2 n2 (Co hgr [] 2 (A2 a1 a2 tI)))
theorem qz2 (q1:iV (IntKind.i64.wrap ((0:Int)+((k:Nat):Int)))=iV (s1)) (n1:Df (s1<0)) (q2:iV (IntKind.i64.wrap (s1+((l.length-(k+1):Nat):Int)))=iV (s2)) (n2:Df (s2<0)) (hgr:Fn 302 0 [.pv (.slice none 0 0),.pv (iV (s2))] [] (.pv (.slice none 0 0)) 0 []) (a1:0+k≤1000000) (a2:0+k+(l.length-(k+1))≤1000000) (hkl1:k+1≤l.length) :
 Fn 242 2 [.ps 1 0 2 2] [(1,0,.lq 0 3 0 k),(1,1,.lq 0 3 (0+(k+1)) (l.length-(k+1))),(0,0,qaH l)] (.ls 2 (l.take k++l.drop (k+1)).length) 1 [(2,0,qaH (l.take k++l.drop (k+1)))]:=
 Fx [(2,3)] [.k,.r (iV (s1)),.t false,.k,.k,.r (iV (s2)),.t false,.k,.k,Cf hgr [],.k,.k,.k,.k,.k]
  (qks 3 l k hkl1) (Ai (qhp l k hkl1) tI) (A4 q1 n1 q2 n2 (Co hgr [] 2 (A2 a1 a2 tI)))
theorem qJU {s3:Int} (q1:iV (IntKind.i64.wrap ((0:Int)+((k:Nat):Int)))=iV (s1)) (n1:Df (s1<0)) (q2:iV (IntKind.i64.wrap (s1+((1:Nat):Int)))=iV (s2)) (n2:Df (s2<0)) (q3:iV (IntKind.i64.wrap (s2+((l.length-k:Nat):Int)))=iV (s3)) (n3:Df (s3<0)) (hgr:Fn 302 0 [.pv (.slice none 0 0),.pv (iV (s3))] [] (.ls 0 0) 1 [(0,0,qaH ([]:List Pt))]) (a1:0+k≤1000000) (a2:0+k+1≤1000000) (a3:0+k+1+(l.length-k)≤1000000) (hkl:k≤l.length) :
 Fn 242 3 [.ps 2 0 3 3] [(2,0,.lq 0 3 0 k),(2,1,.ps 1 0 1 1),(2,2,.lq 0 3 (0+k) (l.length-k)),(1,0,.pv (iV n)),(1,1,.pv (iV hi)),(1,2,.pv (iV hw)),(0,0,qaH l)] (.ls 3 (l.take k++(Pt.mk n hi hw)::l.drop k).length) 1 [(3,0,qaH (l.take k++(Pt.mk n hi hw)::l.drop k))]:=
 Fx [(3,6)] [.k,.r (iV (s1)),.t false,.k,.k,.r (iV (s2)),.t false,.k,.k,.r (iV (s3)),.t false,.k,.k,Cf hgr [],.k,.k,.k,.k,.k,.k,.k]
  (qEc 6 l k (Pt.mk n hi hw) hkl) (Ai (qqE l k (Pt.mk n hi hw) hkl) tI) (A6 q1 n1 q2 n2 q3 n3 (Co hgr [] 3 (A3 a1 a2 a3 tI)))
theorem qHD (hfd:Fn 217 1 [.ls 0 c.d.length,.pv (iV (n))] [(0,0,qaH c.d)] (.pv (.tuple #[iV (k:Int),.bool false])) 0 []) :
 Fn 192 8 [qar c,.pv (iV (n))] (qaA c) (qar c) 0 []:=
 Fz [] [Cf hfd [7],.k]
  tI (Co hfd [7] 10 tI)
abbrev qH3 (o:Ck):HpL:=[(5,0,zrI o.u),(6,0,zrB o.b),(7,0,zrI o.fr),(8,0,qap o.ev),(9,0,zrI o.wh)]
theorem qBR {y:Ev} (hfd:Fn 217 1 [.ls 0 c.d.length,.pv (iV (n))] [(0,0,qaH c.d)] (.pv (.tuple #[iV (k:Int),.bool true])) 0 []) (hq:c.d[k]?=some q) (hiq:Bd k c.d.length) (hr:Fn 241 5 [agA c.u c.b c.fr c.ev c.wh,.pv (qaK q.a q.b)] (qzv c) (.tu [.ag [.ls 5 o.u.length,.ls 6 o.b.length,.ls 7 o.fr.length,.ls 8 o.ev.length,.ls 9 o.wh.length],.one (.pv (qaa y)),.one (.pv (iV 0))]) 5 (qH3 o)) (hkl:k≤c.d.length) (hkl1:k+1≤c.d.length) (hk1:iV (IntKind.i64.wrap ((k:Int)+1))=iV (((k+1:Nat):Int))) (hcut:Fn 242 2 [.ps 1 0 2 2] [(1,0,.lq 0 3 0 k),(1,1,.lq 0 3 (0+(k+1)) (c.d.length-(k+1))),(0,0,qaH c.d)] (.ls 2 (c.d.take k++c.d.drop (k+1)).length) 1 [(2,0,qaH (c.d.take k++c.d.drop (k+1)))]) :
 Fn 192 8 [qar c,.pv (iV (n))] (qaA c) (qED c o (c.d.take k++c.d.drop (k+1))) 6 [(8,0,zrI o.u),(9,0,zrB o.b),(10,0,zrI o.fr),(11,0,qap o.ev),(12,0,zrI o.wh),(13,0,qaH (c.d.take k++c.d.drop (k+1)))]:=
 Fz [(8,10),(9,11),(10,12),(11,13),(12,14),(13,16)] [Cf hfd [7],.k,.md,.r (qaK q.a q.b),Cf hr [2,3,4,5,6],.md,.k,Re hk1,.k,Cf hcut [7,15]]
  (qaG (qaM [(8,10),(9,11),(10,12),(11,13),(12,14),(13,16)]) [(8,0,zrI o.u),(9,0,zrB o.b),(10,0,zrI o.fr),(11,0,qap o.ev),(12,0,zrI o.wh),(13,0,qaH (c.d.take k++c.d.drop (k+1)))]) (Co hfd [7] 10 (A2 hiq (qcI hq) (Co hr [2,3,4,5,6] 10 (A9 tI (Int.natCast_nonneg k) (Nat.zero_le k) hkl hk1 (Int.natCast_nonneg (k+1)) tI hkl1 (Nat.le_refl c.d.length) (Co hcut [7,15] 16 tI)))))
theorem qCS (hp:Fn 272 5 [agA c.u c.b c.fr c.ev c.wh,.pv (qab tn td),.pv (iV (n))] (qzv c) (.pv (.tuple #[.agg #[.slice none 0 0,.slice none 0 0,.slice none 0 0,.slice none 0 0,.slice none 0 0],qaK 0 0,iV e])) 0 []) (he:(e !=0)=true) :
 Fn 219 8 [qar c,.pv (qab tn td),.pv (iV (n))] (qaA c) (.pv (.tuple #[qbt,iV e])) 0 []:=
 Fz [] [Cf hp [2,3,4,5,6],.t true]
  tI (Co hp [2,3,4,5,6] 11 (Ai he tI))
theorem qGf (hp:Fn 272 5 [agA c.u c.b c.fr c.ev c.wh,.pv (qab tn td),.pv (iV (n))] (qzv c) (.tu [.ag [.ls 5 o.u.length,.ls 6 o.b.length,.ls 7 o.fr.length,.ls 8 o.ev.length,.ls 9 o.wh.length],.one (.pv (qaK hi hw)),.one (.pv (iV 0))]) 5 (qH3 o)) (hfd:Fn 217 1 [.ls 0 c.d.length,.pv (iV (n))] [(0,0,qaH c.d)] (.pv (.tuple #[iV (k:Int),.bool false])) 0 []) (hkl:k≤c.d.length) (hins:Fn 242 3 [.ps 2 0 3 3] [(2,0,.lq 0 3 0 k),(2,1,.ps 1 0 1 1),(2,2,.lq 0 3 (0+k) (c.d.length-k)),(1,0,.pv (iV n)),(1,1,.pv (iV hi)),(1,2,.pv (iV hw)),(0,0,qaH c.d)] (.ls 3 (c.d.take k++(Pt.mk n hi hw)::c.d.drop k).length) 1 [(3,0,qaH (c.d.take k++(Pt.mk n hi hw)::c.d.drop k))]) :
 Fn 219 8 [qar c,.pv (qab tn td),.pv (iV (n))] (qaA c) (.tu [qhR c o (c.d.take k++(Pt.mk n hi hw)::c.d.drop k),.one (.pv (iV 0))]) 6 [(8,0,zrI o.u),(9,0,zrB o.b),(10,0,zrI o.fr),(11,0,qap o.ev),(12,0,zrI o.wh),(13,0,qaH (c.d.take k++(Pt.mk n hi hw)::c.d.drop k))]:=
 Fz [(8,11),(9,12),(10,13),(11,14),(12,15),(13,20)] [Cf hp [2,3,4,5,6],.k,Cf hfd [7],.md,.k,.k,Cf hins [7,18,19]]
  (qaG (qaM [(8,11),(9,12),(10,13),(11,14),(12,15),(13,20)]) [(8,0,zrI o.u),(9,0,zrB o.b),(10,0,zrI o.fr),(11,0,qap o.ev),(12,0,zrI o.wh),(13,0,qaH (c.d.take k++(Pt.mk n hi hw)::c.d.drop k))]) (Co hp [2,3,4,5,6] 11 (Co hfd [7] 18 (A8 tI (Int.natCast_nonneg k) (Nat.zero_le k) hkl (Int.natCast_nonneg k) tI hkl (Nat.le_refl c.d.length) (Co hins [7,18,19] 20 tI))))
abbrev qHi (c:Ck) (p:Pt) (td:Int) (tn:Int):Prop:=Fn 216 8 [qar c,.pv (qae p.a p.b)] (qaA c) (.pv (.tuple #[qab tn td,.bool true])) 0 []
theorem qEg (hf:qHi c p td tn) (hfd:Fn 217 1 [.ls 0 c.d.length,.pv (iV (p.id))] [(0,0,qaH c.d)] (.pv (.tuple #[iV (k:Int),.bool true])) 0 []) (hq:c.d[k]?=some q) (hiq:Bd k c.d.length) (hr:Fn 218 5 [agA c.u c.b c.fr c.ev c.wh,.pv (qaK q.a q.b),.pv (qab tn td)] (qzv c) (.tu [.ag [.ls 5 o.u.length,.ls 6 o.b.length,.ls 7 o.fr.length,.ls 8 o.ev.length,.ls 9 o.wh.length],.one (.pv (iV 0))]) 5 (qH3 o)) :
 Fn 174 8 [qar c,.pv (ptV p)] (qaA c) (.tu [qvE c o,.one (.pv (iV 0))]) 5 [(8,0,zrI o.u),(9,0,zrB o.b),(10,0,zrI o.fr),(11,0,qap o.ev),(12,0,zrI o.wh)]:=
 Fz [(8,12),(9,13),(10,14),(11,15),(12,16)] [Cf hf [0,1,2,3,4,5,6,7],Cf hfd [7],.md,.r (qaK q.a q.b),Cf hr [2,3,4,5,6]]
  (qaG (qaM [(8,12),(9,13),(10,14),(11,15),(12,16)]) [(8,0,zrI o.u),(9,0,zrB o.b),(10,0,zrI o.fr),(11,0,qap o.ev),(12,0,zrI o.wh)]) (Co hf [0,1,2,3,4,5,6,7] 11 (Co hfd [7] 12 (A2 hiq (qcI hq) (Co hr [2,3,4,5,6] 12 tI))))
abbrev qzt (l2:List Pt) (o:Ck):HpL:=[(8,0,zrI o.u),(9,0,zrB o.b),(10,0,zrI o.fr),(11,0,qap o.ev),(12,0,zrI o.wh),(13,0,qaH l2)]
theorem qw7 (hf:qHi c p td tn) (hfd:Fn 217 1 [.ls 0 c.d.length,.pv (iV (p.id))] [(0,0,qaH c.d)] (.pv (.tuple #[iV (k:Int),.bool false])) 0 []) (hp:Fn 219 8 [qar c,.pv (qab tn td),.pv (iV (p.id))] (qaA c) (.tu [qhR c o l2,.one (.pv (iV 0))]) 6 (qzt l2 o)) :
 Fn 174 8 [qar c,.pv (ptV p)] (qaA c) (.tu [qhR c o l2,.one (.pv (iV 0))]) 6 (qzt l2 o):=
 Fz [(8,12),(9,13),(10,14),(11,15),(12,16),(13,17)] [Cf hf [0,1,2,3,4,5,6,7],Cf hfd [7],Cf hp [0,1,2,3,4,5,6,7]]
  (qaG (qaM [(8,12),(9,13),(10,14),(11,15),(12,16),(13,17)]) (qzt l2 o)) (Co hf [0,1,2,3,4,5,6,7] 11 (Co hfd [7] 12 (Co hp [0,1,2,3,4,5,6,7] 12 tI)))
theorem qwX (hf:qHi c p td tn) (hfd:Fn 217 1 [.ls 0 c.d.length,.pv (iV (p.id))] [(0,0,qaH c.d)] (.pv (.tuple #[iV (k:Int),.bool false])) 0 []) (hp:Fn 219 8 [qar c,.pv (qab tn td),.pv (iV (p.id))] (qaA c) (.pv (.tuple #[qbt,iV e])) 0 []) :
 Fn 174 8 [qar c,.pv (ptV p)] (qaA c) (.pv (.tuple #[qbt,iV e])) 0 []:=
 Fz [] [Cf hf [0,1,2,3,4,5,6,7],Cf hfd [7],Cf hp [0,1,2,3,4,5,6,7]]
  tI (Co hf [0,1,2,3,4,5,6,7] 11 (Co hfd [7] 12 (Co hp [0,1,2,3,4,5,6,7] 12 tI)))
theorem qvg (hf:yr c p tn td) (hfd:Fn 217 1 [.ls 0 c.d.length,.pv (iV (p.id))] [(0,0,qaH c.d)] (.pv (.tuple #[iV (k:Int),.bool w])) 0 []) (hel:Fn 192 8 [qar c,.pv (iV (p.id))] (qaA c) (qED c o l2) 6 (qzt l2 o)) :
 Fn 174 8 [qar c,.pv (ptV p)] (qaA c) (.tu [qhR c o l2,.one (.pv (iV 0))]) 6 (qzt l2 o):=
 Fz [(8,12),(9,13),(10,14),(11,15),(12,16),(13,17)] [Cf hf [0,1,2,3,4,5,6,7],Cf hfd [7],Cf hel [0,1,2,3,4,5,6,7]]
  (qaG (qaM [(8,12),(9,13),(10,14),(11,15),(12,16),(13,17)]) (qzt l2 o)) (Co hf [0,1,2,3,4,5,6,7] 11 (Co hfd [7] 12 (Co hel [0,1,2,3,4,5,6,7] 12 tI)))
theorem quJ (hf:yr c p tn td) (hfd:Fn 217 1 [.ls 0 c.d.length,.pv (iV (p.id))] [(0,0,qaH c.d)] (.pv (.tuple #[iV (k:Int),.bool w])) 0 []) (hel:Fn 192 8 [qar c,.pv (iV (p.id))] (qaA c) (qar c) 0 []) :
 Fn 174 8 [qar c,.pv (ptV p)] (qaA c) (.tu [qty c,.one (.pv (iV 0))]) 0 []:=
 Fz [] [Cf hf [0,1,2,3,4,5,6,7],Cf hfd [7],Cf hel [0,1,2,3,4,5,6,7]]
  tI (Co hf [0,1,2,3,4,5,6,7] 11 (Co hfd [7] 12 (Co hel [0,1,2,3,4,5,6,7] 12 tI)))
theorem qCb (hrm:Fn 191 1 [qaU 0 c.x c.l,.pv (iV (n))] [(0,0,qak c.l)] (.pv (.tuple #[.agg #[iV 0,.slice none 0 0],qae 0 0,iV e])) 0 []) (he:(e !=0)=true) :
 Fn 129 8 [qar c,.pv (iV (n))] (qaA c) (.pv (.tuple #[qbt,qae 0 0,iV e])) 0 []:=
 Fz [] [Cf hrm [1],.t true]
  tI (Co hrm [1] 11 (Ai he tI))
abbrev qIY (a:Int) (b:Int) (c:Ck) (l2:List Pt) (n:Int):Prop:=Fn 191 1 [qaU 0 c.x c.l,.pv (iV (n))] [(0,0,qak c.l)] (.tu [.ag [.pv (iV c.x),.ls 1 l2.length],.one (.pv (qae a b)),.one (.pv (iV 0))]) 1 [(1,0,qak l2)]
theorem qGg (hrm:qIY a b c l2 n) (hcl:Fn 131 8 [qar c] (qaA c) (qeS c) 8 (qcc c)) (hel:Fn 192 8 [qar c,.pv (iV (n))] (qaA c) (qar c) 0 []) :
 Fn 129 8 [qar c,.pv (iV (n))] (qaA c) (.tu [qiJ { c with l:=l2 },.one (.pv (qae a b)),.one (.pv (iV 0))]) 8 (qcc ({ c with l:=l2 }:Ck)):=
 Fz [(8,14),(9,11),(10,16),(11,17),(12,18),(13,19),(14,20),(15,21)] [Cf hrm [1],.k,Cf hcl [0,1,2,3,4,5,6,7],Cf hel [14,15,16,17,18,19,20,21]]
  (qaG (qaM [(8,14),(9,11),(10,16),(11,17),(12,18),(13,19),(14,20),(15,21)]) (qcc ({ c with l:=l2 }:Ck))) (Co hrm [1] 11 (Co hcl [0,1,2,3,4,5,6,7] 14 (Co hel [14,15,16,17,18,19,20,21] 22 tI)))
theorem qCW (hrm:qIY a b c l2 n) (hcl:Fn 131 8 [qar c] (qaA c) (qeS c) 8 (qcc c)) (hel:Fn 192 8 [qar c,.pv (iV (n))] (qaA c) (qED c o l) 6 (ym o l)) :
 Fn 129 8 [qar c,.pv (iV (n))] (qaA c) (.tu [qiJ { c with l:=l2,u:=o.u,b:=o.b,fr:=o.fr,ev:=o.ev,wh:=o.wh,d:=l },.one (.pv (qae a b)),.one (.pv (iV 0))]) 8 (qcc ({ c with l:=l2,u:=o.u,b:=o.b,fr:=o.fr,ev:=o.ev,wh:=o.wh,d:=l }:Ck)):=
 Fz [(8,14),(9,11),(10,22),(11,23),(12,24),(13,25),(14,26),(15,27)] [Cf hrm [1],.k,Cf hcl [0,1,2,3,4,5,6,7],Cf hel [14,15,16,17,18,19,20,21]]
  (qaG (qaM [(8,14),(9,11),(10,22),(11,23),(12,24),(13,25),(14,26),(15,27)]) (qcc ({ c with l:=l2,u:=o.u,b:=o.b,fr:=o.fr,ev:=o.ev,wh:=o.wh,d:=l }:Ck))) (Co hrm [1] 11 (Co hcl [0,1,2,3,4,5,6,7] 14 (Co hel [14,15,16,17,18,19,20,21] 22 tI)))
end Go.Proofs.YtkckcgpmnipnaaaGreat

namespace Go.Proofs.YtkckcgpmnipnaaaGreat
set_option maxRecDepth 100000
open Go.RowKit
variable {s l2:List Pt} {a b n x2 e1 e2 e e3:Int} {c o r9:Ck} {p:Pt} {k:Nat}
abbrev qxo:Prop:=Fn 104 0 [] [] (.ag [.pv (iV 0),.ls 0 0]) 1 [(0,0,qak [])]
theorem qwP (hn:qxo) (had:Fn 176 1 [qaU 0 0 ([]:List Pt),.pv (qae a b)] [(0,0,qak [])] (.pv (.tuple #[.agg #[iV 0,.slice none 0 0],iV 0,iV 8])) 0 []) :
 Fn 175 1 [qaq 0 s,.pv (qae a b)] [(0,0,qaf s)] (.pv (iV (8))) 0 []:=
 Fz [] [.md,Cf hn [],Cf had [3],.k]
  tI (Co hn [] 3 (Co had [3] 4 tI))
abbrev qD9 (a:Int) (b:Int) (l2:List Pt) (n:Int) (x2:Int):Prop:=Fn 176 1 [qaU 0 0 ([]:List Pt),.pv (qae a b)] [(0,0,qak [])] (.tu [.ag [.pv (iV x2),.ls 1 l2.length],.one (.pv (iV n)),.one (.pv (iV 0))]) 1 [(1,0,qak l2)]
theorem qB6 (hn:qxo) (had:qD9 a b l2 n x2) (hb:Fn 215 1 [qaq 0 s,.pv (qae a b)] [(0,0,qaf s)] (.pv (.bool true)) 0 []) :
 Fn 175 1 [qaq 0 s,.pv (qae a b)] [(0,0,qaf s)] (.pv (iV (0))) 0 []:=
 Fz [] [.md,Cf hn [],Cf had [3],.k,Cf hb [0],.k]
  tI (Co hn [] 3 (Co had [3] 4 (Co hb [0] 6 tI)))
theorem qrS (hn:qxo) (had:qD9 a b l2 n x2) (hb:Fn 215 1 [qaq 0 s,.pv (qae a b)] [(0,0,qaf s)] (.pv (.bool false)) 0 []) :
 Fn 175 1 [qaq 0 s,.pv (qae a b)] [(0,0,qaf s)] (.pv (iV (6))) 0 []:=
 Fz [] [.md,Cf hn [],Cf had [3],.k,Cf hb [0],.k]
  tI (Co hn [] 3 (Co had [3] 4 (Co hb [0] 6 tI)))
theorem qCh (h1:Fn 57 8 [qar c] (qaA c) (.pv (iV (e1))) 0 []) (h2:Fn 175 1 [qaq 0 c.s,.pv (qae a b)] [(0,0,qaf c.s)] (.pv (iV (e2))) 0 []) (he:(e1 !=0)=true) :
 Fn 111 8 [qar c,.pv (qae a b)] (qaA c) (.pv (.tuple #[qbt,iV 0,iV e1])) 0 []:=
 Fz [] [Cf h1 [0,1,2,3,4,5,6,7],Cf h2 [0],.k,.k,.t true,.t true]
  tI (Co h1 [0,1,2,3,4,5,6,7] 11 (Co h2 [0] 11 (A2 he he tI)))
abbrev qo2 (c:Ck):Prop:=Fn 57 8 [qar c] (qaA c) (.pv (iV (0))) 0 []
theorem qtP (h1:qo2 c) (h2:Fn 175 1 [qaq 0 c.s,.pv (qae a b)] [(0,0,qaf c.s)] (.pv (iV (e2))) 0 []) (he:(e2 !=0)=true) :
 Fn 111 8 [qar c,.pv (qae a b)] (qaA c) (.pv (.tuple #[qbt,iV 0,iV e2])) 0 []:=
 Fz [] [Cf h1 [0,1,2,3,4,5,6,7],Cf h2 [0],.k,.k,.k,.k,.k,.t true,.t true]
  tI (Co h1 [0,1,2,3,4,5,6,7] 11 (Co h2 [0] 11 (A2 he he tI)))
abbrev qrs (a:Int) (b:Int) (c:Ck):Prop:=Fn 175 1 [qaq 0 c.s,.pv (qae a b)] [(0,0,qaf c.s)] (.pv (iV (0))) 0 []
theorem qpL (h1:qo2 c) (h2:qrs a b c) (had:Fn 176 1 [qaU 0 c.x c.l,.pv (qae a b)] [(0,0,qak c.l)] (.pv (.tuple #[.agg #[iV 0,.slice none 0 0],iV 0,iV e])) 0 []) (he:(e !=0)=true) :
 Fn 111 8 [qar c,.pv (qae a b)] (qaA c) (.pv (.tuple #[qbt,iV 0,iV e])) 0 []:=
 Fz [] [Cf h1 [0,1,2,3,4,5,6,7],Cf h2 [0],.k,.k,.k,.k,.k,.k,.k,.k,.k,Cf had [1],.t true]
  tI (Co h1 [0,1,2,3,4,5,6,7] 11 (Co h2 [0] 11 (Co had [1] 12 (Ai he tI))))
abbrev qF7 (a:Int) (b:Int) (c:Ck) (l2:List Pt) (n:Int) (x2:Int):Prop:=Fn 176 1 [qaU 0 c.x c.l,.pv (qae a b)] [(0,0,qak c.l)] (.tu [.ag [.pv (iV x2),.ls 1 l2.length],.one (.pv (iV n)),.one (.pv (iV 0))]) 1 [(1,0,qak l2)]
abbrev qot (c:Ck):Prop:=Fn 131 8 [qar c] (qaA c) (qeS c) 8 (qcc c)
theorem qBX (h1:qo2 c) (h2:qrs a b c) (had:qF7 a b c l2 n x2) (hcl:qot c) (ht:Fn 174 8 [qar ({ c with x:=x2,l:=l2 }:Ck),.pv (ptV (Pt.mk n a b))] (qaA ({ c with x:=x2,l:=l2 }:Ck)) (.tu [qty ({ c with x:=x2,l:=l2 }:Ck),.one (.pv (iV 0))]) 0 []) :
 Fn 111 8 [qar c,.pv (qae a b)] (qaA c) (.tu [qiJ ({ c with x:=x2,l:=l2 }:Ck),.one (.pv (iV n)),.one (.pv (iV 0))]) 8 (qcc ({ c with x:=x2,l:=l2 }:Ck)):=
 Fz [(8,14),(9,12),(10,16),(11,17),(12,18),(13,19),(14,20),(15,21)] [Cf h1 [0,1,2,3,4,5,6,7],Cf h2 [0],.k,.k,.k,.k,.k,.k,.k,.k,.k,Cf had [1],.k,Cf hcl [0,1,2,3,4,5,6,7],Cf ht [14,12,16,17,18,19,20,21],.k]
  (qaG (qaM [(8,14),(9,12),(10,16),(11,17),(12,18),(13,19),(14,20),(15,21)]) (qcc ({ c with x:=x2,l:=l2 }:Ck))) (Co h1 [0,1,2,3,4,5,6,7] 11 (Co h2 [0] 11 (Co had [1] 12 (Co hcl [0,1,2,3,4,5,6,7] 14 (Co ht [14,12,16,17,18,19,20,21] 23 tI)))))
theorem qyC {l:List Pt} (h1:qo2 c) (h2:qrs a b c) (had:qF7 a b c l2 n x2) (hcl:qot c) (ht:Fn 174 8 [qar ({ c with x:=x2,l:=l2 }:Ck),.pv (ptV (Pt.mk n a b))] (qaA ({ c with x:=x2,l:=l2 }:Ck)) (.tu [qhR ({ c with x:=x2,l:=l2 }:Ck) o l,.one (.pv (iV 0))]) 6 (ym o l)) :
 Fn 111 8 [qar c,.pv (qae a b)] (qaA c) (.tu [qiJ ({ c with x:=x2,l:=l2,u:=o.u,b:=o.b,fr:=o.fr,ev:=o.ev,wh:=o.wh,d:=l }:Ck),.one (.pv (iV n)),.one (.pv (iV 0))]) 8 (qcc ({ c with x:=x2,l:=l2,u:=o.u,b:=o.b,fr:=o.fr,ev:=o.ev,wh:=o.wh,d:=l }:Ck)):=
 Fz [(8,14),(9,12),(10,23),(11,24),(12,25),(13,26),(14,27),(15,28)] [Cf h1 [0,1,2,3,4,5,6,7],Cf h2 [0],.k,.k,.k,.k,.k,.k,.k,.k,.k,Cf had [1],.k,Cf hcl [0,1,2,3,4,5,6,7],Cf ht [14,12,16,17,18,19,20,21],.k]
  (qaG (qaM [(8,14),(9,12),(10,23),(11,24),(12,25),(13,26),(14,27),(15,28)]) (qcc ({ c with x:=x2,l:=l2,u:=o.u,b:=o.b,fr:=o.fr,ev:=o.ev,wh:=o.wh,d:=l }:Ck))) (Co h1 [0,1,2,3,4,5,6,7] 11 (Co h2 [0] 11 (Co had [1] 12 (Co hcl [0,1,2,3,4,5,6,7] 14 (Co ht [14,12,16,17,18,19,20,21] 23 tI)))))
theorem qrn (h1:qo2 c) (h2:qrs a b c) (had:qF7 a b c l2 n x2) (hcl:qot c) (ht:Fn 174 8 [qar ({ c with x:=x2,l:=l2 }:Ck),.pv (ptV (Pt.mk n a b))] (qaA ({ c with x:=x2,l:=l2 }:Ck)) (.pv (.tuple #[qbt,iV e])) 0 []) (he:(e !=0)=true) :
 Fn 111 8 [qar c,.pv (qae a b)] (qaA c) (.pv (.tuple #[qbt,iV 0,iV e])) 0 []:=
 Fz [] [Cf h1 [0,1,2,3,4,5,6,7],Cf h2 [0],.k,.k,.k,.k,.k,.k,.k,.k,.k,Cf had [1],.k,Cf hcl [0,1,2,3,4,5,6,7],Cf ht [14,12,16,17,18,19,20,21],.t true]
  tI (Co h1 [0,1,2,3,4,5,6,7] 11 (Co h2 [0] 11 (Co had [1] 12 (Co hcl [0,1,2,3,4,5,6,7] 14 (Co ht [14,12,16,17,18,19,20,21] 23 (Ai he tI))))))
theorem qws (h1:Fn 57 8 [qar c] (qaA c) (.pv (iV (e))) 0 []) (he:(e !=0)=true) :
 Fn 108 8 [qar c,.pv (iV (n))] (qaA c) (.pv (.tuple #[qbt,iV e])) 0 []:=
 Fz [] [Cf h1 [0,1,2,3,4,5,6,7],.t true]
  tI (Co h1 [0,1,2,3,4,5,6,7] 10 (Ai he tI))
theorem qxq (h1:qo2 c) (hr:Fn 129 8 [qar c,.pv (iV (n))] (qaA c) (.pv (.tuple #[qbt,qae a b,iV e])) 0 []) :
 Fn 108 8 [qar c,.pv (iV (n))] (qaA c) (.pv (.tuple #[qbt,iV e])) 0 []:=
 Fz [] [Cf h1 [0,1,2,3,4,5,6,7],.k,Cf hr [0,1,2,3,4,5,6,7]]
  tI (Co h1 [0,1,2,3,4,5,6,7] 10 (Co hr [0,1,2,3,4,5,6,7] 10 tI))
theorem qDN (h1:qo2 c) (hr:Fn 129 8 [qar c,.pv (iV (n))] (qaA c) (.tu [qiJ o,.one (.pv (qae a b)),.one (.pv (iV 0))]) 8 (qcc o)) :
 Fn 108 8 [qar c,.pv (iV (n))] (qaA c) (.tu [qiJ o,.one (.pv (iV 0))]) 8 (qcc o):=
 Fz [(8,10),(9,11),(10,12),(11,13),(12,14),(13,15),(14,16),(15,17)] [Cf h1 [0,1,2,3,4,5,6,7],.k,Cf hr [0,1,2,3,4,5,6,7]]
  (qaG (qaM [(8,10),(9,11),(10,12),(11,13),(12,14),(13,15),(14,16),(15,17)]) (qcc o)) (Co h1 [0,1,2,3,4,5,6,7] 10 (Co hr [0,1,2,3,4,5,6,7] 10 tI))
abbrev qCa (c:Ck) (s:List Pt):HpL:=[(0,0,qaf c.s),(1,0,qak c.l),(2,0,zrI c.u),(3,0,zrB c.b),(4,0,zrI c.fr),(5,0,qap c.ev),(6,0,zrI c.wh),(7,0,qaH c.d),(8,0,qaf s)]
abbrev qvz (c:Ck) (e3:Int) (s:List Pt):Prop:=Fn 173 2 [qaq 0 s,qaU 1 c.x c.l] [(0,0,qaf s),(1,0,qak c.l)] (.pv (iV (e3))) 0 []
theorem qBs (h1:Fn 57 8 [qar c] (qaA c) (.pv (iV (e1))) 0 []) (h2:Fn 74 1 [qaq 0 s] [(0,0,qaf s)] (.pv (iV (e2))) 0 []) (h3:qvz c e3 s) (he:(e1 !=0)=true) :
 Fn 110 9 [qar c,qaq 8 s] (qCa c s) (.pv (.tuple #[qbt,iV e1])) 0 []:=
 Fz [] [Cf h1 [0,1,2,3,4,5,6,7],Cf h2 [8],Cf h3 [8,1],.k,.k,.t true,.t true]
  tI (Co h1 [0,1,2,3,4,5,6,7] 12 (Co h2 [8] 12 (Co h3 [8,1] 12 (A2 he he tI))))
theorem qCj (h1:qo2 c) (h2:Fn 74 1 [qaq 0 s] [(0,0,qaf s)] (.pv (iV (e2))) 0 []) (h3:qvz c e3 s) (he:(e2 !=0)=true) :
 Fn 110 9 [qar c,qaq 8 s] (qCa c s) (.pv (.tuple #[qbt,iV e2])) 0 []:=
 Fz [] [Cf h1 [0,1,2,3,4,5,6,7],Cf h2 [8],Cf h3 [8,1],.k,.k,.k,.k,.k,.t true,.t true]
  tI (Co h1 [0,1,2,3,4,5,6,7] 12 (Co h2 [8] 12 (Co h3 [8,1] 12 (A2 he he tI))))
abbrev qxy (s:List Pt):Prop:=Fn 74 1 [qaq 0 s] [(0,0,qaf s)] (.pv (iV (0))) 0 []
theorem qzW (h1:qo2 c) (h2:qxy s) (h3:qvz c e3 s) (he:(e3 !=0)=true) :
 Fn 110 9 [qar c,qaq 8 s] (qCa c s) (.pv (.tuple #[qbt,iV e3])) 0 []:=
 Fz [] [Cf h1 [0,1,2,3,4,5,6,7],Cf h2 [8],Cf h3 [8,1],.k,.k,.k,.k,.k,.k,.k,.k,.t true,.t true]
  tI (Co h1 [0,1,2,3,4,5,6,7] 12 (Co h2 [8] 12 (Co h3 [8,1] 12 (A2 he he tI))))
abbrev qzk (c:Ck) (o:Ck) (s:List Pt):HpL:=[(1,0,qak c.l),(11,0,.pv (iV 0)),(11,1,.pv (iV 0)),(11,2,.pv (.slice none 0 0)),(11,3,.pv (iV 0)),(11,4,.pv (.slice none 0 0)),(11,5,.pv (.slice none 0 0)),(11,6,.pv (.slice none 0 0)),(11,7,.pv (.slice none 0 0)),(11,8,.pv (.slice none 0 0)),(11,9,.pv (.slice none 0 0)),(11,10,.pv (.slice none 0 0)),(21,0,.pv (iV c.tn)),(21,1,.pv (iV c.td)),(21,2,.ls 22 s.length),(21,3,.pv (iV c.x)),(21,4,.ls 14 c.l.length),(21,5,.ls 15 o.u.length),(21,6,.ls 16 o.b.length),(21,7,.ls 17 o.fr.length),(21,8,.ls 18 o.ev.length),(21,9,.ls 19 o.wh.length),(21,10,.ls 20 o.d.length),(22,0,qaf s),(14,0,qak c.l),(15,0,zrI o.u),(16,0,zrB o.b),(17,0,zrI o.fr),(18,0,qap o.ev),(19,0,zrI o.wh),(20,0,qaH o.d)]
abbrev qDw (c:Ck) (k:Nat):TmL:=[(4,.pp 11 0),(7,.pp 21 0),(32,.ls 1 c.l.length),(33,.pv (iV (c.l.length:Int))),(34,.pv (iV (k:Int)))]
abbrev qEF (c:Ck) (o:Ck) (s:List Pt):HpL:=[(0,0,qaf s),(1,0,qak c.l),(2,0,zrI o.u),(3,0,zrB o.b),(4,0,zrI o.fr),(5,0,qap o.ev),(6,0,zrI o.wh),(7,0,qaH o.d)]
abbrev qw6 (c:Ck) (k:Nat):TmL:=[(4,.pp 11 0),(7,.pp 21 0),(32,.ls 1 c.l.length),(33,.pv (iV (c.l.length:Int))),(34,.pv (iV ((k+1:Nat):Int)))]
theorem qvq (hk:c.l[k]?=some p) (hin:Bd k c.l.length) (hlt:Dt ((k:Int)<(c.l.length:Int))) (ht:Fn 174 8 [qar ({ o with tn:=c.tn,td:=c.td,s:=s,x:=c.x,l:=c.l }:Ck),.pv (ptV p)] (qEF c o s) (.tu [qvE ({ o with tn:=c.tn,td:=c.td,s:=s,x:=c.x,l:=c.l }:Ck) r9,.one (.pv (iV 0))]) 5 [(8,0,zrI r9.u),(9,0,zrB r9.b),(10,0,zrI r9.fr),(11,0,qap r9.ev),(12,0,zrI r9.wh)]) (hs:iV (IntKind.i64.wrap ((k:Int)+1))=iV (((k+1:Nat):Int))) {e:Exit} {tm2:TmL} {hp2:HpL}
 (r:Rl 9 9 110 0 50 23 (qw6 c k) ([(1,0,qak c.l),(11,0,.pv (iV 0)),(11,1,.pv (iV 0)),(11,2,.pv (.slice none 0 0)),(11,3,.pv (iV 0)),(11,4,.pv (.slice none 0 0)),(11,5,.pv (.slice none 0 0)),(11,6,.pv (.slice none 0 0)),(11,7,.pv (.slice none 0 0)),(11,8,.pv (.slice none 0 0)),(11,9,.pv (.slice none 0 0)),(11,10,.pv (.slice none 0 0)),(21,0,.pv (iV c.tn)),(21,1,.pv (iV c.td)),(21,2,.ls 22 s.length),(21,3,.pv (iV c.x)),(21,4,.ls 14 c.l.length),(21,5,.ls 15 r9.u.length),(21,6,.ls 16 r9.b.length),(21,7,.ls 17 r9.fr.length),(21,8,.ls 18 r9.ev.length),(21,9,.ls 19 r9.wh.length),(21,10,.ls 20 o.d.length),(22,0,qaf s),(14,0,qak c.l),(15,0,zrI r9.u),(16,0,zrB r9.b),(17,0,zrI r9.fr),(18,0,qap r9.ev),(19,0,zrI r9.wh),(20,0,qaH o.d)]) e tm2 hp2):Rl 9 9 110 0 50 23 (qDw c k) (qzk c o s) e tm2 hp2:=
 RunsL.next [(15,24),(16,25),(17,26),(18,27),(19,28)] 300 [.t true,.r (ptV p),Cf ht [22,14,15,16,17,18,19,20],.k,Re hs]
  (Ro (A3 hlt hin (qaB hk) (Co ht [22,14,15,16,17,18,19,20] 24 (Ai hs tI)))) r
theorem qos (hk:c.l[k]?=some p) (hin:Bd k c.l.length) (hlt:Dt ((k:Int)<(c.l.length:Int))) (ht:Fn 174 8 [qar ({ o with tn:=c.tn,td:=c.td,s:=s,x:=c.x,l:=c.l }:Ck),.pv (ptV p)] (qEF c o s) (.tu [qhR ({ o with tn:=c.tn,td:=c.td,s:=s,x:=c.x,l:=c.l }:Ck) r9 l2,.one (.pv (iV 0))]) 6 (ym r9 l2)) (hs:iV (IntKind.i64.wrap ((k:Int)+1))=iV (((k+1:Nat):Int))) {e:Exit} {tm2:TmL} {hp2:HpL}
 (r:Rl 9 9 110 0 50 23 (qw6 c k) ([(1,0,qak c.l),(11,0,.pv (iV 0)),(11,1,.pv (iV 0)),(11,2,.pv (.slice none 0 0)),(11,3,.pv (iV 0)),(11,4,.pv (.slice none 0 0)),(11,5,.pv (.slice none 0 0)),(11,6,.pv (.slice none 0 0)),(11,7,.pv (.slice none 0 0)),(11,8,.pv (.slice none 0 0)),(11,9,.pv (.slice none 0 0)),(11,10,.pv (.slice none 0 0)),(21,0,.pv (iV c.tn)),(21,1,.pv (iV c.td)),(21,2,.ls 22 s.length),(21,3,.pv (iV c.x)),(21,4,.ls 14 c.l.length),(21,5,.ls 15 r9.u.length),(21,6,.ls 16 r9.b.length),(21,7,.ls 17 r9.fr.length),(21,8,.ls 18 r9.ev.length),(21,9,.ls 19 r9.wh.length),(21,10,.ls 20 l2.length),(22,0,qaf s),(14,0,qak c.l),(15,0,zrI r9.u),(16,0,zrB r9.b),(17,0,zrI r9.fr),(18,0,qap r9.ev),(19,0,zrI r9.wh),(20,0,qaH l2)]) e tm2 hp2):Rl 9 9 110 0 50 23 (qDw c k) (qzk c o s) e tm2 hp2:=
 RunsL.next [(15,24),(16,25),(17,26),(18,27),(19,28),(20,29)] 300 [.t true,.r (ptV p),Cf ht [22,14,15,16,17,18,19,20],.k,Re hs]
  (Ro (A3 hlt hin (qaB hk) (Co ht [22,14,15,16,17,18,19,20] 24 (Ai hs tI)))) r
theorem qr1 (hk:c.l[k]?=some p) (hin:Bd k c.l.length) (hlt:Dt ((k:Int)<(c.l.length:Int))) (ht:Fn 174 8 [qar ({ o with tn:=c.tn,td:=c.td,s:=s,x:=c.x,l:=c.l }:Ck),.pv (ptV p)] (qEF c o s) (.tu [qty ({ o with tn:=c.tn,td:=c.td,s:=s,x:=c.x,l:=c.l }:Ck),.one (.pv (iV 0))]) 0 []) (hs:iV (IntKind.i64.wrap ((k:Int)+1))=iV (((k+1:Nat):Int))) {e:Exit} {tm2:TmL} {hp2:HpL}
 (r:Rl 9 9 110 0 50 23 (qw6 c k) (qzk c o s) e tm2 hp2):Rl 9 9 110 0 50 23 (qDw c k) (qzk c o s) e tm2 hp2:=
 RunsL.next [] 300 [.t true,.r (ptV p),Cf ht [22,14,15,16,17,18,19,20],.k,Re hs]
  (Ro (A3 hlt hin (qaB hk) (Co ht [22,14,15,16,17,18,19,20] 24 (Ai hs tI)))) r
abbrev qIN:HpL:=[(11,0,.pv (iV 0)),(11,1,.pv (iV 0)),(11,2,.pv (.slice none 0 0)),(11,3,.pv (iV 0)),(11,4,.pv (.slice none 0 0)),(11,5,.pv (.slice none 0 0)),(11,6,.pv (.slice none 0 0)),(11,7,.pv (.slice none 0 0)),(11,8,.pv (.slice none 0 0)),(11,9,.pv (.slice none 0 0)),(11,10,.pv (.slice none 0 0))]
theorem qri (hk:c.l[k]?=some p) (hin:Bd k c.l.length) (hlt:Dt ((k:Int)<(c.l.length:Int))) (ht:Fn 174 8 [qar ({ o with tn:=c.tn,td:=c.td,s:=s,x:=c.x,l:=c.l }:Ck),.pv (ptV p)] (qEF c o s) (.pv (.tuple #[qbt,iV 18])) 0 []):Rl 9 9 110 0 50 23 (qDw c k) (qzk c o s) (.ret) ([(4,.pp 11 0),(5,.pv (iV 18))]) (qIN):=
 RunsL.stop [] 300 [.t true,.r (ptV p),Cf ht [22,14,15,16,17,18,19,20],.k] (fun h=>by cases h)
  (Ro (A3 hlt hin (qaB hk) (Co ht [22,14,15,16,17,18,19,20] 24 tI)))
abbrev qJm (c:Ck) (o:Ck) (s:List Pt):HpL:=[(11,0,.pv (iV 0)),(11,1,.pv (iV 0)),(11,2,.pv (.slice none 0 0)),(11,3,.pv (iV 0)),(11,4,.pv (.slice none 0 0)),(11,5,.pv (.slice none 0 0)),(11,6,.pv (.slice none 0 0)),(11,7,.pv (.slice none 0 0)),(11,8,.pv (.slice none 0 0)),(11,9,.pv (.slice none 0 0)),(11,10,.pv (.slice none 0 0)),(21,0,.pv (iV c.tn)),(21,1,.pv (iV c.td)),(21,2,.ls 22 s.length),(21,3,.pv (iV c.x)),(21,4,.ls 14 c.l.length),(21,5,.ls 15 o.u.length),(21,6,.ls 16 o.b.length),(21,7,.ls 17 o.fr.length),(21,8,.ls 18 o.ev.length),(21,9,.ls 19 o.wh.length),(21,10,.ls 20 o.d.length),(22,0,qaf s),(14,0,qak c.l),(15,0,zrI o.u),(16,0,zrB o.b),(17,0,zrI o.fr),(18,0,qap o.ev),(19,0,zrI o.wh),(20,0,qaH o.d)]
theorem qwy (hge:decide ((k:Int)<(c.l.length:Int))=false):Rl 9 9 110 0 50 23 (qDw c k) (qzk c o s) (.exit 0) ([(4,.pp 11 0),(7,.pp 21 0)]) (qJm c o s):=
 RunsL.stop [] 300 [.t false] (fun h=>by cases h)
  (Ro (Ai hge tI))
abbrev qJf (c:Ck) (s:List Pt):HpL:=[(1,0,qak c.l),(11,0,.pv (iV 0)),(11,1,.pv (iV 0)),(11,2,.pv (.slice none 0 0)),(11,3,.pv (iV 0)),(11,4,.pv (.slice none 0 0)),(11,5,.pv (.slice none 0 0)),(11,6,.pv (.slice none 0 0)),(11,7,.pv (.slice none 0 0)),(11,8,.pv (.slice none 0 0)),(11,9,.pv (.slice none 0 0)),(11,10,.pv (.slice none 0 0)),(21,0,.pv (iV c.tn)),(21,1,.pv (iV c.td)),(21,2,.ls 22 s.length),(21,3,.pv (iV c.x)),(21,4,.ls 14 c.l.length),(21,5,.ls 15 c.u.length),(21,6,.ls 16 c.b.length),(21,7,.ls 17 c.fr.length),(21,8,.ls 18 c.ev.length),(21,9,.ls 19 c.wh.length),(21,10,.ls 20 c.d.length),(22,0,qaf s),(14,0,qak c.l),(15,0,zrI c.u),(16,0,zrB c.b),(17,0,zrI c.fr),(18,0,qap c.ev),(19,0,zrI c.wh),(20,0,qaH c.d)]
abbrev qAd (c:Ck):TmL:=[(4,.pp 11 0),(7,.pp 21 0),(32,.ls 1 c.l.length),(33,.pv (iV (c.l.length:Int))),(34,.pv (iV ((0:Nat):Int)))]
theorem qr0 (h1:qo2 c) (h2:qxy s) (h3:Fn 173 2 [qaq 0 s,qaU 1 c.x c.l] [(0,0,qaf s),(1,0,qak c.l)] (.pv (iV (0))) 0 []) (hcl:qot c) (hcf:Fn 103 1 [qaq 0 s] [(0,0,qaf s)] (.ag [.ls 1 s.length]) 1 [(1,0,qaf s)]) (r0:Rl 9 9 110 0 50 23 (qAd c) (qJf c s) (.ret) ([(4,.pp 11 0),(5,.pv (iV 18))]) (qIN)) :
 Fn 110 9 [qar c,qaq 8 s] (qCa c s) (.pv (.tuple #[qbt,iV 18])) 0 []:=
 Fz [] [Cf h1 [0,1,2,3,4,5,6,7],Cf h2 [8],Cf h3 [8,1],.k,.k,.k,.k,.k,.k,.k,.k,.k,.k,.k,.k,Cf hcl [0,1,2,3,4,5,6,7],Cf hcf [8],Lf r0]
  tI (Co h1 [0,1,2,3,4,5,6,7] 12 (Co h2 [8] 12 (Co h3 [8,1] 12 (Co hcl [0,1,2,3,4,5,6,7] 13 (Co hcf [8] 22 (Lo r0 [] tI))))))
theorem qCn (h1:qo2 c) (h2:qxy s) (h3:Fn 173 2 [qaq 0 s,qaU 1 c.x c.l] [(0,0,qaf s),(1,0,qak c.l)] (.pv (iV (0))) 0 []) (hcl:qot c) (hcf:Fn 103 1 [qaq 0 s] [(0,0,qaf s)] (.ag [.ls 1 s.length]) 1 [(1,0,qaf s)]) (r0:Rl 9 9 110 0 50 23 (qAd c) (qJf c s) (.exit 0) ([(4,.pp 11 0),(7,.pp 21 0)]) (qJm c o s)) :
 Fn 110 9 [qar c,qaq 8 s] (qCa c s) (.tu [.ag [.pv (iV c.tn),.pv (iV c.td),.ls 9 s.length,.pv (iV c.x),.ls 10 c.l.length,.ls 11 o.u.length,.ls 12 o.b.length,.ls 13 o.fr.length,.ls 14 o.ev.length,.ls 15 o.wh.length,.ls 16 o.d.length],.one (.pv (iV 0))]) 8 [(9,0,qaf s),(10,0,qak c.l),(11,0,zrI o.u),(12,0,zrB o.b),(13,0,zrI o.fr),(14,0,qap o.ev),(15,0,zrI o.wh),(16,0,qaH o.d)]:=
 Fz [(9,22),(10,14),(11,15),(12,16),(13,17),(14,18),(15,19),(16,20)] [Cf h1 [0,1,2,3,4,5,6,7],Cf h2 [8],Cf h3 [8,1],.k,.k,.k,.k,.k,.k,.k,.k,.k,.k,.k,.k,Cf hcl [0,1,2,3,4,5,6,7],Cf hcf [8],Lf r0]
  (qaG (qaM [(9,22),(10,14),(11,15),(12,16),(13,17),(14,18),(15,19),(16,20)]) [(9,0,qaf s),(10,0,qak c.l),(11,0,zrI o.u),(12,0,zrB o.b),(13,0,zrI o.fr),(14,0,qap o.ev),(15,0,zrI o.wh),(16,0,qaH o.d)]) (Co h1 [0,1,2,3,4,5,6,7] 12 (Co h2 [8] 12 (Co h3 [8,1] 12 (Co hcl [0,1,2,3,4,5,6,7] 13 (Co hcf [8] 22 (Lo r0 [] tI))))))
end Go.Proofs.YtkckcgpmnipnaaaGreat

namespace Go.Proofs.YtkckcgpmnipnaaaGreat
set_option maxRecDepth 100000
open Go.RowKit
theorem qBc (a pa pb n:Int):∃ c,Pure Tryz.prog 310 #[qac a pa pb,iV n] (iV c)∧(c<0↔a<n)∧(c=0↔a=n):=by
 rcases Int.lt_trichotomy a n with h | h | h
 ·exact⟨-1,qAM (by simp) (by simp) (dt h),⟨fun _=>h,fun _=>by omega⟩,⟨fun h=>by omega,fun h=>by omega⟩⟩
 ·exact⟨0,qAl (by simp) (by simp) (df (by omega)) (df (by omega)),⟨fun h=>by omega,fun h=>by omega⟩,⟨fun _=>h,fun _=>rfl⟩⟩
 ·exact⟨1,qBJ (by simp) (by simp) (df (by omega)) (dt (by omega)),⟨fun h=>by omega,fun h=>by omega⟩,⟨fun h=>by omega,fun h=>by omega⟩⟩
abbrev qJn (l:List Pt) (n:Int) (i j:Nat):List (Nat×SV):=[(0,.ls 0 l.length),(1,.pv (iV n)),(2,.pv (.func (.func 310) #[] #[])),(8,.pv (iV (l.length:Int))),(9,.pv (iV (i:Int))),(10,.pv (iV (j:Int)))]
theorem qti {l:List Pt} (hn:l.length≤1000000) {n:Int}:∀ (d i j:Nat),j-i≤d→i≤j→j≤l.length→(∀ p,0<i→l[i-1]?=some p→p.id<n)→(∀ p,l[j]?=some p→¬ p.id<n)→
 ∃ k,k≤l.length∧(∀ p,0<k→l[k-1]?=some p→p.id<n)∧(∀ p,l[k]?=some p→¬ p.id<n)∧Rl 1 1 293 0 49 1 (qJn l n i j) [(0,0,qaf l)] (.exit 0) (qJn l n k k) [(0,0,qaf l)]:=by
 intro d
 induction d with
 | zero=>
  intro i j hd h1 h2 hi hj
  have:i=j:=by omega
  subst i;exact⟨j,h2,hi,hj,qoJ (df (by omega))⟩
 | succ d ih=>
  intro i j hd h1 h2 hi hj;by_cases hij:i<j
  ·obtain⟨p,hp⟩:=qah (l:=l) (k:=(i+j)/2) (by omega);obtain⟨c,hc,hc1,hc2⟩:=qBc p.id p.a p.b n
   have a1:iV (IntKind.i64.wrap ((i:Int)+(j:Int)))=iV ((i:Int)+(j:Int)):=by rw[qas (by omega) (by omega)]
   have a2:Value.int .u64 (IntKind.u64.wrap ((i:Int)+(j:Int)))=.int .u64 ((i:Int)+(j:Int)):=by rw[qef (by omega) (by omega)]
   have a3:Value.int .u64 (((i:Int)+(j:Int)).fdiv (2 ^ (min (1:Int).toNat IntKind.u64.bits)))=.int .u64 (((i+j)/2:Nat):Int):=by
    have:(2:Int) ^ (min (1:Int).toNat IntKind.u64.bits)=2:=rfl;rw[this,Int.fdiv_eq_ediv_of_nonneg _ (by omega)];congr 1
   have a4:iV (IntKind.i64.wrap (((i+j)/2:Nat):Int))=iV (((i+j)/2:Nat):Int):=by rw[qas (by omega) (by omega)]
   by_cases hlt:p.id<n
   ·obtain⟨k,k1,k2,k3,r⟩:=ih ((i+j)/2+1) j (by omega) (by omega) h2 (fun q _ hq=>by
     rw[Nat.add_sub_cancel,hp] at hq;cases hq
     exact hlt) hj
    exact⟨k,k1,k2,k3,qAV hp (qal (qan hp)) (dt (by omega)) a1 a2 (by omega) a3 a4 hc (dt (hc1.2 hlt)) (qag (by omega)) r⟩
   ·obtain⟨k,k1,k2,k3,r⟩:=ih i ((i+j)/2) (by omega) (by omega) (by omega) hi (fun q hq=>by
     rw[hp] at hq;cases hq
     exact hlt)
    exact⟨k,k1,k2,k3,qz0 hp (qal (qan hp)) (dt (by omega)) a1 a2 (by omega) a3 a4 hc (df fun h=>hlt (hc1.1 h)) r⟩
  ·have:i=j:=by omega
   subst i;exact⟨j,h2,hi,hj,qoJ (df (by omega))⟩
theorem qnl {l:List Pt} (hn:l.length≤1000000) (n:Int):∃ (k:Nat) (w:Bool),k≤l.length∧(∀ p,0<k→l[k-1]?=some p→p.id<n)∧(∀ p,l[k]?=some p→¬ p.id<n)∧(w=true→∃ p,l[k]?=some p∧p.id=n)∧(w=false→∀ p,l[k]?=some p→p.id≠n)∧
 Fn 293 1 [.ls 0 l.length,.pv (iV n),.pv (.func (.func 310) #[] #[])] [(0,0,qaf l)] (.pv (.tuple #[iV (k:Int),.bool w])) 0 []:=by
 obtain⟨k,k1,k2,k3,r⟩:=qti hn (n:=n) l.length 0 l.length (by omega) (Nat.zero_le _) (Nat.le_refl _) (fun p h=>by omega) (fun p hp=>by have:=qan hp;omega);by_cases h:k<l.length
 ·obtain⟨p,hp⟩:=qah h;obtain⟨c,hc,hc1,hc2⟩:=qBc p.id p.a p.b n;by_cases e:p.id=n
  ·exact⟨k,true,k1,k2,k3,fun _=>⟨p,hp,e⟩,fun h=>by (cases h),qvY r hp (qal h) (dt (by omega)) hc (by simpa using hc2.2 e)⟩
  ·exact⟨k,false,k1,k2,k3,fun h=>by (cases h),fun _ q hq=>by (rw[hp] at hq;cases hq;exact e),qzQ r hp (qal h) (dt (by omega)) hc (by simpa using fun h=>e (hc2.1 h))⟩
 ·exact⟨k,false,k1,k2,k3,fun h=>by (cases h),fun _ q hq=>by (have:=qan hq;omega),qvV r (df (by omega))⟩
theorem qv9 {l:List Pt} (hn:l.length≤1000000) (hu:Up l) {n:Int} {k:Nat} {p:Pt} (hk:l[k]?=some p) (he:p.id=n):Fn 293 1 [.ls 0 l.length,.pv (iV n),.pv (.func (.func 310) #[] #[])] [(0,0,qaf l)] (.pv (.tuple #[iV (k:Int),.bool true])) 0 []:=by
 obtain⟨j,w,j1,j2,j3,j4,j5,r⟩:=qnl hn n;have hlk:=qan hk
 have e:j=k:=by
  rcases Nat.lt_trichotomy j k with h | h | h
  ·obtain⟨q,hq⟩:=qah (l:=l) (k:=j) (by omega);have:=hu.mono h hq hk;have:=j3 q hq;omega
  ·exact h
  ·obtain⟨q,hq⟩:=qah (l:=l) (k:=j-1) (by omega);have a:=j2 q (by omega) hq
   rcases Nat.lt_or_ge k (j-1) with h' | h'
   ·have:=hu.mono h' hk hq;omega
   ·have:j-1=k:=by omega
    rw[this,hk] at hq;cases hq;omega
 subst e;cases w
 ·exact (j5 rfl p hk he).elim
 ·exact r
theorem qD8 (a pa pb n:Int):∃ c,Pure Tryz.prog 268 #[qac a pa pb,iV n] (iV c)∧(c<0↔a<n)∧(c=0↔a=n):=by
 rcases Int.lt_trichotomy a n with h | h | h
 ·exact⟨-1,qAD (by simp) (by simp) (dt h),⟨fun _=>h,fun _=>by omega⟩,⟨fun h=>by omega,fun h=>by omega⟩⟩
 ·exact⟨0,qBm (by simp) (by simp) (df (by omega)) (df (by omega)),⟨fun h=>by omega,fun h=>by omega⟩,⟨fun _=>h,fun _=>rfl⟩⟩
 ·exact⟨1,qBt (by simp) (by simp) (df (by omega)) (dt (by omega)),⟨fun h=>by omega,fun h=>by omega⟩,⟨fun h=>by omega,fun h=>by omega⟩⟩
abbrev qJk (l:List Pt) (n:Int) (i j:Nat):List (Nat×SV):=[(0,.ls 0 l.length),(1,.pv (iV n)),(2,.pv (.func (.func 268) #[] #[])),(8,.pv (iV (l.length:Int))),(9,.pv (iV (i:Int))),(10,.pv (iV (j:Int)))]
theorem qrm {l:List Pt} (hn:l.length≤1000000) {n:Int}:∀ (d i j:Nat),j-i≤d→i≤j→j≤l.length→(∀ p,0<i→l[i-1]?=some p→p.id<n)→(∀ p,l[j]?=some p→¬ p.id<n)→
 ∃ k,k≤l.length∧(∀ p,0<k→l[k-1]?=some p→p.id<n)∧(∀ p,l[k]?=some p→¬ p.id<n)∧Rl 1 1 267 0 49 1 (qJk l n i j) [(0,0,qaH l)] (.exit 0) (qJk l n k k) [(0,0,qaH l)]:=by
 intro d
 induction d with
 | zero=>
  intro i j hd h1 h2 hi hj
  have:i=j:=by omega
  subst i;exact⟨j,h2,hi,hj,qpo (df (by omega))⟩
 | succ d ih=>
  intro i j hd h1 h2 hi hj;by_cases hij:i<j
  ·obtain⟨p,hp⟩:=qah (l:=l) (k:=(i+j)/2) (by omega);obtain⟨c,hc,hc1,hc2⟩:=qD8 p.id p.a p.b n
   have a1:iV (IntKind.i64.wrap ((i:Int)+(j:Int)))=iV ((i:Int)+(j:Int)):=by rw[qas (by omega) (by omega)]
   have a2:Value.int .u64 (IntKind.u64.wrap ((i:Int)+(j:Int)))=.int .u64 ((i:Int)+(j:Int)):=by rw[qef (by omega) (by omega)]
   have a3:Value.int .u64 (((i:Int)+(j:Int)).fdiv (2 ^ (min (1:Int).toNat IntKind.u64.bits)))=.int .u64 (((i+j)/2:Nat):Int):=by
    have:(2:Int) ^ (min (1:Int).toNat IntKind.u64.bits)=2:=rfl;rw[this,Int.fdiv_eq_ediv_of_nonneg _ (by omega)];congr 1
   have a4:iV (IntKind.i64.wrap (((i+j)/2:Nat):Int))=iV (((i+j)/2:Nat):Int):=by rw[qas (by omega) (by omega)]
   by_cases hlt:p.id<n
   ·obtain⟨k,k1,k2,k3,r⟩:=ih ((i+j)/2+1) j (by omega) (by omega) h2 (fun q _ hq=>by
     rw[Nat.add_sub_cancel,hp] at hq;cases hq
     exact hlt) hj
    exact⟨k,k1,k2,k3,qAJ hp (qal (qan hp)) (dt (by omega)) a1 a2 (by omega) a3 a4 hc (dt (hc1.2 hlt)) (qag (by omega)) r⟩
   ·obtain⟨k,k1,k2,k3,r⟩:=ih i ((i+j)/2) (by omega) (by omega) (by omega) hi (fun q hq=>by
     rw[hp] at hq;cases hq
     exact hlt)
    exact⟨k,k1,k2,k3,qCc hp (qal (qan hp)) (dt (by omega)) a1 a2 (by omega) a3 a4 hc (df fun h=>hlt (hc1.1 h)) r⟩
  ·have:i=j:=by omega
   subst i;exact⟨j,h2,hi,hj,qpo (df (by omega))⟩
theorem qoW {l:List Pt} (hn:l.length≤1000000) (n:Int):∃ (k:Nat) (w:Bool),k≤l.length∧(∀ p,0<k→l[k-1]?=some p→p.id<n)∧(∀ p,l[k]?=some p→¬ p.id<n)∧(w=true→∃ p,l[k]?=some p∧p.id=n)∧(w=false→∀ p,l[k]?=some p→p.id≠n)∧
 Fn 267 1 [.ls 0 l.length,.pv (iV n),.pv (.func (.func 268) #[] #[])] [(0,0,qaH l)] (.pv (.tuple #[iV (k:Int),.bool w])) 0 []:=by
 obtain⟨k,k1,k2,k3,r⟩:=qrm hn (n:=n) l.length 0 l.length (by omega) (Nat.zero_le _) (Nat.le_refl _) (fun p h=>by omega) (fun p hp=>by have:=qan hp;omega);by_cases h:k<l.length
 ·obtain⟨p,hp⟩:=qah h;obtain⟨c,hc,hc1,hc2⟩:=qD8 p.id p.a p.b n;by_cases e:p.id=n
  ·exact⟨k,true,k1,k2,k3,fun _=>⟨p,hp,e⟩,fun h=>by (cases h),qxt r hp (qal h) (dt (by omega)) hc (by simpa using hc2.2 e)⟩
  ·exact⟨k,false,k1,k2,k3,fun h=>by (cases h),fun _ q hq=>by (rw[hp] at hq;cases hq;exact e),qCM r hp (qal h) (dt (by omega)) hc (by simpa using fun h=>e (hc2.1 h))⟩
 ·exact⟨k,false,k1,k2,k3,fun h=>by (cases h),fun _ q hq=>by (have:=qan hq;omega),qyi r (df (by omega))⟩
theorem qu4 {l:List Pt} (hn:l.length≤1000000) (hu:Up l) {n:Int} {k:Nat} {p:Pt} (hk:l[k]?=some p) (he:p.id=n):Fn 267 1 [.ls 0 l.length,.pv (iV n),.pv (.func (.func 268) #[] #[])] [(0,0,qaH l)] (.pv (.tuple #[iV (k:Int),.bool true])) 0 []:=by
 obtain⟨j,w,j1,j2,j3,j4,j5,r⟩:=qoW hn n;have hlk:=qan hk
 have e:j=k:=by
  rcases Nat.lt_trichotomy j k with h | h | h
  ·obtain⟨q,hq⟩:=qah (l:=l) (k:=j) (by omega);have:=hu.mono h hq hk;have:=j3 q hq;omega
  ·exact h
  ·obtain⟨q,hq⟩:=qah (l:=l) (k:=j-1) (by omega);have a:=j2 q (by omega) hq
   rcases Nat.lt_or_ge k (j-1) with h' | h'
   ·have:=hu.mono h' hk hq;omega
   ·have:j-1=k:=by omega
    rw[this,hk] at hq;cases hq;omega
 subst e;cases w
 ·exact (j5 rfl p hk he).elim
 ·exact r
theorem qtn {l:List Pt} (hn:l.length≤1000000) (hu:Up l) {n:Int} (h:∀ p∈l,p.id≠n):∃ k,k≤l.length∧(∀ (t:Nat) (p:Pt),t<k→l[t]?=some p→p.id<n)∧(∀ (t:Nat) (p:Pt),k≤t→l[t]?=some p→n<p.id)∧
 Fn 267 1 [.ls 0 l.length,.pv (iV n),.pv (.func (.func 268) #[] #[])] [(0,0,qaH l)] (.pv (.tuple #[iV (k:Int),.bool false])) 0 []:=by
 obtain⟨j,w,j1,j2,j3,j4,_,r⟩:=qoW hn n;cases w
 ·refine⟨j,j1,fun t p ht hp=>?_,fun t p ht hp=>?_,r⟩
  ·obtain⟨q,hq⟩:=qah (l:=l) (k:=j-1) (by omega);have a:=j2 q (by omega) hq
   rcases Nat.lt_or_ge t (j-1) with h' | h'
   ·have:=hu.mono h' hp hq;omega
   ·have:j-1=t:=by omega
    rw[this,hp] at hq;cases hq;exact a
  ·obtain⟨q,hq⟩:=qah (l:=l) (k:=j) (by have:=qan hp;omega);have a:=j3 q hq;have b:=h q (List.mem_of_getElem? hq)
   rcases Nat.lt_or_ge j t with h' | h'
   ·have:=hu.mono h' hq hp;omega
   ·have:t=j:=by omega
    rw[this,hq] at hp;cases hp;omega
 ·obtain⟨p,hp,e⟩:=j4 rfl;exact (h p (List.mem_of_getElem? hp) e).elim
end Go.Proofs.YtkckcgpmnipnaaaGreat
