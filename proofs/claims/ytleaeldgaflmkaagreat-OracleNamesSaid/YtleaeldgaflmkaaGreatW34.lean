/-
  Joined: Vl, Fg, Fh, Fi, Vm, Ff. Conditions: none.
-/
import Derived.Test.YtleaeldgaflmkaaGreatW33
import Derived.Test.YtleaeldgaflmkaaGreatW25
namespace Go.Proofs.YtleaeldgaflmkaaGreat
set_option maxRecDepth 100000
open Go.RowKit
structure Rz where
 n:Int
 d:Int
def rzV:List Rz→List Value
 | []=>[]
 | m::r=>iV m.n::iV m.d::rzV r
theorem qfV:∀ (l:List Rz),(rzV l).length=l.length*2
 | []=>rfl
 | p::r=>by simp[rzV,qfV r];omega
abbrev qi8 (n:Nat) (l:List Rz):SV:=.row 23 2 n (rzV l)
theorem qmi:∀ {l:List Rz} {k:Nat} {m:Rz},l[k]?=some m→(rzV l)[k*2]?=some (iV m.n)∧(rzV l)[k*2+1]?=some (iV m.d)
 | [],k,p,h=>by simp at h
 | q::r,0,p,h=>by simp at h;subst h;exact⟨rfl,rfl⟩
 | q::r,k+1,p,h=>by
  have:=qmi (l:=r) (k:=k) (m:=p) (by simpa using h)
  rw[show (k+1)*2=k*2+1+1 by omega]
  exact this
theorem raZ {l:List Rz} {k:Nat} {n d:Int} (h:l[k]?=some ⟨n,d⟩):qes (rzV l) (0*2+k*2) [iV n,iV d]:=by
 obtain⟨h1,h2⟩:=qmi h
 intro j v hj
 rw[show 0*2+k*2+j=k*2+j by omega]
 match j,hj with
 | 0,hj=>cases hj;exact h1
 | 1,hj=>cases hj;exact h2
 | j+2,hj=>simp at hj
theorem qji:∀ (l:List Rz) (k:Nat) (m:Rz),k<l.length→rzV (l.set k m)=qfJ (rzV l) (0*2+k*2) [iV m.n,iV m.d]
 | [],_,_,h=>by simp at h
 | q::r,0,m,_=>by simp[rzV,qfJ]
 | q::r,k+1,m,h=>by
  rw[show 0*2+(k+1)*2=(0*2+k*2)+1+1 by omega,List.set_cons_succ]
  show iV q.n::iV q.d::rzV (r.set k m)=_
  rw[qji r k m (by simpa using h)]
  simp[rzV,qfJ]
theorem qtZ (l:List Rz) (k:Nat) (h:k<l.length):0*2+k*2+2≤(rzV l).length:=by rw[qfV];omega
theorem quW:∀ n:Nat,qcZ [iV 0,iV 0] n=rzV (List.replicate n ⟨0,0⟩)
 | 0=>rfl
 | n+1=>by rw[List.replicate_succ];show _::_::qcZ _ n=_;rw[quW n];rfl
theorem qow (n:Nat):some (SV.row 23 2 n (qcZ [iV 0,iV 0] n))=some (qi8 n (List.replicate n ⟨0,0⟩)):=by rw[quW]
end Go.Proofs.YtleaeldgaflmkaaGreat

namespace Go.Proofs.YtleaeldgaflmkaaGreat
set_option maxRecDepth 100000
open Go.RowKit
theorem qpf {a pa pb id:Int} (n1:(!(a==a))=false) (n2:(!(id==id))=false) (h1:decide (a<id)=true):Pure Tryz.prog 83 #[qab a pa pb,iV id] (iV (-1)):=
 qac (args:=[qab a pa pb,iV id]) 200 [.k,.k,.t false,.k,.t false,.t true] (Ai rfl (Ai n1 (Ai n2 (Ai h1 tI)))) (by kernel_rfl)
theorem qqh {a pa pb id:Int} (n1:(!(a==a))=false) (n2:(!(id==id))=false) (h1:decide (a<id)=false) (h2:decide (a>id)=true):Pure Tryz.prog 83 #[qab a pa pb,iV id] (iV (1)):=
 qac (args:=[qab a pa pb,iV id]) 200 [.k,.k,.t false,.k,.t false,.t false,.t true] (Ai rfl (Ai n1 (Ai n2 (Ai h1 (Ai h2 tI))))) (by kernel_rfl)
theorem qqv {a pa pb id:Int} (n1:(!(a==a))=false) (n2:(!(id==id))=false) (h1:decide (a<id)=false) (h2:decide (a>id)=false):Pure Tryz.prog 83 #[qab a pa pb,iV id] (iV (0)):=
 qac (args:=[qab a pa pb,iV id]) 200 [.k,.k,.t false,.k,.t false,.t false,.t false] (Ai rfl (Ai n1 (Ai n2 (Ai h1 (Ai h2 tI))))) (by kernel_rfl)
abbrev qxj (i:Nat) (id:Int) (j:Nat) (l:List Pt):TmL:=[(0,.ls 0 l.length),(1,.pv (iV id)),(2,.pv (.func (.func 83) #[] #[])),(8,.pv (iV (l.length:Int))),(9,.pv (iV (i:Int))),(10,.pv (iV (j:Int)))]
abbrev qw7 (c:Int) (id:Int) (p:Pt):Prop:=Pure Tryz.prog 83 #[qab p.id p.a p.b,iV id] (iV (c))
theorem qzq {l:List Pt} {i j h:Nat} {p:Pt} {c:Int} {id:Int} (hk:l[h]?=some p) (hin:0≤(h:Int)∧(h:Int)<(l.length:Int)) (hlt:decide ((i:Int)<(j:Int))=true) (ha:iV (IntKind.i64.wrap ((i:Int)+(j:Int)))=iV ((i:Int)+(j:Int))) (hu:Value.int .u64 (IntKind.u64.wrap ((i:Int)+(j:Int)))=.int .u64 ((i:Int)+(j:Int))) (h1:¬ (1:Int)<0) (hs:Value.int .u64 (((i:Int)+(j:Int)).fdiv (2 ^ (min (1:Int).toNat IntKind.u64.bits)))=.int .u64 (h:Int)) (hb:iV (IntKind.i64.wrap (h:Int))=iV (h:Int)) (hc:qw7 c id p) (hz:decide (c<0)=true) (hh:iV (IntKind.i64.wrap ((h:Int)+1))=iV (((h+1:Nat):Int))) {e:Exit} {tm2:TmL} {hp2:HpL}
 (r:Rl 1 1 82 0 49 1 ([(0,.ls 0 l.length),(1,.pv (iV id)),(2,.pv (.func (.func 83) #[] #[])),(8,.pv (iV (l.length:Int))),(9,.pv (iV ((h+1:Nat):Int))),(10,.pv (iV (j:Int)))]) ([(0,0,qad l)]) e tm2 hp2):Rl 1 1 82 0 49 1 (qxj i id j l) ([(0,0,qad l)]) e tm2 hp2:=
 RunsL.next [] 300 [.t true,Re ha,Re hu,.r (.int .u64 (h:Int)),Re hb,.r (ptV p),Rf hc,.t true,Re hh]
  (Ro (Ai hlt (Ai ha (Ai hu (Ai h1 (Ai hs (Ai hb (Ai hin (Ai (qa4 hk) (Ai hc (Ai hz (Ai hh tI)))))))))))) r
theorem qy4 {l:List Pt} {i j h:Nat} {p:Pt} {c:Int} {id:Int} (hk:l[h]?=some p) (hin:0≤(h:Int)∧(h:Int)<(l.length:Int)) (hlt:decide ((i:Int)<(j:Int))=true) (ha:iV (IntKind.i64.wrap ((i:Int)+(j:Int)))=iV ((i:Int)+(j:Int))) (hu:Value.int .u64 (IntKind.u64.wrap ((i:Int)+(j:Int)))=.int .u64 ((i:Int)+(j:Int))) (h1:¬ (1:Int)<0) (hs:Value.int .u64 (((i:Int)+(j:Int)).fdiv (2 ^ (min (1:Int).toNat IntKind.u64.bits)))=.int .u64 (h:Int)) (hb:iV (IntKind.i64.wrap (h:Int))=iV (h:Int)) (hc:qw7 c id p) (hz:decide (c<0)=false) {e:Exit} {tm2:TmL} {hp2:HpL}
 (r:Rl 1 1 82 0 49 1 ([(0,.ls 0 l.length),(1,.pv (iV id)),(2,.pv (.func (.func 83) #[] #[])),(8,.pv (iV (l.length:Int))),(9,.pv (iV (i:Int))),(10,.pv (iV (h:Int)))]) ([(0,0,qad l)]) e tm2 hp2):Rl 1 1 82 0 49 1 (qxj i id j l) ([(0,0,qad l)]) e tm2 hp2:=
 RunsL.next [] 300 [.t true,Re ha,Re hu,.r (.int .u64 (h:Int)),Re hb,.r (ptV p),Rf hc,.t false]
  (Ro (Ai hlt (Ai ha (Ai hu (Ai h1 (Ai hs (Ai hb (Ai hin (Ai (qa4 hk) (Ai hc (Ai hz tI))))))))))) r
theorem qqR {l:List Pt} {i j:Nat} {id:Int} (hge:decide ((i:Int)<(j:Int))=false):Rl 1 1 82 0 49 1 (qxj i id j l) ([(0,0,qad l)]) (.exit 0) (qxj i id j l) ([(0,0,qad l)]):=
 RunsL.stop [] 300 [.t false] (fun h=>by cases h)
  (Ro (Ai hge tI))
abbrev qzb (id:Int) (k:Nat) (l:List Pt):Prop:=Rl 1 1 82 0 49 1 ([(0,.ls 0 l.length),(1,.pv (iV id)),(2,.pv (.func (.func 83) #[] #[])),(8,.pv (iV (l.length:Int))),(9,.pv (iV ((0:Nat):Int))),(10,.pv (iV (l.length:Int)))]) ([(0,0,qad l)]) (.exit 0) ([(0,.ls 0 l.length),(1,.pv (iV id)),(2,.pv (.func (.func 83) #[] #[])),(8,.pv (iV (l.length:Int))),(9,.pv (iV (k:Int))),(10,.pv (iV (k:Int)))]) ([(0,0,qad l)])
theorem qtU {l:List Pt} {k:Nat} {id:Int} (r0:qzb id k l) (hge:decide ((k:Int)<(l.length:Int))=false) :
 Fn 82 1 [.ls 0 l.length,.pv (iV (id)),.pv (.func (.func 83) #[] #[])] [(0,0,qad l)] (.pv (.tuple #[iV (k:Int),.bool false])) 0 []:=
 Fz [] [Lf r0,.t false]
  tI (Lo r0 [] (Ai hge tI))
theorem qrU {l:List Pt} {k:Nat} {p:Pt} {c:Int} {id:Int} (r0:qzb id k l) (hk:l[k]?=some p) (hin:0≤(k:Int)∧(k:Int)<(l.length:Int)) (hlt:decide ((k:Int)<(l.length:Int))=true) (hc:qw7 c id p) (hz:(c==0)=true) :
 Fn 82 1 [.ls 0 l.length,.pv (iV (id)),.pv (.func (.func 83) #[] #[])] [(0,0,qad l)] (.pv (.tuple #[iV (k:Int),.bool true])) 0 []:=
 Fz [] [Lf r0,.t true,.r (ptV p),Rf hc,.t true]
  tI (Lo r0 [] (Ai hlt (Ai hin (Ai (qa4 hk) (Ai hc (Ai hz tI))))))
theorem qvG {l:List Pt} {k:Nat} {p:Pt} {c:Int} {id:Int} (r0:qzb id k l) (hk:l[k]?=some p) (hin:0≤(k:Int)∧(k:Int)<(l.length:Int)) (hlt:decide ((k:Int)<(l.length:Int))=true) (hc:qw7 c id p) (hz:(c==0)=false) :
 Fn 82 1 [.ls 0 l.length,.pv (iV (id)),.pv (.func (.func 83) #[] #[])] [(0,0,qad l)] (.pv (.tuple #[iV (k:Int),.bool false])) 0 []:=
 Fz [] [Lf r0,.t true,.r (ptV p),Rf hc,.t false]
  tI (Lo r0 [] (Ai hlt (Ai hin (Ai (qa4 hk) (Ai hc (Ai hz tI))))))
theorem qeX {l:List Pt} {k:Nat} {b:Bool} {id:Int} (hb:Fn 82 1 [.ls 0 l.length,.pv (iV (id)),.pv (.func (.func 83) #[] #[])] [(0,0,qad l)] (.pv (.tuple #[iV (k:Int),.bool b])) 0 []) :
 Fn 58 1 [qaq 0 l,.pv (iV (id))] [(0,0,qad l)] (.pv (.tuple #[iV (k:Int),.bool b])) 0 []:=
 Fz [] [Cf hb [0]]
  tI (Co hb [0] 2 tI)
theorem qmF {l:List Pt} {k:Nat} {p:Pt} {id:Int} (hk:l[k]?=some p) (hin:0≤(k:Int)∧(k:Int)<(l.length:Int)) (hc:Fn 44 1 [qaq 0 l] [(0,0,qad l)] (.pv (iV (0))) 0 []) (hf:Fn 58 1 [qaq 0 l,.pv (iV (id))] [(0,0,qad l)] (.pv (.tuple #[iV (k:Int),.bool true])) 0 []) :
 Fn 36 1 [qaq 0 l,.pv (iV (id))] [(0,0,qad l)] (.pv (.tuple #[ptV p,iV (0)])) 0 []:=
 Fz [] [Cf hc [0],.k,Cf hf [0],.k,.r (ptV p)]
  tI (Co hc [0] 3 (Co hf [0] 3 (Ai hin (Ai (qa4 hk) tI))))
theorem qu3 {s:Int} (h0:decide (s<0)=false) (hs:iV (IntKind.i64.wrap (s-0))=iV (s)) (hg:decide (s>0)=false) :
 Fn 148 0 [.pv (.slice none 0 0),.pv (iV (s))] [] (.pv (.slice none 0 0)) 0 []:=
 Fz [] [.t false,.k,Re hs,.t false]
  tI (Ai h0 (Ai hs (Ai hg tI)))
theorem qvt {s:Int} (h0:decide (s<0)=false) (hs:iV (IntKind.i64.wrap (s-0))=iV (s)) (hg:decide (s>0)=true) (a0:0≤s) (a1:s≤1000000) :
 Fn 148 0 [.pv (.slice none 0 0),.pv (iV (s))] [] (.ls 0 0) 1 [(0,0,qad ([]:List Pt))]:=
 Fz [(0,1)] [.t false,.k,Re hs,.t true,.w []]
  (qaH (qaG [(0,1)]) [(0,0,qad ([]:List Pt))]) (Ai h0 (Ai hs (Ai hg (Ai a0 (Ai a1 (Ai (Int.le_refl (0:Int)) (Ai (Nat.zero_le s.toNat) tI)))))))
end Go.Proofs.YtleaeldgaflmkaaGreat

namespace Go.Proofs.YtleaeldgaflmkaaGreat
set_option maxRecDepth 100000
open Go.RowKit
theorem qjL {l:List Pt} {pi pa pb:Int} {e:Int} (hc:Fn 116 1 [qaq 0 l,.pv (qab pi pa pb)] [(0,0,qad l)] (.pv (iV (e))) 0 []) (he:(e !=0)=true) :
 Fn 95 1 [qaq 0 l,.pv (qab pi pa pb)] [(0,0,qad l)] (.pv (.tuple #[.agg #[.slice none 0 0],iV (e)])) 0 []:=
 Fz [] [Cf hc [0],.t true]
  tI (Co hc [0] 4 (Ai he tI))
abbrev quS (l:List Pt) (pa:Int) (pb:Int) (pi:Int):Prop:=Fn 116 1 [qaq 0 l,.pv (qab pi pa pb)] [(0,0,qad l)] (.pv (iV (0))) 0 []
theorem qk2 {l:List Pt} {k:Nat} {pi pa pb:Int} (hc:quS l pa pb pi) (hf:Fn 58 1 [qaq 0 l,.pv (iV (pi))] [(0,0,qad l)] (.pv (.tuple #[iV (k:Int),.bool true])) 0 []) :
 Fn 95 1 [qaq 0 l,.pv (qab pi pa pb)] [(0,0,qad l)] (.pv (.tuple #[.agg #[.slice none 0 0],iV (14)])) 0 []:=
 Fz [] [Cf hc [0],.k,Cf hf [0]]
  tI (Co hc [0] 4 (Co hf [0] 4 tI))
abbrev qxF (k:Nat) (l:List Pt) (pi:Int):Prop:=Fn 58 1 [qaq 0 l,.pv (iV (pi))] [(0,0,qad l)] (.pv (.tuple #[iV (k:Int),.bool false])) 0 []
theorem qlu {l:List Pt} {k:Nat} {pi pa pb:Int} (hc:quS l pa pb pi) (hf:qxF k l pi) (h64:((l.length:Int)==64)=true) :
 Fn 95 1 [qaq 0 l,.pv (qab pi pa pb)] [(0,0,qad l)] (.pv (.tuple #[.agg #[.slice none 0 0],iV (18)])) 0 []:=
 Fz [] [Cf hc [0],.k,Cf hf [0],.t true]
  tI (Co hc [0] 4 (Co hf [0] 4 (Ai h64 tI)))
theorem qub {l:List Pt} {k:Nat} {pi pa pb:Int} {s1 s2 s3:Int} (hkl:k≤l.length) (hc:quS l pa pb pi) (hf:qxF k l pi) (h64:((l.length:Int)==64)=false) (q1:iV (IntKind.i64.wrap ((0:Int)+((k:Nat):Int)))=iV s1) (n1:decide (s1<0)=false) (q2:iV (IntKind.i64.wrap (s1+((1:Nat):Int)))=iV s2) (n2:decide (s2<0)=false) (q3:iV (IntKind.i64.wrap (s2+((l.length-k:Nat):Int)))=iV s3) (n3:decide (s3<0)=false) (hgr:Fn 148 0 [.pv (.slice none 0 0),.pv (iV (s3))] [] (.ls 0 0) 1 [(0,0,qad ([]:List Pt))]) (m1:0+k≤1000000) (m2:0+k+1≤1000000) (m3:0+k+1+(l.length-k)≤1000000) :
 Fn 95 1 [qaq 0 l,.pv (qab pi pa pb)] [(0,0,qad l)] (.tu [.ag [.ls 1 (l.take k++(Pt.mk pi pa pb)::l.drop k).length],.one (.pv (iV 0))]) 1 [(1,0,qad (l.take k++(Pt.mk pi pa pb)::l.drop k))]:=
 Fx [(1,10)] [Cf hc [0],.k,Cf hf [0],.t false,.k,.k,.k,.k,.k,.r (iV s1),.t false,.k,.k,.r (iV s2),.t false,.k,.k,.r (iV s3),.t false,.k,.k,Cf hgr [],.k,.k,.k,.k,.k,.k,.k]
  (qvH 10 l k (Pt.mk pi pa pb) hkl) (Ai (qtf l k (Pt.mk pi pa pb) hkl) tI) (Co hc [0] 4 (Co hf [0] 4 (Ai h64 (Ai tI (Ai (Int.natCast_nonneg k) (Ai (Nat.zero_le k) (Ai hkl (Ai (Int.natCast_nonneg k) (Ai tI (Ai hkl (Ai (Nat.le_refl l.length) (Ai q1 (Ai n1 (Ai q2 (Ai n2 (Ai q3 (Ai n3 (Co hgr [] 7 (Ai m1 (Ai m2 (Ai m3 tI)))))))))))))))))))))
theorem qlV {l:List Pt} {id:Int} {e:Int} (hc:Fn 44 1 [qaq 0 l] [(0,0,qad l)] (.pv (iV (e))) 0 []) (he:(e !=0)=true) :
 Fn 96 1 [qaq 0 l,.pv (iV (id))] [(0,0,qad l)] (.pv (.tuple #[.agg #[.slice none 0 0],iV (e)])) 0 []:=
 Fz [] [Cf hc [0],.t true]
  tI (Co hc [0] 3 (Ai he tI))
abbrev qx3 (l:List Pt):Prop:=Fn 44 1 [qaq 0 l] [(0,0,qad l)] (.pv (iV (0))) 0 []
theorem qql {l:List Pt} {k:Nat} {id:Int} (hc:qx3 l) (hf:Fn 58 1 [qaq 0 l,.pv (iV (id))] [(0,0,qad l)] (.pv (.tuple #[iV (k:Int),.bool false])) 0 []) :
 Fn 96 1 [qaq 0 l,.pv (iV (id))] [(0,0,qad l)] (.pv (.tuple #[.agg #[.slice none 0 0],iV (6)])) 0 []:=
 Fz [] [Cf hc [0],.k,Cf hf [0],.k]
  tI (Co hc [0] 3 (Co hf [0] 3 tI))
theorem qm7 {l:List Pt} {k:Nat} {id:Int} {s1 s2:Int} (hkl:k≤l.length) (hkl1:k+1≤l.length) (hc:qx3 l) (hf:Fn 58 1 [qaq 0 l,.pv (iV (id))] [(0,0,qad l)] (.pv (.tuple #[iV (k:Int),.bool true])) 0 []) (hk1:iV (IntKind.i64.wrap ((k:Int)+1))=iV (((k+1:Nat):Int))) (q1:iV (IntKind.i64.wrap ((0:Int)+((k:Nat):Int)))=iV s1) (n1:decide (s1<0)=false) (q2:iV (IntKind.i64.wrap (s1+((l.length-(k+1):Nat):Int)))=iV s2) (n2:decide (s2<0)=false) (hgr:Fn 148 0 [.pv (.slice none 0 0),.pv (iV (s2))] [] (.ls 0 0) 1 [(0,0,qad ([]:List Pt))]) (m1:0+k≤1000000) (m2:0+k+(l.length-(k+1))≤1000000) :
 Fn 96 1 [qaq 0 l,.pv (iV (id))] [(0,0,qad l)] (.tu [.ag [.ls 1 (l.take k++l.drop (k+1)).length],.one (.pv (iV 0))]) 1 [(1,0,qad (l.take k++l.drop (k+1)))]:=
 Fx [(1,7)] [Cf hc [0],.k,Cf hf [0],.k,.k,Re hk1,.k,.k,.k,.k,.r (iV s1),.t false,.k,.k,.r (iV s2),.t false,.k,.k,Cf hgr [],.k,.k,.k,.k,.k]
  (ql1 7 l k hkl1) (Ai (qjI l k hkl1) tI) (Co hc [0] 3 (Co hf [0] 3 (Ai tI (Ai (Int.natCast_nonneg k) (Ai (Nat.zero_le k) (Ai hkl (Ai hk1 (Ai (Int.natCast_nonneg (k+1)) (Ai tI (Ai hkl1 (Ai (Nat.le_refl l.length) (Ai q1 (Ai n1 (Ai q2 (Ai n2 (Co hgr [] 5 (Ai m1 (Ai m2 tI))))))))))))))))))
theorem qoc {l:List Pt} {k:Nat} {id:Int} {s1 s2:Int} (hkl:k≤l.length) (hkl1:k+1≤l.length) (hc:qx3 l) (hf:Fn 58 1 [qaq 0 l,.pv (iV (id))] [(0,0,qad l)] (.pv (.tuple #[iV (k:Int),.bool true])) 0 []) (hk1:iV (IntKind.i64.wrap ((k:Int)+1))=iV (((k+1:Nat):Int))) (q1:iV (IntKind.i64.wrap ((0:Int)+((k:Nat):Int)))=iV s1) (n1:decide (s1<0)=false) (q2:iV (IntKind.i64.wrap (s1+((l.length-(k+1):Nat):Int)))=iV s2) (n2:decide (s2<0)=false) (hgr:Fn 148 0 [.pv (.slice none 0 0),.pv (iV (s2))] [] (.pv (.slice none 0 0)) 0 []) (m1:0+k≤1000000) (m2:0+k+(l.length-(k+1))≤1000000) :
 Fn 96 1 [qaq 0 l,.pv (iV (id))] [(0,0,qad l)] (.tu [.ag [.ls 1 (l.take k++l.drop (k+1)).length],.one (.pv (iV 0))]) 1 [(1,0,qad (l.take k++l.drop (k+1)))]:=
 Fx [(1,6)] [Cf hc [0],.k,Cf hf [0],.k,.k,Re hk1,.k,.k,.k,.k,.r (iV s1),.t false,.k,.k,.r (iV s2),.t false,.k,.k,Cf hgr [],.k,.k,.k,.k,.k]
  (ql1 6 l k hkl1) (Ai (qjI l k hkl1) tI) (Co hc [0] 3 (Co hf [0] 3 (Ai tI (Ai (Int.natCast_nonneg k) (Ai (Nat.zero_le k) (Ai hkl (Ai hk1 (Ai (Int.natCast_nonneg (k+1)) (Ai tI (Ai hkl1 (Ai (Nat.le_refl l.length) (Ai q1 (Ai n1 (Ai q2 (Ai n2 (Co hgr [] 5 (Ai m1 (Ai m2 tI))))))))))))))))))
theorem qe8 {l:List Pt} {pi pa pb:Int} {e:Int} (hc:Fn 116 1 [qaq 0 l,.pv (qab pi pa pb)] [(0,0,qad l)] (.pv (iV (e))) 0 []) (he:(e !=0)=true) :
 Fn 97 1 [qaq 0 l,.pv (qab pi pa pb)] [(0,0,qad l)] (.pv (.tuple #[.agg #[.slice none 0 0],iV (e)])) 0 []:=
 Fz [] [Cf hc [0],.t true]
  tI (Co hc [0] 4 (Ai he tI))
theorem qkG {l:List Pt} {k:Nat} {pi pa pb:Int} (hc:quS l pa pb pi) (hf:qxF k l pi) :
 Fn 97 1 [qaq 0 l,.pv (qab pi pa pb)] [(0,0,qad l)] (.pv (.tuple #[.agg #[.slice none 0 0],iV (6)])) 0 []:=
 Fz [] [Cf hc [0],.k,Cf hf [0],.k]
  tI (Co hc [0] 4 (Co hf [0] 4 tI))
theorem qiV {l:List Pt} {k:Nat} {pi pa pb:Int} {s1 s2 s3:Int} (hkl:k≤l.length) (hkl1:k+1≤l.length) (hc:quS l pa pb pi) (hf:Fn 58 1 [qaq 0 l,.pv (iV (pi))] [(0,0,qad l)] (.pv (.tuple #[iV (k:Int),.bool true])) 0 []) (hk1:iV (IntKind.i64.wrap ((k:Int)+1))=iV (((k+1:Nat):Int))) (q1:iV (IntKind.i64.wrap ((0:Int)+((k:Nat):Int)))=iV s1) (n1:decide (s1<0)=false) (q2:iV (IntKind.i64.wrap (s1+((1:Nat):Int)))=iV s2) (n2:decide (s2<0)=false) (q3:iV (IntKind.i64.wrap (s2+((l.length-(k+1):Nat):Int)))=iV s3) (n3:decide (s3<0)=false) (hgr:Fn 148 0 [.pv (.slice none 0 0),.pv (iV (s3))] [] (.ls 0 0) 1 [(0,0,qad ([]:List Pt))]) (m1:0+k≤1000000) (m2:0+k+1≤1000000) (m3:0+k+1+(l.length-(k+1))≤1000000) :
 Fn 97 1 [qaq 0 l,.pv (qab pi pa pb)] [(0,0,qad l)] (.tu [.ag [.ls 1 (l.take k++(Pt.mk pi pa pb)::l.drop (k+1)).length],.one (.pv (iV 0))]) 1 [(1,0,qad (l.take k++(Pt.mk pi pa pb)::l.drop (k+1)))]:=
 Fx [(1,10)] [Cf hc [0],.k,Cf hf [0],.k,.k,Re hk1,.k,.k,.k,.k,.r (iV s1),.t false,.k,.k,.r (iV s2),.t false,.k,.k,.r (iV s3),.t false,.k,.k,Cf hgr [],.k,.k,.k,.k,.k,.k,.k]
  (qwE 10 l k (Pt.mk pi pa pb) hkl1) (Ai (qrM l k (Pt.mk pi pa pb) hkl1) tI) (Co hc [0] 4 (Co hf [0] 4 (Ai tI (Ai (Int.natCast_nonneg k) (Ai (Nat.zero_le k) (Ai hkl (Ai hk1 (Ai (Int.natCast_nonneg (k+1)) (Ai tI (Ai hkl1 (Ai (Nat.le_refl l.length) (Ai q1 (Ai n1 (Ai q2 (Ai n2 (Ai q3 (Ai n3 (Co hgr [] 7 (Ai m1 (Ai m2 (Ai m3 tI)))))))))))))))))))))
end Go.Proofs.YtleaeldgaflmkaaGreat

namespace Go.Proofs.YtleaeldgaflmkaaGreat
set_option maxRecDepth 100000
open Go.RowKit
abbrev quN (td:Int) (tn:Int):HpL:=[(0,0,.pv (iV tn)),(0,1,.pv (iV td))]
theorem qxR {p q:Pt} {tn td:Int} (he:(p.id==q.id)=true) :
 Fn 80 1 [.pv (ptV p),.pv (ptV q),.pp 0 0] (quN td tn) (.pv (iV (0))) 0 []:=
 Fz [] [.t true]
  tI (Ai he tI)
theorem qzs {p q:Pt} {tn td:Int} (he:(p.id==q.id)=false) (ha:Pure Tryz.prog 81 #[qab p.id p.a p.b,qab q.id q.a q.b,qaa tn td] (.tuple #[.bool true,iV 0])) :
 Fn 80 1 [.pv (ptV p),.pv (ptV q),.pp 0 0] (quN td tn) (.pv (iV (-1))) 0 []:=
 Fz [] [.t false,Rf ha]
  tI (Ai he (Ai ha tI))
theorem qx4 {p q:Pt} {tn td:Int} (he:(p.id==q.id)=false) (ha:Pure Tryz.prog 81 #[qab p.id p.a p.b,qab q.id q.a q.b,qaa tn td] (.tuple #[.bool false,iV 0])) :
 Fn 80 1 [.pv (ptV p),.pv (ptV q),.pp 0 0] (quN td tn) (.pv (iV (1))) 0 []:=
 Fz [] [.t false,Rf ha]
  tI (Ai he (Ai ha tI))
abbrev qun (l:List Pt) (m:Pt) (td:Int) (tn:Int):HpL:=[(0,0,qad l),(1,0,.pv (iV tn)),(1,1,.pv (iV td)),(3,0,.pv (iV (m).id)),(3,1,.pv (iV (m).a)),(3,2,.pv (iV (m).b)),(2,0,.pv (iV 0)),(2,1,.pv (iV 0)),(2,2,.pv (iV 0))]
abbrev qz0 (l:List Pt) (p:Pt) (td:Int) (tn:Int):HpL:=[(0,0,qad l),(1,0,.pv (iV tn)),(1,1,.pv (iV td)),(3,0,.pv (iV (p).id)),(3,1,.pv (iV (p).a)),(3,2,.pv (iV (p).b)),(2,0,.pv (iV 0)),(2,1,.pv (iV 0)),(2,2,.pv (iV 0))]
abbrev qx6 (k:Nat) (l:List Pt):TmL:=[(0,.ls 0 l.length),(1,.pc 80 [.pp 1 0]),(4,.pp 2 0),(5,.pp 3 0),(6,.pv (iV (k:Int)))]
theorem qym {l:List Pt} {k:Nat} {p m:Pt} {c:Int} {tn td:Int} (hk:l[k]?=some p) (hin:0≤(k:Int)∧(k:Int)<(l.length:Int)) (hlt:decide ((k:Int)<(l.length:Int))=true) (hc:Fn 80 1 [.pv (ptV p),.pv (ptV m),.pp 0 0] (quN td tn) (.pv (iV (c))) 0 []) (hz:decide (c<0)=true) (hs:iV (IntKind.i64.wrap ((k:Int)+1))=iV (((k+1:Nat):Int))) {e:Exit} {tm2:TmL} {hp2:HpL}
 (r:Rl 2 2 56 0 33 4 ([(0,.ls 0 l.length),(1,.pc 80 [.pp 1 0]),(4,.pp 2 0),(5,.pp 3 0),(6,.pv (iV ((k+1:Nat):Int)))]) (qz0 l p td tn) e tm2 hp2):Rl 2 2 56 0 33 4 (qx6 k l) (qun l m td tn) e tm2 hp2:=
 RunsL.next [] 300 [.t true,.r (ptV p),Cf hc [1],.t true,.r (ptV p),Re hs]
  (Ro (Ai hlt (Ai hin (Ai (qa4 hk) (Co hc [1] 4 (Ai hz (Ai hin (Ai (qa4 hk) (Ai hs tI))))))))) r
theorem qzD {l:List Pt} {k:Nat} {p m:Pt} {c:Int} {tn td:Int} (hk:l[k]?=some p) (hin:0≤(k:Int)∧(k:Int)<(l.length:Int)) (hlt:decide ((k:Int)<(l.length:Int))=true) (hc:Fn 80 1 [.pv (ptV p),.pv (ptV m),.pp 0 0] (quN td tn) (.pv (iV (c))) 0 []) (hz:decide (c<0)=false) (hs:iV (IntKind.i64.wrap ((k:Int)+1))=iV (((k+1:Nat):Int))) {e:Exit} {tm2:TmL} {hp2:HpL}
 (r:Rl 2 2 56 0 33 4 ([(0,.ls 0 l.length),(1,.pc 80 [.pp 1 0]),(4,.pp 2 0),(5,.pp 3 0),(6,.pv (iV ((k+1:Nat):Int)))]) (qun l m td tn) e tm2 hp2):Rl 2 2 56 0 33 4 (qx6 k l) (qun l m td tn) e tm2 hp2:=
 RunsL.next [] 300 [.t true,.r (ptV p),Cf hc [1],.t false,Re hs]
  (Ro (Ai hlt (Ai hin (Ai (qa4 hk) (Co hc [1] 4 (Ai hz (Ai hs tI))))))) r
theorem qwa {l:List Pt} {k:Nat} {m:Pt} {tn td:Int} (hge:decide ((k:Int)<(l.length:Int))=false):Rl 2 2 56 0 33 4 (qx6 k l) (qun l m td tn) (.exit 0) ([(4,.pp 2 0),(5,.pp 3 0)]) (qun l m td tn):=
 RunsL.stop [] 300 [.t false] (fun h=>by cases h)
  (Ro (Ai hge tI))
theorem qtI {l:List Pt} {p m:Pt} {tn td:Int} (hk:l[0]?=some p) (hin:0≤(0:Int)∧(0:Int)<(l.length:Int)) (h1:decide ((l.length:Int)<1)=false) (r0:Rl 2 2 56 0 33 4 ([(0,.ls 0 l.length),(1,.pc 80 [.pp 1 0]),(4,.pp 2 0),(5,.pp 3 0),(6,.pv (iV ((0+1:Nat):Int)))]) (qz0 l p td tn) (.exit 0) ([(4,.pp 2 0),(5,.pp 3 0)]) (qun l m td tn)) :
 Fn 56 2 [.ls 0 l.length,.pc 80 [.pp 1 0]] [(0,0,qad l),(1,0,.pv (iV tn)),(1,1,.pv (iV td))] (.pv (ptV m)) 0 []:=
 Fz [] [.t false,.r (ptV p),Lf r0]
  tI (Ai h1 (Ai hin (Ai (qa4 hk) (Lo r0 [] tI))))
theorem qpO {l:List Pt} {tn td:Int} (hc:Fn 55 1 [qaq 0 l,.pv (qaa tn td)] [(0,0,qad l)] (.pv (iV (0))) 0 []) (h0:((l.length:Int)==0)=true) :
 Fn 35 1 [qaq 0 l,.pv (qaa tn td)] [(0,0,qad l)] (.pv (.tuple #[iV (0),iV (42)])) 0 []:=
 Fz [] [Cf hc [0],.k,.t true]
  tI (Co hc [0] 3 (Ai h0 tI))
theorem qmj {l:List Pt} {m:Pt} {tn td:Int} (hc:Fn 55 1 [qaq 0 l,.pv (qaa tn td)] [(0,0,qad l)] (.pv (iV (0))) 0 []) (h0:((l.length:Int)==0)=false) (hm:Fn 56 2 [.ls 0 l.length,.pc 80 [.pp 1 0]] [(0,0,qad l),(1,0,.pv (iV tn)),(1,1,.pv (iV td))] (.pv (ptV m)) 0 []) :
 Fn 35 1 [qaq 0 l,.pv (qaa tn td)] [(0,0,qad l)] (.pv (.tuple #[iV (m.id),iV (0)])) 0 []:=
 Fz [] [Cf hc [0],.k,.t false,.k,Cf hm [0,3]]
  tI (Co hc [0] 3 (Ai h0 (Co hm [0,3] 4 tI)))
theorem qks {l:List Pt} (h0:0<l.length) (hn:0+l.length≤1000000) :
 Fn 68 1 [.ls 0 l.length] [(0,0,qad l)] (.ls 1 l.length) 1 [(1,0,qad l)]:=
 Fx [(1,2)] [.t false]
  (qrZ l) (Ai (qjJ l) tI) (Ai h0 (Ai hn tI))
theorem qtw {ad:Addr} {c:Nat} :
 Fn 68 0 [.pv (.slice (some ad) 0 c)] [] (.ls 0 0) 1 [(0,0,qad ([]:List Pt))]:=
 Fz [(0,1)] [.k]
  (qaH (qaG [(0,1)]) [(0,0,qad ([]:List Pt))]) (Ai (Nat.zero_le _:0+0≤1000000) tI)
theorem qoa {c:Nat}:Pure Tryz.prog 68 #[.slice none 0 c] (.slice none 0 0):=
 qac (args:=[.slice none 0 c]) 200 [] (Ai rfl tI) (by kernel_rfl)
end Go.Proofs.YtleaeldgaflmkaaGreat

namespace Go.Proofs.YtleaeldgaflmkaaGreat
set_option maxRecDepth 100000
open Go.RowKit
theorem qyU {n1 d1 n2 d2 er:Int} (h1:Pure Tryz.prog 102 #[qaa n1 d1,qaa n2 d2] (.tuple #[iV er,iV 0])) (h2:decide (er<0)=true) :
 Pure Tryz.prog 71 #[qaa n1 d1,qaa n2 d2] (.bool true):=
 qac (args:=[qaa n1 d1,qaa n2 d2]) 300 [Rf h1,.t true]
  (Ai rfl (Ai h1 (Ai h2 tI))) (by kernel_rfl)
theorem qxK {n1 d1 n2 d2 er:Int} (h1:Pure Tryz.prog 102 #[qaa n1 d1,qaa n2 d2] (.tuple #[iV er,iV 0])) (h2:decide (er<0)=false) :
 Pure Tryz.prog 71 #[qaa n1 d1,qaa n2 d2] (.bool false):=
 qac (args:=[qaa n1 d1,qaa n2 d2]) 300 [Rf h1,.t false]
  (Ai rfl (Ai h1 (Ai h2 tI))) (by kernel_rfl)
abbrev qw8 (s:List Pt) (td:Int) (tn:Int) (ts:List Rz):HpL:=[(1,0,.ls 0 s.length),(2,0,.pv (iV tn)),(2,1,.pv (iV td)),(4,0,.ls 3 s.length),(0,0,qad s),(3,0,qi8 s.length ts)]
theorem qoN {tn td n1 d1 er:Int} {s:List Pt} {p:Pt} {k:Nat} {ts:List Rz} (hlt:decide ((k:Int)<(s.length:Int))=true) (hin:0≤(k:Int)∧(k:Int)<(s.length:Int)) (hp:s[k]?=some p) (ha:Pure Tryz.prog 37 #[qab p.id p.a p.b,qaa tn td] (.tuple #[qaa n1 d1,iV er])) (hk:k<ts.length) (hs:iV (IntKind.i64.wrap ((k:Int)+1))=iV (((k+1:Nat):Int))) {e:Exit} {tm2:TmL} {hp2:HpL}
 (r:Rl 1 1 70 0 31 5 ([(2,.pp 1 0),(3,.pp 2 0),(5,.pp 4 0),(13,.ls 0 s.length),(14,.pv (iV (s.length:Int))),(15,.pv (iV ((k+1:Nat):Int)))]) ([(1,0,.ls 0 s.length),(2,0,.pv (iV tn)),(2,1,.pv (iV td)),(4,0,.ls 3 s.length),(0,0,qad s),(3,0,qi8 s.length (ts.set k ⟨n1,d1⟩))]) e tm2 hp2):Rl 1 1 70 0 31 5 ([(2,.pp 1 0),(3,.pp 2 0),(5,.pp 4 0),(13,.ls 0 s.length),(14,.pv (iV (s.length:Int))),(15,.pv (iV (k:Int)))]) (qw8 s td tn ts) e tm2 hp2:=
 RunsL.next [] 300 [.t true,.r (ptV p),.gh [(4,0),(5,0),(5,1),(5,2),(2,0),(2,1)],Rf ha,.w (rzV (ts.set k ⟨n1,d1⟩)),Re hs]
  (Ro (Ai hlt (Ai hin (Ai (qa4 hp) (Ai (Er (SV.ls 3 s.length)) (Ai (Er (SV.pv (iV p.id))) (Ai (Er (SV.pv (iV p.a))) (Ai (Er (SV.pv (iV p.b))) (Ai (Er (SV.pv (iV tn))) (Ai (Er (SV.pv (iV td))) (Ai ha (Ai (Er (SV.ls 3 s.length)) (Ai (Er (SV.pv (iV p.id))) (Ai (Er (SV.pv (iV p.a))) (Ai (Er (SV.pv (iV p.b))) (Ai (Er (SV.pv (iV tn))) (Ai (Er (SV.pv (iV td))) (Ai (Er (SV.ls 3 s.length)) (Ai (Er (SV.pv (iV p.id))) (Ai (Er (SV.pv (iV p.a))) (Ai (Er (SV.pv (iV p.b))) (Ai (Er (SV.pv (iV tn))) (Ai (Er (SV.pv (iV td))) (Ai hin (Ai (Er (SV.ls 3 s.length)) (Ai (Er (SV.pv (iV p.id))) (Ai (Er (SV.pv (iV p.a))) (Ai (Er (SV.pv (iV p.b))) (Ai (Er (SV.pv (iV tn))) (Ai (Er (SV.pv (iV td))) (Ai (qji ts k ⟨n1,d1⟩ hk) (Ai (qtZ ts k hk) (Ai (Er (SV.ls 3 s.length)) (Ai (Er (SV.pv (iV p.id))) (Ai (Er (SV.pv (iV p.a))) (Ai (Er (SV.pv (iV p.b))) (Ai (Er (SV.pv (iV tn))) (Ai (Er (SV.pv (iV td))) (Ai hs tI))))))))))))))))))))))))))))))))))))))) r
theorem qtl {tn td:Int} {s:List Pt} {k:Nat} {ts:List Rz} (hlt:decide ((k:Int)<(s.length:Int))=false):Rl 1 1 70 0 31 5 ([(2,.pp 1 0),(3,.pp 2 0),(5,.pp 4 0),(13,.ls 0 s.length),(14,.pv (iV (s.length:Int))),(15,.pv (iV (k:Int)))]) (qw8 s td tn ts) (.exit 0) ([(2,.pp 1 0),(5,.pp 4 0)]) (qw8 s td tn ts):=
 RunsL.stop [] 300 [.t false] (fun h=>by cases h)
  (Ro (Ai hlt tI))
theorem qwd {tn td:Int} {s:List Pt} {ts:List Rz} (n0:0≤(s.length:Int)) (n1l:(s.length:Int)≤1000000) (r0:Rl 1 1 70 0 31 5 ([(2,.pp 1 0),(3,.pp 2 0),(5,.pp 4 0),(13,.ls 0 s.length),(14,.pv (iV (s.length:Int))),(15,.pv (iV ((0:Nat):Int)))]) ([(1,0,.ls 0 s.length),(2,0,.pv (iV tn)),(2,1,.pv (iV td)),(4,0,.ls 3 s.length),(0,0,qad s),(3,0,qi8 s.length (List.replicate s.length ⟨0,0⟩))]) (.exit 0) ([(2,.pp 1 0),(5,.pp 4 0)]) (qw8 s td tn ts)) :
 Fn 70 1 [qaq 0 s,.pv (qaa tn td)] [(0,0,qad s)] (.pc 100 [.pp 2 0,.pp 1 0]) 3 [(1,0,.ls 0 s.length),(2,0,.ls 3 s.length),(3,0,qi8 s.length ts)]:=
 Fz [(2,4)] [Lf r0]
  (qaH (qaG [(2,4)]) [(1,0,.ls 0 s.length),(2,0,.ls 3 s.length),(3,0,qi8 s.length ts)]) (Ai n0 (Ai (Eq.refl (s.length:Int)) (Ai n1l (Ai (Lt r0 []) (Ai (Ai (Er (SV.ls 0 s.length)) (Ai (Er (SV.pv (iV tn))) (Ai (Er (SV.pv (iV td))) (Ai (Er (SV.ls 3 s.length)) (Ai (Er (qad s)) (Ai (qow s.length) tI)))))) (Ai r0 tI))))))
abbrev qxi (s:List Pt) (ts:List Rz):HpL:=[(0,0,qad s),(1,0,.ls 0 s.length),(2,0,.ls 3 s.length),(3,0,qi8 s.length ts)]
theorem ppc {n1 d1 n2 d2 n3 d3 er e1:Int} {s:List Pt} {p q:Pt} {i j:Nat} {ts:List Rz} (ia:0≤(i:Int)∧(i:Int)<(s.length:Int)) (ib:0≤(j:Int)∧(j:Int)<(s.length:Int)) (ht:ts[i]?=some ⟨n1,d1⟩) (hu:ts[j]?=some ⟨n2,d2⟩) (hp:s[i]?=some p) (hq:s[j]?=some q) (cs:Pure Tryz.prog 101 #[qaa n1 d1,qaa n2 d2] (.tuple #[qaa n3 d3,iV er])) (hn:iV (IntKind.i64.wrap (0-n3))=iV (e1)) :
 Fn 100 4 [.pv (iV (i:Int)),.pv (iV (j:Int)),.pp 2 0,.pp 1 0] (qxi s ts) (.pv (.agg #[iV p.id,iV q.id,iV (if e1>n3 then e1 else n3),iV d3])) 0 []:=
 Fz [] [.md,.r (qaa n1 d1),.r (qaa n2 d2),Rf cs,Re hn,.md,.r (iV p.id),.r (iV q.id)]
  tI (Ai ia (Ai (raZ ht) (Ai ib (Ai (raZ hu) (Ai cs (Ai hn (Ai ia (Ai (qb5 hp) (Ai ib (Ai (qb5 hq) tI))))))))))
abbrev qoC (bd:Int) (bn:Int) (s:List Pt) (ts:List Rz) (x1:Int) (x2:Int):HpL:=[(1,0,.ls 0 s.length),(3,0,.pv (iV 0)),(3,1,.pv (iV 0)),(3,2,.pv (iV 0)),(3,3,.pv (iV 0)),(4,0,.ls 0 s.length),(5,0,.ls 6 s.length),(7,0,.pv (iV x1)),(7,1,.pv (iV x2)),(7,2,.pv (iV bn)),(7,3,.pv (iV bd)),(0,0,qad s),(6,0,qi8 s.length ts)]
abbrev qxm (d1:Int) (n1:Int) (s:List Pt) (ts:List Rz) (y1:Int) (y2:Int):HpL:=[(1,0,.ls 0 s.length),(3,0,.pv (iV 0)),(3,1,.pv (iV 0)),(3,2,.pv (iV 0)),(3,3,.pv (iV 0)),(4,0,.ls 0 s.length),(5,0,.ls 6 s.length),(7,0,.pv (iV y1)),(7,1,.pv (iV y2)),(7,2,.pv (iV n1)),(7,3,.pv (iV d1)),(0,0,qad s),(6,0,qi8 s.length ts)]
abbrev qyf (a:Nat) (b:Nat) (s:List Pt):TmL:=[(2,.pp 1 0),(4,.pp 3 0),(5,.pc 100 [.pp 5 0,.pp 4 0]),(6,.pp 7 0),(17,.pv (iV (s.length:Int))),(18,.pv (iV (a:Int))),(7,.pv (iV (a:Int))),(8,.pv (iV (b:Int)))]
abbrev qzP (a:Nat) (b:Nat) (s:List Pt):TmL:=[(2,.pp 1 0),(4,.pp 3 0),(5,.pc 100 [.pp 5 0,.pp 4 0]),(6,.pp 7 0),(17,.pv (iV (s.length:Int))),(18,.pv (iV (a:Int))),(7,.pv (iV (a:Int))),(8,.pv (iV ((b+1:Nat):Int)))]
theorem qqg {n1 d1 bn bd x1 x2 y1 y2:Int} {s:List Pt} {a b:Nat} {ts:List Rz} (hlt:decide ((b:Int)<(s.length:Int))=true) (hc:Fn 100 4 [.pv (iV (a:Int)),.pv (iV (b:Int)),.pp 2 0,.pp 1 0] (qxi s ts) (.pv (.agg #[iV y1,iV y2,iV n1,iV d1])) 0 []) (cc:Pure Tryz.prog 71 #[qaa n1 d1,qaa bn bd] (.bool true)) (hs:iV (IntKind.i64.wrap ((b:Int)+1))=iV (((b+1:Nat):Int))) {e:Exit} {tm2:TmL} {hp2:HpL}
 (r:Rl 1 1 45 1 42 8 (qzP a b s) (qxm d1 n1 s ts y1 y2) e tm2 hp2):Rl 1 1 45 1 42 8 (qyf a b s) (qoC bd bn s ts x1 x2) e tm2 hp2:=
 RunsL.next [] 300 [.t true,Cf hc [0,4,5,6],Rf cc,Re hs]
  (Ro (Ai hlt (Co hc [0,4,5,6] 8 (Ai cc (Ai hs tI))))) r
theorem qoJ {n1 d1 bn bd x1 x2 y1 y2:Int} {s:List Pt} {a b:Nat} {ts:List Rz} (hlt:decide ((b:Int)<(s.length:Int))=true) (hc:Fn 100 4 [.pv (iV (a:Int)),.pv (iV (b:Int)),.pp 2 0,.pp 1 0] (qxi s ts) (.pv (.agg #[iV y1,iV y2,iV n1,iV d1])) 0 []) (cc:Pure Tryz.prog 71 #[qaa n1 d1,qaa bn bd] (.bool false)) (hs:iV (IntKind.i64.wrap ((b:Int)+1))=iV (((b+1:Nat):Int))) {e:Exit} {tm2:TmL} {hp2:HpL}
 (r:Rl 1 1 45 1 42 8 (qzP a b s) (qoC bd bn s ts x1 x2) e tm2 hp2):Rl 1 1 45 1 42 8 (qyf a b s) (qoC bd bn s ts x1 x2) e tm2 hp2:=
 RunsL.next [] 300 [.t true,Cf hc [0,4,5,6],Rf cc,Re hs]
  (Ro (Ai hlt (Co hc [0,4,5,6] 8 (Ai cc (Ai hs tI))))) r
abbrev qz2 (a:Nat) (s:List Pt):TmL:=[(2,.pp 1 0),(4,.pp 3 0),(5,.pc 100 [.pp 5 0,.pp 4 0]),(6,.pp 7 0),(17,.pv (iV (s.length:Int))),(18,.pv (iV (a:Int))),(7,.pv (iV (a:Int)))]
theorem qpe {bn bd x1 x2:Int} {s:List Pt} {a b:Nat} {ts:List Rz} (hlt:decide ((b:Int)<(s.length:Int))=false):Rl 1 1 45 1 42 8 (qyf a b s) (qoC bd bn s ts x1 x2) (.exit 2) (qz2 a s) (qoC bd bn s ts x1 x2):=
 RunsL.stop [] 300 [.t false] (fun h=>by cases h)
  (Ro (Ai hlt tI))
abbrev qzY (a:Nat) (s:List Pt):TmL:=[(2,.pp 1 0),(4,.pp 3 0),(5,.pc 100 [.pp 5 0,.pp 4 0]),(6,.pp 7 0),(17,.pv (iV (s.length:Int))),(18,.pv (iV (a:Int)))]
theorem qpx {n1 d1 bn bd x1 x2 y1 y2:Int} {s:List Pt} {a:Nat} {ts:List Rz} (hlt:decide ((a:Int)<(s.length:Int))=true) (ha:iV (IntKind.i64.wrap ((a:Int)+1))=iV (((a+1:Nat):Int))) (r0:Rl 1 1 45 1 42 8 ([(2,.pp 1 0),(4,.pp 3 0),(5,.pc 100 [.pp 5 0,.pp 4 0]),(6,.pp 7 0),(17,.pv (iV (s.length:Int))),(18,.pv (iV (a:Int))),(7,.pv (iV (a:Int))),(8,.pv (iV ((a+1:Nat):Int)))]) (qoC bd bn s ts x1 x2) (.exit 2) (qz2 a s) (qxm d1 n1 s ts y1 y2)) (hb:iV (IntKind.i64.wrap ((a:Int)+1))=iV (((a+1:Nat):Int))) {e:Exit} {tm2:TmL} {hp2:HpL}
 (r:Rl 1 1 45 0 42 8 ([(2,.pp 1 0),(4,.pp 3 0),(5,.pc 100 [.pp 5 0,.pp 4 0]),(6,.pp 7 0),(17,.pv (iV (s.length:Int))),(18,.pv (iV ((a+1:Nat):Int)))]) (qxm d1 n1 s ts y1 y2) e tm2 hp2):Rl 1 1 45 0 42 8 (qzY a s) (qoC bd bn s ts x1 x2) e tm2 hp2:=
 RunsL.next [] 300 [.t true,Re ha,Lf r0,Re ha]
  (Ro (Ai hlt (Ai ha (Lo r0 [] (Ai hb tI))))) r
theorem qtv {bn bd x1 x2:Int} {s:List Pt} {a:Nat} {ts:List Rz} (hlt:decide ((a:Int)<(s.length:Int))=false):Rl 1 1 45 0 42 8 (qzY a s) (qoC bd bn s ts x1 x2) (.exit 0) ([(2,.pp 1 0),(4,.pp 3 0),(5,.pc 100 [.pp 5 0,.pp 4 0]),(6,.pp 7 0)]) (qoC bd bn s ts x1 x2):=
 RunsL.stop [] 300 [.t false] (fun h=>by cases h)
  (Ro (Ai hlt tI))
theorem qu2 {tn td n1 d1 bn bd x1 x2 y1 y2:Int} {s:List Pt} {ts:List Rz} (hp:Fn 70 1 [qaq 0 s,.pv (qaa tn td)] [(0,0,qad s)] (.pc 100 [.pp 2 0,.pp 1 0]) 3 [(1,0,.ls 0 s.length),(2,0,.ls 3 s.length),(3,0,qi8 s.length ts)]) (hc:Fn 100 4 [.pv (iV ((0:Nat):Int)),.pv (iV ((1:Nat):Int)),.pp 2 0,.pp 1 0] (qxi s ts) (.pv (.agg #[iV x1,iV x2,iV bn,iV bd])) 0 []) (r0:Rl 1 1 45 0 42 8 ([(2,.pp 1 0),(4,.pp 3 0),(5,.pc 100 [.pp 5 0,.pp 4 0]),(6,.pp 7 0),(17,.pv (iV (s.length:Int))),(18,.pv (iV ((0:Nat):Int)))]) (qoC bd bn s ts x1 x2) (.exit 0) ([(2,.pp 1 0),(4,.pp 3 0),(5,.pc 100 [.pp 5 0,.pp 4 0]),(6,.pp 7 0)]) (qxm d1 n1 s ts y1 y2)) :
 Fn 45 1 [qaq 0 s,.pv (qaa tn td)] [(0,0,qad s)] (.pv (.agg #[iV y1,iV y2,iV n1,iV d1])) 0 []:=
 Fz [] [Cf hp [0],Cf hc [0,4,5,6],Lf r0]
  tI (Co hp [0] 4 (Co hc [0,4,5,6] 7 (Lo r0 [] tI)))
theorem qyO {tn td e1 e2:Int} {s:List Pt} (hc:Fn 44 1 [qaq 0 s] [(0,0,qad s)] (.pv (iV (e1))) 0 []) (ha:Pure Tryz.prog 40 #[qaa tn td] (iV (e2))) (he:(e1 !=0)=true) :
 Fn 18 1 [qaq 0 s,.pv (qaa tn td)] [(0,0,qad s)] (.pv (.tuple #[iV 0,iV 0,qaa 0 0,iV e1])) 0 []:=
 Fz [] [.md,Cf hc [0],Rf ha,.k,.k,.t true,.t true]
  tI (Co hc [0] 4 (Ai ha (Ai he (Ai he tI))))
abbrev qzc (s:List Pt):Prop:=Fn 44 1 [qaq 0 s] [(0,0,qad s)] (.pv (iV (0))) 0 []
theorem qyT {tn td e2:Int} {s:List Pt} (hc:qzc s) (ha:Pure Tryz.prog 40 #[qaa tn td] (iV (e2))) (he:(e2 !=0)=true) :
 Fn 18 1 [qaq 0 s,.pv (qaa tn td)] [(0,0,qad s)] (.pv (.tuple #[iV 0,iV 0,qaa 0 0,iV e2])) 0 []:=
 Fz [] [.md,Cf hc [0],Rf ha,.k,.k,.k,.k,.k,.t true,.t true]
  tI (Co hc [0] 4 (Ai ha (Ai he (Ai he tI))))
theorem qyK {tn td:Int} {s:List Pt} (hc:qzc s) (ha:Pure Tryz.prog 40 #[qaa tn td] (iV (0))) (hl:decide ((s.length:Int)<2)=true) :
 Fn 18 1 [qaq 0 s,.pv (qaa tn td)] [(0,0,qad s)] (.pv (.tuple #[iV 0,iV 0,qaa 0 0,iV 42])) 0 []:=
 Fz [] [.md,Cf hc [0],Rf ha,.k,.k,.k,.k,.k,.k,.k,.k,.k,.t true]
  tI (Co hc [0] 4 (Ai ha (Ai hl tI)))
theorem qyj {tn td bn bd x1 x2:Int} {s:List Pt} (hc:qzc s) (ha:Pure Tryz.prog 40 #[qaa tn td] (iV (0))) (hl:decide ((s.length:Int)<2)=false) (hp:Fn 45 1 [qaq 0 s,.pv (qaa tn td)] [(0,0,qad s)] (.pv (.agg #[iV x1,iV x2,iV bn,iV bd])) 0 []) :
 Fn 18 1 [qaq 0 s,.pv (qaa tn td)] [(0,0,qad s)] (.pv (.tuple #[iV x1,iV x2,qaa bn bd,iV 0])) 0 []:=
 Fz [] [.md,Cf hc [0],Rf ha,.k,.k,.k,.k,.k,.k,.k,.k,.k,.t false,Cf hp [0],.md]
  tI (Co hc [0] 4 (Ai ha (Ai hl (Co hp [0] 4 tI))))
end Go.Proofs.YtleaeldgaflmkaaGreat

namespace Go.Proofs.YtleaeldgaflmkaaGreat
set_option maxRecDepth 100000
open Go.RowKit
abbrev quw (l:List Pt) (m:List Pt):HpL:=[(1,0,.ls 0 l.length),(0,0,qad l),(3,0,.ls 4 (m).length),(4,0,qad (m)),(2,0,.pv (.slice none 0 0))]
abbrev qxM (id:Int) (k:Nat):TmL:=[(1,.pv (iV id)),(2,.pp 1 0),(4,.pp 2 0),(5,.pp 3 0),(6,.pv (iV (k:Int)))]
theorem qr7 {l:List Pt} {k:Nat} {p:Pt} {m:List Pt} {id:Int} (hk:l[k]?=some p) (hin:0≤(k:Int)∧(k:Int)<(l.length:Int)) (hlt:decide ((k:Int)<(l.length:Int))=true) (hne:(p.id !=id)=false) (hs:iV (IntKind.i64.wrap ((k:Int)+1))=iV (((k+1:Nat):Int))) {e:Exit} {tm2:TmL} {hp2:HpL}
 (r:Rl 1 1 129 0 33 5 ([(1,.pv (iV id)),(2,.pp 1 0),(4,.pp 2 0),(5,.pp 3 0),(6,.pv (iV ((k+1:Nat):Int)))]) (quw l m) e tm2 hp2):Rl 1 1 129 0 33 5 (qxM id k) (quw l m) e tm2 hp2:=
 RunsL.next [] 300 [.t true,.r (iV p.id),.t false,Re hs]
  (Ro (Ai hlt (Ai hin (Ai (qb5 hk) (Ai hne (Ai hs tI)))))) r
theorem qrY {l:List Pt} {k:Nat} {p:Pt} {m:List Pt} {id:Int} (hk:l[k]?=some p) (hin:0≤(k:Int)∧(k:Int)<(l.length:Int)) (hlt:decide ((k:Int)<(l.length:Int))=true) (hne:(p.id !=id)=true) (hm:m.length+1≤1000000) (hs:iV (IntKind.i64.wrap ((k:Int)+1))=iV (((k+1:Nat):Int))) {e:Exit} {tm2:TmL} {hp2:HpL}
 (r:Rl 1 1 129 0 33 5 ([(1,.pv (iV id)),(2,.pp 1 0),(4,.pp 2 0),(5,.pp 3 0),(6,.pv (iV ((k+1:Nat):Int)))]) ([(1,0,.ls 0 l.length),(0,0,qad l),(3,0,.ls 4 (m++[p]).length),(4,0,qad (m++[p])),(2,0,.pv (.slice none 0 0))]) e tm2 hp2):Rl 1 1 129 0 33 5 (qxM id k) (quw l m) e tm2 hp2:=
 RunsL.next [(4,6)] 300 [.t true,.r (iV p.id),.t true,.r (ptV p),Re hs]
  (Rh (Ai (Er (SV.ls 0 l.length)) (Ai (Er (qad l)) (Ai (qiN 6 m p) (Ai (qey m p) (Ai (Er (SV.pv (.slice none 0 0))) tI))))) (Ai hlt (Ai hin (Ai (qb5 hk) (Ai hne (Ai hin (Ai (qa4 hk) (Ai hm (Ai hs tI))))))))) r
theorem qvx {l:List Pt} {k:Nat} {m:List Pt} {id:Int} (hge:decide ((k:Int)<(l.length:Int))=false):Rl 1 1 129 0 33 5 (qxM id k) (quw l m) (.exit 0) ([(4,.pp 2 0),(5,.pp 3 0)]) (quw l m):=
 RunsL.stop [] 300 [.t false] (fun h=>by cases h)
  (Ro (Ai hge tI))
theorem qtt {l:List Pt} {m:List Pt} {id:Int} (r0:Rl 1 1 129 0 33 5 ([(1,.pv (iV id)),(2,.pp 1 0),(4,.pp 2 0),(5,.pp 3 0),(6,.pv (iV ((0:Nat):Int)))]) ([(1,0,.ls 0 l.length),(0,0,qad l),(3,0,.ls 4 ([]:List Pt).length),(4,0,qad ([]:List Pt)),(2,0,.pv (.slice none 0 0))]) (.exit 0) ([(4,.pp 2 0),(5,.pp 3 0)]) (quw l m)) :
 Fn 129 1 [qaq 0 l,.pv (iV (id))] [(0,0,qad l)] (.ag [.ls 1 m.length]) 1 [(1,0,qad m)]:=
 Fz [(1,4)] [.ln false 3 0 34 3,Lf r0]
  (qaH (qaG [(1,4)]) [(1,0,qad m)]) (Lo r0 [] tI)
abbrev qpU (l:List Pt) (m:List Pt) (pa:Int) (pb:Int) (pi:Int):HpL:=[(1,0,.ls 0 l.length),(0,0,qad l),(2,0,.pv (iV pi)),(2,1,.pv (iV pa)),(2,2,.pv (iV pb)),(3,0,.pv (.slice none 0 0)),(4,0,.ls 5 (m).length),(5,0,qad (m))]
abbrev qzK (k:Nat):TmL:=[(2,.pp 1 0),(3,.pp 2 0),(4,.pp 3 0),(7,.pp 4 0),(8,.pv (.bool false)),(9,.pv (iV (k:Int)))]
abbrev qwY (k:Nat):TmL:=[(2,.pp 1 0),(3,.pp 2 0),(4,.pp 3 0),(7,.pp 4 0),(8,.pv (.bool true)),(9,.pv (iV ((k+1:Nat):Int)))]
theorem qws {l:List Pt} {k:Nat} {q:Pt} {m:List Pt} {pi pa pb:Int} (hk:l[k]?=some q) (hin:0≤(k:Int)∧(k:Int)<(l.length:Int)) (hm:m.length+1≤1000000) (hlt:decide ((k:Int)<(l.length:Int))=true) (hg:decide (q.id>pi)=true) (hm2:m.length+1+1≤1000000) (hs:iV (IntKind.i64.wrap ((k:Int)+1))=iV (((k+1:Nat):Int))) {e:Exit} {tm2:TmL} {hp2:HpL}
 (r:Rl 1 1 107 0 76 6 (qwY k) ([(1,0,.ls 0 l.length),(0,0,qad l),(2,0,.pv (iV pi)),(2,1,.pv (iV pa)),(2,2,.pv (iV pb)),(3,0,.pv (.slice none 0 0)),(4,0,.ls 5 (m++[(Pt.mk pi pa pb)]++[q]).length),(5,0,qad (m++[(Pt.mk pi pa pb)]++[q]))]) e tm2 hp2):Rl 1 1 107 0 76 6 (qzK k) (qpU l m pa pb pi) e tm2 hp2:=
 RunsL.next [(5,9)] 300 [.t true,.k,.r (iV q.id),.t true,.r (ptV q),Re hs]
  (Rh (Ai (Er (SV.ls 0 l.length)) (Ai (Er (qad l)) (Ai (Er (SV.pv (iV pi))) (Ai (Er (SV.pv (iV pa))) (Ai (Er (SV.pv (iV pb))) (Ai (Er (SV.pv (.slice none 0 0))) (Ai (qo6 9 m (Pt.mk pi pa pb) q) (Ai (qnD m (Pt.mk pi pa pb) q) tI)))))))) (Ai hlt (Ai hin (Ai (qb5 hk) (Ai hg (Ai hm (Ai hin (Ai (qa4 hk) (Ai hm2 (Ai hs tI)))))))))) r
abbrev qwC (l:List Pt) (m:List Pt) (pa:Int) (pb:Int) (pi:Int) (q:Pt):HpL:=[(1,0,.ls 0 l.length),(0,0,qad l),(2,0,.pv (iV pi)),(2,1,.pv (iV pa)),(2,2,.pv (iV pb)),(3,0,.pv (.slice none 0 0)),(4,0,.ls 5 (m++[q]).length),(5,0,qad (m++[q]))]
theorem qvM {l:List Pt} {k:Nat} {q:Pt} {m:List Pt} {pi pa pb:Int} (hk:l[k]?=some q) (hin:0≤(k:Int)∧(k:Int)<(l.length:Int)) (hm:m.length+1≤1000000) (hlt:decide ((k:Int)<(l.length:Int))=true) (hg:decide (q.id>pi)=false) (hs:iV (IntKind.i64.wrap ((k:Int)+1))=iV (((k+1:Nat):Int))) {e:Exit} {tm2:TmL} {hp2:HpL}
 (r:Rl 1 1 107 0 76 6 ([(2,.pp 1 0),(3,.pp 2 0),(4,.pp 3 0),(7,.pp 4 0),(8,.pv (.bool false)),(9,.pv (iV ((k+1:Nat):Int)))]) (qwC l m pa pb pi q) e tm2 hp2):Rl 1 1 107 0 76 6 (qzK k) (qpU l m pa pb pi) e tm2 hp2:=
 RunsL.next [(5,7)] 300 [.t true,.k,.r (iV q.id),.t false,.r (ptV q),Re hs]
  (Rh (Ai (Er (SV.ls 0 l.length)) (Ai (Er (qad l)) (Ai (Er (SV.pv (iV pi))) (Ai (Er (SV.pv (iV pa))) (Ai (Er (SV.pv (iV pb))) (Ai (Er (SV.pv (.slice none 0 0))) (Ai (qiN 7 m q) (Ai (qey m q) tI)))))))) (Ai hlt (Ai hin (Ai (qb5 hk) (Ai hg (Ai hin (Ai (qa4 hk) (Ai hm (Ai hs tI))))))))) r
theorem qvD {l:List Pt} {k:Nat} {q:Pt} {m:List Pt} {pi pa pb:Int} (hk:l[k]?=some q) (hin:0≤(k:Int)∧(k:Int)<(l.length:Int)) (hm:m.length+1≤1000000) (hlt:decide ((k:Int)<(l.length:Int))=true) (hs:iV (IntKind.i64.wrap ((k:Int)+1))=iV (((k+1:Nat):Int))) {e:Exit} {tm2:TmL} {hp2:HpL}
 (r:Rl 1 1 107 0 76 6 (qwY k) (qwC l m pa pb pi q) e tm2 hp2):Rl 1 1 107 0 76 6 ([(2,.pp 1 0),(3,.pp 2 0),(4,.pp 3 0),(7,.pp 4 0),(8,.pv (.bool true)),(9,.pv (iV (k:Int)))]) (qpU l m pa pb pi) e tm2 hp2:=
 RunsL.next [(5,7)] 300 [.t true,.k,.r (ptV q),Re hs]
  (Rh (Ai (Er (SV.ls 0 l.length)) (Ai (Er (qad l)) (Ai (Er (SV.pv (iV pi))) (Ai (Er (SV.pv (iV pa))) (Ai (Er (SV.pv (iV pb))) (Ai (Er (SV.pv (.slice none 0 0))) (Ai (qiN 7 m q) (Ai (qey m q) tI)))))))) (Ai hlt (Ai hin (Ai (qa4 hk) (Ai hm (Ai hs tI)))))) r
theorem qpr {l:List Pt} {k:Nat} {m:List Pt} {pi pa pb:Int} (hge:decide ((k:Int)<(l.length:Int))=false):Rl 1 1 107 0 76 6 ([(2,.pp 1 0),(3,.pp 2 0),(4,.pp 3 0),(7,.pp 4 0),(8,.pv (.bool true)),(9,.pv (iV (k:Int)))]) (qpU l m pa pb pi) (.exit 0) ([(3,.pp 2 0),(4,.pp 3 0),(7,.pp 4 0),(8,.pv (.bool true))]) (qpU l m pa pb pi):=
 RunsL.stop [] 300 [.t false] (fun h=>by cases h)
  (Ro (Ai hge tI))
theorem qpj {l:List Pt} {k:Nat} {m:List Pt} {pi pa pb:Int} (hge:decide ((k:Int)<(l.length:Int))=false):Rl 1 1 107 0 76 6 (qzK k) (qpU l m pa pb pi) (.exit 0) ([(3,.pp 2 0),(4,.pp 3 0),(7,.pp 4 0),(8,.pv (.bool false))]) (qpU l m pa pb pi):=
 RunsL.stop [] 300 [.t false] (fun h=>by cases h)
  (Ro (Ai hge tI))
theorem qps {l:List Pt} {pi pa pb:Int} {e:Int} (hc:Fn 50 1 [qaq 0 l] [(0,0,qad l)] (.pv (iV (e))) 0 []) (he:(e !=0)=true) :
 Fn 107 1 [qaq 0 l,.pv (qab pi pa pb)] [(0,0,qad l)] (.pv (.tuple #[.agg #[.slice none 0 0],iV (e)])) 0 []:=
 Fz [] [Cf hc [0],.t true]
  tI (Co hc [0] 4 (Ai he tI))
abbrev qoF (l:List Pt):Prop:=Fn 50 1 [qaq 0 l] [(0,0,qad l)] (.pv (iV (0))) 0 []
theorem qqB {l:List Pt} {pi pa pb:Int} (hc:qoF l) (hp:Pure Tryz.prog 30 #[qab pi pa pb] (iV (8))) :
 Fn 107 1 [qaq 0 l,.pv (qab pi pa pb)] [(0,0,qad l)] (.pv (.tuple #[.agg #[.slice none 0 0],iV (8)])) 0 []:=
 Fz [] [Cf hc [0],.k,Rf hp,.k]
  tI (Co hc [0] 4 (Ai hp tI))
abbrev qug (pa:Int) (pb:Int) (pi:Int):Prop:=Pure Tryz.prog 30 #[qab pi pa pb] (iV (0))
theorem qkX {l:List Pt} {k:Nat} {pi pa pb:Int} (hc:qoF l) (hp:qug pa pb pi) (ha:Fn 76 1 [qaq 0 l,.pv (iV (pi))] [(0,0,qad l)] (.pv (iV (k:Int))) 0 []) (h0:decide ((k:Int)≥0)=true) :
 Fn 107 1 [qaq 0 l,.pv (qab pi pa pb)] [(0,0,qad l)] (.pv (.tuple #[.agg #[.slice none 0 0],iV (14)])) 0 []:=
 Fz [] [Cf hc [0],.k,Rf hp,.k,Cf ha [0],.t true]
  tI (Co hc [0] 4 (Ai hp (Co ha [0] 4 (Ai h0 tI))))
abbrev qxu (l:List Pt) (pi:Int):Prop:=Fn 76 1 [qaq 0 l,.pv (iV (pi))] [(0,0,qad l)] (.pv (iV (-1))) 0 []
theorem qn6 {l:List Pt} {pi pa pb:Int} (hc:qoF l) (hp:qug pa pb pi) (ha:qxu l pi) (h64:((l.length:Int)==64)=true) :
 Fn 107 1 [qaq 0 l,.pv (qab pi pa pb)] [(0,0,qad l)] (.pv (.tuple #[.agg #[.slice none 0 0],iV (18)])) 0 []:=
 Fz [] [Cf hc [0],.k,Rf hp,.k,Cf ha [0],.k,.t true]
  tI (Co hc [0] 4 (Ai hp (Co ha [0] 4 (Ai h64 tI))))
abbrev qz1 (l:List Pt) (pa:Int) (pb:Int) (pi:Int):HpL:=[(1,0,.ls 0 l.length),(0,0,qad l),(2,0,.pv (iV pi)),(2,1,.pv (iV pa)),(2,2,.pv (iV pb)),(3,0,.pv (.slice none 0 0)),(4,0,.ls 5 ([]:List Pt).length),(5,0,qad ([]:List Pt))]
abbrev qzZ:TmL:=[(2,.pp 1 0),(3,.pp 2 0),(4,.pp 3 0),(7,.pp 4 0),(8,.pv (.bool false)),(9,.pv (iV ((0:Nat):Int)))]
theorem qmb {l:List Pt} {m:List Pt} {pi pa pb:Int} (hc:qoF l) (hp:qug pa pb pi) (ha:qxu l pi) (h64:((l.length:Int)==64)=false) (r0:Rl 1 1 107 0 76 6 (qzZ) (qz1 l pa pb pi) (.exit 0) ([(3,.pp 2 0),(4,.pp 3 0),(7,.pp 4 0),(8,.pv (.bool true))]) (qpU l m pa pb pi)) :
 Fn 107 1 [qaq 0 l,.pv (qab pi pa pb)] [(0,0,qad l)] (.tu [.ag [.ls 1 m.length],.one (.pv (iV 0))]) 1 [(1,0,qad m)]:=
 Fz [(1,5)] [Cf hc [0],.k,Rf hp,.k,Cf ha [0],.k,.t false,.ln false 4 0 34 3,Lf r0,.k]
  (qaH (qaG [(1,5)]) [(1,0,qad m)]) (Co hc [0] 4 (Ai hp (Co ha [0] 4 (Ai h64 (Lo r0 [] tI)))))
theorem qmS {l:List Pt} {m:List Pt} {pi pa pb:Int} (hc:qoF l) (hp:qug pa pb pi) (ha:qxu l pi) (h64:((l.length:Int)==64)=false) (r0:Rl 1 1 107 0 76 6 (qzZ) (qz1 l pa pb pi) (.exit 0) ([(3,.pp 2 0),(4,.pp 3 0),(7,.pp 4 0),(8,.pv (.bool false))]) (qpU l m pa pb pi)) (hm:m.length+1≤1000000) :
 Fn 107 1 [qaq 0 l,.pv (qab pi pa pb)] [(0,0,qad l)] (.tu [.ag [.ls 1 (m++[(Pt.mk pi pa pb)]).length],.one (.pv (iV 0))]) 1 [(1,0,qad (m++[(Pt.mk pi pa pb)]))]:=
 Fx [(1,7)] [Cf hc [0],.k,Rf hp,.k,Cf ha [0],.k,.t false,.ln false 4 0 34 3,Lf r0,.k]
  (qsC 7 m (Pt.mk pi pa pb)) (Ai (qey m (Pt.mk pi pa pb)) tI) (Co hc [0] 4 (Ai hp (Co ha [0] 4 (Ai h64 (Lo r0 [] (Ai hm tI))))))
theorem ql0 {l:List Pt} {id:Int} {e:Int} (hc:Fn 50 1 [qaq 0 l] [(0,0,qad l)] (.pv (iV (e))) 0 []) (he:(e !=0)=true) :
 Fn 108 1 [qaq 0 l,.pv (iV (id))] [(0,0,qad l)] (.pv (.tuple #[.agg #[.slice none 0 0],iV (e)])) 0 []:=
 Fz [] [Cf hc [0],.t true]
  tI (Co hc [0] 3 (Ai he tI))
theorem qoL {l:List Pt} {id:Int} (hc:qoF l) (ha:Fn 76 1 [qaq 0 l,.pv (iV (id))] [(0,0,qad l)] (.pv (iV (-1))) 0 []) :
 Fn 108 1 [qaq 0 l,.pv (iV (id))] [(0,0,qad l)] (.pv (.tuple #[.agg #[.slice none 0 0],iV (6)])) 0 []:=
 Fz [] [Cf hc [0],.k,Cf ha [0],.k]
  tI (Co hc [0] 3 (Co ha [0] 3 tI))
theorem qnm {l:List Pt} {k:Nat} {m:List Pt} {id:Int} (hc:qoF l) (ha:Fn 76 1 [qaq 0 l,.pv (iV (id))] [(0,0,qad l)] (.pv (iV (k:Int))) 0 []) (h0:decide ((k:Int)<0)=false) (hw:Fn 129 1 [qaq 0 l,.pv (iV (id))] [(0,0,qad l)] (.ag [.ls 1 m.length]) 1 [(1,0,qad m)]) :
 Fn 108 1 [qaq 0 l,.pv (iV (id))] [(0,0,qad l)] (.tu [.ag [.ls 1 m.length],.one (.pv (iV 0))]) 1 [(1,0,qad m)]:=
 Fz [(1,3)] [Cf hc [0],.k,Cf ha [0],.t false,Cf hw [0]]
  (qaH (qaG [(1,3)]) [(1,0,qad m)]) (Co hc [0] 3 (Co ha [0] 3 (Ai h0 (Co hw [0] 3 tI))))
theorem qiM {l:List Pt} {pi pa pb:Int} {e:Int} (hc:Fn 50 1 [qaq 0 l] [(0,0,qad l)] (.pv (iV (e))) 0 []) (he:(e !=0)=true) :
 Fn 109 1 [qaq 0 l,.pv (qab pi pa pb)] [(0,0,qad l)] (.pv (.tuple #[.agg #[.slice none 0 0],iV (e)])) 0 []:=
 Fz [] [Cf hc [0],.t true]
  tI (Co hc [0] 4 (Ai he tI))
theorem qi4 {l:List Pt} {pi pa pb:Int} (hc:qoF l) (hp:Pure Tryz.prog 30 #[qab pi pa pb] (iV (8))) :
 Fn 109 1 [qaq 0 l,.pv (qab pi pa pb)] [(0,0,qad l)] (.pv (.tuple #[.agg #[.slice none 0 0],iV (8)])) 0 []:=
 Fz [] [Cf hc [0],.k,Rf hp,.k]
  tI (Co hc [0] 4 (Ai hp tI))
theorem qkL {l:List Pt} {pi pa pb:Int} (hc:qoF l) (hp:qug pa pb pi) (ha:qxu l pi) :
 Fn 109 1 [qaq 0 l,.pv (qab pi pa pb)] [(0,0,qad l)] (.pv (.tuple #[.agg #[.slice none 0 0],iV (6)])) 0 []:=
 Fz [] [Cf hc [0],.k,Rf hp,.k,Cf ha [0],.k]
  tI (Co hc [0] 4 (Ai hp (Co ha [0] 4 tI)))
theorem qi3 {l:List Pt} {k:Nat} {pi pa pb:Int} (hc:qoF l) (hp:qug pa pb pi) (ha:Fn 76 1 [qaq 0 l,.pv (iV (pi))] [(0,0,qad l)] (.pv (iV (k:Int))) 0 []) (h0:decide ((k:Int)<0)=false) (hw:Fn 47 1 [qaq 0 l] [(0,0,qad l)] (.ag [.ls 1 l.length]) 1 [(1,0,qad l)]) (hin:0≤(k:Int)∧(k:Int)<(l.length:Int)) (hkl:k<l.length) :
 Fn 109 1 [qaq 0 l,.pv (qab pi pa pb)] [(0,0,qad l)] (.tu [.ag [.ls 1 (l.set k (Pt.mk pi pa pb)).length],.one (.pv (iV 0))]) 1 [(1,0,qad (l.set k (Pt.mk pi pa pb)))]:=
 Fx [(1,4)] [Cf hc [0],.k,Rf hp,.k,Cf ha [0],.t false,Cf hw [0],.w (qay (l.set k (Pt.mk pi pa pb)))]
  (qvo 4 l k (Pt.mk pi pa pb)) (Ai (qpQ l k (Pt.mk pi pa pb)) tI) (Co hc [0] 4 (Ai hp (Co ha [0] 4 (Ai h0 (Co hw [0] 4 (Ai hin (Ai (qtM l k (Pt.mk pi pa pb) hkl) (Ai (qwA l k hkl) tI))))))))
end Go.Proofs.YtleaeldgaflmkaaGreat
