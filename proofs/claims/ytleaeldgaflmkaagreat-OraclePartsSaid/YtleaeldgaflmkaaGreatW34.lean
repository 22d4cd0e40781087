/-
  Joined: Vl, Fg, Fh, Fi, Vm, Fq, VL. Conditions: none.
-/
import Derived.Test.YtleaeldgaflmkaaGreatW33
import Derived.Test.YtleaeldgaflmkaaGreatW25
import Derived.ProofKit
import Derived.OpenShut
import Derived.Lib.SmallJoins
import Derived.Deep.Slices
import Derived.Deep.Strs
import Derived.Deep.Fields
import Derived.Carry
import Derived.Test.YtleaeldgaflmkaaGreatW28
namespace Go.Proofs.YtleaeldgaflmkaaGreat
set_option maxRecDepth 100000
open Go.RowKit
structure Rz where
 n:Int
 d:Int
def rzV:List Rz→List Value
 | []=>[]
 | m::r=>iV m.n::iV m.d::rzV r
theorem qgc:∀ (l:List Rz),(rzV l).length=l.length*2
 | []=>rfl
 | p::r=>by simp[rzV,qgc r];omega
abbrev qj1 (n:Nat) (l:List Rz):SV:=.row 23 2 n (rzV l)
theorem qlL:∀ {l:List Rz} {k:Nat} {m:Rz},l[k]?=some m→(rzV l)[k*2]?=some (iV m.n)∧(rzV l)[k*2+1]?=some (iV m.d)
 | [],k,p,h=>by simp at h
 | q::r,0,p,h=>by simp at h;subst h;exact⟨rfl,rfl⟩
 | q::r,k+1,p,h=>by
  have:=qlL (l:=r) (k:=k) (m:=p) (by simpa using h)
  rw[show (k+1)*2=k*2+1+1 by omega]
  exact this
theorem raZ {l:List Rz} {k:Nat} {n d:Int} (h:l[k]?=some ⟨n,d⟩):qd3 (rzV l) (0*2+k*2) [iV n,iV d]:=by
 obtain⟨h1,h2⟩:=qlL h
 intro j v hj
 rw[show 0*2+k*2+j=k*2+j by omega]
 match j,hj with
 | 0,hj=>cases hj;exact h1
 | 1,hj=>cases hj;exact h2
 | j+2,hj=>simp at hj
theorem qjE:∀ (l:List Rz) (k:Nat) (m:Rz),k<l.length→rzV (l.set k m)=qgm (rzV l) (0*2+k*2) [iV m.n,iV m.d]
 | [],_,_,h=>by simp at h
 | q::r,0,m,_=>by simp[rzV,qgm]
 | q::r,k+1,m,h=>by
  rw[show 0*2+(k+1)*2=(0*2+k*2)+1+1 by omega,List.set_cons_succ]
  show iV q.n::iV q.d::rzV (r.set k m)=_
  rw[qjE r k m (by simpa using h)]
  simp[rzV,qgm]
theorem quA (l:List Rz) (k:Nat) (h:k<l.length):0*2+k*2+2≤(rzV l).length:=by rw[qgc];omega
theorem qvC:∀ n:Nat,qdX [iV 0,iV 0] n=rzV (List.replicate n ⟨0,0⟩)
 | 0=>rfl
 | n+1=>by rw[List.replicate_succ];show _::_::qdX _ n=_;rw[qvC n];rfl
theorem qnQ (n:Nat):some (SV.row 23 2 n (qdX [iV 0,iV 0] n))=some (qj1 n (List.replicate n ⟨0,0⟩)):=by rw[qvC]
end Go.Proofs.YtleaeldgaflmkaaGreat

namespace Go.Proofs.YtleaeldgaflmkaaGreat
set_option maxRecDepth 100000
open Go.RowKit
theorem qq0 {a pa pb id:Int} (n1:(!(a==a))=false) (n2:(!(id==id))=false) (h1:decide (a<id)=true):Pure Tryz.prog 83 #[qab a pa pb,iV id] (iV (-1)):=
 qac (args:=[qab a pa pb,iV id]) 200 [.k,.k,.t false,.k,.t false,.t true] (Ai rfl (Ai n1 (Ai n2 (Ai h1 tI)))) (by kernel_rfl)
theorem qqC {a pa pb id:Int} (n1:(!(a==a))=false) (n2:(!(id==id))=false) (h1:decide (a<id)=false) (h2:decide (a>id)=true):Pure Tryz.prog 83 #[qab a pa pb,iV id] (iV (1)):=
 qac (args:=[qab a pa pb,iV id]) 200 [.k,.k,.t false,.k,.t false,.t false,.t true] (Ai rfl (Ai n1 (Ai n2 (Ai h1 (Ai h2 tI))))) (by kernel_rfl)
theorem qrb {a pa pb id:Int} (n1:(!(a==a))=false) (n2:(!(id==id))=false) (h1:decide (a<id)=false) (h2:decide (a>id)=false):Pure Tryz.prog 83 #[qab a pa pb,iV id] (iV (0)):=
 qac (args:=[qab a pa pb,iV id]) 200 [.k,.k,.t false,.k,.t false,.t false,.t false] (Ai rfl (Ai n1 (Ai n2 (Ai h1 (Ai h2 tI))))) (by kernel_rfl)
abbrev qx4 (i:Nat) (id:Int) (j:Nat) (l:List Pt):TmL:=[(0,.ls 0 l.length),(1,.pv (iV id)),(2,.pv (.func (.func 83) #[] #[])),(8,.pv (iV (l.length:Int))),(9,.pv (iV (i:Int))),(10,.pv (iV (j:Int)))]
abbrev qxZ (c:Int) (id:Int) (p:Pt):Prop:=Pure Tryz.prog 83 #[qab p.id p.a p.b,iV id] (iV (c))
theorem qzy {l:List Pt} {i j h:Nat} {p:Pt} {c:Int} {id:Int} (hk:l[h]?=some p) (hin:0≤(h:Int)∧(h:Int)<(l.length:Int)) (hlt:decide ((i:Int)<(j:Int))=true) (ha:iV (IntKind.i64.wrap ((i:Int)+(j:Int)))=iV ((i:Int)+(j:Int))) (hu:Value.int .u64 (IntKind.u64.wrap ((i:Int)+(j:Int)))=.int .u64 ((i:Int)+(j:Int))) (h1:¬ (1:Int)<0) (hs:Value.int .u64 (((i:Int)+(j:Int)).fdiv (2 ^ (min (1:Int).toNat IntKind.u64.bits)))=.int .u64 (h:Int)) (hb:iV (IntKind.i64.wrap (h:Int))=iV (h:Int)) (hc:qxZ c id p) (hz:decide (c<0)=true) (hh:iV (IntKind.i64.wrap ((h:Int)+1))=iV (((h+1:Nat):Int))) {e:Exit} {tm2:TmL} {hp2:HpL}
 (r:Rl 1 1 82 0 49 1 ([(0,.ls 0 l.length),(1,.pv (iV id)),(2,.pv (.func (.func 83) #[] #[])),(8,.pv (iV (l.length:Int))),(9,.pv (iV ((h+1:Nat):Int))),(10,.pv (iV (j:Int)))]) ([(0,0,qad l)]) e tm2 hp2):Rl 1 1 82 0 49 1 (qx4 i id j l) ([(0,0,qad l)]) e tm2 hp2:=
 RunsL.next [] 300 [.t true,Re ha,Re hu,.r (.int .u64 (h:Int)),Re hb,.r (ptV p),Rf hc,.t true,Re hh]
  (Ro (Ai hlt (Ai ha (Ai hu (Ai h1 (Ai hs (Ai hb (Ai hin (Ai (qa4 hk) (Ai hc (Ai hz (Ai hh tI)))))))))))) r
theorem qAp {l:List Pt} {i j h:Nat} {p:Pt} {c:Int} {id:Int} (hk:l[h]?=some p) (hin:0≤(h:Int)∧(h:Int)<(l.length:Int)) (hlt:decide ((i:Int)<(j:Int))=true) (ha:iV (IntKind.i64.wrap ((i:Int)+(j:Int)))=iV ((i:Int)+(j:Int))) (hu:Value.int .u64 (IntKind.u64.wrap ((i:Int)+(j:Int)))=.int .u64 ((i:Int)+(j:Int))) (h1:¬ (1:Int)<0) (hs:Value.int .u64 (((i:Int)+(j:Int)).fdiv (2 ^ (min (1:Int).toNat IntKind.u64.bits)))=.int .u64 (h:Int)) (hb:iV (IntKind.i64.wrap (h:Int))=iV (h:Int)) (hc:qxZ c id p) (hz:decide (c<0)=false) {e:Exit} {tm2:TmL} {hp2:HpL}
 (r:Rl 1 1 82 0 49 1 ([(0,.ls 0 l.length),(1,.pv (iV id)),(2,.pv (.func (.func 83) #[] #[])),(8,.pv (iV (l.length:Int))),(9,.pv (iV (i:Int))),(10,.pv (iV (h:Int)))]) ([(0,0,qad l)]) e tm2 hp2):Rl 1 1 82 0 49 1 (qx4 i id j l) ([(0,0,qad l)]) e tm2 hp2:=
 RunsL.next [] 300 [.t true,Re ha,Re hu,.r (.int .u64 (h:Int)),Re hb,.r (ptV p),Rf hc,.t false]
  (Ro (Ai hlt (Ai ha (Ai hu (Ai h1 (Ai hs (Ai hb (Ai hin (Ai (qa4 hk) (Ai hc (Ai hz tI))))))))))) r
theorem qrC {l:List Pt} {i j:Nat} {id:Int} (hge:decide ((i:Int)<(j:Int))=false):Rl 1 1 82 0 49 1 (qx4 i id j l) ([(0,0,qad l)]) (.exit 0) (qx4 i id j l) ([(0,0,qad l)]):=
 RunsL.stop [] 300 [.t false] (fun h=>by cases h)
  (Ro (Ai hge tI))
abbrev qy0 (id:Int) (k:Nat) (l:List Pt):Prop:=Rl 1 1 82 0 49 1 ([(0,.ls 0 l.length),(1,.pv (iV id)),(2,.pv (.func (.func 83) #[] #[])),(8,.pv (iV (l.length:Int))),(9,.pv (iV ((0:Nat):Int))),(10,.pv (iV (l.length:Int)))]) ([(0,0,qad l)]) (.exit 0) ([(0,.ls 0 l.length),(1,.pv (iV id)),(2,.pv (.func (.func 83) #[] #[])),(8,.pv (iV (l.length:Int))),(9,.pv (iV (k:Int))),(10,.pv (iV (k:Int)))]) ([(0,0,qad l)])
theorem qtn {l:List Pt} {k:Nat} {id:Int} (r0:qy0 id k l) (hge:decide ((k:Int)<(l.length:Int))=false) :
 Fn 82 1 [.ls 0 l.length,.pv (iV (id)),.pv (.func (.func 83) #[] #[])] [(0,0,qad l)] (.pv (.tuple #[iV (k:Int),.bool false])) 0 []:=
 Fz [] [Lf r0,.t false]
  tI (Lo r0 [] (Ai hge tI))
theorem qt3 {l:List Pt} {k:Nat} {p:Pt} {c:Int} {id:Int} (r0:qy0 id k l) (hk:l[k]?=some p) (hin:0≤(k:Int)∧(k:Int)<(l.length:Int)) (hlt:decide ((k:Int)<(l.length:Int))=true) (hc:qxZ c id p) (hz:(c==0)=true) :
 Fn 82 1 [.ls 0 l.length,.pv (iV (id)),.pv (.func (.func 83) #[] #[])] [(0,0,qad l)] (.pv (.tuple #[iV (k:Int),.bool true])) 0 []:=
 Fz [] [Lf r0,.t true,.r (ptV p),Rf hc,.t true]
  tI (Lo r0 [] (Ai hlt (Ai hin (Ai (qa4 hk) (Ai hc (Ai hz tI))))))
theorem qxz {l:List Pt} {k:Nat} {p:Pt} {c:Int} {id:Int} (r0:qy0 id k l) (hk:l[k]?=some p) (hin:0≤(k:Int)∧(k:Int)<(l.length:Int)) (hlt:decide ((k:Int)<(l.length:Int))=true) (hc:qxZ c id p) (hz:(c==0)=false) :
 Fn 82 1 [.ls 0 l.length,.pv (iV (id)),.pv (.func (.func 83) #[] #[])] [(0,0,qad l)] (.pv (.tuple #[iV (k:Int),.bool false])) 0 []:=
 Fz [] [Lf r0,.t true,.r (ptV p),Rf hc,.t false]
  tI (Lo r0 [] (Ai hlt (Ai hin (Ai (qa4 hk) (Ai hc (Ai hz tI))))))
theorem qfi {l:List Pt} {k:Nat} {b:Bool} {id:Int} (hb:Fn 82 1 [.ls 0 l.length,.pv (iV (id)),.pv (.func (.func 83) #[] #[])] [(0,0,qad l)] (.pv (.tuple #[iV (k:Int),.bool b])) 0 []) :
 Fn 58 1 [qap 0 l,.pv (iV (id))] [(0,0,qad l)] (.pv (.tuple #[iV (k:Int),.bool b])) 0 []:=
 Fz [] [Cf hb [0]]
  tI (Co hb [0] 2 tI)
theorem qic {l:List Pt} {k:Nat} {p:Pt} {id:Int} (hk:l[k]?=some p) (hin:0≤(k:Int)∧(k:Int)<(l.length:Int)) (hc:Fn 44 1 [qap 0 l] [(0,0,qad l)] (.pv (iV (0))) 0 []) (hf:Fn 58 1 [qap 0 l,.pv (iV (id))] [(0,0,qad l)] (.pv (.tuple #[iV (k:Int),.bool true])) 0 []) :
 Fn 36 1 [qap 0 l,.pv (iV (id))] [(0,0,qad l)] (.pv (.tuple #[ptV p,iV (0)])) 0 []:=
 Fz [] [Cf hc [0],.k,Cf hf [0],.k,.r (ptV p)]
  tI (Co hc [0] 3 (Co hf [0] 3 (Ai hin (Ai (qa4 hk) tI))))
theorem qvj {s:Int} (h0:decide (s<0)=false) (hs:iV (IntKind.i64.wrap (s-0))=iV (s)) (hg:decide (s>0)=false) :
 Fn 148 0 [.pv (.slice none 0 0),.pv (iV (s))] [] (.pv (.slice none 0 0)) 0 []:=
 Fz [] [.t false,.k,Re hs,.t false]
  tI (Ai h0 (Ai hs (Ai hg tI)))
theorem qxS {s:Int} (h0:decide (s<0)=false) (hs:iV (IntKind.i64.wrap (s-0))=iV (s)) (hg:decide (s>0)=true) (a0:0≤s) (a1:s≤1000000) :
 Fn 148 0 [.pv (.slice none 0 0),.pv (iV (s))] [] (.ls 0 0) 1 [(0,0,qad ([]:List Pt))]:=
 Fz [(0,1)] [.t false,.k,Re hs,.t true,.w []]
  (qaI (qaG [(0,1)]) [(0,0,qad ([]:List Pt))]) (Ai h0 (Ai hs (Ai hg (Ai a0 (Ai a1 (Ai (Int.le_refl (0:Int)) (Ai (Nat.zero_le s.toNat) tI)))))))
end Go.Proofs.YtleaeldgaflmkaaGreat

namespace Go.Proofs.YtleaeldgaflmkaaGreat
set_option maxRecDepth 100000
open Go.RowKit
theorem qju {l:List Pt} {pi pa pb:Int} {e:Int} (hc:Fn 116 1 [qap 0 l,.pv (qab pi pa pb)] [(0,0,qad l)] (.pv (iV (e))) 0 []) (he:(e !=0)=true) :
 Fn 95 1 [qap 0 l,.pv (qab pi pa pb)] [(0,0,qad l)] (.pv (.tuple #[.agg #[.slice none 0 0],iV (e)])) 0 []:=
 Fz [] [Cf hc [0],.t true]
  tI (Co hc [0] 4 (Ai he tI))
abbrev qw3 (l:List Pt) (pa:Int) (pb:Int) (pi:Int):Prop:=Fn 116 1 [qap 0 l,.pv (qab pi pa pb)] [(0,0,qad l)] (.pv (iV (0))) 0 []
theorem qkx {l:List Pt} {k:Nat} {pi pa pb:Int} (hc:qw3 l pa pb pi) (hf:Fn 58 1 [qap 0 l,.pv (iV (pi))] [(0,0,qad l)] (.pv (.tuple #[iV (k:Int),.bool true])) 0 []) :
 Fn 95 1 [qap 0 l,.pv (qab pi pa pb)] [(0,0,qad l)] (.pv (.tuple #[.agg #[.slice none 0 0],iV (14)])) 0 []:=
 Fz [] [Cf hc [0],.k,Cf hf [0]]
  tI (Co hc [0] 4 (Co hf [0] 4 tI))
abbrev qyO (k:Nat) (l:List Pt) (pi:Int):Prop:=Fn 58 1 [qap 0 l,.pv (iV (pi))] [(0,0,qad l)] (.pv (.tuple #[iV (k:Int),.bool false])) 0 []
theorem qn9 {l:List Pt} {k:Nat} {pi pa pb:Int} (hc:qw3 l pa pb pi) (hf:qyO k l pi) (h64:((l.length:Int)==64)=true) :
 Fn 95 1 [qap 0 l,.pv (qab pi pa pb)] [(0,0,qad l)] (.pv (.tuple #[.agg #[.slice none 0 0],iV (18)])) 0 []:=
 Fz [] [Cf hc [0],.k,Cf hf [0],.t true]
  tI (Co hc [0] 4 (Co hf [0] 4 (Ai h64 tI)))
theorem quH {l:List Pt} {k:Nat} {pi pa pb:Int} {s1 s2 s3:Int} (hkl:k≤l.length) (hc:qw3 l pa pb pi) (hf:qyO k l pi) (h64:((l.length:Int)==64)=false) (q1:iV (IntKind.i64.wrap ((0:Int)+((k:Nat):Int)))=iV s1) (n1:decide (s1<0)=false) (q2:iV (IntKind.i64.wrap (s1+((1:Nat):Int)))=iV s2) (n2:decide (s2<0)=false) (q3:iV (IntKind.i64.wrap (s2+((l.length-k:Nat):Int)))=iV s3) (n3:decide (s3<0)=false) (hgr:Fn 148 0 [.pv (.slice none 0 0),.pv (iV (s3))] [] (.ls 0 0) 1 [(0,0,qad ([]:List Pt))]) (m1:0+k≤1000000) (m2:0+k+1≤1000000) (m3:0+k+1+(l.length-k)≤1000000) :
 Fn 95 1 [qap 0 l,.pv (qab pi pa pb)] [(0,0,qad l)] (.tu [.ag [.ls 1 (l.take k++(Pt.mk pi pa pb)::l.drop k).length],.one (.pv (iV 0))]) 1 [(1,0,qad (l.take k++(Pt.mk pi pa pb)::l.drop k))]:=
 Fx [(1,10)] [Cf hc [0],.k,Cf hf [0],.t false,.k,.k,.k,.k,.k,.r (iV s1),.t false,.k,.k,.r (iV s2),.t false,.k,.k,.r (iV s3),.t false,.k,.k,Cf hgr [],.k,.k,.k,.k,.k,.k,.k]
  (qxA 10 l k (Pt.mk pi pa pb) hkl) (Ai (qsM l k (Pt.mk pi pa pb) hkl) tI) (Co hc [0] 4 (Co hf [0] 4 (Ai h64 (Ai tI (Ai (Int.natCast_nonneg k) (Ai (Nat.zero_le k) (Ai hkl (Ai (Int.natCast_nonneg k) (Ai tI (Ai hkl (Ai (Nat.le_refl l.length) (Ai q1 (Ai n1 (Ai q2 (Ai n2 (Ai q3 (Ai n3 (Co hgr [] 7 (Ai m1 (Ai m2 (Ai m3 tI)))))))))))))))))))))
theorem qmZ {l:List Pt} {id:Int} {e:Int} (hc:Fn 44 1 [qap 0 l] [(0,0,qad l)] (.pv (iV (e))) 0 []) (he:(e !=0)=true) :
 Fn 96 1 [qap 0 l,.pv (iV (id))] [(0,0,qad l)] (.pv (.tuple #[.agg #[.slice none 0 0],iV (e)])) 0 []:=
 Fz [] [Cf hc [0],.t true]
  tI (Co hc [0] 3 (Ai he tI))
abbrev qze (l:List Pt):Prop:=Fn 44 1 [qap 0 l] [(0,0,qad l)] (.pv (iV (0))) 0 []
theorem qq9 {l:List Pt} {k:Nat} {id:Int} (hc:qze l) (hf:Fn 58 1 [qap 0 l,.pv (iV (id))] [(0,0,qad l)] (.pv (.tuple #[iV (k:Int),.bool false])) 0 []) :
 Fn 96 1 [qap 0 l,.pv (iV (id))] [(0,0,qad l)] (.pv (.tuple #[.agg #[.slice none 0 0],iV (6)])) 0 []:=
 Fz [] [Cf hc [0],.k,Cf hf [0],.k]
  tI (Co hc [0] 3 (Co hf [0] 3 tI))
theorem qoP {l:List Pt} {k:Nat} {id:Int} {s1 s2:Int} (hkl:k≤l.length) (hkl1:k+1≤l.length) (hc:qze l) (hf:Fn 58 1 [qap 0 l,.pv (iV (id))] [(0,0,qad l)] (.pv (.tuple #[iV (k:Int),.bool true])) 0 []) (hk1:iV (IntKind.i64.wrap ((k:Int)+1))=iV (((k+1:Nat):Int))) (q1:iV (IntKind.i64.wrap ((0:Int)+((k:Nat):Int)))=iV s1) (n1:decide (s1<0)=false) (q2:iV (IntKind.i64.wrap (s1+((l.length-(k+1):Nat):Int)))=iV s2) (n2:decide (s2<0)=false) (hgr:Fn 148 0 [.pv (.slice none 0 0),.pv (iV (s2))] [] (.ls 0 0) 1 [(0,0,qad ([]:List Pt))]) (m1:0+k≤1000000) (m2:0+k+(l.length-(k+1))≤1000000) :
 Fn 96 1 [qap 0 l,.pv (iV (id))] [(0,0,qad l)] (.tu [.ag [.ls 1 (l.take k++l.drop (k+1)).length],.one (.pv (iV 0))]) 1 [(1,0,qad (l.take k++l.drop (k+1)))]:=
 Fx [(1,7)] [Cf hc [0],.k,Cf hf [0],.k,.k,Re hk1,.k,.k,.k,.k,.r (iV s1),.t false,.k,.k,.r (iV s2),.t false,.k,.k,Cf hgr [],.k,.k,.k,.k,.k]
  (qnJ 7 l k hkl1) (Ai (qkg l k hkl1) tI) (Co hc [0] 3 (Co hf [0] 3 (Ai tI (Ai (Int.natCast_nonneg k) (Ai (Nat.zero_le k) (Ai hkl (Ai hk1 (Ai (Int.natCast_nonneg (k+1)) (Ai tI (Ai hkl1 (Ai (Nat.le_refl l.length) (Ai q1 (Ai n1 (Ai q2 (Ai n2 (Co hgr [] 5 (Ai m1 (Ai m2 tI))))))))))))))))))
theorem qmk {l:List Pt} {k:Nat} {id:Int} {s1 s2:Int} (hkl:k≤l.length) (hkl1:k+1≤l.length) (hc:qze l) (hf:Fn 58 1 [qap 0 l,.pv (iV (id))] [(0,0,qad l)] (.pv (.tuple #[iV (k:Int),.bool true])) 0 []) (hk1:iV (IntKind.i64.wrap ((k:Int)+1))=iV (((k+1:Nat):Int))) (q1:iV (IntKind.i64.wrap ((0:Int)+((k:Nat):Int)))=iV s1) (n1:decide (s1<0)=false) (q2:iV (IntKind.i64.wrap (s1+((l.length-(k+1):Nat):Int)))=iV s2) (n2:decide (s2<0)=false) (hgr:Fn 148 0 [.pv (.slice none 0 0),.pv (iV (s2))] [] (.pv (.slice none 0 0)) 0 []) (m1:0+k≤1000000) (m2:0+k+(l.length-(k+1))≤1000000) :
 Fn 96 1 [qap 0 l,.pv (iV (id))] [(0,0,qad l)] (.tu [.ag [.ls 1 (l.take k++l.drop (k+1)).length],.one (.pv (iV 0))]) 1 [(1,0,qad (l.take k++l.drop (k+1)))]:=
 Fx [(1,6)] [Cf hc [0],.k,Cf hf [0],.k,.k,Re hk1,.k,.k,.k,.k,.r (iV s1),.t false,.k,.k,.r (iV s2),.t false,.k,.k,Cf hgr [],.k,.k,.k,.k,.k]
  (qnJ 6 l k hkl1) (Ai (qkg l k hkl1) tI) (Co hc [0] 3 (Co hf [0] 3 (Ai tI (Ai (Int.natCast_nonneg k) (Ai (Nat.zero_le k) (Ai hkl (Ai hk1 (Ai (Int.natCast_nonneg (k+1)) (Ai tI (Ai hkl1 (Ai (Nat.le_refl l.length) (Ai q1 (Ai n1 (Ai q2 (Ai n2 (Co hgr [] 5 (Ai m1 (Ai m2 tI))))))))))))))))))
theorem qfo {l:List Pt} {pi pa pb:Int} {e:Int} (hc:Fn 116 1 [qap 0 l,.pv (qab pi pa pb)] [(0,0,qad l)] (.pv (iV (e))) 0 []) (he:(e !=0)=true) :
 Fn 97 1 [qap 0 l,.pv (qab pi pa pb)] [(0,0,qad l)] (.pv (.tuple #[.agg #[.slice none 0 0],iV (e)])) 0 []:=
 Fz [] [Cf hc [0],.t true]
  tI (Co hc [0] 4 (Ai he tI))
theorem qlC {l:List Pt} {k:Nat} {pi pa pb:Int} (hc:qw3 l pa pb pi) (hf:qyO k l pi) :
 Fn 97 1 [qap 0 l,.pv (qab pi pa pb)] [(0,0,qad l)] (.pv (.tuple #[.agg #[.slice none 0 0],iV (6)])) 0 []:=
 Fz [] [Cf hc [0],.k,Cf hf [0],.k]
  tI (Co hc [0] 4 (Co hf [0] 4 tI))
theorem qio {l:List Pt} {k:Nat} {pi pa pb:Int} {s1 s2 s3:Int} (hkl:k≤l.length) (hkl1:k+1≤l.length) (hc:qw3 l pa pb pi) (hf:Fn 58 1 [qap 0 l,.pv (iV (pi))] [(0,0,qad l)] (.pv (.tuple #[iV (k:Int),.bool true])) 0 []) (hk1:iV (IntKind.i64.wrap ((k:Int)+1))=iV (((k+1:Nat):Int))) (q1:iV (IntKind.i64.wrap ((0:Int)+((k:Nat):Int)))=iV s1) (n1:decide (s1<0)=false) (q2:iV (IntKind.i64.wrap (s1+((1:Nat):Int)))=iV s2) (n2:decide (s2<0)=false) (q3:iV (IntKind.i64.wrap (s2+((l.length-(k+1):Nat):Int)))=iV s3) (n3:decide (s3<0)=false) (hgr:Fn 148 0 [.pv (.slice none 0 0),.pv (iV (s3))] [] (.ls 0 0) 1 [(0,0,qad ([]:List Pt))]) (m1:0+k≤1000000) (m2:0+k+1≤1000000) (m3:0+k+1+(l.length-(k+1))≤1000000) :
 Fn 97 1 [qap 0 l,.pv (qab pi pa pb)] [(0,0,qad l)] (.tu [.ag [.ls 1 (l.take k++(Pt.mk pi pa pb)::l.drop (k+1)).length],.one (.pv (iV 0))]) 1 [(1,0,qad (l.take k++(Pt.mk pi pa pb)::l.drop (k+1)))]:=
 Fx [(1,10)] [Cf hc [0],.k,Cf hf [0],.k,.k,Re hk1,.k,.k,.k,.k,.r (iV s1),.t false,.k,.k,.r (iV s2),.t false,.k,.k,.r (iV s3),.t false,.k,.k,Cf hgr [],.k,.k,.k,.k,.k,.k,.k]
  (qwz 10 l k (Pt.mk pi pa pb) hkl1) (Ai (qtI l k (Pt.mk pi pa pb) hkl1) tI) (Co hc [0] 4 (Co hf [0] 4 (Ai tI (Ai (Int.natCast_nonneg k) (Ai (Nat.zero_le k) (Ai hkl (Ai hk1 (Ai (Int.natCast_nonneg (k+1)) (Ai tI (Ai hkl1 (Ai (Nat.le_refl l.length) (Ai q1 (Ai n1 (Ai q2 (Ai n2 (Ai q3 (Ai n3 (Co hgr [] 7 (Ai m1 (Ai m2 (Ai m3 tI)))))))))))))))))))))
end Go.Proofs.YtleaeldgaflmkaaGreat

namespace Go.Proofs.YtleaeldgaflmkaaGreat
set_option maxRecDepth 100000
open Go.RowKit
abbrev qvS (td:Int) (tn:Int):HpL:=[(0,0,.pv (iV tn)),(0,1,.pv (iV td))]
theorem qyN {p q:Pt} {tn td:Int} (he:(p.id==q.id)=true) :
 Fn 80 1 [.pv (ptV p),.pv (ptV q),.pp 0 0] (qvS td tn) (.pv (iV (0))) 0 []:=
 Fz [] [.t true]
  tI (Ai he tI)
theorem qzT {p q:Pt} {tn td:Int} (he:(p.id==q.id)=false) (ha:Pure Tryz.prog 81 #[qab p.id p.a p.b,qab q.id q.a q.b,qaa tn td] (.tuple #[.bool true,iV 0])) :
 Fn 80 1 [.pv (ptV p),.pv (ptV q),.pp 0 0] (qvS td tn) (.pv (iV (-1))) 0 []:=
 Fz [] [.t false,Rf ha]
  tI (Ai he (Ai ha tI))
theorem qAC {p q:Pt} {tn td:Int} (he:(p.id==q.id)=false) (ha:Pure Tryz.prog 81 #[qab p.id p.a p.b,qab q.id q.a q.b,qaa tn td] (.tuple #[.bool false,iV 0])) :
 Fn 80 1 [.pv (ptV p),.pv (ptV q),.pp 0 0] (qvS td tn) (.pv (iV (1))) 0 []:=
 Fz [] [.t false,Rf ha]
  tI (Ai he (Ai ha tI))
abbrev quP (l:List Pt) (m:Pt) (td:Int) (tn:Int):HpL:=[(0,0,qad l),(1,0,.pv (iV tn)),(1,1,.pv (iV td)),(3,0,.pv (iV (m).id)),(3,1,.pv (iV (m).a)),(3,2,.pv (iV (m).b)),(2,0,.pv (iV 0)),(2,1,.pv (iV 0)),(2,2,.pv (iV 0))]
abbrev qBe (l:List Pt) (p:Pt) (td:Int) (tn:Int):HpL:=[(0,0,qad l),(1,0,.pv (iV tn)),(1,1,.pv (iV td)),(3,0,.pv (iV (p).id)),(3,1,.pv (iV (p).a)),(3,2,.pv (iV (p).b)),(2,0,.pv (iV 0)),(2,1,.pv (iV 0)),(2,2,.pv (iV 0))]
abbrev qzr (k:Nat) (l:List Pt):TmL:=[(0,.ls 0 l.length),(1,.pc 80 [.pp 1 0]),(4,.pp 2 0),(5,.pp 3 0),(6,.pv (iV (k:Int)))]
theorem qzQ {l:List Pt} {k:Nat} {p m:Pt} {c:Int} {tn td:Int} (hk:l[k]?=some p) (hin:0≤(k:Int)∧(k:Int)<(l.length:Int)) (hlt:decide ((k:Int)<(l.length:Int))=true) (hc:Fn 80 1 [.pv (ptV p),.pv (ptV m),.pp 0 0] (qvS td tn) (.pv (iV (c))) 0 []) (hz:decide (c<0)=true) (hs:iV (IntKind.i64.wrap ((k:Int)+1))=iV (((k+1:Nat):Int))) {e:Exit} {tm2:TmL} {hp2:HpL}
 (r:Rl 2 2 56 0 33 4 ([(0,.ls 0 l.length),(1,.pc 80 [.pp 1 0]),(4,.pp 2 0),(5,.pp 3 0),(6,.pv (iV ((k+1:Nat):Int)))]) (qBe l p td tn) e tm2 hp2):Rl 2 2 56 0 33 4 (qzr k l) (quP l m td tn) e tm2 hp2:=
 RunsL.next [] 300 [.t true,.r (ptV p),Cf hc [1],.t true,.r (ptV p),Re hs]
  (Ro (Ai hlt (Ai hin (Ai (qa4 hk) (Co hc [1] 4 (Ai hz (Ai hin (Ai (qa4 hk) (Ai hs tI))))))))) r
theorem qzH {l:List Pt} {k:Nat} {p m:Pt} {c:Int} {tn td:Int} (hk:l[k]?=some p) (hin:0≤(k:Int)∧(k:Int)<(l.length:Int)) (hlt:decide ((k:Int)<(l.length:Int))=true) (hc:Fn 80 1 [.pv (ptV p),.pv (ptV m),.pp 0 0] (qvS td tn) (.pv (iV (c))) 0 []) (hz:decide (c<0)=false) (hs:iV (IntKind.i64.wrap ((k:Int)+1))=iV (((k+1:Nat):Int))) {e:Exit} {tm2:TmL} {hp2:HpL}
 (r:Rl 2 2 56 0 33 4 ([(0,.ls 0 l.length),(1,.pc 80 [.pp 1 0]),(4,.pp 2 0),(5,.pp 3 0),(6,.pv (iV ((k+1:Nat):Int)))]) (quP l m td tn) e tm2 hp2):Rl 2 2 56 0 33 4 (qzr k l) (quP l m td tn) e tm2 hp2:=
 RunsL.next [] 300 [.t true,.r (ptV p),Cf hc [1],.t false,Re hs]
  (Ro (Ai hlt (Ai hin (Ai (qa4 hk) (Co hc [1] 4 (Ai hz (Ai hs tI))))))) r
theorem qvo {l:List Pt} {k:Nat} {m:Pt} {tn td:Int} (hge:decide ((k:Int)<(l.length:Int))=false):Rl 2 2 56 0 33 4 (qzr k l) (quP l m td tn) (.exit 0) ([(4,.pp 2 0),(5,.pp 3 0)]) (quP l m td tn):=
 RunsL.stop [] 300 [.t false] (fun h=>by cases h)
  (Ro (Ai hge tI))
theorem qus {l:List Pt} {p m:Pt} {tn td:Int} (hk:l[0]?=some p) (hin:0≤(0:Int)∧(0:Int)<(l.length:Int)) (h1:decide ((l.length:Int)<1)=false) (r0:Rl 2 2 56 0 33 4 ([(0,.ls 0 l.length),(1,.pc 80 [.pp 1 0]),(4,.pp 2 0),(5,.pp 3 0),(6,.pv (iV ((0+1:Nat):Int)))]) (qBe l p td tn) (.exit 0) ([(4,.pp 2 0),(5,.pp 3 0)]) (quP l m td tn)) :
 Fn 56 2 [.ls 0 l.length,.pc 80 [.pp 1 0]] [(0,0,qad l),(1,0,.pv (iV tn)),(1,1,.pv (iV td))] (.pv (ptV m)) 0 []:=
 Fz [] [.t false,.r (ptV p),Lf r0]
  tI (Ai h1 (Ai hin (Ai (qa4 hk) (Lo r0 [] tI))))
theorem qp4 {l:List Pt} {tn td:Int} (hc:Fn 55 1 [qap 0 l,.pv (qaa tn td)] [(0,0,qad l)] (.pv (iV (0))) 0 []) (h0:((l.length:Int)==0)=true) :
 Fn 35 1 [qap 0 l,.pv (qaa tn td)] [(0,0,qad l)] (.pv (.tuple #[iV (0),iV (42)])) 0 []:=
 Fz [] [Cf hc [0],.k,.t true]
  tI (Co hc [0] 3 (Ai h0 tI))
theorem qlZ {l:List Pt} {m:Pt} {tn td:Int} (hc:Fn 55 1 [qap 0 l,.pv (qaa tn td)] [(0,0,qad l)] (.pv (iV (0))) 0 []) (h0:((l.length:Int)==0)=false) (hm:Fn 56 2 [.ls 0 l.length,.pc 80 [.pp 1 0]] [(0,0,qad l),(1,0,.pv (iV tn)),(1,1,.pv (iV td))] (.pv (ptV m)) 0 []) :
 Fn 35 1 [qap 0 l,.pv (qaa tn td)] [(0,0,qad l)] (.pv (.tuple #[iV (m.id),iV (0)])) 0 []:=
 Fz [] [Cf hc [0],.k,.t false,.k,Cf hm [0,3]]
  tI (Co hc [0] 3 (Ai h0 (Co hm [0,3] 4 tI)))
theorem qkH {l:List Pt} (h0:0<l.length) (hn:0+l.length≤1000000) :
 Fn 68 1 [.ls 0 l.length] [(0,0,qad l)] (.ls 1 l.length) 1 [(1,0,qad l)]:=
 Fx [(1,2)] [.t false]
  (qtm l) (Ai (qke l) tI) (Ai h0 (Ai hn tI))
theorem qti {ad:Addr} {c:Nat} :
 Fn 68 0 [.pv (.slice (some ad) 0 c)] [] (.ls 0 0) 1 [(0,0,qad ([]:List Pt))]:=
 Fz [(0,1)] [.k]
  (qaI (qaG [(0,1)]) [(0,0,qad ([]:List Pt))]) (Ai (Nat.zero_le _:0+0≤1000000) tI)
theorem qoe {c:Nat}:Pure Tryz.prog 68 #[.slice none 0 c] (.slice none 0 0):=
 qac (args:=[.slice none 0 c]) 200 [] (Ai rfl tI) (by kernel_rfl)
end Go.Proofs.YtleaeldgaflmkaaGreat

namespace Go.Proofs.YtleaeldgaflmkaaGreat
set_option maxRecDepth 100000
open Go.RowKit
theorem qzj {n1 d1 n2 d2 er:Int} (h1:Pure Tryz.prog 102 #[qaa n1 d1,qaa n2 d2] (.tuple #[iV er,iV 0])) (h2:decide (er<0)=true) :
 Pure Tryz.prog 71 #[qaa n1 d1,qaa n2 d2] (.bool true):=
 qac (args:=[qaa n1 d1,qaa n2 d2]) 300 [Rf h1,.t true]
  (Ai rfl (Ai h1 (Ai h2 tI))) (by kernel_rfl)
theorem qyR {n1 d1 n2 d2 er:Int} (h1:Pure Tryz.prog 102 #[qaa n1 d1,qaa n2 d2] (.tuple #[iV er,iV 0])) (h2:decide (er<0)=false) :
 Pure Tryz.prog 71 #[qaa n1 d1,qaa n2 d2] (.bool false):=
 qac (args:=[qaa n1 d1,qaa n2 d2]) 300 [Rf h1,.t false]
  (Ai rfl (Ai h1 (Ai h2 tI))) (by kernel_rfl)
abbrev qx5 (s:List Pt) (td:Int) (tn:Int) (ts:List Rz):HpL:=[(1,0,.ls 0 s.length),(2,0,.pv (iV tn)),(2,1,.pv (iV td)),(4,0,.ls 3 s.length),(0,0,qad s),(3,0,qj1 s.length ts)]
theorem qqx {tn td n1 d1 er:Int} {s:List Pt} {p:Pt} {k:Nat} {ts:List Rz} (hlt:decide ((k:Int)<(s.length:Int))=true) (hin:0≤(k:Int)∧(k:Int)<(s.length:Int)) (hp:s[k]?=some p) (ha:Pure Tryz.prog 37 #[qab p.id p.a p.b,qaa tn td] (.tuple #[qaa n1 d1,iV er])) (hk:k<ts.length) (hs:iV (IntKind.i64.wrap ((k:Int)+1))=iV (((k+1:Nat):Int))) {e:Exit} {tm2:TmL} {hp2:HpL}
 (r:Rl 1 1 70 0 31 5 ([(2,.pp 1 0),(3,.pp 2 0),(5,.pp 4 0),(13,.ls 0 s.length),(14,.pv (iV (s.length:Int))),(15,.pv (iV ((k+1:Nat):Int)))]) ([(1,0,.ls 0 s.length),(2,0,.pv (iV tn)),(2,1,.pv (iV td)),(4,0,.ls 3 s.length),(0,0,qad s),(3,0,qj1 s.length (ts.set k ⟨n1,d1⟩))]) e tm2 hp2):Rl 1 1 70 0 31 5 ([(2,.pp 1 0),(3,.pp 2 0),(5,.pp 4 0),(13,.ls 0 s.length),(14,.pv (iV (s.length:Int))),(15,.pv (iV (k:Int)))]) (qx5 s td tn ts) e tm2 hp2:=
 RunsL.next [] 300 [.t true,.r (ptV p),.gh [(4,0),(5,0),(5,1),(5,2),(2,0),(2,1)],Rf ha,.w (rzV (ts.set k ⟨n1,d1⟩)),Re hs]
  (Ro (Ai hlt (Ai hin (Ai (qa4 hp) (Ai (Er (SV.ls 3 s.length)) (Ai (Er (SV.pv (iV p.id))) (Ai (Er (SV.pv (iV p.a))) (Ai (Er (SV.pv (iV p.b))) (Ai (Er (SV.pv (iV tn))) (Ai (Er (SV.pv (iV td))) (Ai ha (Ai (Er (SV.ls 3 s.length)) (Ai (Er (SV.pv (iV p.id))) (Ai (Er (SV.pv (iV p.a))) (Ai (Er (SV.pv (iV p.b))) (Ai (Er (SV.pv (iV tn))) (Ai (Er (SV.pv (iV td))) (Ai (Er (SV.ls 3 s.length)) (Ai (Er (SV.pv (iV p.id))) (Ai (Er (SV.pv (iV p.a))) (Ai (Er (SV.pv (iV p.b))) (Ai (Er (SV.pv (iV tn))) (Ai (Er (SV.pv (iV td))) (Ai hin (Ai (Er (SV.ls 3 s.length)) (Ai (Er (SV.pv (iV p.id))) (Ai (Er (SV.pv (iV p.a))) (Ai (Er (SV.pv (iV p.b))) (Ai (Er (SV.pv (iV tn))) (Ai (Er (SV.pv (iV td))) (Ai (qjE ts k ⟨n1,d1⟩ hk) (Ai (quA ts k hk) (Ai (Er (SV.ls 3 s.length)) (Ai (Er (SV.pv (iV p.id))) (Ai (Er (SV.pv (iV p.a))) (Ai (Er (SV.pv (iV p.b))) (Ai (Er (SV.pv (iV tn))) (Ai (Er (SV.pv (iV td))) (Ai hs tI))))))))))))))))))))))))))))))))))))))) r
theorem qt5 {tn td:Int} {s:List Pt} {k:Nat} {ts:List Rz} (hlt:decide ((k:Int)<(s.length:Int))=false):Rl 1 1 70 0 31 5 ([(2,.pp 1 0),(3,.pp 2 0),(5,.pp 4 0),(13,.ls 0 s.length),(14,.pv (iV (s.length:Int))),(15,.pv (iV (k:Int)))]) (qx5 s td tn ts) (.exit 0) ([(2,.pp 1 0),(5,.pp 4 0)]) (qx5 s td tn ts):=
 RunsL.stop [] 300 [.t false] (fun h=>by cases h)
  (Ro (Ai hlt tI))
theorem qw9 {tn td:Int} {s:List Pt} {ts:List Rz} (n0:0≤(s.length:Int)) (n1l:(s.length:Int)≤1000000) (r0:Rl 1 1 70 0 31 5 ([(2,.pp 1 0),(3,.pp 2 0),(5,.pp 4 0),(13,.ls 0 s.length),(14,.pv (iV (s.length:Int))),(15,.pv (iV ((0:Nat):Int)))]) ([(1,0,.ls 0 s.length),(2,0,.pv (iV tn)),(2,1,.pv (iV td)),(4,0,.ls 3 s.length),(0,0,qad s),(3,0,qj1 s.length (List.replicate s.length ⟨0,0⟩))]) (.exit 0) ([(2,.pp 1 0),(5,.pp 4 0)]) (qx5 s td tn ts)) :
 Fn 70 1 [qap 0 s,.pv (qaa tn td)] [(0,0,qad s)] (.pc 100 [.pp 2 0,.pp 1 0]) 3 [(1,0,.ls 0 s.length),(2,0,.ls 3 s.length),(3,0,qj1 s.length ts)]:=
 Fz [(2,4)] [Lf r0]
  (qaI (qaG [(2,4)]) [(1,0,.ls 0 s.length),(2,0,.ls 3 s.length),(3,0,qj1 s.length ts)]) (Ai n0 (Ai (Eq.refl (s.length:Int)) (Ai n1l (Ai (Lt r0 []) (Ai (Ai (Er (SV.ls 0 s.length)) (Ai (Er (SV.pv (iV tn))) (Ai (Er (SV.pv (iV td))) (Ai (Er (SV.ls 3 s.length)) (Ai (Er (qad s)) (Ai (qnQ s.length) tI)))))) (Ai r0 tI))))))
abbrev qxV (s:List Pt) (ts:List Rz):HpL:=[(0,0,qad s),(1,0,.ls 0 s.length),(2,0,.ls 3 s.length),(3,0,qj1 s.length ts)]
theorem ppc {n1 d1 n2 d2 n3 d3 er e1:Int} {s:List Pt} {p q:Pt} {i j:Nat} {ts:List Rz} (ia:0≤(i:Int)∧(i:Int)<(s.length:Int)) (ib:0≤(j:Int)∧(j:Int)<(s.length:Int)) (ht:ts[i]?=some ⟨n1,d1⟩) (hu:ts[j]?=some ⟨n2,d2⟩) (hp:s[i]?=some p) (hq:s[j]?=some q) (cs:Pure Tryz.prog 101 #[qaa n1 d1,qaa n2 d2] (.tuple #[qaa n3 d3,iV er])) (hn:iV (IntKind.i64.wrap (0-n3))=iV (e1)) :
 Fn 100 4 [.pv (iV (i:Int)),.pv (iV (j:Int)),.pp 2 0,.pp 1 0] (qxV s ts) (.pv (.agg #[iV p.id,iV q.id,iV (if e1>n3 then e1 else n3),iV d3])) 0 []:=
 Fz [] [.md,.r (qaa n1 d1),.r (qaa n2 d2),Rf cs,Re hn,.md,.r (iV p.id),.r (iV q.id)]
  tI (Ai ia (Ai (raZ ht) (Ai ib (Ai (raZ hu) (Ai cs (Ai hn (Ai ia (Ai (qb5 hp) (Ai ib (Ai (qb5 hq) tI))))))))))
abbrev qoX (bd:Int) (bn:Int) (s:List Pt) (ts:List Rz) (x1:Int) (x2:Int):HpL:=[(1,0,.ls 0 s.length),(3,0,.pv (iV 0)),(3,1,.pv (iV 0)),(3,2,.pv (iV 0)),(3,3,.pv (iV 0)),(4,0,.ls 0 s.length),(5,0,.ls 6 s.length),(7,0,.pv (iV x1)),(7,1,.pv (iV x2)),(7,2,.pv (iV bn)),(7,3,.pv (iV bd)),(0,0,qad s),(6,0,qj1 s.length ts)]
abbrev qyc (d1:Int) (n1:Int) (s:List Pt) (ts:List Rz) (y1:Int) (y2:Int):HpL:=[(1,0,.ls 0 s.length),(3,0,.pv (iV 0)),(3,1,.pv (iV 0)),(3,2,.pv (iV 0)),(3,3,.pv (iV 0)),(4,0,.ls 0 s.length),(5,0,.ls 6 s.length),(7,0,.pv (iV y1)),(7,1,.pv (iV y2)),(7,2,.pv (iV n1)),(7,3,.pv (iV d1)),(0,0,qad s),(6,0,qj1 s.length ts)]
abbrev qyG (a:Nat) (b:Nat) (s:List Pt):TmL:=[(2,.pp 1 0),(4,.pp 3 0),(5,.pc 100 [.pp 5 0,.pp 4 0]),(6,.pp 7 0),(17,.pv (iV (s.length:Int))),(18,.pv (iV (a:Int))),(7,.pv (iV (a:Int))),(8,.pv (iV (b:Int)))]
abbrev qBd (a:Nat) (b:Nat) (s:List Pt):TmL:=[(2,.pp 1 0),(4,.pp 3 0),(5,.pc 100 [.pp 5 0,.pp 4 0]),(6,.pp 7 0),(17,.pv (iV (s.length:Int))),(18,.pv (iV (a:Int))),(7,.pv (iV (a:Int))),(8,.pv (iV ((b+1:Nat):Int)))]
theorem qqZ {n1 d1 bn bd x1 x2 y1 y2:Int} {s:List Pt} {a b:Nat} {ts:List Rz} (hlt:decide ((b:Int)<(s.length:Int))=true) (hc:Fn 100 4 [.pv (iV (a:Int)),.pv (iV (b:Int)),.pp 2 0,.pp 1 0] (qxV s ts) (.pv (.agg #[iV y1,iV y2,iV n1,iV d1])) 0 []) (cc:Pure Tryz.prog 71 #[qaa n1 d1,qaa bn bd] (.bool true)) (hs:iV (IntKind.i64.wrap ((b:Int)+1))=iV (((b+1:Nat):Int))) {e:Exit} {tm2:TmL} {hp2:HpL}
 (r:Rl 1 1 45 1 42 8 (qBd a b s) (qyc d1 n1 s ts y1 y2) e tm2 hp2):Rl 1 1 45 1 42 8 (qyG a b s) (qoX bd bn s ts x1 x2) e tm2 hp2:=
 RunsL.next [] 300 [.t true,Cf hc [0,4,5,6],Rf cc,Re hs]
  (Ro (Ai hlt (Co hc [0,4,5,6] 8 (Ai cc (Ai hs tI))))) r
theorem qqw {n1 d1 bn bd x1 x2 y1 y2:Int} {s:List Pt} {a b:Nat} {ts:List Rz} (hlt:decide ((b:Int)<(s.length:Int))=true) (hc:Fn 100 4 [.pv (iV (a:Int)),.pv (iV (b:Int)),.pp 2 0,.pp 1 0] (qxV s ts) (.pv (.agg #[iV y1,iV y2,iV n1,iV d1])) 0 []) (cc:Pure Tryz.prog 71 #[qaa n1 d1,qaa bn bd] (.bool false)) (hs:iV (IntKind.i64.wrap ((b:Int)+1))=iV (((b+1:Nat):Int))) {e:Exit} {tm2:TmL} {hp2:HpL}
 (r:Rl 1 1 45 1 42 8 (qBd a b s) (qoX bd bn s ts x1 x2) e tm2 hp2):Rl 1 1 45 1 42 8 (qyG a b s) (qoX bd bn s ts x1 x2) e tm2 hp2:=
 RunsL.next [] 300 [.t true,Cf hc [0,4,5,6],Rf cc,Re hs]
  (Ro (Ai hlt (Co hc [0,4,5,6] 8 (Ai cc (Ai hs tI))))) r
abbrev qBa (a:Nat) (s:List Pt):TmL:=[(2,.pp 1 0),(4,.pp 3 0),(5,.pc 100 [.pp 5 0,.pp 4 0]),(6,.pp 7 0),(17,.pv (iV (s.length:Int))),(18,.pv (iV (a:Int))),(7,.pv (iV (a:Int)))]
theorem qq8 {bn bd x1 x2:Int} {s:List Pt} {a b:Nat} {ts:List Rz} (hlt:decide ((b:Int)<(s.length:Int))=false):Rl 1 1 45 1 42 8 (qyG a b s) (qoX bd bn s ts x1 x2) (.exit 2) (qBa a s) (qoX bd bn s ts x1 x2):=
 RunsL.stop [] 300 [.t false] (fun h=>by cases h)
  (Ro (Ai hlt tI))
abbrev qAX (a:Nat) (s:List Pt):TmL:=[(2,.pp 1 0),(4,.pp 3 0),(5,.pc 100 [.pp 5 0,.pp 4 0]),(6,.pp 7 0),(17,.pv (iV (s.length:Int))),(18,.pv (iV (a:Int)))]
theorem qps {n1 d1 bn bd x1 x2 y1 y2:Int} {s:List Pt} {a:Nat} {ts:List Rz} (hlt:decide ((a:Int)<(s.length:Int))=true) (ha:iV (IntKind.i64.wrap ((a:Int)+1))=iV (((a+1:Nat):Int))) (r0:Rl 1 1 45 1 42 8 ([(2,.pp 1 0),(4,.pp 3 0),(5,.pc 100 [.pp 5 0,.pp 4 0]),(6,.pp 7 0),(17,.pv (iV (s.length:Int))),(18,.pv (iV (a:Int))),(7,.pv (iV (a:Int))),(8,.pv (iV ((a+1:Nat):Int)))]) (qoX bd bn s ts x1 x2) (.exit 2) (qBa a s) (qyc d1 n1 s ts y1 y2)) (hb:iV (IntKind.i64.wrap ((a:Int)+1))=iV (((a+1:Nat):Int))) {e:Exit} {tm2:TmL} {hp2:HpL}
 (r:Rl 1 1 45 0 42 8 ([(2,.pp 1 0),(4,.pp 3 0),(5,.pc 100 [.pp 5 0,.pp 4 0]),(6,.pp 7 0),(17,.pv (iV (s.length:Int))),(18,.pv (iV ((a+1:Nat):Int)))]) (qyc d1 n1 s ts y1 y2) e tm2 hp2):Rl 1 1 45 0 42 8 (qAX a s) (qoX bd bn s ts x1 x2) e tm2 hp2:=
 RunsL.next [] 300 [.t true,Re ha,Lf r0,Re ha]
  (Ro (Ai hlt (Ai ha (Lo r0 [] (Ai hb tI))))) r
theorem qsv {bn bd x1 x2:Int} {s:List Pt} {a:Nat} {ts:List Rz} (hlt:decide ((a:Int)<(s.length:Int))=false):Rl 1 1 45 0 42 8 (qAX a s) (qoX bd bn s ts x1 x2) (.exit 0) ([(2,.pp 1 0),(4,.pp 3 0),(5,.pc 100 [.pp 5 0,.pp 4 0]),(6,.pp 7 0)]) (qoX bd bn s ts x1 x2):=
 RunsL.stop [] 300 [.t false] (fun h=>by cases h)
  (Ro (Ai hlt tI))
theorem qws {tn td n1 d1 bn bd x1 x2 y1 y2:Int} {s:List Pt} {ts:List Rz} (hp:Fn 70 1 [qap 0 s,.pv (qaa tn td)] [(0,0,qad s)] (.pc 100 [.pp 2 0,.pp 1 0]) 3 [(1,0,.ls 0 s.length),(2,0,.ls 3 s.length),(3,0,qj1 s.length ts)]) (hc:Fn 100 4 [.pv (iV ((0:Nat):Int)),.pv (iV ((1:Nat):Int)),.pp 2 0,.pp 1 0] (qxV s ts) (.pv (.agg #[iV x1,iV x2,iV bn,iV bd])) 0 []) (r0:Rl 1 1 45 0 42 8 ([(2,.pp 1 0),(4,.pp 3 0),(5,.pc 100 [.pp 5 0,.pp 4 0]),(6,.pp 7 0),(17,.pv (iV (s.length:Int))),(18,.pv (iV ((0:Nat):Int)))]) (qoX bd bn s ts x1 x2) (.exit 0) ([(2,.pp 1 0),(4,.pp 3 0),(5,.pc 100 [.pp 5 0,.pp 4 0]),(6,.pp 7 0)]) (qyc d1 n1 s ts y1 y2)) :
 Fn 45 1 [qap 0 s,.pv (qaa tn td)] [(0,0,qad s)] (.pv (.agg #[iV y1,iV y2,iV n1,iV d1])) 0 []:=
 Fz [] [Cf hp [0],Cf hc [0,4,5,6],Lf r0]
  tI (Co hp [0] 4 (Co hc [0,4,5,6] 7 (Lo r0 [] tI)))
theorem qyD {tn td e1 e2:Int} {s:List Pt} (hc:Fn 44 1 [qap 0 s] [(0,0,qad s)] (.pv (iV (e1))) 0 []) (ha:Pure Tryz.prog 40 #[qaa tn td] (iV (e2))) (he:(e1 !=0)=true) :
 Fn 18 1 [qap 0 s,.pv (qaa tn td)] [(0,0,qad s)] (.pv (.tuple #[iV 0,iV 0,qaa 0 0,iV e1])) 0 []:=
 Fz [] [.md,Cf hc [0],Rf ha,.k,.k,.t true,.t true]
  tI (Co hc [0] 4 (Ai ha (Ai he (Ai he tI))))
abbrev qzw (s:List Pt):Prop:=Fn 44 1 [qap 0 s] [(0,0,qad s)] (.pv (iV (0))) 0 []
theorem qzY {tn td e2:Int} {s:List Pt} (hc:qzw s) (ha:Pure Tryz.prog 40 #[qaa tn td] (iV (e2))) (he:(e2 !=0)=true) :
 Fn 18 1 [qap 0 s,.pv (qaa tn td)] [(0,0,qad s)] (.pv (.tuple #[iV 0,iV 0,qaa 0 0,iV e2])) 0 []:=
 Fz [] [.md,Cf hc [0],Rf ha,.k,.k,.k,.k,.k,.t true,.t true]
  tI (Co hc [0] 4 (Ai ha (Ai he (Ai he tI))))
theorem qy1 {tn td:Int} {s:List Pt} (hc:qzw s) (ha:Pure Tryz.prog 40 #[qaa tn td] (iV (0))) (hl:decide ((s.length:Int)<2)=true) :
 Fn 18 1 [qap 0 s,.pv (qaa tn td)] [(0,0,qad s)] (.pv (.tuple #[iV 0,iV 0,qaa 0 0,iV 42])) 0 []:=
 Fz [] [.md,Cf hc [0],Rf ha,.k,.k,.k,.k,.k,.k,.k,.k,.k,.t true]
  tI (Co hc [0] 4 (Ai ha (Ai hl tI)))
theorem qy7 {tn td bn bd x1 x2:Int} {s:List Pt} (hc:qzw s) (ha:Pure Tryz.prog 40 #[qaa tn td] (iV (0))) (hl:decide ((s.length:Int)<2)=false) (hp:Fn 45 1 [qap 0 s,.pv (qaa tn td)] [(0,0,qad s)] (.pv (.agg #[iV x1,iV x2,iV bn,iV bd])) 0 []) :
 Fn 18 1 [qap 0 s,.pv (qaa tn td)] [(0,0,qad s)] (.pv (.tuple #[iV x1,iV x2,qaa bn bd,iV 0])) 0 []:=
 Fz [] [.md,Cf hc [0],Rf ha,.k,.k,.k,.k,.k,.k,.k,.k,.k,.t false,Cf hp [0],.md]
  tI (Co hc [0] 4 (Ai ha (Ai hl (Co hp [0] 4 tI))))
end Go.Proofs.YtleaeldgaflmkaaGreat

namespace Go.Proofs.YtleaeldgaflmkaaGreat
set_option maxRecDepth 100000
open Go.ChangeShapes Go.WideShapes Go.ChangeAt Go.RowKit Go.Joins Go.Deep
theorem qvM:Tryz.prog.cellsOf 34=3:=by kernel_rfl
theorem qsR:Tryz.prog.cellsOf 3=1:=by kernel_rfl
theorem qt9:Tryz.prog.cellsOf 2=1:=by kernel_rfl
section
variable {H:Type} {enc:TypeId×Value→H} {W:World} {base:Nat} {spare:Nat→Bool} {held:Bool}
theorem qwo (f:Nat→Pt):∀ (n j:Nat) (v:Value),(qaY ((List.range n).map f))[j]?=some v→j/3<n∧[iV (f (j/3)).id,iV (f (j/3)).a,iV (f (j/3)).b][j%3]?=some v:=by
 intro n j v h
 have hj:j<n*3:=by
  have:=(List.getElem?_eq_some_iff.1 h).1
  rw[qcC] at this
  simpa using this
 have hk:j/3<n:=by omega
 have hg:=qeK (l:=(List.range n).map f) (k:=j/3) (p:=f (j/3)) (by simp[hk])
 refine⟨hk,?_⟩
 have h3:j%3=0∨j%3=1∨j%3=2:=by omega
 have e:j=j/3*3+j%3:=by omega
 rw[e] at h
 rcases h3 with e3 | e3 | e3<;>rw[e3] at h ⊢
 ·rw[Nat.add_zero,hg.1] at h;exact h
 ·rw[hg.2.1] at h;exact h
 ·rw[hg.2.2] at h;exact h
theorem qpi {fuel:Nat} {cs:List Value} {x:DataW H×List MemPlace} (h:DataW.trod enc Tryz.prog W base spare held fuel 24 cs=some x) :
 ∃ (u:Value) (l:List Pt),cs=[u]∧Rd W 3 u l.length (qaY l)∧∀ p∈l,((Lit.int .i64 p.id).wf=true∧(Lit.int .i64 p.a).wf=true∧(Lit.int .i64 p.b).wf=true):=by
 rcases open_slice Tryz.underlying24 h with ⟨rfl,_⟩ | ⟨a,len,cap,m,n,D,Pl,rfl,_,hlc,_,hm,_,hi⟩
 ·exact⟨_,[],rfl,⟨rfl,none,0,rfl,Nat.le_refl _,fun j v hv=>by simp[qaY] at hv⟩,fun p hp=>by simp at hp⟩
 have hlm:len≤m:=by rw[hm];split<;>omega
 have each:∀ i,i<len→∃ p:Pt,W.cell? (a.add (i*3))=some (iV p.id)∧W.cell? (a.add (i*3+1))=some (iV p.a)∧W.cell? (a.add (i*3+2))=some (iV p.b)∧
  ((Lit.int .i64 p.id).wf=true∧(Lit.int .i64 p.a).wf=true∧(Lit.int .i64 p.b).wf=true):=by
  intro i hil
  obtain⟨cs',hc,ht⟩:=hi i (by omega)
  rw[qvM] at hc
  obtain⟨y0,y1,y2,n',_,hlen,t0,t1,t2⟩:=trod_struct3 Tryz.underlying34 ht
  obtain⟨_,hcl,hat⟩:=World.cells?_some hc
  match cs',hcl with
  | [c0,c1,c2],_=>
   obtain⟨pi,e0,_,w0⟩:=DataW.trod_int Tryz.underlying3 t0
   obtain⟨pa,e1,_,w1⟩:=DataW.trod_int Tryz.underlying2 t1
   obtain⟨pb,e2,_,w2⟩:=DataW.trod_int Tryz.underlying2 t2
   simp[qsR,qt9] at e0 e1 e2
   refine⟨⟨pi,pa,pb⟩,?_,?_,?_,w0,w1,w2⟩
   ·have:=hat 0 (by omega);rw[add_add] at this;simpa [e0] using this
   ·have:=hat 1 (by omega);rw[add_add] at this;simpa [e1] using this
   ·have:=hat 2 (by omega);rw[add_add] at this;simpa [e2] using this
 haveI:Inhabited Pt:=⟨⟨0,0,0⟩⟩
 obtain⟨f,hf⟩:=choose_lt (α:=Pt) each
 refine⟨_,(List.range len).map f,rfl,⟨qcC _,some a,cap,by simp,by simpa using hlc,fun j v hv=>?_⟩,fun p hp=>?_⟩
 ·obtain⟨hk,he⟩:=qwo f len j v hv
  obtain⟨c0,c1,c2,_⟩:=hf _ hk
  have hcell:W.cell? (a.add j)=some v:=by
   have h3:j%3=0∨j%3=1∨j%3=2:=by omega
   have e:j=j/3*3+j%3:=by omega
   rcases h3 with e3 | e3 | e3<;>rw[e3] at he e<;>rw[e]<;>simp at he<;>subst he
   ·exact c0
   ·exact c1
   ·exact c2
  obtain⟨b,off,spot⟩:=a
  have hs:spot=none:=by simpa [Addr.add] using World.cell?_spot (hf 0 (by omega)).1
  subst hs
  exact⟨b,off,rfl,by rw[← Go.WideShapes.add_plain];exact hcell⟩
 ·obtain⟨i,hi',rfl⟩:=List.mem_map.1 hp
  exact (hf i (List.mem_range.1 hi')).2.2.2
end
theorem qgK:∀ (l:List Pt) (v:Value),v∈qaY l→v.oneCell'=true
 | [],_,h=>by simp[qaY] at h
 | p::r,v,h=>by
  simp only[qaY,List.mem_cons] at h
  rcases h with rfl | rfl | rfl | h
  ·rfl
  ·rfl
  ·rfl
  ·exact qgK r v h
end Go.Proofs.YtleaeldgaflmkaaGreat

namespace Go.Proofs.YtleaeldgaflmkaaGreat
set_option maxRecDepth 100000
open Go.RowKit
theorem qhD {r0 r1:SV} {b o:Nat} {s:SV} (h:qae [(0,0,r0),(1,0,r1)] b o=some s):(b=0∧o=0∧s=r0)∨(b=1∧o=0∧s=r1):=by
 rw[qaf] at h
 split at h
 ·rename_i e;cases h;exact Or.inl ⟨e.1.symm,e.2.symm,rfl⟩
 ·rw[qaf] at h
  split at h
  ·rename_i e;cases h;exact Or.inr ⟨e.1.symm,e.2.symm,rfl⟩
  ·cases h
theorem qxQ {P:Program} {f:FuncId} {e0 e e2:TypeId} {es0 es es2 n0 n n' k n2:Nat} {xs0 xs ys:List Value} {A:S1} {x:List S1}
 (hA:∀ (β γ:Bl) (v:Value),γ.f=β.f→γ.h=β.h→γ.g 0=β.g 0→A.up.is β v→A.up.is γ v) (hx:∀ (β γ:Bl) (v:Value),γ.f=β.f→γ.h=β.h→(∀ b,b≠1→γ.g b=β.g b)→(SV.tu x).is β v→(SV.tu x).is γ v)
 (h:FnL P f 2 [A.up,.ls 1 n'] [(0,0,.row e0 es0 n0 xs0),(1,0,.row e es n' ((xs.drop (k*es)).take (n'*es)))] (.tu x) 1 [(2,0,.row e2 es2 n2 ys)]) (hk:k+n'≤n) :
 FnL P f 2 [A.up,.lq 1 es k n'] [(0,0,.row e0 es0 n0 xs0),(1,0,.row e es n xs)] (.tu x) 1 [(2,0,.row e2 es2 n2 ys)]:=by
 intro w β us H hd hi
 obtain⟨u0,hu0,R0⟩:=H.rows 0 0 e0 es0 n0 xs0 rfl
 obtain⟨u,hu,R⟩:=H.rows 1 0 e es n xs rfl
 match us,hi with
 | [p,v],⟨hp0,hv0,_⟩=>
 obtain⟨p1,_⟩:=qmm (es:=es) (k:=k) (l:=n') hu ⟨R.rd,R.one⟩ hv0
 have hsl:∃ a c,v=.slice a n' c:=by
  obtain⟨a,nn,c,a',c',_,_,_,hv,_⟩:=hv0
  exact⟨a',c',hv⟩
 have hlt:((xs.drop (k*es)).take (n'*es))≠[]→∀ j,v.ownBlock=some j→j<w.heap.size:=fun hx j hj=>p1.rd.lt hx j hj
 let β1:Bl:=⟨β.f,fun b=>if b=1 then some v else β.g b,β.h,β.h0⟩
 have hg1:β1.g 1=some v:=rfl
 have hgb:∀ b,b≠1→β1.g b=β.g b:=fun b hb=>if_neg hb
 have H1:HRel w 2 β1 [(0,0,.row e0 es0 n0 xs0),(1,0,.row e es n' ((xs.drop (k*es)).take (n'*es)))] w:=by
  refine { gr:=H.gr,live:=H.live,inj:=H.inj,new:=H.new,sep:=fun b r hb=>?_,cells:=fun b o sv hs hr=>?_,rows0:=qeP (qui (by rfl)) fun b o e' es' n1 xs' hs=>?_,rinj0:=qeO (qui (by rfl)) fun b o e' es' n1 xs' c o2 e3 es3 n3 xs3 u' v' hs _ hlo=>?_,maps:=fun b o xs' hs=>?_,fz:=?_ }
  ·by_cases hb1:b=1
   ·subst hb1
    have:=H.sep 1 r hb
    rw[hu] at this;cases this
   ·exact (hgb b hb1).trans (H.sep b r hb)
  ·rcases qhD hs with ⟨_,_,rfl⟩ | ⟨_,_,rfl⟩<;>cases hr
  ·rcases qhD hs with ⟨rfl,_,e1⟩ | ⟨rfl,_,e1⟩
   ·cases e1
    exact⟨u0,(hgb 0 (by decide)).trans hu0,R0.rd,R0.one,R0.low,fun hlo=>by omega,fun hlo=>by omega⟩
   ·cases e1
    exact⟨v,hg1,p1.rd,p1.one,fun _ hx j hj=>p1.rd.lt hx j hj,fun hlo=>by omega,fun hlo=>by omega⟩
  ·rcases qhD hs with ⟨rfl,_,_⟩ | ⟨rfl,_,_⟩<;>omega
  ·rcases qhD hs with ⟨_,_,e1⟩ | ⟨_,_,e1⟩<;>cases e1
  ·refine⟨H.fz.mem,H.fz.own,fun b o s r hs hb=>?_,fun b o s u' j hs hr hlo=>?_,fun b o e' es' n1 ds hs=>?_,fun b o e' es' n1 xs' hs=>?_⟩
   ·rcases qhD hs with ⟨rfl,_,_⟩ | ⟨rfl,_,_⟩
    ·exact H.fz.box 0 0 _ r rfl hb
    ·exact H.fz.box 1 0 _ r rfl hb
   ·rcases qhD hs with ⟨rfl,_,_⟩ | ⟨rfl,_,_⟩<;>omega
   ·rcases qhD hs with ⟨_,_,e1⟩ | ⟨_,_,e1⟩<;>cases e1
   ·rcases qhD hs with ⟨_,_,e1⟩ | ⟨_,_,e1⟩<;>cases e1
 have hdom:β1.dom 2:=fun b hb=>⟨(hd b hb).1,(hgb b (by omega)).trans (hd b hb).2⟩
 refine (h w β1 [p,v] H1 hdom ⟨hA β β1 p rfl rfl (hgb 0 (by decide)) hp0,⟨hg1,hsl⟩,tI⟩).mono fun ex w' hh=>?_
 obtain⟨v',β2,hxx,hle2,hv2,HP,hd2⟩:=hh
 let β3:Bl:=⟨β2.f,fun b=>if b=1 then β.g 1 else β2.g b,β2.h,β2.h0⟩
 have g3:∀ b,b≠1→β3.g b=β2.g b:=fun b hb=>if_neg hb
 have f1:β2.f 1=none:=by
  have:=(hle2.1 1 (Or.inr (by rw[hg1];simp))).1
  refine this.trans ?_
  cases hb:β.f 1 with
  | none=>rfl
  | some r=>have:=H.sep 1 r hb;rw[hu] at this;cases this
 refine⟨v',β3,hxx,⟨fun b hb=>?_,hle2.2.1,hle2.2.2⟩,hx β2 β3 v' rfl rfl g3 hv2,?_,fun b hb=>⟨(hd2 b hb).1,(g3 b (by omega)).trans (hd2 b hb).2⟩⟩
 ·by_cases hb1:b=1
  ·subst hb1
   refine⟨?_,rfl⟩
   refine f1.trans ?_
   cases hb2:β.f 1 with
   | none=>rfl
   | some r=>have:=H.sep 1 r hb2;rw[hu] at this;cases this
  ·have:=hle2.1 b (by rw[hgb b hb1];exact hb)
   exact⟨this.1,(g3 b hb1).trans (this.2.trans (hgb b hb1))⟩
 ·have one:∀ {b o:Nat} {s:SV},qae [(2,0,SV.row e2 es2 n2 ys)] b o=some s→b=2∧o=0∧s=.row e2 es2 n2 ys:=fun {b o s} hs=>by
   rw[qaf] at hs
   split at hs
   ·rename_i e;cases hs;exact⟨e.1.symm,e.2.symm,rfl⟩
   ·cases hs
  refine { gr:=HP.gr,live:=HP.live,inj:=HP.inj,new:=HP.new,sep:=fun b r hb=>?_,cells:=fun b o sv hs hr=>?_,rows0:=qeP (qui (by rfl)) fun b o e' es' n1 xs' hs=>?_,rinj0:=qeO (qui (by rfl)) fun b o e' es' n1 xs' c o2 e3 es3 n3 xs3 u' v' hs hs2 hlo hlo2 hne=>?_,maps:=fun b o xs' hs=>?_,fz:=?_ }
  ·by_cases hb1:b=1
   ·subst hb1
    have e9:β2.f 1=some r:=hb
    rw[f1] at e9;cases e9
   ·exact (g3 b hb1).trans (HP.sep b r hb)
  ·obtain⟨_,_,rfl⟩:=one hs;cases hr
  ·obtain⟨rfl,rfl,e1⟩:=one hs
   cases e1
   obtain⟨u',a1,a2⟩:=HP.rows 2 0 _ _ _ _ hs
   exact⟨u',(g3 2 (by decide)).trans a1,a2.rd,a2.one,a2.low,a2.own,fun hlo=>a2.apart hlo⟩
  ·obtain⟨rfl,_,_⟩:=one hs
   obtain⟨rfl,_,_⟩:=one hs2
   exact (hne rfl).elim
  ·obtain⟨_,_,e1⟩:=one hs;cases e1
  ·refine⟨HP.fz.mem,HP.fz.own,fun b o s r hs hb=>HP.fz.box b o s r hs hb,fun b o s u' j hs hr hlo hg=>?_,fun b o e' es' n1 ds hs=>?_,fun b o e' es' n1 xs' hs=>?_⟩
   ·obtain⟨rfl,_,_⟩:=one hs
    exact HP.fz.row 2 o s u' j hs hr hlo ((g3 2 (by decide)).symm.trans hg)
   ·obtain⟨_,_,e1⟩:=one hs;cases e1
   ·obtain⟨_,_,e1⟩:=one hs;cases e1
end Go.Proofs.YtleaeldgaflmkaaGreat
