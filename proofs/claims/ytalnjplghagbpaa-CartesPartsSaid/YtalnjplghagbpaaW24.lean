/-
  Joined: Fb, Fc, Fg, Fq. Conditions: none.
-/
import Derived.Test.YtalnjplghagbpaaW23
import Derived.Test.YtalnjplghagbpaaW19
import Derived.ProofKit
import Derived.OpenShut
import Derived.Lib.SmallJoins
import Derived.Deep.Slices
import Derived.Deep.Strs
import Derived.Deep.Fields
import Derived.Carry
namespace Go.Proofs.Ytalnjplghagbpaa
set_option maxRecDepth 100000
open Go.RowKit
theorem qhr {l:List Pt} {k:Nat} {p:Pt} (hk:l[k]?=some p) (hin:0≤(k:Int)∧(k:Int)<(l.length:Int)) (hlt:decide ((k:Int)<(l.length:Int))=true) (hc:Pure Try.prog 99 #[qab p.id p.a p.b] (iV (0))) (hs:iV (IntKind.i64.wrap ((k:Int)+1))=iV (((k+1:Nat):Int))) {e:Exit} {tm2:TmL} {hp2:HpL}
 (r:Rl 1 1 75 0 44 2 ([(1,.pp 1 0),(3,.pv (iV ((k+1:Nat):Int)))]) ([(1,0,.ls 0 l.length),(0,0,qag l)]) e tm2 hp2):Rl 1 1 75 0 44 2 ([(1,.pp 1 0),(3,.pv (iV (k:Int)))]) ([(1,0,.ls 0 l.length),(0,0,qag l)]) e tm2 hp2:=
 RunsL.next [] 300 [.t true,.r (ptV p),Rf hc,.k,Re hs]
  (Ro (Ai hlt (Ai hin (Ai (qaP hk) (Ai hc (Ai hs tI)))))) r
theorem qqi {l:List Pt} {k:Nat} {p:Pt} (hk:l[k]?=some p) (hin:0≤(k:Int)∧(k:Int)<(l.length:Int)) (hlt:decide ((k:Int)<(l.length:Int))=true) (hc:Pure Try.prog 99 #[qab p.id p.a p.b] (iV (8))):Rl 1 1 75 0 44 2 ([(1,.pp 1 0),(3,.pv (iV (k:Int)))]) ([(1,0,.ls 0 l.length),(0,0,qag l)]) (.ret) ([(2,.pv (iV 8))]) ([]):=
 RunsL.stop [] 300 [.t true,.r (ptV p),Rf hc,.k] (fun h=>by cases h)
  (Ro (Ai hlt (Ai hin (Ai (qaP hk) (Ai hc tI)))))
theorem qp4 {l:List Pt} {k:Nat} (hge:decide ((k:Int)<(l.length:Int))=false):Rl 1 1 75 0 44 2 ([(1,.pp 1 0),(3,.pv (iV (k:Int)))]) ([(1,0,.ls 0 l.length),(0,0,qag l)]) (.exit 0) ([(1,.pp 1 0)]) ([(1,0,.ls 0 l.length),(0,0,qag l)]):=
 RunsL.stop [] 300 [.t false] (fun h=>by cases h)
  (Ro (Ai hge tI))
theorem qhV {l:List Pt} {k:Nat} {p q:Pt} (hq:l[k]?=some q) (hk:l[k+1]?=some p) (hi0:0≤(k:Int)∧(k:Int)<(l.length:Int)) (hi1:0≤((k+1:Nat):Int)∧((k+1:Nat):Int)<(l.length:Int)) (hlt:decide (((k+1:Nat):Int)<(l.length:Int))=true) (hm:iV (IntKind.i64.wrap (((k+1:Nat):Int)-1))=iV (k:Int)) (hg:decide (q.id≥p.id)=false) (hs:iV (IntKind.i64.wrap (((k+1:Nat):Int)+1))=iV (((k+1+1:Nat):Int))) {e:Exit} {tm2:TmL} {hp2:HpL}
 (r:Rl 1 1 75 1 44 2 ([(1,.pp 1 0),(4,.pv (iV ((k+1+1:Nat):Int)))]) ([(1,0,.ls 0 l.length),(0,0,qag l)]) e tm2 hp2):Rl 1 1 75 1 44 2 ([(1,.pp 1 0),(4,.pv (iV ((k+1:Nat):Int)))]) ([(1,0,.ls 0 l.length),(0,0,qag l)]) e tm2 hp2:=
 RunsL.next [] 300 [.t true,.r (iV (k:Int)),.r (iV q.id),.r (iV p.id),.t false,.r (iV (((k+1+1:Nat):Int)))]
  (Ro (Ai hlt (Ai hm (Ai hi0 (Ai (qa1 hq) (Ai hi1 (Ai (qa1 hk) (Ai hg (Ai hs tI))))))))) r
theorem qqn {l:List Pt} {k:Nat} {p q:Pt} (hq:l[k]?=some q) (hk:l[k+1]?=some p) (hi0:0≤(k:Int)∧(k:Int)<(l.length:Int)) (hi1:0≤((k+1:Nat):Int)∧((k+1:Nat):Int)<(l.length:Int)) (hlt:decide (((k+1:Nat):Int)<(l.length:Int))=true) (hm:iV (IntKind.i64.wrap (((k+1:Nat):Int)-1))=iV (k:Int)) (hg:decide (q.id≥p.id)=true):Rl 1 1 75 1 44 2 ([(1,.pp 1 0),(4,.pv (iV ((k+1:Nat):Int)))]) ([(1,0,.ls 0 l.length),(0,0,qag l)]) (.ret) ([(2,.pv (iV 32))]) ([]):=
 RunsL.stop [] 300 [.t true,.r (iV (k:Int)),.r (iV q.id),.r (iV p.id),.t true] (fun h=>by cases h)
  (Ro (Ai hlt (Ai hm (Ai hi0 (Ai (qa1 hq) (Ai hi1 (Ai (qa1 hk) (Ai hg tI))))))))
theorem qjf {l:List Pt} {k:Nat} (hge:decide (((k:Nat):Int)<(l.length:Int))=false):Rl 1 1 75 1 44 2 ([(1,.pp 1 0),(4,.pv (iV ((k:Nat):Int)))]) ([(1,0,.ls 0 l.length),(0,0,qag l)]) (.exit 2) ([]) ([]):=
 RunsL.stop [] 300 [.t false] (fun h=>by cases h)
  (Ro (Ai hge tI))
theorem qpy {l:List Pt} (h64:decide ((l.length:Int)>64)=true) :
 Fn 75 1 [qaq 0 l] [(0,0,qag l)] (.pv (iV 4)) 0 []:=
 Fz [] [.t true]
  tI (Ai h64 tI)
theorem qtw {l:List Pt} (h64:decide ((l.length:Int)>64)=false) (r0:Rl 1 1 75 0 44 2 ([(1,.pp 1 0),(3,.pv (iV (((0:Nat):Int):Int)))]) ([(1,0,.ls 0 l.length),(0,0,qag l)]) (.ret) ([(2,.pv (iV 8))]) ([])) :
 Fn 75 1 [qaq 0 l] [(0,0,qag l)] (.pv (iV 8)) 0 []:=
 Fz [] [.t false,Lf r0]
  tI (Ai h64 (Lo r0 [] tI))
abbrev qv3 (l:List Pt):Prop:=Rl 1 1 75 0 44 2 ([(1,.pp 1 0),(3,.pv (iV (((0:Nat):Int):Int)))]) ([(1,0,.ls 0 l.length),(0,0,qag l)]) (.exit 0) ([(1,.pp 1 0)]) ([(1,0,.ls 0 l.length),(0,0,qag l)])
theorem qsW {l:List Pt} (h64:decide ((l.length:Int)>64)=false) (r0:qv3 l) (r1:Rl 1 1 75 1 44 2 ([(1,.pp 1 0),(4,.pv (iV (((0+1:Nat):Int):Int)))]) ([(1,0,.ls 0 l.length),(0,0,qag l)]) (.ret) ([(2,.pv (iV 32))]) ([])) :
 Fn 75 1 [qaq 0 l] [(0,0,qag l)] (.pv (iV 32)) 0 []:=
 Fz [] [.t false,Lf r0,Lf r1]
  tI (Ai h64 (Lo r0 [] (Lo r1 [] tI)))
theorem qvx {l:List Pt} (h64:decide ((l.length:Int)>64)=false) (r0:qv3 l) (r1:Rl 1 1 75 1 44 2 ([(1,.pp 1 0),(4,.pv (iV (((0+1:Nat):Int):Int)))]) ([(1,0,.ls 0 l.length),(0,0,qag l)]) (.exit 2) ([]) ([])) :
 Fn 75 1 [qaq 0 l] [(0,0,qag l)] (.pv (iV 0)) 0 []:=
 Fz [] [.t false,Lf r0,Lf r1]
  tI (Ai h64 (Lo r0 [] (Lo r1 [] tI)))
end Go.Proofs.Ytalnjplghagbpaa

namespace Go.Proofs.Ytalnjplghagbpaa
set_option maxRecDepth 100000
open Go.RowKit
abbrev quT (k:Nat) (l:List Pt):TmL:=[(1,.pp 1 0),(12,.ls 0 l.length),(13,.pv (iV (l.length:Int))),(14,.pv (iV (k:Int)))]
theorem qg8 {l:List Pt} {k:Nat} {p:Pt} (hk:l[k]?=some p) (hin:0≤(k:Int)∧(k:Int)<(l.length:Int)) (hlt:decide ((k:Int)<(l.length:Int))=true) (hc:Pure Try.prog 84 #[qab p.id p.a p.b] (iV (0))) (hs:iV (IntKind.i64.wrap ((k:Int)+1))=iV (((k+1:Nat):Int))) {e:Exit} {tm2:TmL} {hp2:HpL}
 (r:Rl 1 1 47 0 45 2 ([(1,.pp 1 0),(12,.ls 0 l.length),(13,.pv (iV (l.length:Int))),(14,.pv (iV ((k+1:Nat):Int)))]) ([(1,0,.ls 0 l.length),(0,0,qag l)]) e tm2 hp2):Rl 1 1 47 0 45 2 (quT k l) ([(1,0,.ls 0 l.length),(0,0,qag l)]) e tm2 hp2:=
 RunsL.next [] 300 [.t true,.r (ptV p),Rf hc,.k,Re hs]
  (Ro (Ai hlt (Ai hin (Ai (qaP hk) (Ai hc (Ai hs tI)))))) r
theorem qpr {l:List Pt} {k:Nat} {p:Pt} (hk:l[k]?=some p) (hin:0≤(k:Int)∧(k:Int)<(l.length:Int)) (hlt:decide ((k:Int)<(l.length:Int))=true) (hc:Pure Try.prog 84 #[qab p.id p.a p.b] (iV (8))):Rl 1 1 47 0 45 2 (quT k l) ([(1,0,.ls 0 l.length),(0,0,qag l)]) (.ret) ([(2,.pv (iV 8))]) ([]):=
 RunsL.stop [] 300 [.t true,.r (ptV p),Rf hc,.k] (fun h=>by cases h)
  (Ro (Ai hlt (Ai hin (Ai (qaP hk) (Ai hc tI)))))
theorem qo7 {l:List Pt} {k:Nat} (hge:decide ((k:Int)<(l.length:Int))=false):Rl 1 1 47 0 45 2 (quT k l) ([(1,0,.ls 0 l.length),(0,0,qag l)]) (.exit 0) ([(1,.pp 1 0)]) ([(1,0,.ls 0 l.length),(0,0,qag l)]):=
 RunsL.stop [] 300 [.t false] (fun h=>by cases h)
  (Ro (Ai hge tI))
theorem qhR {l:List Pt} {k:Nat} {p q:Pt} (hq:l[k]?=some q) (hk:l[k+1]?=some p) (hi0:0≤(k:Int)∧(k:Int)<(l.length:Int)) (hi1:0≤((k+1:Nat):Int)∧((k+1:Nat):Int)<(l.length:Int)) (hlt:decide (((k+1:Nat):Int)<(l.length:Int))=true) (hm:iV (IntKind.i64.wrap (((k+1:Nat):Int)-1))=iV (k:Int)) (hg:decide (q.id≥p.id)=false) (hs:iV (IntKind.i64.wrap (((k+1:Nat):Int)+1))=iV (((k+1+1:Nat):Int))) {e:Exit} {tm2:TmL} {hp2:HpL}
 (r:Rl 1 1 47 1 45 2 ([(1,.pp 1 0),(6,.pv (iV ((k+1+1:Nat):Int)))]) ([(1,0,.ls 0 l.length),(0,0,qag l)]) e tm2 hp2):Rl 1 1 47 1 45 2 ([(1,.pp 1 0),(6,.pv (iV ((k+1:Nat):Int)))]) ([(1,0,.ls 0 l.length),(0,0,qag l)]) e tm2 hp2:=
 RunsL.next [] 300 [.t true,.r (iV (k:Int)),.r (iV q.id),.r (iV p.id),.t false,.r (iV (((k+1+1:Nat):Int)))]
  (Ro (Ai hlt (Ai hm (Ai hi0 (Ai (qa1 hq) (Ai hi1 (Ai (qa1 hk) (Ai hg (Ai hs tI))))))))) r
theorem qqx {l:List Pt} {k:Nat} {p q:Pt} (hq:l[k]?=some q) (hk:l[k+1]?=some p) (hi0:0≤(k:Int)∧(k:Int)<(l.length:Int)) (hi1:0≤((k+1:Nat):Int)∧((k+1:Nat):Int)<(l.length:Int)) (hlt:decide (((k+1:Nat):Int)<(l.length:Int))=true) (hm:iV (IntKind.i64.wrap (((k+1:Nat):Int)-1))=iV (k:Int)) (hg:decide (q.id≥p.id)=true):Rl 1 1 47 1 45 2 ([(1,.pp 1 0),(6,.pv (iV ((k+1:Nat):Int)))]) ([(1,0,.ls 0 l.length),(0,0,qag l)]) (.ret) ([(2,.pv (iV 32))]) ([]):=
 RunsL.stop [] 300 [.t true,.r (iV (k:Int)),.r (iV q.id),.r (iV p.id),.t true] (fun h=>by cases h)
  (Ro (Ai hlt (Ai hm (Ai hi0 (Ai (qa1 hq) (Ai hi1 (Ai (qa1 hk) (Ai hg tI))))))))
theorem qjF {l:List Pt} {k:Nat} (hge:decide ((k:Int)<(l.length:Int))=false):Rl 1 1 47 1 45 2 ([(1,.pp 1 0),(6,.pv (iV ((k:Nat):Int)))]) ([(1,0,.ls 0 l.length),(0,0,qag l)]) (.exit 2) ([]) ([]):=
 RunsL.stop [] 300 [.t false] (fun h=>by cases h)
  (Ro (Ai hge tI))
theorem qqL {l:List Pt} (h64:decide ((l.length:Int)>64)=true) :
 Fn 47 1 [qaq 0 l] [(0,0,qag l)] (.pv (iV (4))) 0 []:=
 Fz [] [.t true]
  tI (Ai h64 tI)
theorem qsI {l:List Pt} (h64:decide ((l.length:Int)>64)=false) (r0:Rl 1 1 47 0 45 2 ([(1,.pp 1 0),(12,.ls 0 l.length),(13,.pv (iV (l.length:Int))),(14,.pv (iV ((0:Nat):Int)))]) ([(1,0,.ls 0 l.length),(0,0,qag l)]) (.ret) ([(2,.pv (iV 8))]) ([])) :
 Fn 47 1 [qaq 0 l] [(0,0,qag l)] (.pv (iV (8))) 0 []:=
 Fz [] [.t false,Lf r0]
  tI (Ai h64 (Lo r0 [] tI))
abbrev qv7 (l:List Pt):Prop:=Rl 1 1 47 0 45 2 ([(1,.pp 1 0),(12,.ls 0 l.length),(13,.pv (iV (l.length:Int))),(14,.pv (iV ((0:Nat):Int)))]) ([(1,0,.ls 0 l.length),(0,0,qag l)]) (.exit 0) ([(1,.pp 1 0)]) ([(1,0,.ls 0 l.length),(0,0,qag l)])
theorem qsd {l:List Pt} (h64:decide ((l.length:Int)>64)=false) (r0:qv7 l) (r1:Rl 1 1 47 1 45 2 ([(1,.pp 1 0),(6,.pv (iV ((0+1:Nat):Int)))]) ([(1,0,.ls 0 l.length),(0,0,qag l)]) (.ret) ([(2,.pv (iV 32))]) ([])) :
 Fn 47 1 [qaq 0 l] [(0,0,qag l)] (.pv (iV (32))) 0 []:=
 Fz [] [.t false,Lf r0,Lf r1]
  tI (Ai h64 (Lo r0 [] (Lo r1 [] tI)))
theorem qvE {l:List Pt} (h64:decide ((l.length:Int)>64)=false) (r0:qv7 l) (r1:Rl 1 1 47 1 45 2 ([(1,.pp 1 0),(6,.pv (iV ((0+1:Nat):Int)))]) ([(1,0,.ls 0 l.length),(0,0,qag l)]) (.exit 2) ([]) ([])) :
 Fn 47 1 [qaq 0 l] [(0,0,qag l)] (.pv (iV (0))) 0 []:=
 Fz [] [.t false,Lf r0,Lf r1]
  tI (Ai h64 (Lo r0 [] (Lo r1 [] tI)))
end Go.Proofs.Ytalnjplghagbpaa

namespace Go.Proofs.Ytalnjplghagbpaa
set_option maxRecDepth 100000
open Go.RowKit
theorem ql0 {a pa pb id:Int} (n1:(!(a==a))=false) (n2:(!(id==id))=false) (h1:decide (a<id)=true):Pure Try.prog 119 #[qab a pa pb,iV id] (iV (-1)):=
 qae (args:=[qab a pa pb,iV id]) 200 [.k,.k,.t false,.k,.t false,.t true] (Ai rfl (Ai n1 (Ai n2 (Ai h1 tI)))) (by kernel_rfl)
theorem qmB {a pa pb id:Int} (n1:(!(a==a))=false) (n2:(!(id==id))=false) (h1:decide (a<id)=false) (h2:decide (a>id)=true):Pure Try.prog 119 #[qab a pa pb,iV id] (iV (1)):=
 qae (args:=[qab a pa pb,iV id]) 200 [.k,.k,.t false,.k,.t false,.t false,.t true] (Ai rfl (Ai n1 (Ai n2 (Ai h1 (Ai h2 tI))))) (by kernel_rfl)
theorem qmJ {a pa pb id:Int} (n1:(!(a==a))=false) (n2:(!(id==id))=false) (h1:decide (a<id)=false) (h2:decide (a>id)=false):Pure Try.prog 119 #[qab a pa pb,iV id] (iV (0)):=
 qae (args:=[qab a pa pb,iV id]) 200 [.k,.k,.t false,.k,.t false,.t false,.t false] (Ai rfl (Ai n1 (Ai n2 (Ai h1 (Ai h2 tI))))) (by kernel_rfl)
abbrev qur (i:Nat) (id:Int) (j:Nat) (l:List Pt):TmL:=[(0,.ls 0 l.length),(1,.pv (iV id)),(2,.pv (.func (.func 119) #[] #[])),(8,.pv (iV (l.length:Int))),(9,.pv (iV (i:Int))),(10,.pv (iV (j:Int)))]
abbrev qub (c:Int) (id:Int) (p:Pt):Prop:=Pure Try.prog 119 #[qab p.id p.a p.b,iV id] (iV (c))
theorem qvb {l:List Pt} {i j h:Nat} {p:Pt} {c:Int} {id:Int} (hk:l[h]?=some p) (hin:0≤(h:Int)∧(h:Int)<(l.length:Int)) (hlt:decide ((i:Int)<(j:Int))=true) (ha:iV (IntKind.i64.wrap ((i:Int)+(j:Int)))=iV ((i:Int)+(j:Int))) (hu:Value.int .u64 (IntKind.u64.wrap ((i:Int)+(j:Int)))=.int .u64 ((i:Int)+(j:Int))) (h1:¬ (1:Int)<0) (hs:Value.int .u64 (((i:Int)+(j:Int)).fdiv (2 ^ (min (1:Int).toNat IntKind.u64.bits)))=.int .u64 (h:Int)) (hb:iV (IntKind.i64.wrap (h:Int))=iV (h:Int)) (hc:qub c id p) (hz:decide (c<0)=true) (hh:iV (IntKind.i64.wrap ((h:Int)+1))=iV (((h+1:Nat):Int))) {e:Exit} {tm2:TmL} {hp2:HpL}
 (r:Rl 1 1 118 0 49 1 ([(0,.ls 0 l.length),(1,.pv (iV id)),(2,.pv (.func (.func 119) #[] #[])),(8,.pv (iV (l.length:Int))),(9,.pv (iV ((h+1:Nat):Int))),(10,.pv (iV (j:Int)))]) ([(0,0,qag l)]) e tm2 hp2):Rl 1 1 118 0 49 1 (qur i id j l) ([(0,0,qag l)]) e tm2 hp2:=
 RunsL.next [] 300 [.t true,Re ha,Re hu,.r (.int .u64 (h:Int)),Re hb,.r (ptV p),Rf hc,.t true,Re hh]
  (Ro (Ai hlt (Ai ha (Ai hu (Ai h1 (Ai hs (Ai hb (Ai hin (Ai (qaP hk) (Ai hc (Ai hz (Ai hh tI)))))))))))) r
theorem qvU {l:List Pt} {i j h:Nat} {p:Pt} {c:Int} {id:Int} (hk:l[h]?=some p) (hin:0≤(h:Int)∧(h:Int)<(l.length:Int)) (hlt:decide ((i:Int)<(j:Int))=true) (ha:iV (IntKind.i64.wrap ((i:Int)+(j:Int)))=iV ((i:Int)+(j:Int))) (hu:Value.int .u64 (IntKind.u64.wrap ((i:Int)+(j:Int)))=.int .u64 ((i:Int)+(j:Int))) (h1:¬ (1:Int)<0) (hs:Value.int .u64 (((i:Int)+(j:Int)).fdiv (2 ^ (min (1:Int).toNat IntKind.u64.bits)))=.int .u64 (h:Int)) (hb:iV (IntKind.i64.wrap (h:Int))=iV (h:Int)) (hc:qub c id p) (hz:decide (c<0)=false) {e:Exit} {tm2:TmL} {hp2:HpL}
 (r:Rl 1 1 118 0 49 1 ([(0,.ls 0 l.length),(1,.pv (iV id)),(2,.pv (.func (.func 119) #[] #[])),(8,.pv (iV (l.length:Int))),(9,.pv (iV (i:Int))),(10,.pv (iV (h:Int)))]) ([(0,0,qag l)]) e tm2 hp2):Rl 1 1 118 0 49 1 (qur i id j l) ([(0,0,qag l)]) e tm2 hp2:=
 RunsL.next [] 300 [.t true,Re ha,Re hu,.r (.int .u64 (h:Int)),Re hb,.r (ptV p),Rf hc,.t false]
  (Ro (Ai hlt (Ai ha (Ai hu (Ai h1 (Ai hs (Ai hb (Ai hin (Ai (qaP hk) (Ai hc (Ai hz tI))))))))))) r
theorem qn3 {l:List Pt} {i j:Nat} {id:Int} (hge:decide ((i:Int)<(j:Int))=false):Rl 1 1 118 0 49 1 (qur i id j l) ([(0,0,qag l)]) (.exit 0) (qur i id j l) ([(0,0,qag l)]):=
 RunsL.stop [] 300 [.t false] (fun h=>by cases h)
  (Ro (Ai hge tI))
abbrev quu (id:Int) (k:Nat) (l:List Pt):Prop:=Rl 1 1 118 0 49 1 ([(0,.ls 0 l.length),(1,.pv (iV id)),(2,.pv (.func (.func 119) #[] #[])),(8,.pv (iV (l.length:Int))),(9,.pv (iV ((0:Nat):Int))),(10,.pv (iV (l.length:Int)))]) ([(0,0,qag l)]) (.exit 0) ([(0,.ls 0 l.length),(1,.pv (iV id)),(2,.pv (.func (.func 119) #[] #[])),(8,.pv (iV (l.length:Int))),(9,.pv (iV (k:Int))),(10,.pv (iV (k:Int)))]) ([(0,0,qag l)])
theorem qp3 {l:List Pt} {k:Nat} {id:Int} (r0:quu id k l) (hge:decide ((k:Int)<(l.length:Int))=false) :
 Fn 118 1 [.ls 0 l.length,.pv (iV (id)),.pv (.func (.func 119) #[] #[])] [(0,0,qag l)] (.pv (.tuple #[iV (k:Int),.bool false])) 0 []:=
 Fz [] [Lf r0,.t false]
  tI (Lo r0 [] (Ai hge tI))
theorem qoJ {l:List Pt} {k:Nat} {p:Pt} {c:Int} {id:Int} (r0:quu id k l) (hk:l[k]?=some p) (hin:0≤(k:Int)∧(k:Int)<(l.length:Int)) (hlt:decide ((k:Int)<(l.length:Int))=true) (hc:qub c id p) (hz:(c==0)=true) :
 Fn 118 1 [.ls 0 l.length,.pv (iV (id)),.pv (.func (.func 119) #[] #[])] [(0,0,qag l)] (.pv (.tuple #[iV (k:Int),.bool true])) 0 []:=
 Fz [] [Lf r0,.t true,.r (ptV p),Rf hc,.t true]
  tI (Lo r0 [] (Ai hlt (Ai hin (Ai (qaP hk) (Ai hc (Ai hz tI))))))
theorem qss {l:List Pt} {k:Nat} {p:Pt} {c:Int} {id:Int} (r0:quu id k l) (hk:l[k]?=some p) (hin:0≤(k:Int)∧(k:Int)<(l.length:Int)) (hlt:decide ((k:Int)<(l.length:Int))=true) (hc:qub c id p) (hz:(c==0)=false) :
 Fn 118 1 [.ls 0 l.length,.pv (iV (id)),.pv (.func (.func 119) #[] #[])] [(0,0,qag l)] (.pv (.tuple #[iV (k:Int),.bool false])) 0 []:=
 Fz [] [Lf r0,.t true,.r (ptV p),Rf hc,.t false]
  tI (Lo r0 [] (Ai hlt (Ai hin (Ai (qaP hk) (Ai hc (Ai hz tI))))))
theorem qdH {l:List Pt} {k:Nat} {b:Bool} {id:Int} (hb:Fn 118 1 [.ls 0 l.length,.pv (iV (id)),.pv (.func (.func 119) #[] #[])] [(0,0,qag l)] (.pv (.tuple #[iV (k:Int),.bool b])) 0 []) :
 Fn 109 1 [qaq 0 l,.pv (iV (id))] [(0,0,qag l)] (.pv (.tuple #[iV (k:Int),.bool b])) 0 []:=
 Fz [] [Cf hb [0]]
  tI (Co hb [0] 2 tI)
theorem qmX {l:List Pt} {k:Nat} {id:Int} (hc:Fn 47 1 [qaq 0 l] [(0,0,qag l)] (.pv (iV (0))) 0 []) (hf:Fn 109 1 [qaq 0 l,.pv (iV (id))] [(0,0,qag l)] (.pv (.tuple #[iV (k:Int),.bool false])) 0 []) :
 Fn 93 1 [qaq 0 l,.pv (iV (id))] [(0,0,qag l)] (.pv (.tuple #[qab 0 0 0,iV (6)])) 0 []:=
 Fz [] [Cf hc [0],.k,Cf hf [0],.k]
  tI (Co hc [0] 3 (Co hf [0] 3 tI))
theorem qlx {l:List Pt} {k:Nat} {p:Pt} {id:Int} (hk:l[k]?=some p) (hin:0≤(k:Int)∧(k:Int)<(l.length:Int)) (hc:Fn 47 1 [qaq 0 l] [(0,0,qag l)] (.pv (iV (0))) 0 []) (hf:Fn 109 1 [qaq 0 l,.pv (iV (id))] [(0,0,qag l)] (.pv (.tuple #[iV (k:Int),.bool true])) 0 []) :
 Fn 93 1 [qaq 0 l,.pv (iV (id))] [(0,0,qag l)] (.pv (.tuple #[ptV p,iV (0)])) 0 []:=
 Fz [] [Cf hc [0],.k,Cf hf [0],.k,.r (ptV p)]
  tI (Co hc [0] 3 (Co hf [0] 3 (Ai hin (Ai (qaP hk) tI))))
end Go.Proofs.Ytalnjplghagbpaa

namespace Go.Proofs.Ytalnjplghagbpaa
set_option maxRecDepth 100000
open Go.ChangeShapes Go.WideShapes Go.ChangeAt Go.RowKit Go.Joins Go.Deep
theorem qkv:Try.prog.cellsOf 37=1:=by kernel_rfl
theorem qtN:Try.prog.cellsOf 35=1:=by kernel_rfl
theorem qrz:Try.prog.cellsOf 80=3:=by kernel_rfl
theorem qpp:Try.prog.cellsOf 3=1:=by kernel_rfl
theorem qo6:Try.prog.cellsOf 2=1:=by kernel_rfl
theorem qnt:Try.prog.readableRec 37=true:=by kernel_rfl
theorem qpe:37<Try.prog.types.size:=of_decide_eq_true (by kernel_rfl)
section
variable {H:Type} {enc:TypeId×Value→H} {W:World} {base:Nat} {spare:Nat→Bool} {held:Bool}
theorem qsT (f:Nat→Pt):∀ (n j:Nat) (v:Value),(qam ((List.range n).map f))[j]?=some v→j/3<n∧[iV (f (j/3)).id,iV (f (j/3)).a,iV (f (j/3)).b][j%3]?=some v:=by
 intro n j v h
 have hj:j<n*3:=by
  have:=(List.getElem?_eq_some_iff.1 h).1
  rw[qaV] at this
  simpa using this
 have hk:j/3<n:=by omega
 have hg:=qdC (l:=(List.range n).map f) (k:=j/3) (p:=f (j/3)) (by simp[hk])
 refine⟨hk,?_⟩
 have h3:j%3=0∨j%3=1∨j%3=2:=by omega
 have e:j=j/3*3+j%3:=by omega
 rw[e] at h
 rcases h3 with e3 | e3 | e3<;>rw[e3] at h ⊢
 ·rw[Nat.add_zero,hg.1] at h;exact h
 ·rw[hg.2.1] at h;exact h
 ·rw[hg.2.2] at h;exact h
theorem qnR {fuel:Nat} {cs:List Value} {x:DataW H×List MemPlace} (h:DataW.trod enc Try.prog W base spare held fuel 35 cs=some x) :
 ∃ (u:Value) (l:List Pt),cs=[u]∧Rd W 3 u l.length (qam l)∧∀ p∈l,((Lit.int .i64 p.id).wf=true∧(Lit.int .i64 p.a).wf=true∧(Lit.int .i64 p.b).wf=true):=by
 rcases open_slice Try.underlying35 h with ⟨rfl,_⟩ | ⟨a,len,cap,m,n,D,Pl,rfl,_,hlc,_,hm,_,hi⟩
 ·exact⟨_,[],rfl,⟨rfl,none,0,rfl,Nat.le_refl _,fun j v hv=>by simp[qam] at hv⟩,fun p hp=>by simp at hp⟩
 have hlm:len≤m:=by rw[hm];split<;>omega
 have each:∀ i,i<len→∃ p:Pt,W.cell? (a.add (i*3))=some (iV p.id)∧W.cell? (a.add (i*3+1))=some (iV p.a)∧W.cell? (a.add (i*3+2))=some (iV p.b)∧
  ((Lit.int .i64 p.id).wf=true∧(Lit.int .i64 p.a).wf=true∧(Lit.int .i64 p.b).wf=true):=by
  intro i hil
  obtain⟨cs',hc,ht⟩:=hi i (by omega)
  rw[qrz] at hc
  obtain⟨y0,y1,y2,n',_,hlen,t0,t1,t2⟩:=trod_struct3 Try.underlying80 ht
  obtain⟨_,hcl,hat⟩:=World.cells?_some hc
  match cs',hcl with
  | [c0,c1,c2],_=>
   obtain⟨pi,e0,_,w0⟩:=DataW.trod_int Try.underlying3 t0
   obtain⟨pa,e1,_,w1⟩:=DataW.trod_int Try.underlying2 t1
   obtain⟨pb,e2,_,w2⟩:=DataW.trod_int Try.underlying2 t2
   simp[qpp,qo6] at e0 e1 e2
   refine⟨⟨pi,pa,pb⟩,?_,?_,?_,w0,w1,w2⟩
   ·have:=hat 0 (by omega);rw[add_add] at this;simpa [e0] using this
   ·have:=hat 1 (by omega);rw[add_add] at this;simpa [e1] using this
   ·have:=hat 2 (by omega);rw[add_add] at this;simpa [e2] using this
 haveI:Inhabited Pt:=⟨⟨0,0,0⟩⟩
 obtain⟨f,hf⟩:=choose_lt (α:=Pt) each
 refine⟨_,(List.range len).map f,rfl,⟨qaV _,some a,cap,by simp,by simpa using hlc,fun j v hv=>?_⟩,fun p hp=>?_⟩
 ·obtain⟨hk,he⟩:=qsT f len j v hv
  obtain⟨c0,c1,c2,_⟩:=hf _ hk
  have hcell:W.cell? (a.add j)=some v:=by
   have h3:j%3=0∨j%3=1∨j%3=2:=by omega
   have e:j=j/3*3+j%3:=by omega
   rcases h3 with e3 | e3 | e3<;>rw[e3] at he e<;>rw[e]<;>simp at he<;>subst he
   ·exact c0
   ·exact c1
   ·exact c2
  obtain⟨b,off,spot⟩:=a
  have hs:spot=none:=by simpa [Addr.add] using World.cell?_spot (hf 0 (by omega)).1
  subst hs
  exact⟨b,off,rfl,by rw[← Go.WideShapes.add_plain];exact hcell⟩
 ·obtain⟨i,hi',rfl⟩:=List.mem_map.1 hp
  exact (hf i (List.mem_range.1 hi')).2.2.2
theorem qlE {r:Reach} {b0:Nat} {v:Value} {d:DataW H} {p:List MemPlace} (hv:Value.okWide Try.prog W r b0 37 v) (h:DataW.Trod enc Try.prog W base spare held 37 v d p) :
 ∃ (u:Value) (l:List Pt),v=.agg #[u]∧Rd W 3 u l.length (qam l)∧∀ p∈l,((Lit.int .i64 p.id).wf=true∧(Lit.int .i64 p.a).wf=true∧(Lit.int .i64 p.b).wf=true):=by
 obtain⟨cs,rfl,hsz⟩:=okWide_struct Try.underlying37 hv
 obtain⟨fuel,hf⟩:=h
 obtain⟨y0,n,_,hlen,h0⟩:=trod_struct1 Try.underlying37 hf
 obtain⟨u,l,hc,hr,hb⟩:=qnR h0
 refine⟨u,l,?_,hr,hb⟩
 rw[qtN] at hc
 have h1:cs.size=1:=hsz.trans qkv
 obtain⟨c0,rfl⟩:∃ c0,cs=#[c0]:=by
  obtain⟨L⟩:=cs
  match L,h1 with
  | [c0],_=>exact⟨c0,rfl⟩
 simp[Value.cells] at hc
 rw[hc]
end
def inB (u:Value):Bl:=⟨fun _=>none,fun b=>if b=0 then some u else none⟩
theorem qd3:∀ (l:List Pt) (v:Value),v∈qam l→v.oneCell'=true
 | [],_,h=>by simp[qam] at h
 | p::r,v,h=>by
  simp only[qam,List.mem_cons] at h
  rcases h with rfl | rfl | rfl | h
  ·rfl
  ·rfl
  ·rfl
  ·exact qd3 r v h
theorem qr5 {W:World} {u:Value} {l:List Pt} (h:Rd W 3 u l.length (qam l)):HRel W 1 (inB u) [(0,0,qag l)] W where
 gr:=Gr.refl W
 live:=fun b r h=>by cases h
 inj:=fun b c r h=>by cases h
 new:=fun b r _ h=>by cases h
 sep:=fun b r h=>by cases h
 cells:=fun b o sv hl hs=>by
  simp only[qad] at hl
  cases hc:(Nat.beq 0 b&&Nat.beq 0 o)<;>rw[hc] at hl
  ·cases hl
  ·cases hl;cases hs
 rows:=fun b o e es n xs hl=>by
  simp only[qad] at hl
  cases hc:(Nat.beq 0 b&&Nat.beq 0 o)<;>rw[hc] at hl
  ·cases hl
  ·cases hl
   rw[Bool.and_eq_true] at hc
   have hb:0=b:=Nat.eq_of_beq_eq_true hc.1
   subst hb
   exact⟨u,rfl,h,qd3 l,fun _ hx=>h.lt hx,fun h=>by omega,fun h=>by omega⟩
 rinj:=fun b o e es n xs c o' e' es' n' xs' u v hl hl' h1 h2=>by
  simp only[qad] at hl
  cases hc:(Nat.beq 0 b&&Nat.beq 0 o)<;>rw[hc] at hl
  ·cases hl
  ·rw[Bool.and_eq_true] at hc
   have hb:0=b:=Nat.eq_of_beq_eq_true hc.1
   omega
 maps:=fun b o xs hl=>(qrn (by rfl) hl).elim
theorem qtC (u:Value):(inB u).dom 1:=fun b hb=>⟨rfl,if_neg (by omega)⟩
theorem qso {W:World} {u:Value} {l:List Pt} (h:Rd W 3 u l.length (qam l)):SV.is (inB u) (qaq 0 l) (.agg #[u]):=by
 obtain⟨_,a,c,hu,_⟩:=h
 exact⟨[u],⟨⟨rfl,a,c,hu⟩,tI⟩,rfl⟩
theorem qvy {W:World} {u:Value} {l:List Pt} {f:FuncId} {vs:List Value} (h:Fn f 1 (qaq 0 l::vs.map .pv) [(0,0,qag l)] (.pv (.bool true)) 0 []) (hr:Rd W 3 u l.length (qam l)) :
 Calls Try.prog f (.agg #[u]::vs).toArray W fun e W'=>e=.returned (.bool true)∧Gr W W':=by
 have hvs:∀ vs:List Value,SV.isl (inB u) (vs.map .pv) vs:=by
  intro vs
  induction vs with
  | nil=>exact tI
  | cons v r ih=>exact⟨rfl,ih⟩
 refine (h W (inB u) (.agg #[u]::vs) (qr5 hr) (qtC u) ⟨qso hr,hvs vs⟩).mono fun e W' ⟨v,β',he,_,hx,hh,_⟩=>?_
 cases hx
 exact⟨he,hh.gr⟩
end Go.Proofs.Ytalnjplghagbpaa
