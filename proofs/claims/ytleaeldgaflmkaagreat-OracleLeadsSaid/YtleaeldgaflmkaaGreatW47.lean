/-
  Joined: Vr, Vv, VA, Vw, Vx, VC, VE, VF, VG. Conditions: none.
-/
import Derived.Test.YtleaeldgaflmkaaGreatW46
import Derived.Test.YtleaeldgaflmkaaGreatW25
import Derived.Test.YtleaeldgaflmkaaGreatW37
import Derived.Test.YtleaeldgaflmkaaGreatW44
import Derived.Test.YtleaeldgaflmkaaGreatW36
import Derived.Test.YtleaeldgaflmkaaGreatZj
import Derived.Test.YtleaeldgaflmkaaGreatW34
import Derived.Deep.Strs
import Derived.Lib.SmallJoins
import Derived.Test.YtleaeldgaflmkaaGreatW45
namespace Go.Proofs.YtleaeldgaflmkaaGreat
set_option maxRecDepth 100000
open Go.RowKit
abbrev qsM (d:Int) (n:Int) (qs:List AskQ) (s:List Pt) (s0:List Pt):HpL:=[(2,0,.pv (iV n)),(2,1,.pv (iV d)),(2,2,.ls 4 s.length),(3,0,.pv (iV 0)),(3,1,.pv (iV 0)),(3,2,.pv (.slice none 0 0)),(0,0,qad s0),(1,0,qg2 qs),(4,0,qad s),(5,0,.row 38 6 0 [])]
abbrev qrO (qs:List AskQ):TmL:=[(2,.pp 2 0),(4,.pp 3 0),(6,.ls 5 0),(17,.ls 1 qs.length),(18,.pv (iV (qs.length:Int))),(19,.pv (iV (0:Int)))]
abbrev qxy (qs:List AskQ):TmL:=[(2,.pp 2 0),(4,.pp 3 0),(6,.ls 5 (0+1:Nat)),(17,.ls 1 qs.length),(18,.pv (iV (qs.length:Int))),(19,.pv (iV ((0+1:Nat):Int)))]
theorem qu3 {n d n' d':Int} {s s' s0:List Pt} {rp:Rep} {qs:List AskQ} {aq:AskQ} (hlt:decide (((0:Nat):Int)<(qs.length:Int))=true) (hin:0≤((0:Nat):Int)∧((0:Nat):Int)<(qs.length:Int)) (hk:qs[0]?=some aq) (hd:Fn 69 1 [moS 0 s n d,.pv (qbW aq)] [(0,0,qad s)] (.tu [mo1 1 s' n' d',.ag (qcX rp)]) 1 [(1,0,qad s')]) (he:(rp.e==0)=true) (hm:0+1≤1000000) (hs:iV (IntKind.i64.wrap (((0:Nat):Int)+1))=iV (((0+1:Nat):Int))) {e:Exit} {tm2:TmL} {hp2:HpL}
 (r:Rl 2 2 42 0 40 6 (qxy qs) ([(2,0,.pv (iV n')),(2,1,.pv (iV d')),(2,2,.ls 4 s'.length),(3,0,.pv (iV 0)),(3,1,.pv (iV 0)),(3,2,.pv (.slice none 0 0)),(0,0,qad s0),(1,0,qg2 qs),(4,0,qad s'),(5,0,.drow 38 6 (0+1) ([]++qfz rp))]) e tm2 hp2):Rl 2 2 42 0 40 6 (qrO qs) (qsM d n qs s s0) e tm2 hp2:=
 RunsL.next [(4,7),(5,11)] 300 [.t true,.r (qbW aq),Cf hd [4],.t true,.r (iV (((0+1:Nat):Int)))]
  (Ro (Ai hlt (Ai hin (Ai (qes hk) (Co hd [4] 7 (Ai he (Ai hm (Ai hs tI)))))))) r
abbrev qrZ (d:Int) (ds:List Dn) (k:Nat) (n:Int) (qs:List AskQ) (s:List Pt) (s0:List Pt):HpL:=[(2,0,.pv (iV n)),(2,1,.pv (iV d)),(2,2,.ls 4 s.length),(3,0,.pv (iV 0)),(3,1,.pv (iV 0)),(3,2,.pv (.slice none 0 0)),(0,0,qad s0),(1,0,qg2 qs),(4,0,qad s),(5,0,.drow 38 6 k ds)]
abbrev qvk (k:Nat) (qs:List AskQ):TmL:=[(2,.pp 2 0),(4,.pp 3 0),(6,.ls 5 k),(17,.ls 1 qs.length),(18,.pv (iV (qs.length:Int))),(19,.pv (iV (k:Int)))]
abbrev qxv (k:Nat) (qs:List AskQ):TmL:=[(2,.pp 2 0),(4,.pp 3 0),(6,.ls 5 (k+1:Nat)),(17,.ls 1 qs.length),(18,.pv (iV (qs.length:Int))),(19,.pv (iV ((k+1:Nat):Int)))]
theorem qzo {n d n' d':Int} {s s' s0:List Pt} {rp:Rep} {qs:List AskQ} {aq:AskQ} {k:Nat} {ds:List Dn} (hlt:decide ((k:Int)<(qs.length:Int))=true) (hin:0≤(k:Int)∧(k:Int)<(qs.length:Int)) (hk:qs[k]?=some aq) (hd:Fn 69 1 [moS 0 s n d,.pv (qbW aq)] [(0,0,qad s)] (.tu [mo1 1 s' n' d',.ag (qcX rp)]) 1 [(1,0,qad s')]) (he:(rp.e==0)=true) (hm:k+1≤1000000) (hs:iV (IntKind.i64.wrap ((k:Int)+1))=iV (((k+1:Nat):Int))) {e:Exit} {tm2:TmL} {hp2:HpL}
 (r:Rl 2 2 42 0 40 6 (qxv k qs) ([(2,0,.pv (iV n')),(2,1,.pv (iV d')),(2,2,.ls 4 s'.length),(3,0,.pv (iV 0)),(3,1,.pv (iV 0)),(3,2,.pv (.slice none 0 0)),(0,0,qad s0),(1,0,qg2 qs),(4,0,qad s'),(5,0,.drow 38 6 (k+1) (ds++qfz rp))]) e tm2 hp2):Rl 2 2 42 0 40 6 (qvk k qs) (qrZ d ds k n qs s s0) e tm2 hp2:=
 RunsL.next [(4,7),(5,11)] 300 [.t true,.r (qbW aq),Cf hd [4],.t true,Re hs]
  (Ro (Ai hlt (Ai hin (Ai (qes hk) (Co hd [4] 7 (Ai he (Ai hm (Ai hs tI)))))))) r
theorem qu9 {n d n' d':Int} {s s0:List Pt} {rp:Rep} {qs:List AskQ} {aq:AskQ} (hlt:decide (((0:Nat):Int)<(qs.length:Int))=true) (hin:0≤((0:Nat):Int)∧((0:Nat):Int)<(qs.length:Int)) (hk:qs[0]?=some aq) (hd:Fn 69 1 [moS 0 s n d,.pv (qbW aq)] [(0,0,qad s)] (.tu [mo1 0 s n' d',.ag (qcX rp)]) 0 []) (he:(rp.e==0)=true) (hm:0+1≤1000000) (hs:iV (IntKind.i64.wrap (((0:Nat):Int)+1))=iV (((0+1:Nat):Int))) {e:Exit} {tm2:TmL} {hp2:HpL}
 (r:Rl 2 2 42 0 40 6 (qxy qs) ([(2,0,.pv (iV n')),(2,1,.pv (iV d')),(2,2,.ls 4 s.length),(3,0,.pv (iV 0)),(3,1,.pv (iV 0)),(3,2,.pv (.slice none 0 0)),(0,0,qad s0),(1,0,qg2 qs),(4,0,qad s),(5,0,.drow 38 6 (0+1) ([]++qfz rp))]) e tm2 hp2):Rl 2 2 42 0 40 6 (qrO qs) (qsM d n qs s s0) e tm2 hp2:=
 RunsL.next [(5,10)] 300 [.t true,.r (qbW aq),Cf hd [4],.t true,.r (iV (((0+1:Nat):Int)))]
  (Ro (Ai hlt (Ai hin (Ai (qes hk) (Co hd [4] 7 (Ai he (Ai hm (Ai hs tI)))))))) r
theorem qy0 {n d n' d':Int} {s s0:List Pt} {rp:Rep} {qs:List AskQ} {aq:AskQ} {k:Nat} {ds:List Dn} (hlt:decide ((k:Int)<(qs.length:Int))=true) (hin:0≤(k:Int)∧(k:Int)<(qs.length:Int)) (hk:qs[k]?=some aq) (hd:Fn 69 1 [moS 0 s n d,.pv (qbW aq)] [(0,0,qad s)] (.tu [mo1 0 s n' d',.ag (qcX rp)]) 0 []) (he:(rp.e==0)=true) (hm:k+1≤1000000) (hs:iV (IntKind.i64.wrap ((k:Int)+1))=iV (((k+1:Nat):Int))) {e:Exit} {tm2:TmL} {hp2:HpL}
 (r:Rl 2 2 42 0 40 6 (qxv k qs) ([(2,0,.pv (iV n')),(2,1,.pv (iV d')),(2,2,.ls 4 s.length),(3,0,.pv (iV 0)),(3,1,.pv (iV 0)),(3,2,.pv (.slice none 0 0)),(0,0,qad s0),(1,0,qg2 qs),(4,0,qad s),(5,0,.drow 38 6 (k+1) (ds++qfz rp))]) e tm2 hp2):Rl 2 2 42 0 40 6 (qvk k qs) (qrZ d ds k n qs s s0) e tm2 hp2:=
 RunsL.next [(5,10)] 300 [.t true,.r (qbW aq),Cf hd [4],.t true,Re hs]
  (Ro (Ai hlt (Ai hin (Ai (qes hk) (Co hd [4] 7 (Ai he (Ai hm (Ai hs tI)))))))) r
theorem qwn {n d x y:Int} {s s0:List Pt} {rp:Rep} {qs:List AskQ} {aq:AskQ} (hlt:decide (((0:Nat):Int)<(qs.length:Int))=true) (hin:0≤((0:Nat):Int)∧((0:Nat):Int)<(qs.length:Int)) (hk:qs[0]?=some aq) (hd:Fn 69 1 [moS 0 s n d,.pv (qbW aq)] [(0,0,qad s)] (.tu [mo1 0 s x y,.ag (qcX rp)]) 0 []) (he:(rp.e==0)=false) (hm:0+1≤1000000) (hs:iV (IntKind.i64.wrap (((0:Nat):Int)+1))=iV (((0+1:Nat):Int))) {e:Exit} {tm2:TmL} {hp2:HpL}
 (r:Rl 2 2 42 0 40 6 (qxy qs) ([(2,0,.pv (iV n)),(2,1,.pv (iV d)),(2,2,.ls 4 s.length),(3,0,.pv (iV 0)),(3,1,.pv (iV 0)),(3,2,.pv (.slice none 0 0)),(0,0,qad s0),(1,0,qg2 qs),(4,0,qad s),(5,0,.drow 38 6 (0+1) ([]++qfz rp))]) e tm2 hp2):Rl 2 2 42 0 40 6 (qrO qs) (qsM d n qs s s0) e tm2 hp2:=
 RunsL.next [(5,10)] 300 [.t true,.r (qbW aq),Cf hd [4],.t false,.r (iV (((0+1:Nat):Int)))]
  (Ro (Ai hlt (Ai hin (Ai (qes hk) (Co hd [4] 7 (Ai he (Ai hm (Ai hs tI)))))))) r
theorem qyp {n d x y:Int} {s s0:List Pt} {rp:Rep} {qs:List AskQ} {aq:AskQ} {k:Nat} {ds:List Dn} (hlt:decide ((k:Int)<(qs.length:Int))=true) (hin:0≤(k:Int)∧(k:Int)<(qs.length:Int)) (hk:qs[k]?=some aq) (hd:Fn 69 1 [moS 0 s n d,.pv (qbW aq)] [(0,0,qad s)] (.tu [mo1 0 s x y,.ag (qcX rp)]) 0 []) (he:(rp.e==0)=false) (hm:k+1≤1000000) (hs:iV (IntKind.i64.wrap ((k:Int)+1))=iV (((k+1:Nat):Int))) {e:Exit} {tm2:TmL} {hp2:HpL}
 (r:Rl 2 2 42 0 40 6 (qxv k qs) ([(2,0,.pv (iV n)),(2,1,.pv (iV d)),(2,2,.ls 4 s.length),(3,0,.pv (iV 0)),(3,1,.pv (iV 0)),(3,2,.pv (.slice none 0 0)),(0,0,qad s0),(1,0,qg2 qs),(4,0,qad s),(5,0,.drow 38 6 (k+1) (ds++qfz rp))]) e tm2 hp2):Rl 2 2 42 0 40 6 (qvk k qs) (qrZ d ds k n qs s s0) e tm2 hp2:=
 RunsL.next [(5,10)] 300 [.t true,.r (qbW aq),Cf hd [4],.t false,Re hs]
  (Ro (Ai hlt (Ai hin (Ai (qes hk) (Co hd [4] 7 (Ai he (Ai hm (Ai hs tI)))))))) r
theorem qvG {n d x y:Int} {s s0:List Pt} {rp:Rep} {qs:List AskQ} {aq:AskQ} (hlt:decide (((0:Nat):Int)<(qs.length:Int))=true) (hin:0≤((0:Nat):Int)∧((0:Nat):Int)<(qs.length:Int)) (hk:qs[0]?=some aq) (hd:Fn 69 1 [moS 0 s n d,.pv (qbW aq)] [(0,0,qad s)] (.tu [.one (.pv (.agg #[iV x,iV y,.slice none 0 0])),.ag (qcX rp)]) 0 []) (he:(rp.e==0)=false) (hm:0+1≤1000000) (hs:iV (IntKind.i64.wrap (((0:Nat):Int)+1))=iV (((0+1:Nat):Int))) {e:Exit} {tm2:TmL} {hp2:HpL}
 (r:Rl 2 2 42 0 40 6 (qxy qs) ([(2,0,.pv (iV n)),(2,1,.pv (iV d)),(2,2,.ls 4 s.length),(3,0,.pv (iV 0)),(3,1,.pv (iV 0)),(3,2,.pv (.slice none 0 0)),(0,0,qad s0),(1,0,qg2 qs),(4,0,qad s),(5,0,.drow 38 6 (0+1) ([]++qfz rp))]) e tm2 hp2):Rl 2 2 42 0 40 6 (qrO qs) (qsM d n qs s s0) e tm2 hp2:=
 RunsL.next [(5,10)] 300 [.t true,.r (qbW aq),Cf hd [4],.t false,.r (iV (((0+1:Nat):Int)))]
  (Ro (Ai hlt (Ai hin (Ai (qes hk) (Co hd [4] 7 (Ai he (Ai hm (Ai hs tI)))))))) r
theorem qx3 {n d x y:Int} {s s0:List Pt} {rp:Rep} {qs:List AskQ} {aq:AskQ} {k:Nat} {ds:List Dn} (hlt:decide ((k:Int)<(qs.length:Int))=true) (hin:0≤(k:Int)∧(k:Int)<(qs.length:Int)) (hk:qs[k]?=some aq) (hd:Fn 69 1 [moS 0 s n d,.pv (qbW aq)] [(0,0,qad s)] (.tu [.one (.pv (.agg #[iV x,iV y,.slice none 0 0])),.ag (qcX rp)]) 0 []) (he:(rp.e==0)=false) (hm:k+1≤1000000) (hs:iV (IntKind.i64.wrap ((k:Int)+1))=iV (((k+1:Nat):Int))) {e:Exit} {tm2:TmL} {hp2:HpL}
 (r:Rl 2 2 42 0 40 6 (qxv k qs) ([(2,0,.pv (iV n)),(2,1,.pv (iV d)),(2,2,.ls 4 s.length),(3,0,.pv (iV 0)),(3,1,.pv (iV 0)),(3,2,.pv (.slice none 0 0)),(0,0,qad s0),(1,0,qg2 qs),(4,0,qad s),(5,0,.drow 38 6 (k+1) (ds++qfz rp))]) e tm2 hp2):Rl 2 2 42 0 40 6 (qvk k qs) (qrZ d ds k n qs s s0) e tm2 hp2:=
 RunsL.next [(5,10)] 300 [.t true,.r (qbW aq),Cf hd [4],.t false,Re hs]
  (Ro (Ai hlt (Ai hin (Ai (qes hk) (Co hd [4] 7 (Ai he (Ai hm (Ai hs tI)))))))) r
theorem qrK {n d:Int} {s s0:List Pt} {qs:List AskQ} {k:Nat} {ds:List Dn} (hlt:decide ((k:Int)<(qs.length:Int))=false):Rl 2 2 42 0 40 6 (qvk k qs) (qrZ d ds k n qs s s0) (.exit 0) ([(2,.pp 2 0),(4,.pp 3 0),(6,.ls 5 k)]) (qrZ d ds k n qs s s0):=
 RunsL.stop [] 300 [.t false] (fun h=>by cases h)
  (Ro (Ai hlt tI))
theorem qoH {n d:Int} {s s0:List Pt} {qs:List AskQ} (hlt:decide (((0:Nat):Int)<(qs.length:Int))=false):Rl 2 2 42 0 40 6 (qrO qs) (qsM d n qs s s0) (.exit 0) ([(2,.pp 2 0),(4,.pp 3 0),(6,.ls 5 0)]) (qsM d n qs s s0):=
 RunsL.stop [] 300 [.t false] (fun h=>by cases h)
  (Ro (Ai hlt tI))
abbrev qAq (qs:List AskQ) (s0:List Pt) (td:Int) (tn:Int):HpL:=[(2,0,.pv (iV tn)),(2,1,.pv (iV td)),(2,2,.ls 4 s0.length),(3,0,.pv (iV 0)),(3,1,.pv (iV 0)),(3,2,.pv (.slice none 0 0)),(0,0,qad s0),(1,0,qg2 qs),(4,0,qad s0),(5,0,.row 38 6 0 [])]
theorem qu8 {tn td n d:Int} {s s0:List Pt} {qs:List AskQ} {k:Nat} {ds:List Dn} (hc:Fn 68 1 [.ls 0 s0.length] [(0,0,qad s0)] (.ls 1 s0.length) 1 [(1,0,qad s0)]) (r0:Rl 2 2 42 0 40 6 (qrO qs) (qAq qs s0 td tn) (.exit 0) ([(2,.pp 2 0),(4,.pp 3 0),(6,.ls 5 k)]) (qrZ d ds k n qs s s0)) :
 Fn 42 2 [moS 0 s0 tn td,.ls 1 qs.length] [(0,0,qad s0),(1,0,qg2 qs)] (.tu [mo1 2 s n d,.one (.dv 6 k ds)]) 1 [(2,0,qad s)]:=
 Fz [(2,4)] [Cf hc [0],.ln true 6 0 38 6,Lf r0,.fz true 6 0 0 6 ds]
  (qaH (qaF [(2,4)]) [(2,0,qad s)]) (Co hc [0] 4 (Lo r0 [] (Ai (LeD.refl ds) tI)))
theorem qsZ {tn td n d:Int} {s s0:List Pt} {qs:List AskQ} (hc:Fn 68 1 [.ls 0 s0.length] [(0,0,qad s0)] (.ls 1 s0.length) 1 [(1,0,qad s0)]) (r0:Rl 2 2 42 0 40 6 (qrO qs) (qAq qs s0 td tn) (.exit 0) ([(2,.pp 2 0),(4,.pp 3 0),(6,.ls 5 0)]) (qsM d n qs s s0)) :
 Fn 42 2 [moS 0 s0 tn td,.ls 1 qs.length] [(0,0,qad s0),(1,0,qg2 qs)] (.tu [mo1 2 s n d,.one (.dv 6 0 [])]) 1 [(2,0,qad s)]:=
 Fz [(2,4)] [Cf hc [0],.ln true 6 0 38 6,Lf r0,.fz true 6 0 0 6 []]
  (qaH (qaF [(2,4)]) [(2,0,qad s)]) (Co hc [0] 4 (Lo r0 [] (Ai (LeD.refl []) tI)))
end Go.Proofs.YtleaeldgaflmkaaGreat

namespace Go.Proofs.YtleaeldgaflmkaaGreat
set_option maxRecDepth 100000
open Go.RowKit
def qsc (s:List Pt) (n d:Int):List AskQ→List Rep→Int→Int→List Pt→Prop
 | [],[],n',d',s'=>n'=n∧d'=d∧s'=s
 | a::qs,r::rs,n',d',s'=>∃ n1 d1 s1,Outc s n d a r n1 d1 s1∧qsc s1 n1 d1 qs rs n' d' s'
 | _,_,_,_,_=>False
def qtz (a:AskQ):Prop:=I64 a.qn∧I64 a.qd
abbrev qcx (rs:List Rep):List Dn:=rs.flatMap qfz
abbrev orT (qs:List AskQ) (k:Nat):List (Nat×SV):=[(2,.pp 2 0),(4,.pp 3 0),(6,.ls 5 k),(17,.ls 1 qs.length),(18,.pv (iV (qs.length:Int))),(19,.pv (iV (k:Int)))]
abbrev orH (s0:List Pt) (qs:List AskQ) (s:List Pt) (n d:Int) (row:SV):List (Nat×Nat×SV):=[(2,0,.pv (iV n)),(2,1,.pv (iV d)),(2,2,.ls 4 s.length),(3,0,.pv (iV 0)),(3,1,.pv (iV 0)),(3,2,.pv (.slice none 0 0)),(0,0,qad s0),(1,0,qg2 qs),(4,0,qad s),(5,0,row)]
abbrev orE (k:Nat):List (Nat×SV):=[(2,.pp 2 0),(4,.pp 3 0),(6,.ls 5 k)]
abbrev qwF (k:Nat) (ds:List Dn):SV:=.drow 38 6 k ds
section
variable {s s' s0:List Pt} {n d n' d':Int} {qs:List AskQ} {a:AskQ} {r:Rep} {k:Nat} {ds:List Dn}
theorem qpf (o:Outc s n d a r n' d' s') (hk:qs[k]?=some a) (hl:qs.length≤999999) {e:Exit} {tm2:TmL} {hp2:HpL}
 (rr:Rl 2 2 42 0 40 6 (orT qs (k+1)) (orH s0 qs s' n' d' (qwF (k+1) (ds++qfz r))) e tm2 hp2) :
 Rl 2 2 42 0 40 6 (orT qs k) (orH s0 qs s n d (qwF k ds)) e tm2 hp2:=by
 have hkl:=qax hk
 rcases o.prg with ⟨he,h⟩ | ⟨he,hs,h⟩ | ⟨he,x,y,h⟩ | ⟨he,x,y,h⟩
 ·exact qzo (hlt:=dt (by omega)) (hin:=⟨by omega,by omega⟩) (hk:=hk) (hd:=h) (he:=by simp[he]) (hm:=by omega) (hs:=qan (by omega)) rr
 ·subst hs
  exact qy0 (hlt:=dt (by omega)) (hin:=⟨by omega,by omega⟩) (hk:=hk) (hd:=h) (he:=by simp[he]) (hm:=by omega) (hs:=qan (by omega)) rr
 ·obtain⟨_,rfl,rfl,rfl⟩:=o.err he
  exact qyp (hlt:=dt (by omega)) (hin:=⟨by omega,by omega⟩) (hk:=hk) (hd:=h) (he:=by simp[he]) (hm:=by omega) (hs:=qan (by omega)) rr
 ·obtain⟨_,rfl,rfl,rfl⟩:=o.err he
  exact qx3 (hlt:=dt (by omega)) (hin:=⟨by omega,by omega⟩) (hk:=hk) (hd:=h) (he:=by simp[he]) (hm:=by omega) (hs:=qan (by omega)) rr
theorem qn2 (o:Outc s n d a r n' d' s') (hk:qs[0]?=some a) (hl:qs.length≤999999) {e:Exit} {tm2:TmL} {hp2:HpL}
 (rr:Rl 2 2 42 0 40 6 (orT qs 1) (orH s0 qs s' n' d' (qwF 1 (qfz r))) e tm2 hp2) :
 Rl 2 2 42 0 40 6 (orT qs 0) (orH s0 qs s n d (.row 38 6 0 [])) e tm2 hp2:=by
 have hkl:=qax hk
 rcases o.prg with ⟨he,h⟩ | ⟨he,hs,h⟩ | ⟨he,x,y,h⟩ | ⟨he,x,y,h⟩
 ·exact qu3 (hlt:=dt (by omega)) (hin:=⟨by omega,by omega⟩) (hk:=hk) (hd:=h) (he:=by simp[he]) (hm:=by omega) (hs:=qan (by omega)) rr
 ·subst hs
  exact qu9 (hlt:=dt (by omega)) (hin:=⟨by omega,by omega⟩) (hk:=hk) (hd:=h) (he:=by simp[he]) (hm:=by omega) (hs:=qan (by omega)) rr
 ·obtain⟨_,rfl,rfl,rfl⟩:=o.err he
  exact qwn (hlt:=dt (by omega)) (hin:=⟨by omega,by omega⟩) (hk:=hk) (hd:=h) (he:=by simp[he]) (hm:=by omega) (hs:=qan (by omega)) rr
 ·obtain⟨_,rfl,rfl,rfl⟩:=o.err he
  exact qvG (hlt:=dt (by omega)) (hin:=⟨by omega,by omega⟩) (hk:=hk) (hd:=h) (he:=by simp[he]) (hm:=by omega) (hs:=qan (by omega)) rr
theorem qi3 (hl:qs.length≤999999):∀ (rest:List AskQ) (k:Nat) (s:List Pt) (n d:Int) (ds:List Dn),qs=qs.take k++rest→k+rest.length=qs.length→Val s→AskT n d→(∀ a∈rest,qtz a)→
 ∃ rs n' d' s',qsc s n d rest rs n' d' s'∧Val s'∧AskT n' d'∧rs.length=rest.length∧
  Rl 2 2 42 0 40 6 (orT qs k) (orH s0 qs s n d (qwF k ds)) (.exit 0) (orE qs.length) (orH s0 qs s' n' d' (qwF qs.length (ds++qcx rs)))
 | [],k,s,n,d,ds,_,hk,hv,ht,_=>by
  have e:k=qs.length:=by simpa using hk
  refine⟨[],n,d,s,⟨rfl,rfl,rfl⟩,hv,ht,rfl,?_⟩
  rw[show ds++qcx []=ds from List.append_nil _]
  subst e
  exact qrK (hlt:=df (by omega))
 | a::rest,k,s,n,d,ds,hq,hk,hv,ht,hn=>by
  have hkl:k<qs.length:=by rw[← hk,List.length_cons];omega
  have hka:qs[k]?=some a:=by
   rw[hq,List.getElem?_append_right (by rw[List.length_take];omega),List.length_take,Nat.min_eq_left (by omega),Nat.sub_self]
   rfl
  obtain⟨r,n1,d1,s1,o⟩:=qlQ a hv ht (hn a List.mem_cons_self)
  obtain⟨rs,n',d',s',h1,h2,h3,h4,h5⟩:=qi3 hl rest (k+1) s1 n1 d1 (ds++qfz r) (by
   rw[List.take_add_one,hka,List.append_assoc];exact hq) (by rw[← hk,List.length_cons];omega) o.val o.ask fun b hb=>hn b (List.mem_cons_of_mem _ hb)
  refine⟨r::rs,n',d',s',⟨n1,d1,s1,o,h1⟩,h2,h3,by rw[List.length_cons,h4];rfl,qpf o hka hl ?_⟩
  rw[show ds++qcx (r::rs)=ds++qfz r++qcx rs by rw[List.append_assoc];rfl]
  exact h5
theorem ql5 (hl:qs.length≤999999) (hv:Val s) (ht:AskT n d) (hn:∀ a∈qs,qtz a):∃ rs n' d' s',qsc s n d qs rs n' d' s'∧Val s'∧AskT n' d'∧rs.length=qs.length∧
 Fn 42 2 [moS 0 s n d,.ls 1 qs.length] [(0,0,qad s),(1,0,qg2 qs)] (.tu [mo1 2 s' n' d',.one (.dv 6 qs.length (qcx rs))]) 1 [(2,0,qad s')]:=by
 have hc:=ql4 (l:=s) (by have:=hv.len;omega)
 cases qs with
 | nil=>
  exact⟨[],n,d,s,⟨rfl,rfl,rfl⟩,hv,ht,rfl,qsZ (hc:=hc) (r0:=qoH (hlt:=by decide))⟩
 | cons a rest=>
  obtain⟨r,n1,d1,s1,o⟩:=qlQ a hv ht (hn a List.mem_cons_self)
  obtain⟨rs,n',d',s',h1,h2,h3,h4,h5⟩:=qi3 (s0:=s) hl rest 1 s1 n1 d1 (qfz r) rfl (by rw[List.length_cons];omega) o.val o.ask fun b hb=>hn b (List.mem_cons_of_mem _ hb)
  exact⟨r::rs,n',d',s',⟨n1,d1,s1,o,h1⟩,h2,h3,by rw[List.length_cons,h4];rfl,qu8 (hc:=hc) (r0:=qn2 o rfl hl h5)⟩
noncomputable def qlj (s:List Pt) (n d:Int):Int:=open Classical in if qej n d=0∧qce s=0 then 0 else 8
theorem qgD (hn:I64 n) (hd:I64 d):Fn 14 1 [moS 0 s n d] [(0,0,qad s)] (.pv (iV (qlj s n d))) 0 []∧Fn 25 1 [moS 0 s n d] [(0,0,qad s)] (.pv (iV (qlj s n d))) 0 []:=by
 have c1:Pure Tryz.prog 40 #[qaa n d] (iV (qej n d)):=fun w=>qcA n d w hn hd
 have c2:Pure Tryz.prog 31 #[qaa n d] (iV (qej n d)):=fun w=>qfl n d w hn hd
 have c3:=qaR s
 have c4:=qbf s
 unfold qlj
 by_cases h1:qej n d=0
 ·rw[h1] at c1 c2
  by_cases h2:qce s=0
  ·rw[h2] at c3 c4
   rw[if_pos ⟨h1,h2⟩]
   exact⟨qyy (ha:=c1) (hc:=c3),qyS (ha:=c2) (hc:=c4)⟩
  ·rw[if_neg fun h=>h2 h.2]
   exact⟨qzQ (ha:=c1) (hc:=c3) (he:=by simpa using h2),qzS (ha:=c2) (hc:=c4) (he:=by simpa using h2)⟩
 ·rw[if_neg fun h=>h1 h.1]
  exact⟨qy4 (ha:=c1) (hc:=c3) (he:=by simpa using h1),qzs (ha:=c2) (he:=by simpa using h1)⟩
theorem qjY (hn:I64 n) (hd:I64 d):qlj s n d=0↔Val s∧AskT n d:=by
 unfold qlj
 split
 ·rename_i h
  exact⟨fun _=>⟨qbI.1 h.2,qbN.1 h.1⟩,fun _=>rfl⟩
 ·rename_i h
  exact⟨fun e=>(by cases e),fun k=>(h ⟨qbN.2 k.2,qbI.2 k.1⟩).elim⟩
theorem qsB (h:qlj s n d≠0):qlj s n d=8:=by
 unfold qlj at h ⊢
 split
 ·rename_i g;rw[if_pos g] at h;exact (h rfl).elim
 ·rfl
end
end Go.Proofs.YtleaeldgaflmkaaGreat

namespace Go.Proofs.YtleaeldgaflmkaaGreat
set_option maxRecDepth 100000
open Go.RowKit
theorem qnx:∀ {rs:List Rep} {k:Nat} {r:Rep},rs[k]?=some r→qw6 (rs.flatMap qfz) (0*6+k*6) (qfz r)
 | [],k,r,h=>by simp at h
 | q::rs,0,r,h=>by
  simp at h;subst h
  intro j d hj
  show (qfz q++rs.flatMap qfz)[0*6+0*6+j]?=some d
  rw[show 0*6+0*6+j=j by omega,List.getElem?_append_left (List.getElem?_eq_some_iff.1 hj).1]
  exact hj
 | q::rs,k+1,r,h=>by
  have ih:=qnx (rs:=rs) (k:=k) (r:=r) (by simpa using h)
  intro j d hj
  have:=ih j d hj
  rw[show 0*6+(k+1)*6+j=(0*6+k*6+j)+1+1+1+1+1+1 by omega]
  exact this
abbrev qxC (rs:List Rep):HpL:=[(0,0,.rrow 38 6 rs.length (qcx rs)),(1,0,.rrow 38 6 rs.length (qcx rs))]
theorem qoI {rp:Rep} {rs:List Rep} {k:Nat} (hlt:decide ((k:Int)<(rs.length:Int))=true) (hin:0≤(k:Int)∧(k:Int)<(rs.length:Int)) (hk:rs[k]?=some rp) (hsm:Fn 26 0 [.ag (qcX rp),.ag (qcX rp)] [] (.pv (.bool true)) 0 []) (hs:iV (IntKind.i64.wrap ((k:Int)+1))=iV (((k+1:Nat):Int))) {e:Exit} {tm2:TmL} {hp2:HpL}
 (r:Rl 0 0 28 0 27 2 ([(0,.ls 0 rs.length),(1,.ls 1 rs.length),(5,.pv (iV ((k+1:Nat):Int)))]) (qxC rs) e tm2 hp2):Rl 0 0 28 0 27 2 ([(0,.ls 0 rs.length),(1,.ls 1 rs.length),(5,.pv (iV (k:Int)))]) (qxC rs) e tm2 hp2:=
 RunsL.next [] 300 [.t true,.md,.dr (qcX rp),.dr (qcX rp),Cf hsm [],.k,Re hs]
  (Ro (Ai hlt (Ai hin (Ai (qnx hk) (Ai hin (Ai (qnx hk) (Co hsm [] 2 (Ai hs tI)))))))) r
theorem qsx {rs:List Rep} {k:Nat} (hlt:decide ((k:Int)<(rs.length:Int))=false):Rl 0 0 28 0 27 2 ([(0,.ls 0 rs.length),(1,.ls 1 rs.length),(5,.pv (iV (k:Int)))]) (qxC rs) (.exit 0) ([]) ([]):=
 RunsL.stop [] 300 [.t false] (fun h=>by cases h)
  (Ro (Ai hlt tI))
theorem qub {rs:List Rep} (r0:Rl 0 0 28 0 27 2 ([(0,.ls 0 rs.length),(1,.ls 1 rs.length),(5,.pv (iV ((0:Nat):Int)))]) (qxC rs) (.exit 0) ([]) ([])) :
 Fn 28 0 [.dv 6 rs.length (qcx rs),.dv 6 rs.length (qcx rs)] [] (.pv (.bool true)) 0 []:=
 Fz [] [.od true 0 0 0 38 none,.od true 1 0 0 38 none,.t false,Lf r0]
  tI (Ai (qpQ (rs.length:Int)) (Lo r0 [] tI))
end Go.Proofs.YtleaeldgaflmkaaGreat

namespace Go.Proofs.YtleaeldgaflmkaaGreat
set_option maxRecDepth 100000
open Go.RowKit
section
variable {s s':List Pt} {n d n' d':Int} {a:AskQ}
theorem qo9 (r:Rep) (h:r.ms.length≤100000):Fn 26 0 [.ag (qcX r),.ag (qcX r)] [] (.pv (.bool true)) 0 []:=qyj (hs:=qsm rfl h)
theorem qrT:Pure Tryz.prog 41 #[] (.agg #[.slice none 0 0]):=qac (args:=[]) 200 [] (Ai rfl tI) (by kernel_rfl)
theorem qnl {f:FuncId} {x v:Value} (h:Pure Tryz.prog f #[x] v):Fn f 0 [.pv x] [] (.pv v) 0 []:=by
 intro w β us hH hd hi
 match us,hi with
 | [y],⟨e,_⟩=>
  have e':y=x:=e
  subst e'
  exact (h w).mono fun e w' ⟨he,hg⟩=>⟨v,β,he,Bl.le_refl β,rfl,hH.gr_mono hg,hd⟩
theorem qpx {f:FuncId} {e:Int} (h:Pure Tryz.prog f #[qaa n d] (.tuple #[.agg #[iV n',iV d',.slice none 0 0],iV e])):Fn f 0 [.pv (qaa n d)] [] (.tu [mo1 0 [] n' d',.one (.pv (iV e))]) 1 [(0,0,qad [])]:=
 qob (x:=.tu [.one (.pv (.agg #[iV n',iV d',.slice none 0 0])),.one (.pv (iV e))]) 34 3 (qeN (qnl h) fun β v hv=>⟨[_,_],⟨rfl,rfl,tI⟩,hv⟩)
  (.tu (.cons (.un (vs:=[iV n',iV d',.slice none 0 0]) (.cons (.same _) (.cons (.same _) (.cons .nil .nil)))) (.cons (.one (.same _)) .nil)))
theorem qoh {f:FuncId} {e:Int} (h:Fn f 1 [moS 0 s n d,.pv (qbW a)] [(0,0,qad s)] (.pv (.tuple #[.agg #[iV 0,iV 0,.slice none 0 0],.agg #[iV 0,iV 0,iV 0,iV 0,iV 0,.slice none 0 0],iV e])) 0 []) :
 Fn f 1 [moS 0 s n d,.pv (qbW a)] [(0,0,qad s)] (.tu [mo1 1 [] 0 0,.ag (qcX (qjv 0)),.one (.pv (iV e))]) 1 [(1,0,qad [])]:=
 qob (x:=.tu [.one (.pv (.agg #[iV 0,iV 0,.slice none 0 0])),.ag (qcX (qjv 0)),.one (.pv (iV e))]) 34 3
  (qeN h fun β v hv=>⟨[_,_,_],⟨rfl,⟨[iV 0,iV 0,iV 0,iV 0,iV 0,.slice none 0 0],⟨rfl,rfl,rfl,rfl,rfl,qir,tI⟩,rfl⟩,rfl,tI⟩,hv⟩)
  (.tu (.cons (.un (vs:=[iV 0,iV 0,.slice none 0 0]) (.cons (.same _) (.cons (.same _) (.cons .nil .nil)))) (.cons (.ag (.cons (.same _) (.cons (.same _) (.cons (.same _) (.cons (.same _) (.cons (.same _) (.cons (.same _) .nil))))))) (.cons (.one (.same _)) .nil))))
abbrev qz4 (f:FuncId) (s:List Pt) (n d:Int) (a:AskQ) (r:Rep) (n' d':Int) (s':List Pt) (e:Int):Prop:=Fn f 1 [moS 0 s n d,.pv (qbW a)] [(0,0,qad s)] (.tu [mo1 1 s' n' d',.ag (qcX r),.one (.pv (iV e))]) 1 [(1,0,qad s')]
theorem qtT (hn:I64 n) (hd:I64 d) (ha:qtz a):∃ r n' d' s' e,((qlj s n d=0∧Outc s n d a r n' d' s'∧e=0)∨(qlj s n d≠0∧r=qjv 0∧n'=0∧d'=0∧s'=[]∧e=8))∧qz4 12 s n d a r n' d' s' e∧qz4 23 s n d a r n' d' s' e:=by
 obtain⟨c1,c2⟩:=qgD (s:=s) hn hd
 by_cases h:qlj s n d=0
 ·obtain⟨hv,ht⟩:=(qjY hn hd).1 h
  rw[h] at c1 c2
  obtain⟨rs,n',d',s',h1,_,_,h4,h5⟩:=ql5 (qs:=[a]) (by show 1≤999999;decide) hv ht fun b hb=>(by rw[List.mem_singleton.1 hb];exact ha)
  match rs,h4,h1 with
  | [r],_,⟨n1,d1,s1,o,e1,e2,e3⟩=>
   subst e1 e2 e3
   exact⟨r,_,_,_,0,Or.inl ⟨h,o,rfl⟩,qyg (hc:=c1) (hr:=h5) (h0:=by decide),qyG (hc:=c2) (hd:=o.ref)⟩
 ·rw[qsB h] at c1 c2
  exact⟨qjv 0,0,0,[],8,Or.inr ⟨h,rfl,rfl,rfl,rfl,rfl⟩,qoh (qyR (hc:=c1) (he:=by decide)),qoh (qxW (hc:=c2) (he:=by decide))⟩
theorem qsN (s:List Pt):Fn 20 1 [qar 0 s] [(0,0,qad s)] (.pv (.bool true)) 0 []∨(s.length≤70∧Fn 20 1 [qar 0 s] [(0,0,qad s)] (.pv (.bool false)) 0 []):=by
 rcases qod s with ⟨_,h⟩ | ⟨h0,h⟩
 ·exact Or.inl h
 ·exact Or.inr ⟨by omega,h⟩
end
end Go.Proofs.YtleaeldgaflmkaaGreat

namespace Go.Proofs.YtleaeldgaflmkaaGreat
set_option maxRecDepth 100000
open Go.ChangeShapes Go.WideShapes Go.ChangeAt Go.RowKit Go.Joins Go.Deep
theorem qzR:Tryz.prog.cellsOf 23=2:=by kernel_rfl
theorem qxO:Tryz.prog.cellsOf 26=1:=by kernel_rfl
theorem qzN:Tryz.prog.cellsOf 24=1:=by kernel_rfl
theorem qvz:Tryz.prog.cellsOf 2=1:=by kernel_rfl
theorem qqj:Tryz.prog.cellsOf 28=3:=by kernel_rfl
theorem qsz:Tryz.prog.readableRec 28=true:=by kernel_rfl
theorem qwS:28<Tryz.prog.types.size:=of_decide_eq_true (by kernel_rfl)
section
variable {H:Type} {enc:TypeId×Value→H} {W:World} {base:Nat} {spare:Nat→Bool} {held:Bool}
theorem qkO {r:Reach} {b0:Nat} {v:Value} {d:DataW H} {p:List MemPlace} (hv:Value.okWide Tryz.prog W r b0 28 v) (h:DataW.Trod enc Tryz.prog W base spare held 28 v d p) :
 ∃ (tn td:Int) (u:Value) (l:List Pt),v=.agg #[iV tn,iV td,u]∧Rd W 3 u l.length (qa1 l)∧I64 tn∧I64 td:=by
 obtain⟨cs,rfl,hsz⟩:=okWide_struct Tryz.underlying28 hv
 obtain⟨fuel,hf⟩:=h
 obtain⟨y0,y1,n,_,hlen,h0,h1⟩:=trod_struct2 Tryz.underlying28 hf
 obtain⟨z0,z1,n1,_,_,a0,a1⟩:=trod_struct2 Tryz.underlying23 h0
 obtain⟨tn,e0,_,w0⟩:=DataW.trod_int Tryz.underlying2 a0
 obtain⟨td,e1,_,w1⟩:=DataW.trod_int Tryz.underlying2 a1
 obtain⟨z2,n2,_,_,b0⟩:=trod_struct1 Tryz.underlying26 h1
 obtain⟨u0,s,c0,r0,_⟩:=qqt b0
 refine⟨tn,td,u0,s,?_,r0,bounds_i64 w0,bounds_i64 w1⟩
 rw[qxO,qzN] at c0
 rw[qvz,qzR] at e0 e1
 have hs:cs.size=3:=hsz.trans qqj
 obtain⟨L⟩:=cs
 match L,hs with
 | [v0,v1,v2],_=>
  simp[Value.cells] at c0 e0 e1
  rw[c0,e0,e1]
end
section
variable {W:World} {s:List Pt} {n0 d0 n d:Int} {a:AskQ} {u:Value}
end
end Go.Proofs.YtleaeldgaflmkaaGreat

namespace Go.Proofs.YtleaeldgaflmkaaGreat
set_option maxRecDepth 100000
open Go.RowKit
section
variable {s s' s0:List Pt} {n d n' d':Int} {qs:List AskQ} {a:AskQ} {r:Rep} {k:Nat} {ds:List Dn}
theorem qoD {rs:List Rep} (hl:rs.length≤999999) (hf:∀ r∈rs,r.ms.length≤100000):Fn 28 0 [.dv 6 rs.length (qcx rs),.dv 6 rs.length (qcx rs)] [] (.pv (.bool true)) 0 []:=by
 refine qub (r0:=RunsL.rounds (fun k=>[(0,.ls 0 rs.length),(1,.ls 1 rs.length),(5,.pv (iV (k:Int)))]) (fun _=>[(0,0,.rrow 38 6 rs.length (qcx rs)),(1,0,.rrow 38 6 rs.length (qcx rs))]) rs.length 0 (Nat.zero_add _) (fun k _ hk r=>?_) (qsx (hlt:=df (by omega))))
 obtain⟨m,hm⟩:=qao hk
 exact qoI (hlt:=dt (by omega)) (hin:=qaB hk) (hk:=hm) (hsm:=qo9 m (hf m (List.mem_of_getElem? hm))) (hs:=qan (by omega)) r
end
end Go.Proofs.YtleaeldgaflmkaaGreat

namespace Go.Proofs.YtleaeldgaflmkaaGreat
set_option maxRecDepth 100000
open Go.RowKit
abbrev qiF:List AskQ:=[⟨1,1,0,2,0,0,0⟩,⟨1,2,6,-1,0,0,0⟩,⟨1,5,0,0,0,0,0⟩,⟨5,0,0,0,0,0,0⟩,⟨6,0,0,0,0,0,0⟩,⟨4,0,0,0,0,2,1⟩,⟨5,0,0,0,0,0,0⟩,⟨6,0,0,0,0,0,0⟩,⟨4,0,0,0,0,1,1⟩]
abbrev qhy:List Rep:=[⟨0,0,0,0,0,[]⟩,⟨0,0,0,0,0,[]⟩,⟨0,0,0,0,0,[]⟩,⟨0,2,0,6,1,[]⟩,⟨0,1,5,0,1,[]⟩,⟨0,0,0,0,0,[⟨2,1,1,2⟩]⟩,⟨0,1,0,4,1,[]⟩,⟨0,1,2,0,1,[]⟩,⟨44,0,0,0,0,[]⟩]
theorem qrC (n:Int):Pure Tryz.prog 11 #[iV n] (qaa n 1):=qac (args:=[iV n]) 200 [] (Ai rfl tI) (by kernel_rfl)
theorem qt7 (i a b:Int):Pure Tryz.prog 16 #[iV i,iV a,iV b] (qbW ⟨1,i,a,b,0,0,0⟩):=qac (args:=[iV i,iV a,iV b]) 200 [] (Ai rfl tI) (by kernel_rfl)
theorem qrp (n d:Int):Pure Tryz.prog 17 #[qaa n d] (qbW ⟨4,0,0,0,0,n,d⟩):=qac (args:=[qaa n d]) 200 [] (Ai rfl tI) (by kernel_rfl)
theorem wgi :
 Fn 46 0 [] [] (.ls 0 9) 1 [(0,0,.row 42 7 9 (qdL qiF))]:=
 Fz [(0,2)] [.md,.r (qbW ⟨1,1,0,2,0,0,0⟩),.r (qbW ⟨1,2,6,-1,0,0,0⟩),.r (qbW ⟨1,5,0,0,0,0,0⟩),.r (qaa 2 1),.r (qbW ⟨4,0,0,0,0,2,1⟩),.r (qaa 1 1),.r (qbW ⟨4,0,0,0,0,1,1⟩),.lw]
  (qaH (qaF [(0,2)]) [(0,0,.row 42 7 9 (qdL qiF))]) (Ai (qt7 1 0 (2)) (Ai (qt7 2 6 (-1)) (Ai (qt7 5 0 (0)) (Ai (qrC 2) (Ai (qrp 2 1) (Ai (qrC 1) (Ai (qrp 1 1) tI)))))))
theorem wal (hn:Fn 10 0 [.pv (qaa 0 1)] [] (.tu [mo1 0 [] 0 1,.one (.pv (iV 0))]) 1 [(0,0,qad [])]) (hr:Fn 13 2 [moS 0 [] 0 1,.ls 1 9] [(0,0,qad []),(1,0,.row 42 7 9 (qdL qiF))] (.tu [mo1 2 gl 2 1,.one (.dv 6 9 (qcx qhy)),.one (.pv (iV 0))]) 1 [(2,0,qad gl)]) (hs:Fn 28 0 [.dv 6 9 (qcx qhy),.dv 6 9 (qcx qhy)] [] (.pv (.bool true)) 0 []) :
 Fn 19 0 [] [] (.pv (.bool true)) 0 []:=
 Fz [] [.r (qaa 0 1),Cf hn [],.md,.f [] [] [] (.ls 0 9) 1 [(0,0,.row 42 7 9 (qdL qiF))],Cf hr [0,2],.r (qaa 0 1),.md,.r (qaa 6 1),.r (qaa 2 1),.lw,.r (qaa 4 1),.fz false 7 5 0 4 [],.fz false 7 11 0 4 [],.fz false 7 17 0 4 [],.fz false 7 23 0 4 [],.fz false 7 29 0 4 [],.fz false 7 35 0 4 ((msV [⟨2,1,1,2⟩]).map .v),.fz false 7 41 0 4 [],.fz false 7 47 0 4 [],.fz false 7 53 0 4 [],.fz true 7 0 0 6 (qcx qhy),.md,.k,.k,Cf hs [],.r (qaa 2 1),.k,.k]
  tI (Ai (qrC 0) (Co hn [] 0 (Ai wgi (Ai (Eq.refl (List.map (SV.ren (qa6 [] 2)) [])) (Ai (Cp hn [] 2) (Co hr [0,2] 3 (Ai (qrC 0) (Ai (qrC 6) (Ai (qrC 2) (Ai (qrC 4) (Ai (Eq.refl ([]:List Dn)) (Ai (Eq.refl ([]:List Dn)) (Ai (Eq.refl ([]:List Dn)) (Ai (Eq.refl ([]:List Dn)) (Ai (Eq.refl ([]:List Dn)) (Ai (LeD.refl ((msV [⟨2,1,1,2⟩]).map Dn.v)) (Ai (Eq.refl ([]:List Dn)) (Ai (Eq.refl ([]:List Dn)) (Ai (Eq.refl ([]:List Dn)) (Ai (LeD.refl (qcx qhy)) (Co hs [] 8 (Ai (qrC 2) tI))))))))))))))))))))))
end Go.Proofs.YtleaeldgaflmkaaGreat

namespace Go.Proofs.YtleaeldgaflmkaaGreat
set_option maxRecDepth 100000
open Go.RowKit
theorem qsY:qjC gl 0 1 2 1=[⟨2,1,1,2⟩]:=by
 unfold qjC srt
 rw[qyx]
 rfl
theorem gT0:AskT 0 1:=⟨by decide,by decide,by decide,by decide⟩
theorem gT2:AskT 2 1:=⟨by decide,by decide,by decide,by decide⟩
theorem gT1:AskT 1 1:=⟨by decide,by decide,by decide,by decide⟩
section
variable {r:Rep} {n d n' d':Int} {s s':List Pt}
theorem qtO {i a b:Int} (o:Outc s n d ⟨1,i,a,b,0,0,0⟩ r n' d' s') (h:okP i a b=true) (hs:∀ p∈s,p.id≠i) (hl:s.length<64):r=qjv 0∧n'=n∧d'=d∧s'=quo ⟨i,a,b⟩ s:=o.k1 rfl rfl h hs hl
theorem qrc {p:Pt} {N D:Int} (o:Outc gl n d ⟨5,0,0,0,0,0,0⟩ r n' d' s') (hp:p∈gl) (h:∀ q∈gl,ld n d q p=false) (hk:okB N D=true) (he:plS p n d*D=N*d) (d1:1≤d) (hD:D≠0):r=⟨0,p.id,0,N,D,[]⟩:=by
 have hl:=qwj quJ hp h
 rcases o.k5 rfl rfl with ⟨h0,_⟩ | ⟨_,N',D',e,k1,_,_,k4⟩
 ·cases h0
 ·rw[hl] at e k4
  obtain⟨rfl,rfl⟩:=qdf k1 hk (by
   have:N'*D*d=N*D'*d:=by rw[Int.mul_right_comm,k4,Int.mul_right_comm,he,Int.mul_right_comm]
   exact Int.eq_of_mul_eq_mul_right (by omega) this)
  exact e
theorem qlJ {x:Nat×Nat} {N D:Int} (o:Outc gl n d ⟨6,0,0,0,0,0,0⟩ r n' d' s') (hx:qaz gl n d=x) (hk:DisI gl n d x N D) (d1:1≤d):r=⟨0,(ptK gl x.1).id,(ptK gl x.2).id,N,D,[]⟩:=by
 rcases o.k6 rfl rfl with ⟨h0,_⟩ | ⟨_,N',D',e,k⟩
 ·exact absurd h0 (by decide)
 ·rw[hx] at e k
  obtain⟨rfl,rfl⟩:=DisI.uniq d1 k hk
  exact e
theorem qjA {a:AskQ} (o:Outc s n d a r n' d' s') (h:a.kd=5∨a.kd=6):n'=n∧d'=d∧s'=s:=o.keep h
end
theorem qbk {a:AskQ} {qs:List AskQ} {rs:List Rep} {s:List Pt} {n d n' d':Int} {s':List Pt} (h:qsc s n d (a::qs) rs n' d' s'):∃ r t n1 d1 s1,rs=r::t∧Outc s n d a r n1 d1 s1∧qsc s1 n1 d1 qs t n' d' s':=by
 cases rs with
 | nil=>exact h.elim
 | cons r t=>
  obtain⟨n1,d1,s1,o,k⟩:=h
  exact⟨r,t,n1,d1,s1,rfl,o,k⟩
theorem qoE {rs:List Rep} {s:List Pt} {n d n' d':Int} {s':List Pt} (h:qsc s n d [] rs n' d' s'):rs=[]∧n'=n∧d'=d∧s'=s:=by
 cases rs with
 | nil=>exact⟨rfl,h⟩
 | cons r t=>exact h.elim
theorem qkT {rs:List Rep} {n' d':Int} {s':List Pt} (h:qsc [] 0 1 qiF rs n' d' s'):rs=qhy∧n'=2∧d'=1∧s'=gl:=by
 obtain⟨r1,t1,_,_,_,rfl,o1,q1⟩:=qbk h
 obtain⟨rfl,rfl,rfl,rfl⟩:=qtO o1 (by decide) (by decide) (by decide)
 obtain⟨r2,t2,_,_,_,rfl,o2,q2⟩:=qbk q1
 obtain⟨rfl,rfl,rfl,rfl⟩:=qtO o2 (by decide) (by decide) (by decide)
 obtain⟨r3,t3,_,_,_,rfl,o3,q3⟩:=qbk q2
 obtain⟨rfl,rfl,rfl,rfl⟩:=qtO o3 (by decide) (by decide) (by decide)
 obtain⟨r4,t4,_,_,_,rfl,o4,q4⟩:=qbk q3
 have o4':Outc gl 0 1 _ r4 _ _ _:=o4
 obtain⟨rfl,rfl,rfl⟩:=qjA o4' (Or.inl rfl)
 obtain rfl:=qrc (p:=⟨2,6,-1⟩) (N:=6) (D:=1) o4' (by simp) (by decide) (by decide) (by decide) (by decide) (by decide)
 obtain⟨r5,t5,_,_,_,rfl,o5,q5⟩:=qbk q4
 have o5':Outc gl 0 1 _ r5 _ _ _:=o5
 obtain⟨rfl,rfl,rfl⟩:=qjA o5' (Or.inr rfl)
 obtain rfl:=qlJ (x:=(0,2)) (N:=0) (D:=1) o5' (by decide) ⟨by decide,by decide,by decide,by decide⟩ (by decide)
 obtain⟨r6,t6,_,_,_,rfl,o6,q6⟩:=qbk q5
 have o6':Outc gl 0 1 _ r6 _ _ _:=o6
 obtain⟨rfl,rfl,rfl,rfl⟩:=o6'.k4 rfl rfl gT2 (by decide)
 obtain⟨r7,t7,_,_,_,rfl,o7,q7⟩:=qbk q6
 have o7':Outc gl 2 1 _ r7 _ _ _:=o7
 obtain⟨rfl,rfl,rfl⟩:=qjA o7' (Or.inl rfl)
 obtain rfl:=qrc (p:=⟨1,0,2⟩) (N:=4) (D:=1) o7' (by simp) (by decide) (by decide) (by decide) (by decide) (by decide)
 obtain⟨r8,t8,_,_,_,rfl,o8,q8⟩:=qbk q7
 have o8':Outc gl 2 1 _ r8 _ _ _:=o8
 obtain⟨rfl,rfl,rfl⟩:=qjA o8' (Or.inr rfl)
 obtain rfl:=qlJ (x:=(0,1)) (N:=0) (D:=1) o8' (by decide) ⟨by decide,by decide,by decide,by decide⟩ (by decide)
 obtain⟨r9,t9,_,_,_,rfl,o9,q9⟩:=qbk q8
 have o9':Outc gl 2 1 _ r9 _ _ _:=o9
 obtain⟨rfl,e1,e2,e3⟩:=qoE q9
 have g9:r9.e=44:=by
  rw[o9'.ee,qjL (by rfl),if_neg (fun q=>q (qbN.2 gT1)),if_neg (by decide)]
 obtain⟨f1,f2,f3,f4⟩:=o9'.err (by rw[g9];decide)
 rw[g9] at f1
 subst f1 e1 e2 e3 f2 f3 f4
 refine⟨?_,rfl,rfl,rfl⟩
 rw[show qjC _ _ _ _ _=_ from qsY]
 rfl
theorem qgr:Fn 19 0 [] [] (.pv (.bool true)) 0 []:=by
 have v0:Val []:=⟨by decide,fun p hp=>(by cases hp),fun k p q h=>(by simp at h)⟩
 obtain⟨c1,_⟩:=qgD (s:=[]) (n:=0) (d:=1) (by decide) (by decide)
 rw[(qjY (by decide) (by decide)).2 ⟨v0,gT0⟩] at c1
 obtain⟨rs,n',d',s',h1,h2,h3,h4,h5⟩:=ql5 (s:=[]) (n:=0) (d:=1) (qs:=qiF) (by decide) v0 gT0 (by unfold qtz;decide)
 obtain⟨rfl,rfl,rfl,rfl⟩:=qkT h1
 have hn:=qpx (n:=0) (d:=1) (qyK (ha:=fun w=>by have:=qcA 0 1 w (by decide) (by decide);rwa [qbN.2 gT0] at this) (hn:=qrT))
 exact wal (hn:=hn) (hr:=qy8 (k:=9) (ds:=qcx qhy) (qs:=qiF) (hc:=c1) (hl:=by decide) (hr:=h5)) (hs:=qoD (rs:=qhy) (by decide) (by decide))
end Go.Proofs.YtleaeldgaflmkaaGreat

namespace Go.Proofs.YtleaeldgaflmkaaGreat
set_option maxRecDepth 100000
open Go.RowKit
theorem qjN (a b:Int):(!(a==a&&(b==b&&true)))=false:=by simp
theorem qzM {tn td:Int} {s:List Pt} (hg:Fn 20 1 [qar 0 s] [(0,0,qad s)] (.pv (.bool true)) 0 []) :
 Fn 32 1 [moS 0 s tn td] [(0,0,qad s)] (.pv (.bool false)) 0 []:=
 Fz [] [Cf hg [0],.k]
  tI (Co hg [0] 2 tI)
theorem qz2 {tn td e1:Int} {s:List Pt} (hg:Fn 20 1 [qar 0 s] [(0,0,qad s)] (.pv (.bool false)) 0 []) (hc:Fn 25 1 [moS 0 s tn td] [(0,0,qad s)] (.pv (iV (e1))) 0 []) (he:(e1==0)=true) :
 Fn 32 1 [moS 0 s tn td] [(0,0,qad s)] (.pv (.bool true)) 0 []:=
 Fz [] [Cf hg [0],.k,Cf hc [0],.t true]
  tI (Co hg [0] 2 (Co hc [0] 2 (Ai he tI)))
theorem qzn {tn td e1:Int} {s:List Pt} (hg:Fn 20 1 [qar 0 s] [(0,0,qad s)] (.pv (.bool false)) 0 []) (hc:Fn 25 1 [moS 0 s tn td] [(0,0,qad s)] (.pv (iV (e1))) 0 []) (he:(e1==0)=false) :
 Fn 32 1 [moS 0 s tn td] [(0,0,qad s)] (.pv (.bool false)) 0 []:=
 Fz [] [Cf hg [0],.k,Cf hc [0],.t false]
  tI (Co hg [0] 2 (Co hc [0] 2 (Ai he tI)))
abbrev qxi:Prop:=Fn 19 0 [] [] (.pv (.bool true)) 0 []
theorem qyA {tn td:Int} {s:List Pt} (hf:Fn 32 1 [moS 0 s tn td] [(0,0,qad s)] (.pv (.bool false)) 0 []) (hal:qxi) :
 Fn 9 1 [moS 0 s tn td] [(0,0,qad s)] (.pv (.bool true)) 0 []:=
 Fz [] [Cf hf [0],.k,Cf hal []]
  tI (Co hf [0] 2 (Co hal [] 2 tI))
theorem qzw {tn td:Int} {s:List Pt} {ra rb:Rep} (hf:Fn 32 1 [moS 0 s tn td] [(0,0,qad s)] (.pv (.bool true)) 0 []) (hd1:Fn 12 1 [moS 0 s tn td,.pv (qbW ⟨5,0,0,0,0,0,0⟩)] [(0,0,qad s)] (.tu [mo1 1 s tn td,.ag (qcX ra),.one (.pv (iV 0))]) 1 [(1,0,qad s)]) (hd2:Fn 12 1 [moS 0 s tn td,.pv (qbW ⟨6,0,0,0,0,0,0⟩)] [(0,0,qad s)] (.tu [mo1 1 s tn td,.ag (qcX rb),.one (.pv (iV 0))]) 1 [(1,0,qad s)]) (h0:(ra.e==0)=false) (h1:decide ((s.length:Int)>0)=false) (h2:(rb.e==0)=false) (h3:decide ((s.length:Int)>1)=false) (h4:((s.length:Int)==0)=true) (hal:qxi) :
 Fn 9 1 [moS 0 s tn td] [(0,0,qad s)] (.pv (.bool true)) 0 []:=
 Fz [] [Cf hf [0],.k,Cf hd1 [0],Cf hd2 [0],.k,.k,.t false,.t false,.k,.t false,.t false,.k,.t true,Cf hal []]
  tI (Co hf [0] 2 (Co hd1 [0] 2 (Co hd2 [0] 5 (Ai h0 (Ai h1 (Ai h2 (Ai h3 (Ai h4 (Co hal [] 8 tI)))))))))
abbrev qxo (i:Nat) (j:Nat) (s:List Pt):TmL:=[(1,.pp 1 0),(7,.pp 7 0),(9,.pv (iV (s.length:Int))),(16,.pv (.bool false)),(17,.pv (iV (i:Int))),(18,.pv (iV (j:Int)))]
abbrev quC (d1:Int) (n1:Int) (p:Pt) (td:Int) (tn:Int):Prop:=Pure Tryz.prog 37 #[qab p.id p.a p.b,qaa tn td] (.tuple #[qaa n1 d1,iV 0])
abbrev quD (d2:Int) (n2:Int) (q:Pt) (td:Int) (tn:Int):Prop:=Pure Tryz.prog 37 #[qab q.id q.a q.b,qaa tn td] (.tuple #[qaa n2 d2,iV 0])
abbrev quE (d1:Int) (d2:Int) (d3:Int) (n1:Int) (n2:Int) (n3:Int):Prop:=Pure Tryz.prog 38 #[qaa n1 d1,qaa n2 d2] (.tuple #[qaa n3 d3,iV 0])
abbrev qAh (i:Nat) (j:Nat) (s:List Pt):TmL:=[(1,.pp 1 0),(7,.pp 7 0),(9,.pv (iV (s.length:Int))),(16,.pv (.bool false)),(17,.pv (iV (i:Int))),(18,.pv (iV ((j+1:Nat):Int)))]
theorem qwo {tn td:Int} {s:List Pt} {rb:Rep} {p q:Pt} {i j:Nat} {c3 n4 n1 d1 n2 d2 n3 d3:Int} (hlt:decide ((j:Int)<(s.length:Int))=true) (in1:0≤(i:Int)∧(i:Int)<(s.length:Int)) (hk1:s[i]?=some p) (ca:quC d1 n1 p td tn) (in2:0≤(j:Int)∧(j:Int)<(s.length:Int)) (hk2:s[j]?=some q) (cb:quD d2 n2 q td tn) (cs:quE d1 d2 d3 n1 n2 n3) (ck:Pure Tryz.prog 39 #[qaa rb.n rb.d] (iV (0))) (hn:decide (n3<0)=true) (hv:iV (IntKind.i64.wrap (0-n3))=iV (n4)) (cc:Pure Tryz.prog 33 #[qaa rb.n rb.d,qaa n4 d3] (iV (c3))) (hc:decide (c3>0)=false) (h0:(c3==0)=false) (hs:iV (IntKind.i64.wrap ((j:Int)+1))=iV (((j+1:Nat):Int))) {e:Exit} {tm2:TmL} {hp2:HpL}
 (r:Rl 1 1 9 1 231 10 (qAh i j s) ([(1,0,.pv (iV tn)),(1,1,.pv (iV td)),(1,2,.ls 0 s.length),(7,0,.pv (iV rb.e)),(7,1,.pv (iV rb.id)),(7,2,.pv (iV rb.ot)),(7,3,.pv (iV rb.n)),(7,4,.pv (iV rb.d)),(0,0,qad s)]) e tm2 hp2):Rl 1 1 9 1 231 10 (qxo i j s) ([(1,0,.pv (iV tn)),(1,1,.pv (iV td)),(1,2,.ls 0 s.length),(7,0,.pv (iV rb.e)),(7,1,.pv (iV rb.id)),(7,2,.pv (iV rb.ot)),(7,3,.pv (iV rb.n)),(7,4,.pv (iV rb.d)),(0,0,qad s)]) e tm2 hp2:=
 RunsL.next [] 300 [.t true,.md,.r (ptV p),Rf ca,.md,.r (ptV q),Rf cb,Rf cs,.k,.k,.k,Rf ck,.k,.t true,Re hv,Rf cc,.md,.t false,.k,.t false,.t false,Re hs]
  (Ro (Ai hlt (Ai in1 (Ai (qaN hk1) (Ai ca (Ai in2 (Ai (qaN hk2) (Ai cb (Ai cs (Ai ck (Ai hn (Ai hv (Ai cc (Ai hc (Ai h0 (Ai h0 (Ai hs tI))))))))))))))))) r
abbrev qxD (i:Nat) (j:Nat) (s:List Pt):TmL:=[(1,.pp 1 0),(7,.pp 7 0),(9,.pv (iV (s.length:Int))),(16,.pv (.bool true)),(17,.pv (iV (i:Int))),(18,.pv (iV ((j+1:Nat):Int)))]
theorem qwt {tn td:Int} {s:List Pt} {rb:Rep} {p q:Pt} {i j:Nat} {c3 n4 n1 d1 n2 d2 n3 d3:Int} (hlt:decide ((j:Int)<(s.length:Int))=true) (in1:0≤(i:Int)∧(i:Int)<(s.length:Int)) (hk1:s[i]?=some p) (ca:quC d1 n1 p td tn) (in2:0≤(j:Int)∧(j:Int)<(s.length:Int)) (hk2:s[j]?=some q) (cb:quD d2 n2 q td tn) (cs:quE d1 d2 d3 n1 n2 n3) (ck:Pure Tryz.prog 39 #[qaa rb.n rb.d] (iV (0))) (hn:decide (n3<0)=true) (hv:iV (IntKind.i64.wrap (0-n3))=iV (n4)) (cc:Pure Tryz.prog 33 #[qaa rb.n rb.d,qaa n4 d3] (iV (c3))) (hc:decide (c3>0)=false) (h0:(c3==0)=true) (hi1:(rb.id !=p.id)=false) (hi2:(rb.ot !=q.id)=false) (hs:iV (IntKind.i64.wrap ((j:Int)+1))=iV (((j+1:Nat):Int))) {e:Exit} {tm2:TmL} {hp2:HpL}
 (r:Rl 1 1 9 1 231 10 (qxD i j s) ([(1,0,.pv (iV tn)),(1,1,.pv (iV td)),(1,2,.ls 0 s.length),(7,0,.pv (iV rb.e)),(7,1,.pv (iV rb.id)),(7,2,.pv (iV rb.ot)),(7,3,.pv (iV rb.n)),(7,4,.pv (iV rb.d)),(0,0,qad s)]) e tm2 hp2):Rl 1 1 9 1 231 10 (qxo i j s) ([(1,0,.pv (iV tn)),(1,1,.pv (iV td)),(1,2,.ls 0 s.length),(7,0,.pv (iV rb.e)),(7,1,.pv (iV rb.id)),(7,2,.pv (iV rb.ot)),(7,3,.pv (iV rb.n)),(7,4,.pv (iV rb.d)),(0,0,qad s)]) e tm2 hp2:=
 RunsL.next [] 300 [.t true,.md,.r (ptV p),Rf ca,.md,.r (ptV q),Rf cb,Rf cs,.k,.k,.k,Rf ck,.k,.t true,Re hv,Rf cc,.md,.t false,.k,.t true,.r (iV p.id),.t false,.r (iV q.id),.t false,.t true,Re hs]
  (Ro (Ai hlt (Ai in1 (Ai (qaN hk1) (Ai ca (Ai in2 (Ai (qaN hk2) (Ai cb (Ai cs (Ai ck (Ai hn (Ai hv (Ai cc (Ai hc (Ai h0 (Ai in1 (Ai (qbC hk1) (Ai hi1 (Ai in2 (Ai (qbC hk2) (Ai hi2 (Ai h0 (Ai hs tI))))))))))))))))))))))) r
abbrev qz7 (i:Nat) (j:Nat) (s:List Pt):TmL:=[(1,.pp 1 0),(7,.pp 7 0),(9,.pv (iV (s.length:Int))),(16,.pv (.bool true)),(17,.pv (iV (i:Int))),(18,.pv (iV (j:Int)))]
theorem qvI {tn td:Int} {s:List Pt} {rb:Rep} {p q:Pt} {i j:Nat} {c3 n4 n1 d1 n2 d2 n3 d3:Int} (hlt:decide ((j:Int)<(s.length:Int))=true) (in1:0≤(i:Int)∧(i:Int)<(s.length:Int)) (hk1:s[i]?=some p) (ca:quC d1 n1 p td tn) (in2:0≤(j:Int)∧(j:Int)<(s.length:Int)) (hk2:s[j]?=some q) (cb:quD d2 n2 q td tn) (cs:quE d1 d2 d3 n1 n2 n3) (ck:Pure Tryz.prog 39 #[qaa rb.n rb.d] (iV (0))) (hn:decide (n3<0)=true) (hv:iV (IntKind.i64.wrap (0-n3))=iV (n4)) (cc:Pure Tryz.prog 33 #[qaa rb.n rb.d,qaa n4 d3] (iV (c3))) (hc:decide (c3>0)=false) (hs:iV (IntKind.i64.wrap ((j:Int)+1))=iV (((j+1:Nat):Int))) {e:Exit} {tm2:TmL} {hp2:HpL}
 (r:Rl 1 1 9 1 231 10 (qxD i j s) ([(1,0,.pv (iV tn)),(1,1,.pv (iV td)),(1,2,.ls 0 s.length),(7,0,.pv (iV rb.e)),(7,1,.pv (iV rb.id)),(7,2,.pv (iV rb.ot)),(7,3,.pv (iV rb.n)),(7,4,.pv (iV rb.d)),(0,0,qad s)]) e tm2 hp2):Rl 1 1 9 1 231 10 (qz7 i j s) ([(1,0,.pv (iV tn)),(1,1,.pv (iV td)),(1,2,.ls 0 s.length),(7,0,.pv (iV rb.e)),(7,1,.pv (iV rb.id)),(7,2,.pv (iV rb.ot)),(7,3,.pv (iV rb.n)),(7,4,.pv (iV rb.d)),(0,0,qad s)]) e tm2 hp2:=
 RunsL.next [] 300 [.t true,.md,.r (ptV p),Rf ca,.md,.r (ptV q),Rf cb,Rf cs,.k,.k,.k,Rf ck,.k,.t true,Re hv,Rf cc,.md,.t false,.k,Re hs]
  (Ro (Ai hlt (Ai in1 (Ai (qaN hk1) (Ai ca (Ai in2 (Ai (qaN hk2) (Ai cb (Ai cs (Ai ck (Ai hn (Ai hv (Ai cc (Ai hc (Ai hs tI))))))))))))))) r
theorem qwB {tn td:Int} {s:List Pt} {rb:Rep} {p q:Pt} {i j:Nat} {c3 n1 d1 n2 d2 n3 d3:Int} (hlt:decide ((j:Int)<(s.length:Int))=true) (in1:0≤(i:Int)∧(i:Int)<(s.length:Int)) (hk1:s[i]?=some p) (ca:quC d1 n1 p td tn) (in2:0≤(j:Int)∧(j:Int)<(s.length:Int)) (hk2:s[j]?=some q) (cb:quD d2 n2 q td tn) (cs:quE d1 d2 d3 n1 n2 n3) (ck:Pure Tryz.prog 39 #[qaa rb.n rb.d] (iV (0))) (hn:decide (n3<0)=false) (cc:Pure Tryz.prog 33 #[qaa rb.n rb.d,qaa n3 d3] (iV (c3))) (hc:decide (c3>0)=false) (h0:(c3==0)=false) (hs:iV (IntKind.i64.wrap ((j:Int)+1))=iV (((j+1:Nat):Int))) {e:Exit} {tm2:TmL} {hp2:HpL}
 (r:Rl 1 1 9 1 231 10 (qAh i j s) ([(1,0,.pv (iV tn)),(1,1,.pv (iV td)),(1,2,.ls 0 s.length),(7,0,.pv (iV rb.e)),(7,1,.pv (iV rb.id)),(7,2,.pv (iV rb.ot)),(7,3,.pv (iV rb.n)),(7,4,.pv (iV rb.d)),(0,0,qad s)]) e tm2 hp2):Rl 1 1 9 1 231 10 (qxo i j s) ([(1,0,.pv (iV tn)),(1,1,.pv (iV td)),(1,2,.ls 0 s.length),(7,0,.pv (iV rb.e)),(7,1,.pv (iV rb.id)),(7,2,.pv (iV rb.ot)),(7,3,.pv (iV rb.n)),(7,4,.pv (iV rb.d)),(0,0,qad s)]) e tm2 hp2:=
 RunsL.next [] 300 [.t true,.md,.r (ptV p),Rf ca,.md,.r (ptV q),Rf cb,Rf cs,.k,.k,.k,Rf ck,.k,.t false,Rf cc,.md,.t false,.k,.t false,.t false,Re hs]
  (Ro (Ai hlt (Ai in1 (Ai (qaN hk1) (Ai ca (Ai in2 (Ai (qaN hk2) (Ai cb (Ai cs (Ai ck (Ai hn (Ai cc (Ai hc (Ai h0 (Ai h0 (Ai hs tI)))))))))))))))) r
theorem qvS {tn td:Int} {s:List Pt} {rb:Rep} {p q:Pt} {i j:Nat} {c3 n1 d1 n2 d2 n3 d3:Int} (hlt:decide ((j:Int)<(s.length:Int))=true) (in1:0≤(i:Int)∧(i:Int)<(s.length:Int)) (hk1:s[i]?=some p) (ca:quC d1 n1 p td tn) (in2:0≤(j:Int)∧(j:Int)<(s.length:Int)) (hk2:s[j]?=some q) (cb:quD d2 n2 q td tn) (cs:quE d1 d2 d3 n1 n2 n3) (ck:Pure Tryz.prog 39 #[qaa rb.n rb.d] (iV (0))) (hn:decide (n3<0)=false) (cc:Pure Tryz.prog 33 #[qaa rb.n rb.d,qaa n3 d3] (iV (c3))) (hc:decide (c3>0)=false) (h0:(c3==0)=true) (hi1:(rb.id !=p.id)=false) (hi2:(rb.ot !=q.id)=false) (hs:iV (IntKind.i64.wrap ((j:Int)+1))=iV (((j+1:Nat):Int))) {e:Exit} {tm2:TmL} {hp2:HpL}
 (r:Rl 1 1 9 1 231 10 (qxD i j s) ([(1,0,.pv (iV tn)),(1,1,.pv (iV td)),(1,2,.ls 0 s.length),(7,0,.pv (iV rb.e)),(7,1,.pv (iV rb.id)),(7,2,.pv (iV rb.ot)),(7,3,.pv (iV rb.n)),(7,4,.pv (iV rb.d)),(0,0,qad s)]) e tm2 hp2):Rl 1 1 9 1 231 10 (qxo i j s) ([(1,0,.pv (iV tn)),(1,1,.pv (iV td)),(1,2,.ls 0 s.length),(7,0,.pv (iV rb.e)),(7,1,.pv (iV rb.id)),(7,2,.pv (iV rb.ot)),(7,3,.pv (iV rb.n)),(7,4,.pv (iV rb.d)),(0,0,qad s)]) e tm2 hp2:=
 RunsL.next [] 300 [.t true,.md,.r (ptV p),Rf ca,.md,.r (ptV q),Rf cb,Rf cs,.k,.k,.k,Rf ck,.k,.t false,Rf cc,.md,.t false,.k,.t true,.r (iV p.id),.t false,.r (iV q.id),.t false,.t true,Re hs]
  (Ro (Ai hlt (Ai in1 (Ai (qaN hk1) (Ai ca (Ai in2 (Ai (qaN hk2) (Ai cb (Ai cs (Ai ck (Ai hn (Ai cc (Ai hc (Ai h0 (Ai in1 (Ai (qbC hk1) (Ai hi1 (Ai in2 (Ai (qbC hk2) (Ai hi2 (Ai h0 (Ai hs tI)))))))))))))))))))))) r
theorem qwu {tn td:Int} {s:List Pt} {rb:Rep} {p q:Pt} {i j:Nat} {c3 n1 d1 n2 d2 n3 d3:Int} (hlt:decide ((j:Int)<(s.length:Int))=true) (in1:0≤(i:Int)∧(i:Int)<(s.length:Int)) (hk1:s[i]?=some p) (ca:quC d1 n1 p td tn) (in2:0≤(j:Int)∧(j:Int)<(s.length:Int)) (hk2:s[j]?=some q) (cb:quD d2 n2 q td tn) (cs:quE d1 d2 d3 n1 n2 n3) (ck:Pure Tryz.prog 39 #[qaa rb.n rb.d] (iV (0))) (hn:decide (n3<0)=false) (cc:Pure Tryz.prog 33 #[qaa rb.n rb.d,qaa n3 d3] (iV (c3))) (hc:decide (c3>0)=false) (hs:iV (IntKind.i64.wrap ((j:Int)+1))=iV (((j+1:Nat):Int))) {e:Exit} {tm2:TmL} {hp2:HpL}
 (r:Rl 1 1 9 1 231 10 (qxD i j s) ([(1,0,.pv (iV tn)),(1,1,.pv (iV td)),(1,2,.ls 0 s.length),(7,0,.pv (iV rb.e)),(7,1,.pv (iV rb.id)),(7,2,.pv (iV rb.ot)),(7,3,.pv (iV rb.n)),(7,4,.pv (iV rb.d)),(0,0,qad s)]) e tm2 hp2):Rl 1 1 9 1 231 10 (qz7 i j s) ([(1,0,.pv (iV tn)),(1,1,.pv (iV td)),(1,2,.ls 0 s.length),(7,0,.pv (iV rb.e)),(7,1,.pv (iV rb.id)),(7,2,.pv (iV rb.ot)),(7,3,.pv (iV rb.n)),(7,4,.pv (iV rb.d)),(0,0,qad s)]) e tm2 hp2:=
 RunsL.next [] 300 [.t true,.md,.r (ptV p),Rf ca,.md,.r (ptV q),Rf cb,Rf cs,.k,.k,.k,Rf ck,.k,.t false,Rf cc,.md,.t false,.k,Re hs]
  (Ro (Ai hlt (Ai in1 (Ai (qaN hk1) (Ai ca (Ai in2 (Ai (qaN hk2) (Ai cb (Ai cs (Ai ck (Ai hn (Ai cc (Ai hc (Ai hs tI)))))))))))))) r
abbrev qzP (i:Nat) (s:List Pt) (w:Bool):TmL:=[(1,.pp 1 0),(7,.pp 7 0),(9,.pv (iV (s.length:Int))),(16,.pv (.bool w)),(17,.pv (iV (i:Int)))]
theorem qlx {tn td:Int} {s:List Pt} {rb:Rep} {i j:Nat} {w:Bool} (hlt:decide ((j:Int)<(s.length:Int))=false):Rl 1 1 9 1 231 10 ([(1,.pp 1 0),(7,.pp 7 0),(9,.pv (iV (s.length:Int))),(16,.pv (.bool w)),(17,.pv (iV (i:Int))),(18,.pv (iV (j:Int)))]) ([(1,0,.pv (iV tn)),(1,1,.pv (iV td)),(1,2,.ls 0 s.length),(7,0,.pv (iV rb.e)),(7,1,.pv (iV rb.id)),(7,2,.pv (iV rb.ot)),(7,3,.pv (iV rb.n)),(7,4,.pv (iV rb.d)),(0,0,qad s)]) (.exit 2) (qzP i s w) ([(1,0,.pv (iV tn)),(1,1,.pv (iV td)),(1,2,.ls 0 s.length),(7,0,.pv (iV rb.e)),(7,1,.pv (iV rb.id)),(7,2,.pv (iV rb.ot)),(7,3,.pv (iV rb.n)),(7,4,.pv (iV rb.d)),(0,0,qad s)]):=
 RunsL.stop [] 300 [.t false] (fun h=>by cases h)
  (Ro (Ai hlt tI))
theorem qjK {tn td:Int} {s:List Pt} {rb:Rep} {i:Nat} {w u:Bool} (hlt:decide ((i:Int)<(s.length:Int))=true) (ha:iV (IntKind.i64.wrap ((i:Int)+1))=iV (((i+1:Nat):Int))) (r0:Rl 1 1 9 1 231 10 ([(1,.pp 1 0),(7,.pp 7 0),(9,.pv (iV (s.length:Int))),(16,.pv (.bool w)),(17,.pv (iV (i:Int))),(18,.pv (iV ((i+1:Nat):Int)))]) ([(1,0,.pv (iV tn)),(1,1,.pv (iV td)),(1,2,.ls 0 s.length),(7,0,.pv (iV rb.e)),(7,1,.pv (iV rb.id)),(7,2,.pv (iV rb.ot)),(7,3,.pv (iV rb.n)),(7,4,.pv (iV rb.d)),(0,0,qad s)]) (.exit 2) ([(1,.pp 1 0),(7,.pp 7 0),(9,.pv (iV (s.length:Int))),(16,.pv (.bool u)),(17,.pv (iV (i:Int)))]) ([(1,0,.pv (iV tn)),(1,1,.pv (iV td)),(1,2,.ls 0 s.length),(7,0,.pv (iV rb.e)),(7,1,.pv (iV rb.id)),(7,2,.pv (iV rb.ot)),(7,3,.pv (iV rb.n)),(7,4,.pv (iV rb.d)),(0,0,qad s)])) (hb:iV (IntKind.i64.wrap ((i:Int)+1))=iV (((i+1:Nat):Int))) {e:Exit} {tm2:TmL} {hp2:HpL}
 (r:Rl 1 1 9 0 231 10 ([(1,.pp 1 0),(7,.pp 7 0),(9,.pv (iV (s.length:Int))),(16,.pv (.bool u)),(17,.pv (iV ((i+1:Nat):Int)))]) ([(1,0,.pv (iV tn)),(1,1,.pv (iV td)),(1,2,.ls 0 s.length),(7,0,.pv (iV rb.e)),(7,1,.pv (iV rb.id)),(7,2,.pv (iV rb.ot)),(7,3,.pv (iV rb.n)),(7,4,.pv (iV rb.d)),(0,0,qad s)]) e tm2 hp2):Rl 1 1 9 0 231 10 (qzP i s w) ([(1,0,.pv (iV tn)),(1,1,.pv (iV td)),(1,2,.ls 0 s.length),(7,0,.pv (iV rb.e)),(7,1,.pv (iV rb.id)),(7,2,.pv (iV rb.ot)),(7,3,.pv (iV rb.n)),(7,4,.pv (iV rb.d)),(0,0,qad s)]) e tm2 hp2:=
 RunsL.next [] 300 [.t true,Re ha,Lf r0,Re ha]
  (Ro (Ai hlt (Ai ha (Lo r0 [] (Ai hb tI))))) r
theorem qmw {tn td:Int} {s:List Pt} {rb:Rep} {i:Nat} {w:Bool} (hlt:decide ((i:Int)<(s.length:Int))=false):Rl 1 1 9 0 231 10 (qzP i s w) ([(1,0,.pv (iV tn)),(1,1,.pv (iV td)),(1,2,.ls 0 s.length),(7,0,.pv (iV rb.e)),(7,1,.pv (iV rb.id)),(7,2,.pv (iV rb.ot)),(7,3,.pv (iV rb.n)),(7,4,.pv (iV rb.d)),(0,0,qad s)]) (.exit 0) ([(16,.pv (.bool w))]) ([(1,0,.pv (iV tn)),(1,1,.pv (iV td)),(1,2,.ls 0 s.length),(7,0,.pv (iV rb.e)),(7,1,.pv (iV rb.id)),(7,2,.pv (iV rb.ot)),(7,3,.pv (iV rb.n)),(7,4,.pv (iV rb.d)),(0,0,qad s)]):=
 RunsL.stop [] 300 [.t false] (fun h=>by cases h)
  (Ro (Ai hlt tI))
theorem qzv {tn td:Int} {s:List Pt} {ra rb:Rep} {p:Pt} {i1:Int} (hf:Fn 32 1 [moS 0 s tn td] [(0,0,qad s)] (.pv (.bool true)) 0 []) (hd1:Fn 12 1 [moS 0 s tn td,.pv (qbW ⟨5,0,0,0,0,0,0⟩)] [(0,0,qad s)] (.tu [mo1 1 s tn td,.ag (qcX ra),.one (.pv (iV 0))]) 1 [(1,0,qad s)]) (hd2:Fn 12 1 [moS 0 s tn td,.pv (qbW ⟨6,0,0,0,0,0,0⟩)] [(0,0,qad s)] (.tu [mo1 1 s tn td,.ag (qcX rb),.one (.pv (iV 0))]) 1 [(1,0,qad s)]) (h0:(ra.e==0)=true) (h1:decide ((s.length:Int)>0)=true) (h2:(rb.e==0)=false) (h3:decide ((s.length:Int)>1)=false) (h4:((s.length:Int)==0)=false) (hl:Fn 35 1 [qar 0 s,.pv (qaa tn td)] [(0,0,qad s)] (.pv (.tuple #[iV i1,iV 0])) 0 []) (hfi:Fn 36 1 [qar 0 s,.pv (iV i1)] [(0,0,qad s)] (.pv (.tuple #[ptV p,iV 0])) 0 []) (ca:Pure Tryz.prog 37 #[qab p.id p.a p.b,qaa tn td] (.tuple #[qaa ra.n ra.d,iV 0])) (hid:(ra.id !=i1)=false) (h5:decide ((s.length:Int)<2)=true) (r0:Rl 1 1 9 0 231 10 ([(1,.pp 1 0),(7,.pp 7 0),(9,.pv (iV (s.length:Int))),(16,.pv (.bool true)),(17,.pv (iV ((0:Nat):Int)))]) ([(1,0,.pv (iV tn)),(1,1,.pv (iV td)),(1,2,.ls 0 s.length),(7,0,.pv (iV rb.e)),(7,1,.pv (iV rb.id)),(7,2,.pv (iV rb.ot)),(7,3,.pv (iV rb.n)),(7,4,.pv (iV rb.d)),(0,0,qad s)]) (.exit 0) ([(16,.pv (.bool true))]) ([(1,0,.pv (iV tn)),(1,1,.pv (iV td)),(1,2,.ls 0 s.length),(7,0,.pv (iV rb.e)),(7,1,.pv (iV rb.id)),(7,2,.pv (iV rb.ot)),(7,3,.pv (iV rb.n)),(7,4,.pv (iV rb.d)),(0,0,qad s)])) (hal:qxi) :
 Fn 9 1 [moS 0 s tn td] [(0,0,qad s)] (.pv (.bool true)) 0 []:=
 Fz [] [Cf hf [0],.k,Cf hd1 [0],Cf hd2 [0],.k,.k,.t true,.t true,.k,.t false,.t false,.k,.t false,Cf hl [0],Cf hfi [0],Rf ca,.k,.k,.k,.t false,.t false,.t true,Lf r0,Cf hal []]
  tI (Co hf [0] 2 (Co hd1 [0] 2 (Co hd2 [0] 5 (Ai h0 (Ai h1 (Ai h2 (Ai h3 (Ai h4 (Co hl [0] 8 (Co hfi [0] 8 (Ai ca (Ai hid (Ai (qjN ra.n ra.d) (Ai h5 (Lo r0 [] (Co hal [] 10 tI))))))))))))))))
theorem qzk {tn td:Int} {s:List Pt} {ra rb:Rep} {p:Pt} {i1:Int} (hf:Fn 32 1 [moS 0 s tn td] [(0,0,qad s)] (.pv (.bool true)) 0 []) (hd1:Fn 12 1 [moS 0 s tn td,.pv (qbW ⟨5,0,0,0,0,0,0⟩)] [(0,0,qad s)] (.tu [mo1 1 s tn td,.ag (qcX ra),.one (.pv (iV 0))]) 1 [(1,0,qad s)]) (hd2:Fn 12 1 [moS 0 s tn td,.pv (qbW ⟨6,0,0,0,0,0,0⟩)] [(0,0,qad s)] (.tu [mo1 1 s tn td,.ag (qcX rb),.one (.pv (iV 0))]) 1 [(1,0,qad s)]) (h0:(ra.e==0)=true) (h1:decide ((s.length:Int)>0)=true) (h2:(rb.e==0)=true) (h3:decide ((s.length:Int)>1)=true) (h4:((s.length:Int)==0)=false) (hl:Fn 35 1 [qar 0 s,.pv (qaa tn td)] [(0,0,qad s)] (.pv (.tuple #[iV i1,iV 0])) 0 []) (hfi:Fn 36 1 [qar 0 s,.pv (iV i1)] [(0,0,qad s)] (.pv (.tuple #[ptV p,iV 0])) 0 []) (ca:Pure Tryz.prog 37 #[qab p.id p.a p.b,qaa tn td] (.tuple #[qaa ra.n ra.d,iV 0])) (hid:(ra.id !=i1)=false) (h5:decide ((s.length:Int)<2)=false) (r0:Rl 1 1 9 0 231 10 ([(1,.pp 1 0),(7,.pp 7 0),(9,.pv (iV (s.length:Int))),(16,.pv (.bool false)),(17,.pv (iV ((0:Nat):Int)))]) ([(1,0,.pv (iV tn)),(1,1,.pv (iV td)),(1,2,.ls 0 s.length),(7,0,.pv (iV rb.e)),(7,1,.pv (iV rb.id)),(7,2,.pv (iV rb.ot)),(7,3,.pv (iV rb.n)),(7,4,.pv (iV rb.d)),(0,0,qad s)]) (.exit 0) ([(16,.pv (.bool true))]) ([(1,0,.pv (iV tn)),(1,1,.pv (iV td)),(1,2,.ls 0 s.length),(7,0,.pv (iV rb.e)),(7,1,.pv (iV rb.id)),(7,2,.pv (iV rb.ot)),(7,3,.pv (iV rb.n)),(7,4,.pv (iV rb.d)),(0,0,qad s)])) (hal:qxi) :
 Fn 9 1 [moS 0 s tn td] [(0,0,qad s)] (.pv (.bool true)) 0 []:=
 Fz [] [Cf hf [0],.k,Cf hd1 [0],Cf hd2 [0],.k,.k,.t true,.t true,.k,.t true,.t true,.k,.t false,Cf hl [0],Cf hfi [0],Rf ca,.k,.k,.k,.t false,.t false,.t false,Lf r0,Cf hal []]
  tI (Co hf [0] 2 (Co hd1 [0] 2 (Co hd2 [0] 5 (Ai h0 (Ai h1 (Ai h2 (Ai h3 (Ai h4 (Co hl [0] 8 (Co hfi [0] 8 (Ai ca (Ai hid (Ai (qjN ra.n ra.d) (Ai h5 (Lo r0 [] (Co hal [] 10 tI))))))))))))))))
end Go.Proofs.YtleaeldgaflmkaaGreat
