/-
  Joined: Vr, Vv, Vw, VA, VC, VE, VF, VJ, VM, VU, VW. Conditions: none.
-/
import Derived.Test.YtleaeldgaflmkaaGreatW46
import Derived.Test.YtleaeldgaflmkaaGreatW25
import Derived.Test.YtleaeldgaflmkaaGreatW37
import Derived.Test.YtleaeldgaflmkaaGreatW44
import Derived.Test.YtleaeldgaflmkaaGreatW36
import Derived.Test.YtleaeldgaflmkaaGreatZj
import Derived.Test.YtleaeldgaflmkaaGreatW33
import Derived.Deep.Strs
import Derived.Lib.SmallJoins
import Derived.Test.YtleaeldgaflmkaaGreatW45
import Derived.Test.YtleaeldgaflmkaaGreatW28
namespace Go.Proofs.YtleaeldgaflmkaaGreat
set_option maxRecDepth 100000
open Go.RowKit
abbrev qtq (d:Int) (n:Int) (qs:List AskQ) (s:List Pt) (s0:List Pt):HpL:=[(2,0,.pv (iV n)),(2,1,.pv (iV d)),(2,2,.ls 4 s.length),(3,0,.pv (iV 0)),(3,1,.pv (iV 0)),(3,2,.pv (.slice none 0 0)),(0,0,qad s0),(1,0,qfz qs),(4,0,qad s),(5,0,.row 38 6 0 [])]
abbrev qs9 (qs:List AskQ):TmL:=[(2,.pp 2 0),(4,.pp 3 0),(6,.ls 5 0),(17,.ls 1 qs.length),(18,.pv (iV (qs.length:Int))),(19,.pv (iV (0:Int)))]
abbrev qxn (qs:List AskQ):TmL:=[(2,.pp 2 0),(4,.pp 3 0),(6,.ls 5 (0+1:Nat)),(17,.ls 1 qs.length),(18,.pv (iV (qs.length:Int))),(19,.pv (iV ((0+1:Nat):Int)))]
theorem quE {n d n' d':Int} {s s' s0:List Pt} {rp:Rep} {qs:List AskQ} {aq:AskQ} (hlt:decide (((0:Nat):Int)<(qs.length:Int))=true) (hin:0≤((0:Nat):Int)∧((0:Nat):Int)<(qs.length:Int)) (hk:qs[0]?=some aq) (hd:Fn 69 1 [moS 0 s n d,.pv (qa5 aq)] [(0,0,qad s)] (.tu [mo1 1 s' n' d',.ag (qdV rp)]) 1 [(1,0,qad s')]) (he:(rp.e==0)=true) (hm:0+1≤1000000) (hs:iV (IntKind.i64.wrap (((0:Nat):Int)+1))=iV (((0+1:Nat):Int))) {e:Exit} {tm2:TmL} {hp2:HpL}
 (r:Rl 2 2 42 0 40 6 (qxn qs) ([(2,0,.pv (iV n')),(2,1,.pv (iV d')),(2,2,.ls 4 s'.length),(3,0,.pv (iV 0)),(3,1,.pv (iV 0)),(3,2,.pv (.slice none 0 0)),(0,0,qad s0),(1,0,qfz qs),(4,0,qad s'),(5,0,.drow 38 6 (0+1) ([]++qeK rp))]) e tm2 hp2):Rl 2 2 42 0 40 6 (qs9 qs) (qtq d n qs s s0) e tm2 hp2:=
 RunsL.next [(4,7),(5,11)] 300 [.t true,.r (qa5 aq),Cf hd [4],.t true,.r (iV (((0+1:Nat):Int)))]
  (Ro (Ai hlt (Ai hin (Ai (qeq hk) (Co hd [4] 7 (Ai he (Ai hm (Ai hs tI)))))))) r
abbrev qtz (d:Int) (ds:List Dn) (k:Nat) (n:Int) (qs:List AskQ) (s:List Pt) (s0:List Pt):HpL:=[(2,0,.pv (iV n)),(2,1,.pv (iV d)),(2,2,.ls 4 s.length),(3,0,.pv (iV 0)),(3,1,.pv (iV 0)),(3,2,.pv (.slice none 0 0)),(0,0,qad s0),(1,0,qfz qs),(4,0,qad s),(5,0,.drow 38 6 k ds)]
abbrev qwz (k:Nat) (qs:List AskQ):TmL:=[(2,.pp 2 0),(4,.pp 3 0),(6,.ls 5 k),(17,.ls 1 qs.length),(18,.pv (iV (qs.length:Int))),(19,.pv (iV (k:Int)))]
abbrev qxh (k:Nat) (qs:List AskQ):TmL:=[(2,.pp 2 0),(4,.pp 3 0),(6,.ls 5 (k+1:Nat)),(17,.ls 1 qs.length),(18,.pv (iV (qs.length:Int))),(19,.pv (iV ((k+1:Nat):Int)))]
theorem qx1 {n d n' d':Int} {s s' s0:List Pt} {rp:Rep} {qs:List AskQ} {aq:AskQ} {k:Nat} {ds:List Dn} (hlt:decide ((k:Int)<(qs.length:Int))=true) (hin:0≤(k:Int)∧(k:Int)<(qs.length:Int)) (hk:qs[k]?=some aq) (hd:Fn 69 1 [moS 0 s n d,.pv (qa5 aq)] [(0,0,qad s)] (.tu [mo1 1 s' n' d',.ag (qdV rp)]) 1 [(1,0,qad s')]) (he:(rp.e==0)=true) (hm:k+1≤1000000) (hs:iV (IntKind.i64.wrap ((k:Int)+1))=iV (((k+1:Nat):Int))) {e:Exit} {tm2:TmL} {hp2:HpL}
 (r:Rl 2 2 42 0 40 6 (qxh k qs) ([(2,0,.pv (iV n')),(2,1,.pv (iV d')),(2,2,.ls 4 s'.length),(3,0,.pv (iV 0)),(3,1,.pv (iV 0)),(3,2,.pv (.slice none 0 0)),(0,0,qad s0),(1,0,qfz qs),(4,0,qad s'),(5,0,.drow 38 6 (k+1) (ds++qeK rp))]) e tm2 hp2):Rl 2 2 42 0 40 6 (qwz k qs) (qtz d ds k n qs s s0) e tm2 hp2:=
 RunsL.next [(4,7),(5,11)] 300 [.t true,.r (qa5 aq),Cf hd [4],.t true,Re hs]
  (Ro (Ai hlt (Ai hin (Ai (qeq hk) (Co hd [4] 7 (Ai he (Ai hm (Ai hs tI)))))))) r
theorem qwQ {n d n' d':Int} {s s0:List Pt} {rp:Rep} {qs:List AskQ} {aq:AskQ} (hlt:decide (((0:Nat):Int)<(qs.length:Int))=true) (hin:0≤((0:Nat):Int)∧((0:Nat):Int)<(qs.length:Int)) (hk:qs[0]?=some aq) (hd:Fn 69 1 [moS 0 s n d,.pv (qa5 aq)] [(0,0,qad s)] (.tu [mo1 0 s n' d',.ag (qdV rp)]) 0 []) (he:(rp.e==0)=true) (hm:0+1≤1000000) (hs:iV (IntKind.i64.wrap (((0:Nat):Int)+1))=iV (((0+1:Nat):Int))) {e:Exit} {tm2:TmL} {hp2:HpL}
 (r:Rl 2 2 42 0 40 6 (qxn qs) ([(2,0,.pv (iV n')),(2,1,.pv (iV d')),(2,2,.ls 4 s.length),(3,0,.pv (iV 0)),(3,1,.pv (iV 0)),(3,2,.pv (.slice none 0 0)),(0,0,qad s0),(1,0,qfz qs),(4,0,qad s),(5,0,.drow 38 6 (0+1) ([]++qeK rp))]) e tm2 hp2):Rl 2 2 42 0 40 6 (qs9 qs) (qtq d n qs s s0) e tm2 hp2:=
 RunsL.next [(5,10)] 300 [.t true,.r (qa5 aq),Cf hd [4],.t true,.r (iV (((0+1:Nat):Int)))]
  (Ro (Ai hlt (Ai hin (Ai (qeq hk) (Co hd [4] 7 (Ai he (Ai hm (Ai hs tI)))))))) r
theorem qxE {n d n' d':Int} {s s0:List Pt} {rp:Rep} {qs:List AskQ} {aq:AskQ} {k:Nat} {ds:List Dn} (hlt:decide ((k:Int)<(qs.length:Int))=true) (hin:0≤(k:Int)∧(k:Int)<(qs.length:Int)) (hk:qs[k]?=some aq) (hd:Fn 69 1 [moS 0 s n d,.pv (qa5 aq)] [(0,0,qad s)] (.tu [mo1 0 s n' d',.ag (qdV rp)]) 0 []) (he:(rp.e==0)=true) (hm:k+1≤1000000) (hs:iV (IntKind.i64.wrap ((k:Int)+1))=iV (((k+1:Nat):Int))) {e:Exit} {tm2:TmL} {hp2:HpL}
 (r:Rl 2 2 42 0 40 6 (qxh k qs) ([(2,0,.pv (iV n')),(2,1,.pv (iV d')),(2,2,.ls 4 s.length),(3,0,.pv (iV 0)),(3,1,.pv (iV 0)),(3,2,.pv (.slice none 0 0)),(0,0,qad s0),(1,0,qfz qs),(4,0,qad s),(5,0,.drow 38 6 (k+1) (ds++qeK rp))]) e tm2 hp2):Rl 2 2 42 0 40 6 (qwz k qs) (qtz d ds k n qs s s0) e tm2 hp2:=
 RunsL.next [(5,10)] 300 [.t true,.r (qa5 aq),Cf hd [4],.t true,Re hs]
  (Ro (Ai hlt (Ai hin (Ai (qeq hk) (Co hd [4] 7 (Ai he (Ai hm (Ai hs tI)))))))) r
theorem qv0 {n d x y:Int} {s s0:List Pt} {rp:Rep} {qs:List AskQ} {aq:AskQ} (hlt:decide (((0:Nat):Int)<(qs.length:Int))=true) (hin:0≤((0:Nat):Int)∧((0:Nat):Int)<(qs.length:Int)) (hk:qs[0]?=some aq) (hd:Fn 69 1 [moS 0 s n d,.pv (qa5 aq)] [(0,0,qad s)] (.tu [mo1 0 s x y,.ag (qdV rp)]) 0 []) (he:(rp.e==0)=false) (hm:0+1≤1000000) (hs:iV (IntKind.i64.wrap (((0:Nat):Int)+1))=iV (((0+1:Nat):Int))) {e:Exit} {tm2:TmL} {hp2:HpL}
 (r:Rl 2 2 42 0 40 6 (qxn qs) ([(2,0,.pv (iV n)),(2,1,.pv (iV d)),(2,2,.ls 4 s.length),(3,0,.pv (iV 0)),(3,1,.pv (iV 0)),(3,2,.pv (.slice none 0 0)),(0,0,qad s0),(1,0,qfz qs),(4,0,qad s),(5,0,.drow 38 6 (0+1) ([]++qeK rp))]) e tm2 hp2):Rl 2 2 42 0 40 6 (qs9 qs) (qtq d n qs s s0) e tm2 hp2:=
 RunsL.next [(5,10)] 300 [.t true,.r (qa5 aq),Cf hd [4],.t false,.r (iV (((0+1:Nat):Int)))]
  (Ro (Ai hlt (Ai hin (Ai (qeq hk) (Co hd [4] 7 (Ai he (Ai hm (Ai hs tI)))))))) r
theorem qx0 {n d x y:Int} {s s0:List Pt} {rp:Rep} {qs:List AskQ} {aq:AskQ} {k:Nat} {ds:List Dn} (hlt:decide ((k:Int)<(qs.length:Int))=true) (hin:0≤(k:Int)∧(k:Int)<(qs.length:Int)) (hk:qs[k]?=some aq) (hd:Fn 69 1 [moS 0 s n d,.pv (qa5 aq)] [(0,0,qad s)] (.tu [mo1 0 s x y,.ag (qdV rp)]) 0 []) (he:(rp.e==0)=false) (hm:k+1≤1000000) (hs:iV (IntKind.i64.wrap ((k:Int)+1))=iV (((k+1:Nat):Int))) {e:Exit} {tm2:TmL} {hp2:HpL}
 (r:Rl 2 2 42 0 40 6 (qxh k qs) ([(2,0,.pv (iV n)),(2,1,.pv (iV d)),(2,2,.ls 4 s.length),(3,0,.pv (iV 0)),(3,1,.pv (iV 0)),(3,2,.pv (.slice none 0 0)),(0,0,qad s0),(1,0,qfz qs),(4,0,qad s),(5,0,.drow 38 6 (k+1) (ds++qeK rp))]) e tm2 hp2):Rl 2 2 42 0 40 6 (qwz k qs) (qtz d ds k n qs s s0) e tm2 hp2:=
 RunsL.next [(5,10)] 300 [.t true,.r (qa5 aq),Cf hd [4],.t false,Re hs]
  (Ro (Ai hlt (Ai hin (Ai (qeq hk) (Co hd [4] 7 (Ai he (Ai hm (Ai hs tI)))))))) r
theorem qwT {n d x y:Int} {s s0:List Pt} {rp:Rep} {qs:List AskQ} {aq:AskQ} (hlt:decide (((0:Nat):Int)<(qs.length:Int))=true) (hin:0≤((0:Nat):Int)∧((0:Nat):Int)<(qs.length:Int)) (hk:qs[0]?=some aq) (hd:Fn 69 1 [moS 0 s n d,.pv (qa5 aq)] [(0,0,qad s)] (.tu [.one (.pv (.agg #[iV x,iV y,.slice none 0 0])),.ag (qdV rp)]) 0 []) (he:(rp.e==0)=false) (hm:0+1≤1000000) (hs:iV (IntKind.i64.wrap (((0:Nat):Int)+1))=iV (((0+1:Nat):Int))) {e:Exit} {tm2:TmL} {hp2:HpL}
 (r:Rl 2 2 42 0 40 6 (qxn qs) ([(2,0,.pv (iV n)),(2,1,.pv (iV d)),(2,2,.ls 4 s.length),(3,0,.pv (iV 0)),(3,1,.pv (iV 0)),(3,2,.pv (.slice none 0 0)),(0,0,qad s0),(1,0,qfz qs),(4,0,qad s),(5,0,.drow 38 6 (0+1) ([]++qeK rp))]) e tm2 hp2):Rl 2 2 42 0 40 6 (qs9 qs) (qtq d n qs s s0) e tm2 hp2:=
 RunsL.next [(5,10)] 300 [.t true,.r (qa5 aq),Cf hd [4],.t false,.r (iV (((0+1:Nat):Int)))]
  (Ro (Ai hlt (Ai hin (Ai (qeq hk) (Co hd [4] 7 (Ai he (Ai hm (Ai hs tI)))))))) r
theorem qzm {n d x y:Int} {s s0:List Pt} {rp:Rep} {qs:List AskQ} {aq:AskQ} {k:Nat} {ds:List Dn} (hlt:decide ((k:Int)<(qs.length:Int))=true) (hin:0≤(k:Int)∧(k:Int)<(qs.length:Int)) (hk:qs[k]?=some aq) (hd:Fn 69 1 [moS 0 s n d,.pv (qa5 aq)] [(0,0,qad s)] (.tu [.one (.pv (.agg #[iV x,iV y,.slice none 0 0])),.ag (qdV rp)]) 0 []) (he:(rp.e==0)=false) (hm:k+1≤1000000) (hs:iV (IntKind.i64.wrap ((k:Int)+1))=iV (((k+1:Nat):Int))) {e:Exit} {tm2:TmL} {hp2:HpL}
 (r:Rl 2 2 42 0 40 6 (qxh k qs) ([(2,0,.pv (iV n)),(2,1,.pv (iV d)),(2,2,.ls 4 s.length),(3,0,.pv (iV 0)),(3,1,.pv (iV 0)),(3,2,.pv (.slice none 0 0)),(0,0,qad s0),(1,0,qfz qs),(4,0,qad s),(5,0,.drow 38 6 (k+1) (ds++qeK rp))]) e tm2 hp2):Rl 2 2 42 0 40 6 (qwz k qs) (qtz d ds k n qs s s0) e tm2 hp2:=
 RunsL.next [(5,10)] 300 [.t true,.r (qa5 aq),Cf hd [4],.t false,Re hs]
  (Ro (Ai hlt (Ai hin (Ai (qeq hk) (Co hd [4] 7 (Ai he (Ai hm (Ai hs tI)))))))) r
theorem qnb {n d:Int} {s s0:List Pt} {qs:List AskQ} {k:Nat} {ds:List Dn} (hlt:decide ((k:Int)<(qs.length:Int))=false):Rl 2 2 42 0 40 6 (qwz k qs) (qtz d ds k n qs s s0) (.exit 0) ([(2,.pp 2 0),(4,.pp 3 0),(6,.ls 5 k)]) (qtz d ds k n qs s s0):=
 RunsL.stop [] 300 [.t false] (fun h=>by cases h)
  (Ro (Ai hlt tI))
theorem qjw {n d:Int} {s s0:List Pt} {qs:List AskQ} (hlt:decide (((0:Nat):Int)<(qs.length:Int))=false):Rl 2 2 42 0 40 6 (qs9 qs) (qtq d n qs s s0) (.exit 0) ([(2,.pp 2 0),(4,.pp 3 0),(6,.ls 5 0)]) (qtq d n qs s s0):=
 RunsL.stop [] 300 [.t false] (fun h=>by cases h)
  (Ro (Ai hlt tI))
abbrev qzQ (qs:List AskQ) (s0:List Pt) (td:Int) (tn:Int):HpL:=[(2,0,.pv (iV tn)),(2,1,.pv (iV td)),(2,2,.ls 4 s0.length),(3,0,.pv (iV 0)),(3,1,.pv (iV 0)),(3,2,.pv (.slice none 0 0)),(0,0,qad s0),(1,0,qfz qs),(4,0,qad s0),(5,0,.row 38 6 0 [])]
theorem qre {tn td n d:Int} {s s0:List Pt} {qs:List AskQ} {k:Nat} {ds:List Dn} (hc:Fn 68 1 [.ls 0 s0.length] [(0,0,qad s0)] (.ls 1 s0.length) 1 [(1,0,qad s0)]) (r0:Rl 2 2 42 0 40 6 (qs9 qs) (qzQ qs s0 td tn) (.exit 0) ([(2,.pp 2 0),(4,.pp 3 0),(6,.ls 5 k)]) (qtz d ds k n qs s s0)) :
 Fn 42 2 [moS 0 s0 tn td,.ls 1 qs.length] [(0,0,qad s0),(1,0,qfz qs)] (.tu [mo1 2 s n d,.one (.dv 6 k ds)]) 1 [(2,0,qad s)]:=
 Fz [(2,4)] [Cf hc [0],.ln true 6 0 38 6,Lf r0,.fz true 6 0 0 6 ds]
  (qaH (qaG [(2,4)]) [(2,0,qad s)]) (Co hc [0] 4 (Lo r0 [] (Ai (LeD.refl ds) tI)))
theorem qmq {tn td n d:Int} {s s0:List Pt} {qs:List AskQ} (hc:Fn 68 1 [.ls 0 s0.length] [(0,0,qad s0)] (.ls 1 s0.length) 1 [(1,0,qad s0)]) (r0:Rl 2 2 42 0 40 6 (qs9 qs) (qzQ qs s0 td tn) (.exit 0) ([(2,.pp 2 0),(4,.pp 3 0),(6,.ls 5 0)]) (qtq d n qs s s0)) :
 Fn 42 2 [moS 0 s0 tn td,.ls 1 qs.length] [(0,0,qad s0),(1,0,qfz qs)] (.tu [mo1 2 s n d,.one (.dv 6 0 [])]) 1 [(2,0,qad s)]:=
 Fz [(2,4)] [Cf hc [0],.ln true 6 0 38 6,Lf r0,.fz true 6 0 0 6 []]
  (qaH (qaG [(2,4)]) [(2,0,qad s)]) (Co hc [0] 4 (Lo r0 [] (Ai (LeD.refl []) tI)))
end Go.Proofs.YtleaeldgaflmkaaGreat

namespace Go.Proofs.YtleaeldgaflmkaaGreat
set_option maxRecDepth 100000
open Go.RowKit
def qlZ (s:List Pt) (n d:Int):List AskQ→List Rep→Int→Int→List Pt→Prop
 | [],[],n',d',s'=>n'=n∧d'=d∧s'=s
 | a::qs,r::rs,n',d',s'=>∃ n1 d1 s1,Outc s n d a r n1 d1 s1∧qlZ s1 n1 d1 qs rs n' d' s'
 | _,_,_,_,_=>False
def qut (a:AskQ):Prop:=I64 a.qn∧I64 a.qd
abbrev qbJ (rs:List Rep):List Dn:=rs.flatMap qeK
abbrev orT (qs:List AskQ) (k:Nat):List (Nat×SV):=[(2,.pp 2 0),(4,.pp 3 0),(6,.ls 5 k),(17,.ls 1 qs.length),(18,.pv (iV (qs.length:Int))),(19,.pv (iV (k:Int)))]
abbrev orH (s0:List Pt) (qs:List AskQ) (s:List Pt) (n d:Int) (row:SV):List (Nat×Nat×SV):=[(2,0,.pv (iV n)),(2,1,.pv (iV d)),(2,2,.ls 4 s.length),(3,0,.pv (iV 0)),(3,1,.pv (iV 0)),(3,2,.pv (.slice none 0 0)),(0,0,qad s0),(1,0,qfz qs),(4,0,qad s),(5,0,row)]
abbrev orE (k:Nat):List (Nat×SV):=[(2,.pp 2 0),(4,.pp 3 0),(6,.ls 5 k)]
abbrev qrS (k:Nat) (ds:List Dn):SV:=.drow 38 6 k ds
section
variable {s s' s0:List Pt} {n d n' d':Int} {qs:List AskQ} {a:AskQ} {r:Rep} {k:Nat} {ds:List Dn}
theorem qjF (o:Outc s n d a r n' d' s') (hk:qs[k]?=some a) (hl:qs.length≤999999) {e:Exit} {tm2:TmL} {hp2:HpL}
 (rr:Rl 2 2 42 0 40 6 (orT qs (k+1)) (orH s0 qs s' n' d' (qrS (k+1) (ds++qeK r))) e tm2 hp2) :
 Rl 2 2 42 0 40 6 (orT qs k) (orH s0 qs s n d (qrS k ds)) e tm2 hp2:=by
 have hkl:=qaw hk
 rcases o.prg with ⟨he,h⟩ | ⟨he,hs,h⟩ | ⟨he,x,y,h⟩ | ⟨he,x,y,h⟩
 ·exact qx1 (hlt:=dt (by omega)) (hin:=⟨by omega,by omega⟩) (hk:=hk) (hd:=h) (he:=by simp[he]) (hm:=by omega) (hs:=qav (by omega)) rr
 ·subst hs
  exact qxE (hlt:=dt (by omega)) (hin:=⟨by omega,by omega⟩) (hk:=hk) (hd:=h) (he:=by simp[he]) (hm:=by omega) (hs:=qav (by omega)) rr
 ·obtain⟨_,rfl,rfl,rfl⟩:=o.err he
  exact qx0 (hlt:=dt (by omega)) (hin:=⟨by omega,by omega⟩) (hk:=hk) (hd:=h) (he:=by simp[he]) (hm:=by omega) (hs:=qav (by omega)) rr
 ·obtain⟨_,rfl,rfl,rfl⟩:=o.err he
  exact qzm (hlt:=dt (by omega)) (hin:=⟨by omega,by omega⟩) (hk:=hk) (hd:=h) (he:=by simp[he]) (hm:=by omega) (hs:=qav (by omega)) rr
theorem qh0 (o:Outc s n d a r n' d' s') (hk:qs[0]?=some a) (hl:qs.length≤999999) {e:Exit} {tm2:TmL} {hp2:HpL}
 (rr:Rl 2 2 42 0 40 6 (orT qs 1) (orH s0 qs s' n' d' (qrS 1 (qeK r))) e tm2 hp2) :
 Rl 2 2 42 0 40 6 (orT qs 0) (orH s0 qs s n d (.row 38 6 0 [])) e tm2 hp2:=by
 have hkl:=qaw hk
 rcases o.prg with ⟨he,h⟩ | ⟨he,hs,h⟩ | ⟨he,x,y,h⟩ | ⟨he,x,y,h⟩
 ·exact quE (hlt:=dt (by omega)) (hin:=⟨by omega,by omega⟩) (hk:=hk) (hd:=h) (he:=by simp[he]) (hm:=by omega) (hs:=qav (by omega)) rr
 ·subst hs
  exact qwQ (hlt:=dt (by omega)) (hin:=⟨by omega,by omega⟩) (hk:=hk) (hd:=h) (he:=by simp[he]) (hm:=by omega) (hs:=qav (by omega)) rr
 ·obtain⟨_,rfl,rfl,rfl⟩:=o.err he
  exact qv0 (hlt:=dt (by omega)) (hin:=⟨by omega,by omega⟩) (hk:=hk) (hd:=h) (he:=by simp[he]) (hm:=by omega) (hs:=qav (by omega)) rr
 ·obtain⟨_,rfl,rfl,rfl⟩:=o.err he
  exact qwT (hlt:=dt (by omega)) (hin:=⟨by omega,by omega⟩) (hk:=hk) (hd:=h) (he:=by simp[he]) (hm:=by omega) (hs:=qav (by omega)) rr
theorem qi9 (hl:qs.length≤999999):∀ (rest:List AskQ) (k:Nat) (s:List Pt) (n d:Int) (ds:List Dn),qs=qs.take k++rest→k+rest.length=qs.length→Val s→AskT n d→(∀ a∈rest,qut a)→
 ∃ rs n' d' s',qlZ s n d rest rs n' d' s'∧Val s'∧AskT n' d'∧rs.length=rest.length∧
  Rl 2 2 42 0 40 6 (orT qs k) (orH s0 qs s n d (qrS k ds)) (.exit 0) (orE qs.length) (orH s0 qs s' n' d' (qrS qs.length (ds++qbJ rs)))
 | [],k,s,n,d,ds,_,hk,hv,ht,_=>by
  have e:k=qs.length:=by simpa using hk
  refine⟨[],n,d,s,⟨rfl,rfl,rfl⟩,hv,ht,rfl,?_⟩
  rw[show ds++qbJ []=ds from List.append_nil _]
  subst e
  exact qnb (hlt:=df (by omega))
 | a::rest,k,s,n,d,ds,hq,hk,hv,ht,hn=>by
  have hkl:k<qs.length:=by rw[← hk,List.length_cons];omega
  have hka:qs[k]?=some a:=by
   rw[hq,List.getElem?_append_right (by rw[List.length_take];omega),List.length_take,Nat.min_eq_left (by omega),Nat.sub_self]
   rfl
  obtain⟨r,n1,d1,s1,o⟩:=qgr a hv ht (hn a List.mem_cons_self)
  obtain⟨rs,n',d',s',h1,h2,h3,h4,h5⟩:=qi9 hl rest (k+1) s1 n1 d1 (ds++qeK r) (by
   rw[List.take_add_one,hka,List.append_assoc];exact hq) (by rw[← hk,List.length_cons];omega) o.val o.ask fun b hb=>hn b (List.mem_cons_of_mem _ hb)
  refine⟨r::rs,n',d',s',⟨n1,d1,s1,o,h1⟩,h2,h3,by rw[List.length_cons,h4];rfl,qjF o hka hl ?_⟩
  rw[show ds++qbJ (r::rs)=ds++qeK r++qbJ rs by rw[List.append_assoc];rfl]
  exact h5
theorem qr3 (hl:qs.length≤999999) (hv:Val s) (ht:AskT n d) (hn:∀ a∈qs,qut a):∃ rs n' d' s',qlZ s n d qs rs n' d' s'∧Val s'∧AskT n' d'∧rs.length=qs.length∧
 Fn 42 2 [moS 0 s n d,.ls 1 qs.length] [(0,0,qad s),(1,0,qfz qs)] (.tu [mo1 2 s' n' d',.one (.dv 6 qs.length (qbJ rs))]) 1 [(2,0,qad s')]:=by
 have hc:=qhr (l:=s) (by have:=hv.len;omega)
 cases qs with
 | nil=>
  exact⟨[],n,d,s,⟨rfl,rfl,rfl⟩,hv,ht,rfl,qmq (hc:=hc) (r0:=qjw (hlt:=by decide))⟩
 | cons a rest=>
  obtain⟨r,n1,d1,s1,o⟩:=qgr a hv ht (hn a List.mem_cons_self)
  obtain⟨rs,n',d',s',h1,h2,h3,h4,h5⟩:=qi9 (s0:=s) hl rest 1 s1 n1 d1 (qeK r) rfl (by rw[List.length_cons];omega) o.val o.ask fun b hb=>hn b (List.mem_cons_of_mem _ hb)
  exact⟨r::rs,n',d',s',⟨n1,d1,s1,o,h1⟩,h2,h3,by rw[List.length_cons,h4];rfl,qre (hc:=hc) (r0:=qh0 o rfl hl h5)⟩
noncomputable def qrx (s:List Pt) (n d:Int):Int:=open Classical in if qdk n d=0∧qb4 s=0 then 0 else 8
theorem qdJ (hn:I64 n) (hd:I64 d):Fn 14 1 [moS 0 s n d] [(0,0,qad s)] (.pv (iV (qrx s n d))) 0 []∧Fn 25 1 [moS 0 s n d] [(0,0,qad s)] (.pv (iV (qrx s n d))) 0 []:=by
 have c1:Pure Tryz.prog 40 #[qaa n d] (iV (qdk n d)):=fun w=>qb1 n d w hn hd
 have c2:Pure Tryz.prog 31 #[qaa n d] (iV (qdk n d)):=fun w=>qe6 n d w hn hd
 have c3:=qaF s
 have c4:=qbe s
 unfold qrx
 by_cases h1:qdk n d=0
 ·rw[h1] at c1 c2
  by_cases h2:qb4 s=0
  ·rw[h2] at c3 c4
   rw[if_pos ⟨h1,h2⟩]
   exact⟨qyn (ha:=c1) (hc:=c3),qzn (ha:=c2) (hc:=c4)⟩
  ·rw[if_neg fun h=>h2 h.2]
   exact⟨qyE (ha:=c1) (hc:=c3) (he:=by simpa using h2),qxS (ha:=c2) (hc:=c4) (he:=by simpa using h2)⟩
 ·rw[if_neg fun h=>h1 h.1]
  exact⟨qyJ (ha:=c1) (hc:=c3) (he:=by simpa using h1),qx8 (ha:=c2) (he:=by simpa using h1)⟩
theorem qhp (hn:I64 n) (hd:I64 d):qrx s n d=0↔Val s∧AskT n d:=by
 unfold qrx
 split
 ·rename_i h
  exact⟨fun _=>⟨qbd.1 h.2,qbb.1 h.1⟩,fun _=>rfl⟩
 ·rename_i h
  exact⟨fun e=>(by cases e),fun k=>(h ⟨qbb.2 k.2,qbd.2 k.1⟩).elim⟩
end
end Go.Proofs.YtleaeldgaflmkaaGreat

namespace Go.Proofs.YtleaeldgaflmkaaGreat
set_option maxRecDepth 100000
open Go.RowKit
section
variable {s s':List Pt} {n d n' d':Int} {a:AskQ}
theorem qp3 (r:Rep) (h:r.ms.length≤100000):Fn 26 0 [.ag (qdV r),.ag (qdV r)] [] (.pv (.bool true)) 0 []:=qxN (hs:=qrL rfl h)
theorem qpw (h:s.length≤1000000):Fn 24 2 [moS 0 s n d,moS 1 s n d] [(0,0,qad s),(1,0,qad s)] (.pv (.bool true)) 0 []:=qys (hs:=qtn h)
theorem qnp:Pure Tryz.prog 41 #[] (.agg #[.slice none 0 0]):=qac (args:=[]) 200 [] (Ai rfl tI) (by kernel_rfl)
theorem qm5 {f:FuncId} {x v:Value} (h:Pure Tryz.prog f #[x] v):Fn f 0 [.pv x] [] (.pv v) 0 []:=by
 intro w β us hH hd hi
 match us,hi with
 | [y],⟨e,_⟩=>
  have e':y=x:=e
  subst e'
  exact (h w).mono fun e w' ⟨he,hg⟩=>⟨v,β,he,Bl.le_refl β,rfl,hH.gr_mono hg,hd⟩
theorem qdp {f:FuncId} {e:Int} (h:Pure Tryz.prog f #[qaa n d] (.tuple #[.agg #[iV n',iV d',.slice none 0 0],iV e])):Fn f 0 [.pv (qaa n d)] [] (.tu [mo1 0 [] n' d',.one (.pv (iV e))]) 1 [(0,0,qad [])]:=
 qnS (x:=.tu [.one (.pv (.agg #[iV n',iV d',.slice none 0 0])),.one (.pv (iV e))]) 34 3 (qeI (qm5 h) fun β v hv=>⟨[_,_],⟨rfl,rfl,tI⟩,hv⟩)
  (.tu (.cons (.un (vs:=[iV n',iV d',.slice none 0 0]) (.cons (.same _) (.cons (.same _) (.cons .nil .nil)))) (.cons (.one (.same _)) .nil)))
abbrev qAo (f:FuncId) (s:List Pt) (n d:Int) (a:AskQ) (r:Rep) (n' d':Int) (s':List Pt) (e:Int):Prop:=Fn f 1 [moS 0 s n d,.pv (qa5 a)] [(0,0,qad s)] (.tu [mo1 1 s' n' d',.ag (qdV r),.one (.pv (iV e))]) 1 [(1,0,qad s')]
end
end Go.Proofs.YtleaeldgaflmkaaGreat

namespace Go.Proofs.YtleaeldgaflmkaaGreat
set_option maxRecDepth 100000
open Go.RowKit
theorem qnc:∀ {rs:List Rep} {k:Nat} {r:Rep},rs[k]?=some r→qpW (rs.flatMap qeK) (0*6+k*6) (qeK r)
 | [],k,r,h=>by simp at h
 | q::rs,0,r,h=>by
  simp at h;subst h
  intro j d hj
  show (qeK q++rs.flatMap qeK)[0*6+0*6+j]?=some d
  rw[show 0*6+0*6+j=j by omega,List.getElem?_append_left (List.getElem?_eq_some_iff.1 hj).1]
  exact hj
 | q::rs,k+1,r,h=>by
  have ih:=qnc (rs:=rs) (k:=k) (r:=r) (by simpa using h)
  intro j d hj
  have:=ih j d hj
  rw[show 0*6+(k+1)*6+j=(0*6+k*6+j)+1+1+1+1+1+1 by omega]
  exact this
abbrev qxt (rs:List Rep):HpL:=[(0,0,.rrow 38 6 rs.length (qbJ rs)),(1,0,.rrow 38 6 rs.length (qbJ rs))]
theorem qqk {rp:Rep} {rs:List Rep} {k:Nat} (hlt:decide ((k:Int)<(rs.length:Int))=true) (hin:0≤(k:Int)∧(k:Int)<(rs.length:Int)) (hk:rs[k]?=some rp) (hsm:Fn 26 0 [.ag (qdV rp),.ag (qdV rp)] [] (.pv (.bool true)) 0 []) (hs:iV (IntKind.i64.wrap ((k:Int)+1))=iV (((k+1:Nat):Int))) {e:Exit} {tm2:TmL} {hp2:HpL}
 (r:Rl 0 0 28 0 27 2 ([(0,.ls 0 rs.length),(1,.ls 1 rs.length),(5,.pv (iV ((k+1:Nat):Int)))]) (qxt rs) e tm2 hp2):Rl 0 0 28 0 27 2 ([(0,.ls 0 rs.length),(1,.ls 1 rs.length),(5,.pv (iV (k:Int)))]) (qxt rs) e tm2 hp2:=
 RunsL.next [] 300 [.t true,.md,.dr (qdV rp),.dr (qdV rp),Cf hsm [],.k,Re hs]
  (Ro (Ai hlt (Ai hin (Ai (qnc hk) (Ai hin (Ai (qnc hk) (Co hsm [] 2 (Ai hs tI)))))))) r
theorem qtk {rs:List Rep} {k:Nat} (hlt:decide ((k:Int)<(rs.length:Int))=false):Rl 0 0 28 0 27 2 ([(0,.ls 0 rs.length),(1,.ls 1 rs.length),(5,.pv (iV (k:Int)))]) (qxt rs) (.exit 0) ([]) ([]):=
 RunsL.stop [] 300 [.t false] (fun h=>by cases h)
  (Ro (Ai hlt tI))
theorem quc {rs:List Rep} (r0:Rl 0 0 28 0 27 2 ([(0,.ls 0 rs.length),(1,.ls 1 rs.length),(5,.pv (iV ((0:Nat):Int)))]) (qxt rs) (.exit 0) ([]) ([])) :
 Fn 28 0 [.dv 6 rs.length (qbJ rs),.dv 6 rs.length (qbJ rs)] [] (.pv (.bool true)) 0 []:=
 Fz [] [.od true 0 0 0 38 none,.od true 1 0 0 38 none,.t false,Lf r0]
  tI (Ai (qqM (rs.length:Int)) (Lo r0 [] tI))
end Go.Proofs.YtleaeldgaflmkaaGreat

namespace Go.Proofs.YtleaeldgaflmkaaGreat
set_option maxRecDepth 100000
open Go.RowKit
section
variable {s s' s0:List Pt} {n d n' d':Int} {qs:List AskQ} {a:AskQ} {r:Rep} {k:Nat} {ds:List Dn}
theorem qpN {rs:List Rep} (hl:rs.length≤999999) (hf:∀ r∈rs,r.ms.length≤100000):Fn 28 0 [.dv 6 rs.length (qbJ rs),.dv 6 rs.length (qbJ rs)] [] (.pv (.bool true)) 0 []:=by
 refine quc (r0:=RunsL.rounds (fun k=>[(0,.ls 0 rs.length),(1,.ls 1 rs.length),(5,.pv (iV (k:Int)))]) (fun _=>[(0,0,.rrow 38 6 rs.length (qbJ rs)),(1,0,.rrow 38 6 rs.length (qbJ rs))]) rs.length 0 (Nat.zero_add _) (fun k _ hk r=>?_) (qtk (hlt:=df (by omega))))
 obtain⟨m,hm⟩:=qan hk
 exact qqk (hlt:=dt (by omega)) (hin:=qaB hk) (hk:=hm) (hsm:=qp3 m (hf m (List.mem_of_getElem? hm))) (hs:=qav (by omega)) r
abbrev qo1 (f:FuncId) (s:List Pt) (n d:Int) (qs:List AskQ) (k:Nat) (ds:List Dn) (n' d':Int) (s':List Pt) (e:Int):Prop:=Fn f 2 [moS 0 s n d,.ls 1 qs.length] [(0,0,qad s),(1,0,qfz qs)] (.tu [mo1 2 s' n' d',.one (.dv 6 k ds),.one (.pv (iV e))]) 1 [(2,0,qad s')]
theorem qqf {f:FuncId} {e:Int} (h:Fn f 2 [moS 0 s n d,.ls 1 qs.length] [(0,0,qad s),(1,0,qfz qs)] (.pv (.tuple #[.agg #[iV 0,iV 0,.slice none 0 0],.slice none 0 0,iV e])) 0 []):qo1 f s n d qs 0 [] 0 0 [] e:=
 qnS (x:=.tu [.one (.pv (.agg #[iV 0,iV 0,.slice none 0 0])),.one (.dv 6 0 []),.one (.pv (iV e))]) 34 3
  (qeI h fun β v hv=>⟨[_,_,_],⟨rfl,qiA,rfl,tI⟩,hv⟩)
  (.tu (.cons (.un (vs:=[iV 0,iV 0,.slice none 0 0]) (.cons (.same _) (.cons (.same _) (.cons .nil .nil)))) (.cons (.one (.same _)) (.cons (.one (.same _)) .nil))))
end
end Go.Proofs.YtleaeldgaflmkaaGreat

namespace Go.Proofs.YtleaeldgaflmkaaGreat
set_option maxRecDepth 100000
open Go.RowKit
abbrev qiS:List AskQ:=[⟨1,1,0,2,0,0,0⟩,⟨1,2,6,-1,0,0,0⟩,⟨1,5,0,0,0,0,0⟩,⟨5,0,0,0,0,0,0⟩,⟨6,0,0,0,0,0,0⟩,⟨4,0,0,0,0,2,1⟩,⟨5,0,0,0,0,0,0⟩,⟨6,0,0,0,0,0,0⟩,⟨4,0,0,0,0,1,1⟩]
abbrev qht:List Rep:=[⟨0,0,0,0,0,[]⟩,⟨0,0,0,0,0,[]⟩,⟨0,0,0,0,0,[]⟩,⟨0,2,0,6,1,[]⟩,⟨0,1,5,0,1,[]⟩,⟨0,0,0,0,0,[⟨2,1,1,2⟩]⟩,⟨0,1,0,4,1,[]⟩,⟨0,1,2,0,1,[]⟩,⟨44,0,0,0,0,[]⟩]
theorem qfj (n:Int):Pure Tryz.prog 11 #[iV n] (qaa n 1):=qac (args:=[iV n]) 200 [] (Ai rfl tI) (by kernel_rfl)
theorem qiw (i a b:Int):Pure Tryz.prog 16 #[iV i,iV a,iV b] (qa5 ⟨1,i,a,b,0,0,0⟩):=qac (args:=[iV i,iV a,iV b]) 200 [] (Ai rfl tI) (by kernel_rfl)
theorem qfq (n d:Int):Pure Tryz.prog 17 #[qaa n d] (qa5 ⟨4,0,0,0,0,n,d⟩):=qac (args:=[qaa n d]) 200 [] (Ai rfl tI) (by kernel_rfl)
theorem wgi :
 Fn 46 0 [] [] (.ls 0 9) 1 [(0,0,.row 42 7 9 (qc1 qiS))]:=
 Fz [(0,2)] [.md,.r (qa5 ⟨1,1,0,2,0,0,0⟩),.r (qa5 ⟨1,2,6,-1,0,0,0⟩),.r (qa5 ⟨1,5,0,0,0,0,0⟩),.r (qaa 2 1),.r (qa5 ⟨4,0,0,0,0,2,1⟩),.r (qaa 1 1),.r (qa5 ⟨4,0,0,0,0,1,1⟩),.lw]
  (qaH (qaG [(0,2)]) [(0,0,.row 42 7 9 (qc1 qiS))]) (Ai (qiw 1 0 (2)) (Ai (qiw 2 6 (-1)) (Ai (qiw 5 0 (0)) (Ai (qfj 2) (Ai (qfq 2 1) (Ai (qfj 1) (Ai (qfq 1 1) tI)))))))
theorem wal (hn:Fn 10 0 [.pv (qaa 0 1)] [] (.tu [mo1 0 [] 0 1,.one (.pv (iV 0))]) 1 [(0,0,qad [])]) (hr:Fn 13 2 [moS 0 [] 0 1,.ls 1 9] [(0,0,qad []),(1,0,.row 42 7 9 (qc1 qiS))] (.tu [mo1 2 gl 2 1,.one (.dv 6 9 (qbJ qht)),.one (.pv (iV 0))]) 1 [(2,0,qad gl)]) (hs:Fn 28 0 [.dv 6 9 (qbJ qht),.dv 6 9 (qbJ qht)] [] (.pv (.bool true)) 0 []) :
 Fn 19 0 [] [] (.pv (.bool true)) 0 []:=
 Fz [] [.r (qaa 0 1),Cf hn [],.md,.f [] [] [] (.ls 0 9) 1 [(0,0,.row 42 7 9 (qc1 qiS))],Cf hr [0,2],.r (qaa 0 1),.md,.r (qaa 6 1),.r (qaa 2 1),.lw,.r (qaa 4 1),.fz false 7 5 0 4 [],.fz false 7 11 0 4 [],.fz false 7 17 0 4 [],.fz false 7 23 0 4 [],.fz false 7 29 0 4 [],.fz false 7 35 0 4 ((msV [⟨2,1,1,2⟩]).map .v),.fz false 7 41 0 4 [],.fz false 7 47 0 4 [],.fz false 7 53 0 4 [],.fz true 7 0 0 6 (qbJ qht),.md,.k,.k,Cf hs [],.r (qaa 2 1),.k,.k]
  tI (Ai (qfj 0) (Co hn [] 0 (Ai wgi (Ai (Eq.refl (List.map (SV.ren (qaY [] 2)) [])) (Ai (Cp hn [] 2) (Co hr [0,2] 3 (Ai (qfj 0) (Ai (qfj 6) (Ai (qfj 2) (Ai (qfj 4) (Ai (Eq.refl ([]:List Dn)) (Ai (Eq.refl ([]:List Dn)) (Ai (Eq.refl ([]:List Dn)) (Ai (Eq.refl ([]:List Dn)) (Ai (Eq.refl ([]:List Dn)) (Ai (LeD.refl ((msV [⟨2,1,1,2⟩]).map Dn.v)) (Ai (Eq.refl ([]:List Dn)) (Ai (Eq.refl ([]:List Dn)) (Ai (Eq.refl ([]:List Dn)) (Ai (LeD.refl (qbJ qht)) (Co hs [] 8 (Ai (qfj 2) tI))))))))))))))))))))))
end Go.Proofs.YtleaeldgaflmkaaGreat

namespace Go.Proofs.YtleaeldgaflmkaaGreat
set_option maxRecDepth 100000
open Go.RowKit
theorem qsr:qjx gl 0 1 2 1=[⟨2,1,1,2⟩]:=by
 unfold qjx srt
 rw[qyI]
 rfl
theorem gT0:AskT 0 1:=⟨by decide,by decide,by decide,by decide⟩
theorem gT2:AskT 2 1:=⟨by decide,by decide,by decide,by decide⟩
theorem gT1:AskT 1 1:=⟨by decide,by decide,by decide,by decide⟩
section
variable {r:Rep} {n d n' d':Int} {s s':List Pt}
theorem qs0 {i a b:Int} (o:Outc s n d ⟨1,i,a,b,0,0,0⟩ r n' d' s') (h:okP i a b=true) (hs:∀ p∈s,p.id≠i) (hl:s.length<64):r=qiO 0∧n'=n∧d'=d∧s'=quk ⟨i,a,b⟩ s:=o.k1 rfl rfl h hs hl
theorem qq9 {p:Pt} {N D:Int} (o:Outc gl n d ⟨5,0,0,0,0,0,0⟩ r n' d' s') (hp:p∈gl) (h:∀ q∈gl,ld n d q p=false) (hk:okB N D=true) (he:plS p n d*D=N*d) (d1:1≤d) (hD:D≠0):r=⟨0,p.id,0,N,D,[]⟩:=by
 have hl:=qwu qwr hp h
 rcases o.k5 rfl rfl with ⟨h0,_⟩ | ⟨_,N',D',e,k1,_,_,k4⟩
 ·cases h0
 ·rw[hl] at e k4
  obtain⟨rfl,rfl⟩:=qda k1 hk (by
   have:N'*D*d=N*D'*d:=by rw[Int.mul_right_comm,k4,Int.mul_right_comm,he,Int.mul_right_comm]
   exact Int.eq_of_mul_eq_mul_right (by omega) this)
  exact e
theorem qlC {x:Nat×Nat} {N D:Int} (o:Outc gl n d ⟨6,0,0,0,0,0,0⟩ r n' d' s') (hx:qbC gl n d=x) (hk:DisI gl n d x N D) (d1:1≤d):r=⟨0,(ptK gl x.1).id,(ptK gl x.2).id,N,D,[]⟩:=by
 rcases o.k6 rfl rfl with ⟨h0,_⟩ | ⟨_,N',D',e,k⟩
 ·exact absurd h0 (by decide)
 ·rw[hx] at e k
  obtain⟨rfl,rfl⟩:=DisI.uniq d1 k hk
  exact e
theorem qjP {a:AskQ} (o:Outc s n d a r n' d' s') (h:a.kd=5∨a.kd=6):n'=n∧d'=d∧s'=s:=o.keep h
end
theorem qbj {a:AskQ} {qs:List AskQ} {rs:List Rep} {s:List Pt} {n d n' d':Int} {s':List Pt} (h:qlZ s n d (a::qs) rs n' d' s'):∃ r t n1 d1 s1,rs=r::t∧Outc s n d a r n1 d1 s1∧qlZ s1 n1 d1 qs t n' d' s':=by
 cases rs with
 | nil=>exact h.elim
 | cons r t=>
  obtain⟨n1,d1,s1,o,k⟩:=h
  exact⟨r,t,n1,d1,s1,rfl,o,k⟩
theorem qqd {rs:List Rep} {s:List Pt} {n d n' d':Int} {s':List Pt} (h:qlZ s n d [] rs n' d' s'):rs=[]∧n'=n∧d'=d∧s'=s:=by
 cases rs with
 | nil=>exact⟨rfl,h⟩
 | cons r t=>exact h.elim
theorem qkO {rs:List Rep} {n' d':Int} {s':List Pt} (h:qlZ [] 0 1 qiS rs n' d' s'):rs=qht∧n'=2∧d'=1∧s'=gl:=by
 obtain⟨r1,t1,_,_,_,rfl,o1,q1⟩:=qbj h
 obtain⟨rfl,rfl,rfl,rfl⟩:=qs0 o1 (by decide) (by decide) (by decide)
 obtain⟨r2,t2,_,_,_,rfl,o2,q2⟩:=qbj q1
 obtain⟨rfl,rfl,rfl,rfl⟩:=qs0 o2 (by decide) (by decide) (by decide)
 obtain⟨r3,t3,_,_,_,rfl,o3,q3⟩:=qbj q2
 obtain⟨rfl,rfl,rfl,rfl⟩:=qs0 o3 (by decide) (by decide) (by decide)
 obtain⟨r4,t4,_,_,_,rfl,o4,q4⟩:=qbj q3
 have o4':Outc gl 0 1 _ r4 _ _ _:=o4
 obtain⟨rfl,rfl,rfl⟩:=qjP o4' (Or.inl rfl)
 obtain rfl:=qq9 (p:=⟨2,6,-1⟩) (N:=6) (D:=1) o4' (by simp) (by decide) (by decide) (by decide) (by decide) (by decide)
 obtain⟨r5,t5,_,_,_,rfl,o5,q5⟩:=qbj q4
 have o5':Outc gl 0 1 _ r5 _ _ _:=o5
 obtain⟨rfl,rfl,rfl⟩:=qjP o5' (Or.inr rfl)
 obtain rfl:=qlC (x:=(0,2)) (N:=0) (D:=1) o5' (by decide) ⟨by decide,by decide,by decide,by decide⟩ (by decide)
 obtain⟨r6,t6,_,_,_,rfl,o6,q6⟩:=qbj q5
 have o6':Outc gl 0 1 _ r6 _ _ _:=o6
 obtain⟨rfl,rfl,rfl,rfl⟩:=o6'.k4 rfl rfl gT2 (by decide)
 obtain⟨r7,t7,_,_,_,rfl,o7,q7⟩:=qbj q6
 have o7':Outc gl 2 1 _ r7 _ _ _:=o7
 obtain⟨rfl,rfl,rfl⟩:=qjP o7' (Or.inl rfl)
 obtain rfl:=qq9 (p:=⟨1,0,2⟩) (N:=4) (D:=1) o7' (by simp) (by decide) (by decide) (by decide) (by decide) (by decide)
 obtain⟨r8,t8,_,_,_,rfl,o8,q8⟩:=qbj q7
 have o8':Outc gl 2 1 _ r8 _ _ _:=o8
 obtain⟨rfl,rfl,rfl⟩:=qjP o8' (Or.inr rfl)
 obtain rfl:=qlC (x:=(0,1)) (N:=0) (D:=1) o8' (by decide) ⟨by decide,by decide,by decide,by decide⟩ (by decide)
 obtain⟨r9,t9,_,_,_,rfl,o9,q9⟩:=qbj q8
 have o9':Outc gl 2 1 _ r9 _ _ _:=o9
 obtain⟨rfl,e1,e2,e3⟩:=qqd q9
 have g9:r9.e=44:=by
  rw[o9'.ee,qdz (by rfl),if_neg (fun q=>q (qbb.2 gT1)),if_neg (by decide)]
 obtain⟨f1,f2,f3,f4⟩:=o9'.err (by rw[g9];decide)
 rw[g9] at f1
 subst f1 e1 e2 e3 f2 f3 f4
 refine⟨?_,rfl,rfl,rfl⟩
 rw[show qjx _ _ _ _ _=_ from qsr]
 rfl
theorem qtx:Fn 19 0 [] [] (.pv (.bool true)) 0 []:=by
 have v0:Val []:=⟨by decide,fun p hp=>(by cases hp),fun k p q h=>(by simp at h)⟩
 obtain⟨c1,_⟩:=qdJ (s:=[]) (n:=0) (d:=1) (by decide) (by decide)
 rw[(qhp (by decide) (by decide)).2 ⟨v0,gT0⟩] at c1
 obtain⟨rs,n',d',s',h1,h2,h3,h4,h5⟩:=qr3 (s:=[]) (n:=0) (d:=1) (qs:=qiS) (by decide) v0 gT0 (by unfold qut;decide)
 obtain⟨rfl,rfl,rfl,rfl⟩:=qkO h1
 have hn:=qdp (n:=0) (d:=1) (qwG (ha:=fun w=>by have:=qb1 0 1 w (by decide) (by decide);rwa [qbb.2 gT0] at this) (hn:=qnp))
 exact wal (hn:=hn) (hr:=qwU (k:=9) (ds:=qbJ qht) (qs:=qiS) (hc:=c1) (hl:=by decide) (hr:=h5)) (hs:=qpN (rs:=qht) (by decide) (by decide))
end Go.Proofs.YtleaeldgaflmkaaGreat

namespace Go.Proofs.YtleaeldgaflmkaaGreat
set_option maxRecDepth 100000
open Go.RowKit
section
variable {s s' s0:List Pt} {n d n' d':Int} {qs:List AskQ}
theorem qhB (hl:qs.length≤999999):∀ (rest:List AskQ) (rs:List Rep) (k:Nat) (s:List Pt) (n d:Int) (ds:List Dn) (n' d':Int) (s':List Pt),qs=qs.take k++rest→k+rest.length=qs.length→qlZ s n d rest rs n' d' s'→
 Rl 2 2 42 0 40 6 (orT qs k) (orH s0 qs s n d (qrS k ds)) (.exit 0) (orE qs.length) (orH s0 qs s' n' d' (qrS qs.length (ds++qbJ rs)))
 | [],[],k,s,n,d,ds,n',d',s',_,hk,⟨e1,e2,e3⟩=>by
  have e:k=qs.length:=by simpa using hk
  rw[show ds++qbJ []=ds from List.append_nil _]
  subst e e1 e2 e3
  exact qnb (hlt:=df (by omega))
 | [],_::_,_,_,_,_,_,_,_,_,_,_,h=>h.elim
 | _::_,[],_,_,_,_,_,_,_,_,_,_,h=>h.elim
 | a::rest,r::rs,k,s,n,d,ds,n',d',s',hq,hk,⟨n1,d1,s1,o,h⟩=>by
  have hkl:k<qs.length:=by rw[← hk,List.length_cons];omega
  have hka:qs[k]?=some a:=by
   rw[hq,List.getElem?_append_right (by rw[List.length_take];omega),List.length_take,Nat.min_eq_left (by omega),Nat.sub_self]
   rfl
  have ih:=qhB hl rest rs (k+1) s1 n1 d1 (ds++qeK r) n' d' s' (by rw[List.take_add_one,hka,List.append_assoc];exact hq) (by rw[← hk,List.length_cons];omega) h
  rw[show ds++qbJ (r::rs)=ds++qeK r++qbJ rs by rw[List.append_assoc];rfl]
  exact qjF o hka hl ih
theorem qq4 {rs:List Rep} (hl:qs.length≤999999) (hv:Val s) (ho:qlZ s n d qs rs n' d' s') :
 Fn 42 2 [moS 0 s n d,.ls 1 qs.length] [(0,0,qad s),(1,0,qfz qs)] (.tu [mo1 2 s' n' d',.one (.dv 6 qs.length (qbJ rs))]) 1 [(2,0,qad s')]:=by
 have hc:=qhr (l:=s) (by have:=hv.len;omega)
 match qs,rs,ho with
 | [],[],⟨e1,e2,e3⟩=>subst e1 e2 e3;exact qmq (hc:=hc) (r0:=qjw (hlt:=by decide))
 | [],_::_,h=>exact h.elim
 | _::_,[],h=>exact h.elim
 | a::rest,r::rs,⟨n1,d1,s1,o,h⟩=>
  have ih:=qhB (s0:=s) (qs:=a::rest) hl rest rs 1 s1 n1 d1 (qeK r) n' d' s' rfl (by rw[List.length_cons];omega) h
  exact qre (hc:=hc) (r0:=qh0 o rfl hl ih)
theorem qv4 {rs:List Rep} (hl:qs.length≤120) (hv:Val s) (ht:AskT n d) (ho:qlZ s n d qs rs n' d' s'):qo1 13 s n d qs qs.length (qbJ rs) n' d' s' 0:=by
 obtain⟨i1,i2,_⟩:=ht.in
 obtain⟨c1,_⟩:=qdJ (s:=s) i1 i2
 rw[(qhp i1 i2).2 ⟨hv,ht⟩] at c1
 exact qwU (hc:=c1) (hl:=df (by omega)) (hr:=qq4 (by omega) hv ho)
theorem qx5 {a:AskQ} {r:Rep} (hv:Val s) (ht:AskT n d) (o:Outc s n d a r n' d' s'):qAo 12 s n d a r n' d' s' 0:=by
 obtain⟨i1,i2,_⟩:=ht.in
 obtain⟨c1,_⟩:=qdJ (s:=s) i1 i2
 rw[(qhp i1 i2).2 ⟨hv,ht⟩] at c1
 exact qxJ (hc:=c1) (hr:=qq4 (qs:=[a]) (rs:=[r]) (by show 1≤999999;decide) hv ⟨n',d',s',o,rfl,rfl,rfl⟩) (h0:=by decide)
end
end Go.Proofs.YtleaeldgaflmkaaGreat

namespace Go.Proofs.YtleaeldgaflmkaaGreat
set_option maxRecDepth 100000
open Go.RowKit
theorem qso :
 Fn 34 1 [.ls 0 0,.pv (.slice none 0 0)] [(0,0,.row 95 4 0 [])] (.pv (.bool true)) 0 []:=
 Fz [] [.k,.k]
  tI tI
theorem qzE {e1:Int} :
 Fn 26 0 [.ag (qdV (qiO e1)),.pv (.agg #[iV e1,iV 0,iV 0,iV 0,iV 0,.slice none 0 0])] [] (.pv (.bool true)) 0 []:=
 Fz [] [.od true 0 0 5 95 (some []),.t true,.k,.k,.k,.fq [0] [.ls 0 0,.pv (.slice none 0 0)] [(0,0,.row 95 4 0 [])] (.pv (.bool true)) 0 []]
  tI (Ai (Eq.refl ([]:List Dn)) (Ai (qgo e1) (Ai qso (Ai (Eq.refl (List.map (SV.ren (qaY [0] 3)) [.ls 0 0,.pv (.slice none 0 0)])) (Ai (Ai (qrT 95 95 4 0 []) tI) tI)))))
end Go.Proofs.YtleaeldgaflmkaaGreat

namespace Go.Proofs.YtleaeldgaflmkaaGreat
set_option maxRecDepth 100000
open Go.RowKit
section
variable {s m:List Pt} {n d zi:Int} {qs:List AskQ}
theorem qtB {f:FuncId} {q:List AskQ} {c c2:Nat} {xs:List Value} {ds:List Dn} {n' d' e:Int} {s':List Pt} (hc:q.length=c) (hc2:q.length=c2) (hx:qc1 q=xs) (h:qo1 f s n d q q.length ds n' d' s' e) :
 Fn f 2 [moS 0 s n d,.ls 1 c] [(0,0,qad s),(1,0,.row 42 7 c xs)] (.tu [mo1 2 s' n' d',.one (.dv 6 c2 ds),.one (.pv (iV e))]) 1 [(2,0,qad s')]:=by
 subst hx hc
 rw[← hc2]
 exact h
end
end Go.Proofs.YtleaeldgaflmkaaGreat

namespace Go.Proofs.YtleaeldgaflmkaaGreat
set_option maxRecDepth 100000
open Go.RowKit
abbrev qwM:List Dn:=[.v (iV 0),.v (iV 0),.sl 3 0 [],.v (iV 1073741825),.v (iV 1),.sl 3 0 [],.v (iV 0),.v (iV 1),.sl 3 1 ((qay [⟨-1,0,0⟩]).map .v)]
theorem qyr {ds:List Dn} {q:Nat} {a b c:Dn} (h0:ds[q]?=some a) (h1:ds[q+1]?=some b) (h2:ds[q+2]?=some c):qpW ds q [a,b,c]:=fun j d hj=>by
 match j,hj with
 | 0,hj=>cases hj;exact h0
 | 1,hj=>cases hj;exact h1
 | 2,hj=>cases hj;exact h2
 | j+3,hj=>simp at hj
theorem qy7:qpW qwM (0*3+0*3) [.v (iV 0),.v (iV 0),.sl 3 0 []]:=qyr rfl rfl rfl
theorem qyN:qpW qwM (0*3+1*3) [.v (iV 1073741825),.v (iV 1),.sl 3 0 []]:=qyr rfl rfl rfl
theorem qy2:qpW qwM (0*3+2*3) [.v (iV 0),.v (iV 1),.sl 3 1 ((qay [⟨-1,0,0⟩]).map .v)]:=qyr rfl rfl rfl
def qfE:Nat→List Pt
 | 0=>[]
 | k+1=>qfE k++[⟨k,0,0⟩]
abbrev qhh:List Pt:=qfE 64
abbrev nfT (k:Nat):List (Nat×SV):=[(2,.pv (iV 8)),(4,.pv (iV 2)),(6,.pv (iV 2)),(8,.pv (iV 0)),(7,.pp 7 0),(17,.pp 24 0),(18,.pp 25 0),(19,.pv (iV (k:Int)))]
abbrev nfE:List (Nat×SV):=[(2,.pv (iV 8)),(4,.pv (iV 2)),(6,.pv (iV 2)),(8,.pv (iV 0)),(7,.pp 7 0),(17,.pp 24 0),(18,.pp 25 0)]
abbrev nfH (k:Nat) (xs:List Value):List (Nat×Nat×SV):=[(7,0,.pv (iV 1073741824)),(7,1,.pv (iV 1)),(7,2,.ls 6 0),(6,0,.row 34 3 0 []),(24,0,.pv (iV 3)),(24,1,.pv (iV 1)),(24,2,.ls 23 2),(23,0,.row 34 3 2 (qay [⟨4,1,0⟩,⟨9,1,0⟩])),(25,0,.pv (iV 3)),(25,1,.pv (iV 1)),(25,2,.ls 26 k),(26,0,.row 34 3 k xs)]
theorem qxZ {tn td e1:Int} {s:List Pt} {aq:AskQ} (hd:Fn 12 1 [moS 0 s tn td,.pv (qa5 aq)] [(0,0,qad s)] (.tu [mo1 1 s tn td,.ag (qdV (qiO e1)),.one (.pv (iV 0))]) 1 [(1,0,qad s)]) (hsd:Fn 24 2 [moS 0 s tn td,moS 1 s tn td] [(0,0,qad s),(1,0,qad s)] (.pv (.bool true)) 0 []) :
 Fn 15 1 [moS 0 s tn td,.pv (qa5 aq),.pv (iV e1)] [(0,0,qad s)] (.pv (.bool true)) 0 []:=
 Fz [] [Cf hd [0],.k,.f [] [.ag (qdV (qiO e1)),.pv (.agg #[iV e1,iV 0,iV 0,iV 0,iV 0,.slice none 0 0])] [] (.pv (.bool true)) 0 [],Cf hsd [3,0]]
  tI (Co hd [0] 3 (Ai (qzE (e1:=e1)) (Ai (Eq.refl (List.map (SV.ren (qaY [] 6)) [.ag (qdV (qiO e1)),.pv (.agg #[iV e1,iV 0,iV 0,iV 0,iV 0,.slice none 0 0])])) (Ai (qaH (qaY [] 6) []) (Co hsd [3,0] 6 tI)))))
theorem qwK {tn td e1 e2:Int} {s:List Pt} (ha:Pure Tryz.prog 40 #[qaa tn td] (iV (e1))) (hc:Fn 44 1 [qaq 0 s] [(0,0,qad s)] (.pv (iV (e2))) 0 []) (he:(e1 !=0)=true) :
 Fn 14 0 [.ag [.pv (iV tn),.pv (iV td),.dv 3 s.length ((qay s).map .v)]] [] (.pv (iV (8))) 0 []:=
 Fz [] [.od true 0 0 2 34 (some (qay s)),.md,Rf ha,.fq [0] [qaq 0 s] [(0,0,qad s)] (.pv (iV (e2))) 0 [],.k,.k,.t true,.t true]
  tI (Ai (Eq.refl ((qay s).map Dn.v)) (Ai ha (Ai hc (Ai (Ca hc [0] 2) (Ai (Ai (qrT 34 34 3 s.length (qay s)) tI) (Ai he (Ai he tI)))))))
theorem qzh {tn td e2:Int} {s:List Pt} (ha:Pure Tryz.prog 40 #[qaa tn td] (iV (0))) (hc:Fn 44 1 [qaq 0 s] [(0,0,qad s)] (.pv (iV (e2))) 0 []) (he:(e2 !=0)=true) :
 Fn 14 0 [.ag [.pv (iV tn),.pv (iV td),.dv 3 s.length ((qay s).map .v)]] [] (.pv (iV (8))) 0 []:=
 Fz [] [.od true 0 0 2 34 (some (qay s)),.md,Rf ha,.fq [0] [qaq 0 s] [(0,0,qad s)] (.pv (iV (e2))) 0 [],.k,.k,.k,.k,.k,.t true,.t true]
  tI (Ai (Eq.refl ((qay s).map Dn.v)) (Ai ha (Ai hc (Ai (Ca hc [0] 2) (Ai (Ai (qrT 34 34 3 s.length (qay s)) tI) (Ai he (Ai he tI)))))))
theorem qsX {tn td e1:Int} {s:List Pt} {aq:AskQ} (hc:Fn 14 1 [moS 0 s tn td] [(0,0,qad s)] (.pv (iV (e1))) 0 []) (he:(e1 !=0)=true) :
 Fn 12 0 [.ag [.pv (iV tn),.pv (iV td),.dv 3 s.length ((qay s).map .v)],.pv (qa5 aq)] [] (.pv (.tuple #[.agg #[iV 0,iV 0,.slice none 0 0],.agg #[iV 0,iV 0,iV 0,iV 0,iV 0,.slice none 0 0],iV e1])) 0 []:=
 Fz [] [.od true 0 0 2 34 (some (qay s)),.fq [0] [moS 0 s tn td] [(0,0,qad s)] (.pv (iV (e1))) 0 [],.t true]
  tI (Ai (Eq.refl ((qay s).map Dn.v)) (Ai hc (Ai (Ca hc [0] 5) (Ai (Ai (qrT 34 34 3 s.length (qay s)) tI) (Ai he tI)))))
theorem qs7 {tn td e1:Int} {s:List Pt} {c:Nat} {xs:List Value} {c:Nat} (hc:Fn 14 1 [moS 0 s tn td] [(0,0,qad s)] (.pv (iV (e1))) 0 []) (he:(e1 !=0)=true) :
 Fn 13 1 [.ag [.pv (iV tn),.pv (iV td),.dv 3 s.length ((qay s).map .v)],.ls 0 c] [(0,0,.row 42 7 c xs)] (.pv (.tuple #[.agg #[iV 0,iV 0,.slice none 0 0],.slice none 0 0,iV e1])) 0 []:=
 Fz [] [.od true 0 0 2 34 (some (qay s)),.fq [1] [moS 0 s tn td] [(0,0,qad s)] (.pv (iV (e1))) 0 [],.t true]
  tI (Ai (Eq.refl ((qay s).map Dn.v)) (Ai hc (Ai (Ca hc [1] 4) (Ai (Ai (qrT 34 34 3 s.length (qay s)) tI) (Ai he tI)))))
abbrev qxP (k:Nat) (xs:List Value):HpL:=[(7,0,.pv (iV 1073741824)),(7,1,.pv (iV 1)),(7,2,.ls 6 0),(6,0,.row 34 3 0 []),(24,0,.pv (iV 3)),(24,1,.pv (iV 1)),(24,2,.ls 23 2),(23,0,.row 34 3 2 (qay [⟨4,1,0⟩,⟨9,1,0⟩])),(25,0,.pv (iV 3)),(25,1,.pv (iV 1)),(25,2,.ls 26 k),(26,0,.row 34 3 k xs)]
abbrev qz3 (k:Nat):TmL:=[(2,.pv (iV 8)),(4,.pv (iV 2)),(6,.pv (iV 2)),(8,.pv (iV 0)),(7,.pp 7 0),(17,.pp 24 0),(18,.pp 25 0),(19,.pv (iV (k:Int)))]
theorem qqG {k:Nat} {xs:List Value} (hlt:decide ((k:Int)<64)=true) (hm:k+1≤1000000) (hs:iV (IntKind.i64.wrap ((k:Int)+1))=iV (((k+1:Nat):Int))) {e:Exit} {tm2:TmL} {hp2:HpL}
 (r:Rl 0 0 3 1 368 27 ([(2,.pv (iV 8)),(4,.pv (iV 2)),(6,.pv (iV 2)),(8,.pv (iV 0)),(7,.pp 7 0),(17,.pp 24 0),(18,.pp 25 0),(19,.pv (iV ((k+1:Nat):Int)))]) ([(7,0,.pv (iV 1073741824)),(7,1,.pv (iV 1)),(7,2,.ls 6 0),(6,0,.row 34 3 0 []),(24,0,.pv (iV 3)),(24,1,.pv (iV 1)),(24,2,.ls 23 2),(23,0,.row 34 3 2 (qay [⟨4,1,0⟩,⟨9,1,0⟩])),(25,0,.pv (iV 3)),(25,1,.pv (iV 1)),(25,2,.ls 26 (k+1)),(26,0,.row 34 3 (k+1) (xs++[iV (k:Int),iV 0,iV 0]))]) e tm2 hp2):Rl 0 0 3 1 368 27 (qz3 k) (qxP k xs) e tm2 hp2:=
 RunsL.next [(26,28)] 300 [.t true,Re hs]
  (Ro (Ai hlt (Ai hm (Ai hs tI)))) r
abbrev qzV:TmL:=[(2,.pv (iV 8)),(4,.pv (iV 2)),(6,.pv (iV 2)),(8,.pv (iV 0)),(7,.pp 7 0),(17,.pp 24 0),(18,.pp 25 0)]
theorem qtu {k:Nat} {xs:List Value} (hlt:decide ((k:Int)<64)=false):Rl 0 0 3 1 368 27 (qz3 k) (qxP k xs) (.exit 2) (qzV) (qxP k xs):=
 RunsL.stop [] 300 [.t false] (fun h=>by cases h)
  (Ro (Ai hlt tI))
abbrev qy6:HpL:=[(0,0,.row 42 7 121 (qcZ [.int .u8 0,iV 0,iV 0,iV 0,iV 0,iV 0,iV 0] 121))]
theorem wnm {dz:List Dn} (hn1:Fn 10 0 [.pv (qaa (0) (0))] [] (.tu [mo1 0 [] (0) (0),.one (.pv (iV 8))]) 1 [(0,0,qad [])]) (hn2:Fn 10 0 [.pv (qaa (1) (1025))] [] (.tu [mo1 0 [] (0) (0),.one (.pv (iV 2))]) 1 [(0,0,qad [])]) (hn3:Fn 10 0 [.pv (qaa (1073741825) (1))] [] (.tu [mo1 0 [] (0) (0),.one (.pv (iV 2))]) 1 [(0,0,qad [])]) (hn4:Fn 10 0 [.pv (qaa (1073741824) (1))] [] (.tu [mo1 0 [] (1073741824) (1),.one (.pv (iV 0))]) 1 [(0,0,qad [])]) (hdo0:Fn 12 0 [.ag [.pv (iV 0),.pv (iV 0),.dv 3 ([]:List Pt).length ((qay []).map .v)],.pv (qa5 ⟨0,0,0,0,0,0,0⟩)] [] (.pv (.tuple #[.agg #[iV 0,iV 0,.slice none 0 0],.agg #[iV 0,iV 0,iV 0,iV 0,iV 0,.slice none 0 0],iV 8])) 0 []) (hru0:Fn 13 1 [.ag [.pv (iV 0),.pv (iV 0),.dv 3 ([]:List Pt).length ((qay []).map .v)],.ls 0 121] qy6 (.pv (.tuple #[.agg #[iV 0,iV 0,.slice none 0 0],.slice none 0 0,iV 8])) 0 []) (hck0:Fn 14 0 [.ag [.pv (iV 0),.pv (iV 0),.dv 3 ([]:List Pt).length ((qay []).map .v)]] [] (.pv (iV (8))) 0 []) (hdo1:Fn 12 0 [.ag [.pv (iV 1073741825),.pv (iV 1),.dv 3 ([]:List Pt).length ((qay []).map .v)],.pv (qa5 ⟨0,0,0,0,0,0,0⟩)] [] (.pv (.tuple #[.agg #[iV 0,iV 0,.slice none 0 0],.agg #[iV 0,iV 0,iV 0,iV 0,iV 0,.slice none 0 0],iV 8])) 0 []) (hru1:Fn 13 1 [.ag [.pv (iV 1073741825),.pv (iV 1),.dv 3 ([]:List Pt).length ((qay []).map .v)],.ls 0 121] qy6 (.pv (.tuple #[.agg #[iV 0,iV 0,.slice none 0 0],.slice none 0 0,iV 8])) 0 []) (hck1:Fn 14 0 [.ag [.pv (iV 1073741825),.pv (iV 1),.dv 3 ([]:List Pt).length ((qay []).map .v)]] [] (.pv (iV (8))) 0 []) (hdo2:Fn 12 0 [.ag [.pv (iV 0),.pv (iV 1),.dv 3 ([⟨-1,0,0⟩]:List Pt).length ((qay [⟨-1,0,0⟩]).map .v)],.pv (qa5 ⟨0,0,0,0,0,0,0⟩)] [] (.pv (.tuple #[.agg #[iV 0,iV 0,.slice none 0 0],.agg #[iV 0,iV 0,iV 0,iV 0,iV 0,.slice none 0 0],iV 8])) 0 []) (hru2:Fn 13 1 [.ag [.pv (iV 0),.pv (iV 1),.dv 3 ([⟨-1,0,0⟩]:List Pt).length ((qay [⟨-1,0,0⟩]).map .v)],.ls 0 121] qy6 (.pv (.tuple #[.agg #[iV 0,iV 0,.slice none 0 0],.slice none 0 0,iV 8])) 0 []) (hck2:Fn 14 0 [.ag [.pv (iV 0),.pv (iV 1),.dv 3 ([⟨-1,0,0⟩]:List Pt).length ((qay [⟨-1,0,0⟩]).map .v)]] [] (.pv (iV (8))) 0 []) (r0:Rl 0 0 3 1 368 27 ([(2,.pv (iV 8)),(4,.pv (iV 2)),(6,.pv (iV 2)),(8,.pv (iV 0)),(7,.pp 7 0),(17,.pp 24 0),(18,.pp 25 0),(19,.pv (iV ((0:Nat):Int)))]) ([(7,0,.pv (iV 1073741824)),(7,1,.pv (iV 1)),(7,2,.ls 6 0),(6,0,.row 34 3 0 []),(24,0,.pv (iV 3)),(24,1,.pv (iV 1)),(24,2,.ls 23 2),(23,0,.row 34 3 2 (qay [⟨4,1,0⟩,⟨9,1,0⟩])),(25,0,.pv (iV 3)),(25,1,.pv (iV 1)),(25,2,.ls 26 0),(26,0,.row 34 3 0 [])]) (.exit 2) (qzV) ([(7,0,.pv (iV 1073741824)),(7,1,.pv (iV 1)),(7,2,.ls 6 0),(6,0,.row 34 3 0 []),(24,0,.pv (iV 3)),(24,1,.pv (iV 1)),(24,2,.ls 23 2),(23,0,.row 34 3 2 (qay [⟨4,1,0⟩,⟨9,1,0⟩])),(25,0,.pv (iV 3)),(25,1,.pv (iV 1)),(25,2,.ls 26 64),(26,0,.row 34 3 64 (qay qhh))])) (he0:Fn 15 1 [moS 0 [⟨4,1,0⟩,⟨9,1,0⟩] 3 1,.pv (qa5 ⟨0,0,0,0,0,0,0⟩),.pv (iV 12)] [(0,0,qad [⟨4,1,0⟩,⟨9,1,0⟩])] (.pv (.bool true)) 0 []) (he1:Fn 15 1 [moS 0 [⟨4,1,0⟩,⟨9,1,0⟩] 3 1,.pv (qa5 ⟨7,0,0,0,0,0,0⟩),.pv (iV 12)] [(0,0,qad [⟨4,1,0⟩,⟨9,1,0⟩])] (.pv (.bool true)) 0 []) (he2:Fn 15 1 [moS 0 [⟨4,1,0⟩,⟨9,1,0⟩] 3 1,.pv (qa5 ⟨5,0,0,0,1,0,0⟩),.pv (iV 12)] [(0,0,qad [⟨4,1,0⟩,⟨9,1,0⟩])] (.pv (.bool true)) 0 []) (he3:Fn 15 1 [moS 0 [⟨4,1,0⟩,⟨9,1,0⟩] 3 1,.pv (qa5 ⟨1,0,0,0,0,1,1⟩),.pv (iV 12)] [(0,0,qad [⟨4,1,0⟩,⟨9,1,0⟩])] (.pv (.bool true)) 0 []) (he4:Fn 15 1 [moS 0 [⟨4,1,0⟩,⟨9,1,0⟩] 3 1,.pv (qa5 ⟨2,0,1,0,4,0,0⟩),.pv (iV 12)] [(0,0,qad [⟨4,1,0⟩,⟨9,1,0⟩])] (.pv (.bool true)) 0 []) (he5:Fn 15 1 [moS 0 [⟨4,1,0⟩,⟨9,1,0⟩] 3 1,.pv (qa5 ⟨4,0,0,0,4,9,1⟩),.pv (iV 12)] [(0,0,qad [⟨4,1,0⟩,⟨9,1,0⟩])] (.pv (.bool true)) 0 []) (he6:Fn 15 1 [moS 0 [⟨4,1,0⟩,⟨9,1,0⟩] 3 1,.pv (qa5 ⟨1,-1,0,0,0,0,0⟩),.pv (iV 8)] [(0,0,qad [⟨4,1,0⟩,⟨9,1,0⟩])] (.pv (.bool true)) 0 []) (he7:Fn 15 1 [moS 0 [⟨4,1,0⟩,⟨9,1,0⟩] 3 1,.pv (qa5 ⟨1,4,0,0,0,0,0⟩),.pv (iV 14)] [(0,0,qad [⟨4,1,0⟩,⟨9,1,0⟩])] (.pv (.bool true)) 0 []) (he8:Fn 15 1 [moS 0 qhh 3 1,.pv (qa5 ⟨1,64,0,0,0,0,0⟩),.pv (iV 18)] [(0,0,qad qhh)] (.pv (.bool true)) 0 []) (he9:Fn 15 1 [moS 0 qhh 3 1,.pv (qa5 ⟨1,64,0,1048577,0,0,0⟩),.pv (iV 8)] [(0,0,qad qhh)] (.pv (.bool true)) 0 []) (he10:Fn 15 1 [moS 0 [⟨4,1,0⟩,⟨9,1,0⟩] 3 1,.pv (qa5 ⟨2,0,0,0,5,0,0⟩),.pv (iV 6)] [(0,0,qad [⟨4,1,0⟩,⟨9,1,0⟩])] (.pv (.bool true)) 0 []) (he11:Fn 15 1 [moS 0 [⟨4,1,0⟩,⟨9,1,0⟩] 3 1,.pv (qa5 ⟨3,5,0,0,0,0,0⟩),.pv (iV 6)] [(0,0,qad [⟨4,1,0⟩,⟨9,1,0⟩])] (.pv (.bool true)) 0 []) (he12:Fn 15 1 [moS 0 [⟨4,1,0⟩,⟨9,1,0⟩] 3 1,.pv (qa5 ⟨3,5,-1048577,0,0,0,0⟩),.pv (iV 8)] [(0,0,qad [⟨4,1,0⟩,⟨9,1,0⟩])] (.pv (.bool true)) 0 []) (he13:Fn 15 1 [moS 0 [⟨4,1,0⟩,⟨9,1,0⟩] 3 1,.pv (qa5 ⟨4,0,0,0,0,0,0⟩),.pv (iV 8)] [(0,0,qad [⟨4,1,0⟩,⟨9,1,0⟩])] (.pv (.bool true)) 0 []) (he14:Fn 15 1 [moS 0 [⟨4,1,0⟩,⟨9,1,0⟩] 3 1,.pv (qa5 ⟨4,0,0,0,0,1073741825,1⟩),.pv (iV 2)] [(0,0,qad [⟨4,1,0⟩,⟨9,1,0⟩])] (.pv (.bool true)) 0 []) (he15:Fn 15 1 [moS 0 [⟨4,1,0⟩,⟨9,1,0⟩] 3 1,.pv (qa5 ⟨4,0,0,0,0,3,1⟩),.pv (iV 44)] [(0,0,qad [⟨4,1,0⟩,⟨9,1,0⟩])] (.pv (.bool true)) 0 []) (he16:Fn 15 1 [moS 0 [⟨4,1,0⟩,⟨9,1,0⟩] 3 1,.pv (qa5 ⟨4,0,0,0,0,-5,1⟩),.pv (iV 44)] [(0,0,qad [⟨4,1,0⟩,⟨9,1,0⟩])] (.pv (.bool true)) 0 []) (he17:Fn 15 1 [moS 0 [⟨4,1,0⟩,⟨9,1,0⟩] 3 1,.pv (qa5 ⟨4,0,0,0,0,1,1025⟩),.pv (iV 2)] [(0,0,qad [⟨4,1,0⟩,⟨9,1,0⟩])] (.pv (.bool true)) 0 []) (he18:Fn 15 1 [moS 0 [] 1073741824 1,.pv (qa5 ⟨5,0,0,0,0,0,0⟩),.pv (iV 42)] [(0,0,qad [])] (.pv (.bool true)) 0 []) (he19:Fn 15 1 [moS 0 [] 1073741824 1,.pv (qa5 ⟨6,0,0,0,0,0,0⟩),.pv (iV 42)] [(0,0,qad [])] (.pv (.bool true)) 0 []) (hrm:Fn 13 2 [moS 0 [⟨4,1,0⟩,⟨9,1,0⟩] 3 1,.ls 1 121] [(0,0,qad [⟨4,1,0⟩,⟨9,1,0⟩]),(1,0,.row 42 7 121 (qcZ [.int .u8 0,iV 0,iV 0,iV 0,iV 0,iV 0,iV 0] 121))] (.tu [mo1 2 [] 0 0,.one (.dv 6 0 []),.one (.pv (iV 4))]) 1 [(2,0,qad [])]) (hrn:Fn 13 2 [moS 0 [⟨4,1,0⟩,⟨9,1,0⟩] 3 1,.ls 1 120] [(0,0,qad [⟨4,1,0⟩,⟨9,1,0⟩]),(1,0,.row 42 7 120 (qcZ [.int .u8 0,iV 0,iV 0,iV 0,iV 0,iV 0,iV 0] 120))] (.tu [mo1 2 [⟨4,1,0⟩,⟨9,1,0⟩] 3 1,.one (.dv 6 120 dz),.one (.pv (iV 0))]) 1 [(2,0,qad [⟨4,1,0⟩,⟨9,1,0⟩])]) (hc1:Fn 18 1 [qaq 0 [⟨1,9,0⟩,⟨2,5,0⟩,⟨3,7,0⟩,⟨4,3,0⟩],.pv (qaa 0 1)] [(0,0,qad [⟨1,9,0⟩,⟨2,5,0⟩,⟨3,7,0⟩,⟨4,3,0⟩])] (.pv (.tuple #[iV 1,iV 3,qaa 2 1,iV 0])) 0 []) (hc2:Fn 18 1 [qaq 0 [⟨1,0,0⟩],.pv (qaa 0 1)] [(0,0,qad [⟨1,0,0⟩])] (.pv (.tuple #[iV 0,iV 0,qaa 0 0,iV 42])) 0 []) (hc3:Fn 18 1 [qaq 0 [⟨4,1,0⟩,⟨9,1,0⟩],.pv (qaa 1073741825 1)] [(0,0,qad [⟨4,1,0⟩,⟨9,1,0⟩])] (.pv (.tuple #[iV 0,iV 0,qaa 0 0,iV 2])) 0 []) (hc4:Fn 18 1 [qaq 0 [⟨2,0,0⟩,⟨1,0,0⟩],.pv (qaa 0 0)] [(0,0,qad [⟨2,0,0⟩,⟨1,0,0⟩])] (.pv (.tuple #[iV 0,iV 0,qaa 0 0,iV 32])) 0 []) (hal:Fn 19 0 [] [] (.pv (.bool true)) 0 []) :
 Fn 3 0 [] [] (.pv (.bool true)) 0 []:=
 qnQ 2000 [] [Cf hn1 [],Cf hn2 [],.r (qaa (1073741825) 1),Cf hn3 [],.r (qaa (1073741824) 1),Cf hn4 [],.r (qaa (1073741825) 1),.r (qaa (0) 1),.lw,.fz false 9 2 0 3 [],.fz false 9 5 0 3 [],.fz false 9 8 0 3 ((qay [⟨-1,0,0⟩]).map .v),.fz true 9 0 0 3 qwM,.od true 9 0 0 28 none,.k,.dr [.pv (iV 0),.pv (iV 0),.dv 3 0 ((qay []).map .v)],Cf hdo0 [],.md,.dr [.pv (iV 0),.pv (iV 0),.dv 3 0 ((qay []).map .v)],Cf hru0 [13],.dr [.pv (iV 0),.pv (iV 0),.dv 3 0 ((qay []).map .v)],Cf hck0 [],.k,.k,.k,.k,.k,.dr [.pv (iV 1073741825),.pv (iV 1),.dv 3 0 ((qay []).map .v)],Cf hdo1 [],.md,.dr [.pv (iV 1073741825),.pv (iV 1),.dv 3 0 ((qay []).map .v)],Cf hru1 [17],.dr [.pv (iV 1073741825),.pv (iV 1),.dv 3 0 ((qay []).map .v)],Cf hck1 [],.k,.k,.k,.k,.k,.dr [.pv (iV 0),.pv (iV 1),.dv 3 1 ((qay [⟨-1,0,0⟩]).map .v)],Cf hdo2 [],.md,.dr [.pv (iV 0),.pv (iV 1),.dv 3 1 ((qay [⟨-1,0,0⟩]).map .v)],Cf hru2 [21],.dr [.pv (iV 0),.pv (iV 1),.dv 3 1 ((qay [⟨-1,0,0⟩]).map .v)],Cf hck2 [],.k,.k,.k,.k,.k,.r (qaa (3) 1),.lw,.r (qaa (3) 1),.ln false 25 2 34 3,Lf r0,.md,Cf he0 [23],Cf he1 [23],Cf he2 [23],.r (qaa (1) 1),Cf he3 [23],Cf he4 [23],.r (qaa (9) 1),Cf he5 [23],.md,.r (qa5 ⟨1,-1,0,0,0,0,0⟩),Cf he6 [23],.r (qa5 ⟨1,4,0,0,0,0,0⟩),Cf he7 [23],.r (qa5 ⟨1,64,0,0,0,0,0⟩),Cf he8 [26],.r (qa5 ⟨1,64,0,1048577,0,0,0⟩),Cf he9 [26],Cf he10 [23],Cf he11 [23],Cf he12 [23],.md,.r (qa5 ⟨4,0,0,0,0,0,0⟩),Cf he13 [23],.r (qaa (1073741825) 1),.r (qa5 ⟨4,0,0,0,0,1073741825,1⟩),Cf he14 [23],.r (qaa (3) 1),.r (qa5 ⟨4,0,0,0,0,3,1⟩),Cf he15 [23],.r (qaa (-5) 1),.r (qa5 ⟨4,0,0,0,0,-5,1⟩),Cf he16 [23],.r (qa5 ⟨4,0,0,0,0,1,1025⟩),Cf he17 [23],Cf he18 [6],Cf he19 [6],.md,Cf hrm [23,27],.md,Cf hrn [23,30],.lw,.r (qaa (0) 1),Cf hc1 [33],.lw,.r (qaa (0) 1),Cf hc2 [35],.md,.r (qaa (1073741825) 1),Cf hc3 [23],.lw,Cf hc4 [38],.md,.k,.k,.k,.k,.k,.k,.k,.k,.k,.k,.r (qaa (2) 1),.k,.k,.k,.k,Cf hal []]
  tI (Co hn1 [] 0 (Co hn2 [] 2 (Ai (qfj (1073741825)) (Co hn3 [] 4 (Ai (qfj (1073741824)) (Co hn4 [] 6 (Ai (qfj (1073741825)) (Ai (qfj (0)) (Ai (Eq.refl ([]:List Dn)) (Ai (Eq.refl ([]:List Dn)) (Ai (LeD.refl ((qay [⟨-1,0,0⟩]).map Dn.v)) (Ai (LeD.refl qwM) (Ai (show 0≤(0:Int)∧(0:Int)<3 from by decide) (Ai qy7 (Co hdo0 [] 11 (Ai (show 0≤(0:Int)∧(0:Int)<3 from by decide) (Ai qy7 (Ai (show (0:Int)≤121 from by decide) (Ai (Eq.refl (121:Int)) (Ai (show (121:Int)≤1000000 from by decide) (Co hru0 [13] 14 (Ai (show 0≤(0:Int)∧(0:Int)<3 from by decide) (Ai qy7 (Co hck0 [] 15 (Ai (show 0≤(1:Int)∧(1:Int)<3 from by decide) (Ai qyN (Co hdo1 [] 15 (Ai (show 0≤(1:Int)∧(1:Int)<3 from by decide) (Ai qyN (Ai (show (0:Int)≤121 from by decide) (Ai (Eq.refl (121:Int)) (Ai (show (121:Int)≤1000000 from by decide) (Co hru1 [17] 18 (Ai (show 0≤(1:Int)∧(1:Int)<3 from by decide) (Ai qyN (Co hck1 [] 19 (Ai (show 0≤(2:Int)∧(2:Int)<3 from by decide) (Ai qy2 (Co hdo2 [] 19 (Ai (show 0≤(2:Int)∧(2:Int)<3 from by decide) (Ai qy2 (Ai (show (0:Int)≤121 from by decide) (Ai (Eq.refl (121:Int)) (Ai (show (121:Int)≤1000000 from by decide) (Co hru2 [21] 22 (Ai (show 0≤(2:Int)∧(2:Int)<3 from by decide) (Ai qy2 (Co hck2 [] 23 (Ai (qfj (3)) (Ai (qfj (3)) (Lo r0 [] (Co he0 [23] 27 (Co he1 [23] 27 (Co he2 [23] 27 (Ai (qfj (1)) (Co he3 [23] 27 (Co he4 [23] 27 (Ai (qfj (9)) (Co he5 [23] 27 (Ai (qiw (-1) (0) (0)) (Co he6 [23] 27 (Ai (qiw (4) (0) (0)) (Co he7 [23] 27 (Ai (qiw (64) (0) (0)) (Co he8 [26] 27 (Ai (qiw (64) (0) (1048577)) (Co he9 [26] 27 (Co he10 [23] 27 (Co he11 [23] 27 (Co he12 [23] 27 (Ai (qfq (0) (0)) (Co he13 [23] 27 (Ai (qfj (1073741825)) (Ai (qfq (1073741825) (1)) (Co he14 [23] 27 (Ai (qfj (3)) (Ai (qfq (3) (1)) (Co he15 [23] 27 (Ai (qfj (-5)) (Ai (qfq (-5) (1)) (Co he16 [23] 27 (Ai (qfq (1) (1025)) (Co he17 [23] 27 (Co he18 [6] 27 (Co he19 [6] 27 (Ai (show (0:Int)≤121 from by decide) (Ai (Eq.refl (121:Int)) (Ai (show (121:Int)≤1000000 from by decide) (Co hrm [23,27] 28 (Ai (show (0:Int)≤120 from by decide) (Ai (Eq.refl (120:Int)) (Ai (show (120:Int)≤1000000 from by decide) (Co hrn [23,30] 31 (Ai (qfj (0)) (Co hc1 [33] 34 (Ai (qfj (0)) (Co hc2 [35] 36 (Ai (qfj (1073741825)) (Co hc3 [23] 37 (Co hc4 [38] 39 (Ai (qfj (2)) (Co hal [] 40 tI)))))))))))))))))))))))))))))))))))))))))))))))))))))))))))))))))))))))))))))))))))))))))))))))))))))) (by kernel_rfl)
end Go.Proofs.YtleaeldgaflmkaaGreat
