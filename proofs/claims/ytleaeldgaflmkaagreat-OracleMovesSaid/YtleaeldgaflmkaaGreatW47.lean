/-
  Joined: Vr, Vv, Vw, VA, Vx, VC, VE, VF, VG, VI, VJ. Conditions: none.
-/
import Derived.Test.YtleaeldgaflmkaaGreatW46
import Derived.Test.YtleaeldgaflmkaaGreatW25
import Derived.Test.YtleaeldgaflmkaaGreatW37
import Derived.Test.YtleaeldgaflmkaaGreatW44
import Derived.Test.YtleaeldgaflmkaaGreatW36
import Derived.Test.YtleaeldgaflmkaaGreatZj
import Derived.Test.YtleaeldgaflmkaaGreatW34
import Derived.Deep.Strs
import Derived.Lib.SmallJoins
import Derived.Test.YtleaeldgaflmkaaGreatW45
namespace Go.Proofs.YtleaeldgaflmkaaGreat
set_option maxRecDepth 100000
open Go.RowKit
abbrev qsg (d:Int) (n:Int) (qs:List AskQ) (s:List Pt) (s0:List Pt):HpL:=[(2,0,.pv (iV n)),(2,1,.pv (iV d)),(2,2,.ls 4 s.length),(3,0,.pv (iV 0)),(3,1,.pv (iV 0)),(3,2,.pv (.slice none 0 0)),(0,0,qad s0),(1,0,qf6 qs),(4,0,qad s),(5,0,.row 38 6 0 [])]
abbrev qtN (qs:List AskQ):TmL:=[(2,.pp 2 0),(4,.pp 3 0),(6,.ls 5 0),(17,.ls 1 qs.length),(18,.pv (iV (qs.length:Int))),(19,.pv (iV (0:Int)))]
abbrev qxm (qs:List AskQ):TmL:=[(2,.pp 2 0),(4,.pp 3 0),(6,.ls 5 (0+1:Nat)),(17,.ls 1 qs.length),(18,.pv (iV (qs.length:Int))),(19,.pv (iV ((0+1:Nat):Int)))]
theorem qwp {n d n' d':Int} {s s' s0:List Pt} {rp:Rep} {qs:List AskQ} {aq:AskQ} (hlt:decide (((0:Nat):Int)<(qs.length:Int))=true) (hin:0≤((0:Nat):Int)∧((0:Nat):Int)<(qs.length:Int)) (hk:qs[0]?=some aq) (hd:Fn 69 1 [moS 0 s n d,.pv (qcs aq)] [(0,0,qad s)] (.tu [mo1 1 s' n' d',.ag (qes rp)]) 1 [(1,0,qad s')]) (he:(rp.e==0)=true) (hm:0+1≤1000000) (hs:iV (IntKind.i64.wrap (((0:Nat):Int)+1))=iV (((0+1:Nat):Int))) {e:Exit} {tm2:TmL} {hp2:HpL}
 (r:Rl 2 2 42 0 40 6 (qxm qs) ([(2,0,.pv (iV n')),(2,1,.pv (iV d')),(2,2,.ls 4 s'.length),(3,0,.pv (iV 0)),(3,1,.pv (iV 0)),(3,2,.pv (.slice none 0 0)),(0,0,qad s0),(1,0,qf6 qs),(4,0,qad s'),(5,0,.drow 38 6 (0+1) ([]++qef rp))]) e tm2 hp2):Rl 2 2 42 0 40 6 (qtN qs) (qsg d n qs s s0) e tm2 hp2:=
 RunsL.next [(4,7),(5,11)] 300 [.t true,.r (qcs aq),Cf hd [4],.t true,.r (iV (((0+1:Nat):Int)))]
  (Ro (Ai hlt (Ai hin (Ai (qek hk) (Co hd [4] 7 (Ai he (Ai hm (Ai hs tI)))))))) r
abbrev qs9 (d:Int) (ds:List Dn) (k:Nat) (n:Int) (qs:List AskQ) (s:List Pt) (s0:List Pt):HpL:=[(2,0,.pv (iV n)),(2,1,.pv (iV d)),(2,2,.ls 4 s.length),(3,0,.pv (iV 0)),(3,1,.pv (iV 0)),(3,2,.pv (.slice none 0 0)),(0,0,qad s0),(1,0,qf6 qs),(4,0,qad s),(5,0,.drow 38 6 k ds)]
abbrev qvc (k:Nat) (qs:List AskQ):TmL:=[(2,.pp 2 0),(4,.pp 3 0),(6,.ls 5 k),(17,.ls 1 qs.length),(18,.pv (iV (qs.length:Int))),(19,.pv (iV (k:Int)))]
abbrev qxc (k:Nat) (qs:List AskQ):TmL:=[(2,.pp 2 0),(4,.pp 3 0),(6,.ls 5 (k+1:Nat)),(17,.ls 1 qs.length),(18,.pv (iV (qs.length:Int))),(19,.pv (iV ((k+1:Nat):Int)))]
theorem qzL {n d n' d':Int} {s s' s0:List Pt} {rp:Rep} {qs:List AskQ} {aq:AskQ} {k:Nat} {ds:List Dn} (hlt:decide ((k:Int)<(qs.length:Int))=true) (hin:0≤(k:Int)∧(k:Int)<(qs.length:Int)) (hk:qs[k]?=some aq) (hd:Fn 69 1 [moS 0 s n d,.pv (qcs aq)] [(0,0,qad s)] (.tu [mo1 1 s' n' d',.ag (qes rp)]) 1 [(1,0,qad s')]) (he:(rp.e==0)=true) (hm:k+1≤1000000) (hs:iV (IntKind.i64.wrap ((k:Int)+1))=iV (((k+1:Nat):Int))) {e:Exit} {tm2:TmL} {hp2:HpL}
 (r:Rl 2 2 42 0 40 6 (qxc k qs) ([(2,0,.pv (iV n')),(2,1,.pv (iV d')),(2,2,.ls 4 s'.length),(3,0,.pv (iV 0)),(3,1,.pv (iV 0)),(3,2,.pv (.slice none 0 0)),(0,0,qad s0),(1,0,qf6 qs),(4,0,qad s'),(5,0,.drow 38 6 (k+1) (ds++qef rp))]) e tm2 hp2):Rl 2 2 42 0 40 6 (qvc k qs) (qs9 d ds k n qs s s0) e tm2 hp2:=
 RunsL.next [(4,7),(5,11)] 300 [.t true,.r (qcs aq),Cf hd [4],.t true,Re hs]
  (Ro (Ai hlt (Ai hin (Ai (qek hk) (Co hd [4] 7 (Ai he (Ai hm (Ai hs tI)))))))) r
theorem qwP {n d n' d':Int} {s s0:List Pt} {rp:Rep} {qs:List AskQ} {aq:AskQ} (hlt:decide (((0:Nat):Int)<(qs.length:Int))=true) (hin:0≤((0:Nat):Int)∧((0:Nat):Int)<(qs.length:Int)) (hk:qs[0]?=some aq) (hd:Fn 69 1 [moS 0 s n d,.pv (qcs aq)] [(0,0,qad s)] (.tu [mo1 0 s n' d',.ag (qes rp)]) 0 []) (he:(rp.e==0)=true) (hm:0+1≤1000000) (hs:iV (IntKind.i64.wrap (((0:Nat):Int)+1))=iV (((0+1:Nat):Int))) {e:Exit} {tm2:TmL} {hp2:HpL}
 (r:Rl 2 2 42 0 40 6 (qxm qs) ([(2,0,.pv (iV n')),(2,1,.pv (iV d')),(2,2,.ls 4 s.length),(3,0,.pv (iV 0)),(3,1,.pv (iV 0)),(3,2,.pv (.slice none 0 0)),(0,0,qad s0),(1,0,qf6 qs),(4,0,qad s),(5,0,.drow 38 6 (0+1) ([]++qef rp))]) e tm2 hp2):Rl 2 2 42 0 40 6 (qtN qs) (qsg d n qs s s0) e tm2 hp2:=
 RunsL.next [(5,10)] 300 [.t true,.r (qcs aq),Cf hd [4],.t true,.r (iV (((0+1:Nat):Int)))]
  (Ro (Ai hlt (Ai hin (Ai (qek hk) (Co hd [4] 7 (Ai he (Ai hm (Ai hs tI)))))))) r
theorem qy3 {n d n' d':Int} {s s0:List Pt} {rp:Rep} {qs:List AskQ} {aq:AskQ} {k:Nat} {ds:List Dn} (hlt:decide ((k:Int)<(qs.length:Int))=true) (hin:0≤(k:Int)∧(k:Int)<(qs.length:Int)) (hk:qs[k]?=some aq) (hd:Fn 69 1 [moS 0 s n d,.pv (qcs aq)] [(0,0,qad s)] (.tu [mo1 0 s n' d',.ag (qes rp)]) 0 []) (he:(rp.e==0)=true) (hm:k+1≤1000000) (hs:iV (IntKind.i64.wrap ((k:Int)+1))=iV (((k+1:Nat):Int))) {e:Exit} {tm2:TmL} {hp2:HpL}
 (r:Rl 2 2 42 0 40 6 (qxc k qs) ([(2,0,.pv (iV n')),(2,1,.pv (iV d')),(2,2,.ls 4 s.length),(3,0,.pv (iV 0)),(3,1,.pv (iV 0)),(3,2,.pv (.slice none 0 0)),(0,0,qad s0),(1,0,qf6 qs),(4,0,qad s),(5,0,.drow 38 6 (k+1) (ds++qef rp))]) e tm2 hp2):Rl 2 2 42 0 40 6 (qvc k qs) (qs9 d ds k n qs s s0) e tm2 hp2:=
 RunsL.next [(5,10)] 300 [.t true,.r (qcs aq),Cf hd [4],.t true,Re hs]
  (Ro (Ai hlt (Ai hin (Ai (qek hk) (Co hd [4] 7 (Ai he (Ai hm (Ai hs tI)))))))) r
theorem qv7 {n d x y:Int} {s s0:List Pt} {rp:Rep} {qs:List AskQ} {aq:AskQ} (hlt:decide (((0:Nat):Int)<(qs.length:Int))=true) (hin:0≤((0:Nat):Int)∧((0:Nat):Int)<(qs.length:Int)) (hk:qs[0]?=some aq) (hd:Fn 69 1 [moS 0 s n d,.pv (qcs aq)] [(0,0,qad s)] (.tu [mo1 0 s x y,.ag (qes rp)]) 0 []) (he:(rp.e==0)=false) (hm:0+1≤1000000) (hs:iV (IntKind.i64.wrap (((0:Nat):Int)+1))=iV (((0+1:Nat):Int))) {e:Exit} {tm2:TmL} {hp2:HpL}
 (r:Rl 2 2 42 0 40 6 (qxm qs) ([(2,0,.pv (iV n)),(2,1,.pv (iV d)),(2,2,.ls 4 s.length),(3,0,.pv (iV 0)),(3,1,.pv (iV 0)),(3,2,.pv (.slice none 0 0)),(0,0,qad s0),(1,0,qf6 qs),(4,0,qad s),(5,0,.drow 38 6 (0+1) ([]++qef rp))]) e tm2 hp2):Rl 2 2 42 0 40 6 (qtN qs) (qsg d n qs s s0) e tm2 hp2:=
 RunsL.next [(5,10)] 300 [.t true,.r (qcs aq),Cf hd [4],.t false,.r (iV (((0+1:Nat):Int)))]
  (Ro (Ai hlt (Ai hin (Ai (qek hk) (Co hd [4] 7 (Ai he (Ai hm (Ai hs tI)))))))) r
theorem qzu {n d x y:Int} {s s0:List Pt} {rp:Rep} {qs:List AskQ} {aq:AskQ} {k:Nat} {ds:List Dn} (hlt:decide ((k:Int)<(qs.length:Int))=true) (hin:0≤(k:Int)∧(k:Int)<(qs.length:Int)) (hk:qs[k]?=some aq) (hd:Fn 69 1 [moS 0 s n d,.pv (qcs aq)] [(0,0,qad s)] (.tu [mo1 0 s x y,.ag (qes rp)]) 0 []) (he:(rp.e==0)=false) (hm:k+1≤1000000) (hs:iV (IntKind.i64.wrap ((k:Int)+1))=iV (((k+1:Nat):Int))) {e:Exit} {tm2:TmL} {hp2:HpL}
 (r:Rl 2 2 42 0 40 6 (qxc k qs) ([(2,0,.pv (iV n)),(2,1,.pv (iV d)),(2,2,.ls 4 s.length),(3,0,.pv (iV 0)),(3,1,.pv (iV 0)),(3,2,.pv (.slice none 0 0)),(0,0,qad s0),(1,0,qf6 qs),(4,0,qad s),(5,0,.drow 38 6 (k+1) (ds++qef rp))]) e tm2 hp2):Rl 2 2 42 0 40 6 (qvc k qs) (qs9 d ds k n qs s s0) e tm2 hp2:=
 RunsL.next [(5,10)] 300 [.t true,.r (qcs aq),Cf hd [4],.t false,Re hs]
  (Ro (Ai hlt (Ai hin (Ai (qek hk) (Co hd [4] 7 (Ai he (Ai hm (Ai hs tI)))))))) r
theorem quN {n d x y:Int} {s s0:List Pt} {rp:Rep} {qs:List AskQ} {aq:AskQ} (hlt:decide (((0:Nat):Int)<(qs.length:Int))=true) (hin:0≤((0:Nat):Int)∧((0:Nat):Int)<(qs.length:Int)) (hk:qs[0]?=some aq) (hd:Fn 69 1 [moS 0 s n d,.pv (qcs aq)] [(0,0,qad s)] (.tu [.one (.pv (.agg #[iV x,iV y,.slice none 0 0])),.ag (qes rp)]) 0 []) (he:(rp.e==0)=false) (hm:0+1≤1000000) (hs:iV (IntKind.i64.wrap (((0:Nat):Int)+1))=iV (((0+1:Nat):Int))) {e:Exit} {tm2:TmL} {hp2:HpL}
 (r:Rl 2 2 42 0 40 6 (qxm qs) ([(2,0,.pv (iV n)),(2,1,.pv (iV d)),(2,2,.ls 4 s.length),(3,0,.pv (iV 0)),(3,1,.pv (iV 0)),(3,2,.pv (.slice none 0 0)),(0,0,qad s0),(1,0,qf6 qs),(4,0,qad s),(5,0,.drow 38 6 (0+1) ([]++qef rp))]) e tm2 hp2):Rl 2 2 42 0 40 6 (qtN qs) (qsg d n qs s s0) e tm2 hp2:=
 RunsL.next [(5,10)] 300 [.t true,.r (qcs aq),Cf hd [4],.t false,.r (iV (((0+1:Nat):Int)))]
  (Ro (Ai hlt (Ai hin (Ai (qek hk) (Co hd [4] 7 (Ai he (Ai hm (Ai hs tI)))))))) r
theorem qzn {n d x y:Int} {s s0:List Pt} {rp:Rep} {qs:List AskQ} {aq:AskQ} {k:Nat} {ds:List Dn} (hlt:decide ((k:Int)<(qs.length:Int))=true) (hin:0≤(k:Int)∧(k:Int)<(qs.length:Int)) (hk:qs[k]?=some aq) (hd:Fn 69 1 [moS 0 s n d,.pv (qcs aq)] [(0,0,qad s)] (.tu [.one (.pv (.agg #[iV x,iV y,.slice none 0 0])),.ag (qes rp)]) 0 []) (he:(rp.e==0)=false) (hm:k+1≤1000000) (hs:iV (IntKind.i64.wrap ((k:Int)+1))=iV (((k+1:Nat):Int))) {e:Exit} {tm2:TmL} {hp2:HpL}
 (r:Rl 2 2 42 0 40 6 (qxc k qs) ([(2,0,.pv (iV n)),(2,1,.pv (iV d)),(2,2,.ls 4 s.length),(3,0,.pv (iV 0)),(3,1,.pv (iV 0)),(3,2,.pv (.slice none 0 0)),(0,0,qad s0),(1,0,qf6 qs),(4,0,qad s),(5,0,.drow 38 6 (k+1) (ds++qef rp))]) e tm2 hp2):Rl 2 2 42 0 40 6 (qvc k qs) (qs9 d ds k n qs s s0) e tm2 hp2:=
 RunsL.next [(5,10)] 300 [.t true,.r (qcs aq),Cf hd [4],.t false,Re hs]
  (Ro (Ai hlt (Ai hin (Ai (qek hk) (Co hd [4] 7 (Ai he (Ai hm (Ai hs tI)))))))) r
theorem qmJ {n d:Int} {s s0:List Pt} {qs:List AskQ} {k:Nat} {ds:List Dn} (hlt:decide ((k:Int)<(qs.length:Int))=false):Rl 2 2 42 0 40 6 (qvc k qs) (qs9 d ds k n qs s s0) (.exit 0) ([(2,.pp 2 0),(4,.pp 3 0),(6,.ls 5 k)]) (qs9 d ds k n qs s s0):=
 RunsL.stop [] 300 [.t false] (fun h=>by cases h)
  (Ro (Ai hlt tI))
theorem qjk {n d:Int} {s s0:List Pt} {qs:List AskQ} (hlt:decide (((0:Nat):Int)<(qs.length:Int))=false):Rl 2 2 42 0 40 6 (qtN qs) (qsg d n qs s s0) (.exit 0) ([(2,.pp 2 0),(4,.pp 3 0),(6,.ls 5 0)]) (qsg d n qs s s0):=
 RunsL.stop [] 300 [.t false] (fun h=>by cases h)
  (Ro (Ai hlt tI))
abbrev qz6 (qs:List AskQ) (s0:List Pt) (td:Int) (tn:Int):HpL:=[(2,0,.pv (iV tn)),(2,1,.pv (iV td)),(2,2,.ls 4 s0.length),(3,0,.pv (iV 0)),(3,1,.pv (iV 0)),(3,2,.pv (.slice none 0 0)),(0,0,qad s0),(1,0,qf6 qs),(4,0,qad s0),(5,0,.row 38 6 0 [])]
theorem qrg {tn td n d:Int} {s s0:List Pt} {qs:List AskQ} {k:Nat} {ds:List Dn} (hc:Fn 68 1 [.ls 0 s0.length] [(0,0,qad s0)] (.ls 1 s0.length) 1 [(1,0,qad s0)]) (r0:Rl 2 2 42 0 40 6 (qtN qs) (qz6 qs s0 td tn) (.exit 0) ([(2,.pp 2 0),(4,.pp 3 0),(6,.ls 5 k)]) (qs9 d ds k n qs s s0)) :
 Fn 42 2 [moS 0 s0 tn td,.ls 1 qs.length] [(0,0,qad s0),(1,0,qf6 qs)] (.tu [mo1 2 s n d,.one (.dv 6 k ds)]) 1 [(2,0,qad s)]:=
 Fz [(2,4)] [Cf hc [0],.ln true 6 0 38 6,Lf r0,.fz true 6 0 0 6 ds]
  (qaH (qaF [(2,4)]) [(2,0,qad s)]) (Co hc [0] 4 (Lo r0 [] (Ai (LeD.refl ds) tI)))
theorem qnR {tn td n d:Int} {s s0:List Pt} {qs:List AskQ} (hc:Fn 68 1 [.ls 0 s0.length] [(0,0,qad s0)] (.ls 1 s0.length) 1 [(1,0,qad s0)]) (r0:Rl 2 2 42 0 40 6 (qtN qs) (qz6 qs s0 td tn) (.exit 0) ([(2,.pp 2 0),(4,.pp 3 0),(6,.ls 5 0)]) (qsg d n qs s s0)) :
 Fn 42 2 [moS 0 s0 tn td,.ls 1 qs.length] [(0,0,qad s0),(1,0,qf6 qs)] (.tu [mo1 2 s n d,.one (.dv 6 0 [])]) 1 [(2,0,qad s)]:=
 Fz [(2,4)] [Cf hc [0],.ln true 6 0 38 6,Lf r0,.fz true 6 0 0 6 []]
  (qaH (qaF [(2,4)]) [(2,0,qad s)]) (Co hc [0] 4 (Lo r0 [] (Ai (LeD.refl []) tI)))
end Go.Proofs.YtleaeldgaflmkaaGreat

namespace Go.Proofs.YtleaeldgaflmkaaGreat
set_option maxRecDepth 100000
open Go.RowKit
def qoo (s:List Pt) (n d:Int):List AskQ→List Rep→Int→Int→List Pt→Prop
 | [],[],n',d',s'=>n'=n∧d'=d∧s'=s
 | a::qs,r::rs,n',d',s'=>∃ n1 d1 s1,Outc s n d a r n1 d1 s1∧qoo s1 n1 d1 qs rs n' d' s'
 | _,_,_,_,_=>False
def qzs (a:AskQ):Prop:=I64 a.qn∧I64 a.qd
abbrev qbq (rs:List Rep):List Dn:=rs.flatMap qef
abbrev orT (qs:List AskQ) (k:Nat):List (Nat×SV):=[(2,.pp 2 0),(4,.pp 3 0),(6,.ls 5 k),(17,.ls 1 qs.length),(18,.pv (iV (qs.length:Int))),(19,.pv (iV (k:Int)))]
abbrev orH (s0:List Pt) (qs:List AskQ) (s:List Pt) (n d:Int) (row:SV):List (Nat×Nat×SV):=[(2,0,.pv (iV n)),(2,1,.pv (iV d)),(2,2,.ls 4 s.length),(3,0,.pv (iV 0)),(3,1,.pv (iV 0)),(3,2,.pv (.slice none 0 0)),(0,0,qad s0),(1,0,qf6 qs),(4,0,qad s),(5,0,row)]
abbrev orE (k:Nat):List (Nat×SV):=[(2,.pp 2 0),(4,.pp 3 0),(6,.ls 5 k)]
abbrev qtI (k:Nat) (ds:List Dn):SV:=.drow 38 6 k ds
section
variable {s s' s0:List Pt} {n d n' d':Int} {qs:List AskQ} {a:AskQ} {r:Rep} {k:Nat} {ds:List Dn}
theorem qjw (o:Outc s n d a r n' d' s') (hk:qs[k]?=some a) (hl:qs.length≤999999) {e:Exit} {tm2:TmL} {hp2:HpL}
 (rr:Rl 2 2 42 0 40 6 (orT qs (k+1)) (orH s0 qs s' n' d' (qtI (k+1) (ds++qef r))) e tm2 hp2) :
 Rl 2 2 42 0 40 6 (orT qs k) (orH s0 qs s n d (qtI k ds)) e tm2 hp2:=by
 have hkl:=qax hk
 rcases o.prg with ⟨he,h⟩ | ⟨he,hs,h⟩ | ⟨he,x,y,h⟩ | ⟨he,x,y,h⟩
 ·exact qzL (hlt:=dt (by omega)) (hin:=⟨by omega,by omega⟩) (hk:=hk) (hd:=h) (he:=by simp[he]) (hm:=by omega) (hs:=qav (by omega)) rr
 ·subst hs
  exact qy3 (hlt:=dt (by omega)) (hin:=⟨by omega,by omega⟩) (hk:=hk) (hd:=h) (he:=by simp[he]) (hm:=by omega) (hs:=qav (by omega)) rr
 ·obtain⟨_,rfl,rfl,rfl⟩:=o.err he
  exact qzu (hlt:=dt (by omega)) (hin:=⟨by omega,by omega⟩) (hk:=hk) (hd:=h) (he:=by simp[he]) (hm:=by omega) (hs:=qav (by omega)) rr
 ·obtain⟨_,rfl,rfl,rfl⟩:=o.err he
  exact qzn (hlt:=dt (by omega)) (hin:=⟨by omega,by omega⟩) (hk:=hk) (hd:=h) (he:=by simp[he]) (hm:=by omega) (hs:=qav (by omega)) rr
theorem qhj (o:Outc s n d a r n' d' s') (hk:qs[0]?=some a) (hl:qs.length≤999999) {e:Exit} {tm2:TmL} {hp2:HpL}
 (rr:Rl 2 2 42 0 40 6 (orT qs 1) (orH s0 qs s' n' d' (qtI 1 (qef r))) e tm2 hp2) :
 Rl 2 2 42 0 40 6 (orT qs 0) (orH s0 qs s n d (.row 38 6 0 [])) e tm2 hp2:=by
 have hkl:=qax hk
 rcases o.prg with ⟨he,h⟩ | ⟨he,hs,h⟩ | ⟨he,x,y,h⟩ | ⟨he,x,y,h⟩
 ·exact qwp (hlt:=dt (by omega)) (hin:=⟨by omega,by omega⟩) (hk:=hk) (hd:=h) (he:=by simp[he]) (hm:=by omega) (hs:=qav (by omega)) rr
 ·subst hs
  exact qwP (hlt:=dt (by omega)) (hin:=⟨by omega,by omega⟩) (hk:=hk) (hd:=h) (he:=by simp[he]) (hm:=by omega) (hs:=qav (by omega)) rr
 ·obtain⟨_,rfl,rfl,rfl⟩:=o.err he
  exact qv7 (hlt:=dt (by omega)) (hin:=⟨by omega,by omega⟩) (hk:=hk) (hd:=h) (he:=by simp[he]) (hm:=by omega) (hs:=qav (by omega)) rr
 ·obtain⟨_,rfl,rfl,rfl⟩:=o.err he
  exact quN (hlt:=dt (by omega)) (hin:=⟨by omega,by omega⟩) (hk:=hk) (hd:=h) (he:=by simp[he]) (hm:=by omega) (hs:=qav (by omega)) rr
theorem qi3 (hl:qs.length≤999999):∀ (rest:List AskQ) (k:Nat) (s:List Pt) (n d:Int) (ds:List Dn),qs=qs.take k++rest→k+rest.length=qs.length→Val s→AskT n d→(∀ a∈rest,qzs a)→
 ∃ rs n' d' s',qoo s n d rest rs n' d' s'∧Val s'∧AskT n' d'∧rs.length=rest.length∧
  Rl 2 2 42 0 40 6 (orT qs k) (orH s0 qs s n d (qtI k ds)) (.exit 0) (orE qs.length) (orH s0 qs s' n' d' (qtI qs.length (ds++qbq rs)))
 | [],k,s,n,d,ds,_,hk,hv,ht,_=>by
  have e:k=qs.length:=by simpa using hk
  refine⟨[],n,d,s,⟨rfl,rfl,rfl⟩,hv,ht,rfl,?_⟩
  rw[show ds++qbq []=ds from List.append_nil _]
  subst e
  exact qmJ (hlt:=df (by omega))
 | a::rest,k,s,n,d,ds,hq,hk,hv,ht,hn=>by
  have hkl:k<qs.length:=by rw[← hk,List.length_cons];omega
  have hka:qs[k]?=some a:=by
   rw[hq,List.getElem?_append_right (by rw[List.length_take];omega),List.length_take,Nat.min_eq_left (by omega),Nat.sub_self]
   rfl
  obtain⟨r,n1,d1,s1,o⟩:=qe1 a hv ht (hn a List.mem_cons_self)
  obtain⟨rs,n',d',s',h1,h2,h3,h4,h5⟩:=qi3 hl rest (k+1) s1 n1 d1 (ds++qef r) (by
   rw[List.take_add_one,hka,List.append_assoc];exact hq) (by rw[← hk,List.length_cons];omega) o.val o.ask fun b hb=>hn b (List.mem_cons_of_mem _ hb)
  refine⟨r::rs,n',d',s',⟨n1,d1,s1,o,h1⟩,h2,h3,by rw[List.length_cons,h4];rfl,qjw o hka hl ?_⟩
  rw[show ds++qbq (r::rs)=ds++qef r++qbq rs by rw[List.append_assoc];rfl]
  exact h5
theorem qsD (hl:qs.length≤999999) (hv:Val s) (ht:AskT n d) (hn:∀ a∈qs,qzs a):∃ rs n' d' s',qoo s n d qs rs n' d' s'∧Val s'∧AskT n' d'∧rs.length=qs.length∧
 Fn 42 2 [moS 0 s n d,.ls 1 qs.length] [(0,0,qad s),(1,0,qf6 qs)] (.tu [mo1 2 s' n' d',.one (.dv 6 qs.length (qbq rs))]) 1 [(2,0,qad s')]:=by
 have hc:=qhr (l:=s) (by have:=hv.len;omega)
 cases qs with
 | nil=>
  exact⟨[],n,d,s,⟨rfl,rfl,rfl⟩,hv,ht,rfl,qnR (hc:=hc) (r0:=qjk (hlt:=by decide))⟩
 | cons a rest=>
  obtain⟨r,n1,d1,s1,o⟩:=qe1 a hv ht (hn a List.mem_cons_self)
  obtain⟨rs,n',d',s',h1,h2,h3,h4,h5⟩:=qi3 (s0:=s) hl rest 1 s1 n1 d1 (qef r) rfl (by rw[List.length_cons];omega) o.val o.ask fun b hb=>hn b (List.mem_cons_of_mem _ hb)
  exact⟨r::rs,n',d',s',⟨n1,d1,s1,o,h1⟩,h2,h3,by rw[List.length_cons,h4];rfl,qrg (hc:=hc) (r0:=qhj o rfl hl h5)⟩
noncomputable def qul (s:List Pt) (n d:Int):Int:=open Classical in if qdl n d=0∧qcd s=0 then 0 else 8
theorem qeI (hn:I64 n) (hd:I64 d):Fn 14 1 [moS 0 s n d] [(0,0,qad s)] (.pv (iV (qul s n d))) 0 []∧Fn 25 1 [moS 0 s n d] [(0,0,qad s)] (.pv (iV (qul s n d))) 0 []:=by
 have c1:Pure Tryz.prog 40 #[qaa n d] (iV (qdl n d)):=fun w=>qcy n d w hn hd
 have c2:Pure Tryz.prog 31 #[qaa n d] (iV (qdl n d)):=fun w=>qcp n d w hn hd
 have c3:=qaP s
 have c4:=qbe s
 unfold qul
 by_cases h1:qdl n d=0
 ·rw[h1] at c1 c2
  by_cases h2:qcd s=0
  ·rw[h2] at c3 c4
   rw[if_pos ⟨h1,h2⟩]
   exact⟨qxS (ha:=c1) (hc:=c3),qxT (ha:=c2) (hc:=c4)⟩
  ·rw[if_neg fun h=>h2 h.2]
   exact⟨qzW (ha:=c1) (hc:=c3) (he:=by simpa using h2),qxQ (ha:=c2) (hc:=c4) (he:=by simpa using h2)⟩
 ·rw[if_neg fun h=>h1 h.1]
  exact⟨qzq (ha:=c1) (hc:=c3) (he:=by simpa using h1),qzV (ha:=c2) (he:=by simpa using h1)⟩
theorem qiW (hn:I64 n) (hd:I64 d):qul s n d=0↔Val s∧AskT n d:=by
 unfold qul
 split
 ·rename_i h
  exact⟨fun _=>⟨qbW.1 h.2,qbj.1 h.1⟩,fun _=>rfl⟩
 ·rename_i h
  exact⟨fun e=>(by cases e),fun k=>(h ⟨qbj.2 k.2,qbW.2 k.1⟩).elim⟩
end
end Go.Proofs.YtleaeldgaflmkaaGreat

namespace Go.Proofs.YtleaeldgaflmkaaGreat
set_option maxRecDepth 100000
open Go.RowKit
section
variable {s s':List Pt} {n d n' d':Int} {a:AskQ}
theorem qpx (r:Rep) (h:r.ms.length≤100000):Fn 26 0 [.ag (qes r),.ag (qes r)] [] (.pv (.bool true)) 0 []:=qzS (hs:=qrG rfl h)
theorem qoN (h:s.length≤1000000):Fn 24 2 [moS 0 s n d,moS 1 s n d] [(0,0,qad s),(1,0,qad s)] (.pv (.bool true)) 0 []:=qzz (hs:=qth h)
theorem qsb:Pure Tryz.prog 41 #[] (.agg #[.slice none 0 0]):=qac (args:=[]) 200 [] (Ai rfl tI) (by kernel_rfl)
theorem qlv {f:FuncId} {x v:Value} (h:Pure Tryz.prog f #[x] v):Fn f 0 [.pv x] [] (.pv v) 0 []:=by
 intro w β us hH hd hi
 match us,hi with
 | [y],⟨e,_⟩=>
  have e':y=x:=e
  subst e'
  exact (h w).mono fun e w' ⟨he,hg⟩=>⟨v,β,he,Bl.le_refl β,rfl,hH.gr_mono hg,hd⟩
theorem qpo {f:FuncId} {e:Int} (h:Pure Tryz.prog f #[qaa n d] (.tuple #[.agg #[iV n',iV d',.slice none 0 0],iV e])):Fn f 0 [.pv (qaa n d)] [] (.tu [mo1 0 [] n' d',.one (.pv (iV e))]) 1 [(0,0,qad [])]:=
 qsf (x:=.tu [.one (.pv (.agg #[iV n',iV d',.slice none 0 0])),.one (.pv (iV e))]) 34 3 (qgO (qlv h) fun β v hv=>⟨[_,_],⟨rfl,rfl,tI⟩,hv⟩)
  (.tu (.cons (.un (vs:=[iV n',iV d',.slice none 0 0]) (.cons (.same _) (.cons (.same _) (.cons .nil .nil)))) (.cons (.one (.same _)) .nil)))
abbrev qAw (f:FuncId) (s:List Pt) (n d:Int) (a:AskQ) (r:Rep) (n' d':Int) (s':List Pt) (e:Int):Prop:=Fn f 1 [moS 0 s n d,.pv (qcs a)] [(0,0,qad s)] (.tu [mo1 1 s' n' d',.ag (qes r),.one (.pv (iV e))]) 1 [(1,0,qad s')]
theorem qsy (s:List Pt):Fn 20 1 [qaq 0 s] [(0,0,qad s)] (.pv (.bool true)) 0 []∨(s.length≤70∧Fn 20 1 [qaq 0 s] [(0,0,qad s)] (.pv (.bool false)) 0 []):=by
 rcases ql7 s with ⟨_,h⟩ | ⟨h0,h⟩
 ·exact Or.inl h
 ·exact Or.inr ⟨by omega,h⟩
end
end Go.Proofs.YtleaeldgaflmkaaGreat

namespace Go.Proofs.YtleaeldgaflmkaaGreat
set_option maxRecDepth 100000
open Go.RowKit
theorem qj6:∀ {rs:List Rep} {k:Nat} {r:Rep},rs[k]?=some r→qon (rs.flatMap qef) (0*6+k*6) (qef r)
 | [],k,r,h=>by simp at h
 | q::rs,0,r,h=>by
  simp at h;subst h
  intro j d hj
  show (qef q++rs.flatMap qef)[0*6+0*6+j]?=some d
  rw[show 0*6+0*6+j=j by omega,List.getElem?_append_left (List.getElem?_eq_some_iff.1 hj).1]
  exact hj
 | q::rs,k+1,r,h=>by
  have ih:=qj6 (rs:=rs) (k:=k) (r:=r) (by simpa using h)
  intro j d hj
  have:=ih j d hj
  rw[show 0*6+(k+1)*6+j=(0*6+k*6+j)+1+1+1+1+1+1 by omega]
  exact this
abbrev qxs (rs:List Rep):HpL:=[(0,0,.rrow 38 6 rs.length (qbq rs)),(1,0,.rrow 38 6 rs.length (qbq rs))]
theorem qpD {rp:Rep} {rs:List Rep} {k:Nat} (hlt:decide ((k:Int)<(rs.length:Int))=true) (hin:0≤(k:Int)∧(k:Int)<(rs.length:Int)) (hk:rs[k]?=some rp) (hsm:Fn 26 0 [.ag (qes rp),.ag (qes rp)] [] (.pv (.bool true)) 0 []) (hs:iV (IntKind.i64.wrap ((k:Int)+1))=iV (((k+1:Nat):Int))) {e:Exit} {tm2:TmL} {hp2:HpL}
 (r:Rl 0 0 28 0 27 2 ([(0,.ls 0 rs.length),(1,.ls 1 rs.length),(5,.pv (iV ((k+1:Nat):Int)))]) (qxs rs) e tm2 hp2):Rl 0 0 28 0 27 2 ([(0,.ls 0 rs.length),(1,.ls 1 rs.length),(5,.pv (iV (k:Int)))]) (qxs rs) e tm2 hp2:=
 RunsL.next [] 300 [.t true,.md,.dr (qes rp),.dr (qes rp),Cf hsm [],.k,Re hs]
  (Ro (Ai hlt (Ai hin (Ai (qj6 hk) (Ai hin (Ai (qj6 hk) (Co hsm [] 2 (Ai hs tI)))))))) r
theorem qtx {rs:List Rep} {k:Nat} (hlt:decide ((k:Int)<(rs.length:Int))=false):Rl 0 0 28 0 27 2 ([(0,.ls 0 rs.length),(1,.ls 1 rs.length),(5,.pv (iV (k:Int)))]) (qxs rs) (.exit 0) ([]) ([]):=
 RunsL.stop [] 300 [.t false] (fun h=>by cases h)
  (Ro (Ai hlt tI))
theorem qt5 {rs:List Rep} (r0:Rl 0 0 28 0 27 2 ([(0,.ls 0 rs.length),(1,.ls 1 rs.length),(5,.pv (iV ((0:Nat):Int)))]) (qxs rs) (.exit 0) ([]) ([])) :
 Fn 28 0 [.dv 6 rs.length (qbq rs),.dv 6 rs.length (qbq rs)] [] (.pv (.bool true)) 0 []:=
 Fz [] [.od true 0 0 0 38 none,.od true 1 0 0 38 none,.t false,Lf r0]
  tI (Ai (qjX (rs.length:Int)) (Lo r0 [] tI))
end Go.Proofs.YtleaeldgaflmkaaGreat

namespace Go.Proofs.YtleaeldgaflmkaaGreat
set_option maxRecDepth 100000
open Go.ChangeShapes Go.WideShapes Go.ChangeAt Go.RowKit Go.Joins Go.Deep
theorem qyE:Tryz.prog.cellsOf 23=2:=by kernel_rfl
theorem qyj:Tryz.prog.cellsOf 26=1:=by kernel_rfl
theorem qzO:Tryz.prog.cellsOf 24=1:=by kernel_rfl
theorem qwl:Tryz.prog.cellsOf 2=1:=by kernel_rfl
theorem qoz:Tryz.prog.cellsOf 28=3:=by kernel_rfl
theorem qsH:Tryz.prog.readableRec 28=true:=by kernel_rfl
theorem qvs:28<Tryz.prog.types.size:=of_decide_eq_true (by kernel_rfl)
section
variable {H:Type} {enc:TypeId×Value→H} {W:World} {base:Nat} {spare:Nat→Bool} {held:Bool}
theorem qkz {r:Reach} {b0:Nat} {v:Value} {d:DataW H} {p:List MemPlace} (hv:Value.okWide Tryz.prog W r b0 28 v) (h:DataW.Trod enc Tryz.prog W base spare held 28 v d p) :
 ∃ (tn td:Int) (u:Value) (l:List Pt),v=.agg #[iV tn,iV td,u]∧Rd W 3 u l.length (qaX l)∧I64 tn∧I64 td:=by
 obtain⟨cs,rfl,hsz⟩:=okWide_struct Tryz.underlying28 hv
 obtain⟨fuel,hf⟩:=h
 obtain⟨y0,y1,n,_,hlen,h0,h1⟩:=trod_struct2 Tryz.underlying28 hf
 obtain⟨z0,z1,n1,_,_,a0,a1⟩:=trod_struct2 Tryz.underlying23 h0
 obtain⟨tn,e0,_,w0⟩:=DataW.trod_int Tryz.underlying2 a0
 obtain⟨td,e1,_,w1⟩:=DataW.trod_int Tryz.underlying2 a1
 obtain⟨z2,n2,_,_,b0⟩:=trod_struct1 Tryz.underlying26 h1
 obtain⟨u0,s,c0,r0,_⟩:=qqm b0
 refine⟨tn,td,u0,s,?_,r0,bounds_i64 w0,bounds_i64 w1⟩
 rw[qyj,qzO] at c0
 rw[qwl,qyE] at e0 e1
 have hs:cs.size=3:=hsz.trans qoz
 obtain⟨L⟩:=cs
 match L,hs with
 | [v0,v1,v2],_=>
  simp[Value.cells] at c0 e0 e1
  rw[c0,e0,e1]
end
section
variable {W:World} {s:List Pt} {n0 d0 n d:Int} {a:AskQ} {u:Value}
end
end Go.Proofs.YtleaeldgaflmkaaGreat

namespace Go.Proofs.YtleaeldgaflmkaaGreat
set_option maxRecDepth 100000
open Go.RowKit
section
variable {s s' s0:List Pt} {n d n' d':Int} {qs:List AskQ} {a:AskQ} {r:Rep} {k:Nat} {ds:List Dn}
theorem qoK {rs:List Rep} (hl:rs.length≤999999) (hf:∀ r∈rs,r.ms.length≤100000):Fn 28 0 [.dv 6 rs.length (qbq rs),.dv 6 rs.length (qbq rs)] [] (.pv (.bool true)) 0 []:=by
 refine qt5 (r0:=RunsL.rounds (fun k=>[(0,.ls 0 rs.length),(1,.ls 1 rs.length),(5,.pv (iV (k:Int)))]) (fun _=>[(0,0,.rrow 38 6 rs.length (qbq rs)),(1,0,.rrow 38 6 rs.length (qbq rs))]) rs.length 0 (Nat.zero_add _) (fun k _ hk r=>?_) (qtx (hlt:=df (by omega))))
 obtain⟨m,hm⟩:=qam hk
 exact qpD (hlt:=dt (by omega)) (hin:=qaz hk) (hk:=hm) (hsm:=qpx m (hf m (List.mem_of_getElem? hm))) (hs:=qav (by omega)) r
abbrev qy8 (f:FuncId) (s:List Pt) (n d:Int) (qs:List AskQ) (k:Nat) (ds:List Dn) (n' d':Int) (s':List Pt) (e:Int):Prop:=Fn f 2 [moS 0 s n d,.ls 1 qs.length] [(0,0,qad s),(1,0,qf6 qs)] (.tu [mo1 2 s' n' d',.one (.dv 6 k ds),.one (.pv (iV e))]) 1 [(2,0,qad s')]
end
end Go.Proofs.YtleaeldgaflmkaaGreat

namespace Go.Proofs.YtleaeldgaflmkaaGreat
set_option maxRecDepth 100000
open Go.RowKit
abbrev qir:List AskQ:=[⟨1,1,0,2,0,0,0⟩,⟨1,2,6,-1,0,0,0⟩,⟨1,5,0,0,0,0,0⟩,⟨5,0,0,0,0,0,0⟩,⟨6,0,0,0,0,0,0⟩,⟨4,0,0,0,0,2,1⟩,⟨5,0,0,0,0,0,0⟩,⟨6,0,0,0,0,0,0⟩,⟨4,0,0,0,0,1,1⟩]
abbrev qhE:List Rep:=[⟨0,0,0,0,0,[]⟩,⟨0,0,0,0,0,[]⟩,⟨0,0,0,0,0,[]⟩,⟨0,2,0,6,1,[]⟩,⟨0,1,5,0,1,[]⟩,⟨0,0,0,0,0,[⟨2,1,1,2⟩]⟩,⟨0,1,0,4,1,[]⟩,⟨0,1,2,0,1,[]⟩,⟨44,0,0,0,0,[]⟩]
theorem qrF (n:Int):Pure Tryz.prog 11 #[iV n] (qaa n 1):=qac (args:=[iV n]) 200 [] (Ai rfl tI) (by kernel_rfl)
theorem qtY (i a b:Int):Pure Tryz.prog 16 #[iV i,iV a,iV b] (qcs ⟨1,i,a,b,0,0,0⟩):=qac (args:=[iV i,iV a,iV b]) 200 [] (Ai rfl tI) (by kernel_rfl)
theorem qg6 (n d:Int):Pure Tryz.prog 17 #[qaa n d] (qcs ⟨4,0,0,0,0,n,d⟩):=qac (args:=[qaa n d]) 200 [] (Ai rfl tI) (by kernel_rfl)
theorem wgi :
 Fn 46 0 [] [] (.ls 0 9) 1 [(0,0,.row 42 7 9 (qdk qir))]:=
 Fz [(0,2)] [.md,.r (qcs ⟨1,1,0,2,0,0,0⟩),.r (qcs ⟨1,2,6,-1,0,0,0⟩),.r (qcs ⟨1,5,0,0,0,0,0⟩),.r (qaa 2 1),.r (qcs ⟨4,0,0,0,0,2,1⟩),.r (qaa 1 1),.r (qcs ⟨4,0,0,0,0,1,1⟩),.lw]
  (qaH (qaF [(0,2)]) [(0,0,.row 42 7 9 (qdk qir))]) (Ai (qtY 1 0 (2)) (Ai (qtY 2 6 (-1)) (Ai (qtY 5 0 (0)) (Ai (qrF 2) (Ai (qg6 2 1) (Ai (qrF 1) (Ai (qg6 1 1) tI)))))))
theorem wal (hn:Fn 10 0 [.pv (qaa 0 1)] [] (.tu [mo1 0 [] 0 1,.one (.pv (iV 0))]) 1 [(0,0,qad [])]) (hr:Fn 13 2 [moS 0 [] 0 1,.ls 1 9] [(0,0,qad []),(1,0,.row 42 7 9 (qdk qir))] (.tu [mo1 2 gl 2 1,.one (.dv 6 9 (qbq qhE)),.one (.pv (iV 0))]) 1 [(2,0,qad gl)]) (hs:Fn 28 0 [.dv 6 9 (qbq qhE),.dv 6 9 (qbq qhE)] [] (.pv (.bool true)) 0 []) :
 Fn 19 0 [] [] (.pv (.bool true)) 0 []:=
 Fz [] [.r (qaa 0 1),Cf hn [],.md,.f [] [] [] (.ls 0 9) 1 [(0,0,.row 42 7 9 (qdk qir))],Cf hr [0,2],.r (qaa 0 1),.md,.r (qaa 6 1),.r (qaa 2 1),.lw,.r (qaa 4 1),.fz false 7 5 0 4 [],.fz false 7 11 0 4 [],.fz false 7 17 0 4 [],.fz false 7 23 0 4 [],.fz false 7 29 0 4 [],.fz false 7 35 0 4 ((msV [⟨2,1,1,2⟩]).map .v),.fz false 7 41 0 4 [],.fz false 7 47 0 4 [],.fz false 7 53 0 4 [],.fz true 7 0 0 6 (qbq qhE),.md,.k,.k,Cf hs [],.r (qaa 2 1),.k,.k]
  tI (Ai (qrF 0) (Co hn [] 0 (Ai wgi (Ai (Eq.refl (List.map (SV.ren (qa2 [] 2)) [])) (Ai (Cp hn [] 2) (Co hr [0,2] 3 (Ai (qrF 0) (Ai (qrF 6) (Ai (qrF 2) (Ai (qrF 4) (Ai (Eq.refl ([]:List Dn)) (Ai (Eq.refl ([]:List Dn)) (Ai (Eq.refl ([]:List Dn)) (Ai (Eq.refl ([]:List Dn)) (Ai (Eq.refl ([]:List Dn)) (Ai (LeD.refl ((msV [⟨2,1,1,2⟩]).map Dn.v)) (Ai (Eq.refl ([]:List Dn)) (Ai (Eq.refl ([]:List Dn)) (Ai (Eq.refl ([]:List Dn)) (Ai (LeD.refl (qbq qhE)) (Co hs [] 8 (Ai (qrF 2) tI))))))))))))))))))))))
end Go.Proofs.YtleaeldgaflmkaaGreat

namespace Go.Proofs.YtleaeldgaflmkaaGreat
set_option maxRecDepth 100000
open Go.RowKit
theorem qsY:qgf gl 0 1 2 1=[⟨2,1,1,2⟩]:=by
 unfold qgf srt
 rw[qxM]
 rfl
theorem gT0:AskT 0 1:=⟨by decide,by decide,by decide,by decide⟩
theorem gT2:AskT 2 1:=⟨by decide,by decide,by decide,by decide⟩
theorem gT1:AskT 1 1:=⟨by decide,by decide,by decide,by decide⟩
section
variable {r:Rep} {n d n' d':Int} {s s':List Pt}
theorem qs7 {i a b:Int} (o:Outc s n d ⟨1,i,a,b,0,0,0⟩ r n' d' s') (h:okP i a b=true) (hs:∀ p∈s,p.id≠i) (hl:s.length<64):r=qot 0∧n'=n∧d'=d∧s'=quC ⟨i,a,b⟩ s:=o.k1 rfl rfl h hs hl
theorem qqK {p:Pt} {N D:Int} (o:Outc gl n d ⟨5,0,0,0,0,0,0⟩ r n' d' s') (hp:p∈gl) (h:∀ q∈gl,ld n d q p=false) (hk:okB N D=true) (he:plS p n d*D=N*d) (d1:1≤d) (hD:D≠0):r=⟨0,p.id,0,N,D,[]⟩:=by
 have hl:=qu7 qwR hp h
 rcases o.k5 rfl rfl with ⟨h0,_⟩ | ⟨_,N',D',e,k1,_,_,k4⟩
 ·cases h0
 ·rw[hl] at e k4
  obtain⟨rfl,rfl⟩:=qdg k1 hk (by
   have:N'*D*d=N*D'*d:=by rw[Int.mul_right_comm,k4,Int.mul_right_comm,he,Int.mul_right_comm]
   exact Int.eq_of_mul_eq_mul_right (by omega) this)
  exact e
theorem qmk {x:Nat×Nat} {N D:Int} (o:Outc gl n d ⟨6,0,0,0,0,0,0⟩ r n' d' s') (hx:qb2 gl n d=x) (hk:DisI gl n d x N D) (d1:1≤d):r=⟨0,(ptK gl x.1).id,(ptK gl x.2).id,N,D,[]⟩:=by
 rcases o.k6 rfl rfl with ⟨h0,_⟩ | ⟨_,N',D',e,k⟩
 ·exact absurd h0 (by decide)
 ·rw[hx] at e k
  obtain⟨rfl,rfl⟩:=DisI.uniq d1 k hk
  exact e
theorem qjj {a:AskQ} (o:Outc s n d a r n' d' s') (h:a.kd=5∨a.kd=6):n'=n∧d'=d∧s'=s:=o.keep h
end
theorem qbh {a:AskQ} {qs:List AskQ} {rs:List Rep} {s:List Pt} {n d n' d':Int} {s':List Pt} (h:qoo s n d (a::qs) rs n' d' s'):∃ r t n1 d1 s1,rs=r::t∧Outc s n d a r n1 d1 s1∧qoo s1 n1 d1 qs t n' d' s':=by
 cases rs with
 | nil=>exact h.elim
 | cons r t=>
  obtain⟨n1,d1,s1,o,k⟩:=h
  exact⟨r,t,n1,d1,s1,rfl,o,k⟩
theorem qpP {rs:List Rep} {s:List Pt} {n d n' d':Int} {s':List Pt} (h:qoo s n d [] rs n' d' s'):rs=[]∧n'=n∧d'=d∧s'=s:=by
 cases rs with
 | nil=>exact⟨rfl,h⟩
 | cons r t=>exact h.elim
theorem qk0 {rs:List Rep} {n' d':Int} {s':List Pt} (h:qoo [] 0 1 qir rs n' d' s'):rs=qhE∧n'=2∧d'=1∧s'=gl:=by
 obtain⟨r1,t1,_,_,_,rfl,o1,q1⟩:=qbh h
 obtain⟨rfl,rfl,rfl,rfl⟩:=qs7 o1 (by decide) (by decide) (by decide)
 obtain⟨r2,t2,_,_,_,rfl,o2,q2⟩:=qbh q1
 obtain⟨rfl,rfl,rfl,rfl⟩:=qs7 o2 (by decide) (by decide) (by decide)
 obtain⟨r3,t3,_,_,_,rfl,o3,q3⟩:=qbh q2
 obtain⟨rfl,rfl,rfl,rfl⟩:=qs7 o3 (by decide) (by decide) (by decide)
 obtain⟨r4,t4,_,_,_,rfl,o4,q4⟩:=qbh q3
 have o4':Outc gl 0 1 _ r4 _ _ _:=o4
 obtain⟨rfl,rfl,rfl⟩:=qjj o4' (Or.inl rfl)
 obtain rfl:=qqK (p:=⟨2,6,-1⟩) (N:=6) (D:=1) o4' (by simp) (by decide) (by decide) (by decide) (by decide) (by decide)
 obtain⟨r5,t5,_,_,_,rfl,o5,q5⟩:=qbh q4
 have o5':Outc gl 0 1 _ r5 _ _ _:=o5
 obtain⟨rfl,rfl,rfl⟩:=qjj o5' (Or.inr rfl)
 obtain rfl:=qmk (x:=(0,2)) (N:=0) (D:=1) o5' (by decide) ⟨by decide,by decide,by decide,by decide⟩ (by decide)
 obtain⟨r6,t6,_,_,_,rfl,o6,q6⟩:=qbh q5
 have o6':Outc gl 0 1 _ r6 _ _ _:=o6
 obtain⟨rfl,rfl,rfl,rfl⟩:=o6'.k4 rfl rfl gT2 (by decide)
 obtain⟨r7,t7,_,_,_,rfl,o7,q7⟩:=qbh q6
 have o7':Outc gl 2 1 _ r7 _ _ _:=o7
 obtain⟨rfl,rfl,rfl⟩:=qjj o7' (Or.inl rfl)
 obtain rfl:=qqK (p:=⟨1,0,2⟩) (N:=4) (D:=1) o7' (by simp) (by decide) (by decide) (by decide) (by decide) (by decide)
 obtain⟨r8,t8,_,_,_,rfl,o8,q8⟩:=qbh q7
 have o8':Outc gl 2 1 _ r8 _ _ _:=o8
 obtain⟨rfl,rfl,rfl⟩:=qjj o8' (Or.inr rfl)
 obtain rfl:=qmk (x:=(0,1)) (N:=0) (D:=1) o8' (by decide) ⟨by decide,by decide,by decide,by decide⟩ (by decide)
 obtain⟨r9,t9,_,_,_,rfl,o9,q9⟩:=qbh q8
 have o9':Outc gl 2 1 _ r9 _ _ _:=o9
 obtain⟨rfl,e1,e2,e3⟩:=qpP q9
 have g9:r9.e=44:=by
  rw[o9'.ee,qjQ (by rfl),if_neg (fun q=>q (qbj.2 gT1)),if_neg (by decide)]
 obtain⟨f1,f2,f3,f4⟩:=o9'.err (by rw[g9];decide)
 rw[g9] at f1
 subst f1 e1 e2 e3 f2 f3 f4
 refine⟨?_,rfl,rfl,rfl⟩
 rw[show qgf _ _ _ _ _=_ from qsY]
 rfl
theorem qdV:Fn 19 0 [] [] (.pv (.bool true)) 0 []:=by
 have v0:Val []:=⟨by decide,fun p hp=>(by cases hp),fun k p q h=>(by simp at h)⟩
 obtain⟨c1,_⟩:=qeI (s:=[]) (n:=0) (d:=1) (by decide) (by decide)
 rw[(qiW (by decide) (by decide)).2 ⟨v0,gT0⟩] at c1
 obtain⟨rs,n',d',s',h1,h2,h3,h4,h5⟩:=qsD (s:=[]) (n:=0) (d:=1) (qs:=qir) (by decide) v0 gT0 (by unfold qzs;decide)
 obtain⟨rfl,rfl,rfl,rfl⟩:=qk0 h1
 have hn:=qpo (n:=0) (d:=1) (qyZ (ha:=fun w=>by have:=qcy 0 1 w (by decide) (by decide);rwa [qbj.2 gT0] at this) (hn:=qsb))
 exact wal (hn:=hn) (hr:=qvv (k:=9) (ds:=qbq qhE) (qs:=qir) (hc:=c1) (hl:=by decide) (hr:=h5)) (hs:=qoK (rs:=qhE) (by decide) (by decide))
end Go.Proofs.YtleaeldgaflmkaaGreat

namespace Go.Proofs.YtleaeldgaflmkaaGreat
set_option maxRecDepth 100000
open Go.RowKit
theorem qzE {tn td:Int} {s:List Pt} (hg:Fn 20 1 [qaq 0 s] [(0,0,qad s)] (.pv (.bool true)) 0 []) :
 Fn 32 1 [moS 0 s tn td] [(0,0,qad s)] (.pv (.bool false)) 0 []:=
 Fz [] [Cf hg [0],.k]
  tI (Co hg [0] 2 tI)
theorem qz1 {tn td e1:Int} {s:List Pt} (hg:Fn 20 1 [qaq 0 s] [(0,0,qad s)] (.pv (.bool false)) 0 []) (hc:Fn 25 1 [moS 0 s tn td] [(0,0,qad s)] (.pv (iV (e1))) 0 []) (he:(e1==0)=true) :
 Fn 32 1 [moS 0 s tn td] [(0,0,qad s)] (.pv (.bool true)) 0 []:=
 Fz [] [Cf hg [0],.k,Cf hc [0],.t true]
  tI (Co hg [0] 2 (Co hc [0] 2 (Ai he tI)))
theorem qys {tn td e1:Int} {s:List Pt} (hg:Fn 20 1 [qaq 0 s] [(0,0,qad s)] (.pv (.bool false)) 0 []) (hc:Fn 25 1 [moS 0 s tn td] [(0,0,qad s)] (.pv (iV (e1))) 0 []) (he:(e1==0)=false) :
 Fn 32 1 [moS 0 s tn td] [(0,0,qad s)] (.pv (.bool false)) 0 []:=
 Fz [] [Cf hg [0],.k,Cf hc [0],.t false]
  tI (Co hg [0] 2 (Co hc [0] 2 (Ai he tI)))
end Go.Proofs.YtleaeldgaflmkaaGreat

namespace Go.Proofs.YtleaeldgaflmkaaGreat
set_option maxRecDepth 100000
open Go.RowKit
section
variable {s:List Pt} {n d:Int}
theorem qrX (hn:I64 n) (hd:I64 d):(Fn 32 1 [moS 0 s n d] [(0,0,qad s)] (.pv (.bool false)) 0 [])∨(Val s∧AskT n d∧Fn 32 1 [moS 0 s n d] [(0,0,qad s)] (.pv (.bool true)) 0 []):=by
 obtain⟨_,c2⟩:=qeI (s:=s) hn hd
 rcases qsy s with hg | ⟨_,hg⟩
 ·exact Or.inl (qzE (hg:=hg))
 ·by_cases h:qul s n d=0
  ·obtain⟨hv,ht⟩:=(qiW hn hd).1 h
   exact Or.inr ⟨hv,ht,qz1 (hg:=hg) (hc:=c2) (he:=by simp[h])⟩
  ·exact Or.inl (qys (hg:=hg) (hc:=c2) (he:=by simp[h]))
theorem qAH {W:World} {f:FuncId} {u:Value} {vs:List Value} (h:Fn f 1 (moS 0 s n d::vs.map .pv) [(0,0,qad s)] (.pv (.bool true)) 0 []) (hs:Rd W 3 u s.length (qaX s)) :
 Calls Tryz.prog f (.agg #[iV n,iV d,u]::vs).toArray W fun e W'=>e=.returned (.bool true)∧Gr W W':=
 qqI (rs:=[(34,3,s.length,qaX s)]) (us:=[u]) h (.cons hs (qgi s) .nil) ⟨⟨[iV n,iV d,u],⟨rfl,rfl,⟨rfl,hs.zsl⟩,tI⟩,rfl⟩,SV.isl_v vs⟩
end
end Go.Proofs.YtleaeldgaflmkaaGreat

namespace Go.Proofs.YtleaeldgaflmkaaGreat
set_option maxRecDepth 100000
open Go.RowKit
section
variable {s s' s0:List Pt} {n d n' d':Int} {qs:List AskQ}
theorem qg3 (hl:qs.length≤999999):∀ (rest:List AskQ) (rs:List Rep) (k:Nat) (s:List Pt) (n d:Int) (ds:List Dn) (n' d':Int) (s':List Pt),qs=qs.take k++rest→k+rest.length=qs.length→qoo s n d rest rs n' d' s'→
 Rl 2 2 42 0 40 6 (orT qs k) (orH s0 qs s n d (qtI k ds)) (.exit 0) (orE qs.length) (orH s0 qs s' n' d' (qtI qs.length (ds++qbq rs)))
 | [],[],k,s,n,d,ds,n',d',s',_,hk,⟨e1,e2,e3⟩=>by
  have e:k=qs.length:=by simpa using hk
  rw[show ds++qbq []=ds from List.append_nil _]
  subst e e1 e2 e3
  exact qmJ (hlt:=df (by omega))
 | [],_::_,_,_,_,_,_,_,_,_,_,_,h=>h.elim
 | _::_,[],_,_,_,_,_,_,_,_,_,_,h=>h.elim
 | a::rest,r::rs,k,s,n,d,ds,n',d',s',hq,hk,⟨n1,d1,s1,o,h⟩=>by
  have hkl:k<qs.length:=by rw[← hk,List.length_cons];omega
  have hka:qs[k]?=some a:=by
   rw[hq,List.getElem?_append_right (by rw[List.length_take];omega),List.length_take,Nat.min_eq_left (by omega),Nat.sub_self]
   rfl
  have ih:=qg3 hl rest rs (k+1) s1 n1 d1 (ds++qef r) n' d' s' (by rw[List.take_add_one,hka,List.append_assoc];exact hq) (by rw[← hk,List.length_cons];omega) h
  rw[show ds++qbq (r::rs)=ds++qef r++qbq rs by rw[List.append_assoc];rfl]
  exact qjw o hka hl ih
theorem qrd {rs:List Rep} (hl:qs.length≤999999) (hv:Val s) (ho:qoo s n d qs rs n' d' s') :
 Fn 42 2 [moS 0 s n d,.ls 1 qs.length] [(0,0,qad s),(1,0,qf6 qs)] (.tu [mo1 2 s' n' d',.one (.dv 6 qs.length (qbq rs))]) 1 [(2,0,qad s')]:=by
 have hc:=qhr (l:=s) (by have:=hv.len;omega)
 match qs,rs,ho with
 | [],[],⟨e1,e2,e3⟩=>subst e1 e2 e3;exact qnR (hc:=hc) (r0:=qjk (hlt:=by decide))
 | [],_::_,h=>exact h.elim
 | _::_,[],h=>exact h.elim
 | a::rest,r::rs,⟨n1,d1,s1,o,h⟩=>
  have ih:=qg3 (s0:=s) (qs:=a::rest) hl rest rs 1 s1 n1 d1 (qef r) n' d' s' rfl (by rw[List.length_cons];omega) h
  exact qrg (hc:=hc) (r0:=qhj o rfl hl ih)
theorem qvZ {rs:List Rep} (hl:qs.length≤120) (hv:Val s) (ht:AskT n d) (ho:qoo s n d qs rs n' d' s'):qy8 13 s n d qs qs.length (qbq rs) n' d' s' 0:=by
 obtain⟨i1,i2,_⟩:=ht.in
 obtain⟨c1,_⟩:=qeI (s:=s) i1 i2
 rw[(qiW i1 i2).2 ⟨hv,ht⟩] at c1
 exact qvv (hc:=c1) (hl:=df (by omega)) (hr:=qrd (by omega) hv ho)
theorem qzy {a:AskQ} {r:Rep} (hv:Val s) (ht:AskT n d) (o:Outc s n d a r n' d' s'):qAw 12 s n d a r n' d' s' 0:=by
 obtain⟨i1,i2,_⟩:=ht.in
 obtain⟨c1,_⟩:=qeI (s:=s) i1 i2
 rw[(qiW i1 i2).2 ⟨hv,ht⟩] at c1
 exact qzf (hc:=c1) (hr:=qrd (qs:=[a]) (rs:=[r]) (by show 1≤999999;decide) hv ⟨n',d',s',o,rfl,rfl,rfl⟩) (h0:=by decide)
end
end Go.Proofs.YtleaeldgaflmkaaGreat
