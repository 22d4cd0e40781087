/-
  Joined: Vr, Vv, Vw, VA, Vx, VC, VE, VD, VF. Conditions: none.
-/
import Derived.Test.YtleaeldgaflmkaaGreatW46
import Derived.Test.YtleaeldgaflmkaaGreatW25
import Derived.Test.YtleaeldgaflmkaaGreatW37
import Derived.Test.YtleaeldgaflmkaaGreatW44
import Derived.Test.YtleaeldgaflmkaaGreatW36
import Derived.Test.YtleaeldgaflmkaaGreatZj
import Derived.Test.YtleaeldgaflmkaaGreatW34
import Derived.Deep.Strs
import Derived.Lib.SmallJoins
import Derived.Test.YtleaeldgaflmkaaGreatW45
namespace Go.Proofs.YtleaeldgaflmkaaGreat
set_option maxRecDepth 100000
open Go.RowKit
abbrev qsP (d:Int) (n:Int) (qs:List AskQ) (s:List Pt) (s0:List Pt):HpL:=[(2,0,.pv (iV n)),(2,1,.pv (iV d)),(2,2,.ls 4 s.length),(3,0,.pv (iV 0)),(3,1,.pv (iV 0)),(3,2,.pv (.slice none 0 0)),(0,0,qad s0),(1,0,qcG qs),(4,0,qad s),(5,0,.row 38 6 0 [])]
abbrev qtl (qs:List AskQ):TmL:=[(2,.pp 2 0),(4,.pp 3 0),(6,.ls 5 0),(17,.ls 1 qs.length),(18,.pv (iV (qs.length:Int))),(19,.pv (iV (0:Int)))]
abbrev qx8 (qs:List AskQ):TmL:=[(2,.pp 2 0),(4,.pp 3 0),(6,.ls 5 (0+1:Nat)),(17,.ls 1 qs.length),(18,.pv (iV (qs.length:Int))),(19,.pv (iV ((0+1:Nat):Int)))]
theorem qvm {n d n' d':Int} {s s' s0:List Pt} {rp:Rep} {qs:List AskQ} {aq:AskQ} (hlt:decide (((0:Nat):Int)<(qs.length:Int))=true) (hin:0≤((0:Nat):Int)∧((0:Nat):Int)<(qs.length:Int)) (hk:qs[0]?=some aq) (hd:Fn 69 1 [moS 0 s n d,.pv (qc3 aq)] [(0,0,qad s)] (.tu [mo1 1 s' n' d',.ag (qeB rp)]) 1 [(1,0,qad s')]) (he:(rp.e==0)=true) (hm:0+1≤1000000) (hs:iV (IntKind.i64.wrap (((0:Nat):Int)+1))=iV (((0+1:Nat):Int))) {e:Exit} {tm2:TmL} {hp2:HpL}
 (r:Rl 2 2 42 0 40 6 (qx8 qs) ([(2,0,.pv (iV n')),(2,1,.pv (iV d')),(2,2,.ls 4 s'.length),(3,0,.pv (iV 0)),(3,1,.pv (iV 0)),(3,2,.pv (.slice none 0 0)),(0,0,qad s0),(1,0,qcG qs),(4,0,qad s'),(5,0,.drow 38 6 (0+1) ([]++qfE rp))]) e tm2 hp2):Rl 2 2 42 0 40 6 (qtl qs) (qsP d n qs s s0) e tm2 hp2:=
 RunsL.next [(4,7),(5,11)] 300 [.t true,.r (qc3 aq),Cf hd [4],.t true,.r (iV (((0+1:Nat):Int)))]
  (Ro (Ai hlt (Ai hin (Ai (qeq hk) (Co hd [4] 7 (Ai he (Ai hm (Ai hs tI)))))))) r
abbrev qs6 (d:Int) (ds:List Dn) (k:Nat) (n:Int) (qs:List AskQ) (s:List Pt) (s0:List Pt):HpL:=[(2,0,.pv (iV n)),(2,1,.pv (iV d)),(2,2,.ls 4 s.length),(3,0,.pv (iV 0)),(3,1,.pv (iV 0)),(3,2,.pv (.slice none 0 0)),(0,0,qad s0),(1,0,qcG qs),(4,0,qad s),(5,0,.drow 38 6 k ds)]
abbrev qwA (k:Nat) (qs:List AskQ):TmL:=[(2,.pp 2 0),(4,.pp 3 0),(6,.ls 5 k),(17,.ls 1 qs.length),(18,.pv (iV (qs.length:Int))),(19,.pv (iV (k:Int)))]
abbrev qya (k:Nat) (qs:List AskQ):TmL:=[(2,.pp 2 0),(4,.pp 3 0),(6,.ls 5 (k+1:Nat)),(17,.ls 1 qs.length),(18,.pv (iV (qs.length:Int))),(19,.pv (iV ((k+1:Nat):Int)))]
theorem qyT {n d n' d':Int} {s s' s0:List Pt} {rp:Rep} {qs:List AskQ} {aq:AskQ} {k:Nat} {ds:List Dn} (hlt:decide ((k:Int)<(qs.length:Int))=true) (hin:0≤(k:Int)∧(k:Int)<(qs.length:Int)) (hk:qs[k]?=some aq) (hd:Fn 69 1 [moS 0 s n d,.pv (qc3 aq)] [(0,0,qad s)] (.tu [mo1 1 s' n' d',.ag (qeB rp)]) 1 [(1,0,qad s')]) (he:(rp.e==0)=true) (hm:k+1≤1000000) (hs:iV (IntKind.i64.wrap ((k:Int)+1))=iV (((k+1:Nat):Int))) {e:Exit} {tm2:TmL} {hp2:HpL}
 (r:Rl 2 2 42 0 40 6 (qya k qs) ([(2,0,.pv (iV n')),(2,1,.pv (iV d')),(2,2,.ls 4 s'.length),(3,0,.pv (iV 0)),(3,1,.pv (iV 0)),(3,2,.pv (.slice none 0 0)),(0,0,qad s0),(1,0,qcG qs),(4,0,qad s'),(5,0,.drow 38 6 (k+1) (ds++qfE rp))]) e tm2 hp2):Rl 2 2 42 0 40 6 (qwA k qs) (qs6 d ds k n qs s s0) e tm2 hp2:=
 RunsL.next [(4,7),(5,11)] 300 [.t true,.r (qc3 aq),Cf hd [4],.t true,Re hs]
  (Ro (Ai hlt (Ai hin (Ai (qeq hk) (Co hd [4] 7 (Ai he (Ai hm (Ai hs tI)))))))) r
theorem qvz {n d n' d':Int} {s s0:List Pt} {rp:Rep} {qs:List AskQ} {aq:AskQ} (hlt:decide (((0:Nat):Int)<(qs.length:Int))=true) (hin:0≤((0:Nat):Int)∧((0:Nat):Int)<(qs.length:Int)) (hk:qs[0]?=some aq) (hd:Fn 69 1 [moS 0 s n d,.pv (qc3 aq)] [(0,0,qad s)] (.tu [mo1 0 s n' d',.ag (qeB rp)]) 0 []) (he:(rp.e==0)=true) (hm:0+1≤1000000) (hs:iV (IntKind.i64.wrap (((0:Nat):Int)+1))=iV (((0+1:Nat):Int))) {e:Exit} {tm2:TmL} {hp2:HpL}
 (r:Rl 2 2 42 0 40 6 (qx8 qs) ([(2,0,.pv (iV n')),(2,1,.pv (iV d')),(2,2,.ls 4 s.length),(3,0,.pv (iV 0)),(3,1,.pv (iV 0)),(3,2,.pv (.slice none 0 0)),(0,0,qad s0),(1,0,qcG qs),(4,0,qad s),(5,0,.drow 38 6 (0+1) ([]++qfE rp))]) e tm2 hp2):Rl 2 2 42 0 40 6 (qtl qs) (qsP d n qs s s0) e tm2 hp2:=
 RunsL.next [(5,10)] 300 [.t true,.r (qc3 aq),Cf hd [4],.t true,.r (iV (((0+1:Nat):Int)))]
  (Ro (Ai hlt (Ai hin (Ai (qeq hk) (Co hd [4] 7 (Ai he (Ai hm (Ai hs tI)))))))) r
theorem qyS {n d n' d':Int} {s s0:List Pt} {rp:Rep} {qs:List AskQ} {aq:AskQ} {k:Nat} {ds:List Dn} (hlt:decide ((k:Int)<(qs.length:Int))=true) (hin:0≤(k:Int)∧(k:Int)<(qs.length:Int)) (hk:qs[k]?=some aq) (hd:Fn 69 1 [moS 0 s n d,.pv (qc3 aq)] [(0,0,qad s)] (.tu [mo1 0 s n' d',.ag (qeB rp)]) 0 []) (he:(rp.e==0)=true) (hm:k+1≤1000000) (hs:iV (IntKind.i64.wrap ((k:Int)+1))=iV (((k+1:Nat):Int))) {e:Exit} {tm2:TmL} {hp2:HpL}
 (r:Rl 2 2 42 0 40 6 (qya k qs) ([(2,0,.pv (iV n')),(2,1,.pv (iV d')),(2,2,.ls 4 s.length),(3,0,.pv (iV 0)),(3,1,.pv (iV 0)),(3,2,.pv (.slice none 0 0)),(0,0,qad s0),(1,0,qcG qs),(4,0,qad s),(5,0,.drow 38 6 (k+1) (ds++qfE rp))]) e tm2 hp2):Rl 2 2 42 0 40 6 (qwA k qs) (qs6 d ds k n qs s s0) e tm2 hp2:=
 RunsL.next [(5,10)] 300 [.t true,.r (qc3 aq),Cf hd [4],.t true,Re hs]
  (Ro (Ai hlt (Ai hin (Ai (qeq hk) (Co hd [4] 7 (Ai he (Ai hm (Ai hs tI)))))))) r
theorem qwB {n d x y:Int} {s s0:List Pt} {rp:Rep} {qs:List AskQ} {aq:AskQ} (hlt:decide (((0:Nat):Int)<(qs.length:Int))=true) (hin:0≤((0:Nat):Int)∧((0:Nat):Int)<(qs.length:Int)) (hk:qs[0]?=some aq) (hd:Fn 69 1 [moS 0 s n d,.pv (qc3 aq)] [(0,0,qad s)] (.tu [mo1 0 s x y,.ag (qeB rp)]) 0 []) (he:(rp.e==0)=false) (hm:0+1≤1000000) (hs:iV (IntKind.i64.wrap (((0:Nat):Int)+1))=iV (((0+1:Nat):Int))) {e:Exit} {tm2:TmL} {hp2:HpL}
 (r:Rl 2 2 42 0 40 6 (qx8 qs) ([(2,0,.pv (iV n)),(2,1,.pv (iV d)),(2,2,.ls 4 s.length),(3,0,.pv (iV 0)),(3,1,.pv (iV 0)),(3,2,.pv (.slice none 0 0)),(0,0,qad s0),(1,0,qcG qs),(4,0,qad s),(5,0,.drow 38 6 (0+1) ([]++qfE rp))]) e tm2 hp2):Rl 2 2 42 0 40 6 (qtl qs) (qsP d n qs s s0) e tm2 hp2:=
 RunsL.next [(5,10)] 300 [.t true,.r (qc3 aq),Cf hd [4],.t false,.r (iV (((0+1:Nat):Int)))]
  (Ro (Ai hlt (Ai hin (Ai (qeq hk) (Co hd [4] 7 (Ai he (Ai hm (Ai hs tI)))))))) r
theorem qyE {n d x y:Int} {s s0:List Pt} {rp:Rep} {qs:List AskQ} {aq:AskQ} {k:Nat} {ds:List Dn} (hlt:decide ((k:Int)<(qs.length:Int))=true) (hin:0≤(k:Int)∧(k:Int)<(qs.length:Int)) (hk:qs[k]?=some aq) (hd:Fn 69 1 [moS 0 s n d,.pv (qc3 aq)] [(0,0,qad s)] (.tu [mo1 0 s x y,.ag (qeB rp)]) 0 []) (he:(rp.e==0)=false) (hm:k+1≤1000000) (hs:iV (IntKind.i64.wrap ((k:Int)+1))=iV (((k+1:Nat):Int))) {e:Exit} {tm2:TmL} {hp2:HpL}
 (r:Rl 2 2 42 0 40 6 (qya k qs) ([(2,0,.pv (iV n)),(2,1,.pv (iV d)),(2,2,.ls 4 s.length),(3,0,.pv (iV 0)),(3,1,.pv (iV 0)),(3,2,.pv (.slice none 0 0)),(0,0,qad s0),(1,0,qcG qs),(4,0,qad s),(5,0,.drow 38 6 (k+1) (ds++qfE rp))]) e tm2 hp2):Rl 2 2 42 0 40 6 (qwA k qs) (qs6 d ds k n qs s s0) e tm2 hp2:=
 RunsL.next [(5,10)] 300 [.t true,.r (qc3 aq),Cf hd [4],.t false,Re hs]
  (Ro (Ai hlt (Ai hin (Ai (qeq hk) (Co hd [4] 7 (Ai he (Ai hm (Ai hs tI)))))))) r
theorem qvB {n d x y:Int} {s s0:List Pt} {rp:Rep} {qs:List AskQ} {aq:AskQ} (hlt:decide (((0:Nat):Int)<(qs.length:Int))=true) (hin:0≤((0:Nat):Int)∧((0:Nat):Int)<(qs.length:Int)) (hk:qs[0]?=some aq) (hd:Fn 69 1 [moS 0 s n d,.pv (qc3 aq)] [(0,0,qad s)] (.tu [.one (.pv (.agg #[iV x,iV y,.slice none 0 0])),.ag (qeB rp)]) 0 []) (he:(rp.e==0)=false) (hm:0+1≤1000000) (hs:iV (IntKind.i64.wrap (((0:Nat):Int)+1))=iV (((0+1:Nat):Int))) {e:Exit} {tm2:TmL} {hp2:HpL}
 (r:Rl 2 2 42 0 40 6 (qx8 qs) ([(2,0,.pv (iV n)),(2,1,.pv (iV d)),(2,2,.ls 4 s.length),(3,0,.pv (iV 0)),(3,1,.pv (iV 0)),(3,2,.pv (.slice none 0 0)),(0,0,qad s0),(1,0,qcG qs),(4,0,qad s),(5,0,.drow 38 6 (0+1) ([]++qfE rp))]) e tm2 hp2):Rl 2 2 42 0 40 6 (qtl qs) (qsP d n qs s s0) e tm2 hp2:=
 RunsL.next [(5,10)] 300 [.t true,.r (qc3 aq),Cf hd [4],.t false,.r (iV (((0+1:Nat):Int)))]
  (Ro (Ai hlt (Ai hin (Ai (qeq hk) (Co hd [4] 7 (Ai he (Ai hm (Ai hs tI)))))))) r
theorem qzG {n d x y:Int} {s s0:List Pt} {rp:Rep} {qs:List AskQ} {aq:AskQ} {k:Nat} {ds:List Dn} (hlt:decide ((k:Int)<(qs.length:Int))=true) (hin:0≤(k:Int)∧(k:Int)<(qs.length:Int)) (hk:qs[k]?=some aq) (hd:Fn 69 1 [moS 0 s n d,.pv (qc3 aq)] [(0,0,qad s)] (.tu [.one (.pv (.agg #[iV x,iV y,.slice none 0 0])),.ag (qeB rp)]) 0 []) (he:(rp.e==0)=false) (hm:k+1≤1000000) (hs:iV (IntKind.i64.wrap ((k:Int)+1))=iV (((k+1:Nat):Int))) {e:Exit} {tm2:TmL} {hp2:HpL}
 (r:Rl 2 2 42 0 40 6 (qya k qs) ([(2,0,.pv (iV n)),(2,1,.pv (iV d)),(2,2,.ls 4 s.length),(3,0,.pv (iV 0)),(3,1,.pv (iV 0)),(3,2,.pv (.slice none 0 0)),(0,0,qad s0),(1,0,qcG qs),(4,0,qad s),(5,0,.drow 38 6 (k+1) (ds++qfE rp))]) e tm2 hp2):Rl 2 2 42 0 40 6 (qwA k qs) (qs6 d ds k n qs s s0) e tm2 hp2:=
 RunsL.next [(5,10)] 300 [.t true,.r (qc3 aq),Cf hd [4],.t false,Re hs]
  (Ro (Ai hlt (Ai hin (Ai (qeq hk) (Co hd [4] 7 (Ai he (Ai hm (Ai hs tI)))))))) r
theorem qlV {n d:Int} {s s0:List Pt} {qs:List AskQ} {k:Nat} {ds:List Dn} (hlt:decide ((k:Int)<(qs.length:Int))=false):Rl 2 2 42 0 40 6 (qwA k qs) (qs6 d ds k n qs s s0) (.exit 0) ([(2,.pp 2 0),(4,.pp 3 0),(6,.ls 5 k)]) (qs6 d ds k n qs s s0):=
 RunsL.stop [] 300 [.t false] (fun h=>by cases h)
  (Ro (Ai hlt tI))
theorem qjO {n d:Int} {s s0:List Pt} {qs:List AskQ} (hlt:decide (((0:Nat):Int)<(qs.length:Int))=false):Rl 2 2 42 0 40 6 (qtl qs) (qsP d n qs s s0) (.exit 0) ([(2,.pp 2 0),(4,.pp 3 0),(6,.ls 5 0)]) (qsP d n qs s s0):=
 RunsL.stop [] 300 [.t false] (fun h=>by cases h)
  (Ro (Ai hlt tI))
abbrev qAB (qs:List AskQ) (s0:List Pt) (td:Int) (tn:Int):HpL:=[(2,0,.pv (iV tn)),(2,1,.pv (iV td)),(2,2,.ls 4 s0.length),(3,0,.pv (iV 0)),(3,1,.pv (iV 0)),(3,2,.pv (.slice none 0 0)),(0,0,qad s0),(1,0,qcG qs),(4,0,qad s0),(5,0,.row 38 6 0 [])]
theorem qr0 {tn td n d:Int} {s s0:List Pt} {qs:List AskQ} {k:Nat} {ds:List Dn} (hc:Fn 68 1 [.ls 0 s0.length] [(0,0,qad s0)] (.ls 1 s0.length) 1 [(1,0,qad s0)]) (r0:Rl 2 2 42 0 40 6 (qtl qs) (qAB qs s0 td tn) (.exit 0) ([(2,.pp 2 0),(4,.pp 3 0),(6,.ls 5 k)]) (qs6 d ds k n qs s s0)) :
 Fn 42 2 [moS 0 s0 tn td,.ls 1 qs.length] [(0,0,qad s0),(1,0,qcG qs)] (.tu [mo1 2 s n d,.one (.dv 6 k ds)]) 1 [(2,0,qad s)]:=
 Fz [(2,4)] [Cf hc [0],.ln true 6 0 38 6,Lf r0,.fz true 6 0 0 6 ds]
  (qaH (qaF [(2,4)]) [(2,0,qad s)]) (Co hc [0] 4 (Lo r0 [] (Ai (LeD.refl ds) tI)))
theorem qnA {tn td n d:Int} {s s0:List Pt} {qs:List AskQ} (hc:Fn 68 1 [.ls 0 s0.length] [(0,0,qad s0)] (.ls 1 s0.length) 1 [(1,0,qad s0)]) (r0:Rl 2 2 42 0 40 6 (qtl qs) (qAB qs s0 td tn) (.exit 0) ([(2,.pp 2 0),(4,.pp 3 0),(6,.ls 5 0)]) (qsP d n qs s s0)) :
 Fn 42 2 [moS 0 s0 tn td,.ls 1 qs.length] [(0,0,qad s0),(1,0,qcG qs)] (.tu [mo1 2 s n d,.one (.dv 6 0 [])]) 1 [(2,0,qad s)]:=
 Fz [(2,4)] [Cf hc [0],.ln true 6 0 38 6,Lf r0,.fz true 6 0 0 6 []]
  (qaH (qaF [(2,4)]) [(2,0,qad s)]) (Co hc [0] 4 (Lo r0 [] (Ai (LeD.refl []) tI)))
end Go.Proofs.YtleaeldgaflmkaaGreat

namespace Go.Proofs.YtleaeldgaflmkaaGreat
set_option maxRecDepth 100000
open Go.RowKit
def qiQ (s:List Pt) (n d:Int):List AskQ→List Rep→Int→Int→List Pt→Prop
 | [],[],n',d',s'=>n'=n∧d'=d∧s'=s
 | a::qs,r::rs,n',d',s'=>∃ n1 d1 s1,Outc s n d a r n1 d1 s1∧qiQ s1 n1 d1 qs rs n' d' s'
 | _,_,_,_,_=>False
def qq4 (a:AskQ):Prop:=I64 a.qn∧I64 a.qd
abbrev qbg (rs:List Rep):List Dn:=rs.flatMap qfE
abbrev orT (qs:List AskQ) (k:Nat):List (Nat×SV):=[(2,.pp 2 0),(4,.pp 3 0),(6,.ls 5 k),(17,.ls 1 qs.length),(18,.pv (iV (qs.length:Int))),(19,.pv (iV (k:Int)))]
abbrev orH (s0:List Pt) (qs:List AskQ) (s:List Pt) (n d:Int) (row:SV):List (Nat×Nat×SV):=[(2,0,.pv (iV n)),(2,1,.pv (iV d)),(2,2,.ls 4 s.length),(3,0,.pv (iV 0)),(3,1,.pv (iV 0)),(3,2,.pv (.slice none 0 0)),(0,0,qad s0),(1,0,qcG qs),(4,0,qad s),(5,0,row)]
abbrev orE (k:Nat):List (Nat×SV):=[(2,.pp 2 0),(4,.pp 3 0),(6,.ls 5 k)]
abbrev qsz (k:Nat) (ds:List Dn):SV:=.drow 38 6 k ds
section
variable {s s' s0:List Pt} {n d n' d':Int} {qs:List AskQ} {a:AskQ} {r:Rep} {k:Nat} {ds:List Dn}
theorem qj7 (o:Outc s n d a r n' d' s') (hk:qs[k]?=some a) (hl:qs.length≤999999) {e:Exit} {tm2:TmL} {hp2:HpL}
 (rr:Rl 2 2 42 0 40 6 (orT qs (k+1)) (orH s0 qs s' n' d' (qsz (k+1) (ds++qfE r))) e tm2 hp2) :
 Rl 2 2 42 0 40 6 (orT qs k) (orH s0 qs s n d (qsz k ds)) e tm2 hp2:=by
 have hkl:=qav hk
 rcases o.prg with ⟨he,h⟩ | ⟨he,hs,h⟩ | ⟨he,x,y,h⟩ | ⟨he,x,y,h⟩
 ·exact qyT (hlt:=dt (by omega)) (hin:=⟨by omega,by omega⟩) (hk:=hk) (hd:=h) (he:=by simp[he]) (hm:=by omega) (hs:=qat (by omega)) rr
 ·subst hs
  exact qyS (hlt:=dt (by omega)) (hin:=⟨by omega,by omega⟩) (hk:=hk) (hd:=h) (he:=by simp[he]) (hm:=by omega) (hs:=qat (by omega)) rr
 ·obtain⟨_,rfl,rfl,rfl⟩:=o.err he
  exact qyE (hlt:=dt (by omega)) (hin:=⟨by omega,by omega⟩) (hk:=hk) (hd:=h) (he:=by simp[he]) (hm:=by omega) (hs:=qat (by omega)) rr
 ·obtain⟨_,rfl,rfl,rfl⟩:=o.err he
  exact qzG (hlt:=dt (by omega)) (hin:=⟨by omega,by omega⟩) (hk:=hk) (hd:=h) (he:=by simp[he]) (hm:=by omega) (hs:=qat (by omega)) rr
theorem qhU (o:Outc s n d a r n' d' s') (hk:qs[0]?=some a) (hl:qs.length≤999999) {e:Exit} {tm2:TmL} {hp2:HpL}
 (rr:Rl 2 2 42 0 40 6 (orT qs 1) (orH s0 qs s' n' d' (qsz 1 (qfE r))) e tm2 hp2) :
 Rl 2 2 42 0 40 6 (orT qs 0) (orH s0 qs s n d (.row 38 6 0 [])) e tm2 hp2:=by
 have hkl:=qav hk
 rcases o.prg with ⟨he,h⟩ | ⟨he,hs,h⟩ | ⟨he,x,y,h⟩ | ⟨he,x,y,h⟩
 ·exact qvm (hlt:=dt (by omega)) (hin:=⟨by omega,by omega⟩) (hk:=hk) (hd:=h) (he:=by simp[he]) (hm:=by omega) (hs:=qat (by omega)) rr
 ·subst hs
  exact qvz (hlt:=dt (by omega)) (hin:=⟨by omega,by omega⟩) (hk:=hk) (hd:=h) (he:=by simp[he]) (hm:=by omega) (hs:=qat (by omega)) rr
 ·obtain⟨_,rfl,rfl,rfl⟩:=o.err he
  exact qwB (hlt:=dt (by omega)) (hin:=⟨by omega,by omega⟩) (hk:=hk) (hd:=h) (he:=by simp[he]) (hm:=by omega) (hs:=qat (by omega)) rr
 ·obtain⟨_,rfl,rfl,rfl⟩:=o.err he
  exact qvB (hlt:=dt (by omega)) (hin:=⟨by omega,by omega⟩) (hk:=hk) (hd:=h) (he:=by simp[he]) (hm:=by omega) (hs:=qat (by omega)) rr
theorem qjH (hl:qs.length≤999999):∀ (rest:List AskQ) (k:Nat) (s:List Pt) (n d:Int) (ds:List Dn),qs=qs.take k++rest→k+rest.length=qs.length→Val s→AskT n d→(∀ a∈rest,qq4 a)→
 ∃ rs n' d' s',qiQ s n d rest rs n' d' s'∧Val s'∧AskT n' d'∧rs.length=rest.length∧
  Rl 2 2 42 0 40 6 (orT qs k) (orH s0 qs s n d (qsz k ds)) (.exit 0) (orE qs.length) (orH s0 qs s' n' d' (qsz qs.length (ds++qbg rs)))
 | [],k,s,n,d,ds,_,hk,hv,ht,_=>by
  have e:k=qs.length:=by simpa using hk
  refine⟨[],n,d,s,⟨rfl,rfl,rfl⟩,hv,ht,rfl,?_⟩
  rw[show ds++qbg []=ds from List.append_nil _]
  subst e
  exact qlV (hlt:=df (by omega))
 | a::rest,k,s,n,d,ds,hq,hk,hv,ht,hn=>by
  have hkl:k<qs.length:=by rw[← hk,List.length_cons];omega
  have hka:qs[k]?=some a:=by
   rw[hq,List.getElem?_append_right (by rw[List.length_take];omega),List.length_take,Nat.min_eq_left (by omega),Nat.sub_self]
   rfl
  obtain⟨r,n1,d1,s1,o⟩:=qgU a hv ht (hn a List.mem_cons_self)
  obtain⟨rs,n',d',s',h1,h2,h3,h4,h5⟩:=qjH hl rest (k+1) s1 n1 d1 (ds++qfE r) (by
   rw[List.take_add_one,hka,List.append_assoc];exact hq) (by rw[← hk,List.length_cons];omega) o.val o.ask fun b hb=>hn b (List.mem_cons_of_mem _ hb)
  refine⟨r::rs,n',d',s',⟨n1,d1,s1,o,h1⟩,h2,h3,by rw[List.length_cons,h4];rfl,qj7 o hka hl ?_⟩
  rw[show ds++qbg (r::rs)=ds++qfE r++qbg rs by rw[List.append_assoc];rfl]
  exact h5
theorem qtt (hl:qs.length≤999999) (hv:Val s) (ht:AskT n d) (hn:∀ a∈qs,qq4 a):∃ rs n' d' s',qiQ s n d qs rs n' d' s'∧Val s'∧AskT n' d'∧rs.length=qs.length∧
 Fn 42 2 [moS 0 s n d,.ls 1 qs.length] [(0,0,qad s),(1,0,qcG qs)] (.tu [mo1 2 s' n' d',.one (.dv 6 qs.length (qbg rs))]) 1 [(2,0,qad s')]:=by
 have hc:=qhZ (l:=s) (by have:=hv.len;omega)
 cases qs with
 | nil=>
  exact⟨[],n,d,s,⟨rfl,rfl,rfl⟩,hv,ht,rfl,qnA (hc:=hc) (r0:=qjO (hlt:=by decide))⟩
 | cons a rest=>
  obtain⟨r,n1,d1,s1,o⟩:=qgU a hv ht (hn a List.mem_cons_self)
  obtain⟨rs,n',d',s',h1,h2,h3,h4,h5⟩:=qjH (s0:=s) hl rest 1 s1 n1 d1 (qfE r) rfl (by rw[List.length_cons];omega) o.val o.ask fun b hb=>hn b (List.mem_cons_of_mem _ hb)
  exact⟨r::rs,n',d',s',⟨n1,d1,s1,o,h1⟩,h2,h3,by rw[List.length_cons,h4];rfl,qr0 (hc:=hc) (r0:=qhU o rfl hl h5)⟩
noncomputable def qw6 (s:List Pt) (n d:Int):Int:=open Classical in if qdz n d=0∧qco s=0 then 0 else 8
theorem qj5 (hn:I64 n) (hd:I64 d):Fn 14 1 [moS 0 s n d] [(0,0,qad s)] (.pv (iV (qw6 s n d))) 0 []∧Fn 25 1 [moS 0 s n d] [(0,0,qad s)] (.pv (iV (qw6 s n d))) 0 []:=by
 have c1:Pure Tryz.prog 40 #[qaa n d] (iV (qdz n d)):=fun w=>qb1 n d w hn hd
 have c2:Pure Tryz.prog 31 #[qaa n d] (iV (qdz n d)):=fun w=>qdk n d w hn hd
 have c3:=qaT s
 have c4:=qbc s
 unfold qw6
 by_cases h1:qdz n d=0
 ·rw[h1] at c1 c2
  by_cases h2:qco s=0
  ·rw[h2] at c3 c4
   rw[if_pos ⟨h1,h2⟩]
   exact⟨qzZ (ha:=c1) (hc:=c3),qAo (ha:=c2) (hc:=c4)⟩
  ·rw[if_neg fun h=>h2 h.2]
   exact⟨qyl (ha:=c1) (hc:=c3) (he:=by simpa using h2),qyN (ha:=c2) (hc:=c4) (he:=by simpa using h2)⟩
 ·rw[if_neg fun h=>h1 h.1]
  exact⟨qAp (ha:=c1) (hc:=c3) (he:=by simpa using h1),qz7 (ha:=c2) (he:=by simpa using h1)⟩
theorem qrd (hn:I64 n) (hd:I64 d):qw6 s n d=0↔Val s∧AskT n d:=by
 unfold qw6
 split
 ·rename_i h
  exact⟨fun _=>⟨qcf.1 h.2,qbx.1 h.1⟩,fun _=>rfl⟩
 ·rename_i h
  exact⟨fun e=>(by cases e),fun k=>(h ⟨qbx.2 k.2,qcf.2 k.1⟩).elim⟩
end
end Go.Proofs.YtleaeldgaflmkaaGreat

namespace Go.Proofs.YtleaeldgaflmkaaGreat
set_option maxRecDepth 100000
open Go.RowKit
section
variable {s s':List Pt} {n d n' d':Int} {a:AskQ}
theorem qqL (r:Rep) (h:r.ms.length≤100000):Fn 26 0 [.ag (qeB r),.ag (qeB r)] [] (.pv (.bool true)) 0 []:=qzt (hs:=quG rfl h)
theorem qjc (h:s.length≤1000000):Fn 24 2 [moS 0 s n d,moS 1 s n d] [(0,0,qad s),(1,0,qad s)] (.pv (.bool true)) 0 []:=qzK (hs:=qss h)
theorem qmE:Pure Tryz.prog 41 #[] (.agg #[.slice none 0 0]):=qac (args:=[]) 200 [] (Ai rfl tI) (by kernel_rfl)
theorem qm8 {f:FuncId} {x v:Value} (h:Pure Tryz.prog f #[x] v):Fn f 0 [.pv x] [] (.pv v) 0 []:=by
 intro w β us hH hd hi
 match us,hi with
 | [y],⟨e,_⟩=>
  have e':y=x:=e
  subst e'
  exact (h w).mono fun e w' ⟨he,hg⟩=>⟨v,β,he,Bl.le_refl β,rfl,hH.gr_mono hg,hd⟩
theorem qgp {f:FuncId} {e:Int} (h:Pure Tryz.prog f #[qaa n d] (.tuple #[.agg #[iV n',iV d',.slice none 0 0],iV e])):Fn f 0 [.pv (qaa n d)] [] (.tu [mo1 0 [] n' d',.one (.pv (iV e))]) 1 [(0,0,qad [])]:=
 qsw (x:=.tu [.one (.pv (.agg #[iV n',iV d',.slice none 0 0])),.one (.pv (iV e))]) 34 3 (qgE (qm8 h) fun β v hv=>⟨[_,_],⟨rfl,rfl,tI⟩,hv⟩)
  (.tu (.cons (.un (vs:=[iV n',iV d',.slice none 0 0]) (.cons (.same _) (.cons (.same _) (.cons .nil .nil)))) (.cons (.one (.same _)) .nil)))
end
end Go.Proofs.YtleaeldgaflmkaaGreat

namespace Go.Proofs.YtleaeldgaflmkaaGreat
set_option maxRecDepth 100000
open Go.RowKit
theorem qkm:∀ {rs:List Rep} {k:Nat} {r:Rep},rs[k]?=some r→qxV (rs.flatMap qfE) (0*6+k*6) (qfE r)
 | [],k,r,h=>by simp at h
 | q::rs,0,r,h=>by
  simp at h;subst h
  intro j d hj
  show (qfE q++rs.flatMap qfE)[0*6+0*6+j]?=some d
  rw[show 0*6+0*6+j=j by omega,List.getElem?_append_left (List.getElem?_eq_some_iff.1 hj).1]
  exact hj
 | q::rs,k+1,r,h=>by
  have ih:=qkm (rs:=rs) (k:=k) (r:=r) (by simpa using h)
  intro j d hj
  have:=ih j d hj
  rw[show 0*6+(k+1)*6+j=(0*6+k*6+j)+1+1+1+1+1+1 by omega]
  exact this
abbrev qxR (rs:List Rep):HpL:=[(0,0,.rrow 38 6 rs.length (qbg rs)),(1,0,.rrow 38 6 rs.length (qbg rs))]
theorem qqz {rp:Rep} {rs:List Rep} {k:Nat} (hlt:decide ((k:Int)<(rs.length:Int))=true) (hin:0≤(k:Int)∧(k:Int)<(rs.length:Int)) (hk:rs[k]?=some rp) (hsm:Fn 26 0 [.ag (qeB rp),.ag (qeB rp)] [] (.pv (.bool true)) 0 []) (hs:iV (IntKind.i64.wrap ((k:Int)+1))=iV (((k+1:Nat):Int))) {e:Exit} {tm2:TmL} {hp2:HpL}
 (r:Rl 0 0 28 0 27 2 ([(0,.ls 0 rs.length),(1,.ls 1 rs.length),(5,.pv (iV ((k+1:Nat):Int)))]) (qxR rs) e tm2 hp2):Rl 0 0 28 0 27 2 ([(0,.ls 0 rs.length),(1,.ls 1 rs.length),(5,.pv (iV (k:Int)))]) (qxR rs) e tm2 hp2:=
 RunsL.next [] 300 [.t true,.md,.dr (qeB rp),.dr (qeB rp),Cf hsm [],.k,Re hs]
  (Ro (Ai hlt (Ai hin (Ai (qkm hk) (Ai hin (Ai (qkm hk) (Co hsm [] 2 (Ai hs tI)))))))) r
theorem quu {rs:List Rep} {k:Nat} (hlt:decide ((k:Int)<(rs.length:Int))=false):Rl 0 0 28 0 27 2 ([(0,.ls 0 rs.length),(1,.ls 1 rs.length),(5,.pv (iV (k:Int)))]) (qxR rs) (.exit 0) ([]) ([]):=
 RunsL.stop [] 300 [.t false] (fun h=>by cases h)
  (Ro (Ai hlt tI))
theorem quw {rs:List Rep} (r0:Rl 0 0 28 0 27 2 ([(0,.ls 0 rs.length),(1,.ls 1 rs.length),(5,.pv (iV ((0:Nat):Int)))]) (qxR rs) (.exit 0) ([]) ([])) :
 Fn 28 0 [.dv 6 rs.length (qbg rs),.dv 6 rs.length (qbg rs)] [] (.pv (.bool true)) 0 []:=
 Fz [] [.od true 0 0 0 38 none,.od true 1 0 0 38 none,.t false,Lf r0]
  tI (Ai (qjx (rs.length:Int)) (Lo r0 [] tI))
end Go.Proofs.YtleaeldgaflmkaaGreat

namespace Go.Proofs.YtleaeldgaflmkaaGreat
set_option maxRecDepth 100000
open Go.ChangeShapes Go.WideShapes Go.ChangeAt Go.RowKit Go.Joins Go.Deep
theorem qyh:Tryz.prog.cellsOf 23=2:=by kernel_rfl
theorem qxC:Tryz.prog.cellsOf 34=3:=by kernel_rfl
theorem qrw:Tryz.prog.cellsOf 2=1:=by kernel_rfl
theorem qrB:Tryz.prog.cellsOf 3=1:=by kernel_rfl
theorem qzv:Tryz.prog.cellsOf 5=1:=by kernel_rfl
theorem qpx:Tryz.prog.cellsOf 42=7:=by kernel_rfl
section
variable {H:Type} {enc:TypeId×Value→H} {W:World} {base:Nat} {spare:Nat→Bool} {held:Bool}
theorem qmW {fuel:Nat} {cs:List Value} {x:DataW H×List MemPlace} (hs:cs.length=7) (hf:DataW.trod enc Tryz.prog W base spare held fuel 42 cs=some x) :
 ∃ a:AskQ,cs=[.int .u8 a.kd,iV a.pi,iV a.pa,iV a.pb,iV a.z,iV a.qn,iV a.qd]∧qq4 a:=by
 obtain⟨y0,y1,y2,y3,n,_,hlen,h0,h1,h2,h3⟩:=trod_struct4 Tryz.underlying42 hf
 obtain⟨kd,e0,_,_⟩:=DataW.trod_int Tryz.underlying5 h0
 obtain⟨z0,z1,z2,n1,_,_,a0,a1,a2⟩:=trod_struct3 Tryz.underlying34 h1
 obtain⟨pi,e1,_,_⟩:=DataW.trod_int Tryz.underlying3 a0
 obtain⟨pa,e2,_,_⟩:=DataW.trod_int Tryz.underlying2 a1
 obtain⟨pb,e3,_,_⟩:=DataW.trod_int Tryz.underlying2 a2
 obtain⟨z,e4,_,_⟩:=DataW.trod_int Tryz.underlying3 h2
 obtain⟨x0,x1,n2,_,_,b0,b1⟩:=trod_struct2 Tryz.underlying23 h3
 obtain⟨qn,e5,_,w5⟩:=DataW.trod_int Tryz.underlying2 b0
 obtain⟨qd,e6,_,w6⟩:=DataW.trod_int Tryz.underlying2 b1
 refine⟨⟨kd,pi,pa,pb,z,qn,qd⟩,?_,bounds_i64 w5,bounds_i64 w6⟩
 rw[qzv] at e0
 rw[qrB,qxC] at e1
 rw[qrw,qxC] at e2 e3
 rw[qrB] at e4
 rw[qrw,qyh] at e5 e6
 match cs,hs with
 | [v0,v1,v2,v3,v4,v5,v6],_=>
  simp at e0 e1 e2 e3 e4 e5 e6
  rw[e0,e1,e2,e3,e4,e5,e6]
end
section
variable {W:World} {s:List Pt} {n0 d0 n d:Int} {a:AskQ} {u:Value}
end
end Go.Proofs.YtleaeldgaflmkaaGreat

namespace Go.Proofs.YtleaeldgaflmkaaGreat
set_option maxRecDepth 100000
open Go.RowKit
section
variable {s s' s0:List Pt} {n d n' d':Int} {qs:List AskQ} {a:AskQ} {r:Rep} {k:Nat} {ds:List Dn}
theorem qgP {rs:List Rep} (hl:rs.length≤999999) (hf:∀ r∈rs,r.ms.length≤100000):Fn 28 0 [.dv 6 rs.length (qbg rs),.dv 6 rs.length (qbg rs)] [] (.pv (.bool true)) 0 []:=by
 refine quw (r0:=RunsL.rounds (fun k=>[(0,.ls 0 rs.length),(1,.ls 1 rs.length),(5,.pv (iV (k:Int)))]) (fun _=>[(0,0,.rrow 38 6 rs.length (qbg rs)),(1,0,.rrow 38 6 rs.length (qbg rs))]) rs.length 0 (Nat.zero_add _) (fun k _ hk r=>?_) (quu (hlt:=df (by omega))))
 obtain⟨m,hm⟩:=qal hk
 exact qqz (hlt:=dt (by omega)) (hin:=qax hk) (hk:=hm) (hsm:=qqL m (hf m (List.mem_of_getElem? hm))) (hs:=qat (by omega)) r
theorem qjk:∀ {qs:List AskQ} {rs:List Rep} {s:List Pt} {n d:Int} {s':List Pt} {n' d':Int},qiQ s n d qs rs n' d' s'→∀ r∈rs,r.ms.length≤100000
 | [],[],_,_,_,_,_,_,_,r,hr=>by cases hr
 | [],_::_,_,_,_,_,_,_,h,_,_=>h.elim
 | _::_,[],_,_,_,_,_,_,h,_,_=>h.elim
 | a::qs,q::rs,_,_,_,_,_,_,⟨_,_,_,o,h⟩,r,hr=>by
  rcases List.mem_cons.1 hr with rfl | hr
  ·exact o.few
  ·exact qjk h r hr
abbrev qv0 (f:FuncId) (s:List Pt) (n d:Int) (qs:List AskQ) (k:Nat) (ds:List Dn) (n' d':Int) (s':List Pt) (e:Int):Prop:=Fn f 2 [moS 0 s n d,.ls 1 qs.length] [(0,0,qad s),(1,0,qcG qs)] (.tu [mo1 2 s' n' d',.one (.dv 6 k ds),.one (.pv (iV e))]) 1 [(2,0,qad s')]
end
end Go.Proofs.YtleaeldgaflmkaaGreat

namespace Go.Proofs.YtleaeldgaflmkaaGreat
set_option maxRecDepth 100000
open Go.RowKit
abbrev qid:List AskQ:=[⟨1,1,0,2,0,0,0⟩,⟨1,2,6,-1,0,0,0⟩,⟨1,5,0,0,0,0,0⟩,⟨5,0,0,0,0,0,0⟩,⟨6,0,0,0,0,0,0⟩,⟨4,0,0,0,0,2,1⟩,⟨5,0,0,0,0,0,0⟩,⟨6,0,0,0,0,0,0⟩,⟨4,0,0,0,0,1,1⟩]
abbrev qhN:List Rep:=[⟨0,0,0,0,0,[]⟩,⟨0,0,0,0,0,[]⟩,⟨0,0,0,0,0,[]⟩,⟨0,2,0,6,1,[]⟩,⟨0,1,5,0,1,[]⟩,⟨0,0,0,0,0,[⟨2,1,1,2⟩]⟩,⟨0,1,0,4,1,[]⟩,⟨0,1,2,0,1,[]⟩,⟨44,0,0,0,0,[]⟩]
theorem qry (n:Int):Pure Tryz.prog 11 #[iV n] (qaa n 1):=qac (args:=[iV n]) 200 [] (Ai rfl tI) (by kernel_rfl)
theorem qsI (i a b:Int):Pure Tryz.prog 16 #[iV i,iV a,iV b] (qc3 ⟨1,i,a,b,0,0,0⟩):=qac (args:=[iV i,iV a,iV b]) 200 [] (Ai rfl tI) (by kernel_rfl)
theorem qrv (n d:Int):Pure Tryz.prog 17 #[qaa n d] (qc3 ⟨4,0,0,0,0,n,d⟩):=qac (args:=[qaa n d]) 200 [] (Ai rfl tI) (by kernel_rfl)
theorem wgi :
 Fn 46 0 [] [] (.ls 0 9) 1 [(0,0,.row 42 7 9 (qaQ qid))]:=
 Fz [(0,2)] [.md,.r (qc3 ⟨1,1,0,2,0,0,0⟩),.r (qc3 ⟨1,2,6,-1,0,0,0⟩),.r (qc3 ⟨1,5,0,0,0,0,0⟩),.r (qaa 2 1),.r (qc3 ⟨4,0,0,0,0,2,1⟩),.r (qaa 1 1),.r (qc3 ⟨4,0,0,0,0,1,1⟩),.lw]
  (qaH (qaF [(0,2)]) [(0,0,.row 42 7 9 (qaQ qid))]) (Ai (qsI 1 0 (2)) (Ai (qsI 2 6 (-1)) (Ai (qsI 5 0 (0)) (Ai (qry 2) (Ai (qrv 2 1) (Ai (qry 1) (Ai (qrv 1 1) tI)))))))
theorem wal (hn:Fn 10 0 [.pv (qaa 0 1)] [] (.tu [mo1 0 [] 0 1,.one (.pv (iV 0))]) 1 [(0,0,qad [])]) (hr:Fn 13 2 [moS 0 [] 0 1,.ls 1 9] [(0,0,qad []),(1,0,.row 42 7 9 (qaQ qid))] (.tu [mo1 2 gl 2 1,.one (.dv 6 9 (qbg qhN)),.one (.pv (iV 0))]) 1 [(2,0,qad gl)]) (hs:Fn 28 0 [.dv 6 9 (qbg qhN),.dv 6 9 (qbg qhN)] [] (.pv (.bool true)) 0 []) :
 Fn 19 0 [] [] (.pv (.bool true)) 0 []:=
 Fz [] [.r (qaa 0 1),Cf hn [],.md,.f [] [] [] (.ls 0 9) 1 [(0,0,.row 42 7 9 (qaQ qid))],Cf hr [0,2],.r (qaa 0 1),.md,.r (qaa 6 1),.r (qaa 2 1),.lw,.r (qaa 4 1),.fz false 7 5 0 4 [],.fz false 7 11 0 4 [],.fz false 7 17 0 4 [],.fz false 7 23 0 4 [],.fz false 7 29 0 4 [],.fz false 7 35 0 4 ((msV [⟨2,1,1,2⟩]).map .v),.fz false 7 41 0 4 [],.fz false 7 47 0 4 [],.fz false 7 53 0 4 [],.fz true 7 0 0 6 (qbg qhN),.md,.k,.k,Cf hs [],.r (qaa 2 1),.k,.k]
  tI (Ai (qry 0) (Co hn [] 0 (Ai wgi (Ai (Eq.refl (List.map (SV.ren (qa4 [] 2)) [])) (Ai (Cp hn [] 2) (Co hr [0,2] 3 (Ai (qry 0) (Ai (qry 6) (Ai (qry 2) (Ai (qry 4) (Ai (Eq.refl ([]:List Dn)) (Ai (Eq.refl ([]:List Dn)) (Ai (Eq.refl ([]:List Dn)) (Ai (Eq.refl ([]:List Dn)) (Ai (Eq.refl ([]:List Dn)) (Ai (LeD.refl ((msV [⟨2,1,1,2⟩]).map Dn.v)) (Ai (Eq.refl ([]:List Dn)) (Ai (Eq.refl ([]:List Dn)) (Ai (Eq.refl ([]:List Dn)) (Ai (LeD.refl (qbg qhN)) (Co hs [] 8 (Ai (qry 2) tI))))))))))))))))))))))
end Go.Proofs.YtleaeldgaflmkaaGreat

namespace Go.Proofs.YtleaeldgaflmkaaGreat
set_option maxRecDepth 100000
open Go.ChangeShapes Go.WideShapes Go.ChangeAt Go.RowKit Go.Joins Go.Deep
theorem qjW {α:Type} {enc:α→List Value} {es:Nat} (he:∀ a,(enc a).length=es):∀ (l:List α) (j:Nat) (v:Value),(l.flatMap enc)[j]?=some v→∃ k x t,l[k]?=some x∧(enc x)[t]?=some v∧j=k*es+t
 | [],j,v,h=>by simp at h
 | x::r,j,v,h=>by
  rw[List.flatMap_cons] at h
  by_cases hj:j<(enc x).length
  ·rw[List.getElem?_append_left hj] at h
   exact⟨0,x,j,rfl,h,by omega⟩
  ·rw[List.getElem?_append_right (by omega),he] at h
   obtain⟨k,y,t,h1,h2,h3⟩:=qjW he r _ _ h
   rw[he] at hj
   exact⟨k+1,y,t,by simpa using h1,h2,by rw[Nat.succ_mul];omega⟩
theorem qjt {α:Type} {enc:α→List Value} {es:Nat} (he:∀ a,(enc a).length=es):∀ l:List α,(l.flatMap enc).length=l.length*es
 | []=>by simp
 | x::r=>by rw[List.flatMap_cons,List.length_append,he,qjt he r,List.length_cons,Nat.succ_mul];omega
theorem qtz {α:Type} [Inhabited α] {enc:α→List Value} {es:Nat} (he:∀ a,(enc a).length=es) {W:World} {a:Addr} {len cap:Nat} {Q:α→Prop} (hc:len≤cap) (each:∀ i,i<len→∃ x,Q x∧∀ t v,(enc x)[t]?=some v→W.cell? (a.add (i*es+t))=some v) :
 ∃ l:List α,l.length=len∧Rd W es (.slice (some a) len cap) l.length (l.flatMap enc)∧∀ x∈l,Q x:=by
 obtain⟨f,hf⟩:=choose_lt (α:=α) each
 refine⟨(List.range len).map f,by simp,⟨qjt he _,some a,cap,by simp,by simpa using hc,fun j v hv=>?_⟩,fun x hx=>?_⟩
 ·obtain⟨k,x,t,h1,h2,h3⟩:=qjW he _ _ _ hv
  rw[List.getElem?_map] at h1
  obtain⟨i,hi,rfl⟩:=Option.map_eq_some_iff.1 h1
  obtain⟨hk,e⟩:=List.getElem?_eq_some_iff.1 hi
  rw[List.getElem_range] at e
  subst e
  rw[List.length_range] at hk
  have hcell:=(hf k hk).2 t v h2
  rw[← h3] at hcell
  obtain⟨b,off,spot⟩:=a
  have hs:spot=none:=by
   have ht:t<(enc (f k)).length:=(List.getElem?_eq_some_iff.1 h2).1
   rw[he] at ht
   have h9:=(hf 0 (by omega)).2 0 _ (List.getElem?_eq_getElem (by rw[he];omega))
   rw[Nat.zero_mul] at h9
   simpa [Addr.add] using World.cell?_spot h9
  subst hs
  exact⟨b,off,rfl,by rw[← Go.WideShapes.add_plain];exact hcell⟩
 ·obtain⟨i,hi',rfl⟩:=List.mem_map.1 hx
  exact (hf i (List.mem_range.1 hi')).1
abbrev qAz (a:AskQ):List Value:=[.int .u8 a.kd,iV a.pi,iV a.pa,iV a.pb,iV a.z,iV a.qn,iV a.qd]
theorem qfc:∀ l:List AskQ,qaQ l=l.flatMap qAz
 | []=>rfl
 | a::r=>by rw[List.flatMap_cons,← qfc r];rfl
theorem qtY:Tryz.prog.readableRec 46=true:=by kernel_rfl
theorem qwF:46<Tryz.prog.types.size:=of_decide_eq_true (by kernel_rfl)
theorem qq6:∀ (l:List AskQ) (v:Value),v∈qaQ l→v.oneCell'=true:=fun l v h=>by
 rw[qfc] at h
 obtain⟨a,_,h⟩:=List.mem_flatMap.1 h
 simp only[List.mem_cons,List.not_mem_nil,or_false] at h
 rcases h with rfl | rfl | rfl | rfl | rfl | rfl | rfl<;>rfl
section
variable {H:Type} {enc:TypeId×Value→H} {W:World} {base:Nat} {spare:Nat→Bool} {held:Bool}
theorem qnX {r:Reach} {b0:Nat} {v:Value} {d:DataW H} {p:List MemPlace} (hv:Value.okWide Tryz.prog W r b0 46 v) (h:DataW.Trod enc Tryz.prog W base spare held 46 v d p) :
 ∃ l:List AskQ,Rd W 7 v l.length (qaQ l)∧∀ a∈l,qq4 a:=by
 obtain⟨a0,len0,cap0,rfl⟩:=okWide_slice Tryz.underlying46 hv
 obtain⟨fuel,hf⟩:=h
 rcases open_slice Tryz.underlying46 hf with ⟨hc,_⟩ | ⟨a,len,cap,m,n,D,Pl,hc,_,hlc,_,hm,_,hi⟩
 ·simp[Value.cells] at hc
  obtain⟨rfl,rfl,rfl⟩:=hc
  exact⟨[],⟨rfl,none,0,rfl,Nat.le_refl _,fun j v hv=>by simp[qaQ] at hv⟩,fun a ha=>(by cases ha)⟩
 simp[Value.cells] at hc
 obtain⟨rfl,rfl,rfl⟩:=hc
 have hlm:len0≤m:=by rw[hm];split<;>omega
 haveI:Inhabited AskQ:=⟨⟨0,0,0,0,0,0,0⟩⟩
 obtain⟨l,hl,hr,hq⟩:=qtz (enc:=qAz) (es:=7) (fun _=>rfl) (W:=W) (a:=a) (Q:=qq4) hlc (fun i hil=>by
  obtain⟨cs',hc,ht⟩:=hi i (by omega)
  rw[qpx] at hc
  obtain⟨_,hcl,hat⟩:=World.cells?_some hc
  obtain⟨q,he,hn⟩:=qmW hcl ht
  refine⟨q,hn,fun t v hv=>?_⟩
  have ht7:t<7:=(List.getElem?_eq_some_iff.1 hv).1
  have:=hat t ht7
  rw[add_add] at this
  rw[this,he]
  exact hv)
 refine⟨l,?_,hq⟩
 rw[qfc]
 rw[hl] at hr ⊢
 exact hr
end
section
variable {W:World} {s:List Pt} {n d:Int} {qs:List AskQ} {ra rb:Rep} {u v w1 w2:Value}
end
end Go.Proofs.YtleaeldgaflmkaaGreat

namespace Go.Proofs.YtleaeldgaflmkaaGreat
set_option maxRecDepth 100000
open Go.RowKit
theorem qsq:qjv gl 0 1 2 1=[⟨2,1,1,2⟩]:=by
 unfold qjv srt
 rw[qzW]
 rfl
theorem gT0:AskT 0 1:=⟨by decide,by decide,by decide,by decide⟩
theorem gT2:AskT 2 1:=⟨by decide,by decide,by decide,by decide⟩
theorem gT1:AskT 1 1:=⟨by decide,by decide,by decide,by decide⟩
section
variable {r:Rep} {n d n' d':Int} {s s':List Pt}
theorem qsY {i a b:Int} (o:Outc s n d ⟨1,i,a,b,0,0,0⟩ r n' d' s') (h:okP i a b=true) (hs:∀ p∈s,p.id≠i) (hl:s.length<64):r=qg7 0∧n'=n∧d'=d∧s'=qdm ⟨i,a,b⟩ s:=o.k1 rfl rfl h hs hl
theorem qrH {p:Pt} {N D:Int} (o:Outc gl n d ⟨5,0,0,0,0,0,0⟩ r n' d' s') (hp:p∈gl) (h:∀ q∈gl,ld n d q p=false) (hk:okB N D=true) (he:plS p n d*D=N*d) (d1:1≤d) (hD:D≠0):r=⟨0,p.id,0,N,D,[]⟩:=by
 have hl:=qvw qvq hp h
 rcases o.k5 rfl rfl with ⟨h0,_⟩ | ⟨_,N',D',e,k1,_,_,k4⟩
 ·cases h0
 ·rw[hl] at e k4
  obtain⟨rfl,rfl⟩:=qde k1 hk (by
   have:N'*D*d=N*D'*d:=by rw[Int.mul_right_comm,k4,Int.mul_right_comm,he,Int.mul_right_comm]
   exact Int.eq_of_mul_eq_mul_right (by omega) this)
  exact e
theorem qms {x:Nat×Nat} {N D:Int} (o:Outc gl n d ⟨6,0,0,0,0,0,0⟩ r n' d' s') (hx:qb4 gl n d=x) (hk:DisI gl n d x N D) (d1:1≤d):r=⟨0,(ptK gl x.1).id,(ptK gl x.2).id,N,D,[]⟩:=by
 rcases o.k6 rfl rfl with ⟨h0,_⟩ | ⟨_,N',D',e,k⟩
 ·exact absurd h0 (by decide)
 ·rw[hx] at e k
  obtain⟨rfl,rfl⟩:=DisI.uniq d1 k hk
  exact e
theorem qjr {a:AskQ} (o:Outc s n d a r n' d' s') (h:a.kd=5∨a.kd=6):n'=n∧d'=d∧s'=s:=o.keep h
end
theorem qbk {a:AskQ} {qs:List AskQ} {rs:List Rep} {s:List Pt} {n d n' d':Int} {s':List Pt} (h:qiQ s n d (a::qs) rs n' d' s'):∃ r t n1 d1 s1,rs=r::t∧Outc s n d a r n1 d1 s1∧qiQ s1 n1 d1 qs t n' d' s':=by
 cases rs with
 | nil=>exact h.elim
 | cons r t=>
  obtain⟨n1,d1,s1,o,k⟩:=h
  exact⟨r,t,n1,d1,s1,rfl,o,k⟩
theorem qpl {rs:List Rep} {s:List Pt} {n d n' d':Int} {s':List Pt} (h:qiQ s n d [] rs n' d' s'):rs=[]∧n'=n∧d'=d∧s'=s:=by
 cases rs with
 | nil=>exact⟨rfl,h⟩
 | cons r t=>exact h.elim
theorem qlc {rs:List Rep} {n' d':Int} {s':List Pt} (h:qiQ [] 0 1 qid rs n' d' s'):rs=qhN∧n'=2∧d'=1∧s'=gl:=by
 obtain⟨r1,t1,_,_,_,rfl,o1,q1⟩:=qbk h
 obtain⟨rfl,rfl,rfl,rfl⟩:=qsY o1 (by decide) (by decide) (by decide)
 obtain⟨r2,t2,_,_,_,rfl,o2,q2⟩:=qbk q1
 obtain⟨rfl,rfl,rfl,rfl⟩:=qsY o2 (by decide) (by decide) (by decide)
 obtain⟨r3,t3,_,_,_,rfl,o3,q3⟩:=qbk q2
 obtain⟨rfl,rfl,rfl,rfl⟩:=qsY o3 (by decide) (by decide) (by decide)
 obtain⟨r4,t4,_,_,_,rfl,o4,q4⟩:=qbk q3
 have o4':Outc gl 0 1 _ r4 _ _ _:=o4
 obtain⟨rfl,rfl,rfl⟩:=qjr o4' (Or.inl rfl)
 obtain rfl:=qrH (p:=⟨2,6,-1⟩) (N:=6) (D:=1) o4' (by simp) (by decide) (by decide) (by decide) (by decide) (by decide)
 obtain⟨r5,t5,_,_,_,rfl,o5,q5⟩:=qbk q4
 have o5':Outc gl 0 1 _ r5 _ _ _:=o5
 obtain⟨rfl,rfl,rfl⟩:=qjr o5' (Or.inr rfl)
 obtain rfl:=qms (x:=(0,2)) (N:=0) (D:=1) o5' (by decide) ⟨by decide,by decide,by decide,by decide⟩ (by decide)
 obtain⟨r6,t6,_,_,_,rfl,o6,q6⟩:=qbk q5
 have o6':Outc gl 0 1 _ r6 _ _ _:=o6
 obtain⟨rfl,rfl,rfl,rfl⟩:=o6'.k4 rfl rfl gT2 (by decide)
 obtain⟨r7,t7,_,_,_,rfl,o7,q7⟩:=qbk q6
 have o7':Outc gl 2 1 _ r7 _ _ _:=o7
 obtain⟨rfl,rfl,rfl⟩:=qjr o7' (Or.inl rfl)
 obtain rfl:=qrH (p:=⟨1,0,2⟩) (N:=4) (D:=1) o7' (by simp) (by decide) (by decide) (by decide) (by decide) (by decide)
 obtain⟨r8,t8,_,_,_,rfl,o8,q8⟩:=qbk q7
 have o8':Outc gl 2 1 _ r8 _ _ _:=o8
 obtain⟨rfl,rfl,rfl⟩:=qjr o8' (Or.inr rfl)
 obtain rfl:=qms (x:=(0,1)) (N:=0) (D:=1) o8' (by decide) ⟨by decide,by decide,by decide,by decide⟩ (by decide)
 obtain⟨r9,t9,_,_,_,rfl,o9,q9⟩:=qbk q8
 have o9':Outc gl 2 1 _ r9 _ _ _:=o9
 obtain⟨rfl,e1,e2,e3⟩:=qpl q9
 have g9:r9.e=44:=by
  rw[o9'.ee,qjE (by rfl),if_neg (fun q=>q (qbx.2 gT1)),if_neg (by decide)]
 obtain⟨f1,f2,f3,f4⟩:=o9'.err (by rw[g9];decide)
 rw[g9] at f1
 subst f1 e1 e2 e3 f2 f3 f4
 refine⟨?_,rfl,rfl,rfl⟩
 rw[show qjv _ _ _ _ _=_ from qsq]
 rfl
theorem qcK:Fn 19 0 [] [] (.pv (.bool true)) 0 []:=by
 have v0:Val []:=⟨by decide,fun p hp=>(by cases hp),fun k p q h=>(by simp at h)⟩
 obtain⟨c1,_⟩:=qj5 (s:=[]) (n:=0) (d:=1) (by decide) (by decide)
 rw[(qrd (by decide) (by decide)).2 ⟨v0,gT0⟩] at c1
 obtain⟨rs,n',d',s',h1,h2,h3,h4,h5⟩:=qtt (s:=[]) (n:=0) (d:=1) (qs:=qid) (by decide) v0 gT0 (by unfold qq4;decide)
 obtain⟨rfl,rfl,rfl,rfl⟩:=qlc h1
 have hn:=qgp (n:=0) (d:=1) (qxu (ha:=fun w=>by have:=qb1 0 1 w (by decide) (by decide);rwa [qbx.2 gT0] at this) (hn:=qmE))
 exact wal (hn:=hn) (hr:=qxh (k:=9) (ds:=qbg qhN) (qs:=qid) (hc:=c1) (hl:=by decide) (hr:=h5)) (hs:=qgP (rs:=qhN) (by decide) (by decide))
end Go.Proofs.YtleaeldgaflmkaaGreat
