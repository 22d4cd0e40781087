/-
  Joined: Ff, Fm, Vb, Va, Vd. Conditions: none.
-/
import Derived.Test.YtleaeldgaflmkaaGreatW33
import Derived.Test.YtleaeldgaflmkaaGreatW25
import Derived.Test.YtleaeldgaflmkaaGreatW34
import Derived.Test.YtleaeldgaflmkaaGreatW32
import Derived.Test.YtleaeldgaflmkaaGreatW31
namespace Go.Proofs.YtleaeldgaflmkaaGreat
set_option maxRecDepth 100000
open Go.RowKit
abbrev qu3 (l:List Pt) (m:List Pt):HpL:=[(1,0,.ls 0 l.length),(0,0,qad l),(3,0,.ls 4 (m).length),(4,0,qad (m)),(2,0,.pv (.slice none 0 0))]
abbrev qy3 (id:Int) (k:Nat):TmL:=[(1,.pv (iV id)),(2,.pp 1 0),(4,.pp 2 0),(5,.pp 3 0),(6,.pv (iV (k:Int)))]
theorem quk {l:List Pt} {k:Nat} {p:Pt} {m:List Pt} {id:Int} (hk:l[k]?=some p) (hin:0≤(k:Int)∧(k:Int)<(l.length:Int)) (hlt:decide ((k:Int)<(l.length:Int))=true) (hne:(p.id !=id)=false) (hs:iV (IntKind.i64.wrap ((k:Int)+1))=iV (((k+1:Nat):Int))) {e:Exit} {tm2:TmL} {hp2:HpL}
 (r:Rl 1 1 129 0 33 5 ([(1,.pv (iV id)),(2,.pp 1 0),(4,.pp 2 0),(5,.pp 3 0),(6,.pv (iV ((k+1:Nat):Int)))]) (qu3 l m) e tm2 hp2):Rl 1 1 129 0 33 5 (qy3 id k) (qu3 l m) e tm2 hp2:=
 RunsL.next [] 300 [.t true,.r (iV p.id),.t false,Re hs]
  (Ro (Ai hlt (Ai hin (Ai (qb5 hk) (Ai hne (Ai hs tI)))))) r
theorem qtf {l:List Pt} {k:Nat} {p:Pt} {m:List Pt} {id:Int} (hk:l[k]?=some p) (hin:0≤(k:Int)∧(k:Int)<(l.length:Int)) (hlt:decide ((k:Int)<(l.length:Int))=true) (hne:(p.id !=id)=true) (hm:m.length+1≤1000000) (hs:iV (IntKind.i64.wrap ((k:Int)+1))=iV (((k+1:Nat):Int))) {e:Exit} {tm2:TmL} {hp2:HpL}
 (r:Rl 1 1 129 0 33 5 ([(1,.pv (iV id)),(2,.pp 1 0),(4,.pp 2 0),(5,.pp 3 0),(6,.pv (iV ((k+1:Nat):Int)))]) ([(1,0,.ls 0 l.length),(0,0,qad l),(3,0,.ls 4 (m++[p]).length),(4,0,qad (m++[p])),(2,0,.pv (.slice none 0 0))]) e tm2 hp2):Rl 1 1 129 0 33 5 (qy3 id k) (qu3 l m) e tm2 hp2:=
 RunsL.next [(4,6)] 300 [.t true,.r (iV p.id),.t true,.r (ptV p),Re hs]
  (Rh (Ai (Er (SV.ls 0 l.length)) (Ai (Er (qad l)) (Ai (qip 6 m p) (Ai (qeN m p) (Ai (Er (SV.pv (.slice none 0 0))) tI))))) (Ai hlt (Ai hin (Ai (qb5 hk) (Ai hne (Ai hin (Ai (qa4 hk) (Ai hm (Ai hs tI))))))))) r
theorem qwg {l:List Pt} {k:Nat} {m:List Pt} {id:Int} (hge:decide ((k:Int)<(l.length:Int))=false):Rl 1 1 129 0 33 5 (qy3 id k) (qu3 l m) (.exit 0) ([(4,.pp 2 0),(5,.pp 3 0)]) (qu3 l m):=
 RunsL.stop [] 300 [.t false] (fun h=>by cases h)
  (Ro (Ai hge tI))
theorem qsO {l:List Pt} {m:List Pt} {id:Int} (r0:Rl 1 1 129 0 33 5 ([(1,.pv (iV id)),(2,.pp 1 0),(4,.pp 2 0),(5,.pp 3 0),(6,.pv (iV ((0:Nat):Int)))]) ([(1,0,.ls 0 l.length),(0,0,qad l),(3,0,.ls 4 ([]:List Pt).length),(4,0,qad ([]:List Pt)),(2,0,.pv (.slice none 0 0))]) (.exit 0) ([(4,.pp 2 0),(5,.pp 3 0)]) (qu3 l m)) :
 Fn 129 1 [qap 0 l,.pv (iV (id))] [(0,0,qad l)] (.ag [.ls 1 m.length]) 1 [(1,0,qad m)]:=
 Fz [(1,4)] [.ln false 3 0 34 3,Lf r0]
  (qaI (qaG [(1,4)]) [(1,0,qad m)]) (Lo r0 [] tI)
abbrev qpj (l:List Pt) (m:List Pt) (pa:Int) (pb:Int) (pi:Int):HpL:=[(1,0,.ls 0 l.length),(0,0,qad l),(2,0,.pv (iV pi)),(2,1,.pv (iV pa)),(2,2,.pv (iV pb)),(3,0,.pv (.slice none 0 0)),(4,0,.ls 5 (m).length),(5,0,qad (m))]
abbrev qAW (k:Nat):TmL:=[(2,.pp 1 0),(3,.pp 2 0),(4,.pp 3 0),(7,.pp 4 0),(8,.pv (.bool false)),(9,.pv (iV (k:Int)))]
abbrev qwU (k:Nat):TmL:=[(2,.pp 1 0),(3,.pp 2 0),(4,.pp 3 0),(7,.pp 4 0),(8,.pv (.bool true)),(9,.pv (iV ((k+1:Nat):Int)))]
theorem qvs {l:List Pt} {k:Nat} {q:Pt} {m:List Pt} {pi pa pb:Int} (hk:l[k]?=some q) (hin:0≤(k:Int)∧(k:Int)<(l.length:Int)) (hm:m.length+1≤1000000) (hlt:decide ((k:Int)<(l.length:Int))=true) (hg:decide (q.id>pi)=true) (hm2:m.length+1+1≤1000000) (hs:iV (IntKind.i64.wrap ((k:Int)+1))=iV (((k+1:Nat):Int))) {e:Exit} {tm2:TmL} {hp2:HpL}
 (r:Rl 1 1 107 0 76 6 (qwU k) ([(1,0,.ls 0 l.length),(0,0,qad l),(2,0,.pv (iV pi)),(2,1,.pv (iV pa)),(2,2,.pv (iV pb)),(3,0,.pv (.slice none 0 0)),(4,0,.ls 5 (m++[(Pt.mk pi pa pb)]++[q]).length),(5,0,qad (m++[(Pt.mk pi pa pb)]++[q]))]) e tm2 hp2):Rl 1 1 107 0 76 6 (qAW k) (qpj l m pa pb pi) e tm2 hp2:=
 RunsL.next [(5,9)] 300 [.t true,.k,.r (iV q.id),.t true,.r (ptV q),Re hs]
  (Rh (Ai (Er (SV.ls 0 l.length)) (Ai (Er (qad l)) (Ai (Er (SV.pv (iV pi))) (Ai (Er (SV.pv (iV pa))) (Ai (Er (SV.pv (iV pb))) (Ai (Er (SV.pv (.slice none 0 0))) (Ai (qo1 9 m (Pt.mk pi pa pb) q) (Ai (qnc m (Pt.mk pi pa pb) q) tI)))))))) (Ai hlt (Ai hin (Ai (qb5 hk) (Ai hg (Ai hm (Ai hin (Ai (qa4 hk) (Ai hm2 (Ai hs tI)))))))))) r
abbrev qxs (l:List Pt) (m:List Pt) (pa:Int) (pb:Int) (pi:Int) (q:Pt):HpL:=[(1,0,.ls 0 l.length),(0,0,qad l),(2,0,.pv (iV pi)),(2,1,.pv (iV pa)),(2,2,.pv (iV pb)),(3,0,.pv (.slice none 0 0)),(4,0,.ls 5 (m++[q]).length),(5,0,qad (m++[q]))]
theorem qwI {l:List Pt} {k:Nat} {q:Pt} {m:List Pt} {pi pa pb:Int} (hk:l[k]?=some q) (hin:0≤(k:Int)∧(k:Int)<(l.length:Int)) (hm:m.length+1≤1000000) (hlt:decide ((k:Int)<(l.length:Int))=true) (hg:decide (q.id>pi)=false) (hs:iV (IntKind.i64.wrap ((k:Int)+1))=iV (((k+1:Nat):Int))) {e:Exit} {tm2:TmL} {hp2:HpL}
 (r:Rl 1 1 107 0 76 6 ([(2,.pp 1 0),(3,.pp 2 0),(4,.pp 3 0),(7,.pp 4 0),(8,.pv (.bool false)),(9,.pv (iV ((k+1:Nat):Int)))]) (qxs l m pa pb pi q) e tm2 hp2):Rl 1 1 107 0 76 6 (qAW k) (qpj l m pa pb pi) e tm2 hp2:=
 RunsL.next [(5,7)] 300 [.t true,.k,.r (iV q.id),.t false,.r (ptV q),Re hs]
  (Rh (Ai (Er (SV.ls 0 l.length)) (Ai (Er (qad l)) (Ai (Er (SV.pv (iV pi))) (Ai (Er (SV.pv (iV pa))) (Ai (Er (SV.pv (iV pb))) (Ai (Er (SV.pv (.slice none 0 0))) (Ai (qip 7 m q) (Ai (qeN m q) tI)))))))) (Ai hlt (Ai hin (Ai (qb5 hk) (Ai hg (Ai hin (Ai (qa4 hk) (Ai hm (Ai hs tI))))))))) r
theorem qvA {l:List Pt} {k:Nat} {q:Pt} {m:List Pt} {pi pa pb:Int} (hk:l[k]?=some q) (hin:0≤(k:Int)∧(k:Int)<(l.length:Int)) (hm:m.length+1≤1000000) (hlt:decide ((k:Int)<(l.length:Int))=true) (hs:iV (IntKind.i64.wrap ((k:Int)+1))=iV (((k+1:Nat):Int))) {e:Exit} {tm2:TmL} {hp2:HpL}
 (r:Rl 1 1 107 0 76 6 (qwU k) (qxs l m pa pb pi q) e tm2 hp2):Rl 1 1 107 0 76 6 ([(2,.pp 1 0),(3,.pp 2 0),(4,.pp 3 0),(7,.pp 4 0),(8,.pv (.bool true)),(9,.pv (iV (k:Int)))]) (qpj l m pa pb pi) e tm2 hp2:=
 RunsL.next [(5,7)] 300 [.t true,.k,.r (ptV q),Re hs]
  (Rh (Ai (Er (SV.ls 0 l.length)) (Ai (Er (qad l)) (Ai (Er (SV.pv (iV pi))) (Ai (Er (SV.pv (iV pa))) (Ai (Er (SV.pv (iV pb))) (Ai (Er (SV.pv (.slice none 0 0))) (Ai (qip 7 m q) (Ai (qeN m q) tI)))))))) (Ai hlt (Ai hin (Ai (qa4 hk) (Ai hm (Ai hs tI)))))) r
theorem qq2 {l:List Pt} {k:Nat} {m:List Pt} {pi pa pb:Int} (hge:decide ((k:Int)<(l.length:Int))=false):Rl 1 1 107 0 76 6 ([(2,.pp 1 0),(3,.pp 2 0),(4,.pp 3 0),(7,.pp 4 0),(8,.pv (.bool true)),(9,.pv (iV (k:Int)))]) (qpj l m pa pb pi) (.exit 0) ([(3,.pp 2 0),(4,.pp 3 0),(7,.pp 4 0),(8,.pv (.bool true))]) (qpj l m pa pb pi):=
 RunsL.stop [] 300 [.t false] (fun h=>by cases h)
  (Ro (Ai hge tI))
theorem qqc {l:List Pt} {k:Nat} {m:List Pt} {pi pa pb:Int} (hge:decide ((k:Int)<(l.length:Int))=false):Rl 1 1 107 0 76 6 (qAW k) (qpj l m pa pb pi) (.exit 0) ([(3,.pp 2 0),(4,.pp 3 0),(7,.pp 4 0),(8,.pv (.bool false))]) (qpj l m pa pb pi):=
 RunsL.stop [] 300 [.t false] (fun h=>by cases h)
  (Ro (Ai hge tI))
theorem qpG {l:List Pt} {pi pa pb:Int} {e:Int} (hc:Fn 50 1 [qap 0 l] [(0,0,qad l)] (.pv (iV (e))) 0 []) (he:(e !=0)=true) :
 Fn 107 1 [qap 0 l,.pv (qab pi pa pb)] [(0,0,qad l)] (.pv (.tuple #[.agg #[.slice none 0 0],iV (e)])) 0 []:=
 Fz [] [Cf hc [0],.t true]
  tI (Co hc [0] 4 (Ai he tI))
abbrev qoW (l:List Pt):Prop:=Fn 50 1 [qap 0 l] [(0,0,qad l)] (.pv (iV (0))) 0 []
theorem qqo {l:List Pt} {pi pa pb:Int} (hc:qoW l) (hp:Pure Tryz.prog 30 #[qab pi pa pb] (iV (8))) :
 Fn 107 1 [qap 0 l,.pv (qab pi pa pb)] [(0,0,qad l)] (.pv (.tuple #[.agg #[.slice none 0 0],iV (8)])) 0 []:=
 Fz [] [Cf hc [0],.k,Rf hp,.k]
  tI (Co hc [0] 4 (Ai hp tI))
abbrev qvf (pa:Int) (pb:Int) (pi:Int):Prop:=Pure Tryz.prog 30 #[qab pi pa pb] (iV (0))
theorem qlj {l:List Pt} {k:Nat} {pi pa pb:Int} (hc:qoW l) (hp:qvf pa pb pi) (ha:Fn 76 1 [qap 0 l,.pv (iV (pi))] [(0,0,qad l)] (.pv (iV (k:Int))) 0 []) (h0:decide ((k:Int)≥0)=true) :
 Fn 107 1 [qap 0 l,.pv (qab pi pa pb)] [(0,0,qad l)] (.pv (.tuple #[.agg #[.slice none 0 0],iV (14)])) 0 []:=
 Fz [] [Cf hc [0],.k,Rf hp,.k,Cf ha [0],.t true]
  tI (Co hc [0] 4 (Ai hp (Co ha [0] 4 (Ai h0 tI))))
abbrev qx3 (l:List Pt) (pi:Int):Prop:=Fn 76 1 [qap 0 l,.pv (iV (pi))] [(0,0,qad l)] (.pv (iV (-1))) 0 []
theorem qn6 {l:List Pt} {pi pa pb:Int} (hc:qoW l) (hp:qvf pa pb pi) (ha:qx3 l pi) (h64:((l.length:Int)==64)=true) :
 Fn 107 1 [qap 0 l,.pv (qab pi pa pb)] [(0,0,qad l)] (.pv (.tuple #[.agg #[.slice none 0 0],iV (18)])) 0 []:=
 Fz [] [Cf hc [0],.k,Rf hp,.k,Cf ha [0],.k,.t true]
  tI (Co hc [0] 4 (Ai hp (Co ha [0] 4 (Ai h64 tI))))
abbrev qA0 (l:List Pt) (pa:Int) (pb:Int) (pi:Int):HpL:=[(1,0,.ls 0 l.length),(0,0,qad l),(2,0,.pv (iV pi)),(2,1,.pv (iV pa)),(2,2,.pv (iV pb)),(3,0,.pv (.slice none 0 0)),(4,0,.ls 5 ([]:List Pt).length),(5,0,qad ([]:List Pt))]
abbrev qA3:TmL:=[(2,.pp 1 0),(3,.pp 2 0),(4,.pp 3 0),(7,.pp 4 0),(8,.pv (.bool false)),(9,.pv (iV ((0:Nat):Int)))]
theorem ql4 {l:List Pt} {m:List Pt} {pi pa pb:Int} (hc:qoW l) (hp:qvf pa pb pi) (ha:qx3 l pi) (h64:((l.length:Int)==64)=false) (r0:Rl 1 1 107 0 76 6 (qA3) (qA0 l pa pb pi) (.exit 0) ([(3,.pp 2 0),(4,.pp 3 0),(7,.pp 4 0),(8,.pv (.bool true))]) (qpj l m pa pb pi)) :
 Fn 107 1 [qap 0 l,.pv (qab pi pa pb)] [(0,0,qad l)] (.tu [.ag [.ls 1 m.length],.one (.pv (iV 0))]) 1 [(1,0,qad m)]:=
 Fz [(1,5)] [Cf hc [0],.k,Rf hp,.k,Cf ha [0],.k,.t false,.ln false 4 0 34 3,Lf r0,.k]
  (qaI (qaG [(1,5)]) [(1,0,qad m)]) (Co hc [0] 4 (Ai hp (Co ha [0] 4 (Ai h64 (Lo r0 [] tI)))))
theorem ql3 {l:List Pt} {m:List Pt} {pi pa pb:Int} (hc:qoW l) (hp:qvf pa pb pi) (ha:qx3 l pi) (h64:((l.length:Int)==64)=false) (r0:Rl 1 1 107 0 76 6 (qA3) (qA0 l pa pb pi) (.exit 0) ([(3,.pp 2 0),(4,.pp 3 0),(7,.pp 4 0),(8,.pv (.bool false))]) (qpj l m pa pb pi)) (hm:m.length+1≤1000000) :
 Fn 107 1 [qap 0 l,.pv (qab pi pa pb)] [(0,0,qad l)] (.tu [.ag [.ls 1 (m++[(Pt.mk pi pa pb)]).length],.one (.pv (iV 0))]) 1 [(1,0,qad (m++[(Pt.mk pi pa pb)]))]:=
 Fx [(1,7)] [Cf hc [0],.k,Rf hp,.k,Cf ha [0],.k,.t false,.ln false 4 0 34 3,Lf r0,.k]
  (qt7 7 m (Pt.mk pi pa pb)) (Ai (qeN m (Pt.mk pi pa pb)) tI) (Co hc [0] 4 (Ai hp (Co ha [0] 4 (Ai h64 (Lo r0 [] (Ai hm tI))))))
theorem qob {l:List Pt} {id:Int} {e:Int} (hc:Fn 50 1 [qap 0 l] [(0,0,qad l)] (.pv (iV (e))) 0 []) (he:(e !=0)=true) :
 Fn 108 1 [qap 0 l,.pv (iV (id))] [(0,0,qad l)] (.pv (.tuple #[.agg #[.slice none 0 0],iV (e)])) 0 []:=
 Fz [] [Cf hc [0],.t true]
  tI (Co hc [0] 3 (Ai he tI))
theorem qpN {l:List Pt} {id:Int} (hc:qoW l) (ha:Fn 76 1 [qap 0 l,.pv (iV (id))] [(0,0,qad l)] (.pv (iV (-1))) 0 []) :
 Fn 108 1 [qap 0 l,.pv (iV (id))] [(0,0,qad l)] (.pv (.tuple #[.agg #[.slice none 0 0],iV (6)])) 0 []:=
 Fz [] [Cf hc [0],.k,Cf ha [0],.k]
  tI (Co hc [0] 3 (Co ha [0] 3 tI))
theorem qof {l:List Pt} {k:Nat} {m:List Pt} {id:Int} (hc:qoW l) (ha:Fn 76 1 [qap 0 l,.pv (iV (id))] [(0,0,qad l)] (.pv (iV (k:Int))) 0 []) (h0:decide ((k:Int)<0)=false) (hw:Fn 129 1 [qap 0 l,.pv (iV (id))] [(0,0,qad l)] (.ag [.ls 1 m.length]) 1 [(1,0,qad m)]) :
 Fn 108 1 [qap 0 l,.pv (iV (id))] [(0,0,qad l)] (.tu [.ag [.ls 1 m.length],.one (.pv (iV 0))]) 1 [(1,0,qad m)]:=
 Fz [(1,3)] [Cf hc [0],.k,Cf ha [0],.t false,Cf hw [0]]
  (qaI (qaG [(1,3)]) [(1,0,qad m)]) (Co hc [0] 3 (Co ha [0] 3 (Ai h0 (Co hw [0] 3 tI))))
theorem qiJ {l:List Pt} {pi pa pb:Int} {e:Int} (hc:Fn 50 1 [qap 0 l] [(0,0,qad l)] (.pv (iV (e))) 0 []) (he:(e !=0)=true) :
 Fn 109 1 [qap 0 l,.pv (qab pi pa pb)] [(0,0,qad l)] (.pv (.tuple #[.agg #[.slice none 0 0],iV (e)])) 0 []:=
 Fz [] [Cf hc [0],.t true]
  tI (Co hc [0] 4 (Ai he tI))
theorem qi0 {l:List Pt} {pi pa pb:Int} (hc:qoW l) (hp:Pure Tryz.prog 30 #[qab pi pa pb] (iV (8))) :
 Fn 109 1 [qap 0 l,.pv (qab pi pa pb)] [(0,0,qad l)] (.pv (.tuple #[.agg #[.slice none 0 0],iV (8)])) 0 []:=
 Fz [] [Cf hc [0],.k,Rf hp,.k]
  tI (Co hc [0] 4 (Ai hp tI))
theorem qlx {l:List Pt} {pi pa pb:Int} (hc:qoW l) (hp:qvf pa pb pi) (ha:qx3 l pi) :
 Fn 109 1 [qap 0 l,.pv (qab pi pa pb)] [(0,0,qad l)] (.pv (.tuple #[.agg #[.slice none 0 0],iV (6)])) 0 []:=
 Fz [] [Cf hc [0],.k,Rf hp,.k,Cf ha [0],.k]
  tI (Co hc [0] 4 (Ai hp (Co ha [0] 4 tI)))
theorem qiK {l:List Pt} {k:Nat} {pi pa pb:Int} (hc:qoW l) (hp:qvf pa pb pi) (ha:Fn 76 1 [qap 0 l,.pv (iV (pi))] [(0,0,qad l)] (.pv (iV (k:Int))) 0 []) (h0:decide ((k:Int)<0)=false) (hw:Fn 47 1 [qap 0 l] [(0,0,qad l)] (.ag [.ls 1 l.length]) 1 [(1,0,qad l)]) (hin:0≤(k:Int)∧(k:Int)<(l.length:Int)) (hkl:k<l.length) :
 Fn 109 1 [qap 0 l,.pv (qab pi pa pb)] [(0,0,qad l)] (.tu [.ag [.ls 1 (l.set k (Pt.mk pi pa pb)).length],.one (.pv (iV 0))]) 1 [(1,0,qad (l.set k (Pt.mk pi pa pb)))]:=
 Fx [(1,4)] [Cf hc [0],.k,Rf hp,.k,Cf ha [0],.t false,Cf hw [0],.w (qaY (l.set k (Pt.mk pi pa pb)))]
  (qxJ 4 l k (Pt.mk pi pa pb)) (Ai (qpa l k (Pt.mk pi pa pb)) tI) (Co hc [0] 4 (Ai hp (Co ha [0] 4 (Ai h0 (Co hw [0] 4 (Ai hin (Ai (qsW l k (Pt.mk pi pa pb) hkl) (Ai (qvx l k hkl) tI))))))))
end Go.Proofs.YtleaeldgaflmkaaGreat

namespace Go.Proofs.YtleaeldgaflmkaaGreat
set_option maxRecDepth 100000
open Go.RowKit
def qcg (p:Pt):Bool:=okP p.id p.a p.b
def Up (l:List Pt):Prop:=∀ (k:Nat) (p q:Pt),l[k]?=some p→l[k+1]?=some q→p.id<q.id
noncomputable def qcj (l:List Pt):Int:=open Classical in if 64<l.length then 4 else if ∀ p∈l,qcg p=true then (if Up l then 0 else 32) else 8
theorem qdT (P:Nat→Prop):∀ (N:Nat),(∀ k,k<N→P k)∨∃ j,j<N∧¬ P j∧∀ i,i<j→P i
 | 0=>Or.inl fun k hk=>by omega
 | N+1=>by
  rcases qdT P N with h | ⟨j,h1,h2⟩
  ·by_cases hN:P N
   ·exact Or.inl fun k hk=>by
     rcases Nat.lt_or_ge k N with h' | h'
     ·exact h k h'
     ·have:k=N:=by omega
      subst this;exact hN
   ·exact Or.inr ⟨N,by omega,hN,h⟩
  ·exact Or.inr ⟨j,by omega,h2⟩
theorem qal {α:Type} {l:List α} {k:Nat} (h:k<l.length):∃ p,l[k]?=some p:=⟨l[k],List.getElem?_eq_getElem h⟩
theorem qaw {α:Type} {l:List α} {k:Nat} {p:α} (h:l[k]?=some p):k<l.length:=(List.getElem?_eq_some_iff.1 h).1
theorem qaA {k n:Nat} (h:k<n):0≤(k:Int)∧(k:Int)<(n:Int):=⟨by omega,by omega⟩
theorem Up.mono {l:List Pt} (h:Up l):∀ {i j:Nat} {p q:Pt},i<j→l[i]?=some p→l[j]?=some q→p.id<q.id:=by
 intro i j
 induction j with
 | zero=>intro p q hij;omega
 | succ j ih=>
  intro p q hij hp hq
  by_cases e:i=j
  ·subst e;exact h i p q hp hq
  ·obtain⟨r,hr⟩:=qal (l:=l) (k:=j) (by have:=qaw hq;omega)
   exact Int.lt_trans (ih (by omega) hp hr) (h j r q hr hq)
theorem qeV {k n:Nat} (h:k<n) (hn:n≤64):iV (IntKind.i64.wrap ((k:Int)+1))=iV ((k+1:Nat):Int):=qar (by omega)
theorem qjk {l:List Pt} (hn:l.length≤64) (h:∀ p∈l,qcg p=true):Rl 1 1 50 0 44 2 [(1,.pp 1 0),(3,.pv (iV ((0:Nat):Int)))] [(1,0,.ls 0 l.length),(0,0,qad l)] (.exit 0) [(1,.pp 1 0)] [(1,0,.ls 0 l.length),(0,0,qad l)]:=
 RunsL.rounds (fun k=>[(1,.pp 1 0),(3,.pv (iV (k:Int)))]) (fun _=>[(1,0,.ls 0 l.length),(0,0,qad l)]) l.length 0 (Nat.zero_add _)
  (fun k _ hk r=>by
   obtain⟨p,hp⟩:=qal hk
   exact qjj hp (qaA hk) (dt (by omega)) (qaW (h p (List.mem_of_getElem? hp))) (qeV hk hn) r)
  (qt8 (df (by omega)))
theorem qhP {l:List Pt} (hn:l.length≤64) {j:Nat} {p:Pt} (hp:l[j]?=some p) (hb:¬ qcg p=true) (h:∀ i,i<j→∀ q,l[i]?=some q→qcg q=true):Rl 1 1 50 0 44 2 [(1,.pp 1 0),(3,.pv (iV ((0:Nat):Int)))] [(1,0,.ls 0 l.length),(0,0,qad l)] .ret [(2,.pv (iV 8))] []:=by
 have hj:=qaw hp
 refine RunsL.rounds (fun k=>[(1,.pp 1 0),(3,.pv (iV (k:Int)))]) (fun _=>[(1,0,.ls 0 l.length),(0,0,qad l)]) j 0 (Nat.zero_add _) (fun k _ hk r=>?_) (qtF hp (qaA hj) (dt (by omega)) (qcN hb))
 obtain⟨q,hq⟩:=qal (l:=l) (k:=k) (by omega)
 exact qjj hq (qaA (qaw hq)) (dt (by omega)) (qaW (h k hk q hq)) (qeV (qaw hq) hn) r
theorem qcX (k:Nat) (h:k≤1000000):iV (IntKind.i64.wrap (((k+1:Nat):Int)-1))=iV (k:Int):=by rw[show ((k+1:Nat):Int)-1=(k:Int) by omega,qah (by omega) (by omega)]
theorem qpV {l:List Pt} (hn:l.length≤64) (h:Up l):Rl 1 1 50 1 44 2 [(1,.pp 1 0),(4,.pv (iV ((0+1:Nat):Int)))] [(1,0,.ls 0 l.length),(0,0,qad l)] (.exit 2) [] []:=by
 by_cases h0:l.length=0
 ·exact qn2 (k:=0+1) (df (by omega))
 refine RunsL.rounds (fun k=>[(1,.pp 1 0),(4,.pv (iV (k:Int)))]) (fun _=>[(1,0,.ls 0 l.length),(0,0,qad l)]) (N:=l.length) (l.length-1) (0+1) (by omega) (fun k h1 hk r=>?_) (qn2 (df (by omega)))
 obtain⟨m,rfl⟩:∃ m,k=m+1:=⟨k-1,by omega⟩
 obtain⟨q,hq⟩:=qal (l:=l) (k:=m) (by omega)
 obtain⟨p,hp⟩:=qal hk
 exact qkr hq hp (qaA (by omega)) (qaA hk) (dt (by omega)) (qcX m (by omega)) (df (by have:=h m q p hq hp;omega)) (qeV hk hn) r
theorem qhI {l:List Pt} (hn:l.length≤64) {j:Nat} {p q:Pt} (hq:l[j]?=some q) (hp:l[j+1]?=some p) (hb:¬ q.id<p.id) (h:∀ i,i<j→∀ p q,l[i]?=some p→l[i+1]?=some q→p.id<q.id):Rl 1 1 50 1 44 2 [(1,.pp 1 0),(4,.pv (iV ((0+1:Nat):Int)))] [(1,0,.ls 0 l.length),(0,0,qad l)] .ret [(2,.pv (iV 32))] []:=by
 have hj:=qaw hp
 refine RunsL.rounds (fun k=>[(1,.pp 1 0),(4,.pv (iV (k:Int)))]) (fun _=>[(1,0,.ls 0 l.length),(0,0,qad l)]) (N:=j+1) j (0+1) (by omega) (fun k h1 hk r=>?_) (qt0 hq hp (qaA (by omega)) (qaA hj) (dt (by omega)) (qcX j (by omega)) (dt (by omega)))
 obtain⟨m,rfl⟩:∃ m,k=m+1:=⟨k-1,by omega⟩
 obtain⟨q',hq'⟩:=qal (l:=l) (k:=m) (by omega)
 obtain⟨p',hp'⟩:=qal (l:=l) (k:=m+1) (by omega)
 exact qkr hq' hp' (qaA (by omega)) (qaA (by omega)) (dt (by omega)) (qcX m (by omega)) (df (by have:=h m (by omega) q' p' hq' hp';omega)) (qeV (n:=l.length) (by omega) hn) r
theorem qfn (l:List Pt):(64<l.length∧qcj l=4)∨(l.length≤64∧(∃ (j:Nat) (p:Pt),l[j]?=some p∧¬ qcg p=true∧∀ i,i<j→∀ q,l[i]?=some q→qcg q=true)∧qcj l=8)∨
 (l.length≤64∧(∀ p∈l,qcg p=true)∧(∃ (j:Nat) (p q:Pt),l[j]?=some q∧l[j+1]?=some p∧¬ q.id<p.id∧∀ i,i<j→∀ p q,l[i]?=some p→l[i+1]?=some q→p.id<q.id)∧qcj l=32)∨
 (l.length≤64∧(∀ p∈l,qcg p=true)∧Up l∧qcj l=0):=by
 by_cases h0:64<l.length
 ·exact Or.inl ⟨h0,by unfold qcj;rw[if_pos h0]⟩
 refine Or.inr ?_
 by_cases h1:∀ p∈l,qcg p=true
 ·refine Or.inr ?_
  by_cases h2:Up l
  ·exact Or.inr ⟨by omega,h1,h2,by unfold qcj;rw[if_neg h0,if_pos h1,if_pos h2]⟩
  ·refine Or.inl ⟨by omega,h1,?_,by unfold qcj;rw[if_neg h0,if_pos h1,if_neg h2]⟩
   rcases qdT (fun k=>∀ p q,l[k]?=some p→l[k+1]?=some q→p.id<q.id) l.length with h | ⟨j,hj,hn,hb⟩
   ·exact (h2 fun k p q hp hq=>h k (qaw hp) p q hp hq).elim
   ·simp only[Classical.not_forall,not_imp] at hn
    obtain⟨p,q,hp,hq,hpq⟩:=hn
    exact⟨j,q,p,hp,hq,hpq,hb⟩
 ·refine Or.inl ⟨by omega,?_,by unfold qcj;rw[if_neg h0,if_neg h1]⟩
  rcases qdT (fun k=>∀ q,l[k]?=some q→qcg q=true) l.length with h | ⟨j,hj,hn,hb⟩
  ·exact (h1 fun p hp=>by obtain⟨k,hk,rfl⟩:=List.getElem_of_mem hp;exact h k hk _ (List.getElem?_eq_getElem hk)).elim
  ·simp only[Classical.not_forall,not_imp] at hn
   obtain⟨p,hp,hpq⟩:=hn
   exact⟨j,p,hp,hpq,hb⟩
theorem qbd (l:List Pt):Fn 50 1 [qap 0 l] [(0,0,qad l)] (.pv (iV (qcj l))) 0 []:=by
 rcases qfn l with ⟨h,e⟩ | ⟨h,⟨j,p,hp,hb,hf⟩,e⟩ | ⟨h,h1,⟨j,p,q,hq,hp,hb,hf⟩,e⟩ | ⟨h,h1,h2,e⟩<;>rw[e]
 ·exact qtO (dt (by omega))
 ·exact qwa (df (by omega)) (qhP h hp hb hf)
 ·exact qw2 (df (by omega)) (qjk h h1) (qhI h hq hp hb hf)
 ·exact qAq (df (by omega)) (qjk h h1) (qpV h h2)
abbrev pcT (l:List Pt) (k:Nat):List (Nat×SV):=[(1,.pp 1 0),(12,.ls 0 l.length),(13,.pv (iV (l.length:Int))),(14,.pv (iV (k:Int)))]
theorem qj0 {l:List Pt} (hn:l.length≤64) (h:∀ p∈l,qcg p=true):Rl 1 1 44 0 45 2 (pcT l 0) [(1,0,.ls 0 l.length),(0,0,qad l)] (.exit 0) [(1,.pp 1 0)] [(1,0,.ls 0 l.length),(0,0,qad l)]:=
 RunsL.rounds (pcT l) (fun _=>[(1,0,.ls 0 l.length),(0,0,qad l)]) l.length 0 (Nat.zero_add _)
  (fun k _ hk r=>by
   obtain⟨p,hp⟩:=qal hk
   exact qj6 hp (qaA hk) (dt (by omega)) (qa0 (h p (List.mem_of_getElem? hp))) (qeV hk hn) r)
  (qtq (df (by omega)))
theorem qhA {l:List Pt} (hn:l.length≤64) {j:Nat} {p:Pt} (hp:l[j]?=some p) (hb:¬ qcg p=true) (h:∀ i,i<j→∀ q,l[i]?=some q→qcg q=true):Rl 1 1 44 0 45 2 (pcT l 0) [(1,0,.ls 0 l.length),(0,0,qad l)] .ret [(2,.pv (iV 8))] []:=by
 have hj:=qaw hp
 refine RunsL.rounds (pcT l) (fun _=>[(1,0,.ls 0 l.length),(0,0,qad l)]) j 0 (Nat.zero_add _) (fun k _ hk r=>?_) (qtd hp (qaA hj) (dt (by omega)) (qfr hb))
 obtain⟨q,hq⟩:=qal (l:=l) (k:=k) (by omega)
 exact qj6 hq (qaA (qaw hq)) (dt (by omega)) (qa0 (h k hk q hq)) (qeV (qaw hq) hn) r
theorem qo5 {l:List Pt} (hn:l.length≤64) (h:Up l):Rl 1 1 44 1 45 2 [(1,.pp 1 0),(6,.pv (iV ((0+1:Nat):Int)))] [(1,0,.ls 0 l.length),(0,0,qad l)] (.exit 2) [] []:=by
 by_cases h0:l.length=0
 ·exact qlU (k:=0+1) (df (by omega))
 refine RunsL.rounds (fun k=>[(1,.pp 1 0),(6,.pv (iV (k:Int)))]) (fun _=>[(1,0,.ls 0 l.length),(0,0,qad l)]) (N:=l.length) (l.length-1) (0+1) (by omega) (fun k h1 hk r=>?_) (qlU (df (by omega)))
 obtain⟨m,rfl⟩:∃ m,k=m+1:=⟨k-1,by omega⟩
 obtain⟨q,hq⟩:=qal (l:=l) (k:=m) (by omega)
 obtain⟨p,hp⟩:=qal hk
 exact qjS hq hp (qaA (by omega)) (qaA hk) (dt (by omega)) (qcX m (by omega)) (df (by have:=h m q p hq hp;omega)) (qeV hk hn) r
theorem qhv {l:List Pt} (hn:l.length≤64) {j:Nat} {p q:Pt} (hq:l[j]?=some q) (hp:l[j+1]?=some p) (hb:¬ q.id<p.id) (h:∀ i,i<j→∀ p q,l[i]?=some p→l[i+1]?=some q→p.id<q.id):Rl 1 1 44 1 45 2 [(1,.pp 1 0),(6,.pv (iV ((0+1:Nat):Int)))] [(1,0,.ls 0 l.length),(0,0,qad l)] .ret [(2,.pv (iV 32))] []:=by
 have hj:=qaw hp
 refine RunsL.rounds (fun k=>[(1,.pp 1 0),(6,.pv (iV (k:Int)))]) (fun _=>[(1,0,.ls 0 l.length),(0,0,qad l)]) (N:=j+1) j (0+1) (by omega) (fun k h1 hk r=>?_) (qsg hq hp (qaA (by omega)) (qaA hj) (dt (by omega)) (qcX j (by omega)) (dt (by omega)))
 obtain⟨m,rfl⟩:∃ m,k=m+1:=⟨k-1,by omega⟩
 obtain⟨q',hq'⟩:=qal (l:=l) (k:=m) (by omega)
 obtain⟨p',hp'⟩:=qal (l:=l) (k:=m+1) (by omega)
 exact qjS hq' hp' (qaA (by omega)) (qaA (by omega)) (dt (by omega)) (qcX m (by omega)) (df (by have:=h m (by omega) q' p' hq' hp';omega)) (qeV (n:=l.length) (by omega) hn) r
theorem qaO (l:List Pt):Fn 44 1 [qap 0 l] [(0,0,qad l)] (.pv (iV (qcj l))) 0 []:=by
 rcases qfn l with ⟨h,e⟩ | ⟨h,⟨j,p,hp,hb,hf⟩,e⟩ | ⟨h,h1,⟨j,p,q,hq,hp,hb,hf⟩,e⟩ | ⟨h,h1,h2,e⟩<;>rw[e]
 ·exact qth (dt (by omega))
 ·exact qwc (df (by omega)) (qhA h hp hb hf)
 ·exact qvw (df (by omega)) (qj0 h h1) (qhv h hq hp hb hf)
 ·exact qAE (df (by omega)) (qj0 h h1) (qo5 h h2)
structure Val (l:List Pt):Prop where
 len:l.length≤64
 ok:∀ p∈l,qcg p=true
 up:Up l
theorem qbI {l:List Pt}:qcj l=0↔Val l:=by
 rcases qfn l with ⟨h,e⟩ | ⟨h,⟨j,p,hp,hb,hf⟩,e⟩ | ⟨h,h1,⟨j,p,q,hq,hp,hb,hf⟩,e⟩ | ⟨h,h1,h2,e⟩<;>rw[e]
 ·exact⟨fun h=>by omega,fun v=>by have:=v.len;omega⟩
 ·exact⟨fun h=>by omega,fun v=>(hb (v.ok p (List.mem_of_getElem? hp))).elim⟩
 ·exact⟨fun h=>by omega,fun v=>(hb (v.up j q p hq hp)).elim⟩
 ·exact⟨fun _=>⟨h,h1,h2⟩,fun _=>rfl⟩
theorem place (l:List Pt) (hv:Val l) (id:Int):(∃ (k:Nat) (p:Pt),l[k]?=some p∧p.id=id)∨((∀ p∈l,p.id≠id)∧∃ k,k≤l.length∧(∀ (t:Nat) (p:Pt),t<k→l[t]?=some p→p.id<id)∧∀ (t:Nat) (p:Pt),k≤t→l[t]?=some p→id<p.id):=by
 by_cases h:∃ (k:Nat) (p:Pt),l[k]?=some p∧p.id=id
 ·exact Or.inl h
 ·refine Or.inr ⟨fun p hp e=>?_,?_⟩
  ·obtain⟨k,hk,rfl⟩:=List.getElem_of_mem hp
   exact h ⟨k,_,List.getElem?_eq_getElem hk,e⟩
  ·rcases qdT (fun k=>∀ p,l[k]?=some p→p.id<id) l.length with hh | ⟨j,hj,hn,hb⟩
   ·exact⟨l.length,Nat.le_refl _,fun t p ht hp=>hh t ht p hp,fun t p ht hp=>by have:=qaw hp;omega⟩
   ·refine⟨j,by omega,fun t p ht hp=>hb t ht p hp,fun t p ht hp=>?_⟩
    simp only[Classical.not_forall,not_imp] at hn
    obtain⟨q,hq,hlt⟩:=hn
    have hne:q.id≠id:=fun e=>h ⟨j,q,hq,e⟩
    rcases Nat.lt_or_ge j t with h' | h'
    ·have:=hv.up.mono h' hq hp;omega
    ·have:t=j:=by omega
     subst this
     rw[hq] at hp
     cases hp
     omega
abbrev atT (id:Int) (k:Nat):List (Nat×SV):=[(1,.pv (iV id)),(2,.pp 1 0),(5,.pv (iV (k:Int)))]
theorem qqF {l:List Pt} (hn:l.length≤64) {id:Int} (h:∀ p∈l,p.id≠id):Fn 76 1 [qap 0 l,.pv (iV id)] [(0,0,qad l)] (.pv (iV (-1))) 0 []:=
 qAv (RunsL.rounds (atT id) (fun _=>[(1,0,.ls 0 l.length),(0,0,qad l)]) l.length 0 (Nat.zero_add _)
  (fun k _ hk r=>by
   obtain⟨p,hp⟩:=qal hk
   exact qoL hp (qaA hk) (dt (by omega)) (by simpa using h p (List.mem_of_getElem? hp)) (qeV hk hn) r)
  (qwV (df (by omega))))
theorem qjP {l:List Pt} (hv:Val l) {id:Int} {k:Nat} {p:Pt} (hk:l[k]?=some p) (he:p.id=id):Fn 76 1 [qap 0 l,.pv (iV id)] [(0,0,qad l)] (.pv (iV (k:Int))) 0 []:=by
 refine qvU (RunsL.rounds (atT id) (fun _=>[(1,0,.ls 0 l.length),(0,0,qad l)]) k 0 (Nat.zero_add _) (fun j _ hj r=>?_) (qxd hk (qaA (qaw hk)) (dt (by have:=qaw hk;omega)) (by simpa using he)))
 have hl:=qaw hk
 obtain⟨q,hq⟩:=qal (l:=l) (k:=j) (by omega)
 exact qoL hq (qaA (qaw hq)) (dt (by omega)) (by have:=hv.up.mono hj hq hk;simp;omega) (qeV (qaw hq) hv.len) r
theorem qsG (a pa pb id:Int):∃ c,Pure Tryz.prog 83 #[qab a pa pb,iV id] (iV c)∧(c<0↔a<id)∧(c=0↔a=id):=by
 rcases Int.lt_trichotomy a id with h | h | h
 ·exact⟨-1,qq0 (by simp) (by simp) (dt h),⟨fun _=>h,fun _=>by omega⟩,⟨fun h=>by omega,fun h=>by omega⟩⟩
 ·exact⟨0,qrb (by simp) (by simp) (df (by omega)) (df (by omega)),⟨fun h=>by omega,fun h=>by omega⟩,⟨fun _=>h,fun _=>rfl⟩⟩
 ·exact⟨1,qqC (by simp) (by simp) (df (by omega)) (dt (by omega)),⟨fun h=>by omega,fun h=>by omega⟩,⟨fun h=>by omega,fun h=>by omega⟩⟩
abbrev bsT (l:List Pt) (id:Int) (i j:Nat):List (Nat×SV):=[(0,.ls 0 l.length),(1,.pv (iV id)),(2,.pv (.func (.func 83) #[] #[])),(8,.pv (iV (l.length:Int))),(9,.pv (iV (i:Int))),(10,.pv (iV (j:Int)))]
theorem qmN {l:List Pt} (hn:l.length≤64) {id:Int} {k:Nat} (hlo:∀ (t:Nat) (p:Pt),t<k→l[t]?=some p→p.id<id) (hhi:∀ (t:Nat) (p:Pt),k≤t→l[t]?=some p→¬ p.id<id):∀ (d i j:Nat),j-i≤d→i≤k→k≤j→j≤l.length→
 Rl 1 1 82 0 49 1 (bsT l id i j) [(0,0,qad l)] (.exit 0) (bsT l id k k) [(0,0,qad l)]:=by
 intro d
 induction d with
 | zero=>
  intro i j hd h1 h2 h3
  have:i=k:=by omega
  have:j=k:=by omega
  subst i j
  exact qrC (df (by omega))
 | succ d ih=>
  intro i j hd h1 h2 h3
  by_cases hij:i<j
  ·obtain⟨p,hp⟩:=qal (l:=l) (k:=(i+j)/2) (by omega)
   obtain⟨c,hc,hc1,hc2⟩:=qsG p.id p.a p.b id
   have a1:iV (IntKind.i64.wrap ((i:Int)+(j:Int)))=iV ((i:Int)+(j:Int)):=by rw[qah (by omega) (by omega)]
   have a2:Value.int .u64 (IntKind.u64.wrap ((i:Int)+(j:Int)))=.int .u64 ((i:Int)+(j:Int)):=by rw[qdi (by omega) (by omega)]
   have a3:Value.int .u64 (((i:Int)+(j:Int)).fdiv (2 ^ (min (1:Int).toNat IntKind.u64.bits)))=.int .u64 (((i+j)/2:Nat):Int):=by
    have:(2:Int) ^ (min (1:Int).toNat IntKind.u64.bits)=2:=rfl
    rw[this,Int.fdiv_eq_ediv_of_nonneg _ (by omega)]
    congr 1
   have a4:iV (IntKind.i64.wrap (((i+j)/2:Nat):Int))=iV (((i+j)/2:Nat):Int):=by rw[qah (by omega) (by omega)]
   by_cases hlt:p.id<id
   ·refine qzy hp (qaA (qaw hp)) (dt (by omega)) a1 a2 (by omega) a3 a4 hc (dt (hc1.2 hlt)) (qar (by omega)) (ih _ _ (by omega) ?_ h2 h3)
    rcases Nat.lt_or_ge ((i+j)/2) k with h | h
    ·exact h
    ·exact (hhi _ p h hp hlt).elim
   ·refine qAp hp (qaA (qaw hp)) (dt (by omega)) a1 a2 (by omega) a3 a4 hc (df (fun h=>hlt (hc1.1 h))) (ih _ _ (by omega) h1 ?_ (by omega))
    rcases Nat.lt_or_ge ((i+j)/2) k with h | h
    ·exact (hlt (hlo _ p h hp)).elim
    ·exact h
  ·have:i=k:=by omega
   have:j=k:=by omega
   subst i j
   exact qrC (df (by omega))
theorem qcY {l:List Pt} (hv:Val l) {id:Int} {k:Nat} {p:Pt} (hk:l[k]?=some p) (he:p.id=id):Fn 58 1 [qap 0 l,.pv (iV id)] [(0,0,qad l)] (.pv (.tuple #[iV (k:Int),.bool true])) 0 []:=by
 subst he
 obtain⟨c,hc,hc1,hc2⟩:=qsG p.id p.a p.b p.id
 have hl:=qaw hk
 refine qfi (qt3 (qmN hv.len (fun t q ht hq=>hv.up.mono ht hq hk) (fun t q ht hq=>?_) l.length 0 l.length (by omega) (Nat.zero_le _) (by omega) (Nat.le_refl _)) hk (qaA hl) (dt (by omega)) hc (by simpa using hc2.2 rfl))
 rcases Nat.lt_or_ge k t with h | h
 ·have:=hv.up.mono h hk hq;omega
 ·have:t=k:=by omega
  subst this
  rw[hk] at hq;cases hq;omega
theorem qgZ {l:List Pt} (hv:Val l) {id:Int} {k:Nat} (hkl:k≤l.length) (hlo:∀ (t:Nat) (p:Pt),t<k→l[t]?=some p→p.id<id) (hhi:∀ (t:Nat) (p:Pt),k≤t→l[t]?=some p→id<p.id):Fn 58 1 [qap 0 l,.pv (iV id)] [(0,0,qad l)] (.pv (.tuple #[iV (k:Int),.bool false])) 0 []:=by
 have hb:=qmN hv.len hlo (fun t p ht hp=>by have:=hhi t p ht hp;omega) l.length 0 l.length (by omega) (Nat.zero_le _) hkl (Nat.le_refl _)
 by_cases h:k<l.length
 ·obtain⟨p,hp⟩:=qal h
  obtain⟨c,hc,hc1,hc2⟩:=qsG p.id p.a p.b id
  refine qfi (qxz hb hp (qaA h) (dt (by omega)) hc ?_)
  have:=hhi k p (Nat.le_refl _) hp
  simp only[beq_eq_false_iff_ne,ne_eq]
  exact fun e=>by have:=hc2.1 e;omega
 ·exact qfi (qtn hb (df (by omega)))
end Go.Proofs.YtleaeldgaflmkaaGreat

namespace Go.Proofs.YtleaeldgaflmkaaGreat
set_option maxRecDepth 100000
open Go.RowKit
def qa8 {α:Type} (lt:α→α→Bool) (b:α) (l:List α):α:=l.foldl (fun b x=>if lt x b then x else b) b
structure Weak {α:Type} (lt:α→α→Bool):Prop where
 asym:∀ a b,lt a b=true→lt b a=false
 mid:∀ a b c,lt a b=true→lt a c=true∨lt c b=true
theorem Weak.trans {α:Type} {lt:α→α→Bool} (h:Weak lt) {a b c:α} (h1:lt a b=true) (h2:lt b c=true):lt a c=true:=by
 rcases h.mid a b c h1 with k | k
 ·exact k
 ·rw[h.asym b c h2] at k;cases k
def qor (n:Nat):List (Nat×Nat):=(List.range n).flatMap fun a=>(List.range' (a+1) (n-(a+1))).map fun b=>(a,b)
end Go.Proofs.YtleaeldgaflmkaaGreat

namespace Go.Proofs.YtleaeldgaflmkaaGreat
set_option maxRecDepth 100000
open Go.RowKit
def qu5 (p:Pt):List Pt→List Pt
 | []=>[p]
 | q::r=>if p.id<q.id then p::q::r else q::qu5 p r
theorem qou {p:Pt}:∀ {l:List Pt} {k:Nat},k≤l.length→(∀ (t:Nat) (q:Pt),t<k→l[t]?=some q→q.id<p.id)→(∀ (t:Nat) (q:Pt),k≤t→l[t]?=some q→p.id<q.id)→qu5 p l=l.take k++p::l.drop k
 | [],k,hk,_,_=>by
  have e:k=0:=by simpa using hk
  subst e
  rfl
 | x::r,0,_,_,h2=>by
  have:=h2 0 x (Nat.le_refl _) rfl
  simp[qu5,this]
 | x::r,k+1,hk,h1,h2=>by
  have hx:=h1 0 x (by omega) rfl
  have ih:=qou (p:=p) (l:=r) (k:=k) (by simpa using hk) (fun t q ht hq=>h1 (t+1) q (by omega) hq) (fun t q ht hq=>h2 (t+1) q (by omega) hq)
  simp[qu5,show ¬ p.id<x.id by omega,ih]
end Go.Proofs.YtleaeldgaflmkaaGreat

namespace Go.Proofs.YtleaeldgaflmkaaGreat
set_option maxRecDepth 100000
open Go.RowKit
structure AskT (n d:Int):Prop where
 ok:okB n d=true
 lo : -1073741824≤n
 hi:n≤1073741824
 den:d≤1024
section
variable {n d:Int} {p q:Pt}
theorem AskT.in (h:AskT n d):I64 n∧I64 d∧1≤d:=by
 have h1:=qax h.ok
 have h2:=h.lo
 have h3:=h.hi
 have h4:=h.den
 exact⟨⟨by omega,by omega⟩,⟨by omega,by omega⟩,h1⟩
def plS (p:Pt) (n d:Int):Int:=p.a*d+p.b*n
theorem qd7 (hp:qcg p=true) (h:AskT n d) : -1125900000000000-1073741824≤plS p n d∧plS p n d≤1125900000000000+1073741824:=by
 have h':=qbr.1 hp
 have h1:=qax h.ok
 have h2:=h.lo
 have h3:=h.hi
 have h4:=h.den
 obtain⟨_,_,a1,a2,b1,b2⟩:=h'
 have m1:=qva (a:=p.a) (x:=d) (A:=1048576) (X:=1024) (by omega) a2 (by omega) (by omega) (by decide) (by decide)
 have m2:=qva (a:=p.b) (x:=n) (A:=1048576) (X:=1073741824) (by omega) b2 (by omega) (by omega) (by decide) (by decide)
 unfold plS
 omega
theorem qoS (hp:qcg p=true) (h:AskT n d):∃ N D,okB N D=true∧I64 N∧I64 D∧N*d=plS p n d*D∧Pure Tryz.prog 75 #[qab p.id p.a p.b,qaa n d] (qaa N D):=by
 obtain⟨i1,i2,i3⟩:=h.in
 obtain⟨N,D,E,hr,hc⟩:=quN i1 i2 hp h.ok
 have g:=qd7 hp h
 obtain⟨_,f2,f3,f4,f5⟩:=IsRes.fits hr (by omega) i2.2 (by unfold plS at g;omega) (by unfold plS at g;omega)
 exact⟨N,D,f2,f3,f4,f5,vpl (c1:=hc)⟩
def quY (p q:Pt) (n d:Int):Int:=if plS p n d-plS q n d<0 then -(plS p n d-plS q n d) else plS p n d-plS q n d
theorem qAS (hp:qcg p=true) (hq:qcg q=true) (h:AskT n d):∃ N D,okB N D=true∧I64 N∧I64 D∧N*d=quY p q n d*D∧Pure Tryz.prog 106 #[qab p.id p.a p.b,qab q.id q.a q.b,qaa n d] (qaa N D):=by
 obtain⟨i1,i2,i3⟩:=h.in
 obtain⟨N1,D1,k1,a1,a2,e1,c1⟩:=qoS hp h
 obtain⟨N2,D2,k2,b1,b2,e2,c2⟩:=qoS hq h
 have g1:=qd7 hp h
 have g2:=qd7 hq h
 have d1:=qax k1
 have d2:=qax k2
 have c3:=qpX a1 a2 b1 b2 k1 k2
 have hr:=qil k1 (qea b1.2 k2)
 have hd0:D1*D2≠0:=Int.mul_ne_zero (by omega) (by omega)
 have hm:=qhS (a:=plS p n d-plS q n d) (b:=d) (by omega)
 have ex:(N1*D2 + -N2*D1)*d=(plS p n d-plS q n d)*(D1*D2):=by
  have t1:N1*D2*d=plS p n d*(D1*D2):=by rw[Int.mul_right_comm,e1,Int.mul_assoc]
  have t2:N2*D1*d=plS q n d*(D1*D2):=by rw[Int.mul_right_comm,e2,Int.mul_assoc,Int.mul_comm D2]
  rw[Int.add_mul,Int.sub_mul,t1,Int.neg_mul,Int.neg_mul,t2]
  omega
 have hu:=IsRes.uniqR hr hm hd0 (by omega) ex
 obtain⟨f1,f2,f3,f4,f5⟩:=IsRes.fits hm (by omega) i2.2 (by omega) (by omega)
 obtain⟨u1,u2,u3⟩:=hu
 rw[u1,u2,u3,f1] at c3
 by_cases hn:mkN (plS p n d-plS q n d) d<0
 ·have hneg:plS p n d-plS q n d<0:=by
   have hD:=qax f2
   apply Classical.byContradiction
   intro hc
   have:0≤(plS p n d-plS q n d)*mkD (plS p n d-plS q n d) d:=Int.mul_nonneg (by omega) (by omega)
   have h2:mkN (plS p n d-plS q n d) d*d<0:=Int.mul_neg_of_neg_of_pos hn (by omega)
   omega
  refine⟨-mkN (plS p n d-plS q n d) d,mkD (plS p n d-plS q n d) d,qea f3.2 f2,?_,f4,?_,qyK (c1:=c1) (c2:=c2) (c3:=c3) (h0:=dt hn) (hn:=?_)⟩
  ·have:=qbq f2
   obtain⟨x1,x2⟩:=f3
   exact⟨by omega,by omega⟩
  ·unfold quY
   rw[if_pos hneg,Int.neg_mul,Int.neg_mul,f5]
  ·have:=qbq f2
   obtain⟨x1,x2⟩:=f3
   rw[qah (by omega) (by omega),Int.zero_sub]
 ·have hneg:¬ plS p n d-plS q n d<0:=fun hc=>by
   have hD:=qax f2
   have h1:(plS p n d-plS q n d)*mkD (plS p n d-plS q n d) d<0:=Int.mul_neg_of_neg_of_pos hc (by omega)
   have h2:0≤mkN (plS p n d-plS q n d) d*d:=Int.mul_nonneg (by omega) (by omega)
   omega
  refine⟨mkN (plS p n d-plS q n d) d,mkD (plS p n d-plS q n d) d,f2,f3,f4,?_,qyI (c1:=c1) (c2:=c2) (c3:=c3) (h0:=df hn)⟩
  unfold quY
  rw[if_neg hneg]
  exact f5
end
end Go.Proofs.YtleaeldgaflmkaaGreat
