/-
  Joined: Uf, Ug, Um, Uh, Ut, Ui, Uj. Conditions: none.
-/
import Derived.Test.YtalnjplghagbpaaW26
import Derived.Test.YtalnjplghagbpaaW27
import Derived.Test.YtalnjplghagbpaaW19
import Derived.Test.YtalnjplghagbpaaW24
import Derived.Test.YtalnjplghagbpaaW22
namespace Go.Proofs.Ytalnjplghagbpaa
set_option maxRecDepth 100000
open Go.RowKit
theorem qiq {tn td:Int} {p q:Pt} (hi:p.id≠q.id) (h:ld tn td p q=false):ld tn td q p=true:=by
 unfold ld at *
 generalize p.a*td+p.b*tn=P at *
 generalize q.a*td+q.b*tn=Q at *
 rw[qbI] at h
 rw[qcV]
 omega
theorem qsM {l:List Pt} (hv:Val l) {p q:Pt} (hp:p∈l) (hq:q∈l) (e:p.id=q.id):p=q:=by
 obtain⟨i,hi,rfl⟩:=List.getElem_of_mem hp
 obtain⟨j,hj,rfl⟩:=List.getElem_of_mem hq
 rcases Nat.lt_trichotomy i j with h | h | h
 ·have:=hv.up.mono h (List.getElem?_eq_getElem hi) (List.getElem?_eq_getElem hj);omega
 ·subst h;rfl
 ·have:=hv.up.mono h (List.getElem?_eq_getElem hj) (List.getElem?_eq_getElem hi);omega
def ptI (s:List Pt) (i:Int):Pt:=(s.find? fun q=>q.id==i).getD ⟨0,0,0⟩
theorem qmy {s:List Pt} (hs:Val s) {q:Pt} (hq:q∈s):ptI s q.id=q:=by
 unfold ptI
 cases h:s.find? fun r=>r.id==q.id with
 | none=>
  have:=List.find?_eq_none.1 h q hq
  simp at this
 | some r=>
  have h1:=List.mem_of_find?_eq_some h
  have h2:=List.find?_some h
  exact qsM hs h1 hq (by simpa using h2)
def RI (s:List Pt) (tn td:Int) (a b:Int):Prop:=ld tn td (ptI s a) (ptI s b)=true
section
variable {s:List Pt} {tn td:Int}
theorem RI.asym (a b:Int) (h:RI s tn td a b):¬ RI s tn td b a:=fun k=>by
 have h2:ld tn td (ptI s b) (ptI s a)=true:=k
 rw[qdF h] at h2
 cases h2
theorem RI.trans {a b c:Int} (h:RI s tn td a b) (k:RI s tn td b c):RI s tn td a c:=qcu h k
theorem RI.tot (hs:Val s) {a b:Int} (ha:a∈s.map Pt.id) (hb:b∈s.map Pt.id) (h:a≠b):RI s tn td a b∨RI s tn td b a:=by
 obtain⟨p,hp,rfl⟩:=List.mem_map.1 ha
 obtain⟨q,hq,rfl⟩:=List.mem_map.1 hb
 unfold RI
 rw[qmy hs hp,qmy hs hq]
 cases e:ld tn td p q
 ·exact Or.inr (qiq h e)
 ·exact Or.inl rfl
theorem qmx (hs:Val s):(s.map Pt.id).Pairwise (· < ·):=by
 rw[List.pairwise_map,List.pairwise_iff_getElem]
 intro i j hi hj hij
 exact hs.up.mono hij (List.getElem?_eq_getElem hi) (List.getElem?_eq_getElem hj)
theorem qkJ {l:List Int} (h:l.Pairwise (· < ·)):l.Nodup:=h.imp fun hlt e=>by rw[e] at hlt;omega
structure TreeOf (s:List Pt) (tn td:Int) (S:Sh Int):Prop where
 ids:S.list=s.map Pt.id
 ho:S.HO (RI s tn td)
theorem TreeOf.uniq {S S':Sh Int} (hs:Val s) (h:TreeOf s tn td S) (h':TreeOf s tn td S'):S=S':=
 h.ho.uniq RI.asym h'.ho (h.ids.trans h'.ids.symm) (by rw[h.ids];exact qkJ (qmx hs))
open Classical in
theorem TreeOf.dep {S:Sh Int} (hs:Val s) (h:TreeOf s tn td S) {c:Int} (hc:c∈s.map Pt.id):S.dep c=((s.map Pt.id).filter fun i=>decide (i≠c∧Sh.Rul (RI s tn td) (s.map Pt.id) i c)).length:=by
 have:=Sh.dep_count RI.asym c h.ho (by rw[h.ids];exact qmx hs) (by rw[h.ids];exact hc)
 rw[h.ids] at this
 exact this
end
end Go.Proofs.Ytalnjplghagbpaa

namespace Go.Proofs.Ytalnjplghagbpaa
set_option maxRecDepth 100000
open Go.RowKit
abbrev trS (k:Nat) (rt:Int) (l:List Pt):SV:=.ag [.pv (iV rt),.ls k l.length]
abbrev qac (l:List Pt):SV:=.row 26 3 l.length (qaz l)
theorem qgV (x:Int):(x !=x)=false:=by simp
theorem qsr (rt:Int) (a:Nat):SV.ag [.pv (iV rt),.ls 4 (0+a)]=(SV.ag [.pv (iV rt),.ls 1 a]).ren (qaF [(1,4)]):=by rw[Nat.zero_add];rfl
theorem qm5 (n:Nat) (xs:List Value):some (SV.row 26 3 (0+n) ([]++xs))=some (SV.row 26 3 n xs):=by rw[Nat.zero_add,List.nil_append]
theorem qbe {l:List Pt} {z:Int} {p:Pt} (h:l[z.toNat]?=some p):qcs (qaz l) (0*3+z.toNat*3) [iV p.id,iV p.a,iV p.b]:=qaY h
theorem qbR {l:List Pt} {z:Int} {p:Pt} (h:l[z.toNat]?=some p):qcs (qaz l) (0*3+z.toNat*3+1) [iV p.a]:=fun j v hj=>by
 have:=qaY h 1 (iV p.a) rfl
 match j,hj with
 | 0,hj=>cases hj;exact this
theorem qck {l:List Pt} {z:Int} {p:Pt} (h:l[z.toNat]?=some p):qcs (qaz l) (0*3+z.toNat*3+2) [iV p.b]:=fun j v hj=>by
 have:=qaY h 2 (iV p.b) rfl
 match j,hj with
 | 0,hj=>cases hj;exact this
theorem qpZ {rt z:Int} {l:List Pt} (h1:decide (z≥(-1))=false) :
 Fn 70 1 [trS 0 rt l,.pv (iV (z))] [(0,0,qac l)] (.pv (.bool false)) 0 []:=
 Fz [] [.t false]
  tI (Ai h1 tI)
theorem qk2 {rt z:Int} {l:List Pt} (h1:decide (z≥(-1))=true) (h2:decide (z<(l.length:Int))=true) :
 Fn 70 1 [trS 0 rt l,.pv (iV (z))] [(0,0,qac l)] (.pv (.bool true)) 0 []:=
 Fz [] [.t true,.t true]
  tI (Ai h1 (Ai h2 tI))
theorem qib {rt z:Int} {l:List Pt} (h1:decide (z≥(-1))=true) (h2:decide (z<(l.length:Int))=false) :
 Fn 70 1 [trS 0 rt l,.pv (iV (z))] [(0,0,qac l)] (.pv (.bool false)) 0 []:=
 Fz [] [.t true,.t false]
  tI (Ai h1 (Ai h2 tI))
abbrev qoX (l:List Pt) (rt:Int):HpL:=[(1,0,.pv (iV rt)),(1,1,.ls 0 l.length),(0,0,qac l)]
theorem qmf {rt z:Int} {l:List Pt} {p:Pt} {k:Nat} (hlt:decide ((k:Int)<(l.length:Int))=true) (hk:l[k]?=some p) (hin:0≤(k:Int)∧(k:Int)<(l.length:Int)) (he:(p.id==z)=false) (hs:iV (IntKind.i64.wrap ((k:Int)+1))=iV (((k+1:Nat):Int))) {e:Exit} {tm2:TmL} {hp2:HpL}
 (r:Rl 1 1 68 0 22 2 ([(1,.pv (iV z)),(2,.pp 1 0),(5,.pv (iV ((k+1:Nat):Int)))]) (qoX l rt) e tm2 hp2):Rl 1 1 68 0 22 2 ([(1,.pv (iV z)),(2,.pp 1 0),(5,.pv (iV (k:Int)))]) (qoX l rt) e tm2 hp2:=
 RunsL.next [] 300 [.t true,.r (iV p.id),.t false,Re hs]
  (Ro (Ai hlt (Ai hin (Ai (qcv hk) (Ai he (Ai hs tI)))))) r
theorem qnC {rt z:Int} {l:List Pt} {p:Pt} {k:Nat} (hlt:decide ((k:Int)<(l.length:Int))=true) (hk:l[k]?=some p) (hin:0≤(k:Int)∧(k:Int)<(l.length:Int)) (he:(p.id==z)=true):Rl 1 1 68 0 22 2 ([(1,.pv (iV z)),(2,.pp 1 0),(5,.pv (iV (k:Int)))]) (qoX l rt) (.ret) ([(4,.pv (iV (k:Int)))]) ([]):=
 RunsL.stop [] 300 [.t true,.r (iV p.id),.t true] (fun h=>by cases h)
  (Ro (Ai hlt (Ai hin (Ai (qcv hk) (Ai he tI)))))
theorem qow {rt z:Int} {l:List Pt} {k:Nat} (hlt:decide ((k:Int)<(l.length:Int))=false):Rl 1 1 68 0 22 2 ([(1,.pv (iV z)),(2,.pp 1 0),(5,.pv (iV (k:Int)))]) (qoX l rt) (.exit 0) ([]) ([]):=
 RunsL.stop [] 300 [.t false] (fun h=>by cases h)
  (Ro (Ai hlt tI))
theorem qoL {rt z:Int} {l:List Pt} {k:Nat} (r0:Rl 1 1 68 0 22 2 ([(1,.pv (iV z)),(2,.pp 1 0),(5,.pv (iV ((0:Nat):Int)))]) (qoX l rt) (.ret) ([(4,.pv (iV (k:Int)))]) ([])) :
 Fn 68 1 [trS 0 rt l,.pv (iV (z))] [(0,0,qac l)] (.pv (iV (k:Int))) 0 []:=
 Fz [] [Lf r0]
  tI (Lo r0 [] tI)
theorem qqS {rt z:Int} {l:List Pt} (r0:Rl 1 1 68 0 22 2 ([(1,.pv (iV z)),(2,.pp 1 0),(5,.pv (iV ((0:Nat):Int)))]) (qoX l rt) (.exit 0) ([]) ([])) :
 Fn 68 1 [trS 0 rt l,.pv (iV (z))] [(0,0,qac l)] (.pv (iV (-1))) 0 []:=
 Fz [] [Lf r0]
  tI (Lo r0 [] tI)
abbrev qrE (l:List Pt) (rt:Int):HpL:=[(2,0,.pv (iV rt)),(2,1,.ls 0 l.length),(3,0,.pv (iV rt)),(3,1,.ls 1 l.length),(0,0,qac l),(1,0,qac l)]
theorem qlw {rt:Int} {l:List Pt} {p:Pt} {k:Nat} (hlt:decide ((k:Int)<(l.length:Int))=true) (hk:l[k]?=some p) (hin:0≤(k:Int)∧(k:Int)<(l.length:Int)) (hs:iV (IntKind.i64.wrap ((k:Int)+1))=iV (((k+1:Nat):Int))) {e:Exit} {tm2:TmL} {hp2:HpL}
 (r:Rl 2 2 22 0 38 4 ([(2,.pp 2 0),(3,.pp 3 0),(5,.pv (iV ((k+1:Nat):Int)))]) (qrE l rt) e tm2 hp2):Rl 2 2 22 0 38 4 ([(2,.pp 2 0),(3,.pp 3 0),(5,.pv (iV (k:Int)))]) (qrE l rt) e tm2 hp2:=
 RunsL.next [] 300 [.t true,.r (ptV p),.r (ptV p),.t false,Re hs]
  (Ro (Ai hlt (Ai hin (Ai (qaY hk) (Ai hin (Ai (qaY hk) (Ai (qk9 p) (Ai hs tI)))))))) r
theorem qnz {rt:Int} {l:List Pt} {k:Nat} (hlt:decide ((k:Int)<(l.length:Int))=false):Rl 2 2 22 0 38 4 ([(2,.pp 2 0),(3,.pp 3 0),(5,.pv (iV (k:Int)))]) (qrE l rt) (.exit 0) ([]) ([]):=
 RunsL.stop [] 300 [.t false] (fun h=>by cases h)
  (Ro (Ai hlt tI))
theorem qnm {rt:Int} {l:List Pt} (r0:Rl 2 2 22 0 38 4 ([(2,.pp 2 0),(3,.pp 3 0),(5,.pv (iV ((0:Nat):Int)))]) (qrE l rt) (.exit 0) ([]) ([])) :
 Fn 22 2 [trS 0 rt l,trS 1 rt l] [(0,0,qac l),(1,0,qac l)] (.pv (.bool true)) 0 []:=
 Fz [] [.t false,.t false,Lf r0]
  tI (Ai (qgV rt) (Ai (qgV (l.length:Int)) (Lo r0 [] tI)))
theorem qla {rt:Int} {l:List Pt} (h:decide ((l.length:Int)>70)=true) :
 Fn 26 1 [trS 0 rt l] [(0,0,qac l)] (.pv (.bool true)) 0 []:=
 Fz [] [.t true]
  tI (Ai h tI)
theorem qip {rt:Int} {l:List Pt} (h:decide ((l.length:Int)>70)=false) :
 Fn 26 1 [trS 0 rt l] [(0,0,qac l)] (.pv (.bool false)) 0 []:=
 Fz [] [.t false]
  tI (Ai h tI)
theorem utw {rt:Int} {l:List Pt} (n1:0+l.length≤1000000) :
 Fn 27 1 [trS 0 rt l] [(0,0,qac l)] (trS 1 rt l) 1 [(1,0,qac l)]:=
 Fx [(1,4)] [.md]
  (qsr rt l.length) (Ai (qm5 l.length (qaz l)) tI) (Ai n1 tI)
theorem qim {rt x i0 k0:Int} {l m:List Pt} (h0:decide (i0<0)=true) (h1:decide (k0<0)=true) :
 Fn 95 2 [trS 0 rt l,trS 1 x m,.pv (iV (i0)),.pv (iV (k0))] [(0,0,qac l),(1,0,qac m)] (.pv (.bool true)) 0 []:=
 Fz [] [.t true,.t true,.t true]
  tI (Ai h0 (Ai h0 (Ai h1 tI)))
theorem qhm {rt x i0 k0:Int} {l m:List Pt} (h0:decide (i0<0)=true) (h1:decide (k0<0)=false) :
 Fn 95 2 [trS 0 rt l,trS 1 x m,.pv (iV (i0)),.pv (iV (k0))] [(0,0,qac l),(1,0,qac m)] (.pv (.bool false)) 0 []:=
 Fz [] [.t true,.t true,.t false]
  tI (Ai h0 (Ai h0 (Ai h1 tI)))
theorem qs3 {rt x i0 k0:Int} {l m:List Pt} (h0:decide (i0<0)=false) (h1:decide (k0<0)=true) :
 Fn 95 2 [trS 0 rt l,trS 1 x m,.pv (iV (i0)),.pv (iV (k0))] [(0,0,qac l),(1,0,qac m)] (.pv (.bool false)) 0 []:=
 Fz [] [.t false,.t true,.t false]
  tI (Ai h0 (Ai h1 (Ai h0 tI)))
theorem qqL {rt x i0 k0:Int} {l m:List Pt} {p q:Pt} (h0:decide (i0<0)=false) (h1:decide (k0<0)=false) (hk:l[i0.toNat]?=some p) (hin:0≤i0∧i0<(l.length:Int)) (hm:m[k0.toNat]?=some q) (hin2:0≤k0∧k0<(m.length:Int)) (he:(p.id==q.id)=false) :
 Fn 95 2 [trS 0 rt l,trS 1 x m,.pv (iV (i0)),.pv (iV (k0))] [(0,0,qac l),(1,0,qac m)] (.pv (.bool false)) 0 []:=
 Fz [] [.t false,.t false,.r (ptV p),.r (ptV q),.t false]
  tI (Ai h0 (Ai h1 (Ai hin (Ai (qbe hk) (Ai hin2 (Ai (qbe hm) (Ai he tI)))))))
theorem qsf {rt x i0 k0:Int} {l m:List Pt} {p q:Pt} (h0:decide (i0<0)=false) (h1:decide (k0<0)=false) (hk:l[i0.toNat]?=some p) (hin:0≤i0∧i0<(l.length:Int)) (hm:m[k0.toNat]?=some q) (hin2:0≤k0∧k0<(m.length:Int)) (he:(p.id==q.id)=true) (hl:Fn 95 2 [trS 0 rt l,trS 1 x m,.pv (iV p.a),.pv (iV q.a)] [(0,0,qac l),(1,0,qac m)] (.pv (.bool false)) 0 []) :
 Fn 95 2 [trS 0 rt l,trS 1 x m,.pv (iV (i0)),.pv (iV (k0))] [(0,0,qac l),(1,0,qac m)] (.pv (.bool false)) 0 []:=
 Fz [] [.t false,.t false,.r (ptV p),.r (ptV q),.t true,Cf hl [0,1]]
  tI (Ai h0 (Ai h1 (Ai hin (Ai (qbe hk) (Ai hin2 (Ai (qbe hm) (Ai he (Co hl [0,1] 6 tI))))))))
theorem qsJ {rt x i0 k0:Int} {l m:List Pt} {p q:Pt} {w:Bool} (h0:decide (i0<0)=false) (h1:decide (k0<0)=false) (hk:l[i0.toNat]?=some p) (hin:0≤i0∧i0<(l.length:Int)) (hm:m[k0.toNat]?=some q) (hin2:0≤k0∧k0<(m.length:Int)) (he:(p.id==q.id)=true) (hl:Fn 95 2 [trS 0 rt l,trS 1 x m,.pv (iV p.a),.pv (iV q.a)] [(0,0,qac l),(1,0,qac m)] (.pv (.bool true)) 0 []) (hr:Fn 95 2 [trS 0 rt l,trS 1 x m,.pv (iV p.b),.pv (iV q.b)] [(0,0,qac l),(1,0,qac m)] (.pv (.bool w)) 0 []) :
 Fn 95 2 [trS 0 rt l,trS 1 x m,.pv (iV (i0)),.pv (iV (k0))] [(0,0,qac l),(1,0,qac m)] (.pv (.bool w)) 0 []:=
 Fz [] [.t false,.t false,.r (ptV p),.r (ptV q),.t true,Cf hl [0,1],Cf hr [0,1]]
  tI (Ai h0 (Ai h1 (Ai hin (Ai (qbe hk) (Ai hin2 (Ai (qbe hm) (Ai he (Co hl [0,1] 6 (Co hr [0,1] 6 tI)))))))))
end Go.Proofs.Ytalnjplghagbpaa

namespace Go.Proofs.Ytalnjplghagbpaa
set_option maxRecDepth 100000
open Go.RowKit
theorem qgw (w:Bool):(w==w)=true:=by simp
theorem qrY {rt x z tn td:Int} {s l m:List Pt} (hgf:Fn 25 1 [qav 0 s] [(0,0,qag s)] (.pv (.bool true)) 0 []) :
 Fn 4 3 [qav 0 s,.pv (qab tn td),trS 1 rt l,trS 2 x m,.pv (iV (z))] [(0,0,qag s),(1,0,qac l),(2,0,qac m)] (.pv (.bool true)) 0 []:=
 Fz [] [Cf hgf [0]]
  tI (Co hgf [0] 7 tI)
abbrev qsx (s:List Pt):Prop:=Fn 25 1 [qav 0 s] [(0,0,qag s)] (.pv (.bool false)) 0 []
theorem qsC {rt x z tn td:Int} {s l m:List Pt} (hgf:qsx s) (hgx:Fn 26 1 [trS 0 rt l] [(0,0,qac l)] (.pv (.bool true)) 0 []) :
 Fn 4 3 [qav 0 s,.pv (qab tn td),trS 1 rt l,trS 2 x m,.pv (iV (z))] [(0,0,qag s),(1,0,qac l),(2,0,qac m)] (.pv (.bool true)) 0 []:=
 Fz [] [Cf hgf [0],Cf hgx [1]]
  tI (Co hgf [0] 7 (Co hgx [1] 7 tI))
theorem qsX {rt x z tn td:Int} {s l m:List Pt} (hgf:qsx s) (hgx:Fn 26 1 [trS 0 rt l] [(0,0,qac l)] (.pv (.bool false)) 0 []) (hgy:Fn 26 1 [trS 0 x m] [(0,0,qac m)] (.pv (.bool true)) 0 []) :
 Fn 4 3 [qav 0 s,.pv (qab tn td),trS 1 rt l,trS 2 x m,.pv (iV (z))] [(0,0,qag s),(1,0,qac l),(2,0,qac m)] (.pv (.bool true)) 0 []:=
 Fz [] [Cf hgf [0],Cf hgx [1],Cf hgy [2]]
  tI (Co hgf [0] 7 (Co hgx [1] 7 (Co hgy [2] 7 tI)))
theorem qlT {rt x z e e1 e2 e3 e4 e5 v tn td r1:Int} {s l m n1:List Pt} {g:List Int} {w u:Bool} (hgf:qsx s) (hgx:Fn 26 1 [trS 0 rt l] [(0,0,qac l)] (.pv (.bool false)) 0 []) (hgy:Fn 26 1 [trS 0 x m] [(0,0,qac m)] (.pv (.bool false)) 0 []) (htw:Fn 27 1 [trS 0 rt l] [(0,0,qac l)] (trS 1 rt l) 1 [(1,0,qac l)]) (htf:Fn 28 1 [qav 0 s] [(0,0,qag s)] (.ag [.ls 1 s.length]) 1 [(1,0,qag s)]) (ho1:Fn 18 1 [qav 0 s,.pv (qab tn td)] [(0,0,qag s)] (.tu [.ag [.pv (iV r1),.ls 1 n1.length],.one (.pv (iV e))]) 1 [(1,0,qac n1)]) (ho2:Fn 29 1 [qav 0 s,.pv (qab tn td)] [(0,0,qag s)] (.tu [.ag [.pv (iV r1),.ls 1 n1.length],.one (.pv (iV e))]) 1 [(1,0,qac n1)]) (hi1:Fn 10 1 [trS 0 rt l] [(0,0,qac l)] (.tu [.one (.ls 1 g.length),.one (.pv (iV e1))]) 1 [(1,0,.row 3 1 g.length (ziV g))]) (hi2:Fn 30 1 [trS 0 rt l] [(0,0,qac l)] (.tu [.one (.ls 1 g.length),.one (.pv (iV e1))]) 1 [(1,0,.row 3 1 g.length (ziV g))]) (hr1:Fn 11 2 [trS 0 rt l,qav 1 s,.pv (qab tn td)] [(0,0,qac l),(1,0,qag s)] (.pv (.tuple #[.bool w,iV e2])) 0 []) (hr2:Fn 31 2 [trS 0 rt l,qav 1 s,.pv (qab tn td)] [(0,0,qac l),(1,0,qag s)] (.pv (.tuple #[.bool w,iV e2])) 0 []) (hd1:Fn 12 1 [trS 0 rt l,.pv (iV (z))] [(0,0,qac l)] (.pv (.tuple #[iV v,iV e3])) 0 []) (hd2:Fn 32 1 [trS 0 rt l,.pv (iV (z))] [(0,0,qac l)] (.pv (.tuple #[iV v,iV e3])) 0 []) (hs1:Fn 16 2 [trS 0 rt l,trS 1 x m] [(0,0,qac l),(1,0,qac m)] (.pv (.tuple #[.bool u,iV e4])) 0 []) (hs2:Fn 33 2 [trS 0 rt l,trS 1 x m] [(0,0,qac l),(1,0,qac m)] (.pv (.tuple #[.bool u,iV e4])) 0 []) (hq1:Fn 22 2 [trS 0 r1 n1,trS 1 r1 n1] [(0,0,qac n1),(1,0,qac n1)] (.pv (.bool true)) 0 []) (hc1:Fn 17 1 [trS 0 rt l] [(0,0,qac l)] (.pv (iV (e5))) 0 []) (hc2:Fn 34 1 [trS 0 rt l] [(0,0,qac l)] (.pv (iV (e5))) 0 []) (hl:Fn 23 2 [.ls 0 g.length,.ls 1 g.length] [(0,0,.row 3 1 g.length (ziV g)),(1,0,.row 3 1 g.length (ziV g))] (.pv (.bool true)) 0 []) (hq2:Fn 22 2 [trS 0 rt l,trS 1 rt l] [(0,0,qac l),(1,0,qac l)] (.pv (.bool true)) 0 []) (hsf:Fn 35 2 [qav 0 s,qav 1 s] [(0,0,qag s),(1,0,qag s)] (.pv (.bool true)) 0 []) :
 Fn 4 3 [qav 0 s,.pv (qab tn td),trS 1 rt l,trS 2 x m,.pv (iV (z))] [(0,0,qag s),(1,0,qac l),(2,0,qac m)] (.pv (.bool true)) 0 []:=
 qcE 700 [] [Cf hgf [0],Cf hgx [1],Cf hgy [2],.md,Cf htw [1],Cf htf [0],Cf ho1 [8],Cf ho1 [0],Cf hi1 [7],Cf hi1 [1],Cf hr1 [7,0],Cf hr1 [1,0],Cf hd1 [7],Cf hd1 [1],Cf hs1 [7,2],Cf hs1 [1,2],.md,Cf hq1 [11,13],.t true,Cf hc1 [7],Cf hc1 [1],.t true,Cf hl [15,16],.t true,.t true,.t true,.t true,.t true,.t true,.t true,Cf hq2 [7,1],Cf hsf [8,0]]
  tI (Co hgf [0] 7 (Co hgx [1] 7 (Co hgy [2] 7 (Co htw [1] 7 (Co htf [0] 8 (Co ho1 [8] 11 (Co ho2 [0] 13 (Co hi1 [7] 15 (Co hi2 [1] 16 (Co hr1 [7,0] 17 (Co hr2 [1,0] 17 (Co hd1 [7] 17 (Co hd2 [1] 17 (Co hs1 [7,2] 17 (Co hs2 [1,2] 17 (Co hq1 [11,13] 17 (Ai (qci e) (Co hc1 [7] 17 (Co hc2 [1] 17 (Ai (qci e5) (Co hl [15,16] 17 (Ai (qci e1) (Ai (qgw w) (Ai (qci e2) (Ai (qci v) (Ai (qci e3) (Ai (qgw u) (Ai (qci e4) (Co hq2 [7,1] 17 (Co hsf [8,0] 17 tI)))))))))))))))))))))))))))))) (by kernel_rfl)
end Go.Proofs.Ytalnjplghagbpaa

namespace Go.Proofs.Ytalnjplghagbpaa
set_option maxRecDepth 100000
open Go.RowKit
open Classical in
noncomputable def pT (p:Prop):Bool:=decide p
open Classical in
theorem qdL {p:Prop} (h:p):pT p=true:=by unfold pT;exact decide_eq_true h
open Classical in
theorem qc7 {p:Prop} (h:¬ p):pT p=false:=by unfold pT;exact decide_eq_false h
theorem qhG {n:Int} (h0 : -9223372036854775808≤n) (h1:n≤9223372036854775807):iV (IntKind.i64.wrap n)=iV n:=by
 rw[show IntKind.i64.wrap n=n by rw[IntKind.wrap_i64];omega]
section
variable {rt x:Int} {l m:List Pt}
theorem qjh (z:Int):Fn 70 1 [trS 0 rt l,.pv (iV z)] [(0,0,qac l)] (.pv (.bool (pT (-1≤z∧z<(l.length:Int))))) 0 []:=by
 by_cases h1 : -1≤z
 ·by_cases h2:z<(l.length:Int)
  ·rw[qdL ⟨h1,h2⟩];exact qk2 (h1:=dt (by omega)) (h2:=dt h2)
  ·rw[qc7 fun h=>h2 h.2];exact qib (h1:=dt (by omega)) (h2:=df h2)
 ·rw[qc7 fun h=>h1 h.1];exact qpZ (h1:=df (by omega))
theorem qgM:∀ {T T':Sh Nat} {i k:Int},Rep l i T→Rep m k T'→Fn 95 2 [trS 0 rt l,trS 1 x m,.pv (iV i),.pv (iV k)] [(0,0,qac l),(1,0,qac m)] (.pv (.bool (pT (idT l T=idT m T')))) 0 []
 | .nil,.nil,i,k,h,h'=>by
  have e:i = -1:=h
  have e':k = -1:=h'
  subst e e'
  rw[qdL (p:=idT l .nil=idT m .nil) rfl]
  exact qim (h0:=by decide) (h1:=by decide)
 | .nil,.node a j b,i,k,h,⟨h',_⟩=>by
  have e:i = -1:=h
  subst e h'
  rw[qc7 fun h=>by cases h]
  exact qhm (h0:=by decide) (h1:=df (by omega))
 | .node a j b,.nil,i,k,⟨h,_⟩,h'=>by
  have e':k = -1:=h'
  subst e' h
  rw[qc7 fun h=>by cases h]
  exact qs3 (h0:=df (by omega)) (h1:=by decide)
 | .node a j b,.node a' j' b',i,k,⟨h,p,hp,a1,a2⟩,⟨h',q,hq,b1,b2⟩=>by
  subst h h'
  have hjl:=qal hp
  have hjl':=qal hq
  have ih1:=qgM a1 b1
  have ih2:=qgM a2 b2
  have e1:idN l j=p.id:=qaC hp
  have e2:idN m j'=q.id:=qaC hq
  have eq:(idT l (.node a j b)=idT m (.node a' j' b'))↔(idT l a=idT m a'∧p.id=q.id∧idT l b=idT m b'):=by
   show (Sh.node (idT l a) (idN l j) (idT l b)=Sh.node (idT m a') (idN m j') (idT m b'))↔_
   rw[Sh.node.injEq,e1,e2]
  by_cases c1:p.id=q.id
  ·by_cases c2:idT l a=idT m a'
   ·rw[qdL c2] at ih1
    have ew:pT (idT l (.node a j b)=idT m (.node a' j' b'))=pT (idT l b=idT m b'):=by
     by_cases c3:idT l b=idT m b'
     ·rw[qdL c3,qdL (eq.2 ⟨c2,c1,c3⟩)]
     ·rw[qc7 c3,qc7 fun h=>c3 (eq.1 h).2.2]
    rw[ew]
    exact qsJ (h0:=df (by omega)) (h1:=df (by omega)) (hk:=hp) (hin:=⟨by omega,by omega⟩) (hm:=hq) (hin2:=⟨by omega,by omega⟩) (he:=by simp[c1]) (hl:=ih1) (hr:=ih2)
   ·rw[qc7 c2] at ih1
    rw[qc7 fun h=>c2 (eq.1 h).1]
    exact qsf (h0:=df (by omega)) (h1:=df (by omega)) (hk:=hp) (hin:=⟨by omega,by omega⟩) (hm:=hq) (hin2:=⟨by omega,by omega⟩) (he:=by simp[c1]) (hl:=ih1)
  ·rw[qc7 fun h=>c1 (eq.1 h).2.1]
   exact qqL (h0:=df (by omega)) (h1:=df (by omega)) (hk:=hp) (hin:=⟨by omega,by omega⟩) (hm:=hq) (hin2:=⟨by omega,by omega⟩) (he:=by simpa using c1)
theorem qpA (hn:l.length≤1000000):Fn 22 2 [trS 0 rt l,trS 1 rt l] [(0,0,qac l),(1,0,qac l)] (.pv (.bool true)) 0 []:=
 qnm (r0:=RunsL.rounds (fun k=>[(2,.pp 2 0),(3,.pp 3 0),(5,.pv (iV (k:Int)))]) (fun _=>[(2,0,.pv (iV rt)),(2,1,.ls 0 l.length),(3,0,.pv (iV rt)),(3,1,.ls 1 l.length),(0,0,qac l),(1,0,qac l)]) (N:=l.length) l.length 0 (Nat.zero_add _) (fun k _ hk r=>by
  obtain⟨p,hp⟩:=qao hk
  exact qlw (hlt:=dt (by omega)) (hk:=hp) (hin:=qaX hk) (hs:=qaj (by omega)) r) (qnz (hlt:=df (by omega))))
end
end Go.Proofs.Ytalnjplghagbpaa

namespace Go.Proofs.Ytalnjplghagbpaa
set_option maxRecDepth 100000
open Go.RowKit
section
variable {s:List Pt} {tn td:Int}
theorem qqg {i k:Nat} (hs:Val s) (hi:i<s.length) (hk:k<s.length) (h:k≠i):(ndT s i).id≠(ndT s k).id:=fun e=>by
 rcases Nat.lt_trichotomy i k with h0 | h0 | h0
 ·have:=hs.up.mono h0 (qau hi) (qau hk);omega
 ·exact h h0.symm
 ·have:=hs.up.mono h0 (qau hk) (qau hi);omega
end
end Go.Proofs.Ytalnjplghagbpaa

namespace Go.Proofs.Ytalnjplghagbpaa
set_option maxRecDepth 100000
open Go.RowKit
theorem qaH {l:List Pt} {z:Int} {p:Pt} (h:l[z.toNat]?=some p):qcs (qaz l) (0*3+z.toNat*3) [iV p.id]:=qcv h
theorem qgT {l:List Pt} {k:Nat} {p:Pt} (h:l[k]?=some p):qcs (qaz l) (0*3+k*3+1) [iV p.a]:=qbR (z:=(k:Int)) h
theorem qgG {l:List Pt} {k:Nat} {p:Pt} (h:l[k]?=some p):qcs (qaz l) (0*3+k*3+2) [iV p.b]:=qck (z:=(k:Int)) h
theorem qfP (n:Nat):some (SV.row 3 1 n (qcg [iV 0] n))=some (SV.row 3 1 n (ziV (List.replicate n 0))):=by rw[qmo]
theorem qf4:∀ (m:List Pt) (p:Pt),qaz (m++[p])=qaz m++[iV p.id,iV p.a,iV p.b]
 | [],_=>rfl
 | q::r,p=>congrArg (fun l=>iV q.id::iV q.a::iV q.b::l) (qf4 r p)
abbrev qmX (l:List Pt) (td:Int) (tn:Int):HpL:=[(1,0,.ls 0 l.length),(2,0,.pv (iV tn)),(2,1,.pv (iV td)),(0,0,qag l)]
abbrev qrA (hi:Int) (k:Nat) (z:Int):TmL:=[(3,.pv (iV hi)),(4,.pp 1 0),(5,.pp 2 0),(9,.pv (iV (z))),(10,.pv (iV (k:Int)))]
theorem qiP {z hi:Int} {l:List Pt} {k:Nat} {tn td:Int} (hlt:decide ((k:Int)<hi)=true) (h0:decide (z<0)=true) (hs:iV (IntKind.i64.wrap ((k:Int)+1))=iV (((k+1:Nat):Int))) {e:Exit} {tm2:TmL} {hp2:HpL}
 (r:Rl 1 1 110 0 35 3 ([(3,.pv (iV hi)),(4,.pp 1 0),(5,.pp 2 0),(9,.pv (iV (k:Int))),(10,.pv (iV ((k+1:Nat):Int)))]) (qmX l td tn) e tm2 hp2):Rl 1 1 110 0 35 3 (qrA hi k z) (qmX l td tn) e tm2 hp2:=
 RunsL.next [] 300 [.t true,.t true,Re hs]
  (Ro (Ai hlt (Ai h0 (Ai hs tI)))) r
theorem qon {z hi:Int} {l:List Pt} {p q:Pt} {k:Nat} {tn td:Int} (hlt:decide ((k:Int)<hi)=true) (h0:decide (z<0)=false) (hk:l[k]?=some p) (hin:0≤(k:Int)∧(k:Int)<(l.length:Int)) (hz:l[z.toNat]?=some q) (hinz:0≤z∧z<(l.length:Int)) (hle:Pure Try.prog 111 #[ptV p,ptV q,qab tn td] (.bool true)) (hs:iV (IntKind.i64.wrap ((k:Int)+1))=iV (((k+1:Nat):Int))) {e:Exit} {tm2:TmL} {hp2:HpL}
 (r:Rl 1 1 110 0 35 3 ([(3,.pv (iV hi)),(4,.pp 1 0),(5,.pp 2 0),(9,.pv (iV (k:Int))),(10,.pv (iV ((k+1:Nat):Int)))]) (qmX l td tn) e tm2 hp2):Rl 1 1 110 0 35 3 (qrA hi k z) (qmX l td tn) e tm2 hp2:=
 RunsL.next [] 300 [.t true,.t false,.r (ptV p),.r (ptV q),Rf hle,Re hs]
  (Ro (Ai hlt (Ai h0 (Ai hin (Ai (qaY hk) (Ai hinz (Ai (qbe hz) (Ai hle (Ai hs tI))))))))) r
theorem qop {z hi:Int} {l:List Pt} {p q:Pt} {k:Nat} {tn td:Int} (hlt:decide ((k:Int)<hi)=true) (h0:decide (z<0)=false) (hk:l[k]?=some p) (hin:0≤(k:Int)∧(k:Int)<(l.length:Int)) (hz:l[z.toNat]?=some q) (hinz:0≤z∧z<(l.length:Int)) (hle:Pure Try.prog 111 #[ptV p,ptV q,qab tn td] (.bool false)) (hs:iV (IntKind.i64.wrap ((k:Int)+1))=iV (((k+1:Nat):Int))) {e:Exit} {tm2:TmL} {hp2:HpL}
 (r:Rl 1 1 110 0 35 3 ([(3,.pv (iV hi)),(4,.pp 1 0),(5,.pp 2 0),(9,.pv (iV (z))),(10,.pv (iV ((k+1:Nat):Int)))]) (qmX l td tn) e tm2 hp2):Rl 1 1 110 0 35 3 (qrA hi k z) (qmX l td tn) e tm2 hp2:=
 RunsL.next [] 300 [.t true,.t false,.r (ptV p),.r (ptV q),Rf hle,Re hs]
  (Ro (Ai hlt (Ai h0 (Ai hin (Ai (qaY hk) (Ai hinz (Ai (qbe hz) (Ai hle (Ai hs tI))))))))) r
theorem qnT {z hi:Int} {l:List Pt} {k:Nat} {tn td:Int} (hlt:decide ((k:Int)<hi)=false):Rl 1 1 110 0 35 3 (qrA hi k z) (qmX l td tn) (.exit 0) ([(9,.pv (iV z))]) ([]):=
 RunsL.stop [] 300 [.t false] (fun h=>by cases h)
  (Ro (Ai hlt tI))
theorem qgs {z hi:Int} {l:List Pt} {n:Nat} {tn td:Int} (r0:Rl 1 1 110 0 35 3 ([(3,.pv (iV hi)),(4,.pp 1 0),(5,.pp 2 0),(9,.pv (iV (-1))),(10,.pv (iV (n:Int)))]) (qmX l td tn) (.exit 0) ([(9,.pv (iV z))]) ([])) :
 Fn 110 1 [qav 0 l,.pv (qab tn td),.pv (iV (n:Int)),.pv (iV (hi))] [(0,0,qag l)] (.pv (iV (z))) 0 []:=
 Fz [] [Lf r0]
  tI (Lo r0 [] tI)
abbrev qo8 (l:List Pt) (rt:Int):HpL:=[(1,0,.pv (iV rt)),(1,1,.ls 0 l.length),(0,0,qac l)]
abbrev qsc (i0:Int) (k:Nat) (z:Int):TmL:=[(1,.pv (iV z)),(2,.pp 1 0),(5,.pv (iV (k:Int))),(6,.pv (iV (i0)))]
theorem qoP {rt z i0:Int} {l:List Pt} {p:Pt} {k:Nat} (hk:l[i0.toNat]?=some p) (hin:0≤i0∧i0<(l.length:Int)) (hne:(p.id !=z)=false):Rl 1 1 69 0 40 2 (qsc i0 k z) (qo8 l rt) (.exit 0) ([(5,.pv (iV (k:Int)))]) ([]):=
 RunsL.stop [] 300 [.r (iV p.id),.t false] (fun h=>by cases h)
  (Ro (Ai hin (Ai (qaH hk) (Ai hne tI))))
theorem qr4 {rt z i0:Int} {l:List Pt} {p:Pt} {k:Nat} (hk:l[i0.toNat]?=some p) (hin:0≤i0∧i0<(l.length:Int)) (hne:(p.id !=z)=true) (hlt:decide (z<p.id)=true) (hs:iV (IntKind.i64.wrap ((k:Int)+1))=iV (((k+1:Nat):Int))) {e:Exit} {tm2:TmL} {hp2:HpL}
 (r:Rl 1 1 69 0 40 2 ([(1,.pv (iV z)),(2,.pp 1 0),(5,.pv (iV ((k+1:Nat):Int))),(6,.pv (iV (p.a)))]) (qo8 l rt) e tm2 hp2):Rl 1 1 69 0 40 2 (qsc i0 k z) (qo8 l rt) e tm2 hp2:=
 RunsL.next [] 300 [.r (iV p.id),.t true,.r (iV p.id),.t true,.r (iV p.a),Re hs]
  (Ro (Ai hin (Ai (qaH hk) (Ai hne (Ai hin (Ai (qaH hk) (Ai hlt (Ai hin (Ai (qbR hk) (Ai hs tI)))))))))) r
theorem qtd {rt z i0:Int} {l:List Pt} {p:Pt} {k:Nat} (hk:l[i0.toNat]?=some p) (hin:0≤i0∧i0<(l.length:Int)) (hne:(p.id !=z)=true) (hlt:decide (z<p.id)=false) (hs:iV (IntKind.i64.wrap ((k:Int)+1))=iV (((k+1:Nat):Int))) {e:Exit} {tm2:TmL} {hp2:HpL}
 (r:Rl 1 1 69 0 40 2 ([(1,.pv (iV z)),(2,.pp 1 0),(5,.pv (iV ((k+1:Nat):Int))),(6,.pv (iV (p.b)))]) (qo8 l rt) e tm2 hp2):Rl 1 1 69 0 40 2 (qsc i0 k z) (qo8 l rt) e tm2 hp2:=
 RunsL.next [] 300 [.r (iV p.id),.t true,.r (iV p.id),.t false,.r (iV p.b),Re hs]
  (Ro (Ai hin (Ai (qaH hk) (Ai hne (Ai hin (Ai (qaH hk) (Ai hlt (Ai hin (Ai (qck hk) (Ai hs tI)))))))))) r
theorem qkx {rt z:Int} {l:List Pt} {k:Nat} (r0:Rl 1 1 69 0 40 2 ([(1,.pv (iV z)),(2,.pp 1 0),(5,.pv (iV ((0:Nat):Int))),(6,.pv (iV (rt)))]) (qo8 l rt) (.exit 0) ([(5,.pv (iV (k:Int)))]) ([])) :
 Fn 69 1 [trS 0 rt l,.pv (iV (z))] [(0,0,qac l)] (.pv (iV (k:Int))) 0 []:=
 Fz [] [Lf r0]
  tI (Lo r0 [] tI)
abbrev qfr (g:List Int) (l:List Pt) (rt:Int):HpL:=[(1,0,.pv (iV rt)),(1,1,.ls 0 l.length),(0,0,qac l),(2,0,.row 3 1 l.length (ziV g))]
abbrev qqw (k:Nat) (l:List Pt):TmL:=[(1,.pp 1 0),(3,.ls 2 l.length),(4,.pv (iV (k:Int)))]
abbrev qrU (k:Nat) (l:List Pt):TmL:=[(1,.pp 1 0),(3,.ls 2 l.length),(4,.pv (iV ((k+1:Nat):Int)))]
theorem qpT {rt:Int} {l:List Pt} {p:Pt} {k:Nat} {y1 y2 e1 e2:Int} {g:List Int} (hlt:decide ((k:Int)<(l.length:Int))=true) (hk:l[k]?=some p) (hin:0≤(k:Int)∧(k:Int)<(l.length:Int)) (ha:decide (p.a≥0)=true) (hia:0≤p.a∧p.a<(l.length:Int)) (hga:g[p.a.toNat]?=some y1) (hgl:p.a.toNat<g.length) (hy1:iV (IntKind.i64.wrap (y1+1))=iV (e1)) (hb:decide (p.b≥0)=true) (hib:0≤p.b∧p.b<(l.length:Int)) (hgb:(g.set p.a.toNat e1)[p.b.toNat]?=some y2) (hgm:p.b.toNat<(g.set p.a.toNat e1).length) (hy2:iV (IntKind.i64.wrap (y2+1))=iV (e2)) (hs:iV (IntKind.i64.wrap ((k:Int)+1))=iV (((k+1:Nat):Int))) {e:Exit} {tm2:TmL} {hp2:HpL}
 (r:Rl 1 1 71 0 77 3 (qrU k l) ([(1,0,.pv (iV rt)),(1,1,.ls 0 l.length),(0,0,qac l),(2,0,.row 3 1 l.length (ziV ((g.set p.a.toNat e1).set p.b.toNat e2)))]) e tm2 hp2):Rl 1 1 71 0 77 3 (qqw k l) (qfr g l rt) e tm2 hp2:=
 RunsL.next [] 300 [.t true,.r (iV p.a),.t true,.r (iV y1),Re hy1,.w (ziV (g.set p.a.toNat e1)),.r (iV p.b),.t true,.r (iV y2),Re hy2,.w (ziV ((g.set p.a.toNat e1).set p.b.toNat e2)),Re hs]
  (Ro (Ai hlt (Ai hin (Ai (qgT hk) (Ai ha (Ai hia (Ai (qju hga) (Ai hy1 (Ai hia (Ai (qpg g p.a.toNat e1 hgl) (Ai (qd6 g p.a.toNat hgl) (Ai hin (Ai (qgG hk) (Ai hb (Ai hib (Ai (qju hgb) (Ai hy2 (Ai hib (Ai (qpg (g.set p.a.toNat e1) p.b.toNat e2 hgm) (Ai (qd6 (g.set p.a.toNat e1) p.b.toNat hgm) (Ai hs tI))))))))))))))))))))) r
theorem qrg {rt:Int} {l:List Pt} {p:Pt} {k:Nat} {y1 e1:Int} {g:List Int} (hlt:decide ((k:Int)<(l.length:Int))=true) (hk:l[k]?=some p) (hin:0≤(k:Int)∧(k:Int)<(l.length:Int)) (ha:decide (p.a≥0)=true) (hia:0≤p.a∧p.a<(l.length:Int)) (hga:g[p.a.toNat]?=some y1) (hgl:p.a.toNat<g.length) (hy1:iV (IntKind.i64.wrap (y1+1))=iV (e1)) (hb:decide (p.b≥0)=false) (hs:iV (IntKind.i64.wrap ((k:Int)+1))=iV (((k+1:Nat):Int))) {e:Exit} {tm2:TmL} {hp2:HpL}
 (r:Rl 1 1 71 0 77 3 (qrU k l) ([(1,0,.pv (iV rt)),(1,1,.ls 0 l.length),(0,0,qac l),(2,0,.row 3 1 l.length (ziV (g.set p.a.toNat e1)))]) e tm2 hp2):Rl 1 1 71 0 77 3 (qqw k l) (qfr g l rt) e tm2 hp2:=
 RunsL.next [] 300 [.t true,.r (iV p.a),.t true,.r (iV y1),Re hy1,.w (ziV (g.set p.a.toNat e1)),.r (iV p.b),.t false,Re hs]
  (Ro (Ai hlt (Ai hin (Ai (qgT hk) (Ai ha (Ai hia (Ai (qju hga) (Ai hy1 (Ai hia (Ai (qpg g p.a.toNat e1 hgl) (Ai (qd6 g p.a.toNat hgl) (Ai hin (Ai (qgG hk) (Ai hb (Ai hs tI))))))))))))))) r
theorem qp6 {rt:Int} {l:List Pt} {p:Pt} {k:Nat} {y2 e2:Int} {g:List Int} (hlt:decide ((k:Int)<(l.length:Int))=true) (hk:l[k]?=some p) (hin:0≤(k:Int)∧(k:Int)<(l.length:Int)) (ha:decide (p.a≥0)=false) (hb:decide (p.b≥0)=true) (hib:0≤p.b∧p.b<(l.length:Int)) (hgb:g[p.b.toNat]?=some y2) (hgm:p.b.toNat<g.length) (hy2:iV (IntKind.i64.wrap (y2+1))=iV (e2)) (hs:iV (IntKind.i64.wrap ((k:Int)+1))=iV (((k+1:Nat):Int))) {e:Exit} {tm2:TmL} {hp2:HpL}
 (r:Rl 1 1 71 0 77 3 (qrU k l) ([(1,0,.pv (iV rt)),(1,1,.ls 0 l.length),(0,0,qac l),(2,0,.row 3 1 l.length (ziV (g.set p.b.toNat e2)))]) e tm2 hp2):Rl 1 1 71 0 77 3 (qqw k l) (qfr g l rt) e tm2 hp2:=
 RunsL.next [] 300 [.t true,.r (iV p.a),.t false,.r (iV p.b),.t true,.r (iV y2),Re hy2,.w (ziV (g.set p.b.toNat e2)),Re hs]
  (Ro (Ai hlt (Ai hin (Ai (qgT hk) (Ai ha (Ai hin (Ai (qgG hk) (Ai hb (Ai hib (Ai (qju hgb) (Ai hy2 (Ai hib (Ai (qpg g p.b.toNat e2 hgm) (Ai (qd6 g p.b.toNat hgm) (Ai hs tI))))))))))))))) r
theorem qqk {rt:Int} {l:List Pt} {p:Pt} {k:Nat} {g:List Int} (hlt:decide ((k:Int)<(l.length:Int))=true) (hk:l[k]?=some p) (hin:0≤(k:Int)∧(k:Int)<(l.length:Int)) (ha:decide (p.a≥0)=false) (hb:decide (p.b≥0)=false) (hs:iV (IntKind.i64.wrap ((k:Int)+1))=iV (((k+1:Nat):Int))) {e:Exit} {tm2:TmL} {hp2:HpL}
 (r:Rl 1 1 71 0 77 3 (qrU k l) (qfr g l rt) e tm2 hp2):Rl 1 1 71 0 77 3 (qqw k l) (qfr g l rt) e tm2 hp2:=
 RunsL.next [] 300 [.t true,.r (iV p.a),.t false,.r (iV p.b),.t false,Re hs]
  (Ro (Ai hlt (Ai hin (Ai (qgT hk) (Ai ha (Ai hin (Ai (qgG hk) (Ai hb (Ai hs tI))))))))) r
theorem qoA {rt:Int} {l:List Pt} {k:Nat} {g:List Int} (hlt:decide ((k:Int)<(l.length:Int))=false):Rl 1 1 71 0 77 3 (qqw k l) (qfr g l rt) (.exit 0) ([(1,.pp 1 0),(3,.ls 2 l.length)]) (qfr g l rt):=
 RunsL.stop [] 300 [.t false] (fun h=>by cases h)
  (Ro (Ai hlt tI))
abbrev qpW (k:Nat) (l:List Pt):TmL:=[(1,.pp 1 0),(3,.ls 2 l.length),(7,.pv (iV (k:Int)))]
theorem qlV {rt x:Int} {l:List Pt} {k:Nat} {g:List Int} (hlt:decide ((k:Int)<(l.length:Int))=true) (hr:((k:Int)==rt)=true) (hg:g[k]?=some x) (hin:0≤(k:Int)∧(k:Int)<(l.length:Int)) (h0:(x !=0)=false) (hr2:((k:Int) !=rt)=false) (hs:iV (IntKind.i64.wrap ((k:Int)+1))=iV (((k+1:Nat):Int))) {e:Exit} {tm2:TmL} {hp2:HpL}
 (r:Rl 1 1 71 1 77 3 ([(1,.pp 1 0),(3,.ls 2 l.length),(7,.pv (iV ((k+1:Nat):Int)))]) (qfr g l rt) e tm2 hp2):Rl 1 1 71 1 77 3 (qpW k l) (qfr g l rt) e tm2 hp2:=
 RunsL.next [] 300 [.t true,.t true,.r (iV x),.t false,.t false,Re hs]
  (Ro (Ai hlt (Ai hr (Ai hin (Ai (qfu hg) (Ai h0 (Ai hr2 (Ai hs tI)))))))) r
theorem qlL {rt x:Int} {l:List Pt} {k:Nat} {g:List Int} (hlt:decide ((k:Int)<(l.length:Int))=true) (hr:((k:Int)==rt)=false) (hg:g[k]?=some x) (hin:0≤(k:Int)∧(k:Int)<(l.length:Int)) (hr2:((k:Int) !=rt)=true) (h1:(x !=1)=false) (hs:iV (IntKind.i64.wrap ((k:Int)+1))=iV (((k+1:Nat):Int))) {e:Exit} {tm2:TmL} {hp2:HpL}
 (r:Rl 1 1 71 1 77 3 ([(1,.pp 1 0),(3,.ls 2 l.length),(7,.pv (iV ((k+1:Nat):Int)))]) (qfr g l rt) e tm2 hp2):Rl 1 1 71 1 77 3 (qpW k l) (qfr g l rt) e tm2 hp2:=
 RunsL.next [] 300 [.t true,.t false,.t true,.r (iV x),.t false,Re hs]
  (Ro (Ai hlt (Ai hr (Ai hr2 (Ai hin (Ai (qfu hg) (Ai h1 (Ai hs tI)))))))) r
theorem qiQ {rt x:Int} {l:List Pt} {k:Nat} {g:List Int} (hlt:decide ((k:Int)<(l.length:Int))=true) (hr:((k:Int)==rt)=true) (hg:g[k]?=some x) (hin:0≤(k:Int)∧(k:Int)<(l.length:Int)) (h0:(x !=0)=true):Rl 1 1 71 1 77 3 (qpW k l) (qfr g l rt) (.ret) ([(2,.pv (.bool false))]) ([]):=
 RunsL.stop [] 300 [.t true,.t true,.r (iV x),.t true] (fun h=>by cases h)
  (Ro (Ai hlt (Ai hr (Ai hin (Ai (qfu hg) (Ai h0 tI))))))
theorem qjG {rt x:Int} {l:List Pt} {k:Nat} {g:List Int} (hlt:decide ((k:Int)<(l.length:Int))=true) (hr:((k:Int)==rt)=false) (hg:g[k]?=some x) (hin:0≤(k:Int)∧(k:Int)<(l.length:Int)) (hr2:((k:Int) !=rt)=true) (h1:(x !=1)=true):Rl 1 1 71 1 77 3 (qpW k l) (qfr g l rt) (.ret) ([(2,.pv (.bool false))]) ([]):=
 RunsL.stop [] 300 [.t true,.t false,.t true,.r (iV x),.t true] (fun h=>by cases h)
  (Ro (Ai hlt (Ai hr (Ai hr2 (Ai hin (Ai (qfu hg) (Ai h1 tI)))))))
theorem qlX {rt:Int} {l:List Pt} {k:Nat} {g:List Int} (hlt:decide ((k:Int)<(l.length:Int))=false):Rl 1 1 71 1 77 3 (qpW k l) (qfr g l rt) (.exit 2) ([]) ([]):=
 RunsL.stop [] 300 [.t false] (fun h=>by cases h)
  (Ro (Ai hlt tI))
abbrev qtG (g:List Int) (l:List Pt) (rt:Int):Prop:=Rl 1 1 71 0 77 3 ([(1,.pp 1 0),(3,.ls 2 l.length),(4,.pv (iV ((0:Nat):Int)))]) ([(1,0,.pv (iV rt)),(1,1,.ls 0 l.length),(0,0,qac l),(2,0,.row 3 1 l.length (ziV (List.replicate l.length 0)))]) (.exit 0) ([(1,.pp 1 0),(3,.ls 2 l.length)]) (qfr g l rt)
theorem qol {rt:Int} {l:List Pt} {g:List Int} (n0:0≤(l.length:Int)) (n1:(l.length:Int)≤1000000) (r0:qtG g l rt) (r1:Rl 1 1 71 1 77 3 ([(1,.pp 1 0),(3,.ls 2 l.length),(7,.pv (iV ((0:Nat):Int)))]) (qfr g l rt) (.exit 2) ([]) ([])) :
 Fn 71 1 [trS 0 rt l] [(0,0,qac l)] (.pv (.bool true)) 0 []:=
 Fz [] [Lf r0,Lf r1]
  tI (Ai n0 (Ai (Eq.refl (l.length:Int)) (Ai n1 (Ai (Lt r0 []) (Ai (Ai (Er (SV.pv (iV rt))) (Ai (Er (SV.ls 0 l.length)) (Ai (Er (qac l)) (Ai (qfP l.length) tI)))) (Ai r0 (Lo r1 [] tI)))))))
theorem qqY {rt:Int} {l:List Pt} {g:List Int} (n0:0≤(l.length:Int)) (n1:(l.length:Int)≤1000000) (r0:qtG g l rt) (r1:Rl 1 1 71 1 77 3 ([(1,.pp 1 0),(3,.ls 2 l.length),(7,.pv (iV ((0:Nat):Int)))]) (qfr g l rt) (.ret) ([(2,.pv (.bool false))]) ([])) :
 Fn 71 1 [trS 0 rt l] [(0,0,qac l)] (.pv (.bool false)) 0 []:=
 Fz [] [Lf r0,Lf r1]
  tI (Ai n0 (Ai (Eq.refl (l.length:Int)) (Ai n1 (Ai (Lt r0 []) (Ai (Ai (Er (SV.pv (iV rt))) (Ai (Er (SV.ls 0 l.length)) (Ai (Er (qac l)) (Ai (qfP l.length) tI)))) (Ai r0 (Lo r1 [] tI)))))))
end Go.Proofs.Ytalnjplghagbpaa

namespace Go.Proofs.Ytalnjplghagbpaa
set_option maxRecDepth 100000
open Go.RowKit
section
variable {rt:Int} {l:List Pt}
theorem qqb {T:Sh Nat} {z:Int} (hr:Rep l rt T) (hu:(idT l T).list.Pairwise (· < ·)) (hz:z∈(idT l T).list) (hn:T.list.length≤1000000):Fn 69 1 [trS 0 rt l,.pv (iV z)] [(0,0,qac l)] (.pv (iV ((Sh.dep z (idT l T):Nat):Int))) 0 []:=by
 have run:∀ (S:Sh Nat) (i:Int) (k:Nat),Rep l i S→(idT l S).list.Pairwise (· < ·)→z∈(idT l S).list→k+S.list.length≤1000000→
  Rl 1 1 69 0 40 2 [(1,.pv (iV z)),(2,.pp 1 0),(5,.pv (iV (k:Int))),(6,.pv (iV i))] [(1,0,.pv (iV rt)),(1,1,.ls 0 l.length),(0,0,qac l)] (.exit 0) [(5,.pv (iV ((k+Sh.dep z (idT l S):Nat):Int)))] []:=by
  intro S
  induction S with
  | nil=>intro i k _ _ h;cases h
  | node a j b ia ib=>
   intro i k ⟨hi,p,hp,a1,a2⟩ hu hz hk
   subst hi
   have hjl:=qal hp
   have e1:idN l j=p.id:=qaC hp
   have eT:idT l (.node a j b)=.node (idT l a) p.id (idT l b):=by show Sh.node _ (idN l j) _=_;rw[e1];rfl
   have hlen:(Sh.node a j b).list.length=a.list.length+(b.list.length+1):=by show (a.list++j::b.list).length=_;rw[List.length_append,List.length_cons]
   rw[eT] at hu hz ⊢
   obtain⟨s1,s2,s3,s4⟩:=Sh.up_split hu
   have hin:0≤(j:Int)∧(j:Int)<(l.length:Int):=⟨by omega,by omega⟩
   unfold Sh.dep
   by_cases c1:z=p.id
   ·rw[if_pos c1]
    exact qoP (hk:=hp) (hin:=hin) (hne:=by simp[c1])
   ·rw[if_neg c1]
    by_cases c2:z<p.id
    ·rw[if_pos c2]
     have hz1:z∈(idT l a).list:=by
      rcases List.mem_append.1 hz with h | h
      ·exact h
      ·rcases List.mem_cons.1 h with h | h
       ·exact (c1 h).elim
       ·have:=s4 z h;omega
     have r:=ia p.a (k+1) a1 s1 hz1 (by omega)
     rw[show k+(Sh.dep z (idT l a)+1)=k+1+Sh.dep z (idT l a) by omega]
     exact qr4 (hk:=hp) (hin:=hin) (hne:=by simp;omega) (hlt:=dt c2) (hs:=qaj (by omega)) r
    ·rw[if_neg c2]
     have hz1:z∈(idT l b).list:=by
      rcases List.mem_append.1 hz with h | h
      ·have:=s3 z h;omega
      ·rcases List.mem_cons.1 h with h | h
       ·exact (c1 h).elim
       ·exact h
     have r:=ib p.b (k+1) a2 s2 hz1 (by omega)
     rw[show k+(Sh.dep z (idT l b)+1)=k+1+Sh.dep z (idT l b) by omega]
     exact qtd (hk:=hp) (hin:=hin) (hne:=by simp;omega) (hlt:=df c2) (hs:=qaj (by omega)) r
 have:=run T rt 0 hr hu hz (by omega)
 rw[Nat.zero_add] at this
 exact qkx (r0:=this)
def BestI (l:List Pt) (tn td:Int) (n k:Nat) (z:Int):Prop:=(k≤n∧z = -1)∨(∃ b:Nat,z=(b:Int)∧n≤b∧b<k∧∀ j,n≤j→j<k→j≠b→ld tn td (ndT l b) (ndT l j)=true)
variable {tn td:Int}
theorem BestI.uniq {n k:Nat} {z y:Int} (h:BestI l tn td n k z) (h':BestI l tn td n k y):z=y:=by
 rcases h with ⟨h1,rfl⟩ | ⟨b,rfl,h2,h3,h4⟩
 ·rcases h' with ⟨_,rfl⟩ | ⟨c,rfl,k2,k3,_⟩
  ·rfl
  ·omega
 ·rcases h' with ⟨k1,_⟩ | ⟨c,rfl,k2,k3,k4⟩
  ·omega
  ·by_cases e:b=c
   ·rw[e]
   ·have a1:=h4 c k2 k3 fun k=>e k.symm
    have a2:=k4 b h2 h3 e
    rw[qdF a1] at a2
    cases a2
theorem qtt (htn:I64 tn) (htd:I64 td) (hs:Val l) {n hi:Nat} (hh:hi≤l.length) {y:Int} (hy:BestI l tn td n hi y):Fn 110 1 [qav 0 l,.pv (qab tn td),.pv (iV (n:Int)),.pv (iV (hi:Int))] [(0,0,qag l)] (.pv (iV y)) 0 []:=by
 have hsl:=hs.len
 have run:∀ (e k:Nat) (z:Int),k+e=max n hi→n≤k→BestI l tn td n k z→
  Rl 1 1 110 0 35 3 [(3,.pv (iV (hi:Int))),(4,.pp 1 0),(5,.pp 2 0),(9,.pv (iV z)),(10,.pv (iV (k:Int)))] [(1,0,.ls 0 l.length),(2,0,.pv (iV tn)),(2,1,.pv (iV td)),(0,0,qag l)] (.exit 0) [(9,.pv (iV y))] []:=by
  intro e
  induction e with
  | zero=>
   intro k z hk hn hb
   have hb':BestI l tn td n hi z:=by
    rcases hb with ⟨h1,h2⟩ | ⟨b,h1,h2,h3,h4⟩
    ·exact Or.inl ⟨by omega,h2⟩
    ·exact Or.inr ⟨b,h1,h2,by omega,fun j j1 j2=>h4 j j1 (by omega)⟩
   rw[hy.uniq hb']
   exact qnT (hlt:=df (by omega))
  | succ e ih=>
   intro k z hk hn hb
   have hkh:k<hi:=by omega
   have hkl:k<l.length:=by omega
   rcases hb with ⟨h1,rfl⟩ | ⟨b,rfl,h2,h3,h4⟩
   ·exact qiP (hlt:=dt (by omega)) (h0:=by decide) (hs:=qaj (by omega)) (ih (k+1) _ (by omega) (by omega) (Or.inr ⟨k,rfl,by omega,by omega,fun j j1 j2 j3=>by omega⟩))
   ·have hp:=qau (n:=l) hkl
    have hq:=qau (n:=l) (k:=b) (by omega)
    have hne:(ndT l b).id≠(ndT l k).id:=by have:=hs.up.mono h3 hq hp;omega
    by_cases hw:ld tn td (ndT l k) (ndT l b)=true
    ·exact qon (z:=(b:Int)) (hlt:=dt (by omega)) (h0:=df (by omega)) (hk:=hp) (hin:=⟨by omega,by omega⟩) (hz:=hq) (hinz:=⟨by omega,by omega⟩) (hle:=by rw[← hw];exact qg4 htn htd (hs.ok _ (List.mem_of_getElem? hp)) (hs.ok _ (List.mem_of_getElem? hq))) (hs:=qaj (by omega))
      (ih (k+1) _ (by omega) (by omega) (Or.inr ⟨k,rfl,by omega,by omega,fun j j1 j2 j3=>by
       by_cases ej:j=b
       ·rw[ej];exact hw
       ·exact qcu hw (h4 j j1 (by omega) ej)⟩))
    ·have hw':ld tn td (ndT l k) (ndT l b)=false:=by simpa using hw
     exact qop (z:=(b:Int)) (hlt:=dt (by omega)) (h0:=df (by omega)) (hk:=hp) (hin:=⟨by omega,by omega⟩) (hz:=hq) (hinz:=⟨by omega,by omega⟩) (hle:=by rw[← hw'];exact qg4 htn htd (hs.ok _ (List.mem_of_getElem? hp)) (hs.ok _ (List.mem_of_getElem? hq))) (hs:=qaj (by omega))
      (ih (k+1) _ (by omega) (by omega) (Or.inr ⟨b,rfl,h2,by omega,fun j j1 j2 j3=>by
       by_cases ej:j=k
       ·rw[ej];exact qiq (fun k=>hne k.symm) hw'
       ·exact h4 j j1 (by omega) j3⟩))
 rcases Nat.le_total n hi with hle | hle
 ·exact qgs (r0:=run (hi-n) n (-1) (by omega) (Nat.le_refl _) (Or.inl ⟨Nat.le_refl _,rfl⟩))
 ·exact qgs (r0:=run 0 n (-1) (by omega) (Nat.le_refl _) (Or.inl ⟨Nat.le_refl _,rfl⟩))
end
end Go.Proofs.Ytalnjplghagbpaa
