/-
  Joined: Ka, Kh2, Ke, Kg, Kd, Kb. Conditions: none.
-/
import Derived.Test.YtkckcgpmnipnaaaGreatW28
import Derived.Test.YtkckcgpmnipnaaaGreatW21
namespace Go.Proofs.YtkckcgpmnipnaaaGreat
set_option maxRecDepth 100000
open Go.RowKit
abbrev qah (a b:Int):Value:=.agg #[iV a,iV b]
abbrev qam (l:List Pt):SV:=.row 171 3 l.length (qa3 l)
abbrev qaS (b:Nat) (x:Int) (l:List Pt):SV:=.ag [.pv (iV x),.ls b l.length]
theorem qfp {l:List Pt} {k:Nat} {p:Pt} (h:l[k]?=some p):qcO (qa3 l) (0*3+k*3+1) [iV p.a,iV p.b]:=by
 obtain⟨_,h2,h3⟩:=qcC h
 intro j v hj
 rw[show 0*3+k*3+1+j=k*3+1+j by omega]
 match j,hj with
 | 0,hj=>cases hj;exact h2
 | 1,hj=>cases hj;exact h3
 | j+2,hj=>simp at hj
theorem qk7 {l:List Pt} {k:Nat} {p:Pt} (h:l[k]?=some p):qcO (qa3 l) (0*3+k*3+0) [iV p.id]:=qcU h
theorem qvO {l:List Pt} {k:Nat} {p:Pt} (h:l[k]?=some p):qcO (qa3 l) (0*3+k*3+1+0) [iV p.a]:=by
 intro j v hj
 rw[show 0*3+k*3+1+0+j=k*3+1+j by omega]
 match j,hj with
 | 0,hj=>cases hj;exact (qcC h).2.1
 | j+1,hj=>simp at hj
theorem qBG {l:List Pt} {k:Nat} {p:Pt} (h:l[k]?=some p):qcO (qa3 l) (0*3+k*3+1+1) [iV p.b]:=by
 intro j v hj
 rw[show 0*3+k*3+1+1+j=k*3+2+j by omega]
 match j,hj with
 | 0,hj=>cases hj;exact (qcC h).2.2
 | j+1,hj=>simp at hj
def qbC (a b:Int):Bool:=decide (0≤a∧a≤65535∧0≤b∧b≤65535∧a≠b)
theorem qbe {a b:Int}:qbC a b=true↔0≤a∧a≤65535∧0≤b∧b≤65535∧a≠b:=by simp[qbC]
def Dis (l:List Pt):Prop:=∀ (i k:Nat) (p q:Pt),i<k→l[i]?=some p→l[k]?=some q→¬ (p.a=q.a∧p.b=q.b)
structure V8 (x:Int) (l:List Pt):Prop where
 len:l.length≤200
 ok:∀ p∈l,qbC p.a p.b=true
 up:Up l
 lo:∀ p∈l,0≤p.id
 hi:∀ p∈l,p.id<x
 nx:0≤x∧x≤1000000
 dis:Dis l
noncomputable def qzd (x:Int) (l:List Pt):Int:=open Classical in if V8 x l then 0 else 8
theorem qfC {x:Int} {l:List Pt} (h:V8 x l):qzd x l=0:=by unfold qzd;rw[if_pos h]
theorem qbx {x:Int} {l:List Pt} (h:¬ V8 x l):qzd x l=8:=by unfold qzd;rw[if_neg h]
def qjP (m:List Pt):List (Value×Value):=m.map fun p=>(qah p.a p.b,.bool true)
abbrev qaI (m:List Pt):List Value:=kvL (qjP m)
theorem qgz {a b c d:Int} (h:qah a b=qah c d):a=c∧b=d:=by
 injection h with h
 injection h with h
 injection h with h1 h2
 injection h2 with h2 _
 injection h1 with _ h1
 injection h2 with _ h2
 exact⟨h1,h2⟩
theorem qg0 (a b:Int):MapK Tryz.prog 167 90 4 (qah a b) (fun x=>∃ c d,x=qah c d) (.bool false):=
 qkW (by kernel_rfl) Tryz.underlying90 (fun w=>qeT (by kernel_rfl) w)
  (fun e w=>by cases e<;>exact qeT (by kernel_rfl) w)
  (fun w x ⟨c,d,hx⟩=>by
   subst hx
   refine⟨(a==c&&(b==d&&true)),qjL w 40 _ _ _ _ (by kernel_rfl) Op.maxDepth (by decide),?_⟩
   rw[Bool.and_true,Bool.and_eq_true,beq_iff_eq,beq_iff_eq]
   exact⟨fun h=>by rw[h.1,h.2],fun h=>(qgz h).imp Eq.symm Eq.symm⟩)
theorem qmU (m:List Pt):∀ p∈qjP m,∃ c d,p.1=qah c d:=fun p hp=>by
 obtain⟨q,_,rfl⟩:=List.mem_map.1 hp
 exact⟨q.a,q.b,rfl⟩
theorem qhb {m:List Pt} {p:Pt} (h:∀ q∈m,¬ (q.a=p.a∧q.b=p.b)):qcp Tryz.prog 167 (qaI m) (qah p.a p.b) false (.bool false):=
 qy2 (qg0 p.a p.b) (qmU m) (fun q hq e=>by
  obtain⟨r,hr,rfl⟩:=List.mem_map.1 hq
  exact h r hr (qgz e)) false
theorem qjX {m:List Pt} {p q:Pt} (hq:q∈m) (h:q.a=p.a∧q.b=p.b):qcp Tryz.prog 167 (qaI m) (qah p.a p.b) false (.bool true):=
 qqx (v:=.bool true) (qg0 p.a p.b) (qmU m) (List.mem_map.2 ⟨q,hq,by rw[h.1,h.2]⟩) (fun r hr _=>by
  obtain⟨s,_,rfl⟩:=List.mem_map.1 hr
  rfl) false
theorem qkz {m:List Pt} {p:Pt} (h:∀ q∈m,¬ (q.a=p.a∧q.b=p.b)):ql0 Tryz.prog 167 (qaI m) (qah p.a p.b) (.bool true) (qaI (m++[p])):=by
 have:=qxA (qg0 p.a p.b) (qmU m) (fun q hq e=>by
  obtain⟨r,hr,rfl⟩:=List.mem_map.1 hq
  exact h r hr (qgz e)) (.bool true)
 show ql0 _ _ _ _ _ (kvL (qjP (m++[p])))
 rw[show qjP (m++[p])=qjP m++[(qah p.a p.b,.bool true)] by simp[qjP]]
 exact this
end Go.Proofs.YtkckcgpmnipnaaaGreat

namespace Go.Proofs.YtkckcgpmnipnaaaGreat
set_option maxRecDepth 100000
open Go.RowKit
abbrev qjz (l:List Pt) (s:List Pt) (x:Int):HpL:=[(2,0,.pv (iV x)),(2,1,.ls 0 l.length),(3,0,.ls 1 s.length),(0,0,qam l),(1,0,qad s)]
abbrev qqj (k:Nat):TmL:=[(2,.pp 2 0),(3,.pp 3 0),(5,.pv (iV (k:Int)))]
abbrev qv3 (p:Pt) (s:List Pt) (u1:Int):Prop:=Fn 61 1 [qas 0 s,.pv (iV (p.a))] [(0,0,qad s)] (.pv (iV (u1))) 0 []
theorem qtM {l s:List Pt} {k:Nat} {p:Pt} {x u1 u2:Int} (hk:l[k]?=some p) (hin:0≤(k:Int)∧(k:Int)<(l.length:Int)) (hlt:decide ((k:Int)<(l.length:Int))=true) (ha:qv3 p s u1) (h1:decide (u1<0)=false) (hb:Fn 61 1 [qas 0 s,.pv (iV (p.b))] [(0,0,qad s)] (.pv (iV (u2))) 0 []) (h2:decide (u2<0)=false) (hs:iV (IntKind.i64.wrap ((k:Int)+1))=iV (((k+1:Nat):Int))) {e:Exit} {tm2:TmL} {hp2:HpL}
 (r:Rl 2 2 122 0 35 4 ([(2,.pp 2 0),(3,.pp 3 0),(5,.pv (iV ((k+1:Nat):Int)))]) (qjz l s x) e tm2 hp2):Rl 2 2 122 0 35 4 (qqj k) (qjz l s x) e tm2 hp2:=
 RunsL.next [] 300 [.t true,.r (iV p.a),Cf ha [1],.t false,.r (iV p.b),Cf hb [1],.t false,Re hs]
  (Ro (Ai hlt (Ai hin (Ai (qvO hk) (Co ha [1] 4 (Ai h1 (Ai hin (Ai (qBG hk) (Co hb [1] 4 (Ai h2 (Ai hs tI))))))))))) r
theorem qAk {l s:List Pt} {k:Nat} {p:Pt} {x u1:Int} (hk:l[k]?=some p) (hin:0≤(k:Int)∧(k:Int)<(l.length:Int)) (hlt:decide ((k:Int)<(l.length:Int))=true) (ha:qv3 p s u1) (h1:decide (u1<0)=true):Rl 2 2 122 0 35 4 (qqj k) (qjz l s x) (.ret) ([(4,.pv (.bool false))]) ([]):=
 RunsL.stop [] 300 [.t true,.r (iV p.a),Cf ha [1],.t true] (fun h=>by cases h)
  (Ro (Ai hlt (Ai hin (Ai (qvO hk) (Co ha [1] 4 (Ai h1 tI))))))
theorem qAl {l s:List Pt} {k:Nat} {p:Pt} {x u1 u2:Int} (hk:l[k]?=some p) (hin:0≤(k:Int)∧(k:Int)<(l.length:Int)) (hlt:decide ((k:Int)<(l.length:Int))=true) (ha:qv3 p s u1) (h1:decide (u1<0)=false) (hb:Fn 61 1 [qas 0 s,.pv (iV (p.b))] [(0,0,qad s)] (.pv (iV (u2))) 0 []) (h2:decide (u2<0)=true):Rl 2 2 122 0 35 4 (qqj k) (qjz l s x) (.ret) ([(4,.pv (.bool false))]) ([]):=
 RunsL.stop [] 300 [.t true,.r (iV p.a),Cf ha [1],.t false,.r (iV p.b),Cf hb [1],.t true] (fun h=>by cases h)
  (Ro (Ai hlt (Ai hin (Ai (qvO hk) (Co ha [1] 4 (Ai h1 (Ai hin (Ai (qBG hk) (Co hb [1] 4 (Ai h2 tI))))))))))
theorem qxv {l s:List Pt} {k:Nat} {x:Int} (hge:decide ((k:Int)<(l.length:Int))=false):Rl 2 2 122 0 35 4 (qqj k) (qjz l s x) (.exit 0) ([]) ([]):=
 RunsL.stop [] 300 [.t false] (fun h=>by cases h)
  (Ro (Ai hge tI))
theorem qBl {l s:List Pt} {x:Int} (r0:Rl 2 2 122 0 35 4 ([(2,.pp 2 0),(3,.pp 3 0),(5,.pv (iV ((0:Nat):Int)))]) (qjz l s x) (.ret) ([(4,.pv (.bool false))]) ([])) :
 Fn 122 2 [qaS 0 x l,qas 1 s] [(0,0,qam l),(1,0,qad s)] (.pv (.bool false)) 0 []:=
 Fz [] [Lf r0]
  tI (Lo r0 [] tI)
theorem qvZ {l s:List Pt} {x:Int} (r0:Rl 2 2 122 0 35 4 ([(2,.pp 2 0),(3,.pp 3 0),(5,.pv (iV ((0:Nat):Int)))]) (qjz l s x) (.exit 0) ([]) ([])) :
 Fn 122 2 [qaS 0 x l,qas 1 s] [(0,0,qam l),(1,0,qad s)] (.pv (.bool true)) 0 []:=
 Fz [] [Lf r0]
  tI (Lo r0 [] tI)
theorem qqL {s:List Pt} {i j:Nat} {q g:Pt} {a b tn td:Int} {w:Bool} (hr:s[i]?=some g) (hq:s[j]?=some q) (hi:0≤(i:Int)∧(i:Int)<(s.length:Int)) (hj:0≤(j:Int)∧(j:Int)<(s.length:Int)) (ha:Fn 61 1 [qas 0 s,.pv (iV (b))] [(0,0,qad s)] (.pv (iV (i:Int))) 0 []) (hb:Fn 61 1 [qas 0 s,.pv (iV (a))] [(0,0,qad s)] (.pv (iV (j:Int))) 0 []) (hl:Pure Tryz.prog 90 #[ptV g,ptV q,qaa tn td] (.bool w)) :
 Fn 49 1 [.pv (qah a b),qas 0 s,.pv (qaa tn td)] [(0,0,qad s)] (.pv (.bool w)) 0 []:=
 Fz [] [Cf ha [0],.r (ptV g),Cf hb [0],.r (ptV q),Rf hl]
  tI (Co ha [0] 4 (Ai hi (Ai (qaA hr) (Co hb [0] 4 (Ai hj (Ai (qaA hq) (Ai hl tI)))))))
end Go.Proofs.YtkckcgpmnipnaaaGreat

namespace Go.Proofs.YtkckcgpmnipnaaaGreat
set_option maxRecDepth 100000
open Go.RowKit
theorem qwX (x:Int) (l:List Pt):SV.ag [.pv (iV x),.ls 4 (0+l.length)]=(SV.ag [.pv (iV x),.ls 1 l.length]).ren (qaK [(1,4)]):=by rw[Nat.zero_add];rfl
theorem qon (l:List Pt):some (SV.row 171 3 (0+l.length) ([]++qa3 l))=some (qam l):=by rw[Nat.zero_add,List.nil_append]
theorem qnl (m:List Pt) (p:Pt):some (SV.row 171 3 (m.length+1) (qa3 m++[iV p.id,iV p.a,iV p.b]))=some (qam (m++[p])):=by rw[qg3,qam,List.length_append];rfl
theorem qpY (b:Nat) (y x:Int) (m:List Pt) (p:Pt):SV.tu [.ag [.pv (iV y),.ls b (m.length+1)],.one (.pv (iV x)),.one (.pv (iV 0))]=(SV.tu [.ag [.pv (iV y),.ls 1 (m++[p]).length],.one (.pv (iV x)),.one (.pv (iV 0))]).ren (qaK [(1,b)]):=by rw[List.length_append];rfl
theorem qp5 {l:List Pt} {x:Int} (hn:0+l.length≤1000000) :
 Fn 71 1 [qaS 0 x l] [(0,0,qam l)] (.ag [.pv (iV x),.ls 1 l.length]) 1 [(1,0,qam l)]:=
 Fx [(1,4)] [.md]
  (qwX x l) (Ai (qon l) tI) (Ai hn tI)
abbrev qDC (l:List Pt) (m:List Pt) (x:Int) (y:Int):HpL:=[(2,0,.pv (iV x)),(2,1,.ls 0 l.length),(3,0,.pv (iV y)),(3,1,.ls 1 m.length),(0,0,qam l),(1,0,qam m)]
theorem qry {l m:List Pt} {x y:Int} {k:Nat} {p q:Pt} (hk:l[k]?=some p) (hin:0≤(k:Int)∧(k:Int)<(l.length:Int)) (hq:m[k]?=some q) (hin2:0≤(k:Int)∧(k:Int)<(m.length:Int)) (hlt:decide ((k:Int)<(l.length:Int))=true) (hne:(!(p.id==q.id&&((p.a==q.a&&(p.b==q.b&&true))&&true)))=false) (hs:iV (IntKind.i64.wrap ((k:Int)+1))=iV (((k+1:Nat):Int))) {e:Exit} {tm2:TmL} {hp2:HpL}
 (r:Rl 2 2 79 0 38 4 ([(2,.pp 2 0),(3,.pp 3 0),(5,.pv (iV ((k+1:Nat):Int)))]) (qDC l m x y) e tm2 hp2):Rl 2 2 79 0 38 4 ([(2,.pp 2 0),(3,.pp 3 0),(5,.pv (iV (k:Int)))]) (qDC l m x y) e tm2 hp2:=
 RunsL.next [] 300 [.t true,.r (ptV p),.r (ptV q),.t false,Re hs]
  (Ro (Ai hlt (Ai hin (Ai (qaA hk) (Ai hin2 (Ai (qaA hq) (Ai hne (Ai hs tI)))))))) r
theorem qxq {l m:List Pt} {x y:Int} {k:Nat} (hge:decide ((k:Int)<(l.length:Int))=false):Rl 2 2 79 0 38 4 ([(2,.pp 2 0),(3,.pp 3 0),(5,.pv (iV (k:Int)))]) (qDC l m x y) (.exit 0) ([]) ([]):=
 RunsL.stop [] 300 [.t false] (fun h=>by cases h)
  (Ro (Ai hge tI))
theorem qvD {l m:List Pt} {x y:Int} (hx:(!(x==y))=false) (hl:(!((l.length:Int)==(m.length:Int)))=false) (r0:Rl 2 2 79 0 38 4 ([(2,.pp 2 0),(3,.pp 3 0),(5,.pv (iV ((0:Nat):Int)))]) (qDC l m x y) (.exit 0) ([]) ([])) :
 Fn 79 2 [qaS 0 x l,qaS 1 y m] [(0,0,qam l),(1,0,qam m)] (.pv (.bool true)) 0 []:=
 Fz [] [.t false,.t false,Lf r0]
  tI (Ai hx (Ai hl (Lo r0 [] tI)))
abbrev qzo (a:Int) (b:Int) (l:List Pt) (x:Int):HpL:=[(1,0,.pv (iV x)),(1,1,.ls 0 l.length),(2,0,.pv (iV a)),(2,1,.pv (iV b)),(0,0,qam l)]
theorem qrE {l:List Pt} {k:Nat} {p:Pt} {x a b:Int} (hk:l[k]?=some p) (hin:0≤(k:Int)∧(k:Int)<(l.length:Int)) (hlt:decide ((k:Int)<(l.length:Int))=true) (he:(p.a==a&&(p.b==b&&true))=false) (hs:iV (IntKind.i64.wrap ((k:Int)+1))=iV (((k+1:Nat):Int))) {e:Exit} {tm2:TmL} {hp2:HpL}
 (r:Rl 1 1 126 0 21 3 ([(2,.pp 1 0),(3,.pp 2 0),(5,.pv (iV ((k+1:Nat):Int)))]) (qzo a b l x) e tm2 hp2):Rl 1 1 126 0 21 3 ([(2,.pp 1 0),(3,.pp 2 0),(5,.pv (iV (k:Int)))]) (qzo a b l x) e tm2 hp2:=
 RunsL.next [] 300 [.t true,.r (qah p.a p.b),.t false,Re hs]
  (Ro (Ai hlt (Ai hin (Ai (qfp hk) (Ai he (Ai hs tI)))))) r
theorem qyp {l:List Pt} {k:Nat} {p:Pt} {x a b:Int} (hk:l[k]?=some p) (hin:0≤(k:Int)∧(k:Int)<(l.length:Int)) (hlt:decide ((k:Int)<(l.length:Int))=true) (he:(p.a==a&&(p.b==b&&true))=true):Rl 1 1 126 0 21 3 ([(2,.pp 1 0),(3,.pp 2 0),(5,.pv (iV (k:Int)))]) (qzo a b l x) (.ret) ([(4,.pv (.bool true))]) ([]):=
 RunsL.stop [] 300 [.t true,.r (qah p.a p.b),.t true] (fun h=>by cases h)
  (Ro (Ai hlt (Ai hin (Ai (qfp hk) (Ai he tI)))))
theorem qvv {l:List Pt} {k:Nat} {x a b:Int} (hge:decide ((k:Int)<(l.length:Int))=false):Rl 1 1 126 0 21 3 ([(2,.pp 1 0),(3,.pp 2 0),(5,.pv (iV (k:Int)))]) (qzo a b l x) (.exit 0) ([]) ([]):=
 RunsL.stop [] 300 [.t false] (fun h=>by cases h)
  (Ro (Ai hge tI))
theorem qA6 {l:List Pt} {x a b:Int} (r0:Rl 1 1 126 0 21 3 ([(2,.pp 1 0),(3,.pp 2 0),(5,.pv (iV ((0:Nat):Int)))]) (qzo a b l x) (.exit 0) ([]) ([])) :
 Fn 126 1 [qaS 0 x l,.pv (qah a b)] [(0,0,qam l)] (.pv (.bool false)) 0 []:=
 Fz [] [Lf r0]
  tI (Lo r0 [] tI)
theorem qwt {l:List Pt} {x a b:Int} (r0:Rl 1 1 126 0 21 3 ([(2,.pp 1 0),(3,.pp 2 0),(5,.pv (iV ((0:Nat):Int)))]) (qzo a b l x) (.ret) ([(4,.pv (.bool true))]) ([])) :
 Fn 126 1 [qaS 0 x l,.pv (qah a b)] [(0,0,qam l)] (.pv (.bool true)) 0 []:=
 Fz [] [Lf r0]
  tI (Lo r0 [] tI)
theorem qwg {l:List Pt} {x a b:Int} (hc:Fn 121 1 [qaS 0 x l] [(0,0,qam l)] (.pv (iV (8))) 0 []) :
 Fn 199 1 [qaS 0 x l,.pv (qah a b)] [(0,0,qam l)] (.pv (.tuple #[.agg #[iV 0,.slice none 0 0],iV 0,iV 8])) 0 []:=
 Fz [] [Cf hc [0],.k]
  tI (Co hc [0] 4 tI)
abbrev qBu (l:List Pt) (x:Int):Prop:=Fn 121 1 [qaS 0 x l] [(0,0,qam l)] (.pv (iV (0))) 0 []
theorem qxd {l:List Pt} {x a b:Int} (hc:qBu l x) (hv:Pure Tryz.prog 145 #[qah a b] (.bool false)) :
 Fn 199 1 [qaS 0 x l,.pv (qah a b)] [(0,0,qam l)] (.pv (.tuple #[.agg #[iV 0,.slice none 0 0],iV 0,iV 8])) 0 []:=
 Fz [] [Cf hc [0],.k,Rf hv,.k]
  tI (Co hc [0] 4 (Ai hv tI))
theorem qyM {l:List Pt} {x a b:Int} (hc:qBu l x) (hv:Pure Tryz.prog 145 #[qah a b] (.bool true)) (hh:Fn 126 1 [qaS 0 x l,.pv (qah a b)] [(0,0,qam l)] (.pv (.bool true)) 0 []) :
 Fn 199 1 [qaS 0 x l,.pv (qah a b)] [(0,0,qam l)] (.pv (.tuple #[.agg #[iV 0,.slice none 0 0],iV 0,iV 14])) 0 []:=
 Fz [] [Cf hc [0],.k,Rf hv,.k,Cf hh [0]]
  tI (Co hc [0] 4 (Ai hv (Co hh [0] 4 tI)))
theorem qrQ {l:List Pt} {x a b:Int} (hc:qBu l x) (hv:Pure Tryz.prog 145 #[qah a b] (.bool true)) (hh:Fn 126 1 [qaS 0 x l,.pv (qah a b)] [(0,0,qam l)] (.pv (.bool false)) 0 []) (hf:((l.length:Int)==200)=true) :
 Fn 199 1 [qaS 0 x l,.pv (qah a b)] [(0,0,qam l)] (.pv (.tuple #[.agg #[iV 0,.slice none 0 0],iV 0,iV 18])) 0 []:=
 Fz [] [Cf hc [0],.k,Rf hv,.k,Cf hh [0],.t true]
  tI (Co hc [0] 4 (Ai hv (Co hh [0] 4 (Ai hf tI))))
theorem qtO {l:List Pt} {x a b:Int} (hc:qBu l x) (hv:Pure Tryz.prog 145 #[qah a b] (.bool true)) (hh:Fn 126 1 [qaS 0 x l,.pv (qah a b)] [(0,0,qam l)] (.pv (.bool false)) 0 []) (hf:((l.length:Int)==200)=false) (hu:(x==1000000)=true) :
 Fn 199 1 [qaS 0 x l,.pv (qah a b)] [(0,0,qam l)] (.pv (.tuple #[.agg #[iV 0,.slice none 0 0],iV 0,iV 18])) 0 []:=
 Fz [] [Cf hc [0],.k,Rf hv,.k,Cf hh [0],.t false,.t true]
  tI (Co hc [0] 4 (Ai hv (Co hh [0] 4 (Ai hf (Ai hu tI)))))
theorem qDi {l:List Pt} {x y a b:Int} (hc:qBu l x) (hv:Pure Tryz.prog 145 #[qah a b] (.bool true)) (hh:Fn 126 1 [qaS 0 x l,.pv (qah a b)] [(0,0,qam l)] (.pv (.bool false)) 0 []) (hf:((l.length:Int)==200)=false) (hu:(x==1000000)=false) (ht:Fn 71 1 [qaS 0 x l] [(0,0,qam l)] (.ag [.pv (iV x),.ls 1 l.length]) 1 [(1,0,qam l)]) (hn:l.length+1≤1000000) (hy:iV (IntKind.i64.wrap (x+1))=iV (y)) :
 Fn 199 1 [qaS 0 x l,.pv (qah a b)] [(0,0,qam l)] (.tu [.ag [.pv (iV y),.ls 1 (l++[(Pt.mk x a b)]).length],.one (.pv (iV x)),.one (.pv (iV 0))]) 1 [(1,0,qam (l++[(Pt.mk x a b)]))]:=
 Fx [(1,7)] [Cf hc [0],.k,Rf hv,.k,Cf hh [0],.t false,.t false,Cf ht [0],Re hy]
  (qpY 7 y x l (Pt.mk x a b)) (Ai (qnl l (Pt.mk x a b)) tI) (Co hc [0] 4 (Ai hv (Co hh [0] 4 (Ai hf (Ai hu (Co ht [0] 4 (Ai hn (Ai hy tI))))))))
end Go.Proofs.YtkckcgpmnipnaaaGreat

namespace Go.Proofs.YtkckcgpmnipnaaaGreat
set_option maxRecDepth 100000
open Go.RowKit
theorem qCJ (l:List Pt) (p:Pt):SV.ls 5 (0+l.length+1)=(SV.ls 3 (l++[p]).length).ren (qaK [(3,5)]):=by rw[Nat.zero_add,List.length_append];rfl
theorem qto (l:List Pt) (p:Pt):some (SV.row 171 3 (0+l.length+1) ([]++qa3 l++[iV p.id,iV p.a,iV p.b]))=some (qam (l++[p])):=by rw[Nat.zero_add,List.nil_append];exact (congrArg some (by rw[qg3,qam,List.length_append];rfl))
abbrev qjZ (a:Int) (b:Int) (l:List Pt):HpL:=[(0,0,qam l),(1,0,.pv (iV a)),(1,1,.pv (iV b))]
abbrev qGT (k:Nat) (l:List Pt):TmL:=[(0,.ls 0 l.length),(1,.pc 275 [.pp 1 0]),(7,.pv (iV (l.length:Int))),(8,.pv (iV (k:Int)))]
theorem qst {l:List Pt} {k:Nat} {p:Pt} {a b:Int} (hk:l[k]?=some p) (hin:0≤(k:Int)∧(k:Int)<(l.length:Int)) (hlt:decide ((k:Int)<(l.length:Int))=true) (he:(p.a==a&&(p.b==b&&true))=false) (hs:iV (IntKind.i64.wrap ((k:Int)+1))=iV (((k+1:Nat):Int))) {e:Exit} {tm2:TmL} {hp2:HpL}
 (r:Rl 2 2 318 0 19 2 ([(0,.ls 0 l.length),(1,.pc 275 [.pp 1 0]),(7,.pv (iV (l.length:Int))),(8,.pv (iV ((k+1:Nat):Int)))]) (qjZ a b l) e tm2 hp2):Rl 2 2 318 0 19 2 (qGT k l) (qjZ a b l) e tm2 hp2:=
 RunsL.next [] 300 [.t true,.r (ptV p),.k,.t false,Re hs]
  (Ro (Ai hlt (Ai hin (Ai (qaA hk) (Ai he (Ai hs tI)))))) r
theorem qyP {l:List Pt} {k:Nat} {p:Pt} {a b:Int} (hk:l[k]?=some p) (hin:0≤(k:Int)∧(k:Int)<(l.length:Int)) (hlt:decide ((k:Int)<(l.length:Int))=true) (he:(p.a==a&&(p.b==b&&true))=true):Rl 2 2 318 0 19 2 (qGT k l) (qjZ a b l) (.ret) ([(4,.pv (iV (k:Int)))]) ([]):=
 RunsL.stop [] 300 [.t true,.r (ptV p),.k,.t true] (fun h=>by cases h)
  (Ro (Ai hlt (Ai hin (Ai (qaA hk) (Ai he tI)))))
theorem qyD {l:List Pt} {k:Nat} {a b:Int} (hge:decide ((k:Int)<(l.length:Int))=false):Rl 2 2 318 0 19 2 (qGT k l) (qjZ a b l) (.exit 0) ([]) ([]):=
 RunsL.stop [] 300 [.t false] (fun h=>by cases h)
  (Ro (Ai hge tI))
theorem qCC {l:List Pt} {a b:Int} (r0:Rl 2 2 318 0 19 2 ([(0,.ls 0 l.length),(1,.pc 275 [.pp 1 0]),(7,.pv (iV (l.length:Int))),(8,.pv (iV ((0:Nat):Int)))]) (qjZ a b l) (.exit 0) ([]) ([])) :
 Fn 318 2 [.ls 0 l.length,.pc 275 [.pp 1 0]] (qjZ a b l) (.pv (iV (-1))) 0 []:=
 Fz [] [Lf r0]
  tI (Lo r0 [] tI)
theorem quV {l:List Pt} {k:Nat} {a b:Int} (r0:Rl 2 2 318 0 19 2 ([(0,.ls 0 l.length),(1,.pc 275 [.pp 1 0]),(7,.pv (iV (l.length:Int))),(8,.pv (iV ((0:Nat):Int)))]) (qjZ a b l) (.ret) ([(4,.pv (iV (k:Int)))]) ([])) :
 Fn 318 2 [.ls 0 l.length,.pc 275 [.pp 1 0]] (qjZ a b l) (.pv (iV (k:Int))) 0 []:=
 Fz [] [Lf r0]
  tI (Lo r0 [] tI)
theorem qAO {l:List Pt} {a b:Int} (hi:Fn 318 2 [.ls 0 l.length,.pc 275 [.pp 1 0]] (qjZ a b l) (.pv (iV (-1))) 0 []) :
 Fn 274 2 [.ls 0 l.length,.pc 275 [.pp 1 0]] (qjZ a b l) (.pv (.bool false)) 0 []:=
 Fz [] [Cf hi [0,1],.k]
  tI (Co hi [0,1] 2 tI)
theorem qvw {l:List Pt} {k:Nat} {a b:Int} (hi:Fn 318 2 [.ls 0 l.length,.pc 275 [.pp 1 0]] (qjZ a b l) (.pv (iV (k:Int))) 0 []) (h0:decide ((k:Int)≥0)=true) :
 Fn 274 2 [.ls 0 l.length,.pc 275 [.pp 1 0]] (qjZ a b l) (.pv (.bool true)) 0 []:=
 Fz [] [Cf hi [0,1],.t true]
  tI (Co hi [0,1] 2 (Ai h0 tI))
theorem qxS {l:List Pt} {x a b:Int} (hv:Pure Tryz.prog 273 #[qah a b] (.bool false)) :
 Fn 221 1 [qaS 0 x l,.pv (qah a b)] [(0,0,qam l)] (.pv (iV (8))) 0 []:=
 Fz [] [Rf hv,.k]
  tI (Ai hv tI)
theorem qyK {l:List Pt} {x a b:Int} (hv:Pure Tryz.prog 273 #[qah a b] (.bool true)) (ht:Fn 274 2 [.ls 0 l.length,.pc 275 [.pp 1 0]] (qjZ a b l) (.pv (.bool true)) 0 []) :
 Fn 221 1 [qaS 0 x l,.pv (qah a b)] [(0,0,qam l)] (.pv (iV (14))) 0 []:=
 Fz [] [Rf hv,.k,Cf ht [0,2]]
  tI (Ai hv (Co ht [0,2] 3 tI))
theorem qAM {l:List Pt} {x a b:Int} (hv:Pure Tryz.prog 273 #[qah a b] (.bool true)) (ht:Fn 274 2 [.ls 0 l.length,.pc 275 [.pp 1 0]] (qjZ a b l) (.pv (.bool false)) 0 []) :
 Fn 221 1 [qaS 0 x l,.pv (qah a b)] [(0,0,qam l)] (.pv (iV (0))) 0 []:=
 Fz [] [Rf hv,.k,Cf ht [0,2]]
  tI (Ai hv (Co ht [0,2] 3 tI))
theorem qp3 {l:List Pt} {x:Int} (hf:((l.length:Int)==200)=true) :
 Fn 222 1 [qaS 0 x l] [(0,0,qam l)] (.pv (iV (18))) 0 []:=
 Fz [] [.t true]
  tI (Ai hf tI)
theorem qpL {l:List Pt} {x:Int} (hf:((l.length:Int)==200)=false) (hu:(x==1000000)=true) :
 Fn 222 1 [qaS 0 x l] [(0,0,qam l)] (.pv (iV (18))) 0 []:=
 Fz [] [.t false,.t true]
  tI (Ai hf (Ai hu tI))
theorem qCr {l:List Pt} {x:Int} (hf:((l.length:Int)==200)=false) (hu:(x==1000000)=false) :
 Fn 222 1 [qaS 0 x l] [(0,0,qam l)] (.pv (iV (0))) 0 []:=
 Fz [] [.t false,.t false]
  tI (Ai hf (Ai hu tI))
theorem qFJ {s:Int} (h0:decide (s<0)=false) (hs:iV (IntKind.i64.wrap (s-0))=iV (s)) (hg:decide (s>0)=true) (a0:0≤s) (a1:s≤1000000) :
 Fn 276 0 [.pv (.slice none 0 0),.pv (iV (s))] [] (.ls 0 0) 1 [(0,0,qam ([]:List Pt))]:=
 Fz [(0,1)] [.t false,.k,Re hs,.t true,.w []]
  (qaE (qaK [(0,1)]) [(0,0,qam ([]:List Pt))]) (Ai h0 (Ai hs (Ai hg (Ai a0 (Ai a1 (Ai (Int.le_refl (0:Int)) (Ai (Nat.zero_le s.toNat) tI)))))))
theorem qH9 {l:List Pt} {x a b:Int} {s1 s2:Int} (q1:iV (IntKind.i64.wrap ((0:Int)+(l.length:Int)))=iV (s1)) (n1:decide (s1<0)=false) (q2:iV (IntKind.i64.wrap (s1+((1:Nat):Int)))=iV (s2)) (n2:decide (s2<0)=false) (hgr:Fn 276 0 [.pv (.slice none 0 0),.pv (iV (s2))] [] (.ls 0 0) 1 [(0,0,qam ([]:List Pt))]) (a1:0+l.length≤1000000) (a2:0+l.length+1≤1000000) :
 Fn 223 3 [.ps 2 0 2 2] [(2,0,.ls 0 l.length),(2,1,.ps 1 0 1 1),(1,0,.pv (iV x)),(1,1,.pv (iV a)),(1,2,.pv (iV b)),(0,0,qam l)] (.ls 3 (l++[(Pt.mk x a b)]).length) 1 [(3,0,qam (l++[(Pt.mk x a b)]))]:=
 Fx [(3,5)] [.k,Re q1,.t false,.k,.k,.r (iV (s2)),.t false,.k,.k,Cf hgr [],.k,.k,.k,.k,.k]
  (qCJ l (Pt.mk x a b)) (Ai (qto l (Pt.mk x a b)) tI) (Ai q1 (Ai n1 (Ai q2 (Ai n2 (Co hgr [] 3 (Ai a1 (Ai a2 tI)))))))
theorem qBH {l:List Pt} {x a b e e2 e3:Int} (c1:Fn 178 1 [qaS 0 x l] [(0,0,qam l)] (.pv (iV (e))) 0 []) (c2:Fn 221 1 [qaS 0 x l,.pv (qah a b)] [(0,0,qam l)] (.pv (iV (e2))) 0 []) (c3:Fn 222 1 [qaS 0 x l] [(0,0,qam l)] (.pv (iV (e3))) 0 []) (he:(e !=0)=true) :
 Fn 176 1 [qaS 0 x l,.pv (qah a b)] [(0,0,qam l)] (.pv (.tuple #[.agg #[iV 0,.slice none 0 0],iV 0,iV e])) 0 []:=
 Fz [] [Cf c1 [0],Cf c2 [0],Cf c3 [0],.k,.k,.t true,.t true]
  tI (Co c1 [0] 4 (Co c2 [0] 4 (Co c3 [0] 4 (Ai he (Ai he tI)))))
abbrev qF6 (l:List Pt) (x:Int):Prop:=Fn 178 1 [qaS 0 x l] [(0,0,qam l)] (.pv (iV (0))) 0 []
theorem qt0 {l:List Pt} {x a b e e3:Int} (c1:qF6 l x) (c2:Fn 221 1 [qaS 0 x l,.pv (qah a b)] [(0,0,qam l)] (.pv (iV (e))) 0 []) (c3:Fn 222 1 [qaS 0 x l] [(0,0,qam l)] (.pv (iV (e3))) 0 []) (he:(e !=0)=true) :
 Fn 176 1 [qaS 0 x l,.pv (qah a b)] [(0,0,qam l)] (.pv (.tuple #[.agg #[iV 0,.slice none 0 0],iV 0,iV e])) 0 []:=
 Fz [] [Cf c1 [0],Cf c2 [0],Cf c3 [0],.k,.k,.k,.k,.k,.t true,.t true]
  tI (Co c1 [0] 4 (Co c2 [0] 4 (Co c3 [0] 4 (Ai he (Ai he tI)))))
theorem qud {l:List Pt} {x a b e:Int} (c1:qF6 l x) (c2:Fn 221 1 [qaS 0 x l,.pv (qah a b)] [(0,0,qam l)] (.pv (iV (0))) 0 []) (c3:Fn 222 1 [qaS 0 x l] [(0,0,qam l)] (.pv (iV (e))) 0 []) (he:(e !=0)=true) :
 Fn 176 1 [qaS 0 x l,.pv (qah a b)] [(0,0,qam l)] (.pv (.tuple #[.agg #[iV 0,.slice none 0 0],iV 0,iV e])) 0 []:=
 Fz [] [Cf c1 [0],Cf c2 [0],Cf c3 [0],.k,.k,.k,.k,.k,.k,.k,.k,.t true,.t true]
  tI (Co c1 [0] 4 (Co c2 [0] 4 (Co c3 [0] 4 (Ai he (Ai he tI)))))
theorem qAK {l:List Pt} {x y a b:Int} (c1:qF6 l x) (c2:Fn 221 1 [qaS 0 x l,.pv (qah a b)] [(0,0,qam l)] (.pv (iV (0))) 0 []) (c3:Fn 222 1 [qaS 0 x l] [(0,0,qam l)] (.pv (iV (0))) 0 []) (hcat:Fn 223 3 [.ps 2 0 2 2] [(2,0,.ls 0 l.length),(2,1,.ps 1 0 1 1),(1,0,.pv (iV x)),(1,1,.pv (iV a)),(1,2,.pv (iV b)),(0,0,qam l)] (.ls 3 (l++[(Pt.mk x a b)]).length) 1 [(3,0,qam (l++[(Pt.mk x a b)]))]) (hy:iV (IntKind.i64.wrap (x+1))=iV (y)) :
 Fn 176 1 [qaS 0 x l,.pv (qah a b)] [(0,0,qam l)] (.tu [.ag [.pv (iV y),.ls 1 (l++[(Pt.mk x a b)]).length],.one (.pv (iV x)),.one (.pv (iV 0))]) 1 [(1,0,qam (l++[(Pt.mk x a b)]))]:=
 Fz [(1,7)] [Cf c1 [0],Cf c2 [0],Cf c1 [0],.k,.k,.k,.k,.k,.k,.k,.k,.k,.k,.k,.k,Cf hcat [0,5,6],Re hy]
  (qaE (qaK [(1,7)]) [(1,0,qam (l++[(Pt.mk x a b)]))]) (Co c1 [0] 4 (Co c2 [0] 4 (Co c3 [0] 4 (Co hcat [0,5,6] 7 (Ai hy tI)))))
theorem qHM :
 Pure Tryz.prog 104 #[] (.agg #[iV 0,.slice none 0 0]):=
 qac (args:=[]) 300 []
  (Ai rfl tI) (by kernel_rfl)
end Go.Proofs.YtkckcgpmnipnaaaGreat

namespace Go.Proofs.YtkckcgpmnipnaaaGreat
set_option maxRecDepth 100000
open Go.RowKit
theorem qH0 {a b:Int} (h1:decide (a≥0)=false) :
 Pure Tryz.prog 145 #[qah a b] (.bool false):=
 qac (args:=[qah a b]) 300 [.t false]
  (Ai rfl (Ai h1 tI)) (by kernel_rfl)
theorem qHV {a b:Int} (h1:decide (a≥0)=true) (h2:decide (a≤65535)=false) :
 Pure Tryz.prog 145 #[qah a b] (.bool false):=
 qac (args:=[qah a b]) 300 [.t true,.t false]
  (Ai rfl (Ai h1 (Ai h2 tI))) (by kernel_rfl)
theorem qHP {a b:Int} (h1:decide (a≥0)=true) (h2:decide (a≤65535)=true) (h3:decide (b≥0)=false) :
 Pure Tryz.prog 145 #[qah a b] (.bool false):=
 qac (args:=[qah a b]) 300 [.t true,.t true,.t false]
  (Ai rfl (Ai h1 (Ai h2 (Ai h3 tI)))) (by kernel_rfl)
theorem qHW {a b:Int} (h1:decide (a≥0)=true) (h2:decide (a≤65535)=true) (h3:decide (b≥0)=true) (h4:decide (b≤65535)=false) :
 Pure Tryz.prog 145 #[qah a b] (.bool false):=
 qac (args:=[qah a b]) 300 [.t true,.t true,.t true,.t false]
  (Ai rfl (Ai h1 (Ai h2 (Ai h3 (Ai h4 tI))))) (by kernel_rfl)
theorem qFP {a b:Int} (h1:decide (a≥0)=true) (h2:decide (a≤65535)=true) (h3:decide (b≥0)=true) (h4:decide (b≤65535)=true) (hn:(a !=b)=true) :
 Pure Tryz.prog 145 #[qah a b] (.bool true):=
 qac (args:=[qah a b]) 300 [.t true,.t true,.t true,.t true,.t true]
  (Ai rfl (Ai h1 (Ai h2 (Ai h3 (Ai h4 (Ai hn tI)))))) (by kernel_rfl)
theorem qFN {a b:Int} (h1:decide (a≥0)=true) (h2:decide (a≤65535)=true) (h3:decide (b≥0)=true) (h4:decide (b≤65535)=true) (hn:(a !=b)=false) :
 Pure Tryz.prog 145 #[qah a b] (.bool false):=
 qac (args:=[qah a b]) 300 [.t true,.t true,.t true,.t true,.t false]
  (Ai rfl (Ai h1 (Ai h2 (Ai h3 (Ai h4 (Ai hn tI)))))) (by kernel_rfl)
abbrev qjh (l:List Pt) (x:Int):HpL:=[(1,0,.pv (iV x)),(1,1,.ls 0 l.length),(0,0,qam l)]
abbrev qvC (k:Nat):TmL:=[(1,.pp 1 0),(3,.pv (iV (k:Int)))]
theorem qGh {l:List Pt} {k:Nat} {p:Pt} {x:Int} (hk:l[k]?=some p) (hin:0≤(k:Int)∧(k:Int)<(l.length:Int)) (hlt:decide ((k:Int)<(l.length:Int))=true) (hv:Pure Tryz.prog 145 #[qah p.a p.b] (.bool false)):Rl 1 1 121 0 78 2 (qvC k) (qjh l x) (.ret) ([(2,.pv (iV 8))]) ([]):=
 RunsL.stop [] 300 [.t true,.r (ptV p),Rf hv,.k] (fun h=>by cases h)
  (Ro (Ai hlt (Ai hin (Ai (qaA hk) (Ai hv tI)))))
theorem qFM {l:List Pt} {k:Nat} {p:Pt} {x:Int} (hk:l[k]?=some p) (hin:0≤(k:Int)∧(k:Int)<(l.length:Int)) (hlt:decide ((k:Int)<(l.length:Int))=true) (hv:Pure Tryz.prog 145 #[qah p.a p.b] (.bool true)) (h1:decide (p.id<0)=true):Rl 1 1 121 0 78 2 (qvC k) (qjh l x) (.ret) ([(2,.pv (iV 8))]) ([]):=
 RunsL.stop [] 300 [.t true,.r (ptV p),Rf hv,.k,.t true] (fun h=>by cases h)
  (Ro (Ai hlt (Ai hin (Ai (qaA hk) (Ai hv (Ai h1 tI))))))
theorem qEo {l:List Pt} {k:Nat} {p:Pt} {x:Int} (hk:l[k]?=some p) (hin:0≤(k:Int)∧(k:Int)<(l.length:Int)) (hlt:decide ((k:Int)<(l.length:Int))=true) (hv:Pure Tryz.prog 145 #[qah p.a p.b] (.bool true)) (h1:decide (p.id<0)=false) (h2:decide (p.id≥x)=true):Rl 1 1 121 0 78 2 (qvC k) (qjh l x) (.ret) ([(2,.pv (iV 8))]) ([]):=
 RunsL.stop [] 300 [.t true,.r (ptV p),Rf hv,.k,.t false,.t true] (fun h=>by cases h)
  (Ro (Ai hlt (Ai hin (Ai (qaA hk) (Ai hv (Ai h1 (Ai h2 tI)))))))
abbrev qCL (k:Nat):TmL:=[(1,.pp 1 0),(3,.pv (iV ((k+1:Nat):Int)))]
theorem qEL {l:List Pt} {k:Nat} {p q:Pt} {x:Int} (hk:l[k+1]?=some p) (hin:0≤((k+1:Nat):Int)∧((k+1:Nat):Int)<(l.length:Int)) (hlt:decide (((k+1:Nat):Int)<(l.length:Int))=true) (hv:Pure Tryz.prog 145 #[qah p.a p.b] (.bool true)) (h1:decide (p.id<0)=false) (h2:decide (p.id≥x)=false) (hz:decide (((k+1:Nat):Int)>0)=true) (hq:l[k]?=some q) (hin0:0≤(k:Int)∧(k:Int)<(l.length:Int)) (hm:iV (IntKind.i64.wrap (((k+1:Nat):Int)-1))=iV (k:Int)) (hg:decide (q.id≥p.id)=true):Rl 1 1 121 0 78 2 (qCL k) (qjh l x) (.ret) ([(2,.pv (iV 8))]) ([]):=
 RunsL.stop [] 300 [.t true,.r (ptV p),Rf hv,.k,.t false,.t false,.t true,.r (iV (k:Int)),.r (iV q.id),.t true] (fun h=>by cases h)
  (Ro (Ai hlt (Ai hin (Ai (qaA hk) (Ai hv (Ai h1 (Ai h2 (Ai hz (Ai hm (Ai hin0 (Ai (qcU hq) (Ai hg tI))))))))))))
abbrev qxx (l:List Pt) (p:Pt) (x:Int):HpL:=[(1,0,.pv (iV x)),(1,1,.ls 0 l.length),(2,0,.pv (iV p.id)),(2,1,.pv (iV p.a)),(2,2,.pv (iV p.b)),(0,0,qam l)]
theorem qEW {l:List Pt} {k:Nat} {p:Pt} {x:Int} (hk:l[k]?=some p) (hin:0≤(k:Int)∧(k:Int)<(l.length:Int)) (hlt:decide ((k:Int)<(l.length:Int))=true) (hv:Pure Tryz.prog 145 #[qah p.a p.b] (.bool true)) (h1:decide (p.id<0)=false) (h2:decide (p.id≥x)=false) (hz:decide ((k:Int)>0)=false) (r1:Rl 1 1 121 1 78 3 ([(1,.pp 1 0),(3,.pv (iV (k:Int))),(4,.pp 2 0),(5,.pv (iV ((0:Nat):Int)))]) (qxx l p x) (.exit 2) (qvC k) (qjh l x)) (hs:iV (IntKind.i64.wrap ((k:Int)+1))=iV (((k+1:Nat):Int))) {e:Exit} {tm2:TmL} {hp2:HpL}
 (r:Rl 1 1 121 0 78 2 (qCL k) (qjh l x) e tm2 hp2):Rl 1 1 121 0 78 2 (qvC k) (qjh l x) e tm2 hp2:=
 RunsL.next [] 300 [.t true,.r (ptV p),Rf hv,.k,.t false,.t false,.t false,Lf r1,Re hs]
  (Ro (Ai hlt (Ai hin (Ai (qaA hk) (Ai hv (Ai h1 (Ai h2 (Ai hz (Lo r1 [] (Ai hs tI)))))))))) r
theorem qGf {l:List Pt} {k:Nat} {p q:Pt} {x:Int} (hk:l[k+1]?=some p) (hin:0≤((k+1:Nat):Int)∧((k+1:Nat):Int)<(l.length:Int)) (hlt:decide (((k+1:Nat):Int)<(l.length:Int))=true) (hv:Pure Tryz.prog 145 #[qah p.a p.b] (.bool true)) (h1:decide (p.id<0)=false) (h2:decide (p.id≥x)=false) (hz:decide (((k+1:Nat):Int)>0)=true) (hq:l[k]?=some q) (hin0:0≤(k:Int)∧(k:Int)<(l.length:Int)) (hm:iV (IntKind.i64.wrap (((k+1:Nat):Int)-1))=iV (k:Int)) (hg:decide (q.id≥p.id)=false) (r1:Rl 1 1 121 1 78 3 ([(1,.pp 1 0),(3,.pv (iV ((k+1:Nat):Int))),(4,.pp 2 0),(5,.pv (iV ((0:Nat):Int)))]) (qxx l p x) (.exit 2) (qCL k) (qjh l x)) (hs:iV (IntKind.i64.wrap (((k+1:Nat):Int)+1))=iV (((k+1+1:Nat):Int))) {e:Exit} {tm2:TmL} {hp2:HpL}
 (r:Rl 1 1 121 0 78 2 ([(1,.pp 1 0),(3,.pv (iV ((k+1+1:Nat):Int)))]) (qjh l x) e tm2 hp2):Rl 1 1 121 0 78 2 (qCL k) (qjh l x) e tm2 hp2:=
 RunsL.next [] 300 [.t true,.r (ptV p),Rf hv,.k,.t false,.t false,.t true,.r (iV (k:Int)),.r (iV q.id),.t false,Lf r1,.r (iV (((k+1+1:Nat):Int)))]
  (Ro (Ai hlt (Ai hin (Ai (qaA hk) (Ai hv (Ai h1 (Ai h2 (Ai hz (Ai hm (Ai hin0 (Ai (qcU hq) (Ai hg (Lo r1 [] (Ai hs tI)))))))))))))) r
theorem qnv {l:List Pt} {k:Nat} {p q:Pt} {x:Int} (hk:l[k+1]?=some p) (hin:0≤((k+1:Nat):Int)∧((k+1:Nat):Int)<(l.length:Int)) (hlt:decide (((k+1:Nat):Int)<(l.length:Int))=true) (hv:Pure Tryz.prog 145 #[qah p.a p.b] (.bool true)) (h1:decide (p.id<0)=false) (h2:decide (p.id≥x)=false) (hz:decide (((k+1:Nat):Int)>0)=true) (hq:l[k]?=some q) (hin0:0≤(k:Int)∧(k:Int)<(l.length:Int)) (hm:iV (IntKind.i64.wrap (((k+1:Nat):Int)-1))=iV (k:Int)) (hg:decide (q.id≥p.id)=false) (r1:Rl 1 1 121 1 78 3 ([(1,.pp 1 0),(3,.pv (iV ((k+1:Nat):Int))),(4,.pp 2 0),(5,.pv (iV ((0:Nat):Int)))]) (qxx l p x) (.ret) ([(2,.pv (iV 8))]) ([])):Rl 1 1 121 0 78 2 (qCL k) (qjh l x) (.ret) ([(2,.pv (iV 8))]) ([]):=
 RunsL.stop [] 300 [.t true,.r (ptV p),Rf hv,.k,.t false,.t false,.t true,.r (iV (k:Int)),.r (iV q.id),.t false,Lf r1] (fun h=>by cases h)
  (Ro (Ai hlt (Ai hin (Ai (qaA hk) (Ai hv (Ai h1 (Ai h2 (Ai hz (Ai hm (Ai hin0 (Ai (qcU hq) (Ai hg (Lo r1 [] tI)))))))))))))
theorem qx9 {l:List Pt} {k:Nat} {x:Int} (hge:decide ((k:Int)<(l.length:Int))=false):Rl 1 1 121 0 78 2 (qvC k) (qjh l x) (.exit 0) ([]) ([]):=
 RunsL.stop [] 300 [.t false] (fun h=>by cases h)
  (Ro (Ai hge tI))
abbrev qGY (j:Nat) (k:Nat):TmL:=[(1,.pp 1 0),(3,.pv (iV (k:Int))),(4,.pp 2 0),(5,.pv (iV (j:Int)))]
theorem qmL {l:List Pt} {k j:Nat} {p q:Pt} {x:Int} (hq:l[j]?=some q) (hin:0≤(j:Int)∧(j:Int)<(l.length:Int)) (hlt:decide ((j:Int)<(k:Int))=true) (he:(q.a==p.a&&(q.b==p.b&&true))=false) (hs:iV (IntKind.i64.wrap ((j:Int)+1))=iV (((j+1:Nat):Int))) {e:Exit} {tm2:TmL} {hp2:HpL}
 (r:Rl 1 1 121 1 78 3 ([(1,.pp 1 0),(3,.pv (iV (k:Int))),(4,.pp 2 0),(5,.pv (iV ((j+1:Nat):Int)))]) (qxx l p x) e tm2 hp2):Rl 1 1 121 1 78 3 (qGY j k) (qxx l p x) e tm2 hp2:=
 RunsL.next [] 300 [.t true,.r (qah q.a q.b),.t false,Re hs]
  (Ro (Ai hlt (Ai hin (Ai (qfp hq) (Ai he (Ai hs tI)))))) r
theorem qsC {l:List Pt} {k j:Nat} {p q:Pt} {x:Int} (hq:l[j]?=some q) (hin:0≤(j:Int)∧(j:Int)<(l.length:Int)) (hlt:decide ((j:Int)<(k:Int))=true) (he:(q.a==p.a&&(q.b==p.b&&true))=true):Rl 1 1 121 1 78 3 (qGY j k) (qxx l p x) (.ret) ([(2,.pv (iV 8))]) ([]):=
 RunsL.stop [] 300 [.t true,.r (qah q.a q.b),.t true] (fun h=>by cases h)
  (Ro (Ai hlt (Ai hin (Ai (qfp hq) (Ai he tI)))))
theorem qqE {l:List Pt} {k j:Nat} {p:Pt} {x:Int} (hge:decide ((j:Int)<(k:Int))=false):Rl 1 1 121 1 78 3 (qGY j k) (qxx l p x) (.exit 2) (qvC k) (qjh l x):=
 RunsL.stop [] 300 [.t false] (fun h=>by cases h)
  (Ro (Ai hge tI))
theorem qsw {l:List Pt} {x:Int} (g1:decide ((l.length:Int)>200)=true) :
 Fn 121 1 [qaS 0 x l] [(0,0,qam l)] (.pv (iV (8))) 0 []:=
 Fz [] [.t true]
  tI (Ai g1 tI)
theorem qx8 {l:List Pt} {x:Int} (g1:decide ((l.length:Int)>200)=false) (g2:decide (x<0)=true) :
 Fn 121 1 [qaS 0 x l] [(0,0,qam l)] (.pv (iV (8))) 0 []:=
 Fz [] [.t false,.t true]
  tI (Ai g1 (Ai g2 tI))
theorem qxO {l:List Pt} {x:Int} (g1:decide ((l.length:Int)>200)=false) (g2:decide (x<0)=false) (g3:decide (x>1000000)=true) :
 Fn 121 1 [qaS 0 x l] [(0,0,qam l)] (.pv (iV (8))) 0 []:=
 Fz [] [.t false,.t false,.t true]
  tI (Ai g1 (Ai g2 (Ai g3 tI)))
theorem qyE {l:List Pt} {x:Int} (g1:decide ((l.length:Int)>200)=false) (g2:decide (x<0)=false) (g3:decide (x>1000000)=false) (r0:Rl 1 1 121 0 78 2 ([(1,.pp 1 0),(3,.pv (iV ((0:Nat):Int)))]) (qjh l x) (.ret) ([(2,.pv (iV 8))]) ([])) :
 Fn 121 1 [qaS 0 x l] [(0,0,qam l)] (.pv (iV (8))) 0 []:=
 Fz [] [.t false,.t false,.t false,Lf r0]
  tI (Ai g1 (Ai g2 (Ai g3 (Lo r0 [] tI))))
theorem qCp {l:List Pt} {x:Int} (g1:decide ((l.length:Int)>200)=false) (g2:decide (x<0)=false) (g3:decide (x>1000000)=false) (r0:Rl 1 1 121 0 78 2 ([(1,.pp 1 0),(3,.pv (iV ((0:Nat):Int)))]) (qjh l x) (.exit 0) ([]) ([])) :
 Fn 121 1 [qaS 0 x l] [(0,0,qam l)] (.pv (iV (0))) 0 []:=
 Fz [] [.t false,.t false,.t false,Lf r0]
  tI (Ai g1 (Ai g2 (Ai g3 (Lo r0 [] tI))))
end Go.Proofs.YtkckcgpmnipnaaaGreat

namespace Go.Proofs.YtkckcgpmnipnaaaGreat
set_option maxRecDepth 100000
open Go.RowKit
theorem qGA {a:Int} (h0:decide (0≤a)=false) :
 Pure Tryz.prog 317 #[iV a] (.bool false):=
 qac (args:=[iV a]) 300 [.t false]
  (Ai rfl (Ai h0 tI)) (by kernel_rfl)
theorem qFQ {a:Int} (h0:decide (0≤a)=true) (h1:decide (a≤65535)=false) :
 Pure Tryz.prog 317 #[iV a] (.bool false):=
 qac (args:=[iV a]) 300 [.t true,.t false]
  (Ai rfl (Ai h0 (Ai h1 tI))) (by kernel_rfl)
theorem qE9 {a:Int} (h0:decide (0≤a)=true) (h1:decide (a≤65535)=true) :
 Pure Tryz.prog 317 #[iV a] (.bool true):=
 qac (args:=[iV a]) 300 [.t true,.t true]
  (Ai rfl (Ai h0 (Ai h1 tI))) (by kernel_rfl)
theorem qH7 {a b:Int} (ha:Pure Tryz.prog 317 #[iV a] (.bool false)) :
 Pure Tryz.prog 273 #[qah a b] (.bool false):=
 qac (args:=[qah a b]) 300 [Rf ha]
  (Ai rfl (Ai ha tI)) (by kernel_rfl)
theorem qH5 {a b:Int} (ha:Pure Tryz.prog 317 #[iV a] (.bool true)) (hb:Pure Tryz.prog 317 #[iV b] (.bool false)) :
 Pure Tryz.prog 273 #[qah a b] (.bool false):=
 qac (args:=[qah a b]) 300 [Rf ha,Rf hb]
  (Ai rfl (Ai ha (Ai hb tI))) (by kernel_rfl)
theorem qE7 {a b:Int} (ha:Pure Tryz.prog 317 #[iV a] (.bool true)) (hb:Pure Tryz.prog 317 #[iV b] (.bool true)) (hn:(a !=b)=true) :
 Pure Tryz.prog 273 #[qah a b] (.bool true):=
 qac (args:=[qah a b]) 300 [Rf ha,Rf ha,.t true]
  (Ai rfl (Ai ha (Ai hb (Ai hn tI)))) (by kernel_rfl)
theorem qFm {a b:Int} (ha:Pure Tryz.prog 317 #[iV a] (.bool true)) (hb:Pure Tryz.prog 317 #[iV b] (.bool true)) (hn:(a !=b)=false) :
 Pure Tryz.prog 273 #[qah a b] (.bool false):=
 qac (args:=[qah a b]) 300 [Rf ha,Rf ha,.t false]
  (Ai rfl (Ai ha (Ai hb (Ai hn tI)))) (by kernel_rfl)
abbrev qzj (l:List Pt) (x:Int):HpL:=[(1,0,.pv (iV x)),(1,1,.ls 0 l.length),(0,0,qam l)]
abbrev qFH (k:Nat) (l:List Pt) (y:Int):TmL:=[(1,.pp 1 0),(3,.pv (iV (y))),(7,.ls 0 l.length),(8,.pv (iV (l.length:Int))),(9,.pv (iV (k:Int)))]
theorem qxX {l:List Pt} {k:Nat} {p:Pt} {x y:Int} (hk:l[k]?=some p) (hin:0≤(k:Int)∧(k:Int)<(l.length:Int)) (hlt:decide ((k:Int)<(l.length:Int))=true) (hle:decide (p.id≤y)=false) (hs:iV (IntKind.i64.wrap ((k:Int)+1))=iV (((k+1:Nat):Int))) {e:Exit} {tm2:TmL} {hp2:HpL}
 (r:Rl 1 1 228 0 29 2 ([(1,.pp 1 0),(3,.pv (iV (p.id))),(7,.ls 0 l.length),(8,.pv (iV (l.length:Int))),(9,.pv (iV ((k+1:Nat):Int)))]) (qzj l x) e tm2 hp2):Rl 1 1 228 0 29 2 (qFH k l y) (qzj l x) e tm2 hp2:=
 RunsL.next [] 300 [.t true,.r (ptV p),.t false,Re hs]
  (Ro (Ai hlt (Ai hin (Ai (qaA hk) (Ai hle (Ai hs tI)))))) r
theorem qB5 {l:List Pt} {k:Nat} {p:Pt} {x y:Int} (hk:l[k]?=some p) (hin:0≤(k:Int)∧(k:Int)<(l.length:Int)) (hlt:decide ((k:Int)<(l.length:Int))=true) (hle:decide (p.id≤y)=true):Rl 1 1 228 0 29 2 (qFH k l y) (qzj l x) (.ret) ([(2,.pv (.bool false))]) ([]):=
 RunsL.stop [] 300 [.t true,.r (ptV p),.t true] (fun h=>by cases h)
  (Ro (Ai hlt (Ai hin (Ai (qaA hk) (Ai hle tI)))))
theorem qCH {l:List Pt} {k:Nat} {x y:Int} (hge:decide ((k:Int)<(l.length:Int))=false):Rl 1 1 228 0 29 2 (qFH k l y) (qzj l x) (.exit 0) ([(1,.pp 1 0),(3,.pv (iV (y)))]) (qzj l x):=
 RunsL.stop [] 300 [.t false] (fun h=>by cases h)
  (Ro (Ai hge tI))
theorem qEx {l:List Pt} {x:Int} (r0:Rl 1 1 228 0 29 2 ([(1,.pp 1 0),(3,.pv (iV (-1))),(7,.ls 0 l.length),(8,.pv (iV (l.length:Int))),(9,.pv (iV ((0:Nat):Int)))]) (qzj l x) (.ret) ([(2,.pv (.bool false))]) ([])) :
 Fn 228 1 [qaS 0 x l] [(0,0,qam l)] (.pv (.bool false)) 0 []:=
 Fz [] [Lf r0]
  tI (Lo r0 [] tI)
abbrev qFc (l:List Pt) (x:Int) (y:Int):Prop:=Rl 1 1 228 0 29 2 ([(1,.pp 1 0),(3,.pv (iV (-1))),(7,.ls 0 l.length),(8,.pv (iV (l.length:Int))),(9,.pv (iV ((0:Nat):Int)))]) ([(1,0,.pv (iV x)),(1,1,.ls 0 l.length),(0,0,qam l)]) (.exit 0) ([(1,.pp 1 0),(3,.pv (iV (y)))]) ([(1,0,.pv (iV x)),(1,1,.ls 0 l.length),(0,0,qam l)])
theorem qF5 {l:List Pt} {x y:Int} (r0:qFc l x y) (h1:decide (y<x)=false) :
 Fn 228 1 [qaS 0 x l] [(0,0,qam l)] (.pv (.bool false)) 0 []:=
 Fz [] [Lf r0,.t false]
  tI (Lo r0 [] (Ai h1 tI))
theorem qFb {l:List Pt} {x y:Int} (r0:qFc l x y) (h1:decide (y<x)=true) (h2:decide (x≤1000000)=false) :
 Fn 228 1 [qaS 0 x l] [(0,0,qam l)] (.pv (.bool false)) 0 []:=
 Fz [] [Lf r0,.t true,.t false]
  tI (Lo r0 [] (Ai h1 (Ai h2 tI)))
theorem qG3 {l:List Pt} {x y:Int} (r0:qFc l x y) (h1:decide (y<x)=true) (h2:decide (x≤1000000)=true) :
 Fn 228 1 [qaS 0 x l] [(0,0,qam l)] (.pv (.bool true)) 0 []:=
 Fz [] [Lf r0,.t true,.t true]
  tI (Lo r0 [] (Ai h1 (Ai h2 tI)))
abbrev qD1 (k:Nat) (l:List Pt):TmL:=[(3,.mp 1),(9,.ls 0 l.length),(10,.pv (iV (l.length:Int))),(11,.pv (iV (k:Int)))]
theorem qCA {l m:List Pt} {k:Nat} {p:Pt} (hk:l[k]?=some p) (hin:0≤(k:Int)∧(k:Int)<(l.length:Int)) (hlt:decide ((k:Int)<(l.length:Int))=true) (hv:Pure Tryz.prog 273 #[qah p.a p.b] (.bool false)):Rl 1 1 229 0 29 2 (qD1 k l) ([(1,0,.mrow (qaI (m))),(0,0,qam l)]) (.ret) ([(2,.pv (.bool false))]) ([]):=
 RunsL.stop [] 300 [.t true,.r (ptV p),Rf hv,.k] (fun h=>by cases h)
  (Ro (Ai hlt (Ai hin (Ai (qaA hk) (Ai hv tI)))))
theorem qAc {l m:List Pt} {k:Nat} {p:Pt} (hk:l[k]?=some p) (hin:0≤(k:Int)∧(k:Int)<(l.length:Int)) (hlt:decide ((k:Int)<(l.length:Int))=true) (hv:Pure Tryz.prog 273 #[qah p.a p.b] (.bool true)) (hL:qcp Tryz.prog 167 (qaI m) (qah p.a p.b) false (.bool true)):Rl 1 1 229 0 29 2 (qD1 k l) ([(1,0,.mrow (qaI (m))),(0,0,qam l)]) (.ret) ([(2,.pv (.bool false))]) ([]):=
 RunsL.stop [] 300 [.t true,.r (ptV p),Rf hv,.k,Rf hv] (fun h=>by cases h)
  (Ro (Ai hlt (Ai hin (Ai (qaA hk) (Ai hv (Ai hL tI))))))
theorem qxV {l m:List Pt} {k:Nat} {p:Pt} (hk:l[k]?=some p) (hin:0≤(k:Int)∧(k:Int)<(l.length:Int)) (hlt:decide ((k:Int)<(l.length:Int))=true) (hv:Pure Tryz.prog 273 #[qah p.a p.b] (.bool true)) (hL:qcp Tryz.prog 167 (qaI m) (qah p.a p.b) false (.bool false)) (hP:ql0 Tryz.prog 167 (qaI m) (qah p.a p.b) (.bool true) (qaI (m++[p]))) (hs:iV (IntKind.i64.wrap ((k:Int)+1))=iV (((k+1:Nat):Int))) {e:Exit} {tm2:TmL} {hp2:HpL}
 (r:Rl 1 1 229 0 29 2 ([(3,.mp 1),(9,.ls 0 l.length),(10,.pv (iV (l.length:Int))),(11,.pv (iV ((k+1:Nat):Int)))]) ([(1,0,.mrow (qaI (m++[p]))),(0,0,qam l)]) e tm2 hp2):Rl 1 1 229 0 29 2 (qD1 k l) ([(1,0,.mrow (qaI (m))),(0,0,qam l)]) e tm2 hp2:=
 RunsL.next [] 300 [.t true,.r (ptV p),Rf hv,.k,.r (.bool false),.w (qaI (m++[p])),Re hs]
  (Ro (Ai hlt (Ai hin (Ai (qaA hk) (Ai hv (Ai hL (Ai hP (Ai hs tI)))))))) r
theorem qB3 {l m:List Pt} {k:Nat} (hge:decide ((k:Int)<(l.length:Int))=false):Rl 1 1 229 0 29 2 (qD1 k l) ([(1,0,.mrow (qaI (m))),(0,0,qam l)]) (.exit 0) ([]) ([]):=
 RunsL.stop [] 300 [.t false] (fun h=>by cases h)
  (Ro (Ai hge tI))
theorem qDf {l:List Pt} (r0:Rl 1 1 229 0 29 2 ([(3,.mp 1),(9,.ls 0 l.length),(10,.pv (iV (l.length:Int))),(11,.pv (iV ((0:Nat):Int)))]) ([(1,0,.mrow (qaI ([]))),(0,0,qam l)]) (.ret) ([(2,.pv (.bool false))]) ([])) :
 Fn 229 1 [.ls 0 l.length] [(0,0,qam l)] (.pv (.bool false)) 0 []:=
 Fz [] [Lf r0]
  tI (Lo r0 [] tI)
theorem qF8 {l:List Pt} (r0:Rl 1 1 229 0 29 2 ([(3,.mp 1),(9,.ls 0 l.length),(10,.pv (iV (l.length:Int))),(11,.pv (iV ((0:Nat):Int)))]) ([(1,0,.mrow (qaI ([]))),(0,0,qam l)]) (.exit 0) ([]) ([])) :
 Fn 229 1 [.ls 0 l.length] [(0,0,qam l)] (.pv (.bool true)) 0 []:=
 Fz [] [Lf r0]
  tI (Lo r0 [] tI)
theorem qro {l:List Pt} {x:Int} (h2:decide ((l.length:Int)>200)=true) :
 Fn 178 1 [qaS 0 x l] [(0,0,qam l)] (.pv (iV (8))) 0 []:=
 Fz [] [.t true]
  tI (Ai h2 tI)
theorem qyF {l:List Pt} {x:Int} (h2:decide ((l.length:Int)>200)=false) (hn:Fn 228 1 [qaS 0 x l] [(0,0,qam l)] (.pv (.bool false)) 0 []) :
 Fn 178 1 [qaS 0 x l] [(0,0,qam l)] (.pv (iV (8))) 0 []:=
 Fz [] [.t false,Cf hn [0],.k]
  tI (Ai h2 (Co hn [0] 2 tI))
theorem qyT {l:List Pt} {x:Int} (h2:decide ((l.length:Int)>200)=false) (hn:Fn 228 1 [qaS 0 x l] [(0,0,qam l)] (.pv (.bool true)) 0 []) (hc:Fn 229 1 [.ls 0 l.length] [(0,0,qam l)] (.pv (.bool false)) 0 []) :
 Fn 178 1 [qaS 0 x l] [(0,0,qam l)] (.pv (iV (8))) 0 []:=
 Fz [] [.t false,Cf hn [0],.k,Cf hc [0],.k]
  tI (Ai h2 (Co hn [0] 2 (Co hc [0] 2 tI)))
theorem qAS {l:List Pt} {x:Int} (h2:decide ((l.length:Int)>200)=false) (hn:Fn 228 1 [qaS 0 x l] [(0,0,qam l)] (.pv (.bool true)) 0 []) (hc:Fn 229 1 [.ls 0 l.length] [(0,0,qam l)] (.pv (.bool true)) 0 []) :
 Fn 178 1 [qaS 0 x l] [(0,0,qam l)] (.pv (iV (0))) 0 []:=
 Fz [] [.t false,Cf hn [0],.k,Cf hc [0],.k]
  tI (Ai h2 (Co hn [0] 2 (Co hc [0] 2 tI)))
end Go.Proofs.YtkckcgpmnipnaaaGreat
