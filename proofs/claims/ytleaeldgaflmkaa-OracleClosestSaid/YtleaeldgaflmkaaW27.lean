/-
  Joined: Vc, Vg, Vcc, Vl, Vm, Py, Fm, Vb, Fn. Conditions: none.
-/
import Derived.Test.YtleaeldgaflmkaaW26
import Derived.Test.YtleaeldgaflmkaaW25
import Derived.Test.YtleaeldgaflmkaaSxQ
import Derived.Test.YtleaeldgaflmkaaW24
namespace Go.Proofs.Ytleaeldgaflmkaa
set_option maxRecDepth 100000
open Go.RowKit
theorem vpl {tn td n1 d1 e:Int} {p:Pt} (c1:Pure Try.prog 46 #[qae p.id p.a p.b,qaa tn td] (.tuple #[qaa n1 d1,iV e])) :
 Pure Try.prog 32 #[qae p.id p.a p.b,qaa tn td] (qaa n1 d1):=
 qac (args:=[qae p.id p.a p.b,qaa tn td]) 300 [Rf c1]
  (Ai rfl (Ai c1 tI)) (by kernel_rfl)
theorem qm9 {tn td n1 d1 n2 d2 n3 d3 bn e:Int} {p q:Pt} (c1:Pure Try.prog 32 #[qae p.id p.a p.b,qaa tn td] (qaa n1 d1)) (c2:Pure Try.prog 32 #[qae q.id q.a q.b,qaa tn td] (qaa n2 d2)) (c3:Pure Try.prog 31 #[qaa n1 d1,qaa n2 d2] (.tuple #[qaa n3 d3,iV e])) (h0:decide (n3<0)=true) (hn:iV (IntKind.i64.wrap (0-n3))=iV (bn)) :
 Pure Try.prog 21 #[qae p.id p.a p.b,qae q.id q.a q.b,qaa tn td] (qaa bn d3):=
 qac (args:=[qae p.id p.a p.b,qae q.id q.a q.b,qaa tn td]) 300 [.md,Rf c1,Rf c2,Rf c3,.t true,Re hn]
  (Ai rfl (Ai c1 (Ai c2 (Ai c3 (Ai h0 (Ai hn tI)))))) (by kernel_rfl)
theorem qnM {tn td n1 d1 n2 d2 n3 d3 e:Int} {p q:Pt} (c1:Pure Try.prog 32 #[qae p.id p.a p.b,qaa tn td] (qaa n1 d1)) (c2:Pure Try.prog 32 #[qae q.id q.a q.b,qaa tn td] (qaa n2 d2)) (c3:Pure Try.prog 31 #[qaa n1 d1,qaa n2 d2] (.tuple #[qaa n3 d3,iV e])) (h0:decide (n3<0)=false) :
 Pure Try.prog 21 #[qae p.id p.a p.b,qae q.id q.a q.b,qaa tn td] (qaa n3 d3):=
 qac (args:=[qae p.id p.a p.b,qae q.id q.a q.b,qaa tn td]) 300 [.md,Rf c1,Rf c2,Rf c3,.t false]
  (Ai rfl (Ai c1 (Ai c2 (Ai c3 (Ai h0 tI))))) (by kernel_rfl)
abbrev qiU (bd:Int) (bn:Int) (s:List Pt) (td:Int) (tn:Int):HpL:=[(1,0,.ls 0 s.length),(2,0,.pv (iV tn)),(2,1,.pv (iV td)),(3,0,.pv (iV 0)),(3,1,.pv (iV 0)),(4,0,.pv (iV bn)),(4,1,.pv (iV bd)),(0,0,qap s)]
abbrev qnR (a:Nat) (b:Nat) (i:Nat) (j:Nat):TmL:=[(2,.pp 1 0),(3,.pp 2 0),(4,.pv (iV 0)),(5,.pv (iV 0)),(6,.pp 3 0),(7,.pv (iV (i:Int))),(8,.pv (iV (j:Int))),(9,.pp 4 0),(10,.pv (iV (a:Int))),(11,.pv (iV (b:Int)))]
abbrev qoa (d1:Int) (n1:Int) (s:List Pt) (td:Int) (tn:Int):HpL:=[(1,0,.ls 0 s.length),(2,0,.pv (iV tn)),(2,1,.pv (iV td)),(3,0,.pv (iV 0)),(3,1,.pv (iV 0)),(4,0,.pv (iV n1)),(4,1,.pv (iV d1)),(0,0,qap s)]
theorem qju {tn td n1 d1 bn bd e1:Int} {s:List Pt} {p q:Pt} {i j a b:Nat} (hlt:decide ((b:Int)<(s.length:Int))=true) (ia:0≤(a:Int)∧(a:Int)<(s.length:Int)) (ib:0≤(b:Int)∧(b:Int)<(s.length:Int)) (hp:s[a]?=some p) (hq:s[b]?=some q) (cd:Pure Try.prog 21 #[qae p.id p.a p.b,qae q.id q.a q.b,qaa tn td] (qaa n1 d1)) (cc:Pure Try.prog 22 #[qaa n1 d1,qaa bn bd] (iV (e1))) (hc:decide (e1<0)=true) (hs:iV (IntKind.i64.wrap ((b:Int)+1))=iV (((b+1:Nat):Int))) {e:Exit} {tm2:TmL} {hp2:HpL}
 (r:Rl 1 1 13 1 71 5 ([(2,.pp 1 0),(3,.pp 2 0),(4,.pv (iV 0)),(5,.pv (iV 0)),(6,.pp 3 0),(7,.pv (iV (a:Int))),(8,.pv (iV (b:Int))),(9,.pp 4 0),(10,.pv (iV (a:Int))),(11,.pv (iV ((b+1:Nat):Int)))]) (qoa d1 n1 s td tn) e tm2 hp2):Rl 1 1 13 1 71 5 (qnR a b i j) (qiU bd bn s td tn) e tm2 hp2:=
 RunsL.next [] 300 [.t true,.md,.r (ptV p),.r (ptV q),Rf cd,Rf cc,.t true,.md,Re hs]
  (Ro (Ai hlt (Ai ia (Ai (qdH hp) (Ai ib (Ai (qdH hq) (Ai cd (Ai cc (Ai hc (Ai hs tI)))))))))) r
theorem qj9 {tn td n1 d1 bn bd e1:Int} {s:List Pt} {p q:Pt} {i j a b:Nat} (hlt:decide ((b:Int)<(s.length:Int))=true) (ia:0≤(a:Int)∧(a:Int)<(s.length:Int)) (ib:0≤(b:Int)∧(b:Int)<(s.length:Int)) (hp:s[a]?=some p) (hq:s[b]?=some q) (cd:Pure Try.prog 21 #[qae p.id p.a p.b,qae q.id q.a q.b,qaa tn td] (qaa n1 d1)) (cc:Pure Try.prog 22 #[qaa n1 d1,qaa bn bd] (iV (e1))) (hc:decide (e1<0)=false) (hs:iV (IntKind.i64.wrap ((b:Int)+1))=iV (((b+1:Nat):Int))) {e:Exit} {tm2:TmL} {hp2:HpL}
 (r:Rl 1 1 13 1 71 5 ([(2,.pp 1 0),(3,.pp 2 0),(4,.pv (iV 0)),(5,.pv (iV 0)),(6,.pp 3 0),(7,.pv (iV (i:Int))),(8,.pv (iV (j:Int))),(9,.pp 4 0),(10,.pv (iV (a:Int))),(11,.pv (iV ((b+1:Nat):Int)))]) (qiU bd bn s td tn) e tm2 hp2):Rl 1 1 13 1 71 5 (qnR a b i j) (qiU bd bn s td tn) e tm2 hp2:=
 RunsL.next [] 300 [.t true,.md,.r (ptV p),.r (ptV q),Rf cd,Rf cc,.t false,Re hs]
  (Ro (Ai hlt (Ai ia (Ai (qdH hp) (Ai ib (Ai (qdH hq) (Ai cd (Ai cc (Ai hc (Ai hs tI)))))))))) r
abbrev qnp (a:Nat) (i:Nat) (j:Nat):TmL:=[(2,.pp 1 0),(3,.pp 2 0),(4,.pv (iV 0)),(5,.pv (iV 0)),(6,.pp 3 0),(7,.pv (iV (i:Int))),(8,.pv (iV (j:Int))),(9,.pp 4 0),(10,.pv (iV (a:Int)))]
theorem qja {tn td bn bd:Int} {s:List Pt} {i j a b:Nat} (hlt:decide ((b:Int)<(s.length:Int))=false):Rl 1 1 13 1 71 5 (qnR a b i j) (qiU bd bn s td tn) (.exit 2) (qnp a i j) (qiU bd bn s td tn):=
 RunsL.stop [] 300 [.t false] (fun h=>by cases h)
  (Ro (Ai hlt tI))
abbrev qoh (d2:Int) (n2:Int) (s:List Pt) (td:Int) (tn:Int):HpL:=[(1,0,.ls 0 s.length),(2,0,.pv (iV tn)),(2,1,.pv (iV td)),(3,0,.pv (iV 0)),(3,1,.pv (iV 0)),(4,0,.pv (iV n2)),(4,1,.pv (iV d2)),(0,0,qap s)]
theorem qjz {i2 j2:Nat} {tn td n2 d2 bn bd:Int} {s:List Pt} {i j a:Nat} (hlt:decide ((a:Int)<(s.length:Int))=true) (ha:iV (IntKind.i64.wrap ((a:Int)+1))=iV (((a+1:Nat):Int))) (r0:Rl 1 1 13 1 71 5 ([(2,.pp 1 0),(3,.pp 2 0),(4,.pv (iV 0)),(5,.pv (iV 0)),(6,.pp 3 0),(7,.pv (iV (i:Int))),(8,.pv (iV (j:Int))),(9,.pp 4 0),(10,.pv (iV (a:Int))),(11,.pv (iV ((a+1:Nat):Int)))]) (qiU bd bn s td tn) (.exit 2) ([(2,.pp 1 0),(3,.pp 2 0),(4,.pv (iV 0)),(5,.pv (iV 0)),(6,.pp 3 0),(7,.pv (iV (i2:Int))),(8,.pv (iV (j2:Int))),(9,.pp 4 0),(10,.pv (iV (a:Int)))]) (qoh d2 n2 s td tn)) (hb:iV (IntKind.i64.wrap ((a:Int)+1))=iV (((a+1:Nat):Int))) {e:Exit} {tm2:TmL} {hp2:HpL}
 (r:Rl 1 1 13 0 71 5 ([(2,.pp 1 0),(3,.pp 2 0),(4,.pv (iV 0)),(5,.pv (iV 0)),(6,.pp 3 0),(7,.pv (iV (i2:Int))),(8,.pv (iV (j2:Int))),(9,.pp 4 0),(10,.pv (iV ((a+1:Nat):Int)))]) (qoh d2 n2 s td tn) e tm2 hp2):Rl 1 1 13 0 71 5 (qnp a i j) (qiU bd bn s td tn) e tm2 hp2:=
 RunsL.next [] 300 [.t true,Re ha,Lf r0,Re ha]
  (Ro (Ai hlt (Ai ha (Lo r0 [] (Ai hb tI))))) r
abbrev qob (i:Nat) (j:Nat):TmL:=[(2,.pp 1 0),(3,.pp 2 0),(4,.pv (iV 0)),(5,.pv (iV 0)),(6,.pp 3 0),(7,.pv (iV (i:Int))),(8,.pv (iV (j:Int))),(9,.pp 4 0)]
theorem qk6 {tn td bn bd:Int} {s:List Pt} {i j a:Nat} (hlt:decide ((a:Int)<(s.length:Int))=false):Rl 1 1 13 0 71 5 (qnp a i j) (qiU bd bn s td tn) (.exit 0) (qob i j) (qiU bd bn s td tn):=
 RunsL.stop [] 300 [.t false] (fun h=>by cases h)
  (Ro (Ai hlt tI))
theorem qmL {u v:Pt} {tn td n1 d1 bn bd:Int} {s:List Pt} {p q:Pt} {i j:Nat} (i0:0≤(0:Int)∧(0:Int)<(s.length:Int)) (i1:0≤(1:Int)∧(1:Int)<(s.length:Int)) (h0:s[0]?=some p) (h1:s[1]?=some q) (cd:Pure Try.prog 21 #[qae p.id p.a p.b,qae q.id q.a q.b,qaa tn td] (qaa n1 d1)) (r0:Rl 1 1 13 0 71 5 ([(2,.pp 1 0),(3,.pp 2 0),(4,.pv (iV 0)),(5,.pv (iV 0)),(6,.pp 3 0),(7,.pv (iV ((0:Nat):Int))),(8,.pv (iV ((1:Nat):Int))),(9,.pp 4 0),(10,.pv (iV ((0:Nat):Int)))]) (qoa d1 n1 s td tn) (.exit 0) (qob i j) (qiU bd bn s td tn)) (ii:0≤(i:Int)∧(i:Int)<(s.length:Int)) (ij:0≤(j:Int)∧(j:Int)<(s.length:Int)) (hi:s[i]?=some u) (hj:s[j]?=some v) :
 Fn 13 1 [qbl 0 s,.pv (qaa tn td)] [(0,0,qap s)] (.pv (.tuple #[iV u.id,iV v.id,qaa bn bd])) 0 []:=
 Fz [] [.md,.r (ptV p),.r (ptV q),Rf cd,Lf r0,.md,.r (iV u.id),.r (iV v.id)]
  tI (Ai i0 (Ai (qdH h0) (Ai i1 (Ai (qdH h1) (Ai cd (Lo r0 [] (Ai ii (Ai (qc8 hi) (Ai ij (Ai (qc8 hj) tI))))))))))
end Go.Proofs.Ytleaeldgaflmkaa

namespace Go.Proofs.Ytleaeldgaflmkaa
set_option maxRecDepth 100000
open Go.RowKit
theorem qi9 (a b:Int):(a==a&&(b==b&&true))=true:=by simp
theorem qns {tn td:Int} {s:List Pt} (hgf:Fn 4 1 [qbl 0 s] [(0,0,qap s)] (.pv (.bool true)) 0 []) :
 Fn 3 1 [qbl 0 s,.pv (qaa tn td)] [(0,0,qap s)] (.pv (.bool true)) 0 []:=
 Fz [] [Cf hgf [0]]
  tI (Co hgf [0] 3 tI)
theorem qmI {tn td n1 n2 bn bd e1:Int} {s:List Pt} (hgf:Fn 4 1 [qbl 0 s] [(0,0,qap s)] (.pv (.bool false)) 0 []) (h1:Fn 5 1 [qbl 0 s,.pv (qaa tn td)] [(0,0,qap s)] (.pv (.tuple #[iV n1,iV n2,qaa bn bd,iV e1])) 0 []) (h2:Fn 6 1 [qbl 0 s,.pv (qaa tn td)] [(0,0,qap s)] (.pv (.tuple #[iV n1,iV n2,qaa bn bd,iV e1])) 0 []) :
 Fn 3 1 [qbl 0 s,.pv (qaa tn td)] [(0,0,qap s)] (.pv (.bool true)) 0 []:=
 Fz [] [Cf hgf [0],Cf h1 [0],Cf h1 [0],.t true,.t true,.t true,.t true]
  tI (Co hgf [0] 3 (Co h1 [0] 3 (Co h2 [0] 4 (Ai (qfF n1) (Ai (qfF n2) (Ai (qi9 bn bd) (Ai (qfF e1) tI)))))))
end Go.Proofs.Ytleaeldgaflmkaa

namespace Go.Proofs.Ytleaeldgaflmkaa
set_option maxRecDepth 100000
open Go.RowKit
theorem qnQ {tn td e1:Int} {s:List Pt} (hc:Fn 11 1 [qbl 0 s] [(0,0,qap s)] (.pv (iV (e1))) 0 []) (he:(e1 !=0)=true) :
 Fn 6 1 [qbl 0 s,.pv (qaa tn td)] [(0,0,qap s)] (.pv (.tuple #[iV 0,iV 0,qaa 0 0,iV e1])) 0 []:=
 Fz [] [Cf hc [0],.t true]
  tI (Co hc [0] 4 (Ai he tI))
abbrev qlG (s:List Pt):Prop:=Fn 11 1 [qbl 0 s] [(0,0,qap s)] (.pv (iV (0))) 0 []
theorem qn4 {tn td e2:Int} {s:List Pt} (hc:qlG s) (ha:Pure Try.prog 12 #[qaa tn td] (iV (e2))) (he:(e2 !=0)=true) :
 Fn 6 1 [qbl 0 s,.pv (qaa tn td)] [(0,0,qap s)] (.pv (.tuple #[iV 0,iV 0,qaa 0 0,iV e2])) 0 []:=
 Fz [] [Cf hc [0],.k,Rf ha,.t true]
  tI (Co hc [0] 4 (Ai ha (Ai he tI)))
theorem qnn {tn td:Int} {s:List Pt} (hc:qlG s) (ha:Pure Try.prog 12 #[qaa tn td] (iV (0))) (hl:decide ((s.length:Int)<2)=true) :
 Fn 6 1 [qbl 0 s,.pv (qaa tn td)] [(0,0,qap s)] (.pv (.tuple #[iV 0,iV 0,qaa 0 0,iV 42])) 0 []:=
 Fz [] [Cf hc [0],.k,Rf ha,.k,.t true]
  tI (Co hc [0] 4 (Ai ha (Ai hl tI)))
theorem qna {tn td n1 n2 bn bd:Int} {s:List Pt} (hc:qlG s) (ha:Pure Try.prog 12 #[qaa tn td] (iV (0))) (hl:decide ((s.length:Int)<2)=false) (hp:Fn 13 1 [qbl 0 s,.pv (qaa tn td)] [(0,0,qap s)] (.pv (.tuple #[iV n1,iV n2,qaa bn bd])) 0 []) :
 Fn 6 1 [qbl 0 s,.pv (qaa tn td)] [(0,0,qap s)] (.pv (.tuple #[iV n1,iV n2,qaa bn bd,iV 0])) 0 []:=
 Fz [] [Cf hc [0],.k,Rf ha,.k,.t false,Cf hp [0],.md]
  tI (Co hc [0] 4 (Ai ha (Ai hl (Co hp [0] 4 tI))))
end Go.Proofs.Ytleaeldgaflmkaa

namespace Go.Proofs.Ytleaeldgaflmkaa
set_option maxRecDepth 100000
open Go.RowKit
structure Rz where
 n:Int
 d:Int
def rzV:List Rz→List Value
 | []=>[]
 | m::r=>iV m.n::iV m.d::rzV r
theorem qdR:∀ (l:List Rz),(rzV l).length=l.length*2
 | []=>rfl
 | p::r=>by simp[rzV,qdR r];omega
abbrev qgs (n:Nat) (l:List Rz):SV:=.row 26 2 n (rzV l)
theorem qhC:∀ {l:List Rz} {k:Nat} {m:Rz},l[k]?=some m→(rzV l)[k*2]?=some (iV m.n)∧(rzV l)[k*2+1]?=some (iV m.d)
 | [],k,p,h=>by simp at h
 | q::r,0,p,h=>by simp at h;subst h;exact⟨rfl,rfl⟩
 | q::r,k+1,p,h=>by
  have:=qhC (l:=r) (k:=k) (m:=p) (by simpa using h)
  rw[show (k+1)*2=k*2+1+1 by omega]
  exact this
theorem raZ {l:List Rz} {k:Nat} {n d:Int} (h:l[k]?=some ⟨n,d⟩):qj2 (rzV l) (0*2+k*2) [iV n,iV d]:=by
 obtain⟨h1,h2⟩:=qhC h
 intro j v hj
 rw[show 0*2+k*2+j=k*2+j by omega]
 match j,hj with
 | 0,hj=>cases hj;exact h1
 | 1,hj=>cases hj;exact h2
 | j+2,hj=>simp at hj
theorem qgl:∀ (l:List Rz) (k:Nat) (m:Rz),k<l.length→rzV (l.set k m)=qht (rzV l) (0*2+k*2) [iV m.n,iV m.d]
 | [],_,_,h=>by simp at h
 | q::r,0,m,_=>by simp[rzV,qht]
 | q::r,k+1,m,h=>by
  rw[show 0*2+(k+1)*2=(0*2+k*2)+1+1 by omega,List.set_cons_succ]
  show iV q.n::iV q.d::rzV (r.set k m)=_
  rw[qgl r k m (by simpa using h)]
  simp[rzV,qht]
theorem qlf (l:List Rz) (k:Nat) (h:k<l.length):0*2+k*2+2≤(rzV l).length:=by rw[qdR];omega
theorem qmb:∀ n:Nat,qc6 [iV 0,iV 0] n=rzV (List.replicate n ⟨0,0⟩)
 | 0=>rfl
 | n+1=>by rw[List.replicate_succ];show _::_::qc6 _ n=_;rw[qmb n];rfl
theorem qim (n:Nat):some (SV.row 26 2 n (qc6 [iV 0,iV 0] n))=some (qgs n (List.replicate n ⟨0,0⟩)):=by rw[qmb]
end Go.Proofs.Ytleaeldgaflmkaa

namespace Go.Proofs.Ytleaeldgaflmkaa
set_option maxRecDepth 100000
open Go.RowKit
theorem qnS {n1 d1 n2 d2 er:Int} (h1:Pure Try.prog 28 #[qaa n1 d1,qaa n2 d2] (.tuple #[iV er,iV 0])) (h2:decide (er<0)=true) :
 Pure Try.prog 18 #[qaa n1 d1,qaa n2 d2] (.bool true):=
 qac (args:=[qaa n1 d1,qaa n2 d2]) 300 [Rf h1,.t true]
  (Ai rfl (Ai h1 (Ai h2 tI))) (by kernel_rfl)
theorem qnz {n1 d1 n2 d2 er:Int} (h1:Pure Try.prog 28 #[qaa n1 d1,qaa n2 d2] (.tuple #[iV er,iV 0])) (h2:decide (er<0)=false) :
 Pure Try.prog 18 #[qaa n1 d1,qaa n2 d2] (.bool false):=
 qac (args:=[qaa n1 d1,qaa n2 d2]) 300 [Rf h1,.t false]
  (Ai rfl (Ai h1 (Ai h2 tI))) (by kernel_rfl)
abbrev qm3 (s:List Pt) (td:Int) (tn:Int) (ts:List Rz):HpL:=[(1,0,.ls 0 s.length),(2,0,.pv (iV tn)),(2,1,.pv (iV td)),(4,0,.ls 3 s.length),(0,0,qap s),(3,0,qgs s.length ts)]
theorem qjq {tn td n1 d1 er:Int} {s:List Pt} {p:Pt} {k:Nat} {ts:List Rz} (hlt:decide ((k:Int)<(s.length:Int))=true) (hin:0≤(k:Int)∧(k:Int)<(s.length:Int)) (hp:s[k]?=some p) (ha:Pure Try.prog 25 #[qae p.id p.a p.b,qaa tn td] (.tuple #[qaa n1 d1,iV er])) (hk:k<ts.length) (hs:iV (IntKind.i64.wrap ((k:Int)+1))=iV (((k+1:Nat):Int))) {e:Exit} {tm2:TmL} {hp2:HpL}
 (r:Rl 1 1 17 0 31 5 ([(2,.pp 1 0),(3,.pp 2 0),(5,.pp 4 0),(13,.ls 0 s.length),(14,.pv (iV (s.length:Int))),(15,.pv (iV ((k+1:Nat):Int)))]) ([(1,0,.ls 0 s.length),(2,0,.pv (iV tn)),(2,1,.pv (iV td)),(4,0,.ls 3 s.length),(0,0,qap s),(3,0,qgs s.length (ts.set k ⟨n1,d1⟩))]) e tm2 hp2):Rl 1 1 17 0 31 5 ([(2,.pp 1 0),(3,.pp 2 0),(5,.pp 4 0),(13,.ls 0 s.length),(14,.pv (iV (s.length:Int))),(15,.pv (iV (k:Int)))]) (qm3 s td tn ts) e tm2 hp2:=
 RunsL.next [] 300 [.t true,.r (ptV p),.gh [(4,0),(5,0),(5,1),(5,2),(2,0),(2,1)],Rf ha,.w (rzV (ts.set k ⟨n1,d1⟩)),Re hs]
  (Ro (Ai hlt (Ai hin (Ai (qdH hp) (Ai (Er (SV.ls 3 s.length)) (Ai (Er (SV.pv (iV p.id))) (Ai (Er (SV.pv (iV p.a))) (Ai (Er (SV.pv (iV p.b))) (Ai (Er (SV.pv (iV tn))) (Ai (Er (SV.pv (iV td))) (Ai ha (Ai (Er (SV.ls 3 s.length)) (Ai (Er (SV.pv (iV p.id))) (Ai (Er (SV.pv (iV p.a))) (Ai (Er (SV.pv (iV p.b))) (Ai (Er (SV.pv (iV tn))) (Ai (Er (SV.pv (iV td))) (Ai (Er (SV.ls 3 s.length)) (Ai (Er (SV.pv (iV p.id))) (Ai (Er (SV.pv (iV p.a))) (Ai (Er (SV.pv (iV p.b))) (Ai (Er (SV.pv (iV tn))) (Ai (Er (SV.pv (iV td))) (Ai hin (Ai (Er (SV.ls 3 s.length)) (Ai (Er (SV.pv (iV p.id))) (Ai (Er (SV.pv (iV p.a))) (Ai (Er (SV.pv (iV p.b))) (Ai (Er (SV.pv (iV tn))) (Ai (Er (SV.pv (iV td))) (Ai (qgl ts k ⟨n1,d1⟩ hk) (Ai (qlf ts k hk) (Ai (Er (SV.ls 3 s.length)) (Ai (Er (SV.pv (iV p.id))) (Ai (Er (SV.pv (iV p.a))) (Ai (Er (SV.pv (iV p.b))) (Ai (Er (SV.pv (iV tn))) (Ai (Er (SV.pv (iV td))) (Ai hs tI))))))))))))))))))))))))))))))))))))))) r
theorem qlN {tn td:Int} {s:List Pt} {k:Nat} {ts:List Rz} (hlt:decide ((k:Int)<(s.length:Int))=false):Rl 1 1 17 0 31 5 ([(2,.pp 1 0),(3,.pp 2 0),(5,.pp 4 0),(13,.ls 0 s.length),(14,.pv (iV (s.length:Int))),(15,.pv (iV (k:Int)))]) (qm3 s td tn ts) (.exit 0) ([(2,.pp 1 0),(5,.pp 4 0)]) (qm3 s td tn ts):=
 RunsL.stop [] 300 [.t false] (fun h=>by cases h)
  (Ro (Ai hlt tI))
theorem qmn {tn td:Int} {s:List Pt} {ts:List Rz} (n0:0≤(s.length:Int)) (n1l:(s.length:Int)≤1000000) (r0:Rl 1 1 17 0 31 5 ([(2,.pp 1 0),(3,.pp 2 0),(5,.pp 4 0),(13,.ls 0 s.length),(14,.pv (iV (s.length:Int))),(15,.pv (iV ((0:Nat):Int)))]) ([(1,0,.ls 0 s.length),(2,0,.pv (iV tn)),(2,1,.pv (iV td)),(4,0,.ls 3 s.length),(0,0,qap s),(3,0,qgs s.length (List.replicate s.length ⟨0,0⟩))]) (.exit 0) ([(2,.pp 1 0),(5,.pp 4 0)]) (qm3 s td tn ts)) :
 Fn 17 1 [qbl 0 s,.pv (qaa tn td)] [(0,0,qap s)] (.pc 26 [.pp 2 0,.pp 1 0]) 3 [(1,0,.ls 0 s.length),(2,0,.ls 3 s.length),(3,0,qgs s.length ts)]:=
 Fz [(2,4)] [Lf r0]
  (qh2 (qba [(2,4)]) [(1,0,.ls 0 s.length),(2,0,.ls 3 s.length),(3,0,qgs s.length ts)]) (Ai n0 (Ai (Eq.refl (s.length:Int)) (Ai n1l (Ai (Lt r0 []) (Ai (Ai (Er (SV.ls 0 s.length)) (Ai (Er (SV.pv (iV tn))) (Ai (Er (SV.pv (iV td))) (Ai (Er (SV.ls 3 s.length)) (Ai (Er (qap s)) (Ai (qim s.length) tI)))))) (Ai r0 tI))))))
abbrev qm4 (s:List Pt) (ts:List Rz):HpL:=[(0,0,qap s),(1,0,.ls 0 s.length),(2,0,.ls 3 s.length),(3,0,qgs s.length ts)]
theorem ppc {n1 d1 n2 d2 n3 d3 er e1:Int} {s:List Pt} {p q:Pt} {i j:Nat} {ts:List Rz} (ia:0≤(i:Int)∧(i:Int)<(s.length:Int)) (ib:0≤(j:Int)∧(j:Int)<(s.length:Int)) (ht:ts[i]?=some ⟨n1,d1⟩) (hu:ts[j]?=some ⟨n2,d2⟩) (hp:s[i]?=some p) (hq:s[j]?=some q) (cs:Pure Try.prog 27 #[qaa n1 d1,qaa n2 d2] (.tuple #[qaa n3 d3,iV er])) (hn:iV (IntKind.i64.wrap (0-n3))=iV (e1)) :
 Fn 26 4 [.pv (iV (i:Int)),.pv (iV (j:Int)),.pp 2 0,.pp 1 0] (qm4 s ts) (.pv (.agg #[iV p.id,iV q.id,iV (if e1>n3 then e1 else n3),iV d3])) 0 []:=
 Fz [] [.md,.r (qaa n1 d1),.r (qaa n2 d2),Rf cs,Re hn,.md,.r (iV p.id),.r (iV q.id)]
  tI (Ai ia (Ai (raZ ht) (Ai ib (Ai (raZ hu) (Ai cs (Ai hn (Ai ia (Ai (qc8 hp) (Ai ib (Ai (qc8 hq) tI))))))))))
abbrev qiT (bd:Int) (bn:Int) (s:List Pt) (ts:List Rz) (x1:Int) (x2:Int):HpL:=[(1,0,.ls 0 s.length),(3,0,.pv (iV 0)),(3,1,.pv (iV 0)),(3,2,.pv (iV 0)),(3,3,.pv (iV 0)),(4,0,.ls 0 s.length),(5,0,.ls 6 s.length),(7,0,.pv (iV x1)),(7,1,.pv (iV x2)),(7,2,.pv (iV bn)),(7,3,.pv (iV bd)),(0,0,qap s),(6,0,qgs s.length ts)]
abbrev qmY (d1:Int) (n1:Int) (s:List Pt) (ts:List Rz) (y1:Int) (y2:Int):HpL:=[(1,0,.ls 0 s.length),(3,0,.pv (iV 0)),(3,1,.pv (iV 0)),(3,2,.pv (iV 0)),(3,3,.pv (iV 0)),(4,0,.ls 0 s.length),(5,0,.ls 6 s.length),(7,0,.pv (iV y1)),(7,1,.pv (iV y2)),(7,2,.pv (iV n1)),(7,3,.pv (iV d1)),(0,0,qap s),(6,0,qgs s.length ts)]
abbrev qnw (a:Nat) (b:Nat) (s:List Pt):TmL:=[(2,.pp 1 0),(4,.pp 3 0),(5,.pc 26 [.pp 5 0,.pp 4 0]),(6,.pp 7 0),(17,.pv (iV (s.length:Int))),(18,.pv (iV (a:Int))),(7,.pv (iV (a:Int))),(8,.pv (iV (b:Int)))]
abbrev qn9 (a:Nat) (b:Nat) (s:List Pt):TmL:=[(2,.pp 1 0),(4,.pp 3 0),(5,.pc 26 [.pp 5 0,.pp 4 0]),(6,.pp 7 0),(17,.pv (iV (s.length:Int))),(18,.pv (iV (a:Int))),(7,.pv (iV (a:Int))),(8,.pv (iV ((b+1:Nat):Int)))]
theorem qjA {n1 d1 bn bd x1 x2 y1 y2:Int} {s:List Pt} {a b:Nat} {ts:List Rz} (hlt:decide ((b:Int)<(s.length:Int))=true) (hc:Fn 26 4 [.pv (iV (a:Int)),.pv (iV (b:Int)),.pp 2 0,.pp 1 0] (qm4 s ts) (.pv (.agg #[iV y1,iV y2,iV n1,iV d1])) 0 []) (cc:Pure Try.prog 18 #[qaa n1 d1,qaa bn bd] (.bool true)) (hs:iV (IntKind.i64.wrap ((b:Int)+1))=iV (((b+1:Nat):Int))) {e:Exit} {tm2:TmL} {hp2:HpL}
 (r:Rl 1 1 10 1 42 8 (qn9 a b s) (qmY d1 n1 s ts y1 y2) e tm2 hp2):Rl 1 1 10 1 42 8 (qnw a b s) (qiT bd bn s ts x1 x2) e tm2 hp2:=
 RunsL.next [] 300 [.t true,Cf hc [0,4,5,6],Rf cc,Re hs]
  (Ro (Ai hlt (Co hc [0,4,5,6] 8 (Ai cc (Ai hs tI))))) r
theorem qjv {n1 d1 bn bd x1 x2 y1 y2:Int} {s:List Pt} {a b:Nat} {ts:List Rz} (hlt:decide ((b:Int)<(s.length:Int))=true) (hc:Fn 26 4 [.pv (iV (a:Int)),.pv (iV (b:Int)),.pp 2 0,.pp 1 0] (qm4 s ts) (.pv (.agg #[iV y1,iV y2,iV n1,iV d1])) 0 []) (cc:Pure Try.prog 18 #[qaa n1 d1,qaa bn bd] (.bool false)) (hs:iV (IntKind.i64.wrap ((b:Int)+1))=iV (((b+1:Nat):Int))) {e:Exit} {tm2:TmL} {hp2:HpL}
 (r:Rl 1 1 10 1 42 8 (qn9 a b s) (qiT bd bn s ts x1 x2) e tm2 hp2):Rl 1 1 10 1 42 8 (qnw a b s) (qiT bd bn s ts x1 x2) e tm2 hp2:=
 RunsL.next [] 300 [.t true,Cf hc [0,4,5,6],Rf cc,Re hs]
  (Ro (Ai hlt (Co hc [0,4,5,6] 8 (Ai cc (Ai hs tI))))) r
abbrev qof (a:Nat) (s:List Pt):TmL:=[(2,.pp 1 0),(4,.pp 3 0),(5,.pc 26 [.pp 5 0,.pp 4 0]),(6,.pp 7 0),(17,.pv (iV (s.length:Int))),(18,.pv (iV (a:Int))),(7,.pv (iV (a:Int)))]
theorem qiX {bn bd x1 x2:Int} {s:List Pt} {a b:Nat} {ts:List Rz} (hlt:decide ((b:Int)<(s.length:Int))=false):Rl 1 1 10 1 42 8 (qnw a b s) (qiT bd bn s ts x1 x2) (.exit 2) (qof a s) (qiT bd bn s ts x1 x2):=
 RunsL.stop [] 300 [.t false] (fun h=>by cases h)
  (Ro (Ai hlt tI))
abbrev qod (a:Nat) (s:List Pt):TmL:=[(2,.pp 1 0),(4,.pp 3 0),(5,.pc 26 [.pp 5 0,.pp 4 0]),(6,.pp 7 0),(17,.pv (iV (s.length:Int))),(18,.pv (iV (a:Int)))]
theorem qiV {n1 d1 bn bd x1 x2 y1 y2:Int} {s:List Pt} {a:Nat} {ts:List Rz} (hlt:decide ((a:Int)<(s.length:Int))=true) (ha:iV (IntKind.i64.wrap ((a:Int)+1))=iV (((a+1:Nat):Int))) (r0:Rl 1 1 10 1 42 8 ([(2,.pp 1 0),(4,.pp 3 0),(5,.pc 26 [.pp 5 0,.pp 4 0]),(6,.pp 7 0),(17,.pv (iV (s.length:Int))),(18,.pv (iV (a:Int))),(7,.pv (iV (a:Int))),(8,.pv (iV ((a+1:Nat):Int)))]) (qiT bd bn s ts x1 x2) (.exit 2) (qof a s) (qmY d1 n1 s ts y1 y2)) (hb:iV (IntKind.i64.wrap ((a:Int)+1))=iV (((a+1:Nat):Int))) {e:Exit} {tm2:TmL} {hp2:HpL}
 (r:Rl 1 1 10 0 42 8 ([(2,.pp 1 0),(4,.pp 3 0),(5,.pc 26 [.pp 5 0,.pp 4 0]),(6,.pp 7 0),(17,.pv (iV (s.length:Int))),(18,.pv (iV ((a+1:Nat):Int)))]) (qmY d1 n1 s ts y1 y2) e tm2 hp2):Rl 1 1 10 0 42 8 (qod a s) (qiT bd bn s ts x1 x2) e tm2 hp2:=
 RunsL.next [] 300 [.t true,Re ha,Lf r0,Re ha]
  (Ro (Ai hlt (Ai ha (Lo r0 [] (Ai hb tI))))) r
theorem qle {bn bd x1 x2:Int} {s:List Pt} {a:Nat} {ts:List Rz} (hlt:decide ((a:Int)<(s.length:Int))=false):Rl 1 1 10 0 42 8 (qod a s) (qiT bd bn s ts x1 x2) (.exit 0) ([(2,.pp 1 0),(4,.pp 3 0),(5,.pc 26 [.pp 5 0,.pp 4 0]),(6,.pp 7 0)]) (qiT bd bn s ts x1 x2):=
 RunsL.stop [] 300 [.t false] (fun h=>by cases h)
  (Ro (Ai hlt tI))
theorem qmK {tn td n1 d1 bn bd x1 x2 y1 y2:Int} {s:List Pt} {ts:List Rz} (hp:Fn 17 1 [qbl 0 s,.pv (qaa tn td)] [(0,0,qap s)] (.pc 26 [.pp 2 0,.pp 1 0]) 3 [(1,0,.ls 0 s.length),(2,0,.ls 3 s.length),(3,0,qgs s.length ts)]) (hc:Fn 26 4 [.pv (iV ((0:Nat):Int)),.pv (iV ((1:Nat):Int)),.pp 2 0,.pp 1 0] (qm4 s ts) (.pv (.agg #[iV x1,iV x2,iV bn,iV bd])) 0 []) (r0:Rl 1 1 10 0 42 8 ([(2,.pp 1 0),(4,.pp 3 0),(5,.pc 26 [.pp 5 0,.pp 4 0]),(6,.pp 7 0),(17,.pv (iV (s.length:Int))),(18,.pv (iV ((0:Nat):Int)))]) (qiT bd bn s ts x1 x2) (.exit 0) ([(2,.pp 1 0),(4,.pp 3 0),(5,.pc 26 [.pp 5 0,.pp 4 0]),(6,.pp 7 0)]) (qmY d1 n1 s ts y1 y2)) :
 Fn 10 1 [qbl 0 s,.pv (qaa tn td)] [(0,0,qap s)] (.pv (.agg #[iV y1,iV y2,iV n1,iV d1])) 0 []:=
 Fz [] [Cf hp [0],Cf hc [0,4,5,6],Lf r0]
  tI (Co hp [0] 4 (Co hc [0,4,5,6] 7 (Lo r0 [] tI)))
theorem qnf {tn td e1 e2:Int} {s:List Pt} (hc:Fn 8 1 [qbl 0 s] [(0,0,qap s)] (.pv (iV (e1))) 0 []) (ha:Pure Try.prog 9 #[qaa tn td] (iV (e2))) (he:(e1 !=0)=true) :
 Fn 5 1 [qbl 0 s,.pv (qaa tn td)] [(0,0,qap s)] (.pv (.tuple #[iV 0,iV 0,qaa 0 0,iV e1])) 0 []:=
 Fz [] [.md,Cf hc [0],Rf ha,.k,.k,.t true,.t true]
  tI (Co hc [0] 4 (Ai ha (Ai he (Ai he tI))))
abbrev qnW (s:List Pt):Prop:=Fn 8 1 [qbl 0 s] [(0,0,qap s)] (.pv (iV (0))) 0 []
theorem qnj {tn td e2:Int} {s:List Pt} (hc:qnW s) (ha:Pure Try.prog 9 #[qaa tn td] (iV (e2))) (he:(e2 !=0)=true) :
 Fn 5 1 [qbl 0 s,.pv (qaa tn td)] [(0,0,qap s)] (.pv (.tuple #[iV 0,iV 0,qaa 0 0,iV e2])) 0 []:=
 Fz [] [.md,Cf hc [0],Rf ha,.k,.k,.k,.k,.k,.t true,.t true]
  tI (Co hc [0] 4 (Ai ha (Ai he (Ai he tI))))
theorem qnT {tn td:Int} {s:List Pt} (hc:qnW s) (ha:Pure Try.prog 9 #[qaa tn td] (iV (0))) (hl:decide ((s.length:Int)<2)=true) :
 Fn 5 1 [qbl 0 s,.pv (qaa tn td)] [(0,0,qap s)] (.pv (.tuple #[iV 0,iV 0,qaa 0 0,iV 42])) 0 []:=
 Fz [] [.md,Cf hc [0],Rf ha,.k,.k,.k,.k,.k,.k,.k,.k,.k,.t true]
  tI (Co hc [0] 4 (Ai ha (Ai hl tI)))
theorem qnB {tn td bn bd x1 x2:Int} {s:List Pt} (hc:qnW s) (ha:Pure Try.prog 9 #[qaa tn td] (iV (0))) (hl:decide ((s.length:Int)<2)=false) (hp:Fn 10 1 [qbl 0 s,.pv (qaa tn td)] [(0,0,qap s)] (.pv (.agg #[iV x1,iV x2,iV bn,iV bd])) 0 []) :
 Fn 5 1 [qbl 0 s,.pv (qaa tn td)] [(0,0,qap s)] (.pv (.tuple #[iV x1,iV x2,qaa bn bd,iV 0])) 0 []:=
 Fz [] [.md,Cf hc [0],Rf ha,.k,.k,.k,.k,.k,.k,.k,.k,.k,.t false,Cf hp [0],.md]
  tI (Co hc [0] 4 (Ai ha (Ai hl (Co hp [0] 4 tI))))
end Go.Proofs.Ytleaeldgaflmkaa

namespace Go.Proofs.Ytleaeldgaflmkaa
set_option maxRecDepth 100000
open Go.RowKit
theorem qjg {s d:Int} (hs:s.natAbs<340282366920938463463374607431768211456) (hd:I64 d) (d0:0<d):∃ N D E,IsRes s d N D E∧Pure Try.prog 62 #[qbI s,.int .i64 d] (.tuple #[qaa N D,.int .i64 E]):=by
 unfold I64 at hd
 obtain⟨dn,rfl⟩:∃ n:Nat,d=n:=⟨d.natAbs,by omega⟩
 obtain⟨g,hg⟩:∃ g,g=Nat.gcd dn (s.natAbs%dn):=⟨_,rfl⟩
 have hg2:g=Nat.gcd s.natAbs dn:=by rw[hg,Nat.gcd_comm dn (s.natAbs%dn),← Nat.gcd_rec,Nat.gcd_comm]
 have g0:0<g:=hg▸Nat.gcd_pos_of_pos_left _ (by omega)
 have gl:g≤dn:=hg▸Nat.gcd_le_left _ (by omega)
 have ml:s.natAbs%dn<dn:=Nat.mod_lt _ (by omega)
 have q1:=qda (decide (s<0)) s.natAbs dn hs (by omega) (by omega)
 have q2:=qda (decide (s<0)) s.natAbs g hs g0 (by omega)
 have gk:=qbm dn (s.natAbs%dn) g (by omega) (by omega) hg
 obtain⟨x,hx⟩:∃ x,x=s.natAbs/g:=⟨_,rfl⟩
 obtain⟨y,hy⟩:∃ y,y=dn/g:=⟨_,rfl⟩
 have ax:s.natAbs=g*x:=by rw[hx,hg2];exact (Nat.mul_div_cancel' (Nat.gcd_dvd_left _ _)).symm
 have bY:dn=g*y:=by rw[hy,hg2];exact (Nat.mul_div_cancel' (Nat.gcd_dvd_right _ _)).symm
 have hxy:Nat.gcd x y=1:=by rw[hx,hy,hg2];exact Nat.gcd_div_gcd_div_gcd_of_pos_right (by omega)
 have y0:0<y:=by
  rcases Nat.eq_zero_or_pos y with e | e
  ·rw[e,Nat.mul_zero] at bY;omega
  ·exact e
 have ly:=Nat.div_le_self dn g
 rw[← hy] at ly
 have md:=qa8 (decide (s<0)) false false x y
 rw[qi2 (x:=y) (by omega)] at md
 have q3:=qlP (x:=dn) (y:=g) (by omega)
 rw[← hy] at q3
 rw[← hx] at q2
 refine⟨_,_,_,?_,qiA (qfu (by omega) (by omega)) q1 gk q2 (by omega) q3 md⟩
 have cx:(x:Int)*((g*y:Nat):Int)=((g*x:Nat):Int)*(y:Int):=by rw[← Int.natCast_mul,← Int.natCast_mul];congr 1;rw[Nat.mul_left_comm,Nat.mul_assoc]
 have sU:¬ (y:Int)<0:=by omega
 by_cases sg:s<0
 ·have x0:0<x:=by
   rcases Nat.eq_zero_or_pos x with e | e
   ·rw[e,Nat.mul_zero] at ax;omega
   ·exact e
  have:=qbW (p:=s) (q:=(dn:Int)) (T:=-(x:Int)) (U:=(y:Int)) (by omega) (by omega) (by rw[Int.natAbs_neg,Int.natAbs_natCast,Int.natAbs_natCast];exact hxy) (by
   rw[show s = -((g*x:Nat):Int) by omega,bY,Int.neg_mul,Int.neg_mul,cx])
  rw[Int.natAbs_neg,Int.natAbs_natCast,Int.natAbs_natCast,dt (show -(x:Int)<0 by omega),df sU,qeh (U:=y) (fun h=>by simp only[Bool.and_eq_true] at h;simpa [qaC] using h.2)] at this
  rw[dt sg]
  exact this
 ·have:=qbW (p:=s) (q:=(dn:Int)) (T:=(x:Int)) (U:=(y:Int)) (by omega) (by omega) (by rw[Int.natAbs_natCast,Int.natAbs_natCast];exact hxy) (by
   rw[show s=((g*x:Nat):Int) by omega,bY,cx])
  rw[Int.natAbs_natCast,Int.natAbs_natCast,df (show ¬ (x:Int)<0 by omega),df sU,qeh (U:=y) (fun h=>by simp only[Bool.and_eq_true] at h;simpa [qaC] using h.2)] at this
  rw[df sg]
  exact this
theorem qlv {pi pa pb n d:Int} (hn:I64 n) (hd:I64 d) (hp:okP pi pa pb=true) (ht:okB n d=true) :
 ∃ N D E,IsRes (pa*d+pb*n) d N D E∧Pure Try.prog 46 #[qae pi pa pb,qaa n d] (.tuple #[qaa N D,iV E]):=by
 have hp':=qcd.1 hp
 have d1:=qaz ht
 have c1:=qcb hp
 have c2:=qhv hn hd ht
 have iA:I64 pa:=by unfold I64;omega
 have iB:I64 pb:=by unfold I64;omega
 have i1:I64 1:=by unfold I64;omega
 have oB:okB pb 1=true:=qeV (by omega)
 have oA:okB pa 1=true:=qeV (by omega)
 have mr:=qlj (a:=pb) (b:=1) (c:=n) (d:=d) oB ht
 have hm:=qjE iB i1 hn hd oB ht
 generalize muN pb 1 n d=N1 at *
 generalize muD pb 1 n d=D1 at *
 generalize qeF (muF pb 1 n d)=E1 at *
 rw[Int.one_mul] at mr
 rcases mr with ⟨rfl,k1,j1,j2,e1⟩ | ⟨rfl,rfl,rfl,_⟩
 ·have D0:=qaz k1
  have hadd:=qgc iA i1 j1 j2 oA k1
  have hres:=(qfR oA k1).congr (p':=pa*d+pb*n) (q':=d) (by omega) (by omega) (by
   rw[Int.one_mul,Int.mul_one,Int.add_mul,Int.add_mul,e1,Int.mul_right_comm pa D1 d])
  exact⟨_,_,_,hres,qkO c1 c2 hm hadd⟩
 ·have p1:=qaT pa d iA hd
  have p2:=qaT pb n iB hn
  have b1:(pa*d).natAbs≤1048576*9223372036854775808:=by rw[Int.natAbs_mul];unfold I64 at hd;exact Nat.mul_le_mul (by omega) (by omega)
  have b2:(pb*n).natAbs≤1048576*9223372036854775808:=by rw[Int.natAbs_mul];unfold I64 at hn;exact Nat.mul_le_mul (by omega) (by omega)
  have p3:=qeP (pa*d) (pb*n) (by omega) (by omega)
  obtain⟨N,D,E,hr,ho⟩:=qjg (s:=pa*d+pb*n) (d:=d) (by omega) hd (by omega)
  exact⟨N,D,E,hr,qjW c1 c2 hm p1 p2 p3 ho⟩
end Go.Proofs.Ytleaeldgaflmkaa

namespace Go.Proofs.Ytleaeldgaflmkaa
set_option maxRecDepth 100000
open Go.RowKit
def qcF (p:Pt):Bool:=okP p.id p.a p.b
def Up (l:List Pt):Prop:=∀ (k:Nat) (p q:Pt),l[k]?=some p→l[k+1]?=some q→p.id<q.id
noncomputable def qdI (l:List Pt):Int:=open Classical in if 64<l.length then 4 else if ∀ p∈l,qcF p=true then (if Up l then 0 else 32) else 8
theorem qcA (P:Nat→Prop):∀ (N:Nat),(∀ k,k<N→P k)∨∃ j,j<N∧¬ P j∧∀ i,i<j→P i
 | 0=>Or.inl fun k hk=>by omega
 | N+1=>by
  rcases qcA P N with h | ⟨j,h1,h2⟩
  ·by_cases hN:P N
   ·exact Or.inl fun k hk=>by
     rcases Nat.lt_or_ge k N with h' | h'
     ·exact h k h'
     ·have:k=N:=by omega
      subst this;exact hN
   ·exact Or.inr ⟨N,by omega,hN,h⟩
  ·exact Or.inr ⟨j,by omega,h2⟩
theorem qaN {α:Type} {l:List α} {k:Nat} (h:k<l.length):∃ p,l[k]?=some p:=⟨l[k],List.getElem?_eq_getElem h⟩
theorem qbS {α:Type} {l:List α} {k:Nat} {p:α} (h:l[k]?=some p):k<l.length:=(List.getElem?_eq_some_iff.1 h).1
theorem qbO {k n:Nat} (h:k<n):0≤(k:Int)∧(k:Int)<(n:Int):=⟨by omega,by omega⟩
theorem Up.mono {l:List Pt} (h:Up l):∀ {i j:Nat} {p q:Pt},i<j→l[i]?=some p→l[j]?=some q→p.id<q.id:=by
 intro i j
 induction j with
 | zero=>intro p q hij;omega
 | succ j ih=>
  intro p q hij hp hq
  by_cases e:i=j
  ·subst e;exact h i p q hp hq
  ·obtain⟨r,hr⟩:=qaN (l:=l) (k:=j) (by have:=qbS hq;omega)
   exact Int.lt_trans (ih (by omega) hp hr) (h j r q hr hq)
theorem qko {k n:Nat} (h:k<n) (hn:n≤64):iV (IntKind.i64.wrap ((k:Int)+1))=iV ((k+1:Nat):Int):=qa1 (by omega)
theorem qgy {l:List Pt} (hn:l.length≤64) (h:∀ p∈l,qcF p=true):Rl 1 1 11 0 44 2 [(1,.pp 1 0),(3,.pv (iV ((0:Nat):Int)))] [(1,0,.ls 0 l.length),(0,0,qap l)] (.exit 0) [(1,.pp 1 0)] [(1,0,.ls 0 l.length),(0,0,qap l)]:=
 RunsL.rounds (fun k=>[(1,.pp 1 0),(3,.pv (iV (k:Int)))]) (fun _=>[(1,0,.ls 0 l.length),(0,0,qap l)]) l.length 0 (Nat.zero_add _)
  (fun k _ hk r=>by
   obtain⟨p,hp⟩:=qaN hk
   exact qgt hp (qbO hk) (dt (by omega)) (qcb (h p (List.mem_of_getElem? hp))) (qko hk hn) r)
  (qk9 (df (by omega)))
theorem qeW {l:List Pt} (hn:l.length≤64) {j:Nat} {p:Pt} (hp:l[j]?=some p) (hb:¬ qcF p=true) (h:∀ i,i<j→∀ q,l[i]?=some q→qcF q=true):Rl 1 1 11 0 44 2 [(1,.pp 1 0),(3,.pv (iV ((0:Nat):Int)))] [(1,0,.ls 0 l.length),(0,0,qap l)] .ret [(2,.pv (iV 8))] []:=by
 have hj:=qbS hp
 refine RunsL.rounds (fun k=>[(1,.pp 1 0),(3,.pv (iV (k:Int)))]) (fun _=>[(1,0,.ls 0 l.length),(0,0,qap l)]) j 0 (Nat.zero_add _) (fun k _ hk r=>?_) (qlI hp (qbO hj) (dt (by omega)) (qe9 hb))
 obtain⟨q,hq⟩:=qaN (l:=l) (k:=k) (by omega)
 exact qgt hq (qbO (qbS hq)) (dt (by omega)) (qcb (h k hk q hq)) (qko (qbS hq) hn) r
theorem qbX (k:Nat) (h:k≤1000000):iV (IntKind.i64.wrap (((k+1:Nat):Int)-1))=iV (k:Int):=by rw[show ((k+1:Nat):Int)-1=(k:Int) by omega,qao (by omega) (by omega)]
theorem qjD {l:List Pt} (hn:l.length≤64) (h:Up l):Rl 1 1 11 1 44 2 [(1,.pp 1 0),(4,.pv (iV ((0+1:Nat):Int)))] [(1,0,.ls 0 l.length),(0,0,qap l)] (.exit 2) [] []:=by
 by_cases h0:l.length=0
 ·exact qhD (k:=0+1) (df (by omega))
 refine RunsL.rounds (fun k=>[(1,.pp 1 0),(4,.pv (iV (k:Int)))]) (fun _=>[(1,0,.ls 0 l.length),(0,0,qap l)]) (N:=l.length) (l.length-1) (0+1) (by omega) (fun k h1 hk r=>?_) (qhD (df (by omega)))
 obtain⟨m,rfl⟩:∃ m,k=m+1:=⟨k-1,by omega⟩
 obtain⟨q,hq⟩:=qaN (l:=l) (k:=m) (by omega)
 obtain⟨p,hp⟩:=qaN hk
 exact qf5 hq hp (qbO (by omega)) (qbO hk) (dt (by omega)) (qbX m (by omega)) (df (by have:=h m q p hq hp;omega)) (qko hk hn) r
theorem qeU {l:List Pt} (hn:l.length≤64) {j:Nat} {p q:Pt} (hq:l[j]?=some q) (hp:l[j+1]?=some p) (hb:¬ q.id<p.id) (h:∀ i,i<j→∀ p q,l[i]?=some p→l[i+1]?=some q→p.id<q.id):Rl 1 1 11 1 44 2 [(1,.pp 1 0),(4,.pv (iV ((0+1:Nat):Int)))] [(1,0,.ls 0 l.length),(0,0,qap l)] .ret [(2,.pv (iV 32))] []:=by
 have hj:=qbS hp
 refine RunsL.rounds (fun k=>[(1,.pp 1 0),(4,.pv (iV (k:Int)))]) (fun _=>[(1,0,.ls 0 l.length),(0,0,qap l)]) (N:=j+1) j (0+1) (by omega) (fun k h1 hk r=>?_) (qk1 hq hp (qbO (by omega)) (qbO hj) (dt (by omega)) (qbX j (by omega)) (dt (by omega)))
 obtain⟨m,rfl⟩:∃ m,k=m+1:=⟨k-1,by omega⟩
 obtain⟨q',hq'⟩:=qaN (l:=l) (k:=m) (by omega)
 obtain⟨p',hp'⟩:=qaN (l:=l) (k:=m+1) (by omega)
 exact qf5 hq' hp' (qbO (by omega)) (qbO (by omega)) (dt (by omega)) (qbX m (by omega)) (df (by have:=h m (by omega) q' p' hq' hp';omega)) (qko (n:=l.length) (by omega) hn) r
theorem qdq (l:List Pt):(64<l.length∧qdI l=4)∨(l.length≤64∧(∃ (j:Nat) (p:Pt),l[j]?=some p∧¬ qcF p=true∧∀ i,i<j→∀ q,l[i]?=some q→qcF q=true)∧qdI l=8)∨
 (l.length≤64∧(∀ p∈l,qcF p=true)∧(∃ (j:Nat) (p q:Pt),l[j]?=some q∧l[j+1]?=some p∧¬ q.id<p.id∧∀ i,i<j→∀ p q,l[i]?=some p→l[i+1]?=some q→p.id<q.id)∧qdI l=32)∨
 (l.length≤64∧(∀ p∈l,qcF p=true)∧Up l∧qdI l=0):=by
 by_cases h0:64<l.length
 ·exact Or.inl ⟨h0,by unfold qdI;rw[if_pos h0]⟩
 refine Or.inr ?_
 by_cases h1:∀ p∈l,qcF p=true
 ·refine Or.inr ?_
  by_cases h2:Up l
  ·exact Or.inr ⟨by omega,h1,h2,by unfold qdI;rw[if_neg h0,if_pos h1,if_pos h2]⟩
  ·refine Or.inl ⟨by omega,h1,?_,by unfold qdI;rw[if_neg h0,if_pos h1,if_neg h2]⟩
   rcases qcA (fun k=>∀ p q,l[k]?=some p→l[k+1]?=some q→p.id<q.id) l.length with h | ⟨j,hj,hn,hb⟩
   ·exact (h2 fun k p q hp hq=>h k (qbS hp) p q hp hq).elim
   ·simp only[Classical.not_forall,not_imp] at hn
    obtain⟨p,q,hp,hq,hpq⟩:=hn
    exact⟨j,q,p,hp,hq,hpq,hb⟩
 ·refine Or.inl ⟨by omega,?_,by unfold qdI;rw[if_neg h0,if_neg h1]⟩
  rcases qcA (fun k=>∀ q,l[k]?=some q→qcF q=true) l.length with h | ⟨j,hj,hn,hb⟩
  ·exact (h1 fun p hp=>by obtain⟨k,hk,rfl⟩:=List.getElem_of_mem hp;exact h k hk _ (List.getElem?_eq_getElem hk)).elim
  ·simp only[Classical.not_forall,not_imp] at hn
   obtain⟨p,hp,hpq⟩:=hn
   exact⟨j,p,hp,hpq,hb⟩
theorem qhj (l:List Pt):Fn 11 1 [qbl 0 l] [(0,0,qap l)] (.pv (iV (qdI l))) 0 []:=by
 rcases qdq l with ⟨h,e⟩ | ⟨h,⟨j,p,hp,hb,hf⟩,e⟩ | ⟨h,h1,⟨j,p,q,hq,hp,hb,hf⟩,e⟩ | ⟨h,h1,h2,e⟩<;>rw[e]
 ·exact qlq (dt (by omega))
 ·exact qmr (df (by omega)) (qeW h hp hb hf)
 ·exact ql6 (df (by omega)) (qgy h h1) (qeU h hq hp hb hf)
 ·exact qn2 (df (by omega)) (qgy h h1) (qjD h h2)
abbrev pcT (l:List Pt) (k:Nat):List (Nat×SV):=[(1,.pp 1 0),(12,.ls 0 l.length),(13,.pv (iV (l.length:Int))),(14,.pv (iV (k:Int)))]
theorem qfW {l:List Pt} (hn:l.length≤64) (h:∀ p∈l,qcF p=true):Rl 1 1 8 0 45 2 (pcT l 0) [(1,0,.ls 0 l.length),(0,0,qap l)] (.exit 0) [(1,.pp 1 0)] [(1,0,.ls 0 l.length),(0,0,qap l)]:=
 RunsL.rounds (pcT l) (fun _=>[(1,0,.ls 0 l.length),(0,0,qap l)]) l.length 0 (Nat.zero_add _)
  (fun k _ hk r=>by
   obtain⟨p,hp⟩:=qaN hk
   exact qgd hp (qbO hk) (dt (by omega)) (qcL (h p (List.mem_of_getElem? hp))) (qko hk hn) r)
  (qk7 (df (by omega)))
theorem qeJ {l:List Pt} (hn:l.length≤64) {j:Nat} {p:Pt} (hp:l[j]?=some p) (hb:¬ qcF p=true) (h:∀ i,i<j→∀ q,l[i]?=some q→qcF q=true):Rl 1 1 8 0 45 2 (pcT l 0) [(1,0,.ls 0 l.length),(0,0,qap l)] .ret [(2,.pv (iV 8))] []:=by
 have hj:=qbS hp
 refine RunsL.rounds (pcT l) (fun _=>[(1,0,.ls 0 l.length),(0,0,qap l)]) j 0 (Nat.zero_add _) (fun k _ hk r=>?_) (qkL hp (qbO hj) (dt (by omega)) (qfl hb))
 obtain⟨q,hq⟩:=qaN (l:=l) (k:=k) (by omega)
 exact qgd hq (qbO (qbS hq)) (dt (by omega)) (qcL (h k hk q hq)) (qko (qbS hq) hn) r
theorem qjJ {l:List Pt} (hn:l.length≤64) (h:Up l):Rl 1 1 8 1 45 2 [(1,.pp 1 0),(6,.pv (iV ((0+1:Nat):Int)))] [(1,0,.ls 0 l.length),(0,0,qap l)] (.exit 2) [] []:=by
 by_cases h0:l.length=0
 ·exact qhI (k:=0+1) (df (by omega))
 refine RunsL.rounds (fun k=>[(1,.pp 1 0),(6,.pv (iV (k:Int)))]) (fun _=>[(1,0,.ls 0 l.length),(0,0,qap l)]) (N:=l.length) (l.length-1) (0+1) (by omega) (fun k h1 hk r=>?_) (qhI (df (by omega)))
 obtain⟨m,rfl⟩:∃ m,k=m+1:=⟨k-1,by omega⟩
 obtain⟨q,hq⟩:=qaN (l:=l) (k:=m) (by omega)
 obtain⟨p,hp⟩:=qaN hk
 exact qgz hq hp (qbO (by omega)) (qbO hk) (dt (by omega)) (qbX m (by omega)) (df (by have:=h m q p hq hp;omega)) (qko hk hn) r
theorem qeS {l:List Pt} (hn:l.length≤64) {j:Nat} {p q:Pt} (hq:l[j]?=some q) (hp:l[j+1]?=some p) (hb:¬ q.id<p.id) (h:∀ i,i<j→∀ p q,l[i]?=some p→l[i+1]?=some q→p.id<q.id):Rl 1 1 8 1 45 2 [(1,.pp 1 0),(6,.pv (iV ((0+1:Nat):Int)))] [(1,0,.ls 0 l.length),(0,0,qap l)] .ret [(2,.pv (iV 32))] []:=by
 have hj:=qbS hp
 refine RunsL.rounds (fun k=>[(1,.pp 1 0),(6,.pv (iV (k:Int)))]) (fun _=>[(1,0,.ls 0 l.length),(0,0,qap l)]) (N:=j+1) j (0+1) (by omega) (fun k h1 hk r=>?_) (qkP hq hp (qbO (by omega)) (qbO hj) (dt (by omega)) (qbX j (by omega)) (dt (by omega)))
 obtain⟨m,rfl⟩:∃ m,k=m+1:=⟨k-1,by omega⟩
 obtain⟨q',hq'⟩:=qaN (l:=l) (k:=m) (by omega)
 obtain⟨p',hp'⟩:=qaN (l:=l) (k:=m+1) (by omega)
 exact qgz hq' hp' (qbO (by omega)) (qbO (by omega)) (dt (by omega)) (qbX m (by omega)) (df (by have:=h m (by omega) q' p' hq' hp';omega)) (qko (n:=l.length) (by omega) hn) r
theorem qgC (l:List Pt):Fn 8 1 [qbl 0 l] [(0,0,qap l)] (.pv (iV (qdI l))) 0 []:=by
 rcases qdq l with ⟨h,e⟩ | ⟨h,⟨j,p,hp,hb,hf⟩,e⟩ | ⟨h,h1,⟨j,p,q,hq,hp,hb,hf⟩,e⟩ | ⟨h,h1,h2,e⟩<;>rw[e]
 ·exact qkZ (dt (by omega))
 ·exact qmO (df (by omega)) (qeJ h hp hb hf)
 ·exact qmB (df (by omega)) (qfW h h1) (qeS h hq hp hb hf)
 ·exact qne (df (by omega)) (qfW h h1) (qjJ h h2)
structure Val (l:List Pt):Prop where
 len:l.length≤64
 ok:∀ p∈l,qcF p=true
 up:Up l
theorem qfS {l:List Pt}:qdI l=0↔Val l:=by
 rcases qdq l with ⟨h,e⟩ | ⟨h,⟨j,p,hp,hb,hf⟩,e⟩ | ⟨h,h1,⟨j,p,q,hq,hp,hb,hf⟩,e⟩ | ⟨h,h1,h2,e⟩<;>rw[e]
 ·exact⟨fun h=>by omega,fun v=>by have:=v.len;omega⟩
 ·exact⟨fun h=>by omega,fun v=>(hb (v.ok p (List.mem_of_getElem? hp))).elim⟩
 ·exact⟨fun h=>by omega,fun v=>(hb (v.up j q p hq hp)).elim⟩
 ·exact⟨fun _=>⟨h,h1,h2⟩,fun _=>rfl⟩
theorem place (l:List Pt) (hv:Val l) (id:Int):(∃ (k:Nat) (p:Pt),l[k]?=some p∧p.id=id)∨((∀ p∈l,p.id≠id)∧∃ k,k≤l.length∧(∀ (t:Nat) (p:Pt),t<k→l[t]?=some p→p.id<id)∧∀ (t:Nat) (p:Pt),k≤t→l[t]?=some p→id<p.id):=by
 by_cases h:∃ (k:Nat) (p:Pt),l[k]?=some p∧p.id=id
 ·exact Or.inl h
 ·refine Or.inr ⟨fun p hp e=>?_,?_⟩
  ·obtain⟨k,hk,rfl⟩:=List.getElem_of_mem hp
   exact h ⟨k,_,List.getElem?_eq_getElem hk,e⟩
  ·rcases qcA (fun k=>∀ p,l[k]?=some p→p.id<id) l.length with hh | ⟨j,hj,hn,hb⟩
   ·exact⟨l.length,Nat.le_refl _,fun t p ht hp=>hh t ht p hp,fun t p ht hp=>by have:=qbS hp;omega⟩
   ·refine⟨j,by omega,fun t p ht hp=>hb t ht p hp,fun t p ht hp=>?_⟩
    simp only[Classical.not_forall,not_imp] at hn
    obtain⟨q,hq,hlt⟩:=hn
    have hne:q.id≠id:=fun e=>h ⟨j,q,hq,e⟩
    rcases Nat.lt_or_ge j t with h' | h'
    ·have:=hv.up.mono h' hq hp;omega
    ·have:t=j:=by omega
     subst this
     rw[hq] at hp
     cases hp
     omega
end Go.Proofs.Ytleaeldgaflmkaa

namespace Go.Proofs.Ytleaeldgaflmkaa
set_option maxRecDepth 100000
open Go.RowKit
def qau {α:Type} (lt:α→α→Bool) (b:α) (l:List α):α:=l.foldl (fun b x=>if lt x b then x else b) b
structure Weak {α:Type} (lt:α→α→Bool):Prop where
 asym:∀ a b,lt a b=true→lt b a=false
 mid:∀ a b c,lt a b=true→lt a c=true∨lt c b=true
theorem Weak.trans {α:Type} {lt:α→α→Bool} (h:Weak lt) {a b c:α} (h1:lt a b=true) (h2:lt b c=true):lt a c=true:=by
 rcases h.mid a b c h1 with k | k
 ·exact k
 ·rw[h.asym b c h2] at k;cases k
def qhW (n:Nat):List (Nat×Nat):=(List.range n).flatMap fun a=>(List.range' (a+1) (n-(a+1))).map fun b=>(a,b)
end Go.Proofs.Ytleaeldgaflmkaa

namespace Go.Proofs.Ytleaeldgaflmkaa
set_option maxRecDepth 100000
open Go.RowKit
theorem qh0 (l:List Pt):(¬ (l.length≤16∨64≤l.length∧l.length≤70)∧Fn 4 1 [qbl 0 l] [(0,0,qap l)] (.pv (.bool true)) 0 [])∨
 ((l.length≤16∨64≤l.length∧l.length≤70)∧Fn 4 1 [qbl 0 l] [(0,0,qap l)] (.pv (.bool false)) 0 []):=by
 by_cases h1:l.length>16
 ·by_cases h2:l.length<64
  ·exact Or.inl ⟨by omega,qlz (dt (by omega)) (dt (by omega))⟩
  ·by_cases h3:l.length>70
   ·exact Or.inl ⟨by omega,qj4 (dt (by omega)) (df (by omega)) (dt (by omega))⟩
   ·exact Or.inr ⟨by omega,qjV (dt (by omega)) (df (by omega)) (df (by omega))⟩
 ·exact Or.inr ⟨by omega,qlB (df (by omega)) (df (by omega))⟩
theorem qmh {α:Type} {l:List α} {k:Nat} {p:α} (h:l[k]?=some p):l.take (k+1)=l.take k++[p]:=by rw[List.take_add_one,h];rfl
end Go.Proofs.Ytleaeldgaflmkaa
