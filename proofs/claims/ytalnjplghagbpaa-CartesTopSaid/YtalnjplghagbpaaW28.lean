/-
  Joined: Ura, Ut, Ui, Uj, Uk, Ul. Conditions: none.
-/
import Derived.Test.YtalnjplghagbpaaW27
import Derived.Test.YtalnjplghagbpaaW19
import Derived.Test.YtalnjplghagbpaaW22
namespace Go.Proofs.Ytalnjplghagbpaa
set_option maxRecDepth 100000
open Go.RowKit
theorem qpB {l:List Pt} {z:Int} {p:Pt} (h:l[z.toNat]?=some p):qco (qaq l) (0*3+z.toNat*3) [iV p.id]:=qbI h
theorem qj3 {z tn td:Int} {s:List Pt} (hft:Fn 38 1 [qay 0 s,.pv (qaa tn td)] [(0,0,qah s)] (.pv (.bool false)) 0 []) (hal:Pure Try.prog 24 #[] (.bool true)) :
 Fn 8 1 [qay 0 s,.pv (qaa tn td),.pv (iV (z))] [(0,0,qah s)] (.pv (.bool true)) 0 []:=
 Fz [] [Cf hft [0],.k,Rf hal]
  tI (Co hft [0] 3 (Ai hal tI))
abbrev qnN (n1:List Pt) (r1:Int) (s:List Pt) (td:Int) (tn:Int):Prop:=Fn 18 1 [qay 0 s,.pv (qaa tn td)] [(0,0,qah s)] (.tu [.ag [.pv (iV r1),.ls 1 n1.length],.one (.pv (iV 0))]) 1 [(1,0,qae n1)]
abbrev qnp (s:List Pt) (td:Int) (tn:Int):Prop:=Fn 38 1 [qay 0 s,.pv (qaa tn td)] [(0,0,qah s)] (.pv (.bool true)) 0 []
theorem qit {z r1 tn td:Int} {s n1:List Pt} (hft:qnp s td tn) (ho:qnN n1 r1 s td tn) (hl:Fn 42 1 [qay 0 s,.pv (qaa tn td)] [(0,0,qah s)] (.pv (.tuple #[iV 0,iV 42])) 0 []) (hd:Fn 12 1 [trS 0 r1 n1,.pv (iV (z))] [(0,0,qae n1)] (.pv (.tuple #[iV 0,iV 6])) 0 []) (ha:Fn 43 1 [qay 0 s,.pv (iV (z))] [(0,0,qah s)] (.pv (iV (-1))) 0 []) (hc:Fn 34 1 [trS 0 r1 n1] [(0,0,qae n1)] (.pv (iV (0))) 0 []) (hln:((n1.length:Int) !=(s.length:Int))=false) (hpos:decide ((s.length:Int)>0)=false) (hz0:((s.length:Int)==0)=true) (hal:Pure Try.prog 24 #[] (.bool true)) :
 Fn 8 1 [qay 0 s,.pv (qaa tn td),.pv (iV (z))] [(0,0,qah s)] (.pv (.bool true)) 0 []:=
 qbF 500 [] [Cf hft [0],.k,Cf ho [0],Cf hl [0],Cf hd [3],Cf ha [0],.k,Cf hc [3],.k,.t false,.k,.t false,.k,.k,.k,.k,.t true,.k,Rf hal]
  tI (Co hft [0] 3 (Co ho [0] 3 (Co hl [0] 5 (Co hd [3] 5 (Co ha [0] 5 (Co hc [3] 5 (Ai hln (Ai hpos (Ai hz0 (Ai hal tI)))))))))) (by kernel_rfl)
theorem qlC {x z r1 tn td:Int} {s n1:List Pt} (hft:qnp s td tn) (ho:qnN n1 r1 s td tn) (hl:Fn 42 1 [qay 0 s,.pv (qaa tn td)] [(0,0,qah s)] (.pv (.tuple #[iV x,iV 0])) 0 []) (hd:Fn 12 1 [trS 0 r1 n1,.pv (iV (z))] [(0,0,qae n1)] (.pv (.tuple #[iV 0,iV 6])) 0 []) (ha:Fn 43 1 [qay 0 s,.pv (iV (z))] [(0,0,qah s)] (.pv (iV (-1))) 0 []) (hc:Fn 34 1 [trS 0 r1 n1] [(0,0,qae n1)] (.pv (iV (0))) 0 []) (hln:((n1.length:Int) !=(s.length:Int))=false) (hpos:decide ((s.length:Int)>0)=true) (hz0:((s.length:Int)==0)=false) (hal:Pure Try.prog 24 #[] (.bool true)) :
 Fn 8 1 [qay 0 s,.pv (qaa tn td),.pv (iV (z))] [(0,0,qah s)] (.pv (.bool true)) 0 []:=
 qbF 500 [] [Cf hft [0],.k,Cf ho [0],Cf hl [0],Cf hd [3],Cf ha [0],.k,Cf hc [3],.k,.t false,.k,.t true,.k,.k,.k,.k,.t false,.k,.k,Rf hal]
  tI (Co hft [0] 3 (Co ho [0] 3 (Co hl [0] 5 (Co hd [3] 5 (Co ha [0] 5 (Co hc [3] 5 (Ai hln (Ai hpos (Ai hz0 (Ai hal tI)))))))))) (by kernel_rfl)
abbrev qfr (n1:List Pt) (r1:Int) (s:List Pt) (td:Int) (tn:Int):HpL:=[(1,0,.ls 0 s.length),(2,0,.pv (iV tn)),(2,1,.pv (iV td)),(4,0,.pv (iV r1)),(4,1,.ls 3 n1.length),(0,0,qah s),(3,0,qae n1)]
abbrev qk8 (j:Nat) (k:Nat) (n:Nat) (x:Int) (y:Int):TmL:=[(3,.pp 1 0),(4,.pp 2 0),(7,.pp 4 0),(9,.pv (iV x)),(11,.pv (iV y)),(13,.pv (iV (j:Int))),(14,.pv (iV (n:Int))),(15,.pv (iV (k:Int)))]
abbrev qrn (j:Nat) (k:Nat) (n:Nat) (x:Int) (y:Int):TmL:=[(3,.pp 1 0),(4,.pp 2 0),(7,.pp 4 0),(9,.pv (iV x)),(11,.pv (iV y)),(13,.pv (iV (j:Int))),(14,.pv (iV (n:Int))),(15,.pv (iV ((k+1:Nat):Int)))]
theorem qlB {x y r1 tn td:Int} {s n1:List Pt} {j k n:Nat} (hlt:decide ((k:Int)<(s.length:Int))=true) (hne:((k:Int) !=(j:Int))=false) (hs:iV (IntKind.i64.wrap ((k:Int)+1))=iV (((k+1:Nat):Int))) {e:Exit} {tm2:TmL} {hp2:HpL}
 (r:Rl 1 1 8 0 123 5 (qrn j k n x y) (qfr n1 r1 s td tn) e tm2 hp2):Rl 1 1 8 0 123 5 (qk8 j k n x y) (qfr n1 r1 s td tn) e tm2 hp2:=
 RunsL.next [] 300 [.t true,.t false,Re hs]
  (Ro (Ai hlt (Ai hne (Ai hs tI)))) r
theorem qlM {x y r1 tn td:Int} {s n1:List Pt} {j k n:Nat} (hlt:decide ((k:Int)<(s.length:Int))=true) (hne:((k:Int) !=(j:Int))=true) (hr:Fn 44 1 [qay 0 s,.pv (qaa tn td),.pv (iV (k:Int)),.pv (iV (j:Int))] [(0,0,qah s)] (.pv (.bool true)) 0 []) (hn1:iV (IntKind.i64.wrap ((n:Int)+1))=iV (((n+1:Nat):Int))) (hs:iV (IntKind.i64.wrap ((k:Int)+1))=iV (((k+1:Nat):Int))) {e:Exit} {tm2:TmL} {hp2:HpL}
 (r:Rl 1 1 8 0 123 5 ([(3,.pp 1 0),(4,.pp 2 0),(7,.pp 4 0),(9,.pv (iV x)),(11,.pv (iV y)),(13,.pv (iV (j:Int))),(14,.pv (iV ((n+1:Nat):Int))),(15,.pv (iV ((k+1:Nat):Int)))]) (qfr n1 r1 s td tn) e tm2 hp2):Rl 1 1 8 0 123 5 (qk8 j k n x y) (qfr n1 r1 s td tn) e tm2 hp2:=
 RunsL.next [] 300 [.t true,.t true,Cf hr [0],Re hn1,Re hs]
  (Ro (Ai hlt (Ai hne (Co hr [0] 5 (Ai hn1 (Ai hs tI)))))) r
theorem qqC {x y r1 tn td:Int} {s n1:List Pt} {j k n:Nat} (hlt:decide ((k:Int)<(s.length:Int))=true) (hne:((k:Int) !=(j:Int))=true) (hr:Fn 44 1 [qay 0 s,.pv (qaa tn td),.pv (iV (k:Int)),.pv (iV (j:Int))] [(0,0,qah s)] (.pv (.bool false)) 0 []) (hs:iV (IntKind.i64.wrap ((k:Int)+1))=iV (((k+1:Nat):Int))) {e:Exit} {tm2:TmL} {hp2:HpL}
 (r:Rl 1 1 8 0 123 5 (qrn j k n x y) (qfr n1 r1 s td tn) e tm2 hp2):Rl 1 1 8 0 123 5 (qk8 j k n x y) (qfr n1 r1 s td tn) e tm2 hp2:=
 RunsL.next [] 300 [.t true,.t true,Cf hr [0],Re hs]
  (Ro (Ai hlt (Ai hne (Co hr [0] 5 (Ai hs tI))))) r
theorem qnO {x y r1 tn td:Int} {s n1:List Pt} {j k n:Nat} (hlt:decide ((k:Int)<(s.length:Int))=false):Rl 1 1 8 0 123 5 (qk8 j k n x y) (qfr n1 r1 s td tn) (.exit 0) ([(7,.pp 4 0),(9,.pv (iV x)),(11,.pv (iV y)),(14,.pv (iV (n:Int)))]) ([(4,0,.pv (iV r1)),(4,1,.ls 3 n1.length),(3,0,qae n1)]):=
 RunsL.stop [] 300 [.t false] (fun h=>by cases h)
  (Ro (Ai hlt tI))
theorem qlf {x y z r1 tn td:Int} {s n1:List Pt} {q:Pt} {j n:Nat} (hft:qnp s td tn) (ho:qnN n1 r1 s td tn) (hl:Fn 42 1 [qay 0 s,.pv (qaa tn td)] [(0,0,qah s)] (.pv (.tuple #[iV x,iV 0])) 0 []) (hd:Fn 12 1 [trS 0 r1 n1,.pv (iV (z))] [(0,0,qae n1)] (.pv (.tuple #[iV y,iV 0])) 0 []) (ha:Fn 43 1 [qay 0 s,.pv (iV (z))] [(0,0,qah s)] (.pv (iV (j:Int))) 0 []) (hc:Fn 34 1 [trS 0 r1 n1] [(0,0,qae n1)] (.pv (iV (0))) 0 []) (hln:((n1.length:Int) !=(s.length:Int))=false) (hpos:decide ((s.length:Int)>0)=true) (hj0:decide ((j:Int)≥0)=true) (hz0:((s.length:Int)==0)=false) (hjn:decide ((j:Int)<0)=false) (hl0:Rl 1 1 8 0 123 5 ([(3,.pp 1 0),(4,.pp 2 0),(7,.pp 4 0),(9,.pv (iV x)),(11,.pv (iV y)),(13,.pv (iV (j:Int))),(14,.pv (iV ((0:Nat):Int))),(15,.pv (iV ((0:Nat):Int)))]) (qfr n1 r1 s td tn) (.exit 0) ([(7,.pp 4 0),(9,.pv (iV x)),(11,.pv (iV y)),(14,.pv (iV (n:Int)))]) ([(4,0,.pv (iV r1)),(4,1,.ls 3 n1.length),(3,0,qae n1)])) (hix:0≤r1∧r1<(n1.length:Int)) (hk:n1[r1.toNat]?=some q) (hx:(q.id==x)=true) (hy:(y==(n:Int))=true) (hal:Pure Try.prog 24 #[] (.bool true)) :
 Fn 8 1 [qay 0 s,.pv (qaa tn td),.pv (iV (z))] [(0,0,qah s)] (.pv (.bool true)) 0 []:=
 qbF 600 [] [Cf hft [0],.k,Cf ho [0],Cf hl [0],Cf hd [3],Cf ha [0],.k,Cf hc [3],.k,.t false,.k,.t true,.k,.k,.t true,.k,.t false,.t false,Lf hl0,.r (iV q.id),.t true,.t true,Rf hal]
  tI (Co hft [0] 3 (Co ho [0] 3 (Co hl [0] 5 (Co hd [3] 5 (Co ha [0] 5 (Co hc [3] 5 (Ai hln (Ai hpos (Ai hj0 (Ai hz0 (Ai hjn (Lo hl0 [] (Ai hix (Ai (qpB hk) (Ai hx (Ai hy (Ai hal tI))))))))))))))))) (by kernel_rfl)
end Go.Proofs.Ytalnjplghagbpaa

namespace Go.Proofs.Ytalnjplghagbpaa
set_option maxRecDepth 100000
open Go.RowKit
section
variable {s:List Pt} {tn td:Int}
def RuI (s:List Pt) (tn td:Int) (i j:Nat):Prop:=∀ k,min i j≤k→k≤max i j→k≠i→ld tn td (ndT s i) (ndT s k)=true
theorem qmt {i k:Nat} (hs:Val s) (hi:i<s.length) (hk:k<s.length) (h:k≠i):(ndT s i).id≠(ndT s k).id:=fun e=>by
 rcases Nat.lt_trichotomy i k with h0 | h0 | h0
 ·have:=hs.up.mono h0 (qag hi) (qag hk);omega
 ·exact h h0.symm
 ·have:=hs.up.mono h0 (qag hk) (qag hi);omega
theorem qqm (htn:I64 tn) (htd:I64 td) (ht:okB tn td=true) (hs:Val s) {i j:Nat} (hi:i<s.length) (hj:j<s.length):Fn 44 1 [qay 0 s,.pv (qaa tn td),.pv (iV (i:Int)),.pv (iV (j:Int))] [(0,0,qah s)] (.pv (.bool (pT (RuI s tn td i j)))) 0 []:=by
 have hsl:=hs.len
 have emx:(if (j:Int)>(i:Int) then (j:Int) else (i:Int))=((max i j:Nat):Int):=by split<;>omega
 have emn:(if (j:Int)<(i:Int) then (j:Int) else (i:Int))=((min i j:Nat):Int):=by split<;>omega
 have hle:∀ {k:Nat},k≤max i j→decide ((k:Int)≤(if (j:Int)>(i:Int) then (j:Int) else (i:Int)))=true:=fun {k} h=>dt (by rw[emx];omega)
 have step:∀ m,(∀ k,min i j≤k→k<m→k≠i→ld tn td (ndT s i) (ndT s k)=true)→min i j≤m→∀ {e:Exit} {tm2:TmL} {hp2:HpL},m≤max i j+1→
  Rl 1 1 44 0 46 3 [(2,.pv (iV (i:Int))),(3,.pv (iV (j:Int))),(4,.pp 1 0),(5,.pp 2 0),(9,.pv (iV (m:Int)))] [(1,0,.ls 0 s.length),(2,0,.pv (iV tn)),(2,1,.pv (iV td)),(0,0,qah s)] e tm2 hp2→
  Rl 1 1 44 0 46 3 [(2,.pv (iV (i:Int))),(3,.pv (iV (j:Int))),(4,.pp 1 0),(5,.pp 2 0),(9,.pv (iV ((min i j:Nat):Int)))] [(1,0,.ls 0 s.length),(2,0,.pv (iV tn)),(2,1,.pv (iV td)),(0,0,qah s)] e tm2 hp2:=by
  intro m hm hmin e tm2 hp2 hmx r
  refine RunsL.rounds (fun k=>[(2,.pv (iV (i:Int))),(3,.pv (iV (j:Int))),(4,.pp 1 0),(5,.pp 2 0),(9,.pv (iV (k:Int)))]) (fun _=>[(1,0,.ls 0 s.length),(2,0,.pv (iV tn)),(2,1,.pv (iV td)),(0,0,qah s)]) (N:=m) (m-min i j) (min i j) (by omega) (fun k k1 k2 r=>?_) r
  by_cases e:k=i
  ·exact qkS (hle:=hle (by omega)) (he:=by simp[e]) (hs:=qak (by omega)) r
  ·have hkl:k<s.length:=by omega
   have hw:=hm k k1 k2 e
   have ha:=qc9 htn htd (hs.ok _ (List.mem_of_getElem? (qag hi))) (hs.ok _ (List.mem_of_getElem? (qag hkl))) ht (qmt hs hi hkl e)
   exact qmA (hle:=hle (by omega)) (he:=by simp;omega) (hi:=qag hi) (hini:=⟨by omega,by omega⟩) (hk:=qag hkl) (hin:=⟨by omega,by omega⟩) (ha:=by rw[← hw];exact ha) (hs:=qak (by omega)) r
 by_cases h:RuI s tn td i j
 ·rw[qin h]
  have:=step (max i j+1) (fun k k1 k2 k3=>h k k1 (by omega) k3) (by omega) (Nat.le_refl _) (qoH (hle:=df (by rw[emx];omega)))
  rw[← emn] at this
  exact qne (hl0:=this)
 ·rw[qiq h]
  rcases qaS (fun k=>min i j≤k→k≤max i j→k≠i→ld tn td (ndT s i) (ndT s k)=true) (max i j+1) with h' | ⟨k,hk,hb,hf⟩
  ·exact (h fun k k1 k2 k3=>h' k (by omega) k1 k2 k3).elim
  ·simp only[Classical.not_forall] at hb
   obtain⟨k1,k2,k3,k4⟩:=hb
   have hkl:k<s.length:=by omega
   have ha:=qc9 htn htd (hs.ok _ (List.mem_of_getElem? (qag hi))) (hs.ok _ (List.mem_of_getElem? (qag hkl))) ht (qmt hs hi hkl k3)
   have hw:ld tn td (ndT s i) (ndT s k)=false:=by simpa using k4
   have:=step k (fun m m1 m2 m3=>hf m m2 m1 (by omega) m3) k1 (by omega) (qnV (hle:=hle k2) (he:=by simp;omega) (hi:=qag hi) (hini:=⟨by omega,by omega⟩) (hk:=qag hkl) (hin:=⟨by omega,by omega⟩) (ha:=by rw[← hw];exact ha))
   rw[← emn] at this
   exact qq8 (hl0:=this)
end
end Go.Proofs.Ytalnjplghagbpaa

namespace Go.Proofs.Ytalnjplghagbpaa
set_option maxRecDepth 100000
open Go.RowKit
theorem qaK {l:List Pt} {z:Int} {p:Pt} (h:l[z.toNat]?=some p):qco (qaq l) (0*3+z.toNat*3) [iV p.id]:=qbI h
theorem qgx {l:List Pt} {k:Nat} {p:Pt} (h:l[k]?=some p):qco (qaq l) (0*3+k*3+1) [iV p.a]:=qbS (z:=(k:Int)) h
theorem qgw {l:List Pt} {k:Nat} {p:Pt} (h:l[k]?=some p):qco (qaq l) (0*3+k*3+2) [iV p.b]:=qb7 (z:=(k:Int)) h
theorem qjJ (n:Nat):some (SV.row 3 1 n (qcC [iV 0] n))=some (SV.row 3 1 n (ziV (List.replicate n 0))):=by rw[qmU]
theorem qj4:∀ (m:List Pt) (p:Pt),qaq (m++[p])=qaq m++[iV p.id,iV p.a,iV p.b]
 | [],_=>rfl
 | q::r,p=>congrArg (fun l=>iV q.id::iV q.a::iV q.b::l) (qj4 r p)
abbrev qm7 (l:List Pt) (td:Int) (tn:Int):HpL:=[(1,0,.ls 0 l.length),(2,0,.pv (iV tn)),(2,1,.pv (iV td)),(0,0,qah l)]
abbrev qrt (hi:Int) (k:Nat) (z:Int):TmL:=[(3,.pv (iV hi)),(4,.pp 1 0),(5,.pp 2 0),(9,.pv (iV (z))),(10,.pv (iV (k:Int)))]
theorem qiG {z hi:Int} {l:List Pt} {k:Nat} {tn td:Int} (hlt:decide ((k:Int)<hi)=true) (h0:decide (z<0)=true) (hs:iV (IntKind.i64.wrap ((k:Int)+1))=iV (((k+1:Nat):Int))) {e:Exit} {tm2:TmL} {hp2:HpL}
 (r:Rl 1 1 110 0 35 3 ([(3,.pv (iV hi)),(4,.pp 1 0),(5,.pp 2 0),(9,.pv (iV (k:Int))),(10,.pv (iV ((k+1:Nat):Int)))]) (qm7 l td tn) e tm2 hp2):Rl 1 1 110 0 35 3 (qrt hi k z) (qm7 l td tn) e tm2 hp2:=
 RunsL.next [] 300 [.t true,.t true,Re hs]
  (Ro (Ai hlt (Ai h0 (Ai hs tI)))) r
theorem qn9 {z hi:Int} {l:List Pt} {p q:Pt} {k:Nat} {tn td:Int} (hlt:decide ((k:Int)<hi)=true) (h0:decide (z<0)=false) (hk:l[k]?=some p) (hin:0≤(k:Int)∧(k:Int)<(l.length:Int)) (hz:l[z.toNat]?=some q) (hinz:0≤z∧z<(l.length:Int)) (hle:Pure Try.prog 111 #[ptV p,ptV q,qaa tn td] (.bool true)) (hs:iV (IntKind.i64.wrap ((k:Int)+1))=iV (((k+1:Nat):Int))) {e:Exit} {tm2:TmL} {hp2:HpL}
 (r:Rl 1 1 110 0 35 3 ([(3,.pv (iV hi)),(4,.pp 1 0),(5,.pp 2 0),(9,.pv (iV (k:Int))),(10,.pv (iV ((k+1:Nat):Int)))]) (qm7 l td tn) e tm2 hp2):Rl 1 1 110 0 35 3 (qrt hi k z) (qm7 l td tn) e tm2 hp2:=
 RunsL.next [] 300 [.t true,.t false,.r (ptV p),.r (ptV q),Rf hle,Re hs]
  (Ro (Ai hlt (Ai h0 (Ai hin (Ai (qaZ hk) (Ai hinz (Ai (qcs hz) (Ai hle (Ai hs tI))))))))) r
theorem qoS {z hi:Int} {l:List Pt} {p q:Pt} {k:Nat} {tn td:Int} (hlt:decide ((k:Int)<hi)=true) (h0:decide (z<0)=false) (hk:l[k]?=some p) (hin:0≤(k:Int)∧(k:Int)<(l.length:Int)) (hz:l[z.toNat]?=some q) (hinz:0≤z∧z<(l.length:Int)) (hle:Pure Try.prog 111 #[ptV p,ptV q,qaa tn td] (.bool false)) (hs:iV (IntKind.i64.wrap ((k:Int)+1))=iV (((k+1:Nat):Int))) {e:Exit} {tm2:TmL} {hp2:HpL}
 (r:Rl 1 1 110 0 35 3 ([(3,.pv (iV hi)),(4,.pp 1 0),(5,.pp 2 0),(9,.pv (iV (z))),(10,.pv (iV ((k+1:Nat):Int)))]) (qm7 l td tn) e tm2 hp2):Rl 1 1 110 0 35 3 (qrt hi k z) (qm7 l td tn) e tm2 hp2:=
 RunsL.next [] 300 [.t true,.t false,.r (ptV p),.r (ptV q),Rf hle,Re hs]
  (Ro (Ai hlt (Ai h0 (Ai hin (Ai (qaZ hk) (Ai hinz (Ai (qcs hz) (Ai hle (Ai hs tI))))))))) r
theorem qoE {z hi:Int} {l:List Pt} {k:Nat} {tn td:Int} (hlt:decide ((k:Int)<hi)=false):Rl 1 1 110 0 35 3 (qrt hi k z) (qm7 l td tn) (.exit 0) ([(9,.pv (iV z))]) ([]):=
 RunsL.stop [] 300 [.t false] (fun h=>by cases h)
  (Ro (Ai hlt tI))
theorem qha {z hi:Int} {l:List Pt} {n:Nat} {tn td:Int} (r0:Rl 1 1 110 0 35 3 ([(3,.pv (iV hi)),(4,.pp 1 0),(5,.pp 2 0),(9,.pv (iV (-1))),(10,.pv (iV (n:Int)))]) (qm7 l td tn) (.exit 0) ([(9,.pv (iV z))]) ([])) :
 Fn 110 1 [qay 0 l,.pv (qaa tn td),.pv (iV (n:Int)),.pv (iV (hi))] [(0,0,qah l)] (.pv (iV (z))) 0 []:=
 Fz [] [Lf r0]
  tI (Lo r0 [] tI)
abbrev qpi (l:List Pt) (rt:Int):HpL:=[(1,0,.pv (iV rt)),(1,1,.ls 0 l.length),(0,0,qae l)]
abbrev qsX (i0:Int) (k:Nat) (z:Int):TmL:=[(1,.pv (iV z)),(2,.pp 1 0),(5,.pv (iV (k:Int))),(6,.pv (iV (i0)))]
theorem qno {rt z i0:Int} {l:List Pt} {p:Pt} {k:Nat} (hk:l[i0.toNat]?=some p) (hin:0≤i0∧i0<(l.length:Int)) (hne:(p.id !=z)=false):Rl 1 1 69 0 40 2 (qsX i0 k z) (qpi l rt) (.exit 0) ([(5,.pv (iV (k:Int)))]) ([]):=
 RunsL.stop [] 300 [.r (iV p.id),.t false] (fun h=>by cases h)
  (Ro (Ai hin (Ai (qaK hk) (Ai hne tI))))
theorem qsG {rt z i0:Int} {l:List Pt} {p:Pt} {k:Nat} (hk:l[i0.toNat]?=some p) (hin:0≤i0∧i0<(l.length:Int)) (hne:(p.id !=z)=true) (hlt:decide (z<p.id)=true) (hs:iV (IntKind.i64.wrap ((k:Int)+1))=iV (((k+1:Nat):Int))) {e:Exit} {tm2:TmL} {hp2:HpL}
 (r:Rl 1 1 69 0 40 2 ([(1,.pv (iV z)),(2,.pp 1 0),(5,.pv (iV ((k+1:Nat):Int))),(6,.pv (iV (p.a)))]) (qpi l rt) e tm2 hp2):Rl 1 1 69 0 40 2 (qsX i0 k z) (qpi l rt) e tm2 hp2:=
 RunsL.next [] 300 [.r (iV p.id),.t true,.r (iV p.id),.t true,.r (iV p.a),Re hs]
  (Ro (Ai hin (Ai (qaK hk) (Ai hne (Ai hin (Ai (qaK hk) (Ai hlt (Ai hin (Ai (qbS hk) (Ai hs tI)))))))))) r
theorem qsY {rt z i0:Int} {l:List Pt} {p:Pt} {k:Nat} (hk:l[i0.toNat]?=some p) (hin:0≤i0∧i0<(l.length:Int)) (hne:(p.id !=z)=true) (hlt:decide (z<p.id)=false) (hs:iV (IntKind.i64.wrap ((k:Int)+1))=iV (((k+1:Nat):Int))) {e:Exit} {tm2:TmL} {hp2:HpL}
 (r:Rl 1 1 69 0 40 2 ([(1,.pv (iV z)),(2,.pp 1 0),(5,.pv (iV ((k+1:Nat):Int))),(6,.pv (iV (p.b)))]) (qpi l rt) e tm2 hp2):Rl 1 1 69 0 40 2 (qsX i0 k z) (qpi l rt) e tm2 hp2:=
 RunsL.next [] 300 [.r (iV p.id),.t true,.r (iV p.id),.t false,.r (iV p.b),Re hs]
  (Ro (Ai hin (Ai (qaK hk) (Ai hne (Ai hin (Ai (qaK hk) (Ai hlt (Ai hin (Ai (qb7 hk) (Ai hs tI)))))))))) r
theorem qk6 {rt z:Int} {l:List Pt} {k:Nat} (r0:Rl 1 1 69 0 40 2 ([(1,.pv (iV z)),(2,.pp 1 0),(5,.pv (iV ((0:Nat):Int))),(6,.pv (iV (rt)))]) (qpi l rt) (.exit 0) ([(5,.pv (iV (k:Int)))]) ([])) :
 Fn 69 1 [trS 0 rt l,.pv (iV (z))] [(0,0,qae l)] (.pv (iV (k:Int))) 0 []:=
 Fz [] [Lf r0]
  tI (Lo r0 [] tI)
abbrev qe9 (g:List Int) (l:List Pt) (rt:Int):HpL:=[(1,0,.pv (iV rt)),(1,1,.ls 0 l.length),(0,0,qae l),(2,0,.row 3 1 l.length (ziV g))]
abbrev qqS (k:Nat) (l:List Pt):TmL:=[(1,.pp 1 0),(3,.ls 2 l.length),(4,.pv (iV (k:Int)))]
abbrev qrw (k:Nat) (l:List Pt):TmL:=[(1,.pp 1 0),(3,.ls 2 l.length),(4,.pv (iV ((k+1:Nat):Int)))]
theorem qqD {rt:Int} {l:List Pt} {p:Pt} {k:Nat} {y1 y2 e1 e2:Int} {g:List Int} (hlt:decide ((k:Int)<(l.length:Int))=true) (hk:l[k]?=some p) (hin:0≤(k:Int)∧(k:Int)<(l.length:Int)) (ha:decide (p.a≥0)=true) (hia:0≤p.a∧p.a<(l.length:Int)) (hga:g[p.a.toNat]?=some y1) (hgl:p.a.toNat<g.length) (hy1:iV (IntKind.i64.wrap (y1+1))=iV (e1)) (hb:decide (p.b≥0)=true) (hib:0≤p.b∧p.b<(l.length:Int)) (hgb:(g.set p.a.toNat e1)[p.b.toNat]?=some y2) (hgm:p.b.toNat<(g.set p.a.toNat e1).length) (hy2:iV (IntKind.i64.wrap (y2+1))=iV (e2)) (hs:iV (IntKind.i64.wrap ((k:Int)+1))=iV (((k+1:Nat):Int))) {e:Exit} {tm2:TmL} {hp2:HpL}
 (r:Rl 1 1 71 0 77 3 (qrw k l) ([(1,0,.pv (iV rt)),(1,1,.ls 0 l.length),(0,0,qae l),(2,0,.row 3 1 l.length (ziV ((g.set p.a.toNat e1).set p.b.toNat e2)))]) e tm2 hp2):Rl 1 1 71 0 77 3 (qqS k l) (qe9 g l rt) e tm2 hp2:=
 RunsL.next [] 300 [.t true,.r (iV p.a),.t true,.r (iV y1),Re hy1,.w (ziV (g.set p.a.toNat e1)),.r (iV p.b),.t true,.r (iV y2),Re hy2,.w (ziV ((g.set p.a.toNat e1).set p.b.toNat e2)),Re hs]
  (Ro (Ai hlt (Ai hin (Ai (qgx hk) (Ai ha (Ai hia (Ai (qlL hga) (Ai hy1 (Ai hia (Ai (qrN g p.a.toNat e1 hgl) (Ai (qgW g p.a.toNat hgl) (Ai hin (Ai (qgw hk) (Ai hb (Ai hib (Ai (qlL hgb) (Ai hy2 (Ai hib (Ai (qrN (g.set p.a.toNat e1) p.b.toNat e2 hgm) (Ai (qgW (g.set p.a.toNat e1) p.b.toNat hgm) (Ai hs tI))))))))))))))))))))) r
theorem qqp {rt:Int} {l:List Pt} {p:Pt} {k:Nat} {y1 e1:Int} {g:List Int} (hlt:decide ((k:Int)<(l.length:Int))=true) (hk:l[k]?=some p) (hin:0≤(k:Int)∧(k:Int)<(l.length:Int)) (ha:decide (p.a≥0)=true) (hia:0≤p.a∧p.a<(l.length:Int)) (hga:g[p.a.toNat]?=some y1) (hgl:p.a.toNat<g.length) (hy1:iV (IntKind.i64.wrap (y1+1))=iV (e1)) (hb:decide (p.b≥0)=false) (hs:iV (IntKind.i64.wrap ((k:Int)+1))=iV (((k+1:Nat):Int))) {e:Exit} {tm2:TmL} {hp2:HpL}
 (r:Rl 1 1 71 0 77 3 (qrw k l) ([(1,0,.pv (iV rt)),(1,1,.ls 0 l.length),(0,0,qae l),(2,0,.row 3 1 l.length (ziV (g.set p.a.toNat e1)))]) e tm2 hp2):Rl 1 1 71 0 77 3 (qqS k l) (qe9 g l rt) e tm2 hp2:=
 RunsL.next [] 300 [.t true,.r (iV p.a),.t true,.r (iV y1),Re hy1,.w (ziV (g.set p.a.toNat e1)),.r (iV p.b),.t false,Re hs]
  (Ro (Ai hlt (Ai hin (Ai (qgx hk) (Ai ha (Ai hia (Ai (qlL hga) (Ai hy1 (Ai hia (Ai (qrN g p.a.toNat e1 hgl) (Ai (qgW g p.a.toNat hgl) (Ai hin (Ai (qgw hk) (Ai hb (Ai hs tI))))))))))))))) r
theorem qpV {rt:Int} {l:List Pt} {p:Pt} {k:Nat} {y2 e2:Int} {g:List Int} (hlt:decide ((k:Int)<(l.length:Int))=true) (hk:l[k]?=some p) (hin:0≤(k:Int)∧(k:Int)<(l.length:Int)) (ha:decide (p.a≥0)=false) (hb:decide (p.b≥0)=true) (hib:0≤p.b∧p.b<(l.length:Int)) (hgb:g[p.b.toNat]?=some y2) (hgm:p.b.toNat<g.length) (hy2:iV (IntKind.i64.wrap (y2+1))=iV (e2)) (hs:iV (IntKind.i64.wrap ((k:Int)+1))=iV (((k+1:Nat):Int))) {e:Exit} {tm2:TmL} {hp2:HpL}
 (r:Rl 1 1 71 0 77 3 (qrw k l) ([(1,0,.pv (iV rt)),(1,1,.ls 0 l.length),(0,0,qae l),(2,0,.row 3 1 l.length (ziV (g.set p.b.toNat e2)))]) e tm2 hp2):Rl 1 1 71 0 77 3 (qqS k l) (qe9 g l rt) e tm2 hp2:=
 RunsL.next [] 300 [.t true,.r (iV p.a),.t false,.r (iV p.b),.t true,.r (iV y2),Re hy2,.w (ziV (g.set p.b.toNat e2)),Re hs]
  (Ro (Ai hlt (Ai hin (Ai (qgx hk) (Ai ha (Ai hin (Ai (qgw hk) (Ai hb (Ai hib (Ai (qlL hgb) (Ai hy2 (Ai hib (Ai (qrN g p.b.toNat e2 hgm) (Ai (qgW g p.b.toNat hgm) (Ai hs tI))))))))))))))) r
theorem qqj {rt:Int} {l:List Pt} {p:Pt} {k:Nat} {g:List Int} (hlt:decide ((k:Int)<(l.length:Int))=true) (hk:l[k]?=some p) (hin:0≤(k:Int)∧(k:Int)<(l.length:Int)) (ha:decide (p.a≥0)=false) (hb:decide (p.b≥0)=false) (hs:iV (IntKind.i64.wrap ((k:Int)+1))=iV (((k+1:Nat):Int))) {e:Exit} {tm2:TmL} {hp2:HpL}
 (r:Rl 1 1 71 0 77 3 (qrw k l) (qe9 g l rt) e tm2 hp2):Rl 1 1 71 0 77 3 (qqS k l) (qe9 g l rt) e tm2 hp2:=
 RunsL.next [] 300 [.t true,.r (iV p.a),.t false,.r (iV p.b),.t false,Re hs]
  (Ro (Ai hlt (Ai hin (Ai (qgx hk) (Ai ha (Ai hin (Ai (qgw hk) (Ai hb (Ai hs tI))))))))) r
theorem qo0 {rt:Int} {l:List Pt} {k:Nat} {g:List Int} (hlt:decide ((k:Int)<(l.length:Int))=false):Rl 1 1 71 0 77 3 (qqS k l) (qe9 g l rt) (.exit 0) ([(1,.pp 1 0),(3,.ls 2 l.length)]) (qe9 g l rt):=
 RunsL.stop [] 300 [.t false] (fun h=>by cases h)
  (Ro (Ai hlt tI))
abbrev qqT (k:Nat) (l:List Pt):TmL:=[(1,.pp 1 0),(3,.ls 2 l.length),(7,.pv (iV (k:Int)))]
theorem ql3 {rt x:Int} {l:List Pt} {k:Nat} {g:List Int} (hlt:decide ((k:Int)<(l.length:Int))=true) (hr:((k:Int)==rt)=true) (hg:g[k]?=some x) (hin:0≤(k:Int)∧(k:Int)<(l.length:Int)) (h0:(x !=0)=false) (hr2:((k:Int) !=rt)=false) (hs:iV (IntKind.i64.wrap ((k:Int)+1))=iV (((k+1:Nat):Int))) {e:Exit} {tm2:TmL} {hp2:HpL}
 (r:Rl 1 1 71 1 77 3 ([(1,.pp 1 0),(3,.ls 2 l.length),(7,.pv (iV ((k+1:Nat):Int)))]) (qe9 g l rt) e tm2 hp2):Rl 1 1 71 1 77 3 (qqT k l) (qe9 g l rt) e tm2 hp2:=
 RunsL.next [] 300 [.t true,.t true,.r (iV x),.t false,.t false,Re hs]
  (Ro (Ai hlt (Ai hr (Ai hin (Ai (qii hg) (Ai h0 (Ai hr2 (Ai hs tI)))))))) r
theorem qmb {rt x:Int} {l:List Pt} {k:Nat} {g:List Int} (hlt:decide ((k:Int)<(l.length:Int))=true) (hr:((k:Int)==rt)=false) (hg:g[k]?=some x) (hin:0≤(k:Int)∧(k:Int)<(l.length:Int)) (hr2:((k:Int) !=rt)=true) (h1:(x !=1)=false) (hs:iV (IntKind.i64.wrap ((k:Int)+1))=iV (((k+1:Nat):Int))) {e:Exit} {tm2:TmL} {hp2:HpL}
 (r:Rl 1 1 71 1 77 3 ([(1,.pp 1 0),(3,.ls 2 l.length),(7,.pv (iV ((k+1:Nat):Int)))]) (qe9 g l rt) e tm2 hp2):Rl 1 1 71 1 77 3 (qqT k l) (qe9 g l rt) e tm2 hp2:=
 RunsL.next [] 300 [.t true,.t false,.t true,.r (iV x),.t false,Re hs]
  (Ro (Ai hlt (Ai hr (Ai hr2 (Ai hin (Ai (qii hg) (Ai h1 (Ai hs tI)))))))) r
theorem qiE {rt x:Int} {l:List Pt} {k:Nat} {g:List Int} (hlt:decide ((k:Int)<(l.length:Int))=true) (hr:((k:Int)==rt)=true) (hg:g[k]?=some x) (hin:0≤(k:Int)∧(k:Int)<(l.length:Int)) (h0:(x !=0)=true):Rl 1 1 71 1 77 3 (qqT k l) (qe9 g l rt) (.ret) ([(2,.pv (.bool false))]) ([]):=
 RunsL.stop [] 300 [.t true,.t true,.r (iV x),.t true] (fun h=>by cases h)
  (Ro (Ai hlt (Ai hr (Ai hin (Ai (qii hg) (Ai h0 tI))))))
theorem qjR {rt x:Int} {l:List Pt} {k:Nat} {g:List Int} (hlt:decide ((k:Int)<(l.length:Int))=true) (hr:((k:Int)==rt)=false) (hg:g[k]?=some x) (hin:0≤(k:Int)∧(k:Int)<(l.length:Int)) (hr2:((k:Int) !=rt)=true) (h1:(x !=1)=true):Rl 1 1 71 1 77 3 (qqT k l) (qe9 g l rt) (.ret) ([(2,.pv (.bool false))]) ([]):=
 RunsL.stop [] 300 [.t true,.t false,.t true,.r (iV x),.t true] (fun h=>by cases h)
  (Ro (Ai hlt (Ai hr (Ai hr2 (Ai hin (Ai (qii hg) (Ai h1 tI)))))))
theorem qlP {rt:Int} {l:List Pt} {k:Nat} {g:List Int} (hlt:decide ((k:Int)<(l.length:Int))=false):Rl 1 1 71 1 77 3 (qqT k l) (qe9 g l rt) (.exit 2) ([]) ([]):=
 RunsL.stop [] 300 [.t false] (fun h=>by cases h)
  (Ro (Ai hlt tI))
abbrev qtd (g:List Int) (l:List Pt) (rt:Int):Prop:=Rl 1 1 71 0 77 3 ([(1,.pp 1 0),(3,.ls 2 l.length),(4,.pv (iV ((0:Nat):Int)))]) ([(1,0,.pv (iV rt)),(1,1,.ls 0 l.length),(0,0,qae l),(2,0,.row 3 1 l.length (ziV (List.replicate l.length 0)))]) (.exit 0) ([(1,.pp 1 0),(3,.ls 2 l.length)]) (qe9 g l rt)
theorem qoj {rt:Int} {l:List Pt} {g:List Int} (n0:0≤(l.length:Int)) (n1:(l.length:Int)≤1000000) (r0:qtd g l rt) (r1:Rl 1 1 71 1 77 3 ([(1,.pp 1 0),(3,.ls 2 l.length),(7,.pv (iV ((0:Nat):Int)))]) (qe9 g l rt) (.exit 2) ([]) ([])) :
 Fn 71 1 [trS 0 rt l] [(0,0,qae l)] (.pv (.bool true)) 0 []:=
 Fz [] [Lf r0,Lf r1]
  tI (Ai n0 (Ai (Eq.refl (l.length:Int)) (Ai n1 (Ai (Lt r0 []) (Ai (Ai (Er (SV.pv (iV rt))) (Ai (Er (SV.ls 0 l.length)) (Ai (Er (qae l)) (Ai (qjJ l.length) tI)))) (Ai r0 (Lo r1 [] tI)))))))
theorem qqF {rt:Int} {l:List Pt} {g:List Int} (n0:0≤(l.length:Int)) (n1:(l.length:Int)≤1000000) (r0:qtd g l rt) (r1:Rl 1 1 71 1 77 3 ([(1,.pp 1 0),(3,.ls 2 l.length),(7,.pv (iV ((0:Nat):Int)))]) (qe9 g l rt) (.ret) ([(2,.pv (.bool false))]) ([])) :
 Fn 71 1 [trS 0 rt l] [(0,0,qae l)] (.pv (.bool false)) 0 []:=
 Fz [] [Lf r0,Lf r1]
  tI (Ai n0 (Ai (Eq.refl (l.length:Int)) (Ai n1 (Ai (Lt r0 []) (Ai (Ai (Er (SV.pv (iV rt))) (Ai (Er (SV.ls 0 l.length)) (Ai (Er (qae l)) (Ai (qjJ l.length) tI)))) (Ai r0 (Lo r1 [] tI)))))))
end Go.Proofs.Ytalnjplghagbpaa

namespace Go.Proofs.Ytalnjplghagbpaa
set_option maxRecDepth 100000
open Go.RowKit
section
variable {rt:Int} {l:List Pt}
theorem qp6 {T:Sh Nat} {z:Int} (hr:Rep l rt T) (hu:(idT l T).list.Pairwise (· < ·)) (hz:z∈(idT l T).list) (hn:T.list.length≤1000000):Fn 69 1 [trS 0 rt l,.pv (iV z)] [(0,0,qae l)] (.pv (iV ((Sh.dep z (idT l T):Nat):Int))) 0 []:=by
 have run:∀ (S:Sh Nat) (i:Int) (k:Nat),Rep l i S→(idT l S).list.Pairwise (· < ·)→z∈(idT l S).list→k+S.list.length≤1000000→
  Rl 1 1 69 0 40 2 [(1,.pv (iV z)),(2,.pp 1 0),(5,.pv (iV (k:Int))),(6,.pv (iV i))] [(1,0,.pv (iV rt)),(1,1,.ls 0 l.length),(0,0,qae l)] (.exit 0) [(5,.pv (iV ((k+Sh.dep z (idT l S):Nat):Int)))] []:=by
  intro S
  induction S with
  | nil=>intro i k _ _ h;cases h
  | node a j b ia ib=>
   intro i k ⟨hi,p,hp,a1,a2⟩ hu hz hk
   subst hi
   have hjl:=qal hp
   have e1:idN l j=p.id:=qaw hp
   have eT:idT l (.node a j b)=.node (idT l a) p.id (idT l b):=by show Sh.node _ (idN l j) _=_;rw[e1];rfl
   have hlen:(Sh.node a j b).list.length=a.list.length+(b.list.length+1):=by show (a.list++j::b.list).length=_;rw[List.length_append,List.length_cons]
   rw[eT] at hu hz ⊢
   obtain⟨s1,s2,s3,s4⟩:=Sh.up_split hu
   have hin:0≤(j:Int)∧(j:Int)<(l.length:Int):=⟨by omega,by omega⟩
   unfold Sh.dep
   by_cases c1:z=p.id
   ·rw[if_pos c1]
    exact qno (hk:=hp) (hin:=hin) (hne:=by simp[c1])
   ·rw[if_neg c1]
    by_cases c2:z<p.id
    ·rw[if_pos c2]
     have hz1:z∈(idT l a).list:=by
      rcases List.mem_append.1 hz with h | h
      ·exact h
      ·rcases List.mem_cons.1 h with h | h
       ·exact (c1 h).elim
       ·have:=s4 z h;omega
     have r:=ia p.a (k+1) a1 s1 hz1 (by omega)
     rw[show k+(Sh.dep z (idT l a)+1)=k+1+Sh.dep z (idT l a) by omega]
     exact qsG (hk:=hp) (hin:=hin) (hne:=by simp;omega) (hlt:=dt c2) (hs:=qak (by omega)) r
    ·rw[if_neg c2]
     have hz1:z∈(idT l b).list:=by
      rcases List.mem_append.1 hz with h | h
      ·have:=s3 z h;omega
      ·rcases List.mem_cons.1 h with h | h
       ·exact (c1 h).elim
       ·exact h
     have r:=ib p.b (k+1) a2 s2 hz1 (by omega)
     rw[show k+(Sh.dep z (idT l b)+1)=k+1+Sh.dep z (idT l b) by omega]
     exact qsY (hk:=hp) (hin:=hin) (hne:=by simp;omega) (hlt:=df c2) (hs:=qak (by omega)) r
 have:=run T rt 0 hr hu hz (by omega)
 rw[Nat.zero_add] at this
 exact qk6 (r0:=this)
def BestI (l:List Pt) (tn td:Int) (n k:Nat) (z:Int):Prop:=(k≤n∧z = -1)∨(∃ b:Nat,z=(b:Int)∧n≤b∧b<k∧∀ j,n≤j→j<k→j≠b→ld tn td (ndT l b) (ndT l j)=true)
variable {tn td:Int}
theorem BestI.uniq {n k:Nat} {z y:Int} (h:BestI l tn td n k z) (h':BestI l tn td n k y):z=y:=by
 rcases h with ⟨h1,rfl⟩ | ⟨b,rfl,h2,h3,h4⟩
 ·rcases h' with ⟨_,rfl⟩ | ⟨c,rfl,k2,k3,_⟩
  ·rfl
  ·omega
 ·rcases h' with ⟨k1,_⟩ | ⟨c,rfl,k2,k3,k4⟩
  ·omega
  ·by_cases e:b=c
   ·rw[e]
   ·have a1:=h4 c k2 k3 fun k=>e k.symm
    have a2:=k4 b h2 h3 e
    rw[qcK a1] at a2
    cases a2
theorem qs3 (htn:I64 tn) (htd:I64 td) (hs:Val l) {n hi:Nat} (hh:hi≤l.length) {y:Int} (hy:BestI l tn td n hi y):Fn 110 1 [qay 0 l,.pv (qaa tn td),.pv (iV (n:Int)),.pv (iV (hi:Int))] [(0,0,qah l)] (.pv (iV y)) 0 []:=by
 have hsl:=hs.len
 have run:∀ (e k:Nat) (z:Int),k+e=max n hi→n≤k→BestI l tn td n k z→
  Rl 1 1 110 0 35 3 [(3,.pv (iV (hi:Int))),(4,.pp 1 0),(5,.pp 2 0),(9,.pv (iV z)),(10,.pv (iV (k:Int)))] [(1,0,.ls 0 l.length),(2,0,.pv (iV tn)),(2,1,.pv (iV td)),(0,0,qah l)] (.exit 0) [(9,.pv (iV y))] []:=by
  intro e
  induction e with
  | zero=>
   intro k z hk hn hb
   have hb':BestI l tn td n hi z:=by
    rcases hb with ⟨h1,h2⟩ | ⟨b,h1,h2,h3,h4⟩
    ·exact Or.inl ⟨by omega,h2⟩
    ·exact Or.inr ⟨b,h1,h2,by omega,fun j j1 j2=>h4 j j1 (by omega)⟩
   rw[hy.uniq hb']
   exact qoE (hlt:=df (by omega))
  | succ e ih=>
   intro k z hk hn hb
   have hkh:k<hi:=by omega
   have hkl:k<l.length:=by omega
   rcases hb with ⟨h1,rfl⟩ | ⟨b,rfl,h2,h3,h4⟩
   ·exact qiG (hlt:=dt (by omega)) (h0:=by decide) (hs:=qak (by omega)) (ih (k+1) _ (by omega) (by omega) (Or.inr ⟨k,rfl,by omega,by omega,fun j j1 j2 j3=>by omega⟩))
   ·have hp:=qag (n:=l) hkl
    have hq:=qag (n:=l) (k:=b) (by omega)
    have hne:(ndT l b).id≠(ndT l k).id:=by have:=hs.up.mono h3 hq hp;omega
    by_cases hw:ld tn td (ndT l k) (ndT l b)=true
    ·exact qn9 (z:=(b:Int)) (hlt:=dt (by omega)) (h0:=df (by omega)) (hk:=hp) (hin:=⟨by omega,by omega⟩) (hz:=hq) (hinz:=⟨by omega,by omega⟩) (hle:=by rw[← hw];exact qhi htn htd (hs.ok _ (List.mem_of_getElem? hp)) (hs.ok _ (List.mem_of_getElem? hq))) (hs:=qak (by omega))
      (ih (k+1) _ (by omega) (by omega) (Or.inr ⟨k,rfl,by omega,by omega,fun j j1 j2 j3=>by
       by_cases ej:j=b
       ·rw[ej];exact hw
       ·exact qcz hw (h4 j j1 (by omega) ej)⟩))
    ·have hw':ld tn td (ndT l k) (ndT l b)=false:=by simpa using hw
     exact qoS (z:=(b:Int)) (hlt:=dt (by omega)) (h0:=df (by omega)) (hk:=hp) (hin:=⟨by omega,by omega⟩) (hz:=hq) (hinz:=⟨by omega,by omega⟩) (hle:=by rw[← hw'];exact qhi htn htd (hs.ok _ (List.mem_of_getElem? hp)) (hs.ok _ (List.mem_of_getElem? hq))) (hs:=qak (by omega))
      (ih (k+1) _ (by omega) (by omega) (Or.inr ⟨b,rfl,h2,by omega,fun j j1 j2 j3=>by
       by_cases ej:j=k
       ·rw[ej];exact qiY (fun k=>hne k.symm) hw'
       ·exact h4 j j1 (by omega) j3⟩))
 rcases Nat.le_total n hi with hle | hle
 ·exact qha (r0:=run (hi-n) n (-1) (by omega) (Nat.le_refl _) (Or.inl ⟨Nat.le_refl _,rfl⟩))
 ·exact qha (r0:=run 0 n (-1) (by omega) (Nat.le_refl _) (Or.inl ⟨Nat.le_refl _,rfl⟩))
end
end Go.Proofs.Ytalnjplghagbpaa

namespace Go.Proofs.Ytalnjplghagbpaa
set_option maxRecDepth 100000
open Go.RowKit
def cK (l:List Pt) (k v:Nat):Nat:=((List.range k).map fun u=>lk l u v).sum
theorem qj0 (l:List Pt) (k v:Nat):cK l (k+1) v=cK l k v+lk l k v:=by
 unfold cK
 rw[List.range_succ,List.map_append,List.sum_append]
 simp
theorem qqv (l:List Pt) (u:Nat) (v:Int):lk l u v≤2:=by
 unfold lk
 split
 ·split<;>split<;>omega
 ·omega
theorem qqZ (l:List Pt) (v:Nat):∀ k,cK l k v≤2*k
 | 0=>Nat.le_refl _
 | k+1=>by rw[qj0];have:=qqZ l v k;have:=qqv l k v;omega
def gK (l:List Pt) (k:Nat):List Int:=(List.range l.length).map fun v=>(cK l k v:Int)
theorem qeR (l:List Pt) (k:Nat):(gK l k).length=l.length:=by unfold gK;rw[List.length_map,List.length_range]
theorem qes (l:List Pt) (k:Nat) {v:Nat} (h:v<l.length):(gK l k)[v]?=some (cK l k v:Int):=by
 unfold gK;rw[List.getElem?_map,List.getElem?_range h];rfl
theorem qoG (l:List Pt):gK l 0=List.replicate l.length 0:=by
 refine List.ext_getElem? fun v=>?_
 rcases Nat.lt_or_ge v l.length with h | h
 ·rw[qes l 0 h,List.getElem?_replicate,if_pos h];rfl
 ·rw[List.getElem?_eq_none (by rw[qeR];exact h),List.getElem?_eq_none (by rw[List.length_replicate];exact h)]
def qeI (g:List Int) (z:Int):List Int:=if 0≤z then g.set z.toNat (g.getD z.toNat 0+1) else g
theorem qeE (g:List Int) (z:Int):(qeI g z).length=g.length:=by unfold qeI;split<;>simp
theorem qfS {g:List Int} {z:Int} {v:Nat} (h:v<g.length):(qeI g z)[v]?=some (g.getD v 0+if z=(v:Int) then 1 else 0):=by
 have e:g[v]?=some (g.getD v 0):=by rw[List.getD_eq_getElem?_getD,List.getElem?_eq_getElem h];rfl
 unfold qeI
 by_cases hz:0≤z
 ·rw[if_pos hz,List.getElem?_set]
  by_cases ev:z.toNat=v
  ·rw[if_pos ev,if_pos (by omega),if_pos (by omega),ev]
  ·rw[if_neg ev,if_neg (by omega),e];simp
 ·rw[if_neg hz,if_neg (by omega),e];simp
theorem qn2 {l:List Pt} {k:Nat} {p:Pt} (hp:l[k]?=some p):gK l (k+1)=qeI (qeI (gK l k) p.a) p.b:=by
 refine List.ext_getElem? fun v=>?_
 rcases Nat.lt_or_ge v l.length with h | h
 ·have h1:v<(gK l k).length:=by rw[qeR];exact h
  have h2:v<(qeI (gK l k) p.a).length:=by rw[qeE];exact h1
  rw[qes l (k+1) h,qfS h2,List.getD_eq_getElem?_getD,qfS h1,List.getD_eq_getElem?_getD,qes l k h,qj0]
  have e:lk l k v=(if p.a=(v:Int) then 1 else 0)+(if p.b=(v:Int) then 1 else 0):=by unfold lk;rw[hp]
  rw[e]
  simp only[Option.getD_some]
  split<;>split<;>simp<;>omega
 ·rw[List.getElem?_eq_none (by rw[qeR];exact h),List.getElem?_eq_none (by rw[qeE,qeE,qeR];exact h)]
section
variable {rt:Int} {l:List Pt}
abbrev onT (n k:Nat):List (Nat×SV):=[(1,.pp 1 0),(3,.ls 2 n),(4,.pv (iV (k:Int)))]
abbrev qsz (n k:Nat):List (Nat×SV):=[(1,.pp 1 0),(3,.ls 2 n),(7,.pv (iV (k:Int)))]
abbrev onH (rt:Int) (l:List Pt) (g:List Int):List (Nat×Nat×SV):=[(1,0,.pv (iV rt)),(1,1,.ls 0 l.length),(0,0,qae l),(2,0,.row 3 1 l.length (ziV g))]
theorem qk1 (hL:Lnk ⟨rt,l⟩) (hn:l.length≤1000000) {k:Nat} {p:Pt} (hp:l[k]?=some p) {e:Exit} {tm2:TmL} {hp2:HpL}
 (r:Rl 1 1 71 0 77 3 (onT l.length (k+1)) (onH rt l (gK l (k+1))) e tm2 hp2):Rl 1 1 71 0 77 3 (onT l.length k) (onH rt l (gK l k)) e tm2 hp2:=by
 have hkl:=qal hp
 obtain⟨⟨a1,a2⟩,b1,b2⟩:=hL p (List.mem_of_getElem? hp)
 have a2':p.a<(l.length:Int):=a2
 have b2':p.b<(l.length:Int):=b2
 have hin:0≤(k:Int)∧(k:Int)<(l.length:Int):=⟨by omega,by omega⟩
 have gl:=qeR l k
 have bnd:∀ v,cK l k v≤2000000:=fun v=>by have:=qqZ l v k;omega
 rw[qn2 hp] at r
 have gd:∀ v,v<l.length→(gK l k).getD v 0=(cK l k v:Int):=fun v hv=>by rw[List.getD_eq_getElem?_getD,qes l k hv];rfl
 by_cases ha:0≤p.a
 ·have hal:p.a.toNat<l.length:=by omega
  have ea:qeI (gK l k) p.a=(gK l k).set p.a.toNat ((cK l k p.a.toNat:Int)+1):=by unfold qeI;rw[if_pos ha,gd _ hal]
  by_cases hb:0≤p.b
  ·have hbl:p.b.toNat<l.length:=by omega
   have h2:p.b.toNat<((gK l k).set p.a.toNat ((cK l k p.a.toNat:Int)+1)).length:=by rw[List.length_set,gl];exact hbl
   have hv2:(((gK l k).set p.a.toNat ((cK l k p.a.toNat:Int)+1)))[p.b.toNat]?=some (((gK l k).set p.a.toNat ((cK l k p.a.toNat:Int)+1)).getD p.b.toNat 0):=by rw[List.getD_eq_getElem?_getD,List.getElem?_eq_getElem h2];rfl
   have eb:qeI ((gK l k).set p.a.toNat ((cK l k p.a.toNat:Int)+1)) p.b=((gK l k).set p.a.toNat ((cK l k p.a.toNat:Int)+1)).set p.b.toNat (((gK l k).set p.a.toNat ((cK l k p.a.toNat:Int)+1)).getD p.b.toNat 0+1):=by
    unfold qeI;rw[if_pos hb]
   have small : -1≤((gK l k).set p.a.toNat ((cK l k p.a.toNat:Int)+1)).getD p.b.toNat 0∧((gK l k).set p.a.toNat ((cK l k p.a.toNat:Int)+1)).getD p.b.toNat 0≤3000000:=by
    rw[← ea,List.getD_eq_getElem?_getD,qfS (by rw[gl];exact hbl),gd _ hbl]
    simp only[Option.getD_some]
    have:=bnd p.b.toNat
    split<;>omega
   rw[ea,eb] at r
   exact qqD (hlt:=dt (by omega)) (hk:=hp) (hin:=hin) (ha:=dt (by omega)) (hia:=⟨ha,a2'⟩) (hga:=qes l k hal) (hgl:=by rw[gl];exact hal) (hy1:=qhX (by omega) (by have:=bnd p.a.toNat;omega)) (hb:=dt (by omega)) (hib:=⟨hb,b2'⟩) (hgb:=hv2) (hgm:=h2) (hy2:=qhX (by omega) (by omega)) (hs:=qak (by omega)) r
  ·have eb:∀ g,qeI g p.b=g:=fun g=>by unfold qeI;rw[if_neg hb]
   rw[ea,eb] at r
   exact qqp (hlt:=dt (by omega)) (hk:=hp) (hin:=hin) (ha:=dt (by omega)) (hia:=⟨ha,a2'⟩) (hga:=qes l k hal) (hgl:=by rw[gl];exact hal) (hy1:=qhX (by omega) (by have:=bnd p.a.toNat;omega)) (hb:=df (by omega)) (hs:=qak (by omega)) r
 ·have ea:qeI (gK l k) p.a=gK l k:=by unfold qeI;rw[if_neg ha]
  rw[ea] at r
  by_cases hb:0≤p.b
  ·have hbl:p.b.toNat<l.length:=by omega
   have eb:qeI (gK l k) p.b=(gK l k).set p.b.toNat ((cK l k p.b.toNat:Int)+1):=by unfold qeI;rw[if_pos hb,gd _ hbl]
   rw[eb] at r
   exact qpV (hlt:=dt (by omega)) (hk:=hp) (hin:=hin) (ha:=df (by omega)) (hb:=dt (by omega)) (hib:=⟨hb,b2'⟩) (hgb:=qes l k hbl) (hgm:=by rw[gl];exact hbl) (hy2:=qhX (by omega) (by have:=bnd p.b.toNat;omega)) (hs:=qak (by omega)) r
  ·have eb:∀ g,qeI g p.b=g:=fun g=>by unfold qeI;rw[if_neg hb]
   rw[eb] at r
   exact qqj (hlt:=dt (by omega)) (hk:=hp) (hin:=hin) (ha:=df (by omega)) (hb:=df (by omega)) (hs:=qak (by omega)) r
theorem qsQ (hL:Lnk ⟨rt,l⟩) (hn:l.length≤1000000):Fn 71 1 [trS 0 rt l] [(0,0,qae l)] (.pv (.bool (pT (One ⟨rt,l⟩)))) 0 []:=by
 have r0:=RunsL.rounds (fun k=>onT l.length k) (fun k=>onH rt l (gK l k)) (N:=l.length) l.length 0 (Nat.zero_add _) (fun k _ hk r=>by
  obtain⟨p,hp⟩:=qap hk
  exact qk1 hL hn hp r) (qo0 (rt:=rt) (l:=l) (g:=gK l l.length) (k:=l.length) (hlt:=df (by omega)))
 rw[qoG] at r0
 have step:∀ m,(∀ v,v<m→cK l l.length v=if (v:Int)=rt then 0 else 1)→∀ {e:Exit} {tm2:TmL} {hp2:HpL},m≤l.length→
  Rl 1 1 71 1 77 3 (qsz l.length m) (onH rt l (gK l l.length)) e tm2 hp2→Rl 1 1 71 1 77 3 (qsz l.length 0) (onH rt l (gK l l.length)) e tm2 hp2:=by
  intro m hm e tm2 hp2 hml r
  refine RunsL.rounds (fun k=>qsz l.length k) (fun _=>onH rt l (gK l l.length)) (N:=m) m 0 (Nat.zero_add _) (fun k _ hk r=>?_) r
  have hc:=hm k hk
  have hg:=qes l l.length (v:=k) (by omega)
  by_cases er:(k:Int)=rt
  ·rw[if_pos er] at hc
   exact ql3 (x:=(cK l l.length k:Int)) (hlt:=dt (by omega)) (hr:=beq_iff_eq.2 er) (hg:=hg) (hin:=⟨by omega,by omega⟩) (h0:=by rw[hc];rfl) (hr2:=by simp[er]) (hs:=qak (by omega)) r
  ·rw[if_neg er] at hc
   exact qmb (x:=(cK l l.length k:Int)) (hlt:=dt (by omega)) (hr:=beq_eq_false_iff_ne.2 er) (hr2:=by simpa using er) (hg:=hg) (hin:=⟨by omega,by omega⟩) (h1:=by rw[hc];rfl) (hs:=qak (by omega)) r
 rcases qaS (fun v=>cK l l.length v=if (v:Int)=rt then 0 else 1) l.length with h | ⟨v,hv,hb,hf⟩
 ·rw[qin (p:=One ⟨rt,l⟩) fun v hv=>h v hv]
  exact qoj (n0:=by omega) (n1:=by omega) (r0:=r0) (r1:=step l.length h (Nat.le_refl _) (qlP (hlt:=df (by omega))))
 ·rw[qiq (p:=One ⟨rt,l⟩) fun k=>hb (k v hv)]
  have hg:=qes l l.length hv
  refine qqF (n0:=by omega) (n1:=by omega) (r0:=r0) (r1:=step v hf (by omega) ?_)
  by_cases er:(v:Int)=rt
  ·rw[if_pos er] at hb
   exact qiE (x:=(cK l l.length v:Int)) (hlt:=dt (by omega)) (hr:=beq_iff_eq.2 er) (hg:=hg) (hin:=⟨by omega,by omega⟩) (h0:=by simp;omega)
  ·rw[if_neg er] at hb
   exact qjR (x:=(cK l l.length v:Int)) (hlt:=dt (by omega)) (hr:=beq_eq_false_iff_ne.2 er) (hr2:=by simpa using er) (hg:=hg) (hin:=⟨by omega,by omega⟩) (h1:=by simp;omega)
end
end Go.Proofs.Ytalnjplghagbpaa

namespace Go.Proofs.Ytalnjplghagbpaa
set_option maxRecDepth 100000
open Go.RowKit
open Classical in
noncomputable def shC (l:List Pt) (i:Int):Sh Nat:=if h:∃ A,Rep l i A then h.choose else .nil
theorem qmG {l:List Pt} {i:Int} {A:Sh Nat} (h:Rep l i A):shC l i=A:=by
 have hex:∃ A,Rep l i A:=⟨A,h⟩
 unfold shC
 rw[dif_pos hex]
 exact hex.choose_spec.uniq h
theorem Rep.sub {n:List Pt}:∀ {T:Sh Nat} {i:Int},Rep n i T→∀ k∈T.list,∃ A B,Rep n (ndT n k).a A∧Rep n (ndT n k).b B
 | .nil,_,_,k,h=>by cases h
 | .node l y r,i,⟨_,p,hp,a1,a2⟩,k,h=>by
  rcases List.mem_append.1 h with h | h
  ·exact a1.sub k h
  ·rcases List.mem_cons.1 h with rfl | h
   ·have e:ndT n k=p:=by
     have:=qag (n:=n) (k:=k) (List.getElem?_eq_some_iff.1 hp).1
     rw[hp] at this
     exact (Option.some.inj this).symm
    rw[e]
    exact⟨l,r,a1,a2⟩
   ·exact a2.sub k h
noncomputable def ptN (l:List Pt) (n j k:Nat):Pt:=⟨(ndT l k).id,shI n (rtI (res n j (shC l (ndT l k).a))),shI n (rtI (res n j (shC l (ndT l k).b)))⟩
noncomputable def ptL (l:List Pt) (n j k:Nat):List Pt:=(List.range' n (k-n)).map (ptN l n j)
theorem qoA {l:List Pt} {n j k:Nat}:(ptL l n j k).length=k-n:=by unfold ptL;rw[List.length_map,List.length_range']
theorem qpI {l:List Pt} {n j k:Nat} (h1:n≤k) (h2:k<j):(ptL l n j j)[k-n]?=some (ptN l n j k):=by
 unfold ptL
 rw[List.getElem?_map,List.getElem?_range' (by omega)]
 simp only[Option.map_some]
 rw[show n+1*(k-n)=k by omega]
section
variable {rt:Int} {l:List Pt}
theorem qdv {lo hi:Nat} {T:Sh Nat} (hT:∀ k∈T.list,k<l.length) (hn:l.length≤1000000) : -1≤rtI (res lo hi T)∧rtI (res lo hi T)≤1000000:=by
 cases e:res lo hi T with
 | nil=>exact⟨Int.le_refl _,by decide⟩
 | node a k b=>
  have:k∈(res lo hi T).list:=by rw[e];exact List.mem_append_right _ List.mem_cons_self
  have:=hT k (qdp this).1
  exact⟨by show (-1:Int)≤(k:Int);omega,by show (k:Int)≤1000000;omega⟩
end
end Go.Proofs.Ytalnjplghagbpaa
