/-
  Joined: Ug, Un, Uh, Ut, Ui, Uj, Uk. Conditions: none.
-/
import Derived.Test.YtalnjplghagbpaaW26
import Derived.Test.YtalnjplghagbpaaW23
import Derived.Test.YtalnjplghagbpaaW19
import Derived.Test.YtalnjplghagbpaaW22
namespace Go.Proofs.Ytalnjplghagbpaa
set_option maxRecDepth 100000
open Go.RowKit
abbrev trS (k:Nat) (rt:Int) (l:List Pt):SV:=.ag [.pv (iV rt),.ls k l.length]
abbrev qaa (l:List Pt):SV:=.row 26 3 l.length (qah l)
theorem qgW (x:Int):(x !=x)=false:=by simp
theorem qsB (rt:Int) (a:Nat):SV.ag [.pv (iV rt),.ls 4 (0+a)]=(SV.ag [.pv (iV rt),.ls 1 a]).ren (qaB [(1,4)]):=by rw[Nat.zero_add];rfl
theorem qpk (n:Nat) (xs:List Value):some (SV.row 26 3 (0+n) ([]++xs))=some (SV.row 26 3 n xs):=by rw[Nat.zero_add,List.nil_append]
theorem qcU {l:List Pt} {z:Int} {p:Pt} (h:l[z.toNat]?=some p):qcQ (qah l) (0*3+z.toNat*3) [iV p.id,iV p.a,iV p.b]:=qa0 h
theorem qbI {l:List Pt} {z:Int} {p:Pt} (h:l[z.toNat]?=some p):qcQ (qah l) (0*3+z.toNat*3+1) [iV p.a]:=fun j v hj=>by
 have:=qa0 h 1 (iV p.a) rfl
 match j,hj with
 | 0,hj=>cases hj;exact this
theorem qbP {l:List Pt} {z:Int} {p:Pt} (h:l[z.toNat]?=some p):qcQ (qah l) (0*3+z.toNat*3+2) [iV p.b]:=fun j v hj=>by
 have:=qa0 h 2 (iV p.b) rfl
 match j,hj with
 | 0,hj=>cases hj;exact this
theorem qqH {rt z:Int} {l:List Pt} (h1:decide (z≥(-1))=false) :
 Fn 70 1 [trS 0 rt l,.pv (iV (z))] [(0,0,qaa l)] (.pv (.bool false)) 0 []:=
 Fz [] [.t false]
  tI (Ai h1 tI)
theorem qlW {rt z:Int} {l:List Pt} (h1:decide (z≥(-1))=true) (h2:decide (z<(l.length:Int))=true) :
 Fn 70 1 [trS 0 rt l,.pv (iV (z))] [(0,0,qaa l)] (.pv (.bool true)) 0 []:=
 Fz [] [.t true,.t true]
  tI (Ai h1 (Ai h2 tI))
theorem qip {rt z:Int} {l:List Pt} (h1:decide (z≥(-1))=true) (h2:decide (z<(l.length:Int))=false) :
 Fn 70 1 [trS 0 rt l,.pv (iV (z))] [(0,0,qaa l)] (.pv (.bool false)) 0 []:=
 Fz [] [.t true,.t false]
  tI (Ai h1 (Ai h2 tI))
abbrev qh9 (l:List Pt) (rt:Int):HpL:=[(1,0,.pv (iV rt)),(1,1,.ls 0 l.length),(0,0,qaa l)]
theorem qlG {rt:Int} {l:List Pt} {p q:Pt} {j k:Nat} (hlt:decide ((k:Int)<(l.length:Int))=true) (hs1:iV (IntKind.i64.wrap ((k:Int)-1))=iV (j:Int)) (hj:l[j]?=some p) (hinj:0≤(j:Int)∧(j:Int)<(l.length:Int)) (hk:l[k]?=some q) (hin:0≤(k:Int)∧(k:Int)<(l.length:Int)) (hc:decide (p.id≥q.id)=false) (hs:iV (IntKind.i64.wrap ((k:Int)+1))=iV (((k+1:Nat):Int))) {e:Exit} {tm2:TmL} {hp2:HpL}
 (r:Rl 1 1 39 0 25 2 ([(1,.pp 1 0),(3,.pv (iV ((k+1:Nat):Int)))]) (qh9 l rt) e tm2 hp2):Rl 1 1 39 0 25 2 ([(1,.pp 1 0),(3,.pv (iV (k:Int)))]) (qh9 l rt) e tm2 hp2:=
 RunsL.next [] 300 [.t true,Re hs1,.r (iV p.id),.r (iV q.id),.t false,Re hs]
  (Ro (Ai hlt (Ai hs1 (Ai hinj (Ai (qa3 hj) (Ai hin (Ai (qa3 hk) (Ai hc (Ai hs tI))))))))) r
theorem qpg {rt:Int} {l:List Pt} {p q:Pt} {j k:Nat} (hlt:decide ((k:Int)<(l.length:Int))=true) (hs1:iV (IntKind.i64.wrap ((k:Int)-1))=iV (j:Int)) (hj:l[j]?=some p) (hinj:0≤(j:Int)∧(j:Int)<(l.length:Int)) (hk:l[k]?=some q) (hin:0≤(k:Int)∧(k:Int)<(l.length:Int)) (hc:decide (p.id≥q.id)=true):Rl 1 1 39 0 25 2 ([(1,.pp 1 0),(3,.pv (iV (k:Int)))]) (qh9 l rt) (.ret) ([(2,.pv (.bool false))]) ([]):=
 RunsL.stop [] 300 [.t true,Re hs1,.r (iV p.id),.r (iV q.id),.t true] (fun h=>by cases h)
  (Ro (Ai hlt (Ai hs1 (Ai hinj (Ai (qa3 hj) (Ai hin (Ai (qa3 hk) (Ai hc tI))))))))
theorem qiw {rt:Int} {l:List Pt} {k:Nat} (hlt:decide ((k:Int)<(l.length:Int))=false):Rl 1 1 39 0 25 2 ([(1,.pp 1 0),(3,.pv (iV (k:Int)))]) (qh9 l rt) (.exit 0) ([]) ([]):=
 RunsL.stop [] 300 [.t false] (fun h=>by cases h)
  (Ro (Ai hlt tI))
theorem qqy {rt:Int} {l:List Pt} (r0:Rl 1 1 39 0 25 2 ([(1,.pp 1 0),(3,.pv (iV ((1:Nat):Int)))]) (qh9 l rt) (.ret) ([(2,.pv (.bool false))]) ([])) :
 Fn 39 1 [trS 0 rt l] [(0,0,qaa l)] (.pv (.bool false)) 0 []:=
 Fz [] [Lf r0]
  tI (Lo r0 [] tI)
theorem qjm {rt:Int} {l:List Pt} (r0:Rl 1 1 39 0 25 2 ([(1,.pp 1 0),(3,.pv (iV ((1:Nat):Int)))]) (qh9 l rt) (.exit 0) ([]) ([])) :
 Fn 39 1 [trS 0 rt l] [(0,0,qaa l)] (.pv (.bool true)) 0 []:=
 Fz [] [Lf r0]
  tI (Lo r0 [] tI)
abbrev qpH (l:List Pt) (rt:Int) (s:List Pt):HpL:=[(2,0,.ls 0 s.length),(3,0,.pv (iV rt)),(3,1,.ls 1 l.length),(0,0,qan s),(1,0,qaa l)]
abbrev qrM (k:Nat):TmL:=[(2,.pp 2 0),(3,.pp 3 0),(5,.pv (iV (k:Int)))]
theorem qlm {rt z:Int} {s l:List Pt} {p:Pt} {k:Nat} (hlt:decide ((k:Int)<(l.length:Int))=true) (hk:l[k]?=some p) (hin:0≤(k:Int)∧(k:Int)<(l.length:Int)) (hat:Fn 43 1 [qax 0 s,.pv (iV p.id)] [(0,0,qan s)] (.pv (iV (z))) 0 []) (hz:decide (z<0)=false) (hs:iV (IntKind.i64.wrap ((k:Int)+1))=iV (((k+1:Nat):Int))) {e:Exit} {tm2:TmL} {hp2:HpL}
 (r:Rl 2 2 77 0 22 4 ([(2,.pp 2 0),(3,.pp 3 0),(5,.pv (iV ((k+1:Nat):Int)))]) (qpH l rt s) e tm2 hp2):Rl 2 2 77 0 22 4 (qrM k) (qpH l rt s) e tm2 hp2:=
 RunsL.next [] 300 [.t true,.r (iV p.id),Cf hat [0],.t false,Re hs]
  (Ro (Ai hlt (Ai hin (Ai (qa3 hk) (Co hat [0] 4 (Ai hz (Ai hs tI))))))) r
theorem qlB {rt z:Int} {s l:List Pt} {p:Pt} {k:Nat} (hlt:decide ((k:Int)<(l.length:Int))=true) (hk:l[k]?=some p) (hin:0≤(k:Int)∧(k:Int)<(l.length:Int)) (hat:Fn 43 1 [qax 0 s,.pv (iV p.id)] [(0,0,qan s)] (.pv (iV (z))) 0 []) (hz:decide (z<0)=true):Rl 2 2 77 0 22 4 (qrM k) (qpH l rt s) (.ret) ([(4,.pv (.bool false))]) ([]):=
 RunsL.stop [] 300 [.t true,.r (iV p.id),Cf hat [0],.t true] (fun h=>by cases h)
  (Ro (Ai hlt (Ai hin (Ai (qa3 hk) (Co hat [0] 4 (Ai hz tI))))))
theorem qnD {rt:Int} {s l:List Pt} {k:Nat} (hlt:decide ((k:Int)<(l.length:Int))=false):Rl 2 2 77 0 22 4 (qrM k) (qpH l rt s) (.exit 0) ([]) ([]):=
 RunsL.stop [] 300 [.t false] (fun h=>by cases h)
  (Ro (Ai hlt tI))
abbrev qtn:TmL:=[(2,.pp 2 0),(3,.pp 3 0),(5,.pv (iV ((0:Nat):Int)))]
theorem qrt {rt:Int} {s l:List Pt} (r0:Rl 2 2 77 0 22 4 (qtn) (qpH l rt s) (.ret) ([(4,.pv (.bool false))]) ([])) :
 Fn 77 2 [qax 0 s,trS 1 rt l] [(0,0,qan s),(1,0,qaa l)] (.pv (.bool false)) 0 []:=
 Fz [] [Lf r0]
  tI (Lo r0 [] tI)
theorem qnV {rt:Int} {s l:List Pt} (r0:Rl 2 2 77 0 22 4 (qtn) (qpH l rt s) (.exit 0) ([]) ([])) :
 Fn 77 2 [qax 0 s,trS 1 rt l] [(0,0,qan s),(1,0,qaa l)] (.pv (.bool true)) 0 []:=
 Fz [] [Lf r0]
  tI (Lo r0 [] tI)
abbrev qsi (l:List Pt) (rt:Int):HpL:=[(2,0,.pv (iV rt)),(2,1,.ls 0 l.length),(3,0,.pv (iV rt)),(3,1,.ls 1 l.length),(0,0,qaa l),(1,0,qaa l)]
theorem qkM {rt:Int} {l:List Pt} {p:Pt} {k:Nat} (hlt:decide ((k:Int)<(l.length:Int))=true) (hk:l[k]?=some p) (hin:0≤(k:Int)∧(k:Int)<(l.length:Int)) (hs:iV (IntKind.i64.wrap ((k:Int)+1))=iV (((k+1:Nat):Int))) {e:Exit} {tm2:TmL} {hp2:HpL}
 (r:Rl 2 2 22 0 38 4 ([(2,.pp 2 0),(3,.pp 3 0),(5,.pv (iV ((k+1:Nat):Int)))]) (qsi l rt) e tm2 hp2):Rl 2 2 22 0 38 4 (qrM k) (qsi l rt) e tm2 hp2:=
 RunsL.next [] 300 [.t true,.r (ptV p),.r (ptV p),.t false,Re hs]
  (Ro (Ai hlt (Ai hin (Ai (qa0 hk) (Ai hin (Ai (qa0 hk) (Ai (qml p) (Ai hs tI)))))))) r
theorem qpe {rt:Int} {l:List Pt} {k:Nat} (hlt:decide ((k:Int)<(l.length:Int))=false):Rl 2 2 22 0 38 4 (qrM k) (qsi l rt) (.exit 0) ([]) ([]):=
 RunsL.stop [] 300 [.t false] (fun h=>by cases h)
  (Ro (Ai hlt tI))
theorem qoE {rt:Int} {l:List Pt} (r0:Rl 2 2 22 0 38 4 (qtn) (qsi l rt) (.exit 0) ([]) ([])) :
 Fn 22 2 [trS 0 rt l,trS 1 rt l] [(0,0,qaa l),(1,0,qaa l)] (.pv (.bool true)) 0 []:=
 Fz [] [.t false,.t false,Lf r0]
  tI (Ai (qgW rt) (Ai (qgW (l.length:Int)) (Lo r0 [] tI)))
theorem qmO {rt:Int} {l:List Pt} (h:decide ((l.length:Int)>70)=true) :
 Fn 26 1 [trS 0 rt l] [(0,0,qaa l)] (.pv (.bool true)) 0 []:=
 Fz [] [.t true]
  tI (Ai h tI)
theorem qjl {rt:Int} {l:List Pt} (h:decide ((l.length:Int)>70)=false) :
 Fn 26 1 [trS 0 rt l] [(0,0,qaa l)] (.pv (.bool false)) 0 []:=
 Fz [] [.t false]
  tI (Ai h tI)
theorem utw {rt:Int} {l:List Pt} (n1:0+l.length≤1000000) :
 Fn 27 1 [trS 0 rt l] [(0,0,qaa l)] (trS 1 rt l) 1 [(1,0,qaa l)]:=
 Fx [(1,4)] [.md]
  (qsB rt l.length) (Ai (qpk l.length (qah l)) tI) (Ai n1 tI)
theorem qro {z lo:Int} (h:decide (z<0)=true) :
 Pure Try.prog 97 #[iV z,iV lo] (iV (-1)):=
 qae (args:=[iV z,iV lo]) 300 [.t true]
  (Ai rfl (Ai h tI)) (by kernel_rfl)
theorem qnT {y z lo:Int} (h:decide (z<0)=false) (hs:iV (IntKind.i64.wrap (z-lo))=iV (y)) :
 Pure Try.prog 97 #[iV z,iV lo] (iV (y)):=
 qae (args:=[iV z,iV lo]) 300 [.t false,Re hs]
  (Ai rfl (Ai h (Ai hs tI))) (by kernel_rfl)
abbrev qrx (hi:Int) (lo:Int) (z:Int):TmL:=[(1,.pv (iV (z))),(2,.pv (iV lo)),(3,.pv (iV hi)),(4,.pp 1 0)]
theorem qsn {rt z lo hi:Int} {l:List Pt} {p:Pt} (h0:decide (z≥0)=true) (hk:l[z.toNat]?=some p) (hin:0≤z∧z<(l.length:Int)) (h1:decide (z<lo)=true) {e:Exit} {tm2:TmL} {hp2:HpL}
 (r:Rl 1 1 98 0 37 2 ([(1,.pv (iV (p.b))),(2,.pv (iV lo)),(3,.pv (iV hi)),(4,.pp 1 0)]) (qh9 l rt) e tm2 hp2):Rl 1 1 98 0 37 2 (qrx hi lo z) (qh9 l rt) e tm2 hp2:=
 RunsL.next [] 300 [.t true,.t true,.t true,.r (iV p.b)]
  (Ro (Ai h0 (Ai h1 (Ai h1 (Ai hin (Ai (qbP hk) tI)))))) r
theorem qsk {rt z lo hi:Int} {l:List Pt} {p:Pt} (h0:decide (z≥0)=true) (hk:l[z.toNat]?=some p) (hin:0≤z∧z<(l.length:Int)) (h1:decide (z<lo)=false) (h2:decide (z≥hi)=true) {e:Exit} {tm2:TmL} {hp2:HpL}
 (r:Rl 1 1 98 0 37 2 ([(1,.pv (iV (p.a))),(2,.pv (iV lo)),(3,.pv (iV hi)),(4,.pp 1 0)]) (qh9 l rt) e tm2 hp2):Rl 1 1 98 0 37 2 (qrx hi lo z) (qh9 l rt) e tm2 hp2:=
 RunsL.next [] 300 [.t true,.t false,.t true,.t false,.r (iV p.a)]
  (Ro (Ai h0 (Ai h1 (Ai h2 (Ai h1 (Ai hin (Ai (qbI hk) tI))))))) r
theorem qou {rt z lo hi:Int} {l:List Pt} (h0:decide (z≥0)=false):Rl 1 1 98 0 37 2 (qrx hi lo z) (qh9 l rt) (.exit 0) ([(1,.pv (iV z))]) ([]):=
 RunsL.stop [] 300 [.t false] (fun h=>by cases h)
  (Ro (Ai h0 tI))
theorem qqe {rt z lo hi:Int} {l:List Pt} (h0:decide (z≥0)=true) (h1:decide (z<lo)=false) (h2:decide (z≥hi)=false):Rl 1 1 98 0 37 2 (qrx hi lo z) (qh9 l rt) (.exit 0) ([(1,.pv (iV z))]) ([]):=
 RunsL.stop [] 300 [.t true,.t false,.t false] (fun h=>by cases h)
  (Ro (Ai h0 (Ai h1 (Ai h2 tI))))
theorem qld {rt y z lo hi:Int} {l:List Pt} (r0:Rl 1 1 98 0 37 2 (qrx hi lo z) (qh9 l rt) (.exit 0) ([(1,.pv (iV y))]) ([])) :
 Fn 98 1 [trS 0 rt l,.pv (iV (z)),.pv (iV (lo)),.pv (iV (hi))] [(0,0,qaa l)] (.pv (iV (y))) 0 []:=
 Fz [] [Lf r0]
  tI (Lo r0 [] tI)
end Go.Proofs.Ytalnjplghagbpaa

namespace Go.Proofs.Ytalnjplghagbpaa
set_option maxRecDepth 100000
open Go.RowKit
theorem qgy:∀ {l:List Pt} {k:Nat} {p:Pt} (_:l[k]?=some p) (x:Int),qah (l.set k ⟨x,p.a,p.b⟩)=qdH (qah l) (k*3) [iV x]
 | [],k,p,h,_=>by simp at h
 | q::r,0,p,h,x=>by simp at h;subst h;rfl
 | q::r,k+1,p,h,x=>by
  rw[List.set_cons_succ,qah,qgy (l:=r) (k:=k) (p:=p) (by simpa using h) x,show (k+1)*3=k*3+1+1+1 by omega]
  simp[qdH,qah,Nat.add_right_comm]
theorem qke {l:List Pt} {k:Nat} {p:Pt} (h:l[k]?=some p) (x:Int):qah (l.set k ⟨x,p.a,p.b⟩)=qdH (qah l) (0*3+k*3+0) [iV x]:=by
 rw[show 0*3+k*3+0=k*3 by omega];exact qgy h x
abbrev ctT (e3 e1:Int) (k:Nat):List (Nat×SV):=[(11,.pp 9 0),(12,.pp 10 0),(23,.pv (iV (k:Int))),(13,.pp 13 0),(14,.pp 14 0),(15,.pv (iV e3)),(16,.pp 17 0),(17,.pp 18 0),(18,.pv (iV e3)),(19,.pp 20 0),(20,.pv (iV e1)),(21,.pp 22 0),(22,.pv (iV e1))]
abbrev ctH (rt x r1 r2 r3:Int) (n:Nat) (l m n0 n1 n2 n3 c:List Pt):List (Nat×Nat×SV):=[(9,0,.pv (iV rt)),(9,1,.ls 7 l.length),(7,0,.row 26 3 l.length (qah c)),(10,0,.pv (iV x)),(10,1,.ls 8 m.length),(8,0,.row 26 3 m.length (qah m)),(13,0,.pv (iV r1)),(13,1,.lq 11 3 0 n),(14,0,.pv (iV r2)),(14,1,.ls 12 n2.length),(17,0,.pv (iV r1)),(17,1,.ls 15 n1.length),(18,0,.pv (iV r2)),(18,1,.ls 16 n2.length),(20,0,.pv (iV r3)),(20,1,.ls 19 n3.length),(22,0,.pv (iV r3)),(22,1,.ls 21 n3.length),(11,0,qaa n0),(12,0,qaa n2),(15,0,qaa n1),(16,0,qaa n2),(19,0,qaa n3),(21,0,qaa n3)]
abbrev qtZ (e3 e1:Int) (k:Nat):List (Nat×SV):=[(12,.pp 10 0),(24,.pv (iV (k:Int))),(13,.pp 13 0),(14,.pp 14 0),(15,.pv (iV e3)),(16,.pp 17 0),(17,.pp 18 0),(18,.pv (iV e3)),(19,.pp 20 0),(20,.pv (iV e1)),(21,.pp 22 0),(22,.pv (iV e1))]
abbrev qtX (x r1 r2 r3:Int) (n:Nat) (m n0 n1 n2 n3 c:List Pt):List (Nat×Nat×SV):=[(10,0,.pv (iV x)),(10,1,.ls 8 m.length),(8,0,.row 26 3 m.length (qah c)),(13,0,.pv (iV r1)),(13,1,.lq 11 3 0 n),(14,0,.pv (iV r2)),(14,1,.ls 12 n2.length),(17,0,.pv (iV r1)),(17,1,.ls 15 n1.length),(18,0,.pv (iV r2)),(18,1,.ls 16 n2.length),(20,0,.pv (iV r3)),(20,1,.ls 19 n3.length),(22,0,.pv (iV r3)),(22,1,.ls 21 n3.length),(11,0,qaa n0),(12,0,qaa n2),(15,0,qaa n1),(16,0,qaa n2),(19,0,qaa n3),(21,0,qaa n3)]
abbrev qpK (l:List Pt) (m:List Pt) (s:List Pt):HpL:=[(0,0,qaa l),(1,0,qaa m),(2,0,qan s)]
theorem qti {rt x z tn td:Int} {s l m:List Pt} (hgf:Fn 25 1 [qax 0 s] [(0,0,qan s)] (.pv (.bool true)) 0 []) :
 Fn 5 3 [trS 0 rt l,trS 1 x m,.pv (iV (z)),qax 2 s,.pv (qad tn td)] (qpK l m s) (.pv (.bool true)) 0 []:=
 Fz [] [Cf hgf [2]]
  tI (Co hgf [2] 7 tI)
abbrev qsC (s:List Pt):Prop:=Fn 25 1 [qax 0 s] [(0,0,qan s)] (.pv (.bool false)) 0 []
theorem qtv {rt x z tn td:Int} {s l m:List Pt} (hgf:qsC s) (hgx:Fn 26 1 [trS 0 rt l] [(0,0,qaa l)] (.pv (.bool true)) 0 []) :
 Fn 5 3 [trS 0 rt l,trS 1 x m,.pv (iV (z)),qax 2 s,.pv (qad tn td)] (qpK l m s) (.pv (.bool true)) 0 []:=
 Fz [] [Cf hgf [2],Cf hgx [0]]
  tI (Co hgf [2] 7 (Co hgx [0] 7 tI))
theorem qs4 {rt x z tn td:Int} {s l m:List Pt} (hgf:qsC s) (hgx:Fn 26 1 [trS 0 rt l] [(0,0,qaa l)] (.pv (.bool false)) 0 []) (hgy:Fn 26 1 [trS 0 x m] [(0,0,qaa m)] (.pv (.bool true)) 0 []) :
 Fn 5 3 [trS 0 rt l,trS 1 x m,.pv (iV (z)),qax 2 s,.pv (qad tn td)] (qpK l m s) (.pv (.bool true)) 0 []:=
 Fz [] [Cf hgf [2],Cf hgx [0],Cf hgy [1]]
  tI (Co hgf [2] 7 (Co hgx [0] 7 (Co hgy [1] 7 tI)))
abbrev qrX (c:List Pt) (l:List Pt) (m:List Pt) (n:Nat) (n0:List Pt) (n1:List Pt) (n2:List Pt) (n3:List Pt) (r1:Int) (r2:Int) (r3:Int) (rt:Int) (x:Int):HpL:=[(9,0,.pv (iV rt)),(9,1,.ls 7 l.length),(7,0,.row 26 3 l.length (qah c)),(10,0,.pv (iV x)),(10,1,.ls 8 m.length),(8,0,.row 26 3 m.length (qah m)),(13,0,.pv (iV r1)),(13,1,.lq 11 3 0 n),(14,0,.pv (iV r2)),(14,1,.ls 12 n2.length),(17,0,.pv (iV r1)),(17,1,.ls 15 n1.length),(18,0,.pv (iV r2)),(18,1,.ls 16 n2.length),(20,0,.pv (iV r3)),(20,1,.ls 19 n3.length),(22,0,.pv (iV r3)),(22,1,.ls 21 n3.length),(11,0,qaa n0),(12,0,qaa n2),(15,0,qaa n1),(16,0,qaa n2),(19,0,qaa n3),(21,0,qaa n3)]
abbrev qtS (e1:Int) (e3:Int) (k:Nat):TmL:=[(11,.pp 9 0),(12,.pp 10 0),(23,.pv (iV (k:Int))),(13,.pp 13 0),(14,.pp 14 0),(15,.pv (iV e3)),(16,.pp 17 0),(17,.pp 18 0),(18,.pv (iV e3)),(19,.pp 20 0),(20,.pv (iV e1)),(21,.pp 22 0),(22,.pv (iV e1))]
theorem qhU {rt x y e3 e1 r1 r2 r3:Int} {l m n0 n1 n2 n3 c:List Pt} {p:Pt} {k n:Nat} (hlt:decide ((k:Int)<(l.length:Int))=true) (hin:0≤(k:Int)∧(k:Int)<(l.length:Int)) (hk:c[k]?=some p) (hgl:0*3+k*3+0+1≤(qah c).length) (ha:iV (IntKind.i64.wrap (p.id+1))=iV (y)) (hs:iV (IntKind.i64.wrap ((k:Int)+1))=iV (((k+1:Nat):Int))) {e:Exit} {tm2:TmL} {hp2:HpL}
 (r:Rl 3 3 5 0 134 23 ([(11,.pp 9 0),(12,.pp 10 0),(23,.pv (iV ((k+1:Nat):Int))),(13,.pp 13 0),(14,.pp 14 0),(15,.pv (iV e3)),(16,.pp 17 0),(17,.pp 18 0),(18,.pv (iV e3)),(19,.pp 20 0),(20,.pv (iV e1)),(21,.pp 22 0),(22,.pv (iV e1))]) ([(9,0,.pv (iV rt)),(9,1,.ls 7 l.length),(7,0,.row 26 3 l.length (qah (c.set k (Pt.mk y p.a p.b)))),(10,0,.pv (iV x)),(10,1,.ls 8 m.length),(8,0,.row 26 3 m.length (qah m)),(13,0,.pv (iV r1)),(13,1,.lq 11 3 0 n),(14,0,.pv (iV r2)),(14,1,.ls 12 n2.length),(17,0,.pv (iV r1)),(17,1,.ls 15 n1.length),(18,0,.pv (iV r2)),(18,1,.ls 16 n2.length),(20,0,.pv (iV r3)),(20,1,.ls 19 n3.length),(22,0,.pv (iV r3)),(22,1,.ls 21 n3.length),(11,0,qaa n0),(12,0,qaa n2),(15,0,qaa n1),(16,0,qaa n2),(19,0,qaa n3),(21,0,qaa n3)]) e tm2 hp2):Rl 3 3 5 0 134 23 (qtS e1 e3 k) (qrX c l m n n0 n1 n2 n3 r1 r2 r3 rt x) e tm2 hp2:=
 RunsL.next [] 300 [.t true,.r (iV p.id),Re ha,.w (qah (c.set k (Pt.mk y p.a p.b))),Re hs]
  (Ro (Ai hlt (Ai hin (Ai (qa3 hk) (Ai ha (Ai hin (Ai (qke hk y) (Ai hgl (Ai hs tI))))))))) r
abbrev qtN (e1:Int) (e3:Int):TmL:=[(11,.pp 9 0),(12,.pp 10 0),(13,.pp 13 0),(14,.pp 14 0),(15,.pv (iV e3)),(16,.pp 17 0),(17,.pp 18 0),(18,.pv (iV e3)),(19,.pp 20 0),(20,.pv (iV e1)),(21,.pp 22 0),(22,.pv (iV e1))]
theorem qjM {rt x e3 e1 r1 r2 r3:Int} {l m n0 n1 n2 n3 c:List Pt} {k n:Nat} (hlt:decide ((k:Int)<(l.length:Int))=false):Rl 3 3 5 0 134 23 (qtS e1 e3 k) (qrX c l m n n0 n1 n2 n3 r1 r2 r3 rt x) (.exit 0) (qtN e1 e3) (qrX c l m n n0 n1 n2 n3 r1 r2 r3 rt x):=
 RunsL.stop [] 300 [.t false] (fun h=>by cases h)
  (Ro (Ai hlt tI))
abbrev qtK (c:List Pt) (m:List Pt) (n:Nat) (n0:List Pt) (n1:List Pt) (n2:List Pt) (n3:List Pt) (r1:Int) (r2:Int) (r3:Int) (x:Int):HpL:=[(10,0,.pv (iV x)),(10,1,.ls 8 m.length),(8,0,.row 26 3 m.length (qah c)),(13,0,.pv (iV r1)),(13,1,.lq 11 3 0 n),(14,0,.pv (iV r2)),(14,1,.ls 12 n2.length),(17,0,.pv (iV r1)),(17,1,.ls 15 n1.length),(18,0,.pv (iV r2)),(18,1,.ls 16 n2.length),(20,0,.pv (iV r3)),(20,1,.ls 19 n3.length),(22,0,.pv (iV r3)),(22,1,.ls 21 n3.length),(11,0,qaa n0),(12,0,qaa n2),(15,0,qaa n1),(16,0,qaa n2),(19,0,qaa n3),(21,0,qaa n3)]
abbrev qtG (e1:Int) (e3:Int) (k:Nat):TmL:=[(12,.pp 10 0),(24,.pv (iV (k:Int))),(13,.pp 13 0),(14,.pp 14 0),(15,.pv (iV e3)),(16,.pp 17 0),(17,.pp 18 0),(18,.pv (iV e3)),(19,.pp 20 0),(20,.pv (iV e1)),(21,.pp 22 0),(22,.pv (iV e1))]
theorem qhA {x y e3 e1 r1 r2 r3:Int} {m n0 n1 n2 n3 c:List Pt} {p:Pt} {k n:Nat} (hlt:decide ((k:Int)<(m.length:Int))=true) (hin:0≤(k:Int)∧(k:Int)<(m.length:Int)) (hk:c[k]?=some p) (hgl:0*3+k*3+0+1≤(qah c).length) (ha:iV (IntKind.i64.wrap (p.id+1))=iV (y)) (hs:iV (IntKind.i64.wrap ((k:Int)+1))=iV (((k+1:Nat):Int))) {e:Exit} {tm2:TmL} {hp2:HpL}
 (r:Rl 3 3 5 1 134 23 ([(12,.pp 10 0),(24,.pv (iV ((k+1:Nat):Int))),(13,.pp 13 0),(14,.pp 14 0),(15,.pv (iV e3)),(16,.pp 17 0),(17,.pp 18 0),(18,.pv (iV e3)),(19,.pp 20 0),(20,.pv (iV e1)),(21,.pp 22 0),(22,.pv (iV e1))]) ([(10,0,.pv (iV x)),(10,1,.ls 8 m.length),(8,0,.row 26 3 m.length (qah (c.set k (Pt.mk y p.a p.b)))),(13,0,.pv (iV r1)),(13,1,.lq 11 3 0 n),(14,0,.pv (iV r2)),(14,1,.ls 12 n2.length),(17,0,.pv (iV r1)),(17,1,.ls 15 n1.length),(18,0,.pv (iV r2)),(18,1,.ls 16 n2.length),(20,0,.pv (iV r3)),(20,1,.ls 19 n3.length),(22,0,.pv (iV r3)),(22,1,.ls 21 n3.length),(11,0,qaa n0),(12,0,qaa n2),(15,0,qaa n1),(16,0,qaa n2),(19,0,qaa n3),(21,0,qaa n3)]) e tm2 hp2):Rl 3 3 5 1 134 23 (qtG e1 e3 k) (qtK c m n n0 n1 n2 n3 r1 r2 r3 x) e tm2 hp2:=
 RunsL.next [] 300 [.t true,.r (iV p.id),Re ha,.w (qah (c.set k (Pt.mk y p.a p.b))),Re hs]
  (Ro (Ai hlt (Ai hin (Ai (qa3 hk) (Ai ha (Ai hin (Ai (qke hk y) (Ai hgl (Ai hs tI))))))))) r
abbrev qtP (n:Nat) (n0:List Pt) (n1:List Pt) (n2:List Pt) (n3:List Pt) (r1:Int) (r2:Int) (r3:Int):HpL:=[(13,0,.pv (iV r1)),(13,1,.lq 11 3 0 n),(14,0,.pv (iV r2)),(14,1,.ls 12 n2.length),(17,0,.pv (iV r1)),(17,1,.ls 15 n1.length),(18,0,.pv (iV r2)),(18,1,.ls 16 n2.length),(20,0,.pv (iV r3)),(20,1,.ls 19 n3.length),(22,0,.pv (iV r3)),(22,1,.ls 21 n3.length),(11,0,qaa n0),(12,0,qaa n2),(15,0,qaa n1),(16,0,qaa n2),(19,0,qaa n3),(21,0,qaa n3)]
abbrev qtH (e1:Int) (e3:Int):TmL:=[(13,.pp 13 0),(14,.pp 14 0),(15,.pv (iV e3)),(16,.pp 17 0),(17,.pp 18 0),(18,.pv (iV e3)),(19,.pp 20 0),(20,.pv (iV e1)),(21,.pp 22 0),(22,.pv (iV e1))]
theorem qiR {x e3 e1 r1 r2 r3:Int} {m n0 n1 n2 n3 c:List Pt} {k n:Nat} (hlt:decide ((k:Int)<(m.length:Int))=false):Rl 3 3 5 1 134 23 (qtG e1 e3 k) (qtK c m n n0 n1 n2 n3 r1 r2 r3 x) (.exit 2) (qtH e1 e3) (qtP n n0 n1 n2 n3 r1 r2 r3):=
 RunsL.stop [] 300 [.t false] (fun h=>by cases h)
  (Ro (Ai hlt tI))
theorem qlF {rt x z e3 e1 tn td r1 r2 r3:Int} {s l m n0 n1 n2 n3 c:List Pt} {n:Nat} (hgf:qsC s) (hgx:Fn 26 1 [trS 0 rt l] [(0,0,qaa l)] (.pv (.bool false)) 0 []) (hgy:Fn 26 1 [trS 0 x m] [(0,0,qaa m)] (.pv (.bool false)) 0 []) (htx:Fn 27 1 [trS 0 rt l] [(0,0,qaa l)] (trS 1 rt l) 1 [(1,0,qaa l)]) (hty:Fn 27 1 [trS 0 x m] [(0,0,qaa m)] (trS 1 x m) 1 [(1,0,qaa m)]) (hs1:Fn 13 1 [trS 0 rt l,.pv (iV (z))] [(0,0,qaa l)] (.tu [.ag [.pv (iV r1),.lq 1 3 0 n],.ag [.pv (iV r2),.ls 2 n2.length],.one (.pv (iV e3))]) 2 [(1,0,qaa n0),(2,0,qaa n2)]) (hs2:Fn 36 1 [trS 0 rt l,.pv (iV (z))] [(0,0,qaa l)] (.tu [.ag [.pv (iV r1),.ls 1 n1.length],.ag [.pv (iV r2),.ls 2 n2.length],.one (.pv (iV e3))]) 2 [(1,0,qaa n1),(2,0,qaa n2)]) (hm1:Fn 14 3 [trS 0 rt l,trS 1 x m,qax 2 s,.pv (qad tn td)] (qpK l m s) (.tu [.ag [.pv (iV r3),.ls 3 n3.length],.one (.pv (iV e1))]) 1 [(3,0,qaa n3)]) (hm2:Fn 37 3 [trS 0 rt l,trS 1 x m,qax 2 s,.pv (qad tn td)] (qpK l m s) (.tu [.ag [.pv (iV r3),.ls 3 n3.length],.one (.pv (iV e1))]) 1 [(3,0,qaa n3)]) (hq1:Fn 22 2 [trS 0 rt l,trS 1 rt l] [(0,0,qaa l),(1,0,qaa l)] (.pv (.bool true)) 0 []) (hq2:Fn 22 2 [trS 0 x m,trS 1 x m] [(0,0,qaa m),(1,0,qaa m)] (.pv (.bool true)) 0 []) (hl0:Rl 3 3 5 0 134 23 ([(11,.pp 9 0),(12,.pp 10 0),(23,.pv (iV ((0:Nat):Int))),(13,.pp 13 0),(14,.pp 14 0),(15,.pv (iV e3)),(16,.pp 17 0),(17,.pp 18 0),(18,.pv (iV e3)),(19,.pp 20 0),(20,.pv (iV e1)),(21,.pp 22 0),(22,.pv (iV e1))]) ([(9,0,.pv (iV rt)),(9,1,.ls 7 l.length),(7,0,.row 26 3 l.length (qah l)),(10,0,.pv (iV x)),(10,1,.ls 8 m.length),(8,0,.row 26 3 m.length (qah m)),(13,0,.pv (iV r1)),(13,1,.lq 11 3 0 n),(14,0,.pv (iV r2)),(14,1,.ls 12 n2.length),(17,0,.pv (iV r1)),(17,1,.ls 15 n1.length),(18,0,.pv (iV r2)),(18,1,.ls 16 n2.length),(20,0,.pv (iV r3)),(20,1,.ls 19 n3.length),(22,0,.pv (iV r3)),(22,1,.ls 21 n3.length),(11,0,qaa n0),(12,0,qaa n2),(15,0,qaa n1),(16,0,qaa n2),(19,0,qaa n3),(21,0,qaa n3)]) (.exit 0) (qtN e1 e3) (qrX c l m n n0 n1 n2 n3 r1 r2 r3 rt x)) (hl1:Rl 3 3 5 1 134 23 ([(12,.pp 10 0),(24,.pv (iV ((0:Nat):Int))),(13,.pp 13 0),(14,.pp 14 0),(15,.pv (iV e3)),(16,.pp 17 0),(17,.pp 18 0),(18,.pv (iV e3)),(19,.pp 20 0),(20,.pv (iV e1)),(21,.pp 22 0),(22,.pv (iV e1))]) ([(10,0,.pv (iV x)),(10,1,.ls 8 m.length),(8,0,.row 26 3 m.length (qah m)),(13,0,.pv (iV r1)),(13,1,.lq 11 3 0 n),(14,0,.pv (iV r2)),(14,1,.ls 12 n2.length),(17,0,.pv (iV r1)),(17,1,.ls 15 n1.length),(18,0,.pv (iV r2)),(18,1,.ls 16 n2.length),(20,0,.pv (iV r3)),(20,1,.ls 19 n3.length),(22,0,.pv (iV r3)),(22,1,.ls 21 n3.length),(11,0,qaa n0),(12,0,qaa n2),(15,0,qaa n1),(16,0,qaa n2),(19,0,qaa n3),(21,0,qaa n3)]) (.exit 2) (qtH e1 e3) (qtP n n0 n1 n2 n3 r1 r2 r3)) (hq3:Fn 22 2 [.ag [.pv (iV r1),.lq 0 3 0 n],trS 1 r1 n1] [(0,0,qaa n0),(1,0,qaa n1)] (.pv (.bool true)) 0 []) (hq4:Fn 22 2 [trS 0 r2 n2,trS 1 r2 n2] [(0,0,qaa n2),(1,0,qaa n2)] (.pv (.bool true)) 0 []) (hq5:Fn 22 2 [trS 0 r3 n3,trS 1 r3 n3] [(0,0,qaa n3),(1,0,qaa n3)] (.pv (.bool true)) 0 []) :
 Fn 5 3 [trS 0 rt l,trS 1 x m,.pv (iV (z)),qax 2 s,.pv (qad tn td)] (qpK l m s) (.pv (.bool true)) 0 []:=
 qcN 700 [] [Cf hgf [2],Cf hgx [0],Cf hgy [1],.md,Cf htx [0],Cf hty [1],Cf hs1 [7],Cf hs2 [0],Cf hm1 [7,8,2],Cf hm1 [0,1,2],Cf hq1 [7,0],.k,Cf hq2 [8,1],.k,Lf hl0,Lf hl1,Cf hq3 [11,15],Cf hq4 [12,16],.t true,Cf hq5 [19,21],.t true]
  tI (Co hgf [2] 7 (Co hgx [0] 7 (Co hgy [1] 7 (Co htx [0] 7 (Co hty [1] 8 (Co hs1 [7] 11 (Co hs2 [0] 15 (Co hm1 [7,8,2] 19 (Co hm2 [0,1,2] 21 (Co hq1 [7,0] 23 (Co hq2 [8,1] 23 (Lo hl0 [] (Lo hl1 [] (Co hq3 [11,15] 23 (Co hq4 [12,16] 23 (Ai (qjK e3) (Co hq5 [19,21] 23 (Ai (qjK e1) tI)))))))))))))))))) (by kernel_rfl)
end Go.Proofs.Ytalnjplghagbpaa

namespace Go.Proofs.Ytalnjplghagbpaa
set_option maxRecDepth 100000
open Go.RowKit
open Classical in
noncomputable def pT (p:Prop):Bool:=decide p
open Classical in
theorem qeH {p:Prop} (h:p):pT p=true:=by unfold pT;exact decide_eq_true h
open Classical in
theorem qft {p:Prop} (h:¬ p):pT p=false:=by unfold pT;exact decide_eq_false h
theorem qeA {n:Int} (h0 : -9223372036854775808≤n) (h1:n≤9223372036854775807):iV (IntKind.i64.wrap n)=iV n:=by
 rw[show IntKind.i64.wrap n=n by rw[IntKind.wrap_i64];omega]
section
variable {rt x:Int} {l m:List Pt}
theorem qiH (z:Int):Fn 70 1 [trS 0 rt l,.pv (iV z)] [(0,0,qaa l)] (.pv (.bool (pT (-1≤z∧z<(l.length:Int))))) 0 []:=by
 by_cases h1 : -1≤z
 ·by_cases h2:z<(l.length:Int)
  ·rw[qeH ⟨h1,h2⟩];exact qlW (h1:=dt (by omega)) (h2:=dt h2)
  ·rw[qft fun h=>h2 h.2];exact qip (h1:=dt (by omega)) (h2:=df h2)
 ·rw[qft fun h=>h1 h.1];exact qqH (h1:=df (by omega))
theorem qdg (hn:l.length≤1000000):Fn 39 1 [trS 0 rt l] [(0,0,qaa l)] (.pv (.bool (pT (Up l)))) 0 []:=by
 have step:∀ k,1≤k→(∀ j,1≤j→j<k→∀ p q,l[j-1]?=some p→l[j]?=some q→p.id<q.id)→∀ {e:Exit} {tm2:TmL} {hp2:HpL},k≤l.length→
  Rl 1 1 39 0 25 2 [(1,.pp 1 0),(3,.pv (iV (k:Int)))] [(1,0,.pv (iV rt)),(1,1,.ls 0 l.length),(0,0,qaa l)] e tm2 hp2→
  Rl 1 1 39 0 25 2 [(1,.pp 1 0),(3,.pv (iV ((1:Nat):Int)))] [(1,0,.pv (iV rt)),(1,1,.ls 0 l.length),(0,0,qaa l)] e tm2 hp2:=by
  intro k h1 hk e tm2 hp2 hkl r
  refine RunsL.rounds (fun j=>[(1,.pp 1 0),(3,.pv (iV (j:Int)))]) (fun _=>[(1,0,.pv (iV rt)),(1,1,.ls 0 l.length),(0,0,qaa l)]) (N:=k) (k-1) 1 (by omega) (fun j hj1 hj r=>?_) r
  obtain⟨p,hp⟩:=qak (l:=l) (k:=j-1) (by omega)
  obtain⟨q,hq⟩:=qak (l:=l) (k:=j) (by omega)
  have:=hk j hj1 hj p q hp hq
  exact qlG (j:=j-1) (hlt:=dt (by omega)) (hs1:=by rw[qeA (by omega) (by omega)];congr 1;omega) (hj:=hp) (hinj:=⟨by omega,by omega⟩) (hk:=hq) (hin:=⟨by omega,by omega⟩) (hc:=df (by omega)) (hs:=qau (by omega)) r
 rcases qaN (fun k=>1≤k→∀ p q,l[k-1]?=some p→l[k]?=some q→p.id<q.id) l.length with h | ⟨k,hk,hb,hf⟩
 ·rw[qeH (p:=Up l) fun k p q hp hq=>h (k+1) (qai hq) (by omega) p q hp hq]
  rcases Nat.eq_zero_or_pos l.length with e | e
  ·exact qjm (r0:=qiw (hlt:=df (by omega)))
  ·exact qjm (r0:=step l.length e (fun j h1 hj=>h j hj h1) (Nat.le_refl _) (qiw (hlt:=df (by omega))))
 ·simp only[Classical.not_forall] at hb
  obtain⟨h1,p,q,hp,hq,hlt⟩:=hb
  rw[qft (p:=Up l) fun hu=>by
   have:=hu (k-1) p q hp (by rw[show k-1+1=k by omega];exact hq)
   omega]
  exact qqy (r0:=step k h1 (fun j h1 hj=>hf j hj h1) (by omega) (qpg (j:=k-1) (hlt:=dt (by omega)) (hs1:=by rw[qeA (by omega) (by omega)];congr 1;omega) (hj:=hp) (hinj:=⟨by omega,by omega⟩) (hk:=hq) (hin:=⟨by omega,by omega⟩) (hc:=dt (by omega))))
theorem qfP (lo hi:Nat):∀ {T:Sh Nat} {z:Int},Rep l z T→Fn 98 1 [trS 0 rt l,.pv (iV z),.pv (iV (lo:Int)),.pv (iV (hi:Int))] [(0,0,qaa l)] (.pv (iV (rtI (res lo hi T)))) 0 []:=by
 have run:∀ (T:Sh Nat) (z:Int),Rep l z T→Rl 1 1 98 0 37 2 [(1,.pv (iV z)),(2,.pv (iV (lo:Int))),(3,.pv (iV (hi:Int))),(4,.pp 1 0)] [(1,0,.pv (iV rt)),(1,1,.ls 0 l.length),(0,0,qaa l)] (.exit 0) [(1,.pv (iV (rtI (res lo hi T))))] []:=by
  intro T
  induction T with
  | nil=>
   intro z h
   have e:z = -1:=h
   subst e
   exact qou (h0:=by decide)
  | node a k b ia ib=>
   intro z ⟨hz,p,hp,a1,a2⟩
   subst hz
   have hkl:=qai hp
   unfold res
   by_cases h1:k<lo
   ·rw[if_pos h1]
    exact qsn (h0:=dt (by omega)) (hk:=hp) (hin:=⟨by omega,by omega⟩) (h1:=dt (by omega)) (ib _ a2)
   ·rw[if_neg h1]
    by_cases h2:hi≤k
    ·rw[if_pos h2]
     exact qsk (h0:=dt (by omega)) (hk:=hp) (hin:=⟨by omega,by omega⟩) (h1:=df (by omega)) (h2:=dt (by omega)) (ia _ a1)
    ·rw[if_neg h2]
     exact qqe (h0:=dt (by omega)) (h1:=df (by omega)) (h2:=df (by omega))
 intro T z h
 exact qld (r0:=run T z h)
theorem qjh (hn:l.length≤1000000):Fn 22 2 [trS 0 rt l,trS 1 rt l] [(0,0,qaa l),(1,0,qaa l)] (.pv (.bool true)) 0 []:=
 qoE (r0:=RunsL.rounds (fun k=>[(2,.pp 2 0),(3,.pp 3 0),(5,.pv (iV (k:Int)))]) (fun _=>[(2,0,.pv (iV rt)),(2,1,.ls 0 l.length),(3,0,.pv (iV rt)),(3,1,.ls 1 l.length),(0,0,qaa l),(1,0,qaa l)]) (N:=l.length) l.length 0 (Nat.zero_add _) (fun k _ hk r=>by
  obtain⟨p,hp⟩:=qak hk
  exact qkM (hlt:=dt (by omega)) (hk:=hp) (hin:=qaZ hk) (hs:=qau (by omega)) r) (qpe (hlt:=df (by omega))))
end
end Go.Proofs.Ytalnjplghagbpaa

namespace Go.Proofs.Ytalnjplghagbpaa
set_option maxRecDepth 100000
open Go.RowKit
section
variable {s:List Pt} {tn td:Int}
theorem qsW {i k:Nat} (hs:Val s) (hi:i<s.length) (hk:k<s.length) (h:k≠i):(ndT s i).id≠(ndT s k).id:=fun e=>by
 rcases Nat.lt_trichotomy i k with h0 | h0 | h0
 ·have:=hs.up.mono h0 (qas hi) (qas hk);omega
 ·exact h h0.symm
 ·have:=hs.up.mono h0 (qas hk) (qas hi);omega
end
end Go.Proofs.Ytalnjplghagbpaa

namespace Go.Proofs.Ytalnjplghagbpaa
set_option maxRecDepth 100000
open Go.RowKit
theorem qaM {l:List Pt} {z:Int} {p:Pt} (h:l[z.toNat]?=some p):qcQ (qah l) (0*3+z.toNat*3) [iV p.id]:=qa3 h
theorem qgz {l:List Pt} {k:Nat} {p:Pt} (h:l[k]?=some p):qcQ (qah l) (0*3+k*3+1) [iV p.a]:=qbI (z:=(k:Int)) h
theorem qgq {l:List Pt} {k:Nat} {p:Pt} (h:l[k]?=some p):qcQ (qah l) (0*3+k*3+2) [iV p.b]:=qbP (z:=(k:Int)) h
theorem qjB (n:Nat):some (SV.row 3 1 n (qcz [iV 0] n))=some (SV.row 3 1 n (ziV (List.replicate n 0))):=by rw[qns]
theorem qjP:∀ (m:List Pt) (p:Pt),qah (m++[p])=qah m++[iV p.id,iV p.a,iV p.b]
 | [],_=>rfl
 | q::r,p=>congrArg (fun l=>iV q.id::iV q.a::iV q.b::l) (qjP r p)
theorem qrD (b:Nat) (m:List Pt) (p:Pt):some (SV.ls b (m.length+1))=some (SV.ls b (m++[p]).length):=by rw[List.length_append];rfl
theorem qo1 (m:List Pt) (p:Pt):some (SV.row 26 3 (m.length+1) (qah m++[iV p.id,iV p.a,iV p.b]))=some (qaa (m++[p])):=by
 rw[← qjP m p,qaa,List.length_append];rfl
abbrev qe0 (g:List Int) (l:List Pt) (rt:Int):HpL:=[(1,0,.pv (iV rt)),(1,1,.ls 0 l.length),(0,0,qaa l),(2,0,.row 3 1 l.length (ziV g))]
abbrev qpZ (k:Nat) (l:List Pt):TmL:=[(1,.pp 1 0),(3,.ls 2 l.length),(4,.pv (iV (k:Int)))]
abbrev qsb (k:Nat) (l:List Pt):TmL:=[(1,.pp 1 0),(3,.ls 2 l.length),(4,.pv (iV ((k+1:Nat):Int)))]
theorem qq5 {rt:Int} {l:List Pt} {p:Pt} {k:Nat} {y1 y2 e1 e2:Int} {g:List Int} (hlt:decide ((k:Int)<(l.length:Int))=true) (hk:l[k]?=some p) (hin:0≤(k:Int)∧(k:Int)<(l.length:Int)) (ha:decide (p.a≥0)=true) (hia:0≤p.a∧p.a<(l.length:Int)) (hga:g[p.a.toNat]?=some y1) (hgl:p.a.toNat<g.length) (hy1:iV (IntKind.i64.wrap (y1+1))=iV (e1)) (hb:decide (p.b≥0)=true) (hib:0≤p.b∧p.b<(l.length:Int)) (hgb:(g.set p.a.toNat e1)[p.b.toNat]?=some y2) (hgm:p.b.toNat<(g.set p.a.toNat e1).length) (hy2:iV (IntKind.i64.wrap (y2+1))=iV (e2)) (hs:iV (IntKind.i64.wrap ((k:Int)+1))=iV (((k+1:Nat):Int))) {e:Exit} {tm2:TmL} {hp2:HpL}
 (r:Rl 1 1 71 0 77 3 (qsb k l) ([(1,0,.pv (iV rt)),(1,1,.ls 0 l.length),(0,0,qaa l),(2,0,.row 3 1 l.length (ziV ((g.set p.a.toNat e1).set p.b.toNat e2)))]) e tm2 hp2):Rl 1 1 71 0 77 3 (qpZ k l) (qe0 g l rt) e tm2 hp2:=
 RunsL.next [] 300 [.t true,.r (iV p.a),.t true,.r (iV y1),Re hy1,.w (ziV (g.set p.a.toNat e1)),.r (iV p.b),.t true,.r (iV y2),Re hy2,.w (ziV ((g.set p.a.toNat e1).set p.b.toNat e2)),Re hs]
  (Ro (Ai hlt (Ai hin (Ai (qgz hk) (Ai ha (Ai hia (Ai (qmS hga) (Ai hy1 (Ai hia (Ai (qr2 g p.a.toNat e1 hgl) (Ai (qgv g p.a.toNat hgl) (Ai hin (Ai (qgq hk) (Ai hb (Ai hib (Ai (qmS hgb) (Ai hy2 (Ai hib (Ai (qr2 (g.set p.a.toNat e1) p.b.toNat e2 hgm) (Ai (qgv (g.set p.a.toNat e1) p.b.toNat hgm) (Ai hs tI))))))))))))))))))))) r
theorem qqA {rt:Int} {l:List Pt} {p:Pt} {k:Nat} {y1 e1:Int} {g:List Int} (hlt:decide ((k:Int)<(l.length:Int))=true) (hk:l[k]?=some p) (hin:0≤(k:Int)∧(k:Int)<(l.length:Int)) (ha:decide (p.a≥0)=true) (hia:0≤p.a∧p.a<(l.length:Int)) (hga:g[p.a.toNat]?=some y1) (hgl:p.a.toNat<g.length) (hy1:iV (IntKind.i64.wrap (y1+1))=iV (e1)) (hb:decide (p.b≥0)=false) (hs:iV (IntKind.i64.wrap ((k:Int)+1))=iV (((k+1:Nat):Int))) {e:Exit} {tm2:TmL} {hp2:HpL}
 (r:Rl 1 1 71 0 77 3 (qsb k l) ([(1,0,.pv (iV rt)),(1,1,.ls 0 l.length),(0,0,qaa l),(2,0,.row 3 1 l.length (ziV (g.set p.a.toNat e1)))]) e tm2 hp2):Rl 1 1 71 0 77 3 (qpZ k l) (qe0 g l rt) e tm2 hp2:=
 RunsL.next [] 300 [.t true,.r (iV p.a),.t true,.r (iV y1),Re hy1,.w (ziV (g.set p.a.toNat e1)),.r (iV p.b),.t false,Re hs]
  (Ro (Ai hlt (Ai hin (Ai (qgz hk) (Ai ha (Ai hia (Ai (qmS hga) (Ai hy1 (Ai hia (Ai (qr2 g p.a.toNat e1 hgl) (Ai (qgv g p.a.toNat hgl) (Ai hin (Ai (qgq hk) (Ai hb (Ai hs tI))))))))))))))) r
theorem qqK {rt:Int} {l:List Pt} {p:Pt} {k:Nat} {y2 e2:Int} {g:List Int} (hlt:decide ((k:Int)<(l.length:Int))=true) (hk:l[k]?=some p) (hin:0≤(k:Int)∧(k:Int)<(l.length:Int)) (ha:decide (p.a≥0)=false) (hb:decide (p.b≥0)=true) (hib:0≤p.b∧p.b<(l.length:Int)) (hgb:g[p.b.toNat]?=some y2) (hgm:p.b.toNat<g.length) (hy2:iV (IntKind.i64.wrap (y2+1))=iV (e2)) (hs:iV (IntKind.i64.wrap ((k:Int)+1))=iV (((k+1:Nat):Int))) {e:Exit} {tm2:TmL} {hp2:HpL}
 (r:Rl 1 1 71 0 77 3 (qsb k l) ([(1,0,.pv (iV rt)),(1,1,.ls 0 l.length),(0,0,qaa l),(2,0,.row 3 1 l.length (ziV (g.set p.b.toNat e2)))]) e tm2 hp2):Rl 1 1 71 0 77 3 (qpZ k l) (qe0 g l rt) e tm2 hp2:=
 RunsL.next [] 300 [.t true,.r (iV p.a),.t false,.r (iV p.b),.t true,.r (iV y2),Re hy2,.w (ziV (g.set p.b.toNat e2)),Re hs]
  (Ro (Ai hlt (Ai hin (Ai (qgz hk) (Ai ha (Ai hin (Ai (qgq hk) (Ai hb (Ai hib (Ai (qmS hgb) (Ai hy2 (Ai hib (Ai (qr2 g p.b.toNat e2 hgm) (Ai (qgv g p.b.toNat hgm) (Ai hs tI))))))))))))))) r
theorem qqG {rt:Int} {l:List Pt} {p:Pt} {k:Nat} {g:List Int} (hlt:decide ((k:Int)<(l.length:Int))=true) (hk:l[k]?=some p) (hin:0≤(k:Int)∧(k:Int)<(l.length:Int)) (ha:decide (p.a≥0)=false) (hb:decide (p.b≥0)=false) (hs:iV (IntKind.i64.wrap ((k:Int)+1))=iV (((k+1:Nat):Int))) {e:Exit} {tm2:TmL} {hp2:HpL}
 (r:Rl 1 1 71 0 77 3 (qsb k l) (qe0 g l rt) e tm2 hp2):Rl 1 1 71 0 77 3 (qpZ k l) (qe0 g l rt) e tm2 hp2:=
 RunsL.next [] 300 [.t true,.r (iV p.a),.t false,.r (iV p.b),.t false,Re hs]
  (Ro (Ai hlt (Ai hin (Ai (qgz hk) (Ai ha (Ai hin (Ai (qgq hk) (Ai hb (Ai hs tI))))))))) r
theorem qo8 {rt:Int} {l:List Pt} {k:Nat} {g:List Int} (hlt:decide ((k:Int)<(l.length:Int))=false):Rl 1 1 71 0 77 3 (qpZ k l) (qe0 g l rt) (.exit 0) ([(1,.pp 1 0),(3,.ls 2 l.length)]) (qe0 g l rt):=
 RunsL.stop [] 300 [.t false] (fun h=>by cases h)
  (Ro (Ai hlt tI))
abbrev qrg (k:Nat) (l:List Pt):TmL:=[(1,.pp 1 0),(3,.ls 2 l.length),(7,.pv (iV (k:Int)))]
theorem qmx {rt x:Int} {l:List Pt} {k:Nat} {g:List Int} (hlt:decide ((k:Int)<(l.length:Int))=true) (hr:((k:Int)==rt)=true) (hg:g[k]?=some x) (hin:0≤(k:Int)∧(k:Int)<(l.length:Int)) (h0:(x !=0)=false) (hr2:((k:Int) !=rt)=false) (hs:iV (IntKind.i64.wrap ((k:Int)+1))=iV (((k+1:Nat):Int))) {e:Exit} {tm2:TmL} {hp2:HpL}
 (r:Rl 1 1 71 1 77 3 ([(1,.pp 1 0),(3,.ls 2 l.length),(7,.pv (iV ((k+1:Nat):Int)))]) (qe0 g l rt) e tm2 hp2):Rl 1 1 71 1 77 3 (qrg k l) (qe0 g l rt) e tm2 hp2:=
 RunsL.next [] 300 [.t true,.t true,.r (iV x),.t false,.t false,Re hs]
  (Ro (Ai hlt (Ai hr (Ai hin (Ai (qih hg) (Ai h0 (Ai hr2 (Ai hs tI)))))))) r
theorem qkQ {rt x:Int} {l:List Pt} {k:Nat} {g:List Int} (hlt:decide ((k:Int)<(l.length:Int))=true) (hr:((k:Int)==rt)=false) (hg:g[k]?=some x) (hin:0≤(k:Int)∧(k:Int)<(l.length:Int)) (hr2:((k:Int) !=rt)=true) (h1:(x !=1)=false) (hs:iV (IntKind.i64.wrap ((k:Int)+1))=iV (((k+1:Nat):Int))) {e:Exit} {tm2:TmL} {hp2:HpL}
 (r:Rl 1 1 71 1 77 3 ([(1,.pp 1 0),(3,.ls 2 l.length),(7,.pv (iV ((k+1:Nat):Int)))]) (qe0 g l rt) e tm2 hp2):Rl 1 1 71 1 77 3 (qrg k l) (qe0 g l rt) e tm2 hp2:=
 RunsL.next [] 300 [.t true,.t false,.t true,.r (iV x),.t false,Re hs]
  (Ro (Ai hlt (Ai hr (Ai hr2 (Ai hin (Ai (qih hg) (Ai h1 (Ai hs tI)))))))) r
theorem qi7 {rt x:Int} {l:List Pt} {k:Nat} {g:List Int} (hlt:decide ((k:Int)<(l.length:Int))=true) (hr:((k:Int)==rt)=true) (hg:g[k]?=some x) (hin:0≤(k:Int)∧(k:Int)<(l.length:Int)) (h0:(x !=0)=true):Rl 1 1 71 1 77 3 (qrg k l) (qe0 g l rt) (.ret) ([(2,.pv (.bool false))]) ([]):=
 RunsL.stop [] 300 [.t true,.t true,.r (iV x),.t true] (fun h=>by cases h)
  (Ro (Ai hlt (Ai hr (Ai hin (Ai (qih hg) (Ai h0 tI))))))
theorem qjS {rt x:Int} {l:List Pt} {k:Nat} {g:List Int} (hlt:decide ((k:Int)<(l.length:Int))=true) (hr:((k:Int)==rt)=false) (hg:g[k]?=some x) (hin:0≤(k:Int)∧(k:Int)<(l.length:Int)) (hr2:((k:Int) !=rt)=true) (h1:(x !=1)=true):Rl 1 1 71 1 77 3 (qrg k l) (qe0 g l rt) (.ret) ([(2,.pv (.bool false))]) ([]):=
 RunsL.stop [] 300 [.t true,.t false,.t true,.r (iV x),.t true] (fun h=>by cases h)
  (Ro (Ai hlt (Ai hr (Ai hr2 (Ai hin (Ai (qih hg) (Ai h1 tI)))))))
theorem qls {rt:Int} {l:List Pt} {k:Nat} {g:List Int} (hlt:decide ((k:Int)<(l.length:Int))=false):Rl 1 1 71 1 77 3 (qrg k l) (qe0 g l rt) (.exit 2) ([]) ([]):=
 RunsL.stop [] 300 [.t false] (fun h=>by cases h)
  (Ro (Ai hlt tI))
abbrev qtI (g:List Int) (l:List Pt) (rt:Int):Prop:=Rl 1 1 71 0 77 3 ([(1,.pp 1 0),(3,.ls 2 l.length),(4,.pv (iV ((0:Nat):Int)))]) ([(1,0,.pv (iV rt)),(1,1,.ls 0 l.length),(0,0,qaa l),(2,0,.row 3 1 l.length (ziV (List.replicate l.length 0)))]) (.exit 0) ([(1,.pp 1 0),(3,.ls 2 l.length)]) (qe0 g l rt)
theorem qoX {rt:Int} {l:List Pt} {g:List Int} (n0:0≤(l.length:Int)) (n1:(l.length:Int)≤1000000) (r0:qtI g l rt) (r1:Rl 1 1 71 1 77 3 ([(1,.pp 1 0),(3,.ls 2 l.length),(7,.pv (iV ((0:Nat):Int)))]) (qe0 g l rt) (.exit 2) ([]) ([])) :
 Fn 71 1 [trS 0 rt l] [(0,0,qaa l)] (.pv (.bool true)) 0 []:=
 Fz [] [Lf r0,Lf r1]
  tI (Ai n0 (Ai (Eq.refl (l.length:Int)) (Ai n1 (Ai (Lt r0 []) (Ai (Ai (Er (SV.pv (iV rt))) (Ai (Er (SV.ls 0 l.length)) (Ai (Er (qaa l)) (Ai (qjB l.length) tI)))) (Ai r0 (Lo r1 [] tI)))))))
theorem qrp {rt:Int} {l:List Pt} {g:List Int} (n0:0≤(l.length:Int)) (n1:(l.length:Int)≤1000000) (r0:qtI g l rt) (r1:Rl 1 1 71 1 77 3 ([(1,.pp 1 0),(3,.ls 2 l.length),(7,.pv (iV ((0:Nat):Int)))]) (qe0 g l rt) (.ret) ([(2,.pv (.bool false))]) ([])) :
 Fn 71 1 [trS 0 rt l] [(0,0,qaa l)] (.pv (.bool false)) 0 []:=
 Fz [] [Lf r0,Lf r1]
  tI (Ai n0 (Ai (Eq.refl (l.length:Int)) (Ai n1 (Ai (Lt r0 []) (Ai (Ai (Er (SV.pv (iV rt))) (Ai (Er (SV.ls 0 l.length)) (Ai (Er (qaa l)) (Ai (qjB l.length) tI)))) (Ai r0 (Lo r1 [] tI)))))))
abbrev qrY (l:List Pt) (m:List Pt) (rt:Int) (y:Int):HpL:=[(1,0,.pv (iV rt)),(1,1,.ls 0 l.length),(2,0,.pv (iV 0)),(2,1,.pv (.slice none 0 0)),(3,0,.pv (iV y)),(3,1,.ls 4 (m).length),(0,0,qaa l),(4,0,qaa (m))]
theorem qkL {rt y:Int} {l m:List Pt} {p:Pt} {j k n:Nat} {y1 y2 e1 e2:Int} (hlt:decide ((k:Int)<(j:Int))=true) (hk:l[k]?=some p) (hin:0≤(k:Int)∧(k:Int)<(l.length:Int)) (hi1:Fn 98 1 [trS 0 rt l,.pv (iV p.a),.pv (iV (n:Int)),.pv (iV (j:Int))] [(0,0,qaa l)] (.pv (iV (e1))) 0 []) (hs1:Pure Try.prog 97 #[iV (e1),iV (n:Int)] (iV (y1))) (hi2:Fn 98 1 [trS 0 rt l,.pv (iV p.b),.pv (iV (n:Int)),.pv (iV (j:Int))] [(0,0,qaa l)] (.pv (iV (e2))) 0 []) (hs2:Pure Try.prog 97 #[iV (e2),iV (n:Int)] (iV (y2))) (hm:m.length+1≤1000000) (hs:iV (IntKind.i64.wrap ((k:Int)+1))=iV (((k+1:Nat):Int))) {e:Exit} {tm2:TmL} {hp2:HpL}
 (r:Rl 1 1 74 0 55 5 ([(1,.pv (iV (n:Int))),(2,.pv (iV (j:Int))),(3,.pp 1 0),(6,.pp 2 0),(7,.pp 3 0),(8,.pv (iV ((k+1:Nat):Int)))]) ([(1,0,.pv (iV rt)),(1,1,.ls 0 l.length),(2,0,.pv (iV 0)),(2,1,.pv (.slice none 0 0)),(3,0,.pv (iV y)),(3,1,.ls 4 (m++[(Pt.mk p.id y1 y2)]).length),(0,0,qaa l),(4,0,qaa (m++[(Pt.mk p.id y1 y2)]))]) e tm2 hp2):Rl 1 1 74 0 55 5 ([(1,.pv (iV (n:Int))),(2,.pv (iV (j:Int))),(3,.pp 1 0),(6,.pp 2 0),(7,.pp 3 0),(8,.pv (iV (k:Int)))]) (qrY l m rt y) e tm2 hp2:=
 RunsL.next [(4,7)] 300 [.t true,.r (ptV p),.md,Cf hi1 [0],Rf hs1,Cf hi2 [0],Rf hs2,Re hs]
  (Rh (Ai (Er (SV.pv (iV rt))) (Ai (Er (SV.ls 0 l.length)) (Ai (Er (SV.pv (iV 0))) (Ai (Er (SV.pv (.slice none 0 0))) (Ai (Er (SV.pv (iV y))) (Ai (qrD 7 m (Pt.mk p.id y1 y2)) (Ai (Er (qaa l)) (Ai (qo1 m (Pt.mk p.id y1 y2)) tI)))))))) (Ai hlt (Ai hin (Ai (qa0 hk) (Co hi1 [0] 6 (Ai hs1 (Co hi2 [0] 6 (Ai hs2 (Ai hm (Ai hs tI)))))))))) r
theorem qpc {rt y:Int} {l m:List Pt} {j k n:Nat} (hlt:decide ((k:Int)<(j:Int))=false):Rl 1 1 74 0 55 5 ([(1,.pv (iV (n:Int))),(2,.pv (iV (j:Int))),(3,.pp 1 0),(6,.pp 2 0),(7,.pp 3 0),(8,.pv (iV (k:Int)))]) (qrY l m rt y) (.exit 0) ([(6,.pp 2 0),(7,.pp 3 0)]) (qrY l m rt y):=
 RunsL.stop [] 300 [.t false] (fun h=>by cases h)
  (Ro (Ai hlt tI))
theorem qli {rt y z:Int} {l m:List Pt} {j n:Nat} (hi0:Fn 98 1 [trS 0 rt l,.pv (iV rt),.pv (iV (n:Int)),.pv (iV (j:Int))] [(0,0,qaa l)] (.pv (iV (z))) 0 []) (hs0:Pure Try.prog 97 #[iV (z),iV (n:Int)] (iV (y))) (r0:Rl 1 1 74 0 55 5 ([(1,.pv (iV (n:Int))),(2,.pv (iV (j:Int))),(3,.pp 1 0),(6,.pp 2 0),(7,.pp 3 0),(8,.pv (iV (n:Int)))]) ([(1,0,.pv (iV rt)),(1,1,.ls 0 l.length),(2,0,.pv (iV 0)),(2,1,.pv (.slice none 0 0)),(3,0,.pv (iV y)),(3,1,.ls 4 ([]:List Pt).length),(0,0,qaa l),(4,0,qaa ([]:List Pt))]) (.exit 0) ([(6,.pp 2 0),(7,.pp 3 0)]) (qrY l m rt y)) :
 Fn 74 1 [trS 0 rt l,.pv (iV (n:Int)),.pv (iV (j:Int))] [(0,0,qaa l)] (trS 1 y m) 1 [(1,0,qaa m)]:=
 Fz [(1,4)] [Cf hi0 [0],Rf hs0,.ln false 3 1 26 3,Lf r0]
  (qaj (qaB [(1,4)]) [(1,0,qaa m)]) (Co hi0 [0] 3 (Ai hs0 (Lo r0 [] tI)))
end Go.Proofs.Ytalnjplghagbpaa

namespace Go.Proofs.Ytalnjplghagbpaa
set_option maxRecDepth 100000
open Go.RowKit
section
variable {rt:Int} {l:List Pt}
def BestI (l:List Pt) (tn td:Int) (n k:Nat) (z:Int):Prop:=(k≤n∧z = -1)∨(∃ b:Nat,z=(b:Int)∧n≤b∧b<k∧∀ j,n≤j→j<k→j≠b→ld tn td (ndT l b) (ndT l j)=true)
variable {tn td:Int}
theorem BestI.uniq {n k:Nat} {z y:Int} (h:BestI l tn td n k z) (h':BestI l tn td n k y):z=y:=by
 rcases h with ⟨h1,rfl⟩ | ⟨b,rfl,h2,h3,h4⟩
 ·rcases h' with ⟨_,rfl⟩ | ⟨c,rfl,k2,k3,_⟩
  ·rfl
  ·omega
 ·rcases h' with ⟨k1,_⟩ | ⟨c,rfl,k2,k3,k4⟩
  ·omega
  ·by_cases e:b=c
   ·rw[e]
   ·have a1:=h4 c k2 k3 fun k=>e k.symm
    have a2:=k4 b h2 h3 e
    rw[qeE a1] at a2
    cases a2
end
end Go.Proofs.Ytalnjplghagbpaa

namespace Go.Proofs.Ytalnjplghagbpaa
set_option maxRecDepth 100000
open Go.RowKit
def cK (l:List Pt) (k v:Nat):Nat:=((List.range k).map fun u=>lk l u v).sum
theorem qjj (l:List Pt) (k v:Nat):cK l (k+1) v=cK l k v+lk l k v:=by
 unfold cK
 rw[List.range_succ,List.map_append,List.sum_append]
 simp
theorem qrh (l:List Pt) (u:Nat) (v:Int):lk l u v≤2:=by
 unfold lk
 split
 ·split<;>split<;>omega
 ·omega
theorem qql (l:List Pt) (v:Nat):∀ k,cK l k v≤2*k
 | 0=>Nat.le_refl _
 | k+1=>by rw[qjj];have:=qql l v k;have:=qrh l k v;omega
def gK (l:List Pt) (k:Nat):List Int:=(List.range l.length).map fun v=>(cK l k v:Int)
theorem qeV (l:List Pt) (k:Nat):(gK l k).length=l.length:=by unfold gK;rw[List.length_map,List.length_range]
theorem qeo (l:List Pt) (k:Nat) {v:Nat} (h:v<l.length):(gK l k)[v]?=some (cK l k v:Int):=by
 unfold gK;rw[List.getElem?_map,List.getElem?_range h];rfl
theorem qoB (l:List Pt):gK l 0=List.replicate l.length 0:=by
 refine List.ext_getElem? fun v=>?_
 rcases Nat.lt_or_ge v l.length with h | h
 ·rw[qeo l 0 h,List.getElem?_replicate,if_pos h];rfl
 ·rw[List.getElem?_eq_none (by rw[qeV];exact h),List.getElem?_eq_none (by rw[List.length_replicate];exact h)]
def qev (g:List Int) (z:Int):List Int:=if 0≤z then g.set z.toNat (g.getD z.toNat 0+1) else g
theorem qey (g:List Int) (z:Int):(qev g z).length=g.length:=by unfold qev;split<;>simp
theorem qgd {g:List Int} {z:Int} {v:Nat} (h:v<g.length):(qev g z)[v]?=some (g.getD v 0+if z=(v:Int) then 1 else 0):=by
 have e:g[v]?=some (g.getD v 0):=by rw[List.getD_eq_getElem?_getD,List.getElem?_eq_getElem h];rfl
 unfold qev
 by_cases hz:0≤z
 ·rw[if_pos hz,List.getElem?_set]
  by_cases ev:z.toNat=v
  ·rw[if_pos ev,if_pos (by omega),if_pos (by omega),ev]
  ·rw[if_neg ev,if_neg (by omega),e];simp
 ·rw[if_neg hz,if_neg (by omega),e];simp
theorem qoW {l:List Pt} {k:Nat} {p:Pt} (hp:l[k]?=some p):gK l (k+1)=qev (qev (gK l k) p.a) p.b:=by
 refine List.ext_getElem? fun v=>?_
 rcases Nat.lt_or_ge v l.length with h | h
 ·have h1:v<(gK l k).length:=by rw[qeV];exact h
  have h2:v<(qev (gK l k) p.a).length:=by rw[qey];exact h1
  rw[qeo l (k+1) h,qgd h2,List.getD_eq_getElem?_getD,qgd h1,List.getD_eq_getElem?_getD,qeo l k h,qjj]
  have e:lk l k v=(if p.a=(v:Int) then 1 else 0)+(if p.b=(v:Int) then 1 else 0):=by unfold lk;rw[hp]
  rw[e]
  simp only[Option.getD_some]
  split<;>split<;>simp<;>omega
 ·rw[List.getElem?_eq_none (by rw[qeV];exact h),List.getElem?_eq_none (by rw[qey,qey,qeV];exact h)]
section
variable {rt:Int} {l:List Pt}
abbrev onT (n k:Nat):List (Nat×SV):=[(1,.pp 1 0),(3,.ls 2 n),(4,.pv (iV (k:Int)))]
abbrev qs8 (n k:Nat):List (Nat×SV):=[(1,.pp 1 0),(3,.ls 2 n),(7,.pv (iV (k:Int)))]
abbrev onH (rt:Int) (l:List Pt) (g:List Int):List (Nat×Nat×SV):=[(1,0,.pv (iV rt)),(1,1,.ls 0 l.length),(0,0,qaa l),(2,0,.row 3 1 l.length (ziV g))]
theorem qmE (hL:Lnk ⟨rt,l⟩) (hn:l.length≤1000000) {k:Nat} {p:Pt} (hp:l[k]?=some p) {e:Exit} {tm2:TmL} {hp2:HpL}
 (r:Rl 1 1 71 0 77 3 (onT l.length (k+1)) (onH rt l (gK l (k+1))) e tm2 hp2):Rl 1 1 71 0 77 3 (onT l.length k) (onH rt l (gK l k)) e tm2 hp2:=by
 have hkl:=qai hp
 obtain⟨⟨a1,a2⟩,b1,b2⟩:=hL p (List.mem_of_getElem? hp)
 have a2':p.a<(l.length:Int):=a2
 have b2':p.b<(l.length:Int):=b2
 have hin:0≤(k:Int)∧(k:Int)<(l.length:Int):=⟨by omega,by omega⟩
 have gl:=qeV l k
 have bnd:∀ v,cK l k v≤2000000:=fun v=>by have:=qql l v k;omega
 rw[qoW hp] at r
 have gd:∀ v,v<l.length→(gK l k).getD v 0=(cK l k v:Int):=fun v hv=>by rw[List.getD_eq_getElem?_getD,qeo l k hv];rfl
 by_cases ha:0≤p.a
 ·have hal:p.a.toNat<l.length:=by omega
  have ea:qev (gK l k) p.a=(gK l k).set p.a.toNat ((cK l k p.a.toNat:Int)+1):=by unfold qev;rw[if_pos ha,gd _ hal]
  by_cases hb:0≤p.b
  ·have hbl:p.b.toNat<l.length:=by omega
   have h2:p.b.toNat<((gK l k).set p.a.toNat ((cK l k p.a.toNat:Int)+1)).length:=by rw[List.length_set,gl];exact hbl
   have hv2:(((gK l k).set p.a.toNat ((cK l k p.a.toNat:Int)+1)))[p.b.toNat]?=some (((gK l k).set p.a.toNat ((cK l k p.a.toNat:Int)+1)).getD p.b.toNat 0):=by rw[List.getD_eq_getElem?_getD,List.getElem?_eq_getElem h2];rfl
   have eb:qev ((gK l k).set p.a.toNat ((cK l k p.a.toNat:Int)+1)) p.b=((gK l k).set p.a.toNat ((cK l k p.a.toNat:Int)+1)).set p.b.toNat (((gK l k).set p.a.toNat ((cK l k p.a.toNat:Int)+1)).getD p.b.toNat 0+1):=by
    unfold qev;rw[if_pos hb]
   have small : -1≤((gK l k).set p.a.toNat ((cK l k p.a.toNat:Int)+1)).getD p.b.toNat 0∧((gK l k).set p.a.toNat ((cK l k p.a.toNat:Int)+1)).getD p.b.toNat 0≤3000000:=by
    rw[← ea,List.getD_eq_getElem?_getD,qgd (by rw[gl];exact hbl),gd _ hbl]
    simp only[Option.getD_some]
    have:=bnd p.b.toNat
    split<;>omega
   rw[ea,eb] at r
   exact qq5 (hlt:=dt (by omega)) (hk:=hp) (hin:=hin) (ha:=dt (by omega)) (hia:=⟨ha,a2'⟩) (hga:=qeo l k hal) (hgl:=by rw[gl];exact hal) (hy1:=qeA (by omega) (by have:=bnd p.a.toNat;omega)) (hb:=dt (by omega)) (hib:=⟨hb,b2'⟩) (hgb:=hv2) (hgm:=h2) (hy2:=qeA (by omega) (by omega)) (hs:=qau (by omega)) r
  ·have eb:∀ g,qev g p.b=g:=fun g=>by unfold qev;rw[if_neg hb]
   rw[ea,eb] at r
   exact qqA (hlt:=dt (by omega)) (hk:=hp) (hin:=hin) (ha:=dt (by omega)) (hia:=⟨ha,a2'⟩) (hga:=qeo l k hal) (hgl:=by rw[gl];exact hal) (hy1:=qeA (by omega) (by have:=bnd p.a.toNat;omega)) (hb:=df (by omega)) (hs:=qau (by omega)) r
 ·have ea:qev (gK l k) p.a=gK l k:=by unfold qev;rw[if_neg ha]
  rw[ea] at r
  by_cases hb:0≤p.b
  ·have hbl:p.b.toNat<l.length:=by omega
   have eb:qev (gK l k) p.b=(gK l k).set p.b.toNat ((cK l k p.b.toNat:Int)+1):=by unfold qev;rw[if_pos hb,gd _ hbl]
   rw[eb] at r
   exact qqK (hlt:=dt (by omega)) (hk:=hp) (hin:=hin) (ha:=df (by omega)) (hb:=dt (by omega)) (hib:=⟨hb,b2'⟩) (hgb:=qeo l k hbl) (hgm:=by rw[gl];exact hbl) (hy2:=qeA (by omega) (by have:=bnd p.b.toNat;omega)) (hs:=qau (by omega)) r
  ·have eb:∀ g,qev g p.b=g:=fun g=>by unfold qev;rw[if_neg hb]
   rw[eb] at r
   exact qqG (hlt:=dt (by omega)) (hk:=hp) (hin:=hin) (ha:=df (by omega)) (hb:=df (by omega)) (hs:=qau (by omega)) r
theorem qs3 (hL:Lnk ⟨rt,l⟩) (hn:l.length≤1000000):Fn 71 1 [trS 0 rt l] [(0,0,qaa l)] (.pv (.bool (pT (One ⟨rt,l⟩)))) 0 []:=by
 have r0:=RunsL.rounds (fun k=>onT l.length k) (fun k=>onH rt l (gK l k)) (N:=l.length) l.length 0 (Nat.zero_add _) (fun k _ hk r=>by
  obtain⟨p,hp⟩:=qak hk
  exact qmE hL hn hp r) (qo8 (rt:=rt) (l:=l) (g:=gK l l.length) (k:=l.length) (hlt:=df (by omega)))
 rw[qoB] at r0
 have step:∀ m,(∀ v,v<m→cK l l.length v=if (v:Int)=rt then 0 else 1)→∀ {e:Exit} {tm2:TmL} {hp2:HpL},m≤l.length→
  Rl 1 1 71 1 77 3 (qs8 l.length m) (onH rt l (gK l l.length)) e tm2 hp2→Rl 1 1 71 1 77 3 (qs8 l.length 0) (onH rt l (gK l l.length)) e tm2 hp2:=by
  intro m hm e tm2 hp2 hml r
  refine RunsL.rounds (fun k=>qs8 l.length k) (fun _=>onH rt l (gK l l.length)) (N:=m) m 0 (Nat.zero_add _) (fun k _ hk r=>?_) r
  have hc:=hm k hk
  have hg:=qeo l l.length (v:=k) (by omega)
  by_cases er:(k:Int)=rt
  ·rw[if_pos er] at hc
   exact qmx (x:=(cK l l.length k:Int)) (hlt:=dt (by omega)) (hr:=beq_iff_eq.2 er) (hg:=hg) (hin:=⟨by omega,by omega⟩) (h0:=by rw[hc];rfl) (hr2:=by simp[er]) (hs:=qau (by omega)) r
  ·rw[if_neg er] at hc
   exact qkQ (x:=(cK l l.length k:Int)) (hlt:=dt (by omega)) (hr:=beq_eq_false_iff_ne.2 er) (hr2:=by simpa using er) (hg:=hg) (hin:=⟨by omega,by omega⟩) (h1:=by rw[hc];rfl) (hs:=qau (by omega)) r
 rcases qaN (fun v=>cK l l.length v=if (v:Int)=rt then 0 else 1) l.length with h | ⟨v,hv,hb,hf⟩
 ·rw[qeH (p:=One ⟨rt,l⟩) fun v hv=>h v hv]
  exact qoX (n0:=by omega) (n1:=by omega) (r0:=r0) (r1:=step l.length h (Nat.le_refl _) (qls (hlt:=df (by omega))))
 ·rw[qft (p:=One ⟨rt,l⟩) fun k=>hb (k v hv)]
  have hg:=qeo l l.length hv
  refine qrp (n0:=by omega) (n1:=by omega) (r0:=r0) (r1:=step v hf (by omega) ?_)
  by_cases er:(v:Int)=rt
  ·rw[if_pos er] at hb
   exact qi7 (x:=(cK l l.length v:Int)) (hlt:=dt (by omega)) (hr:=beq_iff_eq.2 er) (hg:=hg) (hin:=⟨by omega,by omega⟩) (h0:=by simp;omega)
  ·rw[if_neg er] at hb
   exact qjS (x:=(cK l l.length v:Int)) (hlt:=dt (by omega)) (hr:=beq_eq_false_iff_ne.2 er) (hr2:=by simpa using er) (hg:=hg) (hin:=⟨by omega,by omega⟩) (h1:=by simp;omega)
end
end Go.Proofs.Ytalnjplghagbpaa
