/-
  Joined: Upa, Usa, Uh, Ut, Ui, Uj. Conditions: none.
-/
import Derived.Test.YtalnjplghagbpaaW27
import Derived.Test.YtalnjplghagbpaaW19
import Derived.Test.YtalnjplghagbpaaW22
namespace Go.Proofs.Ytalnjplghagbpaa
set_option maxRecDepth 100000
open Go.RowKit
theorem qkj {x tn td:Int} {s m:List Pt} (hft:Fn 38 1 [qax 0 s,.pv (qaa tn td)] [(0,0,qag s)] (.pv (.bool false)) 0 []) (hal:Pure Try.prog 24 #[] (.bool true)) :
 Fn 6 2 [qax 0 s,.pv (qaa tn td),trS 1 x m] [(0,0,qag s),(1,0,qab m)] (.pv (.bool true)) 0 []:=
 Fz [] [Cf hft [0],.k,Rf hal]
  tI (Co hft [0] 5 (Ai hal tI))
abbrev qk8 (s:List Pt) (td:Int) (tn:Int):Prop:=Fn 38 1 [qax 0 s,.pv (qaa tn td)] [(0,0,qag s)] (.pv (.bool true)) 0 []
theorem qpv {x tn td:Int} {s m:List Pt} (hft:qk8 s td tn) (hgy:Fn 26 1 [trS 0 x m] [(0,0,qab m)] (.pv (.bool true)) 0 []) (hal:Pure Try.prog 24 #[] (.bool true)) :
 Fn 6 2 [qax 0 s,.pv (qaa tn td),trS 1 x m] [(0,0,qag s),(1,0,qab m)] (.pv (.bool true)) 0 []:=
 Fz [] [Cf hft [0],.k,Cf hgy [1],Rf hal]
  tI (Co hft [0] 5 (Co hgy [1] 5 (Ai hal tI)))
abbrev qnR (n1:List Pt) (r1:Int) (s:List Pt) (td:Int) (tn:Int):Prop:=Fn 18 1 [qax 0 s,.pv (qaa tn td)] [(0,0,qag s)] (.tu [.ag [.pv (iV r1),.ls 1 n1.length],.one (.pv (iV 0))]) 1 [(1,0,qab n1)]
abbrev qpu (n1:List Pt) (r1:Int) (s:List Pt):Prop:=Fn 40 2 [trS 0 r1 n1,qax 1 s] [(0,0,qab n1),(1,0,qag s)] (.pv (.bool true)) 0 []
abbrev qon (n1:List Pt) (r1:Int) (s:List Pt) (td:Int) (tn:Int):Prop:=Fn 41 2 [trS 0 r1 n1,qax 1 s,.pv (qaa tn td)] [(0,0,qab n1),(1,0,qag s)] (.pv (.bool true)) 0 []
theorem qnV {x r1 e1 tn td:Int} {s m n1:List Pt} (hft:qk8 s td tn) (hgy:Fn 26 1 [trS 0 x m] [(0,0,qab m)] (.pv (.bool false)) 0 []) (ho:qnR n1 r1 s td tn) (hc1:Fn 34 1 [trS 0 r1 n1] [(0,0,qab n1)] (.pv (iV (0))) 0 []) (hod:Fn 39 1 [trS 0 r1 n1] [(0,0,qab n1)] (.pv (.bool true)) 0 []) (hh1:qpu n1 r1 s) (ha1:qon n1 r1 s td tn) (hc2:Fn 34 1 [trS 0 x m] [(0,0,qab m)] (.pv (iV (e1))) 0 []) (he:(e1 !=0)=true) (hal:Pure Try.prog 24 #[] (.bool true)) :
 Fn 6 2 [qax 0 s,.pv (qaa tn td),trS 1 x m] [(0,0,qag s),(1,0,qab m)] (.pv (.bool true)) 0 []:=
 qbM 500 [] [Cf hft [0],.k,Cf hgy [1],Cf ho [0],.k,Cf hc1 [5],.k,Cf hod [5],.k,Cf hh1 [5,0],.k,Cf ha1 [5,0],.k,Cf hc2 [1],.t true,Rf hal]
  tI (Co hft [0] 5 (Co hgy [1] 5 (Co ho [0] 5 (Co hc1 [5] 7 (Co hod [5] 7 (Co hh1 [5,0] 7 (Co ha1 [5,0] 7 (Co hc2 [1] 7 (Ai he (Ai hal tI)))))))))) (by kernel_rfl)
theorem qnZ {x r1 tn td:Int} {s m n1:List Pt} (hft:qk8 s td tn) (hgy:Fn 26 1 [trS 0 x m] [(0,0,qab m)] (.pv (.bool false)) 0 []) (ho:qnR n1 r1 s td tn) (hc1:Fn 34 1 [trS 0 r1 n1] [(0,0,qab n1)] (.pv (iV (0))) 0 []) (hod:Fn 39 1 [trS 0 r1 n1] [(0,0,qab n1)] (.pv (.bool true)) 0 []) (hh1:qpu n1 r1 s) (ha1:qon n1 r1 s td tn) (hc2:Fn 34 1 [trS 0 x m] [(0,0,qab m)] (.pv (iV (0))) 0 []) (hh2:Fn 40 2 [trS 0 x m,qax 1 s] [(0,0,qab m),(1,0,qag s)] (.pv (.bool false)) 0 []) (hal:Pure Try.prog 24 #[] (.bool true)) :
 Fn 6 2 [qax 0 s,.pv (qaa tn td),trS 1 x m] [(0,0,qag s),(1,0,qab m)] (.pv (.bool true)) 0 []:=
 qbM 500 [] [Cf hft [0],.k,Cf hgy [1],Cf ho [0],.k,Cf hc1 [5],.k,Cf hod [5],.k,Cf hh1 [5,0],.k,Cf ha1 [5,0],.k,Cf hc2 [1],.k,Cf hh2 [1,0],.k,Rf hal]
  tI (Co hft [0] 5 (Co hgy [1] 5 (Co ho [0] 5 (Co hc1 [5] 7 (Co hod [5] 7 (Co hh1 [5,0] 7 (Co ha1 [5,0] 7 (Co hc2 [1] 7 (Co hh2 [1,0] 7 (Ai hal tI)))))))))) (by kernel_rfl)
theorem qlP {x r1 tn td:Int} {s m n1:List Pt} {w:Bool} (hft:qk8 s td tn) (hgy:Fn 26 1 [trS 0 x m] [(0,0,qab m)] (.pv (.bool false)) 0 []) (ho:qnR n1 r1 s td tn) (hc1:Fn 34 1 [trS 0 r1 n1] [(0,0,qab n1)] (.pv (iV (0))) 0 []) (hod:Fn 39 1 [trS 0 r1 n1] [(0,0,qab n1)] (.pv (.bool true)) 0 []) (hh1:qpu n1 r1 s) (ha1:qon n1 r1 s td tn) (hc2:Fn 34 1 [trS 0 x m] [(0,0,qab m)] (.pv (iV (0))) 0 []) (hh2:Fn 40 2 [trS 0 x m,qax 1 s] [(0,0,qab m),(1,0,qag s)] (.pv (.bool true)) 0 []) (hs:Fn 16 2 [trS 0 r1 n1,trS 1 x m] [(0,0,qab n1),(1,0,qab m)] (.pv (.tuple #[.bool w,iV 0])) 0 []) (hr:Fn 11 2 [trS 0 x m,qax 1 s,.pv (qaa tn td)] [(0,0,qab m),(1,0,qag s)] (.pv (.tuple #[.bool w,iV 0])) 0 []) (ha2:Fn 41 2 [trS 0 x m,qax 1 s,.pv (qaa tn td)] [(0,0,qab m),(1,0,qag s)] (.pv (.bool w)) 0 []) (hal:Pure Try.prog 24 #[] (.bool true)) :
 Fn 6 2 [qax 0 s,.pv (qaa tn td),trS 1 x m] [(0,0,qag s),(1,0,qab m)] (.pv (.bool true)) 0 []:=
 qbM 600 [] [Cf hft [0],.k,Cf hgy [1],Cf ho [0],.k,Cf hc1 [5],.k,Cf hod [5],.k,Cf hh1 [5,0],.k,Cf ha1 [5,0],.k,Cf hc2 [1],.k,Cf hh2 [1,0],.k,Cf hs [5,1],Cf hr [1,0],.k,.k,Cf ha2 [1,0],.t true,.t true,Rf hal]
  tI (Co hft [0] 5 (Co hgy [1] 5 (Co ho [0] 5 (Co hc1 [5] 7 (Co hod [5] 7 (Co hh1 [5,0] 7 (Co ha1 [5,0] 7 (Co hc2 [1] 7 (Co hh2 [1,0] 7 (Co hs [5,1] 7 (Co hr [1,0] 7 (Co ha2 [1,0] 7 (Ai (qgO w) (Ai (qgO w) (Ai hal tI))))))))))))))) (by kernel_rfl)
end Go.Proofs.Ytalnjplghagbpaa

namespace Go.Proofs.Ytalnjplghagbpaa
set_option maxRecDepth 100000
open Go.RowKit
theorem qng {l:List Pt} {z:Int} {p:Pt} (h:l[z.toNat]?=some p):qbz (qao l) (0*3+z.toNat*3) [iV p.id]:=qa1 h
theorem qr0 {l:List Pt} {k:Nat} {p:Pt} (h:l[k]?=some p):qbz (qao l) (0*3+k*3+1) [iV p.a]:=qbN (z:=(k:Int)) h
theorem qqm {l:List Pt} {k:Nat} {p:Pt} (h:l[k]?=some p):qbz (qao l) (0*3+k*3+2) [iV p.b]:=qbZ (z:=(k:Int)) h
abbrev qfj (l:List Pt) (p:Pt) (q:Pt) (rt:Int) (s:List Pt) (td:Int) (tn:Int):HpL:=[(2,0,.pv (iV rt)),(2,1,.ls 0 l.length),(3,0,.ls 1 s.length),(4,0,.pv (iV tn)),(4,1,.pv (iV td)),(0,0,qab l),(1,0,qag s),(5,0,.pv (iV q.id)),(5,1,.pv (iV q.a)),(5,2,.pv (iV q.b)),(6,0,.row 3 1 2 [iV p.a,iV p.b])]
abbrev qmQ (j:Nat) (k:Nat):TmL:=[(3,.pp 2 0),(4,.pp 3 0),(5,.pp 4 0),(7,.pv (iV (k:Int))),(8,.pp 5 0),(9,.ls 6 2),(10,.pv (iV (j:Int)))]
abbrev qqr (j:Nat) (k:Nat):TmL:=[(3,.pp 2 0),(4,.pp 3 0),(5,.pp 4 0),(7,.pv (iV (k:Int))),(8,.pp 5 0),(9,.ls 6 2),(10,.pv (iV ((j+1:Nat):Int)))]
theorem qou {rt v tn td:Int} {s l:List Pt} {p q:Pt} {j k:Nat} (hj2:decide ((j:Int)<2)=true) (hinj:0≤(j:Int)∧(j:Int)<((2:Nat):Int)) (hjv:qbz [iV p.a,iV p.b] (0*1+((j:Nat):Int).toNat*1) [iV v]) (hv:decide (v<0)=true) (hs:iV (IntKind.i64.wrap ((j:Int)+1))=iV (((j+1:Nat):Int))) {e:Exit} {tm2:TmL} {hp2:HpL}
 (r:Rl 2 2 41 1 81 7 (qqr j k) (qfj l p q rt s td tn) e tm2 hp2):Rl 2 2 41 1 81 7 (qmQ j k) (qfj l p q rt s td tn) e tm2 hp2:=
 RunsL.next [] 300 [.t true,.r (iV v),.t true,Re hs]
  (Ro (Ai hj2 (Ai hinj (Ai hjv (Ai hv (Ai hs tI)))))) r
theorem qna {rt v b0 tn td:Int} {s l:List Pt} {p q p2 q2:Pt} {j k:Nat} (hj2:decide ((j:Int)<2)=true) (hinj:0≤(j:Int)∧(j:Int)<((2:Nat):Int)) (hjv:qbz [iV p.a,iV p.b] (0*1+((j:Nat):Int).toNat*1) [iV v]) (hv:decide (v<0)=false) (hinv:0≤v∧v<(l.length:Int)) (hpp:l[v.toNat]?=some p2) (hat:Fn 43 1 [qax 0 s,.pv (iV p2.id)] [(0,0,qag s)] (.pv (iV (b0))) 0 []) (hinb:0≤b0∧b0<(s.length:Int)) (hq2:s[b0.toNat]?=some q2) (hah:Pure Try.prog 79 #[ptV q,ptV q2,qaa tn td] (.tuple #[.bool true,iV 0])) (hs:iV (IntKind.i64.wrap ((j:Int)+1))=iV (((j+1:Nat):Int))) {e:Exit} {tm2:TmL} {hp2:HpL}
 (r:Rl 2 2 41 1 81 7 (qqr j k) (qfj l p q rt s td tn) e tm2 hp2):Rl 2 2 41 1 81 7 (qmQ j k) (qfj l p q rt s td tn) e tm2 hp2:=
 RunsL.next [] 300 [.t true,.r (iV v),.t false,.md,.r (iV v),.r (iV p2.id),Cf hat [1],.r (ptV q2),Rf hah,.k,.k,Re hs]
  (Ro (Ai hj2 (Ai hinj (Ai hjv (Ai hv (Ai hinj (Ai hjv (Ai hinv (Ai (qng hpp) (Co hat [1] 7 (Ai hinb (Ai (qaZ hq2) (Ai hah (Ai hs tI)))))))))))))) r
theorem qpn {rt v b0 tn td:Int} {s l:List Pt} {p q p2 q2:Pt} {j k:Nat} (hj2:decide ((j:Int)<2)=true) (hinj:0≤(j:Int)∧(j:Int)<((2:Nat):Int)) (hjv:qbz [iV p.a,iV p.b] (0*1+((j:Nat):Int).toNat*1) [iV v]) (hv:decide (v<0)=false) (hinv:0≤v∧v<(l.length:Int)) (hpp:l[v.toNat]?=some p2) (hat:Fn 43 1 [qax 0 s,.pv (iV p2.id)] [(0,0,qag s)] (.pv (iV (b0))) 0 []) (hinb:0≤b0∧b0<(s.length:Int)) (hq2:s[b0.toNat]?=some q2) (hah:Pure Try.prog 79 #[ptV q,ptV q2,qaa tn td] (.tuple #[.bool false,iV 0])):Rl 2 2 41 1 81 7 (qmQ j k) (qfj l p q rt s td tn) (.ret) ([(6,.pv (.bool false))]) ([]):=
 RunsL.stop [] 300 [.t true,.r (iV v),.t false,.md,.r (iV v),.r (iV p2.id),Cf hat [1],.r (ptV q2),Rf hah,.k,.k] (fun h=>by cases h)
  (Ro (Ai hj2 (Ai hinj (Ai hjv (Ai hv (Ai hinj (Ai hjv (Ai hinv (Ai (qng hpp) (Co hat [1] 7 (Ai hinb (Ai (qaZ hq2) (Ai hah tI)))))))))))))
abbrev qfh (l:List Pt) (rt:Int) (s:List Pt) (td:Int) (tn:Int):HpL:=[(2,0,.pv (iV rt)),(2,1,.ls 0 l.length),(3,0,.ls 1 s.length),(4,0,.pv (iV tn)),(4,1,.pv (iV td)),(0,0,qab l),(1,0,qag s)]
abbrev qjc (k:Nat):TmL:=[(3,.pp 2 0),(4,.pp 3 0),(5,.pp 4 0),(7,.pv (iV (k:Int)))]
theorem qm0 {rt tn td:Int} {s l:List Pt} {p q:Pt} {j k:Nat} (hj2:decide ((j:Int)<2)=false):Rl 2 2 41 1 81 7 (qmQ j k) (qfj l p q rt s td tn) (.exit 2) (qjc k) (qfh l rt s td tn):=
 RunsL.stop [] 300 [.t false] (fun h=>by cases h)
  (Ro (Ai hj2 tI))
abbrev qsG (k:Nat):TmL:=[(3,.pp 2 0),(4,.pp 3 0),(5,.pp 4 0),(7,.pv (iV (k:Int))),(8,.pp 5 0),(9,.ls 6 2),(10,.pv (iV ((0:Nat):Int)))]
theorem qpQ {rt a0 tn td:Int} {s l:List Pt} {p q:Pt} {k:Nat} (hlt:decide ((k:Int)<(l.length:Int))=true) (hk:l[k]?=some p) (hin:0≤(k:Int)∧(k:Int)<(l.length:Int)) (hat:Fn 43 1 [qax 0 s,.pv (iV p.id)] [(0,0,qag s)] (.pv (iV (a0))) 0 []) (hina:0≤a0∧a0<(s.length:Int)) (hq:s[a0.toNat]?=some q) (hl1:Rl 2 2 41 1 81 7 (qsG k) (qfj l p q rt s td tn) (.exit 2) (qjc k) (qfh l rt s td tn)) (hs:iV (IntKind.i64.wrap ((k:Int)+1))=iV (((k+1:Nat):Int))) {e:Exit} {tm2:TmL} {hp2:HpL}
 (r:Rl 2 2 41 0 81 5 ([(3,.pp 2 0),(4,.pp 3 0),(5,.pp 4 0),(7,.pv (iV ((k+1:Nat):Int)))]) (qfh l rt s td tn) e tm2 hp2):Rl 2 2 41 0 81 5 (qjc k) (qfh l rt s td tn) e tm2 hp2:=
 RunsL.next [] 300 [.t true,.md,.r (iV p.id),Cf hat [1],.r (ptV q),.md,.r (iV p.a),.r (iV p.b),.lw,Lf hl1,Re hs]
  (Ro (Ai hlt (Ai hin (Ai (qa1 hk) (Co hat [1] 5 (Ai hina (Ai (qaZ hq) (Ai hin (Ai (qr0 hk) (Ai hin (Ai (qqm hk) (Lo hl1 [] (Ai hs tI))))))))))))) r
theorem qmM {rt a0 tn td:Int} {s l:List Pt} {p q:Pt} {k:Nat} (hlt:decide ((k:Int)<(l.length:Int))=true) (hk:l[k]?=some p) (hin:0≤(k:Int)∧(k:Int)<(l.length:Int)) (hat:Fn 43 1 [qax 0 s,.pv (iV p.id)] [(0,0,qag s)] (.pv (iV (a0))) 0 []) (hina:0≤a0∧a0<(s.length:Int)) (hq:s[a0.toNat]?=some q) (hl1:Rl 2 2 41 1 81 7 (qsG k) (qfj l p q rt s td tn) (.ret) ([(6,.pv (.bool false))]) ([])):Rl 2 2 41 0 81 5 (qjc k) (qfh l rt s td tn) (.ret) ([(6,.pv (.bool false))]) ([]):=
 RunsL.stop [] 300 [.t true,.md,.r (iV p.id),Cf hat [1],.r (ptV q),.md,.r (iV p.a),.r (iV p.b),.lw,Lf hl1] (fun h=>by cases h)
  (Ro (Ai hlt (Ai hin (Ai (qa1 hk) (Co hat [1] 5 (Ai hina (Ai (qaZ hq) (Ai hin (Ai (qr0 hk) (Ai hin (Ai (qqm hk) (Lo hl1 [] tI))))))))))))
theorem qp0 {rt tn td:Int} {s l:List Pt} {k:Nat} (hlt:decide ((k:Int)<(l.length:Int))=false):Rl 2 2 41 0 81 5 (qjc k) (qfh l rt s td tn) (.exit 0) ([]) ([]):=
 RunsL.stop [] 300 [.t false] (fun h=>by cases h)
  (Ro (Ai hlt tI))
theorem qoA {rt tn td:Int} {s l:List Pt} (hl0:Rl 2 2 41 0 81 5 ([(3,.pp 2 0),(4,.pp 3 0),(5,.pp 4 0),(7,.pv (iV ((0:Nat):Int)))]) (qfh l rt s td tn) (.exit 0) ([]) ([])) :
 Fn 41 2 [trS 0 rt l,qax 1 s,.pv (qaa tn td)] [(0,0,qab l),(1,0,qag s)] (.pv (.bool true)) 0 []:=
 Fz [] [Lf hl0]
  tI (Lo hl0 [] tI)
theorem qqw {rt tn td:Int} {s l:List Pt} (hl0:Rl 2 2 41 0 81 5 ([(3,.pp 2 0),(4,.pp 3 0),(5,.pp 4 0),(7,.pv (iV ((0:Nat):Int)))]) (qfh l rt s td tn) (.ret) ([(6,.pv (.bool false))]) ([])) :
 Fn 41 2 [trS 0 rt l,qax 1 s,.pv (qaa tn td)] [(0,0,qab l),(1,0,qag s)] (.pv (.bool false)) 0 []:=
 Fz [] [Lf hl0]
  tI (Lo hl0 [] tI)
end Go.Proofs.Ytalnjplghagbpaa

namespace Go.Proofs.Ytalnjplghagbpaa
set_option maxRecDepth 100000
open Go.RowKit
open Classical in
noncomputable def pT (p:Prop):Bool:=decide p
open Classical in
theorem qcH {p:Prop} (h:p):pT p=true:=by unfold pT;exact decide_eq_true h
open Classical in
theorem qco {p:Prop} (h:¬ p):pT p=false:=by unfold pT;exact decide_eq_false h
theorem qe5 {n:Int} (h0 : -9223372036854775808≤n) (h1:n≤9223372036854775807):iV (IntKind.i64.wrap n)=iV n:=by
 rw[show IntKind.i64.wrap n=n by rw[IntKind.wrap_i64];omega]
section
variable {rt x:Int} {l m:List Pt}
theorem qiQ (z:Int):Fn 70 1 [trS 0 rt l,.pv (iV z)] [(0,0,qab l)] (.pv (.bool (pT (-1≤z∧z<(l.length:Int))))) 0 []:=by
 by_cases h1 : -1≤z
 ·by_cases h2:z<(l.length:Int)
  ·rw[qcH ⟨h1,h2⟩];exact qlR (h1:=dt (by omega)) (h2:=dt h2)
  ·rw[qco fun h=>h2 h.2];exact qi9 (h1:=dt (by omega)) (h2:=df h2)
 ·rw[qco fun h=>h1 h.1];exact qrb (h1:=df (by omega))
theorem qlv (hn:l.length≤1000000):Fn 39 1 [trS 0 rt l] [(0,0,qab l)] (.pv (.bool (pT (Up l)))) 0 []:=by
 have step:∀ k,1≤k→(∀ j,1≤j→j<k→∀ p q,l[j-1]?=some p→l[j]?=some q→p.id<q.id)→∀ {e:Exit} {tm2:TmL} {hp2:HpL},k≤l.length→
  Rl 1 1 39 0 25 2 [(1,.pp 1 0),(3,.pv (iV (k:Int)))] [(1,0,.pv (iV rt)),(1,1,.ls 0 l.length),(0,0,qab l)] e tm2 hp2→
  Rl 1 1 39 0 25 2 [(1,.pp 1 0),(3,.pv (iV ((1:Nat):Int)))] [(1,0,.pv (iV rt)),(1,1,.ls 0 l.length),(0,0,qab l)] e tm2 hp2:=by
  intro k h1 hk e tm2 hp2 hkl r
  refine RunsL.rounds (fun j=>[(1,.pp 1 0),(3,.pv (iV (j:Int)))]) (fun _=>[(1,0,.pv (iV rt)),(1,1,.ls 0 l.length),(0,0,qab l)]) (N:=k) (k-1) 1 (by omega) (fun j hj1 hj r=>?_) r
  obtain⟨p,hp⟩:=qaj (l:=l) (k:=j-1) (by omega)
  obtain⟨q,hq⟩:=qaj (l:=l) (k:=j) (by omega)
  have:=hk j hj1 hj p q hp hq
  exact ql6 (j:=j-1) (hlt:=dt (by omega)) (hs1:=by rw[qe5 (by omega) (by omega)];congr 1;omega) (hj:=hp) (hinj:=⟨by omega,by omega⟩) (hk:=hq) (hin:=⟨by omega,by omega⟩) (hc:=df (by omega)) (hs:=qah (by omega)) r
 rcases qaL (fun k=>1≤k→∀ p q,l[k-1]?=some p→l[k]?=some q→p.id<q.id) l.length with h | ⟨k,hk,hb,hf⟩
 ·rw[qcH (p:=Up l) fun k p q hp hq=>h (k+1) (qam hq) (by omega) p q hp hq]
  rcases Nat.eq_zero_or_pos l.length with e | e
  ·exact qjg (r0:=qkn (hlt:=df (by omega)))
  ·exact qjg (r0:=step l.length e (fun j h1 hj=>h j hj h1) (Nat.le_refl _) (qkn (hlt:=df (by omega))))
 ·simp only[Classical.not_forall] at hb
  obtain⟨h1,p,q,hp,hq,hlt⟩:=hb
  rw[qco (p:=Up l) fun hu=>by
   have:=hu (k-1) p q hp (by rw[show k-1+1=k by omega];exact hq)
   omega]
  exact qrU (r0:=step k h1 (fun j h1 hj=>hf j hj h1) (by omega) (qov (j:=k-1) (hlt:=dt (by omega)) (hs1:=by rw[qe5 (by omega) (by omega)];congr 1;omega) (hj:=hp) (hinj:=⟨by omega,by omega⟩) (hk:=hq) (hin:=⟨by omega,by omega⟩) (hc:=dt (by omega))))
theorem qhB:∀ {T T':Sh Nat} {i k:Int},Rep l i T→Rep m k T'→Fn 95 2 [trS 0 rt l,trS 1 x m,.pv (iV i),.pv (iV k)] [(0,0,qab l),(1,0,qab m)] (.pv (.bool (pT (idT l T=idT m T')))) 0 []
 | .nil,.nil,i,k,h,h'=>by
  have e:i = -1:=h
  have e':k = -1:=h'
  subst e e'
  rw[qcH (p:=idT l .nil=idT m .nil) rfl]
  exact qjT (h0:=by decide) (h1:=by decide)
 | .nil,.node a j b,i,k,h,⟨h',_⟩=>by
  have e:i = -1:=h
  subst e h'
  rw[qco fun h=>by cases h]
  exact qh9 (h0:=by decide) (h1:=df (by omega))
 | .node a j b,.nil,i,k,⟨h,_⟩,h'=>by
  have e':k = -1:=h'
  subst e' h
  rw[qco fun h=>by cases h]
  exact qte (h0:=df (by omega)) (h1:=by decide)
 | .node a j b,.node a' j' b',i,k,⟨h,p,hp,a1,a2⟩,⟨h',q,hq,b1,b2⟩=>by
  subst h h'
  have hjl:=qam hp
  have hjl':=qam hq
  have ih1:=qhB a1 b1
  have ih2:=qhB a2 b2
  have e1:idN l j=p.id:=qav hp
  have e2:idN m j'=q.id:=qav hq
  have eq:(idT l (.node a j b)=idT m (.node a' j' b'))↔(idT l a=idT m a'∧p.id=q.id∧idT l b=idT m b'):=by
   show (Sh.node (idT l a) (idN l j) (idT l b)=Sh.node (idT m a') (idN m j') (idT m b'))↔_
   rw[Sh.node.injEq,e1,e2]
  by_cases c1:p.id=q.id
  ·by_cases c2:idT l a=idT m a'
   ·rw[qcH c2] at ih1
    have ew:pT (idT l (.node a j b)=idT m (.node a' j' b'))=pT (idT l b=idT m b'):=by
     by_cases c3:idT l b=idT m b'
     ·rw[qcH c3,qcH (eq.2 ⟨c2,c1,c3⟩)]
     ·rw[qco c3,qco fun h=>c3 (eq.1 h).2.2]
    rw[ew]
    exact qtG (h0:=df (by omega)) (h1:=df (by omega)) (hk:=hp) (hin:=⟨by omega,by omega⟩) (hm:=hq) (hin2:=⟨by omega,by omega⟩) (he:=by simp[c1]) (hl:=ih1) (hr:=ih2)
   ·rw[qco c2] at ih1
    rw[qco fun h=>c2 (eq.1 h).1]
    exact qt5 (h0:=df (by omega)) (h1:=df (by omega)) (hk:=hp) (hin:=⟨by omega,by omega⟩) (hm:=hq) (hin2:=⟨by omega,by omega⟩) (he:=by simp[c1]) (hl:=ih1)
  ·rw[qco fun h=>c1 (eq.1 h).2.1]
   exact qqM (h0:=df (by omega)) (h1:=df (by omega)) (hk:=hp) (hin:=⟨by omega,by omega⟩) (hm:=hq) (hin2:=⟨by omega,by omega⟩) (he:=by simpa using c1)
theorem qk3 (hn:l.length≤1000000):Fn 22 2 [trS 0 rt l,trS 1 rt l] [(0,0,qab l),(1,0,qab l)] (.pv (.bool true)) 0 []:=
 qom (r0:=RunsL.rounds (fun k=>[(2,.pp 2 0),(3,.pp 3 0),(5,.pv (iV (k:Int)))]) (fun _=>[(2,0,.pv (iV rt)),(2,1,.ls 0 l.length),(3,0,.pv (iV rt)),(3,1,.ls 1 l.length),(0,0,qab l),(1,0,qab l)]) (N:=l.length) l.length 0 (Nat.zero_add _) (fun k _ hk r=>by
  obtain⟨p,hp⟩:=qaj hk
  exact ql3 (hlt:=dt (by omega)) (hk:=hp) (hin:=qba hk) (hs:=qah (by omega)) r) (qoO (hlt:=df (by omega))))
end
end Go.Proofs.Ytalnjplghagbpaa

namespace Go.Proofs.Ytalnjplghagbpaa
set_option maxRecDepth 100000
open Go.RowKit
section
variable {s:List Pt} {tn td:Int}
theorem qso {i k:Nat} (hs:Val s) (hi:i<s.length) (hk:k<s.length) (h:k≠i):(ndT s i).id≠(ndT s k).id:=fun e=>by
 rcases Nat.lt_trichotomy i k with h0 | h0 | h0
 ·have:=hs.up.mono h0 (qal hi) (qal hk);omega
 ·exact h h0.symm
 ·have:=hs.up.mono h0 (qal hk) (qal hi);omega
end
end Go.Proofs.Ytalnjplghagbpaa

namespace Go.Proofs.Ytalnjplghagbpaa
set_option maxRecDepth 100000
open Go.RowKit
theorem qaH {l:List Pt} {z:Int} {p:Pt} (h:l[z.toNat]?=some p):qbz (qao l) (0*3+z.toNat*3) [iV p.id]:=qa1 h
theorem qhw {l:List Pt} {k:Nat} {p:Pt} (h:l[k]?=some p):qbz (qao l) (0*3+k*3+1) [iV p.a]:=qbN (z:=(k:Int)) h
theorem qg0 {l:List Pt} {k:Nat} {p:Pt} (h:l[k]?=some p):qbz (qao l) (0*3+k*3+2) [iV p.b]:=qbZ (z:=(k:Int)) h
theorem qge (n:Nat):some (SV.row 3 1 n (qcI [iV 0] n))=some (SV.row 3 1 n (ziV (List.replicate n 0))):=by rw[qnu]
theorem qgc:∀ (m:List Pt) (p:Pt),qao (m++[p])=qao m++[iV p.id,iV p.a,iV p.b]
 | [],_=>rfl
 | q::r,p=>congrArg (fun l=>iV q.id::iV q.a::iV q.b::l) (qgc r p)
abbrev qne (l:List Pt) (td:Int) (tn:Int):HpL:=[(1,0,.ls 0 l.length),(2,0,.pv (iV tn)),(2,1,.pv (iV td)),(0,0,qag l)]
abbrev qsP (hi:Int) (k:Nat) (z:Int):TmL:=[(3,.pv (iV hi)),(4,.pp 1 0),(5,.pp 2 0),(9,.pv (iV (z))),(10,.pv (iV (k:Int)))]
theorem qjR {z hi:Int} {l:List Pt} {k:Nat} {tn td:Int} (hlt:decide ((k:Int)<hi)=true) (h0:decide (z<0)=true) (hs:iV (IntKind.i64.wrap ((k:Int)+1))=iV (((k+1:Nat):Int))) {e:Exit} {tm2:TmL} {hp2:HpL}
 (r:Rl 1 1 110 0 35 3 ([(3,.pv (iV hi)),(4,.pp 1 0),(5,.pp 2 0),(9,.pv (iV (k:Int))),(10,.pv (iV ((k+1:Nat):Int)))]) (qne l td tn) e tm2 hp2):Rl 1 1 110 0 35 3 (qsP hi k z) (qne l td tn) e tm2 hp2:=
 RunsL.next [] 300 [.t true,.t true,Re hs]
  (Ro (Ai hlt (Ai h0 (Ai hs tI)))) r
theorem qpf {z hi:Int} {l:List Pt} {p q:Pt} {k:Nat} {tn td:Int} (hlt:decide ((k:Int)<hi)=true) (h0:decide (z<0)=false) (hk:l[k]?=some p) (hin:0≤(k:Int)∧(k:Int)<(l.length:Int)) (hz:l[z.toNat]?=some q) (hinz:0≤z∧z<(l.length:Int)) (hle:Pure Try.prog 111 #[ptV p,ptV q,qaa tn td] (.bool true)) (hs:iV (IntKind.i64.wrap ((k:Int)+1))=iV (((k+1:Nat):Int))) {e:Exit} {tm2:TmL} {hp2:HpL}
 (r:Rl 1 1 110 0 35 3 ([(3,.pv (iV hi)),(4,.pp 1 0),(5,.pp 2 0),(9,.pv (iV (k:Int))),(10,.pv (iV ((k+1:Nat):Int)))]) (qne l td tn) e tm2 hp2):Rl 1 1 110 0 35 3 (qsP hi k z) (qne l td tn) e tm2 hp2:=
 RunsL.next [] 300 [.t true,.t false,.r (ptV p),.r (ptV q),Rf hle,Re hs]
  (Ro (Ai hlt (Ai h0 (Ai hin (Ai (qbc hk) (Ai hinz (Ai (qaZ hz) (Ai hle (Ai hs tI))))))))) r
theorem qpI {z hi:Int} {l:List Pt} {p q:Pt} {k:Nat} {tn td:Int} (hlt:decide ((k:Int)<hi)=true) (h0:decide (z<0)=false) (hk:l[k]?=some p) (hin:0≤(k:Int)∧(k:Int)<(l.length:Int)) (hz:l[z.toNat]?=some q) (hinz:0≤z∧z<(l.length:Int)) (hle:Pure Try.prog 111 #[ptV p,ptV q,qaa tn td] (.bool false)) (hs:iV (IntKind.i64.wrap ((k:Int)+1))=iV (((k+1:Nat):Int))) {e:Exit} {tm2:TmL} {hp2:HpL}
 (r:Rl 1 1 110 0 35 3 ([(3,.pv (iV hi)),(4,.pp 1 0),(5,.pp 2 0),(9,.pv (iV (z))),(10,.pv (iV ((k+1:Nat):Int)))]) (qne l td tn) e tm2 hp2):Rl 1 1 110 0 35 3 (qsP hi k z) (qne l td tn) e tm2 hp2:=
 RunsL.next [] 300 [.t true,.t false,.r (ptV p),.r (ptV q),Rf hle,Re hs]
  (Ro (Ai hlt (Ai h0 (Ai hin (Ai (qbc hk) (Ai hinz (Ai (qaZ hz) (Ai hle (Ai hs tI))))))))) r
theorem qo4 {z hi:Int} {l:List Pt} {k:Nat} {tn td:Int} (hlt:decide ((k:Int)<hi)=false):Rl 1 1 110 0 35 3 (qsP hi k z) (qne l td tn) (.exit 0) ([(9,.pv (iV z))]) ([]):=
 RunsL.stop [] 300 [.t false] (fun h=>by cases h)
  (Ro (Ai hlt tI))
theorem qhy {z hi:Int} {l:List Pt} {n:Nat} {tn td:Int} (r0:Rl 1 1 110 0 35 3 ([(3,.pv (iV hi)),(4,.pp 1 0),(5,.pp 2 0),(9,.pv (iV (-1))),(10,.pv (iV (n:Int)))]) (qne l td tn) (.exit 0) ([(9,.pv (iV z))]) ([])) :
 Fn 110 1 [qax 0 l,.pv (qaa tn td),.pv (iV (n:Int)),.pv (iV (hi))] [(0,0,qag l)] (.pv (iV (z))) 0 []:=
 Fz [] [Lf r0]
  tI (Lo r0 [] tI)
abbrev qp8 (l:List Pt) (rt:Int):HpL:=[(1,0,.pv (iV rt)),(1,1,.ls 0 l.length),(0,0,qab l)]
abbrev qtJ (i0:Int) (k:Nat) (z:Int):TmL:=[(1,.pv (iV z)),(2,.pp 1 0),(5,.pv (iV (k:Int))),(6,.pv (iV (i0)))]
theorem qpl {rt z i0:Int} {l:List Pt} {p:Pt} {k:Nat} (hk:l[i0.toNat]?=some p) (hin:0≤i0∧i0<(l.length:Int)) (hne:(p.id !=z)=false):Rl 1 1 69 0 40 2 (qtJ i0 k z) (qp8 l rt) (.exit 0) ([(5,.pv (iV (k:Int)))]) ([]):=
 RunsL.stop [] 300 [.r (iV p.id),.t false] (fun h=>by cases h)
  (Ro (Ai hin (Ai (qaH hk) (Ai hne tI))))
theorem qtd {rt z i0:Int} {l:List Pt} {p:Pt} {k:Nat} (hk:l[i0.toNat]?=some p) (hin:0≤i0∧i0<(l.length:Int)) (hne:(p.id !=z)=true) (hlt:decide (z<p.id)=true) (hs:iV (IntKind.i64.wrap ((k:Int)+1))=iV (((k+1:Nat):Int))) {e:Exit} {tm2:TmL} {hp2:HpL}
 (r:Rl 1 1 69 0 40 2 ([(1,.pv (iV z)),(2,.pp 1 0),(5,.pv (iV ((k+1:Nat):Int))),(6,.pv (iV (p.a)))]) (qp8 l rt) e tm2 hp2):Rl 1 1 69 0 40 2 (qtJ i0 k z) (qp8 l rt) e tm2 hp2:=
 RunsL.next [] 300 [.r (iV p.id),.t true,.r (iV p.id),.t true,.r (iV p.a),Re hs]
  (Ro (Ai hin (Ai (qaH hk) (Ai hne (Ai hin (Ai (qaH hk) (Ai hlt (Ai hin (Ai (qbN hk) (Ai hs tI)))))))))) r
theorem quf {rt z i0:Int} {l:List Pt} {p:Pt} {k:Nat} (hk:l[i0.toNat]?=some p) (hin:0≤i0∧i0<(l.length:Int)) (hne:(p.id !=z)=true) (hlt:decide (z<p.id)=false) (hs:iV (IntKind.i64.wrap ((k:Int)+1))=iV (((k+1:Nat):Int))) {e:Exit} {tm2:TmL} {hp2:HpL}
 (r:Rl 1 1 69 0 40 2 ([(1,.pv (iV z)),(2,.pp 1 0),(5,.pv (iV ((k+1:Nat):Int))),(6,.pv (iV (p.b)))]) (qp8 l rt) e tm2 hp2):Rl 1 1 69 0 40 2 (qtJ i0 k z) (qp8 l rt) e tm2 hp2:=
 RunsL.next [] 300 [.r (iV p.id),.t true,.r (iV p.id),.t false,.r (iV p.b),Re hs]
  (Ro (Ai hin (Ai (qaH hk) (Ai hne (Ai hin (Ai (qaH hk) (Ai hlt (Ai hin (Ai (qbZ hk) (Ai hs tI)))))))))) r
theorem ql7 {rt z:Int} {l:List Pt} {k:Nat} (r0:Rl 1 1 69 0 40 2 ([(1,.pv (iV z)),(2,.pp 1 0),(5,.pv (iV ((0:Nat):Int))),(6,.pv (iV (rt)))]) (qp8 l rt) (.exit 0) ([(5,.pv (iV (k:Int)))]) ([])) :
 Fn 69 1 [trS 0 rt l,.pv (iV (z))] [(0,0,qab l)] (.pv (iV (k:Int))) 0 []:=
 Fz [] [Lf r0]
  tI (Lo r0 [] tI)
abbrev qfg (g:List Int) (l:List Pt) (rt:Int):HpL:=[(1,0,.pv (iV rt)),(1,1,.ls 0 l.length),(0,0,qab l),(2,0,.row 3 1 l.length (ziV g))]
abbrev qsa (k:Nat) (l:List Pt):TmL:=[(1,.pp 1 0),(3,.ls 2 l.length),(4,.pv (iV (k:Int)))]
abbrev qsH (k:Nat) (l:List Pt):TmL:=[(1,.pp 1 0),(3,.ls 2 l.length),(4,.pv (iV ((k+1:Nat):Int)))]
theorem qsb {rt:Int} {l:List Pt} {p:Pt} {k:Nat} {y1 y2 e1 e2:Int} {g:List Int} (hlt:decide ((k:Int)<(l.length:Int))=true) (hk:l[k]?=some p) (hin:0≤(k:Int)∧(k:Int)<(l.length:Int)) (ha:decide (p.a≥0)=true) (hia:0≤p.a∧p.a<(l.length:Int)) (hga:g[p.a.toNat]?=some y1) (hgl:p.a.toNat<g.length) (hy1:iV (IntKind.i64.wrap (y1+1))=iV (e1)) (hb:decide (p.b≥0)=true) (hib:0≤p.b∧p.b<(l.length:Int)) (hgb:(g.set p.a.toNat e1)[p.b.toNat]?=some y2) (hgm:p.b.toNat<(g.set p.a.toNat e1).length) (hy2:iV (IntKind.i64.wrap (y2+1))=iV (e2)) (hs:iV (IntKind.i64.wrap ((k:Int)+1))=iV (((k+1:Nat):Int))) {e:Exit} {tm2:TmL} {hp2:HpL}
 (r:Rl 1 1 71 0 77 3 (qsH k l) ([(1,0,.pv (iV rt)),(1,1,.ls 0 l.length),(0,0,qab l),(2,0,.row 3 1 l.length (ziV ((g.set p.a.toNat e1).set p.b.toNat e2)))]) e tm2 hp2):Rl 1 1 71 0 77 3 (qsa k l) (qfg g l rt) e tm2 hp2:=
 RunsL.next [] 300 [.t true,.r (iV p.a),.t true,.r (iV y1),Re hy1,.w (ziV (g.set p.a.toNat e1)),.r (iV p.b),.t true,.r (iV y2),Re hy2,.w (ziV ((g.set p.a.toNat e1).set p.b.toNat e2)),Re hs]
  (Ro (Ai hlt (Ai hin (Ai (qhw hk) (Ai ha (Ai hia (Ai (qj3 hga) (Ai hy1 (Ai hia (Ai (qr9 g p.a.toNat e1 hgl) (Ai (qfE g p.a.toNat hgl) (Ai hin (Ai (qg0 hk) (Ai hb (Ai hib (Ai (qj3 hgb) (Ai hy2 (Ai hib (Ai (qr9 (g.set p.a.toNat e1) p.b.toNat e2 hgm) (Ai (qfE (g.set p.a.toNat e1) p.b.toNat hgm) (Ai hs tI))))))))))))))))))))) r
theorem qrW {rt:Int} {l:List Pt} {p:Pt} {k:Nat} {y1 e1:Int} {g:List Int} (hlt:decide ((k:Int)<(l.length:Int))=true) (hk:l[k]?=some p) (hin:0≤(k:Int)∧(k:Int)<(l.length:Int)) (ha:decide (p.a≥0)=true) (hia:0≤p.a∧p.a<(l.length:Int)) (hga:g[p.a.toNat]?=some y1) (hgl:p.a.toNat<g.length) (hy1:iV (IntKind.i64.wrap (y1+1))=iV (e1)) (hb:decide (p.b≥0)=false) (hs:iV (IntKind.i64.wrap ((k:Int)+1))=iV (((k+1:Nat):Int))) {e:Exit} {tm2:TmL} {hp2:HpL}
 (r:Rl 1 1 71 0 77 3 (qsH k l) ([(1,0,.pv (iV rt)),(1,1,.ls 0 l.length),(0,0,qab l),(2,0,.row 3 1 l.length (ziV (g.set p.a.toNat e1)))]) e tm2 hp2):Rl 1 1 71 0 77 3 (qsa k l) (qfg g l rt) e tm2 hp2:=
 RunsL.next [] 300 [.t true,.r (iV p.a),.t true,.r (iV y1),Re hy1,.w (ziV (g.set p.a.toNat e1)),.r (iV p.b),.t false,Re hs]
  (Ro (Ai hlt (Ai hin (Ai (qhw hk) (Ai ha (Ai hia (Ai (qj3 hga) (Ai hy1 (Ai hia (Ai (qr9 g p.a.toNat e1 hgl) (Ai (qfE g p.a.toNat hgl) (Ai hin (Ai (qg0 hk) (Ai hb (Ai hs tI))))))))))))))) r
theorem qsE {rt:Int} {l:List Pt} {p:Pt} {k:Nat} {y2 e2:Int} {g:List Int} (hlt:decide ((k:Int)<(l.length:Int))=true) (hk:l[k]?=some p) (hin:0≤(k:Int)∧(k:Int)<(l.length:Int)) (ha:decide (p.a≥0)=false) (hb:decide (p.b≥0)=true) (hib:0≤p.b∧p.b<(l.length:Int)) (hgb:g[p.b.toNat]?=some y2) (hgm:p.b.toNat<g.length) (hy2:iV (IntKind.i64.wrap (y2+1))=iV (e2)) (hs:iV (IntKind.i64.wrap ((k:Int)+1))=iV (((k+1:Nat):Int))) {e:Exit} {tm2:TmL} {hp2:HpL}
 (r:Rl 1 1 71 0 77 3 (qsH k l) ([(1,0,.pv (iV rt)),(1,1,.ls 0 l.length),(0,0,qab l),(2,0,.row 3 1 l.length (ziV (g.set p.b.toNat e2)))]) e tm2 hp2):Rl 1 1 71 0 77 3 (qsa k l) (qfg g l rt) e tm2 hp2:=
 RunsL.next [] 300 [.t true,.r (iV p.a),.t false,.r (iV p.b),.t true,.r (iV y2),Re hy2,.w (ziV (g.set p.b.toNat e2)),Re hs]
  (Ro (Ai hlt (Ai hin (Ai (qhw hk) (Ai ha (Ai hin (Ai (qg0 hk) (Ai hb (Ai hib (Ai (qj3 hgb) (Ai hy2 (Ai hib (Ai (qr9 g p.b.toNat e2 hgm) (Ai (qfE g p.b.toNat hgm) (Ai hs tI))))))))))))))) r
theorem qrX {rt:Int} {l:List Pt} {p:Pt} {k:Nat} {g:List Int} (hlt:decide ((k:Int)<(l.length:Int))=true) (hk:l[k]?=some p) (hin:0≤(k:Int)∧(k:Int)<(l.length:Int)) (ha:decide (p.a≥0)=false) (hb:decide (p.b≥0)=false) (hs:iV (IntKind.i64.wrap ((k:Int)+1))=iV (((k+1:Nat):Int))) {e:Exit} {tm2:TmL} {hp2:HpL}
 (r:Rl 1 1 71 0 77 3 (qsH k l) (qfg g l rt) e tm2 hp2):Rl 1 1 71 0 77 3 (qsa k l) (qfg g l rt) e tm2 hp2:=
 RunsL.next [] 300 [.t true,.r (iV p.a),.t false,.r (iV p.b),.t false,Re hs]
  (Ro (Ai hlt (Ai hin (Ai (qhw hk) (Ai ha (Ai hin (Ai (qg0 hk) (Ai hb (Ai hs tI))))))))) r
theorem qpw {rt:Int} {l:List Pt} {k:Nat} {g:List Int} (hlt:decide ((k:Int)<(l.length:Int))=false):Rl 1 1 71 0 77 3 (qsa k l) (qfg g l rt) (.exit 0) ([(1,.pp 1 0),(3,.ls 2 l.length)]) (qfg g l rt):=
 RunsL.stop [] 300 [.t false] (fun h=>by cases h)
  (Ro (Ai hlt tI))
abbrev qsx (k:Nat) (l:List Pt):TmL:=[(1,.pp 1 0),(3,.ls 2 l.length),(7,.pv (iV (k:Int)))]
theorem qlX {rt x:Int} {l:List Pt} {k:Nat} {g:List Int} (hlt:decide ((k:Int)<(l.length:Int))=true) (hr:((k:Int)==rt)=true) (hg:g[k]?=some x) (hin:0≤(k:Int)∧(k:Int)<(l.length:Int)) (h0:(x !=0)=false) (hr2:((k:Int) !=rt)=false) (hs:iV (IntKind.i64.wrap ((k:Int)+1))=iV (((k+1:Nat):Int))) {e:Exit} {tm2:TmL} {hp2:HpL}
 (r:Rl 1 1 71 1 77 3 ([(1,.pp 1 0),(3,.ls 2 l.length),(7,.pv (iV ((k+1:Nat):Int)))]) (qfg g l rt) e tm2 hp2):Rl 1 1 71 1 77 3 (qsx k l) (qfg g l rt) e tm2 hp2:=
 RunsL.next [] 300 [.t true,.t true,.r (iV x),.t false,.t false,Re hs]
  (Ro (Ai hlt (Ai hr (Ai hin (Ai (qe7 hg) (Ai h0 (Ai hr2 (Ai hs tI)))))))) r
theorem qld {rt x:Int} {l:List Pt} {k:Nat} {g:List Int} (hlt:decide ((k:Int)<(l.length:Int))=true) (hr:((k:Int)==rt)=false) (hg:g[k]?=some x) (hin:0≤(k:Int)∧(k:Int)<(l.length:Int)) (hr2:((k:Int) !=rt)=true) (h1:(x !=1)=false) (hs:iV (IntKind.i64.wrap ((k:Int)+1))=iV (((k+1:Nat):Int))) {e:Exit} {tm2:TmL} {hp2:HpL}
 (r:Rl 1 1 71 1 77 3 ([(1,.pp 1 0),(3,.ls 2 l.length),(7,.pv (iV ((k+1:Nat):Int)))]) (qfg g l rt) e tm2 hp2):Rl 1 1 71 1 77 3 (qsx k l) (qfg g l rt) e tm2 hp2:=
 RunsL.next [] 300 [.t true,.t false,.t true,.r (iV x),.t false,Re hs]
  (Ro (Ai hlt (Ai hr (Ai hr2 (Ai hin (Ai (qe7 hg) (Ai h1 (Ai hs tI)))))))) r
theorem qkc {rt x:Int} {l:List Pt} {k:Nat} {g:List Int} (hlt:decide ((k:Int)<(l.length:Int))=true) (hr:((k:Int)==rt)=true) (hg:g[k]?=some x) (hin:0≤(k:Int)∧(k:Int)<(l.length:Int)) (h0:(x !=0)=true):Rl 1 1 71 1 77 3 (qsx k l) (qfg g l rt) (.ret) ([(2,.pv (.bool false))]) ([]):=
 RunsL.stop [] 300 [.t true,.t true,.r (iV x),.t true] (fun h=>by cases h)
  (Ro (Ai hlt (Ai hr (Ai hin (Ai (qe7 hg) (Ai h0 tI))))))
theorem qiO {rt x:Int} {l:List Pt} {k:Nat} {g:List Int} (hlt:decide ((k:Int)<(l.length:Int))=true) (hr:((k:Int)==rt)=false) (hg:g[k]?=some x) (hin:0≤(k:Int)∧(k:Int)<(l.length:Int)) (hr2:((k:Int) !=rt)=true) (h1:(x !=1)=true):Rl 1 1 71 1 77 3 (qsx k l) (qfg g l rt) (.ret) ([(2,.pv (.bool false))]) ([]):=
 RunsL.stop [] 300 [.t true,.t false,.t true,.r (iV x),.t true] (fun h=>by cases h)
  (Ro (Ai hlt (Ai hr (Ai hr2 (Ai hin (Ai (qe7 hg) (Ai h1 tI)))))))
theorem qmA {rt:Int} {l:List Pt} {k:Nat} {g:List Int} (hlt:decide ((k:Int)<(l.length:Int))=false):Rl 1 1 71 1 77 3 (qsx k l) (qfg g l rt) (.exit 2) ([]) ([]):=
 RunsL.stop [] 300 [.t false] (fun h=>by cases h)
  (Ro (Ai hlt tI))
abbrev quw (g:List Int) (l:List Pt) (rt:Int):Prop:=Rl 1 1 71 0 77 3 ([(1,.pp 1 0),(3,.ls 2 l.length),(4,.pv (iV ((0:Nat):Int)))]) ([(1,0,.pv (iV rt)),(1,1,.ls 0 l.length),(0,0,qab l),(2,0,.row 3 1 l.length (ziV (List.replicate l.length 0)))]) (.exit 0) ([(1,.pp 1 0),(3,.ls 2 l.length)]) (qfg g l rt)
theorem qoH {rt:Int} {l:List Pt} {g:List Int} (n0:0≤(l.length:Int)) (n1:(l.length:Int)≤1000000) (r0:quw g l rt) (r1:Rl 1 1 71 1 77 3 ([(1,.pp 1 0),(3,.ls 2 l.length),(7,.pv (iV ((0:Nat):Int)))]) (qfg g l rt) (.exit 2) ([]) ([])) :
 Fn 71 1 [trS 0 rt l] [(0,0,qab l)] (.pv (.bool true)) 0 []:=
 Fz [] [Lf r0,Lf r1]
  tI (Ai n0 (Ai (Eq.refl (l.length:Int)) (Ai n1 (Ai (Lt r0 []) (Ai (Ai (Er (SV.pv (iV rt))) (Ai (Er (SV.ls 0 l.length)) (Ai (Er (qab l)) (Ai (qge l.length) tI)))) (Ai r0 (Lo r1 [] tI)))))))
theorem qqV {rt:Int} {l:List Pt} {g:List Int} (n0:0≤(l.length:Int)) (n1:(l.length:Int)≤1000000) (r0:quw g l rt) (r1:Rl 1 1 71 1 77 3 ([(1,.pp 1 0),(3,.ls 2 l.length),(7,.pv (iV ((0:Nat):Int)))]) (qfg g l rt) (.ret) ([(2,.pv (.bool false))]) ([])) :
 Fn 71 1 [trS 0 rt l] [(0,0,qab l)] (.pv (.bool false)) 0 []:=
 Fz [] [Lf r0,Lf r1]
  tI (Ai n0 (Ai (Eq.refl (l.length:Int)) (Ai n1 (Ai (Lt r0 []) (Ai (Ai (Er (SV.pv (iV rt))) (Ai (Er (SV.ls 0 l.length)) (Ai (Er (qab l)) (Ai (qge l.length) tI)))) (Ai r0 (Lo r1 [] tI)))))))
end Go.Proofs.Ytalnjplghagbpaa

namespace Go.Proofs.Ytalnjplghagbpaa
set_option maxRecDepth 100000
open Go.RowKit
section
variable {rt:Int} {l:List Pt}
theorem qrZ {T:Sh Nat} {z:Int} (hr:Rep l rt T) (hu:(idT l T).list.Pairwise (· < ·)) (hz:z∈(idT l T).list) (hn:T.list.length≤1000000):Fn 69 1 [trS 0 rt l,.pv (iV z)] [(0,0,qab l)] (.pv (iV ((Sh.dep z (idT l T):Nat):Int))) 0 []:=by
 have run:∀ (S:Sh Nat) (i:Int) (k:Nat),Rep l i S→(idT l S).list.Pairwise (· < ·)→z∈(idT l S).list→k+S.list.length≤1000000→
  Rl 1 1 69 0 40 2 [(1,.pv (iV z)),(2,.pp 1 0),(5,.pv (iV (k:Int))),(6,.pv (iV i))] [(1,0,.pv (iV rt)),(1,1,.ls 0 l.length),(0,0,qab l)] (.exit 0) [(5,.pv (iV ((k+Sh.dep z (idT l S):Nat):Int)))] []:=by
  intro S
  induction S with
  | nil=>intro i k _ _ h;cases h
  | node a j b ia ib=>
   intro i k ⟨hi,p,hp,a1,a2⟩ hu hz hk
   subst hi
   have hjl:=qam hp
   have e1:idN l j=p.id:=qav hp
   have eT:idT l (.node a j b)=.node (idT l a) p.id (idT l b):=by show Sh.node _ (idN l j) _=_;rw[e1];rfl
   have hlen:(Sh.node a j b).list.length=a.list.length+(b.list.length+1):=by show (a.list++j::b.list).length=_;rw[List.length_append,List.length_cons]
   rw[eT] at hu hz ⊢
   obtain⟨s1,s2,s3,s4⟩:=Sh.up_split hu
   have hin:0≤(j:Int)∧(j:Int)<(l.length:Int):=⟨by omega,by omega⟩
   unfold Sh.dep
   by_cases c1:z=p.id
   ·rw[if_pos c1]
    exact qpl (hk:=hp) (hin:=hin) (hne:=by simp[c1])
   ·rw[if_neg c1]
    by_cases c2:z<p.id
    ·rw[if_pos c2]
     have hz1:z∈(idT l a).list:=by
      rcases List.mem_append.1 hz with h | h
      ·exact h
      ·rcases List.mem_cons.1 h with h | h
       ·exact (c1 h).elim
       ·have:=s4 z h;omega
     have r:=ia p.a (k+1) a1 s1 hz1 (by omega)
     rw[show k+(Sh.dep z (idT l a)+1)=k+1+Sh.dep z (idT l a) by omega]
     exact qtd (hk:=hp) (hin:=hin) (hne:=by simp;omega) (hlt:=dt c2) (hs:=qah (by omega)) r
    ·rw[if_neg c2]
     have hz1:z∈(idT l b).list:=by
      rcases List.mem_append.1 hz with h | h
      ·have:=s3 z h;omega
      ·rcases List.mem_cons.1 h with h | h
       ·exact (c1 h).elim
       ·exact h
     have r:=ib p.b (k+1) a2 s2 hz1 (by omega)
     rw[show k+(Sh.dep z (idT l b)+1)=k+1+Sh.dep z (idT l b) by omega]
     exact quf (hk:=hp) (hin:=hin) (hne:=by simp;omega) (hlt:=df c2) (hs:=qah (by omega)) r
 have:=run T rt 0 hr hu hz (by omega)
 rw[Nat.zero_add] at this
 exact ql7 (r0:=this)
def BestI (l:List Pt) (tn td:Int) (n k:Nat) (z:Int):Prop:=(k≤n∧z = -1)∨(∃ b:Nat,z=(b:Int)∧n≤b∧b<k∧∀ j,n≤j→j<k→j≠b→ld tn td (ndT l b) (ndT l j)=true)
variable {tn td:Int}
theorem BestI.uniq {n k:Nat} {z y:Int} (h:BestI l tn td n k z) (h':BestI l tn td n k y):z=y:=by
 rcases h with ⟨h1,rfl⟩ | ⟨b,rfl,h2,h3,h4⟩
 ·rcases h' with ⟨_,rfl⟩ | ⟨c,rfl,k2,k3,_⟩
  ·rfl
  ·omega
 ·rcases h' with ⟨k1,_⟩ | ⟨c,rfl,k2,k3,k4⟩
  ·omega
  ·by_cases e:b=c
   ·rw[e]
   ·have a1:=h4 c k2 k3 fun k=>e k.symm
    have a2:=k4 b h2 h3 e
    rw[qeH a1] at a2
    cases a2
theorem quB (htn:I64 tn) (htd:I64 td) (hs:Val l) {n hi:Nat} (hh:hi≤l.length) {y:Int} (hy:BestI l tn td n hi y):Fn 110 1 [qax 0 l,.pv (qaa tn td),.pv (iV (n:Int)),.pv (iV (hi:Int))] [(0,0,qag l)] (.pv (iV y)) 0 []:=by
 have hsl:=hs.len
 have run:∀ (e k:Nat) (z:Int),k+e=max n hi→n≤k→BestI l tn td n k z→
  Rl 1 1 110 0 35 3 [(3,.pv (iV (hi:Int))),(4,.pp 1 0),(5,.pp 2 0),(9,.pv (iV z)),(10,.pv (iV (k:Int)))] [(1,0,.ls 0 l.length),(2,0,.pv (iV tn)),(2,1,.pv (iV td)),(0,0,qag l)] (.exit 0) [(9,.pv (iV y))] []:=by
  intro e
  induction e with
  | zero=>
   intro k z hk hn hb
   have hb':BestI l tn td n hi z:=by
    rcases hb with ⟨h1,h2⟩ | ⟨b,h1,h2,h3,h4⟩
    ·exact Or.inl ⟨by omega,h2⟩
    ·exact Or.inr ⟨b,h1,h2,by omega,fun j j1 j2=>h4 j j1 (by omega)⟩
   rw[hy.uniq hb']
   exact qo4 (hlt:=df (by omega))
  | succ e ih=>
   intro k z hk hn hb
   have hkh:k<hi:=by omega
   have hkl:k<l.length:=by omega
   rcases hb with ⟨h1,rfl⟩ | ⟨b,rfl,h2,h3,h4⟩
   ·exact qjR (hlt:=dt (by omega)) (h0:=by decide) (hs:=qah (by omega)) (ih (k+1) _ (by omega) (by omega) (Or.inr ⟨k,rfl,by omega,by omega,fun j j1 j2 j3=>by omega⟩))
   ·have hp:=qal (n:=l) hkl
    have hq:=qal (n:=l) (k:=b) (by omega)
    have hne:(ndT l b).id≠(ndT l k).id:=by have:=hs.up.mono h3 hq hp;omega
    by_cases hw:ld tn td (ndT l k) (ndT l b)=true
    ·exact qpf (z:=(b:Int)) (hlt:=dt (by omega)) (h0:=df (by omega)) (hk:=hp) (hin:=⟨by omega,by omega⟩) (hz:=hq) (hinz:=⟨by omega,by omega⟩) (hle:=by rw[← hw];exact qhd htn htd (hs.ok _ (List.mem_of_getElem? hp)) (hs.ok _ (List.mem_of_getElem? hq))) (hs:=qah (by omega))
      (ih (k+1) _ (by omega) (by omega) (Or.inr ⟨k,rfl,by omega,by omega,fun j j1 j2 j3=>by
       by_cases ej:j=b
       ·rw[ej];exact hw
       ·exact qdf hw (h4 j j1 (by omega) ej)⟩))
    ·have hw':ld tn td (ndT l k) (ndT l b)=false:=by simpa using hw
     exact qpI (z:=(b:Int)) (hlt:=dt (by omega)) (h0:=df (by omega)) (hk:=hp) (hin:=⟨by omega,by omega⟩) (hz:=hq) (hinz:=⟨by omega,by omega⟩) (hle:=by rw[← hw'];exact qhd htn htd (hs.ok _ (List.mem_of_getElem? hp)) (hs.ok _ (List.mem_of_getElem? hq))) (hs:=qah (by omega))
      (ih (k+1) _ (by omega) (by omega) (Or.inr ⟨b,rfl,h2,by omega,fun j j1 j2 j3=>by
       by_cases ej:j=k
       ·rw[ej];exact qj0 (fun k=>hne k.symm) hw'
       ·exact h4 j j1 (by omega) j3⟩))
 rcases Nat.le_total n hi with hle | hle
 ·exact qhy (r0:=run (hi-n) n (-1) (by omega) (Nat.le_refl _) (Or.inl ⟨Nat.le_refl _,rfl⟩))
 ·exact qhy (r0:=run 0 n (-1) (by omega) (Nat.le_refl _) (Or.inl ⟨Nat.le_refl _,rfl⟩))
end
end Go.Proofs.Ytalnjplghagbpaa
