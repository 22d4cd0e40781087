/-
  Joined: Uo, Uqa, Uh, Ut, Ui, Uj. Conditions: none.
-/
import Derived.Test.YtalnjplghagbpaaW28
import Derived.Test.YtalnjplghagbpaaW22
import Derived.Test.YtalnjplghagbpaaW19
namespace Go.Proofs.Ytalnjplghagbpaa
set_option maxRecDepth 100000
open Go.RowKit
abbrev qbT:List Pt:=[⟨1,0,2⟩,⟨2,6,-1⟩,⟨5,0,0⟩]
theorem qtB {z:Int} :
 Pure Try.prog 20 #[iV z] (qaa z 1):=
 qae (args:=[iV z]) 300 []
  (Ai rfl tI) (by kernel_rfl)
theorem qvM :
 Fn 15 0 [] [] (.ag [.ls 0 3]) 1 [(0,0,qag qbT)]:=
 Fz [(0,1)] [.lw]
  (qak (qaA [(0,1)]) [(0,0,qag qbT)]) tI
abbrev qsG:HpL:=[(0,0,qac ([Pt.mk (1) (-1) (1),Pt.mk (2) (-1) (2),Pt.mk (5) (-1) (-1)]:List Pt))]
theorem qvl :
 Fn 21 0 [] [] (trS 0 0 ([Pt.mk (1) (-1) (1),Pt.mk (2) (-1) (2),Pt.mk (5) (-1) (-1)]:List Pt)) 1 qsG:=
 Fz [(0,1)] [.lw]
  (qak (qaA [(0,1)]) qsG) tI
theorem qvL (hg:Fn 15 0 [] [] (.ag [.ls 0 3]) 1 [(0,0,qag qbT)]) (hat0:Pure Try.prog 20 #[iV (0)] (qaa 0 1)) (h1:Fn 18 1 [qaq 0 qbT,.pv (qaa 0 1)] [(0,0,qag qbT)] (.tu [.ag [.pv (iV 1),.ls 1 ([Pt.mk (1) (-1) (-1),Pt.mk (2) (0) (2),Pt.mk (5) (-1) (-1)]:List Pt).length],.one (.pv (iV 0))]) 1 [(1,0,qac ([Pt.mk (1) (-1) (-1),Pt.mk (2) (0) (2),Pt.mk (5) (-1) (-1)]:List Pt))]) (hat2:Pure Try.prog 20 #[iV (2)] (qaa 2 1)) (h2:Fn 18 1 [qaq 0 qbT,.pv (qaa 2 1)] [(0,0,qag qbT)] (.tu [.ag [.pv (iV 0),.ls 1 ([Pt.mk (1) (-1) (1),Pt.mk (2) (-1) (2),Pt.mk (5) (-1) (-1)]:List Pt).length],.one (.pv (iV 0))]) 1 [(1,0,qac ([Pt.mk (1) (-1) (1),Pt.mk (2) (-1) (2),Pt.mk (5) (-1) (-1)]:List Pt))]) (hd:Fn 12 1 [trS 0 0 ([Pt.mk (1) (-1) (1),Pt.mk (2) (-1) (2),Pt.mk (5) (-1) (-1)]:List Pt),.pv (iV (5))] qsG (.pv (.tuple #[iV 2,iV 0])) 0 []) (hs:Fn 13 1 [trS 0 0 ([Pt.mk (1) (-1) (1),Pt.mk (2) (-1) (2),Pt.mk (5) (-1) (-1)]:List Pt),.pv (iV (2))] qsG (.tu [.ag [.pv (iV 0),.lq 1 3 0 1],.ag [.pv (iV 0),.ls 2 ([Pt.mk (2) (-1) (1),Pt.mk (5) (-1) (-1)]:List Pt).length],.one (.pv (iV 0))]) 2 [(1,0,qac ([Pt.mk (1) (-1) (-1),Pt.mk (2) (-1) (2),Pt.mk (5) (-1) (-1)]:List Pt)),(2,0,qac ([Pt.mk (2) (-1) (1),Pt.mk (5) (-1) (-1)]:List Pt))]) (q1:Fn 22 2 [trS 0 1 ([Pt.mk (1) (-1) (-1),Pt.mk (2) (0) (2),Pt.mk (5) (-1) (-1)]:List Pt),trS 1 1 ([Pt.mk (1) (-1) (-1),Pt.mk (2) (0) (2),Pt.mk (5) (-1) (-1)]:List Pt)] [(0,0,qac ([Pt.mk (1) (-1) (-1),Pt.mk (2) (0) (2),Pt.mk (5) (-1) (-1)]:List Pt)),(1,0,qac ([Pt.mk (1) (-1) (-1),Pt.mk (2) (0) (2),Pt.mk (5) (-1) (-1)]:List Pt))] (.pv (.bool true)) 0 []) (hc:Fn 21 0 [] [] (trS 0 0 ([Pt.mk (1) (-1) (1),Pt.mk (2) (-1) (2),Pt.mk (5) (-1) (-1)]:List Pt)) 1 qsG) (q2:Fn 22 2 [trS 0 0 ([Pt.mk (1) (-1) (1),Pt.mk (2) (-1) (2),Pt.mk (5) (-1) (-1)]:List Pt),trS 1 0 ([Pt.mk (1) (-1) (1),Pt.mk (2) (-1) (2),Pt.mk (5) (-1) (-1)]:List Pt)] [(0,0,qac ([Pt.mk (1) (-1) (1),Pt.mk (2) (-1) (2),Pt.mk (5) (-1) (-1)]:List Pt)),(1,0,qac ([Pt.mk (1) (-1) (1),Pt.mk (2) (-1) (2),Pt.mk (5) (-1) (-1)]:List Pt))] (.pv (.bool true)) 0 []) (q3:Fn 22 2 [.ag [.pv (iV 0),.lq 0 3 0 1],trS 1 0 ([Pt.mk (1) (-1) (-1)]:List Pt)] [(0,0,qac ([Pt.mk (1) (-1) (-1),Pt.mk (2) (-1) (2),Pt.mk (5) (-1) (-1)]:List Pt)),(1,0,qac ([Pt.mk (1) (-1) (-1)]:List Pt))] (.pv (.bool true)) 0 []) (q4:Fn 22 2 [trS 0 0 ([Pt.mk (2) (-1) (1),Pt.mk (5) (-1) (-1)]:List Pt),trS 1 0 ([Pt.mk (2) (-1) (1),Pt.mk (5) (-1) (-1)]:List Pt)] [(0,0,qac ([Pt.mk (2) (-1) (1),Pt.mk (5) (-1) (-1)]:List Pt)),(1,0,qac ([Pt.mk (2) (-1) (1),Pt.mk (5) (-1) (-1)]:List Pt))] (.pv (.bool true)) 0 []) :
 Fn 24 0 [] [] (.pv (.bool true)) 0 []:=
 qcC 700 [] [Cf hg [],Rf hat0,Cf h1 [0],Cf hg [],Rf hat2,Cf h2 [3],Cf hd [4],Cf hs [4],.md,.k,.lw,Cf q1 [1,10],.k,Cf hc [],Cf q2 [4,11],.k,.k,.k,.lw,Cf q3 [6,12],.lw,Cf q4 [7,13]]
  tI (Co hg [] 0 (Ai hat0 (Co h1 [0] 1 (Co hg [] 3 (Ai hat2 (Co h2 [3] 4 (Co hd [4] 6 (Co hs [4] 6 (Co q1 [1,10] 11 (Co hc [] 11 (Co q2 [4,11] 12 (Co q3 [6,12] 13 (Co q4 [7,13] 14 tI))))))))))))) (by kernel_rfl)
theorem qlm {tn td:Int} {s:List Pt} (hgf:Fn 25 1 [qaq 0 s] [(0,0,qag s)] (.pv (.bool true)) 0 []) :
 Fn 38 1 [qaq 0 s,.pv (qaa tn td)] [(0,0,qag s)] (.pv (.bool false)) 0 []:=
 Fz [] [Cf hgf [0],.k]
  tI (Co hgf [0] 3 tI)
theorem qhd {e1 tn td:Int} {s:List Pt} (hgf:Fn 25 1 [qaq 0 s] [(0,0,qag s)] (.pv (.bool false)) 0 []) (ht:Fn 64 1 [qaq 0 s,.pv (qaa tn td)] [(0,0,qag s)] (.pv (iV (e1))) 0 []) (he:(e1==0)=false) :
 Fn 38 1 [qaq 0 s,.pv (qaa tn td)] [(0,0,qag s)] (.pv (.bool false)) 0 []:=
 Fz [] [Cf hgf [0],.k,Cf ht [0],.t false]
  tI (Co hgf [0] 3 (Co ht [0] 3 (Ai he tI)))
theorem qqC {tn td:Int} {s:List Pt} (hgf:Fn 25 1 [qaq 0 s] [(0,0,qag s)] (.pv (.bool false)) 0 []) (ht:Fn 64 1 [qaq 0 s,.pv (qaa tn td)] [(0,0,qag s)] (.pv (iV (0))) 0 []) :
 Fn 38 1 [qaq 0 s,.pv (qaa tn td)] [(0,0,qag s)] (.pv (.bool true)) 0 []:=
 Fz [] [Cf hgf [0],.k,Cf ht [0],.k]
  tI (Co hgf [0] 3 (Co ht [0] 3 tI))
end Go.Proofs.Ytalnjplghagbpaa

namespace Go.Proofs.Ytalnjplghagbpaa
set_option maxRecDepth 100000
open Go.RowKit
theorem qjg:∀ (m:List Pt) (p:Pt),qam (m++[p])=qam m++[iV p.id,iV p.a,iV p.b]
 | [],_=>rfl
 | q::r,p=>congrArg (fun l=>iV q.id::iV q.a::iV q.b::l) (qjg r p)
theorem qov (b:Nat) (m:List Pt) (p:Pt):some (SV.ls b (m.length+1))=some (SV.ls b (m++[p]).length):=by rw[List.length_append];rfl
theorem qjG (m:List Pt) (p:Pt):some (SV.row 80 3 (m.length+1) (qam m++[iV p.id,iV p.a,iV p.b]))=some (qag (m++[p])):=by
 rw[← qjg m p,qag,List.length_append];rfl
theorem qky {z tn td:Int} {s:List Pt} (hft:Fn 38 1 [qaq 0 s,.pv (qaa tn td)] [(0,0,qag s)] (.pv (.bool false)) 0 []) (hal:Pure Try.prog 24 #[] (.bool true)) :
 Fn 7 1 [qaq 0 s,.pv (qaa tn td),.pv (iV (z))] [(0,0,qag s)] (.pv (.bool true)) 0 []:=
 Fz [] [Cf hft [0],.k,Rf hal]
  tI (Co hft [0] 3 (Ai hal tI))
abbrev qjr (a:List Pt) (b:List Pt) (s:List Pt) (td:Int) (tn:Int):HpL:=[(1,0,.ls 0 s.length),(2,0,.pv (iV tn)),(2,1,.pv (iV td)),(3,0,.ls 5 (a).length),(4,0,.ls 6 (b).length),(0,0,qag s),(5,0,qag (a)),(6,0,qag (b))]
abbrev qpT (k:Nat) (z:Int):TmL:=[(2,.pv (iV z)),(3,.pp 1 0),(4,.pp 2 0),(7,.pp 3 0),(8,.pp 4 0),(9,.pv (iV (k:Int)))]
theorem qqK {z tn td:Int} {s a b:List Pt} {p:Pt} {k:Nat} (hlt:decide ((k:Int)<(s.length:Int))=true) (hin:0≤(k:Int)∧(k:Int)<(s.length:Int)) (hk:s[k]?=some p) (hc:decide (p.id<z)=true) (hm:a.length+1≤1000000) (hs:iV (IntKind.i64.wrap ((k:Int)+1))=iV (((k+1:Nat):Int))) {e:Exit} {tm2:TmL} {hp2:HpL}
 (r:Rl 1 1 7 0 130 7 ([(2,.pv (iV z)),(3,.pp 1 0),(4,.pp 2 0),(7,.pp 3 0),(8,.pp 4 0),(9,.pv (iV ((k+1:Nat):Int)))]) ([(1,0,.ls 0 s.length),(2,0,.pv (iV tn)),(2,1,.pv (iV td)),(3,0,.ls 5 (a++[p]).length),(4,0,.ls 6 (b).length),(0,0,qag s),(5,0,qag (a++[p])),(6,0,qag (b))]) e tm2 hp2):Rl 1 1 7 0 130 7 (qpT k z) (qjr a b s td tn) e tm2 hp2:=
 RunsL.next [(5,8)] 300 [.t true,.r (iV p.id),.t true,.r (ptV p),Re hs]
  (Rh (Ai (Er (SV.ls 0 s.length)) (Ai (Er (SV.pv (iV tn))) (Ai (Er (SV.pv (iV td))) (Ai (qov 8 a p) (Ai (Er (SV.ls 6 b.length)) (Ai (Er (qag s)) (Ai (qjG a p) (Ai (Er (qag b)) tI)))))))) (Ai hlt (Ai hin (Ai (qa1 hk) (Ai hc (Ai hin (Ai (qaP hk) (Ai hm (Ai hs tI))))))))) r
theorem qnm {z tn td:Int} {s a b:List Pt} {p:Pt} {k:Nat} (hlt:decide ((k:Int)<(s.length:Int))=true) (hin:0≤(k:Int)∧(k:Int)<(s.length:Int)) (hk:s[k]?=some p) (hc:decide (p.id<z)=false) (hm:b.length+1≤1000000) (hs:iV (IntKind.i64.wrap ((k:Int)+1))=iV (((k+1:Nat):Int))) {e:Exit} {tm2:TmL} {hp2:HpL}
 (r:Rl 1 1 7 0 130 7 ([(2,.pv (iV z)),(3,.pp 1 0),(4,.pp 2 0),(7,.pp 3 0),(8,.pp 4 0),(9,.pv (iV ((k+1:Nat):Int)))]) ([(1,0,.ls 0 s.length),(2,0,.pv (iV tn)),(2,1,.pv (iV td)),(3,0,.ls 5 (a).length),(4,0,.ls 6 (b++[p]).length),(0,0,qag s),(5,0,qag (a)),(6,0,qag (b++[p]))]) e tm2 hp2):Rl 1 1 7 0 130 7 (qpT k z) (qjr a b s td tn) e tm2 hp2:=
 RunsL.next [(6,8)] 300 [.t true,.r (iV p.id),.t false,.r (ptV p),Re hs]
  (Rh (Ai (Er (SV.ls 0 s.length)) (Ai (Er (SV.pv (iV tn))) (Ai (Er (SV.pv (iV td))) (Ai (Er (SV.ls 5 a.length)) (Ai (qov 8 b p) (Ai (Er (qag s)) (Ai (Er (qag a)) (Ai (qjG b p) tI)))))))) (Ai hlt (Ai hin (Ai (qa1 hk) (Ai hc (Ai hin (Ai (qaP hk) (Ai hm (Ai hs tI))))))))) r
theorem qpM {z tn td:Int} {s a b:List Pt} {k:Nat} (hlt:decide ((k:Int)<(s.length:Int))=false):Rl 1 1 7 0 130 7 (qpT k z) (qjr a b s td tn) (.exit 0) ([(2,.pv (iV z)),(3,.pp 1 0),(4,.pp 2 0),(7,.pp 3 0),(8,.pp 4 0)]) (qjr a b s td tn):=
 RunsL.stop [] 300 [.t false] (fun h=>by cases h)
  (Ro (Ai hlt tI))
theorem qnn {z r1 r2 r3 tn td:Int} {s a b n0 n1 n2 n3:List Pt} {n:Nat} (hft:Fn 38 1 [qaq 0 s,.pv (qaa tn td)] [(0,0,qag s)] (.pv (.bool true)) 0 []) (hl0:Rl 1 1 7 0 130 7 ([(2,.pv (iV z)),(3,.pp 1 0),(4,.pp 2 0),(7,.pp 3 0),(8,.pp 4 0),(9,.pv (iV ((0:Nat):Int)))]) ([(1,0,.ls 0 s.length),(2,0,.pv (iV tn)),(2,1,.pv (iV td)),(3,0,.ls 5 ([]:List Pt).length),(4,0,.ls 6 ([]:List Pt).length),(0,0,qag s),(5,0,qag ([]:List Pt)),(6,0,qag ([]:List Pt))]) (.exit 0) ([(2,.pv (iV z)),(3,.pp 1 0),(4,.pp 2 0),(7,.pp 3 0),(8,.pp 4 0)]) (qjr a b s td tn)) (h1:Fn 18 1 [qaq 0 s,.pv (qaa tn td)] [(0,0,qag s)] (.tu [.ag [.pv (iV r1),.ls 1 n1.length],.one (.pv (iV 0))]) 1 [(1,0,qac n1)]) (h2:Fn 18 1 [qaq 0 a,.pv (qaa tn td)] [(0,0,qag a)] (.tu [.ag [.pv (iV r2),.ls 1 n2.length],.one (.pv (iV 0))]) 1 [(1,0,qac n2)]) (h3:Fn 18 1 [qaq 0 b,.pv (qaa tn td)] [(0,0,qag b)] (.tu [.ag [.pv (iV r3),.ls 1 n3.length],.one (.pv (iV 0))]) 1 [(1,0,qac n3)]) (hsp:Fn 13 1 [trS 0 r1 n1,.pv (iV (z))] [(0,0,qac n1)] (.tu [.ag [.pv (iV r2),.lq 1 3 0 n],.ag [.pv (iV r3),.ls 2 n3.length],.one (.pv (iV 0))]) 2 [(1,0,qac n0),(2,0,qac n3)]) (hme:Fn 14 3 [trS 0 r2 n2,trS 1 r3 n3,qaq 2 s,.pv (qaa tn td)] [(0,0,qac n2),(1,0,qac n3),(2,0,qag s)] (.tu [.ag [.pv (iV r1),.ls 3 n1.length],.one (.pv (iV 0))]) 1 [(3,0,qac n1)]) (q1:Fn 22 2 [.ag [.pv (iV r2),.lq 0 3 0 n],trS 1 r2 n2] [(0,0,qac n0),(1,0,qac n2)] (.pv (.bool true)) 0 []) (q2:Fn 22 2 [trS 0 r3 n3,trS 1 r3 n3] [(0,0,qac n3),(1,0,qac n3)] (.pv (.bool true)) 0 []) (q3:Fn 22 2 [trS 0 r1 n1,trS 1 r1 n1] [(0,0,qac n1),(1,0,qac n1)] (.pv (.bool true)) 0 []) (hal:Pure Try.prog 24 #[] (.bool true)) :
 Fn 7 1 [qaq 0 s,.pv (qaa tn td),.pv (iV (z))] [(0,0,qag s)] (.pv (.bool true)) 0 []:=
 qcC 700 [] [Cf hft [0],.k,.ln false 3 0 80 3,.ln false 4 0 80 3,Lf hl0,Cf h1 [0],Cf h2 [5],Cf h3 [6],Cf hsp [7],Cf hme [9,11,0],.k,.k,.k,.k,.k,Cf q1 [13,9],Cf q2 [14,11],Cf q3 [17,7],Rf hal]
  tI (Co hft [0] 3 (Lo hl0 [] (Co h1 [0] 7 (Co h2 [5] 9 (Co h3 [6] 11 (Co hsp [7] 13 (Co hme [9,11,0] 17 (Co q1 [13,9] 19 (Co q2 [14,11] 19 (Co q3 [17,7] 19 (Ai hal tI))))))))))) (by kernel_rfl)
end Go.Proofs.Ytalnjplghagbpaa

namespace Go.Proofs.Ytalnjplghagbpaa
set_option maxRecDepth 100000
open Go.RowKit
open Classical in
noncomputable def pT (p:Prop):Bool:=decide p
open Classical in
theorem qfi {p:Prop} (h:p):pT p=true:=by unfold pT;exact decide_eq_true h
open Classical in
theorem qf9 {p:Prop} (h:¬ p):pT p=false:=by unfold pT;exact decide_eq_false h
theorem qfc {n:Int} (h0 : -9223372036854775808≤n) (h1:n≤9223372036854775807):iV (IntKind.i64.wrap n)=iV n:=by
 rw[show IntKind.i64.wrap n=n by rw[IntKind.wrap_i64];omega]
section
variable {rt x:Int} {l m:List Pt}
theorem qkt (z:Int):Fn 70 1 [trS 0 rt l,.pv (iV z)] [(0,0,qac l)] (.pv (.bool (pT (-1≤z∧z<(l.length:Int))))) 0 []:=by
 by_cases h1 : -1≤z
 ·by_cases h2:z<(l.length:Int)
  ·rw[qfi ⟨h1,h2⟩];exact qmM (h1:=dt (by omega)) (h2:=dt h2)
  ·rw[qf9 fun h=>h2 h.2];exact qln (h1:=dt (by omega)) (h2:=df h2)
 ·rw[qf9 fun h=>h1 h.1];exact qsN (h1:=df (by omega))
theorem qdy (hn:l.length≤1000000):Fn 39 1 [trS 0 rt l] [(0,0,qac l)] (.pv (.bool (pT (Up l)))) 0 []:=by
 have step:∀ k,1≤k→(∀ j,1≤j→j<k→∀ p q,l[j-1]?=some p→l[j]?=some q→p.id<q.id)→∀ {e:Exit} {tm2:TmL} {hp2:HpL},k≤l.length→
  Rl 1 1 39 0 25 2 [(1,.pp 1 0),(3,.pv (iV (k:Int)))] [(1,0,.pv (iV rt)),(1,1,.ls 0 l.length),(0,0,qac l)] e tm2 hp2→
  Rl 1 1 39 0 25 2 [(1,.pp 1 0),(3,.pv (iV ((1:Nat):Int)))] [(1,0,.pv (iV rt)),(1,1,.ls 0 l.length),(0,0,qac l)] e tm2 hp2:=by
  intro k h1 hk e tm2 hp2 hkl r
  refine RunsL.rounds (fun j=>[(1,.pp 1 0),(3,.pv (iV (j:Int)))]) (fun _=>[(1,0,.pv (iV rt)),(1,1,.ls 0 l.length),(0,0,qac l)]) (N:=k) (k-1) 1 (by omega) (fun j hj1 hj r=>?_) r
  obtain⟨p,hp⟩:=qal (l:=l) (k:=j-1) (by omega)
  obtain⟨q,hq⟩:=qal (l:=l) (k:=j) (by omega)
  have:=hk j hj1 hj p q hp hq
  exact qma (j:=j-1) (hlt:=dt (by omega)) (hs1:=by rw[qfc (by omega) (by omega)];congr 1;omega) (hj:=hp) (hinj:=⟨by omega,by omega⟩) (hk:=hq) (hin:=⟨by omega,by omega⟩) (hc:=df (by omega)) (hs:=qan (by omega)) r
 rcases qaK (fun k=>1≤k→∀ p q,l[k-1]?=some p→l[k]?=some q→p.id<q.id) l.length with h | ⟨k,hk,hb,hf⟩
 ·rw[qfi (p:=Up l) fun k p q hp hq=>h (k+1) (qai hq) (by omega) p q hp hq]
  rcases Nat.eq_zero_or_pos l.length with e | e
  ·exact qjS (r0:=qjp (hlt:=df (by omega)))
  ·exact qjS (r0:=step l.length e (fun j h1 hj=>h j hj h1) (Nat.le_refl _) (qjp (hlt:=df (by omega))))
 ·simp only[Classical.not_forall] at hb
  obtain⟨h1,p,q,hp,hq,hlt⟩:=hb
  rw[qf9 (p:=Up l) fun hu=>by
   have:=hu (k-1) p q hp (by rw[show k-1+1=k by omega];exact hq)
   omega]
  exact qsU (r0:=step k h1 (fun j h1 hj=>hf j hj h1) (by omega) (qqh (j:=k-1) (hlt:=dt (by omega)) (hs1:=by rw[qfc (by omega) (by omega)];congr 1;omega) (hj:=hp) (hinj:=⟨by omega,by omega⟩) (hk:=hq) (hin:=⟨by omega,by omega⟩) (hc:=dt (by omega))))
theorem qgN (lo hi:Nat):∀ {T:Sh Nat} {z:Int},Rep l z T→Fn 98 1 [trS 0 rt l,.pv (iV z),.pv (iV (lo:Int)),.pv (iV (hi:Int))] [(0,0,qac l)] (.pv (iV (rtI (res lo hi T)))) 0 []:=by
 have run:∀ (T:Sh Nat) (z:Int),Rep l z T→Rl 1 1 98 0 37 2 [(1,.pv (iV z)),(2,.pv (iV (lo:Int))),(3,.pv (iV (hi:Int))),(4,.pp 1 0)] [(1,0,.pv (iV rt)),(1,1,.ls 0 l.length),(0,0,qac l)] (.exit 0) [(1,.pv (iV (rtI (res lo hi T))))] []:=by
  intro T
  induction T with
  | nil=>
   intro z h
   have e:z = -1:=h
   subst e
   exact qq1 (h0:=by decide)
  | node a k b ia ib=>
   intro z ⟨hz,p,hp,a1,a2⟩
   subst hz
   have hkl:=qai hp
   unfold res
   by_cases h1:k<lo
   ·rw[if_pos h1]
    exact qvw (h0:=dt (by omega)) (hk:=hp) (hin:=⟨by omega,by omega⟩) (h1:=dt (by omega)) (ib _ a2)
   ·rw[if_neg h1]
    by_cases h2:hi≤k
    ·rw[if_pos h2]
     exact quO (h0:=dt (by omega)) (hk:=hp) (hin:=⟨by omega,by omega⟩) (h1:=df (by omega)) (h2:=dt (by omega)) (ia _ a1)
    ·rw[if_neg h2]
     exact qsR (h0:=dt (by omega)) (h1:=df (by omega)) (h2:=df (by omega))
 intro T z h
 exact qmk (r0:=run T z h)
theorem qiO (hn:l.length≤1000000):Fn 22 2 [trS 0 rt l,trS 1 rt l] [(0,0,qac l),(1,0,qac l)] (.pv (.bool true)) 0 []:=
 qp7 (r0:=RunsL.rounds (fun k=>[(2,.pp 2 0),(3,.pp 3 0),(5,.pv (iV (k:Int)))]) (fun _=>[(2,0,.pv (iV rt)),(2,1,.ls 0 l.length),(3,0,.pv (iV rt)),(3,1,.ls 1 l.length),(0,0,qac l),(1,0,qac l)]) (N:=l.length) l.length 0 (Nat.zero_add _) (fun k _ hk r=>by
  obtain⟨p,hp⟩:=qal hk
  exact qnf (hlt:=dt (by omega)) (hk:=hp) (hin:=qaY hk) (hs:=qan (by omega)) r) (qps (hlt:=df (by omega))))
end
end Go.Proofs.Ytalnjplghagbpaa

namespace Go.Proofs.Ytalnjplghagbpaa
set_option maxRecDepth 100000
open Go.RowKit
section
variable {s:List Pt} {tn td:Int}
theorem qsA {i k:Nat} (hs:Val s) (hi:i<s.length) (hk:k<s.length) (h:k≠i):(ndT s i).id≠(ndT s k).id:=fun e=>by
 rcases Nat.lt_trichotomy i k with h0 | h0 | h0
 ·have:=hs.up.mono h0 (qah hi) (qah hk);omega
 ·exact h h0.symm
 ·have:=hs.up.mono h0 (qah hk) (qah hi);omega
end
end Go.Proofs.Ytalnjplghagbpaa

namespace Go.Proofs.Ytalnjplghagbpaa
set_option maxRecDepth 100000
open Go.RowKit
theorem qaB {l:List Pt} {z:Int} {p:Pt} (h:l[z.toNat]?=some p):qcF (qam l) (0*3+z.toNat*3) [iV p.id]:=qa1 h
theorem qhq {l:List Pt} {k:Nat} {p:Pt} (h:l[k]?=some p):qcF (qam l) (0*3+k*3+1) [iV p.a]:=qbO (z:=(k:Int)) h
theorem qhX {l:List Pt} {k:Nat} {p:Pt} (h:l[k]?=some p):qcF (qam l) (0*3+k*3+2) [iV p.b]:=qb2 (z:=(k:Int)) h
theorem qkD (n:Nat):some (SV.row 3 1 n (qcT [iV 0] n))=some (SV.row 3 1 n (ziV (List.replicate n 0))):=by rw[qoA]
theorem qgr:∀ (m:List Pt) (p:Pt),qam (m++[p])=qam m++[iV p.id,iV p.a,iV p.b]
 | [],_=>rfl
 | q::r,p=>congrArg (fun l=>iV q.id::iV q.a::iV q.b::l) (qgr r p)
theorem qsr (b:Nat) (m:List Pt) (p:Pt):some (SV.ls b (m.length+1))=some (SV.ls b (m++[p]).length):=by rw[List.length_append];rfl
theorem qqj (m:List Pt) (p:Pt):some (SV.row 26 3 (m.length+1) (qam m++[iV p.id,iV p.a,iV p.b]))=some (qac (m++[p])):=by
 rw[← qgr m p,qac,List.length_append];rfl
abbrev qn8 (l:List Pt) (td:Int) (tn:Int):HpL:=[(1,0,.ls 0 l.length),(2,0,.pv (iV tn)),(2,1,.pv (iV td)),(0,0,qag l)]
abbrev quj (hi:Int) (k:Nat) (z:Int):TmL:=[(3,.pv (iV hi)),(4,.pp 1 0),(5,.pp 2 0),(9,.pv (iV (z))),(10,.pv (iV (k:Int)))]
theorem qjK {z hi:Int} {l:List Pt} {k:Nat} {tn td:Int} (hlt:decide ((k:Int)<hi)=true) (h0:decide (z<0)=true) (hs:iV (IntKind.i64.wrap ((k:Int)+1))=iV (((k+1:Nat):Int))) {e:Exit} {tm2:TmL} {hp2:HpL}
 (r:Rl 1 1 110 0 35 3 ([(3,.pv (iV hi)),(4,.pp 1 0),(5,.pp 2 0),(9,.pv (iV (k:Int))),(10,.pv (iV ((k+1:Nat):Int)))]) (qn8 l td tn) e tm2 hp2):Rl 1 1 110 0 35 3 (quj hi k z) (qn8 l td tn) e tm2 hp2:=
 RunsL.next [] 300 [.t true,.t true,Re hs]
  (Ro (Ai hlt (Ai h0 (Ai hs tI)))) r
theorem qqP {z hi:Int} {l:List Pt} {p q:Pt} {k:Nat} {tn td:Int} (hlt:decide ((k:Int)<hi)=true) (h0:decide (z<0)=false) (hk:l[k]?=some p) (hin:0≤(k:Int)∧(k:Int)<(l.length:Int)) (hz:l[z.toNat]?=some q) (hinz:0≤z∧z<(l.length:Int)) (hle:Pure Try.prog 111 #[ptV p,ptV q,qaa tn td] (.bool true)) (hs:iV (IntKind.i64.wrap ((k:Int)+1))=iV (((k+1:Nat):Int))) {e:Exit} {tm2:TmL} {hp2:HpL}
 (r:Rl 1 1 110 0 35 3 ([(3,.pv (iV hi)),(4,.pp 1 0),(5,.pp 2 0),(9,.pv (iV (k:Int))),(10,.pv (iV ((k+1:Nat):Int)))]) (qn8 l td tn) e tm2 hp2):Rl 1 1 110 0 35 3 (quj hi k z) (qn8 l td tn) e tm2 hp2:=
 RunsL.next [] 300 [.t true,.t false,.r (ptV p),.r (ptV q),Rf hle,Re hs]
  (Ro (Ai hlt (Ai h0 (Ai hin (Ai (qaP hk) (Ai hinz (Ai (qbH hz) (Ai hle (Ai hs tI))))))))) r
theorem qpR {z hi:Int} {l:List Pt} {p q:Pt} {k:Nat} {tn td:Int} (hlt:decide ((k:Int)<hi)=true) (h0:decide (z<0)=false) (hk:l[k]?=some p) (hin:0≤(k:Int)∧(k:Int)<(l.length:Int)) (hz:l[z.toNat]?=some q) (hinz:0≤z∧z<(l.length:Int)) (hle:Pure Try.prog 111 #[ptV p,ptV q,qaa tn td] (.bool false)) (hs:iV (IntKind.i64.wrap ((k:Int)+1))=iV (((k+1:Nat):Int))) {e:Exit} {tm2:TmL} {hp2:HpL}
 (r:Rl 1 1 110 0 35 3 ([(3,.pv (iV hi)),(4,.pp 1 0),(5,.pp 2 0),(9,.pv (iV (z))),(10,.pv (iV ((k+1:Nat):Int)))]) (qn8 l td tn) e tm2 hp2):Rl 1 1 110 0 35 3 (quj hi k z) (qn8 l td tn) e tm2 hp2:=
 RunsL.next [] 300 [.t true,.t false,.r (ptV p),.r (ptV q),Rf hle,Re hs]
  (Ro (Ai hlt (Ai h0 (Ai hin (Ai (qaP hk) (Ai hinz (Ai (qbH hz) (Ai hle (Ai hs tI))))))))) r
theorem qqD {z hi:Int} {l:List Pt} {k:Nat} {tn td:Int} (hlt:decide ((k:Int)<hi)=false):Rl 1 1 110 0 35 3 (quj hi k z) (qn8 l td tn) (.exit 0) ([(9,.pv (iV z))]) ([]):=
 RunsL.stop [] 300 [.t false] (fun h=>by cases h)
  (Ro (Ai hlt tI))
theorem qhz {z hi:Int} {l:List Pt} {n:Nat} {tn td:Int} (r0:Rl 1 1 110 0 35 3 ([(3,.pv (iV hi)),(4,.pp 1 0),(5,.pp 2 0),(9,.pv (iV (-1))),(10,.pv (iV (n:Int)))]) (qn8 l td tn) (.exit 0) ([(9,.pv (iV z))]) ([])) :
 Fn 110 1 [qaq 0 l,.pv (qaa tn td),.pv (iV (n:Int)),.pv (iV (hi))] [(0,0,qag l)] (.pv (iV (z))) 0 []:=
 Fz [] [Lf r0]
  tI (Lo r0 [] tI)
abbrev qrb (l:List Pt) (rt:Int):HpL:=[(1,0,.pv (iV rt)),(1,1,.ls 0 l.length),(0,0,qac l)]
abbrev qo1 (i0:Int) (k:Nat) (z:Int):TmL:=[(1,.pv (iV z)),(2,.pp 1 0),(5,.pv (iV (k:Int))),(6,.pv (iV (i0)))]
theorem qqN {rt z i0:Int} {l:List Pt} {p:Pt} {k:Nat} (hk:l[i0.toNat]?=some p) (hin:0≤i0∧i0<(l.length:Int)) (hne:(p.id !=z)=false):Rl 1 1 69 0 40 2 (qo1 i0 k z) (qrb l rt) (.exit 0) ([(5,.pv (iV (k:Int)))]) ([]):=
 RunsL.stop [] 300 [.r (iV p.id),.t false] (fun h=>by cases h)
  (Ro (Ai hin (Ai (qaB hk) (Ai hne tI))))
theorem quX {rt z i0:Int} {l:List Pt} {p:Pt} {k:Nat} (hk:l[i0.toNat]?=some p) (hin:0≤i0∧i0<(l.length:Int)) (hne:(p.id !=z)=true) (hlt:decide (z<p.id)=true) (hs:iV (IntKind.i64.wrap ((k:Int)+1))=iV (((k+1:Nat):Int))) {e:Exit} {tm2:TmL} {hp2:HpL}
 (r:Rl 1 1 69 0 40 2 ([(1,.pv (iV z)),(2,.pp 1 0),(5,.pv (iV ((k+1:Nat):Int))),(6,.pv (iV (p.a)))]) (qrb l rt) e tm2 hp2):Rl 1 1 69 0 40 2 (qo1 i0 k z) (qrb l rt) e tm2 hp2:=
 RunsL.next [] 300 [.r (iV p.id),.t true,.r (iV p.id),.t true,.r (iV p.a),Re hs]
  (Ro (Ai hin (Ai (qaB hk) (Ai hne (Ai hin (Ai (qaB hk) (Ai hlt (Ai hin (Ai (qbO hk) (Ai hs tI)))))))))) r
theorem quz {rt z i0:Int} {l:List Pt} {p:Pt} {k:Nat} (hk:l[i0.toNat]?=some p) (hin:0≤i0∧i0<(l.length:Int)) (hne:(p.id !=z)=true) (hlt:decide (z<p.id)=false) (hs:iV (IntKind.i64.wrap ((k:Int)+1))=iV (((k+1:Nat):Int))) {e:Exit} {tm2:TmL} {hp2:HpL}
 (r:Rl 1 1 69 0 40 2 ([(1,.pv (iV z)),(2,.pp 1 0),(5,.pv (iV ((k+1:Nat):Int))),(6,.pv (iV (p.b)))]) (qrb l rt) e tm2 hp2):Rl 1 1 69 0 40 2 (qo1 i0 k z) (qrb l rt) e tm2 hp2:=
 RunsL.next [] 300 [.r (iV p.id),.t true,.r (iV p.id),.t false,.r (iV p.b),Re hs]
  (Ro (Ai hin (Ai (qaB hk) (Ai hne (Ai hin (Ai (qaB hk) (Ai hlt (Ai hin (Ai (qb2 hk) (Ai hs tI)))))))))) r
theorem qmF {rt z:Int} {l:List Pt} {k:Nat} (r0:Rl 1 1 69 0 40 2 ([(1,.pv (iV z)),(2,.pp 1 0),(5,.pv (iV ((0:Nat):Int))),(6,.pv (iV (rt)))]) (qrb l rt) (.exit 0) ([(5,.pv (iV (k:Int)))]) ([])) :
 Fn 69 1 [trS 0 rt l,.pv (iV (z))] [(0,0,qac l)] (.pv (iV (k:Int))) 0 []:=
 Fz [] [Lf r0]
  tI (Lo r0 [] tI)
abbrev qfK (g:List Int) (l:List Pt) (rt:Int):HpL:=[(1,0,.pv (iV rt)),(1,1,.ls 0 l.length),(0,0,qac l),(2,0,.row 3 1 l.length (ziV g))]
abbrev qtI (k:Nat) (l:List Pt):TmL:=[(1,.pp 1 0),(3,.ls 2 l.length),(4,.pv (iV (k:Int)))]
abbrev qud (k:Nat) (l:List Pt):TmL:=[(1,.pp 1 0),(3,.ls 2 l.length),(4,.pv (iV ((k+1:Nat):Int)))]
theorem qsb {rt:Int} {l:List Pt} {p:Pt} {k:Nat} {y1 y2 e1 e2:Int} {g:List Int} (hlt:decide ((k:Int)<(l.length:Int))=true) (hk:l[k]?=some p) (hin:0≤(k:Int)∧(k:Int)<(l.length:Int)) (ha:decide (p.a≥0)=true) (hia:0≤p.a∧p.a<(l.length:Int)) (hga:g[p.a.toNat]?=some y1) (hgl:p.a.toNat<g.length) (hy1:iV (IntKind.i64.wrap (y1+1))=iV (e1)) (hb:decide (p.b≥0)=true) (hib:0≤p.b∧p.b<(l.length:Int)) (hgb:(g.set p.a.toNat e1)[p.b.toNat]?=some y2) (hgm:p.b.toNat<(g.set p.a.toNat e1).length) (hy2:iV (IntKind.i64.wrap (y2+1))=iV (e2)) (hs:iV (IntKind.i64.wrap ((k:Int)+1))=iV (((k+1:Nat):Int))) {e:Exit} {tm2:TmL} {hp2:HpL}
 (r:Rl 1 1 71 0 77 3 (qud k l) ([(1,0,.pv (iV rt)),(1,1,.ls 0 l.length),(0,0,qac l),(2,0,.row 3 1 l.length (ziV ((g.set p.a.toNat e1).set p.b.toNat e2)))]) e tm2 hp2):Rl 1 1 71 0 77 3 (qtI k l) (qfK g l rt) e tm2 hp2:=
 RunsL.next [] 300 [.t true,.r (iV p.a),.t true,.r (iV y1),Re hy1,.w (ziV (g.set p.a.toNat e1)),.r (iV p.b),.t true,.r (iV y2),Re hy2,.w (ziV ((g.set p.a.toNat e1).set p.b.toNat e2)),Re hs]
  (Ro (Ai hlt (Ai hin (Ai (qhq hk) (Ai ha (Ai hia (Ai (qlW hga) (Ai hy1 (Ai hia (Ai (qui g p.a.toNat e1 hgl) (Ai (qg5 g p.a.toNat hgl) (Ai hin (Ai (qhX hk) (Ai hb (Ai hib (Ai (qlW hgb) (Ai hy2 (Ai hib (Ai (qui (g.set p.a.toNat e1) p.b.toNat e2 hgm) (Ai (qg5 (g.set p.a.toNat e1) p.b.toNat hgm) (Ai hs tI))))))))))))))))))))) r
theorem qsl {rt:Int} {l:List Pt} {p:Pt} {k:Nat} {y1 e1:Int} {g:List Int} (hlt:decide ((k:Int)<(l.length:Int))=true) (hk:l[k]?=some p) (hin:0≤(k:Int)∧(k:Int)<(l.length:Int)) (ha:decide (p.a≥0)=true) (hia:0≤p.a∧p.a<(l.length:Int)) (hga:g[p.a.toNat]?=some y1) (hgl:p.a.toNat<g.length) (hy1:iV (IntKind.i64.wrap (y1+1))=iV (e1)) (hb:decide (p.b≥0)=false) (hs:iV (IntKind.i64.wrap ((k:Int)+1))=iV (((k+1:Nat):Int))) {e:Exit} {tm2:TmL} {hp2:HpL}
 (r:Rl 1 1 71 0 77 3 (qud k l) ([(1,0,.pv (iV rt)),(1,1,.ls 0 l.length),(0,0,qac l),(2,0,.row 3 1 l.length (ziV (g.set p.a.toNat e1)))]) e tm2 hp2):Rl 1 1 71 0 77 3 (qtI k l) (qfK g l rt) e tm2 hp2:=
 RunsL.next [] 300 [.t true,.r (iV p.a),.t true,.r (iV y1),Re hy1,.w (ziV (g.set p.a.toNat e1)),.r (iV p.b),.t false,Re hs]
  (Ro (Ai hlt (Ai hin (Ai (qhq hk) (Ai ha (Ai hia (Ai (qlW hga) (Ai hy1 (Ai hia (Ai (qui g p.a.toNat e1 hgl) (Ai (qg5 g p.a.toNat hgl) (Ai hin (Ai (qhX hk) (Ai hb (Ai hs tI))))))))))))))) r
theorem qsV {rt:Int} {l:List Pt} {p:Pt} {k:Nat} {y2 e2:Int} {g:List Int} (hlt:decide ((k:Int)<(l.length:Int))=true) (hk:l[k]?=some p) (hin:0≤(k:Int)∧(k:Int)<(l.length:Int)) (ha:decide (p.a≥0)=false) (hb:decide (p.b≥0)=true) (hib:0≤p.b∧p.b<(l.length:Int)) (hgb:g[p.b.toNat]?=some y2) (hgm:p.b.toNat<g.length) (hy2:iV (IntKind.i64.wrap (y2+1))=iV (e2)) (hs:iV (IntKind.i64.wrap ((k:Int)+1))=iV (((k+1:Nat):Int))) {e:Exit} {tm2:TmL} {hp2:HpL}
 (r:Rl 1 1 71 0 77 3 (qud k l) ([(1,0,.pv (iV rt)),(1,1,.ls 0 l.length),(0,0,qac l),(2,0,.row 3 1 l.length (ziV (g.set p.b.toNat e2)))]) e tm2 hp2):Rl 1 1 71 0 77 3 (qtI k l) (qfK g l rt) e tm2 hp2:=
 RunsL.next [] 300 [.t true,.r (iV p.a),.t false,.r (iV p.b),.t true,.r (iV y2),Re hy2,.w (ziV (g.set p.b.toNat e2)),Re hs]
  (Ro (Ai hlt (Ai hin (Ai (qhq hk) (Ai ha (Ai hin (Ai (qhX hk) (Ai hb (Ai hib (Ai (qlW hgb) (Ai hy2 (Ai hib (Ai (qui g p.b.toNat e2 hgm) (Ai (qg5 g p.b.toNat hgm) (Ai hs tI))))))))))))))) r
theorem qtd {rt:Int} {l:List Pt} {p:Pt} {k:Nat} {g:List Int} (hlt:decide ((k:Int)<(l.length:Int))=true) (hk:l[k]?=some p) (hin:0≤(k:Int)∧(k:Int)<(l.length:Int)) (ha:decide (p.a≥0)=false) (hb:decide (p.b≥0)=false) (hs:iV (IntKind.i64.wrap ((k:Int)+1))=iV (((k+1:Nat):Int))) {e:Exit} {tm2:TmL} {hp2:HpL}
 (r:Rl 1 1 71 0 77 3 (qud k l) (qfK g l rt) e tm2 hp2):Rl 1 1 71 0 77 3 (qtI k l) (qfK g l rt) e tm2 hp2:=
 RunsL.next [] 300 [.t true,.r (iV p.a),.t false,.r (iV p.b),.t false,Re hs]
  (Ro (Ai hlt (Ai hin (Ai (qhq hk) (Ai ha (Ai hin (Ai (qhX hk) (Ai hb (Ai hs tI))))))))) r
theorem qqU {rt:Int} {l:List Pt} {k:Nat} {g:List Int} (hlt:decide ((k:Int)<(l.length:Int))=false):Rl 1 1 71 0 77 3 (qtI k l) (qfK g l rt) (.exit 0) ([(1,.pp 1 0),(3,.ls 2 l.length)]) (qfK g l rt):=
 RunsL.stop [] 300 [.t false] (fun h=>by cases h)
  (Ro (Ai hlt tI))
abbrev qtR (k:Nat) (l:List Pt):TmL:=[(1,.pp 1 0),(3,.ls 2 l.length),(7,.pv (iV (k:Int)))]
theorem qnD {rt x:Int} {l:List Pt} {k:Nat} {g:List Int} (hlt:decide ((k:Int)<(l.length:Int))=true) (hr:((k:Int)==rt)=true) (hg:g[k]?=some x) (hin:0≤(k:Int)∧(k:Int)<(l.length:Int)) (h0:(x !=0)=false) (hr2:((k:Int) !=rt)=false) (hs:iV (IntKind.i64.wrap ((k:Int)+1))=iV (((k+1:Nat):Int))) {e:Exit} {tm2:TmL} {hp2:HpL}
 (r:Rl 1 1 71 1 77 3 ([(1,.pp 1 0),(3,.ls 2 l.length),(7,.pv (iV ((k+1:Nat):Int)))]) (qfK g l rt) e tm2 hp2):Rl 1 1 71 1 77 3 (qtR k l) (qfK g l rt) e tm2 hp2:=
 RunsL.next [] 300 [.t true,.t true,.r (iV x),.t false,.t false,Re hs]
  (Ro (Ai hlt (Ai hr (Ai hin (Ai (qi2 hg) (Ai h0 (Ai hr2 (Ai hs tI)))))))) r
theorem qm7 {rt x:Int} {l:List Pt} {k:Nat} {g:List Int} (hlt:decide ((k:Int)<(l.length:Int))=true) (hr:((k:Int)==rt)=false) (hg:g[k]?=some x) (hin:0≤(k:Int)∧(k:Int)<(l.length:Int)) (hr2:((k:Int) !=rt)=true) (h1:(x !=1)=false) (hs:iV (IntKind.i64.wrap ((k:Int)+1))=iV (((k+1:Nat):Int))) {e:Exit} {tm2:TmL} {hp2:HpL}
 (r:Rl 1 1 71 1 77 3 ([(1,.pp 1 0),(3,.ls 2 l.length),(7,.pv (iV ((k+1:Nat):Int)))]) (qfK g l rt) e tm2 hp2):Rl 1 1 71 1 77 3 (qtR k l) (qfK g l rt) e tm2 hp2:=
 RunsL.next [] 300 [.t true,.t false,.t true,.r (iV x),.t false,Re hs]
  (Ro (Ai hlt (Ai hr (Ai hr2 (Ai hin (Ai (qi2 hg) (Ai h1 (Ai hs tI)))))))) r
theorem qk0 {rt x:Int} {l:List Pt} {k:Nat} {g:List Int} (hlt:decide ((k:Int)<(l.length:Int))=true) (hr:((k:Int)==rt)=true) (hg:g[k]?=some x) (hin:0≤(k:Int)∧(k:Int)<(l.length:Int)) (h0:(x !=0)=true):Rl 1 1 71 1 77 3 (qtR k l) (qfK g l rt) (.ret) ([(2,.pv (.bool false))]) ([]):=
 RunsL.stop [] 300 [.t true,.t true,.r (iV x),.t true] (fun h=>by cases h)
  (Ro (Ai hlt (Ai hr (Ai hin (Ai (qi2 hg) (Ai h0 tI))))))
theorem qjI {rt x:Int} {l:List Pt} {k:Nat} {g:List Int} (hlt:decide ((k:Int)<(l.length:Int))=true) (hr:((k:Int)==rt)=false) (hg:g[k]?=some x) (hin:0≤(k:Int)∧(k:Int)<(l.length:Int)) (hr2:((k:Int) !=rt)=true) (h1:(x !=1)=true):Rl 1 1 71 1 77 3 (qtR k l) (qfK g l rt) (.ret) ([(2,.pv (.bool false))]) ([]):=
 RunsL.stop [] 300 [.t true,.t false,.t true,.r (iV x),.t true] (fun h=>by cases h)
  (Ro (Ai hlt (Ai hr (Ai hr2 (Ai hin (Ai (qi2 hg) (Ai h1 tI)))))))
theorem qnU {rt:Int} {l:List Pt} {k:Nat} {g:List Int} (hlt:decide ((k:Int)<(l.length:Int))=false):Rl 1 1 71 1 77 3 (qtR k l) (qfK g l rt) (.exit 2) ([]) ([]):=
 RunsL.stop [] 300 [.t false] (fun h=>by cases h)
  (Ro (Ai hlt tI))
abbrev qwb (g:List Int) (l:List Pt) (rt:Int):Prop:=Rl 1 1 71 0 77 3 ([(1,.pp 1 0),(3,.ls 2 l.length),(4,.pv (iV ((0:Nat):Int)))]) ([(1,0,.pv (iV rt)),(1,1,.ls 0 l.length),(0,0,qac l),(2,0,.row 3 1 l.length (ziV (List.replicate l.length 0)))]) (.exit 0) ([(1,.pp 1 0),(3,.ls 2 l.length)]) (qfK g l rt)
theorem qpm {rt:Int} {l:List Pt} {g:List Int} (n0:0≤(l.length:Int)) (n1:(l.length:Int)≤1000000) (r0:qwb g l rt) (r1:Rl 1 1 71 1 77 3 ([(1,.pp 1 0),(3,.ls 2 l.length),(7,.pv (iV ((0:Nat):Int)))]) (qfK g l rt) (.exit 2) ([]) ([])) :
 Fn 71 1 [trS 0 rt l] [(0,0,qac l)] (.pv (.bool true)) 0 []:=
 Fz [] [Lf r0,Lf r1]
  tI (Ai n0 (Ai (Eq.refl (l.length:Int)) (Ai n1 (Ai (Lt r0 []) (Ai (Ai (Er (SV.pv (iV rt))) (Ai (Er (SV.ls 0 l.length)) (Ai (Er (qac l)) (Ai (qkD l.length) tI)))) (Ai r0 (Lo r1 [] tI)))))))
theorem qr2 {rt:Int} {l:List Pt} {g:List Int} (n0:0≤(l.length:Int)) (n1:(l.length:Int)≤1000000) (r0:qwb g l rt) (r1:Rl 1 1 71 1 77 3 ([(1,.pp 1 0),(3,.ls 2 l.length),(7,.pv (iV ((0:Nat):Int)))]) (qfK g l rt) (.ret) ([(2,.pv (.bool false))]) ([])) :
 Fn 71 1 [trS 0 rt l] [(0,0,qac l)] (.pv (.bool false)) 0 []:=
 Fz [] [Lf r0,Lf r1]
  tI (Ai n0 (Ai (Eq.refl (l.length:Int)) (Ai n1 (Ai (Lt r0 []) (Ai (Ai (Er (SV.pv (iV rt))) (Ai (Er (SV.ls 0 l.length)) (Ai (Er (qac l)) (Ai (qkD l.length) tI)))) (Ai r0 (Lo r1 [] tI)))))))
abbrev qt4 (l:List Pt) (m:List Pt) (rt:Int) (y:Int):HpL:=[(1,0,.pv (iV rt)),(1,1,.ls 0 l.length),(2,0,.pv (iV 0)),(2,1,.pv (.slice none 0 0)),(3,0,.pv (iV y)),(3,1,.ls 4 (m).length),(0,0,qac l),(4,0,qac (m))]
theorem qlH {rt y:Int} {l m:List Pt} {p:Pt} {j k n:Nat} {y1 y2 e1 e2:Int} (hlt:decide ((k:Int)<(j:Int))=true) (hk:l[k]?=some p) (hin:0≤(k:Int)∧(k:Int)<(l.length:Int)) (hi1:Fn 98 1 [trS 0 rt l,.pv (iV p.a),.pv (iV (n:Int)),.pv (iV (j:Int))] [(0,0,qac l)] (.pv (iV (e1))) 0 []) (hs1:Pure Try.prog 97 #[iV (e1),iV (n:Int)] (iV (y1))) (hi2:Fn 98 1 [trS 0 rt l,.pv (iV p.b),.pv (iV (n:Int)),.pv (iV (j:Int))] [(0,0,qac l)] (.pv (iV (e2))) 0 []) (hs2:Pure Try.prog 97 #[iV (e2),iV (n:Int)] (iV (y2))) (hm:m.length+1≤1000000) (hs:iV (IntKind.i64.wrap ((k:Int)+1))=iV (((k+1:Nat):Int))) {e:Exit} {tm2:TmL} {hp2:HpL}
 (r:Rl 1 1 74 0 55 5 ([(1,.pv (iV (n:Int))),(2,.pv (iV (j:Int))),(3,.pp 1 0),(6,.pp 2 0),(7,.pp 3 0),(8,.pv (iV ((k+1:Nat):Int)))]) ([(1,0,.pv (iV rt)),(1,1,.ls 0 l.length),(2,0,.pv (iV 0)),(2,1,.pv (.slice none 0 0)),(3,0,.pv (iV y)),(3,1,.ls 4 (m++[(Pt.mk p.id y1 y2)]).length),(0,0,qac l),(4,0,qac (m++[(Pt.mk p.id y1 y2)]))]) e tm2 hp2):Rl 1 1 74 0 55 5 ([(1,.pv (iV (n:Int))),(2,.pv (iV (j:Int))),(3,.pp 1 0),(6,.pp 2 0),(7,.pp 3 0),(8,.pv (iV (k:Int)))]) (qt4 l m rt y) e tm2 hp2:=
 RunsL.next [(4,7)] 300 [.t true,.r (ptV p),.md,Cf hi1 [0],Rf hs1,Cf hi2 [0],Rf hs2,Re hs]
  (Rh (Ai (Er (SV.pv (iV rt))) (Ai (Er (SV.ls 0 l.length)) (Ai (Er (SV.pv (iV 0))) (Ai (Er (SV.pv (.slice none 0 0))) (Ai (Er (SV.pv (iV y))) (Ai (qsr 7 m (Pt.mk p.id y1 y2)) (Ai (Er (qac l)) (Ai (qqj m (Pt.mk p.id y1 y2)) tI)))))))) (Ai hlt (Ai hin (Ai (qaP hk) (Co hi1 [0] 6 (Ai hs1 (Co hi2 [0] 6 (Ai hs2 (Ai hm (Ai hs tI)))))))))) r
theorem qoZ {rt y:Int} {l m:List Pt} {j k n:Nat} (hlt:decide ((k:Int)<(j:Int))=false):Rl 1 1 74 0 55 5 ([(1,.pv (iV (n:Int))),(2,.pv (iV (j:Int))),(3,.pp 1 0),(6,.pp 2 0),(7,.pp 3 0),(8,.pv (iV (k:Int)))]) (qt4 l m rt y) (.exit 0) ([(6,.pp 2 0),(7,.pp 3 0)]) (qt4 l m rt y):=
 RunsL.stop [] 300 [.t false] (fun h=>by cases h)
  (Ro (Ai hlt tI))
theorem qm0 {rt y z:Int} {l m:List Pt} {j n:Nat} (hi0:Fn 98 1 [trS 0 rt l,.pv (iV rt),.pv (iV (n:Int)),.pv (iV (j:Int))] [(0,0,qac l)] (.pv (iV (z))) 0 []) (hs0:Pure Try.prog 97 #[iV (z),iV (n:Int)] (iV (y))) (r0:Rl 1 1 74 0 55 5 ([(1,.pv (iV (n:Int))),(2,.pv (iV (j:Int))),(3,.pp 1 0),(6,.pp 2 0),(7,.pp 3 0),(8,.pv (iV (n:Int)))]) ([(1,0,.pv (iV rt)),(1,1,.ls 0 l.length),(2,0,.pv (iV 0)),(2,1,.pv (.slice none 0 0)),(3,0,.pv (iV y)),(3,1,.ls 4 ([]:List Pt).length),(0,0,qac l),(4,0,qac ([]:List Pt))]) (.exit 0) ([(6,.pp 2 0),(7,.pp 3 0)]) (qt4 l m rt y)) :
 Fn 74 1 [trS 0 rt l,.pv (iV (n:Int)),.pv (iV (j:Int))] [(0,0,qac l)] (trS 1 y m) 1 [(1,0,qac m)]:=
 Fz [(1,4)] [Cf hi0 [0],Rf hs0,.ln false 3 1 26 3,Lf r0]
  (qak (qaA [(1,4)]) [(1,0,qac m)]) (Co hi0 [0] 3 (Ai hs0 (Lo r0 [] tI)))
end Go.Proofs.Ytalnjplghagbpaa

namespace Go.Proofs.Ytalnjplghagbpaa
set_option maxRecDepth 100000
open Go.RowKit
section
variable {rt:Int} {l:List Pt}
theorem qsQ {T:Sh Nat} {z:Int} (hr:Rep l rt T) (hu:(idT l T).list.Pairwise (· < ·)) (hz:z∈(idT l T).list) (hn:T.list.length≤1000000):Fn 69 1 [trS 0 rt l,.pv (iV z)] [(0,0,qac l)] (.pv (iV ((Sh.dep z (idT l T):Nat):Int))) 0 []:=by
 have run:∀ (S:Sh Nat) (i:Int) (k:Nat),Rep l i S→(idT l S).list.Pairwise (· < ·)→z∈(idT l S).list→k+S.list.length≤1000000→
  Rl 1 1 69 0 40 2 [(1,.pv (iV z)),(2,.pp 1 0),(5,.pv (iV (k:Int))),(6,.pv (iV i))] [(1,0,.pv (iV rt)),(1,1,.ls 0 l.length),(0,0,qac l)] (.exit 0) [(5,.pv (iV ((k+Sh.dep z (idT l S):Nat):Int)))] []:=by
  intro S
  induction S with
  | nil=>intro i k _ _ h;cases h
  | node a j b ia ib=>
   intro i k ⟨hi,p,hp,a1,a2⟩ hu hz hk
   subst hi
   have hjl:=qai hp
   have e1:idN l j=p.id:=qao hp
   have eT:idT l (.node a j b)=.node (idT l a) p.id (idT l b):=by show Sh.node _ (idN l j) _=_;rw[e1];rfl
   have hlen:(Sh.node a j b).list.length=a.list.length+(b.list.length+1):=by show (a.list++j::b.list).length=_;rw[List.length_append,List.length_cons]
   rw[eT] at hu hz ⊢
   obtain⟨s1,s2,s3,s4⟩:=Sh.up_split hu
   have hin:0≤(j:Int)∧(j:Int)<(l.length:Int):=⟨by omega,by omega⟩
   unfold Sh.dep
   by_cases c1:z=p.id
   ·rw[if_pos c1]
    exact qqN (hk:=hp) (hin:=hin) (hne:=by simp[c1])
   ·rw[if_neg c1]
    by_cases c2:z<p.id
    ·rw[if_pos c2]
     have hz1:z∈(idT l a).list:=by
      rcases List.mem_append.1 hz with h | h
      ·exact h
      ·rcases List.mem_cons.1 h with h | h
       ·exact (c1 h).elim
       ·have:=s4 z h;omega
     have r:=ia p.a (k+1) a1 s1 hz1 (by omega)
     rw[show k+(Sh.dep z (idT l a)+1)=k+1+Sh.dep z (idT l a) by omega]
     exact quX (hk:=hp) (hin:=hin) (hne:=by simp;omega) (hlt:=dt c2) (hs:=qan (by omega)) r
    ·rw[if_neg c2]
     have hz1:z∈(idT l b).list:=by
      rcases List.mem_append.1 hz with h | h
      ·have:=s3 z h;omega
      ·rcases List.mem_cons.1 h with h | h
       ·exact (c1 h).elim
       ·exact h
     have r:=ib p.b (k+1) a2 s2 hz1 (by omega)
     rw[show k+(Sh.dep z (idT l b)+1)=k+1+Sh.dep z (idT l b) by omega]
     exact quz (hk:=hp) (hin:=hin) (hne:=by simp;omega) (hlt:=df c2) (hs:=qan (by omega)) r
 have:=run T rt 0 hr hu hz (by omega)
 rw[Nat.zero_add] at this
 exact qmF (r0:=this)
def BestI (l:List Pt) (tn td:Int) (n k:Nat) (z:Int):Prop:=(k≤n∧z = -1)∨(∃ b:Nat,z=(b:Int)∧n≤b∧b<k∧∀ j,n≤j→j<k→j≠b→ld tn td (ndT l b) (ndT l j)=true)
variable {tn td:Int}
theorem BestI.uniq {n k:Nat} {z y:Int} (h:BestI l tn td n k z) (h':BestI l tn td n k y):z=y:=by
 rcases h with ⟨h1,rfl⟩ | ⟨b,rfl,h2,h3,h4⟩
 ·rcases h' with ⟨_,rfl⟩ | ⟨c,rfl,k2,k3,_⟩
  ·rfl
  ·omega
 ·rcases h' with ⟨k1,_⟩ | ⟨c,rfl,k2,k3,k4⟩
  ·omega
  ·by_cases e:b=c
   ·rw[e]
   ·have a1:=h4 c k2 k3 fun k=>e k.symm
    have a2:=k4 b h2 h3 e
    rw[qdZ a1] at a2
    cases a2
theorem qv9 (htn:I64 tn) (htd:I64 td) (hs:Val l) {n hi:Nat} (hh:hi≤l.length) {y:Int} (hy:BestI l tn td n hi y):Fn 110 1 [qaq 0 l,.pv (qaa tn td),.pv (iV (n:Int)),.pv (iV (hi:Int))] [(0,0,qag l)] (.pv (iV y)) 0 []:=by
 have hsl:=hs.len
 have run:∀ (e k:Nat) (z:Int),k+e=max n hi→n≤k→BestI l tn td n k z→
  Rl 1 1 110 0 35 3 [(3,.pv (iV (hi:Int))),(4,.pp 1 0),(5,.pp 2 0),(9,.pv (iV z)),(10,.pv (iV (k:Int)))] [(1,0,.ls 0 l.length),(2,0,.pv (iV tn)),(2,1,.pv (iV td)),(0,0,qag l)] (.exit 0) [(9,.pv (iV y))] []:=by
  intro e
  induction e with
  | zero=>
   intro k z hk hn hb
   have hb':BestI l tn td n hi z:=by
    rcases hb with ⟨h1,h2⟩ | ⟨b,h1,h2,h3,h4⟩
    ·exact Or.inl ⟨by omega,h2⟩
    ·exact Or.inr ⟨b,h1,h2,by omega,fun j j1 j2=>h4 j j1 (by omega)⟩
   rw[hy.uniq hb']
   exact qqD (hlt:=df (by omega))
  | succ e ih=>
   intro k z hk hn hb
   have hkh:k<hi:=by omega
   have hkl:k<l.length:=by omega
   rcases hb with ⟨h1,rfl⟩ | ⟨b,rfl,h2,h3,h4⟩
   ·exact qjK (hlt:=dt (by omega)) (h0:=by decide) (hs:=qan (by omega)) (ih (k+1) _ (by omega) (by omega) (Or.inr ⟨k,rfl,by omega,by omega,fun j j1 j2 j3=>by omega⟩))
   ·have hp:=qah (n:=l) hkl
    have hq:=qah (n:=l) (k:=b) (by omega)
    have hne:(ndT l b).id≠(ndT l k).id:=by have:=hs.up.mono h3 hq hp;omega
    by_cases hw:ld tn td (ndT l k) (ndT l b)=true
    ·exact qqP (z:=(b:Int)) (hlt:=dt (by omega)) (h0:=df (by omega)) (hk:=hp) (hin:=⟨by omega,by omega⟩) (hz:=hq) (hinz:=⟨by omega,by omega⟩) (hle:=by rw[← hw];exact qe7 htn htd (hs.ok _ (List.mem_of_getElem? hp)) (hs.ok _ (List.mem_of_getElem? hq))) (hs:=qan (by omega))
      (ih (k+1) _ (by omega) (by omega) (Or.inr ⟨k,rfl,by omega,by omega,fun j j1 j2 j3=>by
       by_cases ej:j=b
       ·rw[ej];exact hw
       ·exact qcS hw (h4 j j1 (by omega) ej)⟩))
    ·have hw':ld tn td (ndT l k) (ndT l b)=false:=by simpa using hw
     exact qpR (z:=(b:Int)) (hlt:=dt (by omega)) (h0:=df (by omega)) (hk:=hp) (hin:=⟨by omega,by omega⟩) (hz:=hq) (hinz:=⟨by omega,by omega⟩) (hle:=by rw[← hw'];exact qe7 htn htd (hs.ok _ (List.mem_of_getElem? hp)) (hs.ok _ (List.mem_of_getElem? hq))) (hs:=qan (by omega))
      (ih (k+1) _ (by omega) (by omega) (Or.inr ⟨b,rfl,h2,by omega,fun j j1 j2 j3=>by
       by_cases ej:j=k
       ·rw[ej];exact qll (fun k=>hne k.symm) hw'
       ·exact h4 j j1 (by omega) j3⟩))
 rcases Nat.le_total n hi with hle | hle
 ·exact qhz (r0:=run (hi-n) n (-1) (by omega) (Nat.le_refl _) (Or.inl ⟨Nat.le_refl _,rfl⟩))
 ·exact qhz (r0:=run 0 n (-1) (by omega) (Nat.le_refl _) (Or.inl ⟨Nat.le_refl _,rfl⟩))
end
end Go.Proofs.Ytalnjplghagbpaa
