/-
  Joined: Dc, Ec, Df. Conditions: none.
-/
import Derived.Test.YtalnjplghagbpaaW31
import Derived.Test.YtalnjplghagbpaaSxP
import Derived.Test.YtalnjplghagbpaaW25
import Derived.Test.YtalnjplghagbpaaW19
namespace Go.Proofs.Ytalnjplghagbpaa
set_option maxRecDepth 100000
open Go.RowKit
def wL (T:Sh Nat):List Int:=T.list.map fun k:Nat=>(k:Int)
theorem qdF (T:Sh Nat):(wL T).length=T.list.length:=List.length_map ..
theorem qeW (a b:Sh Nat) (k:Nat):wL (.node a k b)=wL a++((k:Int)::wL b):=by simp[wL,Sh.list]
theorem qdo:wL .nil=[]:=rfl
theorem qgV {T:Sh Nat} {j k:Nat} (h:T.list[j]?=some k):(wL T)[j]?=some (k:Int):=by unfold wL;rw[List.getElem?_map,h];rfl
theorem qbn (g:List Int) (x:Int):ziV (g++[x])=ziV g++[iV x]:=qiy g [x]
section
variable {rt:Int} {l:List Pt}
theorem qqM (hl:l.length≤999999):∀ {T:Sh Nat} {z:Int} (g:List Int) {n:Nat} {v:List Value},Rep l z T→n=g.length→v=ziV g→n+T.list.length≤l.length→T≠.nil→
 FnO Try.prog 96 1 2 [trS 0 rt l,.pv (iV z),.ls 1 n] [(0,0,qac l),(1,0,.row 3 1 n v)] (.ls 2 (g++wL T).length) 1 [(2,0,zrI (g++wL T))]:=by
 intro T
 induction T with
 | nil=>intro z g n v _ _ _ _ h;exact (h rfl).elim
 | node a k b iha ihb=>
  intro z g n v hr hn hv hlen _
  subst hn hv
  obtain⟨hz,p,hp,a1,a2⟩:=hr
  subst hz
  have hkl:=qai hp
  have hs:(Sh.node a k b).list.length=a.list.length+(b.list.length+1):=by simp[Sh.list]
  rw[hs] at hlen
  have e:g++wL (.node a k b)=((g++wL a)++[(k:Int)])++wL b:=by rw[qeW];simp
  have c0:decide ((k:Int)<0)=false:=df (by omega)
  have c1:decide ((g.length:Int)>(l.length:Int))=false:=df (by omega)
  have hin:0≤(k:Int)∧(k:Int)<(l.length:Int):=⟨by omega,by omega⟩
  have la:(g++wL a).length=g.length+a.list.length:=by rw[List.length_append,qdF]
  have lr:∀ c:List Int,(c++[(k:Int)]).length=c.length+1:=fun c=>by simp
  by_cases ea:a=.nil
  ·subst ea
   have ga:g++wL .nil=g:=by rw[qdo,List.append_nil]
   rw[ga] at e
   have pa:p.a = -1:=a1
   have hL:=qc1 (rt:=rt) (l:=l) (z:=p.a) (n:=g.length) (vs:=ziV g) (dt (by omega))
   by_cases eb:b=.nil
   ·subst eb
    have pb:p.b = -1:=a2
    rw[e,qdo,List.append_nil]
    have:=qtz (h0:=c0) (h1:=c1) (hk:=hp) (hin:=hin) (hl:=hL) (hn:=by omega) (hr:=qc1 (rt:=rt) (l:=l) (z:=p.b) (n:=g.length+1) (vs:=ziV g++[iV (k:Int)]) (dt (by omega)))
    rw[zrI,lr,qbn]
    exact this
   ·rw[e]
    exact qtj (h0:=c0) (h1:=c1) (hk:=hp) (hin:=hin) (hl:=hL) (hn:=by omega) (hr:=ihb (g++[(k:Int)]) a2 (lr g).symm (qbn g k).symm (by omega) eb)
  ·have hL:=iha g a1 rfl rfl (by omega) ea
   by_cases eb:b=.nil
   ·subst eb
    have pb:p.b = -1:=a2
    rw[e,qdo,List.append_nil]
    have:=qrW (h0:=c0) (h1:=c1) (hk:=hp) (hin:=hin) (hl:=hL) (hn:=by omega) (hr:=qc1 (rt:=rt) (l:=l) (z:=p.b) (n:=(g++wL a).length+1) (vs:=ziV (g++wL a)++[iV (k:Int)]) (dt (by omega)))
    rw[zrI,lr,qbn]
    exact this
   ·rw[e]
    exact qtQ (h0:=c0) (h1:=c1) (hk:=hp) (hin:=hin) (hl:=hL) (hn:=by omega) (hr:=ihb ((g++wL a)++[(k:Int)]) a2 (lr _).symm (qbn _ k).symm (by omega) eb)
theorem qod (hl:l.length≤999999) {T:Sh Nat} {z:Int} (hr:Rep l z T) (hlen:T.list.length≤l.length) (hT:T≠.nil) :
 Fn 96 1 [trS 0 rt l,.pv (iV z),.pv (.slice none 0 0)] [(0,0,qac l)] (.ls 1 (wL T).length) 1 [(1,0,zrI (wL T))]:=by
 cases T with
 | nil=>exact (hT rfl).elim
 | node a k b=>
  obtain⟨hz,p,hp,a1,a2⟩:=hr
  subst hz
  have hkl:=qai hp
  have hs:(Sh.node a k b).list.length=a.list.length+(b.list.length+1):=by simp[Sh.list]
  rw[hs] at hlen
  have e:wL (.node a k b)=(wL a++[(k:Int)])++wL b:=by rw[qeW];simp
  have c0:decide ((k:Int)<0)=false:=df (by omega)
  have c1:decide ((0:Int)>(l.length:Int))=false:=df (by omega)
  have hin:0≤(k:Int)∧(k:Int)<(l.length:Int):=⟨by omega,by omega⟩
  have la:(wL a).length=a.list.length:=qdF a
  have lr:∀ c:List Int,(c++[(k:Int)]).length=c.length+1:=fun c=>by simp
  by_cases ea:a=.nil
  ·subst ea
   rw[qdo,List.nil_append] at e
   have pa:p.a = -1:=a1
   have hL:=qc1 (rt:=rt) (l:=l) (z:=p.a) (n:=0) (vs:=[]) (dt (by omega))
   by_cases eb:b=.nil
   ·subst eb
    have pb:p.b = -1:=a2
    rw[e,qdo,List.append_nil]
    exact qsh (h0:=c0) (h1:=c1) (hk:=hp) (hin:=hin) (hl:=hL) (hn:=by omega) (hr:=qc1 (rt:=rt) (l:=l) (z:=p.b) (n:=0+1) (vs:=[]++[iV (k:Int)]) (dt (by omega)))
   ·rw[e]
    exact qr9 (h0:=c0) (h1:=c1) (hk:=hp) (hin:=hin) (hl:=hL) (hn:=by omega) (hr:=qqM hl [(k:Int)] a2 rfl rfl (by omega) eb)
  ·have hL:=qqM (rt:=rt) (n:=0) hl [] a1 rfl rfl (by omega) ea
   rw[List.nil_append] at hL
   by_cases eb:b=.nil
   ·subst eb
    have pb:p.b = -1:=a2
    rw[e,qdo,List.append_nil]
    have:=qsC (h0:=c0) (h1:=c1) (hk:=hp) (hin:=hin) (hl:=hL) (hn:=by omega) (hr:=qc1 (rt:=rt) (l:=l) (z:=p.b) (n:=(wL a).length+1) (vs:=ziV (wL a)++[iV (k:Int)]) (dt (by omega)))
    rw[zrI,lr,qbn]
    exact this
   ·rw[e]
    exact qsc (h0:=c0) (h1:=c1) (hk:=hp) (hin:=hin) (hl:=hL) (hn:=by omega) (hr:=qqM hl (wL a++[(k:Int)]) a2 (lr _).symm (qbn _ k).symm (by omega) eb)
theorem qtl (hl:l.length≤999999) {T:Sh Nat} (hr:Rep l rt T) (hlen:T.list.length≤l.length) :
 Fn 73 1 [trS 0 rt l] [(0,0,qac l)] (.ls 1 (wL T).length) 1 [(1,0,zrI (wL T))]:=by
 by_cases hT:T=.nil
 ·subst hT
  have h:rt = -1:=hr
  exact qeG 3 1 (qqb (hw:=qgn (h0:=dt (by omega)))) .ls
 ·exact qro (hw:=qod hl hr hlen hT)
theorem qtL (hl:l.length≤999999) {T:Sh Nat} (hr:Rep l rt T) (hlen:T.list.length≤l.length) :
 Fn 72 1 [trS 0 rt l] [(0,0,qac l)] (.pv (.bool (decide (T.list.length=l.length)))) 0 []:=by
 by_cases hT:T=.nil
 ·subst hT
  have h:rt = -1:=hr
  by_cases e:l.length=0
  ·rw[show decide ((Sh.nil:Sh Nat).list.length=l.length)=true from decide_eq_true (by rw[e];rfl)]
   exact qpj (hw:=qgn (h0:=dt (by omega))) (he:=by rw[e];rfl)
  ·rw[show decide ((Sh.nil:Sh Nat).list.length=l.length)=false from decide_eq_false (fun h=>e h.symm)]
   exact qlF (hw:=qgn (h0:=dt (by omega))) (he:=beq_eq_false_iff_ne.2 (by omega))
 ·have hw:=qod (rt:=rt) hl hr hlen hT
  have hg:=qdF T
  by_cases e:T.list.length=l.length
  ·rw[decide_eq_true e]
   exact qlM (hw:=hw) (he:=beq_iff_eq.2 (by omega))
  ·rw[decide_eq_false e]
   exact qkZ (hw:=hw) (he:=beq_eq_false_iff_ne.2 (by omega))
end
end Go.Proofs.Ytalnjplghagbpaa

namespace Go.Proofs.Ytalnjplghagbpaa
set_option maxRecDepth 100000
open Go.RowKit
theorem qlY {rt:Int} {l:List Pt} (hs:Fn 61 1 [.ls 0 l.length] [(0,0,qac l)] (.pv (iV (4))) 0 []) :
 Fn 17 1 [trS 0 rt l] [(0,0,qac l)] (.pv (iV (4))) 0 []:=
 Fz [] [Cf hs [0],.k]
  tI (Co hs [0] 2 tI)
abbrev qqf (l:List Pt):Prop:=Fn 61 1 [.ls 0 l.length] [(0,0,qac l)] (.pv (iV (0))) 0 []
theorem qmC {rt:Int} {l:List Pt} {g:List Int} (hs:qqf l) (hw:Fn 45 1 [trS 0 rt l] [(0,0,qac l)] (.tu [.one (.ls 1 g.length),.one (.pv (.bool false))]) 1 [(1,0,zrI g)]) :
 Fn 17 1 [trS 0 rt l] [(0,0,qac l)] (.pv (iV (8))) 0 []:=
 Fz [] [Cf hs [0],.k,Cf hw [0],.k]
  tI (Co hs [0] 2 (Co hw [0] 2 tI))
theorem qsH {rt:Int} {l:List Pt} {g:List Int} (hs:qqf l) (hw:Fn 45 1 [trS 0 rt l] [(0,0,qac l)] (.tu [.one (.ls 1 g.length),.one (.pv (.bool true))]) 1 [(1,0,zrI g)]) (hfi:Fn 63 2 [.ls 0 l.length,.ls 1 g.length] [(0,0,qac l),(1,0,zrI g)] (.pv (.bool true)) 0 []) :
 Fn 17 1 [trS 0 rt l] [(0,0,qac l)] (.pv (iV (0))) 0 []:=
 Fz [] [Cf hs [0],.k,Cf hw [0],.k,Cf hfi [0,2],.k]
  tI (Co hs [0] 2 (Co hw [0] 2 (Co hfi [0,2] 3 tI)))
theorem qqR {rt:Int} {l:List Pt} {g:List Int} (hs:qqf l) (hw:Fn 45 1 [trS 0 rt l] [(0,0,qac l)] (.tu [.one (.ls 1 g.length),.one (.pv (.bool true))]) 1 [(1,0,zrI g)]) (hfi:Fn 63 2 [.ls 0 l.length,.ls 1 g.length] [(0,0,qac l),(1,0,zrI g)] (.pv (.bool false)) 0 []) :
 Fn 17 1 [trS 0 rt l] [(0,0,qac l)] (.pv (iV (8))) 0 []:=
 Fz [] [Cf hs [0],.k,Cf hw [0],.k,Cf hfi [0,2],.k]
  tI (Co hs [0] 2 (Co hw [0] 2 (Co hfi [0,2] 3 tI)))
abbrev qvQ (n:Nat) (s:List Pt) (td:Int) (tn:Int) (vs:List Value):HpL:=[(1,0,.ls 0 s.length),(2,0,.pv (iV tn)),(2,1,.pv (iV td)),(3,0,.pv (iV 0)),(3,1,.pv (.slice none 0 0)),(4,0,.pv (iV (-1))),(4,1,.ls 5 n),(0,0,qag s),(5,0,.row 26 3 n (vs))]
abbrev qtq (k:Nat) (s:List Pt):TmL:=[(2,.pp 1 0),(3,.pp 2 0),(4,.pp 3 0),(5,.pp 4 0),(12,.ls 0 s.length),(13,.pv (iV (s.length:Int))),(14,.pv (iV (k:Int)))]
theorem qmP {tn td:Int} {s:List Pt} {p:Pt} {k n:Nat} {vs:List Value} (hlt:decide ((k:Int)<(s.length:Int))=true) (hin:0≤(k:Int)∧(k:Int)<(s.length:Int)) (hk:s[k]?=some p) (hn:n+1≤1000000) (hs:iV (IntKind.i64.wrap ((k:Int)+1))=iV (((k+1:Nat):Int))) {e:Exit} {tm2:TmL} {hp2:HpL}
 (r:Rl 1 1 51 0 47 6 ([(2,.pp 1 0),(3,.pp 2 0),(4,.pp 3 0),(5,.pp 4 0),(12,.ls 0 s.length),(13,.pv (iV (s.length:Int))),(14,.pv (iV ((k+1:Nat):Int)))]) ([(1,0,.ls 0 s.length),(2,0,.pv (iV tn)),(2,1,.pv (iV td)),(3,0,.pv (iV 0)),(3,1,.pv (.slice none 0 0)),(4,0,.pv (iV (-1))),(4,1,.ls 5 (n+1)),(0,0,qag s),(5,0,.row 26 3 (n+1) (vs++[iV p.id,iV (-1),iV (-1)]))]) e tm2 hp2):Rl 1 1 51 0 47 6 (qtq k s) (qvQ n s td tn vs) e tm2 hp2:=
 RunsL.next [(5,8)] 300 [.t true,.r (ptV p),Re hs]
  (Ro (Ai hlt (Ai hin (Ai (qaP hk) (Ai hn (Ai hs tI)))))) r
theorem qoN {tn td:Int} {s:List Pt} {k n:Nat} {vs:List Value} (hlt:decide ((k:Int)<(s.length:Int))=false):Rl 1 1 51 0 47 6 (qtq k s) (qvQ n s td tn vs) (.exit 0) ([(2,.pp 1 0),(3,.pp 2 0),(4,.pp 3 0),(5,.pp 4 0)]) (qvQ n s td tn vs):=
 RunsL.stop [] 300 [.t false] (fun h=>by cases h)
  (Ro (Ai hlt tI))
abbrev qte (n:Nat) (s:List Pt) (td:Int) (tn:Int) (vs:List Value) (z:Int):HpL:=[(3,0,.pv (iV 0)),(3,1,.pv (.slice none 0 0)),(4,0,.pv (iV (z))),(4,1,.ls 5 n),(6,0,.ls 5 n),(6,1,.ls 0 s.length),(6,2,.pv (iV tn)),(6,3,.pv (iV td)),(0,0,qag s),(5,0,.row 26 3 n (vs))]
theorem qla {y z tn td:Int} {s:List Pt} {k n:Nat} {vs:List Value} {vs2:List Value} (hlt:decide ((k:Int)<(n:Int))=true) (hj:FnO Try.prog 62 1 2 [.ag [.ls 1 n,.ls 0 s.length,.pv (iV tn),.pv (iV td)],.pv (iV (z)),.pv (iV (k:Int))] [(0,0,qag s),(1,0,.row 26 3 n (vs))] (.pv (iV (y))) 0 [(1,0,.row 26 3 n (vs2))]) (hs:iV (IntKind.i64.wrap ((k:Int)+1))=iV (((k+1:Nat):Int))) {e:Exit} {tm2:TmL} {hp2:HpL}
 (r:Rl 1 1 51 1 47 7 ([(4,.pp 3 0),(5,.pp 4 0),(8,.pp 6 0),(35,.pv (iV (n:Int))),(36,.pv (iV ((k+1:Nat):Int)))]) ([(3,0,.pv (iV 0)),(3,1,.pv (.slice none 0 0)),(4,0,.pv (iV (y))),(4,1,.ls 5 n),(6,0,.ls 5 n),(6,1,.ls 0 s.length),(6,2,.pv (iV tn)),(6,3,.pv (iV td)),(0,0,qag s),(5,0,.row 26 3 n (vs2))]) e tm2 hp2):Rl 1 1 51 1 47 7 ([(4,.pp 3 0),(5,.pp 4 0),(8,.pp 6 0),(35,.pv (iV (n:Int))),(36,.pv (iV (k:Int)))]) (qte n s td tn vs z) e tm2 hp2:=
 RunsL.next [] 300 [.t true,.fo 1 [0,5] [.ag [.ls 1 n,.ls 0 s.length,.pv (iV tn),.pv (iV td)],.pv (iV (z)),.pv (iV (k:Int))] [(0,0,qag s),(1,0,.row 26 3 n (vs))] (.pv (iV (y))) 0 [(1,0,.row 26 3 n (vs2))],Re hs]
  (Ro (Ai hlt (Ai hj (Ai (Eq.refl (List.map (SV.ren (qat [0,5] 7)) [.ag [.ls 1 n,.ls 0 s.length,.pv (iV tn),.pv (iV td)],.pv (iV (z)),.pv (iV (k:Int))])) (Ai (qak (qat [0,5] 7) [(0,0,qag s),(1,0,.row 26 3 n (vs))]) (Ai hs tI)))))) r
theorem qny {z tn td:Int} {s:List Pt} {k n:Nat} {vs:List Value} (hlt:decide ((k:Int)<(n:Int))=false):Rl 1 1 51 1 47 7 ([(4,.pp 3 0),(5,.pp 4 0),(8,.pp 6 0),(35,.pv (iV (n:Int))),(36,.pv (iV (k:Int)))]) (qte n s td tn vs z) (.exit 2) ([(4,.pp 3 0),(5,.pp 4 0)]) ([(3,0,.pv (iV 0)),(3,1,.pv (.slice none 0 0)),(4,0,.pv (iV (z))),(4,1,.ls 5 n),(5,0,.row 26 3 n (vs))]):=
 RunsL.stop [] 300 [.t false] (fun h=>by cases h)
  (Ro (Ai hlt tI))
theorem qrI {z tn td:Int} {s:List Pt} {n:Nat} {vs:List Value} {vs2:List Value} (r0:Rl 1 1 51 0 47 6 ([(2,.pp 1 0),(3,.pp 2 0),(4,.pp 3 0),(5,.pp 4 0),(12,.ls 0 s.length),(13,.pv (iV (s.length:Int))),(14,.pv (iV ((0:Nat):Int)))]) ([(1,0,.ls 0 s.length),(2,0,.pv (iV tn)),(2,1,.pv (iV td)),(3,0,.pv (iV 0)),(3,1,.pv (.slice none 0 0)),(4,0,.pv (iV (-1))),(4,1,.ls 5 0),(0,0,qag s),(5,0,.row 26 3 0 ([]))]) (.exit 0) ([(2,.pp 1 0),(3,.pp 2 0),(4,.pp 3 0),(5,.pp 4 0)]) ([(1,0,.ls 0 s.length),(2,0,.pv (iV tn)),(2,1,.pv (iV td)),(3,0,.pv (iV 0)),(3,1,.pv (.slice none 0 0)),(4,0,.pv (iV (-1))),(4,1,.ls 5 n),(0,0,qag s),(5,0,.row 26 3 n (vs2))])) (rr1:Rl 1 1 51 1 47 7 ([(4,.pp 3 0),(5,.pp 4 0),(8,.pp 6 0),(35,.pv (iV (n:Int))),(36,.pv (iV ((0:Nat):Int)))]) ([(3,0,.pv (iV 0)),(3,1,.pv (.slice none 0 0)),(4,0,.pv (iV (-1))),(4,1,.ls 5 n),(6,0,.ls 5 n),(6,1,.ls 0 s.length),(6,2,.pv (iV tn)),(6,3,.pv (iV td)),(0,0,qag s),(5,0,.row 26 3 n (vs2))]) (.exit 2) ([(4,.pp 3 0),(5,.pp 4 0)]) ([(3,0,.pv (iV 0)),(3,1,.pv (.slice none 0 0)),(4,0,.pv (iV (z))),(4,1,.ls 5 n),(5,0,.row 26 3 n (vs))])) :
 Fn 51 1 [qaq 0 s,.pv (qaa tn td)] [(0,0,qag s)] (.ag [.pv (iV z),.ls 1 n]) 1 [(1,0,.row 26 3 n (vs))]:=
 Fz [(1,5)] [.ln false 4 1 26 3,Lf r0,Lf rr1]
  (qak (qaA [(1,5)]) [(1,0,.row 26 3 n (vs))]) (Lo r0 [] (Lo rr1 [] tI))
theorem qrx {tn td e1:Int} {s:List Pt} {e2:Int} (h1:Fn 47 1 [qaq 0 s] [(0,0,qag s)] (.pv (iV (e1))) 0 []) (h2:Pure Try.prog 48 #[qaa tn td] (iV (e2))) (he:(e1 !=0)=true) :
 Fn 18 1 [qaq 0 s,.pv (qaa tn td)] [(0,0,qag s)] (.pv (.tuple #[.agg #[iV 0,.slice none 0 0],iV (e1)])) 0 []:=
 Fz [] [.md,Cf h1 [0],Rf h2,.k,.k,.t true,.t true]
  tI (Co h1 [0] 4 (Ai h2 (Ai he (Ai he tI))))
abbrev qoo (s:List Pt):Prop:=Fn 47 1 [qaq 0 s] [(0,0,qag s)] (.pv (iV (0))) 0 []
theorem qvh {tn td:Int} {s:List Pt} {e2:Int} (h1:qoo s) (h2:Pure Try.prog 48 #[qaa tn td] (iV (e2))) (he:(e2 !=0)=true) :
 Fn 18 1 [qaq 0 s,.pv (qaa tn td)] [(0,0,qag s)] (.pv (.tuple #[.agg #[iV 0,.slice none 0 0],iV (e2)])) 0 []:=
 Fz [] [.md,Cf h1 [0],Rf h2,.k,.k,.k,.k,.k,.t true,.t true]
  tI (Co h1 [0] 4 (Ai h2 (Ai he (Ai he tI))))
abbrev qiP (td:Int) (tn:Int):Prop:=Pure Try.prog 48 #[qaa tn td] (iV (0))
theorem qr1 {tn td:Int} {s n1:List Pt} {r1:Int} (h1:qoo s) (h2:qiP td tn) (hg:Fn 51 1 [qaq 0 s,.pv (qaa tn td)] [(0,0,qag s)] (.ag [.pv (iV r1),.ls 1 n1.length]) 1 [(1,0,qac n1)]) :
 Fn 18 1 [qaq 0 s,.pv (qaa tn td)] [(0,0,qag s)] (.tu [.ag [.pv (iV r1),.ls 1 n1.length],.one (.pv (iV 0))]) 1 [(1,0,qac n1)]:=
 Fz [(1,5)] [.md,Cf h1 [0],Rf h2,.k,.k,.k,.k,.k,.k,.k,.k,.k,Cf hg [0]]
  (qak (qaA [(1,5)]) [(1,0,qac n1)]) (Co h1 [0] 4 (Ai h2 (Co hg [0] 5 tI)))
abbrev qlf (e1:Int) (l:List Pt) (rt:Int):Prop:=Fn 17 1 [trS 0 rt l] [(0,0,qac l)] (.pv (iV (e1))) 0 []
theorem qvu {rt z e1:Int} {l:List Pt} (hc:qlf e1 l rt) (hce:(e1 !=0)=true) :
 Fn 12 1 [trS 0 rt l,.pv (iV (z))] [(0,0,qac l)] (.pv (.tuple #[iV (0),iV (e1)])) 0 []:=
 Fz [] [Cf hc [0],.t true]
  tI (Co hc [0] 2 (Ai hce tI))
abbrev qot (l:List Pt) (rt:Int):HpL:=[(1,0,.pv (iV rt)),(1,1,.ls 0 l.length),(0,0,qac l)]
abbrev qmR (k:Nat) (y:Int) (z:Int):TmL:=[(1,.pv (iV z)),(2,.pp 1 0),(7,.pv (iV (y))),(8,.pv (iV (k:Int)))]
theorem qr7 {rt y z:Int} {l:List Pt} {p:Pt} {k:Nat} (hne:(y !=(-1))=true) (hin:0≤y∧y<(l.length:Int)) (hk:l[y.toNat]?=some p) (h1:decide (z<p.id)=true) (hs:iV (IntKind.i64.wrap ((k:Int)+1))=iV (((k+1:Nat):Int))) {e:Exit} {tm2:TmL} {hp2:HpL}
 (r:Rl 1 1 12 0 41 2 ([(1,.pv (iV z)),(2,.pp 1 0),(7,.pv (iV (p.a))),(8,.pv (iV ((k+1:Nat):Int)))]) (qot l rt) e tm2 hp2):Rl 1 1 12 0 41 2 (qmR k y z) (qot l rt) e tm2 hp2:=
 RunsL.next [] 300 [.t true,.r (ptV p),.t true,Re hs]
  (Ro (Ai hne (Ai hin (Ai (qbH hk) (Ai h1 (Ai hs tI)))))) r
theorem qsE {rt y z:Int} {l:List Pt} {p:Pt} {k:Nat} (hne:(y !=(-1))=true) (hin:0≤y∧y<(l.length:Int)) (hk:l[y.toNat]?=some p) (h1:decide (z<p.id)=false) (h2:decide (z>p.id)=true) (hs:iV (IntKind.i64.wrap ((k:Int)+1))=iV (((k+1:Nat):Int))) {e:Exit} {tm2:TmL} {hp2:HpL}
 (r:Rl 1 1 12 0 41 2 ([(1,.pv (iV z)),(2,.pp 1 0),(7,.pv (iV (p.b))),(8,.pv (iV ((k+1:Nat):Int)))]) (qot l rt) e tm2 hp2):Rl 1 1 12 0 41 2 (qmR k y z) (qot l rt) e tm2 hp2:=
 RunsL.next [] 300 [.t true,.r (ptV p),.t false,.t true,Re hs]
  (Ro (Ai hne (Ai hin (Ai (qbH hk) (Ai h1 (Ai h2 (Ai hs tI))))))) r
theorem qph {rt y z:Int} {l:List Pt} {p:Pt} {k:Nat} (hne:(y !=(-1))=true) (hin:0≤y∧y<(l.length:Int)) (hk:l[y.toNat]?=some p) (h1:decide (z<p.id)=false) (h2:decide (z>p.id)=false):Rl 1 1 12 0 41 2 (qmR k y z) (qot l rt) (.ret) ([(4,.pv (iV (k:Int))),(5,.pv (iV 0))]) ([]):=
 RunsL.stop [] 300 [.t true,.r (ptV p),.t false,.t false] (fun h=>by cases h)
  (Ro (Ai hne (Ai hin (Ai (qbH hk) (Ai h1 (Ai h2 tI))))))
theorem qoW {rt y z:Int} {l:List Pt} {k:Nat} (hne:(y !=(-1))=false):Rl 1 1 12 0 41 2 (qmR k y z) (qot l rt) (.exit 0) ([]) ([]):=
 RunsL.stop [] 300 [.t false] (fun h=>by cases h)
  (Ro (Ai hne tI))
theorem qrT {rt z e1:Int} {l:List Pt} (hc:qlf e1 l rt) (hce:(e1 !=0)=false) (r0:Rl 1 1 12 0 41 2 ([(1,.pv (iV z)),(2,.pp 1 0),(7,.pv (iV (rt))),(8,.pv (iV ((0:Nat):Int)))]) (qot l rt) (.exit 0) ([]) ([])) :
 Fn 12 1 [trS 0 rt l,.pv (iV (z))] [(0,0,qac l)] (.pv (.tuple #[iV (0),iV (6)])) 0 []:=
 Fz [] [Cf hc [0],.t false,Lf r0]
  tI (Co hc [0] 2 (Ai hce (Lo r0 [] tI)))
theorem qsJ {rt z e1:Int} {l:List Pt} {k:Nat} (hc:qlf e1 l rt) (hce:(e1 !=0)=false) (r0:Rl 1 1 12 0 41 2 ([(1,.pv (iV z)),(2,.pp 1 0),(7,.pv (iV (rt))),(8,.pv (iV ((0:Nat):Int)))]) (qot l rt) (.ret) ([(4,.pv (iV (k:Int))),(5,.pv (iV 0))]) ([])) :
 Fn 12 1 [trS 0 rt l,.pv (iV (z))] [(0,0,qac l)] (.pv (.tuple #[iV (k:Int),iV (0)])) 0 []:=
 Fz [] [Cf hc [0],.t false,Lf r0]
  tI (Co hc [0] 2 (Ai hce (Lo r0 [] tI)))
abbrev qp5 (k:Nat) (l:List Pt) (n:Nat):TmL:=[(2,.pp 2 0),(6,.ls 3 n),(11,.ls 1 l.length),(12,.pv (iV (l.length:Int))),(13,.pv (iV (k:Int)))]
theorem qm6 {s l:List Pt} {p q:Pt} {k n:Nat} {vs:List Value} {e7:Int} (hlt:decide ((k:Int)<(l.length:Int))=true) (hk:l[k]?=some p) (hin:0≤(k:Int)∧(k:Int)<(l.length:Int)) (hf:Fn 93 1 [qaq 0 s,.pv (iV (p.id))] [(0,0,qag s)] (.pv (.tuple #[ptV q,iV (e7)])) 0 []) (he:(e7 !=0)=false) (hn:n+1≤1000000) (hs:iV (IntKind.i64.wrap ((k:Int)+1))=iV (((k+1:Nat):Int))) {e:Exit} {tm2:TmL} {hp2:HpL}
 (r:Rl 2 2 60 0 33 4 ([(2,.pp 2 0),(6,.ls 3 (n+1)),(11,.ls 1 l.length),(12,.pv (iV (l.length:Int))),(13,.pv (iV ((k+1:Nat):Int)))]) ([(2,0,.ls 0 s.length),(0,0,qag s),(1,0,qac l),(3,0,.row 80 3 (n+1) (vs++[iV q.id,iV q.a,iV q.b]))]) e tm2 hp2):Rl 2 2 60 0 33 4 (qp5 k l n) ([(2,0,.ls 0 s.length),(0,0,qag s),(1,0,qac l),(3,0,.row 80 3 n (vs))]) e tm2 hp2:=
 RunsL.next [(3,7)] 300 [.t true,.r (ptV p),Cf hf [0],.t false,Re hs]
  (Ro (Ai hlt (Ai hin (Ai (qaP hk) (Co hf [0] 5 (Ai he (Ai hn (Ai hs tI)))))))) r
theorem qqy {s l:List Pt} {p q:Pt} {k n:Nat} {vs:List Value} {e7:Int} (hlt:decide ((k:Int)<(l.length:Int))=true) (hk:l[k]?=some p) (hin:0≤(k:Int)∧(k:Int)<(l.length:Int)) (hf:Fn 93 1 [qaq 0 s,.pv (iV (p.id))] [(0,0,qag s)] (.pv (.tuple #[ptV q,iV (e7)])) 0 []) (he:(e7 !=0)=true):Rl 2 2 60 0 33 4 (qp5 k l n) ([(2,0,.ls 0 s.length),(0,0,qag s),(1,0,qac l),(3,0,.row 80 3 n (vs))]) (.ret) ([(4,.pv (.slice none 0 0)),(5,.pv (iV e7))]) ([]):=
 RunsL.stop [] 300 [.t true,.r (ptV p),Cf hf [0],.t true] (fun h=>by cases h)
  (Ro (Ai hlt (Ai hin (Ai (qaP hk) (Co hf [0] 5 (Ai he tI))))))
theorem qoR {s l:List Pt} {k n:Nat} {vs:List Value} (hlt:decide ((k:Int)<(l.length:Int))=false):Rl 2 2 60 0 33 4 (qp5 k l n) ([(2,0,.ls 0 s.length),(0,0,qag s),(1,0,qac l),(3,0,.row 80 3 n (vs))]) (.exit 0) ([(6,.ls 3 n)]) ([(3,0,.row 80 3 n (vs))]):=
 RunsL.stop [] 300 [.t false] (fun h=>by cases h)
  (Ro (Ai hlt tI))
abbrev qtb (l:List Pt):TmL:=[(2,.pp 2 0),(6,.ls 3 0),(11,.ls 1 l.length),(12,.pv (iV (l.length:Int))),(13,.pv (iV ((0:Nat):Int)))]
theorem qoI {s l:List Pt} {e7:Int} (r0:Rl 2 2 60 0 33 4 (qtb l) ([(2,0,.ls 0 s.length),(0,0,qag s),(1,0,qac l),(3,0,.row 80 3 0 ([]))]) (.ret) ([(4,.pv (.slice none 0 0)),(5,.pv (iV e7))]) ([])) :
 Fn 60 2 [qaq 0 s,.ls 1 l.length] [(0,0,qag s),(1,0,qac l)] (.pv (.tuple #[.slice none 0 0,iV (e7)])) 0 []:=
 Fz [] [.ln true 6 0 80 3,Lf r0]
  tI (Lo r0 [] tI)
theorem qse {s l:List Pt} {n:Nat} {vs:List Value} (r0:Rl 2 2 60 0 33 4 (qtb l) ([(2,0,.ls 0 s.length),(0,0,qag s),(1,0,qac l),(3,0,.row 80 3 0 ([]))]) (.exit 0) ([(6,.ls 3 n)]) ([(3,0,.row 80 3 n (vs))])) :
 Fn 60 2 [qaq 0 s,.ls 1 l.length] [(0,0,qag s),(1,0,qac l)] (.tu [.one (.ls 2 n),.one (.pv (iV 0))]) 1 [(2,0,.row 80 3 n (vs))]:=
 Fz [(2,3)] [.ln true 6 0 80 3,Lf r0]
  (qak (qaA [(2,3)]) [(2,0,.row 80 3 n (vs))]) (Lo r0 [] tI)
theorem quW {rt z e1:Int} {l:List Pt} {e2:Int} (h1:qlf e1 l rt) (h2:Fn 52 1 [.ls 0 l.length] [(0,0,qac l)] (.pv (iV (e2))) 0 []) (he:(e1 !=0)=true) :
 Fn 13 1 [trS 0 rt l,.pv (iV (z))] [(0,0,qac l)] (.pv (.tuple #[.agg #[iV 0,.slice none 0 0],.agg #[iV 0,.slice none 0 0],iV (e1)])) 0 []:=
 Fz [] [.md,Cf h1 [0],Cf h2 [0],.k,.k,.t true,.t true]
  tI (Co h1 [0] 4 (Co h2 [0] 4 (Ai he (Ai he tI))))
abbrev qi6 (l:List Pt) (rt:Int):Prop:=Fn 17 1 [trS 0 rt l] [(0,0,qac l)] (.pv (iV (0))) 0 []
theorem quP {rt z:Int} {l:List Pt} {e2:Int} (h1:qi6 l rt) (h2:Fn 52 1 [.ls 0 l.length] [(0,0,qac l)] (.pv (iV (e2))) 0 []) (he:(e2 !=0)=true) :
 Fn 13 1 [trS 0 rt l,.pv (iV (z))] [(0,0,qac l)] (.pv (.tuple #[.agg #[iV 0,.slice none 0 0],.agg #[iV 0,.slice none 0 0],iV (e2)])) 0 []:=
 Fz [] [.md,Cf h1 [0],Cf h2 [0],.k,.k,.k,.k,.k,.t true,.t true]
  tI (Co h1 [0] 4 (Co h2 [0] 4 (Ai he (Ai he tI))))
abbrev qnK (l:List Pt):Prop:=Fn 52 1 [.ls 0 l.length] [(0,0,qac l)] (.pv (iV (0))) 0 []
theorem qsP {rt y z v:Int} {l n1 n2:List Pt} {n:Nat} {p1 p2:Pt} {x1 y1:Int} (h1:qi6 l rt) (h2:qnK l) (hcl:Fn 53 1 [.ls 0 l.length] [(0,0,qac l)] (.ls 1 l.length) 1 [(1,0,qac l)]) (hp:FnO Try.prog 54 0 1 [.ls 0 l.length,.pv (iV (rt)),.pv (iV (z))] [(0,0,.row 26 3 l.length (qam l))] (.pv (.tuple #[iV (x1),iV (y1)])) 0 [(0,0,.row 26 3 l.length (qam n1))]) (hle:Fn 55 1 [.ls 0 l.length,.pv (iV (z))] [(0,0,.row 26 3 l.length (qam n1))] (.pv (iV (n:Int))) 0 []) (t1:True) (p0:0≤(n:Int)) (p1:0≤n) (p2:n≤l.length) (hn1:iV (IntKind.i64.wrap (0-(n:Int)))=iV (v)) (hfu:Pure Try.prog 57 #[iV (y1),iV (v)] (iV (y))) (hn2:iV (IntKind.i64.wrap (0-(n:Int)))=iV (v)) (hsh:Fn 58 1 [.lq 0 3 (0+n) (l.length-n),.pv (iV (v))] [(0,0,.row 26 3 l.length (qam n1))] (.ls 1 n2.length) 1 [(1,0,qac n2)]) :
 Fn 13 1 [trS 0 rt l,.pv (iV (z))] [(0,0,qac l)] (.tu [.ag [.pv (iV x1),.lq 1 3 0 n],.ag [.pv (iV y),.ls 2 n2.length],.one (.pv (iV 0))]) 2 [(1,0,.row 26 3 l.length (qam n1)),(2,0,qac n2)]:=
 Fz [(1,5),(2,6)] [.md,Cf h1 [0],Cf h2 [0],.k,.k,.k,.k,.k,.k,.k,.k,.k,Cf hcl [0],.fo 0 [5] [.ls 0 l.length,.pv (iV (rt)),.pv (iV (z))] [(0,0,.row 26 3 l.length (qam l))] (.pv (.tuple #[iV (x1),iV (y1)])) 0 [(0,0,.row 26 3 l.length (qam n1))],Cf hle [5],.k,.k,.md,Re hn1,Rf hfu,.k,Re hn1,Cf hsh [5]]
  (qak (qaA [(1,5),(2,6)]) [(1,0,.row 26 3 l.length (qam n1)),(2,0,qac n2)]) (Co h1 [0] 4 (Co h2 [0] 4 (Co hcl [0] 5 (Ai hp (Ai (Eq.refl (List.map (SV.ren (qat [5] 6)) [.ls 0 l.length,.pv (iV (rt)),.pv (iV (z))])) (Ai (qak (qat [5] 6) [(0,0,.row 26 3 l.length (qam l))]) (Co hle [5] 6 (Ai t1 (Ai p0 (Ai p1 (Ai p2 (Ai t1 (Ai p0 (Ai p0 (Ai p1 (Ai (Nat.le_refl n) (Ai (Nat.le_refl n) (Ai hn1 (Ai hfu (Ai p0 (Ai t1 (Ai p2 (Ai (Nat.le_refl l.length) (Ai hn2 (Co hsh [5] 6 tI)))))))))))))))))))))))))
abbrev qdK (l:List Pt) (m:List Pt) (s:List Pt):HpL:=[(0,0,qac l),(1,0,qac m),(2,0,qag s)]
abbrev qkw (e5:Int) (s:List Pt):Prop:=Fn 47 1 [qaq 0 s] [(0,0,qag s)] (.pv (iV (e5))) 0 []
abbrev qlG (e4:Int) (m:List Pt):Prop:=Fn 52 1 [.ls 0 m.length] [(0,0,qac m)] (.pv (iV (e4))) 0 []
abbrev qhZ (e6:Int) (td:Int) (tn:Int):Prop:=Pure Try.prog 48 #[qaa tn td] (iV (e6))
abbrev qqH (e3:Int) (l:List Pt):Prop:=Fn 52 1 [.ls 0 l.length] [(0,0,qac l)] (.pv (iV (e3))) 0 []
theorem quC {rt x tn td e1:Int} {s l m:List Pt} {e5 e6:Int} {e2 e3 e4:Int} (h1:qlf e1 l rt) (h2:Fn 17 1 [trS 0 x m] [(0,0,qac m)] (.pv (iV (e2))) 0 []) (h3:qqH e3 l) (h4:qlG e4 m) (h5:qkw e5 s) (h6:qhZ e6 td tn) (he:(e1 !=0)=true) :
 Fn 14 3 [trS 0 rt l,trS 1 x m,qaq 2 s,.pv (qaa tn td)] (qdK l m s) (.pv (.tuple #[.agg #[iV 0,.slice none 0 0],iV (e1)])) 0 []:=
 Fz [] [.md,Cf h1 [0],Cf h2 [1],Cf h3 [0],Cf h4 [1],Cf h5 [2],Rf h6,.k,.k,.t true,.t true]
  tI (Co h1 [0] 8 (Co h2 [1] 8 (Co h3 [0] 8 (Co h4 [1] 8 (Co h5 [2] 8 (Ai h6 (Ai he (Ai he tI))))))))
theorem qvZ {rt x tn td:Int} {s l m:List Pt} {e5 e6:Int} {e2 e3 e4:Int} (h1:qi6 l rt) (h2:Fn 17 1 [trS 0 x m] [(0,0,qac m)] (.pv (iV (e2))) 0 []) (h3:qqH e3 l) (h4:qlG e4 m) (h5:qkw e5 s) (h6:qhZ e6 td tn) (he:(e2 !=0)=true) :
 Fn 14 3 [trS 0 rt l,trS 1 x m,qaq 2 s,.pv (qaa tn td)] (qdK l m s) (.pv (.tuple #[.agg #[iV 0,.slice none 0 0],iV (e2)])) 0 []:=
 Fz [] [.md,Cf h1 [0],Cf h2 [1],Cf h3 [0],Cf h4 [1],Cf h5 [2],Rf h6,.k,.k,.k,.k,.k,.t true,.t true]
  tI (Co h1 [0] 8 (Co h2 [1] 8 (Co h3 [0] 8 (Co h4 [1] 8 (Co h5 [2] 8 (Ai h6 (Ai he (Ai he tI))))))))
abbrev qnP (m:List Pt) (x:Int):Prop:=Fn 17 1 [trS 0 x m] [(0,0,qac m)] (.pv (iV (0))) 0 []
theorem quG {rt x tn td:Int} {s l m:List Pt} {e5 e6:Int} {e3 e4:Int} (h1:qi6 l rt) (h2:qnP m x) (h3:qqH e3 l) (h4:qlG e4 m) (h5:qkw e5 s) (h6:qhZ e6 td tn) (he:(e3 !=0)=true) :
 Fn 14 3 [trS 0 rt l,trS 1 x m,qaq 2 s,.pv (qaa tn td)] (qdK l m s) (.pv (.tuple #[.agg #[iV 0,.slice none 0 0],iV (e3)])) 0 []:=
 Fz [] [.md,Cf h1 [0],Cf h2 [1],Cf h3 [0],Cf h4 [1],Cf h5 [2],Rf h6,.k,.k,.k,.k,.k,.k,.k,.k,.t true,.t true]
  tI (Co h1 [0] 8 (Co h2 [1] 8 (Co h3 [0] 8 (Co h4 [1] 8 (Co h5 [2] 8 (Ai h6 (Ai he (Ai he tI))))))))
theorem qvr {rt x tn td:Int} {s l m:List Pt} {e5 e6:Int} {e4:Int} (h1:qi6 l rt) (h2:qnP m x) (h3:qnK l) (h4:qlG e4 m) (h5:qkw e5 s) (h6:qhZ e6 td tn) (he:(e4 !=0)=true) :
 Fn 14 3 [trS 0 rt l,trS 1 x m,qaq 2 s,.pv (qaa tn td)] (qdK l m s) (.pv (.tuple #[.agg #[iV 0,.slice none 0 0],iV (e4)])) 0 []:=
 Fz [] [.md,Cf h1 [0],Cf h2 [1],Cf h3 [0],Cf h4 [1],Cf h5 [2],Rf h6,.k,.k,.k,.k,.k,.k,.k,.k,.k,.k,.k,.t true,.t true]
  tI (Co h1 [0] 8 (Co h2 [1] 8 (Co h3 [0] 8 (Co h4 [1] 8 (Co h5 [2] 8 (Ai h6 (Ai he (Ai he tI))))))))
abbrev qpK (m:List Pt):Prop:=Fn 52 1 [.ls 0 m.length] [(0,0,qac m)] (.pv (iV (0))) 0 []
theorem quy {rt x tn td:Int} {s l m:List Pt} {e5 e6:Int} (h1:qi6 l rt) (h2:qnP m x) (h3:qnK l) (h4:qpK m) (h5:qkw e5 s) (h6:qhZ e6 td tn) (he:(e5 !=0)=true) :
 Fn 14 3 [trS 0 rt l,trS 1 x m,qaq 2 s,.pv (qaa tn td)] (qdK l m s) (.pv (.tuple #[.agg #[iV 0,.slice none 0 0],iV (e5)])) 0 []:=
 Fz [] [.md,Cf h1 [0],Cf h2 [1],Cf h3 [0],Cf h4 [1],Cf h5 [2],Rf h6,.k,.k,.k,.k,.k,.k,.k,.k,.k,.k,.k,.k,.k,.k,.t true,.t true]
  tI (Co h1 [0] 8 (Co h2 [1] 8 (Co h3 [0] 8 (Co h4 [1] 8 (Co h5 [2] 8 (Ai h6 (Ai he (Ai he tI))))))))
theorem qvG {rt x tn td:Int} {s l m:List Pt} {e6:Int} (h1:qi6 l rt) (h2:qnP m x) (h3:qnK l) (h4:qpK m) (h5:qoo s) (h6:qhZ e6 td tn) (he:(e6 !=0)=true) :
 Fn 14 3 [trS 0 rt l,trS 1 x m,qaq 2 s,.pv (qaa tn td)] (qdK l m s) (.pv (.tuple #[.agg #[iV 0,.slice none 0 0],iV (e6)])) 0 []:=
 Fz [] [.md,Cf h1 [0],Cf h2 [1],Cf h3 [0],Cf h4 [1],Cf h5 [2],Rf h6,.k,.k,.k,.k,.k,.k,.k,.k,.k,.k,.k,.k,.k,.k,.k,.k,.k,.t true,.t true]
  tI (Co h1 [0] 8 (Co h2 [1] 8 (Co h3 [0] 8 (Co h4 [1] 8 (Co h5 [2] 8 (Ai h6 (Ai he (Ai he tI))))))))
abbrev qtO (l:List Pt) (n1:List Pt) (n2:List Pt):Prop:=Fn 59 3 [.ps 2 0 2 2] [(2,0,.ls 0 l.length),(2,1,.ls 1 n2.length),(0,0,qac l),(1,0,qac n2)] (.ls 3 n1.length) 1 [(3,0,qac n1)]
abbrev qs7 (l:List Pt) (m:List Pt) (n2:List Pt):Prop:=Fn 58 1 [.ls 0 m.length,.pv (iV (l.length:Int))] [(0,0,qac m)] (.ls 1 n2.length) 1 [(1,0,qac n2)]
abbrev qq3 (d:List Pt) (n1:List Pt) (s:List Pt):Prop:=Fn 60 2 [qaq 0 s,.ls 1 n1.length] [(0,0,qag s),(1,0,qac n1)] (.tu [.one (.ls 2 d.length),.one (.pv (iV 0))]) 1 [(2,0,qag d)]
abbrev qpA (e4:Int) (n1:List Pt):Prop:=Fn 52 1 [.ls 0 n1.length] [(0,0,qac n1)] (.pv (iV (e4))) 0 []
theorem qnO {rt x tn td:Int} {s l m n1 n2:List Pt} {e4:Int} {d:List Pt} (h1:qi6 l rt) (h2:qnP m x) (h3:qnK l) (h4:qpK m) (h5:qoo s) (h6:qiP td tn) (hsh:qs7 l m n2) (hca:qtO l n1 n2) (hpo:qq3 d n1 s) (h7:Fn 61 1 [.ls 0 n1.length] [(0,0,qac n1)] (.pv (iV (4))) 0 []) (h8:qpA e4 n1) :
 Fn 14 3 [trS 0 rt l,trS 1 x m,qaq 2 s,.pv (qaa tn td)] (qdK l m s) (.pv (.tuple #[.agg #[iV 0,.slice none 0 0],iV (4)])) 0 []:=
 Fz [] [.md,Cf h1 [0],Cf h2 [1],Cf h3 [0],Cf h4 [1],Cf h5 [2],Rf h6,.k,.k,.k,.k,.k,.k,.k,.k,.k,.k,.k,.k,.k,.k,.k,.k,.k,.k,.k,.k,.k,.md,Cf hsh [1],Cf hca [0,9,10],Cf hpo [2,11],Cf h7 [11],Cf h8 [11],.k,.k,.k,.k]
  tI (Co h1 [0] 8 (Co h2 [1] 8 (Co h3 [0] 8 (Co h4 [1] 8 (Co h5 [2] 8 (Ai h6 (Co hsh [1] 9 (Co hca [0,9,10] 11 (Co hpo [2,11] 12 (Co h7 [11] 13 (Co h8 [11] 13 tI)))))))))))
theorem qjT {rt x tn td e:Int} {s l m n1 n2:List Pt} {e4:Int} (h1:qi6 l rt) (h2:qnP m x) (h3:qnK l) (h4:qpK m) (h5:qoo s) (h6:qiP td tn) (hsh:qs7 l m n2) (hca:qtO l n1 n2) (hpo:Fn 60 2 [qaq 0 s,.ls 1 n1.length] [(0,0,qag s),(1,0,qac n1)] (.pv (.tuple #[.slice none 0 0,iV (e)])) 0 []) (h7:Fn 61 1 [.ls 0 n1.length] [(0,0,qac n1)] (.pv (iV (4))) 0 []) (h8:qpA e4 n1) :
 Fn 14 3 [trS 0 rt l,trS 1 x m,qaq 2 s,.pv (qaa tn td)] (qdK l m s) (.pv (.tuple #[.agg #[iV 0,.slice none 0 0],iV (4)])) 0 []:=
 Fz [] [.md,Cf h1 [0],Cf h2 [1],Cf h3 [0],Cf h4 [1],Cf h5 [2],Rf h6,.k,.k,.k,.k,.k,.k,.k,.k,.k,.k,.k,.k,.k,.k,.k,.k,.k,.k,.k,.k,.k,.md,Cf hsh [1],Cf hca [0,9,10],Cf hpo [2,11],Cf h7 [11],Cf h8 [11],.k,.k,.k,.k]
  tI (Co h1 [0] 8 (Co h2 [1] 8 (Co h3 [0] 8 (Co h4 [1] 8 (Co h5 [2] 8 (Ai h6 (Co hsh [1] 9 (Co hca [0,9,10] 11 (Co hpo [2,11] 12 (Co h7 [11] 12 (Co h8 [11] 12 tI)))))))))))
abbrev qpH (n1:List Pt):Prop:=Fn 61 1 [.ls 0 n1.length] [(0,0,qac n1)] (.pv (iV (0))) 0 []
theorem qmg {rt x tn td e:Int} {s l m n1 n2:List Pt} {e4:Int} (h1:qi6 l rt) (h2:qnP m x) (h3:qnK l) (h4:qpK m) (h5:qoo s) (h6:qiP td tn) (hsh:qs7 l m n2) (hca:qtO l n1 n2) (hpo:Fn 60 2 [qaq 0 s,.ls 1 n1.length] [(0,0,qag s),(1,0,qac n1)] (.pv (.tuple #[.slice none 0 0,iV (e)])) 0 []) (h7:qpH n1) (h8:qpA e4 n1) (hee:(e !=0)=true) :
 Fn 14 3 [trS 0 rt l,trS 1 x m,qaq 2 s,.pv (qaa tn td)] (qdK l m s) (.pv (.tuple #[.agg #[iV 0,.slice none 0 0],iV (e)])) 0 []:=
 Fz [] [.md,Cf h1 [0],Cf h2 [1],Cf h3 [0],Cf h4 [1],Cf h5 [2],Rf h6,.k,.k,.k,.k,.k,.k,.k,.k,.k,.k,.k,.k,.k,.k,.k,.k,.k,.k,.k,.k,.k,.md,Cf hsh [1],Cf hca [0,9,10],Cf hpo [2,11],Cf h7 [11],Cf h8 [11],.k,.k,.k,.k,.k,.t true,.t true]
  tI (Co h1 [0] 8 (Co h2 [1] 8 (Co h3 [0] 8 (Co h4 [1] 8 (Co h5 [2] 8 (Ai h6 (Co hsh [1] 9 (Co hca [0,9,10] 11 (Co hpo [2,11] 12 (Co h7 [11] 12 (Co h8 [11] 12 (Ai hee (Ai hee tI)))))))))))))
theorem qoM {rt x tn td:Int} {s l m n1 n2:List Pt} {d:List Pt} (h1:qi6 l rt) (h2:qnP m x) (h3:qnK l) (h4:qpK m) (h5:qoo s) (h6:qiP td tn) (hsh:qs7 l m n2) (hca:qtO l n1 n2) (hpo:qq3 d n1 s) (h7:qpH n1) (h8:Fn 52 1 [.ls 0 n1.length] [(0,0,qac n1)] (.pv (iV (32))) 0 []) :
 Fn 14 3 [trS 0 rt l,trS 1 x m,qaq 2 s,.pv (qaa tn td)] (qdK l m s) (.pv (.tuple #[.agg #[iV 0,.slice none 0 0],iV (32)])) 0 []:=
 Fz [] [.md,Cf h1 [0],Cf h2 [1],Cf h3 [0],Cf h4 [1],Cf h5 [2],Rf h6,.k,.k,.k,.k,.k,.k,.k,.k,.k,.k,.k,.k,.k,.k,.k,.k,.k,.k,.k,.k,.k,.md,Cf hsh [1],Cf hca [0,9,10],Cf hpo [2,11],Cf h7 [11],Cf h8 [11],.k,.k,.k,.k,.k,.k,.k,.k,.k,.k]
  tI (Co h1 [0] 8 (Co h2 [1] 8 (Co h3 [0] 8 (Co h4 [1] 8 (Co h5 [2] 8 (Ai h6 (Co hsh [1] 9 (Co hca [0,9,10] 11 (Co hpo [2,11] 12 (Co h7 [11] 13 (Co h8 [11] 13 tI)))))))))))
theorem qrB {rt x z tn td:Int} {s l m n1 n2:List Pt} {n3 d:List Pt} {x1:Int} (h1:qi6 l rt) (h2:qnP m x) (h3:qnK l) (h4:qpK m) (h5:qoo s) (h6:qiP td tn) (hsh:qs7 l m n2) (hca:qtO l n1 n2) (hpo:qq3 d n1 s) (h7:qpH n1) (h8:Fn 52 1 [.ls 0 n1.length] [(0,0,qac n1)] (.pv (iV (0))) 0 []) (hfu:Pure Try.prog 57 #[iV (x),iV (l.length:Int)] (iV (x1))) (hj:FnO Try.prog 62 1 2 [.ag [.ls 1 n1.length,.ls 0 d.length,.pv (iV tn),.pv (iV td)],.pv (iV (rt)),.pv (iV (x1))] [(0,0,qag d),(1,0,qac n1)] (.pv (iV (z))) 0 [(1,0,.row 26 3 n1.length (qam n3))]) :
 Fn 14 3 [trS 0 rt l,trS 1 x m,qaq 2 s,.pv (qaa tn td)] (qdK l m s) (.tu [.ag [.pv (iV z),.ls 3 n1.length],.one (.pv (iV 0))]) 1 [(3,0,.row 26 3 n1.length (qam n3))]:=
 Fz [(3,11)] [.md,Cf h1 [0],Cf h2 [1],Cf h3 [0],Cf h4 [1],Cf h5 [2],Rf h6,.k,.k,.k,.k,.k,.k,.k,.k,.k,.k,.k,.k,.k,.k,.k,.k,.k,.k,.k,.k,.k,.md,Cf hsh [1],Cf hca [0,9,10],Cf hpo [2,11],Cf h7 [11],Cf h7 [11],.k,.k,.k,.k,.k,.k,.k,.k,.k,.k,.k,.k,.gh [(3,0),(4,0),(6,0),(6,1)],Rf hfu,.fo 1 [12,11] [.ag [.ls 1 n1.length,.ls 0 d.length,.pv (iV tn),.pv (iV td)],.pv (iV (rt)),.pv (iV (x1))] [(0,0,qag d),(1,0,qac n1)] (.pv (iV (z))) 0 [(1,0,.row 26 3 n1.length (qam n3))]]
  (qak (qaA [(3,11)]) [(3,0,.row 26 3 n1.length (qam n3))]) (Co h1 [0] 8 (Co h2 [1] 8 (Co h3 [0] 8 (Co h4 [1] 8 (Co h5 [2] 8 (Ai h6 (Co hsh [1] 9 (Co hca [0,9,10] 11 (Co hpo [2,11] 12 (Co h7 [11] 13 (Co h8 [11] 13 (Ai (Er (SV.pv (iV rt))) (Ai (Er (SV.pv (iV x))) (Ai (Er (SV.pv (iV tn))) (Ai (Er (SV.pv (iV td))) (Ai hfu (Ai (Er (SV.pv (iV rt))) (Ai (Er (SV.pv (iV x))) (Ai (Er (SV.pv (iV tn))) (Ai (Er (SV.pv (iV td))) (Ai hj (Ai (Eq.refl (List.map (SV.ren (qat [12,11] 14)) [.ag [.ls 1 n1.length,.ls 0 d.length,.pv (iV tn),.pv (iV td)],.pv (iV (rt)),.pv (iV (x1))])) (Ai (qak (qat [12,11] 14) [(0,0,qag d),(1,0,qac n1)]) (Ai (Er (SV.pv (iV rt))) (Ai (Er (SV.pv (iV x))) (Ai (Er (SV.pv (iV tn))) (Ai (Er (SV.pv (iV td))) (Ai (Er (SV.pv (iV rt))) (Ai (Er (SV.pv (iV x))) (Ai (Er (SV.pv (iV tn))) (Ai (Er (SV.pv (iV td))) tI)))))))))))))))))))))))))))))))
end Go.Proofs.Ytalnjplghagbpaa

namespace Go.Proofs.Ytalnjplghagbpaa
set_option maxRecDepth 100000
open Go.RowKit
open Classical in
noncomputable def chE (x:Tr):Int:=if 64<x.n.length then 4 else if VT x then 0 else 8
theorem qeP {x:Tr} (h:64<x.n.length):chE x=4:=by unfold chE;rw[if_pos h]
theorem qhj {x:Tr} (h:¬ 64<x.n.length) (k:¬ VT x):chE x=8:=by unfold chE;rw[if_neg h,if_neg k]
theorem qdJ {x:Tr} (k:VT x):chE x=0:=by unfold chE;rw[if_neg (by have:=k.len;omega),if_pos k]
theorem qi9 {x:Tr}:chE x=0↔VT x:=by
 refine⟨fun h=>?_,qdJ⟩
 apply Classical.byContradiction
 intro k
 by_cases hm:64<x.n.length
 ·rw[qeP hm] at h;cases h
 ·rw[qhj hm k] at h;cases h
theorem qgW {α:Type} {f:α→Int}:∀ {L:List α},(∀ j p q,L[j]?=some p→L[j+1]?=some q→f p<f q)→(L.map f).Pairwise (· < ·)
 | [],_=>.nil
 | [_],_=>by simp
 | a::b::r,h=>by
  have ih:=qgW (L:=b::r) fun j p q hp hq=>h (j+1) p q (by simpa using hp) (by simpa using hq)
  rw[List.map_cons,List.pairwise_cons]
  refine⟨fun y hy=>?_,ih⟩
  have hab:=h 0 a b rfl rfl
  rw[List.map_cons] at hy ih
  rcases List.mem_cons.1 hy with rfl | hy
  ·exact hab
  ·exact Int.lt_trans hab ((List.pairwise_cons.1 ih).1 y hy)
theorem qj0 {α:Type} {f:α→Int} {L:List α} (h:(L.map f).Pairwise (· < ·)) {j:Nat} {p q:α} (hp:L[j]?=some p) (hq:L[j+1]?=some q):f p<f q:=by
 have h1:=qai hq
 have:=List.pairwise_iff_getElem.1 h j (j+1) (by rw[List.length_map];omega) (by rw[List.length_map];omega) (by omega)
 rw[List.getElem_map,List.getElem_map] at this
 rw[List.getElem?_eq_getElem (by omega)] at hp hq
 cases hp
 cases hq
 exact this
section
variable {rt:Int} {l:List Pt}
abbrev qua (k:Nat):List (Nat×SV):=[(1,.pp 1 0),(3,.pv (iV (k:Int)))]
abbrev qt9 (rt:Int) (l:List Pt):List (Nat×Nat×SV):=[(1,0,.pv (iV rt)),(1,1,.ls 0 l.length),(0,0,qac l)]
abbrev qt2 (g:List Int) (k:Nat):List (Nat×SV):=[(1,.pp 1 0),(5,.ls 2 g.length),(6,.pv (iV (k:Int)))]
abbrev qun (rt:Int) (l:List Pt) (g:List Int):List (Nat×Nat×SV):=[(1,0,.pv (iV rt)),(1,1,.ls 0 l.length),(0,0,qac l),(2,0,zrI g)]
def GdN (l:List Pt) (p:Pt):Prop:=(-1≤p.a∧p.a<(l.length:Int))∧(-1≤p.b∧p.b<(l.length:Int))∧0≤p.id∧p.id≤65535
theorem ckb {k:Nat} {p:Pt} (hp:l[k]?=some p) (hb:¬ GdN l p):Rl 1 1 34 0 96 2 (qua k) (qt9 rt l) .ret [(2,.pv (iV 8))] []:=by
 have hkl:=qai hp
 have ha:=qkt (rt:=rt) (l:=l) p.a
 have hbl:=qkt (rt:=rt) (l:=l) p.b
 by_cases c1 : -1≤p.a∧p.a<(l.length:Int)
 ·rw[qfi c1] at ha
  by_cases c2 : -1≤p.b∧p.b<(l.length:Int)
  ·rw[qfi c2] at hbl
   by_cases c3:0≤p.id
   ·have c4:65535<p.id:=by
     apply Classical.byContradiction
     intro h
     exact hb ⟨c1,c2,c3,by omega⟩
    exact qrD (hlt:=dt (by omega)) (hk:=hp) (hin:=⟨by omega,by omega⟩) (ha:=ha) (hb:=hbl) (h1:=df (by omega)) (h2:=dt (by omega))
   ·exact qtn (hlt:=dt (by omega)) (hk:=hp) (hin:=⟨by omega,by omega⟩) (ha:=ha) (hb:=hbl) (h1:=dt (by omega))
  ·rw[qf9 c2] at hbl
   exact qst (hlt:=dt (by omega)) (hk:=hp) (hin:=⟨by omega,by omega⟩) (ha:=ha) (hb:=hbl)
 ·rw[qf9 c1] at ha
  exact qsO (hlt:=dt (by omega)) (hk:=hp) (hin:=⟨by omega,by omega⟩) (ha:=ha)
theorem cks (hl:l.length≤999999) {m:Nat} (hm:m≤l.length) (hg:∀ k,k<m→∀ p,l[k]?=some p→GdN l p) {e:Exit} {tm2:TmL} {hp2:HpL}
 (r:Rl 1 1 34 0 96 2 (qua m) (qt9 rt l) e tm2 hp2):Rl 1 1 34 0 96 2 (qua 0) (qt9 rt l) e tm2 hp2:=
 RunsL.roundsZ (fun k=>qua k) (fun _=>qt9 rt l) (N:=m) m 0 (Nat.zero_add _) (fun k _ hk r=>by
  obtain⟨p,hp⟩:=qal (l:=l) (k:=k) (by omega)
  obtain⟨c1,c2,c3,c4⟩:=hg k hk p hp
  have ha:=qkt (rt:=rt) (l:=l) p.a
  have hb:=qkt (rt:=rt) (l:=l) p.b
  rw[qfi c1] at ha
  rw[qfi c2] at hb
  exact qnA (hlt:=dt (by omega)) (hk:=hp) (hin:=⟨by omega,by omega⟩) (ha:=ha) (hb:=hb) (h1:=df (by omega)) (h2:=df (by omega)) (hs:=qan (by omega)) r) r
theorem qrH (hl:l.length≤999999):Fn 34 1 [trS 0 rt l] [(0,0,qac l)] (.pv (iV (chE ⟨rt,l⟩))) 0 []:=by
 by_cases hm:64<l.length
 ·rw[qeP (x:=⟨rt,l⟩) hm];exact qm1 (hm:=dt (by omega))
 have hm':decide ((l.length:Int)>64)=false:=df (by omega)
 have no:¬ VT ⟨rt,l⟩→chE ⟨rt,l⟩=8:=qhj hm
 have hL:=qkt (rt:=rt) (l:=l) rt
 by_cases hr : -1≤rt∧rt<(l.length:Int)
 rotate_left
 ·rw[no fun ⟨_,_,T,hT⟩=>hr hT.root.1]
  rw[qf9 hr] at hL
  exact qne (hm:=hm') (hl:=hL)
 rw[qfi hr] at hL
 by_cases hre:rt = -1↔l.length=0
 rotate_left
 ·rw[no fun ⟨_,_,T,hT⟩=>hre hT.root.2]
  by_cases h1:rt = -1
  ·exact qkl (hm:=hm') (hl:=hL) (hr:=beq_iff_eq.2 h1) (h0:=beq_eq_false_iff_ne.2 (by omega))
  ·exact qiY (hm:=hm') (hl:=hL) (hr:=beq_eq_false_iff_ne.2 h1) (h0:=beq_iff_eq.2 (by omega))
 have he:(rt==(-1))=true∧((l.length:Int)==0)=true∨(rt==(-1))=false∧((l.length:Int)==0)=false:=by
  by_cases h1:rt = -1
  ·exact Or.inl ⟨beq_iff_eq.2 h1,beq_iff_eq.2 (by omega)⟩
  ·exact Or.inr ⟨beq_eq_false_iff_ne.2 h1,beq_eq_false_iff_ne.2 (by omega)⟩
 rcases qaK (fun k=>∀ p,l[k]?=some p→GdN l p) l.length with hg | ⟨k,hk,hb,hg⟩
 rotate_left
 ·simp only[Classical.not_forall] at hb
  obtain⟨p,hp,hb⟩:=hb
  rw[no fun ⟨_,hrng,T,hT⟩=>hb ⟨(hT.lnk p (List.mem_of_getElem? hp)).1,(hT.lnk p (List.mem_of_getElem? hp)).2,hrng p (List.mem_of_getElem? hp)⟩]
  have r:=cks (rt:=rt) hl (Nat.le_of_lt hk) hg (ckb hp hb)
  rcases he with ⟨e1,e2⟩ | ⟨e1,e2⟩
  ·exact qnw (hm:=hm') (hl:=hL) (hr:=e1) (h0:=e2) (r0:=r)
  ·exact ql1 (hm:=hm') (hl:=hL) (hr:=e1) (h0:=e2) (r0:=r)
 have hgd:∀ p∈l,GdN l p:=fun p hp=>by
  obtain⟨k,hk⟩:=List.getElem?_of_mem hp
  exact hg k (qai hk) p hk
 have hLn:Lnk ⟨rt,l⟩:=fun p hp=>⟨(hgd p hp).1,(hgd p hp).2.1⟩
 have r0:=cks (rt:=rt) hl (Nat.le_refl _) hg (qpJ (rt:=rt) (l:=l) (k:=l.length) (hlt:=df (by omega)))
 have ho:=quA (rt:=rt) hLn (by omega)
 by_cases h1:One ⟨rt,l⟩
 rotate_left
 ·rw[no fun ⟨_,_,T,hT⟩=>h1 hT.one]
  rw[qf9 h1] at ho
  rcases he with ⟨e1,e2⟩ | ⟨e1,e2⟩
  ·exact qju (hm:=hm') (hl:=hL) (hr:=e1) (h0:=e2) (r0:=r0) (ho:=ho)
  ·exact qkX (hm:=hm') (hl:=hL) (hr:=e1) (h0:=e2) (r0:=r0) (ho:=ho)
 rw[qfi h1] at ho
 obtain⟨T,hT⟩:=One.tree h1 hLn hr
 have hT:Rep l rt T:=hT
 have hnd:T.list.Nodup:=Rep.nodup h1 hT
 have hTl:T.list.length≤l.length:=by
  have:=hnd.length_le_of_subset (l₂:=List.range l.length) fun v hv=>List.mem_range.2 (hT.lt v hv)
  rwa [List.length_range] at this
 have hre2:=qtL hl hT hTl
 by_cases hall:T.list.length=l.length
 rotate_left
 ·rw[no fun ⟨_,_,T',hT'⟩=>hall (by rw[hT.uniq hT'.rep];exact hT'.all)]
  rw[decide_eq_false hall] at hre2
  rcases he with ⟨e1,e2⟩ | ⟨e1,e2⟩
  ·exact qik (hm:=hm') (hl:=hL) (hr:=e1) (h0:=e2) (r0:=r0) (ho:=ho) (hrc:=hre2)
  ·exact qh6 (hm:=hm') (hl:=hL) (hr:=e1) (h0:=e2) (r0:=r0) (ho:=ho) (hrc:=hre2)
 rw[decide_eq_true hall] at hre2
 have hw:=qtl hl hT hTl
 have hwl:=qdF T
 have at2:∀ j,j<T.list.length→∃ k p,T.list[j]?=some k∧l[k]?=some p∧k<l.length:=fun j hj=>by
  have hk:=List.getElem?_eq_getElem hj
  have hkl:=hT.lt _ (List.mem_of_getElem? hk)
  exact⟨_,_,hk,qah hkl,hkl⟩
 have step:∀ m,1≤m→m≤T.list.length→(∀ j,1≤j→j<m→∀ a b,T.list[j-1]?=some a→T.list[j]?=some b→idN l a<idN l b)→∀ {e:Exit} {tm2:TmL} {hp2:HpL},
  Rl 1 1 34 1 96 3 (qt2 (wL T) m) (qun rt l (wL T)) e tm2 hp2→Rl 1 1 34 1 96 3 (qt2 (wL T) 1) (qun rt l (wL T)) e tm2 hp2:=by
  intro m h1 hm2 hlt e tm2 hp2 r
  refine RunsL.roundsZ (fun k=>qt2 (wL T) k) (fun _=>qun rt l (wL T)) (N:=m) (m-1) 1 (by omega) (fun k k1 k2 r=>?_) r
  obtain⟨u,p,hu,hp,hul⟩:=at2 (k-1) (by omega)
  obtain⟨v,q,hv,hq,hvl⟩:=at2 k (by omega)
  have:=hlt k k1 k2 u v hu hv
  rw[qao hp,qao hq] at this
  exact qk6 (j:=k-1) (hlt:=dt (by omega)) (hs1:=by rw[qfc (by omega) (by omega)];congr 1;omega) (hji:=⟨by omega,by omega⟩) (hgj:=qgV hu) (hyi:=⟨by omega,by omega⟩) (hp:=hp) (hki:=⟨by omega,by omega⟩) (hgk:=qgV hv) (hzi:=⟨by omega,by omega⟩) (hq:=hq) (hc:=df (by omega)) (hs:=qan (by omega)) r
 rcases qaK (fun k=>1≤k→∀ a b,T.list[k-1]?=some a→T.list[k]?=some b→idN l a<idN l b) T.list.length with h | ⟨k,hk,hb,hf⟩
 ·have hup:(T.list.map (idN l)).Pairwise (· < ·):=qgW fun j p q hp hq=>h (j+1) (qai hq) (by omega) p q hp hq
  rw[qdJ (x:=⟨rt,l⟩) ⟨by show l.length≤64;omega,fun p hp=>(hgd p hp).2.2,T,hT,hall,hup⟩]
  have r1:Rl 1 1 34 1 96 3 (qt2 (wL T) 1) (qun rt l (wL T)) (.exit 2) [] []:=by
   rcases Nat.eq_zero_or_pos T.list.length with h0 | h0
   ·exact qho (hlt:=df (by omega))
   ·exact step T.list.length h0 (Nat.le_refl _) (fun j j1 j2=>h j j2 j1) (qho (hlt:=df (by omega)))
  rcases he with ⟨e1,e2⟩ | ⟨e1,e2⟩
  ·exact qp6 (hm:=hm') (hl:=hL) (hr:=e1) (h0:=e2) (r0:=r0) (ho:=ho) (hrc:=hre2) (hw:=hw) (r1:=r1)
  ·exact qpz (hm:=hm') (hl:=hL) (hr:=e1) (h0:=e2) (r0:=r0) (ho:=ho) (hrc:=hre2) (hw:=hw) (r1:=r1)
 ·simp only[Classical.not_forall] at hb
  obtain⟨k1,a,b,ha,hb,hlt⟩:=hb
  rw[no fun ⟨_,_,T',hT'⟩=>hlt (by
   have e:=hT.uniq hT'.rep
   subst e
   exact qj0 hT'.up ha (by rw[show k-1+1=k by omega];exact hb))]
  obtain⟨u,p,hu,hp,hul⟩:=at2 (k-1) (by omega)
  obtain⟨v,q,hv,hq,hvl⟩:=at2 k (by omega)
  rw[ha] at hu
  rw[hb] at hv
  cases hu
  cases hv
  rw[qao hp,qao hq] at hlt
  have r1:=step k k1 (by omega) (fun j j1 j2=>hf j j2 j1) (qlU (j:=k-1) (hlt:=dt (by omega)) (hs1:=by rw[qfc (by omega) (by omega)];congr 1;omega) (hji:=⟨by omega,by omega⟩) (hgj:=qgV ha) (hyi:=⟨by omega,by omega⟩) (hp:=hp) (hki:=⟨by omega,by omega⟩) (hgk:=qgV hb) (hzi:=⟨by omega,by omega⟩) (hq:=hq) (hc:=dt (by omega)))
  rcases he with ⟨e1,e2⟩ | ⟨e1,e2⟩
  ·exact ql4 (hm:=hm') (hl:=hL) (hr:=e1) (h0:=e2) (r0:=r0) (ho:=ho) (hrc:=hre2) (hw:=hw) (r1:=r1)
  ·exact ql6 (hm:=hm') (hl:=hL) (hr:=e1) (h0:=e2) (r0:=r0) (ho:=ho) (hrc:=hre2) (hw:=hw) (r1:=r1)
end
end Go.Proofs.Ytalnjplghagbpaa
