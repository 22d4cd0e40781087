/-
  Joined: Dc, Eb, Df. Conditions: none.
-/
import Derived.Test.YtalnjplghagbpaaW29
import Derived.Test.YtalnjplghagbpaaSxP
import Derived.Test.YtalnjplghagbpaaW24
import Derived.Test.YtalnjplghagbpaaW19
namespace Go.Proofs.Ytalnjplghagbpaa
set_option maxRecDepth 100000
open Go.RowKit
def wL (T:Sh Nat):List Int:=T.list.map fun k:Nat=>(k:Int)
theorem qco (T:Sh Nat):(wL T).length=T.list.length:=List.length_map ..
theorem qfb (a b:Sh Nat) (k:Nat):wL (.node a k b)=wL a++((k:Int)::wL b):=by simp[wL,Sh.list]
theorem qdi:wL .nil=[]:=rfl
theorem qd1 {T:Sh Nat} {j k:Nat} (h:T.list[j]?=some k):(wL T)[j]?=some (k:Int):=by unfold wL;rw[List.getElem?_map,h];rfl
theorem qa9 (g:List Int) (x:Int):ziV (g++[x])=ziV g++[iV x]:=qeE g [x]
section
variable {rt:Int} {l:List Pt}
theorem qp7 (hl:l.length≤999999):∀ {T:Sh Nat} {z:Int} (g:List Int) {n:Nat} {v:List Value},Rep l z T→n=g.length→v=ziV g→n+T.list.length≤l.length→T≠.nil→
 FnO Try.prog 96 1 2 [trS 0 rt l,.pv (iV z),.ls 1 n] [(0,0,qaa l),(1,0,.row 3 1 n v)] (.ls 2 (g++wL T).length) 1 [(2,0,zrI (g++wL T))]:=by
 intro T
 induction T with
 | nil=>intro z g n v _ _ _ _ h;exact (h rfl).elim
 | node a k b iha ihb=>
  intro z g n v hr hn hv hlen _
  subst hn hv
  obtain⟨hz,p,hp,a1,a2⟩:=hr
  subst hz
  have hkl:=qak hp
  have hs:(Sh.node a k b).list.length=a.list.length+(b.list.length+1):=by simp[Sh.list]
  rw[hs] at hlen
  have e:g++wL (.node a k b)=((g++wL a)++[(k:Int)])++wL b:=by rw[qfb];simp
  have c0:decide ((k:Int)<0)=false:=df (by omega)
  have c1:decide ((g.length:Int)>(l.length:Int))=false:=df (by omega)
  have hin:0≤(k:Int)∧(k:Int)<(l.length:Int):=⟨by omega,by omega⟩
  have la:(g++wL a).length=g.length+a.list.length:=by rw[List.length_append,qco]
  have lr:∀ c:List Int,(c++[(k:Int)]).length=c.length+1:=fun c=>by simp
  by_cases ea:a=.nil
  ·subst ea
   have ga:g++wL .nil=g:=by rw[qdi,List.append_nil]
   rw[ga] at e
   have pa:p.a = -1:=a1
   have hL:=qc8 (rt:=rt) (l:=l) (z:=p.a) (n:=g.length) (vs:=ziV g) (dt (by omega))
   by_cases eb:b=.nil
   ·subst eb
    have pb:p.b = -1:=a2
    rw[e,qdi,List.append_nil]
    have:=qrq (h0:=c0) (h1:=c1) (hk:=hp) (hin:=hin) (hl:=hL) (hn:=by omega) (hr:=qc8 (rt:=rt) (l:=l) (z:=p.b) (n:=g.length+1) (vs:=ziV g++[iV (k:Int)]) (dt (by omega)))
    rw[zrI,lr,qa9]
    exact this
   ·rw[e]
    exact qrj (h0:=c0) (h1:=c1) (hk:=hp) (hin:=hin) (hl:=hL) (hn:=by omega) (hr:=ihb (g++[(k:Int)]) a2 (lr g).symm (qa9 g k).symm (by omega) eb)
  ·have hL:=iha g a1 rfl rfl (by omega) ea
   by_cases eb:b=.nil
   ·subst eb
    have pb:p.b = -1:=a2
    rw[e,qdi,List.append_nil]
    have:=qsi (h0:=c0) (h1:=c1) (hk:=hp) (hin:=hin) (hl:=hL) (hn:=by omega) (hr:=qc8 (rt:=rt) (l:=l) (z:=p.b) (n:=(g++wL a).length+1) (vs:=ziV (g++wL a)++[iV (k:Int)]) (dt (by omega)))
    rw[zrI,lr,qa9]
    exact this
   ·rw[e]
    exact qr4 (h0:=c0) (h1:=c1) (hk:=hp) (hin:=hin) (hl:=hL) (hn:=by omega) (hr:=ihb ((g++wL a)++[(k:Int)]) a2 (lr _).symm (qa9 _ k).symm (by omega) eb)
theorem qov (hl:l.length≤999999) {T:Sh Nat} {z:Int} (hr:Rep l z T) (hlen:T.list.length≤l.length) (hT:T≠.nil) :
 Fn 96 1 [trS 0 rt l,.pv (iV z),.pv (.slice none 0 0)] [(0,0,qaa l)] (.ls 1 (wL T).length) 1 [(1,0,zrI (wL T))]:=by
 cases T with
 | nil=>exact (hT rfl).elim
 | node a k b=>
  obtain⟨hz,p,hp,a1,a2⟩:=hr
  subst hz
  have hkl:=qak hp
  have hs:(Sh.node a k b).list.length=a.list.length+(b.list.length+1):=by simp[Sh.list]
  rw[hs] at hlen
  have e:wL (.node a k b)=(wL a++[(k:Int)])++wL b:=by rw[qfb];simp
  have c0:decide ((k:Int)<0)=false:=df (by omega)
  have c1:decide ((0:Int)>(l.length:Int))=false:=df (by omega)
  have hin:0≤(k:Int)∧(k:Int)<(l.length:Int):=⟨by omega,by omega⟩
  have la:(wL a).length=a.list.length:=qco a
  have lr:∀ c:List Int,(c++[(k:Int)]).length=c.length+1:=fun c=>by simp
  by_cases ea:a=.nil
  ·subst ea
   rw[qdi,List.nil_append] at e
   have pa:p.a = -1:=a1
   have hL:=qc8 (rt:=rt) (l:=l) (z:=p.a) (n:=0) (vs:=[]) (dt (by omega))
   by_cases eb:b=.nil
   ·subst eb
    have pb:p.b = -1:=a2
    rw[e,qdi,List.append_nil]
    exact qss (h0:=c0) (h1:=c1) (hk:=hp) (hin:=hin) (hl:=hL) (hn:=by omega) (hr:=qc8 (rt:=rt) (l:=l) (z:=p.b) (n:=0+1) (vs:=[]++[iV (k:Int)]) (dt (by omega)))
   ·rw[e]
    exact qsz (h0:=c0) (h1:=c1) (hk:=hp) (hin:=hin) (hl:=hL) (hn:=by omega) (hr:=qp7 hl [(k:Int)] a2 rfl rfl (by omega) eb)
  ·have hL:=qp7 (rt:=rt) (n:=0) hl [] a1 rfl rfl (by omega) ea
   rw[List.nil_append] at hL
   by_cases eb:b=.nil
   ·subst eb
    have pb:p.b = -1:=a2
    rw[e,qdi,List.append_nil]
    have:=qsU (h0:=c0) (h1:=c1) (hk:=hp) (hin:=hin) (hl:=hL) (hn:=by omega) (hr:=qc8 (rt:=rt) (l:=l) (z:=p.b) (n:=(wL a).length+1) (vs:=ziV (wL a)++[iV (k:Int)]) (dt (by omega)))
    rw[zrI,lr,qa9]
    exact this
   ·rw[e]
    exact qrF (h0:=c0) (h1:=c1) (hk:=hp) (hin:=hin) (hl:=hL) (hn:=by omega) (hr:=qp7 hl (wL a++[(k:Int)]) a2 (lr _).symm (qa9 _ k).symm (by omega) eb)
theorem qol (hl:l.length≤999999) {T:Sh Nat} (hr:Rep l rt T) (hlen:T.list.length≤l.length) :
 Fn 73 1 [trS 0 rt l] [(0,0,qaa l)] (.ls 1 (wL T).length) 1 [(1,0,zrI (wL T))]:=by
 by_cases hT:T=.nil
 ·subst hT
  have h:rt = -1:=hr
  exact qfd 3 1 (qpD (hw:=qg1 (h0:=dt (by omega)))) .ls
 ·exact qq6 (hw:=qov hl hr hlen hT)
theorem qra (hl:l.length≤999999) {T:Sh Nat} (hr:Rep l rt T) (hlen:T.list.length≤l.length) :
 Fn 72 1 [trS 0 rt l] [(0,0,qaa l)] (.pv (.bool (decide (T.list.length=l.length)))) 0 []:=by
 by_cases hT:T=.nil
 ·subst hT
  have h:rt = -1:=hr
  by_cases e:l.length=0
  ·rw[show decide ((Sh.nil:Sh Nat).list.length=l.length)=true from decide_eq_true (by rw[e];rfl)]
   exact qpQ (hw:=qg1 (h0:=dt (by omega))) (he:=by rw[e];rfl)
  ·rw[show decide ((Sh.nil:Sh Nat).list.length=l.length)=false from decide_eq_false (fun h=>e h.symm)]
   exact qmZ (hw:=qg1 (h0:=dt (by omega))) (he:=beq_eq_false_iff_ne.2 (by omega))
 ·have hw:=qov (rt:=rt) hl hr hlen hT
  have hg:=qco T
  by_cases e:T.list.length=l.length
  ·rw[decide_eq_true e]
   exact qme (hw:=hw) (he:=beq_iff_eq.2 (by omega))
  ·rw[decide_eq_false e]
   exact qjD (hw:=hw) (he:=beq_eq_false_iff_ne.2 (by omega))
def lsI (l:List Pt) (T:Sh Nat):List Int:=T.list.map (idN l)
theorem qg8 (T:Sh Nat):(lsI l T).length=T.list.length:=List.length_map ..
theorem qpA (hl:l.length≤999999) {T:Sh Nat} (hr:Rep l rt T) (hlen:T.list.length≤l.length) :
 Fn 66 1 [trS 0 rt l] [(0,0,qaa l)] (.ls 1 (lsI l T).length) 1 [(1,0,zrI (lsI l T))]:=by
 have hg:=qco T
 have htake:∀ j,(T.list.take j).map (idN l)=(lsI l T).take j:=fun j=>by unfold lsI;rw[List.map_take]
 have run:=RunsL.roundsZ (fun j=>[(1,.pp 1 0),(3,.ls 3 j),(4,.ls 2 (wL T).length),(5,.pv (iV (j:Int)))])
  (fun j=>[(1,0,.pv (iV rt)),(1,1,.ls 0 l.length),(0,0,qaa l),(2,0,zrI (wL T)),(3,0,.row 3 1 j (ziV ((lsI l T).take j)))]) (N:=T.list.length) T.list.length 0 (Nat.zero_add _) (fun j _ hj r=>by
   obtain⟨k,hk⟩:∃ k,T.list[j]?=some k:=⟨_,List.getElem?_eq_getElem hj⟩
   have hkl:=hr.lt k (List.mem_of_getElem? hk)
   have hid:(lsI l T)[j]?=some (idN l k):=by unfold lsI;rw[List.getElem?_map,hk];rfl
   have hp:=qat hkl
   have e:ziV ((lsI l T).take (j+1))=ziV ((lsI l T).take j)++[iV (ndT l k).id]:=by
    rw[qbg hid,qa9,← qaz hp]
   rw[e] at r
   exact qlL (hlt:=dt (by omega)) (hin:=⟨by omega,by omega⟩) (hg:=qd1 hk) (hiz:=⟨by omega,by omega⟩) (hk:=hp) (hn:=by omega) (hs:=qah (by omega)) r) (qo6 (rt:=rt) (l:=l) (g:=wL T) (k:=T.list.length) (n:=T.list.length) (vs:=ziV ((lsI l T).take T.list.length)) (hlt:=df (by omega)))
 rw[List.take_of_length_le (Nat.le_of_eq (qg8 T))] at run
 rw[zrI,qg8]
 exact qtg (hw:=qol hl hr hlen) (r0:=run)
end
end Go.Proofs.Ytalnjplghagbpaa

namespace Go.Proofs.Ytalnjplghagbpaa
set_option maxRecDepth 100000
open Go.RowKit
theorem qu5 (n:Nat):SV.ls 2 (0+n)=(SV.ls 1 n).ren (qaB [(1,2)]):=by rw[Nat.zero_add];rfl
theorem qoX (e:TypeId) (es n:Nat) (xs:List Value):some (SV.row e es (0+n) ([]++xs))=some (SV.row e es n xs):=by rw[Nat.zero_add,List.nil_append]
theorem qoh {z v:Int} (h:(z==(-1))=true) :
 Pure Try.prog 57 #[iV (z),iV (v)] (iV (-1)):=
 qae (args:=[iV (z),iV (v)]) 300 [.t true]
  (Ai rfl (Ai h tI)) (by kernel_rfl)
theorem qpz {y z v:Int} (h:(z==(-1))=false) (hs:iV (IntKind.i64.wrap (z+v))=iV (y)) :
 Pure Try.prog 57 #[iV (z),iV (v)] (iV (y)):=
 qae (args:=[iV (z),iV (v)]) 300 [.t false,Re hs]
  (Ai rfl (Ai h (Ai hs tI))) (by kernel_rfl)
theorem qfa {l:List Pt} (h:decide ((l.length:Int)>64)=true) :
 Fn 61 1 [.ls 0 l.length] [(0,0,qaa l)] (.pv (iV (4))) 0 []:=
 Fz [] [.t true]
  tI (Ai h tI)
theorem qcM {l:List Pt} (h:decide ((l.length:Int)>64)=false) :
 Fn 61 1 [.ls 0 l.length] [(0,0,qaa l)] (.pv (iV (0))) 0 []:=
 Fz [] [.t false]
  tI (Ai h tI)
theorem qmy {l:List Pt} {p q:Pt} {j k:Nat} (hlt:decide ((k:Int)<(l.length:Int))=true) (hs1:iV (IntKind.i64.wrap ((k:Int)-1))=iV (j:Int)) (hj:l[j]?=some p) (hinj:0≤(j:Int)∧(j:Int)<(l.length:Int)) (hk:l[k]?=some q) (hin:0≤(k:Int)∧(k:Int)<(l.length:Int)) (hc:decide (p.id≥q.id)=false) (hs:iV (IntKind.i64.wrap ((k:Int)+1))=iV (((k+1:Nat):Int))) {e:Exit} {tm2:TmL} {hp2:HpL}
 (r:Rl 1 1 52 0 22 1 ([(0,.ls 0 l.length),(3,.pv (iV ((k+1:Nat):Int)))]) ([(0,0,qaa l)]) e tm2 hp2):Rl 1 1 52 0 22 1 ([(0,.ls 0 l.length),(3,.pv (iV (k:Int)))]) ([(0,0,qaa l)]) e tm2 hp2:=
 RunsL.next [] 300 [.t true,Re hs1,.r (iV p.id),.r (iV q.id),.t false,Re hs]
  (Ro (Ai hlt (Ai hs1 (Ai hinj (Ai (qcg hj) (Ai hin (Ai (qcg hk) (Ai hc (Ai hs tI))))))))) r
theorem qp0 {l:List Pt} {p q:Pt} {j k:Nat} (hlt:decide ((k:Int)<(l.length:Int))=true) (hs1:iV (IntKind.i64.wrap ((k:Int)-1))=iV (j:Int)) (hj:l[j]?=some p) (hinj:0≤(j:Int)∧(j:Int)<(l.length:Int)) (hk:l[k]?=some q) (hin:0≤(k:Int)∧(k:Int)<(l.length:Int)) (hc:decide (p.id≥q.id)=true):Rl 1 1 52 0 22 1 ([(0,.ls 0 l.length),(3,.pv (iV (k:Int)))]) ([(0,0,qaa l)]) (.ret) ([(2,.pv (iV 32))]) ([]):=
 RunsL.stop [] 300 [.t true,Re hs1,.r (iV p.id),.r (iV q.id),.t true] (fun h=>by cases h)
  (Ro (Ai hlt (Ai hs1 (Ai hinj (Ai (qcg hj) (Ai hin (Ai (qcg hk) (Ai hc tI))))))))
theorem qk2 {l:List Pt} {k:Nat} (hlt:decide ((k:Int)<(l.length:Int))=false):Rl 1 1 52 0 22 1 ([(0,.ls 0 l.length),(3,.pv (iV (k:Int)))]) ([(0,0,qaa l)]) (.exit 0) ([]) ([]):=
 RunsL.stop [] 300 [.t false] (fun h=>by cases h)
  (Ro (Ai hlt tI))
theorem qrA {l:List Pt} (r0:Rl 1 1 52 0 22 1 ([(0,.ls 0 l.length),(3,.pv (iV ((1:Nat):Int)))]) ([(0,0,qaa l)]) (.ret) ([(2,.pv (iV 32))]) ([])) :
 Fn 52 1 [.ls 0 l.length] [(0,0,qaa l)] (.pv (iV (32))) 0 []:=
 Fz [] [Lf r0]
  tI (Lo r0 [] tI)
theorem qjO {l:List Pt} (r0:Rl 1 1 52 0 22 1 ([(0,.ls 0 l.length),(3,.pv (iV ((1:Nat):Int)))]) ([(0,0,qaa l)]) (.exit 0) ([]) ([])) :
 Fn 52 1 [.ls 0 l.length] [(0,0,qaa l)] (.pv (iV (0))) 0 []:=
 Fz [] [Lf r0]
  tI (Lo r0 [] tI)
abbrev qtv (g:List Int) (k:Nat) (l:List Pt) (y:Int):TmL:=[(0,.ls 0 l.length),(5,.pv (iV (y))),(9,.ls 1 g.length),(10,.pv (iV (g.length:Int))),(11,.pv (iV (k:Int)))]
theorem qq3 {y z:Int} {l:List Pt} {p:Pt} {g:List Int} {k:Nat} (hlt:decide ((k:Int)<(g.length:Int))=true) (hin:0≤(k:Int)∧(k:Int)<(g.length:Int)) (hg:g[k]?=some z) (hzi:0≤z∧z<(l.length:Int)) (hp:l[z.toNat]?=some p) (h1:decide (p.id≤y)=true):Rl 2 2 63 0 29 2 (qtv g k l y) ([(0,0,qaa l),(1,0,zrI g)]) (.ret) ([(4,.pv (.bool false))]) ([]):=
 RunsL.stop [] 300 [.t true,.r (iV z),.r (iV p.id),.t true] (fun h=>by cases h)
  (Ro (Ai hlt (Ai hin (Ai (qgd hg) (Ai hzi (Ai (qaG hp) (Ai h1 tI)))))))
theorem qte {y z:Int} {l:List Pt} {p:Pt} {g:List Int} {k:Nat} (hlt:decide ((k:Int)<(g.length:Int))=true) (hin:0≤(k:Int)∧(k:Int)<(g.length:Int)) (hg:g[k]?=some z) (hzi:0≤z∧z<(l.length:Int)) (hp:l[z.toNat]?=some p) (h1:decide (p.id≤y)=false) (h2:decide (p.id>65535)=true):Rl 2 2 63 0 29 2 (qtv g k l y) ([(0,0,qaa l),(1,0,zrI g)]) (.ret) ([(4,.pv (.bool false))]) ([]):=
 RunsL.stop [] 300 [.t true,.r (iV z),.r (iV p.id),.t false,.t true] (fun h=>by cases h)
  (Ro (Ai hlt (Ai hin (Ai (qgd hg) (Ai hzi (Ai (qaG hp) (Ai h1 (Ai h2 tI))))))))
theorem qlv {y z:Int} {l:List Pt} {p:Pt} {g:List Int} {k:Nat} (hlt:decide ((k:Int)<(g.length:Int))=true) (hin:0≤(k:Int)∧(k:Int)<(g.length:Int)) (hg:g[k]?=some z) (hzi:0≤z∧z<(l.length:Int)) (hp:l[z.toNat]?=some p) (h1:decide (p.id≤y)=false) (h2:decide (p.id>65535)=false) (hs:iV (IntKind.i64.wrap ((k:Int)+1))=iV (((k+1:Nat):Int))) {e:Exit} {tm2:TmL} {hp2:HpL}
 (r:Rl 2 2 63 0 29 2 ([(0,.ls 0 l.length),(5,.pv (iV (p.id))),(9,.ls 1 g.length),(10,.pv (iV (g.length:Int))),(11,.pv (iV ((k+1:Nat):Int)))]) ([(0,0,qaa l),(1,0,zrI g)]) e tm2 hp2):Rl 2 2 63 0 29 2 (qtv g k l y) ([(0,0,qaa l),(1,0,zrI g)]) e tm2 hp2:=
 RunsL.next [] 300 [.t true,.r (iV z),.r (iV p.id),.t false,.t false,Re hs]
  (Ro (Ai hlt (Ai hin (Ai (qgd hg) (Ai hzi (Ai (qaG hp) (Ai h1 (Ai h2 (Ai hs tI))))))))) r
theorem qpO {y:Int} {l:List Pt} {g:List Int} {k:Nat} (hlt:decide ((k:Int)<(g.length:Int))=false):Rl 2 2 63 0 29 2 (qtv g k l y) ([(0,0,qaa l),(1,0,zrI g)]) (.exit 0) ([]) ([]):=
 RunsL.stop [] 300 [.t false] (fun h=>by cases h)
  (Ro (Ai hlt tI))
abbrev qvu (g:List Int) (l:List Pt):TmL:=[(0,.ls 0 l.length),(5,.pv (iV (-1))),(9,.ls 1 g.length),(10,.pv (iV (g.length:Int))),(11,.pv (iV ((0:Nat):Int)))]
theorem qrm {l:List Pt} {g:List Int} (r0:Rl 2 2 63 0 29 2 (qvu g l) ([(0,0,qaa l),(1,0,zrI g)]) (.ret) ([(4,.pv (.bool false))]) ([])) :
 Fn 63 2 [.ls 0 l.length,.ls 1 g.length] [(0,0,qaa l),(1,0,zrI g)] (.pv (.bool false)) 0 []:=
 Fz [] [Lf r0]
  tI (Lo r0 [] tI)
theorem qoM {l:List Pt} {g:List Int} (r0:Rl 2 2 63 0 29 2 (qvu g l) ([(0,0,qaa l),(1,0,zrI g)]) (.exit 0) ([]) ([])) :
 Fn 63 2 [.ls 0 l.length,.ls 1 g.length] [(0,0,qaa l),(1,0,zrI g)] (.pv (.bool true)) 0 []:=
 Fz [] [Lf r0]
  tI (Lo r0 [] tI)
abbrev qu3 (k:Nat) (l:List Pt) (m:List Pt):TmL:=[(0,.ls 0 l.length),(1,.ls 1 m.length),(12,.pv (iV (l.length:Int))),(13,.pv (iV (k:Int)))]
theorem qlJ {l m:List Pt} {p q:Pt} {k:Nat} (hlt:decide ((k:Int)<(l.length:Int))=true) (hk:l[k]?=some p) (hin:0≤(k:Int)∧(k:Int)<(l.length:Int)) (hm:m[k]?=some q) (hin2:0≤(k:Int)∧(k:Int)<(m.length:Int)) (hne:(!((p.id==q.id)&&((p.a==q.a)&&((p.b==q.b)&&true))))=false) (hs:iV (IntKind.i64.wrap ((k:Int)+1))=iV (((k+1:Nat):Int))) {e:Exit} {tm2:TmL} {hp2:HpL}
 (r:Rl 2 2 87 0 26 2 ([(0,.ls 0 l.length),(1,.ls 1 m.length),(12,.pv (iV (l.length:Int))),(13,.pv (iV ((k+1:Nat):Int)))]) ([(0,0,qaa l),(1,0,qaa m)]) e tm2 hp2):Rl 2 2 87 0 26 2 (qu3 k l m) ([(0,0,qaa l),(1,0,qaa m)]) e tm2 hp2:=
 RunsL.next [] 300 [.t true,.r (ptV p),.r (ptV q),.t false,Re hs]
  (Ro (Ai hlt (Ai hin (Ai (qa1 hk) (Ai hin2 (Ai (qa1 hm) (Ai hne (Ai hs tI)))))))) r
theorem qpi {l m:List Pt} {p q:Pt} {k:Nat} (hlt:decide ((k:Int)<(l.length:Int))=true) (hk:l[k]?=some p) (hin:0≤(k:Int)∧(k:Int)<(l.length:Int)) (hm:m[k]?=some q) (hin2:0≤(k:Int)∧(k:Int)<(m.length:Int)) (hne:(!((p.id==q.id)&&((p.a==q.a)&&((p.b==q.b)&&true))))=true):Rl 2 2 87 0 26 2 (qu3 k l m) ([(0,0,qaa l),(1,0,qaa m)]) (.ret) ([(4,.pv (.bool false))]) ([]):=
 RunsL.stop [] 300 [.t true,.r (ptV p),.r (ptV q),.t true] (fun h=>by cases h)
  (Ro (Ai hlt (Ai hin (Ai (qa1 hk) (Ai hin2 (Ai (qa1 hm) (Ai hne tI)))))))
theorem qpZ {l m:List Pt} {k:Nat} (hlt:decide ((k:Int)<(l.length:Int))=false):Rl 2 2 87 0 26 2 (qu3 k l m) ([(0,0,qaa l),(1,0,qaa m)]) (.exit 0) ([]) ([]):=
 RunsL.stop [] 300 [.t false] (fun h=>by cases h)
  (Ro (Ai hlt tI))
theorem qoY {l m:List Pt} (hl:((l.length:Int) !=(m.length:Int))=true) :
 Fn 87 2 [.ls 0 l.length,.ls 1 m.length] [(0,0,qaa l),(1,0,qaa m)] (.pv (.bool false)) 0 []:=
 Fz [] [.t true]
  tI (Ai hl tI)
theorem qs7 {l m:List Pt} (hl:((l.length:Int) !=(m.length:Int))=false) (r0:Rl 2 2 87 0 26 2 ([(0,.ls 0 l.length),(1,.ls 1 m.length),(12,.pv (iV (l.length:Int))),(13,.pv (iV ((0:Nat):Int)))]) ([(0,0,qaa l),(1,0,qaa m)]) (.ret) ([(4,.pv (.bool false))]) ([])) :
 Fn 87 2 [.ls 0 l.length,.ls 1 m.length] [(0,0,qaa l),(1,0,qaa m)] (.pv (.bool false)) 0 []:=
 Fz [] [.t false,Lf r0]
  tI (Ai hl (Lo r0 [] tI))
theorem qqz {l m:List Pt} (hl:((l.length:Int) !=(m.length:Int))=false) (r0:Rl 2 2 87 0 26 2 ([(0,.ls 0 l.length),(1,.ls 1 m.length),(12,.pv (iV (l.length:Int))),(13,.pv (iV ((0:Nat):Int)))]) ([(0,0,qaa l),(1,0,qaa m)]) (.exit 0) ([]) ([])) :
 Fn 87 2 [.ls 0 l.length,.ls 1 m.length] [(0,0,qaa l),(1,0,qaa m)] (.pv (.bool true)) 0 []:=
 Fz [] [.t false,Lf r0]
  tI (Ai hl (Lo r0 [] tI))
theorem qmU {rt x:Int} {l m:List Pt} (hr:(rt==x)=false) :
 Fn 49 2 [trS 0 rt l,trS 1 x m] [(0,0,qaa l),(1,0,qaa m)] (.pv (.bool false)) 0 []:=
 Fz [] [.t false]
  tI (Ai hr tI)
theorem qsG {rt x:Int} {l m:List Pt} {w:Bool} (hr:(rt==x)=true) (hq:Fn 87 2 [.ls 0 l.length,.ls 1 m.length] [(0,0,qaa l),(1,0,qaa m)] (.pv (.bool w)) 0 []) :
 Fn 49 2 [trS 0 rt l,trS 1 x m] [(0,0,qaa l),(1,0,qaa m)] (.pv (.bool w)) 0 []:=
 Fz [] [.t true,Cf hq [0,1]]
  tI (Ai hr (Co hq [0,1] 4 tI))
theorem qnp {n:Nat} {xs:List Value} (h0:0<n) (hn:0+n≤1000000) :
 Fn 53 1 [.ls 0 n] [(0,0,.row 26 3 n xs)] (.ls 1 n) 1 [(1,0,.row 26 3 n xs)]:=
 Fx [(1,2)] [.t false]
  (qu5 n) (Ai (qoX 26 3 n xs) tI) (Ai h0 (Ai hn tI))
theorem qva {ad:Addr} {c:Nat} :
 Fn 53 0 [.pv (.slice (some ad) 0 c)] [] (.ls 0 0) 1 [(0,0,.row 26 3 0 [])]:=
 Fz [(0,1)] [.k]
  (qai (qaB [(0,1)]) [(0,0,.row 26 3 0 [])]) (Ai (Nat.zero_le _:0+0≤1000000) tI)
theorem qpT {c:Nat}:Pure Try.prog 53 #[.slice none 0 c] (.slice none 0 0):=
 qkp (args:=[.slice none 0 c]) 200 [] (Ai rfl tI) (by kernel_rfl)
theorem qt9 {z:Int} (h0:decide (z<0)=false) (hs:iV (IntKind.i64.wrap (z-0))=iV (z)) (hg:decide (z>0)=true) (a0:0≤z) (a1:z≤1000000) :
 Fn 92 0 [.pv (.slice none 0 0),.pv (iV (z))] [] (.ls 0 0) 1 [(0,0,.row 26 3 0 [])]:=
 Fz [(0,1)] [.t false,.k,Re hs,.t true,.w []]
  (qai (qaB [(0,1)]) [(0,0,.row 26 3 0 [])]) (Ai h0 (Ai hs (Ai hg (Ai a0 (Ai a1 (Ai (Int.le_refl (0:Int)) (Ai (Nat.zero_le z.toNat) tI)))))))
theorem qq4 {z:Int} (h0:decide (z<0)=false) (hs:iV (IntKind.i64.wrap (z-0))=iV (z)) (hg:decide (z>0)=false) :
 Fn 92 0 [.pv (.slice none 0 0),.pv (iV (z))] [] (.pv (.slice none 0 0)) 0 []:=
 Fz [] [.t false,.k,Re hs,.t false]
  tI (Ai h0 (Ai hs (Ai hg tI)))
theorem qvQ {l m:List Pt} (hq1:iV (IntKind.i64.wrap ((0:Int)+(l.length:Int)))=iV (l.length:Int)) (hm1:decide ((l.length:Int)<0)=false) (hq2:iV (IntKind.i64.wrap ((l.length:Int)+(m.length:Int)))=iV (((l.length+m.length:Nat):Int))) (hm2:decide (((l.length+m.length:Nat):Int)<0)=false) (hgr:Fn 92 0 [.pv (.slice none 0 0),.pv (iV (((l.length+m.length:Nat):Int)))] [] (.ls 0 0) 1 [(0,0,.row 26 3 0 [])]) (ha1:0+l.length≤1000000) (ha2:0+l.length+m.length≤1000000) :
 Fn 59 3 [.ps 2 0 2 2] [(2,0,.ls 0 l.length),(2,1,.ls 1 m.length),(0,0,qaa l),(1,0,qaa m)] (.ls 3 (0+l.length+m.length)) 1 [(3,0,.row 26 3 (0+l.length+m.length) ([]++qam l++qam m))]:=
 Fz [(3,5)] [.k,Re hq1,.t false,.k,.k,Re hq2,.t false,.k,.k,Cf hgr [],.k,.k,.k,.k,.k]
  (qai (qaB [(3,5)]) [(3,0,.row 26 3 (0+l.length+m.length) ([]++qam l++qam m))]) (Ai hq1 (Ai hm1 (Ai hq2 (Ai hm2 (Co hgr [] 3 (Ai ha1 (Ai ha2 tI)))))))
theorem quj {l m:List Pt} (hq1:iV (IntKind.i64.wrap ((0:Int)+(l.length:Int)))=iV (l.length:Int)) (hm1:decide ((l.length:Int)<0)=false) (hq2:iV (IntKind.i64.wrap ((l.length:Int)+(m.length:Int)))=iV (((l.length+m.length:Nat):Int))) (hm2:decide (((l.length+m.length:Nat):Int)<0)=false) (hgr:Fn 92 0 [.pv (.slice none 0 0),.pv (iV (((l.length+m.length:Nat):Int)))] [] (.pv (.slice none 0 0)) 0 []) (ha1:0+l.length≤1000000) (ha2:0+l.length+m.length≤1000000) :
 Fn 59 3 [.ps 2 0 2 2] [(2,0,.ls 0 l.length),(2,1,.ls 1 m.length),(0,0,qaa l),(1,0,qaa m)] (.ls 3 (0+l.length+m.length)) 1 [(3,0,.row 26 3 (0+l.length+m.length) ([]++qam l++qam m))]:=
 Fz [(3,4)] [.k,Re hq1,.t false,.k,.k,Re hq2,.t false,.k,.k,Cf hgr [],.k,.k,.k,.k,.k]
  (qai (qaB [(3,4)]) [(3,0,.row 26 3 (0+l.length+m.length) ([]++qam l++qam m))]) (Ai hq1 (Ai hm1 (Ai hq2 (Ai hm2 (Co hgr [] 3 (Ai ha1 (Ai ha2 tI)))))))
theorem qlW {x y v:Int} {l:List Pt} {p:Pt} {k n:Nat} {vs:List Value} (hlt:decide ((k:Int)<(l.length:Int))=true) (hk:l[k]?=some p) (hin:0≤(k:Int)∧(k:Int)<(l.length:Int)) (hn:n+1≤1000000) (ha:Pure Try.prog 57 #[iV (p.a),iV (v)] (iV (x))) (hb:Pure Try.prog 57 #[iV (p.b),iV (v)] (iV (y))) (hs:iV (IntKind.i64.wrap ((k:Int)+1))=iV (((k+1:Nat):Int))) {e:Exit} {tm2:TmL} {hp2:HpL}
 (r:Rl 1 1 58 0 30 2 ([(1,.pv (iV v)),(5,.ls 1 (n+1)),(8,.ls 0 l.length),(9,.pv (iV (l.length:Int))),(10,.pv (iV ((k+1:Nat):Int)))]) ([(0,0,qaa l),(1,0,.row 26 3 (n+1) (vs++[iV p.id,iV x,iV y]))]) e tm2 hp2):Rl 1 1 58 0 30 2 ([(1,.pv (iV v)),(5,.ls 1 n),(8,.ls 0 l.length),(9,.pv (iV (l.length:Int))),(10,.pv (iV (k:Int)))]) ([(0,0,qaa l),(1,0,.row 26 3 n (vs))]) e tm2 hp2:=
 RunsL.next [(1,4)] 300 [.t true,.r (ptV p),.md,Rf ha,Rf hb,Re hs]
  (Ro (Ai hlt (Ai hin (Ai (qa1 hk) (Ai ha (Ai hb (Ai hn (Ai hs tI)))))))) r
theorem qqq {v:Int} {l:List Pt} {k n:Nat} {vs:List Value} (hlt:decide ((k:Int)<(l.length:Int))=false):Rl 1 1 58 0 30 2 ([(1,.pv (iV v)),(5,.ls 1 n),(8,.ls 0 l.length),(9,.pv (iV (l.length:Int))),(10,.pv (iV (k:Int)))]) ([(0,0,qaa l),(1,0,.row 26 3 n (vs))]) (.exit 0) ([(5,.ls 1 n)]) ([(1,0,.row 26 3 n (vs))]):=
 RunsL.stop [] 300 [.t false] (fun h=>by cases h)
  (Ro (Ai hlt tI))
theorem qr9 {v:Int} {l:List Pt} {n:Nat} {vs:List Value} (r0:Rl 1 1 58 0 30 2 ([(1,.pv (iV v)),(5,.ls 1 0),(8,.ls 0 l.length),(9,.pv (iV (l.length:Int))),(10,.pv (iV ((0:Nat):Int)))]) ([(0,0,qaa l),(1,0,.row 26 3 0 ([]))]) (.exit 0) ([(5,.ls 1 n)]) ([(1,0,.row 26 3 n (vs))])) :
 Fn 58 1 [.ls 0 l.length,.pv (iV (v))] [(0,0,qaa l)] (.ls 1 n) 1 [(1,0,.row 26 3 n (vs))]:=
 Fz [] [.ln true 5 0 26 3,Lf r0]
  (qai (qaB []) [(1,0,.row 26 3 n (vs))]) (Lo r0 [] tI)
theorem qsS {a pa pb n:Int} (n1:(!(a==a))=false) (n2:(!(n==n))=false) (h1:decide (a<n)=true) :
 Pure Try.prog 90 #[qac a pa pb,iV n] (iV (-1)):=
 qae (args:=[qac a pa pb,iV n]) 300 [.k,.k,.t false,.k,.t false,.t true]
  (Ai rfl (Ai n1 (Ai n2 (Ai h1 tI)))) (by kernel_rfl)
theorem qsB {a pa pb n:Int} (n1:(!(a==a))=false) (n2:(!(n==n))=false) (h1:decide (a<n)=false) (h2:decide (a>n)=true) :
 Pure Try.prog 90 #[qac a pa pb,iV n] (iV (1)):=
 qae (args:=[qac a pa pb,iV n]) 300 [.k,.k,.t false,.k,.t false,.t false,.t true]
  (Ai rfl (Ai n1 (Ai n2 (Ai h1 (Ai h2 tI))))) (by kernel_rfl)
theorem qtj {a pa pb n:Int} (n1:(!(a==a))=false) (n2:(!(n==n))=false) (h1:decide (a<n)=false) (h2:decide (a>n)=false) :
 Pure Try.prog 90 #[qac a pa pb,iV n] (iV (0)):=
 qae (args:=[qac a pa pb,iV n]) 300 [.k,.k,.t false,.k,.t false,.t false,.t false]
  (Ai rfl (Ai n1 (Ai n2 (Ai h1 (Ai h2 tI))))) (by kernel_rfl)
abbrev qtP (i:Nat) (j:Nat) (l:List Pt) (n:Int):TmL:=[(0,.ls 0 l.length),(1,.pv (iV n)),(2,.pv (.func (.func 90) #[] #[])),(8,.pv (iV (l.length:Int))),(9,.pv (iV (i:Int))),(10,.pv (iV (j:Int)))]
abbrev qtu (c:Int) (n:Int) (p:Pt):Prop:=Pure Try.prog 90 #[qac p.id p.a p.b,iV n] (iV (c))
theorem qrz {l:List Pt} {i j h:Nat} {p:Pt} {c n:Int} (hk:l[h]?=some p) (hin:0≤(h:Int)∧(h:Int)<(l.length:Int)) (hlt:decide ((i:Int)<(j:Int))=true) (ha:iV (IntKind.i64.wrap ((i:Int)+(j:Int)))=iV ((i:Int)+(j:Int))) (hu:Value.int .u64 (IntKind.u64.wrap ((i:Int)+(j:Int)))=.int .u64 ((i:Int)+(j:Int))) (h1:¬ (1:Int)<0) (hs:Value.int .u64 (((i:Int)+(j:Int)).fdiv (2 ^ (min (1:Int).toNat IntKind.u64.bits)))=.int .u64 (h:Int)) (hb:iV (IntKind.i64.wrap (h:Int))=iV (h:Int)) (hc:qtu c n p) (hz:decide (c<0)=true) (hh:iV (IntKind.i64.wrap ((h:Int)+1))=iV (((h+1:Nat):Int))) {e:Exit} {tm2:TmL} {hp2:HpL}
 (r:Rl 1 1 89 0 49 1 ([(0,.ls 0 l.length),(1,.pv (iV n)),(2,.pv (.func (.func 90) #[] #[])),(8,.pv (iV (l.length:Int))),(9,.pv (iV ((h+1:Nat):Int))),(10,.pv (iV (j:Int)))]) ([(0,0,qaa l)]) e tm2 hp2):Rl 1 1 89 0 49 1 (qtP i j l n) ([(0,0,qaa l)]) e tm2 hp2:=
 RunsL.next [] 300 [.t true,Re ha,Re hu,.r (.int .u64 (h:Int)),Re hb,.r (ptV p),Rf hc,.t true,Re hh]
  (Ro (Ai hlt (Ai ha (Ai hu (Ai h1 (Ai hs (Ai hb (Ai hin (Ai (qa1 hk) (Ai hc (Ai hz (Ai hh tI)))))))))))) r
theorem qrx {l:List Pt} {i j h:Nat} {p:Pt} {c n:Int} (hk:l[h]?=some p) (hin:0≤(h:Int)∧(h:Int)<(l.length:Int)) (hlt:decide ((i:Int)<(j:Int))=true) (ha:iV (IntKind.i64.wrap ((i:Int)+(j:Int)))=iV ((i:Int)+(j:Int))) (hu:Value.int .u64 (IntKind.u64.wrap ((i:Int)+(j:Int)))=.int .u64 ((i:Int)+(j:Int))) (h1:¬ (1:Int)<0) (hs:Value.int .u64 (((i:Int)+(j:Int)).fdiv (2 ^ (min (1:Int).toNat IntKind.u64.bits)))=.int .u64 (h:Int)) (hb:iV (IntKind.i64.wrap (h:Int))=iV (h:Int)) (hc:qtu c n p) (hz:decide (c<0)=false) {e:Exit} {tm2:TmL} {hp2:HpL}
 (r:Rl 1 1 89 0 49 1 ([(0,.ls 0 l.length),(1,.pv (iV n)),(2,.pv (.func (.func 90) #[] #[])),(8,.pv (iV (l.length:Int))),(9,.pv (iV (i:Int))),(10,.pv (iV (h:Int)))]) ([(0,0,qaa l)]) e tm2 hp2):Rl 1 1 89 0 49 1 (qtP i j l n) ([(0,0,qaa l)]) e tm2 hp2:=
 RunsL.next [] 300 [.t true,Re ha,Re hu,.r (.int .u64 (h:Int)),Re hb,.r (ptV p),Rf hc,.t false]
  (Ro (Ai hlt (Ai ha (Ai hu (Ai h1 (Ai hs (Ai hb (Ai hin (Ai (qa1 hk) (Ai hc (Ai hz tI))))))))))) r
theorem qjg {l:List Pt} {i j:Nat} {n:Int} (hge:decide ((i:Int)<(j:Int))=false):Rl 1 1 89 0 49 1 (qtP i j l n) ([(0,0,qaa l)]) (.exit 0) (qtP i j l n) ([(0,0,qaa l)]):=
 RunsL.stop [] 300 [.t false] (fun h=>by cases h)
  (Ro (Ai hge tI))
abbrev qu9 (k:Nat) (l:List Pt) (n:Int):Prop:=Rl 1 1 89 0 49 1 ([(0,.ls 0 l.length),(1,.pv (iV n)),(2,.pv (.func (.func 90) #[] #[])),(8,.pv (iV (l.length:Int))),(9,.pv (iV ((0:Nat):Int))),(10,.pv (iV (l.length:Int)))]) ([(0,0,qaa l)]) (.exit 0) ([(0,.ls 0 l.length),(1,.pv (iV n)),(2,.pv (.func (.func 90) #[] #[])),(8,.pv (iV (l.length:Int))),(9,.pv (iV (k:Int))),(10,.pv (iV (k:Int)))]) ([(0,0,qaa l)])
theorem qpc {l:List Pt} {k:Nat} {n:Int} (r0:qu9 k l n) (hge:decide ((k:Int)<(l.length:Int))=false) :
 Fn 89 1 [.ls 0 l.length,.pv (iV (n)),.pv (.func (.func 90) #[] #[])] [(0,0,qaa l)] (.pv (.tuple #[iV (k:Int),.bool false])) 0 []:=
 Fz [] [Lf r0,.t false]
  tI (Lo r0 [] (Ai hge tI))
theorem qqk {l:List Pt} {k:Nat} {p:Pt} {c:Int} {n:Int} (r0:qu9 k l n) (hk:l[k]?=some p) (hin:0≤(k:Int)∧(k:Int)<(l.length:Int)) (hlt:decide ((k:Int)<(l.length:Int))=true) (hc:qtu c n p) (hz:(c==0)=true) :
 Fn 89 1 [.ls 0 l.length,.pv (iV (n)),.pv (.func (.func 90) #[] #[])] [(0,0,qaa l)] (.pv (.tuple #[iV (k:Int),.bool true])) 0 []:=
 Fz [] [Lf r0,.t true,.r (ptV p),Rf hc,.t true]
  tI (Lo r0 [] (Ai hlt (Ai hin (Ai (qa1 hk) (Ai hc (Ai hz tI))))))
theorem qqU {l:List Pt} {k:Nat} {p:Pt} {c:Int} {n:Int} (r0:qu9 k l n) (hk:l[k]?=some p) (hin:0≤(k:Int)∧(k:Int)<(l.length:Int)) (hlt:decide ((k:Int)<(l.length:Int))=true) (hc:qtu c n p) (hz:(c==0)=false) :
 Fn 89 1 [.ls 0 l.length,.pv (iV (n)),.pv (.func (.func 90) #[] #[])] [(0,0,qaa l)] (.pv (.tuple #[iV (k:Int),.bool false])) 0 []:=
 Fz [] [Lf r0,.t true,.r (ptV p),Rf hc,.t false]
  tI (Lo r0 [] (Ai hlt (Ai hin (Ai (qa1 hk) (Ai hc (Ai hz tI))))))
theorem ele {l:List Pt} {k:Nat} {n:Int} {w:Bool} (hb:Fn 89 1 [.ls 0 l.length,.pv (iV (n)),.pv (.func (.func 90) #[] #[])] [(0,0,qaa l)] (.pv (.tuple #[iV (k:Int),.bool w])) 0 []) :
 Fn 55 1 [.ls 0 l.length,.pv (iV (n))] [(0,0,qaa l)] (.pv (iV (k:Int))) 0 []:=
 Fz [] [Cf hb [0]]
  tI (Co hb [0] 1 tI)
end Go.Proofs.Ytalnjplghagbpaa

namespace Go.Proofs.Ytalnjplghagbpaa
set_option maxRecDepth 100000
open Go.RowKit
open Classical in
noncomputable def chE (x:Tr):Int:=if 64<x.n.length then 4 else if VT x then 0 else 8
theorem qdw {x:Tr} (h:64<x.n.length):chE x=4:=by unfold chE;rw[if_pos h]
theorem qcm {x:Tr} (h:¬ 64<x.n.length) (k:¬ VT x):chE x=8:=by unfold chE;rw[if_neg h,if_neg k]
theorem qdC {x:Tr} (k:VT x):chE x=0:=by unfold chE;rw[if_neg (by have:=k.len;omega),if_pos k]
theorem qkk {x:Tr}:chE x=0↔VT x:=by
 refine⟨fun h=>?_,qdC⟩
 apply Classical.byContradiction
 intro k
 by_cases hm:64<x.n.length
 ·rw[qdw hm] at h;cases h
 ·rw[qcm hm k] at h;cases h
theorem qgJ {α:Type} {f:α→Int}:∀ {L:List α},(∀ j p q,L[j]?=some p→L[j+1]?=some q→f p<f q)→(L.map f).Pairwise (· < ·)
 | [],_=>.nil
 | [_],_=>by simp
 | a::b::r,h=>by
  have ih:=qgJ (L:=b::r) fun j p q hp hq=>h (j+1) p q (by simpa using hp) (by simpa using hq)
  rw[List.map_cons,List.pairwise_cons]
  refine⟨fun y hy=>?_,ih⟩
  have hab:=h 0 a b rfl rfl
  rw[List.map_cons] at hy ih
  rcases List.mem_cons.1 hy with rfl | hy
  ·exact hab
  ·exact Int.lt_trans hab ((List.pairwise_cons.1 ih).1 y hy)
theorem qgw {α:Type} {f:α→Int} {L:List α} (h:(L.map f).Pairwise (· < ·)) {j:Nat} {p q:α} (hp:L[j]?=some p) (hq:L[j+1]?=some q):f p<f q:=by
 have h1:=qak hq
 have:=List.pairwise_iff_getElem.1 h j (j+1) (by rw[List.length_map];omega) (by rw[List.length_map];omega) (by omega)
 rw[List.getElem_map,List.getElem_map] at this
 rw[List.getElem?_eq_getElem (by omega)] at hp hq
 cases hp
 cases hq
 exact this
section
variable {rt:Int} {l:List Pt}
abbrev qtM (k:Nat):List (Nat×SV):=[(1,.pp 1 0),(3,.pv (iV (k:Int)))]
abbrev qto (rt:Int) (l:List Pt):List (Nat×Nat×SV):=[(1,0,.pv (iV rt)),(1,1,.ls 0 l.length),(0,0,qaa l)]
abbrev qtz (g:List Int) (k:Nat):List (Nat×SV):=[(1,.pp 1 0),(5,.ls 2 g.length),(6,.pv (iV (k:Int)))]
abbrev qtO (rt:Int) (l:List Pt) (g:List Int):List (Nat×Nat×SV):=[(1,0,.pv (iV rt)),(1,1,.ls 0 l.length),(0,0,qaa l),(2,0,zrI g)]
def GdN (l:List Pt) (p:Pt):Prop:=(-1≤p.a∧p.a<(l.length:Int))∧(-1≤p.b∧p.b<(l.length:Int))∧0≤p.id∧p.id≤65535
theorem ckb {k:Nat} {p:Pt} (hp:l[k]?=some p) (hb:¬ GdN l p):Rl 1 1 34 0 96 2 (qtM k) (qto rt l) .ret [(2,.pv (iV 8))] []:=by
 have hkl:=qak hp
 have ha:=qjo (rt:=rt) (l:=l) p.a
 have hbl:=qjo (rt:=rt) (l:=l) p.b
 by_cases c1 : -1≤p.a∧p.a<(l.length:Int)
 ·rw[qd8 c1] at ha
  by_cases c2 : -1≤p.b∧p.b<(l.length:Int)
  ·rw[qd8 c2] at hbl
   by_cases c3:0≤p.id
   ·have c4:65535<p.id:=by
     apply Classical.byContradiction
     intro h
     exact hb ⟨c1,c2,c3,by omega⟩
    exact qs8 (hlt:=dt (by omega)) (hk:=hp) (hin:=⟨by omega,by omega⟩) (ha:=ha) (hb:=hbl) (h1:=df (by omega)) (h2:=dt (by omega))
   ·exact qsZ (hlt:=dt (by omega)) (hk:=hp) (hin:=⟨by omega,by omega⟩) (ha:=ha) (hb:=hbl) (h1:=dt (by omega))
  ·rw[qdn c2] at hbl
   exact qr6 (hlt:=dt (by omega)) (hk:=hp) (hin:=⟨by omega,by omega⟩) (ha:=ha) (hb:=hbl)
 ·rw[qdn c1] at ha
  exact qrG (hlt:=dt (by omega)) (hk:=hp) (hin:=⟨by omega,by omega⟩) (ha:=ha)
theorem cks (hl:l.length≤999999) {m:Nat} (hm:m≤l.length) (hg:∀ k,k<m→∀ p,l[k]?=some p→GdN l p) {e:Exit} {tm2:TmL} {hp2:HpL}
 (r:Rl 1 1 34 0 96 2 (qtM m) (qto rt l) e tm2 hp2):Rl 1 1 34 0 96 2 (qtM 0) (qto rt l) e tm2 hp2:=
 RunsL.roundsZ (fun k=>qtM k) (fun _=>qto rt l) (N:=m) m 0 (Nat.zero_add _) (fun k _ hk r=>by
  obtain⟨p,hp⟩:=qao (l:=l) (k:=k) (by omega)
  obtain⟨c1,c2,c3,c4⟩:=hg k hk p hp
  have ha:=qjo (rt:=rt) (l:=l) p.a
  have hb:=qjo (rt:=rt) (l:=l) p.b
  rw[qd8 c1] at ha
  rw[qd8 c2] at hb
  exact qlm (hlt:=dt (by omega)) (hk:=hp) (hin:=⟨by omega,by omega⟩) (ha:=ha) (hb:=hb) (h1:=df (by omega)) (h2:=df (by omega)) (hs:=qah (by omega)) r) r
theorem qst (hl:l.length≤999999):Fn 34 1 [trS 0 rt l] [(0,0,qaa l)] (.pv (iV (chE ⟨rt,l⟩))) 0 []:=by
 by_cases hm:64<l.length
 ·rw[qdw (x:=⟨rt,l⟩) hm];exact qnv (hm:=dt (by omega))
 have hm':decide ((l.length:Int)>64)=false:=df (by omega)
 have no:¬ VT ⟨rt,l⟩→chE ⟨rt,l⟩=8:=qcm hm
 have hL:=qjo (rt:=rt) (l:=l) rt
 by_cases hr : -1≤rt∧rt<(l.length:Int)
 rotate_left
 ·rw[no fun ⟨_,_,T,hT⟩=>hr hT.root.1]
  rw[qdn hr] at hL
  exact qlz (hm:=hm') (hl:=hL)
 rw[qd8 hr] at hL
 by_cases hre:rt = -1↔l.length=0
 rotate_left
 ·rw[no fun ⟨_,_,T,hT⟩=>hre hT.root.2]
  by_cases h1:rt = -1
  ·exact qka (hm:=hm') (hl:=hL) (hr:=beq_iff_eq.2 h1) (h0:=beq_eq_false_iff_ne.2 (by omega))
  ·exact qiW (hm:=hm') (hl:=hL) (hr:=beq_eq_false_iff_ne.2 h1) (h0:=beq_iff_eq.2 (by omega))
 have he:(rt==(-1))=true∧((l.length:Int)==0)=true∨(rt==(-1))=false∧((l.length:Int)==0)=false:=by
  by_cases h1:rt = -1
  ·exact Or.inl ⟨beq_iff_eq.2 h1,beq_iff_eq.2 (by omega)⟩
  ·exact Or.inr ⟨beq_eq_false_iff_ne.2 h1,beq_eq_false_iff_ne.2 (by omega)⟩
 rcases qaT (fun k=>∀ p,l[k]?=some p→GdN l p) l.length with hg | ⟨k,hk,hb,hg⟩
 rotate_left
 ·simp only[Classical.not_forall] at hb
  obtain⟨p,hp,hb⟩:=hb
  rw[no fun ⟨_,hrng,T,hT⟩=>hb ⟨(hT.lnk p (List.mem_of_getElem? hp)).1,(hT.lnk p (List.mem_of_getElem? hp)).2,hrng p (List.mem_of_getElem? hp)⟩]
  have r:=cks (rt:=rt) hl (Nat.le_of_lt hk) hg (ckb hp hb)
  rcases he with ⟨e1,e2⟩ | ⟨e1,e2⟩
  ·exact qm0 (hm:=hm') (hl:=hL) (hr:=e1) (h0:=e2) (r0:=r)
  ·exact qmn (hm:=hm') (hl:=hL) (hr:=e1) (h0:=e2) (r0:=r)
 have hgd:∀ p∈l,GdN l p:=fun p hp=>by
  obtain⟨k,hk⟩:=List.getElem?_of_mem hp
  exact hg k (qak hk) p hk
 have hLn:Lnk ⟨rt,l⟩:=fun p hp=>⟨(hgd p hp).1,(hgd p hp).2.1⟩
 have r0:=cks (rt:=rt) hl (Nat.le_refl _) hg (qqu (rt:=rt) (l:=l) (k:=l.length) (hlt:=df (by omega)))
 have ho:=qtZ (rt:=rt) hLn (by omega)
 by_cases h1:One ⟨rt,l⟩
 rotate_left
 ·rw[no fun ⟨_,_,T,hT⟩=>h1 hT.one]
  rw[qdn h1] at ho
  rcases he with ⟨e1,e2⟩ | ⟨e1,e2⟩
  ·exact qjn (hm:=hm') (hl:=hL) (hr:=e1) (h0:=e2) (r0:=r0) (ho:=ho)
  ·exact qki (hm:=hm') (hl:=hL) (hr:=e1) (h0:=e2) (r0:=r0) (ho:=ho)
 rw[qd8 h1] at ho
 obtain⟨T,hT⟩:=One.tree h1 hLn hr
 have hT:Rep l rt T:=hT
 have hnd:T.list.Nodup:=Rep.nodup h1 hT
 have hTl:T.list.length≤l.length:=by
  have:=hnd.length_le_of_subset (l₂:=List.range l.length) fun v hv=>List.mem_range.2 (hT.lt v hv)
  rwa [List.length_range] at this
 have hre2:=qra hl hT hTl
 by_cases hall:T.list.length=l.length
 rotate_left
 ·rw[no fun ⟨_,_,T',hT'⟩=>hall (by rw[hT.uniq hT'.rep];exact hT'.all)]
  rw[decide_eq_false hall] at hre2
  rcases he with ⟨e1,e2⟩ | ⟨e1,e2⟩
  ·exact qiV (hm:=hm') (hl:=hL) (hr:=e1) (h0:=e2) (r0:=r0) (ho:=ho) (hrc:=hre2)
  ·exact qib (hm:=hm') (hl:=hL) (hr:=e1) (h0:=e2) (r0:=r0) (ho:=ho) (hrc:=hre2)
 rw[decide_eq_true hall] at hre2
 have hw:=qol hl hT hTl
 have hwl:=qco T
 have at2:∀ j,j<T.list.length→∃ k p,T.list[j]?=some k∧l[k]?=some p∧k<l.length:=fun j hj=>by
  have hk:=List.getElem?_eq_getElem hj
  have hkl:=hT.lt _ (List.mem_of_getElem? hk)
  exact⟨_,_,hk,qat hkl,hkl⟩
 have step:∀ m,1≤m→m≤T.list.length→(∀ j,1≤j→j<m→∀ a b,T.list[j-1]?=some a→T.list[j]?=some b→idN l a<idN l b)→∀ {e:Exit} {tm2:TmL} {hp2:HpL},
  Rl 1 1 34 1 96 3 (qtz (wL T) m) (qtO rt l (wL T)) e tm2 hp2→Rl 1 1 34 1 96 3 (qtz (wL T) 1) (qtO rt l (wL T)) e tm2 hp2:=by
  intro m h1 hm2 hlt e tm2 hp2 r
  refine RunsL.roundsZ (fun k=>qtz (wL T) k) (fun _=>qtO rt l (wL T)) (N:=m) (m-1) 1 (by omega) (fun k k1 k2 r=>?_) r
  obtain⟨u,p,hu,hp,hul⟩:=at2 (k-1) (by omega)
  obtain⟨v,q,hv,hq,hvl⟩:=at2 k (by omega)
  have:=hlt k k1 k2 u v hu hv
  rw[qaz hp,qaz hq] at this
  exact qky (j:=k-1) (hlt:=dt (by omega)) (hs1:=by rw[qij (by omega) (by omega)];congr 1;omega) (hji:=⟨by omega,by omega⟩) (hgj:=qd1 hu) (hyi:=⟨by omega,by omega⟩) (hp:=hp) (hki:=⟨by omega,by omega⟩) (hgk:=qd1 hv) (hzi:=⟨by omega,by omega⟩) (hq:=hq) (hc:=df (by omega)) (hs:=qah (by omega)) r
 rcases qaT (fun k=>1≤k→∀ a b,T.list[k-1]?=some a→T.list[k]?=some b→idN l a<idN l b) T.list.length with h | ⟨k,hk,hb,hf⟩
 ·have hup:(T.list.map (idN l)).Pairwise (· < ·):=qgJ fun j p q hp hq=>h (j+1) (qak hq) (by omega) p q hp hq
  rw[qdC (x:=⟨rt,l⟩) ⟨by show l.length≤64;omega,fun p hp=>(hgd p hp).2.2,T,hT,hall,hup⟩]
  have r1:Rl 1 1 34 1 96 3 (qtz (wL T) 1) (qtO rt l (wL T)) (.exit 2) [] []:=by
   rcases Nat.eq_zero_or_pos T.list.length with h0 | h0
   ·exact qhv (hlt:=df (by omega))
   ·exact step T.list.length h0 (Nat.le_refl _) (fun j j1 j2=>h j j2 j1) (qhv (hlt:=df (by omega)))
  rcases he with ⟨e1,e2⟩ | ⟨e1,e2⟩
  ·exact qoG (hm:=hm') (hl:=hL) (hr:=e1) (h0:=e2) (r0:=r0) (ho:=ho) (hrc:=hre2) (hw:=hw) (r1:=r1)
  ·exact qph (hm:=hm') (hl:=hL) (hr:=e1) (h0:=e2) (r0:=r0) (ho:=ho) (hrc:=hre2) (hw:=hw) (r1:=r1)
 ·simp only[Classical.not_forall] at hb
  obtain⟨k1,a,b,ha,hb,hlt⟩:=hb
  rw[no fun ⟨_,_,T',hT'⟩=>hlt (by
   have e:=hT.uniq hT'.rep
   subst e
   exact qgw hT'.up ha (by rw[show k-1+1=k by omega];exact hb))]
  obtain⟨u,p,hu,hp,hul⟩:=at2 (k-1) (by omega)
  obtain⟨v,q,hv,hq,hvl⟩:=at2 k (by omega)
  rw[ha] at hu
  rw[hb] at hv
  cases hu
  cases hv
  rw[qaz hp,qaz hq] at hlt
  have r1:=step k k1 (by omega) (fun j j1 j2=>hf j j2 j1) (qlP (j:=k-1) (hlt:=dt (by omega)) (hs1:=by rw[qij (by omega) (by omega)];congr 1;omega) (hji:=⟨by omega,by omega⟩) (hgj:=qd1 ha) (hyi:=⟨by omega,by omega⟩) (hp:=hp) (hki:=⟨by omega,by omega⟩) (hgk:=qd1 hb) (hzi:=⟨by omega,by omega⟩) (hq:=hq) (hc:=dt (by omega)))
  rcases he with ⟨e1,e2⟩ | ⟨e1,e2⟩
  ·exact qlR (hm:=hm') (hl:=hL) (hr:=e1) (h0:=e2) (r0:=r0) (ho:=ho) (hrc:=hre2) (hw:=hw) (r1:=r1)
  ·exact qlY (hm:=hm') (hl:=hL) (hr:=e1) (h0:=e2) (r0:=r0) (ho:=ho) (hrc:=hre2) (hw:=hw) (r1:=r1)
end
end Go.Proofs.Ytalnjplghagbpaa
