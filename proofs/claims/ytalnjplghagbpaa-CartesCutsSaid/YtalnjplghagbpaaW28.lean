/-
  Joined: Ul, Da, Db, Ea, Eb. Conditions: none.
-/
import Derived.Test.YtalnjplghagbpaaW27
import Derived.Test.YtalnjplghagbpaaW19
import Derived.Test.YtalnjplghagbpaaSxJ
namespace Go.Proofs.Ytalnjplghagbpaa
set_option maxRecDepth 100000
open Go.RowKit
open Classical in
noncomputable def shC (l:List Pt) (i:Int):Sh Nat:=if h:∃ A,Rep l i A then h.choose else .nil
theorem qd9 {l:List Pt} {i:Int} {A:Sh Nat} (h:Rep l i A):shC l i=A:=by
 have hex:∃ A,Rep l i A:=⟨A,h⟩
 unfold shC
 rw[dif_pos hex]
 exact hex.choose_spec.uniq h
theorem Rep.sub {n:List Pt}:∀ {T:Sh Nat} {i:Int},Rep n i T→∀ k∈T.list,∃ A B,Rep n (ndT n k).a A∧Rep n (ndT n k).b B
 | .nil,_,_,k,h=>by cases h
 | .node l y r,i,⟨_,p,hp,a1,a2⟩,k,h=>by
  rcases List.mem_append.1 h with h | h
  ·exact a1.sub k h
  ·rcases List.mem_cons.1 h with rfl | h
   ·have e:ndT n k=p:=by
     have:=qas (n:=n) (k:=k) (List.getElem?_eq_some_iff.1 hp).1
     rw[hp] at this
     exact (Option.some.inj this).symm
    rw[e]
    exact⟨l,r,a1,a2⟩
   ·exact a2.sub k h
noncomputable def ptN (l:List Pt) (n j k:Nat):Pt:=⟨(ndT l k).id,shI n (rtI (res n j (shC l (ndT l k).a))),shI n (rtI (res n j (shC l (ndT l k).b)))⟩
noncomputable def ptL (l:List Pt) (n j k:Nat):List Pt:=(List.range' n (k-n)).map (ptN l n j)
theorem qmA {l:List Pt} {n j k:Nat} (h:n≤k):ptL l n j (k+1)=ptL l n j k++[ptN l n j k]:=by
 unfold ptL
 rw[show k+1-n=(k-n)+1 by omega,List.range'_concat,List.map_append]
 rw[show n+1*(k-n)=k by omega]
 rfl
theorem qei {l:List Pt} {n j k:Nat}:(ptL l n j k).length=k-n:=by unfold ptL;rw[List.length_map,List.length_range']
theorem qnk {l:List Pt} {n j k:Nat} (h1:n≤k) (h2:k<j):(ptL l n j j)[k-n]?=some (ptN l n j k):=by
 unfold ptL
 rw[List.getElem?_map,List.getElem?_range' (by omega)]
 simp only[Option.map_some]
 rw[show n+1*(k-n)=k by omega]
section
variable {rt:Int} {l:List Pt}
theorem qjp {lo:Nat} {i:Int} (h : -1≤i) (h2:i≤1000000) (h3:lo≤1000000):Pure Try.prog 97 #[iV i,iV (lo:Int)] (iV (shI lo i)):=by
 unfold shI
 by_cases h0:i<0
 ·rw[if_pos h0];exact qro (h:=dt h0)
 ·rw[if_neg h0];exact qnT (h:=df h0) (hs:=qeA (by omega) (by omega))
theorem qbU {lo hi:Nat} {T:Sh Nat} (hT:∀ k∈T.list,k<l.length) (hn:l.length≤1000000) : -1≤rtI (res lo hi T)∧rtI (res lo hi T)≤1000000:=by
 cases e:res lo hi T with
 | nil=>exact⟨Int.le_refl _,by decide⟩
 | node a k b=>
  have:k∈(res lo hi T).list:=by rw[e];exact List.mem_append_right _ List.mem_cons_self
  have:=hT k (qdp this).1
  exact⟨by show (-1:Int)≤(k:Int);omega,by show (k:Int)≤1000000;omega⟩
theorem qqD {T:Sh Nat} (h:Fits ⟨rt,l⟩ T) (hn:l.length≤1000000) {n j:Nat} (h1:n≤j) (h2:j≤l.length):Fn 74 1 [trS 0 rt l,.pv (iV (n:Int)),.pv (iV (j:Int))] [(0,0,qaa l)]
 (trS 1 (shI n (rtI (res n j T))) (ptL l n j j)) 1 [(1,0,qaa (ptL l n j j))]:=by
 have hrep:Rep l rt T:=h.rep
 have hlt:=hrep.lt
 have g0:=qbU (lo:=n) (hi:=j) hlt hn
 have last:=qpc (rt:=rt) (l:=l) (y:=shI n (rtI (res n j T))) (m:=ptL l n j j) (n:=n) (j:=j) (k:=j) (hlt:=df (by omega))
 have base:ptL l n j n=[]:=by unfold ptL;rw[Nat.sub_self];rfl
 have run:=RunsL.rounds (fun k=>[(1,.pv (iV (n:Int))),(2,.pv (iV (j:Int))),(3,.pp 1 0),(6,.pp 2 0),(7,.pp 3 0),(8,.pv (iV (k:Int)))])
  (fun k=>[(1,0,.pv (iV rt)),(1,1,.ls 0 l.length),(2,0,.pv (iV 0)),(2,1,.pv (.slice none 0 0)),(3,0,.pv (iV (shI n (rtI (res n j T))))),(3,1,.ls 4 (ptL l n j k).length),(0,0,qaa l),(4,0,qaa (ptL l n j k))]) (N:=j) (j-n) n (by omega) (fun k k1 k2 r=>by
   have hkl:k<l.length:=by omega
   have hp:=qas (n:=l) hkl
   obtain⟨A,B,hA,hB⟩:=hrep.sub k ((h.mem k).2 hkl)
   have gA:=qbU (lo:=n) (hi:=j) hA.lt hn
   have gB:=qbU (lo:=n) (hi:=j) hB.lt hn
   have eq:ptN l n j k=⟨(ndT l k).id,shI n (rtI (res n j A)),shI n (rtI (res n j B))⟩:=by unfold ptN;rw[qd9 hA,qd9 hB]
   rw[qmA k1,eq] at r
   exact qkL (hlt:=dt (by omega)) (hk:=hp) (hin:=⟨by omega,by omega⟩) (hi1:=qfP n j hA) (hs1:=qjp gA.1 gA.2 (by omega)) (hi2:=qfP n j hB) (hs2:=qjp gB.1 gB.2 (by omega)) (hm:=by rw[qei];omega) (hs:=qau (by omega)) r) last
 rw[base] at run
 exact qli (hi0:=qfP n j hrep) (hs0:=qjp g0.1 g0.2 (by omega)) (r0:=run)
end
end Go.Proofs.Ytalnjplghagbpaa

namespace Go.Proofs.Ytalnjplghagbpaa
set_option maxRecDepth 100000
open Go.RowKit
theorem qcB {rt z:Int} {l:List Pt} {n:Nat} {vs:List Value} (h0:decide (z<0)=true) :
 FnO Try.prog 96 1 2 [trS 0 rt l,.pv (iV (z)),.ls 1 n] [(0,0,qaa l),(1,0,.row 3 1 n (vs))] (.ls 1 n) 0 [(1,0,.row 3 1 n (vs))]:=
 qaA 300 [] [.t true]
  (qaj (qaB []) [(1,0,.row 3 1 n (vs))]) (Ai h0 tI) (by kernel_rfl)
theorem qfS {rt z:Int} {l:List Pt} (h0:decide (z<0)=true) :
 Fn 96 1 [trS 0 rt l,.pv (iV (z)),.pv (.slice none 0 0)] [(0,0,qaa l)] (.pv (.slice none 0 0)) 0 []:=
 Fz [] [.t true]
  tI (Ai h0 tI)
abbrev qij (c1:List Int) (l:List Pt) (z:Int):HpL:=[(0,0,qaa l),(1,0,.row 3 1 (c1.length+1) (ziV c1++[iV z]))]
theorem qq0 {rt z:Int} {l:List Pt} {p:Pt} {g c1 c2:List Int} (h0:decide (z<0)=false) (h1:decide (((g.length:Int):Int)>(l.length:Int))=false) (hk:l[z.toNat]?=some p) (hin:0≤z∧z<(l.length:Int)) (hl:FnO Try.prog 96 1 2 [trS 0 rt l,.pv (iV (p.a)),.ls 1 g.length] [(0,0,qaa l),(1,0,.row 3 1 g.length (ziV g))] (.ls 2 c1.length) 1 [(2,0,zrI c1)]) (hn:c1.length+1≤1000000) (hr:FnO Try.prog 96 1 2 [trS 0 rt l,.pv (iV (p.b)),.ls 1 (c1.length+1)] (qij c1 l z) (.ls 2 c2.length) 1 [(2,0,zrI c2)]) :
 FnO Try.prog 96 1 2 [trS 0 rt l,.pv (iV (z)),.ls 1 g.length] [(0,0,qaa l),(1,0,zrI g)] (.ls 2 c2.length) 1 [(2,0,.row 3 1 c2.length (ziV c2))]:=
 qaA 300 [(2,6)] [.t false,.t false,.gh [(2,0),(2,1)],.r (iV p.a),.fo 1 [0,1] [trS 0 rt l,.pv (iV (p.a)),.ls 1 g.length] [(0,0,qaa l),(1,0,.row 3 1 g.length (ziV g))] (.ls 2 c1.length) 1 [(2,0,zrI c1)],.gh [(2,0),(2,1)],.r (iV p.b),.fo 1 [0,5] [trS 0 rt l,.pv (iV (p.b)),.ls 1 (c1.length+1)] (qij c1 l z) (.ls 2 c2.length) 1 [(2,0,zrI c2)]]
  (qaj (qaB [(2,6)]) [(2,0,.row 3 1 c2.length (ziV c2))]) (Ai h0 (Ai h1 (Ai (Er (SV.pv (iV rt))) (Ai (Er (SV.ls 0 l.length)) (Ai hin (Ai (Er (SV.pv (iV rt))) (Ai (Er (SV.ls 0 l.length)) (Ai (Er (SV.pv (iV rt))) (Ai (Er (SV.ls 0 l.length)) (Ai (qbI hk) (Ai (Er (SV.pv (iV rt))) (Ai (Er (SV.ls 0 l.length)) (Ai hl (Ai (Eq.refl (List.map (SV.ren (qaq [0,1] 3)) [trS 0 rt l,.pv (iV (p.a)),.ls 1 g.length])) (Ai (qaj (qaq [0,1] 3) [(0,0,qaa l),(1,0,.row 3 1 g.length (ziV g))]) (Ai (Er (SV.pv (iV rt))) (Ai (Er (SV.ls 0 l.length)) (Ai (Er (SV.pv (iV rt))) (Ai (Er (SV.ls 0 l.length)) (Ai hn (Ai (Er (SV.pv (iV rt))) (Ai (Er (SV.ls 0 l.length)) (Ai hin (Ai (Er (SV.pv (iV rt))) (Ai (Er (SV.ls 0 l.length)) (Ai (Er (SV.pv (iV rt))) (Ai (Er (SV.ls 0 l.length)) (Ai (qbP hk) (Ai (Er (SV.pv (iV rt))) (Ai (Er (SV.ls 0 l.length)) (Ai hr (Ai (Eq.refl (List.map (SV.ren (qaq [0,5] 6)) [trS 0 rt l,.pv (iV (p.b)),.ls 1 (c1.length+1)])) (Ai (qaj (qaq [0,5] 6) (qij c1 l z)) (Ai (Er (SV.pv (iV rt))) (Ai (Er (SV.ls 0 l.length)) (Ai (Er (SV.pv (iV rt))) (Ai (Er (SV.ls 0 l.length)) tI))))))))))))))))))))))))))))))))))))) (by kernel_rfl)
theorem qrn {rt z:Int} {l:List Pt} {p:Pt} {g c1:List Int} (h0:decide (z<0)=false) (h1:decide (((g.length:Int):Int)>(l.length:Int))=false) (hk:l[z.toNat]?=some p) (hin:0≤z∧z<(l.length:Int)) (hl:FnO Try.prog 96 1 2 [trS 0 rt l,.pv (iV (p.a)),.ls 1 g.length] [(0,0,qaa l),(1,0,.row 3 1 g.length (ziV g))] (.ls 2 c1.length) 1 [(2,0,zrI c1)]) (hn:c1.length+1≤1000000) (hr:FnO Try.prog 96 1 2 [trS 0 rt l,.pv (iV (p.b)),.ls 1 (c1.length+1)] (qij c1 l z) (.ls 1 (c1.length+1)) 0 [(1,0,.row 3 1 (c1.length+1) (ziV c1++[iV z]))]) :
 FnO Try.prog 96 1 2 [trS 0 rt l,.pv (iV (z)),.ls 1 g.length] [(0,0,qaa l),(1,0,zrI g)] (.ls 2 (c1.length+1)) 1 [(2,0,.row 3 1 (c1.length+1) (ziV c1++[iV z]))]:=
 qaA 300 [(2,5)] [.t false,.t false,.gh [(2,0),(2,1)],.r (iV p.a),.fo 1 [0,1] [trS 0 rt l,.pv (iV (p.a)),.ls 1 g.length] [(0,0,qaa l),(1,0,.row 3 1 g.length (ziV g))] (.ls 2 c1.length) 1 [(2,0,zrI c1)],.gh [(2,0),(2,1)],.r (iV p.b),.fo 1 [0,5] [trS 0 rt l,.pv (iV (p.b)),.ls 1 (c1.length+1)] (qij c1 l z) (.ls 1 (c1.length+1)) 0 [(1,0,.row 3 1 (c1.length+1) (ziV c1++[iV z]))]]
  (qaj (qaB [(2,5)]) [(2,0,.row 3 1 (c1.length+1) (ziV c1++[iV z]))]) (Ai h0 (Ai h1 (Ai (Er (SV.pv (iV rt))) (Ai (Er (SV.ls 0 l.length)) (Ai hin (Ai (Er (SV.pv (iV rt))) (Ai (Er (SV.ls 0 l.length)) (Ai (Er (SV.pv (iV rt))) (Ai (Er (SV.ls 0 l.length)) (Ai (qbI hk) (Ai (Er (SV.pv (iV rt))) (Ai (Er (SV.ls 0 l.length)) (Ai hl (Ai (Eq.refl (List.map (SV.ren (qaq [0,1] 3)) [trS 0 rt l,.pv (iV (p.a)),.ls 1 g.length])) (Ai (qaj (qaq [0,1] 3) [(0,0,qaa l),(1,0,.row 3 1 g.length (ziV g))]) (Ai (Er (SV.pv (iV rt))) (Ai (Er (SV.ls 0 l.length)) (Ai (Er (SV.pv (iV rt))) (Ai (Er (SV.ls 0 l.length)) (Ai hn (Ai (Er (SV.pv (iV rt))) (Ai (Er (SV.ls 0 l.length)) (Ai hin (Ai (Er (SV.pv (iV rt))) (Ai (Er (SV.ls 0 l.length)) (Ai (Er (SV.pv (iV rt))) (Ai (Er (SV.ls 0 l.length)) (Ai (qbP hk) (Ai (Er (SV.pv (iV rt))) (Ai (Er (SV.ls 0 l.length)) (Ai hr (Ai (Eq.refl (List.map (SV.ren (qaq [0,5] 6)) [trS 0 rt l,.pv (iV (p.b)),.ls 1 (c1.length+1)])) (Ai (qaj (qaq [0,5] 6) (qij c1 l z)) (Ai (Er (SV.pv (iV rt))) (Ai (Er (SV.ls 0 l.length)) (Ai (Er (SV.pv (iV rt))) (Ai (Er (SV.ls 0 l.length)) tI))))))))))))))))))))))))))))))))))))) (by kernel_rfl)
theorem qrk {rt z:Int} {l:List Pt} {p:Pt} {g c2:List Int} (h0:decide (z<0)=false) (h1:decide (((g.length:Int):Int)>(l.length:Int))=false) (hk:l[z.toNat]?=some p) (hin:0≤z∧z<(l.length:Int)) (hl:FnO Try.prog 96 1 2 [trS 0 rt l,.pv (iV (p.a)),.ls 1 g.length] [(0,0,qaa l),(1,0,.row 3 1 g.length (ziV g))] (.ls 1 g.length) 0 [(1,0,.row 3 1 g.length (ziV g))]) (hn:g.length+1≤1000000) (hr:FnO Try.prog 96 1 2 [trS 0 rt l,.pv (iV (p.b)),.ls 1 (g.length+1)] [(0,0,qaa l),(1,0,.row 3 1 (g.length+1) (ziV g++[iV z]))] (.ls 2 c2.length) 1 [(2,0,zrI c2)]) :
 FnO Try.prog 96 1 2 [trS 0 rt l,.pv (iV (z)),.ls 1 g.length] [(0,0,qaa l),(1,0,zrI g)] (.ls 2 c2.length) 1 [(2,0,.row 3 1 c2.length (ziV c2))]:=
 qaA 300 [(2,5)] [.t false,.t false,.gh [(2,0),(2,1)],.r (iV p.a),.fo 1 [0,1] [trS 0 rt l,.pv (iV (p.a)),.ls 1 g.length] [(0,0,qaa l),(1,0,.row 3 1 g.length (ziV g))] (.ls 1 g.length) 0 [(1,0,.row 3 1 g.length (ziV g))],.gh [(2,0),(2,1)],.r (iV p.b),.fo 1 [0,4] [trS 0 rt l,.pv (iV (p.b)),.ls 1 (g.length+1)] [(0,0,qaa l),(1,0,.row 3 1 (g.length+1) (ziV g++[iV z]))] (.ls 2 c2.length) 1 [(2,0,zrI c2)]]
  (qaj (qaB [(2,5)]) [(2,0,.row 3 1 c2.length (ziV c2))]) (Ai h0 (Ai h1 (Ai (Er (SV.pv (iV rt))) (Ai (Er (SV.ls 0 l.length)) (Ai hin (Ai (Er (SV.pv (iV rt))) (Ai (Er (SV.ls 0 l.length)) (Ai (Er (SV.pv (iV rt))) (Ai (Er (SV.ls 0 l.length)) (Ai (qbI hk) (Ai (Er (SV.pv (iV rt))) (Ai (Er (SV.ls 0 l.length)) (Ai hl (Ai (Eq.refl (List.map (SV.ren (qaq [0,1] 3)) [trS 0 rt l,.pv (iV (p.a)),.ls 1 g.length])) (Ai (qaj (qaq [0,1] 3) [(0,0,qaa l),(1,0,.row 3 1 g.length (ziV g))]) (Ai (Er (SV.pv (iV rt))) (Ai (Er (SV.ls 0 l.length)) (Ai (Er (SV.pv (iV rt))) (Ai (Er (SV.ls 0 l.length)) (Ai hn (Ai (Er (SV.pv (iV rt))) (Ai (Er (SV.ls 0 l.length)) (Ai hin (Ai (Er (SV.pv (iV rt))) (Ai (Er (SV.ls 0 l.length)) (Ai (Er (SV.pv (iV rt))) (Ai (Er (SV.ls 0 l.length)) (Ai (qbP hk) (Ai (Er (SV.pv (iV rt))) (Ai (Er (SV.ls 0 l.length)) (Ai hr (Ai (Eq.refl (List.map (SV.ren (qaq [0,4] 5)) [trS 0 rt l,.pv (iV (p.b)),.ls 1 (g.length+1)])) (Ai (qaj (qaq [0,4] 5) [(0,0,qaa l),(1,0,.row 3 1 (g.length+1) (ziV g++[iV z]))]) (Ai (Er (SV.pv (iV rt))) (Ai (Er (SV.ls 0 l.length)) (Ai (Er (SV.pv (iV rt))) (Ai (Er (SV.ls 0 l.length)) tI))))))))))))))))))))))))))))))))))))) (by kernel_rfl)
theorem qrb {rt z:Int} {l:List Pt} {p:Pt} {g:List Int} (h0:decide (z<0)=false) (h1:decide (((g.length:Int):Int)>(l.length:Int))=false) (hk:l[z.toNat]?=some p) (hin:0≤z∧z<(l.length:Int)) (hl:FnO Try.prog 96 1 2 [trS 0 rt l,.pv (iV (p.a)),.ls 1 g.length] [(0,0,qaa l),(1,0,.row 3 1 g.length (ziV g))] (.ls 1 g.length) 0 [(1,0,.row 3 1 g.length (ziV g))]) (hn:g.length+1≤1000000) (hr:FnO Try.prog 96 1 2 [trS 0 rt l,.pv (iV (p.b)),.ls 1 (g.length+1)] [(0,0,qaa l),(1,0,.row 3 1 (g.length+1) (ziV g++[iV z]))] (.ls 1 (g.length+1)) 0 [(1,0,.row 3 1 (g.length+1) (ziV g++[iV z]))]) :
 FnO Try.prog 96 1 2 [trS 0 rt l,.pv (iV (z)),.ls 1 g.length] [(0,0,qaa l),(1,0,zrI g)] (.ls 2 (g.length+1)) 1 [(2,0,.row 3 1 (g.length+1) (ziV g++[iV z]))]:=
 qaA 300 [(2,4)] [.t false,.t false,.gh [(2,0),(2,1)],.r (iV p.a),.fo 1 [0,1] [trS 0 rt l,.pv (iV (p.a)),.ls 1 g.length] [(0,0,qaa l),(1,0,.row 3 1 g.length (ziV g))] (.ls 1 g.length) 0 [(1,0,.row 3 1 g.length (ziV g))],.gh [(2,0),(2,1)],.r (iV p.b),.fo 1 [0,4] [trS 0 rt l,.pv (iV (p.b)),.ls 1 (g.length+1)] [(0,0,qaa l),(1,0,.row 3 1 (g.length+1) (ziV g++[iV z]))] (.ls 1 (g.length+1)) 0 [(1,0,.row 3 1 (g.length+1) (ziV g++[iV z]))]]
  (qaj (qaB [(2,4)]) [(2,0,.row 3 1 (g.length+1) (ziV g++[iV z]))]) (Ai h0 (Ai h1 (Ai (Er (SV.pv (iV rt))) (Ai (Er (SV.ls 0 l.length)) (Ai hin (Ai (Er (SV.pv (iV rt))) (Ai (Er (SV.ls 0 l.length)) (Ai (Er (SV.pv (iV rt))) (Ai (Er (SV.ls 0 l.length)) (Ai (qbI hk) (Ai (Er (SV.pv (iV rt))) (Ai (Er (SV.ls 0 l.length)) (Ai hl (Ai (Eq.refl (List.map (SV.ren (qaq [0,1] 3)) [trS 0 rt l,.pv (iV (p.a)),.ls 1 g.length])) (Ai (qaj (qaq [0,1] 3) [(0,0,qaa l),(1,0,.row 3 1 g.length (ziV g))]) (Ai (Er (SV.pv (iV rt))) (Ai (Er (SV.ls 0 l.length)) (Ai (Er (SV.pv (iV rt))) (Ai (Er (SV.ls 0 l.length)) (Ai hn (Ai (Er (SV.pv (iV rt))) (Ai (Er (SV.ls 0 l.length)) (Ai hin (Ai (Er (SV.pv (iV rt))) (Ai (Er (SV.ls 0 l.length)) (Ai (Er (SV.pv (iV rt))) (Ai (Er (SV.ls 0 l.length)) (Ai (qbP hk) (Ai (Er (SV.pv (iV rt))) (Ai (Er (SV.ls 0 l.length)) (Ai hr (Ai (Eq.refl (List.map (SV.ren (qaq [0,4] 5)) [trS 0 rt l,.pv (iV (p.b)),.ls 1 (g.length+1)])) (Ai (qaj (qaq [0,4] 5) [(0,0,qaa l),(1,0,.row 3 1 (g.length+1) (ziV g++[iV z]))]) (Ai (Er (SV.pv (iV rt))) (Ai (Er (SV.ls 0 l.length)) (Ai (Er (SV.pv (iV rt))) (Ai (Er (SV.ls 0 l.length)) tI))))))))))))))))))))))))))))))))))))) (by kernel_rfl)
theorem qrl {rt z:Int} {l:List Pt} {p:Pt} {c1 c2:List Int} (h0:decide (z<0)=false) (h1:decide ((0:Int)>(l.length:Int))=false) (hk:l[z.toNat]?=some p) (hin:0≤z∧z<(l.length:Int)) (hl:FnO Try.prog 96 1 2 [trS 0 rt l,.pv (iV (p.a)),.ls 1 0] [(0,0,qaa l),(1,0,.row 3 1 0 ([]))] (.ls 2 c1.length) 1 [(2,0,zrI c1)]) (hn:c1.length+1≤1000000) (hr:FnO Try.prog 96 1 2 [trS 0 rt l,.pv (iV (p.b)),.ls 1 (c1.length+1)] (qij c1 l z) (.ls 2 c2.length) 1 [(2,0,zrI c2)]) :
 Fn 96 1 [trS 0 rt l,.pv (iV (z)),.pv (.slice none 0 0)] [(0,0,qaa l)] (.ls 1 c2.length) 1 [(1,0,.row 3 1 c2.length (ziV c2))]:=
 Fz [(1,6)] [.lz true 2 0 3 1,.t false,.t false,.gh [(2,0),(2,1)],.r (iV p.a),.fo 1 [0,1] [trS 0 rt l,.pv (iV (p.a)),.ls 1 0] [(0,0,qaa l),(1,0,.row 3 1 0 ([]))] (.ls 2 c1.length) 1 [(2,0,zrI c1)],.gh [(2,0),(2,1)],.r (iV p.b),.fo 1 [0,5] [trS 0 rt l,.pv (iV (p.b)),.ls 1 (c1.length+1)] (qij c1 l z) (.ls 2 c2.length) 1 [(2,0,zrI c2)]]
  (qaj (qaB [(1,6)]) [(1,0,.row 3 1 c2.length (ziV c2))]) (Ai h0 (Ai h1 (Ai (Er (SV.pv (iV rt))) (Ai (Er (SV.ls 0 l.length)) (Ai hin (Ai (Er (SV.pv (iV rt))) (Ai (Er (SV.ls 0 l.length)) (Ai (Er (SV.pv (iV rt))) (Ai (Er (SV.ls 0 l.length)) (Ai (qbI hk) (Ai (Er (SV.pv (iV rt))) (Ai (Er (SV.ls 0 l.length)) (Ai hl (Ai (Eq.refl (List.map (SV.ren (qaq [0,1] 3)) [trS 0 rt l,.pv (iV (p.a)),.ls 1 0])) (Ai (qaj (qaq [0,1] 3) [(0,0,qaa l),(1,0,.row 3 1 0 ([]))]) (Ai (Er (SV.pv (iV rt))) (Ai (Er (SV.ls 0 l.length)) (Ai (Er (SV.pv (iV rt))) (Ai (Er (SV.ls 0 l.length)) (Ai hn (Ai (Er (SV.pv (iV rt))) (Ai (Er (SV.ls 0 l.length)) (Ai hin (Ai (Er (SV.pv (iV rt))) (Ai (Er (SV.ls 0 l.length)) (Ai (Er (SV.pv (iV rt))) (Ai (Er (SV.ls 0 l.length)) (Ai (qbP hk) (Ai (Er (SV.pv (iV rt))) (Ai (Er (SV.ls 0 l.length)) (Ai hr (Ai (Eq.refl (List.map (SV.ren (qaq [0,5] 6)) [trS 0 rt l,.pv (iV (p.b)),.ls 1 (c1.length+1)])) (Ai (qaj (qaq [0,5] 6) (qij c1 l z)) (Ai (Er (SV.pv (iV rt))) (Ai (Er (SV.ls 0 l.length)) (Ai (Er (SV.pv (iV rt))) (Ai (Er (SV.ls 0 l.length)) tI)))))))))))))))))))))))))))))))))))))
theorem qqg {rt z:Int} {l:List Pt} {p:Pt} {c1:List Int} (h0:decide (z<0)=false) (h1:decide ((0:Int)>(l.length:Int))=false) (hk:l[z.toNat]?=some p) (hin:0≤z∧z<(l.length:Int)) (hl:FnO Try.prog 96 1 2 [trS 0 rt l,.pv (iV (p.a)),.ls 1 0] [(0,0,qaa l),(1,0,.row 3 1 0 ([]))] (.ls 2 c1.length) 1 [(2,0,zrI c1)]) (hn:c1.length+1≤1000000) (hr:FnO Try.prog 96 1 2 [trS 0 rt l,.pv (iV (p.b)),.ls 1 (c1.length+1)] (qij c1 l z) (.ls 1 (c1.length+1)) 0 [(1,0,.row 3 1 (c1.length+1) (ziV c1++[iV z]))]) :
 Fn 96 1 [trS 0 rt l,.pv (iV (z)),.pv (.slice none 0 0)] [(0,0,qaa l)] (.ls 1 (c1.length+1)) 1 [(1,0,.row 3 1 (c1.length+1) (ziV c1++[iV z]))]:=
 Fz [(1,5)] [.lz true 2 0 3 1,.t false,.t false,.gh [(2,0),(2,1)],.r (iV p.a),.fo 1 [0,1] [trS 0 rt l,.pv (iV (p.a)),.ls 1 0] [(0,0,qaa l),(1,0,.row 3 1 0 ([]))] (.ls 2 c1.length) 1 [(2,0,zrI c1)],.gh [(2,0),(2,1)],.r (iV p.b),.fo 1 [0,5] [trS 0 rt l,.pv (iV (p.b)),.ls 1 (c1.length+1)] (qij c1 l z) (.ls 1 (c1.length+1)) 0 [(1,0,.row 3 1 (c1.length+1) (ziV c1++[iV z]))]]
  (qaj (qaB [(1,5)]) [(1,0,.row 3 1 (c1.length+1) (ziV c1++[iV z]))]) (Ai h0 (Ai h1 (Ai (Er (SV.pv (iV rt))) (Ai (Er (SV.ls 0 l.length)) (Ai hin (Ai (Er (SV.pv (iV rt))) (Ai (Er (SV.ls 0 l.length)) (Ai (Er (SV.pv (iV rt))) (Ai (Er (SV.ls 0 l.length)) (Ai (qbI hk) (Ai (Er (SV.pv (iV rt))) (Ai (Er (SV.ls 0 l.length)) (Ai hl (Ai (Eq.refl (List.map (SV.ren (qaq [0,1] 3)) [trS 0 rt l,.pv (iV (p.a)),.ls 1 0])) (Ai (qaj (qaq [0,1] 3) [(0,0,qaa l),(1,0,.row 3 1 0 ([]))]) (Ai (Er (SV.pv (iV rt))) (Ai (Er (SV.ls 0 l.length)) (Ai (Er (SV.pv (iV rt))) (Ai (Er (SV.ls 0 l.length)) (Ai hn (Ai (Er (SV.pv (iV rt))) (Ai (Er (SV.ls 0 l.length)) (Ai hin (Ai (Er (SV.pv (iV rt))) (Ai (Er (SV.ls 0 l.length)) (Ai (Er (SV.pv (iV rt))) (Ai (Er (SV.ls 0 l.length)) (Ai (qbP hk) (Ai (Er (SV.pv (iV rt))) (Ai (Er (SV.ls 0 l.length)) (Ai hr (Ai (Eq.refl (List.map (SV.ren (qaq [0,5] 6)) [trS 0 rt l,.pv (iV (p.b)),.ls 1 (c1.length+1)])) (Ai (qaj (qaq [0,5] 6) (qij c1 l z)) (Ai (Er (SV.pv (iV rt))) (Ai (Er (SV.ls 0 l.length)) (Ai (Er (SV.pv (iV rt))) (Ai (Er (SV.ls 0 l.length)) tI)))))))))))))))))))))))))))))))))))))
theorem qpX {rt z:Int} {l:List Pt} {p:Pt} {c2:List Int} (h0:decide (z<0)=false) (h1:decide ((0:Int)>(l.length:Int))=false) (hk:l[z.toNat]?=some p) (hin:0≤z∧z<(l.length:Int)) (hl:FnO Try.prog 96 1 2 [trS 0 rt l,.pv (iV (p.a)),.ls 1 0] [(0,0,qaa l),(1,0,.row 3 1 0 ([]))] (.ls 1 0) 0 [(1,0,.row 3 1 0 ([]))]) (hn:0+1≤1000000) (hr:FnO Try.prog 96 1 2 [trS 0 rt l,.pv (iV (p.b)),.ls 1 (0+1)] [(0,0,qaa l),(1,0,.row 3 1 (0+1) ([]++[iV z]))] (.ls 2 c2.length) 1 [(2,0,zrI c2)]) :
 Fn 96 1 [trS 0 rt l,.pv (iV (z)),.pv (.slice none 0 0)] [(0,0,qaa l)] (.ls 1 c2.length) 1 [(1,0,.row 3 1 c2.length (ziV c2))]:=
 Fz [(1,5)] [.lz true 2 0 3 1,.t false,.t false,.gh [(2,0),(2,1)],.r (iV p.a),.fo 1 [0,1] [trS 0 rt l,.pv (iV (p.a)),.ls 1 0] [(0,0,qaa l),(1,0,.row 3 1 0 ([]))] (.ls 1 0) 0 [(1,0,.row 3 1 0 ([]))],.gh [(2,0),(2,1)],.r (iV p.b),.fo 1 [0,4] [trS 0 rt l,.pv (iV (p.b)),.ls 1 (0+1)] [(0,0,qaa l),(1,0,.row 3 1 (0+1) ([]++[iV z]))] (.ls 2 c2.length) 1 [(2,0,zrI c2)]]
  (qaj (qaB [(1,5)]) [(1,0,.row 3 1 c2.length (ziV c2))]) (Ai h0 (Ai h1 (Ai (Er (SV.pv (iV rt))) (Ai (Er (SV.ls 0 l.length)) (Ai hin (Ai (Er (SV.pv (iV rt))) (Ai (Er (SV.ls 0 l.length)) (Ai (Er (SV.pv (iV rt))) (Ai (Er (SV.ls 0 l.length)) (Ai (qbI hk) (Ai (Er (SV.pv (iV rt))) (Ai (Er (SV.ls 0 l.length)) (Ai hl (Ai (Eq.refl (List.map (SV.ren (qaq [0,1] 3)) [trS 0 rt l,.pv (iV (p.a)),.ls 1 0])) (Ai (qaj (qaq [0,1] 3) [(0,0,qaa l),(1,0,.row 3 1 0 ([]))]) (Ai (Er (SV.pv (iV rt))) (Ai (Er (SV.ls 0 l.length)) (Ai (Er (SV.pv (iV rt))) (Ai (Er (SV.ls 0 l.length)) (Ai hn (Ai (Er (SV.pv (iV rt))) (Ai (Er (SV.ls 0 l.length)) (Ai hin (Ai (Er (SV.pv (iV rt))) (Ai (Er (SV.ls 0 l.length)) (Ai (Er (SV.pv (iV rt))) (Ai (Er (SV.ls 0 l.length)) (Ai (qbP hk) (Ai (Er (SV.pv (iV rt))) (Ai (Er (SV.ls 0 l.length)) (Ai hr (Ai (Eq.refl (List.map (SV.ren (qaq [0,4] 5)) [trS 0 rt l,.pv (iV (p.b)),.ls 1 (0+1)])) (Ai (qaj (qaq [0,4] 5) [(0,0,qaa l),(1,0,.row 3 1 (0+1) ([]++[iV z]))]) (Ai (Er (SV.pv (iV rt))) (Ai (Er (SV.ls 0 l.length)) (Ai (Er (SV.pv (iV rt))) (Ai (Er (SV.ls 0 l.length)) tI)))))))))))))))))))))))))))))))))))))
theorem qqE {rt z:Int} {l:List Pt} {p:Pt} (h0:decide (z<0)=false) (h1:decide ((0:Int)>(l.length:Int))=false) (hk:l[z.toNat]?=some p) (hin:0≤z∧z<(l.length:Int)) (hl:FnO Try.prog 96 1 2 [trS 0 rt l,.pv (iV (p.a)),.ls 1 0] [(0,0,qaa l),(1,0,.row 3 1 0 ([]))] (.ls 1 0) 0 [(1,0,.row 3 1 0 ([]))]) (hn:0+1≤1000000) (hr:FnO Try.prog 96 1 2 [trS 0 rt l,.pv (iV (p.b)),.ls 1 (0+1)] [(0,0,qaa l),(1,0,.row 3 1 (0+1) ([]++[iV z]))] (.ls 1 (0+1)) 0 [(1,0,.row 3 1 (0+1) ([]++[iV z]))]) :
 Fn 96 1 [trS 0 rt l,.pv (iV (z)),.pv (.slice none 0 0)] [(0,0,qaa l)] (.ls 1 (0+1)) 1 [(1,0,.row 3 1 (0+1) ([]++[iV z]))]:=
 Fz [(1,4)] [.lz true 2 0 3 1,.t false,.t false,.gh [(2,0),(2,1)],.r (iV p.a),.fo 1 [0,1] [trS 0 rt l,.pv (iV (p.a)),.ls 1 0] [(0,0,qaa l),(1,0,.row 3 1 0 ([]))] (.ls 1 0) 0 [(1,0,.row 3 1 0 ([]))],.gh [(2,0),(2,1)],.r (iV p.b),.fo 1 [0,4] [trS 0 rt l,.pv (iV (p.b)),.ls 1 (0+1)] [(0,0,qaa l),(1,0,.row 3 1 (0+1) ([]++[iV z]))] (.ls 1 (0+1)) 0 [(1,0,.row 3 1 (0+1) ([]++[iV z]))]]
  (qaj (qaB [(1,4)]) [(1,0,.row 3 1 (0+1) ([]++[iV z]))]) (Ai h0 (Ai h1 (Ai (Er (SV.pv (iV rt))) (Ai (Er (SV.ls 0 l.length)) (Ai hin (Ai (Er (SV.pv (iV rt))) (Ai (Er (SV.ls 0 l.length)) (Ai (Er (SV.pv (iV rt))) (Ai (Er (SV.ls 0 l.length)) (Ai (qbI hk) (Ai (Er (SV.pv (iV rt))) (Ai (Er (SV.ls 0 l.length)) (Ai hl (Ai (Eq.refl (List.map (SV.ren (qaq [0,1] 3)) [trS 0 rt l,.pv (iV (p.a)),.ls 1 0])) (Ai (qaj (qaq [0,1] 3) [(0,0,qaa l),(1,0,.row 3 1 0 ([]))]) (Ai (Er (SV.pv (iV rt))) (Ai (Er (SV.ls 0 l.length)) (Ai (Er (SV.pv (iV rt))) (Ai (Er (SV.ls 0 l.length)) (Ai hn (Ai (Er (SV.pv (iV rt))) (Ai (Er (SV.ls 0 l.length)) (Ai hin (Ai (Er (SV.pv (iV rt))) (Ai (Er (SV.ls 0 l.length)) (Ai (Er (SV.pv (iV rt))) (Ai (Er (SV.ls 0 l.length)) (Ai (qbP hk) (Ai (Er (SV.pv (iV rt))) (Ai (Er (SV.ls 0 l.length)) (Ai hr (Ai (Eq.refl (List.map (SV.ren (qaq [0,4] 5)) [trS 0 rt l,.pv (iV (p.b)),.ls 1 (0+1)])) (Ai (qaj (qaq [0,4] 5) [(0,0,qaa l),(1,0,.row 3 1 (0+1) ([]++[iV z]))]) (Ai (Er (SV.pv (iV rt))) (Ai (Er (SV.ls 0 l.length)) (Ai (Er (SV.pv (iV rt))) (Ai (Er (SV.ls 0 l.length)) tI)))))))))))))))))))))))))))))))))))))
end Go.Proofs.Ytalnjplghagbpaa

namespace Go.Proofs.Ytalnjplghagbpaa
set_option maxRecDepth 100000
open Go.RowKit
theorem qm8:∀ {l:List Pt} {k:Nat} {p:Pt} (_:l[k]?=some p) (x:Int),qah (l.set k ⟨p.id,x,p.b⟩)=qdH (qah l) (k*3+1) [iV x]
 | [],k,p,h,_=>by simp at h
 | q::r,0,p,h,x=>by simp at h;subst h;rfl
 | q::r,k+1,p,h,x=>by
  rw[List.set_cons_succ,qah,qm8 (l:=r) (k:=k) (p:=p) (by simpa using h) x,show (k+1)*3+1=(k*3+1)+1+1+1 by omega]
  simp[qdH,qah,Nat.add_right_comm]
theorem qni:∀ {l:List Pt} {k:Nat} {p:Pt} (_:l[k]?=some p) (x:Int),qah (l.set k ⟨p.id,p.a,x⟩)=qdH (qah l) (k*3+2) [iV x]
 | [],k,p,h,_=>by simp at h
 | q::r,0,p,h,x=>by simp at h;subst h;rfl
 | q::r,k+1,p,h,x=>by
  rw[List.set_cons_succ,qah,qni (l:=r) (k:=k) (p:=p) (by simpa using h) x,show (k+1)*3+2=(k*3+2)+1+1+1 by omega]
  simp[qdH,qah,Nat.add_right_comm]
theorem qoT {l:List Pt} {z:Int} {p:Pt} (h:l[z.toNat]?=some p) (x:Int):qah (l.set z.toNat ⟨p.id,x,p.b⟩)=qdH (qah l) (0*3+z.toNat*3+1) [iV x]:=by
 rw[show 0*3+z.toNat*3+1=z.toNat*3+1 by omega];exact qm8 h x
theorem qoj {l:List Pt} {z:Int} {p:Pt} (h:l[z.toNat]?=some p) (x:Int):qah (l.set z.toNat ⟨p.id,p.a,x⟩)=qdH (qah l) (0*3+z.toNat*3+2) [iV x]:=by
 rw[show 0*3+z.toNat*3+2=z.toNat*3+2 by omega];exact qni h x
theorem qgc:∀ l:List Pt,(qah l).length=l.length*3
 | []=>rfl
 | _::r=>by rw[qah];simp only[List.length_cons];rw[qgc r];omega
theorem qnE {l:List Pt} {z:Int} {p:Pt} (h:l[z.toNat]?=some p):0*3+z.toNat*3+1+1≤(qah l).length:=by
 rw[qgc];have:=qai h;omega
theorem qn1 {l:List Pt} {z:Int} {p:Pt} (h:l[z.toNat]?=some p):0*3+z.toNat*3+2+1≤(qah l).length:=by
 rw[qgc];have:=qai h;omega
abbrev qkH (l:List Pt) (n:Nat) (s:List Pt):HpL:=[(0,0,qan s),(1,0,.row 26 3 n (qah l))]
theorem qs5 {rt z v tn td:Int} {s l:List Pt} {n:Nat} (h0:decide (z<0)=true) :
 FnO Try.prog 102 1 2 [.ag [.pv (iV rt),.ls 1 n],qax 0 s,.pv (qad tn td),.pv (iV (z)),.pv (iV (v))] (qkH l n s) (.pv (iV (v))) 0 [(1,0,.row 26 3 n (qah l))]:=
 qaA 300 [] [.t true]
  (qaj (qaB []) [(1,0,.row 26 3 n (qah l))]) (Ai h0 tI) (by kernel_rfl)
theorem qth {rt z v tn td:Int} {s l:List Pt} {n:Nat} (h0:decide (z<0)=false) (h1:decide (v<0)=true) :
 FnO Try.prog 102 1 2 [.ag [.pv (iV rt),.ls 1 n],qax 0 s,.pv (qad tn td),.pv (iV (z)),.pv (iV (v))] (qkH l n s) (.pv (iV (z))) 0 [(1,0,.row 26 3 n (qah l))]:=
 qaA 300 [] [.t false,.t true]
  (qaj (qaB []) [(1,0,.row 26 3 n (qah l))]) (Ai h0 (Ai h1 tI)) (by kernel_rfl)
theorem qtg {rt x z v i0 k0 tn td:Int} {s l n1:List Pt} {p q:Pt} {n:Nat} {p1 q1 p2:Pt} (h0:decide (z<0)=false) (h1:decide (v<0)=false) (hk:l[z.toNat]?=some p) (hin:0≤z∧z<(n:Int)) (hm:l[v.toNat]?=some q) (hjn:0≤v∧v<(n:Int)) (hp:s[i0.toNat]?=some p1) (hpn:0≤i0∧i0<(s.length:Int)) (hq:s[k0.toNat]?=some q1) (hqn:0≤k0∧k0<(s.length:Int)) (ha:Fn 43 1 [qax 0 s,.pv (iV (p.id))] [(0,0,qan s)] (.pv (iV (i0))) 0 []) (hb:Fn 43 1 [qax 0 s,.pv (iV (q.id))] [(0,0,qan s)] (.pv (iV (k0))) 0 []) (hw:Pure Try.prog 111 #[ptV p1,ptV q1,qad tn td] (.bool true)) (hl:FnO Try.prog 102 1 2 [.ag [.pv (iV rt),.ls 1 n],qax 0 s,.pv (qad tn td),.pv (iV (p.b)),.pv (iV (v))] (qkH l n s) (.pv (iV (x))) 0 [(1,0,.row 26 3 n (qah n1))]) (hs:n1[z.toNat]?=some p2) :
 FnO Try.prog 102 1 2 [.ag [.pv (iV rt),.ls 1 n],qax 0 s,.pv (qad tn td),.pv (iV (z)),.pv (iV (v))] (qkH l n s) (.pv (iV (z))) 0 [(1,0,.row 26 3 n (qah (n1.set z.toNat ⟨p2.id,p2.a,x⟩)))]:=
 qaA 300 [] [.t false,.t false,.md,.r (iV p.id),.f [0] [qax 0 s,.pv (iV (p.id))] [(0,0,qan s)] (.pv (iV (i0))) 0 [],.r (ptV p1),.r (iV q.id),.f [0] [qax 0 s,.pv (iV (q.id))] [(0,0,qan s)] (.pv (iV (k0))) 0 [],.r (ptV q1),.r (.bool true),.gh [(2,0),(2,1),(3,0),(4,0),(4,1)],.r (iV p.b),.fo 1 [0,1] [.ag [.pv (iV rt),.ls 1 n],qax 0 s,.pv (qad tn td),.pv (iV (p.b)),.pv (iV (v))] (qkH l n s) (.pv (iV (x))) 0 [(1,0,.row 26 3 n (qah n1))],.w (qah (n1.set z.toNat ⟨p2.id,p2.a,x⟩))]
  (qaj (qaB []) [(1,0,.row 26 3 n (qah (n1.set z.toNat ⟨p2.id,p2.a,x⟩)))]) (Ai h0 (Ai h1 (Ai hin (Ai (qaM hk) (Ai ha (Ai (Eq.refl (List.map (SV.ren (qaq [0] 5)) [qax 0 s,.pv (iV (p.id))])) (Ai (qaj (qaq [0] 5) [(0,0,qan s)]) (Ai hpn (Ai (qcU hp) (Ai hjn (Ai (qaM hm) (Ai hb (Ai (Eq.refl (List.map (SV.ren (qaq [0] 5)) [qax 0 s,.pv (iV (q.id))])) (Ai (qaj (qaq [0] 5) [(0,0,qan s)]) (Ai hqn (Ai (qcU hq) (Ai hw (Ai (Er (SV.pv (iV rt))) (Ai (Er (SV.ls 1 n)) (Ai (Er (SV.ls 0 s.length)) (Ai (Er (SV.pv (iV tn))) (Ai (Er (SV.pv (iV td))) (Ai hin (Ai (Er (SV.pv (iV rt))) (Ai (Er (SV.ls 1 n)) (Ai (Er (SV.ls 0 s.length)) (Ai (Er (SV.pv (iV tn))) (Ai (Er (SV.pv (iV td))) (Ai (Er (SV.pv (iV rt))) (Ai (Er (SV.ls 1 n)) (Ai (Er (SV.ls 0 s.length)) (Ai (Er (SV.pv (iV tn))) (Ai (Er (SV.pv (iV td))) (Ai (qbP hk) (Ai (Er (SV.pv (iV rt))) (Ai (Er (SV.ls 1 n)) (Ai (Er (SV.ls 0 s.length)) (Ai (Er (SV.pv (iV tn))) (Ai (Er (SV.pv (iV td))) (Ai hl (Ai (Eq.refl (List.map (SV.ren (qaq [0,1] 7)) [.ag [.pv (iV rt),.ls 1 n],qax 0 s,.pv (qad tn td),.pv (iV (p.b)),.pv (iV (v))])) (Ai (qaj (qaq [0,1] 7) (qkH l n s)) (Ai (Er (SV.pv (iV rt))) (Ai (Er (SV.ls 1 n)) (Ai (Er (SV.ls 0 s.length)) (Ai (Er (SV.pv (iV tn))) (Ai (Er (SV.pv (iV td))) (Ai hin (Ai (Er (SV.pv (iV rt))) (Ai (Er (SV.ls 1 n)) (Ai (Er (SV.ls 0 s.length)) (Ai (Er (SV.pv (iV tn))) (Ai (Er (SV.pv (iV td))) (Ai (Er (SV.pv (iV rt))) (Ai (Er (SV.ls 1 n)) (Ai (Er (SV.ls 0 s.length)) (Ai (Er (SV.pv (iV tn))) (Ai (Er (SV.pv (iV td))) (Ai (qoj hs x) (Ai (qn1 hs) (Ai (Er (SV.pv (iV rt))) (Ai (Er (SV.ls 1 n)) (Ai (Er (SV.ls 0 s.length)) (Ai (Er (SV.pv (iV tn))) (Ai (Er (SV.pv (iV td))) tI))))))))))))))))))))))))))))))))))))))))))))))))))))))))))))))))) (by kernel_rfl)
theorem qsY {rt x z v i0 k0 tn td:Int} {s l n1:List Pt} {p q:Pt} {n:Nat} {p1 q1 p2:Pt} (h0:decide (z<0)=false) (h1:decide (v<0)=false) (hk:l[z.toNat]?=some p) (hin:0≤z∧z<(n:Int)) (hm:l[v.toNat]?=some q) (hjn:0≤v∧v<(n:Int)) (hp:s[i0.toNat]?=some p1) (hpn:0≤i0∧i0<(s.length:Int)) (hq:s[k0.toNat]?=some q1) (hqn:0≤k0∧k0<(s.length:Int)) (ha:Fn 43 1 [qax 0 s,.pv (iV (p.id))] [(0,0,qan s)] (.pv (iV (i0))) 0 []) (hb:Fn 43 1 [qax 0 s,.pv (iV (q.id))] [(0,0,qan s)] (.pv (iV (k0))) 0 []) (hw:Pure Try.prog 111 #[ptV p1,ptV q1,qad tn td] (.bool false)) (hl:FnO Try.prog 102 1 2 [.ag [.pv (iV rt),.ls 1 n],qax 0 s,.pv (qad tn td),.pv (iV (z)),.pv (iV (q.a))] (qkH l n s) (.pv (iV (x))) 0 [(1,0,.row 26 3 n (qah n1))]) (hs:n1[v.toNat]?=some p2) :
 FnO Try.prog 102 1 2 [.ag [.pv (iV rt),.ls 1 n],qax 0 s,.pv (qad tn td),.pv (iV (z)),.pv (iV (v))] (qkH l n s) (.pv (iV (v))) 0 [(1,0,.row 26 3 n (qah (n1.set v.toNat ⟨p2.id,x,p2.b⟩)))]:=
 qaA 300 [] [.t false,.t false,.md,.r (iV p.id),.f [0] [qax 0 s,.pv (iV (p.id))] [(0,0,qan s)] (.pv (iV (i0))) 0 [],.r (ptV p1),.r (iV q.id),.f [0] [qax 0 s,.pv (iV (q.id))] [(0,0,qan s)] (.pv (iV (k0))) 0 [],.r (ptV q1),.r (.bool false),.gh [(2,0),(2,1),(3,0),(4,0),(4,1)],.r (iV q.a),.fo 1 [0,1] [.ag [.pv (iV rt),.ls 1 n],qax 0 s,.pv (qad tn td),.pv (iV (z)),.pv (iV (q.a))] (qkH l n s) (.pv (iV (x))) 0 [(1,0,.row 26 3 n (qah n1))],.w (qah (n1.set v.toNat ⟨p2.id,x,p2.b⟩))]
  (qaj (qaB []) [(1,0,.row 26 3 n (qah (n1.set v.toNat ⟨p2.id,x,p2.b⟩)))]) (Ai h0 (Ai h1 (Ai hin (Ai (qaM hk) (Ai ha (Ai (Eq.refl (List.map (SV.ren (qaq [0] 5)) [qax 0 s,.pv (iV (p.id))])) (Ai (qaj (qaq [0] 5) [(0,0,qan s)]) (Ai hpn (Ai (qcU hp) (Ai hjn (Ai (qaM hm) (Ai hb (Ai (Eq.refl (List.map (SV.ren (qaq [0] 5)) [qax 0 s,.pv (iV (q.id))])) (Ai (qaj (qaq [0] 5) [(0,0,qan s)]) (Ai hqn (Ai (qcU hq) (Ai hw (Ai (Er (SV.pv (iV rt))) (Ai (Er (SV.ls 1 n)) (Ai (Er (SV.ls 0 s.length)) (Ai (Er (SV.pv (iV tn))) (Ai (Er (SV.pv (iV td))) (Ai hjn (Ai (Er (SV.pv (iV rt))) (Ai (Er (SV.ls 1 n)) (Ai (Er (SV.ls 0 s.length)) (Ai (Er (SV.pv (iV tn))) (Ai (Er (SV.pv (iV td))) (Ai (Er (SV.pv (iV rt))) (Ai (Er (SV.ls 1 n)) (Ai (Er (SV.ls 0 s.length)) (Ai (Er (SV.pv (iV tn))) (Ai (Er (SV.pv (iV td))) (Ai (qbI hm) (Ai (Er (SV.pv (iV rt))) (Ai (Er (SV.ls 1 n)) (Ai (Er (SV.ls 0 s.length)) (Ai (Er (SV.pv (iV tn))) (Ai (Er (SV.pv (iV td))) (Ai hl (Ai (Eq.refl (List.map (SV.ren (qaq [0,1] 7)) [.ag [.pv (iV rt),.ls 1 n],qax 0 s,.pv (qad tn td),.pv (iV (z)),.pv (iV (q.a))])) (Ai (qaj (qaq [0,1] 7) (qkH l n s)) (Ai (Er (SV.pv (iV rt))) (Ai (Er (SV.ls 1 n)) (Ai (Er (SV.ls 0 s.length)) (Ai (Er (SV.pv (iV tn))) (Ai (Er (SV.pv (iV td))) (Ai hjn (Ai (Er (SV.pv (iV rt))) (Ai (Er (SV.ls 1 n)) (Ai (Er (SV.ls 0 s.length)) (Ai (Er (SV.pv (iV tn))) (Ai (Er (SV.pv (iV td))) (Ai (Er (SV.pv (iV rt))) (Ai (Er (SV.ls 1 n)) (Ai (Er (SV.ls 0 s.length)) (Ai (Er (SV.pv (iV tn))) (Ai (Er (SV.pv (iV td))) (Ai (qoT hs x) (Ai (qnE hs) (Ai (Er (SV.pv (iV rt))) (Ai (Er (SV.ls 1 n)) (Ai (Er (SV.ls 0 s.length)) (Ai (Er (SV.pv (iV tn))) (Ai (Er (SV.pv (iV td))) tI))))))))))))))))))))))))))))))))))))))))))))))))))))))))))))))))) (by kernel_rfl)
end Go.Proofs.Ytalnjplghagbpaa

namespace Go.Proofs.Ytalnjplghagbpaa
set_option maxRecDepth 100000
open Go.RowKit
theorem qiV:∀ n:Nat,qcz [Value.bool false] n=zbV (List.replicate n false)
 | 0=>rfl
 | n+1=>by rw[qcz,qiV n];rfl
theorem qcT (n:Nat):some (SV.row 4 1 n (qcz [Value.bool false] n))=some (SV.row 4 1 n (zbV (List.replicate n false))):=by rw[qiV]
abbrev qkG (bs:List Bool) (g:List Int) (l:List Pt):HpL:=[(3,0,.ls 0 l.length),(3,1,.ls 1 l.length),(3,2,.ls 2 g.length),(1,0,.row 4 1 l.length (zbV bs)),(2,0,.row 3 1 g.length (ziV g)),(0,0,qaa l)]
abbrev qm1 (bs:List Bool) (g:List Int) (l:List Pt):HpL:=[(3,0,.ls 0 l.length),(3,1,.ls 1 l.length),(3,2,.ls 2 g.length),(1,0,.row 4 1 l.length (zbV bs)),(2,0,.row 3 1 g.length (ziV g))]
theorem qoz {z:Int} {l:List Pt} {g:List Int} {bs:List Bool} (h0:(z==(-1))=true) :
 FnO Try.prog 83 1 4 [.pp 3 0,.pv (iV (z))] (qkG bs g l) (.pv (.bool true)) 0 (qm1 bs g l):=
 qaA 300 [] [.t true]
  (qaj (qaB []) (qm1 bs g l)) (Ai h0 tI) (by kernel_rfl)
theorem qoM {z:Int} {l:List Pt} {g:List Int} {bs:List Bool} (h0:(z==(-1))=false) (h1:decide (z<0)=true) :
 FnO Try.prog 83 1 4 [.pp 3 0,.pv (iV (z))] (qkG bs g l) (.pv (.bool false)) 0 (qm1 bs g l):=
 qaA 300 [] [.t false,.t true]
  (qaj (qaB []) (qm1 bs g l)) (Ai h0 (Ai h1 tI)) (by kernel_rfl)
theorem qpd {z:Int} {l:List Pt} {g:List Int} {bs:List Bool} (h0:(z==(-1))=false) (h1:decide (z<0)=false) (h2:decide (z≥(l.length:Int))=true) :
 FnO Try.prog 83 1 4 [.pp 3 0,.pv (iV (z))] (qkG bs g l) (.pv (.bool false)) 0 (qm1 bs g l):=
 qaA 300 [] [.t false,.t false,.t true]
  (qaj (qaB []) (qm1 bs g l)) (Ai h0 (Ai h1 (Ai h2 tI))) (by kernel_rfl)
theorem qll {z:Int} {l:List Pt} {g:List Int} {bs:List Bool} (h0:(z==(-1))=false) (h1:decide (z<0)=false) (h2:decide (z≥(l.length:Int))=false) (hin:0≤z∧z<(l.length:Int)) (hs:bs[z.toNat]?=some true) :
 FnO Try.prog 83 1 4 [.pp 3 0,.pv (iV (z))] (qkG bs g l) (.pv (.bool false)) 0 (qm1 bs g l):=
 qaA 300 [] [.t false,.t false,.t false,.r (.bool true)]
  (qaj (qaB []) (qm1 bs g l)) (Ai h0 (Ai h1 (Ai h2 (Ai hin (Ai (qfO hs) tI))))) (by kernel_rfl)
abbrev qeI (bs:List Bool) (g:List Int) (l:List Pt) (z:Int):HpL:=[(3,0,.ls 0 l.length),(3,1,.ls 1 l.length),(3,2,.ls 2 g.length),(1,0,.row 4 1 l.length (zbV (bs.set z.toNat true))),(2,0,.row 3 1 g.length (ziV g)),(0,0,qaa l)]
abbrev qgu (bs1:List Bool) (c1:List Int) (l:List Pt):HpL:=[(3,0,.ls 0 l.length),(3,1,.ls 1 l.length),(3,2,.ls 4 c1.length),(1,0,.row 4 1 l.length (zbV bs1)),(4,0,.row 3 1 c1.length (ziV c1))]
theorem qqq {z:Int} {l:List Pt} {p:Pt} {g c1:List Int} {bs bs1:List Bool} (h0:(z==(-1))=false) (h1:decide (z<0)=false) (h2:decide (z≥(l.length:Int))=false) (hin:0≤z∧z<(l.length:Int)) (hs:bs[z.toNat]?=some false) (hb:z.toNat<bs.length) (hk:l[z.toNat]?=some p) (hl:FnO Try.prog 83 1 4 [.pp 3 0,.pv (iV (p.a))] (qeI bs g l z) (.pv (.bool false)) 1 (qgu bs1 c1 l)) :
 FnO Try.prog 83 1 4 [.pp 3 0,.pv (iV (z))] (qkG bs g l) (.pv (.bool false)) 1 (qgu bs1 c1 l):=
 qaA 300 [] [.t false,.t false,.t false,.r (.bool false),.w (zbV (bs.set z.toNat true)),.r (iV p.a),.fo 1 [0,1,2,3] [.pp 3 0,.pv (iV (p.a))] (qeI bs g l z) (.pv (.bool false)) 1 (qgu bs1 c1 l),.k]
  (qaj (qaB []) (qgu bs1 c1 l)) (Ai h0 (Ai h1 (Ai h2 (Ai hin (Ai (qfO hs) (Ai hin (Ai (qpJ bs z.toNat true hb) (Ai (qdR bs z.toNat hb) (Ai hin (Ai (qbI hk) (Ai hl (Ai (Eq.refl (List.map (SV.ren (qaq [0,1,2,3] 4)) [.pp 3 0,.pv (iV (p.a))])) (Ai (qaj (qaq [0,1,2,3] 4) (qeI bs g l z)) tI))))))))))))) (by kernel_rfl)
abbrev qnn (bs1:List Bool) (g:List Int) (l:List Pt):HpL:=[(3,0,.ls 0 l.length),(3,1,.ls 1 l.length),(3,2,.ls 2 g.length),(1,0,.row 4 1 l.length (zbV bs1)),(2,0,.row 3 1 g.length (ziV g))]
theorem qrq {z:Int} {l:List Pt} {p:Pt} {g:List Int} {bs bs1:List Bool} (h0:(z==(-1))=false) (h1:decide (z<0)=false) (h2:decide (z≥(l.length:Int))=false) (hin:0≤z∧z<(l.length:Int)) (hs:bs[z.toNat]?=some false) (hb:z.toNat<bs.length) (hk:l[z.toNat]?=some p) (hl:FnO Try.prog 83 1 4 [.pp 3 0,.pv (iV (p.a))] (qeI bs g l z) (.pv (.bool false)) 0 (qnn bs1 g l)) :
 FnO Try.prog 83 1 4 [.pp 3 0,.pv (iV (z))] (qkG bs g l) (.pv (.bool false)) 0 (qnn bs1 g l):=
 qaA 300 [] [.t false,.t false,.t false,.r (.bool false),.w (zbV (bs.set z.toNat true)),.r (iV p.a),.fo 1 [0,1,2,3] [.pp 3 0,.pv (iV (p.a))] (qeI bs g l z) (.pv (.bool false)) 0 (qnn bs1 g l),.k]
  (qaj (qaB []) (qnn bs1 g l)) (Ai h0 (Ai h1 (Ai h2 (Ai hin (Ai (qfO hs) (Ai hin (Ai (qpJ bs z.toNat true hb) (Ai (qdR bs z.toNat hb) (Ai hin (Ai (qbI hk) (Ai hl (Ai (Eq.refl (List.map (SV.ren (qaq [0,1,2,3] 4)) [.pp 3 0,.pv (iV (p.a))])) (Ai (qaj (qaq [0,1,2,3] 4) (qeI bs g l z)) tI))))))))))))) (by kernel_rfl)
abbrev qnm (bs2:List Bool) (c2:List Int) (l:List Pt):HpL:=[(3,0,.ls 0 l.length),(3,1,.ls 1 l.length),(3,2,.ls 4 c2.length),(1,0,.row 4 1 l.length (zbV bs2)),(4,0,.row 3 1 c2.length (ziV c2))]
abbrev qh3 (bs1:List Bool) (c1:List Int) (l:List Pt) (z:Int):HpL:=[(3,0,.ls 0 l.length),(3,1,.ls 1 l.length),(3,2,.ls 2 (c1.length+1)),(1,0,.row 4 1 l.length (zbV bs1)),(2,0,.row 3 1 (c1.length+1) (ziV c1++[iV z])),(0,0,qaa l)]
theorem qqh {z:Int} {l:List Pt} {p:Pt} {g c1 c2:List Int} {w:Bool} {bs bs1 bs2:List Bool} (h0:(z==(-1))=false) (h1:decide (z<0)=false) (h2:decide (z≥(l.length:Int))=false) (hin:0≤z∧z<(l.length:Int)) (hs:bs[z.toNat]?=some false) (hb:z.toNat<bs.length) (hk:l[z.toNat]?=some p) (hl:FnO Try.prog 83 1 4 [.pp 3 0,.pv (iV (p.a))] (qeI bs g l z) (.pv (.bool true)) 1 (qgu bs1 c1 l)) (hn:c1.length+1≤1000000) (hr:FnO Try.prog 83 1 4 [.pp 3 0,.pv (iV (p.b))] (qh3 bs1 c1 l z) (.pv (.bool w)) 1 (qnm bs2 c2 l)) :
 FnO Try.prog 83 1 4 [.pp 3 0,.pv (iV (z))] (qkG bs g l) (.pv (.bool w)) 1 (qnm bs2 c2 l):=
 qaA 300 [(4,7)] [.t false,.t false,.t false,.r (.bool false),.w (zbV (bs.set z.toNat true)),.r (iV p.a),.fo 1 [0,1,2,3] [.pp 3 0,.pv (iV (p.a))] (qeI bs g l z) (.pv (.bool true)) 1 (qgu bs1 c1 l),.k,.r (iV p.b),.fo 1 [0,1,6,3] [.pp 3 0,.pv (iV (p.b))] (qh3 bs1 c1 l z) (.pv (.bool w)) 1 (qnm bs2 c2 l)]
  (qaj (qaB [(4,7)]) (qnm bs2 c2 l)) (Ai h0 (Ai h1 (Ai h2 (Ai hin (Ai (qfO hs) (Ai hin (Ai (qpJ bs z.toNat true hb) (Ai (qdR bs z.toNat hb) (Ai hin (Ai (qbI hk) (Ai hl (Ai (Eq.refl (List.map (SV.ren (qaq [0,1,2,3] 4)) [.pp 3 0,.pv (iV (p.a))])) (Ai (qaj (qaq [0,1,2,3] 4) (qeI bs g l z)) (Ai hn (Ai hin (Ai (qbP hk) (Ai hr (Ai (Eq.refl (List.map (SV.ren (qaq [0,1,6,3] 7)) [.pp 3 0,.pv (iV (p.b))])) (Ai (qaj (qaq [0,1,6,3] 7) (qh3 bs1 c1 l z)) tI))))))))))))))))))) (by kernel_rfl)
theorem qp7 {z:Int} {l:List Pt} {p:Pt} {g c1:List Int} {w:Bool} {bs bs1 bs2:List Bool} (h0:(z==(-1))=false) (h1:decide (z<0)=false) (h2:decide (z≥(l.length:Int))=false) (hin:0≤z∧z<(l.length:Int)) (hs:bs[z.toNat]?=some false) (hb:z.toNat<bs.length) (hk:l[z.toNat]?=some p) (hl:FnO Try.prog 83 1 4 [.pp 3 0,.pv (iV (p.a))] (qeI bs g l z) (.pv (.bool true)) 1 (qgu bs1 c1 l)) (hn:c1.length+1≤1000000) (hr:FnO Try.prog 83 1 4 [.pp 3 0,.pv (iV (p.b))] (qh3 bs1 c1 l z) (.pv (.bool w)) 0 [(3,0,.ls 0 l.length),(3,1,.ls 1 l.length),(3,2,.ls 2 (c1.length+1)),(1,0,.row 4 1 l.length (zbV bs2)),(2,0,.row 3 1 (c1.length+1) (ziV c1++[iV z]))]) :
 FnO Try.prog 83 1 4 [.pp 3 0,.pv (iV (z))] (qkG bs g l) (.pv (.bool w)) 1 [(3,0,.ls 0 l.length),(3,1,.ls 1 l.length),(3,2,.ls 4 (c1.length+1)),(1,0,.row 4 1 l.length (zbV bs2)),(4,0,.row 3 1 (c1.length+1) (ziV c1++[iV z]))]:=
 qaA 300 [(4,6)] [.t false,.t false,.t false,.r (.bool false),.w (zbV (bs.set z.toNat true)),.r (iV p.a),.fo 1 [0,1,2,3] [.pp 3 0,.pv (iV (p.a))] (qeI bs g l z) (.pv (.bool true)) 1 (qgu bs1 c1 l),.k,.r (iV p.b),.fo 1 [0,1,6,3] [.pp 3 0,.pv (iV (p.b))] (qh3 bs1 c1 l z) (.pv (.bool w)) 0 [(3,0,.ls 0 l.length),(3,1,.ls 1 l.length),(3,2,.ls 2 (c1.length+1)),(1,0,.row 4 1 l.length (zbV bs2)),(2,0,.row 3 1 (c1.length+1) (ziV c1++[iV z]))]]
  (qaj (qaB [(4,6)]) [(3,0,.ls 0 l.length),(3,1,.ls 1 l.length),(3,2,.ls 4 (c1.length+1)),(1,0,.row 4 1 l.length (zbV bs2)),(4,0,.row 3 1 (c1.length+1) (ziV c1++[iV z]))]) (Ai h0 (Ai h1 (Ai h2 (Ai hin (Ai (qfO hs) (Ai hin (Ai (qpJ bs z.toNat true hb) (Ai (qdR bs z.toNat hb) (Ai hin (Ai (qbI hk) (Ai hl (Ai (Eq.refl (List.map (SV.ren (qaq [0,1,2,3] 4)) [.pp 3 0,.pv (iV (p.a))])) (Ai (qaj (qaq [0,1,2,3] 4) (qeI bs g l z)) (Ai hn (Ai hin (Ai (qbP hk) (Ai hr (Ai (Eq.refl (List.map (SV.ren (qaq [0,1,6,3] 7)) [.pp 3 0,.pv (iV (p.b))])) (Ai (qaj (qaq [0,1,6,3] 7) (qh3 bs1 c1 l z)) tI))))))))))))))))))) (by kernel_rfl)
abbrev qhH (bs1:List Bool) (g:List Int) (l:List Pt) (z:Int):HpL:=[(3,0,.ls 0 l.length),(3,1,.ls 1 l.length),(3,2,.ls 2 (g.length+1)),(1,0,.row 4 1 l.length (zbV bs1)),(2,0,.row 3 1 (g.length+1) (ziV g++[iV z])),(0,0,qaa l)]
theorem qqJ {z:Int} {l:List Pt} {p:Pt} {g c2:List Int} {w:Bool} {bs bs1 bs2:List Bool} (h0:(z==(-1))=false) (h1:decide (z<0)=false) (h2:decide (z≥(l.length:Int))=false) (hin:0≤z∧z<(l.length:Int)) (hs:bs[z.toNat]?=some false) (hb:z.toNat<bs.length) (hk:l[z.toNat]?=some p) (hl:FnO Try.prog 83 1 4 [.pp 3 0,.pv (iV (p.a))] (qeI bs g l z) (.pv (.bool true)) 0 (qnn bs1 g l)) (hn:g.length+1≤1000000) (hr:FnO Try.prog 83 1 4 [.pp 3 0,.pv (iV (p.b))] (qhH bs1 g l z) (.pv (.bool w)) 1 (qnm bs2 c2 l)) :
 FnO Try.prog 83 1 4 [.pp 3 0,.pv (iV (z))] (qkG bs g l) (.pv (.bool w)) 1 (qnm bs2 c2 l):=
 qaA 300 [(4,6)] [.t false,.t false,.t false,.r (.bool false),.w (zbV (bs.set z.toNat true)),.r (iV p.a),.fo 1 [0,1,2,3] [.pp 3 0,.pv (iV (p.a))] (qeI bs g l z) (.pv (.bool true)) 0 (qnn bs1 g l),.k,.r (iV p.b),.fo 1 [0,1,5,3] [.pp 3 0,.pv (iV (p.b))] (qhH bs1 g l z) (.pv (.bool w)) 1 (qnm bs2 c2 l)]
  (qaj (qaB [(4,6)]) (qnm bs2 c2 l)) (Ai h0 (Ai h1 (Ai h2 (Ai hin (Ai (qfO hs) (Ai hin (Ai (qpJ bs z.toNat true hb) (Ai (qdR bs z.toNat hb) (Ai hin (Ai (qbI hk) (Ai hl (Ai (Eq.refl (List.map (SV.ren (qaq [0,1,2,3] 4)) [.pp 3 0,.pv (iV (p.a))])) (Ai (qaj (qaq [0,1,2,3] 4) (qeI bs g l z)) (Ai hn (Ai hin (Ai (qbP hk) (Ai hr (Ai (Eq.refl (List.map (SV.ren (qaq [0,1,5,3] 6)) [.pp 3 0,.pv (iV (p.b))])) (Ai (qaj (qaq [0,1,5,3] 6) (qhH bs1 g l z)) tI))))))))))))))))))) (by kernel_rfl)
theorem qrB {z:Int} {l:List Pt} {p:Pt} {g:List Int} {w:Bool} {bs bs1 bs2:List Bool} (h0:(z==(-1))=false) (h1:decide (z<0)=false) (h2:decide (z≥(l.length:Int))=false) (hin:0≤z∧z<(l.length:Int)) (hs:bs[z.toNat]?=some false) (hb:z.toNat<bs.length) (hk:l[z.toNat]?=some p) (hl:FnO Try.prog 83 1 4 [.pp 3 0,.pv (iV (p.a))] (qeI bs g l z) (.pv (.bool true)) 0 (qnn bs1 g l)) (hn:g.length+1≤1000000) (hr:FnO Try.prog 83 1 4 [.pp 3 0,.pv (iV (p.b))] (qhH bs1 g l z) (.pv (.bool w)) 0 [(3,0,.ls 0 l.length),(3,1,.ls 1 l.length),(3,2,.ls 2 (g.length+1)),(1,0,.row 4 1 l.length (zbV bs2)),(2,0,.row 3 1 (g.length+1) (ziV g++[iV z]))]) :
 FnO Try.prog 83 1 4 [.pp 3 0,.pv (iV (z))] (qkG bs g l) (.pv (.bool w)) 1 [(3,0,.ls 0 l.length),(3,1,.ls 1 l.length),(3,2,.ls 4 (g.length+1)),(1,0,.row 4 1 l.length (zbV bs2)),(4,0,.row 3 1 (g.length+1) (ziV g++[iV z]))]:=
 qaA 300 [(4,5)] [.t false,.t false,.t false,.r (.bool false),.w (zbV (bs.set z.toNat true)),.r (iV p.a),.fo 1 [0,1,2,3] [.pp 3 0,.pv (iV (p.a))] (qeI bs g l z) (.pv (.bool true)) 0 (qnn bs1 g l),.k,.r (iV p.b),.fo 1 [0,1,5,3] [.pp 3 0,.pv (iV (p.b))] (qhH bs1 g l z) (.pv (.bool w)) 0 [(3,0,.ls 0 l.length),(3,1,.ls 1 l.length),(3,2,.ls 2 (g.length+1)),(1,0,.row 4 1 l.length (zbV bs2)),(2,0,.row 3 1 (g.length+1) (ziV g++[iV z]))]]
  (qaj (qaB [(4,5)]) [(3,0,.ls 0 l.length),(3,1,.ls 1 l.length),(3,2,.ls 4 (g.length+1)),(1,0,.row 4 1 l.length (zbV bs2)),(4,0,.row 3 1 (g.length+1) (ziV g++[iV z]))]) (Ai h0 (Ai h1 (Ai h2 (Ai hin (Ai (qfO hs) (Ai hin (Ai (qpJ bs z.toNat true hb) (Ai (qdR bs z.toNat hb) (Ai hin (Ai (qbI hk) (Ai hl (Ai (Eq.refl (List.map (SV.ren (qaq [0,1,2,3] 4)) [.pp 3 0,.pv (iV (p.a))])) (Ai (qaj (qaq [0,1,2,3] 4) (qeI bs g l z)) (Ai hn (Ai hin (Ai (qbP hk) (Ai hr (Ai (Eq.refl (List.map (SV.ren (qaq [0,1,5,3] 6)) [.pp 3 0,.pv (iV (p.b))])) (Ai (qaj (qaq [0,1,5,3] 6) (qhH bs1 g l z)) tI))))))))))))))))))) (by kernel_rfl)
abbrev qik (l:List Pt):HpL:=[(3,0,.ls 0 l.length),(3,1,.ls 1 l.length),(3,2,.ls 2 0),(1,0,.row 4 1 l.length (zbV (List.replicate l.length false))),(2,0,.row 3 1 0 ([])),(0,0,qaa l)]
theorem qp3 {rt:Int} {l:List Pt} {c1:List Int} {bs1:List Bool} (m0:0≤(l.length:Int)) (m1:(l.length:Int)≤1000000) (hf:FnO Try.prog 83 1 4 [.pp 3 0,.pv (iV (rt))] (qik l) (.pv (.bool false)) 1 (qgu bs1 c1 l)) :
 Fn 45 1 [trS 0 rt l] [(0,0,qaa l)] (.tu [.one (.ls 1 c1.length),.one (.pv (.bool false))]) 1 [(1,0,.row 3 1 c1.length (ziV c1))]:=
 Fz [(1,5)] [.md,.lz false 3 2 3 1,.fo 1 [0,2,4,3] [.pp 3 0,.pv (iV (rt))] (qik l) (.pv (.bool false)) 1 (qgu bs1 c1 l)]
  (qaj (qaB [(1,5)]) [(1,0,.row 3 1 c1.length (ziV c1))]) (Ai m0 (Ai (Eq.refl (l.length:Int)) (Ai m1 (Ai hf (Ai (Eq.refl (List.map (SV.ren (qaq [0,2,4,3] 5)) [.pp 3 0,.pv (iV (rt))])) (Ai (Ai (Er (SV.ls 0 l.length)) (Ai (Er (SV.ls 2 l.length)) (Ai (Er (SV.ls 4 0)) (Ai (qcT l.length) (Ai (Er (SV.row 3 1 0 [])) (Ai (Er (qaa l)) tI)))))) tI))))))
theorem qj0 {rt:Int} {l:List Pt} {c1:List Int} {bs1:List Bool} (m0:0≤(l.length:Int)) (m1:(l.length:Int)≤1000000) (hf:FnO Try.prog 83 1 4 [.pp 3 0,.pv (iV (rt))] (qik l) (.pv (.bool true)) 1 (qgu bs1 c1 l)) (he:(((c1.length:Int):Int)==(l.length:Int))=true) :
 Fn 45 1 [trS 0 rt l] [(0,0,qaa l)] (.tu [.one (.ls 1 c1.length),.one (.pv (.bool true))]) 1 [(1,0,.row 3 1 c1.length (ziV c1))]:=
 Fz [(1,5)] [.md,.lz false 3 2 3 1,.fo 1 [0,2,4,3] [.pp 3 0,.pv (iV (rt))] (qik l) (.pv (.bool true)) 1 (qgu bs1 c1 l),.t true]
  (qaj (qaB [(1,5)]) [(1,0,.row 3 1 c1.length (ziV c1))]) (Ai m0 (Ai (Eq.refl (l.length:Int)) (Ai m1 (Ai hf (Ai (Eq.refl (List.map (SV.ren (qaq [0,2,4,3] 5)) [.pp 3 0,.pv (iV (rt))])) (Ai (Ai (Er (SV.ls 0 l.length)) (Ai (Er (SV.ls 2 l.length)) (Ai (Er (SV.ls 4 0)) (Ai (qcT l.length) (Ai (Er (SV.row 3 1 0 [])) (Ai (Er (qaa l)) tI)))))) (Ai he tI)))))))
theorem qhC {rt:Int} {l:List Pt} {c1:List Int} {bs1:List Bool} (m0:0≤(l.length:Int)) (m1:(l.length:Int)≤1000000) (hf:FnO Try.prog 83 1 4 [.pp 3 0,.pv (iV (rt))] (qik l) (.pv (.bool true)) 1 (qgu bs1 c1 l)) (he:(((c1.length:Int):Int)==(l.length:Int))=false) :
 Fn 45 1 [trS 0 rt l] [(0,0,qaa l)] (.tu [.one (.ls 1 c1.length),.one (.pv (.bool false))]) 1 [(1,0,.row 3 1 c1.length (ziV c1))]:=
 Fz [(1,5)] [.md,.lz false 3 2 3 1,.fo 1 [0,2,4,3] [.pp 3 0,.pv (iV (rt))] (qik l) (.pv (.bool true)) 1 (qgu bs1 c1 l),.t false]
  (qaj (qaB [(1,5)]) [(1,0,.row 3 1 c1.length (ziV c1))]) (Ai m0 (Ai (Eq.refl (l.length:Int)) (Ai m1 (Ai hf (Ai (Eq.refl (List.map (SV.ren (qaq [0,2,4,3] 5)) [.pp 3 0,.pv (iV (rt))])) (Ai (Ai (Er (SV.ls 0 l.length)) (Ai (Er (SV.ls 2 l.length)) (Ai (Er (SV.ls 4 0)) (Ai (qcT l.length) (Ai (Er (SV.row 3 1 0 [])) (Ai (Er (qaa l)) tI)))))) (Ai he tI)))))))
abbrev qpG (bs1:List Bool) (l:List Pt):HpL:=[(3,0,.ls 0 l.length),(3,1,.ls 1 l.length),(3,2,.ls 2 0),(1,0,.row 4 1 l.length (zbV bs1)),(2,0,.row 3 1 0 ([]))]
theorem qqr {rt:Int} {l:List Pt} {bs1:List Bool} (m0:0≤(l.length:Int)) (m1:(l.length:Int)≤1000000) (hf:FnO Try.prog 83 1 4 [.pp 3 0,.pv (iV (rt))] (qik l) (.pv (.bool false)) 0 (qpG bs1 l)) :
 Fn 45 1 [trS 0 rt l] [(0,0,qaa l)] (.tu [.one (.ls 1 0),.one (.pv (.bool false))]) 1 [(1,0,.row 3 1 0 ([]))]:=
 Fz [(1,4)] [.md,.lz false 3 2 3 1,.fo 1 [0,2,4,3] [.pp 3 0,.pv (iV (rt))] (qik l) (.pv (.bool false)) 0 (qpG bs1 l)]
  (qaj (qaB [(1,4)]) [(1,0,.row 3 1 0 ([]))]) (Ai m0 (Ai (Eq.refl (l.length:Int)) (Ai m1 (Ai hf (Ai (Eq.refl (List.map (SV.ren (qaq [0,2,4,3] 5)) [.pp 3 0,.pv (iV (rt))])) (Ai (Ai (Er (SV.ls 0 l.length)) (Ai (Er (SV.ls 2 l.length)) (Ai (Er (SV.ls 4 0)) (Ai (qcT l.length) (Ai (Er (SV.row 3 1 0 [])) (Ai (Er (qaa l)) tI)))))) tI))))))
theorem qjD {rt:Int} {l:List Pt} {bs1:List Bool} (m0:0≤(l.length:Int)) (m1:(l.length:Int)≤1000000) (hf:FnO Try.prog 83 1 4 [.pp 3 0,.pv (iV (rt))] (qik l) (.pv (.bool true)) 0 (qpG bs1 l)) (he:((0:Int)==(l.length:Int))=true) :
 Fn 45 1 [trS 0 rt l] [(0,0,qaa l)] (.tu [.one (.ls 1 0),.one (.pv (.bool true))]) 1 [(1,0,.row 3 1 0 ([]))]:=
 Fz [(1,4)] [.md,.lz false 3 2 3 1,.fo 1 [0,2,4,3] [.pp 3 0,.pv (iV (rt))] (qik l) (.pv (.bool true)) 0 (qpG bs1 l),.t true]
  (qaj (qaB [(1,4)]) [(1,0,.row 3 1 0 ([]))]) (Ai m0 (Ai (Eq.refl (l.length:Int)) (Ai m1 (Ai hf (Ai (Eq.refl (List.map (SV.ren (qaq [0,2,4,3] 5)) [.pp 3 0,.pv (iV (rt))])) (Ai (Ai (Er (SV.ls 0 l.length)) (Ai (Er (SV.ls 2 l.length)) (Ai (Er (SV.ls 4 0)) (Ai (qcT l.length) (Ai (Er (SV.row 3 1 0 [])) (Ai (Er (qaa l)) tI)))))) (Ai he tI)))))))
theorem qh0 {rt:Int} {l:List Pt} {bs1:List Bool} (m0:0≤(l.length:Int)) (m1:(l.length:Int)≤1000000) (hf:FnO Try.prog 83 1 4 [.pp 3 0,.pv (iV (rt))] (qik l) (.pv (.bool true)) 0 (qpG bs1 l)) (he:((0:Int)==(l.length:Int))=false) :
 Fn 45 1 [trS 0 rt l] [(0,0,qaa l)] (.tu [.one (.ls 1 0),.one (.pv (.bool false))]) 1 [(1,0,.row 3 1 0 ([]))]:=
 Fz [(1,4)] [.md,.lz false 3 2 3 1,.fo 1 [0,2,4,3] [.pp 3 0,.pv (iV (rt))] (qik l) (.pv (.bool true)) 0 (qpG bs1 l),.t false]
  (qaj (qaB [(1,4)]) [(1,0,.row 3 1 0 ([]))]) (Ai m0 (Ai (Eq.refl (l.length:Int)) (Ai m1 (Ai hf (Ai (Eq.refl (List.map (SV.ren (qaq [0,2,4,3] 5)) [.pp 3 0,.pv (iV (rt))])) (Ai (Ai (Er (SV.ls 0 l.length)) (Ai (Er (SV.ls 2 l.length)) (Ai (Er (SV.ls 4 0)) (Ai (qcT l.length) (Ai (Er (SV.row 3 1 0 [])) (Ai (Er (qaa l)) tI)))))) (Ai he tI)))))))
theorem qoi {z v:Int} {l:List Pt} {n:Nat} (h0:(z==(-1))=true) :
 FnO Try.prog 54 0 1 [.ls 0 n,.pv (iV (z)),.pv (iV (v))] [(0,0,.row 26 3 n (qah l))] (.pv (.tuple #[iV (-1),iV (-1)])) 0 [(0,0,.row 26 3 n (qah l))]:=
 qaA 300 [] [.t true]
  (qaj (qaB []) [(0,0,.row 26 3 n (qah l))]) (Ai h0 tI) (by kernel_rfl)
theorem qom {x y z v:Int} {l n1:List Pt} {p:Pt} {n:Nat} {p2:Pt} (h0:(z==(-1))=false) (hin:0≤z∧z<(n:Int)) (hk:l[z.toNat]?=some p) (hc:decide (p.id<v)=true) (hl:FnO Try.prog 54 0 1 [.ls 0 n,.pv (iV (p.b)),.pv (iV (v))] [(0,0,.row 26 3 n (qah l))] (.pv (.tuple #[iV x,iV y])) 0 [(0,0,.row 26 3 n (qah n1))]) (hs:n1[z.toNat]?=some p2) :
 FnO Try.prog 54 0 1 [.ls 0 n,.pv (iV (z)),.pv (iV (v))] [(0,0,.row 26 3 n (qah l))] (.pv (.tuple #[iV z,iV y])) 0 [(0,0,.row 26 3 n (qah (n1.set z.toNat ⟨p2.id,p2.a,x⟩)))]:=
 qaA 300 [] [.t false,.r (iV p.id),.t true,.r (iV p.b),.fo 0 [0] [.ls 0 n,.pv (iV (p.b)),.pv (iV (v))] [(0,0,.row 26 3 n (qah l))] (.pv (.tuple #[iV x,iV y])) 0 [(0,0,.row 26 3 n (qah n1))],.w (qah (n1.set z.toNat ⟨p2.id,p2.a,x⟩))]
  (qaj (qaB []) [(0,0,.row 26 3 n (qah (n1.set z.toNat ⟨p2.id,p2.a,x⟩)))]) (Ai h0 (Ai hin (Ai (qaM hk) (Ai hc (Ai hin (Ai (qbP hk) (Ai hl (Ai (Eq.refl (List.map (SV.ren (qaq [0] 1)) [.ls 0 n,.pv (iV (p.b)),.pv (iV (v))])) (Ai (qaj (qaq [0] 1) [(0,0,.row 26 3 n (qah l))]) (Ai hin (Ai (qoj hs x) (Ai (qn1 hs) tI)))))))))))) (by kernel_rfl)
theorem qmp {x y z v:Int} {l n1:List Pt} {p:Pt} {n:Nat} {p2:Pt} (h0:(z==(-1))=false) (hin:0≤z∧z<(n:Int)) (hk:l[z.toNat]?=some p) (hc:decide (p.id<v)=false) (hl:FnO Try.prog 54 0 1 [.ls 0 n,.pv (iV (p.a)),.pv (iV (v))] [(0,0,.row 26 3 n (qah l))] (.pv (.tuple #[iV x,iV y])) 0 [(0,0,.row 26 3 n (qah n1))]) (hs:n1[z.toNat]?=some p2) :
 FnO Try.prog 54 0 1 [.ls 0 n,.pv (iV (z)),.pv (iV (v))] [(0,0,.row 26 3 n (qah l))] (.pv (.tuple #[iV x,iV z])) 0 [(0,0,.row 26 3 n (qah (n1.set z.toNat ⟨p2.id,y,p2.b⟩)))]:=
 qaA 300 [] [.t false,.r (iV p.id),.t false,.r (iV p.a),.fo 0 [0] [.ls 0 n,.pv (iV (p.a)),.pv (iV (v))] [(0,0,.row 26 3 n (qah l))] (.pv (.tuple #[iV x,iV y])) 0 [(0,0,.row 26 3 n (qah n1))],.w (qah (n1.set z.toNat ⟨p2.id,y,p2.b⟩))]
  (qaj (qaB []) [(0,0,.row 26 3 n (qah (n1.set z.toNat ⟨p2.id,y,p2.b⟩)))]) (Ai h0 (Ai hin (Ai (qaM hk) (Ai hc (Ai hin (Ai (qbI hk) (Ai hl (Ai (Eq.refl (List.map (SV.ren (qaq [0] 1)) [.ls 0 n,.pv (iV (p.a)),.pv (iV (v))])) (Ai (qaj (qaq [0] 1) [(0,0,.row 26 3 n (qah l))]) (Ai hin (Ai (qoT hs y) (Ai (qnE hs) tI)))))))))))) (by kernel_rfl)
abbrev qkE (l:List Pt) (n:Nat) (s:List Pt):HpL:=[(0,0,qan s),(1,0,.row 26 3 n (qah l))]
theorem qtA {z v tn td:Int} {s l:List Pt} {n:Nat} (h0:(z==(-1))=true) :
 FnO Try.prog 62 1 2 [.ag [.ls 1 n,.ls 0 s.length,.pv (iV tn),.pv (iV td)],.pv (iV (z)),.pv (iV (v))] (qkE l n s) (.pv (iV (v))) 0 [(1,0,.row 26 3 n (qah l))]:=
 qaA 300 [] [.t true]
  (qaj (qaB []) [(1,0,.row 26 3 n (qah l))]) (Ai h0 tI) (by kernel_rfl)
theorem qst {z v tn td:Int} {s l:List Pt} {n:Nat} (h0:(z==(-1))=false) (h1:(v==(-1))=true) :
 FnO Try.prog 62 1 2 [.ag [.ls 1 n,.ls 0 s.length,.pv (iV tn),.pv (iV td)],.pv (iV (z)),.pv (iV (v))] (qkE l n s) (.pv (iV (z))) 0 [(1,0,.row 26 3 n (qah l))]:=
 qaA 300 [] [.t false,.t true]
  (qaj (qaB []) [(1,0,.row 26 3 n (qah l))]) (Ai h0 (Ai h1 tI)) (by kernel_rfl)
theorem qtd {x z v tn td:Int} {s l n1:List Pt} {p:Pt} {n:Nat} {p1 q1 p2:Pt} (h0:(z==(-1))=false) (h1:(v==(-1))=false) (hin:0≤z∧z<(n:Int)) (hjn:0≤v∧v<(n:Int)) (hpn:0≤z∧z<(s.length:Int)) (hqn:0≤v∧v<(s.length:Int)) (hp:s[z.toNat]?=some p1) (hq:s[v.toNat]?=some q1) (hw:Pure Try.prog 79 #[ptV p1,ptV q1,qad tn td] (.tuple #[.bool true,iV 0])) (hk:l[z.toNat]?=some p) (hl:FnO Try.prog 62 1 2 [.ag [.ls 1 n,.ls 0 s.length,.pv (iV tn),.pv (iV td)],.pv (iV (p.b)),.pv (iV (v))] (qkE l n s) (.pv (iV (x))) 0 [(1,0,.row 26 3 n (qah n1))]) (hs:n1[z.toNat]?=some p2) :
 FnO Try.prog 62 1 2 [.ag [.ls 1 n,.ls 0 s.length,.pv (iV tn),.pv (iV td)],.pv (iV (z)),.pv (iV (v))] (qkE l n s) (.pv (iV (z))) 0 [(1,0,.row 26 3 n (qah (n1.set z.toNat ⟨p2.id,p2.a,x⟩)))]:=
 qaA 300 [] [.t false,.t false,.r (ptV p1),.r (ptV q1),.r (.tuple #[.bool true,iV 0]),.gh [(2,0),(2,1),(2,2),(2,3)],.r (iV p.b),.fo 1 [0,1] [.ag [.ls 1 n,.ls 0 s.length,.pv (iV tn),.pv (iV td)],.pv (iV (p.b)),.pv (iV (v))] (qkE l n s) (.pv (iV (x))) 0 [(1,0,.row 26 3 n (qah n1))],.w (qah (n1.set z.toNat ⟨p2.id,p2.a,x⟩))]
  (qaj (qaB []) [(1,0,.row 26 3 n (qah (n1.set z.toNat ⟨p2.id,p2.a,x⟩)))]) (Ai h0 (Ai h1 (Ai hpn (Ai (qcU hp) (Ai hqn (Ai (qcU hq) (Ai hw (Ai (Er (SV.ls 1 n)) (Ai (Er (SV.ls 0 s.length)) (Ai (Er (SV.pv (iV tn))) (Ai (Er (SV.pv (iV td))) (Ai hin (Ai (Er (SV.ls 1 n)) (Ai (Er (SV.ls 0 s.length)) (Ai (Er (SV.pv (iV tn))) (Ai (Er (SV.pv (iV td))) (Ai (Er (SV.ls 1 n)) (Ai (Er (SV.ls 0 s.length)) (Ai (Er (SV.pv (iV tn))) (Ai (Er (SV.pv (iV td))) (Ai (qbP hk) (Ai (Er (SV.ls 1 n)) (Ai (Er (SV.ls 0 s.length)) (Ai (Er (SV.pv (iV tn))) (Ai (Er (SV.pv (iV td))) (Ai hl (Ai (Eq.refl (List.map (SV.ren (qaq [0,1] 3)) [.ag [.ls 1 n,.ls 0 s.length,.pv (iV tn),.pv (iV td)],.pv (iV (p.b)),.pv (iV (v))])) (Ai (qaj (qaq [0,1] 3) (qkE l n s)) (Ai (Er (SV.ls 1 n)) (Ai (Er (SV.ls 0 s.length)) (Ai (Er (SV.pv (iV tn))) (Ai (Er (SV.pv (iV td))) (Ai hin (Ai (Er (SV.ls 1 n)) (Ai (Er (SV.ls 0 s.length)) (Ai (Er (SV.pv (iV tn))) (Ai (Er (SV.pv (iV td))) (Ai (Er (SV.ls 1 n)) (Ai (Er (SV.ls 0 s.length)) (Ai (Er (SV.pv (iV tn))) (Ai (Er (SV.pv (iV td))) (Ai (qoj hs x) (Ai (qn1 hs) (Ai (Er (SV.ls 1 n)) (Ai (Er (SV.ls 0 s.length)) (Ai (Er (SV.pv (iV tn))) (Ai (Er (SV.pv (iV td))) tI))))))))))))))))))))))))))))))))))))))))))))))) (by kernel_rfl)
theorem qsp {x z v tn td:Int} {s l n1:List Pt} {q:Pt} {n:Nat} {p1 q1 p2:Pt} (h0:(z==(-1))=false) (h1:(v==(-1))=false) (hin:0≤z∧z<(n:Int)) (hjn:0≤v∧v<(n:Int)) (hpn:0≤z∧z<(s.length:Int)) (hqn:0≤v∧v<(s.length:Int)) (hp:s[z.toNat]?=some p1) (hq:s[v.toNat]?=some q1) (hw:Pure Try.prog 79 #[ptV p1,ptV q1,qad tn td] (.tuple #[.bool false,iV 0])) (hk:l[v.toNat]?=some q) (hl:FnO Try.prog 62 1 2 [.ag [.ls 1 n,.ls 0 s.length,.pv (iV tn),.pv (iV td)],.pv (iV (z)),.pv (iV (q.a))] (qkE l n s) (.pv (iV (x))) 0 [(1,0,.row 26 3 n (qah n1))]) (hs:n1[v.toNat]?=some p2) :
 FnO Try.prog 62 1 2 [.ag [.ls 1 n,.ls 0 s.length,.pv (iV tn),.pv (iV td)],.pv (iV (z)),.pv (iV (v))] (qkE l n s) (.pv (iV (v))) 0 [(1,0,.row 26 3 n (qah (n1.set v.toNat ⟨p2.id,x,p2.b⟩)))]:=
 qaA 300 [] [.t false,.t false,.r (ptV p1),.r (ptV q1),.r (.tuple #[.bool false,iV 0]),.gh [(2,0),(2,1),(2,2),(2,3)],.r (iV q.a),.fo 1 [0,1] [.ag [.ls 1 n,.ls 0 s.length,.pv (iV tn),.pv (iV td)],.pv (iV (z)),.pv (iV (q.a))] (qkE l n s) (.pv (iV (x))) 0 [(1,0,.row 26 3 n (qah n1))],.w (qah (n1.set v.toNat ⟨p2.id,x,p2.b⟩))]
  (qaj (qaB []) [(1,0,.row 26 3 n (qah (n1.set v.toNat ⟨p2.id,x,p2.b⟩)))]) (Ai h0 (Ai h1 (Ai hpn (Ai (qcU hp) (Ai hqn (Ai (qcU hq) (Ai hw (Ai (Er (SV.ls 1 n)) (Ai (Er (SV.ls 0 s.length)) (Ai (Er (SV.pv (iV tn))) (Ai (Er (SV.pv (iV td))) (Ai hjn (Ai (Er (SV.ls 1 n)) (Ai (Er (SV.ls 0 s.length)) (Ai (Er (SV.pv (iV tn))) (Ai (Er (SV.pv (iV td))) (Ai (Er (SV.ls 1 n)) (Ai (Er (SV.ls 0 s.length)) (Ai (Er (SV.pv (iV tn))) (Ai (Er (SV.pv (iV td))) (Ai (qbI hk) (Ai (Er (SV.ls 1 n)) (Ai (Er (SV.ls 0 s.length)) (Ai (Er (SV.pv (iV tn))) (Ai (Er (SV.pv (iV td))) (Ai hl (Ai (Eq.refl (List.map (SV.ren (qaq [0,1] 3)) [.ag [.ls 1 n,.ls 0 s.length,.pv (iV tn),.pv (iV td)],.pv (iV (z)),.pv (iV (q.a))])) (Ai (qaj (qaq [0,1] 3) (qkE l n s)) (Ai (Er (SV.ls 1 n)) (Ai (Er (SV.ls 0 s.length)) (Ai (Er (SV.pv (iV tn))) (Ai (Er (SV.pv (iV td))) (Ai hjn (Ai (Er (SV.ls 1 n)) (Ai (Er (SV.ls 0 s.length)) (Ai (Er (SV.pv (iV tn))) (Ai (Er (SV.pv (iV td))) (Ai (Er (SV.ls 1 n)) (Ai (Er (SV.ls 0 s.length)) (Ai (Er (SV.pv (iV tn))) (Ai (Er (SV.pv (iV td))) (Ai (qoT hs x) (Ai (qnE hs) (Ai (Er (SV.ls 1 n)) (Ai (Er (SV.ls 0 s.length)) (Ai (Er (SV.pv (iV tn))) (Ai (Er (SV.pv (iV td))) tI))))))))))))))))))))))))))))))))))))))))))))))) (by kernel_rfl)
end Go.Proofs.Ytalnjplghagbpaa

namespace Go.Proofs.Ytalnjplghagbpaa
set_option maxRecDepth 100000
open Go.RowKit
theorem qtm (n:Nat):SV.ls 2 (0+n)=(SV.ls 1 n).ren (qaB [(1,2)]):=by rw[Nat.zero_add];rfl
theorem qoJ (e:TypeId) (es n:Nat) (xs:List Value):some (SV.row e es (0+n) ([]++xs))=some (SV.row e es n xs):=by rw[Nat.zero_add,List.nil_append]
theorem qp0 {z v:Int} (h:(z==(-1))=true) :
 Pure Try.prog 57 #[iV (z),iV (v)] (iV (-1)):=
 qae (args:=[iV (z),iV (v)]) 300 [.t true]
  (Ai rfl (Ai h tI)) (by kernel_rfl)
theorem qnF {y z v:Int} (h:(z==(-1))=false) (hs:iV (IntKind.i64.wrap (z+v))=iV (y)) :
 Pure Try.prog 57 #[iV (z),iV (v)] (iV (y)):=
 qae (args:=[iV (z),iV (v)]) 300 [.t false,Re hs]
  (Ai rfl (Ai h (Ai hs tI))) (by kernel_rfl)
theorem qgr {l:List Pt} (h:decide ((l.length:Int)>64)=true) :
 Fn 61 1 [.ls 0 l.length] [(0,0,qaa l)] (.pv (iV (4))) 0 []:=
 Fz [] [.t true]
  tI (Ai h tI)
theorem qfc {l:List Pt} (h:decide ((l.length:Int)>64)=false) :
 Fn 61 1 [.ls 0 l.length] [(0,0,qaa l)] (.pv (iV (0))) 0 []:=
 Fz [] [.t false]
  tI (Ai h tI)
theorem qmK {l:List Pt} {p q:Pt} {j k:Nat} (hlt:decide ((k:Int)<(l.length:Int))=true) (hs1:iV (IntKind.i64.wrap ((k:Int)-1))=iV (j:Int)) (hj:l[j]?=some p) (hinj:0≤(j:Int)∧(j:Int)<(l.length:Int)) (hk:l[k]?=some q) (hin:0≤(k:Int)∧(k:Int)<(l.length:Int)) (hc:decide (p.id≥q.id)=false) (hs:iV (IntKind.i64.wrap ((k:Int)+1))=iV (((k+1:Nat):Int))) {e:Exit} {tm2:TmL} {hp2:HpL}
 (r:Rl 1 1 52 0 22 1 ([(0,.ls 0 l.length),(3,.pv (iV ((k+1:Nat):Int)))]) ([(0,0,qaa l)]) e tm2 hp2):Rl 1 1 52 0 22 1 ([(0,.ls 0 l.length),(3,.pv (iV (k:Int)))]) ([(0,0,qaa l)]) e tm2 hp2:=
 RunsL.next [] 300 [.t true,Re hs1,.r (iV p.id),.r (iV q.id),.t false,Re hs]
  (Ro (Ai hlt (Ai hs1 (Ai hinj (Ai (qa3 hj) (Ai hin (Ai (qa3 hk) (Ai hc (Ai hs tI))))))))) r
theorem qoV {l:List Pt} {p q:Pt} {j k:Nat} (hlt:decide ((k:Int)<(l.length:Int))=true) (hs1:iV (IntKind.i64.wrap ((k:Int)-1))=iV (j:Int)) (hj:l[j]?=some p) (hinj:0≤(j:Int)∧(j:Int)<(l.length:Int)) (hk:l[k]?=some q) (hin:0≤(k:Int)∧(k:Int)<(l.length:Int)) (hc:decide (p.id≥q.id)=true):Rl 1 1 52 0 22 1 ([(0,.ls 0 l.length),(3,.pv (iV (k:Int)))]) ([(0,0,qaa l)]) (.ret) ([(2,.pv (iV 32))]) ([]):=
 RunsL.stop [] 300 [.t true,Re hs1,.r (iV p.id),.r (iV q.id),.t true] (fun h=>by cases h)
  (Ro (Ai hlt (Ai hs1 (Ai hinj (Ai (qa3 hj) (Ai hin (Ai (qa3 hk) (Ai hc tI))))))))
theorem qjN {l:List Pt} {k:Nat} (hlt:decide ((k:Int)<(l.length:Int))=false):Rl 1 1 52 0 22 1 ([(0,.ls 0 l.length),(3,.pv (iV (k:Int)))]) ([(0,0,qaa l)]) (.exit 0) ([]) ([]):=
 RunsL.stop [] 300 [.t false] (fun h=>by cases h)
  (Ro (Ai hlt tI))
theorem qqv {l:List Pt} (r0:Rl 1 1 52 0 22 1 ([(0,.ls 0 l.length),(3,.pv (iV ((1:Nat):Int)))]) ([(0,0,qaa l)]) (.ret) ([(2,.pv (iV 32))]) ([])) :
 Fn 52 1 [.ls 0 l.length] [(0,0,qaa l)] (.pv (iV (32))) 0 []:=
 Fz [] [Lf r0]
  tI (Lo r0 [] tI)
theorem qiC {l:List Pt} (r0:Rl 1 1 52 0 22 1 ([(0,.ls 0 l.length),(3,.pv (iV ((1:Nat):Int)))]) ([(0,0,qaa l)]) (.exit 0) ([]) ([])) :
 Fn 52 1 [.ls 0 l.length] [(0,0,qaa l)] (.pv (iV (0))) 0 []:=
 Fz [] [Lf r0]
  tI (Lo r0 [] tI)
abbrev qr3 (g:List Int) (k:Nat) (l:List Pt) (y:Int):TmL:=[(0,.ls 0 l.length),(5,.pv (iV (y))),(9,.ls 1 g.length),(10,.pv (iV (g.length:Int))),(11,.pv (iV (k:Int)))]
theorem qq3 {y z:Int} {l:List Pt} {p:Pt} {g:List Int} {k:Nat} (hlt:decide ((k:Int)<(g.length:Int))=true) (hin:0≤(k:Int)∧(k:Int)<(g.length:Int)) (hg:g[k]?=some z) (hzi:0≤z∧z<(l.length:Int)) (hp:l[z.toNat]?=some p) (h1:decide (p.id≤y)=true):Rl 2 2 63 0 29 2 (qr3 g k l y) ([(0,0,qaa l),(1,0,zrI g)]) (.ret) ([(4,.pv (.bool false))]) ([]):=
 RunsL.stop [] 300 [.t true,.r (iV z),.r (iV p.id),.t true] (fun h=>by cases h)
  (Ro (Ai hlt (Ai hin (Ai (qih hg) (Ai hzi (Ai (qaM hp) (Ai h1 tI)))))))
theorem qqn {y z:Int} {l:List Pt} {p:Pt} {g:List Int} {k:Nat} (hlt:decide ((k:Int)<(g.length:Int))=true) (hin:0≤(k:Int)∧(k:Int)<(g.length:Int)) (hg:g[k]?=some z) (hzi:0≤z∧z<(l.length:Int)) (hp:l[z.toNat]?=some p) (h1:decide (p.id≤y)=false) (h2:decide (p.id>65535)=true):Rl 2 2 63 0 29 2 (qr3 g k l y) ([(0,0,qaa l),(1,0,zrI g)]) (.ret) ([(4,.pv (.bool false))]) ([]):=
 RunsL.stop [] 300 [.t true,.r (iV z),.r (iV p.id),.t false,.t true] (fun h=>by cases h)
  (Ro (Ai hlt (Ai hin (Ai (qih hg) (Ai hzi (Ai (qaM hp) (Ai h1 (Ai h2 tI))))))))
theorem qlD {y z:Int} {l:List Pt} {p:Pt} {g:List Int} {k:Nat} (hlt:decide ((k:Int)<(g.length:Int))=true) (hin:0≤(k:Int)∧(k:Int)<(g.length:Int)) (hg:g[k]?=some z) (hzi:0≤z∧z<(l.length:Int)) (hp:l[z.toNat]?=some p) (h1:decide (p.id≤y)=false) (h2:decide (p.id>65535)=false) (hs:iV (IntKind.i64.wrap ((k:Int)+1))=iV (((k+1:Nat):Int))) {e:Exit} {tm2:TmL} {hp2:HpL}
 (r:Rl 2 2 63 0 29 2 ([(0,.ls 0 l.length),(5,.pv (iV (p.id))),(9,.ls 1 g.length),(10,.pv (iV (g.length:Int))),(11,.pv (iV ((k+1:Nat):Int)))]) ([(0,0,qaa l),(1,0,zrI g)]) e tm2 hp2):Rl 2 2 63 0 29 2 (qr3 g k l y) ([(0,0,qaa l),(1,0,zrI g)]) e tm2 hp2:=
 RunsL.next [] 300 [.t true,.r (iV z),.r (iV p.id),.t false,.t false,Re hs]
  (Ro (Ai hlt (Ai hin (Ai (qih hg) (Ai hzi (Ai (qaM hp) (Ai h1 (Ai h2 (Ai hs tI))))))))) r
theorem qoO {y:Int} {l:List Pt} {g:List Int} {k:Nat} (hlt:decide ((k:Int)<(g.length:Int))=false):Rl 2 2 63 0 29 2 (qr3 g k l y) ([(0,0,qaa l),(1,0,zrI g)]) (.exit 0) ([]) ([]):=
 RunsL.stop [] 300 [.t false] (fun h=>by cases h)
  (Ro (Ai hlt tI))
abbrev qtV (g:List Int) (l:List Pt):TmL:=[(0,.ls 0 l.length),(5,.pv (iV (-1))),(9,.ls 1 g.length),(10,.pv (iV (g.length:Int))),(11,.pv (iV ((0:Nat):Int)))]
theorem qpN {l:List Pt} {g:List Int} (r0:Rl 2 2 63 0 29 2 (qtV g l) ([(0,0,qaa l),(1,0,zrI g)]) (.ret) ([(4,.pv (.bool false))]) ([])) :
 Fn 63 2 [.ls 0 l.length,.ls 1 g.length] [(0,0,qaa l),(1,0,zrI g)] (.pv (.bool false)) 0 []:=
 Fz [] [Lf r0]
  tI (Lo r0 [] tI)
theorem qos {l:List Pt} {g:List Int} (r0:Rl 2 2 63 0 29 2 (qtV g l) ([(0,0,qaa l),(1,0,zrI g)]) (.exit 0) ([]) ([])) :
 Fn 63 2 [.ls 0 l.length,.ls 1 g.length] [(0,0,qaa l),(1,0,zrI g)] (.pv (.bool true)) 0 []:=
 Fz [] [Lf r0]
  tI (Lo r0 [] tI)
theorem qlw {n:Nat} {xs:List Value} (h0:0<n) (hn:0+n≤1000000) :
 Fn 53 1 [.ls 0 n] [(0,0,.row 26 3 n xs)] (.ls 1 n) 1 [(1,0,.row 26 3 n xs)]:=
 Fx [(1,2)] [.t false]
  (qtm n) (Ai (qoJ 26 3 n xs) tI) (Ai h0 (Ai hn tI))
theorem qtj {ad:Addr} {c:Nat} :
 Fn 53 0 [.pv (.slice (some ad) 0 c)] [] (.ls 0 0) 1 [(0,0,.row 26 3 0 [])]:=
 Fz [(0,1)] [.k]
  (qaj (qaB [(0,1)]) [(0,0,.row 26 3 0 [])]) (Ai (Nat.zero_le _:0+0≤1000000) tI)
theorem qoa {c:Nat}:Pure Try.prog 53 #[.slice none 0 c] (.slice none 0 0):=
 qjs (args:=[.slice none 0 c]) 200 [] (Ai rfl tI) (by kernel_rfl)
theorem qsG {z:Int} (h0:decide (z<0)=false) (hs:iV (IntKind.i64.wrap (z-0))=iV (z)) (hg:decide (z>0)=true) (a0:0≤z) (a1:z≤1000000) :
 Fn 92 0 [.pv (.slice none 0 0),.pv (iV (z))] [] (.ls 0 0) 1 [(0,0,.row 26 3 0 [])]:=
 Fz [(0,1)] [.t false,.k,Re hs,.t true,.w []]
  (qaj (qaB [(0,1)]) [(0,0,.row 26 3 0 [])]) (Ai h0 (Ai hs (Ai hg (Ai a0 (Ai a1 (Ai (Int.le_refl (0:Int)) (Ai (Nat.zero_le z.toNat) tI)))))))
theorem qpM {z:Int} (h0:decide (z<0)=false) (hs:iV (IntKind.i64.wrap (z-0))=iV (z)) (hg:decide (z>0)=false) :
 Fn 92 0 [.pv (.slice none 0 0),.pv (iV (z))] [] (.pv (.slice none 0 0)) 0 []:=
 Fz [] [.t false,.k,Re hs,.t false]
  tI (Ai h0 (Ai hs (Ai hg tI)))
theorem qt3 {l m:List Pt} (hq1:iV (IntKind.i64.wrap ((0:Int)+(l.length:Int)))=iV (l.length:Int)) (hm1:decide ((l.length:Int)<0)=false) (hq2:iV (IntKind.i64.wrap ((l.length:Int)+(m.length:Int)))=iV (((l.length+m.length:Nat):Int))) (hm2:decide (((l.length+m.length:Nat):Int)<0)=false) (hgr:Fn 92 0 [.pv (.slice none 0 0),.pv (iV (((l.length+m.length:Nat):Int)))] [] (.ls 0 0) 1 [(0,0,.row 26 3 0 [])]) (ha1:0+l.length≤1000000) (ha2:0+l.length+m.length≤1000000) :
 Fn 59 3 [.ps 2 0 2 2] [(2,0,.ls 0 l.length),(2,1,.ls 1 m.length),(0,0,qaa l),(1,0,qaa m)] (.ls 3 (0+l.length+m.length)) 1 [(3,0,.row 26 3 (0+l.length+m.length) ([]++qah l++qah m))]:=
 Fz [(3,5)] [.k,Re hq1,.t false,.k,.k,Re hq2,.t false,.k,.k,Cf hgr [],.k,.k,.k,.k,.k]
  (qaj (qaB [(3,5)]) [(3,0,.row 26 3 (0+l.length+m.length) ([]++qah l++qah m))]) (Ai hq1 (Ai hm1 (Ai hq2 (Ai hm2 (Co hgr [] 3 (Ai ha1 (Ai ha2 tI)))))))
theorem qsR {l m:List Pt} (hq1:iV (IntKind.i64.wrap ((0:Int)+(l.length:Int)))=iV (l.length:Int)) (hm1:decide ((l.length:Int)<0)=false) (hq2:iV (IntKind.i64.wrap ((l.length:Int)+(m.length:Int)))=iV (((l.length+m.length:Nat):Int))) (hm2:decide (((l.length+m.length:Nat):Int)<0)=false) (hgr:Fn 92 0 [.pv (.slice none 0 0),.pv (iV (((l.length+m.length:Nat):Int)))] [] (.pv (.slice none 0 0)) 0 []) (ha1:0+l.length≤1000000) (ha2:0+l.length+m.length≤1000000) :
 Fn 59 3 [.ps 2 0 2 2] [(2,0,.ls 0 l.length),(2,1,.ls 1 m.length),(0,0,qaa l),(1,0,qaa m)] (.ls 3 (0+l.length+m.length)) 1 [(3,0,.row 26 3 (0+l.length+m.length) ([]++qah l++qah m))]:=
 Fz [(3,4)] [.k,Re hq1,.t false,.k,.k,Re hq2,.t false,.k,.k,Cf hgr [],.k,.k,.k,.k,.k]
  (qaj (qaB [(3,4)]) [(3,0,.row 26 3 (0+l.length+m.length) ([]++qah l++qah m))]) (Ai hq1 (Ai hm1 (Ai hq2 (Ai hm2 (Co hgr [] 3 (Ai ha1 (Ai ha2 tI)))))))
theorem qmo {x y v:Int} {l:List Pt} {p:Pt} {k n:Nat} {vs:List Value} (hlt:decide ((k:Int)<(l.length:Int))=true) (hk:l[k]?=some p) (hin:0≤(k:Int)∧(k:Int)<(l.length:Int)) (hn:n+1≤1000000) (ha:Pure Try.prog 57 #[iV (p.a),iV (v)] (iV (x))) (hb:Pure Try.prog 57 #[iV (p.b),iV (v)] (iV (y))) (hs:iV (IntKind.i64.wrap ((k:Int)+1))=iV (((k+1:Nat):Int))) {e:Exit} {tm2:TmL} {hp2:HpL}
 (r:Rl 1 1 58 0 30 2 ([(1,.pv (iV v)),(5,.ls 1 (n+1)),(8,.ls 0 l.length),(9,.pv (iV (l.length:Int))),(10,.pv (iV ((k+1:Nat):Int)))]) ([(0,0,qaa l),(1,0,.row 26 3 (n+1) (vs++[iV p.id,iV x,iV y]))]) e tm2 hp2):Rl 1 1 58 0 30 2 ([(1,.pv (iV v)),(5,.ls 1 n),(8,.ls 0 l.length),(9,.pv (iV (l.length:Int))),(10,.pv (iV (k:Int)))]) ([(0,0,qaa l),(1,0,.row 26 3 n (vs))]) e tm2 hp2:=
 RunsL.next [(1,4)] 300 [.t true,.r (ptV p),.md,Rf ha,Rf hb,Re hs]
  (Ro (Ai hlt (Ai hin (Ai (qa0 hk) (Ai ha (Ai hb (Ai hn (Ai hs tI)))))))) r
theorem qoD {v:Int} {l:List Pt} {k n:Nat} {vs:List Value} (hlt:decide ((k:Int)<(l.length:Int))=false):Rl 1 1 58 0 30 2 ([(1,.pv (iV v)),(5,.ls 1 n),(8,.ls 0 l.length),(9,.pv (iV (l.length:Int))),(10,.pv (iV (k:Int)))]) ([(0,0,qaa l),(1,0,.row 26 3 n (vs))]) (.exit 0) ([(5,.ls 1 n)]) ([(1,0,.row 26 3 n (vs))]):=
 RunsL.stop [] 300 [.t false] (fun h=>by cases h)
  (Ro (Ai hlt tI))
theorem qqu {v:Int} {l:List Pt} {n:Nat} {vs:List Value} (r0:Rl 1 1 58 0 30 2 ([(1,.pv (iV v)),(5,.ls 1 0),(8,.ls 0 l.length),(9,.pv (iV (l.length:Int))),(10,.pv (iV ((0:Nat):Int)))]) ([(0,0,qaa l),(1,0,.row 26 3 0 ([]))]) (.exit 0) ([(5,.ls 1 n)]) ([(1,0,.row 26 3 n (vs))])) :
 Fn 58 1 [.ls 0 l.length,.pv (iV (v))] [(0,0,qaa l)] (.ls 1 n) 1 [(1,0,.row 26 3 n (vs))]:=
 Fz [] [.ln true 5 0 26 3,Lf r0]
  (qaj (qaB []) [(1,0,.row 26 3 n (vs))]) (Lo r0 [] tI)
theorem qqO {a pa pb n:Int} (n1:(!(a==a))=false) (n2:(!(n==n))=false) (h1:decide (a<n)=true) :
 Pure Try.prog 90 #[qab a pa pb,iV n] (iV (-1)):=
 qae (args:=[qab a pa pb,iV n]) 300 [.k,.k,.t false,.k,.t false,.t true]
  (Ai rfl (Ai n1 (Ai n2 (Ai h1 tI)))) (by kernel_rfl)
theorem qqW {a pa pb n:Int} (n1:(!(a==a))=false) (n2:(!(n==n))=false) (h1:decide (a<n)=false) (h2:decide (a>n)=true) :
 Pure Try.prog 90 #[qab a pa pb,iV n] (iV (1)):=
 qae (args:=[qab a pa pb,iV n]) 300 [.k,.k,.t false,.k,.t false,.t false,.t true]
  (Ai rfl (Ai n1 (Ai n2 (Ai h1 (Ai h2 tI))))) (by kernel_rfl)
theorem qqI {a pa pb n:Int} (n1:(!(a==a))=false) (n2:(!(n==n))=false) (h1:decide (a<n)=false) (h2:decide (a>n)=false) :
 Pure Try.prog 90 #[qab a pa pb,iV n] (iV (0)):=
 qae (args:=[qab a pa pb,iV n]) 300 [.k,.k,.t false,.k,.t false,.t false,.t false]
  (Ai rfl (Ai n1 (Ai n2 (Ai h1 (Ai h2 tI))))) (by kernel_rfl)
abbrev qr0 (i:Nat) (j:Nat) (l:List Pt) (n:Int):TmL:=[(0,.ls 0 l.length),(1,.pv (iV n)),(2,.pv (.func (.func 90) #[] #[])),(8,.pv (iV (l.length:Int))),(9,.pv (iV (i:Int))),(10,.pv (iV (j:Int)))]
abbrev qrR (c:Int) (n:Int) (p:Pt):Prop:=Pure Try.prog 90 #[qab p.id p.a p.b,iV n] (iV (c))
theorem qqR {l:List Pt} {i j h:Nat} {p:Pt} {c n:Int} (hk:l[h]?=some p) (hin:0≤(h:Int)∧(h:Int)<(l.length:Int)) (hlt:decide ((i:Int)<(j:Int))=true) (ha:iV (IntKind.i64.wrap ((i:Int)+(j:Int)))=iV ((i:Int)+(j:Int))) (hu:Value.int .u64 (IntKind.u64.wrap ((i:Int)+(j:Int)))=.int .u64 ((i:Int)+(j:Int))) (h1:¬ (1:Int)<0) (hs:Value.int .u64 (((i:Int)+(j:Int)).fdiv (2 ^ (min (1:Int).toNat IntKind.u64.bits)))=.int .u64 (h:Int)) (hb:iV (IntKind.i64.wrap (h:Int))=iV (h:Int)) (hc:qrR c n p) (hz:decide (c<0)=true) (hh:iV (IntKind.i64.wrap ((h:Int)+1))=iV (((h+1:Nat):Int))) {e:Exit} {tm2:TmL} {hp2:HpL}
 (r:Rl 1 1 89 0 49 1 ([(0,.ls 0 l.length),(1,.pv (iV n)),(2,.pv (.func (.func 90) #[] #[])),(8,.pv (iV (l.length:Int))),(9,.pv (iV ((h+1:Nat):Int))),(10,.pv (iV (j:Int)))]) ([(0,0,qaa l)]) e tm2 hp2):Rl 1 1 89 0 49 1 (qr0 i j l n) ([(0,0,qaa l)]) e tm2 hp2:=
 RunsL.next [] 300 [.t true,Re ha,Re hu,.r (.int .u64 (h:Int)),Re hb,.r (ptV p),Rf hc,.t true,Re hh]
  (Ro (Ai hlt (Ai ha (Ai hu (Ai h1 (Ai hs (Ai hb (Ai hin (Ai (qa0 hk) (Ai hc (Ai hz (Ai hh tI)))))))))))) r
theorem qrs {l:List Pt} {i j h:Nat} {p:Pt} {c n:Int} (hk:l[h]?=some p) (hin:0≤(h:Int)∧(h:Int)<(l.length:Int)) (hlt:decide ((i:Int)<(j:Int))=true) (ha:iV (IntKind.i64.wrap ((i:Int)+(j:Int)))=iV ((i:Int)+(j:Int))) (hu:Value.int .u64 (IntKind.u64.wrap ((i:Int)+(j:Int)))=.int .u64 ((i:Int)+(j:Int))) (h1:¬ (1:Int)<0) (hs:Value.int .u64 (((i:Int)+(j:Int)).fdiv (2 ^ (min (1:Int).toNat IntKind.u64.bits)))=.int .u64 (h:Int)) (hb:iV (IntKind.i64.wrap (h:Int))=iV (h:Int)) (hc:qrR c n p) (hz:decide (c<0)=false) {e:Exit} {tm2:TmL} {hp2:HpL}
 (r:Rl 1 1 89 0 49 1 ([(0,.ls 0 l.length),(1,.pv (iV n)),(2,.pv (.func (.func 90) #[] #[])),(8,.pv (iV (l.length:Int))),(9,.pv (iV (i:Int))),(10,.pv (iV (h:Int)))]) ([(0,0,qaa l)]) e tm2 hp2):Rl 1 1 89 0 49 1 (qr0 i j l n) ([(0,0,qaa l)]) e tm2 hp2:=
 RunsL.next [] 300 [.t true,Re ha,Re hu,.r (.int .u64 (h:Int)),Re hb,.r (ptV p),Rf hc,.t false]
  (Ro (Ai hlt (Ai ha (Ai hu (Ai h1 (Ai hs (Ai hb (Ai hin (Ai (qa0 hk) (Ai hc (Ai hz tI))))))))))) r
theorem qkw {l:List Pt} {i j:Nat} {n:Int} (hge:decide ((i:Int)<(j:Int))=false):Rl 1 1 89 0 49 1 (qr0 i j l n) ([(0,0,qaa l)]) (.exit 0) (qr0 i j l n) ([(0,0,qaa l)]):=
 RunsL.stop [] 300 [.t false] (fun h=>by cases h)
  (Ro (Ai hge tI))
abbrev qs7 (k:Nat) (l:List Pt) (n:Int):Prop:=Rl 1 1 89 0 49 1 ([(0,.ls 0 l.length),(1,.pv (iV n)),(2,.pv (.func (.func 90) #[] #[])),(8,.pv (iV (l.length:Int))),(9,.pv (iV ((0:Nat):Int))),(10,.pv (iV (l.length:Int)))]) ([(0,0,qaa l)]) (.exit 0) ([(0,.ls 0 l.length),(1,.pv (iV n)),(2,.pv (.func (.func 90) #[] #[])),(8,.pv (iV (l.length:Int))),(9,.pv (iV (k:Int))),(10,.pv (iV (k:Int)))]) ([(0,0,qaa l)])
theorem qnU {l:List Pt} {k:Nat} {n:Int} (r0:qs7 k l n) (hge:decide ((k:Int)<(l.length:Int))=false) :
 Fn 89 1 [.ls 0 l.length,.pv (iV (n)),.pv (.func (.func 90) #[] #[])] [(0,0,qaa l)] (.pv (.tuple #[iV (k:Int),.bool false])) 0 []:=
 Fz [] [Lf r0,.t false]
  tI (Lo r0 [] (Ai hge tI))
theorem qoI {l:List Pt} {k:Nat} {p:Pt} {c:Int} {n:Int} (r0:qs7 k l n) (hk:l[k]?=some p) (hin:0≤(k:Int)∧(k:Int)<(l.length:Int)) (hlt:decide ((k:Int)<(l.length:Int))=true) (hc:qrR c n p) (hz:(c==0)=true) :
 Fn 89 1 [.ls 0 l.length,.pv (iV (n)),.pv (.func (.func 90) #[] #[])] [(0,0,qaa l)] (.pv (.tuple #[iV (k:Int),.bool true])) 0 []:=
 Fz [] [Lf r0,.t true,.r (ptV p),Rf hc,.t true]
  tI (Lo r0 [] (Ai hlt (Ai hin (Ai (qa0 hk) (Ai hc (Ai hz tI))))))
theorem qra {l:List Pt} {k:Nat} {p:Pt} {c:Int} {n:Int} (r0:qs7 k l n) (hk:l[k]?=some p) (hin:0≤(k:Int)∧(k:Int)<(l.length:Int)) (hlt:decide ((k:Int)<(l.length:Int))=true) (hc:qrR c n p) (hz:(c==0)=false) :
 Fn 89 1 [.ls 0 l.length,.pv (iV (n)),.pv (.func (.func 90) #[] #[])] [(0,0,qaa l)] (.pv (.tuple #[iV (k:Int),.bool false])) 0 []:=
 Fz [] [Lf r0,.t true,.r (ptV p),Rf hc,.t false]
  tI (Lo r0 [] (Ai hlt (Ai hin (Ai (qa0 hk) (Ai hc (Ai hz tI))))))
theorem ele {l:List Pt} {k:Nat} {n:Int} {w:Bool} (hb:Fn 89 1 [.ls 0 l.length,.pv (iV (n)),.pv (.func (.func 90) #[] #[])] [(0,0,qaa l)] (.pv (.tuple #[iV (k:Int),.bool w])) 0 []) :
 Fn 55 1 [.ls 0 l.length,.pv (iV (n))] [(0,0,qaa l)] (.pv (iV (k:Int))) 0 []:=
 Fz [] [Cf hb [0]]
  tI (Co hb [0] 1 tI)
end Go.Proofs.Ytalnjplghagbpaa
