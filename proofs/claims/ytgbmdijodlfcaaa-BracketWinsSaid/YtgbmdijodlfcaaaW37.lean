/-
  Joined: Qi, Qn, Qm, Qv, Qo, Qw. Conditions: none.
-/
import Derived.Test.YtgbmdijodlfcaaaQh
import Derived.Test.YtgbmdijodlfcaaaW21
import Derived.Test.YtgbmdijodlfcaaaZj
import Derived.Test.YtgbmdijodlfcaaaW24
import Derived.Test.YtgbmdijodlfcaaaW25
namespace Go.Proofs.Ytgbmdijodlfcaaa
set_option maxRecDepth 100000
open Go.RowKit
theorem qir {l:List Int} (hn:l.length≤1000000):Fn 27 2 [.ls 0 l.length,.ls 1 l.length] [(0,0,zrI l),(1,0,zrI l)] (.pv (.bool true)) 0 []:=
 qml (hl:=by simp) (r0:=RunsL.roundsZ (N:=l.length) (fun k=>[(0,.ls 0 l.length),(1,.ls 1 l.length),(5,.pv (iV (k:Int)))]) (fun _=>[(0,0,zrI l),(1,0,zrI l)]) l.length 0 (by omega) (fun k _ hk r=>by
  obtain⟨x,hx⟩:=qaj hk
  exact qkw (hk:=hx) (hin:=qas hk) (hlt:=dt (by omega)) (hne:=by simp) (hs:=qar (by omega)) r) (qnK (hge:=df (by omega))))
theorem qhk {l:List Int} (hn:l.length≤1000000):Fn 31 1 [.ls 0 l.length] [(0,0,zrI l)] (.pv (.bool (pB (¬ OneB l)))) 0 []:=by
 have inner:∀ (i:Nat) (x:Int),l[i]?=some x→∀ k,k≤i→(∀ j,j<k→∀ y,l[j]?=some y→¬ (0≤x∧y=x))→∀ {e:Exit} {tm2:TmL} {hp2:HpL},
  Rl 1 1 31 1 32 1 [(0,.ls 0 l.length),(3,.pv (iV (i:Int))),(4,.pv (iV (k:Int)))] [(0,0,zrI l)] e tm2 hp2→
  Rl 1 1 31 1 32 1 [(0,.ls 0 l.length),(3,.pv (iV (i:Int))),(4,.pv (iV ((0:Nat):Int)))] [(0,0,zrI l)] e tm2 hp2:=by
  intro i x hx k hk hno e tm2 hp2 r
  refine RunsL.rounds (fun j=>[(0,.ls 0 l.length),(3,.pv (iV (i:Int))),(4,.pv (iV (j:Int)))]) (fun _=>[(0,0,zrI l)]) (N:=k) k 0 (Nat.zero_add _) (fun j _ hj r=>?_) r
  have hil:=qam hx
  obtain⟨y,hy⟩:=qaj (l:=l) (k:=j) (by omega)
  have hn':=hno j hj y hy
  by_cases h0:0≤x
  ·exact qn4 (hki:=dt (by omega)) (hi:=hx) (hii:=qas hil) (hk:=hy) (hin:=qas (by omega)) (h0:=dt h0) (he:=by simp;exact fun e=>hn' ⟨h0,e⟩) (hs:=qar (by omega)) r
  ·exact qmF (hki:=dt (by omega)) (hi:=hx) (hii:=qas hil) (hk:=hy) (hin:=qas (by omega)) (h0:=df h0) (hs:=qar (by omega)) r
 have row:∀ (i:Nat) (x:Int),l[i]?=some x→((∀ j,j<i→∀ y,l[j]?=some y→¬ (0≤x∧y=x))∧Rl 1 1 31 1 32 1 [(0,.ls 0 l.length),(3,.pv (iV (i:Int))),(4,.pv (iV ((0:Nat):Int)))] [(0,0,zrI l)] (.exit 2) [(0,.ls 0 l.length),(3,.pv (iV (i:Int)))] [(0,0,zrI l)])∨
  ((∃ j,j<i∧l[j]?=some x∧0≤x)∧Rl 1 1 31 1 32 1 [(0,.ls 0 l.length),(3,.pv (iV (i:Int))),(4,.pv (iV ((0:Nat):Int)))] [(0,0,zrI l)] .ret [(2,.pv (.bool true))] []):=by
  intro i x hx
  rcases qaI (fun j=>∀ y,l[j]?=some y→¬ (0≤x∧y=x)) i with h | ⟨j,hj,hb,hf⟩
  ·exact Or.inl ⟨h,inner i x hx i (Nat.le_refl _) h (qlw (hki:=df (by omega)))⟩
  ·simp only[Classical.not_forall,Classical.not_not] at hb
   obtain⟨y,hy,h0,rfl⟩:=hb
   have hil:=qam hx
   exact Or.inr ⟨⟨j,hj,hy,h0⟩,inner i y hx j (by omega) hf (qnt (hki:=dt (by omega)) (hi:=hx) (hii:=qas hil) (hk:=hy) (hin:=qas (by omega)) (h0:=dt h0) (he:=by simp))⟩
 have outer:∀ k,(∀ i,i<k→∀ x,l[i]?=some x→¬ ∃ j,j<i∧l[j]?=some x∧0≤x)→k≤l.length→∀ {e:Exit} {tm2:TmL} {hp2:HpL},
  Rl 1 1 31 0 32 1 [(0,.ls 0 l.length),(3,.pv (iV (k:Int)))] [(0,0,zrI l)] e tm2 hp2→
  Rl 1 1 31 0 32 1 [(0,.ls 0 l.length),(3,.pv (iV ((0:Nat):Int)))] [(0,0,zrI l)] e tm2 hp2:=by
  intro k hk hkl e tm2 hp2 r
  refine RunsL.rounds (fun j=>[(0,.ls 0 l.length),(3,.pv (iV (j:Int)))]) (fun _=>[(0,0,zrI l)]) (N:=k) k 0 (Nat.zero_add _) (fun i _ hi r=>?_) r
  obtain⟨x,hx⟩:=qaj (l:=l) (k:=i) (by omega)
  rcases row i x hx with ⟨_,r1⟩ | ⟨h,_⟩
  ·exact qj0 (hlt:=dt (by omega)) (r1:=r1) (hs:=qar (by omega)) r
  ·exact (hk i hi x hx h).elim
 rcases qaI (fun i=>∀ x,l[i]?=some x→¬ ∃ j,j<i∧l[j]?=some x∧0≤x) l.length with h | ⟨i,hi,hb,hf⟩
 ·have ho:OneB l:=fun i j x e1 e2 h0=>by
   rcases Nat.lt_trichotomy i j with a | a | a
   ·exact (h j (qam e2) x e2 ⟨i,a,e1,h0⟩).elim
   ·exact a
   ·exact (h i (qam e1) x e1 ⟨j,a,e2,h0⟩).elim
  rw[qfE fun k=>k ho]
  exact qoH (r0:=outer l.length h (Nat.le_refl _) (qmx (hge:=df (by omega))))
 ·simp only[Classical.not_forall,Classical.not_not] at hb
  obtain⟨x,hx,j,hj,hjx,h0⟩:=hb
  rw[qfD fun k=>by
   have:=k i j x hx hjx h0
   omega]
  refine qmo (r0:=outer i hf (by omega) ?_)
  rcases row i x hx with ⟨h,_⟩ | ⟨_,r1⟩
  ·exact (h j hj x hjx ⟨h0,rfl⟩).elim
  ·exact qny (hlt:=dt (by omega)) (r1:=r1)
section
variable {s:List Pt} {tn td:Int} (htn:I64 tn) (htd:I64 td)
theorem qiY (hs:Val s) (i:Int):∃ u,Fn 58 1 [qay 0 s,.pv (iV i)] [(0,0,qaf s)] (.pv (iV u)) 0 []∧((u<0∧¬ ∃ q∈s,q.id=i)∨(0≤u∧∃ q∈s,q.id=i)):=by
 by_cases h:∃ q∈s,q.id=i
 ·obtain⟨q,hq,he⟩:=h
  obtain⟨k,hk,hkq⟩:=List.getElem_of_mem hq
  exact⟨k,qo7 hs (k:=k) (p:=q) (by rw[List.getElem?_eq_getElem hk,hkq]) he,Or.inr ⟨by omega,q,hq,he⟩⟩
 ·exact⟨-1,qq4 hs.len (fun p hp e=>h ⟨p,hp,e⟩),Or.inl ⟨by omega,h⟩⟩
theorem qhJ (hs:Val s) {l:List Int} {n:Nat} (hl:l.length=n) (hn:n≤1000000):Fn 30 2 [qay 0 s,.ls 1 n] [(0,0,qaf s),(1,0,.row 3 1 n (ziV l))] (.pv (.bool (pB (KnB s l)))) 0 []:=by
 subst hl
 have step:∀ k,(∀ j,j<k→∀ x,l[j]?=some x→x≠-1→∃ q∈s,q.id=x)→∀ {e:Exit} {tm2:TmL} {hp2:HpL},k≤l.length→
  Rl 2 2 30 0 26 3 [(1,.ls 1 l.length),(2,.pp 2 0),(5,.pv (iV (k:Int)))] [(2,0,.ls 0 s.length),(0,0,qaf s),(1,0,zrI l)] e tm2 hp2→
  Rl 2 2 30 0 26 3 [(1,.ls 1 l.length),(2,.pp 2 0),(5,.pv (iV ((0:Nat):Int)))] [(2,0,.ls 0 s.length),(0,0,qaf s),(1,0,zrI l)] e tm2 hp2:=by
  intro k hk e tm2 hp2 hkl r
  refine RunsL.rounds (fun j=>[(1,.ls 1 l.length),(2,.pp 2 0),(5,.pv (iV (j:Int)))]) (fun _=>[(2,0,.ls 0 s.length),(0,0,qaf s),(1,0,zrI l)]) (N:=k) k 0 (Nat.zero_add _) (fun j _ hj r=>?_) r
  obtain⟨x,hx⟩:=qaj (l:=l) (k:=j) (by omega)
  by_cases h0:x = -1
  ·exact qkR (hk:=hx) (hin:=qas (qam hx)) (hlt:=dt (by omega)) (hx:=by simp[h0]) (hs:=qar (by omega)) r
  ·obtain⟨u,a1,a2⟩:=qiY hs x
   rcases a2 with ⟨_,a2⟩ | ⟨a2,_⟩
   ·exact (a2 (hk j hj x hx h0)).elim
   ·exact qkH (hk:=hx) (hin:=qas (qam hx)) (hlt:=dt (by omega)) (hx:=by simpa using h0) (ha:=a1) (hv:=df (by omega)) (hs:=qar (by omega)) r
 rcases qaI (fun j=>∀ x,l[j]?=some x→x≠-1→∃ q∈s,q.id=x) l.length with h | ⟨j,hj,hb,hf⟩
 ·rw[qfD (p:=KnB s l) fun x hx=>by
   obtain⟨k,hk,rfl⟩:=List.getElem_of_mem hx
   exact h k hk _ (List.getElem?_eq_getElem hk)]
  exact qmq (r0:=step l.length h (Nat.le_refl _) (qoc (hge:=df (by omega))))
 ·simp only[Classical.not_forall] at hb
  obtain⟨x,hx,h0,hno⟩:=hb
  rw[qfE (p:=KnB s l) fun h=>hno (h x (List.mem_of_getElem? hx) h0)]
  obtain⟨u,a1,a2⟩:=qiY hs x
  rcases a2 with ⟨a2,_⟩ | ⟨_,a2⟩
  ·exact qpy (r0:=step j hf (by omega) (qkx (hk:=hx) (hin:=qas hj) (hlt:=dt (by omega)) (hx:=by simpa using h0) (ha:=a1) (hv:=dt a2)))
  ·exact (hno a2).elim
variable {b:Br} {z x:Int}
end
end Go.Proofs.Ytgbmdijodlfcaaa

namespace Go.Proofs.Ytgbmdijodlfcaaa
set_option maxRecDepth 100000
open Go.ChangeShapes Go.WideShapes Go.ChangeAt Go.RowKit Go.Joins Go.Deep
section
variable {H:Type} {enc:TypeId×Value→H} {W:World} {base:Nat} {spare:Nat→Bool} {held:Bool}
end
section
variable {W:World} {f:FuncId} {s:List Pt} {l:List Int} {b:Br} {u u0 u1 v:Value} {vs:List Value} {t:Value}
theorem qrH (h:Fn f 2 (qay 0 s::.pv t::.ls 1 l.length::vs.map .pv) [(0,0,qaf s),(1,0,zrI l)] (.pv (.bool true)) 0 []) (hs:Rd W 3 u s.length (qdM s)) (hl:Rd W 1 v l.length (ziV l)) :
 Calls Try.prog f (.agg #[u]::t::v::vs).toArray W fun e W'=>e=.returned (.bool true)∧Gr W W':=
 qj3 (rs:=[(68,3,s.length,qdM s),(3,1,l.length,ziV l)]) (us:=[u,v]) h (.cons hs (qin s) (.cons hl (qeX l) .nil)) ⟨⟨[u],⟨⟨rfl,hs.zsl⟩,tI⟩,rfl⟩,rfl,⟨rfl,hl.zsl⟩,SV.isl_v vs⟩
end
end Go.Proofs.Ytgbmdijodlfcaaa

namespace Go.Proofs.Ytgbmdijodlfcaaa
set_option maxRecDepth 100000
open Go.RowKit
theorem qqL {z:Int} :
 Pure Try.prog 11 #[iV z] (qac z 1):=
 qan (args:=[iV z]) 300 []
  (Ai rfl tI) (by kernel_rfl)
theorem qru :
 Fn 10 0 [] [] (.ag [.ls 0 3]) 1 [(0,0,qaf qbK)]:=
 Fz [(0,1)] [.lw]
  (qcy (qaU [(0,1)]) [(0,0,qaf qbK)]) tI
theorem qq2 (hg:Fn 10 0 [] [] (.ag [.ls 0 3]) 1 [(0,0,qaf qbK)]) (hat0:Pure Try.prog 11 #[iV (0)] (qac 0 1)) (hb:Fn 9 2 [qay 0 qbK,.pv (qac 0 1),.ls 1 [1,2,-1,5].length] [(0,0,qaf qbK),(1,0,zrI [1,2,-1,5])] (.tu [qh3 2 3 (Br.mk [1,2,-1,5] [2,2,5]),.one (.pv (iV 0))]) 2 [(2,0,zrI (Br.mk [1,2,-1,5] [2,2,5]).p),(3,0,zrI (Br.mk [1,2,-1,5] [2,2,5]).w)]) (hw:Fn 12 2 [brS 0 1 (Br.mk [1,2,-1,5] [2,2,5])] [(0,0,zrI (Br.mk [1,2,-1,5] [2,2,5]).p),(1,0,zrI (Br.mk [1,2,-1,5] [2,2,5]).w)] (.pv (.tuple #[iV 2,iV 0])) 0 []) (hs:Fn 14 3 [brS 0 1 (Br.mk [1,2,-1,5] [2,2,5]),qay 2 qbK,.pv (qac 0 1),.pv (iV (1)),.pv (iV (-1))] [(0,0,zrI (Br.mk [1,2,-1,5] [2,2,5]).p),(1,0,zrI (Br.mk [1,2,-1,5] [2,2,5]).w),(2,0,qaf qbK)] (.tu [qh3 3 4 (Br.mk [1,-1,-1,5] [1,1,5]),.one (.ls 5 [1,0].length),.one (.pv (iV 0))]) 3 [(3,0,zrI (Br.mk [1,-1,-1,5] [1,1,5]).p),(4,0,zrI (Br.mk [1,-1,-1,5] [1,1,5]).w),(5,0,zrI [1,0])]) (hp:Fn 13 2 [brS 0 1 (Br.mk [1,2,-1,5] [2,2,5]),.pv (iV (3))] [(0,0,zrI (Br.mk [1,2,-1,5] [2,2,5]).p),(1,0,zrI (Br.mk [1,2,-1,5] [2,2,5]).w)] (.tu [.one (.ls 2 [2,0].length),.one (.pv (iV 0))]) 1 [(2,0,zrI [2,0])]) (h1:Fn 27 2 [.ls 0 [2,2,5].length,.ls 1 [2,2,5].length] [(0,0,zrI [2,2,5]),(1,0,zrI [2,2,5])] (.pv (.bool true)) 0 []) (h2:Fn 27 2 [.ls 0 [1,1,5].length,.ls 1 [1,1,5].length] [(0,0,zrI [1,1,5]),(1,0,zrI [1,1,5])] (.pv (.bool true)) 0 []) (h3:Fn 27 2 [.ls 0 [1,0].length,.ls 1 [1,0].length] [(0,0,zrI [1,0]),(1,0,zrI [1,0])] (.pv (.bool true)) 0 []) (h4:Fn 27 2 [.ls 0 [2,0].length,.ls 1 [2,0].length] [(0,0,zrI [2,0]),(1,0,zrI [2,0])] (.pv (.bool true)) 0 []) :
 Fn 18 0 [] [] (.pv (.bool true)) 0 []:=
 qbX 600 [] [Cf hg [],Rf hat0,.lw,Cf hb [0,1],Cf hw [2,3],.md,Cf hg [],Rf hat0,Cf hs [2,3,5],Cf hp [2,3],.k,.lw,Cf h1 [3,11],.k,.k,.k,.lw,Cf h2 [7,12],.lw,Cf h3 [8,13],.k,.lw,Cf h4 [10,14]]
  tI (Co hg [] 0 (Ai hat0 (Co hb [0,1] 2 (Co hw [2,3] 5 (Co hg [] 5 (Ai hat0 (Co hs [2,3,5] 6 (Co hp [2,3] 10 (Co h1 [3,11] 12 (Co h2 [7,12] 13 (Co h3 [8,13] 14 (Co h4 [10,14] 15 tI)))))))))))) (by kernel_rfl)
end Go.Proofs.Ytgbmdijodlfcaaa

namespace Go.Proofs.Ytgbmdijodlfcaaa
set_option maxRecDepth 100000
open Go.RowKit
theorem qg7:∀ (m:List Pt) (p:Pt),qdM (m++[p])=qdM m++[iV p.id,iV p.a,iV p.b]
 | [],_=>rfl
 | q::r,p=>congrArg (fun l=>iV q.id::iV q.a::iV q.b::l) (qg7 r p)
theorem qmD (b:Nat) (m:List Pt) (p:Pt):some (SV.ls b (m.length+1))=some (SV.ls b (m++[p]).length):=by rw[List.length_append];rfl
theorem qlq (m:List Pt) (p:Pt):some (SV.row 68 3 (m.length+1) (qdM m++[iV p.id,iV p.a,iV p.b]))=some (qaf (m++[p])):=by
 have e:=qg7 m p
 rw[← e,qaf,List.length_append];rfl
abbrev wiT (l:List Int) (k:Nat):List (Nat×SV):=[(2,.ls 1 l.length),(3,.pp 2 0),(4,.pp 3 0),(7,.pp 6 0),(9,.pp 7 0),(10,.pv (iV (k:Int)))]
abbrev wiI (l:List Int) (k n:Nat):List (Nat×SV):=[(2,.ls 1 l.length),(3,.pp 2 0),(4,.pp 3 0),(7,.pp 6 0),(9,.pp 7 0),(10,.pv (iV (k:Int))),(11,.pv (iV (n:Int)))]
abbrev qsk (l:List Int) (k:Nat):List (Nat×SV):=[(2,.ls 1 l.length),(3,.pp 2 0),(4,.pp 3 0),(7,.pp 6 0),(9,.pp 7 0),(10,.pv (iV (k:Int)))]
abbrev qsl (l:List Int):List (Nat×SV):=[(2,.ls 1 l.length),(3,.pp 2 0),(4,.pp 3 0),(7,.pp 6 0),(9,.pp 7 0)]
abbrev wiH (s:List Pt) (tn td:Int) (o:Br) (l:List Int) (c:List Pt):List (Nat×Nat×SV):=[(2,0,.ls 0 s.length),(3,0,.pv (iV tn)),(3,1,.pv (iV td)),(6,0,.ls 4 o.p.length),(6,1,.ls 5 o.w.length),(0,0,qaf s),(1,0,zrI l),(4,0,zrI o.p),(5,0,zrI o.w),(7,0,.ls 8 (c).length),(8,0,qaf (c))]
theorem qjg {l:List Int} {s:List Pt} {tn td:Int} (hg:Fn 19 1 [qay 0 s] [(0,0,qaf s)] (.pv (.bool true)) 0 []) (hal:Pure Try.prog 18 #[] (.bool true)) :
 Fn 6 2 [qay 0 s,.pv (qac tn td),.ls 1 l.length] [(0,0,qaf s),(1,0,zrI l)] (.pv (.bool true)) 0 []:=
 Fz [] [Cf hg [0],Rf hal]
  tI (Co hg [0] 4 (Ai hal tI))
abbrev qn1 (s:List Pt):Prop:=Fn 19 1 [qay 0 s] [(0,0,qaf s)] (.pv (.bool false)) 0 []
theorem qlp {l:List Int} {s:List Pt} {tn td e:Int} (hg:qn1 s) (ht:Fn 29 1 [qay 0 s,.pv (qac tn td)] [(0,0,qaf s)] (.pv (iV (e))) 0 []) (he:(e !=0)=true) (hal:Pure Try.prog 18 #[] (.bool true)) :
 Fn 6 2 [qay 0 s,.pv (qac tn td),.ls 1 l.length] [(0,0,qaf s),(1,0,zrI l)] (.pv (.bool true)) 0 []:=
 Fz [] [Cf hg [0],Cf ht [0],.t true,Rf hal]
  tI (Co hg [0] 4 (Co ht [0] 4 (Ai he (Ai hal tI))))
abbrev qot (s:List Pt) (td:Int) (tn:Int):Prop:=Fn 29 1 [qay 0 s,.pv (qac tn td)] [(0,0,qaf s)] (.pv (iV (0))) 0 []
theorem qpg {l:List Int} {s:List Pt} {tn td:Int} (hg:qn1 s) (ht:qot s td tn) (h64:decide ((l.length:Int)>64)=true) (hal:Pure Try.prog 18 #[] (.bool true)) :
 Fn 6 2 [qay 0 s,.pv (qac tn td),.ls 1 l.length] [(0,0,qaf s),(1,0,zrI l)] (.pv (.bool true)) 0 []:=
 Fz [] [Cf hg [0],Cf ht [0],.k,.t true,Rf hal]
  tI (Co hg [0] 4 (Co ht [0] 4 (Ai h64 (Ai hal tI))))
theorem qqW {o:Br} {l:List Int} {s:List Pt} {tn td:Int} (hg:qn1 s) (ht:qot s td tn) (h64:decide ((l.length:Int)>64)=false) (hb1:Fn 9 2 [qay 0 s,.pv (qac tn td),.ls 1 l.length] [(0,0,qaf s),(1,0,zrI l)] (.tu [qh3 2 3 o,.one (.pv (iV 2))]) 2 [(2,0,zrI o.p),(3,0,zrI o.w)]) (h0:((l.length:Int)==0)=true) (hal:Pure Try.prog 18 #[] (.bool true)) :
 Fn 6 2 [qay 0 s,.pv (qac tn td),.ls 1 l.length] [(0,0,qaf s),(1,0,zrI l)] (.pv (.bool true)) 0 []:=
 Fz [] [Cf hg [0],Cf ht [0],.k,.t false,Cf hb1 [0,1],.k,.k,.t true,Rf hal]
  tI (Co hg [0] 4 (Co ht [0] 4 (Ai h64 (Co hb1 [0,1] 4 (Ai h0 (Ai hal tI))))))
theorem qrN {o:Br} {l:List Int} {s:List Pt} {tn td:Int} (hg:qn1 s) (ht:qot s td tn) (h64:decide ((l.length:Int)>64)=false) (hb1:Fn 9 2 [qay 0 s,.pv (qac tn td),.ls 1 l.length] [(0,0,qaf s),(1,0,zrI l)] (.tu [qh3 2 3 o,.one (.pv (iV 6))]) 2 [(2,0,zrI o.p),(3,0,zrI o.w)]) (hkn:Fn 30 2 [qay 0 s,.ls 1 l.length] [(0,0,qaf s),(1,0,zrI l)] (.pv (.bool false)) 0 []) (hal:Pure Try.prog 18 #[] (.bool true)) :
 Fn 6 2 [qay 0 s,.pv (qac tn td),.ls 1 l.length] [(0,0,qaf s),(1,0,zrI l)] (.pv (.bool true)) 0 []:=
 Fz [] [Cf hg [0],Cf ht [0],.k,.t false,Cf hb1 [0,1],.k,.k,.k,Cf hkn [0,1],.k,Rf hal]
  tI (Co hg [0] 4 (Co ht [0] 4 (Ai h64 (Co hb1 [0,1] 4 (Co hkn [0,1] 7 (Ai hal tI))))))
theorem qpZ {o:Br} {l:List Int} {s:List Pt} {tn td:Int} (hg:qn1 s) (ht:qot s td tn) (h64:decide ((l.length:Int)>64)=false) (hb1:Fn 9 2 [qay 0 s,.pv (qac tn td),.ls 1 l.length] [(0,0,qaf s),(1,0,zrI l)] (.tu [qh3 2 3 o,.one (.pv (iV 14))]) 2 [(2,0,zrI o.p),(3,0,zrI o.w)]) (h2:Fn 31 1 [.ls 0 l.length] [(0,0,zrI l)] (.pv (.bool true)) 0 []) (hal:Pure Try.prog 18 #[] (.bool true)) :
 Fn 6 2 [qay 0 s,.pv (qac tn td),.ls 1 l.length] [(0,0,qaf s),(1,0,zrI l)] (.pv (.bool true)) 0 []:=
 Fz [] [Cf hg [0],Cf ht [0],.k,.t false,Cf hb1 [0,1],.k,.k,.k,.k,Cf h2 [1],Rf hal]
  tI (Co hg [0] 4 (Co ht [0] 4 (Ai h64 (Co hb1 [0,1] 4 (Co h2 [1] 7 (Ai hal tI))))))
abbrev qrF (k:Nat) (l:List Int) (n:Nat):TmL:=[(2,.ls 1 l.length),(3,.pp 2 0),(4,.pp 3 0),(7,.pp 6 0),(9,.pp 7 0),(10,.pv (iV (k:Int))),(11,.pv (iV (n:Int)))]
abbrev qr2 (k:Nat) (l:List Int) (n:Nat):TmL:=[(2,.ls 1 l.length),(3,.pp 2 0),(4,.pp 3 0),(7,.pp 6 0),(9,.pp 7 0),(10,.pv (iV (k:Int))),(11,.pv (iV ((n+1:Nat):Int)))]
theorem qld {o:Br} {l:List Int} {s:List Pt} {p:Pt} {k n:Nat} {x tn td:Int} {c:List Pt} (hlt:decide ((n:Int)<(l.length:Int))=true) (hin:0≤(n:Int)∧(n:Int)<(l.length:Int)) (hk:l[n]?=some x) (hin2:0≤(k:Int)∧(k:Int)<(s.length:Int)) (hp:s[k]?=some p) (hxp:(x==p.id)=false) (hs:iV (IntKind.i64.wrap ((n:Int)+1))=iV (((n+1:Nat):Int))) {e:Exit} {tm2:TmL} {hp2:HpL}
 (r:Rl 2 2 6 1 161 9 (qr2 k l n) ([(2,0,.ls 0 s.length),(3,0,.pv (iV tn)),(3,1,.pv (iV td)),(6,0,.ls 4 o.p.length),(6,1,.ls 5 o.w.length),(0,0,qaf s),(1,0,zrI l),(4,0,zrI o.p),(5,0,zrI o.w),(7,0,.ls 8 (c).length),(8,0,qaf (c))]) e tm2 hp2):Rl 2 2 6 1 161 9 (qrF k l n) ([(2,0,.ls 0 s.length),(3,0,.pv (iV tn)),(3,1,.pv (iV td)),(6,0,.ls 4 o.p.length),(6,1,.ls 5 o.w.length),(0,0,qaf s),(1,0,zrI l),(4,0,zrI o.p),(5,0,zrI o.w),(7,0,.ls 8 (c).length),(8,0,qaf (c))]) e tm2 hp2:=
 RunsL.next [] 300 [.t true,.r (iV x),.r (iV p.id),.t false,Re hs]
  (Ro (Ai hlt (Ai hin (Ai (qbO hk) (Ai hin2 (Ai (qc5 hp) (Ai hxp (Ai hs tI)))))))) r
theorem qkg {o:Br} {l:List Int} {s:List Pt} {p:Pt} {k n:Nat} {x tn td:Int} {c:List Pt} (hlt:decide ((n:Int)<(l.length:Int))=true) (hin:0≤(n:Int)∧(n:Int)<(l.length:Int)) (hk:l[n]?=some x) (hin2:0≤(k:Int)∧(k:Int)<(s.length:Int)) (hp:s[k]?=some p) (hxp:(x==p.id)=true) (hm:c.length+1≤1000000) (hs:iV (IntKind.i64.wrap ((n:Int)+1))=iV (((n+1:Nat):Int))) {e:Exit} {tm2:TmL} {hp2:HpL}
 (r:Rl 2 2 6 1 161 9 (qr2 k l n) ([(2,0,.ls 0 s.length),(3,0,.pv (iV tn)),(3,1,.pv (iV td)),(6,0,.ls 4 o.p.length),(6,1,.ls 5 o.w.length),(0,0,qaf s),(1,0,zrI l),(4,0,zrI o.p),(5,0,zrI o.w),(7,0,.ls 8 (c++[p]).length),(8,0,qaf (c++[p]))]) e tm2 hp2):Rl 2 2 6 1 161 9 (qrF k l n) ([(2,0,.ls 0 s.length),(3,0,.pv (iV tn)),(3,1,.pv (iV td)),(6,0,.ls 4 o.p.length),(6,1,.ls 5 o.w.length),(0,0,qaf s),(1,0,zrI l),(4,0,zrI o.p),(5,0,zrI o.w),(7,0,.ls 8 (c).length),(8,0,qaf (c))]) e tm2 hp2:=
 RunsL.next [(8,10)] 300 [.t true,.r (iV x),.r (iV p.id),.t true,.r (ptV p),Re hs]
  (Rh (Ai (Er (SV.ls 0 s.length)) (Ai (Er (SV.pv (iV tn))) (Ai (Er (SV.pv (iV td))) (Ai (Er (SV.ls 4 o.p.length)) (Ai (Er (SV.ls 5 o.w.length)) (Ai (Er (qaf s)) (Ai (Er (zrI l)) (Ai (Er (zrI o.p)) (Ai (Er (zrI o.w)) (Ai (qmD 10 c p) (Ai (qlq c p) tI))))))))))) (Ai hlt (Ai hin (Ai (qbO hk) (Ai hin2 (Ai (qc5 hp) (Ai hxp (Ai hin2 (Ai (qdP hp) (Ai hm (Ai hs tI))))))))))) r
abbrev qqv (k:Nat) (l:List Int):TmL:=[(2,.ls 1 l.length),(3,.pp 2 0),(4,.pp 3 0),(7,.pp 6 0),(9,.pp 7 0),(10,.pv (iV (k:Int)))]
theorem qj6 {o:Br} {l:List Int} {s:List Pt} {k n:Nat} {tn td:Int} {c:List Pt} (hlt:decide ((n:Int)<(l.length:Int))=false):Rl 2 2 6 1 161 9 (qrF k l n) ([(2,0,.ls 0 s.length),(3,0,.pv (iV tn)),(3,1,.pv (iV td)),(6,0,.ls 4 o.p.length),(6,1,.ls 5 o.w.length),(0,0,qaf s),(1,0,zrI l),(4,0,zrI o.p),(5,0,zrI o.w),(7,0,.ls 8 (c).length),(8,0,qaf (c))]) (.exit 2) (qqv k l) ([(2,0,.ls 0 s.length),(3,0,.pv (iV tn)),(3,1,.pv (iV td)),(6,0,.ls 4 o.p.length),(6,1,.ls 5 o.w.length),(0,0,qaf s),(1,0,zrI l),(4,0,zrI o.p),(5,0,zrI o.w),(7,0,.ls 8 (c).length),(8,0,qaf (c))]):=
 RunsL.stop [] 300 [.t false] (fun h=>by cases h)
  (Ro (Ai hlt tI))
theorem qmr {o:Br} {l:List Int} {s:List Pt} {k:Nat} {tn td:Int} {c:List Pt} {a:List Pt} (hlt:decide ((k:Int)<(s.length:Int))=true) (r1:Rl 2 2 6 1 161 9 ([(2,.ls 1 l.length),(3,.pp 2 0),(4,.pp 3 0),(7,.pp 6 0),(9,.pp 7 0),(10,.pv (iV (k:Int))),(11,.pv (iV ((0:Nat):Int)))]) ([(2,0,.ls 0 s.length),(3,0,.pv (iV tn)),(3,1,.pv (iV td)),(6,0,.ls 4 o.p.length),(6,1,.ls 5 o.w.length),(0,0,qaf s),(1,0,zrI l),(4,0,zrI o.p),(5,0,zrI o.w),(7,0,.ls 8 (c).length),(8,0,qaf (c))]) (.exit 2) (qqv k l) ([(2,0,.ls 0 s.length),(3,0,.pv (iV tn)),(3,1,.pv (iV td)),(6,0,.ls 4 o.p.length),(6,1,.ls 5 o.w.length),(0,0,qaf s),(1,0,zrI l),(4,0,zrI o.p),(5,0,zrI o.w),(7,0,.ls 8 (a).length),(8,0,qaf (a))])) (hs:iV (IntKind.i64.wrap ((k:Int)+1))=iV (((k+1:Nat):Int))) {e:Exit} {tm2:TmL} {hp2:HpL}
 (r:Rl 2 2 6 0 161 9 ([(2,.ls 1 l.length),(3,.pp 2 0),(4,.pp 3 0),(7,.pp 6 0),(9,.pp 7 0),(10,.pv (iV ((k+1:Nat):Int)))]) ([(2,0,.ls 0 s.length),(3,0,.pv (iV tn)),(3,1,.pv (iV td)),(6,0,.ls 4 o.p.length),(6,1,.ls 5 o.w.length),(0,0,qaf s),(1,0,zrI l),(4,0,zrI o.p),(5,0,zrI o.w),(7,0,.ls 8 (a).length),(8,0,qaf (a))]) e tm2 hp2):Rl 2 2 6 0 161 9 (qqv k l) ([(2,0,.ls 0 s.length),(3,0,.pv (iV tn)),(3,1,.pv (iV td)),(6,0,.ls 4 o.p.length),(6,1,.ls 5 o.w.length),(0,0,qaf s),(1,0,zrI l),(4,0,zrI o.p),(5,0,zrI o.w),(7,0,.ls 8 (c).length),(8,0,qaf (c))]) e tm2 hp2:=
 RunsL.next [] 300 [.t true,Lf r1,Re hs]
  (Ro (Ai hlt (Lo r1 [] (Ai hs tI)))) r
abbrev qqz (l:List Int):TmL:=[(2,.ls 1 l.length),(3,.pp 2 0),(4,.pp 3 0),(7,.pp 6 0),(9,.pp 7 0)]
theorem qnF {o:Br} {l:List Int} {s:List Pt} {k:Nat} {tn td:Int} {c:List Pt} (hlt:decide ((k:Int)<(s.length:Int))=false):Rl 2 2 6 0 161 9 (qqv k l) ([(2,0,.ls 0 s.length),(3,0,.pv (iV tn)),(3,1,.pv (iV td)),(6,0,.ls 4 o.p.length),(6,1,.ls 5 o.w.length),(0,0,qaf s),(1,0,zrI l),(4,0,zrI o.p),(5,0,zrI o.w),(7,0,.ls 8 (c).length),(8,0,qaf (c))]) (.exit 0) (qqz l) ([(2,0,.ls 0 s.length),(3,0,.pv (iV tn)),(3,1,.pv (iV td)),(6,0,.ls 4 o.p.length),(6,1,.ls 5 o.w.length),(0,0,qaf s),(1,0,zrI l),(4,0,zrI o.p),(5,0,zrI o.w),(7,0,.ls 8 (c).length),(8,0,qaf (c))]):=
 RunsL.stop [] 300 [.t false] (fun h=>by cases h)
  (Ro (Ai hlt tI))
theorem qkI {o:Br} {l:List Int} {s:List Pt} {tn td:Int} {c:List Pt} (hg:qn1 s) (ht:qot s td tn) (h64:decide ((l.length:Int)>64)=false) (hb1:Fn 9 2 [qay 0 s,.pv (qac tn td),.ls 1 l.length] [(0,0,qaf s),(1,0,zrI l)] (.tu [qh3 2 3 o,.one (.pv (iV 0))]) 2 [(2,0,zrI o.p),(3,0,zrI o.w)]) (r0:Rl 2 2 6 0 161 9 ([(2,.ls 1 l.length),(3,.pp 2 0),(4,.pp 3 0),(7,.pp 6 0),(9,.pp 7 0),(10,.pv (iV ((0:Nat):Int)))]) ([(2,0,.ls 0 s.length),(3,0,.pv (iV tn)),(3,1,.pv (iV td)),(6,0,.ls 4 o.p.length),(6,1,.ls 5 o.w.length),(0,0,qaf s),(1,0,zrI l),(4,0,zrI o.p),(5,0,zrI o.w),(7,0,.ls 8 ([]:List Pt).length),(8,0,qaf ([]:List Pt))]) (.exit 0) (qqz l) ([(2,0,.ls 0 s.length),(3,0,.pv (iV tn)),(3,1,.pv (iV td)),(6,0,.ls 4 o.p.length),(6,1,.ls 5 o.w.length),(0,0,qaf s),(1,0,zrI l),(4,0,zrI o.p),(5,0,zrI o.w),(7,0,.ls 8 (c).length),(8,0,qaf (c))])) (hr:Fn 15 3 [brS 0 1 o,qay 2 s,.pv (qac tn td)] [(0,0,zrI o.p),(1,0,zrI o.w),(2,0,qaf s)] (.pv (.tuple #[.bool true,iV 0])) 0 []) (hw:Fn 12 2 [brS 0 1 o] [(0,0,zrI o.p),(1,0,zrI o.w)] (.pv (.tuple #[iV 0,iV 42])) 0 []) (hl:Fn 32 1 [qay 0 c,.pv (qac tn td)] [(0,0,qaf c)] (.pv (.tuple #[iV 0,iV 42])) 0 []) (hsp:Fn 27 2 [.ls 0 o.p.length,.ls 1 l.length] [(0,0,zrI o.p),(1,0,zrI l)] (.pv (.bool true)) 0 []) (hc:((c.length:Int)==0)=true) (hal:Pure Try.prog 18 #[] (.bool true)) :
 Fn 6 2 [qay 0 s,.pv (qac tn td),.ls 1 l.length] [(0,0,qaf s),(1,0,zrI l)] (.pv (.bool true)) 0 []:=
 qbX 700 [] [Cf hg [0],Cf ht [0],.k,.t false,Cf hb1 [0,1],.k,.ln false 7 0 68 3,Lf r0,Cf hr [4,5,0],Cf hw [4,5],Cf hl [8],.k,.k,Cf hsp [4,1],.k,.t true,.k,.k,Rf hal]
  tI (Co hg [0] 4 (Co ht [0] 4 (Ai h64 (Co hb1 [0,1] 4 (Lo r0 [] (Co hr [4,5,0] 9 (Co hw [4,5] 9 (Co hl [8] 9 (Co hsp [4,1] 9 (Ai hc (Ai hal tI))))))))))) (by kernel_rfl)
theorem qkj {o:Br} {l:List Int} {s:List Pt} {x tn td:Int} {c:List Pt} (hg:qn1 s) (ht:qot s td tn) (h64:decide ((l.length:Int)>64)=false) (hb1:Fn 9 2 [qay 0 s,.pv (qac tn td),.ls 1 l.length] [(0,0,qaf s),(1,0,zrI l)] (.tu [qh3 2 3 o,.one (.pv (iV 0))]) 2 [(2,0,zrI o.p),(3,0,zrI o.w)]) (r0:Rl 2 2 6 0 161 9 ([(2,.ls 1 l.length),(3,.pp 2 0),(4,.pp 3 0),(7,.pp 6 0),(9,.pp 7 0),(10,.pv (iV ((0:Nat):Int)))]) ([(2,0,.ls 0 s.length),(3,0,.pv (iV tn)),(3,1,.pv (iV td)),(6,0,.ls 4 o.p.length),(6,1,.ls 5 o.w.length),(0,0,qaf s),(1,0,zrI l),(4,0,zrI o.p),(5,0,zrI o.w),(7,0,.ls 8 ([]:List Pt).length),(8,0,qaf ([]:List Pt))]) (.exit 0) (qqz l) ([(2,0,.ls 0 s.length),(3,0,.pv (iV tn)),(3,1,.pv (iV td)),(6,0,.ls 4 o.p.length),(6,1,.ls 5 o.w.length),(0,0,qaf s),(1,0,zrI l),(4,0,zrI o.p),(5,0,zrI o.w),(7,0,.ls 8 (c).length),(8,0,qaf (c))])) (hr:Fn 15 3 [brS 0 1 o,qay 2 s,.pv (qac tn td)] [(0,0,zrI o.p),(1,0,zrI o.w),(2,0,qaf s)] (.pv (.tuple #[.bool true,iV 0])) 0 []) (hw:Fn 12 2 [brS 0 1 o] [(0,0,zrI o.p),(1,0,zrI o.w)] (.pv (.tuple #[iV x,iV 0])) 0 []) (hl:Fn 32 1 [qay 0 c,.pv (qac tn td)] [(0,0,qaf c)] (.pv (.tuple #[iV x,iV 0])) 0 []) (hsp:Fn 27 2 [.ls 0 o.p.length,.ls 1 l.length] [(0,0,zrI o.p),(1,0,zrI l)] (.pv (.bool true)) 0 []) (hc:((c.length:Int)==0)=false) (hal:Pure Try.prog 18 #[] (.bool true)) :
 Fn 6 2 [qay 0 s,.pv (qac tn td),.ls 1 l.length] [(0,0,qaf s),(1,0,zrI l)] (.pv (.bool true)) 0 []:=
 qbX 700 [] [Cf hg [0],Cf ht [0],.k,.t false,Cf hb1 [0,1],.k,.ln false 7 0 68 3,Lf r0,Cf hr [4,5,0],Cf hw [4,5],Cf hl [8],.k,.k,Cf hsp [4,1],.k,.t false,.k,.k,.t true,Rf hal]
  tI (Co hg [0] 4 (Co ht [0] 4 (Ai h64 (Co hb1 [0,1] 4 (Lo r0 [] (Co hr [4,5,0] 9 (Co hw [4,5] 9 (Co hl [8] 9 (Co hsp [4,1] 9 (Ai hc (Ai (qnS x) (Ai hal tI)))))))))))) (by kernel_rfl)
end Go.Proofs.Ytgbmdijodlfcaaa

namespace Go.Proofs.Ytgbmdijodlfcaaa
set_option maxRecDepth 100000
open Go.RowKit
theorem qpF {f:FuncId} {v:Value} (h:Fn f 0 [] [] (.pv v) 0 []):Pure Try.prog f #[] v:=by
 intro w
 refine (h w Bl.no [] (qej w) (fun _ _=>⟨rfl,rfl⟩) tI).mono fun e w' ⟨u,β',he,_,hx,hh,_⟩=>?_
 cases hx
 exact⟨he,hh.gr⟩
theorem qlG {n:Int} (h1 : -1000≤n) (h2:n≤1000):I64 n:=⟨by omega,by omega⟩
theorem qe1:Val qbK:=⟨by show 3≤64;omega,fun p hp=>by
 simp only[List.mem_cons,List.not_mem_nil,or_false] at hp
 rcases hp with rfl | rfl | rfl<;>decide,fun k p q hp hq=>by
 match k,hp,hq with
 | 0,hp,hq=>cases hp;cases hq;decide
 | 1,hp,hq=>cases hp;cases hq;decide
 | 2,_,hq=>simp at hq
 | k+3,hp,_=>simp at hp⟩
theorem qrY {p:List Int} (h:∀ x∈p,x = -1∨x=1∨x=2∨x=5):KnB qbK p:=fun x hx h1=>by
 rcases h x hx with rfl | rfl | rfl | rfl
 ·exact (h1 rfl).elim
 ·exact⟨⟨1,0,2⟩,by simp,rfl⟩
 ·exact⟨⟨2,6,-1⟩,by simp,rfl⟩
 ·exact⟨⟨5,0,0⟩,by simp,rfl⟩
theorem qmn {p:List Int} (h:∀ i,i<p.length→∀ k,k<p.length→p.getD i 0=p.getD k 0→0≤p.getD i 0→i=k):OneB p:=fun i k x hi hk h0=>by
 have e1:p.getD i 0=x:=by rw[List.getD_eq_getElem?_getD,hi];rfl
 have e2:p.getD k 0=x:=by rw[List.getD_eq_getElem?_getD,hk];rfl
 exact h i (qam hi) k (qam hk) (e1.trans e2.symm) (by rw[e1];exact h0)
section
variable {s:List Pt} {tn td:Int}
theorem qoR {p:List Int} (hk:KnB s p) (h1:OneB p):idE s p=0:=by unfold idE;rw[if_pos hk,if_pos h1]
theorem qlY {p:List Int} (ht:tE s tn td=0) (n:1≤p.length∧p.length≤64) (hk:KnB s p) (h1:OneB p):buE s tn td p=0∧buR s tn td p=bld s tn td p:=by
 have e:buE s tn td p=0:=by unfold buE;rw[if_pos ht,if_pos n,if_pos hk,if_pos h1]
 exact⟨e,by unfold buR;rw[if_pos e]⟩
theorem qpr {b:Br} {z x:Int} (V:VB b) (ht:tE s tn td=0) (hz:0≤z∧z<b.p.length) (hk:KnB s (b.p.set z.toNat x)) (h1:OneB (b.p.set z.toNat x)):seE b s tn td z x=0∧seR s tn td b z x=rpF s tn td (wy (b.w.length+z.toNat)) (⟨b.p.set z.toNat x,b.w⟩,[]):=by
 have e:seE b s tn td z x=0:=(qlL V ht hz).trans (qoR hk h1)
 exact⟨e,by unfold seR;rw[if_pos e]⟩
end
theorem qqP (n:Int) (h:okB n 1=true):tE qbK n 1=0:=qng qe1 h
abbrev br4:Br:=⟨[1,2,-1,5],[2,2,5]⟩
theorem qlJ:bld qbK 0 1 [1,2,-1,5]=br4:=by
 have:=qj9
 show (⟨[1,2,-1,5],_⟩:Br)=_
 rw[show br4=⟨[1,2,-1,5],(bld qbK 0 1 [1,2,-1,5]).w⟩ by rw[this]]
 rfl
theorem qgK:VB br4:=by
 rw[← qlJ]
 exact qlR qe1 (by decide) (by decide) (qrY (by decide)) (qmn (by decide))
theorem qnw:Fn 10 0 [] [] (.ag [.ls 0 3]) 1 [(0,0,qaf qbK)]:=qru
set_option maxRecDepth 10000 in
theorem qbW:Pure Try.prog 18 #[] (.bool true):=by
 have z0:I64 0:=qlG (by omega) (by omega)
 have z1:I64 1:=qlG (by omega) (by omega)
 have ht:=qqP 0 (by decide)
 have hb:=qma (s:=qbK) z0 z1 [1,2,-1,5] (by decide)
 obtain⟨e1,e2⟩:=qlY (p:=[1,2,-1,5]) ht (by decide) (qrY (by decide)) (qmn (by decide))
 unfold qcf at hb
 rw[e1,e2,qlJ] at hb
 have hw:=qi2 (b:=br4) (by decide) (by decide)
 unfold qhM at hw
 rw[(qjJ qgK (by decide)).1,(qjJ qgK (by decide)).2] at hw
 have hs:=qsg (s:=qbK) (b:=br4) (z:=1) (x:=-1) z0 z1 (by decide) (by decide)
 obtain⟨e3,e4⟩:=qpr (s:=qbK) (tn:=0) (td:=1) (b:=br4) (z:=1) (x:=-1) qgK ht (by decide) (qrY (by decide)) (qmn (by decide))
 have e5:seR qbK 0 1 br4 1 (-1)=(⟨[1,-1,-1,5],[1,1,5]⟩,[1,0]):=by
  rw[e4]
  generalize hq:rpF qbK 0 1 (wy (br4.w.length+(1:Int).toNat)) (⟨br4.p.set (1:Int).toNat (-1),br4.w⟩,[])=q
  have h1:q.1.w=[1,1,5]:=by rw[← hq];decide
  have h2:q.2=[1,0]:=by rw[← hq];decide
  have h3:q.1.p=[1,-1,-1,5]:=by rw[← hq];decide
  obtain⟨⟨p,w⟩,m⟩:=q
  simp only at h1 h2 h3
  rw[h1,h2,h3]
 unfold qf8 at hs
 rw[e3,e5] at hs
 have hp:=qqH (b:=br4) (by decide) (by decide) 3
 obtain⟨e6,e7⟩:=qna (b:=br4) (z:=3) qgK (by decide)
 unfold qff at hp
 rw[e6,e7,show wyV (br4.w.length+(3:Int).toNat)=[2,0] by decide] at hp
 exact qpF (qq2 (hg:=qnw) (hat0:=qqL) (hb:=hb) (hw:=hw) (hs:=hs) (hp:=hp) (h1:=qir (by decide)) (h2:=qir (by decide)) (h3:=qir (by decide)) (h4:=qir (by decide)))
section
variable {s:List Pt} {tn td:Int} (htn:I64 tn) (htd:I64 td)
end
end Go.Proofs.Ytgbmdijodlfcaaa

namespace Go.Proofs.Ytgbmdijodlfcaaa
set_option maxRecDepth 100000
open Go.RowKit
section
variable {s c:List Pt} {tn td:Int}
theorem qpx (hv:Val c) (ht:Tm tn td) (hne:c≠[]):∃ t m,Srt c tn td t∧t[0]?=some m∧Fn 32 1 [qay 0 c,.pv (qac tn td)] [(0,0,qaf c)] (.pv (.tuple #[iV m.id,iV 0])) 0 []:=by
 obtain⟨t,hs⟩:=qks (tn:=tn) (td:=td) hv
 have hl:0<c.length:=List.length_pos_iff.2 hne
 obtain⟨m,hm⟩:=qaj (l:=t) (k:=0) (by rw[hs.len];exact hl)
 have h:=qjH ht.hn ht.hd c
 rw[qng hv ht.ok] at h
 exact⟨t,m,hs,hm,qiK h (by rw[beq_eq_false_iff_ne];omega) (qnr hv ht hs hm)⟩
theorem qf6 (ht:Tm tn td):Fn 32 1 [qay 0 [],.pv (qac tn td)] [(0,0,qaf [])] (.pv (.tuple #[iV 0,iV 42])) 0 []:=by
 have h:=qjH ht.hn ht.hd []
 rw[qng ⟨by decide,fun p hp=>by (cases hp),fun k p q hp=>by simp at hp⟩ ht.ok] at h
 exact qkC h (by decide)
variable {o:Br} {l:List Int}
abbrev inC (c:List Pt) (l:List Int) (p:Pt) (n:Nat):List Pt:=c++if p.id∈l.take n then [p] else []
theorem qls {p:Pt} {n:Nat} {x:Int} (h1:OneB l) (h0:0≤p.id) (hx:l[n]?=some x):(x=p.id→inC c l p n=c∧inC c l p (n+1)=c++[p])∧(x≠p.id→inC c l p (n+1)=inC c l p n):=by
 have e:l.take (n+1)=l.take n++[x]:=by rw[List.take_add_one,hx];rfl
 refine⟨fun ex=>?_,fun ex=>?_⟩
 ·have hn:p.id∉l.take n:=fun hm=>by
   obtain⟨j,hj⟩:=List.getElem?_of_mem hm
   have jl:=qam hj
   rw[List.length_take] at jl
   rw[List.getElem?_take,if_pos (by omega)] at hj
   have:=h1 j n p.id hj (by rw[hx,ex]) h0
   omega
  unfold inC
  rw[if_neg hn,e,if_pos (by rw[ex];simp),List.append_nil]
  exact⟨rfl,rfl⟩
 ·unfold inC
  rw[e]
  by_cases hm:p.id∈l.take n
  ·rw[if_pos hm,if_pos (List.mem_append_left _ hm)]
  ·rw[if_neg hm,if_neg fun h=>by
    rcases List.mem_append.1 h with h | h
    ·exact hm h
    ·rw[List.mem_singleton] at h;exact ex h.symm]
theorem qnj {k:Nat} {p:Pt} (hk:s[k]?=some p) (h1:OneB l) (h0:0≤p.id) (hc:c.length≤70) (hl:l.length≤64) :
 Rl 2 2 6 1 161 9 (wiI l k 0) (wiH s tn td o l c) (.exit 2) (qsk l k) (wiH s tn td o l (inC c l p l.length)):=by
 have e0:inC c l p 0=c:=by unfold inC;rw[List.take_zero,if_neg (by simp),List.append_nil]
 have last:=qj6 (s:=s) (tn:=tn) (td:=td) (o:=o) (l:=l) (c:=inC c l p l.length) (k:=k) (n:=l.length) (hlt:=df (by omega))
 have:=RunsL.roundsZ (N:=l.length) (fun n=>wiI l k n) (fun n=>wiH s tn td o l (inC c l p n)) l.length 0 (by omega) (fun n _ hn r=>by
  obtain⟨x,hx⟩:=qaj (l:=l) (k:=n) hn
  have hkl:=qam hk
  obtain⟨g1,g2⟩:=qls (c:=c) h1 h0 hx
  by_cases ex:x=p.id
  ·obtain⟨e1,e2⟩:=g1 ex
   rw[e2] at r
   rw[e1]
   exact qkg (hlt:=dt (by omega)) (hin:=qas hn) (hk:=hx) (hin2:=qas hkl) (hp:=hk) (hxp:=by simp[ex]) (hm:=by omega) (hs:=qar (by omega)) r
  ·rw[g2 ex] at r
   exact qld (hlt:=dt (by omega)) (hin:=qas hn) (hk:=hx) (hin2:=qas hkl) (hp:=hk) (hxp:=by simpa using ex) (hs:=qar (by omega)) r) last
 rw[e0] at this
 exact this
theorem qis (hs:Val s) (h1:OneB l) (hl:l.length≤64) :
 Rl 2 2 6 0 161 9 (wiT l 0) (wiH s tn td o l []) (.exit 0) (qsl l) (wiH s tn td o l (qga s l)):=by
 have hsl:=hs.len
 have last:=qnF (s:=s) (tn:=tn) (td:=td) (o:=o) (l:=l) (c:=qga (s.take s.length) l) (k:=s.length) (hlt:=df (by omega))
 have:=RunsL.roundsZ (N:=s.length) (fun k=>wiT l k) (fun k=>wiH s tn td o l (qga (s.take k) l)) s.length 0 (by omega) (fun k _ hk r=>by
  obtain⟨p,hp⟩:=qaj (l:=s) (k:=k) hk
  have h0:0≤p.id:=(qbe.1 (hs.ok p (List.mem_of_getElem? hp))).1
  have hc:(qga (s.take k) l).length≤70:=by
   have:=List.length_filter_le (fun q:Pt=>decide (q.id∈l)) (s.take k)
   have e:(s.take k).length≤s.length:=by rw[List.length_take];omega
   unfold qga
   omega
  have e:qga (s.take (k+1)) l=inC (qga (s.take k) l) l p l.length:=by
   unfold qga inC
   rw[List.take_add_one,hp,Option.toList_some,List.filter_append,List.take_length]
   by_cases hm:p.id∈l
   ·rw[if_pos hm,List.filter_cons_of_pos (by simpa using hm)];rfl
   ·rw[if_neg hm,List.filter_cons_of_neg (by simpa using hm)];rfl
  rw[e] at r
  exact qmr (hlt:=dt (by omega)) (r1:=qnj hp h1 h0 hc hl) (hs:=qar (by omega)) r) last
 rw[List.take_length] at this
 exact this
variable (htn:I64 tn) (htd:I64 td)
include htn htd in
theorem qoy (l:List Int):Fn 6 2 [qay 0 s,.pv (qac tn td),.ls 1 l.length] [(0,0,qaf s),(1,0,zrI l)] (.pv (.bool true)) 0 []:=by
 rcases qjv s with ⟨_,hg⟩ | ⟨_,hg⟩
 ·exact qjg (hg:=hg) (hal:=qbW)
 have c2:=qjq htn htd s
 by_cases ht:tE s tn td=0
 ·rw[ht] at c2
  obtain⟨hs,hok⟩:=qcR ht
  by_cases h64:64<l.length
  ·exact qpg (hg:=hg) (ht:=c2) (h64:=dt (by omega)) (hal:=qbW)
  have h64':decide ((l.length:Int)>64)=false:=df (by omega)
  have c1:=qma htn htd (s:=s) l (by omega)
  unfold qcf at c1
  have c3:=qhJ hs (l:=l) rfl (by omega)
  by_cases n1:1≤l.length
  ·have nn:1≤l.length∧l.length≤64:=⟨n1,by omega⟩
   by_cases hk:KnB s l
   ·by_cases ho:OneB l
    ·obtain⟨e1,e2⟩:=qlY ht nn hk ho
     rw[e1,e2] at c1
     have V:=qlR (tn:=tn) (td:=td) hs nn.1 nn.2 hk ho
     have hR:=qbR (s:=s) (tn:=tn) (td:=td) nn.1
     have bl:(bld s tn td l).w.length=l.length-1:=qci l
     have hw:(bld s tn td l).w.length+1=(bld s tn td l).p.length:=V.w
     have bp:(bld s tn td l).p.length=l.length:=rfl
     have cr:=qoB htn htd (s:=s) (b:=bld s tn td l) (by omega) (by omega)
     unfold qcN at cr
     rw[(qgD V ht hk).1,(qgD V ht hk).2,qfD hR] at cr
     have cw:=qi2 (b:=bld s tn td l) (by omega) (by omega)
     unfold qhM at cw
     have hsp:=qir (l:=l) (by omega)
     have htm:Tm tn td:=⟨htn,htd,hok⟩
     by_cases he:qga s l=[]
     ·have hn:=hR.none hw hk he
      obtain⟨w1,w2⟩:=qn0 V (by omega)
      rw[w1,w2] at cw
      have r0:=qis (tn:=tn) (td:=td) (o:=bld s tn td l) hs ho (by omega)
      rw[he] at r0
      exact qkI (hg:=hg) (ht:=c2) (h64:=h64') (hb1:=c1) (r0:=r0) (hr:=cr) (hw:=cw) (hl:=qf6 htm) (hsp:=hsp) (hc:=by decide) (hal:=qbW)
     ·obtain⟨t,m,st,hm,cl⟩:=qpx (qj2 hs l) htm he
      have hn:=hR.leader hs hw hk st hm
      have hm0:0≤m.id:=(qbe.1 (hs.ok m (qdf.1 (st.perm.mem_iff.1 (List.mem_of_getElem? hm))).1)).1
      obtain⟨w1,w2⟩:=qjJ V (by omega)
      rw[w1,w2,hn] at cw
      exact qkj (hg:=hg) (ht:=c2) (h64:=h64') (hb1:=c1) (r0:=qis (tn:=tn) (td:=td) (o:=bld s tn td l) hs ho (by omega)) (hr:=cr) (hw:=cw) (hl:=cl) (hsp:=hsp) (hc:=by
       have:=List.length_pos_iff.2 he
       rw[beq_eq_false_iff_ne];omega) (hal:=qbW)
    ·have e1:buE s tn td l=14:=by unfold buE;rw[if_pos ht,if_pos nn,if_pos hk,if_neg ho]
     rw[e1] at c1
     have c4:=qhk (l:=l) (by omega)
     rw[qfD ho] at c4
     exact qpZ (hg:=hg) (ht:=c2) (h64:=h64') (hb1:=c1) (h2:=c4) (hal:=qbW)
   ·have e1:buE s tn td l=6:=by unfold buE;rw[if_pos ht,if_pos nn,if_neg hk]
    rw[e1] at c1
    rw[qfE hk] at c3
    exact qrN (hg:=hg) (ht:=c2) (h64:=h64') (hb1:=c1) (hkn:=c3) (hal:=qbW)
  ·have e1:buE s tn td l=2:=by unfold buE;rw[if_pos ht,if_neg (by omega)]
   rw[e1] at c1
   exact qqW (hg:=hg) (ht:=c2) (h64:=h64') (hb1:=c1) (h0:=beq_iff_eq.2 (by omega)) (hal:=qbW)
 ·exact qlp (hg:=hg) (ht:=c2) (he:=by simpa using ht) (hal:=qbW)
end
theorem qjK (s:List Pt) (tn td:Int) (htn:I64 tn) (htd:I64 td) (l:List Int) (_:∀ p∈l,(Lit.int .i64 p).wf=true):Fn 6 2 [qay 0 s,.pv (qac tn td),.ls 1 l.length] [(0,0,qaf s),(1,0,zrI l)] (.pv (.bool true)) 0 []:=qoy htn htd l
end Go.Proofs.Ytgbmdijodlfcaaa
