/-
  Joined: Kr, Zf. Conditions: none.
-/
import Derived.Test.YtkjaanhddkkodaaGreatW27
import Derived.Test.YtkjaanhddkkodaaGreatZj
import Derived.Test.YtkjaanhddkkodaaGreatW23
import Derived.Test.YtkjaanhddkkodaaGreatW24
import Derived.Test.YtkjaanhddkkodaaGreatW18
import Derived.Test.YtkjaanhddkkodaaGreatZe
namespace Go.Proofs.YtkjaanhddkkodaaGreat
set_option maxRecDepth 100000
open Go.RowKit
theorem qFc {f:FuncId} {y:Int} (h:Fn f 0 [] [] (.pv (.agg #[iV y,.slice none 0 0])) 0 []):Fn f 0 [] [] (.ag [.pv (iV y),.ls 0 0]) 1 [(0,0,qal [])]:=by
 intro w β us hH hd hi
 refine (h w β us hH hd hi).mono fun e w' ⟨v,β',he,hle,hx,hh,hd'⟩=>?_
 cases hx
 have hd0:=hd' 0 (by omega)
 have hle0:β'.le (β'.setG 0 (.slice none 0 0)):=Bl.le_setG hd0.1 hd0.2
 have ho:w'.ownsRow w.heap.size 94 3 (.slice none 0 0) 0 []:=⟨rfl,Or.inl ⟨rfl,rfl⟩⟩
 have look:∀ {b o:Nat} {s t:SV},qag [(0,0,s)] b o=some t→b=0∧o=0∧t=s:=by
  intro b o s t h
  rw[qah] at h
  split at h
  ·rename_i e;cases h;exact⟨e.1.symm,e.2.symm,rfl⟩
  ·cases h
 refine⟨_,β'.setG 0 (.slice none 0 0),he,Bl.le_trans hle hle0,⟨[iV y,.slice none 0 0],⟨rfl,⟨Bl.setG_same _ _ _,none,0,rfl⟩,tI⟩,rfl⟩,?_,fun b hb=>⟨(hd' b (by omega)).1,by unfold Bl.setG;simp only[if_neg (show b≠0 by omega)];exact (hd' b (by omega)).2⟩⟩
 refine⟨hh.gr,hh.live,hh.inj,hh.new,fun c r hc=>?_,fun c o s hs hsr=>?_,fun c o e es n xs hs=>?_,fun c o e es n xs c' o' e' es' n' xs' u v hs hs' h1 h2 hne=>?_,fun c o xs hs=>?_⟩
 ·have hc':β' c=some r:=hc
  have:c≠0:=fun e=>by subst e;rw[hd0.1] at hc';cases hc'
  show (if c=0 then _ else β'.g c)=none
  rw[if_neg this]
  exact hh.sep c r hc'
 ·obtain⟨_,_,rfl⟩:=look hs;cases hsr
 ·obtain⟨rfl,_,e1⟩:=look hs
  cases e1
  exact⟨_,Bl.setG_same _ _ _,qek ho,(fun v hv=>by cases hv),fun h=>by omega,fun _=>ho,fun _ c r hc hu=>by cases hu⟩
 ·exact (hne ((look hs).1.trans (look hs').1.symm)).elim
 ·obtain⟨_,_,e1⟩:=look hs;cases e1
theorem qiM {f:FuncId} {v:Value} (h:Pure Tryz.prog f #[] v):Fn f 0 [] [] (.pv v) 0 []:=by
 intro w β us hH hd hi
 match us,hi with
 | [],_=>
  refine (h w).mono fun e w' ⟨he,hg⟩=>⟨v,β,he,Bl.le_refl β,rfl,hH.gr_mono hg,hd⟩
theorem qe2 {f:FuncId} {v:Value} (h:Fn f 0 [] [] (.pv v) 0 []):Pure Tryz.prog f #[] v:=by
 intro w
 have H0:HRel w 0 Bl.no [] w:=⟨Gr.refl w,fun _ _ e=>(by cases e),fun _ _ _ e=>(by cases e),fun _ _ _ e=>(by cases e),fun _ _ e=>(by cases e),fun _ _ _ e=>(by cases e),fun _ _ _ _ _ _ e=>(by cases e),fun _ _ _ _ _ _ _ _ _ _ _ _ _ _ e=>(by cases e),fun _ _ _ e=>(by cases e)⟩
 refine (h w Bl.no [] H0 (fun _ _=>⟨rfl,rfl⟩) tI).mono fun e w' ⟨u,β',he,_,hx,hh,_⟩=>?_
 cases hx
 exact⟨he,hh.gr⟩
theorem qgo:Fn 52 0 [] [] (.ag [.pv (iV 0),.ls 0 0]) 1 [(0,0,qal [])]:=qFc (qiM qFw)
theorem V8.none {x:Int} (h:0≤x∧x≤1000000):V8 x []:=⟨by simp,by simp,fun k p q hp=>by simp at hp,by simp,by simp,h,fun i k p q _ hp=>by simp at hp⟩
theorem qc4 {l:List Pt} {r p:Pt} {k:Nat} (h:(l++[r])[k]?=some p):l[k]?=some p∨(k=l.length∧p=r):=by
 rcases Nat.lt_or_ge k l.length with h1 | h1
 ·rw[List.getElem?_append_left h1] at h;exact Or.inl h
 ·have:=qak h
  have e:k=l.length:=by simp at this;omega
  subst e
  simp at h
  exact Or.inr ⟨rfl,h.symm⟩
theorem V8.add {x a b:Int} {l:List Pt} (h:V8 x l) (hc:qb8 a b=true) (hh:qfu l a b=false) (hn:l.length<200) (hx:x<1000000):V8 (x+1) (l++[Pt.mk x a b]) where
 len:=by simp;omega
 ok:=fun p hp=>by
  rcases List.mem_append.1 hp with hp | hp
  ·exact h.ok p hp
  ·simp at hp;subst hp;exact hc
 up:=fun k p q hp hq=>by
  rcases qc4 hq with hq | ⟨e,rfl⟩
  ·rcases qc4 hp with hp | ⟨e,_⟩
   ·exact h.up k p q hp hq
   ·have:=qak hq;omega
  ·rcases qc4 hp with hp | ⟨e',_⟩
   ·exact h.hi p (List.mem_of_getElem? hp)
   ·omega
 lo:=fun p hp=>by
  rcases List.mem_append.1 hp with hp | hp
  ·exact h.lo p hp
  ·simp at hp;subst hp;exact h.nx.1
 hi:=fun p hp=>by
  rcases List.mem_append.1 hp with hp | hp
  ·have:=h.hi p hp;omega
  ·simp at hp;subst hp;show x<x+1;omega
 nx:=by have:=h.nx;omega
 dis:=fun i k p q hik hp hq=>by
  rcases qc4 hq with hq | ⟨e,rfl⟩
  ·rcases qc4 hp with hp | ⟨e,_⟩
   ·exact h.dis i k p q hik hp hq
   ·have:=qak hq;omega
  ·rcases qc4 hp with hp | ⟨e',_⟩
   ·intro he
    have:qfu l a b=true:=qdJ.2 ⟨p,List.mem_of_getElem? hp,he⟩
    rw[hh] at this;cases this
   ·omega
theorem qgM {l:List Pt} {k i:Nat} {p:Pt} (h:(l.take k++l.drop (k+1))[i]?=some p):∃ j,l[j]?=some p∧j≠k∧(i<k∧j=i∨k≤i∧j=i+1):=by
 rcases Nat.lt_or_ge i (l.take k).length with h1 | h1
 ·rw[List.getElem?_append_left h1,List.getElem?_take] at h
  split at h
  ·rename_i hik
   exact⟨i,h,by omega,Or.inl ⟨hik,rfl⟩⟩
  ·cases h
 ·rw[List.getElem?_append_right h1,List.getElem?_drop] at h
  have hl:=qak h
  rw[List.length_take] at h1 hl h
  have hk:k≤i:=by omega
  refine⟨i+1,?_,by omega,Or.inr ⟨hk,rfl⟩⟩
  rw[show k+1+(i-min k l.length)=i+1 by omega] at h
  exact h
theorem V8.cut {x:Int} {l:List Pt} (h:V8 x l) (k:Nat):V8 x (l.take k++l.drop (k+1)):=by
 have hm:∀ p∈l.take k++l.drop (k+1),p∈l:=fun p hp=>by
  rcases List.mem_append.1 hp with hp | hp
  ·exact List.mem_of_mem_take hp
  ·exact List.mem_of_mem_drop hp
 refine⟨?_,fun p hp=>h.ok p (hm p hp),fun i p q hp hq=>?_,fun p hp=>h.lo p (hm p hp),fun p hp=>h.hi p (hm p hp),h.nx,fun i j p q hij hp hq=>?_⟩
 ·have:=h.len
  simp;omega
 ·obtain⟨i1,h1,_,c1⟩:=qgM hp
  obtain⟨j1,h2,_,c2⟩:=qgM hq
  exact h.up.mono (by omega) h1 h2
 ·obtain⟨i1,h1,_,c1⟩:=qgM hp
  obtain⟨j1,h2,_,c2⟩:=qgM hq
  exact h.dis i1 j1 p q (by omega) h1 h2
theorem qjF {l:List Pt} {a b:Int} (h:(l.all fun p=>!(p.a==a&&p.b==b))=true):qfu l a b=false:=by
 cases e:qfu l a b
 ·rfl
 ·obtain⟨p,hp,h1,h2⟩:=qdJ.1 e
  have:=List.all_eq_true.1 h p hp
  rw[h1,h2] at this
  simp at this
theorem v0:V8 0 []:=V8.none (by omega)
theorem v1:V8 1 [Pt.mk 0 1 2]:=V8.add v0 (by decide) (qjF (by decide)) (by decide) (by decide)
theorem v2:V8 2 [Pt.mk 0 1 2,Pt.mk 1 3 2]:=V8.add v1 (by decide) (qjF (by decide)) (by decide) (by decide)
theorem v3:V8 2 [Pt.mk 1 3 2]:=V8.cut v2 0
abbrev s3:List Pt:=[Pt.mk 1 5 0,Pt.mk 2 6 0,Pt.mk 3 7 0]
end Go.Proofs.YtkjaanhddkkodaaGreat

namespace Go.Proofs.YtkjaanhddkkodaaGreat
set_option maxRecDepth 100000
open Go.RowKit
theorem qC9 (a b c:Nat):SV.ag [.ls 6 (0+a),.ls 8 (0+b),.ls 10 (0+c)]=(SV.ag [.ls 3 a,.ls 4 b,.ls 5 c]).ren (qaK [(3,6),(4,8),(5,10)]):=by rw[Nat.zero_add,Nat.zero_add,Nat.zero_add];rfl
theorem qyG (g:List Int) (x:Int):some (SV.ls 6 (g.length+1))=some ((SV.ls 4 (g++[x]).length).ren (qaK [(4,6)])):=by rw[List.length_append];rfl
theorem qt3 (g:List Int) (x:Int):some (SV.row 3 1 (g.length+1) (ziV g++[iV x]))=some (zrI (g++[x])):=by rw[zrI,qbi,List.length_append];rfl
abbrev qlS (b:List Bool) (fr:List Int) (u:List Int):HpL:=[(0,0,zrI u),(1,0,zrB b),(2,0,zrI fr)]
theorem qCe {u fr:List Int} {b:List Bool} (h1:decide ((u.length:Int)<1)=true) :
 Fn 129 3 [.ag [.ls 0 u.length,.ls 1 b.length,.ls 2 fr.length]] (qlS b fr u) (.pv (iV (8))) 0 []:=
 Fz [] [.t true]
  tI (Ai h1 tI)
theorem qEq {u fr:List Int} {b:List Bool} (h1:decide ((u.length:Int)<1)=false) (h2:decide ((u.length:Int)>200)=true) :
 Fn 129 3 [.ag [.ls 0 u.length,.ls 1 b.length,.ls 2 fr.length]] (qlS b fr u) (.pv (iV (8))) 0 []:=
 Fz [] [.t false,.t true]
  tI (Ai h1 (Ai h2 tI))
theorem qEa {u fr:List Int} {b:List Bool} (h1:decide ((u.length:Int)<1)=false) (h2:decide ((u.length:Int)>200)=false) (h3:(!((b.length:Int)==(u.length:Int)))=true) :
 Fn 129 3 [.ag [.ls 0 u.length,.ls 1 b.length,.ls 2 fr.length]] (qlS b fr u) (.pv (iV (8))) 0 []:=
 Fz [] [.t false,.t false,.t true]
  tI (Ai h1 (Ai h2 (Ai h3 tI)))
theorem qCb {u fr:List Int} {b:List Bool} (h1:decide ((u.length:Int)<1)=false) (h2:decide ((u.length:Int)>200)=false) (h3:(!((b.length:Int)==(u.length:Int)))=false) (h4:decide ((fr.length:Int)>(u.length:Int))=true) :
 Fn 129 3 [.ag [.ls 0 u.length,.ls 1 b.length,.ls 2 fr.length]] (qlS b fr u) (.pv (iV (8))) 0 []:=
 Fz [] [.t false,.t false,.t false,.t true]
  tI (Ai h1 (Ai h2 (Ai h3 (Ai h4 tI))))
abbrev qgl (b:List Bool) (fr:List Int) (g:List Bool) (u:List Int):HpL:=[(3,0,.ls 0 u.length),(3,1,.ls 1 b.length),(3,2,.ls 2 fr.length),(0,0,zrI u),(1,0,zrB b),(2,0,zrI fr),(4,0,.row 4 1 u.length (zbV g))]
abbrev qzf (k:Nat) (u:List Int):TmL:=[(1,.pp 3 0),(3,.pv (iV (u.length:Int))),(4,.ls 4 u.length),(5,.pv (iV (k:Int)))]
theorem qtp {u fr:List Int} {b g:List Bool} {x:Int} {k:Nat} (hf:fr[k]?=some x) (hif:0≤(k:Int)∧(k:Int)<(fr.length:Int)) (hlt:decide ((k:Int)<(fr.length:Int))=true) (hx0:decide (x<0)=true):Rl 3 3 129 0 117 5 (qzf k u) (qgl b fr g u) (.ret) ([(2,.pv (iV 8))]) ([]):=
 RunsL.stop [] 300 [.t true,.r (iV x),.t true] (fun h=>by cases h)
  (Ro (Ai hlt (Ai hif (Ai (qbb hf) (Ai hx0 tI)))))
theorem qtN {u fr:List Int} {b g:List Bool} {x:Int} {k:Nat} (hf:fr[k]?=some x) (hif:0≤(k:Int)∧(k:Int)<(fr.length:Int)) (hlt:decide ((k:Int)<(fr.length:Int))=true) (hx0:decide (x<0)=false) (hx1:decide (x≥(u.length:Int))=true):Rl 3 3 129 0 117 5 (qzf k u) (qgl b fr g u) (.ret) ([(2,.pv (iV 8))]) ([]):=
 RunsL.stop [] 300 [.t true,.r (iV x),.t false,.r (iV x),.t true] (fun h=>by cases h)
  (Ro (Ai hlt (Ai hif (Ai (qbb hf) (Ai hx0 (Ai hif (Ai (qbb hf) (Ai hx1 tI))))))))
theorem qmM {u fr:List Int} {b g:List Bool} {x:Int} {k:Nat} (hf:fr[k]?=some x) (hif:0≤(k:Int)∧(k:Int)<(fr.length:Int)) (hlt:decide ((k:Int)<(fr.length:Int))=true) (hx0:decide (x<0)=false) (hx1:decide (x≥(u.length:Int))=false) (hix:0≤x∧x<(u.length:Int)) (hg:g[x.toNat]?=some true):Rl 3 3 129 0 117 5 (qzf k u) (qgl b fr g u) (.ret) ([(2,.pv (iV 8))]) ([]):=
 RunsL.stop [] 300 [.t true,.r (iV x),.t false,.r (iV x),.t false,.r (iV x),.r (.bool true)] (fun h=>by cases h)
  (Ro (Ai hlt (Ai hif (Ai (qbb hf) (Ai hx0 (Ai hif (Ai (qbb hf) (Ai hx1 (Ai hif (Ai (qbb hf) (Ai hix (Ai (qfy hg) tI))))))))))))
theorem qjS {u fr:List Int} {b g:List Bool} {x:Int} {k:Nat} (hf:fr[k]?=some x) (hif:0≤(k:Int)∧(k:Int)<(fr.length:Int)) (hlt:decide ((k:Int)<(fr.length:Int))=true) (hx0:decide (x<0)=false) (hx1:decide (x≥(u.length:Int))=false) (hix:0≤x∧x<(u.length:Int)) (hg:g[x.toNat]?=some false) (hgl:x.toNat<g.length) (hs:iV (IntKind.i64.wrap ((k:Int)+1))=iV (((k+1:Nat):Int))) {e:Exit} {tm2:TmL} {hp2:HpL}
 (r:Rl 3 3 129 0 117 5 ([(1,.pp 3 0),(3,.pv (iV (u.length:Int))),(4,.ls 4 u.length),(5,.pv (iV ((k+1:Nat):Int)))]) ([(3,0,.ls 0 u.length),(3,1,.ls 1 b.length),(3,2,.ls 2 fr.length),(0,0,zrI u),(1,0,zrB b),(2,0,zrI fr),(4,0,.row 4 1 u.length (zbV (g.set x.toNat true)))]) e tm2 hp2):Rl 3 3 129 0 117 5 (qzf k u) (qgl b fr g u) e tm2 hp2:=
 RunsL.next [] 300 [.t true,.r (iV x),.t false,.r (iV x),.t false,.r (iV x),.r (.bool false),.r (iV x),.w (zbV (g.set x.toNat true)),Re hs]
  (Ro (Ai hlt (Ai hif (Ai (qbb hf) (Ai hx0 (Ai hif (Ai (qbb hf) (Ai hx1 (Ai hif (Ai (qbb hf) (Ai hix (Ai (qfy hg) (Ai hif (Ai (qbb hf) (Ai hix (Ai (qwI g x.toNat true hgl) (Ai (qfE g x.toNat hgl) (Ai hs tI)))))))))))))))))) r
theorem qs1 {u fr:List Int} {b g:List Bool} {k:Nat} (hge:decide ((k:Int)<(fr.length:Int))=false):Rl 3 3 129 0 117 5 (qzf k u) (qgl b fr g u) (.exit 0) ([(1,.pp 3 0),(3,.pv (iV (u.length:Int))),(4,.ls 4 u.length)]) (qgl b fr g u):=
 RunsL.stop [] 300 [.t false] (fun h=>by cases h)
  (Ro (Ai hge tI))
abbrev qsa (k:Nat) (u:List Int):TmL:=[(1,.pp 3 0),(3,.pv (iV (u.length:Int))),(4,.ls 4 u.length),(6,.pv (iV (k:Int)))]
theorem qs2 {u fr:List Int} {b g:List Bool} {y:Int} {k:Nat} (hu:u[k]?=some y) (hiu:0≤(k:Int)∧(k:Int)<(u.length:Int)) (hlt:decide ((k:Int)<(u.length:Int))=true) (hy0:decide (y<0)=true):Rl 3 3 129 1 117 5 (qsa k u) (qgl b fr g u) (.ret) ([(2,.pv (iV 8))]) ([]):=
 RunsL.stop [] 300 [.t true,.r (iV y),.t true] (fun h=>by cases h)
  (Ro (Ai hlt (Ai hiu (Ai (qbb hu) (Ai hy0 tI)))))
theorem qvv {u fr:List Int} {b g:List Bool} {y:Int} {k:Nat} (hu:u[k]?=some y) (hiu:0≤(k:Int)∧(k:Int)<(u.length:Int)) (hlt:decide ((k:Int)<(u.length:Int))=true) (hy0:decide (y<0)=false) (hy1:decide (y>1000000)=true):Rl 3 3 129 1 117 5 (qsa k u) (qgl b fr g u) (.ret) ([(2,.pv (iV 8))]) ([]):=
 RunsL.stop [] 300 [.t true,.r (iV y),.t false,.r (iV y),.t true] (fun h=>by cases h)
  (Ro (Ai hlt (Ai hiu (Ai (qbb hu) (Ai hy0 (Ai hiu (Ai (qbb hu) (Ai hy1 tI))))))))
theorem qiP {u fr:List Int} {b g:List Bool} {y:Int} {k:Nat} (hu:u[k]?=some y) (hiu:0≤(k:Int)∧(k:Int)<(u.length:Int)) (hlt:decide ((k:Int)<(u.length:Int))=true) (hy0:decide (y<0)=false) (hy1:decide (y>1000000)=false) (hb:b[k]?=some true) (hib:0≤(k:Int)∧(k:Int)<(b.length:Int)) (hg:g[k]?=some true):Rl 3 3 129 1 117 5 (qsa k u) (qgl b fr g u) (.ret) ([(2,.pv (iV 8))]) ([]):=
 RunsL.stop [] 300 [.t true,.r (iV y),.t false,.r (iV y),.t false,.r (.bool true),.r (.bool true),.k] (fun h=>by cases h)
  (Ro (Ai hlt (Ai hiu (Ai (qbb hu) (Ai hy0 (Ai hiu (Ai (qbb hu) (Ai hy1 (Ai hib (Ai (qcy hb) (Ai hiu (Ai (qcy hg) tI))))))))))))
theorem qhD {u fr:List Int} {b g:List Bool} {y:Int} {k:Nat} (hu:u[k]?=some y) (hiu:0≤(k:Int)∧(k:Int)<(u.length:Int)) (hlt:decide ((k:Int)<(u.length:Int))=true) (hy0:decide (y<0)=false) (hy1:decide (y>1000000)=false) (hb:b[k]?=some false) (hib:0≤(k:Int)∧(k:Int)<(b.length:Int)) (hg:g[k]?=some false):Rl 3 3 129 1 117 5 (qsa k u) (qgl b fr g u) (.ret) ([(2,.pv (iV 8))]) ([]):=
 RunsL.stop [] 300 [.t true,.r (iV y),.t false,.r (iV y),.t false,.r (.bool false),.r (.bool false),.k] (fun h=>by cases h)
  (Ro (Ai hlt (Ai hiu (Ai (qbb hu) (Ai hy0 (Ai hiu (Ai (qbb hu) (Ai hy1 (Ai hib (Ai (qcy hb) (Ai hiu (Ai (qcy hg) tI))))))))))))
theorem qgd {u fr:List Int} {b g:List Bool} {y:Int} {k:Nat} (hu:u[k]?=some y) (hiu:0≤(k:Int)∧(k:Int)<(u.length:Int)) (hlt:decide ((k:Int)<(u.length:Int))=true) (hy0:decide (y<0)=false) (hy1:decide (y>1000000)=false) (hb:b[k]?=some false) (hib:0≤(k:Int)∧(k:Int)<(b.length:Int)) (hg:g[k]?=some true) (hs:iV (IntKind.i64.wrap ((k:Int)+1))=iV (((k+1:Nat):Int))) {e:Exit} {tm2:TmL} {hp2:HpL}
 (r:Rl 3 3 129 1 117 5 ([(1,.pp 3 0),(3,.pv (iV (u.length:Int))),(4,.ls 4 u.length),(6,.pv (iV ((k+1:Nat):Int)))]) (qgl b fr g u) e tm2 hp2):Rl 3 3 129 1 117 5 (qsa k u) (qgl b fr g u) e tm2 hp2:=
 RunsL.next [] 300 [.t true,.r (iV y),.t false,.r (iV y),.t false,.r (.bool false),.r (.bool true),.k,.r (.bool false),Re hs]
  (Ro (Ai hlt (Ai hiu (Ai (qbb hu) (Ai hy0 (Ai hiu (Ai (qbb hu) (Ai hy1 (Ai hib (Ai (qcy hb) (Ai hiu (Ai (qcy hg) (Ai hib (Ai (qcy hb) (Ai hs tI))))))))))))))) r
theorem quY {u fr:List Int} {b g:List Bool} {y:Int} {k:Nat} (hu:u[k]?=some y) (hiu:0≤(k:Int)∧(k:Int)<(u.length:Int)) (hlt:decide ((k:Int)<(u.length:Int))=true) (hy0:decide (y<0)=false) (hy1:decide (y>1000000)=false) (hb:b[k]?=some true) (hib:0≤(k:Int)∧(k:Int)<(b.length:Int)) (hg:g[k]?=some false) (hy2:decide (y<1)=true):Rl 3 3 129 1 117 5 (qsa k u) (qgl b fr g u) (.ret) ([(2,.pv (iV 8))]) ([]):=
 RunsL.stop [] 300 [.t true,.r (iV y),.t false,.r (iV y),.t false,.r (.bool true),.r (.bool false),.k,.r (.bool true),.r (iV y),.t true] (fun h=>by cases h)
  (Ro (Ai hlt (Ai hiu (Ai (qbb hu) (Ai hy0 (Ai hiu (Ai (qbb hu) (Ai hy1 (Ai hib (Ai (qcy hb) (Ai hiu (Ai (qcy hg) (Ai hib (Ai (qcy hb) (Ai hiu (Ai (qbb hu) (Ai hy2 tI)))))))))))))))))
theorem qf6 {u fr:List Int} {b g:List Bool} {y:Int} {k:Nat} (hu:u[k]?=some y) (hiu:0≤(k:Int)∧(k:Int)<(u.length:Int)) (hlt:decide ((k:Int)<(u.length:Int))=true) (hy0:decide (y<0)=false) (hy1:decide (y>1000000)=false) (hb:b[k]?=some true) (hib:0≤(k:Int)∧(k:Int)<(b.length:Int)) (hg:g[k]?=some false) (hy2:decide (y<1)=false) (hs:iV (IntKind.i64.wrap ((k:Int)+1))=iV (((k+1:Nat):Int))) {e:Exit} {tm2:TmL} {hp2:HpL}
 (r:Rl 3 3 129 1 117 5 ([(1,.pp 3 0),(3,.pv (iV (u.length:Int))),(4,.ls 4 u.length),(6,.pv (iV ((k+1:Nat):Int)))]) (qgl b fr g u) e tm2 hp2):Rl 3 3 129 1 117 5 (qsa k u) (qgl b fr g u) e tm2 hp2:=
 RunsL.next [] 300 [.t true,.r (iV y),.t false,.r (iV y),.t false,.r (.bool true),.r (.bool false),.k,.r (.bool true),.r (iV y),.t false,Re hs]
  (Ro (Ai hlt (Ai hiu (Ai (qbb hu) (Ai hy0 (Ai hiu (Ai (qbb hu) (Ai hy1 (Ai hib (Ai (qcy hb) (Ai hiu (Ai (qcy hg) (Ai hib (Ai (qcy hb) (Ai hiu (Ai (qbb hu) (Ai hy2 (Ai hs tI)))))))))))))))))) r
theorem qsW {u fr:List Int} {b g:List Bool} {k:Nat} (hge:decide ((k:Int)<(u.length:Int))=false):Rl 3 3 129 1 117 5 (qsa k u) (qgl b fr g u) (.exit 2) ([]) ([]):=
 RunsL.stop [] 300 [.t false] (fun h=>by cases h)
  (Ro (Ai hge tI))
theorem qC5 {u fr:List Int} {b:List Bool} (h1:decide ((u.length:Int)<1)=false) (h2:decide ((u.length:Int)>200)=false) (h3:(!((b.length:Int)==(u.length:Int)))=false) (h4:decide ((fr.length:Int)>(u.length:Int))=false) (n0:0≤(u.length:Int)) (n1:(u.length:Int)≤1000000) (r0:Rl 3 3 129 0 117 5 ([(1,.pp 3 0),(3,.pv (iV (u.length:Int))),(4,.ls 4 u.length),(5,.pv (iV ((0:Nat):Int)))]) ([(3,0,.ls 0 u.length),(3,1,.ls 1 b.length),(3,2,.ls 2 fr.length),(0,0,zrI u),(1,0,zrB b),(2,0,zrI fr),(4,0,.row 4 1 u.length (zbV (List.replicate u.length false)))]) (.ret) ([(2,.pv (iV 8))]) ([])) :
 Fn 129 3 [.ag [.ls 0 u.length,.ls 1 b.length,.ls 2 fr.length]] (qlS b fr u) (.pv (iV (8))) 0 []:=
 Fz [] [.t false,.t false,.t false,.t false,Lf r0]
  tI (Ai h1 (Ai h2 (Ai h3 (Ai h4 (Ai n0 (Ai (Eq.refl (u.length:Int)) (Ai n1 (Ai (Lt r0 []) (Ai (Ai (Er (SV.ls 0 u.length)) (Ai (Er (SV.ls 1 b.length)) (Ai (Er (SV.ls 2 fr.length)) (Ai (Er (zrI u)) (Ai (Er (zrB b)) (Ai (Er (zrI fr)) (Ai (qca u.length) tI))))))) (Ai r0 tI))))))))))
abbrev qEN (b:List Bool) (fr:List Int) (g:List Bool) (u:List Int):Prop:=Rl 3 3 129 0 117 5 ([(1,.pp 3 0),(3,.pv (iV (u.length:Int))),(4,.ls 4 u.length),(5,.pv (iV ((0:Nat):Int)))]) ([(3,0,.ls 0 u.length),(3,1,.ls 1 b.length),(3,2,.ls 2 fr.length),(0,0,zrI u),(1,0,zrB b),(2,0,zrI fr),(4,0,.row 4 1 u.length (zbV (List.replicate u.length false)))]) (.exit 0) ([(1,.pp 3 0),(3,.pv (iV (u.length:Int))),(4,.ls 4 u.length)]) (qgl b fr g u)
theorem qDS {u fr:List Int} {b g:List Bool} (h1:decide ((u.length:Int)<1)=false) (h2:decide ((u.length:Int)>200)=false) (h3:(!((b.length:Int)==(u.length:Int)))=false) (h4:decide ((fr.length:Int)>(u.length:Int))=false) (n0:0≤(u.length:Int)) (n1:(u.length:Int)≤1000000) (r0:qEN b fr g u) (r1:Rl 3 3 129 1 117 5 ([(1,.pp 3 0),(3,.pv (iV (u.length:Int))),(4,.ls 4 u.length),(6,.pv (iV ((0:Nat):Int)))]) (qgl b fr g u) (.ret) ([(2,.pv (iV 8))]) ([])) :
 Fn 129 3 [.ag [.ls 0 u.length,.ls 1 b.length,.ls 2 fr.length]] (qlS b fr u) (.pv (iV (8))) 0 []:=
 Fz [] [.t false,.t false,.t false,.t false,Lf r0,Lf r1]
  tI (Ai h1 (Ai h2 (Ai h3 (Ai h4 (Ai n0 (Ai (Eq.refl (u.length:Int)) (Ai n1 (Ai (Lt r0 []) (Ai (Ai (Er (SV.ls 0 u.length)) (Ai (Er (SV.ls 1 b.length)) (Ai (Er (SV.ls 2 fr.length)) (Ai (Er (zrI u)) (Ai (Er (zrB b)) (Ai (Er (zrI fr)) (Ai (qca u.length) tI))))))) (Ai r0 (Lo r1 [] tI)))))))))))
theorem quP {u fr:List Int} {b g:List Bool} (h1:decide ((u.length:Int)<1)=false) (h2:decide ((u.length:Int)>200)=false) (h3:(!((b.length:Int)==(u.length:Int)))=false) (h4:decide ((fr.length:Int)>(u.length:Int))=false) (n0:0≤(u.length:Int)) (n1:(u.length:Int)≤1000000) (r0:qEN b fr g u) (r1:Rl 3 3 129 1 117 5 ([(1,.pp 3 0),(3,.pv (iV (u.length:Int))),(4,.ls 4 u.length),(6,.pv (iV ((0:Nat):Int)))]) (qgl b fr g u) (.exit 2) ([]) ([])) :
 Fn 129 3 [.ag [.ls 0 u.length,.ls 1 b.length,.ls 2 fr.length]] (qlS b fr u) (.pv (iV (0))) 0 []:=
 Fz [] [.t false,.t false,.t false,.t false,Lf r0,Lf r1]
  tI (Ai h1 (Ai h2 (Ai h3 (Ai h4 (Ai n0 (Ai (Eq.refl (u.length:Int)) (Ai n1 (Ai (Lt r0 []) (Ai (Ai (Er (SV.ls 0 u.length)) (Ai (Er (SV.ls 1 b.length)) (Ai (Er (SV.ls 2 fr.length)) (Ai (Er (zrI u)) (Ai (Er (zrB b)) (Ai (Er (zrI fr)) (Ai (qca u.length) tI))))))) (Ai r0 (Lo r1 [] tI)))))))))))
theorem rtw {u fr:List Int} {b:List Bool} (nu:0+u.length≤1000000) (nb:0+b.length≤1000000) (nf:0+fr.length≤1000000) :
 Fn 101 3 [.ag [.ls 0 u.length,.ls 1 b.length,.ls 2 fr.length]] (qlS b fr u) (.ag [.ls 3 u.length,.ls 4 b.length,.ls 5 fr.length]) 3 [(3,0,zrI u),(4,0,zrB b),(5,0,zrI fr)]:=
 Fx [(3,6),(4,8),(5,10)] [.md]
  (qC9 u.length b.length fr.length) (Ai (qee 3 u.length (ziV u)) (Ai (qee 4 b.length (zbV b)) (Ai (qee 3 fr.length (ziV fr)) tI))) (Ai nu (Ai nb (Ai nf tI)))
abbrev qBi (g:List Int) (n:Nat):HpL:=[(0,0,.pv (.slice none 0 0)),(0,1,.pv (.slice none 0 0)),(0,2,.pv (.slice none 0 0)),(3,0,.ls 1 n),(3,1,.ls 2 n),(3,2,.ls 4 g.length),(1,0,.row 3 1 n (ziV (List.replicate n 0))),(2,0,.row 4 1 n (zbV (List.replicate n false))),(4,0,zrI g)]
theorem qsC {g:List Int} {n:Nat} {x y:Int} (hge:decide (x≥0)=true) (hn:g.length+1≤1000000) (hs:iV (IntKind.i64.wrap (x-1))=iV (y)) {e:Exit} {tm2:TmL} {hp2:HpL}
 (r:Rl 0 0 55 0 23 5 ([(2,.pp 0 0),(3,.pp 3 0),(4,.pv (iV (y)))]) ([(0,0,.pv (.slice none 0 0)),(0,1,.pv (.slice none 0 0)),(0,2,.pv (.slice none 0 0)),(3,0,.ls 1 n),(3,1,.ls 2 n),(3,2,.ls 4 (g++[x]).length),(1,0,.row 3 1 n (ziV (List.replicate n 0))),(2,0,.row 4 1 n (zbV (List.replicate n false))),(4,0,zrI (g++[x]))]) e tm2 hp2):Rl 0 0 55 0 23 5 ([(2,.pp 0 0),(3,.pp 3 0),(4,.pv (iV (x)))]) (qBi g n) e tm2 hp2:=
 RunsL.next [(4,6)] 300 [.t true,Re hs]
  (Rh (Ai (Er (SV.pv (.slice none 0 0))) (Ai (Er (SV.pv (.slice none 0 0))) (Ai (Er (SV.pv (.slice none 0 0))) (Ai (Er (SV.ls 1 n)) (Ai (Er (SV.ls 2 n)) (Ai (qyG g x) (Ai (Er (SV.row 3 1 n (ziV (List.replicate n 0)))) (Ai (Er (SV.row 4 1 n (zbV (List.replicate n false)))) (Ai (qt3 g x) tI))))))))) (Ai hge (Ai hn (Ai hs tI)))) r
theorem qA3 {g:List Int} {n:Nat} {x:Int} (hge:decide (x≥0)=false):Rl 0 0 55 0 23 5 ([(2,.pp 0 0),(3,.pp 3 0),(4,.pv (iV (x)))]) (qBi g n) (.exit 0) ([(2,.pp 0 0),(3,.pp 3 0)]) (qBi g n):=
 RunsL.stop [] 300 [.t false] (fun h=>by cases h)
  (Ro (Ai hge tI))
theorem qxR {g:List Int} {n:Nat} (n0:0≤(n:Int)) (n1:(n:Int)≤1000000) (h1:iV (IntKind.i64.wrap ((n:Int)-1))=iV ((n:Int)-1)) (r0:Rl 0 0 55 0 23 5 ([(2,.pp 0 0),(3,.pp 3 0),(4,.pv (iV ((n:Int)-1)))]) ([(0,0,.pv (.slice none 0 0)),(0,1,.pv (.slice none 0 0)),(0,2,.pv (.slice none 0 0)),(3,0,.ls 1 n),(3,1,.ls 2 n),(3,2,.ls 4 ([]:List Int).length),(1,0,.row 3 1 n (ziV (List.replicate n 0))),(2,0,.row 4 1 n (zbV (List.replicate n false))),(4,0,zrI ([]:List Int))]) (.exit 0) ([(2,.pp 0 0),(3,.pp 3 0)]) (qBi g n)) (hl:g.length=n) :
 Fn 55 0 [.pv (iV (n:Int))] [] (.ag [.ls 0 n,.ls 1 n,.ls 2 g.length]) 3 [(0,0,.row 3 1 n (ziV (List.replicate n 0))),(1,0,.row 4 1 n (zbV (List.replicate n false))),(2,0,zrI g)]:=
 Fz [(0,1),(1,2),(2,4)] [.md,Re h1,.ln false 3 2 3 1,Lf r0]
  (qaG (qaK [(0,1),(1,2),(2,4)]) [(0,0,.row 3 1 n (ziV (List.replicate n 0))),(1,0,.row 4 1 n (zbV (List.replicate n false))),(2,0,zrI g)]) (Ai n0 (Ai (Eq.refl (n:Int)) (Ai n1 (Ai n0 (Ai (Eq.refl (n:Int)) (Ai n1 (Ai h1 (Ai (Lt r0 []) (Ai (Ai (Er (SV.pv (.slice none 0 0))) (Ai (Er (SV.pv (.slice none 0 0))) (Ai (Er (SV.pv (.slice none 0 0))) (Ai (Er (SV.ls 1 n)) (Ai (Er (SV.ls 2 n)) (Ai (Er (SV.ls 4 0)) (Ai (qe5 n) (Ai (qca n) (Ai (Er (SV.row 3 1 0 [])) tI))))))))) (Ai r0 tI))))))))))
theorem qu8 {u fr:List Int} {b:List Bool} {hi hw:Int} (h0:decide (hi≥0)=false) :
 Fn 132 3 [.ag [.ls 0 u.length,.ls 1 b.length,.ls 2 fr.length],.pv (.agg #[iV hi,iV hw])] (qlS b fr u) (.pv (.bool false)) 0 []:=
 Fz [] [.t false]
  tI (Ai h0 tI)
theorem qwg {u fr:List Int} {b:List Bool} {hi hw:Int} (h0:decide (hi≥0)=true) (h1:decide (hi<(u.length:Int))=false) :
 Fn 132 3 [.ag [.ls 0 u.length,.ls 1 b.length,.ls 2 fr.length],.pv (.agg #[iV hi,iV hw])] (qlS b fr u) (.pv (.bool false)) 0 []:=
 Fz [] [.t true,.t false]
  tI (Ai h0 (Ai h1 tI))
theorem qpT {u fr:List Int} {b:List Bool} {hi hw:Int} (h0:decide (hi≥0)=true) (h1:decide (hi<(u.length:Int))=true) (hib:0≤hi∧hi<(b.length:Int)) (hb:b[hi.toNat]?=some false) :
 Fn 132 3 [.ag [.ls 0 u.length,.ls 1 b.length,.ls 2 fr.length],.pv (.agg #[iV hi,iV hw])] (qlS b fr u) (.pv (.bool false)) 0 []:=
 Fz [] [.t true,.t true,.r (.bool false)]
  tI (Ai h0 (Ai h1 (Ai hib (Ai (qfy hb) tI))))
theorem qqr {u fr:List Int} {b:List Bool} {y hi hw:Int} (h0:decide (hi≥0)=true) (h1:decide (hi<(u.length:Int))=true) (hib:0≤hi∧hi<(b.length:Int)) (hb:b[hi.toNat]?=some true) (hiu:0≤hi∧hi<(u.length:Int)) (hue:u[hi.toNat]?=some y) (he:(y==hw)=true) :
 Fn 132 3 [.ag [.ls 0 u.length,.ls 1 b.length,.ls 2 fr.length],.pv (.agg #[iV hi,iV hw])] (qlS b fr u) (.pv (.bool true)) 0 []:=
 Fz [] [.t true,.t true,.r (.bool true),.r (iV y),.t true]
  tI (Ai h0 (Ai h1 (Ai hib (Ai (qfy hb) (Ai hiu (Ai (qeU hue) (Ai he tI)))))))
theorem qox {u fr:List Int} {b:List Bool} {y hi hw:Int} (h0:decide (hi≥0)=true) (h1:decide (hi<(u.length:Int))=true) (hib:0≤hi∧hi<(b.length:Int)) (hb:b[hi.toNat]?=some true) (hiu:0≤hi∧hi<(u.length:Int)) (hue:u[hi.toNat]?=some y) (he:(y==hw)=false) :
 Fn 132 3 [.ag [.ls 0 u.length,.ls 1 b.length,.ls 2 fr.length],.pv (.agg #[iV hi,iV hw])] (qlS b fr u) (.pv (.bool false)) 0 []:=
 Fz [] [.t true,.t true,.r (.bool true),.r (iV y),.t false]
  tI (Ai h0 (Ai h1 (Ai hib (Ai (qfy hb) (Ai hiu (Ai (qeU hue) (Ai he tI)))))))
theorem qsE {l m:List Int} {k:Nat} {x y:Int} (hx:l[k]?=some x) (hy:m[k]?=some y) (hil:0≤(k:Int)∧(k:Int)<(l.length:Int)) (him:0≤(k:Int)∧(k:Int)<(m.length:Int)) (hlt:decide ((k:Int)<(l.length:Int))=true) (hq:(!(x==y))=false) (hs:iV (IntKind.i64.wrap ((k:Int)+1))=iV (((k+1:Nat):Int))) {e:Exit} {tm2:TmL} {hp2:HpL}
 (r:Rl 2 2 120 0 26 2 ([(0,.ls 0 l.length),(1,.ls 1 m.length),(5,.pv (iV ((k+1:Nat):Int)))]) ([(0,0,zrI l),(1,0,zrI m)]) e tm2 hp2):Rl 2 2 120 0 26 2 ([(0,.ls 0 l.length),(1,.ls 1 m.length),(5,.pv (iV (k:Int)))]) ([(0,0,zrI l),(1,0,zrI m)]) e tm2 hp2:=
 RunsL.next [] 300 [.t true,.r (iV x),.r (iV y),.t false,Re hs]
  (Ro (Ai hlt (Ai hil (Ai (qbb hx) (Ai him (Ai (qbb hy) (Ai hq (Ai hs tI)))))))) r
theorem qyl {l m:List Int} {k:Nat} (hge:decide ((k:Int)<(l.length:Int))=false):Rl 2 2 120 0 26 2 ([(0,.ls 0 l.length),(1,.ls 1 m.length),(5,.pv (iV (k:Int)))]) ([(0,0,zrI l),(1,0,zrI m)]) (.exit 0) ([]) ([]):=
 RunsL.stop [] 300 [.t false] (fun h=>by cases h)
  (Ro (Ai hge tI))
theorem qt0 {l m:List Int} (hl:(!((l.length:Int)==(m.length:Int)))=false) (r0:Rl 2 2 120 0 26 2 ([(0,.ls 0 l.length),(1,.ls 1 m.length),(5,.pv (iV ((0:Nat):Int)))]) ([(0,0,zrI l),(1,0,zrI m)]) (.exit 0) ([]) ([])) :
 Fn 120 2 [.ls 0 l.length,.ls 1 m.length] [(0,0,zrI l),(1,0,zrI m)] (.pv (.bool true)) 0 []:=
 Fz [] [.t false,Lf r0]
  tI (Ai hl (Lo r0 [] tI))
theorem qg8 {l m:List Bool} {k:Nat} (hx:l[k]?=some true) (hy:m[k]?=some true) (hil:0≤(k:Int)∧(k:Int)<(l.length:Int)) (him:0≤(k:Int)∧(k:Int)<(m.length:Int)) (hlt:decide ((k:Int)<(l.length:Int))=true) (hs:iV (IntKind.i64.wrap ((k:Int)+1))=iV (((k+1:Nat):Int))) {e:Exit} {tm2:TmL} {hp2:HpL}
 (r:Rl 2 2 175 0 26 2 ([(0,.ls 0 l.length),(1,.ls 1 m.length),(5,.pv (iV ((k+1:Nat):Int)))]) ([(0,0,zrB l),(1,0,zrB m)]) e tm2 hp2):Rl 2 2 175 0 26 2 ([(0,.ls 0 l.length),(1,.ls 1 m.length),(5,.pv (iV (k:Int)))]) ([(0,0,zrB l),(1,0,zrB m)]) e tm2 hp2:=
 RunsL.next [] 300 [.t true,.r (.bool true),.r (.bool true),.k,Re hs]
  (Ro (Ai hlt (Ai hil (Ai (qcy hx) (Ai him (Ai (qcy hy) (Ai hs tI))))))) r
theorem qgH {l m:List Bool} {k:Nat} (hx:l[k]?=some false) (hy:m[k]?=some false) (hil:0≤(k:Int)∧(k:Int)<(l.length:Int)) (him:0≤(k:Int)∧(k:Int)<(m.length:Int)) (hlt:decide ((k:Int)<(l.length:Int))=true) (hs:iV (IntKind.i64.wrap ((k:Int)+1))=iV (((k+1:Nat):Int))) {e:Exit} {tm2:TmL} {hp2:HpL}
 (r:Rl 2 2 175 0 26 2 ([(0,.ls 0 l.length),(1,.ls 1 m.length),(5,.pv (iV ((k+1:Nat):Int)))]) ([(0,0,zrB l),(1,0,zrB m)]) e tm2 hp2):Rl 2 2 175 0 26 2 ([(0,.ls 0 l.length),(1,.ls 1 m.length),(5,.pv (iV (k:Int)))]) ([(0,0,zrB l),(1,0,zrB m)]) e tm2 hp2:=
 RunsL.next [] 300 [.t true,.r (.bool false),.r (.bool false),.k,Re hs]
  (Ro (Ai hlt (Ai hil (Ai (qcy hx) (Ai him (Ai (qcy hy) (Ai hs tI))))))) r
theorem qz8 {l m:List Bool} {k:Nat} (hge:decide ((k:Int)<(l.length:Int))=false):Rl 2 2 175 0 26 2 ([(0,.ls 0 l.length),(1,.ls 1 m.length),(5,.pv (iV (k:Int)))]) ([(0,0,zrB l),(1,0,zrB m)]) (.exit 0) ([]) ([]):=
 RunsL.stop [] 300 [.t false] (fun h=>by cases h)
  (Ro (Ai hge tI))
theorem qvH {l m:List Bool} (hl:(!((l.length:Int)==(m.length:Int)))=false) (r0:Rl 2 2 175 0 26 2 ([(0,.ls 0 l.length),(1,.ls 1 m.length),(5,.pv (iV ((0:Nat):Int)))]) ([(0,0,zrB l),(1,0,zrB m)]) (.exit 0) ([]) ([])) :
 Fn 175 2 [.ls 0 l.length,.ls 1 m.length] [(0,0,zrB l),(1,0,zrB m)] (.pv (.bool true)) 0 []:=
 Fz [] [.t false,Lf r0]
  tI (Ai hl (Lo r0 [] tI))
theorem qDq {u fr u2 f2:List Int} {b b2:List Bool} (hu:Fn 120 2 [.ls 0 u.length,.ls 1 u2.length] [(0,0,zrI u),(1,0,zrI u2)] (.pv (.bool true)) 0 []) (hb:Fn 175 2 [.ls 0 b.length,.ls 1 b2.length] [(0,0,zrB b),(1,0,zrB b2)] (.pv (.bool true)) 0 []) (hf:Fn 120 2 [.ls 0 fr.length,.ls 1 f2.length] [(0,0,zrI fr),(1,0,zrI f2)] (.pv (.bool true)) 0 []) :
 Fn 119 6 [.ag [.ls 0 u.length,.ls 1 b.length,.ls 2 fr.length],.ag [.ls 3 u2.length,.ls 4 b2.length,.ls 5 f2.length]] [(0,0,zrI u),(1,0,zrB b),(2,0,zrI fr),(3,0,zrI u2),(4,0,zrB b2),(5,0,zrI f2)] (.pv (.bool true)) 0 []:=
 Fz [] [Cf hu [0,3],Cf hb [1,4],Cf hf [2,5]]
  tI (Co hu [0,3] 8 (Co hb [1,4] 8 (Co hf [2,5] 8 tI)))
end Go.Proofs.YtkjaanhddkkodaaGreat
