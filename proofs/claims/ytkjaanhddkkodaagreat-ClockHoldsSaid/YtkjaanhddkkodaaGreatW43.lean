/-
  Joined: Lq, Lr, Lu, Lw, Lx, Ba. Conditions: none.
-/
import Derived.Test.YtkjaanhddkkodaaGreatW41
import Derived.Test.YtkjaanhddkkodaaGreatW42
import Derived.Test.YtkjaanhddkkodaaGreatW18
import Derived.Test.YtkjaanhddkkodaaGreatW40
namespace Go.Proofs.YtkjaanhddkkodaaGreat
set_option maxRecDepth 100000
open Go.RowKit
abbrev alC (c:Ck) (s:List Pt) (o:Ck):Ck:={ o with tn:=c.tn,td:=c.td,s:=s,x:=c.x,l:=c.l }
structure AlMid (c:Ck) (s:List Pt) (m l:List Pt) (o:Ck):Prop where
 f:DueF (alC c s o) m o.d
 ol:∀ p∈l,∀ q∈c.d,q.id=p.id→∃ y∈o.ev,y.i=q.a∧y.w=q.b∧y.k=p.id
 e:o.ev.length=o.d.length+(l.filter (qaU c)).length
theorem V9.due_iff {c:Ck} (V:V9 c) {p:Pt} (hp:p∈c.l):(∃ q∈c.d,q.id=p.id)↔qaU c p=true:=by
 constructor
 ·rintro⟨q,hq,he⟩
  obtain⟨p',hp',f,y,hd⟩:=V.f.some q hq
  obtain⟨i,hi⟩:=List.getElem?_of_mem hp
  obtain⟨j,hj⟩:=List.getElem?_of_mem hp'
  have:=(qnD V.v.up hi hj (he.symm.trans hd.id)).2
  rw[this]
  exact f
 ·intro f
  obtain⟨q,hq,y,hy⟩:=V.f.all p hp f
  exact⟨q,hq,hy.id⟩
theorem qgq {c:Ck} {s m:List Pt} {o o2:Ck} (A:VA o.u o.b o.fr o.ev o.wh) (A2:VA o2.u o2.b o2.fr o2.ev o2.wh) (h:DueF (alC c s o) m o.d) (hk:∀ p∈m,∀ y∈o.ev,y.k=p.id→y∈o2.ev):DueF (alC c s o2) m o.d:=
 DueF.map (c:=alC c s o) (fun _ _=>rfl) (fun p hp _ _ ⟨y,hy⟩=>by
  obtain⟨e1,e2⟩:=DueOk.own hy A
  obtain⟨j,_,hj⟩:=hy.at_
  exact⟨y,DueOk.mk' (c:=alC c s o2) A2 (hk p hp y (List.mem_of_getElem? hj) hy.k) e1 e2 hy.id hy.k hy.n hy.d⟩) h
theorem AlStep.mid {c:Ck} {s:List Pt} (P:AlPre c s) {p:Pt} {m l:List Pt} {o o2:Ck} (hp:p∈c.l) (hu:∀ p'∈l,p'.id≠p.id) (hm:∀ p'∈m,p'.id≠p.id) (I:AlInv c (p::l) o) (M:AlMid c s m (p::l) o) (h:AlStep c s p o o2):AlMid c s (m++[p]) l o2:=by
 have F:=P.fail hp
 have D:=P.V.due_iff hp
 have I2:=h.inv P hp hu I
 have Me:=M.e
 cases h with
 | @key j k q y f hq he hf hy e1 e2=>
  obtain⟨k1,k2,k3,_⟩:=F.i.ok f
  obtain⟨A,pm⟩:=VA.rekey ⟨k2,k3⟩ k1 I.a hy
  obtain⟨y1,hy1,g1,g2,g3⟩:=M.ol p List.mem_cons_self q (List.mem_of_getElem? hq) he
  have ey:y1=y:=by
   obtain⟨j1,hj1⟩:=List.getElem?_of_mem hy1
   have o1:=(VA.own I.a hj1).2
   have o2:=(VA.own I.a hy).2
   rw[g1] at o1
   rw[e1,o1] at o2
   have e3:(j1:Int)=(k:Int):=Option.some.inj o2
   have e4:j1=k:=by omega
   subst e4
   rw[hj1] at hy
   exact Option.some.inj hy
  subst ey
  have fp:qaU c p=true:=D.1 ⟨q,List.mem_of_getElem? hq,he⟩
  rw[List.filter_cons_of_pos fp,List.length_cons] at Me
  have le:=pm.length_eq
  rw[List.length_set] at le
  have hk:=qai hy
  have stay:∀ z∈o.ev,z.k≠p.id→z∈(qa0 o.ev o.wh k y1 (qae s c.tn c.td p).1 (qae s c.tn c.td p).2.1).1:=fun z hz hne=>by
   obtain⟨i,hi⟩:=List.getElem?_of_mem hz
   have hne2:k≠i:=fun e=>by
    subst e
    rw[hy] at hi
    have e5:=Option.some.inj hi
    subst e5
    exact hne g3
   refine pm.mem_iff.2 (List.mem_of_getElem? (i:=i) ?_)
   rw[List.getElem?_set,if_neg hne2]
   exact hi
  have new:(⟨(qae s c.tn c.td p).1,(qae s c.tn c.td p).2.1,y1.k,y1.i,y1.w⟩:Ev)∈(qa0 o.ev o.wh k y1 (qae s c.tn c.td p).1 (qae s c.tn c.td p).2.1).1:=
   pm.mem_iff.2 (List.mem_of_getElem? (i:=k) (by rw[List.getElem?_set,if_pos rfl,if_pos hk]))
  refine⟨?_,fun p' hp' q' hq' he'=>?_,by show (qa0 _ _ _ _ _ _).1.length=_;simp only[List.length_append,List.length_cons,List.length_nil];omega⟩
  ·have K:=qgq (c:=c) (s:=s) (o2:={ o with ev:=(qa0 o.ev o.wh k y1 (qae s c.tn c.td p).1 (qae s c.tn c.td p).2.1).1,wh:=(qa0 o.ev o.wh k y1 (qae s c.tn c.td p).1 (qae s c.tn c.td p).2.1).2,d:=o.d++[q] }) I.a A M.f (fun p' hp' z hz hzk=>stay z hz (by rw[hzk];exact hm p' hp'))
   exact (K.snoc).2 f q _ (DueOk.mk' A new e1 e2 he g3 rfl rfl)
  ·obtain⟨y2,hy2,w1,w2,w3⟩:=M.ol p' (List.mem_cons_of_mem _ hp') q' hq' he'
   exact⟨y2,stay y2 hy2 (by rw[w3];exact hu p' hp'),w1,w2,w3⟩
 | @push u2 f2 b2 hi hw f hn ht=>
  obtain⟨k1,k2,k3,_⟩:=F.i.ok f
  have hz:cnE o.ev p.id=0:=by
   have h1:=P.V.v.lo p hp
   have h2:=P.V.v.hi p hp
   have h3:=P.V.v.nx
   unfold cnE
   rw[if_pos (by omega),if_neg]
   rintro⟨m,hm,e⟩
   exact I.nw m hm p List.mem_cons_self hn e
  obtain⟨A,pm,_,_⟩:=VA.push ⟨k2,k3⟩ k1 I.a hz ht
  have fp:¬ qaU c p=true:=fun h=>by
   obtain⟨q,hq,he⟩:=D.2 h
   exact hn q hq he
  rw[List.filter_cons_of_neg fp] at Me
  have le:=pm.length_eq
  rw[List.length_append] at le
  simp only[List.length_cons,List.length_nil] at le
  refine⟨?_,fun p' hp' q' hq' he'=>?_,by show (qa7 _ _ _).1.length=_;simp only[List.length_append,List.length_cons,List.length_nil];omega⟩
  ·have K:=qgq (c:=c) (s:=s) (o2:={ o with u:=u2,b:=b2,fr:=f2,ev:=(qa7 o.ev o.wh ⟨(qae s c.tn c.td p).1,(qae s c.tn c.td p).2.1,p.id,hi,hw⟩).1,wh:=(qa7 o.ev o.wh ⟨(qae s c.tn c.td p).1,(qae s c.tn c.td p).2.1,p.id,hi,hw⟩).2,d:=o.d++[⟨p.id,hi,hw⟩] }) I.a A M.f (fun p' hp' z hz hzk=>pm.mem_iff.2 (List.mem_append_left _ hz))
   exact (K.snoc).2 f _ _ (DueOk.mk' A (pm.mem_iff.2 (List.mem_append_right _ (List.mem_singleton.2 rfl))) rfl rfl rfl rfl rfl rfl)
  ·obtain⟨y2,hy2,w⟩:=M.ol p' (List.mem_cons_of_mem _ hp') q' hq' he'
   exact⟨y2,pm.mem_iff.2 (List.mem_append_left _ hy2),w⟩
 | @gone j k q y f hq he hf hy e1 e2=>
  obtain⟨A,pm,_⟩:=VA.without I.a hy
  obtain⟨y1,hy1,g1,g2,g3⟩:=M.ol p List.mem_cons_self q (List.mem_of_getElem? hq) he
  have ey:y1=y:=by
   obtain⟨j1,hj1⟩:=List.getElem?_of_mem hy1
   have o1:=(VA.own I.a hj1).2
   have o2:=(VA.own I.a hy).2
   rw[g1] at o1
   rw[e1,o1] at o2
   have e3:(j1:Int)=(k:Int):=Option.some.inj o2
   have e4:j1=k:=by omega
   subst e4
   rw[hj1] at hy
   exact Option.some.inj hy
  subst ey
  have fp:qaU c p=true:=D.1 ⟨q,List.mem_of_getElem? hq,he⟩
  rw[List.filter_cons_of_pos fp,List.length_cons] at Me
  have le:=pm.length_eq
  rw[List.length_append] at le
  simp only[List.length_cons,List.length_nil] at le
  have stay:∀ z∈o.ev,z.k≠p.id→z∈(qam o.ev o.wh k y1).1:=fun z hz hne=>by
   rcases List.mem_append.1 (pm.mem_iff.2 hz) with h | h
   ·exact h
   ·exfalso
    rw[List.mem_singleton.1 h] at hne
    exact hne g3
  refine⟨?_,fun p' hp' q' hq' he'=>?_,by show (qam _ _ _ _).1.length=_;show _=o.d.length+_;omega⟩
  ·have K:=qgq (c:=c) (s:=s) (o2:={ o with b:=o.b.set y1.i.toNat false,fr:=o.fr++[y1.i],ev:=(qam o.ev o.wh k y1).1,wh:=(qam o.ev o.wh k y1).2 }) I.a A M.f (fun p' hp' z hz hzk=>stay z hz (by rw[hzk];exact hm p' hp'))
   exact (K.snoc).1 f
  ·obtain⟨y2,hy2,w1,w2,w3⟩:=M.ol p' (List.mem_cons_of_mem _ hp') q' hq' he'
   exact⟨y2,stay y2 hy2 (by rw[w3];exact hu p' hp'),w1,w2,w3⟩
 | skip f hn=>
  have fp:¬ qaU c p=true:=fun h=>by
   obtain⟨q,hq,he⟩:=D.2 h
   exact hn q hq he
  rw[List.filter_cons_of_neg fp] at Me
  exact⟨(M.f.snoc).1 f,fun p' hp'=>M.ol p' (List.mem_cons_of_mem _ hp'),Me⟩
theorem AlRun.ok {c:Ck} {s:List Pt} (P:AlPre c s) {l:List Pt} {o:Ck} {r:Option Ck} (h:AlRun c s l o r):∀ {m:List Pt},m++l=c.l→AlInv c l o→AlMid c s m l o→∀ o',r=some o'→AlInv c [] o'∧AlMid c s c.l [] o':=by
 induction h with
 | nil o=>
  intro m hm I M o' e
  cases e
  rw[List.append_nil] at hm
  rw[← hm]
  exact⟨I,M⟩
 | @step p l o o2 r hs _ ih=>
  intro m hm I M o' e
  have hp:p∈c.l:=by rw[← hm];simp
  have nd:=P.V.v.up.nodup
  rw[← hm,List.map_append,List.map_cons,List.nodup_append] at nd
  obtain⟨_,nl,nm⟩:=nd
  rw[List.nodup_cons] at nl
  have hu:∀ p'∈l,p'.id≠p.id:=fun p' hp' e=>nl.1 (List.mem_map.2 ⟨p',hp',e⟩)
  have hmm:∀ p'∈m,p'.id≠p.id:=fun p' hp' e=>nm p'.id (List.mem_map.2 ⟨p',hp',rfl⟩) p.id List.mem_cons_self e
  exact ih (m:=m++[p]) (by rw[List.append_assoc];exact hm) (hs.inv P hp hu I) (hs.mid P hp hu hmm I M) o' e
 | full _=>intro m _ _ _ o' e;cases e
theorem V9.alter_ok {c:Ck} {s:List Pt} (P:AlPre c s) {o:Ck} (h:AlRun c s c.l { c with d:=[] } (some o)):V9 (alC c s o):=by
 have M0:AlMid c s [] c.l { c with d:=[] }:=⟨rfl,fun p hp q hq he=>by
  obtain⟨p',hp',_,y,hd⟩:=P.V.f.some q hq
  obtain⟨e1,e2⟩:=hd.own P.V.a
  obtain⟨j,_,hj⟩:=hd.at_
  exact⟨y,List.mem_of_getElem? hj,e1,e2,hd.k.trans (hd.id.symm.trans he)⟩,by
  have:=congrArg List.length P.V.f.ids
  rw[List.length_map,List.length_map] at this
  have e:=P.V.e
  show c.ev.length=0+_
  omega⟩
 obtain⟨I,M⟩:=h.ok P (m:=[]) rfl (qgz P) M0 o rfl
 have e:=M.e
 exact⟨P.V.t,P.sv,P.V.v,P.kn,I.a,I.w,by simpa using e,M.f⟩
end Go.Proofs.YtkjaanhddkkodaaGreat

namespace Go.Proofs.YtkjaanhddkkodaaGreat
set_option maxRecDepth 100000
open Go.RowKit
def qeu (c:Ck):Bool:=decide (40<c.l.length)||(decide (40<c.d.length)||(decide (¬ (c.s.length≤16∨64≤c.s.length∧c.s.length≤70))||qhv c.u c.b c.fr c.ev c.wh))
theorem qf2 (c:Ck):Fn 26 8 [qao c] (qar c) (.pv (.bool (qeu c))) 0 []:=by
 unfold qeu
 by_cases h1:40<c.l.length
 ·rw[dt h1]
  exact qCD (g1:=dt (by omega))
 ·rw[df h1,Bool.false_or]
  by_cases h2:40<c.d.length
  ·rw[dt h2]
   exact qEz (g1:=df (by omega)) (g2:=dt (by omega))
  ·rw[df h2,Bool.false_or]
   rcases qmm c.s with ⟨h3,hG⟩ | ⟨h3,hG⟩
   ·rw[dt h3]
    exact qE4 (g1:=df (by omega)) (g2:=df (by omega)) (hf:=hG)
   ·rw[df fun h=>h h3,Bool.false_or]
    have hA:=qkN (u:=c.u) (b:=c.b) (fr:=c.fr) (ev:=c.ev) (wh:=c.wh)
    cases e:qhv c.u c.b c.fr c.ev c.wh
    ·rw[e] at hA
     exact qAH (g1:=df (by omega)) (g2:=df (by omega)) (hf:=hG) (hg:=hA)
    ·rw[e] at hA
     exact qDd (g1:=df (by omega)) (g2:=df (by omega)) (hf:=hG) (hg:=hA)
theorem qhB {c:Ck} (h:qeu c=false) (h1:I64 c.tn) (h2:I64 c.td) (hi:∀ y∈c.ev,EvI y):S9 c∧c.l.length≤40∧c.d.length≤40∧c.s.length≤70:=by
 unfold qeu at h
 rw[Bool.or_eq_false_iff,Bool.or_eq_false_iff,Bool.or_eq_false_iff] at h
 obtain⟨a1,a2,a3,a4⟩:=h
 have b1:=of_decide_eq_false a1
 have b2:=of_decide_eq_false a2
 have b3:c.s.length≤16∨64≤c.s.length∧c.s.length≤70:=Classical.byContradiction fun h=>by
  rw[dt h] at a3
  cases a3
 unfold qhv at a4
 rw[Bool.or_eq_false_iff,Bool.or_eq_false_iff] at a4
 obtain⟨g1,g2,g3⟩:=a4
 have g2:=of_decide_eq_false g2
 have g3:=of_decide_eq_false g3
 obtain⟨k1,k2,k3⟩:=qkO g1
 exact⟨⟨h1,h2,by omega,by omega,⟨k1,k2,k3,by omega,by omega,hi⟩⟩,by omega,by omega,by omega⟩
end Go.Proofs.YtkjaanhddkkodaaGreat

namespace Go.Proofs.YtkjaanhddkkodaaGreat
set_option maxRecDepth 100000
open Go.RowKit
abbrev qxW (f:FuncId) (s:List Pt) (tn td:Int):Prop:=Fn f 1 [qaJ 0 s,.pv (qaa tn td)] [(0,0,qal s)] (.tu [.ag [.pv (iV tn),.pv (iV td),.ls 1 s.length,.pv (iV 0),.ls 7 0,.ls 2 (qdZ s tn td).u.length,.ls 3 (qdZ s tn td).b.length,.ls 4 (qdZ s tn td).fr.length,.ls 6 0,.ls 5 (qdZ s tn td).wh.length,.ls 8 0],.one (.pv (iV 0))]) 8 [(8,0,qaV []),(7,0,qak []),(1,0,qal s),(2,0,zrI (qdZ s tn td).u),(3,0,zrB (qdZ s tn td).b),(4,0,zrI (qdZ s tn td).fr),(5,0,zrI (qdZ s tn td).wh),(6,0,qat [])]
structure Prog9:Prop where
 new:∀ {s:List Pt} {tn td:Int},I64 tn→I64 td→(tE s tn td≠0→qzf 10 s tn td (tE s tn td))∧(tE s tn td=0→qxW 10 s tn td)
 check:∀ {c:Ck},S9 c→c.s.length≤70→Fn 22 8 [qao c] (qar c) (.pv (iV (qot c))) 0 []
 certify:∀ {c:Ck},S9 c→c.s.length≤70→∀ a b,(cyE c a b≠0→qAn 16 c a b (cyE c a b))∧(cyE c a b=0→∀ o,qh4 c a b o→qFI 16 c a b o)
 retire:∀ {c:Ck},S9 c→c.s.length≤70→∀ n,(reE c n≠0→qx5 17 c n (reE c n))∧(reE c n=0→∀ o,qfV c n o→qFu 17 c n o)
 next:∀ {c:Ck},S9 c→c.s.length≤70→(¬ V9 c→Fn 18 8 [qao c] (qar c) (.pv (.tuple #[evZ,iV 8])) 0 [])∧(V9 c→c.ev=[]→Fn 18 8 [qao c] (qar c) (.pv (.tuple #[evZ,iV 42])) 0 [])∧(V9 c→∀ y,c.ev[0]?=some y→Fn 18 8 [qao c] (qar c) (.pv (.tuple #[qac y,iV 0])) 0 [])
 fail:∀ {c:Ck},S9 c→c.s.length≤70→∀ {tn td:Int},I64 tn→I64 td→(faE c tn td≠0→qBz 19 c tn td (faE c tn td))∧(faE c tn td=0→∀ y p o,qeS c y p o→qFr 19 c tn td y p o)
 move:∀ {c:Ck},S9 c→c.s.length≤70→∀ {tn td:Int},I64 tn→I64 td→(moE c tn td≠0→qza 20 c tn td (moE c tn td))∧(moE c tn td=0→qFH 20 c tn td)
 alter:∀ {c:Ck},S9 c→c.s.length≤70→∀ s:List Pt,s.length≤70→(qii c s≠0→qo7 21 c s (qii c s))∧(qii c s=0→∀ r,AlRun c s c.l { c with d:=[] } r→(∀ o,r=some o→qFm 21 c s o)∧(r=none→qo7 21 c s 18))
theorem qCt {c:Ck} {a b:Int} (h:cyE c a b=0):V9 c∧qb7 a b=true∧(∃ q∈c.s,q.id=a)∧(∃ q∈c.s,q.id=b)∧adE c a b=0:=by
 unfold cyE at h
 split at h
 ·rename_i h1
  split at h
  ·rename_i h2
   exact⟨h1.1,h1.2,h2.1,h2.2,h⟩
  ·cases h
 ·cases h
theorem qwq {c o:Ck} {a b:Int} (h:qh4 c a b o):o.tn=c.tn∧o.td=c.td∧o.s=c.s:=by
 rcases h with ⟨_,rfl⟩ | ⟨_,_,_,_,_,_,_,rfl⟩<;>exact⟨rfl,rfl,rfl⟩
end Go.Proofs.YtkjaanhddkkodaaGreat

namespace Go.Proofs.YtkjaanhddkkodaaGreat
set_option maxRecDepth 100000
open Go.RowKit
theorem qAS {c:Ck} (hg:Fn 26 8 [qao c] (qar c) (.pv (.bool true)) 0 []) :
 Fn 37 8 [qao c] (qar c) (.pv (.bool false)) 0 []:=
 Fz [] [Cf hg [0,1,2,3,4,5,6,7],.k]
  tI (Co hg [0,1,2,3,4,5,6,7] 9 tI)
theorem qBd {c:Ck} {e:Int} (hg:Fn 26 8 [qao c] (qar c) (.pv (.bool false)) 0 []) (hc:Fn 31 8 [qao c] (qar c) (.pv (iV (e))) 0 []) (he:(e==0)=true) :
 Fn 37 8 [qao c] (qar c) (.pv (.bool true)) 0 []:=
 Fz [] [Cf hg [0,1,2,3,4,5,6,7],.k,Cf hc [0,1,2,3,4,5,6,7],.t true]
  tI (Co hg [0,1,2,3,4,5,6,7] 9 (Co hc [0,1,2,3,4,5,6,7] 9 (Ai he tI)))
theorem qsJ {c:Ck} {e:Int} (hg:Fn 26 8 [qao c] (qar c) (.pv (.bool false)) 0 []) (hc:Fn 31 8 [qao c] (qar c) (.pv (iV (e))) 0 []) (he:(e==0)=false) :
 Fn 37 8 [qao c] (qar c) (.pv (.bool false)) 0 []:=
 Fz [] [Cf hg [0,1,2,3,4,5,6,7],.k,Cf hc [0,1,2,3,4,5,6,7],.t false]
  tI (Co hg [0,1,2,3,4,5,6,7] 9 (Co hc [0,1,2,3,4,5,6,7] 9 (Ai he tI)))
end Go.Proofs.YtkjaanhddkkodaaGreat

namespace Go.Proofs.YtkjaanhddkkodaaGreat
set_option maxRecDepth 100000
open Go.RowKit
theorem qqs {c:Ck} (S:S9 c) (V:V9 c) (h:qeu c=false):Fn 37 8 [qao c] (qar c) (.pv (.bool true)) 0 []:=by
 have hg:=qf2 c
 have hc:=qdK S
 rw[h] at hg
 rw[qbQ V] at hc
 exact qBd (hg:=hg) (hc:=hc) (he:=by decide)
theorem qu6 {c:Ck} (h1:I64 c.tn) (h2:I64 c.td) (hi:∀ y∈c.ev,EvI y) (h:¬ (qeu c=false∧V9 c)):Fn 37 8 [qao c] (qar c) (.pv (.bool false)) 0 []:=by
 have hg:=qf2 c
 cases e:qeu c
 ·rw[e] at hg
  have hc:=qdK (qhB e h1 h2 hi).1
  rw[qbz fun V=>h ⟨e,V⟩] at hc
  exact qsJ (hg:=hg) (hc:=hc) (he:=by decide)
 ·rw[e] at hg
  exact qAS (hg:=hg)
theorem qxv (a b:Int):(a-b).sign≤0↔a≤b:=by
 rcases Int.lt_trichotomy (a-b) 0 with h | h | h
 ·rw[Int.sign_eq_neg_one_of_neg h];omega
 ·rw[h];simp;omega
 ·rw[Int.sign_eq_one_of_pos h];omega
theorem qqN {a b c d e f:Int} (hb:0<b) (hd:0<d) (hf:0<f) (h1:a*d<c*b) (h2:c*f≤e*d):a*f<e*b:=by
 have e1:=Int.mul_lt_mul_of_pos_right h1 hf
 have e2:=Int.mul_le_mul_of_nonneg_right h2 (Int.le_of_lt hb)
 have e3:a*d*f=a*f*d:=Int.mul_right_comm a d f
 have e4:c*b*f=c*f*b:=Int.mul_right_comm c b f
 have e5:e*d*b=e*b*d:=Int.mul_right_comm e d b
 exact Int.lt_of_mul_lt_mul_right (a:=d) (by omega) (Int.le_of_lt hd)
end Go.Proofs.YtkjaanhddkkodaaGreat

namespace Go.Proofs.YtkjaanhddkkodaaGreat
set_option maxRecDepth 100000
open Go.RowKit
theorem qBr {a pa pb n:Int} (n1:(!(a==a))=false) (n2:(!(n==n))=false) (h1:decide (a<n)=true) :
 Pure Tryz.prog 193 #[qab a pa pb,iV n] (iV (-1)):=
 qad (args:=[qab a pa pb,iV n]) 300 [.k,.k,.t false,.k,.t false,.t true]
  (Ai rfl (Ai n1 (Ai n2 (Ai h1 tI)))) (by kernel_rfl)
theorem qxa {a pa pb n:Int} (n1:(!(a==a))=false) (n2:(!(n==n))=false) (h1:decide (a<n)=false) (h2:decide (a>n)=true) :
 Pure Tryz.prog 193 #[qab a pa pb,iV n] (iV (1)):=
 qad (args:=[qab a pa pb,iV n]) 300 [.k,.k,.t false,.k,.t false,.t false,.t true]
  (Ai rfl (Ai n1 (Ai n2 (Ai h1 (Ai h2 tI))))) (by kernel_rfl)
theorem qzO {a pa pb n:Int} (n1:(!(a==a))=false) (n2:(!(n==n))=false) (h1:decide (a<n)=false) (h2:decide (a>n)=false) :
 Pure Tryz.prog 193 #[qab a pa pb,iV n] (iV (0)):=
 qad (args:=[qab a pa pb,iV n]) 300 [.k,.k,.t false,.k,.t false,.t false,.t false]
  (Ai rfl (Ai n1 (Ai n2 (Ai h1 (Ai h2 tI))))) (by kernel_rfl)
abbrev qBL (i:Nat) (j:Nat) (l:List Pt) (n:Int):TmL:=[(0,.ls 0 l.length),(1,.pv (iV n)),(2,.pv (.func (.func 193) #[] #[])),(8,.pv (iV (l.length:Int))),(9,.pv (iV (i:Int))),(10,.pv (iV (j:Int)))]
abbrev qrg (c:Int) (n:Int) (p:Pt):Prop:=Pure Tryz.prog 193 #[qab p.id p.a p.b,iV n] (iV (c))
theorem qy1 {l:List Pt} {i j h:Nat} {p:Pt} {c n:Int} (hk:l[h]?=some p) (hin:0≤(h:Int)∧(h:Int)<(l.length:Int)) (hlt:decide ((i:Int)<(j:Int))=true) (ha:iV (IntKind.i64.wrap ((i:Int)+(j:Int)))=iV ((i:Int)+(j:Int))) (hu:Value.int .u64 (IntKind.u64.wrap ((i:Int)+(j:Int)))=.int .u64 ((i:Int)+(j:Int))) (h1:¬ (1:Int)<0) (hs:Value.int .u64 (((i:Int)+(j:Int)).fdiv (2 ^ (min (1:Int).toNat IntKind.u64.bits)))=.int .u64 (h:Int)) (hb:iV (IntKind.i64.wrap (h:Int))=iV (h:Int)) (hc:qrg c n p) (hz:decide (c<0)=true) (hh:iV (IntKind.i64.wrap ((h:Int)+1))=iV (((h+1:Nat):Int))) {e:Exit} {tm2:TmL} {hp2:HpL}
 (r:Rl 1 1 192 0 49 1 ([(0,.ls 0 l.length),(1,.pv (iV n)),(2,.pv (.func (.func 193) #[] #[])),(8,.pv (iV (l.length:Int))),(9,.pv (iV ((h+1:Nat):Int))),(10,.pv (iV (j:Int)))]) ([(0,0,qal l)]) e tm2 hp2):Rl 1 1 192 0 49 1 (qBL i j l n) ([(0,0,qal l)]) e tm2 hp2:=
 RunsL.next [] 300 [.t true,Re ha,Re hu,.r (.int .u64 (h:Int)),Re hb,.r (ptV p),Rf hc,.t true,Re hh]
  (Ro (Ai hlt (Ai ha (Ai hu (Ai h1 (Ai hs (Ai hb (Ai hin (Ai (qaI hk) (Ai hc (Ai hz (Ai hh tI)))))))))))) r
theorem qxN {l:List Pt} {i j h:Nat} {p:Pt} {c n:Int} (hk:l[h]?=some p) (hin:0≤(h:Int)∧(h:Int)<(l.length:Int)) (hlt:decide ((i:Int)<(j:Int))=true) (ha:iV (IntKind.i64.wrap ((i:Int)+(j:Int)))=iV ((i:Int)+(j:Int))) (hu:Value.int .u64 (IntKind.u64.wrap ((i:Int)+(j:Int)))=.int .u64 ((i:Int)+(j:Int))) (h1:¬ (1:Int)<0) (hs:Value.int .u64 (((i:Int)+(j:Int)).fdiv (2 ^ (min (1:Int).toNat IntKind.u64.bits)))=.int .u64 (h:Int)) (hb:iV (IntKind.i64.wrap (h:Int))=iV (h:Int)) (hc:qrg c n p) (hz:decide (c<0)=false) {e:Exit} {tm2:TmL} {hp2:HpL}
 (r:Rl 1 1 192 0 49 1 ([(0,.ls 0 l.length),(1,.pv (iV n)),(2,.pv (.func (.func 193) #[] #[])),(8,.pv (iV (l.length:Int))),(9,.pv (iV (i:Int))),(10,.pv (iV (h:Int)))]) ([(0,0,qal l)]) e tm2 hp2):Rl 1 1 192 0 49 1 (qBL i j l n) ([(0,0,qal l)]) e tm2 hp2:=
 RunsL.next [] 300 [.t true,Re ha,Re hu,.r (.int .u64 (h:Int)),Re hb,.r (ptV p),Rf hc,.t false]
  (Ro (Ai hlt (Ai ha (Ai hu (Ai h1 (Ai hs (Ai hb (Ai hin (Ai (qaI hk) (Ai hc (Ai hz tI))))))))))) r
theorem qmW {l:List Pt} {i j:Nat} {n:Int} (hge:decide ((i:Int)<(j:Int))=false):Rl 1 1 192 0 49 1 (qBL i j l n) ([(0,0,qal l)]) (.exit 0) (qBL i j l n) ([(0,0,qal l)]):=
 RunsL.stop [] 300 [.t false] (fun h=>by cases h)
  (Ro (Ai hge tI))
abbrev qEc (k:Nat) (l:List Pt) (n:Int):Prop:=Rl 1 1 192 0 49 1 ([(0,.ls 0 l.length),(1,.pv (iV n)),(2,.pv (.func (.func 193) #[] #[])),(8,.pv (iV (l.length:Int))),(9,.pv (iV ((0:Nat):Int))),(10,.pv (iV (l.length:Int)))]) ([(0,0,qal l)]) (.exit 0) ([(0,.ls 0 l.length),(1,.pv (iV n)),(2,.pv (.func (.func 193) #[] #[])),(8,.pv (iV (l.length:Int))),(9,.pv (iV (k:Int))),(10,.pv (iV (k:Int)))]) ([(0,0,qal l)])
theorem quD {l:List Pt} {k:Nat} {n:Int} (r0:qEc k l n) (hge:decide ((k:Int)<(l.length:Int))=false) :
 Fn 192 1 [.ls 0 l.length,.pv (iV (n)),.pv (.func (.func 193) #[] #[])] [(0,0,qal l)] (.pv (.tuple #[iV (k:Int),.bool false])) 0 []:=
 Fz [] [Lf r0,.t false]
  tI (Lo r0 [] (Ai hge tI))
theorem qwt {l:List Pt} {k:Nat} {p:Pt} {c:Int} {n:Int} (r0:qEc k l n) (hk:l[k]?=some p) (hin:0≤(k:Int)∧(k:Int)<(l.length:Int)) (hlt:decide ((k:Int)<(l.length:Int))=true) (hc:qrg c n p) (hz:(c==0)=true) :
 Fn 192 1 [.ls 0 l.length,.pv (iV (n)),.pv (.func (.func 193) #[] #[])] [(0,0,qal l)] (.pv (.tuple #[iV (k:Int),.bool true])) 0 []:=
 Fz [] [Lf r0,.t true,.r (ptV p),Rf hc,.t true]
  tI (Lo r0 [] (Ai hlt (Ai hin (Ai (qaI hk) (Ai hc (Ai hz tI))))))
theorem qxk {l:List Pt} {k:Nat} {p:Pt} {c:Int} {n:Int} (r0:qEc k l n) (hk:l[k]?=some p) (hin:0≤(k:Int)∧(k:Int)<(l.length:Int)) (hlt:decide ((k:Int)<(l.length:Int))=true) (hc:qrg c n p) (hz:(c==0)=false) :
 Fn 192 1 [.ls 0 l.length,.pv (iV (n)),.pv (.func (.func 193) #[] #[])] [(0,0,qal l)] (.pv (.tuple #[iV (k:Int),.bool false])) 0 []:=
 Fz [] [Lf r0,.t true,.r (ptV p),Rf hc,.t false]
  tI (Lo r0 [] (Ai hlt (Ai hin (Ai (qaI hk) (Ai hc (Ai hz tI))))))
theorem qmc {s:List Pt} {p:Pt} {k:Nat} {n:Int} (hb:Fn 192 1 [.ls 0 s.length,.pv (iV (n)),.pv (.func (.func 193) #[] #[])] [(0,0,qal s)] (.pv (.tuple #[iV (k:Int),.bool true])) 0 []) (hk:s[k]?=some p) (hin:0≤(k:Int)∧(k:Int)<(s.length:Int)) :
 Fn 147 1 [qaJ 0 s,.pv (iV (n))] [(0,0,qal s)] (.pv (.tuple #[ptV p,.bool true])) 0 []:=
 Fz [] [Cf hb [0],.k,.r (ptV p)]
  tI (Co hb [0] 3 (Ai hin (Ai (qaI hk) tI)))
theorem qBk {s:List Pt} {k:Nat} {n:Int} (hb:Fn 192 1 [.ls 0 s.length,.pv (iV (n)),.pv (.func (.func 193) #[] #[])] [(0,0,qal s)] (.pv (.tuple #[iV (k:Int),.bool false])) 0 []) :
 Fn 147 1 [qaJ 0 s,.pv (iV (n))] [(0,0,qal s)] (.pv (.tuple #[ptV (Pt.mk 0 0 0),.bool false])) 0 []:=
 Fz [] [Cf hb [0],.k]
  tI (Co hb [0] 3 tI)
theorem cfl {c:Ck} {p q:Pt} {a b tn td:Int} {w:Bool} (h1:Fn 147 1 [qaJ 0 c.s,.pv (iV (b))] [(0,0,qal c.s)] (.pv (.tuple #[ptV p,.bool true])) 0 []) (h2:Fn 147 1 [qaJ 0 c.s,.pv (iV (a))] [(0,0,qal c.s)] (.pv (.tuple #[ptV q,.bool true])) 0 []) (hl:Pure Tryz.prog 154 #[ptV p,ptV q,qaa c.tn c.td] (.tuple #[qaa tn td,.bool w,iV 0])) :
 Fn 109 8 [qao c,.pv (qag a b)] (qar c) (.pv (.tuple #[qaa tn td,.bool w])) 0 []:=
 Fz [] [Cf h1 [0],Cf h2 [0],Rf hl]
  tI (Co h1 [0] 11 (Co h2 [0] 12 (Ai hl tI)))
theorem qA7 {s:List Pt} {p q:Pt} {a b:Int} (h1:Fn 147 1 [qaJ 0 s,.pv (iV (b))] [(0,0,qal s)] (.pv (.tuple #[ptV p,.bool true])) 0 []) (h2:Fn 147 1 [qaJ 0 s,.pv (iV (a))] [(0,0,qal s)] (.pv (.tuple #[ptV q,.bool true])) 0 []) :
 Fn 102 1 [qaJ 0 s,.pv (qag a b)] [(0,0,qal s)] (.pv (.bool true)) 0 []:=
 Fz [] [Cf h1 [0],Cf h2 [0]]
  tI (Co h1 [0] 3 (Co h2 [0] 4 tI))
theorem qzY {s:List Pt} {p q:Pt} {a b:Int} (h1:Fn 147 1 [qaJ 0 s,.pv (iV (b))] [(0,0,qal s)] (.pv (.tuple #[ptV p,.bool true])) 0 []) (h2:Fn 147 1 [qaJ 0 s,.pv (iV (a))] [(0,0,qal s)] (.pv (.tuple #[ptV q,.bool false])) 0 []) :
 Fn 102 1 [qaJ 0 s,.pv (qag a b)] [(0,0,qal s)] (.pv (.bool false)) 0 []:=
 Fz [] [Cf h1 [0],Cf h2 [0]]
  tI (Co h1 [0] 3 (Co h2 [0] 4 tI))
theorem qEs {s:List Pt} {p q:Pt} {a b:Int} {w:Bool} (h1:Fn 147 1 [qaJ 0 s,.pv (iV (b))] [(0,0,qal s)] (.pv (.tuple #[ptV p,.bool false])) 0 []) (h2:Fn 147 1 [qaJ 0 s,.pv (iV (a))] [(0,0,qal s)] (.pv (.tuple #[ptV q,.bool w])) 0 []) :
 Fn 102 1 [qaJ 0 s,.pv (qag a b)] [(0,0,qal s)] (.pv (.bool false)) 0 []:=
 Fz [] [Cf h1 [0],Cf h2 [0]]
  tI (Co h1 [0] 3 (Co h2 [0] 4 tI))
abbrev qlf (l:List Pt) (s:List Pt):HpL:=[(2,0,.ls 0 s.length),(0,0,qal s),(1,0,qak l)]
abbrev qtj (k:Nat) (l:List Pt):TmL:=[(2,.pp 2 0),(8,.ls 1 l.length),(9,.pv (iV (l.length:Int))),(10,.pv (iV (k:Int)))]
theorem qjZ {s:List Pt} {p:Pt} {k:Nat} {l:List Pt} (hk:l[k]?=some p) (hin:0≤(k:Int)∧(k:Int)<(l.length:Int)) (hlt:decide ((k:Int)<(l.length:Int))=true) (hb:Fn 102 1 [qaJ 0 s,.pv (qag p.a p.b)] [(0,0,qal s)] (.pv (.bool true)) 0 []) (hs:iV (IntKind.i64.wrap ((k:Int)+1))=iV (((k+1:Nat):Int))) {e:Exit} {tm2:TmL} {hp2:HpL}
 (r:Rl 2 2 64 0 20 4 ([(2,.pp 2 0),(8,.ls 1 l.length),(9,.pv (iV (l.length:Int))),(10,.pv (iV ((k+1:Nat):Int)))]) (qlf l s) e tm2 hp2):Rl 2 2 64 0 20 4 (qtj k l) (qlf l s) e tm2 hp2:=
 RunsL.next [] 300 [.t true,.r (ptV p),Cf hb [0],.k,Re hs]
  (Ro (Ai hlt (Ai hin (Ai (qaI hk) (Co hb [0] 5 (Ai hs tI)))))) r
theorem quu {s:List Pt} {p:Pt} {k:Nat} {l:List Pt} (hk:l[k]?=some p) (hin:0≤(k:Int)∧(k:Int)<(l.length:Int)) (hlt:decide ((k:Int)<(l.length:Int))=true) (hb:Fn 102 1 [qaJ 0 s,.pv (qag p.a p.b)] [(0,0,qal s)] (.pv (.bool false)) 0 []):Rl 2 2 64 0 20 4 (qtj k l) (qlf l s) (.ret) ([(4,.pv (iV 6))]) ([]):=
 RunsL.stop [] 300 [.t true,.r (ptV p),Cf hb [0],.k] (fun h=>by cases h)
  (Ro (Ai hlt (Ai hin (Ai (qaI hk) (Co hb [0] 5 tI)))))
theorem quw {s:List Pt} {k:Nat} {l:List Pt} (hge:decide ((k:Int)<(l.length:Int))=false):Rl 2 2 64 0 20 4 (qtj k l) (qlf l s) (.exit 0) ([]) ([]):=
 RunsL.stop [] 300 [.t false] (fun h=>by cases h)
  (Ro (Ai hge tI))
theorem qzh {s:List Pt} {x2:Int} {l:List Pt} (r0:Rl 2 2 64 0 20 4 ([(2,.pp 2 0),(8,.ls 1 l.length),(9,.pv (iV (l.length:Int))),(10,.pv (iV ((0:Nat):Int)))]) (qlf l s) (.ret) ([(4,.pv (iV 6))]) ([])) :
 Fn 64 2 [qaJ 0 s,qaH 1 x2 l] [(0,0,qal s),(1,0,qak l)] (.pv (iV (6))) 0 []:=
 Fz [] [Lf r0]
  tI (Lo r0 [] tI)
theorem qyV {s:List Pt} {x2:Int} {l:List Pt} (r0:Rl 2 2 64 0 20 4 ([(2,.pp 2 0),(8,.ls 1 l.length),(9,.pv (iV (l.length:Int))),(10,.pv (iV ((0:Nat):Int)))]) (qlf l s) (.exit 0) ([]) ([])) :
 Fn 64 2 [qaJ 0 s,qaH 1 x2 l] [(0,0,qal s),(1,0,qak l)] (.pv (iV (0))) 0 []:=
 Fz [] [Lf r0]
  tI (Lo r0 [] tI)
abbrev qCr (c:Ck) (k:Nat) (m:Nat):TmL:=[(1,.pp 8 0),(3,.ls 9 (m)),(10,.ls 1 c.l.length),(11,.pv (iV (c.l.length:Int))),(12,.pv (iV (k:Int)))]
theorem qpi {c:Ck} {p:Pt} {k m:Nat} {tn td:Int} {vs:List Value} (hk:c.l[k]?=some p) (hin:0≤(k:Int)∧(k:Int)<(c.l.length:Int)) (hlt:decide ((k:Int)<(c.l.length:Int))=true) (hf:Fn 109 8 [qao c,.pv (qag p.a p.b)] (qar c) (.pv (.tuple #[qaa tn td,.bool false])) 0 []) (hs:iV (IntKind.i64.wrap ((k:Int)+1))=iV (((k+1:Nat):Int))) {e:Exit} {tm2:TmL} {hp2:HpL}
 (r:Rl 8 8 117 0 33 10 ([(1,.pp 8 0),(3,.ls 9 (m)),(10,.ls 1 c.l.length),(11,.pv (iV (c.l.length:Int))),(12,.pv (iV ((k+1:Nat):Int)))]) ((qcJ 8 c++[(9,0,.row 62 5 (m) (vs))])) e tm2 hp2):Rl 8 8 117 0 33 10 (qCr c k m) ((qcJ 8 c++[(9,0,.row 62 5 (m) (vs))])) e tm2 hp2:=
 RunsL.next [] 300 [.t true,.r (ptV p),Cf hf [0,1,2,3,4,5,6,7],Re hs]
  (Ro (Ai hlt (Ai hin (Ai (qaI hk) (Co hf [0,1,2,3,4,5,6,7] 11 (Ai hs tI)))))) r
theorem qpJ {c:Ck} {p:Pt} {k m:Nat} {tn td:Int} {vs:List Value} (hk:c.l[k]?=some p) (hin:0≤(k:Int)∧(k:Int)<(c.l.length:Int)) (hlt:decide ((k:Int)<(c.l.length:Int))=true) (hf:Fn 109 8 [qao c,.pv (qag p.a p.b)] (qar c) (.pv (.tuple #[qaa tn td,.bool true])) 0 []) (hm:m+1≤1000000) (hs:iV (IntKind.i64.wrap ((k:Int)+1))=iV (((k+1:Nat):Int))) {e:Exit} {tm2:TmL} {hp2:HpL}
 (r:Rl 8 8 117 0 33 10 ([(1,.pp 8 0),(3,.ls 9 (m+1)),(10,.ls 1 c.l.length),(11,.pv (iV (c.l.length:Int))),(12,.pv (iV ((k+1:Nat):Int)))]) ((qcJ 8 c++[(9,0,.row 62 5 (m+1) (vs++[iV tn,iV td,iV p.id,iV 0,iV 0]))])) e tm2 hp2):Rl 8 8 117 0 33 10 (qCr c k m) ((qcJ 8 c++[(9,0,.row 62 5 (m) (vs))])) e tm2 hp2:=
 RunsL.next [(9,13)] 300 [.t true,.r (ptV p),Cf hf [0,1,2,3,4,5,6,7],Re hs]
  (Ro (Ai hlt (Ai hin (Ai (qaI hk) (Co hf [0,1,2,3,4,5,6,7] 11 (Ai hm (Ai hs tI))))))) r
theorem qvr {c:Ck} {k m:Nat} {vs:List Value} (hge:decide ((k:Int)<(c.l.length:Int))=false):Rl 8 8 117 0 33 10 (qCr c k m) ((qcJ 8 c++[(9,0,.row 62 5 (m) (vs))])) (.exit 0) ([(3,.ls 9 m)]) ([(9,0,.row 62 5 m vs)]):=
 RunsL.stop [] 300 [.t false] (fun h=>by cases h)
  (Ro (Ai hge tI))
theorem qo5 {c:Ck} {m:Nat} {vs:List Value} (r0:Rl 8 8 117 0 33 10 ([(1,.pp 8 0),(3,.ls 9 (0)),(10,.ls 1 c.l.length),(11,.pv (iV (c.l.length:Int))),(12,.pv (iV ((0:Nat):Int)))]) ((qcJ 8 c++[(9,0,.row 62 5 (0) ([]))])) (.exit 0) ([(3,.ls 9 m)]) ([(9,0,.row 62 5 m vs)])) :
 Fn 117 8 [qao c] (qar c) (.ls 8 m) 1 [(8,0,.row 62 5 m vs)]:=
 Fz [(8,9)] [.ln true 3 0 62 5,Lf r0]
  (qaC (qaK [(8,9)]) [(8,0,.row 62 5 m vs)]) (Lo r0 [] tI)
abbrev qqF (c:Ck):HpL:=[(0,0,zrI c.u),(1,0,zrB c.b),(2,0,zrI c.fr),(3,0,qat c.ev),(4,0,zrI c.wh)]
theorem qyd {c:Ck} {z9:Ev} (h0:decide (0≤z9.i)=false) :
 Fn 118 5 [agA c.u c.b c.fr c.ev c.wh,.pv (qac z9)] (qqF c) (.pv (.bool false)) 0 []:=
 Fz [] [.t false]
  tI (Ai h0 tI)
theorem qyM {c:Ck} {z9:Ev} (h0:decide (0≤z9.i)=true) (h1:decide (z9.i<(c.wh.length:Int))=false) :
 Fn 118 5 [agA c.u c.b c.fr c.ev c.wh,.pv (qac z9)] (qqF c) (.pv (.bool false)) 0 []:=
 Fz [] [.t true,.t false]
  tI (Ai h0 (Ai h1 tI))
theorem quL {c:Ck} {n:Int} {z9:Ev} (h0:decide (0≤z9.i)=true) (h1:decide (z9.i<(c.wh.length:Int))=true) (hi1:0≤z9.i∧z9.i<(c.wh.length:Int)) (hw1:c.wh[z9.i.toNat]?=some n) (h2:decide (n≥0)=false) :
 Fn 118 5 [agA c.u c.b c.fr c.ev c.wh,.pv (qac z9)] (qqF c) (.pv (.bool false)) 0 []:=
 Fz [] [.t true,.t true,.r (iV n),.t false]
  tI (Ai h0 (Ai h1 (Ai hi1 (Ai (qbe hw1) (Ai h2 tI)))))
theorem qv9 {c:Ck} {n:Int} {y:Ev} {z9:Ev} (h0:decide (0≤z9.i)=true) (h1:decide (z9.i<(c.wh.length:Int))=true) (hi1:0≤z9.i∧z9.i<(c.wh.length:Int)) (hw1:c.wh[z9.i.toNat]?=some n) (h2:decide (n≥0)=true) (hi2:0≤n∧n<(c.ev.length:Int)) (hy:c.ev[n.toNat]?=some y) (h3:((y.n==z9.n&&(y.d==z9.d&&true))&&(y.k==z9.k&&((y.i==z9.i&&(y.w==z9.w&&true))&&true)))=true) :
 Fn 118 5 [agA c.u c.b c.fr c.ev c.wh,.pv (qac z9)] (qqF c) (.pv (.bool true)) 0 []:=
 Fz [] [.t true,.t true,.r (iV n),.t true,.r (iV n),.r (qac y),.t true]
  tI (Ai h0 (Ai h1 (Ai hi1 (Ai (qbe hw1) (Ai h2 (Ai hi1 (Ai (qbe hw1) (Ai hi2 (Ai (qbi hy) (Ai h3 tI))))))))))
theorem qzJ {c:Ck} {n:Int} {y:Ev} {z9:Ev} (h0:decide (0≤z9.i)=true) (h1:decide (z9.i<(c.wh.length:Int))=true) (hi1:0≤z9.i∧z9.i<(c.wh.length:Int)) (hw1:c.wh[z9.i.toNat]?=some n) (h2:decide (n≥0)=true) (hi2:0≤n∧n<(c.ev.length:Int)) (hy:c.ev[n.toNat]?=some y) (h3:((y.n==z9.n&&(y.d==z9.d&&true))&&(y.k==z9.k&&((y.i==z9.i&&(y.w==z9.w&&true))&&true)))=false) :
 Fn 118 5 [agA c.u c.b c.fr c.ev c.wh,.pv (qac z9)] (qqF c) (.pv (.bool false)) 0 []:=
 Fz [] [.t true,.t true,.r (iV n),.t true,.r (iV n),.r (qac y),.t false]
  tI (Ai h0 (Ai h1 (Ai hi1 (Ai (qbe hw1) (Ai h2 (Ai hi1 (Ai (qbe hw1) (Ai hi2 (Ai (qbi hy) (Ai h3 tI))))))))))
abbrev qpH (c:Ck) (fl:List Ev):Prop:=Fn 117 8 [qao c] (qar c) (.ls 8 fl.length) 1 [(8,0,qat fl)]
theorem qD4 {c:Ck} {fl:List Ev} (hfs:qpH c fl) (hn1:((c.d.length:Int) !=(fl.length:Int))=true) :
 Fn 66 8 [qao c] (qar c) (.pv (.bool false)) 0 []:=
 Fz [] [Cf hfs [0,1,2,3,4,5,6,7],.t true]
  tI (Co hfs [0,1,2,3,4,5,6,7] 9 (Ai hn1 tI))
theorem qC1 {c:Ck} {fl:List Ev} (hfs:qpH c fl) (hn1:((c.d.length:Int) !=(fl.length:Int))=false) (hn2:((c.ev.length:Int) !=(fl.length:Int))=true) :
 Fn 66 8 [qao c] (qar c) (.pv (.bool false)) 0 []:=
 Fz [] [Cf hfs [0,1,2,3,4,5,6,7],.t false,.t true]
  tI (Co hfs [0,1,2,3,4,5,6,7] 9 (Ai hn1 (Ai hn2 tI)))
abbrev qBS (fl:List Ev) (k:Nat):TmL:=[(1,.pp 8 0),(23,.ls 9 fl.length),(24,.pv (iV (fl.length:Int))),(25,.pv (iV (k:Int)))]
theorem qvI {c:Ck} {q:Pt} {k:Nat} {y:Ev} {fl:List Ev} (hk:fl[k]?=some y) (hin:0≤(k:Int)∧(k:Int)<(fl.length:Int)) (hq:c.d[k]?=some q) (hiq:0≤(k:Int)∧(k:Int)<(c.d.length:Int)) (hlt:decide ((k:Int)<(fl.length:Int))=true) (hne:(q.id !=y.k)=true):Rl 8 8 66 0 54 10 (qBS fl k) ((qcJ 8 c++[(9,0,qat fl)])) (.ret) ([(2,.pv (.bool false))]) ([]):=
 RunsL.stop [] 300 [.t true,.r (qac y),.r (qaL q.a q.b),.r (iV q.id),.t true] (fun h=>by cases h)
  (Ro (Ai hlt (Ai hin (Ai (qbi hk) (Ai hiq (Ai (qdx hq) (Ai hiq (Ai (qcW hq) (Ai hne tI)))))))))
theorem qzy {c:Ck} {q:Pt} {k:Nat} {y:Ev} {fl:List Ev} (hk:fl[k]?=some y) (hin:0≤(k:Int)∧(k:Int)<(fl.length:Int)) (hq:c.d[k]?=some q) (hiq:0≤(k:Int)∧(k:Int)<(c.d.length:Int)) (hlt:decide ((k:Int)<(fl.length:Int))=true) (hne:(q.id !=y.k)=false) (hv:Fn 118 5 [agA c.u c.b c.fr c.ev c.wh,.pv (qac (Ev.mk y.n y.d y.k q.a q.b))] (qqF c) (.pv (.bool false)) 0 []):Rl 8 8 66 0 54 10 (qBS fl k) ((qcJ 8 c++[(9,0,qat fl)])) (.ret) ([(2,.pv (.bool false))]) ([]):=
 RunsL.stop [] 300 [.t true,.r (qac y),.r (qaL q.a q.b),.r (iV q.id),.t false,Cf hv [2,3,4,5,6],.k] (fun h=>by cases h)
  (Ro (Ai hlt (Ai hin (Ai (qbi hk) (Ai hiq (Ai (qdx hq) (Ai hiq (Ai (qcW hq) (Ai hne (Co hv [2,3,4,5,6] 11 tI))))))))))
theorem qpN {c:Ck} {q:Pt} {k:Nat} {y:Ev} {fl:List Ev} (hk:fl[k]?=some y) (hin:0≤(k:Int)∧(k:Int)<(fl.length:Int)) (hq:c.d[k]?=some q) (hiq:0≤(k:Int)∧(k:Int)<(c.d.length:Int)) (hlt:decide ((k:Int)<(fl.length:Int))=true) (hne:(q.id !=y.k)=false) (hv:Fn 118 5 [agA c.u c.b c.fr c.ev c.wh,.pv (qac (Ev.mk y.n y.d y.k q.a q.b))] (qqF c) (.pv (.bool true)) 0 []) (hs:iV (IntKind.i64.wrap ((k:Int)+1))=iV (((k+1:Nat):Int))) {e:Exit} {tm2:TmL} {hp2:HpL}
 (r:Rl 8 8 66 0 54 10 ([(1,.pp 8 0),(23,.ls 9 fl.length),(24,.pv (iV (fl.length:Int))),(25,.pv (iV ((k+1:Nat):Int)))]) ((qcJ 8 c++[(9,0,qat fl)])) e tm2 hp2):Rl 8 8 66 0 54 10 (qBS fl k) ((qcJ 8 c++[(9,0,qat fl)])) e tm2 hp2:=
 RunsL.next [] 300 [.t true,.r (qac y),.r (qaL q.a q.b),.r (iV q.id),.t false,Cf hv [2,3,4,5,6],.k,Re hs]
  (Ro (Ai hlt (Ai hin (Ai (qbi hk) (Ai hiq (Ai (qdx hq) (Ai hiq (Ai (qcW hq) (Ai hne (Co hv [2,3,4,5,6] 11 (Ai hs tI))))))))))) r
theorem qwn {c:Ck} {k:Nat} {fl:List Ev} (hge:decide ((k:Int)<(fl.length:Int))=false):Rl 8 8 66 0 54 10 (qBS fl k) ((qcJ 8 c++[(9,0,qat fl)])) (.exit 0) ([]) ([]):=
 RunsL.stop [] 300 [.t false] (fun h=>by cases h)
  (Ro (Ai hge tI))
theorem quq {c:Ck} {fl:List Ev} (hfs:qpH c fl) (hn1:((c.d.length:Int) !=(fl.length:Int))=false) (hn2:((c.ev.length:Int) !=(fl.length:Int))=false) (r0:Rl 8 8 66 0 54 10 ([(1,.pp 8 0),(23,.ls 9 fl.length),(24,.pv (iV (fl.length:Int))),(25,.pv (iV ((0:Nat):Int)))]) ((qcJ 8 c++[(9,0,qat fl)])) (.ret) ([(2,.pv (.bool false))]) ([])) :
 Fn 66 8 [qao c] (qar c) (.pv (.bool false)) 0 []:=
 Fz [] [Cf hfs [0,1,2,3,4,5,6,7],.t false,.t false,Lf r0]
  tI (Co hfs [0,1,2,3,4,5,6,7] 9 (Ai hn1 (Ai hn2 (Lo r0 [] tI))))
theorem qzj {c:Ck} {fl:List Ev} (hfs:qpH c fl) (hn1:((c.d.length:Int) !=(fl.length:Int))=false) (hn2:((c.ev.length:Int) !=(fl.length:Int))=false) (r0:Rl 8 8 66 0 54 10 ([(1,.pp 8 0),(23,.ls 9 fl.length),(24,.pv (iV (fl.length:Int))),(25,.pv (iV ((0:Nat):Int)))]) ((qcJ 8 c++[(9,0,qat fl)])) (.exit 0) ([]) ([])) :
 Fn 66 8 [qao c] (qar c) (.pv (.bool true)) 0 []:=
 Fz [] [Cf hfs [0,1,2,3,4,5,6,7],.t false,.t false,Lf r0]
  tI (Co hfs [0,1,2,3,4,5,6,7] 9 (Ai hn1 (Ai hn2 (Lo r0 [] tI))))
abbrev qBT (c:Ck) (e4:Int):Prop:=Fn 115 5 [agA c.u c.b c.fr c.ev c.wh] (qqF c) (.pv (iV (e4))) 0 []
abbrev qtV (c:Ck) (e3:Int):Prop:=Fn 88 1 [qaH 0 c.x c.l] [(0,0,qak c.l)] (.pv (iV (e3))) 0 []
theorem qDR {c:Ck} {e1 e2 e3 e4:Int} (h1:Pure Tryz.prog 49 #[qaa c.tn c.td] (iV (e1))) (h2:Fn 48 1 [qaJ 0 c.s] [(0,0,qal c.s)] (.pv (iV (e2))) 0 []) (h3:qtV c e3) (h4:qBT c e4) (he:(e1 !=0)=true) :
 Fn 65 8 [qao c] (qar c) (.pv (.bool false)) 0 []:=
 Fz [] [Rf h1,Cf h2 [0],Cf h3 [1],Cf h4 [2,3,4,5,6],.k,.k,.t true,.t true]
  tI (Ai h1 (Co h2 [0] 9 (Co h3 [1] 9 (Co h4 [2,3,4,5,6] 9 (Ai he (Ai he tI))))))
abbrev qwM (c:Ck):Prop:=Pure Tryz.prog 49 #[qaa c.tn c.td] (iV (0))
theorem qEO {c:Ck} {e2 e3 e4:Int} (h1:qwM c) (h2:Fn 48 1 [qaJ 0 c.s] [(0,0,qal c.s)] (.pv (iV (e2))) 0 []) (h3:qtV c e3) (h4:qBT c e4) (he:(e2 !=0)=true) :
 Fn 65 8 [qao c] (qar c) (.pv (.bool false)) 0 []:=
 Fz [] [Rf h1,Cf h2 [0],Cf h3 [1],Cf h4 [2,3,4,5,6],.k,.k,.k,.k,.k,.t true,.t true]
  tI (Ai h1 (Co h2 [0] 9 (Co h3 [1] 9 (Co h4 [2,3,4,5,6] 9 (Ai he (Ai he tI))))))
abbrev qyz (c:Ck):Prop:=Fn 48 1 [qaJ 0 c.s] [(0,0,qal c.s)] (.pv (iV (0))) 0 []
theorem qCs {c:Ck} {e3 e4:Int} (h1:qwM c) (h2:qyz c) (h3:qtV c e3) (h4:qBT c e4) (he:(e3 !=0)=true) :
 Fn 65 8 [qao c] (qar c) (.pv (.bool false)) 0 []:=
 Fz [] [Rf h1,Cf h2 [0],Cf h3 [1],Cf h4 [2,3,4,5,6],.k,.k,.k,.k,.k,.k,.k,.k,.t true,.t true]
  tI (Ai h1 (Co h2 [0] 9 (Co h3 [1] 9 (Co h4 [2,3,4,5,6] 9 (Ai he (Ai he tI))))))
abbrev qB7 (c:Ck):Prop:=Fn 88 1 [qaH 0 c.x c.l] [(0,0,qak c.l)] (.pv (iV (0))) 0 []
theorem qDq {c:Ck} {e4:Int} (h1:qwM c) (h2:qyz c) (h3:qB7 c) (h4:qBT c e4) (he:(e4 !=0)=true) :
 Fn 65 8 [qao c] (qar c) (.pv (.bool false)) 0 []:=
 Fz [] [Rf h1,Cf h2 [0],Cf h3 [1],Cf h4 [2,3,4,5,6],.k,.k,.k,.k,.k,.k,.k,.k,.k,.k,.k,.t true,.t true]
  tI (Ai h1 (Co h2 [0] 9 (Co h3 [1] 9 (Co h4 [2,3,4,5,6] 9 (Ai he (Ai he tI))))))
abbrev quZ (c:Ck):Prop:=Fn 115 5 [agA c.u c.b c.fr c.ev c.wh] (qqF c) (.pv (iV (0))) 0 []
theorem qEX {c:Ck} (h1:qwM c) (h2:qyz c) (h3:qB7 c) (h4:quZ c) (h5:Fn 64 2 [qaJ 0 c.s,qaH 1 c.x c.l] [(0,0,qal c.s),(1,0,qak c.l)] (.pv (iV (6))) 0 []) :
 Fn 65 8 [qao c] (qar c) (.pv (.bool false)) 0 []:=
 Fz [] [Rf h1,Cf h2 [0],Cf h3 [1],Cf h4 [2,3,4,5,6],.k,.k,.k,.k,.k,.k,.k,.k,.k,.k,.k,.k,.k,.k,.k,Cf h5 [0,1],.k]
  tI (Ai h1 (Co h2 [0] 9 (Co h3 [1] 9 (Co h4 [2,3,4,5,6] 9 (Co h5 [0,1] 10 tI)))))
theorem qxh {c:Ck} (h1:qwM c) (h2:qyz c) (h3:qB7 c) (h4:quZ c) (h5:Fn 64 2 [qaJ 0 c.s,qaH 1 c.x c.l] [(0,0,qal c.s),(1,0,qak c.l)] (.pv (iV (0))) 0 []) (h6:((c.u.length:Int)==200)=true) :
 Fn 65 8 [qao c] (qar c) (.pv (.bool true)) 0 []:=
 Fz [] [Rf h1,Cf h2 [0],Cf h3 [1],Cf h4 [2,3,4,5,6],.k,.k,.k,.k,.k,.k,.k,.k,.k,.k,.k,.k,.k,.k,.k,Cf h5 [0,1],.k,.t true]
  tI (Ai h1 (Co h2 [0] 9 (Co h3 [1] 9 (Co h4 [2,3,4,5,6] 9 (Co h5 [0,1] 10 (Ai h6 tI))))))
theorem qDr {c:Ck} (h1:qwM c) (h2:qyz c) (h3:qB7 c) (h4:quZ c) (h5:Fn 64 2 [qaJ 0 c.s,qaH 1 c.x c.l] [(0,0,qal c.s),(1,0,qak c.l)] (.pv (iV (0))) 0 []) (h6:((c.u.length:Int)==200)=false) :
 Fn 65 8 [qao c] (qar c) (.pv (.bool false)) 0 []:=
 Fz [] [Rf h1,Cf h2 [0],Cf h3 [1],Cf h4 [2,3,4,5,6],.k,.k,.k,.k,.k,.k,.k,.k,.k,.k,.k,.k,.k,.k,.k,Cf h5 [0,1],.k,.t false]
  tI (Ai h1 (Co h2 [0] 9 (Co h3 [1] 9 (Co h4 [2,3,4,5,6] 9 (Co h5 [0,1] 10 (Ai h6 tI))))))
theorem qDx {c:Ck} (h1:Fn 65 8 [qao c] (qar c) (.pv (.bool false)) 0 []) :
 Fn 22 8 [qao c] (qar c) (.pv (iV (8))) 0 []:=
 Fz [] [Cf h1 [0,1,2,3,4,5,6,7],.k]
  tI (Co h1 [0,1,2,3,4,5,6,7] 9 tI)
theorem qD3 {c:Ck} (h1:Fn 65 8 [qao c] (qar c) (.pv (.bool true)) 0 []) (h2:Fn 66 8 [qao c] (qar c) (.pv (.bool false)) 0 []) :
 Fn 22 8 [qao c] (qar c) (.pv (iV (8))) 0 []:=
 Fz [] [Cf h1 [0,1,2,3,4,5,6,7],.k,Cf h2 [0,1,2,3,4,5,6,7],.k]
  tI (Co h1 [0,1,2,3,4,5,6,7] 9 (Co h2 [0,1,2,3,4,5,6,7] 9 tI))
theorem qyg {c:Ck} (h1:Fn 65 8 [qao c] (qar c) (.pv (.bool true)) 0 []) (h2:Fn 66 8 [qao c] (qar c) (.pv (.bool true)) 0 []) :
 Fn 22 8 [qao c] (qar c) (.pv (iV (0))) 0 []:=
 Fz [] [Cf h1 [0,1,2,3,4,5,6,7],.k,Cf h1 [0,1,2,3,4,5,6,7],.k]
  tI (Co h1 [0,1,2,3,4,5,6,7] 9 (Co h2 [0,1,2,3,4,5,6,7] 9 tI))
end Go.Proofs.YtkjaanhddkkodaaGreat
