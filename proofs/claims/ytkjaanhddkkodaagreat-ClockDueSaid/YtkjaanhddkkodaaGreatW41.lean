/-
  Joined: Lk, Ll, Lo. Conditions: none.
-/
import Derived.Test.YtkjaanhddkkodaaGreatW40
import Derived.Test.YtkjaanhddkkodaaGreatW18
import Derived.Test.YtkjaanhddkkodaaGreatW31
namespace Go.Proofs.YtkjaanhddkkodaaGreat
set_option maxRecDepth 100000
open Go.RowKit
abbrev qaB (l:List Pt) (n:Int):List Pt:=l.filter fun p=>decide (p.id≠n)
abbrev qEv (c:Ck) (n:Int) (k j:Nat) (y:Ev):Ck:={ c with l:=qaB c.l n,b:=c.b.set y.i.toNat false,fr:=c.fr++[y.i],ev:=(qam c.ev c.wh j y).1,wh:=(qam c.ev c.wh j y).2,d:=c.d.take k++c.d.drop (k+1) }
def qfR (c:Ck) (n:Int) (o:Ck):Prop:=((∀ q∈c.d,q.id≠n)∧o={ c with l:=qaB c.l n })∨
 ∃ (k:Nat) (q:Pt) (j:Nat) (y:Ev),c.d[k]?=some q∧q.id=n∧(∀ (i:Nat) (p:Pt),i<k→c.d[i]?=some p→p.id≠n)∧c.ev[j]?=some y∧y.i=q.a∧y.w=q.b∧o=qEv c n k j y
theorem qnx {c:Ck} (V:V9 c) (n:Int):∃ o,qfR c n o:=by
 rcases qaW (fun k=>∀ q,c.d[k]?=some q→q.id≠n) c.d.length with h | ⟨k,hk,hb,hf⟩
 ·refine⟨_,Or.inl ⟨fun q hq=>?_,rfl⟩⟩
  obtain⟨k,hk⟩:=List.getElem?_of_mem hq
  exact h k (qaj hk) q hk
 ·simp only[Classical.not_forall,Classical.not_not] at hb
  obtain⟨q,hq,he⟩:=hb
  obtain⟨p,_,_,y0,hd⟩:=V.f.some q (List.mem_of_getElem? hq)
  obtain⟨j,y,h1,h2,h3,h4⟩:=VA.find V.a hd.lv
  exact⟨_,Or.inr ⟨k,q,j,y,hq,he,fun i p hi hp=>hf i hi p hp,h2,h3,h4,rfl⟩⟩
abbrev qAV (f:FuncId) (c:Ck) (n e:Int):Prop:=Fn f 8 [qap c,.pv (iV n)] (qaq c) (.pv (.tuple #[qcC,iV e])) 0 []
abbrev qEY (f:FuncId) (c:Ck) (n:Int) (o:Ck):Prop:=Fn f 8 [qap c,.pv (iV n)] (qaq c) (.tu [qgY o,.one (.pv (iV 0))]) 8 (qdu o)
noncomputable def reE (c:Ck) (n:Int):Int:=open Classical in if V9 c then (if ∃ p∈c.l,p.id=n then 0 else 6) else 8
def qdQ (c:Ck) (y:Ev) (p:Pt) (o:Ck):Prop:=c.ev[0]?=some y∧p∈c.l∧p.id=y.k∧∃ g,qfR c y.k g∧o={ g with tn:=y.n,td:=y.d }
abbrev qxW (f:FuncId) (c:Ck) (tn td e:Int):Prop:=Fn f 8 [qap c,.pv (qaa tn td)] (qaq c) (.pv (.tuple #[qcC,evZ,qag 0 0,iV e])) 0 []
abbrev qE2 (f:FuncId) (c:Ck) (tn td:Int) (y:Ev) (p:Pt) (o:Ck):Prop:=Fn f 8 [qap c,.pv (qaa tn td)] (qaq c) (.tu [qgY o,.one (.pv (qab y)),.one (.pv (qag p.a p.b)),.one (.pv (iV 0))]) 8 (qdu o)
noncomputable def faE (c:Ck) (tn td:Int):Int:=if qdo c tn td=0 then (if qie c tn td=true then 0 else 6) else qdo c tn td
theorem qnm {c:Ck} {tn td:Int} (h:qdo c tn td=0):V9 c∧okB tn td=true∧c.tn*td≤tn*c.td:=by
 unfold qdo at h
 split at h
 ·rename_i h1
  split at h
  ·cases h
  ·exact⟨h1.1,h1.2,by omega⟩
 ·cases h
abbrev qyg (f:FuncId) (c:Ck) (tn td e:Int):Prop:=Fn f 8 [qap c,.pv (qaa tn td)] (qaq c) (.pv (.tuple #[qcC,iV e])) 0 []
abbrev qEx (f:FuncId) (c:Ck) (tn td:Int):Prop:=Fn f 8 [qap c,.pv (qaa tn td)] (qaq c) (.tu [qgY { c with tn:=tn,td:=td },.one (.pv (iV 0))]) 8 (qdu { c with tn:=tn,td:=td })
noncomputable def moE (c:Ck) (tn td:Int):Int:=if qdo c tn td=0 then (if qie c tn td=true then 36 else 0) else qdo c tn td
abbrev qdX (s:List Pt) (tn td:Int):Ck:=⟨tn,td,s,0,[],List.replicate 200 0,List.replicate 200 false,qee 200,[],List.replicate 200 (-1),[]⟩
abbrev qyJ (f:FuncId) (s:List Pt) (tn td e:Int):Prop:=Fn f 1 [qaI 0 s,.pv (qaa tn td)] [(0,0,qak s)] (.pv (.tuple #[qcC,iV e])) 0 []
end Go.Proofs.YtkjaanhddkkodaaGreat

namespace Go.Proofs.YtkjaanhddkkodaaGreat
set_option maxRecDepth 100000
open Go.RowKit
abbrev alZ:List (Nat×Nat×SV):=[(11,0,.pv (iV 0)),(11,1,.pv (iV 0)),(11,2,.pv (.slice none 0 0)),(11,3,.pv (iV 0)),(11,4,.pv (.slice none 0 0)),(11,5,.pv (.slice none 0 0)),(11,6,.pv (.slice none 0 0)),(11,7,.pv (.slice none 0 0)),(11,8,.pv (.slice none 0 0)),(11,9,.pv (.slice none 0 0)),(11,10,.pv (.slice none 0 0))]
inductive AlStep (c:Ck) (s:List Pt) (p:Pt) (o:Ck):Ck→Prop where
 | key {j k:Nat} {q:Pt} {y:Ev} (f:(qae s c.tn c.td p).2.2=true) (hq:c.d[j]?=some q) (he:q.id=p.id) (hf:∀ (i:Nat) (p':Pt),i<j→c.d[i]?=some p'→p'.id≠p.id) (hy:o.ev[k]?=some y) (e1:y.i=q.a) (e2:y.w=q.b) :
  AlStep c s p o { o with ev:=(qa0 o.ev o.wh k y (qae s c.tn c.td p).1 (qae s c.tn c.td p).2.1).1,wh:=(qa0 o.ev o.wh k y (qae s c.tn c.td p).1 (qae s c.tn c.td p).2.1).2,d:=o.d++[q] }
 | push {u2 f2:List Int} {b2:List Bool} {hi hw:Int} (f:(qae s c.tn c.td p).2.2=true) (hn:∀ q∈c.d,q.id≠p.id) (ht:qbE o.u o.b o.fr=some (u2,b2,f2,hi,hw)) :
  AlStep c s p o { o with u:=u2,b:=b2,fr:=f2,ev:=(qa6 o.ev o.wh ⟨(qae s c.tn c.td p).1,(qae s c.tn c.td p).2.1,p.id,hi,hw⟩).1,wh:=(qa6 o.ev o.wh ⟨(qae s c.tn c.td p).1,(qae s c.tn c.td p).2.1,p.id,hi,hw⟩).2,d:=o.d++[⟨p.id,hi,hw⟩] }
 | gone {j k:Nat} {q:Pt} {y:Ev} (f:(qae s c.tn c.td p).2.2=false) (hq:c.d[j]?=some q) (he:q.id=p.id) (hf:∀ (i:Nat) (p':Pt),i<j→c.d[i]?=some p'→p'.id≠p.id) (hy:o.ev[k]?=some y) (e1:y.i=q.a) (e2:y.w=q.b) :
  AlStep c s p o { o with b:=o.b.set y.i.toNat false,fr:=o.fr++[y.i],ev:=(qam o.ev o.wh k y).1,wh:=(qam o.ev o.wh k y).2 }
 | skip (f:(qae s c.tn c.td p).2.2=false) (hn:∀ q∈c.d,q.id≠p.id):AlStep c s p o o
def qse (c:Ck) (s:List Pt) (p:Pt) (o:Ck):Prop:=(qae s c.tn c.td p).2.2=true∧(∀ q∈c.d,q.id≠p.id)∧qbE o.u o.b o.fr=none
inductive AlRun (c:Ck) (s:List Pt):List Pt→Ck→Option Ck→Prop where
 | nil (o:Ck):AlRun c s [] o (some o)
 | step {p:Pt} {l:List Pt} {o o2:Ck} {r:Option Ck}:AlStep c s p o o2→AlRun c s l o2 r→AlRun c s (p::l) o r
 | full {p:Pt} {l:List Pt} {o:Ck}:qse c s p o→AlRun c s (p::l) o none
structure AlInv (c:Ck) (l:List Pt) (o:Ck):Prop where
 a:VA o.u o.b o.fr o.ev o.wh
 lv:∀ p∈l,∀ q∈c.d,q.id=p.id→Live o.u o.b q.a q.b
 nw:∀ y∈o.ev,∀ p∈l,(∀ q∈c.d,q.id≠p.id)→y.k≠p.id
 sz:o.d.length+l.length≤1000
 w:o.wh.length=200
structure AlPre (c:Ck) (s:List Pt):Prop where
 S:S9 c
 V:V9 c
 sv:Val s
 kn:qcM c.l s
theorem qvj {c:Ck} (V:V9 c) {q q':Pt} (hq:q∈c.d) (hq':q'∈c.d) (h:q.id≠q'.id):q.a≠q'.a:=by
 intro e
 obtain⟨p,_,_,y,d1⟩:=V.f.some q hq
 obtain⟨p',_,_,y',d2⟩:=V.f.some q' hq'
 obtain⟨w,w1,w2⟩:=d1.at_
 obtain⟨w',w1',w2'⟩:=d2.at_
 rw[e,w1'] at w1
 have e2:(w':Int)=(w:Int):=Option.some.inj w1
 have e3:w'=w:=by omega
 subst e3
 rw[w2] at w2'
 have e4:y=y':=Option.some.inj w2'
 subst e4
 exact h (d1.id.trans (d1.k.symm.trans (d2.k.trans d2.id.symm)))
theorem qls {c:Ck} (V:V9 c) {i j:Nat} {q q':Pt} (hq:c.d[i]?=some q) (hq':c.d[j]?=some q') (h:q.id=q'.id):i=j:=by
 have nd:=V.due_nodup
 rw[List.nodup_iff_pairwise_ne,List.pairwise_iff_getElem] at nd
 have hi:=qaj hq
 have hj:=qaj hq'
 obtain⟨_,e1⟩:=List.getElem?_eq_some_iff.1 hq
 obtain⟨_,e2⟩:=List.getElem?_eq_some_iff.1 hq'
 rcases Nat.lt_trichotomy i j with hij | hij | hij
 ·have:=nd i j (by simpa using hi) (by simpa using hj) hij
  rw[List.getElem_map,List.getElem_map,e1,e2] at this
  exact (this h).elim
 ·exact hij
 ·have:=nd j i (by simpa using hj) (by simpa using hi) hij
  rw[List.getElem_map,List.getElem_map,e1,e2] at this
  exact (this h.symm).elim
theorem qxK (c:Ck) (n:Int):(∀ q∈c.d,q.id≠n)∨∃ (j:Nat) (q:Pt),c.d[j]?=some q∧q.id=n∧∀ (i:Nat) (p:Pt),i<j→c.d[i]?=some p→p.id≠n:=by
 rcases qaW (fun k=>∀ q,c.d[k]?=some q→q.id≠n) c.d.length with h | ⟨k,hk,hb,hf⟩
 ·refine Or.inl fun q hq=>?_
  obtain⟨k,hk⟩:=List.getElem?_of_mem hq
  exact h k (qaj hk) q hk
 ·simp only[Classical.not_forall,Classical.not_not] at hb
  obtain⟨q,hq,he⟩:=hb
  exact Or.inr ⟨k,q,hq,he,fun i p hi hp=>hf i hi p hp⟩
theorem AlPre.fail {c:Ck} {s:List Pt} (P:AlPre c s) {p:Pt} (hp:p∈c.l):FailT s c.tn c.td p:=qbw P.S.tn P.S.td P.V.t P.sv (P.V.v.ok p hp) (P.kn p hp).1 (P.kn p hp).2
theorem AlStep.inv {c:Ck} {s:List Pt} (P:AlPre c s) {p:Pt} {l:List Pt} {o o2:Ck} (hp:p∈c.l) (hu:∀ p'∈l,p'.id≠p.id) (I:AlInv c (p::l) o) (h:AlStep c s p o o2):AlInv c l o2:=by
 have F:=P.fail hp
 have sz:=I.sz
 rw[List.length_cons] at sz
 have wl:=I.w
 have l0:=I.a.lens
 cases h with
 | @key j k q y f hq he hf hy e1 e2=>
  obtain⟨k1,k2,k3,_⟩:=F.i.ok f
  obtain⟨A,pm⟩:=VA.rekey ⟨k2,k3⟩ k1 I.a hy
  have l1:=A.lens
  refine⟨A,fun p' hp'=>I.lv p' (List.mem_cons_of_mem _ hp'),fun y2 hy2 p' hp' hn=>?_,by simp;omega,by show (qa0 _ _ _ _ _ _).2.length=200;omega⟩
  rcases List.mem_or_eq_of_mem_set (pm.mem_iff.1 hy2) with h | h
  ·exact I.nw y2 h p' (List.mem_cons_of_mem _ hp') hn
  ·rw[h]
   exact I.nw y (List.mem_of_getElem? hy) p' (List.mem_cons_of_mem _ hp') hn
 | @push u2 f2 b2 hi hw f hn ht=>
  obtain⟨k1,k2,k3,_⟩:=F.i.ok f
  have hz:cnE o.ev p.id=0:=by
   have h1:=P.V.v.lo p hp
   have h2:=P.V.v.hi p hp
   have h3:=P.V.v.nx
   unfold cnE
   rw[if_pos (by omega),if_neg]
   rintro⟨m,hm,e⟩
   exact I.nw m hm p List.mem_cons_self hn e
  obtain⟨A,pm,_,lvp⟩:=VA.push ⟨k2,k3⟩ k1 I.a hz ht
  have l1:=A.lens
  obtain⟨_,_,_,_,eu,_,_,_⟩:=qbk ht
  have lu:u2.length=o.u.length:=by rw[eu,List.length_set]
  refine⟨A,fun p' hp' q' hq' he'=>lvp _ _ (I.lv p' (List.mem_cons_of_mem _ hp') q' hq' he'),fun y2 hy2 p' hp' hn'=>?_,by simp;omega,by show (qa6 _ _ _).2.length=200;omega⟩
  rcases List.mem_append.1 (pm.mem_iff.1 hy2) with h | h
  ·exact I.nw y2 h p' (List.mem_cons_of_mem _ hp') hn'
  ·rw[List.mem_singleton.1 h]
   exact fun e=>hu p' hp' e.symm
 | @gone j k q y f hq he hf hy e1 e2=>
  obtain⟨A,pm,lvw⟩:=VA.without I.a hy
  have l1:=A.lens
  refine⟨A,fun p' hp' q' hq' he'=>(lvw _ _).2 ⟨I.lv p' (List.mem_cons_of_mem _ hp') q' hq' he',?_⟩,fun y2 hy2 p' hp' hn'=>I.nw y2 (pm.mem_iff.1 (List.mem_append_left _ hy2)) p' (List.mem_cons_of_mem _ hp') hn',by show o.d.length+l.length≤1000;omega,by show (qam _ _ _ _).2.length=200;omega⟩
  rw[e1]
  exact qvj P.V hq' (List.mem_of_getElem? hq) (by have:=hu p' hp';omega)
 | skip f hn=>exact⟨I.a,fun p' hp'=>I.lv p' (List.mem_cons_of_mem _ hp'),fun y hy p' hp'=>I.nw y hy p' (List.mem_cons_of_mem _ hp'),by omega,I.w⟩
theorem qkj {c:Ck} {s:List Pt} {p:Pt} {l:List Pt} {o:Ck} (I:AlInv c (p::l) o):qse c s p o∨∃ o2,AlStep c s p o o2:=by
 rcases qxK c p.id with hn | ⟨j,q,hq,he,hf⟩
 ·cases f:(qae s c.tn c.td p).2.2
  ·exact Or.inr ⟨_,.skip f hn⟩
  ·cases ht:qbE o.u o.b o.fr with
   | none=>exact Or.inl ⟨f,hn,ht⟩
   | some z=>
    obtain⟨u2,b2,f2,hi,hw⟩:=z
    exact Or.inr ⟨_,.push f hn ht⟩
 ·obtain⟨k,y,_,h2,h3,h4⟩:=VA.find I.a (I.lv p List.mem_cons_self q (List.mem_of_getElem? hq) he)
  cases f:(qae s c.tn c.td p).2.2
  ·exact Or.inr ⟨_,.gone f hq he hf h2 h3 h4⟩
  ·exact Or.inr ⟨_,.key f hq he hf h2 h3 h4⟩
theorem qhf {c:Ck} {s:List Pt} (P:AlPre c s):∀ (l:List Pt) (o:Ck),(∀ p∈l,p∈c.l)→(l.map Pt.id).Nodup→AlInv c l o→∃ r,AlRun c s l o r
 | [],o,_,_,_=>⟨_,.nil o⟩
 | p::l,o,hl,nd,I=>by
  rw[List.map_cons,List.nodup_cons] at nd
  rcases qkj (s:=s) I with h | ⟨o2,h⟩
  ·exact⟨_,.full h⟩
  ·have hu:∀ p'∈l,p'.id≠p.id:=fun p' hp' e=>nd.1 (List.mem_map.2 ⟨p',hp',e⟩)
   obtain⟨r,hr⟩:=qhf P l o2 (fun p' hp'=>hl p' (List.mem_cons_of_mem _ hp')) nd.2 (h.inv P (hl p List.mem_cons_self) hu I)
   exact⟨r,.step h hr⟩
abbrev qoH (f:FuncId) (c:Ck) (s:List Pt) (e:Int):Prop:=Fn f 9 [qap c,qaI 8 s] (qaq c++[(8,0,qak s)]) (.pv (.tuple #[qcC,iV e])) 0 []
abbrev qFu (c:Ck) (s:List Pt) (o:Ck):S1:=.ag [.pv (iV c.tn),.pv (iV c.td),.ls 9 s.length,.pv (iV c.x),.ls 10 c.l.length,.ls 11 o.u.length,.ls 12 o.b.length,.ls 13 o.fr.length,.ls 14 o.ev.length,.ls 15 o.wh.length,.ls 16 o.d.length]
abbrev qFs (c:Ck) (s:List Pt) (o:Ck):List (Nat×Nat×SV):=[(9,0,qak s),(10,0,qal c.l),(11,0,zrI o.u),(12,0,zrB o.b),(13,0,zrI o.fr),(14,0,qau o.ev),(15,0,zrI o.wh),(16,0,qaU o.d)]
abbrev qED (f:FuncId) (c:Ck) (s:List Pt) (o:Ck):Prop:=Fn f 9 [qap c,qaI 8 s] (qaq c++[(8,0,qak s)]) (.tu [qFu c s o,.one (.pv (iV 0))]) 8 (qFs c s o)
theorem qgH {c:Ck} {s:List Pt} (P:AlPre c s):AlInv c c.l { c with d:=[] } where
 a:=P.V.a
 lv:=fun p _ q hq _=>by
  obtain⟨_,_,_,y,hd⟩:=P.V.f.some q hq
  exact hd.lv
 nw:=fun y hy p hp hn e=>by
  obtain⟨j,hj⟩:=List.getElem?_of_mem hy
  obtain⟨p',hp',_,q,hq,hd⟩:=P.V.ev hj
  exact hn q hq (hd.id.trans (hd.k.symm.trans e))
 sz:=by have:=P.S.l;simp;omega
 w:=P.V.w
noncomputable def qid (c:Ck) (s:List Pt):Int:=open Classical in if V9 c then (if qfx s=0 then (if qcM c.l s then 0 else 6) else qfx s) else 8
end Go.Proofs.YtkjaanhddkkodaaGreat

namespace Go.Proofs.YtkjaanhddkkodaaGreat
set_option maxRecDepth 100000
open Go.RowKit
theorem FailIs.one {p q:Pt} {n d m k m' k':Int} {s s':Bool} (h:FailIs p q n d m k s) (h':FailIs p q n d m' k' s'):m=m'∧k=k'∧s=s':=by
 cases s<;>cases s'
 ·obtain⟨rfl,rfl⟩:=h.no rfl
  obtain⟨rfl,rfl⟩:=h'.no rfl
  exact⟨rfl,rfl,rfl⟩
 ·obtain⟨o,_,_,l⟩:=h'.ok rfl
  have:=h.before m' k' o l (fun e=>by cases e)
  rw[h'.then_ rfl] at this
  cases this
 ·obtain⟨o,_,_,l⟩:=h.ok rfl
  have:=h'.before m k o l (fun e=>by cases e)
  rw[h.then_ rfl] at this
  cases this
 ·obtain⟨o,_,_,l⟩:=h.ok rfl
  obtain⟨o',_,_,l'⟩:=h'.ok rfl
  have e:m*k'=m'*k:=by
   rcases Int.lt_trichotomy (m*k') (m'*k) with e | e | e
   ·have:=h'.before m k o l (fun _=>e)
    rw[h.then_ rfl] at this
    cases this
   ·exact e
   ·have:=h.before m' k' o' l' (fun _=>e)
    rw[h'.then_ rfl] at this
    cases this
  obtain⟨rfl,rfl⟩:=qe1 o o' e
  exact⟨rfl,rfl,rfl⟩
theorem FailIs.later {p q:Pt} {n d n' d' m k:Int} {s:Bool} (h:FailIs p q n d m k s) (hd:okB n d=true) (hd':okB n' d'=true) (h1:n*d'≤n'*d) (h2:s=true→n'*k≤m*d'):FailIs p q n' d' m k s where
 ok:=fun e=>by
  obtain⟨o,i1,i2,_⟩:=h.ok e
  exact⟨o,i1,i2,h2 e⟩
 no:=h.no
 then_:=h.then_
 before:=fun tn td ht l1 l2=>h.before tn td ht (by
  have a:=qba hd
  have b:=qba hd'
  have c:=qba ht
  exact qsN (n:=n') (d:=d') (tn:=tn) (td:=td) (m:=n) (k:=d) (by omega) (by omega) (by omega) h1 l1) l2
theorem qij {s:List Pt} {n d n' d':Int} {p:Pt} (h:FailT s n d p) (h':FailT s n' d' p) (hd:okB n d=true) (hd':okB n' d'=true) (h1:n*d'≤n'*d) (h2:(qae s n d p).2.2=true→n'*(qae s n d p).2.1≤(qae s n d p).1*d'):qae s n' d' p=qae s n d p:=by
 obtain⟨e1,e2,e3⟩:=(h.i.later hd hd' h1 h2).one h'.i
 exact Prod.ext e1.symm (Prod.ext e2.symm e3.symm)
theorem DueOk.own {c:Ck} {p q:Pt} {y:Ev} (h:DueOk c p q y) (ha:VA c.u c.b c.fr c.ev c.wh):y.i=q.a∧y.w=q.b:=by
 obtain⟨w,y',h1,h2,h3,h4⟩:=VA.find ha h.lv
 obtain⟨w',g1,g2⟩:=h.at_
 rw[h1] at g1
 have e:(w:Int)=(w':Int):=Option.some.inj g1
 have e2:w=w':=by omega
 subst e2
 rw[h2] at g2
 have e3:y'=y:=Option.some.inj g2
 subst e3
 exact⟨h3,h4⟩
theorem DueOk.mk' {c:Ck} {p q:Pt} {y:Ev} (ha:VA c.u c.b c.fr c.ev c.wh) (hy:y∈c.ev) (e1:y.i=q.a) (e2:y.w=q.b) (id:q.id=p.id) (k:y.k=p.id) (n:y.n=(qae c.s c.tn c.td p).1) (d:y.d=(qae c.s c.tn c.td p).2.1):DueOk c p q y:=by
 obtain⟨j,hj⟩:=List.getElem?_of_mem hy
 obtain⟨h1,h2⟩:=VA.own ha hj
 rw[e1,e2] at h1
 rw[e1] at h2
 exact⟨id,h1,⟨j,h2,hj⟩,k,n,d⟩
theorem DueF.map {c o:Ck} {l:List Pt}:∀ {d:List Pt},(∀ p∈l,qae o.s o.tn o.td p=qae c.s c.tn c.td p)→(∀ p∈l,∀ q∈d,(∃ y,DueOk c p q y)→∃ y,DueOk o p q y)→DueF c l d→DueF o l d:=by
 induction l with
 | nil=>intro d _ _ h;exact h
 | cons p l ih=>
  intro d hf hk h
  have e:=hf p List.mem_cons_self
  show if (qae o.s o.tn o.td p).2.2=true then _ else _
  rw[e]
  cases f:(qae c.s c.tn c.td p).2.2
  ·have h':DueF c l d:=by
    have:(if (qae c.s c.tn c.td p).2.2=true then _ else _):=h
    rwa [if_neg (by rw[f];decide)] at this
   rw[if_neg (by decide)]
   exact ih (fun p' hp'=>hf p' (List.mem_cons_of_mem _ hp')) (fun p' hp'=>hk p' (List.mem_cons_of_mem _ hp')) h'
  ·have h':∃ q r,d=q::r∧(∃ y,DueOk c p q y)∧DueF c l r:=by
    have:(if (qae c.s c.tn c.td p).2.2=true then _ else _):=h
    rwa [if_pos f] at this
   obtain⟨q,r,hd,hy,hr⟩:=h'
   rw[if_pos rfl]
   subst hd
   exact⟨q,r,rfl,hk p List.mem_cons_self q List.mem_cons_self hy,ih (fun p' hp'=>hf p' (List.mem_cons_of_mem _ hp')) (fun p' hp' q' hq'=>hk p' (List.mem_cons_of_mem _ hp') q' (List.mem_cons_of_mem _ hq')) hr⟩
theorem DueF.snoc {c:Ck} {p:Pt} {l:List Pt}:∀ {d:List Pt},DueF c l d→(qaQ c p=false→DueF c (l++[p]) d)∧(qaQ c p=true→∀ q y,DueOk c p q y→DueF c (l++[p]) (d++[q])):=by
 induction l with
 | nil=>
  intro d h
  have e:d=[]:=h
  subst e
  refine⟨fun f=>?_,fun f q y hy=>?_⟩
  ·show if (qae c.s c.tn c.td p).2.2=true then _ else _
   rw[if_neg (by rw[show (qae c.s c.tn c.td p).2.2=false from f];decide)]
   rfl
  ·show if (qae c.s c.tn c.td p).2.2=true then _ else _
   rw[if_pos f]
   exact⟨q,[],rfl,⟨y,hy⟩,rfl⟩
 | cons p' l ih=>
  intro d h
  cases f':(qae c.s c.tn c.td p').2.2
  ·have h':DueF c l d:=by
    have:(if (qae c.s c.tn c.td p').2.2=true then _ else _):=h
    rwa [if_neg (by rw[f'];decide)] at this
   obtain⟨i1,i2⟩:=ih h'
   refine⟨fun f=>?_,fun f q y hy=>?_⟩
   ·show if (qae c.s c.tn c.td p').2.2=true then _ else _
    rw[if_neg (by rw[f'];decide)]
    exact i1 f
   ·show if (qae c.s c.tn c.td p').2.2=true then _ else _
    rw[if_neg (by rw[f'];decide)]
    exact i2 f q y hy
  ·have h':∃ q r,d=q::r∧(∃ y,DueOk c p' q y)∧DueF c l r:=by
    have:(if (qae c.s c.tn c.td p').2.2=true then _ else _):=h
    rwa [if_pos f'] at this
   obtain⟨q',r,hd,hy',hr⟩:=h'
   subst hd
   obtain⟨i1,i2⟩:=ih hr
   refine⟨fun f=>?_,fun f q y hy=>?_⟩
   ·show if (qae c.s c.tn c.td p').2.2=true then _ else _
    rw[if_pos f']
    exact⟨q',r,rfl,hy',i1 f⟩
   ·show if (qae c.s c.tn c.td p').2.2=true then _ else _
    rw[if_pos f']
    exact⟨q',r++[q],rfl,hy',i2 f q y hy⟩
theorem V9.new_ok {c o:Ck} (S:S9 c) (V:V9 c) {a b:Int} (hc:qcc a b=true) (ha:∃ q∈c.s,q.id=a) (hb:∃ q∈c.s,q.id=b) (h0:adE c a b=0) (h:qhl c a b o):V9 o:=by
 have hh:qft c.l a b=false:=by
  cases e:qft c.l a b
  ·rfl
  ·unfold adE at h0;rw[if_pos e] at h0;cases h0
 have hr:¬ (c.l.length=200∨c.x=1000000):=fun e=>by
  unfold adE at h0;rw[if_neg (by rw[hh];decide),if_pos e] at h0;cases h0
 have hl:=V.v.len
 have hx:=V.v.nx
 have v:V8 (c.x+1) (c.l++[⟨c.x,a,b⟩]):=V8.add V.v hc hh (by omega) (by omega)
 have kn:qcM (c.l++[⟨c.x,a,b⟩]) c.s:=fun p hp=>by
  rcases List.mem_append.1 hp with hp | hp
  ·exact V.k p hp
  ·rw[List.mem_singleton.1 hp];exact⟨ha,hb⟩
 rcases h with ⟨f,rfl⟩ | ⟨f,u2,b2,f2,hi,hw,ht,rfl⟩
 ·exact⟨V.t,V.s,v,kn,V.a,V.w,V.e,DueF.map (c:=c) (fun _ _=>rfl) (fun _ _ _ _ ⟨y,h⟩=>⟨y,⟨h.id,h.lv,h.at_,h.k,h.n,h.d⟩⟩) ((V.f.snoc).1 f)⟩
 ·have FT:=qbw (c:=⟨c.x,a,b⟩) S.tn S.td V.t V.s hc ha hb
  obtain⟨k1,k2,k3,_⟩:=FT.i.ok f
  obtain⟨A,pm,lv,lvp⟩:=VA.push ⟨k2,k3⟩ k1 V.a V.new ht
  have l1:=A.lens
  have l0:=V.a.lens
  have wl:=V.w
  obtain⟨_,_,_,_,eu,_,_,_⟩:=qbk ht
  have lu:u2.length=c.u.length:=by rw[eu,List.length_set]
  let o:Ck:=qzQ c a b (qae c.s c.tn c.td ⟨c.x,a,b⟩).1 (qae c.s c.tn c.td ⟨c.x,a,b⟩).2.1 u2 b2 f2 hi hw
  have D:DueF o c.l c.d:=DueF.map (c:=c) (fun _ _=>rfl) (fun p _ q _ ⟨y,hy⟩=>by
   obtain⟨e1,e2⟩:=hy.own V.a
   obtain⟨j,_,hj⟩:=hy.at_
   exact⟨y,DueOk.mk' A (pm.mem_iff.2 (List.mem_append_left _ (List.mem_of_getElem? hj))) e1 e2 hy.id hy.k hy.n hy.d⟩) V.f
  have N:DueOk o ⟨c.x,a,b⟩ ⟨c.x,hi,hw⟩ ⟨(qae c.s c.tn c.td ⟨c.x,a,b⟩).1,(qae c.s c.tn c.td ⟨c.x,a,b⟩).2.1,c.x,hi,hw⟩:=DueOk.mk' A (pm.mem_iff.2 (List.mem_append_right _ (List.mem_singleton.2 rfl))) rfl rfl rfl rfl rfl rfl
  have le:=pm.length_eq
  exact⟨V.t,V.s,v,kn,A,by show (qa6 _ _ _).2.length=200;omega,by have:=V.e;show (qa6 _ _ _).1.length=(c.d++[_]).length;rw[List.length_append];rw[List.length_append] at le;simp at le ⊢;omega,(D.snoc).2 f _ _ N⟩
end Go.Proofs.YtkjaanhddkkodaaGreat
