/-
  Joined: Ll, Lq, Lr, Lu. Conditions: none.
-/
import Derived.Test.YtkjaanhddkkodaaGreatW43
import Derived.Test.YtkjaanhddkkodaaGreatW18
namespace Go.Proofs.YtkjaanhddkkodaaGreat
set_option maxRecDepth 100000
open Go.RowKit
abbrev alH (c:Ck) (s:List Pt) (o:Ck) (d:List Pt):List (Nat×Nat×SV):=[(9,0,.pv (iV c.tn)),(9,1,.pv (iV c.td)),(9,2,.ls 0 c.s.length),(9,3,.pv (iV c.x)),(9,4,.ls 1 c.l.length),(9,5,.ls 2 c.u.length),(9,6,.ls 3 c.b.length),(9,7,.ls 4 c.fr.length),(9,8,.ls 5 c.ev.length),(9,9,.ls 6 c.wh.length),(9,10,.ls 7 c.d.length),(0,0,qam c.s),(1,0,qak c.l),(2,0,zrI c.u),(3,0,zrB c.b),(4,0,zrI c.fr),(5,0,qap c.ev),(6,0,zrI c.wh),(7,0,qaQ c.d),(10,0,.ls 8 s.length),(8,0,qam s),(11,0,.pv (iV 0)),(11,1,.pv (iV 0)),(11,2,.pv (.slice none 0 0)),(11,3,.pv (iV 0)),(11,4,.pv (.slice none 0 0)),(11,5,.pv (.slice none 0 0)),(11,6,.pv (.slice none 0 0)),(11,7,.pv (.slice none 0 0)),(11,8,.pv (.slice none 0 0)),(11,9,.pv (.slice none 0 0)),(11,10,.pv (.slice none 0 0)),(20,0,.pv (iV c.tn)),(20,1,.pv (iV c.td)),(20,2,.ls 21 s.length),(20,3,.pv (iV c.x)),(20,4,.ls 13 c.l.length),(20,5,.ls 14 o.u.length),(20,6,.ls 15 o.b.length),(20,7,.ls 16 o.fr.length),(20,8,.ls 17 o.ev.length),(20,9,.ls 18 o.wh.length),(20,10,.ls 22 (d).length),(21,0,qam s),(13,0,qak c.l),(14,0,zrI o.u),(15,0,zrB o.b),(16,0,zrI o.fr),(17,0,qap o.ev),(18,0,zrI o.wh),(22,0,qaQ (d))]
abbrev alE (c:Ck) (s:List Pt) (o:Ck) (d:List Pt):List (Nat×Nat×SV):=[(11,0,.pv (iV 0)),(11,1,.pv (iV 0)),(11,2,.pv (.slice none 0 0)),(11,3,.pv (iV 0)),(11,4,.pv (.slice none 0 0)),(11,5,.pv (.slice none 0 0)),(11,6,.pv (.slice none 0 0)),(11,7,.pv (.slice none 0 0)),(11,8,.pv (.slice none 0 0)),(11,9,.pv (.slice none 0 0)),(11,10,.pv (.slice none 0 0)),(20,0,.pv (iV c.tn)),(20,1,.pv (iV c.td)),(20,2,.ls 21 s.length),(20,3,.pv (iV c.x)),(20,4,.ls 13 c.l.length),(20,5,.ls 14 o.u.length),(20,6,.ls 15 o.b.length),(20,7,.ls 16 o.fr.length),(20,8,.ls 17 o.ev.length),(20,9,.ls 18 o.wh.length),(20,10,.ls 22 (d).length),(21,0,qam s),(13,0,qak c.l),(14,0,zrI o.u),(15,0,zrB o.b),(16,0,zrI o.fr),(17,0,qap o.ev),(18,0,zrI o.wh),(22,0,qaQ (d))]
abbrev alZ:List (Nat×Nat×SV):=[(11,0,.pv (iV 0)),(11,1,.pv (iV 0)),(11,2,.pv (.slice none 0 0)),(11,3,.pv (iV 0)),(11,4,.pv (.slice none 0 0)),(11,5,.pv (.slice none 0 0)),(11,6,.pv (.slice none 0 0)),(11,7,.pv (.slice none 0 0)),(11,8,.pv (.slice none 0 0)),(11,9,.pv (.slice none 0 0)),(11,10,.pv (.slice none 0 0))]
abbrev alT (k:Nat):List (Nat×SV):=[(2,.pp 9 0),(3,.pp 10 0),(4,.pp 11 0),(6,.pp 20 0),(7,.pv (iV (k:Int)))]
inductive AlStep (c:Ck) (s:List Pt) (p:Pt) (o:Ck):Ck→Prop where
 | key {j k:Nat} {q:Pt} {y:Ev} (f:(qaf s c.tn c.td p).2.2=true) (hq:c.d[j]?=some q) (he:q.id=p.id) (hf:∀ (i:Nat) (p':Pt),i<j→c.d[i]?=some p'→p'.id≠p.id) (hy:o.ev[k]?=some y) (e1:y.i=q.a) (e2:y.w=q.b) :
  AlStep c s p o { o with ev:=(qaR o.ev o.wh k y (qaf s c.tn c.td p).1 (qaf s c.tn c.td p).2.1).1,wh:=(qaR o.ev o.wh k y (qaf s c.tn c.td p).1 (qaf s c.tn c.td p).2.1).2,d:=o.d++[q] }
 | push {u2 f2:List Int} {b2:List Bool} {hi hw:Int} (f:(qaf s c.tn c.td p).2.2=true) (hn:∀ q∈c.d,q.id≠p.id) (ht:qbx o.u o.b o.fr=some (u2,b2,f2,hi,hw)) :
  AlStep c s p o { o with u:=u2,b:=b2,fr:=f2,ev:=(qaY o.ev o.wh ⟨(qaf s c.tn c.td p).1,(qaf s c.tn c.td p).2.1,p.id,hi,hw⟩).1,wh:=(qaY o.ev o.wh ⟨(qaf s c.tn c.td p).1,(qaf s c.tn c.td p).2.1,p.id,hi,hw⟩).2,d:=o.d++[⟨p.id,hi,hw⟩] }
 | gone {j k:Nat} {q:Pt} {y:Ev} (f:(qaf s c.tn c.td p).2.2=false) (hq:c.d[j]?=some q) (he:q.id=p.id) (hf:∀ (i:Nat) (p':Pt),i<j→c.d[i]?=some p'→p'.id≠p.id) (hy:o.ev[k]?=some y) (e1:y.i=q.a) (e2:y.w=q.b) :
  AlStep c s p o { o with b:=o.b.set y.i.toNat false,fr:=o.fr++[y.i],ev:=(qaj o.ev o.wh k y).1,wh:=(qaj o.ev o.wh k y).2 }
 | skip (f:(qaf s c.tn c.td p).2.2=false) (hn:∀ q∈c.d,q.id≠p.id):AlStep c s p o o
def qtC (c:Ck) (s:List Pt) (p:Pt) (o:Ck):Prop:=(qaf s c.tn c.td p).2.2=true∧(∀ q∈c.d,q.id≠p.id)∧qbx o.u o.b o.fr=none
inductive AlRun (c:Ck) (s:List Pt):List Pt→Ck→Option Ck→Prop where
 | nil (o:Ck):AlRun c s [] o (some o)
 | step {p:Pt} {l:List Pt} {o o2:Ck} {r:Option Ck}:AlStep c s p o o2→AlRun c s l o2 r→AlRun c s (p::l) o r
 | full {p:Pt} {l:List Pt} {o:Ck}:qtC c s p o→AlRun c s (p::l) o none
structure AlInv (c:Ck) (l:List Pt) (o:Ck):Prop where
 a:VA o.u o.b o.fr o.ev o.wh
 lv:∀ p∈l,∀ q∈c.d,q.id=p.id→Live o.u o.b q.a q.b
 nw:∀ y∈o.ev,∀ p∈l,(∀ q∈c.d,q.id≠p.id)→y.k≠p.id
 sz:o.d.length+l.length≤1000
 w:o.wh.length=200
structure AlPre (c:Ck) (s:List Pt):Prop where
 S:S9 c
 V:V9 c
 sv:Val s
 kn:qdf c.l s
theorem qwA {c:Ck} (V:V9 c) {q q':Pt} (hq:q∈c.d) (hq':q'∈c.d) (h:q.id≠q'.id):q.a≠q'.a:=by
 intro e
 obtain⟨p,_,_,y,d1⟩:=V.f.some q hq
 obtain⟨p',_,_,y',d2⟩:=V.f.some q' hq'
 obtain⟨w,w1,w2⟩:=d1.at_
 obtain⟨w',w1',w2'⟩:=d2.at_
 rw[e,w1'] at w1
 have e2:(w':Int)=(w:Int):=Option.some.inj w1
 have e3:w'=w:=by omega
 subst e3
 rw[w2] at w2'
 have e4:y=y':=Option.some.inj w2'
 subst e4
 exact h (d1.id.trans (d1.k.symm.trans (d2.k.trans d2.id.symm)))
theorem qmf {c:Ck} (V:V9 c) {i j:Nat} {q q':Pt} (hq:c.d[i]?=some q) (hq':c.d[j]?=some q') (h:q.id=q'.id):i=j:=by
 have nd:=V.due_nodup
 rw[List.nodup_iff_pairwise_ne,List.pairwise_iff_getElem] at nd
 have hi:=qai hq
 have hj:=qai hq'
 obtain⟨_,e1⟩:=List.getElem?_eq_some_iff.1 hq
 obtain⟨_,e2⟩:=List.getElem?_eq_some_iff.1 hq'
 rcases Nat.lt_trichotomy i j with hij | hij | hij
 ·have:=nd i j (by simpa using hi) (by simpa using hj) hij
  rw[List.getElem_map,List.getElem_map,e1,e2] at this
  exact (this h).elim
 ·exact hij
 ·have:=nd j i (by simpa using hj) (by simpa using hi) hij
  rw[List.getElem_map,List.getElem_map,e1,e2] at this
  exact (this h.symm).elim
theorem qCz (c:Ck) (n:Int):(∀ q∈c.d,q.id≠n)∨∃ (j:Nat) (q:Pt),c.d[j]?=some q∧q.id=n∧∀ (i:Nat) (p:Pt),i<j→c.d[i]?=some p→p.id≠n:=by
 rcases qaZ (fun k=>∀ q,c.d[k]?=some q→q.id≠n) c.d.length with h | ⟨k,hk,hb,hf⟩
 ·refine Or.inl fun q hq=>?_
  obtain⟨k,hk⟩:=List.getElem?_of_mem hq
  exact h k (qai hk) q hk
 ·simp only[Classical.not_forall,Classical.not_not] at hb
  obtain⟨q,hq,he⟩:=hb
  exact Or.inr ⟨k,q,hq,he,fun i p hi hp=>hf i hi p hp⟩
theorem AlPre.fail {c:Ck} {s:List Pt} (P:AlPre c s) {p:Pt} (hp:p∈c.l):FailT s c.tn c.td p:=qcf P.S.tn P.S.td P.V.t P.sv (P.V.v.ok p hp) (P.kn p hp).1 (P.kn p hp).2
theorem AlStep.inv {c:Ck} {s:List Pt} (P:AlPre c s) {p:Pt} {l:List Pt} {o o2:Ck} (hp:p∈c.l) (hu:∀ p'∈l,p'.id≠p.id) (I:AlInv c (p::l) o) (h:AlStep c s p o o2):AlInv c l o2:=by
 have F:=P.fail hp
 have sz:=I.sz
 rw[List.length_cons] at sz
 have wl:=I.w
 have l0:=I.a.lens
 cases h with
 | @key j k q y f hq he hf hy e1 e2=>
  obtain⟨k1,k2,k3,_⟩:=F.i.ok f
  obtain⟨A,pm⟩:=VA.rekey ⟨k2,k3⟩ k1 I.a hy
  have l1:=A.lens
  refine⟨A,fun p' hp'=>I.lv p' (List.mem_cons_of_mem _ hp'),fun y2 hy2 p' hp' hn=>?_,by simp;omega,by show (qaR _ _ _ _ _ _).2.length=200;omega⟩
  rcases List.mem_or_eq_of_mem_set (pm.mem_iff.1 hy2) with h | h
  ·exact I.nw y2 h p' (List.mem_cons_of_mem _ hp') hn
  ·rw[h]
   exact I.nw y (List.mem_of_getElem? hy) p' (List.mem_cons_of_mem _ hp') hn
 | @push u2 f2 b2 hi hw f hn ht=>
  obtain⟨k1,k2,k3,_⟩:=F.i.ok f
  have hz:cnE o.ev p.id=0:=by
   have h1:=P.V.v.lo p hp
   have h2:=P.V.v.hi p hp
   have h3:=P.V.v.nx
   unfold cnE
   rw[if_pos (by omega),if_neg]
   rintro⟨m,hm,e⟩
   exact I.nw m hm p List.mem_cons_self hn e
  obtain⟨A,pm,_,lvp⟩:=VA.push ⟨k2,k3⟩ k1 I.a hz ht
  have l1:=A.lens
  obtain⟨_,_,_,_,eu,_,_,_⟩:=qbz ht
  have lu:u2.length=o.u.length:=by rw[eu,List.length_set]
  refine⟨A,fun p' hp' q' hq' he'=>lvp _ _ (I.lv p' (List.mem_cons_of_mem _ hp') q' hq' he'),fun y2 hy2 p' hp' hn'=>?_,by simp;omega,by show (qaY _ _ _).2.length=200;omega⟩
  rcases List.mem_append.1 (pm.mem_iff.1 hy2) with h | h
  ·exact I.nw y2 h p' (List.mem_cons_of_mem _ hp') hn'
  ·rw[List.mem_singleton.1 h]
   exact fun e=>hu p' hp' e.symm
 | @gone j k q y f hq he hf hy e1 e2=>
  obtain⟨A,pm,lvw⟩:=VA.without I.a hy
  have l1:=A.lens
  refine⟨A,fun p' hp' q' hq' he'=>(lvw _ _).2 ⟨I.lv p' (List.mem_cons_of_mem _ hp') q' hq' he',?_⟩,fun y2 hy2 p' hp' hn'=>I.nw y2 (pm.mem_iff.1 (List.mem_append_left _ hy2)) p' (List.mem_cons_of_mem _ hp') hn',by show o.d.length+l.length≤1000;omega,by show (qaj _ _ _ _).2.length=200;omega⟩
  rw[e1]
  exact qwA P.V hq' (List.mem_of_getElem? hq) (by have:=hu p' hp';omega)
 | skip f hn=>exact⟨I.a,fun p' hp'=>I.lv p' (List.mem_cons_of_mem _ hp'),fun y hy p' hp'=>I.nw y hy p' (List.mem_cons_of_mem _ hp'),by omega,I.w⟩
theorem qlG {c:Ck} {s:List Pt} {p:Pt} {l:List Pt} {o:Ck} (I:AlInv c (p::l) o):qtC c s p o∨∃ o2,AlStep c s p o o2:=by
 rcases qCz c p.id with hn | ⟨j,q,hq,he,hf⟩
 ·cases f:(qaf s c.tn c.td p).2.2
  ·exact Or.inr ⟨_,.skip f hn⟩
  ·cases ht:qbx o.u o.b o.fr with
   | none=>exact Or.inl ⟨f,hn,ht⟩
   | some z=>
    obtain⟨u2,b2,f2,hi,hw⟩:=z
    exact Or.inr ⟨_,.push f hn ht⟩
 ·obtain⟨k,y,_,h2,h3,h4⟩:=VA.find I.a (I.lv p List.mem_cons_self q (List.mem_of_getElem? hq) he)
  cases f:(qaf s c.tn c.td p).2.2
  ·exact Or.inr ⟨_,.gone f hq he hf h2 h3 h4⟩
  ·exact Or.inr ⟨_,.key f hq he hf h2 h3 h4⟩
theorem qh7 {c:Ck} {s:List Pt} (P:AlPre c s):∀ (l:List Pt) (o:Ck),(∀ p∈l,p∈c.l)→(l.map Pt.id).Nodup→AlInv c l o→∃ r,AlRun c s l o r
 | [],o,_,_,_=>⟨_,.nil o⟩
 | p::l,o,hl,nd,I=>by
  rw[List.map_cons,List.nodup_cons] at nd
  rcases qlG (s:=s) I with h | ⟨o2,h⟩
  ·exact⟨_,.full h⟩
  ·have hu:∀ p'∈l,p'.id≠p.id:=fun p' hp' e=>nd.1 (List.mem_map.2 ⟨p',hp',e⟩)
   obtain⟨r,hr⟩:=qh7 P l o2 (fun p' hp'=>hl p' (List.mem_cons_of_mem _ hp')) nd.2 (h.inv P (hl p List.mem_cons_self) hu I)
   exact⟨r,.step h hr⟩
theorem qxf {c:Ck} {s:List Pt} (P:AlPre c s):∀ (n k:Nat) (o:Ck) (r:Option Ck),k+n=c.l.length→((c.l.drop k).map Pt.id).Nodup→AlInv c (c.l.drop k) o→AlRun c s (c.l.drop k) o r→
 (∀ o',r=some o'→Rl 9 9 82 0 122 23 (alT k) (alH c s o o.d) (.exit 0) [(4,.pp 11 0),(6,.pp 20 0)] (alE c s o' o'.d))∧
 (r=none→Rl 9 9 82 0 122 23 (alT k) (alH c s o o.d) .ret [(4,.pp 11 0),(5,.pv (iV 18))] alZ):=by
 intro n
 induction n with
 | zero=>
  intro k o r hkn _ _ hr
  rw[List.drop_eq_nil_of_le (show c.l.length≤k by omega)] at hr
  cases hr
  refine⟨fun o' h=>?_,fun h=>by cases h⟩
  cases h
  exact qvv (df (by omega))
 | succ n ih=>
  intro k o r hkn nd I hr
  have hlk:k<c.l.length:=by omega
  obtain⟨p,hp⟩:=qah hlk
  have hmem:=List.mem_of_getElem? hp
  have hdr:=qdU hp
  have hl:=P.S.l
  have lk:decide ((k:Int)<(c.l.length:Int))=true:=dt (by omega)
  have W:=qtI P.S.tn P.S.td P.V.t P.sv (P.V.v.ok p hmem) (P.kn p hmem).1 (P.kn p hmem).2
  have F:=P.fail hmem
  rw[hdr] at nd I hr
  rw[List.map_cons,List.nodup_cons] at nd
  have hu:∀ p'∈c.l.drop (k+1),p'.id≠p.id:=fun p' hp' e=>nd.1 (List.mem_map.2 ⟨p',hp',e⟩)
  have sz:=I.sz
  cases hr with
  | full h=>
   obtain⟨f,hn,ht⟩:=h
   rw[f] at W
   refine⟨fun o' h=>(by cases h),fun _=>?_⟩
   exact qsm (hk:=hp) (hin:=qao hlk) (hlt:=lk) (hd:=qdY P.S hn) (hwn:=W) (ho:=qme I.a.vd ht)
  | @step _ _ _ o2 _ h hr=>
   have I2:=h.inv P hmem hu I
   have nx:=ih (k+1) o2 r (by omega) nd.2 I2 hr
   have st:∀ {e:Exit} {tm2:TmL} {hp2:HpL},Rl 9 9 82 0 122 23 (alT (k+1)) (alH c s o2 o2.d) e tm2 hp2→Rl 9 9 82 0 122 23 (alT k) (alH c s o o.d) e tm2 hp2:=by
    intro e tm2 hp2 r
    cases h with
    | @key j k' q y f hq he hf hy e1 e2=>
     rw[f] at W
     obtain⟨k1,k2,k3,_⟩:=F.i.ok f
     have R:=qif I.a hy ⟨k2,k3⟩ k1
     rw[e1,e2] at R
     exact qwY (o:=o) (r9:={ o with ev:=(qaR o.ev o.wh k' y (qaf s c.tn c.td p).1 (qaf s c.tn c.td p).2.1).1,wh:=(qaR o.ev o.wh k' y (qaf s c.tn c.td p).1 (qaf s c.tn c.td p).2.1).2 }) (hk:=hp) (hin:=qao hlk) (hlt:=lk) (hd:=qeo P.S hq he hf) (hwn:=W) (h0:=dt (by omega)) (hq:=hq) (hiq:=qao (qai hq)) (hr:=R) (hd1:=by omega) (hs:=qar (by omega)) (r:=r)
    | @push u2 f2 b2 hi hw f hn ht=>
     rw[f] at W
     obtain⟨k1,k2,k3,_⟩:=F.i.ok f
     have h1:=P.V.v.lo p hmem
     have h2:=P.V.v.hi p hmem
     have h3:=P.V.v.nx
     have R:=qjn (z:=p.id) ⟨k2,k3⟩ k1 I.a (by omega) ht
     exact qrL (o:=o) (r9:={ o with u:=u2,b:=b2,fr:=f2,ev:=(qaY o.ev o.wh ⟨(qaf s c.tn c.td p).1,(qaf s c.tn c.td p).2.1,p.id,hi,hw⟩).1,wh:=(qaY o.ev o.wh ⟨(qaf s c.tn c.td p).1,(qaf s c.tn c.td p).2.1,p.id,hi,hw⟩).2 }) (hk:=hp) (hin:=qao hlk) (hlt:=lk) (hd:=qdY P.S hn) (hwn:=W) (ho:=qlF I.a.vd ht) (hp:=R) (hd1:=by omega) (hs:=qar (by omega)) (r:=r)
    | @gone j k' q y f hq he hf hy e1 e2=>
     rw[f] at W
     have R:=qeI I.a hy
     rw[e1,e2] at R
     rw[e1] at r
     exact qsw (o:=o) (r9:={ o with b:=o.b.set q.a.toNat false,fr:=o.fr++[q.a],ev:=(qaj o.ev o.wh k' y).1,wh:=(qaj o.ev o.wh k' y).2 }) (hk:=hp) (hin:=qao hlk) (hlt:=lk) (hd:=qeo P.S hq he hf) (hwn:=W) (h0:=dt (by omega)) (hq:=hq) (hiq:=qao (qai hq)) (hr:=R) (hs:=qar (by omega)) (r:=r)
    | skip f hn=>
     rw[f] at W
     exact qrA (hk:=hp) (hin:=qao hlk) (hlt:=lk) (hd:=qdY P.S hn) (hwn:=W) (hs:=qar (by omega)) (r:=r)
   exact⟨fun o' e=>st (nx.1 o' e),fun e=>st (nx.2 e)⟩
abbrev qhy (f:FuncId) (c:Ck) (s:List Pt) (e:Int):Prop:=Fn f 9 [qan c,qaB 8 s] (qaq c++[(8,0,qam s)]) (.pv (.tuple #[qbv,iV e])) 0 []
abbrev qHN (c:Ck) (s:List Pt) (o:Ck):S1:=.ag [.pv (iV c.tn),.pv (iV c.td),.ls 9 s.length,.pv (iV c.x),.ls 10 c.l.length,.ls 11 o.u.length,.ls 12 o.b.length,.ls 13 o.fr.length,.ls 14 o.ev.length,.ls 15 o.wh.length,.ls 16 o.d.length]
abbrev qHn (c:Ck) (s:List Pt) (o:Ck):List (Nat×Nat×SV):=[(9,0,qam s),(10,0,qak c.l),(11,0,zrI o.u),(12,0,zrB o.b),(13,0,zrI o.fr),(14,0,qap o.ev),(15,0,zrI o.wh),(16,0,qaQ o.d)]
abbrev qyy (f:FuncId) (c:Ck) (s:List Pt) (o:Ck):Prop:=Fn f 9 [qan c,qaB 8 s] (qaq c++[(8,0,qam s)]) (.tu [qHN c s o,.one (.pv (iV 0))]) 8 (qHn c s o)
theorem qe6 {c:Ck} {s:List Pt} (P:AlPre c s):AlInv c c.l { c with d:=[] } where
 a:=P.V.a
 lv:=fun p _ q hq _=>by
  obtain⟨_,_,_,y,hd⟩:=P.V.f.some q hq
  exact hd.lv
 nw:=fun y hy p hp hn e=>by
  obtain⟨j,hj⟩:=List.getElem?_of_mem hy
  obtain⟨p',hp',_,q,hq,hd⟩:=P.V.ev hj
  exact hn q hq (hd.id.trans (hd.k.symm.trans e))
 sz:=by have:=P.S.l;simp;omega
 w:=P.V.w
theorem qis {c:Ck} {s:List Pt} (P:AlPre c s) {r:Option Ck} (hr:AlRun c s c.l { c with d:=[] } r):(∀ o,r=some o→qyy 82 c s o)∧(r=none→qhy 82 c s 18):=by
 have h:=qxf P c.l.length 0 { c with d:=[] } r (Nat.zero_add _) (by rw[List.drop_zero];exact P.V.v.up.nodup) (qe6 P) hr
 have hs:=P.sv.len
 have hs2:=P.V.s.len
 exact⟨fun o e=>qAN (o:=o) (htw:=qig P.S (by omega)) (hf:=qe0 (by omega)) (r0:=h.1 o e),fun e=>qvc (htw:=qig P.S (by omega)) (hf:=qe0 (by omega)) (r0:=h.2 e)⟩
noncomputable def qd4 (c:Ck) (s:List Pt):Int:=open Classical in if V9 c then (if qfd s=0 then (if qdf c.l s then 0 else 6) else qfd s) else 8
theorem qGd {c:Ck} {s:List Pt} (S:S9 c) (h:qd4 c s=0):AlPre c s:=by
 unfold qd4 at h
 split at h
 ·rename_i V
  split at h
  ·rename_i hs
   split at h
   ·rename_i hk
    exact⟨S,V,qcB.1 hs,hk⟩
   ·cases h
  ·rename_i h1;exact (h1 h).elim
 ·cases h
theorem qgF {c:Ck} (S:S9 c) (s:List Pt):(qd4 c s≠0→qhy 35 c s (qd4 c s))∧
 (qd4 c s=0→∀ r,AlRun c s c.l { c with d:=[] } r→(∀ o,r=some o→qyy 35 c s o)∧(r=none→qhy 35 c s 18)):=by
 have hc:=qkZ S
 have hf:=qgD s
 by_cases V:V9 c
 ·rw[qck V] at hc
  by_cases hs:qfd s=0
  ·have hkn:=qtl c.x S.l (qcB.1 hs)
   rw[hs] at hf
   by_cases hk:qdf c.l s
   ·rw[qc4.2 hk] at hkn
    have e:qd4 c s=0:=by unfold qd4;rw[if_pos V,if_pos hs,if_pos hk]
    refine⟨fun h=>(h e).elim,fun _ r hr=>?_⟩
    obtain⟨A1,A2⟩:=qis ⟨S,V,qcB.1 hs,hk⟩ hr
    exact⟨fun o h=>qyX (o:=o) (hc:=hc) (hf:=hf) (hkn:=hkn) (hal:=A1 o h),fun h=>qpP (hc:=hc) (hf:=hf) (hkn:=hkn) (hal:=A2 h)⟩
   ·rw[qfu hk] at hkn
    have e:qd4 c s=6:=by unfold qd4;rw[if_pos V,if_pos hs,if_neg hk]
    rw[e]
    exact⟨fun _=>qsW (hc:=hc) (hf:=hf) (hkn:=hkn),fun h=>by cases h⟩
  ·have e:qd4 c s=qfd s:=by unfold qd4;rw[if_pos V,if_neg hs]
   rw[e]
   exact⟨fun _=>qt7 (hc:=hc) (hf:=hf) (he:=by simpa using hs),fun h=>(hs h).elim⟩
 ·rw[qbD V] at hc
  have e:qd4 c s=8:=by unfold qd4;rw[if_neg V]
  rw[e]
  exact⟨fun _=>qve (hc:=hc),fun h=>by cases h⟩
end Go.Proofs.YtkjaanhddkkodaaGreat

namespace Go.Proofs.YtkjaanhddkkodaaGreat
set_option maxRecDepth 100000
open Go.RowKit
abbrev alC (c:Ck) (s:List Pt) (o:Ck):Ck:={ o with tn:=c.tn,td:=c.td,s:=s,x:=c.x,l:=c.l }
structure AlMid (c:Ck) (s:List Pt) (m l:List Pt) (o:Ck):Prop where
 f:DueF (alC c s o) m o.d
 ol:∀ p∈l,∀ q∈c.d,q.id=p.id→∃ y∈o.ev,y.i=q.a∧y.w=q.b∧y.k=p.id
 e:o.ev.length=o.d.length+(l.filter (qba c)).length
theorem V9.due_iff {c:Ck} (V:V9 c) {p:Pt} (hp:p∈c.l):(∃ q∈c.d,q.id=p.id)↔qba c p=true:=by
 constructor
 ·rintro⟨q,hq,he⟩
  obtain⟨p',hp',f,y,hd⟩:=V.f.some q hq
  obtain⟨i,hi⟩:=List.getElem?_of_mem hp
  obtain⟨j,hj⟩:=List.getElem?_of_mem hp'
  have:=(qtp V.v.up hi hj (he.symm.trans hd.id)).2
  rw[this]
  exact f
 ·intro f
  obtain⟨q,hq,y,hy⟩:=V.f.all p hp f
  exact⟨q,hq,hy.id⟩
theorem qgU {c:Ck} {s m:List Pt} {o o2:Ck} (A:VA o.u o.b o.fr o.ev o.wh) (A2:VA o2.u o2.b o2.fr o2.ev o2.wh) (h:DueF (alC c s o) m o.d) (hk:∀ p∈m,∀ y∈o.ev,y.k=p.id→y∈o2.ev):DueF (alC c s o2) m o.d:=
 DueF.map (c:=alC c s o) (fun _ _=>rfl) (fun p hp _ _ ⟨y,hy⟩=>by
  obtain⟨e1,e2⟩:=DueOk.own hy A
  obtain⟨j,_,hj⟩:=hy.at_
  exact⟨y,DueOk.mk' (c:=alC c s o2) A2 (hk p hp y (List.mem_of_getElem? hj) hy.k) e1 e2 hy.id hy.k hy.n hy.d⟩) h
theorem AlStep.mid {c:Ck} {s:List Pt} (P:AlPre c s) {p:Pt} {m l:List Pt} {o o2:Ck} (hp:p∈c.l) (hu:∀ p'∈l,p'.id≠p.id) (hm:∀ p'∈m,p'.id≠p.id) (I:AlInv c (p::l) o) (M:AlMid c s m (p::l) o) (h:AlStep c s p o o2):AlMid c s (m++[p]) l o2:=by
 have F:=P.fail hp
 have D:=P.V.due_iff hp
 have I2:=h.inv P hp hu I
 have Me:=M.e
 cases h with
 | @key j k q y f hq he hf hy e1 e2=>
  obtain⟨k1,k2,k3,_⟩:=F.i.ok f
  obtain⟨A,pm⟩:=VA.rekey ⟨k2,k3⟩ k1 I.a hy
  obtain⟨y1,hy1,g1,g2,g3⟩:=M.ol p List.mem_cons_self q (List.mem_of_getElem? hq) he
  have ey:y1=y:=by
   obtain⟨j1,hj1⟩:=List.getElem?_of_mem hy1
   have o1:=(VA.own I.a hj1).2
   have o2:=(VA.own I.a hy).2
   rw[g1] at o1
   rw[e1,o1] at o2
   have e3:(j1:Int)=(k:Int):=Option.some.inj o2
   have e4:j1=k:=by omega
   subst e4
   rw[hj1] at hy
   exact Option.some.inj hy
  subst ey
  have fp:qba c p=true:=D.1 ⟨q,List.mem_of_getElem? hq,he⟩
  rw[List.filter_cons_of_pos fp,List.length_cons] at Me
  have le:=pm.length_eq
  rw[List.length_set] at le
  have hk:=qai hy
  have stay:∀ z∈o.ev,z.k≠p.id→z∈(qaR o.ev o.wh k y1 (qaf s c.tn c.td p).1 (qaf s c.tn c.td p).2.1).1:=fun z hz hne=>by
   obtain⟨i,hi⟩:=List.getElem?_of_mem hz
   have hne2:k≠i:=fun e=>by
    subst e
    rw[hy] at hi
    have e5:=Option.some.inj hi
    subst e5
    exact hne g3
   refine pm.mem_iff.2 (List.mem_of_getElem? (i:=i) ?_)
   rw[List.getElem?_set,if_neg hne2]
   exact hi
  have new:(⟨(qaf s c.tn c.td p).1,(qaf s c.tn c.td p).2.1,y1.k,y1.i,y1.w⟩:Ev)∈(qaR o.ev o.wh k y1 (qaf s c.tn c.td p).1 (qaf s c.tn c.td p).2.1).1:=
   pm.mem_iff.2 (List.mem_of_getElem? (i:=k) (by rw[List.getElem?_set,if_pos rfl,if_pos hk]))
  refine⟨?_,fun p' hp' q' hq' he'=>?_,by show (qaR _ _ _ _ _ _).1.length=_;simp only[List.length_append,List.length_cons,List.length_nil];omega⟩
  ·have K:=qgU (c:=c) (s:=s) (o2:={ o with ev:=(qaR o.ev o.wh k y1 (qaf s c.tn c.td p).1 (qaf s c.tn c.td p).2.1).1,wh:=(qaR o.ev o.wh k y1 (qaf s c.tn c.td p).1 (qaf s c.tn c.td p).2.1).2,d:=o.d++[q] }) I.a A M.f (fun p' hp' z hz hzk=>stay z hz (by rw[hzk];exact hm p' hp'))
   exact (K.snoc).2 f q _ (DueOk.mk' A new e1 e2 he g3 rfl rfl)
  ·obtain⟨y2,hy2,w1,w2,w3⟩:=M.ol p' (List.mem_cons_of_mem _ hp') q' hq' he'
   exact⟨y2,stay y2 hy2 (by rw[w3];exact hu p' hp'),w1,w2,w3⟩
 | @push u2 f2 b2 hi hw f hn ht=>
  obtain⟨k1,k2,k3,_⟩:=F.i.ok f
  have hz:cnE o.ev p.id=0:=by
   have h1:=P.V.v.lo p hp
   have h2:=P.V.v.hi p hp
   have h3:=P.V.v.nx
   unfold cnE
   rw[if_pos (by omega),if_neg]
   rintro⟨m,hm,e⟩
   exact I.nw m hm p List.mem_cons_self hn e
  obtain⟨A,pm,_,_⟩:=VA.push ⟨k2,k3⟩ k1 I.a hz ht
  have fp:¬ qba c p=true:=fun h=>by
   obtain⟨q,hq,he⟩:=D.2 h
   exact hn q hq he
  rw[List.filter_cons_of_neg fp] at Me
  have le:=pm.length_eq
  rw[List.length_append] at le
  simp only[List.length_cons,List.length_nil] at le
  refine⟨?_,fun p' hp' q' hq' he'=>?_,by show (qaY _ _ _).1.length=_;simp only[List.length_append,List.length_cons,List.length_nil];omega⟩
  ·have K:=qgU (c:=c) (s:=s) (o2:={ o with u:=u2,b:=b2,fr:=f2,ev:=(qaY o.ev o.wh ⟨(qaf s c.tn c.td p).1,(qaf s c.tn c.td p).2.1,p.id,hi,hw⟩).1,wh:=(qaY o.ev o.wh ⟨(qaf s c.tn c.td p).1,(qaf s c.tn c.td p).2.1,p.id,hi,hw⟩).2,d:=o.d++[⟨p.id,hi,hw⟩] }) I.a A M.f (fun p' hp' z hz hzk=>pm.mem_iff.2 (List.mem_append_left _ hz))
   exact (K.snoc).2 f _ _ (DueOk.mk' A (pm.mem_iff.2 (List.mem_append_right _ (List.mem_singleton.2 rfl))) rfl rfl rfl rfl rfl rfl)
  ·obtain⟨y2,hy2,w⟩:=M.ol p' (List.mem_cons_of_mem _ hp') q' hq' he'
   exact⟨y2,pm.mem_iff.2 (List.mem_append_left _ hy2),w⟩
 | @gone j k q y f hq he hf hy e1 e2=>
  obtain⟨A,pm,_⟩:=VA.without I.a hy
  obtain⟨y1,hy1,g1,g2,g3⟩:=M.ol p List.mem_cons_self q (List.mem_of_getElem? hq) he
  have ey:y1=y:=by
   obtain⟨j1,hj1⟩:=List.getElem?_of_mem hy1
   have o1:=(VA.own I.a hj1).2
   have o2:=(VA.own I.a hy).2
   rw[g1] at o1
   rw[e1,o1] at o2
   have e3:(j1:Int)=(k:Int):=Option.some.inj o2
   have e4:j1=k:=by omega
   subst e4
   rw[hj1] at hy
   exact Option.some.inj hy
  subst ey
  have fp:qba c p=true:=D.1 ⟨q,List.mem_of_getElem? hq,he⟩
  rw[List.filter_cons_of_pos fp,List.length_cons] at Me
  have le:=pm.length_eq
  rw[List.length_append] at le
  simp only[List.length_cons,List.length_nil] at le
  have stay:∀ z∈o.ev,z.k≠p.id→z∈(qaj o.ev o.wh k y1).1:=fun z hz hne=>by
   rcases List.mem_append.1 (pm.mem_iff.2 hz) with h | h
   ·exact h
   ·exfalso
    rw[List.mem_singleton.1 h] at hne
    exact hne g3
  refine⟨?_,fun p' hp' q' hq' he'=>?_,by show (qaj _ _ _ _).1.length=_;show _=o.d.length+_;omega⟩
  ·have K:=qgU (c:=c) (s:=s) (o2:={ o with b:=o.b.set y1.i.toNat false,fr:=o.fr++[y1.i],ev:=(qaj o.ev o.wh k y1).1,wh:=(qaj o.ev o.wh k y1).2 }) I.a A M.f (fun p' hp' z hz hzk=>stay z hz (by rw[hzk];exact hm p' hp'))
   exact (K.snoc).1 f
  ·obtain⟨y2,hy2,w1,w2,w3⟩:=M.ol p' (List.mem_cons_of_mem _ hp') q' hq' he'
   exact⟨y2,stay y2 hy2 (by rw[w3];exact hu p' hp'),w1,w2,w3⟩
 | skip f hn=>
  have fp:¬ qba c p=true:=fun h=>by
   obtain⟨q,hq,he⟩:=D.2 h
   exact hn q hq he
  rw[List.filter_cons_of_neg fp] at Me
  exact⟨(M.f.snoc).1 f,fun p' hp'=>M.ol p' (List.mem_cons_of_mem _ hp'),Me⟩
theorem AlRun.ok {c:Ck} {s:List Pt} (P:AlPre c s) {l:List Pt} {o:Ck} {r:Option Ck} (h:AlRun c s l o r):∀ {m:List Pt},m++l=c.l→AlInv c l o→AlMid c s m l o→∀ o',r=some o'→AlInv c [] o'∧AlMid c s c.l [] o':=by
 induction h with
 | nil o=>
  intro m hm I M o' e
  cases e
  rw[List.append_nil] at hm
  rw[← hm]
  exact⟨I,M⟩
 | @step p l o o2 r hs _ ih=>
  intro m hm I M o' e
  have hp:p∈c.l:=by rw[← hm];simp
  have nd:=P.V.v.up.nodup
  rw[← hm,List.map_append,List.map_cons,List.nodup_append] at nd
  obtain⟨_,nl,nm⟩:=nd
  rw[List.nodup_cons] at nl
  have hu:∀ p'∈l,p'.id≠p.id:=fun p' hp' e=>nl.1 (List.mem_map.2 ⟨p',hp',e⟩)
  have hmm:∀ p'∈m,p'.id≠p.id:=fun p' hp' e=>nm p'.id (List.mem_map.2 ⟨p',hp',rfl⟩) p.id List.mem_cons_self e
  exact ih (m:=m++[p]) (by rw[List.append_assoc];exact hm) (hs.inv P hp hu I) (hs.mid P hp hu hmm I M) o' e
 | full _=>intro m _ _ _ o' e;cases e
theorem V9.alter_ok {c:Ck} {s:List Pt} (P:AlPre c s) {o:Ck} (h:AlRun c s c.l { c with d:=[] } (some o)):V9 (alC c s o):=by
 have M0:AlMid c s [] c.l { c with d:=[] }:=⟨rfl,fun p hp q hq he=>by
  obtain⟨p',hp',_,y,hd⟩:=P.V.f.some q hq
  obtain⟨e1,e2⟩:=hd.own P.V.a
  obtain⟨j,_,hj⟩:=hd.at_
  exact⟨y,List.mem_of_getElem? hj,e1,e2,hd.k.trans (hd.id.symm.trans he)⟩,by
  have:=congrArg List.length P.V.f.ids
  rw[List.length_map,List.length_map] at this
  have e:=P.V.e
  show c.ev.length=0+_
  omega⟩
 obtain⟨I,M⟩:=h.ok P (m:=[]) rfl (qe6 P) M0 o rfl
 have e:=M.e
 exact⟨P.V.t,P.sv,P.V.v,P.kn,I.a,I.w,by simpa using e,M.f⟩
end Go.Proofs.YtkjaanhddkkodaaGreat

namespace Go.Proofs.YtkjaanhddkkodaaGreat
set_option maxRecDepth 100000
open Go.RowKit
def qil (c:Ck):Bool:=decide (40<c.l.length)||(decide (40<c.d.length)||(decide (¬ (c.s.length≤16∨64≤c.s.length∧c.s.length≤70))||qit c.u c.b c.fr c.ev c.wh))
theorem qk4 (c:Ck):Fn 26 8 [qan c] (qaq c) (.pv (.bool (qil c))) 0 []:=by
 unfold qil
 by_cases h1:40<c.l.length
 ·rw[dt h1]
  exact qD8 (g1:=dt (by omega))
 ·rw[df h1,Bool.false_or]
  by_cases h2:40<c.d.length
  ·rw[dt h2]
   exact qFk (g1:=df (by omega)) (g2:=dt (by omega))
  ·rw[df h2,Bool.false_or]
   rcases qhZ c.s with ⟨h3,hG⟩ | ⟨h3,hG⟩
   ·rw[dt h3]
    exact qF1 (g1:=df (by omega)) (g2:=df (by omega)) (hf:=hG)
   ·rw[df fun h=>h h3,Bool.false_or]
    have hA:=qmc (u:=c.u) (b:=c.b) (fr:=c.fr) (ev:=c.ev) (wh:=c.wh)
    cases e:qit c.u c.b c.fr c.ev c.wh
    ·rw[e] at hA
     exact qzF (g1:=df (by omega)) (g2:=df (by omega)) (hf:=hG) (hg:=hA)
    ·rw[e] at hA
     exact qE5 (g1:=df (by omega)) (g2:=df (by omega)) (hf:=hG) (hg:=hA)
theorem qn0 {c:Ck} (h:qil c=false) (h1:I64 c.tn) (h2:I64 c.td) (hi:∀ y∈c.ev,EvI y):S9 c∧c.l.length≤40∧c.d.length≤40∧c.s.length≤70:=by
 unfold qil at h
 rw[Bool.or_eq_false_iff,Bool.or_eq_false_iff,Bool.or_eq_false_iff] at h
 obtain⟨a1,a2,a3,a4⟩:=h
 have b1:=of_decide_eq_false a1
 have b2:=of_decide_eq_false a2
 have b3:c.s.length≤16∨64≤c.s.length∧c.s.length≤70:=Classical.byContradiction fun h=>by
  rw[dt h] at a3
  cases a3
 unfold qit at a4
 rw[Bool.or_eq_false_iff,Bool.or_eq_false_iff] at a4
 obtain⟨g1,g2,g3⟩:=a4
 have g2:=of_decide_eq_false g2
 have g3:=of_decide_eq_false g3
 obtain⟨k1,k2,k3⟩:=qeC g1
 exact⟨⟨h1,h2,by omega,by omega,⟨k1,k2,k3,by omega,by omega,hi⟩⟩,by omega,by omega,by omega⟩
end Go.Proofs.YtkjaanhddkkodaaGreat

namespace Go.Proofs.YtkjaanhddkkodaaGreat
set_option maxRecDepth 100000
open Go.RowKit
abbrev qB4 (f:FuncId) (s:List Pt) (tn td:Int):Prop:=Fn f 1 [qaB 0 s,.pv (qab tn td)] [(0,0,qam s)] (.tu [.ag [.pv (iV tn),.pv (iV td),.ls 1 s.length,.pv (iV 0),.ls 7 0,.ls 2 (qf2 s tn td).u.length,.ls 3 (qf2 s tn td).b.length,.ls 4 (qf2 s tn td).fr.length,.ls 6 0,.ls 5 (qf2 s tn td).wh.length,.ls 8 0],.one (.pv (iV 0))]) 8 [(8,0,qaQ []),(7,0,qak []),(1,0,qam s),(2,0,zrI (qf2 s tn td).u),(3,0,zrB (qf2 s tn td).b),(4,0,zrI (qf2 s tn td).fr),(5,0,zrI (qf2 s tn td).wh),(6,0,qap [])]
structure Prog9:Prop where
 new:∀ {s:List Pt} {tn td:Int},I64 tn→I64 td→(tE s tn td≠0→qB0 10 s tn td (tE s tn td))∧(tE s tn td=0→qB4 10 s tn td)
 check:∀ {c:Ck},S9 c→c.s.length≤70→Fn 22 8 [qan c] (qaq c) (.pv (iV (qmJ c))) 0 []
 certify:∀ {c:Ck},S9 c→c.s.length≤70→∀ a b,(cyE c a b≠0→qza 16 c a b (cyE c a b))∧(cyE c a b=0→∀ o,qz8 c a b o→qHg 16 c a b o)
 retire:∀ {c:Ck},S9 c→c.s.length≤70→∀ n,(reE c n≠0→qAT 17 c n (reE c n))∧(reE c n=0→∀ o,qeK c n o→qG9 17 c n o)
 next:∀ {c:Ck},S9 c→c.s.length≤70→(¬ V9 c→Fn 18 8 [qan c] (qaq c) (.pv (.tuple #[evZ,iV 8])) 0 [])∧(V9 c→c.ev=[]→Fn 18 8 [qan c] (qaq c) (.pv (.tuple #[evZ,iV 42])) 0 [])∧(V9 c→∀ y,c.ev[0]?=some y→Fn 18 8 [qan c] (qaq c) (.pv (.tuple #[qaa y,iV 0])) 0 [])
 fail:∀ {c:Ck},S9 c→c.s.length≤70→∀ {tn td:Int},I64 tn→I64 td→(faE c tn td≠0→qoS 19 c tn td (faE c tn td))∧(faE c tn td=0→∀ y p o,qdF c y p o→qyJ 19 c tn td y p o)
 move:∀ {c:Ck},S9 c→c.s.length≤70→∀ {tn td:Int},I64 tn→I64 td→(moE c tn td≠0→qnr 20 c tn td (moE c tn td))∧(moE c tn td=0→qBr 20 c tn td)
 alter:∀ {c:Ck},S9 c→c.s.length≤70→∀ s:List Pt,s.length≤70→(qd4 c s≠0→qhy 21 c s (qd4 c s))∧(qd4 c s=0→∀ r,AlRun c s c.l { c with d:=[] } r→(∀ o,r=some o→qyy 21 c s o)∧(r=none→qhy 21 c s 18))
theorem qDQ {c:Ck} {tn td:Int} (h:faE c tn td=0):V9 c∧qjF c tn td=true:=by
 unfold faE at h
 split at h
 ·rename_i h1
  split at h
  ·rename_i h2;exact⟨(qfN h1).1,h2⟩
  ·cases h
 ·rename_i h1;exact (h1 h).elim
theorem qGt {c:Ck} {tn td:Int} (h:moE c tn td=0):V9 c:=by
 unfold moE at h
 split at h
 ·rename_i h1;exact (qfN h1).1
 ·rename_i h1;exact (h1 h).elim
theorem qm1 {c o:Ck} {n:Int} (h:qeK c n o):o.tn=c.tn∧o.td=c.td∧o.s=c.s:=by
 rcases h with ⟨_,rfl⟩ | ⟨_,_,_,_,_,_,_,_,_,_,rfl⟩<;>exact⟨rfl,rfl,rfl⟩
end Go.Proofs.YtkjaanhddkkodaaGreat
