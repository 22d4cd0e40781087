/-
  Joined: Ll, Lq, Lr, Lu, Ba. Conditions: none.
-/
import Derived.Test.YtkckcgpmnipnaaaGreatW34
import Derived.Test.YtkckcgpmnipnaaaGreatW16
namespace Go.Proofs.YtkckcgpmnipnaaaGreat
set_option maxRecDepth 100000
open Go.RowKit
abbrev alH (c:Ck) (s:List Pt) (o:Ck) (d:List Pt):List (Nat×Nat×SV):=[(9,0,.pv (iV c.tn)),(9,1,.pv (iV c.td)),(9,2,.ls 0 c.s.length),(9,3,.pv (iV c.x)),(9,4,.ls 1 c.l.length),(9,5,.ls 2 c.u.length),(9,6,.ls 3 c.b.length),(9,7,.ls 4 c.fr.length),(9,8,.ls 5 c.ev.length),(9,9,.ls 6 c.wh.length),(9,10,.ls 7 c.d.length),(0,0,qaf c.s),(1,0,qak c.l),(2,0,zrI c.u),(3,0,zrB c.b),(4,0,zrI c.fr),(5,0,qap c.ev),(6,0,zrI c.wh),(7,0,qaH c.d),(10,0,.ls 8 s.length),(8,0,qaf s),(11,0,.pv (iV 0)),(11,1,.pv (iV 0)),(11,2,.pv (.slice none 0 0)),(11,3,.pv (iV 0)),(11,4,.pv (.slice none 0 0)),(11,5,.pv (.slice none 0 0)),(11,6,.pv (.slice none 0 0)),(11,7,.pv (.slice none 0 0)),(11,8,.pv (.slice none 0 0)),(11,9,.pv (.slice none 0 0)),(11,10,.pv (.slice none 0 0)),(20,0,.pv (iV c.tn)),(20,1,.pv (iV c.td)),(20,2,.ls 21 s.length),(20,3,.pv (iV c.x)),(20,4,.ls 13 c.l.length),(20,5,.ls 14 o.u.length),(20,6,.ls 15 o.b.length),(20,7,.ls 16 o.fr.length),(20,8,.ls 17 o.ev.length),(20,9,.ls 18 o.wh.length),(20,10,.ls 22 (d).length),(21,0,qaf s),(13,0,qak c.l),(14,0,zrI o.u),(15,0,zrB o.b),(16,0,zrI o.fr),(17,0,qap o.ev),(18,0,zrI o.wh),(22,0,qaH (d))]
abbrev alE (c:Ck) (s:List Pt) (o:Ck) (d:List Pt):List (Nat×Nat×SV):=[(11,0,.pv (iV 0)),(11,1,.pv (iV 0)),(11,2,.pv (.slice none 0 0)),(11,3,.pv (iV 0)),(11,4,.pv (.slice none 0 0)),(11,5,.pv (.slice none 0 0)),(11,6,.pv (.slice none 0 0)),(11,7,.pv (.slice none 0 0)),(11,8,.pv (.slice none 0 0)),(11,9,.pv (.slice none 0 0)),(11,10,.pv (.slice none 0 0)),(20,0,.pv (iV c.tn)),(20,1,.pv (iV c.td)),(20,2,.ls 21 s.length),(20,3,.pv (iV c.x)),(20,4,.ls 13 c.l.length),(20,5,.ls 14 o.u.length),(20,6,.ls 15 o.b.length),(20,7,.ls 16 o.fr.length),(20,8,.ls 17 o.ev.length),(20,9,.ls 18 o.wh.length),(20,10,.ls 22 (d).length),(21,0,qaf s),(13,0,qak c.l),(14,0,zrI o.u),(15,0,zrB o.b),(16,0,zrI o.fr),(17,0,qap o.ev),(18,0,zrI o.wh),(22,0,qaH (d))]
abbrev alZ:List (Nat×Nat×SV):=[(11,0,.pv (iV 0)),(11,1,.pv (iV 0)),(11,2,.pv (.slice none 0 0)),(11,3,.pv (iV 0)),(11,4,.pv (.slice none 0 0)),(11,5,.pv (.slice none 0 0)),(11,6,.pv (.slice none 0 0)),(11,7,.pv (.slice none 0 0)),(11,8,.pv (.slice none 0 0)),(11,9,.pv (.slice none 0 0)),(11,10,.pv (.slice none 0 0))]
abbrev alT (k:Nat):List (Nat×SV):=[(2,.pp 9 0),(3,.pp 10 0),(4,.pp 11 0),(6,.pp 20 0),(7,.pv (iV (k:Int)))]
inductive AlStep (c:Ck) (s:List Pt) (p:Pt) (o:Ck):Ck→Prop where
 | key {j k:Nat} {q:Pt} {y:Ev} (f:(qai s c.tn c.td p).2.2=true) (hq:c.d[j]?=some q) (he:q.id=p.id) (hf:∀ (i:Nat) (p':Pt),i<j→c.d[i]?=some p'→p'.id≠p.id) (hy:o.ev[k]?=some y) (e1:y.i=q.a) (e2:y.w=q.b) :
  AlStep c s p o { o with ev:=(qaW o.ev o.wh k y (qai s c.tn c.td p).1 (qai s c.tn c.td p).2.1).1,wh:=(qaW o.ev o.wh k y (qai s c.tn c.td p).1 (qai s c.tn c.td p).2.1).2,d:=o.d++[q] }
 | push {u2 f2:List Int} {b2:List Bool} {hi hw:Int} (f:(qai s c.tn c.td p).2.2=true) (hn:∀ q∈c.d,q.id≠p.id) (ht:qbx o.u o.b o.fr=some (u2,b2,f2,hi,hw)) :
  AlStep c s p o { o with u:=u2,b:=b2,fr:=f2,ev:=(qa2 o.ev o.wh ⟨(qai s c.tn c.td p).1,(qai s c.tn c.td p).2.1,p.id,hi,hw⟩).1,wh:=(qa2 o.ev o.wh ⟨(qai s c.tn c.td p).1,(qai s c.tn c.td p).2.1,p.id,hi,hw⟩).2,d:=o.d++[⟨p.id,hi,hw⟩] }
 | gone {j k:Nat} {q:Pt} {y:Ev} (f:(qai s c.tn c.td p).2.2=false) (hq:c.d[j]?=some q) (he:q.id=p.id) (hf:∀ (i:Nat) (p':Pt),i<j→c.d[i]?=some p'→p'.id≠p.id) (hy:o.ev[k]?=some y) (e1:y.i=q.a) (e2:y.w=q.b) :
  AlStep c s p o { o with b:=o.b.set y.i.toNat false,fr:=o.fr++[y.i],ev:=(qam o.ev o.wh k y).1,wh:=(qam o.ev o.wh k y).2 }
 | skip (f:(qai s c.tn c.td p).2.2=false) (hn:∀ q∈c.d,q.id≠p.id):AlStep c s p o o
def quy (c:Ck) (s:List Pt) (p:Pt) (o:Ck):Prop:=(qai s c.tn c.td p).2.2=true∧(∀ q∈c.d,q.id≠p.id)∧qbx o.u o.b o.fr=none
inductive AlRun (c:Ck) (s:List Pt):List Pt→Ck→Option Ck→Prop where
 | nil (o:Ck):AlRun c s [] o (some o)
 | step {p:Pt} {l:List Pt} {o o2:Ck} {r:Option Ck}:AlStep c s p o o2→AlRun c s l o2 r→AlRun c s (p::l) o r
 | full {p:Pt} {l:List Pt} {o:Ck}:quy c s p o→AlRun c s (p::l) o none
structure AlInv (c:Ck) (l:List Pt) (o:Ck):Prop where
 a:VA o.u o.b o.fr o.ev o.wh
 lv:∀ p∈l,∀ q∈c.d,q.id=p.id→Live o.u o.b q.a q.b
 nw:∀ y∈o.ev,∀ p∈l,(∀ q∈c.d,q.id≠p.id)→y.k≠p.id
 sz:o.d.length+l.length≤1000
 w:o.wh.length=200
structure AlPre (c:Ck) (s:List Pt):Prop where
 S:S9 c
 V:V9 c
 sv:Val s
 kn:qdl c.l s
theorem qxM {c:Ck} (V:V9 c) {q q':Pt} (hq:q∈c.d) (hq':q'∈c.d) (h:q.id≠q'.id):q.a≠q'.a:=by
 intro e;obtain⟨p,_,_,y,d1⟩:=V.f.some q hq;obtain⟨p',_,_,y',d2⟩:=V.f.some q' hq';obtain⟨w,w1,w2⟩:=d1.at_;obtain⟨w',w1',w2'⟩:=d2.at_;rw[e,w1'] at w1;have e2:(w':Int)=(w:Int):=Option.some.inj w1
 have e3:w'=w:=by omega
 subst e3;rw[w2] at w2';have e4:y=y':=Option.some.inj w2';subst e4;exact h (d1.id.trans (d1.k.symm.trans (d2.k.trans d2.id.symm)))
theorem qmW {c:Ck} (V:V9 c) {i j:Nat} {q q':Pt} (hq:c.d[i]?=some q) (hq':c.d[j]?=some q') (h:q.id=q'.id):i=j:=by
 have nd:=V.due_nodup;rw[List.nodup_iff_pairwise_ne,List.pairwise_iff_getElem] at nd;have hi:=qan hq;have hj:=qan hq';obtain⟨_,e1⟩:=List.getElem?_eq_some_iff.1 hq;obtain⟨_,e2⟩:=List.getElem?_eq_some_iff.1 hq'
 rcases Nat.lt_trichotomy i j with hij | hij | hij
 ·have:=nd i j (by simpa using hi) (by simpa using hj) hij;rw[List.getElem_map,List.getElem_map,e1,e2] at this;exact (this h).elim
 ·exact hij
 ·have:=nd j i (by simpa using hj) (by simpa using hi) hij;rw[List.getElem_map,List.getElem_map,e1,e2] at this;exact (this h.symm).elim
theorem qCI (c:Ck) (n:Int):(∀ q∈c.d,q.id≠n)∨∃ (j:Nat) (q:Pt),c.d[j]?=some q∧q.id=n∧∀ (i:Nat) (p:Pt),i<j→c.d[i]?=some p→p.id≠n:=by
 rcases qa3 (fun k=>∀ q,c.d[k]?=some q→q.id≠n) c.d.length with h | ⟨k,hk,hb,hf⟩
 ·refine Or.inl fun q hq=>?_
  obtain⟨k,hk⟩:=List.getElem?_of_mem hq;exact h k (qan hk) q hk
 ·simp only[Classical.not_forall,Classical.not_not] at hb;obtain⟨q,hq,he⟩:=hb;exact Or.inr ⟨k,q,hq,he,fun i p hi hp=>hf i hi p hp⟩
theorem AlPre.fail {c:Ck} {s:List Pt} (P:AlPre c s) {p:Pt} (hp:p∈c.l):FailT s c.tn c.td p:=qcf P.S.tn P.S.td P.V.t P.sv (P.V.v.ok p hp) (P.kn p hp).1 (P.kn p hp).2
theorem AlStep.inv {c:Ck} {s:List Pt} (P:AlPre c s) {p:Pt} {l:List Pt} {o o2:Ck} (hp:p∈c.l) (hu:∀ p'∈l,p'.id≠p.id) (I:AlInv c (p::l) o) (h:AlStep c s p o o2):AlInv c l o2:=by
 have F:=P.fail hp;have sz:=I.sz;rw[List.length_cons] at sz;have wl:=I.w;have l0:=I.a.lens
 cases h with
 | @key j k q y f hq he hf hy e1 e2=>
  obtain⟨k1,k2,k3,_⟩:=F.i.ok f;obtain⟨A,pm⟩:=VA.rekey ⟨k2,k3⟩ k1 I.a hy;have l1:=A.lens;refine⟨A,fun p' hp'=>I.lv p' (List.mem_cons_of_mem _ hp'),fun y2 hy2 p' hp' hn=>?_,by simp;omega,by show (qaW _ _ _ _ _ _).2.length=200;omega⟩
  rcases List.mem_or_eq_of_mem_set (pm.mem_iff.1 hy2) with h | h
  ·exact I.nw y2 h p' (List.mem_cons_of_mem _ hp') hn
  ·rw[h];exact I.nw y (List.mem_of_getElem? hy) p' (List.mem_cons_of_mem _ hp') hn
 | @push u2 f2 b2 hi hw f hn ht=>
  obtain⟨k1,k2,k3,_⟩:=F.i.ok f
  have hz:cnE o.ev p.id=0:=by
   have h1:=P.V.v.lo p hp;have h2:=P.V.v.hi p hp;have h3:=P.V.v.nx;unfold cnE;rw[if_pos (by omega),if_neg];rintro⟨m,hm,e⟩;exact I.nw m hm p List.mem_cons_self hn e
  obtain⟨A,pm,_,lvp⟩:=VA.push ⟨k2,k3⟩ k1 I.a hz ht;have l1:=A.lens;obtain⟨_,_,_,_,eu,_,_,_⟩:=qbp ht
  have lu:u2.length=o.u.length:=by rw[eu,List.length_set]
  refine⟨A,fun p' hp' q' hq' he'=>lvp _ _ (I.lv p' (List.mem_cons_of_mem _ hp') q' hq' he'),fun y2 hy2 p' hp' hn'=>?_,by simp;omega,by show (qa2 _ _ _).2.length=200;omega⟩
  rcases List.mem_append.1 (pm.mem_iff.1 hy2) with h | h
  ·exact I.nw y2 h p' (List.mem_cons_of_mem _ hp') hn'
  ·rw[List.mem_singleton.1 h]
   exact fun e=>hu p' hp' e.symm
 | @gone j k q y f hq he hf hy e1 e2=>
  obtain⟨A,pm,lvw⟩:=VA.without I.a hy;have l1:=A.lens;refine⟨A,fun p' hp' q' hq' he'=>(lvw _ _).2 ⟨I.lv p' (List.mem_cons_of_mem _ hp') q' hq' he',?_⟩,fun y2 hy2 p' hp' hn'=>I.nw y2 (pm.mem_iff.1 (List.mem_append_left _ hy2)) p' (List.mem_cons_of_mem _ hp') hn',by show o.d.length+l.length≤1000;omega,by show (qam _ _ _ _).2.length=200;omega⟩;rw[e1];exact qxM P.V hq' (List.mem_of_getElem? hq) (by have:=hu p' hp';omega)
 | skip f hn=>exact⟨I.a,fun p' hp'=>I.lv p' (List.mem_cons_of_mem _ hp'),fun y hy p' hp'=>I.nw y hy p' (List.mem_cons_of_mem _ hp'),by omega,I.w⟩
theorem qmC {c:Ck} {s:List Pt} {p:Pt} {l:List Pt} {o:Ck} (I:AlInv c (p::l) o):quy c s p o∨∃ o2,AlStep c s p o o2:=by
 rcases qCI c p.id with hn | ⟨j,q,hq,he,hf⟩
 ·cases f:(qai s c.tn c.td p).2.2
  ·exact Or.inr ⟨_,.skip f hn⟩
  ·cases ht:qbx o.u o.b o.fr with
   | none=>exact Or.inl ⟨f,hn,ht⟩
   | some z=>
    obtain⟨u2,b2,f2,hi,hw⟩:=z;exact Or.inr ⟨_,.push f hn ht⟩
 ·obtain⟨k,y,_,h2,h3,h4⟩:=VA.find I.a (I.lv p List.mem_cons_self q (List.mem_of_getElem? hq) he);cases f:(qai s c.tn c.td p).2.2
  ·exact Or.inr ⟨_,.gone f hq he hf h2 h3 h4⟩
  ·exact Or.inr ⟨_,.key f hq he hf h2 h3 h4⟩
theorem qiv {c:Ck} {s:List Pt} (P:AlPre c s):∀ (l:List Pt) (o:Ck),(∀ p∈l,p∈c.l)→(l.map Pt.id).Nodup→AlInv c l o→∃ r,AlRun c s l o r
 | [],o,_,_,_=>⟨_,.nil o⟩
 | p::l,o,hl,nd,I=>by
  rw[List.map_cons,List.nodup_cons] at nd
  rcases qmC (s:=s) I with h | ⟨o2,h⟩
  ·exact⟨_,.full h⟩
  ·have hu:∀ p'∈l,p'.id≠p.id:=fun p' hp' e=>nd.1 (List.mem_map.2 ⟨p',hp',e⟩)
   obtain⟨r,hr⟩:=qiv P l o2 (fun p' hp'=>hl p' (List.mem_cons_of_mem _ hp')) nd.2 (h.inv P (hl p List.mem_cons_self) hu I);exact⟨r,.step h hr⟩
theorem qvR {c:Ck} {s:List Pt} (P:AlPre c s):∀ (n k:Nat) (o:Ck) (r:Option Ck),k+n=c.l.length→((c.l.drop k).map Pt.id).Nodup→AlInv c (c.l.drop k) o→AlRun c s (c.l.drop k) o r→
 (∀ o',r=some o'→Rl 9 9 146 0 122 23 (alT k) (alH c s o o.d) (.exit 0) [(4,.pp 11 0),(6,.pp 20 0)] (alE c s o' o'.d))∧
 (r=none→Rl 9 9 146 0 122 23 (alT k) (alH c s o o.d) .ret [(4,.pp 11 0),(5,.pv (iV 18))] alZ):=by
 intro n
 induction n with
 | zero=>
  intro k o r hkn _ _ hr;rw[List.drop_eq_nil_of_le (show c.l.length≤k by omega)] at hr;cases hr;refine⟨fun o' h=>?_,fun h=>by cases h⟩;cases h;exact qxB (df (by omega))
 | succ n ih=>
  intro k o r hkn nd I hr
  have hlk:k<c.l.length:=by omega
  obtain⟨p,hp⟩:=qah hlk;have hmem:=List.mem_of_getElem? hp;have hdr:=qaP hp;have hl:=P.S.l;have lk:decide ((k:Int)<(c.l.length:Int))=true:=dt (by omega);have W:=qnN P.S.tn P.S.td P.V.t P.sv (P.V.v.ok p hmem) (P.kn p hmem).1 (P.kn p hmem).2;have F:=P.fail hmem;rw[hdr] at nd I hr;rw[List.map_cons,List.nodup_cons] at nd
  have hu:∀ p'∈c.l.drop (k+1),p'.id≠p.id:=fun p' hp' e=>nd.1 (List.mem_map.2 ⟨p',hp',e⟩)
  have sz:=I.sz
  cases hr with
  | full h=>
   obtain⟨f,hn,ht⟩:=h;rw[f] at W;refine⟨fun o' h=>(by cases h),fun _=>?_⟩;exact qq8 hp (qal hlk) lk (qd5 P.S hn) W (qgL I.a.vd ht)
  | @step _ _ _ o2 _ h hr=>
   have I2:=h.inv P hmem hu I;have nx:=ih (k+1) o2 r (by omega) nd.2 I2 hr
   have st:∀ {e:Exit} {tm2:TmL} {hp2:HpL},Rl 9 9 146 0 122 23 (alT (k+1)) (alH c s o2 o2.d) e tm2 hp2→Rl 9 9 146 0 122 23 (alT k) (alH c s o o.d) e tm2 hp2:=by
    intro e tm2 hp2 r
    cases h with
    | @key j k' q y f hq he hf hy e1 e2=>
     rw[f] at W;obtain⟨k1,k2,k3,_⟩:=F.i.ok f;have R:=qip I.a hy ⟨k2,k3⟩ k1;rw[e1,e2] at R;exact qx1 (o:=o) (r9:={ o with ev:=(qaW o.ev o.wh k' y (qai s c.tn c.td p).1 (qai s c.tn c.td p).2.1).1,wh:=(qaW o.ev o.wh k' y (qai s c.tn c.td p).1 (qai s c.tn c.td p).2.1).2 }) hp (qal hlk) lk (qem P.S hq he hf) W hq (qal (qan hq)) (dt (by omega)) R (by omega) (qag (by omega)) r
    | @push u2 f2 b2 hi hw f hn ht=>
     rw[f] at W;obtain⟨k1,k2,k3,_⟩:=F.i.ok f;have h1:=P.V.v.lo p hmem;have h2:=P.V.v.hi p hmem;have h3:=P.V.v.nx;have R:=qfL (z:=p.id) ⟨k2,k3⟩ k1 I.a (by omega) ht;exact qsS (o:=o) (r9:={ o with u:=u2,b:=b2,fr:=f2,ev:=(qa2 o.ev o.wh ⟨(qai s c.tn c.td p).1,(qai s c.tn c.td p).2.1,p.id,hi,hw⟩).1,wh:=(qa2 o.ev o.wh ⟨(qai s c.tn c.td p).1,(qai s c.tn c.td p).2.1,p.id,hi,hw⟩).2 }) hp (qal hlk) lk (qd5 P.S hn) W (qgI I.a.vd ht) R (by omega) (qag (by omega)) r
    | @gone j k' q y f hq he hf hy e1 e2=>
     rw[f] at W;have R:=qeM I.a hy;rw[e1,e2] at R;rw[e1] at r;exact qsx (o:=o) (r9:={ o with b:=o.b.set q.a.toNat false,fr:=o.fr++[q.a],ev:=(qam o.ev o.wh k' y).1,wh:=(qam o.ev o.wh k' y).2 }) hp (qal hlk) lk (qem P.S hq he hf) W hq (qal (qan hq)) (dt (by omega)) R (qag (by omega)) r
    | skip f hn=>
     rw[f] at W;exact qq6 hp (qal hlk) lk (qd5 P.S hn) W (qag (by omega)) r
   exact⟨fun o' e=>st (nx.1 o' e),fun e=>st (nx.2 e)⟩
abbrev qmi (f:FuncId) (c:Ck) (s:List Pt) (e:Int):Prop:=Fn f 9 [qar c,qaq 8 s] (qaA c++[(8,0,qaf s)]) (.pv (.tuple #[qbt,iV e])) 0 []
abbrev qJC (c:Ck) (s:List Pt) (o:Ck):S1:=.ag [.pv (iV c.tn),.pv (iV c.td),.ls 9 s.length,.pv (iV c.x),.ls 10 c.l.length,.ls 11 o.u.length,.ls 12 o.b.length,.ls 13 o.fr.length,.ls 14 o.ev.length,.ls 15 o.wh.length,.ls 16 o.d.length]
abbrev qJN (c:Ck) (s:List Pt) (o:Ck):List (Nat×Nat×SV):=[(9,0,qaf s),(10,0,qak c.l),(11,0,zrI o.u),(12,0,zrB o.b),(13,0,zrI o.fr),(14,0,qap o.ev),(15,0,zrI o.wh),(16,0,qaH o.d)]
abbrev qEm (f:FuncId) (c:Ck) (s:List Pt) (o:Ck):Prop:=Fn f 9 [qar c,qaq 8 s] (qaA c++[(8,0,qaf s)]) (.tu [qJC c s o,.one (.pv (iV 0))]) 8 (qJN c s o)
theorem qe7 {c:Ck} {s:List Pt} (P:AlPre c s):AlInv c c.l { c with d:=[] } where
 a:=P.V.a
 lv:=fun p _ q hq _=>by
  obtain⟨_,_,_,y,hd⟩:=P.V.f.some q hq;exact hd.lv
 nw:=fun y hy p hp hn e=>by
  obtain⟨j,hj⟩:=List.getElem?_of_mem hy;obtain⟨p',hp',_,q,hq,hd⟩:=P.V.ev hj;exact hn q hq (hd.id.trans (hd.k.symm.trans e))
 sz:=by have:=P.S.l;simp;omega
 w:=P.V.w
theorem qic {c:Ck} {s:List Pt} (P:AlPre c s) {r:Option Ck} (hr:AlRun c s c.l { c with d:=[] } r):(∀ o,r=some o→qEm 146 c s o)∧(r=none→qmi 146 c s 18):=by
 have h:=qvR P c.l.length 0 { c with d:=[] } r (Nat.zero_add _) (by rw[List.drop_zero];exact P.V.v.up.nodup) (qe7 P) hr;have hs:=P.sv.len;have hs2:=P.V.s.len;exact⟨fun o e=>qB7 (o:=o) (qgT P.S (by omega)) (qho (by omega)) (h.1 o e),fun e=>qwl (qgT P.S (by omega)) (qho (by omega)) (h.2 e)⟩
noncomputable def qmr (c:Ck) (s:List Pt):Int:=open Classical in if V9 c then (if qeQ s=0 then (if qdl c.l s then 0 else 6) else qeQ s) else 8
end Go.Proofs.YtkckcgpmnipnaaaGreat

namespace Go.Proofs.YtkckcgpmnipnaaaGreat
set_option maxRecDepth 100000
open Go.RowKit
abbrev alC (c:Ck) (s:List Pt) (o:Ck):Ck:={ o with tn:=c.tn,td:=c.td,s:=s,x:=c.x,l:=c.l }
structure AlMid (c:Ck) (s:List Pt) (m l:List Pt) (o:Ck):Prop where
 f:DueF (alC c s o) m o.d
 ol:∀ p∈l,∀ q∈c.d,q.id=p.id→∃ y∈o.ev,y.i=q.a∧y.w=q.b∧y.k=p.id
 e:o.ev.length=o.d.length+(l.filter (qa6 c)).length
theorem V9.due_iff {c:Ck} (V:V9 c) {p:Pt} (hp:p∈c.l):(∃ q∈c.d,q.id=p.id)↔qa6 c p=true:=by
 constructor
 ·rintro⟨q,hq,he⟩;obtain⟨p',hp',f,y,hd⟩:=V.f.some q hq;obtain⟨i,hi⟩:=List.getElem?_of_mem hp;obtain⟨j,hj⟩:=List.getElem?_of_mem hp';have:=(qtS V.v.up hi hj (he.symm.trans hd.id)).2;rw[this];exact f
 ·intro f;obtain⟨q,hq,y,hy⟩:=V.f.all p hp f;exact⟨q,hq,hy.id⟩
theorem qhe {c:Ck} {s m:List Pt} {o o2:Ck} (A:VA o.u o.b o.fr o.ev o.wh) (A2:VA o2.u o2.b o2.fr o2.ev o2.wh) (h:DueF (alC c s o) m o.d) (hk:∀ p∈m,∀ y∈o.ev,y.k=p.id→y∈o2.ev):DueF (alC c s o2) m o.d:=
 DueF.map (c:=alC c s o) (fun _ _=>rfl) (fun p hp _ _ ⟨y,hy⟩=>by
  obtain⟨e1,e2⟩:=DueOk.own hy A;obtain⟨j,_,hj⟩:=hy.at_
  exact⟨y,DueOk.mk' (c:=alC c s o2) A2 (hk p hp y (List.mem_of_getElem? hj) hy.k) e1 e2 hy.id hy.k hy.n hy.d⟩) h
theorem AlStep.mid {c:Ck} {s:List Pt} (P:AlPre c s) {p:Pt} {m l:List Pt} {o o2:Ck} (hp:p∈c.l) (hu:∀ p'∈l,p'.id≠p.id) (hm:∀ p'∈m,p'.id≠p.id) (I:AlInv c (p::l) o) (M:AlMid c s m (p::l) o) (h:AlStep c s p o o2):AlMid c s (m++[p]) l o2:=by
 have F:=P.fail hp;have D:=P.V.due_iff hp;have I2:=h.inv P hp hu I;have Me:=M.e
 cases h with
 | @key j k q y f hq he hf hy e1 e2=>
  obtain⟨k1,k2,k3,_⟩:=F.i.ok f;obtain⟨A,pm⟩:=VA.rekey ⟨k2,k3⟩ k1 I.a hy;obtain⟨y1,hy1,g1,g2,g3⟩:=M.ol p List.mem_cons_self q (List.mem_of_getElem? hq) he
  have ey:y1=y:=by
   obtain⟨j1,hj1⟩:=List.getElem?_of_mem hy1;have o1:=(VA.own I.a hj1).2;have o2:=(VA.own I.a hy).2;rw[g1] at o1;rw[e1,o1] at o2;have e3:(j1:Int)=(k:Int):=Option.some.inj o2
   have e4:j1=k:=by omega
   subst e4;rw[hj1] at hy;exact Option.some.inj hy
  subst ey;have fp:qa6 c p=true:=D.1 ⟨q,List.mem_of_getElem? hq,he⟩;rw[List.filter_cons_of_pos fp,List.length_cons] at Me;have le:=pm.length_eq;rw[List.length_set] at le;have hk:=qan hy
  have stay:∀ z∈o.ev,z.k≠p.id→z∈(qaW o.ev o.wh k y1 (qai s c.tn c.td p).1 (qai s c.tn c.td p).2.1).1:=fun z hz hne=>by
   obtain⟨i,hi⟩:=List.getElem?_of_mem hz
   have hne2:k≠i:=fun e=>by
    subst e;rw[hy] at hi;have e5:=Option.some.inj hi;subst e5;exact hne g3
   refine pm.mem_iff.2 (List.mem_of_getElem? (i:=i) ?_);rw[List.getElem?_set,if_neg hne2];exact hi
  have new:(⟨(qai s c.tn c.td p).1,(qai s c.tn c.td p).2.1,y1.k,y1.i,y1.w⟩:Ev)∈(qaW o.ev o.wh k y1 (qai s c.tn c.td p).1 (qai s c.tn c.td p).2.1).1:=
   pm.mem_iff.2 (List.mem_of_getElem? (i:=k) (by rw[List.getElem?_set,if_pos rfl,if_pos hk]))
  refine⟨?_,fun p' hp' q' hq' he'=>?_,by show (qaW _ _ _ _ _ _).1.length=_;simp only[List.length_append,List.length_cons,List.length_nil];omega⟩
  ·have K:=qhe (c:=c) (s:=s) (o2:={ o with ev:=(qaW o.ev o.wh k y1 (qai s c.tn c.td p).1 (qai s c.tn c.td p).2.1).1,wh:=(qaW o.ev o.wh k y1 (qai s c.tn c.td p).1 (qai s c.tn c.td p).2.1).2,d:=o.d++[q] }) I.a A M.f (fun p' hp' z hz hzk=>stay z hz (by rw[hzk];exact hm p' hp'));exact (K.snoc).2 f q _ (DueOk.mk' A new e1 e2 he g3 rfl rfl)
  ·obtain⟨y2,hy2,w1,w2,w3⟩:=M.ol p' (List.mem_cons_of_mem _ hp') q' hq' he';exact⟨y2,stay y2 hy2 (by rw[w3];exact hu p' hp'),w1,w2,w3⟩
 | @push u2 f2 b2 hi hw f hn ht=>
  obtain⟨k1,k2,k3,_⟩:=F.i.ok f
  have hz:cnE o.ev p.id=0:=by
   have h1:=P.V.v.lo p hp;have h2:=P.V.v.hi p hp;have h3:=P.V.v.nx;unfold cnE;rw[if_pos (by omega),if_neg];rintro⟨m,hm,e⟩;exact I.nw m hm p List.mem_cons_self hn e
  obtain⟨A,pm,_,_⟩:=VA.push ⟨k2,k3⟩ k1 I.a hz ht
  have fp:¬ qa6 c p=true:=fun h=>by
   obtain⟨q,hq,he⟩:=D.2 h;exact hn q hq he
  rw[List.filter_cons_of_neg fp] at Me;have le:=pm.length_eq;rw[List.length_append] at le;simp only[List.length_cons,List.length_nil] at le;refine⟨?_,fun p' hp' q' hq' he'=>?_,by show (qa2 _ _ _).1.length=_;simp only[List.length_append,List.length_cons,List.length_nil];omega⟩
  ·have K:=qhe (c:=c) (s:=s) (o2:={ o with u:=u2,b:=b2,fr:=f2,ev:=(qa2 o.ev o.wh ⟨(qai s c.tn c.td p).1,(qai s c.tn c.td p).2.1,p.id,hi,hw⟩).1,wh:=(qa2 o.ev o.wh ⟨(qai s c.tn c.td p).1,(qai s c.tn c.td p).2.1,p.id,hi,hw⟩).2,d:=o.d++[⟨p.id,hi,hw⟩] }) I.a A M.f (fun p' hp' z hz hzk=>pm.mem_iff.2 (List.mem_append_left _ hz));exact (K.snoc).2 f _ _ (DueOk.mk' A (pm.mem_iff.2 (List.mem_append_right _ (List.mem_singleton.2 rfl))) rfl rfl rfl rfl rfl rfl)
  ·obtain⟨y2,hy2,w⟩:=M.ol p' (List.mem_cons_of_mem _ hp') q' hq' he';exact⟨y2,pm.mem_iff.2 (List.mem_append_left _ hy2),w⟩
 | @gone j k q y f hq he hf hy e1 e2=>
  obtain⟨A,pm,_⟩:=VA.without I.a hy;obtain⟨y1,hy1,g1,g2,g3⟩:=M.ol p List.mem_cons_self q (List.mem_of_getElem? hq) he
  have ey:y1=y:=by
   obtain⟨j1,hj1⟩:=List.getElem?_of_mem hy1;have o1:=(VA.own I.a hj1).2;have o2:=(VA.own I.a hy).2;rw[g1] at o1;rw[e1,o1] at o2;have e3:(j1:Int)=(k:Int):=Option.some.inj o2
   have e4:j1=k:=by omega
   subst e4;rw[hj1] at hy;exact Option.some.inj hy
  subst ey;have fp:qa6 c p=true:=D.1 ⟨q,List.mem_of_getElem? hq,he⟩;rw[List.filter_cons_of_pos fp,List.length_cons] at Me;have le:=pm.length_eq;rw[List.length_append] at le;simp only[List.length_cons,List.length_nil] at le
  have stay:∀ z∈o.ev,z.k≠p.id→z∈(qam o.ev o.wh k y1).1:=fun z hz hne=>by
   rcases List.mem_append.1 (pm.mem_iff.2 hz) with h | h
   ·exact h
   ·exfalso;rw[List.mem_singleton.1 h] at hne;exact hne g3
  refine⟨?_,fun p' hp' q' hq' he'=>?_,by show (qam _ _ _ _).1.length=_;show _=o.d.length+_;omega⟩
  ·have K:=qhe (c:=c) (s:=s) (o2:={ o with b:=o.b.set y1.i.toNat false,fr:=o.fr++[y1.i],ev:=(qam o.ev o.wh k y1).1,wh:=(qam o.ev o.wh k y1).2 }) I.a A M.f (fun p' hp' z hz hzk=>stay z hz (by rw[hzk];exact hm p' hp'));exact (K.snoc).1 f
  ·obtain⟨y2,hy2,w1,w2,w3⟩:=M.ol p' (List.mem_cons_of_mem _ hp') q' hq' he';exact⟨y2,stay y2 hy2 (by rw[w3];exact hu p' hp'),w1,w2,w3⟩
 | skip f hn=>
  have fp:¬ qa6 c p=true:=fun h=>by
   obtain⟨q,hq,he⟩:=D.2 h;exact hn q hq he
  rw[List.filter_cons_of_neg fp] at Me;exact⟨(M.f.snoc).1 f,fun p' hp'=>M.ol p' (List.mem_cons_of_mem _ hp'),Me⟩
theorem AlRun.ok {c:Ck} {s:List Pt} (P:AlPre c s) {l:List Pt} {o:Ck} {r:Option Ck} (h:AlRun c s l o r):∀ {m:List Pt},m++l=c.l→AlInv c l o→AlMid c s m l o→∀ o',r=some o'→AlInv c [] o'∧AlMid c s c.l [] o':=by
 induction h with
 | nil o=>
  intro m hm I M o' e;cases e;rw[List.append_nil] at hm;rw[← hm];exact⟨I,M⟩
 | @step p l o o2 r hs _ ih=>
  intro m hm I M o' e
  have hp:p∈c.l:=by rw[← hm];simp
  have nd:=P.V.v.up.nodup;rw[← hm,List.map_append,List.map_cons,List.nodup_append] at nd;obtain⟨_,nl,nm⟩:=nd;rw[List.nodup_cons] at nl
  have hu:∀ p'∈l,p'.id≠p.id:=fun p' hp' e=>nl.1 (List.mem_map.2 ⟨p',hp',e⟩)
  have hmm:∀ p'∈m,p'.id≠p.id:=fun p' hp' e=>nm p'.id (List.mem_map.2 ⟨p',hp',rfl⟩) p.id List.mem_cons_self e
  exact ih (m:=m++[p]) (by rw[List.append_assoc];exact hm) (hs.inv P hp hu I) (hs.mid P hp hu hmm I M) o' e
 | full _=>intro m _ _ _ o' e;cases e
theorem V9.alter_ok {c:Ck} {s:List Pt} (P:AlPre c s) {o:Ck} (h:AlRun c s c.l { c with d:=[] } (some o)):V9 (alC c s o):=by
 have M0:AlMid c s [] c.l { c with d:=[] }:=⟨rfl,fun p hp q hq he=>by
  obtain⟨p',hp',_,y,hd⟩:=P.V.f.some q hq;obtain⟨e1,e2⟩:=hd.own P.V.a;obtain⟨j,_,hj⟩:=hd.at_
  exact⟨y,List.mem_of_getElem? hj,e1,e2,hd.k.trans (hd.id.symm.trans he)⟩,by
  have:=congrArg List.length P.V.f.ids;rw[List.length_map,List.length_map] at this;have e:=P.V.e
  show c.ev.length=0+_
  omega⟩
 obtain⟨I,M⟩:=h.ok P (m:=[]) rfl (qe7 P) M0 o rfl;have e:=M.e;exact⟨P.V.t,P.sv,P.V.v,P.kn,I.a,I.w,by simpa using e,M.f⟩
end Go.Proofs.YtkckcgpmnipnaaaGreat

namespace Go.Proofs.YtkckcgpmnipnaaaGreat
set_option maxRecDepth 100000
open Go.RowKit
def qiz (c:Ck):Bool:=decide (40<c.l.length)||(decide (40<c.d.length)||(decide (¬ (c.s.length≤16∨64≤c.s.length∧c.s.length≤70))||qja c.u c.b c.fr c.ev c.wh))
theorem qmH (c:Ck):Fn 28 8 [qar c] (qaA c) (.pv (.bool (qiz c))) 0 []:=by
 unfold qiz;by_cases h1:40<c.l.length
 ·rw[dt h1];exact qHG (dt (by omega))
 ·rw[df h1,Bool.false_or];by_cases h2:40<c.d.length
  ·rw[dt h2];exact qF5 (df (by omega)) (dt (by omega))
  ·rw[df h2,Bool.false_or]
   rcases qh2 c.s with ⟨h3,hG⟩ | ⟨h3,hG⟩
   ·rw[dt h3];exact qGa (df (by omega)) (df (by omega)) hG
   ·rw[df fun h=>h h3,Bool.false_or];have hA:=qmb (u:=c.u) (b:=c.b) (fr:=c.fr) (ev:=c.ev) (wh:=c.wh);cases e:qja c.u c.b c.fr c.ev c.wh
    ·rw[e] at hA;exact qBK (df (by omega)) (df (by omega)) hG hA
    ·rw[e] at hA;exact qHZ (df (by omega)) (df (by omega)) hG hA
theorem qnK {c:Ck} (h:qiz c=false) (h1:I64 c.tn) (h2:I64 c.td) (hi:∀ y∈c.ev,EvI y):S9 c∧c.l.length≤40∧c.d.length≤40∧c.s.length≤70:=by
 unfold qiz at h;rw[Bool.or_eq_false_iff,Bool.or_eq_false_iff,Bool.or_eq_false_iff] at h;obtain⟨a1,a2,a3,a4⟩:=h;have b1:=of_decide_eq_false a1;have b2:=of_decide_eq_false a2
 have b3:c.s.length≤16∨64≤c.s.length∧c.s.length≤70:=Classical.byContradiction fun h=>by
  rw[dt h] at a3;cases a3
 unfold qja at a4;rw[Bool.or_eq_false_iff,Bool.or_eq_false_iff] at a4;obtain⟨g1,g2,g3⟩:=a4;have g2:=of_decide_eq_false g2;have g3:=of_decide_eq_false g3;obtain⟨k1,k2,k3⟩:=qei g1;exact⟨⟨h1,h2,by omega,by omega,⟨k1,k2,k3,by omega,by omega,hi⟩⟩,by omega,by omega,by omega⟩
end Go.Proofs.YtkckcgpmnipnaaaGreat

namespace Go.Proofs.YtkckcgpmnipnaaaGreat
set_option maxRecDepth 100000
open Go.RowKit
theorem qvA {c o:Ck} {a b:Int} (h:qhX c a b o):o.tn=c.tn∧o.td=c.td∧o.s=c.s:=by
 rcases h with ⟨_,rfl⟩ | ⟨_,_,_,_,_,_,_,rfl⟩<;>exact⟨rfl,rfl,rfl⟩
theorem qdK {c o:Ck} {n:Int} (h:qeK c n o):o.tn=c.tn∧o.td=c.td∧o.s=c.s:=by
 rcases h with ⟨_,rfl⟩ | ⟨_,_,_,_,_,_,_,_,_,_,rfl⟩<;>exact⟨rfl,rfl,rfl⟩
end Go.Proofs.YtkckcgpmnipnaaaGreat

namespace Go.Proofs.YtkckcgpmnipnaaaGreat
set_option maxRecDepth 100000
open Go.RowKit
variable {a pa pb n b tn td x2 e2 e3 e4:Int} {l s:List Pt} {i j h k m:Nat} {p q:Pt} {c:Ck} {w:Bool} {vs:List Value} {z9 y:Ev} {fl:List Ev}
theorem qAM (n1:(!(a==a))=false) (n2:(!(n==n))=false) (h1:decide (a<n)=true) :
 Pure Tryz.prog 310 #[qac a pa pb,iV n] (iV (-1)):=
 qad (args:=[qac a pa pb,iV n]) 300 [.k,.k,.t false,.k,.t false,.t true]
  (A4 rfl n1 n2 h1 tI) (by kernel_rfl)
theorem qBJ (n1:(!(a==a))=false) (n2:(!(n==n))=false) (h1:decide (a<n)=false) (h2:decide (a>n)=true) :
 Pure Tryz.prog 310 #[qac a pa pb,iV n] (iV (1)):=
 qad (args:=[qac a pa pb,iV n]) 300 [.k,.k,.t false,.k,.t false,.t false,.t true]
  (A5 rfl n1 n2 h1 h2 tI) (by kernel_rfl)
theorem qAl (n1:(!(a==a))=false) (n2:(!(n==n))=false) (h1:decide (a<n)=false) (h2:decide (a>n)=false) :
 Pure Tryz.prog 310 #[qac a pa pb,iV n] (iV (0)):=
 qad (args:=[qac a pa pb,iV n]) 300 [.k,.k,.t false,.k,.t false,.t false,.t false]
  (A5 rfl n1 n2 h1 h2 tI) (by kernel_rfl)
abbrev qEA (i:Nat) (j:Nat) (l:List Pt) (n:Int):TmL:=[(0,.ls 0 l.length),(1,.pv (iV n)),(2,.pv (.func (.func 310) #[] #[])),(8,.pv (iV (l.length:Int))),(9,.pv (iV (i:Int))),(10,.pv (iV (j:Int)))]
abbrev qsO (c:Int) (n:Int) (p:Pt):Prop:=Pure Tryz.prog 310 #[qac p.id p.a p.b,iV n] (iV (c))
theorem qAV {c:Int} (hk:l[h]?=some p) (hin:Bd h l.length) (hlt:Dt ((i:Int)<(j:Int))) (ha:iV (IntKind.i64.wrap ((i:Int)+(j:Int)))=iV ((i:Int)+(j:Int))) (hu:Value.int .u64 (IntKind.u64.wrap ((i:Int)+(j:Int)))=.int .u64 ((i:Int)+(j:Int))) (h1:¬ (1:Int)<0) (hs:Value.int .u64 (((i:Int)+(j:Int)).fdiv (2 ^ (min (1:Int).toNat IntKind.u64.bits)))=.int .u64 (h:Int)) (hb:iV (IntKind.i64.wrap (h:Int))=iV (h:Int)) (hc:qsO c n p) (hz:Dt (c<0)) (hh:iV (IntKind.i64.wrap ((h:Int)+1))=iV (((h+1:Nat):Int))) {e:Exit} {tm2:TmL} {hp2:HpL}
 (r:Rl 1 1 293 0 49 1 ([(0,.ls 0 l.length),(1,.pv (iV n)),(2,.pv (.func (.func 310) #[] #[])),(8,.pv (iV (l.length:Int))),(9,.pv (iV ((h+1:Nat):Int))),(10,.pv (iV (j:Int)))]) ([(0,0,qaf l)]) e tm2 hp2):Rl 1 1 293 0 49 1 (qEA i j l n) ([(0,0,qaf l)]) e tm2 hp2:=
 RunsL.next [] 300 [.t true,Re ha,Re hu,.r (.int .u64 (h:Int)),Re hb,.r (ptV p),Rf hc,.t true,Re hh]
  (Ro (A9 hlt ha hu h1 hs hb hin (qaB hk) hc (A2 hz hh tI))) r
theorem qz0 {c:Int} (hk:l[h]?=some p) (hin:Bd h l.length) (hlt:Dt ((i:Int)<(j:Int))) (ha:iV (IntKind.i64.wrap ((i:Int)+(j:Int)))=iV ((i:Int)+(j:Int))) (hu:Value.int .u64 (IntKind.u64.wrap ((i:Int)+(j:Int)))=.int .u64 ((i:Int)+(j:Int))) (h1:¬ (1:Int)<0) (hs:Value.int .u64 (((i:Int)+(j:Int)).fdiv (2 ^ (min (1:Int).toNat IntKind.u64.bits)))=.int .u64 (h:Int)) (hb:iV (IntKind.i64.wrap (h:Int))=iV (h:Int)) (hc:qsO c n p) (hz:Df (c<0)) {e:Exit} {tm2:TmL} {hp2:HpL}
 (r:Rl 1 1 293 0 49 1 ([(0,.ls 0 l.length),(1,.pv (iV n)),(2,.pv (.func (.func 310) #[] #[])),(8,.pv (iV (l.length:Int))),(9,.pv (iV (i:Int))),(10,.pv (iV (h:Int)))]) ([(0,0,qaf l)]) e tm2 hp2):Rl 1 1 293 0 49 1 (qEA i j l n) ([(0,0,qaf l)]) e tm2 hp2:=
 RunsL.next [] 300 [.t true,Re ha,Re hu,.r (.int .u64 (h:Int)),Re hb,.r (ptV p),Rf hc,.t false]
  (Ro (A9 hlt ha hu h1 hs hb hin (qaB hk) hc (Ai hz tI))) r
theorem qoJ (hge:decide ((i:Int)<(j:Int))=false):Rl 1 1 293 0 49 1 (qEA i j l n) ([(0,0,qaf l)]) (.exit 0) (qEA i j l n) ([(0,0,qaf l)]):=
 RunsL.stop [] 300 [.t false] (fun h=>by cases h)
  (Ro (Ai hge tI))
abbrev qGo (k:Nat) (l:List Pt) (n:Int):Prop:=Rl 1 1 293 0 49 1 ([(0,.ls 0 l.length),(1,.pv (iV n)),(2,.pv (.func (.func 310) #[] #[])),(8,.pv (iV (l.length:Int))),(9,.pv (iV ((0:Nat):Int))),(10,.pv (iV (l.length:Int)))]) ([(0,0,qaf l)]) (.exit 0) ([(0,.ls 0 l.length),(1,.pv (iV n)),(2,.pv (.func (.func 310) #[] #[])),(8,.pv (iV (l.length:Int))),(9,.pv (iV (k:Int))),(10,.pv (iV (k:Int)))]) ([(0,0,qaf l)])
theorem qvV (r0:qGo k l n) (hge:Df ((k:Int)<(l.length:Int))) :
 Fn 293 1 [.ls 0 l.length,.pv (iV (n)),.pv (.func (.func 310) #[] #[])] [(0,0,qaf l)] (.pv (.tuple #[iV (k:Int),.bool false])) 0 []:=
 Fz [] [Lf r0,.t false]
  tI (Lo r0 [] (Ai hge tI))
theorem qvY {c:Int} (r0:qGo k l n) (hk:l[k]?=some p) (hin:0≤(k:Int)∧(k:Int)<(l.length:Int)) (hlt:decide ((k:Int)<(l.length:Int))=true) (hc:qsO c n p) (hz:(c==0)=true) :
 Fn 293 1 [.ls 0 l.length,.pv (iV (n)),.pv (.func (.func 310) #[] #[])] [(0,0,qaf l)] (.pv (.tuple #[iV (k:Int),.bool true])) 0 []:=
 Fz [] [Lf r0,.t true,.r (ptV p),Rf hc,.t true]
  tI (Lo r0 [] (A5 hlt hin (qaB hk) hc hz tI))
theorem qzQ {c:Int} (r0:qGo k l n) (hk:l[k]?=some p) (hin:0≤(k:Int)∧(k:Int)<(l.length:Int)) (hlt:decide ((k:Int)<(l.length:Int))=true) (hc:qsO c n p) (hz:(c==0)=false) :
 Fn 293 1 [.ls 0 l.length,.pv (iV (n)),.pv (.func (.func 310) #[] #[])] [(0,0,qaf l)] (.pv (.tuple #[iV (k:Int),.bool false])) 0 []:=
 Fz [] [Lf r0,.t true,.r (ptV p),Rf hc,.t false]
  tI (Lo r0 [] (A5 hlt hin (qaB hk) hc hz tI))
theorem qor (hb:Fn 293 1 [.ls 0 s.length,.pv (iV (n)),.pv (.func (.func 310) #[] #[])] [(0,0,qaf s)] (.pv (.tuple #[iV (k:Int),.bool true])) 0 []) (hk:s[k]?=some p) (hin:Bd k s.length) :
 Fn 265 1 [qaq 0 s,.pv (iV (n))] [(0,0,qaf s)] (.pv (.tuple #[ptV p,.bool true])) 0 []:=
 Fz [] [Cf hb [0],.k,.r (ptV p)]
  tI (Co hb [0] 3 (A2 hin (qaB hk) tI))
theorem qzY (hb:Fn 293 1 [.ls 0 s.length,.pv (iV (n)),.pv (.func (.func 310) #[] #[])] [(0,0,qaf s)] (.pv (.tuple #[iV (k:Int),.bool false])) 0 []) :
 Fn 265 1 [qaq 0 s,.pv (iV (n))] [(0,0,qaf s)] (.pv (.tuple #[ptV (Pt.mk 0 0 0),.bool false])) 0 []:=
 Fz [] [Cf hb [0],.k]
  tI (Co hb [0] 3 tI)
theorem cfl (h1:Fn 265 1 [qaq 0 c.s,.pv (iV (b))] [(0,0,qaf c.s)] (.pv (.tuple #[ptV p,.bool true])) 0 []) (h2:Fn 265 1 [qaq 0 c.s,.pv (iV (a))] [(0,0,qaf c.s)] (.pv (.tuple #[ptV q,.bool true])) 0 []) (hl:Pure Tryz.prog 266 #[ptV p,ptV q,qab c.tn c.td] (.tuple #[qab tn td,.bool w,iV 0])) :
 Fn 216 8 [qar c,.pv (qae a b)] (qaA c) (.pv (.tuple #[qab tn td,.bool w])) 0 []:=
 Fz [] [Cf h1 [0],Cf h2 [0],Rf hl]
  tI (Co h1 [0] 11 (Co h2 [0] 12 (Ai hl tI)))
theorem qAe (h1:yq s b p) (h2:yq s a q) :
 Fn 215 1 [qaq 0 s,.pv (qae a b)] [(0,0,qaf s)] (.pv (.bool true)) 0 []:=
 Fz [] [Cf h1 [0],Cf h2 [0]]
  tI (Co h1 [0] 3 (Co h2 [0] 4 tI))
theorem qAu (h1:yq s b p) (h2:Fn 265 1 [qaq 0 s,.pv (iV (a))] [(0,0,qaf s)] (.pv (.tuple #[ptV q,.bool false])) 0 []) :
 Fn 215 1 [qaq 0 s,.pv (qae a b)] [(0,0,qaf s)] (.pv (.bool false)) 0 []:=
 Fz [] [Cf h1 [0],Cf h2 [0]]
  tI (Co h1 [0] 3 (Co h2 [0] 4 tI))
theorem qIB (h1:Fn 265 1 [qaq 0 s,.pv (iV (b))] [(0,0,qaf s)] (.pv (.tuple #[ptV p,.bool false])) 0 []) (h2:Fn 265 1 [qaq 0 s,.pv (iV (a))] [(0,0,qaf s)] (.pv (.tuple #[ptV q,.bool w])) 0 []) :
 Fn 215 1 [qaq 0 s,.pv (qae a b)] [(0,0,qaf s)] (.pv (.bool false)) 0 []:=
 Fz [] [Cf h1 [0],Cf h2 [0]]
  tI (Co h1 [0] 3 (Co h2 [0] 4 tI))
abbrev qmZ (l:List Pt) (s:List Pt):HpL:=[(2,0,.ls 0 s.length),(0,0,qaf s),(1,0,qak l)]
abbrev qyJ (k:Nat) (l:List Pt):TmL:=[(2,.pp 2 0),(8,.ls 1 l.length),(9,.pv (iV (l.length:Int))),(10,.pv (iV (k:Int)))]
theorem qkX (hk:l[k]?=some p) (hin:Bd k l.length) (hlt:Dt ((k:Int)<(l.length:Int))) (hb:Fn 215 1 [qaq 0 s,.pv (qae p.a p.b)] [(0,0,qaf s)] (.pv (.bool true)) 0 []) (hs:iV (IntKind.i64.wrap ((k:Int)+1))=iV (((k+1:Nat):Int))) {e:Exit} {tm2:TmL} {hp2:HpL}
 (r:Rl 2 2 173 0 20 4 ([(2,.pp 2 0),(8,.ls 1 l.length),(9,.pv (iV (l.length:Int))),(10,.pv (iV ((k+1:Nat):Int)))]) (qmZ l s) e tm2 hp2):Rl 2 2 173 0 20 4 (qyJ k l) (qmZ l s) e tm2 hp2:=
 RunsL.next [] 300 [.t true,.r (ptV p),Cf hb [0],.k,Re hs]
  (Ro (A3 hlt hin (qaB hk) (Co hb [0] 5 (Ai hs tI)))) r
theorem qxs (hk:l[k]?=some p) (hin:Bd k l.length) (hlt:Dt ((k:Int)<(l.length:Int))) (hb:Fn 215 1 [qaq 0 s,.pv (qae p.a p.b)] [(0,0,qaf s)] (.pv (.bool false)) 0 []):Rl 2 2 173 0 20 4 (qyJ k l) (qmZ l s) (.ret) ([(4,.pv (iV 6))]) ([]):=
 RunsL.stop [] 300 [.t true,.r (ptV p),Cf hb [0],.k] (fun h=>by cases h)
  (Ro (A3 hlt hin (qaB hk) (Co hb [0] 5 tI)))
theorem qwT (hge:decide ((k:Int)<(l.length:Int))=false):Rl 2 2 173 0 20 4 (qyJ k l) (qmZ l s) (.exit 0) ([]) ([]):=
 RunsL.stop [] 300 [.t false] (fun h=>by cases h)
  (Ro (Ai hge tI))
theorem qBY (r0:Rl 2 2 173 0 20 4 ([(2,.pp 2 0),(8,.ls 1 l.length),(9,.pv (iV (l.length:Int))),(10,.pv (iV ((0:Nat):Int)))]) (qmZ l s) (.ret) ([(4,.pv (iV 6))]) ([])) :
 Fn 173 2 [qaq 0 s,qaU 1 x2 l] [(0,0,qaf s),(1,0,qak l)] (.pv (iV (6))) 0 []:=
 Fz [] [Lf r0]
  tI (Lo r0 [] tI)
theorem qCX (r0:Rl 2 2 173 0 20 4 ([(2,.pp 2 0),(8,.ls 1 l.length),(9,.pv (iV (l.length:Int))),(10,.pv (iV ((0:Nat):Int)))]) (qmZ l s) (.exit 0) ([]) ([])) :
 Fn 173 2 [qaq 0 s,qaU 1 x2 l] [(0,0,qaf s),(1,0,qak l)] (.pv (iV (0))) 0 []:=
 Fz [] [Lf r0]
  tI (Lo r0 [] tI)
abbrev qGe (c:Ck) (k:Nat) (m:Nat):TmL:=[(1,.pp 8 0),(3,.ls 9 (m)),(10,.ls 1 c.l.length),(11,.pv (iV (c.l.length:Int))),(12,.pv (iV (k:Int)))]
theorem qq2 (hk:c.l[k]?=some p) (hin:Bd k c.l.length) (hlt:Dt ((k:Int)<(c.l.length:Int))) (hf:yr c p tn td) (hs:iV (IntKind.i64.wrap ((k:Int)+1))=iV (((k+1:Nat):Int))) {e:Exit} {tm2:TmL} {hp2:HpL}
 (r:Rl 8 8 179 0 33 10 ([(1,.pp 8 0),(3,.ls 9 (m)),(10,.ls 1 c.l.length),(11,.pv (iV (c.l.length:Int))),(12,.pv (iV ((k+1:Nat):Int)))]) ((qcb 8 c++[(9,0,.row 61 5 (m) (vs))])) e tm2 hp2):Rl 8 8 179 0 33 10 (qGe c k m) ((qcb 8 c++[(9,0,.row 61 5 (m) (vs))])) e tm2 hp2:=
 RunsL.next [] 300 [.t true,.r (ptV p),Cf hf [0,1,2,3,4,5,6,7],Re hs]
  (Ro (A3 hlt hin (qaB hk) (Co hf [0,1,2,3,4,5,6,7] 11 (Ai hs tI)))) r
theorem qsN (hk:c.l[k]?=some p) (hin:Bd k c.l.length) (hlt:Dt ((k:Int)<(c.l.length:Int))) (hf:Fn 216 8 [qar c,.pv (qae p.a p.b)] (qaA c) (.pv (.tuple #[qab tn td,.bool true])) 0 []) (hm:m+1≤1000000) (hs:iV (IntKind.i64.wrap ((k:Int)+1))=iV (((k+1:Nat):Int))) {e:Exit} {tm2:TmL} {hp2:HpL}
 (r:Rl 8 8 179 0 33 10 ([(1,.pp 8 0),(3,.ls 9 (m+1)),(10,.ls 1 c.l.length),(11,.pv (iV (c.l.length:Int))),(12,.pv (iV ((k+1:Nat):Int)))]) ((qcb 8 c++[(9,0,.row 61 5 (m+1) (vs++[iV tn,iV td,iV p.id,iV 0,iV 0]))])) e tm2 hp2):Rl 8 8 179 0 33 10 (qGe c k m) ((qcb 8 c++[(9,0,.row 61 5 (m) (vs))])) e tm2 hp2:=
 RunsL.next [(9,13)] 300 [.t true,.r (ptV p),Cf hf [0,1,2,3,4,5,6,7],Re hs]
  (Ro (A3 hlt hin (qaB hk) (Co hf [0,1,2,3,4,5,6,7] 11 (A2 hm hs tI)))) r
theorem qxR (hge:decide ((k:Int)<(c.l.length:Int))=false):Rl 8 8 179 0 33 10 (qGe c k m) ((qcb 8 c++[(9,0,.row 61 5 (m) (vs))])) (.exit 0) ([(3,.ls 9 m)]) ([(9,0,.row 61 5 m vs)]):=
 RunsL.stop [] 300 [.t false] (fun h=>by cases h)
  (Ro (Ai hge tI))
theorem qtA (r0:Rl 8 8 179 0 33 10 ([(1,.pp 8 0),(3,.ls 9 (0)),(10,.ls 1 c.l.length),(11,.pv (iV (c.l.length:Int))),(12,.pv (iV ((0:Nat):Int)))]) ((qcb 8 c++[(9,0,.row 61 5 (0) ([]))])) (.exit 0) ([(3,.ls 9 m)]) ([(9,0,.row 61 5 m vs)])) :
 Fn 179 8 [qar c] (qaA c) (.ls 8 m) 1 [(8,0,.row 61 5 m vs)]:=
 Fz [(8,9)] [.ln true 3 0 61 5,Lf r0]
  (qaG (qaM [(8,9)]) [(8,0,.row 61 5 m vs)]) (Lo r0 [] tI)
abbrev qsW (c:Ck):HpL:=[(0,0,zrI c.u),(1,0,zrB c.b),(2,0,zrI c.fr),(3,0,qap c.ev),(4,0,zrI c.wh)]
theorem qzK (h0:Df (0≤z9.i)) :
 Fn 180 5 [agA c.u c.b c.fr c.ev c.wh,.pv (qaa z9)] (qsW c) (.pv (.bool false)) 0 []:=
 Fz [] [.t false]
  tI (Ai h0 tI)
theorem qC6 (h0:Dt (0≤z9.i)) (h1:Df (z9.i<(c.wh.length:Int))) :
 Fn 180 5 [agA c.u c.b c.fr c.ev c.wh,.pv (qaa z9)] (qsW c) (.pv (.bool false)) 0 []:=
 Fz [] [.t true,.t false]
  tI (A2 h0 h1 tI)
theorem qyl (h0:Dt (0≤z9.i)) (h1:Dt (z9.i<(c.wh.length:Int))) (hi1:0≤z9.i∧z9.i<(c.wh.length:Int)) (hw1:c.wh[z9.i.toNat]?=some n) (h2:Df (n≥0)) :
 Fn 180 5 [agA c.u c.b c.fr c.ev c.wh,.pv (qaa z9)] (qsW c) (.pv (.bool false)) 0 []:=
 Fz [] [.t true,.t true,.r (iV n),.t false]
  tI (A5 h0 h1 hi1 (qbb hw1) h2 tI)
theorem qv3 (h0:decide (0≤z9.i)=true) (h1:decide (z9.i<(c.wh.length:Int))=true) (hi1:0≤z9.i∧z9.i<(c.wh.length:Int)) (hw1:c.wh[z9.i.toNat]?=some n) (h2:decide (n≥0)=true) (hi2:0≤n∧n<(c.ev.length:Int)) (hy:c.ev[n.toNat]?=some y) (h3:((y.n==z9.n&&(y.d==z9.d&&true))&&(y.k==z9.k&&((y.i==z9.i&&(y.w==z9.w&&true))&&true)))=true) :
 Fn 180 5 [agA c.u c.b c.fr c.ev c.wh,.pv (qaa z9)] (qsW c) (.pv (.bool true)) 0 []:=
 Fz [] [.t true,.t true,.r (iV n),.t true,.r (iV n),.r (qaa y),.t true]
  tI (A9 h0 h1 hi1 (qbb hw1) h2 hi1 (qbb hw1) hi2 (qaF hy) (Ai h3 tI))
theorem qz3 (h0:Dt (0≤z9.i)) (h1:Dt (z9.i<(c.wh.length:Int))) (hi1:0≤z9.i∧z9.i<(c.wh.length:Int)) (hw1:c.wh[z9.i.toNat]?=some n) (h2:Dt (n≥0)) (hi2:0≤n∧n<(c.ev.length:Int)) (hy:c.ev[n.toNat]?=some y) (h3:((y.n==z9.n&&(y.d==z9.d&&true))&&(y.k==z9.k&&((y.i==z9.i&&(y.w==z9.w&&true))&&true)))=false) :
 Fn 180 5 [agA c.u c.b c.fr c.ev c.wh,.pv (qaa z9)] (qsW c) (.pv (.bool false)) 0 []:=
 Fz [] [.t true,.t true,.r (iV n),.t true,.r (iV n),.r (qaa y),.t false]
  tI (A9 h0 h1 hi1 (qbb hw1) h2 hi1 (qbb hw1) hi2 (qaF hy) (Ai h3 tI))
abbrev qr4 (c:Ck) (fl:List Ev):Prop:=Fn 179 8 [qar c] (qaA c) (.ls 8 fl.length) 1 [(8,0,qap fl)]
theorem qFF (hfs:qr4 c fl) (hn1:((c.d.length:Int) !=(fl.length:Int))=true) :
 Fn 115 8 [qar c] (qaA c) (.pv (.bool false)) 0 []:=
 Fz [] [Cf hfs [0,1,2,3,4,5,6,7],.t true]
  tI (Co hfs [0,1,2,3,4,5,6,7] 9 (Ai hn1 tI))
theorem qF0 (hfs:qr4 c fl) (hn1:((c.d.length:Int) !=(fl.length:Int))=false) (hn2:((c.ev.length:Int) !=(fl.length:Int))=true) :
 Fn 115 8 [qar c] (qaA c) (.pv (.bool false)) 0 []:=
 Fz [] [Cf hfs [0,1,2,3,4,5,6,7],.t false,.t true]
  tI (Co hfs [0,1,2,3,4,5,6,7] 9 (A2 hn1 hn2 tI))
abbrev qET (fl:List Ev) (k:Nat):TmL:=[(1,.pp 8 0),(23,.ls 9 fl.length),(24,.pv (iV (fl.length:Int))),(25,.pv (iV (k:Int)))]
theorem quO (hk:fl[k]?=some y) (hin:0≤(k:Int)∧(k:Int)<(fl.length:Int)) (hq:c.d[k]?=some q) (hiq:0≤(k:Int)∧(k:Int)<(c.d.length:Int)) (hlt:decide ((k:Int)<(fl.length:Int))=true) (hne:(q.id !=y.k)=true):Rl 8 8 115 0 54 10 (qET fl k) ((qcb 8 c++[(9,0,qap fl)])) (.ret) ([(2,.pv (.bool false))]) ([]):=
 RunsL.stop [] 300 [.t true,.r (qaa y),.r (qaK q.a q.b),.r (iV q.id),.t true] (fun h=>by cases h)
  (Ro (A8 hlt hin (qaF hk) hiq (qcI hq) hiq (qcP hq) hne tI))
theorem qCt (hk:fl[k]?=some y) (hin:0≤(k:Int)∧(k:Int)<(fl.length:Int)) (hq:c.d[k]?=some q) (hiq:0≤(k:Int)∧(k:Int)<(c.d.length:Int)) (hlt:decide ((k:Int)<(fl.length:Int))=true) (hne:(q.id !=y.k)=false) (hv:Fn 180 5 [agA c.u c.b c.fr c.ev c.wh,.pv (qaa (Ev.mk y.n y.d y.k q.a q.b))] (qsW c) (.pv (.bool false)) 0 []):Rl 8 8 115 0 54 10 (qET fl k) ((qcb 8 c++[(9,0,qap fl)])) (.ret) ([(2,.pv (.bool false))]) ([]):=
 RunsL.stop [] 300 [.t true,.r (qaa y),.r (qaK q.a q.b),.r (iV q.id),.t false,Cf hv [2,3,4,5,6],.k] (fun h=>by cases h)
  (Ro (A8 hlt hin (qaF hk) hiq (qcI hq) hiq (qcP hq) hne (Co hv [2,3,4,5,6] 11 tI)))
theorem qsl (hk:fl[k]?=some y) (hin:0≤(k:Int)∧(k:Int)<(fl.length:Int)) (hq:c.d[k]?=some q) (hiq:0≤(k:Int)∧(k:Int)<(c.d.length:Int)) (hlt:decide ((k:Int)<(fl.length:Int))=true) (hne:(q.id !=y.k)=false) (hv:Fn 180 5 [agA c.u c.b c.fr c.ev c.wh,.pv (qaa (Ev.mk y.n y.d y.k q.a q.b))] (qsW c) (.pv (.bool true)) 0 []) (hs:iV (IntKind.i64.wrap ((k:Int)+1))=iV (((k+1:Nat):Int))) {e:Exit} {tm2:TmL} {hp2:HpL}
 (r:Rl 8 8 115 0 54 10 ([(1,.pp 8 0),(23,.ls 9 fl.length),(24,.pv (iV (fl.length:Int))),(25,.pv (iV ((k+1:Nat):Int)))]) ((qcb 8 c++[(9,0,qap fl)])) e tm2 hp2):Rl 8 8 115 0 54 10 (qET fl k) ((qcb 8 c++[(9,0,qap fl)])) e tm2 hp2:=
 RunsL.next [] 300 [.t true,.r (qaa y),.r (qaK q.a q.b),.r (iV q.id),.t false,Cf hv [2,3,4,5,6],.k,Re hs]
  (Ro (A8 hlt hin (qaF hk) hiq (qcI hq) hiq (qcP hq) hne (Co hv [2,3,4,5,6] 11 (Ai hs tI)))) r
theorem qyT (hge:decide ((k:Int)<(fl.length:Int))=false):Rl 8 8 115 0 54 10 (qET fl k) ((qcb 8 c++[(9,0,qap fl)])) (.exit 0) ([]) ([]):=
 RunsL.stop [] 300 [.t false] (fun h=>by cases h)
  (Ro (Ai hge tI))
theorem qxb (hfs:qr4 c fl) (hn1:((c.d.length:Int) !=(fl.length:Int))=false) (hn2:((c.ev.length:Int) !=(fl.length:Int))=false) (r0:Rl 8 8 115 0 54 10 ([(1,.pp 8 0),(23,.ls 9 fl.length),(24,.pv (iV (fl.length:Int))),(25,.pv (iV ((0:Nat):Int)))]) ((qcb 8 c++[(9,0,qap fl)])) (.ret) ([(2,.pv (.bool false))]) ([])) :
 Fn 115 8 [qar c] (qaA c) (.pv (.bool false)) 0 []:=
 Fz [] [Cf hfs [0,1,2,3,4,5,6,7],.t false,.t false,Lf r0]
  tI (Co hfs [0,1,2,3,4,5,6,7] 9 (A2 hn1 hn2 (Lo r0 [] tI)))
theorem qCJ (hfs:qr4 c fl) (hn1:((c.d.length:Int) !=(fl.length:Int))=false) (hn2:((c.ev.length:Int) !=(fl.length:Int))=false) (r0:Rl 8 8 115 0 54 10 ([(1,.pp 8 0),(23,.ls 9 fl.length),(24,.pv (iV (fl.length:Int))),(25,.pv (iV ((0:Nat):Int)))]) ((qcb 8 c++[(9,0,qap fl)])) (.exit 0) ([]) ([])) :
 Fn 115 8 [qar c] (qaA c) (.pv (.bool true)) 0 []:=
 Fz [] [Cf hfs [0,1,2,3,4,5,6,7],.t false,.t false,Lf r0]
  tI (Co hfs [0,1,2,3,4,5,6,7] 9 (A2 hn1 hn2 (Lo r0 [] tI)))
abbrev qER (c:Ck) (e4:Int):Prop:=Fn 177 5 [agA c.u c.b c.fr c.ev c.wh] (qsW c) (.pv (iV (e4))) 0 []
abbrev qza (c:Ck) (e3:Int):Prop:=Fn 178 1 [qaU 0 c.x c.l] [(0,0,qak c.l)] (.pv (iV (e3))) 0 []
theorem qGq {e1:Int} (h1:Pure Tryz.prog 101 #[qab c.tn c.td] (iV (e1))) (h2:Fn 74 1 [qaq 0 c.s] [(0,0,qaf c.s)] (.pv (iV (e2))) 0 []) (h3:qza c e3) (h4:qER c e4) (he:(e1 !=0)=true) :
 Fn 114 8 [qar c] (qaA c) (.pv (.bool false)) 0 []:=
 Fz [] [Rf h1,Cf h2 [0],Cf h3 [1],Cf h4 [2,3,4,5,6],.k,.k,.t true,.t true]
  tI (Ai h1 (Co h2 [0] 9 (Co h3 [1] 9 (Co h4 [2,3,4,5,6] 9 (A2 he he tI)))))
abbrev qzu (c:Ck):Prop:=Pure Tryz.prog 101 #[qab c.tn c.td] (iV (0))
theorem qHa (h1:qzu c) (h2:Fn 74 1 [qaq 0 c.s] [(0,0,qaf c.s)] (.pv (iV (e2))) 0 []) (h3:qza c e3) (h4:qER c e4) (he:(e2 !=0)=true) :
 Fn 114 8 [qar c] (qaA c) (.pv (.bool false)) 0 []:=
 Fz [] [Rf h1,Cf h2 [0],Cf h3 [1],Cf h4 [2,3,4,5,6],.k,.k,.k,.k,.k,.t true,.t true]
  tI (Ai h1 (Co h2 [0] 9 (Co h3 [1] 9 (Co h4 [2,3,4,5,6] 9 (A2 he he tI)))))
abbrev qAa (c:Ck):Prop:=Fn 74 1 [qaq 0 c.s] [(0,0,qaf c.s)] (.pv (iV (0))) 0 []
theorem qFt (h1:qzu c) (h2:qAa c) (h3:qza c e3) (h4:qER c e4) (he:(e3 !=0)=true) :
 Fn 114 8 [qar c] (qaA c) (.pv (.bool false)) 0 []:=
 Fz [] [Rf h1,Cf h2 [0],Cf h3 [1],Cf h4 [2,3,4,5,6],.k,.k,.k,.k,.k,.k,.k,.k,.t true,.t true]
  tI (Ai h1 (Co h2 [0] 9 (Co h3 [1] 9 (Co h4 [2,3,4,5,6] 9 (A2 he he tI)))))
abbrev qE6 (c:Ck):Prop:=Fn 178 1 [qaU 0 c.x c.l] [(0,0,qak c.l)] (.pv (iV (0))) 0 []
theorem qFd (h1:qzu c) (h2:qAa c) (h3:qE6 c) (h4:qER c e4) (he:(e4 !=0)=true) :
 Fn 114 8 [qar c] (qaA c) (.pv (.bool false)) 0 []:=
 Fz [] [Rf h1,Cf h2 [0],Cf h3 [1],Cf h4 [2,3,4,5,6],.k,.k,.k,.k,.k,.k,.k,.k,.k,.k,.k,.t true,.t true]
  tI (Ai h1 (Co h2 [0] 9 (Co h3 [1] 9 (Co h4 [2,3,4,5,6] 9 (A2 he he tI)))))
abbrev qyG (c:Ck):Prop:=Fn 177 5 [agA c.u c.b c.fr c.ev c.wh] (qsW c) (.pv (iV (0))) 0 []
theorem qFD (h1:qzu c) (h2:qAa c) (h3:qE6 c) (h4:qyG c) (h5:Fn 173 2 [qaq 0 c.s,qaU 1 c.x c.l] [(0,0,qaf c.s),(1,0,qak c.l)] (.pv (iV (6))) 0 []) :
 Fn 114 8 [qar c] (qaA c) (.pv (.bool false)) 0 []:=
 Fz [] [Rf h1,Cf h2 [0],Cf h3 [1],Cf h4 [2,3,4,5,6],.k,.k,.k,.k,.k,.k,.k,.k,.k,.k,.k,.k,.k,.k,.k,Cf h5 [0,1],.k]
  tI (Ai h1 (Co h2 [0] 9 (Co h3 [1] 9 (Co h4 [2,3,4,5,6] 9 (Co h5 [0,1] 10 tI)))))
theorem qDX (h1:qzu c) (h2:qAa c) (h3:qE6 c) (h4:qyG c) (h5:Fn 173 2 [qaq 0 c.s,qaU 1 c.x c.l] [(0,0,qaf c.s),(1,0,qak c.l)] (.pv (iV (0))) 0 []) (h6:((c.u.length:Int)==200)=true) :
 Fn 114 8 [qar c] (qaA c) (.pv (.bool true)) 0 []:=
 Fz [] [Rf h1,Cf h2 [0],Cf h3 [1],Cf h4 [2,3,4,5,6],.k,.k,.k,.k,.k,.k,.k,.k,.k,.k,.k,.k,.k,.k,.k,Cf h5 [0,1],.k,.t true]
  tI (Ai h1 (Co h2 [0] 9 (Co h3 [1] 9 (Co h4 [2,3,4,5,6] 9 (Co h5 [0,1] 10 (Ai h6 tI))))))
theorem qHd (h1:qzu c) (h2:qAa c) (h3:qE6 c) (h4:qyG c) (h5:Fn 173 2 [qaq 0 c.s,qaU 1 c.x c.l] [(0,0,qaf c.s),(1,0,qak c.l)] (.pv (iV (0))) 0 []) (h6:((c.u.length:Int)==200)=false) :
 Fn 114 8 [qar c] (qaA c) (.pv (.bool false)) 0 []:=
 Fz [] [Rf h1,Cf h2 [0],Cf h3 [1],Cf h4 [2,3,4,5,6],.k,.k,.k,.k,.k,.k,.k,.k,.k,.k,.k,.k,.k,.k,.k,Cf h5 [0,1],.k,.t false]
  tI (Ai h1 (Co h2 [0] 9 (Co h3 [1] 9 (Co h4 [2,3,4,5,6] 9 (Co h5 [0,1] 10 (Ai h6 tI))))))
theorem qFa (h1:Fn 114 8 [qar c] (qaA c) (.pv (.bool false)) 0 []) :
 Fn 57 8 [qar c] (qaA c) (.pv (iV (8))) 0 []:=
 Fz [] [Cf h1 [0,1,2,3,4,5,6,7],.k]
  tI (Co h1 [0,1,2,3,4,5,6,7] 9 tI)
theorem qFz (h1:Fn 114 8 [qar c] (qaA c) (.pv (.bool true)) 0 []) (h2:Fn 115 8 [qar c] (qaA c) (.pv (.bool false)) 0 []) :
 Fn 57 8 [qar c] (qaA c) (.pv (iV (8))) 0 []:=
 Fz [] [Cf h1 [0,1,2,3,4,5,6,7],.k,Cf h2 [0,1,2,3,4,5,6,7],.k]
  tI (Co h1 [0,1,2,3,4,5,6,7] 9 (Co h2 [0,1,2,3,4,5,6,7] 9 tI))
theorem qDd (h1:Fn 114 8 [qar c] (qaA c) (.pv (.bool true)) 0 []) (h2:Fn 115 8 [qar c] (qaA c) (.pv (.bool true)) 0 []) :
 Fn 57 8 [qar c] (qaA c) (.pv (iV (0))) 0 []:=
 Fz [] [Cf h1 [0,1,2,3,4,5,6,7],.k,Cf h1 [0,1,2,3,4,5,6,7],.k]
  tI (Co h1 [0,1,2,3,4,5,6,7] 9 (Co h2 [0,1,2,3,4,5,6,7] 9 tI))
end Go.Proofs.YtkckcgpmnipnaaaGreat
