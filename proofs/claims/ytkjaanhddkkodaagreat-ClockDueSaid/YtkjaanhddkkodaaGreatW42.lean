/-
  Joined: Lp, Lq, Lr, Lu, Lw. Conditions: none.
-/
import Derived.Test.YtkjaanhddkkodaaGreatW41
import Derived.Test.YtkjaanhddkkodaaGreatW18
namespace Go.Proofs.YtkjaanhddkkodaaGreat
set_option maxRecDepth 100000
open Go.RowKit
theorem V9.small {c:Ck} (V:V9 c) (h1:I64 c.tn) (h2:I64 c.td):S9 c where
 tn:=h1
 td:=h2
 l:=by have:=V.v.len;omega
 d:=by have:=V.a.lens;have:=V.e;omega
 a:=V.a.sm
theorem DueF.cut {c:Ck} (n:Int) {l:List Pt}:∀ {d:List Pt},DueF c l d→DueF c (qaB l n) (qaB d n):=by
 induction l with
 | nil=>
  intro d h
  have e:d=[]:=h
  subst e
  exact h
 | cons p l ih=>
  intro d h
  cases f:(qae c.s c.tn c.td p).2.2
  ·have h':DueF c l d:=by
    have:(if (qae c.s c.tn c.td p).2.2=true then _ else _):=h
    rwa [if_neg (by rw[f];decide)] at this
   by_cases e:p.id=n
   ·rw[qaB,List.filter_cons_of_neg (by simp[e])]
    exact ih h'
   ·rw[qaB,List.filter_cons_of_pos (by simp[e])]
    show if (qae c.s c.tn c.td p).2.2=true then _ else _
    rw[if_neg (by rw[f];decide)]
    exact ih h'
  ·have h':∃ q r,d=q::r∧(∃ y,DueOk c p q y)∧DueF c l r:=by
    have:(if (qae c.s c.tn c.td p).2.2=true then _ else _):=h
    rwa [if_pos f] at this
   obtain⟨q,r,hd,⟨y,hy⟩,hr⟩:=h'
   subst hd
   have hid:=hy.id
   by_cases e:p.id=n
   ·rw[qaB,List.filter_cons_of_neg (by simp[e]),qaB,List.filter_cons_of_neg (by simp[hid,e])]
    exact ih hr
   ·rw[qaB,List.filter_cons_of_pos (by simp[e]),qaB,List.filter_cons_of_pos (by simp[hid,e])]
    show if (qae c.s c.tn c.td p).2.2=true then _ else _
    rw[if_pos f]
    exact⟨q,_,rfl,⟨y,hy⟩,ih hr⟩
theorem Up.lt_pw {l:List Pt} (h:Up l):(l.map Pt.id).Pairwise (fun a b=>a<b):=by
 rw[List.pairwise_iff_getElem]
 intro i j hi hj hij
 rw[List.getElem_map,List.getElem_map]
 have hi':i<l.length:=by simpa using hi
 have hj':j<l.length:=by simpa using hj
 exact h.mono hij (List.getElem?_eq_getElem hi') (List.getElem?_eq_getElem hj')
theorem V9.due_up {c:Ck} (V:V9 c):Up c.d:=by
 have pw:(c.d.map Pt.id).Pairwise (fun a b=>a<b):=by
  rw[V.f.ids]
  exact V.v.up.lt_pw.sublist (List.Sublist.map _ List.filter_sublist)
 intro k p q hp hq
 rw[List.pairwise_iff_getElem] at pw
 have h1:=qaj hp
 have h2:=qaj hq
 obtain⟨_,e1⟩:=List.getElem?_eq_some_iff.1 hp
 obtain⟨_,e2⟩:=List.getElem?_eq_some_iff.1 hq
 have:=pw k (k+1) (by simpa using h1) (by simpa using h2) (by omega)
 rw[List.getElem_map,List.getElem_map,e1,e2] at this
 exact this
theorem V8.without {x:Int} {l:List Pt} (h:V8 x l) (n:Int):V8 x (qaB l n):=by
 rcases qrX h.up n with ⟨k,p,hk,he⟩ | ⟨hno,_⟩
 ·have e:qaB l n=l.take k++l.drop (k+1):=by rw[← qc6 h.up hk,he]
  rw[e]
  exact V8.cut h k
 ·have e:qaB l n=l:=List.filter_eq_self.2 fun p hp=>by simpa using hno p hp
  rw[e]
  exact h
theorem V9.gone_ok {c o:Ck} (V:V9 c) {n:Int} (h:qfR c n o):V9 o:=by
 have kn:qcM (qaB c.l n) c.s:=fun p hp=>V.k p (List.mem_filter.1 hp).1
 rcases h with ⟨h1,rfl⟩ | ⟨k,q,j,y,hq,he,_,hy,e1,e2,rfl⟩
 ·have e:qaB c.d n=c.d:=List.filter_eq_self.2 fun q hq=>by simpa using h1 q hq
  have D:=V.f.cut n
  rw[e] at D
  exact⟨V.t,V.s,V.v.without n,kn,V.a,V.w,V.e,DueF.map (c:=c) (fun _ _=>rfl) (fun _ _ _ _ ⟨y,h⟩=>⟨y,⟨h.id,h.lv,h.at_,h.k,h.n,h.d⟩⟩) D⟩
 ·obtain⟨A,pm,_⟩:=VA.without V.a hy
  have e:qaB c.d n=c.d.take k++c.d.drop (k+1):=by rw[← qc6 V.due_up hq,he]
  have D:=V.f.cut n
  have hk:=qaj hq
  have l0:=V.a.lens
  have l1:=A.lens
  have wl:=V.w
  have el:=V.e
  have le:=pm.length_eq
  rw[List.length_append] at le
  simp only[List.length_cons,List.length_nil] at le
  have y0:y.k=n:=by
   obtain⟨p0,_,_,y',hd⟩:=V.f.some q (List.mem_of_getElem? hq)
   obtain⟨w,g1,g2⟩:=hd.at_
   have o1:=(VA.own V.a hy).2
   rw[e1,g1] at o1
   have e3:(w:Int)=(j:Int):=Option.some.inj o1
   have e4:w=j:=by omega
   subst e4
   rw[hy] at g2
   have e5:y=y':=Option.some.inj g2
   subst e5
   exact hd.k.trans (hd.id.symm.trans he)
  have D2:DueF (qEv c n k j y) (qaB c.l n) (qaB c.d n):=DueF.map (c:=c) (fun _ _=>rfl) (fun p _ q' hq' ⟨y',h'⟩=>by
   obtain⟨f1,f2⟩:=h'.own V.a
   obtain⟨w,_,g2⟩:=h'.at_
   have hne:q'.id≠n:=by simpa using (List.mem_filter.1 hq').2
   refine⟨y',DueOk.mk' A ?_ f1 f2 h'.id h'.k h'.n h'.d⟩
   rcases List.mem_append.1 (pm.mem_iff.2 (List.mem_of_getElem? g2)) with hm | hm
   ·exact hm
   ·exfalso
    have e6:=List.mem_singleton.1 hm
    subst e6
    exact hne (h'.id.trans (h'.k.symm.trans y0))) D
  rw[e] at D2
  exact⟨V.t,V.s,V.v.without n,kn,A,by show (qam _ _ _ _).2.length=200;omega,by show (qam _ _ _ _).1.length=(c.d.take k++c.d.drop (k+1)).length;simp;omega,D2⟩
theorem qeX {u fr wh:List Int} {b:List Bool} {ev:List Ev} (h:VA u b fr ev wh) {x:Ev} (hx:ev[0]?=some x):∀ (j:Nat) (y:Ev),ev[j]?=some y→ltE y x=false:=by
 intro j
 induction j using Nat.strongRecOn with
 | ind j ih=>
  intro y hy
  rcases Nat.eq_zero_or_pos j with e | e
  ·subst e
   rw[hx] at hy
   cases hy
   exact qeS _
  ·have hj:=qaj hy
   obtain⟨z,hz⟩:=qah (l:=ev) (k:=(j-1)/2) (by omega)
   have h1:=h.hp j e hj
   unfold qbH at h1
   rw[hy,hz] at h1
   have h2:ltE y z=false:=by simpa using h1
   have ok:∀ w∈ev,EvOk w:=h.ef.ok
   exact qdn (ok y (List.mem_of_getElem? hy)) (ok z (List.mem_of_getElem? hz)) (ok x (List.mem_of_getElem? hx)) h2 (ih ((j-1)/2) (by omega) z hz)
theorem qn2 {x y:Ev} (h:ltE y x=false):x.n*y.d≤y.n*x.d:=by
 unfold ltE at h
 rw[Bool.or_eq_false_iff] at h
 have:=of_decide_eq_false h.1
 omega
theorem FailT.same {c:Ck} {p:Pt} (V:V9 c) (h1:I64 c.tn) (h2:I64 c.td) (hp:p∈c.l):FailT c.s c.tn c.td p:=qbw h1 h2 V.t V.s (V.v.ok p hp) (V.k p hp).1 (V.k p hp).2
theorem V9.later {c:Ck} (V:V9 c) (h1:I64 c.tn) (h2:I64 c.td) {tn td:Int} (i1:I64 tn) (i2:I64 td) (ht:okB tn td=true) (hl:c.tn*td≤tn*c.td) (hd:∀ y∈c.ev,tn*y.d≤y.n*td):V9 { c with tn:=tn,td:=td }:=by
 have same:∀ p∈c.l,qae c.s tn td p=qae c.s c.tn c.td p:=fun p hp=>by
  have F:=FailT.same V h1 h2 hp
  have F':FailT c.s tn td p:=qbw i1 i2 ht V.s (V.v.ok p hp) (V.k p hp).1 (V.k p hp).2
  refine qij F F' V.t ht hl fun f=>?_
  obtain⟨q,_,y,hy⟩:=V.f.all p hp f
  obtain⟨j,_,hj⟩:=hy.at_
  have:=hd y (List.mem_of_getElem? hj)
  rw[hy.n,hy.d] at this
  exact this
 exact⟨ht,V.s,V.v,V.k,V.a,V.w,V.e,DueF.map (c:=c) same (fun p hp q _ ⟨y,h⟩=>⟨y,⟨h.id,h.lv,h.at_,h.k,by rw[same p hp];exact h.n,by rw[same p hp];exact h.d⟩⟩) V.f⟩
theorem V9.failed_ok {c o:Ck} (V:V9 c) (h1:I64 c.tn) (h2:I64 c.td) {y:Ev} {p:Pt} (h:qdQ c y p o):V9 o∧I64 o.tn∧I64 o.td∧c.tn*y.d≤y.n*c.td:=by
 obtain⟨hy,hp,hk,g,hg,rfl⟩:=h
 obtain⟨p0,hp0,f0,q0,_,hd0⟩:=V.ev hy
 have F0:=FailT.same V h1 h2 hp0
 obtain⟨k1,k2,k3,k4⟩:=F0.i.ok f0
 rw[← hd0.n,← hd0.d] at k1 k4
 rw[← hd0.n] at k2
 rw[← hd0.d] at k3
 have G:=V.gone_ok hg
 have same:g.tn=c.tn∧g.td=c.td:=by
  rcases hg with ⟨_,rfl⟩ | ⟨_,_,_,_,_,_,_,_,_,_,rfl⟩<;>exact⟨rfl,rfl⟩
 have sub:∀ z∈g.ev,z∈c.ev:=by
  rcases hg with ⟨_,rfl⟩ | ⟨_,_,_,y',_,_,_,hy',_,_,rfl⟩
  ·exact fun z hz=>hz
  ·obtain⟨_,pm,_⟩:=VA.without V.a hy'
   exact fun z hz=>pm.mem_iff.1 (List.mem_append_left _ hz)
 refine⟨G.later (by rw[same.1];exact h1) (by rw[same.2];exact h2) k2 k3 k1 (by rw[same.1,same.2];exact k4) fun z hz=>?_,k2,k3,k4⟩
 obtain⟨j,hj⟩:=List.getElem?_of_mem (sub z hz)
 exact qn2 (qeX V.a hy j z hj)
end Go.Proofs.YtkjaanhddkkodaaGreat

namespace Go.Proofs.YtkjaanhddkkodaaGreat
set_option maxRecDepth 100000
open Go.RowKit
abbrev alC (c:Ck) (s:List Pt) (o:Ck):Ck:={ o with tn:=c.tn,td:=c.td,s:=s,x:=c.x,l:=c.l }
structure AlMid (c:Ck) (s:List Pt) (m l:List Pt) (o:Ck):Prop where
 f:DueF (alC c s o) m o.d
 ol:∀ p∈l,∀ q∈c.d,q.id=p.id→∃ y∈o.ev,y.i=q.a∧y.w=q.b∧y.k=p.id
 e:o.ev.length=o.d.length+(l.filter (qaQ c)).length
theorem V9.due_iff {c:Ck} (V:V9 c) {p:Pt} (hp:p∈c.l):(∃ q∈c.d,q.id=p.id)↔qaQ c p=true:=by
 constructor
 ·rintro⟨q,hq,he⟩
  obtain⟨p',hp',f,y,hd⟩:=V.f.some q hq
  obtain⟨i,hi⟩:=List.getElem?_of_mem hp
  obtain⟨j,hj⟩:=List.getElem?_of_mem hp'
  have:=(qmR V.v.up hi hj (he.symm.trans hd.id)).2
  rw[this]
  exact f
 ·intro f
  obtain⟨q,hq,y,hy⟩:=V.f.all p hp f
  exact⟨q,hq,hy.id⟩
theorem qgR {c:Ck} {s m:List Pt} {o o2:Ck} (A:VA o.u o.b o.fr o.ev o.wh) (A2:VA o2.u o2.b o2.fr o2.ev o2.wh) (h:DueF (alC c s o) m o.d) (hk:∀ p∈m,∀ y∈o.ev,y.k=p.id→y∈o2.ev):DueF (alC c s o2) m o.d:=
 DueF.map (c:=alC c s o) (fun _ _=>rfl) (fun p hp _ _ ⟨y,hy⟩=>by
  obtain⟨e1,e2⟩:=DueOk.own hy A
  obtain⟨j,_,hj⟩:=hy.at_
  exact⟨y,DueOk.mk' (c:=alC c s o2) A2 (hk p hp y (List.mem_of_getElem? hj) hy.k) e1 e2 hy.id hy.k hy.n hy.d⟩) h
theorem AlStep.mid {c:Ck} {s:List Pt} (P:AlPre c s) {p:Pt} {m l:List Pt} {o o2:Ck} (hp:p∈c.l) (hu:∀ p'∈l,p'.id≠p.id) (hm:∀ p'∈m,p'.id≠p.id) (I:AlInv c (p::l) o) (M:AlMid c s m (p::l) o) (h:AlStep c s p o o2):AlMid c s (m++[p]) l o2:=by
 have F:=P.fail hp
 have D:=P.V.due_iff hp
 have I2:=h.inv P hp hu I
 have Me:=M.e
 cases h with
 | @key j k q y f hq he hf hy e1 e2=>
  obtain⟨k1,k2,k3,_⟩:=F.i.ok f
  obtain⟨A,pm⟩:=VA.rekey ⟨k2,k3⟩ k1 I.a hy
  obtain⟨y1,hy1,g1,g2,g3⟩:=M.ol p List.mem_cons_self q (List.mem_of_getElem? hq) he
  have ey:y1=y:=by
   obtain⟨j1,hj1⟩:=List.getElem?_of_mem hy1
   have o1:=(VA.own I.a hj1).2
   have o2:=(VA.own I.a hy).2
   rw[g1] at o1
   rw[e1,o1] at o2
   have e3:(j1:Int)=(k:Int):=Option.some.inj o2
   have e4:j1=k:=by omega
   subst e4
   rw[hj1] at hy
   exact Option.some.inj hy
  subst ey
  have fp:qaQ c p=true:=D.1 ⟨q,List.mem_of_getElem? hq,he⟩
  rw[List.filter_cons_of_pos fp,List.length_cons] at Me
  have le:=pm.length_eq
  rw[List.length_set] at le
  have hk:=qaj hy
  have stay:∀ z∈o.ev,z.k≠p.id→z∈(qa0 o.ev o.wh k y1 (qae s c.tn c.td p).1 (qae s c.tn c.td p).2.1).1:=fun z hz hne=>by
   obtain⟨i,hi⟩:=List.getElem?_of_mem hz
   have hne2:k≠i:=fun e=>by
    subst e
    rw[hy] at hi
    have e5:=Option.some.inj hi
    subst e5
    exact hne g3
   refine pm.mem_iff.2 (List.mem_of_getElem? (i:=i) ?_)
   rw[List.getElem?_set,if_neg hne2]
   exact hi
  have new:(⟨(qae s c.tn c.td p).1,(qae s c.tn c.td p).2.1,y1.k,y1.i,y1.w⟩:Ev)∈(qa0 o.ev o.wh k y1 (qae s c.tn c.td p).1 (qae s c.tn c.td p).2.1).1:=
   pm.mem_iff.2 (List.mem_of_getElem? (i:=k) (by rw[List.getElem?_set,if_pos rfl,if_pos hk]))
  refine⟨?_,fun p' hp' q' hq' he'=>?_,by show (qa0 _ _ _ _ _ _).1.length=_;simp only[List.length_append,List.length_cons,List.length_nil];omega⟩
  ·have K:=qgR (c:=c) (s:=s) (o2:={ o with ev:=(qa0 o.ev o.wh k y1 (qae s c.tn c.td p).1 (qae s c.tn c.td p).2.1).1,wh:=(qa0 o.ev o.wh k y1 (qae s c.tn c.td p).1 (qae s c.tn c.td p).2.1).2,d:=o.d++[q] }) I.a A M.f (fun p' hp' z hz hzk=>stay z hz (by rw[hzk];exact hm p' hp'))
   exact (K.snoc).2 f q _ (DueOk.mk' A new e1 e2 he g3 rfl rfl)
  ·obtain⟨y2,hy2,w1,w2,w3⟩:=M.ol p' (List.mem_cons_of_mem _ hp') q' hq' he'
   exact⟨y2,stay y2 hy2 (by rw[w3];exact hu p' hp'),w1,w2,w3⟩
 | @push u2 f2 b2 hi hw f hn ht=>
  obtain⟨k1,k2,k3,_⟩:=F.i.ok f
  have hz:cnE o.ev p.id=0:=by
   have h1:=P.V.v.lo p hp
   have h2:=P.V.v.hi p hp
   have h3:=P.V.v.nx
   unfold cnE
   rw[if_pos (by omega),if_neg]
   rintro⟨m,hm,e⟩
   exact I.nw m hm p List.mem_cons_self hn e
  obtain⟨A,pm,_,_⟩:=VA.push ⟨k2,k3⟩ k1 I.a hz ht
  have fp:¬ qaQ c p=true:=fun h=>by
   obtain⟨q,hq,he⟩:=D.2 h
   exact hn q hq he
  rw[List.filter_cons_of_neg fp] at Me
  have le:=pm.length_eq
  rw[List.length_append] at le
  simp only[List.length_cons,List.length_nil] at le
  refine⟨?_,fun p' hp' q' hq' he'=>?_,by show (qa6 _ _ _).1.length=_;simp only[List.length_append,List.length_cons,List.length_nil];omega⟩
  ·have K:=qgR (c:=c) (s:=s) (o2:={ o with u:=u2,b:=b2,fr:=f2,ev:=(qa6 o.ev o.wh ⟨(qae s c.tn c.td p).1,(qae s c.tn c.td p).2.1,p.id,hi,hw⟩).1,wh:=(qa6 o.ev o.wh ⟨(qae s c.tn c.td p).1,(qae s c.tn c.td p).2.1,p.id,hi,hw⟩).2,d:=o.d++[⟨p.id,hi,hw⟩] }) I.a A M.f (fun p' hp' z hz hzk=>pm.mem_iff.2 (List.mem_append_left _ hz))
   exact (K.snoc).2 f _ _ (DueOk.mk' A (pm.mem_iff.2 (List.mem_append_right _ (List.mem_singleton.2 rfl))) rfl rfl rfl rfl rfl rfl)
  ·obtain⟨y2,hy2,w⟩:=M.ol p' (List.mem_cons_of_mem _ hp') q' hq' he'
   exact⟨y2,pm.mem_iff.2 (List.mem_append_left _ hy2),w⟩
 | @gone j k q y f hq he hf hy e1 e2=>
  obtain⟨A,pm,_⟩:=VA.without I.a hy
  obtain⟨y1,hy1,g1,g2,g3⟩:=M.ol p List.mem_cons_self q (List.mem_of_getElem? hq) he
  have ey:y1=y:=by
   obtain⟨j1,hj1⟩:=List.getElem?_of_mem hy1
   have o1:=(VA.own I.a hj1).2
   have o2:=(VA.own I.a hy).2
   rw[g1] at o1
   rw[e1,o1] at o2
   have e3:(j1:Int)=(k:Int):=Option.some.inj o2
   have e4:j1=k:=by omega
   subst e4
   rw[hj1] at hy
   exact Option.some.inj hy
  subst ey
  have fp:qaQ c p=true:=D.1 ⟨q,List.mem_of_getElem? hq,he⟩
  rw[List.filter_cons_of_pos fp,List.length_cons] at Me
  have le:=pm.length_eq
  rw[List.length_append] at le
  simp only[List.length_cons,List.length_nil] at le
  have stay:∀ z∈o.ev,z.k≠p.id→z∈(qam o.ev o.wh k y1).1:=fun z hz hne=>by
   rcases List.mem_append.1 (pm.mem_iff.2 hz) with h | h
   ·exact h
   ·exfalso
    rw[List.mem_singleton.1 h] at hne
    exact hne g3
  refine⟨?_,fun p' hp' q' hq' he'=>?_,by show (qam _ _ _ _).1.length=_;show _=o.d.length+_;omega⟩
  ·have K:=qgR (c:=c) (s:=s) (o2:={ o with b:=o.b.set y1.i.toNat false,fr:=o.fr++[y1.i],ev:=(qam o.ev o.wh k y1).1,wh:=(qam o.ev o.wh k y1).2 }) I.a A M.f (fun p' hp' z hz hzk=>stay z hz (by rw[hzk];exact hm p' hp'))
   exact (K.snoc).1 f
  ·obtain⟨y2,hy2,w1,w2,w3⟩:=M.ol p' (List.mem_cons_of_mem _ hp') q' hq' he'
   exact⟨y2,stay y2 hy2 (by rw[w3];exact hu p' hp'),w1,w2,w3⟩
 | skip f hn=>
  have fp:¬ qaQ c p=true:=fun h=>by
   obtain⟨q,hq,he⟩:=D.2 h
   exact hn q hq he
  rw[List.filter_cons_of_neg fp] at Me
  exact⟨(M.f.snoc).1 f,fun p' hp'=>M.ol p' (List.mem_cons_of_mem _ hp'),Me⟩
theorem AlRun.ok {c:Ck} {s:List Pt} (P:AlPre c s) {l:List Pt} {o:Ck} {r:Option Ck} (h:AlRun c s l o r):∀ {m:List Pt},m++l=c.l→AlInv c l o→AlMid c s m l o→∀ o',r=some o'→AlInv c [] o'∧AlMid c s c.l [] o':=by
 induction h with
 | nil o=>
  intro m hm I M o' e
  cases e
  rw[List.append_nil] at hm
  rw[← hm]
  exact⟨I,M⟩
 | @step p l o o2 r hs _ ih=>
  intro m hm I M o' e
  have hp:p∈c.l:=by rw[← hm];simp
  have nd:=P.V.v.up.nodup
  rw[← hm,List.map_append,List.map_cons,List.nodup_append] at nd
  obtain⟨_,nl,nm⟩:=nd
  rw[List.nodup_cons] at nl
  have hu:∀ p'∈l,p'.id≠p.id:=fun p' hp' e=>nl.1 (List.mem_map.2 ⟨p',hp',e⟩)
  have hmm:∀ p'∈m,p'.id≠p.id:=fun p' hp' e=>nm p'.id (List.mem_map.2 ⟨p',hp',rfl⟩) p.id List.mem_cons_self e
  exact ih (m:=m++[p]) (by rw[List.append_assoc];exact hm) (hs.inv P hp hu I) (hs.mid P hp hu hmm I M) o' e
 | full _=>intro m _ _ _ o' e;cases e
theorem V9.alter_ok {c:Ck} {s:List Pt} (P:AlPre c s) {o:Ck} (h:AlRun c s c.l { c with d:=[] } (some o)):V9 (alC c s o):=by
 have M0:AlMid c s [] c.l { c with d:=[] }:=⟨rfl,fun p hp q hq he=>by
  obtain⟨p',hp',_,y,hd⟩:=P.V.f.some q hq
  obtain⟨e1,e2⟩:=hd.own P.V.a
  obtain⟨j,_,hj⟩:=hd.at_
  exact⟨y,List.mem_of_getElem? hj,e1,e2,hd.k.trans (hd.id.symm.trans he)⟩,by
  have:=congrArg List.length P.V.f.ids
  rw[List.length_map,List.length_map] at this
  have e:=P.V.e
  show c.ev.length=0+_
  omega⟩
 obtain⟨I,M⟩:=h.ok P (m:=[]) rfl (qgH P) M0 o rfl
 have e:=M.e
 exact⟨P.V.t,P.sv,P.V.v,P.kn,I.a,I.w,by simpa using e,M.f⟩
end Go.Proofs.YtkjaanhddkkodaaGreat

namespace Go.Proofs.YtkjaanhddkkodaaGreat
set_option maxRecDepth 100000
open Go.RowKit
def qeu (c:Ck):Bool:=decide (40<c.l.length)||(decide (40<c.d.length)||(decide (¬ (c.s.length≤16∨64≤c.s.length∧c.s.length≤70))||qhC c.u c.b c.fr c.ev c.wh))
theorem qfP (c:Ck):Fn 26 8 [qap c] (qaq c) (.pv (.bool (qeu c))) 0 []:=by
 unfold qeu
 by_cases h1:40<c.l.length
 ·rw[dt h1]
  exact qDM (g1:=dt (by omega))
 ·rw[df h1,Bool.false_or]
  by_cases h2:40<c.d.length
  ·rw[dt h2]
   exact qDf (g1:=df (by omega)) (g2:=dt (by omega))
  ·rw[df h2,Bool.false_or]
   rcases qmh c.s with ⟨h3,hG⟩ | ⟨h3,hG⟩
   ·rw[dt h3]
    exact qCM (g1:=df (by omega)) (g2:=df (by omega)) (hf:=hG)
   ·rw[df fun h=>h h3,Bool.false_or]
    have hA:=qlq (u:=c.u) (b:=c.b) (fr:=c.fr) (ev:=c.ev) (wh:=c.wh)
    cases e:qhC c.u c.b c.fr c.ev c.wh
    ·rw[e] at hA
     exact qxg (g1:=df (by omega)) (g2:=df (by omega)) (hf:=hG) (hg:=hA)
    ·rw[e] at hA
     exact qDo (g1:=df (by omega)) (g2:=df (by omega)) (hf:=hG) (hg:=hA)
theorem qhh {c:Ck} (h:qeu c=false) (h1:I64 c.tn) (h2:I64 c.td) (hi:∀ y∈c.ev,EvI y):S9 c∧c.l.length≤40∧c.d.length≤40∧c.s.length≤70:=by
 unfold qeu at h
 rw[Bool.or_eq_false_iff,Bool.or_eq_false_iff,Bool.or_eq_false_iff] at h
 obtain⟨a1,a2,a3,a4⟩:=h
 have b1:=of_decide_eq_false a1
 have b2:=of_decide_eq_false a2
 have b3:c.s.length≤16∨64≤c.s.length∧c.s.length≤70:=Classical.byContradiction fun h=>by
  rw[dt h] at a3
  cases a3
 unfold qhC at a4
 rw[Bool.or_eq_false_iff,Bool.or_eq_false_iff] at a4
 obtain⟨g1,g2,g3⟩:=a4
 have g2:=of_decide_eq_false g2
 have g3:=of_decide_eq_false g3
 obtain⟨k1,k2,k3⟩:=qkn g1
 exact⟨⟨h1,h2,by omega,by omega,⟨k1,k2,k3,by omega,by omega,hi⟩⟩,by omega,by omega,by omega⟩
end Go.Proofs.YtkjaanhddkkodaaGreat

namespace Go.Proofs.YtkjaanhddkkodaaGreat
set_option maxRecDepth 100000
open Go.RowKit
abbrev qz1 (f:FuncId) (s:List Pt) (tn td:Int):Prop:=Fn f 1 [qaI 0 s,.pv (qaa tn td)] [(0,0,qak s)] (.tu [.ag [.pv (iV tn),.pv (iV td),.ls 1 s.length,.pv (iV 0),.ls 7 0,.ls 2 (qdX s tn td).u.length,.ls 3 (qdX s tn td).b.length,.ls 4 (qdX s tn td).fr.length,.ls 6 0,.ls 5 (qdX s tn td).wh.length,.ls 8 0],.one (.pv (iV 0))]) 8 [(8,0,qaU []),(7,0,qal []),(1,0,qak s),(2,0,zrI (qdX s tn td).u),(3,0,zrB (qdX s tn td).b),(4,0,zrI (qdX s tn td).fr),(5,0,zrI (qdX s tn td).wh),(6,0,qau [])]
structure Prog9:Prop where
 new:∀ {s:List Pt} {tn td:Int},I64 tn→I64 td→(tE s tn td≠0→qyJ 10 s tn td (tE s tn td))∧(tE s tn td=0→qz1 10 s tn td)
 check:∀ {c:Ck},S9 c→c.s.length≤70→Fn 22 8 [qap c] (qaq c) (.pv (iV (qop c))) 0 []
 certify:∀ {c:Ck},S9 c→c.s.length≤70→∀ a b,(cyE c a b≠0→qAF 16 c a b (cyE c a b))∧(cyE c a b=0→∀ o,qhl c a b o→qE1 16 c a b o)
 retire:∀ {c:Ck},S9 c→c.s.length≤70→∀ n,(reE c n≠0→qAV 17 c n (reE c n))∧(reE c n=0→∀ o,qfR c n o→qEY 17 c n o)
 next:∀ {c:Ck},S9 c→c.s.length≤70→(¬ V9 c→Fn 18 8 [qap c] (qaq c) (.pv (.tuple #[evZ,iV 8])) 0 [])∧(V9 c→c.ev=[]→Fn 18 8 [qap c] (qaq c) (.pv (.tuple #[evZ,iV 42])) 0 [])∧(V9 c→∀ y,c.ev[0]?=some y→Fn 18 8 [qap c] (qaq c) (.pv (.tuple #[qab y,iV 0])) 0 [])
 fail:∀ {c:Ck},S9 c→c.s.length≤70→∀ {tn td:Int},I64 tn→I64 td→(faE c tn td≠0→qxW 19 c tn td (faE c tn td))∧(faE c tn td=0→∀ y p o,qdQ c y p o→qE2 19 c tn td y p o)
 move:∀ {c:Ck},S9 c→c.s.length≤70→∀ {tn td:Int},I64 tn→I64 td→(moE c tn td≠0→qyg 20 c tn td (moE c tn td))∧(moE c tn td=0→qEx 20 c tn td)
 alter:∀ {c:Ck},S9 c→c.s.length≤70→∀ s:List Pt,s.length≤70→(qid c s≠0→qoH 21 c s (qid c s))∧(qid c s=0→∀ r,AlRun c s c.l { c with d:=[] } r→(∀ o,r=some o→qED 21 c s o)∧(r=none→qoH 21 c s 18))
theorem qB4 {c:Ck} {a b:Int} (h:cyE c a b=0):V9 c∧qcc a b=true∧(∃ q∈c.s,q.id=a)∧(∃ q∈c.s,q.id=b)∧adE c a b=0:=by
 unfold cyE at h
 split at h
 ·rename_i h1
  split at h
  ·rename_i h2
   exact⟨h1.1,h1.2,h2.1,h2.2,h⟩
  ·cases h
 ·cases h
theorem qtd {c o:Ck} {a b:Int} (h:qhl c a b o):o.tn=c.tn∧o.td=c.td∧o.s=c.s:=by
 rcases h with ⟨_,rfl⟩ | ⟨_,_,_,_,_,_,_,rfl⟩<;>exact⟨rfl,rfl,rfl⟩
end Go.Proofs.YtkjaanhddkkodaaGreat

namespace Go.Proofs.YtkjaanhddkkodaaGreat
set_option maxRecDepth 100000
open Go.RowKit
theorem qxT {c:Ck} (hg:Fn 26 8 [qap c] (qaq c) (.pv (.bool true)) 0 []) :
 Fn 37 8 [qap c] (qaq c) (.pv (.bool false)) 0 []:=
 Fz [] [Cf hg [0,1,2,3,4,5,6,7],.k]
  tI (Co hg [0,1,2,3,4,5,6,7] 9 tI)
theorem qAI {c:Ck} {e:Int} (hg:Fn 26 8 [qap c] (qaq c) (.pv (.bool false)) 0 []) (hc:Fn 31 8 [qap c] (qaq c) (.pv (iV (e))) 0 []) (he:(e==0)=true) :
 Fn 37 8 [qap c] (qaq c) (.pv (.bool true)) 0 []:=
 Fz [] [Cf hg [0,1,2,3,4,5,6,7],.k,Cf hc [0,1,2,3,4,5,6,7],.t true]
  tI (Co hg [0,1,2,3,4,5,6,7] 9 (Co hc [0,1,2,3,4,5,6,7] 9 (Ai he tI)))
theorem qs4 {c:Ck} {e:Int} (hg:Fn 26 8 [qap c] (qaq c) (.pv (.bool false)) 0 []) (hc:Fn 31 8 [qap c] (qaq c) (.pv (iV (e))) 0 []) (he:(e==0)=false) :
 Fn 37 8 [qap c] (qaq c) (.pv (.bool false)) 0 []:=
 Fz [] [Cf hg [0,1,2,3,4,5,6,7],.k,Cf hc [0,1,2,3,4,5,6,7],.t false]
  tI (Co hg [0,1,2,3,4,5,6,7] 9 (Co hc [0,1,2,3,4,5,6,7] 9 (Ai he tI)))
theorem qmO {c:Ck} {tn td:Int} (hft:Fn 37 8 [qap c] (qaq c) (.pv (.bool false)) 0 []) (hal:Pure Tryz.prog 24 #[] (.bool true)) :
 Fn 6 8 [qap c,.pv (qaa tn td)] (qaq c) (.pv (.bool true)) 0 []:=
 Fz [] [Cf hft [0,1,2,3,4,5,6,7],.k,Rf hal]
  tI (Co hft [0,1,2,3,4,5,6,7] 10 (Ai hal tI))
theorem qnc {c:Ck} {tn td e:Int} (hft:Fn 37 8 [qap c] (qaq c) (.pv (.bool true)) 0 []) (hu:Fn 38 8 [qap c,.pv (qaa tn td)] (qaq c) (.pv (iV (e))) 0 []) (he:(e !=0)=true) (hal:Pure Tryz.prog 24 #[] (.bool true)) :
 Fn 6 8 [qap c,.pv (qaa tn td)] (qaq c) (.pv (.bool true)) 0 []:=
 Fz [] [Cf hft [0,1,2,3,4,5,6,7],.k,Cf hu [0,1,2,3,4,5,6,7],.t true,Rf hal]
  tI (Co hft [0,1,2,3,4,5,6,7] 10 (Co hu [0,1,2,3,4,5,6,7] 10 (Ai he (Ai hal tI))))
abbrev qlI (d1:Int) (n1:Int) (td:Int) (tn:Int):HpL:=[(9,0,.pv (iV tn)),(9,1,.pv (iV td)),(10,0,.pv (iV n1)),(10,1,.pv (iV d1))]
abbrev qwG (k:Nat) (m2:Int):TmL:=[(2,.pp 8 0),(3,.pp 9 0),(5,.pv (iV (m2))),(6,.pp 10 0),(7,.pv (iV (k:Int)))]
abbrev qCt (k:Nat) (m2:Int):TmL:=[(2,.pp 8 0),(3,.pp 9 0),(5,.pv (iV (m2))),(6,.pp 10 0),(7,.pv (iV ((k+1:Nat):Int)))]
theorem qvD {c:Ck} {k:Nat} {n z tn td m2 n1 d1:Int} {p:Pt} (hk:c.l[k]?=some p) (hin:0≤(k:Int)∧(k:Int)<(c.l.length:Int)) (hlt:decide ((k:Int)<(c.l.length:Int))=true) (hwn:Fn 39 1 [qaI 0 c.s,.pv (qag p.a p.b),.pv (qaa c.tn c.td)] [(0,0,qak c.s)] (.pv (.tuple #[qaa n z,.bool false])) 0 []) (hs:iV (IntKind.i64.wrap ((k:Int)+1))=iV (((k+1:Nat):Int))) {e:Exit} {tm2:TmL} {hp2:HpL}
 (r:Rl 8 8 6 0 167 11 (qCt k m2) ((qbr 8 c++(qlI d1 n1 td tn))) e tm2 hp2):Rl 8 8 6 0 167 11 (qwG k m2) ((qbr 8 c++(qlI d1 n1 td tn))) e tm2 hp2:=
 RunsL.next [] 300 [.t true,.r (qag p.a p.b),Cf hwn [0],Re hs]
  (Ro (Ai hlt (Ai hin (Ai (qco hk) (Co hwn [0] 11 (Ai hs tI)))))) r
abbrev qBg (c:Ck) (n:Int) (p:Pt) (z:Int):Prop:=Fn 39 1 [qaI 0 c.s,.pv (qag p.a p.b),.pv (qaa c.tn c.td)] [(0,0,qak c.s)] (.pv (.tuple #[qaa n z,.bool true])) 0 []
theorem qt9 {c:Ck} {k:Nat} {n z tn td m2 v1 n1 d1:Int} {p:Pt} (hk:c.l[k]?=some p) (hin:0≤(k:Int)∧(k:Int)<(c.l.length:Int)) (hlt:decide ((k:Int)<(c.l.length:Int))=true) (hwn:qBg c n p z) (hc1:Pure Tryz.prog 40 #[qaa n z,qaa tn td] (iV (v1))) (h1:decide (v1≤0)=false) (hs:iV (IntKind.i64.wrap ((k:Int)+1))=iV (((k+1:Nat):Int))) {e:Exit} {tm2:TmL} {hp2:HpL}
 (r:Rl 8 8 6 0 167 11 (qCt k m2) ((qbr 8 c++(qlI d1 n1 td tn))) e tm2 hp2):Rl 8 8 6 0 167 11 (qwG k m2) ((qbr 8 c++(qlI d1 n1 td tn))) e tm2 hp2:=
 RunsL.next [] 300 [.t true,.r (qag p.a p.b),Cf hwn [0],Rf hc1,.t false,Re hs]
  (Ro (Ai hlt (Ai hin (Ai (qco hk) (Co hwn [0] 11 (Ai hc1 (Ai h1 (Ai hs tI)))))))) r
abbrev qEQ (k:Nat):TmL:=[(2,.pp 8 0),(3,.pp 9 0),(5,.pv (iV (k:Int))),(6,.pp 10 0),(7,.pv (iV ((k+1:Nat):Int)))]
theorem qtr {c:Ck} {k:Nat} {n z tn td m2 v1 n1 d1:Int} {p:Pt} (hk:c.l[k]?=some p) (hin:0≤(k:Int)∧(k:Int)<(c.l.length:Int)) (hlt:decide ((k:Int)<(c.l.length:Int))=true) (hwn:qBg c n p z) (hc1:Pure Tryz.prog 40 #[qaa n z,qaa tn td] (iV (v1))) (h1:decide (v1≤0)=true) (h2:decide (m2<0)=true) (hs:iV (IntKind.i64.wrap ((k:Int)+1))=iV (((k+1:Nat):Int))) {e:Exit} {tm2:TmL} {hp2:HpL}
 (r:Rl 8 8 6 0 167 11 (qEQ k) ((qbr 8 c++[(9,0,.pv (iV tn)),(9,1,.pv (iV td)),(10,0,.pv (iV n)),(10,1,.pv (iV z))])) e tm2 hp2):Rl 8 8 6 0 167 11 (qwG k m2) ((qbr 8 c++(qlI d1 n1 td tn))) e tm2 hp2:=
 RunsL.next [] 300 [.t true,.r (qag p.a p.b),Cf hwn [0],Rf hc1,.t true,.t true,Re hs]
  (Ro (Ai hlt (Ai hin (Ai (qco hk) (Co hwn [0] 11 (Ai hc1 (Ai h1 (Ai h2 (Ai hs tI))))))))) r
theorem qpM {c:Ck} {k:Nat} {n z tn td m2 v1 v2 n1 d1:Int} {p:Pt} (hk:c.l[k]?=some p) (hin:0≤(k:Int)∧(k:Int)<(c.l.length:Int)) (hlt:decide ((k:Int)<(c.l.length:Int))=true) (hwn:qBg c n p z) (hc1:Pure Tryz.prog 40 #[qaa n z,qaa tn td] (iV (v1))) (h1:decide (v1≤0)=true) (h2:decide (m2<0)=false) (hc2:Pure Tryz.prog 40 #[qaa n z,qaa n1 d1] (iV (v2))) (h3:decide (v2<0)=true) (hs:iV (IntKind.i64.wrap ((k:Int)+1))=iV (((k+1:Nat):Int))) {e:Exit} {tm2:TmL} {hp2:HpL}
 (r:Rl 8 8 6 0 167 11 (qEQ k) ((qbr 8 c++[(9,0,.pv (iV tn)),(9,1,.pv (iV td)),(10,0,.pv (iV n)),(10,1,.pv (iV z))])) e tm2 hp2):Rl 8 8 6 0 167 11 (qwG k m2) ((qbr 8 c++(qlI d1 n1 td tn))) e tm2 hp2:=
 RunsL.next [] 300 [.t true,.r (qag p.a p.b),Cf hwn [0],Rf hc1,.t true,.t false,Rf hc2,.t true,Re hs]
  (Ro (Ai hlt (Ai hin (Ai (qco hk) (Co hwn [0] 11 (Ai hc1 (Ai h1 (Ai h2 (Ai hc2 (Ai h3 (Ai hs tI))))))))))) r
theorem qrg {c:Ck} {k:Nat} {n z tn td m2 v1 v2 n1 d1:Int} {p:Pt} (hk:c.l[k]?=some p) (hin:0≤(k:Int)∧(k:Int)<(c.l.length:Int)) (hlt:decide ((k:Int)<(c.l.length:Int))=true) (hwn:qBg c n p z) (hc1:Pure Tryz.prog 40 #[qaa n z,qaa tn td] (iV (v1))) (h1:decide (v1≤0)=true) (h2:decide (m2<0)=false) (hc2:Pure Tryz.prog 40 #[qaa n z,qaa n1 d1] (iV (v2))) (h3:decide (v2<0)=false) (hs:iV (IntKind.i64.wrap ((k:Int)+1))=iV (((k+1:Nat):Int))) {e:Exit} {tm2:TmL} {hp2:HpL}
 (r:Rl 8 8 6 0 167 11 (qCt k m2) ((qbr 8 c++(qlI d1 n1 td tn))) e tm2 hp2):Rl 8 8 6 0 167 11 (qwG k m2) ((qbr 8 c++(qlI d1 n1 td tn))) e tm2 hp2:=
 RunsL.next [] 300 [.t true,.r (qag p.a p.b),Cf hwn [0],Rf hc1,.t true,.t false,Rf hc2,.t false,Re hs]
  (Ro (Ai hlt (Ai hin (Ai (qco hk) (Co hwn [0] 11 (Ai hc1 (Ai h1 (Ai h2 (Ai hc2 (Ai h3 (Ai hs tI))))))))))) r
theorem qs7 {c:Ck} {k:Nat} {tn td m2 n1 d1:Int} (hge:decide ((k:Int)<(c.l.length:Int))=false):Rl 8 8 6 0 167 11 (qwG k m2) ((qbr 8 c++(qlI d1 n1 td tn))) (.exit 0) ([(2,.pp 8 0),(3,.pp 9 0),(5,.pv (iV (m2))),(6,.pp 10 0)]) ((qbr 8 c++(qlI d1 n1 td tn))):=
 RunsL.stop [] 300 [.t false] (fun h=>by cases h)
  (Ro (Ai hge tI))
abbrev qEz:TmL:=[(2,.pp 8 0),(3,.pp 9 0),(5,.pv (iV (-1))),(6,.pp 10 0),(7,.pv (iV ((0:Nat):Int)))]
theorem qqt {c:Ck} {tn td m2 n1 d1:Int} (hft:Fn 37 8 [qap c] (qaq c) (.pv (.bool true)) 0 []) (hu:Fn 38 8 [qap c,.pv (qaa tn td)] (qaq c) (.pv (iV (0))) 0 []) (r0:Rl 8 8 6 0 167 11 (qEz) ((qbr 8 c++[(9,0,.pv (iV tn)),(9,1,.pv (iV td)),(10,0,.pv (iV 0)),(10,1,.pv (iV 0))])) (.exit 0) ([(2,.pp 8 0),(3,.pp 9 0),(5,.pv (iV (m2))),(6,.pp 10 0)]) ((qbr 8 c++(qlI d1 n1 td tn)))) (hf:Fn 19 8 [qap c,.pv (qaa tn td)] (qaq c) (.pv (.tuple #[qcC,.agg #[iV 0,iV 0,iV 0,iV 0,iV 0],qag 0 0,iV 6])) 0 []) (hm:Fn 20 8 [qap c,.pv (qaa tn td)] (qaq c) (.tu [qgY { c with tn:=tn,td:=td },.one (.pv (iV 0))]) 8 (qdu c)) (hb:decide (m2<0)=true) (hal:Pure Tryz.prog 24 #[] (.bool true)) :
 Fn 6 8 [qap c,.pv (qaa tn td)] (qaq c) (.pv (.bool true)) 0 []:=
 qcR 400 [] [Cf hft [0,1,2,3,4,5,6,7],.k,Cf hu [0,1,2,3,4,5,6,7],.k,Lf r0,Cf hf [0,1,2,3,4,5,6,7],Cf hm [0,1,2,3,4,5,6,7],.t true,.k,.k,Rf hal]
  tI (Co hft [0,1,2,3,4,5,6,7] 10 (Co hu [0,1,2,3,4,5,6,7] 10 (Lo r0 [] (Co hf [0,1,2,3,4,5,6,7] 11 (Co hm [0,1,2,3,4,5,6,7] 14 (Ai hb (Ai hal tI))))))) (by kernel_rfl)
theorem qqx {c o1:Ck} {j:Nat} {tn td v1 i1 n1 d1:Int} {y:Ev} {p q:Pt} (hft:Fn 37 8 [qap c] (qaq c) (.pv (.bool true)) 0 []) (hu:Fn 38 8 [qap c,.pv (qaa tn td)] (qaq c) (.pv (iV (0))) 0 []) (r0:Rl 8 8 6 0 167 11 (qEz) ((qbr 8 c++[(9,0,.pv (iV tn)),(9,1,.pv (iV td)),(10,0,.pv (iV 0)),(10,1,.pv (iV 0))])) (.exit 0) ([(2,.pp 8 0),(3,.pp 9 0),(5,.pv (iV (j:Int))),(6,.pp 10 0)]) ((qbr 8 c++(qlI d1 n1 td tn)))) (hf:Fn 19 8 [qap c,.pv (qaa tn td)] (qaq c) (.tu [qgY o1,.one (.pv (qab y)),.one (.pv (qag q.a q.b)),.one (.pv (iV 0))]) 8 (qdu o1)) (hm:Fn 20 8 [qap c,.pv (qaa tn td)] (qaq c) (.pv (.tuple #[qcC,iV 36])) 0 []) (hb:decide ((j:Int)<0)=false) (hj:c.l[j]?=some p) (hij:0≤(j:Int)∧(j:Int)<(c.l.length:Int)) (t1:(y.n==n1&&(y.d==d1&&true))=true) (t2:(y.k==p.id)=true) (t3:(q.a==p.a&&(q.b==p.b&&true))=true) (t4:(o1.tn==n1&&(o1.td==d1&&true))=true) (hck:Fn 31 8 [qap o1] (qaq o1) (.pv (iV (0))) 0 []) (ha8:Fn 41 1 [qaP 0 o1.x o1.l,.pv (iV (p.id))] [(0,0,qal o1.l)] (.pv (iV (i1))) 0 []) (t5:decide (i1<0)=true) (hl1:iV (IntKind.i64.wrap ((c.l.length:Int)-1))=iV (v1)) (t6:((o1.l.length:Int)==v1)=true) (hsf:Fn 36 2 [qaI 0 o1.s,qaI 1 c.s] [(0,0,qak o1.s),(1,0,qak c.s)] (.pv (.bool true)) 0 []) (hal:Pure Tryz.prog 24 #[] (.bool true)) :
 Fn 6 8 [qap c,.pv (qaa tn td)] (qaq c) (.pv (.bool true)) 0 []:=
 qcR 500 [] [Cf hft [0,1,2,3,4,5,6,7],.k,Cf hu [0,1,2,3,4,5,6,7],.k,Lf r0,Cf hf [0,1,2,3,4,5,6,7],Cf hm [0,1,2,3,4,5,6,7],.t false,.r (ptV p),.k,.k,.t true,.t true,.t true,.t true,Cf hck [11,12,13,14,15,16,17,18],.k,Cf ha8 [12],.t true,Re hl1,.t true,Cf hsf [11,0],Rf hal]
  tI (Co hft [0,1,2,3,4,5,6,7] 10 (Co hu [0,1,2,3,4,5,6,7] 10 (Lo r0 [] (Co hf [0,1,2,3,4,5,6,7] 11 (Co hm [0,1,2,3,4,5,6,7] 22 (Ai hb (Ai hij (Ai (qaO hj) (Ai t1 (Ai t2 (Ai t3 (Ai t4 (Co hck [11,12,13,14,15,16,17,18] 24 (Co ha8 [12] 24 (Ai t5 (Ai hl1 (Ai t6 (Co hsf [11,0] 24 (Ai hal tI))))))))))))))))))) (by kernel_rfl)
end Go.Proofs.YtkjaanhddkkodaaGreat
