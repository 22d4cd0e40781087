/-
  Joined: Lp, Lq, Lu. Conditions: none.
-/
import Derived.Test.YtkjaanhddkkodaaGreatW41
import Derived.Test.YtkjaanhddkkodaaGreatW18
namespace Go.Proofs.YtkjaanhddkkodaaGreat
set_option maxRecDepth 100000
open Go.RowKit
theorem V9.small {c:Ck} (V:V9 c) (h1:I64 c.tn) (h2:I64 c.td):S9 c where
 tn:=h1
 td:=h2
 l:=by have:=V.v.len;omega
 d:=by have:=V.a.lens;have:=V.e;omega
 a:=V.a.sm
theorem DueF.cut {c:Ck} (n:Int) {l:List Pt}:∀ {d:List Pt},DueF c l d→DueF c (qaM l n) (qaM d n):=by
 induction l with
 | nil=>
  intro d h
  have e:d=[]:=h
  subst e
  exact h
 | cons p l ih=>
  intro d h
  cases f:(qae c.s c.tn c.td p).2.2
  ·have h':DueF c l d:=by
    have:(if (qae c.s c.tn c.td p).2.2=true then _ else _):=h
    rwa [if_neg (by rw[f];decide)] at this
   by_cases e:p.id=n
   ·rw[qaM,List.filter_cons_of_neg (by simp[e])]
    exact ih h'
   ·rw[qaM,List.filter_cons_of_pos (by simp[e])]
    show if (qae c.s c.tn c.td p).2.2=true then _ else _
    rw[if_neg (by rw[f];decide)]
    exact ih h'
  ·have h':∃ q r,d=q::r∧(∃ y,DueOk c p q y)∧DueF c l r:=by
    have:(if (qae c.s c.tn c.td p).2.2=true then _ else _):=h
    rwa [if_pos f] at this
   obtain⟨q,r,hd,⟨y,hy⟩,hr⟩:=h'
   subst hd
   have hid:=hy.id
   by_cases e:p.id=n
   ·rw[qaM,List.filter_cons_of_neg (by simp[e]),qaM,List.filter_cons_of_neg (by simp[hid,e])]
    exact ih hr
   ·rw[qaM,List.filter_cons_of_pos (by simp[e]),qaM,List.filter_cons_of_pos (by simp[hid,e])]
    show if (qae c.s c.tn c.td p).2.2=true then _ else _
    rw[if_pos f]
    exact⟨q,_,rfl,⟨y,hy⟩,ih hr⟩
theorem Up.lt_pw {l:List Pt} (h:Up l):(l.map Pt.id).Pairwise (fun a b=>a<b):=by
 rw[List.pairwise_iff_getElem]
 intro i j hi hj hij
 rw[List.getElem_map,List.getElem_map]
 have hi':i<l.length:=by simpa using hi
 have hj':j<l.length:=by simpa using hj
 exact h.mono hij (List.getElem?_eq_getElem hi') (List.getElem?_eq_getElem hj')
theorem V9.due_up {c:Ck} (V:V9 c):Up c.d:=by
 have pw:(c.d.map Pt.id).Pairwise (fun a b=>a<b):=by
  rw[V.f.ids]
  exact V.v.up.lt_pw.sublist (List.Sublist.map _ List.filter_sublist)
 intro k p q hp hq
 rw[List.pairwise_iff_getElem] at pw
 have h1:=qak hp
 have h2:=qak hq
 obtain⟨_,e1⟩:=List.getElem?_eq_some_iff.1 hp
 obtain⟨_,e2⟩:=List.getElem?_eq_some_iff.1 hq
 have:=pw k (k+1) (by simpa using h1) (by simpa using h2) (by omega)
 rw[List.getElem_map,List.getElem_map,e1,e2] at this
 exact this
theorem V8.without {x:Int} {l:List Pt} (h:V8 x l) (n:Int):V8 x (qaM l n):=by
 rcases qr7 h.up n with ⟨k,p,hk,he⟩ | ⟨hno,_⟩
 ·have e:qaM l n=l.take k++l.drop (k+1):=by rw[← qeo h.up hk,he]
  rw[e]
  exact V8.cut h k
 ·have e:qaM l n=l:=List.filter_eq_self.2 fun p hp=>by simpa using hno p hp
  rw[e]
  exact h
theorem V9.gone_ok {c o:Ck} (V:V9 c) {n:Int} (h:qf5 c n o):V9 o:=by
 have kn:qcQ (qaM c.l n) c.s:=fun p hp=>V.k p (List.mem_filter.1 hp).1
 rcases h with ⟨h1,rfl⟩ | ⟨k,q,j,y,hq,he,_,hy,e1,e2,rfl⟩
 ·have e:qaM c.d n=c.d:=List.filter_eq_self.2 fun q hq=>by simpa using h1 q hq
  have D:=V.f.cut n
  rw[e] at D
  exact⟨V.t,V.s,V.v.without n,kn,V.a,V.w,V.e,DueF.map (c:=c) (fun _ _=>rfl) (fun _ _ _ _ ⟨y,h⟩=>⟨y,⟨h.id,h.lv,h.at_,h.k,h.n,h.d⟩⟩) D⟩
 ·obtain⟨A,pm,_⟩:=VA.without V.a hy
  have e:qaM c.d n=c.d.take k++c.d.drop (k+1):=by rw[← qeo V.due_up hq,he]
  have D:=V.f.cut n
  have hk:=qak hq
  have l0:=V.a.lens
  have l1:=A.lens
  have wl:=V.w
  have el:=V.e
  have le:=pm.length_eq
  rw[List.length_append] at le
  simp only[List.length_cons,List.length_nil] at le
  have y0:y.k=n:=by
   obtain⟨p0,_,_,y',hd⟩:=V.f.some q (List.mem_of_getElem? hq)
   obtain⟨w,g1,g2⟩:=hd.at_
   have o1:=(VA.own V.a hy).2
   rw[e1,g1] at o1
   have e3:(w:Int)=(j:Int):=Option.some.inj o1
   have e4:w=j:=by omega
   subst e4
   rw[hy] at g2
   have e5:y=y':=Option.some.inj g2
   subst e5
   exact hd.k.trans (hd.id.symm.trans he)
  have D2:DueF (qEF c n k j y) (qaM c.l n) (qaM c.d n):=DueF.map (c:=c) (fun _ _=>rfl) (fun p _ q' hq' ⟨y',h'⟩=>by
   obtain⟨f1,f2⟩:=h'.own V.a
   obtain⟨w,_,g2⟩:=h'.at_
   have hne:q'.id≠n:=by simpa using (List.mem_filter.1 hq').2
   refine⟨y',DueOk.mk' A ?_ f1 f2 h'.id h'.k h'.n h'.d⟩
   rcases List.mem_append.1 (pm.mem_iff.2 (List.mem_of_getElem? g2)) with hm | hm
   ·exact hm
   ·exfalso
    have e6:=List.mem_singleton.1 hm
    subst e6
    exact hne (h'.id.trans (h'.k.symm.trans y0))) D
  rw[e] at D2
  exact⟨V.t,V.s,V.v.without n,kn,A,by show (qan _ _ _ _).2.length=200;omega,by show (qan _ _ _ _).1.length=(c.d.take k++c.d.drop (k+1)).length;simp;omega,D2⟩
theorem qh4 {u fr wh:List Int} {b:List Bool} {ev:List Ev} (h:VA u b fr ev wh) {x:Ev} (hx:ev[0]?=some x):∀ (j:Nat) (y:Ev),ev[j]?=some y→ltE y x=false:=by
 intro j
 induction j using Nat.strongRecOn with
 | ind j ih=>
  intro y hy
  rcases Nat.eq_zero_or_pos j with e | e
  ·subst e
   rw[hx] at hy
   cases hy
   exact qfi _
  ·have hj:=qak hy
   obtain⟨z,hz⟩:=qai (l:=ev) (k:=(j-1)/2) (by omega)
   have h1:=h.hp j e hj
   unfold qbB at h1
   rw[hy,hz] at h1
   have h2:ltE y z=false:=by simpa using h1
   have ok:∀ w∈ev,EvOk w:=h.ef.ok
   exact qdo (ok y (List.mem_of_getElem? hy)) (ok z (List.mem_of_getElem? hz)) (ok x (List.mem_of_getElem? hx)) h2 (ih ((j-1)/2) (by omega) z hz)
theorem qrK {x y:Ev} (h:ltE y x=false):x.n*y.d≤y.n*x.d:=by
 unfold ltE at h
 rw[Bool.or_eq_false_iff] at h
 have:=of_decide_eq_false h.1
 omega
theorem FailT.same {c:Ck} {p:Pt} (V:V9 c) (h1:I64 c.tn) (h2:I64 c.td) (hp:p∈c.l):FailT c.s c.tn c.td p:=qbs h1 h2 V.t V.s (V.v.ok p hp) (V.k p hp).1 (V.k p hp).2
theorem V9.later {c:Ck} (V:V9 c) (h1:I64 c.tn) (h2:I64 c.td) {tn td:Int} (i1:I64 tn) (i2:I64 td) (ht:okB tn td=true) (hl:c.tn*td≤tn*c.td) (hd:∀ y∈c.ev,tn*y.d≤y.n*td):V9 { c with tn:=tn,td:=td }:=by
 have same:∀ p∈c.l,qae c.s tn td p=qae c.s c.tn c.td p:=fun p hp=>by
  have F:=FailT.same V h1 h2 hp
  have F':FailT c.s tn td p:=qbs i1 i2 ht V.s (V.v.ok p hp) (V.k p hp).1 (V.k p hp).2
  refine qjf F F' V.t ht hl fun f=>?_
  obtain⟨q,_,y,hy⟩:=V.f.all p hp f
  obtain⟨j,_,hj⟩:=hy.at_
  have:=hd y (List.mem_of_getElem? hj)
  rw[hy.n,hy.d] at this
  exact this
 exact⟨ht,V.s,V.v,V.k,V.a,V.w,V.e,DueF.map (c:=c) same (fun p hp q _ ⟨y,h⟩=>⟨y,⟨h.id,h.lv,h.at_,h.k,by rw[same p hp];exact h.n,by rw[same p hp];exact h.d⟩⟩) V.f⟩
theorem V9.failed_ok {c o:Ck} (V:V9 c) (h1:I64 c.tn) (h2:I64 c.td) {y:Ev} {p:Pt} (h:qeF c y p o):V9 o∧I64 o.tn∧I64 o.td∧c.tn*y.d≤y.n*c.td:=by
 obtain⟨hy,hp,hk,g,hg,rfl⟩:=h
 obtain⟨p0,hp0,f0,q0,_,hd0⟩:=V.ev hy
 have F0:=FailT.same V h1 h2 hp0
 obtain⟨k1,k2,k3,k4⟩:=F0.i.ok f0
 rw[← hd0.n,← hd0.d] at k1 k4
 rw[← hd0.n] at k2
 rw[← hd0.d] at k3
 have G:=V.gone_ok hg
 have same:g.tn=c.tn∧g.td=c.td:=by
  rcases hg with ⟨_,rfl⟩ | ⟨_,_,_,_,_,_,_,_,_,_,rfl⟩<;>exact⟨rfl,rfl⟩
 have sub:∀ z∈g.ev,z∈c.ev:=by
  rcases hg with ⟨_,rfl⟩ | ⟨_,_,_,y',_,_,_,hy',_,_,rfl⟩
  ·exact fun z hz=>hz
  ·obtain⟨_,pm,_⟩:=VA.without V.a hy'
   exact fun z hz=>pm.mem_iff.1 (List.mem_append_left _ hz)
 refine⟨G.later (by rw[same.1];exact h1) (by rw[same.2];exact h2) k2 k3 k1 (by rw[same.1,same.2];exact k4) fun z hz=>?_,k2,k3,k4⟩
 obtain⟨j,hj⟩:=List.getElem?_of_mem (sub z hz)
 exact qrK (qh4 V.a hy j z hj)
end Go.Proofs.YtkjaanhddkkodaaGreat

namespace Go.Proofs.YtkjaanhddkkodaaGreat
set_option maxRecDepth 100000
open Go.RowKit
abbrev alC (c:Ck) (s:List Pt) (o:Ck):Ck:={ o with tn:=c.tn,td:=c.td,s:=s,x:=c.x,l:=c.l }
structure AlMid (c:Ck) (s:List Pt) (m l:List Pt) (o:Ck):Prop where
 f:DueF (alC c s o) m o.d
 ol:∀ p∈l,∀ q∈c.d,q.id=p.id→∃ y∈o.ev,y.i=q.a∧y.w=q.b∧y.k=p.id
 e:o.ev.length=o.d.length+(l.filter (qaX c)).length
theorem V9.due_iff {c:Ck} (V:V9 c) {p:Pt} (hp:p∈c.l):(∃ q∈c.d,q.id=p.id)↔qaX c p=true:=by
 constructor
 ·rintro⟨q,hq,he⟩
  obtain⟨p',hp',f,y,hd⟩:=V.f.some q hq
  obtain⟨i,hi⟩:=List.getElem?_of_mem hp
  obtain⟨j,hj⟩:=List.getElem?_of_mem hp'
  have:=(qoo V.v.up hi hj (he.symm.trans hd.id)).2
  rw[this]
  exact f
 ·intro f
  obtain⟨q,hq,y,hy⟩:=V.f.all p hp f
  exact⟨q,hq,hy.id⟩
theorem qgh {c:Ck} {s m:List Pt} {o o2:Ck} (A:VA o.u o.b o.fr o.ev o.wh) (A2:VA o2.u o2.b o2.fr o2.ev o2.wh) (h:DueF (alC c s o) m o.d) (hk:∀ p∈m,∀ y∈o.ev,y.k=p.id→y∈o2.ev):DueF (alC c s o2) m o.d:=
 DueF.map (c:=alC c s o) (fun _ _=>rfl) (fun p hp _ _ ⟨y,hy⟩=>by
  obtain⟨e1,e2⟩:=DueOk.own hy A
  obtain⟨j,_,hj⟩:=hy.at_
  exact⟨y,DueOk.mk' (c:=alC c s o2) A2 (hk p hp y (List.mem_of_getElem? hj) hy.k) e1 e2 hy.id hy.k hy.n hy.d⟩) h
theorem AlStep.mid {c:Ck} {s:List Pt} (P:AlPre c s) {p:Pt} {m l:List Pt} {o o2:Ck} (hp:p∈c.l) (hu:∀ p'∈l,p'.id≠p.id) (hm:∀ p'∈m,p'.id≠p.id) (I:AlInv c (p::l) o) (M:AlMid c s m (p::l) o) (h:AlStep c s p o o2):AlMid c s (m++[p]) l o2:=by
 have F:=P.fail hp
 have D:=P.V.due_iff hp
 have I2:=h.inv P hp hu I
 have Me:=M.e
 cases h with
 | @key j k q y f hq he hf hy e1 e2=>
  obtain⟨k1,k2,k3,_⟩:=F.i.ok f
  obtain⟨A,pm⟩:=VA.rekey ⟨k2,k3⟩ k1 I.a hy
  obtain⟨y1,hy1,g1,g2,g3⟩:=M.ol p List.mem_cons_self q (List.mem_of_getElem? hq) he
  have ey:y1=y:=by
   obtain⟨j1,hj1⟩:=List.getElem?_of_mem hy1
   have o1:=(VA.own I.a hj1).2
   have o2:=(VA.own I.a hy).2
   rw[g1] at o1
   rw[e1,o1] at o2
   have e3:(j1:Int)=(k:Int):=Option.some.inj o2
   have e4:j1=k:=by omega
   subst e4
   rw[hj1] at hy
   exact Option.some.inj hy
  subst ey
  have fp:qaX c p=true:=D.1 ⟨q,List.mem_of_getElem? hq,he⟩
  rw[List.filter_cons_of_pos fp,List.length_cons] at Me
  have le:=pm.length_eq
  rw[List.length_set] at le
  have hk:=qak hy
  have stay:∀ z∈o.ev,z.k≠p.id→z∈(qa0 o.ev o.wh k y1 (qae s c.tn c.td p).1 (qae s c.tn c.td p).2.1).1:=fun z hz hne=>by
   obtain⟨i,hi⟩:=List.getElem?_of_mem hz
   have hne2:k≠i:=fun e=>by
    subst e
    rw[hy] at hi
    have e5:=Option.some.inj hi
    subst e5
    exact hne g3
   refine pm.mem_iff.2 (List.mem_of_getElem? (i:=i) ?_)
   rw[List.getElem?_set,if_neg hne2]
   exact hi
  have new:(⟨(qae s c.tn c.td p).1,(qae s c.tn c.td p).2.1,y1.k,y1.i,y1.w⟩:Ev)∈(qa0 o.ev o.wh k y1 (qae s c.tn c.td p).1 (qae s c.tn c.td p).2.1).1:=
   pm.mem_iff.2 (List.mem_of_getElem? (i:=k) (by rw[List.getElem?_set,if_pos rfl,if_pos hk]))
  refine⟨?_,fun p' hp' q' hq' he'=>?_,by show (qa0 _ _ _ _ _ _).1.length=_;simp only[List.length_append,List.length_cons,List.length_nil];omega⟩
  ·have K:=qgh (c:=c) (s:=s) (o2:={ o with ev:=(qa0 o.ev o.wh k y1 (qae s c.tn c.td p).1 (qae s c.tn c.td p).2.1).1,wh:=(qa0 o.ev o.wh k y1 (qae s c.tn c.td p).1 (qae s c.tn c.td p).2.1).2,d:=o.d++[q] }) I.a A M.f (fun p' hp' z hz hzk=>stay z hz (by rw[hzk];exact hm p' hp'))
   exact (K.snoc).2 f q _ (DueOk.mk' A new e1 e2 he g3 rfl rfl)
  ·obtain⟨y2,hy2,w1,w2,w3⟩:=M.ol p' (List.mem_cons_of_mem _ hp') q' hq' he'
   exact⟨y2,stay y2 hy2 (by rw[w3];exact hu p' hp'),w1,w2,w3⟩
 | @push u2 f2 b2 hi hw f hn ht=>
  obtain⟨k1,k2,k3,_⟩:=F.i.ok f
  have hz:cnE o.ev p.id=0:=by
   have h1:=P.V.v.lo p hp
   have h2:=P.V.v.hi p hp
   have h3:=P.V.v.nx
   unfold cnE
   rw[if_pos (by omega),if_neg]
   rintro⟨m,hm,e⟩
   exact I.nw m hm p List.mem_cons_self hn e
  obtain⟨A,pm,_,_⟩:=VA.push ⟨k2,k3⟩ k1 I.a hz ht
  have fp:¬ qaX c p=true:=fun h=>by
   obtain⟨q,hq,he⟩:=D.2 h
   exact hn q hq he
  rw[List.filter_cons_of_neg fp] at Me
  have le:=pm.length_eq
  rw[List.length_append] at le
  simp only[List.length_cons,List.length_nil] at le
  refine⟨?_,fun p' hp' q' hq' he'=>?_,by show (qba _ _ _).1.length=_;simp only[List.length_append,List.length_cons,List.length_nil];omega⟩
  ·have K:=qgh (c:=c) (s:=s) (o2:={ o with u:=u2,b:=b2,fr:=f2,ev:=(qba o.ev o.wh ⟨(qae s c.tn c.td p).1,(qae s c.tn c.td p).2.1,p.id,hi,hw⟩).1,wh:=(qba o.ev o.wh ⟨(qae s c.tn c.td p).1,(qae s c.tn c.td p).2.1,p.id,hi,hw⟩).2,d:=o.d++[⟨p.id,hi,hw⟩] }) I.a A M.f (fun p' hp' z hz hzk=>pm.mem_iff.2 (List.mem_append_left _ hz))
   exact (K.snoc).2 f _ _ (DueOk.mk' A (pm.mem_iff.2 (List.mem_append_right _ (List.mem_singleton.2 rfl))) rfl rfl rfl rfl rfl rfl)
  ·obtain⟨y2,hy2,w⟩:=M.ol p' (List.mem_cons_of_mem _ hp') q' hq' he'
   exact⟨y2,pm.mem_iff.2 (List.mem_append_left _ hy2),w⟩
 | @gone j k q y f hq he hf hy e1 e2=>
  obtain⟨A,pm,_⟩:=VA.without I.a hy
  obtain⟨y1,hy1,g1,g2,g3⟩:=M.ol p List.mem_cons_self q (List.mem_of_getElem? hq) he
  have ey:y1=y:=by
   obtain⟨j1,hj1⟩:=List.getElem?_of_mem hy1
   have o1:=(VA.own I.a hj1).2
   have o2:=(VA.own I.a hy).2
   rw[g1] at o1
   rw[e1,o1] at o2
   have e3:(j1:Int)=(k:Int):=Option.some.inj o2
   have e4:j1=k:=by omega
   subst e4
   rw[hj1] at hy
   exact Option.some.inj hy
  subst ey
  have fp:qaX c p=true:=D.1 ⟨q,List.mem_of_getElem? hq,he⟩
  rw[List.filter_cons_of_pos fp,List.length_cons] at Me
  have le:=pm.length_eq
  rw[List.length_append] at le
  simp only[List.length_cons,List.length_nil] at le
  have stay:∀ z∈o.ev,z.k≠p.id→z∈(qan o.ev o.wh k y1).1:=fun z hz hne=>by
   rcases List.mem_append.1 (pm.mem_iff.2 hz) with h | h
   ·exact h
   ·exfalso
    rw[List.mem_singleton.1 h] at hne
    exact hne g3
  refine⟨?_,fun p' hp' q' hq' he'=>?_,by show (qan _ _ _ _).1.length=_;show _=o.d.length+_;omega⟩
  ·have K:=qgh (c:=c) (s:=s) (o2:={ o with b:=o.b.set y1.i.toNat false,fr:=o.fr++[y1.i],ev:=(qan o.ev o.wh k y1).1,wh:=(qan o.ev o.wh k y1).2 }) I.a A M.f (fun p' hp' z hz hzk=>stay z hz (by rw[hzk];exact hm p' hp'))
   exact (K.snoc).1 f
  ·obtain⟨y2,hy2,w1,w2,w3⟩:=M.ol p' (List.mem_cons_of_mem _ hp') q' hq' he'
   exact⟨y2,stay y2 hy2 (by rw[w3];exact hu p' hp'),w1,w2,w3⟩
 | skip f hn=>
  have fp:¬ qaX c p=true:=fun h=>by
   obtain⟨q,hq,he⟩:=D.2 h
   exact hn q hq he
  rw[List.filter_cons_of_neg fp] at Me
  exact⟨(M.f.snoc).1 f,fun p' hp'=>M.ol p' (List.mem_cons_of_mem _ hp'),Me⟩
theorem AlRun.ok {c:Ck} {s:List Pt} (P:AlPre c s) {l:List Pt} {o:Ck} {r:Option Ck} (h:AlRun c s l o r):∀ {m:List Pt},m++l=c.l→AlInv c l o→AlMid c s m l o→∀ o',r=some o'→AlInv c [] o'∧AlMid c s c.l [] o':=by
 induction h with
 | nil o=>
  intro m hm I M o' e
  cases e
  rw[List.append_nil] at hm
  rw[← hm]
  exact⟨I,M⟩
 | @step p l o o2 r hs _ ih=>
  intro m hm I M o' e
  have hp:p∈c.l:=by rw[← hm];simp
  have nd:=P.V.v.up.nodup
  rw[← hm,List.map_append,List.map_cons,List.nodup_append] at nd
  obtain⟨_,nl,nm⟩:=nd
  rw[List.nodup_cons] at nl
  have hu:∀ p'∈l,p'.id≠p.id:=fun p' hp' e=>nl.1 (List.mem_map.2 ⟨p',hp',e⟩)
  have hmm:∀ p'∈m,p'.id≠p.id:=fun p' hp' e=>nm p'.id (List.mem_map.2 ⟨p',hp',rfl⟩) p.id List.mem_cons_self e
  exact ih (m:=m++[p]) (by rw[List.append_assoc];exact hm) (hs.inv P hp hu I) (hs.mid P hp hu hmm I M) o' e
 | full _=>intro m _ _ _ o' e;cases e
theorem V9.alter_ok {c:Ck} {s:List Pt} (P:AlPre c s) {o:Ck} (h:AlRun c s c.l { c with d:=[] } (some o)):V9 (alC c s o):=by
 have M0:AlMid c s [] c.l { c with d:=[] }:=⟨rfl,fun p hp q hq he=>by
  obtain⟨p',hp',_,y,hd⟩:=P.V.f.some q hq
  obtain⟨e1,e2⟩:=hd.own P.V.a
  obtain⟨j,_,hj⟩:=hd.at_
  exact⟨y,List.mem_of_getElem? hj,e1,e2,hd.k.trans (hd.id.symm.trans he)⟩,by
  have:=congrArg List.length P.V.f.ids
  rw[List.length_map,List.length_map] at this
  have e:=P.V.e
  show c.ev.length=0+_
  omega⟩
 obtain⟨I,M⟩:=h.ok P (m:=[]) rfl (qgJ P) M0 o rfl
 have e:=M.e
 exact⟨P.V.t,P.sv,P.V.v,P.kn,I.a,I.w,by simpa using e,M.f⟩
end Go.Proofs.YtkjaanhddkkodaaGreat

namespace Go.Proofs.YtkjaanhddkkodaaGreat
set_option maxRecDepth 100000
open Go.RowKit
abbrev qxL (f:FuncId) (s:List Pt) (tn td:Int):Prop:=Fn f 1 [qaE 0 s,.pv (qaa tn td)] [(0,0,qaj s)] (.tu [.ag [.pv (iV tn),.pv (iV td),.ls 1 s.length,.pv (iV 0),.ls 7 0,.ls 2 (qdy s tn td).u.length,.ls 3 (qdy s tn td).b.length,.ls 4 (qdy s tn td).fr.length,.ls 6 0,.ls 5 (qdy s tn td).wh.length,.ls 8 0],.one (.pv (iV 0))]) 8 [(8,0,qaJ []),(7,0,qal []),(1,0,qaj s),(2,0,zrI (qdy s tn td).u),(3,0,zrB (qdy s tn td).b),(4,0,zrI (qdy s tn td).fr),(5,0,zrI (qdy s tn td).wh),(6,0,qao [])]
structure Prog9:Prop where
 new:∀ {s:List Pt} {tn td:Int},I64 tn→I64 td→(tE s tn td≠0→qxu 10 s tn td (tE s tn td))∧(tE s tn td=0→qxL 10 s tn td)
 check:∀ {c:Ck},S9 c→c.s.length≤70→Fn 22 8 [qam c] (qas c) (.pv (iV (qnz c))) 0 []
 certify:∀ {c:Ck},S9 c→c.s.length≤70→∀ a b,(cyE c a b≠0→qsV 16 c a b (cyE c a b))∧(cyE c a b=0→∀ o,qhS c a b o→qEA 16 c a b o)
 retire:∀ {c:Ck},S9 c→c.s.length≤70→∀ n,(reE c n≠0→qv8 17 c n (reE c n))∧(reE c n=0→∀ o,qf5 c n o→qEz 17 c n o)
 next:∀ {c:Ck},S9 c→c.s.length≤70→(¬ V9 c→Fn 18 8 [qam c] (qas c) (.pv (.tuple #[evZ,iV 8])) 0 [])∧(V9 c→c.ev=[]→Fn 18 8 [qam c] (qas c) (.pv (.tuple #[evZ,iV 42])) 0 [])∧(V9 c→∀ y,c.ev[0]?=some y→Fn 18 8 [qam c] (qas c) (.pv (.tuple #[qab y,iV 0])) 0 [])
 fail:∀ {c:Ck},S9 c→c.s.length≤70→∀ {tn td:Int},I64 tn→I64 td→(faE c tn td≠0→quu 19 c tn td (faE c tn td))∧(faE c tn td=0→∀ y p o,qeF c y p o→qEQ 19 c tn td y p o)
 move:∀ {c:Ck},S9 c→c.s.length≤70→∀ {tn td:Int},I64 tn→I64 td→(moE c tn td≠0→qsT 20 c tn td (moE c tn td))∧(moE c tn td=0→qER 20 c tn td)
 alter:∀ {c:Ck},S9 c→c.s.length≤70→∀ s:List Pt,s.length≤70→(qfs c s≠0→qm4 21 c s (qfs c s))∧(qfs c s=0→∀ r,AlRun c s c.l { c with d:=[] } r→(∀ o,r=some o→qEE 21 c s o)∧(r=none→qm4 21 c s 18))
theorem qDl {c:Ck} {a b:Int} (h:cyE c a b=0):V9 c∧qb8 a b=true∧(∃ q∈c.s,q.id=a)∧(∃ q∈c.s,q.id=b)∧adE c a b=0:=by
 unfold cyE at h
 split at h
 ·rename_i h1
  split at h
  ·rename_i h2
   exact⟨h1.1,h1.2,h2.1,h2.2,h⟩
  ·cases h
 ·cases h
theorem qux {c o:Ck} {a b:Int} (h:qhS c a b o):o.tn=c.tn∧o.td=c.td∧o.s=c.s:=by
 rcases h with ⟨_,rfl⟩ | ⟨_,_,_,_,_,_,_,rfl⟩<;>exact⟨rfl,rfl,rfl⟩
end Go.Proofs.YtkjaanhddkkodaaGreat
