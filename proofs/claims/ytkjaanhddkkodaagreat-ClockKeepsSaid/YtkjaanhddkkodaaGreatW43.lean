/-
  Joined: Lo, Lp, Lq, Lr. Conditions: none.
-/
import Derived.Test.YtkjaanhddkkodaaGreatW42
import Derived.Test.YtkjaanhddkkodaaGreatW31
import Derived.Test.YtkjaanhddkkodaaGreatW18
namespace Go.Proofs.YtkjaanhddkkodaaGreat
set_option maxRecDepth 100000
open Go.RowKit
theorem FailIs.one {p q:Pt} {n d m k m' k':Int} {s s':Bool} (h:FailIs p q n d m k s) (h':FailIs p q n d m' k' s'):m=m'∧k=k'∧s=s':=by
 cases s<;>cases s'
 ·obtain⟨rfl,rfl⟩:=h.no rfl
  obtain⟨rfl,rfl⟩:=h'.no rfl
  exact⟨rfl,rfl,rfl⟩
 ·obtain⟨o,_,_,l⟩:=h'.ok rfl
  have:=h.before m' k' o l (fun e=>by cases e)
  rw[h'.then_ rfl] at this
  cases this
 ·obtain⟨o,_,_,l⟩:=h.ok rfl
  have:=h'.before m k o l (fun e=>by cases e)
  rw[h.then_ rfl] at this
  cases this
 ·obtain⟨o,_,_,l⟩:=h.ok rfl
  obtain⟨o',_,_,l'⟩:=h'.ok rfl
  have e:m*k'=m'*k:=by
   rcases Int.lt_trichotomy (m*k') (m'*k) with e | e | e
   ·have:=h'.before m k o l (fun _=>e)
    rw[h.then_ rfl] at this
    cases this
   ·exact e
   ·have:=h.before m' k' o' l' (fun _=>e)
    rw[h'.then_ rfl] at this
    cases this
  obtain⟨rfl,rfl⟩:=qgC o o' e
  exact⟨rfl,rfl,rfl⟩
theorem DueOk.own {c:Ck} {p q:Pt} {y:Ev} (h:DueOk c p q y) (ha:VA c.u c.b c.fr c.ev c.wh):y.i=q.a∧y.w=q.b:=by
 obtain⟨w,y',h1,h2,h3,h4⟩:=VA.find ha h.lv
 obtain⟨w',g1,g2⟩:=h.at_
 rw[h1] at g1
 have e:(w:Int)=(w':Int):=Option.some.inj g1
 have e2:w=w':=by omega
 subst e2
 rw[h2] at g2
 have e3:y'=y:=Option.some.inj g2
 subst e3
 exact⟨h3,h4⟩
theorem DueOk.mk' {c:Ck} {p q:Pt} {y:Ev} (ha:VA c.u c.b c.fr c.ev c.wh) (hy:y∈c.ev) (e1:y.i=q.a) (e2:y.w=q.b) (id:q.id=p.id) (k:y.k=p.id) (n:y.n=(qai c.s c.tn c.td p).1) (d:y.d=(qai c.s c.tn c.td p).2.1):DueOk c p q y:=by
 obtain⟨j,hj⟩:=List.getElem?_of_mem hy
 obtain⟨h1,h2⟩:=VA.own ha hj
 rw[e1,e2] at h1
 rw[e1] at h2
 exact⟨id,h1,⟨j,h2,hj⟩,k,n,d⟩
theorem DueF.map {c o:Ck} {l:List Pt}:∀ {d:List Pt},(∀ p∈l,qai o.s o.tn o.td p=qai c.s c.tn c.td p)→(∀ p∈l,∀ q∈d,(∃ y,DueOk c p q y)→∃ y,DueOk o p q y)→DueF c l d→DueF o l d:=by
 induction l with
 | nil=>intro d _ _ h;exact h
 | cons p l ih=>
  intro d hf hk h
  have e:=hf p List.mem_cons_self
  show if (qai o.s o.tn o.td p).2.2=true then _ else _
  rw[e]
  cases f:(qai c.s c.tn c.td p).2.2
  ·have h':DueF c l d:=by
    have:(if (qai c.s c.tn c.td p).2.2=true then _ else _):=h
    rwa [if_neg (by rw[f];decide)] at this
   rw[if_neg (by decide)]
   exact ih (fun p' hp'=>hf p' (List.mem_cons_of_mem _ hp')) (fun p' hp'=>hk p' (List.mem_cons_of_mem _ hp')) h'
  ·have h':∃ q r,d=q::r∧(∃ y,DueOk c p q y)∧DueF c l r:=by
    have:(if (qai c.s c.tn c.td p).2.2=true then _ else _):=h
    rwa [if_pos f] at this
   obtain⟨q,r,hd,hy,hr⟩:=h'
   rw[if_pos rfl]
   subst hd
   exact⟨q,r,rfl,hk p List.mem_cons_self q List.mem_cons_self hy,ih (fun p' hp'=>hf p' (List.mem_cons_of_mem _ hp')) (fun p' hp' q' hq'=>hk p' (List.mem_cons_of_mem _ hp') q' (List.mem_cons_of_mem _ hq')) hr⟩
theorem DueF.snoc {c:Ck} {p:Pt} {l:List Pt}:∀ {d:List Pt},DueF c l d→(qa9 c p=false→DueF c (l++[p]) d)∧(qa9 c p=true→∀ q y,DueOk c p q y→DueF c (l++[p]) (d++[q])):=by
 induction l with
 | nil=>
  intro d h
  have e:d=[]:=h
  subst e
  refine⟨fun f=>?_,fun f q y hy=>?_⟩
  ·show if (qai c.s c.tn c.td p).2.2=true then _ else _
   rw[if_neg (by rw[show (qai c.s c.tn c.td p).2.2=false from f];decide)]
   rfl
  ·show if (qai c.s c.tn c.td p).2.2=true then _ else _
   rw[if_pos f]
   exact⟨q,[],rfl,⟨y,hy⟩,rfl⟩
 | cons p' l ih=>
  intro d h
  cases f':(qai c.s c.tn c.td p').2.2
  ·have h':DueF c l d:=by
    have:(if (qai c.s c.tn c.td p').2.2=true then _ else _):=h
    rwa [if_neg (by rw[f'];decide)] at this
   obtain⟨i1,i2⟩:=ih h'
   refine⟨fun f=>?_,fun f q y hy=>?_⟩
   ·show if (qai c.s c.tn c.td p').2.2=true then _ else _
    rw[if_neg (by rw[f'];decide)]
    exact i1 f
   ·show if (qai c.s c.tn c.td p').2.2=true then _ else _
    rw[if_neg (by rw[f'];decide)]
    exact i2 f q y hy
  ·have h':∃ q r,d=q::r∧(∃ y,DueOk c p' q y)∧DueF c l r:=by
    have:(if (qai c.s c.tn c.td p').2.2=true then _ else _):=h
    rwa [if_pos f'] at this
   obtain⟨q',r,hd,hy',hr⟩:=h'
   subst hd
   obtain⟨i1,i2⟩:=ih hr
   refine⟨fun f=>?_,fun f q y hy=>?_⟩
   ·show if (qai c.s c.tn c.td p').2.2=true then _ else _
    rw[if_pos f']
    exact⟨q',r,rfl,hy',i1 f⟩
   ·show if (qai c.s c.tn c.td p').2.2=true then _ else _
    rw[if_pos f']
    exact⟨q',r++[q],rfl,hy',i2 f q y hy⟩
theorem V9.new_ok {c o:Ck} (S:S9 c) (V:V9 c) {a b:Int} (hc:qcs a b=true) (ha:∃ q∈c.s,q.id=a) (hb:∃ q∈c.s,q.id=b) (h0:adE c a b=0) (h:qiS c a b o):V9 o:=by
 have hh:qgk c.l a b=false:=by
  cases e:qgk c.l a b
  ·rfl
  ·unfold adE at h0;rw[if_pos e] at h0;cases h0
 have hr:¬ (c.l.length=200∨c.x=1000000):=fun e=>by
  unfold adE at h0;rw[if_neg (by rw[hh];decide),if_pos e] at h0;cases h0
 have hl:=V.v.len
 have hx:=V.v.nx
 have v:V8 (c.x+1) (c.l++[⟨c.x,a,b⟩]):=V8.add V.v hc hh (by omega) (by omega)
 have kn:qde (c.l++[⟨c.x,a,b⟩]) c.s:=fun p hp=>by
  rcases List.mem_append.1 hp with hp | hp
  ·exact V.k p hp
  ·rw[List.mem_singleton.1 hp];exact⟨ha,hb⟩
 rcases h with ⟨f,rfl⟩ | ⟨f,u2,b2,f2,hi,hw,ht,rfl⟩
 ·exact⟨V.t,V.s,v,kn,V.a,V.w,V.e,DueF.map (c:=c) (fun _ _=>rfl) (fun _ _ _ _ ⟨y,h⟩=>⟨y,⟨h.id,h.lv,h.at_,h.k,h.n,h.d⟩⟩) ((V.f.snoc).1 f)⟩
 ·have FT:=qbX (c:=⟨c.x,a,b⟩) S.tn S.td V.t V.s hc ha hb
  obtain⟨k1,k2,k3,_⟩:=FT.i.ok f
  obtain⟨A,pm,lv,lvp⟩:=VA.push ⟨k2,k3⟩ k1 V.a V.new ht
  have l1:=A.lens
  have l0:=V.a.lens
  have wl:=V.w
  obtain⟨_,_,_,_,eu,_,_,_⟩:=qbt ht
  have lu:u2.length=c.u.length:=by rw[eu,List.length_set]
  let o:Ck:=qvu c a b (qai c.s c.tn c.td ⟨c.x,a,b⟩).1 (qai c.s c.tn c.td ⟨c.x,a,b⟩).2.1 u2 b2 f2 hi hw
  have D:DueF o c.l c.d:=DueF.map (c:=c) (fun _ _=>rfl) (fun p _ q _ ⟨y,hy⟩=>by
   obtain⟨e1,e2⟩:=hy.own V.a
   obtain⟨j,_,hj⟩:=hy.at_
   exact⟨y,DueOk.mk' A (pm.mem_iff.2 (List.mem_append_left _ (List.mem_of_getElem? hj))) e1 e2 hy.id hy.k hy.n hy.d⟩) V.f
  have N:DueOk o ⟨c.x,a,b⟩ ⟨c.x,hi,hw⟩ ⟨(qai c.s c.tn c.td ⟨c.x,a,b⟩).1,(qai c.s c.tn c.td ⟨c.x,a,b⟩).2.1,c.x,hi,hw⟩:=DueOk.mk' A (pm.mem_iff.2 (List.mem_append_right _ (List.mem_singleton.2 rfl))) rfl rfl rfl rfl rfl rfl
  have le:=pm.length_eq
  exact⟨V.t,V.s,v,kn,A,by show (qa3 _ _ _).2.length=200;omega,by have:=V.e;show (qa3 _ _ _).1.length=(c.d++[_]).length;rw[List.length_append];rw[List.length_append] at le;simp at le ⊢;omega,(D.snoc).2 f _ _ N⟩
end Go.Proofs.YtkjaanhddkkodaaGreat

namespace Go.Proofs.YtkjaanhddkkodaaGreat
set_option maxRecDepth 100000
open Go.RowKit
theorem V9.small {c:Ck} (V:V9 c) (h1:I64 c.tn) (h2:I64 c.td):S9 c where
 tn:=h1
 td:=h2
 l:=by have:=V.v.len;omega
 d:=by have:=V.a.lens;have:=V.e;omega
 a:=V.a.sm
theorem DueF.cut {c:Ck} (n:Int) {l:List Pt}:∀ {d:List Pt},DueF c l d→DueF c (qaU l n) (qaU d n):=by
 induction l with
 | nil=>
  intro d h
  have e:d=[]:=h
  subst e
  exact h
 | cons p l ih=>
  intro d h
  cases f:(qai c.s c.tn c.td p).2.2
  ·have h':DueF c l d:=by
    have:(if (qai c.s c.tn c.td p).2.2=true then _ else _):=h
    rwa [if_neg (by rw[f];decide)] at this
   by_cases e:p.id=n
   ·rw[qaU,List.filter_cons_of_neg (by simp[e])]
    exact ih h'
   ·rw[qaU,List.filter_cons_of_pos (by simp[e])]
    show if (qai c.s c.tn c.td p).2.2=true then _ else _
    rw[if_neg (by rw[f];decide)]
    exact ih h'
  ·have h':∃ q r,d=q::r∧(∃ y,DueOk c p q y)∧DueF c l r:=by
    have:(if (qai c.s c.tn c.td p).2.2=true then _ else _):=h
    rwa [if_pos f] at this
   obtain⟨q,r,hd,⟨y,hy⟩,hr⟩:=h'
   subst hd
   have hid:=hy.id
   by_cases e:p.id=n
   ·rw[qaU,List.filter_cons_of_neg (by simp[e]),qaU,List.filter_cons_of_neg (by simp[hid,e])]
    exact ih hr
   ·rw[qaU,List.filter_cons_of_pos (by simp[e]),qaU,List.filter_cons_of_pos (by simp[hid,e])]
    show if (qai c.s c.tn c.td p).2.2=true then _ else _
    rw[if_pos f]
    exact⟨q,_,rfl,⟨y,hy⟩,ih hr⟩
theorem Up.lt_pw {l:List Pt} (h:Up l):(l.map Pt.id).Pairwise (fun a b=>a<b):=by
 rw[List.pairwise_iff_getElem]
 intro i j hi hj hij
 rw[List.getElem_map,List.getElem_map]
 have hi':i<l.length:=by simpa using hi
 have hj':j<l.length:=by simpa using hj
 exact h.mono hij (List.getElem?_eq_getElem hi') (List.getElem?_eq_getElem hj')
theorem V9.due_up {c:Ck} (V:V9 c):Up c.d:=by
 have pw:(c.d.map Pt.id).Pairwise (fun a b=>a<b):=by
  rw[V.f.ids]
  exact V.v.up.lt_pw.sublist (List.Sublist.map _ List.filter_sublist)
 intro k p q hp hq
 rw[List.pairwise_iff_getElem] at pw
 have h1:=qam hp
 have h2:=qam hq
 obtain⟨_,e1⟩:=List.getElem?_eq_some_iff.1 hp
 obtain⟨_,e2⟩:=List.getElem?_eq_some_iff.1 hq
 have:=pw k (k+1) (by simpa using h1) (by simpa using h2) (by omega)
 rw[List.getElem_map,List.getElem_map,e1,e2] at this
 exact this
theorem V8.without {x:Int} {l:List Pt} (h:V8 x l) (n:Int):V8 x (qaU l n):=by
 rcases qs6 h.up n with ⟨k,p,hk,he⟩ | ⟨hno,_⟩
 ·have e:qaU l n=l.take k++l.drop (k+1):=by rw[← qd1 h.up hk,he]
  rw[e]
  exact V8.cut h k
 ·have e:qaU l n=l:=List.filter_eq_self.2 fun p hp=>by simpa using hno p hp
  rw[e]
  exact h
theorem V9.gone_ok {c o:Ck} (V:V9 c) {n:Int} (h:qdR c n o):V9 o:=by
 have kn:qde (qaU c.l n) c.s:=fun p hp=>V.k p (List.mem_filter.1 hp).1
 rcases h with ⟨h1,rfl⟩ | ⟨k,q,j,y,hq,he,_,hy,e1,e2,rfl⟩
 ·have e:qaU c.d n=c.d:=List.filter_eq_self.2 fun q hq=>by simpa using h1 q hq
  have D:=V.f.cut n
  rw[e] at D
  exact⟨V.t,V.s,V.v.without n,kn,V.a,V.w,V.e,DueF.map (c:=c) (fun _ _=>rfl) (fun _ _ _ _ ⟨y,h⟩=>⟨y,⟨h.id,h.lv,h.at_,h.k,h.n,h.d⟩⟩) D⟩
 ·obtain⟨A,pm,_⟩:=VA.without V.a hy
  have e:qaU c.d n=c.d.take k++c.d.drop (k+1):=by rw[← qd1 V.due_up hq,he]
  have D:=V.f.cut n
  have hk:=qam hq
  have l0:=V.a.lens
  have l1:=A.lens
  have wl:=V.w
  have el:=V.e
  have le:=pm.length_eq
  rw[List.length_append] at le
  simp only[List.length_cons,List.length_nil] at le
  have y0:y.k=n:=by
   obtain⟨p0,_,_,y',hd⟩:=V.f.some q (List.mem_of_getElem? hq)
   obtain⟨w,g1,g2⟩:=hd.at_
   have o1:=(VA.own V.a hy).2
   rw[e1,g1] at o1
   have e3:(w:Int)=(j:Int):=Option.some.inj o1
   have e4:w=j:=by omega
   subst e4
   rw[hy] at g2
   have e5:y=y':=Option.some.inj g2
   subst e5
   exact hd.k.trans (hd.id.symm.trans he)
  have D2:DueF (qEY c n k j y) (qaU c.l n) (qaU c.d n):=DueF.map (c:=c) (fun _ _=>rfl) (fun p _ q' hq' ⟨y',h'⟩=>by
   obtain⟨f1,f2⟩:=h'.own V.a
   obtain⟨w,_,g2⟩:=h'.at_
   have hne:q'.id≠n:=by simpa using (List.mem_filter.1 hq').2
   refine⟨y',DueOk.mk' A ?_ f1 f2 h'.id h'.k h'.n h'.d⟩
   rcases List.mem_append.1 (pm.mem_iff.2 (List.mem_of_getElem? g2)) with hm | hm
   ·exact hm
   ·exfalso
    have e6:=List.mem_singleton.1 hm
    subst e6
    exact hne (h'.id.trans (h'.k.symm.trans y0))) D
  rw[e] at D2
  exact⟨V.t,V.s,V.v.without n,kn,A,by show (qal _ _ _ _).2.length=200;omega,by show (qal _ _ _ _).1.length=(c.d.take k++c.d.drop (k+1)).length;simp;omega,D2⟩
theorem FailT.same {c:Ck} {p:Pt} (V:V9 c) (h1:I64 c.tn) (h2:I64 c.td) (hp:p∈c.l):FailT c.s c.tn c.td p:=qbX h1 h2 V.t V.s (V.v.ok p hp) (V.k p hp).1 (V.k p hp).2
end Go.Proofs.YtkjaanhddkkodaaGreat

namespace Go.Proofs.YtkjaanhddkkodaaGreat
set_option maxRecDepth 100000
open Go.RowKit
abbrev alC (c:Ck) (s:List Pt) (o:Ck):Ck:={ o with tn:=c.tn,td:=c.td,s:=s,x:=c.x,l:=c.l }
structure AlMid (c:Ck) (s:List Pt) (m l:List Pt) (o:Ck):Prop where
 f:DueF (alC c s o) m o.d
 ol:∀ p∈l,∀ q∈c.d,q.id=p.id→∃ y∈o.ev,y.i=q.a∧y.w=q.b∧y.k=p.id
 e:o.ev.length=o.d.length+(l.filter (qa9 c)).length
theorem V9.due_iff {c:Ck} (V:V9 c) {p:Pt} (hp:p∈c.l):(∃ q∈c.d,q.id=p.id)↔qa9 c p=true:=by
 constructor
 ·rintro⟨q,hq,he⟩
  obtain⟨p',hp',f,y,hd⟩:=V.f.some q hq
  obtain⟨i,hi⟩:=List.getElem?_of_mem hp
  obtain⟨j,hj⟩:=List.getElem?_of_mem hp'
  have:=(qtn V.v.up hi hj (he.symm.trans hd.id)).2
  rw[this]
  exact f
 ·intro f
  obtain⟨q,hq,y,hy⟩:=V.f.all p hp f
  exact⟨q,hq,hy.id⟩
theorem qgv {c:Ck} {s m:List Pt} {o o2:Ck} (A:VA o.u o.b o.fr o.ev o.wh) (A2:VA o2.u o2.b o2.fr o2.ev o2.wh) (h:DueF (alC c s o) m o.d) (hk:∀ p∈m,∀ y∈o.ev,y.k=p.id→y∈o2.ev):DueF (alC c s o2) m o.d:=
 DueF.map (c:=alC c s o) (fun _ _=>rfl) (fun p hp _ _ ⟨y,hy⟩=>by
  obtain⟨e1,e2⟩:=DueOk.own hy A
  obtain⟨j,_,hj⟩:=hy.at_
  exact⟨y,DueOk.mk' (c:=alC c s o2) A2 (hk p hp y (List.mem_of_getElem? hj) hy.k) e1 e2 hy.id hy.k hy.n hy.d⟩) h
theorem AlStep.mid {c:Ck} {s:List Pt} (P:AlPre c s) {p:Pt} {m l:List Pt} {o o2:Ck} (hp:p∈c.l) (hu:∀ p'∈l,p'.id≠p.id) (hm:∀ p'∈m,p'.id≠p.id) (I:AlInv c (p::l) o) (M:AlMid c s m (p::l) o) (h:AlStep c s p o o2):AlMid c s (m++[p]) l o2:=by
 have F:=P.fail hp
 have D:=P.V.due_iff hp
 have I2:=h.inv P hp hu I
 have Me:=M.e
 cases h with
 | @key j k q y f hq he hf hy e1 e2=>
  obtain⟨k1,k2,k3,_⟩:=F.i.ok f
  obtain⟨A,pm⟩:=VA.rekey ⟨k2,k3⟩ k1 I.a hy
  obtain⟨y1,hy1,g1,g2,g3⟩:=M.ol p List.mem_cons_self q (List.mem_of_getElem? hq) he
  have ey:y1=y:=by
   obtain⟨j1,hj1⟩:=List.getElem?_of_mem hy1
   have o1:=(VA.own I.a hj1).2
   have o2:=(VA.own I.a hy).2
   rw[g1] at o1
   rw[e1,o1] at o2
   have e3:(j1:Int)=(k:Int):=Option.some.inj o2
   have e4:j1=k:=by omega
   subst e4
   rw[hj1] at hy
   exact Option.some.inj hy
  subst ey
  have fp:qa9 c p=true:=D.1 ⟨q,List.mem_of_getElem? hq,he⟩
  rw[List.filter_cons_of_pos fp,List.length_cons] at Me
  have le:=pm.length_eq
  rw[List.length_set] at le
  have hk:=qam hy
  have stay:∀ z∈o.ev,z.k≠p.id→z∈(qa6 o.ev o.wh k y1 (qai s c.tn c.td p).1 (qai s c.tn c.td p).2.1).1:=fun z hz hne=>by
   obtain⟨i,hi⟩:=List.getElem?_of_mem hz
   have hne2:k≠i:=fun e=>by
    subst e
    rw[hy] at hi
    have e5:=Option.some.inj hi
    subst e5
    exact hne g3
   refine pm.mem_iff.2 (List.mem_of_getElem? (i:=i) ?_)
   rw[List.getElem?_set,if_neg hne2]
   exact hi
  have new:(⟨(qai s c.tn c.td p).1,(qai s c.tn c.td p).2.1,y1.k,y1.i,y1.w⟩:Ev)∈(qa6 o.ev o.wh k y1 (qai s c.tn c.td p).1 (qai s c.tn c.td p).2.1).1:=
   pm.mem_iff.2 (List.mem_of_getElem? (i:=k) (by rw[List.getElem?_set,if_pos rfl,if_pos hk]))
  refine⟨?_,fun p' hp' q' hq' he'=>?_,by show (qa6 _ _ _ _ _ _).1.length=_;simp only[List.length_append,List.length_cons,List.length_nil];omega⟩
  ·have K:=qgv (c:=c) (s:=s) (o2:={ o with ev:=(qa6 o.ev o.wh k y1 (qai s c.tn c.td p).1 (qai s c.tn c.td p).2.1).1,wh:=(qa6 o.ev o.wh k y1 (qai s c.tn c.td p).1 (qai s c.tn c.td p).2.1).2,d:=o.d++[q] }) I.a A M.f (fun p' hp' z hz hzk=>stay z hz (by rw[hzk];exact hm p' hp'))
   exact (K.snoc).2 f q _ (DueOk.mk' A new e1 e2 he g3 rfl rfl)
  ·obtain⟨y2,hy2,w1,w2,w3⟩:=M.ol p' (List.mem_cons_of_mem _ hp') q' hq' he'
   exact⟨y2,stay y2 hy2 (by rw[w3];exact hu p' hp'),w1,w2,w3⟩
 | @push u2 f2 b2 hi hw f hn ht=>
  obtain⟨k1,k2,k3,_⟩:=F.i.ok f
  have hz:cnE o.ev p.id=0:=by
   have h1:=P.V.v.lo p hp
   have h2:=P.V.v.hi p hp
   have h3:=P.V.v.nx
   unfold cnE
   rw[if_pos (by omega),if_neg]
   rintro⟨m,hm,e⟩
   exact I.nw m hm p List.mem_cons_self hn e
  obtain⟨A,pm,_,_⟩:=VA.push ⟨k2,k3⟩ k1 I.a hz ht
  have fp:¬ qa9 c p=true:=fun h=>by
   obtain⟨q,hq,he⟩:=D.2 h
   exact hn q hq he
  rw[List.filter_cons_of_neg fp] at Me
  have le:=pm.length_eq
  rw[List.length_append] at le
  simp only[List.length_cons,List.length_nil] at le
  refine⟨?_,fun p' hp' q' hq' he'=>?_,by show (qa3 _ _ _).1.length=_;simp only[List.length_append,List.length_cons,List.length_nil];omega⟩
  ·have K:=qgv (c:=c) (s:=s) (o2:={ o with u:=u2,b:=b2,fr:=f2,ev:=(qa3 o.ev o.wh ⟨(qai s c.tn c.td p).1,(qai s c.tn c.td p).2.1,p.id,hi,hw⟩).1,wh:=(qa3 o.ev o.wh ⟨(qai s c.tn c.td p).1,(qai s c.tn c.td p).2.1,p.id,hi,hw⟩).2,d:=o.d++[⟨p.id,hi,hw⟩] }) I.a A M.f (fun p' hp' z hz hzk=>pm.mem_iff.2 (List.mem_append_left _ hz))
   exact (K.snoc).2 f _ _ (DueOk.mk' A (pm.mem_iff.2 (List.mem_append_right _ (List.mem_singleton.2 rfl))) rfl rfl rfl rfl rfl rfl)
  ·obtain⟨y2,hy2,w⟩:=M.ol p' (List.mem_cons_of_mem _ hp') q' hq' he'
   exact⟨y2,pm.mem_iff.2 (List.mem_append_left _ hy2),w⟩
 | @gone j k q y f hq he hf hy e1 e2=>
  obtain⟨A,pm,_⟩:=VA.without I.a hy
  obtain⟨y1,hy1,g1,g2,g3⟩:=M.ol p List.mem_cons_self q (List.mem_of_getElem? hq) he
  have ey:y1=y:=by
   obtain⟨j1,hj1⟩:=List.getElem?_of_mem hy1
   have o1:=(VA.own I.a hj1).2
   have o2:=(VA.own I.a hy).2
   rw[g1] at o1
   rw[e1,o1] at o2
   have e3:(j1:Int)=(k:Int):=Option.some.inj o2
   have e4:j1=k:=by omega
   subst e4
   rw[hj1] at hy
   exact Option.some.inj hy
  subst ey
  have fp:qa9 c p=true:=D.1 ⟨q,List.mem_of_getElem? hq,he⟩
  rw[List.filter_cons_of_pos fp,List.length_cons] at Me
  have le:=pm.length_eq
  rw[List.length_append] at le
  simp only[List.length_cons,List.length_nil] at le
  have stay:∀ z∈o.ev,z.k≠p.id→z∈(qal o.ev o.wh k y1).1:=fun z hz hne=>by
   rcases List.mem_append.1 (pm.mem_iff.2 hz) with h | h
   ·exact h
   ·exfalso
    rw[List.mem_singleton.1 h] at hne
    exact hne g3
  refine⟨?_,fun p' hp' q' hq' he'=>?_,by show (qal _ _ _ _).1.length=_;show _=o.d.length+_;omega⟩
  ·have K:=qgv (c:=c) (s:=s) (o2:={ o with b:=o.b.set y1.i.toNat false,fr:=o.fr++[y1.i],ev:=(qal o.ev o.wh k y1).1,wh:=(qal o.ev o.wh k y1).2 }) I.a A M.f (fun p' hp' z hz hzk=>stay z hz (by rw[hzk];exact hm p' hp'))
   exact (K.snoc).1 f
  ·obtain⟨y2,hy2,w1,w2,w3⟩:=M.ol p' (List.mem_cons_of_mem _ hp') q' hq' he'
   exact⟨y2,stay y2 hy2 (by rw[w3];exact hu p' hp'),w1,w2,w3⟩
 | skip f hn=>
  have fp:¬ qa9 c p=true:=fun h=>by
   obtain⟨q,hq,he⟩:=D.2 h
   exact hn q hq he
  rw[List.filter_cons_of_neg fp] at Me
  exact⟨(M.f.snoc).1 f,fun p' hp'=>M.ol p' (List.mem_cons_of_mem _ hp'),Me⟩
theorem AlRun.ok {c:Ck} {s:List Pt} (P:AlPre c s) {l:List Pt} {o:Ck} {r:Option Ck} (h:AlRun c s l o r):∀ {m:List Pt},m++l=c.l→AlInv c l o→AlMid c s m l o→∀ o',r=some o'→AlInv c [] o'∧AlMid c s c.l [] o':=by
 induction h with
 | nil o=>
  intro m hm I M o' e
  cases e
  rw[List.append_nil] at hm
  rw[← hm]
  exact⟨I,M⟩
 | @step p l o o2 r hs _ ih=>
  intro m hm I M o' e
  have hp:p∈c.l:=by rw[← hm];simp
  have nd:=P.V.v.up.nodup
  rw[← hm,List.map_append,List.map_cons,List.nodup_append] at nd
  obtain⟨_,nl,nm⟩:=nd
  rw[List.nodup_cons] at nl
  have hu:∀ p'∈l,p'.id≠p.id:=fun p' hp' e=>nl.1 (List.mem_map.2 ⟨p',hp',e⟩)
  have hmm:∀ p'∈m,p'.id≠p.id:=fun p' hp' e=>nm p'.id (List.mem_map.2 ⟨p',hp',rfl⟩) p.id List.mem_cons_self e
  exact ih (m:=m++[p]) (by rw[List.append_assoc];exact hm) (hs.inv P hp hu I) (hs.mid P hp hu hmm I M) o' e
 | full _=>intro m _ _ _ o' e;cases e
end Go.Proofs.YtkjaanhddkkodaaGreat

namespace Go.Proofs.YtkjaanhddkkodaaGreat
set_option maxRecDepth 100000
open Go.RowKit
def qhG (c:Ck):Bool:=decide (40<c.l.length)||(decide (40<c.d.length)||(decide (¬ (c.s.length≤16∨64≤c.s.length∧c.s.length≤70))||qil c.u c.b c.fr c.ev c.wh))
theorem qk3 (c:Ck):Fn 26 8 [qap c] (qas c) (.pv (.bool (qhG c))) 0 []:=by
 unfold qhG
 by_cases h1:40<c.l.length
 ·rw[dt h1]
  exact qFY (g1:=dt (by omega))
 ·rw[df h1,Bool.false_or]
  by_cases h2:40<c.d.length
  ·rw[dt h2]
   exact qD4 (g1:=df (by omega)) (g2:=dt (by omega))
  ·rw[df h2,Bool.false_or]
   rcases qhp c.s with ⟨h3,hG⟩ | ⟨h3,hG⟩
   ·rw[dt h3]
    exact qFT (g1:=df (by omega)) (g2:=df (by omega)) (hf:=hG)
   ·rw[df fun h=>h h3,Bool.false_or]
    have hA:=qme (u:=c.u) (b:=c.b) (fr:=c.fr) (ev:=c.ev) (wh:=c.wh)
    cases e:qil c.u c.b c.fr c.ev c.wh
    ·rw[e] at hA
     exact qA9 (g1:=df (by omega)) (g2:=df (by omega)) (hf:=hG) (hg:=hA)
    ·rw[e] at hA
     exact qGe (g1:=df (by omega)) (g2:=df (by omega)) (hf:=hG) (hg:=hA)
theorem qnQ {c:Ck} (h:qhG c=false) (h1:I64 c.tn) (h2:I64 c.td) (hi:∀ y∈c.ev,EvI y):S9 c∧c.l.length≤40∧c.d.length≤40∧c.s.length≤70:=by
 unfold qhG at h
 rw[Bool.or_eq_false_iff,Bool.or_eq_false_iff,Bool.or_eq_false_iff] at h
 obtain⟨a1,a2,a3,a4⟩:=h
 have b1:=of_decide_eq_false a1
 have b2:=of_decide_eq_false a2
 have b3:c.s.length≤16∨64≤c.s.length∧c.s.length≤70:=Classical.byContradiction fun h=>by
  rw[dt h] at a3
  cases a3
 unfold qil at a4
 rw[Bool.or_eq_false_iff,Bool.or_eq_false_iff] at a4
 obtain⟨g1,g2,g3⟩:=a4
 have g2:=of_decide_eq_false g2
 have g3:=of_decide_eq_false g3
 obtain⟨k1,k2,k3⟩:=qem g1
 exact⟨⟨h1,h2,by omega,by omega,⟨k1,k2,k3,by omega,by omega,hi⟩⟩,by omega,by omega,by omega⟩
end Go.Proofs.YtkjaanhddkkodaaGreat
