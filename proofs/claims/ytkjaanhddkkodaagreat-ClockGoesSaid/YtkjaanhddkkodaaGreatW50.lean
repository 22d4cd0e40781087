/-
  Joined: Bh, Bi. Conditions: none.
-/
import Derived.Test.YtkjaanhddkkodaaGreatW49
import Derived.Test.YtkjaanhddkkodaaGreatW18
import Derived.Test.YtkjaanhddkkodaaGreatLv
import Derived.Test.YtkjaanhddkkodaaGreatW41
namespace Go.Proofs.YtkjaanhddkkodaaGreat
set_option maxRecDepth 100000
open Go.RowKit
abbrev qpr (c:Ck) (s:List Pt) (o:Ck) (d:List Pt):List (Nat×Nat×SV):=[(1,0,qak c.l),(11,0,.pv (iV 0)),(11,1,.pv (iV 0)),(11,2,.pv (.slice none 0 0)),(11,3,.pv (iV 0)),(11,4,.pv (.slice none 0 0)),(11,5,.pv (.slice none 0 0)),(11,6,.pv (.slice none 0 0)),(11,7,.pv (.slice none 0 0)),(11,8,.pv (.slice none 0 0)),(11,9,.pv (.slice none 0 0)),(11,10,.pv (.slice none 0 0)),(21,0,.pv (iV c.tn)),(21,1,.pv (iV c.td)),(21,2,.ls 22 s.length),(21,3,.pv (iV c.x)),(21,4,.ls 14 c.l.length),(21,5,.ls 15 o.u.length),(21,6,.ls 16 o.b.length),(21,7,.ls 17 o.fr.length),(21,8,.ls 18 o.ev.length),(21,9,.ls 19 o.wh.length),(21,10,.ls 20 d.length),(22,0,qam s),(14,0,qak c.l),(15,0,zrI o.u),(16,0,zrB o.b),(17,0,zrI o.fr),(18,0,qap o.ev),(19,0,zrI o.wh),(20,0,qaQ d)]
abbrev qHJ (c:Ck) (s:List Pt) (o:Ck) (d:List Pt):List (Nat×Nat×SV):=[(11,0,.pv (iV 0)),(11,1,.pv (iV 0)),(11,2,.pv (.slice none 0 0)),(11,3,.pv (iV 0)),(11,4,.pv (.slice none 0 0)),(11,5,.pv (.slice none 0 0)),(11,6,.pv (.slice none 0 0)),(11,7,.pv (.slice none 0 0)),(11,8,.pv (.slice none 0 0)),(11,9,.pv (.slice none 0 0)),(11,10,.pv (.slice none 0 0)),(21,0,.pv (iV c.tn)),(21,1,.pv (iV c.td)),(21,2,.ls 22 s.length),(21,3,.pv (iV c.x)),(21,4,.ls 14 c.l.length),(21,5,.ls 15 o.u.length),(21,6,.ls 16 o.b.length),(21,7,.ls 17 o.fr.length),(21,8,.ls 18 o.ev.length),(21,9,.ls 19 o.wh.length),(21,10,.ls 20 d.length),(22,0,qam s),(14,0,qak c.l),(15,0,zrI o.u),(16,0,zrB o.b),(17,0,zrI o.fr),(18,0,qap o.ev),(19,0,zrI o.wh),(20,0,qaQ d)]
abbrev qpp (c:Ck) (k:Nat):List (Nat×SV):=[(4,.pp 11 0),(7,.pp 21 0),(32,.ls 1 c.l.length),(33,.pv (iV (c.l.length:Int))),(34,.pv (iV (k:Int)))]
theorem Up.of_pw {l:List Pt} (h:(l.map Pt.id).Pairwise (fun a b=>a<b)):Up l:=by
 intro k p q hp hq
 rw[List.pairwise_iff_getElem] at h
 have h1:=qai hp
 have h2:=qai hq
 obtain⟨_,e1⟩:=List.getElem?_eq_some_iff.1 hp
 obtain⟨_,e2⟩:=List.getElem?_eq_some_iff.1 hq
 have:=h k (k+1) (by simpa using h1) (by simpa using h2) (Nat.lt_succ_self k)
 rw[List.getElem_map,List.getElem_map,e1,e2] at this
 exact this
theorem qnR {α:Type} {l m:List α} {q:α}:(l++q::m)[l.length]?=some q:=by simp
theorem qwq {α:Type} (l m:List α) (q:α):(l++q::m).take l.length++(l++q::m).drop (l.length+1)=l++m:=by
 rw[List.take_left,← List.drop_drop,List.drop_left,List.drop_one,List.tail_cons]
theorem qEl {l m:List Pt} {n:Int} {k:Nat} (hk:k≤(l++m).length) (h1:∀ q∈l,q.id<n) (h2:∀ q∈m,n<q.id) (h3:∀ (t:Nat) (q:Pt),t<k→(l++m)[t]?=some q→q.id<n) (h4:∀ (t:Nat) (q:Pt),k≤t→(l++m)[t]?=some q→n<q.id):k=l.length:=by
 rw[List.length_append] at hk
 rcases Nat.lt_trichotomy k l.length with h | h | h
 ·obtain⟨q,hq⟩:=qah h
  have:=h4 k q (Nat.le_refl _) (by rw[List.getElem?_append_left h];exact hq)
  have:=h1 q (List.mem_of_getElem? hq)
  omega
 ·exact h
 ·obtain⟨q,hq⟩:=qah (l:=m) (k:=0) (by omega)
  have:=h3 l.length q h (by rw[List.getElem?_append_right (Nat.le_refl _),Nat.sub_self];exact hq)
  have:=h2 q (List.mem_of_getElem? hq)
  omega
theorem qrc {c:Ck} {s:List Pt} (P:AlPre c s):∀ (l m:List Pt) (o:Ck) (e:List Pt) (r:Option Ck),m++l=c.l→AlInv c l o→AlMid c s m l o→DueF c l e→(∃ pre,c.d=pre++e)→AlRun c s l o r→
 (∀ o',r=some o'→Rl 9 9 21 0 50 23 (qpp c m.length) (qpr c s { o with d:=o.d++e } (o.d++e)) (.exit 0) [(4,.pp 11 0),(7,.pp 21 0)] (qHJ c s o' o'.d))∧
 (r=none→Rl 9 9 21 0 50 23 (qpp c m.length) (qpr c s { o with d:=o.d++e } (o.d++e)) .ret [(4,.pp 11 0),(5,.pv (iV 18))] alZ):=by
 intro l
 induction l with
 | nil=>
  intro m o e r hm I M F _ hr
  cases hr
  have he:e=[]:=F
  subst he
  rw[List.append_nil] at hm
  rw[List.append_nil]
  refine⟨fun o' h=>?_,fun h=>by cases h⟩
  cases h
  rw[hm]
  exact qxU (o:={ o with d:=o.d }) (hge:=df (by omega))
 | cons p l ih=>
  intro m o e r hm I M F hpre hr
  obtain⟨pre,hpre⟩:=hpre
  have hmem:p∈c.l:=by rw[← hm];simp
  have hk:c.l[m.length]?=some p:=by rw[← hm];exact qnR
  have hlk:=qai hk
  have hcl:=P.S.l
  have lk:decide ((m.length:Int)<(c.l.length:Int))=true:=dt (by omega)
  have pw:=P.V.v.up.lt_pw
  rw[← hm,List.map_append,List.map_cons,List.pairwise_append,List.pairwise_cons] at pw
  obtain⟨pw1,⟨pw2,pw3⟩,pw4⟩:=pw
  have hu:∀ p'∈l,p'.id≠p.id:=fun p' hp' e=>by have:=pw2 p'.id (List.mem_map.2 ⟨p',hp',rfl⟩);omega
  have hmm:∀ p'∈m,p'.id≠p.id:=fun p' hp' e=>by have:=pw4 p'.id (List.mem_map.2 ⟨p',hp',rfl⟩) p.id List.mem_cons_self;omega
  have lo:∀ q∈o.d,q.id<p.id:=fun q hq=>by
   obtain⟨p',hp',_,y,hd⟩:=M.f.some q hq
   rw[hd.id]
   exact pw4 p'.id (List.mem_map.2 ⟨p',hp',rfl⟩) p.id List.mem_cons_self
  have cd:∀ q∈e,q∈c.d:=fun q hq=>by rw[hpre];exact List.mem_append_right _ hq
  have D:=P.V.due_iff hmem
  have sz:=I.sz
  have el:e.length≤(p::l).length:=by
   have:=(qe4.1 F).1
   rw[this]
   exact List.length_filter_le _ _
  have up:Up (o.d++e):=by
   refine Up.of_pw ?_
   have h1:(o.d++e).map Pt.id=(m.filter (qba (alC c s o))).map Pt.id++((p::l).filter (qba c)).map Pt.id:=by rw[List.map_append,M.f.ids,F.ids]
   rw[h1,← List.map_append]
   refine (P.V.v.up.lt_pw).sublist ?_
   rw[← hm]
   exact List.Sublist.map _ (List.Sublist.append List.filter_sublist List.filter_sublist)
  have T:T9 (alC c s { o with d:=o.d++e }):=⟨⟨P.S.tn,P.S.td,P.V.t,P.sv,P.V.v,P.kn⟩,I.a,up,by show (o.d++e).length≤1000;rw[List.length_append];omega⟩
  have hp':p∈(alC c s { o with d:=o.d++e }).l:=hmem
  have one:∀ {j:Nat} {q q':Pt},c.d[j]?=some q→q.id=p.id→q'∈c.d→q'.id=p.id→q'=q:=fun {j q q'} hq he hq' he'=>by
   obtain⟨i,hi⟩:=List.getElem?_of_mem hq'
   have:=qmf P.V hi hq (he'.trans he.symm)
   subst this
   rw[hi] at hq
   exact Option.some.inj hq
  cases hr with
  | full h=>
   obtain⟨f,hn,ht⟩:=h
   have fp:¬ (qaf c.s c.tn c.td p).2.2=true:=fun h=>by
    obtain⟨q,hq,he⟩:=D.2 h
    exact hn q hq he
   have F':DueF c l e:=by
    have:(if (qaf c.s c.tn c.td p).2.2=true then ∃ q r,e=q::r∧(∃ y,DueOk c p q y)∧DueF c l r else DueF c l e):=F
    rwa [if_neg fp] at this
   have hz:cnE o.ev p.id=0:=by
    have h1:=P.V.v.lo p hmem
    have h2:=P.V.v.hi p hmem
    have h3:=P.V.v.nx
    unfold cnE
    rw[if_pos (by omega),if_neg]
    rintro⟨m,hm,e⟩
    exact I.nw m hm p List.mem_cons_self hn e
   have hn':∀ q∈(alC c s { o with d:=o.d++e }).d,q.id≠p.id:=fun q hq=>by
    rcases List.mem_append.1 hq with h | h
    ·have:=lo q h;omega
    ·exact hn q (cd q h)
   refine⟨fun o' h=>(by cases h),fun _=>?_⟩
   exact qrZ (o:={ o with d:=o.d++e }) (hk:=hk) (hin:=qao hlk) (hlt:=lk) (ht:=qoD T hp' f hn' hz ht)
  | @step _ _ _ o2 _ h hr=>
   have I2:=h.inv P hmem hu I
   have M2:=h.mid P hmem hu hmm I M
   have hm2:(m++[p])++l=c.l:=by rw[List.append_assoc];exact hm
   have sc:((m++[p]).length:Nat)=m.length+1:=by rw[List.length_append];rfl
   cases h with
   | @key j k q y f hq he hf hy e1 e2=>
    have fp:(qaf c.s c.tn c.td p).2.2=true:=D.1 ⟨q,List.mem_of_getElem? hq,he⟩
    obtain⟨q',e',rfl,⟨y',hd⟩,F'⟩:∃ q r,e=q::r∧(∃ y,DueOk c p q y)∧DueF c l r:=by
     have:(if (qaf c.s c.tn c.td p).2.2=true then ∃ q r,e=q::r∧(∃ y,DueOk c p q y)∧DueF c l r else DueF c l e):=F
     rwa [if_pos fp] at this
    have eq:=one hq he (cd q' List.mem_cons_self) hd.id
    subst eq
    have nx:=ih (m++[p]) _ e' r hm2 I2 M2 F' ⟨pre++[q'],by rw[List.append_assoc];exact hpre⟩ hr
    rw[sc] at nx
    have ea:o.d++[q']++e'=o.d++q'::e':=by rw[List.append_assoc];rfl
    rw[show ({ o with ev:=(qaR o.ev o.wh k y (qaf s c.tn c.td p).1 (qaf s c.tn c.td p).2.1).1,wh:=(qaR o.ev o.wh k y (qaf s c.tn c.td p).1 (qaf s c.tn c.td p).2.1).2,d:=o.d++[q'] }:Ck).d=o.d++[q'] from rfl,ea] at nx
    have R:=qBk T hp' f (k:=o.d.length) qnR he hy e1 e2
    have st:∀ {e:Exit} {tm2:TmL} {hp2:HpL},Rl 9 9 21 0 50 23 (qpp c (m.length+1)) (qpr c s (qBy (alC c s { o with d:=o.d++q'::e' }) k y (qaf s c.tn c.td p).1 (qaf s c.tn c.td p).2.1) (o.d++q'::e')) e tm2 hp2→Rl 9 9 21 0 50 23 (qpp c m.length) (qpr c s { o with d:=o.d++q'::e' } (o.d++q'::e')) e tm2 hp2:=fun r=>
     qwI (o:={ o with d:=o.d++q'::e' }) (r9:=qBy (alC c s { o with d:=o.d++q'::e' }) k y (qaf s c.tn c.td p).1 (qaf s c.tn c.td p).2.1) (hk:=hk) (hin:=qao hlk) (hlt:=lk) (ht:=R) (hs:=qar (by omega)) (r:=r)
    exact⟨fun o' h=>st (nx.1 o' h),fun h=>st (nx.2 h)⟩
   | @push u2 f2 b2 hi hw f hn ht=>
    have fp:¬ (qaf c.s c.tn c.td p).2.2=true:=fun h=>by
     obtain⟨q,hq,he⟩:=D.2 h
     exact hn q hq he
    have F':DueF c l e:=by
     have:(if (qaf c.s c.tn c.td p).2.2=true then ∃ q r,e=q::r∧(∃ y,DueOk c p q y)∧DueF c l r else DueF c l e):=F
     rwa [if_neg fp] at this
    have hz:cnE o.ev p.id=0:=by
     have h1:=P.V.v.lo p hmem
     have h2:=P.V.v.hi p hmem
     have h3:=P.V.v.nx
     unfold cnE
     rw[if_pos (by omega),if_neg]
     rintro⟨m,hm,e⟩
     exact I.nw m hm p List.mem_cons_self hn e
    have hn':∀ q∈(alC c s { o with d:=o.d++e }).d,q.id≠p.id:=fun q hq=>by
     rcases List.mem_append.1 hq with h | h
     ·have:=lo q h;omega
     ·exact hn q (cd q h)
    have hi':∀ q∈e,p.id<q.id:=fun q hq=>by
     obtain⟨p',hp',_,y,hd⟩:=F'.some q hq
     rw[hd.id]
     exact pw2 p'.id (List.mem_map.2 ⟨p',hp',rfl⟩)
    obtain⟨k,k1,k2,k3,R⟩:=qor T hp' f hn' hz ht
    have ek:k=o.d.length:=qEl k1 lo hi' k2 k3
    subst ek
    rw[show (alC c s { o with d:=o.d++e }).d.take o.d.length=o.d from List.take_left,show (alC c s { o with d:=o.d++e }).d.drop o.d.length=e from List.drop_left] at R
    have nx:=ih (m++[p]) _ e r hm2 I2 M2 F' ⟨pre,hpre⟩ hr
    rw[sc] at nx
    have ea:o.d++[⟨p.id,hi,hw⟩]++e=o.d++⟨p.id,hi,hw⟩::e:=by rw[List.append_assoc];rfl
    simp only at nx
    rw[ea] at nx
    have st:∀ {e':Exit} {tm2:List (Nat×SV)} {hp2:List (Nat×Nat×SV)},Rl 9 9 21 0 50 23 (qpp c (m.length+1)) (qpr c s (qmi (alC c s { o with d:=o.d++e }) u2 f2 b2 (qaf s c.tn c.td p).1 (qaf s c.tn c.td p).2.1 p.id hi hw) (o.d++⟨p.id,hi,hw⟩::e)) e' tm2 hp2→Rl 9 9 21 0 50 23 (qpp c m.length) (qpr c s { o with d:=o.d++e } (o.d++e)) e' tm2 hp2:=fun r=>
     qni (o:={ o with d:=o.d++e }) (r9:=qmi (alC c s { o with d:=o.d++e }) u2 f2 b2 (qaf s c.tn c.td p).1 (qaf s c.tn c.td p).2.1 p.id hi hw) (l2:=o.d++⟨p.id,hi,hw⟩::e) (hk:=hk) (hin:=qao hlk) (hlt:=lk) (ht:=R) (hs:=qar (by omega)) (r:=r)
    exact⟨fun o' h=>st (nx.1 o' h),fun h=>st (nx.2 h)⟩
   | @gone j k q y f hq he hf hy e1 e2=>
    have fp:(qaf c.s c.tn c.td p).2.2=true:=D.1 ⟨q,List.mem_of_getElem? hq,he⟩
    obtain⟨q',e',rfl,⟨y',hd⟩,F'⟩:∃ q r,e=q::r∧(∃ y,DueOk c p q y)∧DueF c l r:=by
     have:(if (qaf c.s c.tn c.td p).2.2=true then ∃ q r,e=q::r∧(∃ y,DueOk c p q y)∧DueF c l r else DueF c l e):=F
     rwa [if_pos fp] at this
    have eq:=one hq he (cd q' List.mem_cons_self) hd.id
    subst eq
    have nx:=ih (m++[p]) _ e' r hm2 I2 M2 F' ⟨pre++[q'],by rw[List.append_assoc];exact hpre⟩ hr
    rw[sc] at nx
    have R:=qwN T hp' f (k:=o.d.length) qnR he hy e1 e2
    rw[show (alC c s { o with d:=o.d++q'::e' }).d.take o.d.length++(alC c s { o with d:=o.d++q'::e' }).d.drop (o.d.length+1)=o.d++e' from qwq o.d e' q'] at R
    have st:∀ {e:Exit} {tm2:TmL} {hp2:HpL},Rl 9 9 21 0 50 23 (qpp c (m.length+1)) (qpr c s (qhn (alC c s { o with d:=o.d++q'::e' }) k y) (o.d++e')) e tm2 hp2→Rl 9 9 21 0 50 23 (qpp c m.length) (qpr c s { o with d:=o.d++q'::e' } (o.d++q'::e')) e tm2 hp2:=fun r=>
     qni (o:={ o with d:=o.d++q'::e' }) (r9:=qhn (alC c s { o with d:=o.d++q'::e' }) k y) (l2:=o.d++e') (hk:=hk) (hin:=qao hlk) (hlt:=lk) (ht:=R) (hs:=qar (by omega)) (r:=r)
    exact⟨fun o' h=>st (nx.1 o' h),fun h=>st (nx.2 h)⟩
   | skip f hn=>
    have fp:¬ (qaf c.s c.tn c.td p).2.2=true:=fun h=>by
     obtain⟨q,hq,he⟩:=D.2 h
     exact hn q hq he
    have F':DueF c l e:=by
     have:(if (qaf c.s c.tn c.td p).2.2=true then ∃ q r,e=q::r∧(∃ y,DueOk c p q y)∧DueF c l r else DueF c l e):=F
     rwa [if_neg fp] at this
    have hn':∀ q∈(alC c s { o with d:=o.d++e }).d,q.id≠p.id:=fun q hq=>by
     rcases List.mem_append.1 hq with h | h
     ·have:=lo q h;omega
     ·exact hn q (cd q h)
    have nx:=ih (m++[p]) _ e r hm2 I2 M2 F' ⟨pre,hpre⟩ hr
    rw[sc] at nx
    have R:=qob T hp' f hn'
    have st:∀ {e':Exit} {tm2:List (Nat×SV)} {hp2:List (Nat×Nat×SV)},Rl 9 9 21 0 50 23 (qpp c (m.length+1)) (qpr c s { o with d:=o.d++e } (o.d++e)) e' tm2 hp2→Rl 9 9 21 0 50 23 (qpp c m.length) (qpr c s { o with d:=o.d++e } (o.d++e)) e' tm2 hp2:=fun r=>
     qsl (o:={ o with d:=o.d++e }) (hk:=hk) (hin:=qao hlk) (hlt:=lk) (ht:=R) (hs:=qar (by omega)) (r:=r)
    exact⟨fun o' h=>st (nx.1 o' h),fun h=>st (nx.2 h)⟩
theorem quC {c:Ck} {s:List Pt} (P:AlPre c s):AlMid c s [] c.l { c with d:=[] }:=⟨rfl,fun p hp q hq he=>by
 obtain⟨p',hp',_,y,hd⟩:=P.V.f.some q hq
 obtain⟨e1,e2⟩:=hd.own P.V.a
 obtain⟨j,_,hj⟩:=hd.at_
 exact⟨y,List.mem_of_getElem? hj,e1,e2,hd.k.trans (hd.id.symm.trans he)⟩,by
 have:=congrArg List.length P.V.f.ids
 rw[List.length_map,List.length_map] at this
 have e:=P.V.e
 show c.ev.length=0+_
 omega⟩
theorem qwG {c:Ck} (S:S9 c) (hs:c.s.length≤70) (s:List Pt) (hsl:s.length≤70):(qd4 c s≠0→qhy 21 c s (qd4 c s))∧
 (qd4 c s=0→∀ r,AlRun c s c.l { c with d:=[] } r→(∀ o,r=some o→qyy 21 c s o)∧(r=none→qhy 21 c s 18)):=by
 have h1:=qcG S hs
 have h2:=qef s
 have hcl:=S.l
 obtain⟨e3,h3,he3⟩:=qs7 c.x (s:=s) (l:=c.l) (by omega) (by omega)
 by_cases V:V9 c
 ·rw[qck V] at h1
  by_cases hv:qfd s=0
  ·rw[hv] at h2
   have sv:=qcB.1 hv
   rcases he3 with ⟨rfl,hk⟩ | ⟨rfl,hk⟩
   ·have e:qd4 c s=0:=by unfold qd4;rw[if_pos V,if_pos hv,if_pos (hk sv)]
    refine⟨fun h=>(h e).elim,fun _ r hr=>?_⟩
    have P:AlPre c s:=⟨S,V,sv,hk sv⟩
    have L:=qrc P c.l [] { c with d:=[] } c.d r rfl (qe6 P) (quC P) V.f ⟨[],rfl⟩ hr
    have C:=qgR S (by omega)
    have F:=qjl (s:=s) (by omega)
    exact⟨fun o h=>qyT (o:=o) (h1:=h1) (h2:=h2) (h3:=h3) (hcl:=C) (hcf:=F) (r0:=L.1 o h),fun h=>qrg (h1:=h1) (h2:=h2) (h3:=h3) (hcl:=C) (hcf:=F) (r0:=L.2 h)⟩
   ·have e:qd4 c s=6:=by unfold qd4;rw[if_pos V,if_pos hv,if_neg (hk sv)]
    rw[e]
    exact⟨fun _=>qCE (h1:=h1) (h2:=h2) (h3:=h3) (he:=by decide),fun h=>by cases h⟩
  ·have e:qd4 c s=qfd s:=by unfold qd4;rw[if_pos V,if_neg hv]
   rw[e]
   exact⟨fun _=>qAJ (h1:=h1) (h2:=h2) (h3:=h3) (he:=by simpa using hv),fun h=>(hv h).elim⟩
 ·rw[qbD V] at h1
  have e:qd4 c s=8:=by unfold qd4;rw[if_neg V]
  rw[e]
  exact⟨fun _=>qB1 (h1:=h1) (h2:=h2) (h3:=h3) (he:=by decide),fun h=>by cases h⟩
theorem qEk:Prog9 where
 new:=qER
 check:=qcG
 certify:=qna
 retire:=qqz
 next:=qCV
 fail:=qCx
 move:=qAX
 alter:=qwG
end Go.Proofs.YtkjaanhddkkodaaGreat

namespace Go.Proofs.YtkjaanhddkkodaaGreat
set_option maxRecDepth 100000
open Go.RowKit
theorem qk9 (c:Ck) (h1:I64 c.tn) (h2:I64 c.td) (hi:∀ y∈c.ev,EvI y) (tn td:Int) (htn:I64 tn) (htd:I64 td) (s:List Pt) :
 Fn 5 9 [qan c,.pv (qab tn td),qaB 8 s] (qaq c++[(8,0,qam s)]) (.pv (.bool true)) 0 []:=qpL qEk htn htd h1 h2 hi
abbrev qG5 (c:Ck) (s:List Pt):List (TypeId×Nat×Nat×List Value):=ckR c++[(57,3,s.length,qbo s)]
section
variable {W:World} {c:Ck} {s:List Pt} {u0 u1 u2 u3 u4 u5 u6 u7 uf:Value} {f:FuncId}
theorem qui (r:ZIns W [u0,u1,u2,u3,u4,u5,u6,u7] (ckR c)) (rf:Rd W 3 uf s.length (qbo s)):ZIns W [u0,u1,u2,u3,u4,u5,u6,u7,uf] (qG5 c s):=ZIns.snoc r rf (qfr s)
theorem qxB (rf:Rd W 3 uf s.length (qbo s)):SV.is (ql4 [u0,u1,u2,u3,u4,u5,u6,u7,uf]) (qaB 8 s) (.agg #[uf]):=⟨[uf],⟨⟨rfl,rf.zsl⟩,tI⟩,rfl⟩
theorem qmI {v1:Value} (h:Fn f 9 [qan c,.pv v1,qaB 8 s] (qaq c++[(8,0,qam s)]) (.pv (.bool true)) 0 []) (r:ZIns W [u0,u1,u2,u3,u4,u5,u6,u7] (ckR c)) (rf:Rd W 3 uf s.length (qbo s)) :
 Calls Tryz.prog f #[.agg #[iV c.tn,iV c.td,u0,iV c.x,u1,u2,u3,u4,u5,u6,u7],v1,.agg #[uf]] W fun e W'=>e=.returned (.bool true)∧Gr W W':=
 qrq (rs:=qG5 c s) (us:=[u0,u1,u2,u3,u4,u5,u6,u7,uf]) (vs:=[.agg #[iV c.tn,iV c.td,u0,iV c.x,u1,u2,u3,u4,u5,u6,u7],v1,.agg #[uf]]) h (qui r rf) ⟨qrd r,rfl,qxB rf,tI⟩
end
end Go.Proofs.YtkjaanhddkkodaaGreat
