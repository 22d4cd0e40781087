/-
  Joined: Bh, Bi, Bm. Conditions: none.
-/
import Derived.Test.YtkjaanhddkkodaaGreatW46
import Derived.Test.YtkjaanhddkkodaaGreatW18
import Derived.Test.YtkjaanhddkkodaaGreatW42
import Derived.Test.YtkjaanhddkkodaaGreatW39
namespace Go.Proofs.YtkjaanhddkkodaaGreat
set_option maxRecDepth 100000
open Go.RowKit
abbrev qoF (c:Ck) (s:List Pt) (o:Ck) (d:List Pt):List (Nat×Nat×SV):=[(1,0,qal c.l),(11,0,.pv (iV 0)),(11,1,.pv (iV 0)),(11,2,.pv (.slice none 0 0)),(11,3,.pv (iV 0)),(11,4,.pv (.slice none 0 0)),(11,5,.pv (.slice none 0 0)),(11,6,.pv (.slice none 0 0)),(11,7,.pv (.slice none 0 0)),(11,8,.pv (.slice none 0 0)),(11,9,.pv (.slice none 0 0)),(11,10,.pv (.slice none 0 0)),(21,0,.pv (iV c.tn)),(21,1,.pv (iV c.td)),(21,2,.ls 22 s.length),(21,3,.pv (iV c.x)),(21,4,.ls 14 c.l.length),(21,5,.ls 15 o.u.length),(21,6,.ls 16 o.b.length),(21,7,.ls 17 o.fr.length),(21,8,.ls 18 o.ev.length),(21,9,.ls 19 o.wh.length),(21,10,.ls 20 d.length),(22,0,qaj s),(14,0,qal c.l),(15,0,zrI o.u),(16,0,zrB o.b),(17,0,zrI o.fr),(18,0,qao o.ev),(19,0,zrI o.wh),(20,0,qaJ d)]
abbrev qFr (c:Ck) (s:List Pt) (o:Ck) (d:List Pt):List (Nat×Nat×SV):=[(11,0,.pv (iV 0)),(11,1,.pv (iV 0)),(11,2,.pv (.slice none 0 0)),(11,3,.pv (iV 0)),(11,4,.pv (.slice none 0 0)),(11,5,.pv (.slice none 0 0)),(11,6,.pv (.slice none 0 0)),(11,7,.pv (.slice none 0 0)),(11,8,.pv (.slice none 0 0)),(11,9,.pv (.slice none 0 0)),(11,10,.pv (.slice none 0 0)),(21,0,.pv (iV c.tn)),(21,1,.pv (iV c.td)),(21,2,.ls 22 s.length),(21,3,.pv (iV c.x)),(21,4,.ls 14 c.l.length),(21,5,.ls 15 o.u.length),(21,6,.ls 16 o.b.length),(21,7,.ls 17 o.fr.length),(21,8,.ls 18 o.ev.length),(21,9,.ls 19 o.wh.length),(21,10,.ls 20 d.length),(22,0,qaj s),(14,0,qal c.l),(15,0,zrI o.u),(16,0,zrB o.b),(17,0,zrI o.fr),(18,0,qao o.ev),(19,0,zrI o.wh),(20,0,qaJ d)]
abbrev qoH (c:Ck) (k:Nat):List (Nat×SV):=[(4,.pp 11 0),(7,.pp 21 0),(32,.ls 1 c.l.length),(33,.pv (iV (c.l.length:Int))),(34,.pv (iV (k:Int)))]
theorem Up.of_pw {l:List Pt} (h:(l.map Pt.id).Pairwise (fun a b=>a<b)):Up l:=by
 intro k p q hp hq
 rw[List.pairwise_iff_getElem] at h
 have h1:=qak hp
 have h2:=qak hq
 obtain⟨_,e1⟩:=List.getElem?_eq_some_iff.1 hp
 obtain⟨_,e2⟩:=List.getElem?_eq_some_iff.1 hq
 have:=h k (k+1) (by simpa using h1) (by simpa using h2) (Nat.lt_succ_self k)
 rw[List.getElem_map,List.getElem_map,e1,e2] at this
 exact this
theorem qnZ {α:Type} {l m:List α} {q:α}:(l++q::m)[l.length]?=some q:=by simp
theorem quV {α:Type} (l m:List α) (q:α):(l++q::m).take l.length++(l++q::m).drop (l.length+1)=l++m:=by
 rw[List.take_left,← List.drop_drop,List.drop_left,List.drop_one,List.tail_cons]
theorem qDc {l m:List Pt} {n:Int} {k:Nat} (hk:k≤(l++m).length) (h1:∀ q∈l,q.id<n) (h2:∀ q∈m,n<q.id) (h3:∀ (t:Nat) (q:Pt),t<k→(l++m)[t]?=some q→q.id<n) (h4:∀ (t:Nat) (q:Pt),k≤t→(l++m)[t]?=some q→n<q.id):k=l.length:=by
 rw[List.length_append] at hk
 rcases Nat.lt_trichotomy k l.length with h | h | h
 ·obtain⟨q,hq⟩:=qai h
  have:=h4 k q (Nat.le_refl _) (by rw[List.getElem?_append_left h];exact hq)
  have:=h1 q (List.mem_of_getElem? hq)
  omega
 ·exact h
 ·obtain⟨q,hq⟩:=qai (l:=m) (k:=0) (by omega)
  have:=h3 l.length q h (by rw[List.getElem?_append_right (Nat.le_refl _),Nat.sub_self];exact hq)
  have:=h2 q (List.mem_of_getElem? hq)
  omega
theorem qrz {c:Ck} {s:List Pt} (P:AlPre c s):∀ (l m:List Pt) (o:Ck) (e:List Pt) (r:Option Ck),m++l=c.l→AlInv c l o→AlMid c s m l o→DueF c l e→(∃ pre,c.d=pre++e)→AlRun c s l o r→
 (∀ o',r=some o'→Rl 9 9 21 0 50 23 (qoH c m.length) (qoF c s { o with d:=o.d++e } (o.d++e)) (.exit 0) [(4,.pp 11 0),(7,.pp 21 0)] (qFr c s o' o'.d))∧
 (r=none→Rl 9 9 21 0 50 23 (qoH c m.length) (qoF c s { o with d:=o.d++e } (o.d++e)) .ret [(4,.pp 11 0),(5,.pv (iV 18))] alZ):=by
 intro l
 induction l with
 | nil=>
  intro m o e r hm I M F _ hr
  cases hr
  have he:e=[]:=F
  subst he
  rw[List.append_nil] at hm
  rw[List.append_nil]
  refine⟨fun o' h=>?_,fun h=>by cases h⟩
  cases h
  rw[hm]
  exact qvn (o:={ o with d:=o.d }) (hge:=df (by omega))
 | cons p l ih=>
  intro m o e r hm I M F hpre hr
  obtain⟨pre,hpre⟩:=hpre
  have hmem:p∈c.l:=by rw[← hm];simp
  have hk:c.l[m.length]?=some p:=by rw[← hm];exact qnZ
  have hlk:=qak hk
  have hcl:=P.S.l
  have lk:decide ((m.length:Int)<(c.l.length:Int))=true:=dt (by omega)
  have pw:=P.V.v.up.lt_pw
  rw[← hm,List.map_append,List.map_cons,List.pairwise_append,List.pairwise_cons] at pw
  obtain⟨pw1,⟨pw2,pw3⟩,pw4⟩:=pw
  have hu:∀ p'∈l,p'.id≠p.id:=fun p' hp' e=>by have:=pw2 p'.id (List.mem_map.2 ⟨p',hp',rfl⟩);omega
  have hmm:∀ p'∈m,p'.id≠p.id:=fun p' hp' e=>by have:=pw4 p'.id (List.mem_map.2 ⟨p',hp',rfl⟩) p.id List.mem_cons_self;omega
  have lo:∀ q∈o.d,q.id<p.id:=fun q hq=>by
   obtain⟨p',hp',_,y,hd⟩:=M.f.some q hq
   rw[hd.id]
   exact pw4 p'.id (List.mem_map.2 ⟨p',hp',rfl⟩) p.id List.mem_cons_self
  have cd:∀ q∈e,q∈c.d:=fun q hq=>by rw[hpre];exact List.mem_append_right _ hq
  have D:=P.V.due_iff hmem
  have sz:=I.sz
  have el:e.length≤(p::l).length:=by
   have:=(qdT.1 F).1
   rw[this]
   exact List.length_filter_le _ _
  have up:Up (o.d++e):=by
   refine Up.of_pw ?_
   have h1:(o.d++e).map Pt.id=(m.filter (qaX (alC c s o))).map Pt.id++((p::l).filter (qaX c)).map Pt.id:=by rw[List.map_append,M.f.ids,F.ids]
   rw[h1,← List.map_append]
   refine (P.V.v.up.lt_pw).sublist ?_
   rw[← hm]
   exact List.Sublist.map _ (List.Sublist.append List.filter_sublist List.filter_sublist)
  have T:T9 (alC c s { o with d:=o.d++e }):=⟨⟨P.S.tn,P.S.td,P.V.t,P.sv,P.V.v,P.kn⟩,I.a,up,by show (o.d++e).length≤1000;rw[List.length_append];omega⟩
  have hp':p∈(alC c s { o with d:=o.d++e }).l:=hmem
  have one:∀ {j:Nat} {q q':Pt},c.d[j]?=some q→q.id=p.id→q'∈c.d→q'.id=p.id→q'=q:=fun {j q q'} hq he hq' he'=>by
   obtain⟨i,hi⟩:=List.getElem?_of_mem hq'
   have:=qle P.V hi hq (he'.trans he.symm)
   subst this
   rw[hi] at hq
   exact Option.some.inj hq
  cases hr with
  | full h=>
   obtain⟨f,hn,ht⟩:=h
   have fp:¬ (qae c.s c.tn c.td p).2.2=true:=fun h=>by
    obtain⟨q,hq,he⟩:=D.2 h
    exact hn q hq he
   have F':DueF c l e:=by
    have:(if (qae c.s c.tn c.td p).2.2=true then ∃ q r,e=q::r∧(∃ y,DueOk c p q y)∧DueF c l r else DueF c l e):=F
    rwa [if_neg fp] at this
   have hz:cnE o.ev p.id=0:=by
    have h1:=P.V.v.lo p hmem
    have h2:=P.V.v.hi p hmem
    have h3:=P.V.v.nx
    unfold cnE
    rw[if_pos (by omega),if_neg]
    rintro⟨m,hm,e⟩
    exact I.nw m hm p List.mem_cons_self hn e
   have hn':∀ q∈(alC c s { o with d:=o.d++e }).d,q.id≠p.id:=fun q hq=>by
    rcases List.mem_append.1 hq with h | h
    ·have:=lo q h;omega
    ·exact hn q (cd q h)
   refine⟨fun o' h=>(by cases h),fun _=>?_⟩
   exact qqI (o:={ o with d:=o.d++e }) (hk:=hk) (hin:=qap hlk) (hlt:=lk) (ht:=qn0 T hp' f hn' hz ht)
  | @step _ _ _ o2 _ h hr=>
   have I2:=h.inv P hmem hu I
   have M2:=h.mid P hmem hu hmm I M
   have hm2:(m++[p])++l=c.l:=by rw[List.append_assoc];exact hm
   have sc:((m++[p]).length:Nat)=m.length+1:=by rw[List.length_append];rfl
   cases h with
   | @key j k q y f hq he hf hy e1 e2=>
    have fp:(qae c.s c.tn c.td p).2.2=true:=D.1 ⟨q,List.mem_of_getElem? hq,he⟩
    obtain⟨q',e',rfl,⟨y',hd⟩,F'⟩:∃ q r,e=q::r∧(∃ y,DueOk c p q y)∧DueF c l r:=by
     have:(if (qae c.s c.tn c.td p).2.2=true then ∃ q r,e=q::r∧(∃ y,DueOk c p q y)∧DueF c l r else DueF c l e):=F
     rwa [if_pos fp] at this
    have eq:=one hq he (cd q' List.mem_cons_self) hd.id
    subst eq
    have nx:=ih (m++[p]) _ e' r hm2 I2 M2 F' ⟨pre++[q'],by rw[List.append_assoc];exact hpre⟩ hr
    rw[sc] at nx
    have ea:o.d++[q']++e'=o.d++q'::e':=by rw[List.append_assoc];rfl
    rw[show ({ o with ev:=(qa0 o.ev o.wh k y (qae s c.tn c.td p).1 (qae s c.tn c.td p).2.1).1,wh:=(qa0 o.ev o.wh k y (qae s c.tn c.td p).1 (qae s c.tn c.td p).2.1).2,d:=o.d++[q'] }:Ck).d=o.d++[q'] from rfl,ea] at nx
    have R:=qyt T hp' f (k:=o.d.length) qnZ he hy e1 e2
    have st:∀ {e:Exit} {tm2:TmL} {hp2:HpL},Rl 9 9 21 0 50 23 (qoH c (m.length+1)) (qoF c s (qA6 (alC c s { o with d:=o.d++q'::e' }) k y (qae s c.tn c.td p).1 (qae s c.tn c.td p).2.1) (o.d++q'::e')) e tm2 hp2→Rl 9 9 21 0 50 23 (qoH c m.length) (qoF c s { o with d:=o.d++q'::e' } (o.d++q'::e')) e tm2 hp2:=fun r=>
     qvE (o:={ o with d:=o.d++q'::e' }) (r9:=qA6 (alC c s { o with d:=o.d++q'::e' }) k y (qae s c.tn c.td p).1 (qae s c.tn c.td p).2.1) (hk:=hk) (hin:=qap hlk) (hlt:=lk) (ht:=R) (hs:=qay (by omega)) (r:=r)
    exact⟨fun o' h=>st (nx.1 o' h),fun h=>st (nx.2 h)⟩
   | @push u2 f2 b2 hi hw f hn ht=>
    have fp:¬ (qae c.s c.tn c.td p).2.2=true:=fun h=>by
     obtain⟨q,hq,he⟩:=D.2 h
     exact hn q hq he
    have F':DueF c l e:=by
     have:(if (qae c.s c.tn c.td p).2.2=true then ∃ q r,e=q::r∧(∃ y,DueOk c p q y)∧DueF c l r else DueF c l e):=F
     rwa [if_neg fp] at this
    have hz:cnE o.ev p.id=0:=by
     have h1:=P.V.v.lo p hmem
     have h2:=P.V.v.hi p hmem
     have h3:=P.V.v.nx
     unfold cnE
     rw[if_pos (by omega),if_neg]
     rintro⟨m,hm,e⟩
     exact I.nw m hm p List.mem_cons_self hn e
    have hn':∀ q∈(alC c s { o with d:=o.d++e }).d,q.id≠p.id:=fun q hq=>by
     rcases List.mem_append.1 hq with h | h
     ·have:=lo q h;omega
     ·exact hn q (cd q h)
    have hi':∀ q∈e,p.id<q.id:=fun q hq=>by
     obtain⟨p',hp',_,y,hd⟩:=F'.some q hq
     rw[hd.id]
     exact pw2 p'.id (List.mem_map.2 ⟨p',hp',rfl⟩)
    obtain⟨k,k1,k2,k3,R⟩:=qms T hp' f hn' hz ht
    have ek:k=o.d.length:=qDc k1 lo hi' k2 k3
    subst ek
    rw[show (alC c s { o with d:=o.d++e }).d.take o.d.length=o.d from List.take_left,show (alC c s { o with d:=o.d++e }).d.drop o.d.length=e from List.drop_left] at R
    have nx:=ih (m++[p]) _ e r hm2 I2 M2 F' ⟨pre,hpre⟩ hr
    rw[sc] at nx
    have ea:o.d++[⟨p.id,hi,hw⟩]++e=o.d++⟨p.id,hi,hw⟩::e:=by rw[List.append_assoc];rfl
    simp only at nx
    rw[ea] at nx
    have st:∀ {e':Exit} {tm2:List (Nat×SV)} {hp2:List (Nat×Nat×SV)},Rl 9 9 21 0 50 23 (qoH c (m.length+1)) (qoF c s (qln (alC c s { o with d:=o.d++e }) u2 f2 b2 (qae s c.tn c.td p).1 (qae s c.tn c.td p).2.1 p.id hi hw) (o.d++⟨p.id,hi,hw⟩::e)) e' tm2 hp2→Rl 9 9 21 0 50 23 (qoH c m.length) (qoF c s { o with d:=o.d++e } (o.d++e)) e' tm2 hp2:=fun r=>
     qmq (o:={ o with d:=o.d++e }) (r9:=qln (alC c s { o with d:=o.d++e }) u2 f2 b2 (qae s c.tn c.td p).1 (qae s c.tn c.td p).2.1 p.id hi hw) (l2:=o.d++⟨p.id,hi,hw⟩::e) (hk:=hk) (hin:=qap hlk) (hlt:=lk) (ht:=R) (hs:=qay (by omega)) (r:=r)
    exact⟨fun o' h=>st (nx.1 o' h),fun h=>st (nx.2 h)⟩
   | @gone j k q y f hq he hf hy e1 e2=>
    have fp:(qae c.s c.tn c.td p).2.2=true:=D.1 ⟨q,List.mem_of_getElem? hq,he⟩
    obtain⟨q',e',rfl,⟨y',hd⟩,F'⟩:∃ q r,e=q::r∧(∃ y,DueOk c p q y)∧DueF c l r:=by
     have:(if (qae c.s c.tn c.td p).2.2=true then ∃ q r,e=q::r∧(∃ y,DueOk c p q y)∧DueF c l r else DueF c l e):=F
     rwa [if_pos fp] at this
    have eq:=one hq he (cd q' List.mem_cons_self) hd.id
    subst eq
    have nx:=ih (m++[p]) _ e' r hm2 I2 M2 F' ⟨pre++[q'],by rw[List.append_assoc];exact hpre⟩ hr
    rw[sc] at nx
    have R:=qvb T hp' f (k:=o.d.length) qnZ he hy e1 e2
    rw[show (alC c s { o with d:=o.d++q'::e' }).d.take o.d.length++(alC c s { o with d:=o.d++q'::e' }).d.drop (o.d.length+1)=o.d++e' from quV o.d e' q'] at R
    have st:∀ {e:Exit} {tm2:TmL} {hp2:HpL},Rl 9 9 21 0 50 23 (qoH c (m.length+1)) (qoF c s (qgi (alC c s { o with d:=o.d++q'::e' }) k y) (o.d++e')) e tm2 hp2→Rl 9 9 21 0 50 23 (qoH c m.length) (qoF c s { o with d:=o.d++q'::e' } (o.d++q'::e')) e tm2 hp2:=fun r=>
     qmq (o:={ o with d:=o.d++q'::e' }) (r9:=qgi (alC c s { o with d:=o.d++q'::e' }) k y) (l2:=o.d++e') (hk:=hk) (hin:=qap hlk) (hlt:=lk) (ht:=R) (hs:=qay (by omega)) (r:=r)
    exact⟨fun o' h=>st (nx.1 o' h),fun h=>st (nx.2 h)⟩
   | skip f hn=>
    have fp:¬ (qae c.s c.tn c.td p).2.2=true:=fun h=>by
     obtain⟨q,hq,he⟩:=D.2 h
     exact hn q hq he
    have F':DueF c l e:=by
     have:(if (qae c.s c.tn c.td p).2.2=true then ∃ q r,e=q::r∧(∃ y,DueOk c p q y)∧DueF c l r else DueF c l e):=F
     rwa [if_neg fp] at this
    have hn':∀ q∈(alC c s { o with d:=o.d++e }).d,q.id≠p.id:=fun q hq=>by
     rcases List.mem_append.1 hq with h | h
     ·have:=lo q h;omega
     ·exact hn q (cd q h)
    have nx:=ih (m++[p]) _ e r hm2 I2 M2 F' ⟨pre,hpre⟩ hr
    rw[sc] at nx
    have R:=qmN T hp' f hn'
    have st:∀ {e':Exit} {tm2:List (Nat×SV)} {hp2:List (Nat×Nat×SV)},Rl 9 9 21 0 50 23 (qoH c (m.length+1)) (qoF c s { o with d:=o.d++e } (o.d++e)) e' tm2 hp2→Rl 9 9 21 0 50 23 (qoH c m.length) (qoF c s { o with d:=o.d++e } (o.d++e)) e' tm2 hp2:=fun r=>
     qp3 (o:={ o with d:=o.d++e }) (hk:=hk) (hin:=qap hlk) (hlt:=lk) (ht:=R) (hs:=qay (by omega)) (r:=r)
    exact⟨fun o' h=>st (nx.1 o' h),fun h=>st (nx.2 h)⟩
theorem qwq {c:Ck} {s:List Pt} (P:AlPre c s):AlMid c s [] c.l { c with d:=[] }:=⟨rfl,fun p hp q hq he=>by
 obtain⟨p',hp',_,y,hd⟩:=P.V.f.some q hq
 obtain⟨e1,e2⟩:=hd.own P.V.a
 obtain⟨j,_,hj⟩:=hd.at_
 exact⟨y,List.mem_of_getElem? hj,e1,e2,hd.k.trans (hd.id.symm.trans he)⟩,by
 have:=congrArg List.length P.V.f.ids
 rw[List.length_map,List.length_map] at this
 have e:=P.V.e
 show c.ev.length=0+_
 omega⟩
theorem qsD {c:Ck} (S:S9 c) (hs:c.s.length≤70) (s:List Pt) (hsl:s.length≤70):(qfs c s≠0→qm4 21 c s (qfs c s))∧
 (qfs c s=0→∀ r,AlRun c s c.l { c with d:=[] } r→(∀ o,r=some o→qEE 21 c s o)∧(r=none→qm4 21 c s 18)):=by
 have h1:=qcx S hs
 have h2:=qd3 s
 have hcl:=S.l
 obtain⟨e3,h3,he3⟩:=qse c.x (s:=s) (l:=c.l) (by omega) (by omega)
 by_cases V:V9 c
 ·rw[qcA V] at h1
  by_cases hv:qez s=0
  ·rw[hv] at h2
   have sv:=qbZ.1 hv
   rcases he3 with ⟨rfl,hk⟩ | ⟨rfl,hk⟩
   ·have e:qfs c s=0:=by unfold qfs;rw[if_pos V,if_pos hv,if_pos (hk sv)]
    refine⟨fun h=>(h e).elim,fun _ r hr=>?_⟩
    have P:AlPre c s:=⟨S,V,sv,hk sv⟩
    have L:=qrz P c.l [] { c with d:=[] } c.d r rfl (qgJ P) (qwq P) V.f ⟨[],rfl⟩ hr
    have C:=qgZ S (by omega)
    have F:=qiZ (s:=s) (by omega)
    exact⟨fun o h=>qx1 (o:=o) (h1:=h1) (h2:=h2) (h3:=h3) (hcl:=C) (hcf:=F) (r0:=L.1 o h),fun h=>qrj (h1:=h1) (h2:=h2) (h3:=h3) (hcl:=C) (hcf:=F) (r0:=L.2 h)⟩
   ·have e:qfs c s=6:=by unfold qfs;rw[if_pos V,if_pos hv,if_neg (hk sv)]
    rw[e]
    exact⟨fun _=>qxS (h1:=h1) (h2:=h2) (h3:=h3) (he:=by decide),fun h=>by cases h⟩
  ·have e:qfs c s=qez s:=by unfold qfs;rw[if_pos V,if_neg hv]
   rw[e]
   exact⟨fun _=>qzB (h1:=h1) (h2:=h2) (h3:=h3) (he:=by simpa using hv),fun h=>(hv h).elim⟩
 ·rw[qbR V] at h1
  have e:qfs c s=8:=by unfold qfs;rw[if_neg V]
  rw[e]
  exact⟨fun _=>qys (h1:=h1) (h2:=h2) (h3:=h3) (he:=by decide),fun h=>by cases h⟩
theorem prog9:Prog9 where
 new:=qyf
 check:=qcx
 certify:=qfd
 retire:=qpj
 next:=qyC
 fail:=qzS
 move:=qAq
 alter:=qsD
end Go.Proofs.YtkjaanhddkkodaaGreat

namespace Go.Proofs.YtkjaanhddkkodaaGreat
set_option maxRecDepth 100000
open Go.RowKit
abbrev qFx (c:Ck) (s:List Pt):List (TypeId×Nat×Nat×List Value):=ckR c++[(57,3,s.length,qbd s)]
section
variable {W:World} {c:Ck} {s:List Pt} {u0 u1 u2 u3 u4 u5 u6 u7 uf:Value} {f:FuncId}
theorem qu5 (r:ZIns W [u0,u1,u2,u3,u4,u5,u6,u7] (ckR c)) (rf:Rd W 3 uf s.length (qbd s)):ZIns W [u0,u1,u2,u3,u4,u5,u6,u7,uf] (qFx c s):=ZIns.snoc r rf (qcL s)
theorem qwf (rf:Rd W 3 uf s.length (qbd s)):SV.is (qp5 [u0,u1,u2,u3,u4,u5,u6,u7,uf]) (qaE 8 s) (.agg #[uf]):=⟨[uf],⟨⟨rfl,rf.zsl⟩,tI⟩,rfl⟩
end
end Go.Proofs.YtkjaanhddkkodaaGreat

namespace Go.Proofs.YtkjaanhddkkodaaGreat
set_option maxRecDepth 100000
open Go.RowKit
inductive CRun:Ck→List P2→Ck→Prop where
 | nil (o:Ck):CRun o [] o
 | ok {c o o':Ck} {g:P2} {l:List P2}:cyE c g.a g.b=0→qhS c g.a g.b o→CRun o l o'→CRun c (g::l) o'
 | no {c o':Ck} {g:P2} {l:List P2}:cyE c g.a g.b≠0→CRun c l o'→CRun c (g::l) o'
theorem V9.certify {c o:Ck} (V:V9 c) (h1:I64 c.tn) (h2:I64 c.td) {a b:Int} (h:cyE c a b=0) (ho:qhS c a b o):V9 o∧o.tn=c.tn∧o.td=c.td∧o.s=c.s:=by
 obtain⟨_,q1,q2,q3,q4⟩:=qDl h
 exact⟨V.new_ok (V.small h1 h2) q1 q2 q3 q4 ho,qux ho⟩
theorem CRun.v9 {c o:Ck} {l:List P2} (h:CRun c l o) (V:V9 c) (h1:I64 c.tn) (h2:I64 c.td):V9 o∧o.tn=c.tn∧o.td=c.td∧o.s=c.s:=by
 induction h with
 | nil o=>exact⟨V,rfl,rfl,rfl⟩
 | @ok c o _ g l h ho hr ih=>
  obtain⟨V',e1,e2,e3⟩:=V.certify h1 h2 h ho
  obtain⟨w,f1,f2,f3⟩:=ih V' (by rw[e1];exact h1) (by rw[e2];exact h2)
  exact⟨w,f1.trans e1,f2.trans e2,f3.trans e3⟩
 | no h hr ih=>exact ih V h1 h2
abbrev qFa (l:List P2) (k:Nat):List (Nat×SV):=[(2,.ls 1 l.length),(6,.pp 4 0),(8,.pp 13 0),(10,.pv (iV (k:Int)))]
abbrev ceZ:List (Nat×Nat×SV):=[(4,0,.pv (iV 0)),(4,1,.pv (iV 0)),(4,2,.pv (.slice none 0 0)),(4,3,.pv (iV 0)),(4,4,.pv (.slice none 0 0)),(4,5,.pv (.slice none 0 0)),(4,6,.pv (.slice none 0 0)),(4,7,.pv (.slice none 0 0)),(4,8,.pv (.slice none 0 0)),(4,9,.pv (.slice none 0 0)),(4,10,.pv (.slice none 0 0))]
abbrev ceK (o:Ck):List (Nat×Nat×SV):=[(13,0,.pv (iV o.tn)),(13,1,.pv (iV o.td)),(13,2,.ls 5 o.s.length),(13,3,.pv (iV o.x)),(13,4,.ls 11 o.l.length),(13,5,.ls 6 o.u.length),(13,6,.ls 7 o.b.length),(13,7,.ls 8 o.fr.length),(13,8,.ls 10 o.ev.length),(13,9,.ls 9 o.wh.length),(13,10,.ls 12 o.d.length),(5,0,qaj o.s),(11,0,qal o.l),(6,0,zrI o.u),(7,0,zrB o.b),(8,0,zrI o.fr),(10,0,qao o.ev),(9,0,zrI o.wh),(12,0,qaJ o.d)]
theorem qvP {l:List P2} (hl:l.length≤1000) {o':Ck}:∀ (r k:Nat) (o:Ck),k+r=l.length→V9 o→I64 o.tn→I64 o.td→CRun o (l.drop k) o'→
 Rl 2 2 12 0 46 14 (qFa l k) ((1,0,qrQ l)::(ceZ++ceK o)) (.exit 0) [(6,.pp 4 0),(8,.pp 13 0)] (ceZ++ceK o'):=by
 intro r
 induction r with
 | zero=>
  intro k o hk _ _ _ hr
  rw[List.drop_eq_nil_of_le (by omega)] at hr
  cases hr
  exact qsX (hge:=df (by omega))
 | succ r ih=>
  intro k o hk V h1 h2 hr
  have hlk:k<l.length:=by omega
  obtain⟨g,hg⟩:=qai hlk
  rw[qdK hg] at hr
  have S:=V.small h1 h2
  have hs:=V.s.len
  have lk:decide ((k:Int)<(l.length:Int))=true:=dt (by omega)
  cases hr with
  | @ok _ o1 _ _ _ h ho hr=>
   obtain⟨V',e1,e2,_⟩:=V.certify h1 h2 h ho
   exact qz3 (hk:=hg) (hin:=qap hlk) (hlt:=lk) (hc:=(qfd S (by omega) g.a g.b).2 h o1 ho) (hs:=qay (by omega)) (r:=ih (k+1) o1 (by omega) V' (by rw[e1];exact h1) (by rw[e2];exact h2) hr)
  | no h hr=>
   exact qvf (z:=cyE o g.a g.b) (hk:=hg) (hin:=qap hlk) (hlt:=lk) (hc:=(qfd S (by omega) g.a g.b).1 h) (he:=by simpa using h) (hs:=qay (by omega)) (r:=ih (k+1) o (by omega) V h1 h2 hr)
theorem qgu {s:List Pt} {tn td:Int} (hs:Val s) (ht:okB tn td=true):V9 (qdy s tn td):=
 ⟨ht,hs,V8.none (x:=0) (by omega),fun p hp=>(by cases hp),VA.new (by omega) (by omega),List.length_replicate,rfl,rfl⟩
theorem qzU {s:List Pt} {tn td:Int} (htn:I64 tn) (htd:I64 td) (hs:Val s) (ht:okB tn td=true) {l:List P2} (hl:l.length≤1000) {o:Ck} (h:CRun (qdy s tn td) l o) :
 Fn 12 2 [qaE 0 s,.pv (qaa tn td),.ls 1 l.length] [(0,0,qaj s),(1,0,qrQ l)] (.tu [qBq o,.one (.pv (.bool true))]) 8 (qFn o):=by
 have V:=qgu hs ht
 obtain⟨V',e1,e2,_⟩:=h.v9 V htn htd
 have hc:=qpY (V'.small (by rw[e1];exact htn) (by rw[e2];exact htd))
 rw[qcA V'] at hc
 have t0:tE s tn td=0:=by unfold tE;rw[if_pos (qbZ.2 hs),if_pos ht]
 exact qoJ (c:=qdy s tn td) (hn:=(qyf htn htd).2 t0) (r0:=qvP hl l.length 0 (qdy s tn td) (Nat.zero_add _) V htn htd h) (hck:=hc)
abbrev abP (p:Pt):P2:=⟨p.a,p.b⟩
structure CInv (s:List Pt) (tn td:Int) (m:List P2) (o:Ck):Prop where
 V:V9 o
 tn:o.tn=tn
 td:o.td=td
 s:o.s=s
 l:o.l.map abP=m
 id:∀ (k:Nat) (p:Pt),o.l[k]?=some p→p.id=(k:Int)
 x:o.x=(m.length:Int)
 u:∀ i∈o.fr,o.u[i.toNat]?=some 0
 f:200≤o.fr.length+m.length
theorem quh {u fr:List Int} {b:List Bool} (hu:∀ i∈fr,u[i.toNat]?=some 0) (hf:0<fr.length):qbD u b fr≠none:=by
 unfold qbD
 have hne:fr≠[]:=fun e=>by rw[e] at hf;simp at hf
 rw[List.getLast?_eq_some_getLast hne]
 simp only[hu _ (List.getLast_mem hne)]
 simp
theorem qor {s:List Pt} {tn td:Int} {m:List P2} {o:Ck} (I:CInv s tn td m o) (h1:I64 tn) (h2:I64 td) {g:P2} (hc:qb8 g.a g.b=true) (ha:∃ q∈s,q.id=g.a) (hb:∃ q∈s,q.id=g.b) (hn:g∉m) (hm:m.length<200) :
 cyE o g.a g.b=0∧∃ o',qhS o g.a g.b o'∧CInv s tn td (m++[g]) o':=by
 have ol:o.l.length=m.length:=by rw[← I.l,List.length_map]
 have hh:qfu o.l g.a g.b=false:=by
  refine qgn fun k p hk he=>hn ?_
  rw[← I.l]
  refine List.mem_map.2 ⟨p,List.mem_of_getElem? hk,?_⟩
  show (⟨p.a,p.b⟩:P2)=g
  rw[he.1,he.2]
 have tk:=quh (b:=o.b) I.u (by have:=I.f;omega)
 have ad:adE o g.a g.b=0:=by
  unfold adE
  rw[if_neg (by rw[hh];decide),if_neg (by have:=I.x;omega),if_neg fun h=>tk h.2]
 have cy:cyE o g.a g.b=0:=by
  unfold cyE
  rw[if_pos ⟨I.V,hc⟩,if_pos (by rw[I.s];exact⟨ha,hb⟩)]
  exact ad
 obtain⟨o',ho⟩:=qBY ad
 obtain⟨V',e1,e2,e3⟩:=I.V.certify (by rw[I.tn];exact h1) (by rw[I.td];exact h2) cy ho
 refine⟨cy,o',ho,V',e1.trans I.tn,e2.trans I.td,e3.trans I.s,?_,?_,?_,?_,?_⟩
 all_goals
  rcases ho with ⟨_,rfl⟩ | ⟨_,u2,b2,f2,hi,hw,hk,rfl⟩
 ·simp only[List.map_append,I.l];rfl
 ·simp only[List.map_append,I.l];rfl
 ·intro k p hp
  rcases Nat.lt_or_ge k o.l.length with h | h
  ·exact I.id k p (by rw[List.getElem?_append_left h] at hp;exact hp)
  ·rw[List.getElem?_append_right h] at hp
   have hk:=qak hp
   simp at hk
   have:k=o.l.length:=by omega
   subst this
   simp at hp
   subst hp
   have:=I.x
   show o.x=_
   omega
 ·intro k p hp
  rcases Nat.lt_or_ge k o.l.length with h | h
  ·exact I.id k p (by rw[List.getElem?_append_left h] at hp;exact hp)
  ·rw[List.getElem?_append_right h] at hp
   have hk:=qak hp
   simp at hk
   have:k=o.l.length:=by omega
   subst this
   simp at hp
   subst hp
   have:=I.x
   show o.x=_
   omega
 ·have:=I.x
  show o.x+1=_
  rw[List.length_append,List.length_singleton]
  omega
 ·have:=I.x
  show o.x+1=_
  rw[List.length_append,List.length_singleton]
  omega
 ·exact I.u
 ·obtain⟨y,hl,_,_,rfl,_,rfl,_⟩:=qbp hk
  intro i hi'
  have hne:o.fr≠[]:=fun e=>by rw[e] at hl;cases hl
  have hlast:o.fr.getLast hne=hi:=by
   rw[List.getLast?_eq_some_getLast hne] at hl
   exact Option.some.inj hl
  have hmem:i∈o.fr:=List.dropLast_subset _ hi'
  have nd:=I.V.a.vd.nod
  have rg:=I.V.a.vd.rng
  have hne2:i≠hi:=fun e=>by
   have e0:=List.dropLast_concat_getLast hne
   rw[hlast] at e0
   rw[← e0,List.nodup_append] at nd
   exact nd.2.2 i hi' hi (List.mem_singleton.2 rfl) e
  have r1:=rg i hmem
  have r2:=rg hi (hlast▸List.getLast_mem hne)
  show (o.u.set hi.toNat hw)[i.toNat]?=some 0
  rw[List.getElem?_set_ne (by omega)]
  exact I.u i hmem
 ·have:=I.f
  show 200≤o.fr.length+_
  rw[List.length_append]
  simp
  omega
 ·obtain⟨y,hl,_,_,rfl,_,rfl,_⟩:=qbp hk
  have:=I.f
  show 200≤o.fr.dropLast.length+_
  rw[List.length_dropLast,List.length_append]
  simp
  omega
theorem qsk {s:List Pt} {tn td:Int} (h1:I64 tn) (h2:I64 td):∀ (l m:List P2) (o:Ck),CInv s tn td m o→(∀ g∈l,qb8 g.a g.b=true∧(∃ q∈s,q.id=g.a)∧∃ q∈s,q.id=g.b)→(m++l).Nodup→(m++l).length≤200→∃ o',CRun o l o'∧CInv s tn td (m++l) o'
 | [],m,o,I,_,_,_=>⟨o,.nil o,by rw[List.append_nil];exact I⟩
 | g::l,m,o,I,hl,nd,hn=>by
  obtain⟨hc,ha,hb⟩:=hl g List.mem_cons_self
  have hg:g∉m:=fun h=>by
   rw[List.nodup_append] at nd
   exact nd.2.2 g h g List.mem_cons_self rfl
  have e:m++g::l=(m++[g])++l:=by rw[List.append_assoc];rfl
  obtain⟨cy,o1,ho,I1⟩:=qor I h1 h2 hc ha hb hg (by rw[List.length_append,List.length_cons] at hn;omega)
  obtain⟨o',hr,I'⟩:=qsk h1 h2 l (m++[g]) o1 I1 (fun g hg=>hl g (List.mem_cons_of_mem _ hg)) (by rw[← e];exact nd) (by rw[← e];exact hn)
  exact⟨o',.ok cy ho hr,by rw[e];exact I'⟩
theorem quC {s:List Pt} {tn td:Int} (hs:Val s) (ht:okB tn td=true):CInv s tn td [] (qdy s tn td) where
 V:=qgu hs ht
 tn:=rfl
 td:=rfl
 s:=rfl
 l:=rfl
 id:=fun k p hp=>by simp at hp
 x:=rfl
 u:=fun i hi=>by
  obtain⟨r1,r2⟩:=(VA.new (n:=200) (by omega) (by omega)).vd.rng i hi
  rw[List.length_replicate] at r2
  show (List.replicate 200 (0:Int))[i.toNat]?=some 0
  rw[List.getElem?_replicate,if_pos (by omega)]
 f:=by
  show 200≤(qaS 200).length+0
  rw[qaU]
  exact Nat.le_refl _
theorem qr5 {s:List Pt} {tn td:Int} (h1:I64 tn) (h2:I64 td) (hs:Val s) (ht:okB tn td=true) {l:List P2} (hl:∀ g∈l,qb8 g.a g.b=true∧(∃ q∈s,q.id=g.a)∧∃ q∈s,q.id=g.b) (nd:l.Nodup) (hn:l.length≤200):∃ o,CRun (qdy s tn td) l o∧CInv s tn td l o:=
 qsk h1 h2 l [] (qdy s tn td) (quC hs ht) hl nd hn
theorem qjO {s:List Pt} {n d:Int} {c:Pt} {m k:Int} {w:Bool} (F:FailT s n d c) (h:FailIs (qcJ s c.b) (qcJ s c.a) n d m k w):qae s n d c=(m,k,w):=by
 obtain⟨e1,e2,e3⟩:=F.i.one h
 exact Prod.ext e1 (Prod.ext e2 e3)
theorem V9.first {c:Ck} (V:V9 c) (h1:I64 c.tn) (h2:I64 c.td) {p:Pt} (hp:p∈c.l) (hf:qaX c p=true) (ho:∀ p'∈c.l,qaX c p'=true→p'.id≠p.id→(qae c.s c.tn c.td p).1*(qae c.s c.tn c.td p').2.1<(qae c.s c.tn c.td p').1*(qae c.s c.tn c.td p).2.1) :
 ∃ y,c.ev[0]?=some y∧y.k=p.id∧y.n=(qae c.s c.tn c.td p).1∧y.d=(qae c.s c.tn c.td p).2.1:=by
 obtain⟨q,_,y',hd'⟩:=V.f.all p hp hf
 obtain⟨jj,_,hj'⟩:=hd'.at_
 obtain⟨y,hy⟩:=qai (l:=c.ev) (k:=0) (by have:=qak hj';omega)
 have le:=qrK (qh4 V.a hy jj y' hj')
 obtain⟨p0,hp0,f0,q0,_,hd0⟩:=V.ev hy
 rw[hd'.n,hd'.d,hd0.n,hd0.d] at le
 by_cases e:p0.id=p.id
 ·obtain⟨i,hi⟩:=List.getElem?_of_mem hp0
  obtain⟨j,hj⟩:=List.getElem?_of_mem hp
  have:=(qoo V.v.up hi hj e).2
  subst this
  exact⟨y,hy,hd0.k,hd0.n,hd0.d⟩
 ·have:=ho p0 hp0 f0 e
  omega
end Go.Proofs.YtkjaanhddkkodaaGreat
