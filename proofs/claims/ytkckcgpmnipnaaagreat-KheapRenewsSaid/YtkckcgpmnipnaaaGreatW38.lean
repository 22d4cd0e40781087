/-
  Joined: Bh, Bm, Eg, Eh, Eq, Er. Conditions: none.
-/
import Derived.Test.YtkckcgpmnipnaaaGreatW37
import Derived.Test.YtkckcgpmnipnaaaGreatW16
import Derived.Test.YtkckcgpmnipnaaaGreatW32
import Derived.Test.YtkckcgpmnipnaaaGreatW35
import Derived.Test.YtkckcgpmnipnaaaGreatW31
import Derived.Test.YtkckcgpmnipnaaaGreatW17
import Derived.Test.YtkckcgpmnipnaaaGreatW34
namespace Go.Proofs.YtkckcgpmnipnaaaGreat
set_option maxRecDepth 100000
open Go.RowKit
abbrev qqf (c:Ck) (s:List Pt) (o:Ck) (d:List Pt):List (Nat×Nat×SV):=[(1,0,qak c.l),(11,0,.pv (iV 0)),(11,1,.pv (iV 0)),(11,2,.pv (.slice none 0 0)),(11,3,.pv (iV 0)),(11,4,.pv (.slice none 0 0)),(11,5,.pv (.slice none 0 0)),(11,6,.pv (.slice none 0 0)),(11,7,.pv (.slice none 0 0)),(11,8,.pv (.slice none 0 0)),(11,9,.pv (.slice none 0 0)),(11,10,.pv (.slice none 0 0)),(21,0,.pv (iV c.tn)),(21,1,.pv (iV c.td)),(21,2,.ls 22 s.length),(21,3,.pv (iV c.x)),(21,4,.ls 14 c.l.length),(21,5,.ls 15 o.u.length),(21,6,.ls 16 o.b.length),(21,7,.ls 17 o.fr.length),(21,8,.ls 18 o.ev.length),(21,9,.ls 19 o.wh.length),(21,10,.ls 20 d.length),(22,0,qaf s),(14,0,qak c.l),(15,0,zrI o.u),(16,0,zrB o.b),(17,0,zrI o.fr),(18,0,qap o.ev),(19,0,zrI o.wh),(20,0,qaH d)]
abbrev qJv (c:Ck) (s:List Pt) (o:Ck) (d:List Pt):List (Nat×Nat×SV):=[(11,0,.pv (iV 0)),(11,1,.pv (iV 0)),(11,2,.pv (.slice none 0 0)),(11,3,.pv (iV 0)),(11,4,.pv (.slice none 0 0)),(11,5,.pv (.slice none 0 0)),(11,6,.pv (.slice none 0 0)),(11,7,.pv (.slice none 0 0)),(11,8,.pv (.slice none 0 0)),(11,9,.pv (.slice none 0 0)),(11,10,.pv (.slice none 0 0)),(21,0,.pv (iV c.tn)),(21,1,.pv (iV c.td)),(21,2,.ls 22 s.length),(21,3,.pv (iV c.x)),(21,4,.ls 14 c.l.length),(21,5,.ls 15 o.u.length),(21,6,.ls 16 o.b.length),(21,7,.ls 17 o.fr.length),(21,8,.ls 18 o.ev.length),(21,9,.ls 19 o.wh.length),(21,10,.ls 20 d.length),(22,0,qaf s),(14,0,qak c.l),(15,0,zrI o.u),(16,0,zrB o.b),(17,0,zrI o.fr),(18,0,qap o.ev),(19,0,zrI o.wh),(20,0,qaH d)]
abbrev qp8 (c:Ck) (k:Nat):List (Nat×SV):=[(4,.pp 11 0),(7,.pp 21 0),(32,.ls 1 c.l.length),(33,.pv (iV (c.l.length:Int))),(34,.pv (iV (k:Int)))]
theorem Up.of_pw {l:List Pt} (h:(l.map Pt.id).Pairwise (fun a b=>a<b)):Up l:=by
 intro k p q hp hq;rw[List.pairwise_iff_getElem] at h;have h1:=qan hp;have h2:=qan hq;obtain⟨_,e1⟩:=List.getElem?_eq_some_iff.1 hp;obtain⟨_,e2⟩:=List.getElem?_eq_some_iff.1 hq;have:=h k (k+1) (by simpa using h1) (by simpa using h2) (Nat.lt_succ_self k);rw[List.getElem_map,List.getElem_map,e1,e2] at this;exact this
theorem qpb {α:Type} {l m:List α} {q:α}:(l++q::m)[l.length]?=some q:=by simp
theorem qxh {α:Type} (l m:List α) (q:α):(l++q::m).take l.length++(l++q::m).drop (l.length+1)=l++m:=by
 rw[List.take_left,← List.drop_drop,List.drop_left,List.drop_one,List.tail_cons]
theorem qIj {l m:List Pt} {n:Int} {k:Nat} (hk:k≤(l++m).length) (h1:∀ q∈l,q.id<n) (h2:∀ q∈m,n<q.id) (h3:∀ (t:Nat) (q:Pt),t<k→(l++m)[t]?=some q→q.id<n) (h4:∀ (t:Nat) (q:Pt),k≤t→(l++m)[t]?=some q→n<q.id):k=l.length:=by
 rw[List.length_append] at hk
 rcases Nat.lt_trichotomy k l.length with h | h | h
 ·obtain⟨q,hq⟩:=qah h;have:=h4 k q (Nat.le_refl _) (by rw[List.getElem?_append_left h];exact hq);have:=h1 q (List.mem_of_getElem? hq);omega
 ·exact h
 ·obtain⟨q,hq⟩:=qah (l:=m) (k:=0) (by omega);have:=h3 l.length q h (by rw[List.getElem?_append_right (Nat.le_refl _),Nat.sub_self];exact hq);have:=h2 q (List.mem_of_getElem? hq);omega
theorem qsa {c:Ck} {s:List Pt} (P:AlPre c s):∀ (l m:List Pt) (o:Ck) (e:List Pt) (r:Option Ck),m++l=c.l→AlInv c l o→AlMid c s m l o→DueF c l e→(∃ pre,c.d=pre++e)→AlRun c s l o r→
 (∀ o',r=some o'→Rl 9 9 110 0 50 23 (qp8 c m.length) (qqf c s { o with d:=o.d++e } (o.d++e)) (.exit 0) [(4,.pp 11 0),(7,.pp 21 0)] (qJv c s o' o'.d))∧
 (r=none→Rl 9 9 110 0 50 23 (qp8 c m.length) (qqf c s { o with d:=o.d++e } (o.d++e)) .ret [(4,.pp 11 0),(5,.pv (iV 18))] alZ):=by
 intro l
 induction l with
 | nil=>
  intro m o e r hm I M F _ hr;cases hr;have he:e=[]:=F;subst he;rw[List.append_nil] at hm;rw[List.append_nil];refine⟨fun o' h=>?_,fun h=>by cases h⟩;cases h;rw[hm];exact qwy (o:={ o with d:=o.d }) (df (by omega))
 | cons p l ih=>
  intro m o e r hm I M F hpre hr;obtain⟨pre,hpre⟩:=hpre
  have hmem:p∈c.l:=by rw[← hm];simp
  have hk:c.l[m.length]?=some p:=by rw[← hm];exact qpb
  have hlk:=qan hk;have hcl:=P.S.l;have lk:decide ((m.length:Int)<(c.l.length:Int))=true:=dt (by omega);have pw:=P.V.v.up.lt_pw;rw[← hm,List.map_append,List.map_cons,List.pairwise_append,List.pairwise_cons] at pw;obtain⟨pw1,⟨pw2,pw3⟩,pw4⟩:=pw
  have hu:∀ p'∈l,p'.id≠p.id:=fun p' hp' e=>by have:=pw2 p'.id (List.mem_map.2 ⟨p',hp',rfl⟩);omega
  have hmm:∀ p'∈m,p'.id≠p.id:=fun p' hp' e=>by have:=pw4 p'.id (List.mem_map.2 ⟨p',hp',rfl⟩) p.id List.mem_cons_self;omega
  have lo:∀ q∈o.d,q.id<p.id:=fun q hq=>by
   obtain⟨p',hp',_,y,hd⟩:=M.f.some q hq;rw[hd.id];exact pw4 p'.id (List.mem_map.2 ⟨p',hp',rfl⟩) p.id List.mem_cons_self
  have cd:∀ q∈e,q∈c.d:=fun q hq=>by rw[hpre];exact List.mem_append_right _ hq
  have D:=P.V.due_iff hmem;have sz:=I.sz
  have el:e.length≤(p::l).length:=by
   have:=(qfa.1 F).1;rw[this];exact List.length_filter_le _ _
  have up:Up (o.d++e):=by
   refine Up.of_pw ?_
   have h1:(o.d++e).map Pt.id=(m.filter (qa6 (alC c s o))).map Pt.id++((p::l).filter (qa6 c)).map Pt.id:=by rw[List.map_append,M.f.ids,F.ids]
   rw[h1,← List.map_append];refine (P.V.v.up.lt_pw).sublist ?_;rw[← hm];exact List.Sublist.map _ (List.Sublist.append List.filter_sublist List.filter_sublist)
  have T:T9 (alC c s { o with d:=o.d++e }):=⟨⟨P.S.tn,P.S.td,P.V.t,P.sv,P.V.v,P.kn⟩,I.a,up,by show (o.d++e).length≤1000;rw[List.length_append];omega⟩;have hp':p∈(alC c s { o with d:=o.d++e }).l:=hmem
  have one:∀ {j:Nat} {q q':Pt},c.d[j]?=some q→q.id=p.id→q'∈c.d→q'.id=p.id→q'=q:=fun {j q q'} hq he hq' he'=>by
   obtain⟨i,hi⟩:=List.getElem?_of_mem hq';have:=qmW P.V hi hq (he'.trans he.symm);subst this;rw[hi] at hq;exact Option.some.inj hq
  cases hr with
  | full h=>
   obtain⟨f,hn,ht⟩:=h
   have fp:¬ (qai c.s c.tn c.td p).2.2=true:=fun h=>by
    obtain⟨q,hq,he⟩:=D.2 h;exact hn q hq he
   have F':DueF c l e:=by
    have:(if (qai c.s c.tn c.td p).2.2=true then ∃ q r,e=q::r∧(∃ y,DueOk c p q y)∧DueF c l r else DueF c l e):=F
    rwa [if_neg fp] at this
   have hz:cnE o.ev p.id=0:=by
    have h1:=P.V.v.lo p hmem;have h2:=P.V.v.hi p hmem;have h3:=P.V.v.nx;unfold cnE;rw[if_pos (by omega),if_neg];rintro⟨m,hm,e⟩;exact I.nw m hm p List.mem_cons_self hn e
   have hn':∀ q∈(alC c s { o with d:=o.d++e }).d,q.id≠p.id:=fun q hq=>by
    rcases List.mem_append.1 hq with h | h
    ·have:=lo q h;omega
    ·exact hn q (cd q h)
   refine⟨fun o' h=>(by cases h),fun _=>?_⟩;exact qri (o:={ o with d:=o.d++e }) hk (qal hlk) lk (qn7 T hp' f hn' hz ht)
  | @step _ _ _ o2 _ h hr=>
   have I2:=h.inv P hmem hu I;have M2:=h.mid P hmem hu hmm I M
   have hm2:(m++[p])++l=c.l:=by rw[List.append_assoc];exact hm
   have sc:((m++[p]).length:Nat)=m.length+1:=by rw[List.length_append];rfl
   cases h with
   | @key j k q y f hq he hf hy e1 e2=>
    have fp:(qai c.s c.tn c.td p).2.2=true:=D.1 ⟨q,List.mem_of_getElem? hq,he⟩
    obtain⟨q',e',rfl,⟨y',hd⟩,F'⟩:∃ q r,e=q::r∧(∃ y,DueOk c p q y)∧DueF c l r:=by
     have:(if (qai c.s c.tn c.td p).2.2=true then ∃ q r,e=q::r∧(∃ y,DueOk c p q y)∧DueF c l r else DueF c l e):=F
     rwa [if_pos fp] at this
    have eq:=one hq he (cd q' List.mem_cons_self) hd.id;subst eq;have nx:=ih (m++[p]) _ e' r hm2 I2 M2 F' ⟨pre++[q'],by rw[List.append_assoc];exact hpre⟩ hr;rw[sc] at nx
    have ea:o.d++[q']++e'=o.d++q'::e':=by rw[List.append_assoc];rfl
    rw[show ({ o with ev:=(qaW o.ev o.wh k y (qai s c.tn c.td p).1 (qai s c.tn c.td p).2.1).1,wh:=(qaW o.ev o.wh k y (qai s c.tn c.td p).1 (qai s c.tn c.td p).2.1).2,d:=o.d++[q'] }:Ck).d=o.d++[q'] from rfl,ea] at nx;have R:=qBF T hp' f (k:=o.d.length) qpb he hy e1 e2
    have st:∀ {e:Exit} {tm2:TmL} {hp2:HpL},Rl 9 9 110 0 50 23 (qp8 c (m.length+1)) (qqf c s (qBa (alC c s { o with d:=o.d++q'::e' }) k y (qai s c.tn c.td p).1 (qai s c.tn c.td p).2.1) (o.d++q'::e')) e tm2 hp2→Rl 9 9 110 0 50 23 (qp8 c m.length) (qqf c s { o with d:=o.d++q'::e' } (o.d++q'::e')) e tm2 hp2:=fun r=>
     qvq (o:={ o with d:=o.d++q'::e' }) (r9:=qBa (alC c s { o with d:=o.d++q'::e' }) k y (qai s c.tn c.td p).1 (qai s c.tn c.td p).2.1) hk (qal hlk) lk R (qag (by omega)) r
    exact⟨fun o' h=>st (nx.1 o' h),fun h=>st (nx.2 h)⟩
   | @push u2 f2 b2 hi hw f hn ht=>
    have fp:¬ (qai c.s c.tn c.td p).2.2=true:=fun h=>by
     obtain⟨q,hq,he⟩:=D.2 h;exact hn q hq he
    have F':DueF c l e:=by
     have:(if (qai c.s c.tn c.td p).2.2=true then ∃ q r,e=q::r∧(∃ y,DueOk c p q y)∧DueF c l r else DueF c l e):=F
     rwa [if_neg fp] at this
    have hz:cnE o.ev p.id=0:=by
     have h1:=P.V.v.lo p hmem;have h2:=P.V.v.hi p hmem;have h3:=P.V.v.nx;unfold cnE;rw[if_pos (by omega),if_neg];rintro⟨m,hm,e⟩;exact I.nw m hm p List.mem_cons_self hn e
    have hn':∀ q∈(alC c s { o with d:=o.d++e }).d,q.id≠p.id:=fun q hq=>by
     rcases List.mem_append.1 hq with h | h
     ·have:=lo q h;omega
     ·exact hn q (cd q h)
    have hi':∀ q∈e,p.id<q.id:=fun q hq=>by
     obtain⟨p',hp',_,y,hd⟩:=F'.some q hq;rw[hd.id];exact pw2 p'.id (List.mem_map.2 ⟨p',hp',rfl⟩)
    obtain⟨k,k1,k2,k3,R⟩:=qoM T hp' f hn' hz ht;have ek:k=o.d.length:=qIj k1 lo hi' k2 k3;subst ek;rw[show (alC c s { o with d:=o.d++e }).d.take o.d.length=o.d from List.take_left,show (alC c s { o with d:=o.d++e }).d.drop o.d.length=e from List.drop_left] at R;have nx:=ih (m++[p]) _ e r hm2 I2 M2 F' ⟨pre,hpre⟩ hr;rw[sc] at nx
    have ea:o.d++[⟨p.id,hi,hw⟩]++e=o.d++⟨p.id,hi,hw⟩::e:=by rw[List.append_assoc];rfl
    simp only at nx;rw[ea] at nx
    have st:∀ {e':Exit} {tm2:List (Nat×SV)} {hp2:List (Nat×Nat×SV)},Rl 9 9 110 0 50 23 (qp8 c (m.length+1)) (qqf c s (qmf (alC c s { o with d:=o.d++e }) u2 f2 b2 (qai s c.tn c.td p).1 (qai s c.tn c.td p).2.1 p.id hi hw) (o.d++⟨p.id,hi,hw⟩::e)) e' tm2 hp2→Rl 9 9 110 0 50 23 (qp8 c m.length) (qqf c s { o with d:=o.d++e } (o.d++e)) e' tm2 hp2:=fun r=>
     qos (o:={ o with d:=o.d++e }) (r9:=qmf (alC c s { o with d:=o.d++e }) u2 f2 b2 (qai s c.tn c.td p).1 (qai s c.tn c.td p).2.1 p.id hi hw) (l2:=o.d++⟨p.id,hi,hw⟩::e) hk (qal hlk) lk R (qag (by omega)) r
    exact⟨fun o' h=>st (nx.1 o' h),fun h=>st (nx.2 h)⟩
   | @gone j k q y f hq he hf hy e1 e2=>
    have fp:(qai c.s c.tn c.td p).2.2=true:=D.1 ⟨q,List.mem_of_getElem? hq,he⟩
    obtain⟨q',e',rfl,⟨y',hd⟩,F'⟩:∃ q r,e=q::r∧(∃ y,DueOk c p q y)∧DueF c l r:=by
     have:(if (qai c.s c.tn c.td p).2.2=true then ∃ q r,e=q::r∧(∃ y,DueOk c p q y)∧DueF c l r else DueF c l e):=F
     rwa [if_pos fp] at this
    have eq:=one hq he (cd q' List.mem_cons_self) hd.id;subst eq;have nx:=ih (m++[p]) _ e' r hm2 I2 M2 F' ⟨pre++[q'],by rw[List.append_assoc];exact hpre⟩ hr;rw[sc] at nx;have R:=qvX T hp' f (k:=o.d.length) qpb he hy e1 e2;rw[show (alC c s { o with d:=o.d++q'::e' }).d.take o.d.length++(alC c s { o with d:=o.d++q'::e' }).d.drop (o.d.length+1)=o.d++e' from qxh o.d e' q'] at R
    have st:∀ {e:Exit} {tm2:TmL} {hp2:HpL},Rl 9 9 110 0 50 23 (qp8 c (m.length+1)) (qqf c s (qhg (alC c s { o with d:=o.d++q'::e' }) k y) (o.d++e')) e tm2 hp2→Rl 9 9 110 0 50 23 (qp8 c m.length) (qqf c s { o with d:=o.d++q'::e' } (o.d++q'::e')) e tm2 hp2:=fun r=>
     qos (o:={ o with d:=o.d++q'::e' }) (r9:=qhg (alC c s { o with d:=o.d++q'::e' }) k y) (l2:=o.d++e') hk (qal hlk) lk R (qag (by omega)) r
    exact⟨fun o' h=>st (nx.1 o' h),fun h=>st (nx.2 h)⟩
   | skip f hn=>
    have fp:¬ (qai c.s c.tn c.td p).2.2=true:=fun h=>by
     obtain⟨q,hq,he⟩:=D.2 h;exact hn q hq he
    have F':DueF c l e:=by
     have:(if (qai c.s c.tn c.td p).2.2=true then ∃ q r,e=q::r∧(∃ y,DueOk c p q y)∧DueF c l r else DueF c l e):=F
     rwa [if_neg fp] at this
    have hn':∀ q∈(alC c s { o with d:=o.d++e }).d,q.id≠p.id:=fun q hq=>by
     rcases List.mem_append.1 hq with h | h
     ·have:=lo q h;omega
     ·exact hn q (cd q h)
    have nx:=ih (m++[p]) _ e r hm2 I2 M2 F' ⟨pre,hpre⟩ hr;rw[sc] at nx;have R:=qo7 T hp' f hn'
    have st:∀ {e':Exit} {tm2:List (Nat×SV)} {hp2:List (Nat×Nat×SV)},Rl 9 9 110 0 50 23 (qp8 c (m.length+1)) (qqf c s { o with d:=o.d++e } (o.d++e)) e' tm2 hp2→Rl 9 9 110 0 50 23 (qp8 c m.length) (qqf c s { o with d:=o.d++e } (o.d++e)) e' tm2 hp2:=fun r=>
     qr1 (o:={ o with d:=o.d++e }) hk (qal hlk) lk R (qag (by omega)) r
    exact⟨fun o' h=>st (nx.1 o' h),fun h=>st (nx.2 h)⟩
theorem qyW {c:Ck} {s:List Pt} (P:AlPre c s):AlMid c s [] c.l { c with d:=[] }:=⟨rfl,fun p hp q hq he=>by
 obtain⟨p',hp',_,y,hd⟩:=P.V.f.some q hq;obtain⟨e1,e2⟩:=hd.own P.V.a;obtain⟨j,_,hj⟩:=hd.at_
 exact⟨y,List.mem_of_getElem? hj,e1,e2,hd.k.trans (hd.id.symm.trans he)⟩,by
 have:=congrArg List.length P.V.f.ids;rw[List.length_map,List.length_map] at this;have e:=P.V.e
 show c.ev.length=0+_
 omega⟩
theorem qwg {c:Ck} (S:S9 c) (hs:c.s.length≤70) (s:List Pt) (hsl:s.length≤70):(qmr c s≠0→qmi 110 c s (qmr c s))∧
 (qmr c s=0→∀ r,AlRun c s c.l { c with d:=[] } r→(∀ o,r=some o→qEm 110 c s o)∧(r=none→qmi 110 c s 18)):=by
 have h1:=qd6 S hs;have h2:=qcA s;have hcl:=S.l;obtain⟨e3,h3,he3⟩:=qt0 c.x (s:=s) (l:=c.l) (by omega) (by omega);by_cases V:V9 c
 ·rw[qew V] at h1;by_cases hv:qeQ s=0
  ·rw[hv] at h2;have sv:=qbL.1 hv
   rcases he3 with ⟨rfl,hk⟩ | ⟨rfl,hk⟩
   ·have e:qmr c s=0:=by unfold qmr;rw[if_pos V,if_pos hv,if_pos (hk sv)]
    refine⟨fun h=>(h e).elim,fun _ r hr=>?_⟩;have P:AlPre c s:=⟨S,V,sv,hk sv⟩;have L:=qsa P c.l [] { c with d:=[] } c.d r rfl (qe7 P) (qyW P) V.f ⟨[],rfl⟩ hr;have C:=qjl S (by omega);have F:=qnR (s:=s) (by omega);exact⟨fun o h=>qCn (o:=o) h1 h2 h3 C F (L.1 o h),fun h=>qr0 h1 h2 h3 C F (L.2 h)⟩
   ·have e:qmr c s=6:=by unfold qmr;rw[if_pos V,if_pos hv,if_neg (hk sv)]
    rw[e];exact⟨fun _=>qzW h1 h2 h3 (by decide),fun h=>by cases h⟩
  ·have e:qmr c s=qeQ s:=by unfold qmr;rw[if_pos V,if_neg hv]
   rw[e];exact⟨fun _=>qCj h1 h2 h3 (by simpa using hv),fun h=>(hv h).elim⟩
 ·rw[qc6 V] at h1
  have e:qmr c s=8:=by unfold qmr;rw[if_neg V]
  rw[e];exact⟨fun _=>qBs h1 h2 h3 (by decide),fun h=>by cases h⟩
end Go.Proofs.YtkckcgpmnipnaaaGreat

namespace Go.Proofs.YtkckcgpmnipnaaaGreat
set_option maxRecDepth 100000
open Go.RowKit
abbrev abP (p:Pt):P2:=⟨p.a,p.b⟩
end Go.Proofs.YtkckcgpmnipnaaaGreat

namespace Go.Proofs.YtkckcgpmnipnaaaGreat
set_option maxRecDepth 100000
open Go.RowKit
section
variable {g:List Int}
end
section
variable {α β:Type}
end
section
variable {s:List Pt} {tn td:Int}
end
end Go.Proofs.YtkckcgpmnipnaaaGreat

namespace Go.Proofs.YtkckcgpmnipnaaaGreat
set_option maxRecDepth 100000
open Go.RowKit
section
variable {s:List Pt} {tn td:Int}
theorem qfV {α:Type} {l:List α} {k:Nat} {p:α} (h:l[k]?=some p):l.take (k+1)=l.take k++[p]:=by rw[List.take_add_one,h];rfl
end
def ptO (x:P2):Pt:=⟨0,x.a,x.b⟩
abbrev qh1 (l:List P2):List Pt:=l.map ptO
section
variable {l:List P2}
theorem qt3 {l:List P2} {x:P2} (h:x∉l):∀ q∈qh1 l,¬ (q.a=(ptO x).a∧q.b=(ptO x).b):=fun q hq e=>by
 obtain⟨y,hy,rfl⟩:=List.mem_map.1 hq
 have:y=x:=by
  cases y;cases x;have e1:=e.1;have e2:=e.2;simp only[ptO] at e1 e2;rw[e1,e2]
 exact h (this▸hy)
theorem qtN (nd:l.Nodup) (hn:l.length≤1000):∀ (r k:Nat),k+r=l.length→
 Rl 1 1 106 0 17 2 [(3,.mp 1),(7,.ls 0 l.length),(8,.pv (iV (l.length:Int))),(9,.pv (iV (k:Int)))] [(1,0,.mrow (qaI (qh1 (l.take k)))),(0,0,qdH l)] (.exit 0) [(3,.mp 1)] [(1,0,.mrow (qaI (qh1 l))),(0,0,qdH l)]:=by
 intro r
 induction r with
 | zero=>
  intro k hk
  have:k=l.length:=by omega
  subst this;rw[List.take_length];exact qoz (df (by omega))
 | succ r ih=>
  intro k hk;obtain⟨x,hx⟩:∃ p,l[k]?=some p:=⟨_,List.getElem?_eq_getElem (by omega)⟩;have G:=ih (k+1) (by omega)
  have hno:x∉l.take k:=fun h=>by
   have h2:=nd.sublist (List.take_sublist (k+1) l);rw[qfV hx,List.nodup_append] at h2;exact h2.2.2 x h x (List.mem_singleton.2 rfl) rfl
  have hP:=qgZ (p:=ptO x) (qt3 hno);rw[qfV hx] at G;unfold qh1 at G;rw[List.map_append] at G;exact qkB (x:=x) (dt (by omega)) (by omega) hx hP (qag (by omega)) G
theorem qiN (nd:l.Nodup) (hn:l.length≤1000):Fn 106 1 [.ls 0 l.length] [(0,0,qdH l)] (.mp 1) 1 [(1,0,.mrow (qaI (qh1 l)))]:=
 qkL (qtN nd hn l.length 0 (Nat.zero_add _))
end
theorem qsH {c:Ck} (hn:c.l.length≤1000):∀ (r k:Nat),k+r=c.l.length→
 Rl 8 8 107 0 22 10 [(3,.ls 9 k),(8,.ls 1 c.l.length),(9,.pv (iV (c.l.length:Int))),(10,.pv (iV (k:Int)))] [(1,0,qak c.l),(9,0,.row 90 2 k (p2V ((c.l.take k).map abP)))] (.exit 0) [(3,.ls 9 c.l.length)] [(1,0,qak c.l),(9,0,.row 90 2 c.l.length (p2V (c.l.map abP)))]:=by
 intro r
 induction r with
 | zero=>
  intro k hk
  have:k=c.l.length:=by omega
  subst this;rw[List.take_length];exact quH (df (by omega))
 | succ r ih=>
  intro k hk;obtain⟨p,hp⟩:∃ p,c.l[k]?=some p:=⟨_,List.getElem?_eq_getElem (by omega)⟩;have G:=ih (k+1) (by omega);rw[qfV hp,List.map_append,qgs] at G;exact qqZ (dt (by omega)) (by omega) hp (by omega) (qag (by omega)) G
theorem qjo {c:Ck} (hn:c.l.length≤1000) (nd:(c.l.map abP).Nodup):Fn 107 8 [qar c] (qaA c) (.mp 8) 1 [(8,0,.mrow (qaI (qh1 (c.l.map abP))))]:=by
 have h:=qiN nd (by rw[List.length_map];exact hn);unfold qdH at h;rw[List.length_map] at h;exact qts (qsH hn c.l.length 0 (Nat.zero_add _)) h
section
variable {l:List P2}
end
section
variable {s:List Pt} {tn td:Int}
end
end Go.Proofs.YtkckcgpmnipnaaaGreat

namespace Go.Proofs.YtkckcgpmnipnaaaGreat
set_option maxRecDepth 100000
open Go.RowKit
theorem qiu {P:Program} {kt:TypeId} {k:Value} {K:Value→Prop} (w:World) (he:∀ x,K x→∃ b,(Op.equal kt k x).run P w=.ok b w∧(b=true↔x=k)):∀ (en:List MapEntry) (i:Nat),(∀ x∈en,K x.key)→(∃ x∈en,x.key=k)→
 ∃ n x,en[n]?=some x∧x.key=k∧(Instr.findAsking kt k en i).run P w=.ok (some (i+n,x.val)) w
 | [],i,_,h=>by obtain⟨x,hx,_⟩:=h;cases hx
 | x::r,i,hK,h=>by
  obtain⟨b,hb,hbk⟩:=he x.key (hK x (by simp));cases b
  ·have hne:x.key≠k:=fun e=>by have:=hbk.2 e;cases this
   obtain⟨y,hy,e⟩:=h
   rcases List.mem_cons.1 hy with rfl | hy
   ·exact (hne e).elim
   ·obtain⟨n,z,h1,h2,h3⟩:=qiu w he r (i+1) (fun y hy=>hK y (by simp[hy])) ⟨y,hy,e⟩;exact⟨n+1,z,by simpa using h1,h2,by simp[Instr.findAsking,hb,h3,Result.andThen,Nat.add_assoc,Nat.add_comm 1 n]⟩
  ·exact⟨0,x,rfl,hbk.1 rfl,by simp[Instr.findAsking,hb,Result.andThen]⟩
theorem qon {en:List MapEntry} {n:Nat} {x:MapEntry} (h:en[n]?=some x) {k v:Value} (hk:x.key=k) (hv:x.val=v):((en.modify n fun e=>{ e with key:=k,val:=v }).flatMap fun e=>[e.key,e.val])=en.flatMap fun e=>[e.key,e.val]:=by
 induction en generalizing n with
 | nil=>simp at h
 | cons y r ih=>
  cases n with
  | zero=>
   have e:y=x:=by simpa using h
   subst e;simp[hk,hv]
  | succ n=>
   have h':r[n]?=some x:=by simpa using h
   simp[ih h']
theorem qnZ (a b:Int):Instr.sameBits 10000 (qae a b) (qae a b)=true:=by
 show Instr.sameBits (9999+1) (.agg _) (.agg _)=true
 unfold Instr.sameBits;simp[Instr.sameBits]
theorem qmh {m:List Pt} {p q:Pt} (hq:q∈m) (h:q.a=p.a∧q.b=p.b):qiG Tryz.prog 167 (qaI m) (qae p.a p.b) (.bool true) (qaI m):=by
 intro w r ⟨en,clock,hb,hx⟩;have M:=qfh p.a p.b;have hK:∀ p∈qit m,(fun x=>∃ c d,x=qae c d) p.1:=qkr m;have hm:(qae p.a p.b,Value.bool true)∈qit m:=List.mem_map.2 ⟨q,hq,by rw[h.1,h.2]⟩;obtain⟨fs,hfs⟩:∃ fs,Tryz.prog.underlying 90=some (.struct fs):=⟨_,Tryz.underlying90⟩
 obtain⟨n,x,h1,h2,h3⟩:=qiu (P:=Tryz.prog) (kt:=90) (k:=qae p.a p.b) (K:=fun x=>∃ c d,x=qae c d) w (fun y ⟨c,d,hy⟩=>by
  subst hy;refine⟨(p.a==c&&(p.b==d&&true)),qhE w 40 _ _ _ _ (by kernel_rfl) Op.maxDepth (by decide),?_⟩;rw[Bool.and_true,Bool.and_eq_true,beq_iff_eq,beq_iff_eq]
  exact⟨fun h=>by rw[h.1,h.2],fun h=>(qfj h).imp Eq.symm Eq.symm⟩) en.toList 0 (fun y hy=>(qeP (K:=fun x=>∃ c d,x=qae c d) hx hK y hy).1) (que hx hm:∃ x∈en.toList,x.key=qae p.a p.b)
 rw[← qfq hfs,Nat.zero_add] at h3
 have hv:x.val=.bool true:=by
  obtain⟨z,_,e⟩:=List.mem_map.1 (qeP (K:=fun x=>∃ c d,x=qae c d) hx hK x (List.mem_of_getElem? h1)).2;exact (Prod.mk.inj e).2.symm
 have hn:en[n]?=some x:=by rw[← Array.getElem?_toList];exact h1
 refine⟨en.modify n fun e=>{ e with key:=qae p.a p.b,val:=.bool true },clock,?_,?_⟩
 ·simp only[Instr.mapUpdate,Sem.run_bind,run_underlying M.ty,MapKept.run_getObj_map hb,M.ck,h3,Result.andThen,hn,Option.map_some,Option.getD_some,h2,Instr.keyThatStays,qnZ,if_true,Sem.run_pure,MapKept.run_setObj_map _ hb]
 ·rw[Array.toList_modify,qon h1 h2 hv];exact hx
theorem quU {x y:P2} (h:ptO x=ptO y):x=y:=by
 obtain⟨a,b⟩:=x;obtain⟨c,d⟩:=y
 injection h with _ h1 h2
 have e1:a=c:=h1;have e2:b=d:=h2;rw[e1,e2]
open Classical in
noncomputable def qct (m:List Pt) (x:P2):List Pt:=if ptO x∈m then m else m++[ptO x]
theorem qyr:∀ (l:List P2) (m:List Pt),(l.foldl qct m).length≤m.length+l.length
 | [],m=>Nat.le_refl _
 | x::l,m=>by
  have h:=qyr l (qct m x)
  have h2:(qct m x).length≤m.length+1:=by unfold qct;split<;>simp
  simp only[List.foldl_cons,List.length_cons];omega
theorem qux:∀ (l:List P2) (m:List Pt),l.Nodup→(∀ x∈l,ptO x∉m)→l.foldl qct m=m++l.map ptO
 | [],m,_,_=>(List.append_nil m).symm
 | x::l,m,nd,h=>by
  rw[List.nodup_cons] at nd;have e:qct m x=m++[ptO x]:=if_neg (h x List.mem_cons_self);rw[List.foldl_cons,e,qux l _ nd.2 fun y hy hm=>?_,List.append_assoc]
  ·rfl
  ·rcases List.mem_append.1 hm with hm | hm
   ·exact h y (List.mem_cons_of_mem _ hy) hm
   ·exact nd.1 (quU (List.mem_singleton.1 hm)▸hy)
theorem quz:∀ (l:List P2) (m:List Pt),(l.foldl qct m).length=m.length+l.length→l.Nodup∧∀ x∈l,ptO x∉m
 | [],m,_=>⟨List.nodup_nil,fun x hx=>by cases hx⟩
 | x::l,m,h=>by
  have h1:=qyr l (qct m x);simp only[List.foldl_cons,List.length_cons] at h;by_cases hx:ptO x∈m
  ·have e:qct m x=m:=if_pos hx;rw[e] at h h1;omega
  ·have e:qct m x=m++[ptO x]:=if_neg hx;rw[e] at h;obtain⟨nd,h2⟩:=quz l _ (by rw[h];simp;omega);refine⟨List.nodup_cons.2 ⟨fun hm=>h2 x hm (by simp),nd⟩,fun y hy hm=>?_⟩
   rcases List.mem_cons.1 hy with rfl | hy
   ·exact hx hm
   ·exact h2 y hy (List.mem_append_left _ hm)
theorem qtR {l:List P2}:(l.foldl qct []).length<l.length↔¬ l.Nodup:=by
 have h:=qyr l [];rw[List.length_nil,Nat.zero_add] at h;constructor
 ·intro h2 nd;rw[qux l [] nd (fun _ _ h=>by cases h)] at h2;simp at h2
 ·intro nd
  refine Nat.lt_of_le_of_ne h fun e=>nd (quz l [] (by simpa using e)).1
end Go.Proofs.YtkckcgpmnipnaaaGreat

namespace Go.Proofs.YtkckcgpmnipnaaaGreat
set_option maxRecDepth 100000
open Go.RowKit
inductive RenG (E:List P2):List Pt→Ck→Ck→Prop where
 | nil (o:Ck):RenG E [] o o
 | keep {p:Pt} {l:List Pt} {o o':Ck}:abP p∈E→RenG E l o o'→RenG E (p::l) o o'
 | gone {p:Pt} {l:List Pt} {o o1 o':Ck}:abP p∉E→qeK o p.id o1→RenG E l o1 o'→RenG E (p::l) o o'
theorem qfZ {c o:Ck} {n:Int} (h:qeK c n o):o.x=c.x∧o.l=qaS c.l n:=by
 rcases h with ⟨_,rfl⟩ | ⟨_,_,_,_,_,_,_,_,_,_,rfl⟩<;>exact⟨rfl,rfl⟩
theorem qk0 {l:List Pt} {n:Int} {p:Pt}:p∈qaS l n↔p∈l∧p.id≠n:=by
 unfold qaS;rw[List.mem_filter];simp
theorem qtX {p q:Pt}:∀ {l:List Pt},(l.map Pt.id).Nodup→p∈l→q∈l→p.id=q.id→p=q
 | [],_,hp,_,_=>by cases hp
 | x::l,nd,hp,hq,h=>by
  rw[List.map_cons,List.nodup_cons] at nd
  rcases List.mem_cons.1 hp with e1 | hp<;>rcases List.mem_cons.1 hq with e2 | hq
  ·rw[e1,e2]
  ·rw[e1] at h;exact (nd.1 (List.mem_map.2 ⟨q,hq,h.symm⟩)).elim
  ·rw[e2] at h;exact (nd.1 (List.mem_map.2 ⟨p,hp,h⟩)).elim
  ·exact qtX nd.2 hp hq h
theorem qyF {E:List P2}:∀ (l:List Pt) (o:Ck),V9 o→∃ o',RenG E l o o'
 | [],o,_=>⟨o,.nil o⟩
 | p::l,o,V=>by
  by_cases h:abP p∈E
  ·obtain⟨o',h'⟩:=qyF l o V;exact⟨o',.keep h h'⟩
  ·obtain⟨o1,h1⟩:=qw4 V p.id;obtain⟨o',h'⟩:=qyF l o1 (V.gone_ok h1);exact⟨o',.gone h h1 h'⟩
theorem RenG.ok {E:List P2} {l:List Pt} {o o':Ck} (h:RenG E l o o'):V9 o→(∀ p∈l,p∈o.l)→(l.map Pt.id).Nodup→
 V9 o'∧o'.s=o.s∧o'.tn=o.tn∧o'.td=o.td∧∀ p,p∈o'.l↔p∈o.l∧(p∈l→abP p∈E):=by
 induction h with
 | nil o=>exact fun V _ _=>⟨V,rfl,rfl,rfl,fun p=>⟨fun h=>⟨h,fun h=>by cases h⟩,fun h=>h.1⟩⟩
 | @keep p l o o' hE _ ih=>
  intro V hm nd;rw[List.map_cons,List.nodup_cons] at nd;obtain⟨a,b,c,d,e⟩:=ih V (fun q hq=>hm q (List.mem_cons_of_mem _ hq)) nd.2;refine⟨a,b,c,d,fun q=>(e q).trans ⟨fun h=>⟨h.1,fun hq=>?_⟩,fun h=>⟨h.1,fun hq=>h.2 (List.mem_cons_of_mem _ hq)⟩⟩⟩
  rcases List.mem_cons.1 hq with hq | hq
  ·rw[hq];exact hE
  ·exact h.2 hq
 | @gone p l o o1 o' hE hg _ ih=>
  intro V hm nd;rw[List.map_cons,List.nodup_cons] at nd;obtain⟨g1,g2,g3⟩:=qdK hg;obtain⟨_,g5⟩:=qfZ hg
  have hne:∀ q∈l,q.id≠p.id:=fun q hq e=>nd.1 (List.mem_map.2 ⟨q,hq,e⟩)
  obtain⟨a,b,c,d,e⟩:=ih (V.gone_ok hg) (fun q hq=>by rw[g5];exact qk0.2 ⟨hm q (List.mem_cons_of_mem _ hq),hne q hq⟩) nd.2;refine⟨a,b.trans g3,c.trans g1,d.trans g2,fun q=>(e q).trans ?_⟩;rw[g5,qk0];constructor
  ·rintro⟨⟨h1,h2⟩,h3⟩;refine⟨h1,fun hq=>?_⟩
   rcases List.mem_cons.1 hq with hq | hq
   ·exact (h2 (by rw[hq])).elim
   ·exact h3 hq
  ·rintro⟨h1,h2⟩;refine⟨⟨h1,fun hid=>?_⟩,fun hq=>h2 (List.mem_cons_of_mem _ hq)⟩;have e2:q=p:=qtX V.v.up.nodup h1 (hm p List.mem_cons_self) hid;rw[e2] at h2;exact hE (h2 List.mem_cons_self)
def RenF (o:Ck) (s:List Pt) (r:Option Ck):Prop:=(o.s=s∧r=some o)∨(o.s≠s∧∃ q,AlRun o s o.l { o with d:=[] } q∧r=q.map (alC o s))
theorem qIw {o:Ck} {s:List Pt} (P:AlPre o s):∃ r,RenF o s r:=by
 by_cases h:o.s=s
 ·exact⟨_,Or.inl ⟨h,rfl⟩⟩
 ·obtain⟨r,hr⟩:=qiv P o.l { o with d:=[] } (fun p hp=>hp) P.V.v.up.nodup (qe7 P);exact⟨_,Or.inr ⟨h,r,hr,rfl⟩⟩
theorem RenF.ok {o o2:Ck} {s:List Pt} (P:AlPre o s) (h:RenF o s (some o2)):V9 o2∧o2.s=s∧o2.tn=o.tn∧o2.td=o.td∧o2.l=o.l:=by
 rcases h with ⟨h1,h2⟩ | ⟨_,q,h2,h3⟩
 ·rw[Option.some.inj h2];exact⟨P.V,h1,rfl,rfl,rfl⟩
 ·cases q with
  | none=>cases h3
  | some q=>
   rw[Option.some.inj h3];exact⟨V9.alter_ok P h2,rfl,rfl,rfl,rfl⟩
inductive RenC (H:List P2):List P2→Ck→Option Ck→Prop where
 | nil (o:Ck):RenC H [] o (some o)
 | held {g:P2} {l:List P2} {o:Ck} {r:Option Ck}:g∈H→RenC H l o r→RenC H (g::l) o r
 | add {g:P2} {l:List P2} {o o1:Ck} {r:Option Ck}:g∉H→adE o g.a g.b=0→qhX o g.a g.b o1→RenC H l o1 r→RenC H (g::l) o r
 | full {g:P2} {l:List P2} {o:Ck}:g∉H→adE o g.a g.b≠0→RenC H (g::l) o none
structure RcOk (H:List P2) (s:List Pt) (l:List P2) (o:Ck):Prop where
 v:V9 o
 e:o.s=s
 h:∀ g∈l,(g∈H↔qd1 o.l g.a g.b=true)
 ok:∀ g∈l,qby g.a g.b=true∧(∃ q∈s,q.id=g.a)∧∃ q∈s,q.id=g.b
 nd:l.Nodup
theorem qhx {l:List Pt} {a b:Int}:qd1 l a b=true↔(⟨a,b⟩:P2)∈l.map abP:=by
 unfold qd1;rw[decide_eq_true_eq,List.mem_map];refine⟨fun ⟨p,hp,e1,e2⟩=>⟨p,hp,by show (⟨p.a,p.b⟩:P2)=_;rw[e1,e2]⟩,fun ⟨p,hp,e⟩=>⟨p,hp,by cases e;exact⟨rfl,rfl⟩⟩⟩
theorem qjd {o:Ck} {a b:Int} (h:qd1 o.l a b=false) (h2:adE o a b≠0):adE o a b=18:=by
 unfold adE at h2 ⊢;rw[if_neg (by rw[h];decide)] at h2 ⊢;split
 ·rfl
 ·rename_i h3;rw[if_neg h3] at h2;split
  ·rfl
  ·rename_i h4;rw[if_neg h4] at h2;exact (h2 rfl).elim
theorem qJO {c o:Ck} {a b:Int} (h:qhX c a b o):o.l=c.l++[⟨c.x,a,b⟩]:=by
 rcases h with ⟨_,rfl⟩ | ⟨_,_,_,_,_,_,_,rfl⟩<;>rfl
theorem RcOk.held {H:List P2} {s:List Pt} {g:P2} {l:List P2} {o:Ck} (R:RcOk H s (g::l) o):RcOk H s l o:=
 ⟨R.v,R.e,fun x hx=>R.h x (List.mem_cons_of_mem _ hx),fun x hx=>R.ok x (List.mem_cons_of_mem _ hx),(List.nodup_cons.1 R.nd).2⟩
theorem RcOk.add {H:List P2} {s:List Pt} {g:P2} {l:List P2} {o o1:Ck} (R:RcOk H s (g::l) o) (h1:I64 o.tn) (h2:I64 o.td) (h0:adE o g.a g.b=0) (h:qhX o g.a g.b o1):RcOk H s l o1∧o1.tn=o.tn∧o1.td=o.td:=by
 obtain⟨q1,q2,q3⟩:=R.ok g List.mem_cons_self;obtain⟨e1,e2,e3⟩:=qvA h;have nd:=List.nodup_cons.1 R.nd;refine⟨⟨V9.new_ok (R.v.small h1 h2) R.v q1 (by rw[R.e];exact q2) (by rw[R.e];exact q3) h0 h,e3.trans R.e,fun x hx=>?_,fun x hx=>R.ok x (List.mem_cons_of_mem _ hx),nd.2⟩,e1,e2⟩;rw[R.h x (List.mem_cons_of_mem _ hx),qJO h,qhx,qhx,List.map_append,List.mem_append];refine⟨Or.inl,fun hx2=>hx2.resolve_right fun hx3=>?_⟩
 have:x=g:=by
  have:=List.mem_singleton.1 hx3;cases x;cases g;exact this
 rw[this] at hx;exact nd.1 hx
theorem quM {H:List P2} {s:List Pt}:∀ (l:List P2) (o:Ck),∃ r,RenC H l o r
 | [],o=>⟨_,.nil o⟩
 | g::l,o=>by
  by_cases h:g∈H
  ·obtain⟨r,hr⟩:=quM (s:=s) l o;exact⟨r,.held h hr⟩
  ·by_cases h0:adE o g.a g.b=0
   ·obtain⟨o1,h1⟩:=qE9 h0;obtain⟨r,hr⟩:=quM (s:=s) l o1;exact⟨r,.add h h0 h1 hr⟩
   ·exact⟨_,.full h h0⟩
theorem RenC.ok {H:List P2} {s:List Pt} {l:List P2} {o:Ck} {r:Option Ck} (h:RenC H l o r):RcOk H s l o→I64 o.tn→I64 o.td→∀ o',r=some o'→V9 o'∧o'.s=s∧o'.tn=o.tn∧o'.td=o.td:=by
 induction h with
 | nil o=>intro R _ _ o' e;cases e;exact⟨R.v,R.e,rfl,rfl⟩
 | held _ _ ih=>exact fun R h1 h2 o' e=>ih R.held h1 h2 o' e
 | add _ h0 hc _ ih=>
  intro R h1 h2 o' e;obtain⟨R',e1,e2⟩:=R.add h1 h2 h0 hc;obtain⟨a,b,c,d⟩:=ih R' (by rw[e1];exact h1) (by rw[e2];exact h2) o' e;exact⟨a,b,c.trans e1,d.trans e2⟩
 | full _ _=>intro _ _ _ o' e;cases e
def RenR (c:Ck) (s:List Pt) (E:List P2) (r:Option Ck):Prop:=∃ o1,RenG E c.l c o1∧((RenF o1 s none∧r=none)∨∃ o2,RenF o1 s (some o2)∧RenC (c.l.map abP) E o2 r)
structure RenP (c:Ck) (s:List Pt) (E:List P2):Prop where
 V:V9 c
 tn:I64 c.tn
 td:I64 c.td
 vs:Val s
 ok:∀ g∈E,qby g.a g.b=true∧(∃ q∈s,q.id=g.a)∧∃ q∈s,q.id=g.b
 nd:E.Nodup
theorem RenP.gone {c:Ck} {s:List Pt} {E:List P2} (P:RenP c s E) {o:Ck} (h:RenG E c.l c o):AlPre o s∧o.tn=c.tn∧o.td=c.td∧o.s=c.s∧∀ g∈E,(g∈c.l.map abP↔qd1 o.l g.a g.b=true):=by
 obtain⟨V,a,b,d,e⟩:=h.ok P.V (fun p hp=>hp) P.V.v.up.nodup;refine⟨⟨V.small (by rw[b];exact P.tn) (by rw[d];exact P.td),V,P.vs,fun p hp=>?_⟩,b,d,a,fun g hg=>?_⟩
 ·obtain⟨h1,h2⟩:=(e p).1 hp;exact (P.ok _ (h2 h1)).2
 ·rw[qhx,List.mem_map,List.mem_map];refine⟨fun ⟨p,hp,e1⟩=>⟨p,(e p).2 ⟨hp,fun _=>?_⟩,e1⟩,fun ⟨p,hp,e1⟩=>⟨p,((e p).1 hp).1,e1⟩⟩;have e2:abP p=g:=e1;rw[e2];exact hg
theorem qDJ {c:Ck} {s:List Pt} {E:List P2} (P:RenP c s E):∃ r,RenR c s E r:=by
 obtain⟨o1,h1⟩:=qyF (E:=E) c.l c P.V;obtain⟨A,_⟩:=P.gone h1;obtain⟨r,hr⟩:=qIw A
 cases r with
 | none=>exact⟨none,o1,h1,Or.inl ⟨hr,rfl⟩⟩
 | some o2=>
  obtain⟨r,h3⟩:=quM (H:=c.l.map abP) (s:=s) E o2;exact⟨r,o1,h1,Or.inr ⟨o2,hr,h3⟩⟩
theorem RenP.alter {c:Ck} {s:List Pt} {E:List P2} (P:RenP c s E) {o o2:Ck} (h:RenG E c.l c o) (h2:RenF o s (some o2)):RcOk (c.l.map abP) s E o2∧o2.tn=c.tn∧o2.td=c.td:=by
 obtain⟨A,b,d,_,e⟩:=P.gone h;obtain⟨V,f1,f2,f3,f4⟩:=h2.ok A;exact⟨⟨V,f1,fun g hg=>by rw[f4];exact e g hg,P.ok,P.nd⟩,f2.trans b,f3.trans d⟩
end Go.Proofs.YtkckcgpmnipnaaaGreat
