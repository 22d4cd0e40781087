/-
  ClockDue holds of a package clock that does what the reference does (Prog9). Conditions: Prog9 and alive, to be shown of the code. Conditions: none.
-/
import Derived.Test.YtkjaanhddkkodaaGreatW42
import Derived.Test.YtkjaanhddkkodaaGreatW18
namespace Go.Proofs.YtkjaanhddkkodaaGreat
set_option maxRecDepth 100000
open Go.RowKit
theorem qrA {c:Ck} (S:S9 c) (V:V9 c) (h:qeu c=false):Fn 37 8 [qap c] (qaq c) (.pv (.bool true)) 0 []:=by
 have hg:=qfP c
 have hc:=qdK S
 rw[h] at hg
 rw[qbM V] at hc
 exact qAI (hg:=hg) (hc:=hc) (he:=by decide)
theorem quO {c:Ck} (h1:I64 c.tn) (h2:I64 c.td) (hi:∀ y∈c.ev,EvI y) (h:¬ (qeu c=false∧V9 c)):Fn 37 8 [qap c] (qaq c) (.pv (.bool false)) 0 []:=by
 have hg:=qfP c
 cases e:qeu c
 ·rw[e] at hg
  have hc:=qdK (qhh e h1 h2 hi).1
  rw[qby fun V=>h ⟨e,V⟩] at hc
  exact qs4 (hg:=hg) (hc:=hc) (he:=by decide)
 ·rw[e] at hg
  exact qxT (hg:=hg)
def qgV (c:Ck) (tn td:Int) (p:Pt):Prop:=qaQ c p=true∧(qae c.s c.tn c.td p).1*td≤tn*(qae c.s c.tn c.td p).2.1
def qBa (c:Ck) (tn td:Int) (k:Nat) (m n d:Int):Prop:=
 (m = -1∧n=0∧d=0∧∀ (i:Nat) (p:Pt),i<k→c.l[i]?=some p→¬ qgV c tn td p)∨
 ∃ (j:Nat) (p:Pt),m=(j:Int)∧j<k∧c.l[j]?=some p∧qgV c tn td p∧n=(qae c.s c.tn c.td p).1∧d=(qae c.s c.tn c.td p).2.1∧
  ∀ (i:Nat) (p':Pt),i<k→c.l[i]?=some p'→qgV c tn td p'→n*(qae c.s c.tn c.td p').2.1≤(qae c.s c.tn c.td p').1*d∧(i<j→n*(qae c.s c.tn c.td p').2.1<(qae c.s c.tn c.td p').1*d)
theorem qr1 (a b:Int):(a-b).sign≤0↔a≤b:=by
 rcases Int.lt_trichotomy (a-b) 0 with h | h | h
 ·rw[Int.sign_eq_neg_one_of_neg h];omega
 ·rw[h];simp;omega
 ·rw[Int.sign_eq_one_of_pos h];omega
theorem qsd (a b:Int):(a-b).sign<0↔a<b:=by
 rcases Int.lt_trichotomy (a-b) 0 with h | h | h
 ·rw[Int.sign_eq_neg_one_of_neg h];omega
 ·rw[h];simp;omega
 ·rw[Int.sign_eq_one_of_pos h];omega
theorem qri {a b c d e f:Int} (hb:0<b) (hd:0<d) (hf:0<f) (h1:a*d<c*b) (h2:c*f≤e*d):a*f<e*b:=by
 have e1:=Int.mul_lt_mul_of_pos_right h1 hf
 have e2:=Int.mul_le_mul_of_nonneg_right h2 (Int.le_of_lt hb)
 have e3:a*d*f=a*f*d:=Int.mul_right_comm a d f
 have e4:c*b*f=c*f*b:=Int.mul_right_comm c b f
 have e5:e*d*b=e*b*d:=Int.mul_right_comm e d b
 exact Int.lt_of_mul_lt_mul_right (a:=d) (by omega) (Int.le_of_lt hd)
abbrev duT (m:Int) (k:Nat):List (Nat×SV):=[(2,.pp 8 0),(3,.pp 9 0),(5,.pv (iV m)),(6,.pp 10 0),(7,.pv (iV (k:Int)))]
abbrev duE (m:Int):List (Nat×SV):=[(2,.pp 8 0),(3,.pp 9 0),(5,.pv (iV m)),(6,.pp 10 0)]
abbrev duH (c:Ck) (tn td n d:Int):List (Nat×Nat×SV):=qbr 8 c++[(9,0,.pv (iV tn)),(9,1,.pv (iV td)),(10,0,.pv (iV n)),(10,1,.pv (iV d))]
theorem qvR {c:Ck} (S:S9 c) (V:V9 c) {tn td:Int} (htn:I64 tn) (htd:I64 td):∀ (r k:Nat) (m n d:Int),k+r=c.l.length→qBa c tn td k m n d→∃ m' n' d',qBa c tn td c.l.length m' n' d'∧Rl 8 8 6 0 167 11 (duT m k) (duH c tn td n d) (.exit 0) (duE m') (duH c tn td n' d'):=by
 intro r
 induction r with
 | zero=>
  intro k m n d hk hb
  have e:k=c.l.length:=by omega
  subst e
  exact⟨m,n,d,hb,qs7 (df (by omega))⟩
 | succ r ih=>
  intro k m n d hkr hb
  have hlk:k<c.l.length:=by omega
  obtain⟨p,hp⟩:=qah hlk
  have hmem:=List.mem_of_getElem? hp
  have hl:=S.l
  have W:=qsf S.tn S.td V.t V.s (V.v.ok p hmem) (V.k p hmem).1 (V.k p hmem).2
  have FT:=FailT.same V S.tn S.td hmem
  have lk:decide ((k:Int)<(c.l.length:Int))=true:=dt (by omega)
  have skip:¬ qgV c tn td p→qBa c tn td (k+1) m n d:=fun hn=>by
   rcases hb with ⟨b1,b2,b3,b4⟩ | ⟨j,q,b1,b2,b3,b4,b5,b6,b7⟩
   ·refine Or.inl ⟨b1,b2,b3,fun i p' hi hp'=>?_⟩
    rcases Nat.lt_or_ge i k with h | h
    ·exact b4 i p' h hp'
    ·have:i=k:=by omega
     subst this
     rw[hp] at hp'
     cases hp'
     exact hn
   ·refine Or.inr ⟨j,q,b1,by omega,b3,b4,b5,b6,fun i p' hi hp' hd=>?_⟩
    rcases Nat.lt_or_ge i k with h | h
    ·exact b7 i p' h hp' hd
    ·have:i=k:=by omega
     subst this
     rw[hp] at hp'
     cases hp'
     exact (hn hd).elim
  cases f:(qae c.s c.tn c.td p).2.2
  ·rw[f] at W
   have nd:¬ qgV c tn td p:=fun h=>by have:=h.1;rw[show qaQ c p=false from f] at this;cases this
   obtain⟨m',n',d',h1,h2⟩:=ih (k+1) m n d (by omega) (skip nd)
   exact⟨m',n',d',h1,qvD (hk:=hp) (hin:=qan hlk) (hlt:=lk) (hwn:=W) (hs:=qat (by omega)) (r:=h2)⟩
  ·rw[f] at W
   obtain⟨k1,k2,k3,_⟩:=FT.i.ok f
   have C1:=qb7 k2 k3 htn htd
   by_cases hd:(qae c.s c.tn c.td p).1*td≤tn*(qae c.s c.tn c.td p).2.1
   ·have du:qgV c tn td p:=⟨f,hd⟩
    have l1:=dt ((qr1 _ _).2 hd)
    have take:(∀ (i:Nat) (p':Pt),i<k→c.l[i]?=some p'→qgV c tn td p'→(qae c.s c.tn c.td p).1*(qae c.s c.tn c.td p').2.1<(qae c.s c.tn c.td p').1*(qae c.s c.tn c.td p).2.1)→qBa c tn td (k+1) (k:Int) (qae c.s c.tn c.td p).1 (qae c.s c.tn c.td p).2.1:=fun h=>by
     refine Or.inr ⟨k,p,rfl,by omega,hp,du,rfl,rfl,fun i p' hi hp' hd'=>?_⟩
     rcases Nat.lt_or_ge i k with hik | hik
     ·have:=h i p' hik hp' hd'
      exact⟨by omega,fun _=>this⟩
     ·have:i=k:=by omega
      subst this
      rw[hp] at hp'
      cases hp'
      exact⟨Int.le_refl _,fun h=>by omega⟩
    rcases hb with ⟨b1,b2,b3,b4⟩ | ⟨j,q,b1,b2,b3,b4,b5,b6,b7⟩
    ·obtain⟨m',n',d',h1,h2⟩:=ih (k+1) (k:Int) _ _ (by omega) (take fun i p' hi hp' hd'=>(b4 i p' hi hp' hd').elim)
     exact⟨m',n',d',h1,qtr (hk:=hp) (hin:=qan hlk) (hlt:=lk) (hwn:=W) (hc1:=C1) (h1:=l1) (h2:=dt (by omega)) (hs:=qat (by omega)) (r:=h2)⟩
    ·have hq:=List.mem_of_getElem? b3
     obtain⟨q1,q2,q3,_⟩:=(FailT.same V S.tn S.td hq).i.ok b4.1
     rw[← b5] at q2
     rw[← b6] at q3
     rw[← b5,← b6] at q1
     have C2:=qb7 k2 k3 q2 q3
     have d0:=qba q1
     have d1:=qba k1
     by_cases hlt:(qae c.s c.tn c.td p).1*d<n*(qae c.s c.tn c.td p).2.1
     ·obtain⟨m',n',d',h1,h2⟩:=ih (k+1) (k:Int) _ _ (by omega) (take fun i p' hi hp' hd'=>by
       have hp2:=List.mem_of_getElem? hp'
       have d2:=qba ((FailT.same V S.tn S.td hp2).i.ok hd'.1).1
       exact qri (by omega) (by omega) (by omega) hlt (b7 i p' hi hp' hd').1)
      exact⟨m',n',d',h1,qpM (hk:=hp) (hin:=qan hlk) (hlt:=lk) (hwn:=W) (hc1:=C1) (h1:=l1) (h2:=df (by omega)) (hc2:=C2) (h3:=dt ((qsd _ _).2 hlt)) (hs:=qat (by omega)) (r:=h2)⟩
     ·obtain⟨m',n',d',h1,h2⟩:=ih (k+1) m n d (by omega) (Or.inr ⟨j,q,b1,by omega,b3,b4,b5,b6,fun i p' hi hp' hd'=>by
       rcases Nat.lt_or_ge i k with h | h
       ·exact b7 i p' h hp' hd'
       ·have:i=k:=by omega
        subst this
        rw[hp] at hp'
        cases hp'
        exact⟨by omega,fun h=>by omega⟩⟩)
      exact⟨m',n',d',h1,qrg (hk:=hp) (hin:=qan hlk) (hlt:=lk) (hwn:=W) (hc1:=C1) (h1:=l1) (h2:=df (by omega)) (hc2:=C2) (h3:=df fun h=>hlt ((qsd _ _).1 h)) (hs:=qat (by omega)) (r:=h2)⟩
   ·have nd:¬ qgV c tn td p:=fun h=>hd h.2
    obtain⟨m',n',d',h1,h2⟩:=ih (k+1) m n d (by omega) (skip nd)
    exact⟨m',n',d',h1,qt9 (hk:=hp) (hin:=qan hlk) (hlt:=lk) (hwn:=W) (hc1:=C1) (h1:=df fun h=>hd ((qr1 _ _).1 h)) (hs:=qat (by omega)) (r:=h2)⟩
theorem qi4 {x:Int} {l:List Pt} (h:V8 x l) {k:Nat} {p:Pt} (hk:l[k]?=some p):(qaB l p.id).length=l.length-1:=by
 have hl:=qaj hk
 rw[qaB,qc6 h.up hk]
 simp
 omega
theorem qsL (H:Prog9) (hal:Pure Tryz.prog 24 #[] (.bool true)) {c:Ck} {tn td:Int} (htn:I64 tn) (htd:I64 td) (h1:I64 c.tn) (h2:I64 c.td) (hi:∀ y∈c.ev,EvI y) :
 Fn 6 8 [qap c,.pv (qaa tn td)] (qaq c) (.pv (.bool true)) 0 []:=by
 by_cases hfit:qeu c=false∧V9 c
 ·obtain⟨hg,V⟩:=hfit
  obtain⟨S,_,_,hs⟩:=qhh hg h1 h2 hi
  have FT:=qrA S V hg
  have hu:=qlE S htn htd
  by_cases h0:qdo c tn td=0
  ·rw[h0] at hu
   obtain⟨_,ht,_⟩:=qnm h0
   have t0:=qba ht
   have hl:=V.v.len
   obtain⟨m,n1,d1,B,r⟩:=qvR S V htn htd c.l.length 0 (-1) 0 0 (Nat.zero_add _) (Or.inl ⟨rfl,rfl,rfl,fun i p hi=>by omega⟩)
   rcases B with ⟨b1,b2,b3,b4⟩ | ⟨j,p,b1,b2,b3,b4,b5,b6,b7⟩
   ·have hb:qie c tn td=false:=by
     unfold qie
     cases hy:c.ev[0]? with
     | none=>rfl
     | some y=>
      obtain⟨p,hp,f,q,_,hd⟩:=V.ev hy
      obtain⟨i,hi'⟩:=List.getElem?_of_mem hp
      refine df fun h=>b4 i p (qaj hi') hi' ⟨f,?_⟩
      rw[← hd.n,← hd.d]
      exact h
    have e1:faE c tn td=6:=by unfold faE;rw[if_pos h0,if_neg (by rw[hb];decide)]
    have e2:moE c tn td=0:=by unfold moE;rw[if_pos h0,if_neg (by rw[hb];decide)]
    have hf:=(H.fail S hs htn htd).1 (by rw[e1];decide)
    rw[e1] at hf
    exact qqt (hft:=FT) (hu:=hu) (r0:=r) (hf:=hf) (hm:=(H.move S hs htn htd).2 e2) (hb:=dt (by omega)) (hal:=hal)
   ·have hmem:=List.mem_of_getElem? b3
    obtain⟨q,_,y',hd'⟩:=V.f.all p hmem b4.1
    obtain⟨jj,_,hj'⟩:=hd'.at_
    have hm':=List.mem_of_getElem? hj'
    obtain⟨y,hy⟩:=qah (l:=c.ev) (k:=0) (by have:=qaj hj';omega)
    have lf:=qeX V.a hy jj y' hj'
    have le:=qn2 lf
    have py:=(V.a.ef.ok y (List.mem_of_getElem? hy)).pos
    have py':=(V.a.ef.ok y' hm').pos
    have yd:y.n*td≤tn*y.d:=qsN (n:=y'.n) (d:=y'.d) (tn:=tn) (td:=td) (m:=y.n) (k:=y.d) py' (by omega) py le (by rw[hd'.n,hd'.d];exact b4.2)
    have hb:qie c tn td=true:=by
     unfold qie
     rw[hy]
     exact dt yd
    obtain⟨p0,hp0,f0,q0,_,hd0⟩:=V.ev hy
    obtain⟨i0,hi0⟩:=List.getElem?_of_mem hp0
    have du0:qgV c tn td p0:=⟨f0,by rw[← hd0.n,← hd0.d];exact yd⟩
    obtain⟨l1,l2⟩:=b7 i0 p0 (qaj hi0) hi0 du0
    rw[← hd0.n,← hd0.d] at l1 l2
    rw[hd'.n,hd'.d,← b5,← b6] at le
    have ok1:=((FailT.same V h1 h2 hmem).i.ok b4.1).1
    have ok0:=((FailT.same V h1 h2 hp0).i.ok f0).1
    rw[← b5,← b6] at ok1
    rw[← hd0.n,← hd0.d] at ok0
    obtain⟨e1,e2⟩:=qe1 ok0 ok1 (by omega)
    have hij:¬ i0<j:=fun h=>by have:=l2 h;omega
    have hk:y.k≤y'.k:=by
     unfold ltE at lf
     rw[Bool.or_eq_false_iff,Bool.and_eq_false_iff] at lf
     rcases lf.2 with h | h
     ·exact (of_decide_eq_false h (by rw[hd'.n,hd'.d,← b5,← b6,e1,e2])).elim
     ·have:=of_decide_eq_false h;omega
    have ep:p0=p:=by
     rcases Nat.lt_or_ge j i0 with h | h
     ·have:=V.v.up.mono h b3 hi0
      have a1:=hd0.k
      have a2:=hd'.k
      omega
     ·have:i0=j:=by omega
      subst this
      rw[b3] at hi0
      exact (Option.some.inj hi0).symm
    subst ep
    have hyk:=hd0.k
    obtain⟨g,hg'⟩:=qnx V y.k
    have ho:qdQ c y p0 { g with tn:=y.n,td:=y.d }:=⟨hy,hmem,hyk.symm,g,hg',rfl⟩
    obtain⟨Vo,w1,w2,_⟩:=V.failed_ok h1 h2 ho
    have gl:g.l=qaB c.l y.k∧g.s=c.s:=by
     rcases hg' with ⟨_,rfl⟩ | ⟨_,_,_,_,_,_,_,_,_,_,rfl⟩<;>exact⟨rfl,rfl⟩
    have So:=Vo.small w1 w2
    have hck:=qdK So
    rw[qbM Vo] at hck
    have e3:faE c tn td=0:=by unfold faE;rw[if_pos h0,if_pos hb]
    have e4:moE c tn td=36:=by unfold moE;rw[if_pos h0,if_pos hb]
    have hm:=(H.move S hs htn htd).1 (by rw[e4];decide)
    rw[e4] at hm
    have wl:=qi4 V.v b3
    have hlen:({ g with tn:=y.n,td:=y.d }:Ck).l.length=c.l.length-1:=by rw[show ({ g with tn:=y.n,td:=y.d }:Ck).l=g.l from rfl,gl.1,hyk,wl]
    have hsf:Fn 36 2 [qaI 0 ({ g with tn:=y.n,td:=y.d }:Ck).s,qaI 1 c.s] [(0,0,qak ({ g with tn:=y.n,td:=y.d }:Ck).s),(1,0,qak c.s)] (.pv (.bool true)) 0 []:=by
     rw[show ({ g with tn:=y.n,td:=y.d }:Ck).s=c.s from gl.2]
     exact qug (by omega)
    rw[b1] at r
    exact qqx (o1:={ g with tn:=y.n,td:=y.d }) (hft:=FT) (hu:=hu) (r0:=r) (hf:=(H.fail S hs htn htd).2 e3 y p0 _ ho) (hm:=hm) (hb:=df (by omega)) (hj:=b3) (hij:=qan b2)
     (t1:=by simp[e1,e2]) (t2:=by simpa using hyk) (t3:=by simp) (t4:=by simp[e1,e2]) (hck:=hck)
     (ha8:=qzU _ (by rw[hlen];omega) fun z hz=>by
      have hz':z∈qaB c.l y.k:=by rw[← gl.1];exact hz
      have:=(List.mem_filter.1 hz').2
      rw[hyk] at this
      simpa using this) (t5:=by decide)
     (hl1:=by rw[qao (by omega) (by omega)]) (t6:=by rw[hlen];simp;omega) (hsf:=hsf) (hal:=hal)
  ·exact qnc (hft:=FT) (hu:=hu) (he:=by simpa using h0) (hal:=hal)
 ·exact qmO (hft:=quO h1 h2 hi hfit) (hal:=hal)
end Go.Proofs.YtkjaanhddkkodaaGreat
