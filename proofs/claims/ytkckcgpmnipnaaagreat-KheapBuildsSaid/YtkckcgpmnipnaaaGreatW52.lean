/-
  Joined: Em, Eo, Ep. Conditions: none.
-/
import Derived.Test.YtkckcgpmnipnaaaGreatW51
import Derived.Test.YtkckcgpmnipnaaaGreatW45
import Derived.Test.YtkckcgpmnipnaaaGreatW21
import Derived.Test.YtkckcgpmnipnaaaGreatW43
import Derived.Test.YtkckcgpmnipnaaaGreatW42
import Derived.Test.YtkckcgpmnipnaaaGreatW27
namespace Go.Proofs.YtkckcgpmnipnaaaGreat
set_option maxRecDepth 100000
open Go.RowKit
section
variable {c:Ck} {g:List Int}
abbrev juT (n k:Nat):List (Nat×SV):=[(1,.ls 8 n),(2,.pp 9 0),(5,.pv (iV (k:Int)))]
abbrev juB (c:Ck):List (Nat×Nat×SV):=[(9,0,.pv (iV c.tn)),(9,1,.pv (iV c.td)),(9,2,.ls 0 c.s.length),(9,3,.pv (iV c.x)),(9,4,.ls 1 c.l.length),(9,5,.ls 2 c.u.length),(9,6,.ls 3 c.b.length),(9,7,.ls 4 c.fr.length),(9,8,.ls 5 c.ev.length),(9,9,.ls 6 c.wh.length),(9,10,.ls 7 c.d.length)]
abbrev juH (c:Ck) (l:List P2):List (Nat×Nat×SV):=juB c++([(8,0,qgF l)]++qaC c)
theorem qoH (V:V9 c) (h1:I64 c.tn) (h2:I64 c.td) {x:P2} (hc:qbC x.a x.b=true) (ha:∃ q∈c.s,q.id=x.a) (hb:∃ q∈c.s,q.id=x.b) :
 Fn 49 1 [.pv (qah x.a x.b),qas 0 c.s,.pv (qaa c.tn c.td)] [(0,0,qad c.s)] (.pv (.bool (qgN c.s c.tn c.td (ptO x)))) 0 []:=
 qAi (l:=[ptO x]) (p:=ptO x) V.s (fun p hp=>by rw[List.mem_singleton.1 hp];exact⟨ha,hb⟩) (fun p hp=>by rw[List.mem_singleton.1 hp];exact hc) h1 h2 (List.mem_singleton.2 rfl)
theorem qrX (V:V9 c) (h1:I64 c.tn) (h2:I64 c.td) {l:List P2} (hl:∀ x∈l,qbC x.a x.b=true∧(∃ q∈c.s,q.id=x.a)∧∃ q∈c.s,q.id=x.b) (hn:l.length≤1000):∀ (r k:Nat),k+r=l.length→
 ((l.drop k).all (qg7 c)=true→Rl 9 9 62 0 39 10 (juT l.length k) (juH c l) (.exit 0) [] [])∧
 ((l.drop k).all (qg7 c)=false→Rl 9 9 62 0 39 10 (juT l.length k) (juH c l) .ret [(4,.pv (.bool false))] []):=by
 have hvl:=V.v.len
 intro r
 induction r with
 | zero=>
  intro k hk
  rw[List.drop_eq_nil_of_le (by omega)]
  exact⟨fun _=>qxe (hlt:=df (by omega)),fun h=>by cases h⟩
 | succ r ih=>
  intro k hk
  have hlk:k<l.length:=by omega
  obtain⟨x,hx⟩:=qai hlk
  obtain⟨q1,q2,q3⟩:=hl x (List.mem_of_getElem? hx)
  rw[qbc hx,List.all_cons]
  have L:=qi6 c.x (l:=c.l) (by omega) x.a x.b
  have Hd:=qoH V h1 h2 q1 q2 q3
  have k0:decide ((k:Int)<(l.length:Int))=true:=dt (by omega)
  have I:=ih (k+1) (by omega)
  unfold qg7 at I ⊢
  cases hh:qeN c.l x.a x.b
  ·rw[hh] at L
   exact⟨fun h=>by simp at h,fun _=>qB0 (hlt:=k0) (i1:=qak hlk) (g1:=hx) (hH:=L)⟩
  ·rw[hh] at L
   cases ho:qgN c.s c.tn c.td (ptO x)
   ·rw[ho] at Hd
    exact⟨fun h=>by simp at h,fun _=>qv4 (hlt:=k0) (i1:=qak hlk) (g1:=hx) (hH:=L) (hT:=Hd)⟩
   ·rw[ho] at Hd
    exact⟨fun h=>qkM (hlt:=k0) (i1:=qak hlk) (g1:=hx) (hH:=L) (hT:=Hd) (hs:=qal (by omega)) (r:=I.1 (by simpa using h)),fun h=>qkM (hlt:=k0) (i1:=qak hlk) (g1:=hx) (hH:=L) (hT:=Hd) (hs:=qal (by omega)) (r:=I.2 (by simpa using h))⟩
theorem qqc (V:V9 c) (h1:I64 c.tn) (h2:I64 c.td) {l:List P2} (hl:∀ x∈l,qbC x.a x.b=true∧(∃ q∈c.s,q.id=x.a)∧∃ q∈c.s,q.id=x.b) (hn:l.length≤1000) :
 Fn 62 9 [qaz c,.ls 8 l.length] (qaC c++[(8,0,qgF l)]) (.pv (.bool (qwN c l))) 0 []:=by
 obtain⟨a,b⟩:=qrX V h1 h2 hl hn l.length 0 (Nat.zero_add _)
 rw[List.drop_zero] at a b
 unfold qwN
 by_cases e:c.l.length=l.length
 ·rw[dt e,Bool.and_true]
  have l0:((c.l.length:Int) !=(l.length:Int))=false:=by simp[e]
  cases ha:l.all (qg7 c)
  ·exact qop (hl:=l0) (r0:=b ha)
  ·exact qtQ (hl:=l0) (r0:=a ha)
 ·rw[df e,Bool.and_false]
  exact qvo (hl:=by simp;omega)
abbrev rkT (k:Nat):List (Nat×SV):=[(1,.pp 9 0),(3,.pv (iV (k:Int)))]
abbrev rkU (k j:Nat):List (Nat×SV):=[(1,.pp 9 0),(3,.pv (iV (k:Int))),(4,.pv (iV (j:Int)))]
abbrev rkH (c:Ck) (g:List Int):List (Nat×Nat×SV):=khB c g++khQ c g
theorem qq8 (hn:g.length≤1000) {k:Nat} {u:Int} (hu:g[k]?=some u):∀ (r j:Nat),j+r=k→
 (u∉(g.take k).drop j→Rl 9 9 22 1 60 10 (rkU k j) (rkH c g) (.exit 2) (rkT k) (rkH c g))∧
 (u∈(g.take k).drop j→Rl 9 9 22 1 60 10 (rkU k j) (rkH c g) .ret [(2,.pv (iV 8))] []):=by
 have hkl:=qaj hu
 intro r
 induction r with
 | zero=>
  intro j hj
  rw[List.drop_eq_nil_of_le (by rw[List.length_take];omega)]
  exact⟨fun _=>qvh (hj:=df (by omega)),fun h=>by cases h⟩
 | succ r ih=>
  intro j hj
  obtain⟨v,hv⟩:∃ v,g[j]?=some v:=⟨_,List.getElem?_eq_getElem (by omega)⟩
  have hv':(g.take k)[j]?=some v:=by rw[List.getElem?_take,if_pos (by omega)];exact hv
  rw[qbc hv',List.mem_cons]
  have k0:decide ((j:Int)<(k:Int))=true:=dt (by omega)
  have I:=ih (j+1) (by omega)
  by_cases e:u=v
  ·exact⟨fun h=>(h (Or.inl e)).elim,fun _=>qsc (hj:=k0) (i1:=qak hkl) (g1:=hu) (i2:=by omega) (g2:=hv) (he:=by simp[e])⟩
  ·have e0:(v==u)=false:=beq_false_of_ne (Ne.symm e)
   refine⟨fun h=>?_,fun h=>?_⟩
   ·exact qkI (hj:=k0) (i1:=qak hkl) (g1:=hu) (i2:=by omega) (g2:=hv) (he:=e0) (hsj:=qal (by omega)) (r:=I.1 fun h'=>h (Or.inr h'))
   ·exact qkI (hj:=k0) (i1:=qak hkl) (g1:=hu) (i2:=by omega) (g2:=hv) (he:=e0) (hsj:=qal (by omega)) (r:=I.2 (h.resolve_left e))
def qnD (s:List Pt) (g:List Int) (k:Nat):Prop:=∀ i u,k≤i→g[i]?=some u→(∃ q∈s,q.id=u)∧u∉g.take i
theorem qso (hs:Val c.s) (hn:g.length≤1000):∀ (r k:Nat),k+r=g.length→
 (qnD c.s g k→Rl 9 9 22 0 60 10 (rkT k) (rkH c g) (.exit 0) [(1,.pp 9 0)] (rkH c g))∧
 (¬ qnD c.s g k→Rl 9 9 22 0 60 10 (rkT k) (rkH c g) .ret [(2,.pv (iV 8))] []):=by
 intro r
 induction r with
 | zero=>
  intro k hk
  refine⟨fun _=>qvl (hlt:=df (by omega)),fun h=>(h fun i u hi hu=>?_).elim⟩
  have:=qaj hu
  omega
 | succ r ih=>
  intro k hk
  have hkl:k<g.length:=by omega
  obtain⟨u,hu⟩:=qai hkl
  have k0:decide ((k:Int)<(g.length:Int))=true:=dt (by omega)
  have I:=ih (k+1) (by omega)
  obtain⟨z,ha,hz⟩:=qe7 hs u
  rcases hz with ⟨z0,hno⟩ | ⟨j,q,rfl,hj,hq⟩
  ·exact⟨fun h=>(hno (h k u (Nat.le_refl _) hu).1).elim,fun _=>qvM (hlt:=k0) (i1:=qak hkl) (g1:=hu) (hu:=ha) (hz:=dt z0)⟩
  ·obtain⟨a,b⟩:=qq8 (c:=c) hn hu k 0 (Nat.zero_add _)
   rw[List.drop_zero] at a b
   have z0:decide ((j:Int)<0)=false:=df (by omega)
   by_cases hm:u∈g.take k
   ·exact⟨fun h=>((h k u (Nat.le_refl _) hu).2 hm).elim,fun _=>qne (hlt:=k0) (i1:=qak hkl) (g1:=hu) (hu:=ha) (hz:=z0) (r1:=b hm)⟩
   ·have e:qnD c.s g k↔qnD c.s g (k+1):=by
     refine⟨fun h i v hi hv=>h i v (by omega) hv,fun h i v hi hv=>?_⟩
     rcases Nat.lt_or_ge k i with h' | h'
     ·exact h i v h' hv
     ·have:i=k:=by omega
      subst this
      rw[hu] at hv
      cases hv
      exact⟨⟨q,List.mem_of_getElem? hj,hq⟩,hm⟩
    rw[e]
    exact⟨fun h=>qkL (hlt:=k0) (i1:=qak hkl) (g1:=hu) (hu:=ha) (hz:=z0) (r1:=a hm) (hs:=qal (by omega)) (r:=I.1 h),fun h=>qkL (hlt:=k0) (i1:=qak hkl) (g1:=hu) (hu:=ha) (hz:=z0) (r1:=a hm) (hs:=qal (by omega)) (r:=I.2 h)⟩
theorem qgd (hs:Val c.s) (hl:g.length=c.s.length):qnD c.s g 0↔qia c g=true:=by
 rw[qg9 hs]
 constructor
 ·intro h
  have nd:g.Nodup:=by
   rw[List.Nodup,List.pairwise_iff_getElem]
   intro i j hi hj hij e
   refine (h j _ (Nat.zero_le _) (List.getElem?_eq_getElem hj)).2 ?_
   rw[← e]
   exact List.mem_of_getElem? (i:=i) (by rw[List.getElem?_take,if_pos hij];exact List.getElem?_eq_getElem hi)
  refine qfF nd (fun x hx=>?_) (by rw[List.length_map];omega)
  obtain⟨i,hi⟩:=List.mem_iff_getElem?.1 hx
  obtain⟨q,hq,e⟩:=(h i x (Nat.zero_le _) hi).1
  exact List.mem_map.2 ⟨q,hq,e⟩
 ·intro p i u _ hu
  have nd:=p.nodup_iff.2 (qhg hs)
  obtain⟨q,hq,e⟩:=List.mem_map.1 (p.mem_iff.1 (List.mem_of_getElem? hu))
  refine⟨⟨q,hq,e⟩,fun hm=>?_⟩
  obtain⟨j,hj⟩:=List.mem_iff_getElem?.1 hm
  rw[List.getElem?_take] at hj
  split at hj
  ·rename_i hji
   obtain⟨i1,e1⟩:=List.getElem?_eq_some_iff.1 hu
   obtain⟨i2,e2⟩:=List.getElem?_eq_some_iff.1 hj
   have:=(List.getElem_inj nd).1 (e1.trans e2.symm)
   omega
  ·cases hj
theorem qcc (S:S9 c) (hs:c.s.length≤70) (hn:g.length≤70):Fn 22 9 [khA c g] (khQ c g) (.pv (iV (qbJ c g))) 0 []:=by
 have hc:=qqY S
 by_cases V:V9 c
 ·rw[qec V] at hc
  by_cases hl:g.length=c.s.length
  ·have l0:((g.length:Int) !=(c.s.length:Int))=false:=by simp[hl]
   obtain⟨a,b⟩:=qso (c:=c) (g:=g) V.s (by omega) g.length 0 (Nat.zero_add _)
   cases h0:qia c g
   ·have e:qbJ c g=8:=by unfold qbJ;rw[if_neg (by rw[h0];simp)]
    rw[e]
    exact qxK (hc:=hc) (hl:=l0) (r0:=b fun h=>by rw[(qgd V.s hl).1 h] at h0;cases h0)
   ·obtain⟨n1,n2⟩:=qn4 V.s h0
    have r0:=a ((qgd V.s hl).2 h0)
    have ho:=qmD (g:=g) (by omega)
    have hj:=qqc V S.tn S.td (qmP V.s n1 n2) (by rw[qbi];omega)
    cases hF:qwN c (edF g)
    ·rw[hF] at hj
     have e:qbJ c g=8:=by unfold qbJ;rw[if_neg (by rw[hF];simp)]
     rw[e]
     exact qsA (hc:=hc) (hl:=l0) (r0:=r0) (ho:=ho) (hj:=hj)
    ·rw[hF] at hj
     have e:qbJ c g=0:=by unfold qbJ;rw[if_pos ⟨V,h0,hF⟩]
     rw[e]
     exact qvz (hc:=hc) (hl:=l0) (r0:=r0) (ho:=ho) (hj:=hj)
  ·have e:qbJ c g=8:=by
    unfold qbJ
    rw[if_neg fun h=>hl ?_]
    have:=((qg9 V.s).1 h.2.1).length_eq
    rw[List.length_map] at this
    exact this
   rw[e]
   exact qxJ (hc:=hc) (hl:=by simp;omega)
 ·rw[qdi V] at hc
  have e:qbJ c g=8:=by unfold qbJ;rw[if_neg fun h=>V h.1]
  rw[e]
  exact qnU (hc:=hc)
theorem qdI (c:Ck) (g:List Int):qbJ c g=8∨qbJ c g=0∧V9 c:=by
 unfold qbJ
 split
 ·rename_i h;exact Or.inr ⟨rfl,h.1⟩
 ·exact Or.inl rfl
abbrev qG8 (f:FuncId) (c:Ck) (g:List Int):Prop:=(qbJ c g=8→Fn f 9 [khA c g] (khQ c g) (.pv (.tuple #[.slice none 0 0,iV 8])) 0 [])∧(qbJ c g=0→Fn f 9 [khA c g] (khQ c g) (.tu [.one (.ls 9 (edF g).length),.one (.pv (iV 0))]) 1 [(9,0,qgF (edF g))])
theorem qlV (S:S9 c) (hs:c.s.length≤70) (hn:g.length≤70):qG8 14 c g∧qG8 15 c g:=by
 have a:=qcB S hs hn
 have b:=qcc S hs hn
 refine⟨⟨fun e=>?_,fun e=>?_⟩,fun e=>?_,fun e=>?_⟩<;>rw[e] at a b
 ·exact qwS (hc:=a)
 ·exact qzJ (hc:=a) (he:=qdr (g:=g) (by omega))
 ·exact qw3 (hc:=b)
 ·exact qBS (hc:=b) (he:=qmD (g:=g) (by omega))
theorem qjt (S:S9 c) (hs:c.s.length≤70) (hn:g.length≤70):∃ z e:Int,Fn 16 9 [khA c g] (khQ c g) (.pv (.tuple #[iV z,iV e])) 0 []∧Fn 17 9 [khA c g] (khQ c g) (.pv (.tuple #[iV z,iV e])) 0 []:=by
 have a:=qcB S hs hn
 have b:=qcc S hs hn
 rcases qdI c g with e | ⟨e,_⟩<;>rw[e] at a b
 ·exact⟨0,8,qwb (hc:=a),qu5 (hc:=b)⟩
 ·cases g with
  | nil=>exact⟨0,42,qqP (hc:=a) (h0:=rfl),qrl (hc:=b) (h0:=rfl)⟩
  | cons u r=>
   have h0:(((u::r).length:Int)==0)=false:=beq_false_of_ne (by rw[List.length_cons];omega)
   exact⟨u,0,qzF (hc:=a) (h0:=h0) (hin:=qak (k:=0) (by simp)) (hk:=rfl),qBR (hc:=b) (h0:=h0) (hin:=qak (k:=0) (by simp)) (hk:=rfl)⟩
theorem qoA (S:S9 c) (hs:c.s.length≤70) (hn:g.length≤70):∃ (y:Ev) (e:Int),Fn 18 9 [khA c g] (khQ c g) (.pv (.tuple #[qae y,iV e])) 0 []∧Fn 19 9 [khA c g] (khQ c g) (.pv (.tuple #[qae y,iV e])) 0 []:=by
 have a:=qcB S hs hn
 have b:=qcc S hs hn
 obtain⟨p1,p2,p3⟩:=qA0 S hs
 rcases qdI c g with e | ⟨e,V⟩<;>rw[e] at a b
 ·exact⟨⟨0,0,0,0,0⟩,8,qy5 (hc:=a),qvP (hc:=b)⟩
 ·cases he:c.ev with
  | nil=>exact⟨⟨0,0,0,0,0⟩,42,qtZ (hc:=a) (hx:=p2 V he),qs5 (hc:=b) (h0:=by rw[he];rfl)⟩
  | cons y r=>
   have hy:c.ev[0]?=some y:=by rw[he];rfl
   have hl:=qaj hy
   exact⟨y,0,qtZ (hc:=a) (hx:=p3 V y hy),qA9 (hc:=b) (h0:=beq_false_of_ne (by omega)) (hin:=qak hl) (hk:=hy)⟩
end
end Go.Proofs.YtkckcgpmnipnaaaGreat

namespace Go.Proofs.YtkckcgpmnipnaaaGreat
set_option maxRecDepth 100000
open Go.RowKit
theorem qh9:Pure Tryz.prog 20 #[khZ,khZ] (.bool true):=qac (args:=[khZ,khZ]) 1000 [] (Ai rfl tI) (by kernel_rfl)
theorem qgh:Pure Tryz.prog 23 #[.slice none 0 0,.slice none 0 0] (.bool true):=qac (args:=[.slice none 0 0,.slice none 0 0]) 1000 [] (Ai rfl tI) (by kernel_rfl)
theorem qrG {l:List P2} (hn:l.length≤1000):∀ (r k:Nat),k+r=l.length→Rl 2 2 23 0 26 2 [(0,.ls 0 l.length),(1,.ls 1 l.length),(5,.pv (iV (k:Int)))] [(0,0,qgF l),(1,0,qgF l)] (.exit 0) [] []:=by
 intro r
 induction r with
 | zero=>
  intro k hk
  exact qvG (l:=l) (m:=l) (hlt:=df (by omega))
 | succ r ih=>
  intro k hk
  obtain⟨x,hx⟩:∃ x,l[k]?=some x:=⟨_,List.getElem?_eq_getElem (by omega)⟩
  exact qse (l:=l) (m:=l) (hlt:=dt (by omega)) (i1:=by omega) (g1:=hx) (i2:=by omega) (g2:=hx) (hne:=by simp) (hs:=qal (by omega)) (r:=ih (k+1) (by omega))
theorem qfO {l:List P2} (hn:l.length≤1000):Fn 23 2 [.ls 0 l.length,.ls 1 l.length] [(0,0,qgF l),(1,0,qgF l)] (.pv (.bool true)) 0 []:=
 qrp (l:=l) (m:=l) (hl:=by simp) (r0:=qrG hn l.length 0 (Nat.zero_add _))
theorem qh0 {g:List Int} (hn:g.length≤1000):Fn 56 2 [.ls 0 g.length,.ls 1 g.length] [(0,0,zrI g),(1,0,zrI g)] (.pv (.bool true)) 0 []:=
 qvW (by simp) (RunsL.rounds (fun k=>[(0,.ls 0 g.length),(1,.ls 1 g.length),(5,.pv (iV (k:Int)))]) (fun _=>[(0,0,qml g),(1,0,qml g)]) g.length 0 (Nat.zero_add _)
  (fun k _ hk r=>by
   obtain⟨p,hp⟩:=qai hk
   exact qsD hp (qak hk) hp (qak hk) (dt (by omega)) (by simp) (qal (by omega)) r)
  (qu1 (df (by omega))))
theorem qja (c:Ck) (g:List Int):Fn 11 9 [khA c g] (khQ c g) (.pv (.bool (qeE c||decide (70<g.length)))) 0 []:=by
 have h:=qlM c
 cases e:qeE c
 ·rw[e] at h
  by_cases hl:70<g.length
  ·rw[dt hl];exact qwD (h9:=h) (hg:=dt (by omega))
  ·rw[df hl];exact qAn (h9:=h) (hg:=df (by omega))
 ·rw[e] at h
  exact qwu (h9:=h)
theorem qhl (s:List Pt) (tn td:Int) (h1:I64 tn) (h2:I64 td) (c:Ck) (i1:I64 c.tn) (i2:I64 c.td) (hi:∀ y∈c.ev,EvI y) (g:List Int) :
 Fn 3 10 [qas 0 s,.pv (qaa tn td),.ag [.pv (iV c.tn),.pv (iV c.td),.ls 1 c.s.length,.pv (iV c.x),.ls 2 c.l.length,.ls 3 c.u.length,.ls 4 c.b.length,.ls 5 c.fr.length,.ls 6 c.ev.length,.ls 7 c.wh.length,.ls 8 c.d.length,.ls 9 g.length]]
  ((0,0,qad s)::khP c g) (.pv (.bool true)) 0 []:=by
 rcases qhE s with ⟨_,hG⟩ | ⟨hsl,hG⟩
 ·exact qEC (hG:=hG)
 have hK:=qja c g
 by_cases hk:(qeE c||decide (70<g.length))=true
 ·rw[hk] at hK
  exact qEE (hG:=hG) (hK:=hK)
 ·have hk':(qeE c||decide (70<g.length))=false:=by simpa using hk
  rw[hk'] at hK
  rw[Bool.or_eq_false_iff] at hk'
  obtain⟨S,_,_,hs⟩:=qmp hk'.1 i1 i2 hi
  have hn:g.length≤70:=by have:=of_decide_eq_false hk'.2;omega
  obtain⟨E1,E2⟩:=qlV S hs hn
  obtain⟨u,v,L1,L2⟩:=qjt S hs hn
  obtain⟨y,z,N1,N2⟩:=qoA S hs hn
  have C1:=qcB S hs hn
  have C2:=qcc S hs hn
  have hy:=qE8 y
  have T:=qfO (l:=edF g) (by rw[qbi];omega)
  obtain⟨B1,B2⟩:=qmv (s:=s) h1 h2
  obtain⟨R1,R2⟩:=qmf (s:=s) h1 h2
  by_cases h0:tE s tn td=0
  ·obtain⟨vs,vt⟩:=qjc h0
   obtain⟨o,ho,I⟩:=qr8 h1 h2 vt vs
   have hB:=B2 h0 o ho
   have hR:=R2 h0 o ho
   have So:=I.V.small (by rw[I.tn];exact h1) (by rw[I.td];exact h2)
   have os:o.s.length≤64:=by rw[I.s];exact vs.len
   have gl:(qbo s tn td).length≤64:=by rw[qbj];exact vs.len
   have hS:=ql6 (c:=o) (o:=o) (g:=qbo s tn td) (gs:=qbo s tn td) (h9:=qzt So (by omega)) (hi:=qh0 (by omega))
   rcases qdI c g with e | ⟨e,_⟩
   ·exact qA1 (hG:=hG) (hK:=hK) (hB:=hB) (hR:=hR) (hE:=E1.1 e) (hF:=E2.1 e) (hL:=L1) (hM:=L2) (hN:=N1) (hO:=N2) (hS:=hS) (hC:=C1) (hD:=C2) (hT:=qgh) (hy:=hy)
   ·exact qAT (hG:=hG) (hK:=hK) (hB:=hB) (hR:=hR) (hE:=E1.2 e) (hF:=E2.2 e) (hL:=L1) (hM:=L2) (hN:=N1) (hO:=N2) (hS:=hS) (hC:=C1) (hD:=C2) (hT:=T) (hy:=hy)
  ·have hB:=B1 h0
   have hR:=R1 h0
   rcases qdI c g with e | ⟨e,_⟩
   ·exact qAg (hG:=hG) (hK:=hK) (hB:=hB) (hR:=hR) (hE:=E1.1 e) (hF:=E2.1 e) (hL:=L1) (hM:=L2) (hN:=N1) (hO:=N2) (hS:=qh9) (hC:=C1) (hD:=C2) (hT:=qgh) (hy:=hy)
   ·exact qzO (hG:=hG) (hK:=hK) (hB:=hB) (hR:=hR) (hE:=E1.2 e) (hF:=E2.2 e) (hL:=L1) (hM:=L2) (hN:=N1) (hO:=N2) (hS:=qh9) (hC:=C1) (hD:=C2) (hT:=T) (hy:=hy)
end Go.Proofs.YtkckcgpmnipnaaaGreat

namespace Go.Proofs.YtkckcgpmnipnaaaGreat
set_option maxRecDepth 100000
open Go.ChangeShapes Go.WideShapes Go.ChangeAt Go.RowKit Go.Joins Go.Deep
section
variable {H:Type} {enc:TypeId×Value→H} {W:World} {base:Nat} {spare:Nat→Bool} {held:Bool}
theorem qtg:Tryz.prog.cellsOf 41=12:=by kernel_rfl
theorem qvN:Tryz.prog.readableRec 41=true:=by kernel_rfl
theorem qz6:41<Tryz.prog.types.size:=of_decide_eq_true (by kernel_rfl)
abbrev khR (c:Ck) (g:List Int):List (TypeId×Nat×Nat×List Value):=ckR c++[(3,1,g.length,ziV g)]
theorem qmb {r:Reach} {b0:Nat} {v:Value} {d:DataW H} {p:List MemPlace} (hv:Value.okWide Tryz.prog W r b0 41 v) (h:DataW.Trod enc Tryz.prog W base spare held 41 v d p) :
 ∃ (c:Ck) (g:List Int) (u0 u1 u2 u3 u4 u5 u6 u7 u8:Value),v=.agg #[iV c.tn,iV c.td,u0,iV c.x,u1,u2,u3,u4,u5,u6,u7,u8]∧ZIns W [u0,u1,u2,u3,u4,u5,u6,u7,u8] (khR c g)∧I64 c.tn∧I64 c.td∧∀ y∈c.ev,EvI y:=by
 obtain⟨cs,rfl,hsz⟩:=okWide_struct Tryz.underlying41 hv
 obtain⟨fuel,hf⟩:=h
 obtain⟨k0',k1',nk,_,_,hk,hh⟩:=trod_struct2 Tryz.underlying41 hf
 obtain⟨y0,y1,y2,y3,y4,n,hlen,h0,h1,h2,h3,h4⟩:=qh8 Tryz.underlying39 hk
 obtain⟨u8,g,c8,r8,_⟩:=qc7 hh
 obtain⟨z0,z1,n1,_,_,a0,a1⟩:=trod_struct2 Tryz.underlying26 h0
 obtain⟨tn,e0,_,w0⟩:=DataW.trod_int Tryz.underlying2 a0
 obtain⟨td,e1,_,w1⟩:=DataW.trod_int Tryz.underlying2 a1
 obtain⟨z2,n2,_,_,b0⟩:=trod_struct1 Tryz.underlying24 h1
 obtain⟨u0,s,c0,r0,_⟩:=qkm b0
 obtain⟨z3,z4,n3,_,_,d0,d1⟩:=trod_struct2 Tryz.underlying29 h2
 obtain⟨x,e2,_,_⟩:=DataW.trod_int Tryz.underlying3 d0
 obtain⟨u1,l,c1,r1⟩:=qox d1
 obtain⟨z5,z6,z7,n4,_,_,k0,k1,k2⟩:=trod_struct3 Tryz.underlying36 h3
 obtain⟨x0,x1,x2,n5,_,_,g0,g1,g2⟩:=trod_struct3 Tryz.underlying33 k0
 obtain⟨u2,lu,c2,r2,_⟩:=qc7 g0
 obtain⟨u3,lb,c3,r3⟩:=qiK g1
 obtain⟨u4,lf,c4,r4,_⟩:=qc7 g2
 obtain⟨u5,le,c5,r5,w5⟩:=qrt k1
 obtain⟨u6,lw,c6,r6,_⟩:=qc7 k2
 obtain⟨u7,ld,c7,r7⟩:=qpk h4
 refine⟨⟨tn,td,s,x,l,lu,lb,lf,le,lw,ld⟩,g,u0,u1,u2,u3,u4,u5,u6,u7,u8,?_,.cons r0 (qfv s) (.cons r1 (qfv l) (.cons r2 (qfk lu) (.cons r3 (qAX lb) (.cons r4 (qfk lf) (.cons r5 (qpx le) (.cons r6 (qfk lw) (.cons r7 (qfv ld) (.cons r8 (qfk g) .nil)))))))),qDR w0,qDR w1,w5⟩
 rw[qzX,qA3] at c0
 rw[qvt,qky] at c1
 rw[qAV,qky] at e2
 rw[quq,qAY] at e0 e1
 rw[qDs] at c2 c4 c6
 rw[qEs] at c3
 rw[qFE] at c5
 rw[qF7] at c2 c3 c4
 rw[qFR] at c2 c3 c4 c5 c6
 rw[qyh] at c7
 rw[qpR] at c0 c1 c2 c3 c4 c5 c6 c7 e0 e1 e2
 rw[qDs] at c8
 have hs:cs.size=12:=hsz.trans qtg
 obtain⟨L⟩:=cs
 match L,hs with
 | [v0,v1,v2,v3,v4,v5,v6,v7,v8,v9,v10,v11],_=>
  simp[Value.cells] at c0 c1 c2 c3 c4 c5 c6 c7 c8 e0 e1 e2
  rw[c0,c1,c2,c3,c4,c5,c6,c7,c8,e0,e1,e2]
end
theorem qdm {W:World} {es n:Nat} {u:Value} {xs:List Value} (h:Rd W es u n xs):∃ a c,u=.slice a n c:=by
 obtain⟨_,a,c,rfl,_⟩:=h
 exact⟨a,c,rfl⟩
abbrev qCT (c:Ck) (u0 u1 u2 u3 u4 u5 u6 u7 u8:Value):Value:=.agg #[iV c.tn,iV c.td,u0,iV c.x,u1,u2,u3,u4,u5,u6,u7,u8]
theorem quS {W:World} {c:Ck} {g:List Int} {s:List Pt} {tn td:Int} {u u0 u1 u2 u3 u4 u5 u6 u7 u8:Value} {f:FuncId}
 (h:Fn f 10 [qas 0 s,.pv (qaa tn td),.ag [.pv (iV c.tn),.pv (iV c.td),.ls 1 c.s.length,.pv (iV c.x),.ls 2 c.l.length,.ls 3 c.u.length,.ls 4 c.b.length,.ls 5 c.fr.length,.ls 6 c.ev.length,.ls 7 c.wh.length,.ls 8 c.d.length,.ls 9 g.length]] ((0,0,qad s)::khP c g) (.pv (.bool true)) 0 [])
 (rf:Rd W 3 u s.length (qa3 s)) (r:ZIns W [u0,u1,u2,u3,u4,u5,u6,u7,u8] (khR c g)) :
 Calls Tryz.prog f #[.agg #[u],qaa tn td,qCT c u0 u1 u2 u3 u4 u5 u6 u7 u8] W fun e W'=>e=.returned (.bool true)∧Gr W W':=by
 refine qqi (rs:=(137,3,s.length,qa3 s)::khR c g) (us:=[u,u0,u1,u2,u3,u4,u5,u6,u7,u8]) (vs:=[.agg #[u],qaa tn td,qCT c u0 u1 u2 u3 u4 u5 u6 u7 u8]) h (.cons rf (qfv s) r) ?_
 match r with
 | .cons h0 _ (.cons h1 _ (.cons h2 _ (.cons h3 _ (.cons h4 _ (.cons h5 _ (.cons h6 _ (.cons h7 _ (.cons h8 _ .nil))))))))=>
  exact⟨⟨[u],⟨⟨rfl,qdm rf⟩,tI⟩,rfl⟩,rfl,⟨[iV c.tn,iV c.td,u0,iV c.x,u1,u2,u3,u4,u5,u6,u7,u8],⟨rfl,rfl,⟨rfl,qdm h0⟩,rfl,⟨rfl,qdm h1⟩,⟨rfl,qdm h2⟩,⟨rfl,qdm h3⟩,⟨rfl,qdm h4⟩,⟨rfl,qdm h5⟩,⟨rfl,qdm h6⟩,⟨rfl,qdm h7⟩,⟨rfl,qdm h8⟩,tI⟩,rfl⟩,tI⟩
end Go.Proofs.YtkckcgpmnipnaaaGreat
