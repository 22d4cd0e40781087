/-
  Joined: Li, Lj, Lk, Ll, Ln, Lo, Lp, Lq, Lr, Lu. Conditions: none.
-/
import Derived.Test.YtkckcgpmnipnaaaGreatW44
import Derived.Test.YtkckcgpmnipnaaaGreatW21
import Derived.Test.YtkckcgpmnipnaaaGreatW34
namespace Go.Proofs.YtkckcgpmnipnaaaGreat
set_option maxRecDepth 100000
open Go.RowKit
noncomputable abbrev qbm (c:Ck) (p:Pt):Bool:=(qaq c.s c.tn c.td p).2.2
theorem DueF.ids {c:Ck}:∀ {l d:List Pt},DueF c l d→d.map Pt.id=(l.filter (qbm c)).map Pt.id
 | [],d,h=>by
  have e:d=[]:=h
  subst e;rfl
 | p::l,d,h=>by
  cases hf:qbm c p
  ·have h':DueF c l d:=by
    have:(if (qaq c.s c.tn c.td p).2.2=true then _ else _):=h
    rwa [if_neg (by rw[show (qaq c.s c.tn c.td p).2.2=false from hf];decide)] at this
   rw[List.filter_cons_of_neg (by rw[hf];decide)]
   exact DueF.ids h'
  ·have h':∃ q r,d=q::r∧(∃ y,DueOk c p q y)∧DueF c l r:=by
    have:(if (qaq c.s c.tn c.td p).2.2=true then _ else _):=h
    rwa [if_pos hf] at this
   obtain⟨q,r,rfl,⟨y,hy⟩,hr⟩:=h'
   rw[List.filter_cons_of_pos hf,List.map_cons,List.map_cons,DueF.ids hr,hy.id]
theorem DueF.some {c:Ck}:∀ {l d:List Pt},DueF c l d→∀ q∈d,∃ p∈l,qbm c p=true∧∃ y,DueOk c p q y
 | [],d,h,q,hq=>by
  have e:d=[]:=h
  subst e;cases hq
 | p::l,d,h,q,hq=>by
  cases hf:qbm c p
  ·have h':DueF c l d:=by
    have:(if (qaq c.s c.tn c.td p).2.2=true then _ else _):=h
    rwa [if_neg (by rw[show (qaq c.s c.tn c.td p).2.2=false from hf];decide)] at this
   obtain⟨p',hp',h2⟩:=DueF.some h' q hq
   exact⟨p',List.mem_cons_of_mem _ hp',h2⟩
  ·have h':∃ q r,d=q::r∧(∃ y,DueOk c p q y)∧DueF c l r:=by
    have:(if (qaq c.s c.tn c.td p).2.2=true then _ else _):=h
    rwa [if_pos hf] at this
   obtain⟨q',r,rfl,hy,hr⟩:=h'
   rcases List.mem_cons.1 hq with rfl | hq
   ·exact⟨p,List.mem_cons_self,hf,hy⟩
   ·obtain⟨p',hp',h2⟩:=DueF.some hr q hq
    exact⟨p',List.mem_cons_of_mem _ hp',h2⟩
theorem Up.nodup {l:List Pt} (h:Up l):(l.map Pt.id).Nodup:=by
 have hlt:∀ (i j:Nat) (p q:Pt),i<j→l[i]?=some p→l[j]?=some q→p.id<q.id:=fun i j p q hij hp hq=>h.mono hij hp hq
 rw[List.nodup_iff_pairwise_ne,List.pairwise_iff_getElem]
 intro i j hi hj hij
 rw[List.getElem_map,List.getElem_map]
 have hi':i<l.length:=by simpa using hi
 have hj':j<l.length:=by simpa using hj
 have:=hlt i j _ _ hij (List.getElem?_eq_getElem hi') (List.getElem?_eq_getElem hj')
 omega
theorem V9.due_nodup {c:Ck} (h:V9 c):(c.d.map Pt.id).Nodup:=by
 rw[h.f.ids]
 exact h.v.up.nodup.sublist (List.Sublist.map _ List.filter_sublist)
theorem V9.ev {c:Ck} (h:V9 c) {j:Nat} {y:Ev} (hy:c.ev[j]?=some y):∃ p∈c.l,qbm c p=true∧∃ q∈c.d,DueOk c p q y:=by
 let J:List Nat:=c.d.map fun q=>((c.wh[q.a.toNat]?).getD 0).toNat
 let g:Nat→Int:=fun j=>((c.ev[j]?).map Ev.k).getD 0
 have at_:∀ q∈c.d,∃ p∈c.l,qbm c p=true∧∃ y,DueOk c p q y∧c.ev[((c.wh[q.a.toNat]?).getD 0).toNat]?=some y:=by
  intro q hq
  obtain⟨p,hp,hf,y,hd⟩:=h.f.some q hq
  obtain⟨w,h1,h2⟩:=hd.at_
  refine⟨p,hp,hf,y,hd,?_⟩
  rw[h1]
  exact h2
 have e1:J.map g=c.d.map Pt.id:=by
  rw[List.map_map]
  apply List.map_congr_left
  intro q hq
  obtain⟨p,_,_,y,hd,h2⟩:=at_ q hq
  show ((c.ev[((c.wh[q.a.toNat]?).getD 0).toNat]?).map Ev.k).getD 0=q.id
  rw[h2]
  exact hd.k.trans hd.id.symm
 have nd:J.Nodup:=by
  have:=h.due_nodup
  rw[← e1] at this
  exact List.Pairwise.of_map g (fun a b hne e=>hne (congrArg g e)) this
 have lt:∀ x∈J,x<c.ev.length:=by
  intro x hx
  obtain⟨q,hq,rfl⟩:=List.mem_map.1 hx
  obtain⟨_,_,_,y,_,h2⟩:=at_ q hq
  exact qaj h2
 have hj:j∈J:=qgc nd lt (by show (c.d.map _).length=_;rw[List.length_map,h.e]) (qaj hy)
 obtain⟨q,hq,ej⟩:=List.mem_map.1 hj
 obtain⟨p,hp,hf,y',hd,h2⟩:=at_ q hq
 rw[ej,hy] at h2
 have e2:y=y':=Option.some.inj h2
 subst e2
 exact⟨p,hp,hf,q,hq,hd⟩
theorem V9.ev_id {c:Ck} (h:V9 c) {y:Ev} (hy:y∈c.ev):∃ p∈c.l,y.k=p.id:=by
 obtain⟨j,hj⟩:=List.getElem?_of_mem hy
 obtain⟨p,hp,_,q,_,hd⟩:=h.ev hj
 exact⟨p,hp,hd.k⟩
theorem V9.new {c:Ck} (h:V9 c):cnE c.ev c.x=0:=by
 have:=h.v.nx
 unfold cnE
 rw[if_pos (by omega),if_neg]
 rintro⟨m,hm,e⟩
 obtain⟨p,hp,e2⟩:=h.ev_id hm
 have:=h.v.hi p hp
 omega
end Go.Proofs.YtkckcgpmnipnaaaGreat

namespace Go.Proofs.YtkckcgpmnipnaaaGreat
set_option maxRecDepth 100000
open Go.RowKit
theorem qiA {u fr wh:List Int} {b:List Bool} {ev:List Ev} (s:ASm u b fr ev wh):qb0 u b fr=false:=by
 have h1:=s.lu
 have h2:=s.lb
 have h3:=s.lf
 unfold qb0
 rw[df (by omega),df (by omega),df (by omega)]
 rfl
theorem quE {c:Ck} (S:S9 c) (hs:c.s.length≤1000000):Fn 29 8 [qaz c] (qaC c) (qkn c) 8 (qeR c):=by
 have h1:=S.l
 have h2:=S.d
 have h3:=S.a.le
 have h4:=S.a.lw
 exact qsY (hf:=qj9 hs) (hs:=qhw c.x (by omega)) (ha:=qHy (h6:=qfc (qiA S.a)) (ne:=by omega) (nw:=by omega)) (hn:=by omega)
theorem qzt {c:Ck} (S:S9 c) (hs:c.s.length≤1000000):Fn 32 16 [qaz c,qkn c] (qaC c++qeR c) (.pv (.bool true)) 0 []:=by
 have h1:=S.l
 have h2:=S.d
 have h3:=S.a.le
 have h4:=S.a.lw
 exact qwG (hf:=qpm hs) (hs:=qtw c.x (by omega)) (ha:=qqh (qiA S.a) (by omega) (by omega))
  (r0:=RunsL.rounds (fun k=>[(2,.pp 16 0),(3,.pp 17 0),(5,.pv (iV (k:Int)))]) (fun _=>[(16,10,.ls 7 c.d.length),(17,10,.ls 15 c.d.length),(7,0,qaP c.d),(15,0,qaP c.d)]) c.d.length 0 (Nat.zero_add _)
   (fun k _ hk r=>by
    obtain⟨p,hp⟩:=qai hk
    exact qrB hp (qak hk) (dt (by omega)) (qal (by omega)) r)
   (qw7 (df (by omega))))
theorem qec {c:Ck} (h:V9 c):qpA c=0:=by unfold qpA;rw[if_pos h]
theorem qdi {c:Ck} (h:¬ V9 c):qpA c=8:=by unfold qpA;rw[if_neg h]
abbrev qH1 (c:Ck) (a b:Int):Ck:={ c with x:=c.x+1,l:=c.l++[⟨c.x,a,b⟩] }
abbrev qyG (c:Ck) (a b n d:Int) (u2:List Int) (b2:List Bool) (f2:List Int) (hi hw:Int):Ck:={ c with x:=c.x+1,l:=c.l++[⟨c.x,a,b⟩],u:=u2,b:=b2,fr:=f2,ev:=(qa7 c.ev c.wh ⟨n,d,c.x,hi,hw⟩).1,wh:=(qa7 c.ev c.wh ⟨n,d,c.x,hi,hw⟩).2,d:=c.d++[⟨c.x,hi,hw⟩] }
def qhy (c:Ck) (a b:Int) (o:Ck):Prop:=(qbm c ⟨c.x,a,b⟩=false∧o=qH1 c a b)∨(qbm c ⟨c.x,a,b⟩=true∧∃ u2 b2 f2 hi hw,qbu c.u c.b c.fr=some (u2,b2,f2,hi,hw)∧o=qyG c a b (qaq c.s c.tn c.td ⟨c.x,a,b⟩).1 (qaq c.s c.tn c.td ⟨c.x,a,b⟩).2.1 u2 b2 f2 hi hw)
noncomputable def adE (c:Ck) (a b:Int):Int:=open Classical in if qeN c.l a b=true then 14 else if c.l.length=200∨c.x=1000000 then 18 else if qbm c ⟨c.x,a,b⟩=true∧qbu c.u c.b c.fr=none then 18 else 0
noncomputable def cyE (c:Ck) (a b:Int):Int:=open Classical in if V9 c∧qbC a b=true then (if (∃ q∈c.s,q.id=a)∧(∃ q∈c.s,q.id=b) then adE c a b else 6) else 8
abbrev qBh (f:FuncId) (c:Ck) (a b e:Int):Prop:=Fn f 8 [qaz c,.pv (qah a b)] (qaC c) (.pv (.tuple #[qiC,iV 0,iV e])) 0 []
abbrev qHK (f:FuncId) (c:Ck) (a b:Int) (o:Ck):Prop:=Fn f 8 [qaz c,.pv (qah a b)] (qaC c) (.tu [qrc o,.one (.pv (iV c.x)),.one (.pv (iV 0))]) 8 (qeR o)
theorem qEy {c:Ck} {a b:Int} (h:adE c a b=0):∃ o,qhy c a b o:=by
 cases hf:qbm c ⟨c.x,a,b⟩
 ·exact⟨_,Or.inl ⟨hf,rfl⟩⟩
 ·cases ht:qbu c.u c.b c.fr with
  | none=>
   exfalso
   unfold adE at h
   rw[if_pos (show qbm c ⟨c.x,a,b⟩=true∧qbu c.u c.b c.fr=none from ⟨hf,ht⟩)] at h
   split at h
   ·cases h
   ·split at h<;>cases h
  | some z=>
   obtain⟨u2,b2,f2,hi,hw⟩:=z
   exact⟨_,Or.inr ⟨hf,u2,b2,f2,hi,hw,ht,rfl⟩⟩
theorem qk1 {c:Ck} (S:S9 c) (V:V9 c) {a b:Int} (hc:qbC a b=true) (ha:∃ q∈c.s,q.id=a) (hb:∃ q∈c.s,q.id=b) :
 (adE c a b≠0→qBh 147 c a b (adE c a b))∧(adE c a b=0→∀ o,qhy c a b o→qHK 147 c a b o):=by
 have hl:=V.v.len
 have hsl:=V.s.len
 have W:=qtY (c:=⟨c.x,a,b⟩) S.tn S.td V.t V.s hc ha hb
 have FT:=qc6 (c:=⟨c.x,a,b⟩) S.tn S.td V.t V.s hc ha hb
 have TW:=quE S (by omega)
 rcases qgC c.x (l:=c.l) (by omega) a b with ⟨e,_,h,h1 | h1 | h1⟩ | ⟨_,_,hh,hn,hx,_,h⟩
 ·rcases h1.2 with h2 | h2
  ·exact (h2 V.v).elim
  ·exact (h2 hc).elim
 ·have e1:adE c a b=14:=by unfold adE;rw[if_pos h1.2.2.2]
  rw[e1]
  rw[h1.1] at h
  exact⟨fun _=>qnW (ha:=h) (he:=by decide),fun h=>by cases h⟩
 ·have e1:adE c a b=18:=by unfold adE;rw[if_neg (by rw[h1.2.2.2.1];decide),if_pos h1.2.2.2.2]
  rw[e1]
  rw[h1.1] at h
  exact⟨fun _=>qnW (ha:=h) (he:=by decide),fun h=>by cases h⟩
 ·have e1:adE c a b=if qbm c ⟨c.x,a,b⟩=true∧qbu c.u c.b c.fr=none then 18 else 0:=by
   unfold adE
   rw[if_neg (by rw[hh];decide),if_neg (by omega)]
  cases hf:qbm c ⟨c.x,a,b⟩
  ·have hf':(qaq c.s c.tn c.td ⟨c.x,a,b⟩).2.2=false:=hf
   rw[hf'] at W
   rw[hf,if_neg (by simp)] at e1
   rw[e1]
   refine⟨fun h=>(h rfl).elim,fun _ o ho=>?_⟩
   rcases ho with ⟨_,rfl⟩ | ⟨h2,_⟩
   ·exact qDc (ha:=h) (htw:=TW) (hwn:=W)
   ·rw[hf] at h2;cases h2
  ·have hf':(qaq c.s c.tn c.td ⟨c.x,a,b⟩).2.2=true:=hf
   rw[hf'] at W
   obtain⟨k1,k2,k3,_⟩:=FT.i.ok hf'
   cases ht:qbu c.u c.b c.fr with
   | none=>
    rw[if_pos ⟨hf,ht⟩] at e1
    rw[e1]
    exact⟨fun _=>qrM (ha:=h) (htw:=TW) (hwn:=W) (ho:=qkX V.a.vd ht),fun h=>by cases h⟩
   | some z=>
    rw[if_neg (by rw[ht];simp)] at e1
    rw[e1]
    refine⟨fun h=>(h rfl).elim,fun _ o ho=>?_⟩
    rcases ho with ⟨h2,_⟩ | ⟨_,u2,b2,f2,hi,hw,h2,rfl⟩
    ·rw[hf] at h2;cases h2
    ·have hd:=S.d
     have hnx:=V.v.nx
     have P:=qjA (z:=c.x) ⟨k2,k3⟩ k1 V.a hnx h2
     exact qxn (o:=qyG c a b (qaq c.s c.tn c.td ⟨c.x,a,b⟩).1 (qaq c.s c.tn c.td ⟨c.x,a,b⟩).2.1 u2 b2 f2 hi hw) (ha:=h) (htw:=TW) (hwn:=W) (ho:=ql8 V.a.vd h2) (hp:=P) (hd:=by omega)
end Go.Proofs.YtkckcgpmnipnaaaGreat

namespace Go.Proofs.YtkckcgpmnipnaaaGreat
set_option maxRecDepth 100000
open Go.RowKit
abbrev qca (s:List Pt) (tn td:Int):Ck:=⟨tn,td,s,0,[],List.replicate 200 0,List.replicate 200 false,qbH 200,[],List.replicate 200 (-1),[]⟩
abbrev qEU (f:FuncId) (s:List Pt) (tn td e:Int):Prop:=Fn f 1 [qas 0 s,.pv (qaa tn td)] [(0,0,qad s)] (.pv (.tuple #[qiC,iV e])) 0 []
end Go.Proofs.YtkckcgpmnipnaaaGreat

namespace Go.Proofs.YtkckcgpmnipnaaaGreat
set_option maxRecDepth 100000
open Go.RowKit
end Go.Proofs.YtkckcgpmnipnaaaGreat

namespace Go.Proofs.YtkckcgpmnipnaaaGreat
set_option maxRecDepth 100000
open Go.RowKit
theorem qE8 (y:Ev):((y.n==y.n&&(y.d==y.d&&true))&&(y.k==y.k&&((y.i==y.i&&(y.w==y.w&&true))&&true)))=true:=by simp
end Go.Proofs.YtkckcgpmnipnaaaGreat

namespace Go.Proofs.YtkckcgpmnipnaaaGreat
set_option maxRecDepth 100000
open Go.RowKit
theorem DueOk.own {c:Ck} {p q:Pt} {y:Ev} (h:DueOk c p q y) (ha:VA c.u c.b c.fr c.ev c.wh):y.i=q.a∧y.w=q.b:=by
 obtain⟨w,y',h1,h2,h3,h4⟩:=VA.find ha h.lv
 obtain⟨w',g1,g2⟩:=h.at_
 rw[h1] at g1
 have e:(w:Int)=(w':Int):=Option.some.inj g1
 have e2:w=w':=by omega
 subst e2
 rw[h2] at g2
 have e3:y'=y:=Option.some.inj g2
 subst e3
 exact⟨h3,h4⟩
theorem DueOk.mk' {c:Ck} {p q:Pt} {y:Ev} (ha:VA c.u c.b c.fr c.ev c.wh) (hy:y∈c.ev) (e1:y.i=q.a) (e2:y.w=q.b) (id:q.id=p.id) (k:y.k=p.id) (n:y.n=(qaq c.s c.tn c.td p).1) (d:y.d=(qaq c.s c.tn c.td p).2.1):DueOk c p q y:=by
 obtain⟨j,hj⟩:=List.getElem?_of_mem hy
 obtain⟨h1,h2⟩:=VA.own ha hj
 rw[e1,e2] at h1
 rw[e1] at h2
 exact⟨id,h1,⟨j,h2,hj⟩,k,n,d⟩
theorem DueF.map {c o:Ck} {l:List Pt}:∀ {d:List Pt},(∀ p∈l,qaq o.s o.tn o.td p=qaq c.s c.tn c.td p)→(∀ p∈l,∀ q∈d,(∃ y,DueOk c p q y)→∃ y,DueOk o p q y)→DueF c l d→DueF o l d:=by
 induction l with
 | nil=>intro d _ _ h;exact h
 | cons p l ih=>
  intro d hf hk h
  have e:=hf p List.mem_cons_self
  show if (qaq o.s o.tn o.td p).2.2=true then _ else _
  rw[e]
  cases f:(qaq c.s c.tn c.td p).2.2
  ·have h':DueF c l d:=by
    have:(if (qaq c.s c.tn c.td p).2.2=true then _ else _):=h
    rwa [if_neg (by rw[f];decide)] at this
   rw[if_neg (by decide)]
   exact ih (fun p' hp'=>hf p' (List.mem_cons_of_mem _ hp')) (fun p' hp'=>hk p' (List.mem_cons_of_mem _ hp')) h'
  ·have h':∃ q r,d=q::r∧(∃ y,DueOk c p q y)∧DueF c l r:=by
    have:(if (qaq c.s c.tn c.td p).2.2=true then _ else _):=h
    rwa [if_pos f] at this
   obtain⟨q,r,hd,hy,hr⟩:=h'
   rw[if_pos rfl]
   subst hd
   exact⟨q,r,rfl,hk p List.mem_cons_self q List.mem_cons_self hy,ih (fun p' hp'=>hf p' (List.mem_cons_of_mem _ hp')) (fun p' hp' q' hq'=>hk p' (List.mem_cons_of_mem _ hp') q' (List.mem_cons_of_mem _ hq')) hr⟩
theorem DueF.snoc {c:Ck} {p:Pt} {l:List Pt}:∀ {d:List Pt},DueF c l d→(qbm c p=false→DueF c (l++[p]) d)∧(qbm c p=true→∀ q y,DueOk c p q y→DueF c (l++[p]) (d++[q])):=by
 induction l with
 | nil=>
  intro d h
  have e:d=[]:=h
  subst e
  refine⟨fun f=>?_,fun f q y hy=>?_⟩
  ·show if (qaq c.s c.tn c.td p).2.2=true then _ else _
   rw[if_neg (by rw[show (qaq c.s c.tn c.td p).2.2=false from f];decide)]
   rfl
  ·show if (qaq c.s c.tn c.td p).2.2=true then _ else _
   rw[if_pos f]
   exact⟨q,[],rfl,⟨y,hy⟩,rfl⟩
 | cons p' l ih=>
  intro d h
  cases f':(qaq c.s c.tn c.td p').2.2
  ·have h':DueF c l d:=by
    have:(if (qaq c.s c.tn c.td p').2.2=true then _ else _):=h
    rwa [if_neg (by rw[f'];decide)] at this
   obtain⟨i1,i2⟩:=ih h'
   refine⟨fun f=>?_,fun f q y hy=>?_⟩
   ·show if (qaq c.s c.tn c.td p').2.2=true then _ else _
    rw[if_neg (by rw[f'];decide)]
    exact i1 f
   ·show if (qaq c.s c.tn c.td p').2.2=true then _ else _
    rw[if_neg (by rw[f'];decide)]
    exact i2 f q y hy
  ·have h':∃ q r,d=q::r∧(∃ y,DueOk c p' q y)∧DueF c l r:=by
    have:(if (qaq c.s c.tn c.td p').2.2=true then _ else _):=h
    rwa [if_pos f'] at this
   obtain⟨q',r,hd,hy',hr⟩:=h'
   subst hd
   obtain⟨i1,i2⟩:=ih hr
   refine⟨fun f=>?_,fun f q y hy=>?_⟩
   ·show if (qaq c.s c.tn c.td p').2.2=true then _ else _
    rw[if_pos f']
    exact⟨q',r,rfl,hy',i1 f⟩
   ·show if (qaq c.s c.tn c.td p').2.2=true then _ else _
    rw[if_pos f']
    exact⟨q',r++[q],rfl,hy',i2 f q y hy⟩
theorem V9.new_ok {c o:Ck} (S:S9 c) (V:V9 c) {a b:Int} (hc:qbC a b=true) (ha:∃ q∈c.s,q.id=a) (hb:∃ q∈c.s,q.id=b) (h0:adE c a b=0) (h:qhy c a b o):V9 o:=by
 have hh:qeN c.l a b=false:=by
  cases e:qeN c.l a b
  ·rfl
  ·unfold adE at h0;rw[if_pos e] at h0;cases h0
 have hr:¬ (c.l.length=200∨c.x=1000000):=fun e=>by
  unfold adE at h0;rw[if_neg (by rw[hh];decide),if_pos e] at h0;cases h0
 have hl:=V.v.len
 have hx:=V.v.nx
 have v:V8 (c.x+1) (c.l++[⟨c.x,a,b⟩]):=V8.add V.v hc hh (by omega) (by omega)
 have kn:qdw (c.l++[⟨c.x,a,b⟩]) c.s:=fun p hp=>by
  rcases List.mem_append.1 hp with hp | hp
  ·exact V.k p hp
  ·rw[List.mem_singleton.1 hp];exact⟨ha,hb⟩
 rcases h with ⟨f,rfl⟩ | ⟨f,u2,b2,f2,hi,hw,ht,rfl⟩
 ·exact⟨V.t,V.s,v,kn,V.a,V.w,V.e,DueF.map (c:=c) (fun _ _=>rfl) (fun _ _ _ _ ⟨y,h⟩=>⟨y,⟨h.id,h.lv,h.at_,h.k,h.n,h.d⟩⟩) ((V.f.snoc).1 f)⟩
 ·have FT:=qc6 (c:=⟨c.x,a,b⟩) S.tn S.td V.t V.s hc ha hb
  obtain⟨k1,k2,k3,_⟩:=FT.i.ok f
  obtain⟨A,pm,lv,lvp⟩:=VA.push ⟨k2,k3⟩ k1 V.a V.new ht
  have l1:=A.lens
  have l0:=V.a.lens
  have wl:=V.w
  obtain⟨_,_,_,_,eu,_,_,_⟩:=qba ht
  have lu:u2.length=c.u.length:=by rw[eu,List.length_set]
  let o:Ck:=qyG c a b (qaq c.s c.tn c.td ⟨c.x,a,b⟩).1 (qaq c.s c.tn c.td ⟨c.x,a,b⟩).2.1 u2 b2 f2 hi hw
  have D:DueF o c.l c.d:=DueF.map (c:=c) (fun _ _=>rfl) (fun p _ q _ ⟨y,hy⟩=>by
   obtain⟨e1,e2⟩:=hy.own V.a
   obtain⟨j,_,hj⟩:=hy.at_
   exact⟨y,DueOk.mk' A (pm.mem_iff.2 (List.mem_append_left _ (List.mem_of_getElem? hj))) e1 e2 hy.id hy.k hy.n hy.d⟩) V.f
  have N:DueOk o ⟨c.x,a,b⟩ ⟨c.x,hi,hw⟩ ⟨(qaq c.s c.tn c.td ⟨c.x,a,b⟩).1,(qaq c.s c.tn c.td ⟨c.x,a,b⟩).2.1,c.x,hi,hw⟩:=DueOk.mk' A (pm.mem_iff.2 (List.mem_append_right _ (List.mem_singleton.2 rfl))) rfl rfl rfl rfl rfl rfl
  have le:=pm.length_eq
  exact⟨V.t,V.s,v,kn,A,by show (qa7 _ _ _).2.length=200;omega,by have:=V.e;show (qa7 _ _ _).1.length=(c.d++[_]).length;rw[List.length_append];rw[List.length_append] at le;simp at le ⊢;omega,(D.snoc).2 f _ _ N⟩
end Go.Proofs.YtkckcgpmnipnaaaGreat

namespace Go.Proofs.YtkckcgpmnipnaaaGreat
set_option maxRecDepth 100000
open Go.RowKit
theorem V9.small {c:Ck} (V:V9 c) (h1:I64 c.tn) (h2:I64 c.td):S9 c where
 tn:=h1
 td:=h2
 l:=by have:=V.v.len;omega
 d:=by have:=V.a.lens;have:=V.e;omega
 a:=V.a.sm
theorem Up.lt_pw {l:List Pt} (h:Up l):(l.map Pt.id).Pairwise (fun a b=>a<b):=by
 rw[List.pairwise_iff_getElem]
 intro i j hi hj hij
 rw[List.getElem_map,List.getElem_map]
 have hi':i<l.length:=by simpa using hi
 have hj':j<l.length:=by simpa using hj
 exact h.mono hij (List.getElem?_eq_getElem hi') (List.getElem?_eq_getElem hj')
theorem V9.due_up {c:Ck} (V:V9 c):Up c.d:=by
 have pw:(c.d.map Pt.id).Pairwise (fun a b=>a<b):=by
  rw[V.f.ids]
  exact V.v.up.lt_pw.sublist (List.Sublist.map _ List.filter_sublist)
 intro k p q hp hq
 rw[List.pairwise_iff_getElem] at pw
 have h1:=qaj hp
 have h2:=qaj hq
 obtain⟨_,e1⟩:=List.getElem?_eq_some_iff.1 hp
 obtain⟨_,e2⟩:=List.getElem?_eq_some_iff.1 hq
 have:=pw k (k+1) (by simpa using h1) (by simpa using h2) (by omega)
 rw[List.getElem_map,List.getElem_map,e1,e2] at this
 exact this
end Go.Proofs.YtkckcgpmnipnaaaGreat

namespace Go.Proofs.YtkckcgpmnipnaaaGreat
set_option maxRecDepth 100000
open Go.RowKit
end Go.Proofs.YtkckcgpmnipnaaaGreat

namespace Go.Proofs.YtkckcgpmnipnaaaGreat
set_option maxRecDepth 100000
open Go.RowKit
def qeE (c:Ck):Bool:=decide (40<c.l.length)||(decide (40<c.d.length)||(decide (¬ (c.s.length≤16∨64≤c.s.length∧c.s.length≤70))||qih c.u c.b c.fr c.ev c.wh))
theorem qlM (c:Ck):Fn 28 8 [qaz c] (qaC c) (.pv (.bool (qeE c))) 0 []:=by
 unfold qeE
 by_cases h1:40<c.l.length
 ·rw[dt h1]
  exact qG1 (g1:=dt (by omega))
 ·rw[df h1,Bool.false_or]
  by_cases h2:40<c.d.length
  ·rw[dt h2]
   exact qGw (g1:=df (by omega)) (g2:=dt (by omega))
  ·rw[df h2,Bool.false_or]
   rcases qhE c.s with ⟨h3,hG⟩ | ⟨h3,hG⟩
   ·rw[dt h3]
    exact qEV (g1:=df (by omega)) (g2:=df (by omega)) (hf:=hG)
   ·rw[df fun h=>h h3,Bool.false_or]
    have hA:=qlF (u:=c.u) (b:=c.b) (fr:=c.fr) (ev:=c.ev) (wh:=c.wh)
    cases e:qih c.u c.b c.fr c.ev c.wh
    ·rw[e] at hA
     exact qz4 (g1:=df (by omega)) (g2:=df (by omega)) (hf:=hG) (hg:=hA)
    ·rw[e] at hA
     exact qEI (g1:=df (by omega)) (g2:=df (by omega)) (hf:=hG) (hg:=hA)
theorem qmp {c:Ck} (h:qeE c=false) (h1:I64 c.tn) (h2:I64 c.td) (hi:∀ y∈c.ev,EvI y):S9 c∧c.l.length≤40∧c.d.length≤40∧c.s.length≤70:=by
 unfold qeE at h
 rw[Bool.or_eq_false_iff,Bool.or_eq_false_iff,Bool.or_eq_false_iff] at h
 obtain⟨a1,a2,a3,a4⟩:=h
 have b1:=of_decide_eq_false a1
 have b2:=of_decide_eq_false a2
 have b3:c.s.length≤16∨64≤c.s.length∧c.s.length≤70:=Classical.byContradiction fun h=>by
  rw[dt h] at a3
  cases a3
 unfold qih at a4
 rw[Bool.or_eq_false_iff,Bool.or_eq_false_iff] at a4
 obtain⟨g1,g2,g3⟩:=a4
 have g2:=of_decide_eq_false g2
 have g3:=of_decide_eq_false g3
 obtain⟨k1,k2,k3⟩:=qea g1
 exact⟨⟨h1,h2,by omega,by omega,⟨k1,k2,k3,by omega,by omega,hi⟩⟩,by omega,by omega,by omega⟩
end Go.Proofs.YtkckcgpmnipnaaaGreat

namespace Go.Proofs.YtkckcgpmnipnaaaGreat
set_option maxRecDepth 100000
open Go.RowKit
abbrev qGg (f:FuncId) (s:List Pt) (tn td:Int):Prop:=Fn f 1 [qas 0 s,.pv (qaa tn td)] [(0,0,qad s)] (.tu [.ag [.pv (iV tn),.pv (iV td),.ls 1 s.length,.pv (iV 0),.ls 7 0,.ls 2 (qca s tn td).u.length,.ls 3 (qca s tn td).b.length,.ls 4 (qca s tn td).fr.length,.ls 6 0,.ls 5 (qca s tn td).wh.length,.ls 8 0],.one (.pv (iV 0))]) 8 [(8,0,qaP []),(7,0,qam []),(1,0,qad s),(2,0,zrI (qca s tn td).u),(3,0,zrB (qca s tn td).b),(4,0,zrI (qca s tn td).fr),(5,0,zrI (qca s tn td).wh),(6,0,qar [])]
theorem qDb {c:Ck} {a b:Int} (h:cyE c a b=0):V9 c∧qbC a b=true∧(∃ q∈c.s,q.id=a)∧(∃ q∈c.s,q.id=b)∧adE c a b=0:=by
 unfold cyE at h
 split at h
 ·rename_i h1
  split at h
  ·rename_i h2
   exact⟨h1.1,h1.2,h2.1,h2.2,h⟩
  ·cases h
 ·cases h
theorem qwz {c o:Ck} {a b:Int} (h:qhy c a b o):o.tn=c.tn∧o.td=c.td∧o.s=c.s:=by
 rcases h with ⟨_,rfl⟩ | ⟨_,_,_,_,_,_,_,rfl⟩<;>exact⟨rfl,rfl,rfl⟩
end Go.Proofs.YtkckcgpmnipnaaaGreat
