/-
  Joined: Li, Lj, Lk, Ll. Conditions: none.
-/
import Derived.Test.YtkjaanhddkkodaaGreatW40
import Derived.Test.YtkjaanhddkkodaaGreatW18
namespace Go.Proofs.YtkjaanhddkkodaaGreat
set_option maxRecDepth 100000
open Go.RowKit
noncomputable abbrev qaQ (c:Ck) (p:Pt):Bool:=(qae c.s c.tn c.td p).2.2
theorem DueF.ids {c:Ck}:∀ {l d:List Pt},DueF c l d→d.map Pt.id=(l.filter (qaQ c)).map Pt.id
 | [],d,h=>by
  have e:d=[]:=h
  subst e;rfl
 | p::l,d,h=>by
  cases hf:qaQ c p
  ·have h':DueF c l d:=by
    have:(if (qae c.s c.tn c.td p).2.2=true then _ else _):=h
    rwa [if_neg (by rw[show (qae c.s c.tn c.td p).2.2=false from hf];decide)] at this
   rw[List.filter_cons_of_neg (by rw[hf];decide)]
   exact DueF.ids h'
  ·have h':∃ q r,d=q::r∧(∃ y,DueOk c p q y)∧DueF c l r:=by
    have:(if (qae c.s c.tn c.td p).2.2=true then _ else _):=h
    rwa [if_pos hf] at this
   obtain⟨q,r,rfl,⟨y,hy⟩,hr⟩:=h'
   rw[List.filter_cons_of_pos hf,List.map_cons,List.map_cons,DueF.ids hr,hy.id]
theorem DueF.some {c:Ck}:∀ {l d:List Pt},DueF c l d→∀ q∈d,∃ p∈l,qaQ c p=true∧∃ y,DueOk c p q y
 | [],d,h,q,hq=>by
  have e:d=[]:=h
  subst e;cases hq
 | p::l,d,h,q,hq=>by
  cases hf:qaQ c p
  ·have h':DueF c l d:=by
    have:(if (qae c.s c.tn c.td p).2.2=true then _ else _):=h
    rwa [if_neg (by rw[show (qae c.s c.tn c.td p).2.2=false from hf];decide)] at this
   obtain⟨p',hp',h2⟩:=DueF.some h' q hq
   exact⟨p',List.mem_cons_of_mem _ hp',h2⟩
  ·have h':∃ q r,d=q::r∧(∃ y,DueOk c p q y)∧DueF c l r:=by
    have:(if (qae c.s c.tn c.td p).2.2=true then _ else _):=h
    rwa [if_pos hf] at this
   obtain⟨q',r,rfl,hy,hr⟩:=h'
   rcases List.mem_cons.1 hq with rfl | hq
   ·exact⟨p,List.mem_cons_self,hf,hy⟩
   ·obtain⟨p',hp',h2⟩:=DueF.some hr q hq
    exact⟨p',List.mem_cons_of_mem _ hp',h2⟩
theorem DueF.all {c:Ck} {l:List Pt}:∀ {d:List Pt},DueF c l d→∀ p∈l,qaQ c p=true→∃ q∈d,∃ y,DueOk c p q y:=by
 induction l with
 | nil=>intro d _ p hp _;cases hp
 | cons p' l ih=>
  intro d h p hp hf
  cases hf':qaQ c p'
  ·have h':DueF c l d:=by
    have:(if (qae c.s c.tn c.td p').2.2=true then _ else _):=h
    rwa [if_neg (by rw[show (qae c.s c.tn c.td p').2.2=false from hf'];decide)] at this
   rcases List.mem_cons.1 hp with e | hp
   ·rw[e,hf'] at hf;cases hf
   ·exact ih h' p hp hf
  ·have h':∃ q r,d=q::r∧(∃ y,DueOk c p' q y)∧DueF c l r:=by
    have:(if (qae c.s c.tn c.td p').2.2=true then _ else _):=h
    rwa [if_pos hf'] at this
   obtain⟨q,r,hd,hy,hr⟩:=h'
   rw[hd]
   rcases List.mem_cons.1 hp with e | hp
   ·rw[e];exact⟨q,List.mem_cons_self,hy⟩
   ·obtain⟨q',hq',h2⟩:=ih hr p hp hf
    exact⟨q',List.mem_cons_of_mem _ hq',h2⟩
theorem Up.nodup {l:List Pt} (h:Up l):(l.map Pt.id).Nodup:=by
 have hlt:∀ (i j:Nat) (p q:Pt),i<j→l[i]?=some p→l[j]?=some q→p.id<q.id:=fun i j p q hij hp hq=>h.mono hij hp hq
 rw[List.nodup_iff_pairwise_ne,List.pairwise_iff_getElem]
 intro i j hi hj hij
 rw[List.getElem_map,List.getElem_map]
 have hi':i<l.length:=by simpa using hi
 have hj':j<l.length:=by simpa using hj
 have:=hlt i j _ _ hij (List.getElem?_eq_getElem hi') (List.getElem?_eq_getElem hj')
 omega
theorem V9.due_nodup {c:Ck} (h:V9 c):(c.d.map Pt.id).Nodup:=by
 rw[h.f.ids]
 exact h.v.up.nodup.sublist (List.Sublist.map _ List.filter_sublist)
theorem V9.ev {c:Ck} (h:V9 c) {j:Nat} {y:Ev} (hy:c.ev[j]?=some y):∃ p∈c.l,qaQ c p=true∧∃ q∈c.d,DueOk c p q y:=by
 let J:List Nat:=c.d.map fun q=>((c.wh[q.a.toNat]?).getD 0).toNat
 let g:Nat→Int:=fun j=>((c.ev[j]?).map Ev.k).getD 0
 have at_:∀ q∈c.d,∃ p∈c.l,qaQ c p=true∧∃ y,DueOk c p q y∧c.ev[((c.wh[q.a.toNat]?).getD 0).toNat]?=some y:=by
  intro q hq
  obtain⟨p,hp,hf,y,hd⟩:=h.f.some q hq
  obtain⟨w,h1,h2⟩:=hd.at_
  refine⟨p,hp,hf,y,hd,?_⟩
  rw[h1]
  exact h2
 have e1:J.map g=c.d.map Pt.id:=by
  rw[List.map_map]
  apply List.map_congr_left
  intro q hq
  obtain⟨p,_,_,y,hd,h2⟩:=at_ q hq
  show ((c.ev[((c.wh[q.a.toNat]?).getD 0).toNat]?).map Ev.k).getD 0=q.id
  rw[h2]
  exact hd.k.trans hd.id.symm
 have nd:J.Nodup:=by
  have:=h.due_nodup
  rw[← e1] at this
  exact List.Pairwise.of_map g (fun a b hne e=>hne (congrArg g e)) this
 have lt:∀ x∈J,x<c.ev.length:=by
  intro x hx
  obtain⟨q,hq,rfl⟩:=List.mem_map.1 hx
  obtain⟨_,_,_,y,_,h2⟩:=at_ q hq
  exact qaj h2
 have hj:j∈J:=qfS nd lt (by show (c.d.map _).length=_;rw[List.length_map,h.e]) (qaj hy)
 obtain⟨q,hq,ej⟩:=List.mem_map.1 hj
 obtain⟨p,hp,hf,y',hd,h2⟩:=at_ q hq
 rw[ej,hy] at h2
 have e2:y=y':=Option.some.inj h2
 subst e2
 exact⟨p,hp,hf,q,hq,hd⟩
theorem V9.ev_id {c:Ck} (h:V9 c) {y:Ev} (hy:y∈c.ev):∃ p∈c.l,y.k=p.id:=by
 obtain⟨j,hj⟩:=List.getElem?_of_mem hy
 obtain⟨p,hp,_,q,_,hd⟩:=h.ev hj
 exact⟨p,hp,hd.k⟩
theorem V9.new {c:Ck} (h:V9 c):cnE c.ev c.x=0:=by
 have:=h.v.nx
 unfold cnE
 rw[if_pos (by omega),if_neg]
 rintro⟨m,hm,e⟩
 obtain⟨p,hp,e2⟩:=h.ev_id hm
 have:=h.v.hi p hp
 omega
end Go.Proofs.YtkjaanhddkkodaaGreat

namespace Go.Proofs.YtkjaanhddkkodaaGreat
set_option maxRecDepth 100000
open Go.RowKit
theorem qoG {c:Ck} (S:S9 c) {n:Int} (h:∀ q∈c.d,q.id≠n):Fn 46 8 [qap c,.pv (iV n)] (qat c) (.pv (iV (-1))) 0 []:=
 qzZ (r0:=RunsL.rounds (fun k=>[(1,.pv (iV n)),(2,.pp 8 0),(5,.pv (iV (k:Int)))]) (fun _=>qbI 8 c) c.d.length 0 (Nat.zero_add _)
  (fun k _ hk r=>by
   have:=S.d
   obtain⟨p,hp⟩:=qah hk
   exact qjp hp (qao hk) (dt (by omega)) (by simpa using h p (List.mem_of_getElem? hp)) (qau (by omega)) r)
  (quZ (df (by omega))))
theorem qlW {c:Ck} (S:S9 c) {n:Int} {k:Nat} {q:Pt} (hk:c.d[k]?=some q) (he:q.id=n) (h:∀ (j:Nat) (p:Pt),j<k→c.d[j]?=some p→p.id≠n):Fn 46 8 [qap c,.pv (iV n)] (qat c) (.pv (iV (k:Int))) 0 []:=by
 have hl:=qaj hk
 have:=S.d
 refine qtJ (r0:=RunsL.rounds (fun k=>[(1,.pv (iV n)),(2,.pp 8 0),(5,.pv (iV (k:Int)))]) (fun _=>qbI 8 c) k 0 (Nat.zero_add _) (fun j _ hj r=>?_) (quy hk (qao hl) (dt (by omega)) (by simpa using he)))
 obtain⟨p,hp⟩:=qah (l:=c.d) (k:=j) (by omega)
 exact qjp hp (qao (qaj hp)) (dt (by omega)) (by simpa using h j p hj hp) (qau (by omega)) r
noncomputable def qfw (c:Ck) (tn td:Int):Int:=open Classical in if V9 c∧okB tn td=true then (if tn*c.td<c.tn*td then 44 else 0) else 8
theorem qbM {c:Ck} (h:V9 c):qne c=0:=by unfold qne;rw[if_pos h]
theorem qbP {c:Ck} (h:¬ V9 c):qne c=8:=by unfold qne;rw[if_neg h]
def ql3 (c:Ck) (tn td:Int):Bool:=match c.ev[0]? with
 | some y=>decide (y.n*td≤tn*y.d)
 | none=>false
abbrev qFO (c:Ck) (a b:Int):Ck:={ c with x:=c.x+1,l:=c.l++[⟨c.x,a,b⟩] }
abbrev qAY (c:Ck) (a b n d:Int) (u2:List Int) (b2:List Bool) (f2:List Int) (hi hw:Int):Ck:={ c with x:=c.x+1,l:=c.l++[⟨c.x,a,b⟩],u:=u2,b:=b2,fr:=f2,ev:=(qa6 c.ev c.wh ⟨n,d,c.x,hi,hw⟩).1,wh:=(qa6 c.ev c.wh ⟨n,d,c.x,hi,hw⟩).2,d:=c.d++[⟨c.x,hi,hw⟩] }
def qhI (c:Ck) (a b:Int) (o:Ck):Prop:=(qaQ c ⟨c.x,a,b⟩=false∧o=qFO c a b)∨(qaQ c ⟨c.x,a,b⟩=true∧∃ u2 b2 f2 hi hw,qbB c.u c.b c.fr=some (u2,b2,f2,hi,hw)∧o=qAY c a b (qae c.s c.tn c.td ⟨c.x,a,b⟩).1 (qae c.s c.tn c.td ⟨c.x,a,b⟩).2.1 u2 b2 f2 hi hw)
noncomputable def adE (c:Ck) (a b:Int):Int:=open Classical in if qfy c.l a b=true then 14 else if c.l.length=200∨c.x=1000000 then 18 else if qaQ c ⟨c.x,a,b⟩=true∧qbB c.u c.b c.fr=none then 18 else 0
noncomputable def cyE (c:Ck) (a b:Int):Int:=open Classical in if V9 c∧qce a b=true then (if (∃ q∈c.s,q.id=a)∧(∃ q∈c.s,q.id=b) then adE c a b else 6) else 8
abbrev qAO (f:FuncId) (c:Ck) (a b e:Int):Prop:=Fn f 8 [qap c,.pv (qag a b)] (qat c) (.pv (.tuple #[qcA,iV 0,iV e])) 0 []
abbrev qE5 (f:FuncId) (c:Ck) (a b:Int) (o:Ck):Prop:=Fn f 8 [qap c,.pv (qag a b)] (qat c) (.tu [qhC o,.one (.pv (iV c.x)),.one (.pv (iV 0))]) 8 (qdu o)
theorem qDh {c:Ck} {a b:Int} (h:adE c a b=0):∃ o,qhI c a b o:=by
 cases hf:qaQ c ⟨c.x,a,b⟩
 ·exact⟨_,Or.inl ⟨hf,rfl⟩⟩
 ·cases ht:qbB c.u c.b c.fr with
  | none=>
   exfalso
   unfold adE at h
   rw[if_pos (show qaQ c ⟨c.x,a,b⟩=true∧qbB c.u c.b c.fr=none from ⟨hf,ht⟩)] at h
   split at h
   ·cases h
   ·split at h<;>cases h
  | some z=>
   obtain⟨u2,b2,f2,hi,hw⟩:=z
   exact⟨_,Or.inr ⟨hf,u2,b2,f2,hi,hw,ht,rfl⟩⟩
end Go.Proofs.YtkjaanhddkkodaaGreat

namespace Go.Proofs.YtkjaanhddkkodaaGreat
set_option maxRecDepth 100000
open Go.RowKit
abbrev qaC (l:List Pt) (n:Int):List Pt:=l.filter fun p=>decide (p.id≠n)
abbrev qFb (c:Ck) (n:Int) (k j:Nat) (y:Ev):Ck:={ c with l:=qaC c.l n,b:=c.b.set y.i.toNat false,fr:=c.fr++[y.i],ev:=(qan c.ev c.wh j y).1,wh:=(qan c.ev c.wh j y).2,d:=c.d.take k++c.d.drop (k+1) }
def qeQ (c:Ck) (n:Int) (o:Ck):Prop:=((∀ q∈c.d,q.id≠n)∧o={ c with l:=qaC c.l n })∨
 ∃ (k:Nat) (q:Pt) (j:Nat) (y:Ev),c.d[k]?=some q∧q.id=n∧(∀ (i:Nat) (p:Pt),i<k→c.d[i]?=some p→p.id≠n)∧c.ev[j]?=some y∧y.i=q.a∧y.w=q.b∧o=qFb c n k j y
theorem qnS {c:Ck} (V:V9 c) (n:Int):∃ o,qeQ c n o:=by
 rcases qaV (fun k=>∀ q,c.d[k]?=some q→q.id≠n) c.d.length with h | ⟨k,hk,hb,hf⟩
 ·refine⟨_,Or.inl ⟨fun q hq=>?_,rfl⟩⟩
  obtain⟨k,hk⟩:=List.getElem?_of_mem hq
  exact h k (qaj hk) q hk
 ·simp only[Classical.not_forall,Classical.not_not] at hb
  obtain⟨q,hq,he⟩:=hb
  obtain⟨p,_,_,y0,hd⟩:=V.f.some q (List.mem_of_getElem? hq)
  obtain⟨j,y,h1,h2,h3,h4⟩:=VA.find V.a hd.lv
  exact⟨_,Or.inr ⟨k,q,j,y,hq,he,fun i p hi hp=>hf i hi p hp,h2,h3,h4,rfl⟩⟩
abbrev qvS (f:FuncId) (c:Ck) (n e:Int):Prop:=Fn f 8 [qap c,.pv (iV n)] (qat c) (.pv (.tuple #[qcA,iV e])) 0 []
abbrev qBS (f:FuncId) (c:Ck) (n:Int) (o:Ck):Prop:=Fn f 8 [qap c,.pv (iV n)] (qat c) (.tu [qhC o,.one (.pv (iV 0))]) 8 (qdu o)
noncomputable def reE (c:Ck) (n:Int):Int:=open Classical in if V9 c then (if ∃ p∈c.l,p.id=n then 0 else 6) else 8
def qeF (c:Ck) (y:Ev) (p:Pt) (o:Ck):Prop:=c.ev[0]?=some y∧p∈c.l∧p.id=y.k∧∃ g,qeQ c y.k g∧o={ g with tn:=y.n,td:=y.d }
abbrev qx7 (f:FuncId) (c:Ck) (tn td e:Int):Prop:=Fn f 8 [qap c,.pv (qaa tn td)] (qat c) (.pv (.tuple #[qcA,evZ,qag 0 0,iV e])) 0 []
abbrev qE7 (f:FuncId) (c:Ck) (tn td:Int) (y:Ev) (p:Pt) (o:Ck):Prop:=Fn f 8 [qap c,.pv (qaa tn td)] (qat c) (.tu [qhC o,.one (.pv (qab y)),.one (.pv (qag p.a p.b)),.one (.pv (iV 0))]) 8 (qdu o)
noncomputable def faE (c:Ck) (tn td:Int):Int:=if qfw c tn td=0 then (if ql3 c tn td=true then 0 else 6) else qfw c tn td
theorem qse {c:Ck} {tn td:Int} (h:qfw c tn td=0):V9 c∧okB tn td=true∧c.tn*td≤tn*c.td:=by
 unfold qfw at h
 split at h
 ·rename_i h1
  split at h
  ·cases h
  ·exact⟨h1.1,h1.2,by omega⟩
 ·cases h
abbrev qxe (f:FuncId) (c:Ck) (tn td e:Int):Prop:=Fn f 8 [qap c,.pv (qaa tn td)] (qat c) (.pv (.tuple #[qcA,iV e])) 0 []
abbrev qFo (f:FuncId) (c:Ck) (tn td:Int):Prop:=Fn f 8 [qap c,.pv (qaa tn td)] (qat c) (.tu [qhC { c with tn:=tn,td:=td },.one (.pv (iV 0))]) 8 (qdu { c with tn:=tn,td:=td })
noncomputable def moE (c:Ck) (tn td:Int):Int:=if qfw c tn td=0 then (if ql3 c tn td=true then 36 else 0) else qfw c tn td
abbrev qdS (s:List Pt) (tn td:Int):Ck:=⟨tn,td,s,0,[],List.replicate 200 0,List.replicate 200 false,qd7 200,[],List.replicate 200 (-1),[]⟩
abbrev qzc (f:FuncId) (s:List Pt) (tn td e:Int):Prop:=Fn f 1 [qaB 0 s,.pv (qaa tn td)] [(0,0,qal s)] (.pv (.tuple #[qcA,iV e])) 0 []
end Go.Proofs.YtkjaanhddkkodaaGreat

namespace Go.Proofs.YtkjaanhddkkodaaGreat
set_option maxRecDepth 100000
open Go.RowKit
abbrev alZ:List (Nat×Nat×SV):=[(11,0,.pv (iV 0)),(11,1,.pv (iV 0)),(11,2,.pv (.slice none 0 0)),(11,3,.pv (iV 0)),(11,4,.pv (.slice none 0 0)),(11,5,.pv (.slice none 0 0)),(11,6,.pv (.slice none 0 0)),(11,7,.pv (.slice none 0 0)),(11,8,.pv (.slice none 0 0)),(11,9,.pv (.slice none 0 0)),(11,10,.pv (.slice none 0 0))]
inductive AlStep (c:Ck) (s:List Pt) (p:Pt) (o:Ck):Ck→Prop where
 | key {j k:Nat} {q:Pt} {y:Ev} (f:(qae s c.tn c.td p).2.2=true) (hq:c.d[j]?=some q) (he:q.id=p.id) (hf:∀ (i:Nat) (p':Pt),i<j→c.d[i]?=some p'→p'.id≠p.id) (hy:o.ev[k]?=some y) (e1:y.i=q.a) (e2:y.w=q.b) :
  AlStep c s p o { o with ev:=(qaY o.ev o.wh k y (qae s c.tn c.td p).1 (qae s c.tn c.td p).2.1).1,wh:=(qaY o.ev o.wh k y (qae s c.tn c.td p).1 (qae s c.tn c.td p).2.1).2,d:=o.d++[q] }
 | push {u2 f2:List Int} {b2:List Bool} {hi hw:Int} (f:(qae s c.tn c.td p).2.2=true) (hn:∀ q∈c.d,q.id≠p.id) (ht:qbB o.u o.b o.fr=some (u2,b2,f2,hi,hw)) :
  AlStep c s p o { o with u:=u2,b:=b2,fr:=f2,ev:=(qa6 o.ev o.wh ⟨(qae s c.tn c.td p).1,(qae s c.tn c.td p).2.1,p.id,hi,hw⟩).1,wh:=(qa6 o.ev o.wh ⟨(qae s c.tn c.td p).1,(qae s c.tn c.td p).2.1,p.id,hi,hw⟩).2,d:=o.d++[⟨p.id,hi,hw⟩] }
 | gone {j k:Nat} {q:Pt} {y:Ev} (f:(qae s c.tn c.td p).2.2=false) (hq:c.d[j]?=some q) (he:q.id=p.id) (hf:∀ (i:Nat) (p':Pt),i<j→c.d[i]?=some p'→p'.id≠p.id) (hy:o.ev[k]?=some y) (e1:y.i=q.a) (e2:y.w=q.b) :
  AlStep c s p o { o with b:=o.b.set y.i.toNat false,fr:=o.fr++[y.i],ev:=(qan o.ev o.wh k y).1,wh:=(qan o.ev o.wh k y).2 }
 | skip (f:(qae s c.tn c.td p).2.2=false) (hn:∀ q∈c.d,q.id≠p.id):AlStep c s p o o
def qsj (c:Ck) (s:List Pt) (p:Pt) (o:Ck):Prop:=(qae s c.tn c.td p).2.2=true∧(∀ q∈c.d,q.id≠p.id)∧qbB o.u o.b o.fr=none
inductive AlRun (c:Ck) (s:List Pt):List Pt→Ck→Option Ck→Prop where
 | nil (o:Ck):AlRun c s [] o (some o)
 | step {p:Pt} {l:List Pt} {o o2:Ck} {r:Option Ck}:AlStep c s p o o2→AlRun c s l o2 r→AlRun c s (p::l) o r
 | full {p:Pt} {l:List Pt} {o:Ck}:qsj c s p o→AlRun c s (p::l) o none
structure AlInv (c:Ck) (l:List Pt) (o:Ck):Prop where
 a:VA o.u o.b o.fr o.ev o.wh
 lv:∀ p∈l,∀ q∈c.d,q.id=p.id→Live o.u o.b q.a q.b
 nw:∀ y∈o.ev,∀ p∈l,(∀ q∈c.d,q.id≠p.id)→y.k≠p.id
 sz:o.d.length+l.length≤1000
 w:o.wh.length=200
structure AlPre (c:Ck) (s:List Pt):Prop where
 S:S9 c
 V:V9 c
 sv:Val s
 kn:qcL c.l s
theorem qsW {c:Ck} (V:V9 c) {q q':Pt} (hq:q∈c.d) (hq':q'∈c.d) (h:q.id≠q'.id):q.a≠q'.a:=by
 intro e
 obtain⟨p,_,_,y,d1⟩:=V.f.some q hq
 obtain⟨p',_,_,y',d2⟩:=V.f.some q' hq'
 obtain⟨w,w1,w2⟩:=d1.at_
 obtain⟨w',w1',w2'⟩:=d2.at_
 rw[e,w1'] at w1
 have e2:(w':Int)=(w:Int):=Option.some.inj w1
 have e3:w'=w:=by omega
 subst e3
 rw[w2] at w2'
 have e4:y=y':=Option.some.inj w2'
 subst e4
 exact h (d1.id.trans (d1.k.symm.trans (d2.k.trans d2.id.symm)))
theorem qlh {c:Ck} (V:V9 c) {i j:Nat} {q q':Pt} (hq:c.d[i]?=some q) (hq':c.d[j]?=some q') (h:q.id=q'.id):i=j:=by
 have nd:=V.due_nodup
 rw[List.nodup_iff_pairwise_ne,List.pairwise_iff_getElem] at nd
 have hi:=qaj hq
 have hj:=qaj hq'
 obtain⟨_,e1⟩:=List.getElem?_eq_some_iff.1 hq
 obtain⟨_,e2⟩:=List.getElem?_eq_some_iff.1 hq'
 rcases Nat.lt_trichotomy i j with hij | hij | hij
 ·have:=nd i j (by simpa using hi) (by simpa using hj) hij
  rw[List.getElem_map,List.getElem_map,e1,e2] at this
  exact (this h).elim
 ·exact hij
 ·have:=nd j i (by simpa using hj) (by simpa using hi) hij
  rw[List.getElem_map,List.getElem_map,e1,e2] at this
  exact (this h.symm).elim
theorem qyP (c:Ck) (n:Int):(∀ q∈c.d,q.id≠n)∨∃ (j:Nat) (q:Pt),c.d[j]?=some q∧q.id=n∧∀ (i:Nat) (p:Pt),i<j→c.d[i]?=some p→p.id≠n:=by
 rcases qaV (fun k=>∀ q,c.d[k]?=some q→q.id≠n) c.d.length with h | ⟨k,hk,hb,hf⟩
 ·refine Or.inl fun q hq=>?_
  obtain⟨k,hk⟩:=List.getElem?_of_mem hq
  exact h k (qaj hk) q hk
 ·simp only[Classical.not_forall,Classical.not_not] at hb
  obtain⟨q,hq,he⟩:=hb
  exact Or.inr ⟨k,q,hq,he,fun i p hi hp=>hf i hi p hp⟩
theorem AlPre.fail {c:Ck} {s:List Pt} (P:AlPre c s) {p:Pt} (hp:p∈c.l):FailT s c.tn c.td p:=qbv P.S.tn P.S.td P.V.t P.sv (P.V.v.ok p hp) (P.kn p hp).1 (P.kn p hp).2
theorem AlStep.inv {c:Ck} {s:List Pt} (P:AlPre c s) {p:Pt} {l:List Pt} {o o2:Ck} (hp:p∈c.l) (hu:∀ p'∈l,p'.id≠p.id) (I:AlInv c (p::l) o) (h:AlStep c s p o o2):AlInv c l o2:=by
 have F:=P.fail hp
 have sz:=I.sz
 rw[List.length_cons] at sz
 have wl:=I.w
 have l0:=I.a.lens
 cases h with
 | @key j k q y f hq he hf hy e1 e2=>
  obtain⟨k1,k2,k3,_⟩:=F.i.ok f
  obtain⟨A,pm⟩:=VA.rekey ⟨k2,k3⟩ k1 I.a hy
  have l1:=A.lens
  refine⟨A,fun p' hp'=>I.lv p' (List.mem_cons_of_mem _ hp'),fun y2 hy2 p' hp' hn=>?_,by simp;omega,by show (qaY _ _ _ _ _ _).2.length=200;omega⟩
  rcases List.mem_or_eq_of_mem_set (pm.mem_iff.1 hy2) with h | h
  ·exact I.nw y2 h p' (List.mem_cons_of_mem _ hp') hn
  ·rw[h]
   exact I.nw y (List.mem_of_getElem? hy) p' (List.mem_cons_of_mem _ hp') hn
 | @push u2 f2 b2 hi hw f hn ht=>
  obtain⟨k1,k2,k3,_⟩:=F.i.ok f
  have hz:cnE o.ev p.id=0:=by
   have h1:=P.V.v.lo p hp
   have h2:=P.V.v.hi p hp
   have h3:=P.V.v.nx
   unfold cnE
   rw[if_pos (by omega),if_neg]
   rintro⟨m,hm,e⟩
   exact I.nw m hm p List.mem_cons_self hn e
  obtain⟨A,pm,_,lvp⟩:=VA.push ⟨k2,k3⟩ k1 I.a hz ht
  have l1:=A.lens
  obtain⟨_,_,_,_,eu,_,_,_⟩:=qbk ht
  have lu:u2.length=o.u.length:=by rw[eu,List.length_set]
  refine⟨A,fun p' hp' q' hq' he'=>lvp _ _ (I.lv p' (List.mem_cons_of_mem _ hp') q' hq' he'),fun y2 hy2 p' hp' hn'=>?_,by simp;omega,by show (qa6 _ _ _).2.length=200;omega⟩
  rcases List.mem_append.1 (pm.mem_iff.1 hy2) with h | h
  ·exact I.nw y2 h p' (List.mem_cons_of_mem _ hp') hn'
  ·rw[List.mem_singleton.1 h]
   exact fun e=>hu p' hp' e.symm
 | @gone j k q y f hq he hf hy e1 e2=>
  obtain⟨A,pm,lvw⟩:=VA.without I.a hy
  have l1:=A.lens
  refine⟨A,fun p' hp' q' hq' he'=>(lvw _ _).2 ⟨I.lv p' (List.mem_cons_of_mem _ hp') q' hq' he',?_⟩,fun y2 hy2 p' hp' hn'=>I.nw y2 (pm.mem_iff.1 (List.mem_append_left _ hy2)) p' (List.mem_cons_of_mem _ hp') hn',by show o.d.length+l.length≤1000;omega,by show (qan _ _ _ _).2.length=200;omega⟩
  rw[e1]
  exact qsW P.V hq' (List.mem_of_getElem? hq) (by have:=hu p' hp';omega)
 | skip f hn=>exact⟨I.a,fun p' hp'=>I.lv p' (List.mem_cons_of_mem _ hp'),fun y hy p' hp'=>I.nw y hy p' (List.mem_cons_of_mem _ hp'),by omega,I.w⟩
theorem qkS {c:Ck} {s:List Pt} {p:Pt} {l:List Pt} {o:Ck} (I:AlInv c (p::l) o):qsj c s p o∨∃ o2,AlStep c s p o o2:=by
 rcases qyP c p.id with hn | ⟨j,q,hq,he,hf⟩
 ·cases f:(qae s c.tn c.td p).2.2
  ·exact Or.inr ⟨_,.skip f hn⟩
  ·cases ht:qbB o.u o.b o.fr with
   | none=>exact Or.inl ⟨f,hn,ht⟩
   | some z=>
    obtain⟨u2,b2,f2,hi,hw⟩:=z
    exact Or.inr ⟨_,.push f hn ht⟩
 ·obtain⟨k,y,_,h2,h3,h4⟩:=VA.find I.a (I.lv p List.mem_cons_self q (List.mem_of_getElem? hq) he)
  cases f:(qae s c.tn c.td p).2.2
  ·exact Or.inr ⟨_,.gone f hq he hf h2 h3 h4⟩
  ·exact Or.inr ⟨_,.key f hq he hf h2 h3 h4⟩
theorem qeS {c:Ck} {s:List Pt} (P:AlPre c s):∀ (l:List Pt) (o:Ck),(∀ p∈l,p∈c.l)→(l.map Pt.id).Nodup→AlInv c l o→∃ r,AlRun c s l o r
 | [],o,_,_,_=>⟨_,.nil o⟩
 | p::l,o,hl,nd,I=>by
  rw[List.map_cons,List.nodup_cons] at nd
  rcases qkS (s:=s) I with h | ⟨o2,h⟩
  ·exact⟨_,.full h⟩
  ·have hu:∀ p'∈l,p'.id≠p.id:=fun p' hp' e=>nd.1 (List.mem_map.2 ⟨p',hp',e⟩)
   obtain⟨r,hr⟩:=qeS P l o2 (fun p' hp'=>hl p' (List.mem_cons_of_mem _ hp')) nd.2 (h.inv P (hl p List.mem_cons_self) hu I)
   exact⟨r,.step h hr⟩
abbrev qpL (f:FuncId) (c:Ck) (s:List Pt) (e:Int):Prop:=Fn f 9 [qap c,qaB 8 s] (qat c++[(8,0,qal s)]) (.pv (.tuple #[qcA,iV e])) 0 []
abbrev qF4 (c:Ck) (s:List Pt) (o:Ck):S1:=.ag [.pv (iV c.tn),.pv (iV c.td),.ls 9 s.length,.pv (iV c.x),.ls 10 c.l.length,.ls 11 o.u.length,.ls 12 o.b.length,.ls 13 o.fr.length,.ls 14 o.ev.length,.ls 15 o.wh.length,.ls 16 o.d.length]
abbrev qFW (c:Ck) (s:List Pt) (o:Ck):List (Nat×Nat×SV):=[(9,0,qal s),(10,0,qam c.l),(11,0,zrI o.u),(12,0,zrB o.b),(13,0,zrI o.fr),(14,0,qas o.ev),(15,0,zrI o.wh),(16,0,qaS o.d)]
abbrev qFm (f:FuncId) (c:Ck) (s:List Pt) (o:Ck):Prop:=Fn f 9 [qap c,qaB 8 s] (qat c++[(8,0,qal s)]) (.tu [qF4 c s o,.one (.pv (iV 0))]) 8 (qFW c s o)
theorem qeE {c:Ck} {s:List Pt} (P:AlPre c s):AlInv c c.l { c with d:=[] } where
 a:=P.V.a
 lv:=fun p _ q hq _=>by
  obtain⟨_,_,_,y,hd⟩:=P.V.f.some q hq
  exact hd.lv
 nw:=fun y hy p hp hn e=>by
  obtain⟨j,hj⟩:=List.getElem?_of_mem hy
  obtain⟨p',hp',_,q,hq,hd⟩:=P.V.ev hj
  exact hn q hq (hd.id.trans (hd.k.symm.trans e))
 sz:=by have:=P.S.l;simp;omega
 w:=P.V.w
noncomputable def qgc (c:Ck) (s:List Pt):Int:=open Classical in if V9 c then (if qfq s=0 then (if qcL c.l s then 0 else 6) else qfq s) else 8
end Go.Proofs.YtkjaanhddkkodaaGreat
