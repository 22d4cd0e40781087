/-
  Joined: Lj, Lk, Ln, Ll. Conditions: none.
-/
import Derived.Test.YtkjaanhddkkodaaGreatW41
import Derived.Test.YtkjaanhddkkodaaGreatW18
namespace Go.Proofs.YtkjaanhddkkodaaGreat
set_option maxRecDepth 100000
open Go.RowKit
theorem qho {u fr wh:List Int} {b:List Bool} {ev:List Ev} (s:ASm u b fr ev wh):qb8 u b fr=false:=by
 have h1:=s.lu
 have h2:=s.lb
 have h3:=s.lf
 unfold qb8
 rw[df (by omega),df (by omega),df (by omega)]
 rfl
theorem qmQ {c:Ck} (S:S9 c) (hs:c.s.length≤1000000):Fn 14 8 [qap c] (qas c) (qfG c) 8 (qbT c):=by
 have h1:=S.l
 have h2:=S.d
 have h3:=S.a.le
 have h4:=S.a.lw
 exact qqa (hf:=qjT hs) (hs:=qhA c.x (by omega)) (ha:=qGB (h6:=qdM (qho S.a)) (ne:=by omega) (nw:=by omega)) (hn:=by omega)
theorem qku {c:Ck} (S:S9 c) (hs:c.s.length≤1000000):Fn 23 16 [qap c,qfG c] (qas c++qbT c) (.pv (.bool true)) 0 []:=by
 have h1:=S.l
 have h2:=S.d
 have h3:=S.a.le
 have h4:=S.a.lw
 exact quG (hf:=qwD hs) (hs:=qqO c.x (by omega)) (ha:=qri (qho S.a) (by omega) (by omega))
  (r0:=RunsL.rounds (fun k=>[(2,.pp 16 0),(3,.pp 17 0),(5,.pv (iV (k:Int)))]) (fun _=>[(16,10,.ls 7 c.d.length),(17,10,.ls 15 c.d.length),(7,0,qaX c.d),(15,0,qaX c.d)]) c.d.length 0 (Nat.zero_add _)
   (fun k _ hk r=>by
    obtain⟨p,hp⟩:=qak hk
    exact qro hp (qaq hk) (dt (by omega)) (qav (by omega)) r)
   (qul (df (by omega))))
theorem qo7 {c:Ck} (S:S9 c) {n:Int} (h:∀ q∈c.d,q.id≠n):Fn 46 8 [qap c,.pv (iV n)] (qas c) (.pv (iV (-1))) 0 []:=
 qAp (r0:=RunsL.rounds (fun k=>[(1,.pv (iV n)),(2,.pp 8 0),(5,.pv (iV (k:Int)))]) (fun _=>qca 8 c) c.d.length 0 (Nat.zero_add _)
  (fun k _ hk r=>by
   have:=S.d
   obtain⟨p,hp⟩:=qak hk
   exact qkO hp (qaq hk) (dt (by omega)) (by simpa using h p (List.mem_of_getElem? hp)) (qav (by omega)) r)
  (qve (df (by omega))))
theorem qmm {c:Ck} (S:S9 c) {n:Int} {k:Nat} {q:Pt} (hk:c.d[k]?=some q) (he:q.id=n) (h:∀ (j:Nat) (p:Pt),j<k→c.d[j]?=some p→p.id≠n):Fn 46 8 [qap c,.pv (iV n)] (qas c) (.pv (iV (k:Int))) 0 []:=by
 have hl:=qam hk
 have:=S.d
 refine qxC (r0:=RunsL.rounds (fun k=>[(1,.pv (iV n)),(2,.pp 8 0),(5,.pv (iV (k:Int)))]) (fun _=>qca 8 c) k 0 (Nat.zero_add _) (fun j _ hj r=>?_) (qwh hk (qaq hl) (dt (by omega)) (by simpa using he)))
 obtain⟨p,hp⟩:=qak (l:=c.d) (k:=j) (by omega)
 exact qkO hp (qaq (qam hp)) (dt (by omega)) (by simpa using h j p hj hp) (qav (by omega)) r
noncomputable def qiz (c:Ck) (tn td:Int):Int:=open Classical in if V9 c∧okB tn td=true then (if tn*c.td<c.tn*td then 44 else 0) else 8
theorem qbP {c:Ck} (h:V9 c):qn7 c=0:=by unfold qn7;rw[if_pos h]
theorem qbv {c:Ck} (h:¬ V9 c):qn7 c=8:=by unfold qn7;rw[if_neg h]
def qxc (c:Ck) (tn td:Int):Bool:=match c.ev[0]? with
 | some y=>decide (y.n*td≤tn*y.d)
 | none=>false
theorem qol {c:Ck} (S:S9 c) (h:¬ V9 c):Fn 30 8 [qap c] (qas c) (.pv (.tuple #[evZ,iV 8])) 0 []:=by
 have hc:=qc1 S
 rw[qbv h] at hc
 exact qtF (hc:=hc)
theorem qk5 {c:Ck} (S:S9 c) (h:V9 c) (he:c.ev=[]):Fn 30 8 [qap c] (qas c) (.pv (.tuple #[evZ,iV 42])) 0 []:=by
 have hc:=qc1 S
 rw[qbP h] at hc
 exact qqY (hc:=hc) (h0:=by rw[he];rfl)
theorem ql8 {c:Ck} (S:S9 c) (h:V9 c) {y:Ev} (hy:c.ev[0]?=some y):Fn 30 8 [qap c] (qas c) (.pv (.tuple #[qac y,iV 0])) 0 []:=by
 have hc:=qc1 S
 rw[qbP h] at hc
 have hl:=qam hy
 exact qz4 (hc:=hc) (h0:=beq_false_of_ne (by omega)) (hy:=hy) (hin:=qaq hl)
abbrev qHk (c:Ck) (a b:Int):Ck:={ c with x:=c.x+1,l:=c.l++[⟨c.x,a,b⟩] }
abbrev qvu (c:Ck) (a b n d:Int) (u2:List Int) (b2:List Bool) (f2:List Int) (hi hw:Int):Ck:={ c with x:=c.x+1,l:=c.l++[⟨c.x,a,b⟩],u:=u2,b:=b2,fr:=f2,ev:=(qa3 c.ev c.wh ⟨n,d,c.x,hi,hw⟩).1,wh:=(qa3 c.ev c.wh ⟨n,d,c.x,hi,hw⟩).2,d:=c.d++[⟨c.x,hi,hw⟩] }
def qiS (c:Ck) (a b:Int) (o:Ck):Prop:=(qa9 c ⟨c.x,a,b⟩=false∧o=qHk c a b)∨(qa9 c ⟨c.x,a,b⟩=true∧∃ u2 b2 f2 hi hw,qbC c.u c.b c.fr=some (u2,b2,f2,hi,hw)∧o=qvu c a b (qai c.s c.tn c.td ⟨c.x,a,b⟩).1 (qai c.s c.tn c.td ⟨c.x,a,b⟩).2.1 u2 b2 f2 hi hw)
noncomputable def adE (c:Ck) (a b:Int):Int:=open Classical in if qgk c.l a b=true then 14 else if c.l.length=200∨c.x=1000000 then 18 else if qa9 c ⟨c.x,a,b⟩=true∧qbC c.u c.b c.fr=none then 18 else 0
noncomputable def cyE (c:Ck) (a b:Int):Int:=open Classical in if V9 c∧qcs a b=true then (if (∃ q∈c.s,q.id=a)∧(∃ q∈c.s,q.id=b) then adE c a b else 6) else 8
abbrev qkT (f:FuncId) (c:Ck) (a b e:Int):Prop:=Fn f 8 [qap c,.pv (qag a b)] (qas c) (.pv (.tuple #[qbz,iV 0,iV e])) 0 []
abbrev qx3 (f:FuncId) (c:Ck) (a b:Int) (o:Ck):Prop:=Fn f 8 [qap c,.pv (qag a b)] (qas c) (.tu [qeY o,.one (.pv (iV c.x)),.one (.pv (iV 0))]) 8 (qbT o)
theorem qE1 {c:Ck} {a b:Int} (h:adE c a b=0):∃ o,qiS c a b o:=by
 cases hf:qa9 c ⟨c.x,a,b⟩
 ·exact⟨_,Or.inl ⟨hf,rfl⟩⟩
 ·cases ht:qbC c.u c.b c.fr with
  | none=>
   exfalso
   unfold adE at h
   rw[if_pos (show qa9 c ⟨c.x,a,b⟩=true∧qbC c.u c.b c.fr=none from ⟨hf,ht⟩)] at h
   split at h
   ·cases h
   ·split at h<;>cases h
  | some z=>
   obtain⟨u2,b2,f2,hi,hw⟩:=z
   exact⟨_,Or.inr ⟨hf,u2,b2,f2,hi,hw,ht,rfl⟩⟩
theorem qlE {c:Ck} (S:S9 c) (V:V9 c) {a b:Int} (hc:qcs a b=true) (ha:∃ q∈c.s,q.id=a) (hb:∃ q∈c.s,q.id=b) :
 (adE c a b≠0→qkT 73 c a b (adE c a b))∧(adE c a b=0→∀ o,qiS c a b o→qx3 73 c a b o):=by
 have hl:=V.v.len
 have hsl:=V.s.len
 have W:=qtg (c:=⟨c.x,a,b⟩) S.tn S.td V.t V.s hc ha hb
 have FT:=qbX (c:=⟨c.x,a,b⟩) S.tn S.td V.t V.s hc ha hb
 have TW:=qmQ S (by omega)
 rcases qgs c.x (l:=c.l) (by omega) a b with ⟨e,_,h,h1 | h1 | h1⟩ | ⟨_,_,hh,hn,hx,_,h⟩
 ·rcases h1.2 with h2 | h2
  ·exact (h2 V.v).elim
  ·exact (h2 hc).elim
 ·have e1:adE c a b=14:=by unfold adE;rw[if_pos h1.2.2.2]
  rw[e1]
  rw[h1.1] at h
  exact⟨fun _=>qmz (ha:=h) (he:=by decide),fun h=>by cases h⟩
 ·have e1:adE c a b=18:=by unfold adE;rw[if_neg (by rw[h1.2.2.2.1];decide),if_pos h1.2.2.2.2]
  rw[e1]
  rw[h1.1] at h
  exact⟨fun _=>qmz (ha:=h) (he:=by decide),fun h=>by cases h⟩
 ·have e1:adE c a b=if qa9 c ⟨c.x,a,b⟩=true∧qbC c.u c.b c.fr=none then 18 else 0:=by
   unfold adE
   rw[if_neg (by rw[hh];decide),if_neg (by omega)]
  cases hf:qa9 c ⟨c.x,a,b⟩
  ·have hf':(qai c.s c.tn c.td ⟨c.x,a,b⟩).2.2=false:=hf
   rw[hf'] at W
   rw[hf,if_neg (by simp)] at e1
   rw[e1]
   refine⟨fun h=>(h rfl).elim,fun _ o ho=>?_⟩
   rcases ho with ⟨_,rfl⟩ | ⟨h2,_⟩
   ·exact qzs (ha:=h) (htw:=TW) (hwn:=W)
   ·rw[hf] at h2;cases h2
  ·have hf':(qai c.s c.tn c.td ⟨c.x,a,b⟩).2.2=true:=hf
   rw[hf'] at W
   obtain⟨k1,k2,k3,_⟩:=FT.i.ok hf'
   cases ht:qbC c.u c.b c.fr with
   | none=>
    rw[if_pos ⟨hf,ht⟩] at e1
    rw[e1]
    exact⟨fun _=>qpJ (ha:=h) (htw:=TW) (hwn:=W) (ho:=qlq V.a.vd ht),fun h=>by cases h⟩
   | some z=>
    rw[if_neg (by rw[ht];simp)] at e1
    rw[e1]
    refine⟨fun h=>(h rfl).elim,fun _ o ho=>?_⟩
    rcases ho with ⟨h2,_⟩ | ⟨_,u2,b2,f2,hi,hw,h2,rfl⟩
    ·rw[hf] at h2;cases h2
    ·have hd:=S.d
     have hnx:=V.v.nx
     have P:=qiF (z:=c.x) ⟨k2,k3⟩ k1 V.a hnx h2
     exact qvz (o:=qvu c a b (qai c.s c.tn c.td ⟨c.x,a,b⟩).1 (qai c.s c.tn c.td ⟨c.x,a,b⟩).2.1 u2 b2 f2 hi hw) (ha:=h) (htw:=TW) (hwn:=W) (ho:=qkZ V.a.vd h2) (hp:=P) (hd:=by omega)
theorem qez {c:Ck} (S:S9 c) (a b:Int) :
 (cyE c a b≠0→qkT 28 c a b (cyE c a b))∧(cyE c a b=0→∀ o,qiS c a b o→qx3 28 c a b o):=by
 have hc:=qc1 S
 have hv:=qdI a b
 by_cases V:V9 c
 ·rw[qbP V] at hc
  cases hb:qcs a b
  ·rw[hb] at hv
   have e:cyE c a b=8:=by unfold cyE;rw[if_neg (by rw[hb];simp)]
   rw[e]
   exact⟨fun _=>quc (hc:=hc) (hv:=hv),fun h=>by cases h⟩
  ·rw[hb] at hv
   obtain⟨u1,a1,a2⟩:=qd0 V.s a
   obtain⟨u2,b1,b2⟩:=qd0 V.s b
   have e:cyE c a b=open Classical in if (∃ q∈c.s,q.id=a)∧(∃ q∈c.s,q.id=b) then adE c a b else 6:=by unfold cyE;rw[if_pos ⟨V,hb⟩]
   rcases a2 with ⟨h1,h2⟩ | ⟨j,q,rfl,hj,hq⟩
   ·rw[if_neg fun h=>h2 h.1] at e
    rw[e]
    exact⟨fun _=>qyH (hc:=hc) (hv:=hv) (h1:=a1) (hz:=dt h1),fun h=>by cases h⟩
   ·have pa:∃ q∈c.s,q.id=a:=⟨q,List.mem_of_getElem? hj,hq⟩
    rcases b2 with ⟨h1,h2⟩ | ⟨k,g,rfl,hk,hg⟩
    ·rw[if_neg fun h=>h2 h.2] at e
     rw[e]
     exact⟨fun _=>qyw (hc:=hc) (hv:=hv) (h1:=a1) (hz:=df (by omega)) (h2:=b1) (hm:=dt h1),fun h=>by cases h⟩
    ·have pb:∃ q∈c.s,q.id=b:=⟨g,List.mem_of_getElem? hk,hg⟩
     rw[if_pos ⟨pa,pb⟩] at e
     rw[e]
     obtain⟨A1,A2⟩:=qlE S V hb pa pb
     exact⟨fun h=>qxD (hc:=hc) (hv:=hv) (h1:=a1) (hz:=df (by omega)) (h2:=b1) (hm:=df (by omega)) (had:=A1 h),fun h o ho=>qAx (hc:=hc) (hv:=hv) (h1:=a1) (hz:=df (by omega)) (h2:=b1) (hm:=df (by omega)) (had:=A2 h o ho)⟩
 ·rw[qbv V] at hc
  have e:cyE c a b=8:=by unfold cyE;rw[if_neg fun h=>V h.1]
  rw[e]
  exact⟨fun _=>qvN (hc:=hc),fun h=>by cases h⟩
end Go.Proofs.YtkjaanhddkkodaaGreat

namespace Go.Proofs.YtkjaanhddkkodaaGreat
set_option maxRecDepth 100000
open Go.RowKit
abbrev qaU (l:List Pt) (n:Int):List Pt:=l.filter fun p=>decide (p.id≠n)
abbrev qEY (c:Ck) (n:Int) (k j:Nat) (y:Ev):Ck:={ c with l:=qaU c.l n,b:=c.b.set y.i.toNat false,fr:=c.fr++[y.i],ev:=(qal c.ev c.wh j y).1,wh:=(qal c.ev c.wh j y).2,d:=c.d.take k++c.d.drop (k+1) }
def qdR (c:Ck) (n:Int) (o:Ck):Prop:=((∀ q∈c.d,q.id≠n)∧o={ c with l:=qaU c.l n })∨
 ∃ (k:Nat) (q:Pt) (j:Nat) (y:Ev),c.d[k]?=some q∧q.id=n∧(∀ (i:Nat) (p:Pt),i<k→c.d[i]?=some p→p.id≠n)∧c.ev[j]?=some y∧y.i=q.a∧y.w=q.b∧o=qEY c n k j y
theorem qwx {c:Ck} (V:V9 c) (n:Int):∃ o,qdR c n o:=by
 rcases qa7 (fun k=>∀ q,c.d[k]?=some q→q.id≠n) c.d.length with h | ⟨k,hk,hb,hf⟩
 ·refine⟨_,Or.inl ⟨fun q hq=>?_,rfl⟩⟩
  obtain⟨k,hk⟩:=List.getElem?_of_mem hq
  exact h k (qam hk) q hk
 ·simp only[Classical.not_forall,Classical.not_not] at hb
  obtain⟨q,hq,he⟩:=hb
  obtain⟨p,_,_,y0,hd⟩:=V.f.some q (List.mem_of_getElem? hq)
  obtain⟨j,y,h1,h2,h3,h4⟩:=VA.find V.a hd.lv
  exact⟨_,Or.inr ⟨k,q,j,y,hq,he,fun i p hi hp=>hf i hi p hp,h2,h3,h4,rfl⟩⟩
theorem qoo {c:Ck} (S:S9 c) (V:V9 c) {n:Int} {o:Ck} (h:qdR c n o):Fn 74 8 [qap c,.pv (iV n)] (qas c) (qfG o) 8 (qbT o):=by
 have hl:=S.l
 have hdl:=S.d
 have hsl:=V.s.len
 have TW:=qmQ S (by omega)
 have WO:=qtN c.x (l:=c.l) (by omega) n
 rcases h with ⟨h1,rfl⟩ | ⟨k,q,j,y,hq,he,hf,hy,e1,e2,rfl⟩
 ·exact qyu (htw:=TW) (hwo:=WO) (hd:=qo7 S h1)
 ·have hk:=qam hq
  have R:=qhv V.a hy
  rw[e1,e2] at R
  have R':Fn 126 5 [agA c.u c.b c.fr c.ev c.wh,.pv (qaK q.a q.b)] (agP c.u c.b c.fr c.ev c.wh) (.ag [.ls 5 c.u.length,.ls 6 (c.b.set y.i.toNat false).length,.ls 7 (c.fr++[y.i]).length,.ls 8 (qal c.ev c.wh j y).1.length,.ls 9 (qal c.ev c.wh j y).2.length]) 5 (qg3 (qal c.ev c.wh j y).1 c.u (c.b.set y.i.toNat false) (c.fr++[y.i]) (qal c.ev c.wh j y).2):=by
   rw[e1]
   exact R
  exact qw2 (o:=qEY c n k j y) (htw:=TW) (hwo:=WO) (hd:=qmm S hq he hf) (h0:=dt (by omega)) (hq:=hq) (hin:=qaq hk) (hr:=R') (hkl:=by omega) (hkl1:=by omega) (a1:=by omega) (a2:=by omega) (hk1:=qav (by omega))
abbrev qmJ (f:FuncId) (c:Ck) (n e:Int):Prop:=Fn f 8 [qap c,.pv (iV n)] (qas c) (.pv (.tuple #[qbz,iV e])) 0 []
abbrev qy7 (f:FuncId) (c:Ck) (n:Int) (o:Ck):Prop:=Fn f 8 [qap c,.pv (iV n)] (qas c) (.tu [qeY o,.one (.pv (iV 0))]) 8 (qbT o)
noncomputable def reE (c:Ck) (n:Int):Int:=open Classical in if V9 c then (if ∃ p∈c.l,p.id=n then 0 else 6) else 8
theorem qe7 {c:Ck} (S:S9 c) (n:Int):(reE c n≠0→qmJ 29 c n (reE c n))∧(reE c n=0→∀ o,qdR c n o→qy7 29 c n o):=by
 have hc:=qc1 S
 have hl:=S.l
 by_cases V:V9 c
 ·rw[qbP V] at hc
  by_cases h:∃ p∈c.l,p.id=n
  ·have e:reE c n=0:=by unfold reE;rw[if_pos V,if_pos h]
   obtain⟨p,hp,he⟩:=h
   obtain⟨k,hk⟩:=List.getElem?_of_mem hp
   exact⟨fun h=>(h e).elim,fun _ o ho=>qz9 (hc:=hc) (ha8:=qwN c.x (by omega) V.v.up hk he) (hz:=df (by omega)) (hg:=qoo S V ho)⟩
  ·have e:reE c n=6:=by unfold reE;rw[if_pos V,if_neg h]
   rw[e]
   exact⟨fun _=>qzT (hc:=hc) (ha8:=qCw c.x (by omega) fun p hp he=>h ⟨p,hp,he⟩) (hz:=by decide),fun h=>by cases h⟩
 ·rw[qbv V] at hc
  have e:reE c n=8:=by unfold reE;rw[if_neg V]
  rw[e]
  exact⟨fun _=>qwc (hc:=hc),fun h=>by cases h⟩
def qjQ (c:Ck) (y:Ev) (p:Pt) (o:Ck):Prop:=c.ev[0]?=some y∧p∈c.l∧p.id=y.k∧∃ g,qdR c y.k g∧o={ g with tn:=y.n,td:=y.d }
abbrev qB7 (f:FuncId) (c:Ck) (tn td e:Int):Prop:=Fn f 8 [qap c,.pv (qad tn td)] (qas c) (.pv (.tuple #[qbz,evZ,qag 0 0,iV e])) 0 []
abbrev qGG (f:FuncId) (c:Ck) (tn td:Int) (y:Ev) (p:Pt) (o:Ck):Prop:=Fn f 8 [qap c,.pv (qad tn td)] (qas c) (.tu [qeY o,.one (.pv (qac y)),.one (.pv (qag p.a p.b)),.one (.pv (iV 0))]) 8 (qbT o)
noncomputable def faE (c:Ck) (tn td:Int):Int:=if qiz c tn td=0 then (if qxc c tn td=true then 0 else 6) else qiz c tn td
theorem qsX {c:Ck} {tn td:Int} (h:qiz c tn td=0):V9 c∧okB tn td=true∧c.tn*td≤tn*c.td:=by
 unfold qiz at h
 split at h
 ·rename_i h1
  split at h
  ·cases h
  ·exact⟨h1.1,h1.2,by omega⟩
 ·cases h
abbrev qCC (f:FuncId) (c:Ck) (tn td e:Int):Prop:=Fn f 8 [qap c,.pv (qad tn td)] (qas c) (.pv (.tuple #[qbz,iV e])) 0 []
abbrev qGt (f:FuncId) (c:Ck) (tn td:Int):Prop:=Fn f 8 [qap c,.pv (qad tn td)] (qas c) (.tu [qeY { c with tn:=tn,td:=td },.one (.pv (iV 0))]) 8 (qbT { c with tn:=tn,td:=td })
noncomputable def moE (c:Ck) (tn td:Int):Int:=if qiz c tn td=0 then (if qxc c tn td=true then 36 else 0) else qiz c tn td
abbrev qcA (s:List Pt) (tn td:Int):Ck:=⟨tn,td,s,0,[],List.replicate 200 0,List.replicate 200 false,qbW 200,[],List.replicate 200 (-1),[]⟩
abbrev qou (f:FuncId) (s:List Pt) (tn td e:Int):Prop:=Fn f 1 [qaC 0 s,.pv (qad tn td)] [(0,0,qao s)] (.pv (.tuple #[qbz,iV e])) 0 []
abbrev qGw (f:FuncId) (s:List Pt) (tn td:Int):Prop:=Fn f 1 [qaC 0 s,.pv (qad tn td)] [(0,0,qao s)] (.tu [.ag [.pv (iV tn),.pv (iV td),.ls 1 s.length,.pv (iV 0),.pv (.slice none 0 0),.ls 2 (qcA s tn td).u.length,.ls 3 (qcA s tn td).b.length,.ls 4 (qcA s tn td).fr.length,.ls 6 0,.ls 5 (qcA s tn td).wh.length,.pv (.slice none 0 0)],.one (.pv (iV 0))]) 6 [(1,0,qao s),(2,0,zrI (qcA s tn td).u),(3,0,zrB (qcA s tn td).b),(4,0,zrI (qcA s tn td).fr),(5,0,zrI (qcA s tn td).wh),(6,0,qar [])]
theorem qh5 {s:List Pt} {tn td:Int} (htn:I64 tn) (htd:I64 td):(tE s tn td≠0→qou 27 s tn td (tE s tn td))∧(tE s tn td=0→qGw 27 s tn td):=by
 have ht:=qow htn htd s
 refine⟨fun h=>qwf (ht:=ht) (he:=by simpa using h),fun h=>?_⟩
 rw[h] at ht
 have hs:=(quH h).1.len
 exact qAa (o:=qcA s tn td) (ht:=ht) (hb:=qpn (o:=qcA s tn td) (hf:=qjT (by omega)) (hb:=qru (n:=200) (by omega)))
end Go.Proofs.YtkjaanhddkkodaaGreat

namespace Go.Proofs.YtkjaanhddkkodaaGreat
set_option maxRecDepth 100000
open Go.RowKit
theorem qif (y:Ev):((y.n==y.n&&(y.d==y.d&&true))&&(y.k==y.k&&((y.i==y.i&&(y.w==y.w&&true))&&true)))=true:=by simp
abbrev qpf (c:Ck) (s:List Pt):HpL:=[(0,0,qao c.s),(1,0,qan c.l),(2,0,zrI c.u),(3,0,zrB c.b),(4,0,zrI c.fr),(5,0,qar c.ev),(6,0,zrI c.wh),(7,0,qaX c.d),(8,0,qao s)]
theorem qBy {c:Ck} {s:List Pt} {a b n tn td:Int} (hgf:Fn 25 1 [qaC 0 s] [(0,0,qao s)] (.pv (.bool true)) 0 []) :
 Fn 4 9 [qaC 8 s,.pv (qad tn td),qap c,.pv (qag a b),.pv (iV (n))] (qpf c s) (.pv (.bool true)) 0 []:=
 qaa 300 [] [Cf hgf [8]]
  tI (Co hgf [8] 13 tI) (by kernel_rfl)
abbrev qsx (s:List Pt):Prop:=Fn 25 1 [qaC 0 s] [(0,0,qao s)] (.pv (.bool false)) 0 []
theorem qCh {c:Ck} {s:List Pt} {a b n tn td:Int} (hgf:qsx s) (hgc:Fn 26 8 [qap c] (qas c) (.pv (.bool true)) 0 []) :
 Fn 4 9 [qaC 8 s,.pv (qad tn td),qap c,.pv (qag a b),.pv (iV (n))] (qpf c s) (.pv (.bool true)) 0 []:=
 qaa 300 [] [Cf hgf [8],Cf hgc [0,1,2,3,4,5,6,7]]
  tI (Co hgf [8] 13 (Co hgc [0,1,2,3,4,5,6,7] 13 tI)) (by kernel_rfl)
abbrev qs4 (c:Ck):Prop:=Fn 23 16 [qap c,qfG c] [(0,0,qao c.s),(1,0,qan c.l),(2,0,zrI c.u),(3,0,zrB c.b),(4,0,zrI c.fr),(5,0,qar c.ev),(6,0,zrI c.wh),(7,0,qaX c.d),(8,0,qao c.s),(9,0,qan c.l),(10,0,zrI c.u),(11,0,zrB c.b),(12,0,zrI c.fr),(13,0,qar c.ev),(14,0,zrI c.wh),(15,0,qaX c.d)] (.pv (.bool true)) 0 []
abbrev qs8 (c:Ck) (e4:Int) (y:Ev):Prop:=Fn 18 8 [qap c] (qas c) (.pv (.tuple #[qac y,iV e4])) 0 []
abbrev qin (c:Ck) (e4:Int) (y:Ev):Prop:=Fn 30 8 [qap c] (qas c) (.pv (.tuple #[qac y,iV e4])) 0 []
abbrev qig (c:Ck):Prop:=Fn 26 8 [qap c] (qas c) (.pv (.bool false)) 0 []
abbrev qio (c:Ck) (v:Int):Prop:=Fn 22 8 [qap c] (qas c) (.pv (iV (v))) 0 []
abbrev qhq (c:Ck) (v:Int):Prop:=Fn 31 8 [qap c] (qas c) (.pv (iV (v))) 0 []
abbrev qhh (c:Ck):Prop:=Fn 14 8 [qap c] (qas c) (qfG c) 8 (qbT c)
abbrev qrQ (a:Int) (b:Int) (c:Ck) (e2:Int):Prop:=Fn 16 8 [qap c,.pv (qag a b)] (qas c) (.pv (.tuple #[qbz,iV 0,iV e2])) 0 []
abbrev qsp (a:Int) (b:Int) (c:Ck) (e2:Int):Prop:=Fn 28 8 [qap c,.pv (qag a b)] (qas c) (.pv (.tuple #[qbz,iV 0,iV e2])) 0 []
abbrev qjd:Prop:=Pure Tryz.prog 23 #[qbz,qbz] (.bool true)
abbrev qq8 (c:Ck) (e3:Int) (n:Int):Prop:=Fn 17 8 [qap c,.pv (iV (n))] (qas c) (.pv (.tuple #[qbz,iV e3])) 0 []
abbrev qrW (c:Ck) (e3:Int) (n:Int):Prop:=Fn 29 8 [qap c,.pv (iV (n))] (qas c) (.pv (.tuple #[qbz,iV e3])) 0 []
abbrev qr6 (e1:Int) (s:List Pt) (td:Int) (tn:Int):Prop:=Fn 10 1 [qaC 0 s,.pv (qad tn td)] [(0,0,qao s)] (.pv (.tuple #[qbz,iV e1])) 0 []
abbrev qsl (e1:Int) (s:List Pt) (td:Int) (tn:Int):Prop:=Fn 27 1 [qaC 0 s,.pv (qad tn td)] [(0,0,qao s)] (.pv (.tuple #[qbz,iV e1])) 0 []
theorem qxd {c:Ck} {s:List Pt} {a b n tn td e1 e2 e3 e4 v:Int} {y:Ev} (hgf:qsx s) (hgc:qig c) (htw:qhh c) (hn:qr6 e1 s td tn) (hm:qsl e1 s td tn) (hc:qrQ a b c e2) (hd:qsp a b c e2) (hr:qq8 c e3 n) (hq:qrW c e3 n) (hx:qs8 c e4 y) (hy:qin c e4 y) (hz:qjd) (hk1:qio c v) (hk2:qhq c v) (hs4:qs4 c) :
 Fn 4 9 [qaC 8 s,.pv (qad tn td),qap c,.pv (qag a b),.pv (iV (n))] (qpf c s) (.pv (.bool true)) 0 []:=
 qaa 400 [] [Cf hgf [8],Cf hgc [0,1,2,3,4,5,6,7],Cf htw [0,1,2,3,4,5,6,7],Cf hn [8],Cf hn [8],Cf hc [13,14,15,16,17,18,19,20],Cf hc [0,1,2,3,4,5,6,7],Cf hr [13,14,15,16,17,18,19,20],Cf hr [0,1,2,3,4,5,6,7],Cf hx [13,14,15,16,17,18,19,20],Cf hx [0,1,2,3,4,5,6,7],Rf hz,.t true,Cf hk1 [13,14,15,16,17,18,19,20],Cf hk1 [0,1,2,3,4,5,6,7],.t true,Rf hz,.k,.t true,Rf hz,.t true,.t true,.t true,Cf hs4 [13,14,15,16,17,18,19,20,0,1,2,3,4,5,6,7]]
  tI (Co hgf [8] 13 (Co hgc [0,1,2,3,4,5,6,7] 13 (Co htw [0,1,2,3,4,5,6,7] 13 (Co hn [8] 22 (Co hm [8] 23 (Co hc [13,14,15,16,17,18,19,20] 24 (Co hd [0,1,2,3,4,5,6,7] 25 (Co hr [13,14,15,16,17,18,19,20] 26 (Co hq [0,1,2,3,4,5,6,7] 27 (Co hx [13,14,15,16,17,18,19,20] 28 (Co hy [0,1,2,3,4,5,6,7] 29 (Ai hz (Ai (qaH e1) (Co hk1 [13,14,15,16,17,18,19,20] 30 (Co hk2 [0,1,2,3,4,5,6,7] 30 (Ai (qaH v) (Ai hz (Ai (qaH e2) (Ai hz (Ai (qaH e3) (Ai (qif y) (Ai (qaH e4) (Co hs4 [13,14,15,16,17,18,19,20,0,1,2,3,4,5,6,7] 30 tI))))))))))))))))))))))) (by kernel_rfl)
abbrev qDg (o3:Ck):Prop:=Fn 23 16 [qap o3,qfG o3] [(0,0,qao o3.s),(1,0,qan o3.l),(2,0,zrI o3.u),(3,0,zrB o3.b),(4,0,zrI o3.fr),(5,0,qar o3.ev),(6,0,zrI o3.wh),(7,0,qaX o3.d),(8,0,qao o3.s),(9,0,qan o3.l),(10,0,zrI o3.u),(11,0,zrB o3.b),(12,0,zrI o3.fr),(13,0,qar o3.ev),(14,0,zrI o3.wh),(15,0,qaX o3.d)] (.pv (.bool true)) 0 []
abbrev qqg (c:Ck) (n:Int) (o3:Ck):Prop:=Fn 17 8 [qap c,.pv (iV (n))] (qas c) (.tu [qeY o3,.one (.pv (iV 0))]) 8 (qbT o3)
abbrev qq7 (c:Ck) (n:Int) (o3:Ck):Prop:=Fn 29 8 [qap c,.pv (iV (n))] (qas c) (.tu [qeY o3,.one (.pv (iV 0))]) 8 (qbT o3)
theorem quK {c o3:Ck} {s:List Pt} {a b n tn td e1 e2 e4 v:Int} {y:Ev} (hgf:qsx s) (hgc:qig c) (htw:qhh c) (hn:qr6 e1 s td tn) (hm:qsl e1 s td tn) (hc:qrQ a b c e2) (hd:qsp a b c e2) (hr:qqg c n o3) (hq:qq7 c n o3) (hx:qs8 c e4 y) (hy:qin c e4 y) (hz:qjd) (hk1:qio c v) (hk2:qhq c v) (hs3:qDg o3) (hs4:qs4 c) :
 Fn 4 9 [qaC 8 s,.pv (qad tn td),qap c,.pv (qag a b),.pv (iV (n))] (qpf c s) (.pv (.bool true)) 0 []:=
 qaa 400 [] [Cf hgf [8],Cf hgc [0,1,2,3,4,5,6,7],Cf htw [0,1,2,3,4,5,6,7],Cf hn [8],Cf hn [8],Cf hc [13,14,15,16,17,18,19,20],Cf hc [0,1,2,3,4,5,6,7],Cf hr [13,14,15,16,17,18,19,20],Cf hr [0,1,2,3,4,5,6,7],Cf hx [13,14,15,16,17,18,19,20],Cf hx [0,1,2,3,4,5,6,7],Rf hz,.t true,Cf hk1 [13,14,15,16,17,18,19,20],Cf hk1 [0,1,2,3,4,5,6,7],.t true,Rf hz,.k,.t true,Cf hs3 [26,27,28,29,30,31,32,33,35,36,37,38,39,40,41,42],.k,.t true,.t true,Cf hs4 [13,14,15,16,17,18,19,20,0,1,2,3,4,5,6,7]]
  tI (Co hgf [8] 13 (Co hgc [0,1,2,3,4,5,6,7] 13 (Co htw [0,1,2,3,4,5,6,7] 13 (Co hn [8] 22 (Co hm [8] 23 (Co hc [13,14,15,16,17,18,19,20] 24 (Co hd [0,1,2,3,4,5,6,7] 25 (Co hr [13,14,15,16,17,18,19,20] 26 (Co hq [0,1,2,3,4,5,6,7] 35 (Co hx [13,14,15,16,17,18,19,20] 44 (Co hy [0,1,2,3,4,5,6,7] 45 (Ai hz (Ai (qaH e1) (Co hk1 [13,14,15,16,17,18,19,20] 46 (Co hk2 [0,1,2,3,4,5,6,7] 46 (Ai (qaH v) (Ai hz (Ai (qaH e2) (Co hs3 [26,27,28,29,30,31,32,33,35,36,37,38,39,40,41,42] 46 (Ai (qif y) (Ai (qaH e4) (Co hs4 [13,14,15,16,17,18,19,20,0,1,2,3,4,5,6,7] 46 tI)))))))))))))))))))))) (by kernel_rfl)
abbrev qCW (o2:Ck):Prop:=Fn 23 16 [qap o2,qfG o2] [(0,0,qao o2.s),(1,0,qan o2.l),(2,0,zrI o2.u),(3,0,zrB o2.b),(4,0,zrI o2.fr),(5,0,qar o2.ev),(6,0,zrI o2.wh),(7,0,qaX o2.d),(8,0,qao o2.s),(9,0,qan o2.l),(10,0,zrI o2.u),(11,0,zrB o2.b),(12,0,zrI o2.fr),(13,0,qar o2.ev),(14,0,zrI o2.wh),(15,0,qaX o2.d)] (.pv (.bool true)) 0 []
abbrev qpF (a:Int) (b:Int) (c:Ck) (o2:Ck) (x2:Int):Prop:=Fn 16 8 [qap c,.pv (qag a b)] (qas c) (.tu [qeY o2,.one (.pv (iV x2)),.one (.pv (iV 0))]) 8 (qbT o2)
abbrev qrk (a:Int) (b:Int) (c:Ck) (o2:Ck) (x2:Int):Prop:=Fn 28 8 [qap c,.pv (qag a b)] (qas c) (.tu [qeY o2,.one (.pv (iV x2)),.one (.pv (iV 0))]) 8 (qbT o2)
theorem qvP {c o2:Ck} {s:List Pt} {a b n tn td e1 e3 e4 v x2:Int} {y:Ev} (hgf:qsx s) (hgc:qig c) (htw:qhh c) (hn:qr6 e1 s td tn) (hm:qsl e1 s td tn) (hc:qpF a b c o2 x2) (hd:qrk a b c o2 x2) (hr:qq8 c e3 n) (hq:qrW c e3 n) (hx:qs8 c e4 y) (hy:qin c e4 y) (hz:qjd) (hk1:qio c v) (hk2:qhq c v) (hs2:qCW o2) (hs4:qs4 c) :
 Fn 4 9 [qaC 8 s,.pv (qad tn td),qap c,.pv (qag a b),.pv (iV (n))] (qpf c s) (.pv (.bool true)) 0 []:=
 qaa 400 [] [Cf hgf [8],Cf hgc [0,1,2,3,4,5,6,7],Cf htw [0,1,2,3,4,5,6,7],Cf hn [8],Cf hn [8],Cf hc [13,14,15,16,17,18,19,20],Cf hc [0,1,2,3,4,5,6,7],Cf hr [13,14,15,16,17,18,19,20],Cf hr [0,1,2,3,4,5,6,7],Cf hx [13,14,15,16,17,18,19,20],Cf hx [0,1,2,3,4,5,6,7],Rf hz,.t true,Cf hk1 [13,14,15,16,17,18,19,20],Cf hk1 [0,1,2,3,4,5,6,7],.t true,Cf hs2 [24,25,26,27,28,29,30,31,33,34,35,36,37,38,39,40],.t true,.k,Rf hz,.t true,.t true,.t true,Cf hs4 [13,14,15,16,17,18,19,20,0,1,2,3,4,5,6,7]]
  tI (Co hgf [8] 13 (Co hgc [0,1,2,3,4,5,6,7] 13 (Co htw [0,1,2,3,4,5,6,7] 13 (Co hn [8] 22 (Co hm [8] 23 (Co hc [13,14,15,16,17,18,19,20] 24 (Co hd [0,1,2,3,4,5,6,7] 33 (Co hr [13,14,15,16,17,18,19,20] 42 (Co hq [0,1,2,3,4,5,6,7] 43 (Co hx [13,14,15,16,17,18,19,20] 44 (Co hy [0,1,2,3,4,5,6,7] 45 (Ai hz (Ai (qaH e1) (Co hk1 [13,14,15,16,17,18,19,20] 46 (Co hk2 [0,1,2,3,4,5,6,7] 46 (Ai (qaH v) (Co hs2 [24,25,26,27,28,29,30,31,33,34,35,36,37,38,39,40] 46 (Ai (qaH x2) (Ai hz (Ai (qaH e3) (Ai (qif y) (Ai (qaH e4) (Co hs4 [13,14,15,16,17,18,19,20,0,1,2,3,4,5,6,7] 46 tI))))))))))))))))))))))) (by kernel_rfl)
theorem qvb {c o2 o3:Ck} {s:List Pt} {a b n tn td e1 e4 v x2:Int} {y:Ev} (hgf:qsx s) (hgc:qig c) (htw:qhh c) (hn:qr6 e1 s td tn) (hm:qsl e1 s td tn) (hc:qpF a b c o2 x2) (hd:qrk a b c o2 x2) (hr:qqg c n o3) (hq:qq7 c n o3) (hx:qs8 c e4 y) (hy:qin c e4 y) (hz:qjd) (hk1:qio c v) (hk2:qhq c v) (hs2:qCW o2) (hs3:qDg o3) (hs4:qs4 c) :
 Fn 4 9 [qaC 8 s,.pv (qad tn td),qap c,.pv (qag a b),.pv (iV (n))] (qpf c s) (.pv (.bool true)) 0 []:=
 qaa 400 [] [Cf hgf [8],Cf hgc [0,1,2,3,4,5,6,7],Cf htw [0,1,2,3,4,5,6,7],Cf hn [8],Cf hn [8],Cf hc [13,14,15,16,17,18,19,20],Cf hc [0,1,2,3,4,5,6,7],Cf hr [13,14,15,16,17,18,19,20],Cf hr [0,1,2,3,4,5,6,7],Cf hx [13,14,15,16,17,18,19,20],Cf hx [0,1,2,3,4,5,6,7],Rf hz,.t true,Cf hk1 [13,14,15,16,17,18,19,20],Cf hk1 [0,1,2,3,4,5,6,7],.t true,Cf hs2 [24,25,26,27,28,29,30,31,33,34,35,36,37,38,39,40],.t true,.k,Cf hs3 [42,43,44,45,46,47,48,49,51,52,53,54,55,56,57,58],.k,.t true,.t true,Cf hs4 [13,14,15,16,17,18,19,20,0,1,2,3,4,5,6,7]]
  tI (Co hgf [8] 13 (Co hgc [0,1,2,3,4,5,6,7] 13 (Co htw [0,1,2,3,4,5,6,7] 13 (Co hn [8] 22 (Co hm [8] 23 (Co hc [13,14,15,16,17,18,19,20] 24 (Co hd [0,1,2,3,4,5,6,7] 33 (Co hr [13,14,15,16,17,18,19,20] 42 (Co hq [0,1,2,3,4,5,6,7] 51 (Co hx [13,14,15,16,17,18,19,20] 60 (Co hy [0,1,2,3,4,5,6,7] 61 (Ai hz (Ai (qaH e1) (Co hk1 [13,14,15,16,17,18,19,20] 62 (Co hk2 [0,1,2,3,4,5,6,7] 62 (Ai (qaH v) (Co hs2 [24,25,26,27,28,29,30,31,33,34,35,36,37,38,39,40] 62 (Ai (qaH x2) (Co hs3 [42,43,44,45,46,47,48,49,51,52,53,54,55,56,57,58] 62 (Ai (qif y) (Ai (qaH e4) (Co hs4 [13,14,15,16,17,18,19,20,0,1,2,3,4,5,6,7] 62 tI)))))))))))))))))))))) (by kernel_rfl)
abbrev qDk (o1:Ck) (s:List Pt) (td:Int) (tn:Int):Prop:=Fn 10 1 [qaC 0 s,.pv (qad tn td)] [(0,0,qao s)] (.tu [.ag [.pv (iV o1.tn),.pv (iV o1.td),.ls 1 o1.s.length,.pv (iV o1.x),.ls 7 o1.l.length,.ls 2 o1.u.length,.ls 3 o1.b.length,.ls 4 o1.fr.length,.ls 6 o1.ev.length,.ls 5 o1.wh.length,.ls 8 o1.d.length],.one (.pv (iV 0))]) 8 [(8,0,qaX o1.d),(7,0,qan o1.l),(1,0,qao o1.s),(2,0,zrI o1.u),(3,0,zrB o1.b),(4,0,zrI o1.fr),(5,0,zrI o1.wh),(6,0,qar o1.ev)]
abbrev qC9 (o1:Ck) (s:List Pt) (td:Int) (tn:Int):Prop:=Fn 27 1 [qaC 0 s,.pv (qad tn td)] [(0,0,qao s)] (.tu [.ag [.pv (iV o1.tn),.pv (iV o1.td),.ls 1 o1.s.length,.pv (iV o1.x),.ls 7 o1.l.length,.ls 2 o1.u.length,.ls 3 o1.b.length,.ls 4 o1.fr.length,.ls 6 o1.ev.length,.ls 5 o1.wh.length,.ls 8 o1.d.length],.one (.pv (iV 0))]) 8 [(8,0,qaX o1.d),(7,0,qan o1.l),(1,0,qao o1.s),(2,0,zrI o1.u),(3,0,zrB o1.b),(4,0,zrI o1.fr),(5,0,zrI o1.wh),(6,0,qar o1.ev)]
abbrev qCP (o1:Ck):Prop:=Fn 23 16 [qap o1,qfG o1] [(0,0,qao o1.s),(1,0,qan o1.l),(2,0,zrI o1.u),(3,0,zrB o1.b),(4,0,zrI o1.fr),(5,0,qar o1.ev),(6,0,zrI o1.wh),(7,0,qaX o1.d),(8,0,qao o1.s),(9,0,qan o1.l),(10,0,zrI o1.u),(11,0,zrB o1.b),(12,0,zrI o1.fr),(13,0,qar o1.ev),(14,0,zrI o1.wh),(15,0,qaX o1.d)] (.pv (.bool true)) 0 []
theorem qxw {c o1:Ck} {s:List Pt} {a b n tn td e2 e3 e4 v:Int} {y:Ev} (hgf:qsx s) (hgc:qig c) (htw:qhh c) (hn:qDk o1 s td tn) (hm:qC9 o1 s td tn) (hc:qrQ a b c e2) (hd:qsp a b c e2) (hr:qq8 c e3 n) (hq:qrW c e3 n) (hx:qs8 c e4 y) (hy:qin c e4 y) (hs1:qCP o1) (hk1:qio c v) (hk2:qhq c v) (hz:qjd) (hs4:qs4 c) :
 Fn 4 9 [qaC 8 s,.pv (qad tn td),qap c,.pv (qag a b),.pv (iV (n))] (qpf c s) (.pv (.bool true)) 0 []:=
 qaa 400 [] [Cf hgf [8],Cf hgc [0,1,2,3,4,5,6,7],Cf htw [0,1,2,3,4,5,6,7],Cf hn [8],Cf hn [8],Cf hc [13,14,15,16,17,18,19,20],Cf hc [0,1,2,3,4,5,6,7],Cf hr [13,14,15,16,17,18,19,20],Cf hr [0,1,2,3,4,5,6,7],Cf hx [13,14,15,16,17,18,19,20],Cf hx [0,1,2,3,4,5,6,7],Cf hs1 [22,28,23,24,25,27,26,29,31,37,32,33,34,36,35,38],.k,Cf hk1 [13,14,15,16,17,18,19,20],Cf hk1 [0,1,2,3,4,5,6,7],.t true,Rf hz,.k,.t true,Rf hz,.t true,.t true,.t true,Cf hs4 [13,14,15,16,17,18,19,20,0,1,2,3,4,5,6,7]]
  tI (Co hgf [8] 13 (Co hgc [0,1,2,3,4,5,6,7] 13 (Co htw [0,1,2,3,4,5,6,7] 13 (Co hn [8] 22 (Co hm [8] 31 (Co hc [13,14,15,16,17,18,19,20] 40 (Co hd [0,1,2,3,4,5,6,7] 41 (Co hr [13,14,15,16,17,18,19,20] 42 (Co hq [0,1,2,3,4,5,6,7] 43 (Co hx [13,14,15,16,17,18,19,20] 44 (Co hy [0,1,2,3,4,5,6,7] 45 (Co hs1 [22,28,23,24,25,27,26,29,31,37,32,33,34,36,35,38] 46 (Co hk1 [13,14,15,16,17,18,19,20] 46 (Co hk2 [0,1,2,3,4,5,6,7] 46 (Ai (qaH v) (Ai hz (Ai (qaH e2) (Ai hz (Ai (qaH e3) (Ai (qif y) (Ai (qaH e4) (Co hs4 [13,14,15,16,17,18,19,20,0,1,2,3,4,5,6,7] 46 tI)))))))))))))))))))))) (by kernel_rfl)
theorem qvr {c o1 o3:Ck} {s:List Pt} {a b n tn td e2 e4 v:Int} {y:Ev} (hgf:qsx s) (hgc:qig c) (htw:qhh c) (hn:qDk o1 s td tn) (hm:qC9 o1 s td tn) (hc:qrQ a b c e2) (hd:qsp a b c e2) (hr:qqg c n o3) (hq:qq7 c n o3) (hx:qs8 c e4 y) (hy:qin c e4 y) (hs1:qCP o1) (hk1:qio c v) (hk2:qhq c v) (hz:qjd) (hs3:qDg o3) (hs4:qs4 c) :
 Fn 4 9 [qaC 8 s,.pv (qad tn td),qap c,.pv (qag a b),.pv (iV (n))] (qpf c s) (.pv (.bool true)) 0 []:=
 qaa 400 [] [Cf hgf [8],Cf hgc [0,1,2,3,4,5,6,7],Cf htw [0,1,2,3,4,5,6,7],Cf hn [8],Cf hn [8],Cf hc [13,14,15,16,17,18,19,20],Cf hc [0,1,2,3,4,5,6,7],Cf hr [13,14,15,16,17,18,19,20],Cf hr [0,1,2,3,4,5,6,7],Cf hx [13,14,15,16,17,18,19,20],Cf hx [0,1,2,3,4,5,6,7],Cf hs1 [22,28,23,24,25,27,26,29,31,37,32,33,34,36,35,38],.k,Cf hk1 [13,14,15,16,17,18,19,20],Cf hk1 [0,1,2,3,4,5,6,7],.t true,Rf hz,.k,.t true,Cf hs3 [42,43,44,45,46,47,48,49,51,52,53,54,55,56,57,58],.k,.t true,.t true,Cf hs4 [13,14,15,16,17,18,19,20,0,1,2,3,4,5,6,7]]
  tI (Co hgf [8] 13 (Co hgc [0,1,2,3,4,5,6,7] 13 (Co htw [0,1,2,3,4,5,6,7] 13 (Co hn [8] 22 (Co hm [8] 31 (Co hc [13,14,15,16,17,18,19,20] 40 (Co hd [0,1,2,3,4,5,6,7] 41 (Co hr [13,14,15,16,17,18,19,20] 42 (Co hq [0,1,2,3,4,5,6,7] 51 (Co hx [13,14,15,16,17,18,19,20] 60 (Co hy [0,1,2,3,4,5,6,7] 61 (Co hs1 [22,28,23,24,25,27,26,29,31,37,32,33,34,36,35,38] 62 (Co hk1 [13,14,15,16,17,18,19,20] 62 (Co hk2 [0,1,2,3,4,5,6,7] 62 (Ai (qaH v) (Ai hz (Ai (qaH e2) (Co hs3 [42,43,44,45,46,47,48,49,51,52,53,54,55,56,57,58] 62 (Ai (qif y) (Ai (qaH e4) (Co hs4 [13,14,15,16,17,18,19,20,0,1,2,3,4,5,6,7] 62 tI))))))))))))))))))))) (by kernel_rfl)
theorem qtG {c o1 o2:Ck} {s:List Pt} {a b n tn td e3 e4 v x2:Int} {y:Ev} (hgf:qsx s) (hgc:qig c) (htw:qhh c) (hn:qDk o1 s td tn) (hm:qC9 o1 s td tn) (hc:qpF a b c o2 x2) (hd:qrk a b c o2 x2) (hr:qq8 c e3 n) (hq:qrW c e3 n) (hx:qs8 c e4 y) (hy:qin c e4 y) (hs1:qCP o1) (hk1:qio c v) (hk2:qhq c v) (hs2:qCW o2) (hz:qjd) (hs4:qs4 c) :
 Fn 4 9 [qaC 8 s,.pv (qad tn td),qap c,.pv (qag a b),.pv (iV (n))] (qpf c s) (.pv (.bool true)) 0 []:=
 qaa 400 [] [Cf hgf [8],Cf hgc [0,1,2,3,4,5,6,7],Cf htw [0,1,2,3,4,5,6,7],Cf hn [8],Cf hn [8],Cf hc [13,14,15,16,17,18,19,20],Cf hc [0,1,2,3,4,5,6,7],Cf hr [13,14,15,16,17,18,19,20],Cf hr [0,1,2,3,4,5,6,7],Cf hx [13,14,15,16,17,18,19,20],Cf hx [0,1,2,3,4,5,6,7],Cf hs1 [22,28,23,24,25,27,26,29,31,37,32,33,34,36,35,38],.k,Cf hk1 [13,14,15,16,17,18,19,20],Cf hk1 [0,1,2,3,4,5,6,7],.t true,Cf hs2 [40,41,42,43,44,45,46,47,49,50,51,52,53,54,55,56],.t true,.k,Rf hz,.t true,.t true,.t true,Cf hs4 [13,14,15,16,17,18,19,20,0,1,2,3,4,5,6,7]]
  tI (Co hgf [8] 13 (Co hgc [0,1,2,3,4,5,6,7] 13 (Co htw [0,1,2,3,4,5,6,7] 13 (Co hn [8] 22 (Co hm [8] 31 (Co hc [13,14,15,16,17,18,19,20] 40 (Co hd [0,1,2,3,4,5,6,7] 49 (Co hr [13,14,15,16,17,18,19,20] 58 (Co hq [0,1,2,3,4,5,6,7] 59 (Co hx [13,14,15,16,17,18,19,20] 60 (Co hy [0,1,2,3,4,5,6,7] 61 (Co hs1 [22,28,23,24,25,27,26,29,31,37,32,33,34,36,35,38] 62 (Co hk1 [13,14,15,16,17,18,19,20] 62 (Co hk2 [0,1,2,3,4,5,6,7] 62 (Ai (qaH v) (Co hs2 [40,41,42,43,44,45,46,47,49,50,51,52,53,54,55,56] 62 (Ai (qaH x2) (Ai hz (Ai (qaH e3) (Ai (qif y) (Ai (qaH e4) (Co hs4 [13,14,15,16,17,18,19,20,0,1,2,3,4,5,6,7] 62 tI)))))))))))))))))))))) (by kernel_rfl)
theorem qwY {c o1 o2 o3:Ck} {s:List Pt} {a b n tn td e4 v x2:Int} {y:Ev} (hgf:qsx s) (hgc:qig c) (htw:qhh c) (hn:qDk o1 s td tn) (hm:qC9 o1 s td tn) (hc:qpF a b c o2 x2) (hd:qrk a b c o2 x2) (hr:qqg c n o3) (hq:qq7 c n o3) (hx:qs8 c e4 y) (hy:qin c e4 y) (hs1:qCP o1) (hk1:qio c v) (hk2:qhq c v) (hs2:qCW o2) (hs3:qDg o3) (hs4:qs4 c) :
 Fn 4 9 [qaC 8 s,.pv (qad tn td),qap c,.pv (qag a b),.pv (iV (n))] (qpf c s) (.pv (.bool true)) 0 []:=
 qaa 400 [] [Cf hgf [8],Cf hgc [0,1,2,3,4,5,6,7],Cf htw [0,1,2,3,4,5,6,7],Cf hn [8],Cf hn [8],Cf hc [13,14,15,16,17,18,19,20],Cf hc [0,1,2,3,4,5,6,7],Cf hr [13,14,15,16,17,18,19,20],Cf hr [0,1,2,3,4,5,6,7],Cf hx [13,14,15,16,17,18,19,20],Cf hx [0,1,2,3,4,5,6,7],Cf hs1 [22,28,23,24,25,27,26,29,31,37,32,33,34,36,35,38],.k,Cf hk1 [13,14,15,16,17,18,19,20],Cf hk1 [0,1,2,3,4,5,6,7],.t true,Cf hs2 [40,41,42,43,44,45,46,47,49,50,51,52,53,54,55,56],.t true,.k,Cf hs3 [58,59,60,61,62,63,64,65,67,68,69,70,71,72,73,74],.k,.t true,.t true,Cf hs4 [13,14,15,16,17,18,19,20,0,1,2,3,4,5,6,7]]
  tI (Co hgf [8] 13 (Co hgc [0,1,2,3,4,5,6,7] 13 (Co htw [0,1,2,3,4,5,6,7] 13 (Co hn [8] 22 (Co hm [8] 31 (Co hc [13,14,15,16,17,18,19,20] 40 (Co hd [0,1,2,3,4,5,6,7] 49 (Co hr [13,14,15,16,17,18,19,20] 58 (Co hq [0,1,2,3,4,5,6,7] 67 (Co hx [13,14,15,16,17,18,19,20] 76 (Co hy [0,1,2,3,4,5,6,7] 77 (Co hs1 [22,28,23,24,25,27,26,29,31,37,32,33,34,36,35,38] 78 (Co hk1 [13,14,15,16,17,18,19,20] 78 (Co hk2 [0,1,2,3,4,5,6,7] 78 (Ai (qaH v) (Co hs2 [40,41,42,43,44,45,46,47,49,50,51,52,53,54,55,56] 78 (Ai (qaH x2) (Co hs3 [58,59,60,61,62,63,64,65,67,68,69,70,71,72,73,74] 78 (Ai (qif y) (Ai (qaH e4) (Co hs4 [13,14,15,16,17,18,19,20,0,1,2,3,4,5,6,7] 78 tI))))))))))))))))))))) (by kernel_rfl)
end Go.Proofs.YtkjaanhddkkodaaGreat

namespace Go.Proofs.YtkjaanhddkkodaaGreat
set_option maxRecDepth 100000
open Go.RowKit
abbrev alZ:List (Nat×Nat×SV):=[(11,0,.pv (iV 0)),(11,1,.pv (iV 0)),(11,2,.pv (.slice none 0 0)),(11,3,.pv (iV 0)),(11,4,.pv (.slice none 0 0)),(11,5,.pv (.slice none 0 0)),(11,6,.pv (.slice none 0 0)),(11,7,.pv (.slice none 0 0)),(11,8,.pv (.slice none 0 0)),(11,9,.pv (.slice none 0 0)),(11,10,.pv (.slice none 0 0))]
inductive AlStep (c:Ck) (s:List Pt) (p:Pt) (o:Ck):Ck→Prop where
 | key {j k:Nat} {q:Pt} {y:Ev} (f:(qai s c.tn c.td p).2.2=true) (hq:c.d[j]?=some q) (he:q.id=p.id) (hf:∀ (i:Nat) (p':Pt),i<j→c.d[i]?=some p'→p'.id≠p.id) (hy:o.ev[k]?=some y) (e1:y.i=q.a) (e2:y.w=q.b) :
  AlStep c s p o { o with ev:=(qa6 o.ev o.wh k y (qai s c.tn c.td p).1 (qai s c.tn c.td p).2.1).1,wh:=(qa6 o.ev o.wh k y (qai s c.tn c.td p).1 (qai s c.tn c.td p).2.1).2,d:=o.d++[q] }
 | push {u2 f2:List Int} {b2:List Bool} {hi hw:Int} (f:(qai s c.tn c.td p).2.2=true) (hn:∀ q∈c.d,q.id≠p.id) (ht:qbC o.u o.b o.fr=some (u2,b2,f2,hi,hw)) :
  AlStep c s p o { o with u:=u2,b:=b2,fr:=f2,ev:=(qa3 o.ev o.wh ⟨(qai s c.tn c.td p).1,(qai s c.tn c.td p).2.1,p.id,hi,hw⟩).1,wh:=(qa3 o.ev o.wh ⟨(qai s c.tn c.td p).1,(qai s c.tn c.td p).2.1,p.id,hi,hw⟩).2,d:=o.d++[⟨p.id,hi,hw⟩] }
 | gone {j k:Nat} {q:Pt} {y:Ev} (f:(qai s c.tn c.td p).2.2=false) (hq:c.d[j]?=some q) (he:q.id=p.id) (hf:∀ (i:Nat) (p':Pt),i<j→c.d[i]?=some p'→p'.id≠p.id) (hy:o.ev[k]?=some y) (e1:y.i=q.a) (e2:y.w=q.b) :
  AlStep c s p o { o with b:=o.b.set y.i.toNat false,fr:=o.fr++[y.i],ev:=(qal o.ev o.wh k y).1,wh:=(qal o.ev o.wh k y).2 }
 | skip (f:(qai s c.tn c.td p).2.2=false) (hn:∀ q∈c.d,q.id≠p.id):AlStep c s p o o
def qzf (c:Ck) (s:List Pt) (p:Pt) (o:Ck):Prop:=(qai s c.tn c.td p).2.2=true∧(∀ q∈c.d,q.id≠p.id)∧qbC o.u o.b o.fr=none
inductive AlRun (c:Ck) (s:List Pt):List Pt→Ck→Option Ck→Prop where
 | nil (o:Ck):AlRun c s [] o (some o)
 | step {p:Pt} {l:List Pt} {o o2:Ck} {r:Option Ck}:AlStep c s p o o2→AlRun c s l o2 r→AlRun c s (p::l) o r
 | full {p:Pt} {l:List Pt} {o:Ck}:qzf c s p o→AlRun c s (p::l) o none
structure AlInv (c:Ck) (l:List Pt) (o:Ck):Prop where
 a:VA o.u o.b o.fr o.ev o.wh
 lv:∀ p∈l,∀ q∈c.d,q.id=p.id→Live o.u o.b q.a q.b
 nw:∀ y∈o.ev,∀ p∈l,(∀ q∈c.d,q.id≠p.id)→y.k≠p.id
 sz:o.d.length+l.length≤1000
 w:o.wh.length=200
structure AlPre (c:Ck) (s:List Pt):Prop where
 S:S9 c
 V:V9 c
 sv:Val s
 kn:qde c.l s
theorem qwa {c:Ck} (V:V9 c) {q q':Pt} (hq:q∈c.d) (hq':q'∈c.d) (h:q.id≠q'.id):q.a≠q'.a:=by
 intro e
 obtain⟨p,_,_,y,d1⟩:=V.f.some q hq
 obtain⟨p',_,_,y',d2⟩:=V.f.some q' hq'
 obtain⟨w,w1,w2⟩:=d1.at_
 obtain⟨w',w1',w2'⟩:=d2.at_
 rw[e,w1'] at w1
 have e2:(w':Int)=(w:Int):=Option.some.inj w1
 have e3:w'=w:=by omega
 subst e3
 rw[w2] at w2'
 have e4:y=y':=Option.some.inj w2'
 subst e4
 exact h (d1.id.trans (d1.k.symm.trans (d2.k.trans d2.id.symm)))
theorem qlH {c:Ck} (V:V9 c) {i j:Nat} {q q':Pt} (hq:c.d[i]?=some q) (hq':c.d[j]?=some q') (h:q.id=q'.id):i=j:=by
 have nd:=V.due_nodup
 rw[List.nodup_iff_pairwise_ne,List.pairwise_iff_getElem] at nd
 have hi:=qam hq
 have hj:=qam hq'
 obtain⟨_,e1⟩:=List.getElem?_eq_some_iff.1 hq
 obtain⟨_,e2⟩:=List.getElem?_eq_some_iff.1 hq'
 rcases Nat.lt_trichotomy i j with hij | hij | hij
 ·have:=nd i j (by simpa using hi) (by simpa using hj) hij
  rw[List.getElem_map,List.getElem_map,e1,e2] at this
  exact (this h).elim
 ·exact hij
 ·have:=nd j i (by simpa using hj) (by simpa using hi) hij
  rw[List.getElem_map,List.getElem_map,e1,e2] at this
  exact (this h.symm).elim
theorem AlPre.fail {c:Ck} {s:List Pt} (P:AlPre c s) {p:Pt} (hp:p∈c.l):FailT s c.tn c.td p:=qbX P.S.tn P.S.td P.V.t P.sv (P.V.v.ok p hp) (P.kn p hp).1 (P.kn p hp).2
theorem AlStep.inv {c:Ck} {s:List Pt} (P:AlPre c s) {p:Pt} {l:List Pt} {o o2:Ck} (hp:p∈c.l) (hu:∀ p'∈l,p'.id≠p.id) (I:AlInv c (p::l) o) (h:AlStep c s p o o2):AlInv c l o2:=by
 have F:=P.fail hp
 have sz:=I.sz
 rw[List.length_cons] at sz
 have wl:=I.w
 have l0:=I.a.lens
 cases h with
 | @key j k q y f hq he hf hy e1 e2=>
  obtain⟨k1,k2,k3,_⟩:=F.i.ok f
  obtain⟨A,pm⟩:=VA.rekey ⟨k2,k3⟩ k1 I.a hy
  have l1:=A.lens
  refine⟨A,fun p' hp'=>I.lv p' (List.mem_cons_of_mem _ hp'),fun y2 hy2 p' hp' hn=>?_,by simp;omega,by show (qa6 _ _ _ _ _ _).2.length=200;omega⟩
  rcases List.mem_or_eq_of_mem_set (pm.mem_iff.1 hy2) with h | h
  ·exact I.nw y2 h p' (List.mem_cons_of_mem _ hp') hn
  ·rw[h]
   exact I.nw y (List.mem_of_getElem? hy) p' (List.mem_cons_of_mem _ hp') hn
 | @push u2 f2 b2 hi hw f hn ht=>
  obtain⟨k1,k2,k3,_⟩:=F.i.ok f
  have hz:cnE o.ev p.id=0:=by
   have h1:=P.V.v.lo p hp
   have h2:=P.V.v.hi p hp
   have h3:=P.V.v.nx
   unfold cnE
   rw[if_pos (by omega),if_neg]
   rintro⟨m,hm,e⟩
   exact I.nw m hm p List.mem_cons_self hn e
  obtain⟨A,pm,_,lvp⟩:=VA.push ⟨k2,k3⟩ k1 I.a hz ht
  have l1:=A.lens
  obtain⟨_,_,_,_,eu,_,_,_⟩:=qbt ht
  have lu:u2.length=o.u.length:=by rw[eu,List.length_set]
  refine⟨A,fun p' hp' q' hq' he'=>lvp _ _ (I.lv p' (List.mem_cons_of_mem _ hp') q' hq' he'),fun y2 hy2 p' hp' hn'=>?_,by simp;omega,by show (qa3 _ _ _).2.length=200;omega⟩
  rcases List.mem_append.1 (pm.mem_iff.1 hy2) with h | h
  ·exact I.nw y2 h p' (List.mem_cons_of_mem _ hp') hn'
  ·rw[List.mem_singleton.1 h]
   exact fun e=>hu p' hp' e.symm
 | @gone j k q y f hq he hf hy e1 e2=>
  obtain⟨A,pm,lvw⟩:=VA.without I.a hy
  have l1:=A.lens
  refine⟨A,fun p' hp' q' hq' he'=>(lvw _ _).2 ⟨I.lv p' (List.mem_cons_of_mem _ hp') q' hq' he',?_⟩,fun y2 hy2 p' hp' hn'=>I.nw y2 (pm.mem_iff.1 (List.mem_append_left _ hy2)) p' (List.mem_cons_of_mem _ hp') hn',by show o.d.length+l.length≤1000;omega,by show (qal _ _ _ _).2.length=200;omega⟩
  rw[e1]
  exact qwa P.V hq' (List.mem_of_getElem? hq) (by have:=hu p' hp';omega)
 | skip f hn=>exact⟨I.a,fun p' hp'=>I.lv p' (List.mem_cons_of_mem _ hp'),fun y hy p' hp'=>I.nw y hy p' (List.mem_cons_of_mem _ hp'),by omega,I.w⟩
abbrev qr4 (f:FuncId) (c:Ck) (s:List Pt) (e:Int):Prop:=Fn f 9 [qap c,qaC 8 s] (qas c++[(8,0,qao s)]) (.pv (.tuple #[qbz,iV e])) 0 []
abbrev qG4 (c:Ck) (s:List Pt) (o:Ck):S1:=.ag [.pv (iV c.tn),.pv (iV c.td),.ls 9 s.length,.pv (iV c.x),.ls 10 c.l.length,.ls 11 o.u.length,.ls 12 o.b.length,.ls 13 o.fr.length,.ls 14 o.ev.length,.ls 15 o.wh.length,.ls 16 o.d.length]
abbrev qHm (c:Ck) (s:List Pt) (o:Ck):List (Nat×Nat×SV):=[(9,0,qao s),(10,0,qan c.l),(11,0,zrI o.u),(12,0,zrB o.b),(13,0,zrI o.fr),(14,0,qar o.ev),(15,0,zrI o.wh),(16,0,qaX o.d)]
abbrev qGy (f:FuncId) (c:Ck) (s:List Pt) (o:Ck):Prop:=Fn f 9 [qap c,qaC 8 s] (qas c++[(8,0,qao s)]) (.tu [qG4 c s o,.one (.pv (iV 0))]) 8 (qHm c s o)
theorem qq6 {c:Ck} {s:List Pt} (P:AlPre c s):AlInv c c.l { c with d:=[] } where
 a:=P.V.a
 lv:=fun p _ q hq _=>by
  obtain⟨_,_,_,y,hd⟩:=P.V.f.some q hq
  exact hd.lv
 nw:=fun y hy p hp hn e=>by
  obtain⟨j,hj⟩:=List.getElem?_of_mem hy
  obtain⟨p',hp',_,q,hq,hd⟩:=P.V.ev hj
  exact hn q hq (hd.id.trans (hd.k.symm.trans e))
 sz:=by have:=P.S.l;simp;omega
 w:=P.V.w
noncomputable def qj5 (c:Ck) (s:List Pt):Int:=open Classical in if V9 c then (if qfr s=0 then (if qde c.l s then 0 else 6) else qfr s) else 8
end Go.Proofs.YtkjaanhddkkodaaGreat
