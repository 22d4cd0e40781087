/-
  Joined: Bf, Bg, Bm. Conditions: none.
-/
import Derived.Test.YtkckcgpmnipnaaaGreatBe
import Derived.Test.YtkckcgpmnipnaaaGreatW45
import Derived.Test.YtkckcgpmnipnaaaGreatW34
import Derived.Test.YtkckcgpmnipnaaaGreatW27
import Derived.Test.YtkckcgpmnipnaaaGreatW21
import Derived.Test.YtkckcgpmnipnaaaGreatW46
import Derived.Test.YtkckcgpmnipnaaaGreatW42
import Derived.Test.YtkckcgpmnipnaaaGreatW41
namespace Go.Proofs.YtkckcgpmnipnaaaGreat
set_option maxRecDepth 100000
open Go.RowKit
theorem qhn {f:FuncId} {e:TypeId} {es n:Nat} {xs:List Value} (hx:xs.length=n*es)
 (pth:0<n→Fn f 1 [.ls 0 n] [(0,0,.row e es n xs)] (.ls 1 n) 1 [(1,0,.row e es n xs)])
 (pe:∀ ad c,Fn f 0 [.pv (.slice (some ad) 0 c)] [] (.ls 0 0) 1 [(0,0,.row e es 0 [])])
 (pn:∀ c,Pure Tryz.prog f #[.slice none 0 c] (.slice none 0 0)):Fn f 1 [.ls 0 n] [(0,0,.row e es n xs)] (.ls 1 n) 1 [(1,0,.row e es n xs)]:=by
 rcases Nat.eq_zero_or_pos n with h | h
 ·subst h
  obtain rfl:=List.eq_nil_of_length_eq_zero (by simpa using hx)
  intro w β us hH hd hargs
  match us,hargs with
  | [v],⟨⟨_,a,c,hv⟩,_⟩=>
   have hd1:=hd 1 (Nat.le_refl _)
   cases a with
   | none=>
    subst hv
    refine (pn c w).mono fun e' w' ⟨he,hg⟩=>?_
    have ho:w'.ownsRow w.heap.size e es (.slice none 0 0) 0 []:=⟨by simp,Or.inl ⟨rfl,rfl⟩⟩
    exact⟨_,β.setG 1 (.slice none 0 0),he,Bl.le_setG hd1.1 hd1.2,⟨Bl.setG_same _ _ _,none,0,rfl⟩,qdd hH hd hg ho (fun v hv=>by cases hv),qbA hd⟩
   | some ad=>
    subst hv
    refine (pe ad c w Bl.no [.slice (some ad) 0 c] (qd6 w) (fun _ _=>⟨rfl,rfl⟩) ⟨rfl,tI⟩).mono fun e' w' ⟨v,β',he,_,⟨hx,a',c',hv⟩,hh,_⟩=>?_
    obtain⟨u,hu,hr⟩:=hh.rows 0 0 _ _ _ _ rfl
    rw[hx] at hu
    cases hu
    exact⟨_,β.setG 1 v,he,Bl.le_setG hd1.1 hd1.2,⟨Bl.setG_same _ _ _,a',c',hv⟩,qdd hH hd hh.gr (hr.own (Nat.le_refl _)) (fun v hv=>by cases hv),qbA hd⟩
 ·exact pth h
theorem qw9 {l:List Pt} (hn:l.length≤1000000):Fn 141 1 [.ls 0 l.length] [(0,0,qad l)] (.ls 1 l.length) 1 [(1,0,qad l)]:=
 qhn (qaZ l) (fun h=>qlp h (by omega)) (fun ad c=>qxf) (fun c=>qo7)
theorem qxU {l:List Pt} (hn:l.length≤1000000):Fn 142 1 [.ls 0 l.length] [(0,0,qam l)] (.ls 1 l.length) 1 [(1,0,qam l)]:=
 qhn (qaZ l) (fun h=>qtU h (by omega)) (fun ad c=>qGz) (fun c=>qvf)
theorem qxp {l:List Pt} (hn:l.length≤1000000):Fn 144 1 [.ls 0 l.length] [(0,0,qaP l)] (.ls 1 l.length) 1 [(1,0,qaP l)]:=
 qhn (qaZ l) (fun h=>qs2 h (by omega)) (fun ad c=>qEu) (fun c=>qw4)
theorem qol {s:List Pt} (hn:s.length≤1000000):Fn 103 1 [qas 0 s] [(0,0,qad s)] (.ag [.ls 1 s.length]) 1 [(1,0,qad s)]:=ccf (h1:=qw9 hn)
theorem qxu {c:Ck} (S:S9 c) (hs:c.s.length≤1000000):Fn 131 8 [qaz c] (qaC c) (qkn c) 8 (qeR c):=by
 have h1:=S.l
 have h2:=S.d
 have h3:=S.a.lu
 have h4:=S.a.lb
 have h5:=S.a.lf
 have h6:=S.a.le
 have h7:=S.a.lw
 exact ccl (h1:=qol hs) (h2:=qxU (by omega)) (h3:=cca (c0:=qco (by omega)) (c1:=qjf (by omega)) (c2:=qco (by omega)) (c3:=qk8 (qbT c.ev) (by omega)) (c4:=qco (by omega))) (h4:=qxp (by omega))
theorem qj2 {l:List Pt} (hn:l.length≤1000000) (hu:Up l) {n:Int} (h:∀ p∈l,p.id≠n):∃ k,k≤l.length∧(∀ (t:Nat) (p:Pt),t<k→l[t]?=some p→p.id<n)∧(∀ (t:Nat) (p:Pt),k≤t→l[t]?=some p→n<p.id)∧
 Fn 217 1 [.ls 0 l.length,.pv (iV n)] [(0,0,qaP l)] (.pv (.tuple #[iV (k:Int),.bool false])) 0 []:=by
 obtain⟨k,h1,h2,h3,r⟩:=qrO hn hu h
 exact⟨k,h1,h2,h3,cfd (hb:=r)⟩
theorem qIa {l:List Pt} (hn:l.length≤1000) {k:Nat} (hk:k≤l.length) (n hi hw:Int):Fn 242 3 [.ps 2 0 3 3] [(2,0,.lq 0 3 0 k),(2,1,.ps 1 0 1 1),(2,2,.lq 0 3 (0+k) (l.length-k)),(1,0,.pv (iV n)),(1,1,.pv (iV hi)),(1,2,.pv (iV hw)),(0,0,qaP l)] (.ls 3 (l.take k++Pt.mk n hi hw::l.drop k).length) 1 [(3,0,qaP (l.take k++Pt.mk n hi hw::l.drop k))]:=
 qH4 (s1:=(k:Int)) (s2:=((k+1:Nat):Int)) (s3:=((k+1+(l.length-k):Nat):Int)) (q1:=qfY (by omega) (by omega) (by omega)) (n1:=df (by omega)) (q2:=qfY (by omega) (by omega) (by omega)) (n2:=df (by omega)) (q3:=qfY (by omega) (by omega) (by omega)) (n3:=df (by omega))
  (hgr:=qGq (h0:=df (by omega)) (hs:=by rw[qap (by omega) (by omega)];congr 1<;>omega) (hg:=dt (by omega)) (a0:=by omega) (a1:=by omega)) (a1:=by omega) (a2:=by omega) (a3:=by omega) (hkl:=hk)
structure T9 (c:Ck):Prop where
 p:P9 c
 a:VA c.u c.b c.fr c.ev c.wh
 u:Up c.d
 l:c.d.length≤1000
theorem V9.t9 {c:Ck} (V:V9 c) (S:S9 c):T9 c:=⟨V.p9 S,V.a,V.due_up,by have:=S.d;omega⟩
theorem qES {c:Ck} (T:T9 c) {n:Int} (h:∀ q∈c.d,q.id≠n):Fn 192 8 [qaz c,.pv (iV n)] (qaC c) (qaz c) 0 []:=by
 have hl:=T.l
 obtain⟨k,_,_,_,r⟩:=qj2 (by omega) T.u h
 exact qGQ (hfd:=r)
abbrev qF1 (o:Ck) (d:List Pt):List (Nat×Nat×SV):=[(8,0,zrI o.u),(9,0,zrB o.b),(10,0,zrI o.fr),(11,0,qar o.ev),(12,0,zrI o.wh),(13,0,qaP d)]
abbrev qqI (c:Ck) (u2 f2:List Int) (b2:List Bool) (n d k hi hw:Int):Ck:={ c with u:=u2,b:=b2,fr:=f2,ev:=(qa7 c.ev c.wh ⟨n,d,k,hi,hw⟩).1,wh:=(qa7 c.ev c.wh ⟨n,d,k,hi,hw⟩).2 }
theorem quJ {c:Ck} (T:T9 c) {p:Pt} (hp:p∈c.l) (f:(qaq c.s c.tn c.td p).2.2=true) (hn:∀ q∈c.d,q.id≠p.id) (hz:cnE c.ev p.id=0) {u2 f2:List Int} {b2:List Bool} {hi hw:Int} (ht:qbu c.u c.b c.fr=some (u2,b2,f2,hi,hw)) :
 ∃ k,k≤c.d.length∧(∀ (t:Nat) (q:Pt),t<k→c.d[t]?=some q→q.id<p.id)∧(∀ (t:Nat) (q:Pt),k≤t→c.d[t]?=some q→p.id<q.id)∧
 Fn 174 8 [qaz c,.pv (ptV p)] (qaC c) (.tu [qoR c (qqI c u2 f2 b2 (qaq c.s c.tn c.td p).1 (qaq c.s c.tn c.td p).2.1 p.id hi hw) (c.d.take k++Pt.mk p.id hi hw::c.d.drop k),.one (.pv (iV 0))]) 6 (qF1 (qqI c u2 f2 b2 (qaq c.s c.tn c.td p).1 (qaq c.s c.tn c.td p).2.1 p.id hi hw) (c.d.take k++Pt.mk p.id hi hw::c.d.drop k)):=by
 have hl:=T.l
 have W:=T.p.fl hp
 rw[f] at W
 obtain⟨k1,k2,k3,_⟩:=(qc6 T.p.tn T.p.td T.p.t T.p.s (T.p.v.ok p hp) (T.p.k p hp).1 (T.p.k p hp).2).i.ok f
 obtain⟨k,h1,h2,h3,r⟩:=qj2 (by omega) T.u hn
 refine⟨k,h1,h2,h3,qwU (o:=qqI c u2 f2 b2 (qaq c.s c.tn c.td p).1 (qaq c.s c.tn c.td p).2.1 p.id hi hw) (hf:=W) (hfd:=r) (hp:=?_)⟩
 exact qFY (o:=qqI c u2 f2 b2 (qaq c.s c.tn c.td p).1 (qaq c.s c.tn c.td p).2.1 p.id hi hw) (hp:=ql2 ⟨k2,k3⟩ k1 T.a hz ht) (hfd:=r) (hkl:=h1) (hins:=qIa hl h1 p.id hi hw)
theorem quL {c:Ck} (T:T9 c) {p:Pt} (hp:p∈c.l) (f:(qaq c.s c.tn c.td p).2.2=true) (hn:∀ q∈c.d,q.id≠p.id) (hz:cnE c.ev p.id=0) (ht:qbu c.u c.b c.fr=none) :
 Fn 174 8 [qaz c,.pv (ptV p)] (qaC c) (.pv (.tuple #[qiC,iV 18])) 0 []:=by
 have hl:=T.l
 have W:=T.p.fl hp
 rw[f] at W
 obtain⟨k1,k2,k3,_⟩:=(qc6 T.p.tn T.p.td T.p.t T.p.s (T.p.v.ok p hp) (T.p.k p hp).1 (T.p.k p hp).2).i.ok f
 obtain⟨k,h1,h2,h3,r⟩:=qj2 (by omega) T.u hn
 exact qxb (hf:=W) (hfd:=r) (hp:=qCN (hp:=qle ⟨k2,k3⟩ k1 T.a hz ht) (he:=by decide))
theorem quM {c:Ck} (T:T9 c) {p:Pt} (hp:p∈c.l) (f:(qaq c.s c.tn c.td p).2.2=false) (hn:∀ q∈c.d,q.id≠p.id) :
 Fn 174 8 [qaz c,.pv (ptV p)] (qaC c) (.tu [qyJ c,.one (.pv (iV 0))]) 0 []:=by
 have hl:=T.l
 have W:=T.p.fl hp
 rw[f] at W
 obtain⟨k,h1,h2,h3,r⟩:=qj2 (by omega) T.u hn
 exact qwi (hf:=W) (hfd:=r) (hel:=qES T hn)
end Go.Proofs.YtkckcgpmnipnaaaGreat

namespace Go.Proofs.YtkckcgpmnipnaaaGreat
set_option maxRecDepth 100000
open Go.RowKit
theorem qEG (s:List Pt) (tn td:Int):Fn 102 0 [.pv (iV 200)] [] (.tu [.ag [.ls 0 (qca s tn td).u.length,.ls 1 (qca s tn td).b.length,.ls 2 (qca s tn td).fr.length,.ls 4 0,.ls 3 (qca s tn td).wh.length],.one (.pv (iV 0))]) 5
 [(0,0,zrI (qca s tn td).u),(1,0,zrB (qca s tn td).b),(2,0,zrI (qca s tn td).fr),(3,0,zrI (qca s tn td).wh),(4,0,qar [])]:=by
 have h:=quW (n:=200) (by omega) (by omega)
 have e1:(qca s tn td).u.length=200:=List.length_replicate
 have e2:(qca s tn td).b.length=200:=List.length_replicate
 have e3:(qca s tn td).fr.length=200:=qaN 200
 have e4:(qca s tn td).wh.length=200:=List.length_replicate
 unfold zrI zrB
 rw[e1,e2,e3,e4]
 exact h
theorem qGL {s:List Pt} {tn td:Int} (htn:I64 tn) (htd:I64 td):(tE s tn td≠0→qEU 50 s tn td (tE s tn td))∧(tE s tn td=0→qGg 50 s tn td):=by
 have h1:=qem s
 have h2:∃ e2:Int,Pure Tryz.prog 101 #[qaa tn td] (iV e2)∧e2=(if okB tn td=true then 0 else 8):=by
  by_cases ht:okB tn td=true
  ·exact⟨0,qcd htn htd ht,by rw[if_pos ht]⟩
  ·exact⟨8,qfq htn htd ht,by rw[if_neg ht]⟩
 obtain⟨e2,h2,he⟩:=h2
 by_cases hs:qf7 s=0
 ·have e:tE s tn td=e2:=by unfold tE;rw[if_pos hs,he]
  rw[hs] at h1
  rw[e]
  refine⟨fun h=>qBQ (h1:=h1) (h2:=h2) (he:=by simpa using h),fun h=>?_⟩
  rw[h] at h2
  have hl:=(qc0.1 hs).len
  have r:=qzM (o:=qca s tn td) (h1:=h1) (h2:=h2) (ha:=qEG s tn td) (hf:=qol (by omega)) (hcn:=qgR)
  exact qjJ 134 3 r (.tu (.cons (.ag (.cons (.same _) (.cons (.same _) (.cons (.same _) (.cons (.same _) (.cons (.same _) (.cons (.same _) (.cons (.same _) (.cons (.same _) (.cons (.same _) (.cons (.same _) (.cons .nil .nil)))))))))))) (.cons (.one (.same _)) .nil)))
 ·have e:tE s tn td=qf7 s:=by unfold tE;rw[if_neg hs]
  rw[e]
  exact⟨fun h=>qB7 (h1:=h1) (h2:=h2) (he:=by simpa using h),fun h=>(hs h).elim⟩
theorem qtP (a b:Int):qeN [] a b=false:=qgA fun k p hp=>by simp at hp
theorem qz2 {s:List Pt} (hn:s.length≤1000000) (a b:Int):∃ e:Int,Fn 175 1 [qas 0 s,.pv (qah a b)] [(0,0,qad s)] (.pv (iV e)) 0 []∧
 ((e=8∧¬ qbC a b=true)∨(e=0∧qbC a b=true∧(Val s→(∃ q∈s,q.id=a)∧∃ g∈s,g.id=b))∨(e=6∧qbC a b=true∧(Val s→¬ ((∃ q∈s,q.id=a)∧∃ g∈s,g.id=b)))):=by
 rcases qgC 0 (l:=[]) (by simp) a b with ⟨e,h,_,h1 | h1 | h1⟩ | ⟨_,hc,_,_,_,h,_⟩
 ·rw[h1.1] at h
  rcases h1.2 with h2 | h2
  ·exact (h2 (V8.none (by omega))).elim
  ·exact⟨8,qwI (hn:=qgR) (had:=h),Or.inl ⟨rfl,h2⟩⟩
 ·have:=h1.2.2.2
  rw[qtP] at this
  cases this
 ·rcases h1.2.2.2.2 with h2 | h2
  ·simp at h2
  ·cases h2
 ·obtain⟨w,hb,e⟩:=qui hn a b
  cases w
  ·exact⟨6,qtq (hn:=qgR) (had:=h) (hb:=hb),Or.inr (Or.inr ⟨rfl,hc,fun hs h=>by have:=(e hs).2 h;cases this⟩)⟩
  ·exact⟨0,qA7 (hn:=qgR) (had:=h) (hb:=hb),Or.inr (Or.inl ⟨rfl,hc,fun hs=>(e hs).1 rfl⟩)⟩
theorem qla {l:List Pt} {n:Int} {k:Nat} (hk:k≤l.length) (h:∀ q∈l,q.id<n) (h3:∀ (t:Nat) (q:Pt),k≤t→l[t]?=some q→n<q.id):k=l.length:=by
 rcases Nat.lt_or_ge k l.length with hl | hl
 ·obtain⟨q,hq⟩:=qai hl
  have:=h3 k q (Nat.le_refl _) hq
  have:=h q (List.mem_of_getElem? hq)
  omega
 ·omega
theorem V9.due_hi {c:Ck} (V:V9 c):∀ q∈c.d,q.id<c.x:=fun q hq=>by
 obtain⟨p,hp,_,y,hd⟩:=V.f.some q hq
 rw[hd.id]
 exact V.v.hi p hp
theorem qik {c:Ck} (S:S9 c) (hs:c.s.length≤70) (a b:Int):(cyE c a b≠0→qBh 111 c a b (cyE c a b))∧(cyE c a b=0→∀ o,qhy c a b o→qHK 111 c a b o):=by
 have h1:=qht S hs
 obtain⟨e2,h2,he2⟩:=qz2 (s:=c.s) (by omega) a b
 have hl:=S.l
 by_cases V:V9 c
 ·rw[qec V] at h1
  rcases he2 with ⟨rfl,hc⟩ | ⟨rfl,hc,hk⟩ | ⟨rfl,hc,hk⟩
  ·have e:cyE c a b=8:=by unfold cyE;rw[if_neg fun h=>hc h.2]
   rw[e]
   exact⟨fun _=>qup (h1:=h1) (h2:=h2) (he:=by decide),fun h=>by cases h⟩
  ·obtain⟨pa,pb⟩:=hk V.s
   have e:cyE c a b=adE c a b:=by unfold cyE;rw[if_pos ⟨V,hc⟩,if_pos ⟨pa,pb⟩]
   rw[e]
   have C:=qxu S (by omega)
   rcases qgC c.x S.l a b with ⟨e,h,_,h3 | h3 | h3⟩ | ⟨_,_,hh,hn,hx,h,_⟩
   ·rcases h3.2 with h4 | h4
    ·exact (h4 V.v).elim
    ·exact (h4 hc).elim
   ·have e1:adE c a b=14:=by unfold adE;rw[if_pos h3.2.2.2]
    rw[e1]
    rw[h3.1] at h
    exact⟨fun _=>qnH (h1:=h1) (h2:=h2) (had:=h) (he:=by decide),fun h=>by cases h⟩
   ·have e1:adE c a b=18:=by unfold adE;rw[if_neg (by rw[h3.2.2.2.1];decide),if_pos h3.2.2.2.2]
    rw[e1]
    rw[h3.1] at h
    exact⟨fun _=>qnH (h1:=h1) (h2:=h2) (had:=h) (he:=by decide),fun h=>by cases h⟩
   ·have e1:adE c a b=if qbm c ⟨c.x,a,b⟩=true∧qbu c.u c.b c.fr=none then 18 else 0:=by
     unfold adE
     rw[if_neg (by rw[hh];decide),if_neg (by omega)]
    have kn:qdw (c.l++[⟨c.x,a,b⟩]) c.s:=fun p hp=>by
     rcases List.mem_append.1 hp with hp | hp
     ·exact V.k p hp
     ·rw[List.mem_singleton.1 hp]
      exact⟨pa,pb⟩
    have T0:=V.t9 S
    have T:T9 ({ c with x:=c.x+1,l:=c.l++[⟨c.x,a,b⟩] }:Ck):=⟨⟨S.tn,S.td,V.t,V.s,V8.add V.v hc hh hn hx,kn⟩,V.a,T0.u,T0.l⟩
    have hp:(⟨c.x,a,b⟩:Pt)∈({ c with x:=c.x+1,l:=c.l++[⟨c.x,a,b⟩] }:Ck).l:=List.mem_append_right _ (List.mem_singleton.2 rfl)
    have hd:∀ q∈({ c with x:=c.x+1,l:=c.l++[⟨c.x,a,b⟩] }:Ck).d,q.id≠(⟨c.x,a,b⟩:Pt).id:=fun q hq=>by
     have:=V.due_hi q hq
     show q.id≠c.x
     omega
    cases hf:qbm c ⟨c.x,a,b⟩
    ·rw[hf,if_neg (by simp)] at e1
     rw[e1]
     refine⟨fun h=>(h rfl).elim,fun _ o ho=>?_⟩
     rcases ho with ⟨_,rfl⟩ | ⟨h2',_⟩
     ·exact qBr (l2:=c.l++[⟨c.x,a,b⟩]) (x2:=c.x+1) (h1:=h1) (h2:=h2) (had:=h) (hcl:=C) (ht:=quM T hp hf hd)
     ·rw[hf] at h2';cases h2'
    ·cases ht:qbu c.u c.b c.fr with
     | none=>
      rw[if_pos ⟨hf,ht⟩] at e1
      rw[e1]
      exact⟨fun _=>qsp (l2:=c.l++[⟨c.x,a,b⟩]) (x2:=c.x+1) (h1:=h1) (h2:=h2) (had:=h) (hcl:=C) (ht:=quL T hp hf hd V.new ht) (he:=by decide),fun h=>by cases h⟩
     | some z=>
      rw[if_neg (by rw[ht];simp)] at e1
      rw[e1]
      refine⟨fun h=>(h rfl).elim,fun _ o ho=>?_⟩
      rcases ho with ⟨h2',_⟩ | ⟨_,u2,b2,f2,hi,hw,h2',rfl⟩
      ·rw[hf] at h2';cases h2'
      ·obtain⟨k,k1,_,k3,r⟩:=quJ T hp hf hd V.new h2'
       have ek:k=c.d.length:=qla k1 (fun q hq=>V.due_hi q hq) k3
       subst ek
       rw[show ({ c with x:=c.x+1,l:=c.l++[⟨c.x,a,b⟩] }:Ck).d.take c.d.length=c.d from List.take_length,show ({ c with x:=c.x+1,l:=c.l++[⟨c.x,a,b⟩] }:Ck).d.drop c.d.length=[] from List.drop_length] at r
       exact qwH (l2:=c.l++[⟨c.x,a,b⟩]) (x2:=c.x+1) (l:=c.d++[⟨c.x,hi,hw⟩]) (h1:=h1) (h2:=h2) (had:=h) (hcl:=C) (ht:=r)
  ·have e:cyE c a b=6:=by unfold cyE;rw[if_pos ⟨V,hc⟩,if_neg (hk V.s)]
   rw[e]
   exact⟨fun _=>qup (h1:=h1) (h2:=h2) (he:=by decide),fun h=>by cases h⟩
 ·rw[qdi V] at h1
  have e:cyE c a b=8:=by unfold cyE;rw[if_neg fun h=>V h.1]
  rw[e]
  exact⟨fun _=>qBB (h1:=h1) (h2:=h2) (he:=by decide),fun h=>by cases h⟩
theorem qA0 {c:Ck} (S:S9 c) (hs:c.s.length≤70):(¬ V9 c→Fn 55 8 [qaz c] (qaC c) (.pv (.tuple #[evZ,iV 8])) 0 [])∧(V9 c→c.ev=[]→Fn 55 8 [qaz c] (qaC c) (.pv (.tuple #[evZ,iV 42])) 0 [])∧(V9 c→∀ y,c.ev[0]?=some y→Fn 55 8 [qaz c] (qaC c) (.pv (.tuple #[qae y,iV 0])) 0 []):=by
 have h1:=qht S hs
 refine⟨fun V=>?_,fun V he=>?_,fun V y hy=>?_⟩
 ·rw[qdi V] at h1
  exact qwF (h1:=h1) (he:=by decide)
 ·rw[qec V] at h1
  exact quB (y:=Ev.mk 0 0 0 0 0) (h1:=h1) (ht:=qoF V.a he)
 ·rw[qec V] at h1
  exact quB (h1:=h1) (ht:=qnG V.a hy)
end Go.Proofs.YtkckcgpmnipnaaaGreat

namespace Go.Proofs.YtkckcgpmnipnaaaGreat
set_option maxRecDepth 100000
open Go.RowKit
theorem V9.certify {c o:Ck} (V:V9 c) (h1:I64 c.tn) (h2:I64 c.td) {a b:Int} (h:cyE c a b=0) (ho:qhy c a b o):V9 o∧o.tn=c.tn∧o.td=c.td∧o.s=c.s:=by
 obtain⟨_,q1,q2,q3,q4⟩:=qDb h
 exact⟨V.new_ok (V.small h1 h2) q1 q2 q3 q4 ho,qwz ho⟩
theorem qiE {s:List Pt} {tn td:Int} (hs:Val s) (ht:okB tn td=true):V9 (qca s tn td):=
 ⟨ht,hs,V8.none (x:=0) (by omega),fun p hp=>(by cases hp),VA.new (by omega) (by omega),List.length_replicate,rfl,rfl⟩
abbrev abP (p:Pt):P2:=⟨p.a,p.b⟩
structure CInv (s:List Pt) (tn td:Int) (m:List P2) (o:Ck):Prop where
 V:V9 o
 tn:o.tn=tn
 td:o.td=td
 s:o.s=s
 l:o.l.map abP=m
 id:∀ (k:Nat) (p:Pt),o.l[k]?=some p→p.id=(k:Int)
 x:o.x=(m.length:Int)
 u:∀ i∈o.fr,o.u[i.toNat]?=some 0
 f:200≤o.fr.length+m.length
theorem qyc {u fr:List Int} {b:List Bool} (hu:∀ i∈fr,u[i.toNat]?=some 0) (hf:0<fr.length):qbu u b fr≠none:=by
 unfold qbu
 have hne:fr≠[]:=fun e=>by rw[e] at hf;simp at hf
 rw[List.getLast?_eq_some_getLast hne]
 simp only[hu _ (List.getLast_mem hne)]
 simp
theorem qvJ {s:List Pt} {tn td:Int} {m:List P2} {o:Ck} (I:CInv s tn td m o) (h1:I64 tn) (h2:I64 td) {g:P2} (hc:qbC g.a g.b=true) (ha:∃ q∈s,q.id=g.a) (hb:∃ q∈s,q.id=g.b) (hn:g∉m) (hm:m.length<200) :
 cyE o g.a g.b=0∧∃ o',qhy o g.a g.b o'∧CInv s tn td (m++[g]) o':=by
 have ol:o.l.length=m.length:=by rw[← I.l,List.length_map]
 have hh:qeN o.l g.a g.b=false:=by
  refine qgA fun k p hk he=>hn ?_
  rw[← I.l]
  refine List.mem_map.2 ⟨p,List.mem_of_getElem? hk,?_⟩
  show (⟨p.a,p.b⟩:P2)=g
  rw[he.1,he.2]
 have tk:=qyc (b:=o.b) I.u (by have:=I.f;omega)
 have ad:adE o g.a g.b=0:=by
  unfold adE
  rw[if_neg (by rw[hh];decide),if_neg (by have:=I.x;omega),if_neg fun h=>tk h.2]
 have cy:cyE o g.a g.b=0:=by
  unfold cyE
  rw[if_pos ⟨I.V,hc⟩,if_pos (by rw[I.s];exact⟨ha,hb⟩)]
  exact ad
 obtain⟨o',ho⟩:=qEy ad
 obtain⟨V',e1,e2,e3⟩:=I.V.certify (by rw[I.tn];exact h1) (by rw[I.td];exact h2) cy ho
 refine⟨cy,o',ho,V',e1.trans I.tn,e2.trans I.td,e3.trans I.s,?_,?_,?_,?_,?_⟩
 all_goals
  rcases ho with ⟨_,rfl⟩ | ⟨_,u2,b2,f2,hi,hw,hk,rfl⟩
 ·simp only[List.map_append,I.l];rfl
 ·simp only[List.map_append,I.l];rfl
 ·intro k p hp
  rcases Nat.lt_or_ge k o.l.length with h | h
  ·exact I.id k p (by rw[List.getElem?_append_left h] at hp;exact hp)
  ·rw[List.getElem?_append_right h] at hp
   have hk:=qaj hp
   simp at hk
   have:k=o.l.length:=by omega
   subst this
   simp at hp
   subst hp
   have:=I.x
   show o.x=_
   omega
 ·intro k p hp
  rcases Nat.lt_or_ge k o.l.length with h | h
  ·exact I.id k p (by rw[List.getElem?_append_left h] at hp;exact hp)
  ·rw[List.getElem?_append_right h] at hp
   have hk:=qaj hp
   simp at hk
   have:k=o.l.length:=by omega
   subst this
   simp at hp
   subst hp
   have:=I.x
   show o.x=_
   omega
 ·have:=I.x
  show o.x+1=_
  rw[List.length_append,List.length_singleton]
  omega
 ·have:=I.x
  show o.x+1=_
  rw[List.length_append,List.length_singleton]
  omega
 ·exact I.u
 ·obtain⟨y,hl,_,_,rfl,_,rfl,_⟩:=qba hk
  intro i hi'
  have hne:o.fr≠[]:=fun e=>by rw[e] at hl;cases hl
  have hlast:o.fr.getLast hne=hi:=by
   rw[List.getLast?_eq_some_getLast hne] at hl
   exact Option.some.inj hl
  have hmem:i∈o.fr:=List.dropLast_subset _ hi'
  have nd:=I.V.a.vd.nod
  have rg:=I.V.a.vd.rng
  have hne2:i≠hi:=fun e=>by
   have e0:=List.dropLast_concat_getLast hne
   rw[hlast] at e0
   rw[← e0,List.nodup_append] at nd
   exact nd.2.2 i hi' hi (List.mem_singleton.2 rfl) e
  have r1:=rg i hmem
  have r2:=rg hi (hlast▸List.getLast_mem hne)
  show (o.u.set hi.toNat hw)[i.toNat]?=some 0
  rw[List.getElem?_set_ne (by omega)]
  exact I.u i hmem
 ·have:=I.f
  show 200≤o.fr.length+_
  rw[List.length_append]
  simp
  omega
 ·obtain⟨y,hl,_,_,rfl,_,rfl,_⟩:=qba hk
  have:=I.f
  show 200≤o.fr.dropLast.length+_
  rw[List.length_dropLast,List.length_append]
  simp
  omega
theorem qxw {s:List Pt} {tn td:Int} (hs:Val s) (ht:okB tn td=true):CInv s tn td [] (qca s tn td) where
 V:=qiE hs ht
 tn:=rfl
 td:=rfl
 s:=rfl
 l:=rfl
 id:=fun k p hp=>by simp at hp
 x:=rfl
 u:=fun i hi=>by
  obtain⟨r1,r2⟩:=(VA.new (n:=200) (by omega) (by omega)).vd.rng i hi
  rw[List.length_replicate] at r2
  show (List.replicate 200 (0:Int))[i.toNat]?=some 0
  rw[List.getElem?_replicate,if_pos (by omega)]
 f:=by
  show 200≤(qbH 200).length+0
  rw[qaN]
  exact Nat.le_refl _
end Go.Proofs.YtkckcgpmnipnaaaGreat
