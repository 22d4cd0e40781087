/-
  Joined: Bf, Bg. Conditions: none.
-/
import Derived.Test.YtkjaanhddkkodaaGreatBe
import Derived.Test.YtkjaanhddkkodaaGreatW42
import Derived.Test.YtkjaanhddkkodaaGreatW31
import Derived.Test.YtkjaanhddkkodaaGreatW23
import Derived.Test.YtkjaanhddkkodaaGreatW18
import Derived.Test.YtkjaanhddkkodaaGreatW44
namespace Go.Proofs.YtkjaanhddkkodaaGreat
set_option maxRecDepth 100000
open Go.RowKit
theorem qgD {f:FuncId} {e:TypeId} {es n:Nat} {xs:List Value} (hx:xs.length=n*es)
 (pth:0<n→Fn f 1 [.ls 0 n] [(0,0,.row e es n xs)] (.ls 1 n) 1 [(1,0,.row e es n xs)])
 (pe:∀ ad c,Fn f 0 [.pv (.slice (some ad) 0 c)] [] (.ls 0 0) 1 [(0,0,.row e es 0 [])])
 (pn:∀ c,Pure Tryz.prog f #[.slice none 0 c] (.slice none 0 0)):Fn f 1 [.ls 0 n] [(0,0,.row e es n xs)] (.ls 1 n) 1 [(1,0,.row e es n xs)]:=by
 rcases Nat.eq_zero_or_pos n with h | h
 ·subst h
  obtain rfl:=List.eq_nil_of_length_eq_zero (by simpa using hx)
  intro w β us hH hd hargs
  match us,hargs with
  | [v],⟨⟨_,a,c,hv⟩,_⟩=>
   have hd1:=hd 1 (Nat.le_refl _)
   cases a with
   | none=>
    subst hv
    refine (pn c w).mono fun e' w' ⟨he,hg⟩=>?_
    have ho:w'.ownsRow w.heap.size e es (.slice none 0 0) 0 []:=⟨by simp,Or.inl ⟨rfl,rfl⟩⟩
    exact⟨_,β.setG 1 (.slice none 0 0),he,Bl.le_setG hd1.1 hd1.2,⟨Bl.setG_same _ _ _,none,0,rfl⟩,qcY hH hd hg ho (fun v hv=>by cases hv),qbT hd⟩
   | some ad=>
    subst hv
    refine (pe ad c w Bl.no [.slice (some ad) 0 c] (qdY w) (fun _ _=>⟨rfl,rfl⟩) ⟨rfl,tI⟩).mono fun e' w' ⟨v,β',he,_,⟨hx,a',c',hv⟩,hh,_⟩=>?_
    obtain⟨u,hu,hr⟩:=hh.rows 0 0 _ _ _ _ rfl
    rw[hx] at hu
    cases hu
    exact⟨_,β.setG 1 v,he,Bl.le_setG hd1.1 hd1.2,⟨Bl.setG_same _ _ _,a',c',hv⟩,qcY hH hd hh.gr (hr.own (Nat.le_refl _)) (fun v hv=>by cases hv),qbT hd⟩
 ·exact pth h
theorem qwi {l:List Pt} (hn:l.length≤1000000):Fn 100 1 [.ls 0 l.length] [(0,0,qak l)] (.ls 1 l.length) 1 [(1,0,qak l)]:=
 qgD (qa7 l) (fun h=>qks h (by omega)) (fun ad c=>qsn) (fun c=>qm9)
theorem qtE {l:List Pt} (hn:l.length≤1000000):Fn 106 1 [.ls 0 l.length] [(0,0,qal l)] (.ls 1 l.length) 1 [(1,0,qal l)]:=
 qgD (qa7 l) (fun h=>qqH h (by omega)) (fun ad c=>qEp) (fun c=>qup)
theorem quH {l:List Pt} (hn:l.length≤1000000):Fn 108 1 [.ls 0 l.length] [(0,0,qaU l)] (.ls 1 l.length) 1 [(1,0,qaU l)]:=
 qgD (qa7 l) (fun h=>qoG h (by omega)) (fun ad c=>qEo) (fun c=>qtU)
theorem qiC {s:List Pt} (hn:s.length≤1000000):Fn 51 1 [qaI 0 s] [(0,0,qak s)] (.ag [.ls 1 s.length]) 1 [(1,0,qak s)]:=ccf (h1:=qwi hn)
theorem qgM {c:Ck} (S:S9 c) (hs:c.s.length≤1000000):Fn 58 8 [qap c] (qaq c) (qwT c) 8 (qdu c):=by
 have h1:=S.l
 have h2:=S.d
 have h3:=S.a.lu
 have h4:=S.a.lb
 have h5:=S.a.lf
 have h6:=S.a.le
 have h7:=S.a.lw
 exact ccl (h1:=qiC hs) (h2:=qtE (by omega)) (h3:=cca (c0:=qaY (by omega)) (c1:=qfb (by omega)) (c2:=qaY (by omega)) (c3:=qd6 (qa8 c.ev) (by omega)) (c4:=qaY (by omega))) (h4:=quH (by omega))
theorem qiW {l:List Pt} (hn:l.length≤1000000) (hu:Up l) {n:Int} {k:Nat} {p:Pt} (hk:l[k]?=some p) (he:p.id=n):Fn 110 1 [.ls 0 l.length,.pv (iV n)] [(0,0,qaU l)] (.pv (.tuple #[iV (k:Int),.bool true])) 0 []:=cfd (hb:=qtG hn hu hk he)
theorem qjB {l:List Pt} (hn:l.length≤1000000) (hu:Up l) {n:Int} (h:∀ p∈l,p.id≠n):∃ k,k≤l.length∧(∀ (t:Nat) (p:Pt),t<k→l[t]?=some p→p.id<n)∧(∀ (t:Nat) (p:Pt),k≤t→l[t]?=some p→n<p.id)∧
 Fn 110 1 [.ls 0 l.length,.pv (iV n)] [(0,0,qaU l)] (.pv (.tuple #[iV (k:Int),.bool false])) 0 []:=by
 obtain⟨k,h1,h2,h3,r⟩:=qoN hn hu h
 exact⟨k,h1,h2,h3,cfd (hb:=r)⟩
theorem qE4 {l:List Pt} (hn:l.length≤1000) {k:Nat} (hk:k<l.length):Fn 162 2 [.ps 1 0 2 2] [(1,0,.lq 0 3 0 k),(1,1,.lq 0 3 (0+(k+1)) (l.length-(k+1))),(0,0,qaU l)] (.ls 2 (l.take k++l.drop (k+1)).length) 1 [(2,0,qaU (l.take k++l.drop (k+1)))]:=by
 by_cases hz:l.length=1
 ·refine qAe (s1:=(k:Int)) (s2:=((k+(l.length-(k+1)):Nat):Int)) (q1:=qb9 (by omega) (by omega) (by omega)) (n1:=df (by omega)) (q2:=qb9 (by omega) (by omega) (by omega)) (n2:=df (by omega)) (hgr:=?_) (a1:=by omega) (a2:=by omega) (hkl1:=by omega)
  rw[show ((k+(l.length-(k+1)):Nat):Int)=0 by omega]
  exact qD9 (h0:=df (by omega)) (hs:=by rw[qao (by omega) (by omega)];rfl) (hg:=df (by omega))
 ·exact qyp (s1:=(k:Int)) (s2:=((k+(l.length-(k+1)):Nat):Int)) (q1:=qb9 (by omega) (by omega) (by omega)) (n1:=df (by omega)) (q2:=qb9 (by omega) (by omega) (by omega)) (n2:=df (by omega))
   (hgr:=qAQ (h0:=df (by omega)) (hs:=by rw[qao (by omega) (by omega)];congr 1<;>omega) (hg:=dt (by omega)) (a0:=by omega) (a1:=by omega)) (a1:=by omega) (a2:=by omega) (hkl1:=by omega)
theorem qFa {l:List Pt} (hn:l.length≤1000) {k:Nat} (hk:k≤l.length) (n hi hw:Int):Fn 162 3 [.ps 2 0 3 3] [(2,0,.lq 0 3 0 k),(2,1,.ps 1 0 1 1),(2,2,.lq 0 3 (0+k) (l.length-k)),(1,0,.pv (iV n)),(1,1,.pv (iV hi)),(1,2,.pv (iV hw)),(0,0,qaU l)] (.ls 3 (l.take k++Pt.mk n hi hw::l.drop k).length) 1 [(3,0,qaU (l.take k++Pt.mk n hi hw::l.drop k))]:=
 qFz (s1:=(k:Int)) (s2:=((k+1:Nat):Int)) (s3:=((k+1+(l.length-k):Nat):Int)) (q1:=qb9 (by omega) (by omega) (by omega)) (n1:=df (by omega)) (q2:=qb9 (by omega) (by omega) (by omega)) (n2:=df (by omega)) (q3:=qb9 (by omega) (by omega) (by omega)) (n3:=df (by omega))
  (hgr:=qAQ (h0:=df (by omega)) (hs:=by rw[qao (by omega) (by omega)];congr 1<;>omega) (hg:=dt (by omega)) (a0:=by omega) (a1:=by omega)) (a1:=by omega) (a2:=by omega) (a3:=by omega) (hkl:=hk)
structure T9 (c:Ck):Prop where
 p:P9 c
 a:VA c.u c.b c.fr c.ev c.wh
 u:Up c.d
 l:c.d.length≤1000
theorem V9.t9 {c:Ck} (V:V9 c) (S:S9 c):T9 c:=⟨V.p9 S,V.a,V.due_up,by have:=S.d;omega⟩
theorem qz4 {c:Ck} (T:T9 c) {n:Int} (h:∀ q∈c.d,q.id≠n):Fn 113 8 [qap c,.pv (iV n)] (qaq c) (qap c) 0 []:=by
 have hl:=T.l
 obtain⟨k,_,_,_,r⟩:=qjB (by omega) T.u h
 exact qDn (hfd:=r)
abbrev qB2 (o:Ck):List (Nat×Nat×SV):=[(8,0,zrI o.u),(9,0,zrB o.b),(10,0,zrI o.fr),(11,0,qau o.ev),(12,0,zrI o.wh)]
abbrev qtw (o:Ck) (d:List Pt):List (Nat×Nat×SV):=[(8,0,zrI o.u),(9,0,zrB o.b),(10,0,zrI o.fr),(11,0,qau o.ev),(12,0,zrI o.wh),(13,0,qaU d)]
abbrev qgo (c:Ck) (j:Nat) (y:Ev):Ck:={ c with b:=c.b.set y.i.toNat false,fr:=c.fr++[y.i],ev:=(qam c.ev c.wh j y).1,wh:=(qam c.ev c.wh j y).2 }
abbrev qAP (c:Ck) (j:Nat) (y:Ev) (n d:Int):Ck:={ c with ev:=(qa0 c.ev c.wh j y n d).1,wh:=(qa0 c.ev c.wh j y n d).2 }
abbrev qkd (c:Ck) (u2 f2:List Int) (b2:List Bool) (n d k hi hw:Int):Ck:={ c with u:=u2,b:=b2,fr:=f2,ev:=(qa6 c.ev c.wh ⟨n,d,k,hi,hw⟩).1,wh:=(qa6 c.ev c.wh ⟨n,d,k,hi,hw⟩).2 }
theorem qrS {c:Ck} (T:T9 c) {n:Int} {k j:Nat} {q:Pt} {y:Ev} (hq:c.d[k]?=some q) (he:q.id=n) (hy:c.ev[j]?=some y) (e1:y.i=q.a) (e2:y.w=q.b):Fn 113 8 [qap c,.pv (iV n)] (qaq c) (qA6 c (qgo c j y) (c.d.take k++c.d.drop (k+1))) 6 (qtw (qgo c j y) (c.d.take k++c.d.drop (k+1))):=by
 have hl:=T.l
 have hk:=qaj hq
 obtain⟨h1,h2⟩:=VA.own T.a hy
 rw[e1,e2] at h1
 rw[e1] at h2
 exact qwO (o:=qgo c j y) (hfd:=qiW (by omega) T.u hq he) (hq:=hq) (hiq:=qan hk) (hr:=qho T.a h1 h2 hy) (hkl:=by omega) (hkl1:=by omega) (hk1:=qat (by omega)) (hcut:=qE4 hl hk)
theorem qw3 {c:Ck} (T:T9 c) {p:Pt} (hp:p∈c.l) (f:(qae c.s c.tn c.td p).2.2=true) {k j:Nat} {q:Pt} {y:Ev} (hq:c.d[k]?=some q) (he:q.id=p.id) (hy:c.ev[j]?=some y) (e1:y.i=q.a) (e2:y.w=q.b) :
 Fn 59 8 [qap c,.pv (ptV p)] (qaq c) (.tu [qut c (qAP c j y (qae c.s c.tn c.td p).1 (qae c.s c.tn c.td p).2.1),.one (.pv (iV 0))]) 5 (qB2 (qAP c j y (qae c.s c.tn c.td p).1 (qae c.s c.tn c.td p).2.1)):=by
 have hl:=T.l
 have hk:=qaj hq
 have W:=T.p.fl hp
 rw[f] at W
 obtain⟨k1,k2,k3,_⟩:=(qbw T.p.tn T.p.td T.p.t T.p.s (T.p.v.ok p hp) (T.p.k p hp).1 (T.p.k p hp).2).i.ok f
 obtain⟨h1,h2⟩:=VA.own T.a hy
 rw[e1,e2] at h1
 rw[e1] at h2
 exact qz5 (o:=qAP c j y (qae c.s c.tn c.td p).1 (qae c.s c.tn c.td p).2.1) (hf:=W) (hfd:=qiW (by omega) T.u hq he) (hq:=hq) (hiq:=qan hk) (hr:=qiI ⟨k2,k3⟩ k1 T.a h1 h2 hy)
theorem qn6 {c:Ck} (T:T9 c) {p:Pt} (hp:p∈c.l) (f:(qae c.s c.tn c.td p).2.2=true) (hn:∀ q∈c.d,q.id≠p.id) (hz:cnE c.ev p.id=0) {u2 f2:List Int} {b2:List Bool} {hi hw:Int} (ht:qbE c.u c.b c.fr=some (u2,b2,f2,hi,hw)) :
 ∃ k,k≤c.d.length∧(∀ (t:Nat) (q:Pt),t<k→c.d[t]?=some q→q.id<p.id)∧(∀ (t:Nat) (q:Pt),k≤t→c.d[t]?=some q→p.id<q.id)∧
 Fn 59 8 [qap c,.pv (ptV p)] (qaq c) (.tu [qhd c (qkd c u2 f2 b2 (qae c.s c.tn c.td p).1 (qae c.s c.tn c.td p).2.1 p.id hi hw) (c.d.take k++Pt.mk p.id hi hw::c.d.drop k),.one (.pv (iV 0))]) 6 (qtw (qkd c u2 f2 b2 (qae c.s c.tn c.td p).1 (qae c.s c.tn c.td p).2.1 p.id hi hw) (c.d.take k++Pt.mk p.id hi hw::c.d.drop k)):=by
 have hl:=T.l
 have W:=T.p.fl hp
 rw[f] at W
 obtain⟨k1,k2,k3,_⟩:=(qbw T.p.tn T.p.td T.p.t T.p.s (T.p.v.ok p hp) (T.p.k p hp).1 (T.p.k p hp).2).i.ok f
 obtain⟨k,h1,h2,h3,r⟩:=qjB (by omega) T.u hn
 refine⟨k,h1,h2,h3,qu3 (o:=qkd c u2 f2 b2 (qae c.s c.tn c.td p).1 (qae c.s c.tn c.td p).2.1 p.id hi hw) (hf:=W) (hfd:=r) (hp:=?_)⟩
 exact qEh (o:=qkd c u2 f2 b2 (qae c.s c.tn c.td p).1 (qae c.s c.tn c.td p).2.1 p.id hi hw) (hp:=qkk ⟨k2,k3⟩ k1 T.a hz ht) (hfd:=r) (hkl:=h1) (hins:=qFa hl h1 p.id hi hw)
theorem qmG {c:Ck} (T:T9 c) {p:Pt} (hp:p∈c.l) (f:(qae c.s c.tn c.td p).2.2=true) (hn:∀ q∈c.d,q.id≠p.id) (hz:cnE c.ev p.id=0) (ht:qbE c.u c.b c.fr=none) :
 Fn 59 8 [qap c,.pv (ptV p)] (qaq c) (.pv (.tuple #[qcC,iV 18])) 0 []:=by
 have hl:=T.l
 have W:=T.p.fl hp
 rw[f] at W
 obtain⟨k1,k2,k3,_⟩:=(qbw T.p.tn T.p.td T.p.t T.p.s (T.p.v.ok p hp) (T.p.k p hp).1 (T.p.k p hp).2).i.ok f
 obtain⟨k,h1,h2,h3,r⟩:=qjB (by omega) T.u hn
 exact quT (hf:=W) (hfd:=r) (hp:=qy3 (hp:=qkg ⟨k2,k3⟩ k1 T.a hz ht) (he:=by decide))
theorem qtc {c:Ck} (T:T9 c) {p:Pt} (hp:p∈c.l) (f:(qae c.s c.tn c.td p).2.2=false) {k j:Nat} {q:Pt} {y:Ev} (hq:c.d[k]?=some q) (he:q.id=p.id) (hy:c.ev[j]?=some y) (e1:y.i=q.a) (e2:y.w=q.b) :
 Fn 59 8 [qap c,.pv (ptV p)] (qaq c) (.tu [qhd c (qgo c j y) (c.d.take k++c.d.drop (k+1)),.one (.pv (iV 0))]) 6 (qtw (qgo c j y) (c.d.take k++c.d.drop (k+1))):=by
 have hl:=T.l
 have W:=T.p.fl hp
 rw[f] at W
 exact qsT (o:=qgo c j y) (hf:=W) (hfd:=qiW (by omega) T.u hq he) (hel:=qrS T hq he hy e1 e2)
theorem qor {c:Ck} (T:T9 c) {p:Pt} (hp:p∈c.l) (f:(qae c.s c.tn c.td p).2.2=false) (hn:∀ q∈c.d,q.id≠p.id) :
 Fn 59 8 [qap c,.pv (ptV p)] (qaq c) (.tu [qp7 c,.one (.pv (iV 0))]) 0 []:=by
 have hl:=T.l
 have W:=T.p.fl hp
 rw[f] at W
 obtain⟨k,h1,h2,h3,r⟩:=qjB (by omega) T.u hn
 exact qtt (hf:=W) (hfd:=r) (hel:=qz4 T hn)
theorem qnT {x:Int} {l:List Pt} (h:V8 x l) {n:Int} (hn:∀ p∈l,p.id≠n):qzL 114 x l n 6:=by
 have c:=qgs x l
 rw[qdt h] at c
 have hl:=h.len
 rcases qrX h.up n with ⟨k,p,hk,he⟩ | ⟨_,k,hkl,hlo,hhi⟩
 ·exact (hn p (List.mem_of_getElem? hk) he).elim
 ·exact qv5 (a:=0) (b:=0) (hg:=qzp (hc:=c) (hf:=qo6 x (by omega) hkl hlo hhi)) (he:=by decide)
theorem qpS {x:Int} {l:List Pt} (h:V8 x l) {k:Nat} {p:Pt} (hk:l[k]?=some p):qEd 114 x l p.id (l.take k++l.drop (k+1)) p.a p.b:=by
 have c:=qgs x l
 rw[qdt h] at c
 have hl:=qaj hk
 have hn:=h.len
 have F:=qlW x (by omega) h.up hk rfl
 exact qyB (hg:=quo (hk:=hk) (hin:=qan hl) (hc:=c) (hf:=F)) (hf:=F) (hkl:=by omega) (hkl1:=by omega) (hk1:=qat (by omega)) (hcut:=qE8 (by omega) hl)
theorem qsG {c:Ck} (V:V9 c) {n:Int} (h:¬ ∃ p∈c.l,p.id=n):Fn 60 8 [qap c,.pv (iV n)] (qaq c) (.pv (.tuple #[qcC,qag 0 0,iV 6])) 0 []:=
 qz8 (hrm:=qnT V.v fun p hp he=>h ⟨p,hp,he⟩) (he:=by decide)
theorem qAZ {c:Ck} (S:S9 c) (V:V9 c) {p:Pt} (hp:p∈c.l) {o:Ck} (h:qfR c p.id o):Fn 60 8 [qap c,.pv (iV p.id)] (qaq c) (.tu [qgY o,.one (.pv (qag p.a p.b)),.one (.pv (iV 0))]) 8 (qdu o):=by
 have T:=V.t9 S
 have hs:=V.s.len
 obtain⟨i,hi⟩:=List.getElem?_of_mem hp
 have R:=qpS V.v hi
 rw[← qc6 V.v.up hi] at R
 have C:=qgM S (by omega)
 rcases h with ⟨h1,rfl⟩ | ⟨k,q,j,y,hq,he,_,hy,e1,e2,rfl⟩
 ·exact qBQ (l2:=qaB c.l p.id) (hrm:=R) (hcl:=C) (hel:=qz4 T h1)
 ·exact qyY (l2:=qaB c.l p.id) (l:=c.d.take k++c.d.drop (k+1)) (o:=qgo c j y) (hrm:=R) (hcl:=C) (hel:=qrS T hq he hy e1 e2)
end Go.Proofs.YtkjaanhddkkodaaGreat

namespace Go.Proofs.YtkjaanhddkkodaaGreat
set_option maxRecDepth 100000
open Go.RowKit
theorem qDO (s:List Pt) (tn td:Int):Fn 50 0 [.pv (iV 200)] [] (.tu [.ag [.ls 0 (qdX s tn td).u.length,.ls 1 (qdX s tn td).b.length,.ls 2 (qdX s tn td).fr.length,.ls 4 0,.ls 3 (qdX s tn td).wh.length],.one (.pv (iV 0))]) 5
 [(0,0,zrI (qdX s tn td).u),(1,0,zrB (qdX s tn td).b),(2,0,zrI (qdX s tn td).fr),(3,0,zrI (qdX s tn td).wh),(4,0,qau [])]:=by
 have h:=qv1 (n:=200) (by omega) (by omega)
 have e1:(qdX s tn td).u.length=200:=List.length_replicate
 have e2:(qdX s tn td).b.length=200:=List.length_replicate
 have e3:(qdX s tn td).fr.length=200:=qbF 200
 have e4:(qdX s tn td).wh.length=200:=List.length_replicate
 unfold zrI zrB
 rw[e1,e2,e3,e4]
 exact h
theorem qzi {s:List Pt} {tn td:Int} (htn:I64 tn) (htd:I64 td):(tE s tn td≠0→qyJ 10 s tn td (tE s tn td))∧(tE s tn td=0→qz1 10 s tn td):=by
 have h1:=qed s
 have h2:∃ e2:Int,Pure Tryz.prog 49 #[qaa tn td] (iV e2)∧e2=(if okB tn td=true then 0 else 8):=by
  by_cases ht:okB tn td=true
  ·exact⟨0,qb5 htn htd ht,by rw[if_pos ht]⟩
  ·exact⟨8,qfg htn htd ht,by rw[if_neg ht]⟩
 obtain⟨e2,h2,he⟩:=h2
 by_cases hs:qfx s=0
 ·have e:tE s tn td=e2:=by unfold tE;rw[if_pos hs,he]
  rw[hs] at h1
  rw[e]
  refine⟨fun h=>qxf (h1:=h1) (h2:=h2) (he:=by simpa using h),fun h=>?_⟩
  rw[h] at h2
  have hl:=(qcU.1 hs).len
  have r:=qyi (o:=qdX s tn td) (h1:=h1) (h2:=h2) (ha:=qDO s tn td) (hf:=qiC (by omega)) (hcn:=qgN)
  exact qvQ 54 3 r (.tu (.cons (.ag (.cons (.same _) (.cons (.same _) (.cons (.same _) (.cons (.same _) (.cons (.same _) (.cons (.same _) (.cons (.same _) (.cons (.same _) (.cons (.same _) (.cons (.same _) (.cons .nil .nil)))))))))))) (.cons (.one (.same _)) .nil)))
 ·have e:tE s tn td=qfx s:=by unfold tE;rw[if_neg hs]
  rw[e]
  exact⟨fun h=>qzJ (h1:=h1) (h2:=h2) (he:=by simpa using h),fun h=>(hs h).elim⟩
theorem qqo (a b:Int):qft [] a b=false:=qgS fun k p hp=>by simp at hp
theorem qwV {s:List Pt} (hn:s.length≤1000000) (a b:Int):∃ e:Int,Fn 56 1 [qaI 0 s,.pv (qag a b)] [(0,0,qak s)] (.pv (iV e)) 0 []∧
 ((e=8∧¬ qcc a b=true)∨(e=0∧qcc a b=true∧(Val s→(∃ q∈s,q.id=a)∧∃ g∈s,g.id=b))∨(e=6∧qcc a b=true∧(Val s→¬ ((∃ q∈s,q.id=a)∧∃ g∈s,g.id=b)))):=by
 rcases qjW 0 (l:=[]) (by simp) a b with ⟨e,h,_,h1 | h1 | h1⟩ | ⟨_,hc,_,_,_,h,_⟩
 ·rw[h1.1] at h
  rcases h1.2 with h2 | h2
  ·exact (h2 (V8.none (by omega))).elim
  ·exact⟨8,quh (hn:=qgN) (had:=h),Or.inl ⟨rfl,h2⟩⟩
 ·have:=h1.2.2.2
  rw[qqo] at this
  cases this
 ·rcases h1.2.2.2.2 with h2 | h2
  ·simp at h2
  ·cases h2
 ·obtain⟨w,hb,e⟩:=qrR hn a b
  cases w
  ·exact⟨6,qrl (hn:=qgN) (had:=h) (hb:=hb),Or.inr (Or.inr ⟨rfl,hc,fun hs h=>by have:=(e hs).2 h;cases this⟩)⟩
  ·exact⟨0,qyh (hn:=qgN) (had:=h) (hb:=hb),Or.inr (Or.inl ⟨rfl,hc,fun hs=>(e hs).1 rfl⟩)⟩
theorem qle {l:List Pt} {n:Int} {k:Nat} (hk:k≤l.length) (h:∀ q∈l,q.id<n) (h3:∀ (t:Nat) (q:Pt),k≤t→l[t]?=some q→n<q.id):k=l.length:=by
 rcases Nat.lt_or_ge k l.length with hl | hl
 ·obtain⟨q,hq⟩:=qah hl
  have:=h3 k q (Nat.le_refl _) hq
  have:=h q (List.mem_of_getElem? hq)
  omega
 ·omega
theorem V9.due_hi {c:Ck} (V:V9 c):∀ q∈c.d,q.id<c.x:=fun q hq=>by
 obtain⟨p,hp,_,y,hd⟩:=V.f.some q hq
 rw[hd.id]
 exact V.v.hi p hp
theorem qe0 {c:Ck} (S:S9 c) (hs:c.s.length≤70) (a b:Int):(cyE c a b≠0→qAF 16 c a b (cyE c a b))∧(cyE c a b=0→∀ o,qhl c a b o→qE1 16 c a b o):=by
 have h1:=qcA S hs
 obtain⟨e2,h2,he2⟩:=qwV (s:=c.s) (by omega) a b
 have hl:=S.l
 by_cases V:V9 c
 ·rw[qbM V] at h1
  rcases he2 with ⟨rfl,hc⟩ | ⟨rfl,hc,hk⟩ | ⟨rfl,hc,hk⟩
  ·have e:cyE c a b=8:=by unfold cyE;rw[if_neg fun h=>hc h.2]
   rw[e]
   exact⟨fun _=>qr8 (h1:=h1) (h2:=h2) (he:=by decide),fun h=>by cases h⟩
  ·obtain⟨pa,pb⟩:=hk V.s
   have e:cyE c a b=adE c a b:=by unfold cyE;rw[if_pos ⟨V,hc⟩,if_pos ⟨pa,pb⟩]
   rw[e]
   have C:=qgM S (by omega)
   rcases qjW c.x S.l a b with ⟨e,h,_,h3 | h3 | h3⟩ | ⟨_,_,hh,hn,hx,h,_⟩
   ·rcases h3.2 with h4 | h4
    ·exact (h4 V.v).elim
    ·exact (h4 hc).elim
   ·have e1:adE c a b=14:=by unfold adE;rw[if_pos h3.2.2.2]
    rw[e1]
    rw[h3.1] at h
    exact⟨fun _=>qnB (h1:=h1) (h2:=h2) (had:=h) (he:=by decide),fun h=>by cases h⟩
   ·have e1:adE c a b=18:=by unfold adE;rw[if_neg (by rw[h3.2.2.2.1];decide),if_pos h3.2.2.2.2]
    rw[e1]
    rw[h3.1] at h
    exact⟨fun _=>qnB (h1:=h1) (h2:=h2) (had:=h) (he:=by decide),fun h=>by cases h⟩
   ·have e1:adE c a b=if qaQ c ⟨c.x,a,b⟩=true∧qbE c.u c.b c.fr=none then 18 else 0:=by
     unfold adE
     rw[if_neg (by rw[hh];decide),if_neg (by omega)]
    have kn:qcM (c.l++[⟨c.x,a,b⟩]) c.s:=fun p hp=>by
     rcases List.mem_append.1 hp with hp | hp
     ·exact V.k p hp
     ·rw[List.mem_singleton.1 hp]
      exact⟨pa,pb⟩
    have T0:=V.t9 S
    have T:T9 ({ c with x:=c.x+1,l:=c.l++[⟨c.x,a,b⟩] }:Ck):=⟨⟨S.tn,S.td,V.t,V.s,V8.add V.v hc hh hn hx,kn⟩,V.a,T0.u,T0.l⟩
    have hp:(⟨c.x,a,b⟩:Pt)∈({ c with x:=c.x+1,l:=c.l++[⟨c.x,a,b⟩] }:Ck).l:=List.mem_append_right _ (List.mem_singleton.2 rfl)
    have hd:∀ q∈({ c with x:=c.x+1,l:=c.l++[⟨c.x,a,b⟩] }:Ck).d,q.id≠(⟨c.x,a,b⟩:Pt).id:=fun q hq=>by
     have:=V.due_hi q hq
     show q.id≠c.x
     omega
    cases hf:qaQ c ⟨c.x,a,b⟩
    ·rw[hf,if_neg (by simp)] at e1
     rw[e1]
     refine⟨fun h=>(h rfl).elim,fun _ o ho=>?_⟩
     rcases ho with ⟨_,rfl⟩ | ⟨h2',_⟩
     ·exact qwX (l2:=c.l++[⟨c.x,a,b⟩]) (x2:=c.x+1) (h1:=h1) (h2:=h2) (had:=h) (hcl:=C) (ht:=qor T hp hf hd)
     ·rw[hf] at h2';cases h2'
    ·cases ht:qbE c.u c.b c.fr with
     | none=>
      rw[if_pos ⟨hf,ht⟩] at e1
      rw[e1]
      exact⟨fun _=>qpG (l2:=c.l++[⟨c.x,a,b⟩]) (x2:=c.x+1) (h1:=h1) (h2:=h2) (had:=h) (hcl:=C) (ht:=qmG T hp hf hd V.new ht) (he:=by decide),fun h=>by cases h⟩
     | some z=>
      rw[if_neg (by rw[ht];simp)] at e1
      rw[e1]
      refine⟨fun h=>(h rfl).elim,fun _ o ho=>?_⟩
      rcases ho with ⟨h2',_⟩ | ⟨_,u2,b2,f2,hi,hw,h2',rfl⟩
      ·rw[hf] at h2';cases h2'
      ·obtain⟨k,k1,_,k3,r⟩:=qn6 T hp hf hd V.new h2'
       have ek:k=c.d.length:=qle k1 (fun q hq=>V.due_hi q hq) k3
       subst ek
       rw[show ({ c with x:=c.x+1,l:=c.l++[⟨c.x,a,b⟩] }:Ck).d.take c.d.length=c.d from List.take_length,show ({ c with x:=c.x+1,l:=c.l++[⟨c.x,a,b⟩] }:Ck).d.drop c.d.length=[] from List.drop_length] at r
       exact qtg (l2:=c.l++[⟨c.x,a,b⟩]) (x2:=c.x+1) (l:=c.d++[⟨c.x,hi,hw⟩]) (h1:=h1) (h2:=h2) (had:=h) (hcl:=C) (ht:=r)
  ·have e:cyE c a b=6:=by unfold cyE;rw[if_pos ⟨V,hc⟩,if_neg (hk V.s)]
   rw[e]
   exact⟨fun _=>qr8 (h1:=h1) (h2:=h2) (he:=by decide),fun h=>by cases h⟩
 ·rw[qby V] at h1
  have e:cyE c a b=8:=by unfold cyE;rw[if_neg fun h=>V h.1]
  rw[e]
  exact⟨fun _=>qAR (h1:=h1) (h2:=h2) (he:=by decide),fun h=>by cases h⟩
theorem qp9 {c:Ck} (S:S9 c) (hs:c.s.length≤70) (n:Int):(reE c n≠0→qAV 17 c n (reE c n))∧(reE c n=0→∀ o,qfR c n o→qEY 17 c n o):=by
 have h1:=qcA S hs
 by_cases V:V9 c
 ·rw[qbM V] at h1
  by_cases h:∃ p∈c.l,p.id=n
  ·have e:reE c n=0:=by unfold reE;rw[if_pos V,if_pos h]
   obtain⟨p,hp,rfl⟩:=h
   exact⟨fun h=>(h e).elim,fun _ o ho=>qAa (h1:=h1) (hr:=qAZ S V hp ho)⟩
  ·have e:reE c n=6:=by unfold reE;rw[if_pos V,if_neg h]
   rw[e]
   exact⟨fun _=>qtV (h1:=h1) (hr:=qsG V h),fun h=>by cases h⟩
 ·rw[qby V] at h1
  have e:reE c n=8:=by unfold reE;rw[if_neg V]
  rw[e]
  exact⟨fun _=>qu1 (h1:=h1) (he:=by decide),fun h=>by cases h⟩
theorem qyV {c:Ck} (S:S9 c) (hs:c.s.length≤70):(¬ V9 c→Fn 18 8 [qap c] (qaq c) (.pv (.tuple #[evZ,iV 8])) 0 [])∧(V9 c→c.ev=[]→Fn 18 8 [qap c] (qaq c) (.pv (.tuple #[evZ,iV 42])) 0 [])∧(V9 c→∀ y,c.ev[0]?=some y→Fn 18 8 [qap c] (qaq c) (.pv (.tuple #[qab y,iV 0])) 0 []):=by
 have h1:=qcA S hs
 refine⟨fun V=>?_,fun V he=>?_,fun V y hy=>?_⟩
 ·rw[qby V] at h1
  exact quU (h1:=h1) (he:=by decide)
 ·rw[qbM V] at h1
  exact qsi (y:=Ev.mk 0 0 0 0 0) (h1:=h1) (ht:=qhU V.a he)
 ·rw[qbM V] at h1
  exact qsi (h1:=h1) (ht:=qe8 V.a hy)
noncomputable def ctE (c:Ck) (tn td:Int):Int:=open Classical in if okB tn td=true∧okB c.tn c.td=true then (if tn*c.td<c.tn*td then 44 else 0) else 8
theorem qrK {c:Ck} (S:S9 c) {tn td:Int} (htn:I64 tn) (htd:I64 td):Fn 62 8 [qap c,.pv (qaa tn td)] (qaq c) (.pv (iV (ctE c tn td))) 0 []:=by
 by_cases h:okB tn td=true∧okB c.tn c.td=true
 ·have hc:=qjA htn htd S.tn S.td h.1 h.2
  by_cases hl:tn*c.td<c.tn*td
  ·have e:ctE c tn td=44:=by unfold ctE;rw[if_pos h,if_pos hl]
   rw[e]
   have:(tn*c.td-c.tn*td).sign = -1:=Int.sign_eq_neg_one_of_neg (by omega)
   rw[this] at hc
   exact qqi (hc:=hc) (hn:=by decide)
  ·have e:ctE c tn td=0:=by unfold ctE;rw[if_pos h,if_neg hl]
   rw[e]
   exact qzY (hc:=hc) (hn:=df fun hh=>by
    have:=(qd8 (tn*c.td-c.tn*td)).2 (by omega)
    omega)
 ·have e:ctE c tn td=8:=by unfold ctE;rw[if_neg h]
  rw[e]
  exact quK (hc:=qtS htn htd S.tn S.td h) (he:=by decide)
theorem qr0 {c:Ck} {tn td:Int} (V:V9 c):qdo c tn td=ctE c tn td:=by
 unfold qdo ctE
 by_cases h:okB tn td=true
 ·rw[if_pos (show V9 c∧okB tn td=true from ⟨V,h⟩),if_pos (show okB tn td=true∧okB c.tn c.td=true from ⟨h,V.t⟩)]
 ·rw[if_neg (show ¬ (V9 c∧okB tn td=true) from fun e=>h e.2),if_neg (show ¬ (okB tn td=true∧okB c.tn c.td=true) from fun e=>h e.1)]
theorem qne (a b:Int):(a-b).sign≤0↔a≤b:=by
 rcases Int.lt_trichotomy (a-b) 0 with h | h | h
 ·rw[Int.sign_eq_neg_one_of_neg h];omega
 ·rw[h];simp;omega
 ·rw[Int.sign_eq_one_of_pos h];omega
theorem qsb {c:Ck} (V:V9 c) {tn td:Int} (htn:I64 tn) (htd:I64 td) (ht:okB tn td=true):∃ y,Fn 63 8 [qap c,.pv (qaa tn td)] (qaq c) (.pv (.tuple #[qab y,.bool (qie c tn td)])) 0 []∧(qie c tn td=true→c.ev[0]?=some y):=by
 unfold qie
 cases hy:c.ev[0]? with
 | none=>
  have he:c.ev=[]:=by
   have:=List.getElem?_eq_none_iff.1 hy
   exact List.eq_nil_of_length_eq_zero (by omega)
  exact⟨Ev.mk 0 0 0 0 0,qx7 (y:=Ev.mk 0 0 0 0 0) (ht:=qhU V.a he) (he:=by decide),fun h=>by cases h⟩
 | some y=>
  have hm:=List.mem_of_getElem? hy
  obtain⟨i1,i2⟩:=V.a.sm.i y hm
  obtain⟨p,hp,f,q,_,hd⟩:=V.ev hy
  have hk:okB y.n y.d=true:=(V.a.ef.ok y hm).ok
  have hc:=qjA i1 i2 htn htd hk ht
  by_cases hl:y.n*td≤tn*y.d
  ·exact⟨y,by simp only[dt hl];exact qsu (ht:=qe8 V.a hy) (hc:=hc) (hn:=dt ((qne _ _).2 hl)),fun _=>rfl⟩
  ·exact⟨y,by simp only[df hl];exact qsX (ht:=qe8 V.a hy) (hc:=hc) (hn:=df fun h=>hl ((qne _ _).1 h)),fun _=>rfl⟩
theorem qy5 {c:Ck} (S:S9 c) (hs:c.s.length≤70) {tn td:Int} (htn:I64 tn) (htd:I64 td):(faE c tn td≠0→qxW 19 c tn td (faE c tn td))∧(faE c tn td=0→∀ y p o,qdQ c y p o→qE2 19 c tn td y p o):=by
 have h1:=qcA S hs
 have h2:=qrK S htn htd
 by_cases V:V9 c
 ·rw[qbM V] at h1
  have eu:=qr0 (tn:=tn) (td:=td) V
  by_cases h0:qdo c tn td=0
  ·obtain⟨_,ht,_⟩:=qnm h0
   rw[← eu,h0] at h2
   obtain⟨y,hd,hy⟩:=qsb V htn htd ht
   cases hb:qie c tn td
   ·rw[hb] at hd
    have e:faE c tn td=6:=by unfold faE;rw[if_pos h0,if_neg (by rw[hb];decide)]
    rw[e]
    exact⟨fun _=>qzs (h1:=h1) (h2:=h2) (hd:=hd),fun h=>by cases h⟩
   ·rw[hb] at hd
    have e:faE c tn td=0:=by unfold faE;rw[if_pos h0,if_pos hb]
    refine⟨fun h=>(h e).elim,fun _ y' p o ho=>?_⟩
    obtain⟨hy',hp,he,g,hg,rfl⟩:=ho
    rw[hy hb] at hy'
    cases hy'
    rw[← he] at hg
    have r:=qAZ S V hp hg
    rw[he] at r
    exact qAp (o:=g) (h1:=h1) (h2:=h2) (hd:=hd) (hr:=r)
  ·have e:faE c tn td=qdo c tn td:=by unfold faE;rw[if_neg h0]
   rw[e]
   rw[← eu] at h2
   exact⟨fun _=>qyd (h1:=h1) (h2:=h2) (he:=by simpa using h0),fun h=>(h0 h).elim⟩
 ·rw[qby V] at h1
  have e:qdo c tn td=8:=by unfold qdo;rw[if_neg fun h=>V h.1]
  have e':faE c tn td=8:=by unfold faE;rw[e,if_neg (by decide)]
  rw[e']
  exact⟨fun _=>qzV (h1:=h1) (h2:=h2) (he:=by decide),fun h=>by cases h⟩
theorem qAy {c:Ck} (S:S9 c) (hs:c.s.length≤70) {tn td:Int} (htn:I64 tn) (htd:I64 td):(moE c tn td≠0→qyg 20 c tn td (moE c tn td))∧(moE c tn td=0→qEx 20 c tn td):=by
 have h1:=qcA S hs
 have h2:=qrK S htn htd
 by_cases V:V9 c
 ·rw[qbM V] at h1
  have eu:=qr0 (tn:=tn) (td:=td) V
  by_cases h0:qdo c tn td=0
  ·obtain⟨_,ht,_⟩:=qnm h0
   rw[← eu,h0] at h2
   obtain⟨y,hd,hy⟩:=qsb V htn htd ht
   cases hb:qie c tn td
   ·rw[hb] at hd
    have e:moE c tn td=0:=by unfold moE;rw[if_pos h0,if_neg (by rw[hb];decide)]
    exact⟨fun h=>(h e).elim,fun _=>qzD (h1:=h1) (h2:=h2) (hd:=hd) (hcl:=qgM S (by omega))⟩
   ·rw[hb] at hd
    have e:moE c tn td=36:=by unfold moE;rw[if_pos h0,if_pos hb]
    rw[e]
    exact⟨fun _=>qsP (h1:=h1) (h2:=h2) (hd:=hd),fun h=>by cases h⟩
  ·have e:moE c tn td=qdo c tn td:=by unfold moE;rw[if_neg h0]
   rw[e]
   rw[← eu] at h2
   exact⟨fun _=>qx1 (h1:=h1) (h2:=h2) (he:=by simpa using h0),fun h=>(h0 h).elim⟩
 ·rw[qby V] at h1
  have e:qdo c tn td=8:=by unfold qdo;rw[if_neg fun h=>V h.1]
  have e':moE c tn td=8:=by unfold moE;rw[e,if_neg (by decide)]
  rw[e']
  exact⟨fun _=>qAv (h1:=h1) (h2:=h2) (he:=by decide),fun h=>by cases h⟩
end Go.Proofs.YtkjaanhddkkodaaGreat
