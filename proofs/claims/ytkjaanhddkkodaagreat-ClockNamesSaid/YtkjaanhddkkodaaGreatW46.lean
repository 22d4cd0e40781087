/-
  Joined: Bf, Bg. Conditions: none.
-/
import Derived.Test.YtkjaanhddkkodaaGreatBe
import Derived.Test.YtkjaanhddkkodaaGreatW42
import Derived.Test.YtkjaanhddkkodaaGreatW31
import Derived.Test.YtkjaanhddkkodaaGreatW23
import Derived.Test.YtkjaanhddkkodaaGreatW18
import Derived.Test.YtkjaanhddkkodaaGreatW44
namespace Go.Proofs.YtkjaanhddkkodaaGreat
set_option maxRecDepth 100000
open Go.RowKit
theorem qgr {f:FuncId} {e:TypeId} {es n:Nat} {xs:List Value} (hx:xs.length=n*es)
 (pth:0<n→Fn f 1 [.ls 0 n] [(0,0,.row e es n xs)] (.ls 1 n) 1 [(1,0,.row e es n xs)])
 (pe:∀ ad c,Fn f 0 [.pv (.slice (some ad) 0 c)] [] (.ls 0 0) 1 [(0,0,.row e es 0 [])])
 (pn:∀ c,Pure Tryz.prog f #[.slice none 0 c] (.slice none 0 0)):Fn f 1 [.ls 0 n] [(0,0,.row e es n xs)] (.ls 1 n) 1 [(1,0,.row e es n xs)]:=by
 rcases Nat.eq_zero_or_pos n with h | h
 ·subst h
  obtain rfl:=List.eq_nil_of_length_eq_zero (by simpa using hx)
  intro w β us hH hd hargs
  match us,hargs with
  | [v],⟨⟨_,a,c,hv⟩,_⟩=>
   have hd1:=hd 1 (Nat.le_refl _)
   cases a with
   | none=>
    subst hv
    refine (pn c w).mono fun e' w' ⟨he,hg⟩=>?_
    have ho:w'.ownsRow w.heap.size e es (.slice none 0 0) 0 []:=⟨by simp,Or.inl ⟨rfl,rfl⟩⟩
    exact⟨_,β.setG 1 (.slice none 0 0),he,Bl.le_setG hd1.1 hd1.2,⟨Bl.setG_same _ _ _,none,0,rfl⟩,qc1 hH hd hg ho (fun v hv=>by cases hv),qbH hd⟩
   | some ad=>
    subst hv
    refine (pe ad c w Bl.no [.slice (some ad) 0 c] (qen w) (fun _ _=>⟨rfl,rfl⟩) ⟨rfl,tI⟩).mono fun e' w' ⟨v,β',he,_,⟨hx,a',c',hv⟩,hh,_⟩=>?_
    obtain⟨u,hu,hr⟩:=hh.rows 0 0 _ _ _ _ rfl
    rw[hx] at hu
    cases hu
    exact⟨_,β.setG 1 v,he,Bl.le_setG hd1.1 hd1.2,⟨Bl.setG_same _ _ _,a',c',hv⟩,qc1 hH hd hh.gr (hr.own (Nat.le_refl _)) (fun v hv=>by cases hv),qbH hd⟩
 ·exact pth h
theorem qtc {l:List Pt} (hn:l.length≤1000000):Fn 100 1 [.ls 0 l.length] [(0,0,qaj l)] (.ls 1 l.length) 1 [(1,0,qaj l)]:=
 qgr (qcv l) (fun h=>qkW h (by omega)) (fun ad c=>qtI) (fun c=>qmv)
theorem qwh {l:List Pt} (hn:l.length≤1000000):Fn 106 1 [.ls 0 l.length] [(0,0,qal l)] (.ls 1 l.length) 1 [(1,0,qal l)]:=
 qgr (qcv l) (fun h=>qqy h (by omega)) (fun ad c=>qDa) (fun c=>qtF)
theorem qsG {l:List Pt} (hn:l.length≤1000000):Fn 108 1 [.ls 0 l.length] [(0,0,qaJ l)] (.ls 1 l.length) 1 [(1,0,qaJ l)]:=
 qgr (qcv l) (fun h=>qrA h (by omega)) (fun ad c=>qEr) (fun c=>qv3)
theorem qiZ {s:List Pt} (hn:s.length≤1000000):Fn 51 1 [qaE 0 s] [(0,0,qaj s)] (.ag [.ls 1 s.length]) 1 [(1,0,qaj s)]:=ccf (h1:=qtc hn)
theorem qgZ {c:Ck} (S:S9 c) (hs:c.s.length≤1000000):Fn 58 8 [qam c] (qas c) (ql0 c) 8 (qc9 c):=by
 have h1:=S.l
 have h2:=S.d
 have h3:=S.a.lu
 have h4:=S.a.lb
 have h5:=S.a.lf
 have h6:=S.a.le
 have h7:=S.a.lw
 exact ccl (h1:=qiZ hs) (h2:=qwh (by omega)) (h3:=cca (c0:=qa2 (by omega)) (c1:=qfk (by omega)) (c2:=qa2 (by omega)) (c3:=qd1 (qbx c.ev) (by omega)) (c4:=qa2 (by omega))) (h4:=qsG (by omega))
theorem qje {l:List Pt} (hn:l.length≤1000000) (hu:Up l) {n:Int} {k:Nat} {p:Pt} (hk:l[k]?=some p) (he:p.id=n):Fn 110 1 [.ls 0 l.length,.pv (iV n)] [(0,0,qaJ l)] (.pv (.tuple #[iV (k:Int),.bool true])) 0 []:=cfd (hb:=qv6 hn hu hk he)
theorem qkd {l:List Pt} (hn:l.length≤1000000) (hu:Up l) {n:Int} (h:∀ p∈l,p.id≠n):∃ k,k≤l.length∧(∀ (t:Nat) (p:Pt),t<k→l[t]?=some p→p.id<n)∧(∀ (t:Nat) (p:Pt),k≤t→l[t]?=some p→n<p.id)∧
 Fn 110 1 [.ls 0 l.length,.pv (iV n)] [(0,0,qaJ l)] (.pv (.tuple #[iV (k:Int),.bool false])) 0 []:=by
 obtain⟨k,h1,h2,h3,r⟩:=qpX hn hu h
 exact⟨k,h1,h2,h3,cfd (hb:=r)⟩
theorem qFm {l:List Pt} (hn:l.length≤1000) {k:Nat} (hk:k<l.length):Fn 162 2 [.ps 1 0 2 2] [(1,0,.lq 0 3 0 k),(1,1,.lq 0 3 (0+(k+1)) (l.length-(k+1))),(0,0,qaJ l)] (.ls 2 (l.take k++l.drop (k+1)).length) 1 [(2,0,qaJ (l.take k++l.drop (k+1)))]:=by
 by_cases hz:l.length=1
 ·refine qxA (s1:=(k:Int)) (s2:=((k+(l.length-(k+1)):Nat):Int)) (q1:=qb7 (by omega) (by omega) (by omega)) (n1:=df (by omega)) (q2:=qb7 (by omega) (by omega) (by omega)) (n2:=df (by omega)) (hgr:=?_) (a1:=by omega) (a2:=by omega) (hkl1:=by omega)
  rw[show ((k+(l.length-(k+1)):Nat):Int)=0 by omega]
  exact qD7 (h0:=df (by omega)) (hs:=by rw[qaq (by omega) (by omega)];rfl) (hg:=df (by omega))
 ·exact qAB (s1:=(k:Int)) (s2:=((k+(l.length-(k+1)):Nat):Int)) (q1:=qb7 (by omega) (by omega) (by omega)) (n1:=df (by omega)) (q2:=qb7 (by omega) (by omega) (by omega)) (n2:=df (by omega))
   (hgr:=qAy (h0:=df (by omega)) (hs:=by rw[qaq (by omega) (by omega)];congr 1<;>omega) (hg:=dt (by omega)) (a0:=by omega) (a1:=by omega)) (a1:=by omega) (a2:=by omega) (hkl1:=by omega)
theorem qFi {l:List Pt} (hn:l.length≤1000) {k:Nat} (hk:k≤l.length) (n hi hw:Int):Fn 162 3 [.ps 2 0 3 3] [(2,0,.lq 0 3 0 k),(2,1,.ps 1 0 1 1),(2,2,.lq 0 3 (0+k) (l.length-k)),(1,0,.pv (iV n)),(1,1,.pv (iV hi)),(1,2,.pv (iV hw)),(0,0,qaJ l)] (.ls 3 (l.take k++Pt.mk n hi hw::l.drop k).length) 1 [(3,0,qaJ (l.take k++Pt.mk n hi hw::l.drop k))]:=
 qFo (s1:=(k:Int)) (s2:=((k+1:Nat):Int)) (s3:=((k+1+(l.length-k):Nat):Int)) (q1:=qb7 (by omega) (by omega) (by omega)) (n1:=df (by omega)) (q2:=qb7 (by omega) (by omega) (by omega)) (n2:=df (by omega)) (q3:=qb7 (by omega) (by omega) (by omega)) (n3:=df (by omega))
  (hgr:=qAy (h0:=df (by omega)) (hs:=by rw[qaq (by omega) (by omega)];congr 1<;>omega) (hg:=dt (by omega)) (a0:=by omega) (a1:=by omega)) (a1:=by omega) (a2:=by omega) (a3:=by omega) (hkl:=hk)
structure T9 (c:Ck):Prop where
 p:P9 c
 a:VA c.u c.b c.fr c.ev c.wh
 u:Up c.d
 l:c.d.length≤1000
theorem V9.t9 {c:Ck} (V:V9 c) (S:S9 c):T9 c:=⟨V.p9 S,V.a,V.due_up,by have:=S.d;omega⟩
theorem qzo {c:Ck} (T:T9 c) {n:Int} (h:∀ q∈c.d,q.id≠n):Fn 113 8 [qam c,.pv (iV n)] (qas c) (qam c) 0 []:=by
 have hl:=T.l
 obtain⟨k,_,_,_,r⟩:=qkd (by omega) T.u h
 exact qDx (hfd:=r)
abbrev qDB (o:Ck):List (Nat×Nat×SV):=[(8,0,zrI o.u),(9,0,zrB o.b),(10,0,zrI o.fr),(11,0,qao o.ev),(12,0,zrI o.wh)]
abbrev qvI (o:Ck) (d:List Pt):List (Nat×Nat×SV):=[(8,0,zrI o.u),(9,0,zrB o.b),(10,0,zrI o.fr),(11,0,qao o.ev),(12,0,zrI o.wh),(13,0,qaJ d)]
abbrev qgi (c:Ck) (j:Nat) (y:Ev):Ck:={ c with b:=c.b.set y.i.toNat false,fr:=c.fr++[y.i],ev:=(qan c.ev c.wh j y).1,wh:=(qan c.ev c.wh j y).2 }
abbrev qA6 (c:Ck) (j:Nat) (y:Ev) (n d:Int):Ck:={ c with ev:=(qa0 c.ev c.wh j y n d).1,wh:=(qa0 c.ev c.wh j y n d).2 }
abbrev qln (c:Ck) (u2 f2:List Int) (b2:List Bool) (n d k hi hw:Int):Ck:={ c with u:=u2,b:=b2,fr:=f2,ev:=(qba c.ev c.wh ⟨n,d,k,hi,hw⟩).1,wh:=(qba c.ev c.wh ⟨n,d,k,hi,hw⟩).2 }
theorem qr9 {c:Ck} (T:T9 c) {n:Int} {k j:Nat} {q:Pt} {y:Ev} (hq:c.d[k]?=some q) (he:q.id=n) (hy:c.ev[j]?=some y) (e1:y.i=q.a) (e2:y.w=q.b):Fn 113 8 [qam c,.pv (iV n)] (qas c) (qBz c (qgi c j y) (c.d.take k++c.d.drop (k+1))) 6 (qvI (qgi c j y) (c.d.take k++c.d.drop (k+1))):=by
 have hl:=T.l
 have hk:=qak hq
 obtain⟨h1,h2⟩:=VA.own T.a hy
 rw[e1,e2] at h1
 rw[e1] at h2
 exact qxe (o:=qgi c j y) (hfd:=qje (by omega) T.u hq he) (hq:=hq) (hiq:=qap hk) (hr:=qhT T.a h1 h2 hy) (hkl:=by omega) (hkl1:=by omega) (hk1:=qay (by omega)) (hcut:=qFm hl hk)
theorem qyt {c:Ck} (T:T9 c) {p:Pt} (hp:p∈c.l) (f:(qae c.s c.tn c.td p).2.2=true) {k j:Nat} {q:Pt} {y:Ev} (hq:c.d[k]?=some q) (he:q.id=p.id) (hy:c.ev[j]?=some y) (e1:y.i=q.a) (e2:y.w=q.b) :
 Fn 59 8 [qam c,.pv (ptV p)] (qas c) (.tu [qwr c (qA6 c j y (qae c.s c.tn c.td p).1 (qae c.s c.tn c.td p).2.1),.one (.pv (iV 0))]) 5 (qDB (qA6 c j y (qae c.s c.tn c.td p).1 (qae c.s c.tn c.td p).2.1)):=by
 have hl:=T.l
 have hk:=qak hq
 have W:=T.p.fl hp
 rw[f] at W
 obtain⟨k1,k2,k3,_⟩:=(qbs T.p.tn T.p.td T.p.t T.p.s (T.p.v.ok p hp) (T.p.k p hp).1 (T.p.k p hp).2).i.ok f
 obtain⟨h1,h2⟩:=VA.own T.a hy
 rw[e1,e2] at h1
 rw[e1] at h2
 exact qxv (o:=qA6 c j y (qae c.s c.tn c.td p).1 (qae c.s c.tn c.td p).2.1) (hf:=W) (hfd:=qje (by omega) T.u hq he) (hq:=hq) (hiq:=qap hk) (hr:=qiF ⟨k2,k3⟩ k1 T.a h1 h2 hy)
theorem qms {c:Ck} (T:T9 c) {p:Pt} (hp:p∈c.l) (f:(qae c.s c.tn c.td p).2.2=true) (hn:∀ q∈c.d,q.id≠p.id) (hz:cnE c.ev p.id=0) {u2 f2:List Int} {b2:List Bool} {hi hw:Int} (ht:qbD c.u c.b c.fr=some (u2,b2,f2,hi,hw)) :
 ∃ k,k≤c.d.length∧(∀ (t:Nat) (q:Pt),t<k→c.d[t]?=some q→q.id<p.id)∧(∀ (t:Nat) (q:Pt),k≤t→c.d[t]?=some q→p.id<q.id)∧
 Fn 59 8 [qam c,.pv (ptV p)] (qas c) (.tu [qhs c (qln c u2 f2 b2 (qae c.s c.tn c.td p).1 (qae c.s c.tn c.td p).2.1 p.id hi hw) (c.d.take k++Pt.mk p.id hi hw::c.d.drop k),.one (.pv (iV 0))]) 6 (qvI (qln c u2 f2 b2 (qae c.s c.tn c.td p).1 (qae c.s c.tn c.td p).2.1 p.id hi hw) (c.d.take k++Pt.mk p.id hi hw::c.d.drop k)):=by
 have hl:=T.l
 have W:=T.p.fl hp
 rw[f] at W
 obtain⟨k1,k2,k3,_⟩:=(qbs T.p.tn T.p.td T.p.t T.p.s (T.p.v.ok p hp) (T.p.k p hp).1 (T.p.k p hp).2).i.ok f
 obtain⟨k,h1,h2,h3,r⟩:=qkd (by omega) T.u hn
 refine⟨k,h1,h2,h3,qvR (o:=qln c u2 f2 b2 (qae c.s c.tn c.td p).1 (qae c.s c.tn c.td p).2.1 p.id hi hw) (hf:=W) (hfd:=r) (hp:=?_)⟩
 exact qCM (o:=qln c u2 f2 b2 (qae c.s c.tn c.td p).1 (qae c.s c.tn c.td p).2.1 p.id hi hw) (hp:=qk8 ⟨k2,k3⟩ k1 T.a hz ht) (hfd:=r) (hkl:=h1) (hins:=qFi hl h1 p.id hi hw)
theorem qn0 {c:Ck} (T:T9 c) {p:Pt} (hp:p∈c.l) (f:(qae c.s c.tn c.td p).2.2=true) (hn:∀ q∈c.d,q.id≠p.id) (hz:cnE c.ev p.id=0) (ht:qbD c.u c.b c.fr=none) :
 Fn 59 8 [qam c,.pv (ptV p)] (qas c) (.pv (.tuple #[qa3,iV 18])) 0 []:=by
 have hl:=T.l
 have W:=T.p.fl hp
 rw[f] at W
 obtain⟨k1,k2,k3,_⟩:=(qbs T.p.tn T.p.td T.p.t T.p.s (T.p.v.ok p hp) (T.p.k p hp).1 (T.p.k p hp).2).i.ok f
 obtain⟨k,h1,h2,h3,r⟩:=qkd (by omega) T.u hn
 exact qvs (hf:=W) (hfd:=r) (hp:=qzx (hp:=qlm ⟨k2,k3⟩ k1 T.a hz ht) (he:=by decide))
theorem qvb {c:Ck} (T:T9 c) {p:Pt} (hp:p∈c.l) (f:(qae c.s c.tn c.td p).2.2=false) {k j:Nat} {q:Pt} {y:Ev} (hq:c.d[k]?=some q) (he:q.id=p.id) (hy:c.ev[j]?=some y) (e1:y.i=q.a) (e2:y.w=q.b) :
 Fn 59 8 [qam c,.pv (ptV p)] (qas c) (.tu [qhs c (qgi c j y) (c.d.take k++c.d.drop (k+1)),.one (.pv (iV 0))]) 6 (qvI (qgi c j y) (c.d.take k++c.d.drop (k+1))):=by
 have hl:=T.l
 have W:=T.p.fl hp
 rw[f] at W
 exact qtU (o:=qgi c j y) (hf:=W) (hfd:=qje (by omega) T.u hq he) (hel:=qr9 T hq he hy e1 e2)
theorem qmN {c:Ck} (T:T9 c) {p:Pt} (hp:p∈c.l) (f:(qae c.s c.tn c.td p).2.2=false) (hn:∀ q∈c.d,q.id≠p.id) :
 Fn 59 8 [qam c,.pv (ptV p)] (qas c) (.tu [qru c,.one (.pv (iV 0))]) 0 []:=by
 have hl:=T.l
 have W:=T.p.fl hp
 rw[f] at W
 obtain⟨k,h1,h2,h3,r⟩:=qkd (by omega) T.u hn
 exact qwk (hf:=W) (hfd:=r) (hel:=qzo T hn)
theorem qop {x:Int} {l:List Pt} (h:V8 x l) {n:Int} (hn:∀ p∈l,p.id≠n):qA2 114 x l n 6:=by
 have c:=qgS x l
 rw[qdp h] at c
 have hl:=h.len
 rcases qr7 h.up n with ⟨k,p,hk,he⟩ | ⟨_,k,hkl,hlo,hhi⟩
 ·exact (hn p (List.mem_of_getElem? hk) he).elim
 ·exact quj (a:=0) (b:=0) (hg:=qAS (hc:=c) (hf:=qq1 x (by omega) hkl hlo hhi)) (he:=by decide)
theorem qrr {x:Int} {l:List Pt} (h:V8 x l) {k:Nat} {p:Pt} (hk:l[k]?=some p):qCH 114 x l p.id (l.take k++l.drop (k+1)) p.a p.b:=by
 have c:=qgS x l
 rw[qdp h] at c
 have hl:=qak hk
 have hn:=h.len
 have F:=qoe x (by omega) h.up hk rfl
 exact qyT (hg:=qvd (hk:=hk) (hin:=qap hl) (hc:=c) (hf:=F)) (hf:=F) (hkl:=by omega) (hkl1:=by omega) (hk1:=qay (by omega)) (hcut:=qFB (by omega) hl)
theorem qs8 {c:Ck} (V:V9 c) {n:Int} (h:¬ ∃ p∈c.l,p.id=n):Fn 60 8 [qam c,.pv (iV n)] (qas c) (.pv (.tuple #[qa3,qaf 0 0,iV 6])) 0 []:=
 qAN (hrm:=qop V.v fun p hp he=>h ⟨p,hp,he⟩) (he:=by decide)
theorem qyB {c:Ck} (S:S9 c) (V:V9 c) {p:Pt} (hp:p∈c.l) {o:Ck} (h:qf5 c p.id o):Fn 60 8 [qam c,.pv (iV p.id)] (qas c) (.tu [qg6 o,.one (.pv (qaf p.a p.b)),.one (.pv (iV 0))]) 8 (qc9 o):=by
 have T:=V.t9 S
 have hs:=V.s.len
 obtain⟨i,hi⟩:=List.getElem?_of_mem hp
 have R:=qrr V.v hi
 rw[← qeo V.v.up hi] at R
 have C:=qgZ S (by omega)
 rcases h with ⟨h1,rfl⟩ | ⟨k,q,j,y,hq,he,_,hy,e1,e2,rfl⟩
 ·exact qCa (l2:=qaM c.l p.id) (hrm:=R) (hcl:=C) (hel:=qzo T h1)
 ·exact qxD (l2:=qaM c.l p.id) (l:=c.d.take k++c.d.drop (k+1)) (o:=qgi c j y) (hrm:=R) (hcl:=C) (hel:=qr9 T hq he hy e1 e2)
end Go.Proofs.YtkjaanhddkkodaaGreat

namespace Go.Proofs.YtkjaanhddkkodaaGreat
set_option maxRecDepth 100000
open Go.RowKit
theorem qCp (s:List Pt) (tn td:Int):Fn 50 0 [.pv (iV 200)] [] (.tu [.ag [.ls 0 (qdy s tn td).u.length,.ls 1 (qdy s tn td).b.length,.ls 2 (qdy s tn td).fr.length,.ls 4 0,.ls 3 (qdy s tn td).wh.length],.one (.pv (iV 0))]) 5
 [(0,0,zrI (qdy s tn td).u),(1,0,zrB (qdy s tn td).b),(2,0,zrI (qdy s tn td).fr),(3,0,zrI (qdy s tn td).wh),(4,0,qao [])]:=by
 have h:=qsN (n:=200) (by omega) (by omega)
 have e1:(qdy s tn td).u.length=200:=List.length_replicate
 have e2:(qdy s tn td).b.length=200:=List.length_replicate
 have e3:(qdy s tn td).fr.length=200:=qaU 200
 have e4:(qdy s tn td).wh.length=200:=List.length_replicate
 unfold zrI zrB
 rw[e1,e2,e3,e4]
 exact h
theorem qyf {s:List Pt} {tn td:Int} (htn:I64 tn) (htd:I64 td):(tE s tn td≠0→qxu 10 s tn td (tE s tn td))∧(tE s tn td=0→qxL 10 s tn td):=by
 have h1:=qd3 s
 have h2:∃ e2:Int,Pure Tryz.prog 49 #[qaa tn td] (iV e2)∧e2=(if okB tn td=true then 0 else 8):=by
  by_cases ht:okB tn td=true
  ·exact⟨0,qcc htn htd ht,by rw[if_pos ht]⟩
  ·exact⟨8,qe3 htn htd ht,by rw[if_neg ht]⟩
 obtain⟨e2,h2,he⟩:=h2
 by_cases hs:qez s=0
 ·have e:tE s tn td=e2:=by unfold tE;rw[if_pos hs,he]
  rw[hs] at h1
  rw[e]
  refine⟨fun h=>qAH (h1:=h1) (h2:=h2) (he:=by simpa using h),fun h=>?_⟩
  rw[h] at h2
  have hl:=(qbZ.1 hs).len
  have r:=qAI (o:=qdy s tn td) (h1:=h1) (h2:=h2) (ha:=qCp s tn td) (hf:=qiZ (by omega)) (hcn:=qgo)
  exact quW 54 3 r (.tu (.cons (.ag (.cons (.same _) (.cons (.same _) (.cons (.same _) (.cons (.same _) (.cons (.same _) (.cons (.same _) (.cons (.same _) (.cons (.same _) (.cons (.same _) (.cons (.same _) (.cons .nil .nil)))))))))))) (.cons (.one (.same _)) .nil)))
 ·have e:tE s tn td=qez s:=by unfold tE;rw[if_neg hs]
  rw[e]
  exact⟨fun h=>qAa (h1:=h1) (h2:=h2) (he:=by simpa using h),fun h=>(hs h).elim⟩
theorem qqL (a b:Int):qfu [] a b=false:=qgn fun k p hp=>by simp at hp
theorem qAh {s:List Pt} (hn:s.length≤1000000) (a b:Int):∃ e:Int,Fn 56 1 [qaE 0 s,.pv (qaf a b)] [(0,0,qaj s)] (.pv (iV e)) 0 []∧
 ((e=8∧¬ qb8 a b=true)∨(e=0∧qb8 a b=true∧(Val s→(∃ q∈s,q.id=a)∧∃ g∈s,g.id=b))∨(e=6∧qb8 a b=true∧(Val s→¬ ((∃ q∈s,q.id=a)∧∃ g∈s,g.id=b)))):=by
 rcases qj6 0 (l:=[]) (by simp) a b with ⟨e,h,_,h1 | h1 | h1⟩ | ⟨_,hc,_,_,_,h,_⟩
 ·rw[h1.1] at h
  rcases h1.2 with h2 | h2
  ·exact (h2 (V8.none (by omega))).elim
  ·exact⟨8,qv9 (hn:=qgo) (had:=h),Or.inl ⟨rfl,h2⟩⟩
 ·have:=h1.2.2.2
  rw[qqL] at this
  cases this
 ·rcases h1.2.2.2.2 with h2 | h2
  ·simp at h2
  ·cases h2
 ·obtain⟨w,hb,e⟩:=qrN hn a b
  cases w
  ·exact⟨6,qoV (hn:=qgo) (had:=h) (hb:=hb),Or.inr (Or.inr ⟨rfl,hc,fun hs h=>by have:=(e hs).2 h;cases this⟩)⟩
  ·exact⟨0,qAx (hn:=qgo) (had:=h) (hb:=hb),Or.inr (Or.inl ⟨rfl,hc,fun hs=>(e hs).1 rfl⟩)⟩
theorem qlP {l:List Pt} {n:Int} {k:Nat} (hk:k≤l.length) (h:∀ q∈l,q.id<n) (h3:∀ (t:Nat) (q:Pt),k≤t→l[t]?=some q→n<q.id):k=l.length:=by
 rcases Nat.lt_or_ge k l.length with hl | hl
 ·obtain⟨q,hq⟩:=qai hl
  have:=h3 k q (Nat.le_refl _) hq
  have:=h q (List.mem_of_getElem? hq)
  omega
 ·omega
theorem V9.due_hi {c:Ck} (V:V9 c):∀ q∈c.d,q.id<c.x:=fun q hq=>by
 obtain⟨p,hp,_,y,hd⟩:=V.f.some q hq
 rw[hd.id]
 exact V.v.hi p hp
theorem qfd {c:Ck} (S:S9 c) (hs:c.s.length≤70) (a b:Int):(cyE c a b≠0→qsV 16 c a b (cyE c a b))∧(cyE c a b=0→∀ o,qhS c a b o→qEA 16 c a b o):=by
 have h1:=qcx S hs
 obtain⟨e2,h2,he2⟩:=qAh (s:=c.s) (by omega) a b
 have hl:=S.l
 by_cases V:V9 c
 ·rw[qcA V] at h1
  rcases he2 with ⟨rfl,hc⟩ | ⟨rfl,hc,hk⟩ | ⟨rfl,hc,hk⟩
  ·have e:cyE c a b=8:=by unfold cyE;rw[if_neg fun h=>hc h.2]
   rw[e]
   exact⟨fun _=>qsj (h1:=h1) (h2:=h2) (he:=by decide),fun h=>by cases h⟩
  ·obtain⟨pa,pb⟩:=hk V.s
   have e:cyE c a b=adE c a b:=by unfold cyE;rw[if_pos ⟨V,hc⟩,if_pos ⟨pa,pb⟩]
   rw[e]
   have C:=qgZ S (by omega)
   rcases qj6 c.x S.l a b with ⟨e,h,_,h3 | h3 | h3⟩ | ⟨_,_,hh,hn,hx,h,_⟩
   ·rcases h3.2 with h4 | h4
    ·exact (h4 V.v).elim
    ·exact (h4 hc).elim
   ·have e1:adE c a b=14:=by unfold adE;rw[if_pos h3.2.2.2]
    rw[e1]
    rw[h3.1] at h
    exact⟨fun _=>qny (h1:=h1) (h2:=h2) (had:=h) (he:=by decide),fun h=>by cases h⟩
   ·have e1:adE c a b=18:=by unfold adE;rw[if_neg (by rw[h3.2.2.2.1];decide),if_pos h3.2.2.2.2]
    rw[e1]
    rw[h3.1] at h
    exact⟨fun _=>qny (h1:=h1) (h2:=h2) (had:=h) (he:=by decide),fun h=>by cases h⟩
   ·have e1:adE c a b=if qaX c ⟨c.x,a,b⟩=true∧qbD c.u c.b c.fr=none then 18 else 0:=by
     unfold adE
     rw[if_neg (by rw[hh];decide),if_neg (by omega)]
    have kn:qcQ (c.l++[⟨c.x,a,b⟩]) c.s:=fun p hp=>by
     rcases List.mem_append.1 hp with hp | hp
     ·exact V.k p hp
     ·rw[List.mem_singleton.1 hp]
      exact⟨pa,pb⟩
    have T0:=V.t9 S
    have T:T9 ({ c with x:=c.x+1,l:=c.l++[⟨c.x,a,b⟩] }:Ck):=⟨⟨S.tn,S.td,V.t,V.s,V8.add V.v hc hh hn hx,kn⟩,V.a,T0.u,T0.l⟩
    have hp:(⟨c.x,a,b⟩:Pt)∈({ c with x:=c.x+1,l:=c.l++[⟨c.x,a,b⟩] }:Ck).l:=List.mem_append_right _ (List.mem_singleton.2 rfl)
    have hd:∀ q∈({ c with x:=c.x+1,l:=c.l++[⟨c.x,a,b⟩] }:Ck).d,q.id≠(⟨c.x,a,b⟩:Pt).id:=fun q hq=>by
     have:=V.due_hi q hq
     show q.id≠c.x
     omega
    cases hf:qaX c ⟨c.x,a,b⟩
    ·rw[hf,if_neg (by simp)] at e1
     rw[e1]
     refine⟨fun h=>(h rfl).elim,fun _ o ho=>?_⟩
     rcases ho with ⟨_,rfl⟩ | ⟨h2',_⟩
     ·exact qyd (l2:=c.l++[⟨c.x,a,b⟩]) (x2:=c.x+1) (h1:=h1) (h2:=h2) (had:=h) (hcl:=C) (ht:=qmN T hp hf hd)
     ·rw[hf] at h2';cases h2'
    ·cases ht:qbD c.u c.b c.fr with
     | none=>
      rw[if_pos ⟨hf,ht⟩] at e1
      rw[e1]
      exact⟨fun _=>qqc (l2:=c.l++[⟨c.x,a,b⟩]) (x2:=c.x+1) (h1:=h1) (h2:=h2) (had:=h) (hcl:=C) (ht:=qn0 T hp hf hd V.new ht) (he:=by decide),fun h=>by cases h⟩
     | some z=>
      rw[if_neg (by rw[ht];simp)] at e1
      rw[e1]
      refine⟨fun h=>(h rfl).elim,fun _ o ho=>?_⟩
      rcases ho with ⟨h2',_⟩ | ⟨_,u2,b2,f2,hi,hw,h2',rfl⟩
      ·rw[hf] at h2';cases h2'
      ·obtain⟨k,k1,_,k3,r⟩:=qms T hp hf hd V.new h2'
       have ek:k=c.d.length:=qlP k1 (fun q hq=>V.due_hi q hq) k3
       subst ek
       rw[show ({ c with x:=c.x+1,l:=c.l++[⟨c.x,a,b⟩] }:Ck).d.take c.d.length=c.d from List.take_length,show ({ c with x:=c.x+1,l:=c.l++[⟨c.x,a,b⟩] }:Ck).d.drop c.d.length=[] from List.drop_length] at r
       exact quZ (l2:=c.l++[⟨c.x,a,b⟩]) (x2:=c.x+1) (l:=c.d++[⟨c.x,hi,hw⟩]) (h1:=h1) (h2:=h2) (had:=h) (hcl:=C) (ht:=r)
  ·have e:cyE c a b=6:=by unfold cyE;rw[if_pos ⟨V,hc⟩,if_neg (hk V.s)]
   rw[e]
   exact⟨fun _=>qsj (h1:=h1) (h2:=h2) (he:=by decide),fun h=>by cases h⟩
 ·rw[qbR V] at h1
  have e:cyE c a b=8:=by unfold cyE;rw[if_neg fun h=>V h.1]
  rw[e]
  exact⟨fun _=>qAi (h1:=h1) (h2:=h2) (he:=by decide),fun h=>by cases h⟩
theorem qpj {c:Ck} (S:S9 c) (hs:c.s.length≤70) (n:Int):(reE c n≠0→qv8 17 c n (reE c n))∧(reE c n=0→∀ o,qf5 c n o→qEz 17 c n o):=by
 have h1:=qcx S hs
 by_cases V:V9 c
 ·rw[qcA V] at h1
  by_cases h:∃ p∈c.l,p.id=n
  ·have e:reE c n=0:=by unfold reE;rw[if_pos V,if_pos h]
   obtain⟨p,hp,rfl⟩:=h
   exact⟨fun h=>(h e).elim,fun _ o ho=>qz7 (h1:=h1) (hr:=qyB S V hp ho)⟩
  ·have e:reE c n=6:=by unfold reE;rw[if_pos V,if_neg h]
   rw[e]
   exact⟨fun _=>quS (h1:=h1) (hr:=qs8 V h),fun h=>by cases h⟩
 ·rw[qbR V] at h1
  have e:reE c n=8:=by unfold reE;rw[if_neg V]
  rw[e]
  exact⟨fun _=>qvG (h1:=h1) (he:=by decide),fun h=>by cases h⟩
theorem qyC {c:Ck} (S:S9 c) (hs:c.s.length≤70):(¬ V9 c→Fn 18 8 [qam c] (qas c) (.pv (.tuple #[evZ,iV 8])) 0 [])∧(V9 c→c.ev=[]→Fn 18 8 [qam c] (qas c) (.pv (.tuple #[evZ,iV 42])) 0 [])∧(V9 c→∀ y,c.ev[0]?=some y→Fn 18 8 [qam c] (qas c) (.pv (.tuple #[qab y,iV 0])) 0 []):=by
 have h1:=qcx S hs
 refine⟨fun V=>?_,fun V he=>?_,fun V y hy=>?_⟩
 ·rw[qbR V] at h1
  exact quF (h1:=h1) (he:=by decide)
 ·rw[qcA V] at h1
  exact qss (y:=Ev.mk 0 0 0 0 0) (h1:=h1) (ht:=qhH V.a he)
 ·rw[qcA V] at h1
  exact qss (h1:=h1) (ht:=qe0 V.a hy)
noncomputable def ctE (c:Ck) (tn td:Int):Int:=open Classical in if okB tn td=true∧okB c.tn c.td=true then (if tn*c.td<c.tn*td then 44 else 0) else 8
theorem qr6 {c:Ck} (S:S9 c) {tn td:Int} (htn:I64 tn) (htd:I64 td):Fn 62 8 [qam c,.pv (qaa tn td)] (qas c) (.pv (iV (ctE c tn td))) 0 []:=by
 by_cases h:okB tn td=true∧okB c.tn c.td=true
 ·have hc:=qj3 htn htd S.tn S.td h.1 h.2
  by_cases hl:tn*c.td<c.tn*td
  ·have e:ctE c tn td=44:=by unfold ctE;rw[if_pos h,if_pos hl]
   rw[e]
   have:(tn*c.td-c.tn*td).sign = -1:=Int.sign_eq_neg_one_of_neg (by omega)
   rw[this] at hc
   exact qqE (hc:=hc) (hn:=by decide)
  ·have e:ctE c tn td=0:=by unfold ctE;rw[if_pos h,if_neg hl]
   rw[e]
   exact qyE (hc:=hc) (hn:=df fun hh=>by
    have:=(qef (tn*c.td-c.tn*td)).2 (by omega)
    omega)
 ·have e:ctE c tn td=8:=by unfold ctE;rw[if_neg h]
  rw[e]
  exact qtP (hc:=quT htn htd S.tn S.td h) (he:=by decide)
theorem qsm {c:Ck} {tn td:Int} (V:V9 c):qde c tn td=ctE c tn td:=by
 unfold qde ctE
 by_cases h:okB tn td=true
 ·rw[if_pos (show V9 c∧okB tn td=true from ⟨V,h⟩),if_pos (show okB tn td=true∧okB c.tn c.td=true from ⟨h,V.t⟩)]
 ·rw[if_neg (show ¬ (V9 c∧okB tn td=true) from fun e=>h e.2),if_neg (show ¬ (okB tn td=true∧okB c.tn c.td=true) from fun e=>h e.1)]
theorem qnS (a b:Int):(a-b).sign≤0↔a≤b:=by
 rcases Int.lt_trichotomy (a-b) 0 with h | h | h
 ·rw[Int.sign_eq_neg_one_of_neg h];omega
 ·rw[h];simp;omega
 ·rw[Int.sign_eq_one_of_pos h];omega
theorem qrT {c:Ck} (V:V9 c) {tn td:Int} (htn:I64 tn) (htd:I64 td) (ht:okB tn td=true):∃ y,Fn 63 8 [qam c,.pv (qaa tn td)] (qas c) (.pv (.tuple #[qab y,.bool (qlZ c tn td)])) 0 []∧(qlZ c tn td=true→c.ev[0]?=some y):=by
 unfold qlZ
 cases hy:c.ev[0]? with
 | none=>
  have he:c.ev=[]:=by
   have:=List.getElem?_eq_none_iff.1 hy
   exact List.eq_nil_of_length_eq_zero (by omega)
  exact⟨Ev.mk 0 0 0 0 0,qzO (y:=Ev.mk 0 0 0 0 0) (ht:=qhH V.a he) (he:=by decide),fun h=>by cases h⟩
 | some y=>
  have hm:=List.mem_of_getElem? hy
  obtain⟨i1,i2⟩:=V.a.sm.i y hm
  obtain⟨p,hp,f,q,_,hd⟩:=V.ev hy
  have hk:okB y.n y.d=true:=(V.a.ef.ok y hm).ok
  have hc:=qj3 i1 i2 htn htd hk ht
  by_cases hl:y.n*td≤tn*y.d
  ·exact⟨y,by simp only[dt hl];exact qvO (ht:=qe0 V.a hy) (hc:=hc) (hn:=dt ((qnS _ _).2 hl)),fun _=>rfl⟩
  ·exact⟨y,by simp only[df hl];exact qtf (ht:=qe0 V.a hy) (hc:=hc) (hn:=df fun h=>hl ((qnS _ _).1 h)),fun _=>rfl⟩
theorem qzS {c:Ck} (S:S9 c) (hs:c.s.length≤70) {tn td:Int} (htn:I64 tn) (htd:I64 td):(faE c tn td≠0→quu 19 c tn td (faE c tn td))∧(faE c tn td=0→∀ y p o,qeF c y p o→qEQ 19 c tn td y p o):=by
 have h1:=qcx S hs
 have h2:=qr6 S htn htd
 by_cases V:V9 c
 ·rw[qcA V] at h1
  have eu:=qsm (tn:=tn) (td:=td) V
  by_cases h0:qde c tn td=0
  ·obtain⟨_,ht,_⟩:=qsf h0
   rw[← eu,h0] at h2
   obtain⟨y,hd,hy⟩:=qrT V htn htd ht
   cases hb:qlZ c tn td
   ·rw[hb] at hd
    have e:faE c tn td=6:=by unfold faE;rw[if_pos h0,if_neg (by rw[hb];decide)]
    rw[e]
    exact⟨fun _=>qyz (h1:=h1) (h2:=h2) (hd:=hd),fun h=>by cases h⟩
   ·rw[hb] at hd
    have e:faE c tn td=0:=by unfold faE;rw[if_pos h0,if_pos hb]
    refine⟨fun h=>(h e).elim,fun _ y' p o ho=>?_⟩
    obtain⟨hy',hp,he,g,hg,rfl⟩:=ho
    rw[hy hb] at hy'
    cases hy'
    rw[← he] at hg
    have r:=qyB S V hp hg
    rw[he] at r
    exact qyo (o:=g) (h1:=h1) (h2:=h2) (hd:=hd) (hr:=r)
  ·have e:faE c tn td=qde c tn td:=by unfold faE;rw[if_neg h0]
   rw[e]
   rw[← eu] at h2
   exact⟨fun _=>qAu (h1:=h1) (h2:=h2) (he:=by simpa using h0),fun h=>(h0 h).elim⟩
 ·rw[qbR V] at h1
  have e:qde c tn td=8:=by unfold qde;rw[if_neg fun h=>V h.1]
  have e':faE c tn td=8:=by unfold faE;rw[e,if_neg (by decide)]
  rw[e']
  exact⟨fun _=>qAY (h1:=h1) (h2:=h2) (he:=by decide),fun h=>by cases h⟩
theorem qAq {c:Ck} (S:S9 c) (hs:c.s.length≤70) {tn td:Int} (htn:I64 tn) (htd:I64 td):(moE c tn td≠0→qsT 20 c tn td (moE c tn td))∧(moE c tn td=0→qER 20 c tn td):=by
 have h1:=qcx S hs
 have h2:=qr6 S htn htd
 by_cases V:V9 c
 ·rw[qcA V] at h1
  have eu:=qsm (tn:=tn) (td:=td) V
  by_cases h0:qde c tn td=0
  ·obtain⟨_,ht,_⟩:=qsf h0
   rw[← eu,h0] at h2
   obtain⟨y,hd,hy⟩:=qrT V htn htd ht
   cases hb:qlZ c tn td
   ·rw[hb] at hd
    have e:moE c tn td=0:=by unfold moE;rw[if_pos h0,if_neg (by rw[hb];decide)]
    exact⟨fun h=>(h e).elim,fun _=>qzd (h1:=h1) (h2:=h2) (hd:=hd) (hcl:=qgZ S (by omega))⟩
   ·rw[hb] at hd
    have e:moE c tn td=36:=by unfold moE;rw[if_pos h0,if_pos hb]
    rw[e]
    exact⟨fun _=>qwm (h1:=h1) (h2:=h2) (hd:=hd),fun h=>by cases h⟩
  ·have e:moE c tn td=qde c tn td:=by unfold moE;rw[if_neg h0]
   rw[e]
   rw[← eu] at h2
   exact⟨fun _=>qzs (h1:=h1) (h2:=h2) (he:=by simpa using h0),fun h=>(h0 h).elim⟩
 ·rw[qbR V] at h1
  have e:qde c tn td=8:=by unfold qde;rw[if_neg fun h=>V h.1]
  have e':moE c tn td=8:=by unfold moE;rw[e,if_neg (by decide)]
  rw[e']
  exact⟨fun _=>qAr (h1:=h1) (h2:=h2) (he:=by decide),fun h=>by cases h⟩
end Go.Proofs.YtkjaanhddkkodaaGreat
