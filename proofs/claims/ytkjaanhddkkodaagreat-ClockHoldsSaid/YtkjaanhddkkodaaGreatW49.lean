/-
  Joined: Bn, Bo. Conditions: none.
-/
import Derived.Test.YtkjaanhddkkodaaGreatW48
import Derived.Test.YtkjaanhddkkodaaGreatW39
import Derived.Test.YtkjaanhddkkodaaGreatW27
import Derived.Test.YtkjaanhddkkodaaGreatW18
import Derived.Test.YtkjaanhddkkodaaGreatW40
namespace Go.Proofs.YtkjaanhddkkodaaGreat
set_option maxRecDepth 100000
open Go.RowKit
theorem qj6 (n:Int) (h:qhs ⟨5,0,n⟩=true):Val (qcz n):=⟨by show 3≤64;omega,fun p hp=>by
 simp only[List.mem_cons,List.not_mem_nil,or_false] at hp
 rcases hp with rfl | rfl | rfl
 ·decide
 ·decide
 ·exact h,Up.of_pw (by show [1,2,5].Pairwise (fun a b:Int=>a<b);decide)⟩
theorem qud:Val (qcz 0):=qj6 0 (by decide)
theorem qBa:Val (qcz 1):=qj6 1 (by decide)
theorem qjK {n:Int} (V:Val (qcz n)):qb8 (qcz n) 1=⟨1,0,2⟩∧qb8 (qcz n) 2=⟨2,6,-1⟩∧qb8 (qcz n) 5=⟨5,0,n⟩:=
 ⟨qbx V (q:=⟨1,0,2⟩) (by simp),qbx V (q:=⟨2,6,-1⟩) (by simp),qbx V (q:=⟨5,0,n⟩) (by simp)⟩
theorem qqD {P Q pb qb pi qi:Int} (h:P<Q):qaY P Q pb qb pi qi=false:=qbv (by omega)
theorem qEj {α:Type} {l:List α} (h:l.length=3):∃ a b c,l=[a,b,c]:=by
 match l,h with
 | [a,b,c],_=>exact⟨a,b,c,rfl⟩
theorem qaW {n:Int} (h1 : -1000≤n) (h2:n≤1000):I64 n:=⟨by omega,by omega⟩
theorem qcH {n:Int} (a:Int) (h:a=1∨a=2∨a=5):∃ q∈qcz n,q.id=a:=by
 rcases h with rfl | rfl | rfl
 ·exact⟨⟨1,0,2⟩,by simp,rfl⟩
 ·exact⟨⟨2,6,-1⟩,by simp,rfl⟩
 ·exact⟨⟨5,0,n⟩,by simp,rfl⟩
theorem qo9 {n t m k:Int} {w:Bool} {a b:Int} (V:Val (qcz n)) (ht:okB t 1=true) (h1:I64 t) (hc:qb7 a b=true) (ha:a=1∨a=2∨a=5) (hb:b=1∨b=2∨b=5) (h:FailIs (qb8 (qcz n) b) (qb8 (qcz n) a) t 1 m k w) (i:Int):qae (qcz n) t 1 ⟨i,a,b⟩=(m,k,w):=
 qq7 (qby h1 (qaW (by omega) (by omega)) ht V hc (qcH a ha) (qcH b hb)) h
theorem qDD (i:Int):qae (qcz 0) 1 1 ⟨i,1,2⟩=(2,1,true):=by
 obtain⟨e1,e2,e3⟩:=qjK qud
 refine qo9 qud (by decide) (qaW (by omega) (by omega)) (by decide) (by omega) (by omega) ?_ i
 rw[e1,e2]
 exact⟨fun _=>⟨by decide,qaW (by omega) (by omega),qaW (by omega) (by omega),by omega⟩,fun h=>(by cases h),fun _=>by decide,fun tn td ht _ h=>qqD (by
  have:=qbd ht
  have:=h rfl
  show 0*td+2*tn<6*td + -1*tn
  omega)⟩
theorem qBn (t:Int) (h1:1≤t) (h2:t≤2) (i:Int):qae (qcz 0) t 1 ⟨i,5,2⟩=(6,1,true):=by
 obtain⟨e1,e2,e3⟩:=qjK qud
 have ht:okB t 1=true:=qhF (by omega)
 refine qo9 qud ht (qaW (by omega) (by omega)) (by decide) (by omega) (by omega) ?_ i
 rw[e3,e2]
 exact⟨fun _=>⟨by decide,qaW (by omega) (by omega),qaW (by omega) (by omega),by omega⟩,fun h=>(by cases h),fun _=>by decide,fun tn td ht _ h=>qqD (by
  have:=qbd ht
  have:=h rfl
  show 0*td+0*tn<6*td + -1*tn
  omega)⟩
theorem qs2 (n t:Int) (V:Val (qcz n)) (hn:n=0∨n=1) (h1:1≤t) (h2:t≤2) (i:Int):qae (qcz n) t 1 ⟨i,5,1⟩=(0,0,false):=by
 obtain⟨e1,e2,e3⟩:=qjK V
 have ht:okB t 1=true:=qhF (by omega)
 refine qo9 V ht (qaW (by omega) (by omega)) (by decide) (by omega) (by omega) ?_ i
 rw[e1,e3]
 refine⟨fun h=>(by cases h),fun _=>⟨rfl,rfl⟩,fun h=>(by cases h),fun tn td ht h _=>qqD ?_⟩
 have d0:=qbd ht
 have tp:0<tn:=by
  have:1*td≤t*td:=Int.mul_le_mul_of_nonneg_right h1 (by omega)
  omega
 rcases hn with rfl | rfl
 ·show 0*td+0*tn<0*td+2*tn
  omega
 ·show 0*td+1*tn<0*td+2*tn
  omega
theorem qz3 (i:Int):qae (qcz 1) 2 1 ⟨i,5,2⟩=(3,1,true):=by
 obtain⟨e1,e2,e3⟩:=qjK qBa
 refine qo9 qBa (by decide) (qaW (by omega) (by omega)) (by decide) (by omega) (by omega) ?_ i
 rw[e3,e2]
 exact⟨fun _=>⟨by decide,qaW (by omega) (by omega),qaW (by omega) (by omega),by omega⟩,fun h=>(by cases h),fun _=>by decide,fun tn td ht _ h=>qqD (by
  have:=qbd ht
  have:=h rfl
  show 0*td+1*tn<6*td + -1*tn
  omega)⟩
theorem qtS {c:Ck} {s:List Pt} (V:V9 c) {l:List Pt} {o:Ck} {r:Option Ck} (h:AlRun c s l o r):(∀ p∈l,p∈c.l)→(∀ p∈l,(qae s c.tn c.td p).2.2=true→qaU c p=true)→∃ o',r=some o':=by
 induction h with
 | nil o=>exact fun _ _=>⟨o,rfl⟩
 | step _ _ ih=>exact fun h1 h2=>ih (fun p hp=>h1 p (List.mem_cons_of_mem _ hp)) (fun p hp=>h2 p (List.mem_cons_of_mem _ hp))
 | @full p l o h=>
  intro h1 h2
  obtain⟨f,hn,_⟩:=h
  obtain⟨q,hq,he⟩:=(V.due_iff (h1 p List.mem_cons_self)).2 (h2 p List.mem_cons_self f)
  exact (hn q hq he).elim
theorem qgw {c:Ck} {tn td:Int} (V:V9 c) (ht:okB tn td=true) (h:c.tn*td≤tn*c.td):qdn c tn td=0:=by
 unfold qdn
 rw[if_pos (show V9 c∧okB tn td=true from ⟨V,ht⟩),if_neg (by omega)]
theorem qhX {c:Ck} {y:Ev} {tn td:Int} (h:c.ev[0]?=some y):qhD c tn td=decide (y.n*td≤tn*y.d):=by unfold qhD;rw[h]
theorem qqj {c:Ck} (h:c.l.map abP=[P2.mk 1 2,P2.mk 5 2,P2.mk 5 1]) (hi:∀ (k:Nat) (p:Pt),c.l[k]?=some p→p.id=(k:Int)):c.l=[⟨0,1,2⟩,⟨1,5,2⟩,⟨2,5,1⟩]:=by
 obtain⟨p0,p1,p2,hl⟩:=qEj (l:=c.l) (by have:=congrArg List.length h;simpa using this)
 rw[hl] at h hi ⊢
 have h0:=hi 0 p0 rfl
 have h1:=hi 1 p1 rfl
 have h2:=hi 2 p2 rfl
 simp only[List.map_cons,List.map_nil,List.cons.injEq,P2.mk.injEq,and_true] at h
 obtain⟨⟨a1,b1⟩,⟨a2,b2⟩,a3,b3⟩:=h
 cases p0;cases p1;cases p2
 simp only at h0 h1 h2 a1 b1 a2 b2 a3 b3
 subst h0 h1 h2 a1 b1 a2 b2 a3 b3
 rfl
theorem qj1:Pure Tryz.prog 24 #[] (.bool true):=by
 have one:I64 1:=qaW (by omega) (by omega)
 have G0:=qud
 obtain⟨c,hr,I⟩:=qxG (s:=qcz 0) (tn:=1) (td:=1) (l:=[P2.mk 1 2,P2.mk 5 2,P2.mk 5 1]) one one G0 (by decide) (fun g hg=>by
  simp only[List.mem_cons,List.not_mem_nil,or_false] at hg
  rcases hg with rfl | rfl | rfl
  ·exact⟨by decide,qcH 1 (by omega),qcH 2 (by omega)⟩
  ·exact⟨by decide,qcH 5 (by omega),qcH 2 (by omega)⟩
  ·exact⟨by decide,qcH 5 (by omega),qcH 1 (by omega)⟩) (by decide) (by decide)
 have hce:=qEw one one G0 (by decide) (by decide) hr
 have V:=I.V
 have cl:=qqj I.l I.id
 have i1:I64 c.tn:=by rw[I.tn];exact one
 have i2:I64 c.td:=by rw[I.td];exact one
 have S:=V.small i1 i2
 have f0:qae c.s c.tn c.td ⟨0,1,2⟩=(2,1,true):=by rw[I.s,I.tn,I.td];exact qDD 0
 have f1:qae c.s c.tn c.td ⟨1,5,2⟩=(6,1,true):=by rw[I.s,I.tn,I.td];exact qBn 1 (by omega) (by omega) 1
 have f2:qae c.s c.tn c.td ⟨2,5,1⟩=(0,0,false):=by rw[I.s,I.tn,I.td];exact qs2 0 1 qud (Or.inl rfl) (by omega) (by omega) 2
 have hs:c.s.length≤70:=by have:=V.s.len;omega
 have dl:c.d.length=2:=by
  have:=(qdS.1 V.f).1
  have w0:qaU c ⟨0,1,2⟩=true:=by show (qae c.s c.tn c.td _).2.2=true;rw[f0]
  have w1:qaU c ⟨1,5,2⟩=true:=by show (qae c.s c.tn c.td _).2.2=true;rw[f1]
  have w2:¬ qaU c ⟨2,5,1⟩=true:=by show ¬ (qae c.s c.tn c.td _).2.2=true;rw[f2];decide
  rw[this,cl,List.filter_cons_of_pos (p:=qaU c) w0,List.filter_cons_of_pos (p:=qaU c) w1,List.filter_cons_of_neg (p:=qaU c) w2]
  rfl
 obtain⟨y,hy,yk,yn,yd⟩:=V.first i1 i2 (p:=⟨0,1,2⟩) (by rw[cl];simp) (by show (qae c.s c.tn c.td _).2.2=true;rw[f0]) (fun p' hp' hf' hi'=>by
  rw[cl] at hp'
  simp only[List.mem_cons,List.not_mem_nil,or_false] at hp'
  rcases hp' with rfl | rfl | rfl
  ·exact (hi' rfl).elim
  ·rw[f0,f1];decide
  ·have:(qae c.s c.tn c.td ⟨2,5,1⟩).2.2=true:=hf'
   rw[f2] at this
   cases this)
 rw[f0] at yn yd
 replace yn:y.n=2:=yn
 replace yd:y.d=1:=yd
 replace yk:y.k=0:=yk
 have four:I64 4:=qaW (by omega) (by omega)
 have u0:qdn c 4 1=0:=qgw V (by decide) (by rw[I.tn,I.td];decide)
 have d0:qhD c 4 1=true:=by rw[qhX hy,yn,yd];decide
 have e0:faE c 4 1=0:=by unfold faE;rw[if_pos u0,if_pos d0]
 obtain⟨g,hg⟩:=qvP V y.k
 have ho:qeS c y ⟨0,1,2⟩ { g with tn:=y.n,td:=y.d }:=⟨hy,by rw[cl];simp,yk.symm,g,hg,rfl⟩
 have hf1:=(prog9.fail S hs four one).2 e0 y _ _ ho
 obtain⟨Vo,o1,o2,_⟩:=V.failed_ok i1 i2 ho
 have gl:g.l=qaN c.l y.k∧g.s=c.s:=by
  rcases hg with ⟨_,rfl⟩ | ⟨_,_,_,_,_,_,_,_,_,_,rfl⟩<;>exact⟨rfl,rfl⟩
 generalize ho':({ g with tn:=y.n,td:=y.d }:Ck)=o at Vo o1 o2 hf1
 have ol:o.l=[⟨1,5,2⟩,⟨2,5,1⟩]:=by
  rw[← ho']
  show g.l=_
  rw[gl.1,cl,yk]
  rfl
 have os:o.s=qcz 0:=by rw[← ho'];exact gl.2.trans I.s
 have otn:o.tn=2:=by rw[← ho'];exact yn
 have otd:o.td=1:=by rw[← ho'];exact yd
 have So:=Vo.small o1 o2
 have g1:qae o.s o.tn o.td ⟨1,5,2⟩=(6,1,true):=by rw[os,otn,otd];exact qBn 2 (by omega) (by omega) 1
 have g2:qae o.s o.tn o.td ⟨2,5,1⟩=(0,0,false):=by rw[os,otn,otd];exact qs2 0 2 qud (Or.inl rfl) (by omega) (by omega) 2
 have hso:o.s.length≤70:=by have:=Vo.s.len;omega
 obtain⟨y2,hy2,_,yn2,yd2⟩:=Vo.first o1 o2 (p:=⟨1,5,2⟩) (by rw[ol];simp) (by show (qae o.s o.tn o.td _).2.2=true;rw[g1]) (fun p' hp' hf' hi'=>by
  rw[ol] at hp'
  simp only[List.mem_cons,List.not_mem_nil,or_false] at hp'
  rcases hp' with rfl | rfl
  ·exact (hi' rfl).elim
  ·have:(qae o.s o.tn o.td ⟨2,5,1⟩).2.2=true:=hf'
   rw[g2] at this
   cases this)
 rw[g1] at yn2 yd2
 replace yn2:y2.n=6:=yn2
 replace yd2:y2.d=1:=yd2
 have u1:qdn o 4 1=0:=qgw Vo (by decide) (by rw[otn,otd];decide)
 have d1:qhD o 4 1=false:=by rw[qhX hy2,yn2,yd2];decide
 have e1:faE o 4 1=6:=by unfold faE;rw[if_pos u1,if_neg (by rw[d1];decide)]
 have hf2:=(prog9.fail So hso four one).1 (by rw[e1];decide)
 rw[e1] at hf2
 have six:I64 6:=qaW (by omega) (by omega)
 have u2:qdn o 6 1=0:=qgw Vo (by decide) (by rw[otn,otd];decide)
 have d2:qhD o 6 1=true:=by rw[qhX hy2,yn2,yd2];decide
 have e2:moE o 6 1=36:=by unfold moE;rw[if_pos u2,if_pos d2]
 have hmv:=(prog9.move So hso six one).1 (by rw[e2];decide)
 rw[e2] at hmv
 have kn:qcs o.l (qcz 1):=fun p hp=>by
  rw[ol] at hp
  simp only[List.mem_cons,List.not_mem_nil,or_false] at hp
  rcases hp with rfl | rfl
  ·exact⟨qcH 5 (by omega),qcH 2 (by omega)⟩
  ·exact⟨qcH 5 (by omega),qcH 1 (by omega)⟩
 have P:AlPre o (qcz 1):=⟨So,Vo,qBa,kn⟩
 have e3:qii o (qcz 1)=0:=by unfold qii;rw[if_pos Vo,if_pos (qcG.2 qBa),if_pos kn]
 obtain⟨r,hal⟩:=qhL P o.l { o with d:=[] } (fun p hp=>hp) Vo.v.up.nodup (qgz P)
 have k1:qae (qcz 1) o.tn o.td ⟨1,5,2⟩=(3,1,true):=by rw[otn,otd];exact qz3 1
 have k2:qae (qcz 1) o.tn o.td ⟨2,5,1⟩=(0,0,false):=by rw[otn,otd];exact qs2 1 2 qBa (Or.inr rfl) (by omega) (by omega) 2
 obtain⟨a,rfl⟩:=qtS Vo hal (fun p hp=>hp) (fun p hp h=>by
  rw[ol] at hp
  simp only[List.mem_cons,List.not_mem_nil,or_false] at hp
  rcases hp with rfl | rfl
  ·show (qae o.s o.tn o.td _).2.2=true
   rw[g1]
  ·rw[k2] at h
   cases h)
 have hal1:=((prog9.alter So hso (qcz 1) (by decide)).2 e3 _ hal).1 a rfl
 have Va:=V9.alter_ok P hal
 have Sa:=Va.small o1 o2
 obtain⟨z,hz,zk,zn,zd⟩:=Va.first o1 o2 (p:=⟨1,5,2⟩) (by show _∈o.l;rw[ol];simp) (by show (qae (qcz 1) o.tn o.td _).2.2=true;rw[k1]) (fun p' hp' hf' hi'=>by
  have hp2:p'∈o.l:=hp'
  rw[ol] at hp2
  simp only[List.mem_cons,List.not_mem_nil,or_false] at hp2
  rcases hp2 with rfl | rfl
  ·exact (hi' rfl).elim
  ·have:(qae (qcz 1) o.tn o.td ⟨2,5,1⟩).2.2=true:=hf'
   rw[k2] at this
   cases this)
 have zn':z.n=3:=zn.trans (congrArg (fun r:Int×Int×Bool=>r.1) k1)
 have zd':z.d=1:=zd.trans (congrArg (fun r:Int×Int×Bool=>r.2.1) k1)
 have hnx:=(prog9.next Sa (by show (qcz 1).length≤70;decide)).2.2 Va z hz
 have F:=qnH (c:=c) (o:=o) (o1:=a) (y:=y) (p:=⟨0,1,2⟩) (z9:=z) (hg0:=qFc) (hat1:=qzW) (hce:=hce) (hat4:=qzW) (hf1:=hf1) (hf2:=hf2) (hat6:=qzW) (hmv:=hmv) (hg1:=qFc) (hal1:=hal1) (hnx:=hnx)
  (t1:=by simp[dl]) (hat2:=qzW) (t2:=by simp[yn,yd]) (t3:=by decide) (t4:=by simp[otn,otd]) (hat3:=qzW) (t5:=by simp[zn',zd']) (t6:=by simp[zk])
 exact qi2 F
end Go.Proofs.YtkjaanhddkkodaaGreat

namespace Go.Proofs.YtkjaanhddkkodaaGreat
set_option maxRecDepth 100000
open Go.RowKit
theorem qFD (x:Int) {l s:List Pt} {tn td:Int} (htn:I64 tn) (htd:I64 td) (hv:V8 x l) (hs:Val s) (hok:okB tn td=true) (hk:qcs l s):qFT 42 x l s tn td (sel (qdu s tn td) l):=by
 have hn:l.length≤210:=by have:=hv.len;omega
 have c1:=qfh x l
 rw[qcT hv] at c1
 have c2:=qdb s
 rw[qcG.2 hs] at c2
 have h1:=qA5 x hn hs
 rw[qcq.2 hk] at h1
 exact qyu (c1:=c1) (c2:=c2) (c3:=qbA htn htd hok) (hb:=qAa hs) (hh:=h1) (hn:=qw7 x hn hok hs hk hv.ok htn htd)
theorem qtZ {c:Ck} (V:V9 c) {tn td:Int} (ht:okB tn td=true) (h:qhD c tn td=false):∀ y∈c.ev,tn*y.d<y.n*td:=fun y hy=>by
 obtain⟨j,hj⟩:=List.getElem?_of_mem hy
 obtain⟨x,hx⟩:=qah (l:=c.ev) (k:=0) (by have:=qai hj;omega)
 rw[qhX hx] at h
 have lt:tn*x.d<x.n*td:=by have:=of_decide_eq_false h;omega
 have le:=qjl (qdN V.a hx j y hj)
 have px:=(V.a.ef.ok x (List.mem_of_getElem? hx)).pos
 have py:=(V.a.ef.ok y hy).pos
 have t0:=qbd ht
 exact qqN (by omega) px py lt le
theorem qlB {P Q pb qb pi qi:Int} (h:pi≠qi):qaY Q P qb pb qi pi = !qaY P Q pb qb pi qi:=by
 cases e:qaY P Q pb qb pi qi
 ·have:=of_decide_eq_false e
  exact qbP (by omega)
 ·have:=of_decide_eq_true e
  exact qbv (by omega)
theorem qmv {c:Ck} (V:V9 c) {p:Pt} (hp:p∈c.l) (tn td:Int):qdu c.s tn td p = !ldB (qb8 c.s p.a) (qb8 c.s p.b) tn td:=by
 obtain⟨⟨q,hq,ea⟩,g,hg,eb⟩:=V.k p hp
 have e1:qb8 c.s p.a=q:=by rw[← ea];exact qbx V.s hq
 have e2:qb8 c.s p.b=g:=by rw[← eb];exact qbx V.s hg
 have hne:q.id≠g.id:=by have:=(qbf.1 (V.v.ok p hp)).2.2.2.2;omega
 unfold qdu
 rw[e1,e2]
 exact qlB hne
theorem qqq {c:Ck} (V:V9 c) (h1:I64 c.tn) (h2:I64 c.td) {tn td:Int} (ht:okB tn td=true) (hl:c.tn*td≤tn*c.td) (h:qhD c tn td=false):∀ p∈c.l,qdu c.s tn td p=true:=fun p hp=>by
 rw[qmv V hp]
 have F:=FailT.same V h1 h2 hp
 rw[F.i.before tn td ht hl fun f=>?_]
 ·rfl
 ·obtain⟨q,_,y,hd⟩:=V.f.all p hp f
  obtain⟨j,_,hj⟩:=hd.at_
  have:=qtZ V ht h y (List.mem_of_getElem? hj)
  rw[hd.n,hd.d] at this
  exact this
theorem qmD {c:Ck} (V:V9 c) (h1:I64 c.tn) (h2:I64 c.td) {y:Ev} (hy:c.ev[0]?=some y):∃ p∈c.l,qdu c.s y.n y.d p=false:=by
 obtain⟨p,hp,f,q,_,hd⟩:=V.ev hy
 have F:=FailT.same V h1 h2 hp
 refine⟨p,hp,?_⟩
 rw[qmv V hp,hd.n,hd.d,F.i.then_ f]
 rfl
theorem qoG {α:Type} {f:α→Bool} {l:List α} {p:α} (hp:p∈l) (h:f p=false):(l.filter f).length<l.length:=by
 induction l with
 | nil=>cases hp
 | cons q l ih=>
  rcases List.mem_cons.1 hp with rfl | hp
  ·rw[List.filter_cons_of_neg (by rw[h];decide),List.length_cons]
   have:=List.length_filter_le f l
   omega
  ·have:=ih hp
   cases e:f q
   ·rw[List.filter_cons_of_neg (by rw[e];decide),List.length_cons];omega
   ·rw[List.filter_cons_of_pos e,List.length_cons,List.length_cons];omega
theorem qi7 (c:Ck) (h1:I64 c.tn) (h2:I64 c.td) (hi:∀ y∈c.ev,EvI y) (tn td:Int) (htn:I64 tn) (htd:I64 td) :
 Fn 7 8 [qao c,.pv (qaa tn td)] (qar c) (.pv (.bool true)) 0 []:=by
 by_cases hfit:qeu c=false∧V9 c
 ·obtain⟨hg,V⟩:=hfit
  obtain⟨S,_,_,hs⟩:=qhB hg h1 h2 hi
  have FT:=qqs S V hg
  have hu:=qk1 S htn htd
  by_cases h0:qdn c tn td=0
  ·rw[h0] at hu
   obtain⟨_,ht,hle⟩:=qjT h0
   have hl:=V.v.len
   have H1:=qFD c.x htn htd V.v V.s ht V.k
   cases hb:qhD c tn td
   ·have e:moE c tn td=0:=by unfold moE;rw[if_pos h0,if_neg (by rw[hb];decide)]
    have hm:=(prog9.move S hs htn htd).2 e
    have V':=V.move_ok h1 h2 htn htd e
    have hck:=qdK (V'.small htn htd)
    rw[qbQ V'] at hck
    have ml:(sel (qdu c.s tn td) c.l).length=c.l.length:=by
     unfold sel
     rw[List.length_map,List.filter_eq_self.2 (qqq V h1 h2 ht hle hb)]
    exact qxY (mm:=sel (qdu c.s tn td) c.l) (hft:=FT) (hu:=hu) (hm:=hm) (h1:=H1) (t1:=by simp[ml]) (hck:=hck) (hs8:=qqZ c.x (by omega)) (hal:=qj1)
   ·have e:moE c tn td=36:=by unfold moE;rw[if_pos h0,if_pos hb]
    have hm:=(prog9.move S hs htn htd).1 (by rw[e];decide)
    rw[e] at hm
    cases hy:c.ev[0]? with
    | none=>unfold qhD at hb;rw[hy] at hb;cases hb
    | some y=>
     rw[qhX hy] at hb
     have hle2:=of_decide_eq_true hb
     have hm2:=List.mem_of_getElem? hy
     obtain⟨i1,i2⟩:=hi y hm2
     have oky:=(V.a.ef.ok y hm2).ok
     have H2:=qFD c.x i1 i2 V.v V.s oky V.k
     obtain⟨p,hp,hf⟩:=qmD V h1 h2 hy
     have lt:=qoG hp hf
     have ml:(sel (qdu c.s y.n y.d) c.l).length<c.l.length:=by unfold sel;rw[List.length_map];exact lt
     exact quh (mm:=sel (qdu c.s tn td) c.l) (m2:=sel (qdu c.s y.n y.d) c.l) (y:=y) (hft:=FT) (hu:=hu) (hm:=hm) (h1:=H1) (hx:=(prog9.next S hs).2.2 V y hy) (h2:=H2) (hc:=qcP i1 i2 htn htd) (t1:=dt ((qxv _ _).2 hle2)) (t2:=dt (by omega)) (hal:=qj1)
  ·exact qlX (hft:=FT) (hu:=hu) (he:=by simpa using h0) (hal:=qj1)
 ·exact qoB (hft:=qu6 h1 h2 hi hfit) (hal:=qj1)
end Go.Proofs.YtkjaanhddkkodaaGreat
