/-
  Joined: Bn, Bo. Conditions: none.
-/
import Derived.Test.YtkjaanhddkkodaaGreatW48
import Derived.Test.YtkjaanhddkkodaaGreatW39
import Derived.Test.YtkjaanhddkkodaaGreatW27
import Derived.Test.YtkjaanhddkkodaaGreatW18
import Derived.Test.YtkjaanhddkkodaaGreatW40
namespace Go.Proofs.YtkjaanhddkkodaaGreat
set_option maxRecDepth 100000
open Go.RowKit
theorem qjw (n:Int) (h:qhM ⟨5,0,n⟩=true):Val (qcs n):=⟨by show 3≤64;omega,fun p hp=>by
 simp only[List.mem_cons,List.not_mem_nil,or_false] at hp
 rcases hp with rfl | rfl | rfl
 ·decide
 ·decide
 ·exact h,Up.of_pw (by show [1,2,5].Pairwise (fun a b:Int=>a<b);decide)⟩
theorem qun:Val (qcs 0):=qjw 0 (by decide)
theorem qxU:Val (qcs 1):=qjw 1 (by decide)
theorem qjq {n:Int} (V:Val (qcs n)):qda (qcs n) 1=⟨1,0,2⟩∧qda (qcs n) 2=⟨2,6,-1⟩∧qda (qcs n) 5=⟨5,0,n⟩:=
 ⟨qcr V (q:=⟨1,0,2⟩) (by simp),qcr V (q:=⟨2,6,-1⟩) (by simp),qcr V (q:=⟨5,0,n⟩) (by simp)⟩
theorem qqG {P Q pb qb pi qi:Int} (h:P<Q):qbi P Q pb qb pi qi=false:=qcP (by omega)
theorem qB9 {α:Type} {l:List α} (h:l.length=3):∃ a b c,l=[a,b,c]:=by
 match l,h with
 | [a,b,c],_=>exact⟨a,b,c,rfl⟩
theorem qaV {n:Int} (h1 : -1000≤n) (h2:n≤1000):I64 n:=⟨by omega,by omega⟩
theorem qcE {n:Int} (a:Int) (h:a=1∨a=2∨a=5):∃ q∈qcs n,q.id=a:=by
 rcases h with rfl | rfl | rfl
 ·exact⟨⟨1,0,2⟩,by simp,rfl⟩
 ·exact⟨⟨2,6,-1⟩,by simp,rfl⟩
 ·exact⟨⟨5,0,n⟩,by simp,rfl⟩
theorem qq5 {n t m k:Int} {w:Bool} {a b:Int} (V:Val (qcs n)) (ht:okB t 1=true) (h1:I64 t) (hc:qcc a b=true) (ha:a=1∨a=2∨a=5) (hb:b=1∨b=2∨b=5) (h:FailIs (qda (qcs n) b) (qda (qcs n) a) t 1 m k w) (i:Int):qae (qcs n) t 1 ⟨i,a,b⟩=(m,k,w):=
 qpA (qbw h1 (qaV (by omega) (by omega)) ht V hc (qcE a ha) (qcE b hb)) h
theorem qDt (i:Int):qae (qcs 0) 1 1 ⟨i,1,2⟩=(2,1,true):=by
 obtain⟨e1,e2,e3⟩:=qjq qun
 refine qq5 qun (by decide) (qaV (by omega) (by omega)) (by decide) (by omega) (by omega) ?_ i
 rw[e1,e2]
 exact⟨fun _=>⟨by decide,qaV (by omega) (by omega),qaV (by omega) (by omega),by omega⟩,fun h=>(by cases h),fun _=>by decide,fun tn td ht _ h=>qqG (by
  have:=qba ht
  have:=h rfl
  show 0*td+2*tn<6*td + -1*tn
  omega)⟩
theorem qAi (t:Int) (h1:1≤t) (h2:t≤2) (i:Int):qae (qcs 0) t 1 ⟨i,5,2⟩=(6,1,true):=by
 obtain⟨e1,e2,e3⟩:=qjq qun
 have ht:okB t 1=true:=qhJ (by omega)
 refine qq5 qun ht (qaV (by omega) (by omega)) (by decide) (by omega) (by omega) ?_ i
 rw[e3,e2]
 exact⟨fun _=>⟨by decide,qaV (by omega) (by omega),qaV (by omega) (by omega),by omega⟩,fun h=>(by cases h),fun _=>by decide,fun tn td ht _ h=>qqG (by
  have:=qba ht
  have:=h rfl
  show 0*td+0*tn<6*td + -1*tn
  omega)⟩
theorem qvn (n t:Int) (V:Val (qcs n)) (hn:n=0∨n=1) (h1:1≤t) (h2:t≤2) (i:Int):qae (qcs n) t 1 ⟨i,5,1⟩=(0,0,false):=by
 obtain⟨e1,e2,e3⟩:=qjq V
 have ht:okB t 1=true:=qhJ (by omega)
 refine qq5 V ht (qaV (by omega) (by omega)) (by decide) (by omega) (by omega) ?_ i
 rw[e1,e3]
 refine⟨fun h=>(by cases h),fun _=>⟨rfl,rfl⟩,fun h=>(by cases h),fun tn td ht h _=>qqG ?_⟩
 have d0:=qba ht
 have tp:0<tn:=by
  have:1*td≤t*td:=Int.mul_le_mul_of_nonneg_right h1 (by omega)
  omega
 rcases hn with rfl | rfl
 ·show 0*td+0*tn<0*td+2*tn
  omega
 ·show 0*td+1*tn<0*td+2*tn
  omega
theorem qym (i:Int):qae (qcs 1) 2 1 ⟨i,5,2⟩=(3,1,true):=by
 obtain⟨e1,e2,e3⟩:=qjq qxU
 refine qq5 qxU (by decide) (qaV (by omega) (by omega)) (by decide) (by omega) (by omega) ?_ i
 rw[e3,e2]
 exact⟨fun _=>⟨by decide,qaV (by omega) (by omega),qaV (by omega) (by omega),by omega⟩,fun h=>(by cases h),fun _=>by decide,fun tn td ht _ h=>qqG (by
  have:=qba ht
  have:=h rfl
  show 0*td+1*tn<6*td + -1*tn
  omega)⟩
theorem qva {c:Ck} {s:List Pt} (V:V9 c) {l:List Pt} {o:Ck} {r:Option Ck} (h:AlRun c s l o r):(∀ p∈l,p∈c.l)→(∀ p∈l,(qae s c.tn c.td p).2.2=true→qaQ c p=true)→∃ o',r=some o':=by
 induction h with
 | nil o=>exact fun _ _=>⟨o,rfl⟩
 | step _ _ ih=>exact fun h1 h2=>ih (fun p hp=>h1 p (List.mem_cons_of_mem _ hp)) (fun p hp=>h2 p (List.mem_cons_of_mem _ hp))
 | @full p l o h=>
  intro h1 h2
  obtain⟨f,hn,_⟩:=h
  obtain⟨q,hq,he⟩:=(V.due_iff (h1 p List.mem_cons_self)).2 (h2 p List.mem_cons_self f)
  exact (hn q hq he).elim
theorem qgh {c:Ck} {tn td:Int} (V:V9 c) (ht:okB tn td=true) (h:c.tn*td≤tn*c.td):qdo c tn td=0:=by
 unfold qdo
 rw[if_pos (show V9 c∧okB tn td=true from ⟨V,ht⟩),if_neg (by omega)]
theorem qnN {c:Ck} {y:Ev} {tn td:Int} (h:c.ev[0]?=some y):qie c tn td=decide (y.n*td≤tn*y.d):=by unfold qie;rw[h]
theorem qoX {c:Ck} (h:c.l.map abP=[P2.mk 1 2,P2.mk 5 2,P2.mk 5 1]) (hi:∀ (k:Nat) (p:Pt),c.l[k]?=some p→p.id=(k:Int)):c.l=[⟨0,1,2⟩,⟨1,5,2⟩,⟨2,5,1⟩]:=by
 obtain⟨p0,p1,p2,hl⟩:=qB9 (l:=c.l) (by have:=congrArg List.length h;simpa using this)
 rw[hl] at h hi ⊢
 have h0:=hi 0 p0 rfl
 have h1:=hi 1 p1 rfl
 have h2:=hi 2 p2 rfl
 simp only[List.map_cons,List.map_nil,List.cons.injEq,P2.mk.injEq,and_true] at h
 obtain⟨⟨a1,b1⟩,⟨a2,b2⟩,a3,b3⟩:=h
 cases p0;cases p1;cases p2
 simp only at h0 h1 h2 a1 b1 a2 b2 a3 b3
 subst h0 h1 h2 a1 b1 a2 b2 a3 b3
 rfl
theorem qyE:Pure Tryz.prog 24 #[] (.bool true):=by
 have one:I64 1:=qaV (by omega) (by omega)
 have G0:=qun
 obtain⟨c,hr,I⟩:=qzC (s:=qcs 0) (tn:=1) (td:=1) (l:=[P2.mk 1 2,P2.mk 5 2,P2.mk 5 1]) one one G0 (by decide) (fun g hg=>by
  simp only[List.mem_cons,List.not_mem_nil,or_false] at hg
  rcases hg with rfl | rfl | rfl
  ·exact⟨by decide,qcE 1 (by omega),qcE 2 (by omega)⟩
  ·exact⟨by decide,qcE 5 (by omega),qcE 2 (by omega)⟩
  ·exact⟨by decide,qcE 5 (by omega),qcE 1 (by omega)⟩) (by decide) (by decide)
 have hce:=qDT one one G0 (by decide) (by decide) hr
 have V:=I.V
 have cl:=qoX I.l I.id
 have i1:I64 c.tn:=by rw[I.tn];exact one
 have i2:I64 c.td:=by rw[I.td];exact one
 have S:=V.small i1 i2
 have f0:qae c.s c.tn c.td ⟨0,1,2⟩=(2,1,true):=by rw[I.s,I.tn,I.td];exact qDt 0
 have f1:qae c.s c.tn c.td ⟨1,5,2⟩=(6,1,true):=by rw[I.s,I.tn,I.td];exact qAi 1 (by omega) (by omega) 1
 have f2:qae c.s c.tn c.td ⟨2,5,1⟩=(0,0,false):=by rw[I.s,I.tn,I.td];exact qvn 0 1 qun (Or.inl rfl) (by omega) (by omega) 2
 have hs:c.s.length≤70:=by have:=V.s.len;omega
 have dl:c.d.length=2:=by
  have:=(qdT.1 V.f).1
  have w0:qaQ c ⟨0,1,2⟩=true:=by show (qae c.s c.tn c.td _).2.2=true;rw[f0]
  have w1:qaQ c ⟨1,5,2⟩=true:=by show (qae c.s c.tn c.td _).2.2=true;rw[f1]
  have w2:¬ qaQ c ⟨2,5,1⟩=true:=by show ¬ (qae c.s c.tn c.td _).2.2=true;rw[f2];decide
  rw[this,cl,List.filter_cons_of_pos (p:=qaQ c) w0,List.filter_cons_of_pos (p:=qaQ c) w1,List.filter_cons_of_neg (p:=qaQ c) w2]
  rfl
 obtain⟨y,hy,yk,yn,yd⟩:=V.first i1 i2 (p:=⟨0,1,2⟩) (by rw[cl];simp) (by show (qae c.s c.tn c.td _).2.2=true;rw[f0]) (fun p' hp' hf' hi'=>by
  rw[cl] at hp'
  simp only[List.mem_cons,List.not_mem_nil,or_false] at hp'
  rcases hp' with rfl | rfl | rfl
  ·exact (hi' rfl).elim
  ·rw[f0,f1];decide
  ·have:(qae c.s c.tn c.td ⟨2,5,1⟩).2.2=true:=hf'
   rw[f2] at this
   cases this)
 rw[f0] at yn yd
 replace yn:y.n=2:=yn
 replace yd:y.d=1:=yd
 replace yk:y.k=0:=yk
 have four:I64 4:=qaV (by omega) (by omega)
 have u0:qdo c 4 1=0:=qgh V (by decide) (by rw[I.tn,I.td];decide)
 have d0:qie c 4 1=true:=by rw[qnN hy,yn,yd];decide
 have e0:faE c 4 1=0:=by unfold faE;rw[if_pos u0,if_pos d0]
 obtain⟨g,hg⟩:=qnx V y.k
 have ho:qdQ c y ⟨0,1,2⟩ { g with tn:=y.n,td:=y.d }:=⟨hy,by rw[cl];simp,yk.symm,g,hg,rfl⟩
 have hf1:=(prog9.fail S hs four one).2 e0 y _ _ ho
 obtain⟨Vo,o1,o2,_⟩:=V.failed_ok i1 i2 ho
 have gl:g.l=qaB c.l y.k∧g.s=c.s:=by
  rcases hg with ⟨_,rfl⟩ | ⟨_,_,_,_,_,_,_,_,_,_,rfl⟩<;>exact⟨rfl,rfl⟩
 generalize ho':({ g with tn:=y.n,td:=y.d }:Ck)=o at Vo o1 o2 hf1
 have ol:o.l=[⟨1,5,2⟩,⟨2,5,1⟩]:=by
  rw[← ho']
  show g.l=_
  rw[gl.1,cl,yk]
  rfl
 have os:o.s=qcs 0:=by rw[← ho'];exact gl.2.trans I.s
 have otn:o.tn=2:=by rw[← ho'];exact yn
 have otd:o.td=1:=by rw[← ho'];exact yd
 have So:=Vo.small o1 o2
 have g1:qae o.s o.tn o.td ⟨1,5,2⟩=(6,1,true):=by rw[os,otn,otd];exact qAi 2 (by omega) (by omega) 1
 have g2:qae o.s o.tn o.td ⟨2,5,1⟩=(0,0,false):=by rw[os,otn,otd];exact qvn 0 2 qun (Or.inl rfl) (by omega) (by omega) 2
 have hso:o.s.length≤70:=by have:=Vo.s.len;omega
 obtain⟨y2,hy2,_,yn2,yd2⟩:=Vo.first o1 o2 (p:=⟨1,5,2⟩) (by rw[ol];simp) (by show (qae o.s o.tn o.td _).2.2=true;rw[g1]) (fun p' hp' hf' hi'=>by
  rw[ol] at hp'
  simp only[List.mem_cons,List.not_mem_nil,or_false] at hp'
  rcases hp' with rfl | rfl
  ·exact (hi' rfl).elim
  ·have:(qae o.s o.tn o.td ⟨2,5,1⟩).2.2=true:=hf'
   rw[g2] at this
   cases this)
 rw[g1] at yn2 yd2
 replace yn2:y2.n=6:=yn2
 replace yd2:y2.d=1:=yd2
 have u1:qdo o 4 1=0:=qgh Vo (by decide) (by rw[otn,otd];decide)
 have d1:qie o 4 1=false:=by rw[qnN hy2,yn2,yd2];decide
 have e1:faE o 4 1=6:=by unfold faE;rw[if_pos u1,if_neg (by rw[d1];decide)]
 have hf2:=(prog9.fail So hso four one).1 (by rw[e1];decide)
 rw[e1] at hf2
 have six:I64 6:=qaV (by omega) (by omega)
 have u2:qdo o 6 1=0:=qgh Vo (by decide) (by rw[otn,otd];decide)
 have d2:qie o 6 1=true:=by rw[qnN hy2,yn2,yd2];decide
 have e2:moE o 6 1=36:=by unfold moE;rw[if_pos u2,if_pos d2]
 have hmv:=(prog9.move So hso six one).1 (by rw[e2];decide)
 rw[e2] at hmv
 have kn:qcM o.l (qcs 1):=fun p hp=>by
  rw[ol] at hp
  simp only[List.mem_cons,List.not_mem_nil,or_false] at hp
  rcases hp with rfl | rfl
  ·exact⟨qcE 5 (by omega),qcE 2 (by omega)⟩
  ·exact⟨qcE 5 (by omega),qcE 1 (by omega)⟩
 have P:AlPre o (qcs 1):=⟨So,Vo,qxU,kn⟩
 have e3:qid o (qcs 1)=0:=by unfold qid;rw[if_pos Vo,if_pos (qcU.2 qxU),if_pos kn]
 obtain⟨r,hal⟩:=qhf P o.l { o with d:=[] } (fun p hp=>hp) Vo.v.up.nodup (qgH P)
 have k1:qae (qcs 1) o.tn o.td ⟨1,5,2⟩=(3,1,true):=by rw[otn,otd];exact qym 1
 have k2:qae (qcs 1) o.tn o.td ⟨2,5,1⟩=(0,0,false):=by rw[otn,otd];exact qvn 1 2 qxU (Or.inr rfl) (by omega) (by omega) 2
 obtain⟨a,rfl⟩:=qva Vo hal (fun p hp=>hp) (fun p hp h=>by
  rw[ol] at hp
  simp only[List.mem_cons,List.not_mem_nil,or_false] at hp
  rcases hp with rfl | rfl
  ·show (qae o.s o.tn o.td _).2.2=true
   rw[g1]
  ·rw[k2] at h
   cases h)
 have hal1:=((prog9.alter So hso (qcs 1) (by decide)).2 e3 _ hal).1 a rfl
 have Va:=V9.alter_ok P hal
 have Sa:=Va.small o1 o2
 obtain⟨z,hz,zk,zn,zd⟩:=Va.first o1 o2 (p:=⟨1,5,2⟩) (by show _∈o.l;rw[ol];simp) (by show (qae (qcs 1) o.tn o.td _).2.2=true;rw[k1]) (fun p' hp' hf' hi'=>by
  have hp2:p'∈o.l:=hp'
  rw[ol] at hp2
  simp only[List.mem_cons,List.not_mem_nil,or_false] at hp2
  rcases hp2 with rfl | rfl
  ·exact (hi' rfl).elim
  ·have:(qae (qcs 1) o.tn o.td ⟨2,5,1⟩).2.2=true:=hf'
   rw[k2] at this
   cases this)
 have zn':z.n=3:=zn.trans (congrArg (fun r:Int×Int×Bool=>r.1) k1)
 have zd':z.d=1:=zd.trans (congrArg (fun r:Int×Int×Bool=>r.2.1) k1)
 have hnx:=(prog9.next Sa (by show (qcs 1).length≤70;decide)).2.2 Va z hz
 have F:=qmT (c:=c) (o:=o) (o1:=a) (y:=y) (p:=⟨0,1,2⟩) (z9:=z) (hg0:=qEC) (hat1:=qAA) (hce:=hce) (hat4:=qAA) (hf1:=hf1) (hf2:=hf2) (hat6:=qAA) (hmv:=hmv) (hg1:=qEC) (hal1:=hal1) (hnx:=hnx)
  (t1:=by simp[dl]) (hat2:=qAA) (t2:=by simp[yn,yd]) (t3:=by decide) (t4:=by simp[otn,otd]) (hat3:=qAA) (t5:=by simp[zn',zd']) (t6:=by simp[zk])
 exact qi1 F
end Go.Proofs.YtkjaanhddkkodaaGreat

namespace Go.Proofs.YtkjaanhddkkodaaGreat
set_option maxRecDepth 100000
open Go.RowKit
theorem qmY (c:Ck) (h1:I64 c.tn) (h2:I64 c.td) (hi:∀ y∈c.ev,EvI y) (tn td:Int) (htn:I64 tn) (htd:I64 td) :
 Fn 6 8 [qap c,.pv (qaa tn td)] (qaq c) (.pv (.bool true)) 0 []:=qsL prog9 qyE htn htd h1 h2 hi
end Go.Proofs.YtkjaanhddkkodaaGreat
