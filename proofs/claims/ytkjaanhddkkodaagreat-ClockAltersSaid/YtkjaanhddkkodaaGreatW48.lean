/-
  Joined: Bn, Bp. Conditions: none.
-/
import Derived.Test.YtkjaanhddkkodaaGreatW47
import Derived.Test.YtkjaanhddkkodaaGreatW39
import Derived.Test.YtkjaanhddkkodaaGreatW27
import Derived.Test.YtkjaanhddkkodaaGreatW18
import Derived.Test.YtkjaanhddkkodaaGreatW40
namespace Go.Proofs.YtkjaanhddkkodaaGreat
set_option maxRecDepth 100000
open Go.RowKit
theorem qj1 (n:Int) (h:qhL ⟨5,0,n⟩=true):Val (qcB n):=⟨by show 3≤64;omega,fun p hp=>by
 simp only[List.mem_cons,List.not_mem_nil,or_false] at hp
 rcases hp with rfl | rfl | rfl
 ·decide
 ·decide
 ·exact h,Up.of_pw (by show [1,2,5].Pairwise (fun a b:Int=>a<b);decide)⟩
theorem quP:Val (qcB 0):=qj1 0 (by decide)
theorem qAc:Val (qcB 1):=qj1 1 (by decide)
theorem qkh {n:Int} (V:Val (qcB n)):qdb (qcB n) 1=⟨1,0,2⟩∧qdb (qcB n) 2=⟨2,6,-1⟩∧qdb (qcB n) 5=⟨5,0,n⟩:=
 ⟨qct V (q:=⟨1,0,2⟩) (by simp),qct V (q:=⟨2,6,-1⟩) (by simp),qct V (q:=⟨5,0,n⟩) (by simp)⟩
theorem qqv {P Q pb qb pi qi:Int} (h:P<Q):qbg P Q pb qb pi qi=false:=qcP (by omega)
theorem qCb {α:Type} {l:List α} (h:l.length=3):∃ a b c,l=[a,b,c]:=by
 match l,h with
 | [a,b,c],_=>exact⟨a,b,c,rfl⟩
theorem qaW {n:Int} (h1 : -1000≤n) (h2:n≤1000):I64 n:=⟨by omega,by omega⟩
theorem qcH {n:Int} (a:Int) (h:a=1∨a=2∨a=5):∃ q∈qcB n,q.id=a:=by
 rcases h with rfl | rfl | rfl
 ·exact⟨⟨1,0,2⟩,by simp,rfl⟩
 ·exact⟨⟨2,6,-1⟩,by simp,rfl⟩
 ·exact⟨⟨5,0,n⟩,by simp,rfl⟩
theorem qpf {n t m k:Int} {w:Bool} {a b:Int} (V:Val (qcB n)) (ht:okB t 1=true) (h1:I64 t) (hc:qce a b=true) (ha:a=1∨a=2∨a=5) (hb:b=1∨b=2∨b=5) (h:FailIs (qdb (qcB n) b) (qdb (qcB n) a) t 1 m k w) (i:Int):qae (qcB n) t 1 ⟨i,a,b⟩=(m,k,w):=
 qrQ (qbv h1 (qaW (by omega) (by omega)) ht V hc (qcH a ha) (qcH b hb)) h
theorem qEF (i:Int):qae (qcB 0) 1 1 ⟨i,1,2⟩=(2,1,true):=by
 obtain⟨e1,e2,e3⟩:=qkh quP
 refine qpf quP (by decide) (qaW (by omega) (by omega)) (by decide) (by omega) (by omega) ?_ i
 rw[e1,e2]
 exact⟨fun _=>⟨by decide,qaW (by omega) (by omega),qaW (by omega) (by omega),by omega⟩,fun h=>(by cases h),fun _=>by decide,fun tn td ht _ h=>qqv (by
  have:=qbt ht
  have:=h rfl
  show 0*td+2*tn<6*td + -1*tn
  omega)⟩
theorem qys (t:Int) (h1:1≤t) (h2:t≤2) (i:Int):qae (qcB 0) t 1 ⟨i,5,2⟩=(6,1,true):=by
 obtain⟨e1,e2,e3⟩:=qkh quP
 have ht:okB t 1=true:=qhP (by omega)
 refine qpf quP ht (qaW (by omega) (by omega)) (by decide) (by omega) (by omega) ?_ i
 rw[e3,e2]
 exact⟨fun _=>⟨by decide,qaW (by omega) (by omega),qaW (by omega) (by omega),by omega⟩,fun h=>(by cases h),fun _=>by decide,fun tn td ht _ h=>qqv (by
  have:=qbt ht
  have:=h rfl
  show 0*td+0*tn<6*td + -1*tn
  omega)⟩
theorem quV (n t:Int) (V:Val (qcB n)) (hn:n=0∨n=1) (h1:1≤t) (h2:t≤2) (i:Int):qae (qcB n) t 1 ⟨i,5,1⟩=(0,0,false):=by
 obtain⟨e1,e2,e3⟩:=qkh V
 have ht:okB t 1=true:=qhP (by omega)
 refine qpf V ht (qaW (by omega) (by omega)) (by decide) (by omega) (by omega) ?_ i
 rw[e1,e3]
 refine⟨fun h=>(by cases h),fun _=>⟨rfl,rfl⟩,fun h=>(by cases h),fun tn td ht h _=>qqv ?_⟩
 have d0:=qbt ht
 have tp:0<tn:=by
  have:1*td≤t*td:=Int.mul_le_mul_of_nonneg_right h1 (by omega)
  omega
 rcases hn with rfl | rfl
 ·show 0*td+0*tn<0*td+2*tn
  omega
 ·show 0*td+1*tn<0*td+2*tn
  omega
theorem qBh (i:Int):qae (qcB 1) 2 1 ⟨i,5,2⟩=(3,1,true):=by
 obtain⟨e1,e2,e3⟩:=qkh qAc
 refine qpf qAc (by decide) (qaW (by omega) (by omega)) (by decide) (by omega) (by omega) ?_ i
 rw[e3,e2]
 exact⟨fun _=>⟨by decide,qaW (by omega) (by omega),qaW (by omega) (by omega),by omega⟩,fun h=>(by cases h),fun _=>by decide,fun tn td ht _ h=>qqv (by
  have:=qbt ht
  have:=h rfl
  show 0*td+1*tn<6*td + -1*tn
  omega)⟩
theorem qtz {c:Ck} {s:List Pt} (V:V9 c) {l:List Pt} {o:Ck} {r:Option Ck} (h:AlRun c s l o r):(∀ p∈l,p∈c.l)→(∀ p∈l,(qae s c.tn c.td p).2.2=true→qaQ c p=true)→∃ o',r=some o':=by
 induction h with
 | nil o=>exact fun _ _=>⟨o,rfl⟩
 | step _ _ ih=>exact fun h1 h2=>ih (fun p hp=>h1 p (List.mem_cons_of_mem _ hp)) (fun p hp=>h2 p (List.mem_cons_of_mem _ hp))
 | @full p l o h=>
  intro h1 h2
  obtain⟨f,hn,_⟩:=h
  obtain⟨q,hq,he⟩:=(V.due_iff (h1 p List.mem_cons_self)).2 (h2 p List.mem_cons_self f)
  exact (hn q hq he).elim
theorem qgY {c:Ck} {tn td:Int} (V:V9 c) (ht:okB tn td=true) (h:c.tn*td≤tn*c.td):qfw c tn td=0:=by
 unfold qfw
 rw[if_pos (show V9 c∧okB tn td=true from ⟨V,ht⟩),if_neg (by omega)]
theorem qnr {c:Ck} {y:Ev} {tn td:Int} (h:c.ev[0]?=some y):ql3 c tn td=decide (y.n*td≤tn*y.d):=by unfold ql3;rw[h]
theorem qrd {c:Ck} (h:c.l.map abP=[P2.mk 1 2,P2.mk 5 2,P2.mk 5 1]) (hi:∀ (k:Nat) (p:Pt),c.l[k]?=some p→p.id=(k:Int)):c.l=[⟨0,1,2⟩,⟨1,5,2⟩,⟨2,5,1⟩]:=by
 obtain⟨p0,p1,p2,hl⟩:=qCb (l:=c.l) (by have:=congrArg List.length h;simpa using this)
 rw[hl] at h hi ⊢
 have h0:=hi 0 p0 rfl
 have h1:=hi 1 p1 rfl
 have h2:=hi 2 p2 rfl
 simp only[List.map_cons,List.map_nil,List.cons.injEq,P2.mk.injEq,and_true] at h
 obtain⟨⟨a1,b1⟩,⟨a2,b2⟩,a3,b3⟩:=h
 cases p0;cases p1;cases p2
 simp only at h0 h1 h2 a1 b1 a2 b2 a3 b3
 subst h0 h1 h2 a1 b1 a2 b2 a3 b3
 rfl
theorem qcI:Pure Tryz.prog 24 #[] (.bool true):=by
 have one:I64 1:=qaW (by omega) (by omega)
 have G0:=quP
 obtain⟨c,hr,I⟩:=qsl (s:=qcB 0) (tn:=1) (td:=1) (l:=[P2.mk 1 2,P2.mk 5 2,P2.mk 5 1]) one one G0 (by decide) (fun g hg=>by
  simp only[List.mem_cons,List.not_mem_nil,or_false] at hg
  rcases hg with rfl | rfl | rfl
  ·exact⟨by decide,qcH 1 (by omega),qcH 2 (by omega)⟩
  ·exact⟨by decide,qcH 5 (by omega),qcH 2 (by omega)⟩
  ·exact⟨by decide,qcH 5 (by omega),qcH 1 (by omega)⟩) (by decide) (by decide)
 have hce:=qBg one one G0 (by decide) (by decide) hr
 have V:=I.V
 have cl:=qrd I.l I.id
 have i1:I64 c.tn:=by rw[I.tn];exact one
 have i2:I64 c.td:=by rw[I.td];exact one
 have S:=V.small i1 i2
 have f0:qae c.s c.tn c.td ⟨0,1,2⟩=(2,1,true):=by rw[I.s,I.tn,I.td];exact qEF 0
 have f1:qae c.s c.tn c.td ⟨1,5,2⟩=(6,1,true):=by rw[I.s,I.tn,I.td];exact qys 1 (by omega) (by omega) 1
 have f2:qae c.s c.tn c.td ⟨2,5,1⟩=(0,0,false):=by rw[I.s,I.tn,I.td];exact quV 0 1 quP (Or.inl rfl) (by omega) (by omega) 2
 have hs:c.s.length≤70:=by have:=V.s.len;omega
 have dl:c.d.length=2:=by
  have:=(qcw.1 V.f).1
  have w0:qaQ c ⟨0,1,2⟩=true:=by show (qae c.s c.tn c.td _).2.2=true;rw[f0]
  have w1:qaQ c ⟨1,5,2⟩=true:=by show (qae c.s c.tn c.td _).2.2=true;rw[f1]
  have w2:¬ qaQ c ⟨2,5,1⟩=true:=by show ¬ (qae c.s c.tn c.td _).2.2=true;rw[f2];decide
  rw[this,cl,List.filter_cons_of_pos (p:=qaQ c) w0,List.filter_cons_of_pos (p:=qaQ c) w1,List.filter_cons_of_neg (p:=qaQ c) w2]
  rfl
 obtain⟨y,hy,yk,yn,yd⟩:=V.first i1 i2 (p:=⟨0,1,2⟩) (by rw[cl];simp) (by show (qae c.s c.tn c.td _).2.2=true;rw[f0]) (fun p' hp' hf' hi'=>by
  rw[cl] at hp'
  simp only[List.mem_cons,List.not_mem_nil,or_false] at hp'
  rcases hp' with rfl | rfl | rfl
  ·exact (hi' rfl).elim
  ·rw[f0,f1];decide
  ·have:(qae c.s c.tn c.td ⟨2,5,1⟩).2.2=true:=hf'
   rw[f2] at this
   cases this)
 rw[f0] at yn yd
 replace yn:y.n=2:=yn
 replace yd:y.d=1:=yd
 replace yk:y.k=0:=yk
 have four:I64 4:=qaW (by omega) (by omega)
 have u0:qfw c 4 1=0:=qgY V (by decide) (by rw[I.tn,I.td];decide)
 have d0:ql3 c 4 1=true:=by rw[qnr hy,yn,yd];decide
 have e0:faE c 4 1=0:=by unfold faE;rw[if_pos u0,if_pos d0]
 obtain⟨g,hg⟩:=qnS V y.k
 have ho:qeF c y ⟨0,1,2⟩ { g with tn:=y.n,td:=y.d }:=⟨hy,by rw[cl];simp,yk.symm,g,hg,rfl⟩
 have hf1:=(prog9.fail S hs four one).2 e0 y _ _ ho
 obtain⟨Vo,o1,o2,_⟩:=V.failed_ok i1 i2 ho
 have gl:g.l=qaC c.l y.k∧g.s=c.s:=by
  rcases hg with ⟨_,rfl⟩ | ⟨_,_,_,_,_,_,_,_,_,_,rfl⟩<;>exact⟨rfl,rfl⟩
 generalize ho':({ g with tn:=y.n,td:=y.d }:Ck)=o at Vo o1 o2 hf1
 have ol:o.l=[⟨1,5,2⟩,⟨2,5,1⟩]:=by
  rw[← ho']
  show g.l=_
  rw[gl.1,cl,yk]
  rfl
 have os:o.s=qcB 0:=by rw[← ho'];exact gl.2.trans I.s
 have otn:o.tn=2:=by rw[← ho'];exact yn
 have otd:o.td=1:=by rw[← ho'];exact yd
 have So:=Vo.small o1 o2
 have g1:qae o.s o.tn o.td ⟨1,5,2⟩=(6,1,true):=by rw[os,otn,otd];exact qys 2 (by omega) (by omega) 1
 have g2:qae o.s o.tn o.td ⟨2,5,1⟩=(0,0,false):=by rw[os,otn,otd];exact quV 0 2 quP (Or.inl rfl) (by omega) (by omega) 2
 have hso:o.s.length≤70:=by have:=Vo.s.len;omega
 obtain⟨y2,hy2,_,yn2,yd2⟩:=Vo.first o1 o2 (p:=⟨1,5,2⟩) (by rw[ol];simp) (by show (qae o.s o.tn o.td _).2.2=true;rw[g1]) (fun p' hp' hf' hi'=>by
  rw[ol] at hp'
  simp only[List.mem_cons,List.not_mem_nil,or_false] at hp'
  rcases hp' with rfl | rfl
  ·exact (hi' rfl).elim
  ·have:(qae o.s o.tn o.td ⟨2,5,1⟩).2.2=true:=hf'
   rw[g2] at this
   cases this)
 rw[g1] at yn2 yd2
 replace yn2:y2.n=6:=yn2
 replace yd2:y2.d=1:=yd2
 have u1:qfw o 4 1=0:=qgY Vo (by decide) (by rw[otn,otd];decide)
 have d1:ql3 o 4 1=false:=by rw[qnr hy2,yn2,yd2];decide
 have e1:faE o 4 1=6:=by unfold faE;rw[if_pos u1,if_neg (by rw[d1];decide)]
 have hf2:=(prog9.fail So hso four one).1 (by rw[e1];decide)
 rw[e1] at hf2
 have six:I64 6:=qaW (by omega) (by omega)
 have u2:qfw o 6 1=0:=qgY Vo (by decide) (by rw[otn,otd];decide)
 have d2:ql3 o 6 1=true:=by rw[qnr hy2,yn2,yd2];decide
 have e2:moE o 6 1=36:=by unfold moE;rw[if_pos u2,if_pos d2]
 have hmv:=(prog9.move So hso six one).1 (by rw[e2];decide)
 rw[e2] at hmv
 have kn:qcL o.l (qcB 1):=fun p hp=>by
  rw[ol] at hp
  simp only[List.mem_cons,List.not_mem_nil,or_false] at hp
  rcases hp with rfl | rfl
  ·exact⟨qcH 5 (by omega),qcH 2 (by omega)⟩
  ·exact⟨qcH 5 (by omega),qcH 1 (by omega)⟩
 have P:AlPre o (qcB 1):=⟨So,Vo,qAc,kn⟩
 have e3:qgc o (qcB 1)=0:=by unfold qgc;rw[if_pos Vo,if_pos (qcu.2 qAc),if_pos kn]
 obtain⟨r,hal⟩:=qeS P o.l { o with d:=[] } (fun p hp=>hp) Vo.v.up.nodup (qeE P)
 have k1:qae (qcB 1) o.tn o.td ⟨1,5,2⟩=(3,1,true):=by rw[otn,otd];exact qBh 1
 have k2:qae (qcB 1) o.tn o.td ⟨2,5,1⟩=(0,0,false):=by rw[otn,otd];exact quV 1 2 qAc (Or.inr rfl) (by omega) (by omega) 2
 obtain⟨a,rfl⟩:=qtz Vo hal (fun p hp=>hp) (fun p hp h=>by
  rw[ol] at hp
  simp only[List.mem_cons,List.not_mem_nil,or_false] at hp
  rcases hp with rfl | rfl
  ·show (qae o.s o.tn o.td _).2.2=true
   rw[g1]
  ·rw[k2] at h
   cases h)
 have hal1:=((prog9.alter So hso (qcB 1) (by decide)).2 e3 _ hal).1 a rfl
 have Va:=V9.alter_ok P hal
 have Sa:=Va.small o1 o2
 obtain⟨z,hz,zk,zn,zd⟩:=Va.first o1 o2 (p:=⟨1,5,2⟩) (by show _∈o.l;rw[ol];simp) (by show (qae (qcB 1) o.tn o.td _).2.2=true;rw[k1]) (fun p' hp' hf' hi'=>by
  have hp2:p'∈o.l:=hp'
  rw[ol] at hp2
  simp only[List.mem_cons,List.not_mem_nil,or_false] at hp2
  rcases hp2 with rfl | rfl
  ·exact (hi' rfl).elim
  ·have:(qae (qcB 1) o.tn o.td ⟨2,5,1⟩).2.2=true:=hf'
   rw[k2] at this
   cases this)
 have zn':z.n=3:=zn.trans (congrArg (fun r:Int×Int×Bool=>r.1) k1)
 have zd':z.d=1:=zd.trans (congrArg (fun r:Int×Int×Bool=>r.2.1) k1)
 have hnx:=(prog9.next Sa (by show (qcB 1).length≤70;decide)).2.2 Va z hz
 have F:=qm1 (c:=c) (o:=o) (o1:=a) (y:=y) (p:=⟨0,1,2⟩) (z9:=z) (hg0:=qFi) (hat1:=qzd) (hce:=hce) (hat4:=qzd) (hf1:=hf1) (hf2:=hf2) (hat6:=qzd) (hmv:=hmv) (hg1:=qFi) (hal1:=hal1) (hnx:=hnx)
  (t1:=by simp[dl]) (hat2:=qzd) (t2:=by simp[yn,yd]) (t3:=by decide) (t4:=by simp[otn,otd]) (hat3:=qzd) (t5:=by simp[zn',zd']) (t6:=by simp[zk])
 exact qiz F
end Go.Proofs.YtkjaanhddkkodaaGreat

namespace Go.Proofs.YtkjaanhddkkodaaGreat
set_option maxRecDepth 100000
open Go.RowKit
abbrev asH (c:Ck) (s:List Pt) (o:Ck) (m:Nat) (vs:List Value):List (Nat×Nat×SV):=(qbI 9 c++[(8,0,qal s),(10,0,.ls 8 s.length),(19,0,.pv (iV ({ o with tn:=c.tn,td:=c.td,s:=s,x:=c.x,l:=c.l }:Ck).tn)),(19,1,.pv (iV ({ o with tn:=c.tn,td:=c.td,s:=s,x:=c.x,l:=c.l }:Ck).td)),(19,2,.ls 11 ({ o with tn:=c.tn,td:=c.td,s:=s,x:=c.x,l:=c.l }:Ck).s.length),(19,3,.pv (iV ({ o with tn:=c.tn,td:=c.td,s:=s,x:=c.x,l:=c.l }:Ck).x)),(19,4,.ls 12 ({ o with tn:=c.tn,td:=c.td,s:=s,x:=c.x,l:=c.l }:Ck).l.length),(19,5,.ls 13 ({ o with tn:=c.tn,td:=c.td,s:=s,x:=c.x,l:=c.l }:Ck).u.length),(19,6,.ls 14 ({ o with tn:=c.tn,td:=c.td,s:=s,x:=c.x,l:=c.l }:Ck).b.length),(19,7,.ls 15 ({ o with tn:=c.tn,td:=c.td,s:=s,x:=c.x,l:=c.l }:Ck).fr.length),(19,8,.ls 16 ({ o with tn:=c.tn,td:=c.td,s:=s,x:=c.x,l:=c.l }:Ck).ev.length),(19,9,.ls 17 ({ o with tn:=c.tn,td:=c.td,s:=s,x:=c.x,l:=c.l }:Ck).wh.length),(19,10,.ls 18 ({ o with tn:=c.tn,td:=c.td,s:=s,x:=c.x,l:=c.l }:Ck).d.length),(11,0,qal ({ o with tn:=c.tn,td:=c.td,s:=s,x:=c.x,l:=c.l }:Ck).s),(12,0,qam ({ o with tn:=c.tn,td:=c.td,s:=s,x:=c.x,l:=c.l }:Ck).l),(13,0,zrI ({ o with tn:=c.tn,td:=c.td,s:=s,x:=c.x,l:=c.l }:Ck).u),(14,0,zrB ({ o with tn:=c.tn,td:=c.td,s:=s,x:=c.x,l:=c.l }:Ck).b),(15,0,zrI ({ o with tn:=c.tn,td:=c.td,s:=s,x:=c.x,l:=c.l }:Ck).fr),(16,0,qas ({ o with tn:=c.tn,td:=c.td,s:=s,x:=c.x,l:=c.l }:Ck).ev),(17,0,zrI ({ o with tn:=c.tn,td:=c.td,s:=s,x:=c.x,l:=c.l }:Ck).wh),(18,0,qaS ({ o with tn:=c.tn,td:=c.td,s:=s,x:=c.x,l:=c.l }:Ck).d),(20,0,.row 48 2 (m) (vs))])
abbrev asT (c:Ck) (n:Int) (m k:Nat):List (Nat×SV):=[(3,.pp 9 0),(4,.pp 10 0),(7,.pp 19 0),(9,.ls 20 (m)),(10,.pv (iV (k:Int))),(2,.pv (iV n))]
abbrev asE (n:Int) (m:Nat):List (Nat×SV):=[(3,.pp 9 0),(4,.pp 10 0),(7,.pp 19 0),(9,.ls 20 m),(2,.pv (iV n))]
theorem qkk:∀ (a b:List P2),p2V (a++b)=p2V a++p2V b
 | [],_=>rfl
 | p::r,b=>by simp[p2V,qkk r b]
theorem qtB {c:Ck} (hl:c.l.length≤200) {s:List Pt} {o:Ck} {n:Int}:∀ (r k:Nat),k+r=c.l.length→
 Rl 9 9 9 0 170 21 (asT c n ((c.l.take k).map abP).length k) (asH c s o ((c.l.take k).map abP).length (p2V ((c.l.take k).map abP))) (.exit 0) (asE n (c.l.map abP).length) (asH c s o (c.l.map abP).length (p2V (c.l.map abP))):=by
 intro r
 induction r with
 | zero=>
  intro k hk
  have e:k=c.l.length:=by omega
  subst e
  rw[List.take_length]
  exact qwu (hge:=df (by omega))
 | succ r ih=>
  intro k hk
  have hlk:k<c.l.length:=by omega
  obtain⟨p,hp⟩:=qah hlk
  have nx:=ih (k+1) (by omega)
  have e:(c.l.take (k+1)).map abP=(c.l.take k).map abP++[abP p]:=by rw[qbW hp,List.map_append];rfl
  rw[e,List.length_append,qkk] at nx
  exact qmI (hk:=hp) (hin:=qao hlk) (hm:=by rw[List.length_map,List.length_take];omega) (hlt:=dt (by omega)) (hs:=qau (by omega)) (r:=nx)
theorem qk6 {c o:Ck} (h:o.l.map abP=c.l.map abP) (hs:o.s=c.s) (h1:o.tn=c.tn) (h2:o.td=c.td):(o.l.filter (qaQ o)).length=(c.l.filter (qaQ c)).length:=by
 have g:∀ (x:Ck),(x.l.filter (qaQ x)).length=((x.l.map abP).filter (fun g=>(qae x.s x.tn x.td ⟨0,g.a,g.b⟩).2.2)).length:=fun x=>by
  rw[List.filter_map,List.length_map]
  rfl
 rw[g o,g c,h,hs,h1,h2]
theorem qp7 {l:List Pt} (h:Dis l):(l.map abP).Nodup:=by
 rw[List.nodup_iff_pairwise_ne,List.pairwise_iff_getElem]
 intro i j hi hj hij e
 rw[List.getElem_map,List.getElem_map] at e
 have hi':i<l.length:=by simpa using hi
 have hj':j<l.length:=by simpa using hj
 have e1:=congrArg P2.a e
 have e2:=congrArg P2.b e
 exact h i j _ _ hij (List.getElem?_eq_getElem hi') (List.getElem?_eq_getElem hj') ⟨e1,e2⟩
theorem qoN {c:Ck} (S:S9 c) (V:V9 c) (hs:c.s.length≤70) (n:Int) :
 (qvS 17 c n 6∧Fn 41 1 [qaL 0 c.x c.l,.pv (iV n)] [(0,0,qam c.l)] (.pv (iV (-1))) 0 [])∨
 (∃ (o:Ck) (k:Nat),qBS 17 c n o∧Fn 46 8 [qap c,.pv (iV n)] (qat c) (.pv (iV (k:Int))) 0 []∧Fn 31 8 [qap o] (qat o) (.pv (iV 0)) 0 []∧o.d.length+1=c.d.length∧o.l.length+1=c.l.length∧o.tn=c.tn∧o.td=c.td)∨
 (∃ o:Ck,qBS 17 c n o∧Fn 46 8 [qap c,.pv (iV n)] (qat c) (.pv (iV (-1))) 0 []∧Fn 31 8 [qap o] (qat o) (.pv (iV 0)) 0 []∧o.d.length=c.d.length∧o.l.length+1=c.l.length∧o.tn=c.tn∧o.td=c.td):=by
 have hl:=S.l
 by_cases h:∃ p∈c.l,p.id=n
 ·refine Or.inr ?_
  have e:reE c n=0:=by unfold reE;rw[if_pos V,if_pos h]
  obtain⟨p,hp,rfl⟩:=h
  obtain⟨i,hi⟩:=List.getElem?_of_mem hp
  have wl:=qix V.v hi
  have il:=qaj hi
  obtain⟨o,ho⟩:=qnS V p.id
  have hr:=(qgC S hs p.id).2 e o ho
  obtain⟨e1,e2,_⟩:=qnD ho
  have V':=V.gone_ok ho
  have hck:=qdx (V'.small (by rw[e1];exact S.tn) (by rw[e2];exact S.td))
  rw[qbM V'] at hck
  rcases ho with ⟨h1,rfl⟩ | ⟨k,q,j,y,hq,he,hf,hy,_,_,rfl⟩
  ·refine Or.inr ⟨_,hr,qoG S h1,hck,rfl,?_,rfl,rfl⟩
   show (qaC c.l p.id).length+1=_
   rw[wl]
   omega
  ·have hk:=qaj hq
   refine Or.inl ⟨_,k,hr,qlW S hq he hf,hck,?_,?_,rfl,rfl⟩
   ·show (c.d.take k++c.d.drop (k+1)).length+1=_
    rw[List.length_append,List.length_take,List.length_drop]
    omega
   ·show (qaC c.l p.id).length+1=_
    rw[wl]
    omega
 ·have e:reE c n=6:=by unfold reE;rw[if_pos V,if_neg h]
  have hr:=(qgC S hs n).1 (by rw[e];decide)
  rw[e] at hr
  exact Or.inl ⟨hr,qzV c.x (by omega) fun p hp he=>h ⟨p,hp,he⟩⟩
theorem qib (c:Ck) (h1:I64 c.tn) (h2:I64 c.td) (hi:∀ y∈c.ev,EvI y) (s:List Pt) (n:Int) :
 Fn 9 9 [qap c,qaB 8 s,.pv (iV n)] (qat c++[(8,0,qal s)]) (.pv (.bool true)) 0 []:=by
 by_cases hfit:qes c=false∧V9 c
 ·obtain⟨hg,V⟩:=hfit
  obtain⟨S,_,_,hs⟩:=qhT hg h1 h2 hi
  have FT:=qq8 S V hg
  have hl:=V.v.len
  have hdl:=S.d
  rcases qhr s with ⟨_,hgf⟩ | ⟨_,hgf⟩
  ·exact qnQ (hft:=FT) (hg:=hgf) (hal:=qcI)
  have hf:=qf7 s
  by_cases hv:qfq s=0
  ·have sv:=qcu.1 hv
   rw[hv] at hf
   have sl:=sv.len
   have R:=qoN S V hs n
   have hkn:=qr1 c.x S.l sv
   by_cases hk:qcL c.l s
   ·have P:AlPre c s:=⟨S,V,sv,hk⟩
    have e:qgc c s=0:=by unfold qgc;rw[if_pos V,if_pos hv,if_pos hk]
    obtain⟨r,hr0⟩:=qeS P c.l { c with d:=[] } (fun p hp=>hp) V.v.up.nodup (qeE P)
    have A0:=(qjb S hs s (by omega)).2 e r hr0
    cases r with
    | none=>
    have A:=A0.2 rfl
    rcases R with ⟨hr,ha8⟩ | ⟨o3,k,hr,hda,hck3,l1,l2,e1,e2⟩ | ⟨o3,hr,hda,hck3,l1,l2,e1,e2⟩
    ·exact qi2 (hft:=FT) (hg:=hgf) (hf:=hf) (ha:=A) (hr:=hr) (ha8:=ha8) (hal:=qcI)
    ·exact qli (hft:=FT) (hg:=hgf) (hf:=hf) (ha:=A) (o3:=o3) (z:=(k:Int)) (v1:=(c.d.length:Int)-1) (v2:=(c.l.length:Int)-1) (hr:=hr) (hda:=hda) (hz:=dt (by omega)) (hck3:=hck3) (hv1:=by rw[qai (by omega) (by omega)]) (t7:=by simp;omega) (hv2:=by rw[qai (by omega) (by omega)]) (t8:=by simp;omega) (t9:=by simp[e1,e2]) (hal:=qcI)
    ·exact qlq (hft:=FT) (hg:=hgf) (hf:=hf) (ha:=A) (o3:=o3) (z:=-1) (v1:=(c.d.length:Int)) (v2:=(c.l.length:Int)-1) (hr:=hr) (hda:=hda) (hz:=by decide) (hck3:=hck3) (hv1:=by rw[Int.sub_zero,qai (by omega) (by omega)]) (t7:=by simp;omega) (hv2:=by rw[qai (by omega) (by omega)]) (t8:=by simp;omega) (t9:=by simp[e1,e2]) (hal:=qcI)
    | some o=>
    have A:=A0.1 o rfl
    have Va:=V9.alter_ok P hr0
    have hck:=qdx (Va.small h1 h2)
    rw[qbM Va] at hck
    obtain⟨o2,hrun,I⟩:=qsl h1 h2 sv V.t (l:=c.l.map abP) (fun g hg=>by
     obtain⟨p,hp,rfl⟩:=List.mem_map.1 hg
     exact⟨V.v.ok p hp,(hk p hp).1,(hk p hp).2⟩) (qp7 V.v.dis) (by rw[List.length_map];exact hl)
    have hce:=qBg h1 h2 sv V.t (by rw[List.length_map];omega) hrun
    have r0:=qtB hl (s:=s) (o:=o) (n:=n) c.l.length 0 (Nat.zero_add _)
    have dl:o.d.length=o2.d.length:=by
     have a1:=(qcw.1 Va.f).1
     have a2:=(qcw.1 I.V.f).1
     have a3:=qk6 (c:=alC c s o) (o:=o2) I.l I.s I.tn I.td
     exact a1.trans (a3.symm.trans a2.symm)
    rcases R with ⟨hr,ha8⟩ | ⟨o3,k,hr,hda,hck3,l1,l2,e1,e2⟩ | ⟨o3,hr,hda,hck3,l1,l2,e1,e2⟩
    ·exact qiE (hft:=FT) (hg:=hgf) (hf:=hf) (o:=o) (o2:=o2) (m:=(c.l.map abP).length) (vs:=p2V (c.l.map abP)) (ha:=A) (r0:=r0) (hce:=hce) (hck:=hck) (hs8:=qgI c.x (by omega)) (t5:=by simp[dl]) (hsf:=qir (by omega)) (hr:=hr) (ha8:=ha8) (hal:=qcI)
    ·exact qkF (hft:=FT) (hg:=hgf) (hf:=hf) (o:=o) (o2:=o2) (m:=(c.l.map abP).length) (vs:=p2V (c.l.map abP)) (ha:=A) (r0:=r0) (hce:=hce) (hck:=hck) (hs8:=qgI c.x (by omega)) (t5:=by simp[dl]) (hsf:=qir (by omega)) (o3:=o3) (z:=(k:Int)) (v1:=(c.d.length:Int)-1) (v2:=(c.l.length:Int)-1) (hr:=hr) (hda:=hda) (hz:=dt (by omega)) (hck3:=hck3) (hv1:=by rw[qai (by omega) (by omega)]) (t7:=by simp;omega) (hv2:=by rw[qai (by omega) (by omega)]) (t8:=by simp;omega) (t9:=by simp[e1,e2]) (hal:=qcI)
    ·exact qlj (hft:=FT) (hg:=hgf) (hf:=hf) (o:=o) (o2:=o2) (m:=(c.l.map abP).length) (vs:=p2V (c.l.map abP)) (ha:=A) (r0:=r0) (hce:=hce) (hck:=hck) (hs8:=qgI c.x (by omega)) (t5:=by simp[dl]) (hsf:=qir (by omega)) (o3:=o3) (z:=-1) (v1:=(c.d.length:Int)) (v2:=(c.l.length:Int)-1) (hr:=hr) (hda:=hda) (hz:=by decide) (hck3:=hck3) (hv1:=by rw[Int.sub_zero,qai (by omega) (by omega)]) (t7:=by simp;omega) (hv2:=by rw[qai (by omega) (by omega)]) (t8:=by simp;omega) (t9:=by simp[e1,e2]) (hal:=qcI)
   ·have e:qgc c s=6:=by unfold qgc;rw[if_pos V,if_pos hv,if_neg hk]
    have A:=(qjb S hs s (by omega)).1 (by rw[e];decide)
    rw[e] at A
    rw[qfm hk] at hkn
    rcases R with ⟨hr,ha8⟩ | ⟨o3,k,hr,hda,hck3,l1,l2,e1,e2⟩ | ⟨o3,hr,hda,hck3,l1,l2,e1,e2⟩
    ·exact qkJ (hft:=FT) (hg:=hgf) (hf:=hf) (ha:=A) (hkn:=hkn) (hr:=hr) (ha8:=ha8) (hal:=qcI)
    ·exact qm7 (hft:=FT) (hg:=hgf) (hf:=hf) (ha:=A) (hkn:=hkn) (o3:=o3) (z:=(k:Int)) (v1:=(c.d.length:Int)-1) (v2:=(c.l.length:Int)-1) (hr:=hr) (hda:=hda) (hz:=dt (by omega)) (hck3:=hck3) (hv1:=by rw[qai (by omega) (by omega)]) (t7:=by simp;omega) (hv2:=by rw[qai (by omega) (by omega)]) (t8:=by simp;omega) (t9:=by simp[e1,e2]) (hal:=qcI)
    ·exact qmF (hft:=FT) (hg:=hgf) (hf:=hf) (ha:=A) (hkn:=hkn) (o3:=o3) (z:=-1) (v1:=(c.d.length:Int)) (v2:=(c.l.length:Int)-1) (hr:=hr) (hda:=hda) (hz:=by decide) (hck3:=hck3) (hv1:=by rw[Int.sub_zero,qai (by omega) (by omega)]) (t7:=by simp;omega) (hv2:=by rw[qai (by omega) (by omega)]) (t8:=by simp;omega) (t9:=by simp[e1,e2]) (hal:=qcI)
  ·exact qml (hft:=FT) (hg:=hgf) (hf:=hf) (he:=by simpa using hv) (hal:=qcI)
 ·exact qoD (hft:=qtg h1 h2 hi hfit) (hal:=qcI)
end Go.Proofs.YtkjaanhddkkodaaGreat
