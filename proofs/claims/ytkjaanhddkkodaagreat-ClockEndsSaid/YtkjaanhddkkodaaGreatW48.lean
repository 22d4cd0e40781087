/-
  Joined: Bn, Bo. Conditions: none.
-/
import Derived.Test.YtkjaanhddkkodaaGreatW47
import Derived.Test.YtkjaanhddkkodaaGreatW39
import Derived.Test.YtkjaanhddkkodaaGreatW27
import Derived.Test.YtkjaanhddkkodaaGreatW18
import Derived.Test.YtkjaanhddkkodaaGreatW40
namespace Go.Proofs.YtkjaanhddkkodaaGreat
set_option maxRecDepth 100000
open Go.RowKit
theorem qjP (n:Int) (h:qg6 ⟨5,0,n⟩=true):Val (qcu n):=⟨by show 3≤64;omega,fun p hp=>by
 simp only[List.mem_cons,List.not_mem_nil,or_false] at hp
 rcases hp with rfl | rfl | rfl
 ·decide
 ·decide
 ·exact h,Up.of_pw (by show [1,2,5].Pairwise (fun a b:Int=>a<b);decide)⟩
theorem qsY:Val (qcu 0):=qjP 0 (by decide)
theorem qw3:Val (qcu 1):=qjP 1 (by decide)
theorem qjk {n:Int} (V:Val (qcu n)):qdd (qcu n) 1=⟨1,0,2⟩∧qdd (qcu n) 2=⟨2,6,-1⟩∧qdd (qcu n) 5=⟨5,0,n⟩:=
 ⟨qcx V (q:=⟨1,0,2⟩) (by simp),qcx V (q:=⟨2,6,-1⟩) (by simp),qcx V (q:=⟨5,0,n⟩) (by simp)⟩
theorem qpm {P Q pb qb pi qi:Int} (h:P<Q):qbh P Q pb qb pi qi=false:=qcU (by omega)
theorem qB4 {α:Type} {l:List α} (h:l.length=3):∃ a b c,l=[a,b,c]:=by
 match l,h with
 | [a,b,c],_=>exact⟨a,b,c,rfl⟩
theorem qaV {n:Int} (h1 : -1000≤n) (h2:n≤1000):I64 n:=⟨by omega,by omega⟩
theorem qcF {n:Int} (a:Int) (h:a=1∨a=2∨a=5):∃ q∈qcu n,q.id=a:=by
 rcases h with rfl | rfl | rfl
 ·exact⟨⟨1,0,2⟩,by simp,rfl⟩
 ·exact⟨⟨2,6,-1⟩,by simp,rfl⟩
 ·exact⟨⟨5,0,n⟩,by simp,rfl⟩
theorem qpH {n t m k:Int} {w:Bool} {a b:Int} (V:Val (qcu n)) (ht:okB t 1=true) (h1:I64 t) (hc:qcc a b=true) (ha:a=1∨a=2∨a=5) (hb:b=1∨b=2∨b=5) (h:FailIs (qdd (qcu n) b) (qdd (qcu n) a) t 1 m k w) (i:Int):qae (qcu n) t 1 ⟨i,a,b⟩=(m,k,w):=
 qpb (qby h1 (qaV (by omega) (by omega)) ht V hc (qcF a ha) (qcF b hb)) h
theorem qCv (i:Int):qae (qcu 0) 1 1 ⟨i,1,2⟩=(2,1,true):=by
 obtain⟨e1,e2,e3⟩:=qjk qsY
 refine qpH qsY (by decide) (qaV (by omega) (by omega)) (by decide) (by omega) (by omega) ?_ i
 rw[e1,e2]
 exact⟨fun _=>⟨by decide,qaV (by omega) (by omega),qaV (by omega) (by omega),by omega⟩,fun h=>(by cases h),fun _=>by decide,fun tn td ht _ h=>qpm (by
  have:=qbv ht
  have:=h rfl
  show 0*td+2*tn<6*td + -1*tn
  omega)⟩
theorem qx8 (t:Int) (h1:1≤t) (h2:t≤2) (i:Int):qae (qcu 0) t 1 ⟨i,5,2⟩=(6,1,true):=by
 obtain⟨e1,e2,e3⟩:=qjk qsY
 have ht:okB t 1=true:=qic (by omega)
 refine qpH qsY ht (qaV (by omega) (by omega)) (by decide) (by omega) (by omega) ?_ i
 rw[e3,e2]
 exact⟨fun _=>⟨by decide,qaV (by omega) (by omega),qaV (by omega) (by omega),by omega⟩,fun h=>(by cases h),fun _=>by decide,fun tn td ht _ h=>qpm (by
  have:=qbv ht
  have:=h rfl
  show 0*td+0*tn<6*td + -1*tn
  omega)⟩
theorem qvd (n t:Int) (V:Val (qcu n)) (hn:n=0∨n=1) (h1:1≤t) (h2:t≤2) (i:Int):qae (qcu n) t 1 ⟨i,5,1⟩=(0,0,false):=by
 obtain⟨e1,e2,e3⟩:=qjk V
 have ht:okB t 1=true:=qic (by omega)
 refine qpH V ht (qaV (by omega) (by omega)) (by decide) (by omega) (by omega) ?_ i
 rw[e1,e3]
 refine⟨fun h=>(by cases h),fun _=>⟨rfl,rfl⟩,fun h=>(by cases h),fun tn td ht h _=>qpm ?_⟩
 have d0:=qbv ht
 have tp:0<tn:=by
  have:1*td≤t*td:=Int.mul_le_mul_of_nonneg_right h1 (by omega)
  omega
 rcases hn with rfl | rfl
 ·show 0*td+0*tn<0*td+2*tn
  omega
 ·show 0*td+1*tn<0*td+2*tn
  omega
theorem qwZ (i:Int):qae (qcu 1) 2 1 ⟨i,5,2⟩=(3,1,true):=by
 obtain⟨e1,e2,e3⟩:=qjk qw3
 refine qpH qw3 (by decide) (qaV (by omega) (by omega)) (by decide) (by omega) (by omega) ?_ i
 rw[e3,e2]
 exact⟨fun _=>⟨by decide,qaV (by omega) (by omega),qaV (by omega) (by omega),by omega⟩,fun h=>(by cases h),fun _=>by decide,fun tn td ht _ h=>qpm (by
  have:=qbv ht
  have:=h rfl
  show 0*td+1*tn<6*td + -1*tn
  omega)⟩
theorem qtl {c:Ck} {s:List Pt} (V:V9 c) {l:List Pt} {o:Ck} {r:Option Ck} (h:AlRun c s l o r):(∀ p∈l,p∈c.l)→(∀ p∈l,(qae s c.tn c.td p).2.2=true→qaT c p=true)→∃ o',r=some o':=by
 induction h with
 | nil o=>exact fun _ _=>⟨o,rfl⟩
 | step _ _ ih=>exact fun h1 h2=>ih (fun p hp=>h1 p (List.mem_cons_of_mem _ hp)) (fun p hp=>h2 p (List.mem_cons_of_mem _ hp))
 | @full p l o h=>
  intro h1 h2
  obtain⟨f,hn,_⟩:=h
  obtain⟨q,hq,he⟩:=(V.due_iff (h1 p List.mem_cons_self)).2 (h2 p List.mem_cons_self f)
  exact (hn q hq he).elim
theorem qdz {c:Ck} {tn td:Int} (V:V9 c) (ht:okB tn td=true) (h:c.tn*td≤tn*c.td):qdn c tn td=0:=by
 unfold qdn
 rw[if_pos (show V9 c∧okB tn td=true from ⟨V,ht⟩),if_neg (by omega)]
theorem qjV {c:Ck} {y:Ev} {tn td:Int} (h:c.ev[0]?=some y):qgm c tn td=decide (y.n*td≤tn*y.d):=by unfold qgm;rw[h]
theorem qoJ {c:Ck} (h:c.l.map abP=[P2.mk 1 2,P2.mk 5 2,P2.mk 5 1]) (hi:∀ (k:Nat) (p:Pt),c.l[k]?=some p→p.id=(k:Int)):c.l=[⟨0,1,2⟩,⟨1,5,2⟩,⟨2,5,1⟩]:=by
 obtain⟨p0,p1,p2,hl⟩:=qB4 (l:=c.l) (by have:=congrArg List.length h;simpa using this)
 rw[hl] at h hi ⊢
 have h0:=hi 0 p0 rfl
 have h1:=hi 1 p1 rfl
 have h2:=hi 2 p2 rfl
 simp only[List.map_cons,List.map_nil,List.cons.injEq,P2.mk.injEq,and_true] at h
 obtain⟨⟨a1,b1⟩,⟨a2,b2⟩,a3,b3⟩:=h
 cases p0;cases p1;cases p2
 simp only at h0 h1 h2 a1 b1 a2 b2 a3 b3
 subst h0 h1 h2 a1 b1 a2 b2 a3 b3
 rfl
theorem qhg:Pure Tryz.prog 24 #[] (.bool true):=by
 have one:I64 1:=qaV (by omega) (by omega)
 have G0:=qsY
 obtain⟨c,hr,I⟩:=qxU (s:=qcu 0) (tn:=1) (td:=1) (l:=[P2.mk 1 2,P2.mk 5 2,P2.mk 5 1]) one one G0 (by decide) (fun g hg=>by
  simp only[List.mem_cons,List.not_mem_nil,or_false] at hg
  rcases hg with rfl | rfl | rfl
  ·exact⟨by decide,qcF 1 (by omega),qcF 2 (by omega)⟩
  ·exact⟨by decide,qcF 5 (by omega),qcF 2 (by omega)⟩
  ·exact⟨by decide,qcF 5 (by omega),qcF 1 (by omega)⟩) (by decide) (by decide)
 have hce:=qBS one one G0 (by decide) (by decide) hr
 have V:=I.V
 have cl:=qoJ I.l I.id
 have i1:I64 c.tn:=by rw[I.tn];exact one
 have i2:I64 c.td:=by rw[I.td];exact one
 have S:=V.small i1 i2
 have f0:qae c.s c.tn c.td ⟨0,1,2⟩=(2,1,true):=by rw[I.s,I.tn,I.td];exact qCv 0
 have f1:qae c.s c.tn c.td ⟨1,5,2⟩=(6,1,true):=by rw[I.s,I.tn,I.td];exact qx8 1 (by omega) (by omega) 1
 have f2:qae c.s c.tn c.td ⟨2,5,1⟩=(0,0,false):=by rw[I.s,I.tn,I.td];exact qvd 0 1 qsY (Or.inl rfl) (by omega) (by omega) 2
 have hs:c.s.length≤70:=by have:=V.s.len;omega
 have dl:c.d.length=2:=by
  have:=(qdD.1 V.f).1
  have w0:qaT c ⟨0,1,2⟩=true:=by show (qae c.s c.tn c.td _).2.2=true;rw[f0]
  have w1:qaT c ⟨1,5,2⟩=true:=by show (qae c.s c.tn c.td _).2.2=true;rw[f1]
  have w2:¬ qaT c ⟨2,5,1⟩=true:=by show ¬ (qae c.s c.tn c.td _).2.2=true;rw[f2];decide
  rw[this,cl,List.filter_cons_of_pos (p:=qaT c) w0,List.filter_cons_of_pos (p:=qaT c) w1,List.filter_cons_of_neg (p:=qaT c) w2]
  rfl
 obtain⟨y,hy,yk,yn,yd⟩:=V.first i1 i2 (p:=⟨0,1,2⟩) (by rw[cl];simp) (by show (qae c.s c.tn c.td _).2.2=true;rw[f0]) (fun p' hp' hf' hi'=>by
  rw[cl] at hp'
  simp only[List.mem_cons,List.not_mem_nil,or_false] at hp'
  rcases hp' with rfl | rfl | rfl
  ·exact (hi' rfl).elim
  ·rw[f0,f1];decide
  ·have:(qae c.s c.tn c.td ⟨2,5,1⟩).2.2=true:=hf'
   rw[f2] at this
   cases this)
 rw[f0] at yn yd
 replace yn:y.n=2:=yn
 replace yd:y.d=1:=yd
 replace yk:y.k=0:=yk
 have four:I64 4:=qaV (by omega) (by omega)
 have u0:qdn c 4 1=0:=qdz V (by decide) (by rw[I.tn,I.td];decide)
 have d0:qgm c 4 1=true:=by rw[qjV hy,yn,yd];decide
 have e0:faE c 4 1=0:=by unfold faE;rw[if_pos u0,if_pos d0]
 obtain⟨g,hg⟩:=qok V y.k
 have ho:qcB c y ⟨0,1,2⟩ { g with tn:=y.n,td:=y.d }:=⟨hy,by rw[cl];simp,yk.symm,g,hg,rfl⟩
 have hf1:=(prog9.fail S hs four one).2 e0 y _ _ ho
 obtain⟨Vo,o1,o2,_⟩:=V.failed_ok i1 i2 ho
 have gl:g.l=qaC c.l y.k∧g.s=c.s:=by
  rcases hg with ⟨_,rfl⟩ | ⟨_,_,_,_,_,_,_,_,_,_,rfl⟩<;>exact⟨rfl,rfl⟩
 generalize ho':({ g with tn:=y.n,td:=y.d }:Ck)=o at Vo o1 o2 hf1
 have ol:o.l=[⟨1,5,2⟩,⟨2,5,1⟩]:=by
  rw[← ho']
  show g.l=_
  rw[gl.1,cl,yk]
  rfl
 have os:o.s=qcu 0:=by rw[← ho'];exact gl.2.trans I.s
 have otn:o.tn=2:=by rw[← ho'];exact yn
 have otd:o.td=1:=by rw[← ho'];exact yd
 have So:=Vo.small o1 o2
 have g1:qae o.s o.tn o.td ⟨1,5,2⟩=(6,1,true):=by rw[os,otn,otd];exact qx8 2 (by omega) (by omega) 1
 have g2:qae o.s o.tn o.td ⟨2,5,1⟩=(0,0,false):=by rw[os,otn,otd];exact qvd 0 2 qsY (Or.inl rfl) (by omega) (by omega) 2
 have hso:o.s.length≤70:=by have:=Vo.s.len;omega
 obtain⟨y2,hy2,_,yn2,yd2⟩:=Vo.first o1 o2 (p:=⟨1,5,2⟩) (by rw[ol];simp) (by show (qae o.s o.tn o.td _).2.2=true;rw[g1]) (fun p' hp' hf' hi'=>by
  rw[ol] at hp'
  simp only[List.mem_cons,List.not_mem_nil,or_false] at hp'
  rcases hp' with rfl | rfl
  ·exact (hi' rfl).elim
  ·have:(qae o.s o.tn o.td ⟨2,5,1⟩).2.2=true:=hf'
   rw[g2] at this
   cases this)
 rw[g1] at yn2 yd2
 replace yn2:y2.n=6:=yn2
 replace yd2:y2.d=1:=yd2
 have u1:qdn o 4 1=0:=qdz Vo (by decide) (by rw[otn,otd];decide)
 have d1:qgm o 4 1=false:=by rw[qjV hy2,yn2,yd2];decide
 have e1:faE o 4 1=6:=by unfold faE;rw[if_pos u1,if_neg (by rw[d1];decide)]
 have hf2:=(prog9.fail So hso four one).1 (by rw[e1];decide)
 rw[e1] at hf2
 have six:I64 6:=qaV (by omega) (by omega)
 have u2:qdn o 6 1=0:=qdz Vo (by decide) (by rw[otn,otd];decide)
 have d2:qgm o 6 1=true:=by rw[qjV hy2,yn2,yd2];decide
 have e2:moE o 6 1=36:=by unfold moE;rw[if_pos u2,if_pos d2]
 have hmv:=(prog9.move So hso six one).1 (by rw[e2];decide)
 rw[e2] at hmv
 have kn:qcK o.l (qcu 1):=fun p hp=>by
  rw[ol] at hp
  simp only[List.mem_cons,List.not_mem_nil,or_false] at hp
  rcases hp with rfl | rfl
  ·exact⟨qcF 5 (by omega),qcF 2 (by omega)⟩
  ·exact⟨qcF 5 (by omega),qcF 1 (by omega)⟩
 have P:AlPre o (qcu 1):=⟨So,Vo,qw3,kn⟩
 have e3:qih o (qcu 1)=0:=by unfold qih;rw[if_pos Vo,if_pos (qcQ.2 qw3),if_pos kn]
 obtain⟨r,hal⟩:=qhD P o.l { o with d:=[] } (fun p hp=>hp) Vo.v.up.nodup (qgs P)
 have k1:qae (qcu 1) o.tn o.td ⟨1,5,2⟩=(3,1,true):=by rw[otn,otd];exact qwZ 1
 have k2:qae (qcu 1) o.tn o.td ⟨2,5,1⟩=(0,0,false):=by rw[otn,otd];exact qvd 1 2 qw3 (Or.inr rfl) (by omega) (by omega) 2
 obtain⟨a,rfl⟩:=qtl Vo hal (fun p hp=>hp) (fun p hp h=>by
  rw[ol] at hp
  simp only[List.mem_cons,List.not_mem_nil,or_false] at hp
  rcases hp with rfl | rfl
  ·show (qae o.s o.tn o.td _).2.2=true
   rw[g1]
  ·rw[k2] at h
   cases h)
 have hal1:=((prog9.alter So hso (qcu 1) (by decide)).2 e3 _ hal).1 a rfl
 have Va:=V9.alter_ok P hal
 have Sa:=Va.small o1 o2
 obtain⟨z,hz,zk,zn,zd⟩:=Va.first o1 o2 (p:=⟨1,5,2⟩) (by show _∈o.l;rw[ol];simp) (by show (qae (qcu 1) o.tn o.td _).2.2=true;rw[k1]) (fun p' hp' hf' hi'=>by
  have hp2:p'∈o.l:=hp'
  rw[ol] at hp2
  simp only[List.mem_cons,List.not_mem_nil,or_false] at hp2
  rcases hp2 with rfl | rfl
  ·exact (hi' rfl).elim
  ·have:(qae (qcu 1) o.tn o.td ⟨2,5,1⟩).2.2=true:=hf'
   rw[k2] at this
   cases this)
 have zn':z.n=3:=zn.trans (congrArg (fun r:Int×Int×Bool=>r.1) k1)
 have zd':z.d=1:=zd.trans (congrArg (fun r:Int×Int×Bool=>r.2.1) k1)
 have hnx:=(prog9.next Sa (by show (qcu 1).length≤70;decide)).2.2 Va z hz
 have F:=qof (c:=c) (o:=o) (o1:=a) (y:=y) (p:=⟨0,1,2⟩) (z9:=z) (hg0:=qEu) (hat1:=qzJ) (hce:=hce) (hat4:=qzJ) (hf1:=hf1) (hf2:=hf2) (hat6:=qzJ) (hmv:=hmv) (hg1:=qEu) (hal1:=hal1) (hnx:=hnx)
  (t1:=by simp[dl]) (hat2:=qzJ) (t2:=by simp[yn,yd]) (t3:=by decide) (t4:=by simp[otn,otd]) (hat3:=qzJ) (t5:=by simp[zn',zd']) (t6:=by simp[zk])
 exact qiI F
end Go.Proofs.YtkjaanhddkkodaaGreat

namespace Go.Proofs.YtkjaanhddkkodaaGreat
set_option maxRecDepth 100000
open Go.RowKit
theorem qfI {c o:Ck} (V:V9 c) {y:Ev} {p:Pt} (h:qcB c y p o):o.l.length+1=c.l.length∧o.s=c.s∧o.tn=y.n∧o.td=y.d:=by
 obtain⟨_,hp,hk,g,hg,rfl⟩:=h
 have gl:g.l=qaC c.l y.k∧g.s=c.s:=by
  rcases hg with ⟨_,rfl⟩ | ⟨_,_,_,_,_,_,_,_,_,_,rfl⟩<;>exact⟨rfl,rfl⟩
 obtain⟨i,hi⟩:=List.getElem?_of_mem hp
 have wl:=qio V.v hi
 have:=qai hi
 refine⟨?_,gl.2,rfl,rfl⟩
 show g.l.length+1=_
 rw[gl.1,← hk,wl]
 omega
theorem qfO {c o:Ck} {y:Ev} {p:Pt} (h:qcB c y p o) {tn td:Int} (hb:qgm c tn td=true):y.n*td≤tn*y.d:=by
 rw[qjV h.1] at hb
 exact of_decide_eq_true hb
abbrev enT (k:Nat):List (Nat×SV):=[(2,.pp 8 0),(3,.pp 9 0),(5,.pp 10 0),(6,.pv (iV (k:Int)))]
abbrev enH (c:Ck) (tn td:Int) (o:Ck):List (Nat×Nat×SV):=qcb 8 c++[(9,0,.pv (iV tn)),(9,1,.pv (iV td)),(10,0,.pv (iV o.tn)),(10,1,.pv (iV o.td)),(10,2,.ls 11 o.s.length),(10,3,.pv (iV o.x)),(10,4,.ls 12 o.l.length),(10,5,.ls 13 o.u.length),(10,6,.ls 14 o.b.length),(10,7,.ls 15 o.fr.length),(10,8,.ls 16 o.ev.length),(10,9,.ls 17 o.wh.length),(10,10,.ls 18 o.d.length),(11,0,qal o.s),(12,0,qak o.l),(13,0,zrI o.u),(14,0,zrB o.b),(15,0,zrI o.fr),(16,0,qat o.ev),(17,0,zrI o.wh),(18,0,qaU o.d)]
theorem quK {c:Ck} (hcl:c.l.length≤200) {tn td:Int} (htn:I64 tn) (htd:I64 td) (ht:okB tn td=true):∀ (r k:Nat) (o:Ck),o.l.length=r→k+r=c.l.length→V9 o→I64 o.tn→I64 o.td→o.tn*td≤tn*o.td→
 Rl 8 8 8 0 95 22 (enT k) (enH c tn td o) .ret [(4,.pv (.bool true))] []:=by
 intro r
 induction r with
 | zero=>
  intro k o hr hk V h1 h2 hle
  have S:=V.small h1 h2
  have hs:=V.s.len
  have h0:=qdz V ht hle
  have lk:decide ((k:Int)≤(c.l.length:Int))=true:=dt (by omega)
  have hb:qgm o tn td=false:=by
   cases hy:o.ev[0]? with
   | none=>unfold qgm;rw[hy]
   | some y=>
    obtain⟨p,hp,_⟩:=V.ev hy
    rw[List.eq_nil_of_length_eq_zero hr] at hp
    cases hp
  have e1:faE o tn td=6:=by unfold faE;rw[if_pos h0,if_neg (by rw[hb];decide)]
  have e2:moE o tn td=0:=by unfold moE;rw[if_pos h0,if_neg (by rw[hb];decide)]
  have hf:=(prog9.fail S (by omega) htn htd).1 (by rw[e1];decide)
  rw[e1] at hf
  exact qjY (v1:=(c.l.length:Int)-(k:Int)) (hle:=lk) (hf:=hf) (hm:=(prog9.move S (by omega) htn htd).2 e2) (hsub:=by rw[qam (by omega) (by omega)]) (t1:=by simp;omega) (hal:=qhg)
 | succ r ih=>
  intro k o hr hk V h1 h2 hle
  have S:=V.small h1 h2
  have hs:=V.s.len
  have h0:=qdz V ht hle
  have lk:decide ((k:Int)≤(c.l.length:Int))=true:=dt (by omega)
  cases hb:qgm o tn td
  ·have e1:faE o tn td=6:=by unfold faE;rw[if_pos h0,if_neg (by rw[hb];decide)]
   have e2:moE o tn td=0:=by unfold moE;rw[if_pos h0,if_neg (by rw[hb];decide)]
   have hf:=(prog9.fail S (by omega) htn htd).1 (by rw[e1];decide)
   rw[e1] at hf
   exact qjY (v1:=(c.l.length:Int)-(k:Int)) (hle:=lk) (hf:=hf) (hm:=(prog9.move S (by omega) htn htd).2 e2) (hsub:=by rw[qam (by omega) (by omega)]) (t1:=by simp;omega) (hal:=qhg)
  ·have e1:faE o tn td=0:=by unfold faE;rw[if_pos h0,if_pos hb]
   obtain⟨y,p,o1,ho⟩:=qg3 V hb
   obtain⟨V',i1,i2,hge⟩:=V.failed_ok h1 h2 ho
   obtain⟨l1,_,n1,d1⟩:=qfI V ho
   have hd:=qfO ho hb
   have hck:=qc0 (V'.small i1 i2)
   rw[qbt V'] at hck
   have y1:I64 y.n:=by rw[← n1];exact i1
   have y2:I64 y.d:=by rw[← d1];exact i2
   exact qre (o:=o) (o1:=o1) (y:=y) (p:=p) (hle:=lk) (hf:=(prog9.fail S (by omega) htn htd).2 e1 y p o1 ho) (hck:=hck) (hc1:=qbi y1 y2 h1 h2) (t2:=df fun h=>by have:=(qsb _ _).1 h;omega) (hc2:=qbi y1 y2 htn htd) (t3:=df fun h=>by have:=(qrY (y.n*td) (tn*y.d)).2 hd;omega)
    (hs:=qay (by omega)) (r:=ih (k+1) o1 (by omega) (by omega) V' i1 i2 (by rw[n1,d1];exact hd))
theorem qly (c:Ck) (h1:I64 c.tn) (h2:I64 c.td) (hi:∀ y∈c.ev,EvI y) (tn td:Int) (htn:I64 tn) (htd:I64 td) :
 Fn 8 8 [qao c,.pv (qaa tn td)] (qaq c) (.pv (.bool true)) 0 []:=by
 by_cases hfit:qeu c=false∧V9 c
 ·obtain⟨hg,V⟩:=hfit
  obtain⟨S,_,_,hs⟩:=qhq hg h1 h2 hi
  have FT:=qrg S V hg
  have hu:=qlp S htn htd
  by_cases h0:qdn c tn td=0
  ·rw[h0] at hu
   obtain⟨_,ht,hle⟩:=qmK h0
   have hl:=V.v.len
   have lk:decide (0≤(c.l.length:Int))=true:=dt (by omega)
   cases hb:qgm c tn td
   ·have e1:faE c tn td=6:=by unfold faE;rw[if_pos h0,if_neg (by rw[hb];decide)]
    have e2:moE c tn td=0:=by unfold moE;rw[if_pos h0,if_neg (by rw[hb];decide)]
    have hf:=(prog9.fail S hs htn htd).1 (by rw[e1];decide)
    rw[e1] at hf
    exact qBZ (v1:=(c.l.length:Int)) (hft:=FT) (hu:=hu) (hle:=lk) (hf:=hf) (hm:=(prog9.move S hs htn htd).2 e2) (hsub:=by rw[Int.sub_zero,qam (by omega) (by omega)]) (t1:=by simp) (hal:=qhg)
   ·have e1:faE c tn td=0:=by unfold faE;rw[if_pos h0,if_pos hb]
    obtain⟨y,p,o1,ho⟩:=qg3 V hb
    obtain⟨V',i1,i2,hge⟩:=V.failed_ok h1 h2 ho
    obtain⟨l1,_,n1,d1⟩:=qfI V ho
    have hd:=qfO ho hb
    have hck:=qc0 (V'.small i1 i2)
    rw[qbt V'] at hck
    have y1:I64 y.n:=by rw[← n1];exact i1
    have y2:I64 y.d:=by rw[← d1];exact i2
    exact qDn (o1:=o1) (y:=y) (p:=p) (hft:=FT) (hu:=hu) (hle:=lk) (hf:=(prog9.fail S hs htn htd).2 e1 y p o1 ho) (hck:=hck) (hc1:=qbi y1 y2 h1 h2) (t2:=df fun h=>by have:=(qsb _ _).1 h;omega) (hc2:=qbi y1 y2 htn htd) (t3:=df fun h=>by have:=(qrY (y.n*td) (tn*y.d)).2 hd;omega)
     (r0:=quK hl htn htd ht (c.l.length-1) 1 o1 (by omega) (by omega) V' i1 i2 (by rw[n1,d1];exact hd))
  ·exact qnR (hft:=FT) (hu:=hu) (he:=by simpa using h0) (hal:=qhg)
 ·exact qmI (hft:=qvQ h1 h2 hi hfit) (hal:=qhg)
end Go.Proofs.YtkjaanhddkkodaaGreat
