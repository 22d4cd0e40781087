/-
  ClockNames holds. Conditions: none.
-/
import Derived.Test.YtkjaanhddkkodaaGreatW48
import Derived.Test.YtkjaanhddkkodaaGreatW18
namespace Go.Proofs.YtkjaanhddkkodaaGreat
set_option maxRecDepth 100000
open Go.RowKit
theorem qwX (i:Int):qae (qa9 0) 3 1 ⟨i,1,2⟩=(3,1,true):=by
 obtain⟨e1,e2,e3⟩:=qf3 qij
 refine qk2 qij (by decide) (qat (by omega) (by omega)) (by decide) (by omega) (by omega) ?_ i
 rw[e1,e2]
 exact⟨fun _=>⟨by decide,qat (by omega) (by omega),qat (by omega) (by omega),by omega⟩,fun h=>(by cases h),fun _=>by decide,fun tn td ht h1 h=>qi8 (by
  have:=h rfl
  omega)⟩
theorem qDi (i:Int):qae (qa9 0) 1 1 ⟨i,2,1⟩=(1,1,true):=by
 obtain⟨e1,e2,e3⟩:=qf3 qij
 refine qk2 qij (by decide) (qat (by omega) (by omega)) (by decide) (by omega) (by omega) ?_ i
 rw[e1,e2]
 exact⟨fun _=>⟨by decide,qat (by omega) (by omega),qat (by omega) (by omega),by omega⟩,fun h=>(by cases h),fun _=>by decide,fun tn td ht h1 h=>qi8 (by
  have:=h rfl
  omega)⟩
theorem qA8 {c:Ck} {p q:Pt} {r e:List Pt} (V:V9 c) (hl:c.l=p::r) (hd:c.d=q::e) (h:(qae c.s c.tn c.td p).2.2=true):q.id=p.id:=by
 have F:=V.f
 rw[hl] at F
 have G:if (qae c.s c.tn c.td p).2.2=true then ∃ q e,c.d=q::e∧(∃ y,DueOk c p q y)∧DueF c r e else DueF c r c.d:=F
 rw[if_pos h] at G
 obtain⟨q',e',ed,⟨y,D⟩,_⟩:=G
 rw[hd] at ed
 cases ed
 exact D.id
abbrev qrx:List Pt:=[⟨1,0,1⟩,⟨2,6,-1⟩,⟨5,0,0⟩]
theorem qi6:Val qrx:=⟨by show 3≤64;omega,fun p hp=>by
 simp only[List.mem_cons,List.not_mem_nil,or_false] at hp
 rcases hp with rfl | rfl | rfl<;>decide,Up.of_pw (by show [1,2,5].Pairwise (fun a b:Int=>a<b);decide)⟩
theorem qyQ (i:Int):qae qrx 1 1 ⟨i,1,2⟩=(3,1,true):=by
 refine qjO (qbs (qat (by omega) (by omega)) (qat (by omega) (by omega)) (by decide) qi6 (show qb8 1 2=true by decide) ⟨⟨1,0,1⟩,by simp,rfl⟩ ⟨⟨2,6,-1⟩,by simp,rfl⟩) ?_
 rw[show qcJ qrx 2=⟨2,6,-1⟩ from qbV qi6 (q:=⟨2,6,-1⟩) (by simp),show qcJ qrx 1=⟨1,0,1⟩ from qbV qi6 (q:=⟨1,0,1⟩) (by simp)]
 exact⟨fun _=>⟨by decide,qat (by omega) (by omega),qat (by omega) (by omega),by omega⟩,fun h=>(by cases h),fun _=>by decide,fun tn td ht _ h=>qi8 (by
  have:=qbm ht
  have:=h rfl
  show 0*td+1*tn<6*td + -1*tn
  omega)⟩
theorem qnB:qez qft=4:=by
 unfold qez
 rw[if_pos (by show 64<(List.replicate 65 (Pt.mk 0 0 0)).length;rw[List.length_replicate];omega)]
theorem qjQ:qez [⟨2,0,0⟩,⟨1,0,0⟩]=32:=by
 unfold qez
 rw[if_neg (by simp),if_pos (by
  intro x hx
  simp only[List.mem_cons,List.not_mem_nil,or_false] at hx
  rcases hx with rfl | rfl<;>decide),if_neg (fun k=>absurd (k 0 ⟨2,0,0⟩ ⟨1,0,0⟩ rfl rfl) (by decide))]
theorem qvy:Val [⟨1,0,0⟩,⟨2,0,0⟩]:=⟨by show 2≤64;omega,fun p hp=>by
 simp only[List.mem_cons,List.not_mem_nil,or_false] at hp
 rcases hp with rfl | rfl<;>decide,Up.of_pw (by show [1,2].Pairwise (fun a b:Int=>a<b);decide)⟩
set_option maxHeartbeats 1000000 in
theorem qlv:Fn 3 0 [] [] (.pv (.bool true)) 0 []:=by
 have one:I64 1:=qat (by omega) (by omega)
 have i0:I64 0:=qat (by omega) (by omega)
 have i2:I64 2:=qat (by omega) (by omega)
 have i3:I64 3:=qat (by omega) (by omega)
 have G0:=qij
 obtain⟨c,hr,I⟩:=qr5 (s:=qa9 0) (tn:=1) (td:=1) (l:=[P2.mk 1 2,P2.mk 5 1]) one one G0 (by decide) (fun g hg=>by
  simp only[List.mem_cons,List.not_mem_nil,or_false] at hg
  rcases hg with rfl | rfl
  ·exact⟨by decide,qbq 1 (by omega),qbq 2 (by omega)⟩
  ·exact⟨by decide,qbq 5 (by omega),qbq 1 (by omega)⟩) (by decide) (by decide)
 have hce:=qzU one one G0 (by decide) (by decide) hr
 have V:=I.V
 have cl:=qzi I.l I.id
 have j1:I64 c.tn:=by rw[I.tn];exact one
 have j2:I64 c.td:=by rw[I.td];exact one
 have S:=V.small j1 j2
 have hs:c.s.length≤70:=by have:=V.s.len;omega
 have f0:qae c.s c.tn c.td ⟨0,1,2⟩=(2,1,true):=by rw[I.s,I.tn,I.td];exact qvJ 0
 have f1:qae c.s c.tn c.td ⟨1,5,1⟩=(0,0,false):=by rw[I.s,I.tn,I.td];exact qmW 0 1 qij (Or.inl rfl) (by omega) (by omega) 1
 have w0:(qae c.s c.tn c.td ⟨0,1,2⟩).2.2=true:=by rw[f0]
 have w1:¬ (qae c.s c.tn c.td ⟨1,5,1⟩).2.2=true:=by rw[f1];decide
 obtain⟨qa,qb,hd⟩:∃ qa qb,c.d=[⟨0,qa,qb⟩]:=by
  have F:=V.f
  rw[cl] at F
  have F1:if (qae c.s c.tn c.td ⟨0,1,2⟩).2.2=true then ∃ q r,c.d=q::r∧(∃ y,DueOk c ⟨0,1,2⟩ q y)∧DueF c [⟨1,5,1⟩] r else DueF c [⟨1,5,1⟩] c.d:=F
  rw[if_pos w0] at F1
  obtain⟨q,r,ed,⟨y,D⟩,F2⟩:=F1
  have F3:if (qae c.s c.tn c.td ⟨1,5,1⟩).2.2=true then ∃ q e,r=q::e∧(∃ y,DueOk c ⟨1,5,1⟩ q y)∧DueF c [] e else DueF c [] r:=F2
  rw[if_neg w1] at F3
  have er:r=[]:=F3
  have id0:q.id=0:=D.id
  rw[ed,er]
  cases q
  simp only at id0
  subst id0
  exact⟨_,_,rfl⟩
 have he:c.ev.length=1:=by rw[V.e,hd];rfl
 have b0:=qsO (c:={ c with td:=0 }) ⟨S.tn,i0,S.l,S.d,S.a⟩ hs fun k=>by
  have:=qbm k.t
  exact absurd this (by show ¬ (0:Int)<0;omega)
 have g1:qae c.s 3 1 ⟨0,1,2⟩=(3,1,true):=by rw[I.s];exact qwX 0
 have b1:=qsO (c:={ c with tn:=3,td:=1 }) ⟨i3,one,S.l,S.d,S.a⟩ hs fun k=>by
  have:=qjH (c:=c) (c':={ c with tn:=3,td:=1 }) cl cl rfl rfl rfl V k w0 (by show (qae c.s 3 1 _).2.2=true;rw[g1])
  rw[f0] at this
  have h:(2:Int)=(qae c.s 3 1 ⟨0,1,2⟩).1:=this
  rw[g1] at h
  exact absurd h (by decide)
 have b2:=qsO (c:={ c with s:=[⟨2,6,-1⟩,⟨5,0,0⟩] }) ⟨S.tn,S.td,S.l,S.d,S.a⟩ (by show 2≤70;omega) fun k=>by
  obtain⟨q,hq,e⟩:=(k.k ⟨0,1,2⟩ (by show _∈c.l;rw[cl];simp)).1
  simp only[List.mem_cons,List.not_mem_nil,or_false] at hq
  rcases hq with rfl | rfl
  ·exact absurd e (by decide)
  ·exact absurd e (by decide)
 have b3:=qsO (c:={ c with d:=[] }) ⟨S.tn,S.td,S.l,Nat.zero_le _,S.a⟩ hs fun k=>by
  have h:c.ev.length=0:=k.e
  omega
 have b4:=qsO (c:={ c with d:=[⟨1,qa,qb⟩] }) ⟨S.tn,S.td,S.l,by show 1≤210;omega,S.a⟩ hs fun k=>by
  have h:=qA8 (c:={ c with d:=[⟨1,qa,qb⟩] }) k cl rfl w0
  exact absurd h (by show ¬ (1:Int)=0;omega)
 have b5:=qsO (c:={ c with u:=List.replicate 200 0,b:=List.replicate 200 false,fr:=qaS 200,ev:=[],wh:=List.replicate 200 (-1) }) ⟨S.tn,S.td,S.l,S.d,((qgu G0 (show okB 1 1=true by decide)).small one one).a⟩ hs fun k=>by
  have h:0=c.d.length:=k.e
  rw[hd] at h
  cases h
 have g6:qae qrx c.tn c.td ⟨0,1,2⟩=(3,1,true):=by rw[I.tn,I.td];exact qyQ 0
 have b6:=qsO (c:={ c with s:=qrx }) ⟨S.tn,S.td,S.l,S.d,S.a⟩ (by show 3≤70;omega) fun k=>by
  have:=qjH (c:=c) (c':={ c with s:=qrx }) cl cl rfl rfl rfl V k w0 (by show (qae qrx c.tn c.td _).2.2=true;rw[g6])
  rw[f0] at this
  have h:(2:Int)=(qae qrx c.tn c.td ⟨0,1,2⟩).1:=this
  rw[g6] at h
  exact absurd h (by decide)
 have e1:cyE c 9 9=8:=by unfold cyE;rw[if_neg fun k=>absurd k.2 (by decide)]
 have d1:=(prog9.certify S hs 9 9).1 (by rw[e1];decide)
 rw[e1] at d1
 have e2:cyE c 9 1=6:=by
  unfold cyE
  rw[if_pos ⟨V,by decide⟩,if_neg fun k=>by
   obtain⟨q,hq,e⟩:=k.1
   rw[I.s] at hq
   simp only[List.mem_cons,List.not_mem_nil,or_false] at hq
   rcases hq with rfl | rfl | rfl<;>exact absurd e (by decide)]
 have d2:=(prog9.certify S hs 9 1).1 (by rw[e2];decide)
 rw[e2] at d2
 have e3:cyE c 1 2=14:=by
  unfold cyE
  rw[if_pos ⟨V,by decide⟩,if_pos (by rw[I.s];exact⟨qbq 1 (by omega),qbq 2 (by omega)⟩)]
  unfold adE
  rw[if_pos (by unfold qfu;exact decide_eq_true ⟨⟨0,1,2⟩,by rw[cl];simp,rfl,rfl⟩)]
 have d3:=(prog9.certify S hs 1 2).1 (by rw[e3];decide)
 rw[e3] at d3
 obtain⟨cy,o,ho,I'⟩:=qor I one one (g:=⟨2,1⟩) (by decide) (qbq 2 (by omega)) (qbq 1 (by omega)) (by decide) (by decide)
 have d4:=(prog9.certify S hs 2 1).2 cy o ho
 have Vo:=I'.V
 have ol:=qry I'.l I'.id
 have o1:I64 o.tn:=by rw[I'.tn];exact one
 have o2:I64 o.td:=by rw[I'.td];exact one
 have So:=Vo.small o1 o2
 have hso:o.s.length≤70:=by have:=Vo.s.len;omega
 have q0:qae o.s o.tn o.td ⟨0,1,2⟩=(2,1,true):=by rw[I'.s,I'.tn,I'.td];exact qvJ 0
 have q1:qae o.s o.tn o.td ⟨1,5,1⟩=(0,0,false):=by rw[I'.s,I'.tn,I'.td];exact qmW 0 1 qij (Or.inl rfl) (by omega) (by omega) 1
 have q2:qae o.s o.tn o.td ⟨2,2,1⟩=(1,1,true):=by rw[I'.s,I'.tn,I'.td];exact qDi 2
 obtain⟨y,hy,yk,yn,yd⟩:=Vo.first o1 o2 (p:=⟨2,2,1⟩) (by rw[ol];simp) (by show (qae o.s o.tn o.td _).2.2=true;rw[q2]) (fun p' hp' hf' hi'=>by
  rw[ol] at hp'
  simp only[List.mem_cons,List.not_mem_nil,or_false] at hp'
  rcases hp' with rfl | rfl | rfl
  ·rw[q2,q0];decide
  ·have:(qae o.s o.tn o.td ⟨1,5,1⟩).2.2=true:=hf'
   rw[q1] at this
   cases this
  ·exact (hi' rfl).elim)
 rw[q2] at yn yd
 replace yn:y.n=1:=yn
 replace yd:y.d=1:=yd
 replace yk:y.k=2:=yk
 have d5:=(prog9.next So hso).2.2 Vo y hy
 have e6:reE c 2=6:=by
  unfold reE
  rw[if_pos V,if_neg fun ⟨p,hp,e⟩=>by
   rw[cl] at hp
   simp only[List.mem_cons,List.not_mem_nil,or_false] at hp
   rcases hp with rfl | rfl<;>exact absurd e (by decide)]
 have d6:=(prog9.retire S hs 2).1 (by rw[e6];decide)
 rw[e6] at d6
 have u1:qde c 0 1=44:=by
  unfold qde
  rw[if_pos ⟨V,by decide⟩,if_pos (by rw[I.tn,I.td];decide)]
 have e7:moE c 0 1=44:=by unfold moE;rw[if_neg (by rw[u1];decide),u1]
 have d7:=(prog9.move S hs i0 one).1 (by rw[e7];decide)
 rw[e7] at d7
 have u2:qde c 2 2=8:=by unfold qde;rw[if_neg fun k=>absurd k.2 (by decide)]
 have e8:moE c 2 2=8:=by unfold moE;rw[if_neg (by rw[u2];decide),u2]
 have d8:=(prog9.move S hs i2 i2).1 (by rw[e8];decide)
 rw[e8] at d8
 have e9:faE c 0 1=44:=by unfold faE;rw[if_neg (by rw[u1];decide),u1]
 have d9:=(prog9.fail S hs i0 one).1 (by rw[e9];decide)
 rw[e9] at d9
 have u3:qde c 0 0=8:=by unfold qde;rw[if_neg fun k=>absurd k.2 (by decide)]
 have k1:faE c 0 0=8:=by unfold faE;rw[if_neg (by rw[u3];decide),u3]
 have n1:=(prog9.fail S hs i0 i0).1 (by rw[k1];decide)
 rw[k1] at n1
 have k2:tE (qa9 0) 1 1=0:=by unfold tE;rw[if_pos (qbZ.2 qij),if_pos (by decide)]
 have n2:=(prog9.new one one).2 k2
 have VN:=qgu G0 (show okB 1 1=true by decide)
 have n3:=(prog9.next (VN.small one one) (by show 3≤70;omega)).2.1 VN rfl
 have k4:qfs c [⟨1,0,0⟩,⟨2,0,0⟩]=6:=by
  unfold qfs
  rw[if_pos V,if_pos (qbZ.2 qvy),if_neg fun k=>by
   obtain⟨q,hq,e⟩:=(k ⟨1,5,1⟩ (by rw[cl];simp)).1
   simp only[List.mem_cons,List.not_mem_nil,or_false] at hq
   rcases hq with rfl | rfl<;>exact absurd e (by decide)]
 have n4:=(prog9.alter S hs [⟨1,0,0⟩,⟨2,0,0⟩] (by decide)).1 (by rw[k4];decide)
 rw[k4] at n4
 have k5:qfs c [⟨2,0,0⟩,⟨1,0,0⟩]=32:=by
  unfold qfs
  rw[if_pos V,if_neg (by rw[qjQ];decide),qjQ]
 have n5:=(prog9.alter S hs [⟨2,0,0⟩,⟨1,0,0⟩] (by decide)).1 (by rw[k5];decide)
 rw[k5] at n5
 obtain⟨z,hz,_,zn,zd⟩:=V.first j1 j2 (p:=⟨0,1,2⟩) (by rw[cl];simp) w0 (fun p' hp' hf' hi'=>by
  rw[cl] at hp'
  simp only[List.mem_cons,List.not_mem_nil,or_false] at hp'
  rcases hp' with rfl | rfl
  ·exact (hi' rfl).elim
  ·exact (w1 hf').elim)
 rw[f0] at zn zd
 replace zn:z.n=2:=zn
 replace zd:z.d=1:=zd
 have u4:qde c 1 1=0:=qeC V (by decide) (by rw[I.tn,I.td];decide)
 have k6:moE c 1 1=0:=by
  unfold moE
  rw[if_pos u4,if_neg (by rw[qjA hz,zn,zd];decide)]
 have n6:=(prog9.move S hs one one).2 k6
 have n7:=qxc S (by omega)
 have htw:=qzJ S (by omega)
 have k7:tE qft 0 0=4:=by unfold tE;rw[if_neg (by rw[qnB];decide),qnB]
 have a1:=(prog9.new (s:=qft) i0 i0).1 (by rw[k7];decide)
 rw[k7] at a1
 have k8:tE (qa9 0) 0 0=8:=by unfold tE;rw[if_pos (qbZ.2 qij),if_neg (by decide)]
 have a2:=(prog9.new (s:=qa9 0) i0 i0).1 (by rw[k8];decide)
 rw[k8] at a2
 have hx:c.x=2:=I.x
 have htn:=I.tn
 have htd:=I.td
 have hcs:=I.s
 clear hz zn zd u1 u2 u3 u4 k1 k2 k4 k5 k6 e1 e2 e3 e6 e7 e8 e9 q0 q1 q2 w0 w1 f0 f1 g1 g6 he S hs V I j1 j2 hr ho cy I' cl
 obtain⟨tn,td,s,x,l,u,b,fr,ev,wh,d⟩:=c
 have hd':d=[⟨0,qa,qb⟩]:=hd
 have hx':x=2:=hx
 have htn':tn=1:=htn
 have htd':td=1:=htd
 have hcs':s=qa9 0:=hcs
 subst hd' hx' htn' htd' hcs'
 refine qsR (o:=o) (w:=qdy (qa9 0) 1 1) (y:=y) (a1:=a1) (hg:=qCo) (a2:=a2) (hat1:=qja) (hce:=hce) (hat0:=qja) (d1:=d1) (d2:=d2) (d3:=d3) (d4:=d4) (d5:=d5) (d6:=d6) (d7:=d7) (d8:=d8) (d9:=d9) (e1:=n1) (e2:=n2) (e3:=n3) (e4:=n4) (e5:=n5) (e6:=n6) (t1:=by simp[yn,yd]) (t2:=by simp[yk]) (e7:=n7) (hal:=qyv) (r0:=?_)
 refine qFe (htw:=htw) (c1:=b0.1) (c2:=b0.2.1) (c3:=b0.2.2.1) (c4:=b0.2.2.2.1) (hat0:=qja) (c5:=b0.2.2.2.2.1) (c6:=b0.2.2.2.2.2.1) (c7:=b0.2.2.2.2.2.2) (r:=?_)
 refine qFl (htw:=htw) (hat3:=qja) (c1:=b1.1) (c2:=b1.2.1) (c3:=b1.2.2.1) (c4:=b1.2.2.2.1) (hat0:=qja) (c5:=b1.2.2.2.2.1) (c6:=b1.2.2.2.2.2.1) (c7:=b1.2.2.2.2.2.2) (r:=?_)
 refine qE9 (htw:=htw) (c1:=qd4 (vs:=[qaf 0 0]) b2.1) (c2:=qd4 (vs:=[iV 9]) b2.2.1) (c3:=qd4 (vs:=[]) b2.2.2.1) (c4:=qd4 (vs:=[qaa 0 0]) b2.2.2.2.1) (hat0:=qja) (c5:=qd4 (vs:=[qaa 0 1]) b2.2.2.2.2.1) (c6:=qoL b2.2.2.2.2.2.1) (c7:=qd4 (vs:=[]) b2.2.2.2.2.2.2) (r:=?_)
 refine qFu (htw:=htw) (c1:=qgb (vs:=[qaf 0 0]) b3.1) (c2:=qgb (vs:=[iV 9]) b3.2.1) (c3:=qgb (vs:=[]) b3.2.2.1) (c4:=qgb (vs:=[qaa 0 0]) b3.2.2.2.1) (hat0:=qja) (c5:=qgb (vs:=[qaa 0 1]) b3.2.2.2.2.1) (c6:=qs7 b3.2.2.2.2.2.1) (c7:=qgb (vs:=[]) b3.2.2.2.2.2.2) (r:=?_)
 refine qFD (htw:=htw) (c1:=b4.1) (c2:=b4.2.1) (c3:=b4.2.2.1) (c4:=b4.2.2.2.1) (hat0:=qja) (c5:=b4.2.2.2.2.1) (c6:=b4.2.2.2.2.2.1) (c7:=b4.2.2.2.2.2.2) (r:=?_)
 refine qE4 (htw:=htw) (hbg:=qrv (n:=200) (by decide)) (c1:=b5.1) (c2:=b5.2.1) (c3:=b5.2.2.1) (c4:=b5.2.2.2.1) (hat0:=qja) (c5:=b5.2.2.2.2.1) (c6:=b5.2.2.2.2.2.1) (c7:=b5.2.2.2.2.2.2) (r:=?_)
 refine qE6 (htw:=htw) (c1:=b6.1) (c2:=b6.2.1) (c3:=b6.2.2.1) (c4:=b6.2.2.2.1) (hat0:=qja) (c5:=b6.2.2.2.2.1) (c6:=b6.2.2.2.2.2.1) (c7:=b6.2.2.2.2.2.2) (r:=?_)
 exact quK
theorem qio:Pure Tryz.prog 3 #[] (.bool true):=qe2 qlv
end Go.Proofs.YtkjaanhddkkodaaGreat
