/-
  Joined: Bn, Br. Conditions: none.
-/
import Derived.Test.YtkjaanhddkkodaaGreatW47
import Derived.Test.YtkjaanhddkkodaaGreatW39
import Derived.Test.YtkjaanhddkkodaaGreatW27
import Derived.Test.YtkjaanhddkkodaaGreatW18
import Derived.Test.YtkjaanhddkkodaaGreatW41
namespace Go.Proofs.YtkjaanhddkkodaaGreat
set_option maxRecDepth 100000
open Go.RowKit
theorem qjD (n:Int) (h:qhC ⟨5,0,n⟩=true):Val (qa9 n):=⟨by show 3≤64;omega,fun p hp=>by
 simp only[List.mem_cons,List.not_mem_nil,or_false] at hp
 rcases hp with rfl | rfl | rfl
 ·decide
 ·decide
 ·exact h,Up.of_pw (by show [1,2,5].Pairwise (fun a b:Int=>a<b);decide)⟩
theorem qij:Val (qa9 0):=qjD 0 (by decide)
theorem qy4:Val (qa9 1):=qjD 1 (by decide)
theorem qf3 {n:Int} (V:Val (qa9 n)):qcJ (qa9 n) 1=⟨1,0,2⟩∧qcJ (qa9 n) 2=⟨2,6,-1⟩∧qcJ (qa9 n) 5=⟨5,0,n⟩:=
 ⟨qbV V (q:=⟨1,0,2⟩) (by simp),qbV V (q:=⟨2,6,-1⟩) (by simp),qbV V (q:=⟨5,0,n⟩) (by simp)⟩
theorem qi8 {P Q pb qb pi qi:Int} (h:P<Q):qbk P Q pb qb pi qi=false:=qcV (by omega)
theorem qw0 {α:Type} {l:List α} (h:l.length=3):∃ a b c,l=[a,b,c]:=by
 match l,h with
 | [a,b,c],_=>exact⟨a,b,c,rfl⟩
theorem qat {n:Int} (h1 : -1000≤n) (h2:n≤1000):I64 n:=⟨by omega,by omega⟩
theorem qbq {n:Int} (a:Int) (h:a=1∨a=2∨a=5):∃ q∈qa9 n,q.id=a:=by
 rcases h with rfl | rfl | rfl
 ·exact⟨⟨1,0,2⟩,by simp,rfl⟩
 ·exact⟨⟨2,6,-1⟩,by simp,rfl⟩
 ·exact⟨⟨5,0,n⟩,by simp,rfl⟩
theorem qk2 {n t m k:Int} {w:Bool} {a b:Int} (V:Val (qa9 n)) (ht:okB t 1=true) (h1:I64 t) (hc:qb8 a b=true) (ha:a=1∨a=2∨a=5) (hb:b=1∨b=2∨b=5) (h:FailIs (qcJ (qa9 n) b) (qcJ (qa9 n) a) t 1 m k w) (i:Int):qae (qa9 n) t 1 ⟨i,a,b⟩=(m,k,w):=
 qjO (qbs h1 (qat (by omega) (by omega)) ht V hc (qbq a ha) (qbq b hb)) h
theorem qvJ (i:Int):qae (qa9 0) 1 1 ⟨i,1,2⟩=(2,1,true):=by
 obtain⟨e1,e2,e3⟩:=qf3 qij
 refine qk2 qij (by decide) (qat (by omega) (by omega)) (by decide) (by omega) (by omega) ?_ i
 rw[e1,e2]
 exact⟨fun _=>⟨by decide,qat (by omega) (by omega),qat (by omega) (by omega),by omega⟩,fun h=>(by cases h),fun _=>by decide,fun tn td ht _ h=>qi8 (by
  have:=qbm ht
  have:=h rfl
  show 0*td+2*tn<6*td + -1*tn
  omega)⟩
theorem qw5 (t:Int) (h1:1≤t) (h2:t≤2) (i:Int):qae (qa9 0) t 1 ⟨i,5,2⟩=(6,1,true):=by
 obtain⟨e1,e2,e3⟩:=qf3 qij
 have ht:okB t 1=true:=qhj (by omega)
 refine qk2 qij ht (qat (by omega) (by omega)) (by decide) (by omega) (by omega) ?_ i
 rw[e3,e2]
 exact⟨fun _=>⟨by decide,qat (by omega) (by omega),qat (by omega) (by omega),by omega⟩,fun h=>(by cases h),fun _=>by decide,fun tn td ht _ h=>qi8 (by
  have:=qbm ht
  have:=h rfl
  show 0*td+0*tn<6*td + -1*tn
  omega)⟩
theorem qmW (n t:Int) (V:Val (qa9 n)) (hn:n=0∨n=1) (h1:1≤t) (h2:t≤2) (i:Int):qae (qa9 n) t 1 ⟨i,5,1⟩=(0,0,false):=by
 obtain⟨e1,e2,e3⟩:=qf3 V
 have ht:okB t 1=true:=qhj (by omega)
 refine qk2 V ht (qat (by omega) (by omega)) (by decide) (by omega) (by omega) ?_ i
 rw[e1,e3]
 refine⟨fun h=>(by cases h),fun _=>⟨rfl,rfl⟩,fun h=>(by cases h),fun tn td ht h _=>qi8 ?_⟩
 have d0:=qbm ht
 have tp:0<tn:=by
  have:1*td≤t*td:=Int.mul_le_mul_of_nonneg_right h1 (by omega)
  omega
 rcases hn with rfl | rfl
 ·show 0*td+0*tn<0*td+2*tn
  omega
 ·show 0*td+1*tn<0*td+2*tn
  omega
theorem qAd (i:Int):qae (qa9 1) 2 1 ⟨i,5,2⟩=(3,1,true):=by
 obtain⟨e1,e2,e3⟩:=qf3 qy4
 refine qk2 qy4 (by decide) (qat (by omega) (by omega)) (by decide) (by omega) (by omega) ?_ i
 rw[e3,e2]
 exact⟨fun _=>⟨by decide,qat (by omega) (by omega),qat (by omega) (by omega),by omega⟩,fun h=>(by cases h),fun _=>by decide,fun tn td ht _ h=>qi8 (by
  have:=qbm ht
  have:=h rfl
  show 0*td+1*tn<6*td + -1*tn
  omega)⟩
theorem quR {c:Ck} {s:List Pt} (V:V9 c) {l:List Pt} {o:Ck} {r:Option Ck} (h:AlRun c s l o r):(∀ p∈l,p∈c.l)→(∀ p∈l,(qae s c.tn c.td p).2.2=true→qaX c p=true)→∃ o',r=some o':=by
 induction h with
 | nil o=>exact fun _ _=>⟨o,rfl⟩
 | step _ _ ih=>exact fun h1 h2=>ih (fun p hp=>h1 p (List.mem_cons_of_mem _ hp)) (fun p hp=>h2 p (List.mem_cons_of_mem _ hp))
 | @full p l o h=>
  intro h1 h2
  obtain⟨f,hn,_⟩:=h
  obtain⟨q,hq,he⟩:=(V.due_iff (h1 p List.mem_cons_self)).2 (h2 p List.mem_cons_self f)
  exact (hn q hq he).elim
theorem qeC {c:Ck} {tn td:Int} (V:V9 c) (ht:okB tn td=true) (h:c.tn*td≤tn*c.td):qde c tn td=0:=by
 unfold qde
 rw[if_pos (show V9 c∧okB tn td=true from ⟨V,ht⟩),if_neg (by omega)]
theorem qjA {c:Ck} {y:Ev} {tn td:Int} (h:c.ev[0]?=some y):qlZ c tn td=decide (y.n*td≤tn*y.d):=by unfold qlZ;rw[h]
theorem qpi {c:Ck} (h:c.l.map abP=[P2.mk 1 2,P2.mk 5 2,P2.mk 5 1]) (hi:∀ (k:Nat) (p:Pt),c.l[k]?=some p→p.id=(k:Int)):c.l=[⟨0,1,2⟩,⟨1,5,2⟩,⟨2,5,1⟩]:=by
 obtain⟨p0,p1,p2,hl⟩:=qw0 (l:=c.l) (by have:=congrArg List.length h;simpa using this)
 rw[hl] at h hi ⊢
 have h0:=hi 0 p0 rfl
 have h1:=hi 1 p1 rfl
 have h2:=hi 2 p2 rfl
 simp only[List.map_cons,List.map_nil,List.cons.injEq,P2.mk.injEq,and_true] at h
 obtain⟨⟨a1,b1⟩,⟨a2,b2⟩,a3,b3⟩:=h
 cases p0;cases p1;cases p2
 simp only at h0 h1 h2 a1 b1 a2 b2 a3 b3
 subst h0 h1 h2 a1 b1 a2 b2 a3 b3
 rfl
theorem qyv:Pure Tryz.prog 24 #[] (.bool true):=by
 have one:I64 1:=qat (by omega) (by omega)
 have G0:=qij
 obtain⟨c,hr,I⟩:=qr5 (s:=qa9 0) (tn:=1) (td:=1) (l:=[P2.mk 1 2,P2.mk 5 2,P2.mk 5 1]) one one G0 (by decide) (fun g hg=>by
  simp only[List.mem_cons,List.not_mem_nil,or_false] at hg
  rcases hg with rfl | rfl | rfl
  ·exact⟨by decide,qbq 1 (by omega),qbq 2 (by omega)⟩
  ·exact⟨by decide,qbq 5 (by omega),qbq 2 (by omega)⟩
  ·exact⟨by decide,qbq 5 (by omega),qbq 1 (by omega)⟩) (by decide) (by decide)
 have hce:=qzU one one G0 (by decide) (by decide) hr
 have V:=I.V
 have cl:=qpi I.l I.id
 have i1:I64 c.tn:=by rw[I.tn];exact one
 have i2:I64 c.td:=by rw[I.td];exact one
 have S:=V.small i1 i2
 have f0:qae c.s c.tn c.td ⟨0,1,2⟩=(2,1,true):=by rw[I.s,I.tn,I.td];exact qvJ 0
 have f1:qae c.s c.tn c.td ⟨1,5,2⟩=(6,1,true):=by rw[I.s,I.tn,I.td];exact qw5 1 (by omega) (by omega) 1
 have f2:qae c.s c.tn c.td ⟨2,5,1⟩=(0,0,false):=by rw[I.s,I.tn,I.td];exact qmW 0 1 qij (Or.inl rfl) (by omega) (by omega) 2
 have hs:c.s.length≤70:=by have:=V.s.len;omega
 have dl:c.d.length=2:=by
  have:=(qdT.1 V.f).1
  have w0:qaX c ⟨0,1,2⟩=true:=by show (qae c.s c.tn c.td _).2.2=true;rw[f0]
  have w1:qaX c ⟨1,5,2⟩=true:=by show (qae c.s c.tn c.td _).2.2=true;rw[f1]
  have w2:¬ qaX c ⟨2,5,1⟩=true:=by show ¬ (qae c.s c.tn c.td _).2.2=true;rw[f2];decide
  rw[this,cl,List.filter_cons_of_pos (p:=qaX c) w0,List.filter_cons_of_pos (p:=qaX c) w1,List.filter_cons_of_neg (p:=qaX c) w2]
  rfl
 obtain⟨y,hy,yk,yn,yd⟩:=V.first i1 i2 (p:=⟨0,1,2⟩) (by rw[cl];simp) (by show (qae c.s c.tn c.td _).2.2=true;rw[f0]) (fun p' hp' hf' hi'=>by
  rw[cl] at hp'
  simp only[List.mem_cons,List.not_mem_nil,or_false] at hp'
  rcases hp' with rfl | rfl | rfl
  ·exact (hi' rfl).elim
  ·rw[f0,f1];decide
  ·have:(qae c.s c.tn c.td ⟨2,5,1⟩).2.2=true:=hf'
   rw[f2] at this
   cases this)
 rw[f0] at yn yd
 replace yn:y.n=2:=yn
 replace yd:y.d=1:=yd
 replace yk:y.k=0:=yk
 have four:I64 4:=qat (by omega) (by omega)
 have u0:qde c 4 1=0:=qeC V (by decide) (by rw[I.tn,I.td];decide)
 have d0:qlZ c 4 1=true:=by rw[qjA hy,yn,yd];decide
 have e0:faE c 4 1=0:=by unfold faE;rw[if_pos u0,if_pos d0]
 obtain⟨g,hg⟩:=qu4 V y.k
 have ho:qeF c y ⟨0,1,2⟩ { g with tn:=y.n,td:=y.d }:=⟨hy,by rw[cl];simp,yk.symm,g,hg,rfl⟩
 have hf1:=(prog9.fail S hs four one).2 e0 y _ _ ho
 obtain⟨Vo,o1,o2,_⟩:=V.failed_ok i1 i2 ho
 have gl:g.l=qaM c.l y.k∧g.s=c.s:=by
  rcases hg with ⟨_,rfl⟩ | ⟨_,_,_,_,_,_,_,_,_,_,rfl⟩<;>exact⟨rfl,rfl⟩
 generalize ho':({ g with tn:=y.n,td:=y.d }:Ck)=o at Vo o1 o2 hf1
 have ol:o.l=[⟨1,5,2⟩,⟨2,5,1⟩]:=by
  rw[← ho']
  show g.l=_
  rw[gl.1,cl,yk]
  rfl
 have os:o.s=qa9 0:=by rw[← ho'];exact gl.2.trans I.s
 have otn:o.tn=2:=by rw[← ho'];exact yn
 have otd:o.td=1:=by rw[← ho'];exact yd
 have So:=Vo.small o1 o2
 have g1:qae o.s o.tn o.td ⟨1,5,2⟩=(6,1,true):=by rw[os,otn,otd];exact qw5 2 (by omega) (by omega) 1
 have g2:qae o.s o.tn o.td ⟨2,5,1⟩=(0,0,false):=by rw[os,otn,otd];exact qmW 0 2 qij (Or.inl rfl) (by omega) (by omega) 2
 have hso:o.s.length≤70:=by have:=Vo.s.len;omega
 obtain⟨y2,hy2,_,yn2,yd2⟩:=Vo.first o1 o2 (p:=⟨1,5,2⟩) (by rw[ol];simp) (by show (qae o.s o.tn o.td _).2.2=true;rw[g1]) (fun p' hp' hf' hi'=>by
  rw[ol] at hp'
  simp only[List.mem_cons,List.not_mem_nil,or_false] at hp'
  rcases hp' with rfl | rfl
  ·exact (hi' rfl).elim
  ·have:(qae o.s o.tn o.td ⟨2,5,1⟩).2.2=true:=hf'
   rw[g2] at this
   cases this)
 rw[g1] at yn2 yd2
 replace yn2:y2.n=6:=yn2
 replace yd2:y2.d=1:=yd2
 have u1:qde o 4 1=0:=qeC Vo (by decide) (by rw[otn,otd];decide)
 have d1:qlZ o 4 1=false:=by rw[qjA hy2,yn2,yd2];decide
 have e1:faE o 4 1=6:=by unfold faE;rw[if_pos u1,if_neg (by rw[d1];decide)]
 have hf2:=(prog9.fail So hso four one).1 (by rw[e1];decide)
 rw[e1] at hf2
 have six:I64 6:=qat (by omega) (by omega)
 have u2:qde o 6 1=0:=qeC Vo (by decide) (by rw[otn,otd];decide)
 have d2:qlZ o 6 1=true:=by rw[qjA hy2,yn2,yd2];decide
 have e2:moE o 6 1=36:=by unfold moE;rw[if_pos u2,if_pos d2]
 have hmv:=(prog9.move So hso six one).1 (by rw[e2];decide)
 rw[e2] at hmv
 have kn:qcQ o.l (qa9 1):=fun p hp=>by
  rw[ol] at hp
  simp only[List.mem_cons,List.not_mem_nil,or_false] at hp
  rcases hp with rfl | rfl
  ·exact⟨qbq 5 (by omega),qbq 2 (by omega)⟩
  ·exact⟨qbq 5 (by omega),qbq 1 (by omega)⟩
 have P:AlPre o (qa9 1):=⟨So,Vo,qy4,kn⟩
 have e3:qfs o (qa9 1)=0:=by unfold qfs;rw[if_pos Vo,if_pos (qbZ.2 qy4),if_pos kn]
 obtain⟨r,hal⟩:=qh0 P o.l { o with d:=[] } (fun p hp=>hp) Vo.v.up.nodup (qgJ P)
 have k1:qae (qa9 1) o.tn o.td ⟨1,5,2⟩=(3,1,true):=by rw[otn,otd];exact qAd 1
 have k2:qae (qa9 1) o.tn o.td ⟨2,5,1⟩=(0,0,false):=by rw[otn,otd];exact qmW 1 2 qy4 (Or.inr rfl) (by omega) (by omega) 2
 obtain⟨a,rfl⟩:=quR Vo hal (fun p hp=>hp) (fun p hp h=>by
  rw[ol] at hp
  simp only[List.mem_cons,List.not_mem_nil,or_false] at hp
  rcases hp with rfl | rfl
  ·show (qae o.s o.tn o.td _).2.2=true
   rw[g1]
  ·rw[k2] at h
   cases h)
 have hal1:=((prog9.alter So hso (qa9 1) (by decide)).2 e3 _ hal).1 a rfl
 have Va:=V9.alter_ok P hal
 have Sa:=Va.small o1 o2
 obtain⟨z,hz,zk,zn,zd⟩:=Va.first o1 o2 (p:=⟨1,5,2⟩) (by show _∈o.l;rw[ol];simp) (by show (qae (qa9 1) o.tn o.td _).2.2=true;rw[k1]) (fun p' hp' hf' hi'=>by
  have hp2:p'∈o.l:=hp'
  rw[ol] at hp2
  simp only[List.mem_cons,List.not_mem_nil,or_false] at hp2
  rcases hp2 with rfl | rfl
  ·exact (hi' rfl).elim
  ·have:(qae (qa9 1) o.tn o.td ⟨2,5,1⟩).2.2=true:=hf'
   rw[k2] at this
   cases this)
 have zn':z.n=3:=zn.trans (congrArg (fun r:Int×Int×Bool=>r.1) k1)
 have zd':z.d=1:=zd.trans (congrArg (fun r:Int×Int×Bool=>r.2.1) k1)
 have hnx:=(prog9.next Sa (by show (qa9 1).length≤70;decide)).2.2 Va z hz
 have F:=qmn (c:=c) (o:=o) (o1:=a) (y:=y) (p:=⟨0,1,2⟩) (z9:=z) (hg0:=qCo) (hat1:=qja) (hce:=hce) (hat4:=qja) (hf1:=hf1) (hf2:=hf2) (hat6:=qja) (hmv:=hmv) (hg1:=qCo) (hal1:=hal1) (hnx:=hnx)
  (t1:=by simp[dl]) (hat2:=qja) (t2:=by simp[yn,yd]) (t3:=by decide) (t4:=by simp[otn,otd]) (hat3:=qja) (t5:=by simp[zn',zd']) (t6:=by simp[zk])
 exact qe2 F
end Go.Proofs.YtkjaanhddkkodaaGreat

namespace Go.Proofs.YtkjaanhddkkodaaGreat
set_option maxRecDepth 100000
open Go.RowKit
section
variable {f:FuncId} {c:Ck} {vs:List Value} {v:Value} {W:World} {u0 u1 u2 u3 u4 u5 u6 u7 uf:Value} {s:List Pt}
theorem qmk (h:Fn f 8 (qam c::vs.map .pv) (qas c) (.pv v) 0 []) (r:ZIns W [u0,u1,u2,u3,u4,u5,u6,u7] (ckR c)) :
 Calls Tryz.prog f (.agg #[iV c.tn,iV c.td,u0,iV c.x,u1,u2,u3,u4,u5,u6,u7]::vs).toArray W fun e W'=>e=.returned v∧Gr W W':=by
 refine (h W _ (.agg #[iV c.tn,iV c.td,u0,iV c.x,u1,u2,u3,u4,u5,u6,u7]::vs) (qj4 r) (qkm r) ⟨qjs r,SV.isl_v vs⟩).mono fun e w' ⟨v',β',he,_,hx,hH,_⟩=>?_
 cases hx
 exact⟨he,hH.gr⟩
theorem qjn (h:Fn f 9 [qam c,qaE 8 s] (qas c++[(8,0,qaj s)]) (.pv v) 0 []) (r:ZIns W [u0,u1,u2,u3,u4,u5,u6,u7] (ckR c)) (rf:Rd W 3 uf s.length (qbd s)) :
 Calls Tryz.prog f #[.agg #[iV c.tn,iV c.td,u0,iV c.x,u1,u2,u3,u4,u5,u6,u7],.agg #[uf]] W fun e W'=>e=.returned v∧Gr W W':=by
 have hI:=qu5 r rf
 refine (h W _ [.agg #[iV c.tn,iV c.td,u0,iV c.x,u1,u2,u3,u4,u5,u6,u7],.agg #[uf]] (qj4 hI) (qkm hI) ⟨qjs r,qwf rf,tI⟩).mono fun e w' ⟨v',β',he,_,hx,hH,_⟩=>?_
 cases hx
 exact⟨he,hH.gr⟩
end
theorem isc {β:Bl} {s:S0} {r:List S0} {us:List Value} (h:S0.isl β (s::r) us):∃ u t,us=u::t∧s.is β u∧S0.isl β r t:=by
 match us,h with
 | u::t,⟨h1,h2⟩=>exact⟨u,t,rfl,h1,h2⟩
theorem isn {β:Bl} {us:List Value} (h:S0.isl β [] us):us=[]:=by
 match us,h with
 | [],_=>rfl
theorem qc8 {k:Nat} {β:Bl} {pre:List (Nat×Nat×SV)} {w:World} {b es n m:Nat} {e:TypeId} {xs:List Value} {v:Value} (H:HRel w k β pre w) (h:qag pre b 0=some (.row e es n xs)) (hi:(S0.ls b m).is β v):Rd w es v n xs:=by
 obtain⟨y,ey,R⟩:=H.rows b 0 e es n xs h
 rw[hi.1] at ey
 cases ey
 exact R.rd
theorem qdH {f:FuncId} {k:Nat} {pre:List (Nat×Nat×SV)} {w:World} {β:Bl} {us:List Value} {v:Value} (H:HRel w k β pre w) (hd:β.dom k) (h:Calls Tryz.prog f us.toArray w fun e w'=>e=.returned v∧Gr w w') :
 Calls Tryz.prog f us.toArray w fun e w'=>∃ (v':Value) (β':Bl),e=.returned v'∧β.le β'∧(SV.pv v).is β' v'∧HRel w (k+0) β' [] w'∧β'.dom (k+0):=
 h.mono fun _ _ ⟨he,hg⟩=>⟨_,β,he,Bl.le_refl _,rfl,(H.gr_mono hg).imp (fun _ _ _ h=>(by cases h)),hd⟩
theorem qum {w:World} {es n n' k nn c c':Nat} {a a':Option Addr} {xs:List Value} (R:Rd w es (.slice a nn c) n xs) (hk:k+n'≤nn) (hc:n'≤c') (h0:0<n') (hp:0<n'→∃ r o,a=some ⟨r,o,none⟩∧a'=some ⟨r,o+k*es,none⟩) :
 Rd w es (.slice a' n' c') n' ((xs.drop (k*es)).take (n'*es)):=by
 obtain⟨r,o,ea,ea'⟩:=hp h0
 subst ea ea'
 obtain⟨hl,a2,c2,he,hnc,hrd⟩:=R
 have e1:=he
 simp only[Value.slice.injEq] at e1
 obtain⟨rfl,rfl,rfl⟩:=e1
 have hm:(k+n')*es≤nn*es:=Nat.mul_le_mul_right es hk
 rw[Nat.add_mul] at hm
 refine⟨by rw[List.length_take,List.length_drop];omega,_,_,rfl,hc,fun j v hj=>⟨r,o+k*es,rfl,?_⟩⟩
 have hj':xs[k*es+j]?=some v:=by
  rw[List.getElem?_take] at hj
  split at hj
  ·rw[List.getElem?_drop] at hj;exact hj
  ·cases hj
 obtain⟨r',o',er,hcell⟩:=hrd _ v hj'
 cases er
 rw[show o+k*es+j=o+(k*es+j) by omega]
 exact hcell
abbrev ptS (x:Int) (l:List Pt) (u:List Int) (b:List Bool) (fr:List Int) (ev:List Ev) (wh:List Int):SV:=.ag [.pv (iV 1),.pv (iV 1),.lq 0 3 1 2,.pv (iV x),.ls 1 l.length,.ls 2 u.length,.ls 3 b.length,.ls 4 fr.length,.ls 5 ev.length,.ls 6 wh.length,.ls 7 1]
abbrev ptC (x:Int) (l:List Pt) (u:List Int) (b:List Bool) (fr:List Int) (ev:List Ev) (wh:List Int) (qa qb:Int):Ck:=⟨1,1,[⟨2,6,-1⟩,⟨5,0,0⟩],x,l,u,b,fr,ev,wh,[⟨0,qa,qb⟩]⟩
abbrev nlS (x:Int) (l:List Pt) (u:List Int) (b:List Bool) (fr:List Int) (ev:List Ev) (wh:List Int):SV:=.ag [.pv (iV 1),.pv (iV 1),.ls 0 3,.pv (iV x),.ls 1 l.length,.ls 2 u.length,.ls 3 b.length,.ls 4 fr.length,.ls 5 ev.length,.ls 6 wh.length,.pv (.slice none 0 0)]
abbrev nlP (l:List Pt) (u:List Int) (b:List Bool) (fr:List Int) (ev:List Ev) (wh:List Int):List (Nat×Nat×SV):=[(0,0,qaj (qa9 0)),(1,0,qal l),(2,0,zrI u),(3,0,zrB b),(4,0,zrI fr),(5,0,qao ev),(6,0,zrI wh)]
abbrev nlC (x:Int) (l:List Pt) (u:List Int) (b:List Bool) (fr:List Int) (ev:List Ev) (wh:List Int):Ck:=⟨1,1,qa9 0,x,l,u,b,fr,ev,wh,[]⟩
theorem qE5 (W:World):Rd W 3 (.slice none 0 0) ([]:List Pt).length (qbd []):=⟨rfl,none,0,rfl,Nat.le_refl _,fun j v hj=>by simp[qbd] at hj⟩
section
variable {f:FuncId} {vs ws:List Value} {v:Value} {x:Int} {l:List Pt} {u fr wh:List Int} {b:List Bool} {ev:List Ev} {qa qb:Int} {s:List Pt} {w:World} {β:Bl} {k:Nat} {r:List (Nat×Nat×SV)}
theorem qjo (H:HRel w k β (nlP l u b fr ev wh++(7,0,qaJ [⟨0,qa,qb⟩])::r) w) (k0:S0.isl β [.pv (iV 1),.pv (iV 1),.lq 0 3 1 2,.pv (iV x),.ls 1 l.length,.ls 2 u.length,.ls 3 b.length,.ls 4 fr.length,.ls 5 ev.length,.ls 6 wh.length,.ls 7 1] ws) :
 ∃ u0 u1 u2 u3 u4 u5 u6 u7,ws=[iV 1,iV 1,u0,iV x,u1,u2,u3,u4,u5,u6,u7]∧ZIns w [u0,u1,u2,u3,u4,u5,u6,u7] (ckR (ptC x l u b fr ev wh qa qb)):=by
 obtain⟨_,_,rfl,rfl,k1⟩:=isc k0
 obtain⟨_,_,rfl,rfl,k2⟩:=isc k1
 obtain⟨_,_,rfl,⟨a,nn,cc,a',c',hg,hle,hc',rfl,hp⟩,k3⟩:=isc k2
 obtain⟨_,_,rfl,rfl,k4⟩:=isc k3
 obtain⟨_,_,rfl,h1,k5⟩:=isc k4
 obtain⟨_,_,rfl,h2,k6⟩:=isc k5
 obtain⟨_,_,rfl,h3,k7⟩:=isc k6
 obtain⟨_,_,rfl,h4,k8⟩:=isc k7
 obtain⟨_,_,rfl,h5,k9⟩:=isc k8
 obtain⟨_,_,rfl,h6,k10⟩:=isc k9
 obtain⟨_,_,rfl,h7,k11⟩:=isc k10
 have ez:=isn k11
 subst ez
 obtain⟨y0,e0,R0⟩:=H.rows 0 0 _ _ _ _ rfl
 rw[hg] at e0
 cases e0
 exact⟨_,_,_,_,_,_,_,_,rfl,.cons (qum R0.rd hle hc' (by decide) hp) (qcL _) (.cons (qc8 H rfl h1) (qcL l) (.cons (qc8 H rfl h2) (qe4 u) (.cons (qc8 H rfl h3) (qsp b) (.cons (qc8 H rfl h4) (qe4 fr) (.cons (qc8 H rfl h5) (qi5 ev) (.cons (qc8 H rfl h6) (qe4 wh) (.cons (qc8 H rfl h7) (qcL _) .nil)))))))⟩
theorem qmL (H:HRel w k β (nlP l u b fr ev wh++r) w) (k0:S0.isl β [.pv (iV 1),.pv (iV 1),.ls 0 3,.pv (iV x),.ls 1 l.length,.ls 2 u.length,.ls 3 b.length,.ls 4 fr.length,.ls 5 ev.length,.ls 6 wh.length,.pv (.slice none 0 0)] ws) :
 ∃ u0 u1 u2 u3 u4 u5 u6 u7,ws=[iV 1,iV 1,u0,iV x,u1,u2,u3,u4,u5,u6,u7]∧ZIns w [u0,u1,u2,u3,u4,u5,u6,u7] (ckR (nlC x l u b fr ev wh)):=by
 obtain⟨_,_,rfl,rfl,k1⟩:=isc k0
 obtain⟨_,_,rfl,rfl,k2⟩:=isc k1
 obtain⟨_,_,rfl,h0,k3⟩:=isc k2
 obtain⟨_,_,rfl,rfl,k4⟩:=isc k3
 obtain⟨_,_,rfl,h1,k5⟩:=isc k4
 obtain⟨_,_,rfl,h2,k6⟩:=isc k5
 obtain⟨_,_,rfl,h3,k7⟩:=isc k6
 obtain⟨_,_,rfl,h4,k8⟩:=isc k7
 obtain⟨_,_,rfl,h5,k9⟩:=isc k8
 obtain⟨_,_,rfl,h6,k10⟩:=isc k9
 obtain⟨_,_,rfl,rfl,k11⟩:=isc k10
 have ez:=isn k11
 subst ez
 exact⟨_,_,_,_,_,_,_,_,rfl,.cons (qc8 H rfl h0) (qcL _) (.cons (qc8 H rfl h1) (qcL l) (.cons (qc8 H rfl h2) (qe4 u) (.cons (qc8 H rfl h3) (qsp b) (.cons (qc8 H rfl h4) (qe4 fr) (.cons (qc8 H rfl h5) (qi5 ev) (.cons (qc8 H rfl h6) (qe4 wh) (.cons (qE5 w) (qcL []) .nil)))))))⟩
theorem qd4 (h:Fn f 8 (qam (ptC x l u b fr ev wh qa qb)::vs.map .pv) (qas (ptC x l u b fr ev wh qa qb)) (.pv v) 0 []) :
 Fn f 8 (ptS x l u b fr ev wh::vs.map .pv) (nlP l u b fr ev wh++[(7,0,qaJ [⟨0,qa,qb⟩])]) (.pv v) 0 []:=by
 intro w β us H hd hi
 match us,hi with
 | p::q,⟨⟨ws,hws,ha⟩,hr⟩=>
 have e:=SV.isl_v_eq hr
 obtain⟨u0,u1,u2,u3,u4,u5,u6,u7,ew,hI⟩:=qjo (r:=[]) H hws
 subst e ew ha
 exact qdH H hd (qmk h hI)
theorem qoL (h:Fn f 9 [qam (ptC x l u b fr ev wh qa qb),qaE 8 s] (qas (ptC x l u b fr ev wh qa qb)++[(8,0,qaj s)]) (.pv v) 0 []) :
 Fn f 9 [ptS x l u b fr ev wh,qaE 8 s] (nlP l u b fr ev wh++[(7,0,qaJ [⟨0,qa,qb⟩]),(8,0,qaj s)]) (.pv v) 0 []:=by
 intro w β us H hd hi
 match us,hi with
 | [p,q],⟨⟨ws,hws,ha⟩,⟨wt,ht,hb⟩,_⟩=>
 obtain⟨u0,u1,u2,u3,u4,u5,u6,u7,ew,hI⟩:=qjo (r:=[(8,0,qaj s)]) H hws
 obtain⟨y,t,et,hy,k1⟩:=isc ht
 have ez:=isn k1
 subst ez et hb ew ha
 have rf:Rd w 3 y s.length (qbd s):=qc8 H rfl hy
 have hc:=qjn h hI rf
 exact qdH (us:=[_,_]) H hd hc
theorem qgb (h:Fn f 8 (qam (nlC x l u b fr ev wh)::vs.map .pv) (qas (nlC x l u b fr ev wh)) (.pv v) 0 []) :
 Fn f 7 (nlS x l u b fr ev wh::vs.map .pv) (nlP l u b fr ev wh) (.pv v) 0 []:=by
 intro w β us H hd hi
 match us,hi with
 | p::q,⟨⟨ws,hws,ha⟩,hr⟩=>
 have e:=SV.isl_v_eq hr
 obtain⟨u0,u1,u2,u3,u4,u5,u6,u7,ew,hI⟩:=qmL (r:=[]) H hws
 subst e ew ha
 exact qdH H hd (qmk h hI)
theorem qs7 (h:Fn f 9 [qam (nlC x l u b fr ev wh),qaE 8 s] (qas (nlC x l u b fr ev wh)++[(8,0,qaj s)]) (.pv v) 0 []) :
 Fn f 8 [nlS x l u b fr ev wh,qaE 7 s] (nlP l u b fr ev wh++[(7,0,qaj s)]) (.pv v) 0 []:=by
 intro w β us H hd hi
 match us,hi with
 | [p,q],⟨⟨ws,hws,ha⟩,⟨wt,ht,hb⟩,_⟩=>
 obtain⟨u0,u1,u2,u3,u4,u5,u6,u7,ew,hI⟩:=qmL (r:=[(7,0,qaj s)]) H hws
 obtain⟨y,t,et,hy,k1⟩:=isc ht
 have ez:=isn k1
 subst ez et hb ew ha
 have rf:Rd w 3 y s.length (qbd s):=qc8 H rfl hy
 have hc:=qjn h hI rf
 exact qdH (us:=[_,_]) H hd hc
end
theorem qzi {c:Ck} (h:c.l.map abP=[P2.mk 1 2,P2.mk 5 1]) (hi:∀ (k:Nat) (p:Pt),c.l[k]?=some p→p.id=(k:Int)):c.l=[⟨0,1,2⟩,⟨1,5,1⟩]:=by
 have hlen:c.l.length=2:=by have:=congrArg List.length h;simpa using this
 match hl:c.l,hlen with
 | [p0,p1],_=>
 rw[hl] at h hi
 have h0:=hi 0 p0 rfl
 have h1:=hi 1 p1 rfl
 simp only[List.map_cons,List.map_nil,List.cons.injEq,P2.mk.injEq,and_true] at h
 obtain⟨⟨a1,b1⟩,a2,b2⟩:=h
 cases p0;cases p1
 simp only at h0 h1 a1 b1 a2 b2
 subst h0 h1 a1 b1 a2 b2
 rfl
theorem qry {c:Ck} (h:c.l.map abP=[P2.mk 1 2,P2.mk 5 1,P2.mk 2 1]) (hi:∀ (k:Nat) (p:Pt),c.l[k]?=some p→p.id=(k:Int)):c.l=[⟨0,1,2⟩,⟨1,5,1⟩,⟨2,2,1⟩]:=by
 obtain⟨p0,p1,p2,hl⟩:=qw0 (l:=c.l) (by have:=congrArg List.length h;simpa using this)
 rw[hl] at h hi ⊢
 have h0:=hi 0 p0 rfl
 have h1:=hi 1 p1 rfl
 have h2:=hi 2 p2 rfl
 simp only[List.map_cons,List.map_nil,List.cons.injEq,P2.mk.injEq,and_true] at h
 obtain⟨⟨a1,b1⟩,⟨a2,b2⟩,a3,b3⟩:=h
 cases p0;cases p1;cases p2
 simp only at h0 h1 h2 a1 b1 a2 b2 a3 b3
 subst h0 h1 h2 a1 b1 a2 b2 a3 b3
 rfl
theorem qjH {c c':Ck} {p:Pt} {r:List Pt} (hl:c.l=p::r) (hl':c'.l=p::r) (hd:c'.d=c.d) (hw:c'.wh=c.wh) (he:c'.ev=c.ev) (V:V9 c) (V':V9 c') (h:(qae c.s c.tn c.td p).2.2=true) (h':(qae c'.s c'.tn c'.td p).2.2=true) :
 (qae c.s c.tn c.td p).1=(qae c'.s c'.tn c'.td p).1:=by
 have F:=V.f
 have F':=V'.f
 rw[hl] at F
 rw[hl'] at F'
 have G:if (qae c.s c.tn c.td p).2.2=true then ∃ q e,c.d=q::e∧(∃ y,DueOk c p q y)∧DueF c r e else DueF c r c.d:=F
 have G':if (qae c'.s c'.tn c'.td p).2.2=true then ∃ q e,c'.d=q::e∧(∃ y,DueOk c' p q y)∧DueF c' r e else DueF c' r c'.d:=F'
 rw[if_pos h] at G
 rw[if_pos h'] at G'
 obtain⟨q,e,ed,⟨y,D⟩,_⟩:=G
 obtain⟨q',e',ed',⟨y',D'⟩,_⟩:=G'
 rw[hd,ed] at ed'
 cases ed'
 obtain⟨j,j1,j2⟩:=D.at_
 obtain⟨j',j3,j4⟩:=D'.at_
 rw[hw,j1] at j3
 have ej:j=j':=by have:=Option.some.inj j3;omega
 subst ej
 rw[he,j2] at j4
 cases j4
 exact D.n.symm.trans D'.n
theorem qsO {c:Ck} (S:S9 c) (hs:c.s.length≤70) (h:¬ V9 c) :
 qsV 16 c 0 0 8∧qv8 17 c 9 8∧Fn 18 8 [qam c] (qas c) (.pv (.tuple #[evZ,iV 8])) 0 []∧quu 19 c 0 0 8∧qsT 20 c 0 1 8∧qm4 21 c qft 8∧Fn 22 8 [qam c] (qas c) (.pv (iV 8)) 0 []:=by
 have i0:I64 0:=qat (by omega) (by omega)
 have i1:I64 1:=qat (by omega) (by omega)
 have e1:cyE c 0 0=8:=by unfold cyE;rw[if_neg fun k=>h k.1]
 have r1:=(prog9.certify S hs 0 0).1 (by rw[e1];decide)
 rw[e1] at r1
 have e2:reE c 9=8:=by unfold reE;rw[if_neg h]
 have r2:=(prog9.retire S hs 9).1 (by rw[e2];decide)
 rw[e2] at r2
 have u0:qde c 0 0=8:=by unfold qde;rw[if_neg fun k=>h k.1]
 have e4:faE c 0 0=8:=by unfold faE;rw[if_neg (by rw[u0];decide),u0]
 have r4:=(prog9.fail S hs i0 i0).1 (by rw[e4];decide)
 rw[e4] at r4
 have u1:qde c 0 1=8:=by unfold qde;rw[if_neg fun k=>h k.1]
 have e5:moE c 0 1=8:=by unfold moE;rw[if_neg (by rw[u1];decide),u1]
 have r5:=(prog9.move S hs i0 i1).1 (by rw[e5];decide)
 rw[e5] at r5
 have e6:qfs c qft=8:=by unfold qfs;rw[if_neg h]
 have r6:=(prog9.alter S hs qft (by decide)).1 (by rw[e6];decide)
 rw[e6] at r6
 have r7:=prog9.check S hs
 rw[qbR h] at r7
 exact⟨r1,r2,(prog9.next S hs).1 h,r4,r5,r6,r7⟩
end Go.Proofs.YtkjaanhddkkodaaGreat
