/-
  Joined: VH, VI. Conditions: none.
-/
import Derived.Test.YtleaeldgaflmkaaGreatW47
import Derived.Test.YtleaeldgaflmkaaGreatW25
namespace Go.Proofs.YtleaeldgaflmkaaGreat
set_option maxRecDepth 100000
open Go.RowKit
def qfE (x y:Nat×Nat):Prop:=x.1<y.1∨(x.1=y.1∧x.2<y.2)
instance (x y:Nat×Nat):Decidable (qfE x y):=by unfold qfE;infer_instance
theorem qkE (n:Nat):(qcb n).Pairwise qfE:=by
 unfold qcb
 rw[List.pairwise_flatMap]
 refine⟨fun a _=>?_,?_⟩
 ·rw[List.pairwise_map]
  exact List.Pairwise.imp (fun h=>Or.inr ⟨rfl,h⟩) List.pairwise_lt_range'
 ·refine List.Pairwise.imp (fun {a b} h x hx y hy=>?_) List.pairwise_lt_range
  obtain⟨_,_,rfl⟩:=List.mem_map.1 hx
  obtain⟨_,_,rfl⟩:=List.mem_map.1 hy
  exact Or.inl h
section
variable {s:List Pt} {n d:Int}
theorem qg5 (h2:2≤s.length):(qaz s n d).1<(qaz s n d).2∧(qaz s n d).2<s.length:=by
 obtain⟨l1,l2,h,_,_⟩:=qcB (ltK_weak (s:=s) (n:=n) (d:=d)) (qcb s.length) (0,1)
 have hm:qaz s n d∈(0,1)::qcb s.length:=by
  rw[h]
  exact List.mem_append_right _ List.mem_cons_self
 rcases List.mem_cons.1 hm with e | hm
 ·rw[e];exact⟨by decide,by show 1<s.length;omega⟩
 ·exact qei.1 hm
theorem qiV {x:Nat×Nat} (hx:x∈qcb s.length):ltK s n d x (qaz s n d)=false∧(qfE x (qaz s n d)→ltK s n d (qaz s n d) x=true):=by
 obtain⟨l1,l2,h,h3,h4⟩:=qcB (ltK_weak (s:=s) (n:=n) (d:=d)) (qcb s.length) (0,1)
 have hb:qaO (ltK s n d) (0,1) (qcb s.length)=qaz s n d:=rfl
 rw[hb] at h h3 h4
 have irr:∀ y,ltK s n d y y=false:=fun y=>by unfold ltK;exact decide_eq_false (by omega)
 have hm:x∈l1++qaz s n d::l2:=by rw[← h];exact List.mem_cons_of_mem _ hx
 rcases List.mem_append.1 hm with k | k
 ·exact⟨ltK_weak.asym _ _ (h3 x k),fun _=>h3 x k⟩
 ·rcases List.mem_cons.1 k with rfl | k
  ·exact⟨irr _,fun q=>by unfold qfE at q;omega⟩
  ·refine⟨h4 x k,fun q=>?_⟩
   exfalso
   cases l1 with
   | nil=>
    obtain⟨e1,e2⟩:=List.cons.inj h
    rw[← e1] at q
    have:=(qei.1 hx).1
    unfold qfE at q
    simp only at q
    omega
   | cons y l1=>
    have e2:qcb s.length=l1++qaz s n d::l2:=(List.cons.inj h).2
    have hp:=qkE s.length
    rw[e2,List.pairwise_append,List.pairwise_cons] at hp
    have:=hp.2.1.1 x k
    unfold qfE at this q
    omega
theorem qiQ {p:Pt} (hp:qcG p=true) (h:AskT n d):∃ N D,okB N D=true∧I64 N∧I64 D∧N*d=plS p n d*D∧Pure Tryz.prog 37 #[qab p.id p.a p.b,qaa n d] (.tuple #[qaa N D,iV 0]):=by
 obtain⟨i1,i2,i3⟩:=h.in
 obtain⟨N,D,E,hr,hc⟩:=qrx i1 i2 hp h.ok
 have g:=qcp hp h
 obtain⟨rfl,f2,f3,f4,f5⟩:=IsRes.fits hr (by omega) i2.2 (by unfold plS at g;omega) (by unfold plS at g;omega)
 exact⟨N,D,f2,f3,f4,f5,hc⟩
theorem qyl (hs:∀ p∈s,qcG p=true) (h:AskT n d) {a b:Nat} (ha:a<s.length) (hb:b<s.length):∃ n1 d1 n2 d2 n3 d3,
 Pure Tryz.prog 37 #[qab (ptK s a).id (ptK s a).a (ptK s a).b,qaa n d] (.tuple #[qaa n1 d1,iV 0])∧Pure Tryz.prog 37 #[qab (ptK s b).id (ptK s b).a (ptK s b).b,qaa n d] (.tuple #[qaa n2 d2,iV 0])∧
 Pure Tryz.prog 38 #[qaa n1 d1,qaa n2 d2] (.tuple #[qaa n3 d3,iV 0])∧-9223372036854775807≤n3∧n3≤9223372036854775807∧DisI s n d (a,b) (if n3<0 then -n3 else n3) d3:=by
 obtain⟨i1,i2,i3⟩:=h.in
 have hp:=hs _ (List.mem_of_getElem? (qaP ha))
 have hq:=hs _ (List.mem_of_getElem? (qaP hb))
 obtain⟨N1,D1,k1,a1,a2,e1,c1⟩:=qiQ hp h
 obtain⟨N2,D2,k2,b1,b2,e2,c2⟩:=qiQ hq h
 have g1:=qcp hp h
 have g2:=qcp hq h
 have d1:=qav k1
 have d2:=qav k2
 have c3:=qi1 a1 a2 b1 b2 k1 k2
 have hr:=qgF k1 (qcI b1.2 k2)
 have hd0:D1*D2≠0:=Int.mul_ne_zero (by omega) (by omega)
 have hm:=qfk (a:=plS (ptK s a) n d-plS (ptK s b) n d) (b:=d) (by omega)
 have ex:(N1*D2 + -N2*D1)*d=(plS (ptK s a) n d-plS (ptK s b) n d)*(D1*D2):=by
  have t1:N1*D2*d=plS (ptK s a) n d*(D1*D2):=by rw[Int.mul_right_comm,e1,Int.mul_assoc]
  have t2:N2*D1*d=plS (ptK s b) n d*(D1*D2):=by rw[Int.mul_right_comm,e2,Int.mul_assoc,Int.mul_comm D2]
  rw[Int.add_mul,Int.sub_mul,t1,Int.neg_mul,Int.neg_mul,t2]
  omega
 have hu:=IsRes.uniqR hr hm hd0 (by omega) ex
 obtain⟨f1,f2,f3,f4,f5⟩:=IsRes.fits hm (by omega) i2.2 (by omega) (by omega)
 obtain⟨u1,u2,u3⟩:=hu
 rw[u1,u2,u3,f1] at c3
 have hD:=qav f2
 have hN:=qbm f2
 obtain⟨x1,x2⟩:=f3
 have sgn:mkN (plS (ptK s a) n d-plS (ptK s b) n d) d<0↔plS (ptK s a) n d-plS (ptK s b) n d<0:=by
  constructor
  ·intro hn
   apply Classical.byContradiction
   intro hc
   have:0≤(plS (ptK s a) n d-plS (ptK s b) n d)*mkD (plS (ptK s a) n d-plS (ptK s b) n d) d:=Int.mul_nonneg (by omega) (by omega)
   have h2:mkN (plS (ptK s a) n d-plS (ptK s b) n d) d*d<0:=Int.mul_neg_of_neg_of_pos hn (by omega)
   omega
  ·intro hc
   apply Classical.byContradiction
   intro hn
   have h1:(plS (ptK s a) n d-plS (ptK s b) n d)*mkD (plS (ptK s a) n d-plS (ptK s b) n d) d<0:=Int.mul_neg_of_neg_of_pos hc (by omega)
   have h2:0≤mkN (plS (ptK s a) n d-plS (ptK s b) n d) d*d:=Int.mul_nonneg (by omega) (by omega)
   omega
 refine⟨N1,D1,N2,D2,_,_,c1,c2,c3,by omega,by omega,⟨?_,?_,f4,?_⟩⟩
 ·split
  ·exact qcI x2 f2
  ·exact f2
 ·split
  ·exact⟨by omega,by omega⟩
  ·exact⟨x1,x2⟩
 ·show _*d=qq4 (ptK s a) (ptK s b) n d*_
  unfold qq4
  split
  ·next hn=>rw[if_pos (sgn.1 hn),Int.neg_mul,Int.neg_mul,f5]
  ·next hn=>rw[if_neg fun q=>hn (sgn.2 q)];exact f5
end
abbrev leT (s:List Pt) (w:Bool) (i:Nat):List (Nat×SV):=[(1,.pp 1 0),(7,.pp 7 0),(9,.pv (iV (s.length:Int))),(16,.pv (.bool w)),(17,.pv (iV (i:Int)))]
abbrev leJ (s:List Pt) (w:Bool) (i j:Nat):List (Nat×SV):=[(1,.pp 1 0),(7,.pp 7 0),(9,.pv (iV (s.length:Int))),(16,.pv (.bool w)),(17,.pv (iV (i:Int))),(18,.pv (iV (j:Int)))]
abbrev leH (s:List Pt) (tn td:Int) (rb:Rep):List (Nat×Nat×SV):=[(1,0,.pv (iV tn)),(1,1,.pv (iV td)),(1,2,.ls 0 s.length),(7,0,.pv (iV rb.e)),(7,1,.pv (iV rb.id)),(7,2,.pv (iV rb.ot)),(7,3,.pv (iV rb.n)),(7,4,.pv (iV rb.d)),(0,0,qad s)]
section
variable {s:List Pt} {n d:Int} {rb:Rep}
theorem qm1 (hv:Val s) (h:AskT n d) (hB:DisI s n d (qaz s n d) rb.n rb.d) (hi:rb.id=(ptK s (qaz s n d).1).id) (ho:rb.ot=(ptK s (qaz s n d).2).id) (hk:Pure Tryz.prog 39 #[qaa rb.n rb.d] (iV 0)) {a:Nat} (ha:a<s.length):∀ (c b:Nat),b+c=s.length→a<b→
 Rl 1 1 9 1 231 10 (leJ s (decide (qfE (qaz s n d) (a,b))) a b) (leH s n d rb) (.exit 2) (leT s (decide (qfE (qaz s n d) (a,s.length))) a) (leH s n d rb)
 | 0,b,hb,hab=>by
  have e:b=s.length:=by omega
  subst e
  exact qlx (hlt:=df (by omega))
 | c+1,b,hb,hab=>by
  have hbl:b<s.length:=by omega
  have hl:=hv.len
  have ih:=qm1 hv h hB hi ho hk ha c (b+1) (by omega) (by omega)
  obtain⟨_,_,d1⟩:=h.in
  obtain⟨n1,d1',n2,d2',n3,d3,c1,c2,c3,r1,r2,hD⟩:=qyl hv.ok h ha hbl
  have hx:(a,b)∈qcb s.length:=qei.2 ⟨hab,hbl⟩
  obtain⟨f1,f2⟩:=qiV (s:=s) (n:=n) (d:=d) hx
  have q1:=hD.less d1 hB
  have q2:=hB.less d1 hD
  generalize hN:(if n3<0 then -n3 else n3)=N at hD q1 q2
  have cc:=qbd hB.num hB.den hD.num hD.den
  generalize hS:(rb.n*d3-N*rb.d).sign=S at cc q2
  have qs:(N*rb.d-rb.n*d3).sign = -S:=by rw[← hS,← Int.sign_neg];congr 1;omega
  rw[qs,f1] at q1
  have hS1:¬ S>0:=fun q=>by have:=q1.1 (by omega);cases this
  have inA:0≤(a:Int)∧(a:Int)<(s.length:Int):=⟨by omega,by omega⟩
  have inB:0≤(b:Int)∧(b:Int)<(s.length:Int):=⟨by omega,by omega⟩
  by_cases hf:qfE (qaz s n d) (a,b)
  ·have hf2:qfE (qaz s n d) (a,b+1):=by unfold qfE at hf ⊢;simp only at hf ⊢;omega
   rw[decide_eq_true hf2] at ih
   rw[decide_eq_true hf]
   by_cases hn:n3<0
   ·rw[if_pos hn] at hN
    exact qvI (hlt:=dt (by omega)) (in1:=inA) (hk1:=qaP ha) (ca:=c1) (in2:=inB) (hk2:=qaP hbl) (cb:=c2) (cs:=c3) (ck:=hk) (hn:=dt hn) (hv:=by rw[qag (by omega) (by omega),Int.zero_sub,hN]) (cc:=cc) (hc:=df hS1) (hs:=qan (by omega)) ih
   ·rw[if_neg hn] at hN
    subst hN
    exact qwu (hlt:=dt (by omega)) (in1:=inA) (hk1:=qaP ha) (ca:=c1) (in2:=inB) (hk2:=qaP hbl) (cb:=c2) (cs:=c3) (ck:=hk) (hn:=df hn) (cc:=cc) (hc:=df hS1) (hs:=qan (by omega)) ih
  ·rw[decide_eq_false hf]
   by_cases hx2:(a,b)=qaz s n d
   ·have hf2:qfE (qaz s n d) (a,b+1):=by rw[← hx2];exact Or.inr ⟨rfl,Nat.lt_succ_self b⟩
    rw[decide_eq_true hf2] at ih
    rw[← hx2] at hB hi ho
    obtain⟨u1,u2⟩:=DisI.uniq d1 hD hB
    have hS0:S=0:=by rw[← hS,u1,u2,Int.sub_self];rfl
    by_cases hn:n3<0
    ·rw[if_pos hn] at hN
     exact qwt (hlt:=dt (by omega)) (in1:=inA) (hk1:=qaP ha) (ca:=c1) (in2:=inB) (hk2:=qaP hbl) (cb:=c2) (cs:=c3) (ck:=hk) (hn:=dt hn) (hv:=by rw[qag (by omega) (by omega),Int.zero_sub,hN]) (cc:=cc) (hc:=df hS1) (h0:=by simp[hS0]) (hi1:=by simp[hi]) (hi2:=by simp[ho]) (hs:=qan (by omega)) ih
    ·rw[if_neg hn] at hN
     subst hN
     exact qvS (hlt:=dt (by omega)) (in1:=inA) (hk1:=qaP ha) (ca:=c1) (in2:=inB) (hk2:=qaP hbl) (cb:=c2) (cs:=c3) (ck:=hk) (hn:=df hn) (cc:=cc) (hc:=df hS1) (h0:=by simp[hS0]) (hi1:=by simp[hi]) (hi2:=by simp[ho]) (hs:=qan (by omega)) ih
   ·have hlx:qfE (a,b) (qaz s n d):=by
     unfold qfE at hf ⊢
     simp only at hf ⊢
     have:¬ (a=(qaz s n d).1∧b=(qaz s n d).2):=fun ⟨e1,e2⟩=>hx2 (Prod.ext e1 e2)
     omega
    have hf2:¬ qfE (qaz s n d) (a,b+1):=by unfold qfE at hlx ⊢;simp only at hlx ⊢;omega
    rw[decide_eq_false hf2] at ih
    have hS2:=q2.2 (f2 hlx)
    have hS0:(S==0)=false:=by simp;omega
    by_cases hn:n3<0
    ·rw[if_pos hn] at hN
     exact qwo (hlt:=dt (by omega)) (in1:=inA) (hk1:=qaP ha) (ca:=c1) (in2:=inB) (hk2:=qaP hbl) (cb:=c2) (cs:=c3) (ck:=hk) (hn:=dt hn) (hv:=by rw[qag (by omega) (by omega),Int.zero_sub,hN]) (cc:=cc) (hc:=df hS1) (h0:=hS0) (hs:=qan (by omega)) ih
    ·rw[if_neg hn] at hN
     subst hN
     exact qwB (hlt:=dt (by omega)) (in1:=inA) (hk1:=qaP ha) (ca:=c1) (in2:=inB) (hk2:=qaP hbl) (cb:=c2) (cs:=c3) (ck:=hk) (hn:=df hn) (cc:=cc) (hc:=df hS1) (h0:=hS0) (hs:=qan (by omega)) ih
theorem qja (hv:Val s) (h:AskT n d) (h2:2≤s.length) (hB:DisI s n d (qaz s n d) rb.n rb.d) (hi:rb.id=(ptK s (qaz s n d).1).id) (ho:rb.ot=(ptK s (qaz s n d).2).id) (hk:Pure Tryz.prog 39 #[qaa rb.n rb.d] (iV 0)):∀ (c a:Nat),a+c=s.length→
 Rl 1 1 9 0 231 10 (leT s (decide ((qaz s n d).1<a)) a) (leH s n d rb) (.exit 0) [(16,.pv (.bool true))] (leH s n d rb)
 | 0,a,ha=>by
  have e:a=s.length:=by omega
  subst e
  obtain⟨m1,m2⟩:=qg5 (n:=n) (d:=d) h2
  rw[decide_eq_true (show (qaz s n d).1<s.length by omega)]
  exact qmw (hlt:=df (by omega))
 | c+1,a,ha=>by
  have hal:a<s.length:=by omega
  have hl:=hv.len
  obtain⟨m1,m2⟩:=qg5 (n:=n) (d:=d) h2
  have ih:=qja hv h h2 hB hi ho hk c (a+1) (by omega)
  have r0:=qm1 hv h hB hi ho hk hal (s.length-(a+1)) (a+1) (by omega) (by omega)
  rw[show decide (qfE (qaz s n d) (a,a+1))=decide ((qaz s n d).1<a) from decide_eq_decide.2 (by unfold qfE;simp only;omega),show decide (qfE (qaz s n d) (a,s.length))=decide ((qaz s n d).1<a+1) from decide_eq_decide.2 (by unfold qfE;simp only;omega)] at r0
  exact qjK (hlt:=dt (by omega)) (ha:=qan (by omega)) (r0:=r0) (hb:=qan (by omega)) ih
end
end Go.Proofs.YtleaeldgaflmkaaGreat

namespace Go.Proofs.YtleaeldgaflmkaaGreat
set_option maxRecDepth 100000
open Go.RowKit
section
variable {s:List Pt} {n d:Int}
theorem qtV (hn:I64 n) (hd:I64 d):(Fn 32 1 [moS 0 s n d] [(0,0,qad s)] (.pv (.bool false)) 0 [])∨(Val s∧AskT n d∧Fn 32 1 [moS 0 s n d] [(0,0,qad s)] (.pv (.bool true)) 0 []):=by
 obtain⟨_,c2⟩:=qgD (s:=s) hn hd
 rcases qsN s with hg | ⟨_,hg⟩
 ·exact Or.inl (qzM (hg:=hg))
 ·by_cases h:qlj s n d=0
  ·obtain⟨hv,ht⟩:=(qjY hn hd).1 h
   exact Or.inr ⟨hv,ht,qz2 (hg:=hg) (hc:=c2) (he:=by simp[h])⟩
  ·exact Or.inl (qzn (hg:=hg) (hc:=c2) (he:=by simp[h]))
theorem qq9 {a:AskQ} (hv:Val s) (ht:AskT n d) (ha:qtz a):∃ r n' d' s',Outc s n d a r n' d' s'∧qz4 12 s n d a r n' d' s' 0:=by
 obtain⟨i1,i2,_⟩:=ht.in
 obtain⟨r,n',d',s',e,hr,q1,_⟩:=qtT (s:=s) i1 i2 ha
 have hc:=(qjY (s:=s) i1 i2).2 ⟨hv,ht⟩
 rcases hr with ⟨_,o,rfl⟩ | ⟨h,_⟩
 ·exact⟨r,n',d',s',o,q1⟩
 ·exact (h hc).elim
theorem ql8 (hn:I64 n) (hd:I64 d):Fn 9 1 [moS 0 s n d] [(0,0,qad s)] (.pv (.bool true)) 0 []:=by
 rcases qtV (s:=s) hn hd with hf | ⟨hv,ht,hf⟩
 ·exact qyA (hf:=hf) (hal:=qgr)
 obtain⟨ra,_,_,_,o1,D1⟩:=qq9 (a:=⟨5,0,0,0,0,0,0⟩) hv ht (by unfold qtz;decide)
 obtain⟨e1,e2,e3⟩:=o1.keep (Or.inl rfl)
 rw[e1,e2,e3] at D1
 obtain⟨rb,_,_,_,o2,D2⟩:=qq9 (a:=⟨6,0,0,0,0,0,0⟩) hv ht (by unfold qtz;decide)
 obtain⟨e4,e5,e6⟩:=o2.keep (Or.inr rfl)
 rw[e4,e5,e6] at D2
 have hl:=hv.len
 have tm:Tm n d:=⟨hn,hd,ht.ok⟩
 rcases o1.k5 rfl rfl with ⟨h0,h1⟩ | ⟨h0,N,D,h1,k1,k2,k3,k4⟩
 ·subst h0
  rcases o2.k6 rfl rfl with ⟨_,h2⟩ | ⟨h2,_⟩
  ·exact qzw (hf:=hf) (hd1:=D1) (hd2:=D2) (h0:=by simp[h1]) (h1:=by decide) (h2:=by simp[h2]) (h3:=by decide) (h4:=by decide) (hal:=qgr)
  ·exact absurd h2 (by decide)
 ·have hpos:0<s.length:=List.length_pos_iff.2 h0
  have hm:=qiR hv n d h0
  obtain⟨k,hk⟩:=List.getElem?_of_mem hm
  have c1:=qaR s
  rw[qbI.2 hv] at c1
  have F1:=qha hk (qaB (qax hk)) c1 (qcZ hv hk rfl)
  obtain⟨N',D',g1,g2,g3,g4,g5⟩:=qiQ (hv.ok _ hm) ht
  have hmk:=qfk (a:=plS (ldr s n d) n d) (b:=d) (by have:=qav ht.ok;omega)
  obtain⟨a1,a2,_⟩:=hmk.one (by have:=qav ht.ok;omega) k1 k2 k3 k4
  obtain⟨b1,b2,_⟩:=hmk.one (by have:=qav ht.ok;omega) g1 g2 g3 g4
  obtain rfl:=a1.symm.trans b1
  obtain rfl:=a2.symm.trans b2
  subst h1
  rcases o2.k6 rfl rfl with ⟨h3,h2⟩ | ⟨h3,N2,D2',h2,hB⟩
  ·refine qzv (hf:=hf) (hd1:=D1) (hd2:=D2) (h0:=by simp) (h1:=dt (by omega)) (h2:=by simp[h2]) (h3:=df (by omega)) (h4:=by simp;omega) (hl:=qeb hv tm h0) (hfi:=F1) (ca:=g5) (hid:=by simp) (h5:=dt (by omega)) (hal:=qgr)
    (r0:=?_)
   have e9:s.length=1:=by omega
   exact qjK (hlt:=dt (by omega)) (ha:=qan (by decide)) (r0:=qlx (hlt:=df (by omega))) (hb:=qan (by decide)) (qmw (hlt:=df (by omega)))
  ·subst h2
   have hk2:Pure Tryz.prog 39 #[qaa N2 D2'] (iV 0):=qhl hB.num hB.den hB.ok
   have r0:=qja (rb:=⟨0,(ptK s (qaz s n d).1).id,(ptK s (qaz s n d).2).id,N2,D2',[]⟩) hv ht h3 hB rfl rfl hk2 s.length 0 (by omega)
   rw[show decide ((qaz s n d).1<0)=false from decide_eq_false (by omega)] at r0
   exact qzk (hf:=hf) (hd1:=D1) (hd2:=D2) (h0:=by simp) (h1:=dt (by omega)) (h2:=by simp) (h3:=dt (by omega)) (h4:=by simp;omega) (hl:=qeb hv tm h0) (hfi:=F1) (ca:=g5) (hid:=by simp) (h5:=df (by omega)) (hal:=qgr) (r0:=r0)
theorem qg8 (n d:Int) (s:List Pt) (hn:I64 n) (hd:I64 d):Fn 9 1 [moS 0 s n d] [(0,0,qad s)] (.pv (.bool true)) 0 []:=ql8 hn hd
theorem qAB {W:World} {f:FuncId} {u:Value} {vs:List Value} (h:Fn f 1 (moS 0 s n d::vs.map .pv) [(0,0,qad s)] (.pv (.bool true)) 0 []) (hs:Rd W 3 u s.length (qa1 s)) :
 Calls Tryz.prog f (.agg #[iV n,iV d,u]::vs).toArray W fun e W'=>e=.returned (.bool true)∧Gr W W':=
 qqA (rs:=[(34,3,s.length,qa1 s)]) (us:=[u]) h (.cons hs (qgq s) .nil) ⟨⟨[iV n,iV d,u],⟨rfl,rfl,⟨rfl,hs.zsl⟩,tI⟩,rfl⟩,SV.isl_v vs⟩
end
end Go.Proofs.YtleaeldgaflmkaaGreat
