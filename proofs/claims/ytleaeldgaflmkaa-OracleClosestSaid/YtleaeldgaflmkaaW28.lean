/-
  Joined: Vd, Ve, Vf0, Vf, Vn. Conditions: none.
-/
import Derived.Test.YtleaeldgaflmkaaW27
import Derived.Test.YtleaeldgaflmkaaW26
import Derived.Test.YtleaeldgaflmkaaW25
import Derived.Test.YtleaeldgaflmkaaSxQ
import Derived.Test.YtleaeldgaflmkaaF
namespace Go.Proofs.Ytleaeldgaflmkaa
set_option maxRecDepth 100000
open Go.RowKit
structure AskT (n d:Int):Prop where
 ok:okB n d=true
 lo : -1073741824≤n
 hi:n≤1073741824
 den:d≤1024
section
variable {n d:Int} {p q:Pt}
theorem AskT.in (h:AskT n d):I64 n∧I64 d∧1≤d:=by
 have h1:=qaz h.ok
 have h2:=h.lo
 have h3:=h.hi
 have h4:=h.den
 exact⟨⟨by omega,by omega⟩,⟨by omega,by omega⟩,h1⟩
def plS (p:Pt) (n d:Int):Int:=p.a*d+p.b*n
theorem qcN (hp:qcF p=true) (h:AskT n d) : -1125900000000000-1073741824≤plS p n d∧plS p n d≤1125900000000000+1073741824:=by
 have h':=qcd.1 hp
 have h1:=qaz h.ok
 have h2:=h.lo
 have h3:=h.hi
 have h4:=h.den
 obtain⟨_,_,a1,a2,b1,b2⟩:=h'
 have m1:=qlW (a:=p.a) (x:=d) (A:=1048576) (X:=1024) (by omega) a2 (by omega) (by omega) (by decide) (by decide)
 have m2:=qlW (a:=p.b) (x:=n) (A:=1048576) (X:=1073741824) (by omega) b2 (by omega) (by omega) (by decide) (by decide)
 unfold plS
 omega
theorem qkt (hp:qcF p=true) (h:AskT n d):∃ N D,okB N D=true∧I64 N∧I64 D∧N*d=plS p n d*D∧Pure Try.prog 32 #[qae p.id p.a p.b,qaa n d] (qaa N D):=by
 obtain⟨i1,i2,i3⟩:=h.in
 obtain⟨N,D,E,hr,hc⟩:=qlv i1 i2 hp h.ok
 have g:=qcN hp h
 obtain⟨_,f2,f3,f4,f5⟩:=IsRes.fits hr (by omega) i2.2 (by unfold plS at g;omega) (by unfold plS at g;omega)
 exact⟨N,D,f2,f3,f4,f5,vpl (c1:=hc)⟩
def ql2 (p q:Pt) (n d:Int):Int:=if plS p n d-plS q n d<0 then -(plS p n d-plS q n d) else plS p n d-plS q n d
theorem qnA (hp:qcF p=true) (hq:qcF q=true) (h:AskT n d):∃ N D,okB N D=true∧I64 N∧I64 D∧N*d=ql2 p q n d*D∧Pure Try.prog 21 #[qae p.id p.a p.b,qae q.id q.a q.b,qaa n d] (qaa N D):=by
 obtain⟨i1,i2,i3⟩:=h.in
 obtain⟨N1,D1,k1,a1,a2,e1,c1⟩:=qkt hp h
 obtain⟨N2,D2,k2,b1,b2,e2,c2⟩:=qkt hq h
 have g1:=qcN hp h
 have g2:=qcN hq h
 have d1:=qaz k1
 have d2:=qaz k2
 have c3:=qj7 a1 a2 b1 b2 k1 k2
 have hr:=qfR k1 (qcR b1.2 k2)
 have hd0:D1*D2≠0:=Int.mul_ne_zero (by omega) (by omega)
 have hm:=qga (a:=plS p n d-plS q n d) (b:=d) (by omega)
 have ex:(N1*D2 + -N2*D1)*d=(plS p n d-plS q n d)*(D1*D2):=by
  have t1:N1*D2*d=plS p n d*(D1*D2):=by rw[Int.mul_right_comm,e1,Int.mul_assoc]
  have t2:N2*D1*d=plS q n d*(D1*D2):=by rw[Int.mul_right_comm,e2,Int.mul_assoc,Int.mul_comm D2]
  rw[Int.add_mul,Int.sub_mul,t1,Int.neg_mul,Int.neg_mul,t2]
  omega
 have hu:=IsRes.uniqR hr hm hd0 (by omega) ex
 obtain⟨f1,f2,f3,f4,f5⟩:=IsRes.fits hm (by omega) i2.2 (by omega) (by omega)
 obtain⟨u1,u2,u3⟩:=hu
 rw[u1,u2,u3,f1] at c3
 by_cases hn:mkN (plS p n d-plS q n d) d<0
 ·have hneg:plS p n d-plS q n d<0:=by
   have hD:=qaz f2
   apply Classical.byContradiction
   intro hc
   have:0≤(plS p n d-plS q n d)*mkD (plS p n d-plS q n d) d:=Int.mul_nonneg (by omega) (by omega)
   have h2:mkN (plS p n d-plS q n d) d*d<0:=Int.mul_neg_of_neg_of_pos hn (by omega)
   omega
  refine⟨-mkN (plS p n d-plS q n d) d,mkD (plS p n d-plS q n d) d,qcR f3.2 f2,?_,f4,?_,qm9 (c1:=c1) (c2:=c2) (c3:=c3) (h0:=dt hn) (hn:=?_)⟩
  ·have:=qaY f2
   obtain⟨x1,x2⟩:=f3
   exact⟨by omega,by omega⟩
  ·unfold ql2
   rw[if_pos hneg,Int.neg_mul,Int.neg_mul,f5]
  ·have:=qaY f2
   obtain⟨x1,x2⟩:=f3
   rw[qao (by omega) (by omega),Int.zero_sub]
 ·have hneg:¬ plS p n d-plS q n d<0:=fun hc=>by
   have hD:=qaz f2
   have h1:(plS p n d-plS q n d)*mkD (plS p n d-plS q n d) d<0:=Int.mul_neg_of_neg_of_pos hc (by omega)
   have h2:0≤mkN (plS p n d-plS q n d) d*d:=Int.mul_nonneg (by omega) (by omega)
   omega
  refine⟨mkN (plS p n d-plS q n d) d,mkD (plS p n d-plS q n d) d,f2,f3,f4,?_,qnM (c1:=c1) (c2:=c2) (c3:=c3) (h0:=df hn)⟩
  unfold ql2
  rw[if_neg hneg]
  exact f5
end
end Go.Proofs.Ytleaeldgaflmkaa

namespace Go.Proofs.Ytleaeldgaflmkaa
set_option maxRecDepth 100000
open Go.RowKit
def ptK (s:List Pt) (k:Nat):Pt:=s.getD k ⟨0,0,0⟩
theorem qbi {s:List Pt} {k:Nat} (h:k<s.length):s[k]?=some (ptK s k):=by unfold ptK;rw[List.getD_eq_getElem?_getD,List.getElem?_eq_getElem h];rfl
section
variable {s:List Pt} {n d:Int}
def qlX (s:List Pt) (n d:Int) (x:Nat×Nat):Int:=ql2 (ptK s x.1) (ptK s x.2) n d
def ltK (s:List Pt) (n d:Int) (x y:Nat×Nat):Bool:=decide (qlX s n d x<qlX s n d y)
structure DisI (s:List Pt) (n d:Int) (x:Nat×Nat) (N D:Int):Prop where
 ok:okB N D=true
 num:I64 N
 den:I64 D
 eq:N*d=qlX s n d x*D
theorem DisI.less {x y:Nat×Nat} {N D N' D':Int} (hd:1≤d) (h:DisI s n d x N D) (k:DisI s n d y N' D'):(N*D'-N'*D).sign<0↔ltK s n d x y=true:=by
 have d1:=qaz h.ok
 have d2:=qaz k.ok
 have hp:0<D*D':=Int.mul_pos (by omega) (by omega)
 have e1:N*D'*d=qlX s n d x*(D*D'):=by rw[Int.mul_right_comm,h.eq,Int.mul_assoc]
 have e2:N'*D*d=qlX s n d y*(D*D'):=by rw[Int.mul_right_comm,k.eq,Int.mul_assoc,Int.mul_comm D']
 unfold ltK
 rw[decide_eq_true_eq]
 have hs:(N*D'-N'*D).sign<0↔N*D'<N'*D:=by
  rw[Int.sign_neg_iff]
  omega
 rw[hs]
 constructor
 ·intro q
  have:=Int.mul_lt_mul_of_pos_right q (show 0<d by omega)
  rw[e1,e2] at this
  exact Int.lt_of_mul_lt_mul_right this (Int.le_of_lt hp)
 ·intro q
  have:=Int.mul_lt_mul_of_pos_right q hp
  rw[← e1,← e2] at this
  exact Int.lt_of_mul_lt_mul_right this (by omega)
abbrev paT (i j a:Nat):List (Nat×SV):=[(2,.pp 1 0),(3,.pp 2 0),(4,.pv (iV 0)),(5,.pv (iV 0)),(6,.pp 3 0),(7,.pv (iV (i:Int))),(8,.pv (iV (j:Int))),(9,.pp 4 0),(10,.pv (iV (a:Int)))]
abbrev paI (i j a b:Nat):List (Nat×SV):=[(2,.pp 1 0),(3,.pp 2 0),(4,.pv (iV 0)),(5,.pv (iV 0)),(6,.pp 3 0),(7,.pv (iV (i:Int))),(8,.pv (iV (j:Int))),(9,.pp 4 0),(10,.pv (iV (a:Int))),(11,.pv (iV (b:Int)))]
abbrev paE (i j:Nat):List (Nat×SV):=[(2,.pp 1 0),(3,.pp 2 0),(4,.pv (iV 0)),(5,.pv (iV 0)),(6,.pp 3 0),(7,.pv (iV (i:Int))),(8,.pv (iV (j:Int))),(9,.pp 4 0)]
abbrev paH (s:List Pt) (n d N D:Int):List (Nat×Nat×SV):=[(1,0,.ls 0 s.length),(2,0,.pv (iV n)),(2,1,.pv (iV d)),(3,0,.pv (iV 0)),(3,1,.pv (iV 0)),(4,0,.pv (iV N)),(4,1,.pv (iV D)),(0,0,qap s)]
theorem qmF (hs:∀ p∈s,qcF p=true) (h:AskT n d) {a b:Nat} (ha:a<s.length) (hb:b<s.length):∃ N D,DisI s n d (a,b) N D∧Pure Try.prog 21 #[qae (ptK s a).id (ptK s a).a (ptK s a).b,qae (ptK s b).id (ptK s b).a (ptK s b).b,qaa n d] (qaa N D):=by
 obtain⟨N,D,h1,h2,h3,h4,h5⟩:=qnA (hs _ (List.mem_of_getElem? (qbi ha))) (hs _ (List.mem_of_getElem? (qbi hb))) h
 exact⟨N,D,⟨h1,h2,h3,h4⟩,h5⟩
theorem qfo (hs:∀ p∈s,qcF p=true) (h:AskT n d) (hl:s.length≤999999) {a:Nat} (ha:a<s.length):∀ (c b:Nat) (cur:Nat×Nat) (N D:Int),b+c=s.length→cur.1<s.length∧cur.2<s.length→DisI s n d cur N D→
 ∃ N' D',DisI s n d (qau (ltK s n d) cur ((List.range' b c).map fun b=>(a,b))) N' D'∧((qau (ltK s n d) cur ((List.range' b c).map fun b=>(a,b))).1<s.length∧(qau (ltK s n d) cur ((List.range' b c).map fun b=>(a,b))).2<s.length)∧
  Rl 1 1 13 1 71 5 (paI cur.1 cur.2 a b) (paH s n d N D) (.exit 2) (paT (qau (ltK s n d) cur ((List.range' b c).map fun b=>(a,b))).1 (qau (ltK s n d) cur ((List.range' b c).map fun b=>(a,b))).2 a) (paH s n d N' D')
 | 0,b,cur,N,D,hb,hc,hi=>⟨N,D,hi,hc,qja (hlt:=df (by omega))⟩
 | c+1,b,cur,N,D,hb,hc,hi=>by
  have hbl:b<s.length:=by omega
  obtain⟨_,_,d1⟩:=h.in
  obtain⟨N1,D1,i1,cd⟩:=qmF hs h ha hbl
  have cc:=qe8 i1.num i1.den hi.num hi.den
  have hl1:=i1.less d1 hi
  have e:qau (ltK s n d) cur ((List.range' b (c+1)).map fun b=>(a,b))=qau (ltK s n d) (if ltK s n d (a,b) cur then (a,b) else cur) ((List.range' (b+1) c).map fun b=>(a,b)):=rfl
  rw[e]
  by_cases hw:ltK s n d (a,b) cur=true
  ·rw[if_pos hw]
   obtain⟨N2,D2,j1,j2,r⟩:=qfo hs h hl ha c (b+1) (a,b) N1 D1 (by omega) ⟨ha,hbl⟩ i1
   exact⟨N2,D2,j1,j2,qju (hlt:=dt (by omega)) (ia:=⟨by omega,by omega⟩) (ib:=⟨by omega,by omega⟩) (hp:=qbi ha) (hq:=qbi hbl) (cd:=cd) (cc:=cc) (hc:=dt (hl1.2 hw)) (hs:=qa1 (by omega)) r⟩
  ·rw[if_neg hw]
   obtain⟨N2,D2,j1,j2,r⟩:=qfo hs h hl ha c (b+1) cur N D (by omega) hc hi
   exact⟨N2,D2,j1,j2,qj9 (hlt:=dt (by omega)) (ia:=⟨by omega,by omega⟩) (ib:=⟨by omega,by omega⟩) (hp:=qbi ha) (hq:=qbi hbl) (cd:=cd) (cc:=cc) (hc:=df fun q=>hw (hl1.1 q)) (hs:=qa1 (by omega)) r⟩
def qbb (n a c:Nat):List (Nat×Nat):=(List.range' a c).flatMap fun a=>(List.range' (a+1) (n-(a+1))).map fun b=>(a,b)
theorem qdO (n:Nat):qbb n 0 n=qhW n:=by unfold qbb qhW;rw[List.range_eq_range']
theorem qgk (hs:∀ p∈s,qcF p=true) (h:AskT n d) (hl:s.length≤999999):∀ (c a:Nat) (cur:Nat×Nat) (N D:Int),a+c=s.length→cur.1<s.length∧cur.2<s.length→DisI s n d cur N D→
 ∃ N' D',DisI s n d (qau (ltK s n d) cur (qbb s.length a c)) N' D'∧((qau (ltK s n d) cur (qbb s.length a c)).1<s.length∧(qau (ltK s n d) cur (qbb s.length a c)).2<s.length)∧
  Rl 1 1 13 0 71 5 (paT cur.1 cur.2 a) (paH s n d N D) (.exit 0) (paE (qau (ltK s n d) cur (qbb s.length a c)).1 (qau (ltK s n d) cur (qbb s.length a c)).2) (paH s n d N' D')
 | 0,a,cur,N,D,ha,hc,hi=>⟨N,D,hi,hc,qk6 (hlt:=df (by omega))⟩
 | c+1,a,cur,N,D,ha,hc,hi=>by
  have hal:a<s.length:=by omega
  obtain⟨N1,D1,i1,i2,r1⟩:=qfo hs h hl hal (s.length-(a+1)) (a+1) cur N D (by omega) hc hi
  obtain⟨N2,D2,j1,j2,r2⟩:=qgk hs h hl c (a+1) _ N1 D1 (by omega) i2 i1
  have e:qau (ltK s n d) cur (qbb s.length a (c+1))=qau (ltK s n d) (qau (ltK s n d) cur ((List.range' (a+1) (s.length-(a+1))).map fun b=>(a,b))) (qbb s.length (a+1) c):=by
   show qau _ cur (((List.range' (a+1) (s.length-(a+1))).map fun b=>(a,b))++qbb s.length (a+1) c)=_
   unfold qau
   rw[List.foldl_append]
  rw[e]
  exact⟨N2,D2,j1,j2,qjz (hlt:=dt (by omega)) (ha:=qa1 (by omega)) (r0:=r1) (hb:=qa1 (by omega)) r2⟩
def qbA (s:List Pt) (n d:Int):Nat×Nat:=qau (ltK s n d) (0,1) (qhW s.length)
theorem qno (hs:∀ p∈s,qcF p=true) (h:AskT n d) (hl:s.length≤999999) (h2:2≤s.length):∃ N D,DisI s n d (qbA s n d) N D∧((qbA s n d).1<s.length∧(qbA s n d).2<s.length)∧
 Fn 13 1 [qbl 0 s,.pv (qaa n d)] [(0,0,qap s)] (.pv (.tuple #[iV (ptK s (qbA s n d).1).id,iV (ptK s (qbA s n d).2).id,qaa N D])) 0 []:=by
 obtain⟨N1,D1,i1,cd⟩:=qmF hs h (a:=0) (b:=1) (by omega) (by omega)
 obtain⟨N,D,j1,j2,r⟩:=qgk hs h hl s.length 0 (0,1) N1 D1 (by omega) ⟨by show 0<s.length;omega,by show 1<s.length;omega⟩ i1
 rw[qdO] at j1 j2 r
 exact⟨N,D,j1,j2,qmL (i0:=⟨by omega,by omega⟩) (i1:=⟨by omega,by omega⟩) (h0:=qbi (by omega)) (h1:=qbi (by omega)) (cd:=cd) (r0:=r) (ii:=⟨by omega,by have:=j2.1;show ((qbA s n d).1:Int)<_;unfold qbA;omega⟩) (ij:=⟨by omega,by have:=j2.2;show ((qbA s n d).2:Int)<_;unfold qbA;omega⟩) (hi:=qbi j2.1) (hj:=qbi j2.2)⟩
end
end Go.Proofs.Ytleaeldgaflmkaa

namespace Go.Proofs.Ytleaeldgaflmkaa
set_option maxRecDepth 100000
open Go.RowKit
section
variable {n d:Int}
theorem qeu:qdJ n d=0↔AskT n d:=by
 constructor
 ·intro h
  by_cases h1:okB n d=true
  ·by_cases h2:n≤1073741824∧-1073741824≤n∧d≤1024
   ·exact⟨h1,h2.2.1,h2.1,h2.2.2⟩
   ·rw[qb1 h1 h2] at h;cases h
  ·rw[qee h1] at h;cases h
 ·intro h
  exact qfn h.ok ⟨h.hi,h.lo,h.den⟩
end
end Go.Proofs.Ytleaeldgaflmkaa

namespace Go.Proofs.Ytleaeldgaflmkaa
set_option maxRecDepth 100000
open Go.RowKit
section
variable {s:List Pt} {n d:Int}
theorem qjC (hn:I64 n) (hd:I64 d):∃ (i j N D e:Int),((qdI s≠0∧e=qdI s)∨(Val s∧qdJ n d≠0∧e=qdJ n d)∨(Val s∧AskT n d∧s.length<2∧e=42)∨
 (Val s∧AskT n d∧2≤s.length∧e=0∧i=(ptK s (qbA s n d).1).id∧j=(ptK s (qbA s n d).2).id∧DisI s n d (qbA s n d) N D))∧(e≠0→i=0∧j=0∧N=0∧D=0)∧
 Fn 6 1 [qbl 0 s,.pv (qaa n d)] [(0,0,qap s)] (.pv (.tuple #[iV i,iV j,qaa N D,iV e])) 0 []:=by
 have c1:=qhj s
 have c2:Pure Try.prog 12 #[qaa n d] (iV (qdJ n d)):=fun w=>qfI n d w hn hd
 by_cases h1:qdI s=0
 ·have hv:=qfS.1 h1
  rw[h1] at c1
  by_cases h2:qdJ n d=0
  ·have ha:=qeu.1 h2
   rw[h2] at c2
   by_cases h3:s.length<2
   ·exact⟨0,0,0,0,42,Or.inr (Or.inr (Or.inl ⟨hv,ha,h3,rfl⟩)),fun _=>⟨rfl,rfl,rfl,rfl⟩,qnn (hc:=c1) (ha:=c2) (hl:=dt (by omega))⟩
   ·have hl:=hv.len
    obtain⟨N,D,j1,_,r⟩:=qno hv.ok ha (by omega) (by omega)
    exact⟨_,_,N,D,0,Or.inr (Or.inr (Or.inr ⟨hv,ha,by omega,rfl,rfl,rfl,j1⟩)),fun h=>(h rfl).elim,qna (hc:=c1) (ha:=c2) (hl:=df (by omega)) (hp:=r)⟩
  ·exact⟨0,0,0,0,qdJ n d,Or.inr (Or.inl ⟨hv,h2,rfl⟩),fun _=>⟨rfl,rfl,rfl,rfl⟩,qn4 (hc:=c1) (ha:=c2) (he:=by simpa using h2)⟩
 ·exact⟨0,0,0,0,qdI s,Or.inl ⟨h1,rfl⟩,fun _=>⟨rfl,rfl,rfl,rfl⟩,qnQ (hc:=c1) (he:=by simpa using h1)⟩
end
end Go.Proofs.Ytleaeldgaflmkaa

namespace Go.Proofs.Ytleaeldgaflmkaa
set_option maxRecDepth 100000
open Go.RowKit
section
variable {s:List Pt} {n d:Int}
structure PlaI (s:List Pt) (n d:Int) (k:Nat) (m:Rz):Prop where
 ok:okB m.n m.d=true
 num:I64 m.n
 den:I64 m.d
 eq:m.n*d=plS (ptK s k) n d*m.d
theorem qmA {p:Pt} (hp:qcF p=true) (h:AskT n d):∃ N D E,okB N D=true∧I64 N∧I64 D∧N*d=plS p n d*D∧Pure Try.prog 25 #[qae p.id p.a p.b,qaa n d] (.tuple #[qaa N D,iV E]):=by
 obtain⟨i1,i2,i3⟩:=h.in
 obtain⟨N,D,E,hr,hc⟩:=qmj i1 i2 hp h.ok
 have g:=qcN hp h
 obtain⟨_,f2,f3,f4,f5⟩:=IsRes.fits hr (by omega) i2.2 (by unfold plS at g;omega) (by unfold plS at g;omega)
 exact⟨N,D,E,f2,f3,f4,f5,hc⟩
theorem qkD (hs:∀ p∈s,qcF p=true) (h:AskT n d) (hl:s.length≤999999):∀ (c k:Nat) (ts:List Rz),k+c=s.length→ts.length=s.length→(∀ j,j<k→∃ m,ts[j]?=some m∧PlaI s n d j m)→
 ∃ us:List Rz,(∀ j,j<s.length→∃ m,us[j]?=some m∧PlaI s n d j m)∧Rl 1 1 17 0 31 5 [(2,.pp 1 0),(3,.pp 2 0),(5,.pp 4 0),(13,.ls 0 s.length),(14,.pv (iV (s.length:Int))),(15,.pv (iV (k:Int)))] [(1,0,.ls 0 s.length),(2,0,.pv (iV n)),(2,1,.pv (iV d)),(4,0,.ls 3 s.length),(0,0,qap s),(3,0,qgs s.length ts)] (.exit 0) [(2,.pp 1 0),(5,.pp 4 0)] [(1,0,.ls 0 s.length),(2,0,.pv (iV n)),(2,1,.pv (iV d)),(4,0,.ls 3 s.length),(0,0,qap s),(3,0,qgs s.length us)]
 | 0,k,ts,hk,ht,hi=>⟨ts,fun j hj=>hi j (by omega),qlN (hlt:=df (by omega))⟩
 | c+1,k,ts,hk,ht,hi=>by
  have hkl:k<s.length:=by omega
  obtain⟨N,D,E,h1,h2,h3,h4,hc⟩:=qmA (hs _ (List.mem_of_getElem? (qbi hkl))) h
  obtain⟨us,hu,r⟩:=qkD hs h hl c (k+1) (ts.set k ⟨N,D⟩) (by omega) (by rw[List.length_set];exact ht) (fun j hj=>by
   by_cases e:j=k
   ·subst e
    exact⟨⟨N,D⟩,by rw[List.getElem?_set_self (by omega)],⟨h1,h2,h3,h4⟩⟩
   ·rw[List.getElem?_set_ne (fun q=>e q.symm)]
    exact hi j (by omega))
  exact⟨us,hu,qjq (hlt:=dt (by omega)) (hin:=⟨by omega,by omega⟩) (hp:=qbi hkl) (ha:=hc) (hk:=by omega) (hs:=qa1 (by omega)) r⟩
theorem qlp {x:Int}:(if -x>x then -x else x)=if x<0 then -x else x:=by
 by_cases h:x<0
 ·rw[if_pos h,if_pos (by omega)]
 ·rw[if_neg h,if_neg (by omega)]
theorem qmz (hs:∀ p∈s,qcF p=true) (h:AskT n d) {us:List Rz} (hu:∀ j,j<s.length→∃ m,us[j]?=some m∧PlaI s n d j m) {a b:Nat} (ha:a<s.length) (hb:b<s.length):∃ N D,DisI s n d (a,b) N D∧
 Fn 26 4 [.pv (iV (a:Int)),.pv (iV (b:Int)),.pp 2 0,.pp 1 0] [(0,0,qap s),(1,0,.ls 0 s.length),(2,0,.ls 3 s.length),(3,0,qgs s.length us)] (.pv (.agg #[iV (ptK s a).id,iV (ptK s b).id,iV N,iV D])) 0 []:=by
 obtain⟨i1,i2,i3⟩:=h.in
 obtain⟨m1,t1,p1⟩:=hu a ha
 obtain⟨m2,t2,p2⟩:=hu b hb
 have g1:=qcN (hs _ (List.mem_of_getElem? (qbi ha))) h
 have g2:=qcN (hs _ (List.mem_of_getElem? (qbi hb))) h
 obtain⟨N,D,E,hr,hc⟩:=qkX p1.num p1.den p2.num p2.den p1.ok p2.ok
 have d1:=qaz p1.ok
 have d2:=qaz p2.ok
 have hm:=qga (a:=plS (ptK s a) n d-plS (ptK s b) n d) (b:=d) (by omega)
 have hd0:m1.d*m2.d≠0:=Int.mul_ne_zero (by omega) (by omega)
 have ex:(m1.n*m2.d-m2.n*m1.d)*d=(plS (ptK s a) n d-plS (ptK s b) n d)*(m1.d*m2.d):=by
  have t1:m1.n*m2.d*d=plS (ptK s a) n d*(m1.d*m2.d):=by rw[Int.mul_right_comm,p1.eq,Int.mul_assoc]
  have t2:m2.n*m1.d*d=plS (ptK s b) n d*(m1.d*m2.d):=by rw[Int.mul_right_comm,p2.eq,Int.mul_assoc,Int.mul_comm m2.d]
  rw[Int.sub_mul,Int.sub_mul,t1,t2]
 have hu:=IsRes.uniqR hr hm hd0 (by omega) ex
 obtain⟨f1,f2,f3,f4,f5⟩:=IsRes.fits hm (by omega) i2.2 (by omega) (by omega)
 obtain⟨u1,u2,u3⟩:=hu
 rw[u1,u2,u3] at hc
 have hD:=qaz f2
 have hN:=qaY f2
 have f3':=f3
 obtain⟨x1,x2⟩:=f3'
 have sgn:mkN (plS (ptK s a) n d-plS (ptK s b) n d) d<0↔plS (ptK s a) n d-plS (ptK s b) n d<0:=by
  constructor
  ·intro hn
   apply Classical.byContradiction
   intro hc
   have:0≤(plS (ptK s a) n d-plS (ptK s b) n d)*mkD (plS (ptK s a) n d-plS (ptK s b) n d) d:=Int.mul_nonneg (by omega) (by omega)
   have h2:mkN (plS (ptK s a) n d-plS (ptK s b) n d) d*d<0:=Int.mul_neg_of_neg_of_pos hn (by omega)
   omega
  ·intro hc
   apply Classical.byContradiction
   intro hn
   have h1:(plS (ptK s a) n d-plS (ptK s b) n d)*mkD (plS (ptK s a) n d-plS (ptK s b) n d) d<0:=Int.mul_neg_of_neg_of_pos hc (by omega)
   have h2:0≤mkN (plS (ptK s a) n d-plS (ptK s b) n d) d*d:=Int.mul_nonneg (by omega) (by omega)
   omega
 have R:=ppc (s:=s) (i:=a) (j:=b) (ts:=us) (ia:=⟨by omega,by omega⟩) (ib:=⟨by omega,by omega⟩) (ht:=t1) (hu:=t2) (hp:=qbi ha) (hq:=qbi hb) (cs:=hc) (e1:=-mkN (plS (ptK s a) n d-plS (ptK s b) n d) d) (hn:=by rw[qao (by omega) (by omega),Int.zero_sub])
 rw[qlp] at R
 refine⟨_,_,⟨?_,?_,f4,?_⟩,R⟩
 ·split
  ·exact qcR f3.2 f2
  ·exact f2
 ·split
  ·exact⟨by omega,by omega⟩
  ·exact f3
 ·show _*d=ql2 (ptK s a) (ptK s b) n d*_
  unfold ql2
  split
  ·next hn=>rw[if_pos (sgn.1 hn),Int.neg_mul,Int.neg_mul,f5]
  ·next hn=>rw[if_neg fun q=>hn (sgn.2 q)];exact f5
theorem qnU {N D N' D':Int} {x y:Nat×Nat} (d1:1≤d) (i:DisI s n d x N D) (j:DisI s n d y N' D'):Pure Try.prog 18 #[qaa N D,qaa N' D'] (.bool (ltK s n d x y)):=by
 have hc:=qmf i.num i.den j.num j.den i.ok j.ok
 have hl:=i.less d1 j
 by_cases hw:ltK s n d x y=true
 ·rw[hw];exact qnS (h1:=hc) (h2:=dt (hl.2 hw))
 ·rw[Bool.not_eq_true _ |>.mp hw];exact qnz (h1:=hc) (h2:=df fun q=>hw (hl.1 q))
abbrev qom (s:List Pt) (a:Nat):List (Nat×SV):=[(2,.pp 1 0),(4,.pp 3 0),(5,.pc 26 [.pp 5 0,.pp 4 0]),(6,.pp 7 0),(17,.pv (iV (s.length:Int))),(18,.pv (iV (a:Int)))]
abbrev qop (s:List Pt) (a:Nat):List (Nat×SV):=[(2,.pp 1 0),(4,.pp 3 0),(5,.pc 26 [.pp 5 0,.pp 4 0]),(6,.pp 7 0),(17,.pv (iV (s.length:Int))),(18,.pv (iV (a:Int))),(7,.pv (iV (a:Int)))]
abbrev qoq (s:List Pt) (a b:Nat):List (Nat×SV):=[(2,.pp 1 0),(4,.pp 3 0),(5,.pc 26 [.pp 5 0,.pp 4 0]),(6,.pp 7 0),(17,.pv (iV (s.length:Int))),(18,.pv (iV (a:Int))),(7,.pv (iV (a:Int))),(8,.pv (iV (b:Int)))]
abbrev qm2 (s:List Pt) (us:List Rz) (x:Nat×Nat) (N D:Int):List (Nat×Nat×SV):=[(1,0,.ls 0 s.length),(3,0,.pv (iV 0)),(3,1,.pv (iV 0)),(3,2,.pv (iV 0)),(3,3,.pv (iV 0)),(4,0,.ls 0 s.length),(5,0,.ls 6 s.length),(7,0,.pv (iV (ptK s x.1).id)),(7,1,.pv (iV (ptK s x.2).id)),(7,2,.pv (iV N)),(7,3,.pv (iV D)),(0,0,qap s),(6,0,qgs s.length us)]
theorem qft (hs:∀ p∈s,qcF p=true) (h:AskT n d) (hl:s.length≤999999) {us:List Rz} (hu:∀ j,j<s.length→∃ m,us[j]?=some m∧PlaI s n d j m) {a:Nat} (ha:a<s.length):∀ (c b:Nat) (cur:Nat×Nat) (N D:Int),b+c=s.length→cur.1<s.length∧cur.2<s.length→DisI s n d cur N D→
 ∃ N' D',DisI s n d (qau (ltK s n d) cur ((List.range' b c).map fun b=>(a,b))) N' D'∧((qau (ltK s n d) cur ((List.range' b c).map fun b=>(a,b))).1<s.length∧(qau (ltK s n d) cur ((List.range' b c).map fun b=>(a,b))).2<s.length)∧
  Rl 1 1 10 1 42 8 (qoq s a b) (qm2 s us cur N D) (.exit 2) (qop s a) (qm2 s us (qau (ltK s n d) cur ((List.range' b c).map fun b=>(a,b))) N' D')
 | 0,b,cur,N,D,hb,hc,hi=>⟨N,D,hi,hc,qiX (hlt:=df (by omega))⟩
 | c+1,b,cur,N,D,hb,hc,hi=>by
  have hbl:b<s.length:=by omega
  obtain⟨_,_,d1⟩:=h.in
  obtain⟨N1,D1,i1,cd⟩:=qmz hs h hu ha hbl
  have cc:=qnU d1 i1 hi
  have e:qau (ltK s n d) cur ((List.range' b (c+1)).map fun b=>(a,b))=qau (ltK s n d) (if ltK s n d (a,b) cur then (a,b) else cur) ((List.range' (b+1) c).map fun b=>(a,b)):=rfl
  rw[e]
  by_cases hw:ltK s n d (a,b) cur=true
  ·rw[if_pos hw]
   rw[hw] at cc
   obtain⟨N2,D2,j1,j2,r⟩:=qft hs h hl hu ha c (b+1) (a,b) N1 D1 (by omega) ⟨ha,hbl⟩ i1
   exact⟨N2,D2,j1,j2,qjA (hlt:=dt (by omega)) (hc:=cd) (cc:=cc) (hs:=qa1 (by omega)) r⟩
  ·rw[if_neg hw]
   rw[Bool.not_eq_true _ |>.mp hw] at cc
   obtain⟨N2,D2,j1,j2,r⟩:=qft hs h hl hu ha c (b+1) cur N D (by omega) hc hi
   exact⟨N2,D2,j1,j2,qjv (hlt:=dt (by omega)) (hc:=cd) (cc:=cc) (hs:=qa1 (by omega)) r⟩
theorem qf0 (hs:∀ p∈s,qcF p=true) (h:AskT n d) (hl:s.length≤999999) {us:List Rz} (hu:∀ j,j<s.length→∃ m,us[j]?=some m∧PlaI s n d j m):∀ (c a:Nat) (cur:Nat×Nat) (N D:Int),a+c=s.length→cur.1<s.length∧cur.2<s.length→DisI s n d cur N D→
 ∃ N' D',DisI s n d (qau (ltK s n d) cur (qbb s.length a c)) N' D'∧((qau (ltK s n d) cur (qbb s.length a c)).1<s.length∧(qau (ltK s n d) cur (qbb s.length a c)).2<s.length)∧
  Rl 1 1 10 0 42 8 (qom s a) (qm2 s us cur N D) (.exit 0) [(2,.pp 1 0),(4,.pp 3 0),(5,.pc 26 [.pp 5 0,.pp 4 0]),(6,.pp 7 0)] (qm2 s us (qau (ltK s n d) cur (qbb s.length a c)) N' D')
 | 0,a,cur,N,D,ha,hc,hi=>⟨N,D,hi,hc,qle (hlt:=df (by omega))⟩
 | c+1,a,cur,N,D,ha,hc,hi=>by
  have hal:a<s.length:=by omega
  obtain⟨N1,D1,i1,i2,r1⟩:=qft hs h hl hu hal (s.length-(a+1)) (a+1) cur N D (by omega) hc hi
  obtain⟨N2,D2,j1,j2,r2⟩:=qf0 hs h hl hu c (a+1) _ N1 D1 (by omega) i2 i1
  have e:qau (ltK s n d) cur (qbb s.length a (c+1))=qau (ltK s n d) (qau (ltK s n d) cur ((List.range' (a+1) (s.length-(a+1))).map fun b=>(a,b))) (qbb s.length (a+1) c):=by
   show qau _ cur (((List.range' (a+1) (s.length-(a+1))).map fun b=>(a,b))++qbb s.length (a+1) c)=_
   unfold qau
   rw[List.foldl_append]
  rw[e]
  exact⟨N2,D2,j1,j2,qiV (hlt:=dt (by omega)) (ha:=qa1 (by omega)) (r0:=r1) (hb:=qa1 (by omega)) r2⟩
theorem qmc (hs:∀ p∈s,qcF p=true) (h:AskT n d) (hl:s.length≤999999) (h2:2≤s.length):∃ N D,DisI s n d (qbA s n d) N D∧
 Fn 10 1 [qbl 0 s,.pv (qaa n d)] [(0,0,qap s)] (.pv (.agg #[iV (ptK s (qbA s n d).1).id,iV (ptK s (qbA s n d).2).id,iV N,iV D])) 0 []:=by
 obtain⟨us,hu,r0⟩:=qkD hs h hl s.length 0 (List.replicate s.length ⟨0,0⟩) (by omega) (by simp) (fun j hj=>by omega)
 have hp:=qmn (n0:=by omega) (n1l:=by omega) (r0:=r0)
 obtain⟨N1,D1,i1,cd⟩:=qmz hs h hu (a:=0) (b:=1) (by omega) (by omega)
 obtain⟨N,D,j1,j2,r⟩:=qf0 hs h hl hu s.length 0 (0,1) N1 D1 (by omega) ⟨by show 0<s.length;omega,by show 1<s.length;omega⟩ i1
 rw[qdO] at j1 j2 r
 exact⟨N,D,j1,qmK (hp:=hp) (hc:=cd) (r0:=r)⟩
theorem DisI.uniq {x:Nat×Nat} {N D N' D':Int} (d1:1≤d) (i:DisI s n d x N D) (j:DisI s n d x N' D'):N=N'∧D=D':=by
 have hm:=qga (a:=qlX s n d x) (b:=d) (by omega)
 obtain⟨a1,a2,_⟩:=hm.one (by omega) i.ok i.num i.den i.eq
 obtain⟨b1,b2,_⟩:=hm.one (by omega) j.ok j.num j.den j.eq
 exact⟨a1.symm.trans b1,a2.symm.trans b2⟩
theorem qiW (hn:I64 n) (hd:I64 d):∃ (i j N D e:Int),((qdI s≠0∧e=qdI s)∨(Val s∧qdJ n d≠0∧e=qdJ n d)∨(Val s∧AskT n d∧s.length<2∧e=42)∨
 (Val s∧AskT n d∧2≤s.length∧e=0∧i=(ptK s (qbA s n d).1).id∧j=(ptK s (qbA s n d).2).id∧DisI s n d (qbA s n d) N D))∧(e≠0→i=0∧j=0∧N=0∧D=0)∧
 Fn 5 1 [qbl 0 s,.pv (qaa n d)] [(0,0,qap s)] (.pv (.tuple #[iV i,iV j,qaa N D,iV e])) 0 []:=by
 have c1:=qgC s
 have c2:Pure Try.prog 9 #[qaa n d] (iV (qdJ n d)):=fun w=>qfj n d w hn hd
 by_cases h1:qdI s=0
 ·have hv:=qfS.1 h1
  rw[h1] at c1
  by_cases h2:qdJ n d=0
  ·have ha:=qeu.1 h2
   rw[h2] at c2
   by_cases h3:s.length<2
   ·exact⟨0,0,0,0,42,Or.inr (Or.inr (Or.inl ⟨hv,ha,h3,rfl⟩)),fun _=>⟨rfl,rfl,rfl,rfl⟩,qnT (hc:=c1) (ha:=c2) (hl:=dt (by omega))⟩
   ·have hl:=hv.len
    obtain⟨N,D,j1,r⟩:=qmc hv.ok ha (by omega) (by omega)
    exact⟨_,_,N,D,0,Or.inr (Or.inr (Or.inr ⟨hv,ha,by omega,rfl,rfl,rfl,j1⟩)),fun h=>(h rfl).elim,qnB (hc:=c1) (ha:=c2) (hl:=df (by omega)) (hp:=r)⟩
  ·exact⟨0,0,0,0,qdJ n d,Or.inr (Or.inl ⟨hv,h2,rfl⟩),fun _=>⟨rfl,rfl,rfl,rfl⟩,qnj (hc:=c1) (ha:=c2) (he:=by simpa using h2)⟩
 ·exact⟨0,0,0,0,qdI s,Or.inl ⟨h1,rfl⟩,fun _=>⟨rfl,rfl,rfl,rfl⟩,qnf (hc:=c1) (ha:=c2) (he:=by simpa using h1)⟩
end
end Go.Proofs.Ytleaeldgaflmkaa
