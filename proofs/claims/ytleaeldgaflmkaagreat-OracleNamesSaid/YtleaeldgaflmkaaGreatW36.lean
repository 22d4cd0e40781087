/-
  Joined: Fr, Vn, Fn. Conditions: none.
-/
import Derived.Test.YtleaeldgaflmkaaGreatW35
import Derived.Test.YtleaeldgaflmkaaGreatW32
import Derived.Test.YtleaeldgaflmkaaGreatW25
import Derived.Test.YtleaeldgaflmkaaGreatW34
import Derived.Test.YtleaeldgaflmkaaGreatW31
import Derived.Test.YtleaeldgaflmkaaGreatW33
namespace Go.Proofs.YtleaeldgaflmkaaGreat
set_option maxRecDepth 100000
open Go.RowKit
def ld (tn td:Int) (p q:Pt):Bool:=qcF (p.a*td+p.b*tn) (q.a*td+q.b*tn) p.b q.b p.id q.id
theorem qga {P Q pb qb pi qi:Int}:qcF P Q pb qb pi qi=true↔(P>Q∨P=Q∧(pb>qb∨pb=qb∧pi<qi)):=by unfold qcF;exact decide_eq_true_iff
theorem qdi {P Q pb qb pi qi:Int}:qcF P Q pb qb pi qi=false↔¬ (P>Q∨P=Q∧(pb>qb∨pb=qb∧pi<qi)):=by unfold qcF;exact decide_eq_false_iff_not
section
variable {tn td:Int} {p q r:Pt}
theorem qfc (p:Pt):ld tn td p p=false:=qdi.2 (by omega)
theorem qj4 (h:ld tn td p q=true) (k:ld tn td q r=true):ld tn td p r=true:=by
 unfold ld at *
 generalize p.a*td+p.b*tn=P at *
 generalize q.a*td+q.b*tn=Q at *
 generalize r.a*td+r.b*tn=R at *
 rw[qga] at *
 omega
theorem qmR (h:ld tn td p q=false) (k:ld tn td q r=false):ld tn td p r=false:=by
 unfold ld at *
 generalize p.a*td+p.b*tn=P at *
 generalize q.a*td+q.b*tn=Q at *
 generalize r.a*td+r.b*tn=R at *
 rw[qdi] at *
 omega
theorem qil (h:ld tn td p q=true):ld tn td q p=false:=by
 cases hh:ld tn td q p
 ·rfl
 ·have:=qj4 h hh;rw[qfc] at this;cases this
theorem qrG (hi:p.id≠q.id) (h:ld tn td p q=false):ld tn td q p=true:=by
 unfold ld at *
 generalize p.a*td+p.b*tn=P at *
 generalize q.a*td+q.b*tn=Q at *
 rw[qdi] at h
 rw[qga]
 omega
end
def rk (tn td:Int) (l:List Pt) (p:Pt):Nat:=l.countP fun q=>ld tn td q p
theorem qqV {tn td:Int}:∀ (s:List Pt) (k:Nat) (p:Pt),s.Pairwise (fun p q=>ld tn td p q=true)→s[k]?=some p→rk tn td s p=k
 | [],_,_,_,h=>by simp at h
 | a::r,0,p,hp,h=>by
  simp only[List.getElem?_cons_zero,Option.some.injEq] at h
  subst h
  rw[List.pairwise_cons] at hp
  unfold rk
  rw[List.countP_eq_zero]
  intro q hq
  rcases List.mem_cons.1 hq with rfl | hq
  ·rw[qfc];decide
  ·rw[qil (hp.1 q hq)];decide
 | a::r,k+1,p,hp,h=>by
  rw[List.getElem?_cons_succ] at h
  rw[List.pairwise_cons] at hp
  have:=qqV r k p hp.2 h
  unfold rk at this ⊢
  rw[List.countP_cons,this,if_pos (hp.1 p (List.mem_of_getElem? h))]
structure Srt (l:List Pt) (tn td:Int) (s:List Pt):Prop where
 perm:s.Perm l
 pw:s.Pairwise (fun p q=>ld tn td p q=true)
theorem Srt.len {l s:List Pt} {tn td:Int} (h:Srt l tn td s):s.length=l.length:=h.perm.length_eq
theorem Srt.rank {l s:List Pt} {tn td:Int} (h:Srt l tn td s) {k:Nat} {p:Pt} (hk:s[k]?=some p):rk tn td l p=k:=by
 have:=qqV s k p h.pw hk
 unfold rk at this ⊢
 rw[← h.perm.countP_eq];exact this
theorem Srt.at {l s:List Pt} {tn td:Int} (h:Srt l tn td s) {p:Pt} (hp:p∈l):s[rk tn td l p]?=some p:=by
 obtain⟨k,hk,e⟩:=List.getElem_of_mem (h.perm.mem_iff.2 hp)
 have hk':s[k]?=some p:=by rw[List.getElem?_eq_getElem hk,e]
 rw[h.rank hk'];exact hk'
theorem Srt.lt {l s:List Pt} {tn td:Int} (h:Srt l tn td s) {p:Pt} (hp:p∈l):rk tn td l p<l.length:=by rw[← h.len];exact qaw (h.at hp)
theorem Srt.uniq {l s t:List Pt} {tn td:Int} (h:Srt l tn td s) (k:Srt l tn td t):s=t:=by
 apply List.ext_getElem?
 intro i
 by_cases hi:i<t.length
 ·obtain⟨p,hp⟩:=qan hi
  rw[hp]
  have:=h.at (k.perm.mem_iff.1 (List.mem_of_getElem? hp))
  rw[k.rank hp] at this
  exact this
 ·have e1:t[i]?=none:=List.getElem?_eq_none (by omega)
  have e2:s[i]?=none:=List.getElem?_eq_none (by have:=h.len;have:=k.len;omega)
  rw[e1,e2]
theorem Srt.mk_of {l s:List Pt} {tn td:Int} (hv:Val l) (hp:s.Perm l) (h:s.Pairwise (fun p q=>ld tn td q p=false)):Srt l tn td s:=by
 have hne:l.Pairwise (fun p q=>p.id≠q.id):=by
  rw[List.pairwise_iff_getElem]
  intro i j hi hj hij
  have:=hv.up.mono hij (List.getElem?_eq_getElem hi) (List.getElem?_eq_getElem hj)
  omega
 have hns:s.Pairwise (fun p q=>p.id≠q.id):=(hp.pairwise_iff (fun h e=>h e.symm)).2 hne
 exact⟨hp,(h.and hns).imp fun ⟨a,b⟩=>qrG (fun e=>b e.symm) a⟩
theorem qez {l:List Pt} {tn td:Int} (hv:Val l):∃ s,Srt l tn td s:=by
 refine⟨l.mergeSort (fun p q=>!ld tn td q p),Srt.mk_of hv (List.mergeSort_perm _ _) ?_⟩
 have h:=List.pairwise_mergeSort (le:=fun p q:Pt=>!ld tn td q p) (fun a b c h1 h2=>?_) (fun a b=>?_) l
 ·exact h.imp fun {a b} h=>by simpa using h
 ·have h1':ld tn td b a=false:=by simpa using h1
  have h2':ld tn td c b=false:=by simpa using h2
  simp[qmR h2' h1']
 ·cases h:ld tn td b a
  ·simp
  ·simp[qil h]
theorem qoB {l:List Pt} (hv:Val l) {p q:Pt} (hp:p∈l) (hq:q∈l) (e:p.id=q.id):p=q:=by
 obtain⟨i,hi,rfl⟩:=List.getElem_of_mem hp
 obtain⟨j,hj,rfl⟩:=List.getElem_of_mem hq
 rcases Nat.lt_trichotomy i j with h | h | h
 ·have:=hv.up.mono h (List.getElem?_eq_getElem hi) (List.getElem?_eq_getElem hj);omega
 ·subst h;rfl
 ·have:=hv.up.mono h (List.getElem?_eq_getElem hj) (List.getElem?_eq_getElem hi);omega
def cfL (tn td:Int) (p q:Pt):Int:=if p.id=q.id then 0 else if ld tn td p q=true then -1 else 1
theorem qt2 {tn td:Int} {p q:Pt} (h:p.id=q.id→p=q):decide (cfL tn td p q<0)=ld tn td p q:=by
 unfold cfL
 by_cases e:p.id=q.id
 ·rw[if_pos e,h e,qfc];rfl
 ·rw[if_neg e]
  cases ld tn td p q<;>rfl
theorem qs2 {tn td:Int} {l:List Pt} {k:Nat} {q p:Pt} (hq:l[k]?=some q):rk tn td (l.take (k+1)) p=rk tn td (l.take k) p+(if ld tn td q p=true then 1 else 0):=by
 have:l.take (k+1)=l.take k++[q]:=by rw[List.take_add_one,hq];rfl
 unfold rk
 rw[this,List.countP_append,List.countP_cons,List.countP_nil,Nat.zero_add]
end Go.Proofs.YtleaeldgaflmkaaGreat

namespace Go.Proofs.YtleaeldgaflmkaaGreat
set_option maxRecDepth 100000
open Go.RowKit
section
variable {s:List Pt} {n d:Int}
structure PlaI (s:List Pt) (n d:Int) (k:Nat) (m:Rz):Prop where
 ok:okB m.n m.d=true
 num:I64 m.n
 den:I64 m.d
 eq:m.n*d=plS (ptK s k) n d*m.d
theorem qro {p:Pt} (hp:qcX p=true) (h:AskT n d):∃ N D E,okB N D=true∧I64 N∧I64 D∧N*d=plS p n d*D∧Pure Tryz.prog 37 #[qab p.id p.a p.b,qaa n d] (.tuple #[qaa N D,iV E]):=by
 obtain⟨i1,i2,i3⟩:=h.in
 obtain⟨N,D,E,hr,hc⟩:=qve i1 i2 hp h.ok
 have g:=qd8 hp h
 obtain⟨_,f2,f3,f4,f5⟩:=IsRes.fits hr (by omega) i2.2 (by unfold plS at g;omega) (by unfold plS at g;omega)
 exact⟨N,D,E,f2,f3,f4,f5,hc⟩
theorem qrz (hs:∀ p∈s,qcX p=true) (h:AskT n d) (hl:s.length≤999999):∀ (c k:Nat) (ts:List Rz),k+c=s.length→ts.length=s.length→(∀ j,j<k→∃ m,ts[j]?=some m∧PlaI s n d j m)→
 ∃ us:List Rz,(∀ j,j<s.length→∃ m,us[j]?=some m∧PlaI s n d j m)∧Rl 1 1 70 0 31 5 [(2,.pp 1 0),(3,.pp 2 0),(5,.pp 4 0),(13,.ls 0 s.length),(14,.pv (iV (s.length:Int))),(15,.pv (iV (k:Int)))] [(1,0,.ls 0 s.length),(2,0,.pv (iV n)),(2,1,.pv (iV d)),(4,0,.ls 3 s.length),(0,0,qad s),(3,0,qi8 s.length ts)] (.exit 0) [(2,.pp 1 0),(5,.pp 4 0)] [(1,0,.ls 0 s.length),(2,0,.pv (iV n)),(2,1,.pv (iV d)),(4,0,.ls 3 s.length),(0,0,qad s),(3,0,qi8 s.length us)]
 | 0,k,ts,hk,ht,hi=>⟨ts,fun j hj=>hi j (by omega),qtl (hlt:=df (by omega))⟩
 | c+1,k,ts,hk,ht,hi=>by
  have hkl:k<s.length:=by omega
  obtain⟨N,D,E,h1,h2,h3,h4,hc⟩:=qro (hs _ (List.mem_of_getElem? (qbP hkl))) h
  obtain⟨us,hu,r⟩:=qrz hs h hl c (k+1) (ts.set k ⟨N,D⟩) (by omega) (by rw[List.length_set];exact ht) (fun j hj=>by
   by_cases e:j=k
   ·subst e
    exact⟨⟨N,D⟩,by rw[List.getElem?_set_self (by omega)],⟨h1,h2,h3,h4⟩⟩
   ·rw[List.getElem?_set_ne (fun q=>e q.symm)]
    exact hi j (by omega))
  exact⟨us,hu,qoN (hlt:=dt (by omega)) (hin:=⟨by omega,by omega⟩) (hp:=qbP hkl) (ha:=hc) (hk:=by omega) (hs:=qav (by omega)) r⟩
theorem qrW {x:Int}:(if -x>x then -x else x)=if x<0 then -x else x:=by
 by_cases h:x<0
 ·rw[if_pos h,if_pos (by omega)]
 ·rw[if_neg h,if_neg (by omega)]
theorem qwn (hs:∀ p∈s,qcX p=true) (h:AskT n d) {us:List Rz} (hu:∀ j,j<s.length→∃ m,us[j]?=some m∧PlaI s n d j m) {a b:Nat} (ha:a<s.length) (hb:b<s.length):∃ N D,DisI s n d (a,b) N D∧
 Fn 100 4 [.pv (iV (a:Int)),.pv (iV (b:Int)),.pp 2 0,.pp 1 0] [(0,0,qad s),(1,0,.ls 0 s.length),(2,0,.ls 3 s.length),(3,0,qi8 s.length us)] (.pv (.agg #[iV (ptK s a).id,iV (ptK s b).id,iV N,iV D])) 0 []:=by
 obtain⟨i1,i2,i3⟩:=h.in
 obtain⟨m1,t1,p1⟩:=hu a ha
 obtain⟨m2,t2,p2⟩:=hu b hb
 have g1:=qd8 (hs _ (List.mem_of_getElem? (qbP ha))) h
 have g2:=qd8 (hs _ (List.mem_of_getElem? (qbP hb))) h
 obtain⟨N,D,E,hr,hc⟩:=qtF p1.num p1.den p2.num p2.den p1.ok p2.ok
 have d1:=qaz p1.ok
 have d2:=qaz p2.ok
 have hm:=qhP (a:=plS (ptK s a) n d-plS (ptK s b) n d) (b:=d) (by omega)
 have hd0:m1.d*m2.d≠0:=Int.mul_ne_zero (by omega) (by omega)
 have ex:(m1.n*m2.d-m2.n*m1.d)*d=(plS (ptK s a) n d-plS (ptK s b) n d)*(m1.d*m2.d):=by
  have t1:m1.n*m2.d*d=plS (ptK s a) n d*(m1.d*m2.d):=by rw[Int.mul_right_comm,p1.eq,Int.mul_assoc]
  have t2:m2.n*m1.d*d=plS (ptK s b) n d*(m1.d*m2.d):=by rw[Int.mul_right_comm,p2.eq,Int.mul_assoc,Int.mul_comm m2.d]
  rw[Int.sub_mul,Int.sub_mul,t1,t2]
 have hu:=IsRes.uniqR hr hm hd0 (by omega) ex
 obtain⟨f1,f2,f3,f4,f5⟩:=IsRes.fits hm (by omega) i2.2 (by omega) (by omega)
 obtain⟨u1,u2,u3⟩:=hu
 rw[u1,u2,u3] at hc
 have hD:=qaz f2
 have hN:=qbs f2
 have f3':=f3
 obtain⟨x1,x2⟩:=f3'
 have sgn:mkN (plS (ptK s a) n d-plS (ptK s b) n d) d<0↔plS (ptK s a) n d-plS (ptK s b) n d<0:=by
  constructor
  ·intro hn
   apply Classical.byContradiction
   intro hc
   have:0≤(plS (ptK s a) n d-plS (ptK s b) n d)*mkD (plS (ptK s a) n d-plS (ptK s b) n d) d:=Int.mul_nonneg (by omega) (by omega)
   have h2:mkN (plS (ptK s a) n d-plS (ptK s b) n d) d*d<0:=Int.mul_neg_of_neg_of_pos hn (by omega)
   omega
  ·intro hc
   apply Classical.byContradiction
   intro hn
   have h1:(plS (ptK s a) n d-plS (ptK s b) n d)*mkD (plS (ptK s a) n d-plS (ptK s b) n d) d<0:=Int.mul_neg_of_neg_of_pos hc (by omega)
   have h2:0≤mkN (plS (ptK s a) n d-plS (ptK s b) n d) d*d:=Int.mul_nonneg (by omega) (by omega)
   omega
 have R:=ppc (s:=s) (i:=a) (j:=b) (ts:=us) (ia:=⟨by omega,by omega⟩) (ib:=⟨by omega,by omega⟩) (ht:=t1) (hu:=t2) (hp:=qbP ha) (hq:=qbP hb) (cs:=hc) (e1:=-mkN (plS (ptK s a) n d-plS (ptK s b) n d) d) (hn:=by rw[qah (by omega) (by omega),Int.zero_sub])
 rw[qrW] at R
 refine⟨_,_,⟨?_,?_,f4,?_⟩,R⟩
 ·split
  ·exact qd2 f3.2 f2
  ·exact f2
 ·split
  ·exact⟨by omega,by omega⟩
  ·exact f3
 ·show _*d=qup (ptK s a) (ptK s b) n d*_
  unfold qup
  split
  ·next hn=>rw[if_pos (sgn.1 hn),Int.neg_mul,Int.neg_mul,f5]
  ·next hn=>rw[if_neg fun q=>hn (sgn.2 q)];exact f5
theorem qzC {N D N' D':Int} {x y:Nat×Nat} (d1:1≤d) (i:DisI s n d x N D) (j:DisI s n d y N' D'):Pure Tryz.prog 71 #[qaa N D,qaa N' D'] (.bool (ltK s n d x y)):=by
 have hc:=qjc i.num i.den j.num j.den i.ok j.ok
 have hl:=i.less d1 j
 by_cases hw:ltK s n d x y=true
 ·rw[hw];exact qyU (h1:=hc) (h2:=dt (hl.2 hw))
 ·rw[Bool.not_eq_true _ |>.mp hw];exact qxK (h1:=hc) (h2:=df fun q=>hw (hl.1 q))
abbrev qAq (s:List Pt) (a:Nat):List (Nat×SV):=[(2,.pp 1 0),(4,.pp 3 0),(5,.pc 100 [.pp 5 0,.pp 4 0]),(6,.pp 7 0),(17,.pv (iV (s.length:Int))),(18,.pv (iV (a:Int)))]
abbrev qAd (s:List Pt) (a:Nat):List (Nat×SV):=[(2,.pp 1 0),(4,.pp 3 0),(5,.pc 100 [.pp 5 0,.pp 4 0]),(6,.pp 7 0),(17,.pv (iV (s.length:Int))),(18,.pv (iV (a:Int))),(7,.pv (iV (a:Int)))]
abbrev qAg (s:List Pt) (a b:Nat):List (Nat×SV):=[(2,.pp 1 0),(4,.pp 3 0),(5,.pc 100 [.pp 5 0,.pp 4 0]),(6,.pp 7 0),(17,.pv (iV (s.length:Int))),(18,.pv (iV (a:Int))),(7,.pv (iV (a:Int))),(8,.pv (iV (b:Int)))]
abbrev qxa (s:List Pt) (us:List Rz) (x:Nat×Nat) (N D:Int):List (Nat×Nat×SV):=[(1,0,.ls 0 s.length),(3,0,.pv (iV 0)),(3,1,.pv (iV 0)),(3,2,.pv (iV 0)),(3,3,.pv (iV 0)),(4,0,.ls 0 s.length),(5,0,.ls 6 s.length),(7,0,.pv (iV (ptK s x.1).id)),(7,1,.pv (iV (ptK s x.2).id)),(7,2,.pv (iV N)),(7,3,.pv (iV D)),(0,0,qad s),(6,0,qi8 s.length us)]
theorem qic (hs:∀ p∈s,qcX p=true) (h:AskT n d) (hl:s.length≤999999) {us:List Rz} (hu:∀ j,j<s.length→∃ m,us[j]?=some m∧PlaI s n d j m) {a:Nat} (ha:a<s.length):∀ (c b:Nat) (cur:Nat×Nat) (N D:Int),b+c=s.length→cur.1<s.length∧cur.2<s.length→DisI s n d cur N D→
 ∃ N' D',DisI s n d (qa8 (ltK s n d) cur ((List.range' b c).map fun b=>(a,b))) N' D'∧((qa8 (ltK s n d) cur ((List.range' b c).map fun b=>(a,b))).1<s.length∧(qa8 (ltK s n d) cur ((List.range' b c).map fun b=>(a,b))).2<s.length)∧
  Rl 1 1 45 1 42 8 (qAg s a b) (qxa s us cur N D) (.exit 2) (qAd s a) (qxa s us (qa8 (ltK s n d) cur ((List.range' b c).map fun b=>(a,b))) N' D')
 | 0,b,cur,N,D,hb,hc,hi=>⟨N,D,hi,hc,qpe (hlt:=df (by omega))⟩
 | c+1,b,cur,N,D,hb,hc,hi=>by
  have hbl:b<s.length:=by omega
  obtain⟨_,_,d1⟩:=h.in
  obtain⟨N1,D1,i1,cd⟩:=qwn hs h hu ha hbl
  have cc:=qzC d1 i1 hi
  have e:qa8 (ltK s n d) cur ((List.range' b (c+1)).map fun b=>(a,b))=qa8 (ltK s n d) (if ltK s n d (a,b) cur then (a,b) else cur) ((List.range' (b+1) c).map fun b=>(a,b)):=rfl
  rw[e]
  by_cases hw:ltK s n d (a,b) cur=true
  ·rw[if_pos hw]
   rw[hw] at cc
   obtain⟨N2,D2,j1,j2,r⟩:=qic hs h hl hu ha c (b+1) (a,b) N1 D1 (by omega) ⟨ha,hbl⟩ i1
   exact⟨N2,D2,j1,j2,qqg (hlt:=dt (by omega)) (hc:=cd) (cc:=cc) (hs:=qav (by omega)) r⟩
  ·rw[if_neg hw]
   rw[Bool.not_eq_true _ |>.mp hw] at cc
   obtain⟨N2,D2,j1,j2,r⟩:=qic hs h hl hu ha c (b+1) cur N D (by omega) hc hi
   exact⟨N2,D2,j1,j2,qoJ (hlt:=dt (by omega)) (hc:=cd) (cc:=cc) (hs:=qav (by omega)) r⟩
theorem qjk (hs:∀ p∈s,qcX p=true) (h:AskT n d) (hl:s.length≤999999) {us:List Rz} (hu:∀ j,j<s.length→∃ m,us[j]?=some m∧PlaI s n d j m):∀ (c a:Nat) (cur:Nat×Nat) (N D:Int),a+c=s.length→cur.1<s.length∧cur.2<s.length→DisI s n d cur N D→
 ∃ N' D',DisI s n d (qa8 (ltK s n d) cur (qbB s.length a c)) N' D'∧((qa8 (ltK s n d) cur (qbB s.length a c)).1<s.length∧(qa8 (ltK s n d) cur (qbB s.length a c)).2<s.length)∧
  Rl 1 1 45 0 42 8 (qAq s a) (qxa s us cur N D) (.exit 0) [(2,.pp 1 0),(4,.pp 3 0),(5,.pc 100 [.pp 5 0,.pp 4 0]),(6,.pp 7 0)] (qxa s us (qa8 (ltK s n d) cur (qbB s.length a c)) N' D')
 | 0,a,cur,N,D,ha,hc,hi=>⟨N,D,hi,hc,qtv (hlt:=df (by omega))⟩
 | c+1,a,cur,N,D,ha,hc,hi=>by
  have hal:a<s.length:=by omega
  obtain⟨N1,D1,i1,i2,r1⟩:=qic hs h hl hu hal (s.length-(a+1)) (a+1) cur N D (by omega) hc hi
  obtain⟨N2,D2,j1,j2,r2⟩:=qjk hs h hl hu c (a+1) _ N1 D1 (by omega) i2 i1
  have e:qa8 (ltK s n d) cur (qbB s.length a (c+1))=qa8 (ltK s n d) (qa8 (ltK s n d) cur ((List.range' (a+1) (s.length-(a+1))).map fun b=>(a,b))) (qbB s.length (a+1) c):=by
   show qa8 _ cur (((List.range' (a+1) (s.length-(a+1))).map fun b=>(a,b))++qbB s.length (a+1) c)=_
   unfold qa8
   rw[List.foldl_append]
  rw[e]
  exact⟨N2,D2,j1,j2,qpx (hlt:=dt (by omega)) (ha:=qav (by omega)) (r0:=r1) (hb:=qav (by omega)) r2⟩
theorem qvk (hs:∀ p∈s,qcX p=true) (h:AskT n d) (hl:s.length≤999999) (h2:2≤s.length):∃ N D,DisI s n d (qbC s n d) N D∧
 Fn 45 1 [qaq 0 s,.pv (qaa n d)] [(0,0,qad s)] (.pv (.agg #[iV (ptK s (qbC s n d).1).id,iV (ptK s (qbC s n d).2).id,iV N,iV D])) 0 []:=by
 obtain⟨us,hu,r0⟩:=qrz hs h hl s.length 0 (List.replicate s.length ⟨0,0⟩) (by omega) (by simp) (fun j hj=>by omega)
 have hp:=qwd (n0:=by omega) (n1l:=by omega) (r0:=r0)
 obtain⟨N1,D1,i1,cd⟩:=qwn hs h hu (a:=0) (b:=1) (by omega) (by omega)
 obtain⟨N,D,j1,j2,r⟩:=qjk hs h hl hu s.length 0 (0,1) N1 D1 (by omega) ⟨by show 0<s.length;omega,by show 1<s.length;omega⟩ i1
 rw[qfK] at j1 j2 r
 exact⟨N,D,j1,qu2 (hp:=hp) (hc:=cd) (r0:=r)⟩
theorem DisI.uniq {x:Nat×Nat} {N D N' D':Int} (d1:1≤d) (i:DisI s n d x N D) (j:DisI s n d x N' D'):N=N'∧D=D':=by
 have hm:=qhP (a:=quC s n d x) (b:=d) (by omega)
 obtain⟨a1,a2,_⟩:=hm.one (by omega) i.ok i.num i.den i.eq
 obtain⟨b1,b2,_⟩:=hm.one (by omega) j.ok j.num j.den j.eq
 exact⟨a1.symm.trans b1,a2.symm.trans b2⟩
theorem qi6 (hn:I64 n) (hd:I64 d):∃ (i j N D e:Int),((qb4 s≠0∧e=qb4 s)∨(Val s∧qdk n d≠0∧e=qdk n d)∨(Val s∧AskT n d∧s.length<2∧e=42)∨
 (Val s∧AskT n d∧2≤s.length∧e=0∧i=(ptK s (qbC s n d).1).id∧j=(ptK s (qbC s n d).2).id∧DisI s n d (qbC s n d) N D))∧(e≠0→i=0∧j=0∧N=0∧D=0)∧
 Fn 18 1 [qaq 0 s,.pv (qaa n d)] [(0,0,qad s)] (.pv (.tuple #[iV i,iV j,qaa N D,iV e])) 0 []:=by
 have c1:=qaF s
 have c2:Pure Tryz.prog 40 #[qaa n d] (iV (qdk n d)):=fun w=>qb1 n d w hn hd
 by_cases h1:qb4 s=0
 ·have hv:=qbd.1 h1
  rw[h1] at c1
  by_cases h2:qdk n d=0
  ·have ha:=qbb.1 h2
   rw[h2] at c2
   by_cases h3:s.length<2
   ·exact⟨0,0,0,0,42,Or.inr (Or.inr (Or.inl ⟨hv,ha,h3,rfl⟩)),fun _=>⟨rfl,rfl,rfl,rfl⟩,qyK (hc:=c1) (ha:=c2) (hl:=dt (by omega))⟩
   ·have hl:=hv.len
    obtain⟨N,D,j1,r⟩:=qvk hv.ok ha (by omega) (by omega)
    exact⟨_,_,N,D,0,Or.inr (Or.inr (Or.inr ⟨hv,ha,by omega,rfl,rfl,rfl,j1⟩)),fun h=>(h rfl).elim,qyj (hc:=c1) (ha:=c2) (hl:=df (by omega)) (hp:=r)⟩
  ·exact⟨0,0,0,0,qdk n d,Or.inr (Or.inl ⟨hv,h2,rfl⟩),fun _=>⟨rfl,rfl,rfl,rfl⟩,qyT (hc:=c1) (ha:=c2) (he:=by simpa using h2)⟩
 ·exact⟨0,0,0,0,qb4 s,Or.inl ⟨h1,rfl⟩,fun _=>⟨rfl,rfl,rfl,rfl⟩,qyO (hc:=c1) (ha:=c2) (he:=by simpa using h1)⟩
end
end Go.Proofs.YtleaeldgaflmkaaGreat

namespace Go.Proofs.YtleaeldgaflmkaaGreat
set_option maxRecDepth 100000
open Go.RowKit
theorem qjK {l:List Pt} (hn:l.length≤1000000):Fn 47 1 [qaq 0 l] [(0,0,qad l)] (.ag [.ls 1 l.length]) 1 [(1,0,qad l)]:=qmm (by omega)
abbrev woT (id:Int) (k:Nat):List (Nat×SV):=[(1,.pv (iV id)),(2,.pp 1 0),(4,.pp 2 0),(5,.pp 3 0),(6,.pv (iV (k:Int)))]
abbrev woH (l m:List Pt):List (Nat×Nat×SV):=[(1,0,.ls 0 l.length),(0,0,qad l),(3,0,.ls 4 m.length),(4,0,qad m),(2,0,.pv (.slice none 0 0))]
theorem qeV {α:Type} {l:List α} {k:Nat} {p:α} (h:l[k]?=some p):l.take (k+1)=l.take k++[p]:=by rw[List.take_add_one,h];rfl
theorem qio {l:List Pt} (hn:l.length≤64) (id:Int):Fn 129 1 [qaq 0 l,.pv (iV id)] [(0,0,qad l)] (.ag [.ls 1 (l.filter fun p=>decide (p.id≠id)).length]) 1 [(1,0,qad (l.filter fun p=>decide (p.id≠id)))]:=by
 refine qtt (RunsL.rounds (woT id) (fun k=>woH l ((l.take k).filter fun p=>decide (p.id≠id))) l.length 0 (Nat.zero_add _) (fun k _ hk r=>?_) ?_)
 ·obtain⟨p,hp⟩:=qan hk
  rw[qeV hp,List.filter_append] at r
  by_cases he:p.id=id
  ·have:List.filter (fun p=>decide (p.id≠id)) [p]=[]:=by simp[he]
   rw[this,List.append_nil] at r
   exact qr7 hp (qaB hk) (dt (by omega)) (by simp[he]) (qeH hk hn) r
  ·have:List.filter (fun p=>decide (p.id≠id)) [p]=[p]:=by simp[he]
   rw[this] at r
   refine qrY hp (qaB hk) (dt (by omega)) (by simp[he]) ?_ (qeH hk hn) r
   have:=List.length_filter_le (fun p:Pt=>decide (p.id≠id)) (l.take k)
   rw[List.length_take] at this
   omega
 ·simp only[List.take_length]
  exact qvx (df (by omega))
theorem qnF {l:List Pt} (hv:Val l) {k:Nat} {p:Pt} (hk:l[k]?=some p):(l.filter fun q=>decide (q.id≠p.id))=l.take k++l.drop (k+1):=by
 have hl:=qaw hk
 have e:l=l.take k++p::l.drop (k+1):=by
  conv=>lhs;rw[← List.take_append_drop k l]
  rw[List.drop_eq_getElem_cons hl]
  have:l[k]=p:=by rw[List.getElem?_eq_getElem hl] at hk;exact Option.some.inj hk
  rw[this]
 conv=>lhs;rw[e]
 rw[List.filter_append,List.filter_cons_of_neg (by simp)]
 congr 1
 ·refine List.filter_eq_self.2 fun q hq=>?_
  obtain⟨j,hj,rfl⟩:=List.getElem_of_mem hq
  have hjk:j<k:=by rw[List.length_take] at hj;omega
  have h2:l[j]?=some ((l.take k)[j]):=by rw[List.getElem_take];exact List.getElem?_eq_getElem _
  have:=hv.up.mono hjk h2 hk
  exact decide_eq_true (fun e=>by omega)
 ·refine List.filter_eq_self.2 fun q hq=>?_
  obtain⟨j,hj,rfl⟩:=List.getElem_of_mem hq
  have h2:l[k+1+j]?=some ((l.drop (k+1))[j]):=by rw[List.getElem_drop];exact List.getElem?_eq_getElem _
  have:=hv.up.mono (show k<k+1+j by omega) hk h2
  exact decide_eq_true (fun e=>by omega)
abbrev qlk (f:FuncId) (l:List Pt) (x:Value) (e:Int):Prop:=Fn f 1 [qaq 0 l,.pv x] [(0,0,qad l)] (.pv (.tuple #[.agg #[.slice none 0 0],iV e])) 0 []
abbrev qfn (f:FuncId) (l:List Pt) (x:Value) (m:List Pt):Prop:=Fn f 1 [qaq 0 l,.pv x] [(0,0,qad l)] (.tu [.ag [.ls 1 m.length],.one (.pv (iV 0))]) 1 [(1,0,qad m)]
theorem qby {a b c:Int} (h:a+b=c) (h0:0≤c) (h1:c≤1000000):iV (IntKind.i64.wrap (a+b))=iV c:=by rw[h,qah (by omega) (by omega)]
theorem qgO {s:Int} (h0:0<s) (h1:s≤1000000):Fn 148 0 [.pv (.slice none 0 0),.pv (iV s)] [] (.ls 0 0) 1 [(0,0,qad ([]:List Pt))]:=
 qvt (df (by omega)) (by rw[Int.sub_zero,qah (by omega) (by omega)]) (dt (by omega)) (by omega) h1
theorem qoz:Fn 148 0 [.pv (.slice none 0 0),.pv (iV 0)] [] (.pv (.slice none 0 0)) 0 []:=
 qu3 (df (by omega)) (by rw[Int.sub_zero,qah (by omega) (by omega)]) (df (by omega))
theorem qpv (l:List Pt) (id:Int):(∃ e,qlk 96 l (iV id) e∧qlk 108 l (iV id) e∧((qb4 l≠0∧e=qb4 l)∨(Val l∧(∀ p∈l,p.id≠id)∧e=6)))∨
 (∃ k p,Val l∧l[k]?=some p∧p.id=id∧qfn 96 l (iV id) (l.take k++l.drop (k+1))∧qfn 108 l (iV id) (l.take k++l.drop (k+1))):=by
 by_cases h0:qb4 l=0
 ·have hv:=qbd.1 h0
  have c1:=qaF l
  have c2:=qbe l
  rw[h0] at c1 c2
  rcases place l hv id with ⟨k,p,hk,he⟩ | ⟨hno,k,hkl,hlo,hhi⟩
  ·refine Or.inr ⟨k,p,hv,hk,he,?_,?_⟩
   ·have hl:=qaw hk
    have hn:=hv.len
    by_cases h1:l.length=1
    ·exact qoc (s1:=0) (s2:=0) (by omega) (by omega) c1 (qdH hv hk he) (by rw[qah (by omega) (by omega)];rfl) (qby (by omega) (by omega) (by omega)) (df (by omega)) (qby (by omega) (by omega) (by omega)) (df (by omega)) qoz (by omega) (by omega)
    ·exact qm7 (s1:=(k:Int)) (s2:=(l.length:Int)-1) (by omega) (by omega) c1 (qdH hv hk he) (by rw[qah (by omega) (by omega)];rfl) (qby (by omega) (by omega) (by omega)) (df (by omega)) (qby (by omega) (by omega) (by omega)) (df (by omega)) (qgO (by omega) (by omega)) (by omega) (by omega)
   ·have hw:=qio hv.len id
    rw[← he,qnF hv hk,he] at hw
    exact qnm c2 (qjT hv hk he) (df (by omega)) hw
  ·exact Or.inl ⟨6,qql c1 (qgB hv hkl hlo hhi),qoL c2 (qoV hv.len hno),Or.inr ⟨hv,hno,rfl⟩⟩
 ·exact Or.inl ⟨qb4 l,qlV (qaF l) (by simp[h0]),ql0 (qbe l) (by simp[h0]),Or.inl ⟨h0,rfl⟩⟩
theorem qmH (l:List Pt) (pi pa pb:Int):Fn 116 1 [qaq 0 l,.pv (qab pi pa pb)] [(0,0,qad l)] (.pv (iV (if qb4 l=0 then (if okP pi pa pb then 0 else 8) else qb4 l))) 0 []:=by
 by_cases h0:qb4 l=0
 ·have c1:=qaF l
  rw[h0] at c1
  rw[if_pos h0]
  by_cases hp:okP pi pa pb=true
  ·rw[if_pos hp];exact qqY c1 (qaZ hp)
  ·rw[if_neg hp];exact qqY c1 (qeY hp)
 ·rw[if_neg h0]
  exact qt1 (qaF l) (by simp[h0])
theorem qrn {l:List Pt} {k:Nat} (h:k<l.length) (p:Pt):l.set k p=l.take k++p::l.drop (k+1):=by rw[List.set_eq_take_append_cons_drop,if_pos h]
theorem qkl (l:List Pt) (pi pa pb:Int):(∃ e,qlk 97 l (qab pi pa pb) e∧qlk 109 l (qab pi pa pb) e∧((qb4 l≠0∧e=qb4 l)∨(Val l∧¬ okP pi pa pb=true∧e=8)∨(Val l∧okP pi pa pb=true∧(∀ p∈l,p.id≠pi)∧e=6)))∨
 (∃ k p,Val l∧okP pi pa pb=true∧l[k]?=some p∧p.id=pi∧qfn 97 l (qab pi pa pb) (l.set k ⟨pi,pa,pb⟩)∧qfn 109 l (qab pi pa pb) (l.set k ⟨pi,pa,pb⟩)):=by
 have cw:=qmH l pi pa pb
 by_cases h0:qb4 l=0
 ·have hv:=qbd.1 h0
  have c2:=qbe l
  rw[h0] at c2
  rw[if_pos h0] at cw
  by_cases hp:okP pi pa pb=true
  ·rw[if_pos hp] at cw
   rcases place l hv pi with ⟨k,p,hk,he⟩ | ⟨hno,k,hkl,hlo,hhi⟩
   ·have hl:=qaw hk
    have hn:=hv.len
    refine Or.inr ⟨k,p,hv,hp,hk,he,?_,qi3 c2 (qaW hp) (qjT hv hk he) (df (by omega)) (qjK (by omega)) (qaB hl) hl⟩
    rw[qrn hl]
    exact qiV (s1:=(k:Int)) (s2:=(k:Int)+1) (s3:=(l.length:Int)) (by omega) (by omega) cw (qdH hv hk he) (by rw[qah (by omega) (by omega)];rfl) (qby (by omega) (by omega) (by omega)) (df (by omega)) (qby (by omega) (by omega) (by omega)) (df (by omega)) (qby (by omega) (by omega) (by omega)) (df (by omega)) (qgO (by omega) (by omega)) (by omega) (by omega) (by omega)
   ·exact Or.inl ⟨6,qkG cw (qgB hv hkl hlo hhi),qkL c2 (qaW hp) (qoV hv.len hno),Or.inr (Or.inr ⟨hv,hp,hno,rfl⟩)⟩
  ·rw[if_neg hp] at cw
   exact Or.inl ⟨8,qe8 cw (by decide),qi4 c2 (qcH hp),Or.inr (Or.inl ⟨hv,hp,rfl⟩)⟩
 ·rw[if_neg h0] at cw
  exact Or.inl ⟨qb4 l,qe8 cw (by simp[h0]),qiM (qbe l) (by simp[h0]),Or.inl ⟨h0,rfl⟩⟩
abbrev puT (b:Bool) (k:Nat):List (Nat×SV):=[(2,.pp 1 0),(3,.pp 2 0),(4,.pp 3 0),(7,.pp 4 0),(8,.pv (.bool b)),(9,.pv (iV (k:Int)))]
abbrev puH (l m:List Pt) (pi pa pb:Int):List (Nat×Nat×SV):=[(1,0,.ls 0 l.length),(0,0,qad l),(2,0,.pv (iV pi)),(2,1,.pv (iV pa)),(2,2,.pv (iV pb)),(3,0,.pv (.slice none 0 0)),(4,0,.ls 5 m.length),(5,0,qad m)]
theorem qtJ {l:List Pt} (hv:Val l) (hn:l.length<64) {pi pa pb:Int} (hp:okP pi pa pb=true) (hno:∀ p∈l,p.id≠pi) {k:Nat} (hkl:k≤l.length) (hlo:∀ (t:Nat) (p:Pt),t<k→l[t]?=some p→p.id<pi) (hhi:∀ (t:Nat) (p:Pt),k≤t→l[t]?=some p→pi<p.id) :
 qfn 107 l (qab pi pa pb) (l.take k++⟨pi,pa,pb⟩::l.drop k):=by
 have c2:=qbe l
 rw[qbd.2 hv] at c2
 have a:=qoV hv.len hno
 have h64:((l.length:Int)==64)=false:=by simp;omega
 have first:∀ {e:Exit} {tm2:TmL} {hp2:HpL},Rl 1 1 107 0 76 6 (puT false k) (puH l (l.take k) pi pa pb) e tm2 hp2→
  Rl 1 1 107 0 76 6 (puT false 0) (puH l [] pi pa pb) e tm2 hp2:=by
  intro e tm2 hp2 last
  refine RunsL.rounds (puT false) (fun j=>puH l (l.take j) pi pa pb) k 0 (Nat.zero_add _) (fun j _ hj r=>?_) last
  obtain⟨q,hq⟩:=qan (l:=l) (k:=j) (by omega)
  rw[qeV hq] at r
  exact qvM hq (qaB (qaw hq)) (by rw[List.length_take];omega) (dt (by omega)) (df (by have:=hlo j q hj hq;omega)) (qeH (qaw hq) hv.len) r
 by_cases hk:k<l.length
 ·obtain⟨q,hq⟩:=qan hk
  refine qmb c2 (qaW hp) a h64 (first ?_)
  have hacc:∀ j,(l.take k++[(⟨pi,pa,pb⟩:Pt)]++(l.drop k).take j).length≤65:=by intro j;simp only[List.length_append,List.length_take,List.length_drop,List.length_cons,List.length_nil];omega
  have hrest:Rl 1 1 107 0 76 6 (puT true (k+1)) (puH l (l.take k++[(⟨pi,pa,pb⟩:Pt)]++[q]) pi pa pb) (.exit 0) [(3,.pp 2 0),(4,.pp 3 0),(7,.pp 4 0),(8,.pv (.bool true))] (puH l (l.take k++⟨pi,pa,pb⟩::l.drop k) pi pa pb):=by
   have hq1:(l.drop k).take 1=[q]:=by
    rw[List.drop_eq_getElem_cons hk];have:l[k]=q:=by rw[List.getElem?_eq_getElem hk] at hq;exact Option.some.inj hq
    rw[this];rfl
   rw[← hq1]
   refine RunsL.rounds (puT true) (fun j=>puH l (l.take k++[(⟨pi,pa,pb⟩:Pt)]++(l.drop k).take (j-k)) pi pa pb) (N:=l.length) (l.length-(k+1)) (k+1) (by omega) (fun j h1 hj r=>?_) ?_ |> fun h=>by simpa using h
   ·obtain⟨y,hy⟩:=qan hj
    have hd:(l.drop k)[j-k]?=some y:=by rw[List.getElem?_drop,show k+(j-k)=j by omega];exact hy
    rw[show j+1-k=(j-k)+1 by omega,qeV hd,← List.append_assoc] at r
    exact qvD hy (qaB hj) (by have:=hacc (j-k);omega) (dt (by omega)) (qeH hj hv.len) r
   ·have:(l.drop k).take (l.length-k)=l.drop k:=List.take_of_length_le (by simp)
    simp only[this]
    rw[show l.take k++[(⟨pi,pa,pb⟩:Pt)]++l.drop k=l.take k++⟨pi,pa,pb⟩::l.drop k by simp]
    exact qpr (df (by omega))
  exact qws hq (qaB hk) (by rw[List.length_take];omega) (dt (by omega)) (dt (by have:=hhi k q (Nat.le_refl _) hq;omega)) (by rw[List.length_take];omega) (qeH hk hv.len) hrest
 ·have hk':k=l.length:=by omega
  subst hk'
  rw[List.drop_length]
  refine qmS c2 (qaW hp) a h64 (first (qpj (df (by omega)))) (by rw[List.length_take];omega)
theorem qsS (l:List Pt) (pi pa pb:Int):(∃ e,qlk 95 l (qab pi pa pb) e∧qlk 107 l (qab pi pa pb) e∧((qb4 l≠0∧e=qb4 l)∨(Val l∧¬ okP pi pa pb=true∧e=8)∨(Val l∧okP pi pa pb=true∧(∃ p∈l,p.id=pi)∧e=14)∨(Val l∧okP pi pa pb=true∧(∀ p∈l,p.id≠pi)∧l.length=64∧e=18)))∨
 (∃ k,Val l∧okP pi pa pb=true∧l.length<64∧(∀ p∈l,p.id≠pi)∧k≤l.length∧(∀ (t:Nat) (p:Pt),t<k→l[t]?=some p→p.id<pi)∧(∀ (t:Nat) (p:Pt),k≤t→l[t]?=some p→pi<p.id)∧
  qfn 95 l (qab pi pa pb) (l.take k++⟨pi,pa,pb⟩::l.drop k)∧qfn 107 l (qab pi pa pb) (l.take k++⟨pi,pa,pb⟩::l.drop k)):=by
 have cw:=qmH l pi pa pb
 by_cases h0:qb4 l=0
 ·have hv:=qbd.1 h0
  have c2:=qbe l
  rw[h0] at c2
  rw[if_pos h0] at cw
  by_cases hp:okP pi pa pb=true
  ·rw[if_pos hp] at cw
   rcases place l hv pi with ⟨k,p,hk,he⟩ | ⟨hno,k,hkl,hlo,hhi⟩
   ·exact Or.inl ⟨14,qk2 cw (qdH hv hk he),qkX c2 (qaW hp) (qjT hv hk he) (dt (by omega)),Or.inr (Or.inr (Or.inl ⟨hv,hp,⟨p,List.mem_of_getElem? hk,he⟩,rfl⟩))⟩
   ·have hn:=hv.len
    by_cases h64:l.length=64
    ·exact Or.inl ⟨18,qlu cw (qgB hv hkl hlo hhi) (by simp[h64]),qn6 c2 (qaW hp) (qoV hv.len hno) (by simp[h64]),Or.inr (Or.inr (Or.inr ⟨hv,hp,hno,h64,rfl⟩))⟩
    ·refine Or.inr ⟨k,hv,hp,by omega,hno,hkl,hlo,hhi,?_,qtJ hv (by omega) hp hno hkl hlo hhi⟩
     exact qub (s1:=(k:Int)) (s2:=(k:Int)+1) (s3:=(l.length:Int)+1) hkl cw (qgB hv hkl hlo hhi) (by simp;omega) (qby (by omega) (by omega) (by omega)) (df (by omega)) (qby (by omega) (by omega) (by omega)) (df (by omega)) (qby (by omega) (by omega) (by omega)) (df (by omega)) (qgO (by omega) (by omega)) (by omega) (by omega) (by omega)
  ·rw[if_neg hp] at cw
   exact Or.inl ⟨8,qjL cw (by decide),qqB c2 (qcH hp),Or.inr (Or.inl ⟨hv,hp,rfl⟩)⟩
 ·rw[if_neg h0] at cw
  exact Or.inl ⟨qb4 l,qjL cw (by simp[h0]),qps (qbe l) (by simp[h0]),Or.inl ⟨h0,rfl⟩⟩
abbrev saT (k:Nat):List (Nat×SV):=[(2,.pp 2 0),(3,.pp 3 0),(5,.pv (iV (k:Int)))]
theorem qtn {l:List Pt} (hn:l.length≤1000000):Fn 49 2 [qaq 0 l,qaq 1 l] [(0,0,qad l),(1,0,qad l)] (.pv (.bool true)) 0 []:=
 qpb (by simp) (RunsL.rounds saT (fun _=>[(2,0,.ls 0 l.length),(3,0,.ls 1 l.length),(0,0,qad l),(1,0,qad l)]) l.length 0 (Nat.zero_add _)
  (fun k _ hk r=>by
   obtain⟨p,hp⟩:=qan hk
   exact qlF hp (qaB hk) hp (qaB hk) (dt (by omega)) (by simp) (qav (by omega)) r)
  (qqj (df (by omega))))
end Go.Proofs.YtleaeldgaflmkaaGreat
