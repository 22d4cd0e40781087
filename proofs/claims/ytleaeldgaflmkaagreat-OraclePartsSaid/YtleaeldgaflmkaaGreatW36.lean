/-
  Joined: Ve, Vf0, Fr, Vn. Conditions: none.
-/
import Derived.Test.YtleaeldgaflmkaaGreatW35
import Derived.Test.YtleaeldgaflmkaaGreatW25
import Derived.Test.YtleaeldgaflmkaaGreatF
import Derived.Test.YtleaeldgaflmkaaGreatW32
import Derived.Test.YtleaeldgaflmkaaGreatW34
import Derived.Test.YtleaeldgaflmkaaGreatW31
namespace Go.Proofs.YtleaeldgaflmkaaGreat
set_option maxRecDepth 100000
open Go.RowKit
def ptK (s:List Pt) (k:Nat):Pt:=s.getD k ⟨0,0,0⟩
theorem qbN {s:List Pt} {k:Nat} (h:k<s.length):s[k]?=some (ptK s k):=by unfold ptK;rw[List.getD_eq_getElem?_getD,List.getElem?_eq_getElem h];rfl
section
variable {s:List Pt} {n d:Int}
def quT (s:List Pt) (n d:Int) (x:Nat×Nat):Int:=quY (ptK s x.1) (ptK s x.2) n d
def ltK (s:List Pt) (n d:Int) (x y:Nat×Nat):Bool:=decide (quT s n d x<quT s n d y)
structure DisI (s:List Pt) (n d:Int) (x:Nat×Nat) (N D:Int):Prop where
 ok:okB N D=true
 num:I64 N
 den:I64 D
 eq:N*d=quT s n d x*D
theorem DisI.less {x y:Nat×Nat} {N D N' D':Int} (hd:1≤d) (h:DisI s n d x N D) (k:DisI s n d y N' D'):(N*D'-N'*D).sign<0↔ltK s n d x y=true:=by
 have d1:=qax h.ok
 have d2:=qax k.ok
 have hp:0<D*D':=Int.mul_pos (by omega) (by omega)
 have e1:N*D'*d=quT s n d x*(D*D'):=by rw[Int.mul_right_comm,h.eq,Int.mul_assoc]
 have e2:N'*D*d=quT s n d y*(D*D'):=by rw[Int.mul_right_comm,k.eq,Int.mul_assoc,Int.mul_comm D']
 unfold ltK
 rw[decide_eq_true_eq]
 have hs:(N*D'-N'*D).sign<0↔N*D'<N'*D:=by
  rw[Int.sign_neg_iff]
  omega
 rw[hs]
 constructor
 ·intro q
  have:=Int.mul_lt_mul_of_pos_right q (show 0<d by omega)
  rw[e1,e2] at this
  exact Int.lt_of_mul_lt_mul_right this (Int.le_of_lt hp)
 ·intro q
  have:=Int.mul_lt_mul_of_pos_right q hp
  rw[← e1,← e2] at this
  exact Int.lt_of_mul_lt_mul_right this (by omega)
abbrev paT (i j a:Nat):List (Nat×SV):=[(2,.pp 1 0),(3,.pp 2 0),(4,.pv (iV 0)),(5,.pv (iV 0)),(6,.pp 3 0),(7,.pv (iV (i:Int))),(8,.pv (iV (j:Int))),(9,.pp 4 0),(10,.pv (iV (a:Int)))]
abbrev paI (i j a b:Nat):List (Nat×SV):=[(2,.pp 1 0),(3,.pp 2 0),(4,.pv (iV 0)),(5,.pv (iV 0)),(6,.pp 3 0),(7,.pv (iV (i:Int))),(8,.pv (iV (j:Int))),(9,.pp 4 0),(10,.pv (iV (a:Int))),(11,.pv (iV (b:Int)))]
abbrev paE (i j:Nat):List (Nat×SV):=[(2,.pp 1 0),(3,.pp 2 0),(4,.pv (iV 0)),(5,.pv (iV 0)),(6,.pp 3 0),(7,.pv (iV (i:Int))),(8,.pv (iV (j:Int))),(9,.pp 4 0)]
abbrev paH (s:List Pt) (n d N D:Int):List (Nat×Nat×SV):=[(1,0,.ls 0 s.length),(2,0,.pv (iV n)),(2,1,.pv (iV d)),(3,0,.pv (iV 0)),(3,1,.pv (iV 0)),(4,0,.pv (iV N)),(4,1,.pv (iV D)),(0,0,qad s)]
theorem qwj (hs:∀ p∈s,qcg p=true) (h:AskT n d) {a b:Nat} (ha:a<s.length) (hb:b<s.length):∃ N D,DisI s n d (a,b) N D∧Pure Tryz.prog 106 #[qab (ptK s a).id (ptK s a).a (ptK s a).b,qab (ptK s b).id (ptK s b).a (ptK s b).b,qaa n d] (qaa N D):=by
 obtain⟨N,D,h1,h2,h3,h4,h5⟩:=qAS (hs _ (List.mem_of_getElem? (qbN ha))) (hs _ (List.mem_of_getElem? (qbN hb))) h
 exact⟨N,D,⟨h1,h2,h3,h4⟩,h5⟩
theorem qiD (hs:∀ p∈s,qcg p=true) (h:AskT n d) (hl:s.length≤999999) {a:Nat} (ha:a<s.length):∀ (c b:Nat) (cur:Nat×Nat) (N D:Int),b+c=s.length→cur.1<s.length∧cur.2<s.length→DisI s n d cur N D→
 ∃ N' D',DisI s n d (qa8 (ltK s n d) cur ((List.range' b c).map fun b=>(a,b))) N' D'∧((qa8 (ltK s n d) cur ((List.range' b c).map fun b=>(a,b))).1<s.length∧(qa8 (ltK s n d) cur ((List.range' b c).map fun b=>(a,b))).2<s.length)∧
  Rl 1 1 77 1 71 5 (paI cur.1 cur.2 a b) (paH s n d N D) (.exit 2) (paT (qa8 (ltK s n d) cur ((List.range' b c).map fun b=>(a,b))).1 (qa8 (ltK s n d) cur ((List.range' b c).map fun b=>(a,b))).2 a) (paH s n d N' D')
 | 0,b,cur,N,D,hb,hc,hi=>⟨N,D,hi,hc,qpC (hlt:=df (by omega))⟩
 | c+1,b,cur,N,D,hb,hc,hi=>by
  have hbl:b<s.length:=by omega
  obtain⟨_,_,d1⟩:=h.in
  obtain⟨N1,D1,i1,cd⟩:=qwj hs h ha hbl
  have cc:=qbz i1.num i1.den hi.num hi.den
  have hl1:=i1.less d1 hi
  have e:qa8 (ltK s n d) cur ((List.range' b (c+1)).map fun b=>(a,b))=qa8 (ltK s n d) (if ltK s n d (a,b) cur then (a,b) else cur) ((List.range' (b+1) c).map fun b=>(a,b)):=rfl
  rw[e]
  by_cases hw:ltK s n d (a,b) cur=true
  ·rw[if_pos hw]
   obtain⟨N2,D2,j1,j2,r⟩:=qiD hs h hl ha c (b+1) (a,b) N1 D1 (by omega) ⟨ha,hbl⟩ i1
   exact⟨N2,D2,j1,j2,qqg (hlt:=dt (by omega)) (ia:=⟨by omega,by omega⟩) (ib:=⟨by omega,by omega⟩) (hp:=qbN ha) (hq:=qbN hbl) (cd:=cd) (cc:=cc) (hc:=dt (hl1.2 hw)) (hs:=qar (by omega)) r⟩
  ·rw[if_neg hw]
   obtain⟨N2,D2,j1,j2,r⟩:=qiD hs h hl ha c (b+1) cur N D (by omega) hc hi
   exact⟨N2,D2,j1,j2,qp8 (hlt:=dt (by omega)) (ia:=⟨by omega,by omega⟩) (ib:=⟨by omega,by omega⟩) (hp:=qbN ha) (hq:=qbN hbl) (cd:=cd) (cc:=cc) (hc:=df fun q=>hw (hl1.1 q)) (hs:=qar (by omega)) r⟩
def qbB (n a c:Nat):List (Nat×Nat):=(List.range' a c).flatMap fun a=>(List.range' (a+1) (n-(a+1))).map fun b=>(a,b)
theorem qfZ (n:Nat):qbB n 0 n=qor n:=by unfold qbB qor;rw[List.range_eq_range']
theorem qjO (hs:∀ p∈s,qcg p=true) (h:AskT n d) (hl:s.length≤999999):∀ (c a:Nat) (cur:Nat×Nat) (N D:Int),a+c=s.length→cur.1<s.length∧cur.2<s.length→DisI s n d cur N D→
 ∃ N' D',DisI s n d (qa8 (ltK s n d) cur (qbB s.length a c)) N' D'∧((qa8 (ltK s n d) cur (qbB s.length a c)).1<s.length∧(qa8 (ltK s n d) cur (qbB s.length a c)).2<s.length)∧
  Rl 1 1 77 0 71 5 (paT cur.1 cur.2 a) (paH s n d N D) (.exit 0) (paE (qa8 (ltK s n d) cur (qbB s.length a c)).1 (qa8 (ltK s n d) cur (qbB s.length a c)).2) (paH s n d N' D')
 | 0,a,cur,N,D,ha,hc,hi=>⟨N,D,hi,hc,quh (hlt:=df (by omega))⟩
 | c+1,a,cur,N,D,ha,hc,hi=>by
  have hal:a<s.length:=by omega
  obtain⟨N1,D1,i1,i2,r1⟩:=qiD hs h hl hal (s.length-(a+1)) (a+1) cur N D (by omega) hc hi
  obtain⟨N2,D2,j1,j2,r2⟩:=qjO hs h hl c (a+1) _ N1 D1 (by omega) i2 i1
  have e:qa8 (ltK s n d) cur (qbB s.length a (c+1))=qa8 (ltK s n d) (qa8 (ltK s n d) cur ((List.range' (a+1) (s.length-(a+1))).map fun b=>(a,b))) (qbB s.length (a+1) c):=by
   show qa8 _ cur (((List.range' (a+1) (s.length-(a+1))).map fun b=>(a,b))++qbB s.length (a+1) c)=_
   unfold qa8
   rw[List.foldl_append]
  rw[e]
  exact⟨N2,D2,j1,j2,qqR (hlt:=dt (by omega)) (ha:=qar (by omega)) (r0:=r1) (hb:=qar (by omega)) r2⟩
def qb6 (s:List Pt) (n d:Int):Nat×Nat:=qa8 (ltK s n d) (0,1) (qor s.length)
theorem qAs (hs:∀ p∈s,qcg p=true) (h:AskT n d) (hl:s.length≤999999) (h2:2≤s.length):∃ N D,DisI s n d (qb6 s n d) N D∧((qb6 s n d).1<s.length∧(qb6 s n d).2<s.length)∧
 Fn 77 1 [qap 0 s,.pv (qaa n d)] [(0,0,qad s)] (.pv (.tuple #[iV (ptK s (qb6 s n d).1).id,iV (ptK s (qb6 s n d).2).id,qaa N D])) 0 []:=by
 obtain⟨N1,D1,i1,cd⟩:=qwj hs h (a:=0) (b:=1) (by omega) (by omega)
 obtain⟨N,D,j1,j2,r⟩:=qjO hs h hl s.length 0 (0,1) N1 D1 (by omega) ⟨by show 0<s.length;omega,by show 1<s.length;omega⟩ i1
 rw[qfZ] at j1 j2 r
 exact⟨N,D,j1,j2,qv8 (i0:=⟨by omega,by omega⟩) (i1:=⟨by omega,by omega⟩) (h0:=qbN (by omega)) (h1:=qbN (by omega)) (cd:=cd) (r0:=r) (ii:=⟨by omega,by have:=j2.1;show ((qb6 s n d).1:Int)<_;unfold qb6;omega⟩) (ij:=⟨by omega,by have:=j2.2;show ((qb6 s n d).2:Int)<_;unfold qb6;omega⟩) (hi:=qbN j2.1) (hj:=qbN j2.2)⟩
end
end Go.Proofs.YtleaeldgaflmkaaGreat

namespace Go.Proofs.YtleaeldgaflmkaaGreat
set_option maxRecDepth 100000
open Go.RowKit
section
variable {n d:Int}
theorem qbO:qev n d=0↔AskT n d:=by
 constructor
 ·intro h
  by_cases h1:okB n d=true
  ·by_cases h2:n≤1073741824∧-1073741824≤n∧d≤1024
   ·exact⟨h1,h2.2.1,h2.1,h2.2.2⟩
   ·rw[qc4 h1 h2] at h;cases h
  ·rw[qgz h1] at h;cases h
 ·intro h
  exact qiX h.ok ⟨h.hi,h.lo,h.den⟩
end
end Go.Proofs.YtleaeldgaflmkaaGreat

namespace Go.Proofs.YtleaeldgaflmkaaGreat
set_option maxRecDepth 100000
open Go.RowKit
def ld (tn td:Int) (p q:Pt):Bool:=qbW (p.a*td+p.b*tn) (q.a*td+q.b*tn) p.b q.b p.id q.id
theorem qf2 {P Q pb qb pi qi:Int}:qbW P Q pb qb pi qi=true↔(P>Q∨P=Q∧(pb>qb∨pb=qb∧pi<qi)):=by unfold qbW;exact decide_eq_true_iff
theorem qdn {P Q pb qb pi qi:Int}:qbW P Q pb qb pi qi=false↔¬ (P>Q∨P=Q∧(pb>qb∨pb=qb∧pi<qi)):=by unfold qbW;exact decide_eq_false_iff_not
section
variable {tn td:Int} {p q r:Pt}
theorem qe3 (p:Pt):ld tn td p p=false:=qdn.2 (by omega)
theorem qjX (h:ld tn td p q=true) (k:ld tn td q r=true):ld tn td p r=true:=by
 unfold ld at *
 generalize p.a*td+p.b*tn=P at *
 generalize q.a*td+q.b*tn=Q at *
 generalize r.a*td+r.b*tn=R at *
 rw[qf2] at *
 omega
theorem qny (h:ld tn td p q=false) (k:ld tn td q r=false):ld tn td p r=false:=by
 unfold ld at *
 generalize p.a*td+p.b*tn=P at *
 generalize q.a*td+q.b*tn=Q at *
 generalize r.a*td+r.b*tn=R at *
 rw[qdn] at *
 omega
theorem qik (h:ld tn td p q=true):ld tn td q p=false:=by
 cases hh:ld tn td q p
 ·rfl
 ·have:=qjX h hh;rw[qe3] at this;cases this
theorem qr3 (hi:p.id≠q.id) (h:ld tn td p q=false):ld tn td q p=true:=by
 unfold ld at *
 generalize p.a*td+p.b*tn=P at *
 generalize q.a*td+q.b*tn=Q at *
 rw[qdn] at h
 rw[qf2]
 omega
end
def rk (tn td:Int) (l:List Pt) (p:Pt):Nat:=l.countP fun q=>ld tn td q p
theorem qrx {tn td:Int}:∀ (s:List Pt) (k:Nat) (p:Pt),s.Pairwise (fun p q=>ld tn td p q=true)→s[k]?=some p→rk tn td s p=k
 | [],_,_,_,h=>by simp at h
 | a::r,0,p,hp,h=>by
  simp only[List.getElem?_cons_zero,Option.some.injEq] at h
  subst h
  rw[List.pairwise_cons] at hp
  unfold rk
  rw[List.countP_eq_zero]
  intro q hq
  rcases List.mem_cons.1 hq with rfl | hq
  ·rw[qe3];decide
  ·rw[qik (hp.1 q hq)];decide
 | a::r,k+1,p,hp,h=>by
  rw[List.getElem?_cons_succ] at h
  rw[List.pairwise_cons] at hp
  have:=qrx r k p hp.2 h
  unfold rk at this ⊢
  rw[List.countP_cons,this,if_pos (hp.1 p (List.mem_of_getElem? h))]
structure Srt (l:List Pt) (tn td:Int) (s:List Pt):Prop where
 perm:s.Perm l
 pw:s.Pairwise (fun p q=>ld tn td p q=true)
theorem Srt.len {l s:List Pt} {tn td:Int} (h:Srt l tn td s):s.length=l.length:=h.perm.length_eq
theorem Srt.rank {l s:List Pt} {tn td:Int} (h:Srt l tn td s) {k:Nat} {p:Pt} (hk:s[k]?=some p):rk tn td l p=k:=by
 have:=qrx s k p h.pw hk
 unfold rk at this ⊢
 rw[← h.perm.countP_eq];exact this
theorem Srt.at {l s:List Pt} {tn td:Int} (h:Srt l tn td s) {p:Pt} (hp:p∈l):s[rk tn td l p]?=some p:=by
 obtain⟨k,hk,e⟩:=List.getElem_of_mem (h.perm.mem_iff.2 hp)
 have hk':s[k]?=some p:=by rw[List.getElem?_eq_getElem hk,e]
 rw[h.rank hk'];exact hk'
theorem Srt.lt {l s:List Pt} {tn td:Int} (h:Srt l tn td s) {p:Pt} (hp:p∈l):rk tn td l p<l.length:=by rw[← h.len];exact qaw (h.at hp)
theorem Srt.uniq {l s t:List Pt} {tn td:Int} (h:Srt l tn td s) (k:Srt l tn td t):s=t:=by
 apply List.ext_getElem?
 intro i
 by_cases hi:i<t.length
 ·obtain⟨p,hp⟩:=qal hi
  rw[hp]
  have:=h.at (k.perm.mem_iff.1 (List.mem_of_getElem? hp))
  rw[k.rank hp] at this
  exact this
 ·have e1:t[i]?=none:=List.getElem?_eq_none (by omega)
  have e2:s[i]?=none:=List.getElem?_eq_none (by have:=h.len;have:=k.len;omega)
  rw[e1,e2]
theorem Srt.mk_of {l s:List Pt} {tn td:Int} (hv:Val l) (hp:s.Perm l) (h:s.Pairwise (fun p q=>ld tn td q p=false)):Srt l tn td s:=by
 have hne:l.Pairwise (fun p q=>p.id≠q.id):=by
  rw[List.pairwise_iff_getElem]
  intro i j hi hj hij
  have:=hv.up.mono hij (List.getElem?_eq_getElem hi) (List.getElem?_eq_getElem hj)
  omega
 have hns:s.Pairwise (fun p q=>p.id≠q.id):=(hp.pairwise_iff (fun h e=>h e.symm)).2 hne
 exact⟨hp,(h.and hns).imp fun ⟨a,b⟩=>qr3 (fun e=>b e.symm) a⟩
theorem qeB {l:List Pt} {tn td:Int} (hv:Val l):∃ s,Srt l tn td s:=by
 refine⟨l.mergeSort (fun p q=>!ld tn td q p),Srt.mk_of hv (List.mergeSort_perm _ _) ?_⟩
 have h:=List.pairwise_mergeSort (le:=fun p q:Pt=>!ld tn td q p) (fun a b c h1 h2=>?_) (fun a b=>?_) l
 ·exact h.imp fun {a b} h=>by simpa using h
 ·have h1':ld tn td b a=false:=by simpa using h1
  have h2':ld tn td c b=false:=by simpa using h2
  simp[qny h2' h1']
 ·cases h:ld tn td b a
  ·simp
  ·simp[qik h]
theorem qn4 {l:List Pt} (hv:Val l) {p q:Pt} (hp:p∈l) (hq:q∈l) (e:p.id=q.id):p=q:=by
 obtain⟨i,hi,rfl⟩:=List.getElem_of_mem hp
 obtain⟨j,hj,rfl⟩:=List.getElem_of_mem hq
 rcases Nat.lt_trichotomy i j with h | h | h
 ·have:=hv.up.mono h (List.getElem?_eq_getElem hi) (List.getElem?_eq_getElem hj);omega
 ·subst h;rfl
 ·have:=hv.up.mono h (List.getElem?_eq_getElem hj) (List.getElem?_eq_getElem hi);omega
def cfL (tn td:Int) (p q:Pt):Int:=if p.id=q.id then 0 else if ld tn td p q=true then -1 else 1
theorem qud {tn td:Int} {p q:Pt} (h:p.id=q.id→p=q):decide (cfL tn td p q<0)=ld tn td p q:=by
 unfold cfL
 by_cases e:p.id=q.id
 ·rw[if_pos e,h e,qe3];rfl
 ·rw[if_neg e]
  cases ld tn td p q<;>rfl
theorem qs2 {tn td:Int} {l:List Pt} {k:Nat} {q p:Pt} (hq:l[k]?=some q):rk tn td (l.take (k+1)) p=rk tn td (l.take k) p+(if ld tn td q p=true then 1 else 0):=by
 have:l.take (k+1)=l.take k++[q]:=by rw[List.take_add_one,hq];rfl
 unfold rk
 rw[this,List.countP_append,List.countP_cons,List.countP_nil,Nat.zero_add]
end Go.Proofs.YtleaeldgaflmkaaGreat

namespace Go.Proofs.YtleaeldgaflmkaaGreat
set_option maxRecDepth 100000
open Go.RowKit
section
variable {s:List Pt} {n d:Int}
structure PlaI (s:List Pt) (n d:Int) (k:Nat) (m:Rz):Prop where
 ok:okB m.n m.d=true
 num:I64 m.n
 den:I64 m.d
 eq:m.n*d=plS (ptK s k) n d*m.d
theorem qrF {p:Pt} (hp:qcg p=true) (h:AskT n d):∃ N D E,okB N D=true∧I64 N∧I64 D∧N*d=plS p n d*D∧Pure Tryz.prog 37 #[qab p.id p.a p.b,qaa n d] (.tuple #[qaa N D,iV E]):=by
 obtain⟨i1,i2,i3⟩:=h.in
 obtain⟨N,D,E,hr,hc⟩:=qxD i1 i2 hp h.ok
 have g:=qd7 hp h
 obtain⟨_,f2,f3,f4,f5⟩:=IsRes.fits hr (by omega) i2.2 (by unfold plS at g;omega) (by unfold plS at g;omega)
 exact⟨N,D,E,f2,f3,f4,f5,hc⟩
theorem qrg (hs:∀ p∈s,qcg p=true) (h:AskT n d) (hl:s.length≤999999):∀ (c k:Nat) (ts:List Rz),k+c=s.length→ts.length=s.length→(∀ j,j<k→∃ m,ts[j]?=some m∧PlaI s n d j m)→
 ∃ us:List Rz,(∀ j,j<s.length→∃ m,us[j]?=some m∧PlaI s n d j m)∧Rl 1 1 70 0 31 5 [(2,.pp 1 0),(3,.pp 2 0),(5,.pp 4 0),(13,.ls 0 s.length),(14,.pv (iV (s.length:Int))),(15,.pv (iV (k:Int)))] [(1,0,.ls 0 s.length),(2,0,.pv (iV n)),(2,1,.pv (iV d)),(4,0,.ls 3 s.length),(0,0,qad s),(3,0,qj1 s.length ts)] (.exit 0) [(2,.pp 1 0),(5,.pp 4 0)] [(1,0,.ls 0 s.length),(2,0,.pv (iV n)),(2,1,.pv (iV d)),(4,0,.ls 3 s.length),(0,0,qad s),(3,0,qj1 s.length us)]
 | 0,k,ts,hk,ht,hi=>⟨ts,fun j hj=>hi j (by omega),qt5 (hlt:=df (by omega))⟩
 | c+1,k,ts,hk,ht,hi=>by
  have hkl:k<s.length:=by omega
  obtain⟨N,D,E,h1,h2,h3,h4,hc⟩:=qrF (hs _ (List.mem_of_getElem? (qbN hkl))) h
  obtain⟨us,hu,r⟩:=qrg hs h hl c (k+1) (ts.set k ⟨N,D⟩) (by omega) (by rw[List.length_set];exact ht) (fun j hj=>by
   by_cases e:j=k
   ·subst e
    exact⟨⟨N,D⟩,by rw[List.getElem?_set_self (by omega)],⟨h1,h2,h3,h4⟩⟩
   ·rw[List.getElem?_set_ne (fun q=>e q.symm)]
    exact hi j (by omega))
  exact⟨us,hu,qqx (hlt:=dt (by omega)) (hin:=⟨by omega,by omega⟩) (hp:=qbN hkl) (ha:=hc) (hk:=by omega) (hs:=qar (by omega)) r⟩
theorem qs4 {x:Int}:(if -x>x then -x else x)=if x<0 then -x else x:=by
 by_cases h:x<0
 ·rw[if_pos h,if_pos (by omega)]
 ·rw[if_neg h,if_neg (by omega)]
theorem qwP (hs:∀ p∈s,qcg p=true) (h:AskT n d) {us:List Rz} (hu:∀ j,j<s.length→∃ m,us[j]?=some m∧PlaI s n d j m) {a b:Nat} (ha:a<s.length) (hb:b<s.length):∃ N D,DisI s n d (a,b) N D∧
 Fn 100 4 [.pv (iV (a:Int)),.pv (iV (b:Int)),.pp 2 0,.pp 1 0] [(0,0,qad s),(1,0,.ls 0 s.length),(2,0,.ls 3 s.length),(3,0,qj1 s.length us)] (.pv (.agg #[iV (ptK s a).id,iV (ptK s b).id,iV N,iV D])) 0 []:=by
 obtain⟨i1,i2,i3⟩:=h.in
 obtain⟨m1,t1,p1⟩:=hu a ha
 obtain⟨m2,t2,p2⟩:=hu b hb
 have g1:=qd7 (hs _ (List.mem_of_getElem? (qbN ha))) h
 have g2:=qd7 (hs _ (List.mem_of_getElem? (qbN hb))) h
 obtain⟨N,D,E,hr,hc⟩:=qsb p1.num p1.den p2.num p2.den p1.ok p2.ok
 have d1:=qax p1.ok
 have d2:=qax p2.ok
 have hm:=qhS (a:=plS (ptK s a) n d-plS (ptK s b) n d) (b:=d) (by omega)
 have hd0:m1.d*m2.d≠0:=Int.mul_ne_zero (by omega) (by omega)
 have ex:(m1.n*m2.d-m2.n*m1.d)*d=(plS (ptK s a) n d-plS (ptK s b) n d)*(m1.d*m2.d):=by
  have t1:m1.n*m2.d*d=plS (ptK s a) n d*(m1.d*m2.d):=by rw[Int.mul_right_comm,p1.eq,Int.mul_assoc]
  have t2:m2.n*m1.d*d=plS (ptK s b) n d*(m1.d*m2.d):=by rw[Int.mul_right_comm,p2.eq,Int.mul_assoc,Int.mul_comm m2.d]
  rw[Int.sub_mul,Int.sub_mul,t1,t2]
 have hu:=IsRes.uniqR hr hm hd0 (by omega) ex
 obtain⟨f1,f2,f3,f4,f5⟩:=IsRes.fits hm (by omega) i2.2 (by omega) (by omega)
 obtain⟨u1,u2,u3⟩:=hu
 rw[u1,u2,u3] at hc
 have hD:=qax f2
 have hN:=qbq f2
 have f3':=f3
 obtain⟨x1,x2⟩:=f3'
 have sgn:mkN (plS (ptK s a) n d-plS (ptK s b) n d) d<0↔plS (ptK s a) n d-plS (ptK s b) n d<0:=by
  constructor
  ·intro hn
   apply Classical.byContradiction
   intro hc
   have:0≤(plS (ptK s a) n d-plS (ptK s b) n d)*mkD (plS (ptK s a) n d-plS (ptK s b) n d) d:=Int.mul_nonneg (by omega) (by omega)
   have h2:mkN (plS (ptK s a) n d-plS (ptK s b) n d) d*d<0:=Int.mul_neg_of_neg_of_pos hn (by omega)
   omega
  ·intro hc
   apply Classical.byContradiction
   intro hn
   have h1:(plS (ptK s a) n d-plS (ptK s b) n d)*mkD (plS (ptK s a) n d-plS (ptK s b) n d) d<0:=Int.mul_neg_of_neg_of_pos hc (by omega)
   have h2:0≤mkN (plS (ptK s a) n d-plS (ptK s b) n d) d*d:=Int.mul_nonneg (by omega) (by omega)
   omega
 have R:=ppc (s:=s) (i:=a) (j:=b) (ts:=us) (ia:=⟨by omega,by omega⟩) (ib:=⟨by omega,by omega⟩) (ht:=t1) (hu:=t2) (hp:=qbN ha) (hq:=qbN hb) (cs:=hc) (e1:=-mkN (plS (ptK s a) n d-plS (ptK s b) n d) d) (hn:=by rw[qah (by omega) (by omega),Int.zero_sub])
 rw[qs4] at R
 refine⟨_,_,⟨?_,?_,f4,?_⟩,R⟩
 ·split
  ·exact qea f3.2 f2
  ·exact f2
 ·split
  ·exact⟨by omega,by omega⟩
  ·exact f3
 ·show _*d=quY (ptK s a) (ptK s b) n d*_
  unfold quY
  split
  ·next hn=>rw[if_pos (sgn.1 hn),Int.neg_mul,Int.neg_mul,f5]
  ·next hn=>rw[if_neg fun q=>hn (sgn.2 q)];exact f5
theorem qAT {N D N' D':Int} {x y:Nat×Nat} (d1:1≤d) (i:DisI s n d x N D) (j:DisI s n d y N' D'):Pure Tryz.prog 71 #[qaa N D,qaa N' D'] (.bool (ltK s n d x y)):=by
 have hc:=qkk i.num i.den j.num j.den i.ok j.ok
 have hl:=i.less d1 j
 by_cases hw:ltK s n d x y=true
 ·rw[hw];exact qzj (h1:=hc) (h2:=dt (hl.2 hw))
 ·rw[Bool.not_eq_true _ |>.mp hw];exact qyR (h1:=hc) (h2:=df fun q=>hw (hl.1 q))
abbrev qBn (s:List Pt) (a:Nat):List (Nat×SV):=[(2,.pp 1 0),(4,.pp 3 0),(5,.pc 100 [.pp 5 0,.pp 4 0]),(6,.pp 7 0),(17,.pv (iV (s.length:Int))),(18,.pv (iV (a:Int)))]
abbrev qBl (s:List Pt) (a:Nat):List (Nat×SV):=[(2,.pp 1 0),(4,.pp 3 0),(5,.pc 100 [.pp 5 0,.pp 4 0]),(6,.pp 7 0),(17,.pv (iV (s.length:Int))),(18,.pv (iV (a:Int))),(7,.pv (iV (a:Int)))]
abbrev qBi (s:List Pt) (a b:Nat):List (Nat×SV):=[(2,.pp 1 0),(4,.pp 3 0),(5,.pc 100 [.pp 5 0,.pp 4 0]),(6,.pp 7 0),(17,.pv (iV (s.length:Int))),(18,.pv (iV (a:Int))),(7,.pv (iV (a:Int))),(8,.pv (iV (b:Int)))]
abbrev qyo (s:List Pt) (us:List Rz) (x:Nat×Nat) (N D:Int):List (Nat×Nat×SV):=[(1,0,.ls 0 s.length),(3,0,.pv (iV 0)),(3,1,.pv (iV 0)),(3,2,.pv (iV 0)),(3,3,.pv (iV 0)),(4,0,.ls 0 s.length),(5,0,.ls 6 s.length),(7,0,.pv (iV (ptK s x.1).id)),(7,1,.pv (iV (ptK s x.2).id)),(7,2,.pv (iV N)),(7,3,.pv (iV D)),(0,0,qad s),(6,0,qj1 s.length us)]
theorem qiV (hs:∀ p∈s,qcg p=true) (h:AskT n d) (hl:s.length≤999999) {us:List Rz} (hu:∀ j,j<s.length→∃ m,us[j]?=some m∧PlaI s n d j m) {a:Nat} (ha:a<s.length):∀ (c b:Nat) (cur:Nat×Nat) (N D:Int),b+c=s.length→cur.1<s.length∧cur.2<s.length→DisI s n d cur N D→
 ∃ N' D',DisI s n d (qa8 (ltK s n d) cur ((List.range' b c).map fun b=>(a,b))) N' D'∧((qa8 (ltK s n d) cur ((List.range' b c).map fun b=>(a,b))).1<s.length∧(qa8 (ltK s n d) cur ((List.range' b c).map fun b=>(a,b))).2<s.length)∧
  Rl 1 1 45 1 42 8 (qBi s a b) (qyo s us cur N D) (.exit 2) (qBl s a) (qyo s us (qa8 (ltK s n d) cur ((List.range' b c).map fun b=>(a,b))) N' D')
 | 0,b,cur,N,D,hb,hc,hi=>⟨N,D,hi,hc,qq8 (hlt:=df (by omega))⟩
 | c+1,b,cur,N,D,hb,hc,hi=>by
  have hbl:b<s.length:=by omega
  obtain⟨_,_,d1⟩:=h.in
  obtain⟨N1,D1,i1,cd⟩:=qwP hs h hu ha hbl
  have cc:=qAT d1 i1 hi
  have e:qa8 (ltK s n d) cur ((List.range' b (c+1)).map fun b=>(a,b))=qa8 (ltK s n d) (if ltK s n d (a,b) cur then (a,b) else cur) ((List.range' (b+1) c).map fun b=>(a,b)):=rfl
  rw[e]
  by_cases hw:ltK s n d (a,b) cur=true
  ·rw[if_pos hw]
   rw[hw] at cc
   obtain⟨N2,D2,j1,j2,r⟩:=qiV hs h hl hu ha c (b+1) (a,b) N1 D1 (by omega) ⟨ha,hbl⟩ i1
   exact⟨N2,D2,j1,j2,qqZ (hlt:=dt (by omega)) (hc:=cd) (cc:=cc) (hs:=qar (by omega)) r⟩
  ·rw[if_neg hw]
   rw[Bool.not_eq_true _ |>.mp hw] at cc
   obtain⟨N2,D2,j1,j2,r⟩:=qiV hs h hl hu ha c (b+1) cur N D (by omega) hc hi
   exact⟨N2,D2,j1,j2,qqw (hlt:=dt (by omega)) (hc:=cd) (cc:=cc) (hs:=qar (by omega)) r⟩
theorem qjQ (hs:∀ p∈s,qcg p=true) (h:AskT n d) (hl:s.length≤999999) {us:List Rz} (hu:∀ j,j<s.length→∃ m,us[j]?=some m∧PlaI s n d j m):∀ (c a:Nat) (cur:Nat×Nat) (N D:Int),a+c=s.length→cur.1<s.length∧cur.2<s.length→DisI s n d cur N D→
 ∃ N' D',DisI s n d (qa8 (ltK s n d) cur (qbB s.length a c)) N' D'∧((qa8 (ltK s n d) cur (qbB s.length a c)).1<s.length∧(qa8 (ltK s n d) cur (qbB s.length a c)).2<s.length)∧
  Rl 1 1 45 0 42 8 (qBn s a) (qyo s us cur N D) (.exit 0) [(2,.pp 1 0),(4,.pp 3 0),(5,.pc 100 [.pp 5 0,.pp 4 0]),(6,.pp 7 0)] (qyo s us (qa8 (ltK s n d) cur (qbB s.length a c)) N' D')
 | 0,a,cur,N,D,ha,hc,hi=>⟨N,D,hi,hc,qsv (hlt:=df (by omega))⟩
 | c+1,a,cur,N,D,ha,hc,hi=>by
  have hal:a<s.length:=by omega
  obtain⟨N1,D1,i1,i2,r1⟩:=qiV hs h hl hu hal (s.length-(a+1)) (a+1) cur N D (by omega) hc hi
  obtain⟨N2,D2,j1,j2,r2⟩:=qjQ hs h hl hu c (a+1) _ N1 D1 (by omega) i2 i1
  have e:qa8 (ltK s n d) cur (qbB s.length a (c+1))=qa8 (ltK s n d) (qa8 (ltK s n d) cur ((List.range' (a+1) (s.length-(a+1))).map fun b=>(a,b))) (qbB s.length (a+1) c):=by
   show qa8 _ cur (((List.range' (a+1) (s.length-(a+1))).map fun b=>(a,b))++qbB s.length (a+1) c)=_
   unfold qa8
   rw[List.foldl_append]
  rw[e]
  exact⟨N2,D2,j1,j2,qps (hlt:=dt (by omega)) (ha:=qar (by omega)) (r0:=r1) (hb:=qar (by omega)) r2⟩
theorem qwu (hs:∀ p∈s,qcg p=true) (h:AskT n d) (hl:s.length≤999999) (h2:2≤s.length):∃ N D,DisI s n d (qb6 s n d) N D∧
 Fn 45 1 [qap 0 s,.pv (qaa n d)] [(0,0,qad s)] (.pv (.agg #[iV (ptK s (qb6 s n d).1).id,iV (ptK s (qb6 s n d).2).id,iV N,iV D])) 0 []:=by
 obtain⟨us,hu,r0⟩:=qrg hs h hl s.length 0 (List.replicate s.length ⟨0,0⟩) (by omega) (by simp) (fun j hj=>by omega)
 have hp:=qw9 (n0:=by omega) (n1l:=by omega) (r0:=r0)
 obtain⟨N1,D1,i1,cd⟩:=qwP hs h hu (a:=0) (b:=1) (by omega) (by omega)
 obtain⟨N,D,j1,j2,r⟩:=qjQ hs h hl hu s.length 0 (0,1) N1 D1 (by omega) ⟨by show 0<s.length;omega,by show 1<s.length;omega⟩ i1
 rw[qfZ] at j1 j2 r
 exact⟨N,D,j1,qws (hp:=hp) (hc:=cd) (r0:=r)⟩
theorem DisI.uniq {x:Nat×Nat} {N D N' D':Int} (d1:1≤d) (i:DisI s n d x N D) (j:DisI s n d x N' D'):N=N'∧D=D':=by
 have hm:=qhS (a:=quT s n d x) (b:=d) (by omega)
 obtain⟨a1,a2,_⟩:=hm.one (by omega) i.ok i.num i.den i.eq
 obtain⟨b1,b2,_⟩:=hm.one (by omega) j.ok j.num j.den j.eq
 exact⟨a1.symm.trans b1,a2.symm.trans b2⟩
theorem qpk (hn:I64 n) (hd:I64 d):∃ (i j N D e:Int),((qcj s≠0∧e=qcj s)∨(Val s∧qev n d≠0∧e=qev n d)∨(Val s∧AskT n d∧s.length<2∧e=42)∨
 (Val s∧AskT n d∧2≤s.length∧e=0∧i=(ptK s (qb6 s n d).1).id∧j=(ptK s (qb6 s n d).2).id∧DisI s n d (qb6 s n d) N D))∧(e≠0→i=0∧j=0∧N=0∧D=0)∧
 Fn 18 1 [qap 0 s,.pv (qaa n d)] [(0,0,qad s)] (.pv (.tuple #[iV i,iV j,qaa N D,iV e])) 0 []:=by
 have c1:=qaO s
 have c2:Pure Tryz.prog 40 #[qaa n d] (iV (qev n d)):=fun w=>qcB n d w hn hd
 by_cases h1:qcj s=0
 ·have hv:=qbI.1 h1
  rw[h1] at c1
  by_cases h2:qev n d=0
  ·have ha:=qbO.1 h2
   rw[h2] at c2
   by_cases h3:s.length<2
   ·exact⟨0,0,0,0,42,Or.inr (Or.inr (Or.inl ⟨hv,ha,h3,rfl⟩)),fun _=>⟨rfl,rfl,rfl,rfl⟩,qy1 (hc:=c1) (ha:=c2) (hl:=dt (by omega))⟩
   ·have hl:=hv.len
    obtain⟨N,D,j1,r⟩:=qwu hv.ok ha (by omega) (by omega)
    exact⟨_,_,N,D,0,Or.inr (Or.inr (Or.inr ⟨hv,ha,by omega,rfl,rfl,rfl,j1⟩)),fun h=>(h rfl).elim,qy7 (hc:=c1) (ha:=c2) (hl:=df (by omega)) (hp:=r)⟩
  ·exact⟨0,0,0,0,qev n d,Or.inr (Or.inl ⟨hv,h2,rfl⟩),fun _=>⟨rfl,rfl,rfl,rfl⟩,qzY (hc:=c1) (ha:=c2) (he:=by simpa using h2)⟩
 ·exact⟨0,0,0,0,qcj s,Or.inl ⟨h1,rfl⟩,fun _=>⟨rfl,rfl,rfl,rfl⟩,qyD (hc:=c1) (ha:=c2) (he:=by simpa using h1)⟩
end
end Go.Proofs.YtleaeldgaflmkaaGreat
