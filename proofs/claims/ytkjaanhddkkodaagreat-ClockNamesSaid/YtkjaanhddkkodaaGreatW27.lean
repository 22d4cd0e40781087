/-
  Joined: Kj, La, Zc. Conditions: none.
-/
import Derived.Test.YtkjaanhddkkodaaGreatW26
import Derived.Test.YtkjaanhddkkodaaGreatW24
import Derived.Test.YtkjaanhddkkodaaGreatW18
import Derived.Test.YtkjaanhddkkodaaGreatW23
import Derived.Test.YtkjaanhddkkodaaGreatW22
namespace Go.Proofs.YtkjaanhddkkodaaGreat
set_option maxRecDepth 100000
open Go.RowKit
def names (n:Int) (p:Pt):Bool:=decide (p.a=n∨p.b=n)
theorem qun {s:List Pt} (hs:Val s) {p q:Pt} (hp:p∈s) (hq:q∈s) (h:p.id=q.id):p=q:=by
 obtain⟨i,hi,rfl⟩:=List.getElem_of_mem hp
 obtain⟨j,hj,rfl⟩:=List.getElem_of_mem hq
 exact (qoo hs.up (List.getElem?_eq_getElem hi) (List.getElem?_eq_getElem hj) h).2
def qcJ (s:List Pt) (i:Int):Pt:=(s.find? fun q=>q.id==i).getD ⟨0,0,0⟩
theorem qbV {s:List Pt} (hs:Val s) {q:Pt} (hq:q∈s):qcJ s q.id=q:=by
 unfold qcJ
 cases h:s.find? fun r=>r.id==q.id with
 | none=>have:=List.find?_eq_none.1 h q hq;simp at this
 | some r=>
  have h1:=List.mem_of_find?_eq_some h
  have h2:=List.find?_some h
  simp only[beq_iff_eq] at h2
  exact qun hs h1 hq h2
def qcQ (l s:List Pt):Prop:=∀ p∈l,(∃ q∈s,q.id=p.a)∧∃ g∈s,g.id=p.b
noncomputable def qhU (l s:List Pt):Bool:=open Classical in decide (qcQ l s)
open Classical in
theorem qd2 {l s:List Pt}:qhU l s=true↔qcQ l s:=by unfold qhU;exact decide_eq_true_iff
theorem qhE {l s:List Pt} (h:¬ qcQ l s):qhU l s=false:=by
 cases e:qhU l s
 ·rfl
 ·exact (h (qd2.1 e)).elim
section
variable {tn td:Int} (htn:I64 tn) (htd:I64 td)
theorem qg0 {s:List Pt} (hs:Val s) (i:Int):∃ u,Fn 72 1 [qaE 0 s,.pv (iV i)] [(0,0,qaj s)] (.pv (iV u)) 0 []∧((u<0∧¬ ∃ q∈s,q.id=i)∨∃ (k:Nat) (q:Pt),u=(k:Int)∧s[k]?=some q∧q.id=i):=by
 rcases place s hs i with ⟨k,q,hk,he⟩ | ⟨hno,_⟩
 ·exact⟨k,qn4 hs hk he,Or.inr ⟨k,q,rfl,hk,he⟩⟩
 ·exact⟨-1,qD4 hs.len hno,Or.inl ⟨by omega,fun ⟨q,hq,he⟩=>hno q hq he⟩⟩
theorem qxC (x:Int) {l s:List Pt} (hn:l.length≤210) (hs:Val s):Fn 45 2 [qaP 0 x l,qaE 1 s] [(0,0,qal l),(1,0,qaj s)] (.pv (.bool (qhU l s))) 0 []:=by
 have step:∀ k,(∀ j,j<k→∀ p,l[j]?=some p→(∃ q∈s,q.id=p.a)∧∃ g∈s,g.id=p.b)→∀ {e:Exit} {tm2:TmL} {hp2:HpL},k≤l.length→
  Rl 2 2 45 0 35 4 [(2,.pp 2 0),(3,.pp 3 0),(5,.pv (iV (k:Int)))] [(2,0,.pv (iV x)),(2,1,.ls 0 l.length),(3,0,.ls 1 s.length),(0,0,qal l),(1,0,qaj s)] e tm2 hp2→
  Rl 2 2 45 0 35 4 [(2,.pp 2 0),(3,.pp 3 0),(5,.pv (iV ((0:Nat):Int)))] [(2,0,.pv (iV x)),(2,1,.ls 0 l.length),(3,0,.ls 1 s.length),(0,0,qal l),(1,0,qaj s)] e tm2 hp2:=by
  intro k hk e tm2 hp2 hkl r
  refine RunsL.rounds (fun j=>[(2,.pp 2 0),(3,.pp 3 0),(5,.pv (iV (j:Int)))]) (fun _=>[(2,0,.pv (iV x)),(2,1,.ls 0 l.length),(3,0,.ls 1 s.length),(0,0,qal l),(1,0,qaj s)]) (N:=k) k 0 (Nat.zero_add _) (fun j _ hj r=>?_) r
  obtain⟨p,hp⟩:=qai (l:=l) (k:=j) (by omega)
  obtain⟨h1,h2⟩:=hk j hj p hp
  obtain⟨u,a1,a2⟩:=qg0 hs p.a
  obtain⟨v,b1,b2⟩:=qg0 hs p.b
  rcases a2 with ⟨_,a2⟩ | ⟨i,q,rfl,_⟩
  ·exact (a2 h1).elim
  ·rcases b2 with ⟨_,b2⟩ | ⟨i',g,rfl,_⟩
   ·exact (b2 h2).elim
   ·exact qoX (hk:=hp) (hin:=qap (qak hp)) (hlt:=dt (by have:=qak hp;omega)) (ha:=a1) (h1:=df (by omega)) (hb:=b1) (h2:=df (by omega)) (hs:=qay (by omega)) r
 rcases qaY (fun j=>∀ p,l[j]?=some p→(∃ q∈s,q.id=p.a)∧∃ g∈s,g.id=p.b) l.length with h | ⟨j,hj,hb,hf⟩
 ·rw[qd2.2 fun p hp=>by
   obtain⟨k,hk,rfl⟩:=List.getElem_of_mem hp
   exact h k hk _ (List.getElem?_eq_getElem hk)]
  exact qt2 (r0:=step l.length h (Nat.le_refl _) (quO (hge:=df (by omega))))
 ·simp only[Classical.not_forall] at hb
  obtain⟨p,hp,hnp⟩:=hb
  rw[qhE fun h=>hnp (h p (List.mem_of_getElem? hp))]
  refine qxZ (r0:=step j hf (by omega) ?_)
  obtain⟨u,a1,a2⟩:=qg0 hs p.a
  obtain⟨v,b1,b2⟩:=qg0 hs p.b
  rcases a2 with ⟨a2,_⟩ | ⟨i,q,rfl,hq,hqa⟩
  ·exact qzg (hk:=hp) (hin:=qap hj) (hlt:=dt (by omega)) (ha:=a1) (h1:=dt a2)
  ·rcases b2 with ⟨b2,_⟩ | ⟨i',g,rfl,hg,hgb⟩
   ·exact qzj (hk:=hp) (hin:=qap hj) (hlt:=dt (by omega)) (ha:=a1) (h1:=df (by omega)) (hb:=b1) (h2:=dt b2)
   ·exact (hnp ⟨⟨q,List.mem_of_getElem? hq,hqa⟩,⟨g,List.mem_of_getElem? hg,hgb⟩⟩).elim
end
end Go.Proofs.YtkjaanhddkkodaaGreat

namespace Go.Proofs.YtkjaanhddkkodaaGreat
set_option maxRecDepth 100000
open Go.RowKit
theorem qAE {n d tn td m k:Int} (hd:0<d) (ht:0<td) (hk:0<k) (h1:m*d≤n*k) (h2:n*td≤tn*d):m*td≤tn*k:=by
 have e1:=Int.mul_le_mul_of_nonneg_right h1 (Int.le_of_lt ht)
 have e2:=Int.mul_le_mul_of_nonneg_right h2 (Int.le_of_lt hk)
 have e3:n*k*td=n*td*k:=Int.mul_right_comm n k td
 have e4:m*d*td=m*td*d:=Int.mul_right_comm m d td
 have e5:tn*d*k=tn*k*d:=Int.mul_right_comm tn d k
 exact Int.le_of_mul_le_mul_right (a:=d) (by omega) hd
abbrev ldB (q p:Pt) (n d:Int):Bool:=qbk (q.a*d+q.b*n) (p.a*d+p.b*n) q.b p.b q.id p.id
structure FailIs (p q:Pt) (n d m k:Int) (s:Bool):Prop where
 ok:s=true→okB m k=true∧I64 m∧I64 k∧n*k≤m*d
 no:s=false→m=0∧k=0
 then_:s=true→ldB q p m k=true
 before:∀ tn td,okB tn td=true→n*td≤tn*d→(s=true→tn*k<m*td)→ldB q p tn td=false
abbrev qqs (p q:Pt) (n d m k:Int) (s:Bool):Prop:=Pure Tryz.prog 154 #[ptV p,ptV q,qaa n d] (.tuple #[qaa m k,.bool s,iV 0])
abbrev qqH (p q:Pt) (n d m k:Int) (s:Bool):Prop:=Pure Tryz.prog 83 #[ptV p,ptV q,qaa n d] (.tuple #[qaa m k,.bool s])
theorem qgz {p q:Pt} {n d:Int} (hn:I64 n) (hd:I64 d) (h3:okB n d=true) (hl:ldB q p n d=true):FailIs p q n d n d true where
 ok:=fun _=>⟨h3,hn,hd,Int.le_refl _⟩
 no:=fun h=>by cases h
 then_:=fun _=>hl
 before:=fun tn td _ h1 h2=>by have:=h2 rfl;omega
theorem qvK {p q:Pt} {n d:Int} (hn:I64 n) (hd:I64 d) (hp:qhC p=true) (hq:qhC q=true) (h3:okB n d=true) (h4:p.id≠q.id):∃ m k s,qqs p q n d m k s∧qqH p q n d m k s∧FailIs p q n d m k s:=by
 obtain⟨pi,pa,pb⟩:=p
 obtain⟨qi,qa,qb⟩:=q
 simp only at h4
 have h1:okP pi pa pb=true:=hp
 have h2:okP qi qa qb=true:=hq
 have c1:=qc2 h1
 have c2:=qc2 h2
 have c3:=qcc hn hd h3
 have c4:=qkw (pa:=pa) (pb:=pb) (qa:=qa) (qb:=qb) h4
 have ld:=qq4 (pi:=qi) (qi:=pi) (n:=n) (d:=d) hn hd h2 h1
 have d0:0<d:=by have:=qbm h3;omega
 have now:=fun (l:Pure Tryz.prog 134 #[qac qi qa qb,qac pi pa pb,qaa n d] (.bool true))=>qiB (pi:=pi) (pa:=pa) (pb:=pb) l
 by_cases hb:qb=pb
 ·subst hb
  have no:=fun (l:Pure Tryz.prog 134 #[qac qi qa qb,qac pi pa qb,qaa n d] (.bool false))=>qfP (pi:=pi) (pa:=pa) (pb:=qb) l (df (by omega))
  have sm:∀ tn td:Int,okB tn td=true→ldB ⟨qi,qa,qb⟩ ⟨pi,pa,qb⟩ tn td=qbk qa pa qb qb qi pi:=fun tn td h=>qfQ (by have:=qbm h;omega)
  have none:qbk qa pa qb qb qi pi=false→FailIs ⟨pi,pa,qb⟩ ⟨qi,qa,qb⟩ n d 0 0 false:=fun h=>⟨fun h=>(by cases h),fun _=>⟨rfl,rfl⟩,fun h=>(by cases h),fun tn td ht _ _=>by rw[sm tn td ht];exact h⟩
  have nw:qbk qa pa qb qb qi pi=true→FailIs ⟨pi,pa,qb⟩ ⟨qi,qa,qb⟩ n d n d true:=fun h=>qgz hn hd h3 (by rw[sm n d h3];exact h)
  rw[qfQ d0] at ld
  by_cases ha:qa=pa
  ·subst ha
   by_cases hi:qi<pi
   ·have e:qbk qa qa qb qb qi pi=true:=qdi (by omega)
    rw[e] at ld
    exact⟨n,d,true,qrE c1 c2 c3 c4 (by simp) (dt hi),now ld,nw e⟩
   ·have e:qbk qa qa qb qb qi pi=false:=qcV (by omega)
    rw[e] at ld
    exact⟨0,0,false,qps c1 c2 c3 c4 (by simp) (df hi) (df (Int.lt_irrefl _)),no ld,none e⟩
  ·by_cases hg:qa>pa
   ·have e:qbk qa pa qb qb qi pi=true:=qdi (by omega)
    rw[e] at ld
    exact⟨n,d,true,qq3 c1 c2 c3 c4 (by simp[ha]) (by simp) (dt hg),now ld,nw e⟩
   ·have e:qbk qa pa qb qb qi pi=false:=qcV (by omega)
    rw[e] at ld
    exact⟨0,0,false,qoY c1 c2 c3 c4 (by simp[ha]) (by simp) (df hg) (df (Int.lt_irrefl _)),no ld,none e⟩
 ·obtain⟨m,k,k1,k2,k3,k4,k5,k6⟩:=qhe h2 h1 hb
  have k0:0<k:=by have:=qbm k1;omega
  have cc:=qj3 hn hd k2 k3 h3 k1
  have lt:∀ tn td:Int,ldB ⟨qi,qa,qb⟩ ⟨pi,pa,pb⟩ tn td=(decide (qb>pb)==decide ((tn*k-m*td).sign≥0)):=fun tn td=>qfJ k0 k4 hb
  have ld0:=lt n d
  rw[qfJ k0 k4 hb] at ld
  have w:(qa==pa&&(qb==pb&&true))=false:=by simp[hb]
  have bb:(qb==pb)=false:=by simp[hb]
  by_cases g:qb>pb<;>by_cases l:(n*k-m*d).sign≥0
  ·rw[dt g,dt l] at ld ld0
   exact⟨n,d,true,qmS c1 c2 c3 c4 w bb k5 cc (dt l) (dt g),now ld,qgz hn hd h3 ld0⟩
  ·rw[dt g,df l] at ld
   have mt:=qAW h1 h2 (Ne.symm hb) k1 k2 k3 (by
    have e1:m*(pb-qb) = -(m*(qb-pb)):=by rw[← Int.mul_neg];congr 1;omega
    have e2:(qa-pa)*k = -((pa-qa)*k):=by rw[← Int.neg_mul];congr 1;omega
    rw[e1,e2,k4])
   refine⟨m,k,true,qnI c1 c2 c3 c4 w bb k5 cc (df l) (dt g) k6,qiq ld (dt g) mt,fun _=>⟨k1,k2,k3,?_⟩,fun h=>(by cases h),fun _=>?_,fun tn td _ _ h=>?_⟩
   ·have:¬ 0≤n*k-m*d:=fun e=>l ((qef _).2 e)
    omega
   ·rw[lt m k,dt g,Int.sub_self];rfl
   ·have h':=h rfl
    rw[lt tn td,dt g,df (fun e=>by have:=(qef (tn*k-m*td)).1 e;omega)];rfl
  ·rw[df g,dt l] at ld
   have l':=(qef (n*k-m*d)).1 l
   refine⟨0,0,false,qmx c1 c2 c3 c4 w bb k5 cc (dt l) (df g),qfP ld (df g),fun h=>(by cases h),fun _=>⟨rfl,rfl⟩,fun h=>(by cases h),fun tn td ht h _=>?_⟩
   have t0:0<td:=by have:=qbm ht;omega
   have:=qAE d0 t0 k0 (show m*d≤n*k by omega) h
   rw[lt tn td,df g,dt ((qef _).2 (by omega))];rfl
  ·rw[df g,df l] at ld ld0
   exact⟨n,d,true,ql5 c1 c2 c3 c4 w bb k5 cc (df l) (df g),now ld,qgz hn hd h3 ld0⟩
noncomputable def qae (s:List Pt) (n d:Int) (c:Pt):Int×Int×Bool:=open Classical in if h:∃ r:Int×Int×Bool,qqs (qcJ s c.b) (qcJ s c.a) n d r.1 r.2.1 r.2.2∧qqH (qcJ s c.b) (qcJ s c.a) n d r.1 r.2.1 r.2.2∧FailIs (qcJ s c.b) (qcJ s c.a) n d r.1 r.2.1 r.2.2 then h.choose else (0,0,false)
structure FailT (s:List Pt) (n d:Int) (c:Pt):Prop where
 p:qqs (qcJ s c.b) (qcJ s c.a) n d (qae s n d c).1 (qae s n d c).2.1 (qae s n d c).2.2
 f:qqH (qcJ s c.b) (qcJ s c.a) n d (qae s n d c).1 (qae s n d c).2.1 (qae s n d c).2.2
 i:FailIs (qcJ s c.b) (qcJ s c.a) n d (qae s n d c).1 (qae s n d c).2.1 (qae s n d c).2.2
theorem qbs {s:List Pt} {n d:Int} {c:Pt} (hn:I64 n) (hd:I64 d) (ht:okB n d=true) (hs:Val s) (hc:qb8 c.a c.b=true) (ha:∃ q∈s,q.id=c.a) (hb:∃ q∈s,q.id=c.b):FailT s n d c:=by
 obtain⟨q,hq,ea⟩:=ha
 obtain⟨p,hp,eb⟩:=hb
 have e1:qcJ s c.a=q:=by rw[← ea];exact qbV hs hq
 have e2:qcJ s c.b=p:=by rw[← eb];exact qbV hs hp
 have hne:p.id≠q.id:=by have:=(qbt.1 hc).2.2.2.2;omega
 obtain⟨m,k,b,h⟩:=qvK hn hd (hs.ok p hp) (hs.ok q hq) ht hne
 have ex:∃ r:Int×Int×Bool,qqs (qcJ s c.b) (qcJ s c.a) n d r.1 r.2.1 r.2.2∧qqH (qcJ s c.b) (qcJ s c.a) n d r.1 r.2.1 r.2.2∧FailIs (qcJ s c.b) (qcJ s c.a) n d r.1 r.2.1 r.2.2:=by
  rw[e1,e2]
  exact⟨(m,k,b),h⟩
 have hh:qae s n d c=ex.choose:=by unfold qae;rw[dif_pos ex]
 obtain⟨h1,h2,h3⟩:=ex.choose_spec
 rw[← hh] at h1 h2 h3
 exact⟨h1,h2,h3⟩
end Go.Proofs.YtkjaanhddkkodaaGreat

namespace Go.Proofs.YtkjaanhddkkodaaGreat
set_option maxRecDepth 100000
open Go.RowKit
abbrev slA (u:List Int) (b:List Bool) (f:List Int):SV:=.ag [.ls 0 u.length,.ls 1 b.length,.ls 2 f.length]
abbrev slP (u:List Int) (b:List Bool) (f:List Int):List (Nat×Nat×SV):=[(0,0,zrI u),(1,0,zrB b),(2,0,zrI f)]
section
variable {u f:List Int} {b:List Bool}
theorem qcw (x:Int):Fn 231 3 [slA u b f,.pv (iV x)] (slP u b f) (.pv (.bool (decide (0≤x)&&decide (x<(b.length:Int))))) 0 []:=by
 by_cases h1:0≤x
 ·by_cases h2:x<(b.length:Int)
  ·have:=qtO (u:=u) (fr:=f) (b:=b) (x:=x) (by simpa using h1) (by simpa using h2)
   simpa [h1,h2] using this
  ·have:=qt5 (u:=u) (fr:=f) (b:=b) (x:=x) (by simpa using h1) (by simpa using h2)
   simpa [h1,h2] using this
 ·have:=quE (u:=u) (fr:=f) (b:=b) (x:=x) (by simpa using h1)
  simpa [h1] using this
abbrev ufT (b:List Bool) (k:Nat):List (Nat×SV):=[(1,.pp 3 0),(7,.ls 1 b.length),(8,.pv (iV (b.length:Int))),(9,.pv (iV (k:Int)))]
abbrev ufH (u:List Int) (b:List Bool) (f:List Int):List (Nat×Nat×SV):=[(3,0,.ls 0 u.length),(3,1,.ls 1 b.length),(3,2,.ls 2 f.length),(0,0,zrI u),(1,0,zrB b),(2,0,zrI f)]
theorem qeu (hl:b.length=u.length) (hn:b.length≤1000000):∀ (d k:Nat),k+d=b.length→
 ((∀ (j:Nat) (x:Int) (c:Bool),k≤j→u[j]?=some x→b[j]?=some c→(if c=true then 1 else 0)≤x∧x≤1000000)→Rl 3 3 207 0 31 4 (ufT b k) (ufH u b f) (.exit 0) [] [])∧
 (¬ (∀ (j:Nat) (x:Int) (c:Bool),k≤j→u[j]?=some x→b[j]?=some c→(if c=true then 1 else 0)≤x∧x≤1000000)→Rl 3 3 207 0 31 4 (ufT b k) (ufH u b f) .ret [(2,.pv (.bool false))] [])
 | 0,k,h=>by
  refine⟨fun _=>qAz (by simp;omega),fun hno=>(hno fun j x c hj hx hc=>?_).elim⟩
  have:=(List.getElem?_eq_some_iff.1 hc).1
  omega
 | d+1,k,h=>by
  have hk:k<b.length:=by omega
  have hku:k<u.length:=by omega
  obtain⟨y,hy⟩:∃ y,u[k]?=some y:=⟨_,List.getElem?_eq_getElem hku⟩
  obtain⟨c,hc⟩:∃ c,b[k]?=some c:=⟨_,List.getElem?_eq_getElem hk⟩
  obtain⟨ih1,ih2⟩:=qeu hl hn d (k+1) (by omega)
  have i1:0≤(k:Int)∧(k:Int)<(b.length:Int):=by omega
  have i2:0≤(k:Int)∧(k:Int)<(u.length:Int):=by omega
  have lt:decide ((k:Int)<(b.length:Int))=true:=by simp;omega
  have hs:=qaC (k:=k) (by omega)
  have split:(∀ (j:Nat) (x:Int) (c:Bool),k≤j→u[j]?=some x→b[j]?=some c→(if c=true then 1 else 0)≤x∧x≤1000000)↔((if c=true then 1 else 0)≤y∧y≤1000000)∧(∀ (j:Nat) (x:Int) (c:Bool),k+1≤j→u[j]?=some x→b[j]?=some c→(if c=true then 1 else 0)≤x∧x≤1000000):=by
   constructor
   ·intro H
    exact⟨H k y c (Nat.le_refl _) hy hc,fun j x c' hj=>H j x c' (by omega)⟩
   ·rintro⟨H1,H2⟩ j x c' hj hx hc'
    by_cases e:j=k
    ·subst e
     rw[hy] at hx;rw[hc] at hc'
     cases hx;cases hc'
     exact H1
    ·exact H2 j x c' (by omega) hx hc'
  by_cases h1:(if c=true then (1:Int) else 0)≤y
  ·by_cases h2:y≤1000000
   ·have hi:decide (y>1000000)=false:=by simp;omega
    have go:∀ {e:Exit} {tm2:TmL} {hp2:HpL},Rl 3 3 207 0 31 4 (ufT b (k+1)) (ufH u b f) e tm2 hp2→Rl 3 3 207 0 31 4 (ufT b k) (ufH u b f) e tm2 hp2:=fun r=>by
     cases c with
     | true=>exact qhl hc hy i1 i2 lt (by simp at h1 ⊢;omega) hi hs r
     | false=>exact qgE hc hy i1 i2 lt (by simp at h1 ⊢;omega) hi hs r
    exact⟨fun H=>go (ih1 (split.1 H).2),fun H=>go (ih2 fun H2=>H (split.2 ⟨⟨h1,h2⟩,H2⟩))⟩
   ·have hi:decide (y>1000000)=true:=by simp;omega
    refine⟨fun H=>(h2 (split.1 H).1.2).elim,fun _=>?_⟩
    cases c with
    | true=>exact qlL hc hy i1 i2 lt (by simp at h1 ⊢;omega) hi
    | false=>exact qiw hc hy i1 i2 lt (by simp at h1 ⊢;omega) hi
  ·refine⟨fun H=>(h1 (split.1 H).1.1).elim,fun _=>?_⟩
   cases c with
   | true=>exact qkA hc hy i1 i2 lt (by simp at h1 ⊢;omega)
   | false=>exact qiC hc hy i1 i2 lt (by simp at h1 ⊢;omega)
theorem qiV (hl:b.length=u.length) (hn:b.length≤1000000):Fn 207 3 [slA u b f] (slP u b f) (.pv (.bool (qwE u b))) 0 []:=by
 obtain⟨h1,h2⟩:=qeu (f:=f) hl hn b.length 0 (by omega)
 cases e:qwE u b
 ·exact qEk (h2 fun H=>by rw[(qeE hl).2 fun k x c=>H k x c (by omega)] at e;cases e)
 ·have H:=(qeE hl).1 e
  exact qzR (h1 fun j x c _=>H j x c)
abbrev ffT (b:List Bool) (k:Nat):List (Nat×SV):=[(1,.pp 3 0),(3,.pp 5 0),(12,.ls 1 b.length),(13,.pv (iV (b.length:Int))),(14,.pv (iV (k:Int)))]
abbrev ffH (u:List Int) (b:List Bool) (f:List Int) (g:List Bool):List (Nat×Nat×SV):=[(3,0,.ls 0 u.length),(3,1,.ls 1 b.length),(3,2,.ls 2 f.length),(5,0,.ls 4 b.length),(0,0,zrI u),(1,0,zrB b),(2,0,zrI f),(4,0,.row 4 1 b.length (zbV g))]
abbrev ffG (b:List Bool) (k:Nat):List Bool:=(b.map not).take k++List.replicate (b.length-k) false
theorem qq0 {k:Nat} {c:Bool} (hc:b[k]?=some c):(ffG b k).set k (!c)=ffG b (k+1):=by
 have hk:=(List.getElem?_eq_some_iff.1 hc).1
 unfold ffG
 rw[List.set_append_right _ _ (by simp;omega),List.length_take,List.length_map,show min k b.length=k by omega,Nat.sub_self,show b.length-k=(b.length-(k+1))+1 by omega,List.replicate_succ,List.set_cons_zero,List.take_add_one,List.getElem?_map,hc]
 simp
theorem qfC (hn:b.length≤1000000):Rl 3 3 208 0 36 6 (ffT b 0) (ffH u b f (List.replicate b.length false)) (.exit 0) [(1,.pp 3 0),(3,.pp 5 0)] (ffH u b f (b.map not)):=by
 have e0:List.replicate b.length false=ffG b 0:=by simp[ffG]
 have e1:b.map not=ffG b b.length:=by unfold ffG;rw[List.take_of_length_le (by simp)];simp
 rw[e0,e1]
 refine RunsL.roundsZ (fun k=>ffT b k) (fun k=>ffH u b f (ffG b k)) b.length 0 (by omega) (fun k _ hk r=>?_) (qwY (by simp))
 obtain⟨c,hc⟩:∃ c,b[k]?=some c:=⟨_,List.getElem?_eq_getElem hk⟩
 have hg:k<(ffG b k).length:=by simp[ffG];omega
 have lt:decide ((k:Int)<(b.length:Int))=true:=by simp;omega
 rw[← qq0 hc] at r
 cases c with
 | true=>exact qhx hc (by omega) hg lt (qaC (by omega)) r
 | false=>exact qgT hc (by omega) hg lt (qaC (by omega)) r
abbrev fxT (f:List Int) (k:Nat):List (Nat×SV):=[(0,.ls 2 f.length),(1,.pc 230 [.pp 3 0,.pp 5 0]),(7,.pv (iV (f.length:Int))),(8,.pv (iV (k:Int)))]
theorem qdb (hf:f.length≤1000000):∀ (d k:Nat) (g:List Bool),k+d=f.length→g.length=b.length→
 (∀ g',qbv g (f.drop k)=some g'→Rl 3 6 246 0 19 6 (fxT f k) (ffH u b f g) (.exit 0) [] (ffH u b f g'))∧
 (qbv g (f.drop k)=none→∃ (j:Nat) (g':List Bool),Rl 3 6 246 0 19 6 (fxT f k) (ffH u b f g) .ret [(4,.pv (iV (j:Int)))] (ffH u b f g'))
 | 0,k,g,h,hg=>by
  have e:f.drop k=[]:=List.drop_eq_nil_iff.2 (by omega)
  rw[e]
  refine⟨fun g' h'=>?_,fun h'=>(by cases h')⟩
  cases h'
  exact qAO (by simp;omega)
 | d+1,k,g,h,hg=>by
  have hk:k<f.length:=by omega
  obtain⟨x,hx⟩:∃ x,f[k]?=some x:=⟨_,List.getElem?_eq_getElem hk⟩
  have e:f.drop k=x::f.drop (k+1):=by
   rw[List.drop_eq_getElem_cons hk]
   rw[List.getElem?_eq_getElem hk] at hx
   cases hx;rfl
  have i1:0≤(k:Int)∧(k:Int)<(f.length:Int):=by omega
  have lt:decide ((k:Int)<(f.length:Int))=true:=by simp;omega
  rw[e]
  unfold qbv
  by_cases hin:0≤x∧x<(b.length:Int)
  ·have hhs:Fn 231 3 [slA u b f,.pv (iV x)] (slP u b f) (.pv (.bool true)) 0 []:=by
    have:=qcw (u:=u) (f:=f) (b:=b) x
    simpa [hin.1,hin.2] using this
   have hxl:x.toNat<g.length:=by omega
   obtain⟨c,hc⟩:∃ c,g[x.toNat]?=some c:=⟨_,List.getElem?_eq_getElem hxl⟩
   cases c with
   | true=>
    rw[if_pos ⟨hin.1,by omega,hc⟩]
    obtain⟨i3,i4⟩:=qdb hf d (k+1) (g.set x.toNat false) (by omega) (by rw[List.length_set];exact hg)
    have go:∀ {e:Exit} {tm2:TmL} {hp2:HpL},Rl 3 6 246 0 19 6 (fxT f (k+1)) (ffH u b f (g.set x.toNat false)) e tm2 hp2→Rl 3 6 246 0 19 6 (fxT f k) (ffH u b f g) e tm2 hp2:=fun r=>
     qtL hx i1 lt hhs hc hin hxl (qaC (by omega)) r
    refine⟨fun g' h'=>go (i3 g' h'),fun h'=>?_⟩
    obtain⟨j,g',r⟩:=i4 h'
    exact⟨j,g',go r⟩
   | false=>
    rw[if_neg (fun h'=>by rw[hc] at h';cases h'.2.2)]
    exact⟨fun g' h'=>(by cases h'),fun _=>⟨k,g,qtT hx i1 lt hhs hc hin⟩⟩
  ·rw[if_neg (fun h'=>hin ⟨h'.1,by omega⟩)]
   have hhs:Fn 231 3 [slA u b f,.pv (iV x)] (slP u b f) (.pv (.bool false)) 0 []:=by
    have:=qcw (u:=u) (f:=f) (b:=b) x
    have e:(decide (0≤x)&&decide (x<(b.length:Int)))=false:=by
     rw[Bool.and_eq_false_iff]
     by_cases h0:0≤x
     ·right;simp;omega
     ·left;simpa using h0
    rw[e] at this
    exact this
   exact⟨fun g' h'=>(by cases h'),fun _=>⟨k,g,qy3 hx i1 lt hhs⟩⟩
theorem qdR {g:List Bool} (hn:g.length≤1000000):∀ (d k:Nat),k+d=g.length→
 (true∉g.drop k→Rl 1 1 247 0 19 1 [(0,.ls 0 g.length),(1,.pv (.bool true)),(7,.pv (iV (g.length:Int))),(8,.pv (iV (k:Int)))] [(0,0,zrB g)] (.exit 0) [] [])∧
 (true∈g.drop k→∃ j:Nat,Rl 1 1 247 0 19 1 [(0,.ls 0 g.length),(1,.pv (.bool true)),(7,.pv (iV (g.length:Int))),(8,.pv (iV (k:Int)))] [(0,0,zrB g)] .ret [(4,.pv (iV (j:Int)))] [])
 | 0,k,h=>by
  have e:g.drop k=[]:=List.drop_eq_nil_iff.2 (by omega)
  rw[e]
  exact⟨fun _=>qyI (by simp;omega),fun h=>by cases h⟩
 | d+1,k,h=>by
  have hk:k<g.length:=by omega
  obtain⟨c,hc⟩:∃ c,g[k]?=some c:=⟨_,List.getElem?_eq_getElem hk⟩
  have e:g.drop k=c::g.drop (k+1):=by
   rw[List.drop_eq_getElem_cons hk]
   rw[List.getElem?_eq_getElem hk] at hc
   cases hc;rfl
  have i1:0≤(k:Int)∧(k:Int)<(g.length:Int):=by omega
  have lt:decide ((k:Int)<(g.length:Int))=true:=by simp;omega
  obtain⟨i3,i4⟩:=qdR hn d (k+1) (by omega)
  rw[e]
  cases c with
  | true=>exact⟨fun h=>(h List.mem_cons_self).elim,fun _=>⟨k,qt6 hc i1 lt⟩⟩
  | false=>
   refine⟨fun h=>qjR hc i1 lt (qaC (by omega)) (i3 fun hm=>h (List.mem_cons_of_mem _ hm)),fun hm=>?_⟩
   rcases List.mem_cons.1 hm with h | h
   ·cases h
   ·obtain⟨j,r⟩:=i4 h
    exact⟨j,qjR hc i1 lt (qaC (by omega)) r⟩
theorem qhn {g:List Bool} (hn:g.length≤1000000):Fn 233 1 [.ls 0 g.length,.pv (.bool true)] [(0,0,zrB g)] (.pv (.bool (g.contains true))) 0 []:=by
 obtain⟨h1,h2⟩:=qdR hn g.length 0 (by omega)
 rw[List.drop_zero] at h1 h2
 by_cases hm:true∈g
 ·obtain⟨j,r⟩:=h2 hm
  have e:g.contains true=true:=by simpa using hm
  rw[e]
  exact qzZ r (by simp)
 ·have e:g.contains true=false:=by simpa using hm
  rw[e]
  exact qBQ (h1 hm)
theorem qhp (hn:b.length≤1000000) (hf:f.length≤1000000):Fn 208 3 [slA u b f] (slP u b f) (.pv (.bool (qeB b f))) 0 []:=by
 have r0:=qfC (u:=u) (f:=f) hn
 obtain⟨h1,h2⟩:=qdb (u:=u) (b:=b) hf f.length 0 (b.map not) (by omega) (by simp)
 rw[List.drop_zero] at h1 h2
 unfold qeB
 split
 ·rename_i g hg
  have hl:g.length=b.length:=by rw[qed hg,List.length_map]
  have hc:=qhn (g:=g) (by omega)
  simp only[zrB] at hc
  rw[hl] at hc
  cases e:g.contains true
  ·rw[e] at hc
   exact qCw (by omega) (by omega) r0 (h1 g hg) hl hc
  ·rw[e] at hc
   exact qvj (by omega) (by omega) r0 (h1 g hg) hl hc
 ·rename_i hg
  obtain⟨j,g',r⟩:=h2 hg
  exact qo9 (by omega) (by omega) r0 r (by simp)
theorem qfX (hf:f.length≤1000000):Fn 166 3 [slA u b f] (slP u b f) (.pv (iV (if qcG u b f=true then 0 else 8))) 0 []:=by
 by_cases h1:1≤u.length
 ·by_cases h2:u.length≤200
  ·have hz:Pure Tryz.prog 145 #[iV (u.length:Int)] (.bool true):=qr8 (by simp;omega) (by simp;omega)
   by_cases h3:b.length=u.length
   ·have hl:(!((b.length:Int)==(u.length:Int)))=false:=by simp;omega
    have hu:=qiV (f:=f) h3 (by omega)
    have hfr:=qhp (u:=u) (b:=b) (f:=f) (by omega) hf
    cases e1:qwE u b
    ·rw[e1] at hu
     rw[if_neg (by unfold qcG;simp[e1])]
     exact qzE hz hl hu
    ·rw[e1] at hu
     cases e2:qeB b f
     ·rw[e2] at hfr
      rw[if_neg (by unfold qcG;simp[e2])]
      exact qvN hz hl hu hfr
     ·rw[e2] at hfr
      rw[if_pos (by unfold qcG;simp[h1,h2,h3,e1,e2])]
      exact qza hz hl hu hfr
   ·rw[if_neg (by unfold qcG;simp[h3])]
    exact qy1 hz (by simp;omega)
  ·rw[if_neg (by unfold qcG;simp[h2])]
   exact qmD (qyw (by simp;omega) (by simp;omega))
 ·rw[if_neg (by unfold qcG;simp[h1])]
  exact qmD (qAV (by simp;omega))
end
end Go.Proofs.YtkjaanhddkkodaaGreat
