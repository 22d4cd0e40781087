/-
  The package's search, its copies and shifts, and the split of a tree. Conditions: none.
-/
import Derived.Test.YtalnjplghagbpaaW34
import Derived.Test.YtalnjplghagbpaaZe
import Derived.Test.YtalnjplghagbpaaZj
import Derived.Test.YtalnjplghagbpaaW23
import Derived.Test.YtalnjplghagbpaaW19
namespace Go.Proofs.Ytalnjplghagbpaa
set_option maxRecDepth 100000
open Go.RowKit
theorem qr1 (a pa pb n:Int):∃ c,Pure Try.prog 90 #[qac a pa pb,iV n] (iV c)∧(c<0↔a<n)∧(c=0↔a=n):=by
 rcases Int.lt_trichotomy a n with h | h | h
 ·exact⟨-1,qsS (by simp) (by simp) (dt h),⟨fun _=>h,fun _=>by omega⟩,⟨fun h=>by omega,fun h=>by omega⟩⟩
 ·exact⟨0,qtj (by simp) (by simp) (df (by omega)) (df (by omega)),⟨fun h=>by omega,fun h=>by omega⟩,⟨fun _=>h,fun _=>rfl⟩⟩
 ·exact⟨1,qsB (by simp) (by simp) (df (by omega)) (dt (by omega)),⟨fun h=>by omega,fun h=>by omega⟩,⟨fun h=>by omega,fun h=>by omega⟩⟩
abbrev qvr (l:List Pt) (n:Int) (i j:Nat):List (Nat×SV):=[(0,.ls 0 l.length),(1,.pv (iV n)),(2,.pv (.func (.func 90) #[] #[])),(8,.pv (iV (l.length:Int))),(9,.pv (iV (i:Int))),(10,.pv (iV (j:Int)))]
theorem qmM {l:List Pt} (hn:l.length≤1000000) {n:Int}:∀ (d i j:Nat),j-i≤d→i≤j→j≤l.length→(∀ p,0<i→l[i-1]?=some p→p.id<n)→(∀ p,l[j]?=some p→¬ p.id<n)→
 ∃ k,k≤l.length∧(∀ p,0<k→l[k-1]?=some p→p.id<n)∧(∀ p,l[k]?=some p→¬ p.id<n)∧Rl 1 1 89 0 49 1 (qvr l n i j) [(0,0,qaa l)] (.exit 0) (qvr l n k k) [(0,0,qaa l)]:=by
 intro d
 induction d with
 | zero=>
  intro i j hd h1 h2 hi hj
  have:i=j:=by omega
  subst i
  exact⟨j,h2,hi,hj,qjg (df (by omega))⟩
 | succ d ih=>
  intro i j hd h1 h2 hi hj
  by_cases hij:i<j
  ·obtain⟨p,hp⟩:=qao (l:=l) (k:=(i+j)/2) (by omega)
   obtain⟨c,hc,hc1,hc2⟩:=qr1 p.id p.a p.b n
   have a1:iV (IntKind.i64.wrap ((i:Int)+(j:Int)))=iV ((i:Int)+(j:Int)):=by rw[qan (by omega) (by omega)]
   have a2:Value.int .u64 (IntKind.u64.wrap ((i:Int)+(j:Int)))=.int .u64 ((i:Int)+(j:Int)):=by rw[qeO (by omega) (by omega)]
   have a3:Value.int .u64 (((i:Int)+(j:Int)).fdiv (2 ^ (min (1:Int).toNat IntKind.u64.bits)))=.int .u64 (((i+j)/2:Nat):Int):=by
    have:(2:Int) ^ (min (1:Int).toNat IntKind.u64.bits)=2:=rfl
    rw[this,Int.fdiv_eq_ediv_of_nonneg _ (by omega)]
    congr 1
   have a4:iV (IntKind.i64.wrap (((i+j)/2:Nat):Int))=iV (((i+j)/2:Nat):Int):=by rw[qan (by omega) (by omega)]
   by_cases hlt:p.id<n
   ·obtain⟨k,k1,k2,k3,r⟩:=ih ((i+j)/2+1) j (by omega) (by omega) h2 (fun q _ hq=>by
     rw[Nat.add_sub_cancel,hp] at hq
     cases hq
     exact hlt) hj
    exact⟨k,k1,k2,k3,qrz (hk:=hp) (hin:=qa4 (qak hp)) (hlt:=dt (by omega)) (ha:=a1) (hu:=a2) (h1:=by omega) (hs:=a3) (hb:=a4) (hc:=hc) (hz:=dt (hc1.2 hlt)) (hh:=qah (by omega)) (r:=r)⟩
   ·obtain⟨k,k1,k2,k3,r⟩:=ih i ((i+j)/2) (by omega) (by omega) (by omega) hi (fun q hq=>by
     rw[hp] at hq
     cases hq
     exact hlt)
    exact⟨k,k1,k2,k3,qrx (hk:=hp) (hin:=qa4 (qak hp)) (hlt:=dt (by omega)) (ha:=a1) (hu:=a2) (h1:=by omega) (hs:=a3) (hb:=a4) (hc:=hc) (hz:=df fun h=>hlt (hc1.1 h)) (r:=r)⟩
  ·have:i=j:=by omega
   subst i
   exact⟨j,h2,hi,hj,qjg (df (by omega))⟩
theorem qo7 {l:List Pt} (hn:l.length≤1000000) (n:Int):∃ (k:Nat) (w:Bool),k≤l.length∧(∀ p,0<k→l[k-1]?=some p→p.id<n)∧(∀ p,l[k]?=some p→¬ p.id<n)∧(w=true→∃ p,l[k]?=some p∧p.id=n)∧(w=false→∀ p,l[k]?=some p→p.id≠n)∧
 Fn 89 1 [.ls 0 l.length,.pv (iV n),.pv (.func (.func 90) #[] #[])] [(0,0,qaa l)] (.pv (.tuple #[iV (k:Int),.bool w])) 0 []:=by
 obtain⟨k,k1,k2,k3,r⟩:=qmM hn (n:=n) l.length 0 l.length (by omega) (Nat.zero_le _) (Nat.le_refl _) (fun p h=>by omega) (fun p hp=>by have:=qak hp;omega)
 by_cases h:k<l.length
 ·obtain⟨p,hp⟩:=qao h
  obtain⟨c,hc,hc1,hc2⟩:=qr1 p.id p.a p.b n
  by_cases e:p.id=n
  ·exact⟨k,true,k1,k2,k3,fun _=>⟨p,hp,e⟩,fun h=>by (cases h),qqk (r0:=r) (hk:=hp) (hin:=qa4 h) (hlt:=dt (by omega)) (hc:=hc) (hz:=by simpa using hc2.2 e)⟩
  ·exact⟨k,false,k1,k2,k3,fun h=>by (cases h),fun _ q hq=>by (rw[hp] at hq;cases hq;exact e),qqU (r0:=r) (hk:=hp) (hin:=qa4 h) (hlt:=dt (by omega)) (hc:=hc) (hz:=by simpa using fun h=>e (hc2.1 h))⟩
 ·exact⟨k,false,k1,k2,k3,fun h=>by (cases h),fun _ q hq=>by (have:=qak hq;omega),qpc (r0:=r) (hge:=df (by omega))⟩
theorem ql0 {f:FuncId} {e:TypeId} {es n:Nat} {xs:List Value} (hx:xs.length=n*es)
 (pth:0<n→Fn f 1 [.ls 0 n] [(0,0,.row e es n xs)] (.ls 1 n) 1 [(1,0,.row e es n xs)])
 (pe:∀ ad c,Fn f 0 [.pv (.slice (some ad) 0 c)] [] (.ls 0 0) 1 [(0,0,.row e es 0 [])])
 (pn:∀ c,Pure Try.prog f #[.slice none 0 c] (.slice none 0 0)):Fn f 1 [.ls 0 n] [(0,0,.row e es n xs)] (.ls 1 n) 1 [(1,0,.row e es n xs)]:=by
 rcases Nat.eq_zero_or_pos n with h | h
 ·subst h
  obtain rfl:=List.eq_nil_of_length_eq_zero (by simpa using hx)
  intro w β us hH hd hargs
  match us,hargs with
  | [v],⟨⟨_,a,c,hv⟩,_⟩=>
   have hd1:=hd 1 (Nat.le_refl _)
   cases a with
   | none=>
    subst hv
    refine (pn c w).mono fun e' w' ⟨he,hg⟩=>?_
    have ho:w'.ownsRow w.heap.size e es (.slice none 0 0) 0 []:=⟨by simp,Or.inl ⟨rfl,rfl⟩⟩
    exact⟨_,β.setG 1 (.slice none 0 0),he,Bl.le_setG hd1.1 hd1.2,⟨Bl.setG_same _ _ _,none,0,rfl⟩,qds hH hd hg ho (fun v hv=>by cases hv),qcP hd⟩
   | some ad=>
    subst hv
    refine (pe ad c w Bl.no [.slice (some ad) 0 c] (qer w) (fun _ _=>⟨rfl,rfl⟩) ⟨rfl,tI⟩).mono fun e' w' ⟨v,β',he,_,⟨hx,a',c',hv⟩,hh,_⟩=>?_
    obtain⟨u,hu,hr⟩:=hh.rows 0 0 _ _ _ _ rfl
    rw[hx] at hu
    cases hu
    exact⟨_,β.setG 1 v,he,Bl.le_setG hd1.1 hd1.2,⟨Bl.setG_same _ _ _,a',c',hv⟩,qds hH hd hh.gr (hr.own (Nat.le_refl _)) (fun v hv=>by cases hv),qcP hd⟩
 ·exact pth h
theorem qr2 {P:Program} {f:FuncId} {e e2:TypeId} {es es2 n n' k n2:Nat} {xs ys:List Value} {vs:List Value}
 (h:FnL P f 1 (.ls 0 n'::vs.map .pv) [(0,0,.row e es n' ((xs.drop (k*es)).take (n'*es)))] (.ls 1 n2) 1 [(1,0,.row e2 es2 n2 ys)]) (hk:k+n'≤n) :
 FnL P f 1 (.lq 0 es k n'::vs.map .pv) [(0,0,.row e es n xs)] (.ls 1 n2) 1 [(1,0,.row e2 es2 n2 ys)]:=by
 intro w β us H hd hi
 obtain⟨u,hu,R⟩:=H.rows 0 0 e es n xs rfl
 match us,hi with
 | v::q,⟨⟨a,nn,c,a',c',hg,hle,hc',hv,hp⟩,hq⟩=>
 subst hv
 have hu':u=.slice a nn c:=by rw[hu] at hg;exact Option.some.inj hg
 subst hu'
 obtain⟨hl,a2,c2,he,hnc,hrd⟩:=R.rd
 have e1:=he
 simp only[Value.slice.injEq] at e1
 obtain⟨rfl,rfl,rfl⟩:=e1
 have hm:(k+n')*es≤nn*es:=Nat.mul_le_mul_right es hk
 rw[Nat.add_mul] at hm
 have hlen:((xs.drop (k*es)).take (n'*es)).length=n'*es:=by rw[List.length_take,List.length_drop];omega
 have hrd':Rd w es (.slice a' n' c') n' ((xs.drop (k*es)).take (n'*es)):=by
  rcases Nat.eq_zero_or_pos n' with h0 | h0
  ·subst h0
   refine⟨hlen,a',c',rfl,hc',fun j v hj=>?_⟩
   rw[Nat.zero_mul,List.take_zero] at hj
   simp at hj
  ·obtain⟨r,o,ea,ea'⟩:=hp h0
   subst ea ea'
   refine⟨hlen,_,_,rfl,hc',fun j v hj=>⟨r,o+k*es,rfl,?_⟩⟩
   have hj':xs[k*es+j]?=some v:=by
    rw[List.getElem?_take] at hj
    split at hj
    ·rw[List.getElem?_drop] at hj;exact hj
    ·cases hj
   obtain⟨r',o',er,hcell⟩:=hrd _ v hj'
   cases er
   rw[show o+k*es+j=o+(k*es+j) by omega]
   exact hcell
 let β1:Bl:=⟨β.f,fun b=>if b=0 then some (.slice a' n' c') else none⟩
 have H1:HRel w 1 β1 [(0,0,.row e es n' ((xs.drop (k*es)).take (n'*es)))] w:=by
  refine⟨H.gr,H.live,H.inj,H.new,fun b r' hb'=>?_,fun b o' sv hs hr=>?_,fun b o' e' es' n2' xs' hs=>?_,fun b o' e' es' n2' xs' c o2 e2' es2' n3 xs3 u' v' hs _ hlo=>?_,fun b o' xs' hs=>?_⟩
  ·by_cases h:b=0
   ·subst h
    have:=H.sep 0 r' hb'
    rw[hu] at this;cases this
   ·exact if_neg h
  ·obtain⟨_,_,rfl⟩:=qaW hs;cases hr
  ·obtain⟨rfl,_,e1⟩:=qaW hs
   cases e1
   exact⟨_,rfl,hrd',fun v hv=>R.one v (List.mem_of_mem_drop (List.mem_of_mem_take hv)),fun _ hx j hj=>hrd'.lt hx j hj,fun hlo=>by omega,fun hlo=>by omega⟩
  ·have:=(qaW hs).1;omega
  ·obtain⟨_,_,e1⟩:=qaW hs;cases e1
 have hdom:β1.dom 1:=fun b hb=>⟨(hd b hb).1,if_neg (by omega)⟩
 refine (h w β1 (.slice a' n' c'::q) H1 hdom ⟨⟨rfl,_,_,rfl⟩,by rw[SV.isl_v_eq hq];exact SV.isl_v vs⟩).mono fun x w' hh=>?_
 obtain⟨v',β2,hx,hle2,⟨g1,g2⟩,HP,hd2⟩:=hh
 have hb0:β.f 0=none:=by
  cases hb0:β.f 0 with
  | none=>rfl
  | some r'=>have:=H.sep 0 r' hb0;rw[hu] at this;cases this
 have hb2:β2.f 0=none:=(hle2 0 (Or.inr (fun h=>by have e:β1.g 0=some _:=rfl;rw[e] at h;cases h))).1.trans hb0
 let β3:Bl:=⟨β2.f,fun b=>if b=0 then β.g 0 else β2.g b⟩
 refine⟨v',β3,hx,fun b hb=>?_,⟨g1,g2⟩,?_,fun b hb=>⟨(hd2 b hb).1,(if_neg (by omega)).trans (hd2 b hb).2⟩⟩
 ·by_cases h:b=0
  ·subst h;exact⟨hb2.trans hb0.symm,rfl⟩
  ·have:=hd b (by omega)
   rcases hb with hb | hb
   ·exact (hb this.1).elim
   ·exact (hb this.2).elim
 ·refine⟨HP.gr,HP.live,HP.inj,HP.new,fun b r' hb'=>?_,fun b o' sv hs hr=>?_,fun b o' e' es' n2' xs' hs=>?_,fun b o' e' es' n2' xs' c o2 e2' es2' n3 xs3 u' v' hs hs2 _ _ hne=>?_,fun b o' xs' hs=>?_⟩
  ·by_cases h:b=0
   ·subst h;rw[show β3.f 0=none from hb2] at hb';cases hb'
   ·exact (if_neg h).trans (HP.sep b r' hb')
  ·obtain⟨_,_,rfl⟩:=qaW hs;cases hr
  ·obtain⟨rfl,rfl,_⟩:=qaW hs
   obtain⟨u',g1,g2⟩:=HP.rows 1 0 e' es' n2' xs' hs
   exact⟨u',g1,g2.rd,g2.one,g2.low,g2.own,g2.apart⟩
  ·exact (hne ((qaW hs).1.trans (qaW hs2).1.symm)).elim
  ·obtain⟨_,_,e1⟩:=qaW hs;cases e1
theorem qsk {l:List Pt} (hn:l.length≤1000000):Fn 53 1 [.ls 0 l.length] [(0,0,qaa l)] (.ls 1 l.length) 1 [(1,0,qaa l)]:=
 ql0 (qa6 l) (fun h=>qnp h (by omega)) (fun ad c=>qva) (fun c=>qpT)
section
variable {rt z:Int} {l:List Pt} {T:Sh Nat}
theorem PCo (hl:l.length≤999999):(Up l∧Fn 52 1 [.ls 0 l.length] [(0,0,qaa l)] (.pv (iV (0))) 0 [])∨(¬ Up l∧Fn 52 1 [.ls 0 l.length] [(0,0,qaa l)] (.pv (iV (32))) 0 []):=by
 have step:∀ m,m≤l.length→(∀ j,0<j→j<m→∀ p q,l[j-1]?=some p→l[j]?=some q→p.id<q.id)→∀ {e:Exit} {tm2:TmL} {hp2:HpL},(0<m)→
  Rl 1 1 52 0 22 1 ([(0,.ls 0 l.length),(3,.pv (iV (m:Int)))]) ([(0,0,qaa l)]) e tm2 hp2→
  Rl 1 1 52 0 22 1 ([(0,.ls 0 l.length),(3,.pv (iV ((1:Nat):Int)))]) ([(0,0,qaa l)]) e tm2 hp2:=by
  intro m hm hs e tm2 hp2 h0 r
  refine RunsL.roundsZ (fun j=>[(0,.ls 0 l.length),(3,.pv (iV (j:Int)))]) (fun _=>[(0,0,qaa l)]) (N:=m) (m-1) 1 (by omega) (fun j h1 hj r=>?_) r
  obtain⟨p,hp⟩:=qao (l:=l) (k:=j-1) (by omega)
  obtain⟨q,hq⟩:=qao (l:=l) (k:=j) (by omega)
  have:=hs j (by omega) hj p q hp hq
  exact qmy (j:=j-1) (k:=j) (hlt:=dt (by omega)) (hs1:=by rw[qan (by omega) (by omega)];congr 1;omega) (hj:=hp) (hinj:=⟨by omega,by omega⟩) (hk:=hq) (hin:=⟨by omega,by omega⟩) (hc:=df (by omega)) (hs:=qah (by omega)) r
 by_cases h0:l.length=0
 ·have e:l=[]:=List.eq_nil_of_length_eq_zero h0
  subst e
  exact Or.inl ⟨fun k p q h=>(by cases h),qjO (r0:=qk2 (hlt:=df (by decide)))⟩
 rcases qaT (fun j=>0<j→∀ (p q:Pt),l[j-1]?=some p→l[j]?=some q→p.id<q.id) l.length with h | ⟨j,hj,hb,hf⟩
 ·refine Or.inl ⟨fun k p q hp hq=>h (k+1) (qak hq) (by omega) p q hp hq,qjO (r0:=step l.length (Nat.le_refl _) (fun j h1 h2=>h j h2 h1) (by omega) (qk2 (hlt:=df (by omega))))⟩
 ·simp only[Classical.not_forall,Int.not_lt] at hb
  obtain⟨j0,p,q,hp,hq,hb⟩:=hb
  refine Or.inr ⟨fun hu=>?_,qrA (r0:=step j (by omega) (fun i h1 h2=>hf i h2 h1) j0 (qp0 (j:=j-1) (k:=j) (hlt:=dt (by omega)) (hs1:=by rw[qan (by omega) (by omega)];congr 1;omega) (hj:=hp) (hinj:=⟨by omega,by omega⟩) (hk:=hq) (hin:=⟨by omega,by omega⟩) (hc:=dt (by omega))))⟩
  have:=hu (j-1) p q hp (by rw[show j-1+1=j by omega];exact hq)
  omega
def qpd (l:List Pt) (z:Int) (m:Nat):Prop:=m≤l.length∧∀ j,j<l.length→(j<m↔idN l j<z)
theorem quC {n:List Pt} {m:Nat} (hl:l.length≤999999) (hm:qpd l z m) (hn:n.length=l.length) (hi:∀ j,j<l.length→idN n j=idN l j) :
 Fn 55 1 [.ls 0 n.length,.pv (iV z)] [(0,0,qaa n)] (.pv (iV ((m:Nat):Int))) 0 []:=by
 obtain⟨k,w,k1,k2,k3,_,_,hb⟩:=qo7 (l:=n) (by omega) z
 obtain⟨m1,m2⟩:=hm
 have e:k=m:=by
  rcases Nat.lt_trichotomy k m with c | c | c
  ·have h:=k3 (ndT n k) (qat (by omega))
   have:=(m2 k (by omega)).1 c
   rw[← hi k (by omega),qaz (qat (by omega))] at this
   omega
  ·exact c
  ·have h:=k2 (ndT n (k-1)) (by omega) (qat (by omega))
   have:=(m2 (k-1) (by omega)).2 (by rw[← hi (k-1) (by omega),qaz (qat (by omega))];exact h)
   omega
 subst e
 exact ele (hb:=hb)
def fuI (v z:Int):Int:=if z = -1 then -1 else z+v
theorem PFu {v:Int} (h1 : -3000000≤z) (h2:z≤3000000) (h3 : -3000000≤v) (h4:v≤3000000):Pure Try.prog 57 #[iV z,iV v] (iV (fuI v z)):=by
 unfold fuI
 by_cases h:z = -1
 ·rw[if_pos h];exact qoh (h:=beq_iff_eq.2 h)
 ·rw[if_neg h];exact qpz (h:=beq_eq_false_iff_ne.2 h) (hs:=by rw[qan (by omega) (by omega)])
def shN (v:Int) (l:List Pt):List Pt:=l.map fun p=>⟨p.id,fuI v p.a,fuI v p.b⟩
theorem qcX {v:Int}:(shN v l).length=l.length:=List.length_map ..
def qtw (l:List Pt):Prop:=∀ p∈l,(-3000000≤p.a∧p.a≤3000000)∧(-3000000≤p.b∧p.b≤3000000)
theorem qor {v:Int} (hl:l.length≤999999) (hs:qtw l) (h3 : -3000000≤v) (h4:v≤3000000):Fn 58 1 [.ls 0 l.length,.pv (iV v)] [(0,0,qaa l)] (.ls 1 (shN v l).length) 1 [(1,0,qaa (shN v l))]:=by
 have loop:=RunsL.roundsZ (fun j=>[(1,.pv (iV v)),(5,.ls 1 j),(8,.ls 0 l.length),(9,.pv (iV (l.length:Int))),(10,.pv (iV (j:Int)))])
  (fun j=>[(0,0,qaa l),(1,0,.row 26 3 j (qam ((shN v l).take j)))]) (N:=l.length) l.length 0 (Nat.zero_add _) (fun j _ hj r=>by
   obtain⟨p,hp⟩:=qao hj
   have hq:(shN v l)[j]?=some ⟨p.id,fuI v p.a,fuI v p.b⟩:=by unfold shN;rw[List.getElem?_map,hp];rfl
   obtain⟨⟨a1,a2⟩,b1,b2⟩:=hs p (List.mem_of_getElem? hp)
   rw[qbg hq,← qeY] at r
   exact qlW (k:=j) (n:=j) (vs:=qam ((shN v l).take j)) (hlt:=dt (by omega)) (hk:=hp) (hin:=⟨by omega,by omega⟩) (hn:=by omega) (ha:=PFu a1 a2 h3 h4) (hb:=PFu b1 b2 h3 h4) (hs:=qah (by omega)) r)
  (qqq (v:=v) (l:=l) (k:=l.length) (n:=l.length) (vs:=qam ((shN v l).take l.length)) (hlt:=df (by omega)))
 rw[List.take_zero,List.take_of_length_le (Nat.le_of_eq qcX)] at loop
 rw[show qaa (shN v l)=.row 26 3 l.length (qam (shN v l)) by rw[qaa,qcX],qcX]
 exact qr9 (r0:=loop)
theorem qpt {v:Int} {m:Nat} (hl:l.length≤999999) (hm:m≤l.length) (hs:qtw (l.drop m)) (h3 : -3000000≤v) (h4:v≤3000000) :
 Fn 58 1 [.lq 0 3 (0+m) (l.length-m),.pv (iV v)] [(0,0,.row 26 3 l.length (qam l))] (.ls 1 (shN v (l.drop m)).length) 1 [(1,0,qaa (shN v (l.drop m)))]:=by
 have h:=qor (l:=l.drop m) (by rw[List.length_drop];omega) hs h3 h4
 rw[show qaa (l.drop m)=.row 26 3 (l.length-m) (qam (l.drop m)) by rw[qaa,List.length_drop],List.length_drop] at h
 refine qr2 (vs:=[iV v]) ?_ (by omega)
 rw[Nat.zero_add,show ((qam l).drop (m*3)).take ((l.length-m)*3)=qam (l.drop m) by
  rw[qf0,List.take_of_length_le]
  rw[qa6,List.length_drop]
  exact Nat.le_refl _]
 exact h
def ptM (m N:Nat):Sh Nat→List Pt→List Pt
 | .nil,n=>n
 | .node a k b,n=>if k<m then qiZ (ptM m N b n) k (rtI (res 0 m b)) else stA (ptM m N a n) k (rtI (res m N a))
theorem qba {m N:Nat}:∀ (A:Sh Nat) (n:List Pt),Only n (ptM m N A n) A.list
 | .nil,n=>Only.refl _ _
 | .node a k b,n=>by
  have mk:k∈(Sh.node a k b).list:=List.mem_append_right _ List.mem_cons_self
  unfold ptM
  split
  ·exact ((qba b n).mono fun y hy=>List.mem_append_right _ (List.mem_cons_of_mem _ hy)).trans (qen _ mk)
  ·exact ((qba a n).mono fun y hy=>List.mem_append_left _ hy).trans (qd4 _ mk)
theorem qp5 {N m:Nat}:∀ {A:Sh Nat} {i:Int} {n:List Pt},Rep n i A→n.length=N→A.list.Pairwise (· < ·)→(∀ j,j<N→(j<m↔idN n j<z))→
 FnO Try.prog 54 0 1 [.ls 0 N,.pv (iV i),.pv (iV z)] [(0,0,.row 26 3 N (qam n))] (.pv (.tuple #[iV (rtI (res 0 m A)),iV (rtI (res m N A))])) 0 [(0,0,.row 26 3 N (qam (ptM m N A n)))]
 | .nil,i,n,h,hN,_,_=>by
  have e:i = -1:=h
  subst e
  exact qoF (h0:=rfl)
 | .node a k b,i,n,⟨h,p,hp,a1,a2⟩,hN,hs,hm=>by
  subst h
  have hk:=qak hp
  obtain⟨s1,s2,s3,s4⟩:=qfx hs
  have c0:((k:Int)==(-1))=false:=beq_eq_false_iff_ne.2 (by omega)
  have hid:idN n k=p.id:=qaz hp
  by_cases hc:k<m
  ·have e1:res 0 m (.node a k b)=.node (res 0 m a) k (res 0 m b):=by
    show (if k<0 then _ else if m≤k then _ else _)=_
    rw[if_neg (by omega),if_neg (by omega)]
   have e2:res m N (.node a k b)=res m N b:=by
    show (if k<m then _ else _)=_
    rw[if_pos hc]
   have ih:=qp5 (m:=m) a2 hN s2 hm
   have on:=qba (m:=m) (N:=N) b n
   rw[e1,e2,ptM,if_pos hc]
   exact qpR (z:=(k:Int)) (h0:=c0) (hin:=⟨by omega,by omega⟩) (hk:=hp) (hc:=dt (by rw[← hid];exact (hm k (by omega)).1 hc)) (hl:=ih) (hs:=qat (by rw[on.len];omega))
  ·have e1:res 0 m (.node a k b)=res 0 m a:=by
    show (if k<0 then _ else if m≤k then _ else _)=_
    rw[if_neg (by omega),if_pos (by omega)]
   have e2:res m N (.node a k b)=.node (res m N a) k (res m N b):=by
    show (if k<m then _ else if N≤k then _ else _)=_
    rw[if_neg hc,if_neg (by omega)]
   have ih:=qp5 (m:=m) a1 hN s1 hm
   have on:=qba (m:=m) (N:=N) a n
   rw[e1,e2,ptM,if_neg hc]
   exact qlw (z:=(k:Int)) (h0:=c0) (hin:=⟨by omega,by omega⟩) (hk:=hp) (hc:=df (by rw[← hid];exact fun h=>hc ((hm k (by omega)).2 h))) (hl:=ih) (hs:=qat (by rw[on.len];omega))
theorem Rep.sub2 {n:List Pt}:∀ {T:Sh Nat} {i:Int},Rep n i T→∀ k∈T.list,∃ A B,Rep n (ndT n k).a A∧Rep n (ndT n k).b B∧(∀ y∈A.list,y∈T.list)∧(∀ y∈B.list,y∈T.list)
 | .nil,_,_,k,h=>by cases h
 | .node a y b,i,⟨_,p,hp,a1,a2⟩,k,h=>by
  rcases List.mem_append.1 h with h | h
  ·obtain⟨A,B,h1,h2,h3,h4⟩:=a1.sub2 k h
   exact⟨A,B,h1,h2,fun y hy=>List.mem_append_left _ (h3 y hy),fun y hy=>List.mem_append_left _ (h4 y hy)⟩
  ·rcases List.mem_cons.1 h with rfl | h
   ·rw[qeo hp]
    exact⟨a,b,a1,a2,fun y hy=>List.mem_append_left _ hy,fun y hy=>List.mem_append_right _ (List.mem_cons_of_mem _ hy)⟩
   ·obtain⟨A,B,h1,h2,h3,h4⟩:=a2.sub2 k h
    exact⟨A,B,h1,h2,fun y hy=>List.mem_append_right _ (List.mem_cons_of_mem _ (h3 y hy)),fun y hy=>List.mem_append_right _ (List.mem_cons_of_mem _ (h4 y hy))⟩
theorem qkq {N m:Nat}:∀ {T:Sh Nat} {i:Int} {n:List Pt},Rep n i T→n.length=N→T.list.Pairwise (· < ·)→∀ j∈T.list,∀ A B,Rep n (ndT n j).a A→Rep n (ndT n j).b B→
 ndT (ptM m N T n) j=if j<m then ⟨(ndT n j).id,rtI (res 0 m A),rtI (res 0 m B)⟩ else ⟨(ndT n j).id,rtI (res m N A),rtI (res m N B)⟩
 | .nil,_,_,_,_,_,j,h=>by cases h
 | .node a k b,i,n,⟨_,p,hp,a1,a2⟩,hN,hs,j,h=>by
  intro A B hA hB
  have hk:=qak hp
  obtain⟨s1,s2,s3,s4⟩:=qfx hs
  have oa:=qba (m:=m) (N:=N) a n
  have ob:=qba (m:=m) (N:=N) b n
  have hka:k∉a.list:=fun h=>Nat.lt_irrefl _ (s3 k h)
  have hkb:k∉b.list:=fun h=>Nat.lt_irrefl _ (s4 k h)
  have keep:∀ {n1 n2:List Pt} {q:Nat},n1[q]?=n2[q]?→ndT n1 q=ndT n2 q:=fun e=>by unfold ndT;rw[List.getD_eq_getElem?_getD,List.getD_eq_getElem?_getD,e]
  have same:∀ {lo hi:Nat} {X:Sh Nat} {S:Sh Nat} {u:Int},Rep n u S→j∈S.list→(∀ y∈S.list,lo≤y∧y<hi)→(⟨(ndT n j).id,rtI (res lo hi A),rtI (res lo hi B)⟩:Pt)=ndT n j:=by
   intro lo hi X S u hS hj hb
   obtain⟨A',B',h1,h2,h3,h4⟩:=hS.sub2 j hj
   rw[hA.uniq h1,hB.uniq h2,qcW fun y hy=>hb y (h3 y hy),qcW fun y hy=>hb y (h4 y hy),← h1.rt,← h2.rt]
  unfold ptM
  by_cases hc:k<m
  ·rw[if_pos hc]
   rcases List.mem_append.1 h with hj | hj
   ·have l1:=s3 j hj
    have e:ndT (qiZ (ptM m N b n) k (rtI (res 0 m b))) j=ndT n j:=by
     rw[keep ((qen (l:=[k]) _ List.mem_cons_self).oth j (by simp;omega)),keep (ob.oth j fun h=>by have:=s4 j h;omega)]
    rw[e,if_pos (by omega),same (X:=a) a1 hj fun y hy=>⟨Nat.zero_le _,by have:=s3 y hy;omega⟩]
   ·rcases List.mem_cons.1 hj with e | hj
    ·subst e
     have ep:=qeo hp
     rw[ep] at hA hB ⊢
     have e1:ndT (ptM m N b n) j=p:=by rw[keep (ob.oth j hkb),ep]
     have hjl:j<(ptM m N b n).length:=by rw[ob.len];exact hk
     rw[if_pos hc]
     unfold qiZ
     rw[e1,qeo (by rw[List.getElem?_set_self hjl])]
     rw[hA.uniq a1,hB.uniq a2,qcW (T:=a) fun y hy=>⟨Nat.zero_le _,by have:=s3 y hy;omega⟩,← a1.rt]
    ·have l1:=s4 j hj
     rw[keep ((qen (l:=[k]) _ List.mem_cons_self).oth j (by simp;omega))]
     exact qkq a2 hN s2 j hj A B hA hB
  ·rw[if_neg hc]
   rcases List.mem_append.1 h with hj | hj
   ·have l1:=s3 j hj
    rw[keep ((qd4 (l:=[k]) _ List.mem_cons_self).oth j (by simp;omega))]
    exact qkq a1 hN s1 j hj A B hA hB
   ·rcases List.mem_cons.1 hj with e | hj
    ·subst e
     have ep:=qeo hp
     rw[ep] at hA hB ⊢
     have e1:ndT (ptM m N a n) j=p:=by rw[keep (oa.oth j hka),ep]
     have hjl:j<(ptM m N a n).length:=by rw[oa.len];exact hk
     rw[if_neg hc]
     unfold stA
     rw[e1,qeo (by rw[List.getElem?_set_self hjl])]
     rw[hA.uniq a1,hB.uniq a2,qcW (T:=b) fun y hy=>⟨by have:=s4 y hy;omega,by have:=a2.lt y hy;omega⟩,← a2.rt]
    ·have l1:=s4 j hj
     have e:ndT (stA (ptM m N a n) k (rtI (res m N a))) j=ndT n j:=by
      rw[keep ((qd4 (l:=[k]) _ List.mem_cons_self).oth j (by simp;omega)),keep (oa.oth j fun h=>by have:=s3 j h;omega)]
     rw[e,if_neg (by omega),same (X:=b) a2 hj fun y hy=>⟨by have:=s4 y hy;omega,by have:=a2.lt y hy;omega⟩]
end
end Go.Proofs.Ytalnjplghagbpaa
