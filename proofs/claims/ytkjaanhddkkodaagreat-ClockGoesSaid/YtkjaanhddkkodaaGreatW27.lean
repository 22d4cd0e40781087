/-
  Joined: Ki, Kj, La. Conditions: none.
-/
import Derived.Test.YtkjaanhddkkodaaGreatW26
import Derived.Test.YtkjaanhddkkodaaGreatW18
import Derived.Test.YtkjaanhddkkodaaGreatW24
import Derived.Test.YtkjaanhddkkodaaGreatW23
namespace Go.Proofs.YtkjaanhddkkodaaGreat
set_option maxRecDepth 100000
open Go.RowKit
theorem fc1 (a pa pb n:Int):∃ c,Pure Tryz.prog 206 #[qac a pa pb,iV n] (iV c)∧(c<0↔a<n)∧(c=0↔a=n):=by
 rcases Int.lt_trichotomy a n with h | h | h
 ·exact⟨-1,qCy (by simp) (by simp) (dt h),⟨fun _=>h,fun _=>by omega⟩,⟨fun h=>by omega,fun h=>by omega⟩⟩
 ·exact⟨0,qzN (by simp) (by simp) (df (by omega)) (df (by omega)),⟨fun h=>by omega,fun h=>by omega⟩,⟨fun _=>h,fun _=>rfl⟩⟩
 ·exact⟨1,qAn (by simp) (by simp) (df (by omega)) (dt (by omega)),⟨fun h=>by omega,fun h=>by omega⟩,⟨fun h=>by omega,fun h=>by omega⟩⟩
abbrev qGL (l:List Pt) (n:Int) (i j:Nat):List (Nat×SV):=[(0,.ls 0 l.length),(1,.pv (iV n)),(2,.pv (.func (.func 206) #[] #[])),(8,.pv (iV (l.length:Int))),(9,.pv (iV (i:Int))),(10,.pv (iV (j:Int)))]
theorem qkj {l:List Pt} (hn:l.length≤210) {n:Int} {k:Nat} (hlo:∀ (t:Nat) (p:Pt),t<k→l[t]?=some p→p.id<n) (hhi:∀ (t:Nat) (p:Pt),k≤t→l[t]?=some p→¬ p.id<n):∀ (d i j:Nat),j-i≤d→i≤k→k≤j→j≤l.length→
 Rl 1 1 205 0 49 1 (qGL l n i j) [(0,0,qak l)] (.exit 0) (qGL l n k k) [(0,0,qak l)]:=by
 intro d
 induction d with
 | zero=>
  intro i j hd h1 h2 h3
  have:i=k:=by omega
  have:j=k:=by omega
  subst i j
  exact qnb (df (by omega))
 | succ d ih=>
  intro i j hd h1 h2 h3
  by_cases hij:i<j
  ·obtain⟨p,hp⟩:=qah (l:=l) (k:=(i+j)/2) (by omega)
   obtain⟨c,hc,hc1,hc2⟩:=fc1 p.id p.a p.b n
   have a1:iV (IntKind.i64.wrap ((i:Int)+(j:Int)))=iV ((i:Int)+(j:Int)):=by rw[qas (by omega) (by omega)]
   have a2:Value.int .u64 (IntKind.u64.wrap ((i:Int)+(j:Int)))=.int .u64 ((i:Int)+(j:Int)):=by rw[qfP (by omega) (by omega)]
   have a3:Value.int .u64 (((i:Int)+(j:Int)).fdiv (2 ^ (min (1:Int).toNat IntKind.u64.bits)))=.int .u64 (((i+j)/2:Nat):Int):=by
    have:(2:Int) ^ (min (1:Int).toNat IntKind.u64.bits)=2:=rfl
    rw[this,Int.fdiv_eq_ediv_of_nonneg _ (by omega)]
    congr 1
   have a4:iV (IntKind.i64.wrap (((i+j)/2:Nat):Int))=iV (((i+j)/2:Nat):Int):=by rw[qas (by omega) (by omega)]
   by_cases hlt:p.id<n
   ·refine qBw hp (qao (qai hp)) (dt (by omega)) a1 a2 (by omega) a3 a4 hc (dt (hc1.2 hlt)) (qar (by omega)) (ih _ _ (by omega) ?_ h2 h3)
    rcases Nat.lt_or_ge ((i+j)/2) k with h | h
    ·exact h
    ·exact (hhi _ p h hp hlt).elim
   ·refine qCQ hp (qao (qai hp)) (dt (by omega)) a1 a2 (by omega) a3 a4 hc (df (fun h=>hlt (hc1.1 h))) (ih _ _ (by omega) h1 ?_ (by omega))
    rcases Nat.lt_or_ge ((i+j)/2) k with h | h
    ·exact (hlt (hlo _ p h hp)).elim
    ·exact h
  ·have:i=k:=by omega
   have:j=k:=by omega
   subst i j
   exact qnb (df (by omega))
theorem qom (x:Int) {l:List Pt} (hn:l.length≤210) (hu:Up l) {n:Int} {k:Nat} {p:Pt} (hk:l[k]?=some p) (he:p.id=n):Fn 165 1 [qaP 0 x l,.pv (iV n)] [(0,0,qak l)] (.pv (.tuple #[iV (k:Int),.bool true])) 0 []:=by
 subst he
 obtain⟨c,hc,hc1,hc2⟩:=fc1 p.id p.a p.b p.id
 have hl:=qai hk
 refine qd6 (qp0 (qkj hn (fun t q ht hq=>hu.mono ht hq hk) (fun t q ht hq=>?_) l.length 0 l.length (by omega) (Nat.zero_le _) (by omega) (Nat.le_refl _)) hk (qao hl) (dt (by omega)) hc (by simpa using hc2.2 rfl))
 rcases Nat.lt_or_ge k t with h | h
 ·have:=hu.mono h hk hq;omega
 ·have:t=k:=by omega
  subst this
  rw[hk] at hq;cases hq;omega
theorem qsQ (x:Int) {l:List Pt} (hn:l.length≤210) {n:Int} {k:Nat} (hkl:k≤l.length) (hlo:∀ (t:Nat) (p:Pt),t<k→l[t]?=some p→p.id<n) (hhi:∀ (t:Nat) (p:Pt),k≤t→l[t]?=some p→n<p.id):Fn 165 1 [qaP 0 x l,.pv (iV n)] [(0,0,qak l)] (.pv (.tuple #[iV (k:Int),.bool false])) 0 []:=by
 have hb:=qkj hn hlo (fun t p ht hp=>by have:=hhi t p ht hp;omega) l.length 0 l.length (by omega) (Nat.zero_le _) hkl (Nat.le_refl _)
 by_cases h:k<l.length
 ·obtain⟨p,hp⟩:=qah h
  obtain⟨c,hc,hc1,hc2⟩:=fc1 p.id p.a p.b n
  refine qd6 (qww hb hp (qao h) (dt (by omega)) hc ?_)
  have:=hhi k p (Nat.le_refl _) hp
  simp only[beq_eq_false_iff_ne,ne_eq]
  exact fun e=>by have:=hc2.1 e;omega
 ·exact qd6 (qsG hb (df (by omega)))
abbrev qGR:Value:=.agg #[iV 0,.slice none 0 0]
abbrev qAv (f:FuncId) (x:Int) (l:List Pt) (n e:Int):Prop:=Fn f 1 [qaP 0 x l,.pv (iV n)] [(0,0,qak l)] (.pv (.tuple #[qGR,qag 0 0,iV e])) 0 []
abbrev qGz (f:FuncId) (x:Int) (l:List Pt) (n:Int) (m:List Pt) (a b:Int):Prop:=Fn f 1 [qaP 0 x l,.pv (iV n)] [(0,0,qak l)] (.tu [.ag [.pv (iV x),.ls 1 m.length],.one (.pv (qag a b)),.one (.pv (iV 0))]) 1 [(1,0,qak m)]
theorem qb7 {a b c:Int} (h:a+b=c) (h0:0≤c) (h1:c≤2000000):iV (IntKind.i64.wrap (a+b))=iV c:=by rw[h,qas (by omega) (by omega)]
theorem qHG {l:List Pt} (hn:l.length≤210) {k:Nat} (hk:k<l.length):Fn 105 2 [.ps 1 0 2 2] [(1,0,.lq 0 3 0 k),(1,1,.lq 0 3 (0+(k+1)) (l.length-(k+1))),(0,0,qak l)] (.ls 2 (l.take k++l.drop (k+1)).length) 1 [(2,0,qak (l.take k++l.drop (k+1)))]:=by
 by_cases hz:l.length=1
 ·refine qz7 (s1:=(k:Int)) (s2:=((k+(l.length-(k+1)):Nat):Int)) (q1:=qb7 (by omega) (by omega) (by omega)) (n1:=df (by omega)) (q2:=qb7 (by omega) (by omega) (by omega)) (n2:=df (by omega)) (hgr:=?_) (a1:=by omega) (a2:=by omega) (hkl1:=by omega)
  rw[show ((k+(l.length-(k+1)):Nat):Int)=0 by omega]
  exact qFL (h0:=df (by omega)) (hs:=by rw[qas (by omega) (by omega)];rfl) (hg:=df (by omega))
 ·exact qzc (s1:=(k:Int)) (s2:=((k+(l.length-(k+1)):Nat):Int)) (q1:=qb7 (by omega) (by omega) (by omega)) (n1:=df (by omega)) (q2:=qb7 (by omega) (by omega) (by omega)) (n2:=df (by omega))
   (hgr:=qCF (h0:=df (by omega)) (hs:=by rw[qas (by omega) (by omega)];congr 1<;>omega) (hg:=dt (by omega)) (a0:=by omega) (a1:=by omega)) (a1:=by omega) (a2:=by omega) (hkl1:=by omega)
abbrev qtj (f:FuncId) (x:Int) (l:List Pt) (a b e:Int):Prop:=Fn f 1 [qaP 0 x l,.pv (qag a b)] [(0,0,qak l)] (.pv (.tuple #[qGR,iV 0,iV e])) 0 []
abbrev qAq (f:FuncId) (x:Int) (l:List Pt) (a b:Int):Prop:=Fn f 1 [qaP 0 x l,.pv (qag a b)] [(0,0,qak l)] (.tu [.ag [.pv (iV (x+1)),.ls 1 (l++[Pt.mk x a b]).length],.one (.pv (iV x)),.one (.pv (iV 0))]) 1 [(1,0,qak (l++[Pt.mk x a b]))]
theorem qAP {l:List Pt} (hn:l.length≤210) (a b:Int):Fn 140 2 [.ls 0 l.length,.pc 149 [.pp 1 0]] [(0,0,qak l),(1,0,.pv (iV a)),(1,1,.pv (iV b))] (.pv (.bool (qhB l a b))) 0 []:=by
 have step:∀ k,(∀ j,j<k→∀ p,l[j]?=some p→¬ (p.a=a∧p.b=b))→∀ {e:Exit} {tm2:TmL} {hp2:HpL},k≤l.length→
  Rl 2 2 184 0 19 2 [(0,.ls 0 l.length),(1,.pc 149 [.pp 1 0]),(7,.pv (iV (l.length:Int))),(8,.pv (iV (k:Int)))] [(0,0,qak l),(1,0,.pv (iV a)),(1,1,.pv (iV b))] e tm2 hp2→
  Rl 2 2 184 0 19 2 [(0,.ls 0 l.length),(1,.pc 149 [.pp 1 0]),(7,.pv (iV (l.length:Int))),(8,.pv (iV ((0:Nat):Int)))] [(0,0,qak l),(1,0,.pv (iV a)),(1,1,.pv (iV b))] e tm2 hp2:=by
  intro k hk e tm2 hp2 hkl r
  refine RunsL.rounds (fun j=>[(0,.ls 0 l.length),(1,.pc 149 [.pp 1 0]),(7,.pv (iV (l.length:Int))),(8,.pv (iV (j:Int)))]) (fun _=>[(0,0,qak l),(1,0,.pv (iV a)),(1,1,.pv (iV b))]) (N:=k) k 0 (Nat.zero_add _) (fun j _ hj r=>?_) r
  obtain⟨p,hp⟩:=qah (l:=l) (k:=j) (by omega)
  exact qr2 hp (qao (qai hp)) (dt (by have:=qai hp;omega)) (qpe (p:=⟨0,a,b⟩) (hk j hj p hp)) (qar (by omega)) r
 rcases qaZ (fun j=>∀ p,l[j]?=some p→¬ (p.a=a∧p.b=b)) l.length with h | ⟨j,hj,hb,hf⟩
 ·rw[qjw fun k p hp=>h k (qai hp) p hp]
  exact qzS (qA8 (step l.length h (Nat.le_refl _) (qxY (df (by omega)))))
 ·simp only[Classical.not_forall,Classical.not_not] at hb
  obtain⟨p,hp,he⟩:=hb
  rw[qdK.2 ⟨p,List.mem_of_getElem? hp,he⟩]
  exact qxG (k:=j) (qx6 (step j hf (by omega) (qtW hp (qao hj) (dt (by omega)) (qnn (p:=⟨0,a,b⟩) he)))) (dt (by omega))
noncomputable def qtN (l:List Pt) (a b:Int):Int:=if qcR a b=true then (if qhB l a b=true then 14 else 0) else 8
def qiS (x:Int) (l:List Pt):Int:=if l.length=200∨x=1000000 then 18 else 0
theorem qAF (x:Int) {l:List Pt} (hn:l.length≤210) (a b:Int):Fn 103 1 [qaP 0 x l,.pv (qag a b)] [(0,0,qak l)] (.pv (iV (qtN l a b))) 0 []:=by
 have h1:=qkw a b
 have h2:=qAP hn a b
 unfold qtN
 cases c:qcR a b
 ·rw[c] at h1;rw[if_neg (by decide)];exact qwv h1
 ·rw[c] at h1
  rw[if_pos rfl]
  cases d:qhB l a b
  ·rw[d] at h2;rw[if_neg (by decide)];exact qyN h1 h2
  ·rw[d] at h2;rw[if_pos rfl];exact qt5 h1 h2
theorem qnt (x:Int) (l:List Pt):Fn 104 1 [qaP 0 x l] [(0,0,qak l)] (.pv (iV (qiS x l))) 0 []:=by
 unfold qiS
 by_cases h1:l.length=200
 ·rw[if_pos (Or.inl h1)];exact qss (by simp[h1])
 ·by_cases h2:x=1000000
  ·rw[if_pos (Or.inr h2)];exact qsF (by simp;omega) (by simp[h2])
  ·rw[if_neg (by omega)];exact qzz (by simp;omega) (by simp[h2])
theorem qHF {l:List Pt} (hn:l.length≤210) (x a b:Int):Fn 105 3 [.ps 2 0 2 2] [(2,0,.ls 0 l.length),(2,1,.ps 1 0 1 1),(1,0,.pv (iV x)),(1,1,.pv (iV a)),(1,2,.pv (iV b)),(0,0,qak l)] (.ls 3 (l++[Pt.mk x a b]).length) 1 [(3,0,qak (l++[Pt.mk x a b]))]:=
 qHr (s1:=(l.length:Int)) (s2:=((l.length+1:Nat):Int)) (q1:=qb7 (by omega) (by omega) (by omega)) (n1:=df (by omega)) (q2:=qb7 (by omega) (by omega) (by omega)) (n2:=df (by omega))
  (hgr:=qCF (h0:=df (by omega)) (hs:=by rw[qas (by omega) (by omega)];congr 1<;>omega) (hg:=dt (by omega)) (a0:=by omega) (a1:=by omega)) (a1:=by omega) (a2:=by omega)
def qHz (x:Int) (l:List Pt) (a b e:Int):Prop:=(e=8∧(¬ V8 x l∨¬ qcR a b=true))∨(e=14∧V8 x l∧qcR a b=true∧qhB l a b=true)∨(e=18∧V8 x l∧qcR a b=true∧qhB l a b=false∧(l.length=200∨x=1000000))
theorem qj6 (x:Int) {l:List Pt} (hn:l.length≤210) (a b:Int):(∃ e,qtj 57 x l a b e∧qtj 122 x l a b e∧qHz x l a b e)∨
 (V8 x l∧qcR a b=true∧qhB l a b=false∧l.length<200∧x<1000000∧qAq 57 x l a b∧qAq 122 x l a b):=by
 have p1:=qhh x l
 have p2:=qAF x hn a b
 have p3:=qnt x l
 have r1:=qoy x l
 have r2:=qeN a b
 have r3:=qxm x (l:=l) (by omega) a b
 by_cases hv:V8 x l
 ·rw[qdr hv] at p1 r1
  cases hc:qcR a b
  ·rw[hc] at r2
   have e2:qtN l a b=8:=by unfold qtN;rw[hc,if_neg (by decide)]
   rw[e2] at p2
   exact Or.inl ⟨8,qti (c1:=p1) (c2:=p2) (c3:=p3) (he:=by decide),quh (hc:=r1) (hv:=r2),Or.inl ⟨rfl,Or.inr (by rw[hc];decide)⟩⟩
  ·rw[hc] at r2
   cases hh:qhB l a b
   ·rw[hh] at r3
    have e2:qtN l a b=0:=by unfold qtN;rw[hc,if_pos rfl,hh,if_neg (by decide)]
    rw[e2] at p2
    by_cases hf:l.length=200
    ·have e3:qiS x l=18:=by unfold qiS;rw[if_pos (Or.inl hf)]
     rw[e3] at p3
     exact Or.inl ⟨18,qtH (c1:=p1) (c2:=p2) (c3:=p3) (he:=by decide),qqp (hc:=r1) (hv:=r2) (hh:=r3) (hf:=by simp;omega),Or.inr (Or.inr ⟨rfl,hv,hc,hh,Or.inl hf⟩)⟩
    ·by_cases hw:x=1000000
     ·have e3:qiS x l=18:=by unfold qiS;rw[if_pos (Or.inr hw)]
      rw[e3] at p3
      exact Or.inl ⟨18,qtH (c1:=p1) (c2:=p2) (c3:=p3) (he:=by decide),qq5 (hc:=r1) (hv:=r2) (hh:=r3) (hf:=by simp;omega) (hu:=by simp[hw]),Or.inr (Or.inr ⟨rfl,hv,hc,hh,Or.inr hw⟩)⟩
     ·have e3:qiS x l=0:=by unfold qiS;rw[if_neg (by omega)]
      rw[e3] at p3
      have hl:=hv.len
      have hx:=hv.nx
      have hy:iV (IntKind.i64.wrap (x+1))=iV (x+1):=qb7 rfl (by omega) (by omega)
      refine Or.inr ⟨hv,rfl,rfl,by omega,by omega,qzt (c1:=p1) (c2:=p2) (c3:=p3) (hcat:=qHF hn x a b) (hy:=hy),qAL (hc:=r1) (hv:=r2) (hh:=r3) (hf:=by simp;omega) (hu:=by simpa using hw) (ht:=qhH x (by omega)) (hn:=by omega) (hy:=hy)⟩
   ·rw[hh] at r3
    have e2:qtN l a b=14:=by unfold qtN;rw[hc,if_pos rfl,hh,if_pos rfl]
    rw[e2] at p2
    exact Or.inl ⟨14,qti (c1:=p1) (c2:=p2) (c3:=p3) (he:=by decide),qvW (hc:=r1) (hv:=r2) (hh:=r3),Or.inr (Or.inl ⟨rfl,hv,hc,hh⟩)⟩
 ·rw[qbC hv] at p1 r1
  exact Or.inl ⟨8,qBF (c1:=p1) (c2:=p2) (c3:=p3) (he:=by decide),qvh (hc:=r1),Or.inl ⟨rfl,Or.inl hv⟩⟩
end Go.Proofs.YtkjaanhddkkodaaGreat

namespace Go.Proofs.YtkjaanhddkkodaaGreat
set_option maxRecDepth 100000
open Go.RowKit
def names (n:Int) (p:Pt):Bool:=decide (p.a=n∨p.b=n)
theorem qul {s:List Pt} (hs:Val s) {p q:Pt} (hp:p∈s) (hq:q∈s) (h:p.id=q.id):p=q:=by
 obtain⟨i,hi,rfl⟩:=List.getElem_of_mem hp
 obtain⟨j,hj,rfl⟩:=List.getElem_of_mem hq
 exact (qtp hs.up (List.getElem?_eq_getElem hi) (List.getElem?_eq_getElem hj) h).2
def qeJ (s:List Pt) (i:Int):Pt:=(s.find? fun q=>q.id==i).getD ⟨0,0,0⟩
theorem qeg {s:List Pt} (hs:Val s) {q:Pt} (hq:q∈s):qeJ s q.id=q:=by
 unfold qeJ
 cases h:s.find? fun r=>r.id==q.id with
 | none=>have:=List.find?_eq_none.1 h q hq;simp at this
 | some r=>
  have h1:=List.mem_of_find?_eq_some h
  have h2:=List.find?_some h
  simp only[beq_iff_eq] at h2
  exact qul hs h1 hq h2
def qdf (l s:List Pt):Prop:=∀ p∈l,(∃ q∈s,q.id=p.a)∧∃ g∈s,g.id=p.b
noncomputable def qiq (l s:List Pt):Bool:=open Classical in decide (qdf l s)
open Classical in
theorem qc4 {l s:List Pt}:qiq l s=true↔qdf l s:=by unfold qiq;exact decide_eq_true_iff
theorem qfu {l s:List Pt} (h:¬ qdf l s):qiq l s=false:=by
 cases e:qiq l s
 ·rfl
 ·exact (h (qc4.1 e)).elim
section
variable {tn td:Int} (htn:I64 tn) (htd:I64 td)
theorem qg6 {s:List Pt} (hs:Val s) (i:Int):∃ u,Fn 72 1 [qaB 0 s,.pv (iV i)] [(0,0,qam s)] (.pv (iV u)) 0 []∧((u<0∧¬ ∃ q∈s,q.id=i)∨∃ (k:Nat) (q:Pt),u=(k:Int)∧s[k]?=some q∧q.id=i):=by
 rcases place s hs i with ⟨k,q,hk,he⟩ | ⟨hno,_⟩
 ·exact⟨k,qnU hs hk he,Or.inr ⟨k,q,rfl,hk,he⟩⟩
 ·exact⟨-1,qEd hs.len hno,Or.inl ⟨by omega,fun ⟨q,hq,he⟩=>hno q hq he⟩⟩
theorem qtl (x:Int) {l s:List Pt} (hn:l.length≤210) (hs:Val s):Fn 45 2 [qaP 0 x l,qaB 1 s] [(0,0,qak l),(1,0,qam s)] (.pv (.bool (qiq l s))) 0 []:=by
 have step:∀ k,(∀ j,j<k→∀ p,l[j]?=some p→(∃ q∈s,q.id=p.a)∧∃ g∈s,g.id=p.b)→∀ {e:Exit} {tm2:TmL} {hp2:HpL},k≤l.length→
  Rl 2 2 45 0 35 4 [(2,.pp 2 0),(3,.pp 3 0),(5,.pv (iV (k:Int)))] [(2,0,.pv (iV x)),(2,1,.ls 0 l.length),(3,0,.ls 1 s.length),(0,0,qak l),(1,0,qam s)] e tm2 hp2→
  Rl 2 2 45 0 35 4 [(2,.pp 2 0),(3,.pp 3 0),(5,.pv (iV ((0:Nat):Int)))] [(2,0,.pv (iV x)),(2,1,.ls 0 l.length),(3,0,.ls 1 s.length),(0,0,qak l),(1,0,qam s)] e tm2 hp2:=by
  intro k hk e tm2 hp2 hkl r
  refine RunsL.rounds (fun j=>[(2,.pp 2 0),(3,.pp 3 0),(5,.pv (iV (j:Int)))]) (fun _=>[(2,0,.pv (iV x)),(2,1,.ls 0 l.length),(3,0,.ls 1 s.length),(0,0,qak l),(1,0,qam s)]) (N:=k) k 0 (Nat.zero_add _) (fun j _ hj r=>?_) r
  obtain⟨p,hp⟩:=qah (l:=l) (k:=j) (by omega)
  obtain⟨h1,h2⟩:=hk j hj p hp
  obtain⟨u,a1,a2⟩:=qg6 hs p.a
  obtain⟨v,b1,b2⟩:=qg6 hs p.b
  rcases a2 with ⟨_,a2⟩ | ⟨i,q,rfl,_⟩
  ·exact (a2 h1).elim
  ·rcases b2 with ⟨_,b2⟩ | ⟨i',g,rfl,_⟩
   ·exact (b2 h2).elim
   ·exact qqw (hk:=hp) (hin:=qao (qai hp)) (hlt:=dt (by have:=qai hp;omega)) (ha:=a1) (h1:=df (by omega)) (hb:=b1) (h2:=df (by omega)) (hs:=qar (by omega)) r
 rcases qaZ (fun j=>∀ p,l[j]?=some p→(∃ q∈s,q.id=p.a)∧∃ g∈s,g.id=p.b) l.length with h | ⟨j,hj,hb,hf⟩
 ·rw[qc4.2 fun p hp=>by
   obtain⟨k,hk,rfl⟩:=List.getElem_of_mem hp
   exact h k hk _ (List.getElem?_eq_getElem hk)]
  exact qxC (r0:=step l.length h (Nat.le_refl _) (qxi (hge:=df (by omega))))
 ·simp only[Classical.not_forall] at hb
  obtain⟨p,hp,hnp⟩:=hb
  rw[qfu fun h=>hnp (h p (List.mem_of_getElem? hp))]
  refine qzr (r0:=step j hf (by omega) ?_)
  obtain⟨u,a1,a2⟩:=qg6 hs p.a
  obtain⟨v,b1,b2⟩:=qg6 hs p.b
  rcases a2 with ⟨a2,_⟩ | ⟨i,q,rfl,hq,hqa⟩
  ·exact qCP (hk:=hp) (hin:=qao hj) (hlt:=dt (by omega)) (ha:=a1) (h1:=dt a2)
  ·rcases b2 with ⟨b2,_⟩ | ⟨i',g,rfl,hg,hgb⟩
   ·exact qCI (hk:=hp) (hin:=qao hj) (hlt:=dt (by omega)) (ha:=a1) (h1:=df (by omega)) (hb:=b1) (h2:=dt b2)
   ·exact (hnp ⟨⟨q,List.mem_of_getElem? hq,hqa⟩,⟨g,List.mem_of_getElem? hg,hgb⟩⟩).elim
end
end Go.Proofs.YtkjaanhddkkodaaGreat

namespace Go.Proofs.YtkjaanhddkkodaaGreat
set_option maxRecDepth 100000
open Go.RowKit
theorem qx7 {n d tn td m k:Int} (hd:0<d) (ht:0<td) (hk:0<k) (h1:m*d≤n*k) (h2:n*td≤tn*d):m*td≤tn*k:=by
 have e1:=Int.mul_le_mul_of_nonneg_right h1 (Int.le_of_lt ht)
 have e2:=Int.mul_le_mul_of_nonneg_right h2 (Int.le_of_lt hk)
 have e3:n*k*td=n*td*k:=Int.mul_right_comm n k td
 have e4:m*d*td=m*td*d:=Int.mul_right_comm m d td
 have e5:tn*d*k=tn*k*d:=Int.mul_right_comm tn d k
 exact Int.le_of_mul_le_mul_right (a:=d) (by omega) hd
abbrev ldB (q p:Pt) (n d:Int):Bool:=qbm (q.a*d+q.b*n) (p.a*d+p.b*n) q.b p.b q.id p.id
structure FailIs (p q:Pt) (n d m k:Int) (s:Bool):Prop where
 ok:s=true→okB m k=true∧I64 m∧I64 k∧n*k≤m*d
 no:s=false→m=0∧k=0
 then_:s=true→ldB q p m k=true
 before:∀ tn td,okB tn td=true→n*td≤tn*d→(s=true→tn*k<m*td)→ldB q p tn td=false
abbrev qsq (p q:Pt) (n d m k:Int) (s:Bool):Prop:=Pure Tryz.prog 154 #[ptV p,ptV q,qab n d] (.tuple #[qab m k,.bool s,iV 0])
abbrev qqg (p q:Pt) (n d m k:Int) (s:Bool):Prop:=Pure Tryz.prog 83 #[ptV p,ptV q,qab n d] (.tuple #[qab m k,.bool s])
theorem qgK {p q:Pt} {n d:Int} (hn:I64 n) (hd:I64 d) (h3:okB n d=true) (hl:ldB q p n d=true):FailIs p q n d n d true where
 ok:=fun _=>⟨h3,hn,hd,Int.le_refl _⟩
 no:=fun h=>by cases h
 then_:=fun _=>hl
 before:=fun tn td _ h1 h2=>by have:=h2 rfl;omega
theorem qxO {p q:Pt} {n d:Int} (hn:I64 n) (hd:I64 d) (hp:qiU p=true) (hq:qiU q=true) (h3:okB n d=true) (h4:p.id≠q.id):∃ m k s,qsq p q n d m k s∧qqg p q n d m k s∧FailIs p q n d m k s:=by
 obtain⟨pi,pa,pb⟩:=p
 obtain⟨qi,qa,qb⟩:=q
 simp only at h4
 have h1:okP pi pa pb=true:=hp
 have h2:okP qi qa qb=true:=hq
 have c1:=qda h1
 have c2:=qda h2
 have c3:=qch hn hd h3
 have c4:=ql8 (pa:=pa) (pb:=pb) (qa:=qa) (qb:=qb) h4
 have ld:=qrz (pi:=qi) (qi:=pi) (n:=n) (d:=d) hn hd h2 h1
 have d0:0<d:=by have:=qcl h3;omega
 have now:=fun (l:Pure Tryz.prog 134 #[qac qi qa qb,qac pi pa pb,qab n d] (.bool true))=>qiW (pi:=pi) (pa:=pa) (pb:=pb) l
 by_cases hb:qb=pb
 ·subst hb
  have no:=fun (l:Pure Tryz.prog 134 #[qac qi qa qb,qac pi pa qb,qab n d] (.bool false))=>qgh (pi:=pi) (pa:=pa) (pb:=qb) l (df (by omega))
  have sm:∀ tn td:Int,okB tn td=true→ldB ⟨qi,qa,qb⟩ ⟨pi,pa,qb⟩ tn td=qbm qa pa qb qb qi pi:=fun tn td h=>qgp (by have:=qcl h;omega)
  have none:qbm qa pa qb qb qi pi=false→FailIs ⟨pi,pa,qb⟩ ⟨qi,qa,qb⟩ n d 0 0 false:=fun h=>⟨fun h=>(by cases h),fun _=>⟨rfl,rfl⟩,fun h=>(by cases h),fun tn td ht _ _=>by rw[sm tn td ht];exact h⟩
  have nw:qbm qa pa qb qb qi pi=true→FailIs ⟨pi,pa,qb⟩ ⟨qi,qa,qb⟩ n d n d true:=fun h=>qgK hn hd h3 (by rw[sm n d h3];exact h)
  rw[qgp d0] at ld
  by_cases ha:qa=pa
  ·subst ha
   by_cases hi:qi<pi
   ·have e:qbm qa qa qb qb qi pi=true:=qds (by omega)
    rw[e] at ld
    exact⟨n,d,true,qsn c1 c2 c3 c4 (by simp) (dt hi),now ld,nw e⟩
   ·have e:qbm qa qa qb qb qi pi=false:=qdt (by omega)
    rw[e] at ld
    exact⟨0,0,false,qqJ c1 c2 c3 c4 (by simp) (df hi) (df (Int.lt_irrefl _)),no ld,none e⟩
  ·by_cases hg:qa>pa
   ·have e:qbm qa pa qb qb qi pi=true:=qds (by omega)
    rw[e] at ld
    exact⟨n,d,true,qrk c1 c2 c3 c4 (by simp[ha]) (by simp) (dt hg),now ld,nw e⟩
   ·have e:qbm qa pa qb qb qi pi=false:=qdt (by omega)
    rw[e] at ld
    exact⟨0,0,false,qsv c1 c2 c3 c4 (by simp[ha]) (by simp) (df hg) (df (Int.lt_irrefl _)),no ld,none e⟩
 ·obtain⟨m,k,k1,k2,k3,k4,k5,k6⟩:=qhR h2 h1 hb
  have k0:0<k:=by have:=qcl k1;omega
  have cc:=qkt hn hd k2 k3 h3 k1
  have lt:∀ tn td:Int,ldB ⟨qi,qa,qb⟩ ⟨pi,pa,pb⟩ tn td=(decide (qb>pb)==decide ((tn*k-m*td).sign≥0)):=fun tn td=>qgo k0 k4 hb
  have ld0:=lt n d
  rw[qgo k0 k4 hb] at ld
  have w:(qa==pa&&(qb==pb&&true))=false:=by simp[hb]
  have bb:(qb==pb)=false:=by simp[hb]
  by_cases g:qb>pb<;>by_cases l:(n*k-m*d).sign≥0
  ·rw[dt g,dt l] at ld ld0
   exact⟨n,d,true,qoM c1 c2 c3 c4 w bb k5 cc (dt l) (dt g),now ld,qgK hn hd h3 ld0⟩
  ·rw[dt g,df l] at ld
   have mt:=qCJ h1 h2 (Ne.symm hb) k1 k2 k3 (by
    have e1:m*(pb-qb) = -(m*(qb-pb)):=by rw[← Int.mul_neg];congr 1;omega
    have e2:(qa-pa)*k = -((pa-qa)*k):=by rw[← Int.neg_mul];congr 1;omega
    rw[e1,e2,k4])
   refine⟨m,k,true,qpc c1 c2 c3 c4 w bb k5 cc (df l) (dt g) k6,qjt ld (dt g) mt,fun _=>⟨k1,k2,k3,?_⟩,fun h=>(by cases h),fun _=>?_,fun tn td _ _ h=>?_⟩
   ·have:¬ 0≤n*k-m*d:=fun e=>l ((qeB _).2 e)
    omega
   ·rw[lt m k,dt g,Int.sub_self];rfl
   ·have h':=h rfl
    rw[lt tn td,dt g,df (fun e=>by have:=(qeB (tn*k-m*td)).1 e;omega)];rfl
  ·rw[df g,dt l] at ld
   have l':=(qeB (n*k-m*d)).1 l
   refine⟨0,0,false,qn4 c1 c2 c3 c4 w bb k5 cc (dt l) (df g),qgh ld (df g),fun h=>(by cases h),fun _=>⟨rfl,rfl⟩,fun h=>(by cases h),fun tn td ht h _=>?_⟩
   have t0:0<td:=by have:=qcl ht;omega
   have:=qx7 d0 t0 k0 (show m*d≤n*k by omega) h
   rw[lt tn td,df g,dt ((qeB _).2 (by omega))];rfl
  ·rw[df g,df l] at ld ld0
   exact⟨n,d,true,qpl c1 c2 c3 c4 w bb k5 cc (df l) (df g),now ld,qgK hn hd h3 ld0⟩
noncomputable def qaf (s:List Pt) (n d:Int) (c:Pt):Int×Int×Bool:=open Classical in if h:∃ r:Int×Int×Bool,qsq (qeJ s c.b) (qeJ s c.a) n d r.1 r.2.1 r.2.2∧qqg (qeJ s c.b) (qeJ s c.a) n d r.1 r.2.1 r.2.2∧FailIs (qeJ s c.b) (qeJ s c.a) n d r.1 r.2.1 r.2.2 then h.choose else (0,0,false)
structure FailT (s:List Pt) (n d:Int) (c:Pt):Prop where
 p:qsq (qeJ s c.b) (qeJ s c.a) n d (qaf s n d c).1 (qaf s n d c).2.1 (qaf s n d c).2.2
 f:qqg (qeJ s c.b) (qeJ s c.a) n d (qaf s n d c).1 (qaf s n d c).2.1 (qaf s n d c).2.2
 i:FailIs (qeJ s c.b) (qeJ s c.a) n d (qaf s n d c).1 (qaf s n d c).2.1 (qaf s n d c).2.2
theorem qcf {s:List Pt} {n d:Int} {c:Pt} (hn:I64 n) (hd:I64 d) (ht:okB n d=true) (hs:Val s) (hc:qcR c.a c.b=true) (ha:∃ q∈s,q.id=c.a) (hb:∃ q∈s,q.id=c.b):FailT s n d c:=by
 obtain⟨q,hq,ea⟩:=ha
 obtain⟨p,hp,eb⟩:=hb
 have e1:qeJ s c.a=q:=by rw[← ea];exact qeg hs hq
 have e2:qeJ s c.b=p:=by rw[← eb];exact qeg hs hp
 have hne:p.id≠q.id:=by have:=(qbq.1 hc).2.2.2.2;omega
 obtain⟨m,k,b,h⟩:=qxO hn hd (hs.ok p hp) (hs.ok q hq) ht hne
 have ex:∃ r:Int×Int×Bool,qsq (qeJ s c.b) (qeJ s c.a) n d r.1 r.2.1 r.2.2∧qqg (qeJ s c.b) (qeJ s c.a) n d r.1 r.2.1 r.2.2∧FailIs (qeJ s c.b) (qeJ s c.a) n d r.1 r.2.1 r.2.2:=by
  rw[e1,e2]
  exact⟨(m,k,b),h⟩
 have hh:qaf s n d c=ex.choose:=by unfold qaf;rw[dif_pos ex]
 obtain⟨h1,h2,h3⟩:=ex.choose_spec
 rw[← hh] at h1 h2 h3
 exact⟨h1,h2,h3⟩
end Go.Proofs.YtkjaanhddkkodaaGreat
