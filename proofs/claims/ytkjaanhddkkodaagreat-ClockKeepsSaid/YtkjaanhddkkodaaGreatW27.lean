/-
  Joined: Ki, Kj, La. Conditions: none.
-/
import Derived.Test.YtkjaanhddkkodaaGreatW26
import Derived.Test.YtkjaanhddkkodaaGreatW18
import Derived.Test.YtkjaanhddkkodaaGreatW24
import Derived.Test.YtkjaanhddkkodaaGreatW23
namespace Go.Proofs.YtkjaanhddkkodaaGreat
set_option maxRecDepth 100000
open Go.RowKit
theorem fc1 (a pa pb n:Int):∃ c,Pure Tryz.prog 206 #[qae a pa pb,iV n] (iV c)∧(c<0↔a<n)∧(c=0↔a=n):=by
 rcases Int.lt_trichotomy a n with h | h | h
 ·exact⟨-1,qzU (by simp) (by simp) (dt h),⟨fun _=>h,fun _=>by omega⟩,⟨fun h=>by omega,fun h=>by omega⟩⟩
 ·exact⟨0,qBF (by simp) (by simp) (df (by omega)) (df (by omega)),⟨fun h=>by omega,fun h=>by omega⟩,⟨fun _=>h,fun _=>rfl⟩⟩
 ·exact⟨1,qyI (by simp) (by simp) (df (by omega)) (dt (by omega)),⟨fun h=>by omega,fun h=>by omega⟩,⟨fun h=>by omega,fun h=>by omega⟩⟩
abbrev qGN (l:List Pt) (n:Int) (i j:Nat):List (Nat×SV):=[(0,.ls 0 l.length),(1,.pv (iV n)),(2,.pv (.func (.func 206) #[] #[])),(8,.pv (iV (l.length:Int))),(9,.pv (iV (i:Int))),(10,.pv (iV (j:Int)))]
theorem qkb {l:List Pt} (hn:l.length≤210) {n:Int} {k:Nat} (hlo:∀ (t:Nat) (p:Pt),t<k→l[t]?=some p→p.id<n) (hhi:∀ (t:Nat) (p:Pt),k≤t→l[t]?=some p→¬ p.id<n):∀ (d i j:Nat),j-i≤d→i≤k→k≤j→j≤l.length→
 Rl 1 1 205 0 49 1 (qGN l n i j) [(0,0,qan l)] (.exit 0) (qGN l n k k) [(0,0,qan l)]:=by
 intro d
 induction d with
 | zero=>
  intro i j hd h1 h2 h3
  have:i=k:=by omega
  have:j=k:=by omega
  subst i j
  exact qnV (df (by omega))
 | succ d ih=>
  intro i j hd h1 h2 h3
  by_cases hij:i<j
  ·obtain⟨p,hp⟩:=qak (l:=l) (k:=(i+j)/2) (by omega)
   obtain⟨c,hc,hc1,hc2⟩:=fc1 p.id p.a p.b n
   have a1:iV (IntKind.i64.wrap ((i:Int)+(j:Int)))=iV ((i:Int)+(j:Int)):=by rw[qat (by omega) (by omega)]
   have a2:Value.int .u64 (IntKind.u64.wrap ((i:Int)+(j:Int)))=.int .u64 ((i:Int)+(j:Int)):=by rw[qfl (by omega) (by omega)]
   have a3:Value.int .u64 (((i:Int)+(j:Int)).fdiv (2 ^ (min (1:Int).toNat IntKind.u64.bits)))=.int .u64 (((i+j)/2:Nat):Int):=by
    have:(2:Int) ^ (min (1:Int).toNat IntKind.u64.bits)=2:=rfl
    rw[this,Int.fdiv_eq_ediv_of_nonneg _ (by omega)]
    congr 1
   have a4:iV (IntKind.i64.wrap (((i+j)/2:Nat):Int))=iV (((i+j)/2:Nat):Int):=by rw[qat (by omega) (by omega)]
   by_cases hlt:p.id<n
   ·refine qAt hp (qaq (qam hp)) (dt (by omega)) a1 a2 (by omega) a3 a4 hc (dt (hc1.2 hlt)) (qav (by omega)) (ih _ _ (by omega) ?_ h2 h3)
    rcases Nat.lt_or_ge ((i+j)/2) k with h | h
    ·exact h
    ·exact (hhi _ p h hp hlt).elim
   ·refine qAS hp (qaq (qam hp)) (dt (by omega)) a1 a2 (by omega) a3 a4 hc (df (fun h=>hlt (hc1.1 h))) (ih _ _ (by omega) h1 ?_ (by omega))
    rcases Nat.lt_or_ge ((i+j)/2) k with h | h
    ·exact (hlt (hlo _ p h hp)).elim
    ·exact h
  ·have:i=k:=by omega
   have:j=k:=by omega
   subst i j
   exact qnV (df (by omega))
theorem qoe (x:Int) {l:List Pt} (hn:l.length≤210) (hu:Up l) {n:Int} {k:Nat} {p:Pt} (hk:l[k]?=some p) (he:p.id=n):Fn 165 1 [qaM 0 x l,.pv (iV n)] [(0,0,qan l)] (.pv (.tuple #[iV (k:Int),.bool true])) 0 []:=by
 subst he
 obtain⟨c,hc,hc1,hc2⟩:=fc1 p.id p.a p.b p.id
 have hl:=qam hk
 refine qee (qr7 (qkb hn (fun t q ht hq=>hu.mono ht hq hk) (fun t q ht hq=>?_) l.length 0 l.length (by omega) (Nat.zero_le _) (by omega) (Nat.le_refl _)) hk (qaq hl) (dt (by omega)) hc (by simpa using hc2.2 rfl))
 rcases Nat.lt_or_ge k t with h | h
 ·have:=hu.mono h hk hq;omega
 ·have:t=k:=by omega
  subst this
  rw[hk] at hq;cases hq;omega
theorem qsi (x:Int) {l:List Pt} (hn:l.length≤210) {n:Int} {k:Nat} (hkl:k≤l.length) (hlo:∀ (t:Nat) (p:Pt),t<k→l[t]?=some p→p.id<n) (hhi:∀ (t:Nat) (p:Pt),k≤t→l[t]?=some p→n<p.id):Fn 165 1 [qaM 0 x l,.pv (iV n)] [(0,0,qan l)] (.pv (.tuple #[iV (k:Int),.bool false])) 0 []:=by
 have hb:=qkb hn hlo (fun t p ht hp=>by have:=hhi t p ht hp;omega) l.length 0 l.length (by omega) (Nat.zero_le _) hkl (Nat.le_refl _)
 by_cases h:k<l.length
 ·obtain⟨p,hp⟩:=qak h
  obtain⟨c,hc,hc1,hc2⟩:=fc1 p.id p.a p.b n
  refine qee (quo hb hp (qaq h) (dt (by omega)) hc ?_)
  have:=hhi k p (Nat.le_refl _) hp
  simp only[beq_eq_false_iff_ne,ne_eq]
  exact fun e=>by have:=hc2.1 e;omega
 ·exact qee (qpA hb (df (by omega)))
abbrev qGZ:Value:=.agg #[iV 0,.slice none 0 0]
abbrev qCo (f:FuncId) (x:Int) (l:List Pt) (n e:Int):Prop:=Fn f 1 [qaM 0 x l,.pv (iV n)] [(0,0,qan l)] (.pv (.tuple #[qGZ,qag 0 0,iV e])) 0 []
abbrev qFK (f:FuncId) (x:Int) (l:List Pt) (n:Int) (m:List Pt) (a b:Int):Prop:=Fn f 1 [qaM 0 x l,.pv (iV n)] [(0,0,qan l)] (.tu [.ag [.pv (iV x),.ls 1 m.length],.one (.pv (qag a b)),.one (.pv (iV 0))]) 1 [(1,0,qan m)]
theorem qcm {a b c:Int} (h:a+b=c) (h0:0≤c) (h1:c≤2000000):iV (IntKind.i64.wrap (a+b))=iV c:=by rw[h,qat (by omega) (by omega)]
theorem qHs {l:List Pt} (hn:l.length≤210) {k:Nat} (hk:k<l.length):Fn 105 2 [.ps 1 0 2 2] [(1,0,.lq 0 3 0 k),(1,1,.lq 0 3 (0+(k+1)) (l.length-(k+1))),(0,0,qan l)] (.ls 2 (l.take k++l.drop (k+1)).length) 1 [(2,0,qan (l.take k++l.drop (k+1)))]:=by
 by_cases hz:l.length=1
 ·refine qAK (s1:=(k:Int)) (s2:=((k+(l.length-(k+1)):Nat):Int)) (q1:=qcm (by omega) (by omega) (by omega)) (n1:=df (by omega)) (q2:=qcm (by omega) (by omega) (by omega)) (n2:=df (by omega)) (hgr:=?_) (a1:=by omega) (a2:=by omega) (hkl1:=by omega)
  rw[show ((k+(l.length-(k+1)):Nat):Int)=0 by omega]
  exact qDA (h0:=df (by omega)) (hs:=by rw[qat (by omega) (by omega)];rfl) (hg:=df (by omega))
 ·exact qBb (s1:=(k:Int)) (s2:=((k+(l.length-(k+1)):Nat):Int)) (q1:=qcm (by omega) (by omega) (by omega)) (n1:=df (by omega)) (q2:=qcm (by omega) (by omega) (by omega)) (n2:=df (by omega))
   (hgr:=qAQ (h0:=df (by omega)) (hs:=by rw[qat (by omega) (by omega)];congr 1<;>omega) (hg:=dt (by omega)) (a0:=by omega) (a1:=by omega)) (a1:=by omega) (a2:=by omega) (hkl1:=by omega)
abbrev qs5 (f:FuncId) (x:Int) (l:List Pt) (a b e:Int):Prop:=Fn f 1 [qaM 0 x l,.pv (qag a b)] [(0,0,qan l)] (.pv (.tuple #[qGZ,iV 0,iV e])) 0 []
abbrev qyn (f:FuncId) (x:Int) (l:List Pt) (a b:Int):Prop:=Fn f 1 [qaM 0 x l,.pv (qag a b)] [(0,0,qan l)] (.tu [.ag [.pv (iV (x+1)),.ls 1 (l++[Pt.mk x a b]).length],.one (.pv (iV x)),.one (.pv (iV 0))]) 1 [(1,0,qan (l++[Pt.mk x a b]))]
theorem qzx {l:List Pt} (hn:l.length≤210) (a b:Int):Fn 140 2 [.ls 0 l.length,.pc 149 [.pp 1 0]] [(0,0,qan l),(1,0,.pv (iV a)),(1,1,.pv (iV b))] (.pv (.bool (qgk l a b))) 0 []:=by
 have step:∀ k,(∀ j,j<k→∀ p,l[j]?=some p→¬ (p.a=a∧p.b=b))→∀ {e:Exit} {tm2:TmL} {hp2:HpL},k≤l.length→
  Rl 2 2 184 0 19 2 [(0,.ls 0 l.length),(1,.pc 149 [.pp 1 0]),(7,.pv (iV (l.length:Int))),(8,.pv (iV (k:Int)))] [(0,0,qan l),(1,0,.pv (iV a)),(1,1,.pv (iV b))] e tm2 hp2→
  Rl 2 2 184 0 19 2 [(0,.ls 0 l.length),(1,.pc 149 [.pp 1 0]),(7,.pv (iV (l.length:Int))),(8,.pv (iV ((0:Nat):Int)))] [(0,0,qan l),(1,0,.pv (iV a)),(1,1,.pv (iV b))] e tm2 hp2:=by
  intro k hk e tm2 hp2 hkl r
  refine RunsL.rounds (fun j=>[(0,.ls 0 l.length),(1,.pc 149 [.pp 1 0]),(7,.pv (iV (l.length:Int))),(8,.pv (iV (j:Int)))]) (fun _=>[(0,0,qan l),(1,0,.pv (iV a)),(1,1,.pv (iV b))]) (N:=k) k 0 (Nat.zero_add _) (fun j _ hj r=>?_) r
  obtain⟨p,hp⟩:=qak (l:=l) (k:=j) (by omega)
  exact qpZ hp (qaq (qam hp)) (dt (by have:=qam hp;omega)) (qng (p:=⟨0,a,b⟩) (hk j hj p hp)) (qav (by omega)) r
 rcases qa7 (fun j=>∀ p,l[j]?=some p→¬ (p.a=a∧p.b=b)) l.length with h | ⟨j,hj,hb,hf⟩
 ·rw[qjK fun k p hp=>h k (qam hp) p hp]
  exact qBY (qAJ (step l.length h (Nat.le_refl _) (qt1 (df (by omega)))))
 ·simp only[Classical.not_forall,Classical.not_not] at hb
  obtain⟨p,hp,he⟩:=hb
  rw[qdG.2 ⟨p,List.mem_of_getElem? hp,he⟩]
  exact qtV (k:=j) (qv0 (step j hf (by omega) (qwM hp (qaq hj) (dt (by omega)) (qnf (p:=⟨0,a,b⟩) he)))) (dt (by omega))
noncomputable def qs2 (l:List Pt) (a b:Int):Int:=if qcs a b=true then (if qgk l a b=true then 14 else 0) else 8
def qhS (x:Int) (l:List Pt):Int:=if l.length=200∨x=1000000 then 18 else 0
theorem qz6 (x:Int) {l:List Pt} (hn:l.length≤210) (a b:Int):Fn 103 1 [qaM 0 x l,.pv (qag a b)] [(0,0,qan l)] (.pv (iV (qs2 l a b))) 0 []:=by
 have h1:=qj6 a b
 have h2:=qzx hn a b
 unfold qs2
 cases c:qcs a b
 ·rw[c] at h1;rw[if_neg (by decide)];exact qvm h1
 ·rw[c] at h1
  rw[if_pos rfl]
  cases d:qgk l a b
  ·rw[d] at h2;rw[if_neg (by decide)];exact qyx h1 h2
  ·rw[d] at h2;rw[if_pos rfl];exact qvk h1 h2
theorem qmD (x:Int) (l:List Pt):Fn 104 1 [qaM 0 x l] [(0,0,qan l)] (.pv (iV (qhS x l))) 0 []:=by
 unfold qhS
 by_cases h1:l.length=200
 ·rw[if_pos (Or.inl h1)];exact qqf (by simp[h1])
 ·by_cases h2:x=1000000
  ·rw[if_pos (Or.inr h2)];exact qrB (by simp;omega) (by simp[h2])
  ·rw[if_neg (by omega)];exact qzy (by simp;omega) (by simp[h2])
theorem qHx {l:List Pt} (hn:l.length≤210) (x a b:Int):Fn 105 3 [.ps 2 0 2 2] [(2,0,.ls 0 l.length),(2,1,.ps 1 0 1 1),(1,0,.pv (iV x)),(1,1,.pv (iV a)),(1,2,.pv (iV b)),(0,0,qan l)] (.ls 3 (l++[Pt.mk x a b]).length) 1 [(3,0,qan (l++[Pt.mk x a b]))]:=
 qHb (s1:=(l.length:Int)) (s2:=((l.length+1:Nat):Int)) (q1:=qcm (by omega) (by omega) (by omega)) (n1:=df (by omega)) (q2:=qcm (by omega) (by omega) (by omega)) (n2:=df (by omega))
  (hgr:=qAQ (h0:=df (by omega)) (hs:=by rw[qat (by omega) (by omega)];congr 1<;>omega) (hg:=dt (by omega)) (a0:=by omega) (a1:=by omega)) (a1:=by omega) (a2:=by omega)
def qHa (x:Int) (l:List Pt) (a b e:Int):Prop:=(e=8∧(¬ V8 x l∨¬ qcs a b=true))∨(e=14∧V8 x l∧qcs a b=true∧qgk l a b=true)∨(e=18∧V8 x l∧qcs a b=true∧qgk l a b=false∧(l.length=200∨x=1000000))
theorem qgs (x:Int) {l:List Pt} (hn:l.length≤210) (a b:Int):(∃ e,qs5 57 x l a b e∧qs5 122 x l a b e∧qHa x l a b e)∨
 (V8 x l∧qcs a b=true∧qgk l a b=false∧l.length<200∧x<1000000∧qyn 57 x l a b∧qyn 122 x l a b):=by
 have p1:=qgP x l
 have p2:=qz6 x hn a b
 have p3:=qmD x l
 have r1:=qot x l
 have r2:=qdI a b
 have r3:=qwJ x (l:=l) (by omega) a b
 by_cases hv:V8 x l
 ·rw[qdm hv] at p1 r1
  cases hc:qcs a b
  ·rw[hc] at r2
   have e2:qs2 l a b=8:=by unfold qs2;rw[hc,if_neg (by decide)]
   rw[e2] at p2
   exact Or.inl ⟨8,qsQ (c1:=p1) (c2:=p2) (c3:=p3) (he:=by decide),qus (hc:=r1) (hv:=r2),Or.inl ⟨rfl,Or.inr (by rw[hc];decide)⟩⟩
  ·rw[hc] at r2
   cases hh:qgk l a b
   ·rw[hh] at r3
    have e2:qs2 l a b=0:=by unfold qs2;rw[hc,if_pos rfl,hh,if_neg (by decide)]
    rw[e2] at p2
    by_cases hf:l.length=200
    ·have e3:qhS x l=18:=by unfold qhS;rw[if_pos (Or.inl hf)]
     rw[e3] at p3
     exact Or.inl ⟨18,qtj (c1:=p1) (c2:=p2) (c3:=p3) (he:=by decide),qpH (hc:=r1) (hv:=r2) (hh:=r3) (hf:=by simp;omega),Or.inr (Or.inr ⟨rfl,hv,hc,hh,Or.inl hf⟩)⟩
    ·by_cases hw:x=1000000
     ·have e3:qhS x l=18:=by unfold qhS;rw[if_pos (Or.inr hw)]
      rw[e3] at p3
      exact Or.inl ⟨18,qtj (c1:=p1) (c2:=p2) (c3:=p3) (he:=by decide),qps (hc:=r1) (hv:=r2) (hh:=r3) (hf:=by simp;omega) (hu:=by simp[hw]),Or.inr (Or.inr ⟨rfl,hv,hc,hh,Or.inr hw⟩)⟩
     ·have e3:qhS x l=0:=by unfold qhS;rw[if_neg (by omega)]
      rw[e3] at p3
      have hl:=hv.len
      have hx:=hv.nx
      have hy:iV (IntKind.i64.wrap (x+1))=iV (x+1):=qcm rfl (by omega) (by omega)
      refine Or.inr ⟨hv,rfl,rfl,by omega,by omega,qzZ (c1:=p1) (c2:=p2) (c3:=p3) (hcat:=qHx hn x a b) (hy:=hy),qCr (hc:=r1) (hv:=r2) (hh:=r3) (hf:=by simp;omega) (hu:=by simpa using hw) (ht:=qhA x (by omega)) (hn:=by omega) (hy:=hy)⟩
   ·rw[hh] at r3
    have e2:qs2 l a b=14:=by unfold qs2;rw[hc,if_pos rfl,hh,if_pos rfl]
    rw[e2] at p2
    exact Or.inl ⟨14,qsQ (c1:=p1) (c2:=p2) (c3:=p3) (he:=by decide),qu1 (hc:=r1) (hv:=r2) (hh:=r3),Or.inr (Or.inl ⟨rfl,hv,hc,hh⟩)⟩
 ·rw[qbE hv] at p1 r1
  exact Or.inl ⟨8,qBw (c1:=p1) (c2:=p2) (c3:=p3) (he:=by decide),qu6 (hc:=r1),Or.inl ⟨rfl,Or.inl hv⟩⟩
end Go.Proofs.YtkjaanhddkkodaaGreat

namespace Go.Proofs.YtkjaanhddkkodaaGreat
set_option maxRecDepth 100000
open Go.RowKit
def names (n:Int) (p:Pt):Bool:=decide (p.a=n∨p.b=n)
theorem qwt {s:List Pt} (hs:Val s) {p q:Pt} (hp:p∈s) (hq:q∈s) (h:p.id=q.id):p=q:=by
 obtain⟨i,hi,rfl⟩:=List.getElem_of_mem hp
 obtain⟨j,hj,rfl⟩:=List.getElem_of_mem hq
 exact (qtn hs.up (List.getElem?_eq_getElem hi) (List.getElem?_eq_getElem hj) h).2
def qeC (s:List Pt) (i:Int):Pt:=(s.find? fun q=>q.id==i).getD ⟨0,0,0⟩
theorem qed {s:List Pt} (hs:Val s) {q:Pt} (hq:q∈s):qeC s q.id=q:=by
 unfold qeC
 cases h:s.find? fun r=>r.id==q.id with
 | none=>have:=List.find?_eq_none.1 h q hq;simp at this
 | some r=>
  have h1:=List.mem_of_find?_eq_some h
  have h2:=List.find?_some h
  simp only[beq_iff_eq] at h2
  exact qwt hs h1 hq h2
def qde (l s:List Pt):Prop:=∀ p∈l,(∃ q∈s,q.id=p.a)∧∃ g∈s,g.id=p.b
noncomputable def qhk (l s:List Pt):Bool:=open Classical in decide (qde l s)
open Classical in
theorem qer {l s:List Pt}:qhk l s=true↔qde l s:=by unfold qhk;exact decide_eq_true_iff
theorem qhl {l s:List Pt} (h:¬ qde l s):qhk l s=false:=by
 cases e:qhk l s
 ·rfl
 ·exact (h (qer.1 e)).elim
section
variable {tn td:Int} (htn:I64 tn) (htd:I64 td)
theorem qd0 {s:List Pt} (hs:Val s) (i:Int):∃ u,Fn 72 1 [qaC 0 s,.pv (iV i)] [(0,0,qao s)] (.pv (iV u)) 0 []∧((u<0∧¬ ∃ q∈s,q.id=i)∨∃ (k:Nat) (q:Pt),u=(k:Int)∧s[k]?=some q∧q.id=i):=by
 rcases place s hs i with ⟨k,q,hk,he⟩ | ⟨hno,_⟩
 ·exact⟨k,qn4 hs hk he,Or.inr ⟨k,q,rfl,hk,he⟩⟩
 ·exact⟨-1,qEq hs.len hno,Or.inl ⟨by omega,fun ⟨q,hq,he⟩=>hno q hq he⟩⟩
theorem qzY (x:Int) {l s:List Pt} (hn:l.length≤210) (hs:Val s):Fn 45 2 [qaM 0 x l,qaC 1 s] [(0,0,qan l),(1,0,qao s)] (.pv (.bool (qhk l s))) 0 []:=by
 have step:∀ k,(∀ j,j<k→∀ p,l[j]?=some p→(∃ q∈s,q.id=p.a)∧∃ g∈s,g.id=p.b)→∀ {e:Exit} {tm2:TmL} {hp2:HpL},k≤l.length→
  Rl 2 2 45 0 35 4 [(2,.pp 2 0),(3,.pp 3 0),(5,.pv (iV (k:Int)))] [(2,0,.pv (iV x)),(2,1,.ls 0 l.length),(3,0,.ls 1 s.length),(0,0,qan l),(1,0,qao s)] e tm2 hp2→
  Rl 2 2 45 0 35 4 [(2,.pp 2 0),(3,.pp 3 0),(5,.pv (iV ((0:Nat):Int)))] [(2,0,.pv (iV x)),(2,1,.ls 0 l.length),(3,0,.ls 1 s.length),(0,0,qan l),(1,0,qao s)] e tm2 hp2:=by
  intro k hk e tm2 hp2 hkl r
  refine RunsL.rounds (fun j=>[(2,.pp 2 0),(3,.pp 3 0),(5,.pv (iV (j:Int)))]) (fun _=>[(2,0,.pv (iV x)),(2,1,.ls 0 l.length),(3,0,.ls 1 s.length),(0,0,qan l),(1,0,qao s)]) (N:=k) k 0 (Nat.zero_add _) (fun j _ hj r=>?_) r
  obtain⟨p,hp⟩:=qak (l:=l) (k:=j) (by omega)
  obtain⟨h1,h2⟩:=hk j hj p hp
  obtain⟨u,a1,a2⟩:=qd0 hs p.a
  obtain⟨v,b1,b2⟩:=qd0 hs p.b
  rcases a2 with ⟨_,a2⟩ | ⟨i,q,rfl,_⟩
  ·exact (a2 h1).elim
  ·rcases b2 with ⟨_,b2⟩ | ⟨i',g,rfl,_⟩
   ·exact (b2 h2).elim
   ·exact qrt (hk:=hp) (hin:=qaq (qam hp)) (hlt:=dt (by have:=qam hp;omega)) (ha:=a1) (h1:=df (by omega)) (hb:=b1) (h2:=df (by omega)) (hs:=qav (by omega)) r
 rcases qa7 (fun j=>∀ p,l[j]?=some p→(∃ q∈s,q.id=p.a)∧∃ g∈s,g.id=p.b) l.length with h | ⟨j,hj,hb,hf⟩
 ·rw[qer.2 fun p hp=>by
   obtain⟨k,hk,rfl⟩:=List.getElem_of_mem hp
   exact h k hk _ (List.getElem?_eq_getElem hk)]
  exact qtK (r0:=step l.length h (Nat.le_refl _) (qxT (hge:=df (by omega))))
 ·simp only[Classical.not_forall] at hb
  obtain⟨p,hp,hnp⟩:=hb
  rw[qhl fun h=>hnp (h p (List.mem_of_getElem? hp))]
  refine qCn (r0:=step j hf (by omega) ?_)
  obtain⟨u,a1,a2⟩:=qd0 hs p.a
  obtain⟨v,b1,b2⟩:=qd0 hs p.b
  rcases a2 with ⟨a2,_⟩ | ⟨i,q,rfl,hq,hqa⟩
  ·exact qyN (hk:=hp) (hin:=qaq hj) (hlt:=dt (by omega)) (ha:=a1) (h1:=dt a2)
  ·rcases b2 with ⟨b2,_⟩ | ⟨i',g,rfl,hg,hgb⟩
   ·exact qzM (hk:=hp) (hin:=qaq hj) (hlt:=dt (by omega)) (ha:=a1) (h1:=df (by omega)) (hb:=b1) (h2:=dt b2)
   ·exact (hnp ⟨⟨q,List.mem_of_getElem? hq,hqa⟩,⟨g,List.mem_of_getElem? hg,hgb⟩⟩).elim
theorem quH {s:List Pt} {tn td:Int} (h:tE s tn td=0):Val s∧okB tn td=true:=by
 unfold tE at h
 by_cases h1:qfr s=0
 ·rw[if_pos h1] at h
  by_cases h2:okB tn td=true
  ·exact⟨qdo.1 h1,h2⟩
  ·rw[if_neg h2] at h;omega
 ·rw[if_neg h1] at h;exact (h1 h).elim
include htn htd in
end
end Go.Proofs.YtkjaanhddkkodaaGreat

namespace Go.Proofs.YtkjaanhddkkodaaGreat
set_option maxRecDepth 100000
open Go.RowKit
theorem qDB {n d tn td m k:Int} (hd:0<d) (ht:0<td) (hk:0<k) (h1:m*d≤n*k) (h2:n*td≤tn*d):m*td≤tn*k:=by
 have e1:=Int.mul_le_mul_of_nonneg_right h1 (Int.le_of_lt ht)
 have e2:=Int.mul_le_mul_of_nonneg_right h2 (Int.le_of_lt hk)
 have e3:n*k*td=n*td*k:=Int.mul_right_comm n k td
 have e4:m*d*td=m*td*d:=Int.mul_right_comm m d td
 have e5:tn*d*k=tn*k*d:=Int.mul_right_comm tn d k
 exact Int.le_of_mul_le_mul_right (a:=d) (by omega) hd
abbrev ldB (q p:Pt) (n d:Int):Bool:=qbp (q.a*d+q.b*n) (p.a*d+p.b*n) q.b p.b q.id p.id
structure FailIs (p q:Pt) (n d m k:Int) (s:Bool):Prop where
 ok:s=true→okB m k=true∧I64 m∧I64 k∧n*k≤m*d
 no:s=false→m=0∧k=0
 then_:s=true→ldB q p m k=true
 before:∀ tn td,okB tn td=true→n*td≤tn*d→(s=true→tn*k<m*td)→ldB q p tn td=false
abbrev qqP (p q:Pt) (n d m k:Int) (s:Bool):Prop:=Pure Tryz.prog 154 #[ptV p,ptV q,qad n d] (.tuple #[qad m k,.bool s,iV 0])
abbrev qpx (p q:Pt) (n d m k:Int) (s:Bool):Prop:=Pure Tryz.prog 83 #[ptV p,ptV q,qad n d] (.tuple #[qad m k,.bool s])
theorem qgy {p q:Pt} {n d:Int} (hn:I64 n) (hd:I64 d) (h3:okB n d=true) (hl:ldB q p n d=true):FailIs p q n d n d true where
 ok:=fun _=>⟨h3,hn,hd,Int.le_refl _⟩
 no:=fun h=>by cases h
 then_:=fun _=>hl
 before:=fun tn td _ h1 h2=>by have:=h2 rfl;omega
theorem qxL {p q:Pt} {n d:Int} (hn:I64 n) (hd:I64 d) (hp:qiy p=true) (hq:qiy q=true) (h3:okB n d=true) (h4:p.id≠q.id):∃ m k s,qqP p q n d m k s∧qpx p q n d m k s∧FailIs p q n d m k s:=by
 obtain⟨pi,pa,pb⟩:=p
 obtain⟨qi,qa,qb⟩:=q
 simp only at h4
 have h1:okP pi pa pb=true:=hp
 have h2:okP qi qa qb=true:=hq
 have c1:=qc2 h1
 have c2:=qc2 h2
 have c3:=qcl hn hd h3
 have c4:=qlf (pa:=pa) (pb:=pb) (qa:=qa) (qb:=qb) h4
 have ld:=qsD (pi:=qi) (qi:=pi) (n:=n) (d:=d) hn hd h2 h1
 have d0:0<d:=by have:=qeg h3;omega
 have now:=fun (l:Pure Tryz.prog 134 #[qae qi qa qb,qae pi pa pb,qad n d] (.bool true))=>qiX (pi:=pi) (pa:=pa) (pb:=pb) l
 by_cases hb:qb=pb
 ·subst hb
  have no:=fun (l:Pure Tryz.prog 134 #[qae qi qa qb,qae pi pa qb,qad n d] (.bool false))=>qgn (pi:=pi) (pa:=pa) (pb:=qb) l (df (by omega))
  have sm:∀ tn td:Int,okB tn td=true→ldB ⟨qi,qa,qb⟩ ⟨pi,pa,qb⟩ tn td=qbp qa pa qb qb qi pi:=fun tn td h=>qge (by have:=qeg h;omega)
  have none:qbp qa pa qb qb qi pi=false→FailIs ⟨pi,pa,qb⟩ ⟨qi,qa,qb⟩ n d 0 0 false:=fun h=>⟨fun h=>(by cases h),fun _=>⟨rfl,rfl⟩,fun h=>(by cases h),fun tn td ht _ _=>by rw[sm tn td ht];exact h⟩
  have nw:qbp qa pa qb qb qi pi=true→FailIs ⟨pi,pa,qb⟩ ⟨qi,qa,qb⟩ n d n d true:=fun h=>qgy hn hd h3 (by rw[sm n d h3];exact h)
  rw[qge d0] at ld
  by_cases ha:qa=pa
  ·subst ha
   by_cases hi:qi<pi
   ·have e:qbp qa qa qb qb qi pi=true:=qdu (by omega)
    rw[e] at ld
    exact⟨n,d,true,qsh c1 c2 c3 c4 (by simp) (dt hi),now ld,nw e⟩
   ·have e:qbp qa qa qb qb qi pi=false:=qdw (by omega)
    rw[e] at ld
    exact⟨0,0,false,qsC c1 c2 c3 c4 (by simp) (df hi) (df (Int.lt_irrefl _)),no ld,none e⟩
  ·by_cases hg:qa>pa
   ·have e:qbp qa pa qb qb qi pi=true:=qdu (by omega)
    rw[e] at ld
    exact⟨n,d,true,qsq c1 c2 c3 c4 (by simp[ha]) (by simp) (dt hg),now ld,nw e⟩
   ·have e:qbp qa pa qb qb qi pi=false:=qdw (by omega)
    rw[e] at ld
    exact⟨0,0,false,qrl c1 c2 c3 c4 (by simp[ha]) (by simp) (df hg) (df (Int.lt_irrefl _)),no ld,none e⟩
 ·obtain⟨m,k,k1,k2,k3,k4,k5,k6⟩:=qhP h2 h1 hb
  have k0:0<k:=by have:=qeg k1;omega
  have cc:=qj7 hn hd k2 k3 h3 k1
  have lt:∀ tn td:Int,ldB ⟨qi,qa,qb⟩ ⟨pi,pa,pb⟩ tn td=(decide (qb>pb)==decide ((tn*k-m*td).sign≥0)):=fun tn td=>qf6 k0 k4 hb
  have ld0:=lt n d
  rw[qf6 k0 k4 hb] at ld
  have w:(qa==pa&&(qb==pb&&true))=false:=by simp[hb]
  have bb:(qb==pb)=false:=by simp[hb]
  by_cases g:qb>pb<;>by_cases l:(n*k-m*d).sign≥0
  ·rw[dt g,dt l] at ld ld0
   exact⟨n,d,true,qm7 c1 c2 c3 c4 w bb k5 cc (dt l) (dt g),now ld,qgy hn hd h3 ld0⟩
  ·rw[dt g,df l] at ld
   have mt:=qA5 h1 h2 (Ne.symm hb) k1 k2 k3 (by
    have e1:m*(pb-qb) = -(m*(qb-pb)):=by rw[← Int.mul_neg];congr 1;omega
    have e2:(qa-pa)*k = -((pa-qa)*k):=by rw[← Int.neg_mul];congr 1;omega
    rw[e1,e2,k4])
   refine⟨m,k,true,qoP c1 c2 c3 c4 w bb k5 cc (df l) (dt g) k6,qjF ld (dt g) mt,fun _=>⟨k1,k2,k3,?_⟩,fun h=>(by cases h),fun _=>?_,fun tn td _ _ h=>?_⟩
   ·have:¬ 0≤n*k-m*d:=fun e=>l ((qd2 _).2 e)
    omega
   ·rw[lt m k,dt g,Int.sub_self];rfl
   ·have h':=h rfl
    rw[lt tn td,dt g,df (fun e=>by have:=(qd2 (tn*k-m*td)).1 e;omega)];rfl
  ·rw[df g,dt l] at ld
   have l':=(qd2 (n*k-m*d)).1 l
   refine⟨0,0,false,qox c1 c2 c3 c4 w bb k5 cc (dt l) (df g),qgn ld (df g),fun h=>(by cases h),fun _=>⟨rfl,rfl⟩,fun h=>(by cases h),fun tn td ht h _=>?_⟩
   have t0:0<td:=by have:=qeg ht;omega
   have:=qDB d0 t0 k0 (show m*d≤n*k by omega) h
   rw[lt tn td,df g,dt ((qd2 _).2 (by omega))];rfl
  ·rw[df g,df l] at ld ld0
   exact⟨n,d,true,qoI c1 c2 c3 c4 w bb k5 cc (df l) (df g),now ld,qgy hn hd h3 ld0⟩
noncomputable def qai (s:List Pt) (n d:Int) (c:Pt):Int×Int×Bool:=open Classical in if h:∃ r:Int×Int×Bool,qqP (qeC s c.b) (qeC s c.a) n d r.1 r.2.1 r.2.2∧qpx (qeC s c.b) (qeC s c.a) n d r.1 r.2.1 r.2.2∧FailIs (qeC s c.b) (qeC s c.a) n d r.1 r.2.1 r.2.2 then h.choose else (0,0,false)
structure FailT (s:List Pt) (n d:Int) (c:Pt):Prop where
 p:qqP (qeC s c.b) (qeC s c.a) n d (qai s n d c).1 (qai s n d c).2.1 (qai s n d c).2.2
 f:qpx (qeC s c.b) (qeC s c.a) n d (qai s n d c).1 (qai s n d c).2.1 (qai s n d c).2.2
 i:FailIs (qeC s c.b) (qeC s c.a) n d (qai s n d c).1 (qai s n d c).2.1 (qai s n d c).2.2
theorem qbX {s:List Pt} {n d:Int} {c:Pt} (hn:I64 n) (hd:I64 d) (ht:okB n d=true) (hs:Val s) (hc:qcs c.a c.b=true) (ha:∃ q∈s,q.id=c.a) (hb:∃ q∈s,q.id=c.b):FailT s n d c:=by
 obtain⟨q,hq,ea⟩:=ha
 obtain⟨p,hp,eb⟩:=hb
 have e1:qeC s c.a=q:=by rw[← ea];exact qed hs hq
 have e2:qeC s c.b=p:=by rw[← eb];exact qed hs hp
 have hne:p.id≠q.id:=by have:=(qbx.1 hc).2.2.2.2;omega
 obtain⟨m,k,b,h⟩:=qxL hn hd (hs.ok p hp) (hs.ok q hq) ht hne
 have ex:∃ r:Int×Int×Bool,qqP (qeC s c.b) (qeC s c.a) n d r.1 r.2.1 r.2.2∧qpx (qeC s c.b) (qeC s c.a) n d r.1 r.2.1 r.2.2∧FailIs (qeC s c.b) (qeC s c.a) n d r.1 r.2.1 r.2.2:=by
  rw[e1,e2]
  exact⟨(m,k,b),h⟩
 have hh:qai s n d c=ex.choose:=by unfold qai;rw[dif_pos ex]
 obtain⟨h1,h2,h3⟩:=ex.choose_spec
 rw[← hh] at h1 h2 h3
 exact⟨h1,h2,h3⟩
end Go.Proofs.YtkjaanhddkkodaaGreat
