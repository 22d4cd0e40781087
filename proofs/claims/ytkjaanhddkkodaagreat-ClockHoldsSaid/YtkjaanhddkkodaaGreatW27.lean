/-
  Joined: Ki, Kj, La. Conditions: none.
-/
import Derived.Test.YtkjaanhddkkodaaGreatW26
import Derived.Test.YtkjaanhddkkodaaGreatW18
import Derived.Test.YtkjaanhddkkodaaGreatW25
import Derived.Test.YtkjaanhddkkodaaGreatW23
namespace Go.Proofs.YtkjaanhddkkodaaGreat
set_option maxRecDepth 100000
open Go.RowKit
theorem fc1 (a pa pb n:Int):∃ c,Pure Tryz.prog 206 #[qab a pa pb,iV n] (iV c)∧(c<0↔a<n)∧(c=0↔a=n):=by
 rcases Int.lt_trichotomy a n with h | h | h
 ·exact⟨-1,qAZ (by simp) (by simp) (dt h),⟨fun _=>h,fun _=>by omega⟩,⟨fun h=>by omega,fun h=>by omega⟩⟩
 ·exact⟨0,qzD (by simp) (by simp) (df (by omega)) (df (by omega)),⟨fun h=>by omega,fun h=>by omega⟩,⟨fun _=>h,fun _=>rfl⟩⟩
 ·exact⟨1,qBu (by simp) (by simp) (df (by omega)) (dt (by omega)),⟨fun h=>by omega,fun h=>by omega⟩,⟨fun h=>by omega,fun h=>by omega⟩⟩
abbrev qFe (l:List Pt) (n:Int) (i j:Nat):List (Nat×SV):=[(0,.ls 0 l.length),(1,.pv (iV n)),(2,.pv (.func (.func 206) #[] #[])),(8,.pv (iV (l.length:Int))),(9,.pv (iV (i:Int))),(10,.pv (iV (j:Int)))]
theorem qjx {l:List Pt} (hn:l.length≤210) {n:Int} {k:Nat} (hlo:∀ (t:Nat) (p:Pt),t<k→l[t]?=some p→p.id<n) (hhi:∀ (t:Nat) (p:Pt),k≤t→l[t]?=some p→¬ p.id<n):∀ (d i j:Nat),j-i≤d→i≤k→k≤j→j≤l.length→
 Rl 1 1 205 0 49 1 (qFe l n i j) [(0,0,qak l)] (.exit 0) (qFe l n k k) [(0,0,qak l)]:=by
 intro d
 induction d with
 | zero=>
  intro i j hd h1 h2 h3
  have:i=k:=by omega
  have:j=k:=by omega
  subst i j
  exact qm3 (df (by omega))
 | succ d ih=>
  intro i j hd h1 h2 h3
  by_cases hij:i<j
  ·obtain⟨p,hp⟩:=qah (l:=l) (k:=(i+j)/2) (by omega)
   obtain⟨c,hc,hc1,hc2⟩:=fc1 p.id p.a p.b n
   have a1:iV (IntKind.i64.wrap ((i:Int)+(j:Int)))=iV ((i:Int)+(j:Int)):=by rw[qap (by omega) (by omega)]
   have a2:Value.int .u64 (IntKind.u64.wrap ((i:Int)+(j:Int)))=.int .u64 ((i:Int)+(j:Int)):=by rw[qff (by omega) (by omega)]
   have a3:Value.int .u64 (((i:Int)+(j:Int)).fdiv (2 ^ (min (1:Int).toNat IntKind.u64.bits)))=.int .u64 (((i+j)/2:Nat):Int):=by
    have:(2:Int) ^ (min (1:Int).toNat IntKind.u64.bits)=2:=rfl
    rw[this,Int.fdiv_eq_ediv_of_nonneg _ (by omega)]
    congr 1
   have a4:iV (IntKind.i64.wrap (((i+j)/2:Nat):Int))=iV (((i+j)/2:Nat):Int):=by rw[qap (by omega) (by omega)]
   by_cases hlt:p.id<n
   ·refine qAj hp (qan (qai hp)) (dt (by omega)) a1 a2 (by omega) a3 a4 hc (dt (hc1.2 hlt)) (qau (by omega)) (ih _ _ (by omega) ?_ h2 h3)
    rcases Nat.lt_or_ge ((i+j)/2) k with h | h
    ·exact h
    ·exact (hhi _ p h hp hlt).elim
   ·refine qz0 hp (qan (qai hp)) (dt (by omega)) a1 a2 (by omega) a3 a4 hc (df (fun h=>hlt (hc1.1 h))) (ih _ _ (by omega) h1 ?_ (by omega))
    rcases Nat.lt_or_ge ((i+j)/2) k with h | h
    ·exact (hlt (hlo _ p h hp)).elim
    ·exact h
  ·have:i=k:=by omega
   have:j=k:=by omega
   subst i j
   exact qm3 (df (by omega))
theorem qoj (x:Int) {l:List Pt} (hn:l.length≤210) (hu:Up l) {n:Int} {k:Nat} {p:Pt} (hk:l[k]?=some p) (he:p.id=n):Fn 165 1 [qaH 0 x l,.pv (iV n)] [(0,0,qak l)] (.pv (.tuple #[iV (k:Int),.bool true])) 0 []:=by
 subst he
 obtain⟨c,hc,hc1,hc2⟩:=fc1 p.id p.a p.b p.id
 have hl:=qai hk
 refine qd3 (qpY (qjx hn (fun t q ht hq=>hu.mono ht hq hk) (fun t q ht hq=>?_) l.length 0 l.length (by omega) (Nat.zero_le _) (by omega) (Nat.le_refl _)) hk (qan hl) (dt (by omega)) hc (by simpa using hc2.2 rfl))
 rcases Nat.lt_or_ge k t with h | h
 ·have:=hu.mono h hk hq;omega
 ·have:t=k:=by omega
  subst this
  rw[hk] at hq;cases hq;omega
theorem qpr (x:Int) {l:List Pt} (hn:l.length≤210) {n:Int} {k:Nat} (hkl:k≤l.length) (hlo:∀ (t:Nat) (p:Pt),t<k→l[t]?=some p→p.id<n) (hhi:∀ (t:Nat) (p:Pt),k≤t→l[t]?=some p→n<p.id):Fn 165 1 [qaH 0 x l,.pv (iV n)] [(0,0,qak l)] (.pv (.tuple #[iV (k:Int),.bool false])) 0 []:=by
 have hb:=qjx hn hlo (fun t p ht hp=>by have:=hhi t p ht hp;omega) l.length 0 l.length (by omega) (Nat.zero_le _) hkl (Nat.le_refl _)
 by_cases h:k<l.length
 ·obtain⟨p,hp⟩:=qah h
  obtain⟨c,hc,hc1,hc2⟩:=fc1 p.id p.a p.b n
  refine qd3 (qug hb hp (qan h) (dt (by omega)) hc ?_)
  have:=hhi k p (Nat.le_refl _) hp
  simp only[beq_eq_false_iff_ne,ne_eq]
  exact fun e=>by have:=hc2.1 e;omega
 ·exact qd3 (qpR hb (df (by omega)))
abbrev qFf:Value:=.agg #[iV 0,.slice none 0 0]
abbrev qx6 (f:FuncId) (x:Int) (l:List Pt) (n e:Int):Prop:=Fn f 1 [qaH 0 x l,.pv (iV n)] [(0,0,qak l)] (.pv (.tuple #[qFf,qag 0 0,iV e])) 0 []
abbrev qDn (f:FuncId) (x:Int) (l:List Pt) (n:Int) (m:List Pt) (a b:Int):Prop:=Fn f 1 [qaH 0 x l,.pv (iV n)] [(0,0,qak l)] (.tu [.ag [.pv (iV x),.ls 1 m.length],.one (.pv (qag a b)),.one (.pv (iV 0))]) 1 [(1,0,qak m)]
theorem qcf {a b c:Int} (h:a+b=c) (h0:0≤c) (h1:c≤2000000):iV (IntKind.i64.wrap (a+b))=iV c:=by rw[h,qap (by omega) (by omega)]
theorem qFS {l:List Pt} (hn:l.length≤210) {k:Nat} (hk:k<l.length):Fn 105 2 [.ps 1 0 2 2] [(1,0,.lq 0 3 0 k),(1,1,.lq 0 3 (0+(k+1)) (l.length-(k+1))),(0,0,qak l)] (.ls 2 (l.take k++l.drop (k+1)).length) 1 [(2,0,qak (l.take k++l.drop (k+1)))]:=by
 by_cases hz:l.length=1
 ·refine qyw (s1:=(k:Int)) (s2:=((k+(l.length-(k+1)):Nat):Int)) (q1:=qcf (by omega) (by omega) (by omega)) (n1:=df (by omega)) (q2:=qcf (by omega) (by omega) (by omega)) (n2:=df (by omega)) (hgr:=?_) (a1:=by omega) (a2:=by omega) (hkl1:=by omega)
  rw[show ((k+(l.length-(k+1)):Nat):Int)=0 by omega]
  exact qEQ (h0:=df (by omega)) (hs:=by rw[qap (by omega) (by omega)];rfl) (hg:=df (by omega))
 ·exact qyy (s1:=(k:Int)) (s2:=((k+(l.length-(k+1)):Nat):Int)) (q1:=qcf (by omega) (by omega) (by omega)) (n1:=df (by omega)) (q2:=qcf (by omega) (by omega) (by omega)) (n2:=df (by omega))
   (hgr:=qyL (h0:=df (by omega)) (hs:=by rw[qap (by omega) (by omega)];congr 1<;>omega) (hg:=dt (by omega)) (a0:=by omega) (a1:=by omega)) (a1:=by omega) (a2:=by omega) (hkl1:=by omega)
abbrev qsi (f:FuncId) (x:Int) (l:List Pt) (a b e:Int):Prop:=Fn f 1 [qaH 0 x l,.pv (qag a b)] [(0,0,qak l)] (.pv (.tuple #[qFf,iV 0,iV e])) 0 []
abbrev qzo (f:FuncId) (x:Int) (l:List Pt) (a b:Int):Prop:=Fn f 1 [qaH 0 x l,.pv (qag a b)] [(0,0,qak l)] (.tu [.ag [.pv (iV (x+1)),.ls 1 (l++[Pt.mk x a b]).length],.one (.pv (iV x)),.one (.pv (iV 0))]) 1 [(1,0,qak (l++[Pt.mk x a b]))]
theorem qBj {l:List Pt} (hn:l.length≤210) (a b:Int):Fn 140 2 [.ls 0 l.length,.pc 149 [.pp 1 0]] [(0,0,qak l),(1,0,.pv (iV a)),(1,1,.pv (iV b))] (.pv (.bool (qfE l a b))) 0 []:=by
 have step:∀ k,(∀ j,j<k→∀ p,l[j]?=some p→¬ (p.a=a∧p.b=b))→∀ {e:Exit} {tm2:TmL} {hp2:HpL},k≤l.length→
  Rl 2 2 184 0 19 2 [(0,.ls 0 l.length),(1,.pc 149 [.pp 1 0]),(7,.pv (iV (l.length:Int))),(8,.pv (iV (k:Int)))] [(0,0,qak l),(1,0,.pv (iV a)),(1,1,.pv (iV b))] e tm2 hp2→
  Rl 2 2 184 0 19 2 [(0,.ls 0 l.length),(1,.pc 149 [.pp 1 0]),(7,.pv (iV (l.length:Int))),(8,.pv (iV ((0:Nat):Int)))] [(0,0,qak l),(1,0,.pv (iV a)),(1,1,.pv (iV b))] e tm2 hp2:=by
  intro k hk e tm2 hp2 hkl r
  refine RunsL.rounds (fun j=>[(0,.ls 0 l.length),(1,.pc 149 [.pp 1 0]),(7,.pv (iV (l.length:Int))),(8,.pv (iV (j:Int)))]) (fun _=>[(0,0,qak l),(1,0,.pv (iV a)),(1,1,.pv (iV b))]) (N:=k) k 0 (Nat.zero_add _) (fun j _ hj r=>?_) r
  obtain⟨p,hp⟩:=qah (l:=l) (k:=j) (by omega)
  exact qo2 hp (qan (qai hp)) (dt (by have:=qai hp;omega)) (qoz (p:=⟨0,a,b⟩) (hk j hj p hp)) (qau (by omega)) r
 rcases qaT (fun j=>∀ p,l[j]?=some p→¬ (p.a=a∧p.b=b)) l.length with h | ⟨j,hj,hb,hf⟩
 ·rw[qgZ fun k p hp=>h k (qai hp) p hp]
  exact qxb (qx0 (step l.length h (Nat.le_refl _) (qtc (df (by omega)))))
 ·simp only[Classical.not_forall,Classical.not_not] at hb
  obtain⟨p,hp,he⟩:=hb
  rw[qdM.2 ⟨p,List.mem_of_getElem? hp,he⟩]
  exact qvW (k:=j) (qtz (step j hf (by omega) (qsL hp (qan hj) (dt (by omega)) (qnR (p:=⟨0,a,b⟩) he)))) (dt (by omega))
noncomputable def qsn (l:List Pt) (a b:Int):Int:=if qb7 a b=true then (if qfE l a b=true then 14 else 0) else 8
def qif (x:Int) (l:List Pt):Int:=if l.length=200∨x=1000000 then 18 else 0
theorem qzM (x:Int) {l:List Pt} (hn:l.length≤210) (a b:Int):Fn 103 1 [qaH 0 x l,.pv (qag a b)] [(0,0,qak l)] (.pv (iV (qsn l a b))) 0 []:=by
 have h1:=qjD a b
 have h2:=qBj hn a b
 unfold qsn
 cases c:qb7 a b
 ·rw[c] at h1;rw[if_neg (by decide)];exact qtH h1
 ·rw[c] at h1
  rw[if_pos rfl]
  cases d:qfE l a b
  ·rw[d] at h2;rw[if_neg (by decide)];exact qxE h1 h2
  ·rw[d] at h2;rw[if_pos rfl];exact qs9 h1 h2
theorem qng (x:Int) (l:List Pt):Fn 104 1 [qaH 0 x l] [(0,0,qak l)] (.pv (iV (qif x l))) 0 []:=by
 unfold qif
 by_cases h1:l.length=200
 ·rw[if_pos (Or.inl h1)];exact qqH (by simp[h1])
 ·by_cases h2:x=1000000
  ·rw[if_pos (Or.inr h2)];exact qrr (by simp;omega) (by simp[h2])
  ·rw[if_neg (by omega)];exact qAL (by simp;omega) (by simp[h2])
theorem qFY {l:List Pt} (hn:l.length≤210) (x a b:Int):Fn 105 3 [.ps 2 0 2 2] [(2,0,.ls 0 l.length),(2,1,.ps 1 0 1 1),(1,0,.pv (iV x)),(1,1,.pv (iV a)),(1,2,.pv (iV b)),(0,0,qak l)] (.ls 3 (l++[Pt.mk x a b]).length) 1 [(3,0,qak (l++[Pt.mk x a b]))]:=
 qF7 (s1:=(l.length:Int)) (s2:=((l.length+1:Nat):Int)) (q1:=qcf (by omega) (by omega) (by omega)) (n1:=df (by omega)) (q2:=qcf (by omega) (by omega) (by omega)) (n2:=df (by omega))
  (hgr:=qyL (h0:=df (by omega)) (hs:=by rw[qap (by omega) (by omega)];congr 1<;>omega) (hg:=dt (by omega)) (a0:=by omega) (a1:=by omega)) (a1:=by omega) (a2:=by omega)
def qGd (x:Int) (l:List Pt) (a b e:Int):Prop:=(e=8∧(¬ V8 x l∨¬ qb7 a b=true))∨(e=14∧V8 x l∧qb7 a b=true∧qfE l a b=true)∨(e=18∧V8 x l∧qb7 a b=true∧qfE l a b=false∧(l.length=200∨x=1000000))
theorem qjk (x:Int) {l:List Pt} (hn:l.length≤210) (a b:Int):(∃ e,qsi 57 x l a b e∧qsi 122 x l a b e∧qGd x l a b e)∨
 (V8 x l∧qb7 a b=true∧qfE l a b=false∧l.length<200∧x<1000000∧qzo 57 x l a b∧qzo 122 x l a b):=by
 have p1:=qfh x l
 have p2:=qzM x hn a b
 have p3:=qng x l
 have r1:=qnL x l
 have r2:=qew a b
 have r3:=qwd x (l:=l) (by omega) a b
 by_cases hv:V8 x l
 ·rw[qcT hv] at p1 r1
  cases hc:qb7 a b
  ·rw[hc] at r2
   have e2:qsn l a b=8:=by unfold qsn;rw[hc,if_neg (by decide)]
   rw[e2] at p2
   exact Or.inl ⟨8,qsg (c1:=p1) (c2:=p2) (c3:=p3) (he:=by decide),qtu (hc:=r1) (hv:=r2),Or.inl ⟨rfl,Or.inr (by rw[hc];decide)⟩⟩
  ·rw[hc] at r2
   cases hh:qfE l a b
   ·rw[hh] at r3
    have e2:qsn l a b=0:=by unfold qsn;rw[hc,if_pos rfl,hh,if_neg (by decide)]
    rw[e2] at p2
    by_cases hf:l.length=200
    ·have e3:qif x l=18:=by unfold qif;rw[if_pos (Or.inl hf)]
     rw[e3] at p3
     exact Or.inl ⟨18,qr5 (c1:=p1) (c2:=p2) (c3:=p3) (he:=by decide),qri (hc:=r1) (hv:=r2) (hh:=r3) (hf:=by simp;omega),Or.inr (Or.inr ⟨rfl,hv,hc,hh,Or.inl hf⟩)⟩
    ·by_cases hw:x=1000000
     ·have e3:qif x l=18:=by unfold qif;rw[if_pos (Or.inr hw)]
      rw[e3] at p3
      exact Or.inl ⟨18,qr5 (c1:=p1) (c2:=p2) (c3:=p3) (he:=by decide),qpy (hc:=r1) (hv:=r2) (hh:=r3) (hf:=by simp;omega) (hu:=by simp[hw]),Or.inr (Or.inr ⟨rfl,hv,hc,hh,Or.inr hw⟩)⟩
     ·have e3:qif x l=0:=by unfold qif;rw[if_neg (by omega)]
      rw[e3] at p3
      have hl:=hv.len
      have hx:=hv.nx
      have hy:iV (IntKind.i64.wrap (x+1))=iV (x+1):=qcf rfl (by omega) (by omega)
      refine Or.inr ⟨hv,rfl,rfl,by omega,by omega,qA8 (c1:=p1) (c2:=p2) (c3:=p3) (hcat:=qFY hn x a b) (hy:=hy),qBA (hc:=r1) (hv:=r2) (hh:=r3) (hf:=by simp;omega) (hu:=by simpa using hw) (ht:=qme x (by omega)) (hn:=by omega) (hy:=hy)⟩
   ·rw[hh] at r3
    have e2:qsn l a b=14:=by unfold qsn;rw[hc,if_pos rfl,hh,if_pos rfl]
    rw[e2] at p2
    exact Or.inl ⟨14,qsg (c1:=p1) (c2:=p2) (c3:=p3) (he:=by decide),qwH (hc:=r1) (hv:=r2) (hh:=r3),Or.inr (Or.inl ⟨rfl,hv,hc,hh⟩)⟩
 ·rw[qbB hv] at p1 r1
  exact Or.inl ⟨8,qxj (c1:=p1) (c2:=p2) (c3:=p3) (he:=by decide),qtG (hc:=r1),Or.inl ⟨rfl,Or.inl hv⟩⟩
end Go.Proofs.YtkjaanhddkkodaaGreat

namespace Go.Proofs.YtkjaanhddkkodaaGreat
set_option maxRecDepth 100000
open Go.RowKit
def sel (d:Pt→Bool) (l:List Pt):List Int:=(l.filter d).map Pt.id
theorem qv7 (d:Pt→Bool) (l:List Pt):(sel d l).length≤l.length:=by unfold sel;rw[List.length_map];exact List.length_filter_le _ _
theorem qw9 {d:Pt→Bool} {l:List Pt} {k:Nat} {p:Pt} (hk:l[k]?=some p) (h:d p=false):sel d (l.take (k+1))=sel d (l.take k):=by
 unfold sel
 rw[qbq hk,List.filter_append,List.filter_cons_of_neg (by rw[h];decide),List.filter_nil,List.append_nil]
theorem qmV {d:Pt→Bool} {l:List Pt} {k:Nat} {p:Pt} (hk:l[k]?=some p) (h:d p=true):sel d (l.take (k+1))=sel d (l.take k)++[p.id]:=by
 unfold sel
 rw[qbq hk,List.filter_append,List.filter_cons_of_pos h,List.filter_nil,List.map_append]
 rfl
theorem qrG (m:List Int) (n:Int):qtB (m++[n])=qtB m++[iV n]:=by simp[qtB]
theorem qxR {lo fr nb nt:Nat} {c:Code} {d:Pt→Bool} {l:List Pt} (tm:Nat→Nat→List (Nat×SV)) (hp:Nat→List Value→List (Nat×Nat×SV)) {e:Exit} {tm2:TmL} {hp2:HpL}
 (no:∀ (k m:Nat) (vs:List Value) (p:Pt),l[k]?=some p→d p=false→RunsL Tryz.prog lo fr c nt nb (tm m (k+1)) (hp m vs) e tm2 hp2→RunsL Tryz.prog lo fr c nt nb (tm m k) (hp m vs) e tm2 hp2)
 (yes:∀ (k m:Nat) (vs:List Value) (p:Pt),l[k]?=some p→d p=true→m+1≤l.length→RunsL Tryz.prog lo fr c nt nb (tm (m+1) (k+1)) (hp (m+1) (vs++[iV p.id])) e tm2 hp2→RunsL Tryz.prog lo fr c nt nb (tm m k) (hp m vs) e tm2 hp2)
 (last:RunsL Tryz.prog lo fr c nt nb (tm (sel d l).length l.length) (hp (sel d l).length (qtB (sel d l))) e tm2 hp2):RunsL Tryz.prog lo fr c nt nb (tm 0 0) (hp 0 []) e tm2 hp2:=by
 have:=RunsL.rounds (P:=Tryz.prog) (lo:=lo) (fr:=fr) (c:=c) (n:=nt) (nb:=nb) (fun k=>tm (sel d (l.take k)).length k) (fun k=>hp (sel d (l.take k)).length (qtB (sel d (l.take k)))) (e:=e) (tm2:=tm2) (hp2:=hp2) l.length 0 (Nat.zero_add _) (fun k _ hk r=>?_) (by rw[List.take_length];exact last)
 ·simpa [sel,qtB] using this
 ·obtain⟨p,hp'⟩:=qah hk
  cases h:d p
  ·rw[qw9 hp' h] at r
   exact no k _ _ p hp' h r
  ·rw[qmV hp' h,qrG,List.length_append] at r
   have h1:=qv7 d (l.take (k+1))
   rw[qmV hp' h,List.length_append,List.length_take] at h1
   exact yes k _ _ p hp' h (by simp at h1;omega) r
def names (n:Int) (p:Pt):Bool:=decide (p.a=n∨p.b=n)
theorem qod {s:List Pt} (hs:Val s) {p q:Pt} (hp:p∈s) (hq:q∈s) (h:p.id=q.id):p=q:=by
 obtain⟨i,hi,rfl⟩:=List.getElem_of_mem hp
 obtain⟨j,hj,rfl⟩:=List.getElem_of_mem hq
 exact (qnD hs.up (List.getElem?_eq_getElem hi) (List.getElem?_eq_getElem hj) h).2
def qb8 (s:List Pt) (i:Int):Pt:=(s.find? fun q=>q.id==i).getD ⟨0,0,0⟩
theorem qbx {s:List Pt} (hs:Val s) {q:Pt} (hq:q∈s):qb8 s q.id=q:=by
 unfold qb8
 cases h:s.find? fun r=>r.id==q.id with
 | none=>have:=List.find?_eq_none.1 h q hq;simp at this
 | some r=>
  have h1:=List.mem_of_find?_eq_some h
  have h2:=List.find?_some h
  simp only[beq_iff_eq] at h2
  exact qod hs h1 hq h2
def qdu (s:List Pt) (tn td:Int) (p:Pt):Bool:=qaY ((qb8 s p.b).a*td+(qb8 s p.b).b*tn) ((qb8 s p.a).a*td+(qb8 s p.a).b*tn) (qb8 s p.b).b (qb8 s p.a).b (qb8 s p.b).id (qb8 s p.a).id
def qcs (l s:List Pt):Prop:=∀ p∈l,(∃ q∈s,q.id=p.a)∧∃ g∈s,g.id=p.b
theorem qAa {s:List Pt} (hs:Val s):Fn 89 1 [qaJ 0 s] [(0,0,qal s)] (.mp 1) 1 [(1,0,.mrow (byV s))]:=by
 have hlen:=hs.len
 refine qs3 (s:=s) ?_
 have:=RunsL.rounds (P:=Tryz.prog) (lo:=1) (fr:=1) (c:=qft Tryz.prog 89 0) (n:=23) (nb:=3) (fun k=>[(3,.mp 2),(11,.ls 0 s.length),(12,.pv (iV (s.length:Int))),(13,.pv (iV (k:Int)))]) (fun k=>[(2,0,.mrow (byV (s.take k))),(0,0,qal s)])
  (e:=.exit 0) (tm2:=[(3,.mp 2)]) (hp2:=[(2,0,.mrow (byV s)),(0,0,qal s)]) s.length 0 (Nat.zero_add _) (fun k _ hk r=>?_) (by rw[List.take_length];exact qxM (hge:=df (by omega)))
 ·simpa using this
 ·obtain⟨p,hp⟩:=qah hk
  rw[qbq hp] at r
  exact qt6 (hk:=hp) (hin:=qan hk) (hlt:=dt (by omega)) (hP:=qzs fun q hq=>by
   obtain⟨i,hi,hq'⟩:=qgB hq
   have:=hs.up.mono hi hq' hp
   omega) (hs:=qau (by omega)) r
theorem qev {s:List Pt} (hs:Val s) {q:Pt} (hq:q∈s) {i:Int} (h:q.id=i) (ok:Bool):qbb Tryz.prog 147 (byV s) (iV i) ok (if ok=true then .tuple #[ptV q,.bool true] else ptV q):=by
 subst h
 exact qAK hq (fun r hr e=>qod hs hr hq e) ok
theorem qjo {s:List Pt} {i:Int} (h:¬ ∃ q∈s,q.id=i):qbb Tryz.prog 147 (byV s) (iV i) true (.tuple #[qab 0 0 0,.bool false]):=qCP (fun q hq e=>h ⟨q,hq,e⟩) true
noncomputable def qf5 (l s:List Pt):Bool:=open Classical in decide (qcs l s)
open Classical in
theorem qcq {l s:List Pt}:qf5 l s=true↔qcs l s:=by unfold qf5;exact decide_eq_true_iff
theorem qfn {l s:List Pt} (h:¬ qcs l s):qf5 l s=false:=by
 cases e:qf5 l s
 ·rfl
 ·exact (h (qcq.1 e)).elim
theorem qA5 (x:Int) {l s:List Pt} (hn:l.length≤210) (hs:Val s):Fn 90 2 [.mp 1,qaH 0 x l] [(0,0,qak l),(1,0,.mrow (byV s))] (.pv (.bool (qf5 l s))) 0 []:=by
 have step:∀ k,(∀ j,j<k→∀ p,l[j]?=some p→(∃ q∈s,q.id=p.a)∧∃ g∈s,g.id=p.b)→∀ {e:Exit} {tm2:TmL} {hp2:HpL},k≤l.length→
  Rl 3 3 184 0 19 3 [(0,.ls 0 l.length),(1,.pc 139 [.pp 2 0]),(7,.pv (iV (l.length:Int))),(8,.pv (iV (k:Int)))] [(0,0,qak l),(1,0,.mrow (byV s)),(2,0,.mp 1)] e tm2 hp2→
  Rl 3 3 184 0 19 3 [(0,.ls 0 l.length),(1,.pc 139 [.pp 2 0]),(7,.pv (iV (l.length:Int))),(8,.pv (iV ((0:Nat):Int)))] [(0,0,qak l),(1,0,.mrow (byV s)),(2,0,.mp 1)] e tm2 hp2:=by
  intro k hk e tm2 hp2 hkl r
  refine RunsL.rounds (fun j=>[(0,.ls 0 l.length),(1,.pc 139 [.pp 2 0]),(7,.pv (iV (l.length:Int))),(8,.pv (iV (j:Int)))]) (fun _=>[(0,0,qak l),(1,0,.mrow (byV s)),(2,0,.mp 1)]) (N:=k) k 0 (Nat.zero_add _) (fun j _ hj r=>?_) r
  obtain⟨p,hp⟩:=qah (l:=l) (k:=j) (by omega)
  obtain⟨⟨q,hq,hqa⟩,⟨g,hg,hgb⟩⟩:=hk j hj p hp
  exact qvf (hk:=hp) (hin:=qan (qai hp)) (hlt:=dt (by have:=qai hp;omega)) (hA:=qev hs hq hqa true) (hB:=qev hs hg hgb true) (hs:=qau (by omega)) r
 rcases qaT (fun j=>∀ p,l[j]?=some p→(∃ q∈s,q.id=p.a)∧∃ g∈s,g.id=p.b) l.length with h | ⟨j,hj,hb,hf⟩
 ·rw[qcq.2 fun p hp=>by
   obtain⟨k,hk,rfl⟩:=List.getElem_of_mem hp
   exact h k hk _ (List.getElem?_eq_getElem hk)]
  exact qzz (ht:=qDZ (hi:=qEi (r0:=step l.length h (Nat.le_refl _) (qy6 (hge:=df (by omega))))))
 ·simp only[Classical.not_forall] at hb
  obtain⟨p,hp,hnp⟩:=hb
  rw[qfn fun h=>hnp (h p (List.mem_of_getElem? hp))]
  refine qED (ht:=qAm (k:=j) (hi:=qA0 (r0:=step j hf (by omega) ?_)) (h0:=dt (by omega)))
  by_cases h1:∃ q∈s,q.id=p.a
  ·have h2:¬ ∃ g∈s,g.id=p.b:=fun h2=>hnp ⟨h1,h2⟩
   obtain⟨q,hq,hqa⟩:=h1
   exact qCE (hk:=hp) (hin:=qan hj) (hlt:=dt (by omega)) (hA:=qev hs hq hqa true) (hB:=qjo h2)
  ·by_cases h2:∃ g∈s,g.id=p.b
   ·obtain⟨g,hg,hgb⟩:=h2
    exact qCZ (hk:=hp) (hin:=qan hj) (hlt:=dt (by omega)) (hA:=qjo h1) (hB:=qev hs hg hgb true)
   ·exact qEe (hk:=hp) (hin:=qan hj) (hlt:=dt (by omega)) (hA:=qjo h1) (hB:=qjo h2)
theorem qjt {l s:List Pt} {tn td:Int} (hs:Val s) (hk:qcs l s) (ho:∀ p∈l,qb7 p.a p.b=true) {p:Pt} (hp:p∈l):∃ q g,q∈s∧g∈s∧q.id=p.a∧g.id=p.b∧g.id≠q.id∧qdu s tn td p=qaY (g.a*td+g.b*tn) (q.a*td+q.b*tn) g.b q.b g.id q.id:=by
 obtain⟨⟨q,hq,hqa⟩,⟨g,hg,hgb⟩⟩:=hk p hp
 refine⟨q,g,hq,hg,hqa,hgb,fun e=>?_,?_⟩
 ·exact (qbf.1 (ho p hp)).2.2.2.2 (by omega)
 ·unfold qdu
  rw[← hqa,← hgb,qbx hs hq,qbx hs hg]
section
variable {tn td:Int} (htn:I64 tn) (htd:I64 td)
theorem qw7 (x:Int) {l s:List Pt} (hn:l.length≤210) (ht:okB tn td=true) (hs:Val s) (hk:qcs l s) (ho:∀ p∈l,qb7 p.a p.b=true) (htn:I64 tn) (htd:I64 td) :
 Fn 93 4 [qaH 0 x l,.pc 91 [.pp 2 0,.pp 3 0]] [(0,0,qak l),(1,0,.mrow (byV s)),(2,0,.mp 1),(3,0,.pv (iV tn)),(3,1,.pv (iV td))] (.ls 4 (sel (qdu s tn td) l).length) 1 [(4,0,qBQ (sel (qdu s tn td) l))]:=
 qtY (qxR (d:=qdu s tn td) (l:=l) (fun m k=>[(1,.pc 91 [.pp 2 0,.pp 3 0]),(5,.ls 5 m),(9,.ls 0 l.length),(10,.pv (iV (l.length:Int))),(11,.pv (iV (k:Int)))]) (fun m vs=>[(0,0,qak l),(1,0,.mrow (byV s)),(2,0,.mp 1),(3,0,.pv (iV tn)),(3,1,.pv (iV td)),(5,0,.row 3 1 m vs)])
  (fun k m vs p hp h r=>by
   obtain⟨q,g,hq,hg,hqa,hgb,hne,he⟩:=qjt (tn:=tn) (td:=td) hs hk ho (List.mem_of_getElem? hp)
   have ha:=qkb htn htd (hs.ok g hg) (hs.ok q hq) ht hne
   rw[← he,h] at ha
   exact qtU (hk:=hp) (hin:=qan (qai hp)) (hlt:=dt (by have:=qai hp;omega)) (hB:=qev hs hg hgb false) (hA:=qev hs hq hqa false) (ha:=ha) (hs:=qau (by have:=qai hp;omega)) r)
  (fun k m vs p hp h hm r=>by
   obtain⟨q,g,hq,hg,hqa,hgb,hne,he⟩:=qjt (tn:=tn) (td:=td) hs hk ho (List.mem_of_getElem? hp)
   have ha:=qkb htn htd (hs.ok g hg) (hs.ok q hq) ht hne
   rw[← he,h] at ha
   exact qub (hk:=hp) (hin:=qan (qai hp)) (hlt:=dt (by have:=qai hp;omega)) (hB:=qev hs hg hgb false) (hA:=qev hs hq hqa false) (ha:=ha) (hm:=by omega) (hs:=qau (by have:=qai hp;omega)) r)
  (qyW (hge:=df (by omega))))
theorem qgE {s:List Pt} (hs:Val s) (i:Int):∃ u,Fn 72 1 [qaJ 0 s,.pv (iV i)] [(0,0,qal s)] (.pv (iV u)) 0 []∧((u<0∧¬ ∃ q∈s,q.id=i)∨∃ (k:Nat) (q:Pt),u=(k:Int)∧s[k]?=some q∧q.id=i):=by
 rcases place s hs i with ⟨k,q,hk,he⟩ | ⟨hno,_⟩
 ·exact⟨k,qnG hs hk he,Or.inr ⟨k,q,rfl,hk,he⟩⟩
 ·exact⟨-1,qCi hs.len hno,Or.inl ⟨by omega,fun ⟨q,hq,he⟩=>hno q hq he⟩⟩
theorem qxo (x:Int) {l s:List Pt} (hn:l.length≤210) (hs:Val s):Fn 45 2 [qaH 0 x l,qaJ 1 s] [(0,0,qak l),(1,0,qal s)] (.pv (.bool (qf5 l s))) 0 []:=by
 have step:∀ k,(∀ j,j<k→∀ p,l[j]?=some p→(∃ q∈s,q.id=p.a)∧∃ g∈s,g.id=p.b)→∀ {e:Exit} {tm2:TmL} {hp2:HpL},k≤l.length→
  Rl 2 2 45 0 35 4 [(2,.pp 2 0),(3,.pp 3 0),(5,.pv (iV (k:Int)))] [(2,0,.pv (iV x)),(2,1,.ls 0 l.length),(3,0,.ls 1 s.length),(0,0,qak l),(1,0,qal s)] e tm2 hp2→
  Rl 2 2 45 0 35 4 [(2,.pp 2 0),(3,.pp 3 0),(5,.pv (iV ((0:Nat):Int)))] [(2,0,.pv (iV x)),(2,1,.ls 0 l.length),(3,0,.ls 1 s.length),(0,0,qak l),(1,0,qal s)] e tm2 hp2:=by
  intro k hk e tm2 hp2 hkl r
  refine RunsL.rounds (fun j=>[(2,.pp 2 0),(3,.pp 3 0),(5,.pv (iV (j:Int)))]) (fun _=>[(2,0,.pv (iV x)),(2,1,.ls 0 l.length),(3,0,.ls 1 s.length),(0,0,qak l),(1,0,qal s)]) (N:=k) k 0 (Nat.zero_add _) (fun j _ hj r=>?_) r
  obtain⟨p,hp⟩:=qah (l:=l) (k:=j) (by omega)
  obtain⟨h1,h2⟩:=hk j hj p hp
  obtain⟨u,a1,a2⟩:=qgE hs p.a
  obtain⟨v,b1,b2⟩:=qgE hs p.b
  rcases a2 with ⟨_,a2⟩ | ⟨i,q,rfl,_⟩
  ·exact (a2 h1).elim
  ·rcases b2 with ⟨_,b2⟩ | ⟨i',g,rfl,_⟩
   ·exact (b2 h2).elim
   ·exact qrI (hk:=hp) (hin:=qan (qai hp)) (hlt:=dt (by have:=qai hp;omega)) (ha:=a1) (h1:=df (by omega)) (hb:=b1) (h2:=df (by omega)) (hs:=qau (by omega)) r
 rcases qaT (fun j=>∀ p,l[j]?=some p→(∃ q∈s,q.id=p.a)∧∃ g∈s,g.id=p.b) l.length with h | ⟨j,hj,hb,hf⟩
 ·rw[qcq.2 fun p hp=>by
   obtain⟨k,hk,rfl⟩:=List.getElem_of_mem hp
   exact h k hk _ (List.getElem?_eq_getElem hk)]
  exact quG (r0:=step l.length h (Nat.le_refl _) (qwC (hge:=df (by omega))))
 ·simp only[Classical.not_forall] at hb
  obtain⟨p,hp,hnp⟩:=hb
  rw[qfn fun h=>hnp (h p (List.mem_of_getElem? hp))]
  refine qxr (r0:=step j hf (by omega) ?_)
  obtain⟨u,a1,a2⟩:=qgE hs p.a
  obtain⟨v,b1,b2⟩:=qgE hs p.b
  rcases a2 with ⟨a2,_⟩ | ⟨i,q,rfl,hq,hqa⟩
  ·exact qAi (hk:=hp) (hin:=qan hj) (hlt:=dt (by omega)) (ha:=a1) (h1:=dt a2)
  ·rcases b2 with ⟨b2,_⟩ | ⟨i',g,rfl,hg,hgb⟩
   ·exact qxe (hk:=hp) (hin:=qan hj) (hlt:=dt (by omega)) (ha:=a1) (h1:=df (by omega)) (hb:=b1) (h2:=dt b2)
   ·exact (hnp ⟨⟨q,List.mem_of_getElem? hq,hqa⟩,⟨g,List.mem_of_getElem? hg,hgb⟩⟩).elim
abbrev qFT (f:FuncId) (x:Int) (l s:List Pt) (tn td:Int) (m:List Int):Prop:=Fn f 2 [qaH 0 x l,qaJ 1 s,.pv (qaa tn td)] [(0,0,qak l),(1,0,qal s)] (.tu [.one (.ls 2 m.length),.one (.pv (iV 0))]) 1 [(2,0,qBQ m)]
end
end Go.Proofs.YtkjaanhddkkodaaGreat

namespace Go.Proofs.YtkjaanhddkkodaaGreat
set_option maxRecDepth 100000
open Go.RowKit
theorem qt2 {n d tn td m k:Int} (hd:0<d) (ht:0<td) (hk:0<k) (h1:m*d≤n*k) (h2:n*td≤tn*d):m*td≤tn*k:=by
 have e1:=Int.mul_le_mul_of_nonneg_right h1 (Int.le_of_lt ht)
 have e2:=Int.mul_le_mul_of_nonneg_right h2 (Int.le_of_lt hk)
 have e3:n*k*td=n*td*k:=Int.mul_right_comm n k td
 have e4:m*d*td=m*td*d:=Int.mul_right_comm m d td
 have e5:tn*d*k=tn*k*d:=Int.mul_right_comm tn d k
 exact Int.le_of_mul_le_mul_right (a:=d) (by omega) hd
abbrev ldB (q p:Pt) (n d:Int):Bool:=qaY (q.a*d+q.b*n) (p.a*d+p.b*n) q.b p.b q.id p.id
structure FailIs (p q:Pt) (n d m k:Int) (s:Bool):Prop where
 ok:s=true→okB m k=true∧I64 m∧I64 k∧n*k≤m*d
 no:s=false→m=0∧k=0
 then_:s=true→ldB q p m k=true
 before:∀ tn td,okB tn td=true→n*td≤tn*d→(s=true→tn*k<m*td)→ldB q p tn td=false
abbrev qpS (p q:Pt) (n d m k:Int) (s:Bool):Prop:=Pure Tryz.prog 154 #[ptV p,ptV q,qaa n d] (.tuple #[qaa m k,.bool s,iV 0])
abbrev qp7 (p q:Pt) (n d m k:Int) (s:Bool):Prop:=Pure Tryz.prog 83 #[ptV p,ptV q,qaa n d] (.tuple #[qaa m k,.bool s])
theorem qgf {p q:Pt} {n d:Int} (hn:I64 n) (hd:I64 d) (h3:okB n d=true) (hl:ldB q p n d=true):FailIs p q n d n d true where
 ok:=fun _=>⟨h3,hn,hd,Int.le_refl _⟩
 no:=fun h=>by cases h
 then_:=fun _=>hl
 before:=fun tn td _ h1 h2=>by have:=h2 rfl;omega
theorem qvx {p q:Pt} {n d:Int} (hn:I64 n) (hd:I64 d) (hp:qhs p=true) (hq:qhs q=true) (h3:okB n d=true) (h4:p.id≠q.id):∃ m k s,qpS p q n d m k s∧qp7 p q n d m k s∧FailIs p q n d m k s:=by
 obtain⟨pi,pa,pb⟩:=p
 obtain⟨qi,qa,qb⟩:=q
 simp only at h4
 have h1:okP pi pa pb=true:=hp
 have h2:okP qi qa qb=true:=hq
 have c1:=qbX h1
 have c2:=qbX h2
 have c3:=qbA hn hd h3
 have c4:=qlJ (pa:=pa) (pb:=pb) (qa:=qa) (qb:=qb) h4
 have ld:=qqM (pi:=qi) (qi:=pi) (n:=n) (d:=d) hn hd h2 h1
 have d0:0<d:=by have:=qbd h3;omega
 have now:=fun (l:Pure Tryz.prog 134 #[qab qi qa qb,qab pi pa pb,qaa n d] (.bool true))=>qi5 (pi:=pi) (pa:=pa) (pb:=pb) l
 by_cases hb:qb=pb
 ·subst hb
  have no:=fun (l:Pure Tryz.prog 134 #[qab qi qa qb,qab pi pa qb,qaa n d] (.bool false))=>qfQ (pi:=pi) (pa:=pa) (pb:=qb) l (df (by omega))
  have sm:∀ tn td:Int,okB tn td=true→ldB ⟨qi,qa,qb⟩ ⟨pi,pa,qb⟩ tn td=qaY qa pa qb qb qi pi:=fun tn td h=>qfY (by have:=qbd h;omega)
  have none:qaY qa pa qb qb qi pi=false→FailIs ⟨pi,pa,qb⟩ ⟨qi,qa,qb⟩ n d 0 0 false:=fun h=>⟨fun h=>(by cases h),fun _=>⟨rfl,rfl⟩,fun h=>(by cases h),fun tn td ht _ _=>by rw[sm tn td ht];exact h⟩
  have nw:qaY qa pa qb qb qi pi=true→FailIs ⟨pi,pa,qb⟩ ⟨qi,qa,qb⟩ n d n d true:=fun h=>qgf hn hd h3 (by rw[sm n d h3];exact h)
  rw[qfY d0] at ld
  by_cases ha:qa=pa
  ·subst ha
   by_cases hi:qi<pi
   ·have e:qaY qa qa qb qb qi pi=true:=qbP (by omega)
    rw[e] at ld
    exact⟨n,d,true,qrn c1 c2 c3 c4 (by simp) (dt hi),now ld,nw e⟩
   ·have e:qaY qa qa qb qb qi pi=false:=qbv (by omega)
    rw[e] at ld
    exact⟨0,0,false,qpO c1 c2 c3 c4 (by simp) (df hi) (df (Int.lt_irrefl _)),no ld,none e⟩
  ·by_cases hg:qa>pa
   ·have e:qaY qa pa qb qb qi pi=true:=qbP (by omega)
    rw[e] at ld
    exact⟨n,d,true,qq0 c1 c2 c3 c4 (by simp[ha]) (by simp) (dt hg),now ld,nw e⟩
   ·have e:qaY qa pa qb qb qi pi=false:=qbv (by omega)
    rw[e] at ld
    exact⟨0,0,false,qrM c1 c2 c3 c4 (by simp[ha]) (by simp) (df hg) (df (Int.lt_irrefl _)),no ld,none e⟩
 ·obtain⟨m,k,k1,k2,k3,k4,k5,k6⟩:=qhQ h2 h1 hb
  have k0:0<k:=by have:=qbd k1;omega
  have cc:=qh8 hn hd k2 k3 h3 k1
  have lt:∀ tn td:Int,ldB ⟨qi,qa,qb⟩ ⟨pi,pa,pb⟩ tn td=(decide (qb>pb)==decide ((tn*k-m*td).sign≥0)):=fun tn td=>qfG k0 k4 hb
  have ld0:=lt n d
  rw[qfG k0 k4 hb] at ld
  have w:(qa==pa&&(qb==pb&&true))=false:=by simp[hb]
  have bb:(qb==pb)=false:=by simp[hb]
  by_cases g:qb>pb<;>by_cases l:(n*k-m*d).sign≥0
  ·rw[dt g,dt l] at ld ld0
   exact⟨n,d,true,qos c1 c2 c3 c4 w bb k5 cc (dt l) (dt g),now ld,qgf hn hd h3 ld0⟩
  ·rw[dt g,df l] at ld
   have mt:=qxx h1 h2 (Ne.symm hb) k1 k2 k3 (by
    have e1:m*(pb-qb) = -(m*(qb-pb)):=by rw[← Int.mul_neg];congr 1;omega
    have e2:(qa-pa)*k = -((pa-qa)*k):=by rw[← Int.neg_mul];congr 1;omega
    rw[e1,e2,k4])
   refine⟨m,k,true,qov c1 c2 c3 c4 w bb k5 cc (df l) (dt g) k6,qiZ ld (dt g) mt,fun _=>⟨k1,k2,k3,?_⟩,fun h=>(by cases h),fun _=>?_,fun tn td _ _ h=>?_⟩
   ·have:¬ 0≤n*k-m*d:=fun e=>l ((qeh _).2 e)
    omega
   ·rw[lt m k,dt g,Int.sub_self];rfl
   ·have h':=h rfl
    rw[lt tn td,dt g,df (fun e=>by have:=(qeh (tn*k-m*td)).1 e;omega)];rfl
  ·rw[df g,dt l] at ld
   have l':=(qeh (n*k-m*d)).1 l
   refine⟨0,0,false,qn7 c1 c2 c3 c4 w bb k5 cc (dt l) (df g),qfQ ld (df g),fun h=>(by cases h),fun _=>⟨rfl,rfl⟩,fun h=>(by cases h),fun tn td ht h _=>?_⟩
   have t0:0<td:=by have:=qbd ht;omega
   have:=qt2 d0 t0 k0 (show m*d≤n*k by omega) h
   rw[lt tn td,df g,dt ((qeh _).2 (by omega))];rfl
  ·rw[df g,df l] at ld ld0
   exact⟨n,d,true,qnu c1 c2 c3 c4 w bb k5 cc (df l) (df g),now ld,qgf hn hd h3 ld0⟩
noncomputable def qae (s:List Pt) (n d:Int) (c:Pt):Int×Int×Bool:=open Classical in if h:∃ r:Int×Int×Bool,qpS (qb8 s c.b) (qb8 s c.a) n d r.1 r.2.1 r.2.2∧qp7 (qb8 s c.b) (qb8 s c.a) n d r.1 r.2.1 r.2.2∧FailIs (qb8 s c.b) (qb8 s c.a) n d r.1 r.2.1 r.2.2 then h.choose else (0,0,false)
structure FailT (s:List Pt) (n d:Int) (c:Pt):Prop where
 p:qpS (qb8 s c.b) (qb8 s c.a) n d (qae s n d c).1 (qae s n d c).2.1 (qae s n d c).2.2
 f:qp7 (qb8 s c.b) (qb8 s c.a) n d (qae s n d c).1 (qae s n d c).2.1 (qae s n d c).2.2
 i:FailIs (qb8 s c.b) (qb8 s c.a) n d (qae s n d c).1 (qae s n d c).2.1 (qae s n d c).2.2
theorem qby {s:List Pt} {n d:Int} {c:Pt} (hn:I64 n) (hd:I64 d) (ht:okB n d=true) (hs:Val s) (hc:qb7 c.a c.b=true) (ha:∃ q∈s,q.id=c.a) (hb:∃ q∈s,q.id=c.b):FailT s n d c:=by
 obtain⟨q,hq,ea⟩:=ha
 obtain⟨p,hp,eb⟩:=hb
 have e1:qb8 s c.a=q:=by rw[← ea];exact qbx hs hq
 have e2:qb8 s c.b=p:=by rw[← eb];exact qbx hs hp
 have hne:p.id≠q.id:=by have:=(qbf.1 hc).2.2.2.2;omega
 obtain⟨m,k,b,h⟩:=qvx hn hd (hs.ok p hp) (hs.ok q hq) ht hne
 have ex:∃ r:Int×Int×Bool,qpS (qb8 s c.b) (qb8 s c.a) n d r.1 r.2.1 r.2.2∧qp7 (qb8 s c.b) (qb8 s c.a) n d r.1 r.2.1 r.2.2∧FailIs (qb8 s c.b) (qb8 s c.a) n d r.1 r.2.1 r.2.2:=by
  rw[e1,e2]
  exact⟨(m,k,b),h⟩
 have hh:qae s n d c=ex.choose:=by unfold qae;rw[dif_pos ex]
 obtain⟨h1,h2,h3⟩:=ex.choose_spec
 rw[← hh] at h1 h2 h3
 exact⟨h1,h2,h3⟩
end Go.Proofs.YtkjaanhddkkodaaGreat
