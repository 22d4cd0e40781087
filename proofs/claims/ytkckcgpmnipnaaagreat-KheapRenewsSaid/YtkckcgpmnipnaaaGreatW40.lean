/-
  Joined: Ew, Ex, Ey. Conditions: none.
-/
import Derived.Test.YtkckcgpmnipnaaaGreatW39
import Derived.Test.YtkckcgpmnipnaaaGreatW16
import Derived.Test.YtkckcgpmnipnaaaGreatW38
import Derived.Test.YtkckcgpmnipnaaaGreatW33
import Derived.Test.YtkckcgpmnipnaaaGreatW35
namespace Go.Proofs.YtkckcgpmnipnaaaGreat
set_option maxRecDepth 100000
open Go.RowKit
theorem qAS {p q:Pt} (h:p≠q):(!((p.id==q.id)&&((p.a==q.a)&&((p.b==q.b)&&true))))=true:=by
 cases h2:((p.id==q.id)&&((p.a==q.a)&&((p.b==q.b)&&true)))
 ·rfl
 ·rw[Bool.and_true,Bool.and_eq_true,Bool.and_eq_true,beq_iff_eq,beq_iff_eq,beq_iff_eq] at h2;obtain⟨e1,e2,e3⟩:=h2;obtain⟨a,b,c⟩:=p;obtain⟨x,y,z⟩:=q;have e1:a=x:=e1;have e2:b=y:=e2;have e3:c=z:=e3;exact (h (by rw[e1,e2,e3])).elim
section
variable {s m:List Pt}
theorem qrU (hl:s.length=m.length) (hn:s.length≤1000):∀ (r k:Nat),k+r=s.length→
 (s.drop k=m.drop k∧Rl 2 2 109 0 26 2 [(0,.ls 0 s.length),(1,.ls 1 m.length),(12,.pv (iV (s.length:Int))),(13,.pv (iV (k:Int)))] [(0,0,qaf s),(1,0,qaf m)] (.exit 0) [] [])∨
 (s.drop k≠m.drop k∧Rl 2 2 109 0 26 2 [(0,.ls 0 s.length),(1,.ls 1 m.length),(12,.pv (iV (s.length:Int))),(13,.pv (iV (k:Int)))] [(0,0,qaf s),(1,0,qaf m)] .ret [(4,.pv (.bool false))] []):=by
 intro r
 induction r with
 | zero=>
  intro k hk;rw[List.drop_eq_nil_of_le (by omega),List.drop_eq_nil_of_le (by omega)];exact Or.inl ⟨rfl,qvs (df (by omega))⟩
 | succ r ih=>
  intro k hk;obtain⟨p,hp⟩:=qah (show k<s.length by omega);obtain⟨q,hq⟩:=qah (show k<m.length by omega);have lk:decide ((k:Int)<(s.length:Int))=true:=dt (by omega);rw[qaP hp,qaP hq];by_cases e:p=q
  ·subst e
   rcases ih (k+1) (by omega) with ⟨i1,i2⟩ | ⟨i1,i2⟩
   ·exact Or.inl ⟨by rw[i1],qlq lk (by omega) hp (by omega) hq (by simp) (qag (by omega)) i2⟩
   ·exact Or.inr ⟨fun h=>i1 (List.cons.inj h).2,qlq lk (by omega) hp (by omega) hq (by simp) (qag (by omega)) i2⟩
  ·exact Or.inr ⟨fun h=>e (List.cons.inj h).1,qwm lk (by omega) hp (by omega) hq (qAS e)⟩
theorem qra (hs:s.length≤1000):(s=m→Fn 109 2 [.ls 0 s.length,.ls 1 m.length] [(0,0,qaf s),(1,0,qaf m)] (.pv (.bool true)) 0 [])∧(s≠m→Fn 109 2 [.ls 0 s.length,.ls 1 m.length] [(0,0,qaf s),(1,0,qaf m)] (.pv (.bool false)) 0 []):=by
 by_cases hl:s.length=m.length
 ·have h:=qrU hl hs s.length 0 (Nat.zero_add _);rw[List.drop_zero,List.drop_zero] at h
  have hl2:((s.length:Int) !=(m.length:Int))=false:=by rw[bne_eq_false_iff_eq];omega
  rcases h with ⟨h1,h2⟩ | ⟨h1,h2⟩
  ·exact⟨fun _=>quX hl2 h2,fun h=>(h h1).elim⟩
  ·exact⟨fun h=>(h1 h).elim,fun _=>qDG hl2 h2⟩
 ·exact⟨fun h=>(hl (by rw[h])).elim,fun _=>qwk (by rw[bne_iff_ne];omega)⟩
theorem qsA (hl:s.length=m.length) (hn:s.length≤1000):∀ (r k:Nat),k+r=s.length→
 (s.drop k=m.drop k∧Rl 2 2 41 0 31 4 (saT k) [(2,0,.ls 0 s.length),(3,0,.ls 1 m.length),(0,0,qaf s),(1,0,qaf m)] (.exit 0) [] [])∨
 (s.drop k≠m.drop k∧Rl 2 2 41 0 31 4 (saT k) [(2,0,.ls 0 s.length),(3,0,.ls 1 m.length),(0,0,qaf s),(1,0,qaf m)] .ret [(4,.pv (.bool false))] []):=by
 intro r
 induction r with
 | zero=>
  intro k hk;rw[List.drop_eq_nil_of_le (by omega),List.drop_eq_nil_of_le (by omega)];exact Or.inl ⟨rfl,qlt (df (by omega))⟩
 | succ r ih=>
  intro k hk;obtain⟨p,hp⟩:=qah (show k<s.length by omega);obtain⟨q,hq⟩:=qah (show k<m.length by omega);have lk:decide ((k:Int)<(s.length:Int))=true:=dt (by omega);rw[qaP hp,qaP hq];by_cases e:p=q
  ·subst e
   rcases ih (k+1) (by omega) with ⟨i1,i2⟩ | ⟨i1,i2⟩
   ·exact Or.inl ⟨by rw[i1],qfT hp (by omega) hq (by omega) lk (by simp) (qag (by omega)) i2⟩
   ·exact Or.inr ⟨fun h=>i1 (List.cons.inj h).2,qfT hp (by omega) hq (by omega) lk (by simp) (qag (by omega)) i2⟩
  ·exact Or.inr ⟨fun h=>e (List.cons.inj h).1,qte hp (by omega) hq (by omega) lk (qAS e)⟩
theorem qlR (hs:s.length≤1000):(s=m→Fn 41 2 [qaq 0 s,qaq 1 m] [(0,0,qaf s),(1,0,qaf m)] (.pv (.bool true)) 0 [])∧(s≠m→Fn 41 2 [qaq 0 s,qaq 1 m] [(0,0,qaf s),(1,0,qaf m)] (.pv (.bool false)) 0 []):=by
 by_cases hl:s.length=m.length
 ·have h:=qsA hl hs s.length 0 (Nat.zero_add _);rw[List.drop_zero,List.drop_zero] at h
  have hl2:(!((s.length:Int)==(m.length:Int)))=false:=by rw[hl];simp
  rcases h with ⟨h1,h2⟩ | ⟨h1,h2⟩
  ·exact⟨fun _=>qkK hl2 h2,fun h=>(h h1).elim⟩
  ·exact⟨fun h=>(h1 h).elim,fun _=>qwr hl2 h2⟩
 ·exact⟨fun h=>(hl (by rw[h])).elim,fun _=>qqu (by simp;omega)⟩
end
section
variable {l:List P2} {a b:Int} {n:Nat}
theorem qvd {x:P2} {a b:Int}:((x.a==a)&&((x.b==b)&&true))=true↔x=⟨a,b⟩:=by
 rw[Bool.and_true,Bool.and_eq_true,beq_iff_eq,beq_iff_eq];constructor
 ·rintro⟨rfl,rfl⟩;rfl
 ·rintro rfl;exact⟨rfl,rfl⟩
theorem qkP {x:P2} {a b:Int} (h:x≠⟨a,b⟩):((x.a==a)&&((x.b==b)&&true))=false:=by
 cases e:((x.a==a)&&((x.b==b)&&true))
 ·rfl
 ·exact (h (qvd.1 e)).elim
abbrev qEL (l:List P2) (a b:Int):List (Nat×Nat×SV):=[(1,0,.pv (iV a)),(1,1,.pv (iV b)),(0,0,qdH l)]
theorem qsB (hn:l.length≤1000):∀ (r k:Nat),k+r=l.length→
 ((⟨a,b⟩:P2)∉l.drop k∧Rl 1 1 48 0 18 2 [(0,.ls 0 l.length),(3,.pp 1 0),(5,.pv (iV (k:Int)))] (qEL l a b) (.exit 0) [] [])∨
 ((⟨a,b⟩:P2)∈l.drop k∧Rl 1 1 48 0 18 2 [(0,.ls 0 l.length),(3,.pp 1 0),(5,.pv (iV (k:Int)))] (qEL l a b) .ret [(4,.pv (.bool true))] []):=by
 intro r
 induction r with
 | zero=>
  intro k hk;rw[List.drop_eq_nil_of_le (by omega)];exact Or.inl ⟨fun h=>(by cases h),qBz (df (by omega))⟩
 | succ r ih=>
  intro k hk;obtain⟨x,hx⟩:=qah (show k<l.length by omega);have lk:decide ((k:Int)<(l.length:Int))=true:=dt (by omega);rw[qaP hx];by_cases e:x=⟨a,b⟩
  ·exact Or.inr ⟨by rw[e];exact List.mem_cons_self,qBE lk (by omega) hx (qvd.2 e)⟩
  ·rcases ih (k+1) (by omega) with ⟨i1,i2⟩ | ⟨i1,i2⟩
   ·exact Or.inl ⟨fun h=>(List.mem_cons.1 h).elim (fun h=>e h.symm) i1,qun lk (by omega) hx (qkP e) (qag (by omega)) i2⟩
   ·exact Or.inr ⟨List.mem_cons_of_mem _ i1,qun lk (by omega) hx (qkP e) (qag (by omega)) i2⟩
theorem qqx (hn:l.length≤1000) (hl:n≤l.length):∀ (r k:Nat),k+r=n→
 ((∀ j,k≤j→j<n→l[j]?≠some ⟨a,b⟩)∧Rl 1 1 48 0 18 2 [(0,.lq 0 2 0 n),(3,.pp 1 0),(5,.pv (iV (k:Int)))] (qEL l a b) (.exit 0) [] [])∨
 ((∃ j,k≤j∧j<n∧l[j]?=some ⟨a,b⟩)∧Rl 1 1 48 0 18 2 [(0,.lq 0 2 0 n),(3,.pp 1 0),(5,.pv (iV (k:Int)))] (qEL l a b) .ret [(4,.pv (.bool true))] []):=by
 intro r
 induction r with
 | zero=>
  intro k hk;exact Or.inl ⟨fun j h1 h2=>by omega,qC1 (df (by omega))⟩
 | succ r ih=>
  intro k hk;obtain⟨x,hx⟩:=qah (show k<l.length by omega);have lk:decide ((k:Int)<(n:Int))=true:=dt (by omega);by_cases e:x=⟨a,b⟩
  ·exact Or.inr ⟨⟨k,Nat.le_refl _,by omega,by rw[hx,e]⟩,qC9 lk (by omega) hx (qvd.2 e)⟩
  ·rcases ih (k+1) (by omega) with ⟨i1,i2⟩ | ⟨⟨j,i0,i1,i3⟩,i2⟩
   ·refine Or.inl ⟨fun j h1 h2 h3=>?_,quD lk (by omega) hx (qkP e) (qag (by omega)) i2⟩
    rcases Nat.eq_or_lt_of_le h1 with h4 | h4
    ·rw[← h4,hx] at h3;exact e (Option.some.inj h3)
    ·exact i1 j h4 h2 h3
   ·exact Or.inr ⟨⟨j,by omega,i1,i3⟩,quD lk (by omega) hx (qkP e) (qag (by omega)) i2⟩
theorem qvZ (hn:l.length≤1000) (a b:Int):Fn 48 1 [.ls 0 l.length,.pv (qae a b)] [(0,0,qdH l)] (.pv (.bool (decide ((⟨a,b⟩:P2)∈l)))) 0 []:=by
 have h:=qsB (a:=a) (b:=b) hn l.length 0 (Nat.zero_add _);rw[List.drop_zero] at h
 rcases h with ⟨h1,h2⟩ | ⟨h1,h2⟩
 ·rw[decide_eq_false h1];exact qD5 h2
 ·rw[decide_eq_true h1];exact qCf h2
theorem qvK (hn:l.length≤1000) (hl:n≤l.length) (a b:Int) :
 ((∀ j,j<n→l[j]?≠some ⟨a,b⟩)∧Fn 48 1 [.lq 0 2 0 n,.pv (qae a b)] [(0,0,qdH l)] (.pv (.bool false)) 0 [])∨
 ((∃ j,j<n∧l[j]?=some ⟨a,b⟩)∧Fn 48 1 [.lq 0 2 0 n,.pv (qae a b)] [(0,0,qdH l)] (.pv (.bool true)) 0 []):=by
 rcases qqx (a:=a) (b:=b) hn hl n 0 (Nat.zero_add _) with ⟨h1,h2⟩ | ⟨⟨j,_,h1,h3⟩,h2⟩
 ·exact Or.inl ⟨fun j=>h1 j (Nat.zero_le _),qBi h2⟩
 ·exact Or.inr ⟨⟨j,h1,h3⟩,qDV h2⟩
end
section
variable {s:List Pt} {l:List P2}
theorem qmz (hn:l.length≤1000):∀ (r k:Nat),k+r=l.length→
 ((∀ g∈l.drop k,qby g.a g.b=true)∧Rl 2 2 77 0 58 3 [(1,.ls 1 l.length),(2,.pp 2 0),(5,.pv (iV (k:Int)))] (ceH s l) (.exit 0) [(1,.ls 1 l.length),(2,.pp 2 0)] (ceH s l))∨
 ((∃ g∈l.drop k,qby g.a g.b=false)∧Rl 2 2 77 0 58 3 [(1,.ls 1 l.length),(2,.pp 2 0),(5,.pv (iV (k:Int)))] (ceH s l) .ret [(4,.pv (iV 8))] []):=by
 intro r
 induction r with
 | zero=>
  intro k hk;rw[List.drop_eq_nil_of_le (by omega)];exact Or.inl ⟨fun g hg=>(by cases hg),qBf (df (by omega))⟩
 | succ r ih=>
  intro k hk;obtain⟨g,hg⟩:=qah (show k<l.length by omega);rw[qaP hg];have lk:decide ((k:Int)<(l.length:Int))=true:=dt (by omega);have hv:=qdP g.a g.b;cases hc:qby g.a g.b
  ·rw[hc] at hv;exact Or.inr ⟨⟨g,List.mem_cons_self,hc⟩,qIg lk (by omega) hg hv⟩
  ·rw[hc] at hv
   rcases ih (k+1) (by omega) with ⟨i1,i2⟩ | ⟨⟨x,i0,i1⟩,i2⟩
   ·exact Or.inl ⟨fun x hx=>(List.mem_cons.1 hx).elim (fun e=>by rw[e];exact hc) (i1 x),qCl lk (by omega) hg hv (qag (by omega)) i2⟩
   ·exact Or.inr ⟨⟨x,List.mem_cons_of_mem _ i0,i1⟩,qCl lk (by omega) hg hv (qag (by omega)) i2⟩
theorem qmG (hn:l.length≤1000):∀ (r k:Nat),k+r=l.length→
 ((∀ (i j:Nat) (x:P2),i<j→k≤j→l[j]?=some x→l[i]?≠some x)∧Rl 2 2 77 1 58 3 [(1,.ls 1 l.length),(2,.pp 2 0),(6,.pv (iV (k:Int)))] (ceH s l) (.exit 2) [(1,.ls 1 l.length),(2,.pp 2 0)] (ceH s l))∨
 ((∃ (i j:Nat) (x:P2),i<j∧l[j]?=some x∧l[i]?=some x)∧Rl 2 2 77 1 58 3 [(1,.ls 1 l.length),(2,.pp 2 0),(6,.pv (iV (k:Int)))] (ceH s l) .ret [(4,.pv (iV 14))] []):=by
 intro r
 induction r with
 | zero=>
  intro k hk;exact Or.inl ⟨fun i j x _ h2 h3=>by have:=qan h3;omega,qzR (df (by omega))⟩
 | succ r ih=>
  intro k hk;obtain⟨g,hg⟩:=qah (show k<l.length by omega);have lk:decide ((k:Int)<(l.length:Int))=true:=dt (by omega)
  rcases qvK (l:=l) (n:=k) hn (by omega) g.a g.b with ⟨h1,h2⟩ | ⟨⟨j,h1,h3⟩,h2⟩
  ·rcases ih (k+1) (by omega) with ⟨i1,i2⟩ | ⟨i1,i2⟩
   ·refine Or.inl ⟨fun i j x h3 h4 h5 h6=>?_,qDE lk (by omega) hg (by omega) h2 (qag (by omega)) i2⟩
    rcases Nat.eq_or_lt_of_le h4 with h7 | h7
    ·subst h7;rw[hg] at h5;rw[← Option.some.inj h5] at h6;exact h1 i h3 h6
    ·exact i1 i j x h3 h7 h5 h6
   ·exact Or.inr ⟨i1,qDE lk (by omega) hg (by omega) h2 (qag (by omega)) i2⟩
  ·exact Or.inr ⟨⟨j,k,g,h1,hg,h3⟩,qCx lk (by omega) hg (by omega) h2⟩
theorem qpa (hs:Val s) (z:Int):∃ u:Int,Fn 61 1 [qaq 0 s,.pv (iV z)] [(0,0,qaf s)] (.pv (iV u)) 0 []∧(hsB s z=true→decide (u<0)=false)∧(hsB s z=false→decide (u<0)=true):=by
 by_cases h:∃ q∈s,q.id=z
 ·have hb:hsB s z=true:=qfM.2 ⟨qbL.2 hs,h⟩;obtain⟨q,hq,e⟩:=h;obtain⟨k,hk⟩:=List.mem_iff_getElem?.1 hq;exact⟨_,qlm hs hk e,fun _=>df (by omega),fun h=>by rw[hb] at h;cases h⟩
 ·have hb:hsB s z=false:=by
   cases e:hsB s z
   ·rfl
   ·exact (h (qfM.1 e).2).elim
  exact⟨_,qDL hs.len fun p hp e=>h ⟨p,hp,e⟩,fun h=>(by rw[hb] at h;cases h),fun _=>dt (by omega)⟩
theorem qlX (hs:Val s) (hn:l.length≤1000):∀ (r k:Nat),k+r=l.length→
 ((∀ g∈l.drop k,hsB s g.a=true∧hsB s g.b=true)∧Rl 2 2 77 2 58 3 [(1,.ls 1 l.length),(2,.pp 2 0),(7,.pv (iV (k:Int)))] (ceH s l) (.exit 4) [] [])∨
 ((∃ g∈l.drop k,¬ (hsB s g.a=true∧hsB s g.b=true))∧Rl 2 2 77 2 58 3 [(1,.ls 1 l.length),(2,.pp 2 0),(7,.pv (iV (k:Int)))] (ceH s l) .ret [(4,.pv (iV 6))] []):=by
 intro r
 induction r with
 | zero=>
  intro k hk;rw[List.drop_eq_nil_of_le (by omega)];exact Or.inl ⟨fun g hg=>(by cases hg),qAP (df (by omega))⟩
 | succ r ih=>
  intro k hk;obtain⟨g,hg⟩:=qah (show k<l.length by omega);rw[qaP hg];have lk:decide ((k:Int)<(l.length:Int))=true:=dt (by omega);obtain⟨u,hA,a1,a0⟩:=qpa hs g.a;obtain⟨v,hB,b1,b0⟩:=qpa hs g.b;cases h1:hsB s g.a
  ·exact Or.inr ⟨⟨g,List.mem_cons_self,fun h=>by rw[h1] at h;cases h.1⟩,qC5 lk (by omega) hg hA (a0 h1)⟩
  ·cases h2:hsB s g.b
   ·exact Or.inr ⟨⟨g,List.mem_cons_self,fun h=>by rw[h2] at h;cases h.2⟩,qBd lk (by omega) hg hA (a1 h1) hB (b0 h2)⟩
   ·rcases ih (k+1) (by omega) with ⟨i1,i2⟩ | ⟨⟨x,i0,i1⟩,i2⟩
    ·exact Or.inl ⟨fun x hx=>(List.mem_cons.1 hx).elim (fun e=>by rw[e];exact⟨h1,h2⟩) (i1 x),qCO lk (by omega) hg hA (a1 h1) hB (b1 h2) (qag (by omega)) i2⟩
    ·exact Or.inr ⟨⟨x,List.mem_cons_of_mem _ i0,i1⟩,qCO lk (by omega) hg hA (a1 h1) hB (b1 h2) (qag (by omega)) i2⟩
theorem qiA:l.Nodup↔∀ (i j:Nat) (x:P2),i<j→l[j]?=some x→l[i]?≠some x:=by
 rw[List.nodup_iff_pairwise_ne,List.pairwise_iff_getElem];constructor
 ·intro h i j x hij hj hi;obtain⟨a1,a2⟩:=List.getElem?_eq_some_iff.1 hi;obtain⟨b1,b2⟩:=List.getElem?_eq_some_iff.1 hj;exact h i j a1 b1 hij (by rw[a2,b2])
 ·intro h i j hi hj hij e;exact h i j l[j] hij (List.getElem?_eq_getElem hj) (by rw[← e];exact List.getElem?_eq_getElem hi)
theorem qgX (hs:Val s) (hn:l.length≤1000):Fn 77 2 [qaq 0 s,.ls 1 l.length] [(0,0,qaf s),(1,0,qdH l)] (.pv (iV (qff s l))) 0 []:=by
 have h0:=qmz (s:=s) hn l.length 0 (Nat.zero_add _);have h1:=qmG (s:=s) hn l.length 0 (Nat.zero_add _);have h2:=qlX hs hn l.length 0 (Nat.zero_add _);rw[List.drop_zero] at h0 h2
 rcases h0 with ⟨a0,r0⟩ | ⟨a0,r0⟩
 ·have n0:¬ ∃ g∈l,qby g.a g.b=false:=fun ⟨g,hg,h⟩=>by rw[a0 g hg] at h;cases h
  rcases h1 with ⟨a1,r1⟩ | ⟨⟨i,j,x,i1,i2,i3⟩,r1⟩
  ·have nd:l.Nodup:=qiA.2 fun i j x hij=>a1 i j x hij (Nat.zero_le _)
   rcases h2 with ⟨a2,r2⟩ | ⟨a2,r2⟩
   ·have e:qff s l=0:=by
     unfold qff;rw[if_neg n0,if_neg (not_not_intro nd),if_neg fun ⟨g,hg,h⟩=>h (a2 g hg)]
    rw[e];exact qGr r0 r1 r2
   ·have e:qff s l=6:=by
     unfold qff;rw[if_neg n0,if_neg (not_not_intro nd),if_pos a2]
    rw[e];exact qFu r0 r1 r2
  ·have nd:¬ l.Nodup:=fun nd=>qiA.1 nd i j x i1 i2 i3
   have e:qff s l=14:=by
    unfold qff;rw[if_neg n0,if_pos nd]
   rw[e];exact qzZ r0 r1
 ·have e:qff s l=8:=by
   unfold qff;rw[if_pos a0]
  rw[e];exact qHQ r0
end
end Go.Proofs.YtkckcgpmnipnaaaGreat

namespace Go.Proofs.YtkckcgpmnipnaaaGreat
set_option maxRecDepth 100000
open Go.RowKit
theorem qcZ {E:List P2} {a b:Int} (h:(⟨a,b⟩:P2)∈E):qbu Tryz.prog 167 (qaI (qh1 E)) (qae a b) false (.bool true):=qkN (p:=⟨0,a,b⟩) (q:=⟨0,a,b⟩) (List.mem_map.2 ⟨_,h,rfl⟩) ⟨rfl,rfl⟩
theorem qcd {E:List P2} {a b:Int} (h:(⟨a,b⟩:P2)∉E):qbu Tryz.prog 167 (qaI (qh1 E)) (qae a b) false (.bool false):=qop (p:=⟨0,a,b⟩) (qt3 h)
theorem qpS {o:Ck} (V:V9 o) {p:Pt} (h:p∈o.l):reE o p.id=0:=by
 unfold reE;rw[if_pos V,if_pos ⟨p,h,rfl⟩]
theorem qAy {o:Ck} (V:V9 o) {a b:Int} (hc:qby a b=true) (ha:∃ q∈o.s,q.id=a) (hb:∃ q∈o.s,q.id=b):cyE o a b=adE o a b:=by
 unfold cyE;rw[if_pos ⟨V,hc⟩,if_pos ⟨ha,hb⟩]
section
variable {c:Ck} {s:List Pt} {E:List P2} {qs:List Pt}
theorem qyH (hn:c.l.length≤1000):∀ (r k:Nat) (o o':Ck),k+r=c.l.length→V9 o→o.s.length≤70→I64 o.tn→I64 o.td→(∀ p∈c.l.drop k,p∈o.l)→((c.l.drop k).map Pt.id).Nodup→RenG E (c.l.drop k) o o'→
 Rl 10 10 52 0 79 23 (raT E.length c.l.length k) (raN c s E (qh1 E) qs o) (.exit 0) (qwS E.length) (qEv s E qs o'):=by
 intro r
 induction r with
 | zero=>
  intro k o o' hk _ _ _ _ _ _ h;rw[List.drop_eq_nil_of_le (by omega)] at h;cases h;exact qDO (df (by omega))
 | succ r ih=>
  intro k o o' hk V hs h1 h2 hm nd h
  have hlk:k<c.l.length:=by omega
  obtain⟨p,hp⟩:=qah hlk;rw[qaP hp] at h hm nd;rw[List.map_cons,List.nodup_cons] at nd;have lk:decide ((k:Int)<(c.l.length:Int))=true:=dt (by omega)
  cases h with
  | keep hE h=>exact qBp lk (qal hlk) hp (qcZ hE) (qag (by omega)) (ih (k+1) o o' (by omega) V hs h1 h2 (fun q hq=>hm q (List.mem_cons_of_mem _ hq)) nd.2 h)
  | @gone _ _ _ o1 _ hE hg h=>
   obtain⟨g1,g2,g3⟩:=qdK hg;obtain⟨_,g5⟩:=qfZ hg
   have hne:∀ q∈c.l.drop (k+1),q.id≠p.id:=fun q hq e=>nd.1 (List.mem_map.2 ⟨q,hq,e⟩)
   have R:=(qkU (V.small h1 h2) hs p.id).2 (qpS V (hm p List.mem_cons_self)) o1 hg
   exact qCF (hlt:=lk) (hin:=qal hlk) (hk:=hp) (hL:=qcd hE) (hr:=R) (hs:=qag (by omega))
    (r:=ih (k+1) o1 o' (by omega) (V.gone_ok hg) (by rw[g3];exact hs) (by rw[g1];exact h1) (by rw[g2];exact h2) (fun q hq=>by rw[g5];exact qk0.2 ⟨hm q (List.mem_cons_of_mem _ hq),hne q hq⟩) nd.2 h)
theorem quI (hn:c.l.length≤1000) (V:V9 c) (hs:c.s.length≤70) (h1:I64 c.tn) (h2:I64 c.td):∀ (r k:Nat) (o':Ck),k+r=c.l.length→RenG E (c.l.drop k) c o'→
 (o'=c∧Rl 10 10 52 0 79 23 (raT E.length c.l.length k) (raO c s E (qh1 E) qs) (.exit 0) (qwS E.length) (qFm c s E qs))∨
 Rl 10 10 52 0 79 23 (raT E.length c.l.length k) (raO c s E (qh1 E) qs) (.exit 0) (qwS E.length) (qEv s E qs o'):=by
 intro r
 induction r with
 | zero=>
  intro k o' hk h;rw[List.drop_eq_nil_of_le (by omega)] at h;cases h;exact Or.inl ⟨rfl,qAv (df (by omega))⟩
 | succ r ih=>
  intro k o' hk h
  have hlk:k<c.l.length:=by omega
  obtain⟨p,hp⟩:=qah hlk;have hpm:=List.mem_of_getElem? hp
  have nd:((c.l.drop k).map Pt.id).Nodup:=by
   rw[List.map_drop];exact (List.drop_sublist k (c.l.map Pt.id)).nodup V.v.up.nodup
  rw[qaP hp] at h nd;rw[List.map_cons,List.nodup_cons] at nd;have lk:decide ((k:Int)<(c.l.length:Int))=true:=dt (by omega)
  cases h with
  | keep hE h=>
   rcases ih (k+1) o' (by omega) h with ⟨e,i⟩ | i
   ·exact Or.inl ⟨e,qur lk (qal hlk) hp (qcZ hE) (qag (by omega)) i⟩
   ·exact Or.inr (qur lk (qal hlk) hp (qcZ hE) (qag (by omega)) i)
  | @gone _ _ _ o1 _ hE hg h=>
   obtain⟨g1,g2,g3⟩:=qdK hg;obtain⟨_,g5⟩:=qfZ hg
   have hne:∀ q∈c.l.drop (k+1),q.id≠p.id:=fun q hq e=>nd.1 (List.mem_map.2 ⟨q,hq,e⟩)
   have R:=(qkU (V.small h1 h2) hs p.id).2 (qpS V hpm) o1 hg
   exact Or.inr (qAZ (hlt:=lk) (hin:=qal hlk) (hk:=hp) (hL:=qcd hE) (hr:=R) (hs:=qag (by omega))
    (r:=qyH hn r (k+1) o1 o' (by omega) (V.gone_ok hg) (by rw[g3];exact hs) (by rw[g1];exact h1) (by rw[g2];exact h2) (fun q hq=>by rw[g5];exact qk0.2 ⟨List.mem_of_mem_drop hq,hne q hq⟩) nd.2 h))
theorem qrR (hn:c.l.length≤1000) (he:E.length≤1000):∀ (r k:Nat) (o o':Ck),k+r=c.l.length→V9 o→I64 o.tn→I64 o.td→RenG E (c.l.drop k) o o'→
 Rl 10 10 78 0 90 22 (qaT E.length k) (qaN c s E o) (.exit 0) (qH0 E.length) (qGp s E o'):=by
 intro r
 induction r with
 | zero=>
  intro k o o' hk _ _ _ h;rw[List.drop_eq_nil_of_le (by omega)] at h;cases h;exact qFn (df (by omega))
 | succ r ih=>
  intro k o o' hk V h1 h2 h
  have hlk:k<c.l.length:=by omega
  obtain⟨p,hp⟩:=qah hlk;rw[qaP hp] at h;have lk:decide ((k:Int)<(c.l.length:Int))=true:=dt (by omega);have hi:=qvZ he p.a p.b
  cases h with
  | keep hE h=>
   rw[decide_eq_true hE] at hi;exact qIa lk (qal hlk) hp hi (qag (by omega)) (ih (k+1) o o' (by omega) V h1 h2 h)
  | @gone _ _ _ o1 _ hE hg h=>
   obtain⟨g1,g2,g3⟩:=qdK hg;rw[decide_eq_false hE] at hi
   exact qHA (hlt:=lk) (hin:=qal hlk) (hk:=hp) (hi:=hi) (hg:=qo6 (V.small h1 h2) V hg) (hs:=qag (by omega))
    (r:=ih (k+1) o1 o' (by omega) (V.gone_ok hg) (by rw[g1];exact h1) (by rw[g2];exact h2) h)
variable {H:List P2}
theorem qjY (hn:E.length≤1000) (hs:s.length≤70):∀ (r k:Nat) (o:Ck) (q:Option Ck),k+r=E.length→RcOk H s (E.drop k) o→I64 o.tn→I64 o.td→RenC H (E.drop k) o q→
 (∀ o',q=some o'→Rl 10 10 52 1 79 31 (rbT E.length k) (rbN E (qh1 H) o) (.exit 2) qqb (qya o'))∧
 (q=none→Rl 10 10 52 1 79 31 (rbT E.length k) (rbN E (qh1 H) o) .ret qna qnb):=by
 intro r
 induction r with
 | zero=>
  intro k o q hk _ _ _ h;rw[List.drop_eq_nil_of_le (by omega)] at h;cases h;exact⟨fun o' e=>by cases e;exact qAW (df (by omega)),fun e=>by cases e⟩
 | succ r ih=>
  intro k o q hk R h1 h2 h
  have hlk:k<E.length:=by omega
  obtain⟨g,hg⟩:=qah hlk;rw[qaP hg] at h R;have lk:decide ((k:Int)<(E.length:Int))=true:=dt (by omega);obtain⟨q1,q2,q3⟩:=R.ok g List.mem_cons_self;have S:=R.v.small h1 h2;have cy:=qAy R.v q1 (by rw[R.e];exact q2) (by rw[R.e];exact q3);have C:=qiP S (by rw[R.e];exact hs) g.a g.b;rw[cy] at C
  cases h with
  | held hH h=>
   obtain⟨i1,i2⟩:=ih (k+1) o q (by omega) R.held h1 h2 h;exact⟨fun o' e=>qum lk (qal hlk) hg (qcZ hH) (qag (by omega)) (i1 o' e),fun e=>qum lk (qal hlk) hg (qcZ hH) (qag (by omega)) (i2 e)⟩
  | @add _ _ _ o1 _ hH h0 hc h=>
   obtain⟨R',e1,e2⟩:=R.add h1 h2 h0 hc;obtain⟨i1,i2⟩:=ih (k+1) o1 q (by omega) R' (by rw[e1];exact h1) (by rw[e2];exact h2) h;have C2:=C.2 h0 o1 hc;exact⟨fun o' e=>quF lk (qal hlk) hg (qcd hH) C2 (qag (by omega)) (i1 o' e),fun e=>quF lk (qal hlk) hg (qcd hH) C2 (qag (by omega)) (i2 e)⟩
  | full hH h0=>
   have hf:qd1 o.l g.a g.b=false:=by
    cases e:qd1 o.l g.a g.b
    ·rfl
    ·exact (hH ((R.h g List.mem_cons_self).2 e)).elim
   have C1:=C.1 h0;rw[qjd hf h0] at C1;exact⟨fun o' e=>(by cases e),fun _=>qCE lk (qal hlk) hg (qcd hH) C1⟩
theorem qy0 (hn:E.length≤1000) (hs:s.length≤70) (h1:I64 c.tn) (h2:I64 c.td):∀ (r k:Nat) (q:Option Ck),k+r=E.length→RcOk H s (E.drop k) c→RenC H (E.drop k) c q→
 (∀ o',q=some o'→(o'=c∧Rl 10 10 52 1 79 31 (rbT E.length k) (rbO E (qh1 H) c) (.exit 2) qqb (qGC c))∨
  Rl 10 10 52 1 79 31 (rbT E.length k) (rbO E (qh1 H) c) (.exit 2) qqb (qya o'))∧
 (q=none→Rl 10 10 52 1 79 31 (rbT E.length k) (rbO E (qh1 H) c) .ret qna qnb):=by
 intro r
 induction r with
 | zero=>
  intro k q hk _ h;rw[List.drop_eq_nil_of_le (by omega)] at h;cases h;exact⟨fun o' e=>by cases e;exact Or.inl ⟨rfl,qA5 (df (by omega))⟩,fun e=>by cases e⟩
 | succ r ih=>
  intro k q hk R h
  have hlk:k<E.length:=by omega
  obtain⟨g,hg⟩:=qah hlk;rw[qaP hg] at h R;have lk:decide ((k:Int)<(E.length:Int))=true:=dt (by omega);obtain⟨q1,q2,q3⟩:=R.ok g List.mem_cons_self;have S:=R.v.small h1 h2;have cy:=qAy R.v q1 (by rw[R.e];exact q2) (by rw[R.e];exact q3);have C:=qiP S (by rw[R.e];exact hs) g.a g.b;rw[cy] at C
  cases h with
  | held hH h=>
   obtain⟨i1,i2⟩:=ih (k+1) q (by omega) R.held h;refine⟨fun o' e=>?_,fun e=>qpK lk (qal hlk) hg (qcZ hH) (qag (by omega)) (i2 e)⟩
   rcases i1 o' e with ⟨e1,i⟩ | i
   ·exact Or.inl ⟨e1,qpK lk (qal hlk) hg (qcZ hH) (qag (by omega)) i⟩
   ·exact Or.inr (qpK lk (qal hlk) hg (qcZ hH) (qag (by omega)) i)
  | @add _ _ _ o1 _ hH h0 hc h=>
   obtain⟨R',e1,e2⟩:=R.add h1 h2 h0 hc;obtain⟨i1,i2⟩:=qjY hn hs r (k+1) o1 q (by omega) R' (by rw[e1];exact h1) (by rw[e2];exact h2) h;have C2:=C.2 h0 o1 hc;exact⟨fun o' e=>Or.inr (quu lk (qal hlk) hg (qcd hH) C2 (qag (by omega)) (i1 o' e)),fun e=>quu lk (qal hlk) hg (qcd hH) C2 (qag (by omega)) (i2 e)⟩
  | full hH h0=>
   have hf:qd1 c.l g.a g.b=false:=by
    cases e:qd1 c.l g.a g.b
    ·rfl
    ·exact (hH ((R.h g List.mem_cons_self).2 e)).elim
   have C1:=C.1 h0;rw[qjd hf h0] at C1;exact⟨fun o' e=>(by cases e),fun _=>qB0 lk (qal hlk) hg (qcd hH) C1⟩
theorem qsK (hn:E.length≤1000):∀ (r k:Nat) (o:Ck) (q:Option Ck),k+r=E.length→RcOk H s (E.drop k) o→I64 o.tn→I64 o.td→RenC H (E.drop k) o q→
 (∀ o',q=some o'→Rl 10 10 78 1 90 31 (qbT E.length k) (qbN E o) (.exit 2) qEo (qE4 o'))∧
 (q=none→Rl 10 10 78 1 90 31 (qbT E.length k) (qbN E o) .ret qna qnb):=by
 intro r
 induction r with
 | zero=>
  intro k o q hk _ _ _ h;rw[List.drop_eq_nil_of_le (by omega)] at h;cases h;exact⟨fun o' e=>by cases e;exact qG1 (df (by omega)),fun e=>by cases e⟩
 | succ r ih=>
  intro k o q hk R h1 h2 h
  have hlk:k<E.length:=by omega
  obtain⟨g,hg⟩:=qah hlk;rw[qaP hg] at h R;have lk:decide ((k:Int)<(E.length:Int))=true:=dt (by omega);obtain⟨q1,q2,q3⟩:=R.ok g List.mem_cons_self;have S:=R.v.small h1 h2;have hvl:=R.v.v.len;have hh:=qpq o.x (l:=o.l) (by omega) g.a g.b;have C:=qmg S R.v q1 (by rw[R.e];exact q2) (by rw[R.e];exact q3)
  have hout:g∉H→qd1 o.l g.a g.b=false:=fun hH=>by
   cases e:qd1 o.l g.a g.b
   ·rfl
   ·exact (hH ((R.h g List.mem_cons_self).2 e)).elim
  cases h with
  | held hH h=>
   obtain⟨i1,i2⟩:=ih (k+1) o q (by omega) R.held h1 h2 h;rw[(R.h g List.mem_cons_self).1 hH] at hh;exact⟨fun o' e=>qCA lk (qal hlk) hg hh (qag (by omega)) (i1 o' e),fun e=>qCA lk (qal hlk) hg hh (qag (by omega)) (i2 e)⟩
  | @add _ _ _ o1 _ hH h0 hc h=>
   obtain⟨R',e1,e2⟩:=R.add h1 h2 h0 hc;obtain⟨i1,i2⟩:=ih (k+1) o1 q (by omega) R' (by rw[e1];exact h1) (by rw[e2];exact h2) h;have C2:=C.2 h0 o1 hc;rw[hout hH] at hh;exact⟨fun o' e=>qCw lk (qal hlk) hg hh C2 (qag (by omega)) (i1 o' e),fun e=>qCw lk (qal hlk) hg hh C2 (qag (by omega)) (i2 e)⟩
  | full hH h0=>
   have C1:=C.1 h0;rw[qjd (hout hH) h0] at C1;rw[hout hH] at hh;exact⟨fun o' e=>(by cases e),fun _=>qFJ lk (qal hlk) hg hh C1⟩
end
end Go.Proofs.YtkckcgpmnipnaaaGreat

namespace Go.Proofs.YtkckcgpmnipnaaaGreat
set_option maxRecDepth 100000
open Go.RowKit
abbrev qHW (f:FuncId) (c:Ck) (s:List Pt) (o:Ck):Prop:=Fn f 9 [qar c,qaq 8 s] (qaA c++[(8,0,qaf s)]) (.tu [.ag [.pv (iV o.tn),.pv (iV o.td),.ls 9 o.s.length,.pv (iV o.x),.ls 10 o.l.length,.ls 11 o.u.length,.ls 12 o.b.length,.ls 13 o.fr.length,.ls 14 o.ev.length,.ls 15 o.wh.length,.ls 16 o.d.length],.one (.pv (iV 0))]) 8 [(9,0,qaf o.s),(10,0,qak o.l),(11,0,zrI o.u),(12,0,zrB o.b),(13,0,zrI o.fr),(14,0,qap o.ev),(15,0,zrI o.wh),(16,0,qaH o.d)]
section
variable {c:Ck} {s:List Pt} {E:List P2}
theorem qyB {o:Ck} (A:AlPre o s):qmr o s=0:=by
 unfold qmr;rw[if_pos A.V,if_pos (qbL.2 A.sv),if_pos A.kn]
theorem qdc {f:FuncId} {o:Ck} (AL:∀ r,AlRun o s o.l { o with d:=[] } r→(∀ o',r=some o'→qEm f o s o')∧(r=none→qmi f o s 18)) {r:Option Ck} (h:RenF o s r) :
 (o.s=s∧r=some o)∨(o.s≠s∧r=none∧qmi f o s 18)∨(o.s≠s∧∃ o2,r=some o2∧qHW f o s o2):=by
 rcases h with h | ⟨hne,q,hq,e⟩
 ·exact Or.inl h
 ·cases q with
  | none=>exact Or.inr (Or.inl ⟨hne,e,(AL none hq).2 rfl⟩)
  | some o'=>exact Or.inr (Or.inr ⟨hne,_,e,(AL _ hq).1 o' rfl⟩)
theorem qst (V:V9 c):(c.l.map abP).Nodup:=by
 rw[List.nodup_iff_pairwise_ne,List.pairwise_iff_getElem];intro i j hi hj hij e;rw[List.length_map] at hi hj;rw[List.getElem_map,List.getElem_map] at e;have e1:=P2.mk.inj e;exact V.v.dis i j c.l[i] c.l[j] hij (List.getElem?_eq_getElem hi) (List.getElem?_eq_getElem hj) e1
theorem qtM (P:RenP c s E) (hs:c.s.length≤70) (hn:E.length≤1000) {q:Option Ck} (h:RenR c s E q) :
 (q=none→qmd 52 c s E 18)∧(∀ o,q=some o→(o=c∧qHs 52 c s E)∨qtE 52 c s E o):=by
 obtain⟨o1,hg,hf⟩:=h;have S:=P.V.small P.tn P.td;have hl:=S.l;have a1:=qiN P.nd hn;have a2:=qjo (c:=c) (by omega) (qst P.V);have ks:=P.vs.len;obtain⟨A,t1,t2,t3,_⟩:=P.gone hg
 have hs1:o1.s.length≤70:=by rw[t3];exact hs
 have eq:=qra (s:=o1.s) (m:=s) (by omega);have AL:=(qwg A.S hs1 s (by omega)).2 (qyB A)
 rcases quI (c:=c) (s:=s) (E:=E) (qs:=qh1 (c.l.map abP)) (by omega) P.V hs P.tn P.td c.l.length 0 o1 (Nat.zero_add _) (by rw[List.drop_zero];exact hg) with ⟨e,rA⟩ | rA
 ·subst e
  rcases hf with ⟨hf,e⟩ | ⟨o2,hf,hC⟩
  ·subst e
   rcases qdc AL hf with ⟨_,e⟩ | ⟨hne,_,hal⟩ | ⟨_,o2,e,_⟩
   ·cases e
   ·replace eq:=eq.2 hne;exact⟨fun _=>qre a1 a2 rA eq hal,fun o e=>by cases e⟩
   ·cases e
  ·obtain⟨R,u1,u2⟩:=P.alter hg hf
   rcases qdc AL hf with ⟨hsm,e⟩ | ⟨_,e,_⟩ | ⟨hne,o2',e,hal⟩
   ·cases e;replace eq:=eq.1 hsm;obtain⟨i1,i2⟩:=qy0 (c:=o1) (s:=s) (H:=o1.l.map abP) hn (by omega) P.tn P.td E.length 0 q (Nat.zero_add _) (by rw[List.drop_zero];exact R) (by rw[List.drop_zero];exact hC);refine⟨fun e=>qvC a1 a2 rA eq (i2 e),fun o e=>?_⟩
    rcases i1 o e with ⟨e1,i⟩ | i
    ·exact Or.inl ⟨e1,qvl a1 a2 rA eq i⟩
    ·exact Or.inr (qvU a1 a2 rA eq i)
   ·cases e
   ·cases e;replace eq:=eq.2 hne;obtain⟨i1,i2⟩:=qjY (s:=s) (H:=o1.l.map abP) hn (by omega) E.length 0 o2 q (Nat.zero_add _) (by rw[List.drop_zero];exact R) (by rw[u1];exact P.tn) (by rw[u2];exact P.td) (by rw[List.drop_zero];exact hC);exact⟨fun e=>qwj (o2:=o2) a1 a2 rA eq hal (i2 e),fun o e=>Or.inr (qxW (o2:=o2) a1 a2 rA eq hal (i1 o e))⟩
 ·rcases hf with ⟨hf,e⟩ | ⟨o2,hf,hC⟩
  ·subst e
   rcases qdc AL hf with ⟨_,e⟩ | ⟨hne,_,hal⟩ | ⟨_,o2,e,_⟩
   ·cases e
   ·replace eq:=eq.2 hne;exact⟨fun _=>qs6 (o:=o1) a1 a2 rA eq hal,fun o e=>by cases e⟩
   ·cases e
  ·obtain⟨R,u1,u2⟩:=P.alter hg hf;obtain⟨i1,i2⟩:=qjY (s:=s) (H:=c.l.map abP) hn (by omega) E.length 0 o2 q (Nat.zero_add _) (by rw[List.drop_zero];exact R) (by rw[u1];exact P.tn) (by rw[u2];exact P.td) (by rw[List.drop_zero];exact hC)
   rcases qdc AL hf with ⟨hsm,e⟩ | ⟨_,e,_⟩ | ⟨hne,o2',e,hal⟩
   ·cases e;replace eq:=eq.1 hsm;exact⟨fun e=>quZ (o:=o1) a1 a2 rA eq (i2 e),fun o e=>Or.inr (qxu (o:=o1) a1 a2 rA eq (i1 o e))⟩
   ·cases e
   ·cases e;replace eq:=eq.2 hne;exact⟨fun e=>qyX (o:=o1) (o2:=o2) a1 a2 rA eq hal (i2 e),fun o e=>Or.inr (qwG (o:=o1) (o2:=o2) a1 a2 rA eq hal (i1 o e))⟩
theorem qrf (P:RenP c s E) (hs:c.s.length≤70) (hn:E.length≤1000) {q:Option Ck} (h:RenR c s E q) :
 (q=none→qmd 78 c s E 18)∧(∀ o,q=some o→qtE 78 c s E o):=by
 obtain⟨o1,hg,hf⟩:=h;have S:=P.V.small P.tn P.td;have hl:=S.l;obtain⟨A,t1,t2,t3,_⟩:=P.gone hg;have eq:=qlR (s:=o1.s) (m:=s) (by rw[t3];omega)
 have AL:∀ r,AlRun o1 s o1.l { o1 with d:=[] } r→(∀ o',r=some o'→qEm 146 o1 s o')∧(r=none→qmi 146 o1 s 18):=fun r hr=>qic A hr
 have TW:=qgT S (by omega);have rA:=qrR (c:=c) (s:=s) (E:=E) (by omega) hn c.l.length 0 c o1 (Nat.zero_add _) P.V P.tn P.td (by rw[List.drop_zero];exact hg)
 rcases hf with ⟨hf,e⟩ | ⟨o2,hf,hC⟩
 ·subst e
  rcases qdc AL hf with ⟨_,e⟩ | ⟨hne,_,hal⟩ | ⟨_,o2,e,_⟩
  ·cases e
  ·replace eq:=eq.2 hne;exact⟨fun _=>qvb (o:=o1) TW rA eq hal,fun o e=>by cases e⟩
  ·cases e
 ·obtain⟨R,u1,u2⟩:=P.alter hg hf;obtain⟨i1,i2⟩:=qsK (s:=s) (H:=c.l.map abP) hn E.length 0 o2 q (Nat.zero_add _) (by rw[List.drop_zero];exact R) (by rw[u1];exact P.tn) (by rw[u2];exact P.td) (by rw[List.drop_zero];exact hC)
  rcases qdc AL hf with ⟨hsm,e⟩ | ⟨_,e,_⟩ | ⟨hne,o2',e,hal⟩
  ·cases e;replace eq:=eq.1 hsm;exact⟨fun e=>qBx (o:=o1) TW rA eq (i2 e),fun o e=>qD4 (o:=o1) TW rA eq (i1 o e)⟩
  ·cases e
  ·cases e;replace eq:=eq.2 hne;exact⟨fun e=>qCP (o:=o1) (o2:=o2) TW rA eq hal (i2 e),fun o e=>qCk (o:=o1) (o2:=o2) TW rA eq hal (i1 o e)⟩
noncomputable def rwE (c:Ck) (s:List Pt) (E:List P2):Int:=open Classical in if V9 c then (if qeQ s=0 then qff s E else qeQ s) else 8
theorem qnT (h1:I64 c.tn) (h2:I64 c.td) (h:rwE c s E=0):RenP c s E:=by
 unfold rwE at h;split at h
 ·rename_i V;split at h
  ·rename_i hs;obtain⟨a,nd,b⟩:=qn2 h;exact⟨V,h1,h2,qbL.1 hs,fun g hg=>⟨a g hg,(qfM.1 (b g hg).1).2,(qfM.1 (b g hg).2).2⟩,nd⟩
  ·rename_i hs;exact (hs h).elim
 ·cases h
theorem qvT (S:S9 c) (hs:c.s.length≤1000000):Fn 76 8 [qar c] (qaA c) (qeS c) 8 (qcc c):=by
 have h1:=S.l;have h2:=S.d;have h3:=S.a.lu;have h4:=S.a.lb;have h5:=S.a.lf;have h6:=S.a.le;have h7:=S.a.lw;exact qtF (qaY (by omega)) (qdC (by omega)) (qaY (by omega)) (qnc hs) (qnL (by omega)) (qdb (qa7 c.ev) (by omega)) (qaY (by omega)) (qpF (by omega))
theorem qoR (S:S9 c) (hs:c.s.length≤70) (hn:E.length≤1000) (h:rwE c s E≠0):qmd 30 c s E (rwE c s E)∧qmd 31 c s E (rwE c s E):=by
 have p1:=qd6 S hs;have r1:=qlc S;have p2:=qcA s;have r2:=qet s;have p3:=qua (s:=s) hn;by_cases V:V9 c
 ·rw[qew V] at p1 r1;by_cases e2:qeQ s=0
  ·have e:rwE c s E=qff s E:=by unfold rwE;rw[if_pos V,if_pos e2]
   rw[e] at h ⊢;rw[e2] at p2 r2;have r3:=qgX (qbL.1 e2) hn
   have he:(qff s E !=0)=true:=by simpa using h
   exact⟨qIE p1 p2 p3 he,qFK r1 r2 r3 he⟩
  ·have e:rwE c s E=qeQ s:=by unfold rwE;rw[if_pos V,if_neg e2]
   rw[e]
   have he:(qeQ s !=0)=true:=by simpa using e2
   exact⟨qIl p1 p2 p3 he,qFY r1 r2 he⟩
 ·have e:rwE c s E=8:=by unfold rwE;rw[if_neg V]
  rw[qc6 V] at p1 r1;rw[e];exact⟨qFp p1 p2 p3 rfl,qF9 r1 rfl⟩
theorem qrq (S:S9 c) (hs:c.s.length≤70) (hn:E.length≤1000) (h:rwE c s E=0) {q:Option Ck} (hq:RenR c s E q) :
 (q=none→qmd 30 c s E 18∧qmd 31 c s E 18)∧(∀ o,q=some o→qtE 30 c s E o∧qtE 31 c s E o):=by
 have P:=qnT S.tn S.td h;have p1:=qd6 S hs;have r1:=qlc S;have p2:=qcA s;have r2:=qet s;have p3:=qua (s:=s) hn;have r3:=qgX P.vs hn
 have e3:qff s E=0:=by
  unfold rwE at h;rw[if_pos P.V,if_pos (qbL.2 P.vs)] at h;exact h
 rw[qew P.V] at p1 r1;rw[qbL.2 P.vs] at p2 r2;rw[e3] at p3 r3;have cl:=qvT S (show c.s.length≤1000000 by omega);obtain⟨a1,a2⟩:=qtM P hs hn hq;obtain⟨b1,b2⟩:=qrf P hs hn hq;refine⟨fun e=>⟨qIm p1 p2 p3 cl (a1 e),qG3 r1 r2 r3 (b1 e)⟩,fun o e=>⟨?_,qGA r1 r2 r3 (b2 o e)⟩⟩
 rcases a2 o e with ⟨e1,i⟩ | i
 ·subst e1;exact qIG p1 p2 p3 cl i
 ·exact qHH p1 p2 p3 cl i
theorem RenR.small (P:RenP c s E) {o:Ck} (h:RenR c s E (some o)):S9 o∧o.s=s:=by
 obtain⟨o1,hg,⟨_,e⟩ | ⟨o2,hf,hC⟩⟩:=h
 ·cases e
 ·obtain⟨R,u1,u2⟩:=P.alter hg hf;obtain⟨a,b,d,e⟩:=hC.ok R (by rw[u1];exact P.tn) (by rw[u2];exact P.td) o rfl;exact⟨a.small (by rw[d,u1];exact P.tn) (by rw[e,u2];exact P.td),b⟩
theorem qmm (h1:I64 c.tn) (h2:I64 c.td) (hi:∀ y∈c.ev,EvI y):Fn 5 10 [qar c,qaq 8 s,.ls 9 E.length] (qaA c++[(8,0,qaf s),(9,0,qdH E)]) (.pv (.bool true)) 0 []:=by
 have hgc:=qmH c;cases e:qiz c
 ·rw[e] at hgc;obtain⟨S,_,_,hs⟩:=qnK e h1 h2 hi
  rcases qh2 s with ⟨_,hgf⟩ | ⟨hls,hgf⟩
  ·exact qHl hgc hgf
  ·by_cases hl:E.length≤40
   ·have hl2:decide ((E.length:Int)>40)=false:=df (by omega);have TW:=qgT S (by omega);have SM:=qtU S (by omega);by_cases h0:rwE c s E=0
    ·have P:=qnT h1 h2 h0;obtain⟨q,hq⟩:=qDJ P;obtain⟨a,b⟩:=qrq S hs (by omega) h0 hq
     cases q with
     | none=>
      obtain⟨a1,a2⟩:=a rfl;exact qAw hgc hgf hl2 TW a1 a2 qok SM
     | some o=>
      obtain⟨b1,b2⟩:=b o rfl;obtain⟨So,es⟩:=RenR.small P hq;exact qGU hgc hgf hl2 TW b1 b2 (qtU So (by rw[es];omega)) SM
    ·obtain⟨a1,a2⟩:=qoR S hs (by omega) h0;exact qAw hgc hgf hl2 TW a1 a2 qok SM
   ·exact qHC hgc hgf (dt (by omega))
 ·rw[e] at hgc;exact qGy hgc
end
end Go.Proofs.YtkckcgpmnipnaaaGreat
