/-
  Package clock's find, hasBoth, checkNamed, failure, failures, hasEvent, eventsFit, partsFit and Check: what they return. Conditions: none.
-/
import Derived.Test.YtkckcgpmnipnaaaGreatBd
import Derived.Test.YtkckcgpmnipnaaaGreatW45
import Derived.Test.YtkckcgpmnipnaaaGreatW21
namespace Go.Proofs.YtkckcgpmnipnaaaGreat
set_option maxRecDepth 100000
open Go.RowKit
theorem qng {s:List Pt} (hn:s.length≤1000000) (n:Int):∃ (p:Pt) (w:Bool),Fn 265 1 [qas 0 s,.pv (iV n)] [(0,0,qad s)] (.pv (.tuple #[ptV p,.bool w])) 0 []∧(Val s→(w=true↔∃ q∈s,q.id=n)):=by
 obtain⟨k,w,k1,k2,k3,k4,k5,r⟩:=qmF hn n
 cases w
 ·refine⟨_,false,qBd (hb:=r),fun hs=>⟨fun h=>(by cases h),fun ⟨q,hq,he⟩=>?_⟩⟩
  obtain⟨j,hj⟩:=List.getElem?_of_mem hq
  have:=hs.len
  exfalso
  rcases Nat.lt_trichotomy j k with h | h | h
  ·obtain⟨g,hg⟩:=qai (l:=s) (k:=k-1) (by omega)
   have a:=k2 g (by omega) hg
   rcases Nat.lt_or_ge j (k-1) with h' | h'
   ·have:=hs.up.mono h' hj hg;omega
   ·have:k-1=j:=by omega
    rw[this,hj] at hg
    cases hg
    omega
  ·subst h
   exact k5 rfl q hj he
  ·obtain⟨g,hg⟩:=qai (l:=s) (k:=k) (by have:=qaj hj;omega)
   have:=k3 g hg
   have:=hs.up.mono h hg hj
   omega
 ·obtain⟨p,hp,he⟩:=k4 rfl
  exact⟨p,true,qm7 (hb:=r) (hk:=hp) (hin:=qak (qaj hp)),fun _=>⟨fun _=>⟨p,List.mem_of_getElem? hp,he⟩,fun _=>rfl⟩⟩
theorem qm1 {s:List Pt} (hs:Val s) {n:Int} {p:Pt} (hp:p∈s) (he:p.id=n):Fn 265 1 [qas 0 s,.pv (iV n)] [(0,0,qad s)] (.pv (.tuple #[ptV p,.bool true])) 0 []:=by
 obtain⟨k,hk⟩:=List.getElem?_of_mem hp
 have:=hs.len
 exact qm7 (hb:=qvU (by omega) hs.up hk he) (hk:=hk) (hin:=qak (qaj hk))
theorem qui {s:List Pt} (hn:s.length≤1000000) (a b:Int):∃ w:Bool,Fn 215 1 [qas 0 s,.pv (qah a b)] [(0,0,qad s)] (.pv (.bool w)) 0 []∧(Val s→(w=true↔(∃ q∈s,q.id=a)∧∃ g∈s,g.id=b)):=by
 obtain⟨p,w1,h1,e1⟩:=qng hn b
 obtain⟨q,w2,h2,e2⟩:=qng hn a
 cases w1
 ·exact⟨false,qGo (h1:=h1) (h2:=h2),fun hs=>⟨fun h=>(by cases h),fun h=>(e1 hs).2 h.2⟩⟩
 ·cases w2
  ·exact⟨false,qzy (h1:=h1) (h2:=h2),fun hs=>⟨fun h=>(by cases h),fun h=>(e2 hs).2 h.1⟩⟩
  ·exact⟨true,qB4 (h1:=h1) (h2:=h2),fun hs=>⟨fun _=>⟨(e2 hs).1 rfl,(e1 hs).1 rfl⟩,fun _=>rfl⟩⟩
abbrev ccT (l:List Pt) (k:Nat):List (Nat×SV):=[(2,.pp 2 0),(8,.ls 1 l.length),(9,.pv (iV (l.length:Int))),(10,.pv (iV (k:Int)))]
abbrev ccH (s l:List Pt):List (Nat×Nat×SV):=[(2,0,.ls 0 s.length),(0,0,qad s),(1,0,qam l)]
theorem qwy {s l:List Pt} (hn:s.length≤1000000) (hl:l.length≤1000000):∀ (n k:Nat),k+n=l.length→
 (Rl 2 2 173 0 20 4 (ccT l k) (ccH s l) .ret [(4,.pv (iV 6))] []∧(Val s→¬ qdw (l.drop k) s))∨
 (Rl 2 2 173 0 20 4 (ccT l k) (ccH s l) (.exit 0) [] []∧(Val s→qdw (l.drop k) s)):=by
 intro n
 induction n with
 | zero=>
  intro k hk
  refine Or.inr ⟨qxY (hge:=df (by omega)),fun _=>?_⟩
  rw[List.drop_eq_nil_of_le (by omega)]
  exact fun p hp=>by cases hp
 | succ n ih=>
  intro k hk
  have hlk:k<l.length:=by omega
  obtain⟨p,hp⟩:=qai hlk
  obtain⟨w,hb,e⟩:=qui hn p.a p.b
  have lk:decide ((k:Int)<(l.length:Int))=true:=dt (by omega)
  rw[qbc hp]
  cases w
  ·refine Or.inl ⟨qx5 (hk:=hp) (hin:=qak hlk) (hlt:=lk) (hb:=hb),fun hs h=>?_⟩
   have:=(e hs).2 (h p List.mem_cons_self)
   cases this
  ·rcases ih (k+1) (by omega) with ⟨r,h⟩ | ⟨r,h⟩
   ·exact Or.inl ⟨qkw (hk:=hp) (hin:=qak hlk) (hlt:=lk) (hb:=hb) (hs:=qal (by omega)) (r:=r),fun hs hk=>h hs fun q hq=>hk q (List.mem_cons_of_mem _ hq)⟩
   ·refine Or.inr ⟨qkw (hk:=hp) (hin:=qak hlk) (hlt:=lk) (hb:=hb) (hs:=qal (by omega)) (r:=r),fun hs q hq=>?_⟩
    rcases List.mem_cons.1 hq with rfl | hq
    ·exact (e hs).1 rfl
    ·exact h hs q hq
theorem qBy (x:Int) {s l:List Pt} (hn:s.length≤1000000) (hl:l.length≤1000000):∃ e:Int,Fn 173 2 [qas 0 s,qaS 1 x l] [(0,0,qad s),(1,0,qam l)] (.pv (iV e)) 0 []∧((e=0∧(Val s→qdw l s))∨(e=6∧(Val s→¬ qdw l s))):=by
 rcases qwy hn hl l.length 0 (Nat.zero_add _) with ⟨r,h⟩ | ⟨r,h⟩
 ·exact⟨6,qCF (r0:=r),Or.inr ⟨rfl,h⟩⟩
 ·exact⟨0,qA5 (r0:=r),Or.inl ⟨rfl,h⟩⟩
theorem qwj {c:Ck} {p:Pt} (hn:I64 c.tn) (hd:I64 c.td) (ht:okB c.tn c.td=true) (hs:Val c.s) (hc:qbC p.a p.b=true) (ha:∃ q∈c.s,q.id=p.a) (hb:∃ q∈c.s,q.id=p.b) :
 Fn 216 8 [qaz c,.pv (qah p.a p.b)] (qaC c) (.pv (.tuple #[qaa (qaq c.s c.tn c.td p).1 (qaq c.s c.tn c.td p).2.1,.bool (qaq c.s c.tn c.td p).2.2])) 0 []:=by
 have F:=(qc6 hn hd ht hs hc ha hb).p
 obtain⟨q,hq,ea⟩:=ha
 obtain⟨g,hg,eb⟩:=hb
 have e1:qcS c.s p.a=q:=by rw[← ea];exact qcj hs hq
 have e2:qcS c.s p.b=g:=by rw[← eb];exact qcj hs hg
 rw[e1,e2] at F
 exact cfl (h1:=qm1 hs hg eb) (h2:=qm1 hs hq ea) (hl:=F)
noncomputable abbrev fev (c:Ck) (p:Pt):Ev:=⟨(qaq c.s c.tn c.td p).1,(qaq c.s c.tn c.td p).2.1,p.id,0,0⟩
noncomputable def qcQ (c:Ck) (l:List Pt):List Ev:=(l.filter (qbm c)).map (fev c)
structure P9 (c:Ck):Prop where
 tn:I64 c.tn
 td:I64 c.td
 t:okB c.tn c.td=true
 s:Val c.s
 v:V8 c.x c.l
 k:qdw c.l c.s
theorem V9.p9 {c:Ck} (V:V9 c) (S:S9 c):P9 c:=⟨S.tn,S.td,V.t,V.s,V.v,V.k⟩
theorem P9.fl {c:Ck} (P:P9 c) {p:Pt} (hp:p∈c.l):Fn 216 8 [qaz c,.pv (qah p.a p.b)] (qaC c) (.pv (.tuple #[qaa (qaq c.s c.tn c.td p).1 (qaq c.s c.tn c.td p).2.1,.bool (qaq c.s c.tn c.td p).2.2])) 0 []:=
 qwj P.tn P.td P.t P.s (P.v.ok p hp) (P.k p hp).1 (P.k p hp).2
abbrev qH3 (c:Ck) (m k:Nat):List (Nat×SV):=[(1,.pp 8 0),(3,.ls 9 m),(10,.ls 1 c.l.length),(11,.pv (iV (c.l.length:Int))),(12,.pv (iV (k:Int)))]
abbrev qHZ (c:Ck) (m:Nat) (vs:List Value):List (Nat×Nat×SV):=qcL 8 c++[(9,0,.row 61 5 m vs)]
theorem qwR {c:Ck} (P:P9 c):∀ (n k:Nat),k+n=c.l.length→
 Rl 8 8 179 0 33 10 (qH3 c (qcQ c (c.l.take k)).length k) (qHZ c (qcQ c (c.l.take k)).length (qbf (qcQ c (c.l.take k)))) (.exit 0) [(3,.ls 9 (qcQ c c.l).length)] [(9,0,.row 61 5 (qcQ c c.l).length (qbf (qcQ c c.l)))]:=by
 intro n
 induction n with
 | zero=>
  intro k hk
  have e:k=c.l.length:=by omega
  subst e
  rw[List.take_length]
  exact qyo (hge:=df (by omega))
 | succ n ih=>
  intro k hk
  have hlk:k<c.l.length:=by omega
  have hlen:=P.v.len
  obtain⟨p,hp⟩:=qai hlk
  have W:=P.fl (List.mem_of_getElem? hp)
  have lk:decide ((k:Int)<(c.l.length:Int))=true:=dt (by omega)
  have r:=ih (k+1) (by omega)
  cases f:(qaq c.s c.tn c.td p).2.2
  ·rw[f] at W
   have e:qcQ c (c.l.take (k+1))=qcQ c (c.l.take k):=by
    unfold qcQ
    rw[qcv hp,List.filter_append,List.filter_cons_of_neg (by rw[show qbm c p=false from f];decide),List.filter_nil,List.append_nil]
   rw[e] at r
   exact qtD (hk:=hp) (hin:=qak hlk) (hlt:=lk) (hf:=W) (hs:=qal (by omega)) (r:=r)
  ·rw[f] at W
   have e:qcQ c (c.l.take (k+1))=qcQ c (c.l.take k)++[fev c p]:=by
    unfold qcQ
    rw[qcv hp,List.filter_append,List.filter_cons_of_pos (show qbm c p=true from f),List.filter_nil,List.map_append]
    rfl
   rw[e,qcD,List.length_append] at r
   have hm:(qcQ c (c.l.take k)).length≤k:=by
    unfold qcQ
    rw[List.length_map]
    exact Nat.le_trans (List.length_filter_le _ _) (by rw[List.length_take];omega)
   exact qqD (hk:=hp) (hin:=qak hlk) (hlt:=lk) (hf:=W) (hm:=by omega) (hs:=qal (by omega)) (r:=r)
theorem qz8 {c:Ck} (P:P9 c):Fn 179 8 [qaz c] (qaC c) (.ls 8 (qcQ c c.l).length) 1 [(8,0,qar (qcQ c c.l))]:=by
 have r:=qwR P c.l.length 0 (Nat.zero_add _)
 rw[List.take_zero] at r
 exact qqz (r0:=r)
theorem qG2 {y z:Ev} (h:y≠z):((y.n==z.n&&(y.d==z.d&&true))&&(y.k==z.k&&((y.i==z.i&&(y.w==z.w&&true))&&true)))=false:=by
 rw[Bool.eq_false_iff]
 intro e
 simp only[Bool.and_true,Bool.and_eq_true,beq_iff_eq] at e
 obtain⟨⟨e1,e2⟩,e3,e4,e5⟩:=e
 apply h
 cases y
 cases z
 simp only at e1 e2 e3 e4 e5
 subst e1 e2 e3 e4 e5
 rfl
theorem qC1 {c:Ck} (A:VA c.u c.b c.fr c.ev c.wh) (z:Ev):∃ w:Bool,Fn 180 5 [agA c.u c.b c.fr c.ev c.wh,.pv (qae z)] (agP c.u c.b c.fr c.ev c.wh) (.pv (.bool w)) 0 []∧(w=true↔z∈c.ev):=by
 have hl:=A.lens
 by_cases h0:0≤z.i
 ·by_cases h1:z.i<(c.wh.length:Int)
  ·obtain⟨bb,hb⟩:=qai (l:=c.b) (k:=z.i.toNat) (by omega)
   cases bb
   ·have hw:=A.free hb
    refine⟨false,qwo (h0:=dt h0) (h1:=dt h1) (hi1:=⟨h0,h1⟩) (hw1:=hw) (h2:=by decide),fun h=>(by cases h),fun h=>?_⟩
    obtain⟨j,hj⟩:=List.getElem?_of_mem h
    have:=(A.own hj).2
    rw[hw] at this
    have:=Option.some.inj this
    omega
   ·obtain⟨j,x,hw,hx,_,_⟩:=A.used hb
    have hxl:=qaj hx
    have hx':c.ev[(j:Int).toNat]?=some x:=hx
    by_cases e:x=z
    ·subst e
     exact⟨true,qvm (h0:=dt h0) (h1:=dt h1) (hi1:=⟨h0,h1⟩) (hw1:=hw) (h2:=dt (by omega)) (hi2:=qak hxl) (hy:=hx') (h3:=by simp),fun _=>List.mem_of_getElem? hx,fun _=>rfl⟩
    ·refine⟨false,qBx (h0:=dt h0) (h1:=dt h1) (hi1:=⟨h0,h1⟩) (hw1:=hw) (h2:=dt (by omega)) (hi2:=qak hxl) (hy:=hx') (h3:=qG2 e),fun h=>(by cases h),fun h=>?_⟩
     obtain⟨i,hi⟩:=List.getElem?_of_mem h
     have:=(A.own hi).2
     rw[hw] at this
     have e2:=Option.some.inj this
     have:j=i:=by omega
     subst this
     rw[hx] at hi
     exact (e (Option.some.inj hi)).elim
  ·refine⟨false,qBe (h0:=dt h0) (h1:=df h1),fun h=>(by cases h),fun h=>?_⟩
   obtain⟨j,hj⟩:=List.getElem?_of_mem h
   have:=qaj (A.own hj).2
   omega
 ·refine⟨false,qCR (h0:=df h0),fun h=>(by cases h),fun h=>?_⟩
  obtain⟨j,hj⟩:=List.getElem?_of_mem h
  exact (h0 (A.own hj).1.lo).elim
theorem qg2 {c:Ck} {l:List Pt}:∀ {d:List Pt},DueF c l d↔d.length=(l.filter (qbm c)).length∧∀ (i:Nat) (p q:Pt),(l.filter (qbm c))[i]?=some p→d[i]?=some q→∃ y,DueOk c p q y:=by
 induction l with
 | nil=>
  intro d
  constructor
  ·intro h
   have e:d=[]:=h
   subst e
   exact⟨rfl,fun i p q hp=>by simp at hp⟩
  ·intro h
   exact List.eq_nil_of_length_eq_zero h.1
 | cons p l ih=>
  intro d
  show (if (qaq c.s c.tn c.td p).2.2=true then _ else _)↔_
  by_cases f:qbm c p=true
  ·rw[if_pos (show (qaq c.s c.tn c.td p).2.2=true from f),List.filter_cons_of_pos f]
   constructor
   ·rintro⟨q,r,rfl,h1,h2⟩
    obtain⟨a,b⟩:=ih.1 h2
    refine⟨by simp[a],fun i p' q' hp hq=>?_⟩
    cases i with
    | zero=>
     simp only[List.getElem?_cons_zero,Option.some.injEq] at hp hq
     subst hp hq
     exact h1
    | succ i=>
     simp only[List.getElem?_cons_succ] at hp hq
     exact b i p' q' hp hq
   ·rintro⟨a,b⟩
    cases d with
    | nil=>simp at a
    | cons q r=>
     refine⟨q,r,rfl,b 0 p q rfl rfl,ih.2 ⟨by simpa using a,fun i p' q' hp hq=>b (i+1) p' q' ?_ ?_⟩⟩
     ·simpa using hp
     ·simpa using hq
  ·rw[if_neg (show ¬ (qaq c.s c.tn c.td p).2.2=true from f),List.filter_cons_of_neg f]
   exact ih
theorem qgH {c:Ck} (A:VA c.u c.b c.fr c.ev c.wh) {p q:Pt}:(q.id=p.id∧Ev.mk (qaq c.s c.tn c.td p).1 (qaq c.s c.tn c.td p).2.1 p.id q.a q.b∈c.ev)↔∃ y,DueOk c p q y:=by
 constructor
 ·rintro⟨h1,h2⟩
  exact⟨_,DueOk.mk' A h2 rfl rfl h1 rfl rfl rfl⟩
 ·rintro⟨y,h⟩
  obtain⟨e1,e2⟩:=h.own A
  obtain⟨j,_,hj⟩:=h.at_
  have e:y=Ev.mk (qaq c.s c.tn c.td p).1 (qaq c.s c.tn c.td p).2.1 p.id q.a q.b:=by
   have:=h.n
   have:=h.d
   have:=h.k
   cases y
   simp_all
  exact⟨h.id,e▸List.mem_of_getElem? hj⟩
abbrev ceT (n k:Nat):List (Nat×SV):=[(1,.pp 8 0),(23,.ls 9 n),(24,.pv (iV (n:Int))),(25,.pv (iV (k:Int)))]
theorem qx7 {c:Ck} {l:List Pt} {k:Nat} {p:Pt} (h:(l.filter (qbm c))[k]?=some p):(qcQ c l)[k]?=some (fev c p):=by unfold qcQ;rw[List.getElem?_map,h];rfl
theorem qvg {c:Ck} (A:VA c.u c.b c.fr c.ev c.wh) (hlen:c.l.length≤200) (hd:c.d.length=(qcQ c c.l).length):∀ (n k:Nat),k+n=(qcQ c c.l).length→
 (Rl 8 8 115 0 54 10 (ceT (qcQ c c.l).length k) (qcL 8 c++[(9,0,qar (qcQ c c.l))]) .ret [(2,.pv (.bool false))] []∧¬ ∀ (i:Nat) (p q:Pt),k≤i→(c.l.filter (qbm c))[i]?=some p→c.d[i]?=some q→∃ y,DueOk c p q y)∨
 (Rl 8 8 115 0 54 10 (ceT (qcQ c c.l).length k) (qcL 8 c++[(9,0,qar (qcQ c c.l))]) (.exit 0) [] []∧∀ (i:Nat) (p q:Pt),k≤i→(c.l.filter (qbm c))[i]?=some p→c.d[i]?=some q→∃ y,DueOk c p q y):=by
 have fl:(qcQ c c.l).length=(c.l.filter (qbm c)).length:=by unfold qcQ;rw[List.length_map]
 intro n
 induction n with
 | zero=>
  intro k hk
  exact Or.inr ⟨qvx (hge:=df (by omega)),fun i p q hi hp=>by have:=qaj hp;omega⟩
 | succ n ih=>
  intro k hk
  have hlk:k<(qcQ c c.l).length:=by omega
  have hlf:(c.l.filter (qbm c)).length≤c.l.length:=List.length_filter_le _ _
  obtain⟨p,hp⟩:=qai (l:=c.l.filter (qbm c)) (k:=k) (by omega)
  obtain⟨q,hq⟩:=qai (l:=c.d) (k:=k) (by omega)
  have hy:=qx7 hp
  have lk:decide ((k:Int)<((qcQ c c.l).length:Int))=true:=dt (by omega)
  by_cases hid:q.id=p.id
  ·obtain⟨w,hv,e⟩:=qC1 A (Ev.mk (qaq c.s c.tn c.td p).1 (qaq c.s c.tn c.td p).2.1 p.id q.a q.b)
   cases w
   ·refine Or.inl ⟨qCd (hk:=hy) (hin:=qak hlk) (hq:=hq) (hiq:=qak (qaj hq)) (hlt:=lk) (hne:=by simp[hid]) (hv:=hv),fun h=>?_⟩
    have:=e.2 ((qgH A).2 (h k p q (Nat.le_refl _) hp hq)).2
    cases this
   ·have st:=fun {e:Exit} {tm2:TmL} {hp2:HpL} (r:Rl 8 8 115 0 54 10 (ceT (qcQ c c.l).length (k+1)) (qcL 8 c++[(9,0,qar (qcQ c c.l))]) e tm2 hp2)=>qpN (hk:=hy) (hin:=qak hlk) (hq:=hq) (hiq:=qak (qaj hq)) (hlt:=lk) (hne:=by simp[hid]) (hv:=hv) (hs:=qal (by omega)) (r:=r)
    rcases ih (k+1) (by omega) with ⟨r,h⟩ | ⟨r,h⟩
    ·exact Or.inl ⟨st r,fun h'=>h fun i p' q' hi=>h' i p' q' (by omega)⟩
    ·refine Or.inr ⟨st r,fun i p' q' hi hp' hq'=>?_⟩
     rcases Nat.lt_or_ge k i with h' | h'
     ·exact h i p' q' h' hp' hq'
     ·have:i=k:=by omega
      subst this
      rw[hp] at hp'
      rw[hq] at hq'
      cases hp'
      cases hq'
      exact (qgH A).1 ⟨hid,e.1 rfl⟩
  ·refine Or.inl ⟨qxC (hk:=hy) (hin:=qak hlk) (hq:=hq) (hiq:=qak (qaj hq)) (hlt:=lk) (hne:=by simpa using hid),fun h=>?_⟩
   exact hid ((qgH A).2 (h k p q (Nat.le_refl _) hp hq)).1
theorem qCX {c:Ck} (P:P9 c) (A:VA c.u c.b c.fr c.ev c.wh):∃ w:Bool,Fn 115 8 [qaz c] (qaC c) (.pv (.bool w)) 0 []∧(w=true↔c.ev.length=c.d.length∧DueF c c.l c.d):=by
 have fl:(qcQ c c.l).length=(c.l.filter (qbm c)).length:=by unfold qcQ;rw[List.length_map]
 have F:=qz8 P
 by_cases h1:c.d.length=(qcQ c c.l).length
 ·by_cases h2:c.ev.length=(qcQ c c.l).length
  ·have n1:((c.d.length:Int) !=((qcQ c c.l).length:Int))=false:=by simp[h1]
   have n2:((c.ev.length:Int) !=((qcQ c c.l).length:Int))=false:=by simp[h2]
   rcases qvg A P.v.len h1 _ 0 (Nat.zero_add _) with ⟨r,h⟩ | ⟨r,h⟩
   ·refine⟨false,qwn (hfs:=F) (hn1:=n1) (hn2:=n2) (r0:=r),fun h=>(by cases h),fun h'=>?_⟩
    exact (h fun i p q _=>(qg2.1 h'.2).2 i p q).elim
   ·exact⟨true,qCD (hfs:=F) (hn1:=n1) (hn2:=n2) (r0:=r),fun _=>⟨by omega,qg2.2 ⟨by omega,fun i p q=>h i p q (Nat.zero_le _)⟩⟩,fun _=>rfl⟩
  ·refine⟨false,qGC (hfs:=F) (hn1:=by simp[h1]) (hn2:=by simp;omega),fun h=>(by cases h),fun h=>?_⟩
   omega
 ·refine⟨false,qEH (hfs:=F) (hn1:=by simp;omega),fun h=>(by cases h),fun h=>?_⟩
  have:=(qg2.1 h.2).1
  omega
theorem qCg {c:Ck} (S:S9 c) (hs:c.s.length≤70):∃ w:Bool,Fn 114 8 [qaz c] (qaC c) (.pv (.bool w)) 0 []∧(w=true↔P9 c∧VA c.u c.b c.fr c.ev c.wh∧c.wh.length=200):=by
 have h2:=qem c.s
 have h3:=qmA c.x c.l
 have h4:∃ e4:Int,Fn 177 5 [agA c.u c.b c.fr c.ev c.wh] (agP c.u c.b c.fr c.ev c.wh) (.pv (iV e4)) 0 []∧((e4=0∧VA c.u c.b c.fr c.ev c.wh)∨(e4=8∧¬ VA c.u c.b c.fr c.ev c.wh)):=by
  by_cases A:VA c.u c.b c.fr c.ev c.wh
  ·exact⟨0,qcX A,Or.inl ⟨rfl,A⟩⟩
  ·exact⟨8,qy3 S.a A,Or.inr ⟨rfl,A⟩⟩
 obtain⟨e4,h4,ha⟩:=h4
 have hl:=S.l
 by_cases ht:okB c.tn c.td=true
 ·have h1:=qcd S.tn S.td ht
  by_cases hv:Val c.s
  ·rw[qc0.2 hv] at h2
   by_cases h8:V8 c.x c.l
   ·rw[qfC h8] at h3
    rcases ha with ⟨rfl,A⟩ | ⟨rfl,A⟩
    ·obtain⟨e5,h5,he⟩:=qBy c.x (s:=c.s) (l:=c.l) (by omega) (by omega)
     have ul:=A.lens
     rcases he with ⟨rfl,hk⟩ | ⟨rfl,hk⟩
     ·by_cases hw:c.wh.length=200
      ·exact⟨true,qB9 (h1:=h1) (h2:=h2) (h3:=h3) (h4:=h4) (h5:=h5) (h6:=by simp;omega),fun _=>⟨⟨S.tn,S.td,ht,hv,h8,hk hv⟩,A,hw⟩,fun _=>rfl⟩
      ·exact⟨false,qEq (h1:=h1) (h2:=h2) (h3:=h3) (h4:=h4) (h5:=h5) (h6:=by simp;omega),fun h=>(by cases h),fun h=>(hw h.2.2).elim⟩
     ·exact⟨false,qE4 (h1:=h1) (h2:=h2) (h3:=h3) (h4:=h4) (h5:=h5),fun h=>(by cases h),fun h=>(hk hv h.1.k).elim⟩
    ·exact⟨false,qF4 (h1:=h1) (h2:=h2) (h3:=h3) (h4:=h4) (he:=by decide),fun h=>(by cases h),fun h=>(A h.2.1).elim⟩
   ·rw[qbx h8] at h3
    exact⟨false,qEN (h1:=h1) (h2:=h2) (h3:=h3) (h4:=h4) (he:=by decide),fun h=>(by cases h),fun h=>(h8 h.1.v).elim⟩
  ·have hne:qf7 c.s≠0:=fun e=>hv (qc0.1 e)
   exact⟨false,qGO (h1:=h1) (h2:=h2) (h3:=h3) (h4:=h4) (he:=by simpa using hne),fun h=>(by cases h),fun h=>(hv h.1.s).elim⟩
 ·exact⟨false,qFA (h1:=qfq S.tn S.td ht) (h2:=h2) (h3:=h3) (h4:=h4) (he:=by decide),fun h=>(by cases h),fun h=>(ht h.1.t).elim⟩
theorem qht {c:Ck} (S:S9 c) (hs:c.s.length≤70):Fn 57 8 [qaz c] (qaC c) (.pv (iV (qpA c))) 0 []:=by
 obtain⟨w,h1,e1⟩:=qCg S hs
 cases w
 ·rw[qdi fun V=>by have:=e1.2 ⟨V.p9 S,V.a,V.w⟩;cases this]
  exact qFX (h1:=h1)
 ·obtain⟨P,A,hw⟩:=e1.1 rfl
  obtain⟨w,h2,e2⟩:=qCX P A
  cases w
  ·rw[qdi fun V=>by have:=e2.2 ⟨V.e,V.f⟩;cases this]
   exact qGG (h1:=h1) (h2:=h2)
  ·obtain⟨he,hf⟩:=e2.1 rfl
   rw[qec ⟨P.t,P.s,P.v,P.k,A,hw,he,hf⟩]
   exact qC9 (h1:=h1) (h2:=h2)
end Go.Proofs.YtkckcgpmnipnaaaGreat
