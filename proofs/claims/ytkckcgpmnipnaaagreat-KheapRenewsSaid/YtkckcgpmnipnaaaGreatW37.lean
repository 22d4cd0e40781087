/-
  Joined: Be, Bf, Bg. Conditions: none.
-/
import Derived.Test.YtkckcgpmnipnaaaGreatW36
import Derived.Test.YtkckcgpmnipnaaaGreatW34
import Derived.Test.YtkckcgpmnipnaaaGreatW16
import Derived.Test.YtkckcgpmnipnaaaGreatW35
import Derived.Test.YtkckcgpmnipnaaaGreatW31
import Derived.Test.YtkckcgpmnipnaaaGreatW19
namespace Go.Proofs.YtkckcgpmnipnaaaGreat
set_option maxRecDepth 100000
open Go.RowKit
theorem qo5 {s:List Pt} (hn:s.length≤1000000) (n:Int):∃ (p:Pt) (w:Bool),Fn 265 1 [qaq 0 s,.pv (iV n)] [(0,0,qaf s)] (.pv (.tuple #[ptV p,.bool w])) 0 []∧(Val s→(w=true↔∃ q∈s,q.id=n)):=by
 obtain⟨k,w,k1,k2,k3,k4,k5,r⟩:=qnl hn n;cases w
 ·refine⟨_,false,qzY r,fun hs=>⟨fun h=>(by cases h),fun ⟨q,hq,he⟩=>?_⟩⟩;obtain⟨j,hj⟩:=List.getElem?_of_mem hq;have:=hs.len;exfalso
  rcases Nat.lt_trichotomy j k with h | h | h
  ·obtain⟨g,hg⟩:=qah (l:=s) (k:=k-1) (by omega);have a:=k2 g (by omega) hg
   rcases Nat.lt_or_ge j (k-1) with h' | h'
   ·have:=hs.up.mono h' hj hg;omega
   ·have:k-1=j:=by omega
    rw[this,hj] at hg;cases hg;omega
  ·subst h;exact k5 rfl q hj he
  ·obtain⟨g,hg⟩:=qah (l:=s) (k:=k) (by have:=qan hj;omega);have:=k3 g hg;have:=hs.up.mono h hg hj;omega
 ·obtain⟨p,hp,he⟩:=k4 rfl;exact⟨p,true,qor r hp (qal (qan hp)),fun _=>⟨fun _=>⟨p,List.mem_of_getElem? hp,he⟩,fun _=>rfl⟩⟩
theorem qpZ {s:List Pt} (hs:Val s) {n:Int} {p:Pt} (hp:p∈s) (he:p.id=n):Fn 265 1 [qaq 0 s,.pv (iV n)] [(0,0,qaf s)] (.pv (.tuple #[ptV p,.bool true])) 0 []:=by
 obtain⟨k,hk⟩:=List.getElem?_of_mem hp;have:=hs.len;exact qor (qv9 (by omega) hs.up hk he) hk (qal (qan hk))
theorem quf {s:List Pt} (hn:s.length≤1000000) (a b:Int):∃ w:Bool,Fn 215 1 [qaq 0 s,.pv (qae a b)] [(0,0,qaf s)] (.pv (.bool w)) 0 []∧(Val s→(w=true↔(∃ q∈s,q.id=a)∧∃ g∈s,g.id=b)):=by
 obtain⟨p,w1,h1,e1⟩:=qo5 hn b;obtain⟨q,w2,h2,e2⟩:=qo5 hn a;cases w1
 ·exact⟨false,qIB h1 h2,fun hs=>⟨fun h=>(by cases h),fun h=>(e1 hs).2 h.2⟩⟩
 ·cases w2
  ·exact⟨false,qAu h1 h2,fun hs=>⟨fun h=>(by cases h),fun h=>(e2 hs).2 h.1⟩⟩
  ·exact⟨true,qAe h1 h2,fun hs=>⟨fun _=>⟨(e2 hs).1 rfl,(e1 hs).1 rfl⟩,fun _=>rfl⟩⟩
abbrev ccT (l:List Pt) (k:Nat):List (Nat×SV):=[(2,.pp 2 0),(8,.ls 1 l.length),(9,.pv (iV (l.length:Int))),(10,.pv (iV (k:Int)))]
abbrev ccH (s l:List Pt):List (Nat×Nat×SV):=[(2,0,.ls 0 s.length),(0,0,qaf s),(1,0,qak l)]
theorem qyu {s l:List Pt} (hn:s.length≤1000000) (hl:l.length≤1000000):∀ (n k:Nat),k+n=l.length→
 (Rl 2 2 173 0 20 4 (ccT l k) (ccH s l) .ret [(4,.pv (iV 6))] []∧(Val s→¬ qdl (l.drop k) s))∨
 (Rl 2 2 173 0 20 4 (ccT l k) (ccH s l) (.exit 0) [] []∧(Val s→qdl (l.drop k) s)):=by
 intro n
 induction n with
 | zero=>
  intro k hk;refine Or.inr ⟨qwT (df (by omega)),fun _=>?_⟩;rw[List.drop_eq_nil_of_le (by omega)]
  exact fun p hp=>by cases hp
 | succ n ih=>
  intro k hk
  have hlk:k<l.length:=by omega
  obtain⟨p,hp⟩:=qah hlk;obtain⟨w,hb,e⟩:=quf hn p.a p.b;have lk:decide ((k:Int)<(l.length:Int))=true:=dt (by omega);rw[qaP hp];cases w
  ·refine Or.inl ⟨qxs hp (qal hlk) lk hb,fun hs h=>?_⟩;have:=(e hs).2 (h p List.mem_cons_self);cases this
  ·rcases ih (k+1) (by omega) with ⟨r,h⟩ | ⟨r,h⟩
   ·exact Or.inl ⟨qkX hp (qal hlk) lk hb (qag (by omega)) r,fun hs hk=>h hs fun q hq=>hk q (List.mem_cons_of_mem _ hq)⟩
   ·refine Or.inr ⟨qkX hp (qal hlk) lk hb (qag (by omega)) r,fun hs q hq=>?_⟩
    rcases List.mem_cons.1 hq with rfl | hq
    ·exact (e hs).1 rfl
    ·exact h hs q hq
theorem qt0 (x:Int) {s l:List Pt} (hn:s.length≤1000000) (hl:l.length≤1000000):∃ e:Int,Fn 173 2 [qaq 0 s,qaU 1 x l] [(0,0,qaf s),(1,0,qak l)] (.pv (iV e)) 0 []∧((e=0∧(Val s→qdl l s))∨(e=6∧(Val s→¬ qdl l s))):=by
 rcases qyu hn hl l.length 0 (Nat.zero_add _) with ⟨r,h⟩ | ⟨r,h⟩
 ·exact⟨6,qBY r,Or.inr ⟨rfl,h⟩⟩
 ·exact⟨0,qCX r,Or.inl ⟨rfl,h⟩⟩
theorem qxI {c:Ck} {p:Pt} (hn:I64 c.tn) (hd:I64 c.td) (ht:okB c.tn c.td=true) (hs:Val c.s) (hc:qby p.a p.b=true) (ha:∃ q∈c.s,q.id=p.a) (hb:∃ q∈c.s,q.id=p.b) :
 Fn 216 8 [qar c,.pv (qae p.a p.b)] (qaA c) (.pv (.tuple #[qab (qai c.s c.tn c.td p).1 (qai c.s c.tn c.td p).2.1,.bool (qai c.s c.tn c.td p).2.2])) 0 []:=by
 have F:=(qcf hn hd ht hs hc ha hb).p;obtain⟨q,hq,ea⟩:=ha;obtain⟨g,hg,eb⟩:=hb
 have e1:qeN c.s p.a=q:=by rw[← ea];exact qee hs hq
 have e2:qeN c.s p.b=g:=by rw[← eb];exact qee hs hg
 rw[e1,e2] at F;exact cfl (qpZ hs hg eb) (qpZ hs hq ea) F
noncomputable abbrev fev (c:Ck) (p:Pt):Ev:=⟨(qai c.s c.tn c.td p).1,(qai c.s c.tn c.td p).2.1,p.id,0,0⟩
noncomputable def qcU (c:Ck) (l:List Pt):List Ev:=(l.filter (qa6 c)).map (fev c)
structure P9 (c:Ck):Prop where
 tn:I64 c.tn
 td:I64 c.td
 t:okB c.tn c.td=true
 s:Val c.s
 v:V8 c.x c.l
 k:qdl c.l c.s
theorem V9.p9 {c:Ck} (V:V9 c) (S:S9 c):P9 c:=⟨S.tn,S.td,V.t,V.s,V.v,V.k⟩
theorem P9.fl {c:Ck} (P:P9 c) {p:Pt} (hp:p∈c.l):Fn 216 8 [qar c,.pv (qae p.a p.b)] (qaA c) (.pv (.tuple #[qab (qai c.s c.tn c.td p).1 (qai c.s c.tn c.td p).2.1,.bool (qai c.s c.tn c.td p).2.2])) 0 []:=
 qxI P.tn P.td P.t P.s (P.v.ok p hp) (P.k p hp).1 (P.k p hp).2
abbrev qJB (c:Ck) (m k:Nat):List (Nat×SV):=[(1,.pp 8 0),(3,.ls 9 m),(10,.ls 1 c.l.length),(11,.pv (iV (c.l.length:Int))),(12,.pv (iV (k:Int)))]
abbrev qJH (c:Ck) (m:Nat) (vs:List Value):List (Nat×Nat×SV):=qcb 8 c++[(9,0,.row 61 5 m vs)]
theorem qvi {c:Ck} (P:P9 c):∀ (n k:Nat),k+n=c.l.length→
 Rl 8 8 179 0 33 10 (qJB c (qcU c (c.l.take k)).length k) (qJH c (qcU c (c.l.take k)).length (qau (qcU c (c.l.take k)))) (.exit 0) [(3,.ls 9 (qcU c c.l).length)] [(9,0,.row 61 5 (qcU c c.l).length (qau (qcU c c.l)))]:=by
 intro n
 induction n with
 | zero=>
  intro k hk
  have e:k=c.l.length:=by omega
  subst e;rw[List.take_length];exact qxR (df (by omega))
 | succ n ih=>
  intro k hk
  have hlk:k<c.l.length:=by omega
  have hlen:=P.v.len;obtain⟨p,hp⟩:=qah hlk;have W:=P.fl (List.mem_of_getElem? hp);have lk:decide ((k:Int)<(c.l.length:Int))=true:=dt (by omega);have r:=ih (k+1) (by omega);cases f:(qai c.s c.tn c.td p).2.2
  ·rw[f] at W
   have e:qcU c (c.l.take (k+1))=qcU c (c.l.take k):=by
    unfold qcU;rw[qb0 hp,List.filter_append,List.filter_cons_of_neg (by rw[show qa6 c p=false from f];decide),List.filter_nil,List.append_nil]
   rw[e] at r;exact qq2 hp (qal hlk) lk W (qag (by omega)) r
  ·rw[f] at W
   have e:qcU c (c.l.take (k+1))=qcU c (c.l.take k)++[fev c p]:=by
    unfold qcU;rw[qb0 hp,List.filter_append,List.filter_cons_of_pos (show qa6 c p=true from f),List.filter_nil,List.map_append];rfl
   rw[e,qcL,List.length_append] at r
   have hm:(qcU c (c.l.take k)).length≤k:=by
    unfold qcU;rw[List.length_map];exact Nat.le_trans (List.length_filter_le _ _) (by rw[List.length_take];omega)
   exact qsN hp (qal hlk) lk W (by omega) (qag (by omega)) r
theorem qCL {c:Ck} (P:P9 c):Fn 179 8 [qar c] (qaA c) (.ls 8 (qcU c c.l).length) 1 [(8,0,qap (qcU c c.l))]:=by
 have r:=qvi P c.l.length 0 (Nat.zero_add _);rw[List.take_zero] at r;exact qtA r
theorem qGu {y z:Ev} (h:y≠z):((y.n==z.n&&(y.d==z.d&&true))&&(y.k==z.k&&((y.i==z.i&&(y.w==z.w&&true))&&true)))=false:=by
 rw[Bool.eq_false_iff];intro e;simp only[Bool.and_true,Bool.and_eq_true,beq_iff_eq] at e;obtain⟨⟨e1,e2⟩,e3,e4,e5⟩:=e;apply h;cases y;cases z;simp only at e1 e2 e3 e4 e5;subst e1 e2 e3 e4 e5;rfl
theorem qD7 {c:Ck} (A:VA c.u c.b c.fr c.ev c.wh) (z:Ev):∃ w:Bool,Fn 180 5 [agA c.u c.b c.fr c.ev c.wh,.pv (qaa z)] (agP c.u c.b c.fr c.ev c.wh) (.pv (.bool w)) 0 []∧(w=true↔z∈c.ev):=by
 have hl:=A.lens;by_cases h0:0≤z.i
 ·by_cases h1:z.i<(c.wh.length:Int)
  ·obtain⟨bb,hb⟩:=qah (l:=c.b) (k:=z.i.toNat) (by omega);cases bb
   ·have hw:=A.free hb;refine⟨false,qyl (dt h0) (dt h1) ⟨h0,h1⟩ hw (by decide),fun h=>(by cases h),fun h=>?_⟩;obtain⟨j,hj⟩:=List.getElem?_of_mem h;have:=(A.own hj).2;rw[hw] at this;have:=Option.some.inj this;omega
   ·obtain⟨j,x,hw,hx,_,_⟩:=A.used hb;have hxl:=qan hx;have hx':c.ev[(j:Int).toNat]?=some x:=hx;by_cases e:x=z
    ·subst e;exact⟨true,qv3 (dt h0) (dt h1) ⟨h0,h1⟩ hw (dt (by omega)) (qal hxl) hx' (by simp),fun _=>List.mem_of_getElem? hx,fun _=>rfl⟩
    ·refine⟨false,qz3 (dt h0) (dt h1) ⟨h0,h1⟩ hw (dt (by omega)) (qal hxl) hx' (qGu e),fun h=>(by cases h),fun h=>?_⟩;obtain⟨i,hi⟩:=List.getElem?_of_mem h;have:=(A.own hi).2;rw[hw] at this;have e2:=Option.some.inj this
     have:j=i:=by omega
     subst this;rw[hx] at hi;exact (e (Option.some.inj hi)).elim
  ·refine⟨false,qC6 (dt h0) (df h1),fun h=>(by cases h),fun h=>?_⟩;obtain⟨j,hj⟩:=List.getElem?_of_mem h;have:=qan (A.own hj).2;omega
 ·refine⟨false,qzK (df h0),fun h=>(by cases h),fun h=>?_⟩;obtain⟨j,hj⟩:=List.getElem?_of_mem h;exact (h0 (A.own hj).1.lo).elim
theorem qfa {c:Ck} {l:List Pt}:∀ {d:List Pt},DueF c l d↔d.length=(l.filter (qa6 c)).length∧∀ (i:Nat) (p q:Pt),(l.filter (qa6 c))[i]?=some p→d[i]?=some q→∃ y,DueOk c p q y:=by
 induction l with
 | nil=>
  intro d;constructor
  ·intro h;have e:d=[]:=h;subst e;exact⟨rfl,fun i p q hp=>by simp at hp⟩
  ·intro h;exact List.eq_nil_of_length_eq_zero h.1
 | cons p l ih=>
  intro d
  show (if (qai c.s c.tn c.td p).2.2=true then _ else _)↔_
  by_cases f:qa6 c p=true
  ·rw[if_pos (show (qai c.s c.tn c.td p).2.2=true from f),List.filter_cons_of_pos f];constructor
   ·rintro⟨q,r,rfl,h1,h2⟩;obtain⟨a,b⟩:=ih.1 h2;refine⟨by simp[a],fun i p' q' hp hq=>?_⟩
    cases i with
    | zero=>
     simp only[List.getElem?_cons_zero,Option.some.injEq] at hp hq;subst hp hq;exact h1
    | succ i=>
     simp only[List.getElem?_cons_succ] at hp hq;exact b i p' q' hp hq
   ·rintro⟨a,b⟩
    cases d with
    | nil=>simp at a
    | cons q r=>
     refine⟨q,r,rfl,b 0 p q rfl rfl,ih.2 ⟨by simpa using a,fun i p' q' hp hq=>b (i+1) p' q' ?_ ?_⟩⟩
     ·simpa using hp
     ·simpa using hq
  ·rw[if_neg (show ¬ (qai c.s c.tn c.td p).2.2=true from f),List.filter_cons_of_neg f];exact ih
theorem qhk {c:Ck} (A:VA c.u c.b c.fr c.ev c.wh) {p q:Pt}:(q.id=p.id∧Ev.mk (qai c.s c.tn c.td p).1 (qai c.s c.tn c.td p).2.1 p.id q.a q.b∈c.ev)↔∃ y,DueOk c p q y:=by
 constructor
 ·rintro⟨h1,h2⟩;exact⟨_,DueOk.mk' A h2 rfl rfl h1 rfl rfl rfl⟩
 ·rintro⟨y,h⟩;obtain⟨e1,e2⟩:=h.own A;obtain⟨j,_,hj⟩:=h.at_
  have e:y=Ev.mk (qai c.s c.tn c.td p).1 (qai c.s c.tn c.td p).2.1 p.id q.a q.b:=by
   have:=h.n;have:=h.d;have:=h.k;cases y;simp_all
  exact⟨h.id,e▸List.mem_of_getElem? hj⟩
abbrev ceT (n k:Nat):List (Nat×SV):=[(1,.pp 8 0),(23,.ls 9 n),(24,.pv (iV (n:Int))),(25,.pv (iV (k:Int)))]
theorem qwa {c:Ck} {l:List Pt} {k:Nat} {p:Pt} (h:(l.filter (qa6 c))[k]?=some p):(qcU c l)[k]?=some (fev c p):=by unfold qcU;rw[List.getElem?_map,h];rfl
theorem qv6 {c:Ck} (A:VA c.u c.b c.fr c.ev c.wh) (hlen:c.l.length≤200) (hd:c.d.length=(qcU c c.l).length):∀ (n k:Nat),k+n=(qcU c c.l).length→
 (Rl 8 8 115 0 54 10 (ceT (qcU c c.l).length k) (qcb 8 c++[(9,0,qap (qcU c c.l))]) .ret [(2,.pv (.bool false))] []∧¬ ∀ (i:Nat) (p q:Pt),k≤i→(c.l.filter (qa6 c))[i]?=some p→c.d[i]?=some q→∃ y,DueOk c p q y)∨
 (Rl 8 8 115 0 54 10 (ceT (qcU c c.l).length k) (qcb 8 c++[(9,0,qap (qcU c c.l))]) (.exit 0) [] []∧∀ (i:Nat) (p q:Pt),k≤i→(c.l.filter (qa6 c))[i]?=some p→c.d[i]?=some q→∃ y,DueOk c p q y):=by
 have fl:(qcU c c.l).length=(c.l.filter (qa6 c)).length:=by unfold qcU;rw[List.length_map]
 intro n
 induction n with
 | zero=>
  intro k hk;exact Or.inr ⟨qyT (df (by omega)),fun i p q hi hp=>by have:=qan hp;omega⟩
 | succ n ih=>
  intro k hk
  have hlk:k<(qcU c c.l).length:=by omega
  have hlf:(c.l.filter (qa6 c)).length≤c.l.length:=List.length_filter_le _ _;obtain⟨p,hp⟩:=qah (l:=c.l.filter (qa6 c)) (k:=k) (by omega);obtain⟨q,hq⟩:=qah (l:=c.d) (k:=k) (by omega);have hy:=qwa hp;have lk:decide ((k:Int)<((qcU c c.l).length:Int))=true:=dt (by omega);by_cases hid:q.id=p.id
  ·obtain⟨w,hv,e⟩:=qD7 A (Ev.mk (qai c.s c.tn c.td p).1 (qai c.s c.tn c.td p).2.1 p.id q.a q.b);cases w
   ·refine Or.inl ⟨qCt hy (qal hlk) hq (qal (qan hq)) lk (by simp[hid]) hv,fun h=>?_⟩;have:=e.2 ((qhk A).2 (h k p q (Nat.le_refl _) hp hq)).2;cases this
   ·have st:=fun {e:Exit} {tm2:TmL} {hp2:HpL} (r:Rl 8 8 115 0 54 10 (ceT (qcU c c.l).length (k+1)) (qcb 8 c++[(9,0,qap (qcU c c.l))]) e tm2 hp2)=>qsl hy (qal hlk) hq (qal (qan hq)) lk (by simp[hid]) hv (qag (by omega)) r
    rcases ih (k+1) (by omega) with ⟨r,h⟩ | ⟨r,h⟩
    ·exact Or.inl ⟨st r,fun h'=>h fun i p' q' hi=>h' i p' q' (by omega)⟩
    ·refine Or.inr ⟨st r,fun i p' q' hi hp' hq'=>?_⟩
     rcases Nat.lt_or_ge k i with h' | h'
     ·exact h i p' q' h' hp' hq'
     ·have:i=k:=by omega
      subst this;rw[hp] at hp';rw[hq] at hq';cases hp';cases hq';exact (qhk A).1 ⟨hid,e.1 rfl⟩
  ·refine Or.inl ⟨quO hy (qal hlk) hq (qal (qan hq)) lk (by simpa using hid),fun h=>?_⟩;exact hid ((qhk A).2 (h k p q (Nat.le_refl _) hp hq)).1
theorem qzH {c:Ck} (P:P9 c) (A:VA c.u c.b c.fr c.ev c.wh):∃ w:Bool,Fn 115 8 [qar c] (qaA c) (.pv (.bool w)) 0 []∧(w=true↔c.ev.length=c.d.length∧DueF c c.l c.d):=by
 have fl:(qcU c c.l).length=(c.l.filter (qa6 c)).length:=by unfold qcU;rw[List.length_map]
 have F:=qCL P;by_cases h1:c.d.length=(qcU c c.l).length
 ·by_cases h2:c.ev.length=(qcU c c.l).length
  ·have n1:((c.d.length:Int) !=((qcU c c.l).length:Int))=false:=by simp[h1]
   have n2:((c.ev.length:Int) !=((qcU c c.l).length:Int))=false:=by simp[h2]
   rcases qv6 A P.v.len h1 _ 0 (Nat.zero_add _) with ⟨r,h⟩ | ⟨r,h⟩
   ·refine⟨false,qxb F n1 n2 r,fun h=>(by cases h),fun h'=>?_⟩;exact (h fun i p q _=>(qfa.1 h'.2).2 i p q).elim
   ·exact⟨true,qCJ F n1 n2 r,fun _=>⟨by omega,qfa.2 ⟨by omega,fun i p q=>h i p q (Nat.zero_le _)⟩⟩,fun _=>rfl⟩
  ·refine⟨false,qF0 F (by simp[h1]) (by simp;omega),fun h=>(by cases h),fun h=>?_⟩;omega
 ·refine⟨false,qFF F (by simp;omega),fun h=>(by cases h),fun h=>?_⟩;have:=(qfa.1 h.2).1;omega
theorem qA8 {c:Ck} (S:S9 c) (hs:c.s.length≤70):∃ w:Bool,Fn 114 8 [qar c] (qaA c) (.pv (.bool w)) 0 []∧(w=true↔P9 c∧VA c.u c.b c.fr c.ev c.wh∧c.wh.length=200):=by
 have h2:=qcA c.s;have h3:=qhH c.x c.l
 have h4:∃ e4:Int,Fn 177 5 [agA c.u c.b c.fr c.ev c.wh] (agP c.u c.b c.fr c.ev c.wh) (.pv (iV e4)) 0 []∧((e4=0∧VA c.u c.b c.fr c.ev c.wh)∨(e4=8∧¬ VA c.u c.b c.fr c.ev c.wh)):=by
  by_cases A:VA c.u c.b c.fr c.ev c.wh
  ·exact⟨0,qcX A,Or.inl ⟨rfl,A⟩⟩
  ·exact⟨8,qx4 S.a A,Or.inr ⟨rfl,A⟩⟩
 obtain⟨e4,h4,ha⟩:=h4;have hl:=S.l;by_cases ht:okB c.tn c.td=true
 ·have h1:=qcG S.tn S.td ht;by_cases hv:Val c.s
  ·rw[qbL.2 hv] at h2;by_cases h8:V8 c.x c.l
   ·rw[qdt h8] at h3
    rcases ha with ⟨rfl,A⟩ | ⟨rfl,A⟩
    ·obtain⟨e5,h5,he⟩:=qt0 c.x (s:=c.s) (l:=c.l) (by omega) (by omega);have ul:=A.lens
     rcases he with ⟨rfl,hk⟩ | ⟨rfl,hk⟩
     ·by_cases hw:c.wh.length=200
      ·exact⟨true,qDX h1 h2 h3 h4 h5 (by simp;omega),fun _=>⟨⟨S.tn,S.td,ht,hv,h8,hk hv⟩,A,hw⟩,fun _=>rfl⟩
      ·exact⟨false,qHd h1 h2 h3 h4 h5 (by simp;omega),fun h=>(by cases h),fun h=>(hw h.2.2).elim⟩
     ·exact⟨false,qFD h1 h2 h3 h4 h5,fun h=>(by cases h),fun h=>(hk hv h.1.k).elim⟩
    ·exact⟨false,qFd h1 h2 h3 h4 (by decide),fun h=>(by cases h),fun h=>(A h.2.1).elim⟩
   ·rw[qbH h8] at h3;exact⟨false,qFt h1 h2 h3 h4 (by decide),fun h=>(by cases h),fun h=>(h8 h.1.v).elim⟩
  ·have hne:qeQ c.s≠0:=fun e=>hv (qbL.1 e)
   exact⟨false,qHa h1 h2 h3 h4 (by simpa using hne),fun h=>(by cases h),fun h=>(hv h.1.s).elim⟩
 ·exact⟨false,qGq (qi0 S.tn S.td ht) h2 h3 h4 (by decide),fun h=>(by cases h),fun h=>(ht h.1.t).elim⟩
theorem qd6 {c:Ck} (S:S9 c) (hs:c.s.length≤70):Fn 57 8 [qar c] (qaA c) (.pv (iV (qp9 c))) 0 []:=by
 obtain⟨w,h1,e1⟩:=qA8 S hs;cases w
 ·rw[qc6 fun V=>by have:=e1.2 ⟨V.p9 S,V.a,V.w⟩;cases this];exact qFa h1
 ·obtain⟨P,A,hw⟩:=e1.1 rfl;obtain⟨w,h2,e2⟩:=qzH P A;cases w
  ·rw[qc6 fun V=>by have:=e2.2 ⟨V.e,V.f⟩;cases this];exact qFz h1 h2
  ·obtain⟨he,hf⟩:=e2.1 rfl;rw[qew ⟨P.t,P.s,P.v,P.k,A,hw,he,hf⟩];exact qDd h1 h2
end Go.Proofs.YtkckcgpmnipnaaaGreat

namespace Go.Proofs.YtkckcgpmnipnaaaGreat
set_option maxRecDepth 100000
open Go.RowKit
theorem qhu {f:FuncId} {e:TypeId} {es n:Nat} {xs:List Value} (hx:xs.length=n*es)
 (pth:0<n→Fn f 1 [.ls 0 n] [(0,0,.row e es n xs)] (.ls 1 n) 1 [(1,0,.row e es n xs)])
 (pe:∀ ad c,Fn f 0 [.pv (.slice (some ad) 0 c)] [] (.ls 0 0) 1 [(0,0,.row e es 0 [])])
 (pn:∀ c,Pure Tryz.prog f #[.slice none 0 c] (.slice none 0 0)):Fn f 1 [.ls 0 n] [(0,0,.row e es n xs)] (.ls 1 n) 1 [(1,0,.row e es n xs)]:=by
 rcases Nat.eq_zero_or_pos n with h | h
 ·subst h;obtain rfl:=List.eq_nil_of_length_eq_zero (by simpa using hx);intro w β us hH hd hargs
  match us,hargs with
  | [v],⟨⟨_,a,c,hv⟩,_⟩=>
   have hd1:=hd 1 (Nat.le_refl _)
   cases a with
   | none=>
    subst hv
    refine (pn c w).mono fun e' w' ⟨he,hg⟩=>?_
    have ho:w'.ownsRow w.heap.size e es (.slice none 0 0) 0 []:=⟨by simp,Or.inl ⟨rfl,rfl⟩⟩;exact⟨_,β.setG 1 (.slice none 0 0),he,Bl.le_setG hd1.1 hd1.2,⟨Bl.setG_same _ _ _,none,0,rfl⟩,qdd hH hd hg ho (fun v hv=>by cases hv),qcy hd⟩
   | some ad=>
    subst hv
    refine (pe ad c w Bl.no [.slice (some ad) 0 c] (qey w) (fun _ _=>⟨rfl,rfl⟩) ⟨rfl,tI⟩).mono fun e' w' ⟨v,β',he,_,⟨hx,a',c',hv⟩,hh,_⟩=>?_
    obtain⟨u,hu,hr⟩:=hh.rows 0 0 _ _ _ _ rfl;rw[hx] at hu;cases hu;exact⟨_,β.setG 1 v,he,Bl.le_setG hd1.1 hd1.2,⟨Bl.setG_same _ _ _,a',c',hv⟩,qdd hH hd hh.gr (hr.own (Nat.le_refl _)) (fun v hv=>by cases hv),qcy hd⟩
 ·exact pth h
theorem qnc {l:List Pt} (hn:l.length≤1000000):Fn 141 1 [.ls 0 l.length] [(0,0,qaf l)] (.ls 1 l.length) 1 [(1,0,qaf l)]:=
 qhu (qbf l) (fun h=>qmS h (by omega)) (fun ad c=>qwz) (fun c=>qpT)
theorem qnL {l:List Pt} (hn:l.length≤1000000):Fn 142 1 [.ls 0 l.length] [(0,0,qak l)] (.ls 1 l.length) 1 [(1,0,qak l)]:=
 qhu (qbf l) (fun h=>qsy h (by omega)) (fun ad c=>qHN) (fun c=>qu9)
theorem qpF {l:List Pt} (hn:l.length≤1000000):Fn 144 1 [.ls 0 l.length] [(0,0,qaH l)] (.ls 1 l.length) 1 [(1,0,qaH l)]:=
 qhu (qbf l) (fun h=>qqB h (by omega)) (fun ad c=>qFB) (fun c=>qyn)
theorem qnR {s:List Pt} (hn:s.length≤1000000):Fn 103 1 [qaq 0 s] [(0,0,qaf s)] (.ag [.ls 1 s.length]) 1 [(1,0,qaf s)]:=ccf (qnc hn)
theorem qjl {c:Ck} (S:S9 c) (hs:c.s.length≤1000000):Fn 131 8 [qar c] (qaA c) (qeS c) 8 (qcc c):=by
 have h1:=S.l;have h2:=S.d;have h3:=S.a.lu;have h4:=S.a.lb;have h5:=S.a.lf;have h6:=S.a.le;have h7:=S.a.lw;exact ccl (qnR hs) (qnL (by omega)) (cca (qaY (by omega)) (qdC (by omega)) (qaY (by omega)) (qdb (qa7 c.ev) (by omega)) (qaY (by omega))) (qpF (by omega))
theorem qj2 {l:List Pt} (hn:l.length≤1000000) (hu:Up l) {n:Int} {k:Nat} {p:Pt} (hk:l[k]?=some p) (he:p.id=n):Fn 217 1 [.ls 0 l.length,.pv (iV n)] [(0,0,qaH l)] (.pv (.tuple #[iV (k:Int),.bool true])) 0 []:=cfd (qu4 hn hu hk he)
theorem qk4 {l:List Pt} (hn:l.length≤1000000) (hu:Up l) {n:Int} (h:∀ p∈l,p.id≠n):∃ k,k≤l.length∧(∀ (t:Nat) (p:Pt),t<k→l[t]?=some p→p.id<n)∧(∀ (t:Nat) (p:Pt),k≤t→l[t]?=some p→n<p.id)∧
 Fn 217 1 [.ls 0 l.length,.pv (iV n)] [(0,0,qaH l)] (.pv (.tuple #[iV (k:Int),.bool false])) 0 []:=by
 obtain⟨k,h1,h2,h3,r⟩:=qtn hn hu h;exact⟨k,h1,h2,h3,cfd r⟩
theorem qJq {l:List Pt} (hn:l.length≤1000) {k:Nat} (hk:k<l.length):Fn 242 2 [.ps 1 0 2 2] [(1,0,.lq 0 3 0 k),(1,1,.lq 0 3 (0+(k+1)) (l.length-(k+1))),(0,0,qaH l)] (.ls 2 (l.take k++l.drop (k+1)).length) 1 [(2,0,qaH (l.take k++l.drop (k+1)))]:=by
 by_cases hz:l.length=1
 ·refine qz2 (s1:=(k:Int)) (s2:=((k+(l.length-(k+1)):Nat):Int)) (qcm (by omega) (by omega) (by omega)) (df (by omega)) (qcm (by omega) (by omega) (by omega)) (df (by omega)) (?_) (by omega) (by omega) (by omega);rw[show ((k+(l.length-(k+1)):Nat):Int)=0 by omega];exact qFS (df (by omega)) (by rw[qas (by omega) (by omega)];rfl) (df (by omega))
 ·exact qDu (s1:=(k:Int)) (s2:=((k+(l.length-(k+1)):Nat):Int)) (q1:=qcm (by omega) (by omega) (by omega)) (n1:=df (by omega)) (q2:=qcm (by omega) (by omega) (by omega)) (n2:=df (by omega))
   (hgr:=qAr (df (by omega)) (by rw[qas (by omega) (by omega)];congr 1<;>omega) (dt (by omega)) (by omega) (by omega)) (a1:=by omega) (a2:=by omega) (hkl1:=by omega)
theorem qJo {l:List Pt} (hn:l.length≤1000) {k:Nat} (hk:k≤l.length) (n hi hw:Int):Fn 242 3 [.ps 2 0 3 3] [(2,0,.lq 0 3 0 k),(2,1,.ps 1 0 1 1),(2,2,.lq 0 3 (0+k) (l.length-k)),(1,0,.pv (iV n)),(1,1,.pv (iV hi)),(1,2,.pv (iV hw)),(0,0,qaH l)] (.ls 3 (l.take k++Pt.mk n hi hw::l.drop k).length) 1 [(3,0,qaH (l.take k++Pt.mk n hi hw::l.drop k))]:=
 qJU (s1:=(k:Int)) (s2:=((k+1:Nat):Int)) (s3:=((k+1+(l.length-k):Nat):Int)) (q1:=qcm (by omega) (by omega) (by omega)) (n1:=df (by omega)) (q2:=qcm (by omega) (by omega) (by omega)) (n2:=df (by omega)) (q3:=qcm (by omega) (by omega) (by omega)) (n3:=df (by omega))
  (hgr:=qAr (df (by omega)) (by rw[qas (by omega) (by omega)];congr 1<;>omega) (dt (by omega)) (by omega) (by omega)) (a1:=by omega) (a2:=by omega) (a3:=by omega) (hkl:=hk)
structure T9 (c:Ck):Prop where
 p:P9 c
 a:VA c.u c.b c.fr c.ev c.wh
 u:Up c.d
 l:c.d.length≤1000
theorem V9.t9 {c:Ck} (V:V9 c) (S:S9 c):T9 c:=⟨V.p9 S,V.a,V.due_up,by have:=S.d;omega⟩
theorem qDZ {c:Ck} (T:T9 c) {n:Int} (h:∀ q∈c.d,q.id≠n):Fn 192 8 [qar c,.pv (iV n)] (qaA c) (qar c) 0 []:=by
 have hl:=T.l;obtain⟨k,_,_,_,r⟩:=qk4 (by omega) T.u h;exact qHD r
abbrev qIy (o:Ck):List (Nat×Nat×SV):=[(8,0,zrI o.u),(9,0,zrB o.b),(10,0,zrI o.fr),(11,0,qap o.ev),(12,0,zrI o.wh)]
abbrev qvD (o:Ck) (d:List Pt):List (Nat×Nat×SV):=[(8,0,zrI o.u),(9,0,zrB o.b),(10,0,zrI o.fr),(11,0,qap o.ev),(12,0,zrI o.wh),(13,0,qaH d)]
abbrev qhg (c:Ck) (j:Nat) (y:Ev):Ck:={ c with b:=c.b.set y.i.toNat false,fr:=c.fr++[y.i],ev:=(qam c.ev c.wh j y).1,wh:=(qam c.ev c.wh j y).2 }
abbrev qBa (c:Ck) (j:Nat) (y:Ev) (n d:Int):Ck:={ c with ev:=(qaW c.ev c.wh j y n d).1,wh:=(qaW c.ev c.wh j y n d).2 }
abbrev qmf (c:Ck) (u2 f2:List Int) (b2:List Bool) (n d k hi hw:Int):Ck:={ c with u:=u2,b:=b2,fr:=f2,ev:=(qa2 c.ev c.wh ⟨n,d,k,hi,hw⟩).1,wh:=(qa2 c.ev c.wh ⟨n,d,k,hi,hw⟩).2 }
theorem quj {c:Ck} (T:T9 c) {n:Int} {k j:Nat} {q:Pt} {y:Ev} (hq:c.d[k]?=some q) (he:q.id=n) (hy:c.ev[j]?=some y) (e1:y.i=q.a) (e2:y.w=q.b):Fn 192 8 [qar c,.pv (iV n)] (qaA c) (qED c (qhg c j y) (c.d.take k++c.d.drop (k+1))) 6 (qvD (qhg c j y) (c.d.take k++c.d.drop (k+1))):=by
 have hl:=T.l;have hk:=qan hq;obtain⟨h1,h2⟩:=VA.own T.a hy;rw[e1,e2] at h1;rw[e1] at h2;exact qBR (o:=qhg c j y) (qj2 (by omega) T.u hq he) hq (qal hk) (qi5 T.a h1 h2 hy) (by omega) (by omega) (qag (by omega)) (qJq hl hk)
theorem qBF {c:Ck} (T:T9 c) {p:Pt} (hp:p∈c.l) (f:(qai c.s c.tn c.td p).2.2=true) {k j:Nat} {q:Pt} {y:Ev} (hq:c.d[k]?=some q) (he:q.id=p.id) (hy:c.ev[j]?=some y) (e1:y.i=q.a) (e2:y.w=q.b) :
 Fn 174 8 [qar c,.pv (ptV p)] (qaA c) (.tu [qvE c (qBa c j y (qai c.s c.tn c.td p).1 (qai c.s c.tn c.td p).2.1),.one (.pv (iV 0))]) 5 (qIy (qBa c j y (qai c.s c.tn c.td p).1 (qai c.s c.tn c.td p).2.1)):=by
 have hl:=T.l;have hk:=qan hq;have W:=T.p.fl hp;rw[f] at W;obtain⟨k1,k2,k3,_⟩:=(qcf T.p.tn T.p.td T.p.t T.p.s (T.p.v.ok p hp) (T.p.k p hp).1 (T.p.k p hp).2).i.ok f;obtain⟨h1,h2⟩:=VA.own T.a hy;rw[e1,e2] at h1;rw[e1] at h2;exact qEg (o:=qBa c j y (qai c.s c.tn c.td p).1 (qai c.s c.tn c.td p).2.1) W (qj2 (by omega) T.u hq he) hq (qal hk) (qjy ⟨k2,k3⟩ k1 T.a h1 h2 hy)
theorem qoM {c:Ck} (T:T9 c) {p:Pt} (hp:p∈c.l) (f:(qai c.s c.tn c.td p).2.2=true) (hn:∀ q∈c.d,q.id≠p.id) (hz:cnE c.ev p.id=0) {u2 f2:List Int} {b2:List Bool} {hi hw:Int} (ht:qbx c.u c.b c.fr=some (u2,b2,f2,hi,hw)) :
 ∃ k,k≤c.d.length∧(∀ (t:Nat) (q:Pt),t<k→c.d[t]?=some q→q.id<p.id)∧(∀ (t:Nat) (q:Pt),k≤t→c.d[t]?=some q→p.id<q.id)∧
 Fn 174 8 [qar c,.pv (ptV p)] (qaA c) (.tu [qhR c (qmf c u2 f2 b2 (qai c.s c.tn c.td p).1 (qai c.s c.tn c.td p).2.1 p.id hi hw) (c.d.take k++Pt.mk p.id hi hw::c.d.drop k),.one (.pv (iV 0))]) 6 (qvD (qmf c u2 f2 b2 (qai c.s c.tn c.td p).1 (qai c.s c.tn c.td p).2.1 p.id hi hw) (c.d.take k++Pt.mk p.id hi hw::c.d.drop k)):=by
 have hl:=T.l;have W:=T.p.fl hp;rw[f] at W;obtain⟨k1,k2,k3,_⟩:=(qcf T.p.tn T.p.td T.p.t T.p.s (T.p.v.ok p hp) (T.p.k p hp).1 (T.p.k p hp).2).i.ok f;obtain⟨k,h1,h2,h3,r⟩:=qk4 (by omega) T.u hn;refine⟨k,h1,h2,h3,qw7 (o:=qmf c u2 f2 b2 (qai c.s c.tn c.td p).1 (qai c.s c.tn c.td p).2.1 p.id hi hw) W r (?_)⟩;exact qGf (o:=qmf c u2 f2 b2 (qai c.s c.tn c.td p).1 (qai c.s c.tn c.td p).2.1 p.id hi hw) (ql4 ⟨k2,k3⟩ k1 T.a hz ht) r h1 (qJo hl h1 p.id hi hw)
theorem qn7 {c:Ck} (T:T9 c) {p:Pt} (hp:p∈c.l) (f:(qai c.s c.tn c.td p).2.2=true) (hn:∀ q∈c.d,q.id≠p.id) (hz:cnE c.ev p.id=0) (ht:qbx c.u c.b c.fr=none) :
 Fn 174 8 [qar c,.pv (ptV p)] (qaA c) (.pv (.tuple #[qbt,iV 18])) 0 []:=by
 have hl:=T.l;have W:=T.p.fl hp;rw[f] at W;obtain⟨k1,k2,k3,_⟩:=(qcf T.p.tn T.p.td T.p.t T.p.s (T.p.v.ok p hp) (T.p.k p hp).1 (T.p.k p hp).2).i.ok f;obtain⟨k,h1,h2,h3,r⟩:=qk4 (by omega) T.u hn;exact qwX W r (qCS (qmY ⟨k2,k3⟩ k1 T.a hz ht) (by decide))
theorem qvX {c:Ck} (T:T9 c) {p:Pt} (hp:p∈c.l) (f:(qai c.s c.tn c.td p).2.2=false) {k j:Nat} {q:Pt} {y:Ev} (hq:c.d[k]?=some q) (he:q.id=p.id) (hy:c.ev[j]?=some y) (e1:y.i=q.a) (e2:y.w=q.b) :
 Fn 174 8 [qar c,.pv (ptV p)] (qaA c) (.tu [qhR c (qhg c j y) (c.d.take k++c.d.drop (k+1)),.one (.pv (iV 0))]) 6 (qvD (qhg c j y) (c.d.take k++c.d.drop (k+1))):=by
 have hl:=T.l;have W:=T.p.fl hp;rw[f] at W;exact qvg (o:=qhg c j y) W (qj2 (by omega) T.u hq he) (quj T hq he hy e1 e2)
theorem qo7 {c:Ck} (T:T9 c) {p:Pt} (hp:p∈c.l) (f:(qai c.s c.tn c.td p).2.2=false) (hn:∀ q∈c.d,q.id≠p.id) :
 Fn 174 8 [qar c,.pv (ptV p)] (qaA c) (.tu [qty c,.one (.pv (iV 0))]) 0 []:=by
 have hl:=T.l;have W:=T.p.fl hp;rw[f] at W;obtain⟨k,h1,h2,h3,r⟩:=qk4 (by omega) T.u hn;exact quJ W r (qDZ T hn)
theorem qpJ {x:Int} {l:List Pt} (h:V8 x l) {n:Int} (hn:∀ p∈l,p.id≠n):qBD 191 x l n 6:=by
 have c:=qhH x l;rw[qdt h] at c;have hl:=h.len
 rcases qt4 h.up n with ⟨k,p,hk,he⟩ | ⟨_,k,hkl,hlo,hhi⟩
 ·exact (hn p (List.mem_of_getElem? hk) he).elim
 ·exact qxa (a:=0) (b:=0) (qBL c (qqw x (by omega) hkl hlo hhi)) (by decide)
theorem qtw {x:Int} {l:List Pt} (h:V8 x l) {k:Nat} {p:Pt} (hk:l[k]?=some p):qIn 191 x l p.id (l.take k++l.drop (k+1)) p.a p.b:=by
 have c:=qhH x l;rw[qdt h] at c;have hl:=qan hk;have hn:=h.len;have F:=qn4 x (by omega) h.up hk rfl;exact qDr (qyj hk (qal hl) c F) F (by omega) (by omega) (qag (by omega)) (qJW (by omega) hl)
theorem qvw {c:Ck} (V:V9 c) {n:Int} (h:¬ ∃ p∈c.l,p.id=n):Fn 129 8 [qar c,.pv (iV n)] (qaA c) (.pv (.tuple #[qbt,qae 0 0,iV 6])) 0 []:=
 qCb (qpJ V.v fun p hp he=>h ⟨p,hp,he⟩) (by decide)
theorem qHF {c:Ck} (S:S9 c) (V:V9 c) {p:Pt} (hp:p∈c.l) {o:Ck} (h:qeK c p.id o):Fn 129 8 [qar c,.pv (iV p.id)] (qaA c) (.tu [qiJ o,.one (.pv (qae p.a p.b)),.one (.pv (iV 0))]) 8 (qcc o):=by
 have T:=V.t9 S;have hs:=V.s.len;obtain⟨i,hi⟩:=List.getElem?_of_mem hp;have R:=qtw V.v hi;rw[← qec V.v.up hi] at R;have C:=qjl S (by omega)
 rcases h with ⟨h1,rfl⟩ | ⟨k,q,j,y,hq,he,_,hy,e1,e2,rfl⟩
 ·exact qGg (l2:=qaS c.l p.id) R C (qDZ T h1)
 ·exact qCW (l2:=qaS c.l p.id) (l:=c.d.take k++c.d.drop (k+1)) (o:=qhg c j y) R C (quj T hq he hy e1 e2)
end Go.Proofs.YtkckcgpmnipnaaaGreat

namespace Go.Proofs.YtkckcgpmnipnaaaGreat
set_option maxRecDepth 100000
open Go.RowKit
theorem qqG (a b:Int):qd1 [] a b=false:=qkl fun k p hp=>by simp at hp
theorem qAL {s:List Pt} (hn:s.length≤1000000) (a b:Int):∃ e:Int,Fn 175 1 [qaq 0 s,.pv (qae a b)] [(0,0,qaf s)] (.pv (iV e)) 0 []∧
 ((e=8∧¬ qby a b=true)∨(e=0∧qby a b=true∧(Val s→(∃ q∈s,q.id=a)∧∃ g∈s,g.id=b))∨(e=6∧qby a b=true∧(Val s→¬ ((∃ q∈s,q.id=a)∧∃ g∈s,g.id=b)))):=by
 rcases qhB 0 (l:=[]) (by simp) a b with ⟨e,h,_,h1 | h1 | h1⟩ | ⟨_,hc,_,_,_,h,_⟩
 ·rw[h1.1] at h
  rcases h1.2 with h2 | h2
  ·exact (h2 (V8.none (by omega))).elim
  ·exact⟨8,qwP qj9 h,Or.inl ⟨rfl,h2⟩⟩
 ·have:=h1.2.2.2;rw[qqG] at this;cases this
 ·rcases h1.2.2.2.2 with h2 | h2
  ·simp at h2
  ·cases h2
 ·obtain⟨w,hb,e⟩:=quf hn a b;cases w
  ·exact⟨6,qrS qj9 h hb,Or.inr (Or.inr ⟨rfl,hc,fun hs h=>by have:=(e hs).2 h;cases this⟩)⟩
  ·exact⟨0,qB6 qj9 h hb,Or.inr (Or.inl ⟨rfl,hc,fun hs=>(e hs).1 rfl⟩)⟩
theorem qm6 {l:List Pt} {n:Int} {k:Nat} (hk:k≤l.length) (h:∀ q∈l,q.id<n) (h3:∀ (t:Nat) (q:Pt),k≤t→l[t]?=some q→n<q.id):k=l.length:=by
 rcases Nat.lt_or_ge k l.length with hl | hl
 ·obtain⟨q,hq⟩:=qah hl;have:=h3 k q (Nat.le_refl _) hq;have:=h q (List.mem_of_getElem? hq);omega
 ·omega
theorem V9.due_hi {c:Ck} (V:V9 c):∀ q∈c.d,q.id<c.x:=fun q hq=>by
 obtain⟨p,hp,_,y,hd⟩:=V.f.some q hq;rw[hd.id];exact V.v.hi p hp
theorem qiP {c:Ck} (S:S9 c) (hs:c.s.length≤70) (a b:Int):(cyE c a b≠0→qC3 111 c a b (cyE c a b))∧(cyE c a b=0→∀ o,qhX c a b o→qIX 111 c a b o):=by
 have h1:=qd6 S hs;obtain⟨e2,h2,he2⟩:=qAL (s:=c.s) (by omega) a b;have hl:=S.l;by_cases V:V9 c
 ·rw[qew V] at h1
  rcases he2 with ⟨rfl,hc⟩ | ⟨rfl,hc,hk⟩ | ⟨rfl,hc,hk⟩
  ·have e:cyE c a b=8:=by unfold cyE;rw[if_neg fun h=>hc h.2]
   rw[e];exact⟨fun _=>qtP h1 h2 (by decide),fun h=>by cases h⟩
  ·obtain⟨pa,pb⟩:=hk V.s
   have e:cyE c a b=adE c a b:=by unfold cyE;rw[if_pos ⟨V,hc⟩,if_pos ⟨pa,pb⟩]
   rw[e];have C:=qjl S (by omega)
   rcases qhB c.x S.l a b with ⟨e,h,_,h3 | h3 | h3⟩ | ⟨_,_,hh,hn,hx,h,_⟩
   ·rcases h3.2 with h4 | h4
    ·exact (h4 V.v).elim
    ·exact (h4 hc).elim
   ·have e1:adE c a b=14:=by unfold adE;rw[if_pos h3.2.2.2]
    rw[e1];rw[h3.1] at h;exact⟨fun _=>qpL h1 h2 h (by decide),fun h=>by cases h⟩
   ·have e1:adE c a b=18:=by unfold adE;rw[if_neg (by rw[h3.2.2.2.1];decide),if_pos h3.2.2.2.2]
    rw[e1];rw[h3.1] at h;exact⟨fun _=>qpL h1 h2 h (by decide),fun h=>by cases h⟩
   ·have e1:adE c a b=if qa6 c ⟨c.x,a,b⟩=true∧qbx c.u c.b c.fr=none then 18 else 0:=by
     unfold adE;rw[if_neg (by rw[hh];decide),if_neg (by omega)]
    have kn:qdl (c.l++[⟨c.x,a,b⟩]) c.s:=fun p hp=>by
     rcases List.mem_append.1 hp with hp | hp
     ·exact V.k p hp
     ·rw[List.mem_singleton.1 hp];exact⟨pa,pb⟩
    have T0:=V.t9 S;have T:T9 ({ c with x:=c.x+1,l:=c.l++[⟨c.x,a,b⟩] }:Ck):=⟨⟨S.tn,S.td,V.t,V.s,V8.add V.v hc hh hn hx,kn⟩,V.a,T0.u,T0.l⟩;have hp:(⟨c.x,a,b⟩:Pt)∈({ c with x:=c.x+1,l:=c.l++[⟨c.x,a,b⟩] }:Ck).l:=List.mem_append_right _ (List.mem_singleton.2 rfl)
    have hd:∀ q∈({ c with x:=c.x+1,l:=c.l++[⟨c.x,a,b⟩] }:Ck).d,q.id≠(⟨c.x,a,b⟩:Pt).id:=fun q hq=>by
     have:=V.due_hi q hq
     show q.id≠c.x
     omega
    cases hf:qa6 c ⟨c.x,a,b⟩
    ·rw[hf,if_neg (by simp)] at e1;rw[e1];refine⟨fun h=>(h rfl).elim,fun _ o ho=>?_⟩
     rcases ho with ⟨_,rfl⟩ | ⟨h2',_⟩
     ·exact qBX (l2:=c.l++[⟨c.x,a,b⟩]) (x2:=c.x+1) h1 h2 h C (qo7 T hp hf hd)
     ·rw[hf] at h2';cases h2'
    ·cases ht:qbx c.u c.b c.fr with
     | none=>
      rw[if_pos ⟨hf,ht⟩] at e1;rw[e1];exact⟨fun _=>qrn (l2:=c.l++[⟨c.x,a,b⟩]) (x2:=c.x+1) h1 h2 h C (qn7 T hp hf hd V.new ht) (by decide),fun h=>by cases h⟩
     | some z=>
      rw[if_neg (by rw[ht];simp)] at e1;rw[e1];refine⟨fun h=>(h rfl).elim,fun _ o ho=>?_⟩
      rcases ho with ⟨h2',_⟩ | ⟨_,u2,b2,f2,hi,hw,h2',rfl⟩
      ·rw[hf] at h2';cases h2'
      ·obtain⟨k,k1,_,k3,r⟩:=qoM T hp hf hd V.new h2';have ek:k=c.d.length:=qm6 k1 (fun q hq=>V.due_hi q hq) k3;subst ek;rw[show ({ c with x:=c.x+1,l:=c.l++[⟨c.x,a,b⟩] }:Ck).d.take c.d.length=c.d from List.take_length,show ({ c with x:=c.x+1,l:=c.l++[⟨c.x,a,b⟩] }:Ck).d.drop c.d.length=[] from List.drop_length] at r;exact qyC (l2:=c.l++[⟨c.x,a,b⟩]) (x2:=c.x+1) (l:=c.d++[⟨c.x,hi,hw⟩]) h1 h2 h C r
  ·have e:cyE c a b=6:=by unfold cyE;rw[if_pos ⟨V,hc⟩,if_neg (hk V.s)]
   rw[e];exact⟨fun _=>qtP h1 h2 (by decide),fun h=>by cases h⟩
 ·rw[qc6 V] at h1
  have e:cyE c a b=8:=by unfold cyE;rw[if_neg fun h=>V h.1]
  rw[e];exact⟨fun _=>qCh h1 h2 (by decide),fun h=>by cases h⟩
theorem qkU {c:Ck} (S:S9 c) (hs:c.s.length≤70) (n:Int):(reE c n≠0→qH2 108 c n (reE c n))∧(reE c n=0→∀ o,qeK c n o→qJw 108 c n o):=by
 have h1:=qd6 S hs;by_cases V:V9 c
 ·rw[qew V] at h1;by_cases h:∃ p∈c.l,p.id=n
  ·have e:reE c n=0:=by unfold reE;rw[if_pos V,if_pos h]
   obtain⟨p,hp,rfl⟩:=h;exact⟨fun h=>(h e).elim,fun _ o ho=>qDN h1 (qHF S V hp ho)⟩
  ·have e:reE c n=6:=by unfold reE;rw[if_pos V,if_neg h]
   rw[e];exact⟨fun _=>qxq h1 (qvw V h),fun h=>by cases h⟩
 ·rw[qc6 V] at h1
  have e:reE c n=8:=by unfold reE;rw[if_neg V]
  rw[e];exact⟨fun _=>qws h1 (by decide),fun h=>by cases h⟩
end Go.Proofs.YtkckcgpmnipnaaaGreat
