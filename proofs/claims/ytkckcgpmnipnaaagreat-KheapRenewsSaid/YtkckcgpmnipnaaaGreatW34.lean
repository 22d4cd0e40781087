/-
  Joined: Lh, Li, Lj, Lk, Lo, Lp. Conditions: none.
-/
import Derived.Test.YtkckcgpmnipnaaaGreatW33
import Derived.Test.YtkckcgpmnipnaaaGreatW16
import Derived.Test.YtkckcgpmnipnaaaGreatW31
namespace Go.Proofs.YtkckcgpmnipnaaaGreat
set_option maxRecDepth 100000
open Go.RowKit
theorem qnN {s:List Pt} {n d:Int} {c:Pt} (hn:I64 n) (hd:I64 d) (ht:okB n d=true) (hs:Val s) (hc:qby c.a c.b=true) (ha:∃ q∈s,q.id=c.a) (hb:∃ q∈s,q.id=c.b) :
 Fn 124 1 [qaq 0 s,.pv (qae c.a c.b),.pv (qab n d)] [(0,0,qaf s)] (.pv (.tuple #[qab (qai s n d c).1 (qai s n d c).2.1,.bool (qai s n d c).2.2])) 0 []:=by
 have F:=(qcf hn hd ht hs hc ha hb).f;obtain⟨q,hq,ea⟩:=ha;obtain⟨p,hp,eb⟩:=hb
 have e1:qeN s c.a=q:=by rw[← ea];exact qee hs hq
 have e2:qeN s c.b=p:=by rw[← eb];exact qee hs hp
 rw[e1,e2] at F;obtain⟨j,hj,rfl⟩:=List.getElem_of_mem hq;obtain⟨i,hi,rfl⟩:=List.getElem_of_mem hp;exact wn9 (List.getElem?_eq_getElem hi) (List.getElem?_eq_getElem hj) (qal hi) (qal hj) (qlm hs (List.getElem?_eq_getElem hi) eb) (qlm hs (List.getElem?_eq_getElem hj) ea) F
structure DueOk (c:Ck) (p q:Pt) (y:Ev):Prop where
 id:q.id=p.id
 lv:Live c.u c.b q.a q.b
 at_:∃ j:Nat,c.wh[q.a.toNat]?=some (j:Int)∧c.ev[j]?=some y
 k:y.k=p.id
 n:y.n=(qai c.s c.tn c.td p).1
 d:y.d=(qai c.s c.tn c.td p).2.1
def DueF (c:Ck):List Pt→List Pt→Prop
 | [],d=>d=[]
 | p::l,d=>if (qai c.s c.tn c.td p).2.2=true then ∃ q r,d=q::r∧(∃ y,DueOk c p q y)∧DueF c l r else DueF c l d
structure V9 (c:Ck):Prop where
 t:okB c.tn c.td=true
 s:Val c.s
 v:V8 c.x c.l
 k:qdl c.l c.s
 a:VA c.u c.b c.fr c.ev c.wh
 w:c.wh.length=200
 e:c.ev.length=c.d.length
 f:DueF c c.l c.d
structure S9 (c:Ck):Prop where
 tn:I64 c.tn
 td:I64 c.td
 l:c.l.length≤210
 d:c.d.length≤210
 a:ASm c.u c.b c.fr c.ev c.wh
noncomputable def qp9 (c:Ck):Int:=open Classical in if V9 c then 0 else 8
theorem qaP {α:Type} {l:List α} {k:Nat} {p:α} (h:l[k]?=some p):l.drop k=p::l.drop (k+1):=by
 obtain⟨h1,h2⟩:=List.getElem?_eq_some_iff.1 h;rw[← h2];exact List.drop_eq_getElem_cons h1
abbrev qB8 (j k:Nat):List (Nat×SV):=[(1,.pp 8 0),(3,.pv (iV (j:Int))),(4,.pv (iV (k:Int)))]
abbrev qI3 (j:Nat):List (Nat×SV):=[(1,.pp 8 0),(3,.pv (iV (j:Int)))]
theorem qrc {c:Ck} (S:S9 c) (ht:okB c.tn c.td=true) (hs:Val c.s) (hv:V8 c.x c.l) (hk:qdl c.l c.s) (ha:VA c.u c.b c.fr c.ev c.wh):∀ (n k j:Nat),k+n=c.l.length→j≤c.d.length→
 (DueF c (c.l.drop k) (c.d.drop j)∧Rl 8 8 60 0 133 9 (qB8 j k) (qcb 8 c) (.exit 0) (qI3 c.d.length) (qcb 8 c))∨
 (¬ DueF c (c.l.drop k) (c.d.drop j)∧Rl 8 8 60 0 133 9 (qB8 j k) (qcb 8 c) .ret [(2,.pv (iV 8))] [])∨
 (¬ DueF c (c.l.drop k) (c.d.drop j)∧∃ m:Nat,m≠c.d.length∧Rl 8 8 60 0 133 9 (qB8 j k) (qcb 8 c) (.exit 0) (qI3 m) (qcb 8 c)):=by
 intro n
 induction n with
 | zero=>
  intro k j hkn hj;have r:=qyc (c:=c) (k:=k) (j:=j) (df (by omega));rw[List.drop_eq_nil_of_le (show c.l.length≤k by omega)];by_cases e:j=c.d.length
  ·subst e;exact Or.inl ⟨List.drop_length,r⟩
  ·refine Or.inr (Or.inr ⟨fun h=>?_,j,e,r⟩);have h':c.d.drop j=[]:=h;have:=List.drop_eq_nil_iff.1 h';omega
 | succ n ih=>
  intro k j hkn hj
  have hlk:k<c.l.length:=by omega
  obtain⟨p,hp⟩:=qah hlk;have hmem:=List.mem_of_getElem? hp;have W:=qnN S.tn S.td ht hs (hv.ok p hmem) (hk p hmem).1 (hk p hmem).2;have hl:=S.l;have hd':=S.d;have hdr:=qaP hp;have lk:decide ((k:Int)<(c.l.length:Int))=true:=dt (by omega);rw[hdr];cases hf:(qai c.s c.tn c.td p).2.2
  ·rw[hf] at W
   have e:DueF c (p::c.l.drop (k+1)) (c.d.drop j)=DueF c (c.l.drop (k+1)) (c.d.drop j):=by
    show (if (qai c.s c.tn c.td p).2.2=true then _ else _)=_
    rw[if_neg (by rw[hf];decide)]
   rw[e]
   have st:=fun {ex:Exit} {tm2:List (Nat×SV)} {hp2:List (Nat×Nat×SV)} (r:Rl 8 8 60 0 133 9 (qB8 j (k+1)) (qcb 8 c) ex tm2 hp2)=>qr7 (c:=c) (j:=j) hp (qal hlk) lk W (qag (by omega)) r
   rcases ih (k+1) j (by omega) hj with ⟨h1,r⟩ | ⟨h1,r⟩ | ⟨h1,m,h2,r⟩
   ·exact Or.inl ⟨h1,st r⟩
   ·exact Or.inr (Or.inl ⟨h1,st r⟩)
   ·exact Or.inr (Or.inr ⟨h1,m,h2,st r⟩)
  ·rw[hf] at W
   have e:DueF c (p::c.l.drop (k+1)) (c.d.drop j)=(∃ q r,c.d.drop j=q::r∧(∃ y,DueOk c p q y)∧DueF c (c.l.drop (k+1)) r):=by
    show (if (qai c.s c.tn c.td p).2.2=true then _ else _)=_
    rw[if_pos hf]
   rw[e];by_cases hjd:j<c.d.length
   ·obtain⟨q,hq⟩:=qah hjd;have hdq:=qaP hq;rw[hdq];have nj:decide ((j:Int)≥(c.d.length:Int))=false:=df (by omega)
    have bad:(¬ ∃ y,DueOk c p q y)→¬ ∃ q' r,q::c.d.drop (j+1)=q'::r∧(∃ y,DueOk c p q' y)∧DueF c (c.l.drop (k+1)) r:=by
     rintro h ⟨q',r,e1,e2,_⟩;cases e1;exact h e2
    by_cases hid:q.id=p.id
    ·have nid:(q.id !=p.id)=false:=by simp[hid]
     by_cases hlv:Live c.u c.b q.a q.b
     ·obtain⟨w,y,hw1,hy,_,_⟩:=VA.find ha hlv;have F:=qms ha hlv hw1 hy
      have uq:∀ y',DueOk c p q y'→y'=y:=by
       rintro y' ⟨_,_,⟨w',h1,h2⟩,_,_,_⟩;rw[hw1] at h1;have e1:(w:Int)=(w':Int):=Option.some.inj h1
       have e2:w=w':=by omega
       subst e2;rw[hy] at h2;exact (Option.some.inj h2).symm
      by_cases hyk:y.k=p.id
      ·have nk:(y.k !=p.id)=false:=by simp[hyk]
       by_cases ht2:y.n=(qai c.s c.tn c.td p).1∧y.d=(qai c.s c.tn c.td p).2.1
       ·have nt:(!(y.n==(qai c.s c.tn c.td p).1&&(y.d==(qai c.s c.tn c.td p).2.1&&true)))=false:=by simp[ht2.1,ht2.2]
        have ok:∃ y,DueOk c p q y:=⟨y,hid,hlv,⟨w,hw1,hy⟩,hyk,ht2.1,ht2.2⟩
        have e2:(∃ q' r,q::c.d.drop (j+1)=q'::r∧(∃ y,DueOk c p q' y)∧DueF c (c.l.drop (k+1)) r)↔DueF c (c.l.drop (k+1)) (c.d.drop (j+1)):=by
         constructor
         ·rintro⟨q',r,e1,_,e3⟩;cases e1;exact e3
         ·exact fun h=>⟨q,_,rfl,ok,h⟩
        rw[e2]
        have st:=fun {ex:Exit} {tm2:List (Nat×SV)} {hp2:List (Nat×Nat×SV)} (r:Rl 8 8 60 0 133 9 (qB8 (j+1) (k+1)) (qcb 8 c) ex tm2 hp2)=>qq5 (c:=c) (j:=j) hp (qal hlk) lk hq (qal hjd) W nj nid F nk nt (qag (by omega)) (qag (by omega)) r
        rcases ih (k+1) (j+1) (by omega) (by omega) with ⟨h1,r⟩ | ⟨h1,r⟩ | ⟨h1,m,h2,r⟩
        ·exact Or.inl ⟨h1,st r⟩
        ·exact Or.inr (Or.inl ⟨h1,st r⟩)
        ·exact Or.inr (Or.inr ⟨h1,m,h2,st r⟩)
       ·have nt:(!(y.n==(qai c.s c.tn c.td p).1&&(y.d==(qai c.s c.tn c.td p).2.1&&true)))=true:=by
         rw[Bool.not_eq_true',Bool.and_true,Bool.and_eq_false_iff];by_cases h1:y.n=(qai c.s c.tn c.td p).1
         ·exact Or.inr (by simpa using fun h2=>ht2 ⟨h1,h2⟩)
         ·exact Or.inl (by simpa using h1)
        refine Or.inr (Or.inl ⟨bad ?_,qtu (c:=c) hp (qal hlk) lk hq (qal hjd) W nj nid F nk nt⟩);rintro⟨y',h⟩;have:=uq y' h;subst this;exact ht2 ⟨h.n,h.d⟩
      ·refine Or.inr (Or.inl ⟨bad ?_,qny (c:=c) hp (qal hlk) lk hq (qal hjd) W nj nid F (by simpa using hyk)⟩);rintro⟨y',h⟩;have:=uq y' h;subst this;exact hyk h.k
     ·have F:=ql2 ha hlv;refine Or.inr (Or.inl ⟨bad (fun ⟨y,h⟩=>hlv h.lv),qqS (c:=c) (y:=Ev.mk 0 0 0 0 0) (e:=6) hp (qal hlk) lk hq (qal hjd) W nj nid F (by decide)⟩)
    ·exact Or.inr (Or.inl ⟨bad (fun ⟨y,h⟩=>hid h.id),qx8 (c:=c) hp (qal hlk) lk hq (qal hjd) W nj (by simpa using hid)⟩)
   ·have e3:c.d.drop j=[]:=List.drop_eq_nil_of_le (by omega);rw[e3];refine Or.inr (Or.inl ⟨?_,qwq (c:=c) hp (qal hlk) lk W (dt (by omega))⟩);rintro⟨q,r,e4,_⟩;cases e4
theorem qlc {c:Ck} (S:S9 c):Fn 60 8 [qar c] (qaA c) (.pv (iV (qp9 c))) 0 []:=by
 have bad:(¬ V9 c)→qp9 c=8:=fun h=>by unfold qp9;rw[if_neg h]
 have h2:=qet c.s;have h3:=qpz c.x c.l;by_cases ht:okB c.tn c.td=true
 ·have h1:=qin S.tn S.td ht;by_cases hs:Val c.s
  ·rw[qbL.2 hs] at h2;by_cases hv:V8 c.x c.l
   ·rw[qdt hv] at h3;have h4:=qBg c.x S.l hs;by_cases hk:qdl c.l c.s
    ·rw[qeD.2 hk] at h4;by_cases ha:VA c.u c.b c.fr c.ev c.wh
     ·have h5:=qeB ha;by_cases hw:c.wh.length=200
      ·by_cases he:c.ev.length=c.d.length
       ·have w:((c.wh.length:Int) !=200)=false:=by simp[hw]
        have d0:((c.ev.length:Int) !=(c.d.length:Int))=false:=by simp[he]
        rcases qrc S ht hs hv hk ha c.l.length 0 0 (Nat.zero_add _) (Nat.zero_le _) with ⟨hf,r⟩ | ⟨hf,r⟩ | ⟨hf,m,hm,r⟩
        ·have e0:qp9 c=0:=by unfold qp9;rw[if_pos ⟨ht,hs,hv,hk,ha,hw,he,hf⟩]
         rw[e0];exact qAi (j:=c.d.length) h1 h2 h3 h4 h5 w d0 r (by simp)
        ·rw[bad fun v=>hf v.f];exact qwx h1 h2 h3 h4 h5 w d0 r
        ·rw[bad fun v=>hf v.f];exact qqo (j:=m) h1 h2 h3 h4 h5 w d0 r (by simp;omega)
       ·rw[bad fun v=>he v.e];exact qFP h1 h2 h3 h4 h5 (by simp[hw]) (by simp;omega)
      ·rw[bad fun v=>hw v.w];exact qHB h1 h2 h3 h4 h5 (by simp;omega)
     ·rw[bad fun v=>ha v.a];exact qHf h1 h2 h3 h4 (qju S.a ha)
    ·rw[bad fun v=>hk v.k];rw[qi7 hk] at h4;exact qIc h1 h2 h3 h4
   ·rw[bad fun v=>hv v.v];rw[qbH hv] at h3;exact qFh h1 h2 h3
  ·rw[bad fun v=>hs v.s]
   exact qHV h1 h2 (by
    have:qeQ c.s≠0:=fun e=>hs (qbL.1 e)
    simpa using this)
 ·rw[bad fun v=>ht v.t];exact qFw (qgF S.tn S.td ht)
end Go.Proofs.YtkckcgpmnipnaaaGreat

namespace Go.Proofs.YtkckcgpmnipnaaaGreat
set_option maxRecDepth 100000
open Go.RowKit
noncomputable abbrev qa6 (c:Ck) (p:Pt):Bool:=(qai c.s c.tn c.td p).2.2
theorem DueF.ids {c:Ck}:∀ {l d:List Pt},DueF c l d→d.map Pt.id=(l.filter (qa6 c)).map Pt.id
 | [],d,h=>by
  have e:d=[]:=h;subst e;rfl
 | p::l,d,h=>by
  cases hf:qa6 c p
  ·have h':DueF c l d:=by
    have:(if (qai c.s c.tn c.td p).2.2=true then _ else _):=h
    rwa [if_neg (by rw[show (qai c.s c.tn c.td p).2.2=false from hf];decide)] at this
   rw[List.filter_cons_of_neg (by rw[hf];decide)];exact DueF.ids h'
  ·have h':∃ q r,d=q::r∧(∃ y,DueOk c p q y)∧DueF c l r:=by
    have:(if (qai c.s c.tn c.td p).2.2=true then _ else _):=h
    rwa [if_pos hf] at this
   obtain⟨q,r,rfl,⟨y,hy⟩,hr⟩:=h';rw[List.filter_cons_of_pos hf,List.map_cons,List.map_cons,DueF.ids hr,hy.id]
theorem DueF.some {c:Ck}:∀ {l d:List Pt},DueF c l d→∀ q∈d,∃ p∈l,qa6 c p=true∧∃ y,DueOk c p q y
 | [],d,h,q,hq=>by
  have e:d=[]:=h;subst e;cases hq
 | p::l,d,h,q,hq=>by
  cases hf:qa6 c p
  ·have h':DueF c l d:=by
    have:(if (qai c.s c.tn c.td p).2.2=true then _ else _):=h
    rwa [if_neg (by rw[show (qai c.s c.tn c.td p).2.2=false from hf];decide)] at this
   obtain⟨p',hp',h2⟩:=DueF.some h' q hq;exact⟨p',List.mem_cons_of_mem _ hp',h2⟩
  ·have h':∃ q r,d=q::r∧(∃ y,DueOk c p q y)∧DueF c l r:=by
    have:(if (qai c.s c.tn c.td p).2.2=true then _ else _):=h
    rwa [if_pos hf] at this
   obtain⟨q',r,rfl,hy,hr⟩:=h'
   rcases List.mem_cons.1 hq with rfl | hq
   ·exact⟨p,List.mem_cons_self,hf,hy⟩
   ·obtain⟨p',hp',h2⟩:=DueF.some hr q hq;exact⟨p',List.mem_cons_of_mem _ hp',h2⟩
theorem DueF.all {c:Ck} {l:List Pt}:∀ {d:List Pt},DueF c l d→∀ p∈l,qa6 c p=true→∃ q∈d,∃ y,DueOk c p q y:=by
 induction l with
 | nil=>intro d _ p hp _;cases hp
 | cons p' l ih=>
  intro d h p hp hf;cases hf':qa6 c p'
  ·have h':DueF c l d:=by
    have:(if (qai c.s c.tn c.td p').2.2=true then _ else _):=h
    rwa [if_neg (by rw[show (qai c.s c.tn c.td p').2.2=false from hf'];decide)] at this
   rcases List.mem_cons.1 hp with e | hp
   ·rw[e,hf'] at hf;cases hf
   ·exact ih h' p hp hf
  ·have h':∃ q r,d=q::r∧(∃ y,DueOk c p' q y)∧DueF c l r:=by
    have:(if (qai c.s c.tn c.td p').2.2=true then _ else _):=h
    rwa [if_pos hf'] at this
   obtain⟨q,r,hd,hy,hr⟩:=h';rw[hd]
   rcases List.mem_cons.1 hp with e | hp
   ·rw[e];exact⟨q,List.mem_cons_self,hy⟩
   ·obtain⟨q',hq',h2⟩:=ih hr p hp hf;exact⟨q',List.mem_cons_of_mem _ hq',h2⟩
theorem Up.nodup {l:List Pt} (h:Up l):(l.map Pt.id).Nodup:=by
 have hlt:∀ (i j:Nat) (p q:Pt),i<j→l[i]?=some p→l[j]?=some q→p.id<q.id:=fun i j p q hij hp hq=>h.mono hij hp hq
 rw[List.nodup_iff_pairwise_ne,List.pairwise_iff_getElem];intro i j hi hj hij;rw[List.getElem_map,List.getElem_map]
 have hi':i<l.length:=by simpa using hi
 have hj':j<l.length:=by simpa using hj
 have:=hlt i j _ _ hij (List.getElem?_eq_getElem hi') (List.getElem?_eq_getElem hj');omega
theorem V9.due_nodup {c:Ck} (h:V9 c):(c.d.map Pt.id).Nodup:=by
 rw[h.f.ids];exact h.v.up.nodup.sublist (List.Sublist.map _ List.filter_sublist)
theorem V9.ev {c:Ck} (h:V9 c) {j:Nat} {y:Ev} (hy:c.ev[j]?=some y):∃ p∈c.l,qa6 c p=true∧∃ q∈c.d,DueOk c p q y:=by
 let J:List Nat:=c.d.map fun q=>((c.wh[q.a.toNat]?).getD 0).toNat
 let g:Nat→Int:=fun j=>((c.ev[j]?).map Ev.k).getD 0
 have at_:∀ q∈c.d,∃ p∈c.l,qa6 c p=true∧∃ y,DueOk c p q y∧c.ev[((c.wh[q.a.toNat]?).getD 0).toNat]?=some y:=by
  intro q hq;obtain⟨p,hp,hf,y,hd⟩:=h.f.some q hq;obtain⟨w,h1,h2⟩:=hd.at_;refine⟨p,hp,hf,y,hd,?_⟩;rw[h1];exact h2
 have e1:J.map g=c.d.map Pt.id:=by
  rw[List.map_map];apply List.map_congr_left;intro q hq;obtain⟨p,_,_,y,hd,h2⟩:=at_ q hq
  show ((c.ev[((c.wh[q.a.toNat]?).getD 0).toNat]?).map Ev.k).getD 0=q.id
  rw[h2];exact hd.k.trans hd.id.symm
 have nd:J.Nodup:=by
  have:=h.due_nodup;rw[← e1] at this;exact List.Pairwise.of_map g (fun a b hne e=>hne (congrArg g e)) this
 have lt:∀ x∈J,x<c.ev.length:=by
  intro x hx;obtain⟨q,hq,rfl⟩:=List.mem_map.1 hx;obtain⟨_,_,_,y,_,h2⟩:=at_ q hq;exact qan h2
 have hj:j∈J:=qgP nd lt (by show (c.d.map _).length=_;rw[List.length_map,h.e]) (qan hy);obtain⟨q,hq,ej⟩:=List.mem_map.1 hj;obtain⟨p,hp,hf,y',hd,h2⟩:=at_ q hq;rw[ej,hy] at h2;have e2:y=y':=Option.some.inj h2;subst e2;exact⟨p,hp,hf,q,hq,hd⟩
theorem V9.ev_id {c:Ck} (h:V9 c) {y:Ev} (hy:y∈c.ev):∃ p∈c.l,y.k=p.id:=by
 obtain⟨j,hj⟩:=List.getElem?_of_mem hy;obtain⟨p,hp,_,q,_,hd⟩:=h.ev hj;exact⟨p,hp,hd.k⟩
theorem V9.new {c:Ck} (h:V9 c):cnE c.ev c.x=0:=by
 have:=h.v.nx;unfold cnE;rw[if_pos (by omega),if_neg];rintro⟨m,hm,e⟩;obtain⟨p,hp,e2⟩:=h.ev_id hm;have:=h.v.hi p hp;omega
end Go.Proofs.YtkckcgpmnipnaaaGreat

namespace Go.Proofs.YtkckcgpmnipnaaaGreat
set_option maxRecDepth 100000
open Go.RowKit
theorem qio {u fr wh:List Int} {b:List Bool} {ev:List Ev} (s:ASm u b fr ev wh):qbZ u b fr=false:=by
 have h1:=s.lu;have h2:=s.lb;have h3:=s.lf;unfold qbZ;rw[df (by omega),df (by omega),df (by omega)];rfl
theorem qgT {c:Ck} (S:S9 c) (hs:c.s.length≤1000000):Fn 29 8 [qar c] (qaA c) (qeS c) 8 (qcc c):=by
 have h1:=S.l;have h2:=S.d;have h3:=S.a.le;have h4:=S.a.lw;exact qsr (qho hs) (qiH c.x (by omega)) (qJe (qdG (qio S.a)) (by omega) (by omega)) (by omega)
theorem qtU {c:Ck} (S:S9 c) (hs:c.s.length≤1000000):Fn 32 16 [qar c,qeS c] (qaA c++qcc c) (.pv (.bool true)) 0 []:=by
 have h1:=S.l;have h2:=S.d;have h3:=S.a.le;have h4:=S.a.lw
 exact quR (hf:=qx7 hs) (hs:=qrw c.x (by omega)) (ha:=qrX (qio S.a) (by omega) (by omega))
  (r0:=RunsL.rounds (fun k=>[(2,.pp 16 0),(3,.pp 17 0),(5,.pv (iV (k:Int)))]) (fun _=>[(16,10,.ls 7 c.d.length),(17,10,.ls 15 c.d.length),(7,0,qaH c.d),(15,0,qaH c.d)]) c.d.length 0 (Nat.zero_add _)
   (fun k _ hk r=>by
    obtain⟨p,hp⟩:=qah hk
    exact qtc hp (qal hk) (dt (by omega)) (qag (by omega)) r)
   (qyO (df (by omega))))
theorem qd5 {c:Ck} (S:S9 c) {n:Int} (h:∀ q∈c.d,q.id≠n):Fn 84 8 [qar c,.pv (iV n)] (qaA c) (.pv (iV (-1))) 0 []:=
 qAB (RunsL.rounds (fun k=>[(1,.pv (iV n)),(2,.pp 8 0),(5,.pv (iV (k:Int)))]) (fun _=>qcb 8 c) c.d.length 0 (Nat.zero_add _)
  (fun k _ hk r=>by
   have:=S.d;obtain⟨p,hp⟩:=qah hk
   exact qkI hp (qal hk) (dt (by omega)) (by simpa using h p (List.mem_of_getElem? hp)) (qag (by omega)) r)
  (qvv (df (by omega))))
theorem qem {c:Ck} (S:S9 c) {n:Int} {k:Nat} {q:Pt} (hk:c.d[k]?=some q) (he:q.id=n) (h:∀ (j:Nat) (p:Pt),j<k→c.d[j]?=some p→p.id≠n):Fn 84 8 [qar c,.pv (iV n)] (qaA c) (.pv (iV (k:Int))) 0 []:=by
 have hl:=qan hk;have:=S.d;refine qvk (RunsL.rounds (fun k=>[(1,.pv (iV n)),(2,.pp 8 0),(5,.pv (iV (k:Int)))]) (fun _=>qcb 8 c) k 0 (Nat.zero_add _) (fun j _ hj r=>?_) (qv8 hk (qal hl) (dt (by omega)) (by simpa using he)));obtain⟨p,hp⟩:=qah (l:=c.d) (k:=j) (by omega);exact qkI hp (qal (qan hp)) (dt (by omega)) (by simpa using h j p hj hp) (qag (by omega)) r
theorem qew {c:Ck} (h:V9 c):qp9 c=0:=by unfold qp9;rw[if_pos h]
theorem qc6 {c:Ck} (h:¬ V9 c):qp9 c=8:=by unfold qp9;rw[if_neg h]
abbrev qJS (c:Ck) (a b:Int):Ck:={ c with x:=c.x+1,l:=c.l++[⟨c.x,a,b⟩] }
abbrev qwh (c:Ck) (a b n d:Int) (u2:List Int) (b2:List Bool) (f2:List Int) (hi hw:Int):Ck:={ c with x:=c.x+1,l:=c.l++[⟨c.x,a,b⟩],u:=u2,b:=b2,fr:=f2,ev:=(qa2 c.ev c.wh ⟨n,d,c.x,hi,hw⟩).1,wh:=(qa2 c.ev c.wh ⟨n,d,c.x,hi,hw⟩).2,d:=c.d++[⟨c.x,hi,hw⟩] }
def qhX (c:Ck) (a b:Int) (o:Ck):Prop:=(qa6 c ⟨c.x,a,b⟩=false∧o=qJS c a b)∨(qa6 c ⟨c.x,a,b⟩=true∧∃ u2 b2 f2 hi hw,qbx c.u c.b c.fr=some (u2,b2,f2,hi,hw)∧o=qwh c a b (qai c.s c.tn c.td ⟨c.x,a,b⟩).1 (qai c.s c.tn c.td ⟨c.x,a,b⟩).2.1 u2 b2 f2 hi hw)
noncomputable def adE (c:Ck) (a b:Int):Int:=open Classical in if qd1 c.l a b=true then 14 else if c.l.length=200∨c.x=1000000 then 18 else if qa6 c ⟨c.x,a,b⟩=true∧qbx c.u c.b c.fr=none then 18 else 0
noncomputable def cyE (c:Ck) (a b:Int):Int:=open Classical in if V9 c∧qby a b=true then (if (∃ q∈c.s,q.id=a)∧(∃ q∈c.s,q.id=b) then adE c a b else 6) else 8
abbrev qC3 (f:FuncId) (c:Ck) (a b e:Int):Prop:=Fn f 8 [qar c,.pv (qae a b)] (qaA c) (.pv (.tuple #[qbt,iV 0,iV e])) 0 []
abbrev qIX (f:FuncId) (c:Ck) (a b:Int) (o:Ck):Prop:=Fn f 8 [qar c,.pv (qae a b)] (qaA c) (.tu [qiJ o,.one (.pv (iV c.x)),.one (.pv (iV 0))]) 8 (qcc o)
theorem qE9 {c:Ck} {a b:Int} (h:adE c a b=0):∃ o,qhX c a b o:=by
 cases hf:qa6 c ⟨c.x,a,b⟩
 ·exact⟨_,Or.inl ⟨hf,rfl⟩⟩
 ·cases ht:qbx c.u c.b c.fr with
  | none=>
   exfalso;unfold adE at h;rw[if_pos (show qa6 c ⟨c.x,a,b⟩=true∧qbx c.u c.b c.fr=none from ⟨hf,ht⟩)] at h;split at h
   ·cases h
   ·split at h<;>cases h
  | some z=>
   obtain⟨u2,b2,f2,hi,hw⟩:=z;exact⟨_,Or.inr ⟨hf,u2,b2,f2,hi,hw,ht,rfl⟩⟩
theorem qmg {c:Ck} (S:S9 c) (V:V9 c) {a b:Int} (hc:qby a b=true) (ha:∃ q∈c.s,q.id=a) (hb:∃ q∈c.s,q.id=b) :
 (adE c a b≠0→qC3 147 c a b (adE c a b))∧(adE c a b=0→∀ o,qhX c a b o→qIX 147 c a b o):=by
 have hl:=V.v.len;have hsl:=V.s.len;have W:=qnN (c:=⟨c.x,a,b⟩) S.tn S.td V.t V.s hc ha hb;have FT:=qcf (c:=⟨c.x,a,b⟩) S.tn S.td V.t V.s hc ha hb;have TW:=qgT S (by omega)
 rcases qhB c.x (l:=c.l) (by omega) a b with ⟨e,_,h,h1 | h1 | h1⟩ | ⟨_,_,hh,hn,hx,_,h⟩
 ·rcases h1.2 with h2 | h2
  ·exact (h2 V.v).elim
  ·exact (h2 hc).elim
 ·have e1:adE c a b=14:=by unfold adE;rw[if_pos h1.2.2.2]
  rw[e1];rw[h1.1] at h;exact⟨fun _=>qov h (by decide),fun h=>by cases h⟩
 ·have e1:adE c a b=18:=by unfold adE;rw[if_neg (by rw[h1.2.2.2.1];decide),if_pos h1.2.2.2.2]
  rw[e1];rw[h1.1] at h;exact⟨fun _=>qov h (by decide),fun h=>by cases h⟩
 ·have e1:adE c a b=if qa6 c ⟨c.x,a,b⟩=true∧qbx c.u c.b c.fr=none then 18 else 0:=by
   unfold adE;rw[if_neg (by rw[hh];decide),if_neg (by omega)]
  cases hf:qa6 c ⟨c.x,a,b⟩
  ·have hf':(qai c.s c.tn c.td ⟨c.x,a,b⟩).2.2=false:=hf;rw[hf'] at W;rw[hf,if_neg (by simp)] at e1;rw[e1];refine⟨fun h=>(h rfl).elim,fun _ o ho=>?_⟩
   rcases ho with ⟨_,rfl⟩ | ⟨h2,_⟩
   ·exact qAC h TW W
   ·rw[hf] at h2;cases h2
  ·have hf':(qai c.s c.tn c.td ⟨c.x,a,b⟩).2.2=true:=hf;rw[hf'] at W;obtain⟨k1,k2,k3,_⟩:=FT.i.ok hf'
   cases ht:qbx c.u c.b c.fr with
   | none=>
    rw[if_pos ⟨hf,ht⟩] at e1;rw[e1];exact⟨fun _=>qrk h TW W (qgL V.a.vd ht),fun h=>by cases h⟩
   | some z=>
    rw[if_neg (by rw[ht];simp)] at e1;rw[e1];refine⟨fun h=>(h rfl).elim,fun _ o ho=>?_⟩
    rcases ho with ⟨h2,_⟩ | ⟨_,u2,b2,f2,hi,hw,h2,rfl⟩
    ·rw[hf] at h2;cases h2
    ·have hd:=S.d;have hnx:=V.v.nx;have P:=qfL (z:=c.x) ⟨k2,k3⟩ k1 V.a hnx h2;exact qwO (o:=qwh c a b (qai c.s c.tn c.td ⟨c.x,a,b⟩).1 (qai c.s c.tn c.td ⟨c.x,a,b⟩).2.1 u2 b2 f2 hi hw) h TW W (qgI V.a.vd h2) P (by omega)
end Go.Proofs.YtkckcgpmnipnaaaGreat

namespace Go.Proofs.YtkckcgpmnipnaaaGreat
set_option maxRecDepth 100000
open Go.RowKit
abbrev qaS (l:List Pt) (n:Int):List Pt:=l.filter fun p=>decide (p.id≠n)
abbrev qFH (c:Ck) (n:Int) (k j:Nat) (y:Ev):Ck:={ c with l:=qaS c.l n,b:=c.b.set y.i.toNat false,fr:=c.fr++[y.i],ev:=(qam c.ev c.wh j y).1,wh:=(qam c.ev c.wh j y).2,d:=c.d.take k++c.d.drop (k+1) }
def qeK (c:Ck) (n:Int) (o:Ck):Prop:=((∀ q∈c.d,q.id≠n)∧o={ c with l:=qaS c.l n })∨
 ∃ (k:Nat) (q:Pt) (j:Nat) (y:Ev),c.d[k]?=some q∧q.id=n∧(∀ (i:Nat) (p:Pt),i<k→c.d[i]?=some p→p.id≠n)∧c.ev[j]?=some y∧y.i=q.a∧y.w=q.b∧o=qFH c n k j y
theorem qw4 {c:Ck} (V:V9 c) (n:Int):∃ o,qeK c n o:=by
 rcases qa3 (fun k=>∀ q,c.d[k]?=some q→q.id≠n) c.d.length with h | ⟨k,hk,hb,hf⟩
 ·refine⟨_,Or.inl ⟨fun q hq=>?_,rfl⟩⟩;obtain⟨k,hk⟩:=List.getElem?_of_mem hq;exact h k (qan hk) q hk
 ·simp only[Classical.not_forall,Classical.not_not] at hb;obtain⟨q,hq,he⟩:=hb;obtain⟨p,_,_,y0,hd⟩:=V.f.some q (List.mem_of_getElem? hq);obtain⟨j,y,h1,h2,h3,h4⟩:=VA.find V.a hd.lv;exact⟨_,Or.inr ⟨k,q,j,y,hq,he,fun i p hi hp=>hf i hi p hp,h2,h3,h4,rfl⟩⟩
theorem qo6 {c:Ck} (S:S9 c) (V:V9 c) {n:Int} {o:Ck} (h:qeK c n o):Fn 36 8 [qar c,.pv (iV n)] (qaA c) (qeS o) 8 (qcc o):=by
 have hl:=S.l;have hdl:=S.d;have hsl:=V.s.len;have TW:=qgT S (by omega);have WO:=quN c.x (l:=c.l) (by omega) n
 rcases h with ⟨h1,rfl⟩ | ⟨k,q,j,y,hq,he,hf,hy,e1,e2,rfl⟩
 ·exact qBT TW WO (qd5 S h1)
 ·have hk:=qan hq;have R:=qeM V.a hy;rw[e1,e2] at R
  have R':Fn 85 5 [agA c.u c.b c.fr c.ev c.wh,.pv (qaK q.a q.b)] (agP c.u c.b c.fr c.ev c.wh) (.ag [.ls 5 c.u.length,.ls 6 (c.b.set y.i.toNat false).length,.ls 7 (c.fr++[y.i]).length,.ls 8 (qam c.ev c.wh j y).1.length,.ls 9 (qam c.ev c.wh j y).2.length]) 5 (qfO (qam c.ev c.wh j y).1 c.u (c.b.set y.i.toNat false) (c.fr++[y.i]) (qam c.ev c.wh j y).2):=by
   rw[e1];exact R
  exact qyI (o:=qFH c n k j y) TW WO (qem S hq he hf) (dt (by omega)) hq (qal hk) R' (by omega) (by omega) (by omega) (by omega) (qag (by omega))
abbrev qH2 (f:FuncId) (c:Ck) (n e:Int):Prop:=Fn f 8 [qar c,.pv (iV n)] (qaA c) (.pv (.tuple #[qbt,iV e])) 0 []
abbrev qJw (f:FuncId) (c:Ck) (n:Int) (o:Ck):Prop:=Fn f 8 [qar c,.pv (iV n)] (qaA c) (.tu [qiJ o,.one (.pv (iV 0))]) 8 (qcc o)
noncomputable def reE (c:Ck) (n:Int):Int:=open Classical in if V9 c then (if ∃ p∈c.l,p.id=n then 0 else 6) else 8
end Go.Proofs.YtkckcgpmnipnaaaGreat

namespace Go.Proofs.YtkckcgpmnipnaaaGreat
set_option maxRecDepth 100000
open Go.RowKit
theorem DueOk.own {c:Ck} {p q:Pt} {y:Ev} (h:DueOk c p q y) (ha:VA c.u c.b c.fr c.ev c.wh):y.i=q.a∧y.w=q.b:=by
 obtain⟨w,y',h1,h2,h3,h4⟩:=VA.find ha h.lv;obtain⟨w',g1,g2⟩:=h.at_;rw[h1] at g1;have e:(w:Int)=(w':Int):=Option.some.inj g1
 have e2:w=w':=by omega
 subst e2;rw[h2] at g2;have e3:y'=y:=Option.some.inj g2;subst e3;exact⟨h3,h4⟩
theorem DueOk.mk' {c:Ck} {p q:Pt} {y:Ev} (ha:VA c.u c.b c.fr c.ev c.wh) (hy:y∈c.ev) (e1:y.i=q.a) (e2:y.w=q.b) (id:q.id=p.id) (k:y.k=p.id) (n:y.n=(qai c.s c.tn c.td p).1) (d:y.d=(qai c.s c.tn c.td p).2.1):DueOk c p q y:=by
 obtain⟨j,hj⟩:=List.getElem?_of_mem hy;obtain⟨h1,h2⟩:=VA.own ha hj;rw[e1,e2] at h1;rw[e1] at h2;exact⟨id,h1,⟨j,h2,hj⟩,k,n,d⟩
theorem DueF.map {c o:Ck} {l:List Pt}:∀ {d:List Pt},(∀ p∈l,qai o.s o.tn o.td p=qai c.s c.tn c.td p)→(∀ p∈l,∀ q∈d,(∃ y,DueOk c p q y)→∃ y,DueOk o p q y)→DueF c l d→DueF o l d:=by
 induction l with
 | nil=>intro d _ _ h;exact h
 | cons p l ih=>
  intro d hf hk h;have e:=hf p List.mem_cons_self
  show if (qai o.s o.tn o.td p).2.2=true then _ else _
  rw[e];cases f:(qai c.s c.tn c.td p).2.2
  ·have h':DueF c l d:=by
    have:(if (qai c.s c.tn c.td p).2.2=true then _ else _):=h
    rwa [if_neg (by rw[f];decide)] at this
   rw[if_neg (by decide)];exact ih (fun p' hp'=>hf p' (List.mem_cons_of_mem _ hp')) (fun p' hp'=>hk p' (List.mem_cons_of_mem _ hp')) h'
  ·have h':∃ q r,d=q::r∧(∃ y,DueOk c p q y)∧DueF c l r:=by
    have:(if (qai c.s c.tn c.td p).2.2=true then _ else _):=h
    rwa [if_pos f] at this
   obtain⟨q,r,hd,hy,hr⟩:=h';rw[if_pos rfl];subst hd;exact⟨q,r,rfl,hk p List.mem_cons_self q List.mem_cons_self hy,ih (fun p' hp'=>hf p' (List.mem_cons_of_mem _ hp')) (fun p' hp' q' hq'=>hk p' (List.mem_cons_of_mem _ hp') q' (List.mem_cons_of_mem _ hq')) hr⟩
theorem DueF.snoc {c:Ck} {p:Pt} {l:List Pt}:∀ {d:List Pt},DueF c l d→(qa6 c p=false→DueF c (l++[p]) d)∧(qa6 c p=true→∀ q y,DueOk c p q y→DueF c (l++[p]) (d++[q])):=by
 induction l with
 | nil=>
  intro d h;have e:d=[]:=h;subst e;refine⟨fun f=>?_,fun f q y hy=>?_⟩
  ·show if (qai c.s c.tn c.td p).2.2=true then _ else _
   rw[if_neg (by rw[show (qai c.s c.tn c.td p).2.2=false from f];decide)];rfl
  ·show if (qai c.s c.tn c.td p).2.2=true then _ else _
   rw[if_pos f];exact⟨q,[],rfl,⟨y,hy⟩,rfl⟩
 | cons p' l ih=>
  intro d h;cases f':(qai c.s c.tn c.td p').2.2
  ·have h':DueF c l d:=by
    have:(if (qai c.s c.tn c.td p').2.2=true then _ else _):=h
    rwa [if_neg (by rw[f'];decide)] at this
   obtain⟨i1,i2⟩:=ih h';refine⟨fun f=>?_,fun f q y hy=>?_⟩
   ·show if (qai c.s c.tn c.td p').2.2=true then _ else _
    rw[if_neg (by rw[f'];decide)];exact i1 f
   ·show if (qai c.s c.tn c.td p').2.2=true then _ else _
    rw[if_neg (by rw[f'];decide)];exact i2 f q y hy
  ·have h':∃ q r,d=q::r∧(∃ y,DueOk c p' q y)∧DueF c l r:=by
    have:(if (qai c.s c.tn c.td p').2.2=true then _ else _):=h
    rwa [if_pos f'] at this
   obtain⟨q',r,hd,hy',hr⟩:=h';subst hd;obtain⟨i1,i2⟩:=ih hr;refine⟨fun f=>?_,fun f q y hy=>?_⟩
   ·show if (qai c.s c.tn c.td p').2.2=true then _ else _
    rw[if_pos f'];exact⟨q',r,rfl,hy',i1 f⟩
   ·show if (qai c.s c.tn c.td p').2.2=true then _ else _
    rw[if_pos f'];exact⟨q',r++[q],rfl,hy',i2 f q y hy⟩
theorem V9.new_ok {c o:Ck} (S:S9 c) (V:V9 c) {a b:Int} (hc:qby a b=true) (ha:∃ q∈c.s,q.id=a) (hb:∃ q∈c.s,q.id=b) (h0:adE c a b=0) (h:qhX c a b o):V9 o:=by
 have hh:qd1 c.l a b=false:=by
  cases e:qd1 c.l a b
  ·rfl
  ·unfold adE at h0;rw[if_pos e] at h0;cases h0
 have hr:¬ (c.l.length=200∨c.x=1000000):=fun e=>by
  unfold adE at h0;rw[if_neg (by rw[hh];decide),if_pos e] at h0;cases h0
 have hl:=V.v.len;have hx:=V.v.nx;have v:V8 (c.x+1) (c.l++[⟨c.x,a,b⟩]):=V8.add V.v hc hh (by omega) (by omega)
 have kn:qdl (c.l++[⟨c.x,a,b⟩]) c.s:=fun p hp=>by
  rcases List.mem_append.1 hp with hp | hp
  ·exact V.k p hp
  ·rw[List.mem_singleton.1 hp];exact⟨ha,hb⟩
 rcases h with ⟨f,rfl⟩ | ⟨f,u2,b2,f2,hi,hw,ht,rfl⟩
 ·exact⟨V.t,V.s,v,kn,V.a,V.w,V.e,DueF.map (c:=c) (fun _ _=>rfl) (fun _ _ _ _ ⟨y,h⟩=>⟨y,⟨h.id,h.lv,h.at_,h.k,h.n,h.d⟩⟩) ((V.f.snoc).1 f)⟩
 ·have FT:=qcf (c:=⟨c.x,a,b⟩) S.tn S.td V.t V.s hc ha hb;obtain⟨k1,k2,k3,_⟩:=FT.i.ok f;obtain⟨A,pm,lv,lvp⟩:=VA.push ⟨k2,k3⟩ k1 V.a V.new ht;have l1:=A.lens;have l0:=V.a.lens;have wl:=V.w;obtain⟨_,_,_,_,eu,_,_,_⟩:=qbp ht
  have lu:u2.length=c.u.length:=by rw[eu,List.length_set]
  let o:Ck:=qwh c a b (qai c.s c.tn c.td ⟨c.x,a,b⟩).1 (qai c.s c.tn c.td ⟨c.x,a,b⟩).2.1 u2 b2 f2 hi hw
  have D:DueF o c.l c.d:=DueF.map (c:=c) (fun _ _=>rfl) (fun p _ q _ ⟨y,hy⟩=>by
   obtain⟨e1,e2⟩:=hy.own V.a;obtain⟨j,_,hj⟩:=hy.at_
   exact⟨y,DueOk.mk' A (pm.mem_iff.2 (List.mem_append_left _ (List.mem_of_getElem? hj))) e1 e2 hy.id hy.k hy.n hy.d⟩) V.f
  have N:DueOk o ⟨c.x,a,b⟩ ⟨c.x,hi,hw⟩ ⟨(qai c.s c.tn c.td ⟨c.x,a,b⟩).1,(qai c.s c.tn c.td ⟨c.x,a,b⟩).2.1,c.x,hi,hw⟩:=DueOk.mk' A (pm.mem_iff.2 (List.mem_append_right _ (List.mem_singleton.2 rfl))) rfl rfl rfl rfl rfl rfl;have le:=pm.length_eq;exact⟨V.t,V.s,v,kn,A,by show (qa2 _ _ _).2.length=200;omega,by have:=V.e;show (qa2 _ _ _).1.length=(c.d++[_]).length;rw[List.length_append];rw[List.length_append] at le;simp at le ⊢;omega,(D.snoc).2 f _ _ N⟩
end Go.Proofs.YtkckcgpmnipnaaaGreat

namespace Go.Proofs.YtkckcgpmnipnaaaGreat
set_option maxRecDepth 100000
open Go.RowKit
theorem V9.small {c:Ck} (V:V9 c) (h1:I64 c.tn) (h2:I64 c.td):S9 c where
 tn:=h1
 td:=h2
 l:=by have:=V.v.len;omega
 d:=by have:=V.a.lens;have:=V.e;omega
 a:=V.a.sm
theorem DueF.cut {c:Ck} (n:Int) {l:List Pt}:∀ {d:List Pt},DueF c l d→DueF c (qaS l n) (qaS d n):=by
 induction l with
 | nil=>
  intro d h;have e:d=[]:=h;subst e;exact h
 | cons p l ih=>
  intro d h;cases f:(qai c.s c.tn c.td p).2.2
  ·have h':DueF c l d:=by
    have:(if (qai c.s c.tn c.td p).2.2=true then _ else _):=h
    rwa [if_neg (by rw[f];decide)] at this
   by_cases e:p.id=n
   ·rw[qaS,List.filter_cons_of_neg (by simp[e])];exact ih h'
   ·rw[qaS,List.filter_cons_of_pos (by simp[e])]
    show if (qai c.s c.tn c.td p).2.2=true then _ else _
    rw[if_neg (by rw[f];decide)];exact ih h'
  ·have h':∃ q r,d=q::r∧(∃ y,DueOk c p q y)∧DueF c l r:=by
    have:(if (qai c.s c.tn c.td p).2.2=true then _ else _):=h
    rwa [if_pos f] at this
   obtain⟨q,r,hd,⟨y,hy⟩,hr⟩:=h';subst hd;have hid:=hy.id;by_cases e:p.id=n
   ·rw[qaS,List.filter_cons_of_neg (by simp[e]),qaS,List.filter_cons_of_neg (by simp[hid,e])];exact ih hr
   ·rw[qaS,List.filter_cons_of_pos (by simp[e]),qaS,List.filter_cons_of_pos (by simp[hid,e])]
    show if (qai c.s c.tn c.td p).2.2=true then _ else _
    rw[if_pos f];exact⟨q,_,rfl,⟨y,hy⟩,ih hr⟩
theorem Up.lt_pw {l:List Pt} (h:Up l):(l.map Pt.id).Pairwise (fun a b=>a<b):=by
 rw[List.pairwise_iff_getElem];intro i j hi hj hij;rw[List.getElem_map,List.getElem_map]
 have hi':i<l.length:=by simpa using hi
 have hj':j<l.length:=by simpa using hj
 exact h.mono hij (List.getElem?_eq_getElem hi') (List.getElem?_eq_getElem hj')
theorem V9.due_up {c:Ck} (V:V9 c):Up c.d:=by
 have pw:(c.d.map Pt.id).Pairwise (fun a b=>a<b):=by
  rw[V.f.ids];exact V.v.up.lt_pw.sublist (List.Sublist.map _ List.filter_sublist)
 intro k p q hp hq;rw[List.pairwise_iff_getElem] at pw;have h1:=qan hp;have h2:=qan hq;obtain⟨_,e1⟩:=List.getElem?_eq_some_iff.1 hp;obtain⟨_,e2⟩:=List.getElem?_eq_some_iff.1 hq;have:=pw k (k+1) (by simpa using h1) (by simpa using h2) (by omega);rw[List.getElem_map,List.getElem_map,e1,e2] at this;exact this
theorem V8.without {x:Int} {l:List Pt} (h:V8 x l) (n:Int):V8 x (qaS l n):=by
 rcases qt4 h.up n with ⟨k,p,hk,he⟩ | ⟨hno,_⟩
 ·have e:qaS l n=l.take k++l.drop (k+1):=by rw[← qec h.up hk,he]
  rw[e];exact V8.cut h k
 ·have e:qaS l n=l:=List.filter_eq_self.2 fun p hp=>by simpa using hno p hp
  rw[e];exact h
theorem V9.gone_ok {c o:Ck} (V:V9 c) {n:Int} (h:qeK c n o):V9 o:=by
 have kn:qdl (qaS c.l n) c.s:=fun p hp=>V.k p (List.mem_filter.1 hp).1
 rcases h with ⟨h1,rfl⟩ | ⟨k,q,j,y,hq,he,_,hy,e1,e2,rfl⟩
 ·have e:qaS c.d n=c.d:=List.filter_eq_self.2 fun q hq=>by simpa using h1 q hq
  have D:=V.f.cut n;rw[e] at D;exact⟨V.t,V.s,V.v.without n,kn,V.a,V.w,V.e,DueF.map (c:=c) (fun _ _=>rfl) (fun _ _ _ _ ⟨y,h⟩=>⟨y,⟨h.id,h.lv,h.at_,h.k,h.n,h.d⟩⟩) D⟩
 ·obtain⟨A,pm,_⟩:=VA.without V.a hy
  have e:qaS c.d n=c.d.take k++c.d.drop (k+1):=by rw[← qec V.due_up hq,he]
  have D:=V.f.cut n;have hk:=qan hq;have l0:=V.a.lens;have l1:=A.lens;have wl:=V.w;have el:=V.e;have le:=pm.length_eq;rw[List.length_append] at le;simp only[List.length_cons,List.length_nil] at le
  have y0:y.k=n:=by
   obtain⟨p0,_,_,y',hd⟩:=V.f.some q (List.mem_of_getElem? hq);obtain⟨w,g1,g2⟩:=hd.at_;have o1:=(VA.own V.a hy).2;rw[e1,g1] at o1;have e3:(w:Int)=(j:Int):=Option.some.inj o1
   have e4:w=j:=by omega
   subst e4;rw[hy] at g2;have e5:y=y':=Option.some.inj g2;subst e5;exact hd.k.trans (hd.id.symm.trans he)
  have D2:DueF (qFH c n k j y) (qaS c.l n) (qaS c.d n):=DueF.map (c:=c) (fun _ _=>rfl) (fun p _ q' hq' ⟨y',h'⟩=>by
   obtain⟨f1,f2⟩:=h'.own V.a;obtain⟨w,_,g2⟩:=h'.at_
   have hne:q'.id≠n:=by simpa using (List.mem_filter.1 hq').2
   refine⟨y',DueOk.mk' A ?_ f1 f2 h'.id h'.k h'.n h'.d⟩
   rcases List.mem_append.1 (pm.mem_iff.2 (List.mem_of_getElem? g2)) with hm | hm
   ·exact hm
   ·exfalso;have e6:=List.mem_singleton.1 hm;subst e6
    exact hne (h'.id.trans (h'.k.symm.trans y0))) D
  rw[e] at D2;exact⟨V.t,V.s,V.v.without n,kn,A,by show (qam _ _ _ _).2.length=200;omega,by show (qam _ _ _ _).1.length=(c.d.take k++c.d.drop (k+1)).length;simp;omega,D2⟩
end Go.Proofs.YtkckcgpmnipnaaaGreat
