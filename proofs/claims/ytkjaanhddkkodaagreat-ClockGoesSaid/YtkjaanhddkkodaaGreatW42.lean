/-
  Joined: Lh, Li, Lj. Conditions: none.
-/
import Derived.Test.YtkjaanhddkkodaaGreatW41
import Derived.Test.YtkjaanhddkkodaaGreatW18
namespace Go.Proofs.YtkjaanhddkkodaaGreat
set_option maxRecDepth 100000
open Go.RowKit
theorem qtI {s:List Pt} {n d:Int} {c:Pt} (hn:I64 n) (hd:I64 d) (ht:okB n d=true) (hs:Val s) (hc:qcR c.a c.b=true) (ha:∃ q∈s,q.id=c.a) (hb:∃ q∈s,q.id=c.b) :
 Fn 39 1 [qaB 0 s,.pv (qag c.a c.b),.pv (qab n d)] [(0,0,qam s)] (.pv (.tuple #[qab (qaf s n d c).1 (qaf s n d c).2.1,.bool (qaf s n d c).2.2])) 0 []:=by
 have F:=(qcf hn hd ht hs hc ha hb).f
 obtain⟨q,hq,ea⟩:=ha
 obtain⟨p,hp,eb⟩:=hb
 have e1:qeJ s c.a=q:=by rw[← ea];exact qeg hs hq
 have e2:qeJ s c.b=p:=by rw[← eb];exact qeg hs hp
 rw[e1,e2] at F
 obtain⟨j,hj,rfl⟩:=List.getElem_of_mem hq
 obtain⟨i,hi,rfl⟩:=List.getElem_of_mem hp
 exact wn9 (hg:=List.getElem?_eq_getElem hi) (hq:=List.getElem?_eq_getElem hj) (hi:=qao hi) (hj:=qao hj) (ha:=qnU hs (List.getElem?_eq_getElem hi) eb) (hb:=qnU hs (List.getElem?_eq_getElem hj) ea) (hl:=F)
structure DueOk (c:Ck) (p q:Pt) (y:Ev):Prop where
 id:q.id=p.id
 lv:Live c.u c.b q.a q.b
 at_:∃ j:Nat,c.wh[q.a.toNat]?=some (j:Int)∧c.ev[j]?=some y
 k:y.k=p.id
 n:y.n=(qaf c.s c.tn c.td p).1
 d:y.d=(qaf c.s c.tn c.td p).2.1
def DueF (c:Ck):List Pt→List Pt→Prop
 | [],d=>d=[]
 | p::l,d=>if (qaf c.s c.tn c.td p).2.2=true then ∃ q r,d=q::r∧(∃ y,DueOk c p q y)∧DueF c l r else DueF c l d
structure V9 (c:Ck):Prop where
 t:okB c.tn c.td=true
 s:Val c.s
 v:V8 c.x c.l
 k:qdf c.l c.s
 a:VA c.u c.b c.fr c.ev c.wh
 w:c.wh.length=200
 e:c.ev.length=c.d.length
 f:DueF c c.l c.d
structure S9 (c:Ck):Prop where
 tn:I64 c.tn
 td:I64 c.td
 l:c.l.length≤210
 d:c.d.length≤210
 a:ASm c.u c.b c.fr c.ev c.wh
noncomputable def qmJ (c:Ck):Int:=open Classical in if V9 c then 0 else 8
theorem qdU {α:Type} {l:List α} {k:Nat} {p:α} (h:l[k]?=some p):l.drop k=p::l.drop (k+1):=by
 obtain⟨h1,h2⟩:=List.getElem?_eq_some_iff.1 h
 rw[← h2]
 exact List.drop_eq_getElem_cons h1
abbrev qy1 (j k:Nat):List (Nat×SV):=[(1,.pp 8 0),(3,.pv (iV (j:Int))),(4,.pv (iV (k:Int)))]
abbrev qGN (j:Nat):List (Nat×SV):=[(1,.pp 8 0),(3,.pv (iV (j:Int)))]
theorem qq2 {c:Ck} (S:S9 c) (ht:okB c.tn c.td=true) (hs:Val c.s) (hv:V8 c.x c.l) (hk:qdf c.l c.s) (ha:VA c.u c.b c.fr c.ev c.wh):∀ (n k j:Nat),k+n=c.l.length→j≤c.d.length→
 (DueF c (c.l.drop k) (c.d.drop j)∧Rl 8 8 31 0 133 9 (qy1 j k) (qb5 8 c) (.exit 0) (qGN c.d.length) (qb5 8 c))∨
 (¬ DueF c (c.l.drop k) (c.d.drop j)∧Rl 8 8 31 0 133 9 (qy1 j k) (qb5 8 c) .ret [(2,.pv (iV 8))] [])∨
 (¬ DueF c (c.l.drop k) (c.d.drop j)∧∃ m:Nat,m≠c.d.length∧Rl 8 8 31 0 133 9 (qy1 j k) (qb5 8 c) (.exit 0) (qGN m) (qb5 8 c)):=by
 intro n
 induction n with
 | zero=>
  intro k j hkn hj
  have r:=qu3 (c:=c) (k:=k) (j:=j) (df (by omega))
  rw[List.drop_eq_nil_of_le (show c.l.length≤k by omega)]
  by_cases e:j=c.d.length
  ·subst e
   exact Or.inl ⟨List.drop_length,r⟩
  ·refine Or.inr (Or.inr ⟨fun h=>?_,j,e,r⟩)
   have h':c.d.drop j=[]:=h
   have:=List.drop_eq_nil_iff.1 h'
   omega
 | succ n ih=>
  intro k j hkn hj
  have hlk:k<c.l.length:=by omega
  obtain⟨p,hp⟩:=qah hlk
  have hmem:=List.mem_of_getElem? hp
  have W:=qtI S.tn S.td ht hs (hv.ok p hmem) (hk p hmem).1 (hk p hmem).2
  have hl:=S.l
  have hd':=S.d
  have hdr:=qdU hp
  have lk:decide ((k:Int)<(c.l.length:Int))=true:=dt (by omega)
  rw[hdr]
  cases hf:(qaf c.s c.tn c.td p).2.2
  ·rw[hf] at W
   have e:DueF c (p::c.l.drop (k+1)) (c.d.drop j)=DueF c (c.l.drop (k+1)) (c.d.drop j):=by
    show (if (qaf c.s c.tn c.td p).2.2=true then _ else _)=_
    rw[if_neg (by rw[hf];decide)]
   rw[e]
   have st:=fun {ex:Exit} {tm2:List (Nat×SV)} {hp2:List (Nat×Nat×SV)} (r:Rl 8 8 31 0 133 9 (qy1 j (k+1)) (qb5 8 c) ex tm2 hp2)=>qsa (c:=c) (j:=j) (hk:=hp) (hin:=qao hlk) (hlt:=lk) (hw:=W) (hs:=qar (by omega)) (r:=r)
   rcases ih (k+1) j (by omega) hj with ⟨h1,r⟩ | ⟨h1,r⟩ | ⟨h1,m,h2,r⟩
   ·exact Or.inl ⟨h1,st r⟩
   ·exact Or.inr (Or.inl ⟨h1,st r⟩)
   ·exact Or.inr (Or.inr ⟨h1,m,h2,st r⟩)
  ·rw[hf] at W
   have e:DueF c (p::c.l.drop (k+1)) (c.d.drop j)=(∃ q r,c.d.drop j=q::r∧(∃ y,DueOk c p q y)∧DueF c (c.l.drop (k+1)) r):=by
    show (if (qaf c.s c.tn c.td p).2.2=true then _ else _)=_
    rw[if_pos hf]
   rw[e]
   by_cases hjd:j<c.d.length
   ·obtain⟨q,hq⟩:=qah hjd
    have hdq:=qdU hq
    rw[hdq]
    have nj:decide ((j:Int)≥(c.d.length:Int))=false:=df (by omega)
    have bad:(¬ ∃ y,DueOk c p q y)→¬ ∃ q' r,q::c.d.drop (j+1)=q'::r∧(∃ y,DueOk c p q' y)∧DueF c (c.l.drop (k+1)) r:=by
     rintro h ⟨q',r,e1,e2,_⟩
     cases e1
     exact h e2
    by_cases hid:q.id=p.id
    ·have nid:(q.id !=p.id)=false:=by simp[hid]
     by_cases hlv:Live c.u c.b q.a q.b
     ·obtain⟨w,y,hw1,hy,_,_⟩:=VA.find ha hlv
      have F:=qlM ha hlv hw1 hy
      have uq:∀ y',DueOk c p q y'→y'=y:=by
       rintro y' ⟨_,_,⟨w',h1,h2⟩,_,_,_⟩
       rw[hw1] at h1
       have e1:(w:Int)=(w':Int):=Option.some.inj h1
       have e2:w=w':=by omega
       subst e2
       rw[hy] at h2
       exact (Option.some.inj h2).symm
      by_cases hyk:y.k=p.id
      ·have nk:(y.k !=p.id)=false:=by simp[hyk]
       by_cases ht2:y.n=(qaf c.s c.tn c.td p).1∧y.d=(qaf c.s c.tn c.td p).2.1
       ·have nt:(!(y.n==(qaf c.s c.tn c.td p).1&&(y.d==(qaf c.s c.tn c.td p).2.1&&true)))=false:=by simp[ht2.1,ht2.2]
        have ok:∃ y,DueOk c p q y:=⟨y,hid,hlv,⟨w,hw1,hy⟩,hyk,ht2.1,ht2.2⟩
        have e2:(∃ q' r,q::c.d.drop (j+1)=q'::r∧(∃ y,DueOk c p q' y)∧DueF c (c.l.drop (k+1)) r)↔DueF c (c.l.drop (k+1)) (c.d.drop (j+1)):=by
         constructor
         ·rintro⟨q',r,e1,_,e3⟩
          cases e1
          exact e3
         ·exact fun h=>⟨q,_,rfl,ok,h⟩
        rw[e2]
        have st:=fun {ex:Exit} {tm2:List (Nat×SV)} {hp2:List (Nat×Nat×SV)} (r:Rl 8 8 31 0 133 9 (qy1 (j+1) (k+1)) (qb5 8 c) ex tm2 hp2)=>qpM (c:=c) (j:=j) (hk:=hp) (hin:=qao hlk) (hlt:=lk) (hw:=W) (hj:=nj) (hq:=hq) (hiq:=qao hjd) (hne:=nid) (hf:=F) (hk2:=nk) (ht2:=nt) (hs2:=qar (by omega)) (hs:=qar (by omega)) (r:=r)
        rcases ih (k+1) (j+1) (by omega) (by omega) with ⟨h1,r⟩ | ⟨h1,r⟩ | ⟨h1,m,h2,r⟩
        ·exact Or.inl ⟨h1,st r⟩
        ·exact Or.inr (Or.inl ⟨h1,st r⟩)
        ·exact Or.inr (Or.inr ⟨h1,m,h2,st r⟩)
       ·have nt:(!(y.n==(qaf c.s c.tn c.td p).1&&(y.d==(qaf c.s c.tn c.td p).2.1&&true)))=true:=by
         rw[Bool.not_eq_true',Bool.and_true,Bool.and_eq_false_iff]
         by_cases h1:y.n=(qaf c.s c.tn c.td p).1
         ·exact Or.inr (by simpa using fun h2=>ht2 ⟨h1,h2⟩)
         ·exact Or.inl (by simpa using h1)
        refine Or.inr (Or.inl ⟨bad ?_,qsC (c:=c) (hk:=hp) (hin:=qao hlk) (hlt:=lk) (hw:=W) (hj:=nj) (hq:=hq) (hiq:=qao hjd) (hne:=nid) (hf:=F) (hk2:=nk) (ht2:=nt)⟩)
        rintro⟨y',h⟩
        have:=uq y' h
        subst this
        exact ht2 ⟨h.n,h.d⟩
      ·refine Or.inr (Or.inl ⟨bad ?_,qo6 (c:=c) (hk:=hp) (hin:=qao hlk) (hlt:=lk) (hw:=W) (hj:=nj) (hq:=hq) (hiq:=qao hjd) (hne:=nid) (hf:=F) (hk2:=by simpa using hyk)⟩)
       rintro⟨y',h⟩
       have:=uq y' h
       subst this
       exact hyk h.k
     ·have F:=qlD ha hlv
      refine Or.inr (Or.inl ⟨bad (fun ⟨y,h⟩=>hlv h.lv),qq9 (c:=c) (y:=Ev.mk 0 0 0 0 0) (e:=6) (hk:=hp) (hin:=qao hlk) (hlt:=lk) (hw:=W) (hj:=nj) (hq:=hq) (hiq:=qao hjd) (hne:=nid) (hf:=F) (he:=by decide)⟩)
    ·exact Or.inr (Or.inl ⟨bad (fun ⟨y,h⟩=>hid h.id),qx4 (c:=c) (hk:=hp) (hin:=qao hlk) (hlt:=lk) (hw:=W) (hj:=nj) (hq:=hq) (hiq:=qao hjd) (hne:=by simpa using hid)⟩)
   ·have e3:c.d.drop j=[]:=List.drop_eq_nil_of_le (by omega)
    rw[e3]
    refine Or.inr (Or.inl ⟨?_,quv (c:=c) (hk:=hp) (hin:=qao hlk) (hlt:=lk) (hw:=W) (hj:=dt (by omega))⟩)
    rintro⟨q,r,e4,_⟩
    cases e4
theorem qkZ {c:Ck} (S:S9 c):Fn 31 8 [qan c] (qaq c) (.pv (iV (qmJ c))) 0 []:=by
 have bad:(¬ V9 c)→qmJ c=8:=fun h=>by unfold qmJ;rw[if_neg h]
 have h2:=qgD c.s
 have h3:=qoy c.x c.l
 by_cases ht:okB c.tn c.td=true
 ·have h1:=qdR S.tn S.td ht
  by_cases hs:Val c.s
  ·rw[qcB.2 hs] at h2
   by_cases hv:V8 c.x c.l
   ·rw[qdr hv] at h3
    have h4:=qtl c.x S.l hs
    by_cases hk:qdf c.l c.s
    ·rw[qc4.2 hk] at h4
     by_cases ha:VA c.u c.b c.fr c.ev c.wh
     ·have h5:=qex ha
      by_cases hw:c.wh.length=200
      ·by_cases he:c.ev.length=c.d.length
       ·have w:((c.wh.length:Int) !=200)=false:=by simp[hw]
        have d0:((c.ev.length:Int) !=(c.d.length:Int))=false:=by simp[he]
        rcases qq2 S ht hs hv hk ha c.l.length 0 0 (Nat.zero_add _) (Nat.zero_le _) with ⟨hf,r⟩ | ⟨hf,r⟩ | ⟨hf,m,hm,r⟩
        ·have e0:qmJ c=0:=by unfold qmJ;rw[if_pos ⟨ht,hs,hv,hk,ha,hw,he,hf⟩]
         rw[e0]
         exact qCr (j:=c.d.length) (h1:=h1) (h2:=h2) (h3:=h3) (h4:=h4) (h5:=h5) (h6:=w) (h7:=d0) (r0:=r) (hd:=by simp)
        ·rw[bad fun v=>hf v.f]
         exact qxM (h1:=h1) (h2:=h2) (h3:=h3) (h4:=h4) (h5:=h5) (h6:=w) (h7:=d0) (r0:=r)
        ·rw[bad fun v=>hf v.f]
         exact qsZ (j:=m) (h1:=h1) (h2:=h2) (h3:=h3) (h4:=h4) (h5:=h5) (h6:=w) (h7:=d0) (r0:=r) (hd:=by simp;omega)
       ·rw[bad fun v=>he v.e]
        exact qEq (h1:=h1) (h2:=h2) (h3:=h3) (h4:=h4) (h5:=h5) (h6:=by simp[hw]) (h7:=by simp;omega)
      ·rw[bad fun v=>hw v.w]
       exact qFD (h1:=h1) (h2:=h2) (h3:=h3) (h4:=h4) (h5:=h5) (h6:=by simp;omega)
     ·rw[bad fun v=>ha v.a]
      exact qGk (h1:=h1) (h2:=h2) (h3:=h3) (h4:=h4) (h5:=qjk S.a ha)
    ·rw[bad fun v=>hk v.k]
     rw[qfu hk] at h4
     exact qFm (h1:=h1) (h2:=h2) (h3:=h3) (h4:=h4)
   ·rw[bad fun v=>hv v.v]
    rw[qbC hv] at h3
    exact qFZ (h1:=h1) (h2:=h2) (h3:=h3)
  ·rw[bad fun v=>hs v.s]
   exact qE1 (h1:=h1) (h2:=h2) (hne:=by
    have:qfd c.s≠0:=fun e=>hs (qcB.1 e)
    simpa using this)
 ·rw[bad fun v=>ht v.t]
  exact qGg (h1:=qei S.tn S.td ht)
end Go.Proofs.YtkjaanhddkkodaaGreat

namespace Go.Proofs.YtkjaanhddkkodaaGreat
set_option maxRecDepth 100000
open Go.RowKit
noncomputable abbrev qba (c:Ck) (p:Pt):Bool:=(qaf c.s c.tn c.td p).2.2
theorem DueF.ids {c:Ck}:∀ {l d:List Pt},DueF c l d→d.map Pt.id=(l.filter (qba c)).map Pt.id
 | [],d,h=>by
  have e:d=[]:=h
  subst e;rfl
 | p::l,d,h=>by
  cases hf:qba c p
  ·have h':DueF c l d:=by
    have:(if (qaf c.s c.tn c.td p).2.2=true then _ else _):=h
    rwa [if_neg (by rw[show (qaf c.s c.tn c.td p).2.2=false from hf];decide)] at this
   rw[List.filter_cons_of_neg (by rw[hf];decide)]
   exact DueF.ids h'
  ·have h':∃ q r,d=q::r∧(∃ y,DueOk c p q y)∧DueF c l r:=by
    have:(if (qaf c.s c.tn c.td p).2.2=true then _ else _):=h
    rwa [if_pos hf] at this
   obtain⟨q,r,rfl,⟨y,hy⟩,hr⟩:=h'
   rw[List.filter_cons_of_pos hf,List.map_cons,List.map_cons,DueF.ids hr,hy.id]
theorem DueF.some {c:Ck}:∀ {l d:List Pt},DueF c l d→∀ q∈d,∃ p∈l,qba c p=true∧∃ y,DueOk c p q y
 | [],d,h,q,hq=>by
  have e:d=[]:=h
  subst e;cases hq
 | p::l,d,h,q,hq=>by
  cases hf:qba c p
  ·have h':DueF c l d:=by
    have:(if (qaf c.s c.tn c.td p).2.2=true then _ else _):=h
    rwa [if_neg (by rw[show (qaf c.s c.tn c.td p).2.2=false from hf];decide)] at this
   obtain⟨p',hp',h2⟩:=DueF.some h' q hq
   exact⟨p',List.mem_cons_of_mem _ hp',h2⟩
  ·have h':∃ q r,d=q::r∧(∃ y,DueOk c p q y)∧DueF c l r:=by
    have:(if (qaf c.s c.tn c.td p).2.2=true then _ else _):=h
    rwa [if_pos hf] at this
   obtain⟨q',r,rfl,hy,hr⟩:=h'
   rcases List.mem_cons.1 hq with rfl | hq
   ·exact⟨p,List.mem_cons_self,hf,hy⟩
   ·obtain⟨p',hp',h2⟩:=DueF.some hr q hq
    exact⟨p',List.mem_cons_of_mem _ hp',h2⟩
theorem DueF.all {c:Ck} {l:List Pt}:∀ {d:List Pt},DueF c l d→∀ p∈l,qba c p=true→∃ q∈d,∃ y,DueOk c p q y:=by
 induction l with
 | nil=>intro d _ p hp _;cases hp
 | cons p' l ih=>
  intro d h p hp hf
  cases hf':qba c p'
  ·have h':DueF c l d:=by
    have:(if (qaf c.s c.tn c.td p').2.2=true then _ else _):=h
    rwa [if_neg (by rw[show (qaf c.s c.tn c.td p').2.2=false from hf'];decide)] at this
   rcases List.mem_cons.1 hp with e | hp
   ·rw[e,hf'] at hf;cases hf
   ·exact ih h' p hp hf
  ·have h':∃ q r,d=q::r∧(∃ y,DueOk c p' q y)∧DueF c l r:=by
    have:(if (qaf c.s c.tn c.td p').2.2=true then _ else _):=h
    rwa [if_pos hf'] at this
   obtain⟨q,r,hd,hy,hr⟩:=h'
   rw[hd]
   rcases List.mem_cons.1 hp with e | hp
   ·rw[e];exact⟨q,List.mem_cons_self,hy⟩
   ·obtain⟨q',hq',h2⟩:=ih hr p hp hf
    exact⟨q',List.mem_cons_of_mem _ hq',h2⟩
theorem Up.nodup {l:List Pt} (h:Up l):(l.map Pt.id).Nodup:=by
 have hlt:∀ (i j:Nat) (p q:Pt),i<j→l[i]?=some p→l[j]?=some q→p.id<q.id:=fun i j p q hij hp hq=>h.mono hij hp hq
 rw[List.nodup_iff_pairwise_ne,List.pairwise_iff_getElem]
 intro i j hi hj hij
 rw[List.getElem_map,List.getElem_map]
 have hi':i<l.length:=by simpa using hi
 have hj':j<l.length:=by simpa using hj
 have:=hlt i j _ _ hij (List.getElem?_eq_getElem hi') (List.getElem?_eq_getElem hj')
 omega
theorem V9.due_nodup {c:Ck} (h:V9 c):(c.d.map Pt.id).Nodup:=by
 rw[h.f.ids]
 exact h.v.up.nodup.sublist (List.Sublist.map _ List.filter_sublist)
theorem V9.ev {c:Ck} (h:V9 c) {j:Nat} {y:Ev} (hy:c.ev[j]?=some y):∃ p∈c.l,qba c p=true∧∃ q∈c.d,DueOk c p q y:=by
 let J:List Nat:=c.d.map fun q=>((c.wh[q.a.toNat]?).getD 0).toNat
 let g:Nat→Int:=fun j=>((c.ev[j]?).map Ev.k).getD 0
 have at_:∀ q∈c.d,∃ p∈c.l,qba c p=true∧∃ y,DueOk c p q y∧c.ev[((c.wh[q.a.toNat]?).getD 0).toNat]?=some y:=by
  intro q hq
  obtain⟨p,hp,hf,y,hd⟩:=h.f.some q hq
  obtain⟨w,h1,h2⟩:=hd.at_
  refine⟨p,hp,hf,y,hd,?_⟩
  rw[h1]
  exact h2
 have e1:J.map g=c.d.map Pt.id:=by
  rw[List.map_map]
  apply List.map_congr_left
  intro q hq
  obtain⟨p,_,_,y,hd,h2⟩:=at_ q hq
  show ((c.ev[((c.wh[q.a.toNat]?).getD 0).toNat]?).map Ev.k).getD 0=q.id
  rw[h2]
  exact hd.k.trans hd.id.symm
 have nd:J.Nodup:=by
  have:=h.due_nodup
  rw[← e1] at this
  exact List.Pairwise.of_map g (fun a b hne e=>hne (congrArg g e)) this
 have lt:∀ x∈J,x<c.ev.length:=by
  intro x hx
  obtain⟨q,hq,rfl⟩:=List.mem_map.1 hx
  obtain⟨_,_,_,y,_,h2⟩:=at_ q hq
  exact qai h2
 have hj:j∈J:=qgw nd lt (by show (c.d.map _).length=_;rw[List.length_map,h.e]) (qai hy)
 obtain⟨q,hq,ej⟩:=List.mem_map.1 hj
 obtain⟨p,hp,hf,y',hd,h2⟩:=at_ q hq
 rw[ej,hy] at h2
 have e2:y=y':=Option.some.inj h2
 subst e2
 exact⟨p,hp,hf,q,hq,hd⟩
theorem V9.ev_id {c:Ck} (h:V9 c) {y:Ev} (hy:y∈c.ev):∃ p∈c.l,y.k=p.id:=by
 obtain⟨j,hj⟩:=List.getElem?_of_mem hy
 obtain⟨p,hp,_,q,_,hd⟩:=h.ev hj
 exact⟨p,hp,hd.k⟩
theorem V9.new {c:Ck} (h:V9 c):cnE c.ev c.x=0:=by
 have:=h.v.nx
 unfold cnE
 rw[if_pos (by omega),if_neg]
 rintro⟨m,hm,e⟩
 obtain⟨p,hp,e2⟩:=h.ev_id hm
 have:=h.v.hi p hp
 omega
end Go.Proofs.YtkjaanhddkkodaaGreat

namespace Go.Proofs.YtkjaanhddkkodaaGreat
set_option maxRecDepth 100000
open Go.RowKit
theorem qip {u fr wh:List Int} {b:List Bool} {ev:List Ev} (s:ASm u b fr ev wh):qbX u b fr=false:=by
 have h1:=s.lu
 have h2:=s.lb
 have h3:=s.lf
 unfold qbX
 rw[df (by omega),df (by omega),df (by omega)]
 rfl
theorem qig {c:Ck} (S:S9 c) (hs:c.s.length≤1000000):Fn 14 8 [qan c] (qaq c) (qdy c) 8 (qbu c):=by
 have h1:=S.l
 have h2:=S.d
 have h3:=S.a.le
 have h4:=S.a.lw
 exact qq6 (hf:=qe0 hs) (hs:=qhH c.x (by omega)) (ha:=qGK (h6:=qd1 (qip S.a)) (ne:=by omega) (nw:=by omega)) (hn:=by omega)
theorem qkV {c:Ck} (S:S9 c) (hs:c.s.length≤1000000):Fn 23 16 [qan c,qdy c] (qaq c++qbu c) (.pv (.bool true)) 0 []:=by
 have h1:=S.l
 have h2:=S.d
 have h3:=S.a.le
 have h4:=S.a.lw
 exact qwB (hf:=qmT hs) (hs:=qrx c.x (by omega)) (ha:=qqk (qip S.a) (by omega) (by omega))
  (r0:=RunsL.rounds (fun k=>[(2,.pp 16 0),(3,.pp 17 0),(5,.pv (iV (k:Int)))]) (fun _=>[(16,10,.ls 7 c.d.length),(17,10,.ls 15 c.d.length),(7,0,qaQ c.d),(15,0,qaQ c.d)]) c.d.length 0 (Nat.zero_add _)
   (fun k _ hk r=>by
    obtain⟨p,hp⟩:=qah hk
    exact qsS hp (qao hk) (dt (by omega)) (qar (by omega)) r)
   (qvX (df (by omega))))
theorem qdY {c:Ck} (S:S9 c) {n:Int} (h:∀ q∈c.d,q.id≠n):Fn 46 8 [qan c,.pv (iV n)] (qaq c) (.pv (iV (-1))) 0 []:=
 qzT (r0:=RunsL.rounds (fun k=>[(1,.pv (iV n)),(2,.pp 8 0),(5,.pv (iV (k:Int)))]) (fun _=>qb5 8 c) c.d.length 0 (Nat.zero_add _)
  (fun k _ hk r=>by
   have:=S.d
   obtain⟨p,hp⟩:=qah hk
   exact qkW hp (qao hk) (dt (by omega)) (by simpa using h p (List.mem_of_getElem? hp)) (qar (by omega)) r)
  (qvE (df (by omega))))
theorem qeo {c:Ck} (S:S9 c) {n:Int} {k:Nat} {q:Pt} (hk:c.d[k]?=some q) (he:q.id=n) (h:∀ (j:Nat) (p:Pt),j<k→c.d[j]?=some p→p.id≠n):Fn 46 8 [qan c,.pv (iV n)] (qaq c) (.pv (iV (k:Int))) 0 []:=by
 have hl:=qai hk
 have:=S.d
 refine qur (r0:=RunsL.rounds (fun k=>[(1,.pv (iV n)),(2,.pp 8 0),(5,.pv (iV (k:Int)))]) (fun _=>qb5 8 c) k 0 (Nat.zero_add _) (fun j _ hj r=>?_) (qvD hk (qao hl) (dt (by omega)) (by simpa using he)))
 obtain⟨p,hp⟩:=qah (l:=c.d) (k:=j) (by omega)
 exact qkW hp (qao (qai hp)) (dt (by omega)) (by simpa using h j p hj hp) (qar (by omega)) r
noncomputable def qd0 (c:Ck) (tn td:Int):Int:=open Classical in if V9 c∧okB tn td=true then (if tn*c.td<c.tn*td then 44 else 0) else 8
theorem qck {c:Ck} (h:V9 c):qmJ c=0:=by unfold qmJ;rw[if_pos h]
theorem qbD {c:Ck} (h:¬ V9 c):qmJ c=8:=by unfold qmJ;rw[if_neg h]
theorem qgA {c:Ck} (S:S9 c) {tn td:Int} (htn:I64 tn) (htd:I64 td):Fn 38 8 [qan c,.pv (qab tn td)] (qaq c) (.pv (iV (qd0 c tn td))) 0 []:=by
 have hc:=qkZ S
 by_cases hv:V9 c
 ·rw[qck hv] at hc
  by_cases ht:okB tn td=true
  ·have hm:=qc1 htn htd S.tn S.td
   have hsg:(tn*c.td-c.tn*td).sign<0↔tn*c.td<c.tn*td:=by
    rcases Int.lt_trichotomy (tn*c.td-c.tn*td) 0 with h | h | h
    ·rw[Int.sign_eq_neg_one_of_neg h];omega
    ·rw[h];simp;omega
    ·rw[Int.sign_eq_one_of_pos h];omega
   by_cases hp:tn*c.td<c.tn*td
   ·have e:qd0 c tn td=44:=by unfold qd0;rw[if_pos ⟨hv,ht⟩,if_pos hp]
    rw[e]
    exact qsM (hc:=hc) (ht:=qdR htn htd ht) (hm:=hm) (hn:=dt (hsg.2 hp))
   ·have e:qd0 c tn td=0:=by unfold qd0;rw[if_pos ⟨hv,ht⟩,if_neg hp]
    rw[e]
    exact qzX (hc:=hc) (ht:=qdR htn htd ht) (hm:=hm) (hn:=df fun h=>hp (hsg.1 h))
  ·have e:qd0 c tn td=8:=by unfold qd0;rw[if_neg fun h=>ht h.2]
   rw[e]
   exact qs1 (hc:=hc) (ht:=qei htn htd ht)
 ·rw[qbD hv] at hc
  have e:qd0 c tn td=8:=by unfold qd0;rw[if_neg fun h=>hv h.1]
  rw[e]
  exact qxW (hc:=hc)
def qjF (c:Ck) (tn td:Int):Bool:=match c.ev[0]? with
 | some y=>decide (y.n*td≤tn*y.d)
 | none=>false
theorem qgv {c:Ck} (S:S9 c) {tn td:Int} (htn:I64 tn) (htd:I64 td):Fn 79 8 [qan c,.pv (qab tn td)] (qaq c) (.pv (.bool (qjF c tn td))) 0 []:=by
 have h3:=S.a.le
 unfold qjF
 cases hy:c.ev[0]? with
 | none=>
  have:=List.getElem?_eq_none_iff.1 hy
  exact qq0 (h0:=df (by omega))
 | some y=>
  have hl:=qai hy
  obtain⟨i1,i2⟩:=S.a.i y (List.mem_of_getElem? hy)
  have hm:=qc1 i1 i2 htn htd
  have hsg:(y.n*td-tn*y.d).sign≤0↔y.n*td≤tn*y.d:=by
   rcases Int.lt_trichotomy (y.n*td-tn*y.d) 0 with h | h | h
   ·rw[Int.sign_eq_neg_one_of_neg h];omega
   ·rw[h];simp;omega
   ·rw[Int.sign_eq_one_of_pos h];omega
  by_cases hp:y.n*td≤tn*y.d
  ·simp only[dt hp]
   exact qsr (h0:=dt (by omega)) (hy:=hy) (hin:=qao hl) (hm:=hm) (hn:=dt (hsg.2 hp))
  ·simp only[df hp]
   exact quZ (h0:=dt (by omega)) (hy:=hy) (hin:=qao hl) (hm:=hm) (hn:=df fun h=>hp (hsg.1 h))
abbrev qHm (c:Ck) (a b:Int):Ck:={ c with x:=c.x+1,l:=c.l++[⟨c.x,a,b⟩] }
abbrev qFN (c:Ck) (a b n d:Int) (u2:List Int) (b2:List Bool) (f2:List Int) (hi hw:Int):Ck:={ c with x:=c.x+1,l:=c.l++[⟨c.x,a,b⟩],u:=u2,b:=b2,fr:=f2,ev:=(qaY c.ev c.wh ⟨n,d,c.x,hi,hw⟩).1,wh:=(qaY c.ev c.wh ⟨n,d,c.x,hi,hw⟩).2,d:=c.d++[⟨c.x,hi,hw⟩] }
def qz8 (c:Ck) (a b:Int) (o:Ck):Prop:=(qba c ⟨c.x,a,b⟩=false∧o=qHm c a b)∨(qba c ⟨c.x,a,b⟩=true∧∃ u2 b2 f2 hi hw,qbx c.u c.b c.fr=some (u2,b2,f2,hi,hw)∧o=qFN c a b (qaf c.s c.tn c.td ⟨c.x,a,b⟩).1 (qaf c.s c.tn c.td ⟨c.x,a,b⟩).2.1 u2 b2 f2 hi hw)
noncomputable def adE (c:Ck) (a b:Int):Int:=open Classical in if qhB c.l a b=true then 14 else if c.l.length=200∨c.x=1000000 then 18 else if qba c ⟨c.x,a,b⟩=true∧qbx c.u c.b c.fr=none then 18 else 0
noncomputable def cyE (c:Ck) (a b:Int):Int:=open Classical in if V9 c∧qcR a b=true then (if (∃ q∈c.s,q.id=a)∧(∃ q∈c.s,q.id=b) then adE c a b else 6) else 8
abbrev qza (f:FuncId) (c:Ck) (a b e:Int):Prop:=Fn f 8 [qan c,.pv (qag a b)] (qaq c) (.pv (.tuple #[qbv,iV 0,iV e])) 0 []
abbrev qHg (f:FuncId) (c:Ck) (a b:Int) (o:Ck):Prop:=Fn f 8 [qan c,.pv (qag a b)] (qaq c) (.tu [qfW o,.one (.pv (iV c.x)),.one (.pv (iV 0))]) 8 (qbu o)
end Go.Proofs.YtkjaanhddkkodaaGreat
