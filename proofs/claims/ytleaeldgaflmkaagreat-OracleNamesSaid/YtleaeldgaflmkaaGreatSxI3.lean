/-
  A call by its contract: what the contract says by its own names holds by the caller's. Conditions: none.
-/
import Derived.Test.YtleaeldgaflmkaaGreatSxI2
namespace Go.Proofs.YtleaeldgaflmkaaGreat
set_option maxRecDepth 100000
open Go.RowKit
theorem S0.own_nm {n:Nat} {s:S0} (h:s.own n=true):∀ b∈s.nm,b<n:=by
 intro b hb
 cases s<;>simp only[S0.nm,List.mem_cons,List.not_mem_nil,or_false] at hb<;>(try cases hb)<;>exact Nat.le_of_ble_eq_true h
theorem S0.own_nml {n:Nat} {l:List S0} (h:l.all (S0.own n)=true):∀ b∈l.flatMap S0.nm,b<n:=by
 intro b hb
 obtain⟨s,hs,hb⟩:=List.mem_flatMap.1 hb
 exact S0.own_nm (List.all_eq_true.1 h s hs) b hb
theorem S1.own_nm {n:Nat} {s:S1} (h:s.own n=true):∀ b∈s.nm,b<n:=by
 cases s with
 | one s=>exact S0.own_nm h
 | ag l=>exact S0.own_nml h
theorem SV.own_nm {n:Nat} {s:SV} (h:s.own n=true):∀ b∈s.nm,b<n:=by
 cases s with
 | pv x=>intro b hb;cases hb
 | pp b o=>exact S0.own_nm (s:=.pp b o) h
 | ps b o l c=>exact S0.own_nm (s:=.ps b o l c) h
 | ls b l=>exact S0.own_nm (s:=.ls b l) h
 | lq b es k l=>exact S0.own_nm (s:=.lq b es k l) h
 | lp b q=>exact S0.own_nm (s:=.lp b q) h
 | mp b=>exact S0.own_nm (s:=.mp b) h
 | pc g cap=>exact S0.own_nml h
 | ag l=>exact S0.own_nml h
 | tu l=>
  intro b hb
  obtain⟨s,hs,hb⟩:=List.mem_flatMap.1 hb
  exact S1.own_nm (List.all_eq_true.1 h s hs) b hb
 | any=>intro b hb;cases hb
 | row e es m xs=>intro b hb;cases hb
 | mrow xs=>intro b hb;cases hb
 | dv es m ds=>intro b hb;cases hb
 | drow e es m ds=>intro b hb;cases hb
 | rrow e es m ds=>intro b hb;cases hb
 | prow e es m xs=>intro b hb;cases hb
theorem qbT:∀ {l:List Nat},qhS l=true→∀ (i j a:Nat),l[i]?=some a→l[j]?=some a→i=j
 | [],_,i,j,a,h,_=>by simp at h
 | x::r,h,i,j,a,h1,h2=>by
  simp only[qhS,Bool.and_eq_true,Bool.not_eq_true'] at h
  have hx:∀ k,r[k]?=some x→False:=fun k hk=>by
   rw[qcr.2 (List.mem_of_getElem? hk)] at h
   cases h.1
  cases i with
  | zero=>
   cases j with
   | zero=>rfl
   | succ j=>simp at h1 h2;subst h1;exact (hx j h2).elim
  | succ i=>
   cases j with
   | zero=>simp at h1 h2;subst h2;exact (hx i h1).elim
   | succ j=>simp at h1 h2;rw[qbT h.2 i j a h1 h2]
theorem qdW {σ:List Nat} {nb j:Nat} (hj:j<σ.length):σ[j]?=some (qaY σ nb j):=by
 unfold qaY
 rw[List.getElem?_eq_getElem hj]
theorem qiJ {σ:List Nat} {nb j:Nat} (hj:σ.length≤j):qaY σ nb j=nb+(j-σ.length):=by
 unfold qaY
 rw[List.getElem?_eq_none hj]
theorem qdZ {f:Nat→Nat} {K:Nat→Prop} (hi:∀ b c,K b→K c→f b=f c→b=c):∀ {hp:List (Nat×Nat×SV)},(∀ e∈hp,K e.1)→∀ {b o:Nat} {s:SV},qae (qlo f hp) b o=some s→∃ j t,K j∧f j=b∧qae hp j o=some t∧s=t.ren f
 | [],_,b,o,s,h=>by cases h
 | (c,k,x)::r,hK,b,o,s,h=>by
  unfold qlo at h
  rw[List.map_cons,qaf] at h
  split at h
  ·rename_i e
   simp only at e
   cases h
   exact⟨c,x,hK (c,k,x) (by simp),e.1,by rw[qaf,if_pos ⟨rfl,e.2⟩],rfl⟩
  ·rename_i e
   obtain⟨j,t,h1,h2,h3,h4⟩:=qdZ hi (hp:=r) (fun e he=>hK e (by simp[he])) h
   refine⟨j,t,h1,h2,?_,h4⟩
   rw[qaf,if_neg fun e2=>e ⟨?_,e2.2⟩]
   ·exact h3
   ·simp only;rw[e2.1];exact h2
theorem qiy {lo:Nat} {st:St} {σ:List Nat} {args0 args:List SV} {pre post:List (Nat×Nat×SV)} {x:SV} {m:Nat} (hok:okF st.nb σ args0 pre x m post=true)
 (ha:args0.map (SV.ren (qaY σ st.nb))=args) (hp:qaI (eqQ (qaY σ st.nb) st pre)) {W0:Base} {β:Bl} {us:List Value} {w:World} (H:HRel W0 lo β st.hp w) (hu:SV.isl β args us) :
 ∃ β0:Bl,HRel w σ.length β0 pre w∧β0.dom σ.length∧SV.isl β0 args0 us∧(∀ j,j<σ.length→β0 j=β (qaY σ st.nb j)∧β0.g j=β.g (qaY σ st.nb j))∧β0.h=β.h∧β0.h0=fun k=>β.h k≠none:=by
 unfold okF at hok
 simp only[Bool.and_eq_true] at hok
 obtain⟨⟨⟨⟨⟨⟨⟨c1,c2⟩,c3⟩,c4⟩,c5⟩,c6⟩,c7⟩,c8⟩:=hok
 generalize hf0:qaY σ st.nb=f0 at *
 generalize hk:σ.length=k at *
 have flt:∀ j,j<k→σ[j]?=some (f0 j)∧f0 j<st.nb:=by
  intro j hj
  have h1:σ[j]?=some (f0 j):=by rw[← hf0];exact qdW (by omega)
  exact⟨h1,Nat.le_of_ble_eq_true (List.all_eq_true.1 c2 _ (List.mem_of_getElem? h1))⟩
 have fge:∀ j,k≤j→f0 j=st.nb+(j-k):=by
  intro j hj
  rw[← hf0,← hk]
  exact qiJ (by omega)
 have finj:∀ b c,b<k→c<k→f0 b=f0 c→b=c:=fun b c hb hc e=>qbT c1 b c (f0 b) (flt b hb).1 (by rw[e];exact (flt c hc).1)
 let β0:Bl:=⟨fun j=>if j<k then β (f0 j) else none,fun j=>if j<k then β.g (f0 j) else none,β.h,fun k=>β.h k≠none⟩
 have b0f:∀ {j r},β0 j=some r→j<k∧β (f0 j)=some r:=fun {j r} e=>by
  have e':(if j<k then β (f0 j) else none)=some r:=e
  split at e'
  ·exact⟨by assumption,e'⟩
  ·cases e'
 have b0g:∀ {j u},β0.g j=some u→j<k∧β.g (f0 j)=some u:=fun {j u} e=>by
  have e':(if j<k then β.g (f0 j) else none)=some u:=e
  split at e'
  ·exact⟨by assumption,e'⟩
  ·cases e'
 have f0at:∀ j,j<k→qfG f0 β β0 j:=fun j hj=>⟨fun r e=>by show (if j<k then β (f0 j) else none)=_;rw[if_pos hj];exact e,fun u e=>by show (if j<k then β.g (f0 j) else none)=_;rw[if_pos hj];exact e⟩
 have d0:β0.dom k:=fun j hj=>⟨if_neg (by omega),if_neg (by omega)⟩
 have ent:∀ {b o sv},qae pre b o=some sv→b<k∧(∀ c∈sv.nm,c<k)∧qwf f0 st (b,o,sv):=fun {b o sv} h=>by
  have hm:=qaj h
  have h1:=List.all_eq_true.1 c4 _ hm
  simp only[Bool.and_eq_true] at h1
  exact⟨Nat.le_of_ble_eq_true h1.1,SV.own_nm h1.2,qbw hp _ hm⟩
 have H0:HRel w k β0 pre w:=by
  refine⟨Gr.refl w,fun b r e=>H.live _ r (b0f e).2,fun b c r e1 e2=>finj b c (b0f e1).1 (b0f e2).1 (H.inj _ _ r (b0f e1).2 (b0f e2).2),fun b r hb e=>by have:=(b0f e).1;omega,fun b r e=>?_,fun b o sv hc hs=>?_,fun b o s hc hsr=>?_,fun b o s c o' s' u v f1 f2 _ _ f3=>(by have:=(ent f1).1;omega),fun b o xs hc=>?_,
   H.fz.mem,fun k e=>Or.inr e,fun b o s r hc e=>?_,fun b o s u k hc _ hb=>(by have:=(ent hc).1;omega),fun b o e es n ds hc=>?_,fun b o e es n ds hc=>?_⟩
  ·obtain⟨e1,e2⟩:=b0f e
   show (if b<k then β.g (f0 b) else none)=none
   rw[if_pos e1]
   exact H.sep _ r e2
  ·obtain⟨g1,g2,g3⟩:=ent hc
   replace g3:qae st.hp (f0 b) o=some (sv.ren f0):=g3.resolve_right fun ⟨t,es,n,xs,e,_⟩=>by
    have e':sv=.row t es n xs:=e
    subst e'
    cases hs
   obtain⟨r,u,a1,a2,a3⟩:=H.cells _ _ _ g3 (by rw[SV.ren_row];exact hs)
   exact⟨r,u,(f0at b g1).1 r a1,SV.ren_is (fun c hc=>f0at c (g2 c hc)) a2,a3⟩
  ·obtain⟨g1,g2,g3⟩:=ent hc
   rcases g3 with g3 | ⟨t,es,n,xs,e,t',g3⟩
   ·rw[SV.ren_eq (SV.isR_row hsr)] at g3
    obtain⟨u,e,es,n,xs,a0,a1,a2⟩:=H.rows0 _ _ _ g3 hsr
    exact⟨u,e,es,n,xs,a0,(f0at b g1).2 u a1,a2.rd,a2.one,fun _ hx j hj=>a2.rd.lt hx j hj,fun hb=>by omega,fun hb=>by omega⟩
   ·have e':s=.row t es n xs:=e
    subst e'
    obtain⟨u,a1,a2⟩:=H.fz.pr _ _ _ _ _ _ g3
    obtain⟨ys,a3,a4⟩:=a2.rd H.fz.mem
    rw[DenL.plain_eq a3] at a4
    exact⟨u,t,es,n,xs,⟨rfl,rfl,rfl,rfl⟩,(f0at b g1).2 u a1,a4.rd,a4.one,fun _ hx j hj=>a4.rd.lt hx j hj,fun hb=>by omega,fun hb=>by omega⟩
  ·obtain⟨g1,g2,g3⟩:=ent hc
   replace g3:qae st.hp (f0 b) o=some (.mrow xs):=g3.resolve_right fun ⟨t,es,n,xs,e,_⟩=>by cases e
   obtain⟨r,a1,a2⟩:=H.maps _ _ _ g3
   exact⟨r,(f0at b g1).1 r a1,a2⟩
  ·obtain⟨g1,g2,g3⟩:=ent hc
   rcases g3 with g3 | ⟨_,_,_,_,_,_,g3⟩
   ·exact H.fz.box _ _ _ _ g3 (b0f e).2
   ·exact H.fz.box _ _ _ _ g3 (b0f e).2
  ·obtain⟨g1,g2,g3⟩:=ent hc
   replace g3:qae st.hp (f0 b) o=some (.rrow e es n ds):=g3.resolve_right fun ⟨t,es,n,xs,e,_⟩=>by cases e
   obtain⟨u,a1,a2⟩:=H.fz.rr _ _ _ _ _ _ g3
   exact⟨u,(f0at b g1).2 u a1,a2⟩
  ·obtain⟨g1,g2,g3⟩:=ent hc
   replace g3:qae st.hp (f0 b) o=some (.prow e es n ds):=g3.resolve_right fun ⟨t,es,n,xs,e,_⟩=>by cases e
   obtain⟨u,a1,a2⟩:=H.fz.pr _ _ _ _ _ _ g3
   exact⟨u,(f0at b g1).2 u a1,a2⟩
 have hu0:SV.isl β0 args0 us:=by
  rw[← ha] at hu
  refine SV.ren_isl (β:=β) (γ:=β0) (fun _ _=>rfl) (fun b hb=>f0at b ?_) hu
  obtain⟨s,hs,hb⟩:=List.mem_flatMap.1 hb
  exact SV.own_nm (List.all_eq_true.1 c3 s hs) b hb
 exact⟨β0,H0,d0,hu0,fun j hj=>⟨by show (if j<k then β (f0 j) else none)=_;rw[if_pos hj],by show (if j<k then β.g (f0 j) else none)=_;rw[if_pos hj]⟩,rfl,rfl⟩
theorem qjM {f:Nat→Nat} {st:St}:∀ {hp:List (Nat×Nat×SV)},qaI (eqH f st hp)→qaI (eqQ f st hp)
 | [],_=>trivial
 | _::_,h=>⟨Or.inl h.1,qjM h.2⟩
theorem qjE {P:Program} {f:FuncId} {lo:Nat} {st:St} {σ:List Nat} {args0 args:List SV} {pre post:List (Nat×Nat×SV)} {x:SV} {m:Nat} (hok:okF st.nb σ args0 pre x m post=true) (hF:FnL P f σ.length args0 pre x m post)
 (ha:args0.map (SV.ren (qaY σ st.nb))=args) (hp:qaI (eqQ (qaY σ st.nb) st pre)) {W0:Base} {β:Bl} {us:List Value} {w:World} (H:HRel W0 lo β st.hp w) (hd:β.dom st.nb) (hlo:lo≤st.nb) (hu:SV.isl β args us) :
 Calls P f us.toArray w fun e w'=>∃ v β',e=.returned v∧β.le β'∧(x.ren (qaY σ st.nb)).is β' v∧HRel W0 lo β' (qlo (qaY σ st.nb) post++st.hp) w'∧β'.dom (st.nb+m)∧lo≤st.nb+m:=by
 obtain⟨β0,H0,d0,hu0,hb0,hbh,hbh0⟩:=qiy hok ha hp H hu
 unfold okF at hok
 simp only[Bool.and_eq_true] at hok
 obtain⟨⟨⟨⟨⟨⟨⟨c1,c2⟩,c3⟩,c4⟩,c5⟩,c6⟩,c7⟩,c8⟩:=hok
 generalize hf0:qaY σ st.nb=f0 at *
 generalize hk:σ.length=k at *
 have flt:∀ j,j<k→σ[j]?=some (f0 j)∧f0 j<st.nb:=by
  intro j hj
  have h1:σ[j]?=some (f0 j):=by rw[← hf0];exact qdW (by omega)
  exact⟨h1,Nat.le_of_ble_eq_true (List.all_eq_true.1 c2 _ (List.mem_of_getElem? h1))⟩
 have fge:∀ j,k≤j→f0 j=st.nb+(j-k):=by
  intro j hj
  rw[← hf0,← hk]
  exact qiJ (by omega)
 have finj:∀ b c,b<k→c<k→f0 b=f0 c→b=c:=fun b c hb hc e=>qbT c1 b c (f0 b) (flt b hb).1 (by rw[e];exact (flt c hc).1)
 refine (hF w β0 us H0 d0 hu0).mono fun e w' hh=>?_
 obtain⟨v,γ,rfl,hle,hx,H',hdγ⟩:=hh
 have hdef:∀ j,j<k→γ j=β (f0 j)∧γ.g j=β.g (f0 j):=by
  intro j hj
  have hkey:=List.all_eq_true.1 c5 j (List.mem_range.2 hj)
  have hd':β0 j≠none∨β0.g j≠none:=by
   obtain⟨e,he,hje⟩:=List.any_eq_true.1 hkey
   have hje:=Nat.eq_of_beq_eq_true hje
   obtain⟨b,o,sv⟩:=e
   simp only at hje
   subst hje
   have hex:∃ sv',qae pre b o=some sv':=by
    clear hp H0 hF hu0 c4 c5 hkey hle hx H'
    induction pre with
    | nil=>cases he
    | cons z r ih=>
     obtain⟨c,q,y⟩:=z
     rw[qaf]
     by_cases e1:c=b∧q=o
     ·rw[if_pos e1];exact⟨y,rfl⟩
     ·rw[if_neg e1]
      rcases List.mem_cons.1 he with he | he
      ·cases he;exact (e1 ⟨rfl,rfl⟩).elim
      ·exact ih he
   obtain⟨sv',hsv⟩:=hex
   rcases H0.named hsv with ⟨r,a1⟩ | ⟨u,a1⟩
   ·exact Or.inl (by rw[a1];simp)
   ·exact Or.inr (by rw[a1];simp)
  obtain⟨h1,h2⟩:=hle.1 j hd'
  exact⟨h1.trans (hb0 j hj).1,h2.trans (hb0 j hj).2⟩
 let β':Bl:=⟨fun b=>if st.nb≤b then γ (b-st.nb+k) else β b,fun b=>if st.nb≤b then γ.g (b-st.nb+k) else β.g b,γ.h,β.h0⟩
 have hhle:∀ k,β.h k≠none→γ.h k=β.h k:=fun k e=>by rw[← hbh] at e ⊢;exact hle.2.1 k e
 have bnew:∀ {b r},st.nb≤b→β' b=some r→γ (b-st.nb+k)=some r:=fun {b r} hb e=>by
  have e':(if st.nb≤b then γ (b-st.nb+k) else β b)=some r:=e
  rw[if_pos hb] at e';exact e'
 have bold:∀ {b},b<st.nb→β' b=β b∧β'.g b=β.g b:=fun {b} hb=>⟨if_neg (by omega),if_neg (by omega)⟩
 have gnew:∀ {b u},st.nb≤b→β'.g b=some u→γ.g (b-st.nb+k)=some u:=fun {b u} hb e=>by
  have e':(if st.nb≤b then γ.g (b-st.nb+k) else β.g b)=some u:=e
  rw[if_pos hb] at e';exact e'
 have hto:∀ j,j<k+m→qip f0 γ β' j:=by
  intro j hj
  by_cases hjk:j<k
  ·obtain⟨h1,h2⟩:=hdef j hjk
   obtain⟨o1,o2⟩:=bold (flt j hjk).2
   exact⟨fun r e=>by rw[o1,← h1];exact e,fun u e=>by rw[o2,← h2];exact e⟩
  ·have hf:=fge j (by omega)
   have hj':f0 j-st.nb+k=j:=by omega
   refine⟨fun r e=>?_,fun u e=>?_⟩
   ·show (if st.nb≤f0 j then γ (f0 j-st.nb+k) else β (f0 j))=_
    rw[if_pos (by omega),hj'];exact e
   ·show (if st.nb≤f0 j then γ.g (f0 j-st.nb+k) else β.g (f0 j))=_
    rw[if_pos (by omega),hj'];exact e
 have hle':β.le β':=by
  refine⟨fun b e=>?_,hhle,rfl⟩
  have hb:b<st.nb:=by
   rcases Nat.lt_or_ge b st.nb with h | h
   ·exact h
   ·obtain⟨h1,h2⟩:=hd b h
    rcases e with e | e
    ·exact (e h1).elim
    ·exact (e h2).elim
  exact bold hb
 have hg:=H'.gr
 have HG:=H.gr_mono hg
 have entp:∀ {b o s},qae (qlo f0 post++st.hp) b o=some s→(∃ j t,k≤j∧j<k+m∧f0 j=b∧qae post j o=some t∧s=t.ren f0∧(∀ c∈t.nm,c<k+m))∨(qae st.hp b o=some s):=by
  intro b o s h
  rw[qbA] at h
  cases e:qae (qlo f0 post) b o with
  | none=>rw[e] at h;exact Or.inr (by simpa using h)
  | some y=>
   rw[e] at h
   have:y=s:=by simpa using h
   subst this
   obtain⟨j,t,h1,h2,h3,h4⟩:=qdZ (f:=f0) (K:=fun j=>k≤j) (fun b c hb hc e=>by rw[fge b hb,fge c hc] at e;omega) (fun e he=>Nat.le_of_ble_eq_true (List.all_eq_true.1 c8 e he)) e
   have hm:=List.all_eq_true.1 c7 _ (qaj h3)
   simp only[Bool.and_eq_true] at hm
   exact Or.inl ⟨j,t,h1,Nat.le_of_ble_eq_true hm.1,h2,h3,h4,SV.own_nm hm.2⟩
 have oldname:∀ {b o s},qae st.hp b o=some s→b<st.nb:=by
  intro b o s h
  rcases Nat.lt_or_ge b st.nb with h' | h'
  ·exact h'
  ·obtain⟨h1,h2⟩:=hd b h'
   rcases H.named h with ⟨r,a1⟩ | ⟨u,a1⟩
   ·rw[h1] at a1;cases a1
   ·rw[h2] at a1;cases a1
 have newblk:∀ {b r},st.nb≤b→β' b=some r→w.heap.size≤r:=fun {b r} hb e=>H'.new _ r (by omega) (bnew hb e)
 have ownsmono:∀ {u e es n xs},w'.ownsRow w.heap.size e es u n xs→W0.owns w' e es u n xs:=by
  intro u e es n xs h
  exact qa2 h fun k hk=>W0.fresh _ H.gr k (qaE h k hk).1
 have hold:∀ r,r<w.heap.size→β.h r=none→γ.h r=none:=fun r hr e=>by
  apply Classical.byContradiction
  intro hne
  rcases H'.fz.own r hne with h1 | h1
  ·have h1':w.heap.size≤r:=h1
   omega
  ·rw[hle.2.2,hbh0] at h1
   exact h1 e
 have rowc:∀ b o s,qae (qlo f0 post++st.hp) b o=some s→s.isR=true→(∃ j,k≤j∧j<k+m∧f0 j=b∧qae post j o=some s∧∃ u e es n xs,s.isRw γ.h e es n xs∧β'.g b=some u∧γ.g j=some u∧RowIs w k γ w' j e es n xs u)∨
  (qae st.hp b o=some s∧∃ u e es n xs,s.isRw γ.h e es n xs∧β'.g b=some u∧β.g b=some u∧RowIs W0 lo β w b e es n xs u):=fun b o s hc hsr=>by
  rcases entp hc with ⟨j,t,h1,h2,rfl,h3,h5,h4⟩ | h3
  ·have htr:t.isR=true:=by rw[h5,SV.ren_isR] at hsr;exact hsr
   rw[SV.ren_eq (SV.isR_row htr)] at h5
   subst h5
   obtain⟨u,e,es,n,xs,a0,a1,a2⟩:=H'.rows0 _ _ _ h3 hsr
   exact Or.inl ⟨j,h1,h2,rfl,h3,u,e,es,n,xs,a0,(hto j h2).2 u a1,a1,a2⟩
  ·obtain⟨u,e,es,n,xs,a0,a1,a2⟩:=H.rows0 _ _ _ h3 hsr
   exact Or.inr ⟨h3,u,e,es,n,xs,SV.isRw_mono hhle a0,hle'.g a1,a1,a2⟩
 refine⟨v,β',rfl,hle',SV.to_is (fun c hc=>hto c (SV.own_nm c6 c hc)) hx,?_,fun b hb=>?_,by omega⟩
 ·refine⟨H.gr.trans hg,fun b r e=>?_,fun b c r e1 e2=>?_,fun b r hb e=>?_,fun b r e=>?_,fun b o sv hc hs=>?_,fun b o s hc hsr=>?_,fun b o s c o' s' u v f1 f2 q1 q2 f3 f4 f5 f6 f7 j hj=>?_,fun b o xs hc=>?_,
   H'.fz.mem,fun j hj=>?_,fun b o s r hc e=>?_,fun b o s u j hc hsr hb hu hj=>?_,fun b o e es n ds hc=>?_,fun b o e es n ds hc=>?_⟩
  ·by_cases hb:st.nb≤b
   ·exact H'.live _ r (bnew hb e)
   ·rw[(bold (by omega)).1] at e;exact HG.live _ r e
  ·by_cases hb:st.nb≤b<;>by_cases hc:st.nb≤c
   ·have:=H'.inj _ _ r (bnew hb e1) (bnew hc e2);omega
   ·have h1:=newblk hb e1
    rw[(bold (by omega)).1] at e2
    have:=H.live _ r e2;omega
   ·have h1:=newblk hc e2
    rw[(bold (by omega)).1] at e1
    have:=H.live _ r e1;omega
   ·rw[(bold (by omega)).1] at e1 e2
    exact H.inj _ _ r e1 e2
  ·by_cases hb':st.nb≤b
   ·exact W0.fresh _ H.gr r (newblk hb' e)
   ·rw[(bold (by omega)).1] at e;exact H.new _ r hb e
  ·by_cases hb':st.nb≤b
   ·show (if st.nb≤b then γ.g (b-st.nb+k) else β.g b)=none
    rw[if_pos hb']
    exact H'.sep _ r (bnew hb' e)
   ·rw[(bold (by omega)).1] at e
    rw[(bold (by omega)).2]
    exact H.sep _ r e
  ·rcases entp hc with ⟨j,t,h1,h2,rfl,h3,rfl,h4⟩ | h3
   ·obtain⟨r,u,a1,a2,a3⟩:=H'.cells _ _ _ h3 (by rw[SV.ren_row] at hs;exact hs)
    exact⟨r,u,(hto j h2).1 r a1,SV.to_is (fun c hc=>hto c (h4 c hc)) a2,a3⟩
   ·obtain⟨r,u,a1,a2,a3⟩:=HG.cells _ _ _ h3 hs
    exact⟨r,u,hle'.f a1,SV.is_mono hle' a2,a3⟩
  ·rcases rowc _ _ _ hc hsr with ⟨j,h1,h2,h2',h3,u,e,es,n,xs,a0,a1,a1',a2⟩ | ⟨h3,u,e,es,n,xs,a0,a1,a1',a2⟩
   ·have hj:=fge j h1
    refine⟨u,e,es,n,xs,a0,a1,a2.rd,a2.one,fun hb=>by omega,fun _=>ownsmono (a2.own h1),fun _ c r e1 hk'=>?_⟩
    by_cases hc':st.nb≤c
    ·exact a2.apart h1 _ r (bnew hc' e1) hk'
    ·rw[(bold (by omega)).1] at e1
     have h6:=H.live _ r e1
     have:=(qaE (a2.own h1) r hk').1
     omega
   ·have a3:=a2.gr_mono hg
    refine⟨u,e,es,n,xs,a0,a1,a3.rd,a3.one,a3.low,a3.own,fun hb c r e1 hk'=>?_⟩
    by_cases hc':st.nb≤c
    ·have h6:=newblk hc' e1
     have:=(qal (a2.own hb) r hk').2
     omega
    ·rw[(bold (by omega)).1] at e1
     exact a2.apart hb c r e1 hk'
  ·rcases rowc _ _ _ f1 q1 with ⟨i1,h1,h2,h2',h3,u',_,_,_,_,_,a1,a1',a2⟩ | ⟨h3,u',_,_,_,_,_,a1,a1',a2⟩<;>(rw[f6] at a1;cases a1)<;>rcases rowc _ _ _ f2 q2 with ⟨i2,k1,k2,k2',k3,v',_,_,_,_,_,d1,d1',d2⟩ | ⟨k3,v',_,_,_,_,_,d1,d1',d2⟩<;>(rw[f7] at d1;cases d1)
   ·exact H'.rinj0 _ _ _ _ _ _ _ _ h3 k3 q1 q2 h1 k1 (fun e=>f5 (by rw[← h2',← k2',e])) a1' d1' j hj
   ·intro hjv
    have:=(qaE (a2.own h1) j hj).1
    have:=(qal (d2.own f4) j hjv).2
    omega
   ·intro hjv
    have:=(qal (a2.own f3) j hj).2
    have:=(qaE (d2.own k1) j hjv).1
    omega
   ·exact H.rinj0 _ _ _ _ _ _ _ _ h3 k3 q1 q2 f3 f4 f5 a1' d1' j hj
  ·rcases entp hc with ⟨j,t,h1,h2,rfl,h3,h5,h4⟩ | h3
   ·have ht:=SV.ren_eq_mrow h5.symm
    subst ht
    obtain⟨r,a1,a2⟩:=H'.maps _ _ _ h3
    exact⟨r,(hto j h2).1 r a1,a2⟩
   ·obtain⟨r,a1,a2⟩:=HG.maps _ _ _ h3
    exact⟨r,hle'.f a1,a2⟩
  ·rcases H'.fz.own j hj with h1 | h1
   ·exact Or.inl (W0.fresh _ H.gr j h1)
   ·rw[hle.2.2,hbh0] at h1
    exact H.fz.own j h1
  ·rcases entp hc with ⟨j,t,h1,h2,rfl,h3,_,_⟩ | h3
   ·have hj:=fge j h1
    have e':=bnew (b:=f0 j) (by omega) e
    rw[show f0 j-st.nb+k=j by omega] at e'
    exact H'.fz.box _ _ _ _ h3 e'
   ·rw[(bold (oldname h3)).1] at e
    exact hold r (H.live b r e) (H.fz.box _ _ _ _ h3 e)
  ·rcases rowc _ _ _ hc hsr with ⟨i1,h1,h2,h2',h3,u',_,_,_,_,_,a1,a1',a2⟩ | ⟨h3,u',_,_,_,_,_,a1,a1',a2⟩
   ·rw[hu] at a1;cases a1
    exact H'.fz.row _ _ _ _ _ h3 hsr h1 a1' hj
   ·rw[hu] at a1;cases a1
    exact hold j (qal (a2.own hb) j hj).2 (H.fz.row _ _ _ _ _ h3 hsr hb a1' hj)
  ·rcases entp hc with ⟨j,t,h1,h2,rfl,h3,h5,h4⟩ | h3
   ·cases t<;>cases h5
    obtain⟨u,a1,a2⟩:=H'.fz.rr _ _ _ _ _ _ h3
    exact⟨u,(hto j h2).2 u a1,a2⟩
   ·obtain⟨u,a1,a2⟩:=H.fz.rr _ _ _ _ _ _ h3
    exact⟨u,hle'.g a1,a2.mono hhle⟩
  ·rcases entp hc with ⟨j,t,h1,h2,rfl,h3,h5,h4⟩ | h3
   ·cases t<;>cases h5
    obtain⟨u,a1,a2⟩:=H'.fz.pr _ _ _ _ _ _ h3
    exact⟨u,(hto j h2).2 u a1,a2⟩
   ·obtain⟨u,a1,a2⟩:=H.fz.pr _ _ _ _ _ _ h3
    exact⟨u,hle'.g a1,a2.mono hhle⟩
 ·have h1:=hdγ (b-st.nb+k) (by omega)
  refine⟨?_,?_⟩
  ·show (if st.nb≤b then γ (b-st.nb+k) else β b)=none
   rw[if_pos (by omega)];exact h1.1
  ·show (if st.nb≤b then γ.g (b-st.nb+k) else β.g b)=none
   rw[if_pos (by omega)];exact h1.2
theorem qpR {P:Program} {f:FuncId} {lo:Nat} {st:St} {σ:List Nat} {args0 args:List SV} {pre:List (Nat×Nat×SV)} {v:Value} {j:Nat} {R:Row} {ys:List Value} (hok:okF st.nb σ args0 pre (.pv v) 0 []=true) (hown:qg5 lo st.hp (some (qaY σ st.nb j))=true) (hj:j<σ.length)
 (hR:qdR pre j=some R) (hF:FnM P f σ.length args0 pre v j R ys) (ha:args0.map (SV.ren (qaY σ st.nb))=args) (hp:qaI (eqH (qaY σ st.nb) st pre)) {W0:Base} {β:Bl} {us:List Value} {w:World} (H:HRel W0 lo β st.hp w) (hu:SV.isl β args us) :
 Calls P f us.toArray w fun e w'=>e=.returned v∧HRel W0 lo β ((qaY σ st.nb j,0,.row R.e R.es R.n ys)::qaT (some (qaY σ st.nb j)) st.hp) w':=by
 obtain⟨β0,H0,d0,hu0,hb,_,_⟩:=qiy hok ha (qjM hp) H hu
 simp only[qg5,Bool.and_eq_true] at hown
 have hlo:=Nat.le_of_ble_eq_true hown.1
 have hpe:qae st.hp (qaY σ st.nb j) 0=some (.row R.e R.es R.n R.xs):=qbw hp _ (qaj (qa1 hR))
 obtain⟨u,g1,g2⟩:=H.rows _ _ _ _ _ _ hpe
 have hap:=g2.apart hlo
 refine (hF w β0 us 0 u H0 d0 hu0 (by rw[(hb j hj).2];exact g1) (qaD (g2.own hlo)) (Nat.zero_le _) (fun c r hc=>?_)).mono fun e w' hh=>?_
 ·have hck:c<σ.length:=by
   rcases Nat.lt_or_ge c σ.length with h | h
   ·exact h
   ·rw[(d0 c h).1] at hc;cases hc
  rw[(hb c hck).1] at hc
  exact hap _ r hc
 ·obtain⟨he,hU,ho,hone⟩:=hh
  refine⟨he,?_⟩
  generalize qaY σ st.nb j=b at *
  have H1:=H.upd (Hd:=fun c o s=>qae (qaT (some b) st.hp) c o=some s) hU (bo:=some b) (Or.inr ⟨b,u,0,_,rfl,hlo,g1,rfl,hpe,rfl⟩) (fun c o s hc=>⟨(qag hc).1,fun _ e=>(qag hc).2 e⟩)
  refine H1.addRow hlo g1 (qa2 ho fun k hk=>(qal (g2.own hlo) k hk).1) hone hap (fun c o s v hc hsr hl hv k hk hk'=>?_) (fun k hk=>H.fz.row _ _ _ _ _ hpe rfl hlo g1 hk) (fun c o s hc=>?_)
  ·obtain⟨d1,d2⟩:=qag hc
   exact H.rinj0 _ _ _ _ _ _ u v hpe d1 rfl hsr hlo hl (fun e=>d2 (by rw[e])) g1 hv k hk hk'
  ·have hc':qae ((b,0,.row R.e R.es R.n ys)::qaT (some b) st.hp) c o=some s:=hc
   rw[qaf] at hc'
   split at hc'
   ·rename_i e1
    cases hc'
    exact Or.inl ⟨e1.1.symm,e1.2.symm,rfl⟩
   ·exact Or.inr ⟨hc',fun _ e=>(qag hc').2 (by rw[e])⟩
theorem qrD {w:World} {base base':Nat} {e:TypeId} {es n:Nat} {u:Value} {xs:List Value} (h:w.ownsRow base e es u n xs) (hb:base'≤base):w.ownsRow base' e es u n xs:=by
 refine⟨h.1,?_⟩
 rcases h.2 with h2 | ⟨g,cap,cur,rfl,h3,h4⟩
 ·exact Or.inl h2
 ·exact Or.inr ⟨g,cap,cur,rfl,Nat.le_trans hb h3,h4⟩
theorem qpc {P:Program} {f:FuncId} {lo:Nat} {st:St} {σ:List Nat} {args0 args:List SV} {pre:List (Nat×Nat×SV)} {j:Nat} {R:Row} {ys:List Value} {e2 es2 n2:Nat} {xs2:List Value} (hok:okF st.nb σ args0 pre (.pv undef) 0 []=true) (hown:qg5 lo st.hp (some (qaY σ st.nb j))=true) (hj:j<σ.length)
 (hR:qdR pre j=some R) (hF:FnX P f σ.length args0 pre j R ys e2 es2 n2 xs2) (ha:args0.map (SV.ren (qaY σ st.nb))=args) (hp:qaI (eqH (qaY σ st.nb) st pre)) {W0:Base} {β:Bl} {us:List Value} {w:World} (H:HRel W0 lo β st.hp w) (hdom:β.dom st.nb) (hlo':lo≤st.nb) (hu:SV.isl β args us) :
 Calls P f us.toArray w fun e w'=>∃ v β',e=.returned v∧β.le β'∧(SV.ls st.nb n2).is β' v∧HRel W0 lo β' ((st.nb,0,.row e2 es2 n2 xs2)::(qaY σ st.nb j,0,.row R.e R.es R.n ys)::qaT (some (qaY σ st.nb j)) st.hp) w'∧β'.dom (st.nb+1):=by
 obtain⟨β0,H0,d0,hu0,hb,_,_⟩:=qiy hok ha (qjM hp) H hu
 simp only[qg5,Bool.and_eq_true] at hown
 have hlo:=Nat.le_of_ble_eq_true hown.1
 have hpe:qae st.hp (qaY σ st.nb j) 0=some (.row R.e R.es R.n R.xs):=qbw hp _ (qaj (qa1 hR))
 have hbn:qaY σ st.nb j<st.nb:=by
  rcases Nat.lt_or_ge (qaY σ st.nb j) st.nb with h | h
  ·exact h
  ·obtain⟨u,g1,_⟩:=H.rows _ _ _ _ _ _ hpe
   rw[(hdom _ h).2] at g1;cases g1
 obtain⟨u,g1,g2⟩:=H.rows _ _ _ _ _ _ hpe
 have hap:=g2.apart hlo
 refine (hF w β0 us 0 u H0 d0 hu0 (by rw[(hb j hj).2];exact g1) (qaD (g2.own hlo)) (Nat.zero_le _) (fun c r hc=>?_) (fun c o e es n xs v hc hcj hx hv k hk hk'=>?_)).mono fun e w' hh=>?_
 ·have hck:c<σ.length:=by
   rcases Nat.lt_or_ge c σ.length with h | h
   ·exact h
   ·rw[(d0 c h).1] at hc;cases hc
  rw[(hb c hck).1] at hc
  exact hap _ r hc
 ·have hck:c<σ.length:=by
   rcases Nat.lt_or_ge c σ.length with h | h
   ·exact h
   ·rw[(d0 c h).2] at hv;cases hv
  rw[(hb c hck).2] at hv
  have hce:qae st.hp (qaY σ st.nb c) o=some (.row e es n xs):=qbw hp _ (qaj hc)
  rcases Nat.lt_or_ge (qaY σ st.nb c) lo with hl | hl
  ·obtain⟨z,hz,hz2⟩:=H.rows _ _ _ _ _ _ hce
   rw[hv] at hz
   cases hz
   exact W0.apart k (hz2.low hl hx k hk') (qal (g2.own hlo) k hk).1
  ·refine H.rinj _ _ _ _ _ _ _ _ _ _ _ _ u v hpe hce hlo hl (fun e1=>hcj ?_) g1 hv k hk hk'
   have hok1:=hok
   unfold okF at hok1
   simp only[Bool.and_eq_true] at hok1
   have r1:=qdW (nb:=st.nb) hj
   have r2:=qdW (nb:=st.nb) hck
   exact (qbT hok1.1.1.1.1.1.1.1 j c _ r1 (by rw[e1];exact r2)).symm
 ·obtain⟨v,he,hU,ho,hone,hsl,ho2,hone2⟩:=hh
  obtain⟨hn,hn2⟩:=hdom st.nb (Nat.le_refl _)
  have hle:β.le (β.setG st.nb v):=Bl.le_setG hn hn2
  refine⟨v,β.setG st.nb v,he,hle,⟨Bl.setG_same _ _ _,hsl⟩,?_,fun c hc=>⟨(hdom c (by omega)).1,by unfold Bl.setG;simp only[if_neg (show c≠st.nb by omega)];exact (hdom c (by omega)).2⟩⟩
  have gne:∀ {c:Nat} {x:Value},c≠st.nb→(β.setG st.nb v).g c=some x→β.g c=some x:=fun {c x} hc e=>by
   unfold Bl.setG at e
   simpa only [if_neg hc] using e
  generalize qaY σ st.nb j=b at *
  have H1:=H.upd (Hd:=fun c o s=>qae (qaT (some b) st.hp) c o=some s) hU (bo:=some b) (Or.inr ⟨b,u,0,_,rfl,hlo,g1,rfl,hpe,rfl⟩) (fun c o s hc=>⟨(qag hc).1,fun _ e=>(qag hc).2 e⟩)
  have H2:=H1.addRow (He:=fun c o s=>qae ((b,0,.row R.e R.es R.n ys)::qaT (some b) st.hp) c o=some s) hlo g1 (qa2 ho fun k hk=>(qal (g2.own hlo) k hk).1) hone hap (fun c o s v hc hsr hl hv k hk hk'=>by
   obtain⟨d1,d2⟩:=qag hc
   exact H.rinj0 _ _ _ _ _ _ u v hpe d1 rfl hsr hlo hl (fun e=>d2 (by rw[e])) g1 hv k hk hk') (fun k hk=>H.fz.row _ _ _ _ _ hpe rfl hlo g1 hk) (fun c o s hc=>by
   have hc':qae ((b,0,.row R.e R.es R.n ys)::qaT (some b) st.hp) c o=some s:=hc
   rw[qaf] at hc'
   split at hc'
   ·rename_i e1
    cases hc'
    exact Or.inl ⟨e1.1.symm,e1.2.symm,rfl⟩
   ·exact Or.inr ⟨hc',fun _ e=>(qag hc').2 (by rw[e])⟩)
  refine (H2.setG hn hn2 v).addRow hlo' (Bl.setG_same _ _ _) (qa2 ho2 fun k hk=>W0.fresh _ H.gr k (qaE ho2 k hk).1) hone2 (fun c r hc hk=>?_) (fun c o s x hc hsr hl hv k hk hk'=>?_) (fun k hk=>H.fz.fresh (qaE ho2 k hk).1) (fun c o s hc=>?_)
  ·have h1:=H.live c r hc
   have h2:=(qaE ho2 r hk).1
   omega
  ·have hne:c≠st.nb:=fun e=>by
    subst e
    obtain⟨z,_,_,_,_,_,hz,_⟩:=H2.rows0 _ _ _ hc hsr
    rw[hn2] at hz;cases hz
   obtain⟨z,_,_,_,_,_,hz,hz2⟩:=H2.rows0 _ _ _ hc hsr
   have e1:=gne hne hv
   rw[hz] at e1
   cases e1
   have h2:=(qaE ho2 k hk).1
   have hc':qae ((b,0,.row R.e R.es R.n ys)::qaT (some b) st.hp) c o=some s:=hc
   rw[qaf] at hc'
   split at hc'
   ·rename_i e1
    obtain⟨rfl,rfl⟩:=e1
    rw[g1] at hz
    cases hz
    have:=(qal (g2.own hlo) k hk').2
    omega
   ·obtain⟨d1,_⟩:=qag hc'
    obtain⟨z',_,_,_,_,_,hz',hz2'⟩:=H.rows0 _ _ _ d1 hsr
    rw[hz] at hz'
    cases hz'
    have:=(qal (hz2'.own hl) k hk').2
    omega
  ·have hc':qae ((st.nb,0,.row e2 es2 n2 xs2)::(b,0,.row R.e R.es R.n ys)::qaT (some b) st.hp) c o=some s:=hc
   rw[qaf] at hc'
   split at hc'
   ·rename_i e1
    cases hc'
    exact Or.inl ⟨e1.1.symm,e1.2.symm,rfl⟩
   ·refine Or.inr ⟨hc',fun hr e=>?_⟩
    subst e
    rcases H2.named hc' with ⟨z,hz⟩ | ⟨z,hz⟩
    ·rw[hn] at hz;cases hz
    ·rw[hn2] at hz;cases hz
end Go.Proofs.YtleaeldgaflmkaaGreat
