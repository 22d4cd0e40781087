/-
  A call that owns some of its arguments, by its contract. Conditions: none.
-/
import Derived.Test.YtleaeldgaflmkaaGreatSxI3
namespace Go.Proofs.YtleaeldgaflmkaaGreat
set_option maxRecDepth 100000
open Go.RowKit
theorem qkv {N:List Nat} {hp:List (Nat×Nat×SV)} {b o:Nat} {s:SV} (h:qae (qkz N hp) b o=some s):qae hp b o=some s∧b∉N:=by
 refine⟨qcd (p:=fun c=>!qbH N c) h,fun hb=>?_⟩
 have h2:=(List.mem_filter.1 (qaj h)).2
 simp only[qcr.2 hb] at h2
 cases h2
theorem qp4 {P:Program} {f:FuncId} {lo l:Nat} {st:St} {σ:List Nat} {args0 args:List SV} {pre post:List (Nat×Nat×SV)} {x:SV} {m:Nat} (hok:okO lo l st.nb σ args0 pre x m post=true) (hF:FnO P f l σ.length args0 pre x m post)
 (ha:args0.map (SV.ren (qaY σ st.nb))=args) (hp:qaI (eqH (qaY σ st.nb) st pre)) {W0:Base} {β:Bl} {us:List Value} {w:World} (H:HRel W0 lo β st.hp w) (hd:β.dom st.nb) (hlo:lo≤st.nb) (hu:SV.isl β args us) :
 Calls P f us.toArray w fun e w'=>∃ v β',e=.returned v∧β.le β'∧(x.ren (qaY σ st.nb)).is β' v∧HRel W0 lo β' (qlo (qaY σ st.nb) post++qkz (σ.drop l) st.hp) w'∧β'.dom (st.nb+m)∧lo≤st.nb+m:=by
 unfold okO at hok
 simp only[Bool.and_eq_true] at hok
 obtain⟨⟨⟨⟨⟨⟨⟨⟨⟨c1,c2⟩,c3⟩,c4⟩,c5⟩,c6⟩,c7⟩,c8⟩,c9⟩,c10⟩:=hok
 have hlk0:=Nat.le_of_ble_eq_true c10
 have hmemd:∀ j,l≤j→j<σ.length→qaY σ st.nb j∈σ.drop l:=fun j h1 h2=>by
  refine List.mem_of_getElem? (i:=j-l) ?_
  rw[List.getElem?_drop,show l+(j-l)=j by omega]
  exact qdW h2
 generalize hN:σ.drop l=N at *
 generalize hf0:qaY σ st.nb=f0 at *
 generalize hk:σ.length=k at *
 have flt:∀ j,j<k→σ[j]?=some (f0 j)∧f0 j<st.nb:=by
  intro j hj
  have h1:σ[j]?=some (f0 j):=by rw[← hf0];exact qdW (by omega)
  exact⟨h1,Nat.le_of_ble_eq_true (List.all_eq_true.1 c2 _ (List.mem_of_getElem? h1))⟩
 have fge:∀ j,k≤j→f0 j=st.nb+(j-k):=by
  intro j hj
  rw[← hf0,← hk]
  exact qiJ (by omega)
 have finj:∀ b c,b<k→c<k→f0 b=f0 c→b=c:=fun b c hb hc e=>qbT c1 b c (f0 b) (flt b hb).1 (by rw[e];exact (flt c hc).1)
 have finj2:∀ b c,f0 b=f0 c→b=c:=fun b c e=>by
  rcases Nat.lt_or_ge b k with hb | hb<;>rcases Nat.lt_or_ge c k with hc | hc
  ·exact finj b c hb hc e
  ·have:=(flt b hb).2;have:=fge c hc;omega
  ·have:=(flt c hc).2;have:=fge b hb;omega
  ·have:=fge b hb;have:=fge c hc;omega
 have hown:∀ j,l≤j→j<k→lo≤f0 j:=fun j h1 h2=>Nat.le_of_ble_eq_true (List.all_eq_true.1 c9 _ (hmemd j h1 h2))
 let β0:Bl:=⟨fun j=>if j<k then β (f0 j) else none,fun j=>if j<k then β.g (f0 j) else none,β.h,fun k=>β.h k≠none⟩
 have b0f:∀ {j r},β0 j=some r→j<k∧β (f0 j)=some r:=fun {j r} e=>by
  have e':(if j<k then β (f0 j) else none)=some r:=e
  split at e'
  ·exact⟨by assumption,e'⟩
  ·cases e'
 have b0g:∀ {j u},β0.g j=some u→j<k∧β.g (f0 j)=some u:=fun {j u} e=>by
  have e':(if j<k then β.g (f0 j) else none)=some u:=e
  split at e'
  ·exact⟨by assumption,e'⟩
  ·cases e'
 have f0at:∀ j,j<k→qfG f0 β β0 j:=fun j hj=>⟨fun r e=>by show (if j<k then β (f0 j) else none)=_;rw[if_pos hj];exact e,fun u e=>by show (if j<k then β.g (f0 j) else none)=_;rw[if_pos hj];exact e⟩
 have d0:β0.dom k:=fun j hj=>⟨if_neg (by omega),if_neg (by omega)⟩
 have ent:∀ {b o sv},qae pre b o=some sv→b<k∧(∀ c∈sv.nm,c<k)∧qae st.hp (f0 b) o=some (sv.ren f0):=fun {b o sv} h=>by
  have hm:=qaj h
  have h1:=List.all_eq_true.1 c4 _ hm
  simp only[Bool.and_eq_true] at h1
  exact⟨Nat.le_of_ble_eq_true h1.1,SV.own_nm h1.2,qbw hp _ hm⟩
 have hkey:∀ j,j<k→∃ o sv,qae pre j o=some sv:=by
  intro j hj
  obtain⟨e,he,hje⟩:=List.any_eq_true.1 (List.all_eq_true.1 c5 j (List.mem_range.2 hj))
  have hje:=Nat.eq_of_beq_eq_true hje
  obtain⟨b,o,sv⟩:=e
  simp only at hje
  subst hje
  refine⟨o,?_⟩
  clear hp hF c4 c5 ent
  induction pre with
  | nil=>cases he
  | cons z r ih=>
   obtain⟨c,q,y⟩:=z
   rw[qaf]
   by_cases e1:c=b∧q=o
   ·rw[if_pos e1];exact⟨y,rfl⟩
   ·rw[if_neg e1]
    rcases List.mem_cons.1 he with he | he
    ·cases he;exact (e1 ⟨rfl,rfl⟩).elim
    ·exact ih he
 let X:Nat→Prop:=fun r=>∃ j o s,l≤j∧j<k∧qae st.hp (f0 j) o=some s∧(β (f0 j)=some r∨∃ u,s.isR=true∧β.g (f0 j)=some u∧u.ownBlock=some r)
 have hXown:∀ r,X r→W0.own r:=by
  rintro r ⟨j,o,s,h1,h2,g3,h3 | ⟨u,hs,h3,h4⟩⟩
  ·exact H.new _ r (hown j h1 h2) h3
  ·obtain⟨u',_,_,_,_,_,a1,a2⟩:=H.rows0 _ _ _ g3 hs
   rw[h3] at a1
   cases a1
   exact (qal (a2.own (hown j h1 h2)) r h4).1
 have hXno:∀ r,X r→β.h r=none:=by
  rintro r ⟨j,o,s,h1,h2,g3,h3 | ⟨u,hs,h3,h4⟩⟩
  ·exact H.fz.box _ _ _ _ g3 h3
  ·exact H.fz.row _ _ _ _ _ g3 hs (hown j h1 h2) h3 h4
 have hkeepB:∀ c r,β c=some r→(∀ j,l≤j→j<k→f0 j≠c)→¬ X r:=by
  rintro c r hc hn ⟨j,o,s,h1,h2,g3,h3 | ⟨u,hs,h3,h4⟩⟩
  ·exact hn j h1 h2 (H.inj _ _ r h3 hc)
  ·obtain⟨u',_,_,_,_,_,a1,a2⟩:=H.rows0 _ _ _ g3 hs
   rw[h3] at a1
   cases a1
   exact a2.apart (hown j h1 h2) c r hc h4
 have hkeepR:∀ c o s e es n xs u,qae st.hp c o=some s→s.isR=true→β.g c=some u→RowIs W0 lo β w c e es n xs u→(∀ j,l≤j→j<k→f0 j≠c)→(lo≤c∨xs≠[])→∀ i,u.ownBlock=some i→¬ X i:=by
  intro c o s e es n xs u hc hsr hg a2 hn hx i hi hX
  by_cases hlc:lo≤c
  ·obtain⟨j,o',s',h1,h2,g3,h3 | ⟨v,hs,h3,h4⟩⟩:=hX
   ·exact a2.apart hlc _ i h3 hi
   ·exact H.rinj0 _ _ _ _ _ _ v u g3 hc hs hsr (hown j h1 h2) hlc (hn j h1 h2) h3 hg i h4 hi
  ·exact W0.apart i (a2.low (by omega) (hx.resolve_left hlc) i hi) (hXown i hX)
 have H0:HRel (Base.at w X) l β0 pre w:=by
  refine⟨GrX.of_gr (Gr.refl w),fun b r e=>H.live _ r (b0f e).2,fun b c r e1 e2=>finj b c (b0f e1).1 (b0f e2).1 (H.inj _ _ r (b0f e1).2 (b0f e2).2),fun b r hb e=>(by obtain⟨o,sv,hsv⟩:=hkey b (b0f e).1;exact Or.inr ⟨b,o,_,hb,(b0f e).1,(ent hsv).2.2,Or.inl (b0f e).2⟩),fun b r e=>?_,fun b o sv hc hs=>?_,fun b o s hc hsr=>?_,fun b o s c o' s' u v f1 f2 q1 q2 f3 f4 f5 f6 f7=>?_,fun b o xs hc=>?_,
   H.fz.mem,fun k e=>Or.inr e,fun b o s r hc e=>H.fz.box _ _ _ _ (ent hc).2.2 (b0f e).2,fun b o s u i hc hsr hb hu hi=>?_,fun b o e es n ds hc=>?_,fun b o e es n ds hc=>?_⟩
  ·obtain⟨e1,e2⟩:=b0f e
   show (if b<k then β.g (f0 b) else none)=none
   rw[if_pos e1]
   exact H.sep _ r e2
  ·obtain⟨g1,g2,g3⟩:=ent hc
   obtain⟨r,u,a1,a2,a3⟩:=H.cells _ _ _ g3 (by rw[SV.ren_row];exact hs)
   exact⟨r,u,(f0at b g1).1 r a1,SV.ren_is (fun c hc=>f0at c (g2 c hc)) a2,a3⟩
  ·obtain⟨g1,g2,g3⟩:=ent hc
   rw[SV.ren_eq (SV.isR_row hsr)] at g3
   obtain⟨u,e,es,n,xs,a0,a1,a2⟩:=H.rows0 _ _ _ g3 hsr
   refine⟨u,e,es,n,xs,a0,(f0at b g1).2 u a1,a2.rd,a2.one,fun hb hx j hj=>⟨a2.rd.lt hx j hj,hkeepR _ _ _ _ _ _ _ _ g3 hsr a1 a2 (fun i hi _ e=>?_) (Or.inr hx) j hj⟩,fun hb=>⟨qaD (a2.own (hown b hb g1)),fun j hj=>Or.inr ⟨b,o,s,hb,g1,g3,Or.inr ⟨u,hsr,a1,hj⟩⟩⟩,fun hb c r hc=>a2.apart (hown b hb g1) _ r (b0f hc).2⟩
   have:=finj2 _ _ e
   omega
  ·obtain⟨g1,_,g3⟩:=ent f1
   obtain⟨k1,_,k3⟩:=ent f2
   exact H.rinj0 _ _ _ _ _ _ u v g3 k3 (by rw[SV.ren_isR];exact q1) (by rw[SV.ren_isR];exact q2) (hown b f3 g1) (hown c f4 k1) (fun e=>f5 (finj2 _ _ e)) (b0g f6).2 (b0g f7).2
  ·obtain⟨g1,g2,g3⟩:=ent hc
   obtain⟨r,a1,a2⟩:=H.maps _ _ _ g3
   exact⟨r,(f0at b g1).1 r a1,a2⟩
  ·obtain⟨g1,g2,g3⟩:=ent hc
   exact H.fz.row _ _ _ _ _ g3 (by rw[SV.ren_isR];exact hsr) (hown b hb g1) (b0g hu).2 hi
  ·obtain⟨g1,g2,g3⟩:=ent hc
   obtain⟨u,a1,a2⟩:=H.fz.rr _ _ _ _ _ _ g3
   exact⟨u,(f0at b g1).2 u a1,a2⟩
  ·obtain⟨g1,g2,g3⟩:=ent hc
   obtain⟨u,a1,a2⟩:=H.fz.pr _ _ _ _ _ _ g3
   exact⟨u,(f0at b g1).2 u a1,a2⟩
 have hu0:SV.isl β0 args0 us:=by
  rw[← ha] at hu
  refine SV.ren_isl (β:=β) (γ:=β0) (fun _ _=>rfl) (fun b hb=>f0at b ?_) hu
  obtain⟨s,hs,hb⟩:=List.mem_flatMap.1 hb
  exact SV.own_nm (List.all_eq_true.1 c3 s hs) b hb
 refine (hF (Base.at w X) w β0 us H0 d0 hu0).mono fun e w' hh=>?_
 obtain⟨v,γ,rfl,hle,hx,H',hdγ⟩:=hh
 have hdef:∀ j,j<k→γ j=β (f0 j)∧γ.g j=β.g (f0 j):=by
  intro j hj
  have hd':β0 j≠none∨β0.g j≠none:=by
   obtain⟨o,sv',hsv⟩:=hkey j hj
   rcases H0.named hsv with ⟨r,a1⟩ | ⟨u,a1⟩
   ·exact Or.inl (by rw[a1];simp)
   ·exact Or.inr (by rw[a1];simp)
  obtain⟨h1,h2⟩:=hle.1 j hd'
  refine⟨h1.trans ?_,h2.trans ?_⟩
  ·show (if j<k then β (f0 j) else none)=_;rw[if_pos hj]
  ·show (if j<k then β.g (f0 j) else none)=_;rw[if_pos hj]
 let β':Bl:=⟨fun b=>if st.nb≤b then γ (b-st.nb+k) else β b,fun b=>if st.nb≤b then γ.g (b-st.nb+k) else β.g b,γ.h,β.h0⟩
 have hhle:∀ k,β.h k≠none→γ.h k=β.h k:=hle.2.1
 have bnew:∀ {b r},st.nb≤b→β' b=some r→γ (b-st.nb+k)=some r:=fun {b r} hb e=>by
  have e':(if st.nb≤b then γ (b-st.nb+k) else β b)=some r:=e
  rw[if_pos hb] at e';exact e'
 have bold:∀ {b},b<st.nb→β' b=β b∧β'.g b=β.g b:=fun {b} hb=>⟨if_neg (by omega),if_neg (by omega)⟩
 have hto:∀ j,j<k+m→qip f0 γ β' j:=by
  intro j hj
  by_cases hjk:j<k
  ·obtain⟨h1,h2⟩:=hdef j hjk
   obtain⟨o1,o2⟩:=bold (flt j hjk).2
   exact⟨fun r e=>by rw[o1,← h1];exact e,fun u e=>by rw[o2,← h2];exact e⟩
  ·have hf:=fge j (by omega)
   have hj':f0 j-st.nb+k=j:=by omega
   refine⟨fun r e=>?_,fun u e=>?_⟩
   ·show (if st.nb≤f0 j then γ (f0 j-st.nb+k) else β (f0 j))=_
    rw[if_pos (by omega),hj'];exact e
   ·show (if st.nb≤f0 j then γ.g (f0 j-st.nb+k) else β.g (f0 j))=_
    rw[if_pos (by omega),hj'];exact e
 have hle':β.le β':=by
  refine⟨fun b e=>?_,hhle,rfl⟩
  have hb:b<st.nb:=by
   rcases Nat.lt_or_ge b st.nb with h | h
   ·exact h
   ·obtain⟨h1,h2⟩:=hd b h
    rcases e with e | e
    ·exact (e h1).elim
    ·exact (e h2).elim
  exact bold hb
 have hg:GrX X w w':=H'.gr
 have hW:W0.gr w':=W0.step w w' X H.gr hXown hg
 have up:∀ r,(Base.at w X).own r→W0.own r:=fun r h=>h.elim (fun h=>W0.fresh _ H.gr r h) (hXown r)
 have entp:∀ {b o s},qae (qlo f0 post++qkz N st.hp) b o=some s→(∃ j t,l≤j∧j<k+m∧f0 j=b∧qae post j o=some t∧s=t.ren f0∧(∀ c∈t.nm,c<k+m))∨(qae st.hp b o=some s∧∀ j,l≤j→j<k→f0 j≠b):=by
  intro b o s h
  rw[qbA] at h
  cases e:qae (qlo f0 post) b o with
  | none=>
   rw[e] at h
   obtain⟨h1,h2⟩:=qkv (show qae (qkz N st.hp) b o=some s by simpa using h)
   exact Or.inr ⟨h1,fun j g1 g2 g3=>h2 (by rw[← g3];exact hmemd j g1 g2)⟩
  | some y=>
   rw[e] at h
   have:y=s:=by simpa using h
   subst this
   obtain⟨j,t,_,h2,h3,h4⟩:=qdZ (f:=f0) (K:=fun _=>True) (fun b c _ _ e=>finj2 b c e) (fun _ _=>trivial) e
   have hm:=List.all_eq_true.1 c7 _ (qaj h3)
   have hm2:=List.all_eq_true.1 c8 _ (qaj h3)
   simp only[Bool.and_eq_true] at hm
   exact Or.inl ⟨j,t,Nat.le_of_ble_eq_true hm2,Nat.le_of_ble_eq_true hm.1,h2,h3,h4,SV.own_nm hm.2⟩
 have hge:∀ j,l≤j→lo≤f0 j:=fun j hj=>by
  rcases Nat.lt_or_ge j k with h | h
  ·exact hown j hj h
  ·have:=fge j h;omega
 have hcl:∀ c r,β c=some r→X r→∃ j,l≤j∧j<k∧f0 j=c:=by
  intro c r hc hX
  apply Classical.byContradiction
  intro hn
  exact hkeepB c r hc (fun j h1 h2 e=>hn ⟨j,h1,h2,e⟩) hX
 have hold:∀ r,r<w.heap.size→β.h r=none→¬ X r→γ.h r=none:=fun r hr e hX=>by
  apply Classical.byContradiction
  intro hne
  rcases H'.fz.own r hne with h1 | h1
  ·rcases h1 with h1 | h1
   ·omega
   ·exact hX h1
  ·rw[hle.2.2] at h1
   exact h1 e
 have rowc:∀ b o s,qae (qlo f0 post++qkz N st.hp) b o=some s→s.isR=true→(∃ j,l≤j∧j<k+m∧f0 j=b∧qae post j o=some s∧∃ u e es n xs,s.isRw γ.h e es n xs∧β'.g b=some u∧γ.g j=some u∧RowIs (Base.at w X) l γ w' j e es n xs u)∨
  (qae st.hp b o=some s∧(∀ j,l≤j→j<k→f0 j≠b)∧∃ u e es n xs,s.isRw γ.h e es n xs∧β'.g b=some u∧β.g b=some u∧RowIs W0 lo β w b e es n xs u):=fun b o s hc hsr=>by
  rcases entp hc with ⟨j,t,h1,h2,rfl,h3,h5,h4⟩ | ⟨h3,hn⟩
  ·have htr:t.isR=true:=by rw[h5,SV.ren_isR] at hsr;exact hsr
   rw[SV.ren_eq (SV.isR_row htr)] at h5
   subst h5
   obtain⟨u,e,es,n,xs,a0,a1,a2⟩:=H'.rows0 _ _ _ h3 hsr
   exact Or.inl ⟨j,h1,h2,rfl,h3,u,e,es,n,xs,a0,(hto j h2).2 u a1,a1,a2⟩
  ·obtain⟨u,e,es,n,xs,a0,a1,a2⟩:=H.rows0 _ _ _ h3 hsr
   exact Or.inr ⟨h3,hn,u,e,es,n,xs,SV.isRw_mono hhle a0,hle'.g a1,a1,a2⟩
 refine⟨v,β',rfl,hle',SV.to_is (fun c hc=>hto c (SV.own_nm c6 c hc)) hx,?_,fun b hb=>?_,by omega⟩
 ·refine⟨hW,fun b r e=>?_,fun b c r e1 e2=>?_,fun b r hb e=>?_,fun b r e=>?_,fun b o sv hc hs=>?_,fun b o s hc hsr=>?_,fun b o s c o' s' u v f1 f2 q1 q2 f3 f4 f5 f6 f7 j hj=>?_,fun b o xs hc=>?_,
   H'.fz.mem,fun j hj=>?_,fun b o s r hc e=>?_,fun b o s u j hc hsr hb hu hj=>?_,fun b o e es n ds hc=>?_,fun b o e es n ds hc=>?_⟩
  ·by_cases hb:st.nb≤b
   ·exact H'.live _ r (bnew hb e)
   ·rw[(bold (by omega)).1] at e;exact Nat.lt_of_lt_of_le (H.live _ r e) hg.size
  ·have mixed:∀ b c,st.nb≤b→¬ st.nb≤c→β' b=some r→β' c=some r→False:=by
    intro b c hb hc e1 e2
    have e1:=bnew hb e1
    rw[(bold (by omega)).1] at e2
    rcases H'.new _ r (by omega) e1 with h | h
    ·have:=H.live _ r e2;omega
    ·obtain⟨j,h1,h2,h3⟩:=hcl c r e2 h
     subst h3
     have:=H'.inj _ _ r e1 ((hdef j h2).1.trans e2)
     omega
   by_cases hb:st.nb≤b<;>by_cases hc:st.nb≤c
   ·have:=H'.inj _ _ r (bnew hb e1) (bnew hc e2);omega
   ·exact (mixed b c hb hc e1 e2).elim
   ·exact (mixed c b hc hb e2 e1).elim
   ·rw[(bold (by omega)).1] at e1 e2
    exact H.inj _ _ r e1 e2
  ·by_cases hb':st.nb≤b
   ·exact up r (H'.new _ r (by omega) (bnew hb' e))
   ·rw[(bold (by omega)).1] at e;exact H.new _ r hb e
  ·by_cases hb':st.nb≤b
   ·show (if st.nb≤b then γ.g (b-st.nb+k) else β.g b)=none
    rw[if_pos hb']
    exact H'.sep _ r (bnew hb' e)
   ·rw[(bold (by omega)).1] at e
    rw[(bold (by omega)).2]
    exact H.sep _ r e
  ·rcases entp hc with ⟨j,t,h1,h2,rfl,h3,rfl,h4⟩ | ⟨h3,hn⟩
   ·obtain⟨r,u,a1,a2,a3⟩:=H'.cells _ _ _ h3 (by rw[SV.ren_row] at hs;exact hs)
    exact⟨r,u,(hto j h2).1 r a1,SV.to_is (fun c hc=>hto c (h4 c hc)) a2,a3⟩
   ·obtain⟨r,u,a1,a2,a3,a4,a5⟩:=H.cells _ _ _ h3 hs
    have hlv:=H.live b r a1
    exact⟨r,u,hle'.f a1,SV.is_mono hle' a2,a3,(World.cell?_of_block (a:=⟨r,o,none⟩) (hg.block r hlv (hkeepB b r a1 hn))).trans a4,(hg.fz _ hlv).trans a5⟩
  ·rcases rowc _ _ _ hc hsr with ⟨j,h1,h2,h2',h3,u,e,es,n,xs,a0,a1,a1',a2⟩ | ⟨h3,hn,u,e,es,n,xs,a0,a1,a1',a2⟩
   ·subst h2'
    refine⟨u,e,es,n,xs,a0,a1,a2.rd,a2.one,fun hb=>by have:=hge j h1;omega,fun _=>qa2 (qaD (a2.own h1)) fun i hi=>up i (qal (a2.own h1) i hi).1,fun _ c r e1 hk'=>?_⟩
    by_cases hc':st.nb≤c
    ·exact a2.apart h1 _ r (bnew hc' e1) hk'
    ·rw[(bold (by omega)).1] at e1
     rcases (qal (a2.own h1) r hk').1 with h | h
     ·have:=H.live _ r e1;omega
     ·obtain⟨i,i1,i2,i3⟩:=hcl c r e1 h
      subst i3
      exact a2.apart h1 i r ((hdef i i2).1.trans e1) hk'
   ·have hk3:=hkeepR _ _ _ _ _ _ _ _ h3 hsr a1' a2 hn
    refine⟨u,e,es,n,xs,a0,a1,a2.rd.keep fun hx i hi o=>World.cell?_of_block (a:=⟨i,o,none⟩) (hg.block i (a2.rd.lt hx i hi) (hk3 (Or.inr hx) i hi)),a2.one,a2.low,fun hb=>qco (a2.own hb) fun i hi=>hg.block i (qal (a2.own hb) i hi).2 (hk3 (Or.inl hb) i hi),fun hb c r e1 hk'=>?_⟩
    by_cases hc':st.nb≤c
    ·rcases H'.new _ r (by omega) (bnew hc' e1) with h | h
     ·have:=(qal (a2.own hb) r hk').2;omega
     ·exact hk3 (Or.inl hb) r hk' h
    ·rw[(bold (by omega)).1] at e1
     exact a2.apart hb c r e1 hk'
  ·have pk:∀ {i1 c o' s' e es n xs e' es' n' xs'} {u v:Value},l≤i1→RowIs (Base.at w X) l γ w' i1 e es n xs u→qae st.hp c o'=some s'→s'.isR=true→(∀ j,l≤j→j<k→f0 j≠c)→lo≤c→β.g c=some v→RowIs W0 lo β w c e' es' n' xs' v→∀ i,u.ownBlock=some i→v.ownBlock=some i→False:=by
    intro i1 c o' s' e es n xs e' es' n' xs' u v h1 a2 h3 hs' hn hlc d1 d2 i hi hiv
    rcases (qal (a2.own h1) i hi).1 with h | h
    ·have:=(qal (d2.own hlc) i hiv).2;omega
    ·exact hkeepR _ _ _ _ _ _ _ _ h3 hs' d1 d2 hn (Or.inl hlc) i hiv h
   rcases rowc _ _ _ f1 q1 with ⟨i1,h1,h2,h2',h3,u',_,_,_,_,_,a1,a1',a2⟩ | ⟨h3,hn,u',_,_,_,_,_,a1,a1',a2⟩<;>(rw[f6] at a1;cases a1)<;>rcases rowc _ _ _ f2 q2 with ⟨i2,k1,k2,k2',k3,v',_,_,_,_,_,d1,d1',d2⟩ | ⟨k3,hn',v',_,_,_,_,_,d1,d1',d2⟩<;>(rw[f7] at d1;cases d1)
   ·exact H'.rinj0 _ _ _ _ _ _ _ _ h3 k3 q1 q2 h1 k1 (fun e=>f5 (by rw[← h2',← k2',e])) a1' d1' j hj
   ·exact fun hjv=>pk h1 a2 k3 q2 hn' f4 d1' d2 j hj hjv
   ·exact fun hjv=>pk k1 d2 h3 q1 hn f3 a1' a2 j hjv hj
   ·exact H.rinj0 _ _ _ _ _ _ _ _ h3 k3 q1 q2 f3 f4 f5 a1' d1' j hj
  ·rcases entp hc with ⟨j,t,h1,h2,rfl,h3,h5,h4⟩ | ⟨h3,hn⟩
   ·have ht:=SV.ren_eq_mrow h5.symm
    subst ht
    obtain⟨r,a1,a2⟩:=H'.maps _ _ _ h3
    exact⟨r,(hto j h2).1 r a1,a2⟩
   ·obtain⟨r,a1,a2⟩:=H.maps _ _ _ h3
    exact⟨r,hle'.f a1,a2.keep (hg.block r (H.live b r a1) (hkeepB b r a1 hn))⟩
  ·rcases H'.fz.own j hj with h1 | h1
   ·exact Or.inl (up j h1)
   ·rw[hle.2.2] at h1
    exact H.fz.own j h1
  ·rcases entp hc with ⟨j,t,h1,h2,rfl,h3,_,_⟩ | ⟨h3,hn⟩
   ·rcases Nat.lt_or_ge j k with hjk | hjk
    ·rw[(bold (flt j hjk).2).1,← (hdef j hjk).1] at e
     exact H'.fz.box _ _ _ _ h3 e
    ·have hj:=fge j hjk
     have e':=bnew (b:=f0 j) (by omega) e
     rw[show f0 j-st.nb+k=j by omega] at e'
     exact H'.fz.box _ _ _ _ h3 e'
   ·have hbn:b<st.nb:=by
     rcases Nat.lt_or_ge b st.nb with h' | h'
     ·exact h'
     ·obtain⟨z1,z2⟩:=hd b h'
      rcases H.named h3 with ⟨r,a1⟩ | ⟨u,a1⟩
      ·rw[z1] at a1;cases a1
      ·rw[z2] at a1;cases a1
    rw[(bold hbn).1] at e
    exact hold r (H.live b r e) (H.fz.box _ _ _ _ h3 e) (hkeepB b r e hn)
  ·rcases rowc _ _ _ hc hsr with ⟨i1,h1,h2,h2',h3,u',_,_,_,_,_,a1,a1',a2⟩ | ⟨h3,hn,u',_,_,_,_,_,a1,a1',a2⟩
   ·rw[hu] at a1;cases a1
    exact H'.fz.row _ _ _ _ _ h3 hsr h1 a1' hj
   ·rw[hu] at a1;cases a1
    exact hold j (qal (a2.own hb) j hj).2 (H.fz.row _ _ _ _ _ h3 hsr hb a1' hj) (hkeepR _ _ _ _ _ _ _ _ h3 hsr a1' a2 hn (Or.inl hb) j hj)
  ·rcases entp hc with ⟨j,t,h1,h2,rfl,h3,h5,h4⟩ | ⟨h3,hn⟩
   ·cases t<;>cases h5
    obtain⟨u,a1,a2⟩:=H'.fz.rr _ _ _ _ _ _ h3
    exact⟨u,(hto j h2).2 u a1,a2⟩
   ·obtain⟨u,a1,a2⟩:=H.fz.rr _ _ _ _ _ _ h3
    exact⟨u,hle'.g a1,a2.mono hhle⟩
  ·rcases entp hc with ⟨j,t,h1,h2,rfl,h3,h5,h4⟩ | ⟨h3,hn⟩
   ·cases t<;>cases h5
    obtain⟨u,a1,a2⟩:=H'.fz.pr _ _ _ _ _ _ h3
    exact⟨u,(hto j h2).2 u a1,a2⟩
   ·obtain⟨u,a1,a2⟩:=H.fz.pr _ _ _ _ _ _ h3
    exact⟨u,hle'.g a1,a2.mono hhle⟩
 ·have h1:=hdγ (b-st.nb+k) (by omega)
  refine⟨?_,?_⟩
  ·show (if st.nb≤b then γ (b-st.nb+k) else β b)=none
   rw[if_pos (by omega)];exact h1.1
  ·show (if st.nb≤b then γ.g (b-st.nb+k) else β.g b)=none
   rw[if_pos (by omega)];exact h1.2
end Go.Proofs.YtleaeldgaflmkaaGreat
