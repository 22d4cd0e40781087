/-
  Joined: Mb, Me. Conditions: none.
-/
import Derived.Test.YtleaeldgaflmkaaGreatMa
import Derived.Test.YtleaeldgaflmkaaGreatW33
import Derived.Test.YtleaeldgaflmkaaGreatW25
import Derived.Test.YtleaeldgaflmkaaGreatMc
import Derived.Test.YtleaeldgaflmkaaGreatW36
namespace Go.Proofs.YtleaeldgaflmkaaGreat
set_option maxRecDepth 100000
open Go.RowKit
theorem qt9:∃ o:Oper,(po.toList.drop 3).take 1=[o]∧o.op=.call (qcy o)∧(qcy o).callee=.value (.tmp 25)∧(qcy o).args=#[.tmp 26,.tmp 27]∧o.dst=some 28∧o.guard=none:=
 ⟨po.getD 3 default,by kernel_rfl,by kernel_rfl,by kernel_rfl,by kernel_rfl,by kernel_rfl,by kernel_rfl⟩
def qp7 (rb:Nat) (u:Value):Bl:=⟨fun b=>if b=1 then some rb else none,fun b=>if b=0 then some u else none,fun _=>none,fun _=>False⟩
theorem qnX {W:World} {rb:Nat} {u:Value} {l:List Pt} (hc:W.cell? ⟨rb,0,none⟩=some u) (hf:W.frozen? ⟨rb,0,none⟩=false) (hr:Rd W 3 u l.length (qay l)):HRel W 2 (qp7 rb u) (pH l) W where
 gr:=Gr.refl W
 live:=fun b r h=>by
  unfold qp7 at h
  simp only at h
  split at h
  ·cases h;exact World.block_lt_of_cell? W _ hc
  ·cases h
 inj:=fun b c r h1 h2=>by
  unfold qp7 at h1 h2
  simp only at h1 h2
  split at h1
  ·split at h2
   ·omega
   ·cases h2
  ·cases h1
 new:=fun b r hb h=>by
  unfold qp7 at h
  simp only at h
  rw[if_neg (by omega)] at h
  cases h
 sep:=fun b r h=>by
  unfold qp7 at h ⊢
  simp only at h ⊢
  split at h
  ·rw[if_neg (by omega)]
  ·cases h
 cells:=fun b o sv hl hs=>by
  rw[qaf] at hl
  split at hl
  ·rename_i e
   obtain⟨rfl,rfl⟩:=e
   cases hl
   obtain⟨_,a,c,rfl,_⟩:=hr
   exact⟨rb,_,rfl,⟨rfl,a,c,rfl⟩,rfl,hc,hf⟩
  ·rw[qaf] at hl
   split at hl
   ·cases hl;cases hs
   ·cases hl
 rows0:=qpG (qzF (by rfl)) fun b o e es n xs hl=>by
  rw[qaf] at hl
  split at hl
  ·cases hl
  ·rw[qaf] at hl
   split at hl
   ·rename_i e
    obtain⟨rfl,rfl⟩:=e
    cases hl
    exact⟨u,rfl,hr,qh4 l,fun _ hx=>hr.lt hx,fun h=>by omega,fun h=>by omega⟩
   ·cases hl
 rinj0:=qqK (qzF (by rfl)) fun b o e es n xs c o' e' es' n' xs' u v hl hl' h1 h2 hne h6=>by
  unfold qp7 at h6
  simp only at h6
  rw[if_neg (by omega)] at h6
  cases h6
 maps:=fun b o xs hl=>(qrl (by rfl) hl).elim
 fz:=FzIs.no1 (qzF (by rfl)) fun _=>rfl
theorem qlI (rb:Nat) (u:Value):(qp7 rb u).dom 2:=fun b hb=>by
 unfold qp7
 simp only
 rw[if_neg (by omega),if_neg (by omega)]
 exact⟨rfl,rfl⟩
theorem qok {l:List Pt} {i:Nat} {p:Pt} (h:l[i]?=some p):qau (l.drop i)=(l.drop (i+1)).map (fun q=>(p,q))++qau (l.drop (i+1)):=by
 obtain⟨hl,rfl⟩:=List.getElem?_eq_some_iff.1 h
 rw[List.drop_eq_getElem_cons hl]
 rfl
section
variable {y:Nat} {M B:Nat→Prop} {J:Nat→(Nat→Prop)→World→Prop} {W:World} {rb:Nat} {u:Value} {l:List Pt}
structure PInv (M:Nat→Prop) (J:Nat→(Nat→Prop)→World→Prop) (W:World) (rb:Nat) (u:Value) (l:List Pt) (rem:List (Array Value)) (β:Bl) (a:Act) (w:World) (k:Nat) (T:Nat→Prop):Prop where
 df:a.defers=[]
 b1:β 1=some rb
 g0:β.g 0=some u
 kp:Keep (fun b=>b<W.heap.size∧¬ M b) W w
 j:J k T w
 gro:Gro M W T w
 pre:∃ pre,qcz l=pre++rem∧pre.length=k
theorem PInv.on {rem:List (Array Value)} {β γ:Bl} {a a':Act} {w w':World} {k:Nat} {T:Nat→Prop} (h:PInv M J W rb u l rem β a w k T) (hJ:∀ k T w w',J k T w→Keep (fun b=>b<W.heap.size∨T b) w w'→J k T w') (hd:a'.defers=a.defers) (h1:γ 1=β 1) (h0:γ.g 0=β.g 0) (hg:Gr w w'):PInv M J W rb u l rem γ a' w' k T:=
 ⟨hd.trans h.df,h1.trans h.b1,h0.trans h.g0,h.kp.trans (Keep.of_gr hg _),hJ _ _ _ _ h.j (Keep.of_gr hg _),h.gro.on (Nat.le_refl _) hg.size,h.pre⟩
theorem qgv (hM:∀ b,M b→b<W.heap.size∧¬ B b) (hJ:∀ k T w w',J k T w→Keep (fun b=>b<W.heap.size∨T b) w w'→J k T w') (hB1:B rb∧rb<W.heap.size) (hB2:qay l≠[]→∀ k,u.ownBlock=some k→B k∧k<W.heap.size) (hn:l.length≤1000000)
 (hY:∀ k x w T,(qcz l)[k]?=some x→W.heap.size≤w.heap.size→(∀ b,T b→b<w.heap.size)→(∀ b,T b→b<W.heap.size→M b)→J k T w→YieldAt (FW none) 0 Tryz.prog y x w fun e w'=>e=.returned (.bool true)∧∃ T',J (k+1) T' w'∧Keep (fun b=>¬ T b) w w'∧Gro T w T' w')
 {i:Nat} {p:Pt} {Q:Exit→Act→World→Prop}
 (hQ:∀ β a (w:World) k T,Rel w 3 β (qaC 32 3 (pTi y l i (l.length-(i+1))) (pH2 l p) []) (clr a) w→PInv M J W rb u l (qcz (l.drop (i+1))) β a w k T→Q (.exit 2) a w) :
 ∀ (d j:Nat),j+d=l.length-(i+1)→∀ (β:Bl) (a:Act) (w:World) (k:Nat) (T:Nat→Prop),Rel w 3 β (qaC 32 3 (pTi y l i j) (pH2 l p) []) (clr a) w→(∀ r,β 2=some r→¬ T r)→
  PInv M J W rb u l (((l.drop (i+1+j)).map fun q=>qfF (p,q))++qcz (l.drop (i+1))) β a w k T→Code.roundsIn (FW none) 0 Tryz.prog (pc [1,0,0,1,1,0,0,1,1,0,0]) Q (d+1) a w:=by
 intro d
 induction d with
 | zero=>
  intro j hj β a w k T R _ I
  rw[roundsIn_succ,qfd]
  have hj':j=l.length-(i+1):=by omega
  subst hj'
  refine wpIn_seq (qnC y l i _ p false (df (by omega)) none w β a w _ R fun β1 a1 w1 hle1 hd1 R1=>?_)
  refine wpIn_seq (qzG y l i _ p none w β1 a1 w1 _ R1 fun β2 a2 w2 hle2 hd2 R2=>?_)
  have hl:=Bl.leU_trans hle1 hle2
  refine hQ (β2.cut 3) a2 w2 k T (R2.now (by kernel_rfl) (by kernel_rfl) (by kernel_rfl)) ?_
  have e:l.drop (i+1+(l.length-(i+1)))=[]:=List.drop_eq_nil_of_le (by omega)
  rw[e] at I
  exact I.on hJ (hd2.trans hd1) (by rw[(Bl.cut_lt (show 1<3 by omega)).1,I.b1];exact Bl.leU_f hl (by omega) I.b1) (by rw[(Bl.cut_lt (show 0<3 by omega)).2,I.g0];exact Bl.leU_g hl (by omega) I.g0) R2.h.gr
 | succ d ih=>
  intro j hj β a w k T R hn2 I
  rw[roundsIn_succ,qfd]
  obtain⟨q,hq⟩:∃ q,l[i+1+j]?=some q:=⟨l[i+1+j]'(by omega),List.getElem?_eq_getElem _⟩
  refine wpIn_seq (qnC y l i j p true (dt (by omega)) none w β a w _ R fun β1 a1 w1 hle1 hd1 R1=>?_)
  refine wpIn_seq (qvT y l i j p none w β1 a1 w1 _ R1 fun β2 a2 w2 hle2 hd2 R2=>?_)
  refine wpIn_seq (wpIn_block (wpIn_seq (qAe y l i j p q ⟨by omega,by omega⟩ hq none w β2 a2 w2 _ R2 fun β3 a3 w3 hle3 hd3 R3=>?_)))
  refine wpIn_seq (wpIn_region_list ?_)
  obtain⟨o,hol,ho,hc,hargs,hdst,hgd⟩:=qt9
  have hpl:=qt7
  rw[hol,List.append_assoc] at hpl
  show wpListIn (FW none) 0 Tryz.prog po _ po.toList a3 w3
  rw[hpl]
  refine qqm y l i j p q none w β3 a3 w3 _ _ R3 fun β4 a4 w4 hle4 hd4 R4=>qev hgd ?_
  have hle:=Bl.leU_trans (Bl.leU_trans (Bl.leU_trans hle1 hle2) hle3) hle4
  have hdf:a4.defers=a.defers:=hd4.trans (hd3.trans (hd2.trans hd1))
  have I4:PInv M J W rb u l _ β4 a4 w4 k T:=I.on hJ hdf (by rw[I.b1];exact Bl.leU_f hle (by omega) I.b1) (by rw[I.g0];exact Bl.leU_g hle (by omega) I.g0) R4.h.gr
  have hdrop:l.drop (i+1+j)=q::l.drop (i+1+j+1):=by
   obtain⟨hl,rfl⟩:=List.getElem?_eq_some_iff.1 hq
   exact List.drop_eq_getElem_cons hl
  obtain⟨pre,hpre,hlen⟩:=I4.pre
  rw[hdrop,List.map_cons,List.cons_append] at hpre
  have hLk:(qcz l)[k]?=some (qfF (p,q)):=by rw[hpre,← hlen,List.getElem?_append_right (Nat.le_refl _),Nat.sub_self];rfl
  have t25:a4.tmps.getD 25 undef=.func (.yield y) #[] #[]:=R4.t.tmps 25
  have t26:a4.tmps.getD 26 undef=ptV p:=R4.t.tmps 26
  have t27:a4.tmps.getD 27 undef=ptV q:=R4.t.tmps 27
  refine qgR ho hc t25 (xs:=qfF (p,q)) (by rw[hargs];simp only[List.map_toArray,List.map_cons,List.map_nil,Act.eval,t26,t27,qfF]) (hY k _ w4 T hLk I4.kp.size (fun b hb=>(I4.gro b hb).1) (fun b hb hl=>(I4.gro b hb).2.elim id fun h=>by omega) I4.j) fun e w5 ⟨he,T',hj5,hk5,hg5⟩=>⟨_,he,?_⟩
  have hTM:∀ b,b<W.heap.size→T b→M b:=fun b hl hb=>(I4.gro b hb).2.elim id fun h=>by omega
  have hb2:∀ r,β4 2=some r→¬ T r:=fun r hr=>by
   refine hn2 r ?_
   cases e:β 2 with
   | some r'=>rw[Bl.leU_f hle (by omega) e] at hr;exact hr
   | none=>
    obtain⟨r',hr',_⟩:=R.t.tmps 4
    rw[e] at hr';cases hr'
  have hbs:∀ b r,b<3→β4 b=some r→¬ T r:=fun b r hb e=>by
   match b,hb with
   | 0,_=>have:=R4.h.sep 0 r e;rw[I4.g0] at this;cases this
   | 1,_=>rw[I4.b1] at e;cases e;exact fun h=>(hM _ (hTM _ hB1.2 h)).2 hB1.1
   | 2,_=>exact hb2 r e
  have hrs:∀ b o e es n xs v,qae (pH2 l p) b o=some (.row e es n xs)→xs≠[]→β4.g b=some v→∀ k,v.ownBlock=some k→¬ T k:=fun b o e es n xs v hl hx hv k hk=>by
   have hm:=qaj hl
   simp at hm
   have hb0:b=0:=hm.1
   have hxs:xs=qay l:=hm.2.2.2.2.2
   subst hb0
   rw[I4.g0] at hv
   cases hv
   exact fun h=>(hM _ (hTM _ (hB2 (hxs▸hx) _ hk).2 h)).2 (hB2 (hxs▸hx) _ hk).1
  have R5:=R4.later hk5 (l:=3) (tm':=pTi y l i j) (hp':=pH2 l p) (by kernel_rfl) (by kernel_rfl) (by kernel_rfl) hbs hrs
  have R6:=R5.put (d:=28) (x:=.pv (.bool true)) (u:=.bool true) (by decide) rfl
  rw[hdst]
  refine qdx ?_
  refine qnZ y l i j p none w5 _ _ w5 _ [] R6 fun β7 a7 w7 hle7 hd7 R7=>?_
  refine qyX y l i j p none w5 β7 a7 w7 _ R7 fun β8 a8 w8 hle8 hd8 R8=>?_
  refine qth y l i j p (qav (by omega)) none w5 β8 a8 w8 _ R8 fun β9 a9 w9 hle9 hd9 R9=>?_
  have hl9:=Bl.leU_trans (Bl.leU_trans hle7 hle8) hle9
  have f9:∀ b,b<3→(β4 b≠none∨β4.g b≠none)→(β9.cut 3) b=β4 b∧(β9.cut 3).g b=β4.g b:=fun b hb hs=>by
   have c1:=Bl.cut_lt (β:=β4) hb
   have c2:=Bl.cut_lt (β:=β9) hb
   have c3:=hl9.1 b hb (by rw[c1.1,c1.2];exact hs)
   rw[c2.1,c2.2,c3.1,c3.2,c1.1,c1.2]
   exact⟨rfl,rfl⟩
  refine ih (j+1) (by omega) (β9.cut 3) a9 w9 (k+1) T' (R9.now (by kernel_rfl) (by kernel_rfl) (by kernel_rfl)) (fun r hr=>?_) ?_
  ·obtain⟨r',hr'⟩:∃ r',β4 2=some r':=by obtain⟨r',hr',_⟩:=R4.t.tmps 4;exact⟨r',hr'⟩
   rw[(f9 2 (by omega) (Or.inl (by rw[hr'];simp))).1] at hr
   intro h
   rcases (hg5 r h).2 with h2 | h2
   ·exact hb2 r hr h2
   ·have:=R4.h.live 2 r hr;omega
  ·refine⟨?_,?_,?_,?_,?_,?_,pre++[qfF (p,q)],?_,by simp[hlen]⟩
   ·rw[hd9,hd8,hd7,qcE];exact I4.df
   ·rw[(f9 1 (by omega) (Or.inl (by rw[I4.b1];simp))).1];exact I4.b1
   ·rw[(f9 0 (by omega) (Or.inr (by rw[I4.g0];simp))).2];exact I4.g0
   ·exact (I4.kp.trans (hk5.mono fun i _ h=>fun ht=>h.2 (hTM i h.1 ht))).trans (Keep.of_gr R9.h.gr _)
   ·exact hJ _ _ _ _ hj5 (Keep.of_gr R9.h.gr _)
   ·intro b hb
    obtain⟨h1,h2⟩:=hg5 b hb
    have h3:=R9.h.gr.size
    refine⟨by omega,?_⟩
    rcases h2 with h2 | h2
    ·exact (I4.gro b h2).2
    ·exact Or.inr (by have:=I4.kp.size;omega)
   ·rw[hpre,List.append_assoc];rfl
theorem qgj (hM:∀ b,M b→b<W.heap.size∧¬ B b) (hJ:∀ k T w w',J k T w→Keep (fun b=>b<W.heap.size∨T b) w w'→J k T w') (hB1:B rb∧rb<W.heap.size) (hB2:qay l≠[]→∀ k,u.ownBlock=some k→B k∧k<W.heap.size) (hn:l.length≤1000000)
 (hY:∀ k x w T,(qcz l)[k]?=some x→W.heap.size≤w.heap.size→(∀ b,T b→b<w.heap.size)→(∀ b,T b→b<W.heap.size→M b)→J k T w→YieldAt (FW none) 0 Tryz.prog y x w fun e w'=>e=.returned (.bool true)∧∃ T',J (k+1) T' w'∧Keep (fun b=>¬ T b) w w'∧Gro T w T' w')
 {Q:Exit→Act→World→Prop}
 (hQ:∀ β a (w:World) k T,Rel w 2 β (qaC 32 2 (pTo y l l.length) (pH l) []) (clr a) w→PInv M J W rb u l [] β a w k T→Q (.exit 0) a w) :
 ∀ (d i:Nat),i+d=l.length→∀ (β:Bl) (a:Act) (w:World) (k:Nat) (T:Nat→Prop),Rel w 2 β (qaC 32 2 (pTo y l i) (pH l) []) (clr a) w→
  PInv M J W rb u l (qcz (l.drop i)) β a w k T→Code.roundsIn (FW none) 0 Tryz.prog (pc [1,0,0]) Q (d+1) a w:=by
 intro d
 induction d with
 | zero=>
  intro i hi β a w k T R I
  rw[roundsIn_succ,qfv]
  have hi':i=l.length:=by omega
  subst hi'
  refine wpIn_seq (qmw y l _ false (df (by omega)) none w β a w _ R fun β1 a1 w1 hle1 hd1 R1=>?_)
  refine wpIn_seq (qxy y l _ none w β1 a1 w1 _ R1 fun β2 a2 w2 hle2 hd2 R2=>?_)
  have hl:=Bl.leU_trans hle1 hle2
  refine hQ (β2.cut 2) a2 w2 k T (R2.now (by kernel_rfl) (by kernel_rfl) (by kernel_rfl)) ?_
  rw[List.drop_eq_nil_of_le (Nat.le_refl _)] at I
  exact I.on hJ (hd2.trans hd1) (by rw[(Bl.cut_lt (show 1<2 by omega)).1,I.b1];exact Bl.leU_f hl (by omega) I.b1) (by rw[(Bl.cut_lt (show 0<2 by omega)).2,I.g0];exact Bl.leU_g hl (by omega) I.g0) R2.h.gr
 | succ d ih=>
  intro i hi β a w k T R I
  rw[roundsIn_succ,qfv]
  obtain⟨p,hp⟩:∃ p,l[i]?=some p:=⟨l[i]'(by omega),List.getElem?_eq_getElem _⟩
  refine wpIn_seq (qmw y l i true (dt (by omega)) none w β a w _ R fun β1 a1 w1 hle1 hd1 R1=>?_)
  refine wpIn_seq (qvs y l i none w β1 a1 w1 _ R1 fun β2 a2 w2 hle2 hd2 R2=>?_)
  refine wpIn_seq (wpIn_block (wpIn_seq (qAi y l i p ⟨by omega,by omega⟩ hp none w β2 a2 w2 _ R2 fun β3 a3 w3 hle3 hd3 R3=>?_)))
  refine wpIn_seq (qwR y l i p (qav (by omega)) (by omega) none w β3 a3 w3 _ R3 fun β4 a4 w4 hle4 hd4 R4=>?_)
  have hle:=Bl.leU_trans (Bl.leU_trans (Bl.leU_trans hle1 hle2) hle3) ⟨fun b hb h=>hle4.1 b (by omega) h,hle4.2⟩
  have hdf:a4.defers=a.defers:=hd4.trans (hd3.trans (hd2.trans hd1))
  have I4:PInv M J W rb u l _ (β4.cut 3) a4 w4 k T:=I.on hJ hdf (by rw[(Bl.cut_lt (show 1<3 by omega)).1,I.b1];exact Bl.leU_f hle (by omega) I.b1) (by rw[(Bl.cut_lt (show 0<3 by omega)).2,I.g0];exact Bl.leU_g hle (by omega) I.g0) R4.h.gr
  rw[show qcz (l.drop i)=((l.drop (i+1)).map fun q=>qfF (p,q))++qcz (l.drop (i+1)) by rw[qcz,qok hp,List.map_append,List.map_map];rfl] at I4
  refine wpIn_block (wpIn_loop_rounds _ (qgv (i:=i) (p:=p) hM hJ hB1 hB2 hn hY (fun β5 a5 w5 k5 T5 R5 I5=>?_) (l.length-(i+1)) 0 (by omega) (β4.cut 3) a4 w4 k T (R4.now (by kernel_rfl) (by kernel_rfl) (by kernel_rfl)) (fun r hr=>?_) I4))
  ·have R6:Rel w5 2 (β5.cut 2) (qaC 32 2 (pTo y l i) (pH l) []) (clr a5) w5:=R5.now (by kernel_rfl) (by kernel_rfl) (by kernel_rfl)
   refine qtb y l i (qav (by omega)) none w5 _ a5 w5 _ R6 fun β7 a7 w7 hle7 hd7 R7=>?_
   refine ih (i+1) (by omega) (β7.cut 2) a7 w7 k5 T5 (R7.now (by kernel_rfl) (by kernel_rfl) (by kernel_rfl)) ?_
   have c1:β7 1=some rb:=Bl.leU_f hle7 (by omega) (by rw[(Bl.cut_lt (show 1<2 by omega)).1];exact I5.b1)
   have c0:β7.g 0=some u:=Bl.leU_g hle7 (by omega) (by rw[(Bl.cut_lt (show 0<2 by omega)).2];exact I5.g0)
   exact I5.on hJ hd7 (by rw[(Bl.cut_lt (show 1<2 by omega)).1,c1,I5.b1]) (by rw[(Bl.cut_lt (show 0<2 by omega)).2,c0,I5.g0]) R7.h.gr
  ·rw[(Bl.cut_lt (show 2<3 by omega)).1] at hr
   have h1:=R4.h.new 2 r (by omega) hr
   intro h2
   have h3:=(I.gro r h2).1
   omega
end
theorem qn7 {W0:World} {rb:Nat} {u:Value} {l:List Pt} {B:Nat→Prop} (hc:W0.cell? ⟨rb,0,none⟩=some u) (hf:W0.frozen? ⟨rb,0,none⟩=false) (hr:Rd W0 3 u l.length (qay l)) (hB1:B rb) (hB2:qay l≠[]→∀ k,u.ownBlock=some k→B k) (hn:l.length≤1000000) :
 SeqC Tryz.prog 186 #[.pointer (some ⟨rb,0,none⟩)] (qcz l) B W0:=by
 intro y M J W hK hM hJ hY h0
 have hb:=hK.block rb (World.block_lt_of_cell? W0 _ hc) hB1
 have hcW:W.cell? ⟨rb,0,none⟩=some u:=(World.cell?_of_block (a:=⟨rb,0,none⟩) hb).trans hc
 have hfW:W.frozen? ⟨rb,0,none⟩=false:=(World.frozen?_of_block (a:=⟨rb,0,none⟩) hb).trans hf
 have hrW:Rd W 3 u l.length (qay l):=hr.keep fun hx k hk o=>World.cell?_of_block (a:=⟨k,o,none⟩) (hK.block k (hr.lt hx k hk) (hB2 hx k hk))
 refine qeL (c:=pc []) Tryz.func186 (by kernel_rfl) ?_
 have R0:=qdr (n:=32) (args:=[yv y,.pp 1 0]) (us:=[.func (.yield y) #[] #[],.pointer (some ⟨rb,0,none⟩)]) (qnX hcW hfW hrW) (qlI rb u) ⟨rfl,⟨rb,rfl,rfl⟩,trivial⟩ (by simp)
 rw[qll]
 refine wpIn_seq (qqx y l none W (qp7 rb u) _ W _ R0 fun β1 a1 w1 hle hd R1=>?_)
 have c1:β1 1=some rb:=Bl.leU_f hle (by omega) rfl
 have c0:β1.g 0=some u:=Bl.leU_g hle (by omega) rfl
 refine wpIn_block (wpIn_loop_rounds _ (qgj (W:=W) (rb:=rb) (u:=u) hM hJ ⟨hB1,World.block_lt_of_cell? W _ hcW⟩ (fun hx k hk=>⟨hB2 hx k hk,hrW.lt hx k hk⟩) hn hY (fun β a w k T R I=>?_) l.length 0 (Nat.zero_add _) (β1.cut 2) a1 w1 0 M (R1.now (by kernel_rfl) (by kernel_rfl) (by kernel_rfl)) ?_))
 ·show LeavesInM (FW none) 0 Tryz.prog _ a.tmps _ a.defers .returning w
  rw[I.df]
  obtain⟨v,hv,_⟩:=qiU (P:=Tryz.prog) (fn:=Tryz.f186) (x:=.pv (.tuple #[])) R (by kernel_rfl)
  refine⟨v,hv,⟨v,rfl⟩,⟨T,?_,I.gro⟩,I.kp⟩
  obtain⟨pre,hpre,hlen⟩:=I.pre
  rw[List.append_nil] at hpre
  rw[hpre,hlen]
  exact I.j
 ·exact⟨hd,by rw[(Bl.cut_lt (show 1<2 by omega)).1];exact c1,by rw[(Bl.cut_lt (show 0<2 by omega)).2];exact c0,Keep.of_gr R1.h.gr _,hJ _ _ _ _ h0 (Keep.of_gr R1.h.gr _),fun b hb=>⟨Nat.lt_of_lt_of_le (hM b hb).1 R1.h.gr.size,Or.inl hb⟩,[],rfl,rfl⟩
end Go.Proofs.YtleaeldgaflmkaaGreat

namespace Go.Proofs.YtleaeldgaflmkaaGreat
set_option maxRecDepth 100000
open Go.RowKit
theorem qnA {an ad bn bd k e:Int} (h:Pure Tryz.prog 102 #[qaa an ad,qaa bn bd] (.tuple #[iV k,iV e])):Pure Tryz.prog 150 #[qaa an ad,qaa bn bd] (iV k):=
 qac (args:=[qaa an ad,qaa bn bd]) 200 [Rf h] (Ai rfl (Ai h tI)) (by kernel_rfl)
theorem qqr {l:List Pt} {fn fd tn td:Int} {e:Int} (hc:Fn 44 1 [qaq 0 l] [(0,0,qad l)] (.pv (iV (e))) 0 []) (he:(e !=0)=true) :
 Fn 136 1 [qaq 0 l,.pv (qaa fn fd),.pv (qaa tn td)] [(0,0,qad l)] (.pv (iV (e))) 0 []:=
 Fz [] [.k,Cf hc [0],.t true,.t true]
  tI (Co hc [0] 6 (Ai he (Ai he tI)))
abbrev qxg (l:List Pt):Prop:=Fn 44 1 [qaq 0 l] [(0,0,qad l)] (.pv (iV (0))) 0 []
theorem qt3 {l:List Pt} {fn fd tn td:Int} (hc:qxg l) (h1:Pure Tryz.prog 61 #[qaa fn fd] (iV (8))) :
 Fn 136 1 [qaq 0 l,.pv (qaa fn fd),.pv (qaa tn td)] [(0,0,qad l)] (.pv (iV (8))) 0 []:=
 Fz [] [.k,Cf hc [0],.k,.k,Rf h1,.k,.k]
  tI (Co hc [0] 6 (Ai h1 tI))
theorem qzg {l:List Pt} {fn fd tn td:Int} (hc:qxg l) (h1:Pure Tryz.prog 61 #[qaa fn fd] (iV (0))) (h2:Pure Tryz.prog 61 #[qaa tn td] (iV (8))) :
 Fn 136 1 [qaq 0 l,.pv (qaa fn fd),.pv (qaa tn td)] [(0,0,qad l)] (.pv (iV (8))) 0 []:=
 Fz [] [.k,Cf hc [0],.k,.k,Rf h1,.k,.k,.k,Rf h2,.k,.k]
  tI (Co hc [0] 6 (Ai h1 (Ai h2 tI)))
theorem qv8 {l:List Pt} {fn fd tn td:Int} {k:Int} (hc:qxg l) (h1:Pure Tryz.prog 61 #[qaa fn fd] (iV (0))) (h2:Pure Tryz.prog 61 #[qaa tn td] (iV (0))) (h3:Pure Tryz.prog 150 #[qaa fn fd,qaa tn td] (iV (k))) (hk:decide (k>0)=true) :
 Fn 136 1 [qaq 0 l,.pv (qaa fn fd),.pv (qaa tn td)] [(0,0,qad l)] (.pv (iV (2))) 0 []:=
 Fz [] [.k,Cf hc [0],.k,.k,Rf h1,.k,.k,.k,Rf h1,.k,.k,.k,.k,Rf h3,.t true]
  tI (Co hc [0] 6 (Ai h1 (Ai h2 (Ai h3 (Ai hk tI)))))
theorem qzu {l:List Pt} {fn fd tn td:Int} {k:Int} (hc:qxg l) (h1:Pure Tryz.prog 61 #[qaa fn fd] (iV (0))) (h2:Pure Tryz.prog 61 #[qaa tn td] (iV (0))) (h3:Pure Tryz.prog 150 #[qaa fn fd,qaa tn td] (iV (k))) (hk:decide (k>0)=false) :
 Fn 136 1 [qaq 0 l,.pv (qaa fn fd),.pv (qaa tn td)] [(0,0,qad l)] (.pv (iV (0))) 0 []:=
 Fz [] [.k,Cf hc [0],.k,.k,Rf h1,.k,.k,.k,Rf h1,.k,.k,.k,.k,Rf h3,.t false]
  tI (Co hc [0] 6 (Ai h1 (Ai h2 (Ai h3 (Ai hk tI)))))
theorem qk4 {m:Mt} {tn td k:Int} {b:Bool} (h:Pure Tryz.prog 150 #[qaa m.n m.d,qaa tn td] (iV (k))) (hk:decide (k>0)=b) :
 Fn 166 1 [.pv (qar m),.pp 0 0] [(0,0,.pv (iV tn)),(0,1,.pv (iV td))] (.pv (.bool b)) 0 []:=
 Fz [] [Rf h,.t b]
  tI (Ai h (Ai hk tI))
theorem qm1 {m:Mt} {tn td k:Int} {b:Bool} (h:Pure Tryz.prog 150 #[qaa m.n m.d,qaa tn td] (iV (k))) (hk:decide (k≤0)=b) :
 Fn 155 1 [.pv (qar m),.pp 0 0] [(0,0,.pv (iV tn)),(0,1,.pv (iV td))] (.pv (.bool b)) 0 []:=
 Fz [] [Rf h,.t b]
  tI (Ai h (Ai hk tI))
theorem qgI {an ad bn bd:Int} (ha:I64 an) (hb:I64 ad) (hc:I64 bn) (hd:I64 bd) (h1:okB an ad=true) (h2:okB bn bd=true):Pure Tryz.prog 150 #[qaa an ad,qaa bn bd] (iV (an*bd-bn*ad).sign):=qnA (qjc ha hb hc hd h1 h2)
noncomputable def mE (l:List Pt) (fn fd tn td:Int):Int:=if qb4 l=0 then (if okB fn fd=true∧okB tn td=true then (if fn*td-tn*fd>0 then 2 else 0) else 8) else qb4 l
theorem qu9 {fn fd tn td:Int} (h1:I64 fn) (h2:I64 fd) (h3:I64 tn) (h4:I64 td) (l:List Pt):Fn 136 1 [qaq 0 l,.pv (qaa fn fd),.pv (qaa tn td)] [(0,0,qad l)] (.pv (iV (mE l fn fd tn td))) 0 []:=by
 unfold mE
 by_cases h0:qb4 l=0
 ·rw[if_pos h0]
  have c:=qaF l
  rw[h0] at c
  by_cases g1:okB fn fd=true
  ·by_cases g2:okB tn td=true
   ·rw[if_pos ⟨g1,g2⟩]
    have k:=qgI h1 h2 h3 h4 g1 g2
    by_cases g3:fn*td-tn*fd>0
    ·rw[if_pos g3]
     exact qv8 c (qcb h1 h2 g1) (qcb h3 h4 g2) k (dt (by rw[Int.sign_eq_one_of_pos g3];omega))
    ·rw[if_neg g3]
     refine qzu c (qcb h1 h2 g1) (qcb h3 h4 g2) k (df ?_)
     rcases Int.lt_trichotomy (fn*td-tn*fd) 0 with g | g | g
     ·rw[Int.sign_eq_neg_one_of_neg g];omega
     ·rw[g];decide
     ·exact (g3 g).elim
   ·rw[if_neg (fun h=>g2 h.2)]
    exact qzg c (qcb h1 h2 g1) (qfo h3 h4 (by simpa using g2))
  ·rw[if_neg (fun h=>g1 h.1)]
   exact qt3 c (qfo h1 h2 (by simpa using g1))
 ·rw[if_neg h0]
  exact qqr (qaF l) (by simp[h0])
end Go.Proofs.YtleaeldgaflmkaaGreat
