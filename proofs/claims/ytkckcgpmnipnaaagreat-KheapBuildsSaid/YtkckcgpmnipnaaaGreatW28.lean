/-
  Joined: Ed, Fm, Fr, Fn, Fs. Conditions: none.
-/
import Derived.Test.YtkckcgpmnipnaaaGreatW25
import Derived.Test.YtkckcgpmnipnaaaGreatW27
import Derived.Test.YtkckcgpmnipnaaaGreatW21
import Derived.Test.YtkckcgpmnipnaaaGreatW22
namespace Go.Proofs.YtkckcgpmnipnaaaGreat
set_option maxRecDepth 100000
open Go.RowKit
noncomputable abbrev vci (p:List Nat):Code:=qt9 Tryz.prog 183 p
noncomputable abbrev voi:Array Oper:=qDn (vci [1,0,0,1,1,0,0,1,0])
theorem qnY:vci []=.seq (vci [0]) (.block 0 (.loop (vci [1,0,0]))):=by kernel_rfl
theorem qix:vci [1,0,0]=.seq (vci [1,0,0,0]) (.seq (vci [1,0,0,1,0]) (.seq (.block 1 (.seq (vci [1,0,0,1,1,0,0,0]) (.seq (.region 3 voi false) (vci [1,0,0,1,1,0,0,1,1])))) (vci [1,0,0,1,1,1]))):=by kernel_rfl
abbrev yvI (l:Nat):SV:=.pv (.func (.yield l) #[] #[])
abbrev vHI (X:List Int):List (Nat×Nat×SV):=[(1,0,.ls 0 X.length),(0,0,zrI X)]
abbrev vTI (y:Nat) (X:List Int) (i:Nat):List (Nat×SV):=[(0,yvI y),(1,.pp 1 0),(5,.ls 0 X.length),(6,.pv (iV (X.length:Int))),(7,.pv (iV (i:Int)))]
section
variable (y:Nat) (X:List Int) (i:Nat) (m:Int)
theorem qtk:Seg Tryz.prog 2 2 (vci [0]) 16 2 [(0,yvI y),(1,.pp 1 0)] (vHI X) .normal 2 (vTI y X 0) (vHI X):=
 qcW [] 100 [] (Nat.le_refl _) (by kernel_rfl) (Ro tI)
theorem qoJ (b:Bool) (h:decide ((i:Int)<(X.length:Int))=b):Seg Tryz.prog 2 2 (vci [1,0,0,0]) 16 2 (vTI y X i) (vHI X) .normal 2 ((8,.pv (.bool b))::vTI y X i) (vHI X):=
 qcW [] 100 [.t b] (Nat.le_refl _) (by kernel_rfl) (Ro (Ai h tI))
theorem qCE:Seg Tryz.prog 2 2 (vci [1,0,0,1,0]) 16 2 ((8,.pv (.bool true))::vTI y X i) (vHI X) .normal 2 (vTI y X i) (vHI X):=
 qcW [] 100 [] (Nat.le_refl _) (by kernel_rfl) (Ro tI)
theorem qGF:Seg Tryz.prog 2 2 (vci [1,0,0,1,0]) 16 2 ((8,.pv (.bool false))::vTI y X i) (vHI X) (.exit 0) 2 (vTI y X i) (vHI X):=
 qcW [] 100 [] (Nat.le_refl _) (by kernel_rfl) (Ro tI)
theorem qyj (hin:0≤(i:Int)∧(i:Int)<(X.length:Int)) (hp:X[i]?=some m):Seg Tryz.prog 2 2 (vci [1,0,0,1,1,0,0,0]) 16 2 (vTI y X i) (vHI X) .normal 2 ((4,.pv (iV m))::vTI y X i) (vHI X):=
 qcW [] 100 [.r (iV m)] (Nat.le_refl _) (by kernel_rfl) (Ro (Ai hin (Ai (qaQ hp) tI)))
theorem qvq:voi.toList=voi.toList.take 2++(voi.toList.drop 2).take 1++voi.toList.drop 3:=by kernel_rfl
theorem qyQ:∃ o:Oper,(voi.toList.drop 2).take 1=[o]∧o.op=.call (qnj o)∧(qnj o).callee=.value (.tmp 11)∧(qnj o).args=#[.tmp 12]∧o.dst=some 13∧o.guard=none:=
 ⟨voi.getD 2 default,by kernel_rfl,by kernel_rfl,by kernel_rfl,by kernel_rfl,by kernel_rfl,by kernel_rfl⟩
theorem qql:qEg Tryz.prog 2 2 voi (voi.toList.take 2) 16 2 ((4,.pv (iV m))::vTI y X i) (vHI X) 2 ((11,yvI y)::(12,.pv (iV m))::vTI y X i) (vHI X):=
 qiV [] 100 [] (Nat.le_refl _) (by kernel_rfl) (Ro tI)
theorem qmn:qEg Tryz.prog 2 2 voi (voi.toList.drop 3) 16 2 ((13,.pv (.bool true))::vTI y X i) (vHI X) 2 ((14,.pv (.bool false))::vTI y X i) (vHI X):=
 qiV [] 100 [] (Nat.le_refl _) (by kernel_rfl) (Ro tI)
theorem qGs:Seg Tryz.prog 2 2 (vci [1,0,0,1,1,0,0,1,1]) 16 2 ((14,.pv (.bool false))::vTI y X i) (vHI X) .normal 2 (vTI y X i) (vHI X):=
 qcW [] 100 [] (Nat.le_refl _) (by kernel_rfl) (Ro tI)
theorem qya (h:iV (IntKind.i64.wrap ((i:Int)+1))=iV ((i+1:Nat):Int)):Seg Tryz.prog 2 2 (vci [1,0,0,1,1,1]) 16 2 (vTI y X i) (vHI X) .normal 2 (vTI y X (i+1)) (vHI X):=
 qcW [] 100 [Re h] (Nat.le_refl _) (by kernel_rfl) (Ro (Ai h tI))
end
def qtr (rb:Nat) (u:Value):Bl:=⟨fun b=>if b=1 then some rb else none,fun b=>if b=0 then some u else none⟩
theorem qq1 {W:World} {rb:Nat} {u:Value} {l:List Int} (hc:W.cell? ⟨rb,0,none⟩=some u) (hf:W.frozen? ⟨rb,0,none⟩=false) (hr:Rd W 1 u l.length (ziV l)):HRel W 2 (qtr rb u) (vHI l) W where
 gr:=Gr.refl W
 live:=fun b r h=>by
  unfold qtr at h
  simp only at h
  split at h
  ·cases h;exact World.block_lt_of_cell? W _ hc
  ·cases h
 inj:=fun b c r h1 h2=>by
  unfold qtr at h1 h2
  simp only at h1 h2
  split at h1
  ·split at h2
   ·omega
   ·cases h2
  ·cases h1
 new:=fun b r hb h=>by
  unfold qtr at h
  simp only at h
  rw[if_neg (by omega)] at h
  cases h
 sep:=fun b r h=>by
  unfold qtr at h ⊢
  simp only at h ⊢
  split at h
  ·rw[if_neg (by omega)]
  ·cases h
 cells:=fun b o sv hl hs=>by
  rw[qag] at hl
  split at hl
  ·rename_i e
   obtain⟨rfl,rfl⟩:=e
   cases hl
   obtain⟨_,a,c,rfl,_⟩:=hr
   exact⟨rb,_,rfl,⟨rfl,a,c,rfl⟩,rfl,hc,hf⟩
  ·rw[qag] at hl
   split at hl
   ·cases hl;cases hs
   ·cases hl
 rows:=fun b o e es n xs hl=>by
  rw[qag] at hl
  split at hl
  ·cases hl
  ·rw[qag] at hl
   split at hl
   ·rename_i e
    obtain⟨rfl,rfl⟩:=e
    cases hl
    exact⟨u,rfl,hr,qfk l,fun _ hx=>hr.lt hx,fun h=>by omega,fun h=>by omega⟩
   ·cases hl
 rinj:=fun b o e es n xs c o' e' es' n' xs' u v hl hl' h1 h2 hne h6=>by
  unfold qtr at h6
  simp only at h6
  rw[if_neg (by omega)] at h6
  cases h6
 maps:=fun b o xs hl=>(qul (by rfl) hl).elim
theorem qqs (rb:Nat) (u:Value):(qtr rb u).dom 2:=fun b hb=>by
 unfold qtr
 simp only
 rw[if_neg (by omega),if_neg (by omega)]
 exact⟨rfl,rfl⟩
section
variable {y:Nat} {M B:Nat→Prop} {J:Nat→(Nat→Prop)→World→Prop} {W:World} {rb:Nat} {u:Value} {X:List Int}
structure VInv (M:Nat→Prop) (J:Nat→(Nat→Prop)→World→Prop) (W:World) (rb:Nat) (u:Value) (β:Bl) (a:Act) (w:World) (k:Nat) (T:Nat→Prop):Prop where
 df:a.defers=[]
 b1:β 1=some rb
 g0:β.g 0=some u
 kp:Keep (fun b=>b<W.heap.size∧¬ M b) W w
 j:J k T w
 gro:Gro M W T w
theorem VInv.on {β γ:Bl} {a a':Act} {w w':World} {k:Nat} {T:Nat→Prop} (h:VInv M J W rb u β a w k T) (hJ:∀ k T w w',J k T w→Keep (fun b=>b<W.heap.size∨T b) w w'→J k T w') (hd:a'.defers=a.defers) (h1:γ 1=β 1) (h0:γ.g 0=β.g 0) (hg:Gr w w'):VInv M J W rb u γ a' w' k T:=
 ⟨hd.trans h.df,h1.trans h.b1,h0.trans h.g0,h.kp.trans (Keep.of_gr hg _),hJ _ _ _ _ h.j (Keep.of_gr hg _),h.gro.on (Nat.le_refl _) hg.size⟩
theorem qjb (hM:∀ b,M b→b<W.heap.size∧¬ B b) (hJ:∀ k T w w',J k T w→Keep (fun b=>b<W.heap.size∨T b) w w'→J k T w') (hB1:B rb∧rb<W.heap.size) (hB2:ziV X≠[]→∀ k,u.ownBlock=some k→B k∧k<W.heap.size) (hn:X.length≤1000000)
 (hY:∀ k x w T,(X.map iA)[k]?=some x→W.heap.size≤w.heap.size→(∀ b,T b→b<w.heap.size)→(∀ b,T b→b<W.heap.size→M b)→J k T w→YieldAt (FW none) 0 Tryz.prog y x w fun e w'=>e=.returned (.bool true)∧∃ T',J (k+1) T' w'∧Keep (fun b=>¬ T b) w w'∧Gro T w T' w')
 {Q:Exit→Act→World→Prop}
 (hQ:∀ β a (w:World) T,Rel w 2 β (qaT 16 2 (vTI y X X.length) (vHI X) []) (clr a) w→VInv M J W rb u β a w X.length T→Q (.exit 0) a w) :
 ∀ (d i:Nat),i+d=X.length→∀ (β:Bl) (a:Act) (w:World) (T:Nat→Prop),Rel w 2 β (qaT 16 2 (vTI y X i) (vHI X) []) (clr a) w→
  VInv M J W rb u β a w i T→Code.roundsIn (FW none) 0 Tryz.prog (vci [1,0,0]) Q (d+1) a w:=by
 intro d
 induction d with
 | zero=>
  intro i hi β a w T R I
  rw[roundsIn_succ,qix]
  have hi':i=X.length:=by omega
  subst hi'
  refine wpIn_seq (qoJ y X _ false (df (by omega)) none w β a w _ R fun β1 a1 w1 hle1 hd1 R1=>?_)
  refine wpIn_seq (qGF y X _ none w β1 a1 w1 _ R1 fun β2 a2 w2 hle2 hd2 R2=>?_)
  have hl:=Bl.leU_trans hle1 hle2
  refine hQ (β2.cut 2) a2 w2 T (R2.now (by kernel_rfl) (by kernel_rfl) (by kernel_rfl)) ?_
  exact I.on hJ (hd2.trans hd1) (by rw[(Bl.cut_lt (show 1<2 by omega)).1,I.b1];exact Bl.leU_f hl (by omega) I.b1) (by rw[(Bl.cut_lt (show 0<2 by omega)).2,I.g0];exact Bl.leU_g hl (by omega) I.g0) R2.h.gr
 | succ d ih=>
  intro i hi β a w T R I
  rw[roundsIn_succ,qix]
  obtain⟨q,hq⟩:∃ q,X[i]?=some q:=⟨X[i]'(by omega),List.getElem?_eq_getElem _⟩
  refine wpIn_seq (qoJ y X i true (dt (by omega)) none w β a w _ R fun β1 a1 w1 hle1 hd1 R1=>?_)
  refine wpIn_seq (qCE y X i none w β1 a1 w1 _ R1 fun β2 a2 w2 hle2 hd2 R2=>?_)
  refine wpIn_seq (wpIn_block (wpIn_seq (qyj y X i q ⟨by omega,by omega⟩ hq none w β2 a2 w2 _ R2 fun β3 a3 w3 hle3 hd3 R3=>?_)))
  refine wpIn_seq (wpIn_region_list ?_)
  obtain⟨o,hol,ho,hc,hargs,hdst,hgd⟩:=qyQ
  have hpl:=qvq
  rw[hol,List.append_assoc] at hpl
  show wpListIn (FW none) 0 Tryz.prog voi _ voi.toList a3 w3
  rw[hpl]
  refine qql y X i q none w β3 a3 w3 _ _ R3 fun β4 a4 w4 hle4 hd4 R4=>qhi hgd ?_
  have hle:=Bl.leU_trans (Bl.leU_trans (Bl.leU_trans hle1 hle2) hle3) hle4
  have hdf:a4.defers=a.defers:=hd4.trans (hd3.trans (hd2.trans hd1))
  have I4:VInv M J W rb u β4 a4 w4 i T:=I.on hJ hdf (by rw[I.b1];exact Bl.leU_f hle (by omega) I.b1) (by rw[I.g0];exact Bl.leU_g hle (by omega) I.g0) R4.h.gr
  have hLk:(X.map iA)[i]?=some (iA q):=by rw[List.getElem?_map,hq];rfl
  have t11:a4.tmps.getD 11 undef=.func (.yield y) #[] #[]:=R4.t.tmps 11
  have t12:a4.tmps.getD 12 undef=.int .i64 q:=R4.t.tmps 12
  refine qrW ho hc t11 (xs:=iA q) (by rw[hargs];simp only[List.map_toArray,List.map_cons,List.map_nil,Act.eval,t12,iA]) (hY i _ w4 T hLk I4.kp.size (fun b hb=>(I4.gro b hb).1) (fun b hb hl=>(I4.gro b hb).2.elim id fun h=>by omega) I4.j) fun e w5 ⟨he,T',hj5,hk5,hg5⟩=>⟨_,he,?_⟩
  have hTM:∀ b,b<W.heap.size→T b→M b:=fun b hl hb=>(I4.gro b hb).2.elim id fun h=>by omega
  have hbs:∀ b r,b<2→β4 b=some r→¬ T r:=fun b r hb e=>by
   match b,hb with
   | 0,_=>have:=R4.h.sep 0 r e;rw[I4.g0] at this;cases this
   | 1,_=>rw[I4.b1] at e;cases e;exact fun h=>(hM _ (hTM _ hB1.2 h)).2 hB1.1
  have hrs:∀ b o e es n xs v,qaf (vHI X) b o=some (.row e es n xs)→xs≠[]→β4.g b=some v→∀ k,v.ownBlock=some k→¬ T k:=fun b o e es n xs v hl hx hv k hk=>by
   have hm:=qaJ hl
   simp at hm
   have hb0:b=0:=hm.1
   have hxs:xs=ziV X:=hm.2.2.2.2.2
   subst hb0
   rw[I4.g0] at hv
   cases hv
   exact fun h=>(hM _ (hTM _ (hB2 (hxs▸hx) _ hk).2 h)).2 (hB2 (hxs▸hx) _ hk).1
  have R5:=R4.later hk5 (l:=2) (tm':=vTI y X i) (hp':=vHI X) (by kernel_rfl) (by kernel_rfl) (by kernel_rfl) hbs hrs
  have R6:=R5.put (d:=13) (x:=.pv (.bool true)) (u:=.bool true) (by decide) rfl
  rw[hdst]
  refine qtj ?_
  refine qmn y X i none w5 _ _ w5 _ [] R6 fun β7 a7 w7 hle7 hd7 R7=>?_
  refine qGs y X i none w5 β7 a7 w7 _ R7 fun β8 a8 w8 hle8 hd8 R8=>?_
  refine qya y X i (qal (by omega)) none w5 β8 a8 w8 _ R8 fun β9 a9 w9 hle9 hd9 R9=>?_
  have hl9:=Bl.leU_trans (Bl.leU_trans hle7 hle8) hle9
  have f9:∀ b,b<2→(β4 b≠none∨β4.g b≠none)→(β9.cut 2) b=β4 b∧(β9.cut 2).g b=β4.g b:=fun b hb hs=>by
   have c1:=Bl.cut_lt (β:=β4) hb
   have c2:=Bl.cut_lt (β:=β9) hb
   have c3:=hl9 b hb (by rw[c1.1,c1.2];exact hs)
   rw[c2.1,c2.2,c3.1,c3.2,c1.1,c1.2]
   exact⟨rfl,rfl⟩
  refine ih (i+1) (by omega) (β9.cut 2) a9 w9 T' (R9.now (by kernel_rfl) (by kernel_rfl) (by kernel_rfl)) ?_
  refine⟨?_,?_,?_,?_,?_,?_⟩
  ·rw[hd9,hd8,hd7,qc3];exact I4.df
  ·rw[(f9 1 (by omega) (Or.inl (by rw[I4.b1];simp))).1];exact I4.b1
  ·rw[(f9 0 (by omega) (Or.inr (by rw[I4.g0];simp))).2];exact I4.g0
  ·exact (I4.kp.trans (hk5.mono fun i _ h=>fun ht=>h.2 (hTM i h.1 ht))).trans (Keep.of_gr R9.h.gr _)
  ·exact hJ _ _ _ _ hj5 (Keep.of_gr R9.h.gr _)
  ·intro b hb
   obtain⟨h1,h2⟩:=hg5 b hb
   have h3:=R9.h.gr.size
   refine⟨by omega,?_⟩
   rcases h2 with h2 | h2
   ·exact (I4.gro b h2).2
   ·exact Or.inr (by have:=I4.kp.size;omega)
end
theorem qrh {W0:World} {rb:Nat} {u:Value} {X:List Int} {B:Nat→Prop} (hc:W0.cell? ⟨rb,0,none⟩=some u) (hf:W0.frozen? ⟨rb,0,none⟩=false) (hr:Rd W0 1 u X.length (ziV X)) (hB1:B rb) (hB2:ziV X≠[]→∀ k,u.ownBlock=some k→B k) (hn:X.length≤1000000) :
 SeqC Tryz.prog 183 #[.pointer (some ⟨rb,0,none⟩)] (X.map iA) B W0:=by
 intro y M J W hK hM hJ hY h0
 have hb:=hK.block rb (World.block_lt_of_cell? W0 _ hc) hB1
 have hcW:W.cell? ⟨rb,0,none⟩=some u:=(World.cell?_of_block (a:=⟨rb,0,none⟩) hb).trans hc
 have hfW:W.frozen? ⟨rb,0,none⟩=false:=(World.frozen?_of_block (a:=⟨rb,0,none⟩) hb).trans hf
 have hrW:Rd W 1 u X.length (ziV X):=hr.keep fun hx k hk o=>World.cell?_of_block (a:=⟨k,o,none⟩) (hK.block k (hr.lt hx k hk) (hB2 hx k hk))
 refine qkg (c:=vci []) Tryz.func183 (by kernel_rfl) ?_
 have R0:=qiq (n:=16) (args:=[yvI y,.pp 1 0]) (us:=[.func (.yield y) #[] #[],.pointer (some ⟨rb,0,none⟩)]) (qq1 hcW hfW hrW) (qqs rb u) ⟨rfl,⟨rb,rfl,rfl⟩,trivial⟩ (by simp)
 rw[qnY]
 refine wpIn_seq (qtk y X none W (qtr rb u) _ W _ R0 fun β1 a1 w1 hle hd R1=>?_)
 have c1:β1 1=some rb:=Bl.leU_f hle (by omega) rfl
 have c0:β1.g 0=some u:=Bl.leU_g hle (by omega) rfl
 refine wpIn_block (wpIn_loop_rounds _ (qjb (W:=W) (rb:=rb) (u:=u) (X:=X) hM hJ ⟨hB1,World.block_lt_of_cell? W _ hcW⟩ (fun hx k hk=>⟨hB2 hx k hk,hrW.lt hx k hk⟩) hn hY (fun β a w T R I=>?_) X.length 0 (Nat.zero_add _) (β1.cut 2) a1 w1 M (R1.now (by kernel_rfl) (by kernel_rfl) (by kernel_rfl)) ?_))
 ·show LeavesInM (FW none) 0 Tryz.prog _ a.tmps _ a.defers .returning w
  rw[I.df]
  obtain⟨v,hv,_⟩:=qiU (P:=Tryz.prog) (fn:=Tryz.f183) (x:=.pv (.tuple #[])) R (by kernel_rfl)
  refine⟨v,hv,⟨v,rfl⟩,⟨T,?_,I.gro⟩,I.kp⟩
  rw[List.length_map]
  exact I.j
 ·exact⟨hd,by rw[(Bl.cut_lt (show 1<2 by omega)).1];exact c1,by rw[(Bl.cut_lt (show 0<2 by omega)).2];exact c0,Keep.of_gr R1.h.gr _,hJ _ _ _ _ h0 (Keep.of_gr R1.h.gr _),fun b hb=>⟨Nat.lt_of_lt_of_le (hM b hb).1 R1.h.gr.size,Or.inl hb⟩⟩
end Go.Proofs.YtkckcgpmnipnaaaGreat

namespace Go.Proofs.YtkckcgpmnipnaaaGreat
set_option maxRecDepth 100000
open Go.RowKit
def qgM (p:Pt):Bool:=okP p.id p.a p.b
def Up (l:List Pt):Prop:=∀ (k:Nat) (p q:Pt),l[k]?=some p→l[k+1]?=some q→p.id<q.id
noncomputable def qf7 (l:List Pt):Int:=open Classical in if 64<l.length then 4 else if ∀ p∈l,qgM p=true then (if Up l then 0 else 32) else 8
theorem qa9 (P:Nat→Prop):∀ (N:Nat),(∀ k,k<N→P k)∨∃ j,j<N∧¬ P j∧∀ i,i<j→P i
 | 0=>Or.inl fun k hk=>by omega
 | N+1=>by
  rcases qa9 P N with h | ⟨j,h1,h2⟩
  ·by_cases hN:P N
   ·exact Or.inl fun k hk=>by
     rcases Nat.lt_or_ge k N with h' | h'
     ·exact h k h'
     ·have:k=N:=by omega
      subst this;exact hN
   ·exact Or.inr ⟨N,by omega,hN,h⟩
  ·exact Or.inr ⟨j,by omega,h2⟩
theorem qai {α:Type} {l:List α} {k:Nat} (h:k<l.length):∃ p,l[k]?=some p:=⟨l[k],List.getElem?_eq_getElem h⟩
theorem qaj {α:Type} {l:List α} {k:Nat} {p:α} (h:l[k]?=some p):k<l.length:=(List.getElem?_eq_some_iff.1 h).1
theorem qak {k n:Nat} (h:k<n):0≤(k:Int)∧(k:Int)<(n:Int):=⟨by omega,by omega⟩
theorem Up.mono {l:List Pt} (h:Up l):∀ {i j:Nat} {p q:Pt},i<j→l[i]?=some p→l[j]?=some q→p.id<q.id:=by
 intro i j
 induction j with
 | zero=>intro p q hij;omega
 | succ j ih=>
  intro p q hij hp hq
  by_cases e:i=j
  ·subst e;exact h i p q hp hq
  ·obtain⟨r,hr⟩:=qai (l:=l) (k:=j) (by have:=qaj hq;omega)
   exact Int.lt_trans (ih (by omega) hp hr) (h j r q hr hq)
theorem qpC {k n:Nat} (h:k<n) (hn:n≤64):iV (IntKind.i64.wrap ((k:Int)+1))=iV ((k+1:Nat):Int):=qal (by omega)
theorem qkR {l:List Pt} (hn:l.length≤64) (h:∀ p∈l,qgM p=true):Rl 1 1 38 0 44 2 [(1,.pp 1 0),(3,.pv (iV ((0:Nat):Int)))] [(1,0,.ls 0 l.length),(0,0,qad l)] (.exit 0) [(1,.pp 1 0)] [(1,0,.ls 0 l.length),(0,0,qad l)]:=
 RunsL.rounds (fun k=>[(1,.pp 1 0),(3,.pv (iV (k:Int)))]) (fun _=>[(1,0,.ls 0 l.length),(0,0,qad l)]) l.length 0 (Nat.zero_add _)
  (fun k _ hk r=>by
   obtain⟨p,hp⟩:=qai hk
   exact qkN hp (qak hk) (dt (by omega)) (qfs (h p (List.mem_of_getElem? hp))) (qpC hk hn) r)
  (qyf (df (by omega)))
theorem qhz {l:List Pt} (hn:l.length≤64) {j:Nat} {p:Pt} (hp:l[j]?=some p) (hb:¬ qgM p=true) (h:∀ i,i<j→∀ q,l[i]?=some q→qgM q=true):Rl 1 1 38 0 44 2 [(1,.pp 1 0),(3,.pv (iV ((0:Nat):Int)))] [(1,0,.ls 0 l.length),(0,0,qad l)] .ret [(2,.pv (iV 8))] []:=by
 have hj:=qaj hp
 refine RunsL.rounds (fun k=>[(1,.pp 1 0),(3,.pv (iV (k:Int)))]) (fun _=>[(1,0,.ls 0 l.length),(0,0,qad l)]) j 0 (Nat.zero_add _) (fun k _ hk r=>?_) (qwK hp (qak hj) (dt (by omega)) (qiB hb))
 obtain⟨q,hq⟩:=qai (l:=l) (k:=k) (by omega)
 exact qkN hq (qak (qaj hq)) (dt (by omega)) (qfs (h k hk q hq)) (qpC (qaj hq) hn) r
theorem qbM (k:Nat) (h:k≤1000000):iV (IntKind.i64.wrap (((k+1:Nat):Int)-1))=iV (k:Int):=by rw[show ((k+1:Nat):Int)-1=(k:Int) by omega,qap (by omega) (by omega)]
theorem qtC {l:List Pt} (hn:l.length≤64) (h:Up l):Rl 1 1 38 1 44 2 [(1,.pp 1 0),(4,.pv (iV ((0+1:Nat):Int)))] [(1,0,.ls 0 l.length),(0,0,qad l)] (.exit 2) [] []:=by
 by_cases h0:l.length=0
 ·exact qo3 (k:=0+1) (df (by omega))
 refine RunsL.rounds (fun k=>[(1,.pp 1 0),(4,.pv (iV (k:Int)))]) (fun _=>[(1,0,.ls 0 l.length),(0,0,qad l)]) (N:=l.length) (l.length-1) (0+1) (by omega) (fun k h1 hk r=>?_) (qo3 (df (by omega)))
 obtain⟨m,rfl⟩:∃ m,k=m+1:=⟨k-1,by omega⟩
 obtain⟨q,hq⟩:=qai (l:=l) (k:=m) (by omega)
 obtain⟨p,hp⟩:=qai hk
 exact qkr hq hp (qak (by omega)) (qak hk) (dt (by omega)) (qbM m (by omega)) (df (by have:=h m q p hq hp;omega)) (qpC hk hn) r
theorem qhT {l:List Pt} (hn:l.length≤64) {j:Nat} {p q:Pt} (hq:l[j]?=some q) (hp:l[j+1]?=some p) (hb:¬ q.id<p.id) (h:∀ i,i<j→∀ p q,l[i]?=some p→l[i+1]?=some q→p.id<q.id):Rl 1 1 38 1 44 2 [(1,.pp 1 0),(4,.pv (iV ((0+1:Nat):Int)))] [(1,0,.ls 0 l.length),(0,0,qad l)] .ret [(2,.pv (iV 32))] []:=by
 have hj:=qaj hp
 refine RunsL.rounds (fun k=>[(1,.pp 1 0),(4,.pv (iV (k:Int)))]) (fun _=>[(1,0,.ls 0 l.length),(0,0,qad l)]) (N:=j+1) j (0+1) (by omega) (fun k h1 hk r=>?_) (qyR hq hp (qak (by omega)) (qak hj) (dt (by omega)) (qbM j (by omega)) (dt (by omega)))
 obtain⟨m,rfl⟩:∃ m,k=m+1:=⟨k-1,by omega⟩
 obtain⟨q',hq'⟩:=qai (l:=l) (k:=m) (by omega)
 obtain⟨p',hp'⟩:=qai (l:=l) (k:=m+1) (by omega)
 exact qkr hq' hp' (qak (by omega)) (qak (by omega)) (dt (by omega)) (qbM m (by omega)) (df (by have:=h m (by omega) q' p' hq' hp';omega)) (qpC (n:=l.length) (by omega) hn) r
theorem qfw (l:List Pt):(64<l.length∧qf7 l=4)∨(l.length≤64∧(∃ (j:Nat) (p:Pt),l[j]?=some p∧¬ qgM p=true∧∀ i,i<j→∀ q,l[i]?=some q→qgM q=true)∧qf7 l=8)∨
 (l.length≤64∧(∀ p∈l,qgM p=true)∧(∃ (j:Nat) (p q:Pt),l[j]?=some q∧l[j+1]?=some p∧¬ q.id<p.id∧∀ i,i<j→∀ p q,l[i]?=some p→l[i+1]?=some q→p.id<q.id)∧qf7 l=32)∨
 (l.length≤64∧(∀ p∈l,qgM p=true)∧Up l∧qf7 l=0):=by
 by_cases h0:64<l.length
 ·exact Or.inl ⟨h0,by unfold qf7;rw[if_pos h0]⟩
 refine Or.inr ?_
 by_cases h1:∀ p∈l,qgM p=true
 ·refine Or.inr ?_
  by_cases h2:Up l
  ·exact Or.inr ⟨by omega,h1,h2,by unfold qf7;rw[if_neg h0,if_pos h1,if_pos h2]⟩
  ·refine Or.inl ⟨by omega,h1,?_,by unfold qf7;rw[if_neg h0,if_pos h1,if_neg h2]⟩
   rcases qa9 (fun k=>∀ p q,l[k]?=some p→l[k+1]?=some q→p.id<q.id) l.length with h | ⟨j,hj,hn,hb⟩
   ·exact (h2 fun k p q hp hq=>h k (qaj hp) p q hp hq).elim
   ·simp only[Classical.not_forall,not_imp] at hn
    obtain⟨p,q,hp,hq,hpq⟩:=hn
    exact⟨j,q,p,hp,hq,hpq,hb⟩
 ·refine Or.inl ⟨by omega,?_,by unfold qf7;rw[if_neg h0,if_neg h1]⟩
  rcases qa9 (fun k=>∀ q,l[k]?=some q→qgM q=true) l.length with h | ⟨j,hj,hn,hb⟩
  ·exact (h1 fun p hp=>by obtain⟨k,hk,rfl⟩:=List.getElem_of_mem hp;exact h k hk _ (List.getElem?_eq_getElem hk)).elim
  ·simp only[Classical.not_forall,not_imp] at hn
   obtain⟨p,hp,hpq⟩:=hn
   exact⟨j,p,hp,hpq,hb⟩
theorem qgg (l:List Pt):Fn 38 1 [qas 0 l] [(0,0,qad l)] (.pv (iV (qf7 l))) 0 []:=by
 rcases qfw l with ⟨h,e⟩ | ⟨h,⟨j,p,hp,hb,hf⟩,e⟩ | ⟨h,h1,⟨j,p,q,hq,hp,hb,hf⟩,e⟩ | ⟨h,h1,h2,e⟩<;>rw[e]
 ·exact qxH (dt (by omega))
 ·exact qCl (df (by omega)) (qhz h hp hb hf)
 ·exact qBW (df (by omega)) (qkR h h1) (qhT h hq hp hb hf)
 ·exact qEP (df (by omega)) (qkR h h1) (qtC h h2)
abbrev pcT (l:List Pt) (k:Nat):List (Nat×SV):=[(1,.pp 1 0),(12,.ls 0 l.length),(13,.pv (iV (l.length:Int))),(14,.pv (iV (k:Int)))]
theorem qko {l:List Pt} (hn:l.length≤64) (h:∀ p∈l,qgM p=true):Rl 1 1 74 0 45 2 (pcT l 0) [(1,0,.ls 0 l.length),(0,0,qad l)] (.exit 0) [(1,.pp 1 0)] [(1,0,.ls 0 l.length),(0,0,qad l)]:=
 RunsL.rounds (pcT l) (fun _=>[(1,0,.ls 0 l.length),(0,0,qad l)]) l.length 0 (Nat.zero_add _)
  (fun k _ hk r=>by
   obtain⟨p,hp⟩:=qai hk
   exact qj3 hp (qak hk) (dt (by omega)) (qbP (h p (List.mem_of_getElem? hp))) (qpC hk hn) r)
  (qvI (df (by omega)))
theorem qio {l:List Pt} (hn:l.length≤64) {j:Nat} {p:Pt} (hp:l[j]?=some p) (hb:¬ qgM p=true) (h:∀ i,i<j→∀ q,l[i]?=some q→qgM q=true):Rl 1 1 74 0 45 2 (pcT l 0) [(1,0,.ls 0 l.length),(0,0,qad l)] .ret [(2,.pv (iV 8))] []:=by
 have hj:=qaj hp
 refine RunsL.rounds (pcT l) (fun _=>[(1,0,.ls 0 l.length),(0,0,qad l)]) j 0 (Nat.zero_add _) (fun k _ hk r=>?_) (qwe hp (qak hj) (dt (by omega)) (qiM hb))
 obtain⟨q,hq⟩:=qai (l:=l) (k:=k) (by omega)
 exact qj3 hq (qak (qaj hq)) (dt (by omega)) (qbP (h k hk q hq)) (qpC (qaj hq) hn) r
theorem qsq {l:List Pt} (hn:l.length≤64) (h:Up l):Rl 1 1 74 1 45 2 [(1,.pp 1 0),(6,.pv (iV ((0+1:Nat):Int)))] [(1,0,.ls 0 l.length),(0,0,qad l)] (.exit 2) [] []:=by
 by_cases h0:l.length=0
 ·exact qmO (k:=0+1) (df (by omega))
 refine RunsL.rounds (fun k=>[(1,.pp 1 0),(6,.pv (iV (k:Int)))]) (fun _=>[(1,0,.ls 0 l.length),(0,0,qad l)]) (N:=l.length) (l.length-1) (0+1) (by omega) (fun k h1 hk r=>?_) (qmO (df (by omega)))
 obtain⟨m,rfl⟩:∃ m,k=m+1:=⟨k-1,by omega⟩
 obtain⟨q,hq⟩:=qai (l:=l) (k:=m) (by omega)
 obtain⟨p,hp⟩:=qai hk
 exact qkc hq hp (qak (by omega)) (qak hk) (dt (by omega)) (qbM m (by omega)) (df (by have:=h m q p hq hp;omega)) (qpC hk hn) r
theorem qiy {l:List Pt} (hn:l.length≤64) {j:Nat} {p q:Pt} (hq:l[j]?=some q) (hp:l[j+1]?=some p) (hb:¬ q.id<p.id) (h:∀ i,i<j→∀ p q,l[i]?=some p→l[i+1]?=some q→p.id<q.id):Rl 1 1 74 1 45 2 [(1,.pp 1 0),(6,.pv (iV ((0+1:Nat):Int)))] [(1,0,.ls 0 l.length),(0,0,qad l)] .ret [(2,.pv (iV 32))] []:=by
 have hj:=qaj hp
 refine RunsL.rounds (fun k=>[(1,.pp 1 0),(6,.pv (iV (k:Int)))]) (fun _=>[(1,0,.ls 0 l.length),(0,0,qad l)]) (N:=j+1) j (0+1) (by omega) (fun k h1 hk r=>?_) (qyZ hq hp (qak (by omega)) (qak hj) (dt (by omega)) (qbM j (by omega)) (dt (by omega)))
 obtain⟨m,rfl⟩:∃ m,k=m+1:=⟨k-1,by omega⟩
 obtain⟨q',hq'⟩:=qai (l:=l) (k:=m) (by omega)
 obtain⟨p',hp'⟩:=qai (l:=l) (k:=m+1) (by omega)
 exact qkc hq' hp' (qak (by omega)) (qak (by omega)) (dt (by omega)) (qbM m (by omega)) (df (by have:=h m (by omega) q' p' hq' hp';omega)) (qpC (n:=l.length) (by omega) hn) r
theorem qem (l:List Pt):Fn 74 1 [qas 0 l] [(0,0,qad l)] (.pv (iV (qf7 l))) 0 []:=by
 rcases qfw l with ⟨h,e⟩ | ⟨h,⟨j,p,hp,hb,hf⟩,e⟩ | ⟨h,h1,⟨j,p,q,hq,hp,hb,hf⟩,e⟩ | ⟨h,h1,h2,e⟩<;>rw[e]
 ·exact qx4 (dt (by omega))
 ·exact qCZ (df (by omega)) (qio h hp hb hf)
 ·exact qAQ (df (by omega)) (qko h h1) (qiy h hq hp hb hf)
 ·exact qGH (df (by omega)) (qko h h1) (qsq h h2)
structure Val (l:List Pt):Prop where
 len:l.length≤64
 ok:∀ p∈l,qgM p=true
 up:Up l
theorem qc0 {l:List Pt}:qf7 l=0↔Val l:=by
 rcases qfw l with ⟨h,e⟩ | ⟨h,⟨j,p,hp,hb,hf⟩,e⟩ | ⟨h,h1,⟨j,p,q,hq,hp,hb,hf⟩,e⟩ | ⟨h,h1,h2,e⟩<;>rw[e]
 ·exact⟨fun h=>by omega,fun v=>by have:=v.len;omega⟩
 ·exact⟨fun h=>by omega,fun v=>(hb (v.ok p (List.mem_of_getElem? hp))).elim⟩
 ·exact⟨fun h=>by omega,fun v=>(hb (v.up j q p hq hp)).elim⟩
 ·exact⟨fun _=>⟨h,h1,h2⟩,fun _=>rfl⟩
theorem place (l:List Pt) (hv:Val l) (id:Int):(∃ (k:Nat) (p:Pt),l[k]?=some p∧p.id=id)∨((∀ p∈l,p.id≠id)∧∃ k,k≤l.length∧(∀ (t:Nat) (p:Pt),t<k→l[t]?=some p→p.id<id)∧∀ (t:Nat) (p:Pt),k≤t→l[t]?=some p→id<p.id):=by
 by_cases h:∃ (k:Nat) (p:Pt),l[k]?=some p∧p.id=id
 ·exact Or.inl h
 ·refine Or.inr ⟨fun p hp e=>?_,?_⟩
  ·obtain⟨k,hk,rfl⟩:=List.getElem_of_mem hp
   exact h ⟨k,_,List.getElem?_eq_getElem hk,e⟩
  ·rcases qa9 (fun k=>∀ p,l[k]?=some p→p.id<id) l.length with hh | ⟨j,hj,hn,hb⟩
   ·exact⟨l.length,Nat.le_refl _,fun t p ht hp=>hh t ht p hp,fun t p ht hp=>by have:=qaj hp;omega⟩
   ·refine⟨j,by omega,fun t p ht hp=>hb t ht p hp,fun t p ht hp=>?_⟩
    simp only[Classical.not_forall,not_imp] at hn
    obtain⟨q,hq,hlt⟩:=hn
    have hne:q.id≠id:=fun e=>h ⟨j,q,hq,e⟩
    rcases Nat.lt_or_ge j t with h' | h'
    ·have:=hv.up.mono h' hq hp;omega
    ·have:t=j:=by omega
     subst this
     rw[hq] at hp
     cases hp
     omega
abbrev atT (id:Int) (k:Nat):List (Nat×SV):=[(1,.pv (iV id)),(2,.pp 1 0),(5,.pv (iV (k:Int)))]
theorem qGn {l:List Pt} (hn:l.length≤64) {id:Int} (h:∀ p∈l,p.id≠id):Fn 61 1 [qas 0 l,.pv (iV id)] [(0,0,qad l)] (.pv (iV (-1))) 0 []:=
 qFq (RunsL.rounds (atT id) (fun _=>[(1,0,.ls 0 l.length),(0,0,qad l)]) l.length 0 (Nat.zero_add _)
  (fun k _ hk r=>by
   obtain⟨p,hp⟩:=qai hk
   exact qmH hp (qak hk) (dt (by omega)) (by simpa using h p (List.mem_of_getElem? hp)) (qpC hk hn) r)
  (qDp (df (by omega))))
theorem qe4 {l:List Pt} (hv:Val l) {id:Int} {k:Nat} {p:Pt} (hk:l[k]?=some p) (he:p.id=id):Fn 61 1 [qas 0 l,.pv (iV id)] [(0,0,qad l)] (.pv (iV (k:Int))) 0 []:=by
 refine qCx (RunsL.rounds (atT id) (fun _=>[(1,0,.ls 0 l.length),(0,0,qad l)]) k 0 (Nat.zero_add _) (fun j _ hj r=>?_) (qAo hk (qak (qaj hk)) (dt (by have:=qaj hk;omega)) (by simpa using he)))
 have hl:=qaj hk
 obtain⟨q,hq⟩:=qai (l:=l) (k:=j) (by omega)
 exact qmH hq (qak (qaj hq)) (dt (by omega)) (by have:=hv.up.mono hj hq hk;simp;omega) (qpC (qaj hq) hv.len) r
theorem qzV (a pa pb id:Int):∃ c,Pure Tryz.prog 294 #[qab a pa pb,iV id] (iV c)∧(c<0↔a<id)∧(c=0↔a=id):=by
 rcases Int.lt_trichotomy a id with h | h | h
 ·exact⟨-1,qq9 (by simp) (by simp) (dt h),⟨fun _=>h,fun _=>by omega⟩,⟨fun h=>by omega,fun h=>by omega⟩⟩
 ·exact⟨0,qrY (by simp) (by simp) (df (by omega)) (df (by omega)),⟨fun h=>by omega,fun h=>by omega⟩,⟨fun _=>h,fun _=>rfl⟩⟩
 ·exact⟨1,qtL (by simp) (by simp) (df (by omega)) (dt (by omega)),⟨fun h=>by omega,fun h=>by omega⟩,⟨fun h=>by omega,fun h=>by omega⟩⟩
abbrev bsT (l:List Pt) (id:Int) (i j:Nat):List (Nat×SV):=[(0,.ls 0 l.length),(1,.pv (iV id)),(2,.pv (.func (.func 294) #[] #[])),(8,.pv (iV (l.length:Int))),(9,.pv (iV (i:Int))),(10,.pv (iV (j:Int)))]
theorem qu6 {l:List Pt} (hn:l.length≤64) {id:Int} {k:Nat} (hlo:∀ (t:Nat) (p:Pt),t<k→l[t]?=some p→p.id<id) (hhi:∀ (t:Nat) (p:Pt),k≤t→l[t]?=some p→¬ p.id<id):∀ (d i j:Nat),j-i≤d→i≤k→k≤j→j≤l.length→
 Rl 1 1 293 0 49 1 (bsT l id i j) [(0,0,qad l)] (.exit 0) (bsT l id k k) [(0,0,qad l)]:=by
 intro d
 induction d with
 | zero=>
  intro i j hd h1 h2 h3
  have:i=k:=by omega
  have:j=k:=by omega
  subst i j
  exact quv (df (by omega))
 | succ d ih=>
  intro i j hd h1 h2 h3
  by_cases hij:i<j
  ·obtain⟨p,hp⟩:=qai (l:=l) (k:=(i+j)/2) (by omega)
   obtain⟨c,hc,hc1,hc2⟩:=qzV p.id p.a p.b id
   have a1:iV (IntKind.i64.wrap ((i:Int)+(j:Int)))=iV ((i:Int)+(j:Int)):=by rw[qap (by omega) (by omega)]
   have a2:Value.int .u64 (IntKind.u64.wrap ((i:Int)+(j:Int)))=.int .u64 ((i:Int)+(j:Int)):=by rw[qe0 (by omega) (by omega)]
   have a3:Value.int .u64 (((i:Int)+(j:Int)).fdiv (2 ^ (min (1:Int).toNat IntKind.u64.bits)))=.int .u64 (((i+j)/2:Nat):Int):=by
    have:(2:Int) ^ (min (1:Int).toNat IntKind.u64.bits)=2:=rfl
    rw[this,Int.fdiv_eq_ediv_of_nonneg _ (by omega)]
    congr 1
   have a4:iV (IntKind.i64.wrap (((i+j)/2:Nat):Int))=iV (((i+j)/2:Nat):Int):=by rw[qap (by omega) (by omega)]
   by_cases hlt:p.id<id
   ·refine qFf hp (qak (qaj hp)) (dt (by omega)) a1 a2 (by omega) a3 a4 hc (dt (hc1.2 hlt)) (qal (by omega)) (ih _ _ (by omega) ?_ h2 h3)
    rcases Nat.lt_or_ge ((i+j)/2) k with h | h
    ·exact h
    ·exact (hhi _ p h hp hlt).elim
   ·refine qFD hp (qak (qaj hp)) (dt (by omega)) a1 a2 (by omega) a3 a4 hc (df (fun h=>hlt (hc1.1 h))) (ih _ _ (by omega) h1 ?_ (by omega))
    rcases Nat.lt_or_ge ((i+j)/2) k with h | h
    ·exact (hlt (hlo _ p h hp)).elim
    ·exact h
  ·have:i=k:=by omega
   have:j=k:=by omega
   subst i j
   exact quv (df (by omega))
theorem qpI {l:List Pt} (hv:Val l) {id:Int} {k:Nat} {p:Pt} (hk:l[k]?=some p) (he:p.id=id):Fn 232 1 [qas 0 l,.pv (iV id)] [(0,0,qad l)] (.pv (.tuple #[iV (k:Int),.bool true])) 0 []:=by
 subst he
 obtain⟨c,hc,hc1,hc2⟩:=qzV p.id p.a p.b p.id
 have hl:=qaj hk
 refine qpj (qyq (qu6 hv.len (fun t q ht hq=>hv.up.mono ht hq hk) (fun t q ht hq=>?_) l.length 0 l.length (by omega) (Nat.zero_le _) (by omega) (Nat.le_refl _)) hk (qak hl) (dt (by omega)) hc (by simpa using hc2.2 rfl))
 rcases Nat.lt_or_ge k t with h | h
 ·have:=hv.up.mono h hk hq;omega
 ·have:t=k:=by omega
  subst this
  rw[hk] at hq;cases hq;omega
end Go.Proofs.YtkckcgpmnipnaaaGreat

namespace Go.Proofs.YtkckcgpmnipnaaaGreat
set_option maxRecDepth 100000
open Go.RowKit
def ld (tn td:Int) (p q:Pt):Bool:=qbp (p.a*td+p.b*tn) (q.a*td+q.b*tn) p.b q.b p.id q.id
section
variable {tn td:Int} {p q r:Pt}
end
end Go.Proofs.YtkckcgpmnipnaaaGreat

namespace Go.Proofs.YtkckcgpmnipnaaaGreat
set_option maxRecDepth 100000
open Go.RowKit
theorem qhE (l:List Pt):(¬ (l.length≤16∨64≤l.length∧l.length≤70)∧Fn 10 1 [qas 0 l] [(0,0,qad l)] (.pv (.bool true)) 0 [])∨
 ((l.length≤16∨64≤l.length∧l.length≤70)∧Fn 10 1 [qas 0 l] [(0,0,qad l)] (.pv (.bool false)) 0 []):=by
 by_cases h1:l.length>16
 ·by_cases h2:l.length<64
  ·exact Or.inl ⟨by omega,qvS (dt (by omega)) (dt (by omega))⟩
  ·by_cases h3:l.length>70
   ·exact Or.inl ⟨by omega,qr1 (dt (by omega)) (df (by omega)) (dt (by omega))⟩
   ·exact Or.inr ⟨by omega,qq3 (dt (by omega)) (df (by omega)) (df (by omega))⟩
 ·exact Or.inr ⟨by omega,qxk (df (by omega)) (df (by omega))⟩
theorem qj9 {l:List Pt} (hn:l.length≤1000000):Fn 70 1 [qas 0 l] [(0,0,qad l)] (.ag [.ls 1 l.length]) 1 [(1,0,qad l)]:=qoK (by omega)
abbrev qBK (f:FuncId) (l:List Pt) (id:Int) (p:Pt) (e:Int):Prop:=Fn f 1 [qas 0 l,.pv (iV id)] [(0,0,qad l)] (.pv (.tuple #[ptV p,iV e])) 0 []
theorem qcv {α:Type} {l:List α} {k:Nat} {p:α} (h:l[k]?=some p):l.take (k+1)=l.take k++[p]:=by rw[List.take_add_one,h];rfl
abbrev saT (k:Nat):List (Nat×SV):=[(2,.pp 2 0),(3,.pp 3 0),(5,.pv (iV (k:Int)))]
theorem qpm {l:List Pt} (hn:l.length≤1000000):Fn 41 2 [qas 0 l,qas 1 l] [(0,0,qad l),(1,0,qad l)] (.pv (.bool true)) 0 []:=
 qti (by simp) (RunsL.rounds saT (fun _=>[(2,0,.ls 0 l.length),(3,0,.ls 1 l.length),(0,0,qad l),(1,0,qad l)]) l.length 0 (Nat.zero_add _)
  (fun k _ hk r=>by
   obtain⟨p,hp⟩:=qai hk
   exact qnr hp (qak hk) hp (qak hk) (dt (by omega)) (by simp) (qal (by omega)) r)
  (qtJ (df (by omega))))
end Go.Proofs.YtkckcgpmnipnaaaGreat

namespace Go.Proofs.YtkckcgpmnipnaaaGreat
set_option maxRecDepth 100000
open Go.RowKit
noncomputable def tE (l:List Pt) (tn td:Int):Int:=if qf7 l=0 then (if okB tn td=true then 0 else 8) else qf7 l
section
variable {l:List Pt} {tn td:Int}
end
end Go.Proofs.YtkckcgpmnipnaaaGreat
