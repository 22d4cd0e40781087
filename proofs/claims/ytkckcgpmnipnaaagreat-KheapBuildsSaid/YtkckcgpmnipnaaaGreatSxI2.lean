/-
  Blocks and lists by other names: what holds by one name holds by another. Conditions: none.
-/
import Derived.Test.YtkckcgpmnipnaaaGreatSxI
namespace Go.Proofs.YtkckcgpmnipnaaaGreat
set_option maxRecDepth 100000
open Go.RowKit
theorem qcf {α:Type} {f:α→Prop}:∀ {l:List α},qaU (l.map f)→∀ x∈l,f x
 | [],_,x,hx=>by cases hx
 | y::r,h,x,hx=>by
  rcases List.mem_cons.1 hx with rfl | hx
  ·exact h.1
  ·exact qcf (l:=r) h.2 x hx
theorem qdS {l:List Nat} {b:Nat}:qb3 l b=true↔b∈l:=by
 unfold qb3
 rw[List.any_eq_true]
 constructor
 ·rintro⟨c,hc,he⟩
  rw[← Nat.eq_of_beq_eq_true he];exact hc
 ·intro h
  exact⟨b,h,Nat.beq_refl b⟩
structure OkRen (lo fr nb:Nat) (N:List Nat) (f:Nat→Nat):Prop where
 hfr:fr≤nb
 hid:∀ b,b<fr→f b=b
 hlt:∀ b,qbF fr N b=true→b<nb
 hlo:∀ b,qbF fr N b=true→(lo≤b↔lo≤f b)
 hinj:∀ b c,qbF fr N b=true→qbF fr N c=true→f b=f c→b=c
theorem qnN {fr:Nat}:∀ {ρ:List (Nat×Nat)},(ρ.all fun e=>Nat.ble fr e.1)=true→∀ b,b<fr→qaK ρ b=b
 | [],_,_,_=>rfl
 | (c,a)::r,h,b,hb=>by
  simp only[List.all_cons,Bool.and_eq_true] at h
  have hc:=Nat.le_of_ble_eq_true h.1
  have:Nat.beq c b=false:=by
   cases e:Nat.beq c b
   ·rfl
   ·have:=Nat.eq_of_beq_eq_true e;omega
  rw[qaK,this,cond_false]
  exact qnN h.2 b hb
theorem qcF {fr:Nat} {N:List Nat} {b:Nat} (h:qbF fr N b=true):b<fr∨b∈N:=by
 unfold qbF at h
 rw[Bool.or_eq_true] at h
 rcases h with h | h
 ·exact Or.inl (Nat.le_of_ble_eq_true h)
 ·exact Or.inr (qdS.1 h)
theorem qcx {lo fr nb:Nat} {N:List Nat} {ρ:List (Nat×Nat)} (h:okR lo fr nb N ρ=true):OkRen lo fr nb N (qaK ρ):=by
 unfold okR at h
 simp only[Bool.and_eq_true] at h
 obtain⟨⟨h1,h2⟩,h3⟩:=h
 have hfr:=Nat.le_of_ble_eq_true h1
 have hid:=qnN h2
 have key:∀ b∈N,b<nb∧(b<fr∨fr≤qaK ρ b)∧(lo≤b↔lo≤qaK ρ b)∧∀ c∈N,qaK ρ b=qaK ρ c→b=c:=by
  intro b hb
  have k:=List.all_eq_true.1 h3 b hb
  simp only[Bool.and_eq_true,Bool.or_eq_true] at k
  obtain⟨⟨⟨k1,k2⟩,k3⟩,k4⟩:=k
  refine⟨Nat.le_of_ble_eq_true k1,k2.imp Nat.le_of_ble_eq_true Nat.le_of_ble_eq_true,?_,fun c hc e=>?_⟩
  ·have k3':Nat.ble lo b=Nat.ble lo (qaK ρ b):=by simpa using k3
   constructor
   ·intro h;exact Nat.le_of_ble_eq_true (by rw[← k3'];exact Nat.ble_eq_true_of_le h)
   ·intro h;exact Nat.le_of_ble_eq_true (by rw[k3'];exact Nat.ble_eq_true_of_le h)
  ·have k5:=List.all_eq_true.1 k4 c hc
   simp only[Bool.or_eq_true,Bool.not_eq_true'] at k5
   rcases k5 with k5 | k5
   ·exact Nat.eq_of_beq_eq_true k5
   ·rw[e,Nat.beq_refl] at k5;cases k5
 refine⟨hfr,hid,fun b hb=>?_,fun b hb=>?_,fun b c hb hc e=>?_⟩
 ·rcases qcF hb with h | h
  ·omega
  ·exact (key b h).1
 ·rcases qcF hb with h | h
  ·rw[hid b h]
  ·exact (key b h).2.2.1
 ·rcases qcF hb with h | h<;>rcases qcF hc with h' | h'
  ·rw[hid b h,hid c h'] at e;exact e
  ·rw[hid b h] at e
   rcases (key c h').2.1 with g | g
   ·rw[hid c g] at e;exact e
   ·omega
  ·rw[hid c h'] at e
   rcases (key b h).2.1 with g | g
   ·rw[hid b g] at e;exact e
   ·omega
  ·exact (key b h).2.2.2 c h' e
def qfJ (f:Nat→Nat) (β γ:Bl) (b:Nat):Prop:=(∀ r,β (f b)=some r→γ b=some r)∧∀ u,β.g (f b)=some u→γ.g b=some u
theorem S0.ren_is {f:Nat→Nat} {β γ:Bl} {s:S0} {x:Value} (h:∀ b∈s.nm,qfJ f β γ b) (k:(s.ren f).is β x):s.is γ x:=by
 cases s with
 | pv y=>exact k
 | pp b o=>obtain⟨r,h1,h2⟩:=k;exact⟨r,(h b (by simp[S0.nm])).1 _ h1,h2⟩
 | ps b o l c=>obtain⟨r,h1,h2⟩:=k;exact⟨r,(h b (by simp[S0.nm])).1 _ h1,h2⟩
 | ls b l=>exact⟨(h b (by simp[S0.nm])).2 _ k.1,k.2⟩
 | lq b es kk l=>obtain⟨a,m,c,a',c',h1,h2⟩:=k;exact⟨a,m,c,a',c',(h b (by simp[S0.nm])).2 _ h1,h2⟩
 | lp b q=>obtain⟨r,o,m,c,h1,h2⟩:=k;exact⟨r,o,m,c,(h b (by simp[S0.nm])).2 _ h1,h2⟩
 | mp b=>obtain⟨r,h1,h2⟩:=k;exact⟨r,(h b (by simp[S0.nm])).1 _ h1,h2⟩
theorem S0.ren_isl {f:Nat→Nat} {β γ:Bl}:∀ {ss:List S0} {vs:List Value},(∀ b∈ss.flatMap S0.nm,qfJ f β γ b)→S0.isl β (ss.map (S0.ren f)) vs→S0.isl γ ss vs
 | [],[],_,_=>trivial
 | [],_::_,_,k=>k.elim
 | _::_,[],_,k=>k.elim
 | _::_,_::_,h,k=>⟨S0.ren_is (fun b hb=>h b (by simp[List.flatMap_cons,hb])) k.1,S0.ren_isl (fun b hb=>h b (by rw[List.flatMap_cons];exact List.mem_append_right _ hb)) k.2⟩
theorem S1.ren_is {f:Nat→Nat} {β γ:Bl} {s:S1} {x:Value} (h:∀ b∈s.nm,qfJ f β γ b) (k:(s.ren f).is β x):s.is γ x:=by
 cases s with
 | one s=>exact S0.ren_is h k
 | ag l=>obtain⟨vs,h1,h2⟩:=k;exact⟨vs,S0.ren_isl h h1,h2⟩
theorem S1.ren_isl {f:Nat→Nat} {β γ:Bl}:∀ {ss:List S1} {vs:List Value},(∀ b∈ss.flatMap S1.nm,qfJ f β γ b)→S1.isl β (ss.map (S1.ren f)) vs→S1.isl γ ss vs
 | [],[],_,_=>trivial
 | [],_::_,_,k=>k.elim
 | _::_,[],_,k=>k.elim
 | _::_,_::_,h,k=>⟨S1.ren_is (fun b hb=>h b (by simp[List.flatMap_cons,hb])) k.1,S1.ren_isl (fun b hb=>h b (by rw[List.flatMap_cons];exact List.mem_append_right _ hb)) k.2⟩
theorem SV.ren_is {f:Nat→Nat} {β γ:Bl} {s:SV} {x:Value} (h:∀ b∈s.nm,qfJ f β γ b) (k:(s.ren f).is β x):s.is γ x:=by
 cases s with
 | pv y=>exact k
 | pp b o=>exact S0.ren_is (s:=.pp b o) h k
 | ps b o l c=>exact S0.ren_is (s:=.ps b o l c) h k
 | ls b l=>exact S0.ren_is (s:=.ls b l) h k
 | lq b es kk l=>exact S0.ren_is (s:=.lq b es kk l) h k
 | lp b q=>exact S0.ren_is (s:=.lp b q) h k
 | mp b=>exact S0.ren_is (s:=.mp b) h k
 | pc g cap=>obtain⟨vs,h1,h2⟩:=k;exact⟨vs,S0.ren_isl h h1,h2⟩
 | ag l=>obtain⟨vs,h1,h2⟩:=k;exact⟨vs,S0.ren_isl h h1,h2⟩
 | tu l=>obtain⟨vs,h1,h2⟩:=k;exact⟨vs,S1.ren_isl h h1,h2⟩
 | any=>trivial
 | row e es n xs=>exact k
 | mrow xs=>exact k
theorem SV.ren_isl {f:Nat→Nat} {β γ:Bl}:∀ {ss:List SV} {vs:List Value},(∀ b∈ss.flatMap SV.nm,qfJ f β γ b)→SV.isl β (ss.map (SV.ren f)) vs→SV.isl γ ss vs
 | [],[],_,_=>trivial
 | [],_::_,_,k=>k.elim
 | _::_,[],_,k=>k.elim
 | _::_,_::_,h,k=>⟨SV.ren_is (fun b hb=>h b (by simp[List.flatMap_cons,hb])) k.1,SV.ren_isl (fun b hb=>h b (by rw[List.flatMap_cons];exact List.mem_append_right _ hb)) k.2⟩
def qlW (f:Nat→Nat) (β γ:Bl) (b:Nat):Prop:=(∀ r,β b=some r→γ (f b)=some r)∧∀ u,β.g b=some u→γ.g (f b)=some u
theorem S0.to_is {f:Nat→Nat} {β γ:Bl} {s:S0} {x:Value} (h:∀ b∈s.nm,qlW f β γ b) (k:s.is β x):(s.ren f).is γ x:=by
 cases s with
 | pv y=>exact k
 | pp b o=>obtain⟨r,h1,h2⟩:=k;exact⟨r,(h b (by simp[S0.nm])).1 _ h1,h2⟩
 | ps b o l c=>obtain⟨r,h1,h2⟩:=k;exact⟨r,(h b (by simp[S0.nm])).1 _ h1,h2⟩
 | ls b l=>exact⟨(h b (by simp[S0.nm])).2 _ k.1,k.2⟩
 | lq b es kk l=>obtain⟨a,m,c,a',c',h1,h2⟩:=k;exact⟨a,m,c,a',c',(h b (by simp[S0.nm])).2 _ h1,h2⟩
 | lp b q=>obtain⟨r,o,m,c,h1,h2⟩:=k;exact⟨r,o,m,c,(h b (by simp[S0.nm])).2 _ h1,h2⟩
 | mp b=>obtain⟨r,h1,h2⟩:=k;exact⟨r,(h b (by simp[S0.nm])).1 _ h1,h2⟩
theorem S0.to_isl {f:Nat→Nat} {β γ:Bl}:∀ {ss:List S0} {vs:List Value},(∀ b∈ss.flatMap S0.nm,qlW f β γ b)→S0.isl β ss vs→S0.isl γ (ss.map (S0.ren f)) vs
 | [],[],_,_=>trivial
 | [],_::_,_,k=>k.elim
 | _::_,[],_,k=>k.elim
 | _::_,_::_,h,k=>⟨S0.to_is (fun b hb=>h b (by simp[List.flatMap_cons,hb])) k.1,S0.to_isl (fun b hb=>h b (by rw[List.flatMap_cons];exact List.mem_append_right _ hb)) k.2⟩
theorem S1.to_is {f:Nat→Nat} {β γ:Bl} {s:S1} {x:Value} (h:∀ b∈s.nm,qlW f β γ b) (k:s.is β x):(s.ren f).is γ x:=by
 cases s with
 | one s=>exact S0.to_is h k
 | ag l=>obtain⟨vs,h1,h2⟩:=k;exact⟨vs,S0.to_isl h h1,h2⟩
theorem S1.to_isl {f:Nat→Nat} {β γ:Bl}:∀ {ss:List S1} {vs:List Value},(∀ b∈ss.flatMap S1.nm,qlW f β γ b)→S1.isl β ss vs→S1.isl γ (ss.map (S1.ren f)) vs
 | [],[],_,_=>trivial
 | [],_::_,_,k=>k.elim
 | _::_,[],_,k=>k.elim
 | _::_,_::_,h,k=>⟨S1.to_is (fun b hb=>h b (by simp[List.flatMap_cons,hb])) k.1,S1.to_isl (fun b hb=>h b (by rw[List.flatMap_cons];exact List.mem_append_right _ hb)) k.2⟩
theorem SV.to_is {f:Nat→Nat} {β γ:Bl} {s:SV} {x:Value} (h:∀ b∈s.nm,qlW f β γ b) (k:s.is β x):(s.ren f).is γ x:=by
 cases s with
 | pv y=>exact k
 | pp b o=>exact S0.to_is (s:=.pp b o) h k
 | ps b o l c=>exact S0.to_is (s:=.ps b o l c) h k
 | ls b l=>exact S0.to_is (s:=.ls b l) h k
 | lq b es kk l=>exact S0.to_is (s:=.lq b es kk l) h k
 | lp b q=>exact S0.to_is (s:=.lp b q) h k
 | mp b=>exact S0.to_is (s:=.mp b) h k
 | pc g cap=>obtain⟨vs,h1,h2⟩:=k;exact⟨vs,S0.to_isl h h1,h2⟩
 | ag l=>obtain⟨vs,h1,h2⟩:=k;exact⟨vs,S0.to_isl h h1,h2⟩
 | tu l=>obtain⟨vs,h1,h2⟩:=k;exact⟨vs,S1.to_isl h h1,h2⟩
 | any=>trivial
 | row e es n xs=>exact k
 | mrow xs=>exact k
theorem SV.ren_row {f:Nat→Nat} (s:SV):(s.ren f).isRow=s.isRow:=by cases s<;>rfl
theorem SV.ren_eq_row {f:Nat→Nat} {s:SV} {e:TypeId} {es n:Nat} {xs:List Value} (h:s.ren f=.row e es n xs):s=.row e es n xs:=by cases s<;>simp[SV.ren] at h ⊢<;>exact h
theorem SV.ren_eq_mrow {f:Nat→Nat} {s:SV} {xs:List Value} (h:s.ren f=.mrow xs):s=.mrow xs:=by cases s<;>simp[SV.ren] at h ⊢<;>exact h
theorem Bl.ren_at {β:Bl} {fr:Nat} {N:List Nat} {f:Nat→Nat} {b:Nat} (h:qbF fr N b=true):qfJ f β (β.ren fr N f) b:=
 ⟨fun r e=>by unfold Bl.ren;simp only[h,cond_true];exact e,fun u e=>by unfold Bl.ren;simp only[h,cond_true];exact e⟩
theorem Bl.ren_f {β:Bl} {fr:Nat} {N:List Nat} {f:Nat→Nat} {b r:Nat} (h:(β.ren fr N f) b=some r):qbF fr N b=true∧β (f b)=some r:=by
 unfold Bl.ren at h
 simp only at h
 cases hk:qbF fr N b
 ·rw[hk] at h;cases h
 ·rw[hk] at h;exact⟨rfl,h⟩
theorem Bl.ren_g {β:Bl} {fr:Nat} {N:List Nat} {f:Nat→Nat} {b:Nat} {u:Value} (h:(β.ren fr N f).g b=some u):qbF fr N b=true∧β.g (f b)=some u:=by
 unfold Bl.ren at h
 simp only at h
 cases hk:qbF fr N b
 ·rw[hk] at h;cases h
 ·rw[hk] at h;exact⟨rfl,h⟩
theorem Bl.ren_leU {β:Bl} {lo fr nb:Nat} {N:List Nat} {f:Nat→Nat} (h:OkRen lo fr nb N f):β.leU fr (β.ren fr N f):=by
 intro b hb _
 have hk:qbF fr N b=true:=by unfold qbF;rw[Nat.ble_eq_true_of_le (show b+1≤fr from hb)];rfl
 unfold Bl.ren
 simp only[hk,cond_true,h.hid b hb]
 first | exact⟨trivial,trivial⟩ | exact⟨rfl,rfl⟩
theorem Bl.ren_dom {β:Bl} {lo fr nb:Nat} {N:List Nat} {f:Nat→Nat} (h:OkRen lo fr nb N f):(β.ren fr N f).dom nb:=by
 intro b hb
 have hk:qbF fr N b=false:=by
  cases e:qbF fr N b
  ·rfl
  ·have:=h.hlt b e;omega
 unfold Bl.ren
 simp only[hk,cond_false]
 exact⟨trivial,trivial⟩
theorem HRel.ren {W0:World} {lo fr nb:Nat} {β:Bl} {st:St} {w:World} {N:List Nat} {f:Nat→Nat} {hp1:List (Nat×Nat×SV)} (H:HRel W0 lo β st.hp w) (ok:OkRen lo fr nb N f) (hk:∀ e∈hp1,e.1∈N∧∀ b∈e.2.2.nm,b∈N) (hh:qaU (eqH f st hp1)) :
 HRel W0 lo (β.ren fr N f) hp1 w:=by
 have kN:∀ {b},b∈N→qbF fr N b=true:=fun {b} h=>by unfold qbF;rw[qdS.2 h,Bool.or_true]
 have get:∀ {b o sv},qaf hp1 b o=some sv→qbF fr N b=true∧(∀ c∈sv.nm,qbF fr N c=true)∧qaf st.hp (f b) o=some (sv.ren f):=fun {b o sv} h=>by
  have hm:=qaJ h
  obtain⟨h1,h2⟩:=hk _ hm
  exact⟨kN h1,fun c hc=>kN (h2 c hc),qcf hh _ hm⟩
 refine⟨H.gr,fun b r e=>H.live _ r (Bl.ren_f e).2,fun b c r e1 e2=>?_,fun b r hb e=>?_,fun b r e=>?_,fun b o sv hc hs=>?_,fun b o e es n xs hc=>?_,fun b o e es n xs c o' e' es' n' xs' u v f1 f2 f3 f4 f5 f6 f7=>?_,fun b o xs hc=>?_⟩
 ·obtain⟨a1,a2⟩:=Bl.ren_f e1
  obtain⟨b1,b2⟩:=Bl.ren_f e2
  exact ok.hinj b c a1 b1 (H.inj _ _ r a2 b2)
 ·obtain⟨a1,a2⟩:=Bl.ren_f e
  exact H.new _ r ((ok.hlo b a1).1 hb) a2
 ·obtain⟨a1,a2⟩:=Bl.ren_f e
  unfold Bl.ren
  simp only[a1,cond_true]
  exact H.sep _ r a2
 ·obtain⟨g1,g2,g3⟩:=get hc
  obtain⟨r,u,a1,a2,a3⟩:=H.cells _ _ _ g3 (by rw[SV.ren_row];exact hs)
  exact⟨r,u,(Bl.ren_at g1).1 r a1,SV.ren_is (fun c hc=>Bl.ren_at (g2 c hc)) a2,a3⟩
 ·obtain⟨g1,g2,g3⟩:=get hc
  obtain⟨u,a1,a2⟩:=H.rows _ _ _ _ _ _ g3
  refine⟨u,(Bl.ren_at g1).2 u a1,a2.rd,a2.one,fun hb=>a2.low ?_,fun hb=>a2.own ((ok.hlo b g1).1 hb),fun hb c r e hk'=>a2.apart ((ok.hlo b g1).1 hb) _ r (Bl.ren_f e).2 hk'⟩
  have:=ok.hlo b g1
  omega
 ·obtain⟨g1,_,g3⟩:=get f1
  obtain⟨k1,_,k3⟩:=get f2
  exact H.rinj _ _ _ _ _ _ _ _ _ _ _ _ u v g3 k3 ((ok.hlo b g1).1 f3) ((ok.hlo c k1).1 f4) (fun e=>f5 (ok.hinj b c g1 k1 e)) (Bl.ren_g f6).2 (Bl.ren_g f7).2
 ·obtain⟨g1,_,g3⟩:=get hc
  obtain⟨r,a1,a2⟩:=H.maps _ _ _ g3
  exact⟨r,(Bl.ren_at g1).1 r a1,a2⟩
end Go.Proofs.YtkckcgpmnipnaaaGreat
