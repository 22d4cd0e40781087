/-
  Joined: SxI2, SxI3. Conditions: none.
-/
import Derived.Test.YtkckcgpmnipnaaaGreatSxI
namespace Go.Proofs.YtkckcgpmnipnaaaGreat
set_option maxRecDepth 100000
open Go.RowKit
theorem qda {α:Type} {f:α→Prop}:∀ {l:List α},qba (l.map f)→∀ x∈l,f x
 | [],_,x,hx=>by cases hx
 | y::r,h,x,hx=>by
  rcases List.mem_cons.1 hx with rfl | hx
  ·exact h.1
  ·exact qda (l:=r) h.2 x hx
theorem qdV {l:List Nat} {b:Nat}:qb9 l b=true↔b∈l:=by
 unfold qb9;rw[List.any_eq_true];constructor
 ·rintro⟨c,hc,he⟩;rw[← Nat.eq_of_beq_eq_true he];exact hc
 ·intro h;exact⟨b,h,Nat.beq_refl b⟩
structure OkRen (lo fr nb:Nat) (N:List Nat) (f:Nat→Nat):Prop where
 hfr:fr≤nb
 hid:∀ b,b<fr→f b=b
 hlt:∀ b,qbP fr N b=true→b<nb
 hlo:∀ b,qbP fr N b=true→(lo≤b↔lo≤f b)
 hinj:∀ b c,qbP fr N b=true→qbP fr N c=true→f b=f c→b=c
theorem qoi {fr:Nat}:∀ {ρ:List (Nat×Nat)},(ρ.all fun e=>Nat.ble fr e.1)=true→∀ b,b<fr→qaM ρ b=b
 | [],_,_,_=>rfl
 | (c,a)::r,h,b,hb=>by
  simp only[List.all_cons,Bool.and_eq_true] at h;have hc:=Nat.le_of_ble_eq_true h.1
  have:Nat.beq c b=false:=by
   cases e:Nat.beq c b
   ·rfl
   ·have:=Nat.eq_of_beq_eq_true e;omega
  rw[qaM,this,cond_false];exact qoi h.2 b hb
theorem qcK {fr:Nat} {N:List Nat} {b:Nat} (h:qbP fr N b=true):b<fr∨b∈N:=by
 unfold qbP at h;rw[Bool.or_eq_true] at h
 rcases h with h | h
 ·exact Or.inl (Nat.le_of_ble_eq_true h)
 ·exact Or.inr (qdV.1 h)
theorem qd8 {lo fr nb:Nat} {N:List Nat} {ρ:List (Nat×Nat)} (h:okR lo fr nb N ρ=true):OkRen lo fr nb N (qaM ρ):=by
 unfold okR at h;simp only[Bool.and_eq_true] at h;obtain⟨⟨h1,h2⟩,h3⟩:=h;have hfr:=Nat.le_of_ble_eq_true h1;have hid:=qoi h2
 have key:∀ b∈N,b<nb∧(b<fr∨fr≤qaM ρ b)∧(lo≤b↔lo≤qaM ρ b)∧∀ c∈N,qaM ρ b=qaM ρ c→b=c:=by
  intro b hb;have k:=List.all_eq_true.1 h3 b hb;simp only[Bool.and_eq_true,Bool.or_eq_true] at k;obtain⟨⟨⟨k1,k2⟩,k3⟩,k4⟩:=k;refine⟨Nat.le_of_ble_eq_true k1,k2.imp Nat.le_of_ble_eq_true Nat.le_of_ble_eq_true,?_,fun c hc e=>?_⟩
  ·have k3':Nat.ble lo b=Nat.ble lo (qaM ρ b):=by simpa using k3
   constructor
   ·intro h;exact Nat.le_of_ble_eq_true (by rw[← k3'];exact Nat.ble_eq_true_of_le h)
   ·intro h;exact Nat.le_of_ble_eq_true (by rw[k3'];exact Nat.ble_eq_true_of_le h)
  ·have k5:=List.all_eq_true.1 k4 c hc;simp only[Bool.or_eq_true,Bool.not_eq_true'] at k5
   rcases k5 with k5 | k5
   ·exact Nat.eq_of_beq_eq_true k5
   ·rw[e,Nat.beq_refl] at k5;cases k5
 refine⟨hfr,hid,fun b hb=>?_,fun b hb=>?_,fun b c hb hc e=>?_⟩
 ·rcases qcK hb with h | h
  ·omega
  ·exact (key b h).1
 ·rcases qcK hb with h | h
  ·rw[hid b h]
  ·exact (key b h).2.2.1
 ·rcases qcK hb with h | h<;>rcases qcK hc with h' | h'
  ·rw[hid b h,hid c h'] at e;exact e
  ·rw[hid b h] at e
   rcases (key c h').2.1 with g | g
   ·rw[hid c g] at e;exact e
   ·omega
  ·rw[hid c h'] at e
   rcases (key b h).2.1 with g | g
   ·rw[hid b g] at e;exact e
   ·omega
  ·exact (key b h).2.2.2 c h' e
def qhK (f:Nat→Nat) (β γ:Bl) (b:Nat):Prop:=(∀ r,β (f b)=some r→γ b=some r)∧∀ u,β.g (f b)=some u→γ.g b=some u
theorem S0.ren_is {f:Nat→Nat} {β γ:Bl} {s:S0} {x:Value} (h:∀ b∈s.nm,qhK f β γ b) (k:(s.ren f).is β x):s.is γ x:=by
 cases s with
 | pv y=>exact k
 | pp b o=>obtain⟨r,h1,h2⟩:=k;exact⟨r,(h b (by simp[S0.nm])).1 _ h1,h2⟩
 | ps b o l c=>obtain⟨r,h1,h2⟩:=k;exact⟨r,(h b (by simp[S0.nm])).1 _ h1,h2⟩
 | ls b l=>exact⟨(h b (by simp[S0.nm])).2 _ k.1,k.2⟩
 | lq b es kk l=>obtain⟨a,m,c,a',c',h1,h2⟩:=k;exact⟨a,m,c,a',c',(h b (by simp[S0.nm])).2 _ h1,h2⟩
 | lp b q=>obtain⟨r,o,m,c,h1,h2⟩:=k;exact⟨r,o,m,c,(h b (by simp[S0.nm])).2 _ h1,h2⟩
 | mp b=>obtain⟨r,h1,h2⟩:=k;exact⟨r,(h b (by simp[S0.nm])).1 _ h1,h2⟩
theorem S0.ren_isl {f:Nat→Nat} {β γ:Bl}:∀ {ss:List S0} {vs:List Value},(∀ b∈ss.flatMap S0.nm,qhK f β γ b)→S0.isl β (ss.map (S0.ren f)) vs→S0.isl γ ss vs
 | [],[],_,_=>trivial
 | [],_::_,_,k=>k.elim
 | _::_,[],_,k=>k.elim
 | _::_,_::_,h,k=>⟨S0.ren_is (fun b hb=>h b (by simp[List.flatMap_cons,hb])) k.1,S0.ren_isl (fun b hb=>h b (by rw[List.flatMap_cons];exact List.mem_append_right _ hb)) k.2⟩
theorem S1.ren_is {f:Nat→Nat} {β γ:Bl} {s:S1} {x:Value} (h:∀ b∈s.nm,qhK f β γ b) (k:(s.ren f).is β x):s.is γ x:=by
 cases s with
 | one s=>exact S0.ren_is h k
 | ag l=>obtain⟨vs,h1,h2⟩:=k;exact⟨vs,S0.ren_isl h h1,h2⟩
theorem S1.ren_isl {f:Nat→Nat} {β γ:Bl}:∀ {ss:List S1} {vs:List Value},(∀ b∈ss.flatMap S1.nm,qhK f β γ b)→S1.isl β (ss.map (S1.ren f)) vs→S1.isl γ ss vs
 | [],[],_,_=>trivial
 | [],_::_,_,k=>k.elim
 | _::_,[],_,k=>k.elim
 | _::_,_::_,h,k=>⟨S1.ren_is (fun b hb=>h b (by simp[List.flatMap_cons,hb])) k.1,S1.ren_isl (fun b hb=>h b (by rw[List.flatMap_cons];exact List.mem_append_right _ hb)) k.2⟩
theorem SV.ren_is {f:Nat→Nat} {β γ:Bl} {s:SV} {x:Value} (h:∀ b∈s.nm,qhK f β γ b) (k:(s.ren f).is β x):s.is γ x:=by
 cases s with
 | pv y=>exact k
 | pp b o=>exact S0.ren_is (s:=.pp b o) h k
 | ps b o l c=>exact S0.ren_is (s:=.ps b o l c) h k
 | ls b l=>exact S0.ren_is (s:=.ls b l) h k
 | lq b es kk l=>exact S0.ren_is (s:=.lq b es kk l) h k
 | lp b q=>exact S0.ren_is (s:=.lp b q) h k
 | mp b=>exact S0.ren_is (s:=.mp b) h k
 | pc g cap=>obtain⟨vs,h1,h2⟩:=k;exact⟨vs,S0.ren_isl h h1,h2⟩
 | ag l=>obtain⟨vs,h1,h2⟩:=k;exact⟨vs,S0.ren_isl h h1,h2⟩
 | tu l=>obtain⟨vs,h1,h2⟩:=k;exact⟨vs,S1.ren_isl h h1,h2⟩
 | any=>trivial
 | row e es n xs=>exact k
 | mrow xs=>exact k
theorem SV.ren_isl {f:Nat→Nat} {β γ:Bl}:∀ {ss:List SV} {vs:List Value},(∀ b∈ss.flatMap SV.nm,qhK f β γ b)→SV.isl β (ss.map (SV.ren f)) vs→SV.isl γ ss vs
 | [],[],_,_=>trivial
 | [],_::_,_,k=>k.elim
 | _::_,[],_,k=>k.elim
 | _::_,_::_,h,k=>⟨SV.ren_is (fun b hb=>h b (by simp[List.flatMap_cons,hb])) k.1,SV.ren_isl (fun b hb=>h b (by rw[List.flatMap_cons];exact List.mem_append_right _ hb)) k.2⟩
def qlU (f:Nat→Nat) (β γ:Bl) (b:Nat):Prop:=(∀ r,β b=some r→γ (f b)=some r)∧∀ u,β.g b=some u→γ.g (f b)=some u
theorem S0.to_is {f:Nat→Nat} {β γ:Bl} {s:S0} {x:Value} (h:∀ b∈s.nm,qlU f β γ b) (k:s.is β x):(s.ren f).is γ x:=by
 cases s with
 | pv y=>exact k
 | pp b o=>obtain⟨r,h1,h2⟩:=k;exact⟨r,(h b (by simp[S0.nm])).1 _ h1,h2⟩
 | ps b o l c=>obtain⟨r,h1,h2⟩:=k;exact⟨r,(h b (by simp[S0.nm])).1 _ h1,h2⟩
 | ls b l=>exact⟨(h b (by simp[S0.nm])).2 _ k.1,k.2⟩
 | lq b es kk l=>obtain⟨a,m,c,a',c',h1,h2⟩:=k;exact⟨a,m,c,a',c',(h b (by simp[S0.nm])).2 _ h1,h2⟩
 | lp b q=>obtain⟨r,o,m,c,h1,h2⟩:=k;exact⟨r,o,m,c,(h b (by simp[S0.nm])).2 _ h1,h2⟩
 | mp b=>obtain⟨r,h1,h2⟩:=k;exact⟨r,(h b (by simp[S0.nm])).1 _ h1,h2⟩
theorem S0.to_isl {f:Nat→Nat} {β γ:Bl}:∀ {ss:List S0} {vs:List Value},(∀ b∈ss.flatMap S0.nm,qlU f β γ b)→S0.isl β ss vs→S0.isl γ (ss.map (S0.ren f)) vs
 | [],[],_,_=>trivial
 | [],_::_,_,k=>k.elim
 | _::_,[],_,k=>k.elim
 | _::_,_::_,h,k=>⟨S0.to_is (fun b hb=>h b (by simp[List.flatMap_cons,hb])) k.1,S0.to_isl (fun b hb=>h b (by rw[List.flatMap_cons];exact List.mem_append_right _ hb)) k.2⟩
theorem S1.to_is {f:Nat→Nat} {β γ:Bl} {s:S1} {x:Value} (h:∀ b∈s.nm,qlU f β γ b) (k:s.is β x):(s.ren f).is γ x:=by
 cases s with
 | one s=>exact S0.to_is h k
 | ag l=>obtain⟨vs,h1,h2⟩:=k;exact⟨vs,S0.to_isl h h1,h2⟩
theorem S1.to_isl {f:Nat→Nat} {β γ:Bl}:∀ {ss:List S1} {vs:List Value},(∀ b∈ss.flatMap S1.nm,qlU f β γ b)→S1.isl β ss vs→S1.isl γ (ss.map (S1.ren f)) vs
 | [],[],_,_=>trivial
 | [],_::_,_,k=>k.elim
 | _::_,[],_,k=>k.elim
 | _::_,_::_,h,k=>⟨S1.to_is (fun b hb=>h b (by simp[List.flatMap_cons,hb])) k.1,S1.to_isl (fun b hb=>h b (by rw[List.flatMap_cons];exact List.mem_append_right _ hb)) k.2⟩
theorem SV.to_is {f:Nat→Nat} {β γ:Bl} {s:SV} {x:Value} (h:∀ b∈s.nm,qlU f β γ b) (k:s.is β x):(s.ren f).is γ x:=by
 cases s with
 | pv y=>exact k
 | pp b o=>exact S0.to_is (s:=.pp b o) h k
 | ps b o l c=>exact S0.to_is (s:=.ps b o l c) h k
 | ls b l=>exact S0.to_is (s:=.ls b l) h k
 | lq b es kk l=>exact S0.to_is (s:=.lq b es kk l) h k
 | lp b q=>exact S0.to_is (s:=.lp b q) h k
 | mp b=>exact S0.to_is (s:=.mp b) h k
 | pc g cap=>obtain⟨vs,h1,h2⟩:=k;exact⟨vs,S0.to_isl h h1,h2⟩
 | ag l=>obtain⟨vs,h1,h2⟩:=k;exact⟨vs,S0.to_isl h h1,h2⟩
 | tu l=>obtain⟨vs,h1,h2⟩:=k;exact⟨vs,S1.to_isl h h1,h2⟩
 | any=>trivial
 | row e es n xs=>exact k
 | mrow xs=>exact k
theorem SV.ren_row {f:Nat→Nat} (s:SV):(s.ren f).isRow=s.isRow:=by cases s<;>rfl
theorem SV.ren_eq_row {f:Nat→Nat} {s:SV} {e:TypeId} {es n:Nat} {xs:List Value} (h:s.ren f=.row e es n xs):s=.row e es n xs:=by cases s<;>simp[SV.ren] at h ⊢<;>exact h
theorem SV.ren_eq_mrow {f:Nat→Nat} {s:SV} {xs:List Value} (h:s.ren f=.mrow xs):s=.mrow xs:=by cases s<;>simp[SV.ren] at h ⊢<;>exact h
theorem Bl.ren_at {β:Bl} {fr:Nat} {N:List Nat} {f:Nat→Nat} {b:Nat} (h:qbP fr N b=true):qhK f β (β.ren fr N f) b:=
 ⟨fun r e=>by unfold Bl.ren;simp only[h,cond_true];exact e,fun u e=>by unfold Bl.ren;simp only[h,cond_true];exact e⟩
theorem Bl.ren_f {β:Bl} {fr:Nat} {N:List Nat} {f:Nat→Nat} {b r:Nat} (h:(β.ren fr N f) b=some r):qbP fr N b=true∧β (f b)=some r:=by
 unfold Bl.ren at h;simp only at h;cases hk:qbP fr N b
 ·rw[hk] at h;cases h
 ·rw[hk] at h;exact⟨rfl,h⟩
theorem Bl.ren_g {β:Bl} {fr:Nat} {N:List Nat} {f:Nat→Nat} {b:Nat} {u:Value} (h:(β.ren fr N f).g b=some u):qbP fr N b=true∧β.g (f b)=some u:=by
 unfold Bl.ren at h;simp only at h;cases hk:qbP fr N b
 ·rw[hk] at h;cases h
 ·rw[hk] at h;exact⟨rfl,h⟩
theorem Bl.ren_leU {β:Bl} {lo fr nb:Nat} {N:List Nat} {f:Nat→Nat} (h:OkRen lo fr nb N f):β.leU fr (β.ren fr N f):=by
 intro b hb _
 have hk:qbP fr N b=true:=by unfold qbP;rw[Nat.ble_eq_true_of_le (show b+1≤fr from hb)];rfl
 unfold Bl.ren;simp only[hk,cond_true,h.hid b hb]
 first | exact⟨trivial,trivial⟩ | exact⟨rfl,rfl⟩
theorem Bl.ren_dom {β:Bl} {lo fr nb:Nat} {N:List Nat} {f:Nat→Nat} (h:OkRen lo fr nb N f):(β.ren fr N f).dom nb:=by
 intro b hb
 have hk:qbP fr N b=false:=by
  cases e:qbP fr N b
  ·rfl
  ·have:=h.hlt b e;omega
 unfold Bl.ren;simp only[hk,cond_false];exact⟨trivial,trivial⟩
theorem HRel.ren {W0:World} {lo fr nb:Nat} {β:Bl} {st:St} {w:World} {N:List Nat} {f:Nat→Nat} {hp1:List (Nat×Nat×SV)} (H:HRel W0 lo β st.hp w) (ok:OkRen lo fr nb N f) (hk:∀ e∈hp1,e.1∈N∧∀ b∈e.2.2.nm,b∈N) (hh:qba (eqH f st hp1)) :
 HRel W0 lo (β.ren fr N f) hp1 w:=by
 have kN:∀ {b},b∈N→qbP fr N b=true:=fun {b} h=>by unfold qbP;rw[qdV.2 h,Bool.or_true]
 have get:∀ {b o sv},qaj hp1 b o=some sv→qbP fr N b=true∧(∀ c∈sv.nm,qbP fr N c=true)∧qaj st.hp (f b) o=some (sv.ren f):=fun {b o sv} h=>by
  have hm:=qbh h;obtain⟨h1,h2⟩:=hk _ hm;exact⟨kN h1,fun c hc=>kN (h2 c hc),qda hh _ hm⟩
 refine⟨H.gr,fun b r e=>H.live _ r (Bl.ren_f e).2,fun b c r e1 e2=>?_,fun b r hb e=>?_,fun b r e=>?_,fun b o sv hc hs=>?_,fun b o e es n xs hc=>?_,fun b o e es n xs c o' e' es' n' xs' u v f1 f2 f3 f4 f5 f6 f7=>?_,fun b o xs hc=>?_⟩
 ·obtain⟨a1,a2⟩:=Bl.ren_f e1;obtain⟨b1,b2⟩:=Bl.ren_f e2;exact ok.hinj b c a1 b1 (H.inj _ _ r a2 b2)
 ·obtain⟨a1,a2⟩:=Bl.ren_f e;exact H.new _ r ((ok.hlo b a1).1 hb) a2
 ·obtain⟨a1,a2⟩:=Bl.ren_f e;unfold Bl.ren;simp only[a1,cond_true];exact H.sep _ r a2
 ·obtain⟨g1,g2,g3⟩:=get hc;obtain⟨r,u,a1,a2,a3⟩:=H.cells _ _ _ g3 (by rw[SV.ren_row];exact hs);exact⟨r,u,(Bl.ren_at g1).1 r a1,SV.ren_is (fun c hc=>Bl.ren_at (g2 c hc)) a2,a3⟩
 ·obtain⟨g1,g2,g3⟩:=get hc;obtain⟨u,a1,a2⟩:=H.rows _ _ _ _ _ _ g3;refine⟨u,(Bl.ren_at g1).2 u a1,a2.rd,a2.one,fun hb=>a2.low ?_,fun hb=>a2.own ((ok.hlo b g1).1 hb),fun hb c r e hk'=>a2.apart ((ok.hlo b g1).1 hb) _ r (Bl.ren_f e).2 hk'⟩;have:=ok.hlo b g1;omega
 ·obtain⟨g1,_,g3⟩:=get f1;obtain⟨k1,_,k3⟩:=get f2;exact H.rinj _ _ _ _ _ _ _ _ _ _ _ _ u v g3 k3 ((ok.hlo b g1).1 f3) ((ok.hlo c k1).1 f4) (fun e=>f5 (ok.hinj b c g1 k1 e)) (Bl.ren_g f6).2 (Bl.ren_g f7).2
 ·obtain⟨g1,_,g3⟩:=get hc;obtain⟨r,a1,a2⟩:=H.maps _ _ _ g3;exact⟨r,(Bl.ren_at g1).1 r a1,a2⟩
end Go.Proofs.YtkckcgpmnipnaaaGreat

namespace Go.Proofs.YtkckcgpmnipnaaaGreat
set_option maxRecDepth 100000
open Go.RowKit
theorem S0.own_nm {n:Nat} {s:S0} (h:s.own n=true):∀ b∈s.nm,b<n:=by
 intro b hb
 cases s<;>simp only[S0.nm,List.mem_cons,List.not_mem_nil,or_false] at hb<;>(try cases hb)<;>exact Nat.le_of_ble_eq_true h
theorem S0.own_nml {n:Nat} {l:List S0} (h:l.all (S0.own n)=true):∀ b∈l.flatMap S0.nm,b<n:=by
 intro b hb;obtain⟨s,hs,hb⟩:=List.mem_flatMap.1 hb;exact S0.own_nm (List.all_eq_true.1 h s hs) b hb
theorem S1.own_nm {n:Nat} {s:S1} (h:s.own n=true):∀ b∈s.nm,b<n:=by
 cases s with
 | one s=>exact S0.own_nm h
 | ag l=>exact S0.own_nml h
theorem SV.own_nm {n:Nat} {s:SV} (h:s.own n=true):∀ b∈s.nm,b<n:=by
 cases s with
 | pv x=>intro b hb;cases hb
 | pp b o=>exact S0.own_nm (s:=.pp b o) h
 | ps b o l c=>exact S0.own_nm (s:=.ps b o l c) h
 | ls b l=>exact S0.own_nm (s:=.ls b l) h
 | lq b es k l=>exact S0.own_nm (s:=.lq b es k l) h
 | lp b q=>exact S0.own_nm (s:=.lp b q) h
 | mp b=>exact S0.own_nm (s:=.mp b) h
 | pc g cap=>exact S0.own_nml h
 | ag l=>exact S0.own_nml h
 | tu l=>
  intro b hb;obtain⟨s,hs,hb⟩:=List.mem_flatMap.1 hb;exact S1.own_nm (List.all_eq_true.1 h s hs) b hb
 | any=>intro b hb;cases hb
 | row e es m xs=>intro b hb;cases hb
 | mrow xs=>intro b hb;cases hb
theorem qdr:∀ {l:List Nat},qls l=true→∀ (i j a:Nat),l[i]?=some a→l[j]?=some a→i=j
 | [],_,i,j,a,h,_=>by simp at h
 | x::r,h,i,j,a,h1,h2=>by
  simp only[qls,Bool.and_eq_true,Bool.not_eq_true'] at h
  have hx:∀ k,r[k]?=some x→False:=fun k hk=>by
   rw[qdV.2 (List.mem_of_getElem? hk)] at h;cases h.1
  cases i with
  | zero=>
   cases j with
   | zero=>rfl
   | succ j=>simp at h1 h2;subst h1;exact (hx j h2).elim
  | succ i=>
   cases j with
   | zero=>simp at h1 h2;subst h2;exact (hx i h1).elim
   | succ j=>simp at h1 h2;rw[qdr h.2 i j a h1 h2]
theorem qoO {σ:List Nat} {nb j:Nat} (hj:j<σ.length):σ[j]?=some (qca σ nb j):=by
 unfold qca;rw[List.getElem?_eq_getElem hj]
theorem qoZ {σ:List Nat} {nb j:Nat} (hj:σ.length≤j):qca σ nb j=nb+(j-σ.length):=by
 unfold qca;rw[List.getElem?_eq_none hj]
theorem qgQ {f:Nat→Nat} {K:Nat→Prop} (hi:∀ b c,K b→K c→f b=f c→b=c):∀ {hp:List (Nat×Nat×SV)},(∀ e∈hp,K e.1)→∀ {b o:Nat} {s:SV},qaj (qzw f hp) b o=some s→∃ j t,K j∧f j=b∧qaj hp j o=some t∧s=t.ren f
 | [],_,b,o,s,h=>by cases h
 | (c,k,x)::r,hK,b,o,s,h=>by
  unfold qzw at h;rw[List.map_cons,qao] at h;split at h
  ·rename_i e;simp only at e;cases h;exact⟨c,x,hK (c,k,x) (by simp),e.1,by rw[qao,if_pos ⟨rfl,e.2⟩],rfl⟩
  ·rename_i e;obtain⟨j,t,h1,h2,h3,h4⟩:=qgQ hi (hp:=r) (fun e he=>hK e (by simp[he])) h;refine⟨j,t,h1,h2,?_,h4⟩;rw[qao,if_neg fun e2=>e ⟨?_,e2.2⟩]
   ·exact h3
   ·simp only;rw[e2.1];exact h2
theorem qxG {lo:Nat} {st:St} {σ:List Nat} {args0 args:List SV} {pre post:List (Nat×Nat×SV)} {x:SV} {m:Nat} (hok:okF st.nb σ args0 pre x m post=true)
 (ha:args0.map (SV.ren (qca σ st.nb))=args) (hp:qba (eqH (qca σ st.nb) st pre)) {W0:World} {β:Bl} {us:List Value} {w:World} (H:HRel W0 lo β st.hp w) (hu:SV.isl β args us) :
 ∃ β0:Bl,HRel w σ.length β0 pre w∧β0.dom σ.length∧SV.isl β0 args0 us∧∀ j,j<σ.length→β0 j=β (qca σ st.nb j)∧β0.g j=β.g (qca σ st.nb j):=by
 unfold okF at hok;simp only[Bool.and_eq_true] at hok;obtain⟨⟨⟨⟨⟨⟨⟨c1,c2⟩,c3⟩,c4⟩,c5⟩,c6⟩,c7⟩,c8⟩:=hok;generalize hf0:qca σ st.nb=f0 at *;generalize hk:σ.length=k at *
 have flt:∀ j,j<k→σ[j]?=some (f0 j)∧f0 j<st.nb:=by
  intro j hj
  have h1:σ[j]?=some (f0 j):=by rw[← hf0];exact qoO (by omega)
  exact⟨h1,Nat.le_of_ble_eq_true (List.all_eq_true.1 c2 _ (List.mem_of_getElem? h1))⟩
 have fge:∀ j,k≤j→f0 j=st.nb+(j-k):=by
  intro j hj;rw[← hf0,← hk];exact qoZ (by omega)
 have finj:∀ b c,b<k→c<k→f0 b=f0 c→b=c:=fun b c hb hc e=>qdr c1 b c (f0 b) (flt b hb).1 (by rw[e];exact (flt c hc).1)
 let β0:Bl:=⟨fun j=>if j<k then β (f0 j) else none,fun j=>if j<k then β.g (f0 j) else none⟩
 have b0f:∀ {j r},β0 j=some r→j<k∧β (f0 j)=some r:=fun {j r} e=>by
  have e':(if j<k then β (f0 j) else none)=some r:=e;split at e'
  ·exact⟨by assumption,e'⟩
  ·cases e'
 have b0g:∀ {j u},β0.g j=some u→j<k∧β.g (f0 j)=some u:=fun {j u} e=>by
  have e':(if j<k then β.g (f0 j) else none)=some u:=e;split at e'
  ·exact⟨by assumption,e'⟩
  ·cases e'
 have f0at:∀ j,j<k→qhK f0 β β0 j:=fun j hj=>⟨fun r e=>by show (if j<k then β (f0 j) else none)=_;rw[if_pos hj];exact e,fun u e=>by show (if j<k then β.g (f0 j) else none)=_;rw[if_pos hj];exact e⟩
 have d0:β0.dom k:=fun j hj=>⟨if_neg (by omega),if_neg (by omega)⟩
 have ent:∀ {b o sv},qaj pre b o=some sv→b<k∧(∀ c∈sv.nm,c<k)∧qaj st.hp (f0 b) o=some (sv.ren f0):=fun {b o sv} h=>by
  have hm:=qbh h;have h1:=List.all_eq_true.1 c4 _ hm;simp only[Bool.and_eq_true] at h1;exact⟨Nat.le_of_ble_eq_true h1.1,SV.own_nm h1.2,qda hp _ hm⟩
 have H0:HRel w k β0 pre w:=by
  refine⟨Gr.refl w,fun b r e=>H.live _ r (b0f e).2,fun b c r e1 e2=>finj b c (b0f e1).1 (b0f e2).1 (H.inj _ _ r (b0f e1).2 (b0f e2).2),fun b r hb e=>by have:=(b0f e).1;omega,fun b r e=>?_,fun b o sv hc hs=>?_,fun b o e es n xs hc=>?_,fun b o e es n xs c o' e' es' n' xs' u v f1 f2 f3=>(by have:=(ent f1).1;omega),fun b o xs hc=>?_⟩
  ·obtain⟨e1,e2⟩:=b0f e
   show (if b<k then β.g (f0 b) else none)=none
   rw[if_pos e1];exact H.sep _ r e2
  ·obtain⟨g1,g2,g3⟩:=ent hc;obtain⟨r,u,a1,a2,a3⟩:=H.cells _ _ _ g3 (by rw[SV.ren_row];exact hs);exact⟨r,u,(f0at b g1).1 r a1,SV.ren_is (fun c hc=>f0at c (g2 c hc)) a2,a3⟩
  ·obtain⟨g1,g2,g3⟩:=ent hc;obtain⟨u,a1,a2⟩:=H.rows _ _ _ _ _ _ g3;exact⟨u,(f0at b g1).2 u a1,a2.rd,a2.one,fun _ hx j hj=>a2.rd.lt hx j hj,fun hb=>by omega,fun hb=>by omega⟩
  ·obtain⟨g1,g2,g3⟩:=ent hc;obtain⟨r,a1,a2⟩:=H.maps _ _ _ g3;exact⟨r,(f0at b g1).1 r a1,a2⟩
 have hu0:SV.isl β0 args0 us:=by
  rw[← ha] at hu;refine SV.ren_isl (fun b hb=>f0at b ?_) hu;obtain⟨s,hs,hb⟩:=List.mem_flatMap.1 hb;exact SV.own_nm (List.all_eq_true.1 c3 s hs) b hb
 exact⟨β0,H0,d0,hu0,fun j hj=>⟨by show (if j<k then β (f0 j) else none)=_;rw[if_pos hj],by show (if j<k then β.g (f0 j) else none)=_;rw[if_pos hj]⟩⟩
theorem qrH {P:Program} {f:FuncId} {lo:Nat} {st:St} {σ:List Nat} {args0 args:List SV} {pre post:List (Nat×Nat×SV)} {x:SV} {m:Nat} (hok:okF st.nb σ args0 pre x m post=true) (hF:FnL P f σ.length args0 pre x m post)
 (ha:args0.map (SV.ren (qca σ st.nb))=args) (hp:qba (eqH (qca σ st.nb) st pre)) {W0:World} {β:Bl} {us:List Value} {w:World} (H:HRel W0 lo β st.hp w) (hd:β.dom st.nb) (hlo:lo≤st.nb) (hu:SV.isl β args us) :
 Calls P f us.toArray w fun e w'=>∃ v β',e=.returned v∧β.le β'∧(x.ren (qca σ st.nb)).is β' v∧HRel W0 lo β' (qzw (qca σ st.nb) post++st.hp) w'∧β'.dom (st.nb+m)∧lo≤st.nb+m:=by
 unfold okF at hok;simp only[Bool.and_eq_true] at hok;obtain⟨⟨⟨⟨⟨⟨⟨c1,c2⟩,c3⟩,c4⟩,c5⟩,c6⟩,c7⟩,c8⟩:=hok;generalize hf0:qca σ st.nb=f0 at *;generalize hk:σ.length=k at *
 have flt:∀ j,j<k→σ[j]?=some (f0 j)∧f0 j<st.nb:=by
  intro j hj
  have h1:σ[j]?=some (f0 j):=by rw[← hf0];exact qoO (by omega)
  exact⟨h1,Nat.le_of_ble_eq_true (List.all_eq_true.1 c2 _ (List.mem_of_getElem? h1))⟩
 have fge:∀ j,k≤j→f0 j=st.nb+(j-k):=by
  intro j hj;rw[← hf0,← hk];exact qoZ (by omega)
 have finj:∀ b c,b<k→c<k→f0 b=f0 c→b=c:=fun b c hb hc e=>qdr c1 b c (f0 b) (flt b hb).1 (by rw[e];exact (flt c hc).1)
 let β0:Bl:=⟨fun j=>if j<k then β (f0 j) else none,fun j=>if j<k then β.g (f0 j) else none⟩
 have b0f:∀ {j r},β0 j=some r→j<k∧β (f0 j)=some r:=fun {j r} e=>by
  have e':(if j<k then β (f0 j) else none)=some r:=e;split at e'
  ·exact⟨by assumption,e'⟩
  ·cases e'
 have b0g:∀ {j u},β0.g j=some u→j<k∧β.g (f0 j)=some u:=fun {j u} e=>by
  have e':(if j<k then β.g (f0 j) else none)=some u:=e;split at e'
  ·exact⟨by assumption,e'⟩
  ·cases e'
 have f0at:∀ j,j<k→qhK f0 β β0 j:=fun j hj=>⟨fun r e=>by show (if j<k then β (f0 j) else none)=_;rw[if_pos hj];exact e,fun u e=>by show (if j<k then β.g (f0 j) else none)=_;rw[if_pos hj];exact e⟩
 have d0:β0.dom k:=fun j hj=>⟨if_neg (by omega),if_neg (by omega)⟩
 have ent:∀ {b o sv},qaj pre b o=some sv→b<k∧(∀ c∈sv.nm,c<k)∧qaj st.hp (f0 b) o=some (sv.ren f0):=fun {b o sv} h=>by
  have hm:=qbh h;have h1:=List.all_eq_true.1 c4 _ hm;simp only[Bool.and_eq_true] at h1;exact⟨Nat.le_of_ble_eq_true h1.1,SV.own_nm h1.2,qda hp _ hm⟩
 have H0:HRel w k β0 pre w:=by
  refine⟨Gr.refl w,fun b r e=>H.live _ r (b0f e).2,fun b c r e1 e2=>finj b c (b0f e1).1 (b0f e2).1 (H.inj _ _ r (b0f e1).2 (b0f e2).2),fun b r hb e=>by have:=(b0f e).1;omega,fun b r e=>?_,fun b o sv hc hs=>?_,fun b o e es n xs hc=>?_,fun b o e es n xs c o' e' es' n' xs' u v f1 f2 f3=>(by have:=(ent f1).1;omega),fun b o xs hc=>?_⟩
  ·obtain⟨e1,e2⟩:=b0f e
   show (if b<k then β.g (f0 b) else none)=none
   rw[if_pos e1];exact H.sep _ r e2
  ·obtain⟨g1,g2,g3⟩:=ent hc;obtain⟨r,u,a1,a2,a3⟩:=H.cells _ _ _ g3 (by rw[SV.ren_row];exact hs);exact⟨r,u,(f0at b g1).1 r a1,SV.ren_is (fun c hc=>f0at c (g2 c hc)) a2,a3⟩
  ·obtain⟨g1,g2,g3⟩:=ent hc;obtain⟨u,a1,a2⟩:=H.rows _ _ _ _ _ _ g3;exact⟨u,(f0at b g1).2 u a1,a2.rd,a2.one,fun _ hx j hj=>a2.rd.lt hx j hj,fun hb=>by omega,fun hb=>by omega⟩
  ·obtain⟨g1,g2,g3⟩:=ent hc;obtain⟨r,a1,a2⟩:=H.maps _ _ _ g3;exact⟨r,(f0at b g1).1 r a1,a2⟩
 have hu0:SV.isl β0 args0 us:=by
  rw[← ha] at hu;refine SV.ren_isl (fun b hb=>f0at b ?_) hu;obtain⟨s,hs,hb⟩:=List.mem_flatMap.1 hb;exact SV.own_nm (List.all_eq_true.1 c3 s hs) b hb
 refine (hF w β0 us H0 d0 hu0).mono fun e w' hh=>?_
 obtain⟨v,γ,rfl,hle,hx,H',hdγ⟩:=hh
 have hdef:∀ j,j<k→γ j=β (f0 j)∧γ.g j=β.g (f0 j):=by
  intro j hj;have hkey:=List.all_eq_true.1 c5 j (List.mem_range.2 hj)
  have hd':β0 j≠none∨β0.g j≠none:=by
   obtain⟨e,he,hje⟩:=List.any_eq_true.1 hkey;have hje:=Nat.eq_of_beq_eq_true hje;obtain⟨b,o,sv⟩:=e;simp only at hje;subst hje
   have hex:∃ sv',qaj pre b o=some sv':=by
    clear hp H0 hF hu0 c4 c5 hkey ent hle hx H'
    induction pre with
    | nil=>cases he
    | cons z r ih=>
     obtain⟨c,q,y⟩:=z;rw[qao];by_cases e1:c=b∧q=o
     ·rw[if_pos e1];exact⟨y,rfl⟩
     ·rw[if_neg e1]
      rcases List.mem_cons.1 he with he | he
      ·cases he;exact (e1 ⟨rfl,rfl⟩).elim
      ·exact ih he
   obtain⟨sv',hsv⟩:=hex;by_cases hr:sv'.isRow=true
   ·cases sv'<;>try cases hr
    ·obtain⟨u,a1,_⟩:=H0.rows _ _ _ _ _ _ hsv;exact Or.inr (by rw[a1];simp)
    ·obtain⟨u,a1,_⟩:=H0.maps _ _ _ hsv;exact Or.inl (by rw[a1];simp)
   ·obtain⟨r,u,a1,_⟩:=H0.cells _ _ _ hsv (by simpa using hr);exact Or.inl (by rw[a1];simp)
  obtain⟨h1,h2⟩:=hle j hd';refine⟨h1.trans ?_,h2.trans ?_⟩
  ·show (if j<k then β (f0 j) else none)=_;rw[if_pos hj]
  ·show (if j<k then β.g (f0 j) else none)=_;rw[if_pos hj]
 let β':Bl:=⟨fun b=>if st.nb≤b then γ (b-st.nb+k) else β b,fun b=>if st.nb≤b then γ.g (b-st.nb+k) else β.g b⟩
 have bnew:∀ {b r},st.nb≤b→β' b=some r→γ (b-st.nb+k)=some r:=fun {b r} hb e=>by
  have e':(if st.nb≤b then γ (b-st.nb+k) else β b)=some r:=e;rw[if_pos hb] at e';exact e'
 have bold:∀ {b},b<st.nb→β' b=β b∧β'.g b=β.g b:=fun {b} hb=>⟨if_neg (by omega),if_neg (by omega)⟩
 have gnew:∀ {b u},st.nb≤b→β'.g b=some u→γ.g (b-st.nb+k)=some u:=fun {b u} hb e=>by
  have e':(if st.nb≤b then γ.g (b-st.nb+k) else β.g b)=some u:=e;rw[if_pos hb] at e';exact e'
 have hto:∀ j,j<k+m→qlU f0 γ β' j:=by
  intro j hj;by_cases hjk:j<k
  ·obtain⟨h1,h2⟩:=hdef j hjk;obtain⟨o1,o2⟩:=bold (flt j hjk).2;exact⟨fun r e=>by rw[o1,← h1];exact e,fun u e=>by rw[o2,← h2];exact e⟩
  ·have hf:=fge j (by omega)
   have hj':f0 j-st.nb+k=j:=by omega
   refine⟨fun r e=>?_,fun u e=>?_⟩
   ·show (if st.nb≤f0 j then γ (f0 j-st.nb+k) else β (f0 j))=_
    rw[if_pos (by omega),hj'];exact e
   ·show (if st.nb≤f0 j then γ.g (f0 j-st.nb+k) else β.g (f0 j))=_
    rw[if_pos (by omega),hj'];exact e
 have hle':β.le β':=fun b e=>by
  have hb:b<st.nb:=by
   rcases Nat.lt_or_ge b st.nb with h | h
   ·exact h
   ·obtain⟨h1,h2⟩:=hd b h
    rcases e with e | e
    ·exact (e h1).elim
    ·exact (e h2).elim
  exact bold hb
 have hg:=H'.gr;have HG:=H.gr_mono hg
 have entp:∀ {b o s},qaj (qzw f0 post++st.hp) b o=some s→(∃ j t,k≤j∧j<k+m∧f0 j=b∧qaj post j o=some t∧s=t.ren f0∧(∀ c∈t.nm,c<k+m))∨(qaj st.hp b o=some s):=by
  intro b o s h;rw[qcl] at h
  cases e:qaj (qzw f0 post) b o with
  | none=>rw[e] at h;exact Or.inr (by simpa using h)
  | some y=>
   rw[e] at h
   have:y=s:=by simpa using h
   subst this;obtain⟨j,t,h1,h2,h3,h4⟩:=qgQ (f:=f0) (K:=fun j=>k≤j) (fun b c hb hc e=>by rw[fge b hb,fge c hc] at e;omega) (fun e he=>Nat.le_of_ble_eq_true (List.all_eq_true.1 c8 e he)) e;have hm:=List.all_eq_true.1 c7 _ (qbh h3);simp only[Bool.and_eq_true] at hm;exact Or.inl ⟨j,t,h1,Nat.le_of_ble_eq_true hm.1,h2,h3,h4,SV.own_nm hm.2⟩
 have oldname:∀ {b o s},qaj st.hp b o=some s→b<st.nb:=by
  intro b o s h
  rcases Nat.lt_or_ge b st.nb with h' | h'
  ·exact h'
  ·obtain⟨h1,h2⟩:=hd b h';by_cases hr:s.isRow=true
   ·cases s<;>try cases hr
    ·obtain⟨u,a1,_⟩:=H.rows _ _ _ _ _ _ h;rw[h2] at a1;cases a1
    ·obtain⟨u,a1,_⟩:=H.maps _ _ _ h;rw[h1] at a1;cases a1
   ·obtain⟨r,u,a1,_⟩:=H.cells _ _ _ h (by simpa using hr);rw[h1] at a1;cases a1
 have newblk:∀ {b r},st.nb≤b→β' b=some r→w.heap.size≤r:=fun {b r} hb e=>H'.new _ r (by omega) (bnew hb e)
 have ownsmono:∀ {u e es n xs},w'.ownsRow w.heap.size e es u n xs→w'.ownsRow W0.heap.size e es u n xs:=by
  intro u e es n xs h;refine⟨h.1,?_⟩
  rcases h.2 with h2 | ⟨g,cap,cur,h3,h4,h5⟩
  ·exact Or.inl h2
  ·exact Or.inr ⟨g,cap,cur,h3,Nat.le_trans H.gr.size h4,h5⟩
 refine⟨v,β',rfl,hle',SV.to_is (fun c hc=>hto c (SV.own_nm c6 c hc)) hx,?_,fun b hb=>?_,by omega⟩
 ·refine⟨H.gr.trans hg,fun b r e=>?_,fun b c r e1 e2=>?_,fun b r hb e=>?_,fun b r e=>?_,fun b o sv hc hs=>?_,fun b o e es n xs hc=>?_,fun b o e es n xs c o' e' es' n' xs' u v f1 f2 f3 f4 f5 f6 f7 j hj=>?_,fun b o xs hc=>?_⟩
  ·by_cases hb:st.nb≤b
   ·exact H'.live _ r (bnew hb e)
   ·rw[(bold (by omega)).1] at e;exact HG.live _ r e
  ·by_cases hb:st.nb≤b<;>by_cases hc:st.nb≤c
   ·have:=H'.inj _ _ r (bnew hb e1) (bnew hc e2);omega
   ·have h1:=newblk hb e1;rw[(bold (by omega)).1] at e2;have:=H.live _ r e2;omega
   ·have h1:=newblk hc e2;rw[(bold (by omega)).1] at e1;have:=H.live _ r e1;omega
   ·rw[(bold (by omega)).1] at e1 e2;exact H.inj _ _ r e1 e2
  ·by_cases hb':st.nb≤b
   ·exact Nat.le_trans H.gr.size (newblk hb' e)
   ·rw[(bold (by omega)).1] at e;exact H.new _ r hb e
  ·by_cases hb':st.nb≤b
   ·show (if st.nb≤b then γ.g (b-st.nb+k) else β.g b)=none
    rw[if_pos hb'];exact H'.sep _ r (bnew hb' e)
   ·rw[(bold (by omega)).1] at e;rw[(bold (by omega)).2];exact H.sep _ r e
  ·rcases entp hc with ⟨j,t,h1,h2,rfl,h3,rfl,h4⟩ | h3
   ·obtain⟨r,u,a1,a2,a3⟩:=H'.cells _ _ _ h3 (by rw[SV.ren_row] at hs;exact hs);exact⟨r,u,(hto j h2).1 r a1,SV.to_is (fun c hc=>hto c (h4 c hc)) a2,a3⟩
   ·obtain⟨r,u,a1,a2,a3⟩:=HG.cells _ _ _ h3 hs;exact⟨r,u,hle'.f a1,SV.is_mono hle' a2,a3⟩
  ·rcases entp hc with ⟨j,t,h1,h2,rfl,h3,h5,h4⟩ | h3
   ·have ht:=SV.ren_eq_row h5.symm;subst ht;obtain⟨u,a1,a2⟩:=H'.rows _ _ _ _ _ _ h3;have hj:=fge j h1;refine⟨u,(hto j h2).2 u a1,a2.rd,a2.one,fun hb=>by omega,fun _=>ownsmono (a2.own h1),fun _ c r e1 hk'=>?_⟩;by_cases hc':st.nb≤c
    ·exact a2.apart h1 _ r (bnew hc' e1) hk'
    ·rw[(bold (by omega)).1] at e1;have h6:=H.live _ r e1;have:=(qay (a2.own h1) r hk').1;omega
   ·obtain⟨u,a1,a2⟩:=H.rows _ _ _ _ _ _ h3;have a3:=a2.gr_mono hg;refine⟨u,hle'.g a1,a3.rd,a3.one,a3.low,a3.own,fun hb c r e1 hk'=>?_⟩;by_cases hc':st.nb≤c
    ·have h6:=newblk hc' e1;have:=(qay (a2.own hb) r hk').2;omega
    ·rw[(bold (by omega)).1] at e1;exact a2.apart hb c r e1 hk'
  ·rcases entp f1 with ⟨i1,t1,h1,h2,rfl,h3,h5,_⟩ | h3
   ·have ht:=SV.ren_eq_row h5.symm;subst ht;obtain⟨u',a1,a2⟩:=H'.rows _ _ _ _ _ _ h3;have hi1:=fge i1 h1
    have hu':u'=u:=by
     have:=(hto i1 h2).2 u' a1;rw[f6] at this;cases this;rfl
    subst hu';have hjg:=(qay (a2.own h1) j hj).1
    rcases entp f2 with ⟨i2,t2,k1,k2,rfl,k3,k5,_⟩ | k3
    ·have ht:=SV.ren_eq_row k5.symm;subst ht;obtain⟨v',d1,d2⟩:=H'.rows _ _ _ _ _ _ k3;have hi2:=fge i2 k1
     have hv':v'=v:=by
      have:=(hto i2 k2).2 v' d1;rw[f7] at this;cases this;rfl
     subst hv';exact H'.rinj _ _ _ _ _ _ _ _ _ _ _ _ _ _ h3 k3 h1 k1 (fun e=>f5 (by rw[e])) a1 d1 j hj
    ·obtain⟨v',d1,d2⟩:=H.rows _ _ _ _ _ _ k3
     have hv':v'=v:=by
      have:=hle'.g d1;rw[f7] at this;cases this;rfl
     subst hv';intro hjv;have:=(qay (d2.own f4) j hjv).2;omega
   ·obtain⟨u',a1,a2⟩:=H.rows _ _ _ _ _ _ h3
    have hu':u'=u:=by
     have:=hle'.g a1;rw[f6] at this;cases this;rfl
    subst hu';have hjl:=(qay (a2.own f3) j hj).2
    rcases entp f2 with ⟨i2,t2,k1,k2,rfl,k3,k5,_⟩ | k3
    ·have ht:=SV.ren_eq_row k5.symm;subst ht;obtain⟨v',d1,d2⟩:=H'.rows _ _ _ _ _ _ k3
     have hv':v'=v:=by
      have:=(hto i2 k2).2 v' d1;rw[f7] at this;cases this;rfl
     subst hv';intro hjv;have:=(qay (d2.own k1) j hjv).1;omega
    ·obtain⟨v',d1,d2⟩:=H.rows _ _ _ _ _ _ k3
     have hv':v'=v:=by
      have:=hle'.g d1;rw[f7] at this;cases this;rfl
     subst hv';exact H.rinj _ _ _ _ _ _ _ _ _ _ _ _ _ _ h3 k3 f3 f4 f5 a1 d1 j hj
  ·rcases entp hc with ⟨j,t,h1,h2,rfl,h3,h5,h4⟩ | h3
   ·have ht:=SV.ren_eq_mrow h5.symm;subst ht;obtain⟨r,a1,a2⟩:=H'.maps _ _ _ h3;exact⟨r,(hto j h2).1 r a1,a2⟩
   ·obtain⟨r,a1,a2⟩:=HG.maps _ _ _ h3;exact⟨r,hle'.f a1,a2⟩
 ·have h1:=hdγ (b-st.nb+k) (by omega);refine⟨?_,?_⟩
  ·show (if st.nb≤b then γ (b-st.nb+k) else β b)=none
   rw[if_pos (by omega)];exact h1.1
  ·show (if st.nb≤b then γ.g (b-st.nb+k) else β.g b)=none
   rw[if_pos (by omega)];exact h1.2
theorem qrr {P:Program} {f:FuncId} {lo:Nat} {st:St} {σ:List Nat} {args0 args:List SV} {pre:List (Nat×Nat×SV)} {v:Value} {j:Nat} {R:Row} {ys:List Value} (hok:okF st.nb σ args0 pre (.pv v) 0 []=true) (hown:qhO lo st.hp (some (qca σ st.nb j))=true) (hj:j<σ.length)
 (hR:qcT pre j=some R) (hF:FnM P f σ.length args0 pre v j R ys) (ha:args0.map (SV.ren (qca σ st.nb))=args) (hp:qba (eqH (qca σ st.nb) st pre)) {W0:World} {β:Bl} {us:List Value} {w:World} (H:HRel W0 lo β st.hp w) (hu:SV.isl β args us) :
 Calls P f us.toArray w fun e w'=>e=.returned v∧HRel W0 lo β ((qca σ st.nb j,0,.row R.e R.es R.n ys)::qcn (some (qca σ st.nb j)) st.hp) w':=by
 obtain⟨β0,H0,d0,hu0,hb⟩:=qxG hok ha hp H hu;simp only[qhO,Bool.and_eq_true] at hown;have hlo:=Nat.le_of_ble_eq_true hown.1;have hpe:qaj st.hp (qca σ st.nb j) 0=some (.row R.e R.es R.n R.xs):=qda hp _ (qbh (qaO hR));obtain⟨u,g1,g2⟩:=H.rows _ _ _ _ _ _ hpe;have hap:=g2.apart hlo
 refine (hF w β0 us W0.heap.size u H0 d0 hu0 (by rw[(hb j hj).2];exact g1) (g2.own hlo) H.gr.size (fun c r hc=>?_)).mono fun e w' hh=>?_
 ·have hck:c<σ.length:=by
   rcases Nat.lt_or_ge c σ.length with h | h
   ·exact h
   ·rw[(d0 c h).1] at hc;cases hc
  rw[(hb c hck).1] at hc;exact hap _ r hc
 ·obtain⟨he,hU,ho,hone⟩:=hh;refine⟨he,?_⟩;generalize qca σ st.nb j=b at *;have H1:=H.upd (Hd:=fun c o s=>qaj (qcn (some b) st.hp) c o=some s) hU (bo:=some b) (Or.inr ⟨b,u,0,_,_,_,_,rfl,hlo,g1,rfl,hpe⟩) (fun c o s hc=>⟨(qaD hc).1,fun _ e=>(qaD hc).2 e⟩);refine H1.addRow hlo g1 ho hone hap (fun c o e es n xs v hc hl hv k hk hk'=>?_) (fun c o s hc=>?_)
  ·obtain⟨d1,d2⟩:=qaD hc;exact H.rinj _ _ _ _ _ _ _ _ _ _ _ _ u v hpe d1 hlo hl (fun e=>d2 (by rw[e])) g1 hv k hk hk'
  ·have hc':qaj ((b,0,.row R.e R.es R.n ys)::qcn (some b) st.hp) c o=some s:=hc;rw[qao] at hc';split at hc'
   ·rename_i e1;cases hc';exact Or.inl ⟨e1.1.symm,e1.2.symm,rfl⟩
   ·exact Or.inr ⟨hc',fun _ e=>(qaD hc').2 (by rw[e])⟩
end Go.Proofs.YtkckcgpmnipnaaaGreat
