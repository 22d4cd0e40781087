/-
  A region that draws its order and makes lists: one walk of the text's order serves every order. Conditions: none.
-/
import Derived.Test.YtkckcgpmnipnaaaGreatSxL
namespace Go.Proofs.YtkckcgpmnipnaaaGreat
set_option maxRecDepth 100000
open Go.RowKit
inductive Ef where
 | no
 | new (cells:List SV)
 | sto (b o:Nat) (cells:List SV)
 | app (old:Option Nat) (e:TypeId) (es n:Nat) (xs:List Value)
 | stl (b:Nat) (e:TypeId) (es n:Nat) (xs:List Value)
 | many (k:Nat) (cells:List (Nat×Nat×SV))
def Ef.up:Ef→Nat
 | .new _=>1
 | .app ..=>1
 | .many k _=>k
 | _=>0
def Ef.blk (n:Nat):Ef→List Nat
 | .no=>[]
 | .new _=>[n]
 | .sto b _ _=>[b]
 | .app none _ _ _ _=>[n]
 | .app (some b) _ _ _ _=>[n,b]
 | .stl b _ _ _ _=>[b]
 | .many k _=>qgE n k
def Ef.lay (n:Nat) (hp:List (Nat×Nat×SV)):Ef→List (Nat×Nat×SV)
 | .no=>hp
 | .new cells=>qa8 n 0 cells hp
 | .sto b o cells=>qa8 b o cells hp
 | .app old e es k xs=>(n,0,.row e es k xs)::qcn old hp
 | .stl b e es k xs=>(b,0,.row e es k xs)::qcn (some b) hp
 | .many k cells=>(cells.filter fun e=>Nat.ble n e.1&&Nat.ble (e.1+1) (n+k))++hp
def Ef.at (n:Nat) (b o:Nat):Ef→Option (Option SV)
 | .no=>none
 | .new cells=>if n=b then (cells[o]?).map some else none
 | .sto c i cells=>if c=b∧i≤o then (cells[o-i]?).map some else none
 | .app old e es k xs=>if n=b∧o=0 then some (some (.row e es k xs)) else if old=some b then some none else none
 | .stl c e es k xs=>if c=b∧o=0 then some (some (.row e es k xs)) else if some c=some b then some none else none
 | .many k cells=>if n≤b∧b<n+k then (qaj cells b o).map some else none
def nm0:S0→List Nat
 | .pv _=>[]
 | .pp b _=>[b]
 | .ps b _ _ _=>[b]
 | .ls b _=>[b]
 | .lq b _ _ _=>[b]
 | .lp b _=>[b]
 | .mp b=>[b]
def nmM:SV→List Nat
 | .pp b _=>[b]
 | .ps b _ _ _=>[b]
 | .ls b _=>[b]
 | .lq b _ _ _=>[b]
 | .lp b _=>[b]
 | .mp b=>[b]
 | .ag l=>l.flatMap nm0
 | .pc _ l=>l.flatMap nm0
 | _=>[]
def qC2:Op→Bool
 | .call _=>true
 | _=>false
def qxf:Op→Bool
 | .move _=>true
 | .assign _=>true
 | _=>false
def qhb (st:St) (full:List (Nat×Nat×SV)) (o:Oper):List Nat:=
 bif qxf o.op then [] else
 match o.op.operands.toList.flatMap fun x=>nmM (st.ev x) with
 | R=>bif qC2 o.op then R++full.flatMap fun e=>bif qb9 R e.1 then nmM e.2.2 else [] else R
def S0.inP (A:Nat→Bool):S0→Bool
 | .pv _=>true
 | .pp b _=>A b
 | .ps b _ _ _=>A b
 | .ls b _=>A b
 | .lq b _ _ _=>A b
 | .lp b _=>A b
 | .mp b=>A b
def S1.inP (A:Nat→Bool):S1→Bool
 | .one s=>s.inP A
 | .ag l=>l.all (S0.inP A)
def SV.inP (A:Nat→Bool):SV→Bool
 | .pv _=>true
 | .pp b _=>A b
 | .ps b _ _ _=>A b
 | .ls b _=>A b
 | .lq b _ _ _=>A b
 | .lp b _=>A b
 | .mp b=>A b
 | .pc _ cap=>cap.all (S0.inP A)
 | .ag l=>l.all (S0.inP A)
 | .tu l=>l.all (S1.inP A)
 | .any=>true
 | .row ..=>false
 | .mrow _=>false
def qIL (n m b:Nat):Bool:=Nat.ble n b&&Nat.ble (b+1) m
abbrev SV.inN (n m:Nat) (s:SV):Bool:=s.inP (qIL n m)
def InP (A:Nat→Bool) (β γ:Bl):Prop:=∀ b,A b=true→(∀ r,γ b=some r→β b=some r)∧∀ u,γ.g b=some u→β.g b=some u
def InN (n m:Nat) (β γ:Bl):Prop:=∀ b,n≤b→b<m→(∀ r,γ b=some r→β b=some r)∧∀ u,γ.g b=some u→β.g b=some u
theorem qrC {n m b:Nat} (h:(Nat.ble n b&&Nat.ble (b+1) m)=true):n≤b∧b<m:=by
 rw[Bool.and_eq_true] at h;exact⟨Nat.le_of_ble_eq_true h.1,Nat.le_of_ble_eq_true h.2⟩
theorem S0.inP_is {A:Nat→Bool} {β γ:Bl} (h:InP A β γ) {s:S0} {x:Value} (ho:s.inP A=true) (k:s.is γ x):s.is β x:=by
 cases s with
 | pv y=>exact k
 | pp b o=>obtain⟨r,k1,k2⟩:=k;exact⟨r,(h b ho).1 r k1,k2⟩
 | ps b o l c=>obtain⟨r,k1,k2⟩:=k;exact⟨r,(h b ho).1 r k1,k2⟩
 | ls b l=>exact⟨(h b ho).2 _ k.1,k.2⟩
 | lq b es kk l=>obtain⟨a,n',c,a',c',k1,k2⟩:=k;exact⟨a,n',c,a',c',(h b ho).2 _ k1,k2⟩
 | lp b q=>obtain⟨r,o,n',c,k1,k2⟩:=k;exact⟨r,o,n',c,(h b ho).2 _ k1,k2⟩
 | mp b=>obtain⟨r,k1,k2⟩:=k;exact⟨r,(h b ho).1 r k1,k2⟩
theorem S0.inP_isl {A:Nat→Bool} {β γ:Bl} (h:InP A β γ):∀ {ss:List S0} {vs:List Value},ss.all (S0.inP A)=true→S0.isl γ ss vs→S0.isl β ss vs
 | [],[],_,_=>trivial
 | [],_::_,_,k=>k.elim
 | _::_,[],_,k=>k.elim
 | _::_,_::_,ho,k=>by
  simp only[List.all_cons,Bool.and_eq_true] at ho;exact⟨S0.inP_is h ho.1 k.1,S0.inP_isl h ho.2 k.2⟩
theorem S1.inP_is {A:Nat→Bool} {β γ:Bl} (h:InP A β γ) {s:S1} {x:Value} (ho:s.inP A=true) (k:s.is γ x):s.is β x:=by
 cases s with
 | one s=>exact S0.inP_is h ho k
 | ag l=>obtain⟨vs,h1,h2⟩:=k;exact⟨vs,S0.inP_isl h ho h1,h2⟩
theorem S1.inP_isl {A:Nat→Bool} {β γ:Bl} (h:InP A β γ):∀ {ss:List S1} {vs:List Value},ss.all (S1.inP A)=true→S1.isl γ ss vs→S1.isl β ss vs
 | [],[],_,_=>trivial
 | [],_::_,_,k=>k.elim
 | _::_,[],_,k=>k.elim
 | _::_,_::_,ho,k=>by
  simp only[List.all_cons,Bool.and_eq_true] at ho;exact⟨S1.inP_is h ho.1 k.1,S1.inP_isl h ho.2 k.2⟩
theorem SV.inP_is {A:Nat→Bool} {β γ:Bl} (h:InP A β γ) {s:SV} {x:Value} (ho:s.inP A=true) (k:s.is γ x):s.is β x:=by
 cases s with
 | pv y=>exact k
 | pp b o=>exact S0.inP_is (s:=.pp b o) h ho k
 | ps b o l c=>exact S0.inP_is (s:=.ps b o l c) h ho k
 | ls b l=>exact S0.inP_is (s:=.ls b l) h ho k
 | lq b es kk l=>exact S0.inP_is (s:=.lq b es kk l) h ho k
 | lp b q=>exact S0.inP_is (s:=.lp b q) h ho k
 | mp b=>exact S0.inP_is (s:=.mp b) h ho k
 | pc f cap=>obtain⟨vs,h1,h2⟩:=k;exact⟨vs,S0.inP_isl h ho h1,h2⟩
 | ag l=>obtain⟨vs,h1,h2⟩:=k;exact⟨vs,S0.inP_isl h ho h1,h2⟩
 | tu l=>obtain⟨vs,h1,h2⟩:=k;exact⟨vs,S1.inP_isl h ho h1,h2⟩
 | any=>trivial
 | row e es n xs=>cases ho
 | mrow xs=>cases ho
theorem SV.inN_is {n m:Nat} {β γ:Bl} (h:InN n m β γ) {s:SV} {x:Value} (ho:s.inN n m=true) (k:s.is γ x):s.is β x:=SV.inP_is (fun b hb=>h b (qrC hb).1 (qrC hb).2) ho k
theorem qlb {l:List Nat} {b:Nat}:qb9 l b=true↔b∈l:=by
 unfold qb9;rw[List.any_eq_true];constructor
 ·rintro⟨c,hc,he⟩;rw[← Nat.eq_of_beq_eq_true he];exact hc
 ·intro h;exact⟨b,h,Nat.beq_refl b⟩
def S0.nmB:S0→List Nat
 | .ls b _=>[b]
 | _=>[]
def nmB (l:List SV):List Nat:=l.flatMap fun s=>match s with
 | .ls b _=>[b]
 | .ag l=>l.flatMap S0.nmB
 | _=>[]
theorem S0.nmB_def {β:Bl}:∀ {l:List S0} {us:List Value},S0.isl β l us→∀ b,b∈l.flatMap S0.nmB→β.g b≠none
 | [],_,_,b,hb=>by cases hb
 | s::l,[],h,_,_=>h.elim
 | s::l,u::us,h,b,hb=>by
  rw[List.flatMap_cons,List.mem_append] at hb
  rcases hb with hb | hb
  ·have h1:=h.1
   cases s with
   | ls c n=>
    simp only[S0.nmB,List.mem_cons,List.not_mem_nil,or_false] at hb;subst hb;rw[h1.1];simp
   | _=>cases hb
  ·exact S0.nmB_def h.2 b hb
theorem nmB_def {β:Bl}:∀ {l:List SV} {us:List Value},SV.isl β l us→∀ b,qb9 (nmB l) b=true→β.g b≠none
 | [],_,_,b,hb=>by cases hb
 | s::l,[],h,_,_=>h.elim
 | s::l,u::us,h,b,hb=>by
  have hm:b∈nmB (s::l):=qlb.1 hb;unfold nmB at hm;rw[List.flatMap_cons,List.mem_append] at hm
  rcases hm with hm | hm
  ·have h1:=h.1
   cases s with
   | ls c n=>
    simp only[List.mem_cons,List.not_mem_nil,or_false] at hm;subst hm;rw[h1.1];simp
   | ag l0=>
    obtain⟨vs,h2,_⟩:=h1;exact S0.nmB_def h2 b hm
   | _=>cases hm
  ·exact nmB_def h.2 b (qlb.2 hm)
abbrev SV.inX (args:List SV) (n m:Nat) (s:SV):Bool:=s.inP fun b=>qIL n m b||qb9 (nmB args) b
def Bl.cut (β:Bl) (n:Nat):Bl:=⟨fun b=>if b<n then β b else none,fun b=>if b<n then β.g b else none⟩
theorem Bl.cut_f {β:Bl} {n b r:Nat} (h:(β.cut n) b=some r):b<n∧β b=some r:=by
 unfold Bl.cut at h;simp only at h;split at h
 ·rename_i e;exact⟨e,h⟩
 ·cases h
theorem Bl.cut_dom (β:Bl) (n:Nat):(β.cut n).dom n:=fun b hb=>⟨if_neg (by omega),if_neg (by omega)⟩
theorem Bl.cut_sub (β:Bl) (n:Nat):β.sub n (β.cut n):=⟨fun b r hb e=>(if_pos hb).trans e,fun b u hb e=>(if_pos hb).trans e⟩
theorem HRelP.cut {W0 w:World} {lo n:Nat} {β:Bl} {Hc:Nat→Nat→SV→Prop} (H:HRelP W0 lo β Hc w) (hk:∀ b o s,Hc b o s→b<n∧s.own n=true):HRelP w n (β.cut n) Hc w:=by
 refine⟨Gr.refl w,fun b r e=>H.live b r (Bl.cut_f e).2,fun b c r e e'=>H.inj b c r (Bl.cut_f e).2 (Bl.cut_f e').2,fun b r hb e=>?_,fun b r e=>?_,fun b o sv hc hs=>?_,fun b o e es m xs hc=>?_,fun b o e es m xs c o' e' es' m' xs' u v h1 h2 h3=>?_,fun b o xs hc=>(H.maps b o xs hc).imp fun r g=>⟨(if_pos (hk b o _ hc).1).trans g.1,g.2⟩⟩
 ·have:=(Bl.cut_f e).1;omega
 ·obtain⟨h1,h2⟩:=Bl.cut_f e;exact (if_pos h1).trans (H.sep b r h2)
 ·obtain⟨r,u,h1,h2,h3⟩:=H.cells b o sv hc hs;obtain⟨k1,k2⟩:=hk b o sv hc;exact⟨r,u,(if_pos k1).trans h1,SV.own_is (Bl.cut_sub β n) k2 h2,h3⟩
 ·obtain⟨u,h1,h2⟩:=H.rows b o e es m xs hc;obtain⟨k1,_⟩:=hk b o _ hc;exact⟨u,(if_pos k1).trans h1,h2.rd,h2.one,fun _ hx j hj=>h2.rd.lt hx j hj,fun h=>by omega,fun h=>by omega⟩
 ·have:=(hk b o _ h1).1;omega
def Bl.mixN (β γ:Bl) (n k:Nat):Bl:=⟨fun b=>if n≤b∧b<n+k then γ b else β b,fun b=>if n≤b∧b<n+k then γ.g b else β.g b⟩
theorem Bl.mixN_f {β γ:Bl} {n k b r:Nat} (h:(β.mixN γ n k) b=some r):(n≤b∧b<n+k∧γ b=some r)∨(¬ (n≤b∧b<n+k)∧β b=some r):=by
 unfold Bl.mixN at h;simp only at h;split at h
 ·rename_i e;exact Or.inl ⟨e.1,e.2,h⟩
 ·rename_i e;exact Or.inr ⟨e,h⟩
theorem Bl.mixN_in (β γ:Bl) (n k:Nat):InN n (n+k) (β.mixN γ n k) γ:=fun b h1 h2=>⟨fun r e=>(if_pos ⟨h1,h2⟩).trans e,fun u e=>(if_pos ⟨h1,h2⟩).trans e⟩
theorem Bl.mixN_le {β γ:Bl} {n k:Nat} (h:∀ b,n≤b→b<n+k→β b=none∧β.g b=none):β.le (β.mixN γ n k):=fun b e=>by
 have hb:¬ (n≤b∧b<n+k):=fun hb=>by
  obtain⟨h1,h2⟩:=h b hb.1 hb.2
  rcases e with e | e
  ·exact e h1
  ·exact e h2
 exact⟨if_neg hb,if_neg hb⟩
theorem HRelP.join {W0 w w':World} {lo n k:Nat} {β γ:Bl} {Hc Hd He:Nat→Nat→SV→Prop} (H:HRelP W0 lo β Hc w) (hlo:lo≤n) (hf:∀ b,n≤b→b<n+k→β b=none∧β.g b=none) (H':HRelP w n γ Hd w')
 (hd:∀ b o s,n≤b→b<n+k→Hd b o s→s.isRow=true∨s.inN n (n+k)=true) (he:∀ b o s,He b o s→(n≤b∧b<n+k∧Hd b o s)∨Hc b o s):HRelP W0 lo (β.mixN γ n k) He w':=by
 have hg:=H'.gr;have HG:=H.gr_mono hg;have hle:β.le (β.mixN γ n k):=Bl.mixN_le hf;have hin:=Bl.mixN_in β γ n k
 have inm:∀ {b:Nat},n≤b→b<n+k→(β.mixN γ n k) b=γ b∧(β.mixN γ n k).g b=γ.g b:=fun h1 h2=>⟨if_pos ⟨h1,h2⟩,if_pos ⟨h1,h2⟩⟩
 have rowc:∀ b o e es m xs,He b o (.row e es m xs)→(n≤b∧b<n+k∧∃ u,(β.mixN γ n k).g b=some u∧γ.g b=some u∧RowIs w n γ w' b e es m xs u)∨(¬ (n≤b∧b<n+k)∧Hc b o (.row e es m xs)∧∃ u,(β.mixN γ n k).g b=some u∧β.g b=some u∧RowIs W0 lo β w b e es m xs u):=fun b o e es m xs hc=>by
  rcases he _ _ _ hc with ⟨h1,h2,h3⟩ | h3
  ·obtain⟨u,g1,g2⟩:=H'.rows _ _ _ _ _ _ h3;exact Or.inl ⟨h1,h2,u,(inm h1 h2).2.trans g1,g1,g2⟩
  ·obtain⟨u,g1,g2⟩:=H.rows _ _ _ _ _ _ h3
   have hb:¬ (n≤b∧b<n+k):=fun hb=>by rw[(hf b hb.1 hb.2).2] at g1;cases g1
   exact Or.inr ⟨hb,h3,u,hle.g g1,g1,g2⟩
 refine⟨HG.gr,fun b r e=>?_,fun b c r e1 e2=>?_,fun b r hb e=>?_,fun b r e=>?_,fun b o sv hc hs=>?_,fun b o e es m xs hc=>?_,fun b o e es m xs c o' e' es' m' xs' u v f1 f2 hb hc hne hu hv j hj=>?_,fun b o xs hc=>?_⟩
 ·rcases Bl.mixN_f e with ⟨_,_,e⟩ | ⟨_,e⟩
  ·exact H'.live b r e
  ·exact HG.live b r e
 ·rcases Bl.mixN_f e1 with ⟨x1,_,e1⟩ | ⟨_,e1⟩<;>rcases Bl.mixN_f e2 with ⟨x2,_,e2⟩ | ⟨_,e2⟩
  ·exact H'.inj b c r e1 e2
  ·have:=H'.new b r x1 e1;have:=H.live c r e2;omega
  ·have:=H'.new c r x2 e2;have:=H.live b r e1;omega
  ·exact H.inj b c r e1 e2
 ·rcases Bl.mixN_f e with ⟨x1,_,e⟩ | ⟨_,e⟩
  ·exact Nat.le_trans H.gr.size (H'.new b r x1 e)
  ·exact H.new b r hb e
 ·rcases Bl.mixN_f e with ⟨x1,x2,e⟩ | ⟨x1,e⟩
  ·exact (inm x1 x2).2.trans (H'.sep b r e)
  ·exact (if_neg x1).trans (H.sep b r e)
 ·rcases he _ _ _ hc with ⟨h1,h2,h3⟩ | h3
  ·obtain⟨r,u,c1,c2,c3⟩:=H'.cells b o sv h3 hs;have hn:sv.inN n (n+k)=true:=(hd b o sv h1 h2 h3).resolve_left (by rw[hs];decide);exact⟨r,u,(inm h1 h2).1.trans c1,SV.inN_is hin hn c2,c3⟩
  ·obtain⟨r,u,c1,c2,c3⟩:=HG.cells b o sv h3 hs;exact⟨r,u,hle.f c1,SV.is_mono hle c2,c3⟩
 ·rcases rowc _ _ _ _ _ _ hc with ⟨h1,h2,u,g0,g1,g2⟩ | ⟨_,_,u,g0,g1,g2⟩
  ·refine⟨u,g0,g2.rd,g2.one,fun h=>by omega,fun _=>?_,fun _ c r ec hk=>?_⟩
   ·obtain⟨o1,o2⟩:=g2.own h1;refine⟨o1,?_⟩
    rcases o2 with o2 | ⟨g,cap,cur,q1,q2,q3⟩
    ·exact Or.inl o2
    ·exact Or.inr ⟨g,cap,cur,q1,Nat.le_trans H.gr.size q2,q3⟩
   ·rcases Bl.mixN_f ec with ⟨x1,_,ec⟩ | ⟨_,ec⟩
    ·exact g2.apart h1 c r ec hk
    ·have:=(qay (g2.own h1) r hk).1;have:=H.live c r ec;omega
  ·have g3:=g2.gr_mono hg;refine⟨u,g0,g3.rd,g3.one,g3.low,g3.own,fun hb c r ec hk=>?_⟩
   rcases Bl.mixN_f ec with ⟨x1,_,ec⟩ | ⟨_,ec⟩
   ·have:=(qay (g2.own hb) r hk).2;have:=H'.new c r x1 ec;omega
   ·exact g2.apart hb c r ec hk
 ·rcases rowc _ _ _ _ _ _ f1 with ⟨h1,h2,u1,a0,a1,a2⟩ | ⟨h1,h3,u1,a0,a1,a2⟩<;>rcases rowc _ _ _ _ _ _ f2 with ⟨k1,k2,v1,b0,b1,b2⟩ | ⟨k1,k3,v1,b0,b1,b2⟩<;>(rw[hu] at a0;rw[hv] at b0;cases a0;cases b0)
  ·intro hj'
   rcases he _ _ _ f1 with ⟨_,_,f1⟩ | f1
   ·rcases he _ _ _ f2 with ⟨_,_,f2⟩ | f2
    ·exact H'.rinj _ _ _ _ _ _ _ _ _ _ _ _ _ _ f1 f2 h1 k1 hne a1 b1 j hj hj'
    ·obtain⟨v',g1,_⟩:=H.rows _ _ _ _ _ _ f2;rw[(hf c k1 k2).2] at g1;cases g1
   ·obtain⟨v',g1,_⟩:=H.rows _ _ _ _ _ _ f1;rw[(hf b h1 h2).2] at g1;cases g1
  ·intro hj';have:=(qay (a2.own h1) j hj).1;have:=(qay (b2.own hc) j hj').2;omega
  ·intro hj';have:=(qay (a2.own hb) j hj).2;have:=(qay (b2.own k1) j hj').1;omega
  ·exact H.rinj _ _ _ _ _ _ _ _ _ _ _ _ _ _ h3 k3 hb hc hne a1 b1 j hj
 ·rcases he _ _ _ hc with ⟨h1,h2,h3⟩ | h3
  ·obtain⟨r,c1,c2⟩:=H'.maps _ _ _ h3;exact⟨r,(inm h1 h2).1.trans c1,c2⟩
  ·obtain⟨r,c1,c2⟩:=HG.maps _ _ _ h3;exact⟨r,hle.f c1,c2⟩
def atN (R:List Nat) (hp:List (Nat×Nat×SV)):List (Nat×Nat×SV):=hp.filter fun e=>qb9 R e.1
def qIH (lo:Nat) (o:Oper) (st:St) (hp:List (Nat×Nat×SV)):Out→Option (St×Ef)
 | .val x=>match qb7 st o.dst x with
  | some s=>some (s,.no)
  | none=>none
 | .new _ cells len=>match qb7 { st with nb:=st.nb+1 } o.dst (qtO st.nb len) with
  | some s=>some (s,.new cells)
  | none=>none
 | .sto b i cells=>bif Nat.ble lo b then
  match qb7 st o.dst (.pv undef) with
  | some s=>some (s,.sto b i cells)
  | none=>none
  else none
 | .app old e es n xs=>bif qhO lo hp old then
  match qb7 { st with nb:=st.nb+1 } o.dst (.ls st.nb n) with
  | some s=>some (s,.app old e es n xs)
  | none=>none
  else none
 | .stl b e es n xs r=>bif qhO lo hp (some b) then
  match qb7 st o.dst (.pv r) with
  | some s=>some (s,.stl b e es n xs)
  | none=>none
  else none
 | _=>none
def qCi (P:Program) (call:qbi) (lo:Nat) (ops:Array Oper) (o:Oper) (st:St) (full:List (Nat×Nat×SV)):Option (St×Ef×List Nat×List Prop):=
 match qbE ops st o with
 | some true=>match opS P { (qaV o.op st).2 with hp:=atN (qhb st full o) full } o (qaV o.op st).1 with
  | some (.call f args,q)=>bif args.all (SV.own st.nb)&&(atN (qhb st full o) full).all (fun e=>Nat.ble (e.1+1) st.nb&&e.2.2.own st.nb) then
   match call st.nb f args (qaV o.op st).1 { (qaV o.op st).2 with hp:=atN (qhb st full o) full } with
   | some (x,s,q2)=>bif Nat.ble st.nb s.nb&&x.inX args st.nb s.nb&&s.hp.all (fun e=>!(Nat.ble st.nb e.1&&Nat.ble (e.1+1) s.nb)||e.2.2.isRow||e.2.2.inN st.nb s.nb) then
    match qb7 { (qaV o.op st).2 with ch:=s.ch,nb:=s.nb } o.dst x with
    | some s'=>some (s',.many (s.nb-st.nb) s.hp,qhb st full o,q++q2)
    | none=>none
    else none
   | none=>none
   else none
  | some (out,q)=>match qIH lo o (qaV o.op st).2 (atN (qhb st full o) full) out with
   | some (s,ef)=>some (s,ef,qhb st full o,q)
   | none=>none
  | none=>none
 | some false=>match qb7 st o.dst (.pv undef) with
  | some s=>some (s,.no,[],[])
  | none=>none
 | none=>none
structure MHead where
 st:St
 hp:List (Nat×Nat×SV)
 q:List Prop
 bl:List (List Nat)
 rl:List (List Nat)
def mS (P:Program) (call:qbi) (lo:Nat) (ops:Array Oper):List Oper→St→List (Nat×Nat×SV)→Option MHead
 | [],st,hp=>some ⟨st,hp,[],[],[]⟩
 | o::r,st,hp=>match qCi P call lo ops o st hp with
  | some (s,ef,rd,q)=>match mS P call lo ops r s (ef.lay st.nb hp) with
   | some ⟨s',hp',q',bl,rl⟩=>some ⟨s',hp',q++q',ef.blk st.nb::bl,rd::rl⟩
   | none=>none
  | none=>none
def qnY (ops:Array Oper) (bl rl:List (List Nat)) (n:Nat):Bool:=
 (List.range n).all fun i=>match rl[i]? with
  | some R=>(List.range n).all fun k=>match bl[k]? with
   | some l=>Nat.beq k i||!(l.any fun b=>qb9 R b)||(bif Nat.ble (k+1) i then qdq ops i k else qdq ops k i)
   | _=>true
  | _=>true
def mdS (P:Program) (call:qbi) (lo:Nat) (ops:Array Oper) (st:St):Option (St×List Prop):=
 match mS P call lo ops ops.toList st st.hp with
 | some ⟨s,hp,q,bl,rl⟩=>
  bif Region.noSelect ops&&qgG ops ops.size&&qev ops ops.size&&qdn ops ops.size&&qga ops bl ops.size&&qnY ops bl rl ops.size then some ({ s with hp:=hp },q) else none
 | none=>none
theorem qgq {bo:Option Nat} {c o:Nat}:∀ {hp:List (Nat×Nat×SV)},qaj (qcn bo hp) c o=if bo=some c then none else qaj hp c o:=by
 intro hp
 cases bo with
 | none=>rw[if_neg (by simp)];rfl
 | some b=>
  show qaj (hp.filter fun e=>!Nat.beq e.1 b) c o=_
  rw[qbW (p:=fun d=>!Nat.beq d b)];by_cases h:b=c
  ·subst h;rw[if_neg (by simp),if_pos rfl]
  ·rw[if_pos,if_neg (fun e=>h (Option.some.inj e))];cases e:Nat.beq c b
   ·rfl
   ·exact (h (Nat.eq_of_beq_eq_true e).symm).elim
theorem Ef.lay_look {n:Nat} {ef:Ef} {hp:List (Nat×Nat×SV)} {b o:Nat}:qaj (ef.lay n hp) b o=(ef.at n b o).getD (qaj hp b o):=by
 cases ef with
 | no=>rfl
 | new cells=>
  simp only[Ef.lay,Ef.at,qbI,Nat.zero_le,true_and,Nat.zero_add,Nat.sub_zero];by_cases hb:n=b
  ·rw[if_pos hb];by_cases ho:o<cells.length
   ·rw[if_pos ⟨hb,ho⟩,List.getElem?_eq_getElem ho];rfl
   ·rw[if_neg (fun h=>ho h.2),List.getElem?_eq_none (by omega)];rfl
  ·rw[if_neg hb,if_neg (fun h=>hb h.1)];rfl
 | sto c i cells=>
  simp only[Ef.lay,Ef.at,qbI];by_cases hb:c=b∧i≤o
  ·rw[if_pos hb];by_cases ho:o<i+cells.length
   ·rw[if_pos ⟨hb.1,hb.2,ho⟩,List.getElem?_eq_getElem (show o-i<cells.length by omega)];rfl
   ·rw[if_neg (fun h=>ho h.2.2),List.getElem?_eq_none (by omega)];rfl
  ·rw[if_neg hb,if_neg (fun h=>hb ⟨h.1,h.2.1⟩)];rfl
 | app old e es k xs=>
  simp only[Ef.lay,Ef.at,qao,qgq];by_cases hb:n=b∧0=o
  ·have hb':n=b∧o=0:=⟨hb.1,hb.2.symm⟩;simp only[if_pos hb,if_pos hb',Option.getD_some]
  ·have hb':¬ (n=b∧o=0):=fun h=>hb ⟨h.1,h.2.symm⟩
   simp only[if_neg hb,if_neg hb']
   split<;>rfl
 | stl c e es k xs=>
  simp only[Ef.lay,Ef.at,qao,qgq];by_cases hb:c=b∧0=o
  ·have hb':c=b∧o=0:=⟨hb.1,hb.2.symm⟩;simp only[if_pos hb,if_pos hb',Option.getD_some]
  ·have hb':¬ (c=b∧o=0):=fun h=>hb ⟨h.1,h.2.symm⟩
   simp only[if_neg hb,if_neg hb']
   split<;>rfl
 | many k cells=>
  simp only[Ef.lay,Ef.at];rw[qcl,qbW (p:=fun c=>Nat.ble n c&&Nat.ble (c+1) (n+k))];by_cases h:n≤b∧b<n+k
  ·rw[if_pos h,if_pos (by rw[Bool.and_eq_true];exact⟨Nat.ble_eq_true_of_le h.1,Nat.ble_eq_true_of_le h.2⟩)]
   cases qaj cells b o<;>rfl
  ·rw[if_neg h,if_neg (fun h'=>h (by rw[Bool.and_eq_true] at h';exact⟨Nat.le_of_ble_eq_true h'.1,Nat.le_of_ble_eq_true h'.2⟩))];rfl
theorem Ef.at_blk {n:Nat} {ef:Ef} {b o:Nat} {s:Option SV} (h:ef.at n b o=some s):qb9 (ef.blk n) b=true:=by
 cases ef with
 | no=>cases h
 | new cells=>
  simp only[Ef.at] at h;split at h;· rename_i e;subst e;exact qbF
  ·cases h
 | sto c i cells=>
  simp only[Ef.at] at h;split at h;· rename_i e;obtain⟨rfl,_⟩:=e;exact qbF
  ·cases h
 | app old e es k xs=>
  simp only[Ef.at] at h;split at h
  ·rename_i e;obtain⟨rfl,_⟩:=e
   cases old<;>simp[Ef.blk,qb9,Nat.beq_refl]
  ·split at h
   ·rename_i e;subst e;simp[Ef.blk,qb9,Nat.beq_refl]
   ·cases h
 | stl c e es k xs=>
  simp only[Ef.at] at h;split at h
  ·rename_i e;obtain⟨rfl,_⟩:=e;exact qbF
  ·split at h
   ·rename_i e;cases e;exact qbF
   ·cases h
 | many k cells=>
  simp only[Ef.at] at h;split at h
  ·rename_i e;exact qed.2 e
  ·cases h
inductive MIs (P:Program) (call:qbi) (lo:Nat) (ops:Array Oper) (o:Oper) (st:St) (full:List (Nat×Nat×SV)) (s:St) (ef:Ef) (rd:List Nat) (q:List Prop):Prop where
 | no (hw:qbE ops st o=some false) (hp:qb7 st o.dst (.pv undef)=some s) (ha:ef=.no)
 | val (x:SV) (hw:qbE ops st o=some true) (ho:opS P { (qaV o.op st).2 with hp:=atN rd full } o (qaV o.op st).1=some (.val x,q)) (hp:qb7 (qaV o.op st).2 o.dst x=some s) (ha:ef=.no)
 | new (t:TypeId) (cells:List SV) (len:Option Nat) (hw:qbE ops st o=some true) (ho:opS P { (qaV o.op st).2 with hp:=atN rd full } o (qaV o.op st).1=some (.new t cells len,q))
  (hp:qb7 { (qaV o.op st).2 with nb:=(qaV o.op st).2.nb+1 } o.dst (qtO (qaV o.op st).2.nb len)=some s) (ha:ef=.new cells)
 | sto (b i:Nat) (cells:List SV) (hw:qbE ops st o=some true) (ho:opS P { (qaV o.op st).2 with hp:=atN rd full } o (qaV o.op st).1=some (.sto b i cells,q)) (hlo:lo≤b) (hp:qb7 (qaV o.op st).2 o.dst (.pv undef)=some s) (ha:ef=.sto b i cells)
 | app (old:Option Nat) (e:TypeId) (es n:Nat) (xs:List Value) (hw:qbE ops st o=some true) (ho:opS P { (qaV o.op st).2 with hp:=atN rd full } o (qaV o.op st).1=some (.app old e es n xs,q)) (hown:qhO lo (atN rd full) old=true)
  (hp:qb7 { (qaV o.op st).2 with nb:=(qaV o.op st).2.nb+1 } o.dst (.ls (qaV o.op st).2.nb n)=some s) (ha:ef=.app old e es n xs)
 | stl (b:Nat) (e:TypeId) (es n:Nat) (xs:List Value) (r:Value) (hw:qbE ops st o=some true) (ho:opS P { (qaV o.op st).2 with hp:=atN rd full } o (qaV o.op st).1=some (.stl b e es n xs r,q)) (hown:qhO lo (atN rd full) (some b)=true)
  (hp:qb7 (qaV o.op st).2 o.dst (.pv r)=some s) (ha:ef=.stl b e es n xs)
 | call (f:FuncId) (args:List SV) (x:SV) (s1:St) (q1 q2:List Prop) (hw:qbE ops st o=some true) (ho:opS P { (qaV o.op st).2 with hp:=atN rd full } o (qaV o.op st).1=some (.call f args,q1)) (how:args.all (SV.own st.nb)=true)
  (hown:(atN rd full).all (fun e=>Nat.ble (e.1+1) st.nb&&e.2.2.own st.nb)=true) (hc:call st.nb f args (qaV o.op st).1 { (qaV o.op st).2 with hp:=atN rd full }=some (x,s1,q2)) (hle:st.nb≤s1.nb) (hx:x.inX args st.nb s1.nb=true)
  (hcells:s1.hp.all (fun e=>!(Nat.ble st.nb e.1&&Nat.ble (e.1+1) s1.nb)||e.2.2.isRow||e.2.2.inN st.nb s1.nb)=true) (hp:qb7 { (qaV o.op st).2 with ch:=s1.ch,nb:=s1.nb } o.dst x=some s) (ha:ef=.many (s1.nb-st.nb) s1.hp) (hq:q=q1++q2)
theorem qoh {P:Program} {call:qbi} {lo:Nat} {ops:Array Oper} {o:Oper} {st s:St} {full:List (Nat×Nat×SV)} {ef:Ef} {rd:List Nat} {q:List Prop} (h:qCi P call lo ops o st full=some (s,ef,rd,q)):MIs P call lo ops o st full s ef rd q:=by
 unfold qCi at h;split at h
 ·rename_i hw;split at h
  ·rename_i f args q1 ho;cases hb:(args.all (SV.own st.nb)&&(atN (qhb st full o) full).all (fun e=>Nat.ble (e.1+1) st.nb&&e.2.2.own st.nb))
   ·rw[hb] at h;cases h
   ·rw[hb,cond_true] at h;rw[Bool.and_eq_true] at hb;split at h
    ·rename_i x s1 q2 hc;cases hb2:(Nat.ble st.nb s1.nb&&x.inX args st.nb s1.nb&&s1.hp.all (fun e=>!(Nat.ble st.nb e.1&&Nat.ble (e.1+1) s1.nb)||e.2.2.isRow||e.2.2.inN st.nb s1.nb))
     ·rw[hb2] at h;cases h
     ·rw[hb2,cond_true] at h;rw[Bool.and_eq_true,Bool.and_eq_true] at hb2;split at h
      ·rename_i s' hs;simp only[Option.some.injEq,Prod.mk.injEq] at h;obtain⟨rfl,rfl,rfl,rfl⟩:=h;exact .call f args x s1 q1 q2 hw ho hb.1 hb.2 hc (Nat.le_of_ble_eq_true hb2.1.1) hb2.1.2 hb2.2 hs rfl rfl
      ·cases h
    ·cases h
  ·rename_i out q' hnc ho;clear hnc;split at h
   ·rename_i s' ef' he;simp only[Option.some.injEq,Prod.mk.injEq] at h;obtain⟨rfl,rfl,rfl,rfl⟩:=h;unfold qIH at he;split at he
    ·rename_i x;split at he
     ·rename_i s2 hp;simp only[Option.some.injEq,Prod.mk.injEq] at he;obtain⟨rfl,rfl⟩:=he;exact .val x hw ho hp rfl
     ·cases he
    ·rename_i t cells len;split at he
     ·rename_i s2 hp;simp only[Option.some.injEq,Prod.mk.injEq] at he;obtain⟨rfl,rfl⟩:=he;exact .new t cells len hw ho hp rfl
     ·cases he
    ·rename_i b i cells;cases hb:Nat.ble lo b
     ·rw[hb] at he;cases he
     ·rw[hb,cond_true] at he;split at he
      ·rename_i s2 hp;simp only[Option.some.injEq,Prod.mk.injEq] at he;obtain⟨rfl,rfl⟩:=he;exact .sto b i cells hw ho (Nat.le_of_ble_eq_true hb) hp rfl
      ·cases he
    ·rename_i old e es n xs;cases hb:qhO lo (atN (qhb st full o) full) old
     ·rw[hb] at he;cases he
     ·rw[hb,cond_true] at he;split at he
      ·rename_i s2 hp;simp only[Option.some.injEq,Prod.mk.injEq] at he;obtain⟨rfl,rfl⟩:=he;exact .app old e es n xs hw ho hb hp rfl
      ·cases he
    ·rename_i b e es n xs r;cases hb:qhO lo (atN (qhb st full o) full) (some b)
     ·rw[hb] at he;cases he
     ·rw[hb,cond_true] at he;split at he
      ·rename_i s2 hp;simp only[Option.some.injEq,Prod.mk.injEq] at he;obtain⟨rfl,rfl⟩:=he;exact .stl b e es n xs r hw ho hb hp rfl
      ·cases he
    ·cases he
   ·cases h
  ·cases h
 ·rename_i hw;split at h
  ·rename_i s' hs;simp only[Option.some.injEq,Prod.mk.injEq] at h;obtain⟨rfl,rfl,rfl,rfl⟩:=h;exact .no hw hs rfl
  ·cases h
 ·cases h
theorem MIs.props {P:Program} {call:qbi} {lo:Nat} {ops:Array Oper} {o:Oper} {st s:St} {full:List (Nat×Nat×SV)} {ef:Ef} {rd:List Nat} {q:List Prop} (h:MIs P call lo ops o st full s ef rd q) :
 s.n=st.n∧s.nb=st.nb+ef.up∧(∀ d,o.dst≠some d→qaZ s.tm d=qaZ st.tm d):=by
 obtain⟨p1,p2,p3,p4⟩:=qbO (op:=o.op) (st:=st) rfl
 cases h with
 | no hw hp ha=>subst ha;obtain⟨a1,a2,a3,a4,_⟩:=qat hp;exact⟨a1,a3,a4⟩
 | val x hw ho hp ha=>subst ha;obtain⟨a1,a2,a3,a4,_⟩:=qat hp;exact⟨a1.trans p2,a3.trans p4,fun d hd=>(a4 d hd).trans (by rw[p1])⟩
 | new t cells len hw ho hp ha=>subst ha;obtain⟨a1,a2,a3,a4,_⟩:=qat hp;exact⟨a1.trans p2,a3.trans (by simp[p4,Ef.up]),fun d hd=>(a4 d hd).trans (by simp[p1])⟩
 | sto b i cells hw ho hlo hp ha=>subst ha;obtain⟨a1,a2,a3,a4,_⟩:=qat hp;exact⟨a1.trans p2,a3.trans p4,fun d hd=>(a4 d hd).trans (by rw[p1])⟩
 | app old e es n xs hw ho hown hp ha=>subst ha;obtain⟨a1,a2,a3,a4,_⟩:=qat hp;exact⟨a1.trans p2,a3.trans (by simp[p4,Ef.up]),fun d hd=>(a4 d hd).trans (by simp[p1])⟩
 | stl b e es n xs r hw ho hown hp ha=>subst ha;obtain⟨a1,a2,a3,a4,_⟩:=qat hp;exact⟨a1.trans p2,a3.trans p4,fun d hd=>(a4 d hd).trans (by rw[p1])⟩
 | call f args x s1 q1 q2 hw ho how hown hc hle hx hcells hp ha hq=>subst ha;obtain⟨a1,a2,a3,a4,_⟩:=qat hp;exact⟨a1.trans p2,a3.trans (by show s1.nb=st.nb+(s1.nb-st.nb);omega),fun d hd=>(a4 d hd).trans (by simp[p1])⟩
def qg4 (sts:Nat→St) (efs:Nat→Ef) (hp:List (Nat×Nat×SV)):Nat→List (Nat×Nat×SV)
 | 0=>hp
 | n+1=>(efs n).lay (sts n).nb (qg4 sts efs hp n)
def qcV (sts:Nat→St) (efs:Nat→Ef) (hp:List (Nat×Nat×SV)) (listed:Array Bool):Nat→List (Nat×Nat×SV)
 | 0=>hp
 | n+1=>bif listed.getD n false then (efs n).lay (sts n).nb (qcV sts efs hp listed n) else qcV sts efs hp listed n
structure MTr (P:Program) (call:qbi) (lo:Nat) (ops:Array Oper) (hp:List (Nat×Nat×SV)) (n:Nat) (sts:Nat→St) (efs:Nat→Ef) (rds:Nat→List Nat):Prop where
 one:∀ j,j<n→∃ o q,ops[j]?=some o∧qCi P call lo ops o (sts j) (qg4 sts efs hp j)=some (sts (j+1),efs j,rds j,q)∧qba q
theorem qld {P:Program} {call:qbi} {lo:Nat} {ops:Array Oper}:∀ (l:List Oper) (k:Nat) (st:St) (hp:List (Nat×Nat×SV)) (H:MHead),mS P call lo ops l st hp=some H→(∀ j,l[j]?=ops[k+j]?)→qba H.q→
 ∃ (sts:Nat→St) (efs:Nat→Ef) (rds:Nat→List Nat),sts 0=st∧H.st=sts l.length∧H.hp=qg4 sts efs hp l.length∧(∀ j,j<l.length→H.bl[j]?=some ((efs j).blk (sts j).nb)∧H.rl[j]?=some (rds j))∧
  ∀ j,j<l.length→∃ o q,ops[k+j]?=some o∧qCi P call lo ops o (sts j) (qg4 sts efs hp j)=some (sts (j+1),efs j,rds j,q)∧qba q
 | [],k,st,hp,H,h,_,_=>by
  simp only[mS,Option.some.injEq] at h;subst h;exact⟨fun _=>st,fun _=>.no,fun _=>[],rfl,rfl,rfl,fun j hj=>absurd hj (Nat.not_lt_zero j),fun j hj=>absurd hj (Nat.not_lt_zero j)⟩
 | o::r,k,st,hp,H,h,hl,hq=>by
  have h0:ops[k]?=some o:=by simpa using (hl 0).symm
  unfold mS at h;split at h
  ·rename_i s ef rd q h1;split at h
   ·rename_i s' hp' q' bl rl h2;simp only[Option.some.injEq] at h;subst h;obtain⟨a1,a2⟩:=qav hq;obtain⟨sts,efs,rds,b2,b3,b4,b5,b6⟩:=qld r (k+1) s (ef.lay st.nb hp) _ h2 (fun j=>by have:=hl (j+1);simpa [Nat.add_assoc,Nat.add_comm 1 j] using this) a2
    have hL:∀ m,qg4 (fun j=>match j with | 0=>st | j+1=>sts j) (fun j=>match j with | 0=>ef | j+1=>efs j) hp (m+1)=qg4 sts efs (ef.lay st.nb hp) m:=by
     intro m
     induction m with
     | zero=>rfl
     | succ m ih=>rw[qg4,ih];rfl
    refine⟨fun j=>match j with | 0=>st | j+1=>sts j,fun j=>match j with | 0=>ef | j+1=>efs j,fun j=>match j with | 0=>rd | j+1=>rds j,rfl,by simpa using b3,?_,fun j hj=>?_,fun j hj=>?_⟩
    ·rw[List.length_cons,hL];exact b4
    ·cases j with
     | zero=>exact⟨rfl,rfl⟩
     | succ j=>simpa using b5 j (by simpa using hj)
    ·cases j with
     | zero=>exact⟨o,q,by simpa using h0,by rw[← b2] at h1;exact h1,a1⟩
     | succ j=>
      obtain⟨o',q',c1,c2,c3⟩:=b6 j (by simpa using hj);exact⟨o',q',by rw[show k+(j+1)=k+1+j by omega];exact c1,by rw[hL];exact c2,c3⟩
   ·cases h
  ·cases h
section
variable {P:Program} {call:qbi} {ops:Array Oper} {n lo:Nat} {sts:Nat→St} {efs:Nat→Ef} {rds:Nat→List Nat} {hp0:List (Nat×Nat×SV)} {W0:World} {β0:Bl} {bl rl:List (List Nat)}
theorem MTr.props (T:MTr P call lo ops hp0 n sts efs rds) {j:Nat} (hj:j<n):(sts (j+1)).n=(sts j).n∧(sts (j+1)).nb=(sts j).nb+(efs j).up∧
 ∀ d o,ops[j]?=some o→o.dst≠some d→qaZ (sts (j+1)).tm d=qaZ (sts j).tm d:=by
 obtain⟨o,q,ho,h1,_⟩:=T.one j hj;obtain⟨a1,a3,a4⟩:=(qoh h1).props;exact⟨a1,a3,fun d o' ho' hd=>by rw[ho] at ho';cases ho';exact a4 d hd⟩
theorem MTr.same (T:MTr P call lo ops hp0 n sts efs rds):∀ {j:Nat},j≤n→(sts j).n=(sts 0).n
 | 0,_=>rfl
 | j+1,h=>(T.props (j:=j) (by omega)).1.trans (T.same (j:=j) (by omega))
theorem MTr.nb (T:MTr P call lo ops hp0 n sts efs rds) {i:Nat}:∀ {j:Nat},i≤j→j≤n→(sts i).nb≤(sts j).nb
 | 0,h,_=>by
  have:i=0:=by omega
  subst this;exact Nat.le_refl _
 | j+1,h,hj=>by
  by_cases e:i=j+1
  ·subst e;exact Nat.le_refl _
  ·have h1:=T.nb (i:=i) (j:=j) (by omega) (by omega);obtain⟨_,a3,_⟩:=T.props (j:=j) (by omega);rw[a3];omega
theorem MTr.slot (T:MTr P call lo ops hp0 n sts efs rds) {i d:Nat}:∀ {j:Nat},i≤j→j≤n→(∀ k o,i≤k→k<j→ops[k]?=some o→o.dst≠some d)→qaZ (sts j).tm d=qaZ (sts i).tm d
 | 0,h,_,_=>by
  have:i=0:=by omega
  subst this;rfl
 | j+1,h,hj,hk=>by
  by_cases e:i=j+1
  ·subst e;rfl
  ·obtain⟨o,q,ho,_,_⟩:=T.one j (by omega);obtain⟨_,_,a4⟩:=T.props (j:=j) (by omega);rw[a4 d o ho (hk j o (by omega) (by omega) ho)]
   exact T.slot (by omega) (by omega) fun k o' h1 h2 h3=>hk k o' h1 (by omega) h3
theorem MTr.apart (T:MTr P call lo ops hp0 n sts efs rds) {i j b:Nat} (hi:i<n) (hj:j<n) (hne:j≠i) (h1:(sts j).nb≤b) (h2:b<(sts j).nb+(efs j).up) (h3:(sts i).nb≤b) (h4:b<(sts i).nb+(efs i).up):False:=by
 rcases Nat.lt_or_ge i j with hij | hij
 ·obtain⟨_,b3,_⟩:=T.props hi;have:=T.nb (i:=i+1) (j:=j) (by omega) (by omega);omega
 ·obtain⟨_,b3,_⟩:=T.props hj;have:=T.nb (i:=j+1) (j:=i) (by omega) (by omega);omega
theorem qkT {listed:Array Bool} {i:Nat}:∀ {m:Nat},m≤i→qcV sts efs hp0 (listed.setIfInBounds i true) m=qcV sts efs hp0 listed m
 | 0,_=>rfl
 | m+1,h=>by rw[qcV,qcV,qkT (by omega),getD_set_ne false (by omega)]
theorem qix (m:Nat):∀ k,qcV sts efs hp0 (Array.replicate m false) k=hp0
 | 0=>rfl
 | k+1=>by
  have:(Array.replicate m false).getD k false=false:=by
   rw[Array.getD_eq_getD_getElem?,Array.getElem?_replicate]
   split<;>rfl
  rw[qcV,this,cond_false,qix m k]
theorem qkH {listed:Array Bool} {i:Nat} (hun:listed.getD i false=false) (his:i<listed.size) {b o:Nat} :
 ∀ {m:Nat},i<m→(∀ k,i<k→k<m→listed.getD k false=true→∀ c,qb9 ((efs k).blk (sts k).nb) c=true→qb9 ((efs i).blk (sts i).nb) c=true→False)→
  qaj (qcV sts efs hp0 (listed.setIfInBounds i true) m) b o=((efs i).at (sts i).nb b o).getD (qaj (qcV sts efs hp0 listed m) b o)
 | 0,h,_=>by omega
 | m+1,h,hk=>by
  by_cases e:i=m
  ·subst e
   have h1:(listed.setIfInBounds i true).getD i false=true:=by rw[Array.getD_eq_getD_getElem?,Array.getElem?_setIfInBounds,if_pos rfl,if_pos his];rfl
   rw[qcV,qcV,qkT (Nat.le_refl _),h1,hun,cond_true,cond_false,Ef.lay_look]
  ·have ih:=qkH hun his (b:=b) (o:=o) (m:=m) (by omega) (fun k h1 h2=>hk k h1 (by omega));rw[qcV,qcV,getD_set_ne false (by omega)];cases hl:listed.getD m false
   ·rw[cond_false,cond_false];exact ih
   ·rw[cond_true,cond_true,Ef.lay_look,Ef.lay_look,ih]
    cases e1:(efs m).at (sts m).nb b o with
    | none=>rfl
    | some x=>
     cases e2:(efs i).at (sts i).nb b o with
     | none=>rfl
     | some y=>exact (hk m (by omega) (by omega) hl b (Ef.at_blk e1) (Ef.at_blk e2)).elim
theorem qkG {listed:Array Bool}:∀ {m:Nat},(∀ j,j<m→listed.getD j false=true)→qcV sts efs hp0 listed m=qg4 sts efs hp0 m
 | 0,_=>rfl
 | m+1,h=>by rw[qcV,qg4,h m (by omega),cond_true,qkG (fun j hj=>h j (by omega))]
theorem qnh {listed:Array Bool} {i b o:Nat} (hi:listed.getD i false=false) (h1:∀ k,k<i→k<n→qb9 ((efs k).blk (sts k).nb) b=true→listed.getD k false=true) (h2:∀ k,i<k→k<n→qb9 ((efs k).blk (sts k).nb) b=true→listed.getD k false=false) :
 ∀ {m:Nat},m≤n→qaj (qcV sts efs hp0 listed m) b o=qaj (qg4 sts efs hp0 (min m i)) b o
 | 0,_=>by rw[Nat.zero_min];rfl
 | m+1,hm=>by
  have ih:=qnh hi h1 h2 (o:=o) (m:=m) (by omega)
  have hs:qaj (qcV sts efs hp0 listed (m+1)) b o=if listed.getD m false=true then ((efs m).at (sts m).nb b o).getD (qaj (qcV sts efs hp0 listed m) b o) else qaj (qcV sts efs hp0 listed m) b o:=by
   rw[qcV];cases listed.getD m false
   ·rw[cond_false,if_neg (by decide)]
   ·rw[cond_true,if_pos rfl,Ef.lay_look]
  rw[hs];by_cases hlt:m<i
  ·rw[show min (m+1) i=m+1 by omega,qg4,Ef.lay_look,ih,show min m i=m by omega]
   cases e:(efs m).at (sts m).nb b o with
   | none=>split<;>rfl
   | some x=>rw[if_pos (h1 m hlt (by omega) (Ef.at_blk e))]
  ·rw[show min (m+1) i=i by omega,ih,show min m i=i by omega];by_cases e:m=i
   ·subst e;rw[hi,if_neg (by decide)]
   ·split
    ·rename_i hl
     cases e2:(efs m).at (sts m).nb b o with
     | none=>rfl
     | some x=>
      have:=h2 m (by omega) (by omega) (Ef.at_blk e2);rw[this] at hl;cases hl
    ·rfl
theorem qfX {R:List Nat} {c o:Nat} {s:SV} {hp:List (Nat×Nat×SV)} (h:qaj (atN R hp) c o=some s):qb9 R c=true∧qaj hp c o=some s:=by
 unfold atN at h;rw[qbW (p:=fun d=>qb9 R d)] at h;split at h
 ·rename_i e;exact⟨e,h⟩
 ·cases h
theorem qgB (h:qnY ops bl rl n=true) {i k:Nat} (hi:i<n) (hk:k<n) (hne:k≠i) {b:Nat} {l R:List Nat} (h1:rl[i]?=some R) (hb:qb9 R b=true) (h2:bl[k]?=some l) (hl:qb9 l b=true):(k<i→qdq ops i k=true)∧(i<k→qdq ops k i=true):=by
 have a1:=List.all_eq_true.1 h i (List.mem_range.2 hi);rw[h1] at a1;have a2:=List.all_eq_true.1 a1 k (List.mem_range.2 hk);rw[h2] at a2
 have a3:(l.any fun b=>qb9 R b)=true:=by
  obtain⟨c,hc,he⟩:=List.any_eq_true.1 hl;have:=Nat.eq_of_beq_eq_true he;subst this;exact List.any_eq_true.2 ⟨c,hc,hb⟩
 have a4:Nat.beq k i=false:=by
  cases e:Nat.beq k i
  ·rfl
  ·exact (hne (Nat.eq_of_beq_eq_true e)).elim
 simp only[a3,a4,Bool.not_true,Bool.false_or] at a2;cases hb:Nat.ble (k+1) i
 ·rw[hb,cond_false] at a2;exact⟨fun hlt=>(by rw[Nat.ble_eq_true_of_le (show k+1≤i by omega)] at hb;cases hb),fun _=>a2⟩
 ·rw[hb,cond_true] at a2;exact⟨fun _=>a2,fun hle=>(by have:=Nat.le_of_ble_eq_true hb;omega)⟩
structure MInv (n:Nat) (sts:Nat→St) (efs:Nat→Ef) (hp0:List (Nat×Nat×SV)) (W0:World) (lo:Nat) (β0:Bl) (listed:Array Bool) (β:Bl) (w:World):Prop where
 le:β0.le β
 h:HRel W0 lo β (qcV sts efs hp0 listed n) w
 dom:∀ b,β b≠none∨β.g b≠none→b<(sts 0).nb∨∃ j,j<n∧listed.getD j false=true∧(sts j).nb≤b∧b<(sts j).nb+(efs j).up
theorem MInv.fresh {listed:Array Bool} {β:Bl} {w:World} {i:Nat} (H:MInv n sts efs hp0 W0 lo β0 listed β w) (T:MTr P call lo ops hp0 n sts efs rds) (hin:i<n) (hil:listed.getD i true=false) (hup:(efs i).up=1):β (sts i).nb=none∧β.g (sts i).nb=none:=by
 have key:¬ (β (sts i).nb≠none∨β.g (sts i).nb≠none):=fun h=>by
  rcases H.dom _ h with e | ⟨j,a1,a2,a3,a4⟩
  ·have:=T.nb (i:=0) (j:=i) (by omega) (by omega);omega
  ·exact (T.apart hin a1 (fun e=>by subst e;rw[getD_both hil] at a2;cases a2) a3 a4 (Nat.le_refl _) (by omega)).elim
 constructor
 ·cases e:β (sts i).nb with
  | none=>rfl
  | some r=>exact (key (Or.inl (by rw[e];simp))).elim
 ·cases e:β.g (sts i).nb with
  | none=>rfl
  | some r=>exact (key (Or.inr (by rw[e];simp))).elim
theorem qxO {listed:Array Bool} {β:Bl} {a:Act} {i:Nat} {oi:Oper} (T:MTr P call lo ops hp0 n sts efs rds) (F:FInv ops n sts listed β a) (hd:qev ops n=true) (hlk:qdn ops n=true)
 (hr:i∈Region.ready .any ops listed) (hin:i<n) (hoi:ops[i]?=some oi):∀ d,d∈oi.looksAt ops→(qaZ (sts i).tm d).is β (a.tmps.getD d undef):=by
 intro d hdl;obtain⟨hun,oi',hoi',hall⟩:=mem_ready.1 hr;rw[hoi] at hoi';cases hoi';by_cases hex:∃ k o,k<n∧listed.getD k false=true∧ops[k]?=some o∧o.dst=some d
 ·obtain⟨k,o,hk,hkl,ho,hdst⟩:=hex
  have hki:k<i:=by
   rcases qcD hlk hk hin ho hoi hdst hdl with e | ⟨e,_⟩ | ⟨e,hw⟩
   ·subst e;rw[getD_both hun] at hkl;cases hkl
   ·exact e
   ·obtain⟨ok,hok,e',he',hb',hon⟩:=Region.waitsFor_spec hw;have:=F.hi.closed k ok hok hkl e' he' hb';rw[hon,getD_both hun] at this;cases this
  have:=F.done k o hk hkl ho d hdst
  rwa [T.slot (i:=k+1) (j:=i) (d:=d) (by omega) (by omega) (fun m om h1 h2 h3=>qcz hd hk (by omega) (by omega) ho h3 hdst)]
 ·have hno:∀ k o,k<n→listed.getD k false=true→ops[k]?=some o→o.dst≠some d:=fun k o h1 h2 h3 h4=>hex ⟨k,o,h1,h2,h3,h4⟩
  have:=F.old d hno
  rwa [T.slot (i:=0) (j:=i) (d:=d) (by omega) (by omega) (fun m om _ h2 h3 h4=>by
   rcases qcD hlk (show m<n by omega) hin h3 hoi h4 hdl with e | ⟨_,hw⟩ | ⟨e,_⟩
   ·omega
   ·obtain⟨oi',hoi',e',he',hb',hon⟩:=Region.waitsFor_spec hw;rw[hoi] at hoi';cases hoi';have:=hall e' he' hb';rw[hon] at this;exact hno m om (by omega) this h3 h4
   ·omega)]
theorem qBA (hcall:qb4 P call) {Q:Exit→Act→World→Prop} {listed:Array Bool} {β:Bl} {a:Act} {w:World} {i:Nat} {K:Act→World→Prop} (T:MTr P call lo ops hp0 n sts efs rds) (hlo:lo≤(sts 0).nb) (F:FInv ops n sts listed β a) (H:MInv n sts efs hp0 W0 lo β0 listed β w)
 (hd:qev ops n=true) (hlk:qdn ops n=true) (hbl:∀ j,j<n→bl[j]?=some ((efs j).blk (sts j).nb)) (hrl:∀ j,j<n→rl[j]?=some (rds j)) (hgk:qnY ops bl rl n=true) (hbk:qga ops bl n=true) (hr:i∈Region.ready .any ops listed) (hin:i<n)
 (hK:∀ β' a' w',FInv ops n sts (listed.setIfInBounds i true) β' a'→MInv n sts efs hp0 W0 lo β0 (listed.setIfInBounds i true) β' w'→K a' w'):wpOp P ops Q i K a w:=by
 obtain⟨hun,oi,hoi,hall⟩:=mem_ready.1 hr;obtain⟨o,q,ho,h1,hq⟩:=T.one i hin;rw[hoi] at ho;cases ho;have hls:=qxO T F hd hlk hr hin hoi
 have his:i<listed.size:=by rw[F.hi.size];exact (Array.getElem?_eq_some_iff.1 hoi).1
 have hunf:listed.getD i false=false:=getD_both hun
 have hev:∀ x∈oi.op.operands,(({ (qaV oi.op (sts i)).2 with hp:=atN (rds i) (qg4 sts efs hp0 i) }:St).ev x).is β (a.eval x):=by
  intro x hx
  cases x with
  | tmp t=>
   have:=hls t (by unfold Oper.looksAt;exact List.mem_append_left _ (List.mem_filterMap.2 ⟨.tmp t,by simpa using hx,rfl⟩))
   show (qaZ (qaV oi.op (sts i)).2.tm t).is β (a.tmps.getD t undef)
   rw[(qbO (op:=oi.op) (st:=sts i) rfl).1];exact this
  | const v=>rfl
  | global g=>rfl
  | func f=>rfl
 have s1:=T.same (j:=i) (by omega);obtain⟨p1,p2,p3,p4⟩:=qbO (op:=oi.op) (st:=sts i) rfl;have hloi:lo≤(sts i).nb:=Nat.le_trans hlo (T.nb (i:=0) (j:=i) (by omega) (by omega))
 have hat:∀ b o,qb9 (rds i) b=true→qaj (qcV sts efs hp0 listed n) b o=qaj (qg4 sts efs hp0 i) b o:=by
  intro b o hb;rw[qnh (n:=n) (i:=i) hunf (fun k hk hkn hkb=>?_) (fun k hk hkn hkb=>?_) (Nat.le_refl n),show min n i=i by omega]
  ·exact qdU F.hi ((qgB hgk hin hkn (by omega) (hrl i hin) hb (hbl k hkn) hkb).1 hk) hoi hall
  ·cases hl:listed.getD k false
   ·rfl
   ·obtain⟨ok,_,hok,_⟩:=T.one k hkn;have:=qdU F.hi ((qgB hgk hin hkn (by omega) (hrl i hin) hb (hbl k hkn) hkb).2 hk) hok (fun e he hb=>F.hi.closed k ok hok hl e he hb);rw[hunf] at this;cases this
 have HG:HRel W0 lo β (atN (rds i) (qg4 sts efs hp0 i)) w:=H.h.imp fun c o s e=>by
  obtain⟨e1,e2⟩:=qfX e
  show qaj _ _ _=_
  rw[hat c o e1];exact e2
 have hlook:∀ b o,qaj (qcV sts efs hp0 (listed.setIfInBounds i true) n) b o=((efs i).at (sts i).nb b o).getD (qaj (qcV sts efs hp0 listed n) b o):=fun b o=>by
  refine qkH hunf his hin fun k h1 h2 hkl c hc hic=>?_
  obtain⟨ok,hok,e,he,hb,hon⟩:=Region.waitsFor_spec (qcq hbk h1 h2 (b:=c) (hbl i hin) hic (hbl k h2) hc);have:=F.hi.closed k ok hok hkl e he hb;rw[hon,hunf] at this;cases this
 have hli:(listed.setIfInBounds i true).getD i false=true:=by
  rw[Array.getD_eq_getD_getElem?,Array.getElem?_setIfInBounds,if_pos rfl,if_pos his];rfl
 have hdom:∀ {β':Bl},(∀ b,β' b≠none∨β'.g b≠none→(β b≠none∨β.g b≠none)∨((sts i).nb≤b∧b<(sts i).nb+(efs i).up))→∀ b,β' b≠none∨β'.g b≠none→b<(sts 0).nb∨∃ j,j<n∧(listed.setIfInBounds i true).getD j false=true∧(sts j).nb≤b∧b<(sts j).nb+(efs j).up:=fun h b e=>by
  rcases h b e with e | e
  ·rcases H.dom b e with e | ⟨j,a1,a2,a3⟩
   ·exact Or.inl e
   ·exact Or.inr ⟨j,a1,getD_set_true a2,a3⟩
  ·exact Or.inr ⟨i,hin,hli,e⟩
 have stay:∀ {w'},efs i=.no→Gr w w'→MInv n sts efs hp0 W0 lo β0 (listed.setIfInBounds i true) β w':=fun hn hg=>
  ⟨H.le,(H.h.gr_mono hg).imp fun b o s e=>(by rw[hlook,hn] at e;exact e),hdom fun b e=>Or.inl e⟩
 unfold wpOp;simp only[hoi]
 cases qoh h1 with
 | no hw hp ha=>
  rw[qaE hw hls,if_neg (by decide)];obtain⟨_,_,_,_,a5⟩:=qat hp;exact hK β _ _ (F.step hd hr hin hoi (Bl.le_refl _) (show (SV.pv undef).is β undef from rfl) fun d hdd=>⟨(a5 d hdd).1,by rw[← s1];exact (a5 d hdd).2⟩) (stay ha (Gr.refl w))
 | val x hw hop hp ha=>
  rw[qaE hw hls,if_pos rfl];obtain⟨_,_,_,_,a5⟩:=qat hp;obtain⟨u,hu,hrun⟩:=qbA hop hq HG hev;refine Or.inl ?_;unfold Oper.wp;rw[hrun,Oper.upon_value];exact hK β _ _ (F.step hd hr hin hoi (Bl.le_refl _) hu fun d hdd=>⟨(a5 d hdd).1,by rw[← s1,← p2];exact (a5 d hdd).2⟩) (stay ha (Gr.refl w))
 | new t cells len hw hop hp ha=>
  rw[qaE hw hls,if_pos rfl];obtain⟨_,_,_,_,a5⟩:=qat hp;obtain⟨us,hu,hone,hrun⟩:=qbA hop hq HG hev;refine Or.inl ?_;unfold Oper.wp;rw[hrun,Oper.upon_value];obtain⟨hn,hn2⟩:=H.fresh T hin hun (by rw[ha];rfl);have hle:β.le (β.set (sts i).nb w.heap.size):=Bl.le_set hn hn2
  have hx:(qtO (qaV oi.op (sts i)).2.nb len).is (β.set (sts i).nb w.heap.size) (qsm w.heap.size len):=by
   rw[p4];cases len
   ·exact⟨_,Bl.set_same _ _ _,rfl⟩
   ·exact⟨_,Bl.set_same _ _ _,rfl⟩
  refine hK _ _ _ (F.step hd hr hin hoi hle hx fun d hdd=>⟨(a5 d hdd).1,by rw[← s1,← p2];exact (a5 d hdd).2⟩) ⟨Bl.le_trans H.le hle,(H.h.alloc hn hn2 hu hone).imp fun b o s e=>?_,hdom fun b e=>?_⟩
  ·rw[hlook,ha] at e;simp only[Ef.at] at e;split at e
   ·rename_i hb;subst hb
    cases hc:cells[o]? with
    | none=>rw[hc] at e;exact Or.inl e
    | some y=>rw[hc] at e;exact Or.inr ⟨rfl,e⟩
   ·exact Or.inl e
  ·by_cases hb:b=(sts i).nb
   ·exact Or.inr (by rw[ha];exact⟨Nat.le_of_eq hb.symm,by rw[hb];exact Nat.lt_succ_self _⟩)
   ·refine Or.inl ?_;unfold Bl.set at e;simpa [hb] using e
 | sto b i' cells hw hop hlo' hp ha=>
  rw[qaE hw hls,if_pos rfl];obtain⟨_,_,_,_,a5⟩:=qat hp;obtain⟨r,us,hr',hu,hone,ht,hrun⟩:=qbA hop hq HG hev;refine Or.inl ?_;unfold Oper.wp;rw[hrun,Oper.upon_skip];refine hK β _ _ (F.step hd hr hin hoi (Bl.le_refl _) (show (SV.pv undef).is β undef from rfl) fun d hdd=>⟨(a5 d hdd).1,by rw[← s1,← p2];exact (a5 d hdd).2⟩) ⟨H.le,(H.h.store hr' hlo' hu hone ht).imp fun c o s e=>?_,hdom fun b e=>Or.inl e⟩;rw[hlook,ha] at e;have:=@Ef.lay_look (sts i).nb (.sto b i' cells) (qcV sts efs hp0 listed n) c o;rw[← this] at e;exact e
 | app old e es k ys hw hop hown hp ha=>
  rw[qaE hw hls,if_pos rfl];obtain⟨_,_,_,_,a5⟩:=qat hp
  have hold:∀ b,old=some b→lo≤b∧∃ R0,qcT (atN (rds i) (qg4 sts efs hp0 i)) b=some R0:=by
   intro b e1;subst e1;simp only[qhO,Bool.and_eq_true] at hown;exact⟨Nat.le_of_ble_eq_true hown.1,Option.isSome_iff_exists.1 hown.2⟩
  obtain⟨u,w',row,hrun,hsl,hU,hrow,hownr,hone,hblk⟩:=qbA hop hq HG hev fun b e=>(hold b e).1
  obtain⟨hn,hn2⟩:=H.fresh T hin hun (by rw[ha];rfl);refine Or.inl ?_;unfold Oper.wp;rw[hrun,Oper.upon_value];have hle:β.le (β.setG (sts i).nb u):=Bl.le_setG hn hn2
  have hx:(SV.ls (qaV oi.op (sts i)).2.nb k).is (β.setG (sts i).nb u) u:=by rw[p4];exact⟨Bl.setG_same _ _ _,hsl⟩
  refine hK _ _ _ (F.step hd hr hin hoi hle hx fun d hdd=>⟨(a5 d hdd).1,by rw[← s1,← p2];exact (a5 d hdd).2⟩) ⟨Bl.le_trans H.le hle,?_,hdom fun b e=>?_⟩
  ·have hcur:∀ b R0,qcT (atN (rds i) (qg4 sts efs hp0 i)) b=some R0→qaj (qcV sts efs hp0 listed n) b 0=some (.row R0.e R0.es R0.n R0.xs):=fun b R0 h=>by
    obtain⟨e1,e2⟩:=qfX (qaO h);rw[hat b 0 e1];exact e2
   have hr':row=none∨∃ b u o e es n' xs,old=some b∧lo≤b∧β.g b=some u∧row=u.ownBlock∧qaj (qcV sts efs hp0 listed n) b o=some (.row e es n' xs):=by
    rcases hrow with e1 | ⟨b,v,e1,e2,e3⟩
    ·exact Or.inl e1
    ·obtain⟨h1,R0,h2⟩:=hold b e1;exact Or.inr ⟨b,v,0,_,_,_,_,e1,h1,e2,e3,hcur b R0 h2⟩
   have H1:=(H.h.upd (Hd:=fun c o s=>qaj (qcn old (qcV sts efs hp0 listed n)) c o=some s) hU (bo:=old) hr' (fun c o s hc=>⟨(qaD hc).1,fun _ e=>(qaD hc).2 e⟩)).setG hn hn2 u;refine H1.addRow hloi (Bl.setG_same _ _ _) hownr hone (fun c r hc hk=>?_) (fun c o e es n' xs v hc hl hv k hk hk'=>?_) (fun c o s hc=>?_)
   ·have hc':β c=some r:=hc
    rcases hblk r hk with e1 | e1
    ·rcases hr' with e2 | ⟨b,v,o,_,_,_,_,_,f2,f3,f4,f5⟩
     ·rw[e2] at e1;cases e1
     ·obtain⟨v',g1,g2⟩:=H.h.rows _ _ _ _ _ _ f5;rw[f3] at g1;cases g1;exact g2.apart f2 c r hc' (by rw[← f4];exact e1)
    ·have:=H.h.live c r hc';omega
   ·obtain⟨d1,d2⟩:=qaD hc;obtain⟨v',g1,g2⟩:=H.h.rows _ _ _ _ _ _ d1
    have hvv:β.g c=some v:=by
     have:=hle.g g1;rw[hv] at this;cases this;exact g1
    rw[hvv] at g1;cases g1
    rcases hblk k hk with e1 | e1
    ·rcases hr' with e2 | ⟨b,v2,o,_,_,_,_,f1,f2,f3,f4,f5⟩
     ·rw[e2] at e1;cases e1
     ·exact H.h.rinj _ _ _ _ _ _ _ _ _ _ _ _ v2 v f5 d1 f2 hl (fun e=>d2 (by rw[f1,e])) f3 hvv k (by rw[← f4];exact e1) hk'
    ·have:=(qay (g2.own hl) k hk').2;omega
   ·have hc':qaj (qcV sts efs hp0 (listed.setIfInBounds i true) n) c o=some s:=hc;rw[hlook,ha] at hc';have e0:=@Ef.lay_look (sts i).nb (.app old e es k ys) (qcV sts efs hp0 listed n) c o;rw[← e0] at hc';simp only[Ef.lay] at hc';rw[qao] at hc';split at hc'
    ·rename_i e1;cases hc';exact Or.inl ⟨e1.1.symm,e1.2.symm,rfl⟩
    ·refine Or.inr ⟨hc',fun hrw e=>?_⟩
     cases s<;>try cases hrw
     ·obtain⟨v',g1,_⟩:=H.h.rows _ _ _ _ _ _ (qaD hc').1;rw[e,hn2] at g1;cases g1
     ·obtain⟨v',g1,_⟩:=H.h.maps _ _ _ (qaD hc').1;rw[e,hn] at g1;cases g1
  ·by_cases hb:b=(sts i).nb
   ·exact Or.inr (by rw[ha];exact⟨Nat.le_of_eq hb.symm,by rw[hb];exact Nat.lt_succ_self _⟩)
   ·refine Or.inl ?_;unfold Bl.setG at e;simpa [hb] using e
 | stl b e es k ys rv hw hop hown hp ha=>
  rw[qaE hw hls,if_pos rfl];obtain⟨_,_,_,_,a5⟩:=qat hp;simp only[qhO,Bool.and_eq_true] at hown;have hlo':=Nat.le_of_ble_eq_true hown.1;obtain⟨R0,hR0⟩:=Option.isSome_iff_exists.1 hown.2;obtain⟨u,w',hg,hrun,hU,hownr,hone⟩:=qbA hop hq HG hev hlo'
  have hlk':qaj (qcV sts efs hp0 listed n) b 0=some (.row R0.e R0.es R0.n R0.xs):=by
   obtain⟨e1,e2⟩:=qfX (qaO hR0);rw[hat b 0 e1];exact e2
  obtain⟨u',g1,g2⟩:=H.h.rows _ _ _ _ _ _ hlk';rw[hg] at g1;cases g1;refine Or.inl ?_;unfold Oper.wp
  suffices key:K (a.put oi.dst rv) w' by
   rcases hrun with ⟨rfl,hrun⟩ | hrun
   ·rw[hrun,Oper.upon_skip];exact key
   ·rw[hrun,Oper.upon_value];exact key
  refine hK _ _ _ (F.step hd hr hin hoi (Bl.le_refl _) (show (SV.pv rv).is β rv from rfl) fun d hdd=>⟨(a5 d hdd).1,by rw[← s1,← p2];exact (a5 d hdd).2⟩) ⟨H.le,?_,hdom fun b e=>Or.inl e⟩;have H1:=H.h.upd (Hd:=fun c o s=>qaj (qcn (some b) (qcV sts efs hp0 listed n)) c o=some s) hU (bo:=some b) (Or.inr ⟨b,u,0,_,_,_,_,rfl,hlo',hg,rfl,hlk'⟩) (fun c o s hc=>⟨(qaD hc).1,fun _ e=>(qaD hc).2 e⟩);refine H1.addRow hlo' hg hownr hone (g2.apart hlo') (fun c o e es n xs v hc hl hv k hk hk'=>?_) (fun c o s hc=>?_)
  ·obtain⟨d1,d2⟩:=qaD hc;exact H.h.rinj _ _ _ _ _ _ _ _ _ _ _ _ u v hlk' d1 hlo' hl (fun e=>d2 (by rw[e])) hg hv k hk hk'
  ·have hc':qaj (qcV sts efs hp0 (listed.setIfInBounds i true) n) c o=some s:=hc;rw[hlook,ha] at hc';have e0:=@Ef.lay_look (sts i).nb (.stl b e es k ys) (qcV sts efs hp0 listed n) c o;rw[← e0] at hc';simp only[Ef.lay] at hc';rw[qao] at hc';split at hc'
   ·rename_i e1;cases hc';exact Or.inl ⟨e1.1.symm,e1.2.symm,rfl⟩
   ·exact Or.inr ⟨hc',fun _ e=>(qaD hc').2 (by rw[e])⟩
 | call f args x s' q1 q2 hw hop how hown hc hnb hxn hcells hp ha hqq=>
  rw[qaE hw hls,if_pos rfl];obtain⟨_,_,_,_,a5⟩:=qat hp;subst hqq;obtain⟨hq1,hq2⟩:=qav hq;obtain⟨us,hu,hrun⟩:=qbA hop hq1 HG hev;refine Or.inl ?_;unfold Oper.wp;rw[hrun,Oper.upon_enter];obtain⟨e1,e2,e4⟩:=hcall hc hq2
  have Hb:HRel w (sts i).nb (β.cut (sts i).nb) (atN (rds i) (qg4 sts efs hp0 i)) w:=HG.cut fun b o s hs=>by
   have:=List.all_eq_true.1 hown _ (qbh hs);simp only[Bool.and_eq_true] at this;exact⟨Nat.le_of_ble_eq_true this.1,this.2⟩
  refine (e4 w (β.cut (sts i).nb) us w Hb (by show (β.cut (sts i).nb).dom (qaV oi.op (sts i)).2.nb;rw[p4];exact Bl.cut_dom _ _) (by show (sts i).nb≤(qaV oi.op (sts i)).2.nb;rw[p4];exact Nat.le_refl _) (SV.own_isl (Bl.cut_sub β _) how hu)).mono fun e w' hh=>?_
  obtain⟨v,γ,rfl,hleγ,hx,hH,_,_⟩:=hh
  have hk:(sts i).nb+(s'.nb-(sts i).nb)=s'.nb:=by omega
  have hup:(efs i).up=s'.nb-(sts i).nb:=by rw[ha];rfl
  have hfr:∀ b,(sts i).nb≤b→b<(sts i).nb+(s'.nb-(sts i).nb)→β b=none∧β.g b=none:=fun b h1 h2=>by
   have key:¬ (β b≠none∨β.g b≠none):=fun h=>by
    rcases H.dom _ h with e | ⟨j,a1,a2,a3,a4⟩
    ·have:=T.nb (i:=0) (j:=i) (by omega) (by omega);omega
    ·exact (T.apart hin a1 (fun e=>by subst e;rw[hunf] at a2;cases a2) a3 a4 h1 (by omega)).elim
   constructor
   ·cases e:β b with
    | none=>rfl
    | some r=>exact (key (Or.inl (by rw[e];simp))).elim
   ·cases e:β.g b with
    | none=>rfl
    | some r=>exact (key (Or.inr (by rw[e];simp))).elim
  have hle:β.le (β.mixN γ (sts i).nb (s'.nb-(sts i).nb)):=Bl.mixN_le hfr
  have hx':x.is (β.mixN γ (sts i).nb (s'.nb-(sts i).nb)) v:=SV.inP_is (fun c hc=>by
   rcases (Bool.or_eq_true _ _).mp hc with hc | hc
   ·exact Bl.mixN_in _ _ _ _ c (qrC hc).1 (by rw[hk];exact (qrC hc).2)
   ·have hd:=nmB_def (SV.own_isl (Bl.cut_sub β _) how hu) c hc;obtain⟨g1,g2⟩:=hleγ c (Or.inr hd);refine⟨fun r e=>?_,fun u e=>?_⟩
    ·rw[g1] at e;unfold Bl.cut at e;simp only at e;split at e
     ·exact hle.f e
     ·cases e
    ·rw[g2] at e;unfold Bl.cut at e;simp only at e;split at e
     ·exact hle.g e
     ·cases e) hxn hx
  refine hK _ _ _ (F.step hd hr hin hoi hle hx' fun d hdd=>⟨(a5 d hdd).1,by rw[← s1,← p2];exact (a5 d hdd).2⟩) ⟨Bl.le_trans H.le hle,?_,hdom fun b e=>?_⟩
  ·refine H.h.join hloi hfr hH (fun b o s h1 h2 hs=>?_) (fun b o s hs=>?_)
   ·have hm:=List.all_eq_true.1 hcells _ (qbh hs);rw[Nat.ble_eq_true_of_le h1,Nat.ble_eq_true_of_le (show b+1≤s'.nb by omega)] at hm;simp only[Bool.and_true,Bool.not_true,Bool.false_or,Bool.or_eq_true] at hm;rw[hk];exact hm
   ·have hs':qaj (qcV sts efs hp0 (listed.setIfInBounds i true) n) b o=some s:=hs;rw[hlook,ha] at hs';simp only[Ef.at] at hs';split at hs'
    ·rename_i hb
     cases e1:qaj s'.hp b o with
     | none=>rw[e1] at hs';exact Or.inr hs'
     | some y=>rw[e1] at hs';exact Or.inl ⟨hb.1,hb.2,hs'⟩
    ·exact Or.inr hs'
  ·by_cases hb:(sts i).nb≤b∧b<(sts i).nb+(s'.nb-(sts i).nb)
   ·exact Or.inr ⟨hb.1,by omega⟩
   ·refine Or.inl ?_;unfold Bl.mixN at e;simpa [hb] using e
theorem qHp {listed:Array Bool} {β:Bl} {a:Act} {w:World} (T:MTr P call lo ops hp0 n sts efs rds) (F:FInv ops n sts listed β a) (H:MInv n sts efs hp0 W0 lo β0 listed β w) (hlo:lo≤(sts 0).nb) (hd:qev ops n=true)
 (hall:∀ j,j<n→listed.getD j false=true):Rel W0 lo β { sts n with hp:=qg4 sts efs hp0 n } a w:=by
 have s1:=T.same (j:=n) (Nat.le_refl _);have h0n:=T.nb (i:=0) (j:=n) (by omega) (by omega);refine⟨⟨by rw[F.size];exact s1.symm,F.defers,fun d=>?_⟩,(by have:=H.h;rw[qkG hall] at this;exact this),fun b hb=>?_,Nat.le_trans hlo h0n⟩
 ·show (qaZ (sts n).tm d).is β _
  by_cases hex:∃ k o,k<n∧ops[k]?=some o∧o.dst=some d
  ·obtain⟨k,o,hk,ho,hdst⟩:=hex;rw[T.slot (i:=k+1) (j:=n) (d:=d) (by omega) (by omega) (fun m om h1 h2 h3=>qcz hd hk (by omega) (by omega) ho h3 hdst)];exact F.done k o hk (hall k hk) ho d hdst
  ·rw[T.slot (i:=0) (j:=n) (d:=d) (by omega) (by omega) (fun m om _ h2 h3 h4=>hex ⟨m,om,h2,h3,h4⟩)]
   exact F.old d fun k o h1 _ h3 h4=>hex ⟨k,o,h1,h3,h4⟩
 ·have hb':(sts n).nb≤b:=hb
  have key:¬ (β b≠none∨β.g b≠none):=fun h=>by
   rcases H.dom b h with e | ⟨j,h1,_,h3,h4⟩
   ·omega
   ·obtain⟨_,b3,_⟩:=T.props h1;have:=T.nb (i:=j+1) (j:=n) (by omega) (by omega);omega
  constructor
  ·cases e:β b with
   | none=>rfl
   | some r=>exact (key (Or.inl (by rw[e];simp))).elim
  ·cases e:β.g b with
   | none=>rfl
   | some r=>exact (key (Or.inr (by rw[e];simp))).elim
theorem qA6 (hcall:qb4 P call) {Q:Exit→Act→World→Prop} (T:MTr P call lo ops hp0 n sts efs rds) (hn:n=ops.size) (hlo:lo≤(sts 0).nb) (he:qgG ops n=true) (hd:qev ops n=true) (hlk:qdn ops n=true) (hbl:∀ j,j<n→bl[j]?=some ((efs j).blk (sts j).nb)) (hrl:∀ j,j<n→rl[j]?=some (rds j)) (hgk:qnY ops bl rl n=true) (hbk:qga ops bl n=true)
 (hfin:∀ β a w,β0.le β→Rel W0 lo β { sts n with hp:=qg4 sts efs hp0 n } a w→Q .normal a w) :
 ∀ (m:Nat) (listed:Array Bool) (β:Bl) (a:Act) (w:World),cnt listed n=m→FInv ops n sts listed β a→MInv n sts efs hp0 W0 lo β0 listed β w→wpAny P .any ops Q m listed a w:=by
 intro m
 induction m with
 | zero=>
  intro listed β a w hc F H
  have hall:∀ j,j<n→listed.getD j false=true:=by
   intro j hj;have:=qe9 hc j hj
   have hs:j<listed.size:=by rw[F.hi.size];omega
   rw[Array.getD_eq_getD_getElem?,Array.getElem?_eq_getElem hs] at this ⊢;simpa using this
  refine⟨?_,hfin β a w H.le (qHp T F H hlo hd hall)⟩
  cases hr:Region.ready .any ops listed with
  | nil=>rfl
  | cons i r=>
   have hi:i∈Region.ready .any ops listed:=by rw[hr];simp
   obtain⟨hun,oi,hoi,_⟩:=mem_ready.1 hi;have hi':=(Array.getElem?_eq_some_iff.1 hoi).1;have:=hall i (by omega);rw[getD_both hun] at this;cases this
 | succ m ih=>
  intro listed β a w hc F H;obtain⟨j,hj,hun,hless⟩:=qjt (listed:=listed) (n:=n) (by omega)
  have hready:j∈Region.ready .any ops listed:=by
   obtain⟨o,q,ho,_,_⟩:=T.one j hj;refine mem_ready.2 ⟨hun,o,ho,fun e hee hb=>?_⟩;have hlt:=qf2 he hj ho e hee hb;have:=hless e.on hlt
   have hs:e.on<listed.size:=by rw[F.hi.size];omega
   rw[Array.getD_eq_getD_getElem?,Array.getElem?_eq_getElem hs] at this ⊢;simpa using this
  refine⟨fun h0=>(by rw[h0] at hready;cases hready),fun i hi=>?_⟩
  have hin:i<n:=by
   obtain⟨_,oi,hoi,_⟩:=mem_ready.1 hi;have:=(Array.getElem?_eq_some_iff.1 hoi).1;omega
  refine qBA hcall T hlo F H hd hlk hbl hrl hgk hbk hi hin fun β' a' w' F' H'=>ih _ β' a' w' ?_ F' H'
  have:=qjI (listed:=listed) (i:=i) (mem_ready.1 hi).1 (n:=n) hin;omega
theorem qz8 (hcall:qb4 P call) {Q:Exit→Act→World→Prop} {st st':St} {q:List Prop} {β:Bl} {a:Act} {w:World} (h:mdS P call lo ops st=some (st',q)) (hq:qba q) (R:Rel W0 lo β st a w) (hQ:∀ β' a' w',β.le β'→Rel W0 lo β' st' a' w'→Q .normal a' w') :
 wpAny P .any ops Q ops.size (Array.replicate ops.size false) a w:=by
 unfold mdS at h;split at h
 ·rename_i s hp q1 bl rl hm;cases hb:(Region.noSelect ops&&qgG ops ops.size&&qev ops ops.size&&qdn ops ops.size&&qga ops bl ops.size&&qnY ops bl rl ops.size)
  ·rw[hb] at h;cases h
  ·rw[hb,cond_true] at h;simp only[Option.some.injEq,Prod.mk.injEq] at h;obtain⟨rfl,rfl⟩:=h;simp only[Bool.and_eq_true] at hb;obtain⟨⟨⟨⟨⟨c1,c2⟩,c3⟩,c4⟩,c5⟩,c6⟩:=hb;obtain⟨sts,efs,rds,b2,b3,b4,b5,b6⟩:=qld ops.toList 0 st st.hp _ hm (by simp) hq
   have hl:ops.toList.length=ops.size:=by simp
   rw[hl] at b3 b4 b5 b6;simp only at b3 b4 b5;have T:MTr P call lo ops st.hp ops.size sts efs rds:=⟨fun j hj=>by simpa using b6 j hj⟩
   have F:FInv ops ops.size sts (Array.replicate ops.size false) β a:=by
    refine⟨⟨by simp,fun j oj _ hl=>(by rw[getD_replicate_false] at hl;cases hl),fun t _ ht=>?_⟩,by rw[b2];exact R.t.size,R.t.defers,fun j o _ hl=>(by rw[getD_replicate_false] at hl;cases hl),fun d _=>by rw[b2];exact R.t.tmps d⟩;rw[Array.getD_eq_getD_getElem?,Array.getElem?_replicate,if_pos ht];rfl
   have H:MInv ops.size sts efs st.hp W0 lo β (Array.replicate ops.size false) β w:=by
    refine⟨Bl.le_refl _,by rw[qix];exact R.h,fun b e=>?_⟩;rw[b2]
    rcases Nat.lt_or_ge b st.nb with h | h
    ·exact Or.inl h
    ·obtain⟨d1,d2⟩:=R.dom b h
     rcases e with e | e
     ·exact (e d1).elim
     ·exact (e d2).elim
   refine qA6 hcall (β0:=β) (bl:=bl) (rl:=rl) T rfl (by rw[b2];exact R.lo) c2 c3 c4 (fun j hj=>(b5 j hj).1) (fun j hj=>(b5 j hj).2) c6 c5 (fun β' a' w' hle R'=>hQ β' a' w' hle ?_) ops.size _ β a w (qg8 _ _ (Nat.le_refl _)) F H;subst b3 b4;exact R'
 ·cases h
end
end Go.Proofs.YtkckcgpmnipnaaaGreat
