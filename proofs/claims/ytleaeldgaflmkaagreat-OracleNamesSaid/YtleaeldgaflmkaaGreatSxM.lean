/-
  A region that draws its order and makes lists: one walk of the text's order serves every order. Conditions: none.
-/
import Derived.Test.YtleaeldgaflmkaaGreatSxL
namespace Go.Proofs.YtleaeldgaflmkaaGreat
set_option maxRecDepth 100000
open Go.RowKit
inductive Ef where
 | no
 | new (cells:List SV)
 | sto (b o:Nat) (cells:List SV)
 | app (old:Option Nat) (e:TypeId) (es n:Nat) (xs:List Value)
 | appd (old:Option Nat) (e:TypeId) (es n:Nat) (ds:List Dn)
 | many (k:Nat) (cells:List (Nat×Nat×SV))
def Ef.up:Ef→Nat
 | .new _=>1
 | .app ..=>1
 | .appd ..=>1
 | .many k _=>k
 | _=>0
def Ef.blk (n:Nat):Ef→List Nat
 | .no=>[]
 | .new _=>[n]
 | .sto b _ _=>[b]
 | .app none _ _ _ _=>[n]
 | .app (some b) _ _ _ _=>[n,b]
 | .appd none _ _ _ _=>[n]
 | .appd (some b) _ _ _ _=>[n,b]
 | .many k _=>qgi n k
def Ef.lay (n:Nat) (hp:List (Nat×Nat×SV)):Ef→List (Nat×Nat×SV)
 | .no=>hp
 | .new cells=>qaV n 0 cells hp
 | .sto b o cells=>qaV b o cells hp
 | .app old e es k xs=>(n,0,.row e es k xs)::qaT old hp
 | .appd old e es k ds=>(n,0,.drow e es k ds)::qaT old hp
 | .many k cells=>(cells.filter fun e=>Nat.ble n e.1&&Nat.ble (e.1+1) (n+k))++hp
def Ef.at (n:Nat) (b o:Nat):Ef→Option (Option SV)
 | .no=>none
 | .new cells=>if n=b then (cells[o]?).map some else none
 | .sto c i cells=>if c=b∧i≤o then (cells[o-i]?).map some else none
 | .app old e es k xs=>if n=b∧o=0 then some (some (.row e es k xs)) else if old=some b then some none else none
 | .appd old e es k ds=>if n=b∧o=0 then some (some (.drow e es k ds)) else if old=some b then some none else none
 | .many k cells=>if n≤b∧b<n+k then (qae cells b o).map some else none
def nm0:S0→List Nat
 | .pv _=>[]
 | .pp b _=>[b]
 | .ps b _ _ _=>[b]
 | .ls b _=>[b]
 | .lq b _ _ _=>[b]
 | .lp b _=>[b]
 | .mp b=>[b]
 | .dv ..=>[]
def nmM:SV→List Nat
 | .pp b _=>[b]
 | .ps b _ _ _=>[b]
 | .ls b _=>[b]
 | .lq b _ _ _=>[b]
 | .lp b _=>[b]
 | .mp b=>[b]
 | .ag l=>l.flatMap nm0
 | .pc _ l=>l.flatMap nm0
 | _=>[]
def qwH:Op→Bool
 | .call _=>true
 | _=>false
def qgG (st:St) (full:List (Nat×Nat×SV)) (o:Oper):List Nat:=
 match o.op.operands.toList.flatMap fun x=>nmM (st.ev x) with
 | R=>bif qwH o.op then R++full.flatMap fun e=>bif qbH R e.1 then nmM e.2.2 else [] else R
def S0.inN (n m:Nat):S0→Bool
 | .pv _=>true
 | .pp b _=>Nat.ble n b&&Nat.ble (b+1) m
 | .ps b _ _ _=>Nat.ble n b&&Nat.ble (b+1) m
 | .ls b _=>Nat.ble n b&&Nat.ble (b+1) m
 | .lq b _ _ _=>Nat.ble n b&&Nat.ble (b+1) m
 | .lp b _=>Nat.ble n b&&Nat.ble (b+1) m
 | .mp b=>Nat.ble n b&&Nat.ble (b+1) m
 | .dv ..=>true
def S1.inN (n m:Nat):S1→Bool
 | .one s=>s.inN n m
 | .ag l=>l.all (S0.inN n m)
def SV.inN (n m:Nat):SV→Bool
 | .pv _=>true
 | .pp b _=>Nat.ble n b&&Nat.ble (b+1) m
 | .ps b _ _ _=>Nat.ble n b&&Nat.ble (b+1) m
 | .ls b _=>Nat.ble n b&&Nat.ble (b+1) m
 | .lq b _ _ _=>Nat.ble n b&&Nat.ble (b+1) m
 | .lp b _=>Nat.ble n b&&Nat.ble (b+1) m
 | .mp b=>Nat.ble n b&&Nat.ble (b+1) m
 | .pc _ cap=>cap.all (S0.inN n m)
 | .ag l=>l.all (S0.inN n m)
 | .tu l=>l.all (S1.inN n m)
 | .any=>true
 | .dv ..=>true
 | .row ..=>false
 | .mrow _=>false
 | .drow ..=>false
 | .rrow ..=>false
 | .prow ..=>false
structure InN (n m:Nat) (β γ:Bl):Prop where
 nm:∀ b,n≤b→b<m→(∀ r,γ b=some r→β b=some r)∧∀ u,γ.g b=some u→β.g b=some u
 h:∀ k,γ.h k≠none→β.h k=γ.h k
theorem qkZ {n m b:Nat} (h:(Nat.ble n b&&Nat.ble (b+1) m)=true):n≤b∧b<m:=by
 rw[Bool.and_eq_true] at h
 exact⟨Nat.le_of_ble_eq_true h.1,Nat.le_of_ble_eq_true h.2⟩
theorem S0.inN_is {n m:Nat} {β γ:Bl} (h:InN n m β γ) {s:S0} {x:Value} (ho:s.inN n m=true) (k:s.is γ x):s.is β x:=by
 cases s with
 | pv y=>exact k
 | pp b o=>obtain⟨h1,h2⟩:=qkZ ho;obtain⟨r,k1,k2⟩:=k;exact⟨r,(h.nm b h1 h2).1 r k1,k2⟩
 | ps b o l c=>obtain⟨h1,h2⟩:=qkZ ho;obtain⟨r,k1,k2⟩:=k;exact⟨r,(h.nm b h1 h2).1 r k1,k2⟩
 | ls b l=>obtain⟨h1,h2⟩:=qkZ ho;exact⟨(h.nm b h1 h2).2 _ k.1,k.2⟩
 | lq b es kk l=>obtain⟨h1,h2⟩:=qkZ ho;obtain⟨a,n',c,a',c',k1,k2⟩:=k;exact⟨a,n',c,a',c',(h.nm b h1 h2).2 _ k1,k2⟩
 | lp b q=>obtain⟨h1,h2⟩:=qkZ ho;obtain⟨r,o,n',c,k1,k2⟩:=k;exact⟨r,o,n',c,(h.nm b h1 h2).2 _ k1,k2⟩
 | mp b=>obtain⟨h1,h2⟩:=qkZ ho;obtain⟨r,k1,k2⟩:=k;exact⟨r,(h.nm b h1 h2).1 r k1,k2⟩
 | dv es m' ds=>exact DenH.mono h.h k
theorem S0.inN_isl {n m:Nat} {β γ:Bl} (h:InN n m β γ):∀ {ss:List S0} {vs:List Value},ss.all (S0.inN n m)=true→S0.isl γ ss vs→S0.isl β ss vs
 | [],[],_,_=>trivial
 | [],_::_,_,k=>k.elim
 | _::_,[],_,k=>k.elim
 | _::_,_::_,ho,k=>by
  simp only[List.all_cons,Bool.and_eq_true] at ho
  exact⟨S0.inN_is h ho.1 k.1,S0.inN_isl h ho.2 k.2⟩
theorem S1.inN_is {n m:Nat} {β γ:Bl} (h:InN n m β γ) {s:S1} {x:Value} (ho:s.inN n m=true) (k:s.is γ x):s.is β x:=by
 cases s with
 | one s=>exact S0.inN_is h ho k
 | ag l=>obtain⟨vs,h1,h2⟩:=k;exact⟨vs,S0.inN_isl h ho h1,h2⟩
theorem S1.inN_isl {n m:Nat} {β γ:Bl} (h:InN n m β γ):∀ {ss:List S1} {vs:List Value},ss.all (S1.inN n m)=true→S1.isl γ ss vs→S1.isl β ss vs
 | [],[],_,_=>trivial
 | [],_::_,_,k=>k.elim
 | _::_,[],_,k=>k.elim
 | _::_,_::_,ho,k=>by
  simp only[List.all_cons,Bool.and_eq_true] at ho
  exact⟨S1.inN_is h ho.1 k.1,S1.inN_isl h ho.2 k.2⟩
theorem SV.inN_is {n m:Nat} {β γ:Bl} (h:InN n m β γ) {s:SV} {x:Value} (ho:s.inN n m=true) (k:s.is γ x):s.is β x:=by
 cases s with
 | pv y=>exact k
 | pp b o=>exact S0.inN_is (s:=.pp b o) h ho k
 | ps b o l c=>exact S0.inN_is (s:=.ps b o l c) h ho k
 | ls b l=>exact S0.inN_is (s:=.ls b l) h ho k
 | lq b es kk l=>exact S0.inN_is (s:=.lq b es kk l) h ho k
 | lp b q=>exact S0.inN_is (s:=.lp b q) h ho k
 | mp b=>exact S0.inN_is (s:=.mp b) h ho k
 | pc f cap=>obtain⟨vs,h1,h2⟩:=k;exact⟨vs,S0.inN_isl h ho h1,h2⟩
 | ag l=>obtain⟨vs,h1,h2⟩:=k;exact⟨vs,S0.inN_isl h ho h1,h2⟩
 | tu l=>obtain⟨vs,h1,h2⟩:=k;exact⟨vs,S1.inN_isl h ho h1,h2⟩
 | any=>trivial
 | dv es m' ds=>exact S0.inN_is (s:=.dv es m' ds) h ho k
 | row e es n xs=>cases ho
 | mrow xs=>cases ho
 | drow e es n xs=>cases ho
 | rrow e es n xs=>cases ho
 | prow e es n xs=>cases ho
theorem qjG {l:List Nat} {b:Nat}:qbH l b=true↔b∈l:=by
 unfold qbH
 rw[List.any_eq_true]
 constructor
 ·rintro⟨c,hc,he⟩
  rw[← Nat.eq_of_beq_eq_true he];exact hc
 ·intro h
  exact⟨b,h,Nat.beq_refl b⟩
def nmA (l:List SV):List Nat:=l.flatMap fun s=>match s with
 | .mp b=>[b]
 | .ls b _=>[b]
 | _=>[]
def SV.inA (A:List Nat) (n m:Nat):SV→Bool
 | .mp b=>(Nat.ble n b&&Nat.ble (b+1) m)||qbH A b
 | .ls b _=>(Nat.ble n b&&Nat.ble (b+1) m)||qbH A b
 | s=>s.inN n m
theorem SV.inA_is {A:List Nat} {n m:Nat} {β γ:Bl} (h:InN n m β γ) (hA:∀ b,qbH A b=true→(∀ r,γ b=some r→β b=some r)∧∀ u,γ.g b=some u→β.g b=some u) {s:SV} {x:Value} (ho:s.inA A n m=true) (k:s.is γ x):s.is β x:=by
 cases s with
 | ls b l=>
  simp only[SV.inA,Bool.or_eq_true] at ho
  rcases ho with ho | ho
  ·exact SV.inN_is (s:=.ls b l) h ho k
  ·exact⟨(hA b ho).2 _ k.1,k.2⟩
 | mp b=>
  simp only[SV.inA,Bool.or_eq_true] at ho
  rcases ho with ho | ho
  ·exact SV.inN_is (s:=.mp b) h ho k
  ·obtain⟨r,k1,k2⟩:=k;exact⟨r,(hA b ho).1 r k1,k2⟩
 | pv y=>exact SV.inN_is (s:=.pv y) h ho k
 | dv es m' ds=>exact SV.inN_is (s:=.dv es m' ds) h ho k
 | drow e es m' ds=>cases ho
 | rrow e es m' ds=>cases ho
 | prow e es m' ds=>cases ho
 | pp b o=>exact SV.inN_is (s:=.pp b o) h ho k
 | ps b o l c=>exact SV.inN_is (s:=.ps b o l c) h ho k
 | lq b es kk l=>exact SV.inN_is (s:=.lq b es kk l) h ho k
 | lp b q=>exact SV.inN_is (s:=.lp b q) h ho k
 | pc f cap=>exact SV.inN_is (s:=.pc f cap) h ho k
 | ag l=>exact SV.inN_is (s:=.ag l) h ho k
 | tu l=>exact SV.inN_is (s:=.tu l) h ho k
 | any=>exact SV.inN_is (s:=.any) h ho k
 | row e es n xs=>exact k.elim
 | mrow xs=>exact k.elim
theorem qoj {β:Bl}:∀ {l:List SV} {us:List Value},SV.isl β l us→∀ b,qbH (nmA l) b=true→β b≠none∨β.g b≠none
 | [],_,_,b,hb=>by cases hb
 | s::l,[],h,_,_=>h.elim
 | s::l,u::us,h,b,hb=>by
  have hm:b∈nmA (s::l):=qjG.1 hb
  unfold nmA at hm
  rw[List.flatMap_cons,List.mem_append] at hm
  rcases hm with hm | hm
  ·have h1:=h.1
   cases s with
   | mp c=>
    simp only[List.mem_cons,List.not_mem_nil,or_false] at hm
    subst hm
    obtain⟨r,hr,_⟩:=h1
    exact Or.inl (by rw[hr];simp)
   | ls c n=>
    simp only[List.mem_cons,List.not_mem_nil,or_false] at hm
    subst hm
    exact Or.inr (by rw[h1.1];simp)
   | _=>cases hm
  ·exact qoj h.2 b (qjG.2 hm)
def Bl.cutM (β:Bl) (n:Nat):Bl:=⟨fun b=>if b<n then β b else none,fun b=>if b<n then β.g b else none,β.h,fun k=>β.h k≠none⟩
theorem Bl.cutM_f {β:Bl} {n b r:Nat} (h:(β.cutM n) b=some r):b<n∧β b=some r:=by
 unfold Bl.cutM at h
 simp only at h
 split at h
 ·rename_i e;exact⟨e,h⟩
 ·cases h
theorem Bl.cutM_g {β:Bl} {n b:Nat} {u:Value} (h:(β.cutM n).g b=some u):b<n∧β.g b=some u:=by
 unfold Bl.cutM at h
 simp only at h
 split at h
 ·rename_i e;exact⟨e,h⟩
 ·cases h
theorem Bl.cutM_dom (β:Bl) (n:Nat):(β.cutM n).dom n:=fun b hb=>⟨if_neg (by omega),if_neg (by omega)⟩
theorem Bl.cutM_sub (β:Bl) (n:Nat):β.sub n (β.cutM n):=⟨fun b r hb e=>(if_pos hb).trans e,fun b u hb e=>(if_pos hb).trans e,fun _ _=>rfl⟩
theorem HRelP.cutM {W0:Base} {w:World} {lo n:Nat} {β:Bl} {Hc:Nat→Nat→SV→Prop} (H:HRelP W0 lo β Hc w) (hk:∀ b o s,Hc b o s→b<n∧s.own n=true):HRelP w n (β.cutM n) Hc w:=by
 refine⟨Gr.refl w,fun b r e=>H.live b r (Bl.cutM_f e).2,fun b c r e e'=>H.inj b c r (Bl.cutM_f e).2 (Bl.cutM_f e').2,fun b r hb e=>?_,fun b r e=>?_,fun b o sv hc hs=>?_,fun b o s hc hsr=>?_,fun b o s c o' s' u v h1 h2 _ _ h3=>?_,fun b o xs hc=>(H.maps b o xs hc).imp fun r g=>⟨(if_pos (hk b o _ hc).1).trans g.1,g.2⟩,
  H.fz.mem,fun k e=>Or.inr e,fun b o s r hc e=>H.fz.box b o s r hc (Bl.cutM_f e).2,fun b o s u k hc _ hn _ _=>(by have:=(hk b o _ hc).1;omega),fun b o e es m ds hc=>(H.fz.rr _ _ _ _ _ _ hc).imp fun u g=>⟨(if_pos (hk b o _ hc).1).trans g.1,g.2⟩,fun b o e es m ds hc=>(H.fz.pr _ _ _ _ _ _ hc).imp fun u g=>⟨(if_pos (hk b o _ hc).1).trans g.1,g.2⟩⟩
 ·have:=(Bl.cutM_f e).1;omega
 ·obtain⟨h1,h2⟩:=Bl.cutM_f e
  exact (if_pos h1).trans (H.sep b r h2)
 ·obtain⟨r,u,h1,h2,h3⟩:=H.cells b o sv hc hs
  obtain⟨k1,k2⟩:=hk b o sv hc
  exact⟨r,u,(if_pos k1).trans h1,SV.own_is (Bl.cutM_sub β n) k2 h2,h3⟩
 ·obtain⟨u,e,es,m,xs,h0,h1,h2⟩:=H.rows0 b o s hc hsr
  obtain⟨k1,_⟩:=hk b o _ hc
  exact⟨u,e,es,m,xs,h0,(if_pos k1).trans h1,h2.rd,h2.one,fun _ hx j hj=>h2.rd.lt hx j hj,fun h=>by omega,fun h=>by omega⟩
 ·have:=(hk b o _ h1).1;omega
def Bl.mixN (β γ:Bl) (n k:Nat):Bl:=⟨fun b=>if n≤b∧b<n+k then γ b else β b,fun b=>if n≤b∧b<n+k then γ.g b else β.g b,γ.h,β.h0⟩
theorem Bl.mixN_f {β γ:Bl} {n k b r:Nat} (h:(β.mixN γ n k) b=some r):(n≤b∧b<n+k∧γ b=some r)∨(¬ (n≤b∧b<n+k)∧β b=some r):=by
 unfold Bl.mixN at h
 simp only at h
 split at h
 ·rename_i e;exact Or.inl ⟨e.1,e.2,h⟩
 ·rename_i e;exact Or.inr ⟨e,h⟩
theorem Bl.mixN_g {β γ:Bl} {n k b:Nat} {u:Value} (h:(β.mixN γ n k).g b=some u):(n≤b∧b<n+k∧γ.g b=some u)∨(¬ (n≤b∧b<n+k)∧β.g b=some u):=by
 unfold Bl.mixN at h
 simp only at h
 split at h
 ·rename_i e;exact Or.inl ⟨e.1,e.2,h⟩
 ·rename_i e;exact Or.inr ⟨e,h⟩
theorem Bl.mixN_in (β γ:Bl) (n k:Nat):InN n (n+k) (β.mixN γ n k) γ:=⟨fun b h1 h2=>⟨fun r e=>(if_pos ⟨h1,h2⟩).trans e,fun u e=>(if_pos ⟨h1,h2⟩).trans e⟩,fun _ _=>rfl⟩
theorem Bl.mixN_le {β γ:Bl} {n k:Nat} (h:∀ b,n≤b→b<n+k→β b=none∧β.g b=none) (hh:∀ k,β.h k≠none→γ.h k=β.h k):β.le (β.mixN γ n k):=by
 refine⟨fun b e=>?_,hh,rfl⟩
 have hb:¬ (n≤b∧b<n+k):=fun hb=>by
  obtain⟨h1,h2⟩:=h b hb.1 hb.2
  rcases e with e | e
  ·exact e h1
  ·exact e h2
 exact⟨if_neg hb,if_neg hb⟩
theorem HRelP.join {W0:Base} {w w':World} {lo n k:Nat} {β γ:Bl} {Hc Hd He:Nat→Nat→SV→Prop} (H:HRelP W0 lo β Hc w) (hlo:lo≤n) (hf:∀ b,n≤b→b<n+k→β b=none∧β.g b=none) (H':HRelP w n γ Hd w') (hh:∀ k,β.h k≠none→γ.h k=β.h k) (h00:γ.h0=fun k=>β.h k≠none)
 (hd:∀ b o s,n≤b→b<n+k→Hd b o s→s.isRow=true∨∀ x,s.is γ x→s.is (β.mixN γ n k) x) (he:∀ b o s,He b o s→(n≤b∧b<n+k∧Hd b o s)∨Hc b o s):HRelP W0 lo (β.mixN γ n k) He w':=by
 have hg:=H'.gr
 have HG:=H.gr_mono hg
 have hle:β.le (β.mixN γ n k):=Bl.mixN_le hf hh
 have hin:=Bl.mixN_in β γ n k
 have inm:∀ {b:Nat},n≤b→b<n+k→(β.mixN γ n k) b=γ b∧(β.mixN γ n k).g b=γ.g b:=fun h1 h2=>⟨if_pos ⟨h1,h2⟩,if_pos ⟨h1,h2⟩⟩
 have rowc:∀ b o s,He b o s→s.isR=true→(n≤b∧b<n+k∧∃ u e es m xs,s.isRw γ.h e es m xs∧(β.mixN γ n k).g b=some u∧γ.g b=some u∧RowIs w n γ w' b e es m xs u)∨(¬ (n≤b∧b<n+k)∧Hc b o s∧∃ u e es m xs,s.isRw γ.h e es m xs∧(β.mixN γ n k).g b=some u∧β.g b=some u∧RowIs W0 lo β w b e es m xs u):=fun b o s hc hsr=>by
  rcases he _ _ _ hc with ⟨h1,h2,h3⟩ | h3
  ·obtain⟨u,e,es,m,xs,g0,g1,g2⟩:=H'.rows0 _ _ _ h3 hsr
   exact Or.inl ⟨h1,h2,u,e,es,m,xs,g0,(inm h1 h2).2.trans g1,g1,g2⟩
  ·obtain⟨u,e,es,m,xs,g0,g1,g2⟩:=H.rows0 _ _ _ h3 hsr
   have hb:¬ (n≤b∧b<n+k):=fun hb=>by rw[(hf b hb.1 hb.2).2] at g1;cases g1
   exact Or.inr ⟨hb,h3,u,e,es,m,xs,SV.isRw_mono hh g0,hle.g g1,g1,g2⟩
 have hold:∀ r,r<w.heap.size→β.h r=none→γ.h r=none:=fun r hr e=>by
  apply Classical.byContradiction
  intro hne
  rcases H'.fz.own r hne with h1 | h1
  ·have h1':w.heap.size≤r:=h1
   omega
  ·rw[h00] at h1
   exact h1 e
 refine⟨HG.gr,fun b r e=>?_,fun b c r e1 e2=>?_,fun b r hb e=>?_,fun b r e=>?_,fun b o sv hc hs=>?_,fun b o s hc hsr=>?_,fun b o s c o' s' u v f1 f2 q1 q2 hb hc hne hu hv j hj=>?_,fun b o xs hc=>?_,
  H'.fz.mem,fun j hj=>?_,fun b o s r hc e=>?_,fun b o s u j hc hsr hb hu hj=>?_,fun b o e es m ds hc=>?_,fun b o e es m ds hc=>?_⟩
 ·rcases Bl.mixN_f e with ⟨_,_,e⟩ | ⟨_,e⟩
  ·exact H'.live b r e
  ·exact HG.live b r e
 ·rcases Bl.mixN_f e1 with ⟨x1,_,e1⟩ | ⟨_,e1⟩<;>rcases Bl.mixN_f e2 with ⟨x2,_,e2⟩ | ⟨_,e2⟩
  ·exact H'.inj b c r e1 e2
  ·have:=H'.new b r x1 e1;have:=H.live c r e2;omega
  ·have:=H'.new c r x2 e2;have:=H.live b r e1;omega
  ·exact H.inj b c r e1 e2
 ·rcases Bl.mixN_f e with ⟨x1,_,e⟩ | ⟨_,e⟩
  ·exact W0.fresh _ H.gr r (H'.new b r x1 e)
  ·exact H.new b r hb e
 ·rcases Bl.mixN_f e with ⟨x1,x2,e⟩ | ⟨x1,e⟩
  ·exact (inm x1 x2).2.trans (H'.sep b r e)
  ·exact (if_neg x1).trans (H.sep b r e)
 ·rcases he _ _ _ hc with ⟨h1,h2,h3⟩ | h3
  ·obtain⟨r,u,c1,c2,c3⟩:=H'.cells b o sv h3 hs
   exact⟨r,u,(inm h1 h2).1.trans c1,(hd b o sv h1 h2 h3).resolve_left (by rw[hs];decide) u c2,c3⟩
  ·obtain⟨r,u,c1,c2,c3⟩:=HG.cells b o sv h3 hs
   exact⟨r,u,hle.f c1,SV.is_mono hle c2,c3⟩
 ·rcases rowc _ _ _ hc hsr with ⟨h1,h2,u,e,es,m,xs,gr,g0,g1,g2⟩ | ⟨_,_,u,e,es,m,xs,gr,g0,g1,g2⟩
  ·refine⟨u,e,es,m,xs,gr,g0,g2.rd,g2.one,fun h=>by omega,fun _=>?_,fun _ c r ec hk=>?_⟩
   ·exact qa2 (g2.own h1) fun k hk=>W0.fresh _ H.gr k (qaE (g2.own h1) k hk).1
   ·rcases Bl.mixN_f ec with ⟨x1,_,ec⟩ | ⟨_,ec⟩
    ·exact g2.apart h1 c r ec hk
    ·have:=(qaE (g2.own h1) r hk).1;have:=H.live c r ec;omega
  ·have g3:=g2.gr_mono hg
   refine⟨u,e,es,m,xs,gr,g0,g3.rd,g3.one,g3.low,g3.own,fun hb c r ec hk=>?_⟩
   rcases Bl.mixN_f ec with ⟨x1,_,ec⟩ | ⟨_,ec⟩
   ·have:=(qal (g2.own hb) r hk).2;have:=H'.new c r x1 ec;omega
   ·exact g2.apart hb c r ec hk
 ·rcases rowc _ _ _ f1 q1 with ⟨h1,h2,u1,_,_,_,_,_,a0,a1,a2⟩ | ⟨h1,h3,u1,_,_,_,_,_,a0,a1,a2⟩<;>rcases rowc _ _ _ f2 q2 with ⟨k1,k2,v1,_,_,_,_,_,b0,b1,b2⟩ | ⟨k1,k3,v1,_,_,_,_,_,b0,b1,b2⟩<;>(rw[hu] at a0;rw[hv] at b0;cases a0;cases b0)
  ·intro hj'
   rcases he _ _ _ f1 with ⟨_,_,f1⟩ | f1
   ·rcases he _ _ _ f2 with ⟨_,_,f2⟩ | f2
    ·exact H'.rinj0 _ _ _ _ _ _ _ _ f1 f2 q1 q2 h1 k1 hne a1 b1 j hj hj'
    ·obtain⟨v',_,_,_,_,_,g1,_⟩:=H.rows0 _ _ _ f2 q2;rw[(hf c k1 k2).2] at g1;cases g1
   ·obtain⟨v',_,_,_,_,_,g1,_⟩:=H.rows0 _ _ _ f1 q1;rw[(hf b h1 h2).2] at g1;cases g1
  ·intro hj'
   have:=(qaE (a2.own h1) j hj).1
   have:=(qal (b2.own hc) j hj').2
   omega
  ·intro hj'
   have:=(qal (a2.own hb) j hj).2
   have:=(qaE (b2.own k1) j hj').1
   omega
  ·exact H.rinj0 _ _ _ _ _ _ _ _ h3 k3 q1 q2 hb hc hne a1 b1 j hj
 ·rcases he _ _ _ hc with ⟨h1,h2,h3⟩ | h3
  ·obtain⟨r,c1,c2⟩:=H'.maps _ _ _ h3
   exact⟨r,(inm h1 h2).1.trans c1,c2⟩
  ·obtain⟨r,c1,c2⟩:=HG.maps _ _ _ h3
   exact⟨r,hle.f c1,c2⟩
 ·rcases H'.fz.own j hj with h1 | h1
  ·exact Or.inl (W0.fresh _ H.gr j h1)
  ·rw[h00] at h1
   exact H.fz.own j h1
 ·rcases he _ _ _ hc with ⟨h1,h2,h3⟩ | h3
  ·rw[(inm h1 h2).1] at e
   exact H'.fz.box _ _ _ _ h3 e
  ·rcases Bl.mixN_f e with ⟨x1,x2,_⟩ | ⟨_,e⟩
   ·obtain⟨y1,y2⟩:=hf b x1 x2
    rcases H.named h3 with ⟨r',z⟩ | ⟨u,z⟩
    ·rw[y1] at z;cases z
    ·rw[y2] at z;cases z
   ·exact hold r (H.live b r e) (H.fz.box _ _ _ _ h3 e)
 ·rcases rowc _ _ _ hc hsr with ⟨h1,h2,u1,_,_,_,_,_,a0,a1,a2⟩ | ⟨h1,h3,u1,_,_,_,_,_,a0,a1,a2⟩
  ·rw[hu] at a0
   cases a0
   rcases he _ _ _ hc with ⟨_,_,f1⟩ | f1
   ·exact H'.fz.row _ _ _ _ _ f1 hsr h1 a1 hj
   ·obtain⟨v',_,_,_,_,_,g1,_⟩:=H.rows0 _ _ _ f1 hsr;rw[(hf b h1 h2).2] at g1;cases g1
  ·rw[hu] at a0
   cases a0
   exact hold j (qal (a2.own hb) j hj).2 (H.fz.row _ _ _ _ _ h3 hsr hb a1 hj)
 ·rcases he _ _ _ hc with ⟨h1,h2,h3⟩ | h3
  ·obtain⟨u,g1,g2⟩:=H'.fz.rr _ _ _ _ _ _ h3
   exact⟨u,(inm h1 h2).2.trans g1,g2⟩
  ·obtain⟨u,g1,g2⟩:=H.fz.rr _ _ _ _ _ _ h3
   exact⟨u,hle.g g1,g2.mono hh⟩
 ·rcases he _ _ _ hc with ⟨h1,h2,h3⟩ | h3
  ·obtain⟨u,g1,g2⟩:=H'.fz.pr _ _ _ _ _ _ h3
   exact⟨u,(inm h1 h2).2.trans g1,g2⟩
  ·obtain⟨u,g1,g2⟩:=H.fz.pr _ _ _ _ _ _ h3
   exact⟨u,hle.g g1,g2.mono hh⟩
def atN (R:List Nat) (hp:List (Nat×Nat×SV)):List (Nat×Nat×SV):=hp.filter fun e=>qbH R e.1
def qz5 (lo:Nat) (o:Oper) (st:St) (hp:List (Nat×Nat×SV)):Out→Option (St×Ef)
 | .val x=>match qbI st o.dst x with
  | some s=>some (s,.no)
  | none=>none
 | .new _ cells len=>match qbI { st with nb:=st.nb+1 } o.dst (qrh st.nb len) with
  | some s=>some (s,.new cells)
  | none=>none
 | .sto b i cells=>bif Nat.ble lo b then
  match qbI st o.dst (.pv undef) with
  | some s=>some (s,.sto b i cells)
  | none=>none
  else none
 | .app old e es n xs=>bif qg5 lo hp old then
  match qbI { st with nb:=st.nb+1 } o.dst (.ls st.nb n) with
  | some s=>some (s,.app old e es n xs)
  | none=>none
  else none
 | .appd old e es n ds=>bif qsv lo hp old then
  match qbI { st with nb:=st.nb+1 } o.dst (.ls st.nb n) with
  | some s=>some (s,.appd old e es n ds)
  | none=>none
  else none
 | _=>none
def qwh (P:Program) (call:qa3) (lo:Nat) (ops:Array Oper) (o:Oper) (st:St) (full:List (Nat×Nat×SV)):Option (St×Ef×List Nat×List Prop):=
 match qbg ops st o with
 | some true=>match opS P { (qaA o.op st).2 with hp:=atN (qgG st full o) full } o (qaA o.op st).1 with
  | some (.call f args,q)=>bif args.all (SV.own st.nb)&&(atN (qgG st full o) full).all (fun e=>Nat.ble (e.1+1) st.nb&&e.2.2.own st.nb) then
   match call st.nb f args (qaA o.op st).1 { (qaA o.op st).2 with hp:=atN (qgG st full o) full } with
   | some (x,s,q2)=>bif Nat.ble st.nb s.nb&&x.inN st.nb s.nb&&s.hp.all (fun e=>!(Nat.ble st.nb e.1&&Nat.ble (e.1+1) s.nb)||e.2.2.isRow||e.2.2.inA (nmA args) st.nb s.nb) then
    match qbI { (qaA o.op st).2 with ch:=s.ch,nb:=s.nb } o.dst x with
    | some s'=>some (s',.many (s.nb-st.nb) s.hp,qgG st full o,q++q2)
    | none=>none
    else none
   | none=>none
   else none
  | some (out,q)=>match qz5 lo o (qaA o.op st).2 (atN (qgG st full o) full) out with
   | some (s,ef)=>some (s,ef,qgG st full o,q)
   | none=>none
  | none=>none
 | some false=>match qbI st o.dst (.pv undef) with
  | some s=>some (s,.no,[],[])
  | none=>none
 | none=>none
structure MHead where
 st:St
 hp:List (Nat×Nat×SV)
 q:List Prop
 bl:List (List Nat)
 rl:List (List Nat)
def mS (P:Program) (call:qa3) (lo:Nat) (ops:Array Oper):List Oper→St→List (Nat×Nat×SV)→Option MHead
 | [],st,hp=>some ⟨st,hp,[],[],[]⟩
 | o::r,st,hp=>match qwh P call lo ops o st hp with
  | some (s,ef,rd,q)=>match mS P call lo ops r s (ef.lay st.nb hp) with
   | some ⟨s',hp',q',bl,rl⟩=>some ⟨s',hp',q++q',ef.blk st.nb::bl,rd::rl⟩
   | none=>none
  | none=>none
def qdM (ops:Array Oper):Nat→Nat→Nat→Bool
 | 0,k,i=>qc3 ops k i
 | d+1,k,i=>qc3 ops k i||match ops[k]? with
  | some o=>o.after.toList.any fun e=>Region.binds .any e&&qdM ops d e.on i
  | none=>false
theorem qe9 {ops:Array Oper} {k i:Nat} (h:qc3 ops k i=true):∃ o,ops[k]?=some o:=by
 unfold qc3 at h
 rw[Bool.or_eq_true] at h
 rcases h with h | h
 ·obtain⟨o,ho,_⟩:=Region.waitsFor_spec h
  exact⟨o,ho⟩
 ·cases e:ops[k]? with
  | none=>rw[e] at h;cases h
  | some o=>exact⟨o,rfl⟩
theorem qiF {ops:Array Oper} {i:Nat}:∀ {d k:Nat},qdM ops d k i=true→∃ o,ops[k]?=some o
 | 0,_,h=>qe9 h
 | d+1,k,h=>by
  unfold qdM at h
  rw[Bool.or_eq_true] at h
  rcases h with h | h
  ·exact qe9 h
  ·cases e:ops[k]? with
   | none=>rw[e] at h;cases h
   | some o=>exact⟨o,rfl⟩
theorem qeQ {ops:Array Oper} {n:Nat} {listed:Array Bool} {i:Nat} (HI:HeadInv .any ops n listed):∀ {d k:Nat},qdM ops d k i=true→∀ {o:Oper},ops[k]?=some o→(∀ e∈o.after,Region.binds .any e=true→listed.getD e.on false=true)→listed.getD i false=true
 | 0,_,hw,_,ho,hall=>qdT HI hw ho hall
 | d+1,k,hw,o,ho,hall=>by
  unfold qdM at hw
  rw[Bool.or_eq_true] at hw
  rcases hw with hw | hw
  ·exact qdT HI hw ho hall
  ·rw[ho] at hw
   obtain⟨e,he,h2⟩:=List.any_eq_true.1 hw
   simp only[Bool.and_eq_true] at h2
   have hl:=hall e (by simpa using he) h2.1
   obtain⟨o',ho'⟩:=qiF h2.2
   exact qeQ HI h2.2 ho' fun e' he' hb'=>HI.closed e.on o' ho' hl e' he' hb'
def qnv (ops:Array Oper) (bl rl:List (List Nat)) (n:Nat):Bool:=
 (List.range n).all fun i=>match rl[i]? with
  | some R=>(List.range n).all fun k=>match bl[k]? with
   | some l=>Nat.beq k i||!(l.any fun b=>qbH R b)||(bif Nat.ble (k+1) i then qdM ops 2 i k else qdM ops 2 k i)
   | _=>true
  | _=>true
def mdS (P:Program) (call:qa3) (lo:Nat) (ops:Array Oper) (st:St):Option (St×List Prop):=
 match mS P call lo ops ops.toList st st.hp with
 | some ⟨s,hp,q,bl,rl⟩=>
  bif Region.noSelect ops&&qfO ops ops.size&&qd4 ops ops.size&&qc4 ops ops.size&&qfA ops bl ops.size&&qnv ops bl rl ops.size then some ({ s with hp:=hp },q) else none
 | none=>none
theorem qfR {bo:Option Nat} {c o:Nat}:∀ {hp:List (Nat×Nat×SV)},qae (qaT bo hp) c o=if bo=some c then none else qae hp c o:=by
 intro hp
 cases bo with
 | none=>rw[if_neg (by simp)];rfl
 | some b=>
  show qae (hp.filter fun e=>!Nat.beq e.1 b) c o=_
  rw[qbQ (p:=fun d=>!Nat.beq d b)]
  by_cases h:b=c
  ·subst h;rw[if_neg (by simp),if_pos rfl]
  ·rw[if_pos,if_neg (fun e=>h (Option.some.inj e))]
   cases e:Nat.beq c b
   ·rfl
   ·exact (h (Nat.eq_of_beq_eq_true e).symm).elim
theorem Ef.lay_look {n:Nat} {ef:Ef} {hp:List (Nat×Nat×SV)} {b o:Nat}:qae (ef.lay n hp) b o=(ef.at n b o).getD (qae hp b o):=by
 cases ef with
 | no=>rfl
 | new cells=>
  simp only[Ef.lay,Ef.at,qbE,Nat.zero_le,true_and,Nat.zero_add,Nat.sub_zero]
  by_cases hb:n=b
  ·rw[if_pos hb]
   by_cases ho:o<cells.length
   ·rw[if_pos ⟨hb,ho⟩,List.getElem?_eq_getElem ho];rfl
   ·rw[if_neg (fun h=>ho h.2),List.getElem?_eq_none (by omega)];rfl
  ·rw[if_neg hb,if_neg (fun h=>hb h.1)];rfl
 | sto c i cells=>
  simp only[Ef.lay,Ef.at,qbE]
  by_cases hb:c=b∧i≤o
  ·rw[if_pos hb]
   by_cases ho:o<i+cells.length
   ·rw[if_pos ⟨hb.1,hb.2,ho⟩,List.getElem?_eq_getElem (show o-i<cells.length by omega)];rfl
   ·rw[if_neg (fun h=>ho h.2.2),List.getElem?_eq_none (by omega)];rfl
  ·rw[if_neg hb,if_neg (fun h=>hb ⟨h.1,h.2.1⟩)];rfl
 | app old e es k xs=>
  simp only[Ef.lay,Ef.at,qaf,qfR]
  by_cases hb:n=b∧0=o
  ·have hb':n=b∧o=0:=⟨hb.1,hb.2.symm⟩
   simp only[if_pos hb,if_pos hb',Option.getD_some]
  ·have hb':¬ (n=b∧o=0):=fun h=>hb ⟨h.1,h.2.symm⟩
   simp only[if_neg hb,if_neg hb']
   split<;>rfl
 | appd old e es k xs=>
  simp only[Ef.lay,Ef.at,qaf,qfR]
  by_cases hb:n=b∧0=o
  ·have hb':n=b∧o=0:=⟨hb.1,hb.2.symm⟩
   simp only[if_pos hb,if_pos hb',Option.getD_some]
  ·have hb':¬ (n=b∧o=0):=fun h=>hb ⟨h.1,h.2.symm⟩
   simp only[if_neg hb,if_neg hb']
   split<;>rfl
 | many k cells=>
  simp only[Ef.lay,Ef.at]
  rw[qbA,qbQ (p:=fun c=>Nat.ble n c&&Nat.ble (c+1) (n+k))]
  by_cases h:n≤b∧b<n+k
  ·rw[if_pos h,if_pos (by rw[Bool.and_eq_true];exact⟨Nat.ble_eq_true_of_le h.1,Nat.ble_eq_true_of_le h.2⟩)]
   cases qae cells b o<;>rfl
  ·rw[if_neg h,if_neg (fun h'=>h (by rw[Bool.and_eq_true] at h';exact⟨Nat.le_of_ble_eq_true h'.1,Nat.le_of_ble_eq_true h'.2⟩))];rfl
theorem Ef.at_blk {n:Nat} {ef:Ef} {b o:Nat} {s:Option SV} (h:ef.at n b o=some s):qbH (ef.blk n) b=true:=by
 cases ef with
 | no=>cases h
 | new cells=>
  simp only[Ef.at] at h;split at h;· rename_i e;subst e;exact qca
  ·cases h
 | sto c i cells=>
  simp only[Ef.at] at h;split at h;· rename_i e;obtain⟨rfl,_⟩:=e;exact qca
  ·cases h
 | app old e es k xs=>
  simp only[Ef.at] at h
  split at h
  ·rename_i e
   obtain⟨rfl,_⟩:=e
   cases old<;>simp[Ef.blk,qbH,Nat.beq_refl]
  ·split at h
   ·rename_i e
    subst e
    simp[Ef.blk,qbH,Nat.beq_refl]
   ·cases h
 | appd old e es k xs=>
  simp only[Ef.at] at h
  split at h
  ·rename_i e
   obtain⟨rfl,_⟩:=e
   cases old<;>simp[Ef.blk,qbH,Nat.beq_refl]
  ·split at h
   ·rename_i e
    subst e
    simp[Ef.blk,qbH,Nat.beq_refl]
   ·cases h
 | many k cells=>
  simp only[Ef.at] at h
  split at h
  ·rename_i e;exact qd6.2 e
  ·cases h
inductive MIs (P:Program) (call:qa3) (lo:Nat) (ops:Array Oper) (o:Oper) (st:St) (full:List (Nat×Nat×SV)) (s:St) (ef:Ef) (rd:List Nat) (q:List Prop):Prop where
 | no (hw:qbg ops st o=some false) (hp:qbI st o.dst (.pv undef)=some s) (ha:ef=.no)
 | val (x:SV) (hw:qbg ops st o=some true) (ho:opS P { (qaA o.op st).2 with hp:=atN rd full } o (qaA o.op st).1=some (.val x,q)) (hp:qbI (qaA o.op st).2 o.dst x=some s) (ha:ef=.no)
 | new (t:TypeId) (cells:List SV) (len:Option Nat) (hw:qbg ops st o=some true) (ho:opS P { (qaA o.op st).2 with hp:=atN rd full } o (qaA o.op st).1=some (.new t cells len,q))
  (hp:qbI { (qaA o.op st).2 with nb:=(qaA o.op st).2.nb+1 } o.dst (qrh (qaA o.op st).2.nb len)=some s) (ha:ef=.new cells)
 | sto (b i:Nat) (cells:List SV) (hw:qbg ops st o=some true) (ho:opS P { (qaA o.op st).2 with hp:=atN rd full } o (qaA o.op st).1=some (.sto b i cells,q)) (hlo:lo≤b) (hp:qbI (qaA o.op st).2 o.dst (.pv undef)=some s) (ha:ef=.sto b i cells)
 | app (old:Option Nat) (e:TypeId) (es n:Nat) (xs:List Value) (hw:qbg ops st o=some true) (ho:opS P { (qaA o.op st).2 with hp:=atN rd full } o (qaA o.op st).1=some (.app old e es n xs,q)) (hown:qg5 lo (atN rd full) old=true)
  (hp:qbI { (qaA o.op st).2 with nb:=(qaA o.op st).2.nb+1 } o.dst (.ls (qaA o.op st).2.nb n)=some s) (ha:ef=.app old e es n xs)
 | appd (old:Option Nat) (e:TypeId) (es n:Nat) (ds:List Dn) (hw:qbg ops st o=some true) (ho:opS P { (qaA o.op st).2 with hp:=atN rd full } o (qaA o.op st).1=some (.appd old e es n ds,q)) (hown:qsv lo (atN rd full) old=true)
  (hp:qbI { (qaA o.op st).2 with nb:=(qaA o.op st).2.nb+1 } o.dst (.ls (qaA o.op st).2.nb n)=some s) (ha:ef=.appd old e es n ds)
 | call (f:FuncId) (args:List SV) (x:SV) (s1:St) (q1 q2:List Prop) (hw:qbg ops st o=some true) (ho:opS P { (qaA o.op st).2 with hp:=atN rd full } o (qaA o.op st).1=some (.call f args,q1)) (how:args.all (SV.own st.nb)=true)
  (hown:(atN rd full).all (fun e=>Nat.ble (e.1+1) st.nb&&e.2.2.own st.nb)=true) (hc:call st.nb f args (qaA o.op st).1 { (qaA o.op st).2 with hp:=atN rd full }=some (x,s1,q2)) (hle:st.nb≤s1.nb) (hx:x.inN st.nb s1.nb=true)
  (hcells:s1.hp.all (fun e=>!(Nat.ble st.nb e.1&&Nat.ble (e.1+1) s1.nb)||e.2.2.isRow||e.2.2.inA (nmA args) st.nb s1.nb)=true) (hp:qbI { (qaA o.op st).2 with ch:=s1.ch,nb:=s1.nb } o.dst x=some s) (ha:ef=.many (s1.nb-st.nb) s1.hp) (hq:q=q1++q2)
theorem qot {P:Program} {call:qa3} {lo:Nat} {ops:Array Oper} {o:Oper} {st s:St} {full:List (Nat×Nat×SV)} {ef:Ef} {rd:List Nat} {q:List Prop} (h:qwh P call lo ops o st full=some (s,ef,rd,q)):MIs P call lo ops o st full s ef rd q:=by
 unfold qwh at h
 split at h
 ·rename_i hw
  split at h
  ·rename_i f args q1 ho
   cases hb:(args.all (SV.own st.nb)&&(atN (qgG st full o) full).all (fun e=>Nat.ble (e.1+1) st.nb&&e.2.2.own st.nb))
   ·rw[hb] at h;cases h
   ·rw[hb,cond_true] at h
    rw[Bool.and_eq_true] at hb
    split at h
    ·rename_i x s1 q2 hc
     cases hb2:(Nat.ble st.nb s1.nb&&x.inN st.nb s1.nb&&s1.hp.all (fun e=>!(Nat.ble st.nb e.1&&Nat.ble (e.1+1) s1.nb)||e.2.2.isRow||e.2.2.inA (nmA args) st.nb s1.nb))
     ·rw[hb2] at h;cases h
     ·rw[hb2,cond_true] at h
      rw[Bool.and_eq_true,Bool.and_eq_true] at hb2
      split at h
      ·rename_i s' hs
       simp only[Option.some.injEq,Prod.mk.injEq] at h
       obtain⟨rfl,rfl,rfl,rfl⟩:=h
       exact .call f args x s1 q1 q2 hw ho hb.1 hb.2 hc (Nat.le_of_ble_eq_true hb2.1.1) hb2.1.2 hb2.2 hs rfl rfl
      ·cases h
    ·cases h
  ·rename_i out q' hnc ho
   clear hnc
   split at h
   ·rename_i s' ef' he
    simp only[Option.some.injEq,Prod.mk.injEq] at h
    obtain⟨rfl,rfl,rfl,rfl⟩:=h
    unfold qz5 at he
    split at he
    ·rename_i x
     split at he
     ·rename_i s2 hp
      simp only[Option.some.injEq,Prod.mk.injEq] at he
      obtain⟨rfl,rfl⟩:=he
      exact .val x hw ho hp rfl
     ·cases he
    ·rename_i t cells len
     split at he
     ·rename_i s2 hp
      simp only[Option.some.injEq,Prod.mk.injEq] at he
      obtain⟨rfl,rfl⟩:=he
      exact .new t cells len hw ho hp rfl
     ·cases he
    ·rename_i b i cells
     cases hb:Nat.ble lo b
     ·rw[hb] at he;cases he
     ·rw[hb,cond_true] at he
      split at he
      ·rename_i s2 hp
       simp only[Option.some.injEq,Prod.mk.injEq] at he
       obtain⟨rfl,rfl⟩:=he
       exact .sto b i cells hw ho (Nat.le_of_ble_eq_true hb) hp rfl
      ·cases he
    ·rename_i old e es n xs
     cases hb:qg5 lo (atN (qgG st full o) full) old
     ·rw[hb] at he;cases he
     ·rw[hb,cond_true] at he
      split at he
      ·rename_i s2 hp
       simp only[Option.some.injEq,Prod.mk.injEq] at he
       obtain⟨rfl,rfl⟩:=he
       exact .app old e es n xs hw ho hb hp rfl
      ·cases he
    ·rename_i old e es n xs
     cases hb:qsv lo (atN (qgG st full o) full) old
     ·rw[hb] at he;cases he
     ·rw[hb,cond_true] at he
      split at he
      ·rename_i s2 hp
       simp only[Option.some.injEq,Prod.mk.injEq] at he
       obtain⟨rfl,rfl⟩:=he
       exact .appd old e es n xs hw ho hb hp rfl
      ·cases he
    ·cases he
   ·cases h
  ·cases h
 ·rename_i hw
  split at h
  ·rename_i s' hs
   simp only[Option.some.injEq,Prod.mk.injEq] at h
   obtain⟨rfl,rfl,rfl,rfl⟩:=h
   exact .no hw hs rfl
  ·cases h
 ·cases h
theorem MIs.props {P:Program} {call:qa3} {lo:Nat} {ops:Array Oper} {o:Oper} {st s:St} {full:List (Nat×Nat×SV)} {ef:Ef} {rd:List Nat} {q:List Prop} (h:MIs P call lo ops o st full s ef rd q) :
 s.n=st.n∧s.nb=st.nb+ef.up∧(∀ d,o.dst≠some d→qax s.tm d=qax st.tm d):=by
 obtain⟨p1,p2,p3,p4⟩:=qbM (op:=o.op) (st:=st) rfl
 cases h with
 | no hw hp ha=>subst ha;obtain⟨a1,a2,a3,a4,_⟩:=qak hp;exact⟨a1,a3,a4⟩
 | val x hw ho hp ha=>subst ha;obtain⟨a1,a2,a3,a4,_⟩:=qak hp;exact⟨a1.trans p2,a3.trans p4,fun d hd=>(a4 d hd).trans (by rw[p1])⟩
 | new t cells len hw ho hp ha=>subst ha;obtain⟨a1,a2,a3,a4,_⟩:=qak hp;exact⟨a1.trans p2,a3.trans (by simp[p4,Ef.up]),fun d hd=>(a4 d hd).trans (by simp[p1])⟩
 | sto b i cells hw ho hlo hp ha=>subst ha;obtain⟨a1,a2,a3,a4,_⟩:=qak hp;exact⟨a1.trans p2,a3.trans p4,fun d hd=>(a4 d hd).trans (by rw[p1])⟩
 | app old e es n xs hw ho hown hp ha=>subst ha;obtain⟨a1,a2,a3,a4,_⟩:=qak hp;exact⟨a1.trans p2,a3.trans (by simp[p4,Ef.up]),fun d hd=>(a4 d hd).trans (by simp[p1])⟩
 | appd old e es n xs hw ho hown hp ha=>subst ha;obtain⟨a1,a2,a3,a4,_⟩:=qak hp;exact⟨a1.trans p2,a3.trans (by simp[p4,Ef.up]),fun d hd=>(a4 d hd).trans (by simp[p1])⟩
 | call f args x s1 q1 q2 hw ho how hown hc hle hx hcells hp ha hq=>subst ha;obtain⟨a1,a2,a3,a4,_⟩:=qak hp;exact⟨a1.trans p2,a3.trans (by show s1.nb=st.nb+(s1.nb-st.nb);omega),fun d hd=>(a4 d hd).trans (by simp[p1])⟩
def qfD (sts:Nat→St) (efs:Nat→Ef) (hp:List (Nat×Nat×SV)):Nat→List (Nat×Nat×SV)
 | 0=>hp
 | n+1=>(efs n).lay (sts n).nb (qfD sts efs hp n)
def qcB (sts:Nat→St) (efs:Nat→Ef) (hp:List (Nat×Nat×SV)) (listed:Array Bool):Nat→List (Nat×Nat×SV)
 | 0=>hp
 | n+1=>bif listed.getD n false then (efs n).lay (sts n).nb (qcB sts efs hp listed n) else qcB sts efs hp listed n
structure MTr (P:Program) (call:qa3) (lo:Nat) (ops:Array Oper) (hp:List (Nat×Nat×SV)) (n:Nat) (sts:Nat→St) (efs:Nat→Ef) (rds:Nat→List Nat):Prop where
 one:∀ j,j<n→∃ o q,ops[j]?=some o∧qwh P call lo ops o (sts j) (qfD sts efs hp j)=some (sts (j+1),efs j,rds j,q)∧qaI q
theorem qjX {P:Program} {call:qa3} {lo:Nat} {ops:Array Oper}:∀ (l:List Oper) (k:Nat) (st:St) (hp:List (Nat×Nat×SV)) (H:MHead),mS P call lo ops l st hp=some H→(∀ j,l[j]?=ops[k+j]?)→qaI H.q→
 ∃ (sts:Nat→St) (efs:Nat→Ef) (rds:Nat→List Nat),sts 0=st∧H.st=sts l.length∧H.hp=qfD sts efs hp l.length∧(∀ j,j<l.length→H.bl[j]?=some ((efs j).blk (sts j).nb)∧H.rl[j]?=some (rds j))∧
  ∀ j,j<l.length→∃ o q,ops[k+j]?=some o∧qwh P call lo ops o (sts j) (qfD sts efs hp j)=some (sts (j+1),efs j,rds j,q)∧qaI q
 | [],k,st,hp,H,h,_,_=>by
  simp only[mS,Option.some.injEq] at h
  subst h
  exact⟨fun _=>st,fun _=>.no,fun _=>[],rfl,rfl,rfl,fun j hj=>absurd hj (Nat.not_lt_zero j),fun j hj=>absurd hj (Nat.not_lt_zero j)⟩
 | o::r,k,st,hp,H,h,hl,hq=>by
  have h0:ops[k]?=some o:=by simpa using (hl 0).symm
  unfold mS at h
  split at h
  ·rename_i s ef rd q h1
   split at h
   ·rename_i s' hp' q' bl rl h2
    simp only[Option.some.injEq] at h
    subst h
    obtain⟨a1,a2⟩:=qai hq
    obtain⟨sts,efs,rds,b2,b3,b4,b5,b6⟩:=qjX r (k+1) s (ef.lay st.nb hp) _ h2 (fun j=>by have:=hl (j+1);simpa [Nat.add_assoc,Nat.add_comm 1 j] using this) a2
    have hL:∀ m,qfD (fun j=>match j with | 0=>st | j+1=>sts j) (fun j=>match j with | 0=>ef | j+1=>efs j) hp (m+1)=qfD sts efs (ef.lay st.nb hp) m:=by
     intro m
     induction m with
     | zero=>rfl
     | succ m ih=>rw[qfD,ih];rfl
    refine⟨fun j=>match j with | 0=>st | j+1=>sts j,fun j=>match j with | 0=>ef | j+1=>efs j,fun j=>match j with | 0=>rd | j+1=>rds j,rfl,by simpa using b3,?_,fun j hj=>?_,fun j hj=>?_⟩
    ·rw[List.length_cons,hL];exact b4
    ·cases j with
     | zero=>exact⟨rfl,rfl⟩
     | succ j=>simpa using b5 j (by simpa using hj)
    ·cases j with
     | zero=>exact⟨o,q,by simpa using h0,by rw[← b2] at h1;exact h1,a1⟩
     | succ j=>
      obtain⟨o',q',c1,c2,c3⟩:=b6 j (by simpa using hj)
      exact⟨o',q',by rw[show k+(j+1)=k+1+j by omega];exact c1,by rw[hL];exact c2,c3⟩
   ·cases h
  ·cases h
section
variable {P:Program} {call:qa3} {ops:Array Oper} {n lo:Nat} {sts:Nat→St} {efs:Nat→Ef} {rds:Nat→List Nat} {hp0:List (Nat×Nat×SV)} {W0:Base} {β0:Bl} {bl rl:List (List Nat)}
theorem MTr.props (T:MTr P call lo ops hp0 n sts efs rds) {j:Nat} (hj:j<n):(sts (j+1)).n=(sts j).n∧(sts (j+1)).nb=(sts j).nb+(efs j).up∧
 ∀ d o,ops[j]?=some o→o.dst≠some d→qax (sts (j+1)).tm d=qax (sts j).tm d:=by
 obtain⟨o,q,ho,h1,_⟩:=T.one j hj
 obtain⟨a1,a3,a4⟩:=(qot h1).props
 exact⟨a1,a3,fun d o' ho' hd=>by rw[ho] at ho';cases ho';exact a4 d hd⟩
theorem MTr.same (T:MTr P call lo ops hp0 n sts efs rds):∀ {j:Nat},j≤n→(sts j).n=(sts 0).n
 | 0,_=>rfl
 | j+1,h=>(T.props (j:=j) (by omega)).1.trans (T.same (j:=j) (by omega))
theorem MTr.nb (T:MTr P call lo ops hp0 n sts efs rds) {i:Nat}:∀ {j:Nat},i≤j→j≤n→(sts i).nb≤(sts j).nb
 | 0,h,_=>by
  have:i=0:=by omega
  subst this;exact Nat.le_refl _
 | j+1,h,hj=>by
  by_cases e:i=j+1
  ·subst e;exact Nat.le_refl _
  ·have h1:=T.nb (i:=i) (j:=j) (by omega) (by omega)
   obtain⟨_,a3,_⟩:=T.props (j:=j) (by omega)
   rw[a3];omega
theorem MTr.slot (T:MTr P call lo ops hp0 n sts efs rds) {i d:Nat}:∀ {j:Nat},i≤j→j≤n→(∀ k o,i≤k→k<j→ops[k]?=some o→o.dst≠some d)→qax (sts j).tm d=qax (sts i).tm d
 | 0,h,_,_=>by
  have:i=0:=by omega
  subst this;rfl
 | j+1,h,hj,hk=>by
  by_cases e:i=j+1
  ·subst e;rfl
  ·obtain⟨o,q,ho,_,_⟩:=T.one j (by omega)
   obtain⟨_,_,a4⟩:=T.props (j:=j) (by omega)
   rw[a4 d o ho (hk j o (by omega) (by omega) ho)]
   exact T.slot (by omega) (by omega) fun k o' h1 h2 h3=>hk k o' h1 (by omega) h3
theorem MTr.apart (T:MTr P call lo ops hp0 n sts efs rds) {i j b:Nat} (hi:i<n) (hj:j<n) (hne:j≠i) (h1:(sts j).nb≤b) (h2:b<(sts j).nb+(efs j).up) (h3:(sts i).nb≤b) (h4:b<(sts i).nb+(efs i).up):False:=by
 rcases Nat.lt_or_ge i j with hij | hij
 ·obtain⟨_,b3,_⟩:=T.props hi
  have:=T.nb (i:=i+1) (j:=j) (by omega) (by omega)
  omega
 ·obtain⟨_,b3,_⟩:=T.props hj
  have:=T.nb (i:=j+1) (j:=i) (by omega) (by omega)
  omega
theorem qjB {listed:Array Bool} {i:Nat}:∀ {m:Nat},m≤i→qcB sts efs hp0 (listed.setIfInBounds i true) m=qcB sts efs hp0 listed m
 | 0,_=>rfl
 | m+1,h=>by rw[qcB,qcB,qjB (by omega),getD_set_ne false (by omega)]
theorem qhT (m:Nat):∀ k,qcB sts efs hp0 (Array.replicate m false) k=hp0
 | 0=>rfl
 | k+1=>by
  have:(Array.replicate m false).getD k false=false:=by
   rw[Array.getD_eq_getD_getElem?,Array.getElem?_replicate]
   split<;>rfl
  rw[qcB,this,cond_false,qhT m k]
theorem qjN {listed:Array Bool} {i:Nat} (hun:listed.getD i false=false) (his:i<listed.size) {b o:Nat} :
 ∀ {m:Nat},i<m→(∀ k,i<k→k<m→listed.getD k false=true→∀ c,qbH ((efs k).blk (sts k).nb) c=true→qbH ((efs i).blk (sts i).nb) c=true→False)→
  qae (qcB sts efs hp0 (listed.setIfInBounds i true) m) b o=((efs i).at (sts i).nb b o).getD (qae (qcB sts efs hp0 listed m) b o)
 | 0,h,_=>by omega
 | m+1,h,hk=>by
  by_cases e:i=m
  ·subst e
   have h1:(listed.setIfInBounds i true).getD i false=true:=by rw[Array.getD_eq_getD_getElem?,Array.getElem?_setIfInBounds,if_pos rfl,if_pos his];rfl
   rw[qcB,qcB,qjB (Nat.le_refl _),h1,hun,cond_true,cond_false,Ef.lay_look]
  ·have ih:=qjN hun his (b:=b) (o:=o) (m:=m) (by omega) (fun k h1 h2=>hk k h1 (by omega))
   rw[qcB,qcB,getD_set_ne false (by omega)]
   cases hl:listed.getD m false
   ·rw[cond_false,cond_false];exact ih
   ·rw[cond_true,cond_true,Ef.lay_look,Ef.lay_look,ih]
    cases e1:(efs m).at (sts m).nb b o with
    | none=>rfl
    | some x=>
     cases e2:(efs i).at (sts i).nb b o with
     | none=>rfl
     | some y=>exact (hk m (by omega) (by omega) hl b (Ef.at_blk e1) (Ef.at_blk e2)).elim
theorem qjg {listed:Array Bool}:∀ {m:Nat},(∀ j,j<m→listed.getD j false=true)→qcB sts efs hp0 listed m=qfD sts efs hp0 m
 | 0,_=>rfl
 | m+1,h=>by rw[qcB,qfD,h m (by omega),cond_true,qjg (fun j hj=>h j (by omega))]
theorem qob {listed:Array Bool} {i b o:Nat} (hi:listed.getD i false=false) (h1:∀ k,k<i→k<n→qbH ((efs k).blk (sts k).nb) b=true→listed.getD k false=true) (h2:∀ k,i<k→k<n→qbH ((efs k).blk (sts k).nb) b=true→listed.getD k false=false) :
 ∀ {m:Nat},m≤n→qae (qcB sts efs hp0 listed m) b o=qae (qfD sts efs hp0 (min m i)) b o
 | 0,_=>by rw[Nat.zero_min];rfl
 | m+1,hm=>by
  have ih:=qob hi h1 h2 (o:=o) (m:=m) (by omega)
  have hs:qae (qcB sts efs hp0 listed (m+1)) b o=if listed.getD m false=true then ((efs m).at (sts m).nb b o).getD (qae (qcB sts efs hp0 listed m) b o) else qae (qcB sts efs hp0 listed m) b o:=by
   rw[qcB]
   cases listed.getD m false
   ·rw[cond_false,if_neg (by decide)]
   ·rw[cond_true,if_pos rfl,Ef.lay_look]
  rw[hs]
  by_cases hlt:m<i
  ·rw[show min (m+1) i=m+1 by omega,qfD,Ef.lay_look,ih,show min m i=m by omega]
   cases e:(efs m).at (sts m).nb b o with
   | none=>split<;>rfl
   | some x=>rw[if_pos (h1 m hlt (by omega) (Ef.at_blk e))]
  ·rw[show min (m+1) i=i by omega,ih,show min m i=i by omega]
   by_cases e:m=i
   ·subst e
    rw[hi,if_neg (by decide)]
   ·split
    ·rename_i hl
     cases e2:(efs m).at (sts m).nb b o with
     | none=>rfl
     | some x=>
      have:=h2 m (by omega) (by omega) (Ef.at_blk e2)
      rw[this] at hl;cases hl
    ·rfl
theorem qe4 {R:List Nat} {c o:Nat} {s:SV} {hp:List (Nat×Nat×SV)} (h:qae (atN R hp) c o=some s):qbH R c=true∧qae hp c o=some s:=by
 unfold atN at h
 rw[qbQ (p:=fun d=>qbH R d)] at h
 split at h
 ·rename_i e;exact⟨e,h⟩
 ·cases h
theorem qgf (h:qnv ops bl rl n=true) {i k:Nat} (hi:i<n) (hk:k<n) (hne:k≠i) {b:Nat} {l R:List Nat} (h1:rl[i]?=some R) (hb:qbH R b=true) (h2:bl[k]?=some l) (hl:qbH l b=true):(k<i→qdM ops 2 i k=true)∧(i<k→qdM ops 2 k i=true):=by
 have a1:=List.all_eq_true.1 h i (List.mem_range.2 hi)
 rw[h1] at a1
 have a2:=List.all_eq_true.1 a1 k (List.mem_range.2 hk)
 rw[h2] at a2
 have a3:(l.any fun b=>qbH R b)=true:=by
  obtain⟨c,hc,he⟩:=List.any_eq_true.1 hl
  have:=Nat.eq_of_beq_eq_true he
  subst this
  exact List.any_eq_true.2 ⟨c,hc,hb⟩
 have a4:Nat.beq k i=false:=by
  cases e:Nat.beq k i
  ·rfl
  ·exact (hne (Nat.eq_of_beq_eq_true e)).elim
 simp only[a3,a4,Bool.not_true,Bool.false_or] at a2
 cases hb:Nat.ble (k+1) i
 ·rw[hb,cond_false] at a2
  exact⟨fun hlt=>(by rw[Nat.ble_eq_true_of_le (show k+1≤i by omega)] at hb;cases hb),fun _=>a2⟩
 ·rw[hb,cond_true] at a2
  exact⟨fun _=>a2,fun hle=>(by have:=Nat.le_of_ble_eq_true hb;omega)⟩
structure MInv (n:Nat) (sts:Nat→St) (efs:Nat→Ef) (hp0:List (Nat×Nat×SV)) (W0:Base) (lo:Nat) (β0:Bl) (listed:Array Bool) (β:Bl) (w:World):Prop where
 le:β0.le β
 h:HRel W0 lo β (qcB sts efs hp0 listed n) w
 dom:∀ b,β b≠none∨β.g b≠none→b<(sts 0).nb∨∃ j,j<n∧listed.getD j false=true∧(sts j).nb≤b∧b<(sts j).nb+(efs j).up
theorem MInv.fresh {listed:Array Bool} {β:Bl} {w:World} {i:Nat} (H:MInv n sts efs hp0 W0 lo β0 listed β w) (T:MTr P call lo ops hp0 n sts efs rds) (hin:i<n) (hil:listed.getD i true=false) (hup:(efs i).up=1):β (sts i).nb=none∧β.g (sts i).nb=none:=by
 have key:¬ (β (sts i).nb≠none∨β.g (sts i).nb≠none):=fun h=>by
  rcases H.dom _ h with e | ⟨j,a1,a2,a3,a4⟩
  ·have:=T.nb (i:=0) (j:=i) (by omega) (by omega);omega
  ·exact (T.apart hin a1 (fun e=>by subst e;rw[getD_both hil] at a2;cases a2) a3 a4 (Nat.le_refl _) (by omega)).elim
 constructor
 ·cases e:β (sts i).nb with
  | none=>rfl
  | some r=>exact (key (Or.inl (by rw[e];simp))).elim
 ·cases e:β.g (sts i).nb with
  | none=>rfl
  | some r=>exact (key (Or.inr (by rw[e];simp))).elim
theorem qr9 {listed:Array Bool} {β:Bl} {a:Act} {i:Nat} {oi:Oper} (T:MTr P call lo ops hp0 n sts efs rds) (F:FInv ops n sts listed β a) (hd:qd4 ops n=true) (hlk:qc4 ops n=true)
 (hr:i∈Region.ready .any ops listed) (hin:i<n) (hoi:ops[i]?=some oi):∀ d,d∈oi.looksAt ops→(qax (sts i).tm d).is β (a.tmps.getD d undef):=by
 intro d hdl
 obtain⟨hun,oi',hoi',hall⟩:=mem_ready.1 hr
 rw[hoi] at hoi'
 cases hoi'
 by_cases hex:∃ k o,k<n∧listed.getD k false=true∧ops[k]?=some o∧o.dst=some d
 ·obtain⟨k,o,hk,hkl,ho,hdst⟩:=hex
  have hki:k<i:=by
   rcases qct hlk hk hin ho hoi hdst hdl with e | ⟨e,_⟩ | ⟨e,hw⟩
   ·subst e;rw[getD_both hun] at hkl;cases hkl
   ·exact e
   ·obtain⟨ok,hok,e',he',hb',hon⟩:=Region.waitsFor_spec hw
    have:=F.hi.closed k ok hok hkl e' he' hb'
    rw[hon,getD_both hun] at this
    cases this
  have:=F.done k o hk hkl ho d hdst
  rwa [T.slot (i:=k+1) (j:=i) (d:=d) (by omega) (by omega) (fun m om h1 h2 h3=>qcg hd hk (by omega) (by omega) ho h3 hdst)]
 ·have hno:∀ k o,k<n→listed.getD k false=true→ops[k]?=some o→o.dst≠some d:=fun k o h1 h2 h3 h4=>hex ⟨k,o,h1,h2,h3,h4⟩
  have:=F.old d hno
  rwa [T.slot (i:=0) (j:=i) (d:=d) (by omega) (by omega) (fun m om _ h2 h3 h4=>by
   rcases qct hlk (show m<n by omega) hin h3 hoi h4 hdl with e | ⟨_,hw⟩ | ⟨e,_⟩
   ·omega
   ·obtain⟨oi',hoi',e',he',hb',hon⟩:=Region.waitsFor_spec hw
    rw[hoi] at hoi'
    cases hoi'
    have:=hall e' he' hb'
    rw[hon] at this
    exact hno m om (by omega) this h3 h4
   ·omega)]
theorem qvC (hcall:qbD P call) {Q:Exit→Act→World→Prop} {listed:Array Bool} {β:Bl} {a:Act} {w:World} {i:Nat} {K:Act→World→Prop} (T:MTr P call lo ops hp0 n sts efs rds) (hlo:lo≤(sts 0).nb) (F:FInv ops n sts listed β a) (H:MInv n sts efs hp0 W0 lo β0 listed β w)
 (hd:qd4 ops n=true) (hlk:qc4 ops n=true) (hbl:∀ j,j<n→bl[j]?=some ((efs j).blk (sts j).nb)) (hrl:∀ j,j<n→rl[j]?=some (rds j)) (hgk:qnv ops bl rl n=true) (hbk:qfA ops bl n=true) (hr:i∈Region.ready .any ops listed) (hin:i<n)
 (hK:∀ β' a' w',FInv ops n sts (listed.setIfInBounds i true) β' a'→MInv n sts efs hp0 W0 lo β0 (listed.setIfInBounds i true) β' w'→K a' w'):wpOp P ops Q i K a w:=by
 obtain⟨hun,oi,hoi,hall⟩:=mem_ready.1 hr
 obtain⟨o,q,ho,h1,hq⟩:=T.one i hin
 rw[hoi] at ho
 cases ho
 have hls:=qr9 T F hd hlk hr hin hoi
 have his:i<listed.size:=by rw[F.hi.size];exact (Array.getElem?_eq_some_iff.1 hoi).1
 have hunf:listed.getD i false=false:=getD_both hun
 have hev:∀ x∈oi.op.operands,(({ (qaA oi.op (sts i)).2 with hp:=atN (rds i) (qfD sts efs hp0 i) }:St).ev x).is β (a.eval x):=by
  intro x hx
  cases x with
  | tmp t=>
   have:=hls t (by unfold Oper.looksAt;exact List.mem_append_left _ (List.mem_filterMap.2 ⟨.tmp t,by simpa using hx,rfl⟩))
   show (qax (qaA oi.op (sts i)).2.tm t).is β (a.tmps.getD t undef)
   rw[(qbM (op:=oi.op) (st:=sts i) rfl).1]
   exact this
  | const v=>rfl
  | global g=>rfl
  | func f=>rfl
 have s1:=T.same (j:=i) (by omega)
 obtain⟨p1,p2,p3,p4⟩:=qbM (op:=oi.op) (st:=sts i) rfl
 have hloi:lo≤(sts i).nb:=Nat.le_trans hlo (T.nb (i:=0) (j:=i) (by omega) (by omega))
 have hat:∀ b o,qbH (rds i) b=true→qae (qcB sts efs hp0 listed n) b o=qae (qfD sts efs hp0 i) b o:=by
  intro b o hb
  rw[qob (n:=n) (i:=i) hunf (fun k hk hkn hkb=>?_) (fun k hk hkn hkb=>?_) (Nat.le_refl n),show min n i=i by omega]
  ·exact qeQ F.hi ((qgf hgk hin hkn (by omega) (hrl i hin) hb (hbl k hkn) hkb).1 hk) hoi hall
  ·cases hl:listed.getD k false
   ·rfl
   ·obtain⟨ok,_,hok,_⟩:=T.one k hkn
    have:=qeQ F.hi ((qgf hgk hin hkn (by omega) (hrl i hin) hb (hbl k hkn) hkb).2 hk) hok (fun e he hb=>F.hi.closed k ok hok hl e he hb)
    rw[hunf] at this;cases this
 have HG:HRel W0 lo β (atN (rds i) (qfD sts efs hp0 i)) w:=H.h.imp fun c o s e=>by
  obtain⟨e1,e2⟩:=qe4 e
  show qae _ _ _=_
  rw[hat c o e1];exact e2
 have hlook:∀ b o,qae (qcB sts efs hp0 (listed.setIfInBounds i true) n) b o=((efs i).at (sts i).nb b o).getD (qae (qcB sts efs hp0 listed n) b o):=fun b o=>by
  refine qjN hunf his hin fun k h1 h2 hkl c hc hic=>?_
  obtain⟨ok,hok,e,he,hb,hon⟩:=Region.waitsFor_spec (qcl hbk h1 h2 (b:=c) (hbl i hin) hic (hbl k h2) hc)
  have:=F.hi.closed k ok hok hkl e he hb
  rw[hon,hunf] at this
  cases this
 have hli:(listed.setIfInBounds i true).getD i false=true:=by
  rw[Array.getD_eq_getD_getElem?,Array.getElem?_setIfInBounds,if_pos rfl,if_pos his]
  rfl
 have hdom:∀ {β':Bl},(∀ b,β' b≠none∨β'.g b≠none→(β b≠none∨β.g b≠none)∨((sts i).nb≤b∧b<(sts i).nb+(efs i).up))→∀ b,β' b≠none∨β'.g b≠none→b<(sts 0).nb∨∃ j,j<n∧(listed.setIfInBounds i true).getD j false=true∧(sts j).nb≤b∧b<(sts j).nb+(efs j).up:=fun h b e=>by
  rcases h b e with e | e
  ·rcases H.dom b e with e | ⟨j,a1,a2,a3⟩
   ·exact Or.inl e
   ·exact Or.inr ⟨j,a1,getD_set_true a2,a3⟩
  ·exact Or.inr ⟨i,hin,hli,e⟩
 have stay:∀ {w'},efs i=.no→Gr w w'→MInv n sts efs hp0 W0 lo β0 (listed.setIfInBounds i true) β w':=fun hn hg=>
  ⟨H.le,(H.h.gr_mono hg).imp fun b o s e=>(by rw[hlook,hn] at e;exact e),hdom fun b e=>Or.inl e⟩
 unfold wpOp
 simp only[hoi]
 cases qot h1 with
 | no hw hp ha=>
  rw[qas hw hls,if_neg (by decide)]
  obtain⟨_,_,_,_,a5⟩:=qak hp
  exact hK β _ _ (F.step hd hr hin hoi (Bl.le_refl _) (show (SV.pv undef).is β undef from rfl) fun d hdd=>⟨(a5 d hdd).1,by rw[← s1];exact (a5 d hdd).2⟩) (stay ha (Gr.refl w))
 | val x hw hop hp ha=>
  rw[qas hw hls,if_pos rfl]
  obtain⟨_,_,_,_,a5⟩:=qak hp
  obtain⟨u,hu,hrun⟩:=qbq hop hq HG hev
  refine Or.inl ?_
  unfold Oper.wp
  rw[hrun,Oper.upon_value]
  exact hK β _ _ (F.step hd hr hin hoi (Bl.le_refl _) hu fun d hdd=>⟨(a5 d hdd).1,by rw[← s1,← p2];exact (a5 d hdd).2⟩) (stay ha (Gr.refl w))
 | new t cells len hw hop hp ha=>
  rw[qas hw hls,if_pos rfl]
  obtain⟨_,_,_,_,a5⟩:=qak hp
  obtain⟨us,hu,hone,hrun⟩:=qbq hop hq HG hev
  refine Or.inl ?_
  unfold Oper.wp
  rw[hrun,Oper.upon_value]
  obtain⟨hn,hn2⟩:=H.fresh T hin hun (by rw[ha];rfl)
  have hle:β.le (β.set (sts i).nb w.heap.size):=Bl.le_set hn hn2
  have hx:(qrh (qaA oi.op (sts i)).2.nb len).is (β.set (sts i).nb w.heap.size) (qoP w.heap.size len):=by
   rw[p4]
   cases len
   ·exact⟨_,Bl.set_same _ _ _,rfl⟩
   ·exact⟨_,Bl.set_same _ _ _,rfl⟩
  refine hK _ _ _ (F.step hd hr hin hoi hle hx fun d hdd=>⟨(a5 d hdd).1,by rw[← s1,← p2];exact (a5 d hdd).2⟩) ⟨Bl.le_trans H.le hle,(H.h.alloc hn hn2 hu hone).imp fun b o s e=>?_,hdom fun b e=>?_⟩
  ·rw[hlook,ha] at e
   simp only[Ef.at] at e
   split at e
   ·rename_i hb
    subst hb
    cases hc:cells[o]? with
    | none=>rw[hc] at e;exact Or.inl e
    | some y=>rw[hc] at e;exact Or.inr ⟨rfl,e⟩
   ·exact Or.inl e
  ·by_cases hb:b=(sts i).nb
   ·exact Or.inr (by rw[ha];exact⟨Nat.le_of_eq hb.symm,by rw[hb];exact Nat.lt_succ_self _⟩)
   ·refine Or.inl ?_
    unfold Bl.set at e
    simpa [hb] using e
 | sto b i' cells hw hop hlo' hp ha=>
  rw[qas hw hls,if_pos rfl]
  obtain⟨_,_,_,_,a5⟩:=qak hp
  obtain⟨r,us,hr',hu,hone,ht,hz,hrun⟩:=qbq hop hq HG hev
  refine Or.inl ?_
  unfold Oper.wp
  rw[hrun,Oper.upon_skip]
  refine hK β _ _ (F.step hd hr hin hoi (Bl.le_refl _) (show (SV.pv undef).is β undef from rfl) fun d hdd=>⟨(a5 d hdd).1,by rw[← s1,← p2];exact (a5 d hdd).2⟩) ⟨H.le,(H.h.store hr' hlo' hu hone ht hz).imp fun c o s e=>?_,hdom fun b e=>Or.inl e⟩
  rw[hlook,ha] at e
  have:=@Ef.lay_look (sts i).nb (.sto b i' cells) (qcB sts efs hp0 listed n) c o
  rw[← this] at e
  exact e
 | app old e es k ys hw hop hown hp ha=>
  rw[qas hw hls,if_pos rfl]
  obtain⟨_,_,_,_,a5⟩:=qak hp
  have hold:∀ b,old=some b→lo≤b∧∃ R0,qdR (atN (rds i) (qfD sts efs hp0 i)) b=some R0:=by
   intro b e1
   subst e1
   simp only[qg5,Bool.and_eq_true] at hown
   exact⟨Nat.le_of_ble_eq_true hown.1,Option.isSome_iff_exists.1 hown.2⟩
  obtain⟨u,w',row,hrun,hsl,hU,hrow,hownr,hone,hblk⟩:=qbq hop hq HG hev fun b e=>(hold b e).1
  obtain⟨hn,hn2⟩:=H.fresh T hin hun (by rw[ha];rfl)
  refine Or.inl ?_
  unfold Oper.wp
  rw[hrun,Oper.upon_value]
  have hle:β.le (β.setG (sts i).nb u):=Bl.le_setG hn hn2
  have hx:(SV.ls (qaA oi.op (sts i)).2.nb k).is (β.setG (sts i).nb u) u:=by rw[p4];exact⟨Bl.setG_same _ _ _,hsl⟩
  refine hK _ _ _ (F.step hd hr hin hoi hle hx fun d hdd=>⟨(a5 d hdd).1,by rw[← s1,← p2];exact (a5 d hdd).2⟩) ⟨Bl.le_trans H.le hle,?_,hdom fun b e=>?_⟩
  ·have hcur:∀ b R0,qdR (atN (rds i) (qfD sts efs hp0 i)) b=some R0→qae (qcB sts efs hp0 listed n) b 0=some (.row R0.e R0.es R0.n R0.xs):=fun b R0 h=>by
    obtain⟨e1,e2⟩:=qe4 (qa1 h)
    rw[hat b 0 e1];exact e2
   have hr':row=none∨∃ b u o s,old=some b∧lo≤b∧β.g b=some u∧row=u.ownBlock∧qae (qcB sts efs hp0 listed n) b o=some s∧s.isR=true:=by
    rcases hrow with e1 | ⟨b,v,e1,e2,e3⟩
    ·exact Or.inl e1
    ·obtain⟨h1,R0,h2⟩:=hold b e1
     exact Or.inr ⟨b,v,0,_,e1,h1,e2,e3,hcur b R0 h2,rfl⟩
   have H1:=(H.h.upd (Hd:=fun c o s=>qae (qaT old (qcB sts efs hp0 listed n)) c o=some s) hU (bo:=old) hr' (fun c o s hc=>⟨(qag hc).1,fun _ e=>(qag hc).2 e⟩)).setG hn hn2 u
   refine H1.addRow hloi (Bl.setG_same _ _ _) hownr hone (fun c r hc hk=>?_) (fun c o s v hc hsr hl hv k hk hk'=>?_) (fun k hk=>?_) (fun c o s hc=>?_)
   ·have hc':β c=some r:=hc
    rcases hblk r hk with e1 | e1
    ·rcases hr' with e2 | ⟨b,v,o,s0,_,f2,f3,f4,f5,f6⟩
     ·rw[e2] at e1;cases e1
     ·obtain⟨v',_,_,_,_,_,g1,g2⟩:=H.h.rows0 _ _ _ f5 f6
      rw[f3] at g1
      cases g1
      exact g2.apart f2 c r hc' (by rw[← f4];exact e1)
    ·have:=H.h.live c r hc';omega
   ·obtain⟨d1,d2⟩:=qag hc
    obtain⟨v',_,_,_,_,_,g1,g2⟩:=H.h.rows0 _ _ _ d1 hsr
    have hvv:β.g c=some v:=by
     have:=hle.g g1
     rw[hv] at this
     cases this
     exact g1
    rw[hvv] at g1
    cases g1
    rcases hblk k hk with e1 | e1
    ·rcases hr' with e2 | ⟨b,v2,o,s0,f1,f2,f3,f4,f5,f6⟩
     ·rw[e2] at e1;cases e1
     ·exact H.h.rinj0 _ _ _ _ _ _ v2 v f5 d1 f6 hsr f2 hl (fun e=>d2 (by rw[f1,e])) f3 hvv k (by rw[← f4];exact e1) hk'
    ·have:=(qal (g2.own hl) k hk').2;omega
   ·rcases hblk k hk with e1 | e1
    ·rcases hr' with e2 | ⟨b,v2,o,s0,f1,f2,f3,f4,f5,f6⟩
     ·rw[e2] at e1;cases e1
     ·exact H.h.fz.row _ _ _ _ _ f5 f6 f2 f3 (by rw[← f4];exact e1)
    ·exact H.h.fz.fresh e1
   ·have hc':qae (qcB sts efs hp0 (listed.setIfInBounds i true) n) c o=some s:=hc
    rw[hlook,ha] at hc'
    have e0:=@Ef.lay_look (sts i).nb (.app old e es k ys) (qcB sts efs hp0 listed n) c o
    rw[← e0] at hc'
    simp only[Ef.lay] at hc'
    rw[qaf] at hc'
    split at hc'
    ·rename_i e1
     cases hc'
     exact Or.inl ⟨e1.1.symm,e1.2.symm,rfl⟩
    ·refine Or.inr ⟨hc',fun hrw e=>?_⟩
     cases s<;>try cases hrw
     ·obtain⟨v',g1,_⟩:=H.h.rows _ _ _ _ _ _ (qag hc').1
      rw[e,hn2] at g1
      cases g1
     ·obtain⟨v',g1,_⟩:=H.h.maps _ _ _ (qag hc').1
      rw[e,hn] at g1
      cases g1
     ·obtain⟨v',_,g1,_⟩:=H.h.drows _ _ _ _ _ _ (qag hc').1
      rw[e,hn2] at g1
      cases g1
     ·obtain⟨v',g1,_⟩:=H.h.fz.rr _ _ _ _ _ _ (qag hc').1
      rw[e,hn2] at g1
      cases g1
     ·obtain⟨v',g1,_⟩:=H.h.fz.pr _ _ _ _ _ _ (qag hc').1
      rw[e,hn2] at g1
      cases g1
  ·by_cases hb:b=(sts i).nb
   ·exact Or.inr (by rw[ha];exact⟨Nat.le_of_eq hb.symm,by rw[hb];exact Nat.lt_succ_self _⟩)
   ·refine Or.inl ?_
    unfold Bl.setG at e
    simpa [hb] using e
 | appd old e es k ds hw hop hown hp ha=>
  rw[qas hw hls,if_pos rfl]
  obtain⟨_,_,_,_,a5⟩:=qak hp
  have hold:∀ b,old=some b→lo≤b∧∃ s0,qae (atN (rds i) (qfD sts efs hp0 i)) b 0=some s0∧s0.isR=true:=by
   intro b e1
   subst e1
   simp only[qsv,Bool.and_eq_true] at hown
   obtain⟨o1,o2⟩:=hown
   split at o2
   ·rename_i s0 hs0
    exact⟨Nat.le_of_ble_eq_true o1,s0,hs0,o2⟩
   ·cases o2
  obtain⟨u,w',row,ys,hden,hrun,hsl,hU,hrow,hownr,hone,hblk⟩:=qbq hop hq HG hev fun b e=>(hold b e).1
  obtain⟨hn,hn2⟩:=H.fresh T hin hun (by rw[ha];rfl)
  refine Or.inl ?_
  unfold Oper.wp
  rw[hrun,Oper.upon_value]
  have hle:β.le (β.setG (sts i).nb u):=Bl.le_setG hn hn2
  have hx:(SV.ls (qaA oi.op (sts i)).2.nb k).is (β.setG (sts i).nb u) u:=by rw[p4];exact⟨Bl.setG_same _ _ _,hsl⟩
  refine hK _ _ _ (F.step hd hr hin hoi hle hx fun d hdd=>⟨(a5 d hdd).1,by rw[← s1,← p2];exact (a5 d hdd).2⟩) ⟨Bl.le_trans H.le hle,?_,hdom fun b e=>?_⟩
  ·have hcur:∀ b s0,qae (atN (rds i) (qfD sts efs hp0 i)) b 0=some s0→qae (qcB sts efs hp0 listed n) b 0=some s0:=fun b s0 h=>by
    obtain⟨e1,e2⟩:=qe4 h
    rw[hat b 0 e1];exact e2
   have hr':row=none∨∃ b u o s,old=some b∧lo≤b∧β.g b=some u∧row=u.ownBlock∧qae (qcB sts efs hp0 listed n) b o=some s∧s.isR=true:=by
    rcases hrow with e1 | ⟨b,v,e1,e2,e3⟩
    ·exact Or.inl e1
    ·obtain⟨h1,s0,h2,h3⟩:=hold b e1
     exact Or.inr ⟨b,v,0,_,e1,h1,e2,e3,hcur b s0 h2,h3⟩
   have H1:=(H.h.upd (Hd:=fun c o s=>qae (qaT old (qcB sts efs hp0 listed n)) c o=some s) hU (bo:=old) hr' (fun c o s hc=>⟨(qag hc).1,fun _ e=>(qag hc).2 e⟩)).setG hn hn2 u
   refine H1.addRow0 (sr:=.drow e es k ds) rfl ⟨rfl,rfl,rfl,hden⟩ hloi (Bl.setG_same _ _ _) hownr hone (fun c r hc hk=>?_) (fun c o s v hc hsr hl hv k hk hk'=>?_) (fun k hk=>?_) (fun c o s hc=>?_)
   ·have hc':β c=some r:=hc
    rcases hblk r hk with e1 | e1
    ·rcases hr' with e2 | ⟨b,v,o,s0,_,f2,f3,f4,f5,f6⟩
     ·rw[e2] at e1;cases e1
     ·obtain⟨v',_,_,_,_,_,g1,g2⟩:=H.h.rows0 _ _ _ f5 f6
      rw[f3] at g1
      cases g1
      exact g2.apart f2 c r hc' (by rw[← f4];exact e1)
    ·have:=H.h.live c r hc';omega
   ·obtain⟨d1,d2⟩:=qag hc
    obtain⟨v',_,_,_,_,_,g1,g2⟩:=H.h.rows0 _ _ _ d1 hsr
    have hvv:β.g c=some v:=by
     have:=hle.g g1
     rw[hv] at this
     cases this
     exact g1
    rw[hvv] at g1
    cases g1
    rcases hblk k hk with e1 | e1
    ·rcases hr' with e2 | ⟨b,v2,o,s0,f1,f2,f3,f4,f5,f6⟩
     ·rw[e2] at e1;cases e1
     ·exact H.h.rinj0 _ _ _ _ _ _ v2 v f5 d1 f6 hsr f2 hl (fun e=>d2 (by rw[f1,e])) f3 hvv k (by rw[← f4];exact e1) hk'
    ·have:=(qal (g2.own hl) k hk').2;omega
   ·rcases hblk k hk with e1 | e1
    ·rcases hr' with e2 | ⟨b,v2,o,s0,f1,f2,f3,f4,f5,f6⟩
     ·rw[e2] at e1;cases e1
     ·exact H.h.fz.row _ _ _ _ _ f5 f6 f2 f3 (by rw[← f4];exact e1)
    ·exact H.h.fz.fresh e1
   ·have hc':qae (qcB sts efs hp0 (listed.setIfInBounds i true) n) c o=some s:=hc
    rw[hlook,ha] at hc'
    have e0:=@Ef.lay_look (sts i).nb (.appd old e es k ds) (qcB sts efs hp0 listed n) c o
    rw[← e0] at hc'
    simp only[Ef.lay] at hc'
    rw[qaf] at hc'
    split at hc'
    ·rename_i e1
     cases hc'
     exact Or.inl ⟨e1.1.symm,e1.2.symm,rfl⟩
    ·refine Or.inr ⟨hc',fun hrw e=>?_⟩
     cases s<;>try cases hrw
     ·obtain⟨v',g1,_⟩:=H.h.rows _ _ _ _ _ _ (qag hc').1
      rw[e,hn2] at g1
      cases g1
     ·obtain⟨v',g1,_⟩:=H.h.maps _ _ _ (qag hc').1
      rw[e,hn] at g1
      cases g1
     ·obtain⟨v',_,g1,_⟩:=H.h.drows _ _ _ _ _ _ (qag hc').1
      rw[e,hn2] at g1
      cases g1
     ·obtain⟨v',g1,_⟩:=H.h.fz.rr _ _ _ _ _ _ (qag hc').1
      rw[e,hn2] at g1
      cases g1
     ·obtain⟨v',g1,_⟩:=H.h.fz.pr _ _ _ _ _ _ (qag hc').1
      rw[e,hn2] at g1
      cases g1
  ·by_cases hb:b=(sts i).nb
   ·exact Or.inr (by rw[ha];exact⟨Nat.le_of_eq hb.symm,by rw[hb];exact Nat.lt_succ_self _⟩)
   ·refine Or.inl ?_
    unfold Bl.setG at e
    simpa [hb] using e
 | call f args x s' q1 q2 hw hop how hown hc hnb hxn hcells hp ha hqq=>
  rw[qas hw hls,if_pos rfl]
  obtain⟨_,_,_,_,a5⟩:=qak hp
  subst hqq
  obtain⟨hq1,hq2⟩:=qai hq
  obtain⟨us,hu,hrun⟩:=qbq hop hq1 HG hev
  refine Or.inl ?_
  unfold Oper.wp
  rw[hrun,Oper.upon_enter]
  obtain⟨e1,e2,e4⟩:=hcall hc hq2
  have Hb:HRel w (sts i).nb (β.cutM (sts i).nb) (atN (rds i) (qfD sts efs hp0 i)) w:=HG.cutM fun b o s hs=>by
   have:=List.all_eq_true.1 hown _ (qaj hs)
   simp only[Bool.and_eq_true] at this
   exact⟨Nat.le_of_ble_eq_true this.1,this.2⟩
  refine (e4 w (β.cutM (sts i).nb) us w Hb (by show (β.cutM (sts i).nb).dom (qaA oi.op (sts i)).2.nb;rw[p4];exact Bl.cutM_dom _ _) (by show (sts i).nb≤(qaA oi.op (sts i)).2.nb;rw[p4];exact Nat.le_refl _) (SV.own_isl (Bl.cutM_sub β _) how hu)).mono fun e w' hh=>?_
  obtain⟨v,γ,rfl,hleγ,hx,hH,_,_⟩:=hh
  have hk:(sts i).nb+(s'.nb-(sts i).nb)=s'.nb:=by omega
  have hup:(efs i).up=s'.nb-(sts i).nb:=by rw[ha];rfl
  have hfr:∀ b,(sts i).nb≤b→b<(sts i).nb+(s'.nb-(sts i).nb)→β b=none∧β.g b=none:=fun b h1 h2=>by
   have key:¬ (β b≠none∨β.g b≠none):=fun h=>by
    rcases H.dom _ h with e | ⟨j,a1,a2,a3,a4⟩
    ·have:=T.nb (i:=0) (j:=i) (by omega) (by omega);omega
    ·exact (T.apart hin a1 (fun e=>by subst e;rw[hunf] at a2;cases a2) a3 a4 h1 (by omega)).elim
   constructor
   ·cases e:β b with
    | none=>rfl
    | some r=>exact (key (Or.inl (by rw[e];simp))).elim
   ·cases e:β.g b with
    | none=>rfl
    | some r=>exact (key (Or.inr (by rw[e];simp))).elim
  have hle:β.le (β.mixN γ (sts i).nb (s'.nb-(sts i).nb)):=Bl.mixN_le hfr hleγ.2.1
  have hx':x.is (β.mixN γ (sts i).nb (s'.nb-(sts i).nb)) v:=SV.inN_is (Bl.mixN_in _ _ _ _) (by rw[hk];exact hxn) hx
  refine hK _ _ _ (F.step hd hr hin hoi hle hx' fun d hdd=>⟨(a5 d hdd).1,by rw[← s1,← p2];exact (a5 d hdd).2⟩) ⟨Bl.le_trans H.le hle,?_,hdom fun b e=>?_⟩
  ·refine H.h.join hloi hfr hH hleγ.2.1 hleγ.2.2 (fun b o s h1 h2 hs=>?_) (fun b o s hs=>?_)
   ·have hm:=List.all_eq_true.1 hcells _ (qaj hs)
    rw[Nat.ble_eq_true_of_le h1,Nat.ble_eq_true_of_le (show b+1≤s'.nb by omega)] at hm
    simp only[Bool.and_true,Bool.not_true,Bool.false_or,Bool.or_eq_true] at hm
    refine hm.imp id fun hm x hx=>SV.inA_is (Bl.mixN_in _ _ _ _) (fun c hc=>?_) (by rw[hk];exact hm) hx
    obtain⟨g1,g2⟩:=hleγ.1 c (qoj (SV.own_isl (Bl.cutM_sub β _) how hu) c hc)
    refine⟨fun r e=>?_,fun u e=>?_⟩
    ·rw[g1] at e
     obtain⟨e1,e2⟩:=Bl.cutM_f e
     exact hle.f e2
    ·rw[g2] at e
     have e':(if c<(sts i).nb then β.g c else none)=some u:=e
     split at e'
     ·exact hle.g e'
     ·cases e'
   ·have hs':qae (qcB sts efs hp0 (listed.setIfInBounds i true) n) b o=some s:=hs
    rw[hlook,ha] at hs'
    simp only[Ef.at] at hs'
    split at hs'
    ·rename_i hb
     cases e1:qae s'.hp b o with
     | none=>rw[e1] at hs';exact Or.inr hs'
     | some y=>rw[e1] at hs';exact Or.inl ⟨hb.1,hb.2,hs'⟩
    ·exact Or.inr hs'
  ·by_cases hb:(sts i).nb≤b∧b<(sts i).nb+(s'.nb-(sts i).nb)
   ·exact Or.inr ⟨hb.1,by omega⟩
   ·refine Or.inl ?_
    unfold Bl.mixN at e
    simpa [hb] using e
theorem qxX {listed:Array Bool} {β:Bl} {a:Act} {w:World} (T:MTr P call lo ops hp0 n sts efs rds) (F:FInv ops n sts listed β a) (H:MInv n sts efs hp0 W0 lo β0 listed β w) (hlo:lo≤(sts 0).nb) (hd:qd4 ops n=true)
 (hall:∀ j,j<n→listed.getD j false=true):Rel W0 lo β { sts n with hp:=qfD sts efs hp0 n } a w:=by
 have s1:=T.same (j:=n) (Nat.le_refl _)
 have h0n:=T.nb (i:=0) (j:=n) (by omega) (by omega)
 refine⟨⟨by rw[F.size];exact s1.symm,F.defers,fun d=>?_⟩,(by have:=H.h;rw[qjg hall] at this;exact this),fun b hb=>?_,Nat.le_trans hlo h0n⟩
 ·show (qax (sts n).tm d).is β _
  by_cases hex:∃ k o,k<n∧ops[k]?=some o∧o.dst=some d
  ·obtain⟨k,o,hk,ho,hdst⟩:=hex
   rw[T.slot (i:=k+1) (j:=n) (d:=d) (by omega) (by omega) (fun m om h1 h2 h3=>qcg hd hk (by omega) (by omega) ho h3 hdst)]
   exact F.done k o hk (hall k hk) ho d hdst
  ·rw[T.slot (i:=0) (j:=n) (d:=d) (by omega) (by omega) (fun m om _ h2 h3 h4=>hex ⟨m,om,h2,h3,h4⟩)]
   exact F.old d fun k o h1 _ h3 h4=>hex ⟨k,o,h1,h3,h4⟩
 ·have hb':(sts n).nb≤b:=hb
  have key:¬ (β b≠none∨β.g b≠none):=fun h=>by
   rcases H.dom b h with e | ⟨j,h1,_,h3,h4⟩
   ·omega
   ·obtain⟨_,b3,_⟩:=T.props h1
    have:=T.nb (i:=j+1) (j:=n) (by omega) (by omega)
    omega
  constructor
  ·cases e:β b with
   | none=>rfl
   | some r=>exact (key (Or.inl (by rw[e];simp))).elim
  ·cases e:β.g b with
   | none=>rfl
   | some r=>exact (key (Or.inr (by rw[e];simp))).elim
theorem qwx (hcall:qbD P call) {Q:Exit→Act→World→Prop} (T:MTr P call lo ops hp0 n sts efs rds) (hn:n=ops.size) (hlo:lo≤(sts 0).nb) (he:qfO ops n=true) (hd:qd4 ops n=true) (hlk:qc4 ops n=true) (hbl:∀ j,j<n→bl[j]?=some ((efs j).blk (sts j).nb)) (hrl:∀ j,j<n→rl[j]?=some (rds j)) (hgk:qnv ops bl rl n=true) (hbk:qfA ops bl n=true)
 (hfin:∀ β a w,β0.le β→Rel W0 lo β { sts n with hp:=qfD sts efs hp0 n } a w→Q .normal a w) :
 ∀ (m:Nat) (listed:Array Bool) (β:Bl) (a:Act) (w:World),cnt listed n=m→FInv ops n sts listed β a→MInv n sts efs hp0 W0 lo β0 listed β w→wpAny P .any ops Q m listed a w:=by
 intro m
 induction m with
 | zero=>
  intro listed β a w hc F H
  have hall:∀ j,j<n→listed.getD j false=true:=by
   intro j hj
   have:=qeJ hc j hj
   have hs:j<listed.size:=by rw[F.hi.size];omega
   rw[Array.getD_eq_getD_getElem?,Array.getElem?_eq_getElem hs] at this ⊢
   simpa using this
  refine⟨?_,hfin β a w H.le (qxX T F H hlo hd hall)⟩
  cases hr:Region.ready .any ops listed with
  | nil=>rfl
  | cons i r=>
   have hi:i∈Region.ready .any ops listed:=by rw[hr];simp
   obtain⟨hun,oi,hoi,_⟩:=mem_ready.1 hi
   have hi':=(Array.getElem?_eq_some_iff.1 hoi).1
   have:=hall i (by omega)
   rw[getD_both hun] at this;cases this
 | succ m ih=>
  intro listed β a w hc F H
  obtain⟨j,hj,hun,hless⟩:=qit (listed:=listed) (n:=n) (by omega)
  have hready:j∈Region.ready .any ops listed:=by
   obtain⟨o,q,ho,_,_⟩:=T.one j hj
   refine mem_ready.2 ⟨hun,o,ho,fun e hee hb=>?_⟩
   have hlt:=qeW he hj ho e hee hb
   have:=hless e.on hlt
   have hs:e.on<listed.size:=by rw[F.hi.size];omega
   rw[Array.getD_eq_getD_getElem?,Array.getElem?_eq_getElem hs] at this ⊢
   simpa using this
  refine⟨fun h0=>(by rw[h0] at hready;cases hready),fun i hi=>?_⟩
  have hin:i<n:=by
   obtain⟨_,oi,hoi,_⟩:=mem_ready.1 hi
   have:=(Array.getElem?_eq_some_iff.1 hoi).1
   omega
  refine qvC hcall T hlo F H hd hlk hbl hrl hgk hbk hi hin fun β' a' w' F' H'=>ih _ β' a' w' ?_ F' H'
  have:=qix (listed:=listed) (i:=i) (mem_ready.1 hi).1 (n:=n) hin
  omega
theorem qq1 (hcall:qbD P call) {Q:Exit→Act→World→Prop} {st st':St} {q:List Prop} {β:Bl} {a:Act} {w:World} (h:mdS P call lo ops st=some (st',q)) (hq:qaI q) (R:Rel W0 lo β st a w) (hQ:∀ β' a' w',β.le β'→Rel W0 lo β' st' a' w'→Q .normal a' w') :
 wpAny P .any ops Q ops.size (Array.replicate ops.size false) a w:=by
 unfold mdS at h
 split at h
 ·rename_i s hp q1 bl rl hm
  cases hb:(Region.noSelect ops&&qfO ops ops.size&&qd4 ops ops.size&&qc4 ops ops.size&&qfA ops bl ops.size&&qnv ops bl rl ops.size)
  ·rw[hb] at h;cases h
  ·rw[hb,cond_true] at h
   simp only[Option.some.injEq,Prod.mk.injEq] at h
   obtain⟨rfl,rfl⟩:=h
   simp only[Bool.and_eq_true] at hb
   obtain⟨⟨⟨⟨⟨c1,c2⟩,c3⟩,c4⟩,c5⟩,c6⟩:=hb
   obtain⟨sts,efs,rds,b2,b3,b4,b5,b6⟩:=qjX ops.toList 0 st st.hp _ hm (by simp) hq
   have hl:ops.toList.length=ops.size:=by simp
   rw[hl] at b3 b4 b5 b6
   simp only at b3 b4 b5
   have T:MTr P call lo ops st.hp ops.size sts efs rds:=⟨fun j hj=>by simpa using b6 j hj⟩
   have F:FInv ops ops.size sts (Array.replicate ops.size false) β a:=by
    refine⟨⟨by simp,fun j oj _ hl=>(by rw[getD_replicate_false] at hl;cases hl),fun t _ ht=>?_⟩,by rw[b2];exact R.t.size,R.t.defers,fun j o _ hl=>(by rw[getD_replicate_false] at hl;cases hl),fun d _=>by rw[b2];exact R.t.tmps d⟩
    rw[Array.getD_eq_getD_getElem?,Array.getElem?_replicate,if_pos ht]
    rfl
   have H:MInv ops.size sts efs st.hp W0 lo β (Array.replicate ops.size false) β w:=by
    refine⟨Bl.le_refl _,by rw[qhT];exact R.h,fun b e=>?_⟩
    rw[b2]
    rcases Nat.lt_or_ge b st.nb with h | h
    ·exact Or.inl h
    ·obtain⟨d1,d2⟩:=R.dom b h
     rcases e with e | e
     ·exact (e d1).elim
     ·exact (e d2).elim
   refine qwx hcall (β0:=β) (bl:=bl) (rl:=rl) T rfl (by rw[b2];exact R.lo) c2 c3 c4 (fun j hj=>(b5 j hj).1) (fun j hj=>(b5 j hj).2) c6 c5 (fun β' a' w' hle R'=>hQ β' a' w' hle ?_) ops.size _ β a w (qgD _ _ (Nat.le_refl _)) F H
   subst b3 b4
   exact R'
 ·cases h
end
end Go.Proofs.YtleaeldgaflmkaaGreat
