/-
  A run of Go code over plain values and blocks of its own, worked out by reduction: what an operation yields. Conditions: none.
-/
import Derived.StillTail
import Derived.Deep.MidRow
import Derived.ChangeKeysEq
import Derived.Laws.IdiomCopy
import Derived.Laws.StructEq
import Derived.KernelRfl
import Derived.RowKit3
import Derived.Below
import Derived.Deep.Draws
import Derived.Laws.AppendOwn
namespace Go.Proofs.YtkckcgpmnipnaaaGreat
set_option maxRecDepth 100000
open Go.RowKit
def Gr (w w':World):Prop:=Below w.heap.size w w'∧(∀ a,a.block<w.heap.size→w'.frozen? a=w.frozen? a)∧w.drawn≤w'.drawn
theorem Gr.refl (w:World):Gr w w:=⟨Below.refl _ _,fun _ _=>rfl,Nat.le_refl _⟩
theorem Gr.of_eq {w w':World} (h:w=w'):Gr w w':=by subst h;exact Gr.refl _
theorem Gr.trans {a b c:World} (h:Gr a b) (k:Gr b c):Gr a c:=⟨h.1.trans (k.1.mono h.1.size),fun x hx=>(k.2.1 x (Nat.lt_of_lt_of_le hx h.1.size)).trans (h.2.1 x hx),Nat.le_trans h.2.2 k.2.2⟩
theorem Gr.drew {a w:World} (h:Gr a w):Gr a w.drew:=⟨h.1.drew,h.2.1,Nat.le_succ_of_le h.2.2⟩
theorem Gr.drewN {a w:World} (h:Gr a w) (n:Nat):Gr a (w.drewN n):=⟨⟨h.1.os,h.1.tape,h.1.output,h.1.size,h.1.block⟩,h.2.1,Nat.le_trans h.2.2 (Nat.le_add_right _ _)⟩
theorem Gr.alloc {a w:World} (h:Gr a w) (c:Array Value) (t:TypeId):Gr a (w.alloc (.cells c t)):=⟨h.1.alloc h.1.size _,fun x hx=>(frozen?_alloc_cells w c t x).trans (h.2.1 x hx),h.2.2⟩
theorem Gr.setCell {a w:World} (h:Gr a w) {p:Addr} (hp:a.heap.size≤p.block) (v:Value):Gr a (w.setCell p v):=⟨h.1.setCell hp v,fun x hx=>(World.frozen?_setCell _ _ _ _).trans (h.2.1 x hx),h.2.2⟩
theorem Gr.cell {a w:World} (h:Gr a w) (b o:Nat) (hb:b<a.heap.size):w.cell? ⟨b,o,none⟩=a.cell? ⟨b,o,none⟩:=h.1.cell (p:=⟨b,o,none⟩) hb
theorem Gr.size {a w:World} (h:Gr a w):a.heap.size≤w.heap.size:=h.1.size
theorem Gr.setCells {a:World} (b:Nat) (hb:a.heap.size≤b):∀ (vs:List Value) (o:Nat) (w:World),Gr a w→Gr a (w.setCells b o vs)
 | [],_,_,h=>h
 | v::r,o,_,h=>Gr.setCells b hb r (o+1) _ (h.setCell hb v)
theorem qiS (w:World) (p:Addr) (v:Value):(w.setCell p v).heap.size=w.heap.size:=by simp[World.setCell]
theorem qcN (b:Nat):∀ (vs:List Value) (o:Nat) (w:World),(w.setCells b o vs).heap.size=w.heap.size
 | [],_,_=>rfl
 | v::r,o,w=>by rw[World.setCells,qcN b r,qiS]
def Pure (P:Program) (f:FuncId) (args:Array Value) (v:Value):Prop:=∀ w,Calls P f args w fun e w'=>e=.returned v∧Gr w w'
inductive S0 where
 | pv (x:Value)
 | pp (b o:Nat)
 | ps (b o len cap:Nat)
 | ls (b len:Nat)
 | lq (b es k len:Nat)
 | lp (b q:Nat)
 | mp (b:Nat)
inductive S1 where
 | one (s:S0)
 | ag (l:List S0)
inductive SV where
 | pv (x:Value)
 | pp (b o:Nat)
 | ps (b o len cap:Nat)
 | ls (b len:Nat)
 | lq (b es k len:Nat)
 | lp (b q:Nat)
 | mp (b:Nat)
 | pc (f:FuncId) (cap:List S0)
 | ag (l:List S0)
 | tu (l:List S1)
 | any
 | row (e:TypeId) (es n:Nat) (xs:List Value)
 | mrow (xs:List Value)
structure Bl where
 f:Nat→Option Nat
 g:Nat→Option Value
instance:CoeFun Bl fun _=>Nat→Option Nat:=⟨Bl.f⟩
def Bl.no:Bl:=⟨fun _=>none,fun _=>none⟩
def Bl.le (β γ:Bl):Prop:=∀ b,(β b≠none∨β.g b≠none)→γ b=β b∧γ.g b=β.g b
theorem Bl.le.f {β γ:Bl} (h:β.le γ) {b r:Nat} (e:β b=some r):γ b=some r:=((h b (Or.inl (by rw[e];simp))).1).trans e
theorem Bl.le.g {β γ:Bl} (h:β.le γ) {b:Nat} {u:Value} (e:β.g b=some u):γ.g b=some u:=((h b (Or.inr (by rw[e];simp))).2).trans e
def Bl.dom (β:Bl) (n:Nat):Prop:=∀ b,n≤b→β b=none∧β.g b=none
def Bl.set (β:Bl) (n r:Nat):Bl:=⟨fun b=>if b=n then some r else β b,β.g⟩
def Bl.setG (β:Bl) (n:Nat) (u:Value):Bl:=⟨β.f,fun b=>if b=n then some u else β.g b⟩
theorem Bl.le_refl (β:Bl):β.le β:=fun _ _=>⟨rfl,rfl⟩
theorem Bl.le_trans {β γ δ:Bl} (h:β.le γ) (k:γ.le δ):β.le δ:=fun b e=>by
 obtain⟨h1,h2⟩:=h b e;obtain⟨k1,k2⟩:=k b (by rw[h1,h2];exact e);exact⟨k1.trans h1,k2.trans h2⟩
theorem Bl.le_set {β:Bl} {n r:Nat} (h:β n=none) (h2:β.g n=none):β.le (β.set n r):=fun b e=>by
 unfold Bl.set;refine⟨?_,rfl⟩
 show (if b=n then some r else β b)=β b
 split
 ·rename_i hb;subst hb;rcases e with e | e
  ·exact (e h).elim
  ·exact (e h2).elim
 ·rfl
theorem Bl.le_setG {β:Bl} {n:Nat} {u:Value} (h:β n=none) (h2:β.g n=none):β.le (β.setG n u):=fun b e=>by
 unfold Bl.setG;refine⟨rfl,?_⟩
 show (if b=n then some u else β.g b)=β.g b
 split
 ·rename_i hb;subst hb;rcases e with e | e
  ·exact (e h).elim
  ·exact (e h2).elim
 ·rfl
theorem Bl.set_same (β:Bl) (n r:Nat):β.set n r n=some r:=by simp[Bl.set]
theorem Bl.setG_same (β:Bl) (n:Nat) (u:Value):(β.setG n u).g n=some u:=by simp[Bl.setG]
def Bl.sub (n:Nat) (γ β:Bl):Prop:=(∀ b r,b<n→γ b=some r→β b=some r)∧∀ b u,b<n→γ.g b=some u→β.g b=some u
def S0.is (β:Bl):S0→Value→Prop
 | .pv y,x=>x=y
 | .pp b o,x=>∃ r,β b=some r∧x=.pointer (some ⟨r,o,none⟩)
 | .ps b o l c,x=>∃ r,β b=some r∧x=.slice (some ⟨r,o,none⟩) l c
 | .ls b l,x=>β.g b=some x∧∃ a c,x=.slice a l c
 | .lq b es k l,x=>∃ a n c a' c',β.g b=some (.slice a n c)∧k+l≤n∧l≤c'∧x=.slice a' l c'∧(0<l→∃ r o,a=some ⟨r,o,none⟩∧a'=some ⟨r,o+k*es,none⟩)
 | .lp b q,x=>∃ r o n c,β.g b=some (.slice (some ⟨r,o,none⟩) n c)∧x=.pointer (some ⟨r,o+q,none⟩)
 | .mp b,x=>∃ r,β b=some r∧x=.map (some r)
def S0.isl (β:Bl):List S0→List Value→Prop
 | [],[]=>True
 | s::ss,v::vs=>s.is β v∧S0.isl β ss vs
 | _,_=>False
def S1.is (β:Bl):S1→Value→Prop
 | .one s,x=>s.is β x
 | .ag l,x=>∃ vs,S0.isl β l vs∧x=.agg vs.toArray
def S1.isl (β:Bl):List S1→List Value→Prop
 | [],[]=>True
 | s::ss,v::vs=>s.is β v∧S1.isl β ss vs
 | _,_=>False
def S0.up:S0→SV
 | .pv x=>.pv x
 | .pp b o=>.pp b o
 | .ps b o l c=>.ps b o l c
 | .ls b l=>.ls b l
 | .lq b es k l=>.lq b es k l
 | .lp b q=>.lp b q
 | .mp b=>.mp b
def S1.up:S1→SV
 | .one s=>s.up
 | .ag l=>.ag l
def SV.down:SV→Option S0
 | .pv x=>some (.pv x)
 | .pp b o=>some (.pp b o)
 | .ps b o l c=>some (.ps b o l c)
 | .ls b l=>some (.ls b l)
 | .lq b es k l=>some (.lq b es k l)
 | .lp b q=>some (.lp b q)
 | .mp b=>some (.mp b)
 | _=>none
def SV.down1:SV→Option S1
 | .ag l=>some (.ag l)
 | s=>match s.down with
  | some d=>some (.one d)
  | none=>none
def SV.is (β:Bl):SV→Value→Prop
 | .pv y,x=>x=y
 | .pp b o,x=>(S0.pp b o).is β x
 | .ps b o l c,x=>(S0.ps b o l c).is β x
 | .ls b l,x=>(S0.ls b l).is β x
 | .lq b es k l,x=>(S0.lq b es k l).is β x
 | .lp b q,x=>(S0.lp b q).is β x
 | .mp b,x=>(S0.mp b).is β x
 | .pc f cap,x=>∃ vs,S0.isl β cap vs∧x=.func (.func f) #[] vs.toArray
 | .ag l,x=>∃ vs,S0.isl β l vs∧x=.agg vs.toArray
 | .tu l,x=>∃ vs,S1.isl β l vs∧x=.tuple vs.toArray
 | .any,_=>True
 | .row ..,_=>False
 | .mrow _,_=>False
def SV.isl (β:Bl):List SV→List Value→Prop
 | [],[]=>True
 | s::ss,v::vs=>s.is β v∧SV.isl β ss vs
 | _,_=>False
theorem S0.is_mono {β γ:Bl} (h:β.le γ) {s:S0} {x:Value} (k:s.is β x):s.is γ x:=by
 cases s with
 | pv y=>exact k
 | pp b o=>obtain⟨r,h1,h2⟩:=k;exact⟨r,h.f h1,h2⟩
 | ps b o l c=>obtain⟨r,h1,h2⟩:=k;exact⟨r,h.f h1,h2⟩
 | ls b l=>exact⟨h.g k.1,k.2⟩
 | lq b es kk l=>obtain⟨a,n,c,a',c',h1,h2⟩:=k;exact⟨a,n,c,a',c',h.g h1,h2⟩
 | lp b q=>obtain⟨r,o,n,c,h1,h2⟩:=k;exact⟨r,o,n,c,h.g h1,h2⟩
 | mp b=>obtain⟨r,h1,h2⟩:=k;exact⟨r,h.f h1,h2⟩
theorem S0.isl_mono {β γ:Bl} (h:β.le γ):∀ {ss:List S0} {vs:List Value},S0.isl β ss vs→S0.isl γ ss vs
 | [],[],_=>trivial
 | [],_::_,k=>k.elim
 | _::_,[],k=>k.elim
 | _::_,_::_,k=>⟨S0.is_mono h k.1,S0.isl_mono h k.2⟩
theorem S1.is_mono {β γ:Bl} (h:β.le γ) {s:S1} {x:Value} (k:s.is β x):s.is γ x:=by
 cases s with
 | one s=>exact S0.is_mono h k
 | ag l=>obtain⟨vs,h1,h2⟩:=k;exact⟨vs,S0.isl_mono h h1,h2⟩
theorem S1.isl_mono {β γ:Bl} (h:β.le γ):∀ {ss:List S1} {vs:List Value},S1.isl β ss vs→S1.isl γ ss vs
 | [],[],_=>trivial
 | [],_::_,k=>k.elim
 | _::_,[],k=>k.elim
 | _::_,_::_,k=>⟨S1.is_mono h k.1,S1.isl_mono h k.2⟩
theorem SV.is_mono {β γ:Bl} (h:β.le γ) {s:SV} {x:Value} (k:s.is β x):s.is γ x:=by
 cases s with
 | pv y=>exact k
 | pp b o=>exact S0.is_mono (s:=.pp b o) h k
 | ps b o l c=>exact S0.is_mono (s:=.ps b o l c) h k
 | ls b l=>exact S0.is_mono (s:=.ls b l) h k
 | lq b es kk l=>exact S0.is_mono (s:=.lq b es kk l) h k
 | lp b q=>exact S0.is_mono (s:=.lp b q) h k
 | mp b=>exact S0.is_mono (s:=.mp b) h k
 | pc f cap=>obtain⟨vs,h1,h2⟩:=k;exact⟨vs,S0.isl_mono h h1,h2⟩
 | ag l=>obtain⟨vs,h1,h2⟩:=k;exact⟨vs,S0.isl_mono h h1,h2⟩
 | tu l=>obtain⟨vs,h1,h2⟩:=k;exact⟨vs,S1.isl_mono h h1,h2⟩
 | any=>trivial
 | row e es n xs=>exact k
 | mrow xs=>exact k
theorem SV.isl_mono {β γ:Bl} (h:β.le γ):∀ {ss:List SV} {vs:List Value},SV.isl β ss vs→SV.isl γ ss vs
 | [],[],_=>trivial
 | [],_::_,k=>k.elim
 | _::_,[],k=>k.elim
 | _::_,_::_,k=>⟨SV.is_mono h k.1,SV.isl_mono h k.2⟩
theorem S0.up_is {β:Bl} {s:S0} {x:Value}:s.up.is β x↔s.is β x:=by cases s<;>exact Iff.rfl
theorem S1.up_is {β:Bl} {s:S1} {x:Value}:s.up.is β x↔s.is β x:=by
 cases s with
 | one s=>exact S0.up_is
 | ag l=>exact Iff.rfl
theorem SV.down_is {β:Bl} {s:SV} {d:S0} {x:Value} (h:s.down=some d):s.is β x↔d.is β x:=by
 cases s<;>simp[SV.down] at h<;>subst h<;>exact Iff.rfl
theorem SV.down1_is {β:Bl} {s:SV} {d:S1} {x:Value} (h:s.down1=some d):s.is β x↔d.is β x:=by
 unfold SV.down1 at h;split at h
 ·simp only[Option.some.injEq] at h;subst h;exact Iff.rfl
 ·split at h
  ·rename_i e he;simp only[Option.some.injEq] at h;subst h;exact SV.down_is he
  ·cases h
theorem SV.isl_append {β:Bl}:∀ {a b:List SV} {x y:List Value},SV.isl β a x→SV.isl β b y→SV.isl β (a++b) (x++y)
 | [],_,[],_,_,k=>k
 | [],_,_::_,_,h,_=>h.elim
 | _::_,_,[],_,h,_=>h.elim
 | _::_,_,_::_,_,h,k=>⟨h.1,SV.isl_append h.2 k⟩
theorem S0.isl_up {β:Bl}:∀ {a:List S0} {x:List Value},S0.isl β a x→SV.isl β (a.map S0.up) x
 | [],[],_=>trivial
 | [],_::_,h=>h.elim
 | _::_,[],h=>h.elim
 | _::_,_::_,h=>⟨S0.up_is.2 h.1,S0.isl_up h.2⟩
theorem SV.isl_v {β:Bl}:∀ (l:List Value),SV.isl β (l.map .pv) l
 | []=>trivial
 | _::l=>⟨rfl,SV.isl_v l⟩
theorem S0.isl_v {β:Bl}:∀ (l:List Value),S0.isl β (l.map .pv) l
 | []=>trivial
 | _::l=>⟨rfl,S0.isl_v l⟩
theorem SV.isl_v_eq {β:Bl}:∀ {l x:List Value},SV.isl β (l.map .pv) x→x=l
 | [],[],_=>rfl
 | [],_::_,h=>h.elim
 | _::_,[],h=>h.elim
 | _::_,_::_,h=>by rw[SV.isl_v_eq h.2,show _=_ from h.1]
theorem SV.isl_get {β:Bl}:∀ {a:List SV} {x:List Value},SV.isl β a x→a.length=x.length∧∀ (j:Nat) (s:SV),a[j]?=some s→∃ u,x[j]?=some u∧s.is β u
 | [],[],_=>⟨rfl,fun j s h=>by simp at h⟩
 | [],_::_,h=>h.elim
 | _::_,[],h=>h.elim
 | s::a,u::x,h=>by
  obtain⟨h1,h2⟩:=SV.isl_get h.2;refine⟨by simp[h1],fun j t hj=>?_⟩
  cases j with
  | zero=>simp at hj;subst hj;exact⟨u,by simp,h.1⟩
  | succ j=>simpa using h2 j t (by simpa using hj)
theorem S0.isl_get {β:Bl}:∀ {a:List S0} {x:List Value},S0.isl β a x→a.length=x.length∧∀ (j:Nat) (s:S0),a[j]?=some s→∃ u,x[j]?=some u∧s.is β u
 | [],[],_=>⟨rfl,fun j s h=>by simp at h⟩
 | [],_::_,h=>h.elim
 | _::_,[],h=>h.elim
 | s::a,u::x,h=>by
  obtain⟨h1,h2⟩:=S0.isl_get h.2;refine⟨by simp[h1],fun j t hj=>?_⟩
  cases j with
  | zero=>simp at hj;subst hj;exact⟨u,by simp,h.1⟩
  | succ j=>simpa using h2 j t (by simpa using hj)
theorem S1.isl_get {β:Bl}:∀ {a:List S1} {x:List Value},S1.isl β a x→a.length=x.length∧∀ (j:Nat) (s:S1),a[j]?=some s→∃ u,x[j]?=some u∧s.is β u
 | [],[],_=>⟨rfl,fun j s h=>by simp at h⟩
 | [],_::_,h=>h.elim
 | _::_,[],h=>h.elim
 | s::a,u::x,h=>by
  obtain⟨h1,h2⟩:=S1.isl_get h.2;refine⟨by simp[h1],fun j t hj=>?_⟩
  cases j with
  | zero=>simp at hj;subst hj;exact⟨u,by simp,h.1⟩
  | succ j=>simpa using h2 j t (by simpa using hj)
inductive Ch where
 | k
 | t (b:Bool)
 | r (v:Value)
 | l (e:Exit) (tm0:List (Nat×SV)) (hp0:List (Nat×Nat×SV)) (tm1:List (Nat×SV)) (hp1:List (Nat×Nat×SV))
 | lr (ρ:List (Nat×Nat)) (e:Exit) (tm0:List (Nat×SV)) (hp0:List (Nat×Nat×SV)) (tm1:List (Nat×SV)) (hp1:List (Nat×Nat×SV))
 | w (xs:List Value)
 | ln (slot:Bool) (a o:Nat) (e:TypeId) (es:Nat)
 | m (σ:List Nat) (args:List SV) (pre:List (Nat×Nat×SV)) (v:Value) (j:Nat) (ys:List Value)
 | f (σ:List Nat) (args:List SV) (pre:List (Nat×Nat×SV)) (x:SV) (m:Nat) (post:List (Nat×Nat×SV))
 | pm (π:List Nat)
 | gr
 | lw
 | gh (L:List (Nat×Nat))
 | md
 | up (nb:Nat)
structure St where
 tm:List (Nat×SV)
 n:Nat
 hp:List (Nat×Nat×SV)
 nb:Nat
 ch:List Ch
def qaZ:List (Nat×SV)→Nat→SV
 | [],_=>.pv undef
 | (d,x)::r,k=>bif Nat.beq d k then x else qaZ r k
def qaj:List (Nat×Nat×SV)→Nat→Nat→Option SV
 | [],_,_=>none
 | (b,o,x)::r,c,k=>bif Nat.beq b c&&Nat.beq o k then some x else qaj r c k
def St.ev (st:St):Operand→SV
 | .tmp t=>qaZ st.tm t
 | .const v=>.pv v
 | .global g=>.pv (.pointer (some ⟨g,0,none⟩))
 | .func f=>.pv (.func (.func f) #[] #[])
def SV.raw:SV→Value
 | .pv x=>x
 | _=>undef
def SV.isV:SV→Bool
 | .pv _=>true
 | _=>false
def qbw:List SV→Option (List Value)
 | []=>some []
 | .pv x::r=>match qbw r with
  | some l=>some (x::l)
  | none=>none
 | _::_=>none
def qbQ:List SV→Option (List S0)
 | []=>some []
 | s::r=>match s.down,qbQ r with
  | some d,some l=>some (d::l)
  | _,_=>none
theorem qcv:∀ {ss:List SV} {l:List Value},qbw ss=some l→ss=l.map .pv
 | [],l,h=>by simp[qbw] at h;subst h;rfl
 | .pv x::r,l,h=>by
  simp only[qbw] at h;split at h
  ·rename_i m hm;simp at h;subst h;rw[qcv hm];rfl
  ·cases h
 | .pp ..::_,_,h=>by simp[qbw] at h
 | .ps ..::_,_,h=>by simp[qbw] at h
 | .pc ..::_,_,h=>by simp[qbw] at h
 | .any::_,_,h=>by simp[qbw] at h
 | .ls ..::_,_,h=>by simp[qbw] at h
 | .lq ..::_,_,h=>by simp[qbw] at h
 | .lp ..::_,_,h=>by simp[qbw] at h
 | .ag ..::_,_,h=>by simp[qbw] at h
 | .tu ..::_,_,h=>by simp[qbw] at h
 | .row ..::_,_,h=>by simp[qbw] at h
 | .mp ..::_,_,h=>by simp[qbw] at h
 | .mrow ..::_,_,h=>by simp[qbw] at h
def qd0:List SV→Option (List S1)
 | []=>some []
 | s::r=>match s.down1,qd0 r with
  | some d,some l=>some (d::l)
  | _,_=>none
theorem qeO {β:Bl}:∀ {ss:List SV} {l:List S1} {vs:List Value},qd0 ss=some l→SV.isl β ss vs→S1.isl β l vs
 | [],l,[],h,_=>by simp[qd0] at h;subst h;trivial
 | [],_,_::_,_,k=>k.elim
 | _::_,_,[],_,k=>k.elim
 | s::r,l,v::vs,h,k=>by
  simp only[qd0] at h;split at h
  ·rename_i d m hd hm;simp at h;subst h;exact⟨(SV.down1_is hd).1 k.1,qeO hm k.2⟩
  ·cases h
theorem qa4 {β:Bl}:∀ {ss:List SV} {l:List S0} {vs:List Value},qbQ ss=some l→SV.isl β ss vs→S0.isl β l vs
 | [],l,[],h,_=>by simp[qbQ] at h;subst h;trivial
 | [],_,_::_,_,k=>k.elim
 | _::_,_,[],_,k=>k.elim
 | s::r,l,v::vs,h,k=>by
  simp only[qbQ] at h;split at h
  ·rename_i d m hd hm;simp at h;subst h;exact⟨(SV.down_is hd).1 k.1,qa4 hm k.2⟩
  ·cases h
def qrE (P:Program) {α:Type}:Sem α→Option α
 | .pure a=>some a
 | .program k=>qrE P (k P)
 | .mark _ k=>qrE P k
 | _=>none
theorem qfc {P:Program} {α:Type} {s:Sem α}:∀ {a:α},qrE P s=some a→∀ w,s.run P w=.ok a w:=by
 induction s with
 | pure b=>intro a h w;simp[qrE] at h;subst h;rfl
 | program k ih=>intro a h w;exact ih P (a:=a) (by simpa [qrE] using h) w
 | mark m k ih=>intro a h w;exact ih (a:=a) (by simpa [qrE] using h) w
 | _=>intro a h;simp[qrE] at h
def qba:List Prop→Prop
 | []=>True
 | q::r=>q∧qba r
theorem qav:∀ {a b:List Prop},qba (a++b)→qba a∧qba b
 | [],_,h=>⟨trivial,h⟩
 | _::_,_,h=>⟨⟨h.1,(qav h.2).1⟩,(qav h.2).2⟩
def SV.isRow:SV→Bool
 | .row ..=>true
 | .mrow _=>true
 | _=>false
def Rd (w:World) (es:Nat) (u:Value) (n:Nat) (xs:List Value):Prop:=
 xs.length=n*es∧∃ a c,u=.slice a n c∧n≤c∧∀ j v,xs[j]?=some v→∃ r o,a=some ⟨r,o,none⟩∧w.cell? ⟨r,o+j,none⟩=some v
structure RowIs (W0:World) (lo:Nat) (β:Bl) (w:World) (b:Nat) (e:TypeId) (es n:Nat) (xs:List Value) (u:Value):Prop where
 rd:Rd w es u n xs
 one:∀ v∈xs,v.oneCell'=true
 low:b<lo→xs≠[]→∀ k,u.ownBlock=some k→k<W0.heap.size
 own:lo≤b→w.ownsRow W0.heap.size e es u n xs
 apart:lo≤b→∀ c r,β c=some r→u.ownBlock≠some r
def MapIs (w:World) (r:Nat) (xs:List Value):Prop:=∃ en clock,w.heap[r]?=some (.map en clock)∧(en.toList.flatMap fun e=>[e.key,e.val])=xs
theorem MapIs.keep {w w':World} {r:Nat} {xs:List Value} (h:MapIs w r xs) (k:w'.heap[r]?=w.heap[r]?):MapIs w' r xs:=by
 obtain⟨en,clock,h1,h2⟩:=h;exact⟨en,clock,k.trans h1,h2⟩
structure HRelP (W0:World) (lo:Nat) (β:Bl) (Hc:Nat→Nat→SV→Prop) (w:World):Prop where
 gr:Gr W0 w
 live:∀ b r,β b=some r→r<w.heap.size
 inj:∀ b c r,β b=some r→β c=some r→b=c
 new:∀ b r,lo≤b→β b=some r→W0.heap.size≤r
 sep:∀ b r,β b=some r→β.g b=none
 cells:∀ b o sv,Hc b o sv→sv.isRow=false→∃ r u,β b=some r∧sv.is β u∧u.oneCell'=true∧w.cell? ⟨r,o,none⟩=some u∧w.frozen? ⟨r,o,none⟩=false
 rows:∀ b o e es n xs,Hc b o (.row e es n xs)→∃ u,β.g b=some u∧RowIs W0 lo β w b e es n xs u
 rinj:∀ b o e es n xs c o' e' es' n' xs' u v,Hc b o (.row e es n xs)→Hc c o' (.row e' es' n' xs')→lo≤b→lo≤c→b≠c→β.g b=some u→β.g c=some v→∀ k,u.ownBlock=some k→v.ownBlock≠some k
 maps:∀ b o xs,Hc b o (.mrow xs)→∃ r,β b=some r∧MapIs w r xs
abbrev HRel (W0:World) (lo:Nat) (β:Bl) (hp:List (Nat×Nat×SV)) (w:World):Prop:=HRelP W0 lo β (fun b o sv=>qaj hp b o=some sv) w
theorem Rd.lt {w:World} {es n:Nat} {u:Value} {xs:List Value} (h:Rd w es u n xs) (hx:xs≠[]):∀ k,u.ownBlock=some k→k<w.heap.size:=by
 intro k hk;obtain⟨_,a,c,rfl,_,h3⟩:=h
 cases xs with
 | nil=>exact (hx rfl).elim
 | cons v r=>
  obtain⟨r',o,rfl,h4⟩:=h3 0 v rfl;simp[Value.ownBlock] at hk;subst hk;exact World.block_lt_of_cell? w _ h4
theorem Rd.keep {w w':World} {es n:Nat} {u:Value} {xs:List Value} (h:Rd w es u n xs) (hk:xs≠[]→∀ k,u.ownBlock=some k→∀ o,w'.cell? ⟨k,o,none⟩=w.cell? ⟨k,o,none⟩):Rd w' es u n xs:=by
 obtain⟨h1,a,c,rfl,h2,h3⟩:=h;refine⟨h1,a,c,rfl,h2,fun j v hj=>?_⟩;obtain⟨r,o,rfl,h4⟩:=h3 j v hj;exact⟨r,o,rfl,by rw[hk (fun e=>by rw[e] at hj;simp at hj) r rfl];exact h4⟩
theorem qbJ {w w':World} {base:Nat} {e:TypeId} {es n:Nat} {u:Value} {xs:List Value} (h:w.ownsRow base e es u n xs) (hk:∀ k,u.ownBlock=some k→w'.heap[k]?=w.heap[k]?):w'.ownsRow base e es u n xs:=by
 refine⟨h.1,?_⟩
 rcases h.2 with h2 | ⟨g,cap,cur,rfl,h3,h4,h5⟩
 ·exact Or.inl h2
 ·exact Or.inr ⟨g,cap,cur,rfl,h3,by rw[hk g rfl];exact h4,h5⟩
theorem qay {w:World} {base:Nat} {e:TypeId} {es n:Nat} {u:Value} {xs:List Value} (h:w.ownsRow base e es u n xs):∀ k,u.ownBlock=some k→base≤k∧k<w.heap.size:=h.lt
theorem qgA {w w':World} (h:Gr w w') {k:Nat} (hk:k<w.heap.size):w'.heap[k]?=w.heap[k]?:=h.1.block k hk
theorem RowIs.gr_mono {W0:World} {lo:Nat} {β:Bl} {w w':World} {b:Nat} {e:TypeId} {es n:Nat} {xs:List Value} {u:Value} (h:RowIs W0 lo β w b e es n xs u) (k:Gr w w'):RowIs W0 lo β w' b e es n xs u:=
 ⟨h.rd.keep fun hx j hj o=>k.cell j o (h.rd.lt hx j hj),h.one,h.low,fun hb=>qbJ (h.own hb) fun j hj=>qgA k (qay (h.own hb) j hj).2,h.apart⟩
theorem HRelP.gr_mono {W0:World} {lo:Nat} {β:Bl} {Hc:Nat→Nat→SV→Prop} {w w':World} (h:HRelP W0 lo β Hc w) (k:Gr w w'):HRelP W0 lo β Hc w':=
 ⟨h.gr.trans k,fun b r e=>Nat.lt_of_lt_of_le (h.live b r e) k.size,h.inj,h.new,h.sep,fun b o sv e hs=>by
  obtain⟨r,u,h1,h2,h3,h4,h5⟩:=h.cells b o sv e hs
  exact⟨r,u,h1,h2,h3,(k.cell r o (h.live b r h1)).trans h4,(k.2.1 _ (h.live b r h1)).trans h5⟩,fun b o e es n xs hc=>by
  obtain⟨u,h1,h2⟩:=h.rows b o e es n xs hc
  exact⟨u,h1,h2.gr_mono k⟩,h.rinj,fun b o xs hc=>by
  obtain⟨r,h1,h2⟩:=h.maps b o xs hc
  exact⟨r,h1,h2.keep (qgA k (h.live b r h1))⟩⟩
end Go.Proofs.YtkckcgpmnipnaaaGreat
