/-
  A run of Go code over plain values and blocks of its own, worked out by reduction: what an operation yields. Conditions: none.
-/
import Derived.StillTail
import Derived.Deep.MidRow
import Derived.ChangeKeysEq
import Derived.Laws.IdiomCopy
import Derived.Laws.StructEq
import Derived.KernelRfl
import Derived.RowKit3
import Derived.Below
import Derived.Deep.Draws
import Derived.Laws.AppendOwn
namespace Go.Proofs.YtleaeldgaflmkaaGreat
set_option maxRecDepth 100000
open Go.RowKit
def Gr (w w':World):Prop:=Below w.heap.size w w'∧(∀ a,a.block<w.heap.size→w'.frozen? a=w.frozen? a)∧w.drawn≤w'.drawn
theorem Gr.refl (w:World):Gr w w:=⟨Below.refl _ _,fun _ _=>rfl,Nat.le_refl _⟩
theorem Gr.of_eq {w w':World} (h:w=w'):Gr w w':=by subst h;exact Gr.refl _
theorem Gr.trans {a b c:World} (h:Gr a b) (k:Gr b c):Gr a c:=⟨h.1.trans (k.1.mono h.1.size),fun x hx=>(k.2.1 x (Nat.lt_of_lt_of_le hx h.1.size)).trans (h.2.1 x hx),Nat.le_trans h.2.2 k.2.2⟩
theorem Gr.drew {a w:World} (h:Gr a w):Gr a w.drew:=⟨h.1.drew,h.2.1,Nat.le_succ_of_le h.2.2⟩
theorem Gr.drewN {a w:World} (h:Gr a w) (n:Nat):Gr a (w.drewN n):=⟨⟨h.1.os,h.1.tape,h.1.output,h.1.size,h.1.block⟩,h.2.1,Nat.le_trans h.2.2 (Nat.le_add_right _ _)⟩
theorem Gr.alloc {a w:World} (h:Gr a w) (c:Array Value) (t:TypeId):Gr a (w.alloc (.cells c t)):=⟨h.1.alloc h.1.size _,fun x hx=>(frozen?_alloc_cells w c t x).trans (h.2.1 x hx),h.2.2⟩
theorem Gr.setCell {a w:World} (h:Gr a w) {p:Addr} (hp:a.heap.size≤p.block) (v:Value):Gr a (w.setCell p v):=⟨h.1.setCell hp v,fun x hx=>(World.frozen?_setCell _ _ _ _).trans (h.2.1 x hx),h.2.2⟩
theorem Gr.cell {a w:World} (h:Gr a w) (b o:Nat) (hb:b<a.heap.size):w.cell? ⟨b,o,none⟩=a.cell? ⟨b,o,none⟩:=h.1.cell (p:=⟨b,o,none⟩) hb
theorem Gr.size {a w:World} (h:Gr a w):a.heap.size≤w.heap.size:=h.1.size
theorem Gr.setCells {a:World} (b:Nat) (hb:a.heap.size≤b):∀ (vs:List Value) (o:Nat) (w:World),Gr a w→Gr a (w.setCells b o vs)
 | [],_,_,h=>h
 | v::r,o,_,h=>Gr.setCells b hb r (o+1) _ (h.setCell hb v)
theorem qcC (w:World) (p:Addr) (v:Value):(w.setCell p v).heap.size=w.heap.size:=by simp[World.setCell]
theorem qbn (b:Nat):∀ (vs:List Value) (o:Nat) (w:World),(w.setCells b o vs).heap.size=w.heap.size
 | [],_,_=>rfl
 | v::r,o,w=>by rw[World.setCells,qbn b r,qcC]
structure GrX (X:Nat→Prop) (w w':World):Prop where
 os:w'.os=w.os
 tape:w'.tape=w.tape
 output:w'.output=w.output
 size:w.heap.size≤w'.heap.size
 block:∀ k,k<w.heap.size→¬ X k→w'.heap[k]?=w.heap[k]?
 fz:∀ a,a.block<w.heap.size→w'.frozen? a=w.frozen? a
 dr:w.drawn≤w'.drawn
theorem GrX.of_gr {X:Nat→Prop} {w w':World} (h:Gr w w'):GrX X w w':=⟨h.1.os,h.1.tape,h.1.output,h.1.size,fun k hk _=>h.1.block k hk,h.2.1,h.2.2⟩
theorem Gr.stepX {a b c:World} {X:Nat→Prop} (h:Gr a b) (hX:∀ r,X r→a.heap.size≤r) (k:GrX X b c):Gr a c:=
 ⟨⟨k.os.trans h.1.os,k.tape.trans h.1.tape,k.output.trans h.1.output,Nat.le_trans h.1.size k.size,fun j hj=>(k.block j (Nat.lt_of_lt_of_le hj h.1.size) fun x=>Nat.not_le.2 hj (hX j x)).trans (h.1.block j hj)⟩,
  fun x hx=>(k.fz x (Nat.lt_of_lt_of_le hx h.1.size)).trans (h.2.1 x hx),Nat.le_trans h.2.2 k.dr⟩
structure Base where
 gr:World→Prop
 own:Nat→Prop
 old:Nat→Prop
 owns:World→TypeId→Nat→Value→Nat→List Value→Prop
 apart:∀ k,old k→own k→False
 fresh:∀ w,gr w→∀ r,w.heap.size≤r→own r
 step:∀ w w' (X:Nat→Prop),gr w→(∀ r,X r→own r)→GrX X w w'→gr w'
 keep:∀ w w',gr w→gr w'→∀ k,old k→w'.heap[k]?=w.heap[k]?
 iff:∀ w e es u n xs,owns w e es u n xs↔(w.ownsRow 0 e es u n xs∧∀ k,u.ownBlock=some k→own k)
theorem qd5 {w:World} {base base':Nat} {e:TypeId} {es n:Nat} {u:Value} {xs:List Value} (h:w.ownsRow base e es u n xs) (hb:∀ k,u.ownBlock=some k→base'≤k):w.ownsRow base' e es u n xs:=by
 refine⟨h.1,?_⟩
 rcases h.2 with h2 | ⟨g,cap,cur,rfl,h3,h4⟩
 ·exact Or.inl h2
 ·exact Or.inr ⟨g,cap,cur,rfl,hb g rfl,h4⟩
abbrev Base.of (w0:World):Base where
 gr:=Gr w0
 own r:=w0.heap.size≤r
 old r:=r<w0.heap.size
 owns w e es u n xs:=w.ownsRow w0.heap.size e es u n xs
 apart _ h k:=Nat.not_le.2 h k
 fresh _ h _ hr:=Nat.le_trans h.size hr
 step _ _ _ h hX k:=h.stepX hX k
 keep _ _ h h' k hk:=(h'.1.block k hk).trans (h.1.block k hk).symm
 iff w e es u n xs:=⟨fun h=>⟨qd5 h fun _ _=>Nat.zero_le _,fun k hk=>(World.ownsRow.lt h k hk).1⟩,fun h=>qd5 h.1 h.2⟩
instance:Coe World Base:=⟨Base.of⟩
def Base.at (w0:World) (X:Nat→Prop):Base where
 gr:=GrX X w0
 own r:=w0.heap.size≤r∨X r
 old r:=r<w0.heap.size∧¬ X r
 owns w e es u n xs:=w.ownsRow 0 e es u n xs∧∀ k,u.ownBlock=some k→w0.heap.size≤k∨X k
 apart _ h k:=k.elim (Nat.not_le.2 h.1) h.2
 fresh _ h _ hr:=Or.inl (Nat.le_trans h.size hr)
 step _ _ _ h hX k:=⟨k.os.trans h.os,k.tape.trans h.tape,k.output.trans h.output,Nat.le_trans h.size k.size,
  fun j hj hn=>(k.block j (Nat.lt_of_lt_of_le hj h.size) fun y=>(hX j y).elim (Nat.not_le.2 hj) hn).trans (h.block j hj hn),
  fun x hx=>(k.fz x (Nat.lt_of_lt_of_le hx h.size)).trans (h.fz x hx),Nat.le_trans h.dr k.dr⟩
 keep _ _ h h' k hk:=(h'.block k hk.1 hk.2).trans (h.block k hk.1 hk.2).symm
 iff _ _ _ _ _ _:=Iff.rfl
section
variable {W0:Base} {w w':World} {e:TypeId} {es n:Nat} {u:Value} {xs:List Value}
theorem Base.gr.trans (h:W0.gr w) (k:Gr w w'):W0.gr w':=W0.step w w' (fun _=>False) h (fun _ x=>x.elim) (.of_gr k)
theorem Base.gr.size {w0:World} (h:(Base.of w0).gr w):w0.heap.size≤w.heap.size:=Gr.size h
theorem qaD (h:W0.owns w e es u n xs):w.ownsRow 0 e es u n xs:=((W0.iff ..).1 h).1
theorem qal (h:W0.owns w e es u n xs):∀ k,u.ownBlock=some k→W0.own k∧k<w.heap.size:=fun k hk=>⟨((W0.iff ..).1 h).2 k hk,(World.ownsRow.lt (qaD h) k hk).2⟩
theorem qa2 {b:Nat} (h:w.ownsRow b e es u n xs) (k:∀ k,u.ownBlock=some k→W0.own k):W0.owns w e es u n xs:=(W0.iff ..).2 ⟨qd5 h fun _ _=>Nat.zero_le _,k⟩
theorem qeF:W0.owns w e es (.slice none 0 0) 0 []:=qa2 (World.ownsRow_nil w 0 e es) fun _ h=>by cases h
end
def Pure (P:Program) (f:FuncId) (args:Array Value) (v:Value):Prop:=∀ w,Calls P f args w fun e w'=>e=.returned v∧Gr w w'
inductive Dn where
 | v (x:Value)
 | sl (es n:Nat) (ds:List Dn)
def qgV (h:Nat→Option Obj) (r o:Nat):Option Value:=
 match h r with
 | some (.cells c _ _)=>c[o]?
 | _=>none
theorem qid {h:Nat→Option Obj} {w:World} {r o:Nat} {v:Value} (hc:qgV h r o=some v) (hw:w.heap[r]?=h r):w.cell? ⟨r,o,none⟩=some v:=by
 unfold qgV at hc
 simp only[World.cell?,hw]
 split at hc
 ·rename_i c e f hh
  rw[hh]
  exact hc
 ·cases hc
mutual
inductive DenH (h:Nat→Option Obj):Dn→Value→Prop
 | v (x:Value):DenH h (.v x) x
 | sl {es n:Nat} {ds:List Dn} {a:Option Addr} {c:Nat} {xs:List Value} (hl:xs.length=n*es) (hc:n≤c) (h1:∀ v∈xs,v.oneCell'=true)
  (hx:∀ (j:Nat) (v:Value),xs[j]?=some v→∃ r o,a=some ⟨r,o,none⟩∧qgV h r (o+j)=some v) (hd:DenL h ds xs):DenH h (.sl es n ds) (.slice a n c)
inductive DenL (h:Nat→Option Obj):List Dn→List Value→Prop
 | nil:DenL h [] []
 | cons {d:Dn} {x:Value} {ds:List Dn} {xs:List Value} (hd:DenH h d x) (hr:DenL h ds xs):DenL h (d::ds) (x::xs)
end
theorem qkI {h h':Nat→Option Obj} (k:∀ r,h r≠none→h' r=h r) {r o:Nat} {v:Value} (hc:qgV h r o=some v):qgV h' r o=some v:=by
 have:h r≠none:=fun e=>by simp[qgV,e] at hc
 unfold qgV at hc ⊢
 rw[k r this]
 exact hc
mutual
theorem DenH.mono {h h':Nat→Option Obj} (k:∀ r,h r≠none→h' r=h r):∀ {d:Dn} {x:Value},DenH h d x→DenH h' d x
 | _,_,.v x=>.v x
 | _,_,.sl hl hc h1 hx hd=>.sl hl hc h1 (fun j v hj=>by
  obtain⟨r,o,e1,e2⟩:=hx j v hj
  exact⟨r,o,e1,qkI k e2⟩) (DenL.mono k hd)
theorem DenL.mono {h h':Nat→Option Obj} (k:∀ r,h r≠none→h' r=h r):∀ {ds:List Dn} {xs:List Value},DenL h ds xs→DenL h' ds xs
 | _,_,.nil=>.nil
 | _,_,.cons hd hr=>.cons (DenH.mono k hd) (DenL.mono k hr)
end
theorem DenL.append {h:Nat→Option Obj}:∀ {a b:List Dn} {x y:List Value},DenL h a x→DenL h b y→DenL h (a++b) (x++y)
 | _,_,_,_,.nil,k=>k
 | _,_,_,_,.cons hd hr,k=>.cons hd (DenL.append hr k)
theorem DenL.length {h:Nat→Option Obj}:∀ {a:List Dn} {x:List Value},DenL h a x→a.length=x.length
 | _,_,.nil=>rfl
 | _,_,.cons _ hr=>congrArg Nat.succ (DenL.length hr)
theorem DenL.get {h:Nat→Option Obj}:∀ {a:List Dn} {x:List Value},DenL h a x→∀ (j:Nat) (d:Dn),a[j]?=some d→∃ v,x[j]?=some v∧DenH h d v
 | _,_,.nil,j,d,e=>by simp at e
 | _,_,.cons hd hr,0,d,e=>by simp at e;subst e;exact⟨_,by simp,hd⟩
 | _,_,.cons _ hr,j+1,d,e=>by simpa using DenL.get hr j d (by simpa using e)
theorem DenL.plain {h:Nat→Option Obj}:∀ (x:List Value),DenL h (x.map .v) x
 | []=>.nil
 | _::x=>.cons (.v _) (DenL.plain x)
theorem DenL.plain_eq {h:Nat→Option Obj}:∀ {x y:List Value},DenL h (x.map .v) y→y=x
 | [],_,.nil=>rfl
 | _::_,_,.cons (.v _) hr=>by rw[DenL.plain_eq hr]
theorem DenL.take {h:Nat→Option Obj}:∀ {a:List Dn} {x:List Value} (n:Nat),DenL h a x→DenL h (a.take n) (x.take n)
 | _,_,0,_=>by simp only[List.take_zero];exact .nil
 | _,_,_+1,.nil=>by simp only[List.take_nil];exact .nil
 | _,_,n+1,.cons hd hr=>by simp only[List.take_succ_cons];exact .cons hd (DenL.take n hr)
theorem DenL.drop {h:Nat→Option Obj}:∀ {a:List Dn} {x:List Value} (n:Nat),DenL h a x→DenL h (a.drop n) (x.drop n)
 | _,_,0,k=>by simpa only [List.drop_zero] using k
 | _,_,_+1,.nil=>by simp only[List.drop_nil];exact .nil
 | _,_,n+1,.cons _ hr=>by simp only[List.drop_succ_cons];exact DenL.drop n hr
inductive S0 where
 | pv (x:Value)
 | pp (b o:Nat)
 | ps (b o len cap:Nat)
 | ls (b len:Nat)
 | lq (b es k len:Nat)
 | lp (b q:Nat)
 | mp (b:Nat)
 | dv (es n:Nat) (ds:List Dn)
inductive S1 where
 | one (s:S0)
 | ag (l:List S0)
inductive SV where
 | pv (x:Value)
 | pp (b o:Nat)
 | ps (b o len cap:Nat)
 | ls (b len:Nat)
 | lq (b es k len:Nat)
 | lp (b q:Nat)
 | mp (b:Nat)
 | dv (es n:Nat) (ds:List Dn)
 | pc (f:FuncId) (cap:List S0)
 | ag (l:List S0)
 | tu (l:List S1)
 | any
 | row (e:TypeId) (es n:Nat) (xs:List Value)
 | mrow (xs:List Value)
 | drow (e:TypeId) (es n:Nat) (ds:List Dn)
 | rrow (e:TypeId) (es n:Nat) (ds:List Dn)
 | prow (e:TypeId) (es n:Nat) (xs:List Value)
structure Bl where
 f:Nat→Option Nat
 g:Nat→Option Value
 h:Nat→Option Obj
 h0:Nat→Prop
instance:CoeFun Bl fun _=>Nat→Option Nat:=⟨Bl.f⟩
def Bl.no:Bl:=⟨fun _=>none,fun _=>none,fun _=>none,fun _=>False⟩
def Bl.le (β γ:Bl):Prop:=(∀ b,(β b≠none∨β.g b≠none)→γ b=β b∧γ.g b=β.g b)∧(∀ k,β.h k≠none→γ.h k=β.h k)∧γ.h0=β.h0
theorem Bl.le.f {β γ:Bl} (h:β.le γ) {b r:Nat} (e:β b=some r):γ b=some r:=((h.1 b (Or.inl (by rw[e];simp))).1).trans e
theorem Bl.le.g {β γ:Bl} (h:β.le γ) {b:Nat} {u:Value} (e:β.g b=some u):γ.g b=some u:=((h.1 b (Or.inr (by rw[e];simp))).2).trans e
theorem Bl.le.h {β γ:Bl} (k:β.le γ) {r:Nat} {c:Obj} (e:β.h r=some c):γ.h r=some c:=(k.2.1 r (by rw[e];simp)).trans e
def Bl.dom (β:Bl) (n:Nat):Prop:=∀ b,n≤b→β b=none∧β.g b=none
def Bl.set (β:Bl) (n r:Nat):Bl:=⟨fun b=>if b=n then some r else β b,β.g,β.h,β.h0⟩
def Bl.setG (β:Bl) (n:Nat) (u:Value):Bl:=⟨β.f,fun b=>if b=n then some u else β.g b,β.h,β.h0⟩
def Bl.base (β:Bl):Bl:=⟨β.f,β.g,β.h,fun k=>β.h k≠none⟩
theorem Bl.le_refl (β:Bl):β.le β:=⟨fun _ _=>⟨rfl,rfl⟩,fun _ _=>rfl,rfl⟩
theorem Bl.h_trans {β γ δ:Bl} (h:∀ k,β.h k≠none→γ.h k=β.h k) (h':∀ k,γ.h k≠none→δ.h k=γ.h k):∀ k,β.h k≠none→δ.h k=β.h k:=fun k e=>(h' k (by rw[h k e];exact e)).trans (h k e)
theorem Bl.le_trans {β γ δ:Bl} (h:β.le γ) (k:γ.le δ):β.le δ:=⟨fun b e=>by
 obtain⟨h1,h2⟩:=h.1 b e
 obtain⟨k1,k2⟩:=k.1 b (by rw[h1,h2];exact e)
 exact⟨k1.trans h1,k2.trans h2⟩,Bl.h_trans h.2.1 k.2.1,k.2.2.trans h.2.2⟩
theorem Bl.le_of {β γ:Bl} (h:∀ b,(β b≠none∨β.g b≠none)→γ b=β b∧γ.g b=β.g b) (e:γ.h=β.h) (e':γ.h0=β.h0):β.le γ:=⟨h,fun _ _=>by rw[e],e'⟩
theorem Bl.le_set {β:Bl} {n r:Nat} (h:β n=none) (h2:β.g n=none):β.le (β.set n r):=Bl.le_of (e:=rfl) (e':=rfl) fun b e=>by
 unfold Bl.set
 refine⟨?_,rfl⟩
 show (if b=n then some r else β b)=β b
 split
 ·rename_i hb;subst hb;rcases e with e | e
  ·exact (e h).elim
  ·exact (e h2).elim
 ·rfl
theorem Bl.le_setG {β:Bl} {n:Nat} {u:Value} (h:β n=none) (h2:β.g n=none):β.le (β.setG n u):=Bl.le_of (e:=rfl) (e':=rfl) fun b e=>by
 unfold Bl.setG
 refine⟨rfl,?_⟩
 show (if b=n then some u else β.g b)=β.g b
 split
 ·rename_i hb;subst hb;rcases e with e | e
  ·exact (e h).elim
  ·exact (e h2).elim
 ·rfl
theorem Bl.set_same (β:Bl) (n r:Nat):β.set n r n=some r:=by simp[Bl.set]
theorem Bl.setG_same (β:Bl) (n:Nat) (u:Value):(β.setG n u).g n=some u:=by simp[Bl.setG]
def Bl.sub (n:Nat) (γ β:Bl):Prop:=(∀ b r,b<n→γ b=some r→β b=some r)∧(∀ b u,b<n→γ.g b=some u→β.g b=some u)∧∀ k,γ.h k≠none→β.h k=γ.h k
def S0.is (β:Bl):S0→Value→Prop
 | .pv y,x=>x=y
 | .pp b o,x=>∃ r,β b=some r∧x=.pointer (some ⟨r,o,none⟩)
 | .ps b o l c,x=>∃ r,β b=some r∧x=.slice (some ⟨r,o,none⟩) l c
 | .ls b l,x=>β.g b=some x∧∃ a c,x=.slice a l c
 | .lq b es k l,x=>∃ a n c a' c',β.g b=some (.slice a n c)∧k+l≤n∧l≤c'∧x=.slice a' l c'∧(0<l→∃ r o,a=some ⟨r,o,none⟩∧a'=some ⟨r,o+k*es,none⟩)
 | .lp b q,x=>∃ r o n c,β.g b=some (.slice (some ⟨r,o,none⟩) n c)∧x=.pointer (some ⟨r,o+q,none⟩)
 | .mp b,x=>∃ r,β b=some r∧x=.map (some r)
 | .dv es n ds,x=>DenH β.h (.sl es n ds) x
def S0.isl (β:Bl):List S0→List Value→Prop
 | [],[]=>True
 | s::ss,v::vs=>s.is β v∧S0.isl β ss vs
 | _,_=>False
def S1.is (β:Bl):S1→Value→Prop
 | .one s,x=>s.is β x
 | .ag l,x=>∃ vs,S0.isl β l vs∧x=.agg vs.toArray
def S1.isl (β:Bl):List S1→List Value→Prop
 | [],[]=>True
 | s::ss,v::vs=>s.is β v∧S1.isl β ss vs
 | _,_=>False
def S0.up:S0→SV
 | .pv x=>.pv x
 | .pp b o=>.pp b o
 | .ps b o l c=>.ps b o l c
 | .ls b l=>.ls b l
 | .lq b es k l=>.lq b es k l
 | .lp b q=>.lp b q
 | .mp b=>.mp b
 | .dv es n ds=>.dv es n ds
def S1.up:S1→SV
 | .one s=>s.up
 | .ag l=>.ag l
def SV.down:SV→Option S0
 | .pv x=>some (.pv x)
 | .pp b o=>some (.pp b o)
 | .ps b o l c=>some (.ps b o l c)
 | .ls b l=>some (.ls b l)
 | .lq b es k l=>some (.lq b es k l)
 | .lp b q=>some (.lp b q)
 | .mp b=>some (.mp b)
 | .dv es n ds=>some (.dv es n ds)
 | _=>none
def SV.down1:SV→Option S1
 | .ag l=>some (.ag l)
 | s=>match s.down with
  | some d=>some (.one d)
  | none=>none
def SV.is (β:Bl):SV→Value→Prop
 | .pv y,x=>x=y
 | .pp b o,x=>(S0.pp b o).is β x
 | .ps b o l c,x=>(S0.ps b o l c).is β x
 | .ls b l,x=>(S0.ls b l).is β x
 | .lq b es k l,x=>(S0.lq b es k l).is β x
 | .lp b q,x=>(S0.lp b q).is β x
 | .mp b,x=>(S0.mp b).is β x
 | .dv es n ds,x=>(S0.dv es n ds).is β x
 | .pc f cap,x=>∃ vs,S0.isl β cap vs∧x=.func (.func f) #[] vs.toArray
 | .ag l,x=>∃ vs,S0.isl β l vs∧x=.agg vs.toArray
 | .tu l,x=>∃ vs,S1.isl β l vs∧x=.tuple vs.toArray
 | .any,_=>True
 | .row ..,_=>False
 | .mrow _,_=>False
 | .drow ..,_=>False
 | .rrow ..,_=>False
 | .prow ..,_=>False
def SV.isl (β:Bl):List SV→List Value→Prop
 | [],[]=>True
 | s::ss,v::vs=>s.is β v∧SV.isl β ss vs
 | _,_=>False
theorem S0.is_mono {β γ:Bl} (h:β.le γ) {s:S0} {x:Value} (k:s.is β x):s.is γ x:=by
 cases s with
 | pv y=>exact k
 | pp b o=>obtain⟨r,h1,h2⟩:=k;exact⟨r,h.f h1,h2⟩
 | ps b o l c=>obtain⟨r,h1,h2⟩:=k;exact⟨r,h.f h1,h2⟩
 | ls b l=>exact⟨h.g k.1,k.2⟩
 | lq b es kk l=>obtain⟨a,n,c,a',c',h1,h2⟩:=k;exact⟨a,n,c,a',c',h.g h1,h2⟩
 | lp b q=>obtain⟨r,o,n,c,h1,h2⟩:=k;exact⟨r,o,n,c,h.g h1,h2⟩
 | mp b=>obtain⟨r,h1,h2⟩:=k;exact⟨r,h.f h1,h2⟩
 | dv es n ds=>exact DenH.mono h.2.1 k
theorem S0.isl_mono {β γ:Bl} (h:β.le γ):∀ {ss:List S0} {vs:List Value},S0.isl β ss vs→S0.isl γ ss vs
 | [],[],_=>trivial
 | [],_::_,k=>k.elim
 | _::_,[],k=>k.elim
 | _::_,_::_,k=>⟨S0.is_mono h k.1,S0.isl_mono h k.2⟩
theorem S1.is_mono {β γ:Bl} (h:β.le γ) {s:S1} {x:Value} (k:s.is β x):s.is γ x:=by
 cases s with
 | one s=>exact S0.is_mono h k
 | ag l=>obtain⟨vs,h1,h2⟩:=k;exact⟨vs,S0.isl_mono h h1,h2⟩
theorem S1.isl_mono {β γ:Bl} (h:β.le γ):∀ {ss:List S1} {vs:List Value},S1.isl β ss vs→S1.isl γ ss vs
 | [],[],_=>trivial
 | [],_::_,k=>k.elim
 | _::_,[],k=>k.elim
 | _::_,_::_,k=>⟨S1.is_mono h k.1,S1.isl_mono h k.2⟩
theorem SV.is_mono {β γ:Bl} (h:β.le γ) {s:SV} {x:Value} (k:s.is β x):s.is γ x:=by
 cases s with
 | pv y=>exact k
 | pp b o=>exact S0.is_mono (s:=.pp b o) h k
 | ps b o l c=>exact S0.is_mono (s:=.ps b o l c) h k
 | ls b l=>exact S0.is_mono (s:=.ls b l) h k
 | lq b es kk l=>exact S0.is_mono (s:=.lq b es kk l) h k
 | lp b q=>exact S0.is_mono (s:=.lp b q) h k
 | mp b=>exact S0.is_mono (s:=.mp b) h k
 | dv es n ds=>exact S0.is_mono (s:=.dv es n ds) h k
 | pc f cap=>obtain⟨vs,h1,h2⟩:=k;exact⟨vs,S0.isl_mono h h1,h2⟩
 | ag l=>obtain⟨vs,h1,h2⟩:=k;exact⟨vs,S0.isl_mono h h1,h2⟩
 | tu l=>obtain⟨vs,h1,h2⟩:=k;exact⟨vs,S1.isl_mono h h1,h2⟩
 | any=>trivial
 | row e es n xs=>exact k
 | mrow xs=>exact k
 | drow e es n ds=>exact k
 | rrow e es n ds=>exact k
 | prow e es n xs=>exact k
theorem SV.isl_mono {β γ:Bl} (h:β.le γ):∀ {ss:List SV} {vs:List Value},SV.isl β ss vs→SV.isl γ ss vs
 | [],[],_=>trivial
 | [],_::_,k=>k.elim
 | _::_,[],k=>k.elim
 | _::_,_::_,k=>⟨SV.is_mono h k.1,SV.isl_mono h k.2⟩
theorem S0.up_is {β:Bl} {s:S0} {x:Value}:s.up.is β x↔s.is β x:=by cases s<;>exact Iff.rfl
theorem S1.up_is {β:Bl} {s:S1} {x:Value}:s.up.is β x↔s.is β x:=by
 cases s with
 | one s=>exact S0.up_is
 | ag l=>exact Iff.rfl
theorem SV.down_is {β:Bl} {s:SV} {d:S0} {x:Value} (h:s.down=some d):s.is β x↔d.is β x:=by
 cases s<;>simp[SV.down] at h<;>subst h<;>exact Iff.rfl
theorem SV.down1_is {β:Bl} {s:SV} {d:S1} {x:Value} (h:s.down1=some d):s.is β x↔d.is β x:=by
 unfold SV.down1 at h
 split at h
 ·simp only[Option.some.injEq] at h;subst h;exact Iff.rfl
 ·split at h
  ·rename_i e he
   simp only[Option.some.injEq] at h
   subst h
   exact SV.down_is he
  ·cases h
theorem SV.isl_append {β:Bl}:∀ {a b:List SV} {x y:List Value},SV.isl β a x→SV.isl β b y→SV.isl β (a++b) (x++y)
 | [],_,[],_,_,k=>k
 | [],_,_::_,_,h,_=>h.elim
 | _::_,_,[],_,h,_=>h.elim
 | _::_,_,_::_,_,h,k=>⟨h.1,SV.isl_append h.2 k⟩
theorem S0.isl_up {β:Bl}:∀ {a:List S0} {x:List Value},S0.isl β a x→SV.isl β (a.map S0.up) x
 | [],[],_=>trivial
 | [],_::_,h=>h.elim
 | _::_,[],h=>h.elim
 | _::_,_::_,h=>⟨S0.up_is.2 h.1,S0.isl_up h.2⟩
theorem SV.isl_v {β:Bl}:∀ (l:List Value),SV.isl β (l.map .pv) l
 | []=>trivial
 | _::l=>⟨rfl,SV.isl_v l⟩
theorem S0.isl_v {β:Bl}:∀ (l:List Value),S0.isl β (l.map .pv) l
 | []=>trivial
 | _::l=>⟨rfl,S0.isl_v l⟩
theorem SV.isl_v_eq {β:Bl}:∀ {l x:List Value},SV.isl β (l.map .pv) x→x=l
 | [],[],_=>rfl
 | [],_::_,h=>h.elim
 | _::_,[],h=>h.elim
 | _::_,_::_,h=>by rw[SV.isl_v_eq h.2,show _=_ from h.1]
theorem SV.isl_get {β:Bl}:∀ {a:List SV} {x:List Value},SV.isl β a x→a.length=x.length∧∀ (j:Nat) (s:SV),a[j]?=some s→∃ u,x[j]?=some u∧s.is β u
 | [],[],_=>⟨rfl,fun j s h=>by simp at h⟩
 | [],_::_,h=>h.elim
 | _::_,[],h=>h.elim
 | s::a,u::x,h=>by
  obtain⟨h1,h2⟩:=SV.isl_get h.2
  refine⟨by simp[h1],fun j t hj=>?_⟩
  cases j with
  | zero=>simp at hj;subst hj;exact⟨u,by simp,h.1⟩
  | succ j=>simpa using h2 j t (by simpa using hj)
theorem S0.isl_get {β:Bl}:∀ {a:List S0} {x:List Value},S0.isl β a x→a.length=x.length∧∀ (j:Nat) (s:S0),a[j]?=some s→∃ u,x[j]?=some u∧s.is β u
 | [],[],_=>⟨rfl,fun j s h=>by simp at h⟩
 | [],_::_,h=>h.elim
 | _::_,[],h=>h.elim
 | s::a,u::x,h=>by
  obtain⟨h1,h2⟩:=S0.isl_get h.2
  refine⟨by simp[h1],fun j t hj=>?_⟩
  cases j with
  | zero=>simp at hj;subst hj;exact⟨u,by simp,h.1⟩
  | succ j=>simpa using h2 j t (by simpa using hj)
theorem S1.isl_get {β:Bl}:∀ {a:List S1} {x:List Value},S1.isl β a x→a.length=x.length∧∀ (j:Nat) (s:S1),a[j]?=some s→∃ u,x[j]?=some u∧s.is β u
 | [],[],_=>⟨rfl,fun j s h=>by simp at h⟩
 | [],_::_,h=>h.elim
 | _::_,[],h=>h.elim
 | s::a,u::x,h=>by
  obtain⟨h1,h2⟩:=S1.isl_get h.2
  refine⟨by simp[h1],fun j t hj=>?_⟩
  cases j with
  | zero=>simp at hj;subst hj;exact⟨u,by simp,h.1⟩
  | succ j=>simpa using h2 j t (by simpa using hj)
inductive Ch where
 | k
 | t (b:Bool)
 | r (v:Value)
 | l (e:Exit) (tm0:List (Nat×SV)) (hp0:List (Nat×Nat×SV)) (tm1:List (Nat×SV)) (hp1:List (Nat×Nat×SV))
 | lr (ρ:List (Nat×Nat)) (e:Exit) (tm0:List (Nat×SV)) (hp0:List (Nat×Nat×SV)) (tm1:List (Nat×SV)) (hp1:List (Nat×Nat×SV))
 | w (xs:List Value)
 | ln (slot:Bool) (a o:Nat) (e:TypeId) (es:Nat)
 | m (σ:List Nat) (args:List SV) (pre:List (Nat×Nat×SV)) (v:Value) (j:Nat) (ys:List Value)
 | f (σ:List Nat) (args:List SV) (pre:List (Nat×Nat×SV)) (x:SV) (m:Nat) (post:List (Nat×Nat×SV))
 | pm (π:List Nat)
 | gr
 | lw
 | gh (L:List (Nat×Nat))
 | md
 | mx (σ:List Nat) (args:List SV) (pre:List (Nat×Nat×SV)) (j:Nat) (ys:List Value) (e es n:Nat) (xs:List Value)
 | lz (slot:Bool) (a o:Nat) (e:TypeId) (es:Nat)
 | fz (slot:Bool) (a o i es:Nat) (ds:List Dn)
 | od (slot:Bool) (a o i:Nat) (e:TypeId) (pl:Option (List Value))
 | fq (σ:List Nat) (args:List SV) (pre:List (Nat×Nat×SV)) (x:SV) (m:Nat) (post:List (Nat×Nat×SV))
 | dr (l:List S0)
 | fo (l:Nat) (σ:List Nat) (args:List SV) (pre:List (Nat×Nat×SV)) (x:SV) (m:Nat) (post:List (Nat×Nat×SV))
structure St where
 tm:List (Nat×SV)
 n:Nat
 hp:List (Nat×Nat×SV)
 nb:Nat
 ch:List Ch
def qax:List (Nat×SV)→Nat→SV
 | [],_=>.pv undef
 | (d,x)::r,k=>bif Nat.beq d k then x else qax r k
def qae:List (Nat×Nat×SV)→Nat→Nat→Option SV
 | [],_,_=>none
 | (b,o,x)::r,c,k=>bif Nat.beq b c&&Nat.beq o k then some x else qae r c k
def St.ev (st:St):Operand→SV
 | .tmp t=>qax st.tm t
 | .const v=>.pv v
 | .global g=>.pv (.pointer (some ⟨g,0,none⟩))
 | .func f=>.pv (.func (.func f) #[] #[])
def SV.raw:SV→Value
 | .pv x=>x
 | _=>undef
def SV.isV:SV→Bool
 | .pv _=>true
 | _=>false
def SV.get?:SV→Option Value
 | .pv x=>some x
 | _=>none
def qa6:List SV→Option (List Value)
 | []=>some []
 | .pv x::r=>match qa6 r with
  | some l=>some (x::l)
  | none=>none
 | _::_=>none
def qbN:List SV→Option (List S0)
 | []=>some []
 | s::r=>match s.down,qbN r with
  | some d,some l=>some (d::l)
  | _,_=>none
theorem qcm:∀ {ss:List SV} {l:List Value},qa6 ss=some l→ss=l.map .pv
 | [],l,h=>by simp[qa6] at h;subst h;rfl
 | .pv x::r,l,h=>by
  simp only[qa6] at h
  split at h
  ·rename_i m hm;simp at h;subst h;rw[qcm hm];rfl
  ·cases h
 | .pp ..::_,_,h=>by simp[qa6] at h
 | .ps ..::_,_,h=>by simp[qa6] at h
 | .pc ..::_,_,h=>by simp[qa6] at h
 | .any::_,_,h=>by simp[qa6] at h
 | .ls ..::_,_,h=>by simp[qa6] at h
 | .lq ..::_,_,h=>by simp[qa6] at h
 | .lp ..::_,_,h=>by simp[qa6] at h
 | .ag ..::_,_,h=>by simp[qa6] at h
 | .tu ..::_,_,h=>by simp[qa6] at h
 | .row ..::_,_,h=>by simp[qa6] at h
 | .mp ..::_,_,h=>by simp[qa6] at h
 | .mrow ..::_,_,h=>by simp[qa6] at h
 | .dv ..::_,_,h=>by simp[qa6] at h
 | .drow ..::_,_,h=>by simp[qa6] at h
 | .rrow ..::_,_,h=>by simp[qa6] at h
 | .prow ..::_,_,h=>by simp[qa6] at h
def qdF:List SV→Option (List S1)
 | []=>some []
 | s::r=>match s.down1,qdF r with
  | some d,some l=>some (d::l)
  | _,_=>none
theorem qel {β:Bl}:∀ {ss:List SV} {l:List S1} {vs:List Value},qdF ss=some l→SV.isl β ss vs→S1.isl β l vs
 | [],l,[],h,_=>by simp[qdF] at h;subst h;trivial
 | [],_,_::_,_,k=>k.elim
 | _::_,_,[],_,k=>k.elim
 | s::r,l,v::vs,h,k=>by
  simp only[qdF] at h
  split at h
  ·rename_i d m hd hm
   simp at h
   subst h
   exact⟨(SV.down1_is hd).1 k.1,qel hm k.2⟩
  ·cases h
theorem qaN {β:Bl}:∀ {ss:List SV} {l:List S0} {vs:List Value},qbN ss=some l→SV.isl β ss vs→S0.isl β l vs
 | [],l,[],h,_=>by simp[qbN] at h;subst h;trivial
 | [],_,_::_,_,k=>k.elim
 | _::_,_,[],_,k=>k.elim
 | s::r,l,v::vs,h,k=>by
  simp only[qbN] at h
  split at h
  ·rename_i d m hd hm
   simp at h
   subst h
   exact⟨(SV.down_is hd).1 k.1,qaN hm k.2⟩
  ·cases h
def qpA (P:Program) {α:Type}:Sem α→Option α
 | .pure a=>some a
 | .program k=>qpA P (k P)
 | .mark _ k=>qpA P k
 | _=>none
theorem qjp {P:Program} {α:Type} {s:Sem α}:∀ {a:α},qpA P s=some a→∀ w,s.run P w=.ok a w:=by
 induction s with
 | pure b=>intro a h w;simp[qpA] at h;subst h;rfl
 | program k ih=>intro a h w;exact ih P (a:=a) (by simpa [qpA] using h) w
 | mark m k ih=>intro a h w;exact ih (a:=a) (by simpa [qpA] using h) w
 | _=>intro a h;simp[qpA] at h
def qaI:List Prop→Prop
 | []=>True
 | q::r=>q∧qaI r
theorem qai:∀ {a b:List Prop},qaI (a++b)→qaI a∧qaI b
 | [],_,h=>⟨trivial,h⟩
 | _::_,_,h=>⟨⟨h.1,(qai h.2).1⟩,(qai h.2).2⟩
def SV.isRow:SV→Bool
 | .row ..=>true
 | .mrow _=>true
 | .drow ..=>true
 | .rrow ..=>true
 | .prow ..=>true
 | _=>false
def SV.isR:SV→Bool
 | .row ..=>true
 | .drow ..=>true
 | _=>false
theorem SV.isR_row {s:SV} (h:s.isR=true):s.isRow=true:=by cases s<;>first | rfl | cases h
def SV.isRw (h:Nat→Option Obj):SV→TypeId→Nat→Nat→List Value→Prop
 | .row e es n xs,e',es',n',ys=>e=e'∧es=es'∧n=n'∧xs=ys
 | .drow e es n ds,e',es',n',ys=>e=e'∧es=es'∧n=n'∧DenL h ds ys
 | _,_,_,_,_=>False
theorem SV.isRw_mono {h h':Nat→Option Obj} (k:∀ r,h r≠none→h' r=h r) {s:SV} {e:TypeId} {es n:Nat} {xs:List Value} (a:s.isRw h e es n xs):s.isRw h' e es n xs:=by
 cases s<;>first | exact a | exact⟨a.1,a.2.1,a.2.2.1,a.2.2.2.mono k⟩
def Rd (w:World) (es:Nat) (u:Value) (n:Nat) (xs:List Value):Prop:=
 xs.length=n*es∧∃ a c,u=.slice a n c∧n≤c∧∀ j v,xs[j]?=some v→∃ r o,a=some ⟨r,o,none⟩∧w.cell? ⟨r,o+j,none⟩=some v
structure RowIs (W0:Base) (lo:Nat) (β:Bl) (w:World) (b:Nat) (e:TypeId) (es n:Nat) (xs:List Value) (u:Value):Prop where
 rd:Rd w es u n xs
 one:∀ v∈xs,v.oneCell'=true
 low:b<lo→xs≠[]→∀ k,u.ownBlock=some k→W0.old k
 own:lo≤b→W0.owns w e es u n xs
 apart:lo≤b→∀ c r,β c=some r→u.ownBlock≠some r
def MapIs (w:World) (r:Nat) (xs:List Value):Prop:=∃ en clock,w.heap[r]?=some (.map en clock)∧(en.toList.flatMap fun e=>[e.key,e.val])=xs
theorem MapIs.keep {w w':World} {r:Nat} {xs:List Value} (h:MapIs w r xs) (k:w'.heap[r]?=w.heap[r]?):MapIs w' r xs:=by
 obtain⟨en,clock,h1,h2⟩:=h
 exact⟨en,clock,k.trans h1,h2⟩
structure FzIs (W0:Base) (lo:Nat) (β:Bl) (Hc:Nat→Nat→SV→Prop) (w:World):Prop where
 mem:∀ k,β.h k≠none→w.heap[k]?=β.h k
 own:∀ k,β.h k≠none→W0.own k∨β.h0 k
 box:∀ b o s r,Hc b o s→β b=some r→β.h r=none
 row:∀ b o s u k,Hc b o s→s.isR=true→lo≤b→β.g b=some u→u.ownBlock=some k→β.h k=none
 rr:∀ b o e es n ds,Hc b o (.rrow e es n ds)→∃ u,β.g b=some u∧DenH β.h (.sl es n ds) u
 pr:∀ b o e es n xs,Hc b o (.prow e es n xs)→∃ u,β.g b=some u∧DenH β.h (.sl es n (xs.map .v)) u
structure HRelP (W0:Base) (lo:Nat) (β:Bl) (Hc:Nat→Nat→SV→Prop) (w:World):Prop where
 gr:W0.gr w
 live:∀ b r,β b=some r→r<w.heap.size
 inj:∀ b c r,β b=some r→β c=some r→b=c
 new:∀ b r,lo≤b→β b=some r→W0.own r
 sep:∀ b r,β b=some r→β.g b=none
 cells:∀ b o sv,Hc b o sv→sv.isRow=false→∃ r u,β b=some r∧sv.is β u∧u.oneCell'=true∧w.cell? ⟨r,o,none⟩=some u∧w.frozen? ⟨r,o,none⟩=false
 rows0:∀ b o s,Hc b o s→s.isR=true→∃ u e es n xs,s.isRw β.h e es n xs∧β.g b=some u∧RowIs W0 lo β w b e es n xs u
 rinj0:∀ b o s c o' s' u v,Hc b o s→Hc c o' s'→s.isR=true→s'.isR=true→lo≤b→lo≤c→b≠c→β.g b=some u→β.g c=some v→∀ k,u.ownBlock=some k→v.ownBlock≠some k
 maps:∀ b o xs,Hc b o (.mrow xs)→∃ r,β b=some r∧MapIs w r xs
 fz:FzIs W0 lo β Hc w
theorem HRelP.rows {W0:Base} {lo:Nat} {β:Bl} {Hc:Nat→Nat→SV→Prop} {w:World} (h:HRelP W0 lo β Hc w):∀ b o e es n xs,Hc b o (.row e es n xs)→∃ u,β.g b=some u∧RowIs W0 lo β w b e es n xs u:=fun b o e es n xs hc=>by
 obtain⟨u,e',es',n',xs',⟨rfl,rfl,rfl,rfl⟩,h1,h2⟩:=h.rows0 b o _ hc rfl
 exact⟨u,h1,h2⟩
theorem HRelP.drows {W0:Base} {lo:Nat} {β:Bl} {Hc:Nat→Nat→SV→Prop} {w:World} (h:HRelP W0 lo β Hc w):∀ b o e es n ds,Hc b o (.drow e es n ds)→∃ u xs,β.g b=some u∧DenL β.h ds xs∧RowIs W0 lo β w b e es n xs u:=fun b o e es n ds hc=>by
 obtain⟨u,e',es',n',xs',⟨rfl,rfl,rfl,h0⟩,h1,h2⟩:=h.rows0 b o _ hc rfl
 exact⟨u,xs',h1,h0,h2⟩
theorem HRelP.rinj {W0:Base} {lo:Nat} {β:Bl} {Hc:Nat→Nat→SV→Prop} {w:World} (h:HRelP W0 lo β Hc w):∀ b o e es n xs c o' e' es' n' xs' u v,Hc b o (.row e es n xs)→Hc c o' (.row e' es' n' xs')→lo≤b→lo≤c→b≠c→β.g b=some u→β.g c=some v→∀ k,u.ownBlock=some k→v.ownBlock≠some k:=
 fun b o e es n xs c o' e' es' n' xs' u v h1 h2=>h.rinj0 b o _ c o' _ u v h1 h2 rfl rfl
theorem FzIs.fresh {W0:Base} {lo:Nat} {β:Bl} {Hc:Nat→Nat→SV→Prop} {w:World} (h:FzIs W0 lo β Hc w) {k:Nat} (hk:w.heap.size≤k):β.h k=none:=by
 apply Classical.byContradiction
 intro e
 have:=h.mem k e
 rw[Array.getElem?_eq_none hk] at this
 exact e this.symm
theorem FzIs.imp {W0:Base} {lo:Nat} {β:Bl} {Hc Hd:Nat→Nat→SV→Prop} {w w':World} (h:FzIs W0 lo β Hc w) (hw:∀ k,β.h k≠none→w'.heap[k]?=w.heap[k]?) (k:∀ b o s,Hd b o s→s.isRow=true→Hc b o s) (kb:∀ b o s,Hd b o s→∃ o' s',Hc b o' s'):FzIs W0 lo β Hd w':=
 ⟨fun j hj=>(hw j hj).trans (h.mem j hj),h.own,fun b o s r hc=>(by obtain⟨o',s',h'⟩:=kb b o s hc;exact h.box b o' s' r h'),fun b o s u j hc hr=>h.row b o s u j (k b o s hc (SV.isR_row hr)) hr,fun b o e es n ds hc=>h.rr b o e es n ds (k _ _ _ hc rfl),fun b o e es n xs hc=>h.pr b o e es n xs (k _ _ _ hc rfl)⟩
theorem FzIs.no {W0:Base} {lo:Nat} {β:Bl} {Hc:Nat→Nat→SV→Prop} {w:World} (hh:∀ k,β.h k=none) (hr:∀ b o e es n ds,¬ Hc b o (.rrow e es n ds)) (hp:∀ b o e es n xs,¬ Hc b o (.prow e es n xs)):FzIs W0 lo β Hc w:=
 ⟨fun k e=>(e (hh k)).elim,fun k e=>(e (hh k)).elim,fun _ _ _ r _ _=>hh r,fun _ _ _ _ k _ _ _ _ _=>hh k,fun b o e es n ds hc=>(hr b o e es n ds hc).elim,fun b o e es n ds hc=>(hp b o e es n ds hc).elim⟩
structure RdO (w:World) (es:Nat) (u:Value) (n:Nat) (xs:List Value):Prop where
 rd:Rd w es u n xs
 one:∀ v∈xs,v.oneCell'=true
theorem DenH.rd {h:Nat→Option Obj} {w:World} (hw:∀ k,h k≠none→w.heap[k]?=h k) {es n:Nat} {ds:List Dn} {u:Value} (k:DenH h (.sl es n ds) u):∃ xs,DenL h ds xs∧RdO w es u n xs:=by
 cases k with
 | sl hl hc h1 hx hd=>
  refine⟨_,hd,⟨hl,_,_,rfl,hc,fun j v hj=>?_⟩,h1⟩
  obtain⟨r,o,e1,e2⟩:=hx j v hj
  exact⟨r,o,e1,qid e2 (hw r fun e=>by simp[qgV,e] at e2)⟩
abbrev HRel (W0:Base) (lo:Nat) (β:Bl) (hp:List (Nat×Nat×SV)) (w:World):Prop:=HRelP W0 lo β (fun b o sv=>qae hp b o=some sv) w
theorem Rd.lt {w:World} {es n:Nat} {u:Value} {xs:List Value} (h:Rd w es u n xs) (hx:xs≠[]):∀ k,u.ownBlock=some k→k<w.heap.size:=by
 intro k hk
 obtain⟨_,a,c,rfl,_,h3⟩:=h
 cases xs with
 | nil=>exact (hx rfl).elim
 | cons v r=>
  obtain⟨r',o,rfl,h4⟩:=h3 0 v rfl
  simp[Value.ownBlock] at hk
  subst hk
  exact World.block_lt_of_cell? w _ h4
theorem Rd.keep {w w':World} {es n:Nat} {u:Value} {xs:List Value} (h:Rd w es u n xs) (hk:xs≠[]→∀ k,u.ownBlock=some k→∀ o,w'.cell? ⟨k,o,none⟩=w.cell? ⟨k,o,none⟩):Rd w' es u n xs:=by
 obtain⟨h1,a,c,rfl,h2,h3⟩:=h
 refine⟨h1,a,c,rfl,h2,fun j v hj=>?_⟩
 obtain⟨r,o,rfl,h4⟩:=h3 j v hj
 exact⟨r,o,rfl,by rw[hk (fun e=>by rw[e] at hj;simp at hj) r rfl];exact h4⟩
theorem qen {w w':World} {base:Nat} {e:TypeId} {es n:Nat} {u:Value} {xs:List Value} (h:w.ownsRow base e es u n xs) (hk:∀ k,u.ownBlock=some k→w'.heap[k]?=w.heap[k]?):w'.ownsRow base e es u n xs:=by
 refine⟨h.1,?_⟩
 rcases h.2 with h2 | ⟨g,cap,cur,rfl,h3,h4,h5⟩
 ·exact Or.inl h2
 ·exact Or.inr ⟨g,cap,cur,rfl,h3,by rw[hk g rfl];exact h4,h5⟩
theorem qaE {w:World} {base:Nat} {e:TypeId} {es n:Nat} {u:Value} {xs:List Value} (h:w.ownsRow base e es u n xs):∀ k,u.ownBlock=some k→base≤k∧k<w.heap.size:=h.lt
theorem qco {W0:Base} {w w':World} {e:TypeId} {es n:Nat} {u:Value} {xs:List Value} (h:W0.owns w e es u n xs) (hk:∀ k,u.ownBlock=some k→w'.heap[k]?=w.heap[k]?):W0.owns w' e es u n xs:=
 qa2 (qen (qaD h) hk) fun k hu=>(qal h k hu).1
theorem qee {w w':World} (h:Gr w w') {k:Nat} (hk:k<w.heap.size):w'.heap[k]?=w.heap[k]?:=h.1.block k hk
theorem RowIs.gr_mono {W0:Base} {lo:Nat} {β:Bl} {w w':World} {b:Nat} {e:TypeId} {es n:Nat} {xs:List Value} {u:Value} (h:RowIs W0 lo β w b e es n xs u) (k:Gr w w'):RowIs W0 lo β w' b e es n xs u:=
 ⟨h.rd.keep fun hx j hj o=>k.cell j o (h.rd.lt hx j hj),h.one,h.low,fun hb=>qco (h.own hb) fun j hj=>qee k (qal (h.own hb) j hj).2,h.apart⟩
theorem FzIs.lt {W0:Base} {lo:Nat} {β:Bl} {Hc:Nat→Nat→SV→Prop} {w:World} (h:FzIs W0 lo β Hc w) {k:Nat} (hk:β.h k≠none):k<w.heap.size:=by
 apply Classical.byContradiction
 intro e
 exact hk (h.fresh (by omega))
theorem HRelP.gr_mono {W0:Base} {lo:Nat} {β:Bl} {Hc:Nat→Nat→SV→Prop} {w w':World} (h:HRelP W0 lo β Hc w) (k:Gr w w'):HRelP W0 lo β Hc w':=
 ⟨h.gr.trans k,fun b r e=>Nat.lt_of_lt_of_le (h.live b r e) k.size,h.inj,h.new,h.sep,fun b o sv e hs=>by
  obtain⟨r,u,h1,h2,h3,h4,h5⟩:=h.cells b o sv e hs
  exact⟨r,u,h1,h2,h3,(k.cell r o (h.live b r h1)).trans h4,(k.2.1 _ (h.live b r h1)).trans h5⟩,fun b o s hc hr=>by
  obtain⟨u,e,es,n,xs,h0,h1,h2⟩:=h.rows0 b o s hc hr
  exact⟨u,e,es,n,xs,h0,h1,h2.gr_mono k⟩,h.rinj0,fun b o xs hc=>by
  obtain⟨r,h1,h2⟩:=h.maps b o xs hc
  exact⟨r,h1,h2.keep (qee k (h.live b r h1))⟩,h.fz.imp (fun j hj=>qee k (h.fz.lt hj)) (fun _ _ _ hc _=>hc) fun _ o s hc=>⟨o,s,hc⟩⟩
end Go.Proofs.YtleaeldgaflmkaaGreat
