/-
  Joined: SxC, SxD0, SxD1. Conditions: none.
-/
import Derived.Test.YtkckcgpmnipnaaaGreatSxB
import Derived.Deep.AppendSrc
import Derived.Laws.MakeOwn
import Derived.Laws.CopyRow
namespace Go.Proofs.YtkckcgpmnipnaaaGreat
set_option maxRecDepth 100000
open Go.RowKit
def qsm (r:Nat):Option Nat→Value
 | none=>.pointer (some ⟨r,0,none⟩)
 | some n=>.slice (some ⟨r,0,none⟩) n n
structure Upd (w w':World) (row:Option Nat):Prop where
 g:w.grownBy w' row
 fz:∀ a,a.block<w.heap.size→w'.frozen? a=w.frozen? a
 dr:w.drawn≤w'.drawn
def qE1 (u:Value) (n:Nat):Prop:=∃ a c,u=.slice a n c
def qbK (P:Program) (W0:World) (lo:Nat) (β:Bl) (w:World) (s:Sem Next):Out→Prop
 | .stl b e es n ys r=>lo≤b→∃ u w',β.g b=some u∧((r=undef∧s.run P w=.ok .skip w')∨s.run P w=.ok (.value r) w')∧Upd w w' u.ownBlock∧w'.ownsRow W0.heap.size e es u n ys∧(∀ v∈ys,v.oneCell'=true)
 | .app old e es n ys=>(∀ b,old=some b→lo≤b)→∃ u w' row,s.run P w=.ok (.value u) w'∧qE1 u n∧Upd w w' row∧(row=none∨∃ b v,old=some b∧β.g b=some v∧row=v.ownBlock)∧w'.ownsRow W0.heap.size e es u n ys∧
  (∀ v∈ys,v.oneCell'=true)∧(∀ k,u.ownBlock=some k→row=some k∨w.heap.size≤k)
 | .val x=>∃ u,x.is β u∧s.run P w=.ok (.value u) w
 | .new t cells len=>∃ us,SV.isl β cells us∧(∀ u∈us,u.oneCell'=true)∧
  s.run P w=.ok (.value (qsm w.heap.size len)) (w.alloc (.cells us.toArray t))
 | .sto b o cells=>∃ r us,β b=some r∧SV.isl β cells us∧(∀ u∈us,u.oneCell'=true)∧w.there r o us.length∧s.run P w=.ok .skip (w.setCells r o us)
 | .call f args=>∃ us,SV.isl β args us∧s.run P w=.ok (.enter f us.toArray) w
 | .mnew=>s.run P w=.ok (.value (.map (some w.heap.size))) (w.alloc (.map #[] 0))
 | .mset b ys=>∃ r xs en clock,β b=some r∧MapIs w r xs∧s.run P w=.ok .skip { w with heap:=w.heap.setIfInBounds r (.map en clock) }∧(en.toList.flatMap fun e=>[e.key,e.val])=ys
theorem qox {β:Bl} {s:SV} {x:Value} (h:s.isV=true) (k:s.is β x):x=s.raw:=by
 cases s<;>simp[SV.isV] at h
 exact k
theorem qtf {β:Bl} {s:SV} {x:Value} (h:qjj s=true) (k:s.is β x):x.oneCell'=true:=by
 cases s with
 | pv y=>simp only[SV.is] at k;subst k;exact h
 | pp b o=>obtain⟨r,_,rfl⟩:=k;rfl
 | ps b o l c=>obtain⟨r,_,rfl⟩:=k;rfl
 | pc f cap=>obtain⟨r,_,rfl⟩:=k;rfl
 | ls b l=>obtain⟨_,a,c,rfl⟩:=k;rfl
 | lq b es kk l=>obtain⟨a,n,c,a',c',_,_,_,rfl,_⟩:=k;rfl
 | lp b q=>obtain⟨r,o,n,c,_,rfl⟩:=k;rfl
 | mp b=>obtain⟨r,_,rfl⟩:=k;rfl
 | ag l=>cases h
 | tu l=>cases h
 | row e es n xs=>cases h
 | mrow xs=>cases h
 | any=>cases h
theorem qc5 {β:Bl} {s:SV} {x:Value} (h:(cellsOf s).all qjj=true) (k:s.is β x):SV.isl β (cellsOf s) x.cells.toList:=by
 cases s with
 | pv y=>simp only[SV.is] at k;subst k;exact SV.isl_v _
 | pp b o=>have k':=k;obtain⟨r,_,rfl⟩:=k;exact⟨k',trivial⟩
 | ps b o l c=>have k':=k;obtain⟨r,_,rfl⟩:=k;exact⟨k',trivial⟩
 | pc f cap=>have k':=k;obtain⟨r,_,rfl⟩:=k;exact⟨k',trivial⟩
 | ls b l=>have k':=k;obtain⟨_,a,c,rfl⟩:=k;exact⟨k',trivial⟩
 | lq b es kk l=>have k':=k;obtain⟨a,n,c,a',c',_,_,_,rfl,_⟩:=k;exact⟨k',trivial⟩
 | lp b q=>have k':=k;obtain⟨r,o,n,c,_,rfl⟩:=k;exact⟨k',trivial⟩
 | mp b=>have k':=k;obtain⟨r,_,rfl⟩:=k;exact⟨k',trivial⟩
 | ag l=>obtain⟨vs,k,rfl⟩:=k;exact S0.isl_up k
 | tu l=>simp[cellsOf,qjj] at h
 | row e es n xs=>simp[cellsOf,qjj] at h
 | mrow xs=>simp[cellsOf,qjj] at h
 | any=>cases h
theorem qds {β:Bl}:∀ {ss:List SV} {us:List Value},ss.all qjj=true→SV.isl β ss us→∀ u∈us,u.oneCell'=true
 | [],[],_,_=>by simp
 | [],_::_,_,k=>k.elim
 | _::_,[],_,k=>k.elim
 | s::ss,v::vs,h,k=>by
  simp only[List.all_cons,Bool.and_eq_true] at h;intro u hu
  rcases List.mem_cons.1 hu with rfl | hu
  ·exact qtf h.1 k.1
  ·exact qds h.2 k.2 u hu
theorem qb6 {hp:List (Nat×Nat×SV)} {b:Nat}:∀ {n o:Nat} {l:List Value},qje hp b o n=some l→l.length=n∧∀ j v,l[j]?=some v→qaj hp b (o+j)=some (.pv v)
 | 0,o,l,h=>by simp[qje] at h;subst h;simp
 | n+1,o,l,h=>by
  simp only[qje] at h;split at h
  ·rename_i x hx;split at h
   ·rename_i m hm;simp only[Option.some.injEq] at h;subst h;obtain⟨h1,h2⟩:=qb6 hm;refine⟨by simp[h1],fun j v hj=>?_⟩
    cases j with
    | zero=>simp at hj;subst hj;simpa using hx
    | succ j=>rw[show o+(j+1)=o+1+j by omega];exact h2 j v (by simpa using hj)
   ·cases h
  ·cases h
theorem qiZ {hp:List (Nat×Nat×SV)} {b:Nat}:∀ {n o:Nat} {l:List S0},qmE hp b o n=some l→l.length=n∧∀ j d,l[j]?=some d→∃ s,qaj hp b (o+j)=some s∧s.down=some d
 | 0,o,l,h=>by simp[qmE] at h;subst h;simp
 | n+1,o,l,h=>by
  simp only[qmE] at h;split at h
  ·rename_i x hx;split at h
   ·rename_i d m hd hm;simp only[Option.some.injEq] at h;subst h;obtain⟨h1,h2⟩:=qiZ hm;refine⟨by simp[h1],fun j v hj=>?_⟩
    cases j with
    | zero=>simp at hj;subst hj;exact⟨x,by simpa using hx,hd⟩
    | succ j=>rw[show o+(j+1)=o+1+j by omega];exact h2 j v (by simpa using hj)
   ·cases h
  ·cases h
theorem qfA {hp:List (Nat×Nat×SV)} {b:Nat}:∀ {n o:Nat},qhI hp b o n=true→∀ j,j<n→∃ s,qaj hp b (o+j)=some s∧s.isRow=false
 | 0,o,_,j,hj=>by omega
 | n+1,o,h,j,hj=>by
  simp only[qhI] at h;split at h
  ·rename_i s hs;rw[Bool.and_eq_true,Bool.not_eq_true'] at h
   cases j with
   | zero=>exact⟨s,by simpa using hs,h.1⟩
   | succ j=>rw[show o+(j+1)=o+1+j by omega];exact qfA h.2 j (by omega)
  ·cases h
section
variable {P:Program} {W0:World} {lo:Nat} {β:Bl} {st:St} {w:World} {ρ:Operand→Value}
theorem HRel.range {hp:List (Nat×Nat×SV)} (H:HRel W0 lo β hp w) {b o n r:Nat} {l:List Value} (hr:β b=some r) (h:qje hp b o n=some l):w.rangeAt r o l:=by
 intro j v hj;obtain⟨r',u,h1,h2,_,h4,_⟩:=H.cells _ _ _ ((qb6 h).2 j v hj) rfl;rw[hr] at h1;cases h1;rw[show u=v from h2] at h4;exact h4
theorem HRel.there {hp:List (Nat×Nat×SV)} (H:HRel W0 lo β hp w) {b o n r:Nat} (hr:β b=some r) (h:qhI hp b o n=true):w.there r o n:=by
 intro j hj;obtain⟨s,hs,hnr⟩:=qfA h j hj;obtain⟨r',u,h1,_,_,h4,h5⟩:=H.cells _ _ _ hs hnr;rw[hr] at h1;cases h1;exact⟨by rw[h4];rfl,h5⟩
theorem S0.isl_pick {β:Bl}:∀ {l:List S0} (g:Nat→Value),(∀ (j:Nat) (d:S0),l[j]?=some d→d.is β (g j))→S0.isl β l ((List.range l.length).map g)
 | [],_,_=>trivial
 | d::l,g,h=>by
  rw[List.length_cons,List.range_succ_eq_map,List.map_cons,List.map_map];exact⟨h 0 d rfl,S0.isl_pick (fun j=>g (j+1)) fun j d' hj=>h (j+1) d' (by simpa using hj)⟩
theorem HRel.rangeD {hp:List (Nat×Nat×SV)} (H:HRel W0 lo β hp w) {b o n r:Nat} {l:List S0} (hr:β b=some r) (h:qmE hp b o n=some l):∃ us,S0.isl β l us∧us.length=n∧w.rangeAt r o us:=by
 obtain⟨h1,h2⟩:=qiZ h
 have key:∀ j d,l[j]?=some d→d.is β ((w.cell? ⟨r,o+j,none⟩).getD undef)∧w.cell? ⟨r,o+j,none⟩≠none:=by
  intro j d hj;obtain⟨s,e1,e2⟩:=h2 j d hj;obtain⟨r',u,a1,a2,_,a4,_⟩:=H.cells _ _ _ e1 (by cases s<;>first | rfl | cases e2);rw[hr] at a1;cases a1;rw[a4];exact⟨(SV.down_is e2).1 a2,by simp⟩
 refine⟨(List.range l.length).map fun j=>(w.cell? ⟨r,o+j,none⟩).getD undef,S0.isl_pick _ fun j d hj=>(key j d hj).1,by simp[h1],fun j v hj=>?_⟩;rw[List.getElem?_map] at hj;by_cases hjl:j<l.length
 ·rw[List.getElem?_range hjl] at hj;simp only[Option.map_some,Option.some.injEq] at hj;have:=(key j l[j] (List.getElem?_eq_getElem hjl)).2
  cases e:w.cell? ⟨r,o+j,none⟩ with
  | none=>exact (this e).elim
  | some y=>rw[e] at hj;simp at hj;rw[hj]
 ·rw[List.getElem?_eq_none (by simp;omega)] at hj;cases hj
theorem HRel.takeA {hp:List (Nat×Nat×SV)} (H:HRel W0 lo β hp w) {b o n r:Nat} {s:SV} (hr:β b=some r) (h:takeA hp b o n=some s):∃ us,s.is β (.agg us.toArray)∧us.length=n∧w.rangeAt r o us:=by
 unfold Go.Proofs.YtkckcgpmnipnaaaGreat.takeA at h;split at h
 ·rename_i l hl;simp only[Option.some.injEq] at h;subst h;exact⟨l,rfl,(qb6 hl).1,H.range hr hl⟩
 ·split at h
  ·rename_i l hl;simp only[Option.some.injEq] at h;subst h;obtain⟨us,h1,h2,h3⟩:=H.rangeD hr hl;exact⟨us,⟨us,h1,rfl⟩,h2,h3⟩
  ·cases h
theorem qfP {u:Value} {c:Ch} {out:Out} {q:List Prop} (h:qc8 u c=some (out,q)) (hq:qba q) {s:Sem Next} (hs:s.run P w=.ok (.value u) w):qbK P W0 lo β w s out:=by
 cases c with
 | k=>simp only[qc8,Option.some.injEq,Prod.mk.injEq] at h;obtain⟨rfl,rfl⟩:=h;exact⟨u,rfl,hs⟩
 | t b=>
  simp only[qc8] at h;split at h
  ·rename_i e;simp only[Option.some.injEq,Prod.mk.injEq] at h;obtain⟨rfl,rfl⟩:=h;have:=hq.1;subst this;exact⟨_,rfl,hs⟩
  ·cases h
 | r v=>
  simp only[qc8,Option.some.injEq,Prod.mk.injEq] at h;obtain⟨rfl,rfl⟩:=h;have:=hq.1;subst this;exact⟨_,rfl,hs⟩
 | _=>cases h
theorem qgz {o:Oper} (hn:∀ cs b,o.op≠.select cs b) (hx:∀ x∈o.op.operands,(st.ev x).is β (ρ x)) (hv:(o.op.operands.toList.all fun x=>(st.ev x).isV)=true) :
 execOp ρ o=execOp (fun x=>(st.ev x).raw) o:=by
 refine execOp_congr o hn fun x hm=>?_
 exact qox (List.all_eq_true.1 hv x (by simpa using hm)) (hx x hm)
theorem qa9 {o:Oper} {c:Ch} {out:Out} {q:List Prop} (h:qbR P st o c=some (out,q)) (hq:qba q) (hx:∀ x∈o.op.operands,(st.ev x).is β (ρ x)):qbK P W0 lo β w (execOp ρ o) out:=by
 unfold qbR at h
 cases hv:o.op.operands.toList.all fun x=>(st.ev x).isV
 ·rw[hv] at h;simp at h
 ·rw[hv,cond_true] at h;split at h
  ·cases h
  ·rename_i hn;split at h
   ·rename_i u hu;rw[qgz (fun cs b e=>hn cs b e) hx hv];exact qfP h hq (qfc hu w)
   ·cases h
theorem qax {s:Sem Value} {u:Value} {w':World} (h:s.run P w=.ok u w'):((do pure (.value (← s))):Sem Next).run P w=.ok (.value u) w':=by
 simp[h]
theorem qfe {s:Sem Unit} {w':World} (h:s.run P w=.ok () w'):((do s;pure .skip):Sem Next).run P w=.ok .skip w':=by
 simp[h]
theorem qwv {o:Oper} {op:BinOp} {t t':TypeId} {x y:Operand} {c:Ch} {out:Out} {q:List Prop} (ho:o.op=.binOp op t x y t') (h:qIt P st o op t (st.ev x) (st.ev y) c=some (out,q)) (hq:qba q)
 (hx:∀ x∈o.op.operands,(st.ev x).is β (ρ x)):qbK P W0 lo β w (execOp ρ o) out:=by
 have ha:(st.ev x).is β (ρ x):=hx x (by simp[ho,Op.operands]);have hb:(st.ev y).is β (ρ y):=hx y (by simp[ho,Op.operands])
 have gd:∀ xs ys,P.eqGuardType P.depth t=false→(eqGuard op t x y (.agg xs) (.agg ys)).run P w=.ok () w:=by
  intro xs ys hg;unfold eqGuard
  cases op<;>simp[hg]
 have gi:∀ k a l b,(eqGuard op t x y (.int k a) (.int l b)).run P w=.ok () w:=by
  intro k a l b;unfold eqGuard
  cases op<;>simp
 unfold qIt at h;split at h
 ·rename_i xs ys e h1 h2;rw[h1] at ha;rw[h2] at hb;cases hg:P.eqGuardType P.depth t
  ·rw[hg,cond_false] at h;split at h
   ·rename_i r hr;simp only[Option.some.injEq,Prod.mk.injEq] at h;obtain⟨rfl,rfl⟩:=h;have he:=hq.1;subst he;refine⟨_,rfl,?_⟩;simp only[execOp,ho];refine qax ?_;rw[show ρ x=_ from ha,show ρ y=_ from hb];simp[gd _ _ hg,binOp,Op.equal,qhE w 40 _ _ _ _ hr Op.maxDepth (by decide)]
   ·cases h
  ·rw[hg,cond_true] at h;cases h
 ·rename_i xs ys e h1 h2;rw[h1] at ha;rw[h2] at hb;cases hg:P.eqGuardType P.depth t
  ·rw[hg,cond_false] at h;split at h
   ·rename_i r hr;simp only[Option.some.injEq,Prod.mk.injEq] at h;obtain⟨rfl,rfl⟩:=h;have he:=hq.1;subst he;refine⟨_,rfl,?_⟩;simp only[execOp,ho];refine qax ?_;rw[show ρ x=_ from ha,show ρ y=_ from hb];simp[gd _ _ hg,binOp,Op.equal,qhE w 40 _ _ _ _ hr Op.maxDepth (by decide)]
   ·cases h
  ·rw[hg,cond_true] at h;cases h
 all_goals
  first
  | exact qa9 h hq hx
  | (
   rename_i h1 h2;rw[h1] at ha;rw[h2] at hb
   first
   | (
    split at h
    ·rename_i hk;subst hk;simp only[Option.some.injEq,Prod.mk.injEq] at h;obtain⟨rfl,rfl⟩:=h;have he:=hq.1;have hv:=hq.2.1;subst hv;refine⟨_,rfl,?_⟩;simp only[execOp,ho];refine qax ?_;rw[show ρ x=_ from ha,show ρ y=_ from hb];simp[gi,binOp,Op.intDiv,he]
    ·cases h)
   | (
    simp only[Option.some.injEq,Prod.mk.injEq] at h;obtain⟨rfl,rfl⟩:=h;have he:=hq.1;have hv:=hq.2.1;subst hv;refine⟨_,rfl,?_⟩;simp only[execOp,ho];refine qax ?_;rw[show ρ x=_ from ha,show ρ y=_ from hb]
    simp[gi,binOp,Op.shift,he]))
end
end Go.Proofs.YtkckcgpmnipnaaaGreat

namespace Go.Proofs.YtkckcgpmnipnaaaGreat
set_option maxRecDepth 100000
open Go.RowKit
theorem qhf {w:World} {g:Nat} {cur:Array Value} {e:TypeId} {fr:Nat×Nat} (hg:w.heap[g]?=some (.cells cur e fr)) (cs:Array Value) (a:Addr):(w.setRow g cs).frozen? a=w.frozen? a:=by
 by_cases h:a.block=g
 ·have h1:(w.setRow g cs).heap[a.block]?=some (.cells cs e fr):=by rw[h];exact setRow_heap w g cur cs e fr hg
  have h2:w.heap[a.block]?=some (.cells cur e fr):=by rw[h];exact hg
  simp[World.frozen?,h1,h2]
 ·simp[World.frozen?,setRow_other w g a.block cs h]
theorem Upd.refl (w:World) (row:Option Nat):Upd w w row:=⟨⟨rfl,rfl,rfl,Nat.le_refl _,fun _ _ _=>rfl⟩,fun _ _=>rfl,Nat.le_refl _⟩
theorem Upd.setRow {w:World} {g:Nat} {cur:Array Value} {e:TypeId} {fr:Nat×Nat} (hg:w.heap[g]?=some (.cells cur e fr)) (cs:Array Value):Upd w (w.setRow g cs) (some g):=
 ⟨⟨rfl,rfl,rfl,by simp,fun k _ hk=>setRow_other w g k cs fun e=>hk (by rw[e])⟩,fun a _=>qhf hg cs a,Nat.le_refl _⟩
theorem Upd.alloc (w:World) (c:Array Value) (t:TypeId) (row:Option Nat):Upd w (w.alloc (.cells c t)) row:=
 ⟨⟨rfl,rfl,rfl,by show _≤(w.heap.push _).size;simp,fun k hk _=>heap_alloc_old w _ k hk⟩,fun a _=>frozen?_alloc_cells w c t a,Nat.le_refl _⟩
theorem Upd.allocD (w:World) (c:Array Value) (t:TypeId) (row:Option Nat):Upd w (w.drew.alloc (.cells c t)) row:=
 ⟨⟨rfl,rfl,rfl,by show _≤(w.heap.push _).size;simp,fun k hk _=>heap_alloc_old w.drew _ k hk⟩,fun a _=>(frozen?_alloc_cells w.drew c t a).trans rfl,Nat.le_succ _⟩
theorem Upd.gr {W w w':World} {row:Option Nat} (h:Gr W w) (k:Upd w w' row) (hr:∀ j,row=some j→W.heap.size≤j):Gr W w':=
 ⟨⟨k.g.os.trans h.1.os,k.g.tape.trans h.1.tape,k.g.output.trans h.1.output,Nat.le_trans h.1.size k.g.size,fun j hj=>(k.g.block j (Nat.lt_of_lt_of_le hj h.1.size) fun e=>by have:=hr j e.symm;omega).trans (h.1.block j hj)⟩,fun a ha=>(k.fz a (Nat.lt_of_lt_of_le ha h.1.size)).trans (h.2.1 a ha),Nat.le_trans h.2.2 k.dr⟩
theorem qpx {w:World} {base:Nat} {e:TypeId} {es n:Nat} {u:Value} {xs:List Value} (h:w.ownsRow base e es u n xs):qE1 u n:=by
 rcases h.2 with ⟨rfl,rfl⟩ | ⟨g,cap,cur,rfl,_⟩
 ·exact⟨none,0,rfl⟩
 ·exact⟨_,_,rfl⟩
theorem qkk {w:World} {base:Nat} {e:TypeId} {es n:Nat} {u:Value} {xs:List Value} (h:w.ownsRow base e es u n xs):Rd w es u n xs:=by
 refine⟨h.1,?_⟩
 have hc:=fun g hg=>h.cells (g:=g) hg
 rcases h.2 with ⟨rfl,rfl⟩ | ⟨g,cap,cur,rfl,h3,h4,h5,h6⟩
 ·refine⟨none,0,rfl,Nat.le_refl _,fun j v hj=>?_⟩;have:xs=[]:=List.eq_nil_of_length_eq_zero (by simpa using h.1);rw[this] at hj;simp at hj
 ·refine⟨_,_,rfl,h5,fun j v hj=>⟨g,0,rfl,?_⟩⟩;have:=hc g rfl j v hj;rw[Addr.add_mid] at this;exact this
theorem qyD {P:Program} {w:World} {base:Nat} {t tx ty e:TypeId} {i:TypeInfo} {z:Value} (ht:P.underlying t=some (.slice e)) (hi:P.info? e=some i) (hz:i.zero=some z) (hzs:z.cells.size=i.size)
 {v x:Value} {n m:Nat} {xs news:List Value} (h:w.ownsRow base e i.size v n xs) (hb:base≤w.heap.size) (hs:Src P i.size tx x m news w) (hby:i.bytes≤100000000) (hn:n+m≤1000000) :
 ∃ u w' row,(Builtin.append_ #[t,tx] ty #[v,x]).run P w=.ok u w'∧qE1 u (n+m)∧Upd w w' row∧(row=none∨row=v.ownBlock)∧w'.ownsRow base e i.size u (n+m) (xs++news)∧(∀ k,u.ownBlock=some k→row=some k∨w.heap.size≤k):=by
 have hlen:(xs++news).length=(n+m)*i.size:=by rw[List.length_append,h.1,hs.newsLen,Nat.add_mul]
 have hbytes:(n+m)*i.bytes≤140737488355328:=Nat.le_trans (Nat.mul_le_mul hn hby) (by decide)
 have h63:((n+m:Nat):Int)≤9223372036854775807:=by omega
 have grown:∀ (sCap:Nat),sCap<n+m→Builtin.nextslicecap (n+m) sCap*i.bytes≤281474976710656∧
  (w.drew.alloc (.cells ((xs++news).toArray++Builtin.zeroCells z.cells (grownCap w (n+m) sCap e-(n+m))) e)).ownsRow base e i.size (.slice (some ⟨w.heap.size,0,none⟩) (n+m) (grownCap w (n+m) sCap e)) (n+m) (xs++news):=by
  intro sCap ho;have hge:=grownCap_ge w (n+m) sCap e;have hcm:grownCap w (n+m) sCap e≤maxLen:=grownCap_le_maxLen w (n+m) sCap e (by simp only[maxLen];omega);refine⟨growslice_fits ho hbytes,hlen,.inr ⟨w.heap.size,_,_,rfl,hb,heap_alloc_new w.drew _,hge,hcm,?_,?_⟩⟩
  ·simp only[Array.size_append,List.size_toArray,size_zeroCells,hzs,hlen,← Nat.add_mul];congr 1;omega
  ·simp only[Array.toList_append,← hlen];exact List.take_left
 rcases h.2 with ⟨rfl,rfl⟩ | ⟨g,cap,cur,rfl,hbg,hg,hnc,hcm,hcs,htake⟩
 ·have hx:xs=[]:=List.eq_nil_of_length_eq_zero (by simpa using h.1);subst hx;by_cases hm:m=0
  ·subst hm;have hn0:news=[]:=List.eq_nil_of_length_eq_zero (by simpa using hs.newsLen);subst hn0;refine⟨.slice none 0 0,w,none,?_,⟨_,_,rfl⟩,Upd.refl w none,Or.inl rfl,World.ownsRow_nil w base e i.size,fun k hk=>(by cases hk)⟩
   rcases hs.kind with ⟨e',hk⟩ | hk<;>simp[Builtin.append_,run_underlying ht,run_underlying hk,sizeOf,typeInfo,hi,hs.len,hs.cells]
  ·have hr:=run_append_grow_src (P:=P) w t tx ty e i z ht hi hz none 0 0 [] (run_firstCells_none w.drew i.size 0 0 0) x m news hs (by omega) (by simpa using h63) (by simpa using (grown 0 (by omega)).1);refine⟨_,_,none,by simpa using hr,⟨_,_,rfl⟩,Upd.allocD w _ e none,Or.inl rfl,by simpa using (grown 0 (by omega)).2,fun k hk=>?_⟩;simp[Value.ownBlock] at hk;exact Or.inr (Nat.le_of_eq hk)
 ·by_cases hroom:n+m≤cap
  ·have hfit:n*i.size+news.length≤cur.size:=by rw[hs.newsLen,hcs,← Nat.add_mul];exact Nat.mul_le_mul_right _ hroom
   have hst:=run_storeCells_at P g (n*i.size) e news 0 cur w hg (by simpa using hfit) hs.one;simp only[Nat.add_zero] at hst;refine⟨.slice (some ⟨g,0,none⟩) (n+m) cap,w.setRow g (cur.toList.take (n*i.size)++news++cur.toList.drop (n*i.size+news.length)).toArray,some g,?_,⟨_,_,rfl⟩,Upd.setRow hg _,Or.inr rfl,⟨hlen,.inr ⟨g,cap,_,rfl,hbg,setRow_heap w g cur _ e _ hg,hroom,hcm,?_,?_⟩⟩,fun k hk=>?_⟩
   ·rcases hs.kind with ⟨e',hk⟩ | hk<;>simp[Builtin.append_,run_underlying ht,run_underlying hk,sizeOf,typeInfo,hi,hs.len,hroom,hs.cells,Addr.add_lit,hst]
   ·simp only[List.size_toArray,List.length_append,List.length_take,List.length_drop,Array.length_toList];omega
   ·rw[htake,← hlen];exact List.take_left
   ·simp[Value.ownBlock] at hk;exact Or.inl (by rw[hk])
  ·have holds:∀ j u,xs[j]?=some u→w.drew.cell? ((⟨g,0,none⟩:Addr).add j)=some u:=h.cells (g:=g) rfl;have hr:=run_append_grow_src (P:=P) w t tx ty e i z ht hi hz (some ⟨g,0,none⟩) n cap xs (run_firstCells_some w.drew i.size n _ n cap xs h.1 holds) x m news hs (by omega) h63 (grown cap (by omega)).1;refine⟨_,_,none,hr,⟨_,_,rfl⟩,Upd.allocD w _ e none,Or.inl rfl,(grown cap (by omega)).2,fun k hk=>?_⟩;simp[Value.ownBlock] at hk;exact Or.inr (Nat.le_of_eq hk)
theorem qd3 (z:Array Value):∀ (n:Nat),(madeCells z (n*z.size)).toList=qdR z.toList n:=by
 have key:∀ n,(List.range (n*z.size)).map (fun j=>z[j%z.size]!)=qdR z.toList n:=by
  intro n
  induction n with
  | zero=>simp[qdR]
  | succ n ih=>
   rw[Nat.succ_mul,Nat.add_comm,List.range_add,List.map_append,qdR];congr 1
   ·apply List.ext_getElem
    ·simp
    ·intro j h1 h2;simp only[List.getElem_map,List.getElem_range]
     have hj:j<z.size:=by simpa using h1
     rw[Nat.mod_eq_of_lt hj,getElem!_pos z j hj,Array.getElem_toList]
   ·rw[List.map_map,← ih];apply List.map_congr_left;intro j _;simp
 intro n;rw[← key];simp[madeCells]
theorem qtp {P:Program} {w:World} {base:Nat} {t e:TypeId} {i:TypeInfo} {z:Value} (ht:P.underlying t=some (.slice e)) (hi:P.info? e=some i) (hz:i.zero=some z) (hzs:z.cells.size=i.size)
 (hb:base≤w.heap.size) (hby:i.bytes≤100000000) {kl kc:IntKind} {l:Int} (h0:0≤l) (hn:l≤1000000) :
 (Instr.makeSlice t (.int kl l) (.int kc l)).run P w=.ok (.slice (some ⟨w.heap.size,0,none⟩) l.toNat l.toNat) (w.alloc (.cells (madeCells z.cells (l.toNat*i.size)) e))∧
  (w.alloc (.cells (madeCells z.cells (l.toNat*i.size)) e)).ownsRow base e i.size (.slice (some ⟨w.heap.size,0,none⟩) l.toNat l.toNat) l.toNat (qdR z.cells.toList l.toNat):=by
 have hm:(i.bytes:Int)*l≤281474976710656:=by
  have:(i.bytes:Int)*l≤100000000*1000000:=Int.mul_le_mul (by omega) hn h0 (by omega);omega
 refine⟨run_make w t e i z ht hi hz kl kc l l h0 (Int.le_refl _) hm (by omega),?_⟩
 ·have hl:(qdR z.cells.toList l.toNat).length=l.toNat*i.size:=by rw[← qd3,hzs];simp[size_madeCells]
  refine⟨hl,.inr ⟨w.heap.size,l.toNat,_,rfl,hb,heap_alloc_new w _,Nat.le_refl _,by simp only[maxLen];omega,by simp[size_madeCells],?_⟩⟩;rw[← qd3,hzs];exact List.take_of_length_le (by simp[size_madeCells])
theorem qqg {P:Program} {w:World} {base:Nat} {t tx ty e:TypeId} {i:TypeInfo} {z:Value} {ki kx:IntKind} (ht:P.underlying t=some (.slice e)) (htx:P.underlying tx=some (.int ki)) (hi:P.info? e=some i) (hz:i.zero=some z) (hzs:z.cells.size=i.size)
 (hb:base≤w.heap.size) (hby:i.bytes≤100000000) {l:Int} (h0:0≤l) (hn:l≤1000000) :
 ∃ u w',(Builtin.append_ #[t,tx] ty #[.slice none 0 0,.int kx l]).run P w=.ok u w'∧qE1 u l.toNat∧Upd w w' none∧w'.ownsRow base e i.size u l.toNat (qdR z.cells.toList l.toNat)∧(∀ k,u.ownBlock=some k→w.heap.size≤k):=by
 have wl:IntKind.i64.wrap l=l:=by rw[IntKind.wrap_i64];omega
 have hm:l*(i.bytes:Int)≤281474976710656:=by
  have:l*(i.bytes:Int)≤1000000*100000000:=Int.mul_le_mul hn (by omega) (by omega) (by omega);omega
 have n1:¬ l<0:=by omega
 have n2:¬ 281474976710656<l*(i.bytes:Int):=by omega
 by_cases hl:l=0
 ·subst hl;refine⟨.slice none 0 0,w,?_,⟨_,_,rfl⟩,Upd.refl w none,World.ownsRow_nil w base e i.size,fun k hk=>(by cases hk)⟩;simp[Builtin.append_,run_underlying ht,run_underlying htx,sizeOf,typeInfo,hi,asInt,asIntOf,wl]
 ·have hlen:(qdR z.cells.toList l.toNat).length=l.toNat*i.size:=by rw[← qd3,hzs];simp[size_madeCells]
  have hzc:(Builtin.zeroCells z.cells l.toNat).toList=qdR z.cells.toList l.toNat:=by
   rw[← qd3];simp[Builtin.zeroCells,madeCells]
  have hge:=grownCap_ge w l.toNat 0 e;have hcm:grownCap w l.toNat 0 e≤maxLen:=grownCap_le_maxLen w l.toNat 0 e (by simp only[maxLen];omega);have hby2:l.toNat*i.bytes≤140737488355328:=Nat.le_trans (Nat.mul_le_mul (show l.toNat≤1000000 by omega) hby) (by decide);have h48:=growslice_fits (need:=l.toNat) (old:=0) (bytes:=i.bytes) (by omega) hby2
  have h48':¬ (281474976710656<Builtin.nextslicecap l.toNat 0*i.bytes):=by omega
  have h63':¬ (9223372036854775807<(l.toNat:Int)):=by omega
  have hpos:¬ l.toNat=0:=by omega
  have hp2:¬ l≤0:=by omega
  have hp3:¬ (9223372036854775807<max l 0):=by omega
  refine⟨.slice (some ⟨w.heap.size,0,none⟩) l.toNat (grownCap w l.toNat 0 e),w.drew.alloc (.cells (Builtin.zeroCells z.cells l.toNat++Builtin.zeroCells z.cells (grownCap w l.toNat 0 e-l.toNat)) e),?_,⟨_,_,rfl⟩,Upd.allocD w _ e none,
   ⟨hlen,.inr ⟨w.heap.size,_,_,rfl,hb,heap_alloc_new w.drew _,hge,hcm,?_,?_⟩⟩,fun k hk=>?_⟩
  ·by_cases hsz:i.size=0
   ·have hz0:z.cells=#[]:=Array.eq_empty_of_size_eq_zero (by omega);simp[Builtin.append_,run_underlying ht,run_underlying htx,sizeOf,typeInfo,hi,asInt,asIntOf,wl,n1,n2,hpos,hp2,hp3,hsz,h48',h63',Question.forced,Builtin.firstCells,zeroValue,hz,newRow,grownCap,Builtin.zeroCells,hz0,Array.range_zero']
   ·have hne:¬ (l.toNat*i.size=0):=fun e0=>by rcases Nat.mul_eq_zero.1 e0 with h | h<;>omega
    simp[Builtin.append_,run_underlying ht,run_underlying htx,sizeOf,typeInfo,hi,asInt,asIntOf,wl,n1,n2,hpos,hp2,hp3,hsz,h48',h63',Question.forced,Builtin.firstCells,zeroValue,hz,newRow,grownCap]
    exact fun e0=>(hne e0).elim
  ·simp only[Array.size_append,size_zeroCells,hzs,← Nat.add_mul];congr 1;omega
  ·rw[Array.toList_append,hzc,← hlen];exact List.take_left
  ·simp[Value.ownBlock] at hk;exact Nat.le_of_eq hk
theorem qg3 {xs cur:List Value} {n k es:Nat} (h:cur.take (n*es)=xs) (hk:k≤n):cur.take (k*es)=xs.take (k*es):=by
 rw[← h,List.take_take,Nat.min_eq_left (Nat.mul_le_mul_right _ hk)]
theorem qoB {w:World} {base:Nat} {e:TypeId} {es n k c:Nat} {a:Option Addr} {xs:List Value} (h:w.ownsRow base e es (.slice a n c) n xs) (hk:k≤n) :
 w.ownsRow base e es (.slice (if c=0 then a else a.map (·.add (0*es))) k c) k (xs.take (k*es))∧∀ j,(Value.slice (if c=0 then a else a.map (·.add (0*es))) k c).ownBlock=some j→(Value.slice a n c).ownBlock=some j:=by
 rcases h.2 with ⟨h2,h3⟩ | ⟨g,cap,cur,h2,h3,h4,h5,h6,h7,h8⟩
 ·cases h2
  have:k=0:=by omega
  subst this;have hx:xs=[]:=List.eq_nil_of_length_eq_zero (by simpa using h.1);subst hx;exact⟨by simpa using World.ownsRow_nil w base e es,fun j hj=>by simp[Value.ownBlock] at hj⟩
 ·cases h2
  have he:(if c=0 then some (⟨g,0,none⟩:Addr) else (some (⟨g,0,none⟩:Addr)).map (·.add (0*es)))=some ⟨g,0,none⟩:=by
   split
   ·rfl
   ·simp only[Nat.zero_mul,Option.map_some,Addr.add_mid]
  rw[he];have hl:k*es≤n*es:=Nat.mul_le_mul_right _ hk;refine⟨⟨by rw[List.length_take,h.1];omega,.inr ⟨g,_,cur,rfl,h3,h4,by omega,h6,h7,?_⟩⟩,fun j hj=>hj⟩;exact qg3 h8 hk
end Go.Proofs.YtkckcgpmnipnaaaGreat

namespace Go.Proofs.YtkckcgpmnipnaaaGreat
set_option maxRecDepth 100000
open Go.RowKit
theorem qpc (cur us:List Value) (N q:Nat) (h:q+us.length≤N) (hN:N≤cur.length):(cur.take q++us++cur.drop (q+us.length)).take N=qf9 (cur.take N) q us:=by
 unfold qf9;apply List.ext_getElem?;intro j;simp only[List.getElem?_take,List.getElem?_append,List.length_append,List.length_take,List.getElem?_drop];rw[Nat.min_eq_left (show q≤cur.length by omega),Nat.min_eq_left hN,Nat.min_eq_left (show q≤N by omega)];by_cases h1:j<q
 ·simp[show j<N by omega,h1,show j<q+us.length by omega]
 ·by_cases h2:j<q+us.length
  ·simp[h1,h2,show j<N by omega]
  ·simp only[h1,h2,if_false];rw[show q+us.length+(j-(q+us.length))=j by omega]
theorem qkc {P:Program} {w:World} {base:Nat} {e:TypeId} {es n:Nat} {u:Value} {xs:List Value} (h:w.ownsRow base e es u n xs) {r o n' c q:Nat} (hu:u=.slice (some ⟨r,o,none⟩) n' c) {us:List Value} (hq:q+us.length≤xs.length) (h1:∀ v∈us,v.oneCell'=true) :
 ∃ w',(storeCells ⟨r,o+q,none⟩ us 0).run P w=.ok () w'∧Upd w w' u.ownBlock∧w'.ownsRow base e es u n (qf9 xs q us):=by
 rcases h.2 with ⟨rfl,_⟩ | ⟨g,cap,cur,rfl,h3,h4,h5,h6,h7,h8⟩
 ·cases hu
 ·cases hu
  have hN:n*es≤cur.toList.length:=by rw[Array.length_toList,h7];exact Nat.mul_le_mul_right _ h5
  have hl:=h.1;have hst:=run_storeCells_at P r q e us 0 cur w h4 (by have:=Array.length_toList (xs:=cur);omega) h1;simp only[Nat.add_zero] at hst;rw[Nat.zero_add];refine⟨_,hst,Upd.setRow h4 _,?_,.inr ⟨r,c,_,rfl,h3,setRow_heap w r cur _ e _ h4,h5,h6,?_,?_⟩⟩
  ·unfold qf9;simp only[List.length_append,List.length_take,List.length_drop];omega
  ·simp only[List.size_toArray,List.length_append,List.length_take,List.length_drop,Array.length_toList];have:=Array.length_toList (xs:=cur);omega
  ·show (cur.toList.take q++us++cur.toList.drop (q+us.length)).take (n*es)=_
   rw[qpc _ _ _ _ (by omega) hN,h8]
theorem qhG {xs us:List Value} {q:Nat} (h:∀ v∈xs,v.oneCell'=true) (k:∀ v∈us,v.oneCell'=true):∀ v∈qf9 xs q us,v.oneCell'=true:=by
 intro v hv;unfold qf9 at hv
 rcases List.mem_append.1 hv with hv | hv
 ·rcases List.mem_append.1 hv with hv | hv
  ·exact h v (List.mem_of_mem_take hv)
  ·exact k v hv
 ·exact h v (List.mem_of_mem_drop hv)
theorem qi3 (off:Nat):∀ (l:List Value) (k:Nat) (cells:Array Value),off+k+l.length≤cells.size→
 ((l.zipIdx k).foldl (fun cs (p:Value×Nat)=>cs.setIfInBounds (off+p.2) p.1) cells).toList=cells.toList.take (off+k)++l++cells.toList.drop (off+k+l.length)
 | [],k,cells,_=>by simp
 | c::l,k,cells,h=>by
  simp only[List.zipIdx_cons,List.foldl_cons];rw[qi3 off l (k+1) (cells.setIfInBounds (off+k) c) (by simp at h ⊢;omega)];simp only[List.length_cons] at h ⊢;rw[Array.toList_setIfInBounds];apply List.ext_getElem?;intro j;have hs:=Array.length_toList (xs:=cells);simp only[List.getElem?_append,List.length_append,List.length_take,List.length_set,List.getElem?_take,List.getElem?_drop,List.getElem?_set,List.length_cons,hs];rw[Nat.min_eq_left (show off+(k+1)≤cells.size by omega),Nat.min_eq_left (show off+k≤cells.size by omega)];by_cases h1:j<off+k
  ·simp[h1,show j<off+(k+1) by omega,show j<off+(k+1)+l.length by omega,show j<off+k+(l.length+1) by omega,show ¬ off+k=j by omega]
  ·by_cases h2:j=off+k
   ·subst h2;simp[show off+k<off+(k+1) by omega,show off+k<off+(k+1)+l.length by omega,show off+k<cells.size by omega]
   ·by_cases h3:j<off+(k+1)+l.length
    ·simp only[h3,h1,if_true,if_false,show ¬ j<off+(k+1) by omega,show j<off+k+(l.length+1) by omega];rw[show j-(off+k)=(j-(off+(k+1)))+1 by omega,List.getElem?_cons_succ]
    ·simp only[h3,if_false,show ¬ j<off+k+(l.length+1) by omega];rw[if_neg (by omega)];congr 1;omega
theorem S0.isl_append {β:Bl}:∀ {a b:List S0} {x y:List Value},S0.isl β a x→S0.isl β b y→S0.isl β (a++b) (x++y)
 | [],_,[],_,_,k=>k
 | [],_,_::_,_,h,_=>h.elim
 | _::_,_,[],_,h,_=>h.elim
 | _::_,_,_::_,_,h,k=>⟨h.1,S0.isl_append h.2 k⟩
theorem S0.isl_take {β:Bl}:∀ {a:List S0} {x:List Value} (n:Nat),S0.isl β a x→S0.isl β (a.take n) (x.take n)
 | _,_,0,_=>trivial
 | [],[],_+1,_=>trivial
 | [],_::_,_+1,h=>h.elim
 | _::_,[],_+1,h=>h.elim
 | _::_,_::_,n+1,h=>⟨h.1,S0.isl_take n h.2⟩
theorem S0.isl_drop {β:Bl}:∀ {a:List S0} {x:List Value} (n:Nat),S0.isl β a x→S0.isl β (a.drop n) (x.drop n)
 | _,_,0,h=>h
 | [],[],_+1,_=>trivial
 | [],_::_,_+1,h=>h.elim
 | _::_,[],_+1,h=>h.elim
 | _::_,_::_,n+1,h=>S0.isl_drop n h.2
def qki (β:Bl):List (Nat×SV)→List (Nat×Value)→Prop
 | [],[]=>True
 | p::ps,q::qs=>p.1=q.1∧p.2.is β q.2∧qki β ps qs
 | _,_=>False
theorem qiV {β:Bl} {s:SV} {v:Value} {ds:List S0} (h:qbQ (cellsOf s)=some ds) (k:s.is β v):S0.isl β ds v.cells.toList:=by
 cases s with
 | pv y=>
  simp only[SV.is] at k;subst k;exact qa4 h (SV.isl_v _)
 | pp b o=>have k':=k;obtain⟨r,_,rfl⟩:=k;exact qa4 (ss:=[.pp b o]) h ⟨k',trivial⟩
 | ps b o l c=>have k':=k;obtain⟨r,_,rfl⟩:=k;exact qa4 (ss:=[.ps b o l c]) h ⟨k',trivial⟩
 | ls b l=>have k':=k;obtain⟨_,a,c,rfl⟩:=k;exact qa4 (ss:=[.ls b l]) h ⟨k',trivial⟩
 | lq b es kk l=>have k':=k;obtain⟨a,n,c,a',c',_,_,_,rfl,_⟩:=k;exact qa4 (ss:=[.lq b es kk l]) h ⟨k',trivial⟩
 | lp b q=>have k':=k;obtain⟨r,o,n,c,_,rfl⟩:=k;exact qa4 (ss:=[.lp b q]) h ⟨k',trivial⟩
 | ag l=>obtain⟨vs,k,rfl⟩:=k;exact qa4 h (S0.isl_up k)
 | pc f cap=>simp[cellsOf,qbQ,SV.down] at h
 | tu l=>simp[cellsOf,qbQ,SV.down] at h
 | any=>simp[cellsOf,qbQ,SV.down] at h
 | row e es n xs=>simp[cellsOf,qbQ,SV.down] at h
 | mrow xs=>simp[cellsOf,qbQ,SV.down] at h
 | mp b=>have k':=k;obtain⟨r,_,rfl⟩:=k;exact qa4 (ss:=[.mp b]) h ⟨k',trivial⟩
theorem qjx {β:Bl} {place place':Nat→Option (Nat×Nat)} (hp:∀ i,place' i=place i):∀ {parts:List (Nat×SV)} {qs:List (Nat×Value)} {cells out:List S0} {cs:List Value},qlK place cells parts=some out→qki β parts qs→S0.isl β cells cs→
 ∃ us,Instr.fill place' cs.toArray qs=some us.toArray∧S0.isl β out us∧us.length=cs.length
 | [],[],cells,out,cs,h,_,hc=>by
  simp only[qlK,Option.some.injEq] at h;subst h;exact⟨cs,rfl,hc,rfl⟩
 | [],_::_,_,_,_,_,h,_=>h.elim
 | _::_,[],_,_,_,_,h,_=>h.elim
 | (i,s)::ps,(i',v)::qs,cells,out,cs,h,hpq,hc=>by
  obtain⟨e1,e2,e3⟩:=hpq;simp only at e1 e2;subst e1;simp only[qlK] at h;split at h
  ·rename_i off size ds hpl hd;cases hb:(Nat.beq ds.length size&&Nat.ble (off+ds.length) cells.length)
   ·rw[hb] at h;cases h
   ·rw[hb,cond_true] at h;rw[Bool.and_eq_true] at hb;have hds:=qiV hd e2;have l1:=(S0.isl_get hds).1;have l2:=(S0.isl_get hc).1;have b1:=Nat.eq_of_beq_eq_true hb.1;have b2:=Nat.le_of_ble_eq_true hb.2;have hvs:v.cells.toList.length=v.cells.size:=Array.length_toList
    have hnew:S0.isl β (qGP cells off ds) (cs.take off++v.cells.toList++cs.drop (off+v.cells.toList.length)):=by
     unfold qGP;rw[← l1];exact S0.isl_append (S0.isl_append (S0.isl_take off hc) hds) (S0.isl_drop _ hc)
    obtain⟨us,f1,f2,f3⟩:=qjx hp h e3 hnew;refine⟨us,?_,f2,?_⟩
    ·unfold Instr.fill;rw[hp,hpl];simp only;rw[if_neg (by simp;omega)];have hfold:=qi3 off v.cells.toList 0 cs.toArray (by simp;omega)
     have he:v.cells.zipIdx.foldl (fun cs (p:Value×Nat)=>cs.setIfInBounds (off+p.2) p.1) cs.toArray=(cs.take off++v.cells.toList++cs.drop (off+v.cells.toList.length)).toArray:=by
      apply Array.ext';rw[← Array.foldl_toList,Array.toList_zipIdx,hfold];simp
     rw[← f1];congr 1
    ·rw[f3];simp only[List.length_append,List.length_take,List.length_drop];omega
  ·cases h
theorem qa5 {P:Program} {t:TypeId} {i:TypeInfo} (h:P.info? t=some i) (w:World):(sizeOf t).run P w=.ok i.size w:=by simp[sizeOf,run_typeInfo w h]
theorem qgV {P:Program} (w:World):∀ {fs:List Field} {l:List (Nat×Nat)},qd7 P fs=some l→(fs.mapM fun (f:Field)=>(do pure (f.offset,← sizeOf f.type):Sem (Nat×Nat))).run P w=.ok l w
 | [],l,h=>by simp only[qd7,Option.some.injEq] at h;subst h;simp
 | f::r,l,h=>by
  simp only[qd7] at h;split at h
  ·rename_i i m hi hm;simp only[Option.some.injEq] at h;subst h;rw[List.mapM_cons];simp only[Sem.run_bind,Sem.run_pure,Result.andThen_ok,qa5 hi w,qgV w hm]
  ·cases h
theorem qdy {β:Bl} {st:St} {ρ:Operand→Value}:∀ {parts:List (Nat×Operand)},(∀ x∈parts.map (·.2),(st.ev x).is β (ρ x))→qki β (parts.map fun p=>(p.1,st.ev p.2)) (parts.map fun p=>(p.1,ρ p.2))
 | [],_=>trivial
 | p::r,h=>⟨rfl,h p.2 (by simp),qdy fun x hx=>h x (by simp at hx ⊢;exact Or.inr hx)⟩
end Go.Proofs.YtkckcgpmnipnaaaGreat
