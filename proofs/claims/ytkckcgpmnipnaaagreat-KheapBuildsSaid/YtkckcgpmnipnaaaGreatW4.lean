/-
  Joined: SxC, SxD0. Conditions: none.
-/
import Derived.Test.YtkckcgpmnipnaaaGreatSxB
import Derived.Deep.AppendSrc
import Derived.Laws.MakeOwn
import Derived.Laws.CopyRow
namespace Go.Proofs.YtkckcgpmnipnaaaGreat
set_option maxRecDepth 100000
open Go.RowKit
def qts (r:Nat):Option Nat→Value
 | none=>.pointer (some ⟨r,0,none⟩)
 | some n=>.slice (some ⟨r,0,none⟩) n n
structure Upd (w w':World) (row:Option Nat):Prop where
 g:w.grownBy w' row
 fz:∀ a,a.block<w.heap.size→w'.frozen? a=w.frozen? a
 dr:w.drawn≤w'.drawn
def qzc (u:Value) (n:Nat):Prop:=∃ a c,u=.slice a n c
def qby (P:Program) (W0:World) (lo:Nat) (β:Bl) (w:World) (s:Sem Next):Out→Prop
 | .stl b e es n ys r=>lo≤b→∃ u w',β.g b=some u∧((r=undef∧s.run P w=.ok .skip w')∨s.run P w=.ok (.value r) w')∧Upd w w' u.ownBlock∧w'.ownsRow W0.heap.size e es u n ys∧(∀ v∈ys,v.oneCell'=true)
 | .app old e es n ys=>(∀ b,old=some b→lo≤b)→∃ u w' row,s.run P w=.ok (.value u) w'∧qzc u n∧Upd w w' row∧(row=none∨∃ b v,old=some b∧β.g b=some v∧row=v.ownBlock)∧w'.ownsRow W0.heap.size e es u n ys∧
  (∀ v∈ys,v.oneCell'=true)∧(∀ k,u.ownBlock=some k→row=some k∨w.heap.size≤k)
 | .val x=>∃ u,x.is β u∧s.run P w=.ok (.value u) w
 | .new t cells len=>∃ us,SV.isl β cells us∧(∀ u∈us,u.oneCell'=true)∧
  s.run P w=.ok (.value (qts w.heap.size len)) (w.alloc (.cells us.toArray t))
 | .sto b o cells=>∃ r us,β b=some r∧SV.isl β cells us∧(∀ u∈us,u.oneCell'=true)∧w.there r o us.length∧s.run P w=.ok .skip (w.setCells r o us)
 | .call f args=>∃ us,SV.isl β args us∧s.run P w=.ok (.enter f us.toArray) w
 | .mnew=>s.run P w=.ok (.value (.map (some w.heap.size))) (w.alloc (.map #[] 0))
 | .mset b ys=>∃ r xs en clock,β b=some r∧MapIs w r xs∧s.run P w=.ok .skip { w with heap:=w.heap.setIfInBounds r (.map en clock) }∧(en.toList.flatMap fun e=>[e.key,e.val])=ys
theorem qmu {β:Bl} {s:SV} {x:Value} (h:s.isV=true) (k:s.is β x):x=s.raw:=by
 cases s<;>simp[SV.isV] at h
 exact k
theorem qpP {β:Bl} {s:SV} {x:Value} (h:qju s=true) (k:s.is β x):x.oneCell'=true:=by
 cases s with
 | pv y=>simp only[SV.is] at k;subst k;exact h
 | pp b o=>obtain⟨r,_,rfl⟩:=k;rfl
 | ps b o l c=>obtain⟨r,_,rfl⟩:=k;rfl
 | pc f cap=>obtain⟨r,_,rfl⟩:=k;rfl
 | ls b l=>obtain⟨_,a,c,rfl⟩:=k;rfl
 | lq b es kk l=>obtain⟨a,n,c,a',c',_,_,_,rfl,_⟩:=k;rfl
 | lp b q=>obtain⟨r,o,n,c,_,rfl⟩:=k;rfl
 | mp b=>obtain⟨r,_,rfl⟩:=k;rfl
 | ag l=>cases h
 | tu l=>cases h
 | row e es n xs=>cases h
 | mrow xs=>cases h
 | any=>cases h
theorem qc5 {β:Bl} {s:SV} {x:Value} (h:(cellsOf s).all qju=true) (k:s.is β x):SV.isl β (cellsOf s) x.cells.toList:=by
 cases s with
 | pv y=>simp only[SV.is] at k;subst k;exact SV.isl_v _
 | pp b o=>have k':=k;obtain⟨r,_,rfl⟩:=k;exact⟨k',trivial⟩
 | ps b o l c=>have k':=k;obtain⟨r,_,rfl⟩:=k;exact⟨k',trivial⟩
 | pc f cap=>have k':=k;obtain⟨r,_,rfl⟩:=k;exact⟨k',trivial⟩
 | ls b l=>have k':=k;obtain⟨_,a,c,rfl⟩:=k;exact⟨k',trivial⟩
 | lq b es kk l=>have k':=k;obtain⟨a,n,c,a',c',_,_,_,rfl,_⟩:=k;exact⟨k',trivial⟩
 | lp b q=>have k':=k;obtain⟨r,o,n,c,_,rfl⟩:=k;exact⟨k',trivial⟩
 | mp b=>have k':=k;obtain⟨r,_,rfl⟩:=k;exact⟨k',trivial⟩
 | ag l=>obtain⟨vs,k,rfl⟩:=k;exact S0.isl_up k
 | tu l=>simp[cellsOf,qju] at h
 | row e es n xs=>simp[cellsOf,qju] at h
 | mrow xs=>simp[cellsOf,qju] at h
 | any=>cases h
theorem qdE {β:Bl}:∀ {ss:List SV} {us:List Value},ss.all qju=true→SV.isl β ss us→∀ u∈us,u.oneCell'=true
 | [],[],_,_=>by simp
 | [],_::_,_,k=>k.elim
 | _::_,[],_,k=>k.elim
 | s::ss,v::vs,h,k=>by
  simp only[List.all_cons,Bool.and_eq_true] at h
  intro u hu
  rcases List.mem_cons.1 hu with rfl | hu
  ·exact qpP h.1 k.1
  ·exact qdE h.2 k.2 u hu
theorem qbW {hp:List (Nat×Nat×SV)} {b:Nat}:∀ {n o:Nat} {l:List Value},qi0 hp b o n=some l→l.length=n∧∀ j v,l[j]?=some v→qaf hp b (o+j)=some (.pv v)
 | 0,o,l,h=>by simp[qi0] at h;subst h;simp
 | n+1,o,l,h=>by
  simp only[qi0] at h
  split at h
  ·rename_i x hx
   split at h
   ·rename_i m hm
    simp only[Option.some.injEq] at h
    subst h
    obtain⟨h1,h2⟩:=qbW hm
    refine⟨by simp[h1],fun j v hj=>?_⟩
    cases j with
    | zero=>simp at hj;subst hj;simpa using hx
    | succ j=>rw[show o+(j+1)=o+1+j by omega];exact h2 j v (by simpa using hj)
   ·cases h
  ·cases h
theorem qib {hp:List (Nat×Nat×SV)} {b:Nat}:∀ {n o:Nat} {l:List S0},qme hp b o n=some l→l.length=n∧∀ j d,l[j]?=some d→∃ s,qaf hp b (o+j)=some s∧s.down=some d
 | 0,o,l,h=>by simp[qme] at h;subst h;simp
 | n+1,o,l,h=>by
  simp only[qme] at h
  split at h
  ·rename_i x hx
   split at h
   ·rename_i d m hd hm
    simp only[Option.some.injEq] at h
    subst h
    obtain⟨h1,h2⟩:=qib hm
    refine⟨by simp[h1],fun j v hj=>?_⟩
    cases j with
    | zero=>simp at hj;subst hj;exact⟨x,by simpa using hx,hd⟩
    | succ j=>rw[show o+(j+1)=o+1+j by omega];exact h2 j v (by simpa using hj)
   ·cases h
  ·cases h
theorem qe6 {hp:List (Nat×Nat×SV)} {b:Nat}:∀ {n o:Nat},qgI hp b o n=true→∀ j,j<n→∃ s,qaf hp b (o+j)=some s∧s.isRow=false
 | 0,o,_,j,hj=>by omega
 | n+1,o,h,j,hj=>by
  simp only[qgI] at h
  split at h
  ·rename_i s hs
   rw[Bool.and_eq_true,Bool.not_eq_true'] at h
   cases j with
   | zero=>exact⟨s,by simpa using hs,h.1⟩
   | succ j=>rw[show o+(j+1)=o+1+j by omega];exact qe6 h.2 j (by omega)
  ·cases h
section
variable {P:Program} {W0:World} {lo:Nat} {β:Bl} {st:St} {w:World} {ρ:Operand→Value}
theorem HRel.range {hp:List (Nat×Nat×SV)} (H:HRel W0 lo β hp w) {b o n r:Nat} {l:List Value} (hr:β b=some r) (h:qi0 hp b o n=some l):w.rangeAt r o l:=by
 intro j v hj
 obtain⟨r',u,h1,h2,_,h4,_⟩:=H.cells _ _ _ ((qbW h).2 j v hj) rfl
 rw[hr] at h1
 cases h1
 rw[show u=v from h2] at h4
 exact h4
theorem HRel.there {hp:List (Nat×Nat×SV)} (H:HRel W0 lo β hp w) {b o n r:Nat} (hr:β b=some r) (h:qgI hp b o n=true):w.there r o n:=by
 intro j hj
 obtain⟨s,hs,hnr⟩:=qe6 h j hj
 obtain⟨r',u,h1,_,_,h4,h5⟩:=H.cells _ _ _ hs hnr
 rw[hr] at h1
 cases h1
 exact⟨by rw[h4];rfl,h5⟩
theorem S0.isl_pick {β:Bl}:∀ {l:List S0} (g:Nat→Value),(∀ (j:Nat) (d:S0),l[j]?=some d→d.is β (g j))→S0.isl β l ((List.range l.length).map g)
 | [],_,_=>trivial
 | d::l,g,h=>by
  rw[List.length_cons,List.range_succ_eq_map,List.map_cons,List.map_map]
  exact⟨h 0 d rfl,S0.isl_pick (fun j=>g (j+1)) fun j d' hj=>h (j+1) d' (by simpa using hj)⟩
theorem HRel.rangeD {hp:List (Nat×Nat×SV)} (H:HRel W0 lo β hp w) {b o n r:Nat} {l:List S0} (hr:β b=some r) (h:qme hp b o n=some l):∃ us,S0.isl β l us∧us.length=n∧w.rangeAt r o us:=by
 obtain⟨h1,h2⟩:=qib h
 have key:∀ j d,l[j]?=some d→d.is β ((w.cell? ⟨r,o+j,none⟩).getD undef)∧w.cell? ⟨r,o+j,none⟩≠none:=by
  intro j d hj
  obtain⟨s,e1,e2⟩:=h2 j d hj
  obtain⟨r',u,a1,a2,_,a4,_⟩:=H.cells _ _ _ e1 (by cases s<;>first | rfl | cases e2)
  rw[hr] at a1
  cases a1
  rw[a4]
  exact⟨(SV.down_is e2).1 a2,by simp⟩
 refine⟨(List.range l.length).map fun j=>(w.cell? ⟨r,o+j,none⟩).getD undef,S0.isl_pick _ fun j d hj=>(key j d hj).1,by simp[h1],fun j v hj=>?_⟩
 rw[List.getElem?_map] at hj
 by_cases hjl:j<l.length
 ·rw[List.getElem?_range hjl] at hj
  simp only[Option.map_some,Option.some.injEq] at hj
  have:=(key j l[j] (List.getElem?_eq_getElem hjl)).2
  cases e:w.cell? ⟨r,o+j,none⟩ with
  | none=>exact (this e).elim
  | some y=>rw[e] at hj;simp at hj;rw[hj]
 ·rw[List.getElem?_eq_none (by simp;omega)] at hj
  cases hj
theorem HRel.takeA {hp:List (Nat×Nat×SV)} (H:HRel W0 lo β hp w) {b o n r:Nat} {s:SV} (hr:β b=some r) (h:takeA hp b o n=some s):∃ us,s.is β (.agg us.toArray)∧us.length=n∧w.rangeAt r o us:=by
 unfold Go.Proofs.YtkckcgpmnipnaaaGreat.takeA at h
 split at h
 ·rename_i l hl
  simp only[Option.some.injEq] at h
  subst h
  exact⟨l,rfl,(qbW hl).1,H.range hr hl⟩
 ·split at h
  ·rename_i l hl
   simp only[Option.some.injEq] at h
   subst h
   obtain⟨us,h1,h2,h3⟩:=H.rangeD hr hl
   exact⟨us,⟨us,h1,rfl⟩,h2,h3⟩
  ·cases h
theorem qfa {u:Value} {c:Ch} {out:Out} {q:List Prop} (h:qc8 u c=some (out,q)) (hq:qaU q) {s:Sem Next} (hs:s.run P w=.ok (.value u) w):qby P W0 lo β w s out:=by
 cases c with
 | k=>simp only[qc8,Option.some.injEq,Prod.mk.injEq] at h;obtain⟨rfl,rfl⟩:=h;exact⟨u,rfl,hs⟩
 | t b=>
  simp only[qc8] at h
  split at h
  ·rename_i e
   simp only[Option.some.injEq,Prod.mk.injEq] at h
   obtain⟨rfl,rfl⟩:=h
   have:=hq.1
   subst this
   exact⟨_,rfl,hs⟩
  ·cases h
 | r v=>
  simp only[qc8,Option.some.injEq,Prod.mk.injEq] at h
  obtain⟨rfl,rfl⟩:=h
  have:=hq.1
  subst this
  exact⟨_,rfl,hs⟩
 | _=>cases h
theorem qfU {o:Oper} (hn:∀ cs b,o.op≠.select cs b) (hx:∀ x∈o.op.operands,(st.ev x).is β (ρ x)) (hv:(o.op.operands.toList.all fun x=>(st.ev x).isV)=true) :
 execOp ρ o=execOp (fun x=>(st.ev x).raw) o:=by
 refine execOp_congr o hn fun x hm=>?_
 exact qmu (List.all_eq_true.1 hv x (by simpa using hm)) (hx x hm)
theorem qa1 {o:Oper} {c:Ch} {out:Out} {q:List Prop} (h:qbG P st o c=some (out,q)) (hq:qaU q) (hx:∀ x∈o.op.operands,(st.ev x).is β (ρ x)):qby P W0 lo β w (execOp ρ o) out:=by
 unfold qbG at h
 cases hv:o.op.operands.toList.all fun x=>(st.ev x).isV
 ·rw[hv] at h;simp at h
 ·rw[hv,cond_true] at h
  split at h
  ·cases h
  ·rename_i hn
   split at h
   ·rename_i u hu
    rw[qfU (fun cs b e=>hn cs b e) hx hv]
    exact qfa h hq (qeT hu w)
   ·cases h
theorem qau {s:Sem Value} {u:Value} {w':World} (h:s.run P w=.ok u w'):((do pure (.value (← s))):Sem Next).run P w=.ok (.value u) w':=by
 simp[h]
theorem qdP {s:Sem Unit} {w':World} (h:s.run P w=.ok () w'):((do s;pure .skip):Sem Next).run P w=.ok .skip w':=by
 simp[h]
theorem qvX {o:Oper} {op:BinOp} {t t':TypeId} {x y:Operand} {c:Ch} {out:Out} {q:List Prop} (ho:o.op=.binOp op t x y t') (h:qFL P st o op t (st.ev x) (st.ev y) c=some (out,q)) (hq:qaU q)
 (hx:∀ x∈o.op.operands,(st.ev x).is β (ρ x)):qby P W0 lo β w (execOp ρ o) out:=by
 have ha:(st.ev x).is β (ρ x):=hx x (by simp[ho,Op.operands])
 have hb:(st.ev y).is β (ρ y):=hx y (by simp[ho,Op.operands])
 have gd:∀ xs ys,P.eqGuardType P.depth t=false→(eqGuard op t x y (.agg xs) (.agg ys)).run P w=.ok () w:=by
  intro xs ys hg
  unfold eqGuard
  cases op<;>simp[hg]
 have gi:∀ k a l b,(eqGuard op t x y (.int k a) (.int l b)).run P w=.ok () w:=by
  intro k a l b
  unfold eqGuard
  cases op<;>simp
 unfold qFL at h
 split at h
 ·rename_i xs ys e h1 h2
  rw[h1] at ha
  rw[h2] at hb
  cases hg:P.eqGuardType P.depth t
  ·rw[hg,cond_false] at h
   split at h
   ·rename_i r hr
    simp only[Option.some.injEq,Prod.mk.injEq] at h
    obtain⟨rfl,rfl⟩:=h
    have he:=hq.1
    subst he
    refine⟨_,rfl,?_⟩
    simp only[execOp,ho]
    refine qau ?_
    rw[show ρ x=_ from ha,show ρ y=_ from hb]
    simp[gd _ _ hg,binOp,Op.equal,qjL w 40 _ _ _ _ hr Op.maxDepth (by decide)]
   ·cases h
  ·rw[hg,cond_true] at h;cases h
 ·rename_i xs ys e h1 h2
  rw[h1] at ha
  rw[h2] at hb
  cases hg:P.eqGuardType P.depth t
  ·rw[hg,cond_false] at h
   split at h
   ·rename_i r hr
    simp only[Option.some.injEq,Prod.mk.injEq] at h
    obtain⟨rfl,rfl⟩:=h
    have he:=hq.1
    subst he
    refine⟨_,rfl,?_⟩
    simp only[execOp,ho]
    refine qau ?_
    rw[show ρ x=_ from ha,show ρ y=_ from hb]
    simp[gd _ _ hg,binOp,Op.equal,qjL w 40 _ _ _ _ hr Op.maxDepth (by decide)]
   ·cases h
  ·rw[hg,cond_true] at h;cases h
 all_goals
  first
  | exact qa1 h hq hx
  | (
   rename_i h1 h2
   rw[h1] at ha
   rw[h2] at hb
   first
   | (
    split at h
    ·rename_i hk
     subst hk
     simp only[Option.some.injEq,Prod.mk.injEq] at h
     obtain⟨rfl,rfl⟩:=h
     have he:=hq.1
     have hv:=hq.2.1
     subst hv
     refine⟨_,rfl,?_⟩
     simp only[execOp,ho]
     refine qau ?_
     rw[show ρ x=_ from ha,show ρ y=_ from hb]
     simp[gi,binOp,Op.intDiv,he]
    ·cases h)
   | (
    simp only[Option.some.injEq,Prod.mk.injEq] at h
    obtain⟨rfl,rfl⟩:=h
    have he:=hq.1
    have hv:=hq.2.1
    subst hv
    refine⟨_,rfl,?_⟩
    simp only[execOp,ho]
    refine qau ?_
    rw[show ρ x=_ from ha,show ρ y=_ from hb]
    simp[gi,binOp,Op.shift,he]))
end
end Go.Proofs.YtkckcgpmnipnaaaGreat

namespace Go.Proofs.YtkckcgpmnipnaaaGreat
set_option maxRecDepth 100000
open Go.RowKit
theorem qhq {w:World} {g:Nat} {cur:Array Value} {e:TypeId} {fr:Nat×Nat} (hg:w.heap[g]?=some (.cells cur e fr)) (cs:Array Value) (a:Addr):(w.setRow g cs).frozen? a=w.frozen? a:=by
 by_cases h:a.block=g
 ·have h1:(w.setRow g cs).heap[a.block]?=some (.cells cs e fr):=by rw[h];exact setRow_heap w g cur cs e fr hg
  have h2:w.heap[a.block]?=some (.cells cur e fr):=by rw[h];exact hg
  simp[World.frozen?,h1,h2]
 ·simp[World.frozen?,setRow_other w g a.block cs h]
theorem Upd.refl (w:World) (row:Option Nat):Upd w w row:=⟨⟨rfl,rfl,rfl,Nat.le_refl _,fun _ _ _=>rfl⟩,fun _ _=>rfl,Nat.le_refl _⟩
theorem Upd.setRow {w:World} {g:Nat} {cur:Array Value} {e:TypeId} {fr:Nat×Nat} (hg:w.heap[g]?=some (.cells cur e fr)) (cs:Array Value):Upd w (w.setRow g cs) (some g):=
 ⟨⟨rfl,rfl,rfl,by simp,fun k _ hk=>setRow_other w g k cs fun e=>hk (by rw[e])⟩,fun a _=>qhq hg cs a,Nat.le_refl _⟩
theorem Upd.alloc (w:World) (c:Array Value) (t:TypeId) (row:Option Nat):Upd w (w.alloc (.cells c t)) row:=
 ⟨⟨rfl,rfl,rfl,by show _≤(w.heap.push _).size;simp,fun k hk _=>heap_alloc_old w _ k hk⟩,fun a _=>frozen?_alloc_cells w c t a,Nat.le_refl _⟩
theorem Upd.allocD (w:World) (c:Array Value) (t:TypeId) (row:Option Nat):Upd w (w.drew.alloc (.cells c t)) row:=
 ⟨⟨rfl,rfl,rfl,by show _≤(w.heap.push _).size;simp,fun k hk _=>heap_alloc_old w.drew _ k hk⟩,fun a _=>(frozen?_alloc_cells w.drew c t a).trans rfl,Nat.le_succ _⟩
theorem Upd.gr {W w w':World} {row:Option Nat} (h:Gr W w) (k:Upd w w' row) (hr:∀ j,row=some j→W.heap.size≤j):Gr W w':=
 ⟨⟨k.g.os.trans h.1.os,k.g.tape.trans h.1.tape,k.g.output.trans h.1.output,Nat.le_trans h.1.size k.g.size,fun j hj=>(k.g.block j (Nat.lt_of_lt_of_le hj h.1.size) fun e=>by have:=hr j e.symm;omega).trans (h.1.block j hj)⟩,fun a ha=>(k.fz a (Nat.lt_of_lt_of_le ha h.1.size)).trans (h.2.1 a ha),Nat.le_trans h.2.2 k.dr⟩
theorem qe8 {w:World} {base:Nat} {e:TypeId} {es n:Nat} {u:Value} {xs:List Value} (h:w.ownsRow base e es u n xs):qzc u n:=by
 rcases h.2 with ⟨rfl,rfl⟩ | ⟨g,cap,cur,rfl,_⟩
 ·exact⟨none,0,rfl⟩
 ·exact⟨_,_,rfl⟩
theorem qdF {w:World} {base:Nat} {e:TypeId} {es n:Nat} {u:Value} {xs:List Value} (h:w.ownsRow base e es u n xs):Rd w es u n xs:=by
 refine⟨h.1,?_⟩
 have hc:=fun g hg=>h.cells (g:=g) hg
 rcases h.2 with ⟨rfl,rfl⟩ | ⟨g,cap,cur,rfl,h3,h4,h5,h6⟩
 ·refine⟨none,0,rfl,Nat.le_refl _,fun j v hj=>?_⟩
  have:xs=[]:=List.eq_nil_of_length_eq_zero (by simpa using h.1)
  rw[this] at hj
  simp at hj
 ·refine⟨_,_,rfl,h5,fun j v hj=>⟨g,0,rfl,?_⟩⟩
  have:=hc g rfl j v hj
  rw[Addr.add_mid] at this
  exact this
theorem qoZ {P:Program} {w:World} {base:Nat} {t tx ty e:TypeId} {i:TypeInfo} {z:Value} (ht:P.underlying t=some (.slice e)) (hi:P.info? e=some i) (hz:i.zero=some z) (hzs:z.cells.size=i.size)
 {v x:Value} {n m:Nat} {xs news:List Value} (h:w.ownsRow base e i.size v n xs) (hb:base≤w.heap.size) (hs:Src P i.size tx x m news w) (hby:i.bytes≤100000000) (hn:n+m≤1000000) :
 ∃ u w' row,(Builtin.append_ #[t,tx] ty #[v,x]).run P w=.ok u w'∧qzc u (n+m)∧Upd w w' row∧(row=none∨row=v.ownBlock)∧w'.ownsRow base e i.size u (n+m) (xs++news)∧(∀ k,u.ownBlock=some k→row=some k∨w.heap.size≤k):=by
 have hlen:(xs++news).length=(n+m)*i.size:=by rw[List.length_append,h.1,hs.newsLen,Nat.add_mul]
 have hbytes:(n+m)*i.bytes≤140737488355328:=Nat.le_trans (Nat.mul_le_mul hn hby) (by decide)
 have h63:((n+m:Nat):Int)≤9223372036854775807:=by omega
 have grown:∀ (sCap:Nat),sCap<n+m→Builtin.nextslicecap (n+m) sCap*i.bytes≤281474976710656∧
  (w.drew.alloc (.cells ((xs++news).toArray++Builtin.zeroCells z.cells (grownCap w (n+m) sCap e-(n+m))) e)).ownsRow base e i.size (.slice (some ⟨w.heap.size,0,none⟩) (n+m) (grownCap w (n+m) sCap e)) (n+m) (xs++news):=by
  intro sCap ho
  have hge:=grownCap_ge w (n+m) sCap e
  have hcm:grownCap w (n+m) sCap e≤maxLen:=grownCap_le_maxLen w (n+m) sCap e (by simp only[maxLen];omega)
  refine⟨growslice_fits ho hbytes,hlen,.inr ⟨w.heap.size,_,_,rfl,hb,heap_alloc_new w.drew _,hge,hcm,?_,?_⟩⟩
  ·simp only[Array.size_append,List.size_toArray,size_zeroCells,hzs,hlen,← Nat.add_mul]
   congr 1
   omega
  ·simp only[Array.toList_append,← hlen]
   exact List.take_left
 rcases h.2 with ⟨rfl,rfl⟩ | ⟨g,cap,cur,rfl,hbg,hg,hnc,hcm,hcs,htake⟩
 ·have hx:xs=[]:=List.eq_nil_of_length_eq_zero (by simpa using h.1)
  subst hx
  by_cases hm:m=0
  ·subst hm
   have hn0:news=[]:=List.eq_nil_of_length_eq_zero (by simpa using hs.newsLen)
   subst hn0
   refine⟨.slice none 0 0,w,none,?_,⟨_,_,rfl⟩,Upd.refl w none,Or.inl rfl,World.ownsRow_nil w base e i.size,fun k hk=>(by cases hk)⟩
   rcases hs.kind with ⟨e',hk⟩ | hk<;>simp[Builtin.append_,run_underlying ht,run_underlying hk,sizeOf,typeInfo,hi,hs.len,hs.cells]
  ·have hr:=run_append_grow_src (P:=P) w t tx ty e i z ht hi hz none 0 0 [] (run_firstCells_none w.drew i.size 0 0 0) x m news hs (by omega) (by simpa using h63) (by simpa using (grown 0 (by omega)).1)
   refine⟨_,_,none,by simpa using hr,⟨_,_,rfl⟩,Upd.allocD w _ e none,Or.inl rfl,by simpa using (grown 0 (by omega)).2,fun k hk=>?_⟩
   simp[Value.ownBlock] at hk
   exact Or.inr (Nat.le_of_eq hk)
 ·by_cases hroom:n+m≤cap
  ·have hfit:n*i.size+news.length≤cur.size:=by rw[hs.newsLen,hcs,← Nat.add_mul];exact Nat.mul_le_mul_right _ hroom
   have hst:=run_storeCells_at P g (n*i.size) e news 0 cur w hg (by simpa using hfit) hs.one
   simp only[Nat.add_zero] at hst
   refine⟨.slice (some ⟨g,0,none⟩) (n+m) cap,w.setRow g (cur.toList.take (n*i.size)++news++cur.toList.drop (n*i.size+news.length)).toArray,some g,?_,⟨_,_,rfl⟩,Upd.setRow hg _,Or.inr rfl,⟨hlen,.inr ⟨g,cap,_,rfl,hbg,setRow_heap w g cur _ e _ hg,hroom,hcm,?_,?_⟩⟩,fun k hk=>?_⟩
   ·rcases hs.kind with ⟨e',hk⟩ | hk<;>simp[Builtin.append_,run_underlying ht,run_underlying hk,sizeOf,typeInfo,hi,hs.len,hroom,hs.cells,Addr.add_lit,hst]
   ·simp only[List.size_toArray,List.length_append,List.length_take,List.length_drop,Array.length_toList]
    omega
   ·rw[htake,← hlen]
    exact List.take_left
   ·simp[Value.ownBlock] at hk
    exact Or.inl (by rw[hk])
  ·have holds:∀ j u,xs[j]?=some u→w.drew.cell? ((⟨g,0,none⟩:Addr).add j)=some u:=h.cells (g:=g) rfl
   have hr:=run_append_grow_src (P:=P) w t tx ty e i z ht hi hz (some ⟨g,0,none⟩) n cap xs (run_firstCells_some w.drew i.size n _ n cap xs h.1 holds) x m news hs (by omega) h63 (grown cap (by omega)).1
   refine⟨_,_,none,hr,⟨_,_,rfl⟩,Upd.allocD w _ e none,Or.inl rfl,(grown cap (by omega)).2,fun k hk=>?_⟩
   simp[Value.ownBlock] at hk
   exact Or.inr (Nat.le_of_eq hk)
theorem qdQ (z:Array Value):∀ (n:Nat),(madeCells z (n*z.size)).toList=qdh z.toList n:=by
 have key:∀ n,(List.range (n*z.size)).map (fun j=>z[j%z.size]!)=qdh z.toList n:=by
  intro n
  induction n with
  | zero=>simp[qdh]
  | succ n ih=>
   rw[Nat.succ_mul,Nat.add_comm,List.range_add,List.map_append,qdh]
   congr 1
   ·apply List.ext_getElem
    ·simp
    ·intro j h1 h2
     simp only[List.getElem_map,List.getElem_range]
     have hj:j<z.size:=by simpa using h1
     rw[Nat.mod_eq_of_lt hj,getElem!_pos z j hj,Array.getElem_toList]
   ·rw[List.map_map,← ih]
    apply List.map_congr_left
    intro j _
    simp
 intro n
 rw[← key]
 simp[madeCells]
theorem qrx {P:Program} {w:World} {base:Nat} {t e:TypeId} {i:TypeInfo} {z:Value} (ht:P.underlying t=some (.slice e)) (hi:P.info? e=some i) (hz:i.zero=some z) (hzs:z.cells.size=i.size)
 (hb:base≤w.heap.size) (hby:i.bytes≤100000000) {kl kc:IntKind} {l:Int} (h0:0≤l) (hn:l≤1000000) :
 (Instr.makeSlice t (.int kl l) (.int kc l)).run P w=.ok (.slice (some ⟨w.heap.size,0,none⟩) l.toNat l.toNat) (w.alloc (.cells (madeCells z.cells (l.toNat*i.size)) e))∧
  (w.alloc (.cells (madeCells z.cells (l.toNat*i.size)) e)).ownsRow base e i.size (.slice (some ⟨w.heap.size,0,none⟩) l.toNat l.toNat) l.toNat (qdh z.cells.toList l.toNat):=by
 have hm:(i.bytes:Int)*l≤281474976710656:=by
  have:(i.bytes:Int)*l≤100000000*1000000:=Int.mul_le_mul (by omega) hn h0 (by omega)
  omega
 refine⟨run_make w t e i z ht hi hz kl kc l l h0 (Int.le_refl _) hm (by omega),?_⟩
 ·have hl:(qdh z.cells.toList l.toNat).length=l.toNat*i.size:=by rw[← qdQ,hzs];simp[size_madeCells]
  refine⟨hl,.inr ⟨w.heap.size,l.toNat,_,rfl,hb,heap_alloc_new w _,Nat.le_refl _,by simp only[maxLen];omega,by simp[size_madeCells],?_⟩⟩
  rw[← qdQ,hzs]
  exact List.take_of_length_le (by simp[size_madeCells])
theorem qqB {P:Program} {w:World} {base:Nat} {t tx ty e:TypeId} {i:TypeInfo} {z:Value} {ki kx:IntKind} (ht:P.underlying t=some (.slice e)) (htx:P.underlying tx=some (.int ki)) (hi:P.info? e=some i) (hz:i.zero=some z) (hzs:z.cells.size=i.size)
 (hb:base≤w.heap.size) (hby:i.bytes≤100000000) {l:Int} (h0:0≤l) (hn:l≤1000000) :
 ∃ u w',(Builtin.append_ #[t,tx] ty #[.slice none 0 0,.int kx l]).run P w=.ok u w'∧qzc u l.toNat∧Upd w w' none∧w'.ownsRow base e i.size u l.toNat (qdh z.cells.toList l.toNat)∧(∀ k,u.ownBlock=some k→w.heap.size≤k):=by
 have wl:IntKind.i64.wrap l=l:=by rw[IntKind.wrap_i64];omega
 have hm:l*(i.bytes:Int)≤281474976710656:=by
  have:l*(i.bytes:Int)≤1000000*100000000:=Int.mul_le_mul hn (by omega) (by omega) (by omega)
  omega
 have n1:¬ l<0:=by omega
 have n2:¬ 281474976710656<l*(i.bytes:Int):=by omega
 by_cases hl:l=0
 ·subst hl
  refine⟨.slice none 0 0,w,?_,⟨_,_,rfl⟩,Upd.refl w none,World.ownsRow_nil w base e i.size,fun k hk=>(by cases hk)⟩
  simp[Builtin.append_,run_underlying ht,run_underlying htx,sizeOf,typeInfo,hi,asInt,asIntOf,wl]
 ·have hlen:(qdh z.cells.toList l.toNat).length=l.toNat*i.size:=by rw[← qdQ,hzs];simp[size_madeCells]
  have hzc:(Builtin.zeroCells z.cells l.toNat).toList=qdh z.cells.toList l.toNat:=by
   rw[← qdQ]
   simp[Builtin.zeroCells,madeCells]
  have hge:=grownCap_ge w l.toNat 0 e
  have hcm:grownCap w l.toNat 0 e≤maxLen:=grownCap_le_maxLen w l.toNat 0 e (by simp only[maxLen];omega)
  have hby2:l.toNat*i.bytes≤140737488355328:=Nat.le_trans (Nat.mul_le_mul (show l.toNat≤1000000 by omega) hby) (by decide)
  have h48:=growslice_fits (need:=l.toNat) (old:=0) (bytes:=i.bytes) (by omega) hby2
  have h48':¬ (281474976710656<Builtin.nextslicecap l.toNat 0*i.bytes):=by omega
  have h63':¬ (9223372036854775807<(l.toNat:Int)):=by omega
  have hpos:¬ l.toNat=0:=by omega
  have hp2:¬ l≤0:=by omega
  have hp3:¬ (9223372036854775807<max l 0):=by omega
  refine⟨.slice (some ⟨w.heap.size,0,none⟩) l.toNat (grownCap w l.toNat 0 e),w.drew.alloc (.cells (Builtin.zeroCells z.cells l.toNat++Builtin.zeroCells z.cells (grownCap w l.toNat 0 e-l.toNat)) e),?_,⟨_,_,rfl⟩,Upd.allocD w _ e none,
   ⟨hlen,.inr ⟨w.heap.size,_,_,rfl,hb,heap_alloc_new w.drew _,hge,hcm,?_,?_⟩⟩,fun k hk=>?_⟩
  ·by_cases hsz:i.size=0
   ·have hz0:z.cells=#[]:=Array.eq_empty_of_size_eq_zero (by omega)
    simp[Builtin.append_,run_underlying ht,run_underlying htx,sizeOf,typeInfo,hi,asInt,asIntOf,wl,n1,n2,hpos,hp2,hp3,hsz,h48',h63',Question.forced,Builtin.firstCells,zeroValue,hz,newRow,grownCap,Builtin.zeroCells,hz0,Array.range_zero']
   ·have hne:¬ (l.toNat*i.size=0):=fun e0=>by rcases Nat.mul_eq_zero.1 e0 with h | h<;>omega
    simp[Builtin.append_,run_underlying ht,run_underlying htx,sizeOf,typeInfo,hi,asInt,asIntOf,wl,n1,n2,hpos,hp2,hp3,hsz,h48',h63',Question.forced,Builtin.firstCells,zeroValue,hz,newRow,grownCap]
    exact fun e0=>(hne e0).elim
  ·simp only[Array.size_append,size_zeroCells,hzs,← Nat.add_mul]
   congr 1
   omega
  ·rw[Array.toList_append,hzc,← hlen]
   exact List.take_left
  ·simp[Value.ownBlock] at hk
   exact Nat.le_of_eq hk
theorem qgO {xs cur:List Value} {n k es:Nat} (h:cur.take (n*es)=xs) (hk:k≤n):cur.take (k*es)=xs.take (k*es):=by
 rw[← h,List.take_take,Nat.min_eq_left (Nat.mul_le_mul_right _ hk)]
theorem qok {w:World} {base:Nat} {e:TypeId} {es n k c:Nat} {a:Option Addr} {xs:List Value} (h:w.ownsRow base e es (.slice a n c) n xs) (hk:k≤n) :
 w.ownsRow base e es (.slice (if c=0 then a else a.map (·.add (0*es))) k c) k (xs.take (k*es))∧∀ j,(Value.slice (if c=0 then a else a.map (·.add (0*es))) k c).ownBlock=some j→(Value.slice a n c).ownBlock=some j:=by
 rcases h.2 with ⟨h2,h3⟩ | ⟨g,cap,cur,h2,h3,h4,h5,h6,h7,h8⟩
 ·cases h2
  have:k=0:=by omega
  subst this
  have hx:xs=[]:=List.eq_nil_of_length_eq_zero (by simpa using h.1)
  subst hx
  exact⟨by simpa using World.ownsRow_nil w base e es,fun j hj=>by simp[Value.ownBlock] at hj⟩
 ·cases h2
  have he:(if c=0 then some (⟨g,0,none⟩:Addr) else (some (⟨g,0,none⟩:Addr)).map (·.add (0*es)))=some ⟨g,0,none⟩:=by
   split
   ·rfl
   ·simp only[Nat.zero_mul,Option.map_some,Addr.add_mid]
  rw[he]
  have hl:k*es≤n*es:=Nat.mul_le_mul_right _ hk
  refine⟨⟨by rw[List.length_take,h.1];omega,.inr ⟨g,_,cur,rfl,h3,h4,by omega,h6,h7,?_⟩⟩,fun j hj=>hj⟩
  exact qgO h8 hk
end Go.Proofs.YtkckcgpmnipnaaaGreat
