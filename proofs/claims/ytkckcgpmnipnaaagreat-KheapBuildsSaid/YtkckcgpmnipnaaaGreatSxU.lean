/-
  A range over a function, three: real cells, relations made of them, stores. Conditions: none.
-/
import Derived.Test.YtkckcgpmnipnaaaGreatSxT
namespace Go.Proofs.YtkckcgpmnipnaaaGreat
set_option maxRecDepth 100000
open Go.RowKit
def Cel (w:World) (r o:Nat) (v:Value):Prop:=w.cell? ⟨r,o,none⟩=some v∧w.frozen? ⟨r,o,none⟩=false
theorem Cel.lt {w:World} {r o:Nat} {v:Value} (h:Cel w r o v):r<w.heap.size:=World.block_lt_of_cell? w _ h.1
theorem Cel.keep {S:Nat→Prop} {w w':World} {r o:Nat} {v:Value} (h:Cel w r o v) (k:Keep S w w') (hs:S r):Cel w' r o v:=by
 have e:=k.block r h.lt hs
 exact⟨(World.cell?_of_block (a:=⟨r,o,none⟩) e).trans h.1,(World.frozen?_of_block (a:=⟨r,o,none⟩) e).trans h.2⟩
theorem Cel.gr {w w':World} {r o:Nat} {v:Value} (h:Cel w r o v) (k:Gr w w'):Cel w' r o v:=h.keep (Keep.of_gr k (fun _=>True)) trivial
theorem quh {W0:World} {lo:Nat} {β:Bl} {hp:List (Nat×Nat×SV)} {w:World} (H:HRel W0 lo β hp w) {b o r:Nat} {v:Value} (h:qaf hp b o=some (.pv v)) (hb:β b=some r):Cel w r o v:=by
 obtain⟨r',u,h1,h2,_,h4,h5⟩:=H.cells b o _ h rfl
 rw[hb] at h1
 cases h1
 have:u=v:=h2
 subst this
 exact⟨h4,h5⟩
def qgn (rs:List Nat):Bl:=⟨fun b=>rs[b]?,fun _=>none⟩
def AtH (W:World) (rs:List Nat):List (Nat×Nat×SV)→Prop
 | []=>True
 | (b,o,s)::r=>(∃ q x,s=.pv x∧rs[b]?=some q∧Cel W q o x∧x.oneCell'=true)∧AtH W rs r
theorem AtH.mem {W:World} {rs:List Nat}:∀ {hp:List (Nat×Nat×SV)},AtH W rs hp→∀ e∈hp,∃ q x,e.2.2=.pv x∧rs[e.1]?=some q∧Cel W q e.2.1 x∧x.oneCell'=true
 | [],_,e,he=>by cases he
 | (b,o,s)::r,h,e,he=>by
  rcases List.mem_cons.1 he with rfl | he
  ·exact h.1
  ·exact AtH.mem h.2 e he
theorem qdg (rs:List Nat):(qgn rs).dom rs.length:=fun _ hb=>⟨List.getElem?_eq_none hb,rfl⟩
theorem qdH {W:World} {rs:List Nat} {hp:List (Nat×Nat×SV)} (hn:rs.Nodup) (hlt:∀ r∈rs,r<W.heap.size) (h:AtH W rs hp):HRel W rs.length (qgn rs) hp W where
 gr:=Gr.refl W
 live:=fun b r e=>hlt r (List.mem_of_getElem? e)
 inj:=fun b c r e1 e2=>by
  have e1':rs[b]?=some r:=e1
  have e2':rs[c]?=some r:=e2
  obtain⟨h1,h3⟩:=List.getElem?_eq_some_iff.1 e1'
  obtain⟨h2,h4⟩:=List.getElem?_eq_some_iff.1 e2'
  have key:=List.pairwise_iff_getElem.1 hn
  rcases Nat.lt_trichotomy b c with h | h | h
  ·exact (key b c h1 h2 h (h3.trans h4.symm)).elim
  ·exact h
  ·exact (key c b h2 h1 h (h4.trans h3.symm)).elim
 new:=fun b r hb e=>by have e':rs[b]?=some r:=e;rw[List.getElem?_eq_none hb] at e';cases e'
 sep:=fun _ _ _=>rfl
 cells:=fun b o sv hl hs=>by
  obtain⟨q,x,h1,h2,h3,h4⟩:=h.mem _ (qaJ hl)
  simp only at h1 h2 h3
  subst h1
  exact⟨q,x,h2,rfl,h4,h3.1,h3.2⟩
 rows:=fun b o e es n xs hl=>by
  obtain⟨q,x,h1,_⟩:=h.mem _ (qaJ hl)
  cases h1
 rinj:=fun b o e es n xs c o' e' es' n' xs' u v hl=>by
  obtain⟨q,x,h1,_⟩:=h.mem _ (qaJ hl)
  cases h1
 maps:=fun b o xs hl=>by
  obtain⟨q,x,h1,_⟩:=h.mem _ (qaJ hl)
  cases h1
def AtT (β:Bl) (a:Act):List (Nat×SV)→Prop
 | []=>True
 | (d,s)::r=>s.is β (a.tmps.getD d undef)∧AtT β a r
theorem AtT.mem {β:Bl} {a:Act}:∀ {tm:List (Nat×SV)},AtT β a tm→∀ e∈tm,e.2.is β (a.tmps.getD e.1 undef)
 | [],_,e,he=>by cases he
 | (d,s)::r,h,e,he=>by
  rcases List.mem_cons.1 he with rfl | he
  ·exact h.1
  ·exact AtT.mem h.2 e he
theorem qnz {W0:World} {lo nb n:Nat} {β:Bl} {tm:List (Nat×SV)} {hp:List (Nat×Nat×SV)} {a:Act} {w:World} (H:HRel W0 lo β hp w) (hd:β.dom nb) (hlo:lo≤nb) (hsz:a.tmps.size=n) (ht:AtT β a tm):Rel W0 lo β (qaT n nb tm hp []) (clr a) w:=by
 refine⟨⟨hsz,rfl,fun d=>?_⟩,H,hd,hlo⟩
 show (qaH (tm++qiI n) d).is β (a.tmps.getD d undef)
 rcases qdc (n:=n) (tm:=tm) d with ⟨e,he,h1,h2⟩ | h1
 ·rw[h2,← h1]
  exact ht.mem e he
 ·rw[h1,qcY]
  split
  ·trivial
  ·rename_i hd
   show a.tmps.getD d undef=undef
   rw[Array.getD_eq_getD_getElem?,Array.getElem?_eq_none (by omega)];rfl
theorem Keep.setCell (w:World) (r o:Nat) (v:Value):Keep (·≠r) w (w.setCell ⟨r,o,none⟩ v):=by
 refine⟨rfl,rfl,rfl,by rw[qez];exact Nat.le_refl _,Nat.le_refl _,fun k _ h=>?_⟩
 exact Below.heap_setCell w ⟨r,o,none⟩ v k h
theorem Keep.setCells (r:Nat):∀ (vs:List Value) (o:Nat) (w:World),Keep (·≠r) w (w.setCells r o vs)
 | [],_,w=>Keep.refl _ w
 | v::vs,o,w=>by
  rw[World.setCells]
  have h:=(Keep.setCell w r o v).trans (Keep.setCells r vs (o+1) (w.setCell ⟨r,o,none⟩ v))
  exact h
theorem qvu {w:World} {r o:Nat} {us vs:List Value} (h:∀ j u,us[j]?=some u→Cel w r (o+j) u) (hl:vs.length=us.length) {j:Nat} {v:Value} (hj:vs[j]?=some v):Cel (w.setCells r o vs) r (o+j) v:=by
 have hjl:j<vs.length:=(List.getElem?_eq_some_iff.1 hj).1
 refine⟨?_,?_⟩
 ·rw[World.cell?_setCells_in r vs o w (fun i hi=>?_) j hjl]
  ·rw[List.getElem?_eq_getElem hjl] at hj;exact hj
  ·have:=(h i (us[i]'(by omega)) (List.getElem?_eq_getElem _)).1
   rw[this];rfl
 ·rw[World.frozen?_setCells]
  exact (h j (us[j]'(by omega)) (List.getElem?_eq_getElem _)).2
theorem qs3 {P:Program} {r:Option Nat} {o:Oper} {t:TypeId} {x y:Operand} {q off:Nat} {us:List Value} {v:Value} {a:Act} {w:World} {i:TypeInfo} {next:Act→World→Prop} {Q:Exit→Act→World→Prop}
 (ho:o.op=.store t x y) (hx:a.eval x=.pointer (some ⟨q,off,none⟩)) (hy:a.eval y=v) (hi:P.info? t=some i) (hv:v.cells.size=i.size) (h1:∀ u∈v.cells.toList,u.oneCell'=true) (hc:∀ j u,us[j]?=some u→Cel w q (off+j) u) (hl:us.length=i.size)
 (h:next (a.put o.dst undef) (w.setCells q off v.cells.toList)):o.wpIn (FW r) 0 P a w next Q:=by
 refine⟨fun _ _=>trivial,?_⟩
 rw[Oper.semAt_eq _ _ _ (by simp[ho])]
 have ht:w.there q off i.size:=fun j hj=>by
  have:=hc j (us[j]'(by omega)) (List.getElem?_eq_getElem _)
  exact⟨by rw[this.1];rfl,this.2⟩
 have he:(execOp a.eval o).run P w=.ok .skip (w.setCells q off v.cells.toList):=by
  simp only[execOp,ho]
  refine qdP ?_
  rw[hx,hy]
  simp[Instr.storeAt,Instr.sureAddr,qbK w q off t v i.size i ht hi hv rfl h1]
 rw[he,Oper.uponIn_skip]
 exact h
end Go.Proofs.YtkckcgpmnipnaaaGreat
