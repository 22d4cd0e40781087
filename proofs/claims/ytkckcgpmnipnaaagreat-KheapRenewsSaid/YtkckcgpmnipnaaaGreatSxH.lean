/-
  A region that draws its order, over blocks by name: the proof, second part. Conditions: none.
-/
import Derived.Test.YtkckcgpmnipnaaaGreatSxG
namespace Go.Proofs.YtkckcgpmnipnaaaGreat
set_option maxRecDepth 100000
open Go.RowKit
theorem qbI {b:Nat} {hp:List (Nat×Nat×SV)} {c k:Nat}:∀ {cells:List SV} {o:Nat},qaj (qa8 b o cells hp) c k=if b=c∧o≤k∧k<o+cells.length then cells[k-o]? else qaj hp c k
 | [],o=>by
  rw[if_neg (fun h=>by simp at h;omega)];rfl
 | x::r,o=>by
  rw[qa8,qao,qbI (cells:=r) (o:=o+1)];by_cases hb:b=c
  ·subst hb;by_cases hk:o=k
   ·subst hk;rw[if_pos ⟨rfl,rfl⟩,if_pos ⟨rfl,Nat.le_refl _,by simp⟩];simp
   ·rw[if_neg (fun h=>hk h.2)];by_cases h2:o+1≤k∧k<o+1+r.length
    ·rw[if_pos ⟨rfl,h2⟩,if_pos ⟨rfl,by omega,by simp;omega⟩,show k-o=(k-(o+1))+1 by omega];simp
    ·rw[if_neg (fun h=>h2 h.2),if_neg (fun h=>h2 ⟨by omega,by have:=h.2.2;simp at this;omega⟩)]
  ·rw[if_neg (fun h=>hb h.1),if_neg (fun h=>hb h.1),if_neg (fun h=>hb h.1)]
theorem qbh {b o:Nat} {x:SV}:∀ {hp:List (Nat×Nat×SV)},qaj hp b o=some x→(b,o,x)∈hp
 | [],h=>by cases h
 | (c,k,y)::r,h=>by
  rw[qao] at h;split at h
  ·rename_i e;obtain⟨rfl,rfl⟩:=e;cases h;simp
  ·exact List.mem_cons_of_mem _ (qbh h)
theorem qcl {b o:Nat} {hq:List (Nat×Nat×SV)}:∀ {hp:List (Nat×Nat×SV)},qaj (hp++hq) b o=(qaj hp b o).or (qaj hq b o)
 | []=>rfl
 | (c,k,x)::r=>by
  rw[List.cons_append,qao,qao,qcl (hp:=r)]
  split<;>rfl
theorem qbW {p:Nat→Bool} {b o:Nat}:∀ {hp:List (Nat×Nat×SV)},qaj (hp.filter fun e=>p e.1) b o=if p b=true then qaj hp b o else none
 | []=>by simp[qaj]
 | (c,k,x)::r=>by
  by_cases hp:p c=true
  ·rw[List.filter_cons_of_pos (by simpa using hp),qao,qao,qbW (hp:=r)];by_cases e:c=b∧k=o
   ·rw[if_pos e,if_pos e,if_pos (e.1▸hp)]
   ·rw[if_neg e,if_neg e]
  ·rw[List.filter_cons_of_neg (by simpa using hp),qbW (hp:=r),qao];by_cases e:c=b∧k=o
   ·rw[if_neg (fun h=>hp (e.1▸h)),if_neg (fun h=>hp (e.1▸h))]
   ·rw[if_neg e]
def qbm (n:Nat):Option Eff→Nat→Nat→Option SV
 | none,_,_=>none
 | some (.get _),_,_=>none
 | some (.many k cells),b,o=>if n≤b∧b<n+k then qaj cells b o else none
 | some (.new cells),b,o=>if n=b then cells[o]? else none
 | some (.sto c i cells),b,o=>if c=b∧i≤o then cells[o-i]? else none
theorem qbg {n:Nat} {al:Option Eff} {hp:List (Nat×Nat×SV)} {b o:Nat}:qaj (qjV n al hp) b o=(qbm n al b o).or (qaj hp b o):=by
 cases al with
 | none=>rfl
 | some e=>
  cases e with
  | new cells=>
   simp only[qjV,qbm,qbI,Nat.zero_le,true_and,Nat.zero_add,Nat.sub_zero];by_cases hb:n=b
   ·rw[if_pos hb];by_cases ho:o<cells.length
    ·rw[if_pos ⟨hb,ho⟩,List.getElem?_eq_getElem ho];rfl
    ·rw[if_neg (fun h=>ho h.2),List.getElem?_eq_none (by omega)];rfl
   ·rw[if_neg hb,if_neg (fun h=>hb h.1)];rfl
  | sto c i cells=>
   simp only[qjV,qbm,qbI];by_cases hb:c=b∧i≤o
   ·rw[if_pos hb];by_cases ho:o<i+cells.length
    ·rw[if_pos ⟨hb.1,hb.2,ho⟩,List.getElem?_eq_getElem (show o-i<cells.length by omega)];rfl
    ·rw[if_neg (fun h=>ho h.2.2),List.getElem?_eq_none (by omega)];rfl
   ·rw[if_neg hb,if_neg (fun h=>hb ⟨h.1,h.2.1⟩)];rfl
  | get c=>rfl
  | many k cells=>
   simp only[qjV,qbm];rw[qcl,qbW (p:=fun c=>Nat.ble n c&&Nat.ble (c+1) (n+k))];by_cases h:n≤b∧b<n+k
   ·rw[if_pos h,if_pos (by rw[Bool.and_eq_true];exact⟨Nat.ble_eq_true_of_le h.1,Nat.ble_eq_true_of_le h.2⟩)]
   ·rw[if_neg h,if_neg (fun h'=>h (by rw[Bool.and_eq_true] at h';exact⟨Nat.le_of_ble_eq_true h'.1,Nat.le_of_ble_eq_true h'.2⟩))]
theorem qb2 {n:Nat} {al:Option Eff} {b o:Nat} {s:SV} (h:qbm n al b o=some s):qb9 (qck n al) b=true:=by
 cases al with
 | none=>cases h
 | some e=>
  cases e with
  | new cells=>
   simp only[qbm] at h;split at h;· rename_i e;subst e;exact qbF
   ·cases h
  | sto c i cells=>
   simp only[qbm] at h;split at h;· rename_i e;obtain⟨rfl,_⟩:=e;exact qbF
   ·cases h
  | get c=>cases h
  | many k cells=>
   simp only[qbm] at h;split at h;· rename_i e;exact qed.2 e
   ·cases h
section
variable {P:Program} {call:qbi} {ops:Array Oper} {n lo:Nat} {sts:Nat→St} {als:Nat→Option Eff} {hp0:List (Nat×Nat×SV)} {W0:World} {β0:Bl} {bl:List (List Nat)} {gl:List (Option Nat)}
theorem qcq (h:qga ops bl n=true) {i k:Nat} (hik:i<k) (hk:k<n) {b:Nat} {m l:List Nat} (h1:bl[i]?=some m) (hm:qb9 m b=true) (h2:bl[k]?=some l) (hl:qb9 l b=true):Region.waitsFor .any ops k i=true:=by
 have a1:=List.all_eq_true.1 h k (List.mem_range.2 hk);rw[h2] at a1;have a2:=List.all_eq_true.1 a1 i (List.mem_range.2 hik);rw[h1] at a2
 have a3:(l.any fun b=>qb9 m b)=true:=by
  obtain⟨c,hc,he⟩:=List.any_eq_true.1 hl;have:=Nat.eq_of_beq_eq_true he;subst this;exact List.any_eq_true.2 ⟨c,hc,hm⟩
 simp only[a3] at a2;simpa using a2
theorem qj0 {hp:List (Nat×Nat×SV)} (h:qf6 hp bl=true) {j b:Nat} {l:List Nat} (h1:bl[j]?=some l) (hl:qb9 l b=true):∀ o,qaj hp b o=none:=by
 have a1:=List.all_eq_true.1 h _ (List.mem_of_getElem? h1);intro o;clear h
 induction hp with
 | nil=>rfl
 | cons e r ih=>
  obtain⟨c,k,x⟩:=e;simp only[List.all_cons,Bool.and_eq_true,Bool.not_eq_true'] at a1;rw[qao,if_neg (fun h=>by have:=a1.1;rw[h.1,hl] at this;cases this)];exact ih a1.2
theorem qih {listed:Array Bool} {i:Nat}:∀ {m:Nat},m≤i→qa1 sts als hp0 (listed.setIfInBounds i true) m=qa1 sts als hp0 listed m
 | 0,_=>rfl
 | m+1,h=>by rw[qa1,qa1,qih (by omega),getD_set_ne false (by omega)]
theorem qil {listed:Array Bool} {i:Nat} (hun:listed.getD i false=false) (his:i<listed.size) {b o:Nat} :
 ∀ {m:Nat},i<m→(∀ k,i<k→k<m→listed.getD k false=true→∀ c,qb9 (qck (sts k).nb (als k)) c=true→qb9 (qck (sts i).nb (als i)) c=true→False)→
  qaj (qa1 sts als hp0 (listed.setIfInBounds i true) m) b o=(qbm (sts i).nb (als i) b o).or (qaj (qa1 sts als hp0 listed m) b o)
 | 0,h,_=>by omega
 | m+1,h,hk=>by
  by_cases e:i=m
  ·subst e
   have h1:(listed.setIfInBounds i true).getD i false=true:=by rw[Array.getD_eq_getD_getElem?,Array.getElem?_setIfInBounds,if_pos rfl,if_pos his];rfl
   rw[qa1,qa1,qih (Nat.le_refl _),h1,hun,cond_true,cond_false,qbg]
  ·have ih:=qil hun his (b:=b) (o:=o) (m:=m) (by omega) (fun k h1 h2=>hk k h1 (by omega));rw[qa1,qa1,getD_set_ne false (by omega)];cases hl:listed.getD m false
   ·rw[cond_false,cond_false];exact ih
   ·rw[cond_true,cond_true,qbg,qbg,ih]
    cases e1:qbm (sts m).nb (als m) b o with
    | none=>rfl
    | some x=>
     cases e2:qbm (sts i).nb (als i) b o with
     | none=>rfl
     | some y=>exact (hk m (by omega) (by omega) hl b (qb2 e1) (qb2 e2)).elim
theorem qif {listed:Array Bool}:∀ {m:Nat},(∀ j,j<m→listed.getD j false=true)→qa1 sts als hp0 listed m=qcE sts als hp0 m
 | 0,_=>rfl
 | m+1,h=>by rw[qa1,qcE,h m (by omega),cond_true,qif (fun j hj=>h j (by omega))]
theorem qhc {listed:Array Bool} {b o m:Nat}:∀ {k:Nat},m≤k→(qaj (qa1 sts als hp0 listed m) b o).isSome=true→(qaj (qa1 sts als hp0 listed k) b o).isSome=true
 | 0,h,hs=>by
  have:m=0:=by omega
  subst this;exact hs
 | k+1,h,hs=>by
  by_cases e:m=k+1
  ·subst e;exact hs
  ·have:=qhc (k:=k) (by omega) hs;rw[qa1];cases listed.getD k false
   ·exact this
   ·rw[cond_true,qbg];cases qbm (sts k).nb (als k) b o
    ·exact this
    ·rfl
theorem qfQ {listed:Array Bool} {b o:Nat}:∀ {m:Nat},(∀ i,i<m→qb9 (qck (sts i).nb (als i)) b=true→listed.getD i false=true)→(qaj (qcE sts als hp0 m) b o).isSome=true→(qaj (qa1 sts als hp0 listed m) b o).isSome=true
 | 0,_,h=>h
 | m+1,hl,h=>by
  rw[qcE,qbg] at h;have ih:=qfQ (m:=m) (fun i hi=>hl i (by omega)) (o:=o)
  cases e:qbm (sts m).nb (als m) b o with
  | none=>
   rw[e] at h;exact qhc (k:=m+1) (Nat.le_succ m) (ih h)
  | some x=>
   rw[qa1,hl m (by omega) (qb2 e),cond_true,qbg,e];rfl
theorem quV {st:St} {β:Bl} {w:World} {ρ:Operand→Value} {o:Oper} {b q:Nat} {cells:List SV} (h:qEJ P st o=some (b,q,cells)) (hx:∀ x∈o.op.operands,(st.ev x).is β (ρ x)) (ht:∀ r,β b=some r→w.there r q cells.length) :
 ∃ r us,β b=some r∧SV.isl β cells us∧(∀ u∈us,u.oneCell'=true)∧w.there r q us.length∧(execOp ρ o).run P w=.ok .skip (w.setCells r q us):=by
 unfold qEJ at h;split at h
 ·rename_i t x y ho;split at h
  ·rename_i b' q' hx';have k:=hx x (by simp[ho,Op.operands]);rw[hx'] at k;obtain⟨r,hr,hk⟩:=k;split at h
   ·rename_i i hi;cases hb:(Nat.beq (cellsOf (st.ev y)).length i.size&&(cellsOf (st.ev y)).all qjj)
    ·rw[hb] at h;cases h
    ·rw[hb,cond_true] at h;simp only[Option.some.injEq,Prod.mk.injEq] at h;obtain⟨rfl,rfl,rfl⟩:=h;simp only[Bool.and_eq_true] at hb;have ky:=qc5 hb.2 (hx y (by simp[ho,Op.operands]));have e1:=Nat.eq_of_beq_eq_true hb.1;have e2:=(SV.isl_get ky).1;have T:=ht r hr;refine⟨r,_,hr,ky,qds hb.2 ky,by rw[← e2];exact T,?_⟩;simp only[execOp,ho];refine qfe ?_;rw[hk];simp[Instr.storeAt,Instr.sureAddr,qcR w r q' t (ρ y) i.size i (by rw[← e1];exact T) hi (by simp at e2;omega) rfl (qds hb.2 ky)]
   ·cases h
  ·cases h
 ·cases h
theorem qlB {hpL:List (Nat×Nat×SV)} {β:Bl} {w:World} (H:HRel W0 lo β0 hpL w) (hle:β0.le β) (hinj:∀ b c r,β b=some r→β c=some r→b=c) {b r:Nat} (hr:β b=some r) (hno:∀ o,qaj hpL b o=none)
 (hap:∀ c o e es n xs u,qaj hpL c o=some (.row e es n xs)→β0.g c=some u→lo≤c→u.ownBlock≠some r) (hge:W0.heap.size≤r)
 {q:Nat} {us:List Value} (hg:Gr W0 (w.setCells r q us)):HRel W0 lo β0 hpL (w.setCells r q us):=by
 have hheap:∀ k,k≠r→(w.setCells r q us).heap[k]?=w.heap[k]?:=qco r us q w;refine⟨hg,fun c rc e=>by rw[qcN];exact H.live c rc e,H.inj,H.new,H.sep,fun c o s e hs=>?_,fun c o e es n xs hc=>?_,H.rinj,fun c o xs hc=>?_⟩
 ·obtain⟨rc,u,a1,a2,a3,a4,a5⟩:=H.cells c o s e hs;refine⟨rc,u,a1,a2,a3,?_,by rw[World.frozen?_setCells];exact a5⟩;rw[World.cell?_setCells_out r us q w ⟨rc,o,none⟩ (fun x _=>?_)]
  ·exact a4
  ·have hcb:c=b:=hinj c b r (hle.f (by rw[a1];exact congrArg some x)) hr;subst hcb;have e':qaj hpL c o=some s:=e;rw[hno o] at e';cases e'
 ·obtain⟨u,g1,g2⟩:=H.rows _ _ _ _ _ _ hc
  have hne:∀ j,u.ownBlock=some j→(lo≤c∨xs≠[])→j≠r:=by
   intro j hj hx e;subst e;by_cases hlc:lo≤c
   ·exact hap _ _ _ _ _ _ _ hc g1 hlc hj
   ·have:=g2.low (by omega) (hx.resolve_left hlc) j hj;omega
  exact⟨u,g1,g2.rd.keep fun hx j hj o=>World.cell?_of_block (a:=⟨j,o,none⟩) (hheap j (hne j hj (Or.inr hx))),g2.one,g2.low,fun hb=>qbJ (g2.own hb) fun j hj=>hheap j (hne j hj (Or.inl hb)),g2.apart⟩
 ·obtain⟨rc,g1,g2⟩:=H.maps _ _ _ hc;refine⟨rc,g1,g2.keep (hheap rc fun e=>?_)⟩;have hcb:c=b:=hinj c b r (hle.f (by rw[g1,e])) hr;subst hcb;have e':qaj hpL c o=some (.mrow xs):=hc;rw[hno o] at e';cases e'
theorem WInv.lookEq {listed:Array Bool} {β:Bl} {a:Act} {i:Nat} {oi:Oper} (F:FInv ops n sts listed β a) (hbl:∀ j,j<n→bl[j]?=some (qck (sts j).nb (als j))) (hbk:qga ops bl n=true) (hr:i∈Region.ready .any ops listed) (hin:i<n) (hoi:ops[i]?=some oi) (b o:Nat) :
 qaj (qa1 sts als hp0 (listed.setIfInBounds i true) n) b o=(qbm (sts i).nb (als i) b o).or (qaj (qa1 sts als hp0 listed n) b o):=by
 have his:i<listed.size:=by rw[F.hi.size];exact (Array.getElem?_eq_some_iff.1 hoi).1
 have hun:=getD_both (mem_ready.1 hr).1
 refine qil hun his hin fun k h1 h2 hkl c hc hic=>?_
 obtain⟨ok,hok,e,he,hb,hon⟩:=Region.waitsFor_spec (qcq hbk h1 h2 (b:=c) (hbl i hin) hic (hbl k h2) hc);have:=F.hi.closed k ok hok hkl e he hb;rw[hon,hun] at this;cases this
theorem WInv.stay {listed:Array Bool} {β:Bl} {w w':World} {i:Nat} (H:WInv n sts als hp0 W0 lo β0 listed β w) (hn:∀ b o,qbm (sts i).nb (als i) b o=none)
 (hlk:∀ b o,qaj (qa1 sts als hp0 (listed.setIfInBounds i true) n) b o=(qbm (sts i).nb (als i) b o).or (qaj (qa1 sts als hp0 listed n) b o)) (hg:Gr w w'):WInv n sts als hp0 W0 lo β0 (listed.setIfInBounds i true) β w':=by
 refine⟨H.le,H.base.gr_mono hg,(H.h.gr_mono hg).imp fun b o s e=>?_,fun b r e=>?_,H.dom0,H.g,H.ap⟩
 ·rw[hlk,hn] at e;exact e
 ·rcases H.dom b r e with e | ⟨j,h1,h2,h3⟩
  ·exact Or.inl e
  ·exact Or.inr ⟨j,h1,getD_set_true h2,h3⟩
theorem qdU {listed:Array Bool} {k i:Nat} (HI:HeadInv .any ops n listed) (hw:qdq ops k i=true) {o:Oper} (ho:ops[k]?=some o) (hall:∀ e∈o.after,Region.binds .any e=true→listed.getD e.on false=true):listed.getD i false=true:=by
 unfold qdq at hw;rw[Bool.or_eq_true] at hw
 rcases hw with hw | hw
 ·obtain⟨o',ho',e,he,hb,hon⟩:=Region.waitsFor_spec hw;rw[ho] at ho';cases ho';rw[← hon];exact hall e he hb
 ·rw[ho] at hw;obtain⟨e,he,h2⟩:=List.any_eq_true.1 hw;simp only[Bool.and_eq_true] at h2;have hl:=hall e (by simpa using he) h2.1;obtain⟨o',ho',e',he',hb',hon⟩:=Region.waitsFor_spec h2.2;rw[← hon];exact HI.closed e.on o' ho' hl e' he' hb'
theorem qgJ (h:qni ops bl gl n=true) {i k:Nat} (hi:i<n) (hk:k<n) {b:Nat} {l:List Nat} (h1:gl[i]?=some (some b)) (h2:bl[k]?=some l) (hl:qb9 l b=true):(k<i→qdq ops i k=true)∧(i≤k→qdq ops k i=true):=by
 have a1:=List.all_eq_true.1 h i (List.mem_range.2 hi);rw[h1] at a1;have a2:=List.all_eq_true.1 a1 k (List.mem_range.2 hk);rw[h2] at a2;simp only[hl,Bool.not_true,Bool.false_or] at a2;cases hb:Nat.ble (k+1) i
 ·rw[hb,cond_false] at a2;exact⟨fun hlt=>(by rw[Nat.ble_eq_true_of_le (show k+1≤i by omega)] at hb;cases hb),fun _=>a2⟩
 ·rw[hb,cond_true] at a2;exact⟨fun _=>a2,fun hle=>(by have:=Nat.le_of_ble_eq_true hb;omega)⟩
theorem qku {listed:Array Bool} {i b o:Nat} (hi:qbm (sts i).nb (als i) b o=none) (h1:∀ k,k<i→k<n→qb9 (qck (sts k).nb (als k)) b=true→listed.getD k false=true) (h2:∀ k,i<k→k<n→qb9 (qck (sts k).nb (als k)) b=true→listed.getD k false=false) :
 ∀ {m:Nat},m≤n→qaj (qa1 sts als hp0 listed m) b o=qaj (qcE sts als hp0 (min m i)) b o
 | 0,_=>by rw[Nat.zero_min];rfl
 | m+1,hm=>by
  have ih:=qku hi h1 h2 (m:=m) (by omega)
  have hs:qaj (qa1 sts als hp0 listed (m+1)) b o=if listed.getD m false=true then (qbm (sts m).nb (als m) b o).or (qaj (qa1 sts als hp0 listed m) b o) else qaj (qa1 sts als hp0 listed m) b o:=by
   rw[qa1];cases listed.getD m false
   ·rw[cond_false,if_neg (by decide)]
   ·rw[cond_true,if_pos rfl,qbg]
  rw[hs];by_cases hlt:m<i
  ·rw[show min (m+1) i=m+1 by omega,qcE,qbg,ih,show min m i=m by omega]
   cases e:qbm (sts m).nb (als m) b o with
   | none=>split<;>rfl
   | some x=>rw[if_pos (h1 m hlt (by omega) (qb2 e))]
  ·rw[show min (m+1) i=i by omega,ih,show min m i=i by omega];by_cases e:m=i
   ·subst e;rw[hi]
    split<;>rfl
   ·split
    ·rename_i hl
     cases e2:qbm (sts m).nb (als m) b o with
     | none=>rfl
     | some x=>
      have:=h2 m (by omega) (by omega) (qb2 e2);rw[this] at hl;cases hl
    ·rfl
theorem qiq {listed:Array Bool} {i b o:Nat} (hi:listed.getD i false=false) (h1:∀ k,k<i→k<n→qb9 (qck (sts k).nb (als k)) b=true→listed.getD k false=true) (h2:∀ k,i<k→k<n→qb9 (qck (sts k).nb (als k)) b=true→listed.getD k false=false) :
 ∀ {m:Nat},m≤n→qaj (qa1 sts als hp0 listed m) b o=qaj (qcE sts als hp0 (min m i)) b o
 | 0,_=>by rw[Nat.zero_min];rfl
 | m+1,hm=>by
  have ih:=qiq (o:=o) hi h1 h2 (m:=m) (by omega)
  have hs:qaj (qa1 sts als hp0 listed (m+1)) b o=if listed.getD m false=true then (qbm (sts m).nb (als m) b o).or (qaj (qa1 sts als hp0 listed m) b o) else qaj (qa1 sts als hp0 listed m) b o:=by
   rw[qa1];cases listed.getD m false
   ·rw[cond_false,if_neg (by decide)]
   ·rw[cond_true,if_pos rfl,qbg]
  rw[hs];by_cases hlt:m<i
  ·rw[show min (m+1) i=m+1 by omega,qcE,qbg,ih,show min m i=m by omega]
   cases e:qbm (sts m).nb (als m) b o with
   | none=>split<;>rfl
   | some x=>rw[if_pos (h1 m hlt (by omega) (qb2 e))]
  ·rw[show min (m+1) i=i by omega,ih,show min m i=i by omega];by_cases e:m=i
   ·subst e;rw[if_neg (by rw[hi];decide)]
   ·split
    ·rename_i hl
     cases e2:qbm (sts m).nb (als m) b o with
     | none=>rfl
     | some x=>
      have:=h2 m (by omega) (by omega) (qb2 e2);rw[this] at hl;cases hl
    ·rfl
theorem qhw {b c o:Nat} {s:SV}:∀ {hp:List (Nat×Nat×SV)},qaj (atB b hp) c o=some s→c=b∧qaj hp b o=some s
 | [],h=>by cases h
 | (d,k,x)::r,h=>by
  unfold atB at h;cases hd:Nat.beq d b
  ·rw[List.filter_cons_of_neg (by simp[hd])] at h;obtain⟨h1,h2⟩:=qhw (hp:=r) h;refine⟨h1,?_⟩;rw[qao,if_neg (fun e=>by rw[e.1,Nat.beq_refl] at hd;cases hd)];exact h2
  ·have hd':=Nat.eq_of_beq_eq_true hd;subst hd';rw[List.filter_cons_of_pos (by simp),qao] at h;rw[qao];split at h
   ·rename_i e;obtain⟨rfl,rfl⟩:=e;exact⟨rfl,by rw[if_pos ⟨rfl,rfl⟩];exact h⟩
   ·rename_i e;obtain⟨rfl,h2⟩:=qhw (hp:=r) h;exact⟨rfl,by rw[if_neg e];exact h2⟩
theorem WInv.store {listed:Array Bool} {β:Bl} {w:World} {i:Nat} {b q r:Nat} {cells:List SV} {us:List Value} (H:WInv n sts als hp0 W0 lo β0 listed β w) (hn:als i=some (.sto b q cells))
 (hlk:∀ b o,qaj (qa1 sts als hp0 (listed.setIfInBounds i true) n) b o=(qbm (sts i).nb (als i) b o).or (qaj (qa1 sts als hp0 listed n) b o)) (hr:β b=some r) (hlo:lo≤b) (hno:∀ o,qaj (sts 0).hp b o=none)
 (hu:SV.isl β cells us) (h1:∀ u∈us,u.oneCell'=true) (ht:w.there r q us.length):WInv n sts als hp0 W0 lo β0 (listed.setIfInBounds i true) β (w.setCells r q us):=by
 have HS:=H.h.store hr hlo hu h1 ht;refine⟨H.le,qlB H.base H.le H.h.inj hr hno (fun c o e es n xs u hc hu hl=>H.ap c o e es n xs u hc hu hl b r hr) (H.h.new b r hlo hr) HS.gr,HS.imp fun c o s e=>?_,fun b r e=>?_,H.dom0,H.g,H.ap⟩
 ·rw[hlk,hn,← qbg] at e;exact e
 ·rcases H.dom b r e with e | ⟨j,h1,h2,h3⟩
  ·exact Or.inl e
  ·exact Or.inr ⟨j,h1,getD_set_true h2,h3⟩
theorem Trace.apart (T:Trace P call lo (sts 0).nb ops hp0 n sts als) {i j b:Nat} (hi:i<n) (hj:j<n) (hne:j≠i) (h1:(sts j).nb≤b) (h2:b<(sts j).nb+qu3 (als j)) (h3:(sts i).nb≤b) (h4:b<(sts i).nb+qu3 (als i)):False:=by
 rcases Nat.lt_or_ge i j with hij | hij
 ·obtain⟨_,_,b3,_⟩:=T.props hi;have:=T.nb (i:=i+1) (j:=j) (by omega) (by omega);omega
 ·obtain⟨_,_,b3,_⟩:=T.props hj;have:=T.nb (i:=j+1) (j:=i) (by omega) (by omega);omega
def Bl.mix (β γ:Bl) (n k:Nat):Bl:=⟨fun b=>if n≤b∧b<n+k then γ b else β b,β.g⟩
theorem WInv.growMany {listed:Array Bool} {β γ:Bl} {w w':World} {i k:Nat} {cells:List (Nat×Nat×SV)} (H:WInv n sts als hp0 W0 lo β0 listed β w) (T:Trace P call lo (sts 0).nb ops hp0 n sts als) (hin:i<n) (hil:listed.getD i true=false) (his:i<listed.size)
 (hlk:∀ b o,qaj (qa1 sts als hp0 (listed.setIfInBounds i true) n) b o=(qbm (sts i).nb (als i) b o).or (qaj (qa1 sts als hp0 listed n) b o))
 (hc:als i=some (.many k cells)) (H':HRel w (sts i).nb γ cells w') (hown:(cells.all fun e=>!(Nat.ble (sts i).nb e.1&&Nat.ble (e.1+1) ((sts i).nb+k))||e.2.2.inR (sts i).nb ((sts i).nb+k))=true) :
 β.le (β.mix γ (sts i).nb k)∧WInv n sts als hp0 W0 lo β0 (listed.setIfInBounds i true) (β.mix γ (sts i).nb k) w':=by
 have hn:∀ b,(sts i).nb≤b→b<(sts i).nb+k→β b=none:=by
  intro b hb1 hb2
  cases e:β b with
  | none=>rfl
  | some r=>
   rcases H.dom _ _ e with e | ⟨j,a1,a2,a3,a4⟩
   ·rw[(H.dom0 _ (Nat.le_trans (T.nb (i:=0) (j:=i) (by omega) (by omega)) hb1)).1] at e;cases e
   ·exact (T.apart hin a1 (fun e=>by subst e;rw[getD_both hil] at a2;cases a2) a3 a4 hb1 (by rw[hc];exact hb2)).elim
 have hgn:∀ b,(sts i).nb≤b→β.g b=none:=fun b hb=>by
  rw[H.g];exact (H.dom0 b (Nat.le_trans (T.nb (i:=0) (j:=i) (by omega) (by omega)) hb)).2
 have hle:β.le (β.mix γ (sts i).nb k):=fun b e=>by
  refine⟨?_,rfl⟩
  show (if _ then _ else _)=_
  exact if_neg fun h=>by
   rcases e with e | e
   ·exact e (hn b h.1 h.2)
   ·exact e (hgn b h.1)
 have hli:(listed.setIfInBounds i true).getD i false=true:=by
  rw[Array.getD_eq_getD_getElem?,Array.getElem?_setIfInBounds,if_pos rfl,if_pos his];rfl
 have mix_in:∀ {b r},(sts i).nb≤b→b<(sts i).nb+k→γ b=some r→(β.mix γ (sts i).nb k) b=some r:=fun h1 h2 e=>by show (if _ then _ else _)=_;rw[if_pos ⟨h1,h2⟩];exact e
 have mix_cases:∀ {b r},(β.mix γ (sts i).nb k) b=some r→((sts i).nb≤b∧b<(sts i).nb+k∧γ b=some r)∨β b=some r:=fun {b r} e=>by
  unfold Bl.mix at e;simp only at e;split at e
  ·rename_i h;exact Or.inl ⟨h.1,h.2,e⟩
  ·exact Or.inr e
 have hg:=H'.gr;have HG:=H.h.gr_mono hg
 have hrowB:∀ b o e es m xs,qaj (qa1 sts als hp0 (listed.setIfInBounds i true) n) b o=some (.row e es m xs)→qaj (qa1 sts als hp0 listed n) b o=some (.row e es m xs):=by
  intro b o e es m xs hc';rw[hlk,hc] at hc';simp only[qbm] at hc';by_cases hb:(sts i).nb≤b∧b<(sts i).nb+k
  ·rw[if_pos hb] at hc'
   cases e1:qaj cells b o with
   | none=>rw[e1] at hc';simpa using hc'
   | some y=>
    rw[e1] at hc'
    have e':y=.row e es m xs:=by simpa using hc'
    subst e';have hm:=List.all_eq_true.1 hown _ (qbh e1);rw[Nat.ble_eq_true_of_le hb.1,Nat.ble_eq_true_of_le (show b+1≤_ from hb.2)] at hm;simp[SV.inR] at hm
  ·rw[if_neg hb] at hc';simpa using hc'
 have hmapB:∀ b o xs,qaj (qa1 sts als hp0 (listed.setIfInBounds i true) n) b o=some (.mrow xs)→qaj (qa1 sts als hp0 listed n) b o=some (.mrow xs):=by
  intro b o xs hc';rw[hlk,hc] at hc';simp only[qbm] at hc';by_cases hb:(sts i).nb≤b∧b<(sts i).nb+k
  ·rw[if_pos hb] at hc'
   cases e1:qaj cells b o with
   | none=>rw[e1] at hc';simpa using hc'
   | some y=>
    rw[e1] at hc'
    have e':y=.mrow xs:=by simpa using hc'
    subst e';have hm:=List.all_eq_true.1 hown _ (qbh e1);rw[Nat.ble_eq_true_of_le hb.1,Nat.ble_eq_true_of_le (show b+1≤_ from hb.2)] at hm;simp[SV.inR] at hm
  ·rw[if_neg hb] at hc';simpa using hc'
 have hnew:∀ {b r},(β.mix γ (sts i).nb k) b=some r→w.heap.size≤r∨β b=some r:=fun {b r} e=>by
  rcases mix_cases e with ⟨x1,_,e⟩ | e
  ·exact Or.inl (H'.new b r x1 e)
  ·exact Or.inr e
 refine⟨hle,Bl.le_trans H.le hle,H.base.gr_mono hg,⟨HG.gr,fun b r e=>?_,fun b c r e1 e2=>?_,fun b r hb e=>?_,fun b r e=>?_,fun b o sv e hs=>?_,fun b o e es m xs hc'=>?_,fun b o e es m xs c o' e' es' m' xs' u v f1 f2=>H.h.rinj b o e es m xs c o' e' es' m' xs' u v (hrowB _ _ _ _ _ _ f1) (hrowB _ _ _ _ _ _ f2),fun b o xs hc'=>(HG.maps _ _ _ (hmapB _ _ _ hc')).imp fun r g=>⟨hle.f g.1,g.2⟩⟩,fun b r e=>?_,H.dom0,H.g,fun c o e es m xs u hc' hu hl d r e' hk=>?_⟩
 ·rcases mix_cases e with ⟨_,_,e⟩ | e
  ·exact H'.live b r e
  ·exact HG.live b r e
 ·rcases mix_cases e1 with ⟨x1,_,e1⟩ | e1<;>rcases mix_cases e2 with ⟨x2,_,e2⟩ | e2
  ·exact H'.inj b c r e1 e2
  ·have:=H'.new b r x1 e1;have:=H.h.live c r e2;omega
  ·have:=H'.new c r x2 e2;have:=H.h.live b r e1;omega
  ·exact H.h.inj b c r e1 e2
 ·rcases mix_cases e with ⟨x1,_,e⟩ | e
  ·exact Nat.le_trans H.h.gr.size (H'.new b r x1 e)
  ·exact H.h.new b r hb e
 ·rcases mix_cases e with ⟨x1,_,e⟩ | e
  ·exact hgn b x1
  ·exact H.h.sep b r e
 ·rw[hlk,hc] at e;simp only[qbm] at e;by_cases hb:(sts i).nb≤b∧b<(sts i).nb+k
  ·rw[if_pos hb] at e
   cases e1:qaj cells b o with
   | none=>
    rw[e1] at e;obtain⟨r,u,c1,c2,c3⟩:=HG.cells b o sv (by simpa using e) hs;exact⟨r,u,hle.f c1,SV.is_mono hle c2,c3⟩
   | some y=>
    rw[e1] at e
    have e':y=sv:=by simpa using e
    subst e';obtain⟨r,u,c1,c2,c3⟩:=H'.cells b o y e1 hs;have hm:=List.all_eq_true.1 hown _ (qbh e1);rw[Nat.ble_eq_true_of_le hb.1,Nat.ble_eq_true_of_le (show b+1≤_ from hb.2)] at hm;exact⟨r,u,mix_in hb.1 hb.2 c1,SV.inR_is (fun b r h1 h2 e=>mix_in h1 h2 e) (by simpa using hm) c2,c3⟩
  ·rw[if_neg hb] at e;obtain⟨r,u,c1,c2,c3⟩:=HG.cells b o sv (by simpa using e) hs;exact⟨r,u,hle.f c1,SV.is_mono hle c2,c3⟩
 ·have HH:=H.h.rows _ _ _ _ _ _ (hrowB _ _ _ _ _ _ hc');obtain⟨u,g1,g2⟩:=HH;have g3:=g2.gr_mono hg;refine⟨u,g1,g3.rd,g3.one,g3.low,g3.own,fun hb c r e hk=>?_⟩
  rcases hnew e with e | e
  ·have:=(qay (g2.own hb) r hk).2;omega
  ·exact g2.apart hb c r e hk
 ·rcases mix_cases e with ⟨x1,x2,_⟩ | e
  ·exact Or.inr ⟨i,hin,hli,x1,by rw[hc];exact x2⟩
  ·rcases H.dom b r e with e | ⟨j,a1,a2,a3⟩
   ·exact Or.inl e
   ·exact Or.inr ⟨j,a1,getD_set_true a2,a3⟩
 ·rcases hnew e' with e' | e'
  ·obtain⟨u',g1,g2⟩:=H.base.rows _ _ _ _ _ _ hc';rw[hu] at g1;cases g1;have:=(qay (g2.own hl) r hk).2;omega
  ·exact H.ap c o e es m xs u hc' hu hl d r e' hk
theorem WInv.grow {listed:Array Bool} {β:Bl} {w:World} {i:Nat} {cells:List SV} {us:List Value} {t:TypeId} (H:WInv n sts als hp0 W0 lo β0 listed β w) (T:Trace P call lo (sts 0).nb ops hp0 n sts als) (hin:i<n) (hil:listed.getD i true=false) (his:i<listed.size)
 (hlk:∀ b o,qaj (qa1 sts als hp0 (listed.setIfInBounds i true) n) b o=(qbm (sts i).nb (als i) b o).or (qaj (qa1 sts als hp0 listed n) b o))
 (hc:als i=some (.new cells)) (hu:SV.isl β cells us) (h1:∀ u∈us,u.oneCell'=true) :
 (β (sts i).nb=none∧β.g (sts i).nb=none)∧WInv n sts als hp0 W0 lo β0 (listed.setIfInBounds i true) (β.set (sts i).nb w.heap.size) (w.alloc (.cells us.toArray t)):=by
 have hn:β (sts i).nb=none:=by
  cases e:β (sts i).nb with
  | none=>rfl
  | some r=>
   rcases H.dom _ _ e with e | ⟨j,a1,a2,a3,a4⟩
   ·rw[(H.dom0 _ (T.nb (i:=0) (j:=i) (by omega) (by omega))).1] at e;cases e
   ·exact (T.apart hin a1 (fun e=>by subst e;rw[getD_both hil] at a2;cases a2) a3 a4 (Nat.le_refl _) (by rw[hc];simp[qu3])).elim
 have hn2:β.g (sts i).nb=none:=by
  rw[H.g];exact (H.dom0 _ (T.nb (i:=0) (j:=i) (by omega) (by omega))).2
 have hle:β.le (β.set (sts i).nb w.heap.size):=Bl.le_set hn hn2
 have hli:(listed.setIfInBounds i true).getD i false=true:=by
  rw[Array.getD_eq_getD_getElem?,Array.getElem?_setIfInBounds,if_pos rfl,if_pos his];rfl
 refine⟨⟨hn,hn2⟩,Bl.le_trans H.le hle,H.base.gr_mono ((Gr.refl w).alloc _ _),(H.h.alloc hn hn2 hu h1).imp fun b o s e=>?_,fun b r e=>?_,H.dom0,H.g,fun c o e es m xs u hc' hu' hl d r e' hk=>?_⟩
 ·rw[hlk,hc] at e
  cases e1:qbm (sts i).nb (some (.new cells)) b o with
  | none=>rw[e1] at e;exact Or.inl e
  | some x=>
   rw[e1] at e
   have e':x=s:=by simpa using e
   subst e';simp only[qbm] at e1;split at e1
   ·rename_i hb;exact Or.inr ⟨hb.symm,e1⟩
   ·cases e1
 ·unfold Bl.set at e;simp only at e;split at e
  ·rename_i hb;exact Or.inr ⟨i,hin,hli,Nat.le_of_eq hb.symm,by rw[hc,hb];exact Nat.lt_succ_self _⟩
  ·rcases H.dom b r e with e | ⟨j,a1,a2,a3⟩
   ·exact Or.inl e
   ·exact Or.inr ⟨j,a1,getD_set_true a2,a3⟩
 ·unfold Bl.set at e';simp only at e';split at e'
  ·obtain⟨u',g1,g2⟩:=H.base.rows _ _ _ _ _ _ hc';rw[hu'] at g1;cases g1;cases e';have:=(qay (g2.own hl) _ hk).2;omega
  ·exact H.ap c o e es m xs u hc' hu' hl d r e' hk
theorem ql9 {listed:Array Bool} {β:Bl} {a:Act} {i:Nat} {oi:Oper} (T:Trace P call lo (sts 0).nb ops hp0 n sts als) (F:FInv ops n sts listed β a) (hd:qev ops n=true) (hlk:qdn ops n=true)
 (hr:i∈Region.ready .any ops listed) (hin:i<n) (hoi:ops[i]?=some oi):∀ d,d∈oi.looksAt ops→(qaZ (sts i).tm d).is β (a.tmps.getD d undef):=by
 intro d hdl;obtain⟨hun,oi',hoi',hall⟩:=mem_ready.1 hr;rw[hoi] at hoi';cases hoi';by_cases hex:∃ k o,k<n∧listed.getD k false=true∧ops[k]?=some o∧o.dst=some d
 ·obtain⟨k,o,hk,hkl,ho,hdst⟩:=hex
  have hki:k<i:=by
   rcases qcD hlk hk hin ho hoi hdst hdl with e | ⟨e,_⟩ | ⟨e,hw⟩
   ·subst e;rw[getD_both hun] at hkl;cases hkl
   ·exact e
   ·obtain⟨ok,hok,e',he',hb',hon⟩:=Region.waitsFor_spec hw;have:=F.hi.closed k ok hok hkl e' he' hb';rw[hon,getD_both hun] at this;cases this
  have:=F.done k o hk hkl ho d hdst
  rwa [T.slot (i:=k+1) (j:=i) (d:=d) (by omega) (by omega) (fun m om h1 h2 h3=>qcz hd hk (by omega) (by omega) ho h3 hdst)]
 ·have hno:∀ k o,k<n→listed.getD k false=true→ops[k]?=some o→o.dst≠some d:=fun k o h1 h2 h3 h4=>hex ⟨k,o,h1,h2,h3,h4⟩
  have:=F.old d hno
  rwa [T.slot (i:=0) (j:=i) (d:=d) (by omega) (by omega) (fun m om _ h2 h3 h4=>by
   rcases qcD hlk (show m<n by omega) hin h3 hoi h4 hdl with e | ⟨_,hw⟩ | ⟨e,_⟩
   ·omega
   ·obtain⟨oi',hoi',e',he',hb',hon⟩:=Region.waitsFor_spec hw;rw[hoi] at hoi';cases hoi';have:=hall e' he' hb';rw[hon] at this;exact hno m om (by omega) this h3 h4
   ·omega)]
theorem qnP (hcall:qb4 P call) {Q:Exit→Act→World→Prop} {listed:Array Bool} {β:Bl} {a:Act} {w:World} {i:Nat} {K:Act→World→Prop} (T:Trace P call lo (sts 0).nb ops hp0 n sts als) (F:FInv ops n sts listed β a) (H:WInv n sts als hp0 W0 lo β0 listed β w)
 (hd:qev ops n=true) (hlk:qdn ops n=true) (hbl:∀ j,j<n→bl[j]?=some (qck (sts j).nb (als j))) (hgl:∀ j,j<n→gl[j]?=some (qn9 (als j))) (hgk:qni ops bl gl n=true) (hbk:qga ops bl n=true) (hap:qf6 (sts 0).hp bl=true) (hr:i∈Region.ready .any ops listed) (hin:i<n)
 (hK:∀ β' a' w',FInv ops n sts (listed.setIfInBounds i true) β' a'→WInv n sts als hp0 W0 lo β0 (listed.setIfInBounds i true) β' w'→K a' w'):wpOp P ops Q i K a w:=by
 obtain⟨hun,oi,hoi,hall⟩:=mem_ready.1 hr;obtain⟨o,q,ho,h1,hq⟩:=T.one i hin;rw[hoi] at ho;cases ho;have hls:=ql9 T F hd hlk hr hin hoi
 have his:i<listed.size:=by rw[F.hi.size];exact (Array.getElem?_eq_some_iff.1 hoi).1
 have hev:∀ x∈oi.op.operands,((qaV oi.op (sts i)).2.ev x).is β (a.eval x):=by
  intro x hx
  cases x with
  | tmp t=>
   have:=hls t (by unfold Oper.looksAt;exact List.mem_append_left _ (List.mem_filterMap.2 ⟨.tmp t,by simpa using hx,rfl⟩))
   show (qaZ (qaV oi.op (sts i)).2.tm t).is β (a.tmps.getD t undef)
   rw[(qbO (op:=oi.op) (st:=sts i) rfl).1];exact this
  | const v=>rfl
  | global g=>rfl
  | func f=>rfl
 obtain⟨s1,s2⟩:=T.same (j:=i) (by omega);obtain⟨p1,p2,p3,p4⟩:=qbO (op:=oi.op) (st:=sts i) rfl
 have HH:HRel W0 lo β (qaV oi.op (sts i)).2.hp w:=by
  rw[p3,s2]
  have hgg:∀ {b u},β.g b=some u→β0.g b=some u:=fun {b u} e=>by rw[← H.g];exact e
  exact⟨H.h.gr,H.h.live,H.h.inj,H.h.new,H.h.sep,fun b o s e hs=>by
   obtain⟨r,u,a1,a2,a3⟩:=H.base.cells b o s e hs
   exact⟨r,u,H.le.f a1,SV.is_mono H.le a2,a3⟩,fun b o e es m xs hc=>by
   obtain⟨u,g1,g2⟩:=H.base.rows b o e es m xs hc;exact⟨u,H.le.g g1,g2.rd,g2.one,g2.low,g2.own,fun hb d r e'=>H.ap b o e es m xs u hc g1 hb d r e'⟩,
   fun b o e es m xs c o' e' es' m' xs' u v f1 f2 f3 f4 f5 f6 f7=>H.base.rinj b o e es m xs c o' e' es' m' xs' u v f1 f2 f3 f4 f5 (hgg f6) (hgg f7),fun b o xs hc=>(H.base.maps b o xs hc).imp fun r g=>⟨H.le.f g.1,g.2⟩⟩
 have hlook:=fun b o=>WInv.lookEq (hp0:=hp0) F hbl hbk hr hin hoi b o
 unfold wpOp;simp only[hoi]
 cases qgu h1 with
 | no hw hp ha=>
  rw[qaE hw hls,if_neg (by decide)];obtain⟨_,_,_,_,a5⟩:=qat hp;exact hK β _ _ (F.step hd hr hin hoi (Bl.le_refl _) (show (SV.pv undef).is β undef from rfl) fun d hdd=>⟨(a5 d hdd).1,by rw[← s1];exact (a5 d hdd).2⟩) (H.stay (fun b o=>by rw[ha];rfl) hlook (Gr.refl w))
 | sto b i' cells hw hst hlo hh hp ha=>
  rw[qaE hw hls,if_pos rfl];obtain⟨_,_,_,_,a5⟩:=qat hp
  have hev0:∀ x∈oi.op.operands,((sts i).ev x).is β (a.eval x):=by
   intro x hx
   cases x with
   | tmp t=>exact hls t (by unfold Oper.looksAt;exact List.mem_append_left _ (List.mem_filterMap.2 ⟨.tmp t,by simpa using hx,rfl⟩))
   | const v=>rfl
   | global g=>rfl
   | func f=>rfl
  have hthere:∀ r,β b=some r→w.there r i' cells.length:=by
   intro r hr';intro k hk;obtain⟨s,hs,hnr⟩:=qfA hh k hk
   have hcov:(qaj (qa1 sts als hp0 listed n) b (i'+k)).isSome=true:=by
    refine qhc (m:=i) (by omega) (qfQ (fun m hm hmb=>?_) (by rw[hs];rfl));obtain⟨oi',hoi',e',he',hb',hon⟩:=Region.waitsFor_spec (qcq hbk hm hin (b:=b) (hbl m (by omega)) hmb (hbl i hin) (by rw[ha];exact qbF));rw[hoi] at hoi';cases hoi';have:=hall e' he' hb'
    rwa [hon] at this
   obtain⟨s',hs'⟩:=Option.isSome_iff_exists.1 hcov
   have hs'nr:s'.isRow=false:=by
    have hat:=qiq (sts:=sts) (als:=als) (hp0:=hp0) (n:=n) (b:=b) (o:=i'+k) (getD_both hun) (fun m hm _ hmb=>by
     obtain⟨oi',hoi',e',he',hb',hon⟩:=Region.waitsFor_spec (qcq hbk hm hin (b:=b) (hbl m (by omega)) hmb (hbl i hin) (by rw[ha];exact qbF));rw[hoi] at hoi';cases hoi';have:=hall e' he' hb'
     rwa [hon] at this) (fun m hm hmn hmb=>by
     cases hml:listed.getD m false
     ·rfl
     ·obtain⟨om,hom,e',he',hb',hon⟩:=Region.waitsFor_spec (qcq hbk hm hmn (b:=b) (hbl i hin) (by rw[ha];exact qbF) (hbl m hmn) hmb);have:=F.hi.closed m om hom hml e' he' hb';rw[hon,getD_both hun] at this
      cases this) (m:=n) (Nat.le_refl _)
    rw[show min n i=i by omega,hs,hs'] at hat;cases hat;exact hnr
   obtain⟨r'',u,c1,c2,c3,c4,c5⟩:=H.h.cells _ _ _ hs' hs'nr;rw[hr'] at c1;cases c1;exact⟨by rw[c4];rfl,c5⟩
  obtain⟨r,us,hr',hu,hone,ht,hrun⟩:=quV hst hev0 hthere;refine Or.inl ?_;unfold Oper.wp;rw[hrun,Oper.upon_skip]
  exact hK β _ _ (F.step hd hr hin hoi (Bl.le_refl _) (show (SV.pv undef).is β undef from rfl) fun d hdd=>⟨(a5 d hdd).1,by rw[← s1];exact (a5 d hdd).2⟩)
   (H.store ha hlook hr' hlo (qj0 hap (j:=i) (hbl i hin) (by rw[ha];exact qbF)) hu hone ht)
 | val x hw hop hp ha=>
  rw[qaE hw hls,if_pos rfl];obtain⟨_,_,_,_,a5⟩:=qat hp;obtain⟨u,hu,hrun⟩:=qbA hop hq HH hev;refine Or.inl ?_;unfold Oper.wp;rw[hrun,Oper.upon_value];exact hK β _ _ (F.step hd hr hin hoi (Bl.le_refl _) hu fun d hdd=>⟨(a5 d hdd).1,by rw[← s1,← p2];exact (a5 d hdd).2⟩) (H.stay (fun b o=>by rw[ha];rfl) hlook (Gr.refl w))
 | new t cells len hw hop hp ha=>
  rw[qaE hw hls,if_pos rfl];obtain⟨_,_,_,_,a5⟩:=qat hp;obtain⟨us,hu,hone,hrun⟩:=qbA hop hq HH hev;refine Or.inl ?_;unfold Oper.wp;rw[hrun,Oper.upon_value];obtain⟨⟨hn,hn2⟩,H'⟩:=H.grow (t:=t) T hin hun his hlook ha hu hone;have hle:β.le (β.set (sts i).nb w.heap.size):=Bl.le_set hn hn2
  have hx:(qtO (qaV oi.op (sts i)).2.nb len).is (β.set (sts i).nb w.heap.size) (qsm w.heap.size len):=by
   rw[p4];cases len
   ·exact⟨_,Bl.set_same _ _ _,rfl⟩
   ·exact⟨_,Bl.set_same _ _ _,rfl⟩
  exact hK _ _ _ (F.step hd hr hin hoi hle hx fun d hdd=>⟨(a5 d hdd).1,by rw[← s1,← p2];exact (a5 d hdd).2⟩) H'
 | call f args v s' q1 q2 hw hop how hc hp ha hqq=>
  rw[qaE hw hls,if_pos rfl];obtain⟨_,_,_,_,a5⟩:=qat hp;subst hqq;obtain⟨hq1,hq2⟩:=qav hq;obtain⟨us,hu,hrun⟩:=qbA hop hq1 HH hev;refine Or.inl ?_;unfold Oper.wp;rw[hrun,Oper.upon_enter];obtain⟨e1,e2,e4⟩:=hcall hc hq2
  have hu0:SV.isl β0 args us:=SV.own_isl ⟨fun b r hb e=>by
   rcases H.dom b r e with e | ⟨j,a1,a2,a3,a4⟩
   ·exact e
   ·have:=T.nb (i:=0) (j:=j) (by omega) (by omega)
    omega,fun b u _ e=>by rw[← H.g];exact e⟩ how hu
  have Hb:HRel w (sts 0).nb β0 ({ (qaV oi.op (sts i)).2 with nb:=(sts 0).nb }:St).hp w:=by
   show HRel w (sts 0).nb β0 (qaV oi.op (sts i)).2.hp w
   rw[p3,s2];exact H.base.mono_lo (Gr.refl w) rfl H.dom0
  refine (e4 w β0 us w Hb H.dom0 (Nat.le_refl _) hu0).mono fun e w' hh=>?_
  obtain⟨v',β',rfl,hle,hx,hH,_,_⟩:=hh;have hx':v'=v:=hx;subst hx';exact hK β _ _ (F.step hd hr hin hoi (Bl.le_refl _) (show (SV.pv v').is β v' from rfl) fun d hdd=>⟨(a5 d hdd).1,by rw[← s1,← p2];exact (a5 d hdd).2⟩) (H.stay (fun b o=>by rw[ha];rfl) hlook hH.gr)
 | many f g args caps s' q1 q2 hw hop how hc hnb hcaps hcells hp ha hqq=>
  rw[qaE hw hls,if_pos rfl];obtain⟨_,_,_,_,a5⟩:=qat hp;subst hqq;obtain⟨hq1,hq2⟩:=qav hq;obtain⟨us,hu,hrun⟩:=qbA hop hq1 HH hev;refine Or.inl ?_;unfold Oper.wp;rw[hrun,Oper.upon_enter];obtain⟨e1,e2,e4⟩:=hcall hc hq2;have h0i:(sts 0).nb≤(sts i).nb:=T.nb (i:=0) (j:=i) (by omega) (by omega)
  have hd0:β0.dom (sts i).nb:=fun b hb=>H.dom0 b (by omega)
  have hu0:SV.isl β0 args us:=SV.own_isl ⟨fun b r hb e=>by
   rcases H.dom b r e with e | ⟨j,a1,a2,a3,a4⟩
   ·exact e
   ·have:=T.nb (i:=0) (j:=j) (by omega) (by omega)
    omega,fun b u _ e=>by rw[← H.g];exact e⟩ how hu
  have Hb:HRel w (sts i).nb β0 (qaV oi.op (sts i)).2.hp w:=by
   rw[p3,s2];exact H.base.mono_lo (Gr.refl w) rfl hd0
  refine (e4 w β0 us w Hb (by rw[p4];exact hd0) (by rw[p4];exact Nat.le_refl _) hu0).mono fun e w' hh=>?_
  obtain⟨v',γ,rfl,hle,hx,hH,_,_⟩:=hh
  have hk:(sts i).nb+(s'.nb-(sts i).nb)=s'.nb:=by omega
  obtain⟨hle',H'⟩:=H.growMany T hin hun his hlook ha hH (by rw[hk];exact hcells);have hx':(SV.pc g caps).is (β.mix γ (sts i).nb (s'.nb-(sts i).nb)) v':=SV.inR_is (n:=(sts i).nb) (m:=s'.nb) (fun b r h1 h2 e=>by show (if _ then _ else _)=_;rw[if_pos ⟨h1,by omega⟩];exact e) hcaps hx;exact hK _ _ _ (F.step hd hr hin hoi hle' hx' fun d hdd=>⟨(a5 d hdd).1,by rw[← s1,← p2];exact (a5 d hdd).2⟩) H'
 | get b x hw hop hp ha=>
  rw[qaE hw hls,if_pos rfl];obtain⟨_,_,_,_,a5⟩:=qat hp
  have hnoe:∀ o,qbm (sts i).nb (als i) b o=none:=fun o=>by rw[ha];rfl
  have hat:∀ o,qaj (qa1 sts als hp0 listed n) b o=qaj (qcE sts als hp0 i) b o:=by
   intro o;rw[qku (hnoe o) (fun k hk hkn hkb=>?_) (fun k hk hkn hkb=>?_) (Nat.le_refl n),show min n i=i by omega]
   ·exact qdU F.hi ((qgJ hgk hin hkn (b:=b) (by rw[hgl i hin,ha];rfl) (hbl k hkn) hkb).1 hk) hoi hall
   ·cases hl:listed.getD k false
    ·rfl
    ·obtain⟨ok,_,hok,_⟩:=T.one k hkn;have:=qdU F.hi ((qgJ hgk hin hkn (b:=b) (by rw[hgl i hin,ha];rfl) (hbl k hkn) hkb).2 (by omega)) hok (fun e he hb=>F.hi.closed k ok hok hl e he hb);rw[getD_both hun] at this;cases this
  have HG:HRel W0 lo β (atB b (qcE sts als hp0 i)) w:=H.h.imp fun c o s e=>by
   obtain⟨rfl,e2⟩:=qhw e
   show qaj _ _ _=_
   rw[hat];exact e2
  obtain⟨u,hu,hrun⟩:=qbA hop hq HG hev;refine Or.inl ?_;unfold Oper.wp;rw[hrun,Oper.upon_value];exact hK β _ _ (F.step hd hr hin hoi (Bl.le_refl _) hu fun d hdd=>⟨(a5 d hdd).1,by rw[← s1,← p2];exact (a5 d hdd).2⟩) (H.stay (fun c o=>by rw[ha];rfl) hlook (Gr.refl w))
theorem qtB {listed:Array Bool} {β:Bl} {a:Act} {w:World} (T:Trace P call lo (sts 0).nb ops hp0 n sts als) (F:FInv ops n sts listed β a) (H:WInv n sts als hp0 W0 lo β0 listed β w) (hlo:lo≤(sts 0).nb) (hd:qev ops n=true)
 (hall:∀ j,j<n→listed.getD j false=true):Rel W0 lo β { sts n with hp:=qcE sts als hp0 n } a w:=by
 obtain⟨s1,s2⟩:=T.same (j:=n) (Nat.le_refl _);refine⟨⟨by rw[F.size];exact s1.symm,F.defers,fun d=>?_⟩,(by have:=H.h;rw[qif hall] at this;exact this),fun b hb=>?_,Nat.le_trans hlo (T.nb (Nat.zero_le _) (Nat.le_refl _))⟩
 ·show (qaZ (sts n).tm d).is β _
  by_cases hex:∃ k o,k<n∧ops[k]?=some o∧o.dst=some d
  ·obtain⟨k,o,hk,ho,hdst⟩:=hex;rw[T.slot (i:=k+1) (j:=n) (d:=d) (by omega) (by omega) (fun m om h1 h2 h3=>qcz hd hk (by omega) (by omega) ho h3 hdst)];exact F.done k o hk (hall k hk) ho d hdst
  ·rw[T.slot (i:=0) (j:=n) (d:=d) (by omega) (by omega) (fun m om _ h2 h3 h4=>hex ⟨m,om,h2,h3,h4⟩)]
   exact F.old d fun k o h1 _ h3 h4=>hex ⟨k,o,h1,h3,h4⟩
 ·have hb':(sts n).nb≤b:=hb;have h0n:=T.nb (i:=0) (j:=n) (by omega) (by omega);refine⟨?_,by rw[H.g];exact (H.dom0 b (by omega)).2⟩
  cases e:β b with
  | none=>rfl
  | some r=>
   rcases H.dom b r e with e | ⟨j,h1,_,h3,h4⟩
   ·rw[(H.dom0 b (by omega)).1] at e;cases e
   ·obtain⟨_,_,b3,_⟩:=T.props h1;have:=T.nb (i:=j+1) (j:=n) (by omega) (by omega);omega
theorem qnC (hcall:qb4 P call) {Q:Exit→Act→World→Prop} (T:Trace P call lo (sts 0).nb ops hp0 n sts als) (hlo:lo≤(sts 0).nb) (hnl:n≤ops.size) (he:qgG ops n=true) (hd:qev ops n=true) (hlk:qdn ops n=true) (hbl:∀ j,j<n→bl[j]?=some (qck (sts j).nb (als j))) (hgl:∀ j,j<n→gl[j]?=some (qn9 (als j))) (hgk:qni ops bl gl n=true) (hbk:qga ops bl n=true) (hap:qf6 (sts 0).hp bl=true)
 (htl:n=ops.size∨(Region.sinkB .any ops n=true∧Region.chainB .any ops n=true))
 (hfin:∀ β a w listed,β0.le β→Rel W0 lo β { sts n with hp:=qcE sts als hp0 n } a w→listed.size=ops.size→(∀ j,j<n→listed.getD j false=true)→(∀ t,n≤t→t<ops.size→listed.getD t true=false)→wpAny P .any ops Q (ops.size-n) listed a w) :
 ∀ (m:Nat) (listed:Array Bool) (β:Bl) (a:Act) (w:World),cnt listed n=m→FInv ops n sts listed β a→WInv n sts als hp0 W0 lo β0 listed β w→wpAny P .any ops Q (m+(ops.size-n)) listed a w:=by
 intro m
 induction m with
 | zero=>
  intro listed β a w hc F H;rw[Nat.zero_add]
  have hall:∀ j,j<n→listed.getD j false=true:=by
   intro j hj;have:=qe9 hc j hj
   have hs:j<listed.size:=by rw[F.hi.size];omega
   rw[Array.getD_eq_getD_getElem?,Array.getElem?_eq_getElem hs] at this ⊢;simpa using this
  exact hfin β a w listed H.le (qtB T F H hlo hd hall) F.hi.size hall F.hi.tail
 | succ m ih=>
  intro listed β a w hc F H;rw[show m+1+(ops.size-n)=(m+(ops.size-n))+1 by omega];obtain⟨j,hj,hun,hless⟩:=qjt (listed:=listed) (n:=n) (by omega)
  have hready:j∈Region.ready .any ops listed:=by
   obtain⟨o,q,ho,_,_⟩:=T.one j hj;refine mem_ready.2 ⟨hun,o,ho,fun e hee hb=>?_⟩;have hlt:=qf2 he hj ho e hee hb;have:=hless e.on hlt
   have hs:e.on<listed.size:=by rw[F.hi.size];omega
   rw[Array.getD_eq_getD_getElem?,Array.getElem?_eq_getElem hs] at this ⊢;simpa using this
  refine⟨fun h0=>(by rw[h0] at hready;cases hready),fun i hi=>?_⟩
  have hin:i<n:=by
   rcases Nat.lt_or_ge i n with h | h
   ·exact h
   ·exfalso;obtain⟨_,oi,hoi,_⟩:=mem_ready.1 hi;have hi':=(Array.getElem?_eq_some_iff.1 hoi).1
    rcases htl with e | ⟨hs,hc'⟩
    ·omega
    ·exact tail_waits hs hc' (by omega) F.hi _ j rfl hj hun i h hi
  refine qnP hcall T F H hd hlk hbl hgl hgk hbk hap hi hin fun β' a' w' F' H'=>ih _ β' a' w' ?_ F' H'
  have:=qjI (mem_ready.1 hi).1 hin;omega
end
end Go.Proofs.YtkckcgpmnipnaaaGreat
