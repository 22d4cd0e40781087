/-
  A region that draws its order, over blocks by name: the proof, second part. Conditions: none.
-/
import Derived.Test.YtleaeldgaflmkaaGreatSxG
namespace Go.Proofs.YtleaeldgaflmkaaGreat
set_option maxRecDepth 100000
open Go.RowKit
theorem qbE {b:Nat} {hp:List (Nat×Nat×SV)} {c k:Nat}:∀ {cells:List SV} {o:Nat},qae (qaV b o cells hp) c k=if b=c∧o≤k∧k<o+cells.length then cells[k-o]? else qae hp c k
 | [],o=>by
  rw[if_neg (fun h=>by simp at h;omega)]
  rfl
 | x::r,o=>by
  rw[qaV,qaf,qbE (cells:=r) (o:=o+1)]
  by_cases hb:b=c
  ·subst hb
   by_cases hk:o=k
   ·subst hk
    rw[if_pos ⟨rfl,rfl⟩,if_pos ⟨rfl,Nat.le_refl _,by simp⟩]
    simp
   ·rw[if_neg (fun h=>hk h.2)]
    by_cases h2:o+1≤k∧k<o+1+r.length
    ·rw[if_pos ⟨rfl,h2⟩,if_pos ⟨rfl,by omega,by simp;omega⟩,show k-o=(k-(o+1))+1 by omega]
     simp
    ·rw[if_neg (fun h=>h2 h.2),if_neg (fun h=>h2 ⟨by omega,by have:=h.2.2;simp at this;omega⟩)]
  ·rw[if_neg (fun h=>hb h.1),if_neg (fun h=>hb h.1),if_neg (fun h=>hb h.1)]
theorem qaj {b o:Nat} {x:SV}:∀ {hp:List (Nat×Nat×SV)},qae hp b o=some x→(b,o,x)∈hp
 | [],h=>by cases h
 | (c,k,y)::r,h=>by
  rw[qaf] at h
  split at h
  ·rename_i e
   obtain⟨rfl,rfl⟩:=e
   cases h
   simp
  ·exact List.mem_cons_of_mem _ (qaj h)
theorem qbA {b o:Nat} {hq:List (Nat×Nat×SV)}:∀ {hp:List (Nat×Nat×SV)},qae (hp++hq) b o=(qae hp b o).or (qae hq b o)
 | []=>rfl
 | (c,k,x)::r=>by
  rw[List.cons_append,qaf,qaf,qbA (hp:=r)]
  split<;>rfl
theorem qbQ {p:Nat→Bool} {b o:Nat}:∀ {hp:List (Nat×Nat×SV)},qae (hp.filter fun e=>p e.1) b o=if p b=true then qae hp b o else none
 | []=>by simp[qae]
 | (c,k,x)::r=>by
  by_cases hp:p c=true
  ·rw[List.filter_cons_of_pos (by simpa using hp),qaf,qaf,qbQ (hp:=r)]
   by_cases e:c=b∧k=o
   ·rw[if_pos e,if_pos e,if_pos (e.1▸hp)]
   ·rw[if_neg e,if_neg e]
  ·rw[List.filter_cons_of_neg (by simpa using hp),qbQ (hp:=r),qaf]
   by_cases e:c=b∧k=o
   ·rw[if_neg (fun h=>hp (e.1▸h)),if_neg (fun h=>hp (e.1▸h))]
   ·rw[if_neg e]
def qa9 (n:Nat):Option Eff→Nat→Nat→Option SV
 | none,_,_=>none
 | some (.get _),_,_=>none
 | some (.many k cells),b,o=>if n≤b∧b<n+k then qae cells b o else none
 | some (.new cells),b,o=>if n=b then cells[o]? else none
 | some (.sto c i cells),b,o=>if c=b∧i≤o then cells[o-i]? else none
theorem qa7 {n:Nat} {al:Option Eff} {hp:List (Nat×Nat×SV)} {b o:Nat}:qae (qh5 n al hp) b o=(qa9 n al b o).or (qae hp b o):=by
 cases al with
 | none=>rfl
 | some e=>
  cases e with
  | new cells=>
   simp only[qh5,qa9,qbE,Nat.zero_le,true_and,Nat.zero_add,Nat.sub_zero]
   by_cases hb:n=b
   ·rw[if_pos hb]
    by_cases ho:o<cells.length
    ·rw[if_pos ⟨hb,ho⟩,List.getElem?_eq_getElem ho];rfl
    ·rw[if_neg (fun h=>ho h.2),List.getElem?_eq_none (by omega)];rfl
   ·rw[if_neg hb,if_neg (fun h=>hb h.1)];rfl
  | sto c i cells=>
   simp only[qh5,qa9,qbE]
   by_cases hb:c=b∧i≤o
   ·rw[if_pos hb]
    by_cases ho:o<i+cells.length
    ·rw[if_pos ⟨hb.1,hb.2,ho⟩,List.getElem?_eq_getElem (show o-i<cells.length by omega)];rfl
    ·rw[if_neg (fun h=>ho h.2.2),List.getElem?_eq_none (by omega)];rfl
   ·rw[if_neg hb,if_neg (fun h=>hb ⟨h.1,h.2.1⟩)];rfl
  | get c=>rfl
  | many k cells=>
   simp only[qh5,qa9]
   rw[qbA,qbQ (p:=fun c=>Nat.ble n c&&Nat.ble (c+1) (n+k))]
   by_cases h:n≤b∧b<n+k
   ·rw[if_pos h,if_pos (by rw[Bool.and_eq_true];exact⟨Nat.ble_eq_true_of_le h.1,Nat.ble_eq_true_of_le h.2⟩)]
   ·rw[if_neg h,if_neg (fun h'=>h (by rw[Bool.and_eq_true] at h';exact⟨Nat.le_of_ble_eq_true h'.1,Nat.le_of_ble_eq_true h'.2⟩))]
theorem qbZ {n:Nat} {al:Option Eff} {b o:Nat} {s:SV} (h:qa9 n al b o=some s):qbH (qb8 n al) b=true:=by
 cases al with
 | none=>cases h
 | some e=>
  cases e with
  | new cells=>
   simp only[qa9] at h;split at h;· rename_i e;subst e;exact qca
   ·cases h
  | sto c i cells=>
   simp only[qa9] at h;split at h;· rename_i e;obtain⟨rfl,_⟩:=e;exact qca
   ·cases h
  | get c=>cases h
  | many k cells=>
   simp only[qa9] at h;split at h;· rename_i e;exact qd6.2 e
   ·cases h
section
variable {P:Program} {call:qa3} {ops:Array Oper} {n lo:Nat} {sts:Nat→St} {als:Nat→Option Eff} {hp0:List (Nat×Nat×SV)} {W0:Base} {β0:Bl} {bl:List (List Nat)} {gl:List (Option Nat)}
theorem qcl (h:qfA ops bl n=true) {i k:Nat} (hik:i<k) (hk:k<n) {b:Nat} {m l:List Nat} (h1:bl[i]?=some m) (hm:qbH m b=true) (h2:bl[k]?=some l) (hl:qbH l b=true):Region.waitsFor .any ops k i=true:=by
 have a1:=List.all_eq_true.1 h k (List.mem_range.2 hk)
 rw[h2] at a1
 have a2:=List.all_eq_true.1 a1 i (List.mem_range.2 hik)
 rw[h1] at a2
 have a3:(l.any fun b=>qbH m b)=true:=by
  obtain⟨c,hc,he⟩:=List.any_eq_true.1 hl
  have:=Nat.eq_of_beq_eq_true he
  subst this
  exact List.any_eq_true.2 ⟨c,hc,hm⟩
 simp only[a3] at a2
 simpa using a2
theorem qiE {hp:List (Nat×Nat×SV)} (h:qfh hp bl=true) {j b:Nat} {l:List Nat} (h1:bl[j]?=some l) (hl:qbH l b=true):∀ o,qae hp b o=none:=by
 have a1:=List.all_eq_true.1 h _ (List.mem_of_getElem? h1)
 intro o
 clear h
 induction hp with
 | nil=>rfl
 | cons e r ih=>
  obtain⟨c,k,x⟩:=e
  simp only[List.all_cons,Bool.and_eq_true,Bool.not_eq_true'] at a1
  rw[qaf,if_neg (fun h=>by have:=a1.1;rw[h.1,hl] at this;cases this)]
  exact ih a1.2
theorem qhK {listed:Array Bool} {i:Nat}:∀ {m:Nat},m≤i→qaK sts als hp0 (listed.setIfInBounds i true) m=qaK sts als hp0 listed m
 | 0,_=>rfl
 | m+1,h=>by rw[qaK,qaK,qhK (by omega),getD_set_ne false (by omega)]
theorem qg9 {listed:Array Bool} {i:Nat} (hun:listed.getD i false=false) (his:i<listed.size) {b o:Nat} :
 ∀ {m:Nat},i<m→(∀ k,i<k→k<m→listed.getD k false=true→∀ c,qbH (qb8 (sts k).nb (als k)) c=true→qbH (qb8 (sts i).nb (als i)) c=true→False)→
  qae (qaK sts als hp0 (listed.setIfInBounds i true) m) b o=(qa9 (sts i).nb (als i) b o).or (qae (qaK sts als hp0 listed m) b o)
 | 0,h,_=>by omega
 | m+1,h,hk=>by
  by_cases e:i=m
  ·subst e
   have h1:(listed.setIfInBounds i true).getD i false=true:=by rw[Array.getD_eq_getD_getElem?,Array.getElem?_setIfInBounds,if_pos rfl,if_pos his];rfl
   rw[qaK,qaK,qhK (Nat.le_refl _),h1,hun,cond_true,cond_false,qa7]
  ·have ih:=qg9 hun his (b:=b) (o:=o) (m:=m) (by omega) (fun k h1 h2=>hk k h1 (by omega))
   rw[qaK,qaK,getD_set_ne false (by omega)]
   cases hl:listed.getD m false
   ·rw[cond_false,cond_false];exact ih
   ·rw[cond_true,cond_true,qa7,qa7,ih]
    cases e1:qa9 (sts m).nb (als m) b o with
    | none=>rfl
    | some x=>
     cases e2:qa9 (sts i).nb (als i) b o with
     | none=>rfl
     | some y=>exact (hk m (by omega) (by omega) hl b (qbZ e1) (qbZ e2)).elim
theorem qhM {listed:Array Bool}:∀ {m:Nat},(∀ j,j<m→listed.getD j false=true)→qaK sts als hp0 listed m=qcw sts als hp0 m
 | 0,_=>rfl
 | m+1,h=>by rw[qaK,qcw,h m (by omega),cond_true,qhM (fun j hj=>h j (by omega))]
theorem qgw {listed:Array Bool} {b o m:Nat}:∀ {k:Nat},m≤k→(qae (qaK sts als hp0 listed m) b o).isSome=true→(qae (qaK sts als hp0 listed k) b o).isSome=true
 | 0,h,hs=>by
  have:m=0:=by omega
  subst this;exact hs
 | k+1,h,hs=>by
  by_cases e:m=k+1
  ·subst e;exact hs
  ·have:=qgw (k:=k) (by omega) hs
   rw[qaK]
   cases listed.getD k false
   ·exact this
   ·rw[cond_true,qa7]
    cases qa9 (sts k).nb (als k) b o
    ·exact this
    ·rfl
theorem qeS {listed:Array Bool} {b o:Nat}:∀ {m:Nat},(∀ i,i<m→qbH (qb8 (sts i).nb (als i)) b=true→listed.getD i false=true)→(qae (qcw sts als hp0 m) b o).isSome=true→(qae (qaK sts als hp0 listed m) b o).isSome=true
 | 0,_,h=>h
 | m+1,hl,h=>by
  rw[qcw,qa7] at h
  have ih:=qeS (m:=m) (fun i hi=>hl i (by omega)) (o:=o)
  cases e:qa9 (sts m).nb (als m) b o with
  | none=>
   rw[e] at h
   exact qgw (k:=m+1) (Nat.le_succ m) (ih h)
  | some x=>
   rw[qaK,hl m (by omega) (qbZ e),cond_true,qa7,e]
   rfl
theorem qsf {st:St} {β:Bl} {w:World} {ρ:Operand→Value} {o:Oper} {b q:Nat} {cells:List SV} (h:qxq P st o=some (b,q,cells)) (hx:∀ x∈o.op.operands,(st.ev x).is β (ρ x)) (ht:∀ r,β b=some r→w.there r q cells.length) (hz:∀ r,β b=some r→cells=[]∨β.h r=none) :
 ∃ r us,β b=some r∧SV.isl β cells us∧(∀ u∈us,u.oneCell'=true)∧w.there r q us.length∧(us=[]∨β.h r=none)∧(execOp ρ o).run P w=.ok .skip (w.setCells r q us):=by
 unfold qxq at h
 split at h
 ·rename_i t x y ho
  split at h
  ·rename_i b' q' hx'
   have k:=hx x (by simp[ho,Op.operands])
   rw[hx'] at k
   obtain⟨r,hr,hk⟩:=k
   split at h
   ·rename_i i hi
    cases hb:(Nat.beq (cellsOf (st.ev y)).length i.size&&(cellsOf (st.ev y)).all qiK)
    ·rw[hb] at h;cases h
    ·rw[hb,cond_true] at h
     simp only[Option.some.injEq,Prod.mk.injEq] at h
     obtain⟨rfl,rfl,rfl⟩:=h
     simp only[Bool.and_eq_true] at hb
     have ky:=qcY hb.2 (hx y (by simp[ho,Op.operands]))
     have e1:=Nat.eq_of_beq_eq_true hb.1
     have e2:=(SV.isl_get ky).1
     have T:=ht r hr
     refine⟨r,_,hr,ky,qdh hb.2 ky,by rw[← e2];exact T,(hz r hr).imp (fun e=>List.length_eq_zero_iff.1 (by rw[← e2,e];rfl)) id,?_⟩
     simp only[execOp,ho]
     refine qdK ?_
     rw[hk]
     simp[Instr.storeAt,Instr.sureAddr,qbL w r q' t (ρ y) i.size i (by rw[← e1];exact T) hi (by simp at e2;omega) rfl (qdh hb.2 ky)]
   ·cases h
  ·cases h
 ·cases h
theorem qln {hpL:List (Nat×Nat×SV)} {β:Bl} {w:World} (H:HRel W0 lo β0 hpL w) (hle:β0.le β) (hinj:∀ b c r,β b=some r→β c=some r→b=c) {b r:Nat} (hr:β b=some r) (hno:∀ o,qae hpL b o=none)
 (hap:∀ c o s u,qae hpL c o=some s→s.isR=true→β0.g c=some u→lo≤c→u.ownBlock≠some r) (hge:W0.own r)
 {q:Nat} {us:List Value} (hz:us=[]∨β0.h r=none) (hg:W0.gr (w.setCells r q us)):HRel W0 lo β0 hpL (w.setCells r q us):=by
 have hheap:∀ k,k≠r→(w.setCells r q us).heap[k]?=w.heap[k]?:=qbx r us q w
 refine⟨hg,fun c rc e=>by rw[qbn];exact H.live c rc e,H.inj,H.new,H.sep,fun c o s e hs=>?_,fun c o s hc hsr=>?_,H.rinj0,fun c o xs hc=>?_,H.fz.imp (fun k hk=>?_) (fun _ _ _ h _=>h) fun _ o s h=>⟨o,s,h⟩⟩
 ·obtain⟨rc,u,a1,a2,a3,a4,a5⟩:=H.cells c o s e hs
  refine⟨rc,u,a1,a2,a3,?_,by rw[World.frozen?_setCells];exact a5⟩
  rw[World.cell?_setCells_out r us q w ⟨rc,o,none⟩ (fun x _=>?_)]
  ·exact a4
  ·have hcb:c=b:=hinj c b r (hle.f (by rw[a1];exact congrArg some x)) hr
   subst hcb
   have e':qae hpL c o=some s:=e
   rw[hno o] at e';cases e'
 ·obtain⟨u,e,es,n,xs,g0,g1,g2⟩:=H.rows0 _ _ _ hc hsr
  have hne:∀ j,u.ownBlock=some j→(lo≤c∨xs≠[])→j≠r:=by
   intro j hj hx e
   subst e
   by_cases hlc:lo≤c
   ·exact hap _ _ _ _ hc hsr g1 hlc hj
   ·exact W0.apart j (g2.low (by omega) (hx.resolve_left hlc) j hj) hge
  exact⟨u,e,es,n,xs,g0,g1,g2.rd.keep fun hx j hj o=>World.cell?_of_block (a:=⟨j,o,none⟩) (hheap j (hne j hj (Or.inr hx))),g2.one,g2.low,fun hb=>qco (g2.own hb) fun j hj=>hheap j (hne j hj (Or.inl hb)),g2.apart⟩
 ·obtain⟨rc,g1,g2⟩:=H.maps _ _ _ hc
  refine⟨rc,g1,g2.keep (hheap rc fun e=>?_)⟩
  have hcb:c=b:=hinj c b r (hle.f (by rw[g1,e])) hr
  subst hcb
  have e':qae hpL c o=some (.mrow xs):=hc
  rw[hno o] at e';cases e'
 ·rcases hz with rfl | hz
  ·rfl
  ·exact hheap k fun e=>by rw[e] at hk;exact hk hz
theorem WInv.lookEq {listed:Array Bool} {β:Bl} {a:Act} {i:Nat} {oi:Oper} (F:FInv ops n sts listed β a) (hbl:∀ j,j<n→bl[j]?=some (qb8 (sts j).nb (als j))) (hbk:qfA ops bl n=true) (hr:i∈Region.ready .any ops listed) (hin:i<n) (hoi:ops[i]?=some oi) (b o:Nat) :
 qae (qaK sts als hp0 (listed.setIfInBounds i true) n) b o=(qa9 (sts i).nb (als i) b o).or (qae (qaK sts als hp0 listed n) b o):=by
 have his:i<listed.size:=by rw[F.hi.size];exact (Array.getElem?_eq_some_iff.1 hoi).1
 have hun:=getD_both (mem_ready.1 hr).1
 refine qg9 hun his hin fun k h1 h2 hkl c hc hic=>?_
 obtain⟨ok,hok,e,he,hb,hon⟩:=Region.waitsFor_spec (qcl hbk h1 h2 (b:=c) (hbl i hin) hic (hbl k h2) hc)
 have:=F.hi.closed k ok hok hkl e he hb
 rw[hon,hun] at this
 cases this
theorem WInv.stay {listed:Array Bool} {β:Bl} {w w':World} {i:Nat} (H:WInv n sts als hp0 W0 lo β0 listed β w) (hn:∀ b o,qa9 (sts i).nb (als i) b o=none)
 (hlk:∀ b o,qae (qaK sts als hp0 (listed.setIfInBounds i true) n) b o=(qa9 (sts i).nb (als i) b o).or (qae (qaK sts als hp0 listed n) b o)) (hg:Gr w w'):WInv n sts als hp0 W0 lo β0 (listed.setIfInBounds i true) β w':=by
 refine⟨H.le,H.base.gr_mono hg,(H.h.gr_mono hg).imp fun b o s e=>?_,fun b r e=>?_,H.dom0,H.g,H.ap,H.hh⟩
 ·rw[hlk,hn] at e;exact e
 ·rcases H.dom b r e with e | ⟨j,h1,h2,h3⟩
  ·exact Or.inl e
  ·exact Or.inr ⟨j,h1,getD_set_true h2,h3⟩
theorem qdT {listed:Array Bool} {k i:Nat} (HI:HeadInv .any ops n listed) (hw:qc3 ops k i=true) {o:Oper} (ho:ops[k]?=some o) (hall:∀ e∈o.after,Region.binds .any e=true→listed.getD e.on false=true):listed.getD i false=true:=by
 unfold qc3 at hw
 rw[Bool.or_eq_true] at hw
 rcases hw with hw | hw
 ·obtain⟨o',ho',e,he,hb,hon⟩:=Region.waitsFor_spec hw
  rw[ho] at ho'
  cases ho'
  rw[← hon]
  exact hall e he hb
 ·rw[ho] at hw
  obtain⟨e,he,h2⟩:=List.any_eq_true.1 hw
  simp only[Bool.and_eq_true] at h2
  have hl:=hall e (by simpa using he) h2.1
  obtain⟨o',ho',e',he',hb',hon⟩:=Region.waitsFor_spec h2.2
  rw[← hon]
  exact HI.closed e.on o' ho' hl e' he' hb'
theorem qfM (h:qlH ops bl gl n=true) {i k:Nat} (hi:i<n) (hk:k<n) {b:Nat} {l:List Nat} (h1:gl[i]?=some (some b)) (h2:bl[k]?=some l) (hl:qbH l b=true):(k<i→qc3 ops i k=true)∧(i≤k→qc3 ops k i=true):=by
 have a1:=List.all_eq_true.1 h i (List.mem_range.2 hi)
 rw[h1] at a1
 have a2:=List.all_eq_true.1 a1 k (List.mem_range.2 hk)
 rw[h2] at a2
 simp only[hl,Bool.not_true,Bool.false_or] at a2
 cases hb:Nat.ble (k+1) i
 ·rw[hb,cond_false] at a2
  exact⟨fun hlt=>(by rw[Nat.ble_eq_true_of_le (show k+1≤i by omega)] at hb;cases hb),fun _=>a2⟩
 ·rw[hb,cond_true] at a2
  exact⟨fun _=>a2,fun hle=>(by have:=Nat.le_of_ble_eq_true hb;omega)⟩
theorem qjn {listed:Array Bool} {i b o:Nat} (hi:qa9 (sts i).nb (als i) b o=none) (h1:∀ k,k<i→k<n→qbH (qb8 (sts k).nb (als k)) b=true→listed.getD k false=true) (h2:∀ k,i<k→k<n→qbH (qb8 (sts k).nb (als k)) b=true→listed.getD k false=false) :
 ∀ {m:Nat},m≤n→qae (qaK sts als hp0 listed m) b o=qae (qcw sts als hp0 (min m i)) b o
 | 0,_=>by rw[Nat.zero_min];rfl
 | m+1,hm=>by
  have ih:=qjn hi h1 h2 (m:=m) (by omega)
  have hs:qae (qaK sts als hp0 listed (m+1)) b o=if listed.getD m false=true then (qa9 (sts m).nb (als m) b o).or (qae (qaK sts als hp0 listed m) b o) else qae (qaK sts als hp0 listed m) b o:=by
   rw[qaK]
   cases listed.getD m false
   ·rw[cond_false,if_neg (by decide)]
   ·rw[cond_true,if_pos rfl,qa7]
  rw[hs]
  by_cases hlt:m<i
  ·rw[show min (m+1) i=m+1 by omega,qcw,qa7,ih,show min m i=m by omega]
   cases e:qa9 (sts m).nb (als m) b o with
   | none=>split<;>rfl
   | some x=>rw[if_pos (h1 m hlt (by omega) (qbZ e))]
  ·rw[show min (m+1) i=i by omega,ih,show min m i=i by omega]
   by_cases e:m=i
   ·subst e
    rw[hi]
    split<;>rfl
   ·split
    ·rename_i hl
     cases e2:qa9 (sts m).nb (als m) b o with
     | none=>rfl
     | some x=>
      have:=h2 m (by omega) (by omega) (qbZ e2)
      rw[this] at hl;cases hl
    ·rfl
theorem qhc {listed:Array Bool} {i b o:Nat} (hi:listed.getD i false=false) (h1:∀ k,k<i→k<n→qbH (qb8 (sts k).nb (als k)) b=true→listed.getD k false=true) (h2:∀ k,i<k→k<n→qbH (qb8 (sts k).nb (als k)) b=true→listed.getD k false=false) :
 ∀ {m:Nat},m≤n→qae (qaK sts als hp0 listed m) b o=qae (qcw sts als hp0 (min m i)) b o
 | 0,_=>by rw[Nat.zero_min];rfl
 | m+1,hm=>by
  have ih:=qhc (o:=o) hi h1 h2 (m:=m) (by omega)
  have hs:qae (qaK sts als hp0 listed (m+1)) b o=if listed.getD m false=true then (qa9 (sts m).nb (als m) b o).or (qae (qaK sts als hp0 listed m) b o) else qae (qaK sts als hp0 listed m) b o:=by
   rw[qaK]
   cases listed.getD m false
   ·rw[cond_false,if_neg (by decide)]
   ·rw[cond_true,if_pos rfl,qa7]
  rw[hs]
  by_cases hlt:m<i
  ·rw[show min (m+1) i=m+1 by omega,qcw,qa7,ih,show min m i=m by omega]
   cases e:qa9 (sts m).nb (als m) b o with
   | none=>split<;>rfl
   | some x=>rw[if_pos (h1 m hlt (by omega) (qbZ e))]
  ·rw[show min (m+1) i=i by omega,ih,show min m i=i by omega]
   by_cases e:m=i
   ·subst e
    rw[if_neg (by rw[hi];decide)]
   ·split
    ·rename_i hl
     cases e2:qa9 (sts m).nb (als m) b o with
     | none=>rfl
     | some x=>
      have:=h2 m (by omega) (by omega) (qbZ e2)
      rw[this] at hl;cases hl
    ·rfl
theorem qgt {b c o:Nat} {s:SV}:∀ {hp:List (Nat×Nat×SV)},qae (atB b hp) c o=some s→c=b∧qae hp b o=some s
 | [],h=>by cases h
 | (d,k,x)::r,h=>by
  unfold atB at h
  cases hd:Nat.beq d b
  ·rw[List.filter_cons_of_neg (by simp[hd])] at h
   obtain⟨h1,h2⟩:=qgt (hp:=r) h
   refine⟨h1,?_⟩
   rw[qaf,if_neg (fun e=>by rw[e.1,Nat.beq_refl] at hd;cases hd)]
   exact h2
  ·have hd':=Nat.eq_of_beq_eq_true hd
   subst hd'
   rw[List.filter_cons_of_pos (by simp),qaf] at h
   rw[qaf]
   split at h
   ·rename_i e
    obtain⟨rfl,rfl⟩:=e
    exact⟨rfl,by rw[if_pos ⟨rfl,rfl⟩];exact h⟩
   ·rename_i e
    obtain⟨rfl,h2⟩:=qgt (hp:=r) h
    exact⟨rfl,by rw[if_neg e];exact h2⟩
theorem WInv.store {listed:Array Bool} {β:Bl} {w:World} {i:Nat} {b q r:Nat} {cells:List SV} {us:List Value} (H:WInv n sts als hp0 W0 lo β0 listed β w) (hn:als i=some (.sto b q cells))
 (hlk:∀ b o,qae (qaK sts als hp0 (listed.setIfInBounds i true) n) b o=(qa9 (sts i).nb (als i) b o).or (qae (qaK sts als hp0 listed n) b o)) (hr:β b=some r) (hlo:lo≤b) (hno:∀ o,qae (sts 0).hp b o=none)
 (hu:SV.isl β cells us) (h1:∀ u∈us,u.oneCell'=true) (ht:w.there r q us.length) (hz:us=[]∨β.h r=none):WInv n sts als hp0 W0 lo β0 (listed.setIfInBounds i true) β (w.setCells r q us):=by
 have HS:=H.h.store hr hlo hu h1 ht hz
 refine⟨H.le,qln H.base H.le H.h.inj hr hno (fun c o s u hc hs hu hl=>H.ap c o s u hc hs hu hl b r hr) (H.h.new b r hlo hr) (by rw[← H.hh];exact hz) HS.gr,HS.imp fun c o s e=>?_,fun b r e=>?_,H.dom0,H.g,H.ap,H.hh⟩
 ·rw[hlk,hn,← qa7] at e;exact e
 ·rcases H.dom b r e with e | ⟨j,h1,h2,h3⟩
  ·exact Or.inl e
  ·exact Or.inr ⟨j,h1,getD_set_true h2,h3⟩
theorem Trace.apart (T:Trace P call lo (sts 0).nb ops hp0 n sts als) {i j b:Nat} (hi:i<n) (hj:j<n) (hne:j≠i) (h1:(sts j).nb≤b) (h2:b<(sts j).nb+qtH (als j)) (h3:(sts i).nb≤b) (h4:b<(sts i).nb+qtH (als i)):False:=by
 rcases Nat.lt_or_ge i j with hij | hij
 ·obtain⟨_,_,b3,_⟩:=T.props hi
  have:=T.nb (i:=i+1) (j:=j) (by omega) (by omega)
  omega
 ·obtain⟨_,_,b3,_⟩:=T.props hj
  have:=T.nb (i:=j+1) (j:=i) (by omega) (by omega)
  omega
def Bl.mix (β γ:Bl) (n k:Nat):Bl:=⟨fun b=>if n≤b∧b<n+k then γ b else β b,β.g,β.h,β.h0⟩
theorem WInv.growMany {listed:Array Bool} {β γ:Bl} {w w':World} {i k:Nat} {cells:List (Nat×Nat×SV)} (H:WInv n sts als hp0 W0 lo β0 listed β w) (T:Trace P call lo (sts 0).nb ops hp0 n sts als) (hin:i<n) (hil:listed.getD i true=false) (his:i<listed.size)
 (hlk:∀ b o,qae (qaK sts als hp0 (listed.setIfInBounds i true) n) b o=(qa9 (sts i).nb (als i) b o).or (qae (qaK sts als hp0 listed n) b o))
 (hc:als i=some (.many k cells)) (H':HRel w (sts i).nb γ cells w') (hown:(cells.all fun e=>!(Nat.ble (sts i).nb e.1&&Nat.ble (e.1+1) ((sts i).nb+k))||e.2.2.inR (sts i).nb ((sts i).nb+k))=true) :
 β.le (β.mix γ (sts i).nb k)∧WInv n sts als hp0 W0 lo β0 (listed.setIfInBounds i true) (β.mix γ (sts i).nb k) w':=by
 have hn:∀ b,(sts i).nb≤b→b<(sts i).nb+k→β b=none:=by
  intro b hb1 hb2
  cases e:β b with
  | none=>rfl
  | some r=>
   rcases H.dom _ _ e with e | ⟨j,a1,a2,a3,a4⟩
   ·rw[(H.dom0 _ (Nat.le_trans (T.nb (i:=0) (j:=i) (by omega) (by omega)) hb1)).1] at e;cases e
   ·exact (T.apart hin a1 (fun e=>by subst e;rw[getD_both hil] at a2;cases a2) a3 a4 hb1 (by rw[hc];exact hb2)).elim
 have hgn:∀ b,(sts i).nb≤b→β.g b=none:=fun b hb=>by
  rw[H.g]
  exact (H.dom0 b (Nat.le_trans (T.nb (i:=0) (j:=i) (by omega) (by omega)) hb)).2
 have hle:β.le (β.mix γ (sts i).nb k):=Bl.le_of (e:=rfl) (e':=rfl) fun b e=>by
  refine⟨?_,rfl⟩
  show (if _ then _ else _)=_
  exact if_neg fun h=>by
   rcases e with e | e
   ·exact e (hn b h.1 h.2)
   ·exact e (hgn b h.1)
 have hli:(listed.setIfInBounds i true).getD i false=true:=by
  rw[Array.getD_eq_getD_getElem?,Array.getElem?_setIfInBounds,if_pos rfl,if_pos his]
  rfl
 have mix_in:∀ {b r},(sts i).nb≤b→b<(sts i).nb+k→γ b=some r→(β.mix γ (sts i).nb k) b=some r:=fun h1 h2 e=>by show (if _ then _ else _)=_;rw[if_pos ⟨h1,h2⟩];exact e
 have mix_cases:∀ {b r},(β.mix γ (sts i).nb k) b=some r→((sts i).nb≤b∧b<(sts i).nb+k∧γ b=some r)∨β b=some r:=fun {b r} e=>by
  unfold Bl.mix at e
  simp only at e
  split at e
  ·rename_i h;exact Or.inl ⟨h.1,h.2,e⟩
  ·exact Or.inr e
 have hg:=H'.gr
 have HG:=H.h.gr_mono hg
 have hrowB:∀ b o s,qae (qaK sts als hp0 (listed.setIfInBounds i true) n) b o=some s→s.isRow=true→qae (qaK sts als hp0 listed n) b o=some s:=by
  intro b o s hc' hs
  rw[hlk,hc] at hc'
  simp only[qa9] at hc'
  by_cases hb:(sts i).nb≤b∧b<(sts i).nb+k
  ·rw[if_pos hb] at hc'
   cases e1:qae cells b o with
   | none=>rw[e1] at hc';simpa using hc'
   | some y=>
    rw[e1] at hc'
    have e':y=s:=by simpa using hc'
    subst e'
    have hm:=List.all_eq_true.1 hown _ (qaj e1)
    rw[Nat.ble_eq_true_of_le hb.1,Nat.ble_eq_true_of_le (show b+1≤_ from hb.2)] at hm
    cases y<;>simp[SV.inR] at hm<;>cases hs
  ·rw[if_neg hb] at hc';simpa using hc'
 have holdB:∀ b o s r,qae (qaK sts als hp0 (listed.setIfInBounds i true) n) b o=some s→β b=some r→qae (qaK sts als hp0 listed n) b o=some s:=by
  intro b o s r hc' hb'
  rw[hlk,hc] at hc'
  simp only[qa9] at hc'
  by_cases hb:(sts i).nb≤b∧b<(sts i).nb+k
  ·rw[hn b hb.1 hb.2] at hb';cases hb'
  ·rw[if_neg hb] at hc';simpa using hc'
 have hnew:∀ {b r},(β.mix γ (sts i).nb k) b=some r→w.heap.size≤r∨β b=some r:=fun {b r} e=>by
  rcases mix_cases e with ⟨x1,_,e⟩ | e
  ·exact Or.inl (H'.new b r x1 e)
  ·exact Or.inr e
 refine⟨hle,Bl.le_trans H.le hle,H.base.gr_mono hg,⟨HG.gr,fun b r e=>?_,fun b c r e1 e2=>?_,fun b r hb e=>?_,fun b r e=>?_,fun b o sv e hs=>?_,fun b o s hc' hsr=>?_,fun b o s c o' s' u v f1 f2 q1 q2=>H.h.rinj0 b o s c o' s' u v (hrowB _ _ _ f1 (SV.isR_row q1)) (hrowB _ _ _ f2 (SV.isR_row q2)) q1 q2,fun b o xs hc'=>(HG.maps _ _ _ (hrowB _ _ _ hc' rfl)).imp fun r g=>⟨hle.f g.1,g.2⟩,
  HG.fz.mem,H.h.fz.own,fun b o s r hc' e=>?_,fun b o s u k hc' hsr=>H.h.fz.row b o s u k (hrowB _ _ _ hc' (SV.isR_row hsr)) hsr,fun b o e es m ds hc'=>(H.h.fz.rr _ _ _ _ _ _ (hrowB _ _ _ hc' rfl)).imp fun r g=>⟨hle.g g.1,g.2⟩,fun b o e es m ds hc'=>(H.h.fz.pr _ _ _ _ _ _ (hrowB _ _ _ hc' rfl)).imp fun r g=>⟨hle.g g.1,g.2⟩⟩,fun b r e=>?_,H.dom0,H.g,fun c o s u hc' hsr hu hl d r e' hk=>?_,H.hh⟩
 ·rcases mix_cases e with ⟨_,_,e⟩ | e
  ·exact H'.live b r e
  ·exact HG.live b r e
 ·rcases mix_cases e1 with ⟨x1,_,e1⟩ | e1<;>rcases mix_cases e2 with ⟨x2,_,e2⟩ | e2
  ·exact H'.inj b c r e1 e2
  ·have:=H'.new b r x1 e1;have:=H.h.live c r e2;omega
  ·have:=H'.new c r x2 e2;have:=H.h.live b r e1;omega
  ·exact H.h.inj b c r e1 e2
 ·rcases mix_cases e with ⟨x1,_,e⟩ | e
  ·exact W0.fresh _ H.h.gr r (H'.new b r x1 e)
  ·exact H.h.new b r hb e
 ·rcases mix_cases e with ⟨x1,_,e⟩ | e
  ·exact hgn b x1
  ·exact H.h.sep b r e
 ·rw[hlk,hc] at e
  simp only[qa9] at e
  by_cases hb:(sts i).nb≤b∧b<(sts i).nb+k
  ·rw[if_pos hb] at e
   cases e1:qae cells b o with
   | none=>
    rw[e1] at e
    obtain⟨r,u,c1,c2,c3⟩:=HG.cells b o sv (by simpa using e) hs
    exact⟨r,u,hle.f c1,SV.is_mono hle c2,c3⟩
   | some y=>
    rw[e1] at e
    have e':y=sv:=by simpa using e
    subst e'
    obtain⟨r,u,c1,c2,c3⟩:=H'.cells b o y e1 hs
    have hm:=List.all_eq_true.1 hown _ (qaj e1)
    rw[Nat.ble_eq_true_of_le hb.1,Nat.ble_eq_true_of_le (show b+1≤_ from hb.2)] at hm
    exact⟨r,u,mix_in hb.1 hb.2 c1,SV.inR_is (fun b r h1 h2 e=>mix_in h1 h2 e) (by simpa using hm) c2,c3⟩
  ·rw[if_neg hb] at e
   obtain⟨r,u,c1,c2,c3⟩:=HG.cells b o sv (by simpa using e) hs
   exact⟨r,u,hle.f c1,SV.is_mono hle c2,c3⟩
 ·have HH:=H.h.rows0 _ _ _ (hrowB _ _ _ hc' (SV.isR_row hsr)) hsr
  obtain⟨u,e,es,m,xs,g0,g1,g2⟩:=HH
  have g3:=g2.gr_mono hg
  refine⟨u,e,es,m,xs,g0,g1,g3.rd,g3.one,g3.low,g3.own,fun hb c r e hk=>?_⟩
  rcases hnew e with e | e
  ·have:=(qal (g2.own hb) r hk).2;omega
  ·exact g2.apart hb c r e hk
 ·rcases hnew e with e1 | e1
  ·exact H.h.fz.fresh e1
  ·exact H.h.fz.box b o s r (holdB _ _ _ _ hc' e1) e1
 ·rcases mix_cases e with ⟨x1,x2,_⟩ | e
  ·exact Or.inr ⟨i,hin,hli,x1,by rw[hc];exact x2⟩
  ·rcases H.dom b r e with e | ⟨j,a1,a2,a3⟩
   ·exact Or.inl e
   ·exact Or.inr ⟨j,a1,getD_set_true a2,a3⟩
 ·rcases hnew e' with e' | e'
  ·obtain⟨u',_,_,_,_,_,g1,g2⟩:=H.base.rows0 _ _ _ hc' hsr
   rw[hu] at g1
   cases g1
   have:=(qal (g2.own hl) r hk).2;omega
  ·exact H.ap c o s u hc' hsr hu hl d r e' hk
theorem WInv.grow {listed:Array Bool} {β:Bl} {w:World} {i:Nat} {cells:List SV} {us:List Value} {t:TypeId} (H:WInv n sts als hp0 W0 lo β0 listed β w) (T:Trace P call lo (sts 0).nb ops hp0 n sts als) (hin:i<n) (hil:listed.getD i true=false) (his:i<listed.size)
 (hlk:∀ b o,qae (qaK sts als hp0 (listed.setIfInBounds i true) n) b o=(qa9 (sts i).nb (als i) b o).or (qae (qaK sts als hp0 listed n) b o))
 (hc:als i=some (.new cells)) (hu:SV.isl β cells us) (h1:∀ u∈us,u.oneCell'=true) :
 (β (sts i).nb=none∧β.g (sts i).nb=none)∧WInv n sts als hp0 W0 lo β0 (listed.setIfInBounds i true) (β.set (sts i).nb w.heap.size) (w.alloc (.cells us.toArray t)):=by
 have hn:β (sts i).nb=none:=by
  cases e:β (sts i).nb with
  | none=>rfl
  | some r=>
   rcases H.dom _ _ e with e | ⟨j,a1,a2,a3,a4⟩
   ·rw[(H.dom0 _ (T.nb (i:=0) (j:=i) (by omega) (by omega))).1] at e;cases e
   ·exact (T.apart hin a1 (fun e=>by subst e;rw[getD_both hil] at a2;cases a2) a3 a4 (Nat.le_refl _) (by rw[hc];simp[qtH])).elim
 have hn2:β.g (sts i).nb=none:=by
  rw[H.g]
  exact (H.dom0 _ (T.nb (i:=0) (j:=i) (by omega) (by omega))).2
 have hle:β.le (β.set (sts i).nb w.heap.size):=Bl.le_set hn hn2
 have hli:(listed.setIfInBounds i true).getD i false=true:=by
  rw[Array.getD_eq_getD_getElem?,Array.getElem?_setIfInBounds,if_pos rfl,if_pos his]
  rfl
 refine⟨⟨hn,hn2⟩,Bl.le_trans H.le hle,H.base.gr_mono ((Gr.refl w).alloc _ _),(H.h.alloc hn hn2 hu h1).imp fun b o s e=>?_,fun b r e=>?_,H.dom0,H.g,fun c o s u hc' hsr hu' hl d r e' hk=>?_,H.hh⟩
 ·rw[hlk,hc] at e
  cases e1:qa9 (sts i).nb (some (.new cells)) b o with
  | none=>rw[e1] at e;exact Or.inl e
  | some x=>
   rw[e1] at e
   have e':x=s:=by simpa using e
   subst e'
   simp only[qa9] at e1
   split at e1
   ·rename_i hb;exact Or.inr ⟨hb.symm,e1⟩
   ·cases e1
 ·unfold Bl.set at e
  simp only at e
  split at e
  ·rename_i hb
   exact Or.inr ⟨i,hin,hli,Nat.le_of_eq hb.symm,by rw[hc,hb];exact Nat.lt_succ_self _⟩
  ·rcases H.dom b r e with e | ⟨j,a1,a2,a3⟩
   ·exact Or.inl e
   ·exact Or.inr ⟨j,a1,getD_set_true a2,a3⟩
 ·unfold Bl.set at e'
  simp only at e'
  split at e'
  ·obtain⟨u',_,_,_,_,_,g1,g2⟩:=H.base.rows0 _ _ _ hc' hsr
   rw[hu'] at g1
   cases g1
   cases e'
   have:=(qal (g2.own hl) _ hk).2;omega
  ·exact H.ap c o s u hc' hsr hu' hl d r e' hk
theorem qkh {listed:Array Bool} {β:Bl} {a:Act} {i:Nat} {oi:Oper} (T:Trace P call lo (sts 0).nb ops hp0 n sts als) (F:FInv ops n sts listed β a) (hd:qd4 ops n=true) (hlk:qc4 ops n=true)
 (hr:i∈Region.ready .any ops listed) (hin:i<n) (hoi:ops[i]?=some oi):∀ d,d∈oi.looksAt ops→(qax (sts i).tm d).is β (a.tmps.getD d undef):=by
 intro d hdl
 obtain⟨hun,oi',hoi',hall⟩:=mem_ready.1 hr
 rw[hoi] at hoi'
 cases hoi'
 by_cases hex:∃ k o,k<n∧listed.getD k false=true∧ops[k]?=some o∧o.dst=some d
 ·obtain⟨k,o,hk,hkl,ho,hdst⟩:=hex
  have hki:k<i:=by
   rcases qct hlk hk hin ho hoi hdst hdl with e | ⟨e,_⟩ | ⟨e,hw⟩
   ·subst e;rw[getD_both hun] at hkl;cases hkl
   ·exact e
   ·obtain⟨ok,hok,e',he',hb',hon⟩:=Region.waitsFor_spec hw
    have:=F.hi.closed k ok hok hkl e' he' hb'
    rw[hon,getD_both hun] at this
    cases this
  have:=F.done k o hk hkl ho d hdst
  rwa [T.slot (i:=k+1) (j:=i) (d:=d) (by omega) (by omega) (fun m om h1 h2 h3=>qcg hd hk (by omega) (by omega) ho h3 hdst)]
 ·have hno:∀ k o,k<n→listed.getD k false=true→ops[k]?=some o→o.dst≠some d:=fun k o h1 h2 h3 h4=>hex ⟨k,o,h1,h2,h3,h4⟩
  have:=F.old d hno
  rwa [T.slot (i:=0) (j:=i) (d:=d) (by omega) (by omega) (fun m om _ h2 h3 h4=>by
   rcases qct hlk (show m<n by omega) hin h3 hoi h4 hdl with e | ⟨_,hw⟩ | ⟨e,_⟩
   ·omega
   ·obtain⟨oi',hoi',e',he',hb',hon⟩:=Region.waitsFor_spec hw
    rw[hoi] at hoi'
    cases hoi'
    have:=hall e' he' hb'
    rw[hon] at this
    exact hno m om (by omega) this h3 h4
   ·omega)]
theorem qni (hcall:qbD P call) {Q:Exit→Act→World→Prop} {listed:Array Bool} {β:Bl} {a:Act} {w:World} {i:Nat} {K:Act→World→Prop} (T:Trace P call lo (sts 0).nb ops hp0 n sts als) (F:FInv ops n sts listed β a) (H:WInv n sts als hp0 W0 lo β0 listed β w)
 (hd:qd4 ops n=true) (hlk:qc4 ops n=true) (hbl:∀ j,j<n→bl[j]?=some (qb8 (sts j).nb (als j))) (hgl:∀ j,j<n→gl[j]?=some (ql6 (als j))) (hgk:qlH ops bl gl n=true) (hbk:qfA ops bl n=true) (hap:qfh (sts 0).hp bl=true) (hr:i∈Region.ready .any ops listed) (hin:i<n)
 (hK:∀ β' a' w',FInv ops n sts (listed.setIfInBounds i true) β' a'→WInv n sts als hp0 W0 lo β0 (listed.setIfInBounds i true) β' w'→K a' w'):wpOp P ops Q i K a w:=by
 obtain⟨hun,oi,hoi,hall⟩:=mem_ready.1 hr
 obtain⟨o,q,ho,h1,hq⟩:=T.one i hin
 rw[hoi] at ho
 cases ho
 have hls:=qkh T F hd hlk hr hin hoi
 have his:i<listed.size:=by rw[F.hi.size];exact (Array.getElem?_eq_some_iff.1 hoi).1
 have hev:∀ x∈oi.op.operands,((qaA oi.op (sts i)).2.ev x).is β (a.eval x):=by
  intro x hx
  cases x with
  | tmp t=>
   have:=hls t (by unfold Oper.looksAt;exact List.mem_append_left _ (List.mem_filterMap.2 ⟨.tmp t,by simpa using hx,rfl⟩))
   show (qax (qaA oi.op (sts i)).2.tm t).is β (a.tmps.getD t undef)
   rw[(qbM (op:=oi.op) (st:=sts i) rfl).1]
   exact this
  | const v=>rfl
  | global g=>rfl
  | func f=>rfl
 obtain⟨s1,s2⟩:=T.same (j:=i) (by omega)
 obtain⟨p1,p2,p3,p4⟩:=qbM (op:=oi.op) (st:=sts i) rfl
 have HH:HRel W0 lo β (qaA oi.op (sts i)).2.hp w:=by
  rw[p3,s2]
  have hgg:∀ {b u},β.g b=some u→β0.g b=some u:=fun {b u} e=>by rw[← H.g];exact e
  have hbx:∀ b o s r,qae (sts 0).hp b o=some s→β b=some r→β0 b=some r:=fun b o s r hc e=>by
   have hno:∀ u,β0.g b=some u→False:=fun u hu=>by
    have:=H.h.sep b r e
    rw[H.le.g hu] at this
    cases this
   have hyes:∀ r',β0 b=some r'→β0 b=some r:=fun r' e'=>by
    have:=H.le.f e'
    rw[e] at this
    cases this
    exact e'
   cases hs:s.isRow
   ·obtain⟨r',u,a1,_⟩:=H.base.cells b o s hc hs
    exact hyes r' a1
   ·cases s<;>try cases hs
    ·obtain⟨u,g1,_⟩:=H.base.rows _ _ _ _ _ _ hc
     exact (hno u g1).elim
    ·obtain⟨r',g1,_⟩:=H.base.maps _ _ _ hc
     exact hyes r' g1
    ·obtain⟨u,_,g1,_⟩:=H.base.drows _ _ _ _ _ _ hc
     exact (hno u g1).elim
    ·obtain⟨u,g1,_⟩:=H.base.fz.rr _ _ _ _ _ _ hc
     exact (hno u g1).elim
    ·obtain⟨u,g1,_⟩:=H.base.fz.pr _ _ _ _ _ _ hc
     exact (hno u g1).elim
  exact⟨H.h.gr,H.h.live,H.h.inj,H.h.new,H.h.sep,fun b o s e hs=>by
   obtain⟨r,u,a1,a2,a3⟩:=H.base.cells b o s e hs
   exact⟨r,u,H.le.f a1,SV.is_mono H.le a2,a3⟩,fun b o s hc hsr=>by
   obtain⟨u,e,es,m,xs,g0,g1,g2⟩:=H.base.rows0 b o s hc hsr
   exact⟨u,e,es,m,xs,SV.isRw_mono H.le.2.1 g0,H.le.g g1,g2.rd,g2.one,g2.low,g2.own,fun hb d r e'=>H.ap b o s u hc hsr g1 hb d r e'⟩,
   fun b o s c o' s' u v f1 f2 q1 q2 f3 f4 f5 f6 f7=>H.base.rinj0 b o s c o' s' u v f1 f2 q1 q2 f3 f4 f5 (hgg f6) (hgg f7),fun b o xs hc=>(H.base.maps b o xs hc).imp fun r g=>⟨H.le.f g.1,g.2⟩,
   H.h.fz.mem,H.h.fz.own,fun b o s r hc e=>by rw[H.hh];exact H.base.fz.box b o s r hc (hbx b o s r hc e),fun b o s u k hc hsr hb hu hk=>by rw[H.hh];exact H.base.fz.row b o s u k hc hsr hb (hgg hu) hk,
   fun b o e es m ds hc=>by rw[H.hh];exact (H.base.fz.rr _ _ _ _ _ _ hc).imp fun r g=>⟨H.le.g g.1,g.2⟩,fun b o e es m ds hc=>by rw[H.hh];exact (H.base.fz.pr _ _ _ _ _ _ hc).imp fun r g=>⟨H.le.g g.1,g.2⟩⟩
 have hlook:=fun b o=>WInv.lookEq (hp0:=hp0) F hbl hbk hr hin hoi b o
 unfold wpOp
 simp only[hoi]
 cases qf0 h1 with
 | no hw hp ha=>
  rw[qas hw hls,if_neg (by decide)]
  obtain⟨_,_,_,_,a5⟩:=qak hp
  exact hK β _ _ (F.step hd hr hin hoi (Bl.le_refl _) (show (SV.pv undef).is β undef from rfl) fun d hdd=>⟨(a5 d hdd).1,by rw[← s1];exact (a5 d hdd).2⟩) (H.stay (fun b o=>by rw[ha];rfl) hlook (Gr.refl w))
 | sto b i' cells hw hst hlo hh hp ha=>
  rw[qas hw hls,if_pos rfl]
  obtain⟨_,_,_,_,a5⟩:=qak hp
  have hev0:∀ x∈oi.op.operands,((sts i).ev x).is β (a.eval x):=by
   intro x hx
   cases x with
   | tmp t=>exact hls t (by unfold Oper.looksAt;exact List.mem_append_left _ (List.mem_filterMap.2 ⟨.tmp t,by simpa using hx,rfl⟩))
   | const v=>rfl
   | global g=>rfl
   | func f=>rfl
  have hpres:∀ k,k<cells.length→∃ s',qae (qaK sts als hp0 listed n) b (i'+k)=some s'∧s'.isRow=false:=by
   intro k hk
   obtain⟨s,hs,hnr⟩:=qdQ hh k hk
   have hcov:(qae (qaK sts als hp0 listed n) b (i'+k)).isSome=true:=by
    refine qgw (m:=i) (by omega) (qeS (fun m hm hmb=>?_) (by rw[hs];rfl))
    obtain⟨oi',hoi',e',he',hb',hon⟩:=Region.waitsFor_spec (qcl hbk hm hin (b:=b) (hbl m (by omega)) hmb (hbl i hin) (by rw[ha];exact qca))
    rw[hoi] at hoi'
    cases hoi'
    have:=hall e' he' hb'
    rwa [hon] at this
   obtain⟨s',hs'⟩:=Option.isSome_iff_exists.1 hcov
   have hs'nr:s'.isRow=false:=by
    have hat:=qhc (sts:=sts) (als:=als) (hp0:=hp0) (n:=n) (b:=b) (o:=i'+k) (getD_both hun) (fun m hm _ hmb=>by
     obtain⟨oi',hoi',e',he',hb',hon⟩:=Region.waitsFor_spec (qcl hbk hm hin (b:=b) (hbl m (by omega)) hmb (hbl i hin) (by rw[ha];exact qca))
     rw[hoi] at hoi'
     cases hoi'
     have:=hall e' he' hb'
     rwa [hon] at this) (fun m hm hmn hmb=>by
     cases hml:listed.getD m false
     ·rfl
     ·obtain⟨om,hom,e',he',hb',hon⟩:=Region.waitsFor_spec (qcl hbk hm hmn (b:=b) (hbl i hin) (by rw[ha];exact qca) (hbl m hmn) hmb)
      have:=F.hi.closed m om hom hml e' he' hb'
      rw[hon,getD_both hun] at this
      cases this) (m:=n) (Nat.le_refl _)
    rw[show min n i=i by omega,hs,hs'] at hat
    cases hat
    exact hnr
   exact⟨s',hs',hs'nr⟩
  have hthere:∀ r,β b=some r→w.there r i' cells.length:=by
   intro r hr'
   intro k hk
   obtain⟨s',hs',hs'nr⟩:=hpres k hk
   obtain⟨r'',u,c1,c2,c3,c4,c5⟩:=H.h.cells _ _ _ hs' hs'nr
   rw[hr'] at c1
   cases c1
   exact⟨by rw[c4];rfl,c5⟩
  have hzz:∀ r,β b=some r→cells=[]∨β.h r=none:=by
   intro r hr'
   cases hcl:cells with
   | nil=>exact Or.inl rfl
   | cons x l=>
    obtain⟨s',hs',_⟩:=hpres 0 (by rw[hcl];exact Nat.succ_pos _)
    exact Or.inr (H.h.fz.box _ _ _ _ hs' hr')
  obtain⟨r,us,hr',hu,hone,ht,hz,hrun⟩:=qsf hst hev0 hthere hzz
  refine Or.inl ?_
  unfold Oper.wp
  rw[hrun,Oper.upon_skip]
  exact hK β _ _ (F.step hd hr hin hoi (Bl.le_refl _) (show (SV.pv undef).is β undef from rfl) fun d hdd=>⟨(a5 d hdd).1,by rw[← s1];exact (a5 d hdd).2⟩)
   (H.store ha hlook hr' hlo (qiE hap (j:=i) (hbl i hin) (by rw[ha];exact qca)) hu hone ht hz)
 | val x hw hop hp ha=>
  rw[qas hw hls,if_pos rfl]
  obtain⟨_,_,_,_,a5⟩:=qak hp
  obtain⟨u,hu,hrun⟩:=qbq hop hq HH hev
  refine Or.inl ?_
  unfold Oper.wp
  rw[hrun,Oper.upon_value]
  exact hK β _ _ (F.step hd hr hin hoi (Bl.le_refl _) hu fun d hdd=>⟨(a5 d hdd).1,by rw[← s1,← p2];exact (a5 d hdd).2⟩) (H.stay (fun b o=>by rw[ha];rfl) hlook (Gr.refl w))
 | new t cells len hw hop hp ha=>
  rw[qas hw hls,if_pos rfl]
  obtain⟨_,_,_,_,a5⟩:=qak hp
  obtain⟨us,hu,hone,hrun⟩:=qbq hop hq HH hev
  refine Or.inl ?_
  unfold Oper.wp
  rw[hrun,Oper.upon_value]
  obtain⟨⟨hn,hn2⟩,H'⟩:=H.grow (t:=t) T hin hun his hlook ha hu hone
  have hle:β.le (β.set (sts i).nb w.heap.size):=Bl.le_set hn hn2
  have hx:(qrh (qaA oi.op (sts i)).2.nb len).is (β.set (sts i).nb w.heap.size) (qoP w.heap.size len):=by
   rw[p4]
   cases len
   ·exact⟨_,Bl.set_same _ _ _,rfl⟩
   ·exact⟨_,Bl.set_same _ _ _,rfl⟩
  exact hK _ _ _ (F.step hd hr hin hoi hle hx fun d hdd=>⟨(a5 d hdd).1,by rw[← s1,← p2];exact (a5 d hdd).2⟩) H'
 | call f args v s' q1 q2 hw hop how hc hp ha hqq=>
  rw[qas hw hls,if_pos rfl]
  obtain⟨_,_,_,_,a5⟩:=qak hp
  subst hqq
  obtain⟨hq1,hq2⟩:=qai hq
  obtain⟨us,hu,hrun⟩:=qbq hop hq1 HH hev
  refine Or.inl ?_
  unfold Oper.wp
  rw[hrun,Oper.upon_enter]
  obtain⟨e1,e2,e4⟩:=hcall hc hq2
  have hu0:SV.isl β0 args us:=SV.own_isl ⟨fun b r hb e=>by
   rcases H.dom b r e with e | ⟨j,a1,a2,a3,a4⟩
   ·exact e
   ·have:=T.nb (i:=0) (j:=j) (by omega) (by omega)
    omega,fun b u _ e=>by rw[← H.g];exact e,fun k _=>by rw[H.hh]⟩ how hu
  have Hb:HRel w (sts 0).nb β0.base ({ (qaA oi.op (sts i)).2 with nb:=(sts 0).nb }:St).hp w:=by
   show HRel w (sts 0).nb β0.base (qaA oi.op (sts i)).2.hp w
   rw[p3,s2]
   exact H.base.mono_lo (Gr.refl w) rfl H.dom0
  refine (e4 w β0.base us w Hb H.dom0 (Nat.le_refl _) (qdG.2 hu0)).mono fun e w' hh=>?_
  obtain⟨v',β',rfl,hle,hx,hH,_,_⟩:=hh
  have hx':v'=v:=hx
  subst hx'
  exact hK β _ _ (F.step hd hr hin hoi (Bl.le_refl _) (show (SV.pv v').is β v' from rfl) fun d hdd=>⟨(a5 d hdd).1,by rw[← s1,← p2];exact (a5 d hdd).2⟩) (H.stay (fun b o=>by rw[ha];rfl) hlook hH.gr)
 | many f g args caps s' q1 q2 hw hop how hc hnb hcaps hcells hp ha hqq=>
  rw[qas hw hls,if_pos rfl]
  obtain⟨_,_,_,_,a5⟩:=qak hp
  subst hqq
  obtain⟨hq1,hq2⟩:=qai hq
  obtain⟨us,hu,hrun⟩:=qbq hop hq1 HH hev
  refine Or.inl ?_
  unfold Oper.wp
  rw[hrun,Oper.upon_enter]
  obtain⟨e1,e2,e4⟩:=hcall hc hq2
  have h0i:(sts 0).nb≤(sts i).nb:=T.nb (i:=0) (j:=i) (by omega) (by omega)
  have hd0:β0.dom (sts i).nb:=fun b hb=>H.dom0 b (by omega)
  have hu0:SV.isl β0 args us:=SV.own_isl ⟨fun b r hb e=>by
   rcases H.dom b r e with e | ⟨j,a1,a2,a3,a4⟩
   ·exact e
   ·have:=T.nb (i:=0) (j:=j) (by omega) (by omega)
    omega,fun b u _ e=>by rw[← H.g];exact e,fun k _=>by rw[H.hh]⟩ how hu
  have Hb:HRel w (sts i).nb β0.base (qaA oi.op (sts i)).2.hp w:=by
   rw[p3,s2]
   exact H.base.mono_lo (Gr.refl w) rfl hd0
  refine (e4 w β0.base us w Hb (by rw[p4];exact hd0) (by rw[p4];exact Nat.le_refl _) (qdG.2 hu0)).mono fun e w' hh=>?_
  obtain⟨v',γ,rfl,hle,hx,hH,_,_⟩:=hh
  have hk:(sts i).nb+(s'.nb-(sts i).nb)=s'.nb:=by omega
  obtain⟨hle',H'⟩:=H.growMany T hin hun his hlook ha hH (by rw[hk];exact hcells)
  have hx':(SV.pc g caps).is (β.mix γ (sts i).nb (s'.nb-(sts i).nb)) v':=SV.inR_is (n:=(sts i).nb) (m:=s'.nb) (fun b r h1 h2 e=>by show (if _ then _ else _)=_;rw[if_pos ⟨h1,by omega⟩];exact e) hcaps hx
  exact hK _ _ _ (F.step hd hr hin hoi hle' hx' fun d hdd=>⟨(a5 d hdd).1,by rw[← s1,← p2];exact (a5 d hdd).2⟩) H'
 | get b x hw hop hp ha=>
  rw[qas hw hls,if_pos rfl]
  obtain⟨_,_,_,_,a5⟩:=qak hp
  have hnoe:∀ o,qa9 (sts i).nb (als i) b o=none:=fun o=>by rw[ha];rfl
  have hat:∀ o,qae (qaK sts als hp0 listed n) b o=qae (qcw sts als hp0 i) b o:=by
   intro o
   rw[qjn (hnoe o) (fun k hk hkn hkb=>?_) (fun k hk hkn hkb=>?_) (Nat.le_refl n),show min n i=i by omega]
   ·exact qdT F.hi ((qfM hgk hin hkn (b:=b) (by rw[hgl i hin,ha];rfl) (hbl k hkn) hkb).1 hk) hoi hall
   ·cases hl:listed.getD k false
    ·rfl
    ·obtain⟨ok,_,hok,_⟩:=T.one k hkn
     have:=qdT F.hi ((qfM hgk hin hkn (b:=b) (by rw[hgl i hin,ha];rfl) (hbl k hkn) hkb).2 (by omega)) hok (fun e he hb=>F.hi.closed k ok hok hl e he hb)
     rw[getD_both hun] at this;cases this
  have HG:HRel W0 lo β (atB b (qcw sts als hp0 i)) w:=H.h.imp fun c o s e=>by
   obtain⟨rfl,e2⟩:=qgt e
   show qae _ _ _=_
   rw[hat];exact e2
  obtain⟨u,hu,hrun⟩:=qbq hop hq HG hev
  refine Or.inl ?_
  unfold Oper.wp
  rw[hrun,Oper.upon_value]
  exact hK β _ _ (F.step hd hr hin hoi (Bl.le_refl _) hu fun d hdd=>⟨(a5 d hdd).1,by rw[← s1,← p2];exact (a5 d hdd).2⟩) (H.stay (fun c o=>by rw[ha];rfl) hlook (Gr.refl w))
theorem qpk {listed:Array Bool} {β:Bl} {a:Act} {w:World} (T:Trace P call lo (sts 0).nb ops hp0 n sts als) (F:FInv ops n sts listed β a) (H:WInv n sts als hp0 W0 lo β0 listed β w) (hlo:lo≤(sts 0).nb) (hd:qd4 ops n=true)
 (hall:∀ j,j<n→listed.getD j false=true):Rel W0 lo β { sts n with hp:=qcw sts als hp0 n } a w:=by
 obtain⟨s1,s2⟩:=T.same (j:=n) (Nat.le_refl _)
 refine⟨⟨by rw[F.size];exact s1.symm,F.defers,fun d=>?_⟩,(by have:=H.h;rw[qhM hall] at this;exact this),fun b hb=>?_,Nat.le_trans hlo (T.nb (Nat.zero_le _) (Nat.le_refl _))⟩
 ·show (qax (sts n).tm d).is β _
  by_cases hex:∃ k o,k<n∧ops[k]?=some o∧o.dst=some d
  ·obtain⟨k,o,hk,ho,hdst⟩:=hex
   rw[T.slot (i:=k+1) (j:=n) (d:=d) (by omega) (by omega) (fun m om h1 h2 h3=>qcg hd hk (by omega) (by omega) ho h3 hdst)]
   exact F.done k o hk (hall k hk) ho d hdst
  ·rw[T.slot (i:=0) (j:=n) (d:=d) (by omega) (by omega) (fun m om _ h2 h3 h4=>hex ⟨m,om,h2,h3,h4⟩)]
   exact F.old d fun k o h1 _ h3 h4=>hex ⟨k,o,h1,h3,h4⟩
 ·have hb':(sts n).nb≤b:=hb
  have h0n:=T.nb (i:=0) (j:=n) (by omega) (by omega)
  refine⟨?_,by rw[H.g];exact (H.dom0 b (by omega)).2⟩
  cases e:β b with
  | none=>rfl
  | some r=>
   rcases H.dom b r e with e | ⟨j,h1,_,h3,h4⟩
   ·rw[(H.dom0 b (by omega)).1] at e;cases e
   ·obtain⟨_,_,b3,_⟩:=T.props h1
    have:=T.nb (i:=j+1) (j:=n) (by omega) (by omega)
    omega
theorem qlt (hcall:qbD P call) {Q:Exit→Act→World→Prop} (T:Trace P call lo (sts 0).nb ops hp0 n sts als) (hlo:lo≤(sts 0).nb) (hnl:n≤ops.size) (he:qfO ops n=true) (hd:qd4 ops n=true) (hlk:qc4 ops n=true) (hbl:∀ j,j<n→bl[j]?=some (qb8 (sts j).nb (als j))) (hgl:∀ j,j<n→gl[j]?=some (ql6 (als j))) (hgk:qlH ops bl gl n=true) (hbk:qfA ops bl n=true) (hap:qfh (sts 0).hp bl=true)
 (htl:n=ops.size∨(Region.sinkB .any ops n=true∧Region.chainB .any ops n=true))
 (hfin:∀ β a w listed,β0.le β→Rel W0 lo β { sts n with hp:=qcw sts als hp0 n } a w→listed.size=ops.size→(∀ j,j<n→listed.getD j false=true)→(∀ t,n≤t→t<ops.size→listed.getD t true=false)→wpAny P .any ops Q (ops.size-n) listed a w) :
 ∀ (m:Nat) (listed:Array Bool) (β:Bl) (a:Act) (w:World),cnt listed n=m→FInv ops n sts listed β a→WInv n sts als hp0 W0 lo β0 listed β w→wpAny P .any ops Q (m+(ops.size-n)) listed a w:=by
 intro m
 induction m with
 | zero=>
  intro listed β a w hc F H
  rw[Nat.zero_add]
  have hall:∀ j,j<n→listed.getD j false=true:=by
   intro j hj
   have:=qeJ hc j hj
   have hs:j<listed.size:=by rw[F.hi.size];omega
   rw[Array.getD_eq_getD_getElem?,Array.getElem?_eq_getElem hs] at this ⊢
   simpa using this
  exact hfin β a w listed H.le (qpk T F H hlo hd hall) F.hi.size hall F.hi.tail
 | succ m ih=>
  intro listed β a w hc F H
  rw[show m+1+(ops.size-n)=(m+(ops.size-n))+1 by omega]
  obtain⟨j,hj,hun,hless⟩:=qit (listed:=listed) (n:=n) (by omega)
  have hready:j∈Region.ready .any ops listed:=by
   obtain⟨o,q,ho,_,_⟩:=T.one j hj
   refine mem_ready.2 ⟨hun,o,ho,fun e hee hb=>?_⟩
   have hlt:=qeW he hj ho e hee hb
   have:=hless e.on hlt
   have hs:e.on<listed.size:=by rw[F.hi.size];omega
   rw[Array.getD_eq_getD_getElem?,Array.getElem?_eq_getElem hs] at this ⊢
   simpa using this
  refine⟨fun h0=>(by rw[h0] at hready;cases hready),fun i hi=>?_⟩
  have hin:i<n:=by
   rcases Nat.lt_or_ge i n with h | h
   ·exact h
   ·exfalso
    obtain⟨_,oi,hoi,_⟩:=mem_ready.1 hi
    have hi':=(Array.getElem?_eq_some_iff.1 hoi).1
    rcases htl with e | ⟨hs,hc'⟩
    ·omega
    ·exact tail_waits hs hc' (by omega) F.hi _ j rfl hj hun i h hi
  refine qni hcall T F H hd hlk hbl hgl hgk hbk hap hi hin fun β' a' w' F' H'=>ih _ β' a' w' ?_ F' H'
  have:=qix (mem_ready.1 hi).1 hin
  omega
end
end Go.Proofs.YtleaeldgaflmkaaGreat
