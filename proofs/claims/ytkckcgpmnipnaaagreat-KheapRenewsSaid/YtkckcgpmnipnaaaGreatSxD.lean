/-
  One operation over blocks by name: a real run yields what was worked out, for each kind of operation. Conditions: none.
-/
import Derived.Test.YtkckcgpmnipnaaaGreatW4
namespace Go.Proofs.YtkckcgpmnipnaaaGreat
set_option maxRecDepth 100000
open Go.RowKit
section
variable {P:Program} {W0:World} {lo:Nat} {β:Bl} {st:St} {w:World} {ρ:Operand→Value}
theorem qb1 (w:World) (r o:Nat) (ty:TypeId) (v:Value) (d:TypeDesc) (hc:w.cell? ⟨r,o,none⟩=some v) (hu:P.underlying ty=some d) (hd:d.isRow=false) :
 (loadVar ty ⟨r,o,none⟩).run P w=.ok v w:=by
 have hagg:(isAgg ty).run P w=.ok false w:=by
  unfold isAgg;rw[Sem.run_bind,run_underlying hu w]
  cases d<;>simp_all
 simp[loadVar,hagg,load,Sem.run,hc]
theorem qcR (w:World) (r o:Nat) (ty:TypeId) (v:Value) (n:Nat) (i:TypeInfo) (ht:w.there r o n) (hi:P.info? ty=some i) (hn:v.cells.size=n) (hs:i.size=n) (h1:∀ u∈v.cells.toList,u.oneCell'=true) :
 (storeVar ty ⟨r,o,none⟩ v).run P w=.ok () (w.setCells r o v.cells.toList):=by
 have:=run_storeCells_cells (P:=P) r o v.cells.toList 0 w (fun j hj=>by simpa using (ht j (by simp at hj;omega)).1) (fun j hj=>by simpa using (ht j (by simp at hj;omega)).2) h1;simp only[Nat.add_zero] at this;simp[storeVar,sizeOf,typeInfo,hi,hn,hs,this]
theorem qaO {hp:List (Nat×Nat×SV)} {b:Nat} {ρ:Row} (h:qcT hp b=some ρ):qaj hp b 0=some (.row ρ.e ρ.es ρ.n ρ.xs):=by
 unfold qcT at h;split at h
 ·rename_i e es n xs hl;simp only[Option.some.injEq] at h;subst h;exact hl
 ·cases h
theorem qto {o:Oper} {t:TypeId} {x:Operand} {b q':Nat} {c:Ch} {out:Out} {q:List Prop} (ho:o.op=.load t x) (h:qu1 P st t b q' c=some (out,q)) (hq:qba q) (H:HRel W0 lo β st.hp w) (k:(SV.lp b q').is β (ρ x)):qbK P W0 lo β w (execOp ρ o) out:=by
 unfold qu1 at h;split at h
 ·rename_i R v d i hR hu hi;obtain⟨u,g1,g2⟩:=H.rows _ _ _ _ _ _ (qaO hR);obtain⟨r,o',n,c',e1,e2⟩:=k;rw[g1] at e1;cases e1;obtain⟨_,a,c'',e3,_,e4⟩:=g2.rd;cases e3;cases hb:(bif d.isRow then qt2 v i.size else v.oneCell')
  ·rw[hb] at h;cases h
  ·rw[hb,cond_true] at h;simp only[Option.some.injEq,Prod.mk.injEq] at h;obtain⟨rfl,rfl⟩:=h;have hr:=hq.1;refine⟨v,rfl,?_⟩;simp only[execOp,ho];refine qax ?_;rw[e2];cases hd:d.isRow
   ·rw[hd,cond_false] at hb
    have hc:v.cells.toList=[v]:=by
     cases v<;>first | rfl | cases hb
    rw[hc] at hr;obtain⟨r',o'',e5,e6⟩:=e4 q' v (hr 0 v rfl);simp only[Option.some.injEq,Addr.mk.injEq] at e5;obtain⟨rfl,rfl,_⟩:=e5;simp[Instr.loadAt,Instr.sureAddr,qb1 w r (o'+q') t v d e6 hu hd]
   ·rw[hd,cond_true] at hb
    cases v<;>try cases hb
    rename_i cs;refine run_loadAt_mid w r (o'+q') t cs.toList d (fun j y hj=>?_) hu hd (by simp[hi];exact (Nat.eq_of_beq_eq_true (show Nat.beq cs.size i.size=true from hb)).symm);obtain⟨r',o'',e5,e6⟩:=e4 (q'+j) y (hr j y hj);simp only[Option.some.injEq,Addr.mk.injEq] at e5;obtain⟨rfl,rfl,_⟩:=e5;rw[Nat.add_assoc];exact e6
 ·cases h
theorem qpR {o:Oper} {t:TypeId} {x y:Operand} {b q':Nat} {c:Ch} {out:Out} {q:List Prop} (ho:o.op=.store t x y) (h:qpX P st t b q' (st.ev y) c=some (out,q)) (hq:qba q) (H:HRel W0 lo β st.hp w) (k:(SV.lp b q').is β (ρ x)) (ky:(st.ev y).is β (ρ y)):qbK P W0 lo β w (execOp ρ o) out:=by
 unfold qpX at h;split at h
 ·rename_i R ys i us hR hi hus;obtain⟨u,g1,g2⟩:=H.rows _ _ _ _ _ _ (qaO hR);obtain⟨r,o',n,c',e1,e2⟩:=k;rw[g1] at e1;simp only[Option.some.injEq] at e1;cases hb:(Nat.beq us.length i.size&&us.all Value.oneCell')
  ·rw[hb] at h;cases h
  ·rw[hb,cond_true] at h;simp only[Option.some.injEq,Prod.mk.injEq] at h;obtain⟨rfl,rfl⟩:=h;simp only[Bool.and_eq_true] at hb;have h1:=Nat.eq_of_beq_eq_true hb.1
   have hone:∀ v∈us,v.oneCell'=true:=fun v hv=>List.all_eq_true.1 hb.2 v hv
   have hall:(cellsOf (st.ev y)).all qjj=true:=by
    rw[qcv hus];simp only[List.all_map]
    exact List.all_eq_true.2 fun v hv=>hone v hv
   have hcs:(ρ y).cells.toList=us:=by
    have:=qc5 hall ky;rw[qcv hus] at this;exact SV.isl_v_eq this
   intro hlo;obtain⟨w',f1,f2,f3⟩:=qkc (P:=P) (g2.own hlo) e1 hq.2.1 hone;refine⟨u,w',g1,?_,f2,?_,?_⟩
   ·refine Or.inl ⟨rfl,?_⟩;simp only[execOp,ho];refine qfe ?_;rw[e2]
    have hsz:(ρ y).cells.size=i.size:=by rw[← h1,← hcs,Array.length_toList]
    simp[Instr.storeAt,Instr.sureAddr,storeVar,qa5 hi w,hsz,hcs,f1]
   ·have:=hq.1;subst this;exact f3
   ·have:=hq.1;subst this;exact qhG g2.one hone
 ·cases h
theorem qdE {es:Nat} {s:SV} {b k len:Nat} {v:Value} (h:qeW st es s=some (b,k,len)) (H:HRel W0 lo β st.hp w) (hv:s.is β v):(S0.lq b es k len).is β v:=by
 cases s with
 | ls b' l=>
  simp only[qeW] at h;split at h
  ·rename_i R hR;cases hb:(Nat.beq R.es es&&!Nat.beq es 0)
   ·rw[hb] at h;cases h
   ·rw[hb,cond_true] at h;simp only[Option.some.injEq,Prod.mk.injEq] at h;obtain⟨rfl,rfl,rfl⟩:=h;simp only[Bool.and_eq_true,Bool.not_eq_true'] at hb;obtain⟨u,g1,g2⟩:=H.rows _ _ _ _ _ _ (qaO hR);obtain⟨k1,a,c,rfl⟩:=hv;rw[g1] at k1;cases k1;obtain⟨l1,a',c',e3,e5,e4⟩:=g2.rd;cases e3;refine⟨a,R.n,c,a,c,g1,by omega,e5,rfl,fun hl=>?_⟩
    have hes:¬ es=0:=fun e=>by have:=hb.2;rw[e] at this;cases this
    have hes':=Nat.eq_of_beq_eq_true hb.1
    have:0<R.xs.length:=by rw[l1,hes'];exact Nat.mul_pos hl (by omega)
    obtain⟨r,o,e6,_⟩:=e4 0 _ (List.getElem?_eq_getElem this);exact⟨r,o,e6,by rw[Nat.zero_mul,Nat.add_zero];exact e6⟩
  ·cases h
 | lq b' es' k' l=>
  simp only[qeW] at h;cases hb:Nat.beq es' es
  ·rw[hb] at h;cases h
  ·rw[hb,cond_true] at h;simp only[Option.some.injEq,Prod.mk.injEq] at h;obtain⟨rfl,rfl,rfl⟩:=h;have:=Nat.eq_of_beq_eq_true hb;subst this;exact hv
 | _=>cases h
theorem qfz (z:List Value):∀ n,(qdR z n).length=n*z.length
 | 0=>by simp[qdR]
 | n+1=>by simp[qdR,qfz z n,Nat.succ_mul];omega
theorem qru (z:Array Value) (n:Nat):(Builtin.zeroCells z n).toList=qdR z.toList n:=by
 rw[← qd3];simp[Builtin.zeroCells,madeCells]
theorem qli {z:List Value} (h:∀ v∈z,v.oneCell'=true):∀ n,∀ v∈qdR z n,v.oneCell'=true
 | 0,v,hv=>by cases hv
 | n+1,v,hv=>by
  rcases List.mem_append.1 (show v∈z++qdR z n from hv) with hv | hv
  ·exact h v hv
  ·exact qli h n v hv
theorem qoH {o:Oper} {cl:Call} {x:Operand} {t:TypeId} {c:Ch} {out:Out} {q:List Prop} (ho:o.op=.call cl) (hc:cl.callee=.builtin .clear) (ha:cl.args=#[x]) (hts:cl.argTypes=#[t]) (h:qnd P st t (st.ev x) c qdR=some (out,q)) (hq:qba q) (H:HRel W0 lo β st.hp w)
 (kx:(st.ev x).is β (ρ x)):qbK P W0 lo β w (execOp ρ o) out:=by
 unfold qnd at h;split at h
 ·rename_i e ys hu;split at h
  ·rename_i i hi;split at h
   ·rename_i z b k len hz hp;split at h
    ·rename_i R hR;cases hb:(z.cells.toList.all Value.oneCell')
     ·rw[hb] at h;cases h
     ·rw[hb,cond_true] at h;simp only[Option.some.injEq,Prod.mk.injEq] at h;obtain⟨rfl,rfl⟩:=h;obtain⟨q1,q2,q3,_⟩:=hq;obtain⟨u,g1,g2⟩:=H.rows _ _ _ _ _ _ (qaO hR);obtain⟨a,N,c1,a',c',e1,e2,e3,e4,e5⟩:=qdE hp H kx;obtain⟨r,o',rfl,rfl⟩:=e5 q2;rw[g1] at e1;simp only[Option.some.injEq] at e1;have hone:∀ v∈qdR z.cells.toList len,v.oneCell'=true:=qli (fun v hv=>List.all_eq_true.1 hb v hv) len;intro hlo;obtain⟨w',f1,f2,f3⟩:=qkc (P:=P) (g2.own hlo) e1 q3 hone;refine⟨u,w',g1,Or.inr ?_,f2,?_,?_⟩
      ·have hpos:¬ len=0:=by omega
       simp only[execOp,ho,resolve,hc,ha,hts,Sem.run_bind,Sem.run_pure,Result.andThen_ok,invoke,builtin];rw[← qru] at f1
       cases len with
       | zero=>omega
       | succ len=>simp[Builtin.clear_,run_underlying hu,e4,zeroValue,typeInfo,hi,hz,f1,undef]
      ·subst q1;exact f3
      ·subst q1;exact qhG g2.one hone
    ·cases h
   ·cases h
  ·cases h
 ·cases h
theorem qa0 {x:Value} {y:Nat} {k:IntKind} {i:Int} (code:BoundsCode) (hx:x=.int k i) (h0:0≤i) (h1:i.toNat≤y):(Instr.sliceBound x y code).run P w=.ok i.toNat w:=by
 subst hx
 have:i≤y:=by omega
 simp[Instr.sliceBound,asIntOf,h0,this]
theorem qeF {a:Option Operand} {r:Option Int} (h:qzU st a=some r) (hx:∀ x∈a,(st.ev x).is β (ρ x)):(a=none∧r=none)∨∃ x k i,a=some x∧r=some i∧ρ x=.int k i:=by
 unfold qzU at h;split at h
 ·cases h;exact Or.inl ⟨rfl,rfl⟩
 ·rename_i x;split at h
  ·rename_i i hi;cases h;unfold intOf at hi;split at hi
   ·rename_i k j he;cases hi;have:=hx x rfl;rw[he] at this;exact Or.inr ⟨x,k,_,rfl,rfl,this⟩
   ·cases hi
  ·cases h
theorem quo {b es k l len h m:Nat} {a:Option Addr} {c:Nat} (kk:(S0.lq b es k len).is β (.slice a len c)) (h1:l≤h) (h2:h≤len) (h3:h≤m) :
 (S0.lq b es (k+l) (h-l)).is β (.slice (if m=l then a else a.map (·.add (l*es))) (h-l) (m-l)):=by
 obtain⟨a0,n,c0,a',c',e1,e2,e3,e4,e5⟩:=kk;cases e4;refine⟨a0,n,c0,_,_,e1,by omega,by omega,rfl,fun hl=>?_⟩;obtain⟨r,o,e6,e7⟩:=e5 (by omega);subst e7;rw[if_neg (by omega)];refine⟨r,o,e6,?_⟩;simp only[Option.map_some,Addr.add_mid,Option.some.injEq,Addr.mk.injEq,true_and,and_true];rw[Nat.add_mul];omega
theorem qnH {o:Oper} {t:TypeId} {x:Operand} {l1 h1 m1:Option Operand} {out:Out} {q:List Prop} (ho:o.op=.slice t x l1 h1 m1) (h:qnp P st t (st.ev x) l1 h1 m1=some (out,q)) (hq:qba q) (H:HRel W0 lo β st.hp w) (hx:∀ x∈o.op.operands,(st.ev x).is β (ρ x)):qbK P W0 lo β w (execOp ρ o) out:=by
 have kx:(st.ev x).is β (ρ x):=hx x (by simp[ho,Op.operands])
 have kl:∀ y∈l1,(st.ev y).is β (ρ y):=fun y hy=>hx y (by simp[ho,Op.operands,hy];subst hy;simp)
 have kh:∀ y∈h1,(st.ev y).is β (ρ y):=fun y hy=>hx y (by simp[ho,Op.operands,hy];subst hy;simp)
 have km:∀ y∈m1,(st.ev y).is β (ρ y):=fun y hy=>hx y (by simp[ho,Op.operands,hy];subst hy;simp)
 unfold qnp at h;split at h
 ·rename_i e hu;split at h
  ·rename_i inf hi
   have key:∀ {b k len:Nat},qeW st inf.size (st.ev x)=some (b,k,len)→∃ a c,ρ x=.slice a len c∧len≤c∧(S0.lq b inf.size k len).is β (.slice a len c):=by
    intro b k len hp;have:=qdE hp H kx;have k2:=this;obtain⟨a0,n,c0,a',c',e1,e2,e3,e4,e5⟩:=this;exact⟨a',c',e4,e3,by rw[← e4];exact k2⟩
   split at h
   ·rename_i b k len l' h' hp hl hh hm;simp only[Option.some.injEq,Prod.mk.injEq] at h;obtain⟨rfl,rfl⟩:=h;obtain⟨a,c,e1,e2,e3⟩:=key hp;obtain⟨q1,q2,q3,q4,_⟩:=hq
    have hm':m1=none:=by
     rcases qeF hm km with ⟨rfl,_⟩ | ⟨_,_,_,_,e,_⟩
     ·rfl
     ·cases e
    subst hm';refine⟨_,quo (m:=c) e3 q3 q4 (Nat.le_trans q4 e2),?_⟩;simp only[execOp,ho];refine qax ?_;rw[e1]
    rcases qeF hl kl with ⟨rfl,rfl⟩ | ⟨y,kk,i,rfl,rfl,hy⟩<;>rcases qeF hh kh with ⟨rfl,rfl⟩ | ⟨y',kk',i',rfl,rfl,hy'⟩<;>
     simp only[qfS,qiw] at q1 q2 q3 q4 ⊢
    ·(simp[Instr.sliceAt,run_underlying hu,Instr.slice,Instr.sliceBounds,qa5 hi w];try (split<;>rfl))
    ·have b2:=qa0 (P:=P) (w:=w) .sliceAcap hy' q2 (Nat.le_trans q4 e2)
     (simp[Instr.sliceAt,run_underlying hu,Instr.slice,Instr.sliceBounds,qa5 hi w,b2];try (split<;>rfl))
    ·have b1:=qa0 (P:=P) (w:=w) .sliceB hy q1 q3
     (simp[Instr.sliceAt,run_underlying hu,Instr.slice,Instr.sliceBounds,qa5 hi w,b1];by_cases hci:c=i.toNat<;>simp[hci])
    ·have b1:=qa0 (P:=P) (w:=w) .sliceB hy q1 q3;have b2:=qa0 (P:=P) (w:=w) .sliceAcap hy' q2 (Nat.le_trans q4 e2)
     (simp[Instr.sliceAt,run_underlying hu,Instr.slice,Instr.sliceBounds,qa5 hi w,b1,b2];by_cases hci:c=i.toNat<;>simp[hci])
   ·rename_i b k len l' h' m' hp hl hh hm;simp only[Option.some.injEq,Prod.mk.injEq] at h;obtain⟨rfl,rfl⟩:=h;obtain⟨a,c,e1,e2,e3⟩:=key hp;obtain⟨q1,q2,q3,q4,q5,q6,_⟩:=hq;refine⟨_,quo (m:=m'.toNat) e3 q4 (Nat.le_trans q5 q6) q5,?_⟩;simp only[execOp,ho];refine qax ?_;rw[e1]
    rcases qeF hh kh with ⟨_,e⟩ | ⟨y',kk',i',rfl,e,hy'⟩
    ·cases e
    ·cases e
     rcases qeF hm km with ⟨_,e⟩ | ⟨y2,kk2,i2,rfl,e,hy2⟩
     ·cases e
     ·cases e;have b2:=qa0 (P:=P) (w:=w) .slice3B hy' q2 q5;have b3:=qa0 (P:=P) (w:=w) .slice3Acap hy2 q3 (Nat.le_trans q6 e2)
      rcases qeF hl kl with ⟨rfl,rfl⟩ | ⟨y,kk,i,rfl,rfl,hy⟩<;>simp only[qfS,qiw] at q1 q4 ⊢
      ·(simp[Instr.sliceAt,run_underlying hu,Instr.slice,Instr.sliceBounds,qa5 hi w,b2,b3];try (split<;>rfl))
      ·have b1:=qa0 (P:=P) (w:=w) .slice3C hy q1 q4
       (simp[Instr.sliceAt,run_underlying hu,Instr.slice,Instr.sliceBounds,qa5 hi w,b1,b2,b3];by_cases hci:m'.toNat=i.toNat<;>simp[hci])
   ·cases h
  ·cases h
 ·cases h
theorem qcY {y:Value} (h:qcS y=true):y=.slice none 0 0:=by
 unfold qcS at h;split at h
 ·rfl
 ·cases h
theorem qig {y:Value} (h:qhU y=true):∃ a c,y=.slice a 0 c:=by
 unfold qhU at h;split at h
 ·exact⟨_,_,rfl⟩
 ·cases h
theorem qlI {es m:Nat} {s:SV} {ys:List Value} {v:Value} {tx e':TypeId} (h:qch st es s=some (m,ys)) (H:HRel W0 lo β st.hp w) (hv:s.is β v) (hk:P.underlying tx=some (.slice e')):Src P es tx v m ys w:=by
 cases s with
 | ls b l=>
  simp only[qch] at h;split at h
  ·rename_i R hR;cases hb:Nat.beq R.es es
   ·rw[hb] at h;cases h
   ·rw[hb,cond_true] at h;simp only[Option.some.injEq,Prod.mk.injEq] at h;obtain⟨rfl,rfl⟩:=h;obtain⟨u,g1,g2⟩:=H.rows _ _ _ _ _ _ (qaO hR);obtain⟨k1,a,c,rfl⟩:=hv;rw[g1] at k1;cases k1;obtain⟨l1,a',c',e3,e5,e4⟩:=g2.rd;cases e3;have:=Nat.eq_of_beq_eq_true hb;subst this
    cases a with
    | none=>
     have hx:R.xs=[]:=by
      cases hxs:R.xs with
      | nil=>rfl
      | cons y r=>
       rw[hxs] at e4;obtain⟨_,_,e6,_⟩:=e4 0 y rfl;cases e6
     have hz:R.n*R.es=0:=by rw[← l1,hx];rfl
     rw[hx];exact⟨.inl ⟨e',hk⟩,fun _=>rfl,by simp[Builtin.firstCells],by simp[Builtin.firstCells],by simp[hz],fun _ hh=>by cases hh⟩
    | some ad=>
     refine Src.ofSlice w hk ad R.n c R.xs l1 (fun j y hj=>?_) g2.one;obtain⟨r,o,e6,e7⟩:=e4 j y hj;cases e6;rw[Addr.add_mid];exact e7
  ·cases h
 | lq b es' k l=>
  simp only[qch] at h;split at h
  ·rename_i R hR;cases hb:(Nat.beq R.es es&&Nat.beq es' es)
   ·rw[hb] at h;cases h
   ·rw[hb,cond_true] at h;simp only[Option.some.injEq,Prod.mk.injEq] at h;obtain⟨rfl,rfl⟩:=h;simp only[Bool.and_eq_true] at hb;obtain⟨u,g1,g2⟩:=H.rows _ _ _ _ _ _ (qaO hR);obtain⟨a0,n,c0,a',c',k1,k2,k3,rfl,k5⟩:=hv;rw[g1] at k1;cases k1;obtain⟨l1,a2,c2,e3,e5,e4⟩:=g2.rd;cases e3;have h1:=Nat.eq_of_beq_eq_true hb.1;have h2:=Nat.eq_of_beq_eq_true hb.2;subst h2;subst h1
    have hlen:((R.xs.drop (k*R.es)).take (l*R.es)).length=l*R.es:=by
     rw[List.length_take,List.length_drop,l1]
     have:k*R.es+l*R.es≤R.n*R.es:=by rw[← Nat.add_mul];exact Nat.mul_le_mul_right _ k2
     omega
    have hone:∀ v∈(R.xs.drop (k*R.es)).take (l*R.es),v.oneCell'=true:=fun v hv=>g2.one v (List.mem_of_mem_drop (List.mem_of_mem_take hv))
    by_cases hl:0<l
    ·obtain⟨r,o,e6,e7⟩:=k5 hl;subst e7;refine Src.ofSlice w hk _ l c' _ hlen (fun j y hj=>?_) hone;rw[List.getElem?_take] at hj;split at hj
     ·rw[List.getElem?_drop] at hj;obtain⟨r',o',e8,e9⟩:=e4 _ y hj;rw[e6] at e8;cases e8;rw[Addr.add_mid,Nat.add_assoc];exact e9
     ·cases hj
    ·have hl0:l=0:=by omega
     subst hl0
     have hn:(R.xs.drop (k*R.es)).take (0*R.es)=[]:=by simp
     rw[hn]
     cases a' with
     | none=>exact Src.ofNil w hk c'
     | some ad=>exact Src.ofSlice w hk ad 0 c' [] (by simp) (fun j y hj=>by simp at hj) (fun _ hh=>by cases hh)
  ·cases h
 | ps b q l c=>
  simp only[qch] at h;split at h
  ·rename_i ys' hys;simp only[Option.some.injEq,Prod.mk.injEq] at h;obtain⟨rfl,rfl⟩:=h;obtain⟨r,hr,rfl⟩:=hv;refine Src.ofSlice w hk _ _ c _ (qb6 hys).1 (fun j y hj=>?_) (fun y hy=>?_)
   ·rw[Addr.add_mid];exact H.range hr hys j y hj
   ·obtain⟨j,hj,rfl⟩:=List.getElem_of_mem hy;obtain⟨r',u,_,h2,h3,_⟩:=H.cells _ _ _ ((qb6 hys).2 j _ (List.getElem?_eq_getElem hj)) rfl;rw[show u=_ from h2] at h3;exact h3
  ·cases h
 | pv y=>
  simp only[qch] at h;cases hb:qhU y
  ·rw[hb] at h;cases h
  ·rw[hb,cond_true] at h;simp only[Option.some.injEq,Prod.mk.injEq] at h;obtain⟨rfl,rfl⟩:=h;obtain⟨a,c,e⟩:=qig hb;rw[show v=_ from hv,e]
   cases a with
   | none=>exact Src.ofNil w hk c
   | some ad=>exact Src.ofSlice w hk ad 0 c [] (by simp) (fun j y hj=>by simp at hj) (fun _ hh=>by cases hh)
 | _=>simp[qch] at h
theorem qii {es m:Nat} {s:SV} {ys:List Value} {v:Value} (h:qch st es s=some (m,ys)) (H:HRel W0 lo β st.hp w) (hv:s.is β v):ys.length=m*es∧(∀ y∈ys,y.oneCell'=true)∧∃ a c,v=.slice a m c∧∀ j y,ys[j]?=some y→∃ ad,a=some ad∧w.cell? (ad.add j)=some y:=by
 cases s with
 | ls b l=>
  simp only[qch] at h;split at h
  ·rename_i R hR;cases hb:Nat.beq R.es es
   ·rw[hb] at h;cases h
   ·rw[hb,cond_true] at h;simp only[Option.some.injEq,Prod.mk.injEq] at h;obtain⟨rfl,rfl⟩:=h;obtain⟨u,g1,g2⟩:=H.rows _ _ _ _ _ _ (qaO hR);obtain⟨k1,a,c,rfl⟩:=hv;rw[g1] at k1;cases k1;obtain⟨l1,a',c',e3,e5,e4⟩:=g2.rd;cases e3;have:=Nat.eq_of_beq_eq_true hb;subst this;refine⟨l1,g2.one,a,c,rfl,fun j y hj=>?_⟩;obtain⟨r,o,e6,e7⟩:=e4 j y hj;subst e6;exact⟨_,rfl,by rw[Addr.add_mid];exact e7⟩
  ·cases h
 | lq b es' k l=>
  simp only[qch] at h;split at h
  ·rename_i R hR;cases hb:(Nat.beq R.es es&&Nat.beq es' es)
   ·rw[hb] at h;cases h
   ·rw[hb,cond_true] at h;simp only[Option.some.injEq,Prod.mk.injEq] at h;obtain⟨rfl,rfl⟩:=h;simp only[Bool.and_eq_true] at hb;obtain⟨u,g1,g2⟩:=H.rows _ _ _ _ _ _ (qaO hR);obtain⟨a0,n,c0,a',c',k1,k2,k3,rfl,k5⟩:=hv;rw[g1] at k1;cases k1;obtain⟨l1,a2,c2,e3,e5,e4⟩:=g2.rd;cases e3;have h1:=Nat.eq_of_beq_eq_true hb.1;have h2:=Nat.eq_of_beq_eq_true hb.2;subst h2;subst h1
    have hlen:((R.xs.drop (k*R.es)).take (l*R.es)).length=l*R.es:=by
     rw[List.length_take,List.length_drop,l1]
     have:k*R.es+l*R.es≤R.n*R.es:=by rw[← Nat.add_mul];exact Nat.mul_le_mul_right _ k2
     omega
    refine⟨hlen,fun v hv=>g2.one v (List.mem_of_mem_drop (List.mem_of_mem_take hv)),a',c',rfl,fun j y hj=>?_⟩
    have hl:0<l:=by
     rcases Nat.eq_zero_or_pos l with h0 | h0
     ·subst h0;simp at hj
     ·exact h0
    obtain⟨r,o,e6,e7⟩:=k5 hl;subst e7;rw[List.getElem?_take] at hj;split at hj
    ·rw[List.getElem?_drop] at hj;obtain⟨r',o',e8,e9⟩:=e4 _ y hj;rw[e6] at e8;cases e8;exact⟨_,rfl,by rw[Addr.add_mid,Nat.add_assoc];exact e9⟩
    ·cases hj
  ·cases h
 | ps b q l c=>
  simp only[qch] at h;split at h
  ·rename_i ys' hys;simp only[Option.some.injEq,Prod.mk.injEq] at h;obtain⟨rfl,rfl⟩:=h;obtain⟨r,hr,rfl⟩:=hv;refine⟨(qb6 hys).1,fun y hy=>?_,_,_,rfl,fun j y hj=>⟨_,rfl,?_⟩⟩
   ·obtain⟨j,hj,rfl⟩:=List.getElem_of_mem hy;obtain⟨r',u,_,h2,h3,_⟩:=H.cells _ _ _ ((qb6 hys).2 j _ (List.getElem?_eq_getElem hj)) rfl;rw[show u=_ from h2] at h3;exact h3
   ·rw[Addr.add_mid];exact H.range hr hys j y hj
  ·cases h
 | pv y=>
  simp only[qch] at h;cases hb:qhU y
  ·rw[hb] at h;cases h
  ·rw[hb,cond_true] at h;simp only[Option.some.injEq,Prod.mk.injEq] at h;obtain⟨rfl,rfl⟩:=h;obtain⟨a,c,e⟩:=qig hb;rw[show v=_ from hv,e];exact⟨by simp,(fun _ hh=>by cases hh),a,c,rfl,(fun j y hj=>by simp at hj)⟩
 | _=>simp[qch] at h
theorem qtL {o:Oper} {cl:Call} {x y:Operand} {t t':TypeId} {c:Ch} {out:Out} {q:List Prop} (ho:o.op=.call cl) (hc:cl.callee=.builtin .copy) (ha:cl.args=#[x,y]) (hts:cl.argTypes=#[t,t']) (h:qv2 P st t t' (st.ev x) (st.ev y) c=some (out,q)) (hq:qba q) (H:HRel W0 lo β st.hp w)
 (kx:(st.ev x).is β (ρ x)) (ky:(st.ev y).is β (ρ y)):qbK P W0 lo β w (execOp ρ o) out:=by
 unfold qv2 at h;split at h
 ·rename_i e e' ys hu hu';split at h
  ·rename_i i hi;split at h
   ·rename_i b k len m src hp hn;split at h
    ·rename_i R hR;simp only[Option.some.injEq,Prod.mk.injEq] at h;obtain⟨rfl,rfl⟩:=h;obtain⟨q1,q2,q3,_⟩:=hq;obtain⟨n1,n2,sa,sc,n3,n4⟩:=qii hn H ky;obtain⟨u,g1,g2⟩:=H.rows _ _ _ _ _ _ (qaO hR);obtain⟨a,N,c1,a',c',e1,e2,e3,e4,e5⟩:=qdE hp H kx;have hlt:0<len:=Nat.lt_of_lt_of_le q2 (Nat.min_le_right m len);obtain⟨r,o',rfl,rfl⟩:=e5 hlt;rw[g1] at e1;simp only[Option.some.injEq] at e1
     have hone:∀ v∈src.take (Nat.min m len*i.size),v.oneCell'=true:=fun v hv=>n2 v (List.mem_of_mem_take hv)
     intro hlo;obtain⟨w',f1,f2,f3⟩:=qkc (P:=P) (g2.own hlo) e1 q3 hone;refine⟨u,w',g1,Or.inr ?_,f2,?_,?_⟩
     ·have hlen:(src.take (Nat.min m len*i.size)).length=Nat.min m len*i.size:=by
       rw[List.length_take,n1];have:Nat.min m len*i.size≤m*i.size:=Nat.mul_le_mul_right _ (Nat.min_le_left m len);omega
      have hfc:(Builtin.firstCells i.size (Nat.min m len) (.slice sa m sc)).run P w=.ok (src.take (Nat.min m len*i.size)).toArray w:=by
       cases sa with
       | none=>
        have hx:src.take (Nat.min m len*i.size)=[]:=by
         cases hxs:src.take (Nat.min m len*i.size) with
         | nil=>rfl
         | cons y0 r0=>
          have h0:(src.take (Nat.min m len*i.size))[0]?=some y0:=by rw[hxs];rfl
          rw[List.getElem?_take] at h0;split at h0
          ·obtain⟨_,e6,_⟩:=n4 0 y0 h0;cases e6
          ·cases h0
        rw[hx];exact run_firstCells_none w i.size (Nat.min m len) m sc
       | some ad=>
        refine run_firstCells_some w i.size _ ad m sc _ hlen (fun j v hj=>?_);rw[List.getElem?_take] at hj;split at hj
        ·obtain⟨_,e6,e7⟩:=n4 j v hj;cases e6;exact e7
        ·cases hj
      have hL:(Builtin.lenOf (.slice sa m sc)).run P w=.ok m w:=rfl;simp only[execOp,ho,resolve,hc,ha,hts,Sem.run_bind,Sem.run_pure,Result.andThen_ok,invoke,builtin];simp[Builtin.copy_,run_underlying hu,e4,n3,hL,sizeOf,typeInfo,hi,hfc,f1]
     ·subst q1;exact f3
     ·subst q1;exact qhG g2.one hone
    ·cases h
   ·cases h
  ·cases h
 ·cases h
theorem qxJ {o:Oper} {cl:Call} {x y:Operand} {t t':TypeId} {out:Out} {q:List Prop} (ho:o.op=.call cl) (hc:cl.callee=.builtin .append) (ha:cl.args=#[x,y]) (hts:cl.argTypes=#[t,t']) (h:qGH P st t t' (st.ev x) (st.ev y)=some (out,q)) (hq:qba q) (H:HRel W0 lo β st.hp w)
 (kx:(st.ev x).is β (ρ x)) (ky:(st.ev y).is β (ρ y)):qbK P W0 lo β w (execOp ρ o) out:=by
 unfold qGH at h;split at h
 ·rename_i e e' hu hu';split at h
  ·rename_i i hi;split at h
   ·rename_i z hz;cases hb:(Nat.beq z.cells.size i.size&&!Nat.beq i.size 0&&Nat.ble i.bytes 100000000)
    ·rw[hb] at h;cases h
    ·rw[hb,cond_true] at h;simp only[Bool.and_eq_true,Bool.not_eq_true'] at hb;split at h
     ·rename_i old n xs m ys hbase hnews;simp only[Option.some.injEq,Prod.mk.injEq] at h;obtain⟨rfl,rfl⟩:=h;have hs:=qlI (P:=P) (tx:=t') hnews H ky hu';intro hlo
      have hown:∃ v,ρ x=v∧w.ownsRow W0.heap.size e i.size v n xs∧(∀ y∈xs,y.oneCell'=true)∧(v.ownBlock=none∨∃ b u,old=some b∧β.g b=some u∧v.ownBlock=u.ownBlock):=by
       cases hx:st.ev x with
       | ls b l=>
        rw[hx] at hbase kx;simp only[qkF] at hbase;split at hbase
        ·rename_i R hR;cases hb2:(Nat.beq R.e e&&Nat.beq R.es i.size)
         ·rw[hb2] at hbase;cases hbase
         ·rw[hb2,cond_true] at hbase;simp only[Option.some.injEq,Prod.mk.injEq] at hbase;obtain⟨rfl,rfl,rfl⟩:=hbase;simp only[Bool.and_eq_true] at hb2;obtain⟨u,g1,g2⟩:=H.rows _ _ _ _ _ _ (qaO hR);obtain⟨k1,a,c,k2⟩:=kx;rw[g1] at k1;cases k1;have f1:=Nat.eq_of_beq_eq_true hb2.1;have f2:=Nat.eq_of_beq_eq_true hb2.2;have g3:=g2.own (hlo b rfl);rw[f1,f2] at g3;obtain⟨a',c',e7⟩:=qpx g3;rw[k2] at e7;cases e7;exact⟨_,rfl,g3,g2.one,Or.inr ⟨b,_,rfl,g1,rfl⟩⟩
        ·cases hbase
       | pv v=>
        rw[hx] at hbase kx;simp only[qkF] at hbase;cases hb3:qcS v
        ·rw[hb3] at hbase;cases hbase
        ·rw[hb3,cond_true] at hbase;simp only[Option.some.injEq,Prod.mk.injEq] at hbase;obtain⟨rfl,rfl,rfl⟩:=hbase;have hv:=qcY hb3;subst hv;exact⟨_,kx,World.ownsRow_nil w _ e i.size,fun _ hh=>(by cases hh),Or.inl rfl⟩
       | _=>rw[hx] at hbase;simp[qkF] at hbase
      obtain⟨v,hv,o1,o2,o3⟩:=hown;obtain⟨u,w',row,r1,r2,r3,r4,r5,r6⟩:=qyD (ty:=o.type) hu hi hz (Nat.eq_of_beq_eq_true hb.1.1) o1 H.gr.size hs (Nat.le_of_ble_eq_true hb.2) hq.1;refine⟨u,w',row,?_,r2,r3,?_,r5,?_,r6⟩
      ·simp only[execOp,ho,resolve,hc,ha,hts,Sem.run_bind,Sem.run_pure,Result.andThen_ok,invoke,builtin];simp[hv,r1]
      ·rcases r4 with rfl | rfl
       ·exact Or.inl rfl
       ·rcases o3 with e3 | ⟨b,u',f1,f2,f3⟩
        ·exact Or.inl e3
        ·exact Or.inr ⟨b,u',f1,f2,f3⟩
      ·intro y hy
       rcases List.mem_append.1 hy with hy | hy
       ·exact o2 y hy
       ·exact hs.one y hy
     ·cases h
   ·cases h
  ·cases h
 ·cases h
theorem qgY {z:List Value} (h:∀ v∈z,v.oneCell'=true):∀ n,∀ v∈qdR z n,v.oneCell'=true
 | 0,v,hv=>by cases hv
 | n+1,v,hv=>by
  rcases List.mem_append.1 hv with hv | hv
  ·exact h v hv
  ·exact qgY h n v hv
theorem qlk {s:SV} {v:Value} {i:Int} (hi:intOf s=some i) (hs:s.is β v):∃ k,v=.int k i:=by
 unfold intOf at hi;split at hi
 ·rename_i k j;cases hi;exact⟨k,hs⟩
 ·cases hi
theorem qvI {o:Oper} {cl:Call} {x y:Operand} {t t':TypeId} {out:Out} {q:List Prop} (ho:o.op=.call cl) (hc:cl.callee=.builtin .append) (ha:cl.args=#[x,y]) (hts:cl.argTypes=#[t,t']) (h:qHj P t t' (st.ev x) (st.ev y)=some (out,q)) (hq:qba q) (H:HRel W0 lo β st.hp w)
 (kx:(st.ev x).is β (ρ x)) (ky:(st.ev y).is β (ρ y)):qbK P W0 lo β w (execOp ρ o) out:=by
 unfold qHj at h;split at h
 ·rename_i e _ v l hu hu' hxv hl;rw[hxv] at kx;obtain⟨kk,hky⟩:=qlk hl ky;split at h
  ·rename_i i hi;split at h
   ·rename_i z hz;cases hb:(qcS v&&Nat.beq z.cells.size i.size&&!Nat.beq i.size 0&&Nat.ble i.bytes 100000000&&z.cells.toList.all Value.oneCell')
    ·rw[hb] at h;cases h
    ·rw[hb,cond_true] at h;simp only[Bool.and_eq_true,Bool.not_eq_true'] at hb;simp only[Option.some.injEq,Prod.mk.injEq] at h;obtain⟨rfl,rfl⟩:=h;have hv:=qcY hb.1.1.1.1;subst hv;intro _;obtain⟨u,w',r1,r2,r3,r4,r5⟩:=qqg (P:=P) (w:=w) (ty:=o.type) (kx:=kk) hu hu' hi hz (Nat.eq_of_beq_eq_true hb.1.1.1.2) H.gr.size (Nat.le_of_ble_eq_true hb.1.2) hq.1 hq.2.1;refine⟨u,w',none,?_,r2,r3,Or.inl rfl,r4,qgY (fun v hv=>List.all_eq_true.1 hb.2 v hv) _,fun k hk=>Or.inr (r5 k hk)⟩;simp only[execOp,ho,resolve,hc,ha,hts,Sem.run_bind,Sem.run_pure,Result.andThen_ok,invoke,builtin];simp[show ρ x=_ from kx,hky,r1]
   ·cases h
  ·cases h
 ·cases h
theorem qvG {s:SV} {b n:Nat} (h:qEY s=some (b,n)):s=.ls b n:=by
 unfold qEY at h;split at h
 ·cases h;rfl
 ·cases h
theorem qoD {o:Oper} {t:TypeId} {x h0:Operand} {b n:Nat} {out:Out} {q:List Prop} (ho:o.op=.slice t x none (some h0) none) (hx:st.ev x=.ls b n) (h:qnS P st t b n (st.ev h0)=some (out,q)) (hq:qba q) (H:HRel W0 lo β st.hp w) (kx:(st.ev x).is β (ρ x)) (kh:(st.ev h0).is β (ρ h0)) :
 qbK P W0 lo β w (execOp ρ o) out:=by
 unfold qnS at h;split at h
 ·rename_i e hu;split at h
  ·rename_i inf R i hi hR hih;cases hb:Nat.beq R.es inf.size
   ·rw[hb] at h;cases h
   ·rw[hb,cond_true] at h;simp only[Option.some.injEq,Prod.mk.injEq] at h;obtain⟨rfl,rfl⟩:=h;obtain⟨q1,q2,_⟩:=hq;obtain⟨kk,hkh⟩:=qlk hih kh;rw[hx] at kx;obtain⟨u,g1,g2⟩:=H.rows _ _ _ _ _ _ (qaO hR);obtain⟨k1,a,c,k2⟩:=kx;rw[g1] at k1;cases k1;have hes:=Nat.eq_of_beq_eq_true hb;intro hlo;have g3:=g2.own (hlo b rfl);obtain⟨a',c',e7⟩:=qpx g3;rw[k2] at e7;cases e7;rw[k2] at g3;obtain⟨t1,t2⟩:=qoB g3 q2
    have hlen:c≥R.n:=by
     obtain⟨_,a2,c2,e3,e5,_⟩:=g2.rd;rw[k2] at e3;cases e3;exact e5
    refine⟨.slice (if c=0 then a else a.map (·.add (0*R.es))) i.toNat c,w,(ρ x).ownBlock,?_,⟨_,_,rfl⟩,Upd.refl w _,Or.inr ⟨b,_,rfl,g1,rfl⟩,t1,fun v hv=>g2.one v (List.mem_of_mem_take hv),fun k hk=>Or.inl (by rw[k2];exact t2 k hk)⟩;simp only[execOp,ho];refine qax ?_;rw[k2];have b2:=qa0 (P:=P) (w:=w) (y:=c) .sliceAcap hkh q1 (by omega);simp[Instr.sliceAt,run_underlying hu,Instr.slice,Instr.sliceBounds,qa5 hi w,b2]
    try (by_cases hci:c=0<;>simp[hci])
  ·cases h
 ·cases h
theorem qqD {o:Oper} {t:TypeId} {x y:Operand} {out:Out} {q:List Prop} (ho:o.op=.makeSlice t x y) (h:qxL P t (st.ev x) (st.ev y)=some (out,q)) (hq:qba q) (H:HRel W0 lo β st.hp w) (kx:(st.ev x).is β (ρ x)) (ky:(st.ev y).is β (ρ y)):qbK P W0 lo β w (execOp ρ o) out:=by
 have key:∀ {s:SV} {v:Value} {i:Int},intOf s=some i→s.is β v→∃ k,v=.int k i:=by
  intro s v i hi hs;unfold intOf at hi;split at hi
  ·rename_i k j;cases hi;exact⟨k,hs⟩
  ·cases hi
 unfold qxL at h;split at h
 ·rename_i e l c hu hl hc;obtain⟨k1,e1⟩:=key hl kx;obtain⟨k2,e2⟩:=key hc ky;split at h
  ·rename_i i hi;split at h
   ·rename_i z hz;cases hb:(Nat.beq z.cells.size i.size&&!Nat.beq i.size 0&&Nat.ble i.bytes 100000000&&z.cells.toList.all Value.oneCell')
    ·rw[hb] at h;cases h
    ·rw[hb,cond_true] at h;simp only[Bool.and_eq_true,Bool.not_eq_true'] at hb;simp only[Option.some.injEq,Prod.mk.injEq] at h;obtain⟨rfl,rfl⟩:=h;obtain⟨q1,q2,q3,_⟩:=hq;subst q2;intro _;obtain⟨r1,r2⟩:=qtp (P:=P) (w:=w) hu hi hz (Nat.eq_of_beq_eq_true hb.1.1.1) H.gr.size (Nat.le_of_ble_eq_true hb.1.2) (kl:=k1) (kc:=k2) q1 q3;refine⟨_,_,none,?_,⟨_,_,rfl⟩,Upd.alloc w _ e none,Or.inl rfl,r2,qgY (fun v hv=>List.all_eq_true.1 hb.2 v hv) _,fun k hk=>?_⟩
     ·simp only[execOp,ho];refine qax ?_;rw[e1,e2];exact r1
     ·simp[Value.ownBlock] at hk;exact Or.inr (Nat.le_of_eq hk)
   ·cases h
  ·cases h
 ·cases h
theorem qp0 {o:Oper} {t:TypeId} {parts:Array (Nat×Operand)} {out:Out} {q:List Prop} (ho:o.op=.build t parts) (h:qn5 P t (parts.toList.map fun p=>(p.1,st.ev p.2))=some (out,q)) (hx:∀ x∈o.op.operands,(st.ev x).is β (ρ x)):qbK P W0 lo β w (execOp ρ o) out:=by
 have hp:=qdy (β:=β) (st:=st) (ρ:=ρ) (parts:=parts.toList) fun x hm=>hx x (by simp only[ho,Op.operands];simpa using hm)
 unfold qn5 at h;split at h
 ·rename_i fs i hu hi;split at h
  ·rename_i z pl hz hpl;split at h
   ·rename_i l hl;simp only[Option.some.injEq,Prod.mk.injEq] at h;obtain⟨rfl,rfl⟩:=h;obtain⟨us,f1,f2,f3⟩:=qjx (place':=fun j=>pl.toArray[j]?) (fun j=>by simp) hl hp (S0.isl_v z.cells.toList);refine⟨.agg us.toArray,⟨us,f2,rfl⟩,?_⟩;have hpr:=qgV (P:=P) w hpl;simp only[execOp,ho];refine qax ?_
    have hm:(parts.map fun (p:Nat×Operand)=>(p.1,ρ p.2)).toList=parts.toList.map fun p=>(p.1,ρ p.2):=by simp
    simp only[Instr.build,zeroValue,Sem.run_bind,run_typeInfo w hi,hz,Result.andThen_ok,run_underlying hu,Array.mapM_eq_mapM_toList,Sem.run_map,hpr,Sem.run_pure,hm];simp only[Array.toArray_toList] at f1;rw[f1];rfl
   ·cases h
  ·cases h
 ·cases h
theorem qm1 {o:Oper} {x:Operand} {j:Nat} {s:SV} (ho:o.op=.extract x j) (h:qhs (st.ev x) j=some s) (k:(st.ev x).is β (ρ x)):qbK P W0 lo β w (execOp ρ o) (.val s):=by
 unfold qhs at h;split at h
 ·rename_i l he;split at h
  ·rename_i d hd;cases h;rw[he] at k;obtain⟨vs,k1,k2⟩:=k;obtain⟨u,f1,f2⟩:=(S1.isl_get k1).2 _ d hd;refine⟨u,S1.up_is.2 f2,?_⟩;simp only[execOp,ho];refine qax ?_;rw[k2];simp[Instr.extract,f1]
  ·cases h
 ·cases h
theorem qrx {o:Oper} {t:TypeId} {x:Operand} {k:Nat} {s:SV} (ho:o.op=.field t x k) (h:qp7 P t k (st.ev x)=some s) (kx:(st.ev x).is β (ρ x)):qbK P W0 lo β w (execOp ρ o) (.val s):=by
 unfold qp7 at h;split at h
 ·rename_i l he;split at h
  ·rename_i fs hu;split at h
   ·rename_i fd hf;split at h
    ·rename_i e hs;split at h
     ·rename_i d hd;cases h;rw[he] at kx;obtain⟨vs,k1,k2⟩:=kx;obtain⟨u,f1,f2⟩:=(S0.isl_get k1).2 _ d hd;refine⟨u,S0.up_is.2 f2,?_⟩;simp only[execOp,ho];refine qax ?_;rw[k2]
      have hA:(Go.isAgg fd.type).run P w=.ok false w:=by simp[Go.isAgg,run_underlying hs]
      simp[Instr.field,run_underlying hu,hf,Go.asAgg,Go.part,hA,f1]
     ·cases h
    ·cases h
   ·cases h
  ·cases h
 ·cases h
theorem qlY {o:Oper} {t:TypeId} {len:Nat} {parts:Array (Nat×Operand)} {out:Out} {q:List Prop} (ho:o.op=.buildSlice t len parts) (h:qjK P t len (parts.toList.map fun p=>(p.1,st.ev p.2))=some (out,q)) (H:HRel W0 lo β st.hp w) (hx:∀ x∈o.op.operands,(st.ev x).is β (ρ x)):qbK P W0 lo β w (execOp ρ o) out:=by
 have hp:=qdy (β:=β) (st:=st) (ρ:=ρ) (parts:=parts.toList) fun x hm=>hx x (by simp only[ho,Op.operands];simpa using hm)
 have hm:(parts.map fun (p:Nat×Operand)=>(p.1,ρ p.2)).toList=parts.toList.map fun p=>(p.1,ρ p.2):=by simp
 unfold qjK at h;split at h
 ·rename_i e hu;split at h
  ·rename_i i hi;split at h
   ·rename_i z hz;cases hb:Nat.beq (len*i.size) 0
    ·rw[hb,cond_false] at h
     have hne:¬ len*i.size=0:=fun e0=>by rw[e0] at hb;cases hb
     cases hb1:Nat.ble (len*i.size) 16777216
     ·rw[hb1] at h;cases h
     ·rw[hb1,cond_true] at h
      have b3:¬ len*i.size>16777216:=by have:=Nat.le_of_ble_eq_true hb1;omega
      split at h
      ·rename_i cs hcs;cases hb4:(cs.map S0.up).all qjj
       ·rw[hb4] at h;cases h
       ·rw[hb4,cond_true] at h;simp only[Option.some.injEq,Prod.mk.injEq] at h;obtain⟨rfl,rfl⟩:=h;obtain⟨us,f1,f2,f3⟩:=qjx (place':=fun j=>some (j*i.size,i.size)) (fun j=>rfl) hcs hp (S0.isl_v _);simp only[Array.toArray_toList] at f1;refine⟨us,S0.isl_up f2,qds hb4 (S0.isl_up f2),?_⟩;simp only[execOp,ho];refine qax ?_;simp[Instr.buildSlice,run_underlying hu,qa5 hi w,b3,hne,zeroValue,run_typeInfo w hi,hz,f1,newRow,newObj];rfl
      ·cases h
    ·rw[hb,cond_true] at h;have he:=Nat.eq_of_beq_eq_true hb;cases hb2:(Nat.beq len 0&&(parts.toList.map fun p=>(p.1,st.ev p.2)).isEmpty)
     ·rw[hb2] at h;cases h
     ·rw[hb2,cond_true] at h;simp only[Bool.and_eq_true] at hb2;simp only[Option.some.injEq,Prod.mk.injEq] at h;obtain⟨rfl,rfl⟩:=h;have hl:=Nat.eq_of_beq_eq_true hb2.1;subst hl
      have hpe:parts=#[]:=by
       have:=hb2.2;simp at this;exact this
      subst hpe;intro _;refine⟨.slice (some ⟨w.heap.size,0,none⟩) 0 0,w.alloc (.cells #[] e),none,?_,⟨_,_,rfl⟩,Upd.alloc w _ e none,Or.inl rfl,⟨by simp,.inr ⟨w.heap.size,0,#[],rfl,H.gr.size,heap_alloc_new w _,Nat.le_refl _,by simp[maxLen],by simp,by simp⟩⟩,fun _ hh=>(by cases hh),fun k hk=>?_⟩
      ·simp only[execOp,ho];refine qax ?_;simp[Instr.buildSlice,run_underlying hu,qa5 hi w,Instr.fill,newRow,newObj,Array.range_zero'];rfl
      ·simp[Value.ownBlock] at hk;exact Or.inr (Nat.le_of_eq hk)
   ·cases h
  ·cases h
 ·cases h
theorem qvy {o:Oper} {t:TypeId} {len:Nat} {parts:Array (Nat×Operand)} {out:Out} {q:List Prop} (ho:o.op=.buildSlice t len parts) (h:qIe P t len (parts.toList.map fun p=>(p.1,st.ev p.2))=some (out,q)) (H:HRel W0 lo β st.hp w) (hx:∀ x∈o.op.operands,(st.ev x).is β (ρ x)):qbK P W0 lo β w (execOp ρ o) out:=by
 unfold qIe at h;split at h
 ·rename_i e hu;split at h
  ·rename_i i hi;split at h
   ·rename_i z hz;cases hb:(((parts.toList.map fun p=>(p.1,st.ev p.2)).all fun p=>p.2.isV)&&Nat.ble (len*i.size) 16777216&&!Nat.beq (len*i.size) 0)
    ·rw[hb] at h;cases h
    ·rw[hb,cond_true] at h;split at h
     ·rename_i cs hcs;cases ha:(cs.toList.all Value.oneCell'&&Nat.beq cs.size (len*i.size)&&Nat.ble len 1000000)
      ·rw[ha] at h;cases h
      ·rw[ha,cond_true] at h;simp only[Option.some.injEq,Prod.mk.injEq] at h;obtain⟨rfl,rfl⟩:=h;simp only[Bool.and_eq_true,Bool.not_eq_true'] at hb ha
       have hv:∀ p∈parts.toList,(st.ev p.2).isV=true:=fun p hp=>List.all_eq_true.1 hb.1.1 (p.1,st.ev p.2) (List.mem_map.2 ⟨p,hp,rfl⟩)
       rw[List.map_map] at hcs
       have hp:(parts.toList.map fun p=>(p.1,ρ p.2))=parts.toList.map fun p=>(p.1,(st.ev p.2).raw):=by
        refine List.map_congr_left fun p hp=>?_
        have k:=hx p.2 (by simp only[ho,Op.operands];simp;exact⟨p.1,by simpa using hp⟩);have kv:=hv p hp
        show (p.1,ρ p.2)=_
        rw[qox kv k]
       have hcs':Instr.fill (fun j=>some (j*i.size,i.size)) ((Array.range (len*i.size)).map (z.cells[· % z.cells.size]!)) (parts.toList.map fun p=>(p.1,ρ p.2))=some cs:=by rw[hp];exact hcs
       have b1:len*i.size≤16777216:=Nat.le_of_ble_eq_true hb.1.2
       have b2:¬ len*i.size=0:=fun e0=>by
        have:=hb.2;rw[e0] at this;cases this
       have b3:¬ len*i.size>16777216:=by omega
       have b4:cs.size=len*i.size:=Nat.eq_of_beq_eq_true ha.1.2;have b5:len≤1000000:=Nat.le_of_ble_eq_true ha.2;intro _;refine⟨.slice (some ⟨w.heap.size,0,none⟩) len len,w.alloc (.cells cs e),none,?_,⟨_,_,rfl⟩,Upd.alloc w _ e none,Or.inl rfl,⟨by rw[Array.length_toList];exact b4,.inr ⟨w.heap.size,len,cs,rfl,H.gr.size,heap_alloc_new w _,Nat.le_refl _,by simp only[maxLen];omega,b4,by rw[← b4,← Array.length_toList,List.take_length]⟩⟩,fun v hv=>List.all_eq_true.1 ha.1.1 v hv,fun k hk=>?_⟩
       ·simp only[execOp,ho];refine qax ?_;simp[Instr.buildSlice,run_underlying hu,sizeOf,run_typeInfo w hi,b3,b2,zeroValue,hz,hcs',newRow,newObj];rfl
       ·simp[Value.ownBlock] at hk;exact Or.inr (Nat.le_of_eq hk)
     ·cases h
   ·cases h
  ·cases h
 ·cases h
theorem qpM {o:Oper} {op:BinOp} {t t':TypeId} {x y:Operand} {c:Ch} {out:Out} {q:List Prop} (ho:o.op=.binOp op t x y t') (h:qoK P st op t (st.ev x) (st.ev y) c=some (out,q)) (hq:qba q) (H:HRel W0 lo β st.hp w) (kx:(st.ev x).is β (ρ x)) (ky:(st.ev y).is β (ρ y)):qbK P W0 lo β w (execOp ρ o) out:=by
 unfold qoK at h;split at h
 ·rename_i k n v e el hxk hyv hu;split at h
  ·rename_i R hR;cases hb:(qcS v&&!Nat.beq R.es 0&&qFM op e)
   ·rw[hb] at h;cases h
   ·rw[hb,cond_true] at h;simp only[Bool.and_eq_true,Bool.not_eq_true'] at hb;simp only[Option.some.injEq,Prod.mk.injEq] at h;obtain⟨rfl,rfl⟩:=h;have hv:=qcY hb.1.1;rw[hxk] at kx;rw[hyv] at ky;subst hv;obtain⟨u,g1,g2⟩:=H.rows _ _ _ _ _ _ (qaO hR);obtain⟨k1,a,cc,k2⟩:=kx;rw[g1] at k1;cases k1;obtain⟨l1,a',c',e3,e5,e4⟩:=g2.rd;rw[k2] at e3;cases e3
    have hes:¬ R.es=0:=fun e0=>by have:=hb.1.2;rw[e0] at this;cases this
    have hpos:0<R.xs.length:=by rw[l1];exact Nat.mul_pos hq.1 (by omega)
    obtain⟨r,o',e6,_⟩:=e4 0 _ (List.getElem?_eq_getElem hpos);refine⟨_,rfl,?_⟩;simp only[execOp,ho];refine qax ?_;rw[k2,e6,show ρ y=_ from ky]
    have hg:∀ op,(eqGuard op t x y (.slice (some ⟨r,o',none⟩) R.n cc) (.slice none 0 0)).run P w=.ok () w:=by
     intro op;unfold eqGuard
     cases op<;>simp
    have heq:(Op.equal t (.slice (some ⟨r,o',none⟩) R.n cc) (.slice none 0 0)).run P w=.ok false w:=by
     unfold Op.equal;obtain⟨D,hD⟩:∃ D,Op.maxDepth=D+1:=⟨Op.maxDepth-1,by decide⟩;rw[hD,Op.equalIn,Sem.run_bind,run_underlying hu,Result.andThen_ok];rfl
    cases op<;>cases e<;>simp[qFM] at hb<;>simp[hg,binOp,heq]
  ·cases h
 ·cases h
theorem qkY:∀ (l:List MapEntry),(l.flatMap fun e=>[e.key,e.val]).length=2*l.length
 | []=>rfl
 | e::r=>by rw[List.flatMap_cons,List.length_append,qkY r];show 2+2*r.length=2*(r.length+1);omega
theorem qrZ {o:Oper} {t:TypeId} {x k:Operand} {ok:Bool} {c:Ch} {out:Out} {q:List Prop} (ho:o.op=.lookup t x k ok) (h:quL P st t (st.ev x) (st.ev k) ok c=some (out,q)) (hq:qba q) (H:HRel W0 lo β st.hp w)
 (hx:(st.ev x).is β (ρ x)) (hk:(st.ev k).is β (ρ k)):qbK P W0 lo β w (execOp ρ o) out:=by
 unfold quL at h;split at h
 ·rename_i b y v h1 h2;rw[h1] at hx;rw[h2] at hk;split at h
  ·rename_i xs hr;simp only[Option.some.injEq,Prod.mk.injEq] at h;obtain⟨rfl,rfl⟩:=h;obtain⟨r,hb,hv⟩:=hx;unfold qeT at hr;split at hr
   ·rename_i xs' hl;simp only[Option.some.injEq] at hr;subst hr;obtain⟨r',h3,h4⟩:=H.maps _ _ _ hl;rw[hb] at h3;cases h3;refine⟨_,rfl,?_⟩;simp only[execOp,ho];refine qax ?_;rw[hv,show ρ k=_ from hk];exact hq.1 w r h4
   ·cases hr
  ·cases h
 ·cases h
theorem qxT {o:Oper} {t:TypeId} {m k v:Operand} {c:Ch} {out:Out} {q:List Prop} (ho:o.op=.mapUpdate t m k v) (h:qGL P st t (st.ev m) (st.ev k) (st.ev v) c=some (out,q)) (hq:qba q) (H:HRel W0 lo β st.hp w)
 (hm:(st.ev m).is β (ρ m)) (hk:(st.ev k).is β (ρ k)) (hv:(st.ev v).is β (ρ v)):qbK P W0 lo β w (execOp ρ o) out:=by
 unfold qGL at h;split at h
 ·rename_i b y z ys h1 h2 h3;rw[h1] at hm;rw[h2] at hk;rw[h3] at hv;split at h
  ·rename_i xs hr;simp only[Option.some.injEq,Prod.mk.injEq] at h;obtain⟨rfl,rfl⟩:=h;obtain⟨r,hb,hu⟩:=hm;unfold qeT at hr;split at hr
   ·rename_i xs' hl;simp only[Option.some.injEq] at hr;subst hr;obtain⟨r',h4,h5⟩:=H.maps _ _ _ hl;rw[hb] at h4;cases h4;obtain⟨en,clock,h6,h7⟩:=hq.1 w r h5;refine⟨r,_,en,clock,hb,h5,?_,h7⟩;simp only[execOp,ho];refine qfe ?_;rw[hu,show ρ k=_ from hk,show ρ v=_ from hv];exact h6
   ·cases hr
  ·cases h
 ·cases h
theorem qsU {o:Oper} {t:TypeId} {r:Option Operand} {out:Out} {q:List Prop} (ho:o.op=.makeMap t r) (h:qvp P st t r=some (out,q)) (hx:∀ x∈o.op.operands,(st.ev x).is β (ρ x)):qbK P W0 lo β w (execOp ρ o) out:=by
 unfold qvp at h;split at h
 ·rename_i k e hu;simp only[Option.some.injEq,Prod.mk.injEq] at h;obtain⟨rfl,rfl⟩:=h
  show (execOp ρ o).run P w=_
  simp only[execOp,ho];refine qax ?_;simp[Instr.makeMap,newObj];rfl
 ·rename_i k e x hu;split at h
  ·rename_i i hi;simp only[Option.some.injEq,Prod.mk.injEq] at h;obtain⟨rfl,rfl⟩:=h;have hv:=hx x (by simp[ho,Op.operands]);unfold intOf at hi;split at hi
   ·rename_i j n hj;rw[hj] at hv
    show (execOp ρ o).run P w=_
    simp only[execOp,ho];refine qax ?_;rw[Option.map_some,show ρ x=_ from hv];simp[Instr.makeMap,run_underlying hu,asInt,newObj];rfl
   ·cases hi
  ·cases h
 ·cases h
theorem qbA {o:Oper} {c:Ch} {out:Out} {q:List Prop} (h:opS P st o c=some (out,q)) (hq:qba q) (H:HRel W0 lo β st.hp w) (hx:∀ x∈o.op.operands,(st.ev x).is β (ρ x)):qbK P W0 lo β w (execOp ρ o) out:=by
 unfold opS at h;split at h
 ·rename_i x ho;simp only[Option.some.injEq,Prod.mk.injEq] at h;obtain⟨rfl,rfl⟩:=h;refine⟨_,hx x (by simp[ho,Op.operands]),?_⟩;simp[execOp,ho]
 ·rename_i x ho;simp only[Option.some.injEq,Prod.mk.injEq] at h;obtain⟨rfl,rfl⟩:=h;refine⟨_,hx x (by simp[ho,Op.operands]),?_⟩;simp[execOp,ho]
 ·
  rename_i t ho;split at h
  ·rename_i i hi;split at h
   ·rename_i z hz;cases ha:z.cells.toList.all Value.oneCell'
    ·rw[ha] at h;cases h
    ·rw[ha,cond_true] at h;simp only[Option.some.injEq,Prod.mk.injEq] at h;obtain⟨rfl,rfl⟩:=h;refine⟨_,SV.isl_v _,fun u hu=>List.all_eq_true.1 ha u hu,?_⟩;simp[execOp,ho,Instr.alloc,zeroValue,run_typeInfo w hi,hz,newVar,newRow,newObj];rfl
   ·cases h
  ·cases h
 ·
  rename_i t x ho;cases ha:(cellsOf (st.ev x)).all qjj
  ·rw[ha] at h;cases h
  ·rw[ha,cond_true] at h;simp only[Option.some.injEq,Prod.mk.injEq] at h;obtain⟨rfl,rfl⟩:=h;have k:=qc5 ha (hx x (by simp[ho,Op.operands]));refine⟨_,k,qds ha k,?_⟩;simp[execOp,ho,Instr.box,newVar,newRow,newObj];rfl
 ·
  rename_i t parts ho
  cases hv:parts.toList.all fun p=>(st.ev p.2).isV
  ·rw[hv,cond_false] at h;exact qp0 ho h hx
  ·rw[hv,cond_true] at h;exact qa9 h hq hx
 ·
  rename_i t x k ho;split at h
  ·rename_i s hs;simp only[Option.some.injEq,Prod.mk.injEq] at h;obtain⟨rfl,rfl⟩:=h;exact qrx ho hs (hx x (by simp[ho,Op.operands]))
  ·exact qa9 h hq hx
 ·
  rename_i x j ho;split at h
  ·rename_i s hs;simp only[Option.some.injEq,Prod.mk.injEq] at h;obtain⟨rfl,rfl⟩:=h;exact qm1 ho hs (hx x (by simp[ho,Op.operands]))
  ·exact qa9 h hq hx
 ·
  rename_i t x lo' hi' mx ho;cases hv:(st.ev x).isV
  ·rw[hv,cond_false] at h;unfold slS at h;cases hw:(isW c&&!qht lo'&&!qht mx)
   ·rw[hw,cond_false] at h;exact qnH ho h hq H hx
   ·rw[hw,cond_true] at h;simp only[Bool.and_eq_true,Bool.not_eq_true'] at hw
    have hl:lo'=none:=by cases lo'<;>first | rfl | cases hw.1.2
    have hm:mx=none:=by cases mx<;>first | rfl | cases hw.2
    subst hl;subst hm;split at h
    ·rename_i b n h0 hls;exact qoD ho (qvG hls) h hq H (hx x (by simp[ho,Op.operands])) (hx h0 (by simp[ho,Op.operands]))
    ·cases h
  ·rw[hv,cond_true] at h;exact qa9 h hq hx
 ·
  rename_i t x y ho;exact qqD ho h hq H (hx x (by simp[ho,Op.operands])) (hx y (by simp[ho,Op.operands]))
 ·
  rename_i t r ho;exact qsU ho h hx
 ·
  rename_i t x k ok ho;exact qrZ ho h hq H (hx x (by simp[ho,Op.operands])) (hx k (by simp[ho,Op.operands]))
 ·
  rename_i t m k v ho;exact qxT ho h hq H (hx m (by simp[ho,Op.operands])) (hx k (by simp[ho,Op.operands])) (hx v (by simp[ho,Op.operands]))
 ·
  rename_i t len parts ho;cases hlw:qJc c
  case true=>rw[hlw,cond_true] at h;exact qvy ho h H hx
  rw[hlw,cond_false] at h;cases hv':((parts.toList.all fun p=>(st.ev p.2).isV)&&!parts.toList.isEmpty)
  ·rw[hv',cond_false] at h;exact qlY ho h H hx
  ·rw[hv',cond_true] at h;have hv:(parts.toList.all fun p=>(st.ev p.2).isV)=true:=(Bool.and_eq_true _ _▸hv').1;split at h
   ·rename_i e hu;split at h
    ·rename_i i hi;split at h
     ·rename_i z hz;cases hb:(Nat.ble (len*i.size) 16777216&&!Nat.beq (len*i.size) 0)
      ·rw[hb] at h;cases h
      ·rw[hb,cond_true] at h;split at h
       ·rename_i cs hcs;cases ha:cs.toList.all Value.oneCell'
        ·rw[ha] at h;cases h
        ·rw[ha,cond_true] at h;simp only[Option.some.injEq,Prod.mk.injEq] at h;obtain⟨rfl,rfl⟩:=h;refine⟨_,SV.isl_v _,fun u hu=>List.all_eq_true.1 ha u hu,?_⟩
         have hp:(parts.toList.map fun p=>(p.1,ρ p.2))=parts.toList.map fun p=>(p.1,(st.ev p.2).raw):=by
          refine List.map_congr_left fun p hp=>?_
          have k:=hx p.2 (by simp only[ho,Op.operands];simp;exact⟨p.1,by simpa using hp⟩);have kv:=List.all_eq_true.1 hv p hp
          show (p.1,ρ p.2)=_
          rw[qox kv k]
         simp only[Bool.and_eq_true,Bool.not_eq_true'] at hb;have b1:len*i.size≤16777216:=Nat.le_of_ble_eq_true hb.1
         have b2:¬ len*i.size=0:=fun e0=>by
          have:=hb.2;rw[e0] at this;cases this
         have b3:¬ len*i.size>16777216:=by omega
         simp only[execOp,ho];refine qax ?_;simp[Instr.buildSlice,run_underlying hu,sizeOf,run_typeInfo w hi,b3,b2,zeroValue,hz,hp,hcs,newRow,newObj];rfl
       ·cases h
     ·cases h
    ·cases h
   ·cases h
 ·
  rename_i t x ho;split at h
  ·rename_i b q hx';have k:=hx x (by simp[ho,Op.operands]);rw[hx'] at k;obtain⟨r,hr,hk⟩:=k;split at h
   ·rename_i d i hu hi;cases hd:d.isRow
    ·rw[hd,cond_false] at h;split at h
     ·rename_i s hs;cases hsr:s.isRow
      case true=>rw[hsr] at h;cases h
      rw[hsr,cond_false] at h;simp only[Option.some.injEq,Prod.mk.injEq] at h;obtain⟨rfl,rfl⟩:=h;obtain⟨r',u,h1,h2,h3,h4,h5⟩:=H.cells _ _ _ hs hsr;rw[hr] at h1;cases h1;refine⟨u,h2,?_⟩;simp only[execOp,ho];refine qax ?_;rw[hk];simp[Instr.loadAt,Instr.sureAddr,qb1 w r q t u d h4 hu hd]
     ·cases h
    ·rw[hd,cond_true] at h;split at h
     ·rename_i s hs;simp only[Option.some.injEq,Prod.mk.injEq] at h;obtain⟨rfl,rfl⟩:=h;obtain⟨us,f1,f2,f3⟩:=H.takeA hr hs;refine⟨_,f1,?_⟩;simp only[execOp,ho];refine qax ?_;rw[hk];exact run_loadAt_mid w r q t us d f3 hu hd (by simp[hi,f2])
     ·cases h
   ·cases h
  ·rename_i b q' hx';have k:=hx x (by simp[ho,Op.operands]);rw[hx'] at k;exact qto ho h hq H k
  ·cases h
 ·
  rename_i t x y ho;split at h
  ·rename_i b q hx';have k:=hx x (by simp[ho,Op.operands]);rw[hx'] at k;obtain⟨r,hr,hk⟩:=k;split at h
   ·rename_i i hi;cases hb:(Nat.beq (cellsOf (st.ev y)).length i.size&&(cellsOf (st.ev y)).all qjj&&qhI st.hp b q i.size)
    ·rw[hb] at h;cases h
    ·rw[hb,cond_true] at h;simp only[Option.some.injEq,Prod.mk.injEq] at h;obtain⟨rfl,rfl⟩:=h;simp only[Bool.and_eq_true] at hb;have ky:=qc5 hb.1.2 (hx y (by simp[ho,Op.operands]));have e1:=Nat.eq_of_beq_eq_true hb.1.1;have e2:=(SV.isl_get ky).1;refine⟨r,_,hr,ky,qds hb.1.2 ky,by rw[← e2,e1];exact H.there hr hb.2,?_⟩;simp only[execOp,ho];refine qfe ?_;rw[hk];simp[Instr.storeAt,Instr.sureAddr,qcR w r q t (ρ y) i.size i (H.there hr hb.2) hi (by simp at e2;omega) rfl (qds hb.1.2 ky)]
   ·cases h
  ·rename_i b q' hx';have k:=hx x (by simp[ho,Op.operands]);rw[hx'] at k;exact qpR ho h hq H k (hx y (by simp[ho,Op.operands]))
  ·cases h
 ·
  rename_i s x f ho;split at h
  ·rename_i b q hx';have k:=hx x (by simp[ho,Op.operands]);rw[hx'] at k;obtain⟨r,hr,hk⟩:=k;split at h
   ·rename_i fs hu;split at h
    ·rename_i fd hf;split at h
     ·rename_i i hi;cases hb:Nat.beq i.size 0
      ·rw[hb,cond_false] at h;simp only[Option.some.injEq,Prod.mk.injEq] at h;obtain⟨rfl,rfl⟩:=h
       have hs:¬ i.size=0:=fun e0=>by rw[e0] at hb;cases hb
       refine⟨_,⟨r,hr,rfl⟩,?_⟩;simp only[execOp,ho];refine qax ?_;rw[hk];simp[Instr.fieldAt,run_underlying hu,hf,Instr.sureAddr,fieldPlace,sizeOf,run_typeInfo w hi,hs,Addr.add_mid]
      ·rw[hb] at h;cases h
     ·cases h
    ·cases h
   ·cases h
  ·rename_i b q hx';have k:=hx x (by simp[ho,Op.operands]);rw[hx'] at k;obtain⟨r,o',n',c',hr,hk⟩:=k;split at h
   ·rename_i fs hu;split at h
    ·rename_i fd hf;split at h
     ·rename_i i hi;cases hb:Nat.beq i.size 0
      ·rw[hb,cond_false] at h;simp only[Option.some.injEq,Prod.mk.injEq] at h;obtain⟨rfl,rfl⟩:=h
       have hs:¬ i.size=0:=fun e0=>by rw[e0] at hb;cases hb
       refine⟨_,⟨r,o',n',c',hr,rfl⟩,?_⟩;simp only[execOp,ho];refine qax ?_;rw[hk];simp[Instr.fieldAt,run_underlying hu,hf,Instr.sureAddr,fieldPlace,sizeOf,run_typeInfo w hi,hs,Addr.add_mid,Nat.add_assoc]
      ·rw[hb] at h;cases h
     ·cases h
    ·cases h
   ·cases h
  ·cases h
 ·
  rename_i t x ix ho;split at h
  ·rename_i kk i hix;have ki:=hx ix (by simp[ho,Op.operands]);have k:=hx x (by simp[ho,Op.operands]);rw[hix] at ki;split at h
   ·rename_i len e b q hu hx';rw[hx'] at k;obtain⟨r,hr,hk⟩:=k;split at h
    ·rename_i inf hi;split at h
     ·rename_i hin;simp only[Option.some.injEq,Prod.mk.injEq] at h;obtain⟨rfl,rfl⟩:=h;refine⟨_,⟨r,hr,rfl⟩,?_⟩;simp only[execOp,ho];refine qax ?_;rw[hk,show ρ ix=_ from ki];simp[Instr.indexAt,asIntOf,run_underlying hu,Instr.sureAddr,sizeOf,run_typeInfo w hi,hin,Addr.add_mid]
     ·cases h
    ·cases h
   ·rename_i e b q len cap hu hx';rw[hx'] at k;obtain⟨r,hr,hk⟩:=k;split at h
    ·rename_i inf hi;split at h
     ·rename_i hin;simp only[Option.some.injEq,Prod.mk.injEq] at h;obtain⟨rfl,rfl⟩:=h;refine⟨_,⟨r,hr,rfl⟩,?_⟩;simp only[execOp,ho];refine qax ?_;rw[hk,show ρ ix=_ from ki];simp[Instr.indexAt,asIntOf,run_underlying hu,sizeOf,run_typeInfo w hi,hin,Addr.add_mid]
     ·cases h
    ·cases h
   ·rename_i e _ hu _;split at h
    ·rename_i inf hi;split at h
     ·rename_i b kk' len hp;simp only[Option.some.injEq,Prod.mk.injEq] at h;obtain⟨rfl,rfl⟩:=h;have hin:=hq.1;obtain⟨a0,n,c0,a',c',e1,e2,e3,e4,e5⟩:=qdE hp H k;obtain⟨r,o',e6,e7⟩:=e5 (by omega);subst e7;subst e6;refine⟨.pointer (some ⟨r,o'+(kk'*inf.size+i.toNat*inf.size),none⟩),⟨r,o',n,c0,e1,rfl⟩,?_⟩;simp only[execOp,ho];refine qax ?_;rw[e4,show ρ ix=_ from ki];simp[Instr.indexAt,asIntOf,run_underlying hu,sizeOf,run_typeInfo w hi,hin,Addr.add_mid,Nat.add_assoc]
     ·cases h
    ·cases h
   ·cases h
  ·cases h
 ·
  rename_i x ho;have k:=hx x (by simp[ho,Op.operands]);split at h
  ·rename_i b q hx';simp only[Option.some.injEq,Prod.mk.injEq] at h;obtain⟨rfl,rfl⟩:=h;rw[hx'] at k;refine⟨_,k,?_⟩;obtain⟨r,hr,hk⟩:=k;simp[execOp,ho,hk]
  ·rename_i b q hx';simp only[Option.some.injEq,Prod.mk.injEq] at h;obtain⟨rfl,rfl⟩:=h;rw[hx'] at k;refine⟨_,k,?_⟩;obtain⟨r,o',n',c',hr,hk⟩:=k;simp[execOp,ho,hk]
  ·rename_i f cap hx';simp only[Option.some.injEq,Prod.mk.injEq] at h;obtain⟨rfl,rfl⟩:=h;rw[hx'] at k;refine⟨_,k,?_⟩;obtain⟨r,hr,hk⟩:=k;simp[execOp,ho,hk]
  ·exact qa9 h hq hx
 ·
  rename_i fn first caps ho;split at h
  ·rename_i f;cases hb:Nat.beq first.size 0
   ·rw[hb] at h;cases h
   ·rw[hb,cond_true] at h;have hz:=Nat.eq_of_beq_eq_true hb;split at h
    ·rename_i l hl;simp only[Option.some.injEq,Prod.mk.injEq] at h;obtain⟨rfl,rfl⟩:=h
     have hfirst:first=#[]:=by simpa using hz
     have hc:SV.isl β (caps.toList.map st.ev) (caps.toList.map ρ):=by
      have hall:∀ x∈caps.toList,(st.ev x).is β (ρ x):=fun x hm=>hx x (by simp[ho,Op.operands];exact Or.inr (by simpa using hm))
      generalize caps.toList=cl at hall
      induction cl with
      | nil=>trivial
      | cons a r ih=>exact⟨hall a (by simp),ih (fun x hm=>hall x (by simp[hm]))⟩
     refine⟨_,⟨_,qa4 hl hc,rfl⟩,?_⟩;subst hfirst;simp[execOp,ho,Instr.makeFunc];rw[← Array.toList_map]
    ·cases h
  ·cases h
 ·
  rename_i op t x y t' ho;split at h
  ·rename_i r hr;simp only[Option.some.injEq] at h;subst h;exact qpM ho hr hq H (hx x (by simp[ho,Op.operands])) (hx y (by simp[ho,Op.operands]))
  ·exact qwv ho h hq hx
 ·
  rename_i cl ho
  have hargs:SV.isl β (cl.args.toList.map st.ev) (cl.args.toList.map ρ):=by
   have hall:∀ x∈cl.args.toList,(st.ev x).is β (ρ x):=fun x hm=>hx x (by simp[ho,Op.operands,Call.operands];exact Or.inr (by simpa using hm))
   generalize cl.args.toList=al at hall
   induction al with
   | nil=>trivial
   | cons a r ih=>exact⟨hall a (by simp),ih (fun x hm=>hall x (by simp[hm]))⟩
  split at h
  ·rename_i f hf;have kf:=hx f (by simp[ho,Op.operands,Call.operands,hf])
   have hcall:∀ g (as:Array Value),qgk P g=true→(callFunc g as).run P w=.ok (.enter g as) w:=by
    intro g as hg;unfold qgk at hg;split at hg
    ·rename_i fn hfn;simp only[Bool.and_eq_true,Bool.not_eq_true'] at hg
     have h1:¬ fn.name="runtime.NumGoroutine":=by simpa using hg.2
     have h2:¬ fn.body=none:=fun e=>by have:=hg.1;rw[e] at this;cases this
     simp[callFunc,hfn,h1,h2]
    ·cases hg
   split at h
   ·rename_i g first cap hev;rw[hev] at kf;cases hb:qgk P g
    ·rw[hb,cond_false] at h;exact qa9 h hq hx
    ·rw[hb,cond_true] at h;simp only[Option.some.injEq,Prod.mk.injEq] at h;obtain⟨rfl,rfl⟩:=h;refine⟨_,SV.isl_append (SV.isl_append (SV.isl_v _) hargs) (SV.isl_v _),?_⟩;simp only[execOp,ho,resolve,hf];rw[show ρ f=_ from kf];simp only[Deferred.ofValue,Sem.run_bind,Sem.run_pure,Result.andThen_ok,invoke,hcall _ _ hb];simp
   ·rename_i g cap hev;rw[hev] at kf;obtain⟨vs,h1,h2⟩:=kf;cases hb:qgk P g
    ·rw[hb] at h;cases h
    ·rw[hb,cond_true] at h;simp only[Option.some.injEq,Prod.mk.injEq] at h;obtain⟨rfl,rfl⟩:=h;refine⟨_,SV.isl_append hargs (S0.isl_up h1),?_⟩;simp only[execOp,ho,resolve,hf];rw[h2];simp only[Deferred.ofValue,Sem.run_bind,Sem.run_pure,Result.andThen_ok,invoke,hcall _ _ hb];simp
   ·cases h
  ·rename_i hlen
   have lens:∀ {s:SV} {t e:TypeId} {len:Nat},cl.args.toList.map st.ev=[s]→cl.argTypes[0]?=some t→P.underlying t=some (.slice e)→(∀ v,s.is β v→∃ a c,v=.slice a len c)→qbK P W0 lo β w (execOp ρ o) (.val (.pv (goInt len))):=by
    intro s t e len hl ht hu hs;rw[hl] at hargs;refine⟨_,rfl,?_⟩
    have hm:cl.args.toList.map ρ=(cl.args.map ρ).toList:=by simp
    rw[hm] at hargs;generalize hA:cl.args.map ρ=A at hargs;obtain⟨l⟩:=A
    match l,hargs with
    | [u],hargs=>
     obtain⟨a,c,hu'⟩:=hs u hargs.1;simp only[execOp,ho,resolve,hlen,hA,Sem.run_bind,Sem.run_pure,Result.andThen_ok,invoke,builtin];simp[Builtin.len_,ht,run_underlying hu,hu']
   split at h
   ·rename_i t b q len cap hl ht;split at h
    ·rename_i e hu;simp only[Option.some.injEq,Prod.mk.injEq] at h;obtain⟨rfl,rfl⟩:=h
     exact lens hl ht hu fun v hv=>by obtain⟨r,_,rfl⟩:=hv;exact⟨_,_,rfl⟩
    ·cases h
   ·rename_i t b len hl ht;split at h
    ·rename_i e hu;simp only[Option.some.injEq,Prod.mk.injEq] at h;obtain⟨rfl,rfl⟩:=h
     exact lens hl ht hu fun v hv=>hv.2
    ·cases h
   ·rename_i t b es kk len hl ht;split at h
    ·rename_i e hu;simp only[Option.some.injEq,Prod.mk.injEq] at h;obtain⟨rfl,rfl⟩:=h
     exact lens hl ht hu fun v hv=>by obtain⟨_,_,_,a',c',_,_,_,rfl,_⟩:=hv;exact⟨_,_,rfl⟩
    ·cases h
   ·rename_i t b hl ht;split at h
    ·rename_i kt e hu;split at h
     ·rename_i xs hr;simp only[Option.some.injEq,Prod.mk.injEq] at h;obtain⟨rfl,rfl⟩:=h;rw[hl] at hargs
      have hm:cl.args.toList.map ρ=(cl.args.map ρ).toList:=by simp
      rw[hm] at hargs;generalize hA:cl.args.map ρ=A at hargs;obtain⟨l⟩:=A
      match l,hargs with
      | [u],hargs=>
       obtain⟨r,hb,hu'⟩:=hargs.1;unfold qeT at hr;split at hr
       ·rename_i xs' hl';simp only[Option.some.injEq] at hr;subst hr;obtain⟨r',h3,en,clock,h4,h5⟩:=H.maps _ _ _ hl';rw[hb] at h3;cases h3
        have hn:xs'.length/2=en.size:=by
         rw[← h5,qkY,Array.length_toList];omega
        rw[hn];refine⟨_,rfl,?_⟩;simp only[execOp,ho,resolve,hlen,hA,Sem.run_bind,Sem.run_pure,Result.andThen_ok,invoke,builtin];simp[Builtin.len_,ht,run_underlying hu,hu',MapKept.run_getObj_map h4,Result.andThen]
       ·cases hr
     ·cases h
    ·cases h
   ·exact qa9 h hq hx
  ·rename_i happ;split at h
   ·rename_i x y t t' hl ht;rw[hl] at hargs
    have hal:∃ x' y',cl.args=#[x',y']∧st.ev x'=x∧st.ev y'=y:=by
     obtain⟨l⟩:∃ l:List Operand,cl.args=l.toArray:=⟨cl.args.toList,by simp⟩;rename_i he;rw[he] at hl
     match l,hl with
     | [a,b],hl=>simp at hl;exact⟨a,b,he,hl.1,hl.2⟩
    obtain⟨x',y',ha,rfl,rfl⟩:=hal
    have hts:cl.argTypes=#[t,t']:=by rw[← Array.toList_inj,ht]
    split at h
    ·exact qvI ho happ ha hts h hq H (hx x' (by simp[ho,Op.operands,Call.operands,ha])) (hx y' (by simp[ho,Op.operands,Call.operands,ha]))
    exact qxJ ho happ ha hts h hq H (hx x' (by simp[ho,Op.operands,Call.operands,ha])) (hx y' (by simp[ho,Op.operands,Call.operands,ha]))
   ·cases h
  ·rename_i hclr;split at h
   ·rename_i x t hl ht
    have hal:∃ x',cl.args=#[x']∧st.ev x'=x:=by
     obtain⟨l⟩:∃ l:List Operand,cl.args=l.toArray:=⟨cl.args.toList,by simp⟩;rename_i he;rw[he] at hl
     match l,hl with
     | [a],hl=>simp at hl;exact⟨a,he,hl⟩
    obtain⟨x',ha,rfl⟩:=hal
    have hts:cl.argTypes=#[t]:=by rw[← Array.toList_inj,ht]
    exact qoH ho hclr ha hts h hq H (hx x' (by simp[ho,Op.operands,Call.operands,ha]))
   ·cases h
  ·rename_i hcpy;split at h
   ·rename_i x y t t' hl ht
    have hal:∃ x' y',cl.args=#[x',y']∧st.ev x'=x∧st.ev y'=y:=by
     obtain⟨l⟩:∃ l:List Operand,cl.args=l.toArray:=⟨cl.args.toList,by simp⟩;rename_i he;rw[he] at hl
     match l,hl with
     | [a,b],hl=>simp at hl;exact⟨a,b,he,hl.1,hl.2⟩
    obtain⟨x',y',ha,rfl,rfl⟩:=hal
    have hts:cl.argTypes=#[t,t']:=by rw[← Array.toList_inj,ht]
    exact qtL ho hcpy ha hts h hq H (hx x' (by simp[ho,Op.operands,Call.operands,ha])) (hx y' (by simp[ho,Op.operands,Call.operands,ha]))
   ·cases h
  ·exact qa9 h hq hx
 ·exact qa9 h hq hx
end
end Go.Proofs.YtkckcgpmnipnaaaGreat
