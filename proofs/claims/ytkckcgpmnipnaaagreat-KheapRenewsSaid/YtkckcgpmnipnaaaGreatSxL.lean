/-
  A region that draws its order, whose loads from cells that nothing in it writes are taken first. Conditions: none.
-/
import Derived.Test.YtkckcgpmnipnaaaGreatSxK
import Derived.OrdersHeld
namespace Go.Proofs.YtkckcgpmnipnaaaGreat
set_option maxRecDepth 100000
open Go.RowKit
def S0.det:S0→Bool
 | .lq ..=>false
 | _=>true
def SV.det:SV→Bool
 | .pv _=>true
 | .pp ..=>true
 | .ps ..=>true
 | .ls ..=>true
 | .lp ..=>true
 | .mp ..=>true
 | .ag l=>l.all S0.det
 | _=>false
theorem S0.det_eq {β:Bl} {s:S0} {x y:Value} (h:s.det=true) (hx:s.is β x) (hy:s.is β y):x=y:=by
 cases s with
 | pv v=>exact (show x=v from hx).trans (show y=v from hy).symm
 | pp b o=>obtain⟨r,h1,rfl⟩:=hx;obtain⟨r',h1',rfl⟩:=hy;rw[h1] at h1';cases h1';rfl
 | ps b o l c=>obtain⟨r,h1,rfl⟩:=hx;obtain⟨r',h1',rfl⟩:=hy;rw[h1] at h1';cases h1';rfl
 | ls b l=>have a1:=hx.1;have a2:=hy.1;rw[a1] at a2;exact Option.some.inj a2
 | lq b es k l=>cases h
 | mp b=>obtain⟨r,h1,rfl⟩:=hx;obtain⟨r',h1',rfl⟩:=hy;rw[h1] at h1';cases h1';rfl
 | lp b q=>
  obtain⟨r,o,n,c,h1,rfl⟩:=hx;obtain⟨r',o',n',c',h1',rfl⟩:=hy;rw[h1] at h1';cases h1';rfl
theorem S0.detl_eq {β:Bl}:∀ {l:List S0} {x y:List Value},l.all S0.det=true→S0.isl β l x→S0.isl β l y→x=y
 | [],[],[],_,_,_=>rfl
 | [],_::_,_,_,h,_=>h.elim
 | [],[],_::_,_,_,h=>h.elim
 | _::_,[],_,_,h,_=>h.elim
 | _::_,_::_,[],_,_,h=>h.elim
 | s::l,a::x,b::y,h,hx,hy=>by
  rw[List.all_cons,Bool.and_eq_true] at h;rw[S0.det_eq h.1 hx.1 hy.1,S0.detl_eq h.2 hx.2 hy.2]
theorem SV.det_eq {β:Bl} {s:SV} {x y:Value} (h:s.det=true) (hx:s.is β x) (hy:s.is β y):x=y:=by
 cases s with
 | pv v=>exact (show x=v from hx).trans (show y=v from hy).symm
 | pp b o=>exact S0.det_eq (s:=.pp b o) rfl hx hy
 | ps b o l c=>exact S0.det_eq (s:=.ps b o l c) rfl hx hy
 | ls b l=>exact S0.det_eq (s:=.ls b l) rfl hx hy
 | lp b q=>exact S0.det_eq (s:=.lp b q) rfl hx hy
 | mp b=>exact S0.det_eq (s:=.mp b) rfl hx hy
 | ag l=>obtain⟨u,h1,rfl⟩:=hx;obtain⟨v,h2,rfl⟩:=hy;rw[S0.detl_eq h h1 h2]
 | lq b es k l=>cases h
 | pc f c=>cases h
 | tu l=>cases h
 | any=>cases h
 | row e es n xs=>cases h
 | mrow xs=>cases h
theorem SV.det_row {s:SV} (h:s.det=true):s.isRow=false:=by cases s<;>first | rfl | cases h
def qlT (hp:List (Nat×Nat×SV)):List (Nat×Nat)→Option (List (Nat×Nat×SV))
 | []=>some []
 | (b,o)::r=>match qaj hp b o,qlT hp r with
  | some s,some l=>bif s.det then some ((b,o,s)::l) else none
  | _,_=>none
def qAN (hpL:List (Nat×Nat×SV)) (st:St):List Prop:=hpL.map fun e=>qaj st.hp e.1 e.2.1=some e.2.2
def qs4 (P:Program) (ops:Array Oper) (hpL:List (Nat×Nat×SV)) (st:St) (o:Oper):Option (SV×List Prop):=
 match qbE ops st o with
 | some true=>match o.op with
  | .load _ x=>match st.ev x with
   | .pp b q=>match qaj hpL b q with
    | some _=>match opS P { st with hp:=hpL } o .k with
     | some (.val y,q)=>bif y.det then some (y,q) else none
     | _=>none
    | none=>none
   | _=>none
  | _=>none
 | _=>none
def qpk (P:Program) (ops:Array Oper) (listed:Array Bool) (hpL:List (Nat×Nat×SV)) (st:St):List Nat→Option (Nat×St×List Prop)
 | []=>none
 | i::r=>match ops[i]? with
  | some o=>bif Region.free .any ops listed i then
   match qs4 P ops hpL st o with
   | some (x,q)=>match qb7 st o.dst x with
    | some s'=>some (i,s',q)
    | none=>none
   | none=>qpk P ops listed hpL st r
   else qpk P ops listed hpL st r
  | none=>none
def qdQ (P:Program) (call:qbi) (lo:Nat) (ops:Array Oper) (hpL:List (Nat×Nat×SV)):Nat→Array Bool→St→Option (St×List Prop)
 | 0,listed,st=>match Region.ready .any ops listed with
  | []=>some (st,[])
  | _=>none
 | n+1,listed,st=>match Region.ready .any ops listed with
  | []=>some (st,[])
  | [i]=>match ops[i]? with
   | some o=>match qqY P call lo ops [o] st with
    | some (st2,q)=>match qdQ P call lo ops hpL n (listed.setIfInBounds i true) st2 with
     | some (st3,q3)=>some (st3,q++(qAN hpL st2++q3))
     | none=>none
    | none=>none
   | none=>none
  | rs=>match qlV P ops listed st rs with
   | some (i,_,st2,q)=>match qdQ P call lo ops hpL n (listed.setIfInBounds i true) st2 with
    | some (st3,q3)=>some (st3,q++q3)
    | none=>none
   | none=>match qpk P ops listed hpL st rs with
    | some (i,st2,q)=>match qdQ P call lo ops hpL n (listed.setIfInBounds i true) st2 with
     | some (st3,q3)=>some (st3,q++q3)
     | none=>none
    | none=>match n,rs with
     | n'+1,[i,j]=>match qzj P ops listed st i j with
      | some (st2,q)=>match qdQ P call lo ops hpL n' ((listed.setIfInBounds i true).setIfInBounds j true) st2 with
       | some (st3,q3)=>some (st3,q++q3)
       | none=>none
      | none=>none
     | _,_=>none
section
variable {P:Program} {call:qbi} {W0:World} {lo:Nat} {ops:Array Oper} {Q:Exit→Act→World→Prop}
theorem qgo {hp:List (Nat×Nat×SV)}:∀ {L:List (Nat×Nat)} {hpL:List (Nat×Nat×SV)},qlT hp L=some hpL→∀ b o s,qaj hpL b o=some s→qaj hp b o=some s∧s.det=true
 | [],hpL,h,b,o,s,hs=>by
  simp only[qlT,Option.some.injEq] at h;subst h;cases hs
 | (c,p)::r,hpL,h,b,o,s,hs=>by
  unfold qlT at h;split at h
  ·rename_i v l hv hl;cases hd:v.det
   ·rw[hd] at h;cases h
   ·rw[hd,cond_true] at h;simp only[Option.some.injEq] at h;subst h;simp only[qaj] at hs;cases hc:(Nat.beq c b&&Nat.beq p o)
    ·rw[hc,cond_false] at hs;exact qgo hl b o s hs
    ·rw[hc,cond_true] at hs;rw[Bool.and_eq_true] at hc;obtain rfl:=Nat.eq_of_beq_eq_true hc.1;obtain rfl:=Nat.eq_of_beq_eq_true hc.2;cases hs;exact⟨hv,hd⟩
  ·cases h
theorem qex {st:St}:∀ {hpL:List (Nat×Nat×SV)},qba (qAN hpL st)→∀ b o s,qaj hpL b o=some s→qaj st.hp b o=some s
 | [],_,b,o,s,hs=>by cases hs
 | (c,p,x)::r,h,b,o,s,hs=>by
  obtain⟨h1,h2⟩:=h;simp only[qaj] at hs;cases hc:(Nat.beq c b&&Nat.beq p o)
  ·rw[hc,cond_false] at hs;exact qex (hpL:=r) h2 b o s hs
  ·rw[hc,cond_true] at hs;rw[Bool.and_eq_true] at hc;obtain rfl:=Nat.eq_of_beq_eq_true hc.1;obtain rfl:=Nat.eq_of_beq_eq_true hc.2;cases hs;exact h1
def Holds (m:Nat) (β:Bl) (hpL:List (Nat×Nat×SV)) (w:World):Prop:=HRel w m β hpL w
theorem qg2 {m:Nat} {β0 β:Bl} {hpL:List (Nat×Nat×SV)} {st:St} {a:Act} {w:World} (R:Rel W0 lo β st a w) (hle:β0.le β) (hdom:β0.dom m) (hpv:∀ b o s,qaj hpL b o=some s→s.det=true∧∃ r u,β0 b=some r∧s.is β0 u) (hk:∀ b o s,qaj hpL b o=some s→qaj st.hp b o=some s):Holds m β0 hpL w:=by
 have up:∀ {b r},β0 b=some r→β b=some r:=fun e=>hle.f e
 refine⟨Gr.refl w,fun b r h=>R.h.live b r (up h),fun b c r h h'=>R.h.inj b c r (up h) (up h'),fun b r hb h=>?_,fun b r h=>?_,fun b o sv hs hr=>?_,fun b o e es n xs hs=>?_,fun b o e es n xs c o' e' es' n' xs' u v hs=>?_,fun b o xs hs=>by cases (hpv b o _ hs).1⟩
 ·rw[(hdom b hb).1] at h;cases h
 ·cases e:β0.g b with
  | none=>rfl
  | some u=>
   have h1:=R.h.sep b r (up h);rw[hle.g e] at h1;cases h1
 ·obtain⟨hd,r,u0,hr0,hu0⟩:=hpv b o sv hs;obtain⟨r',u,h1,h2,h3,h4,h5⟩:=R.h.cells b o _ (hk b o _ hs) hr
  have:r'=r:=by rw[up hr0] at h1;exact (Option.some.inj h1).symm
  subst this;have e:=SV.det_eq hd (SV.is_mono hle hu0) h2;subst e;exact⟨r',u0,hr0,hu0,h3,h4,h5⟩
 ·cases (hpv b o _ hs).1
 ·cases (hpv b o _ hs).1
theorem qqF {m:Nat} {st:St} {o:Oper} {x:SV} {q:List Prop} {hpL:List (Nat×Nat×SV)} {β0 β:Bl} {a:Act} {w:World} (h:qs4 P ops hpL st o=some (x,q)) (hq:qba q) (R:Rel W0 lo β st a w) (hle:β0.le β) (hpv:∀ b o s,qaj hpL b o=some s→s.det=true∧∃ r u,β0 b=some r∧s.is β0 u)
 (hH:Holds m β0 hpL w):∃ y,x.is β y∧YieldsIf P ops (Holds m β0 hpL) o y a:=by
 have hlooks:∀ d,d∈o.looksAt ops→(qaZ st.tm d).is β (a.tmps.getD d undef):=fun d _=>R.t.tmps d
 unfold qs4 at h;split at h
 ·rename_i hw;have hwant:=qaE hw hlooks;split at h
  ·rename_i t y ho;split at h
   ·rename_i b k hb;split at h
    ·rename_i s hs;split at h
     ·rename_i z q' hz;cases hd:z.det
      ·rw[hd] at h;cases h
      rw[hd,cond_true] at h;simp only[Option.some.injEq,Prod.mk.injEq] at h;obtain⟨rfl,rfl⟩:=h
      have hx:∀ y'∈o.op.operands,(({ st with hp:=hpL }:St).ev y').is β0 (a.eval y'):=by
       intro y' hy';rw[ho] at hy';simp only[Op.operands] at hy'
       have:y'=y:=by simpa using hy'
       subst this
       have hev:({ st with hp:=hpL }:St).ev y'=st.ev y':=by cases y'<;>rfl
       rw[hev,hb];have h1:(st.ev y').is β (a.eval y'):=R.t.ev y';rw[hb] at h1;obtain⟨r,hr,e⟩:=h1;obtain⟨_,r0,_,hr0,_⟩:=hpv b k s hs
       have:r=r0:=by rw[hle.f hr0] at hr;exact (Option.some.inj hr).symm
       subst this;exact⟨r,hr0,e⟩
      have run:∀ w',Holds m β0 hpL w'→qbK P w' m β0 w' (execOp a.eval o) (.val z):=fun w' hS=>qbA (W0:=w') (lo:=m) (β:=β0) (ρ:=a.eval) (st:={ st with hp:=hpL }) hz hq hS hx
      obtain⟨u0,h1,_⟩:=run w hH;refine⟨u0,SV.is_mono hle h1,Or.inl ⟨hwant,fun w' hS=>?_⟩⟩;obtain⟨u,h2,h3⟩:=run w' hS;rw[SV.det_eq hd h2 h1] at h3;exact h3
     ·cases h
    ·cases h
   ·cases h
  ·cases h
 ·cases h
theorem qg6 {listed:Array Bool} {hpL:List (Nat×Nat×SV)} {st:St}:∀ {rs:List Nat} {i:Nat} {s:St} {q:List Prop},qpk P ops listed hpL st rs=some (i,s,q)→
 i∈rs∧∃ o x,ops[i]?=some o∧Region.free .any ops listed i=true∧qs4 P ops hpL st o=some (x,q)∧qb7 st o.dst x=some s
 | [],_,_,_,h=>by cases h
 | j::r,i,s,q,h=>by
  unfold qpk at h;split at h
  ·rename_i o ho;cases hf:Region.free .any ops listed j
   ·rw[hf,cond_false] at h;obtain⟨h1,h2⟩:=qg6 h;exact⟨List.mem_cons_of_mem _ h1,h2⟩
   ·rw[hf,cond_true] at h;split at h
    ·rename_i x' q' hs;split at h
     ·rename_i s2 hp;simp only[Option.some.injEq,Prod.mk.injEq] at h;obtain⟨rfl,rfl,rfl⟩:=h;exact⟨List.mem_cons_self,o,x',ho,hf,hs,hp⟩
     ·cases h
    ·obtain⟨h1,h2⟩:=qg6 h;exact⟨List.mem_cons_of_mem _ h1,h2⟩
  ·cases h
theorem qx2 {S:World→Prop} {w:World} (hS:S w) {listed:Array Bool} {st s:St} {q:List Prop} {β:Bl} {a:Act} {i j n:Nat} {Q:Exit→Act→World→Prop} (hs:Region.noSelect ops=true) (hr:Region.ready .any ops listed=[i,j]) (h:qzj P ops listed st i j=some (s,q)) (hq:qba q) (R:Rel W0 lo β st a w)
 (k:∀ a',Rel W0 lo β s a' w→wpAnyH P .any ops Q S n ((listed.setIfInBounds i true).setIfInBounds j true) a' w):wpAnyH P .any ops Q S (n+2) listed a w:=by
 unfold qzj at h;split at h
 ·rename_i oi oj hoi hoj;split at h
  ·rename_i di dj hdi hdj;cases hb:(qgn oi.op&&(qgn oj.op&&(!Nat.beq di dj&&(!Nat.beq i j&&(qkb (qbE ops st oi)&&(qkb (qbE ops st oj)&&(((oj.looksAt ops).all fun d=>!Nat.beq di d)&&(((oi.looksAt ops).all fun d=>!Nat.beq dj d)&&(qhm (Region.ready .any ops (listed.setIfInBounds i true)) [j]&&qhm (Region.ready .any ops (listed.setIfInBounds j true)) [i])))))))))
   ·rw[hb] at h;cases h
   ·rw[hb,cond_true] at h;simp only[Bool.and_eq_true,Bool.not_eq_true'] at hb;obtain⟨_,_,hd,hij,w1,w2,l1,l2,r1,r2⟩:=hb
    have hd:di≠dj:=fun e=>by rw[e,Nat.beq_refl] at hd;cases hd
    have hij:i≠j:=fun e=>by rw[e,Nat.beq_refl] at hij;cases hij
    split at h
    ·rename_i x q1 y q2 ho1 ho2;split at h
     ·rename_i s1 hp1;split at h
      ·rename_i s2 hp2;simp only[Option.some.injEq,Prod.mk.injEq] at h;obtain⟨rfl,rfl⟩:=h;obtain⟨a1,a2⟩:=qav hq
       have hlooks:∀ (o:Oper),∀ d,d∈o.looksAt ops→(qaZ st.tm d).is β (a.tmps.getD d undef):=fun _ d _=>R.t.tmps d
       have hw1:=qaE (qfi w1) (hlooks oi);have hw2:=qaE (qfi w2) (hlooks oj);obtain⟨p1,p2,p3,p4⟩:=qbO (op:=oi.op) (st:=st) rfl;have R1:Rel W0 lo β (qaV oi.op st).2 a w:=⟨by rw[p1,p2];exact R.t,by rw[p3];exact R.h,by rw[p4];exact R.dom,by rw[p4];exact R.lo⟩;obtain⟨p1,p2,p3,p4⟩:=qbO (op:=oj.op) (st:=(qaV oi.op st).2) rfl;have R2:Rel W0 lo β (qaV oj.op (qaV oi.op st).2).2 a w:=⟨by rw[p1,p2];exact R1.t,by rw[p3];exact R1.h,by rw[p4];exact R1.dom,by rw[p4];exact R1.lo⟩;obtain⟨u,hu,e1⟩:=qbA ho1 a1 R1.h (fun y _=>R1.t.ev y);obtain⟨v,hv,e2⟩:=qbA ho2 a2 R2.h (fun y _=>R2.t.ev y)
       have n1:∀ d,some di=some d→d∉oj.looksAt ops:=fun d e hm=>by
        cases e;have:=List.all_eq_true.1 l1 _ hm;rw[Nat.beq_refl] at this;cases this
       have n2:∀ d,some dj=some d→d∉oi.looksAt ops:=fun d e hm=>by
        cases e;have:=List.all_eq_true.1 l2 _ hm;rw[Nat.beq_refl] at this;cases this
       have hns:∀ (k:Nat) (o:Oper),ops[k]?=some o→∀ cs b,o.op≠.select cs b:=fun k o ho cs b=>Region.noSelect_spec hs k o cs b ho
       obtain⟨t1,t2,t3,t4⟩:=R2.t.put hp1 hu;have R3:Rel W0 lo β s1 (a.put (some di) u) w:=⟨t1,by rw[t2];exact R2.h,by rw[t3];exact R2.dom,by rw[t3];exact R2.lo⟩;obtain⟨t1,t2,t3,t4⟩:=R3.t.put hp2 hv;have R4:Rel W0 lo β s2 ((a.put (some di) u).put (some dj) v) w:=⟨t1,by rw[t2];exact R3.h,by rw[t3];exact R3.dom,by rw[t3];exact R3.lo⟩
       refine wpAnyH_all hr (by simp) fun m hm=>?_
       simp only[List.mem_cons,List.not_mem_nil,or_false] at hm
       rcases hm with rfl | rfl
       ·refine qbo hoi hw1 e1 ⟨hS,wpAnyH_all (qdD r1) (by simp) fun m' hm'=>?_⟩;rw[List.mem_singleton] at hm';subst hm';rw[hdi];refine qbo hoj (by rw[wanted_put oj a (some di) u n1];exact hw2) (by rw[execOp_put oj (hns _ _ hoj) a (some di) u n1];exact e2) ?_;rw[hdj];exact⟨hS,k _ R4⟩
       ·refine qbo hoj hw2 e2 ⟨hS,wpAnyH_all (qdD r2) (by simp) fun m' hm'=>?_⟩;rw[List.mem_singleton] at hm';subst hm';rw[hdj];refine qbo hoi (by rw[wanted_put oi a (some dj) v n2];exact hw1) (by rw[execOp_put oi (hns _ _ hoi) a (some dj) v n2];exact e1) ?_;rw[hdi,qk8 (Ne.symm hd),Array.setIfInBounds_comm _ _ (Ne.symm hij)];exact⟨hS,k _ R4⟩
      ·cases h
     ·cases h
    ·cases h
  ·cases h
 ·cases h
theorem qcu (hcall:qb4 P call) (hs:Region.noSelect ops=true) {m:Nat} {hpL:List (Nat×Nat×SV)} {β0:Bl} (hdom:β0.dom m) (hpv:∀ b o s,qaj hpL b o=some s→s.det=true∧∃ r u,β0 b=some r∧s.is β0 u) :
 ∀ (n:Nat) (listed:Array Bool) {st st':St} {q:List Prop} {β:Bl} {a:Act} {w:World},qdQ P call lo ops hpL n listed st=some (st',q)→qba q→Rel W0 lo β st a w→β0.le β→Holds m β0 hpL w→
 (∀ β' a' w',β.le β'→Rel W0 lo β' st' a' w'→Q .normal a' w')→wpAnyH P .any ops (fun e a w=>e=.normal∧Q .normal a w) (Holds m β0 hpL) n listed a w
 | 0,listed,st,st',q,β,a,w,h,_,R,_,_,hQ=>by
  unfold qdQ at h;split at h
  ·rename_i hr;simp only[Option.some.injEq,Prod.mk.injEq] at h;obtain⟨rfl,rfl⟩:=h;exact⟨hr,rfl,hQ β a w (Bl.le_refl _) R⟩
  ·cases h
 | n+1,listed,st,st',q,β,a,w,h,hq,R,hle0,hH,hQ=>by
  unfold qdQ at h;split at h
  ·rename_i hr;simp only[Option.some.injEq,Prod.mk.injEq] at h;obtain⟨rfl,rfl⟩:=h;exact wpAnyH_done hr ⟨rfl,hQ β a w (Bl.le_refl _) R⟩ _
  ·rename_i i hr;split at h
   ·rename_i o ho;split at h
    ·rename_i st2 q2 h2;split at h
     ·rename_i st3 q3 h3;simp only[Option.some.injEq,Prod.mk.injEq] at h;obtain⟨rfl,rfl⟩:=h;obtain⟨a1,a23⟩:=qav hq;obtain⟨a2,a3⟩:=qav a23
      refine wpAnyH_all hr (by simp) fun j hj=>?_
      rw[List.mem_singleton] at hj;subst hj;refine qgp ho ?_
      exact qeA hcall h2 a1 R fun β' a' w' hle R'=>⟨rfl,qg2 R' (Bl.le_trans hle0 hle) hdom hpv (qex a2),qcu hcall hs hdom hpv n _ h3 a3 R' (Bl.le_trans hle0 hle) (qg2 R' (Bl.le_trans hle0 hle) hdom hpv (qex a2)) fun β'' a'' w'' hle' R''=>hQ β'' a'' w'' (Bl.le_trans hle hle') R''⟩
     ·cases h
    ·cases h
   ·cases h
  ·split at h
   ·rename_i i x st2 q2 h2;split at h
    ·rename_i st3 q3 h3;simp only[Option.some.injEq,Prod.mk.injEq] at h;obtain⟨rfl,rfl⟩:=h;obtain⟨a1,a2⟩:=qav hq;obtain⟨hi,o,s0,ho,hf,hst,hp⟩:=qfb h2;obtain⟨t1,t2,t3,t4,v,hy,hx⟩:=qlg hst (fun cs b=>Region.noSelect_spec hs i o cs b ho) a1 R
     have T:TRel β s0.tm s0.n a:=by rw[t1,t2];exact R.t
     obtain⟨r1,r2,r3,r4⟩:=T.put hp hx;refine wpAnyH_take ho hs hf (by simpa using hi) (fun c a w k=>(by cases k.1)) hy.yieldsIf hH ?_;exact qcu hcall hs hdom hpv n _ h3 a2 ⟨r1,by rw[r2,t3];exact R.h,by rw[r3,t4];exact R.dom,by rw[r3,t4];exact R.lo⟩ hle0 hH hQ
    ·cases h
   ·split at h
    ·rename_i i st2 q2 h2;split at h
     ·rename_i st3 q3 h3;simp only[Option.some.injEq,Prod.mk.injEq] at h;obtain⟨rfl,rfl⟩:=h;obtain⟨a1,a2⟩:=qav hq;obtain⟨hi,o,x,ho,hf,hst,hp⟩:=qg6 h2;obtain⟨y,hyx,hy⟩:=qqF (m:=m) hst a1 R hle0 hpv hH;obtain⟨r1,r2,r3,r4⟩:=R.t.put hp hyx;refine wpAnyH_take ho hs hf (by simpa using hi) (fun c a w k=>(by cases k.1)) hy hH ?_;exact qcu hcall hs hdom hpv n _ h3 a2 ⟨r1,by rw[r2];exact R.h,by rw[r3];exact R.dom,by rw[r3];exact R.lo⟩ hle0 hH hQ
     ·cases h
    ·split at h
     ·rename_i n' i j hr;split at h
      ·rename_i st2 q2 h2;split at h
       ·rename_i st3 q3 h3;simp only[Option.some.injEq,Prod.mk.injEq] at h;obtain⟨rfl,rfl⟩:=h;obtain⟨a1,a2⟩:=qav hq
        exact qx2 hH hs hr h2 a1 R fun a' R'=>qcu hcall hs hdom hpv n' _ h3 a2 R' hle0 hH hQ
       ·cases h
      ·cases h
     ·cases h
theorem qnn (hcall:qb4 P call) (hs:Region.noSelect ops=true) {L:List (Nat×Nat)} {hpL:List (Nat×Nat×SV)} (n:Nat) (listed:Array Bool) {st st':St} {q:List Prop} {β:Bl} {a:Act} {w:World} (hL:qlT st.hp L=some hpL) (h:qdQ P call lo ops hpL n listed st=some (st',q)) (hq:qba q) (R:Rel W0 lo β st a w)
 (hQ:∀ β' a' w',β.le β'→Rel W0 lo β' st' a' w'→Q .normal a' w'):wpAny P .any ops Q n listed a w:=by
 have sp:=qgo hL
 have hpv:∀ b o s,qaj hpL b o=some s→s.det=true∧∃ r u,β b=some r∧s.is β u:=fun b o s hs=>by
  obtain⟨h1,hd⟩:=sp b o s hs;obtain⟨r,u,h2,h3,_⟩:=R.h.cells b o _ h1 (SV.det_row hd);exact⟨hd,r,u,h2,h3⟩
 exact qdz (fun e a w k=>by obtain⟨rfl,k⟩:=k;exact k) n listed a w (wpAny_of_held n listed a w
  (qcu hcall hs R.dom hpv n listed h hq R (Bl.le_refl _) (qg2 R (Bl.le_refl _) R.dom hpv fun b o s hs=>(sp b o s hs).1) hQ))
end
end Go.Proofs.YtkckcgpmnipnaaaGreat
