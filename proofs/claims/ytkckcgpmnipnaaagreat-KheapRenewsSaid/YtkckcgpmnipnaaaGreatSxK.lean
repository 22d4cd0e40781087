/-
  A region that draws its order, whose operations are taken greedily: alone, where one alone is ready; first, where its value asks the world nothing and no other one minds. Conditions: none.
-/
import Derived.Test.YtkckcgpmnipnaaaGreatSxH
namespace Go.Proofs.YtkckcgpmnipnaaaGreat
set_option maxRecDepth 100000
open Go.RowKit
def Blind (P:Program) {α:Type} (s:Sem α):Prop:=∀ w u w1,s.run P w=.ok u w1→w1=w∧∀ w',s.run P w'=.ok u w'
section
variable {P:Program} {α β:Type}
theorem Blind.pure (a:α):Blind P (Pure.pure a:Sem α):=fun w u w1 h=>by
 simp at h;obtain⟨rfl,rfl⟩:=h;exact⟨rfl,fun w'=>by simp⟩
theorem Blind.bind {s:Sem α} {f:α→Sem β} (h:Blind P s) (k:∀ a,Blind P (f a)):Blind P (s >>= f):=fun w u w1 e=>by
 rw[Sem.run_bind] at e
 cases hs:s.run P w with
 | ok a w2=>
  rw[hs] at e;obtain⟨rfl,h2⟩:=h _ _ _ hs;obtain⟨h3,h4⟩:=k a _ _ _ e;exact⟨h3,fun w'=>by rw[Sem.run_bind,h2 w'];exact h4 w'⟩
 | halt x w2=>rw[hs] at e;cases e
theorem Blind.never {s:Sem α} (h:∀ w u w1,s.run P w=.ok u w1→False):Blind P s:=fun w u w1 e=>(h w u w1 e).elim
theorem Blind.stuck (m:String):Blind P (Go.stuck m:Sem α):=.never fun w u w1 e=>by cases e
theorem Blind.unsupported (m:Unsupported):Blind P (Go.unsupported m:Sem α):=.never fun w u w1 e=>by cases e
theorem Blind.underlying (t:TypeId):Blind P (Go.underlying t):=fun w u w1 e=>by
 cases hu:P.underlying t with
 | none=>simp[Go.underlying,hu,Go.stuck] at e
 | some d=>rw[run_underlying hu w] at e;cases e;exact⟨rfl,fun w'=>run_underlying hu w'⟩
theorem Blind.sizeOf (t:TypeId):Blind P (Go.sizeOf t):=fun w u w1 e=>by
 cases hi:P.info? t with
 | none=>simp[Go.sizeOf,typeInfo,hi,Go.stuck] at e
 | some i=>
  have h:∀ w',(Go.sizeOf t).run P w'=.ok i.size w':=fun w'=>by simp[Go.sizeOf,run_typeInfo w' hi]
  rw[h w] at e;cases e;exact⟨rfl,h⟩
theorem Blind.asIntOf (v:Value):Blind P (Go.asIntOf v):=by
 unfold Go.asIntOf;split
 ·exact .pure _
 ·exact .unsupported _
 ·exact .stuck _
theorem Blind.sureAddr (v:Value):Blind P (Instr.sureAddr v):=by
 unfold Instr.sureAddr;split
 ·exact .pure _
 ·exact .stuck _
def Never (P:Program) {α:Type} (s:Sem α):Prop:=∀ w u w1,s.run P w=.ok u w1→False
theorem Never.bind {s:Sem α} {f:α→Sem β} (k:∀ a,Never P (f a)):Never P (s >>= f):=fun w u w1 e=>by
 rw[Sem.run_bind] at e
 cases hs:s.run P w with
 | ok a w2=>rw[hs] at e;exact k a _ _ _ e
 | halt x w2=>rw[hs] at e;cases e
theorem Never.bounds (x y:Int) (b:Bool) (c:BoundsCode):Never P (runtimePanic (.bounds x y b c):Sem α):=fun w u w1 h=>by cases h
theorem Never.nilDeref:Never P (runtimePanic .nilDeref:Sem α):=fun w u w1 h=>by cases h
theorem Never.boundsPanic (k:IntKind) (x y:Int) (c:BoundsCode):Never P (Go.boundsPanic k x y c:Sem α):=by
 unfold Go.boundsPanic
 dsimp only
 split
 ·exact .bind fun _=>.bounds _ _ _ _
 ·exact .bind fun _=>.bounds _ _ _ _
theorem Blind.boundsPanic (k:IntKind) (x y:Int) (c:BoundsCode):Blind P (Go.boundsPanic k x y c:Sem α):=.never (Never.boundsPanic k x y c)
theorem Blind.sliceBound (x:Value) (y:Nat) (c:BoundsCode):Blind P (Instr.sliceBound x y c):=by
 unfold Instr.sliceBound
 repeat' (first | exact .pure _ | exact .asIntOf _ | exact .boundsPanic _ _ _ _ | refine .bind ?_ fun _=>?_ | split | dsimp only)
theorem Blind.sliceBounds (b:Bool) (len cap:Nat) (lo hi mx:Option Value):Blind P (Instr.sliceBounds b len cap lo hi mx):=by
 unfold Instr.sliceBounds
 repeat' (first | exact .pure _ | exact .sliceBound _ _ _ | exact .stuck _ | refine .bind ?_ fun _=>?_ | split | dsimp only)
theorem Blind.asAddr (v:Value):Blind P (Go.asAddr v):=by
 unfold Go.asAddr;split
 ·exact .pure _
 ·exact .never Never.nilDeref
 ·exact .stuck _
theorem Blind.slice (t:TypeId) (x:Value) (lo hi mx:Option Value):Blind P (Instr.slice t x lo hi mx):=by
 unfold Instr.slice
 repeat' (first | exact .pure _ | exact .sliceBounds _ _ _ _ _ _ | exact .sizeOf _ | exact .asAddr _ | exact .underlying _ | exact .stuck _ | refine .bind ?_ fun _=>?_ | split | dsimp only)
theorem Blind.sliceAt (t:TypeId) (x:Value) (lo hi mx:Option Value):Blind P (Instr.sliceAt t x lo hi mx):=by
 unfold Instr.sliceAt
 repeat' (first | exact .pure _ | exact .slice _ _ _ _ _ | exact .sliceBounds _ _ _ _ _ _ | exact .sizeOf _ | exact .sureAddr _ | exact .underlying _ | exact .stuck _ | refine .bind ?_ fun _=>?_ | split | dsimp only)
theorem Blind.indexAt (t:TypeId) (x ix:Value):Blind P (Instr.indexAt t x ix):=by
 unfold Instr.indexAt
 repeat' (first | exact .pure _ | exact .asIntOf _ | exact .sizeOf _ | exact .sureAddr _ | exact .underlying _ | exact .stuck _ | exact .unsupported _ | exact .boundsPanic _ _ _ _ | refine .bind ?_ fun _=>?_ | split | dsimp only)
theorem Blind.asAgg (v:Value):Blind P (Go.asAgg v):=by
 unfold Go.asAgg;split
 ·exact .pure _
 ·exact .stuck _
theorem Blind.typeInfo (t:TypeId):Blind P (Go.typeInfo t):=fun w u w1 e=>by
 cases hi:P.info? t with
 | none=>simp[Go.typeInfo,hi,Go.stuck] at e
 | some i=>
  have h:∀ w',(Go.typeInfo t).run P w'=.ok i w':=fun w'=>run_typeInfo w' hi
  rw[h w] at e;cases e;exact⟨rfl,h⟩
theorem Blind.zeroValue (t:TypeId):Blind P (Go.zeroValue t):=by
 unfold Go.zeroValue
 refine .bind (.typeInfo t) fun _=>?_
 split
 ·exact .pure _
 ·exact .unsupported _
theorem Blind.isAgg (t:TypeId):Blind P (Go.isAgg t):=by
 unfold Go.isAgg
 refine .bind (.underlying t) fun _=>?_
 split<;>exact .pure _
theorem Blind.part (t:TypeId) (cs:Array Value) (o:Nat):Blind P (Go.part t cs o):=by
 unfold Go.part
 repeat' (first | exact .pure _ | exact .isAgg _ | exact .sizeOf _ | exact .stuck _ | refine .bind ?_ fun _=>?_ | split | dsimp only)
theorem Blind.field (t:TypeId) (x:Value) (k:Nat):Blind P (Instr.field t x k):=by
 unfold Instr.field
 repeat' (first | exact .pure _ | exact .part _ _ _ | exact .asAgg _ | exact .underlying _ | exact .stuck _ | refine .bind ?_ fun _=>?_ | split | dsimp only)
theorem Blind.extract (v:Value) (k:Nat):Blind P (Instr.extract v k):=by
 unfold Instr.extract
 repeat' (first | exact .pure _ | exact .stuck _ | refine .bind ?_ fun _=>?_ | split | dsimp only)
theorem Blind.bindOk {s:Sem α} {f:α→Sem β} {a:α} (hs:∀ w,s.run P w=.ok a w) (k:Blind P (f a)):Blind P (s >>= f):=fun w u w1 e=>by
 rw[Sem.run_bind,hs w] at e;obtain⟨h3,h4⟩:=k _ _ _ e;exact⟨h3,fun w'=>by rw[Sem.run_bind,hs w'];exact h4 w'⟩
theorem Blind.fieldAt {t:TypeId} {k:Nat} {fs:Array Field} {fl:Field} {i:TypeInfo} (hu:P.underlying t=some (.struct fs)) (hf:fs[k]?=some fl) (hi:P.info? fl.type=some i) (h0:i.size≠0) (x:Value):Blind P (Instr.fieldAt t x k):=by
 unfold Instr.fieldAt;refine .bindOk (fun w=>run_underlying hu w) ?_;simp only[hf]
 refine .bind (.sureAddr _) fun a=>.bind ?_ fun _=>.pure _
 unfold fieldPlace;refine .bindOk (a:=i.size) (fun w=>by simp[Go.sizeOf,run_typeInfo w hi]) ?_;rw[if_neg h0];exact .pure _
theorem Blind.listM {f:α→Sem β} (h:∀ a,Blind P (f a)):∀ (l:List α),Blind P (l.mapM f)
 | []=>by rw[List.mapM_nil];exact .pure _
 | a::l=>by rw[List.mapM_cons];exact .bind (h a) fun _=>.bind (Blind.listM h l) fun _=>.pure _
theorem Blind.mapM {f:α→Sem β} (h:∀ a,Blind P (f a)) (l:Array α):Blind P (l.mapM f):=by
 rw[Array.mapM_eq_mapM_toList,map_eq_pure_bind]
 exact .bind (.listM h _) fun _=>.pure _
theorem Blind.build (t:TypeId) (parts:Array (Nat×Value)):Blind P (Instr.build t parts):=by
 unfold Instr.build
 repeat' (first | exact .pure _ | exact .zeroValue _ | exact .underlying _ | exact .sizeOf _ | exact .stuck _ | exact .mapM (fun _=>.bind (.sizeOf _) fun _=>.pure _) _ | refine .bind ?_ fun _=>?_ | split | dsimp only)
end
def qog:Op→Bool
 | .move _=>true
 | .assign _=>true
 | .slice ..=>true
 | .indexAddr ..=>true
 | .field ..=>true
 | .build ..=>true
 | .extract ..=>true
 | _=>false
theorem qmD {P:Program} {o:Oper} {ρ:Operand→Value} (h:qog o.op=true):Blind P (execOp ρ o):=by
 cases ho:o.op<;>rw[ho] at h<;>first
  | exact Bool.noConfusion (show false=true from h)
  | (simp only[execOp,ho];first
   | exact .pure _
   | exact .bind (.sliceAt _ _ _ _ _) fun _=>.pure _
   | exact .bind (.indexAt _ _ _) fun _=>.pure _
   | exact .bind (.field _ _ _) fun _=>.pure _
   | exact .bind (.build _ _) fun _=>.pure _
   | exact .bind (.extract _ _) fun _=>.pure _)
def qpB (P:Program):Op→Bool
 | .fieldAddr t _ k=>match P.underlying t with
  | some (.struct fs)=>match fs[k]? with
   | some fl=>match P.info? fl.type with
    | some i=>!Nat.beq i.size 0
    | none=>false
   | none=>false
  | _=>false
 | _=>false
theorem qoV {P:Program} {o:Oper} {ρ:Operand→Value} (h:qpB P o.op=true):Blind P (execOp ρ o):=by
 cases ho:o.op<;>rw[ho] at h<;>first
  | exact Bool.noConfusion (show false=true from h)
  | skip
 simp only[execOp,ho];unfold qpB at h
 dsimp only at h
 split at h
 ·rename_i fs hu;split at h
  ·rename_i fl hf;split at h
   ·rename_i i hi
    exact .bind (.fieldAt hu hf hi (fun e=>by rw[e] at h;cases h) _) fun _=>.pure _
   ·cases h
  ·cases h
 ·cases h
def qlh (P:Program) (o:Op):Bool:=qog o||qpB P o
theorem qoP {P:Program} {o:Oper} {ρ:Operand→Value} (h:qlh P o.op=true):Blind P (execOp ρ o):=by
 unfold qlh at h;rw[Bool.or_eq_true] at h;exact h.elim qmD qoV
def qrv (P:Program) (ops:Array Oper) (st:St) (o:Oper):Option (SV×St×List Prop):=
 match qbE ops st o with
 | some false=>some (.pv undef,st,[])
 | some true=>bif qlh P o.op then
  match opS P (qaV o.op st).2 o (qaV o.op st).1 with
  | some (.val x,q)=>some (x,(qaV o.op st).2,q)
  | _=>none
  else bif o.op.operands.toList.all fun x=>(st.ev x).isV then
   match qrE P (execOp (fun x=>(st.ev x).raw) o) with
   | some (.value u)=>match qc8 u (qaV o.op st).1 with
    | some (.val x,q)=>some (x,(qaV o.op st).2,q)
    | _=>none
   | _=>none
  else none
 | none=>none
def qlV (P:Program) (ops:Array Oper) (listed:Array Bool) (st:St):List Nat→Option (Nat×SV×St×List Prop)
 | []=>none
 | i::r=>match ops[i]? with
  | some o=>bif Region.free .any ops listed i then
   match qrv P ops st o with
   | some (x,s,q)=>match qb7 s o.dst x with
    | some s'=>some (i,x,s',q)
    | none=>none
   | none=>qlV P ops listed st r
   else qlV P ops listed st r
  | none=>none
def qgn:Op→Bool
 | .load ..=>true
 | _=>false
def qhm:List Nat→List Nat→Bool
 | [],[]=>true
 | a::l,b::r=>Nat.beq a b&&qhm l r
 | _,_=>false
def qkb:Option Bool→Bool
 | some true=>true
 | _=>false
def qzj (P:Program) (ops:Array Oper) (listed:Array Bool) (st:St) (i j:Nat):Option (St×List Prop):=
 match ops[i]?,ops[j]? with
 | some oi,some oj=>match oi.dst,oj.dst with
  | some di,some dj=>
   bif qgn oi.op&&(qgn oj.op&&(!Nat.beq di dj&&(!Nat.beq i j&&(qkb (qbE ops st oi)&&(qkb (qbE ops st oj)&&(((oj.looksAt ops).all fun d=>!Nat.beq di d)&&(((oi.looksAt ops).all fun d=>!Nat.beq dj d)&&(qhm (Region.ready .any ops (listed.setIfInBounds i true)) [j]&&qhm (Region.ready .any ops (listed.setIfInBounds j true)) [i])))))))) then
    match opS P (qaV oi.op st).2 oi (qaV oi.op st).1,opS P (qaV oj.op (qaV oi.op st).2).2 oj (qaV oj.op (qaV oi.op st).2).1 with
    | some (.val x,q),some (.val y,q')=>match qb7 (qaV oj.op (qaV oi.op st).2).2 (some di) x with
     | some s=>match qb7 s (some dj) y with
      | some s'=>some (s',q++q')
      | none=>none
     | none=>none
    | _,_=>none
   else none
  | _,_=>none
 | _,_=>none
def qeJ (P:Program) (call:qbi) (lo:Nat) (ops:Array Oper):Nat→Array Bool→St→Option (St×List Prop)
 | 0,listed,st=>match Region.ready .any ops listed with
  | []=>some (st,[])
  | _=>none
 | n+1,listed,st=>match Region.ready .any ops listed with
  | []=>some (st,[])
  | [i]=>match ops[i]? with
   | some o=>match qqY P call lo ops [o] st with
    | some (st2,q)=>match qeJ P call lo ops n (listed.setIfInBounds i true) st2 with
     | some (st3,q3)=>some (st3,q++q3)
     | none=>none
    | none=>none
   | none=>none
  | rs=>match qlV P ops listed st rs with
   | some (i,_,st2,q)=>match qeJ P call lo ops n (listed.setIfInBounds i true) st2 with
    | some (st3,q3)=>some (st3,q++q3)
    | none=>none
   | none=>match n,rs with
    | n'+1,[i,j]=>match qzj P ops listed st i j with
     | some (st2,q)=>match qeJ P call lo ops n' ((listed.setIfInBounds i true).setIfInBounds j true) st2 with
      | some (st3,q3)=>some (st3,q++q3)
      | none=>none
     | none=>none
    | _,_=>none
section
variable {P:Program} {call:qbi} {W0:World} {lo:Nat} {ops:Array Oper} {Q:Exit→Act→World→Prop}
theorem qlx {Q':Exit→Act→World→Prop} (hQ:∀ e a w,Q' e a w→Q e a w) {o:Oper} {a:Act} {K:Act→World→Prop} {r:Result Next} (h:o.upon P a K Q' r):o.upon P a K Q r:=by
 cases r with
 | ok n w'=>
  cases n<;>simp only[Oper.upon] at h ⊢ <;>
   first
    | exact h
    | exact Calls.mono h (fun e w'' he=>by
     cases e<;>first
      | exact he
      | exact hQ _ _ _ he
      | (obtain⟨a',w',h'⟩:=he;exact⟨a',w',hQ _ _ _ h'⟩))
 | halt x w'=>cases x<;>simp only[Oper.upon] at h ⊢<;>exact hQ _ _ _ h
theorem qlG {Q':Exit→Act→World→Prop} (hQ:∀ e a w,Q' e a w→Q e a w) {i:Nat} {K:Act→World→Prop} {a:Act} {w:World} (h:wpOp P ops Q' i K a w):wpOp P ops Q i K a w:=by
 unfold wpOp at *;split
 ·rename_i ho;rw[ho] at h;exact h
 ·rename_i o ho;rw[ho] at h;simp only at h;split
  ·rename_i hw;rw[if_pos hw] at h
   exact h.imp (fun k=>qlx hQ k) fun ⟨k1,a',w',k2⟩=>⟨k1,a',w',hQ _ _ _ k2⟩
  ·rename_i hw;rw[if_neg hw] at h;exact h
theorem qdz {Q':Exit→Act→World→Prop} (hQ:∀ e a w,Q' e a w→Q e a w):∀ (fuel:Nat) (listed:Array Bool) (a:Act) (w:World),wpAny P .any ops Q' fuel listed a w→wpAny P .any ops Q fuel listed a w
 | 0,_,_,_,h=>⟨h.1,hQ _ _ _ h.2⟩
 | fuel+1,_,_,_,h=>⟨fun hr=>hQ _ _ _ (h.1 hr),fun i hi=>qlG hQ (wpOp_mono (fun a' w' k=>qdz hQ fuel _ a' w' k) (h.2 i hi))⟩
theorem qgp {o:Oper} {i:Nat} (hi:ops[i]?=some o) {K:Act→World→Prop} {a:Act} {w:World} (h:wpList P ops (fun e a w=>e=.normal∧K a w) [o] a w):wpOp P ops (fun e a w=>e=.normal∧Q .normal a w) i K a w:=by
 unfold wpOp;rw[hi];simp only[wpList] at h ⊢;split at h
 ·rename_i hw;rw[if_pos hw]
  rcases h with h | ⟨h1,a',w',h2,_⟩
  ·refine Or.inl ?_;unfold Oper.wp at *;generalize (execOp a.eval o).run P w=r at *
   cases r with
   | ok n w'=>
    cases n<;>simp only[Oper.upon] at h ⊢<;>first
     | exact h.2
     | exact Calls.mono h (fun e w'' he=>by
      cases e with
      | returned v=>exact he.2
      | panicked c=>exact absurd he.1 (by simp)
      | outgrown=>obtain⟨a',w',h',_⟩:=he;cases h')
     | exact Rows.mono h (fun v w' he=>he.2)
   | halt x w'=>cases x<;>simp only[Oper.upon] at h ⊢;obtain⟨h',_⟩:=h;cases h'
  ·cases h2
 ·rename_i hw;rw[if_neg hw];exact h.2
theorem qlg {st s:St} {o:Oper} {x:SV} {q:List Prop} {β:Bl} {a:Act} {w:World} (h:qrv P ops st o=some (x,s,q)) (hns:∀ cs b,o.op≠.select cs b) (hq:qba q) (R:Rel W0 lo β st a w) :
 s.tm=st.tm∧s.n=st.n∧s.hp=st.hp∧s.nb=st.nb∧∃ v,Yields P ops o v a∧x.is β v:=by
 have hlooks:∀ d,d∈o.looksAt ops→(qaZ st.tm d).is β (a.tmps.getD d undef):=fun d _=>R.t.tmps d
 obtain⟨p1,p2,p3,p4⟩:=qbO (op:=o.op) (st:=st) rfl;unfold qrv at h;split at h
 ·rename_i hw;simp only[Option.some.injEq,Prod.mk.injEq] at h;obtain⟨rfl,rfl,rfl⟩:=h;exact⟨rfl,rfl,rfl,rfl,undef,Or.inr ⟨qaE hw hlooks,rfl⟩,rfl⟩
 ·rename_i hw;have hwant:=qaE hw hlooks;cases hb:qlh P o.op
  ·rw[hb,cond_false] at h
   cases hv:o.op.operands.toList.all fun x=>(st.ev x).isV
   ·rw[hv,cond_false] at h;cases h
   ·rw[hv,cond_true] at h;split at h
    ·rename_i u hu;split at h
     ·rename_i x' q' hr;simp only[Option.some.injEq,Prod.mk.injEq] at h;obtain⟨rfl,rfl,rfl⟩:=h
      have hx:∀ y∈o.op.operands,(st.ev y).is β (a.eval y):=fun y _=>R.t.ev y
      have he:=qgz hns hx hv
      have hrun:∀ w',(execOp a.eval o).run P w'=.ok (.value u) w':=fun w'=>by rw[he];exact qfc hu w'
      obtain⟨v,h1,h2⟩:qbK P W0 lo β w (execOp a.eval o) (.val x'):=qfP hr hq (hrun w);rw[hrun w] at h2;cases h2;exact⟨p1,p2,p3,p4,u,Or.inl ⟨hwant,hrun⟩,h1⟩
     ·cases h
    ·cases h
  ·rw[hb,cond_true] at h;split at h
   ·rename_i x' q' ho;simp only[Option.some.injEq,Prod.mk.injEq] at h;obtain⟨rfl,rfl,rfl⟩:=h;have R1:Rel W0 lo β (qaV o.op st).2 a w:=⟨by rw[p1,p2];exact R.t,by rw[p3];exact R.h,by rw[p4];exact R.dom,by rw[p4];exact R.lo⟩;obtain⟨u,h1,h2⟩:=qbA ho hq R1.h (fun y _=>R1.t.ev y);exact⟨p1,p2,p3,p4,u,Or.inl ⟨hwant,fun w'=>((qoP hb) _ _ _ h2).2 w'⟩,h1⟩
   ·cases h
 ·cases h
theorem qfb {listed:Array Bool} {st:St}:∀ {rs:List Nat} {i:Nat} {x:SV} {s:St} {q:List Prop},qlV P ops listed st rs=some (i,x,s,q)→
 i∈rs∧∃ o s0,ops[i]?=some o∧Region.free .any ops listed i=true∧qrv P ops st o=some (x,s0,q)∧qb7 s0 o.dst x=some s
 | [],_,_,_,_,h=>by cases h
 | j::r,i,x,s,q,h=>by
  unfold qlV at h;split at h
  ·rename_i o ho;cases hf:Region.free .any ops listed j
   ·rw[hf,cond_false] at h;obtain⟨h1,h2⟩:=qfb h;exact⟨List.mem_cons_of_mem _ h1,h2⟩
   ·rw[hf,cond_true] at h;split at h
    ·rename_i x' s' q' hs;split at h
     ·rename_i s2 hp;simp only[Option.some.injEq,Prod.mk.injEq] at h;obtain⟨rfl,rfl,rfl,rfl⟩:=h;exact⟨List.mem_cons_self,o,s',ho,hf,hs,hp⟩
     ·cases h
    ·obtain⟨h1,h2⟩:=qfb h;exact⟨List.mem_cons_of_mem _ h1,h2⟩
  ·cases h
theorem qdD:∀ {a b:List Nat},qhm a b=true→a=b
 | [],[],_=>rfl
 | x::l,y::r,h=>by
  simp only[qhm,Bool.and_eq_true] at h;rw[Nat.eq_of_beq_eq_true h.1,qdD h.2]
theorem qfi {x:Option Bool} (h:qkb x=true):x=some true:=by
 cases x with
 | none=>cases h
 | some b=>cases b<;>first | rfl | cases h
theorem qbo {i:Nat} {o:Oper} {K:Act→World→Prop} {a:Act} {w:World} {u:Value} (hi:ops[i]?=some o) (hw:Region.wanted o (yielded ops a.tmps)=true) (he:(execOp a.eval o).run P w=.ok (.value u) w) (hk:K (a.put o.dst u) w):wpOp P ops Q i K a w:=by
 unfold wpOp;rw[hi];simp only[hw,if_true];refine Or.inl ?_;unfold Oper.wp;rw[he];exact hk
theorem qk8 {a:Act} {d e:Nat} {u v:Value} (h:d≠e):(a.put (some d) u).put (some e) v=(a.put (some e) v).put (some d) u:=by
 simp only[Act.put];rw[Array.setIfInBounds_comm _ _ h]
theorem qvo {listed:Array Bool} {st s:St} {q:List Prop} {β:Bl} {a:Act} {w:World} {i j n:Nat} {Q:Exit→Act→World→Prop} (hs:Region.noSelect ops=true) (hr:Region.ready .any ops listed=[i,j]) (h:qzj P ops listed st i j=some (s,q)) (hq:qba q) (R:Rel W0 lo β st a w)
 (k:∀ a',Rel W0 lo β s a' w→wpAny P .any ops Q n ((listed.setIfInBounds i true).setIfInBounds j true) a' w):wpAny P .any ops Q (n+2) listed a w:=by
 unfold qzj at h;split at h
 ·rename_i oi oj hoi hoj;split at h
  ·rename_i di dj hdi hdj;cases hb:(qgn oi.op&&(qgn oj.op&&(!Nat.beq di dj&&(!Nat.beq i j&&(qkb (qbE ops st oi)&&(qkb (qbE ops st oj)&&(((oj.looksAt ops).all fun d=>!Nat.beq di d)&&(((oi.looksAt ops).all fun d=>!Nat.beq dj d)&&(qhm (Region.ready .any ops (listed.setIfInBounds i true)) [j]&&qhm (Region.ready .any ops (listed.setIfInBounds j true)) [i])))))))))
   ·rw[hb] at h;cases h
   ·rw[hb,cond_true] at h;simp only[Bool.and_eq_true,Bool.not_eq_true'] at hb;obtain⟨_,_,hd,hij,w1,w2,l1,l2,r1,r2⟩:=hb
    have hd:di≠dj:=fun e=>by rw[e,Nat.beq_refl] at hd;cases hd
    have hij:i≠j:=fun e=>by rw[e,Nat.beq_refl] at hij;cases hij
    split at h
    ·rename_i x q1 y q2 ho1 ho2;split at h
     ·rename_i s1 hp1;split at h
      ·rename_i s2 hp2;simp only[Option.some.injEq,Prod.mk.injEq] at h;obtain⟨rfl,rfl⟩:=h;obtain⟨a1,a2⟩:=qav hq
       have hlooks:∀ (o:Oper),∀ d,d∈o.looksAt ops→(qaZ st.tm d).is β (a.tmps.getD d undef):=fun _ d _=>R.t.tmps d
       have hw1:=qaE (qfi w1) (hlooks oi);have hw2:=qaE (qfi w2) (hlooks oj);obtain⟨p1,p2,p3,p4⟩:=qbO (op:=oi.op) (st:=st) rfl;have R1:Rel W0 lo β (qaV oi.op st).2 a w:=⟨by rw[p1,p2];exact R.t,by rw[p3];exact R.h,by rw[p4];exact R.dom,by rw[p4];exact R.lo⟩;obtain⟨p1,p2,p3,p4⟩:=qbO (op:=oj.op) (st:=(qaV oi.op st).2) rfl;have R2:Rel W0 lo β (qaV oj.op (qaV oi.op st).2).2 a w:=⟨by rw[p1,p2];exact R1.t,by rw[p3];exact R1.h,by rw[p4];exact R1.dom,by rw[p4];exact R1.lo⟩;obtain⟨u,hu,e1⟩:=qbA ho1 a1 R1.h (fun y _=>R1.t.ev y);obtain⟨v,hv,e2⟩:=qbA ho2 a2 R2.h (fun y _=>R2.t.ev y)
       have n1:∀ d,some di=some d→d∉oj.looksAt ops:=fun d e hm=>by
        cases e;have:=List.all_eq_true.1 l1 _ hm;rw[Nat.beq_refl] at this;cases this
       have n2:∀ d,some dj=some d→d∉oi.looksAt ops:=fun d e hm=>by
        cases e;have:=List.all_eq_true.1 l2 _ hm;rw[Nat.beq_refl] at this;cases this
       have hns:∀ (k:Nat) (o:Oper),ops[k]?=some o→∀ cs b,o.op≠.select cs b:=fun k o ho cs b=>Region.noSelect_spec hs k o cs b ho
       obtain⟨t1,t2,t3,t4⟩:=R2.t.put hp1 hu;have R3:Rel W0 lo β s1 (a.put (some di) u) w:=⟨t1,by rw[t2];exact R2.h,by rw[t3];exact R2.dom,by rw[t3];exact R2.lo⟩;obtain⟨t1,t2,t3,t4⟩:=R3.t.put hp2 hv;have R4:Rel W0 lo β s2 ((a.put (some di) u).put (some dj) v) w:=⟨t1,by rw[t2];exact R3.h,by rw[t3];exact R3.dom,by rw[t3];exact R3.lo⟩
       refine wpAny_all hr (by simp) fun m hm=>?_
       simp only[List.mem_cons,List.not_mem_nil,or_false] at hm
       rcases hm with rfl | rfl
       ·refine qbo hoi hw1 e1 (wpAny_all (qdD r1) (by simp) fun m' hm'=>?_);rw[List.mem_singleton] at hm';subst hm';rw[hdi];refine qbo hoj (by rw[wanted_put oj a (some di) u n1];exact hw2) (by rw[execOp_put oj (hns _ _ hoj) a (some di) u n1];exact e2) ?_;rw[hdj];exact k _ R4
       ·refine qbo hoj hw2 e2 (wpAny_all (qdD r2) (by simp) fun m' hm'=>?_);rw[List.mem_singleton] at hm';subst hm';rw[hdj];refine qbo hoi (by rw[wanted_put oi a (some dj) v n2];exact hw1) (by rw[execOp_put oi (hns _ _ hoi) a (some dj) v n2];exact e1) ?_;rw[hdi,qk8 (Ne.symm hd),Array.setIfInBounds_comm _ _ (Ne.symm hij)];exact k _ R4
      ·cases h
     ·cases h
    ·cases h
  ·cases h
 ·cases h
theorem qdi (hcall:qb4 P call) (hs:Region.noSelect ops=true):∀ (n:Nat) (listed:Array Bool) {st st':St} {q:List Prop} {β:Bl} {a:Act} {w:World},qeJ P call lo ops n listed st=some (st',q)→qba q→Rel W0 lo β st a w→
 (∀ β' a' w',β.le β'→Rel W0 lo β' st' a' w'→Q .normal a' w')→wpAny P .any ops (fun e a w=>e=.normal∧Q .normal a w) n listed a w
 | 0,listed,st,st',q,β,a,w,h,_,R,hQ=>by
  unfold qeJ at h;split at h
  ·rename_i hr;simp only[Option.some.injEq,Prod.mk.injEq] at h;obtain⟨rfl,rfl⟩:=h;exact⟨hr,rfl,hQ β a w (Bl.le_refl _) R⟩
  ·cases h
 | n+1,listed,st,st',q,β,a,w,h,hq,R,hQ=>by
  unfold qeJ at h;split at h
  ·rename_i hr;simp only[Option.some.injEq,Prod.mk.injEq] at h;obtain⟨rfl,rfl⟩:=h;exact wpAny_done hr ⟨rfl,hQ β a w (Bl.le_refl _) R⟩ _
  ·rename_i i hr;split at h
   ·rename_i o ho;split at h
    ·rename_i st2 q2 h2;split at h
     ·rename_i st3 q3 h3;simp only[Option.some.injEq,Prod.mk.injEq] at h;obtain⟨rfl,rfl⟩:=h;obtain⟨a1,a2⟩:=qav hq
      refine wpAny_all hr (by simp) fun j hj=>?_
      rw[List.mem_singleton] at hj;subst hj;refine qgp ho ?_
      exact qeA hcall h2 a1 R fun β' a' w' hle R'=>⟨rfl,qdi hcall hs n _ h3 a2 R' fun β'' a'' w'' hle' R''=>hQ β'' a'' w'' (Bl.le_trans hle hle') R''⟩
     ·cases h
    ·cases h
   ·cases h
  ·split at h
   ·rename_i i x st2 q2 h2;split at h
    ·rename_i st3 q3 h3;simp only[Option.some.injEq,Prod.mk.injEq] at h;obtain⟨rfl,rfl⟩:=h;obtain⟨a1,a2⟩:=qav hq;obtain⟨hi,o,s0,ho,hf,hst,hp⟩:=qfb h2;obtain⟨t1,t2,t3,t4,v,hy,hx⟩:=qlg hst (fun cs b=>Region.noSelect_spec hs i o cs b ho) a1 R
     have T:TRel β s0.tm s0.n a:=by rw[t1,t2];exact R.t
     obtain⟨r1,r2,r3,r4⟩:=T.put hp hx;refine wpAny_take ho hs hf (by simpa using hi) (fun c a w k=>(by cases k.1)) hy ?_;exact qdi hcall hs n _ h3 a2 ⟨r1,by rw[r2,t3];exact R.h,by rw[r3,t4];exact R.dom,by rw[r3,t4];exact R.lo⟩ hQ
    ·cases h
   ·split at h
    ·rename_i n' i j hr;split at h
     ·rename_i st2 q2 h2;split at h
      ·rename_i st3 q3 h3;simp only[Option.some.injEq,Prod.mk.injEq] at h;obtain⟨rfl,rfl⟩:=h;obtain⟨a1,a2⟩:=qav hq
       exact qvo hs hr h2 a1 R fun a' R'=>qdi hcall hs n' _ h3 a2 R' hQ
      ·cases h
     ·cases h
    ·cases h
theorem qnW (hcall:qb4 P call) (hs:Region.noSelect ops=true) (n:Nat) (listed:Array Bool) {st st':St} {q:List Prop} {β:Bl} {a:Act} {w:World} (h:qeJ P call lo ops n listed st=some (st',q)) (hq:qba q) (R:Rel W0 lo β st a w)
 (hQ:∀ β' a' w',β.le β'→Rel W0 lo β' st' a' w'→Q .normal a' w'):wpAny P .any ops Q n listed a w:=
 qdz (fun e a w k=>by obtain⟨rfl,k⟩:=k;exact k) n listed a w (qdi hcall hs n listed h hq R hQ)
end
end Go.Proofs.YtkckcgpmnipnaaaGreat
