/-
  A region that draws its order, over blocks by name: one walk of the text's order serves every order. Conditions: none.
-/
import Derived.Test.YtkckcgpmnipnaaaGreatSxE
namespace Go.Proofs.YtkckcgpmnipnaaaGreat
set_option maxRecDepth 100000
open Go.RowKit
def S0.own (n:Nat):S0→Bool
 | .pv _=>true
 | .pp b _=>Nat.ble (b+1) n
 | .ps b _ _ _=>Nat.ble (b+1) n
 | .ls b _=>Nat.ble (b+1) n
 | .lq b _ _ _=>Nat.ble (b+1) n
 | .lp b _=>Nat.ble (b+1) n
 | .mp b=>Nat.ble (b+1) n
def S1.own (n:Nat):S1→Bool
 | .one s=>s.own n
 | .ag l=>l.all (S0.own n)
def SV.own (n:Nat):SV→Bool
 | .pv _=>true
 | .pp b _=>Nat.ble (b+1) n
 | .ps b _ _ _=>Nat.ble (b+1) n
 | .ls b _=>Nat.ble (b+1) n
 | .lq b _ _ _=>Nat.ble (b+1) n
 | .lp b _=>Nat.ble (b+1) n
 | .mp b=>Nat.ble (b+1) n
 | .pc _ cap=>cap.all (S0.own n)
 | .ag l=>l.all (S0.own n)
 | .tu l=>l.all (S1.own n)
 | .any=>true
 | .row ..=>true
 | .mrow _=>true
theorem S0.own_is {n:Nat} {β γ:Bl} (h:γ.sub n β) {s:S0} {x:Value} (ho:s.own n=true) (k:s.is γ x):s.is β x:=by
 cases s with
 | pv y=>exact k
 | pp b o=>obtain⟨r,h1,h2⟩:=k;exact⟨r,h.1 _ _ (Nat.le_of_ble_eq_true ho) h1,h2⟩
 | ps b o l c=>obtain⟨r,h1,h2⟩:=k;exact⟨r,h.1 _ _ (Nat.le_of_ble_eq_true ho) h1,h2⟩
 | ls b l=>exact⟨h.2 _ _ (Nat.le_of_ble_eq_true ho) k.1,k.2⟩
 | lq b es kk l=>obtain⟨a,m,c,a',c',h1,h2⟩:=k;exact⟨a,m,c,a',c',h.2 _ _ (Nat.le_of_ble_eq_true ho) h1,h2⟩
 | lp b q=>obtain⟨r,o,m,c,h1,h2⟩:=k;exact⟨r,o,m,c,h.2 _ _ (Nat.le_of_ble_eq_true ho) h1,h2⟩
 | mp b=>obtain⟨r,h1,h2⟩:=k;exact⟨r,h.1 _ _ (Nat.le_of_ble_eq_true ho) h1,h2⟩
theorem S0.own_isl {n:Nat} {β γ:Bl} (h:γ.sub n β):∀ {ss:List S0} {vs:List Value},ss.all (S0.own n)=true→S0.isl γ ss vs→S0.isl β ss vs
 | [],[],_,_=>trivial
 | [],_::_,_,k=>k.elim
 | _::_,[],_,k=>k.elim
 | _::_,_::_,ho,k=>by
  simp only[List.all_cons,Bool.and_eq_true] at ho;exact⟨S0.own_is h ho.1 k.1,S0.own_isl h ho.2 k.2⟩
theorem S1.own_is {n:Nat} {β γ:Bl} (h:γ.sub n β) {s:S1} {x:Value} (ho:s.own n=true) (k:s.is γ x):s.is β x:=by
 cases s with
 | one s=>exact S0.own_is h ho k
 | ag l=>obtain⟨vs,h1,h2⟩:=k;exact⟨vs,S0.own_isl h ho h1,h2⟩
theorem S1.own_isl {n:Nat} {β γ:Bl} (h:γ.sub n β):∀ {ss:List S1} {vs:List Value},ss.all (S1.own n)=true→S1.isl γ ss vs→S1.isl β ss vs
 | [],[],_,_=>trivial
 | [],_::_,_,k=>k.elim
 | _::_,[],_,k=>k.elim
 | _::_,_::_,ho,k=>by
  simp only[List.all_cons,Bool.and_eq_true] at ho;exact⟨S1.own_is h ho.1 k.1,S1.own_isl h ho.2 k.2⟩
theorem SV.own_is {n:Nat} {β γ:Bl} (h:γ.sub n β) {s:SV} {x:Value} (ho:s.own n=true) (k:s.is γ x):s.is β x:=by
 cases s with
 | pv y=>exact k
 | pp b o=>exact S0.own_is (s:=.pp b o) h ho k
 | ps b o l c=>exact S0.own_is (s:=.ps b o l c) h ho k
 | ls b l=>exact S0.own_is (s:=.ls b l) h ho k
 | lq b es kk l=>exact S0.own_is (s:=.lq b es kk l) h ho k
 | lp b q=>exact S0.own_is (s:=.lp b q) h ho k
 | mp b=>exact S0.own_is (s:=.mp b) h ho k
 | pc f cap=>obtain⟨vs,h1,h2⟩:=k;exact⟨vs,S0.own_isl h ho h1,h2⟩
 | ag l=>obtain⟨vs,h1,h2⟩:=k;exact⟨vs,S0.own_isl h ho h1,h2⟩
 | tu l=>obtain⟨vs,h1,h2⟩:=k;exact⟨vs,S1.own_isl h ho h1,h2⟩
 | any=>trivial
 | row e es m xs=>exact k
 | mrow xs=>exact k
theorem SV.own_isl {n:Nat} {β γ:Bl} (h:γ.sub n β):∀ {ss:List SV} {vs:List Value},ss.all (SV.own n)=true→SV.isl γ ss vs→SV.isl β ss vs
 | [],[],_,_=>trivial
 | [],_::_,_,k=>k.elim
 | _::_,[],_,k=>k.elim
 | _::_,_::_,ho,k=>by
  simp only[List.all_cons,Bool.and_eq_true] at ho;exact⟨SV.own_is h ho.1 k.1,SV.own_isl h ho.2 k.2⟩
def S0.inR (n m:Nat):S0→Bool
 | .pv _=>true
 | .pp b _=>Nat.ble n b&&Nat.ble (b+1) m
 | .ps b _ _ _=>Nat.ble n b&&Nat.ble (b+1) m
 | _=>false
def SV.inR (n m:Nat):SV→Bool
 | .pv _=>true
 | .pp b _=>Nat.ble n b&&Nat.ble (b+1) m
 | .ps b _ _ _=>Nat.ble n b&&Nat.ble (b+1) m
 | .pc _ cap=>cap.all (S0.inR n m)
 | .any=>true
 | _=>false
theorem S0.inR_is {n m:Nat} {β γ:Bl} (h:∀ b r,n≤b→b<m→γ b=some r→β b=some r) {s:S0} {x:Value} (ho:s.inR n m=true) (k:s.is γ x):s.is β x:=by
 cases s with
 | pv y=>exact k
 | pp b o=>simp only[S0.inR,Bool.and_eq_true] at ho;obtain⟨r,h1,h2⟩:=k;exact⟨r,h _ _ (Nat.le_of_ble_eq_true ho.1) (Nat.le_of_ble_eq_true ho.2) h1,h2⟩
 | ps b o l c=>simp only[S0.inR,Bool.and_eq_true] at ho;obtain⟨r,h1,h2⟩:=k;exact⟨r,h _ _ (Nat.le_of_ble_eq_true ho.1) (Nat.le_of_ble_eq_true ho.2) h1,h2⟩
 | _=>cases ho
theorem S0.inR_isl {n m:Nat} {β γ:Bl} (h:∀ b r,n≤b→b<m→γ b=some r→β b=some r):∀ {ss:List S0} {vs:List Value},ss.all (S0.inR n m)=true→S0.isl γ ss vs→S0.isl β ss vs
 | [],[],_,_=>trivial
 | [],_::_,_,k=>k.elim
 | _::_,[],_,k=>k.elim
 | _::_,_::_,ho,k=>by
  simp only[List.all_cons,Bool.and_eq_true] at ho;exact⟨S0.inR_is h ho.1 k.1,S0.inR_isl h ho.2 k.2⟩
theorem SV.inR_is {n m:Nat} {β γ:Bl} (h:∀ b r,n≤b→b<m→γ b=some r→β b=some r) {s:SV} {x:Value} (ho:s.inR n m=true) (k:s.is γ x):s.is β x:=by
 cases s with
 | pv y=>exact k
 | pp b o=>exact S0.inR_is (s:=.pp b o) h ho k
 | ps b o l c=>exact S0.inR_is (s:=.ps b o l c) h ho k
 | pc f cap=>obtain⟨vs,h1,h2⟩:=k;exact⟨vs,S0.inR_isl h ho h1,h2⟩
 | any=>trivial
 | _=>cases ho
inductive Eff where
 | new (cells:List SV)
 | sto (b o:Nat) (cells:List SV)
 | get (b:Nat)
 | many (k:Nat) (cells:List (Nat×Nat×SV))
def qu3:Option Eff→Nat
 | some (.new _)=>1
 | some (.many k _)=>k
 | _=>0
def qgE (n:Nat):Nat→List Nat
 | 0=>[]
 | k+1=>n::qgE (n+1) k
def qb9 (l:List Nat) (b:Nat):Bool:=l.any fun c=>Nat.beq c b
theorem qed {b:Nat}:∀ {k n:Nat},qb9 (qgE n k) b=true↔n≤b∧b<n+k
 | 0,n=>by simp[qgE,qb9]
 | k+1,n=>by
  have ih:=qed (b:=b) (k:=k) (n:=n+1);unfold qb9 at ih ⊢;rw[qgE,List.any_cons,Bool.or_eq_true,ih];constructor
  ·rintro (h | h)
   ·have:=Nat.eq_of_beq_eq_true h;omega
   ·omega
  ·intro h;by_cases e:n=b
   ·subst e;exact Or.inl (Nat.beq_refl n)
   ·exact Or.inr (by omega)
theorem qbF {b:Nat}:qb9 [b] b=true:=by simp[qb9,Nat.beq_refl]
def qck (n:Nat):Option Eff→List Nat
 | some (.new _)=>[n]
 | some (.sto b _ _)=>[b]
 | some (.many k _)=>qgE n k
 | some (.get _)=>[]
 | none=>[]
def qn9:Option Eff→Option Nat
 | some (.get b)=>some b
 | _=>none
def qjV (n:Nat) (al:Option Eff) (hp:List (Nat×Nat×SV)):List (Nat×Nat×SV):=
 match al with
 | none=>hp
 | some (.new cells)=>qa8 n 0 cells hp
 | some (.sto b o cells)=>qa8 b o cells hp
 | some (.get _)=>hp
 | some (.many k cells)=>(cells.filter fun e=>Nat.ble n e.1&&Nat.ble (e.1+1) (n+k))++hp
def qEJ (P:Program) (st:St) (o:Oper):Option (Nat×Nat×List SV):=
 match o.op with
 | .store t x y=>match st.ev x with
  | .pp b q=>match P.info? t with
   | some i=>bif Nat.beq (cellsOf (st.ev y)).length i.size&&(cellsOf (st.ev y)).all qjj then some (b,q,cellsOf (st.ev y)) else none
   | none=>none
  | _=>none
 | _=>none
def qAg:Op→Bool
 | .store ..=>true
 | _=>false
def qDF (st:St) (o:Oper):Option Nat:=
 match o.op with
 | .load _ x=>match st.ev x with
  | .pp b _=>some b
  | _=>none
 | _=>none
def atB (b:Nat) (hp:List (Nat×Nat×SV)):List (Nat×Nat×SV):=hp.filter fun e=>Nat.beq e.1 b
def qeo (P:Program) (call:qbi) (lo nb0:Nat) (ops:Array Oper) (o:Oper) (st:St) (full:List (Nat×Nat×SV)):Option (St×Option Eff×List Prop):=
 match qbE ops st o with
 | some true=>bif qAg o.op then
  match qEJ P st o with
  | some (b,i,cells)=>bif Nat.ble lo b&&qhI full b i cells.length then
   match qb7 st o.dst (.pv undef) with
   | some s=>some (s,some (.sto b i cells),[])
   | none=>none
   else none
  | none=>none
  else match opS P (qaV o.op st).2 o (qaV o.op st).1 with
  | some (.val x,q)=>match qb7 (qaV o.op st).2 o.dst x with
   | some s=>some (s,none,q)
   | none=>none
  | some (.new _ cells len,q)=>match qb7 { (qaV o.op st).2 with nb:=(qaV o.op st).2.nb+1 } o.dst (qtO (qaV o.op st).2.nb len) with
   | some s=>some (s,some (.new cells),q)
   | none=>none
  | some (.call f args,q)=>bif args.all (SV.own nb0) then
   match call nb0 f args (qaV o.op st).1 { (qaV o.op st).2 with nb:=nb0 } with
   | some (.pv v,s,q2)=>match qb7 { (qaV o.op st).2 with ch:=s.ch } o.dst (.pv v) with
    | some s'=>some (s',none,q++q2)
    | none=>none
   | some (.pc _ _,_,_)=>match call st.nb f args (qaV o.op st).1 (qaV o.op st).2 with
    | some (.pc g caps,s,q2)=>bif Nat.ble st.nb s.nb&&caps.all (S0.inR st.nb s.nb)&&s.hp.all (fun e=>!(Nat.ble st.nb e.1&&Nat.ble (e.1+1) s.nb)||e.2.2.inR st.nb s.nb) then
     match qb7 { (qaV o.op st).2 with ch:=s.ch,nb:=s.nb } o.dst (.pc g caps) with
     | some s'=>some (s',some (.many (s.nb-st.nb) s.hp),q++q2)
     | none=>none
     else none
    | _=>none
   | _=>none
   else none
  | none=>match qDF st o with
   | some b=>match opS P { (qaV o.op st).2 with hp:=atB b full } o (qaV o.op st).1 with
    | some (.val x,q)=>match qb7 (qaV o.op st).2 o.dst x with
     | some s=>some (s,some (.get b),q)
     | none=>none
    | _=>none
   | none=>none
  | _=>none
 | some false=>match qb7 st o.dst (.pv undef) with
  | some s=>some (s,none,[])
  | none=>none
 | none=>none
structure Head where
 st:St
 hp:List (Nat×Nat×SV)
 q:List Prop
 bl:List (List Nat)
 gl:List (Option Nat)
 rest:List Oper
def qb3 (P:Program) (call:qbi) (lo nb0:Nat) (ops:Array Oper):List Oper→St→List (Nat×Nat×SV)→Head
 | [],st,hp=>⟨st,hp,[],[],[],[]⟩
 | o::r,st,hp=>
  match qeo P call lo nb0 ops o st hp with
  | some (s,al,q)=>match qb3 P call lo nb0 ops r s (qjV st.nb al hp) with
   | ⟨s',hp',q',bl,gl,rest⟩=>⟨s',hp',q++q',qck st.nb al::bl,qn9 al::gl,rest⟩
  | none=>⟨st,hp,[],[],[],o::r⟩
def qgG (ops:Array Oper) (n:Nat):Bool:=
 (List.range n).all fun j=>match ops[j]? with
  | some o=>o.after.toList.all fun e=>!Region.binds .any e||Nat.ble (e.on+1) j
  | none=>false
def qev (ops:Array Oper) (n:Nat):Bool:=
 (List.range n).all fun j=>match (ops[j]?).bind (·.dst) with
  | some d=>(List.range j).all fun i=>match (ops[i]?).bind (·.dst) with
   | some e=>!Nat.beq d e
   | none=>true
  | none=>true
def qdn (ops:Array Oper) (n:Nat):Bool:=
 (List.range n).all fun j=>match ops[j]? with
  | some o=>(o.looksAt ops).all fun d=>(List.range n).all fun i=>match (ops[i]?).bind (·.dst) with
   | some e=>!Nat.beq d e||Nat.beq i j||(bif Nat.ble (i+1) j then Region.waitsFor .any ops j i else Region.waitsFor .any ops i j)
   | none=>true
  | none=>false
def qga (ops:Array Oper) (bl:List (List Nat)) (n:Nat):Bool:=
 (List.range n).all fun k=>match bl[k]? with
  | some l=>(List.range k).all fun i=>match bl[i]? with
   | some m=>!(l.any fun b=>qb9 m b)||Region.waitsFor .any ops k i
   | none=>true
  | none=>true
def qdq (ops:Array Oper) (k i:Nat):Bool:=Region.waitsFor .any ops k i||match ops[k]? with
 | some o=>o.after.toList.any fun e=>Region.binds .any e&&Region.waitsFor .any ops e.on i
 | none=>false
def qni (ops:Array Oper) (bl:List (List Nat)) (gl:List (Option Nat)) (n:Nat):Bool:=
 (List.range n).all fun i=>match gl[i]? with
  | some (some b)=>(List.range n).all fun k=>match bl[k]? with
   | some l=>!qb9 l b||(bif Nat.ble (k+1) i then qdq ops i k else qdq ops k i)
   | _=>true
  | _=>true
def qf6 (hp:List (Nat×Nat×SV)) (bl:List (List Nat)):Bool:=bl.all fun l=>hp.all fun e=>!qb9 l e.1
def qfw (m n:Nat):Array Bool:=((List.replicate n true)++(List.replicate (m-n) false)).toArray
def qxx (ops:Array Oper) (n:Nat):Bool:=
 Nat.ble n ops.size&&Region.noSelect ops&&qgG ops n&&qev ops n&&qdn ops n&&
 (Nat.beq n ops.size||(Region.sinkB .any ops n&&Region.chainB .any ops n&&Region.seqB .any ops (ops.size-n) n (qfw ops.size n)))
def qcE (sts:Nat→St) (als:Nat→Option Eff) (hp:List (Nat×Nat×SV)):Nat→List (Nat×Nat×SV)
 | 0=>hp
 | n+1=>qjV (sts n).nb (als n) (qcE sts als hp n)
structure Trace (P:Program) (call:qbi) (lo nb0:Nat) (ops:Array Oper) (hp:List (Nat×Nat×SV)) (n:Nat) (sts:Nat→St) (als:Nat→Option Eff):Prop where
 one:∀ j,j<n→∃ o q,ops[j]?=some o∧qeo P call lo nb0 ops o (sts j) (qcE sts als hp j)=some (sts (j+1),als j,q)∧qba q
theorem qfY {P:Program} {call:qbi} {lo nb0:Nat} {ops:Array Oper}:∀ (l:List Oper) (k:Nat) (st:St) (hp:List (Nat×Nat×SV)),(∀ j,l[j]?=ops[k+j]?)→qba (qb3 P call lo nb0 ops l st hp).q→
 ∃ (n:Nat) (sts:Nat→St) (als:Nat→Option Eff),n≤l.length∧sts 0=st∧(qb3 P call lo nb0 ops l st hp).st=sts n∧(qb3 P call lo nb0 ops l st hp).hp=qcE sts als hp n∧
  (qb3 P call lo nb0 ops l st hp).rest=l.drop n∧(∀ j,j<n→(qb3 P call lo nb0 ops l st hp).bl[j]?=some (qck (sts j).nb (als j))∧(qb3 P call lo nb0 ops l st hp).gl[j]?=some (qn9 (als j)))∧
  ∀ j,j<n→∃ o q,ops[k+j]?=some o∧qeo P call lo nb0 ops o (sts j) (qcE sts als hp j)=some (sts (j+1),als j,q)∧qba q
 | [],k,st,hp,_,_=>⟨0,fun _=>st,fun _=>none,by simp,rfl,rfl,rfl,rfl,fun j hj=>absurd hj (Nat.not_lt_zero j),fun j hj=>absurd hj (Nat.not_lt_zero j)⟩
 | o::r,k,st,hp,hl,hq=>by
  have h0:ops[k]?=some o:=by simpa using (hl 0).symm
  cases h1:qeo P call lo nb0 ops o st hp with
  | none=>
   have hH:qb3 P call lo nb0 ops (o::r) st hp=⟨st,hp,[],[],[],o::r⟩:=by simp only[qb3,h1]
   rw[hH];exact⟨0,fun _=>st,fun _=>none,by simp,rfl,rfl,rfl,rfl,fun j hj=>absurd hj (Nat.not_lt_zero j),fun j hj=>absurd hj (Nat.not_lt_zero j)⟩
  | some z=>
   obtain⟨s,al,q⟩:=z
   have he:qb3 P call lo nb0 ops (o::r) st hp=⟨(qb3 P call lo nb0 ops r s (qjV st.nb al hp)).st,(qb3 P call lo nb0 ops r s (qjV st.nb al hp)).hp,q++(qb3 P call lo nb0 ops r s (qjV st.nb al hp)).q,
    qck st.nb al::(qb3 P call lo nb0 ops r s (qjV st.nb al hp)).bl,qn9 al::(qb3 P call lo nb0 ops r s (qjV st.nb al hp)).gl,(qb3 P call lo nb0 ops r s (qjV st.nb al hp)).rest⟩:=by
    simp only[qb3,h1]
   rw[he] at hq ⊢;obtain⟨a1,a2⟩:=qav hq;obtain⟨n,sts,als,b1,b2,b3,b4,b5,b7,b6⟩:=qfY r (k+1) s (qjV st.nb al hp) (fun j=>by have:=hl (j+1);simpa [Nat.add_assoc,Nat.add_comm 1 j] using this) a2
   have hL:∀ m,qcE (fun j=>match j with | 0=>st | j+1=>sts j) (fun j=>match j with | 0=>al | j+1=>als j) hp (m+1)=qcE sts als (qjV st.nb al hp) m:=by
    intro m
    induction m with
    | zero=>rfl
    | succ m ih=>rw[qcE,ih];rfl
   refine⟨n+1,fun j=>match j with | 0=>st | j+1=>sts j,fun j=>match j with | 0=>al | j+1=>als j,by simp;omega,rfl,b3,?_,?_,fun j hj=>?_,fun j hj=>?_⟩
   ·rw[hL];exact b4
   ·simpa using b5
   ·cases j with
    | zero=>exact⟨rfl,rfl⟩
    | succ j=>simpa using b7 j (by omega)
   ·cases j with
    | zero=>exact⟨o,q,by simpa using h0,by rw[← b2] at h1;exact h1,a1⟩
    | succ j=>
     obtain⟨o',q',c1,c2,c3⟩:=b6 j (by omega);exact⟨o',q',by rw[show k+(j+1)=k+1+j by omega];exact c1,by rw[hL];exact c2,c3⟩
def cnt (listed:Array Bool):Nat→Nat
 | 0=>0
 | n+1=>cnt listed n+(bif listed.getD n true then 0 else 1)
theorem qfN {listed:Array Bool} {i:Nat}:∀ {n:Nat},n≤i→cnt (listed.setIfInBounds i true) n=cnt listed n
 | 0,_=>rfl
 | n+1,h=>by rw[cnt,cnt,qfN (by omega),getD_set_ne true (by omega)]
theorem qjI {listed:Array Bool} {i:Nat} (hu:listed.getD i true=false):∀ {n:Nat},i<n→cnt (listed.setIfInBounds i true) n+1=cnt listed n
 | 0,h=>by omega
 | n+1,h=>by
  rw[cnt,cnt];by_cases e:i=n
  ·subst e;rw[qfN (Nat.le_refl _),hu]
   have:(listed.setIfInBounds i true).getD i true=true:=by
    rw[Array.getD_eq_getD_getElem?,Array.getElem?_setIfInBounds,if_pos rfl]
    split<;>rfl
   rw[this];rfl
  ·rw[getD_set_ne true (by omega)];have:=qjI hu (n:=n) (by omega);omega
theorem qe9 {listed:Array Bool}:∀ {n:Nat},cnt listed n=0→∀ j,j<n→listed.getD j true=true
 | 0,_,j,hj=>by omega
 | n+1,h,j,hj=>by
  rw[cnt] at h;by_cases e:j=n
  ·subst e;cases hb:listed.getD j true
   ·rw[hb] at h;simp at h
   ·rfl
  ·exact qe9 (listed:=listed) (n:=n) (by omega) j (by omega)
theorem qjt {listed:Array Bool}:∀ {n:Nat},0<cnt listed n→∃ j,j<n∧listed.getD j true=false∧∀ i,i<j→listed.getD i true=true
 | 0,h=>by simp[cnt] at h
 | n+1,h=>by
  by_cases hc:cnt listed n=0
  ·rw[cnt,hc] at h;refine⟨n,by omega,?_,qe9 hc⟩;cases hb:listed.getD n true
   ·rfl
   ·rw[hb] at h;simp at h
  ·obtain⟨j,h1,h2⟩:=qjt (listed:=listed) (n:=n) (by omega);exact⟨j,by omega,h2⟩
theorem qg8 (m:Nat):∀ n,n≤m→cnt (Array.replicate m false) n=n
 | 0,_=>rfl
 | n+1,h=>by
  rw[cnt,qg8 m n (by omega)]
  have:(Array.replicate m false).getD n true=false:=by rw[Array.getD_eq_getD_getElem?,Array.getElem?_replicate,if_pos (by omega)];rfl
  rw[this];rfl
def ixP:List Nat→Nat→Nat
 | [],_=>0
 | a::r,j=>bif Nat.beq a j then 0 else ixP r j+1
def qmX (π:List Nat) (o:Oper):Oper:={ o with after:=o.after.map fun e=>{ e with on:=ixP π e.on },guard:=o.guard.map fun g=>(ixP π g.1,g.2) }
def qe5 (π:List Nat) (ops:Array Oper):Array Oper:=(π.map fun i=>qmX π (ops.getD i default)).toArray
def qqP (π:List Nat) (n:Nat):Bool:=
 Nat.beq π.length n&&((List.range n).all fun i=>match π[i]? with
  | some j=>Nat.beq (ixP π j) i&&Nat.ble (j+1) n
  | none=>false)&&(List.range n).all fun j=>Nat.ble (ixP π j+1) n
theorem qjR:∀ (π:List Nat) (j:Nat),ixP π j<π.length→π[ixP π j]?=some j
 | [],_,h=>by simp at h
 | a::r,j,h=>by
  unfold ixP at h ⊢;cases hb:Nat.beq a j
  ·rw[hb] at h;simp only[cond_false,List.length_cons] at h;rw[cond_false,List.getElem?_cons_succ];exact qjR r j (by omega)
  ·have:=Nat.eq_of_beq_eq_true hb;subst this;rfl
structure IsPerm (π:List Nat) (n:Nat):Prop where
 len:π.length=n
 lt:∀ i j:Nat,π[i]?=some j→j<n∧ixP π j=i
 ix:∀ j:Nat,j<n→ixP π j<n
theorem qsu {π:List Nat} {n:Nat} (h:qqP π n=true):IsPerm π n:=by
 unfold qqP at h;simp only[Bool.and_eq_true] at h;obtain⟨⟨h1,h2⟩,h3⟩:=h;have hl:=Nat.eq_of_beq_eq_true h1;refine⟨hl,fun i j hij=>?_,fun j hj=>?_⟩
 ·have hi:i<n:=by rw[← hl];exact (List.getElem?_eq_some_iff.1 hij).1
  have:=List.all_eq_true.1 h2 i (List.mem_range.2 hi);rw[hij] at this;simp only[Bool.and_eq_true] at this;exact⟨Nat.le_of_ble_eq_true this.2,Nat.eq_of_beq_eq_true this.1⟩
 ·exact Nat.le_of_ble_eq_true (List.all_eq_true.1 h3 j (List.mem_range.2 hj))
section
variable {π:List Nat} {n:Nat} {ops:Array Oper}
theorem IsPerm.get (h:IsPerm π n) {j:Nat} (hj:j<n):π[ixP π j]?=some j:=qjR π j (by rw[h.len];exact h.ix j hj)
theorem IsPerm.out (h:IsPerm π n) {j:Nat} (hj:n≤j):n≤ixP π j:=by
 rcases Nat.lt_or_ge (ixP π j) n with h1 | h1
 ·have:=(h.lt _ _ (qjR π j (by rw[h.len];exact h1))).1;omega
 ·exact h1
theorem IsPerm.op (h:IsPerm π ops.size) (j:Nat):(qe5 π ops)[ixP π j]?=(ops[j]?).map (qmX π):=by
 unfold qe5;rw[List.getElem?_toArray,List.getElem?_map]
 rcases Nat.lt_or_ge j ops.size with hj | hj
 ·rw[h.get hj,Array.getElem?_eq_getElem hj];simp[hj]
 ·rw[List.getElem?_eq_none (by rw[h.len];exact h.out hj),Array.getElem?_eq_none hj];rfl
theorem qdh (h:IsPerm π ops.size):(qe5 π ops).size=ops.size:=by unfold qe5;simp[h.len]
def Alike (π:List Nat) (n:Nat) (l l':Array Bool):Prop:=l.size=n∧l'.size=n∧∀ j,j<n→l'[ixP π j]?=l[j]?
theorem Alike.get (h:IsPerm π n) {l l':Array Bool} (k:Alike π n l l') (j:Nat) (d:Bool):l'.getD (ixP π j) d=l.getD j d:=by
 rw[Array.getD_eq_getD_getElem?,Array.getD_eq_getD_getElem?]
 rcases Nat.lt_or_ge j n with hj | hj
 ·rw[k.2.2 j hj]
 ·rw[Array.getElem?_eq_none (by rw[k.2.1];exact h.out hj),Array.getElem?_eq_none (by rw[k.1];exact hj)]
theorem Alike.set (h:IsPerm π n) {l l':Array Bool} (k:Alike π n l l') (j:Nat) (hj:j<n):Alike π n (l.setIfInBounds j true) (l'.setIfInBounds (ixP π j) true):=by
 refine⟨by rw[Array.size_setIfInBounds];exact k.1,by rw[Array.size_setIfInBounds];exact k.2.1,fun i hi=>?_⟩;rw[Array.getElem?_setIfInBounds,Array.getElem?_setIfInBounds];by_cases e:j=i
 ·subst e;rw[if_pos rfl,if_pos rfl,k.1,k.2.1,if_pos (h.ix j hj),if_pos hj]
 ·have hne:ixP π j≠ixP π i:=fun e'=>by
   have h1:=h.get hj;have h2:=h.get hi;rw[e',h2] at h1;exact e (Option.some.inj h1).symm
  rw[if_neg hne,if_neg e];exact k.2.2 i hi
theorem qeg (h:IsPerm π ops.size) {l l':Array Bool} (k:Alike π ops.size l l') (j:Nat):ixP π j∈Region.ready .any (qe5 π ops) l'↔j∈Region.ready .any ops l:=by
 rw[mem_ready,mem_ready,k.get h,h.op];constructor
 ·rintro⟨h1,o',ho,h2⟩
  cases hj:ops[j]? with
  | none=>rw[hj] at ho;cases ho
  | some o=>
   rw[hj] at ho;cases ho;refine⟨h1,o,rfl,fun e he hb=>?_⟩;rw[← k.get h];exact h2 { e with on:=ixP π e.on } (by unfold qmX;exact Array.mem_map.2 ⟨e,he,rfl⟩) hb
 ·rintro⟨h1,o,ho,h2⟩;rw[ho];refine⟨h1,qmX π o,rfl,fun e he hb=>?_⟩;obtain⟨e0,he0,rfl⟩:=Array.mem_map.1 he;exact (k.get h e0.on false).trans (h2 e0 he0 hb)
theorem qlW (h:IsPerm π ops.size) (tmps:Array Value) (j:Nat):yielded (qe5 π ops) tmps (ixP π j)=yielded ops tmps j:=by
 unfold yielded;rw[h.op]
 cases ops[j]?<;>rfl
theorem qjF (h:IsPerm π ops.size) (o:Oper) (tmps:Array Value):Region.wanted (qmX π o) (yielded (qe5 π ops) tmps)=Region.wanted o (yielded ops tmps):=by
 unfold Region.wanted qmX
 cases o.guard with
 | none=>rfl
 | some g=>simp only[Option.map_some,qlW h]
theorem qnt {P:Program} {Q:Exit→Act→World→Prop} (h:IsPerm π ops.size) (j:Nat) (K:Act→World→Prop) (a:Act) (w:World) (k:wpOp P (qe5 π ops) Q (ixP π j) K a w):wpOp P ops Q j K a w:=by
 unfold wpOp at *;rw[h.op] at k
 cases hj:ops[j]? with
 | none=>rw[hj] at k;exact k
 | some o=>
  rw[hj] at k;simp only[Option.map_some,qjF h] at k;exact k
theorem qmV {P:Program} {Q:Exit→Act→World→Prop} (h:IsPerm π ops.size):∀ (fuel:Nat) (l l':Array Bool) (a:Act) (w:World),Alike π ops.size l l'→wpAny P .any (qe5 π ops) Q fuel l' a w→wpAny P .any ops Q fuel l a w:=by
 have none_of:∀ l l',Alike π ops.size l l'→(Region.ready .any (qe5 π ops) l'=[]↔Region.ready .any ops l=[]):=fun l l' k=>by
  constructor
  ·intro hr;apply List.eq_nil_iff_forall_not_mem.2;intro j hj;have:=(qeg h k j).2 hj;rw[hr] at this;cases this
  ·intro hr;apply List.eq_nil_iff_forall_not_mem.2;intro i hi
   have hi':i<ops.size:=by
    obtain⟨_,o,ho,_⟩:=mem_ready.1 hi;have:=(Array.getElem?_eq_some_iff.1 ho).1
    rwa [qdh h] at this
   obtain⟨j,hj⟩:∃ j,π[i]?=some j:=⟨π[i]'(by rw[h.len];exact hi'),List.getElem?_eq_getElem _⟩;have:=(qeg h k j).1 (by rw[(h.lt i j hj).2];exact hi);rw[hr] at this;cases this
 intro fuel
 induction fuel with
 | zero=>intro l l' a w k hw;exact⟨(none_of l l' k).1 hw.1,hw.2⟩
 | succ fuel ih=>
  intro l l' a w k hw;refine⟨fun hr=>hw.1 ((none_of l l' k).2 hr),fun j hj=>?_⟩
  have hjs:j<ops.size:=by
   obtain⟨_,o,ho,_⟩:=mem_ready.1 hj;exact (Array.getElem?_eq_some_iff.1 ho).1
  exact qnt h j _ a w (wpOp_mono (fun a' w' hh=>hh) (hw.2 (ixP π j) ((qeg h k j).2 hj))) |> wpOp_mono fun a' w' hh=>ih _ _ a' w' (k.set h j hjs) hh
theorem qlO (h:IsPerm π ops.size):Alike π ops.size (Array.replicate ops.size false) (Array.replicate (qe5 π ops).size false):=by
 rw[qdh h];exact⟨by simp,by simp,fun j hj=>by rw[Array.getElem?_replicate,Array.getElem?_replicate,if_pos hj,if_pos (h.ix j hj)]⟩
end
end Go.Proofs.YtkckcgpmnipnaaaGreat
