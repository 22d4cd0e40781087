/-
  One operation over blocks by name: what it yields, and that a real run yields the same. Conditions: none.
-/
import Derived.Test.YtkckcgpmnipnaaaGreatSxA
namespace Go.Proofs.YtkckcgpmnipnaaaGreat
set_option maxRecDepth 100000
open Go.RowKit
def ql3 (P:Program) (t:TypeId) (cs:Array Value) (off:Nat):Option Value:=
 match P.underlying t,P.info? t with
 | some d,some i=>bif d.isRow then some (.agg (cs.extract off (off+i.size))) else cs[off]?
 | _,_=>none
def eqF (P:Program) (rec:TypeId→Value→Value→Option Bool) (xs ys:Array Value):List Field→Option Bool
 | []=>some true
 | f::fs=>
  bif f.name !="_" then
   match ql3 P f.type xs f.offset,ql3 P f.type ys f.offset with
   | some a,some b=>match rec f.type a b,eqF P rec xs ys fs with
    | some r,some q=>some (r&&q)
    | _,_=>none
   | _,_=>none
  else eqF P rec xs ys fs
def eqI (P:Program) (rec:TypeId→Value→Value→Option Bool) (e:TypeId) (c:Nat) (xs ys:Array Value):List Nat→Option Bool
 | []=>some true
 | i::is=>
  match ql3 P e xs (i*c),ql3 P e ys (i*c) with
  | some a,some b=>match rec e a b,eqI P rec e c xs ys is with
   | some r,some q=>some (r&&q)
   | _,_=>none
  | _,_=>none
def eqB (P:Program):Nat→TypeId→Value→Value→Option Bool
 | 0,_,_,_=>none
 | d+1,t,x,y=>
  match P.underlying t,x,y with
  | some (.int _),.int k a,.int l b=>if k=l then some (a==b) else none
  | some .bool,.bool a,.bool b=>some (a==b)
  | some .string,.string a,.string b=>some (a==b)
  | some (.struct fs),.agg xs,.agg ys=>bif P.stoodInHeld t then none else eqF P (eqB P d) xs ys fs.toList
  | some (.array n e),.agg xs,.agg ys=>match P.info? e with
   | some _=>eqI P (eqB P d) e (P.cellsOf e) xs ys (List.range n)
   | none=>none
  | _,_,_=>none
theorem qdT {P:Program} {t:TypeId} {cs:Array Value} {off:Nat} {v:Value} (h:ql3 P t cs off=some v) (w:World):(part t cs off).run P w=.ok v w:=by
 unfold ql3 at h;split at h
 ·rename_i d i hd hi
  have hs:(isAgg t).run P w=.ok d.isRow w:=by
   unfold isAgg;rw[Sem.run_bind,run_underlying hd w]
   cases d<;>rfl
  cases hr:d.isRow
  ·rw[hr] at h hs;simp only[cond_false] at h;simp[part,hs,h]
  ·rw[hr] at h hs;simp only[cond_true,Option.some.injEq] at h;subst h;simp[part,hs,sizeOf,run_typeInfo w hi]
 ·cases h
theorem qjD {P:Program} {rec:TypeId→Value→Value→Option Bool} {D:Nat} (w:World) (hr:∀ t x y r,rec t x y=some r→(Op.equalIn D t x y).run P w=.ok r w) (xs ys:Array Value) :
 ∀ {fs:List Field} {r:Bool},eqF P rec xs ys fs=some r→(Op.eqFields D xs ys fs).run P w=.ok r w
 | [],r,h=>by simp[eqF] at h;subst h;simp[Op.eqFields]
 | f::fs,r,h=>by
  by_cases hn:f.name="_"
  ·simp only[eqF,hn,bne_self_eq_false,cond_false] at h;simp only[Op.eqFields,hn,ne_eq,not_true_eq_false,if_false];exact qjD w hr xs ys h
  ·have hb:(f.name !="_")=true:=by simpa using hn
   simp only[eqF,hb,cond_true] at h;split at h
   ·rename_i a b ha hb';split at h
    ·rename_i r1 q1 h1 h2;simp only[Option.some.injEq] at h;subst h;simp only[Op.eqFields,hn,ne_eq,not_false_eq_true,if_true,Sem.run_bind,qdT ha w,qdT hb' w,hr _ _ _ _ h1,Result.andThen_ok];cases r1
     ·simp
     ·simpa using qjD w hr xs ys h2
    ·cases h
   ·cases h
theorem qp5 {P:Program} {rec:TypeId→Value→Value→Option Bool} {D:Nat} (w:World) (hr:∀ t x y r,rec t x y=some r→(Op.equalIn D t x y).run P w=.ok r w) (e:TypeId) (c:Nat) (xs ys:Array Value) :
 ∀ {is:List Nat} {r:Bool},eqI P rec e c xs ys is=some r→(Op.eqItems D e c xs ys is).run P w=.ok r w
 | [],r,h=>by simp[eqI] at h;subst h;simp[Op.eqItems]
 | i::is,r,h=>by
  simp only[eqI] at h;split at h
  ·rename_i a b ha hb';split at h
   ·rename_i r1 q1 h1 h2;simp only[Option.some.injEq] at h;subst h;simp only[Op.eqItems,Sem.run_bind,qdT ha w,qdT hb' w,hr _ _ _ _ h1,Result.andThen_ok];cases r1
    ·simp
    ·simpa using qp5 w hr e c xs ys h2
   ·cases h
  ·cases h
theorem qhE {P:Program} (w:World):∀ (d:Nat) (t:TypeId) (x y:Value) (r:Bool),eqB P d t x y=some r→∀ D,d≤D→(Op.equalIn D t x y).run P w=.ok r w:=by
 intro d
 induction d with
 | zero=>intro t x y r h;simp[eqB] at h
 | succ d ih=>
  intro t x y r h D hD;obtain⟨E,rfl⟩:∃ E,D=E+1:=⟨D-1,by omega⟩
  have hrec:∀ t x y r,eqB P d t x y=some r→(Op.equalIn E t x y).run P w=.ok r w:=fun t x y r h=>ih t x y r h E (by omega)
  unfold eqB at h;split at h
  ·rename_i k a l b hu;split at h
   ·rename_i hk;subst hk;simp only[Option.some.injEq] at h;subst h;exact run_equalIn_int w E t _ _ _ _ hu
   ·cases h
  ·rename_i a b hu;simp only[Option.some.injEq] at h;subst h;exact run_equalIn_bool' w E t _ _ hu
  ·rename_i a b hu;simp only[Option.some.injEq] at h;subst h;rw[beq_toListBytes];exact run_equalIn_string w E t _ _ hu
  ·rename_i fs xs ys hu;cases hs:P.stoodInHeld t
   ·rw[hs] at h;simp only[cond_false] at h
    have hf:P.fieldsOf t=fs:=by simp[Program.fieldsOf,hu]
    rw[run_equalIn_struct w E t xs ys (by rw[hf];exact hu) hs,hf];exact qjD w hrec xs ys h
   ·rw[hs] at h;simp at h
  ·rename_i n e xs ys hu;split at h
   ·rename_i i hi;rw[run_equalIn_array w E xs ys hu hi];exact qp5 w hrec e _ xs ys h
   ·cases h
  ·cases h
inductive Out where
 | val (x:SV)
 | new (t:TypeId) (cells:List SV) (len:Option Nat)
 | sto (b o:Nat) (cells:List SV)
 | call (f:FuncId) (args:List SV)
 | stl (b:Nat) (e:TypeId) (es n:Nat) (xs:List Value) (r:Value)
 | app (old:Option Nat) (e:TypeId) (es n:Nat) (xs:List Value)
 | mnew
 | mset (b:Nat) (xs:List Value)
def cellsOf:SV→List SV
 | .pv x=>x.cells.toList.map .pv
 | .ag l=>l.map S0.up
 | s=>[s]
def qjj:SV→Bool
 | .pv x=>x.oneCell'
 | .any=>false
 | .ag _=>false
 | .tu _=>false
 | .row ..=>false
 | .mrow _=>false
 | _=>true
def qje (hp:List (Nat×Nat×SV)) (b:Nat):Nat→Nat→Option (List Value)
 | _,0=>some []
 | o,n+1=>match qaj hp b o with
  | some (.pv x)=>match qje hp b (o+1) n with
   | some l=>some (x::l)
   | none=>none
  | _=>none
def qmE (hp:List (Nat×Nat×SV)) (b:Nat):Nat→Nat→Option (List S0)
 | _,0=>some []
 | o,n+1=>match qaj hp b o with
  | some x=>match x.down,qmE hp b (o+1) n with
   | some d,some l=>some (d::l)
   | _,_=>none
  | none=>none
def takeA (hp:List (Nat×Nat×SV)) (b o n:Nat):Option SV:=
 match qje hp b o n with
 | some l=>some (.pv (.agg l.toArray))
 | none=>match qmE hp b o n with
  | some l=>some (.ag l)
  | none=>none
def qhI (hp:List (Nat×Nat×SV)) (b:Nat):Nat→Nat→Bool
 | _,0=>true
 | o,n+1=>match qaj hp b o with
  | some s=>!s.isRow&&qhI hp b (o+1) n
  | none=>false
def qcJ (xs:List Value) (q:Nat) (l:List Value):Prop:=∀ j v,l[j]?=some v→xs[q+j]?=some v
def qf9 (xs:List Value) (q:Nat) (us:List Value):List Value:=xs.take q++us++xs.drop (q+us.length)
structure Row where
 e:TypeId
 es:Nat
 n:Nat
 xs:List Value
def qcT (hp:List (Nat×Nat×SV)) (b:Nat):Option Row:=
 match qaj hp b 0 with
 | some (.row e es n xs)=>some ⟨e,es,n,xs⟩
 | _=>none
def qt2:Value→Nat→Bool
 | .agg cs,n=>Nat.beq cs.size n
 | _,_=>false
def intOf:SV→Option Int
 | .pv (.int _ i)=>some i
 | _=>none
def qIP:SV→Bool
 | .lp ..=>true
 | _=>false
def qu1 (P:Program) (st:St) (t:TypeId) (b q:Nat) (c:Ch):Option (Out×List Prop):=
 match qcT st.hp b,c,P.underlying t,P.info? t with
 | some ρ,.r v,some d,some i=>bif (bif d.isRow then qt2 v i.size else v.oneCell') then some (.val (.pv v),[qcJ ρ.xs q v.cells.toList]) else none
 | _,_,_,_=>none
def qpX (P:Program) (st:St) (t:TypeId) (b q:Nat) (y:SV) (c:Ch):Option (Out×List Prop):=
 match qcT st.hp b,c,P.info? t,qbw (cellsOf y) with
 | some ρ,.w ys,some i,some us=>bif Nat.beq us.length i.size&&us.all Value.oneCell' then some (.stl b ρ.e ρ.es ρ.n ys undef,[ys=qf9 ρ.xs q us,q+us.length≤ρ.xs.length]) else none
 | _,_,_,_=>none
def qeW (st:St) (es:Nat):SV→Option (Nat×Nat×Nat)
 | .ls b len=>match qcT st.hp b with
  | some ρ=>bif Nat.beq ρ.es es&&!Nat.beq es 0 then some (b,0,len) else none
  | none=>none
 | .lq b es' k len=>bif Nat.beq es' es then some (b,k,len) else none
 | _=>none
def qnd (P:Program) (st:St) (t:TypeId) (x:SV) (c:Ch) (rep:List Value→Nat→List Value):Option (Out×List Prop):=
 match P.underlying t,c with
 | some (.slice e),.w ys=>match P.info? e with
  | some i=>match i.zero,qeW st i.size x with
   | some z,some (b,k,len)=>match qcT st.hp b with
    | some ρ=>bif z.cells.toList.all Value.oneCell' then some (.stl b ρ.e ρ.es ρ.n ys undef,[ys=qf9 ρ.xs (k*i.size) (rep z.cells.toList len),0<len,k*i.size+(rep z.cells.toList len).length≤ρ.xs.length]) else none
    | none=>none
   | _,_=>none
  | none=>none
 | _,_=>none
def qzU (st:St):Option Operand→Option (Option Int)
 | none=>some none
 | some o=>match intOf (st.ev o) with
  | some i=>some (some i)
  | none=>none
def qiw:Option Int→Prop
 | none=>True
 | some i=>0≤i
def qfS (d:Nat):Option Int→Nat
 | none=>d
 | some i=>i.toNat
def qnp (P:Program) (st:St) (t:TypeId) (x:SV) (lo hi mx:Option Operand):Option (Out×List Prop):=
 match P.underlying t with
 | some (.slice e)=>match P.info? e with
  | some inf=>match qeW st inf.size x,qzU st lo,qzU st hi,qzU st mx with
   | some (b,k,len),some l,some h,some none=>
    some (.val (.lq b inf.size (k+qfS 0 l) (qfS len h-qfS 0 l)),[qiw l,qiw h,qfS 0 l≤qfS len h,qfS len h≤len])
   | some (b,k,len),some l,some (some h),some (some m)=>
    some (.val (.lq b inf.size (k+qfS 0 l) (h.toNat-qfS 0 l)),[qiw l,0≤h,0≤m,qfS 0 l≤h.toNat,h.toNat≤m.toNat,m.toNat≤len])
   | _,_,_,_=>none
  | none=>none
 | _=>none
def qcS:Value→Bool
 | .slice none 0 0=>true
 | _=>false
def qhU:Value→Bool
 | .slice _ 0 _=>true
 | _=>false
def qch (st:St) (es:Nat):SV→Option (Nat×List Value)
 | .ls c m=>match qcT st.hp c with
  | some ρ=>bif Nat.beq ρ.es es then some (m,ρ.xs) else none
  | none=>none
 | .lq c es' k m=>match qcT st.hp c with
  | some ρ=>bif Nat.beq ρ.es es&&Nat.beq es' es then some (m,(ρ.xs.drop (k*es)).take (m*es)) else none
  | none=>none
 | .ps c q m _=>match qje st.hp c q (m*es) with
  | some l=>some (m,l)
  | none=>none
 | .pv y=>bif qhU y then some (0,[]) else none
 | _=>none
def qv2 (P:Program) (st:St) (t t':TypeId) (x y:SV) (c:Ch):Option (Out×List Prop):=
 match P.underlying t,P.underlying t',c with
 | some (.slice e),some (.slice _),.w ys=>match P.info? e with
  | some i=>match qeW st i.size x,qch st i.size y with
   | some (b,k,len),some (m,src)=>match qcT st.hp b with
    | some ρ=>some (.stl b ρ.e ρ.es ρ.n ys (goInt (Nat.min m len)),[ys=qf9 ρ.xs (k*i.size) (src.take (Nat.min m len*i.size)),0<Nat.min m len,k*i.size+(src.take (Nat.min m len*i.size)).length≤ρ.xs.length])
    | none=>none
   | _,_=>none
  | none=>none
 | _,_,_=>none
def qkF (st:St) (e:TypeId) (es:Nat):SV→Option (Option Nat×Nat×List Value)
 | .ls b n=>match qcT st.hp b with
  | some ρ=>bif Nat.beq ρ.e e&&Nat.beq ρ.es es then some (some b,n,ρ.xs) else none
  | none=>none
 | .pv y=>bif qcS y then some (none,0,[]) else none
 | _=>none
def qdR (z:List Value):Nat→List Value
 | 0=>[]
 | n+1=>z++qdR z n
def qHj (P:Program) (t t':TypeId) (x y:SV):Option (Out×List Prop):=
 match P.underlying t,P.underlying t',x,intOf y with
 | some (.slice e),some (.int _),.pv v,some l=>match P.info? e with
  | some i=>match i.zero with
   | some z=>bif qcS v&&Nat.beq z.cells.size i.size&&!Nat.beq i.size 0&&Nat.ble i.bytes 100000000&&z.cells.toList.all Value.oneCell' then
    some (.app none e i.size l.toNat (qdR z.cells.toList l.toNat),[0≤l,l≤1000000])
    else none
   | none=>none
  | none=>none
 | _,_,_,_=>none
def qnS (P:Program) (st:St) (t:TypeId) (b n:Nat) (h:SV):Option (Out×List Prop):=
 match P.underlying t with
 | some (.slice e)=>match P.info? e,qcT st.hp b,intOf h with
  | some inf,some ρ,some i=>bif Nat.beq ρ.es inf.size then some (.app (some b) ρ.e ρ.es i.toNat (ρ.xs.take (i.toNat*ρ.es)),[0≤i,i.toNat≤n]) else none
  | _,_,_=>none
 | _=>none
def qht:Option Operand→Bool
 | some _=>true
 | none=>false
def qEY:SV→Option (Nat×Nat)
 | .ls b n=>some (b,n)
 | _=>none
def isW:Ch→Bool
 | .w _=>true
 | _=>false
def slS (P:Program) (st:St) (t:TypeId) (x:SV) (lo hi mx:Option Operand) (c:Ch):Option (Out×List Prop):=
 bif isW c&&!qht lo&&!qht mx then
  match qEY x,hi with
  | some (b,n),some h=>qnS P st t b n (st.ev h)
  | _,_=>none
 else qnp P st t x lo hi mx
def qFM:BinOp→Bool→Bool
 | .eql,e=>!e
 | .neq,e=>e
 | _,_=>false
def qoK (P:Program) (st:St) (op:BinOp) (t:TypeId) (a b:SV) (c:Ch):Option (Out×List Prop):=
 match a,b,c,P.underlying t with
 | .ls k n,.pv v,.t e,some (.slice _)=>match qcT st.hp k with
  | some ρ=>bif qcS v&&!Nat.beq ρ.es 0&&qFM op e then some (.val (.pv (.bool e)),[0<n]) else none
  | none=>none
 | _,_,_,_=>none
def qGH (P:Program) (st:St) (t t':TypeId) (x y:SV):Option (Out×List Prop):=
 match P.underlying t,P.underlying t' with
 | some (.slice e),some (.slice _)=>match P.info? e with
  | some i=>match i.zero with
   | some z=>bif Nat.beq z.cells.size i.size&&!Nat.beq i.size 0&&Nat.ble i.bytes 100000000 then
    match qkF st e i.size x,qch st i.size y with
    | some (old,n,xs),some (m,ys)=>some (.app old e i.size (n+m) (xs++ys),[n+m≤1000000])
    | _,_=>none
    else none
   | none=>none
  | none=>none
 | _,_=>none
def qxL (P:Program) (t:TypeId) (x y:SV):Option (Out×List Prop):=
 match P.underlying t,intOf x,intOf y with
 | some (.slice e),some l,some c=>match P.info? e with
  | some i=>match i.zero with
   | some z=>bif Nat.beq z.cells.size i.size&&!Nat.beq i.size 0&&Nat.ble i.bytes 100000000&&z.cells.toList.all Value.oneCell' then
    some (.app none e i.size l.toNat (qdR z.cells.toList l.toNat),[0≤l,l=c,l≤1000000])
    else none
   | none=>none
  | none=>none
 | _,_,_=>none
def qGP (cells:List S0) (off:Nat) (ds:List S0):List S0:=cells.take off++ds++cells.drop (off+ds.length)
def qlK (place:Nat→Option (Nat×Nat)) (cells:List S0):List (Nat×SV)→Option (List S0)
 | []=>some cells
 | (i,s)::r=>match place i,qbQ (cellsOf s) with
  | some (off,size),some ds=>bif Nat.beq ds.length size&&Nat.ble (off+ds.length) cells.length then qlK place (qGP cells off ds) r else none
  | _,_=>none
def qd7 (P:Program):List Field→Option (List (Nat×Nat))
 | []=>some []
 | f::r=>match P.info? f.type,qd7 P r with
  | some i,some l=>some ((f.offset,i.size)::l)
  | _,_=>none
def qn5 (P:Program) (t:TypeId) (parts:List (Nat×SV)):Option (Out×List Prop):=
 match P.underlying t,P.info? t with
 | some (.struct fs),some i=>match i.zero,qd7 P fs.toList with
  | some z,some pl=>match qlK (pl[·]?) (z.cells.toList.map .pv) parts with
   | some l=>some (.val (.ag l),[])
   | none=>none
  | _,_=>none
 | _,_=>none
def qjK (P:Program) (t:TypeId) (len:Nat) (parts:List (Nat×SV)):Option (Out×List Prop):=
 match P.underlying t with
 | some (.slice e)=>match P.info? e with
  | some i=>match i.zero with
   | some z=>
    bif Nat.beq (len*i.size) 0 then
     bif Nat.beq len 0&&parts.isEmpty then some (.app none e i.size 0 [],[]) else none
    else bif Nat.ble (len*i.size) 16777216 then
     match qlK (fun j=>some (j*i.size,i.size)) (((Array.range (len*i.size)).map (z.cells[· % z.cells.size]!)).toList.map .pv) parts with
     | some cs=>bif (cs.map S0.up).all qjj then some (.new e (cs.map S0.up) (some len),[]) else none
     | none=>none
    else none
   | none=>none
  | none=>none
 | _=>none
def qJc:Ch→Bool
 | .lw=>true
 | _=>false
def qIe (P:Program) (t:TypeId) (len:Nat) (parts:List (Nat×SV)):Option (Out×List Prop):=
 match P.underlying t with
 | some (.slice e)=>match P.info? e with
  | some i=>match i.zero with
   | some z=>
    bif (parts.all fun p=>p.2.isV)&&Nat.ble (len*i.size) 16777216&&!Nat.beq (len*i.size) 0 then
     match Instr.fill (fun j=>some (j*i.size,i.size)) ((Array.range (len*i.size)).map (z.cells[· % z.cells.size]!)) (parts.map fun p=>(p.1,p.2.raw)) with
     | some cs=>bif cs.toList.all Value.oneCell'&&Nat.beq cs.size (len*i.size)&&Nat.ble len 1000000 then some (.app none e i.size len cs.toList,[]) else none
     | none=>none
    else none
   | none=>none
  | none=>none
 | _=>none
def qhs:SV→Nat→Option SV
 | .tu l,j=>match l[j]? with
  | some s=>some s.up
  | none=>none
 | _,_=>none
def qJx:Op→Bool
 | .binOp .. | .unOp .. | .convert .. | .lookup .. | .mapUpdate ..=>true
 | .call c=>match c.callee with
  | .builtin .clear=>true
  | .builtin .copy=>true
  | .builtin _=>false
  | _=>true
 | _=>false
def qc8 (u:Value):Ch→Option (Out×List Prop)
 | .k=>some (.val (.pv u),[])
 | .t b=>match u with
  | .bool e=>some (.val (.pv (.bool b)),[e=b])
  | _=>none
 | .r v=>some (.val (.pv v),[u=v])
 | _=>none
def qbR (P:Program) (st:St) (o:Oper) (c:Ch):Option (Out×List Prop):=
 bif o.op.operands.toList.all fun x=>(st.ev x).isV then
  match o.op with
  | .select ..=>none
  | _=>match qrE P (execOp (fun x=>(st.ev x).raw) o) with
   | some (.value u)=>qc8 u c
   | _=>none
 else none
def qIt (P:Program) (st:St) (o:Oper) (op:BinOp) (t:TypeId) (a b:SV) (c:Ch):Option (Out×List Prop):=
 match op,a,b,c with
 | .eql,.pv (.agg xs),.pv (.agg ys),.t e=>bif P.eqGuardType P.depth t then none else match eqB P 40 t (.agg xs) (.agg ys) with
  | some r=>some (.val (.pv (.bool e)),[r=e])
  | none=>none
 | .neq,.pv (.agg xs),.pv (.agg ys),.t e=>bif P.eqGuardType P.depth t then none else match eqB P 40 t (.agg xs) (.agg ys) with
  | some r=>some (.val (.pv (.bool e)),[(!r)=e])
  | none=>none
 | .quo,.pv (.int k x),.pv (.int l y),.r v=>if k=l then some (.val (.pv v),[¬ y=0,Value.int k (k.wrap (x.tdiv y))=v]) else none
 | .rem,.pv (.int k x),.pv (.int l y),.r v=>if k=l then some (.val (.pv v),[¬ y=0,Value.int k (x.tmod y)=v]) else none
 | .shl,.pv (.int k x),.pv (.int _ y),.r v=>some (.val (.pv v),[¬ y<0,Value.int k (k.wrap (x*2 ^ (min y.toNat k.bits)))=v])
 | .shr,.pv (.int k x),.pv (.int _ y),.r v=>some (.val (.pv v),[¬ y<0,Value.int k (x.fdiv (2 ^ (min y.toNat k.bits)))=v])
 | _,_,_,_=>qbR P st o c
def qgk (P:Program) (f:FuncId):Bool:=
 match P.funcs[f]? with
 | some fn=>fn.body.isSome&&!(fn.name=="runtime.NumGoroutine")
 | none=>false
def qp7 (P:Program) (t:TypeId) (k:Nat):SV→Option SV
 | .ag l=>match P.underlying t with
  | some (.struct fs)=>match fs[k]? with
   | some fd=>match P.underlying fd.type with
    | some (.slice _)=>match l[fd.offset]? with
     | some s=>some s.up
     | none=>none
    | _=>none
   | none=>none
  | _=>none
 | _=>none
def qbu (P:Program) (t:TypeId) (xs:List Value) (k:Value) (ok:Bool) (v:Value):Prop:=∀ w r,MapIs w r xs→(Instr.lookup t (.map (some r)) k ok).run P w=.ok v w
def qiG (P:Program) (t:TypeId) (xs:List Value) (k v:Value) (ys:List Value):Prop:=∀ w r,MapIs w r xs→∃ en clock,(Instr.mapUpdate t (.map (some r)) k v).run P w=.ok () { w with heap:=w.heap.setIfInBounds r (.map en clock) }∧(en.toList.flatMap fun e=>[e.key,e.val])=ys
def qeT (hp:List (Nat×Nat×SV)) (b:Nat):Option (List Value):=
 match qaj hp b 0 with
 | some (.mrow xs)=>some xs
 | _=>none
def quL (P:Program) (st:St) (t:TypeId) (x k:SV) (ok:Bool) (c:Ch):Option (Out×List Prop):=
 match x,k,c with
 | .mp b,.pv y,.r v=>match qeT st.hp b with
  | some xs=>some (.val (.pv v),[qbu P t xs y ok v])
  | none=>none
 | _,_,_=>none
def qGL (P:Program) (st:St) (t:TypeId) (x k v:SV) (c:Ch):Option (Out×List Prop):=
 match x,k,v,c with
 | .mp b,.pv y,.pv z,.w ys=>match qeT st.hp b with
  | some xs=>some (.mset b ys,[qiG P t xs y z ys])
  | none=>none
 | _,_,_,_=>none
def qvp (P:Program) (st:St) (t:TypeId) (r:Option Operand):Option (Out×List Prop):=
 match P.underlying t,r with
 | some (.map _ _),none=>some (.mnew,[])
 | some (.map _ _),some x=>match intOf (st.ev x) with
  | some _=>some (.mnew,[])
  | none=>none
 | _,_=>none
def opS (P:Program) (st:St) (o:Oper) (c:Ch):Option (Out×List Prop):=
 match o.op with
 | .move x=>some (.val (st.ev x),[])
 | .assign x=>some (.val (st.ev x),[])
 | .alloc t=>match P.info? t with
  | some i=>match i.zero with
   | some z=>bif z.cells.toList.all Value.oneCell' then some (.new t (z.cells.toList.map .pv) none,[]) else none
   | none=>none
  | none=>none
 | .box t x=>bif (cellsOf (st.ev x)).all qjj then some (.new t (cellsOf (st.ev x)) none,[]) else none
 | .build t parts=>
  bif parts.toList.all fun p=>(st.ev p.2).isV then qbR P st o c
  else qn5 P t (parts.toList.map fun p=>(p.1,st.ev p.2))
 | .field t x k=>match qp7 P t k (st.ev x) with
  | some s=>some (.val s,[])
  | none=>qbR P st o c
 | .extract x j=>match qhs (st.ev x) j with
  | some s=>some (.val s,[])
  | none=>qbR P st o c
 | .slice t x lo hi mx=>bif (st.ev x).isV then qbR P st o c else slS P st t (st.ev x) lo hi mx c
 | .makeSlice t x y=>qxL P t (st.ev x) (st.ev y)
 | .makeMap t r=>qvp P st t r
 | .lookup t x k ok=>quL P st t (st.ev x) (st.ev k) ok c
 | .mapUpdate t m k v=>qGL P st t (st.ev m) (st.ev k) (st.ev v) c
 | .buildSlice t len parts=>
  bif qJc c then qIe P t len (parts.toList.map fun p=>(p.1,st.ev p.2)) else
  bif (parts.toList.all fun p=>(st.ev p.2).isV)&&!parts.toList.isEmpty then
   match P.underlying t with
   | some (.slice e)=>match P.info? e with
    | some i=>match i.zero with
     | some z=>
      bif Nat.ble (len*i.size) 16777216&&!Nat.beq (len*i.size) 0 then
       match Instr.fill (fun j=>some (j*i.size,i.size)) ((Array.range (len*i.size)).map (z.cells[· % z.cells.size]!)) (parts.toList.map fun p=>(p.1,(st.ev p.2).raw)) with
       | some cs=>bif cs.toList.all Value.oneCell' then some (.new e (cs.toList.map .pv) (some len),[]) else none
       | none=>none
      else none
     | none=>none
    | none=>none
   | _=>none
  else qjK P t len (parts.toList.map fun p=>(p.1,st.ev p.2))
 | .load t x=>match st.ev x with
  | .pp b q=>match P.underlying t,P.info? t with
   | some d,some i=>bif d.isRow then (match takeA st.hp b q i.size with
    | some s=>some (.val s,[])
    | none=>none)
    else match qaj st.hp b q with
     | some s=>bif s.isRow then none else some (.val s,[])
     | none=>none
   | _,_=>none
  | .lp b q=>qu1 P st t b q c
  | _=>none
 | .store t x y=>match st.ev x with
  | .pp b q=>match P.info? t with
   | some i=>bif Nat.beq (cellsOf (st.ev y)).length i.size&&(cellsOf (st.ev y)).all qjj&&qhI st.hp b q i.size then some (.sto b q (cellsOf (st.ev y)),[]) else none
   | none=>none
  | .lp b q=>qpX P st t b q (st.ev y) c
  | _=>none
 | .fieldAddr s x f=>match st.ev x with
  | .pp b q=>match P.underlying s with
   | some (.struct fs)=>match fs[f]? with
    | some fd=>match P.info? fd.type with
     | some i=>bif Nat.beq i.size 0 then none else some (.val (.pp b (q+fd.offset)),[])
     | none=>none
    | none=>none
   | _=>none
  | .lp b q=>match P.underlying s with
   | some (.struct fs)=>match fs[f]? with
    | some fd=>match P.info? fd.type with
     | some i=>bif Nat.beq i.size 0 then none else some (.val (.lp b (q+fd.offset)),[])
     | none=>none
    | none=>none
   | _=>none
  | _=>none
 | .indexAddr t x ix=>match st.ev ix with
  | .pv (.int _ i)=>match P.underlying t,st.ev x with
   | some (.array len e),.pp b q=>match P.info? e with
    | some inf=>if 0≤i∧i<len then some (.val (.pp b (q+i.toNat*inf.size)),[]) else none
    | none=>none
   | some (.slice e),.ps b q len _=>match P.info? e with
    | some inf=>if 0≤i∧i<len then some (.val (.pp b (q+i.toNat*inf.size)),[]) else none
    | none=>none
   | some (.slice e),x=>match P.info? e with
    | some inf=>match qeW st inf.size x with
     | some (b,k,len)=>some (.val (.lp b (k*inf.size+i.toNat*inf.size)),[0≤i∧i<(len:Int)])
     | none=>none
    | none=>none
   | _,_=>none
  | _=>none
 | .nilCheck x=>match st.ev x with
  | .pp b q=>some (.val (.pp b q),[])
  | .lp b q=>some (.val (.lp b q),[])
  | .pc f cap=>some (.val (.pc f cap),[])
  | _=>qbR P st o c
 | .makeFunc fn first caps=>match fn with
  | .func f=>bif Nat.beq first.size 0 then (match qbQ (caps.toList.map st.ev) with
   | some l=>some (.val (.pc f l),[])
   | none=>none) else none
  | _=>none
 | .binOp op t x y _=>match qoK P st op t (st.ev x) (st.ev y) c with
  | some r=>some r
  | none=>qIt P st o op t (st.ev x) (st.ev y) c
 | .call cl=>match cl.callee with
  | .value f=>match st.ev f with
   | .pv (.func (.func g) first cap)=>bif qgk P g then some (.call g (first.toList.map .pv++cl.args.toList.map st.ev++cap.toList.map .pv),[]) else qbR P st o c
   | .pc g cap=>bif qgk P g then some (.call g (cl.args.toList.map st.ev++cap.map S0.up),[]) else none
   | _=>none
  | .builtin .len=>match cl.args.toList.map st.ev,cl.argTypes[0]? with
   | [.ps _ _ len _],some t=>match P.underlying t with
    | some (.slice _)=>some (.val (.pv (goInt len)),[])
    | _=>none
   | [.ls _ len],some t=>match P.underlying t with
    | some (.slice _)=>some (.val (.pv (goInt len)),[])
    | _=>none
   | [.lq _ _ _ len],some t=>match P.underlying t with
    | some (.slice _)=>some (.val (.pv (goInt len)),[])
    | _=>none
   | [.mp b],some t=>match P.underlying t with
    | some (.map _ _)=>match qeT st.hp b with
     | some xs=>some (.val (.pv (goInt ((xs.length/2:Nat):Int))),[])
     | none=>none
    | _=>none
   | _,_=>qbR P st o c
  | .builtin .append=>match cl.args.toList.map st.ev,cl.argTypes.toList with
   | [x,y],[t,t']=>match P.underlying t' with
    | some (.int _)=>qHj P t t' x y
    | _=>qGH P st t t' x y
   | _,_=>none
  | .builtin .clear=>match cl.args.toList.map st.ev,cl.argTypes.toList with
   | [x],[t]=>qnd P st t x c qdR
   | _,_=>none
  | .builtin .copy=>match cl.args.toList.map st.ev,cl.argTypes.toList with
   | [x,y],[t,t']=>qv2 P st t t' x y c
   | _,_=>none
  | _=>qbR P st o c
 | _=>qbR P st o c
end Go.Proofs.YtkckcgpmnipnaaaGreat
