/-
  One operation over blocks by name: what it yields, and that a real run yields the same. Conditions: none.
-/
import Derived.Test.YtleaeldgaflmkaaGreatSxA
namespace Go.Proofs.YtleaeldgaflmkaaGreat
set_option maxRecDepth 100000
open Go.RowKit
def qkD (P:Program) (t:TypeId) (cs:Array Value) (off:Nat):Option Value:=
 match P.underlying t,P.info? t with
 | some d,some i=>bif d.isRow then some (.agg (cs.extract off (off+i.size))) else cs[off]?
 | _,_=>none
def eqF (P:Program) (rec:TypeId→Value→Value→Option Bool) (xs ys:Array Value):List Field→Option Bool
 | []=>some true
 | f::fs=>
  bif f.name !="_" then
   match qkD P f.type xs f.offset,qkD P f.type ys f.offset with
   | some a,some b=>match rec f.type a b,eqF P rec xs ys fs with
    | some r,some q=>some (r&&q)
    | _,_=>none
   | _,_=>none
  else eqF P rec xs ys fs
def eqI (P:Program) (rec:TypeId→Value→Value→Option Bool) (e:TypeId) (c:Nat) (xs ys:Array Value):List Nat→Option Bool
 | []=>some true
 | i::is=>
  match qkD P e xs (i*c),qkD P e ys (i*c) with
  | some a,some b=>match rec e a b,eqI P rec e c xs ys is with
   | some r,some q=>some (r&&q)
   | _,_=>none
  | _,_=>none
def eqB (P:Program):Nat→TypeId→Value→Value→Option Bool
 | 0,_,_,_=>none
 | d+1,t,x,y=>
  match P.underlying t,x,y with
  | some (.int _),.int k a,.int l b=>if k=l then some (a==b) else none
  | some .bool,.bool a,.bool b=>some (a==b)
  | some .string,.string a,.string b=>some (a==b)
  | some (.struct fs),.agg xs,.agg ys=>bif P.stoodInHeld t then none else eqF P (eqB P d) xs ys fs.toList
  | some (.array n e),.agg xs,.agg ys=>match P.info? e with
   | some _=>eqI P (eqB P d) e (P.cellsOf e) xs ys (List.range n)
   | none=>none
  | _,_,_=>none
theorem qdE {P:Program} {t:TypeId} {cs:Array Value} {off:Nat} {v:Value} (h:qkD P t cs off=some v) (w:World):(part t cs off).run P w=.ok v w:=by
 unfold qkD at h
 split at h
 ·rename_i d i hd hi
  have hs:(isAgg t).run P w=.ok d.isRow w:=by
   unfold isAgg
   rw[Sem.run_bind,run_underlying hd w]
   cases d<;>rfl
  cases hr:d.isRow
  ·rw[hr] at h hs
   simp only[cond_false] at h
   simp[part,hs,h]
  ·rw[hr] at h hs
   simp only[cond_true,Option.some.injEq] at h
   subst h
   simp[part,hs,sizeOf,run_typeInfo w hi]
 ·cases h
theorem qiX {P:Program} {rec:TypeId→Value→Value→Option Bool} {D:Nat} (w:World) (hr:∀ t x y r,rec t x y=some r→(Op.equalIn D t x y).run P w=.ok r w) (xs ys:Array Value) :
 ∀ {fs:List Field} {r:Bool},eqF P rec xs ys fs=some r→(Op.eqFields D xs ys fs).run P w=.ok r w
 | [],r,h=>by simp[eqF] at h;subst h;simp[Op.eqFields]
 | f::fs,r,h=>by
  by_cases hn:f.name="_"
  ·simp only[eqF,hn,bne_self_eq_false,cond_false] at h
   simp only[Op.eqFields,hn,ne_eq,not_true_eq_false,if_false]
   exact qiX w hr xs ys h
  ·have hb:(f.name !="_")=true:=by simpa using hn
   simp only[eqF,hb,cond_true] at h
   split at h
   ·rename_i a b ha hb'
    split at h
    ·rename_i r1 q1 h1 h2
     simp only[Option.some.injEq] at h
     subst h
     simp only[Op.eqFields,hn,ne_eq,not_false_eq_true,if_true,Sem.run_bind,qdE ha w,qdE hb' w,hr _ _ _ _ h1,Result.andThen_ok]
     cases r1
     ·simp
     ·simpa using qiX w hr xs ys h2
    ·cases h
   ·cases h
theorem qnn {P:Program} {rec:TypeId→Value→Value→Option Bool} {D:Nat} (w:World) (hr:∀ t x y r,rec t x y=some r→(Op.equalIn D t x y).run P w=.ok r w) (e:TypeId) (c:Nat) (xs ys:Array Value) :
 ∀ {is:List Nat} {r:Bool},eqI P rec e c xs ys is=some r→(Op.eqItems D e c xs ys is).run P w=.ok r w
 | [],r,h=>by simp[eqI] at h;subst h;simp[Op.eqItems]
 | i::is,r,h=>by
  simp only[eqI] at h
  split at h
  ·rename_i a b ha hb'
   split at h
   ·rename_i r1 q1 h1 h2
    simp only[Option.some.injEq] at h
    subst h
    simp only[Op.eqItems,Sem.run_bind,qdE ha w,qdE hb' w,hr _ _ _ _ h1,Result.andThen_ok]
    cases r1
    ·simp
    ·simpa using qnn w hr e c xs ys h2
   ·cases h
  ·cases h
theorem qm2 {P:Program} (w:World):∀ (d:Nat) (t:TypeId) (x y:Value) (r:Bool),eqB P d t x y=some r→∀ D,d≤D→(Op.equalIn D t x y).run P w=.ok r w:=by
 intro d
 induction d with
 | zero=>intro t x y r h;simp[eqB] at h
 | succ d ih=>
  intro t x y r h D hD
  obtain⟨E,rfl⟩:∃ E,D=E+1:=⟨D-1,by omega⟩
  have hrec:∀ t x y r,eqB P d t x y=some r→(Op.equalIn E t x y).run P w=.ok r w:=fun t x y r h=>ih t x y r h E (by omega)
  unfold eqB at h
  split at h
  ·rename_i k a l b hu
   split at h
   ·rename_i hk;subst hk;simp only[Option.some.injEq] at h;subst h;exact run_equalIn_int w E t _ _ _ _ hu
   ·cases h
  ·rename_i a b hu;simp only[Option.some.injEq] at h;subst h;exact run_equalIn_bool' w E t _ _ hu
  ·rename_i a b hu;simp only[Option.some.injEq] at h;subst h;rw[beq_toListBytes];exact run_equalIn_string w E t _ _ hu
  ·rename_i fs xs ys hu
   cases hs:P.stoodInHeld t
   ·rw[hs] at h
    simp only[cond_false] at h
    have hf:P.fieldsOf t=fs:=by simp[Program.fieldsOf,hu]
    rw[run_equalIn_struct w E t xs ys (by rw[hf];exact hu) hs,hf]
    exact qiX w hrec xs ys h
   ·rw[hs] at h;simp at h
  ·rename_i n e xs ys hu
   split at h
   ·rename_i i hi
    rw[run_equalIn_array w E xs ys hu hi]
    exact qnn w hrec e _ xs ys h
   ·cases h
  ·cases h
inductive Out where
 | val (x:SV)
 | new (t:TypeId) (cells:List SV) (len:Option Nat)
 | sto (b o:Nat) (cells:List SV)
 | call (f:FuncId) (args:List SV)
 | stl (b:Nat) (e:TypeId) (es n:Nat) (xs:List Value) (r:Value)
 | app (old:Option Nat) (e:TypeId) (es n:Nat) (xs:List Value)
 | appd (old:Option Nat) (e:TypeId) (es n:Nat) (ds:List Dn)
 | mnew
 | mset (b:Nat) (xs:List Value)
def cellsOf:SV→List SV
 | .pv x=>x.cells.toList.map .pv
 | .ag l=>l.map S0.up
 | s=>[s]
def qiK:SV→Bool
 | .pv x=>x.oneCell'
 | .any=>false
 | .ag _=>false
 | .tu _=>false
 | .row ..=>false
 | .mrow _=>false
 | .drow ..=>false
 | .rrow ..=>false
 | .prow ..=>false
 | _=>true
def qh8 (hp:List (Nat×Nat×SV)) (b:Nat):Nat→Nat→Option (List Value)
 | _,0=>some []
 | o,n+1=>match qae hp b o with
  | some (.pv x)=>match qh8 hp b (o+1) n with
   | some l=>some (x::l)
   | none=>none
  | _=>none
def qis (hp:List (Nat×Nat×SV)) (b:Nat):Nat→Nat→Option (List S0)
 | _,0=>some []
 | o,n+1=>match qae hp b o with
  | some x=>match x.down,qis hp b (o+1) n with
   | some d,some l=>some (d::l)
   | _,_=>none
  | none=>none
def takeA (hp:List (Nat×Nat×SV)) (b o n:Nat):Option SV:=
 match qh8 hp b o n with
 | some l=>some (.pv (.agg l.toArray))
 | none=>match qis hp b o n with
  | some l=>some (.ag l)
  | none=>none
def qgW (hp:List (Nat×Nat×SV)) (b:Nat):Nat→Nat→Bool
 | _,0=>true
 | o,n+1=>match qae hp b o with
  | some s=>!s.isRow&&qgW hp b (o+1) n
  | none=>false
def qes (xs:List Value) (q:Nat) (l:List Value):Prop:=∀ j v,l[j]?=some v→xs[q+j]?=some v
def qfJ (xs:List Value) (q:Nat) (us:List Value):List Value:=xs.take q++us++xs.drop (q+us.length)
structure Row where
 e:TypeId
 es:Nat
 n:Nat
 xs:List Value
def qdR (hp:List (Nat×Nat×SV)) (b:Nat):Option Row:=
 match qae hp b 0 with
 | some (.row e es n xs)=>some ⟨e,es,n,xs⟩
 | _=>none
def qti (hp:List (Nat×Nat×SV)) (b:Nat):Option Row:=
 match qae hp b 0 with
 | some (.row e es n xs)=>some ⟨e,es,n,xs⟩
 | some (.prow e es n xs)=>some ⟨e,es,n,xs⟩
 | _=>none
structure Deep where
 e:TypeId
 es:Nat
 n:Nat
 ds:List Dn
def qkA (hp:List (Nat×Nat×SV)) (b:Nat):Option Deep:=
 match qae hp b 0 with
 | some (.drow e es n ds)=>some ⟨e,es,n,ds⟩
 | some (.rrow e es n ds)=>some ⟨e,es,n,ds⟩
 | _=>none
def Dn.s0:Dn→S0
 | .v x=>.pv x
 | .sl es n ds=>.dv es n ds
def S0.dn:S0→Option Dn
 | .pv x=>some (.v x)
 | .dv es n ds=>some (.sl es n ds)
 | _=>none
def qlm:List S0→Option (List Dn)
 | []=>some []
 | s::r=>match s.dn,qlm r with
  | some d,some l=>some (d::l)
  | _,_=>none
def qpW (ds:List Dn) (q:Nat) (l:List Dn):Prop:=∀ j d,l[j]?=some d→ds[q+j]?=some d
def qrF:Value→Nat→Bool
 | .agg cs,n=>Nat.beq cs.size n
 | _,_=>false
def intOf:SV→Option Int
 | .pv (.int _ i)=>some i
 | _=>none
def qz7:SV→Bool
 | .lp ..=>true
 | _=>false
def qnT:List S0→Option (List Value)
 | []=>some []
 | .pv x::r=>match qnT r with
  | some vs=>some (x::vs)
  | none=>none
 | _::_=>none
def qsm (l:List S0):SV:=match qnT l with
 | some vs=>.pv (.agg vs.toArray)
 | none=>.ag l
theorem qkf:∀ {l:List S0} {vs:List Value},qnT l=some vs→l=vs.map .pv
 | [],_,h=>by simp only[qnT,Option.some.injEq] at h;subst h;rfl
 | s::r,vs,h=>by
  cases s<;>simp only[qnT] at h<;>try cases h
  split at h
  ·rename_i x ws hw
   cases h
   rw[qkf hw]
   rfl
  ·cases h
theorem qoX {β:Bl} {l:List S0} {us:List Value} (h:S0.isl β l us):(qsm l).is β (.agg us.toArray):=by
 unfold qsm
 split
 ·rename_i vs hv
  have e:=qkf hv
  subst e
  have h2:=S0.isl_up h
  rw[List.map_map] at h2
  rw[SV.isl_v_eq (show SV.isl β (vs.map .pv) us from h2)]
  rfl
 ·exact⟨us,h,rfl⟩
def qr8 (P:Program) (st:St) (t:TypeId) (b q:Nat) (c:Ch):Option (Out×List Prop):=
 match qti st.hp b,c,P.underlying t,P.info? t with
 | some ρ,.r v,some d,some i=>bif (bif d.isRow then qrF v i.size else v.oneCell') then some (.val (.pv v),[qes ρ.xs q v.cells.toList]) else none
 | none,.dr l,some d,some i=>match qkA st.hp b,qlm l with
  | some ρ,some ds=>bif d.isRow then (bif Nat.beq l.length i.size then some (.val (qsm l),[qpW ρ.ds q ds]) else none)
   else match l with
    | [x]=>some (.val x.up,[qpW ρ.ds q ds])
    | _=>none
  | _,_=>none
 | _,_,_,_=>none
def qlD (P:Program) (st:St) (t:TypeId) (b q:Nat) (y:SV) (c:Ch):Option (Out×List Prop):=
 match qdR st.hp b,c,P.info? t,qa6 (cellsOf y) with
 | some ρ,.w ys,some i,some us=>bif Nat.beq us.length i.size&&us.all Value.oneCell' then some (.stl b ρ.e ρ.es ρ.n ys undef,[ys=qfJ ρ.xs q us,q+us.length≤ρ.xs.length]) else none
 | _,_,_,_=>none
def qeo (st:St) (es:Nat):SV→Option (Nat×Nat×Nat)
 | .ls b len=>match qti st.hp b with
  | some ρ=>bif Nat.beq ρ.es es&&!Nat.beq es 0 then some (b,0,len) else none
  | none=>match qkA st.hp b with
   | some ρ=>bif Nat.beq ρ.es es&&!Nat.beq es 0 then some (b,0,len) else none
   | none=>none
 | .lq b es' k len=>bif Nat.beq es' es then some (b,k,len) else none
 | _=>none
def qmW (P:Program) (st:St) (t:TypeId) (x:SV) (c:Ch) (rep:List Value→Nat→List Value):Option (Out×List Prop):=
 match P.underlying t,c with
 | some (.slice e),.w ys=>match P.info? e with
  | some i=>match i.zero,qeo st i.size x with
   | some z,some (b,k,len)=>match qdR st.hp b with
    | some ρ=>bif z.cells.toList.all Value.oneCell' then some (.stl b ρ.e ρ.es ρ.n ys undef,[ys=qfJ ρ.xs (k*i.size) (rep z.cells.toList len),0<len,k*i.size+(rep z.cells.toList len).length≤ρ.xs.length]) else none
    | none=>none
   | _,_=>none
  | none=>none
 | _,_=>none
def qv9 (st:St):Option Operand→Option (Option Int)
 | none=>some none
 | some o=>match intOf (st.ev o) with
  | some i=>some (some i)
  | none=>none
def qhs:Option Int→Prop
 | none=>True
 | some i=>0≤i
def qeU (d:Nat):Option Int→Nat
 | none=>d
 | some i=>i.toNat
def qnN (P:Program) (st:St) (t:TypeId) (x:SV) (lo hi mx:Option Operand):Option (Out×List Prop):=
 match P.underlying t with
 | some (.slice e)=>match P.info? e with
  | some inf=>match qeo st inf.size x,qv9 st lo,qv9 st hi,qv9 st mx with
   | some (b,k,len),some l,some h,some none=>
    some (.val (.lq b inf.size (k+qeU 0 l) (qeU len h-qeU 0 l)),[qhs l,qhs h,qeU 0 l≤qeU len h,qeU len h≤len])
   | some (b,k,len),some l,some (some h),some (some m)=>
    some (.val (.lq b inf.size (k+qeU 0 l) (h.toNat-qeU 0 l)),[qhs l,0≤h,0≤m,qeU 0 l≤h.toNat,h.toNat≤m.toNat,m.toNat≤len])
   | _,_,_,_=>none
  | none=>none
 | _=>none
def qbO:Value→Bool
 | .slice none 0 0=>true
 | _=>false
def qfk:Value→Bool
 | .slice _ 0 _=>true
 | _=>false
def qcc (st:St) (es:Nat):SV→Option (Nat×List Value)
 | .ls c m=>match qti st.hp c with
  | some ρ=>bif Nat.beq ρ.es es then some (m,ρ.xs) else none
  | none=>none
 | .lq c es' k m=>match qti st.hp c with
  | some ρ=>bif Nat.beq ρ.es es&&Nat.beq es' es then some (m,(ρ.xs.drop (k*es)).take (m*es)) else none
  | none=>none
 | .ps c q m _=>match qh8 st.hp c q (m*es) with
  | some l=>some (m,l)
  | none=>none
 | .pv y=>bif qfk y then some (0,[]) else none
 | _=>none
def qpl (hp:List (Nat×Nat×SV)) (b o n:Nat):Option (List Dn):=
 match qis hp b o n with
 | some l=>qlm l
 | none=>none
def qhQ (st:St) (es:Nat):SV→Option (Nat×List Dn)
 | .ls c m=>match qkA st.hp c with
  | some ρ=>bif Nat.beq ρ.es es then some (m,ρ.ds) else none
  | none=>none
 | .lq c es' k m=>match qkA st.hp c with
  | some ρ=>bif Nat.beq ρ.es es&&Nat.beq es' es then some (m,(ρ.ds.drop (k*es)).take (m*es)) else none
  | none=>none
 | .ps c q m _=>match qpl st.hp c q (m*es) with
  | some l=>some (m,l)
  | none=>none
 | .dv es' m ds=>bif Nat.beq es' es then some (m,ds) else none
 | .pv y=>bif qfk y then some (0,[]) else none
 | _=>none
def qtN (P:Program) (st:St) (t t':TypeId) (x y:SV) (c:Ch):Option (Out×List Prop):=
 match P.underlying t,P.underlying t',c with
 | some (.slice e),some (.slice _),.w ys=>match P.info? e with
  | some i=>match qeo st i.size x,qcc st i.size y with
   | some (b,k,len),some (m,src)=>match qdR st.hp b with
    | some ρ=>some (.stl b ρ.e ρ.es ρ.n ys (goInt (Nat.min m len)),[ys=qfJ ρ.xs (k*i.size) (src.take (Nat.min m len*i.size)),0<Nat.min m len,k*i.size+(src.take (Nat.min m len*i.size)).length≤ρ.xs.length])
    | none=>none
   | _,_=>none
  | none=>none
 | _,_,_=>none
def qjt (st:St) (e:TypeId) (es:Nat):SV→Option (Option Nat×Nat×List Value)
 | .ls b n=>match qdR st.hp b with
  | some ρ=>bif Nat.beq ρ.e e&&Nat.beq ρ.es es then some (some b,n,ρ.xs) else none
  | none=>none
 | .pv y=>bif qbO y then some (none,0,[]) else none
 | _=>none
def qpV (st:St) (e:TypeId) (es:Nat):SV→Option (Option Nat×Nat×List Dn)
 | .ls b n=>match qae st.hp b 0 with
  | some (.drow e' es' _ ds)=>bif Nat.beq e' e&&Nat.beq es' es then some (some b,n,ds) else none
  | some (.row e' es' _ xs)=>bif Nat.beq e' e&&Nat.beq es' es then some (some b,n,xs.map .v) else none
  | _=>none
 | .pv y=>bif qbO y then some (none,0,[]) else none
 | _=>none
def qcZ (z:List Value):Nat→List Value
 | 0=>[]
 | n+1=>z++qcZ z n
def qxL (P:Program) (t t':TypeId) (x y:SV):Option (Out×List Prop):=
 match P.underlying t,P.underlying t',x,intOf y with
 | some (.slice e),some (.int _),.pv v,some l=>match P.info? e with
  | some i=>match i.zero with
   | some z=>bif qbO v&&Nat.beq z.cells.size i.size&&!Nat.beq i.size 0&&Nat.ble i.bytes 100000000&&z.cells.toList.all Value.oneCell' then
    some (.app none e i.size l.toNat (qcZ z.cells.toList l.toNat),[0≤l,l≤1000000])
    else none
   | none=>none
  | none=>none
 | _,_,_,_=>none
def qod (P:Program) (st:St) (t:TypeId) (b n:Nat) (h:SV):Option (Out×List Prop):=
 match P.underlying t with
 | some (.slice e)=>match P.info? e,qdR st.hp b,intOf h with
  | some inf,some ρ,some i=>bif Nat.beq ρ.es inf.size then some (.app (some b) ρ.e ρ.es i.toNat (ρ.xs.take (i.toNat*ρ.es)),[0≤i,i.toNat≤n]) else none
  | _,_,_=>none
 | _=>none
def qgF:Option Operand→Bool
 | some _=>true
 | none=>false
def qxs:SV→Option (Nat×Nat)
 | .ls b n=>some (b,n)
 | _=>none
def isW:Ch→Bool
 | .w _=>true
 | _=>false
def slS (P:Program) (st:St) (t:TypeId) (x:SV) (lo hi mx:Option Operand) (c:Ch):Option (Out×List Prop):=
 bif isW c&&!qgF lo&&!qgF mx then
  match qxs x,hi with
  | some (b,n),some h=>qod P st t b n (st.ev h)
  | _,_=>none
 else qnN P st t x lo hi mx
def qzI:BinOp→Bool→Bool
 | .eql,e=>!e
 | .neq,e=>e
 | _,_=>false
def qn9 (P:Program) (st:St) (op:BinOp) (t:TypeId) (a b:SV) (c:Ch):Option (Out×List Prop):=
 match a,b,c,P.underlying t with
 | .ls k n,.pv v,.t e,some (.slice _)=>match qti st.hp k with
  | some ρ=>bif qbO v&&!Nat.beq ρ.es 0&&qzI op e then some (.val (.pv (.bool e)),[0<n]) else none
  | none=>none
 | _,_,_,_=>none
def qyq (P:Program) (st:St) (t t':TypeId) (x y:SV):Option (Out×List Prop):=
 match P.underlying t,P.underlying t' with
 | some (.slice e),some (.slice _)=>match P.info? e with
  | some i=>match i.zero with
   | some z=>bif Nat.beq z.cells.size i.size&&!Nat.beq i.size 0&&Nat.ble i.bytes 100000000 then
    match qjt st e i.size x,qcc st i.size y with
    | some (old,n,xs),some (m,ys)=>some (.app old e i.size (n+m) (xs++ys),[n+m≤1000000])
    | _,_=>match qpV st e i.size x,qhQ st i.size y with
     | some (old,n,xs),some (m,ys)=>some (.appd old e i.size (n+m) (xs++ys),[n+m≤1000000])
     | _,_=>none
    else none
   | none=>none
  | none=>none
 | _,_=>none
def qsi (P:Program) (t:TypeId) (x y:SV):Option (Out×List Prop):=
 match P.underlying t,intOf x,intOf y with
 | some (.slice e),some l,some c=>match P.info? e with
  | some i=>match i.zero with
   | some z=>bif Nat.beq z.cells.size i.size&&!Nat.beq i.size 0&&Nat.ble i.bytes 100000000&&z.cells.toList.all Value.oneCell' then
    some (.app none e i.size l.toNat (qcZ z.cells.toList l.toNat),[0≤l,l=c,l≤1000000])
    else none
   | none=>none
  | none=>none
 | _,_,_=>none
def qxA (cells:List S0) (off:Nat) (ds:List S0):List S0:=cells.take off++ds++cells.drop (off+ds.length)
def qkp (place:Nat→Option (Nat×Nat)) (cells:List S0):List (Nat×SV)→Option (List S0)
 | []=>some cells
 | (i,s)::r=>match place i,qbN (cellsOf s) with
  | some (off,size),some ds=>bif Nat.beq ds.length size&&Nat.ble (off+ds.length) cells.length then qkp place (qxA cells off ds) r else none
  | _,_=>none
def qdo (P:Program):List Field→Option (List (Nat×Nat))
 | []=>some []
 | f::r=>match P.info? f.type,qdo P r with
  | some i,some l=>some ((f.offset,i.size)::l)
  | _,_=>none
def qoe (P:Program) (t:TypeId) (parts:List (Nat×SV)):Option (Out×List Prop):=
 match P.underlying t,P.info? t with
 | some (.struct fs),some i=>match i.zero,qdo P fs.toList with
  | some z,some pl=>match qkp (pl[·]?) (z.cells.toList.map .pv) parts with
   | some l=>some (.val (.ag l),[])
   | none=>none
  | _,_=>none
 | _,_=>none
def qik (P:Program) (t:TypeId) (len:Nat) (parts:List (Nat×SV)):Option (Out×List Prop):=
 match P.underlying t with
 | some (.slice e)=>match P.info? e with
  | some i=>match i.zero with
   | some z=>
    bif Nat.beq (len*i.size) 0 then
     bif Nat.beq len 0&&parts.isEmpty then some (.app none e i.size 0 [],[]) else none
    else bif Nat.ble (len*i.size) 16777216 then
     match qkp (fun j=>some (j*i.size,i.size)) (((Array.range (len*i.size)).map (z.cells[· % z.cells.size]!)).toList.map .pv) parts with
     | some cs=>bif (cs.map S0.up).all qiK then some (.new e (cs.map S0.up) (some len),[]) else none
     | none=>none
    else none
   | none=>none
  | none=>none
 | _=>none
def qzU:Ch→Bool
 | .lw=>true
 | _=>false
def qyG (P:Program) (t:TypeId) (len:Nat) (parts:List (Nat×SV)):Option (Out×List Prop):=
 match P.underlying t with
 | some (.slice e)=>match P.info? e with
  | some i=>match i.zero with
   | some z=>
    bif (parts.all fun p=>p.2.isV)&&Nat.ble (len*i.size) 16777216&&!Nat.beq (len*i.size) 0 then
     match Instr.fill (fun j=>some (j*i.size,i.size)) ((Array.range (len*i.size)).map (z.cells[· % z.cells.size]!)) (parts.map fun p=>(p.1,p.2.raw)) with
     | some cs=>bif cs.toList.all Value.oneCell'&&Nat.beq cs.size (len*i.size)&&Nat.ble len 1000000 then some (.app none e i.size len cs.toList,[]) else none
     | none=>none
    else none
   | none=>none
  | none=>none
 | _=>none
def qgK:SV→Nat→Option SV
 | .tu l,j=>match l[j]? with
  | some s=>some s.up
  | none=>none
 | _,_=>none
def qAh:Op→Bool
 | .binOp .. | .unOp .. | .convert .. | .lookup .. | .mapUpdate ..=>true
 | .call c=>match c.callee with
  | .builtin .clear=>true
  | .builtin .copy=>true
  | .builtin _=>false
  | _=>true
 | _=>false
def qcW (u:Value):Ch→Option (Out×List Prop)
 | .k=>some (.val (.pv u),[])
 | .t b=>match u with
  | .bool e=>some (.val (.pv (.bool b)),[e=b])
  | _=>none
 | .r v=>some (.val (.pv v),[u=v])
 | _=>none
def qbK (P:Program) (st:St) (o:Oper) (c:Ch):Option (Out×List Prop):=
 bif o.op.operands.toList.all fun x=>(st.ev x).isV then
  match o.op with
  | .select ..=>none
  | _=>match qpA P (execOp (fun x=>(st.ev x).raw) o) with
   | some (.value u)=>qcW u c
   | _=>none
 else none
def qzf (P:Program) (st:St) (o:Oper) (op:BinOp) (t:TypeId) (a b:SV) (c:Ch):Option (Out×List Prop):=
 match op,a,b,c with
 | .eql,.pv (.agg xs),.pv (.agg ys),.t e=>bif P.eqGuardType P.depth t then none else match eqB P 40 t (.agg xs) (.agg ys) with
  | some r=>some (.val (.pv (.bool e)),[r=e])
  | none=>none
 | .neq,.pv (.agg xs),.pv (.agg ys),.t e=>bif P.eqGuardType P.depth t then none else match eqB P 40 t (.agg xs) (.agg ys) with
  | some r=>some (.val (.pv (.bool e)),[(!r)=e])
  | none=>none
 | .quo,.pv (.int k x),.pv (.int l y),.r v=>if k=l then some (.val (.pv v),[¬ y=0,Value.int k (k.wrap (x.tdiv y))=v]) else none
 | .rem,.pv (.int k x),.pv (.int l y),.r v=>if k=l then some (.val (.pv v),[¬ y=0,Value.int k (x.tmod y)=v]) else none
 | .shl,.pv (.int k x),.pv (.int _ y),.r v=>some (.val (.pv v),[¬ y<0,Value.int k (k.wrap (x*2 ^ (min y.toNat k.bits)))=v])
 | .shr,.pv (.int k x),.pv (.int _ y),.r v=>some (.val (.pv v),[¬ y<0,Value.int k (x.fdiv (2 ^ (min y.toNat k.bits)))=v])
 | _,_,_,_=>qbK P st o c
def qb6 (P:Program) (f:FuncId):Bool:=
 match P.funcs[f]? with
 | some fn=>fn.body.isSome&&!(fn.name=="runtime.NumGoroutine")
 | none=>false
def qnf (P:Program) (t:TypeId) (k:Nat):SV→Option SV
 | .ag l=>match P.underlying t with
  | some (.struct fs)=>match fs[k]? with
   | some fd=>match P.underlying fd.type with
    | some (.slice _)=>match l[fd.offset]? with
     | some s=>some s.up
     | none=>none
    | _=>none
   | none=>none
  | _=>none
 | _=>none
def qmf (P:Program) (t:TypeId) (xs:List Value) (k:Value) (ok:Bool) (v:Value):Prop:=∀ w r,MapIs w r xs→(Instr.lookup t (.map (some r)) k ok).run P w=.ok v w
def qwj (P:Program) (t:TypeId) (xs:List Value) (k v:Value) (ys:List Value):Prop:=∀ w r,MapIs w r xs→∃ en clock,(Instr.mapUpdate t (.map (some r)) k v).run P w=.ok () { w with heap:=w.heap.setIfInBounds r (.map en clock) }∧(en.toList.flatMap fun e=>[e.key,e.val])=ys
def qfP (hp:List (Nat×Nat×SV)) (b:Nat):Option (List Value):=
 match qae hp b 0 with
 | some (.mrow xs)=>some xs
 | _=>none
def qr5 (P:Program) (st:St) (t:TypeId) (x k:SV) (ok:Bool) (c:Ch):Option (Out×List Prop):=
 match x,k,c with
 | .mp b,.pv y,.r v=>match qfP st.hp b with
  | some xs=>some (.val (.pv v),[qmf P t xs y ok v])
  | none=>none
 | _,_,_=>none
def qxT (P:Program) (st:St) (t:TypeId) (x k v:SV) (c:Ch):Option (Out×List Prop):=
 match x,k,v,c with
 | .mp b,.pv y,.pv z,.w ys=>match qfP st.hp b with
  | some xs=>some (.mset b ys,[qwj P t xs y z ys])
  | none=>none
 | _,_,_,_=>none
def qtD (P:Program) (st:St) (t:TypeId) (r:Option Operand):Option (Out×List Prop):=
 match P.underlying t,r with
 | some (.map _ _),none=>some (.mnew,[])
 | some (.map _ _),some x=>match intOf (st.ev x) with
  | some _=>some (.mnew,[])
  | none=>none
 | _,_=>none
def opS (P:Program) (st:St) (o:Oper) (c:Ch):Option (Out×List Prop):=
 match o.op with
 | .move x=>some (.val (st.ev x),[])
 | .assign x=>some (.val (st.ev x),[])
 | .alloc t=>match P.info? t with
  | some i=>match i.zero with
   | some z=>bif z.cells.toList.all Value.oneCell' then some (.new t (z.cells.toList.map .pv) none,[]) else none
   | none=>none
  | none=>none
 | .box t x=>bif (cellsOf (st.ev x)).all qiK then some (.new t (cellsOf (st.ev x)) none,[]) else none
 | .build t parts=>
  bif parts.toList.all fun p=>(st.ev p.2).isV then qbK P st o c
  else qoe P t (parts.toList.map fun p=>(p.1,st.ev p.2))
 | .field t x k=>match qnf P t k (st.ev x) with
  | some s=>some (.val s,[])
  | none=>qbK P st o c
 | .extract x j=>match qgK (st.ev x) j with
  | some s=>some (.val s,[])
  | none=>qbK P st o c
 | .slice t x lo hi mx=>bif (st.ev x).isV then qbK P st o c else slS P st t (st.ev x) lo hi mx c
 | .makeSlice t x y=>qsi P t (st.ev x) (st.ev y)
 | .makeMap t r=>qtD P st t r
 | .lookup t x k ok=>qr5 P st t (st.ev x) (st.ev k) ok c
 | .mapUpdate t m k v=>qxT P st t (st.ev m) (st.ev k) (st.ev v) c
 | .buildSlice t len parts=>
  bif qzU c then qyG P t len (parts.toList.map fun p=>(p.1,st.ev p.2)) else
  bif (parts.toList.all fun p=>(st.ev p.2).isV)&&!parts.toList.isEmpty then
   match P.underlying t with
   | some (.slice e)=>match P.info? e with
    | some i=>match i.zero with
     | some z=>
      bif Nat.ble (len*i.size) 16777216&&!Nat.beq (len*i.size) 0 then
       match Instr.fill (fun j=>some (j*i.size,i.size)) ((Array.range (len*i.size)).map (z.cells[· % z.cells.size]!)) (parts.toList.map fun p=>(p.1,(st.ev p.2).raw)) with
       | some cs=>bif cs.toList.all Value.oneCell' then some (.new e (cs.toList.map .pv) (some len),[]) else none
       | none=>none
      else none
     | none=>none
    | none=>none
   | _=>none
  else qik P t len (parts.toList.map fun p=>(p.1,st.ev p.2))
 | .load t x=>match st.ev x with
  | .pp b q=>match P.underlying t,P.info? t with
   | some d,some i=>bif d.isRow then (match takeA st.hp b q i.size with
    | some s=>some (.val s,[])
    | none=>none)
    else match qae st.hp b q with
     | some s=>bif s.isRow then none else some (.val s,[])
     | none=>none
   | _,_=>none
  | .lp b q=>qr8 P st t b q c
  | _=>none
 | .store t x y=>match st.ev x with
  | .pp b q=>match P.info? t with
   | some i=>bif Nat.beq (cellsOf (st.ev y)).length i.size&&(cellsOf (st.ev y)).all qiK&&qgW st.hp b q i.size then some (.sto b q (cellsOf (st.ev y)),[]) else none
   | none=>none
  | .lp b q=>qlD P st t b q (st.ev y) c
  | _=>none
 | .fieldAddr s x f=>match st.ev x with
  | .pp b q=>match P.underlying s with
   | some (.struct fs)=>match fs[f]? with
    | some fd=>match P.info? fd.type with
     | some i=>bif Nat.beq i.size 0 then none else some (.val (.pp b (q+fd.offset)),[])
     | none=>none
    | none=>none
   | _=>none
  | .lp b q=>match P.underlying s with
   | some (.struct fs)=>match fs[f]? with
    | some fd=>match P.info? fd.type with
     | some i=>bif Nat.beq i.size 0 then none else some (.val (.lp b (q+fd.offset)),[])
     | none=>none
    | none=>none
   | _=>none
  | _=>none
 | .indexAddr t x ix=>match st.ev ix with
  | .pv (.int _ i)=>match P.underlying t,st.ev x with
   | some (.array len e),.pp b q=>match P.info? e with
    | some inf=>if 0≤i∧i<len then some (.val (.pp b (q+i.toNat*inf.size)),[]) else none
    | none=>none
   | some (.slice e),.ps b q len _=>match P.info? e with
    | some inf=>if 0≤i∧i<len then some (.val (.pp b (q+i.toNat*inf.size)),[]) else none
    | none=>none
   | some (.slice e),x=>match P.info? e with
    | some inf=>match qeo st inf.size x with
     | some (b,k,len)=>some (.val (.lp b (k*inf.size+i.toNat*inf.size)),[0≤i∧i<(len:Int)])
     | none=>none
    | none=>none
   | _,_=>none
  | _=>none
 | .nilCheck x=>match st.ev x with
  | .pp b q=>some (.val (.pp b q),[])
  | .lp b q=>some (.val (.lp b q),[])
  | .pc f cap=>some (.val (.pc f cap),[])
  | _=>qbK P st o c
 | .makeFunc fn first caps=>match fn with
  | .func f=>bif Nat.beq first.size 0 then (match qbN (caps.toList.map st.ev) with
   | some l=>some (.val (.pc f l),[])
   | none=>none) else none
  | _=>none
 | .binOp op t x y _=>match qn9 P st op t (st.ev x) (st.ev y) c with
  | some r=>some r
  | none=>qzf P st o op t (st.ev x) (st.ev y) c
 | .call cl=>match cl.callee with
  | .value f=>match st.ev f with
   | .pv (.func (.func g) first cap)=>bif qb6 P g then some (.call g (first.toList.map .pv++cl.args.toList.map st.ev++cap.toList.map .pv),[]) else qbK P st o c
   | .pc g cap=>bif qb6 P g then some (.call g (cl.args.toList.map st.ev++cap.map S0.up),[]) else none
   | _=>none
  | .builtin .len=>match cl.args.toList.map st.ev,cl.argTypes[0]? with
   | [.ps _ _ len _],some t=>match P.underlying t with
    | some (.slice _)=>some (.val (.pv (goInt len)),[])
    | _=>none
   | [.ls _ len],some t=>match P.underlying t with
    | some (.slice _)=>some (.val (.pv (goInt len)),[])
    | _=>none
   | [.lq _ _ _ len],some t=>match P.underlying t with
    | some (.slice _)=>some (.val (.pv (goInt len)),[])
    | _=>none
   | [.dv _ len _],some t=>match P.underlying t with
    | some (.slice _)=>some (.val (.pv (goInt len)),[])
    | _=>none
   | _,_=>qbK P st o c
  | .builtin .append=>match cl.args.toList.map st.ev,cl.argTypes.toList with
   | [x,y],[t,t']=>match P.underlying t' with
    | some (.int _)=>qxL P t t' x y
    | _=>qyq P st t t' x y
   | _,_=>none
  | .builtin .clear=>match cl.args.toList.map st.ev,cl.argTypes.toList with
   | [x],[t]=>qmW P st t x c qcZ
   | _,_=>none
  | .builtin .copy=>match cl.args.toList.map st.ev,cl.argTypes.toList with
   | [x,y],[t,t']=>qtN P st t t' x y c
   | _,_=>none
  | _=>qbK P st o c
 | _=>qbK P st o c
end Go.Proofs.YtleaeldgaflmkaaGreat
