/-
  A run of Go code over plain values and blocks by name: what a call returns, worked out by reduction, is what a real call returns. Conditions: none.
-/
import Derived.Test.YtleaeldgaflmkaaGreatSxM
namespace Go.Proofs.YtleaeldgaflmkaaGreat
set_option maxRecDepth 100000
open Go.RowKit
def qxd (bl:List (List Nat)) (b:Nat):Bool:=bl.any fun l=>qbH l b
def qp1 (P:Program) (call:qa3) (lo:Nat) (ops:Array Oper) (hpL:List (Nat×Nat×SV)):Head→Option (St×List Prop)
 | ⟨s,hp,q,bl,gl,rest⟩=>
  bif qsw ops (ops.toList.length-rest.length)&&qfA ops bl (ops.toList.length-rest.length)&&qlH ops bl gl (ops.toList.length-rest.length)&&qfh hpL bl&&P.follows .mixedOrders then
   match qlp P call lo ops rest { s with hp:=hp } with
   | some (s',q')=>some (s',q++q')
   | none=>none
  else none
def qjY (P:Program) (call:qa3) (lo:Nat) (ops:Array Oper) (st:St):Option (St×List Prop):=
 match qbW P call lo st.nb ops ops.toList st st.hp with
 | H=>bif qfh st.hp H.bl then qp1 P call lo ops st.hp H
  else qp1 P call lo ops (st.hp.filter fun e=>!qxd H.bl e.1) (qbW P call lo st.nb ops ops.toList { st with hp:=st.hp.filter fun e=>!qxd H.bl e.1 } st.hp)
def qnj (P:Program) (call:qa3) (lo:Nat) (ops:Array Oper) (st:St):Option (St×List Prop):=
 match st.ch with
 | .pm π::ch=>bif qmX π ops.size&&P.follows .mixedOrders then qjY P call lo (qer π ops) { st with ch:=ch } else none
 | .gr::ch=>bif P.follows .mixedOrders&&Region.noSelect ops then qep P call lo ops ops.size (Array.replicate ops.size false) { st with ch:=ch } else none
 | .gh L::ch=>bif P.follows .mixedOrders&&Region.noSelect ops then
  match qku st.hp L with
  | some hpL=>qdN P call lo ops hpL ops.size (Array.replicate ops.size false) { st with ch:=ch }
  | none=>none
  else none
 | .md::ch=>bif P.follows .mixedOrders then mdS P call lo ops { st with ch:=ch } else none
 | _=>qjY P call lo ops st
def qrP (P:Program) (hp:List (Nat×Nat×SV)) (t:TypeId):SV→Option SV
 | .pp b q=>match P.underlying t,P.info? t with
  | some d,some i=>bif d.isRow then takeA hp b q i.size
   else match qae hp b q with
    | some s=>bif s.isRow then none else some s
    | none=>none
  | _,_=>none
 | _=>none
def qq2 (P:Program) (st:St):List ResultVar→Option (List SV)
 | []=>some []
 | .tmp t::r=>match qq2 P st r with
  | some l=>some (qax st.tm t::l)
  | none=>none
 | .cell a ty::r=>match qrP P st.hp ty (qax st.tm a),qq2 P st r with
  | some x,some l=>some (x::l)
  | _,_=>none
def qvn (P:Program) (fn:Func) (st:St):Option SV:=
 match qq2 P st fn.results.toList with
 | some [x]=>some x
 | some l=>match qa6 l with
  | some us=>some (.pv (.tuple us.toArray))
  | none=>match qdF l with
   | some ds=>some (.tu ds)
   | none=>none
 | none=>none
def qcA:Nat→List SV→List (Nat×SV)
 | _,[]=>[]
 | k,x::r=>(k,x)::qcA (k+1) r
abbrev qlj:=Nat→Nat→Code→St→Option (Exit×St×List Prop)
def qcL (P:Program) (c:Code) (Q:Exit→Act→World→Prop) (a:Act) (w:World):Prop:=
 ∀ (b:Frame) (k:List Item) (cs:List Frame),∃ e a' w',Q e a' w'∧Arrives P (lone (b.at a (.inLoop c::k)) cs w) b k cs e a' w'
def qir:Nat→List (Nat×SV)
 | 0=>[]
 | n+1=>(n,.any)::qir n
def qaC (n nb:Nat) (tm:List (Nat×SV)) (hp:List (Nat×Nat×SV)) (ch:List Ch):St:=⟨tm++qir n,n,hp,nb,ch⟩
def qaG:List (Nat×Nat)→Nat→Nat
 | [],b=>b
 | (c,a)::r,b=>bif Nat.beq c b then a else qaG r b
def S0.ren (f:Nat→Nat):S0→S0
 | .pv x=>.pv x
 | .pp b o=>.pp (f b) o
 | .ps b o l c=>.ps (f b) o l c
 | .ls b l=>.ls (f b) l
 | .lq b es k l=>.lq (f b) es k l
 | .lp b q=>.lp (f b) q
 | .mp b=>.mp (f b)
 | .dv es n ds=>.dv es n ds
def S1.ren (f:Nat→Nat):S1→S1
 | .one s=>.one (s.ren f)
 | .ag l=>.ag (l.map (S0.ren f))
def SV.ren (f:Nat→Nat):SV→SV
 | .pv x=>.pv x
 | .pp b o=>.pp (f b) o
 | .ps b o l c=>.ps (f b) o l c
 | .ls b l=>.ls (f b) l
 | .lq b es k l=>.lq (f b) es k l
 | .lp b q=>.lp (f b) q
 | .mp b=>.mp (f b)
 | .pc g cap=>.pc g (cap.map (S0.ren f))
 | .ag l=>.ag (l.map (S0.ren f))
 | .tu l=>.tu (l.map (S1.ren f))
 | .any=>.any
 | .row e es n xs=>.row e es n xs
 | .mrow xs=>.mrow xs
 | .dv es n ds=>.dv es n ds
 | .drow e es n ds=>.drow e es n ds
 | .rrow e es n ds=>.rrow e es n ds
 | .prow e es n xs=>.prow e es n xs
def S0.nm:S0→List Nat
 | .pv _=>[]
 | .pp b _=>[b]
 | .ps b _ _ _=>[b]
 | .ls b _=>[b]
 | .lq b _ _ _=>[b]
 | .lp b _=>[b]
 | .mp b=>[b]
 | .dv ..=>[]
def S1.nm:S1→List Nat
 | .one s=>s.nm
 | .ag l=>l.flatMap S0.nm
def SV.nm:SV→List Nat
 | .pv _=>[]
 | .pp b _=>[b]
 | .ps b _ _ _=>[b]
 | .ls b _=>[b]
 | .lq b _ _ _=>[b]
 | .lp b _=>[b]
 | .mp b=>[b]
 | .pc _ cap=>cap.flatMap S0.nm
 | .ag l=>l.flatMap S0.nm
 | .tu l=>l.flatMap S1.nm
 | .any=>[]
 | .row ..=>[]
 | .mrow _=>[]
 | .dv ..=>[]
 | .drow ..=>[]
 | .rrow ..=>[]
 | .prow ..=>[]
def qaO (tm:List (Nat×SV)) (hp:List (Nat×Nat×SV)):List Nat:=hp.flatMap (fun e=>e.1::e.2.2.nm)++tm.flatMap fun e=>e.2.nm
def qbr (fr:Nat) (N:List Nat) (b:Nat):Bool:=Nat.ble (b+1) fr||qbH N b
def Bl.ren (β:Bl) (fr:Nat) (N:List Nat) (f:Nat→Nat):Bl:=⟨fun b=>bif qbr fr N b then β (f b) else none,fun b=>bif qbr fr N b then β.g (f b) else none,β.h,β.h0⟩
def okR (lo fr nb:Nat) (N:List Nat) (ρ:List (Nat×Nat)):Bool:=
 Nat.ble fr nb&&ρ.all (fun e=>Nat.ble fr e.1)&&
 N.all fun b=>Nat.ble (b+1) nb&&(Nat.ble (b+1) fr||Nat.ble fr (qaG ρ b))&&(Nat.ble lo b==Nat.ble lo (qaG ρ b))&&N.all fun c=>Nat.beq b c||!Nat.beq (qaG ρ b) (qaG ρ c)
def eqT (f:Nat→Nat) (st:St) (tm:List (Nat×SV)):List Prop:=tm.map fun e=>qax st.tm e.1=e.2.ren f
def eqH (f:Nat→Nat) (st:St) (hp:List (Nat×Nat×SV)):List Prop:=hp.map fun e=>qae st.hp (f e.1) e.2.1=some (e.2.2.ren f)
def qwf (f:Nat→Nat) (st:St) (e:Nat×Nat×SV):Prop:=
 qae st.hp (f e.1) e.2.1=some (e.2.2.ren f)∨∃ t es n xs,e.2.2=.row t es n xs∧∃ t',qae st.hp (f e.1) e.2.1=some (.prow t' es n xs)
def eqQ (f:Nat→Nat) (st:St) (hp:List (Nat×Nat×SV)):List Prop:=hp.map (qwf f st)
def Bl.leU (k:Nat) (β γ:Bl):Prop:=(∀ b,b<k→(β b≠none∨β.g b≠none)→γ b=β b∧γ.g b=β.g b)∧(∀ j,β.h j≠none→γ.h j=β.h j)∧γ.h0=β.h0
theorem Bl.le.u {β γ:Bl} (h:β.le γ) (k:Nat):β.leU k γ:=⟨fun b _ e=>h.1 b e,h.2⟩
theorem Bl.leU_trans {k:Nat} {β γ δ:Bl} (h:β.leU k γ) (h':γ.leU k δ):β.leU k δ:=⟨fun b hb e=>by
 obtain⟨h1,h2⟩:=h.1 b hb e
 obtain⟨k1,k2⟩:=h'.1 b hb (by rw[h1,h2];exact e)
 exact⟨k1.trans h1,k2.trans h2⟩,Bl.h_trans h.2.1 h'.2.1,h'.2.2.trans h.2.2⟩
def RunsL (P:Program) (lo fr:Nat) (c:Code) (n nb:Nat) (tm0:List (Nat×SV)) (hp0:List (Nat×Nat×SV)) (e:Exit) (tm1:List (Nat×SV)) (hp1:List (Nat×Nat×SV)):Prop:=
 ∀ (W0:Base) (β:Bl) (a:Act) (w:World) (Q:Exit→Act→World→Prop),Rel W0 lo β (qaC n nb tm0 hp0 []) a w→
  (∀ β' a' w',β.leU fr β'→Rel W0 lo β' (qaC n nb tm1 hp1 []) a' w'→Q e a' w')→(Code.loop c).wp P Q a w∧qcL P c Q a w
def qoW (P:Program) (lo fr:Nat) (c:Code) (st:St) (ρ:List (Nat×Nat)) (e:Exit) (tm0:List (Nat×SV)) (hp0:List (Nat×Nat×SV)) (tm1:List (Nat×SV)) (hp1:List (Nat×Nat×SV)) (ch:List Ch):Option (Exit×St×List Prop):=
 bif okR lo fr st.nb (qaO tm0 hp0) ρ then some (e,qaC st.n st.nb tm1 hp1 ch,[qaI (eqT (qaG ρ) st tm0),qaI (eqH (qaG ρ) st hp0),RunsL P lo fr c st.n st.nb tm0 hp0 e tm1 hp1]) else none
def FnL (P:Program) (f:FuncId) (k:Nat) (args:List SV) (pre:List (Nat×Nat×SV)) (x:SV) (m:Nat) (post:List (Nat×Nat×SV)):Prop:=
 ∀ (w:World) (β:Bl) (us:List Value),HRel w k β pre w→β.dom k→SV.isl β args us→
  Calls P f us.toArray w fun e w'=>∃ v β',e=.returned v∧β.le β'∧x.is β' v∧HRel w k β' post w'∧β'.dom (k+m)
def FnM (P:Program) (f:FuncId) (k:Nat) (args:List SV) (pre:List (Nat×Nat×SV)) (v:Value) (j:Nat) (R:Row) (ys:List Value):Prop:=
 ∀ (w:World) (β:Bl) (us:List Value) (base:Nat) (u:Value),HRel w k β pre w→β.dom k→SV.isl β args us→β.g j=some u→w.ownsRow base R.e R.es u R.n R.xs→base≤w.heap.size→(∀ c r,β c=some r→u.ownBlock≠some r)→
  Calls P f us.toArray w fun e w'=>e=.returned v∧Upd w w' u.ownBlock∧w'.ownsRow base R.e R.es u R.n ys∧∀ y∈ys,y.oneCell'=true
def FnX (P:Program) (f:FuncId) (k:Nat) (args:List SV) (pre:List (Nat×Nat×SV)) (j:Nat) (R:Row) (ys:List Value) (e es n:Nat) (xs:List Value):Prop:=
 ∀ (w:World) (β:Bl) (us:List Value) (base:Nat) (u:Value),HRel w k β pre w→β.dom k→SV.isl β args us→β.g j=some u→w.ownsRow base R.e R.es u R.n R.xs→base≤w.heap.size→(∀ c r,β c=some r→u.ownBlock≠some r)→
  (∀ c o e es n xs v,qae pre c o=some (.row e es n xs)→c≠j→xs≠[]→β.g c=some v→∀ k,u.ownBlock=some k→v.ownBlock≠some k)→
  Calls P f us.toArray w fun ex w'=>∃ v,ex=.returned v∧Upd w w' u.ownBlock∧w'.ownsRow base R.e R.es u R.n ys∧(∀ y∈ys,y.oneCell'=true)∧qqn v n∧w'.ownsRow w.heap.size e es v n xs∧∀ y∈xs,y.oneCell'=true
def FnO (P:Program) (f:FuncId) (l k:Nat) (args:List SV) (pre:List (Nat×Nat×SV)) (x:SV) (m:Nat) (post:List (Nat×Nat×SV)):Prop:=
 ∀ (W0:Base) (w:World) (β:Bl) (us:List Value),HRel W0 l β pre w→β.dom k→SV.isl β args us→
  Calls P f us.toArray w fun e w'=>∃ v β',e=.returned v∧β.le β'∧x.is β' v∧HRel W0 l β' post w'∧β'.dom (k+m)
def qkz (N:List Nat) (hp:List (Nat×Nat×SV)):List (Nat×Nat×SV):=hp.filter fun e=>!qbH N e.1
def qaY (σ:List Nat) (nb j:Nat):Nat:=
 match σ[j]? with
 | some a=>a
 | none=>nb+(j-σ.length)
def qhS:List Nat→Bool
 | []=>true
 | a::r=>!qbH r a&&qhS r
def qzR (hp:List (Nat×Nat×SV)) (j:Nat):Bool:=hp.any fun e=>Nat.beq e.1 j
def qxc (nb:Nat) (hp:List (Nat×Nat×SV)):Bool:=hp.all fun e=>Nat.ble (e.1+1) nb&&e.2.2.own nb
def quI (k:Nat) (hp:List (Nat×Nat×SV)):Bool:=hp.all fun e=>Nat.ble k e.1
def okF (nb:Nat) (σ:List Nat) (args:List SV) (pre:List (Nat×Nat×SV)) (x:SV) (m:Nat) (post:List (Nat×Nat×SV)):Bool:=
 qhS σ&&σ.all (fun a=>Nat.ble (a+1) nb)&&args.all (SV.own σ.length)&&qxc σ.length pre&&(List.range σ.length).all (qzR pre)&&x.own (σ.length+m)&&qxc (σ.length+m) post&&quI σ.length post
def okO (lo l nb:Nat) (σ:List Nat) (args:List SV) (pre:List (Nat×Nat×SV)) (x:SV) (m:Nat) (post:List (Nat×Nat×SV)):Bool:=
 qhS σ&&σ.all (fun a=>Nat.ble (a+1) nb)&&args.all (SV.own σ.length)&&qxc σ.length pre&&(List.range σ.length).all (qzR pre)&&x.own (σ.length+m)&&qxc (σ.length+m) post&&quI l post&&(σ.drop l).all (Nat.ble lo)&&Nat.ble l σ.length
def qlo (f:Nat→Nat) (hp:List (Nat×Nat×SV)):List (Nat×Nat×SV):=hp.map fun e=>(f e.1,e.2.1,e.2.2.ren f)
def qfi (P:Program) (ex:qlj) (lo:Nat) (f:FuncId) (args:List SV) (st:St):Option (SV×St×List Prop):=
 match P.funcs[f]? with
 | some fn=>match fn.body with
  | some code=>match ex lo st.nb code { st with tm:=qcA 0 args,n:=args.length+(fn.ntmps-args.length) } with
   | some (.ret,s,q)=>match qvn P fn s with
    | some x=>some (x,{ s with tm:=st.tm,n:=st.n },q)
    | none=>none
   | some (.normal,s,q)=>match qvn P fn s with
    | some x=>some (x,{ s with tm:=st.tm,n:=st.n },q)
    | none=>none
   | _=>none
  | none=>none
 | none=>none
def qeR (P:Program) (ex:qlj):qa3:=fun lo f args c st=>
 match c with
 | .r v=>match qa6 args with
  | some us=>some (.pv v,st,[Pure P f us.toArray v])
  | none=>none
 | .m σ args0 pre v j ys=>match qdR pre j with
  | some R=>bif okF st.nb σ args0 pre (.pv v) 0 []&&qg5 lo st.hp (some (qaY σ st.nb j))&&Nat.ble (j+1) σ.length then
   some (.pv v,{ st with hp:=(qaY σ st.nb j,0,.row R.e R.es R.n ys)::qaT (some (qaY σ st.nb j)) st.hp },
    [FnM P f σ.length args0 pre v j R ys,args0.map (SV.ren (qaY σ st.nb))=args,qaI (eqH (qaY σ st.nb) st pre)])
   else none
  | none=>none
 | .mx σ args0 pre j ys e es n xs=>match qdR pre j with
  | some R=>bif okF st.nb σ args0 pre (.pv undef) 0 []&&qg5 lo st.hp (some (qaY σ st.nb j))&&Nat.ble (j+1) σ.length then
   some (.ls st.nb n,{ st with nb:=st.nb+1,hp:=(st.nb,0,.row e es n xs)::(qaY σ st.nb j,0,.row R.e R.es R.n ys)::qaT (some (qaY σ st.nb j)) st.hp },
    [FnX P f σ.length args0 pre j R ys e es n xs,args0.map (SV.ren (qaY σ st.nb))=args,qaI (eqH (qaY σ st.nb) st pre)])
   else none
  | none=>none
 | .f σ args0 pre x m post=>bif okF st.nb σ args0 pre x m post then
  some (x.ren (qaY σ st.nb),{ st with nb:=st.nb+m,hp:=qlo (qaY σ st.nb) post++st.hp },
   [FnL P f σ.length args0 pre x m post,args0.map (SV.ren (qaY σ st.nb))=args,qaI (eqH (qaY σ st.nb) st pre)])
  else none
 | .fq σ args0 pre x m post=>bif okF st.nb σ args0 pre x m post then
  some (x.ren (qaY σ st.nb),{ st with nb:=st.nb+m,hp:=qlo (qaY σ st.nb) post++st.hp },
   [FnL P f σ.length args0 pre x m post,args0.map (SV.ren (qaY σ st.nb))=args,qaI (eqQ (qaY σ st.nb) st pre)])
  else none
 | .fo l σ args0 pre x m post=>bif okO lo l st.nb σ args0 pre x m post then
  some (x.ren (qaY σ st.nb),{ st with nb:=st.nb+m,hp:=qlo (qaY σ st.nb) post++qkz (σ.drop l) st.hp },
   [FnO P f l σ.length args0 pre x m post,args0.map (SV.ren (qaY σ st.nb))=args,qaI (eqH (qaY σ st.nb) st pre)])
  else none
 | _=>bif args.all SV.isV then
  match qfi P ex st.nb f args st with
  | some (.pv v,s,q)=>some (.pv v,{ st with ch:=s.ch },q)
  | _=>qfi P ex lo f args st
  else qfi P ex lo f args st
def qxf (st:St) (slot:Bool) (a o:Nat) (e:TypeId) (es:Nat):Option St:=
 bif slot then match qax st.tm a with
  | .pv v=>bif qbO v&&Nat.ble (a+1) st.n then some { st with tm:=(a,.ls st.nb 0)::st.tm,hp:=(st.nb,0,.row e es 0 [])::st.hp,nb:=st.nb+1 } else none
  | _=>none
 else match qae st.hp a o with
  | some (.pv v)=>bif qbO v then some { st with hp:=(a,o,.ls st.nb 0)::(st.nb,0,.row e es 0 [])::st.hp,nb:=st.nb+1 } else none
  | _=>none
def Dn.le (d d':Dn):Prop:=d=d'∨(d=.v (.slice none 0 0)∧∃ es,d'=.sl es 0 [])
def LeD:List Dn→List Dn→Prop
 | [],[]=>True
 | a::r,b::s=>a.le b∧LeD r s
 | _,_=>False
def qiP (st:St) (slot:Bool) (a o:Nat):Option SV:=
 bif slot then (bif Nat.ble (a+1) st.n then some (qax st.tm a) else none)
 else match qae st.hp a o with
  | some s=>bif s.isRow then none else some s
  | none=>none
def qgH (st:St) (slot:Bool) (a o:Nat) (s:SV):St:=
 bif slot then { st with tm:=(a,s)::st.tm } else { st with hp:=(a,o,s)::st.hp }
def qkE (i:Nat):SV→Option S0
 | .ag l=>l[i]?
 | s=>s.down
def qjV (i:Nat) (d:S0):SV→SV
 | .ag l=>.ag (l.take i++d::l.drop (i+1))
 | _=>d.up
def qtV (st:St) (slot:Bool) (a o i:Nat) (e:TypeId) (pl:Option (List Value)):Option (St×List Prop):=
 match qiP st slot a o with
 | some s=>match qkE i s with
  | some (.dv es n ds)=>match pl with
   | none=>some (qgH { st with hp:=(st.nb,0,.rrow e es n ds)::st.hp,nb:=st.nb+1 } slot a o (qjV i (.ls st.nb n) s),[])
   | some xs=>some (qgH { st with hp:=(st.nb,0,.prow e es n xs)::st.hp,nb:=st.nb+1 } slot a o (qjV i (.ls st.nb n) s),[ds=xs.map .v])
  | _=>none
 | none=>none
def qij (lo:Nat) (st:St) (slot:Bool) (a o i es0:Nat) (ds:List Dn):Option (St×List Prop):=
 match qiP st slot a o with
 | some s=>match qkE i s with
  | some (.pv v)=>bif qbO v then some (qgH st slot a o (qjV i (.dv es0 0 []) s),[ds=[]]) else none
  | some (.ls b n)=>bif Nat.ble lo b&&(slot||!Nat.beq a b) then match qae st.hp b 0 with
   | some (.row _ es _ xs)=>some (qgH { st with hp:=qaT (some b) st.hp } slot a o (qjV i (.dv es n ds) s),[LeD (xs.map .v) ds])
   | some (.drow _ es _ d0)=>some (qgH { st with hp:=qaT (some b) st.hp } slot a o (qjV i (.dv es n ds) s),[LeD d0 ds])
   | _=>none
   else none
  | some (.lq b es k m)=>bif Nat.ble lo b&&(slot||!Nat.beq a b) then match qae st.hp b 0 with
   | some (.row _ es' _ xs)=>bif Nat.beq es' es then some (qgH { st with hp:=qaT (some b) st.hp } slot a o (qjV i (.dv es m ds) s),[LeD (((xs.drop (k*es)).take (m*es)).map .v) ds]) else none
   | _=>none
   else none
  | some (.ps b 0 n c)=>bif Nat.ble lo b&&(slot||!Nat.beq a b)&&!Nat.beq (n*es0) 0&&Nat.ble n c then match qpl st.hp b 0 (n*es0) with
   | some d0=>some (qgH { st with hp:=qaT (some b) st.hp } slot a o (qjV i (.dv es0 n ds) s),[LeD d0 ds])
   | none=>none
   else none
  | _=>none
 | none=>none
def qb3 (P:Program):Nat→qlj
 | 0,_,_,_,_=>none
 | n+1,lo,fr,c,st=>
  match c with
  | .skip=>some (.normal,st,[])
  | .label _=>some (.normal,st,[])
  | .region id ops draw=>match st.ch with
   | .lz slot a o e es::ch=>match qxf { st with ch:=ch } slot a o e es with
    | some s=>qb3 P n lo fr (.region id ops draw) s
    | none=>none
   | .od slot a o i e pl::ch=>match qtV { st with ch:=ch } slot a o i e pl with
    | some (s,q)=>match qb3 P n lo fr (.region id ops draw) s with
     | some (e,s',q')=>some (e,s',q++q')
     | none=>none
    | none=>none
   | .fz slot a o i es ds::ch=>match qij lo { st with ch:=ch } slot a o i es ds with
    | some (s,q)=>match qb3 P n lo fr (.region id ops draw) s with
     | some (e,s',q')=>some (e,s',q++q')
     | none=>none
    | none=>none
   | _=>match (bif draw then qnj P (qeR P (qb3 P n)) lo ops st else qlp P (qeR P (qb3 P n)) lo ops ops.toList st) with
    | some (s,q)=>some (.normal,s,q)
    | none=>none
  | .seq x y=>match qb3 P n lo fr x st with
   | some (.normal,s,q)=>match qb3 P n lo fr y s with
    | some (e,s',q')=>some (e,s',q++q')
    | none=>none
   | some (.exit i,s,q)=>some (.exit i,s,q)
   | some (.ret,s,q)=>some (.ret,s,q)
   | _=>none
  | .cond c x y=>match st.ev c with
   | .pv (.bool b)=>match b with
    | true=>qb3 P n lo fr x st
    | false=>qb3 P n lo fr y st
   | _=>none
  | .block id c=>match qb3 P n lo fr c st with
   | some (.normal,s,q)=>some (.normal,s,q)
   | some (.exit i,s,q)=>bif Nat.beq i id then some (.normal,s,q) else some (.exit i,s,q)
   | some (.ret,s,q)=>some (.ret,s,q)
   | _=>none
  | .loop c=>match st.ch with
   | .l e tm0 hp0 tm1 hp1::ch=>qoW P lo fr c st [] e tm0 hp0 tm1 hp1 ch
   | .lr ρ e tm0 hp0 tm1 hp1::ch=>qoW P lo fr c st ρ e tm0 hp0 tm1 hp1 ch
   | .ln slot a o e es::ch=>match qxf { st with ch:=ch } slot a o e es with
    | some s=>qb3 P n lo fr (.loop c) s
    | none=>none
   | _=>match qb3 P n lo fr c st with
    | some (.normal,s,q)=>match qb3 P n lo fr (.loop c) s with
     | some (e,s',q')=>some (e,s',q++q')
     | none=>none
    | some (.exit i,s,q)=>some (.exit i,s,q)
    | some (.ret,s,q)=>some (.ret,s,q)
    | _=>none
  | .exit id=>some (.exit id,st,[])
  | .ret=>some (.ret,st,[])
  | _=>none
theorem qcd {p:Nat→Bool} {b o:Nat} {s:SV}:∀ {hp:List (Nat×Nat×SV)},qae (hp.filter fun e=>p e.1) b o=some s→qae hp b o=some s
 | [],h=>h
 | (c,k,x)::r,h=>by
  rw[qaf]
  by_cases hp:p c=true
  ·rw[List.filter_cons_of_pos (by simpa using hp),qaf] at h
   split
   ·rename_i e;rw[if_pos e] at h;exact h
   ·rename_i e;rw[if_neg e] at h;exact qcd h
  ·rw[List.filter_cons_of_neg (by simpa using hp)] at h
   have h':=qcd h
   by_cases e:c=b∧k=o
   ·exfalso
    have key:∀ {hp:List (Nat×Nat×SV)},qae (hp.filter fun e=>p e.1) b o=some s→p b=true:=by
     intro hp h
     induction hp with
     | nil=>cases h
     | cons z r ih=>
      obtain⟨c',k',x'⟩:=z
      by_cases hc:p c'=true
      ·rw[List.filter_cons_of_pos (by simpa using hc),qaf] at h
       split at h
       ·rename_i e;rw[← e.1];exact hc
       ·exact ih h
      ·rw[List.filter_cons_of_neg (by simpa using hc)] at h
       exact ih h
    exact hp (by rw[e.1];exact key h)
   ·rw[if_neg e];exact h'
theorem qfY {sts:Nat→St} {als:Nat→Option Eff} {hp0:List (Nat×Nat×SV)} (m:Nat):∀ n,qaK sts als hp0 (Array.replicate m false) n=hp0
 | 0=>rfl
 | n+1=>by rw[qaK,getD_replicate_false,cond_false,qfY m n]
theorem qjd {P:Program} {call:qa3} (hcall:qbD P call) {W0:Base} {lo:Nat} {ops:Array Oper} {Q:Exit→Act→World→Prop} {st st':St} {q:List Prop} {β:Bl} {a:Act} {w:World} {hpL:List (Nat×Nat×SV)}
 (hsub:∀ b o s,qae hpL b o=some s→qae st.hp b o=some s)
 (h:qp1 P call lo ops hpL (qbW P call lo st.nb ops ops.toList { st with hp:=hpL } st.hp)=some (st',q)) (hq:qaI q) (R:Rel W0 lo β st a w) (hQ:∀ β' a' w',β.le β'→Rel W0 lo β' st' a' w'→Q .normal a' w'):P.follows .mixedOrders=true∧wpAny P .any ops Q ops.size (Array.replicate ops.size false) a w.drew:=by
 generalize hH:qbW P call lo st.nb ops ops.toList { st with hp:=hpL } st.hp=H at h
 obtain⟨s,hp,q1,bl,gl,rest⟩:=H
 simp only[qp1] at h
 cases hb:(qsw ops (ops.toList.length-rest.length)&&qfA ops bl (ops.toList.length-rest.length)&&qlH ops bl gl (ops.toList.length-rest.length)&&qfh hpL bl&&P.follows .mixedOrders)
 ·rw[hb] at h;cases h
 ·rw[hb,cond_true] at h
  split at h
  ·rename_i s' q' hs
   simp only[Option.some.injEq,Prod.mk.injEq] at h
   obtain⟨rfl,rfl⟩:=h
   obtain⟨hq1,hq2⟩:=qai hq
   obtain⟨n,sts,als,b1,b2,b3,b4,b5,b7,b6⟩:=qfr (P:=P) (call:=call) (lo:=lo) (nb0:=st.nb) (ops:=ops) ops.toList 0 { st with hp:=hpL } st.hp (by simp) (by rw[hH];exact hq1)
   rw[hH] at b3 b4 b5 b7
   simp only at b3 b4 b5 b7
   simp only[Bool.and_eq_true] at hb
   obtain⟨⟨⟨⟨hb,hbk⟩,hgk⟩,hap⟩,hm⟩:=hb
   have hn:ops.toList.length-rest.length=n:=by rw[b5,List.length_drop];omega
   rw[hn] at hb hbk hgk
   unfold qsw at hb
   simp only[Bool.and_eq_true,Bool.or_eq_true] at hb
   obtain⟨⟨⟨⟨⟨c1,c2⟩,c3⟩,c4⟩,c5⟩,c6⟩:=hb
   have hnl:n≤ops.size:=Nat.le_of_ble_eq_true c1
   have e1:(sts 0).nb=st.nb:=by rw[b2]
   have e2:(sts 0).n=st.n:=by rw[b2]
   have e3:(sts 0).hp=hpL:=by rw[b2]
   have e4:(sts 0).tm=st.tm:=by rw[b2]
   have T:Trace P call lo (sts 0).nb ops st.hp n sts als:=⟨fun j hj=>by rw[e1];simpa using b6 j hj⟩
   refine⟨hm,?_⟩
   have F:FInv ops n sts (Array.replicate ops.size false) β a:=by
    refine⟨⟨by simp,fun j oj _ hl=>(by rw[getD_replicate_false] at hl;cases hl),fun t _ ht=>?_⟩,by rw[e2];exact R.t.size,R.t.defers,fun j o _ hl=>(by rw[getD_replicate_false] at hl;cases hl),fun d _=>by rw[e4];exact R.t.tmps d⟩
    rw[Array.getD_eq_getD_getElem?,Array.getElem?_replicate,if_pos ht]
    rfl
   have Hd:HRel W0 lo β st.hp w.drew:=R.h.gr_mono (Gr.refl w).drew
   have H0:WInv n sts als st.hp W0 lo β (Array.replicate ops.size false) β w.drew:=
    ⟨Bl.le_refl _,by rw[e3];exact Hd.imp hsub,by rw[qfY];exact Hd,fun b r e=>Or.inl e,by rw[e1];exact R.dom,rfl,fun c o s u hc hsr hu hl d r hd=>by
     rw[e3] at hc
     obtain⟨u',_,_,_,_,_,g1,g2⟩:=R.h.rows0 _ _ _ (hsub _ _ _ hc) hsr
     rw[hu] at g1
     cases g1
     exact g2.apart hl d r hd,rfl⟩
   have hc0:cnt (Array.replicate ops.size false) n=n:=qgD ops.size n hnl
   have key:=qlt hcall (Q:=Q) T (by rw[e1];exact R.lo) hnl c3 c4 c5 (fun j hj=>(b7 j hj).1) (fun j hj=>(b7 j hj).2) hgk hbk (by rw[e3];exact hap) (by
    rcases c6 with e | ⟨⟨e1,e2⟩,_⟩
    ·exact Or.inl (Nat.eq_of_beq_eq_true e)
    ·exact Or.inr ⟨e1,e2⟩) (fun β' a' w' listed hle R' hsz hall htail=>by
    have hlst:wpList P ops Q rest a' w':=by
     subst b3 b4
     exact qc8 hcall hs hq2 R' fun β'' a'' w'' hle' R''=>hQ β'' a'' w'' (Bl.le_trans hle hle') R''
    have hrl:rest.length=ops.size-n:=by rw[b5,List.length_drop];simp
    rcases c6 with e | ⟨_,e3⟩
    ·have hns:=Nat.eq_of_beq_eq_true e
     have h0:rest=[]:=List.length_eq_zero_iff.1 (by omega)
     rw[h0] at hlst
     rw[show ops.size-n=0 by omega]
     refine⟨?_,hlst⟩
     cases hr:Region.ready .any ops listed with
     | nil=>rfl
     | cons i r=>
      have hi:i∈Region.ready .any ops listed:=by rw[hr];simp
      obtain⟨hun,oi,hoi,_⟩:=mem_ready.1 hi
      have hi':=(Array.getElem?_eq_some_iff.1 hoi).1
      have:=hall i (by omega)
      rw[getD_both hun] at this;cases this
    ·have hl:listed=qfg ops.size n:=by
      apply Array.ext
      ·simp[qfg];omega
      ·intro i h1 h2
       rw[hsz] at h1
       rcases Nat.lt_or_ge i n with hin | hin
       ·have:=hall i hin
        rw[Array.getD_eq_getD_getElem?,Array.getElem?_eq_getElem (by omega)] at this
        have e:(qfg ops.size n)[i]=true:=by simp[qfg,hin]
        rw[e]
        simpa using this
       ·have:=htail i hin h1
        rw[Array.getD_eq_getD_getElem?,Array.getElem?_eq_getElem (by omega)] at this
        have e:(qfg ops.size n)[i]=false:=by simp[qfg,List.getElem_append,show ¬ i<n by omega]
        rw[e]
        simpa using this
     rw[hl,← hrl]
     exact wpAny_of_seq rest n _ a' w' (fun j=>by rw[b5];simp) (by rw[hrl];exact e3) hlst) n _ β a w.drew hc0 F H0
   rw[show n+(ops.size-n)=ops.size by omega] at key
   exact key
  ·cases h
theorem qdu {P:Program} {call:qa3} (hcall:qbD P call) {W0:Base} {lo:Nat} {ops:Array Oper} {Q:Exit→Act→World→Prop} {st st':St} {q:List Prop} {β:Bl} {a:Act} {w:World}
 (h:qjY P call lo ops st=some (st',q)) (hq:qaI q) (R:Rel W0 lo β st a w) (hQ:∀ β' a' w',β.le β'→Rel W0 lo β' st' a' w'→Q .normal a' w'):P.follows .mixedOrders=true∧wpAny P .any ops Q ops.size (Array.replicate ops.size false) a w.drew:=by
 simp only[qjY] at h
 generalize hap:qfh st.hp (qbW P call lo st.nb ops ops.toList st st.hp).bl=z at h
 cases z
 ·rw[cond_false] at h
  clear hap
  generalize (qbW P call lo st.nb ops ops.toList st st.hp).bl=B at h
  exact qjd hcall (st:=st) (hpL:=st.hp.filter fun e=>!qxd B e.1) (fun b o s e=>qcd (p:=fun c=>!qxd B c) e) h hq R hQ
 ·rw[cond_true] at h
  exact qjd hcall (st:=st) (fun b o s e=>e) h hq R hQ
theorem qpn {P:Program} {call:qa3} (hcall:qbD P call) {W0:Base} {lo:Nat} {ops:Array Oper} {Q:Exit→Act→World→Prop} {id:Nat} {st st':St} {q:List Prop} {β:Bl} {a:Act} {w:World}
 (h:qnj P call lo ops st=some (st',q)) (hq:qaI q) (R:Rel W0 lo β st a w) (hQ:∀ β' a' w',β.le β'→Rel W0 lo β' st' a' w'→Q .normal a' w'):(Code.region id ops true).wp P Q a w:=by
 unfold qnj at h
 split at h
 ·rename_i π ch _
  cases hb:(qmX π ops.size&&P.follows .mixedOrders)
  ·rw[hb] at h;cases h
  ·rw[hb,cond_true] at h
   rw[Bool.and_eq_true] at hb
   have hp:=qjm hb.1
   obtain⟨hm,k⟩:=qdu hcall h hq (st:={ st with ch:=ch }) ⟨⟨R.t.size,R.t.defers,R.t.tmps⟩,R.h,R.dom,R.lo⟩ hQ
   rw[qbR hp] at k
   refine wp_region_any hm (qf8 hp _ _ _ a _ ?_ k)
   have:=qge hp
   rw[qbR hp] at this
   exact this
 ·rename_i ch _
  cases hb:(P.follows .mixedOrders&&Region.noSelect ops)
  ·rw[hb] at h;cases h
  ·rw[hb,cond_true] at h
   rw[Bool.and_eq_true] at hb
   have R1:Rel W0 lo β { st with ch:=ch } a w.drew:=⟨R.t,R.h.gr_mono (Gr.refl w).drew,R.dom,R.lo⟩
   exact wp_region_any hb.1 (qhN hcall hb.2 ops.size _ h hq R1 hQ)
 ·rename_i L ch _
  cases hb:(P.follows .mixedOrders&&Region.noSelect ops)
  ·rw[hb] at h;cases h
  ·rw[hb,cond_true] at h
   split at h
   ·rename_i hpL hL
    rw[Bool.and_eq_true] at hb
    have R1:Rel W0 lo β { st with ch:=ch } a w.drew:=⟨R.t,R.h.gr_mono (Gr.refl w).drew,R.dom,R.lo⟩
    exact wp_region_any hb.1 (qhv hcall hb.2 ops.size _ (st:={ st with ch:=ch }) hL h hq R1 hQ)
   ·cases h
 ·rename_i ch _
  cases hb:P.follows .mixedOrders
  ·rw[hb] at h;cases h
  ·rw[hb,cond_true] at h
   have R1:Rel W0 lo β { st with ch:=ch } a w.drew:=⟨R.t,R.h.gr_mono (Gr.refl w).drew,R.dom,R.lo⟩
   exact wp_region_any hb (qq1 hcall (st:={ st with ch:=ch }) h hq R1 hQ)
 ·obtain⟨hm,k⟩:=qdu hcall h hq R hQ
  exact wp_region_any hm k
theorem qoY {P:Program} {W0:Base} {lo:Nat} {β:Bl} {w:World} {hp:List (Nat×Nat×SV)} (H:HRel W0 lo β hp w) {t:TypeId} {p x:SV} {v:Value} (h:qrP P hp t p=some x) (hv:p.is β v) :
 ∃ a u,v=.pointer (some a)∧(loadVar t a).run P w=.ok u w∧x.is β u:=by
 unfold qrP at h
 split at h
 ·rename_i b q
  obtain⟨r,hr,rfl⟩:=hv
  split at h
  ·rename_i d i hu hi
   cases hd:d.isRow
   ·rw[hd,cond_false] at h
    split at h
    ·rename_i s hs
     cases hsr:s.isRow
     case true=>rw[hsr] at h;cases h
     rw[hsr,cond_false] at h
     cases h
     obtain⟨r',u,h1,h2,h3,h4,h5⟩:=H.cells _ _ _ hs hsr
     rw[hr] at h1
     cases h1
     exact⟨_,u,rfl,qbp w r q t u d h4 hu hd,h2⟩
    ·cases h
   ·rw[hd,cond_true] at h
    obtain⟨us,f1,f2,f3⟩:=H.takeA hr h
    exact⟨_,_,rfl,run_loadVar_mid w r q t us d f3 hu hd (by simp[hi,f2]),f1⟩
  ·cases h
 ·cases h
def qe2 (tmps:Array Value):ResultVar→Sem Value
 | .tmp t=>pure (tmps.getD t undef)
 | .cell a t=>do loadVar t (← asAddr (tmps.getD a undef))
theorem qlf (fn:Func) (tmps:Array Value):results fn tmps=(do let vs ← fn.results.mapM (qe2 tmps);pure (if h:vs.size=1 then vs[0] else .tuple vs)):=by
 unfold results
 have e:(fun x=>qe2 tmps x)=(fun | .tmp t=>pure (tmps.getD t undef) | .cell a t=>do loadVar t (← asAddr (tmps.getD a undef))):=by
  funext x
  cases x<;>rfl
 rw[show qe2 tmps=(fun x=>qe2 tmps x) from rfl,e]
 rfl
theorem qiv {P:Program} {W0:Base} {lo:Nat} {β:Bl} {w:World} {st:St} {tmps:Array Value} (H:HRel W0 lo β st.hp w) (ht:∀ d,(qax st.tm d).is β (tmps.getD d undef)):∀ {l:List ResultVar} {xs:List SV},qq2 P st l=some xs→
 ∃ us,SV.isl β xs us∧(l.mapM (qe2 tmps)).run P w=.ok us w
 | [],xs,h=>by
  simp only[qq2,Option.some.injEq] at h
  subst h
  exact⟨[],trivial,by simp⟩
 | .tmp t::r,xs,h=>by
  simp only[qq2] at h
  split at h
  ·rename_i l hl
   simp only[Option.some.injEq] at h
   subst h
   obtain⟨us,h1,h2⟩:=qiv H ht hl
   exact⟨_::us,⟨ht t,h1⟩,by rw[List.mapM_cons];simp only[Sem.run_bind,qe2,Sem.run_pure,Result.andThen_ok,h2]⟩
  ·cases h
 | .cell a ty::r,xs,h=>by
  simp only[qq2] at h
  split at h
  ·rename_i x l hx hl
   simp only[Option.some.injEq] at h
   subst h
   obtain⟨us,h1,h2⟩:=qiv H ht hl
   obtain⟨ad,u,e1,e2,e3⟩:=qoY H hx (ht a)
   refine⟨u::us,⟨e3,h1⟩,?_⟩
   rw[List.mapM_cons]
   simp only[Sem.run_bind,qe2,e1,asAddr,Sem.run_pure,Result.andThen_ok,e2,h2]
  ·cases h
theorem qiU {P:Program} {fn:Func} {W0:Base} {lo:Nat} {β:Bl} {st:St} {a:Act} {w:World} (R:Rel W0 lo β st a w) {x:SV} (h:qvn P fn st=some x):∃ v,(results fn a.tmps).run P w=.ok v w∧x.is β v:=by
 unfold qvn at h
 have key:∀ {xs:List SV},qq2 P st fn.results.toList=some xs→∃ us,SV.isl β xs us∧(results fn a.tmps).run P w=.ok (if h:us.toArray.size=1 then us.toArray[0] else .tuple us.toArray) w:=by
  intro xs hx
  obtain⟨us,h1,h2⟩:=qiv R.h R.t.tmps hx
  refine⟨us,h1,?_⟩
  rw[qlf,Sem.run_bind,Array.mapM_eq_mapM_toList,Sem.run_map,h2]
  rfl
 split at h
 ·rename_i y hy
  simp only[Option.some.injEq] at h
  subst h
  obtain⟨us,h1,h2⟩:=key hy
  match us,h1,h2 with
  | [u],h1,h2=>exact⟨u,by simpa using h2,h1.1⟩
 ·rename_i l hne hl
  split at h
  ·rename_i us' hg
   simp only[Option.some.injEq] at h
   subst h
   obtain⟨us,h1,h2⟩:=key hl
   rw[qcm hg] at h1
   have he:=SV.isl_v_eq h1
   subst he
   refine⟨_,h2,?_⟩
   have hlen:¬ us.toArray.size=1:=by
    intro e
    obtain⟨u,rfl⟩:∃ u,us=[u]:=List.length_eq_one_iff.1 (by simpa using e)
    exact hne _ (qcm hg)
   rw[dif_neg hlen]
   rfl
  ·split at h
   ·rename_i ds hds
    simp only[Option.some.injEq] at h
    subst h
    obtain⟨us,h1,h2⟩:=key hl
    refine⟨_,h2,?_⟩
    have hlen:¬ us.toArray.size=1:=by
     intro e
     have hll:=(SV.isl_get h1).1
     obtain⟨y,hy⟩:=List.length_eq_one_iff.1 (hll.trans (by simpa using e))
     exact hne y hy
    rw[dif_neg hlen]
    exact⟨us,qel hds h1,rfl⟩
   ·cases h
 ·cases h
end Go.Proofs.YtleaeldgaflmkaaGreat
