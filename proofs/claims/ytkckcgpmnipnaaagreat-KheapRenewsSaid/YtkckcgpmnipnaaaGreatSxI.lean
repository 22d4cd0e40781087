/-
  A run of Go code over plain values and blocks by name: what a call returns, worked out by reduction, is what a real call returns. Conditions: none.
-/
import Derived.Test.YtkckcgpmnipnaaaGreatSxM
namespace Go.Proofs.YtkckcgpmnipnaaaGreat
set_option maxRecDepth 100000
open Go.RowKit
def qEw (bl:List (List Nat)) (b:Nat):Bool:=bl.any fun l=>qb9 l b
def qs1 (P:Program) (call:qbi) (lo:Nat) (ops:Array Oper) (hpL:List (Nat×Nat×SV)):Head→Option (St×List Prop)
 | ⟨s,hp,q,bl,gl,rest⟩=>
  bif qxx ops (ops.toList.length-rest.length)&&qga ops bl (ops.toList.length-rest.length)&&qni ops bl gl (ops.toList.length-rest.length)&&qf6 hpL bl&&P.follows .mixedOrders then
   match qqY P call lo ops rest { s with hp:=hp } with
   | some (s',q')=>some (s',q++q')
   | none=>none
  else none
def qlr (P:Program) (call:qbi) (lo:Nat) (ops:Array Oper) (st:St):Option (St×List Prop):=
 match qb3 P call lo st.nb ops ops.toList st st.hp with
 | H=>bif qf6 st.hp H.bl then qs1 P call lo ops st.hp H
  else qs1 P call lo ops (st.hp.filter fun e=>!qEw H.bl e.1) (qb3 P call lo st.nb ops ops.toList { st with hp:=st.hp.filter fun e=>!qEw H.bl e.1 } st.hp)
def qy4 (P:Program) (call:qbi) (lo:Nat) (ops:Array Oper) (st:St):Option (St×List Prop):=
 match st.ch with
 | .pm π::ch=>bif qqP π ops.size&&P.follows .mixedOrders then qlr P call lo (qe5 π ops) { st with ch:=ch } else none
 | .gr::ch=>bif P.follows .mixedOrders&&Region.noSelect ops then qeJ P call lo ops ops.size (Array.replicate ops.size false) { st with ch:=ch } else none
 | .gh L::ch=>bif P.follows .mixedOrders&&Region.noSelect ops then
  match qlT st.hp L with
  | some hpL=>qdQ P call lo ops hpL ops.size (Array.replicate ops.size false) { st with ch:=ch }
  | none=>none
  else none
 | .md::ch=>bif P.follows .mixedOrders then mdS P call lo ops { st with ch:=ch } else none
 | _=>qlr P call lo ops st
def qvn (P:Program) (hp:List (Nat×Nat×SV)) (t:TypeId):SV→Option SV
 | .pp b q=>match P.underlying t,P.info? t with
  | some d,some i=>bif d.isRow then takeA hp b q i.size
   else match qaj hp b q with
    | some s=>bif s.isRow then none else some s
    | none=>none
  | _,_=>none
 | _=>none
def quw (P:Program) (st:St):List ResultVar→Option (List SV)
 | []=>some []
 | .tmp t::r=>match quw P st r with
  | some l=>some (qaZ st.tm t::l)
  | none=>none
 | .cell a ty::r=>match qvn P st.hp ty (qaZ st.tm a),quw P st r with
  | some x,some l=>some (x::l)
  | _,_=>none
def qBO (P:Program) (fn:Func) (st:St):Option SV:=
 match quw P st fn.results.toList with
 | some [x]=>some x
 | some l=>match qbw l with
  | some us=>some (.pv (.tuple us.toArray))
  | none=>match qd0 l with
   | some ds=>some (.tu ds)
   | none=>none
 | none=>none
def qjn:Nat→List SV→List (Nat×SV)
 | _,[]=>[]
 | k,x::r=>(k,x)::qjn (k+1) r
abbrev qlz:=Nat→Nat→Code→St→Option (Exit×St×List Prop)
def qc1 (P:Program) (c:Code) (Q:Exit→Act→World→Prop) (a:Act) (w:World):Prop:=
 ∀ (b:Frame) (k:List Item) (cs:List Frame),∃ e a' w',Q e a' w'∧Arrives P (lone (b.at a (.inLoop c::k)) cs w) b k cs e a' w'
def quC:Nat→List (Nat×SV)
 | 0=>[]
 | n+1=>(n,.any)::quC n
def qgh (n nb:Nat) (tm:List (Nat×SV)) (hp:List (Nat×Nat×SV)) (ch:List Ch):St:=⟨tm++quC n,n,hp,nb,ch⟩
def qaM:List (Nat×Nat)→Nat→Nat
 | [],b=>b
 | (c,a)::r,b=>bif Nat.beq c b then a else qaM r b
def S0.ren (f:Nat→Nat):S0→S0
 | .pv x=>.pv x
 | .pp b o=>.pp (f b) o
 | .ps b o l c=>.ps (f b) o l c
 | .ls b l=>.ls (f b) l
 | .lq b es k l=>.lq (f b) es k l
 | .lp b q=>.lp (f b) q
 | .mp b=>.mp (f b)
def S1.ren (f:Nat→Nat):S1→S1
 | .one s=>.one (s.ren f)
 | .ag l=>.ag (l.map (S0.ren f))
def SV.ren (f:Nat→Nat):SV→SV
 | .pv x=>.pv x
 | .pp b o=>.pp (f b) o
 | .ps b o l c=>.ps (f b) o l c
 | .ls b l=>.ls (f b) l
 | .lq b es k l=>.lq (f b) es k l
 | .lp b q=>.lp (f b) q
 | .mp b=>.mp (f b)
 | .pc g cap=>.pc g (cap.map (S0.ren f))
 | .ag l=>.ag (l.map (S0.ren f))
 | .tu l=>.tu (l.map (S1.ren f))
 | .any=>.any
 | .row e es n xs=>.row e es n xs
 | .mrow xs=>.mrow xs
def S0.nm:S0→List Nat
 | .pv _=>[]
 | .pp b _=>[b]
 | .ps b _ _ _=>[b]
 | .ls b _=>[b]
 | .lq b _ _ _=>[b]
 | .lp b _=>[b]
 | .mp b=>[b]
def S1.nm:S1→List Nat
 | .one s=>s.nm
 | .ag l=>l.flatMap S0.nm
def SV.nm:SV→List Nat
 | .pv _=>[]
 | .pp b _=>[b]
 | .ps b _ _ _=>[b]
 | .ls b _=>[b]
 | .lq b _ _ _=>[b]
 | .lp b _=>[b]
 | .mp b=>[b]
 | .pc _ cap=>cap.flatMap S0.nm
 | .ag l=>l.flatMap S0.nm
 | .tu l=>l.flatMap S1.nm
 | .any=>[]
 | .row ..=>[]
 | .mrow _=>[]
def qbB (tm:List (Nat×SV)) (hp:List (Nat×Nat×SV)):List Nat:=hp.flatMap (fun e=>e.1::e.2.2.nm)++tm.flatMap fun e=>e.2.nm
def qbP (fr:Nat) (N:List Nat) (b:Nat):Bool:=Nat.ble (b+1) fr||qb9 N b
def Bl.ren (β:Bl) (fr:Nat) (N:List Nat) (f:Nat→Nat):Bl:=⟨fun b=>bif qbP fr N b then β (f b) else none,fun b=>bif qbP fr N b then β.g (f b) else none⟩
def okR (lo fr nb:Nat) (N:List Nat) (ρ:List (Nat×Nat)):Bool:=
 Nat.ble fr nb&&ρ.all (fun e=>Nat.ble fr e.1)&&
 N.all fun b=>Nat.ble (b+1) nb&&(Nat.ble (b+1) fr||Nat.ble fr (qaM ρ b))&&(Nat.ble lo b==Nat.ble lo (qaM ρ b))&&N.all fun c=>Nat.beq b c||!Nat.beq (qaM ρ b) (qaM ρ c)
def eqT (f:Nat→Nat) (st:St) (tm:List (Nat×SV)):List Prop:=tm.map fun e=>qaZ st.tm e.1=e.2.ren f
def eqH (f:Nat→Nat) (st:St) (hp:List (Nat×Nat×SV)):List Prop:=hp.map fun e=>qaj st.hp (f e.1) e.2.1=some (e.2.2.ren f)
def Bl.leU (k:Nat) (β γ:Bl):Prop:=∀ b,b<k→(β b≠none∨β.g b≠none)→γ b=β b∧γ.g b=β.g b
theorem Bl.le.u {β γ:Bl} (h:β.le γ) (k:Nat):β.leU k γ:=fun b _ e=>h b e
theorem Bl.leU_trans {k:Nat} {β γ δ:Bl} (h:β.leU k γ) (h':γ.leU k δ):β.leU k δ:=fun b hb e=>by
 obtain⟨h1,h2⟩:=h b hb e;obtain⟨k1,k2⟩:=h' b hb (by rw[h1,h2];exact e);exact⟨k1.trans h1,k2.trans h2⟩
def RunsL (P:Program) (lo fr:Nat) (c:Code) (n nb:Nat) (tm0:List (Nat×SV)) (hp0:List (Nat×Nat×SV)) (e:Exit) (tm1:List (Nat×SV)) (hp1:List (Nat×Nat×SV)):Prop:=
 ∀ (W0:World) (β:Bl) (a:Act) (w:World) (Q:Exit→Act→World→Prop),Rel W0 lo β (qgh n nb tm0 hp0 []) a w→
  (∀ β' a' w',β.leU fr β'→Rel W0 lo β' (qgh n nb tm1 hp1 []) a' w'→Q e a' w')→(Code.loop c).wp P Q a w∧qc1 P c Q a w
def qqL (P:Program) (lo fr:Nat) (c:Code) (st:St) (ρ:List (Nat×Nat)) (e:Exit) (tm0:List (Nat×SV)) (hp0:List (Nat×Nat×SV)) (tm1:List (Nat×SV)) (hp1:List (Nat×Nat×SV)) (ch:List Ch):Option (Exit×St×List Prop):=
 bif okR lo fr st.nb (qbB tm0 hp0) ρ then some (e,qgh st.n st.nb tm1 hp1 ch,[qba (eqT (qaM ρ) st tm0),qba (eqH (qaM ρ) st hp0),RunsL P lo fr c st.n st.nb tm0 hp0 e tm1 hp1]) else none
def FnL (P:Program) (f:FuncId) (k:Nat) (args:List SV) (pre:List (Nat×Nat×SV)) (x:SV) (m:Nat) (post:List (Nat×Nat×SV)):Prop:=
 ∀ (w:World) (β:Bl) (us:List Value),HRel w k β pre w→β.dom k→SV.isl β args us→
  Calls P f us.toArray w fun e w'=>∃ v β',e=.returned v∧β.le β'∧x.is β' v∧HRel w k β' post w'∧β'.dom (k+m)
def FnM (P:Program) (f:FuncId) (k:Nat) (args:List SV) (pre:List (Nat×Nat×SV)) (v:Value) (j:Nat) (R:Row) (ys:List Value):Prop:=
 ∀ (w:World) (β:Bl) (us:List Value) (base:Nat) (u:Value),HRel w k β pre w→β.dom k→SV.isl β args us→β.g j=some u→w.ownsRow base R.e R.es u R.n R.xs→base≤w.heap.size→(∀ c r,β c=some r→u.ownBlock≠some r)→
  Calls P f us.toArray w fun e w'=>e=.returned v∧Upd w w' u.ownBlock∧w'.ownsRow base R.e R.es u R.n ys∧∀ y∈ys,y.oneCell'=true
def qca (σ:List Nat) (nb j:Nat):Nat:=
 match σ[j]? with
 | some a=>a
 | none=>nb+(j-σ.length)
def qls:List Nat→Bool
 | []=>true
 | a::r=>!qb9 r a&&qls r
def qJJ (hp:List (Nat×Nat×SV)) (j:Nat):Bool:=hp.any fun e=>Nat.beq e.1 j
def qII (nb:Nat) (hp:List (Nat×Nat×SV)):Bool:=hp.all fun e=>Nat.ble (e.1+1) nb&&e.2.2.own nb
def qF3 (k:Nat) (hp:List (Nat×Nat×SV)):Bool:=hp.all fun e=>Nat.ble k e.1
def okF (nb:Nat) (σ:List Nat) (args:List SV) (pre:List (Nat×Nat×SV)) (x:SV) (m:Nat) (post:List (Nat×Nat×SV)):Bool:=
 qls σ&&σ.all (fun a=>Nat.ble (a+1) nb)&&args.all (SV.own σ.length)&&qII σ.length pre&&(List.range σ.length).all (qJJ pre)&&x.own (σ.length+m)&&qII (σ.length+m) post&&qF3 σ.length post
def qzw (f:Nat→Nat) (hp:List (Nat×Nat×SV)):List (Nat×Nat×SV):=hp.map fun e=>(f e.1,e.2.1,e.2.2.ren f)
def qgb (P:Program) (ex:qlz) (lo:Nat) (f:FuncId) (args:List SV) (st:St):Option (SV×St×List Prop):=
 match P.funcs[f]? with
 | some fn=>match fn.body with
  | some code=>match ex lo st.nb code { st with tm:=qjn 0 args,n:=args.length+(fn.ntmps-args.length) } with
   | some (.ret,s,q)=>match qBO P fn s with
    | some x=>some (x,{ s with tm:=st.tm,n:=st.n },q)
    | none=>none
   | some (.normal,s,q)=>match qBO P fn s with
    | some x=>some (x,{ s with tm:=st.tm,n:=st.n },q)
    | none=>none
   | _=>none
  | none=>none
 | none=>none
def qm0 (P:Program) (ex:qlz):qbi:=fun lo f args c st=>
 match c with
 | .r v=>match qbw args with
  | some us=>some (.pv v,st,[Pure P f us.toArray v])
  | none=>none
 | .m σ args0 pre v j ys=>match qcT pre j with
  | some R=>bif okF st.nb σ args0 pre (.pv v) 0 []&&qhO lo st.hp (some (qca σ st.nb j))&&Nat.ble (j+1) σ.length then
   some (.pv v,{ st with hp:=(qca σ st.nb j,0,.row R.e R.es R.n ys)::qcn (some (qca σ st.nb j)) st.hp },
    [FnM P f σ.length args0 pre v j R ys,args0.map (SV.ren (qca σ st.nb))=args,qba (eqH (qca σ st.nb) st pre)])
   else none
  | none=>none
 | .f σ args0 pre x m post=>bif okF st.nb σ args0 pre x m post then
  some (x.ren (qca σ st.nb),{ st with nb:=st.nb+m,hp:=qzw (qca σ st.nb) post++st.hp },
   [FnL P f σ.length args0 pre x m post,args0.map (SV.ren (qca σ st.nb))=args,qba (eqH (qca σ st.nb) st pre)])
  else none
 | _=>bif args.all SV.isV then
  match qgb P ex st.nb f args st with
  | some (.pv v,s,q)=>some (.pv v,{ st with ch:=s.ch },q)
  | _=>qgb P ex lo f args st
  else qgb P ex lo f args st
def qHK (st:St) (slot:Bool) (a o:Nat) (e:TypeId) (es:Nat):Option St:=
 bif slot then match qaZ st.tm a with
  | .pv v=>bif qcS v&&Nat.ble (a+1) st.n then some { st with tm:=(a,.ls st.nb 0)::st.tm,hp:=(st.nb,0,.row e es 0 [])::st.hp,nb:=st.nb+1 } else none
  | _=>none
 else match qaj st.hp a o with
  | some (.pv v)=>bif qcS v then some { st with hp:=(a,o,.ls st.nb 0)::(st.nb,0,.row e es 0 [])::st.hp,nb:=st.nb+1 } else none
  | _=>none
def qdW (P:Program):Nat→qlz
 | 0,_,_,_,_=>none
 | n+1,lo,fr,c,st=>
  match c with
  | .skip=>some (.normal,st,[])
  | .label _=>some (.normal,st,[])
  | .region _ ops draw=>
   match (bif draw then qy4 P (qm0 P (qdW P n)) lo ops st else qqY P (qm0 P (qdW P n)) lo ops ops.toList st) with
   | some (s,q)=>some (.normal,s,q)
   | none=>none
  | .seq x y=>match qdW P n lo fr x st with
   | some (.normal,s,q)=>match qdW P n lo fr y s with
    | some (e,s',q')=>some (e,s',q++q')
    | none=>none
   | some (.exit i,s,q)=>some (.exit i,s,q)
   | some (.ret,s,q)=>some (.ret,s,q)
   | _=>none
  | .cond c x y=>match st.ev c with
   | .pv (.bool b)=>match b with
    | true=>qdW P n lo fr x st
    | false=>qdW P n lo fr y st
   | _=>none
  | .block id c=>match qdW P n lo fr c st with
   | some (.normal,s,q)=>some (.normal,s,q)
   | some (.exit i,s,q)=>bif Nat.beq i id then some (.normal,s,q) else some (.exit i,s,q)
   | some (.ret,s,q)=>some (.ret,s,q)
   | _=>none
  | .loop c=>match st.ch with
   | .l e tm0 hp0 tm1 hp1::ch=>qqL P lo fr c st [] e tm0 hp0 tm1 hp1 ch
   | .lr ρ e tm0 hp0 tm1 hp1::ch=>qqL P lo fr c st ρ e tm0 hp0 tm1 hp1 ch
   | .ln slot a o e es::ch=>match qHK { st with ch:=ch } slot a o e es with
    | some s=>qdW P n lo fr (.loop c) s
    | none=>none
   | .up k::ch=>bif Nat.ble st.nb k then qdW P n lo fr (.loop c) { st with nb:=k,ch:=ch } else none
   | _=>match qdW P n lo fr c st with
    | some (.normal,s,q)=>match qdW P n lo fr (.loop c) s with
     | some (e,s',q')=>some (e,s',q++q')
     | none=>none
    | some (.exit i,s,q)=>some (.exit i,s,q)
    | some (.ret,s,q)=>some (.ret,s,q)
    | _=>none
  | .exit id=>some (.exit id,st,[])
  | .ret=>some (.ret,st,[])
  | _=>none
theorem qc2 {p:Nat→Bool} {b o:Nat} {s:SV}:∀ {hp:List (Nat×Nat×SV)},qaj (hp.filter fun e=>p e.1) b o=some s→qaj hp b o=some s
 | [],h=>h
 | (c,k,x)::r,h=>by
  rw[qao];by_cases hp:p c=true
  ·rw[List.filter_cons_of_pos (by simpa using hp),qao] at h;split
   ·rename_i e;rw[if_pos e] at h;exact h
   ·rename_i e;rw[if_neg e] at h;exact qc2 h
  ·rw[List.filter_cons_of_neg (by simpa using hp)] at h;have h':=qc2 h;by_cases e:c=b∧k=o
   ·exfalso
    have key:∀ {hp:List (Nat×Nat×SV)},qaj (hp.filter fun e=>p e.1) b o=some s→p b=true:=by
     intro hp h
     induction hp with
     | nil=>cases h
     | cons z r ih=>
      obtain⟨c',k',x'⟩:=z;by_cases hc:p c'=true
      ·rw[List.filter_cons_of_pos (by simpa using hc),qao] at h;split at h
       ·rename_i e;rw[← e.1];exact hc
       ·exact ih h
      ·rw[List.filter_cons_of_neg (by simpa using hc)] at h;exact ih h
    exact hp (by rw[e.1];exact key h)
   ·rw[if_neg e];exact h'
theorem qgD {sts:Nat→St} {als:Nat→Option Eff} {hp0:List (Nat×Nat×SV)} (m:Nat):∀ n,qa1 sts als hp0 (Array.replicate m false) n=hp0
 | 0=>rfl
 | n+1=>by rw[qa1,getD_replicate_false,cond_false,qgD m n]
theorem qkt {P:Program} {call:qbi} (hcall:qb4 P call) {W0:World} {lo:Nat} {ops:Array Oper} {Q:Exit→Act→World→Prop} {st st':St} {q:List Prop} {β:Bl} {a:Act} {w:World} {hpL:List (Nat×Nat×SV)}
 (hsub:∀ b o s,qaj hpL b o=some s→qaj st.hp b o=some s)
 (h:qs1 P call lo ops hpL (qb3 P call lo st.nb ops ops.toList { st with hp:=hpL } st.hp)=some (st',q)) (hq:qba q) (R:Rel W0 lo β st a w) (hQ:∀ β' a' w',β.le β'→Rel W0 lo β' st' a' w'→Q .normal a' w'):P.follows .mixedOrders=true∧wpAny P .any ops Q ops.size (Array.replicate ops.size false) a w.drew:=by
 generalize hH:qb3 P call lo st.nb ops ops.toList { st with hp:=hpL } st.hp=H at h;obtain⟨s,hp,q1,bl,gl,rest⟩:=H;simp only[qs1] at h;cases hb:(qxx ops (ops.toList.length-rest.length)&&qga ops bl (ops.toList.length-rest.length)&&qni ops bl gl (ops.toList.length-rest.length)&&qf6 hpL bl&&P.follows .mixedOrders)
 ·rw[hb] at h;cases h
 ·rw[hb,cond_true] at h;split at h
  ·rename_i s' q' hs;simp only[Option.some.injEq,Prod.mk.injEq] at h;obtain⟨rfl,rfl⟩:=h;obtain⟨hq1,hq2⟩:=qav hq;obtain⟨n,sts,als,b1,b2,b3,b4,b5,b7,b6⟩:=qfY (P:=P) (call:=call) (lo:=lo) (nb0:=st.nb) (ops:=ops) ops.toList 0 { st with hp:=hpL } st.hp (by simp) (by rw[hH];exact hq1);rw[hH] at b3 b4 b5 b7;simp only at b3 b4 b5 b7;simp only[Bool.and_eq_true] at hb;obtain⟨⟨⟨⟨hb,hbk⟩,hgk⟩,hap⟩,hm⟩:=hb
   have hn:ops.toList.length-rest.length=n:=by rw[b5,List.length_drop];omega
   rw[hn] at hb hbk hgk;unfold qxx at hb;simp only[Bool.and_eq_true,Bool.or_eq_true] at hb;obtain⟨⟨⟨⟨⟨c1,c2⟩,c3⟩,c4⟩,c5⟩,c6⟩:=hb;have hnl:n≤ops.size:=Nat.le_of_ble_eq_true c1
   have e1:(sts 0).nb=st.nb:=by rw[b2]
   have e2:(sts 0).n=st.n:=by rw[b2]
   have e3:(sts 0).hp=hpL:=by rw[b2]
   have e4:(sts 0).tm=st.tm:=by rw[b2]
   have T:Trace P call lo (sts 0).nb ops st.hp n sts als:=⟨fun j hj=>by rw[e1];simpa using b6 j hj⟩;refine⟨hm,?_⟩
   have F:FInv ops n sts (Array.replicate ops.size false) β a:=by
    refine⟨⟨by simp,fun j oj _ hl=>(by rw[getD_replicate_false] at hl;cases hl),fun t _ ht=>?_⟩,by rw[e2];exact R.t.size,R.t.defers,fun j o _ hl=>(by rw[getD_replicate_false] at hl;cases hl),fun d _=>by rw[e4];exact R.t.tmps d⟩;rw[Array.getD_eq_getD_getElem?,Array.getElem?_replicate,if_pos ht];rfl
   have Hd:HRel W0 lo β st.hp w.drew:=R.h.gr_mono (Gr.refl w).drew
   have H0:WInv n sts als st.hp W0 lo β (Array.replicate ops.size false) β w.drew:=
    ⟨Bl.le_refl _,by rw[e3];exact Hd.imp hsub,by rw[qgD];exact Hd,fun b r e=>Or.inl e,by rw[e1];exact R.dom,rfl,fun c o e es n xs u hc hu hl d r hd=>by
     rw[e3] at hc;obtain⟨u',g1,g2⟩:=R.h.rows _ _ _ _ _ _ (hsub _ _ _ hc);rw[hu] at g1;cases g1
     exact g2.apart hl d r hd⟩
   have hc0:cnt (Array.replicate ops.size false) n=n:=qg8 ops.size n hnl
   have key:=qnC hcall (Q:=Q) T (by rw[e1];exact R.lo) hnl c3 c4 c5 (fun j hj=>(b7 j hj).1) (fun j hj=>(b7 j hj).2) hgk hbk (by rw[e3];exact hap) (by
    rcases c6 with e | ⟨⟨e1,e2⟩,_⟩
    ·exact Or.inl (Nat.eq_of_beq_eq_true e)
    ·exact Or.inr ⟨e1,e2⟩) (fun β' a' w' listed hle R' hsz hall htail=>by
    have hlst:wpList P ops Q rest a' w':=by
     subst b3 b4
     exact qeA hcall hs hq2 R' fun β'' a'' w'' hle' R''=>hQ β'' a'' w'' (Bl.le_trans hle hle') R''
    have hrl:rest.length=ops.size-n:=by rw[b5,List.length_drop];simp
    rcases c6 with e | ⟨_,e3⟩
    ·have hns:=Nat.eq_of_beq_eq_true e;have h0:rest=[]:=List.length_eq_zero_iff.1 (by omega);rw[h0] at hlst;rw[show ops.size-n=0 by omega];refine⟨?_,hlst⟩
     cases hr:Region.ready .any ops listed with
     | nil=>rfl
     | cons i r=>
      have hi:i∈Region.ready .any ops listed:=by rw[hr];simp
      obtain⟨hun,oi,hoi,_⟩:=mem_ready.1 hi;have hi':=(Array.getElem?_eq_some_iff.1 hoi).1;have:=hall i (by omega);rw[getD_both hun] at this;cases this
    ·have hl:listed=qfw ops.size n:=by
      apply Array.ext
      ·simp[qfw];omega
      ·intro i h1 h2;rw[hsz] at h1
       rcases Nat.lt_or_ge i n with hin | hin
       ·have:=hall i hin;rw[Array.getD_eq_getD_getElem?,Array.getElem?_eq_getElem (by omega)] at this
        have e:(qfw ops.size n)[i]=true:=by simp[qfw,hin]
        rw[e];simpa using this
       ·have:=htail i hin h1;rw[Array.getD_eq_getD_getElem?,Array.getElem?_eq_getElem (by omega)] at this
        have e:(qfw ops.size n)[i]=false:=by simp[qfw,List.getElem_append,show ¬ i<n by omega]
        rw[e];simpa using this
     rw[hl,← hrl]
     exact wpAny_of_seq rest n _ a' w' (fun j=>by rw[b5];simp) (by rw[hrl];exact e3) hlst) n _ β a w.drew hc0 F H0
   rw[show n+(ops.size-n)=ops.size by omega] at key;exact key
  ·cases h
theorem qiL {P:Program} {call:qbi} (hcall:qb4 P call) {W0:World} {lo:Nat} {ops:Array Oper} {Q:Exit→Act→World→Prop} {st st':St} {q:List Prop} {β:Bl} {a:Act} {w:World}
 (h:qlr P call lo ops st=some (st',q)) (hq:qba q) (R:Rel W0 lo β st a w) (hQ:∀ β' a' w',β.le β'→Rel W0 lo β' st' a' w'→Q .normal a' w'):P.follows .mixedOrders=true∧wpAny P .any ops Q ops.size (Array.replicate ops.size false) a w.drew:=by
 simp only[qlr] at h;generalize hap:qf6 st.hp (qb3 P call lo st.nb ops ops.toList st st.hp).bl=z at h;cases z
 ·rw[cond_false] at h;clear hap;generalize (qb3 P call lo st.nb ops ops.toList st st.hp).bl=B at h;exact qkt hcall (st:=st) (hpL:=st.hp.filter fun e=>!qEw B e.1) (fun b o s e=>qc2 (p:=fun c=>!qEw B c) e) h hq R hQ
 ·rw[cond_true] at h;exact qkt hcall (st:=st) (fun b o s e=>e) h hq R hQ
theorem qrl {P:Program} {call:qbi} (hcall:qb4 P call) {W0:World} {lo:Nat} {ops:Array Oper} {Q:Exit→Act→World→Prop} {id:Nat} {st st':St} {q:List Prop} {β:Bl} {a:Act} {w:World}
 (h:qy4 P call lo ops st=some (st',q)) (hq:qba q) (R:Rel W0 lo β st a w) (hQ:∀ β' a' w',β.le β'→Rel W0 lo β' st' a' w'→Q .normal a' w'):(Code.region id ops true).wp P Q a w:=by
 unfold qy4 at h;split at h
 ·rename_i π ch _;cases hb:(qqP π ops.size&&P.follows .mixedOrders)
  ·rw[hb] at h;cases h
  ·rw[hb,cond_true] at h;rw[Bool.and_eq_true] at hb;have hp:=qsu hb.1;obtain⟨hm,k⟩:=qiL hcall h hq (st:={ st with ch:=ch }) ⟨⟨R.t.size,R.t.defers,R.t.tmps⟩,R.h,R.dom,R.lo⟩ hQ;rw[qdh hp] at k;refine wp_region_any hm (qmV hp _ _ _ a _ ?_ k);have:=qlO hp;rw[qdh hp] at this;exact this
 ·rename_i ch _;cases hb:(P.follows .mixedOrders&&Region.noSelect ops)
  ·rw[hb] at h;cases h
  ·rw[hb,cond_true] at h;rw[Bool.and_eq_true] at hb;have R1:Rel W0 lo β { st with ch:=ch } a w.drew:=⟨R.t,R.h.gr_mono (Gr.refl w).drew,R.dom,R.lo⟩;exact wp_region_any hb.1 (qnW hcall hb.2 ops.size _ h hq R1 hQ)
 ·rename_i L ch _;cases hb:(P.follows .mixedOrders&&Region.noSelect ops)
  ·rw[hb] at h;cases h
  ·rw[hb,cond_true] at h;split at h
   ·rename_i hpL hL;rw[Bool.and_eq_true] at hb;have R1:Rel W0 lo β { st with ch:=ch } a w.drew:=⟨R.t,R.h.gr_mono (Gr.refl w).drew,R.dom,R.lo⟩;exact wp_region_any hb.1 (qnn hcall hb.2 ops.size _ (st:={ st with ch:=ch }) hL h hq R1 hQ)
   ·cases h
 ·rename_i ch _;cases hb:P.follows .mixedOrders
  ·rw[hb] at h;cases h
  ·rw[hb,cond_true] at h;have R1:Rel W0 lo β { st with ch:=ch } a w.drew:=⟨R.t,R.h.gr_mono (Gr.refl w).drew,R.dom,R.lo⟩;exact wp_region_any hb (qz8 hcall (st:={ st with ch:=ch }) h hq R1 hQ)
 ·obtain⟨hm,k⟩:=qiL hcall h hq R hQ;exact wp_region_any hm k
theorem qtb {P:Program} {W0:World} {lo:Nat} {β:Bl} {w:World} {hp:List (Nat×Nat×SV)} (H:HRel W0 lo β hp w) {t:TypeId} {p x:SV} {v:Value} (h:qvn P hp t p=some x) (hv:p.is β v) :
 ∃ a u,v=.pointer (some a)∧(loadVar t a).run P w=.ok u w∧x.is β u:=by
 unfold qvn at h;split at h
 ·rename_i b q;obtain⟨r,hr,rfl⟩:=hv;split at h
  ·rename_i d i hu hi;cases hd:d.isRow
   ·rw[hd,cond_false] at h;split at h
    ·rename_i s hs;cases hsr:s.isRow
     case true=>rw[hsr] at h;cases h
     rw[hsr,cond_false] at h;cases h;obtain⟨r',u,h1,h2,h3,h4,h5⟩:=H.cells _ _ _ hs hsr;rw[hr] at h1;cases h1;exact⟨_,u,rfl,qb1 w r q t u d h4 hu hd,h2⟩
    ·cases h
   ·rw[hd,cond_true] at h;obtain⟨us,f1,f2,f3⟩:=H.takeA hr h;exact⟨_,_,rfl,run_loadVar_mid w r q t us d f3 hu hd (by simp[hi,f2]),f1⟩
  ·cases h
 ·cases h
def qf5 (tmps:Array Value):ResultVar→Sem Value
 | .tmp t=>pure (tmps.getD t undef)
 | .cell a t=>do loadVar t (← asAddr (tmps.getD a undef))
theorem qmw (fn:Func) (tmps:Array Value):results fn tmps=(do let vs ← fn.results.mapM (qf5 tmps);pure (if h:vs.size=1 then vs[0] else .tuple vs)):=by
 unfold results
 have e:(fun x=>qf5 tmps x)=(fun | .tmp t=>pure (tmps.getD t undef) | .cell a t=>do loadVar t (← asAddr (tmps.getD a undef))):=by
  funext x
  cases x<;>rfl
 rw[show qf5 tmps=(fun x=>qf5 tmps x) from rfl,e];rfl
theorem qjU {P:Program} {W0:World} {lo:Nat} {β:Bl} {w:World} {st:St} {tmps:Array Value} (H:HRel W0 lo β st.hp w) (ht:∀ d,(qaZ st.tm d).is β (tmps.getD d undef)):∀ {l:List ResultVar} {xs:List SV},quw P st l=some xs→
 ∃ us,SV.isl β xs us∧(l.mapM (qf5 tmps)).run P w=.ok us w
 | [],xs,h=>by
  simp only[quw,Option.some.injEq] at h;subst h;exact⟨[],trivial,by simp⟩
 | .tmp t::r,xs,h=>by
  simp only[quw] at h;split at h
  ·rename_i l hl;simp only[Option.some.injEq] at h;subst h;obtain⟨us,h1,h2⟩:=qjU H ht hl;exact⟨_::us,⟨ht t,h1⟩,by rw[List.mapM_cons];simp only[Sem.run_bind,qf5,Sem.run_pure,Result.andThen_ok,h2]⟩
  ·cases h
 | .cell a ty::r,xs,h=>by
  simp only[quw] at h;split at h
  ·rename_i x l hx hl;simp only[Option.some.injEq] at h;subst h;obtain⟨us,h1,h2⟩:=qjU H ht hl;obtain⟨ad,u,e1,e2,e3⟩:=qtb H hx (ht a);refine⟨u::us,⟨e3,h1⟩,?_⟩;rw[List.mapM_cons];simp only[Sem.run_bind,qf5,e1,asAddr,Sem.run_pure,Result.andThen_ok,e2,h2]
  ·cases h
theorem qvH {P:Program} {fn:Func} {W0:World} {lo:Nat} {β:Bl} {st:St} {a:Act} {w:World} (R:Rel W0 lo β st a w) {x:SV} (h:qBO P fn st=some x):∃ v,(results fn a.tmps).run P w=.ok v w∧x.is β v:=by
 unfold qBO at h
 have key:∀ {xs:List SV},quw P st fn.results.toList=some xs→∃ us,SV.isl β xs us∧(results fn a.tmps).run P w=.ok (if h:us.toArray.size=1 then us.toArray[0] else .tuple us.toArray) w:=by
  intro xs hx;obtain⟨us,h1,h2⟩:=qjU R.h R.t.tmps hx;refine⟨us,h1,?_⟩;rw[qmw,Sem.run_bind,Array.mapM_eq_mapM_toList,Sem.run_map,h2];rfl
 split at h
 ·rename_i y hy;simp only[Option.some.injEq] at h;subst h;obtain⟨us,h1,h2⟩:=key hy
  match us,h1,h2 with
  | [u],h1,h2=>exact⟨u,by simpa using h2,h1.1⟩
 ·rename_i l hne hl;split at h
  ·rename_i us' hg;simp only[Option.some.injEq] at h;subst h;obtain⟨us,h1,h2⟩:=key hl;rw[qcv hg] at h1;have he:=SV.isl_v_eq h1;subst he;refine⟨_,h2,?_⟩
   have hlen:¬ us.toArray.size=1:=by
    intro e;obtain⟨u,rfl⟩:∃ u,us=[u]:=List.length_eq_one_iff.1 (by simpa using e);exact hne _ (qcv hg)
   rw[dif_neg hlen];rfl
  ·split at h
   ·rename_i ds hds;simp only[Option.some.injEq] at h;subst h;obtain⟨us,h1,h2⟩:=key hl;refine⟨_,h2,?_⟩
    have hlen:¬ us.toArray.size=1:=by
     intro e;have hll:=(SV.isl_get h1).1;obtain⟨y,hy⟩:=List.length_eq_one_iff.1 (hll.trans (by simpa using e));exact hne y hy
    rw[dif_neg hlen];exact⟨us,qeO hds h1,rfl⟩
   ·cases h
 ·cases h
end Go.Proofs.YtkckcgpmnipnaaaGreat
