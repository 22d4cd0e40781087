/-
  Operations one after another over blocks by name: a real run does what was worked out. Conditions: none.
-/
import Derived.Test.YtkckcgpmnipnaaaGreatSxD
namespace Go.Proofs.YtkckcgpmnipnaaaGreat
set_option maxRecDepth 100000
open Go.RowKit
def qtO (n:Nat):Option Nat→SV
 | none=>.pp n 0
 | some m=>.ps n 0 m m
def qb7 (st:St) (dst:Option Tmp) (x:SV):Option St:=
 match dst with
 | none=>some st
 | some d=>bif Nat.ble (d+1) st.n then some { st with tm:=(d,x)::st.tm } else none
def qa8 (b:Nat):Nat→List SV→List (Nat×Nat×SV)→List (Nat×Nat×SV)
 | _,[],hp=>hp
 | o,s::r,hp=>(b,o,s)::qa8 b (o+1) r hp
def qbE (ops:Array Oper) (st:St) (o:Oper):Option Bool:=
 match o.guard with
 | none=>some true
 | some (j,want)=>match (ops[j]?).bind (·.dst) with
  | some d=>match qaZ st.tm d with
   | .pv (.bool b)=>some (b==want)
   | .pv (.tuple _)=>some false
   | _=>none
  | none=>none
def qAt (op:Op) (st:St):Bool:=
 match op with
 | .load _ x=>qIP (st.ev x)
 | .store _ x _=>qIP (st.ev x)
 | .slice _ x _ _ _=>(qEY (st.ev x)).isSome
 | .buildSlice _ _ _=>match st.ch with
  | .lw::_=>true
  | _=>false
 | op=>qJx op
def qaV (op:Op) (st:St):Ch×St:=
 bif qAt op st then
  match st.ch with
  | []=>(.k,st)
  | c::r=>(c,{ st with ch:=r })
 else (.k,st)
abbrev qbi:=Nat→FuncId→List SV→Ch→St→Option (SV×St×List Prop)
def qcn (b:Option Nat) (hp:List (Nat×Nat×SV)):List (Nat×Nat×SV):=
 match b with
 | none=>hp
 | some b=>hp.filter fun e=>!Nat.beq e.1 b
def qhO (lo:Nat) (hp:List (Nat×Nat×SV)):Option Nat→Bool
 | none=>true
 | some b=>Nat.ble lo b&&(qcT hp b).isSome
def qG7 (call:qbi) (lo:Nat) (o:Oper) (c:Ch) (st:St):Out→Option (St×List Prop)
 | .val x=>match qb7 st o.dst x with
  | some s=>some (s,[])
  | none=>none
 | .new _ cells len=>
  match qb7 { st with hp:=qa8 st.nb 0 cells st.hp,nb:=st.nb+1 } o.dst (qtO st.nb len) with
  | some s=>some (s,[])
  | none=>none
 | .sto b i cells=>bif Nat.ble lo b then
  match qb7 { st with hp:=qa8 b i cells st.hp } o.dst (.pv undef) with
  | some s=>some (s,[])
  | none=>none
  else none
 | .stl b e es n xs r=>bif qhO lo st.hp (some b) then
  match qb7 { st with hp:=(b,0,.row e es n xs)::qcn (some b) st.hp } o.dst (.pv r) with
  | some s=>some (s,[])
  | none=>none
  else none
 | .app old e es n xs=>bif qhO lo st.hp old then
  match qb7 { st with hp:=(st.nb,0,.row e es n xs)::qcn old st.hp,nb:=st.nb+1 } o.dst (.ls st.nb n) with
  | some s=>some (s,[])
  | none=>none
  else none
 | .call f args=>match call lo f args c st with
  | some (x,s,q)=>match qb7 s o.dst x with
   | some s'=>some (s',q)
   | none=>none
  | none=>none
 | .mnew=>match qb7 { st with hp:=(st.nb,0,.mrow [])::st.hp,nb:=st.nb+1 } o.dst (.mp st.nb) with
  | some s=>some (s,[])
  | none=>none
 | .mset b ys=>bif Nat.ble lo b&&(qeT st.hp b).isSome then
  match qb7 { st with hp:=(b,0,.mrow ys)::qcn (some b) st.hp } o.dst (.pv undef) with
  | some s=>some (s,[])
  | none=>none
  else none
def qqY (P:Program) (call:qbi) (lo:Nat) (ops:Array Oper):List Oper→St→Option (St×List Prop)
 | [],st=>some (st,[])
 | o::r,st=>match qbE ops st o with
  | some true=>match opS P (qaV o.op st).2 o (qaV o.op st).1 with
   | some (out,q1)=>match qG7 call lo o (qaV o.op st).1 (qaV o.op st).2 out with
    | some (st2,q2)=>match qqY P call lo ops r st2 with
     | some (st3,q3)=>some (st3,q1++(q2++q3))
     | none=>none
    | none=>none
   | none=>none
  | some false=>match qb7 st o.dst (.pv undef) with
   | some st2=>qqY P call lo ops r st2
   | none=>none
  | none=>none
structure TRel (β:Bl) (tm:List (Nat×SV)) (n:Nat) (a:Act):Prop where
 size:a.tmps.size=n
 defers:a.defers=[]
 tmps:∀ d,(qaZ tm d).is β (a.tmps.getD d undef)
structure Rel (W0:World) (lo:Nat) (β:Bl) (st:St) (a:Act) (w:World):Prop where
 t:TRel β st.tm st.n a
 h:HRel W0 lo β st.hp w
 dom:β.dom st.nb
 lo:lo≤st.nb
def qb4 (P:Program) (call:qbi):Prop:=
 ∀ {lo:Nat} {f:FuncId} {args:List SV} {c:Ch} {st:St} {x:SV} {st':St} {q:List Prop},call lo f args c st=some (x,st',q)→qba q→
  st'.tm=st.tm∧st'.n=st.n∧∀ (W0:World) (β:Bl) (us:List Value) (w:World),HRel W0 lo β st.hp w→β.dom st.nb→lo≤st.nb→SV.isl β args us→
   Calls P f us.toArray w fun e w'=>∃ v β',e=.returned v∧β.le β'∧x.is β' v∧HRel W0 lo β' st'.hp w'∧β'.dom st'.nb∧lo≤st'.nb
theorem TRel.mono {β γ:Bl} {tm:List (Nat×SV)} {n:Nat} {a:Act} (h:TRel β tm n a) (k:β.le γ):TRel γ tm n a:=⟨h.size,h.defers,fun d=>SV.is_mono k (h.tmps d)⟩
theorem qbC (d:Nat) (x:SV) (tm:List (Nat×SV)) (k:Nat):qaZ ((d,x)::tm) k=if d=k then x else qaZ tm k:=by
 simp only[qaZ];by_cases h:d=k
 ·subst h;simp[Nat.beq_refl]
 ·rw[if_neg h]
  have:Nat.beq d k=false:=by cases hb:Nat.beq d k;rfl;exact absurd (Nat.eq_of_beq_eq_true hb) h
  rw[this];rfl
theorem qhC (a:Act) (d k:Nat) (u v:Value) (h:d<a.tmps.size):(a.put (some d) u).tmps.getD k v=if d=k then u else a.tmps.getD k v:=by
 simp only[Act.put,Array.getD_eq_getD_getElem?,Array.getElem?_setIfInBounds];by_cases e:d=k
 ·subst e;simp[h]
 ·simp[e]
theorem TRel.put {β:Bl} {st:St} {s:St} {a:Act} {x:SV} {u:Value} {dst:Option Tmp} (h:TRel β st.tm st.n a) (hp:qb7 st dst x=some s) (hx:x.is β u):TRel β s.tm s.n (a.put dst u)∧s.hp=st.hp∧s.nb=st.nb∧s.n=st.n:=by
 unfold qb7 at hp;split at hp
 ·simp only[Option.some.injEq] at hp;subst hp;exact⟨h,rfl,rfl,rfl⟩
 ·rename_i d;cases hb:Nat.ble (d+1) st.n
  ·rw[hb] at hp;cases hp
  ·rw[hb,cond_true] at hp;simp only[Option.some.injEq] at hp;subst hp
   have hd:d<a.tmps.size:=by rw[h.size];exact Nat.le_of_ble_eq_true hb
   refine⟨⟨by simp[Act.put,h.size],h.defers,fun k=>?_⟩,rfl,rfl,rfl⟩;rw[qbC,qhC _ _ _ _ _ hd];split
   ·exact hx
   ·exact h.tmps k
theorem TRel.ev {β:Bl} {st:St} {a:Act} (h:TRel β st.tm st.n a) (x:Operand):(st.ev x).is β (a.eval x):=by
 cases x with
 | tmp t=>exact h.tmps t
 | const v=>rfl
 | global g=>rfl
 | func f=>rfl
theorem qbO {op:Op} {st s:St} (h:(qaV op st).2=s):s.tm=st.tm∧s.n=st.n∧s.hp=st.hp∧s.nb=st.nb:=by
 unfold qaV at h;cases hb:qAt op st
 ·rw[hb,cond_false] at h;subst h;exact⟨rfl,rfl,rfl,rfl⟩
 ·rw[hb,cond_true] at h;split at h
  ·subst h;exact⟨rfl,rfl,rfl,rfl⟩
  ·subst h;exact⟨rfl,rfl,rfl,rfl⟩
theorem qaE {β:Bl} {ops:Array Oper} {st:St} {o:Oper} {a:Act} {r:Bool} (h:qbE ops st o=some r) (ht:∀ d,d∈o.looksAt ops→(qaZ st.tm d).is β (a.tmps.getD d undef)):Region.wanted o (yielded ops a.tmps)=r:=by
 unfold qbE at h;unfold Region.wanted;split at h
 ·rename_i hg;simp only[Option.some.injEq] at h;subst h;simp[hg]
 ·rename_i j want hg;split at h
  ·rename_i d hd;split at h
   ·rename_i b hb;simp only[Option.some.injEq] at h;subst h;have k:=ht d (by unfold Oper.looksAt;simp[hg,hd]);rw[hb] at k;have k':a.tmps.getD d undef=.bool b:=k
    have hs:a.tmps[d]?=some (.bool b):=by
     rw[Array.getD_eq_getD_getElem?] at k'
     cases e:a.tmps[d]? with
     | none=>rw[e] at k';simp[undef] at k'
     | some y=>rw[e] at k';simp at k';rw[k']
    have hy:yielded ops a.tmps j=some b:=by
     unfold yielded;rw[hd,Option.bind_some,hs]
    simp only[hg,hy]
    cases b<;>cases want<;>rfl
   ·rename_i vs hb;simp only[Option.some.injEq] at h;subst h;have k:=ht d (by unfold Oper.looksAt;simp[hg,hd]);rw[hb] at k;have k':a.tmps.getD d undef=.tuple vs:=k
    have hy:yielded ops a.tmps j=none:=by
     unfold yielded;rw[hd,Option.bind_some];rw[Array.getD_eq_getD_getElem?] at k'
     cases e:a.tmps[d]? with
     | none=>rfl
     | some y=>rw[e] at k';simp at k';rw[k']
    simp only[hg,hy]
    cases want<;>rfl
   ·cases h
  ·cases h
theorem qao (b o:Nat) (x:SV) (hp:List (Nat×Nat×SV)) (c k:Nat):qaj ((b,o,x)::hp) c k=if b=c∧o=k then some x else qaj hp c k:=by
 simp only[qaj];by_cases h:b=c∧o=k
 ·obtain⟨rfl,rfl⟩:=h;simp[Nat.beq_refl]
 ·rw[if_neg h]
  have:(Nat.beq b c&&Nat.beq o k)=false:=by
   cases hb:(Nat.beq b c&&Nat.beq o k)
   ·rfl
   ·simp only[Bool.and_eq_true] at hb;exact absurd ⟨Nat.eq_of_beq_eq_true hb.1,Nat.eq_of_beq_eq_true hb.2⟩ h
  rw[this];rfl
theorem qcr {b:Nat} {hp:List (Nat×Nat×SV)} {c k:Nat} {s:SV}:∀ {cells:List SV} {o:Nat},qaj (qa8 b o cells hp) c k=some s→
 (b=c∧∃ j,k=o+j∧cells[j]?=some s)∨(qaj hp c k=some s∧¬ (b=c∧o≤k∧k<o+cells.length))
 | [],o,h=>Or.inr ⟨h,fun h3=>by simp at h3;omega⟩
 | x::r,o,h=>by
  rw[qa8,qao] at h;split at h
  ·rename_i hk;simp only[Option.some.injEq] at h;exact Or.inl ⟨hk.1,0,by omega,by simp[h]⟩
  ·rename_i hk
   rcases qcr h with ⟨h1,j,h2,h3⟩ | ⟨h1,h2⟩
   ·exact Or.inl ⟨h1,j+1,by omega,by simpa using h3⟩
   ·refine Or.inr ⟨h1,fun h3=>?_⟩
    have:¬ o=k:=fun e=>hk ⟨h3.1,e⟩
    exact h2 ⟨h3.1,by omega,by simp at h3;omega⟩
section
variable {P:Program} {W0:World} {lo:Nat} {β:Bl} {w:World}
theorem HRelP.mono_lo {Hc:Nat→Nat→SV→Prop} {W:World} {l:Nat} (h:HRelP W0 lo β Hc w) (hg:Gr W w) (hs:W.heap.size=w.heap.size) (hd:β.dom l):HRelP W l β Hc w:=
 ⟨hg,h.live,h.inj,fun b r hb e=>(by rw[(hd b hb).1] at e;cases e),h.sep,h.cells,fun b o e es n xs hc=>by
  obtain⟨u,h1,h2⟩:=h.rows b o e es n xs hc
  have hn:¬ l≤b:=fun hb=>by rw[(hd b hb).2] at h1;cases h1
  exact⟨u,h1,h2.rd,h2.one,fun _ hx k hk=>by rw[hs];exact h2.rd.lt hx k hk,fun hb=>(hn hb).elim,fun hb=>(hn hb).elim⟩,
  fun b o e es n xs c o' e' es' n' xs' u v h1 h2 h3 h4 h5 h6 h7=>(by rw[(hd b h3).2] at h6;cases h6),h.maps⟩
theorem HRelP.imp {Hc Hd:Nat→Nat→SV→Prop} (h:HRelP W0 lo β Hc w) (k:∀ b o s,Hd b o s→Hc b o s):HRelP W0 lo β Hd w:=
 ⟨h.gr,h.live,h.inj,h.new,h.sep,fun b o s e=>h.cells b o s (k b o s e),fun b o e es n xs hc=>h.rows b o e es n xs (k _ _ _ hc),fun b o e es n xs c o' e' es' n' xs' u v h1 h2=>h.rinj b o e es n xs c o' e' es' n' xs' u v (k _ _ _ h1) (k _ _ _ h2),fun b o xs hc=>h.maps b o xs (k _ _ _ hc)⟩
theorem HRelP.upd {Hc Hd:Nat→Nat→SV→Prop} {w':World} {row bo:Option Nat} (H:HRelP W0 lo β Hc w) (U:Upd w w' row) (hr:row=none∨∃ b u o e es n xs,bo=some b∧lo≤b∧β.g b=some u∧row=u.ownBlock∧Hc b o (.row e es n xs))
 (himp:∀ c o s,Hd c o s→Hc c o s∧(s.isRow=true→bo≠some c)):HRelP W0 lo β Hd w':=by
 have hge:∀ j,row=some j→W0.heap.size≤j:=by
  intro j hj
  rcases hr with e | ⟨b,u,o,e,es,n,xs,_,h2,h3,h4,h5⟩
  ·rw[e] at hj;cases hj
  ·obtain⟨u',g1,g2⟩:=H.rows _ _ _ _ _ _ h5;rw[h3] at g1;cases g1;exact (qay (g2.own h2) j (by rw[← h4];exact hj)).1
 have hblk:∀ c r,β c=some r→row≠some r:=by
  intro c r hc hj
  rcases hr with e | ⟨b,u,o,e,es,n,xs,_,h2,h3,h4,h5⟩
  ·rw[e] at hj;cases hj
  ·obtain⟨u',g1,g2⟩:=H.rows _ _ _ _ _ _ h5;rw[h3] at g1;cases g1;exact g2.apart h2 c r hc (by rw[← h4];exact hj)
 have hrow:∀ c o e es n xs u,Hd c o (.row e es n xs)→β.g c=some u→(lo≤c∨xs≠[])→∀ k,u.ownBlock=some k→row≠some k:=by
  intro c o e es n xs u hc hg hx k hk hj;obtain⟨f1,f2⟩:=himp _ _ _ hc;obtain⟨u',g1,g2⟩:=H.rows _ _ _ _ _ _ f1;rw[hg] at g1;cases g1
  rcases hr with e | ⟨b,v,o',e',es',n',xs',h1,h2,h3,h4,h5⟩
  ·rw[e] at hj;cases hj
  ·by_cases hlc:lo≤c
   ·exact H.rinj _ _ _ _ _ _ _ _ _ _ _ _ v u h5 f1 h2 hlc (fun e=>f2 rfl (by rw[h1,e])) h3 hg k (by rw[← h4];exact hj) hk
   ·have:=g2.low (by omega) (hx.resolve_left hlc) k hk;have:=hge k hj;omega
 have hheap:∀ k,k<w.heap.size→row≠some k→w'.heap[k]?=w.heap[k]?:=fun k h1 h2=>U.g.block k h1 fun e=>h2 e.symm
 have hlt:=U.g.size;refine⟨U.gr H.gr hge,fun b r e=>Nat.lt_of_lt_of_le (H.live b r e) hlt,H.inj,H.new,H.sep,fun b o sv e hs=>?_,fun b o e es n xs hc=>?_,fun b o e es n xs c o' e' es' n' xs' u v h1 h2=>H.rinj b o e es n xs c o' e' es' n' xs' u v (himp _ _ _ h1).1 (himp _ _ _ h2).1,fun b o xs hc=>?_⟩
 ·obtain⟨r,u,h1,h2,h3,h4,h5⟩:=H.cells b o sv (himp _ _ _ e).1 hs;have hh:=hheap r (H.live b r h1) (hblk b r h1);exact⟨r,u,h1,h2,h3,(World.cell?_of_block (a:=⟨r,o,none⟩) hh).trans h4,(U.fz _ (H.live b r h1)).trans h5⟩
 ·obtain⟨u,g1,g2⟩:=H.rows _ _ _ _ _ _ (himp _ _ _ hc).1;refine⟨u,g1,g2.rd.keep fun hx k hk o=>World.cell?_of_block (a:=⟨k,o,none⟩) (hheap k (g2.rd.lt hx k hk) (hrow _ _ _ _ _ _ _ hc g1 (Or.inr hx) k hk)),g2.one,g2.low,fun hb=>qbJ (g2.own hb) fun k hk=>hheap k (qay (g2.own hb) k hk).2 (hrow _ _ _ _ _ _ _ hc g1 (Or.inl hb) k hk),g2.apart⟩
 ·obtain⟨r,g1,g2⟩:=H.maps _ _ _ (himp _ _ _ hc).1;exact⟨r,g1,g2.keep (hheap r (H.live b r g1) (hblk b r g1))⟩
theorem HRelP.addRow {Hd He:Nat→Nat→SV→Prop} {m:Nat} {u:Value} {e:TypeId} {es n:Nat} {xs:List Value} (H:HRelP W0 lo β Hd w) (hm:lo≤m) (hg:β.g m=some u) (ho:w.ownsRow W0.heap.size e es u n xs) (h1:∀ v∈xs,v.oneCell'=true)
 (ha:∀ c r,β c=some r→u.ownBlock≠some r) (hr:∀ c o e es n xs v,Hd c o (.row e es n xs)→lo≤c→β.g c=some v→∀ k,u.ownBlock=some k→v.ownBlock≠some k)
 (himp:∀ c o s,He c o s→(c=m∧o=0∧s=.row e es n xs)∨(Hd c o s∧(s.isRow=true→c≠m))):HRelP W0 lo β He w:=by
 refine⟨H.gr,H.live,H.inj,H.new,H.sep,fun b o sv hc hs=>?_,fun b o e' es' n' xs' hc=>?_,fun b o e1 es1 n1 xs1 c o' e' es' n' xs' u1 v1 h1 h2 h3 h4 h5 h6 h7 k hk=>?_,fun b o ys hc=>?_⟩
 ·rcases himp _ _ _ hc with ⟨_,_,rfl⟩ | ⟨f,_⟩
  ·cases hs
  ·exact H.cells b o sv f hs
 ·rcases himp _ _ _ hc with ⟨rfl,rfl,f⟩ | ⟨f,_⟩
  ·cases f;exact⟨u,hg,qkk ho,h1,fun hb=>by omega,fun _=>ho,fun _=>ha⟩
  ·exact H.rows _ _ _ _ _ _ f
 ·rcases himp _ _ _ h1 with ⟨rfl,rfl,f⟩ | ⟨f,_⟩<;>rcases himp _ _ _ h2 with ⟨rfl,rfl,f'⟩ | ⟨f',_⟩
  ·exact (h5 rfl).elim
  ·rw[hg] at h6;cases h6;exact hr _ _ _ _ _ _ _ f' h4 h7 k hk
  ·rw[hg] at h7;cases h7
   exact fun hk'=>hr _ _ _ _ _ _ _ f h3 h6 k hk' hk
  ·exact H.rinj _ _ _ _ _ _ _ _ _ _ _ _ _ _ f f' h3 h4 h5 h6 h7 k hk
 ·rcases himp _ _ _ hc with ⟨_,_,f⟩ | ⟨f,_⟩
  ·cases f
  ·exact H.maps _ _ _ f
theorem HRelP.setG {Hd:Nat→Nat→SV→Prop} {m:Nat} (H:HRelP W0 lo β Hd w) (h1:β m=none) (h2:β.g m=none) (u:Value):HRelP W0 lo (β.setG m u) Hd w:=by
 have hle:β.le (β.setG m u):=Bl.le_setG h1 h2
 have hback:∀ b v,b≠m→(β.setG m u).g b=some v→β.g b=some v:=fun b v hb e=>by
  unfold Bl.setG at e;simpa [hb] using e
 have hsep:∀ b r,β b=some r→(β.setG m u).g b=none:=fun b r e=>by
  have hb:b≠m:=fun e2=>by rw[e2,h1] at e;cases e
  unfold Bl.setG;simp only;rw[if_neg hb];exact H.sep b r e
 refine⟨H.gr,H.live,H.inj,H.new,hsep,fun b o sv hc hs=>?_,fun b o e es n xs hc=>?_,fun b o e es n xs c o' e' es' n' xs' v1 v2 f1 f2 f3 f4 f5 f6 f7=>?_,H.maps⟩
 ·obtain⟨r,v,g1,g2,g3⟩:=H.cells b o sv hc hs;exact⟨r,v,g1,SV.is_mono hle g2,g3⟩
 ·obtain⟨v,g1,g2⟩:=H.rows _ _ _ _ _ _ hc;exact⟨v,hle.g g1,g2.rd,g2.one,g2.low,g2.own,g2.apart⟩
 ·obtain⟨v,g1,_⟩:=H.rows _ _ _ _ _ _ f1;obtain⟨v',g1',_⟩:=H.rows _ _ _ _ _ _ f2
  have hb:b≠m:=fun e=>by rw[e,h2] at g1;cases g1
  have hc:c≠m:=fun e=>by rw[e,h2] at g1';cases g1'
  exact H.rinj _ _ _ _ _ _ _ _ _ _ _ _ _ _ f1 f2 f3 f4 f5 (hback _ _ hb f6) (hback _ _ hc f7)
theorem qi8 {w:World} {b o:Nat} (h:w.heap.size≤b):w.frozen? ⟨b,o,none⟩=false:=by simp[World.frozen?,Array.getElem?_eq_none h]
theorem qlF (w:World) (c:Array Value) (t:TypeId) (j:Nat):(w.alloc (.cells c t)).cell? ⟨w.heap.size,j,none⟩=c[j]?:=by
 have e:(w.alloc (.cells c t)).heap[w.heap.size]?=some (.cells c t):=(MapKept.heap_alloc w _).1;simp only[World.cell?,e];rfl
theorem HRelP.alloc {Hc:Nat→Nat→SV→Prop} (h:HRelP W0 lo β Hc w) {n:Nat} (hn:β n=none) (hn2:β.g n=none) {t:TypeId} {cells:List SV} {us:List Value} (hc:SV.isl β cells us) (h1:∀ u∈us,u.oneCell'=true) :
 HRelP W0 lo (β.set n w.heap.size) (fun b o s=>Hc b o s∨(b=n∧cells[o]?=some s)) (w.alloc (.cells us.toArray t)):=by
 have hle:β.le (β.set n w.heap.size):=Bl.le_set hn hn2;have hgr:Gr w (w.alloc (.cells us.toArray t)):=(Gr.refl w).alloc _ _
 have hsz:(w.alloc (.cells us.toArray t)).heap.size=w.heap.size+1:=by show (w.heap.push _).size=_;simp
 have hset:∀ b r,(β.set n w.heap.size) b=some r→(b=n∧r=w.heap.size)∨β b=some r:=fun b r e=>by
  unfold Bl.set at e;simp only at e;split at e
  ·rename_i hb;simp only[Option.some.injEq] at e;exact Or.inl ⟨hb,e.symm⟩
  ·exact Or.inr e
 have HG:=h.gr_mono hgr;refine⟨HG.gr,fun b r e=>?_,fun b c r e1 e2=>?_,fun b r hb e=>?_,fun b r e=>?_,fun b o s e hs=>?_,fun b o e es m xs hc=>?_,fun b o e es m xs c o' e' es' m' xs' u v f1 f2 f3 f4 f5 f6 f7=>?_,fun b o xs hc'=>?_⟩
 ·rw[hsz]
  rcases hset b r e with ⟨_,rfl⟩ | e
  ·omega
  ·have:=h.live b r e;omega
 ·rcases hset b r e1 with ⟨k1,k2⟩ | k1<;>rcases hset c _ e2 with ⟨k3,k4⟩ | k3
  ·rw[k1,k3]
  ·have:=h.live c _ k3;omega
  ·have:=h.live b _ k1;omega
  ·exact h.inj b c r k1 k3
 ·rcases hset b r e with ⟨_,rfl⟩ | e
  ·exact h.gr.size
  ·exact h.new b r hb e
 ·rcases hset b r e with ⟨rfl,_⟩ | e
  ·exact hn2
  ·exact h.sep b r e
 ·rcases e with e | ⟨rfl,e⟩
  ·obtain⟨r,u,a1,a2,a3⟩:=HG.cells b o s e hs;exact⟨r,u,hle.f a1,SV.is_mono hle a2,a3⟩
  ·obtain⟨u,hu,hs⟩:=(SV.isl_get hc).2 o s e;refine⟨w.heap.size,u,Bl.set_same _ _ _,SV.is_mono hle hs,h1 u (List.mem_of_getElem? hu),?_,?_⟩
   ·rw[qlF];simpa using hu
   ·rw[frozen?_alloc_cells];exact qi8 (Nat.le_refl _)
 ·rcases hc with hc | ⟨_,hc'⟩
  ·obtain⟨u,g1,g2⟩:=HG.rows _ _ _ _ _ _ hc;obtain⟨u',g1',g2'⟩:=h.rows _ _ _ _ _ _ hc
   have:u=u':=by rw[g1] at g1';cases g1';rfl
   subst this;refine⟨u,g1,g2.rd,g2.one,g2.low,g2.own,fun hb c r e hk=>?_⟩
   rcases hset c r e with ⟨_,rfl⟩ | e
   ·have:=(qay (g2'.own hb) _ hk).2;omega
   ·exact g2.apart hb c r e hk
  ·obtain⟨u,_,hu⟩:=(SV.isl_get hc).2 o _ hc';exact hu.elim
 ·have F1:Hc b o (.row e es m xs):=by
   rcases f1 with f1 | ⟨_,f1⟩
   ·exact f1
   ·obtain⟨u,_,hu⟩:=(SV.isl_get hc).2 o _ f1;exact hu.elim
  have F2:Hc c o' (.row e' es' m' xs'):=by
   rcases f2 with f2 | ⟨_,f2⟩
   ·exact f2
   ·obtain⟨u,_,hu⟩:=(SV.isl_get hc).2 o' _ f2;exact hu.elim
  exact h.rinj _ _ _ _ _ _ _ _ _ _ _ _ _ _ F1 F2 f3 f4 f5 f6 f7
 ·rcases hc' with hc' | ⟨_,hc'⟩
  ·obtain⟨r,g1,g2⟩:=HG.maps _ _ _ hc';exact⟨r,hle.f g1,g2⟩
  ·obtain⟨u,_,hu⟩:=(SV.isl_get hc).2 o _ hc';exact hu.elim
theorem HRelP.allocM {Hc:Nat→Nat→SV→Prop} (h:HRelP W0 lo β Hc w) {n:Nat} (hn:β n=none) (hn2:β.g n=none) :
 HRelP W0 lo (β.set n w.heap.size) (fun b o s=>Hc b o s∨(b=n∧o=0∧s=.mrow [])) (w.alloc (.map #[] 0)):=by
 have hle:β.le (β.set n w.heap.size):=Bl.le_set hn hn2
 have hgr:Gr w (w.alloc (.map #[] 0)):=⟨(Below.refl _ _).alloc (Nat.le_refl _) _,fun x hx=>by
  simp only[World.frozen?,(MapKept.heap_alloc w (.map #[] 0)).2 _ hx],Nat.le_refl _⟩
 have hsz:(w.alloc (.map #[] 0)).heap.size=w.heap.size+1:=by show (w.heap.push _).size=_;simp
 have hset:∀ b r,(β.set n w.heap.size) b=some r→(b=n∧r=w.heap.size)∨β b=some r:=fun b r e=>by
  unfold Bl.set at e;simp only at e;split at e
  ·rename_i hb;simp only[Option.some.injEq] at e;exact Or.inl ⟨hb,e.symm⟩
  ·exact Or.inr e
 have HG:=h.gr_mono hgr;refine⟨HG.gr,fun b r e=>?_,fun b c r e1 e2=>?_,fun b r hb e=>?_,fun b r e=>?_,fun b o s e hs=>?_,fun b o e es m xs hc=>?_,fun b o e es m xs c o' e' es' m' xs' u v f1 f2 f3 f4 f5 f6 f7=>?_,fun b o xs hc'=>?_⟩
 ·rw[hsz]
  rcases hset b r e with ⟨_,rfl⟩ | e
  ·omega
  ·have:=h.live b r e;omega
 ·rcases hset b r e1 with ⟨k1,k2⟩ | k1<;>rcases hset c _ e2 with ⟨k3,k4⟩ | k3
  ·rw[k1,k3]
  ·have:=h.live c _ k3;omega
  ·have:=h.live b _ k1;omega
  ·exact h.inj b c r k1 k3
 ·rcases hset b r e with ⟨_,rfl⟩ | e
  ·exact h.gr.size
  ·exact h.new b r hb e
 ·rcases hset b r e with ⟨rfl,_⟩ | e
  ·exact hn2
  ·exact h.sep b r e
 ·rcases e with e | ⟨_,_,rfl⟩
  ·obtain⟨r,u,a1,a2,a3⟩:=HG.cells b o s e hs;exact⟨r,u,hle.f a1,SV.is_mono hle a2,a3⟩
  ·cases hs
 ·rcases hc with hc | ⟨_,_,hc'⟩
  ·obtain⟨u,g1,g2⟩:=HG.rows _ _ _ _ _ _ hc;obtain⟨u',g1',g2'⟩:=h.rows _ _ _ _ _ _ hc
   have:u=u':=by rw[g1] at g1';cases g1';rfl
   subst this;refine⟨u,g1,g2.rd,g2.one,g2.low,g2.own,fun hb c r e hk=>?_⟩
   rcases hset c r e with ⟨_,rfl⟩ | e
   ·have:=(qay (g2'.own hb) _ hk).2;omega
   ·exact g2.apart hb c r e hk
  ·cases hc'
 ·have F1:Hc b o (.row e es m xs):=by
   rcases f1 with f1 | ⟨_,_,f1⟩
   ·exact f1
   ·cases f1
  have F2:Hc c o' (.row e' es' m' xs'):=by
   rcases f2 with f2 | ⟨_,_,f2⟩
   ·exact f2
   ·cases f2
  exact h.rinj _ _ _ _ _ _ _ _ _ _ _ _ _ _ F1 F2 f3 f4 f5 f6 f7
 ·rcases hc' with hc' | ⟨rfl,_,hc'⟩
  ·obtain⟨r,g1,g2⟩:=HG.maps _ _ _ hc';exact⟨r,hle.f g1,g2⟩
  ·cases hc';exact⟨_,Bl.set_same _ _ _,#[],0,(MapKept.heap_alloc w _).1,rfl⟩
theorem HRelP.setM {Hc Hd:Nat→Nat→SV→Prop} (h:HRelP W0 lo β Hc w) {b r:Nat} {xs ys:List Value} {en:Array MapEntry} {clock:Nat} (hr:β b=some r) (hb:lo≤b) (hm:MapIs w r xs) (hy:(en.toList.flatMap fun e=>[e.key,e.val])=ys)
 (himp:∀ c o s,Hd c o s→(c=b∧o=0∧s=.mrow ys)∨(Hc c o s∧c≠b)):HRelP W0 lo β Hd { w with heap:=w.heap.setIfInBounds r (.map en clock) }:=by
 obtain⟨en0,clock0,hm1,_⟩:=hm;have hrge:=h.new b r hb hr
 have hne:∀ k,k≠r→(w.heap.setIfInBounds r (.map en clock))[k]?=w.heap[k]?:=fun k hk=>(MapKept.heap_set hm1).2 k hk
 have hsz:(w.heap.setIfInBounds r (Obj.map en clock)).size=w.heap.size:=by simp
 have hgr:Gr W0 { w with heap:=w.heap.setIfInBounds r (.map en clock) }:=
  ⟨⟨h.gr.1.os,h.gr.1.tape,h.gr.1.output,by show W0.heap.size≤(w.heap.setIfInBounds r (Obj.map en clock)).size;rw[hsz];exact h.gr.1.size,fun k hk=>(hne k (by omega)).trans (h.gr.1.block k hk)⟩,
   fun a ha=>(by simp only[World.frozen?];rw[hne _ (by omega)]:World.frozen? { w with heap:=w.heap.setIfInBounds r (.map en clock) } a=w.frozen? a).trans (h.gr.2.1 a ha),h.gr.2.2⟩
 refine⟨hgr,fun c r' e=>by show r'<(w.heap.setIfInBounds r (Obj.map en clock)).size;rw[hsz];exact h.live c r' e,h.inj,h.new,h.sep,fun c o s e hs=>?_,fun c o e es m xs hc=>?_,fun c o e es m xs c' o' e' es' m' xs' u v f1 f2=>?_,fun c o xs hc=>?_⟩
 ·rcases himp _ _ _ e with ⟨_,_,rfl⟩ | ⟨e,hcb⟩
  ·cases hs
  ·obtain⟨r',u,a1,a2,a3,a4,a5⟩:=h.cells c o s e hs
   have hrr:r'≠r:=fun k=>hcb (h.inj c b r' a1 (by rw[k];exact hr))
   refine⟨r',u,a1,a2,a3,(World.cell?_of_block (a:=⟨r',o,none⟩) (hne r' hrr)).trans a4,?_⟩;simp only[World.frozen?] at a5 ⊢;rw[hne r' hrr];exact a5
 ·rcases himp _ _ _ hc with ⟨_,_,f⟩ | ⟨hc,hcb⟩
  ·cases f
  ·obtain⟨u,g1,g2⟩:=h.rows _ _ _ _ _ _ hc
   have hn:∀ k,u.ownBlock=some k→(lo≤c∨xs≠[])→k≠r:=by
    intro k hk hx e;subst e;by_cases hlc:lo≤c
    ·exact g2.apart hlc b k hr hk
    ·have:=g2.low (by omega) (hx.resolve_left hlc) k hk;omega
   exact⟨u,g1,g2.rd.keep fun hx k hk o=>World.cell?_of_block (a:=⟨k,o,none⟩) (hne k (hn k hk (Or.inr hx))),g2.one,g2.low,fun hb=>qbJ (g2.own hb) fun k hk=>hne k (hn k hk (Or.inl hb)),g2.apart⟩
 ·rcases himp _ _ _ f1 with ⟨_,_,f⟩ | ⟨f1,_⟩
  ·cases f
  ·rcases himp _ _ _ f2 with ⟨_,_,f⟩ | ⟨f2,_⟩
   ·cases f
   ·exact h.rinj _ _ _ _ _ _ _ _ _ _ _ _ u v f1 f2
 ·rcases himp _ _ _ hc with ⟨rfl,_,f⟩ | ⟨hc,hcb⟩
  ·cases f;exact⟨r,hr,en,clock,(MapKept.heap_set hm1).1,hy⟩
  ·obtain⟨r',g1,g2⟩:=h.maps _ _ _ hc;exact⟨r',g1,g2.keep (hne r' fun k=>hcb (h.inj c b r' g1 (by rw[k];exact hr)))⟩
theorem qco (r:Nat):∀ (us:List Value) (o:Nat) (w:World) (k:Nat),k≠r→(w.setCells r o us).heap[k]?=w.heap[k]?
 | [],_,_,_,_=>rfl
 | v::us,o,w,k,h=>by
  rw[World.setCells,qco r us (o+1) _ k h];unfold World.setCell;simp[Array.getElem?_modify,Ne.symm h]
theorem HRel.store {hp:List (Nat×Nat×SV)} (h:HRel W0 lo β hp w) {b o r:Nat} (hr:β b=some r) (hb:lo≤b) {cells:List SV} {us:List Value} (hc:SV.isl β cells us) (h1:∀ u∈us,u.oneCell'=true) (ht:w.there r o us.length) :
 HRel W0 lo β (qa8 b o cells hp) (w.setCells r o us):=by
 have hrge:=h.new b r hb hr;have hheap:∀ k,k≠r→(w.setCells r o us).heap[k]?=w.heap[k]?:=qco r us o w;refine⟨Gr.setCells r hrge us o w h.gr,fun b' r' e=>by rw[qcN];exact h.live b' r' e,h.inj,h.new,h.sep,fun c k s e hs=>?_,fun c k e es n xs hc'=>?_,fun c k e es n xs c' k' e' es' n' xs' u v f1 f2=>?_,fun c k xs hc'=>?_⟩
 ·obtain⟨hl,hg⟩:=SV.isl_get hc
  rcases qcr e with ⟨rfl,j,rfl,hj⟩ | ⟨e1,e2⟩
  ·obtain⟨u,hu,hs⟩:=hg j s hj;have hjl:j<us.length:=(List.getElem?_eq_some_iff.1 hu).1;refine⟨r,u,hr,hs,h1 u (List.mem_of_getElem? hu),?_,?_⟩
   ·rw[World.cell?_setCells_in r us o w (fun i hi=>(ht i hi).1) j hjl];rw[List.getElem?_eq_getElem hjl] at hu;exact hu
   ·rw[World.frozen?_setCells];exact (ht j hjl).2
  ·obtain⟨r',u,a1,a2,a3,a4,a5⟩:=h.cells c k s e1 hs;refine⟨r',u,a1,a2,a3,?_,by rw[World.frozen?_setCells];exact a5⟩;rw[World.cell?_setCells_out r us o w ⟨r',k,none⟩ (fun x _=>?_)]
   ·exact a4
   ·have hbc:b=c:=h.inj b c r hr (by rw[a1];exact congrArg some x);have:=e2;simp only[hbc,true_and] at this;simp;omega
 ·have hlk:qaj hp c k=some (.row e es n xs):=by
   rcases qcr hc' with ⟨rfl,j,rfl,hj⟩ | ⟨e1,_⟩
   ·obtain⟨u,_,hu⟩:=(SV.isl_get hc).2 j _ hj;exact hu.elim
   ·exact e1
  obtain⟨u,g1,g2⟩:=h.rows _ _ _ _ _ _ hlk
  have hne:∀ j,u.ownBlock=some j→(lo≤c∨xs≠[])→j≠r:=by
   intro j hj hx e;subst e;by_cases hlc:lo≤c
   ·exact g2.apart hlc b j hr hj
   ·have:=g2.low (by omega) (hx.resolve_left hlc) j hj;omega
  exact⟨u,g1,g2.rd.keep fun hx j hj o=>World.cell?_of_block (a:=⟨j,o,none⟩) (hheap j (hne j hj (Or.inr hx))),g2.one,g2.low,fun hb=>qbJ (g2.own hb) fun j hj=>hheap j (hne j hj (Or.inl hb)),g2.apart⟩
 ·have F:∀ {c k e es n xs},qaj (qa8 b o cells hp) c k=some (.row e es n xs)→qaj hp c k=some (.row e es n xs):=by
   intro c k e es n xs hc'
   rcases qcr hc' with ⟨rfl,j,rfl,hj⟩ | ⟨e1,_⟩
   ·obtain⟨u,_,hu⟩:=(SV.isl_get hc).2 j _ hj;exact hu.elim
   ·exact e1
  exact h.rinj _ _ _ _ _ _ _ _ _ _ _ _ u v (F f1) (F f2)
 ·have hlk:qaj hp c k=some (.mrow xs):=by
   rcases qcr hc' with ⟨rfl,j,rfl,hj⟩ | ⟨e1,_⟩
   ·obtain⟨u,_,hu⟩:=(SV.isl_get hc).2 j _ hj;exact hu.elim
   ·exact e1
  obtain⟨r',g1,en,clock,g2,g3⟩:=h.maps _ _ _ hlk;refine⟨r',g1,en,clock,?_,g3⟩;by_cases e:r'=r
  ·subst e
   have hu:us=[]:=by
    cases us with
    | nil=>rfl
    | cons u us=>
     have:=(ht 0 (by simp)).1;simp[World.cell?,g2] at this
   subst hu;exact g2
  ·exact (hheap r' e).trans g2
end
theorem qaD {bo:Option Nat} {hp:List (Nat×Nat×SV)} {c o:Nat} {s:SV} (h:qaj (qcn bo hp) c o=some s):qaj hp c o=some s∧bo≠some c:=by
 cases bo with
 | none=>exact⟨h,fun e=>by cases e⟩
 | some b=>
  replace h:qaj (hp.filter fun e=>!Nat.beq e.1 b) c o=some s:=h
  induction hp with
  | nil=>cases h
  | cons z r ih=>
   obtain⟨d,k,x⟩:=z;cases hd:Nat.beq d b
   ·rw[List.filter_cons_of_pos (by simp[hd]),qao] at h;rw[qao];split at h
    ·rename_i e;rw[if_pos e];exact⟨h,fun e2=>by cases e2;rw[e.1,Nat.beq_refl] at hd;cases hd⟩
    ·rename_i e;rw[if_neg e];exact ih h
   ·rw[List.filter_cons_of_neg (by simp[hd])] at h;obtain⟨i1,i2⟩:=ih h;refine⟨?_,i2⟩;rw[qao,if_neg (fun e=>i2 ?_)]
    ·exact i1
    ·rw[← e.1,Nat.eq_of_beq_eq_true hd]
theorem qyU {P:Program} {call:qbi} (hcall:qb4 P call) {W0:World} {lo:Nat} {β:Bl} {st st':St} {o:Oper} {c:Ch} {a:Act} {w:World} {out:Out} {q:List Prop} {next:Act→World→Prop} {Q:Exit→Act→World→Prop}
 (h:qG7 call lo o c st out=some (st',q)) (hq:qba q) (R:Rel W0 lo β st a w) (ho:qbK P W0 lo β w (execOp a.eval o) out)
 (hk:∀ β' a' w',β.le β'→Rel W0 lo β' st' a' w'→next a' w'):o.wp P a w next Q:=by
 unfold Oper.wp;unfold qG7 at h;split at h
 ·rename_i x;obtain⟨u,hu,hrun⟩:=ho;split at h
  ·rename_i s hs;simp only[Option.some.injEq,Prod.mk.injEq] at h;obtain⟨rfl,rfl⟩:=h;obtain⟨t1,t2,t3,t4⟩:=R.t.put hs hu;rw[hrun,Oper.upon_value];exact hk β _ _ (Bl.le_refl _) ⟨t1,by rw[t2];exact R.h,by rw[t3];exact R.dom,by rw[t3];exact R.lo⟩
  ·cases h
 ·rename_i t cells len;obtain⟨us,hu,h1,hrun⟩:=ho;split at h
  ·rename_i s hs;simp only[Option.some.injEq,Prod.mk.injEq] at h;obtain⟨rfl,rfl⟩:=h;obtain⟨hn,hn2⟩:=R.dom _ (Nat.le_refl _);have hle:β.le (β.set st.nb w.heap.size):=Bl.le_set hn hn2
   have hx:(qtO st.nb len).is (β.set st.nb w.heap.size) (qsm w.heap.size len):=by
    cases len
    ·exact⟨_,Bl.set_same _ _ _,rfl⟩
    ·exact⟨_,Bl.set_same _ _ _,rfl⟩
   obtain⟨t1,t2,t3,t4⟩:=TRel.put (st:={ st with hp:=qa8 st.nb 0 cells st.hp,nb:=st.nb+1 }) (R.t.mono hle) hs hx;rw[hrun,Oper.upon_value];refine hk (β.set st.nb w.heap.size) _ _ hle ⟨t1,?_,?_,by rw[t3];have:=R.lo;simp;omega⟩
   ·rw[t2]
    refine (R.h.alloc hn hn2 hu h1).imp fun b o s e=>?_
    rcases qcr e with ⟨rfl,j,rfl,hj⟩ | ⟨e1,_⟩
    ·exact Or.inr ⟨rfl,by simpa using hj⟩
    ·exact Or.inl e1
   ·rw[t3];intro b hb;simp only at hb;obtain⟨d1,d2⟩:=R.dom b (by omega);refine⟨?_,d2⟩;unfold Bl.set;simp only;rw[if_neg (by omega)];exact d1
  ·cases h
 ·rename_i b i cells;obtain⟨r,us,hr,hu,h1,ht,hrun⟩:=ho;cases hb:Nat.ble lo b
  ·rw[hb] at h;cases h
  ·rw[hb,cond_true] at h;split at h
   ·rename_i s hs;simp only[Option.some.injEq,Prod.mk.injEq] at h;obtain⟨rfl,rfl⟩:=h;obtain⟨t1,t2,t3,t4⟩:=TRel.put (st:={ st with hp:=qa8 b i cells st.hp }) R.t hs (show (SV.pv undef).is β undef from rfl);rw[hrun,Oper.upon_skip];refine hk β _ _ (Bl.le_refl _) ⟨t1,?_,by rw[t3];exact R.dom,by rw[t3];exact R.lo⟩;rw[t2];exact R.h.store hr (Nat.le_of_ble_eq_true hb) hu h1 ht
   ·cases h
 ·rename_i b e es n ys rv;cases hb:qhO lo st.hp (some b)
  ·rw[hb] at h;cases h
  ·rw[hb,cond_true] at h;simp only[qhO,Bool.and_eq_true] at hb;have hlo:=Nat.le_of_ble_eq_true hb.1;obtain⟨R0,hR0⟩:=Option.isSome_iff_exists.1 hb.2;obtain⟨u,w',hg,hrun,hU,hown,hone⟩:=ho hlo;have hlk:=qaO hR0;obtain⟨u',g1,g2⟩:=R.h.rows _ _ _ _ _ _ hlk;rw[hg] at g1;cases g1;split at h
   ·rename_i s hs;simp only[Option.some.injEq,Prod.mk.injEq] at h;obtain⟨rfl,rfl⟩:=h;obtain⟨t1,t2,t3,t4⟩:=TRel.put (st:={ st with hp:=(b,0,.row e es n ys)::qcn (some b) st.hp }) R.t hs (show (SV.pv rv).is β rv from rfl)
    suffices key:next (a.put o.dst rv) w' by
     rcases hrun with ⟨rfl,hrun⟩ | hrun
     ·rw[hrun,Oper.upon_skip];exact key
     ·rw[hrun,Oper.upon_value];exact key
    refine hk β _ _ (Bl.le_refl _) ⟨t1,?_,by rw[t3];exact R.dom,by rw[t3];exact R.lo⟩;rw[t2];have H1:=R.h.upd (Hd:=fun c o s=>qaj (qcn (some b) st.hp) c o=some s) hU (bo:=some b) (Or.inr ⟨b,u,0,_,_,_,_,rfl,hlo,hg,rfl,hlk⟩) (fun c o s hc=>⟨(qaD hc).1,fun _ e=>(qaD hc).2 e⟩);refine H1.addRow hlo hg hown hone (g2.apart hlo) (fun c o e es n xs v hc hl hv k hk hk'=>?_) (fun c o s hc=>?_)
    ·obtain⟨d1,d2⟩:=qaD hc;exact R.h.rinj _ _ _ _ _ _ _ _ _ _ _ _ u v hlk d1 hlo hl (fun e=>d2 (by rw[e])) hg hv k hk hk'
    ·have hc':qaj ((b,0,.row e es n ys)::qcn (some b) st.hp) c o=some s:=hc;rw[qao] at hc';split at hc'
     ·rename_i e1;cases hc';exact Or.inl ⟨e1.1.symm,e1.2.symm,rfl⟩
     ·exact Or.inr ⟨hc',fun _ e=>(qaD hc').2 (by rw[e])⟩
   ·cases h
 ·rename_i old e es n ys;cases hb:qhO lo st.hp old
  ·rw[hb] at h;cases h
  ·rw[hb,cond_true] at h
   have hold:∀ b,old=some b→lo≤b∧∃ R0,qcT st.hp b=some R0:=by
    intro b e1;subst e1;simp only[qhO,Bool.and_eq_true] at hb;exact⟨Nat.le_of_ble_eq_true hb.1,Option.isSome_iff_exists.1 hb.2⟩
   obtain⟨u,w',row,hrun,hsl,hU,hrow,hown,hone,hblk⟩:=ho fun b e=>(hold b e).1
   obtain⟨hn,hn2⟩:=R.dom _ (Nat.le_refl _);split at h
   ·rename_i s hs;simp only[Option.some.injEq,Prod.mk.injEq] at h;obtain⟨rfl,rfl⟩:=h;have hle:β.le (β.setG st.nb u):=Bl.le_setG hn hn2;have hx:(SV.ls st.nb n).is (β.setG st.nb u) u:=⟨Bl.setG_same _ _ _,hsl⟩;obtain⟨t1,t2,t3,t4⟩:=TRel.put (st:={ st with hp:=(st.nb,0,.row e es n ys)::qcn old st.hp,nb:=st.nb+1 }) (R.t.mono hle) hs hx;rw[hrun,Oper.upon_value];refine hk _ _ _ hle ⟨t1,?_,?_,by rw[t3];have:=R.lo;simp;omega⟩
    ·rw[t2]
     have hr':row=none∨∃ b u o e es n xs,old=some b∧lo≤b∧β.g b=some u∧row=u.ownBlock∧qaj st.hp b o=some (.row e es n xs):=by
      rcases hrow with e1 | ⟨b,v,e1,e2,e3⟩
      ·exact Or.inl e1
      ·obtain⟨h1,R0,h2⟩:=hold b e1;exact Or.inr ⟨b,v,0,_,_,_,_,e1,h1,e2,e3,qaO h2⟩
     have H1:=(R.h.upd (Hd:=fun c o s=>qaj (qcn old st.hp) c o=some s) hU (bo:=old) hr' (fun c o s hc=>⟨(qaD hc).1,fun _ e=>(qaD hc).2 e⟩)).setG hn hn2 u;refine H1.addRow R.lo (Bl.setG_same _ _ _) hown hone (fun c r hc hk=>?_) (fun c o e es n xs v hc hl hv k hk hk'=>?_) (fun c o s hc=>?_)
     ·have hc':β c=some r:=hc
      rcases hblk r hk with e1 | e1
      ·rcases hr' with e2 | ⟨b,v,o,_,_,_,_,_,f2,f3,f4,f5⟩
       ·rw[e2] at e1;cases e1
       ·obtain⟨v',g1,g2⟩:=R.h.rows _ _ _ _ _ _ f5;rw[f3] at g1;cases g1;exact g2.apart f2 c r hc' (by rw[← f4];exact e1)
      ·have:=R.h.live c r hc';omega
     ·obtain⟨d1,d2⟩:=qaD hc;obtain⟨v',g1,g2⟩:=R.h.rows _ _ _ _ _ _ d1
      have hvv:β.g c=some v:=by
       have:=hle.g g1;rw[hv] at this;cases this;exact g1
      rw[hvv] at g1;cases g1
      rcases hblk k hk with e1 | e1
      ·rcases hr' with e2 | ⟨b,v2,o,_,_,_,_,f1,f2,f3,f4,f5⟩
       ·rw[e2] at e1;cases e1
       ·exact R.h.rinj _ _ _ _ _ _ _ _ _ _ _ _ v2 v f5 d1 f2 hl (fun e=>d2 (by rw[f1,e])) f3 hvv k (by rw[← f4];exact e1) hk'
      ·have:=(qay (g2.own hl) k hk').2;omega
     ·have hc':qaj ((st.nb,0,.row e es n ys)::qcn old st.hp) c o=some s:=hc;rw[qao] at hc';split at hc'
      ·rename_i e1;cases hc';exact Or.inl ⟨e1.1.symm,e1.2.symm,rfl⟩
      ·refine Or.inr ⟨hc',fun hrw e=>?_⟩
       cases s<;>try cases hrw
       ·obtain⟨v',g1,_⟩:=R.h.rows _ _ _ _ _ _ (qaD hc').1;rw[e,hn2] at g1;cases g1
       ·obtain⟨v',g1,_⟩:=R.h.maps _ _ _ (qaD hc').1;rw[e,hn] at g1;cases g1
    ·rw[t3];intro b hb';simp only at hb';obtain⟨d1,d2⟩:=R.dom b (by omega);refine⟨d1,?_⟩;unfold Bl.setG;simp only;rw[if_neg (by omega)];exact d2
   ·cases h
 ·rename_i f args;obtain⟨us,hu,hrun⟩:=ho;split at h
  ·rename_i x s q' hc;split at h
   ·rename_i s' hs;simp only[Option.some.injEq,Prod.mk.injEq] at h;obtain⟨rfl,rfl⟩:=h;obtain⟨e1,e2,e4⟩:=hcall hc hq;rw[hrun,Oper.upon_enter]
    refine (e4 W0 β us w R.h R.dom R.lo hu).mono fun e w' hh=>?_
    obtain⟨v,β',rfl,hle,hx,hH,hd,hl⟩:=hh;have T:=R.t.mono hle;rw[← e1,← e2] at T;obtain⟨t1,t2,t3,t4⟩:=T.put hs hx;exact hk β' _ _ hle ⟨t1,by rw[t2];exact hH,by rw[t3];exact hd,by rw[t3];exact hl⟩
   ·cases h
  ·cases h
 ·
  split at h
  ·rename_i s hs;simp only[Option.some.injEq,Prod.mk.injEq] at h;obtain⟨rfl,rfl⟩:=h;obtain⟨hn,hn2⟩:=R.dom _ (Nat.le_refl _);have hle:β.le (β.set st.nb w.heap.size):=Bl.le_set hn hn2;have hx:(SV.mp st.nb).is (β.set st.nb w.heap.size) (.map (some w.heap.size)):=⟨_,Bl.set_same _ _ _,rfl⟩;obtain⟨t1,t2,t3,t4⟩:=TRel.put (st:={ st with hp:=(st.nb,0,.mrow [])::st.hp,nb:=st.nb+1 }) (R.t.mono hle) hs hx;rw[show (execOp a.eval o).run P w=_ from ho,Oper.upon_value];refine hk (β.set st.nb w.heap.size) _ _ hle ⟨t1,?_,?_,by rw[t3];have:=R.lo;simp;omega⟩
   ·rw[t2]
    refine (R.h.allocM hn hn2).imp fun b o s e=>?_
    have e':qaj ((st.nb,0,.mrow [])::st.hp) b o=some s:=e;rw[qao] at e';split at e'
    ·rename_i e1;cases e';exact Or.inr ⟨e1.1.symm,e1.2.symm,rfl⟩
    ·exact Or.inl e'
   ·rw[t3];intro b hb;simp only at hb;obtain⟨d1,d2⟩:=R.dom b (by omega);refine⟨?_,d2⟩;unfold Bl.set;simp only;rw[if_neg (by omega)];exact d1
  ·cases h
 ·
  rename_i b ys;cases hb:(Nat.ble lo b&&(qeT st.hp b).isSome)
  ·rw[hb] at h;cases h
  ·rw[hb,cond_true] at h;simp only[Bool.and_eq_true] at hb;have hlo:=Nat.le_of_ble_eq_true hb.1;obtain⟨r,xs,en,clock,hr,hm,hrun,hy⟩:=ho;split at h
   ·rename_i s hs;simp only[Option.some.injEq,Prod.mk.injEq] at h;obtain⟨rfl,rfl⟩:=h;obtain⟨t1,t2,t3,t4⟩:=TRel.put (st:={ st with hp:=(b,0,.mrow ys)::qcn (some b) st.hp }) R.t hs (show (SV.pv undef).is β undef from rfl);rw[hrun,Oper.upon_skip];refine hk β _ _ (Bl.le_refl _) ⟨t1,?_,by rw[t3];exact R.dom,by rw[t3];exact R.lo⟩;rw[t2]
    refine R.h.setM hr hlo hm hy fun c o s hc=>?_
    have hc':qaj ((b,0,.mrow ys)::qcn (some b) st.hp) c o=some s:=hc;rw[qao] at hc';split at hc'
    ·rename_i e1;cases hc';exact Or.inl ⟨e1.1.symm,e1.2.symm,rfl⟩
    ·exact Or.inr ⟨(qaD hc').1,fun e=>(qaD hc').2 (by rw[e])⟩
   ·cases h
theorem qeA {P:Program} {call:qbi} (hcall:qb4 P call) {W0:World} {lo:Nat} {ops:Array Oper} {Q:Exit→Act→World→Prop} :
 ∀ {l:List Oper} {st st':St} {q:List Prop} {β:Bl} {a:Act} {w:World},qqY P call lo ops l st=some (st',q)→qba q→Rel W0 lo β st a w→
  (∀ β' a' w',β.le β'→Rel W0 lo β' st' a' w'→Q .normal a' w')→wpList P ops Q l a w
 | [],st,st',q,β,a,w,h,_,R,hQ=>by
  simp only[qqY,Option.some.injEq,Prod.mk.injEq] at h;obtain⟨rfl,rfl⟩:=h;exact hQ β a w (Bl.le_refl _) R
 | o::r,st,st',q,β,a,w,h,hq,R,hQ=>by
  simp only[qqY] at h
  have hlooks:∀ d,d∈o.looksAt ops→(qaZ st.tm d).is β (a.tmps.getD d undef):=fun d _=>R.t.tmps d
  simp only[wpList];split at h
  ·rename_i hw;rw[qaE hw hlooks,if_pos rfl];generalize hc:(qaV o.op st).1=c at h;generalize hp:(qaV o.op st).2=st1 at h;obtain⟨p1,p2,p3,p4⟩:=qbO hp;have R1:Rel W0 lo β st1 a w:=⟨by rw[p1,p2];exact R.t,by rw[p3];exact R.h,by rw[p4];exact R.dom,by rw[p4];exact R.lo⟩;split at h
   ·rename_i out q1 h1;split at h
    ·rename_i st2 q2 h2;split at h
     ·rename_i st3 q3 h3;simp only[Option.some.injEq,Prod.mk.injEq] at h;obtain⟨rfl,rfl⟩:=h;obtain⟨a1,a2⟩:=qav hq;obtain⟨a2,a3⟩:=qav a2;refine Or.inl (qyU hcall h2 a2 R1 (qbA h1 a1 R1.h (fun x _=>R1.t.ev x)) fun β' a' w' hle R2=>?_)
      exact qeA hcall h3 a3 R2 fun β'' a'' w'' hle' R3=>hQ β'' a'' w'' (Bl.le_trans hle hle') R3
     ·cases h
    ·cases h
   ·cases h
  ·rename_i hw;rw[qaE hw hlooks,if_neg (by decide)];split at h
   ·rename_i st2 hs;obtain⟨t1,t2,t3,t4⟩:=R.t.put hs (show (SV.pv undef).is β undef from rfl);exact qeA hcall h hq ⟨t1,by rw[t2];exact R.h,by rw[t3];exact R.dom,by rw[t3];exact R.lo⟩ hQ
   ·cases h
  ·cases h
end Go.Proofs.YtkckcgpmnipnaaaGreat
