/-
  A range over a function, one: code that is worked out runs so in a round too, and where calls are deferred. Conditions: none.
-/
import Derived.Test.YtkckcgpmnipnaaaGreatSxJ
import Derived.RangeFuncIn
import Derived.RangeFuncRecord
import Derived.RangeFuncSeq
import Derived.TacticsIn
import Derived.OrdersIn
import Derived.LoopNIn
namespace Go.Proofs.YtkckcgpmnipnaaaGreat
set_option maxRecDepth 100000
open Go.RowKit
def FW (r:Option Nat):Fence:={ Fence.wide with round:=r }
def clr (a:Act):Act:={ a with defers:=[] }
theorem qha (a:Act) (d:Option Tmp) (v:Value):clr (a.put d v)=(clr a).put d v:=by cases d<;>rfl
theorem qc3 (a:Act) (d:Option Tmp) (v:Value):(a.put d v).defers=a.defers:=by cases d<;>rfl
def qjg (ops:Array Oper):Bool:=ops.toList.all fun o=>match o.op with
 | .defer _=>false
 | _=>true
theorem qeG {ops:Array Oper} (h:qjg ops=true) {o:Oper} (ho:o∈ops.toList):∀ c,o.op≠.defer c:=fun c e=>by
 have:=List.all_eq_true.1 h o ho
 rw[e] at this
 cases this
def QD (K:Act→World→Prop):Exit→Act→World→Prop:=fun e a w=>e=.normal∧a.defers=[]∧K a w
theorem qdz {r:Option Nat} {n:Nat} {P:Program} {f:FuncId} {args:Array Value} {w:World} {R:Ending→World→Prop}:CallsIn (FW r) n P f args w R↔Calls P f args w R:=callsIn_wide (n:=n)
theorem qll {r:Option Nat} {n:Nat} {P:Program} {row:String} {args:Array Value} {w:World} {R:Value→World→Prop} (h:Rows P row args w R):RowsIn (FW r) n P row args w R:=
 fun c cs _=>let ⟨v,w',hr,s⟩:=h c cs;⟨v,w',hr,(stepsIn_wide (P:=P)).2 s⟩
theorem qjH {r r':Option Nat} {n m:Nat} {P:Program} {l:Nat} {f:FuncId} {tmps:Array Value} {assign body:Code} {w:World} {R:Ending→World→Prop} (h:RoundIn (FW r) n P l f tmps assign body w R):RoundIn (FW r') m P l f tmps assign body w R:=
 ⟨trivial,fun c cs _=>h.2 c cs (fun _ e=>by cases e)⟩
theorem qlT {P:Program} {f:FuncId} {args:Array Value} {w:World} {R:Ending→World→Prop} (h:Calls P f args w R):∃ e w',R e w':=let ⟨e,w',_,r,_⟩:=h [];⟨e,w',r⟩
theorem qnf {P:Program} {row:String} {args:Array Value} {w:World} {R:Value→World→Prop} (h:Rows P row args w R):∃ e w',R e w':=let ⟨e,w',r,_⟩:=h default [];⟨e,w',r⟩
section
variable {P:Program} {ops:Array Oper} {K:Act→World→Prop} {r:Option Nat} {n:Nat}
theorem qe3 {o:Oper} {a:Act} {next:Act→World→Prop} {K:Act→World→Prop} (hn:∀ a w,next a w→a.defers=[]) {res:Result Next} (h:o.upon P a next (QD K) res):a.defers=[]:=by
 have hp:∀ (a:Act) d v w,next (a.put d v) w→a.defers=[]:=fun a d v w k=>by have:=hn _ _ k;rwa [qc3] at this
 cases res with
 | ok x w'=>
  cases x<;>simp only[Oper.upon] at h
  case value v=>exact hp _ _ _ _ h
  case skip=>exact hp _ _ _ _ h
  case defer d=>have:=hp _ _ _ _ h;cases this
  case enter f args=>
   obtain⟨e,w2,k⟩:=qlT h
   cases e with
   | returned v=>exact hp _ _ _ _ k
   | panicked c=>exact absurd k.1 (by simp)
   | outgrown=>obtain⟨a',w',k,_⟩:=k;cases k
  case row row args=>
   obtain⟨v,w2,k⟩:=qnf h
   exact hp _ _ _ _ k
 | halt x w'=>cases x<;>simp only[Oper.upon] at h;exact absurd h.1 (by simp)
theorem qmo {o:Oper} (hd:∀ c,o.op≠.defer c) {a:Act} {w:World} {next next':Act→World→Prop} {Q:Exit→Act→World→Prop} (hn:∀ a w,next a w→a.defers=[])
 (h:o.wp P (clr a) w next (QD K)) (hk:∀ a' w',a'.defers=a.defers→next (clr a') w'→next' a' w'):o.wpIn (FW r) n P a w next' Q:=by
 refine⟨fun _ _=>trivial,?_⟩
 rw[Oper.semAt_eq _ _ _ hd]
 have h':o.upon P (clr a) next (QD K) ((execOp a.eval o).run P w):=h
 generalize (execOp a.eval o).run P w=res at h'
 have hp:∀ d v w,next ((clr a).put d v) w→next' (a.put d v) w:=fun d v w k=>hk _ _ (qc3 _ _ _) (by rw[qha];exact k)
 cases res with
 | ok x w'=>
  cases x<;>simp only[Oper.upon] at h'
  case value v=>exact hp _ _ _ h'
  case skip=>exact hp _ _ _ h'
  case defer d=>
   have:=hn _ _ h'
   rw[qc3] at this
   cases this
  case enter f args=>
   refine⟨fun e=>(by cases e),qdz.2 (h'.mono fun e w2 k=>?_)⟩
   cases e with
   | returned v=>exact hp _ _ _ k
   | panicked c=>exact absurd k.1 (by simp)
   | outgrown=>obtain⟨a',w',k,_⟩:=k;cases k
  case row row args=>
   exact⟨fun e=>(by cases e),qll (h'.mono fun v w2 k=>hp _ _ _ k)⟩
 | halt x w'=>cases x<;>simp only[Oper.upon] at h';exact absurd h'.1 (by simp)
theorem qdD:∀ {l:List Oper} {a:Act} {w:World},wpList P ops (QD K) l a w→a.defers=[]
 | [],_,_,h=>h.2.1
 | o::l,a,w,h=>by
  simp only[wpList] at h
  split at h
  ·rcases h with h | ⟨_,a',w',k,_⟩
   ·exact qe3 (fun a w k=>qdD k) h
   ·cases k
  ·have:=qdD h;rwa [qc3] at this
theorem qiQ {Q:Exit→Act→World→Prop} {l2:List Oper}:∀ {l:List Oper} {a:Act} {w:World},(∀ o∈l,∀ c,o.op≠.defer c)→wpList P ops (QD K) l (clr a) w→(∀ a' w',a'.defers=a.defers→K (clr a') w'→wpListIn (FW r) n P ops Q l2 a' w')→wpListIn (FW r) n P ops Q (l++l2) a w
 | [],a,w,_,h,hk=>hk a w rfl h.2.2
 | o::l,a,w,hd,h,hk=>by
  rw[List.cons_append]
  simp only[wpList] at h
  simp only[wpListIn]
  have ey:yielded ops (clr a).tmps=yielded ops a.tmps:=rfl
  rw[ey] at h
  split
  ·rename_i hw
   rw[if_pos hw] at h
   rcases h with h | ⟨_,a',w',k,_⟩
   ·exact qmo (hd o (by simp)) (fun a w k=>qdD k) h fun a' w' e k=>qiQ (fun o ho=>hd o (by simp[ho])) k fun a2 w2 e2 k2=>hk a2 w2 (e2.trans e) k2
   ·cases k
  ·rename_i hw
   rw[if_neg hw,← qha] at h
   exact⟨fun _ _=>trivial,qiQ (fun o ho=>hd o (by simp[ho])) h fun a2 w2 e2 k2=>hk a2 w2 (e2.trans (qc3 _ _ _)) k2⟩
theorem qda:∀ {fuel:Nat} {listed:Array Bool} {a:Act} {w:World},wpAny P .any ops (QD K) fuel listed a w→a.defers=[]
 | 0,_,_,_,h=>h.2.2.1
 | fuel+1,listed,a,w,h=>by
  cases hr:Region.ready .any ops listed with
  | nil=>exact (h.1 hr).2.1
  | cons i rs=>
   have k:=h.2 i (by rw[hr];simp)
   unfold wpOp at k
   split at k
   ·exact qda k
   ·split at k
    ·rcases k with k | ⟨_,a',w',k,_⟩
     ·exact qe3 (fun a w k=>qda k) k
     ·cases k
    ·have:=qda k;rwa [qc3] at this
theorem qkp {Q:Exit→Act→World→Prop} (hd:∀ o∈ops.toList,∀ c,o.op≠.defer c):∀ {fuel:Nat} {listed:Array Bool} {a:Act} {w:World},wpAny P .any ops (QD K) fuel listed (clr a) w→(∀ a' w',a'.defers=a.defers→K (clr a') w'→Q .normal a' w')→wpAnyIn (FW r) n P .any ops Q fuel listed a w
 | 0,_,a,w,h,hk=>⟨h.1,hk a w rfl h.2.2.2⟩
 | fuel+1,listed,a,w,h,hk=>by
  refine⟨fun hr=>hk a w rfl (h.1 hr).2.2,fun i hi=>?_⟩
  have k:=h.2 i hi
  unfold wpOp at k
  unfold wpOpIn
  split
  ·rename_i ho;rw[ho] at k;exact qkp hd k hk
  ·rename_i o ho
   rw[ho] at k
   simp only at k
   have ey:yielded ops (clr a).tmps=yielded ops a.tmps:=rfl
   rw[ey] at k
   have hm:o∈ops.toList:=by simpa using Array.mem_of_getElem? ho
   split
   ·rename_i hw
    rw[if_pos hw] at k
    rcases k with k | ⟨_,a',w',k,_⟩
    ·exact qmo (hd o hm) (fun a w k=>qda k) k fun a' w' e k=>qkp hd k fun a2 w2 e2 k2=>hk a2 w2 (e2.trans e) k2
    ·cases k
   ·rename_i hw
    rw[if_neg hw,← qha] at k
    exact⟨fun _ _=>trivial,qkp hd k fun a2 w2 e2 k2=>hk a2 w2 (e2.trans (qc3 _ _ _)) k2⟩
end
def qpD:Nat→Code→Bool
 | 0,_=>false
 | n+1,c=>match c with
  | .skip=>true
  | .label _=>true
  | .region _ ops _=>qjg ops
  | .seq x y=>qpD n x&&qpD n y
  | .cond _ x y=>qpD n x&&qpD n y
  | .block _ x=>qpD n x
  | .exit _=>true
  | .ret=>true
  | _=>false
theorem qn1 {P:Program} {call:qa6} (hcall:qbB P call) {W0:World} {lo:Nat} {ops:Array Oper} {Q:Exit→Act→World→Prop} {r:Option Nat} {n:Nat} {l l2:List Oper} {st st':St} {q:List Prop} {β:Bl} {a:Act} {w:World}
 (hd:∀ o∈l,∀ c,o.op≠.defer c) (h:qmh P call lo ops l st=some (st',q)) (hq:qaU q) (R:Rel W0 lo β st (clr a) w)
 (hQ:∀ β' a' w',β.le β'→a'.defers=a.defers→Rel W0 lo β' st' (clr a') w'→wpListIn (FW r) n P ops Q l2 a' w'):wpListIn (FW r) n P ops Q (l++l2) a w:=
 qiQ hd (qdt hcall h hq R (Q:=QD fun a' w'=>∃ β',β.le β'∧Rel W0 lo β' st' a' w') fun β' _ _ hle R'=>⟨rfl,R'.t.defers,β',hle,R'⟩) fun a' w' e ⟨β',hle,R'⟩=>hQ β' a' w' hle e R'
theorem qnp {P:Program} {call:qa6} (hcall:qbB P call) {W0:World} {lo:Nat} {ops:Array Oper} {Q:Exit→Act→World→Prop} {st st':St} {q:List Prop} {β:Bl} {a:Act} {w:World}
 (h:qnw P call lo ops st=some (st',q)) (hq:qaU q) (R:Rel W0 lo β st a w) (hQ:∀ β' a' w',β.le β'→Rel W0 lo β' st' a' w'→Q .normal a' w'):P.follows .mixedOrders=true∧wpAny P .any ops Q ops.size (Array.replicate ops.size false) a w.drew:=by
 unfold qnw at h
 split at h
 ·rename_i π ch _
  cases hb:(qoq π ops.size&&P.follows .mixedOrders)
  ·rw[hb] at h;cases h
  ·rw[hb,cond_true] at h
   rw[Bool.and_eq_true] at hb
   have hp:=qjQ hb.1
   obtain⟨hm,k⟩:=qdV hcall h hq (st:={ st with ch:=ch }) ⟨⟨R.t.size,R.t.defers,R.t.tmps⟩,R.h,R.dom,R.lo⟩ hQ
   rw[qbQ hp] at k
   refine⟨hm,qgt hp _ _ _ a _ ?_ k⟩
   have:=qfX hp
   rw[qbQ hp] at this
   exact this
 ·rename_i ch _
  cases hb:(P.follows .mixedOrders&&Region.noSelect ops)
  ·rw[hb] at h;cases h
  ·rw[hb,cond_true] at h
   rw[Bool.and_eq_true] at hb
   have R1:Rel W0 lo β { st with ch:=ch } a w.drew:=⟨R.t,R.h.gr_mono (Gr.refl w).drew,R.dom,R.lo⟩
   exact⟨hb.1,qhJ hcall hb.2 ops.size _ h hq R1 hQ⟩
 ·rename_i L ch _
  cases hb:(P.follows .mixedOrders&&Region.noSelect ops)
  ·rw[hb] at h;cases h
  ·rw[hb,cond_true] at h
   split at h
   ·rename_i hpL hL
    rw[Bool.and_eq_true] at hb
    have R1:Rel W0 lo β { st with ch:=ch } a w.drew:=⟨R.t,R.h.gr_mono (Gr.refl w).drew,R.dom,R.lo⟩
    exact⟨hb.1,qiw hcall hb.2 ops.size _ (st:={ st with ch:=ch }) hL h hq R1 hQ⟩
   ·cases h
 ·rename_i ch _
  cases hb:P.follows .mixedOrders
  ·rw[hb] at h;cases h
  ·rw[hb,cond_true] at h
   have R1:Rel W0 lo β { st with ch:=ch } a w.drew:=⟨R.t,R.h.gr_mono (Gr.refl w).drew,R.dom,R.lo⟩
   exact⟨rfl,qt8 hcall (st:={ st with ch:=ch }) h hq R1 hQ⟩
 ·exact qdV hcall h hq R hQ
theorem qwE {P:Program} {r:Option Nat}:∀ (n m:Nat) {lo fr:Nat} {c:Code} {st st':St} {e:Exit} {q:List Prop},qcg P n lo fr c st=some (e,st',q)→qpD m c=true→qaU q→
 ∀ {W0:World} {β:Bl} {a:Act} {w:World} {Q:Exit→Act→World→Prop},Rel W0 lo β st (clr a) w→(∀ β' a' w',β.leU fr β'→a'.defers=a.defers→Rel W0 lo β' st' (clr a') w'→Q e a' w')→c.wpIn (FW r) 0 P Q a w:=by
 intro n
 induction n with
 | zero=>intro m lo fr c st st' e q h;simp[qcg] at h
 | succ n ih=>
  intro m lo fr c st st' e q h hf hq W0 β a w Q R hQ
  cases m with
  | zero=>cases hf
  | succ m=>
  cases c with
  | skip=>
   simp only[qcg,Option.some.injEq,Prod.mk.injEq] at h
   obtain⟨rfl,rfl,rfl⟩:=h
   exact wpIn_skip (hQ β a w ((Bl.le_refl _).u _) rfl R)
  | label l=>
   simp only[qcg,Option.some.injEq,Prod.mk.injEq] at h
   obtain⟨rfl,rfl,rfl⟩:=h
   exact wpIn_label (hQ β a w ((Bl.le_refl _).u _) rfl R)
  | region id ops draw=>
   simp only[qcg] at h
   have hnd:∀ o∈ops.toList,∀ c,o.op≠.defer c:=fun o ho=>qeG hf ho
   cases draw
   ·simp only[cond_false] at h
    split at h
    ·rename_i s q' hs
     simp only[Option.some.injEq,Prod.mk.injEq] at h
     obtain⟨rfl,rfl,rfl⟩:=h
     refine wpIn_region_list ?_
     rw[← List.append_nil ops.toList]
     exact qn1 (qdZ (qdA n)) hnd hs hq R fun β' a' w' hle he R'=>hQ β' a' w' (hle.u _) he R'
    ·cases h
   ·simp only[cond_true] at h
    split at h
    ·rename_i s q' hs
     simp only[Option.some.injEq,Prod.mk.injEq] at h
     obtain⟨rfl,rfl,rfl⟩:=h
     obtain⟨hm,k⟩:=qnp (qdZ (qdA n)) hs hq R (Q:=QD fun a' w'=>∃ β',β.le β'∧Rel W0 lo β' s a' w') fun β' a' w' hle R'=>⟨rfl,R'.t.defers,β',hle,R'⟩
     exact wpIn_region_any hm (qkp hnd k fun a' w' he ⟨β',hle,R'⟩=>hQ β' a' w' (hle.u _) he R')
    ·cases h
  | seq x y=>
   simp only[qpD,Bool.and_eq_true] at hf
   simp only[qcg] at h
   split at h
   ·rename_i s q1 h1
    split at h
    ·rename_i e2 s2 q2 h2
     simp only[Option.some.injEq,Prod.mk.injEq] at h
     obtain⟨rfl,rfl,rfl⟩:=h
     obtain⟨a1,a2⟩:=qao hq
     refine wpIn_seq (ih m h1 hf.1 a1 R fun β' a' w' hle he R'=>?_)
     exact ih m h2 hf.2 a2 R' fun β'' a'' w'' hle' he' R''=>hQ β'' a'' w'' (Bl.leU_trans hle hle') (he'.trans he) R''
    ·cases h
   ·rename_i i s q1 h1
    simp only[Option.some.injEq,Prod.mk.injEq] at h
    obtain⟨rfl,rfl,rfl⟩:=h
    exact wpIn_seq (ih m h1 hf.1 hq (Q:=Exit.then (y.wpIn (FW r) 0 P Q) Q) R fun β' a' w' hle he R'=>hQ β' a' w' hle he R')
   ·rename_i s q1 h1
    simp only[Option.some.injEq,Prod.mk.injEq] at h
    obtain⟨rfl,rfl,rfl⟩:=h
    exact wpIn_seq (ih m h1 hf.1 hq (Q:=Exit.then (y.wpIn (FW r) 0 P Q) Q) R fun β' a' w' hle he R'=>hQ β' a' w' hle he R')
   ·cases h
  | cond c x y=>
   simp only[qpD,Bool.and_eq_true] at hf
   simp only[qcg] at h
   split at h
   ·rename_i b hb
    have k:=R.t.ev c
    rw[hb] at k
    have k':a.eval c=.bool b:=k
    cases b
    ·exact wpIn_cond_false k' (ih m h hf.2 hq R hQ)
    ·exact wpIn_cond_true k' (ih m h hf.1 hq R hQ)
   ·cases h
  | block id c=>
   simp only[qpD] at hf
   simp only[qcg] at h
   split at h
   ·rename_i s q1 h1
    simp only[Option.some.injEq,Prod.mk.injEq] at h
    obtain⟨rfl,rfl,rfl⟩:=h
    exact wpIn_block (ih m h1 hf hq (Q:=Exit.inBlock id Q) R fun β' a' w' hle he R'=>hQ β' a' w' hle he R')
   ·rename_i i s q1 h1
    cases hb:Nat.beq i id
    ·rw[hb,cond_false] at h
     simp only[Option.some.injEq,Prod.mk.injEq] at h
     obtain⟨rfl,rfl,rfl⟩:=h
     have hne:¬ i=id:=fun e=>by subst e;rw[Nat.beq_refl] at hb;cases hb
     refine wpIn_block (ih m h1 hf hq R fun β' a' w' hle he R'=>?_)
     show (if i=id then _ else _)
     rw[if_neg hne]
     exact hQ β' a' w' hle he R'
    ·rw[hb,cond_true] at h
     simp only[Option.some.injEq,Prod.mk.injEq] at h
     obtain⟨rfl,rfl,rfl⟩:=h
     have he':=Nat.eq_of_beq_eq_true hb
     refine wpIn_block (ih m h1 hf hq R fun β' a' w' hle he R'=>?_)
     show (if i=id then _ else _)
     rw[if_pos he']
     exact hQ β' a' w' hle he R'
   ·rename_i s q1 h1
    simp only[Option.some.injEq,Prod.mk.injEq] at h
    obtain⟨rfl,rfl,rfl⟩:=h
    exact wpIn_block (ih m h1 hf hq (Q:=Exit.inBlock id Q) R fun β' a' w' hle he R'=>hQ β' a' w' hle he R')
   ·cases h
  | exit id=>
   simp only[qcg,Option.some.injEq,Prod.mk.injEq] at h
   obtain⟨rfl,rfl,rfl⟩:=h
   exact wpIn_exit (hQ β a w ((Bl.le_refl _).u _) rfl R)
  | ret=>
   simp only[qcg,Option.some.injEq,Prod.mk.injEq] at h
   obtain⟨rfl,rfl,rfl⟩:=h
   exact wpIn_ret (hQ β a w ((Bl.le_refl _).u _) rfl R)
  | _=>cases hf
def sub:Code→List Nat→Code
 | c,[]=>c
 | .seq x _,0::r=>sub x r
 | .seq _ y,_::r=>sub y r
 | .cond _ x _,0::r=>sub x r
 | .cond _ _ y,_::r=>sub y r
 | .block _ x,_::r=>sub x r
 | .loop x,_::r=>sub x r
 | .rangeFunc _ _ x _,0::r=>sub x r
 | .rangeFunc _ _ _ y,_::r=>sub y r
 | c,_=>c
def qt9 (P:Program) (f:FuncId) (p:List Nat):Code:=
 match P.funcs[f]? with
 | some fn=>match fn.body with
  | some c=>sub c p
  | none=>.skip
 | none=>.skip
def qDn (c:Code):Array Oper:=
 match c with
 | .region _ ops _=>ops
 | _=>#[]
def Seg (P:Program) (lo fr:Nat) (c:Code) (n nb0:Nat) (tm0:List (Nat×SV)) (hp0:List (Nat×Nat×SV)) (e:Exit) (nb1:Nat) (tm1:List (Nat×SV)) (hp1:List (Nat×Nat×SV)):Prop:=
 ∀ (r:Option Nat) (W0:World) (β:Bl) (a:Act) (w:World) (Q:Exit→Act→World→Prop),Rel W0 lo β (qaT n nb0 tm0 hp0 []) (clr a) w→
  (∀ β' a' w',β.leU fr β'→a'.defers=a.defers→Rel W0 lo β' (qaT n nb1 tm1 hp1 []) (clr a') w'→Q e a' w')→c.wpIn (FW r) 0 P Q a w
theorem qcW {P:Program} {lo fr:Nat} {c:Code} {n nb0 nb1:Nat} {tm0 tm1:List (Nat×SV)} {hp0 hp1:List (Nat×Nat×SV)} {e:Exit} (ρ:List (Nat×Nat)) (k:Nat) (ch:List Ch) (hlo:lo≤nb1) (hf:qpD k c=true)
 (h:qcy ρ lo fr n nb1 e tm1 hp1 (qcg P k lo fr c (qaT n nb0 tm0 hp0 ch))):Seg P lo fr c n nb0 tm0 hp0 e nb1 tm1 hp1:=by
 intro r W0 β a w Q R hQ
 cases he:qcg P k lo fr c (qaT n nb0 tm0 hp0 ch) with
 | none=>rw[he] at h;unfold qcy at h;exact h.elim
 | some z=>
  obtain⟨e',s,q⟩:=z
  rw[he] at h
  unfold qcy at h
  obtain⟨rfl,h1,h2,h3,h4⟩:=h
  simp only[Bool.and_eq_true] at h1
  have R0:Rel W0 lo β (qaT n nb0 tm0 hp0 ch) (clr a) w:=⟨R.t,R.h,R.dom,R.lo⟩
  refine qwE k k he hf h4 R0 fun β' a' w' hle hd R'=>?_
  exact hQ _ a' w' (Bl.leU_trans hle (Bl.ren_leU (qcx h1.1))) hd (R'.ren [] (Nat.eq_of_beq_eq_true h1.2) hlo h1.1 h2 h3)
def qEg (P:Program) (lo fr:Nat) (ops:Array Oper) (l:List Oper) (n nb0:Nat) (tm0:List (Nat×SV)) (hp0:List (Nat×Nat×SV)) (nb1:Nat) (tm1:List (Nat×SV)) (hp1:List (Nat×Nat×SV)):Prop:=
 ∀ (r:Option Nat) (W0:World) (β:Bl) (a:Act) (w:World) (Q:Exit→Act→World→Prop) (l2:List Oper),Rel W0 lo β (qaT n nb0 tm0 hp0 []) (clr a) w→
  (∀ β' a' w',β.leU fr β'→a'.defers=a.defers→Rel W0 lo β' (qaT n nb1 tm1 hp1 []) (clr a') w'→wpListIn (FW r) 0 P ops Q l2 a' w')→wpListIn (FW r) 0 P ops Q (l++l2) a w
def exL:Option (St×List Prop)→Option (Exit×St×List Prop)
 | some (s,q)=>some (.normal,s,q)
 | none=>none
theorem qiV {P:Program} {lo fr:Nat} {ops:Array Oper} {l:List Oper} {n nb0 nb1:Nat} {tm0 tm1:List (Nat×SV)} {hp0 hp1:List (Nat×Nat×SV)} (ρ:List (Nat×Nat)) (k:Nat) (ch:List Ch) (hlo:lo≤nb1) (hf:qjg l.toArray=true)
 (h:qcy ρ lo fr n nb1 .normal tm1 hp1 (exL (qmh P (qhR P (qcg P k)) lo ops l (qaT n nb0 tm0 hp0 ch)))):qEg P lo fr ops l n nb0 tm0 hp0 nb1 tm1 hp1:=by
 intro r W0 β a w Q l2 R hQ
 cases he:qmh P (qhR P (qcg P k)) lo ops l (qaT n nb0 tm0 hp0 ch) with
 | none=>rw[he] at h;unfold qcy at h;exact h.elim
 | some z=>
  obtain⟨s,q⟩:=z
  rw[he] at h
  unfold qcy at h
  obtain⟨_,h1,h2,h3,h4⟩:=h
  simp only[Bool.and_eq_true] at h1
  have R0:Rel W0 lo β (qaT n nb0 tm0 hp0 ch) (clr a) w:=⟨R.t,R.h,R.dom,R.lo⟩
  refine qn1 (qdZ (qdA k)) (fun o ho=>qeG hf (by simpa using ho)) he h4 R0 fun β' a' w' hle hd R'=>?_
  exact hQ _ a' w' (Bl.leU_trans (hle.u _) (Bl.ren_leU (qcx h1.1))) hd (R'.ren [] (Nat.eq_of_beq_eq_true h1.2) hlo h1.1 h2 h3)
end Go.Proofs.YtkckcgpmnipnaaaGreat
