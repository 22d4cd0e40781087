/-
  A range over a function, one: code that is worked out runs so in a round too, and where calls are deferred. Conditions: none.
-/
import Derived.Test.YtleaeldgaflmkaaGreatSxJ
import Derived.RangeFuncIn
import Derived.RangeFuncRecord
import Derived.RangeFuncSeq
import Derived.TacticsIn
import Derived.OrdersIn
import Derived.LoopNIn
namespace Go.Proofs.YtleaeldgaflmkaaGreat
set_option maxRecDepth 100000
open Go.RowKit
def FW (r:Option Nat):Fence:={ Fence.wide with round:=r }
theorem qyi:FW none=Fence.wide:=rfl
theorem qzr (l:Nat):FW (some l)=Fence.wide.inRound l:=rfl
def clr (a:Act):Act:={ a with defers:=[] }
theorem qgY (a:Act) (d:Option Tmp) (v:Value):clr (a.put d v)=(clr a).put d v:=by cases d<;>rfl
theorem qcE (a:Act) (d:Option Tmp) (v:Value):(a.put d v).defers=a.defers:=by cases d<;>rfl
theorem qxB {a:Act} (h:a.defers=[]):clr a=a:=by cases a;simp only at h;subst h;rfl
def qii (ops:Array Oper):Bool:=ops.toList.all fun o=>match o.op with
 | .defer _=>false
 | _=>true
theorem qem {ops:Array Oper} (h:qii ops=true) {o:Oper} (ho:o∈ops.toList):∀ c,o.op≠.defer c:=fun c e=>by
 have:=List.all_eq_true.1 h o ho
 rw[e] at this
 cases this
def QD (K:Act→World→Prop):Exit→Act→World→Prop:=fun e a w=>e=.normal∧a.defers=[]∧K a w
theorem qcv {r:Option Nat} {n:Nat} {P:Program} {f:FuncId} {args:Array Value} {w:World} {R:Ending→World→Prop}:CallsIn (FW r) n P f args w R↔Calls P f args w R:=callsIn_wide (n:=n)
theorem qkw {r:Option Nat} {n:Nat} {P:Program} {row:String} {args:Array Value} {w:World} {R:Value→World→Prop} (h:Rows P row args w R):RowsIn (FW r) n P row args w R:=
 fun c cs _=>let ⟨v,w',hr,s⟩:=h c cs;⟨v,w',hr,(stepsIn_wide (P:=P)).2 s⟩
theorem qig {r r':Option Nat} {n m:Nat} {P:Program} {l:Nat} {f:FuncId} {tmps:Array Value} {assign body:Code} {w:World} {R:Ending→World→Prop} (h:RoundIn (FW r) n P l f tmps assign body w R):RoundIn (FW r') m P l f tmps assign body w R:=
 ⟨trivial,fun c cs _=>h.2 c cs (fun _ e=>by cases e)⟩
theorem qkR {P:Program} {f:FuncId} {args:Array Value} {w:World} {R:Ending→World→Prop} (h:Calls P f args w R):∃ e w',R e w':=let ⟨e,w',_,r,_⟩:=h [];⟨e,w',r⟩
theorem qoy {P:Program} {row:String} {args:Array Value} {w:World} {R:Value→World→Prop} (h:Rows P row args w R):∃ e w',R e w':=let ⟨e,w',r,_⟩:=h default [];⟨e,w',r⟩
section
variable {P:Program} {ops:Array Oper} {K:Act→World→Prop} {r:Option Nat} {n:Nat}
theorem qe1 {o:Oper} {a:Act} {next:Act→World→Prop} {K:Act→World→Prop} (hn:∀ a w,next a w→a.defers=[]) {res:Result Next} (h:o.upon P a next (QD K) res):a.defers=[]:=by
 have hp:∀ (a:Act) d v w,next (a.put d v) w→a.defers=[]:=fun a d v w k=>by have:=hn _ _ k;rwa [qcE] at this
 cases res with
 | ok x w'=>
  cases x<;>simp only[Oper.upon] at h
  case value v=>exact hp _ _ _ _ h
  case skip=>exact hp _ _ _ _ h
  case defer d=>have:=hp _ _ _ _ h;cases this
  case enter f args=>
   obtain⟨e,w2,k⟩:=qkR h
   cases e with
   | returned v=>exact hp _ _ _ _ k
   | panicked c=>exact absurd k.1 (by simp)
   | outgrown=>obtain⟨a',w',k,_⟩:=k;cases k
  case row row args=>
   obtain⟨v,w2,k⟩:=qoy h
   exact hp _ _ _ _ k
 | halt x w'=>cases x<;>simp only[Oper.upon] at h;exact absurd h.1 (by simp)
theorem qmy {o:Oper} (hd:∀ c,o.op≠.defer c) {a:Act} {w:World} {next next':Act→World→Prop} {Q:Exit→Act→World→Prop} (hn:∀ a w,next a w→a.defers=[])
 (h:o.wp P (clr a) w next (QD K)) (hk:∀ a' w',a'.defers=a.defers→next (clr a') w'→next' a' w'):o.wpIn (FW r) n P a w next' Q:=by
 refine⟨fun _ _=>trivial,?_⟩
 rw[Oper.semAt_eq _ _ _ hd]
 have h':o.upon P (clr a) next (QD K) ((execOp a.eval o).run P w):=h
 generalize (execOp a.eval o).run P w=res at h'
 have hp:∀ d v w,next ((clr a).put d v) w→next' (a.put d v) w:=fun d v w k=>hk _ _ (qcE _ _ _) (by rw[qgY];exact k)
 cases res with
 | ok x w'=>
  cases x<;>simp only[Oper.upon] at h'
  case value v=>exact hp _ _ _ h'
  case skip=>exact hp _ _ _ h'
  case defer d=>
   have:=hn _ _ h'
   rw[qcE] at this
   cases this
  case enter f args=>
   refine⟨fun e=>(by cases e),qcv.2 (h'.mono fun e w2 k=>?_)⟩
   cases e with
   | returned v=>exact hp _ _ _ k
   | panicked c=>exact absurd k.1 (by simp)
   | outgrown=>obtain⟨a',w',k,_⟩:=k;cases k
  case row row args=>
   exact⟨fun e=>(by cases e),qkw (h'.mono fun v w2 k=>hp _ _ _ k)⟩
 | halt x w'=>cases x<;>simp only[Oper.upon] at h';exact absurd h'.1 (by simp)
theorem qdf:∀ {l:List Oper} {a:Act} {w:World},wpList P ops (QD K) l a w→a.defers=[]
 | [],_,_,h=>h.2.1
 | o::l,a,w,h=>by
  simp only[wpList] at h
  split at h
  ·rcases h with h | ⟨_,a',w',k,_⟩
   ·exact qe1 (fun a w k=>qdf k) h
   ·cases k
  ·have:=qdf h;rwa [qcE] at this
theorem qiq {Q:Exit→Act→World→Prop} {l2:List Oper}:∀ {l:List Oper} {a:Act} {w:World},(∀ o∈l,∀ c,o.op≠.defer c)→wpList P ops (QD K) l (clr a) w→(∀ a' w',a'.defers=a.defers→K (clr a') w'→wpListIn (FW r) n P ops Q l2 a' w')→wpListIn (FW r) n P ops Q (l++l2) a w
 | [],a,w,_,h,hk=>hk a w rfl h.2.2
 | o::l,a,w,hd,h,hk=>by
  rw[List.cons_append]
  simp only[wpList] at h
  simp only[wpListIn]
  have ey:yielded ops (clr a).tmps=yielded ops a.tmps:=rfl
  rw[ey] at h
  split
  ·rename_i hw
   rw[if_pos hw] at h
   rcases h with h | ⟨_,a',w',k,_⟩
   ·exact qmy (hd o (by simp)) (fun a w k=>qdf k) h fun a' w' e k=>qiq (fun o ho=>hd o (by simp[ho])) k fun a2 w2 e2 k2=>hk a2 w2 (e2.trans e) k2
   ·cases k
  ·rename_i hw
   rw[if_neg hw,← qgY] at h
   exact⟨fun _ _=>trivial,qiq (fun o ho=>hd o (by simp[ho])) h fun a2 w2 e2 k2=>hk a2 w2 (e2.trans (qcE _ _ _)) k2⟩
theorem qcT:∀ {fuel:Nat} {listed:Array Bool} {a:Act} {w:World},wpAny P .any ops (QD K) fuel listed a w→a.defers=[]
 | 0,_,_,_,h=>h.2.2.1
 | fuel+1,listed,a,w,h=>by
  cases hr:Region.ready .any ops listed with
  | nil=>exact (h.1 hr).2.1
  | cons i rs=>
   have k:=h.2 i (by rw[hr];simp)
   unfold wpOp at k
   split at k
   ·exact qcT k
   ·split at k
    ·rcases k with k | ⟨_,a',w',k,_⟩
     ·exact qe1 (fun a w k=>qcT k) k
     ·cases k
    ·have:=qcT k;rwa [qcE] at this
theorem qj6 {Q:Exit→Act→World→Prop} (hd:∀ o∈ops.toList,∀ c,o.op≠.defer c):∀ {fuel:Nat} {listed:Array Bool} {a:Act} {w:World},wpAny P .any ops (QD K) fuel listed (clr a) w→(∀ a' w',a'.defers=a.defers→K (clr a') w'→Q .normal a' w')→wpAnyIn (FW r) n P .any ops Q fuel listed a w
 | 0,_,a,w,h,hk=>⟨h.1,hk a w rfl h.2.2.2⟩
 | fuel+1,listed,a,w,h,hk=>by
  refine⟨fun hr=>hk a w rfl (h.1 hr).2.2,fun i hi=>?_⟩
  have k:=h.2 i hi
  unfold wpOp at k
  unfold wpOpIn
  split
  ·rename_i ho;rw[ho] at k;exact qj6 hd k hk
  ·rename_i o ho
   rw[ho] at k
   simp only at k
   have ey:yielded ops (clr a).tmps=yielded ops a.tmps:=rfl
   rw[ey] at k
   have hm:o∈ops.toList:=by simpa using Array.mem_of_getElem? ho
   split
   ·rename_i hw
    rw[if_pos hw] at k
    rcases k with k | ⟨_,a',w',k,_⟩
    ·exact qmy (hd o hm) (fun a w k=>qcT k) k fun a' w' e k=>qj6 hd k fun a2 w2 e2 k2=>hk a2 w2 (e2.trans e) k2
    ·cases k
   ·rename_i hw
    rw[if_neg hw,← qgY] at k
    exact⟨fun _ _=>trivial,qj6 hd k fun a2 w2 e2 k2=>hk a2 w2 (e2.trans (qcE _ _ _)) k2⟩
end
def qoE:Nat→Code→Bool
 | 0,_=>false
 | n+1,c=>match c with
  | .skip=>true
  | .label _=>true
  | .region _ ops _=>qii ops
  | .seq x y=>qoE n x&&qoE n y
  | .cond _ x y=>qoE n x&&qoE n y
  | .block _ x=>qoE n x
  | .exit _=>true
  | .ret=>true
  | _=>false
theorem qlY {P:Program} {call:qa3} (hcall:qbD P call) {W0:Base} {lo:Nat} {ops:Array Oper} {Q:Exit→Act→World→Prop} {r:Option Nat} {n:Nat} {l l2:List Oper} {st st':St} {q:List Prop} {β:Bl} {a:Act} {w:World}
 (hd:∀ o∈l,∀ c,o.op≠.defer c) (h:qlp P call lo ops l st=some (st',q)) (hq:qaI q) (R:Rel W0 lo β st (clr a) w)
 (hQ:∀ β' a' w',β.le β'→a'.defers=a.defers→Rel W0 lo β' st' (clr a') w'→wpListIn (FW r) n P ops Q l2 a' w'):wpListIn (FW r) n P ops Q (l++l2) a w:=
 qiq hd (qc8 hcall h hq R (Q:=QD fun a' w'=>∃ β',β.le β'∧Rel W0 lo β' st' a' w') fun β' _ _ hle R'=>⟨rfl,R'.t.defers,β',hle,R'⟩) fun a' w' e ⟨β',hle,R'⟩=>hQ β' a' w' hle e R'
theorem qoh {P:Program} {call:qa3} (hcall:qbD P call) {W0:Base} {lo:Nat} {ops:Array Oper} {Q:Exit→Act→World→Prop} {st st':St} {q:List Prop} {β:Bl} {a:Act} {w:World}
 (h:qnj P call lo ops st=some (st',q)) (hq:qaI q) (R:Rel W0 lo β st a w) (hQ:∀ β' a' w',β.le β'→Rel W0 lo β' st' a' w'→Q .normal a' w'):P.follows .mixedOrders=true∧wpAny P .any ops Q ops.size (Array.replicate ops.size false) a w.drew:=by
 unfold qnj at h
 split at h
 ·rename_i π ch _
  cases hb:(qmX π ops.size&&P.follows .mixedOrders)
  ·rw[hb] at h;cases h
  ·rw[hb,cond_true] at h
   rw[Bool.and_eq_true] at hb
   have hp:=qjm hb.1
   obtain⟨hm,k⟩:=qdu hcall h hq (st:={ st with ch:=ch }) ⟨⟨R.t.size,R.t.defers,R.t.tmps⟩,R.h,R.dom,R.lo⟩ hQ
   rw[qbR hp] at k
   refine⟨hm,qf8 hp _ _ _ a _ ?_ k⟩
   have:=qge hp
   rw[qbR hp] at this
   exact this
 ·rename_i ch _
  cases hb:(P.follows .mixedOrders&&Region.noSelect ops)
  ·rw[hb] at h;cases h
  ·rw[hb,cond_true] at h
   rw[Bool.and_eq_true] at hb
   have R1:Rel W0 lo β { st with ch:=ch } a w.drew:=⟨R.t,R.h.gr_mono (Gr.refl w).drew,R.dom,R.lo⟩
   exact⟨hb.1,qhN hcall hb.2 ops.size _ h hq R1 hQ⟩
 ·rename_i L ch _
  cases hb:(P.follows .mixedOrders&&Region.noSelect ops)
  ·rw[hb] at h;cases h
  ·rw[hb,cond_true] at h
   split at h
   ·rename_i hpL hL
    rw[Bool.and_eq_true] at hb
    have R1:Rel W0 lo β { st with ch:=ch } a w.drew:=⟨R.t,R.h.gr_mono (Gr.refl w).drew,R.dom,R.lo⟩
    exact⟨hb.1,qhv hcall hb.2 ops.size _ (st:={ st with ch:=ch }) hL h hq R1 hQ⟩
   ·cases h
 ·rename_i ch _
  cases hb:P.follows .mixedOrders
  ·rw[hb] at h;cases h
  ·rw[hb,cond_true] at h
   have R1:Rel W0 lo β { st with ch:=ch } a w.drew:=⟨R.t,R.h.gr_mono (Gr.refl w).drew,R.dom,R.lo⟩
   exact⟨rfl,qq1 hcall (st:={ st with ch:=ch }) h hq R1 hQ⟩
 ·exact qdu hcall h hq R hQ
theorem qsA {P:Program} {r:Option Nat}:∀ (n m:Nat) {lo fr:Nat} {c:Code} {st st':St} {e:Exit} {q:List Prop},qb3 P n lo fr c st=some (e,st',q)→qoE m c=true→qaI q→
 ∀ {W0:Base} {β:Bl} {a:Act} {w:World} {Q:Exit→Act→World→Prop},Rel W0 lo β st (clr a) w→(∀ β' a' w',β.leU fr β'→a'.defers=a.defers→Rel W0 lo β' st' (clr a') w'→Q e a' w')→c.wpIn (FW r) 0 P Q a w:=by
 intro n
 induction n with
 | zero=>intro m lo fr c st st' e q h;simp[qb3] at h
 | succ n ih=>
  intro m lo fr c st st' e q h hf hq W0 β a w Q R hQ
  cases m with
  | zero=>cases hf
  | succ m=>
  cases c with
  | skip=>
   simp only[qb3,Option.some.injEq,Prod.mk.injEq] at h
   obtain⟨rfl,rfl,rfl⟩:=h
   exact wpIn_skip (hQ β a w ((Bl.le_refl _).u _) rfl R)
  | label l=>
   simp only[qb3,Option.some.injEq,Prod.mk.injEq] at h
   obtain⟨rfl,rfl,rfl⟩:=h
   exact wpIn_label (hQ β a w ((Bl.le_refl _).u _) rfl R)
  | region id ops draw=>
   simp only[qb3] at h
   have hnd:∀ o∈ops.toList,∀ c,o.op≠.defer c:=fun o ho=>qem hf ho
   split at h
   ·split at h
    ·rename_i s hs
     have R1:∀ ch,Rel W0 lo β { st with ch:=ch } (clr a) w:=fun _=>⟨R.t,R.h,R.dom,R.lo⟩
     obtain⟨β1,hle1,R2⟩:=qiG hs (R1 _)
     exact ih (m+1) h hf hq R2 fun β' a' w' hle he R'=>hQ β' a' w' (Bl.leU_trans (hle1.u _) hle) he R'
    ·cases h
   ·split at h
    ·rename_i s q1 hs
     split at h
     ·rename_i e2 s2 q2 h2
      simp only[Option.some.injEq,Prod.mk.injEq] at h
      obtain⟨rfl,rfl,rfl⟩:=h
      obtain⟨a1,a2⟩:=qai hq
      have R1:∀ ch,Rel W0 lo β { st with ch:=ch } (clr a) w:=fun _=>⟨R.t,R.h,R.dom,R.lo⟩
      obtain⟨β1,hle1,R2⟩:=qjA hs a1 (R1 _)
      exact ih (m+1) h2 hf a2 R2 fun β' a' w' hle he R'=>hQ β' a' w' (Bl.leU_trans (hle1.u _) hle) he R'
     ·cases h
    ·cases h
   ·split at h
    ·rename_i s q1 hs
     split at h
     ·rename_i e2 s2 q2 h2
      simp only[Option.some.injEq,Prod.mk.injEq] at h
      obtain⟨rfl,rfl,rfl⟩:=h
      obtain⟨a1,a2⟩:=qai hq
      have R1:∀ ch,Rel W0 lo β { st with ch:=ch } (clr a) w:=fun _=>⟨R.t,R.h,R.dom,R.lo⟩
      obtain⟨β1,hle1,R2⟩:=qfW hs a1 (R1 _)
      exact ih (m+1) h2 hf a2 R2 fun β' a' w' hle he R'=>hQ β' a' w' (Bl.leU_trans (hle1.u _) hle) he R'
     ·cases h
    ·cases h
   cases draw
   ·simp only[cond_false] at h
    split at h
    ·rename_i s q' hs
     simp only[Option.some.injEq,Prod.mk.injEq] at h
     obtain⟨rfl,rfl,rfl⟩:=h
     refine wpIn_region_list ?_
     rw[← List.append_nil ops.toList]
     exact qlY (qdl (qcK n)) hnd hs hq R fun β' a' w' hle he R'=>hQ β' a' w' (hle.u _) he R'
    ·cases h
   ·simp only[cond_true] at h
    split at h
    ·rename_i s q' hs
     simp only[Option.some.injEq,Prod.mk.injEq] at h
     obtain⟨rfl,rfl,rfl⟩:=h
     obtain⟨hm,k⟩:=qoh (qdl (qcK n)) hs hq R (Q:=QD fun a' w'=>∃ β',β.le β'∧Rel W0 lo β' s a' w') fun β' a' w' hle R'=>⟨rfl,R'.t.defers,β',hle,R'⟩
     exact wpIn_region_any hm (qj6 hnd k fun a' w' he ⟨β',hle,R'⟩=>hQ β' a' w' (hle.u _) he R')
    ·cases h
  | seq x y=>
   simp only[qoE,Bool.and_eq_true] at hf
   simp only[qb3] at h
   split at h
   ·rename_i s q1 h1
    split at h
    ·rename_i e2 s2 q2 h2
     simp only[Option.some.injEq,Prod.mk.injEq] at h
     obtain⟨rfl,rfl,rfl⟩:=h
     obtain⟨a1,a2⟩:=qai hq
     refine wpIn_seq (ih m h1 hf.1 a1 R fun β' a' w' hle he R'=>?_)
     exact ih m h2 hf.2 a2 R' fun β'' a'' w'' hle' he' R''=>hQ β'' a'' w'' (Bl.leU_trans hle hle') (he'.trans he) R''
    ·cases h
   ·rename_i i s q1 h1
    simp only[Option.some.injEq,Prod.mk.injEq] at h
    obtain⟨rfl,rfl,rfl⟩:=h
    exact wpIn_seq (ih m h1 hf.1 hq (Q:=Exit.then (y.wpIn (FW r) 0 P Q) Q) R fun β' a' w' hle he R'=>hQ β' a' w' hle he R')
   ·rename_i s q1 h1
    simp only[Option.some.injEq,Prod.mk.injEq] at h
    obtain⟨rfl,rfl,rfl⟩:=h
    exact wpIn_seq (ih m h1 hf.1 hq (Q:=Exit.then (y.wpIn (FW r) 0 P Q) Q) R fun β' a' w' hle he R'=>hQ β' a' w' hle he R')
   ·cases h
  | cond c x y=>
   simp only[qoE,Bool.and_eq_true] at hf
   simp only[qb3] at h
   split at h
   ·rename_i b hb
    have k:=R.t.ev c
    rw[hb] at k
    have k':a.eval c=.bool b:=k
    cases b
    ·exact wpIn_cond_false k' (ih m h hf.2 hq R hQ)
    ·exact wpIn_cond_true k' (ih m h hf.1 hq R hQ)
   ·cases h
  | block id c=>
   simp only[qoE] at hf
   simp only[qb3] at h
   split at h
   ·rename_i s q1 h1
    simp only[Option.some.injEq,Prod.mk.injEq] at h
    obtain⟨rfl,rfl,rfl⟩:=h
    exact wpIn_block (ih m h1 hf hq (Q:=Exit.inBlock id Q) R fun β' a' w' hle he R'=>hQ β' a' w' hle he R')
   ·rename_i i s q1 h1
    cases hb:Nat.beq i id
    ·rw[hb,cond_false] at h
     simp only[Option.some.injEq,Prod.mk.injEq] at h
     obtain⟨rfl,rfl,rfl⟩:=h
     have hne:¬ i=id:=fun e=>by subst e;rw[Nat.beq_refl] at hb;cases hb
     refine wpIn_block (ih m h1 hf hq R fun β' a' w' hle he R'=>?_)
     show (if i=id then _ else _)
     rw[if_neg hne]
     exact hQ β' a' w' hle he R'
    ·rw[hb,cond_true] at h
     simp only[Option.some.injEq,Prod.mk.injEq] at h
     obtain⟨rfl,rfl,rfl⟩:=h
     have he':=Nat.eq_of_beq_eq_true hb
     refine wpIn_block (ih m h1 hf hq R fun β' a' w' hle he R'=>?_)
     show (if i=id then _ else _)
     rw[if_pos he']
     exact hQ β' a' w' hle he R'
   ·rename_i s q1 h1
    simp only[Option.some.injEq,Prod.mk.injEq] at h
    obtain⟨rfl,rfl,rfl⟩:=h
    exact wpIn_block (ih m h1 hf hq (Q:=Exit.inBlock id Q) R fun β' a' w' hle he R'=>hQ β' a' w' hle he R')
   ·cases h
  | exit id=>
   simp only[qb3,Option.some.injEq,Prod.mk.injEq] at h
   obtain⟨rfl,rfl,rfl⟩:=h
   exact wpIn_exit (hQ β a w ((Bl.le_refl _).u _) rfl R)
  | ret=>
   simp only[qb3,Option.some.injEq,Prod.mk.injEq] at h
   obtain⟨rfl,rfl,rfl⟩:=h
   exact wpIn_ret (hQ β a w ((Bl.le_refl _).u _) rfl R)
  | _=>cases hf
def sub:Code→List Nat→Code
 | c,[]=>c
 | .seq x _,0::r=>sub x r
 | .seq _ y,_::r=>sub y r
 | .cond _ x _,0::r=>sub x r
 | .cond _ _ y,_::r=>sub y r
 | .block _ x,_::r=>sub x r
 | .loop x,_::r=>sub x r
 | .rangeFunc _ _ x _,0::r=>sub x r
 | .rangeFunc _ _ _ y,_::r=>sub y r
 | c,_=>c
def qjo (P:Program) (f:FuncId) (p:List Nat):Code:=
 match P.funcs[f]? with
 | some fn=>match fn.body with
  | some c=>sub c p
  | none=>.skip
 | none=>.skip
def qlP (c:Code):Array Oper:=
 match c with
 | .region _ ops _=>ops
 | _=>#[]
def Seg (P:Program) (lo fr:Nat) (c:Code) (n nb0:Nat) (tm0:List (Nat×SV)) (hp0:List (Nat×Nat×SV)) (e:Exit) (nb1:Nat) (tm1:List (Nat×SV)) (hp1:List (Nat×Nat×SV)):Prop:=
 ∀ (r:Option Nat) (W0:Base) (β:Bl) (a:Act) (w:World) (Q:Exit→Act→World→Prop),Rel W0 lo β (qaC n nb0 tm0 hp0 []) (clr a) w→
  (∀ β' a' w',β.leU fr β'→a'.defers=a.defers→Rel W0 lo β' (qaC n nb1 tm1 hp1 []) (clr a') w'→Q e a' w')→c.wpIn (FW r) 0 P Q a w
theorem qaR {P:Program} {lo fr:Nat} {c:Code} {n nb0 nb1:Nat} {tm0 tm1:List (Nat×SV)} {hp0 hp1:List (Nat×Nat×SV)} {e:Exit} (ρ:List (Nat×Nat)) (k:Nat) (ch:List Ch) (hlo:lo≤nb1) (hf:qoE k c=true)
 (h:qcu ρ lo fr n nb1 e tm1 hp1 (qb3 P k lo fr c (qaC n nb0 tm0 hp0 ch))):Seg P lo fr c n nb0 tm0 hp0 e nb1 tm1 hp1:=by
 intro r W0 β a w Q R hQ
 cases he:qb3 P k lo fr c (qaC n nb0 tm0 hp0 ch) with
 | none=>rw[he] at h;unfold qcu at h;exact h.elim
 | some z=>
  obtain⟨e',s,q⟩:=z
  rw[he] at h
  unfold qcu at h
  obtain⟨rfl,h1,h2,h3,h4⟩:=h
  simp only[Bool.and_eq_true] at h1
  have R0:Rel W0 lo β (qaC n nb0 tm0 hp0 ch) (clr a) w:=⟨R.t,R.h,R.dom,R.lo⟩
  refine qsA k k he hf h4 R0 fun β' a' w' hle hd R'=>?_
  exact hQ _ a' w' (Bl.leU_trans hle (Bl.ren_leU (qb9 h1.1))) hd (R'.ren [] (Nat.eq_of_beq_eq_true h1.2) hlo h1.1 h2 h3)
def qnR (P:Program) (lo fr:Nat) (ops:Array Oper) (l:List Oper) (n nb0:Nat) (tm0:List (Nat×SV)) (hp0:List (Nat×Nat×SV)) (nb1:Nat) (tm1:List (Nat×SV)) (hp1:List (Nat×Nat×SV)):Prop:=
 ∀ (r:Option Nat) (W0:Base) (β:Bl) (a:Act) (w:World) (Q:Exit→Act→World→Prop) (l2:List Oper),Rel W0 lo β (qaC n nb0 tm0 hp0 []) (clr a) w→
  (∀ β' a' w',β.leU fr β'→a'.defers=a.defers→Rel W0 lo β' (qaC n nb1 tm1 hp1 []) (clr a') w'→wpListIn (FW r) 0 P ops Q l2 a' w')→wpListIn (FW r) 0 P ops Q (l++l2) a w
def exL:Option (St×List Prop)→Option (Exit×St×List Prop)
 | some (s,q)=>some (.normal,s,q)
 | none=>none
theorem qce {P:Program} {lo fr:Nat} {ops:Array Oper} {l:List Oper} {n nb0 nb1:Nat} {tm0 tm1:List (Nat×SV)} {hp0 hp1:List (Nat×Nat×SV)} (ρ:List (Nat×Nat)) (k:Nat) (ch:List Ch) (hlo:lo≤nb1) (hf:qii l.toArray=true)
 (h:qcu ρ lo fr n nb1 .normal tm1 hp1 (exL (qlp P (qeR P (qb3 P k)) lo ops l (qaC n nb0 tm0 hp0 ch)))):qnR P lo fr ops l n nb0 tm0 hp0 nb1 tm1 hp1:=by
 intro r W0 β a w Q l2 R hQ
 cases he:qlp P (qeR P (qb3 P k)) lo ops l (qaC n nb0 tm0 hp0 ch) with
 | none=>rw[he] at h;unfold qcu at h;exact h.elim
 | some z=>
  obtain⟨s,q⟩:=z
  rw[he] at h
  unfold qcu at h
  obtain⟨_,h1,h2,h3,h4⟩:=h
  simp only[Bool.and_eq_true] at h1
  have R0:Rel W0 lo β (qaC n nb0 tm0 hp0 ch) (clr a) w:=⟨R.t,R.h,R.dom,R.lo⟩
  refine qlY (qdl (qcK k)) (fun o ho=>qem hf (by simpa using ho)) he h4 R0 fun β' a' w' hle hd R'=>?_
  exact hQ _ a' w' (Bl.leU_trans (hle.u _) (Bl.ren_leU (qb9 h1.1))) hd (R'.ren [] (Nat.eq_of_beq_eq_true h1.2) hlo h1.1 h2 h3)
end Go.Proofs.YtleaeldgaflmkaaGreat
