/-
  A range over a function, two: what an iterator value gives; the statement; calls of yield. Conditions: none.
-/
import Derived.Test.YtkckcgpmnipnaaaGreatSxR
import Derived.RangeFuncLeaves
namespace Go.Proofs.YtkckcgpmnipnaaaGreat
set_option maxRecDepth 100000
open Go.RowKit
structure Keep (S:Nat→Prop) (w w':World):Prop where
 os:w'.os=w.os
 tape:w'.tape=w.tape
 output:w'.output=w.output
 size:w.heap.size≤w'.heap.size
 drawn:w.drawn≤w'.drawn
 block:∀ k,k<w.heap.size→S k→w'.heap[k]?=w.heap[k]?
theorem Keep.refl (S:Nat→Prop) (w:World):Keep S w w:=⟨rfl,rfl,rfl,Nat.le_refl _,Nat.le_refl _,fun _ _ _=>rfl⟩
theorem Keep.trans {S:Nat→Prop} {a b c:World} (h:Keep S a b) (k:Keep S b c):Keep S a c:=
 ⟨k.os.trans h.os,k.tape.trans h.tape,k.output.trans h.output,Nat.le_trans h.size k.size,Nat.le_trans h.drawn k.drawn,fun i hi hs=>(k.block i (Nat.lt_of_lt_of_le hi h.size) hs).trans (h.block i hi hs)⟩
theorem Keep.mono {S T:Nat→Prop} {a b:World} (h:Keep S a b) (k:∀ i,i<a.heap.size→T i→S i):Keep T a b:=⟨h.os,h.tape,h.output,h.size,h.drawn,fun i hi ht=>h.block i hi (k i hi ht)⟩
theorem Keep.of_gr {a b:World} (h:Gr a b) (S:Nat→Prop):Keep S a b:=⟨h.1.os,h.1.tape,h.1.output,h.1.size,h.2.2,fun i hi _=>h.1.block i hi⟩
theorem Keep.gr {W a b:World} (h:Gr W a) (k:Keep (· < W.heap.size) a b):Gr W b:=
 ⟨⟨k.os.trans h.1.os,k.tape.trans h.1.tape,k.output.trans h.1.output,Nat.le_trans h.size k.size,fun i hi=>(k.block i (Nat.lt_of_lt_of_le hi h.size) hi).trans (h.1.block i hi)⟩,
  fun x hx=>(World.frozen?_of_block (k.block x.block (Nat.lt_of_lt_of_le hx h.size) hx)).trans (h.2.1 x hx),Nat.le_trans h.2.2 k.drawn⟩
theorem Keep.alloc (S:Nat→Prop) (w:World) (o:Obj):Keep S w (w.alloc o):=⟨rfl,rfl,rfl,by simp,Nat.le_refl _,fun k hk _=>Below.heap_alloc w o k hk⟩
theorem Keep.putObj (w:World) (l:Nat) (o:Obj):Keep (·≠l) w (w.putObj l o):=⟨rfl,rfl,rfl,by simp,Nat.le_refl _,fun _ _ h=>World.putObj_heap_other h⟩
theorem Keep.at {S:Nat→Prop} {a b:World} (h:Keep S a b) {l:Nat} {o:Obj} (hl:a.heap[l]?=some o) (hs:S l):b.heap[l]?=some o:=(h.block l (Array.getElem?_eq_some_iff.1 hl).1 hs).trans hl
section
variable {W0:World} {lo:Nat} {β:Bl} {w w':World} {hp hp':List (Nat×Nat×SV)} {S:Nat→Prop}
theorem Bl.cut_at {β:Bl} {l b:Nat} (h:b<l):qfJ (fun b=>b) β (β.cut l) b:=⟨fun r e=>by unfold Bl.cut;simp only;rw[if_pos h];exact e,fun u e=>by unfold Bl.cut;simp only;rw[if_pos h];exact e⟩
theorem S0.ren_id (s:S0):s.ren (fun b=>b)=s:=by cases s<;>rfl
theorem S0.map_id (l:List S0):l.map (S0.ren fun b=>b)=l:=by induction l with
 | nil=>rfl
 | cons a r ih=>rw[List.map_cons,ih,S0.ren_id]
theorem S1.ren_id (s:S1):s.ren (fun b=>b)=s:=by
 cases s with
 | one s=>show S1.one _=_;rw[S0.ren_id]
 | ag l=>show S1.ag _=_;rw[S0.map_id]
theorem SV.ren_id (s:SV):s.ren (fun b=>b)=s:=by
 cases s with
 | pc g cap=>show SV.pc g _=_;rw[S0.map_id]
 | ag l=>show SV.ag _=_;rw[S0.map_id]
 | tu l=>
  show SV.tu _=_
  congr 1
  induction l with
  | nil=>rfl
  | cons a r ih=>rw[List.map_cons,ih,S1.ren_id]
 | _=>rfl
theorem SV.cut_is {β:Bl} {l:Nat} {s:SV} {x:Value} (h:∀ b∈s.nm,b<l) (k:s.is β x):s.is (β.cut l) x:=SV.ren_is (f:=fun b=>b) (fun b hb=>Bl.cut_at (h b hb)) (by rw[SV.ren_id];exact k)
theorem HRel.later (H:HRel W0 lo β hp w) (K:Keep S w w') {l:Nat} (hb:∀ b r,b<l→β b=some r→S r) (hr:∀ b o e es n xs u,qaf hp' b o=some (.row e es n xs)→xs≠[]→β.g b=some u→∀ k,u.ownBlock=some k→S k)
 (hs:∀ b o s,qaf hp' b o=some s→qaf hp b o=some s∧b<l∧∀ c∈s.nm,c<l):HRel w' l (β.cut l) hp' w':=by
 refine⟨Gr.refl _,fun b r e=>?_,fun b c r e1 e2=>?_,fun b r hl e=>?_,fun b r e=>?_,fun b o sv e hsv=>?_,fun b o e es n xs hc=>?_,fun b o e es n xs c o' e' es' n' xs' u v h1 h2 h3 h4 h5 h6 h7=>?_,fun b o xs hc=>?_⟩
 ·exact Nat.lt_of_lt_of_le (H.live b r (Bl.cut_f e).2) K.size
 ·exact H.inj b c r (Bl.cut_f e1).2 (Bl.cut_f e2).2
 ·have:=(Bl.cut_f e).1;omega
 ·have:=H.sep b r (Bl.cut_f e).2
  unfold Bl.cut
  simp only
  split
  ·exact this
  ·rfl
 ·obtain⟨h1,h2,h3⟩:=hs b o sv e
  obtain⟨r,u,a1,a2,a3,a4,a5⟩:=H.cells b o sv h1 hsv
  have hk:=K.block r (H.live b r a1) (hb b r h2 a1)
  exact⟨r,u,(Bl.cut_at h2).1 r a1,SV.cut_is h3 a2,a3,(World.cell?_of_block (a:=⟨r,o,none⟩) hk).trans a4,(World.frozen?_of_block (a:=⟨r,o,none⟩) hk).trans a5⟩
 ·obtain⟨h1,h2,_⟩:=hs b o _ hc
  obtain⟨u,a1,a2⟩:=H.rows _ _ _ _ _ _ h1
  have hrd:Rd w' es u n xs:=a2.rd.keep fun hx k hk o=>World.cell?_of_block (a:=⟨k,o,none⟩) (K.block k (a2.rd.lt hx k hk) (hr _ _ _ _ _ _ _ hc hx a1 k hk))
  exact⟨u,(Bl.cut_at h2).2 u a1,hrd,a2.one,fun _ hx k hk=>hrd.lt hx k hk,fun h=>by omega,fun h=>by omega⟩
 ·have:=(Bl.cut_g h6).1;omega
 ·obtain⟨h1,h2,_⟩:=hs b o _ hc
  obtain⟨r,a1,a2⟩:=H.maps _ _ _ h1
  exact⟨r,(Bl.cut_at h2).1 r a1,a2.keep (K.block r (H.live b r a1) (hb b r h2 a1))⟩
theorem qjF {l:Nat} {tm:List (Nat×SV)} {hp':List (Nat×Nat×SV)} (hn:((qaY tm hp').all fun b=>Nat.ble (b+1) l)=true) {b o:Nat} {s:SV} (h:qaf hp' b o=some s):b<l∧∀ c∈s.nm,c<l:=by
 have hm:=qaJ h
 have key:∀ c∈qaY tm hp',c<l:=fun c hc=>Nat.le_of_ble_eq_true (List.all_eq_true.1 hn c hc)
 exact⟨key b (List.mem_append_left _ (List.mem_flatMap.2 ⟨_,hm,by simp⟩)),fun c hc=>key c (List.mem_append_left _ (List.mem_flatMap.2 ⟨_,hm,by simp[hc]⟩))⟩
theorem Rel.laterP {n nb:Nat} {tm tm':List (Nat×SV)} {a:Act} (R:Rel W0 lo β (qaT n nb tm hp []) a w) (K:Keep S w w') {l:Nat} (hn:((qaY tm' hp').all fun b=>Nat.ble (b+1) l)=true)
 (ht:qaU (eqT (fun b=>b) (qaT n nb tm hp []) tm')) (hh:qaU (eqH (fun b=>b) (qaT n nb tm hp []) hp'))
 (hb:∀ b r,b<l→β b=some r→S r) (hr:∀ b o e es n xs u,qaf hp' b o=some (.row e es n xs)→xs≠[]→β.g b=some u→∀ k,u.ownBlock=some k→S k):Rel w' l (β.cut l) (qaT n l tm' hp' []) a w':=by
 have key:∀ c∈qaY tm' hp',c<l:=fun c hc=>Nat.le_of_ble_eq_true (List.all_eq_true.1 hn c hc)
 refine⟨⟨R.t.size,R.t.defers,fun d=>?_⟩,R.h.later K hb hr (fun b o s e=>?_),Bl.cut_dom β l,Nat.le_refl _⟩
 ·show (qaH (tm'++qiI n) d).is _ _
  have h4:=R.t.tmps d
  rcases qdc (n:=n) (tm:=tm') d with ⟨e,he,h1,h2⟩ | h1
  ·rw[h2]
   have h3:=qcf ht e he
   rw[SV.ren_id] at h3
   rw[← h1,h3] at h4
   rw[← h1]
   exact SV.cut_is (fun b hb=>key b (List.mem_append_right _ (List.mem_flatMap.2 ⟨e,he,hb⟩))) h4
  ·rw[h1,qcY]
   split
   ·exact trivial
   ·rename_i hd
    have hsz:a.tmps.size=n:=R.t.size
    show a.tmps.getD d undef=undef
    rw[Array.getD_eq_getD_getElem?,Array.getElem?_eq_none (by omega)];rfl
 ·have hm:=qaJ e
  have h3:=qcf hh _ hm
  rw[SV.ren_id] at h3
  exact⟨h3,qjF hn e⟩
end
def Gro (T:Nat→Prop) (w:World) (T':Nat→Prop) (w':World):Prop:=∀ b,T' b→b<w'.heap.size∧(T b∨w.heap.size≤b)
theorem Gro.on {T T':Nat→Prop} {w w' v v':World} (h:Gro T w T' w') (h1:v.heap.size≤w.heap.size) (h2:w'.heap.size≤v'.heap.size):Gro T v T' v':=fun b hb=>⟨Nat.lt_of_lt_of_le (h b hb).1 h2,(h b hb).2.imp id (Nat.le_trans h1)⟩
def SeqC (P:Program) (g:FuncId) (lb:Array Value) (L:List (Array Value)) (B:Nat→Prop) (W0:World):Prop:=
 ∀ (l:Nat) (M:Nat→Prop) (J:Nat→(Nat→Prop)→World→Prop) (W:World),Keep B W0 W→(∀ b,M b→b<W.heap.size∧¬ B b)→
  (∀ k T w w',J k T w→Keep (fun b=>b<W.heap.size∨T b) w w'→J k T w')→
  (∀ k x w T,L[k]?=some x→W.heap.size≤w.heap.size→(∀ b,T b→b<w.heap.size)→(∀ b,T b→b<W.heap.size→M b)→J k T w→YieldAt (FW none) 0 P l x w fun e w'=>e=.returned (.bool true)∧∃ T',J (k+1) T' w'∧Keep (fun b=>¬ T b) w w'∧Gro T w T' w')→
  J 0 M W→Calls P g (#[.func (.yield l) #[] #[]]++lb) W fun e w'=>(∃ v,e=.returned v)∧(∃ T',J L.length T' w'∧Gro M W T' w')∧Keep (fun b=>b<W.heap.size∧¬ M b) W w'
theorem SeqC.later {P:Program} {g:FuncId} {lb:Array Value} {L:List (Array Value)} {B:Nat→Prop} {W0 W1:World} (h:SeqC P g lb L B W0) (k:Keep B W0 W1):SeqC P g lb L B W1:=
 fun l M J W hK hM hJ hY h0=>h l M J W (k.trans hK) hM hJ hY h0
theorem qrW {P:Program} {r:Option Nat} {l:Nat} {o:Oper} {c:Call} {f:Operand} {a:Act} {w:World} {xs:Array Value} {R:Ending→World→Prop} {next:Act→World→Prop} {Q:Exit→Act→World→Prop}
 (ho:o.op=.call c) (hc:c.callee=.value f) (hf:a.eval f=.func (.yield l) #[] #[]) (hx:c.args.map a.eval=xs) (hy:YieldAt (FW none) 0 P l xs w R)
 (hk:∀ e w',R e w'→∃ v,e=.returned v∧next (a.put o.dst v) w'):o.wpIn (FW r) 0 P a w next Q:=by
 obtain⟨fn,tmps,assign,body,hrun,hR⟩:=hy
 refine⟨fun _ _=>trivial,?_⟩
 rw[Oper.semAt_eq _ _ _ (by simp[ho])]
 have he:(execOp a.eval o).run P w=.ok (.round l fn tmps assign body) w:=by
  simp only[execOp,ho,resolve,hc,hf,hx]
  simp only[Deferred.ofValue,Sem.run_bind,Sem.run_pure,Result.andThen_ok,invoke,Array.empty_append]
  exact hrun
 rw[he,Oper.uponIn_round]
 refine⟨fun e=>(by cases e),(qjH hR).mono fun e w' h=>?_⟩
 obtain⟨v,rfl,h2⟩:=hk e w' h
 exact h2
theorem qoP {P:Program} {g:Operand} {ps:Array Tmp} {assign body:Code} {Q:Exit→Act→World→Prop} {a:Act} {w:World} {gf:FuncId} {lb:Array Value} {L:List (Array Value)} {B:Nat→Prop}
 (hg:a.eval g=.func (.func gf) #[] lb) (eg:qdR P gf=true) (hseq:SeqC P gf lb L B w) (M:Nat→Prop) (hM:∀ b,M b→b<w.heap.size∧¬ B b) (hB:∀ b,B b→b<w.heap.size) (hps:∀ x∈L,x.size=ps.size)
 (I:Nat→(Nat→Prop)→World→Prop) (hI:∀ k T w1 w2,I k T w1→Keep (fun b=>b<w.heap.size∨T b) w1 w2→I k T w2) (h0:I 0 M w)
 (hround:∀ l k x W T,l=w.heap.size+1→L[k]?=some x→w.heap.size+2≤W.heap.size→(∀ b,T b→b<W.heap.size∧b≠w.heap.size∧b≠w.heap.size+1)→(∀ b,T b→b<w.heap.size→M b)→I k T W→
  assign.wpIn (FW (some l)) 0 P (Exit.then (fun a1 W1=>Keep (fun _=>True) W W1∧∀ W2,Keep (·≠l) W1 W2→W2.heap.size=W1.heap.size→body.wpIn (FW (some l)) 0 P (fun e _ W3=>e=.normal∧∃ T',I (k+1) T' W3∧Keep (fun b=>¬ T b) W2 W3∧Gro T W2 T' W3) a1 W2) (fun _ _ _=>False))
   { tmps:=(ps.zip x).foldl (fun t (p,v)=>t.setIfInBounds p v) a.tmps,defers:=[] } W)
 (hdone:∀ W T,I L.length T W→Gro M w T W→(∀ b,T b→b≠w.heap.size∧b≠w.heap.size+1)→W.heap[w.heap.size]?=some (.deferred (some []))→Keep (fun b=>b<w.heap.size∧¬ M b) w W→Q .normal { a with defers:={ target:=.collected w.heap.size,args:=#[] }::a.defers } W) :
 (Code.rangeFunc g ps assign body).wpIn (FW none) 0 P Q a w:=by
 refine wpIn_rangeFunc ?_
 intro fn _
 obtain⟨rec,hrec⟩:∃ rec:LoopState→Option Code→Loop,rec=fun st pe=>{ state:=st,pending:=pe,fn,tmps:=a.tmps,params:=ps,assign,body,defers:=w.heap.size }:=⟨_,rfl⟩
 obtain⟨W1,hW1⟩:∃ W1,(w.alloc (.deferred (some []))).alloc (.loop (rec .ready none))=W1:=⟨_,rfl⟩
 have hsz:W1.heap.size=w.heap.size+2:=by rw[← hW1];simp
 have hL1:W1.heap[w.heap.size+1]?=some (.loop (rec .ready none)):=by
  rw[← hW1];have:=World.alloc_heap_new (w.alloc (.deferred (some []))) (.loop (rec .ready none));rwa [World.size_alloc] at this
 have hK1:W1.heap[w.heap.size]?=some (.deferred (some [])):=by
  rw[← hW1];exact (Below.heap_alloc _ _ _ (by simp)).trans (World.alloc_heap_new w _)
 have hA:Keep (fun _=>True) w W1:=by rw[← hW1];exact (Keep.alloc _ w _).trans (Keep.alloc _ _ _)
 refine⟨w.heap.size+1,[{ target:=.collected w.heap.size,args:=#[] }],W1,{ target:=.fn (.func gf) lb,args:=#[.func (.yield (w.heap.size+1)) #[] #[]] },W1,gf,
  #[.func (.yield (w.heap.size+1)) #[] #[]]++lb,W1,?_,?_,fun _ _=>trivial,?_,fun e=>(by cases e),qdz.2 ?_⟩
 ·rw[← hW1,hrec];exact run_enterLoop_outer _ _ _ _ _
 ·simp only[resolve,hg]
  simp[Deferred.ofValue,Act.eval]
 ·unfold qdR at eg
  split at eg
  ·rename_i f hf
   simp only[Bool.and_eq_true,Bool.not_eq_true'] at eg
   have h1:¬ f.name="runtime.NumGoroutine":=by simpa using eg.2
   have h2:¬ f.body=none:=fun e=>by have:=eg.1;rw[e] at this;cases this
   simp[invoke,callFunc,hf,h1,h2]
  ·cases eg
 ·refine (hseq (w.heap.size+1) (fun b=>M b∨b=w.heap.size∨b=w.heap.size+1)
   (fun k T W=>∃ T1,(∀ b,T b↔T1 b∨b=w.heap.size∨b=w.heap.size+1)∧(∀ b,T1 b→b≠w.heap.size∧b≠w.heap.size+1)∧I k T1 W∧W.heap[w.heap.size+1]?=some (.loop (rec .ready none))∧W.heap[w.heap.size]?=some (.deferred (some []))) W1 (hA.mono fun _ _ _=>trivial) ?_ ?_ ?_
   ⟨M,fun _=>Iff.rfl,fun b hb=>by have:=(hM b hb).1;omega,hI 0 M w W1 h0 (hA.mono fun _ _ _=>trivial),hL1,hK1⟩).mono ?_
  ·intro b hb
   rcases hb with hb | hb | hb
   ·obtain⟨h1,h2⟩:=hM b hb;exact⟨by omega,h2⟩
   ·subst hb;exact⟨by omega,fun h=>by have:=hB _ h;omega⟩
   ·subst hb;exact⟨by omega,fun h=>by have:=hB _ h;omega⟩
  ·rintro k T w1 w2 ⟨T1,e1,n1,hi,hl,hd⟩ hk
   refine⟨T1,e1,n1,hI k T1 w1 w2 hi (hk.mono fun i _ h=>?_),hk.at hl (Or.inl (by omega)),hk.at hd (Or.inl (by omega))⟩
   rcases h with h | h
   ·exact Or.inl (by omega)
   ·exact Or.inr ((e1 i).2 (Or.inl h))
  ·rintro k x W T hx hWs hTs hTM ⟨T1,e1,n1,hi,hl,hd⟩
   have hlt:w.heap.size+1<W.heap.size:=(Array.getElem?_eq_some_iff.1 hl).1
   have hy:=run_yield (P:=P) (args:=x) hl (by rw[hrec];exact hps x (List.mem_of_getElem? hx))
   rw[hrec] at hy
   refine⟨fn,_,assign,body,hy,roundIn_of_wpIn (F:=FW none) trivial (wpIn_mono (hround (w.heap.size+1) k x W T1 rfl hx (by omega) (fun b hb=>⟨hTs b ((e1 b).2 (Or.inl hb)),n1 b hb⟩) (fun b hb hlt2=>?_) hi) ?_)⟩
   ·rcases hTM b ((e1 b).2 (Or.inl hb)) (by omega) with h | h | h
    ·exact h
    ·omega
    ·omega
   rintro e a1 W2 h
   cases e with
   | normal=>
    obtain⟨hk1,hb⟩:=h
    have hl2:=hk1.at hl trivial
    have hd2:=hk1.at hd trivial
    refine⟨_,run_beginRound hl2 (by rw[hrec]),wpIn_mono (hb _ (Keep.putObj _ _ _) (by simp)) ?_⟩
    rintro e a3 W3 ⟨rfl,T2,hi3,hk3,hg3⟩
    have hs2:=hk1.size
    have hg3':Gro T1 W2 T2 W3:=hg3.on (by simp) (Nat.le_refl _)
    have hl3:W3.heap[w.heap.size+1]?=some (.loop { rec .ready none with state:=.busy }):=hk3.at (World.putObj_heap_same (Array.getElem?_eq_some_iff.1 hl2).1) (fun h=>by have:=(n1 _ h).2;omega)
    have hd3:W3.heap[w.heap.size]?=some (.deferred (some [])):=hk3.at ((World.putObj_heap_other (by omega)).trans hd2) (fun h=>by have:=(n1 _ h).1;omega)
    have hend:=run_endRound (P:=P) none hl3
    have n2:∀ b,T2 b→b≠w.heap.size∧b≠w.heap.size+1:=fun b hb=>by
     rcases (hg3' b hb).2 with h | h
     ·exact n1 b h
     ·omega
    refine⟨_,_,hend,rfl,fun b=>T2 b∨b=w.heap.size∨b=w.heap.size+1,⟨T2,fun _=>Iff.rfl,n2,hI _ T2 W3 _ hi3 ((Keep.putObj _ _ _).mono fun i _ h=>?_),?_,?_⟩,?_,?_⟩
    ·show i≠_
     rcases h with h | h
     ·omega
     ·exact (n2 i h).2
    ·rw[World.putObj_heap_same (Array.getElem?_eq_some_iff.1 hl3).1,hrec];rfl
    ·exact (World.putObj_heap_other (by omega)).trans hd3
    ·refine (hk1.mono fun _ _ _=>trivial).trans (((Keep.putObj _ _ _).mono fun i _ h=>fun e=>h ((e1 i).2 (Or.inr (Or.inr e)))).trans ((hk3.mono fun i _ h=>fun e=>h ((e1 i).2 (Or.inl e))).trans ((Keep.putObj _ _ _).mono fun i _ h=>fun e=>h ((e1 i).2 (Or.inr (Or.inr e))))))
    ·intro b hb
     have hs3:=hk3.size
     rw[World.putObj_size] at hs3 ⊢
     rcases hb with hb | hb | hb
     ·obtain⟨h1,h2⟩:=hg3' b hb
      refine⟨h1,?_⟩
      rcases h2 with h2 | h2
      ·exact Or.inl ((e1 b).2 (Or.inl h2))
      ·exact Or.inr (by omega)
     ·exact⟨by omega,Or.inl ((e1 b).2 (Or.inr (Or.inl hb)))⟩
     ·exact⟨by omega,Or.inl ((e1 b).2 (Or.inr (Or.inr hb)))⟩
   | _=>exact h.elim
  ·rintro e W2 ⟨⟨v,rfl⟩,⟨T,⟨T1,e1,n1,hi,hl,hd⟩,hG⟩,hk⟩
   have hend:=run_endLoop (P:=P) hl (by rw[hrec];simp)
   rw[hrec] at hend
   refine⟨none,_,hend,hdone _ T1 (hI _ T1 W2 _ hi ((Keep.putObj _ _ _).mono fun i _ h=>?_)) (fun b hb=>?_) n1 ((World.putObj_heap_other (by omega)).trans hd) ?_⟩
   ·show i≠_
    rcases h with h | h
    ·omega
    ·exact (n1 i h).2
   ·obtain⟨h1,h2⟩:=hG b ((e1 b).2 (Or.inl hb))
    have h3:=n1 b hb
    rw[World.putObj_size]
    refine⟨h1,?_⟩
    rcases h2 with (h2 | h2 | h2) | h2
    ·exact Or.inl h2
    ·omega
    ·omega
    ·exact Or.inr (by omega)
   refine (hA.mono fun _ _ _=>trivial).trans (Keep.trans (hk.mono fun i _ h=>⟨by have:=h.1;omega,?_⟩) ((Keep.putObj _ _ _).mono fun i _ h=>by show i≠_;have:=h.1;omega))
   rintro (h2 | h2 | h2)
   ·exact h.2 h2
   ·have:=h.1;omega
   ·have:=h.1;omega
theorem qmg {P:Program} {fn:Func} {R:Ending→World→Prop} {a:Act} {w:World} {D:Nat} (hd:a.defers=[{ target:=.collected D,args:=#[] }]) (hK:w.heap[D]?=some (.deferred (some [])))
 (h:∃ v,(results fn a.tmps).run P (w.putObj D (.deferred none))=.ok v (w.putObj D (.deferred none))∧R (.returned v) (w.putObj D (.deferred none))):bodyPostM (FW none) 0 P fn R .ret a w:=by
 show LeavesInM (FW none) 0 P fn a.tmps R a.defers .returning w
 rw[hd]
 exact⟨by simp,.inl ⟨D,_,rfl,run_takeDeferred hK,h⟩⟩
theorem qkg {P:Program} {f:FuncId} {fn:Func} {c:Code} {args:Array Value} {w:World} {R:Ending→World→Prop} (hf:P.funcs[f]?=some fn) (hb:fn.body=some c)
 (h:c.wpIn (FW none) 0 P (bodyPostM (FW none) 0 P fn R) { tmps:=args++Array.replicate (fn.ntmps-args.size) undef,defers:=[] } w):Calls P f args w R:=(qdz (r:=none) (n:=0)).1 (callsIn_of_wp_marks hf hb trivial h)
theorem qhi {P:Program} {F:Fence} {n:Nat} {ops:Array Oper} {Q:Exit→Act→World→Prop} {o:Oper} {l:List Oper} {a:Act} {w:World} (hg:o.guard=none) (h:o.wpIn F n P a w (wpListIn F n P ops Q l) Q):wpListIn F n P ops Q (o::l) a w:=by
 simp only[wpListIn,Region.wanted,hg,if_true]
 exact h
theorem qtj {P:Program} {F:Fence} {n:Nat} {ops:Array Oper} {Q:Exit→Act→World→Prop} {l:List Oper} {a:Act} {w:World} (h:wpListIn F n P ops Q (l++[]) a w):wpListIn F n P ops Q l a w:=by rwa [List.append_nil] at h
theorem Rel.put {W0:World} {lo:Nat} {β:Bl} {n nb:Nat} {tm:List (Nat×SV)} {hp:List (Nat×Nat×SV)} {a:Act} {w:World} (R:Rel W0 lo β (qaT n nb tm hp []) (clr a) w) {d:Nat} {x:SV} {u:Value} (hd:d<n) (hx:x.is β u) :
 Rel W0 lo β (qaT n nb ((d,x)::tm) hp []) (clr (a.put (some d) u)) w:=by
 have hs:qbN (qaT n nb tm hp []) (some d) x=some (qaT n nb ((d,x)::tm) hp []):=by
  unfold qbN
  simp only
  have:Nat.ble (d+1) (qaT n nb tm hp []).n=true:=Nat.ble_eq_true_of_le hd
  rw[this];rfl
 have:=(R.t.put hs hx).1
 exact⟨by rw[qha];exact this,R.h,R.dom,R.lo⟩
theorem qt7 {tm:List (Nat×SV)} {X:Prop} (h:X=qaU (tm.map fun e=>e.2.ren (fun b=>b)=e.2.ren (fun b=>b))):X:=h▸qnx _ tm
theorem qur {hp:List (Nat×Nat×SV)} {X:Prop} (h:X=qaU (hp.map fun e=>some (e.2.2.ren (fun b=>b))=some (e.2.2.ren (fun b=>b)))):X:=h▸qaE _ hp
theorem Rel.now {W0:World} {lo:Nat} {β:Bl} {n nb:Nat} {tm tm':List (Nat×SV)} {hp hp':List (Nat×Nat×SV)} {a:Act} {w:World} (R:Rel W0 lo β (qaT n nb tm hp []) a w) {l:Nat} (hn:((qaY tm' hp').all fun b=>Nat.ble (b+1) l)=true)
 (ht:qaU (eqT (fun b=>b) (qaT n nb tm hp []) tm')=qaU (tm'.map fun e=>e.2.ren (fun b=>b)=e.2.ren (fun b=>b))) (hh:qaU (eqH (fun b=>b) (qaT n nb tm hp []) hp')=qaU (hp'.map fun e=>some (e.2.2.ren (fun b=>b))=some (e.2.2.ren (fun b=>b)))):Rel w l (β.cut l) (qaT n l tm' hp' []) a w:=
 R.laterP (Keep.refl (fun _=>True) w) hn (qt7 ht) (qur hh) (fun _ _ _ _=>trivial) (fun _ _ _ _ _ _ _ _ _ _ _ _=>trivial)
theorem Rel.later {W0:World} {lo:Nat} {β:Bl} {w w':World} {n nb:Nat} {tm tm':List (Nat×SV)} {hp hp':List (Nat×Nat×SV)} {S:Nat→Prop} {a:Act} (R:Rel W0 lo β (qaT n nb tm hp []) a w) (K:Keep S w w') {l:Nat} (hn:((qaY tm' hp').all fun b=>Nat.ble (b+1) l)=true)
 (ht:qaU (eqT (fun b=>b) (qaT n nb tm hp []) tm')=qaU (tm'.map fun e=>e.2.ren (fun b=>b)=e.2.ren (fun b=>b))) (hh:qaU (eqH (fun b=>b) (qaT n nb tm hp []) hp')=qaU (hp'.map fun e=>some (e.2.2.ren (fun b=>b))=some (e.2.2.ren (fun b=>b))))
 (hb:∀ b r,b<l→β b=some r→S r) (hr:∀ b o e es n xs u,qaf hp' b o=some (.row e es n xs)→xs≠[]→β.g b=some u→∀ k,u.ownBlock=some k→S k):Rel w' l (β.cut l) (qaT n l tm' hp' []) a w':=
 R.laterP K hn (qt7 ht) (qur hh) hb hr
theorem Bl.cut_lt {β:Bl} {l b:Nat} (h:b<l):(β.cut l) b=β b∧(β.cut l).g b=β.g b:=by
 unfold Bl.cut
 simp only
 rw[if_pos h,if_pos h]
 exact⟨rfl,rfl⟩
theorem Bl.leU_f {β γ:Bl} {k b r:Nat} (h:β.leU k γ) (hb:b<k) (e:β b=some r):γ b=some r:=((h b hb (Or.inl (by rw[e];simp))).1).trans e
theorem Bl.leU_g {β γ:Bl} {k b:Nat} {u:Value} (h:β.leU k γ) (hb:b<k) (e:β.g b=some u):γ.g b=some u:=((h b hb (Or.inr (by rw[e];simp))).2).trans e
noncomputable def qnj (o:Oper):Call:=match o.op with
 | .call c=>c
 | _=>default
theorem qiq {w:World} {k:Nat} {β:Bl} {hp:List (Nat×Nat×SV)} {args:List SV} {us:List Value} (H:HRel w k β hp w) (hd:β.dom k) (hu:SV.isl β args us) {n:Nat} (hn:us.length≤n) :
 Rel w k β (qaT n k (qdl 0 args) hp []) (clr { tmps:=us.toArray++Array.replicate (n-us.toArray.size) undef,defers:=[] }) w:=by
 refine⟨⟨by
  show (us.toArray++Array.replicate (n-us.toArray.size) undef).size=n
  simp
  omega,rfl,fun d=>?_⟩,H,hd,Nat.le_refl _⟩
 have hlen:=(SV.isl_get hu).1
 show (qaH (qdl 0 args++qiI n) d).is β ((us.toArray++Array.replicate (n-us.toArray.size) undef).getD d undef)
 have hg:(us.toArray++Array.replicate (n-us.toArray.size) undef).getD d undef=us.getD d undef:=by
  rw[Array.getD_eq_getD_getElem?,List.getD_eq_getElem?_getD,Array.getElem?_append]
  split
  ·simp
  ·rename_i hge
   rw[Array.getElem?_replicate]
   have:us[d]?=none:=List.getElem?_eq_none (by simpa using hge)
   rw[this]
   split<;>rfl
 rw[hg]
 have h0:=qhd 0 hu d
 rw[if_pos (Nat.zero_le _),Nat.sub_zero] at h0
 by_cases h:d<args.length
 ·have:qaH (qdl 0 args++qiI n) d=qaH (qdl 0 args) d:=by
   have key:∀ (args:List SV) (k:Nat),k≤d→d<k+args.length→qaH (qdl k args++qiI n) d=qaH (qdl k args) d:=by
    intro args
    induction args with
    | nil=>intro k h1 h2;simp at h2;omega
    | cons x r ih=>
     intro k h1 h2
     rw[qdl,List.cons_append,qa2,qa2]
     by_cases e:k=d
     ·rw[if_pos e,if_pos e]
     ·rw[if_neg e,if_neg e]
      exact ih (k+1) (by omega) (by simp at h2;omega)
   exact key args 0 (Nat.zero_le _) (by omega)
  rw[this]
  exact h0
 ·have hu0:us.getD d undef=undef:=by rw[List.getD_eq_getElem?_getD,List.getElem?_eq_none (by omega)];rfl
  have key:∀ (args:List SV) (k:Nat),k+args.length≤d→qaH (qdl k args++qiI n) d=qaH (qiI n) d:=by
   intro args
   induction args with
   | nil=>intro k _;rfl
   | cons x r ih=>
    intro k h1
    simp at h1
    rw[qdl,List.cons_append,qa2,if_neg (by omega)]
    exact ih (k+1) (by omega)
  rw[key args 0 (by omega),qcY,hu0]
  split
  ·trivial
  ·rfl
end Go.Proofs.YtkckcgpmnipnaaaGreat
