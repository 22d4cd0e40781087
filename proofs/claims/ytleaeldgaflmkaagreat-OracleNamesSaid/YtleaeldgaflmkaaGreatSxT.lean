/-
  A range over a function, two: what an iterator value gives; the statement; calls of yield. Conditions: none.
-/
import Derived.Test.YtleaeldgaflmkaaGreatSxR
import Derived.RangeFuncLeaves
namespace Go.Proofs.YtleaeldgaflmkaaGreat
set_option maxRecDepth 100000
open Go.RowKit
structure Keep (S:Nat→Prop) (w w':World):Prop where
 os:w'.os=w.os
 tape:w'.tape=w.tape
 output:w'.output=w.output
 size:w.heap.size≤w'.heap.size
 drawn:w.drawn≤w'.drawn
 block:∀ k,k<w.heap.size→S k→w'.heap[k]?=w.heap[k]?
theorem Keep.refl (S:Nat→Prop) (w:World):Keep S w w:=⟨rfl,rfl,rfl,Nat.le_refl _,Nat.le_refl _,fun _ _ _=>rfl⟩
theorem Keep.trans {S:Nat→Prop} {a b c:World} (h:Keep S a b) (k:Keep S b c):Keep S a c:=
 ⟨k.os.trans h.os,k.tape.trans h.tape,k.output.trans h.output,Nat.le_trans h.size k.size,Nat.le_trans h.drawn k.drawn,fun i hi hs=>(k.block i (Nat.lt_of_lt_of_le hi h.size) hs).trans (h.block i hi hs)⟩
theorem Keep.mono {S T:Nat→Prop} {a b:World} (h:Keep S a b) (k:∀ i,i<a.heap.size→T i→S i):Keep T a b:=⟨h.os,h.tape,h.output,h.size,h.drawn,fun i hi ht=>h.block i hi (k i hi ht)⟩
theorem Keep.of_gr {a b:World} (h:Gr a b) (S:Nat→Prop):Keep S a b:=⟨h.1.os,h.1.tape,h.1.output,h.1.size,h.2.2,fun i hi _=>h.1.block i hi⟩
theorem Keep.gr {W a b:World} (h:Gr W a) (k:Keep (· < W.heap.size) a b):Gr W b:=
 ⟨⟨k.os.trans h.1.os,k.tape.trans h.1.tape,k.output.trans h.1.output,Nat.le_trans h.size k.size,fun i hi=>(k.block i (Nat.lt_of_lt_of_le hi h.size) hi).trans (h.1.block i hi)⟩,
  fun x hx=>(World.frozen?_of_block (k.block x.block (Nat.lt_of_lt_of_le hx h.size) hx)).trans (h.2.1 x hx),Nat.le_trans h.2.2 k.drawn⟩
theorem Keep.alloc (S:Nat→Prop) (w:World) (o:Obj):Keep S w (w.alloc o):=⟨rfl,rfl,rfl,by simp,Nat.le_refl _,fun k hk _=>Below.heap_alloc w o k hk⟩
theorem Keep.putObj (w:World) (l:Nat) (o:Obj):Keep (·≠l) w (w.putObj l o):=⟨rfl,rfl,rfl,by simp,Nat.le_refl _,fun _ _ h=>World.putObj_heap_other h⟩
theorem Keep.at {S:Nat→Prop} {a b:World} (h:Keep S a b) {l:Nat} {o:Obj} (hl:a.heap[l]?=some o) (hs:S l):b.heap[l]?=some o:=(h.block l (Array.getElem?_eq_some_iff.1 hl).1 hs).trans hl
section
variable {W0:Base} {lo:Nat} {β:Bl} {w w':World} {hp hp':List (Nat×Nat×SV)} {S:Nat→Prop}
def Bl.cut (β:Bl) (n:Nat):Bl:=⟨fun b=>if b<n then β b else none,fun b=>if b<n then β.g b else none,fun _=>none,fun _=>False⟩
theorem Bl.cut_f {β:Bl} {n b r:Nat} (h:(β.cut n) b=some r):b<n∧β b=some r:=Bl.cutM_f h
theorem Bl.cut_g {β:Bl} {n b:Nat} {u:Value} (h:(β.cut n).g b=some u):b<n∧β.g b=some u:=Bl.cutM_g h
theorem Bl.cut_dom (β:Bl) (n:Nat):(β.cut n).dom n:=fun b hb=>⟨if_neg (by omega),if_neg (by omega)⟩
def S0.thin:S0→Bool
 | .dv ..=>false
 | _=>true
def S1.thin:S1→Bool
 | .one s=>s.thin
 | .ag l=>l.all S0.thin
def SV.thin:SV→Bool
 | .dv ..=>false
 | .drow ..=>false
 | .rrow ..=>false
 | .prow ..=>false
 | .ag l=>l.all S0.thin
 | .tu l=>l.all S1.thin
 | .pc _ l=>l.all S0.thin
 | _=>true
def qpX (tm:List (Nat×SV)) (hp:List (Nat×Nat×SV)):Bool:=tm.all (fun e=>e.2.thin)&&hp.all fun e=>e.2.2.thin
def Bl.warm (β γ:Bl):Bl:=⟨γ.f,γ.g,β.h,γ.h0⟩
theorem S0.thin_is {β γ:Bl} {s:S0} {x:Value} (h:s.thin=true) (k:s.is (β.warm γ) x):s.is γ x:=by cases s<;>first | exact k | cases h
theorem S0.thin_isl {β γ:Bl}:∀ {l:List S0} {us:List Value},l.all S0.thin=true→S0.isl (β.warm γ) l us→S0.isl γ l us
 | [],[],_,_=>trivial
 | [],_::_,_,k=>k.elim
 | _::_,[],_,k=>k.elim
 | _::_,_::_,h,k=>by
  rw[List.all_cons,Bool.and_eq_true] at h
  exact⟨S0.thin_is h.1 k.1,S0.thin_isl h.2 k.2⟩
theorem S1.thin_isl {β γ:Bl}:∀ {l:List S1} {us:List Value},l.all S1.thin=true→S1.isl (β.warm γ) l us→S1.isl γ l us
 | [],[],_,_=>trivial
 | [],_::_,_,k=>k.elim
 | _::_,[],_,k=>k.elim
 | s::_,_::_,h,k=>by
  rw[List.all_cons,Bool.and_eq_true] at h
  refine⟨?_,S1.thin_isl h.2 k.2⟩
  cases s with
  | one s=>exact S0.thin_is h.1 k.1
  | ag l=>obtain⟨vs,h1,h2⟩:=k.1;exact⟨vs,S0.thin_isl h.1 h1,h2⟩
theorem SV.thin_is {β γ:Bl} {s:SV} {x:Value} (h:s.thin=true) (k:s.is (β.warm γ) x):s.is γ x:=by
 cases s with
 | ag l=>obtain⟨vs,h1,h2⟩:=k;exact⟨vs,S0.thin_isl h h1,h2⟩
 | tu l=>obtain⟨vs,h1,h2⟩:=k;exact⟨vs,S1.thin_isl h h1,h2⟩
 | pc f l=>obtain⟨vs,h1,h2⟩:=k;exact⟨vs,S0.thin_isl h h1,h2⟩
 | _=>first | exact k | cases h
theorem Bl.cut_at {β:Bl} {l b:Nat} (h:b<l):qfG (fun b=>b) β (β.cut l) b:=⟨fun r e=>by unfold Bl.cut;simp only;rw[if_pos h];exact e,fun u e=>by unfold Bl.cut;simp only;rw[if_pos h];exact e⟩
theorem S0.ren_id (s:S0):s.ren (fun b=>b)=s:=by cases s<;>rfl
theorem S0.map_id (l:List S0):l.map (S0.ren fun b=>b)=l:=by induction l with
 | nil=>rfl
 | cons a r ih=>rw[List.map_cons,ih,S0.ren_id]
theorem S1.ren_id (s:S1):s.ren (fun b=>b)=s:=by
 cases s with
 | one s=>show S1.one _=_;rw[S0.ren_id]
 | ag l=>show S1.ag _=_;rw[S0.map_id]
theorem SV.ren_id (s:SV):s.ren (fun b=>b)=s:=by
 cases s with
 | pc g cap=>show SV.pc g _=_;rw[S0.map_id]
 | ag l=>show SV.ag _=_;rw[S0.map_id]
 | tu l=>
  show SV.tu _=_
  congr 1
  induction l with
  | nil=>rfl
  | cons a r ih=>rw[List.map_cons,ih,S1.ren_id]
 | _=>rfl
theorem SV.cut_is {β:Bl} {l:Nat} {s:SV} {x:Value} (ht:s.thin=true) (h:∀ b∈s.nm,b<l) (k:s.is β x):s.is (β.cut l) x:=SV.thin_is (β:=β) ht (SV.ren_is (β:=β) (γ:=β.warm (β.cut l)) (f:=fun b=>b) (fun b hb=>Bl.cut_at (h b hb)) (by rw[SV.ren_id];exact k))
theorem HRel.later (H:HRel W0 lo β hp w) (K:Keep S w w') {l:Nat} (hb:∀ b r,b<l→β b=some r→S r) (hr:∀ b o e es n xs u,qae hp' b o=some (.row e es n xs)→xs≠[]→β.g b=some u→∀ k,u.ownBlock=some k→S k)
 (hs:∀ b o s,qae hp' b o=some s→qae hp b o=some s∧b<l∧(∀ c∈s.nm,c<l)∧s.thin=true):HRel w' l (β.cut l) hp' w':=by
 refine⟨Gr.refl _,fun b r e=>?_,fun b c r e1 e2=>?_,fun b r hl e=>?_,fun b r e=>?_,fun b o sv e hsv=>?_,fun b o s hc hsr=>?_,fun b o s c o' s' u v h1 h2 _ _ h3 h4 h5 h6 h7=>?_,fun b o xs hc=>?_,FzIs.no (fun _=>rfl) (fun b o e es n ds hc=>by cases (hs b o _ hc).2.2.2) (fun b o e es n ds hc=>by cases (hs b o _ hc).2.2.2)⟩
 ·exact Nat.lt_of_lt_of_le (H.live b r (Bl.cut_f e).2) K.size
 ·exact H.inj b c r (Bl.cut_f e1).2 (Bl.cut_f e2).2
 ·have:=(Bl.cut_f e).1;omega
 ·have:=H.sep b r (Bl.cut_f e).2
  unfold Bl.cut
  simp only
  split
  ·exact this
  ·rfl
 ·obtain⟨h1,h2,h3,h4⟩:=hs b o sv e
  obtain⟨r,u,a1,a2,a3,a4,a5⟩:=H.cells b o sv h1 hsv
  have hk:=K.block r (H.live b r a1) (hb b r h2 a1)
  exact⟨r,u,(Bl.cut_at h2).1 r a1,SV.cut_is h4 h3 a2,a3,(World.cell?_of_block (a:=⟨r,o,none⟩) hk).trans a4,(World.frozen?_of_block (a:=⟨r,o,none⟩) hk).trans a5⟩
 ·obtain⟨h1,h2,_,h4⟩:=hs b o _ hc
  cases s<;>try (cases hsr;done)
  all_goals try (cases h4;done)
  rename_i e es n xs _
  obtain⟨u,a1,a2⟩:=H.rows _ _ _ _ _ _ h1
  have hrd:Rd w' es u n xs:=a2.rd.keep fun hx k hk o=>World.cell?_of_block (a:=⟨k,o,none⟩) (K.block k (a2.rd.lt hx k hk) (hr _ _ _ _ _ _ _ hc hx a1 k hk))
  exact⟨u,e,es,n,xs,⟨rfl,rfl,rfl,rfl⟩,(Bl.cut_at h2).2 u a1,hrd,a2.one,fun _ hx k hk=>hrd.lt hx k hk,fun h=>by omega,fun h=>by omega⟩
 ·have:=(Bl.cut_g h6).1;omega
 ·obtain⟨h1,h2,_⟩:=hs b o _ hc
  obtain⟨r,a1,a2⟩:=H.maps _ _ _ h1
  exact⟨r,(Bl.cut_at h2).1 r a1,a2.keep (K.block r (H.live b r a1) (hb b r h2 a1))⟩
theorem qe7 {l:Nat} {tm:List (Nat×SV)} {hp':List (Nat×Nat×SV)} (hn:((qaO tm hp').all fun b=>Nat.ble (b+1) l)=true) {b o:Nat} {s:SV} (h:qae hp' b o=some s):b<l∧∀ c∈s.nm,c<l:=by
 have hm:=qaj h
 have key:∀ c∈qaO tm hp',c<l:=fun c hc=>Nat.le_of_ble_eq_true (List.all_eq_true.1 hn c hc)
 exact⟨key b (List.mem_append_left _ (List.mem_flatMap.2 ⟨_,hm,by simp⟩)),fun c hc=>key c (List.mem_append_left _ (List.mem_flatMap.2 ⟨_,hm,by simp[hc]⟩))⟩
theorem Rel.laterP {n nb:Nat} {tm tm':List (Nat×SV)} {a:Act} (R:Rel W0 lo β (qaC n nb tm hp []) a w) (K:Keep S w w') {l:Nat} (hn:(((qaO tm' hp').all fun b=>Nat.ble (b+1) l)&&qpX tm' hp')=true)
 (ht:qaI (eqT (fun b=>b) (qaC n nb tm hp []) tm')) (hh:qaI (eqH (fun b=>b) (qaC n nb tm hp []) hp'))
 (hb:∀ b r,b<l→β b=some r→S r) (hr:∀ b o e es n xs u,qae hp' b o=some (.row e es n xs)→xs≠[]→β.g b=some u→∀ k,u.ownBlock=some k→S k):Rel w' l (β.cut l) (qaC n l tm' hp' []) a w':=by
 rw[Bool.and_eq_true] at hn
 obtain⟨hn,hth⟩:=hn
 unfold qpX at hth
 rw[Bool.and_eq_true] at hth
 have key:∀ c∈qaO tm' hp',c<l:=fun c hc=>Nat.le_of_ble_eq_true (List.all_eq_true.1 hn c hc)
 refine⟨⟨R.t.size,R.t.defers,fun d=>?_⟩,R.h.later K hb hr (fun b o s e=>?_),Bl.cut_dom β l,Nat.le_refl _⟩
 ·show (qax (tm'++qir n) d).is _ _
  have h4:=R.t.tmps d
  rcases qcU (n:=n) (tm:=tm') d with ⟨e,he,h1,h2⟩ | h1
  ·rw[h2]
   have h3:=qbw ht e he
   rw[SV.ren_id] at h3
   rw[← h1,h3] at h4
   rw[← h1]
   exact SV.cut_is (List.all_eq_true.1 hth.1 e he) (fun b hb=>key b (List.mem_append_right _ (List.mem_flatMap.2 ⟨e,he,hb⟩))) h4
  ·rw[h1,qcI]
   split
   ·exact trivial
   ·rename_i hd
    have hsz:a.tmps.size=n:=R.t.size
    show a.tmps.getD d undef=undef
    rw[Array.getD_eq_getD_getElem?,Array.getElem?_eq_none (by omega)];rfl
 ·have hm:=qaj e
  have h3:=qbw hh _ hm
  rw[SV.ren_id] at h3
  exact⟨h3,(qe7 hn e).1,(qe7 hn e).2,List.all_eq_true.1 hth.2 _ (qaj e)⟩
end
def Gro (T:Nat→Prop) (w:World) (T':Nat→Prop) (w':World):Prop:=∀ b,T' b→b<w'.heap.size∧(T b∨w.heap.size≤b)
theorem Gro.refl {T:Nat→Prop} {w:World} (h:∀ b,T b→b<w.heap.size):Gro T w T w:=fun b hb=>⟨h b hb,Or.inl hb⟩
theorem Gro.on {T T':Nat→Prop} {w w' v v':World} (h:Gro T w T' w') (h1:v.heap.size≤w.heap.size) (h2:w'.heap.size≤v'.heap.size):Gro T v T' v':=fun b hb=>⟨Nat.lt_of_lt_of_le (h b hb).1 h2,(h b hb).2.imp id (Nat.le_trans h1)⟩
def SeqC (P:Program) (g:FuncId) (lb:Array Value) (L:List (Array Value)) (B:Nat→Prop) (W0:World):Prop:=
 ∀ (l:Nat) (M:Nat→Prop) (J:Nat→(Nat→Prop)→World→Prop) (W:World),Keep B W0 W→(∀ b,M b→b<W.heap.size∧¬ B b)→
  (∀ k T w w',J k T w→Keep (fun b=>b<W.heap.size∨T b) w w'→J k T w')→
  (∀ k x w T,L[k]?=some x→W.heap.size≤w.heap.size→(∀ b,T b→b<w.heap.size)→(∀ b,T b→b<W.heap.size→M b)→J k T w→YieldAt (FW none) 0 P l x w fun e w'=>e=.returned (.bool true)∧∃ T',J (k+1) T' w'∧Keep (fun b=>¬ T b) w w'∧Gro T w T' w')→
  J 0 M W→Calls P g (#[.func (.yield l) #[] #[]]++lb) W fun e w'=>(∃ v,e=.returned v)∧(∃ T',J L.length T' w'∧Gro M W T' w')∧Keep (fun b=>b<W.heap.size∧¬ M b) W w'
theorem SeqC.later {P:Program} {g:FuncId} {lb:Array Value} {L:List (Array Value)} {B:Nat→Prop} {W0 W1:World} (h:SeqC P g lb L B W0) (k:Keep B W0 W1):SeqC P g lb L B W1:=
 fun l M J W hK hM hJ hY h0=>h l M J W (k.trans hK) hM hJ hY h0
theorem qgR {P:Program} {r:Option Nat} {l:Nat} {o:Oper} {c:Call} {f:Operand} {a:Act} {w:World} {xs:Array Value} {R:Ending→World→Prop} {next:Act→World→Prop} {Q:Exit→Act→World→Prop}
 (ho:o.op=.call c) (hc:c.callee=.value f) (hf:a.eval f=.func (.yield l) #[] #[]) (hx:c.args.map a.eval=xs) (hy:YieldAt (FW none) 0 P l xs w R)
 (hk:∀ e w',R e w'→∃ v,e=.returned v∧next (a.put o.dst v) w'):o.wpIn (FW r) 0 P a w next Q:=by
 obtain⟨fn,tmps,assign,body,hrun,hR⟩:=hy
 refine⟨fun _ _=>trivial,?_⟩
 rw[Oper.semAt_eq _ _ _ (by simp[ho])]
 have he:(execOp a.eval o).run P w=.ok (.round l fn tmps assign body) w:=by
  simp only[execOp,ho,resolve,hc,hf,hx]
  simp only[Deferred.ofValue,Sem.run_bind,Sem.run_pure,Result.andThen_ok,invoke,Array.empty_append]
  exact hrun
 rw[he,Oper.uponIn_round]
 refine⟨fun e=>(by cases e),(qig hR).mono fun e w' h=>?_⟩
 obtain⟨v,rfl,h2⟩:=hk e w' h
 exact h2
theorem qdm {P:Program} {g:Operand} {ps:Array Tmp} {assign body:Code} {Q:Exit→Act→World→Prop} {a:Act} {w:World} {gf:FuncId} {lb:Array Value} {L:List (Array Value)} {B:Nat→Prop}
 (hg:a.eval g=.func (.func gf) #[] lb) (eg:qb6 P gf=true) (hseq:SeqC P gf lb L B w) (M:Nat→Prop) (hM:∀ b,M b→b<w.heap.size∧¬ B b) (hB:∀ b,B b→b<w.heap.size) (hps:∀ x∈L,x.size=ps.size)
 (I:Nat→(Nat→Prop)→World→Prop) (hI:∀ k T w1 w2,I k T w1→Keep (fun b=>b<w.heap.size∨T b) w1 w2→I k T w2) (h0:I 0 M w)
 (hround:∀ l k x W T,l=w.heap.size+1→L[k]?=some x→w.heap.size+2≤W.heap.size→(∀ b,T b→b<W.heap.size∧b≠w.heap.size∧b≠w.heap.size+1)→(∀ b,T b→b<w.heap.size→M b)→I k T W→
  assign.wpIn (FW (some l)) 0 P (Exit.then (fun a1 W1=>Keep (fun _=>True) W W1∧∀ W2,Keep (·≠l) W1 W2→W2.heap.size=W1.heap.size→body.wpIn (FW (some l)) 0 P (fun e _ W3=>e=.normal∧∃ T',I (k+1) T' W3∧Keep (fun b=>¬ T b) W2 W3∧Gro T W2 T' W3) a1 W2) (fun _ _ _=>False))
   { tmps:=(ps.zip x).foldl (fun t (p,v)=>t.setIfInBounds p v) a.tmps,defers:=[] } W)
 (hdone:∀ W T,I L.length T W→Gro M w T W→(∀ b,T b→b≠w.heap.size∧b≠w.heap.size+1)→W.heap[w.heap.size]?=some (.deferred (some []))→Keep (fun b=>b<w.heap.size∧¬ M b) w W→Q .normal { a with defers:={ target:=.collected w.heap.size,args:=#[] }::a.defers } W) :
 (Code.rangeFunc g ps assign body).wpIn (FW none) 0 P Q a w:=by
 refine wpIn_rangeFunc ?_
 intro fn _
 obtain⟨rec,hrec⟩:∃ rec:LoopState→Option Code→Loop,rec=fun st pe=>{ state:=st,pending:=pe,fn,tmps:=a.tmps,params:=ps,assign,body,defers:=w.heap.size }:=⟨_,rfl⟩
 obtain⟨W1,hW1⟩:∃ W1,(w.alloc (.deferred (some []))).alloc (.loop (rec .ready none))=W1:=⟨_,rfl⟩
 have hsz:W1.heap.size=w.heap.size+2:=by rw[← hW1];simp
 have hL1:W1.heap[w.heap.size+1]?=some (.loop (rec .ready none)):=by
  rw[← hW1];have:=World.alloc_heap_new (w.alloc (.deferred (some []))) (.loop (rec .ready none));rwa [World.size_alloc] at this
 have hK1:W1.heap[w.heap.size]?=some (.deferred (some [])):=by
  rw[← hW1];exact (Below.heap_alloc _ _ _ (by simp)).trans (World.alloc_heap_new w _)
 have hA:Keep (fun _=>True) w W1:=by rw[← hW1];exact (Keep.alloc _ w _).trans (Keep.alloc _ _ _)
 refine⟨w.heap.size+1,[{ target:=.collected w.heap.size,args:=#[] }],W1,{ target:=.fn (.func gf) lb,args:=#[.func (.yield (w.heap.size+1)) #[] #[]] },W1,gf,
  #[.func (.yield (w.heap.size+1)) #[] #[]]++lb,W1,?_,?_,fun _ _=>trivial,?_,fun e=>(by cases e),qcv.2 ?_⟩
 ·rw[← hW1,hrec];exact run_enterLoop_outer _ _ _ _ _
 ·simp only[resolve,hg]
  simp[Deferred.ofValue,Act.eval]
 ·unfold qb6 at eg
  split at eg
  ·rename_i f hf
   simp only[Bool.and_eq_true,Bool.not_eq_true'] at eg
   have h1:¬ f.name="runtime.NumGoroutine":=by simpa using eg.2
   have h2:¬ f.body=none:=fun e=>by have:=eg.1;rw[e] at this;cases this
   simp[invoke,callFunc,hf,h1,h2]
  ·cases eg
 ·refine (hseq (w.heap.size+1) (fun b=>M b∨b=w.heap.size∨b=w.heap.size+1)
   (fun k T W=>∃ T1,(∀ b,T b↔T1 b∨b=w.heap.size∨b=w.heap.size+1)∧(∀ b,T1 b→b≠w.heap.size∧b≠w.heap.size+1)∧I k T1 W∧W.heap[w.heap.size+1]?=some (.loop (rec .ready none))∧W.heap[w.heap.size]?=some (.deferred (some []))) W1 (hA.mono fun _ _ _=>trivial) ?_ ?_ ?_
   ⟨M,fun _=>Iff.rfl,fun b hb=>by have:=(hM b hb).1;omega,hI 0 M w W1 h0 (hA.mono fun _ _ _=>trivial),hL1,hK1⟩).mono ?_
  ·intro b hb
   rcases hb with hb | hb | hb
   ·obtain⟨h1,h2⟩:=hM b hb;exact⟨by omega,h2⟩
   ·subst hb;exact⟨by omega,fun h=>by have:=hB _ h;omega⟩
   ·subst hb;exact⟨by omega,fun h=>by have:=hB _ h;omega⟩
  ·rintro k T w1 w2 ⟨T1,e1,n1,hi,hl,hd⟩ hk
   refine⟨T1,e1,n1,hI k T1 w1 w2 hi (hk.mono fun i _ h=>?_),hk.at hl (Or.inl (by omega)),hk.at hd (Or.inl (by omega))⟩
   rcases h with h | h
   ·exact Or.inl (by omega)
   ·exact Or.inr ((e1 i).2 (Or.inl h))
  ·rintro k x W T hx hWs hTs hTM ⟨T1,e1,n1,hi,hl,hd⟩
   have hlt:w.heap.size+1<W.heap.size:=(Array.getElem?_eq_some_iff.1 hl).1
   have hy:=run_yield (P:=P) (args:=x) hl (by rw[hrec];exact hps x (List.mem_of_getElem? hx))
   rw[hrec] at hy
   refine⟨fn,_,assign,body,hy,roundIn_of_wpIn (F:=FW none) trivial (wpIn_mono (hround (w.heap.size+1) k x W T1 rfl hx (by omega) (fun b hb=>⟨hTs b ((e1 b).2 (Or.inl hb)),n1 b hb⟩) (fun b hb hlt2=>?_) hi) ?_)⟩
   ·rcases hTM b ((e1 b).2 (Or.inl hb)) (by omega) with h | h | h
    ·exact h
    ·omega
    ·omega
   rintro e a1 W2 h
   cases e with
   | normal=>
    obtain⟨hk1,hb⟩:=h
    have hl2:=hk1.at hl trivial
    have hd2:=hk1.at hd trivial
    refine⟨_,run_beginRound hl2 (by rw[hrec]),wpIn_mono (hb _ (Keep.putObj _ _ _) (by simp)) ?_⟩
    rintro e a3 W3 ⟨rfl,T2,hi3,hk3,hg3⟩
    have hs2:=hk1.size
    have hg3':Gro T1 W2 T2 W3:=hg3.on (by simp) (Nat.le_refl _)
    have hl3:W3.heap[w.heap.size+1]?=some (.loop { rec .ready none with state:=.busy }):=hk3.at (World.putObj_heap_same (Array.getElem?_eq_some_iff.1 hl2).1) (fun h=>by have:=(n1 _ h).2;omega)
    have hd3:W3.heap[w.heap.size]?=some (.deferred (some [])):=hk3.at ((World.putObj_heap_other (by omega)).trans hd2) (fun h=>by have:=(n1 _ h).1;omega)
    have hend:=run_endRound (P:=P) none hl3
    have n2:∀ b,T2 b→b≠w.heap.size∧b≠w.heap.size+1:=fun b hb=>by
     rcases (hg3' b hb).2 with h | h
     ·exact n1 b h
     ·omega
    refine⟨_,_,hend,rfl,fun b=>T2 b∨b=w.heap.size∨b=w.heap.size+1,⟨T2,fun _=>Iff.rfl,n2,hI _ T2 W3 _ hi3 ((Keep.putObj _ _ _).mono fun i _ h=>?_),?_,?_⟩,?_,?_⟩
    ·show i≠_
     rcases h with h | h
     ·omega
     ·exact (n2 i h).2
    ·rw[World.putObj_heap_same (Array.getElem?_eq_some_iff.1 hl3).1,hrec];rfl
    ·exact (World.putObj_heap_other (by omega)).trans hd3
    ·refine (hk1.mono fun _ _ _=>trivial).trans (((Keep.putObj _ _ _).mono fun i _ h=>fun e=>h ((e1 i).2 (Or.inr (Or.inr e)))).trans ((hk3.mono fun i _ h=>fun e=>h ((e1 i).2 (Or.inl e))).trans ((Keep.putObj _ _ _).mono fun i _ h=>fun e=>h ((e1 i).2 (Or.inr (Or.inr e))))))
    ·intro b hb
     have hs3:=hk3.size
     rw[World.putObj_size] at hs3 ⊢
     rcases hb with hb | hb | hb
     ·obtain⟨h1,h2⟩:=hg3' b hb
      refine⟨h1,?_⟩
      rcases h2 with h2 | h2
      ·exact Or.inl ((e1 b).2 (Or.inl h2))
      ·exact Or.inr (by omega)
     ·exact⟨by omega,Or.inl ((e1 b).2 (Or.inr (Or.inl hb)))⟩
     ·exact⟨by omega,Or.inl ((e1 b).2 (Or.inr (Or.inr hb)))⟩
   | _=>exact h.elim
  ·rintro e W2 ⟨⟨v,rfl⟩,⟨T,⟨T1,e1,n1,hi,hl,hd⟩,hG⟩,hk⟩
   have hend:=run_endLoop (P:=P) hl (by rw[hrec];simp)
   rw[hrec] at hend
   refine⟨none,_,hend,hdone _ T1 (hI _ T1 W2 _ hi ((Keep.putObj _ _ _).mono fun i _ h=>?_)) (fun b hb=>?_) n1 ((World.putObj_heap_other (by omega)).trans hd) ?_⟩
   ·show i≠_
    rcases h with h | h
    ·omega
    ·exact (n1 i h).2
   ·obtain⟨h1,h2⟩:=hG b ((e1 b).2 (Or.inl hb))
    have h3:=n1 b hb
    rw[World.putObj_size]
    refine⟨h1,?_⟩
    rcases h2 with (h2 | h2 | h2) | h2
    ·exact Or.inl h2
    ·omega
    ·omega
    ·exact Or.inr (by omega)
   refine (hA.mono fun _ _ _=>trivial).trans (Keep.trans (hk.mono fun i _ h=>⟨by have:=h.1;omega,?_⟩) ((Keep.putObj _ _ _).mono fun i _ h=>by show i≠_;have:=h.1;omega))
   rintro (h2 | h2 | h2)
   ·exact h.2 h2
   ·have:=h.1;omega
   ·have:=h.1;omega
theorem qw4 {P:Program} {g:Operand} {ps:Array Tmp} {assign body:Code} {Q:Exit→Act→World→Prop} {a:Act} {w:World} {gf:FuncId} {lb:Array Value} {L:List (Array Value)} {B:Nat→Prop}
 (hg:a.eval g=.func (.func gf) #[] lb) (eg:qb6 P gf=true) (hseq:SeqC P gf lb L B w) (M:Nat→Prop) (hM:∀ b,M b→b<w.heap.size∧¬ B b) (hB:∀ b,B b→b<w.heap.size) (hps:∀ x∈L,x.size=ps.size)
 (I:Nat→World→Prop) (hI:∀ k w1 w2,I k w1→Keep (· < w.heap.size) w1 w2→I k w2) (h0:I 0 w)
 (hround:∀ l k x W,l=w.heap.size+1→L[k]?=some x→w.heap.size+2≤W.heap.size→I k W→
  assign.wpIn (FW (some l)) 0 P (Exit.then (fun a1 W1=>Keep (fun _=>True) W W1∧∀ W2,Keep (·≠l) W1 W2→W2.heap.size=W1.heap.size→body.wpIn (FW (some l)) 0 P (fun e _ W3=>e=.normal∧I (k+1) W3∧Keep (fun b=>¬ M b) W2 W3) a1 W2) (fun _ _ _=>False))
   { tmps:=(ps.zip x).foldl (fun t (p,v)=>t.setIfInBounds p v) a.tmps,defers:=[] } W)
 (hdone:∀ W,I L.length W→W.heap[w.heap.size]?=some (.deferred (some []))→Keep (fun b=>b<w.heap.size∧¬ M b) w W→Q .normal { a with defers:={ target:=.collected w.heap.size,args:=#[] }::a.defers } W) :
 (Code.rangeFunc g ps assign body).wpIn (FW none) 0 P Q a w:=by
 refine qdm hg eg hseq M hM hB hps (fun k T W=>T=M∧I k W) (fun k T w1 w2 h hk=>⟨h.1,hI k w1 w2 h.2 (hk.mono fun i _ hi=>Or.inl hi)⟩) ⟨rfl,h0⟩ ?_ (fun W T h _ _ hD hk=>hdone W h.2 hD hk)
 rintro l k x W T hl hx hs hT1 hT2 ⟨rfl,hi⟩
 refine wpIn_mono (hround l k x W hl hx hs hi) ?_
 intro e a1 W1 h
 cases e with
 | normal=>
  obtain⟨hk1,hb⟩:=h
  refine⟨hk1,fun W2 hk2 hs2=>wpIn_mono (hb W2 hk2 hs2) ?_⟩
  rintro e a3 W3 ⟨rfl,h1,h2⟩
  have h3:=hk1.size
  have h4:=h2.size
  exact⟨rfl,T,⟨rfl,h1⟩,h2,fun b hb=>⟨by have:=(hT1 b hb).1;omega,Or.inl hb⟩⟩
 | _=>exact h.elim
theorem qko {P:Program} {fn:Func} {R:Ending→World→Prop} {a:Act} {w:World} {D:Nat} (hd:a.defers=[{ target:=.collected D,args:=#[] }]) (hK:w.heap[D]?=some (.deferred (some [])))
 (h:∃ v,(results fn a.tmps).run P (w.putObj D (.deferred none))=.ok v (w.putObj D (.deferred none))∧R (.returned v) (w.putObj D (.deferred none))):bodyPostM (FW none) 0 P fn R .ret a w:=by
 show LeavesInM (FW none) 0 P fn a.tmps R a.defers .returning w
 rw[hd]
 exact⟨by simp,.inl ⟨D,_,rfl,run_takeDeferred hK,h⟩⟩
theorem qsP {P:Program} {fn:Func} {R:Ending→World→Prop} {a:Act} {w:World} (hd:a.defers=[]) (h:∃ v,(results fn a.tmps).run P w=.ok v w∧R (.returned v) w):bodyPostM (FW none) 0 P fn R .ret a w:=by
 show LeavesInM (FW none) 0 P fn a.tmps R a.defers .returning w
 rw[hd]
 exact h
theorem qeL {P:Program} {f:FuncId} {fn:Func} {c:Code} {args:Array Value} {w:World} {R:Ending→World→Prop} (hf:P.funcs[f]?=some fn) (hb:fn.body=some c)
 (h:c.wpIn (FW none) 0 P (bodyPostM (FW none) 0 P fn R) { tmps:=args++Array.replicate (fn.ntmps-args.size) undef,defers:=[] } w):Calls P f args w R:=(qcv (r:=none) (n:=0)).1 (callsIn_of_wp_marks hf hb trivial h)
theorem qev {P:Program} {F:Fence} {n:Nat} {ops:Array Oper} {Q:Exit→Act→World→Prop} {o:Oper} {l:List Oper} {a:Act} {w:World} (hg:o.guard=none) (h:o.wpIn F n P a w (wpListIn F n P ops Q l) Q):wpListIn F n P ops Q (o::l) a w:=by
 simp only[wpListIn,Region.wanted,hg,if_true]
 exact h
theorem qdx {P:Program} {F:Fence} {n:Nat} {ops:Array Oper} {Q:Exit→Act→World→Prop} {l:List Oper} {a:Act} {w:World} (h:wpListIn F n P ops Q (l++[]) a w):wpListIn F n P ops Q l a w:=by rwa [List.append_nil] at h
theorem Rel.put {W0:Base} {lo:Nat} {β:Bl} {n nb:Nat} {tm:List (Nat×SV)} {hp:List (Nat×Nat×SV)} {a:Act} {w:World} (R:Rel W0 lo β (qaC n nb tm hp []) (clr a) w) {d:Nat} {x:SV} {u:Value} (hd:d<n) (hx:x.is β u) :
 Rel W0 lo β (qaC n nb ((d,x)::tm) hp []) (clr (a.put (some d) u)) w:=by
 have hs:qbI (qaC n nb tm hp []) (some d) x=some (qaC n nb ((d,x)::tm) hp []):=by
  unfold qbI
  simp only
  have:Nat.ble (d+1) (qaC n nb tm hp []).n=true:=Nat.ble_eq_true_of_le hd
  rw[this];rfl
 have:=(R.t.put hs hx).1
 exact⟨by rw[qgY];exact this,R.h,R.dom,R.lo⟩
theorem qye {l:List Prop} (h:∀ p∈l,p):qaI l:=by
 induction l with
 | nil=>trivial
 | cons q r ih=>exact⟨h q (by simp),ih fun p hp=>h p (by simp[hp])⟩
theorem qqU {tm:List (Nat×SV)} {X:Prop} (h:X=qaI (tm.map fun e=>e.2.ren (fun b=>b)=e.2.ren (fun b=>b))):X:=h▸qnt _ tm
theorem qrp {hp:List (Nat×Nat×SV)} {X:Prop} (h:X=qaI (hp.map fun e=>some (e.2.2.ren (fun b=>b))=some (e.2.2.ren (fun b=>b)))):X:=h▸qaH _ hp
theorem Rel.now {W0:Base} {lo:Nat} {β:Bl} {n nb:Nat} {tm tm':List (Nat×SV)} {hp hp':List (Nat×Nat×SV)} {a:Act} {w:World} (R:Rel W0 lo β (qaC n nb tm hp []) a w) {l:Nat} (hn:(((qaO tm' hp').all fun b=>Nat.ble (b+1) l)&&qpX tm' hp')=true)
 (ht:qaI (eqT (fun b=>b) (qaC n nb tm hp []) tm')=qaI (tm'.map fun e=>e.2.ren (fun b=>b)=e.2.ren (fun b=>b))) (hh:qaI (eqH (fun b=>b) (qaC n nb tm hp []) hp')=qaI (hp'.map fun e=>some (e.2.2.ren (fun b=>b))=some (e.2.2.ren (fun b=>b)))):Rel w l (β.cut l) (qaC n l tm' hp' []) a w:=
 R.laterP (Keep.refl (fun _=>True) w) hn (qqU ht) (qrp hh) (fun _ _ _ _=>trivial) (fun _ _ _ _ _ _ _ _ _ _ _ _=>trivial)
theorem Rel.later {W0:Base} {lo:Nat} {β:Bl} {w w':World} {n nb:Nat} {tm tm':List (Nat×SV)} {hp hp':List (Nat×Nat×SV)} {S:Nat→Prop} {a:Act} (R:Rel W0 lo β (qaC n nb tm hp []) a w) (K:Keep S w w') {l:Nat} (hn:(((qaO tm' hp').all fun b=>Nat.ble (b+1) l)&&qpX tm' hp')=true)
 (ht:qaI (eqT (fun b=>b) (qaC n nb tm hp []) tm')=qaI (tm'.map fun e=>e.2.ren (fun b=>b)=e.2.ren (fun b=>b))) (hh:qaI (eqH (fun b=>b) (qaC n nb tm hp []) hp')=qaI (hp'.map fun e=>some (e.2.2.ren (fun b=>b))=some (e.2.2.ren (fun b=>b))))
 (hb:∀ b r,b<l→β b=some r→S r) (hr:∀ b o e es n xs u,qae hp' b o=some (.row e es n xs)→xs≠[]→β.g b=some u→∀ k,u.ownBlock=some k→S k):Rel w' l (β.cut l) (qaC n l tm' hp' []) a w':=
 R.laterP K hn (qqU ht) (qrp hh) hb hr
theorem Bl.cut_lt {β:Bl} {l b:Nat} (h:b<l):(β.cut l) b=β b∧(β.cut l).g b=β.g b:=by
 unfold Bl.cut
 simp only
 rw[if_pos h,if_pos h]
 exact⟨rfl,rfl⟩
theorem Bl.leU_f {β γ:Bl} {k b r:Nat} (h:β.leU k γ) (hb:b<k) (e:β b=some r):γ b=some r:=((h.1 b hb (Or.inl (by rw[e];simp))).1).trans e
theorem Bl.leU_g {β γ:Bl} {k b:Nat} {u:Value} (h:β.leU k γ) (hb:b<k) (e:β.g b=some u):γ.g b=some u:=((h.1 b hb (Or.inr (by rw[e];simp))).2).trans e
noncomputable def qcy (o:Oper):Call:=match o.op with
 | .call c=>c
 | _=>default
theorem qhG {P:Program} {F:Fence} {n:Nat} {ops:Array Oper} {Q:Exit→Act→World→Prop} {o:Oper} {l:List Oper} {a:Act} {w:World} {W0:Base} {lo:Nat} {β:Bl} {st:St} (R:Rel W0 lo β st (clr a) w) (hw:qbg ops st o=some true) (h:o.wpIn F n P a w (wpListIn F n P ops Q l) Q):wpListIn F n P ops Q (o::l) a w:=by
 have:Region.wanted o (yielded ops a.tmps)=true:=qas hw fun d _=>R.t.tmps d
 simp only[wpListIn,this,if_true]
 exact h
theorem Rel.gr {W0:Base} {lo:Nat} {β:Bl} {st:St} {a:Act} {w w':World} (R:Rel W0 lo β st a w) (g:Gr w w'):Rel W0 lo β st a w':=⟨R.t,R.h.gr_mono g,R.dom,R.lo⟩
theorem qsp {P:Program} {r:Option Nat} {o:Oper} {c:Call} {f:Operand} {g:FuncId} {cap:Array Value} {a:Act} {w:World} {xs:Array Value} {R:Ending→World→Prop} {next:Act→World→Prop} {Q:Exit→Act→World→Prop}
 (ho:o.op=.call c) (hc:c.callee=.value f) (hf:a.eval f=.func (.func g) #[] cap) (hb:qb6 P g=true) (hx:c.args.map a.eval=xs) (hy:Calls P g (xs++cap) w R)
 (hk:∀ e w',R e w'→∃ v,e=.returned v∧next (a.put o.dst v) w'):o.wpIn (FW r) 0 P a w next Q:=by
 refine⟨fun _ _=>trivial,?_⟩
 rw[Oper.semAt_eq _ _ _ (by simp[ho])]
 have he:(execOp a.eval o).run P w=.ok (.enter g (xs++cap)) w:=by
  unfold qb6 at hb
  split at hb
  ·rename_i fn hfn
   simp only[Bool.and_eq_true,Bool.not_eq_true'] at hb
   have h1:¬ fn.name="runtime.NumGoroutine":=by simpa using hb.2
   have h2:¬ fn.body=none:=fun e=>by have:=hb.1;rw[e] at this;cases this
   simp only[execOp,ho,resolve,hc,hf,hx]
   simp[Deferred.ofValue,invoke,callFunc,hfn,h1,h2]
  ·cases hb
 rw[he,Oper.uponIn_enter]
 refine⟨fun e=>(by cases e),qcv.2 (hy.mono fun e w' h=>?_)⟩
 obtain⟨v,rfl,h2⟩:=hk e w' h
 exact h2
theorem qfs {P:Program} {fn:Func} (h:fn.results=#[]) (tmps:Array Value) (w:World):(results fn tmps).run P w=.ok (.tuple #[]) w:=by
 unfold results
 simp[h]
theorem qlz:∀ (args:List SV) (k d:Nat),qax (qcA k args) d=if k≤d then args.getD (d-k) (.pv undef) else .pv undef
 | [],k,d=>by
  show SV.pv undef=_
  split
  ·simp
  ·rfl
 | x::r,k,d=>by
  rw[qcA,qaP]
  by_cases h:k=d
  ·subst h;simp
  ·rw[if_neg h,qlz r (k+1) d]
   by_cases h1:k+1≤d
   ·rw[if_pos h1,if_pos (by omega)]
    rw[show d-k=(d-(k+1))+1 by omega]
    simp
   ·rw[if_neg h1]
    by_cases h2:k≤d
    ·exact (h (by omega)).elim
    ·rw[if_neg h2]
theorem qdr {w:World} {k:Nat} {β:Bl} {hp:List (Nat×Nat×SV)} {args:List SV} {us:List Value} (H:HRel w k β hp w) (hd:β.dom k) (hu:SV.isl β args us) {n:Nat} (hn:us.length≤n) :
 Rel w k β (qaC n k (qcA 0 args) hp []) (clr { tmps:=us.toArray++Array.replicate (n-us.toArray.size) undef,defers:=[] }) w:=by
 refine⟨⟨by
  show (us.toArray++Array.replicate (n-us.toArray.size) undef).size=n
  simp
  omega,rfl,fun d=>?_⟩,H,hd,Nat.le_refl _⟩
 have hlen:=(SV.isl_get hu).1
 show (qax (qcA 0 args++qir n) d).is β ((us.toArray++Array.replicate (n-us.toArray.size) undef).getD d undef)
 have hg:(us.toArray++Array.replicate (n-us.toArray.size) undef).getD d undef=us.getD d undef:=by
  rw[Array.getD_eq_getD_getElem?,List.getD_eq_getElem?_getD,Array.getElem?_append]
  split
  ·simp
  ·rename_i hge
   rw[Array.getElem?_replicate]
   have:us[d]?=none:=List.getElem?_eq_none (by simpa using hge)
   rw[this]
   split<;>rfl
 rw[hg]
 have h0:=qgx 0 hu d
 rw[if_pos (Nat.zero_le _),Nat.sub_zero] at h0
 by_cases h:d<args.length
 ·have:qax (qcA 0 args++qir n) d=qax (qcA 0 args) d:=by
   have key:∀ (args:List SV) (k:Nat),k≤d→d<k+args.length→qax (qcA k args++qir n) d=qax (qcA k args) d:=by
    intro args
    induction args with
    | nil=>intro k h1 h2;simp at h2;omega
    | cons x r ih=>
     intro k h1 h2
     rw[qcA,List.cons_append,qaP,qaP]
     by_cases e:k=d
     ·rw[if_pos e,if_pos e]
     ·rw[if_neg e,if_neg e]
      exact ih (k+1) (by omega) (by simp at h2;omega)
   exact key args 0 (Nat.zero_le _) (by omega)
  rw[this]
  exact h0
 ·have hu0:us.getD d undef=undef:=by rw[List.getD_eq_getElem?_getD,List.getElem?_eq_none (by omega)];rfl
  have key:∀ (args:List SV) (k:Nat),k+args.length≤d→qax (qcA k args++qir n) d=qax (qir n) d:=by
   intro args
   induction args with
   | nil=>intro k _;rfl
   | cons x r ih=>
    intro k h1
    simp at h1
    rw[qcA,List.cons_append,qaP,if_neg (by omega)]
    exact ih (k+1) (by omega)
  rw[key args 0 (by omega),qcI,hu0]
  split
  ·trivial
  ·rfl
def qhZ (r0 r1:Nat):Bl:=⟨fun b=>if b=0 then some r0 else if b=1 then some r1 else none,fun _=>none,fun _=>none,fun _=>False⟩
theorem qld (r0 r1:Nat):(qhZ r0 r1).dom 2:=fun b hb=>by
 unfold qhZ
 simp only
 rw[if_neg (by omega),if_neg (by omega)]
 exact⟨rfl,trivial⟩
theorem qb7 {r0 r1 b r:Nat} (h:(qhZ r0 r1) b=some r):(b=0∧r=r0)∨(b=1∧r=r1):=by
 unfold qhZ at h
 simp only at h
 split at h
 ·rename_i e;cases h;exact Or.inl ⟨e,rfl⟩
 ·split at h
  ·rename_i e;cases h;exact Or.inr ⟨e,rfl⟩
  ·cases h
theorem qky {W:World} {r0 r1:Nat} {v0 v1:Value} (h0:W.cell? ⟨r0,0,none⟩=some v0) (f0:W.frozen? ⟨r0,0,none⟩=false) (o0:v0.oneCell'=true) (h1:W.cell? ⟨r1,0,none⟩=some v1) (f1:W.frozen? ⟨r1,0,none⟩=false) (o1:v1.oneCell'=true) (hne:r0≠r1) :
 HRel W 2 (qhZ r0 r1) [(0,0,.pv v0),(1,0,.pv v1)] W where
 gr:=Gr.refl W
 live:=fun b r h=>by
  rcases qb7 h with ⟨_,rfl⟩ | ⟨_,rfl⟩
  ·exact World.block_lt_of_cell? W _ h0
  ·exact World.block_lt_of_cell? W _ h1
 inj:=fun b c r e1 e2=>by
  rcases qb7 e1 with ⟨rfl,rfl⟩ | ⟨rfl,rfl⟩<;>rcases qb7 e2 with ⟨rfl,e⟩ | ⟨rfl,e⟩
  ·rfl
  ·exact (hne e).elim
  ·exact (hne e.symm).elim
  ·rfl
 new:=fun b r hb h=>by rcases qb7 h with ⟨e,_⟩ | ⟨e,_⟩<;>omega
 sep:=fun b r _=>rfl
 cells:=fun b o sv hl hs=>by
  rw[qaf] at hl
  split at hl
  ·rename_i e
   obtain⟨rfl,rfl⟩:=e
   cases hl
   exact⟨r0,v0,rfl,rfl,o0,h0,f0⟩
  ·rw[qaf] at hl
   split at hl
   ·rename_i e
    obtain⟨rfl,rfl⟩:=e
    cases hl
    exact⟨r1,v1,rfl,rfl,o1,h1,f1⟩
   ·cases hl
 rows0:=fun b o s hl hs=>by
  rw[qaf] at hl
  split at hl
  ·cases hl;cases hs
  ·rw[qaf] at hl
   split at hl
   ·cases hl;cases hs
   ·cases hl
 rinj0:=fun b o s c o' s' u v hl hl' _ _ h1 h2 hne h6=>by cases h6
 fz:=FzIs.no (fun _=>rfl) (fun b o e es n ds hl=>by
  have hl':=qaj hl
  simp at hl') (fun b o e es n ds hl=>by
  have hl':=qaj hl
  simp at hl')
 maps:=fun b o xs hl=>(qrl (by rfl) hl).elim
end Go.Proofs.YtleaeldgaflmkaaGreat
