/-
  Joined: Qg, Qh. Conditions: none.
-/
import Derived.Test.YtgbmdijodlfcaaaQf
import Derived.Test.YtgbmdijodlfcaaaW21
import Derived.Test.YtgbmdijodlfcaaaSxP
import Derived.Test.YtgbmdijodlfcaaaW25
namespace Go.Proofs.Ytgbmdijodlfcaaa
set_option maxRecDepth 100000
open Go.RowKit
theorem qmq {W:World} {l:Nat} {β:Bl} {hp:List (Nat×Nat×SV)} (H:HRel W l β hp W) {b:Nat} {u:Value} {e:TypeId} {es n:Nat} {xs:List Value} (hb:b<l) (hg:β.g b=some u) (hr:Rd W es u n xs) (h1:∀ v∈xs,v.oneCell'=true):HRel W l β ((b,0,.row e es n xs)::hp) W where
 gr:=H.gr
 live:=H.live
 inj:=H.inj
 new:=H.new
 sep:=H.sep
 cells:=fun c o sv hl hs=>by
  rw[qab] at hl
  split at hl
  ·cases hl;cases hs
  ·exact H.cells c o sv hl hs
 rows:=fun c o e' es' n' xs' hl=>by
  rw[qab] at hl
  split at hl
  ·rename_i e1
   obtain⟨rfl,rfl⟩:=e1
   cases hl
   exact⟨u,hg,hr,h1,fun _ hx k hk=>hr.lt hx k hk,fun h=>by omega,fun h=>by omega⟩
  ·exact H.rows _ _ _ _ _ _ hl
 rinj:=fun c o e' es' n' xs' c2 o2 e2 es2 n2 xs2 u1 v1 h1' h2' h3 h4 h5 h6 h7=>by
  rw[qab] at h1' h2'
  split at h1'
  ·rename_i e1;have:=e1.1;omega
  ·split at h2'
   ·rename_i e1;have:=e1.1;omega
   ·exact H.rinj _ _ _ _ _ _ _ _ _ _ _ _ u1 v1 h1' h2' h3 h4 h5 h6 h7
 maps:=fun c o xs' hl=>by
  rw[qab] at hl
  split at hl
  ·cases hl
  ·exact H.maps _ _ _ hl
theorem qiU {P:Program} {r:Option Nat} {o:Oper} {t e:TypeId} {x y:Operand} {v u:Value} {us xs:List Value} {a:Act} {w:World} {i:TypeInfo} {base es n n' q g o' c:Nat} {next:Act→World→Prop} {Q:Exit→Act→World→Prop}
 (ho:o.op=.store t x y) (hx:a.eval x=.pointer (some ⟨g,o'+q,none⟩)) (hy:a.eval y=v) (hi:P.info? t=some i) (hv:v.cells.size=i.size) (hvt:v.cells.toList=us) (h1:∀ z∈us,z.oneCell'=true)
 (hown:w.ownsRow base e es u n xs) (hu:u=.slice (some ⟨g,o',none⟩) n' c) (hq:q+us.length≤xs.length)
 (h:∀ w',Upd w w' u.ownBlock→w'.ownsRow base e es u n (qdE xs q us)→next (a.put o.dst undef) w'):o.wpIn (FW r) 0 P a w next Q:=by
 obtain⟨w',f1,f2,f3⟩:=qeu (P:=P) hown hu hq h1
 refine⟨fun _ _=>trivial,?_⟩
 rw[Oper.semAt_eq _ _ _ (by simp[ho])]
 have he:(execOp a.eval o).run P w=.ok .skip w':=by
  simp only[execOp,ho]
  refine qb4 ?_
  rw[hx,hy]
  simp[Instr.storeAt,Instr.sureAddr,storeVar,qaC hi w,hv,hvt,f1]
 rw[he,Oper.uponIn_skip]
 exact h w' f2 f3
theorem qi6 {w:World} {base:Nat} {e:TypeId} {es n:Nat} {u:Value} {xs:List Value} (h:w.ownsRow base e es u n xs) {a:Addr} (ha:u.ownBlock=some a.block):w.frozen? a=false:=by
 rcases h.2 with ⟨rfl,_⟩ | ⟨g,cap,cur,rfl,h3,h4,_⟩
 ·cases ha
 ·have e1:g=a.block:=by simpa [Value.ownBlock] using ha
  subst e1
  unfold World.frozen?
  rw[h4]
  simp
theorem qpk {w w':World} {base:Nat} {e:TypeId} {es n:Nat} {u:Value} {xs ys:List Value} (h:w.ownsRow base e es u n xs) (h':w'.ownsRow base e es u n ys) (k:Keep (fun b=>u.ownBlock≠some b) w w'):Upd w w' u.ownBlock where
 g:=⟨k.os,k.tape,k.output,k.size,fun b hb hne=>k.block b hb fun e=>hne e.symm⟩
 fz:=fun a ha=>by
  by_cases e:u.ownBlock=some a.block
  ·rw[qi6 h e,qi6 h' e]
  ·exact World.frozen?_of_block (k.block a.block ha e)
 dr:=k.drawn
section
variable {s:List Pt} {tn td:Int}
theorem qlL {g w:List Int} {c:List Int} {k:Nat} (hk:k<w.length) (h:won s tn td ((⟨g,w⟩:Br).nd (2*k+1)) ((⟨g,w⟩:Br).nd (2*k+2))=(⟨g,w⟩:Br).nd k):rpS s tn td (⟨g,w⟩,c) k=(⟨g,w⟩,c):=by
 unfold rpS
 simp only
 rw[if_pos h,h,qgp (qbN (b:=⟨g,w⟩) hk)]
theorem qe3 {g w:List Int} {c:List Int} {k:Nat} (h:¬ won s tn td ((⟨g,w⟩:Br).nd (2*k+1)) ((⟨g,w⟩:Br).nd (2*k+2))=(⟨g,w⟩:Br).nd k):rpS s tn td (⟨g,w⟩,c) k=(⟨g,w.set k (won s tn td ((⟨g,w⟩:Br).nd (2*k+1)) ((⟨g,w⟩:Br).nd (2*k+2)))⟩,c++[(k:Int)]):=by
 unfold rpS
 simp only
 rw[if_neg h]
set_option maxHeartbeats 1000000 in
theorem qhU (htn:I64 tn) (htd:I64 td) (hs:Val s) (ht:okB tn td=true) {g w0:List Int} {n m j:Nat} (hn:w0.length=n) (hm:g.length=m) (hw:n+1=m) (hl:m≤64) (hj:j<m) (hX:InX s ⟨g,w0⟩ (n+j)) :
 FnX Try.prog 47 5 (rA n m (j:Int)) (hpR w0 g n m s tn td) 0 ⟨3,1,n,ziV w0⟩ (ziV (rpF s tn td (wy (n+j)) (⟨g,w0⟩,[])).1.w)
  3 1 (rpF s tn td (wy (n+j)) (⟨g,w0⟩,[])).2.length (ziV (rpF s tn td (wy (n+j)) (⟨g,w0⟩,[])).2):=by
 intro W β us base uW H hdm hu hg0 hown hbase hap har
 have hown:W.ownsRow base 3 1 uW n (ziV w0):=hown
 have hWlt:∀ k,uW.ownBlock=some k→base≤k∧k<W.heap.size:=qaf hown
 refine qg1 (c:=rc []) Try.func47 (by kernel_rfl) ?_
 have hul:us.length≤44:=by have:=(SV.isl_get hu).1;simp at this;omega
 have R0:=qfc (n:=44) (args:=rA n m (j:Int)) (us:=us) H hdm hu hul
 rw[qf3]
 refine wpIn_seq (qqd w0 g n m s tn td _ none W β _ W _ R0 fun β1 a1 w1 hle1 hd1 R1=>?_)
 refine wpIn_seq (qku w0 g n m s tn td _ none W β1 a1 w1 _ R1 fun β2 a2 w2 hle2 hd2 R2=>?_)
 refine wpIn_seq (wpIn_seq (qpr w0 g n m s tn td (j:Int) ((n+j:Nat):Int) (by rw[qbo (by omega) (by omega)];congr 1) none W β2 a2 w2 _ R2 fun β5 a5 w5 hle5 hd5 R5=>?_))
 have hd:a5.defers=[]:=hd5.trans (hd2.trans hd1)
 have hg:Gr W w5:=R5.h.gr
 have hsg:=hg.size
 have lift:∀ b u,b<5→β.g b=some u→β5.g b=some u:=fun b u hb e=>Bl.leU_g hle5 (by omega) (Bl.leU_g hle2 (by omega) (Bl.leU_g hle1 (by omega) e))
 have liftf:∀ b u,b<5→β b=some u→β5 b=some u:=fun b u hb e=>Bl.leU_f hle5 (by omega) (Bl.leU_f hle2 (by omega) (Bl.leU_f hle1 (by omega) e))
 have g0:β5.g 0=some uW:=lift 0 _ (by omega) hg0
 obtain⟨up,hgp,hpr⟩:=H.rows 1 0 _ _ _ _ rfl
 have g1:β5.g 1=some up:=lift 1 _ (by omega) hgp
 obtain⟨r7,e7⟩:=qbs R5.h (b:=7) (o:=0) rfl rfl
 obtain⟨r8,e8⟩:=qbs R5.h (b:=8) (o:=0) rfl rfl
 have c7:=qjG R5.h (b:=7) (o:=0) rfl e7
 have c8:=qjG R5.h (b:=8) (o:=0) rfl e8
 have n7:=R5.h.new 7 r7 (by omega) e7
 have n8:=R5.h.new 8 r8 (by omega) e8
 have ne78:r8≠r7:=fun h=>by subst h;have:=R5.h.inj 7 8 _ e7 e8;omega
 obtain⟨vs,p1,t15⟩:∃ vs,S0.isl β5 [.pp 8 0] vs∧a5.tmps.getD 15 undef=.func (.func 71) #[] vs.toArray:=R5.t.tmps 15
 obtain⟨r',e',rfl⟩:=qmr p1;rw[e8] at e';cases e'
 obtain⟨r',e',t7⟩:∃ r,β5 7=some r∧a5.tmps.getD 7 undef=qeB r:=R5.t.tmps 7
 rw[e7] at e';cases e'
 obtain⟨r3,e3,t3⟩:∃ r,β5 5=some r∧a5.tmps.getD 3 undef=qeB r:=R5.t.tmps 3
 obtain⟨r5,e5,t5⟩:∃ r,β5 6=some r∧a5.tmps.getD 5 undef=qeB r:=R5.t.tmps 5
 have hsz:a5.tmps.size=44:=R5.t.size
 have ow5:w5.ownsRow base 3 1 uW n (ziV w0):=qau hown (Keep.of_gr hg (fun _=>True)) fun _ _=>trivial
 have hnm:∀ b r,b<7→β5 b=some r→r<w5.heap.size∧¬ (r=r7∨uW.ownBlock=some r):=fun b r hb e=>by
  refine⟨R5.h.live b r e,fun h=>?_⟩
  rcases h with h | h
  ·subst h;have:=R5.h.inj b 7 _ e e7;omega
  ·rcases Nat.lt_or_ge b 5 with h5 | h5
   ·match b,h5 with
    | 0,_=>have:=R5.h.sep 0 r e;rw[g0] at this;cases this
    | 1,_=>have:=R5.h.sep 1 r e;rw[g1] at this;cases this
    | 2,_=>
     obtain⟨r2,a1,_⟩:=H.maps 2 0 _ rfl
     have:=liftf 2 _ (by omega) a1
     rw[this] at e;cases e
     exact hap 2 _ a1 h
    | 3,_=>
     obtain⟨r2,a1⟩:=qbs H (b:=3) (o:=0) rfl rfl
     have:=liftf 3 _ (by omega) a1
     rw[this] at e;cases e
     exact hap 3 _ a1 h
    | 4,_=>
     obtain⟨r2,a1⟩:=qbs H (b:=4) (o:=0) rfl rfl
     have:=liftf 4 _ (by omega) a1
     rw[this] at e;cases e
     exact hap 4 _ a1 h
   ·have h1:=R5.h.new b r h5 e
    have h2:=(hWlt r h).2
    omega
 have hrow:∀ b o e es k xs u,qac (qrE g n m s tn td) b o=some (.row e es k xs)→xs≠[]→β5.g b=some u→∀ k,u.ownBlock=some k→k<w5.heap.size∧¬ (k=r7∨uW.ownBlock=some k):=fun b o e es k' xs u hl hx hu2 k hk=>by
  have hm':=qan hl
  simp at hm'
  obtain⟨rfl,rfl,rfl,rfl,rfl,rfl⟩:=hm'
  rw[g1] at hu2;cases hu2
  have h1:=hpr.rd.lt hx k hk
  refine⟨by omega,fun h=>?_⟩
  rcases h with h | h
  ·omega
  ·exact har 1 0 _ _ _ _ up rfl (by decide) hx hgp k h hk
 have mkR:∀ (w':World) (wk:List Int) (a:Act) (x:Int),Keep (fun b=>b<w5.heap.size∧¬ (b=r7∨uW.ownBlock=some b)) w5 w'→w'.ownsRow base 3 1 uW n (ziV wk)→a.tmps.size=44→a.tmps.getD 3 undef=qeB r3→a.tmps.getD 5 undef=qeB r5→a.tmps.getD 7 undef=qeB r7→a.tmps.getD 8 undef=iV x→
  Rel w' 7 (β5.cut 7) (qaB 44 7 (tmA (qeB r7) x) (hpB wk g n m s tn td) []) (clr a) w':=fun w' wk a x K ho hsz' q3 q5 q7 q8=>by
  have RL:=R5.later K (l:=7) (tm':=[]) (hp':=qrE g n m s tn td) (by kernel_rfl) (by kernel_rfl) (by kernel_rfl) hnm hrow
  refine qgJ (qmq RL.h (show 0<7 by omega) ((Bl.cut_lt (show 0<7 by omega)).2.trans g0) (qep ho) (qfn _)) (Bl.cut_dom β5 7) (Nat.le_refl _) hsz' ⟨⟨r3,(Bl.cut_lt (show 5<7 by omega)).1.trans e3,q3⟩,⟨r5,(Bl.cut_lt (show 6<7 by omega)).1.trans e5,q5⟩,q7,q8,trivial⟩
 have hwl:(wyV (n+j)).length≤6:=by unfold wyV;rw[List.length_map];exact qdv _
 refine wpIn_block (qft (L:=(wyV (n+j)).map iA) t15 (by kernel_rfl) (qj1 (B:=(· = r8)) (by omega) c8 rfl) (fun b=>b=r7∨uW.ownBlock=some b) (fun b hb=>?_) (fun b hb=>by rw[hb];exact c8.lt) (fun x hx=>by
  obtain⟨z,_,rfl⟩:=List.mem_map.1 hx
  rfl)
  (fun k T w=>∃ wk c q u,wk.length=n∧q≤126∧q≤2*n∧wy q=(wy (n+j)).drop k∧InX s ⟨g,wk⟩ q∧rpF s tn td (wy q) (⟨g,wk⟩,c)=rpF s tn td (wy (n+j)) (⟨g,w0⟩,[])∧c.length≤k∧Cel w r7 0 u∧Keep (fun b=>b<w5.heap.size∧¬ (b=r7∨uW.ownBlock=some b)) w5 w∧
   w.ownsRow base 3 1 uW n (ziV wk)∧w.ownsRow W.heap.size 3 1 u c.length (ziV c)∧(∀ b,T b↔b=r7∨uW.ownBlock=some b∨u.ownBlock=some b)∧u.ownBlock≠some r7) ?_
  ⟨w0,[],n+j,qqF,hn,by omega,by omega,rfl,hX,rfl,Nat.le_refl _,c7,Keep.refl _ _,ow5,World.ownsRow_nil _ _ _ _,fun b=>⟨fun h=>h.elim Or.inl fun h=>Or.inr (Or.inl h),fun h=>h.elim Or.inl fun h=>h.elim Or.inr fun h=>by cases h⟩,(fun h=>by cases h)⟩ ?_ ?_)
 ·rcases hb with rfl | hb
  ·exact⟨c7.lt,fun h=>ne78 h.symm⟩
  ·have h2:=(hWlt b hb).2
   exact⟨by omega,fun h=>by omega⟩
 ·rintro k T v1 v2 ⟨wk,c,q,u,h1,h2,h2',h3,h4,h5,h6,h7,h8,h9,h10,h11,h12⟩ hk
  exact⟨wk,c,q,u,h1,h2,h2',h3,h4,h5,h6,h7.keep hk (Or.inr ((h11 _).2 (Or.inl rfl))),h8.trans (hk.mono fun i _ h=>Or.inl h.1),qau h9 hk (fun b hb=>Or.inr ((h11 b).2 (Or.inr (Or.inl hb)))),qau h10 hk (fun b hb=>Or.inr ((h11 b).2 (Or.inr (Or.inr hb)))),h11,h12⟩
 ·rintro lr k x Wr T rfl hx hszr hT1 hT2 ⟨wk,c,q,u,h1,h2,h2',h3,h4,h5,h6,h7,h8,h9,h10,h11,h12⟩
  obtain⟨kk,hkk,rfl⟩:∃ kk:Nat,(wy (n+j))[k]?=some kk∧x=iA (kk:Int):=by
   rw[wyV,List.map_map,List.getElem?_map] at hx
   cases hm':(wy (n+j))[k]? with
   | none=>rw[hm'] at hx;cases hx
   | some z=>rw[hm'] at hx;cases hx;exact⟨z,rfl,rfl⟩
  have hk6:k<6:=by have:=qas hkk;have:=qdv (n+j);omega
  obtain⟨i,rfl,rfl⟩:∃ i,q=i+1∧kk=i/2:=by
   have e0:(wy q)[0]?=some kk:=by rw[h3,List.getElem?_drop];exact hkk
   match q,h2,e0 with
   | 0,_,e0=>rw[qf7] at e0;cases e0
   | i+1,hq,e0=>rw[qaX (by omega)] at e0;exact⟨i,rfl,(Option.some.inj e0).symm⟩
  have hil:i/2<wk.length:=by omega
  have hnx:wy (i/2)=(wy (n+j)).drop (k+1):=by
   have e1:(wy (i+1)).drop 1=((wy (n+j)).drop k).drop 1:=by rw[h3]
   rw[qaX (by omega),List.drop_drop] at e1
   simpa using e1
  have h5':rpF s tn td (wy (i/2)) (rpS s tn td (⟨g,wk⟩,c) (i/2))=rpF s tn td (wy (n+j)) (⟨g,w0⟩,[]):=by
   rw[qaX (by omega)] at h5
   exact h5
  have hact:({ tmps:=((#[16]:Array Tmp).zip (iA ((i/2:Nat):Int))).foldl (fun t (p,v)=>t.setIfInBounds p v) a5.tmps,defers:=[] }:Act)=clr (a5.put (some 16) (iV ((i/2:Nat):Int))):=by simp[iA,clr,Act.put]
  rw[hact]
  have tp:∀ d,d≠16→(clr (a5.put (some 16) (iV ((i/2:Nat):Int)))).tmps.getD d undef=a5.tmps.getD d undef:=fun d hd=>by
   show (a5.put (some 16) _).tmps.getD d undef=_
   rw[qbH _ _ _ _ _ (by rw[hsz];decide),if_neg (fun e=>hd e.symm)]
  have R6:Rel Wr 0 (qcU []) (qaB 44 0 [(3,.pv (qeB r3)),(5,.pv (qeB r5)),(7,.pv (qeB r7)),(16,.pv (iV ((i/2:Nat):Int)))] [] []) (clr (clr (a5.put (some 16) (iV ((i/2:Nat):Int))))) Wr:=
   qgJ (qbk (rs:=[]) (by simp) (by simp) trivial) (qb1 []) (Nat.le_refl _) (by simp[clr,Act.put,hsz]) ⟨(tp 3 (by decide)).trans t3,(tp 5 (by decide)).trans t5,(tp 7 (by decide)).trans t7,by
    show (a5.put (some 16) _).tmps.getD 16 undef=_
    rw[qbH _ _ _ _ _ (by rw[hsz];decide),if_pos rfl],trivial⟩
  refine qjm _ (qeB r3) (qeB r5) (qeB r7) (some _) Wr _ (clr (a5.put (some 16) (iV ((i/2:Nat):Int)))) Wr _ R6 fun β7 a7 w7 hle7 hd7 R7=>?_
  have hg7:Gr Wr w7:=R7.h.gr
  refine⟨Keep.of_gr hg7 _,fun W2 hk2 hs2=>?_⟩
  have hT7:T r7:=(h11 r7).2 (Or.inl rfl)
  have K2:Keep (fun b=>b<w5.heap.size∧¬ (b=r7∨uW.ownBlock=some b)) w5 W2:=(h8.trans (Keep.of_gr hg7 _)).trans (hk2.mono fun i _ h=>by show i≠_;have:=h.1;omega)
  have ow2:W2.ownsRow base 3 1 uW n (ziV wk):=qau (qau h9 (Keep.of_gr hg7 (fun _=>True)) fun _ _=>trivial) hk2 fun b hb=>(hT1 b ((h11 b).2 (Or.inr (Or.inl hb)))).2.2
  have ou2:W2.ownsRow W.heap.size 3 1 u c.length (ziV c):=qau (qau h10 (Keep.of_gr hg7 (fun _=>True)) fun _ _=>trivial) hk2 fun b hb=>(hT1 b ((h11 b).2 (Or.inr (Or.inr hb)))).2.2
  have cu2:Cel W2 r7 0 u:=(h7.gr hg7).keep hk2 (hT1 r7 hT7).2.2
  have hsW2:w5.heap.size≤W2.heap.size:=K2.size
  have huge:∀ b,u.ownBlock=some b→W.heap.size≤b:=fun b hb=>(ou2.lt b hb).1
  have R8:=mkR W2 wk a7 ((i/2:Nat):Int) K2 ow2 R7.t.size (R7.t.tmps 3) (R7.t.tmps 5) (R7.t.tmps 7) (R7.t.tmps 8)
  obtain⟨in1,in2⟩:=h4.kids (by omega) hil
  have hXn:InX s ⟨g,wk.set (i/2) (won s tn td ((⟨g,wk⟩:Br).nd (2*(i/2)+1)) ((⟨g,wk⟩:Br).nd (2*(i/2)+2)))⟩ (i/2):=h4.next (b:=⟨g,wk⟩) (by omega) hil
  refine wpIn_block (wpIn_seq (qpJ wk g n m s tn td _ _ _ _ (qeB r7) (qih (b:=⟨g,wk⟩) h1 hm hw (by omega) (i:=i/2) (by omega) rfl) (qm2 htn htd hs ht in1 in2) (some _) W2 _ a7 W2 _ R8 fun β9 a9 w9 hle9 hd9 R9=>?_))
  have hold:=qbN (b:=⟨g,wk⟩) hil
  by_cases hv:won s tn td ((⟨g,wk⟩:Br).nd (2*(i/2)+1)) ((⟨g,wk⟩:Br).nd (2*(i/2)+2))=(⟨g,wk⟩:Br).nd (i/2)
  ·refine wpIn_seq (ql6 wk g n m (i/2) s tn td _ _ (qeB r7) false ⟨by omega,by omega⟩ hold (by simp[hv]) (some _) W2 β9 a9 w9 _ R9 fun β10 a10 w10 hle10 hd10 R10=>?_)
   have t33:a10.tmps.getD 33 undef=.bool false:=R10.t.tmps 33
   have hg10:Gr W2 w10:=R10.h.gr
   rw[hv,qgp hold] at hXn
   rw[qlL hil hv] at h5'
   refine wpIn_cond_false t33 (wpIn_skip ⟨rfl,T,⟨wk,c,i/2,u,h1,by omega,by omega,hnx,hXn,h5',by omega,cu2.gr hg10,K2.trans (Keep.of_gr hg10 _),qau ow2 (Keep.of_gr hg10 (fun _=>True)) fun _ _=>trivial,qau ou2 (Keep.of_gr hg10 (fun _=>True)) fun _ _=>trivial,h11,h12⟩,Keep.of_gr hg10 _,fun b hb=>⟨?_,Or.inl hb⟩⟩)
   have h13:=(hT1 b hb).1
   have h14:=hg7.size
   have h15:=hg10.size
   omega
  ·refine wpIn_seq (ql6 wk g n m (i/2) s tn td _ _ (qeB r7) true ⟨by omega,by omega⟩ hold (by simpa using hv) (some _) W2 β9 a9 w9 _ R9 fun β10 a10 w10 hle10 hd10 R10=>?_)
   have t33:a10.tmps.getD 33 undef=.bool true:=R10.t.tmps 33
   rw[qe3 hv] at h5'
   refine wpIn_cond_true t33 (wpIn_seq (wpIn_region_list ?_))
   obtain⟨o,hol,ho,hdst,hgd⟩:=qki
   rw[qmQ,hol]
   refine qmJ wk g n m (i/2) s tn td _ (qeB r7) ⟨by omega,by omega⟩ (some _) W2 β10 a10 w10 _ _ R10 fun β11 a11 w11 hle11 hd11 R11=>qc3 hgd ?_
   obtain⟨rw',o',n',c',gw,t38⟩:∃ r o n c,β11.g 0=some (.slice (some ⟨r,o,none⟩) n c)∧a11.tmps.getD 38 undef=.pointer (some ⟨r,o+(0*1+i/2*1),none⟩):=R11.t.tmps 38
   have g11:β11.g 0=some uW:=Bl.leU_g hle11 (by omega) (Bl.leU_g hle10 (by omega) (Bl.leU_g hle9 (by omega) ((Bl.cut_lt (show 0<7 by omega)).2.trans g0)))
   rw[g11] at gw
   have euW:=Option.some.inj gw
   have hg11:Gr W2 w11:=R11.h.gr
   have ow11:=qau ow2 (Keep.of_gr hg11 (fun _=>True)) fun _ _=>trivial
   obtain⟨inf,hinf,hz,hsi,hby⟩:=qjU
   refine qiU (us:=[iV (won s tn td ((⟨g,wk⟩:Br).nd (2*(i/2)+1)) ((⟨g,wk⟩:Br).nd (2*(i/2)+2)))]) ho t38 (R11.t.tmps 37) hinf (by rw[hsi];rfl) rfl (by intro z hz;rw[List.mem_singleton] at hz;rw[hz];rfl) ow11 euW (qcA wk (i/2) hil) fun w12 hup how12=>?_
   rw[← qli wk (i/2) _ hil] at how12
   rw[hdst]
   have k12:Keep (fun b=>uW.ownBlock≠some b) w11 w12:=(Keep.upd hup).mono fun b _ h e=>h e.symm
   have ou12:w12.ownsRow W.heap.size 3 1 u c.length (ziV c):=qau (qau ou2 (Keep.of_gr hg11 (fun _=>True)) fun _ _=>trivial) k12 fun b hb e=>by
    have a1:=huge b hb
    have a2:=(hWlt b e).2
    omega
   have cu12:Cel w12 r7 0 u:=(cu2.gr hg11).keep k12 fun e=>by
    have a2:=(hWlt r7 e).2
    omega
   have s11:=hg11.size
   have s12:=k12.size
   show (Code.region 7 rio false).wpIn (FW (some _)) 0 Try.prog _ _ w12
   refine qnD (base:=W.heap.size) (by omega) cu12 ou12 h12 (R11.t.tmps 7) (R11.t.tmps 8) R11.t.size (by omega) fun a' w' u' hkw hc' ho' hnew hnr'=>?_
   have K':Keep (fun b=>b<w5.heap.size∧¬ (b=r7∨uW.ownBlock=some b)) w5 w':=((K2.trans (Keep.of_gr hg11 _)).trans (k12.mono fun b _ h e=>h.2 (Or.inr e))).trans (hkw.mono fun b _ h=>⟨fun e=>h.2 (Or.inl e),fun e=>h.2 (hT2 b ((h11 b).2 (Or.inr (Or.inr e))) h.1)⟩)
   have ow':w'.ownsRow base 3 1 uW n _:=qau how12 hkw fun b hb=>⟨fun e=>by have:=(hWlt b hb).2;omega,fun e=>by have a1:=huge b e;have a2:=(hWlt b hb).2;omega⟩
   refine⟨rfl,fun b=>b=r7∨uW.ownBlock=some b∨u'.ownBlock=some b,⟨_,_,i/2,u',(by rw[List.length_set];exact h1),by omega,by omega,hnx,hXn,h5',(by rw[List.length_append];show c.length+1≤k+1;omega),hc',K',ow',(by rw[List.length_append];exact ho'),fun _=>Iff.rfl,hnr'⟩,?_,?_⟩
   ·exact ((Keep.of_gr hg11 _).trans (k12.mono fun b _ h e=>h ((h11 b).2 (Or.inr (Or.inl e))))).trans (hkw.mono fun b _ h=>⟨fun e=>h ((h11 b).2 (Or.inl e)),fun e=>h ((h11 b).2 (Or.inr (Or.inr e)))⟩)
   ·intro b hb
    rcases hb with rfl | hb | hb
    ·exact⟨hc'.lt,Or.inl hT7⟩
    ·exact⟨(ow'.lt b hb).2,Or.inl ((h11 b).2 (Or.inr (Or.inl hb)))⟩
    ·exact⟨(ho'.lt b hb).2,(hnew b hb).imp (fun h=>(h11 b).2 (Or.inr (Or.inr h))) fun h=>by omega⟩
 ·rintro w6 T ⟨wk,c,q,u,h1,h2,h2',h3,h4,h5,h6,h7,h8,h9,h10,h11,h12⟩ hG hnT hD hk6
  have e0:wy q=[]:=by rw[h3];exact List.drop_eq_nil_of_le (by simp[wyV])
  have e1:rpF s tn td (wy q) (⟨g,wk⟩,c)=(⟨g,wk⟩,c):=by rw[e0];rfl
  rw[e1] at h5
  rw[← h5]
  have u1:=qjy (qdt h10)
  have R7:Rel w6 1 (qcU [r7]) (qaB 44 1 [(7,.pp 0 0)] [(0,0,.pv u)] []) (clr { a5 with defers:={ target:=.collected w5.heap.size,args:=#[] }::a5.defers }) w6:=
   qgJ (qbk (rs:=[r7]) (by simp) (by simpa using h7.lt) ⟨⟨r7,_,rfl,rfl,h7,u1⟩,trivial⟩) (qb1 [r7]) (Nat.le_refl _) hsz ⟨⟨r7,rfl,t7⟩,trivial⟩
  show (rc [1,1,1]).wpIn (FW none) 0 Try.prog _ _ w6
  refine qoF u none w6 _ _ w6 _ R7 fun β8 a8 w8 hle8 hd8 R8=>?_
  have hg8:Gr w6 w8:=R8.h.gr
  have hkp:Keep (·≠w5.heap.size) w8 (w8.putObj w5.heap.size (.deferred none)):=Keep.putObj _ _ _
  have R9:Rel _ 0 (β8.cut 0) (qaB 44 0 [(6,.pv u)] [] []) (clr a8) (w8.putObj w5.heap.size (.deferred none)):=
   R8.later hkp (by kernel_rfl) (by kernel_rfl) (by kernel_rfl) (fun b r hb _=>by omega) (fun b o e es n xs v hl=>by cases hl)
  obtain⟨v,hv,hx⟩:=qfB (P:=Try.prog) (fn:=Try.f47) (x:=.pv u) R9 (by kernel_rfl)
  obtain rfl:v=u:=hx
  have owE:(w8.putObj w5.heap.size (.deferred none)).ownsRow base 3 1 uW n (ziV wk):=qau (qau h9 (Keep.of_gr hg8 (fun _=>True)) fun _ _=>trivial) hkp fun b hb=>(hnT b ((h11 b).2 (Or.inr (Or.inl hb)))).1
  have ouE:(w8.putObj w5.heap.size (.deferred none)).ownsRow W.heap.size 3 1 v c.length (ziV c):=qau (qau h10 (Keep.of_gr hg8 (fun _=>True)) fun _ _=>trivial) hkp fun b hb=>(hnT b ((h11 b).2 (Or.inr (Or.inr hb)))).1
  have kE:Keep (fun b=>b<W.heap.size∧uW.ownBlock≠some b) W (w8.putObj w5.heap.size (.deferred none)):=
   (((Keep.of_gr hg _).trans (h8.mono fun b _ h=>⟨by have:=h.1;omega,fun e=>e.elim (fun e=>by have:=h.1;omega) h.2⟩)).trans (Keep.of_gr hg8 _)).trans (hkp.mono fun b _ h=>by show b≠_;have:=h.1;omega)
  refine qhv (D:=w5.heap.size) (by rw[hd8,hd]) ((Keep.of_gr hg8 (fun _=>True)).at hD trivial) ⟨v,hv,v,rfl,qpk hown owE (kE.mono fun b hb h=>⟨hb,h⟩),owE,qfn _,qdt ouE,ouE,qfn _⟩
end
end Go.Proofs.Ytgbmdijodlfcaaa

namespace Go.Proofs.Ytgbmdijodlfcaaa
set_option maxRecDepth 100000
open Go.RowKit
theorem qmc {β:Bl}:∀ vs:List Value,S1.isl β (vs.map fun v=>.one (.pv v)) vs
 | []=>trivial
 | _::r=>⟨rfl,qmc r⟩
theorem qqn {P:Program} {f:FuncId} {k m:Nat} {args:List SV} {pre post:List (Nat×Nat×SV)} {vs:List Value} (h:FnL P f k args pre (.pv (.tuple vs.toArray)) m post):FnL P f k args pre (.tu (vs.map fun v=>.one (.pv v))) m post:=by
 intro w β us H hd hi
 refine (h w β us H hd hi).mono fun e w' ⟨v,β',he,hle,hx,hh,hd'⟩=>⟨v,β',he,hle,⟨vs,qmc vs,hx⟩,hh,hd'⟩
theorem qmL {P:Program} {f:FuncId} {k m:Nat} {args:List SV} {pre post post':List (Nat×Nat×SV)} {x:SV} (h:FnL P f k args pre x m post) (hi:∀ b o s,qac post' b o=some s→qac post b o=some s):FnL P f k args pre x m post':=by
 intro w β us H hd hu
 exact (h w β us H hd hu).mono fun e w' ⟨v,β',he,hle,hx,hh,hd'⟩=>⟨v,β',he,hle,hx,hh.imp fun b o s h=>hi b o s h,hd'⟩
abbrev qos (b:Nat):Nat×Nat×SV:=(b,0,.row 3 1 0 [])
section
variable {P:Program} {f:FuncId} {k:Nat} {args:List SV} {pre:List (Nat×Nat×SV)} {e:Int}
theorem qi8 (h:FnL P f k args pre (.pv (.tuple #[.agg #[.slice none 0 0,.slice none 0 0],.slice none 0 0,iV e])) 0 []):FnL P f k args pre (.tu [.ag [.ls k 0,.ls (k+1) 0],.one (.ls (k+2) 0),.one (.pv (iV e))]) 3 [qos k,qos (k+1),qos (k+2)]:=by
 have h1:=qfJ 3 1 (qqn (vs:=[.agg #[.slice none 0 0,.slice none 0 0],.slice none 0 0,iV e]) h) (x':=.tu [.ag [.ls k 0,.pv (.slice none 0 0)],.one (.pv (.slice none 0 0)),.one (.pv (iV e))]) (.tu (.cons (.un (vs:=[.slice none 0 0,.slice none 0 0]) (.cons .nil (.cons (.same _) .nil))) (.cons (.one (.same _)) (.cons (.one (.same _)) .nil))))
 have h2:=qfJ 3 1 h1 (x':=.tu [.ag [.ls k 0,.ls (k+1) 0],.one (.pv (.slice none 0 0)),.one (.pv (iV e))]) (.tu (.cons (.ag (.cons (.same _) (.cons .nil .nil))) (.cons (.one (.same _)) (.cons (.one (.same _)) .nil))))
 have h3:=qfJ 3 1 h2 (x':=.tu [.ag [.ls k 0,.ls (k+1) 0],.one (.ls (k+2) 0),.one (.pv (iV e))]) (.tu (.cons (.ag (.cons (.same _) (.cons (.same _) .nil))) (.cons (.one .nil) (.cons (.one (.same _)) .nil))))
 refine qmL (post:=[qos (k+2),qos (k+1),qos k]) h3 fun b o s h=>?_
 rw[qab] at h
 split at h
 ·rename_i e1
  rw[qab,if_neg (by omega),qab,if_neg (by omega),qab,if_pos e1];exact h
 ·rw[qab] at h
  split at h
  ·rename_i e1
   rw[qab,if_neg (by omega),qab,if_pos e1];exact h
  ·rw[qab] at h
   split at h
   ·rename_i e1
    rw[qab,if_pos e1];exact h
   ·cases h
end
section
variable (s:List Pt) (tn td:Int)
noncomputable def seR (b:Br) (z x:Int):Br×List Int:=if seE b s tn td z x=0 then rpF s tn td (wy (b.w.length+z.toNat)) (⟨b.p.set z.toNat x,b.w⟩,[]) else (⟨[],[]⟩,[])
end
abbrev qfZ (f:FuncId) (b:Br):Prop:=Fn f 2 [brS 0 1 b] [(0,0,zrI b.p),(1,0,zrI b.w)] (.pv (iV (erB b))) 0 []
abbrev qe4 (f:FuncId) (s:List Pt) (tn td:Int) (b:Br) (z x:Int):Prop:=Fn f 3 [brS 0 1 b,qaD 2 s,.pv (qad tn td),.pv (iV z),.pv (iV x)] [(0,0,zrI b.p),(1,0,zrI b.w),(2,0,qai s)]
 (.tu [qoL 3 4 (seR s tn td b z x).1,.one (.ls 5 (seR s tn td b z x).2.length),.one (.pv (iV (seE b s tn td z x)))]) 3 [(3,0,zrI (seR s tn td b z x).1.p),(4,0,zrI (seR s tn td b z x).1.w),(5,0,zrI (seR s tn td b z x).2)]
section
variable {s:List Pt} {tn td:Int} (htn:I64 tn) (htd:I64 td)
def rtE (tn td:Int):Int:=if okB tn td=true then 0 else 8
include htn htd in
theorem qmv:Pure Try.prog 36 #[qad tn td] (iV (rtE tn td)):=by
 unfold rtE
 by_cases h:okB tn td=true
 ·rw[if_pos h];exact qev htn htd h
 ·rw[if_neg h];exact qir htn htd h
theorem qpv:tE s tn td=if qeK s=0 then rtE tn td else qeK s:=rfl
theorem qmW (h:tE s tn td=0):qeK s=0∧rtE tn td=0:=by
 obtain⟨v,t⟩:=qfT h
 exact⟨qja.2 v,if_pos t⟩
variable {b:Br} {z x:Int}
theorem qex {e:Int} (h:seE b s tn td z x=e) (h0:¬ e=0):seR s tn td b z x=(⟨[],[]⟩,[]):=by unfold seR;rw[if_neg (by rw[h];exact h0)]
theorem qfa (h:¬ VB b):seE b s tn td z x=8:=by unfold seE;rw[if_neg h]
theorem qeX (h:VB b) (h0:¬ tE s tn td=0):seE b s tn td z x=tE s tn td:=by unfold seE;rw[if_pos h,if_neg h0]
theorem qeV (h:VB b) (h0:tE s tn td=0) (hz:¬ (0≤z∧z<b.p.length)):seE b s tn td z x=2:=by unfold seE;rw[if_pos h,if_pos h0,if_neg hz]
theorem qlU (h:VB b) (h0:tE s tn td=0) (hz:0≤z∧z<b.p.length):seE b s tn td z x=idE s (b.p.set z.toNat x):=by unfold seE idE;rw[if_pos h,if_pos h0,if_pos hz]
theorem qrB {p:List Int} (h:idE s p=0):KnB s p∧OneB p:=by
 unfold idE at h
 by_cases hk:KnB s p
 ·rw[if_pos hk] at h
  by_cases ho:OneB p
  ·exact⟨hk,ho⟩
  ·rw[if_neg ho] at h;cases h
 ·rw[if_neg hk] at h;cases h
include htn htd in
theorem qsM (h1:b.p.length≤70) (h2:b.w.length≤70):qe4 14 s tn td b z x:=by
 have c1:=qsd h1 h2
 have c2:=qhC s
 have c3:=qmv htn htd
 have c4:=qn5 (b:=b) z
 by_cases V:VB b
 ·rw[qgq V] at c1
  by_cases ht:tE s tn td=0
  ·obtain⟨hs,hok⟩:=qfT ht
   obtain⟨t1,t2⟩:=qmW ht
   rw[t1] at c2
   rw[t2] at c3
   by_cases hz:0≤z∧z<b.p.length
   ·rw[if_pos hz] at c4
    have hset:(b.p.set z.toNat x).length=b.p.length:=List.length_set
    have c5:=qnc hs hset (by omega)
    have hzl:z.toNat<b.p.length:=by omega
    have k1:=qd8 (l:=b.p) (by omega)
    have k2:=qd8 (l:=b.w) (by omega)
    have e:=qlU (x:=x) V ht hz
    by_cases h0:idE s (b.p.set z.toNat x)=0
    ·obtain⟨hk,ho⟩:=qrB h0
     have e0:=e.trans h0
     have hw:=V.w
     have hn:=V.n2
     have er:seR s tn td b z x=rpF s tn td (wy (b.w.length+z.toNat)) (⟨b.p.set z.toNat x,b.w⟩,[]):=by unfold seR;rw[if_pos e0]
     unfold qe4
     rw[er,e0]
     rw[h0] at c5
     have hr:=qhU htn htd hs hok (g:=b.p.set z.toNat x) (w0:=b.w) (n:=b.w.length) (m:=b.p.length) (j:=z.toNat) rfl hset hw hn hzl (InX.put V hzl hk)
     rw[show ((z.toNat:Nat):Int)=z by omega] at hr
     have hl:(rpF s tn td (wy (b.w.length+z.toNat)) (⟨b.p.set z.toNat x,b.w⟩,[])).1.w.length=b.w.length:=by rw[qd4];exact (qd9 _ _).1
     have hp:(rpF s tn td (wy (b.w.length+z.toNat)) (⟨b.p.set z.toNat x,b.w⟩,[])).1.p=b.p.set z.toNat x:=by rw[qd4];exact (qd9 _ _).2
     have:=qoJ (h1:=c1) (h2:=c2) (h3:=c3) (h4:=c4) (hc1:=k1) (hc2:=k2) (hix:=hz) (hg:=hzl) (hb:=qsx hs) (hi:=c5) (hr:=hr)
     unfold qoL zrI
     rw[hl,hp,hset]
     exact this
    ·unfold qe4
     rw[qex e h0,e]
     exact qi8 (qnz (h1:=c1) (h2:=c2) (h3:=c3) (h4:=c4) (hc1:=k1) (hc2:=k2) (hix:=hz) (hg:=hzl) (hb:=qsx hs) (hi:=c5) (hee:=by simpa using h0))
   ·rw[if_neg hz] at c4
    unfold qe4
    rw[qex (qeV V ht hz) (by decide),qeV V ht hz]
    exact qi8 (qrJ (h1:=c1) (h2:=c2) (h3:=c3) (h4:=c4) (he:=by decide))
  ·unfold qe4
   rw[qex (qeX V ht) ht,qeX V ht]
   by_cases e1:qeK s=0
   ·rw[e1] at c2
    rw[qpv,if_pos e1] at ht ⊢
    exact qi8 (qq7 (h1:=c1) (h2:=c2) (h3:=c3) (h4:=c4) (he:=by simpa using ht))
   ·rw[qpv,if_neg e1]
    exact qi8 (qrO (h1:=c1) (h2:=c2) (h3:=c3) (h4:=c4) (he:=by simpa using e1))
 ·rw[qa8 V] at c1
  unfold qe4
  rw[qex (qfa V) (by decide),qfa V]
  exact qi8 (qrV (h1:=c1) (h2:=c2) (h3:=c3) (h4:=c4) (he:=by decide))
end
end Go.Proofs.Ytgbmdijodlfcaaa
