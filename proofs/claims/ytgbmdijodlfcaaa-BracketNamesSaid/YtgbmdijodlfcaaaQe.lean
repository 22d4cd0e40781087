/-
  The iterator over the nodes above one; slices.Collect of an iterator of numbers. Conditions: none.
-/
import Derived.Test.YtgbmdijodlfcaaaW28
import Derived.Test.YtgbmdijodlfcaaaW32
import Derived.Test.YtgbmdijodlfcaaaW21
namespace Go.Proofs.Ytgbmdijodlfcaaa
set_option maxRecDepth 100000
open Go.RowKit
abbrev iA (x:Int):Array Value:=#[iV x]
abbrev fvI (g:FuncId) (cap:Array Value):Value:=.func (.func g) #[] cap
abbrev qcY (r:Nat):Value:=.pointer (some ⟨r,0,none⟩)
abbrev yw (l:Nat):SV:=.pv (.func (.yield l) #[] #[])
theorem qhs:(Try.prog.info? 25).map (fun i=>i.size)=some 1:=by kernel_rfl
theorem ql7:(Try.prog.info? 3).map (fun i=>(i.zero,i.size,i.bytes))=some (some (iV 0),1,8):=by kernel_rfl
theorem qes:Try.prog.underlying 25=some (.slice 3):=by kernel_rfl
theorem qgs:∃ i,Try.prog.info? 3=some i∧i.zero=some (iV 0)∧i.size=1∧i.bytes=8:=by
 have h:=ql7
 cases hi:Try.prog.info? 3 with
 | none=>rw[hi] at h;cases h
 | some i=>rw[hi] at h;simp only[Option.map_some,Option.some.injEq,Prod.mk.injEq] at h;exact⟨i,rfl,h.1,h.2.1,h.2.2⟩
noncomputable abbrev wc (p:List Nat):Code:=qfG Try.prog 71 p
noncomputable abbrev wo:Array Oper:=qkI (wc [1,0,0,1,0,1,0])
theorem qh3:wc []=.seq (wc [0]) (.block 0 (.loop (wc [1,0,0]))):=by kernel_rfl
theorem qec:wc [1,0,0]=.seq (wc [1,0,0,0]) (.block 1 (.seq (wc [1,0,0,1,0,0]) (.seq (.region 3 wo false) (wc [1,0,0,1,0,1,1])))):=by kernel_rfl
abbrev abT (y:Nat) (z:Int):List (Nat×SV):=[(0,yw y),(3,.pv (iV z))]
section
variable (y:Nat) (z x r:Int)
theorem qke:Seg Try.prog 1 1 (wc [0]) 14 1 [(0,yw y),(1,.pp 0 0)] [(0,0,.pv (iV z))] .normal 1 (abT y z) []:=
 qba [] 100 [] (by decide) (by kernel_rfl) (Ro tI)
theorem qoD (h:decide (z>0)=true):Seg Try.prog 0 0 (wc [1,0,0,0]) 14 0 (abT y z) [] .normal 0 (abT y z) []:=
 qba [] 100 [.t true] (by decide) (by kernel_rfl) (Ro (Ai h tI))
theorem qqr (h:decide (z>0)=false):Seg Try.prog 0 0 (wc [1,0,0,0]) 14 0 (abT y z) [] (.exit 0) 0 (abT y z) []:=
 qba [] 100 [.t false] (by decide) (by kernel_rfl) (Ro (Ai h tI))
theorem qmg (h1:iV (IntKind.i64.wrap (z-1))=iV x) (nz:¬ (2:Int)=0) (h2:iV (IntKind.i64.wrap (Int.tdiv x 2))=iV r):Seg Try.prog 0 0 (wc [1,0,0,1,0,0]) 14 0 (abT y z) [] .normal 0 (abT y r) []:=
 qba [] 100 [Re h1,Re h2] (by decide) (by kernel_rfl) (Ro (Ai h1 (Ai nz (Ai h2 tI))))
theorem qmp:qnG Try.prog 0 0 wo (wo.toList.take 2) 14 0 (abT y r) [] 0 ((10,yw y)::(11,.pv (iV r))::abT y r) []:=
 qdn [] 100 [] (by decide) (by kernel_rfl) (Ro tI)
theorem qib:qnG Try.prog 0 0 wo (wo.toList.drop 3) 14 0 ((12,.pv (.bool true))::abT y r) [] 0 ((13,.pv (.bool false))::abT y r) []:=
 qdn [] 100 [] (by decide) (by kernel_rfl) (Ro tI)
theorem qpV:Seg Try.prog 0 0 (wc [1,0,0,1,0,1,1]) 14 0 ((13,.pv (.bool false))::abT y r) [] .normal 0 (abT y r) []:=
 qba [] 100 [] (by decide) (by kernel_rfl) (Ro tI)
end
theorem qmQ:wo.toList=wo.toList.take 2++((wo.toList.drop 2).take 1++wo.toList.drop 3):=by kernel_rfl
theorem ql9:∃ o:Oper,(wo.toList.drop 2).take 1=[o]∧o.op=.call (qiP o)∧(qiP o).callee=.value (.tmp 10)∧(qiP o).args=#[.tmp 11]∧o.dst=some 12∧o.guard=none:=
 ⟨wo.getD 2 default,by kernel_rfl,by kernel_rfl,by kernel_rfl,by kernel_rfl,by kernel_rfl,by kernel_rfl⟩
def wyV (j:Nat):List Int:=(wy j).map fun (k:Nat)=>(k:Int)
theorem qj1 {i:Nat} (h:i<126):wyV (i+1)=((i/2:Nat):Int)::wyV (i/2):=by unfold wyV;rw[qbs h];rfl
section
variable {y:Nat} {M B:Nat→Prop} {J:Nat→(Nat→Prop)→World→Prop} {W:World} {L:List Int}
structure AInv (M:Nat→Prop) (J:Nat→(Nat→Prop)→World→Prop) (W:World) (L rem:List Int) (a:Act) (w:World) (k:Nat) (T:Nat→Prop):Prop where
 df:a.defers=[]
 kp:Keep (fun b=>b<W.heap.size∧¬ M b) W w
 j:J k T w
 gro:Gro M W T w
 pre:∃ pre,L=pre++rem∧pre.length=k
theorem AInv.on {rem:List Int} {a a':Act} {w w':World} {k:Nat} {T:Nat→Prop} (h:AInv M J W L rem a w k T) (hJ:∀ k T w w',J k T w→Keep (fun b=>b<W.heap.size∨T b) w w'→J k T w') (hd:a'.defers=a.defers) (hg:Gr w w'):AInv M J W L rem a' w' k T:=
 ⟨hd.trans h.df,h.kp.trans (Keep.of_gr hg _),hJ _ _ _ _ h.j (Keep.of_gr hg _),h.gro.on (Nat.le_refl _) hg.size,h.pre⟩
theorem qfO (hM:∀ b,M b→b<W.heap.size∧¬ B b) (hJ:∀ k T w w',J k T w→Keep (fun b=>b<W.heap.size∨T b) w w'→J k T w')
 (hY:∀ k x w T,(L.map iA)[k]?=some x→W.heap.size≤w.heap.size→(∀ b,T b→b<w.heap.size)→(∀ b,T b→b<W.heap.size→M b)→J k T w→YieldAt (FW none) 0 Try.prog y x w fun e w'=>e=.returned (.bool true)∧∃ T',J (k+1) T' w'∧Keep (fun b=>¬ T b) w w'∧Gro T w T' w')
 {Q:Exit→Act→World→Prop}
 (hQ:∀ β a w k T,Rel w 0 β (qas 14 0 (abT y 0) [] []) (clr a) w→AInv M J W L [] a w k T→Q (.exit 0) a w) :
 ∀ (d j:Nat),(wy j).length=d→j≤126→∀ (β:Bl) (a:Act) (w:World) (k:Nat) (T:Nat→Prop),Rel w 0 β (qas 14 0 (abT y (j:Int)) [] []) (clr a) w→
  AInv M J W L (wyV j) a w k T→Code.roundsIn (FW none) 0 Try.prog (wc [1,0,0]) Q (d+1) a w:=by
 intro d
 induction d with
 | zero=>
  intro j hj hj2 β a w k T R I
  rw[roundsIn_succ,qec]
  have hj0:j=0:=by
   match j,hj,hj2 with
   | 0,_,_=>rfl
   | i+1,h,h2=>rw[qbs (by omega)] at h;cases h
  subst hj0
  refine wpIn_seq (qqr y _ (df (by omega)) none w β a w _ R fun β1 a1 w1 hle1 hd1 R1=>?_)
  exact hQ (β1.cut 0) a1 w1 k T (R1.now (by kernel_rfl) (by kernel_rfl) (by kernel_rfl)) (I.on hJ hd1 R1.h.gr)
 | succ d ih=>
  intro j hj hj2 β a w k T R I
  rw[roundsIn_succ,qec]
  obtain⟨i,rfl⟩:∃ i,j=i+1:=by
   match j,hj with
   | 0,h=>cases h
   | i+1,_=>exact⟨i,rfl⟩
  rw[qbs (by omega),List.length_cons] at hj
  refine wpIn_seq (qoD y _ (dt (by omega)) none w β a w _ R fun β1 a1 w1 hle1 hd1 R1=>?_)
  refine wpIn_block (wpIn_seq (qmg y _ (i:Int) ((i/2:Nat):Int) (by rw[qc8 (by omega) (by omega)];congr 1;omega) (by decide) (by
   rw[show Int.tdiv (i:Int) 2=((i/2:Nat):Int) from rfl]
   exact qc8 (by omega) (by omega)) none w β1 a1 w1 _ R1 fun β2 a2 w2 hle2 hd2 R2=>?_))
  refine wpIn_seq (wpIn_region_list ?_)
  obtain⟨o,hol,ho,hc,hargs,hdst,hgd⟩:=ql9
  show wpListIn (FW none) 0 Try.prog wo _ wo.toList a2 w2
  rw[qmQ,hol]
  refine qmp y _ none w β2 a2 w2 _ _ R2 fun β4 a4 w4 hle4 hd4 R4=>qb8 hgd ?_
  have hdf:a4.defers=a.defers:=hd4.trans (hd2.trans hd1)
  have I4:AInv M J W L _ a4 w4 k T:=I.on hJ hdf R4.h.gr
  obtain⟨pre,hpre,hlen⟩:=I4.pre
  rw[qj1 (by omega)] at hpre
  have hLk:(L.map iA)[k]?=some (iA ((i/2:Nat):Int)):=by rw[hpre,← hlen,List.map_append,List.getElem?_append_right (by simp),List.length_map,Nat.sub_self];rfl
  have t10:a4.tmps.getD 10 undef=.func (.yield y) #[] #[]:=R4.t.tmps 10
  have t11:a4.tmps.getD 11 undef=iV ((i/2:Nat):Int):=R4.t.tmps 11
  refine qj6 ho hc t10 (xs:=iA ((i/2:Nat):Int)) (by rw[hargs];simp only[List.map_toArray,List.map_cons,List.map_nil,Act.eval,t11,iA]) (hY k _ w4 T hLk I4.kp.size (fun b hb=>(I4.gro b hb).1) (fun b hb hl=>(I4.gro b hb).2.elim id fun h=>by omega) I4.j) fun e w5 ⟨he,T',hj5,hk5,hg5⟩=>⟨_,he,?_⟩
  have hTM:∀ b,b<W.heap.size→T b→M b:=fun b hl hb=>(I4.gro b hb).2.elim id fun h=>by omega
  have R5:=R4.later hk5 (l:=0) (tm':=abT y ((i/2:Nat):Int)) (hp':=[]) (by kernel_rfl) (by kernel_rfl) (by kernel_rfl) (fun b r hb _=>by omega) (fun b o e es n xs v hl=>by cases hl)
  have R6:=R5.put (d:=12) (x:=.pv (.bool true)) (u:=.bool true) (by decide) rfl
  rw[hdst]
  refine qko ?_
  refine qib y _ none w5 _ _ w5 _ [] R6 fun β7 a7 w7 hle7 hd7 R7=>?_
  refine qpV y _ none w5 β7 a7 w7 _ R7 fun β8 a8 w8 hle8 hd8 R8=>?_
  refine ih (i/2) (by omega) (by omega) (β8.cut 0) a8 w8 (k+1) T' (R8.now (by kernel_rfl) (by kernel_rfl) (by kernel_rfl)) ?_
  refine⟨?_,?_,?_,?_,pre++[((i/2:Nat):Int)],?_,by simp[hlen]⟩
  ·rw[hd8,hd7,qb2];exact I4.df
  ·exact (I4.kp.trans (hk5.mono fun i _ h=>fun ht=>h.2 (hTM i h.1 ht))).trans (Keep.of_gr R8.h.gr _)
  ·exact hJ _ _ _ _ hj5 (Keep.of_gr R8.h.gr _)
  ·intro b hb
   obtain⟨h1,h2⟩:=hg5 b hb
   have h3:=R8.h.gr.size
   refine⟨by omega,?_⟩
   rcases h2 with h2 | h2
   ·exact (I4.gro b h2).2
   ·exact Or.inr (by have:=I4.kp.size;omega)
  ·rw[hpre,List.append_assoc];rfl
end
theorem qfy {W0:World} {rb j:Nat} {B:Nat→Prop} (hj:j≤126) (hc:Cel W0 rb 0 (iV (j:Int))) (hB1:B rb) :
 SeqC Try.prog 71 #[.pointer (some ⟨rb,0,none⟩)] ((wyV j).map iA) B W0:=by
 intro y M J W hK hM hJ hY h0
 have hcW:Cel W rb 0 (iV (j:Int)):=hc.keep hK hB1
 refine qeF (c:=wc []) Try.func71 (by kernel_rfl) ?_
 have H0:HRel W 1 (qbR [rb]) [(0,0,.pv (iV (j:Int)))] W:=qaK (rs:=[rb]) (by simp) (by simpa using hcW.lt) ⟨⟨rb,_,rfl,rfl,hcW,rfl⟩,trivial⟩
 have R0:=qdP (n:=14) (args:=[yw y,.pp 0 0]) (us:=[.func (.yield y) #[] #[],.pointer (some ⟨rb,0,none⟩)]) H0 (qaO [rb]) ⟨rfl,⟨rb,rfl,rfl⟩,trivial⟩ (by simp)
 rw[qh3]
 refine wpIn_seq (qke y _ none W (qbR [rb]) _ W _ R0 fun β1 a1 w1 hle hd R1=>?_)
 refine wpIn_block (wpIn_loop_rounds _ (qfO (W:=W) (L:=wyV j) hM hJ hY (fun β a w k T R I=>?_) (wy j).length j rfl hj (β1.cut 0) a1 w1 0 M (R1.now (by kernel_rfl) (by kernel_rfl) (by kernel_rfl)) ?_))
 ·show LeavesInM (FW none) 0 Try.prog _ a.tmps _ a.defers .returning w
  rw[I.df]
  obtain⟨v,hv,_⟩:=qeS (P:=Try.prog) (fn:=Try.f71) (x:=.pv (.tuple #[])) R (by kernel_rfl)
  refine⟨v,hv,⟨v,rfl⟩,⟨T,?_,I.gro⟩,I.kp⟩
  obtain⟨pre,hpre,hlen⟩:=I.pre
  rw[List.append_nil] at hpre
  rw[List.length_map,hpre,hlen]
  exact I.j
 ·exact⟨hd,Keep.of_gr R1.h.gr _,hJ _ _ _ _ h0 (Keep.of_gr R1.h.gr _),fun b hb=>⟨Nat.lt_of_lt_of_le (hM b hb).1 R1.h.gr.size,Or.inl hb⟩,[],rfl,rfl⟩
noncomputable abbrev aic (p:List Nat):Code:=qfG Try.prog 70 p
noncomputable abbrev aio:Array Oper:=qkI (qfG Try.prog 70 [1,0,1,0,1,0])
theorem qm8 (u:Value) (x:Int):qnG Try.prog 1 1 aio (aio.toList.take 3) 13 1 [(2,.pp 0 0),(5,.pv (iV x))] [(0,0,.pv u)] 2 [(8,.pv u),(10,.ps 1 0 1 1),(2,.pp 0 0)] [(1,0,.pv (iV x))]:=
 qdn [] 100 [] (by decide) (by kernel_rfl) (Ro tI)
theorem qnC:aio.toList=aio.toList.take 3++((aio.toList.drop 3).take 1++(aio.toList.drop 4).take 1):=by kernel_rfl
theorem qoG:∃ o:Oper,(aio.toList.drop 3).take 1=[o]∧o.op=.call { callee:=.builtin .append,args:=#[.tmp 8,.tmp 10],argTypes:=#[25,25] }∧o.dst=some 11∧o.guard=none:=
 ⟨aio.getD 3 default,by kernel_rfl,by kernel_rfl,by kernel_rfl,by kernel_rfl⟩
theorem qkn:∃ o:Oper,(aio.toList.drop 4).take 1=[o]∧o.op=.store 25 (.tmp 2) (.tmp 11)∧o.dst=none∧o.guard=none:=
 ⟨aio.getD 4 default,by kernel_rfl,by kernel_rfl,by kernel_rfl,by kernel_rfl⟩
theorem qnA {r:Option Nat} {id base rs:Nat} {W2:World} {u:Value} {xs:List Int} {x:Int} {a:Act} {Q:Exit→Act→World→Prop} (hb:base≤W2.heap.size) (cu:Cel W2 rs 0 u) (ho:W2.ownsRow base 3 1 u xs.length (ziV xs)) (hnr:u.ownBlock≠some rs)
 (tb:a.tmps.getD 2 undef=qcY rs) (tx:a.tmps.getD 5 undef=iV x) (hsz:a.tmps.size=13) (hn:xs.length+1≤100000)
 (h:∀ a' w' u',Keep (fun b=>b≠rs∧u.ownBlock≠some b) W2 w'→Cel w' rs 0 u'→w'.ownsRow base 3 1 u' (xs.length+1) (ziV (xs++[x]))→(∀ k,u'.ownBlock=some k→u.ownBlock=some k∨W2.heap.size≤k)→u'.ownBlock≠some rs→Q .normal a' w'):(Code.region id aio false).wpIn (FW r) 0 Try.prog Q a W2:=by
 have u1:=qed (qbY ho)
 have R8:Rel W2 1 (qbR [rs]) (qas 13 1 [(2,.pp 0 0),(5,.pv (iV x))] [(0,0,.pv u)] []) (clr a) W2:=
  qds (qaK (rs:=[rs]) (by simp) (by simpa using cu.lt) ⟨⟨rs,_,rfl,rfl,cu,u1⟩,trivial⟩) (qaO [rs]) (Nat.le_refl _) hsz ⟨⟨rs,rfl,tb⟩,tx,trivial⟩
 refine wpIn_region_list ?_
 obtain⟨o,hol,hoo,hdst,hgd⟩:=qoG
 obtain⟨p,hpl,hpo,hpd,hpg⟩:=qkn
 rw[qnC,hol,hpl]
 refine qm8 u x r W2 _ a W2 _ _ R8 fun β9 a9 w9 hle9 hd9 R9=>qb8 hgd ?_
 have hg9:Gr W2 w9:=R9.h.gr
 have t8:a9.tmps.getD 8 undef=u:=R9.t.tmps 8
 obtain⟨rn,en,t10⟩:∃ r,β9 1=some r∧a9.tmps.getD 10 undef=.slice (some ⟨r,0,none⟩) 1 1:=R9.t.tmps 10
 obtain⟨r',e',t2''⟩:∃ r,β9 0=some r∧a9.tmps.getD 2 undef=qcY r:=R9.t.tmps 2
 have e90:β9 0=some rs:=Bl.leU_f hle9 (by omega) rfl
 rw[e90] at e';cases e'
 have c0:=qdZ R9.h (b:=1) (o:=0) rfl en
 obtain⟨inf,hinf,hz,hsi,hby⟩:=qgs
 have hsrc:Src Try.prog inf.size 25 (.slice (some ⟨rn,0,none⟩) 1 1) 1 [iV x] w9:=Src.ofSlice w9 qes ⟨rn,0,none⟩ 1 1 [iV x] (by rw[hsi];rfl) (fun j v hj=>by
  rw[Addr.add_lit,Nat.zero_add]
  match j,hj with
  | 0,hj=>cases hj;exact c0.1
  | j+1,hj=>simp at hj) (fun v hv=>by simp at hv;rcases hv with rfl;rfl)
 have ho9:=qai ho (Keep.of_gr hg9 (fun _=>True)) fun _ _=>trivial
 have hs9:=hg9.size
 refine qlK hoo t8 t10 qes hinf hz (by rw[hsi];rfl) (by rw[hsi];exact ho9) (by omega) hsrc (by rw[hby];decide) (by omega) fun u' w10 row hsl hupd hrow hown hnew=>qb8 hpg ?_
 rw[hsi] at hown
 have k10:=Keep.upd hupd
 have hs10:=k10.size
 have hrs10:∀ b,row=some b→b≠rs:=fun b hb e=>by
  rcases hrow with h | h
  ·rw[h] at hb;cases hb
  ·rw[h,e] at hb;exact hnr hb
 have cu10:Cel w10 rs 0 u:=(cu.gr hg9).keep k10 fun e=>hrs10 rs e.symm rfl
 have hnr':u'.ownBlock≠some rs:=fun e=>by
  rcases hnew rs e with h | h
  ·exact hrs10 rs h rfl
  ·have:=cu.lt;omega
 obtain⟨inf2,hinf2,hisz⟩:=qiS qhs
 have u1':=qed hsl
 have hcells:u'.cells.toList=[u']:=by obtain⟨a',c',rfl⟩:=hsl;rfl
 have hsiz:u'.cells.size=1:=by obtain⟨a',c',rfl⟩:=hsl;rfl
 have hx2:(a9.put o.dst u').eval (.tmp 2)=.pointer (some ⟨rs,0,none⟩):=by
  rw[hdst]
  show (a9.put (some 11) u').tmps.getD 2 undef=_
  rw[qbb _ _ _ _ _ (by rw[show a9.tmps.size=13 from R9.t.size];decide),if_neg (by decide)]
  exact t2''
 have hx11:(a9.put o.dst u').eval (.tmp 11)=u':=by
  rw[hdst]
  show (a9.put (some 11) u').tmps.getD 11 undef=_
  rw[qbb _ _ _ _ _ (by rw[show a9.tmps.size=13 from R9.t.size];decide),if_pos rfl]
 refine qg4 hpo hx2 hx11 (us:=[u]) hinf2 (by rw[hisz];exact hsiz) (by rw[hcells];simpa using u1') (fun j v hj=>?_) (by rw[hisz];rfl) ?_
 ·match j,hj with
  | 0,hj=>cases hj;exact cu10
  | j+1,hj=>simp at hj
 ·rw[hcells]
  have hks:Keep (fun b=>b≠rs) w10 (w10.setCells rs 0 [u']):=Keep.setCells rs _ 0 w10
  have hset:=qgG (w:=w10) (r:=rs) (o:=0) (us:=[u]) (vs:=[u']) (fun j v hj=>by
   match j,hj with
   | 0,hj=>cases hj;exact cu10
   | j+1,hj=>simp at hj) rfl (j:=0) rfl
  refine h _ _ u' ?_ hset ?_ ?_ hnr'
  ·refine ((Keep.of_gr hg9 _).trans (k10.mono fun i _ h=>?_)).trans (hks.mono fun i _ h=>h.1)
   intro e
   rcases hrow with h' | h'
   ·rw[h'] at e;cases e
   ·exact h.2 (by rw[← h',e])
  ·rw[qem]
   exact qai hown hks fun b hb e=>hnr' (by rw[hb,e])
  ·intro b hb
   rcases hnew b hb with h | h
   ·rcases hrow with h' | h'
    ·rw[h'] at h;cases h
    ·exact Or.inl (by rw[← h',h])
   ·exact Or.inr (by omega)
theorem qkP:aic []=.seq (aic [0]) (.seq (.seq (aic [1,0,0]) (.block 0 (.rangeFunc (.tmp 6) #[7] (aic [1,0,1,0,0]) (.block 1 (.region 3 aio false))))) (aic [1,1])):=by kernel_rfl
section
variable (g:FuncId) (cap:Array Value) (u p2:Value) (x:Int)
theorem qnu:Seg Try.prog 0 0 (aic [0]) 13 0 [(0,.pv qfV),(1,.pv (fvI g cap))] [] .normal 1 [(1,.pv (fvI g cap)),(2,.pp 0 0)] [(0,0,.pv qfV)]:=
 qba [] 100 [] (by decide) (by kernel_rfl) (Ro tI)
theorem qm2:Seg Try.prog 0 1 (aic [1,0,0]) 13 1 [(1,.pv (fvI g cap)),(2,.pp 0 0)] [(0,0,.pv qfV)] .normal 1 [(2,.pp 0 0),(6,.pv (fvI g cap))] [(0,0,.pv qfV)]:=
 qba [] 100 [] (by decide) (by kernel_rfl) (Ro tI)
theorem qhQ:Seg Try.prog 0 0 (aic [1,0,1,0,0]) 13 0 [(2,.pv p2),(7,.pv (iV x))] [] .normal 0 [(2,.pv p2),(5,.pv (iV x))] []:=
 qba [] 100 [] (by decide) (by kernel_rfl) (Ro tI)
theorem qm1:Seg Try.prog 1 1 (aic [1,1]) 13 1 [(2,.pp 0 0)] [(0,0,.pv u)] .ret 1 [(4,.pv u)] []:=
 qba [] 100 [] (by decide) (by kernel_rfl) (Ro tI)
end
theorem qer {W:World} {gf:FuncId} {lb:Array Value} {X:List Int} {B:Nat→Prop} (eg:qbS Try.prog gf=true) (hs:SeqC Try.prog gf lb (X.map iA) B W) (hB:∀ b,B b→b<W.heap.size) (hn:X.length≤90000) :
 Calls Try.prog 70 #[qfV,fvI gf lb] W fun e w'=>∃ v,e=.returned v∧Gr W w'∧w'.ownsRow W.heap.size 3 1 v X.length (ziV X):=by
 refine qeF (c:=aic []) Try.func70 (by kernel_rfl) ?_
 have H0:HRel W 0 (qbR []) [] W:=qaK (rs:=[]) (by simp) (by simp) trivial
 have R0:=qdP (n:=13) (args:=[.pv qfV,.pv (fvI gf lb)]) (us:=[qfV,fvI gf lb]) H0 (qaO []) ⟨rfl,rfl,trivial⟩ (by simp)
 rw[qkP]
 refine wpIn_seq (qnu gf lb none W _ _ W _ R0 fun β1 a1 w1 hle1 hd1 R1=>?_)
 refine wpIn_seq (wpIn_seq (qm2 gf lb none W β1 a1 w1 _ R1 fun β5 a5 w5 hle5 hd5 R5=>?_))
 have hd:a5.defers=[]:=hd5.trans hd1
 have hg:Gr W w5:=R5.h.gr
 obtain⟨rs,es⟩:=qaP R5.h (b:=0) (o:=0) rfl rfl
 have cs:=qdZ R5.h (b:=0) (o:=0) rfl es
 have ns:=R5.h.new 0 rs (by omega) es
 have t6:a5.tmps.getD 6 undef=fvI gf lb:=R5.t.tmps 6
 obtain⟨r',e',t2⟩:∃ r,β5 0=some r∧a5.tmps.getD 2 undef=qcY r:=R5.t.tmps 2
 rw[es] at e';cases e'
 have hsz:a5.tmps.size=13:=R5.t.size
 have hsg:=hg.size
 refine wpIn_block (qdw t6 eg (hs.later (Keep.of_gr hg _)) (· = rs) (fun b hb=>⟨by rw[hb];exact cs.lt,fun h=>by have:=hB _ h;omega⟩) (fun b hb=>by have:=hB b hb;omega) (fun x hx=>by
  obtain⟨m,_,rfl⟩:=List.mem_map.1 hx
  rfl)
  (fun k T w=>∃ u,Cel w rs 0 u∧Gr W w∧w.ownsRow W.heap.size 3 1 u (X.take k).length (ziV (X.take k))∧(∀ b,T b↔b=rs∨u.ownBlock=some b)∧u.ownBlock≠some rs) ?_ ⟨qfV,cs,hg,World.ownsRow_nil _ _ _ _,fun b=>⟨fun h=>Or.inl h,fun h=>h.elim id fun h=>by cases h⟩,(fun h=>by cases h)⟩ ?_ ?_)
 ·rintro k T u1 u2 ⟨u,h1,h2,h3,h4,h5⟩ hk
  exact⟨u,h1.keep hk (Or.inr ((h4 _).2 (Or.inl rfl))),(hk.mono fun i _ h=>Or.inl (by have:i<W.heap.size:=h;omega)).gr h2,qai h3 hk fun b hb=>Or.inr ((h4 b).2 (Or.inr hb)),h4,h5⟩
 ·rintro lr k x Wr T rfl hx hszr hT1 hT2 ⟨u,cu,hgr,ho,hT,hnr⟩
  obtain⟨m,hm,rfl⟩:∃ m,X[k]?=some m∧x=iA m:=by
   rw[List.getElem?_map] at hx
   cases hm:X[k]? with
   | none=>rw[hm] at hx;cases hx
   | some m=>rw[hm] at hx;cases hx;exact⟨m,rfl,rfl⟩
  have hk1:=qaC hm
  have hTs:T rs:=(hT rs).2 (Or.inl rfl)
  have hact:({ tmps:=((#[7]:Array Tmp).zip (iA m)).foldl (fun t (p,v)=>t.setIfInBounds p v) a5.tmps,defers:=[] }:Act)=clr (a5.put (some 7) (iV m)):=by simp[iA,clr,Act.put]
  rw[hact]
  have R6:Rel Wr 0 (qbR []) (qas 13 0 [(2,.pv (qcY rs)),(7,.pv (iV m))] [] []) (clr (clr (a5.put (some 7) (iV m)))) Wr:=
   qds (qaK (rs:=[]) (by simp) (by simp) trivial) (qaO []) (Nat.le_refl _) (by simp[clr,Act.put,hsz]) ⟨by
    show (clr (a5.put (some 7) (iV m))).tmps.getD 2 undef=qcY rs
    simp[clr,Act.put,Array.getElem?_setIfInBounds_ne];simpa using t2,by
    show (clr (a5.put (some 7) (iV m))).tmps.getD 7 undef=iV m
    simp[clr,Act.put,hsz,Array.getD_eq_getD_getElem?],trivial⟩
  refine qhQ (qcY rs) m (some _) Wr _ (clr (a5.put (some 7) (iV m))) Wr _ R6 fun β7 a7 w7 hle7 hd7 R7=>?_
  have hg7:Gr Wr w7:=R7.h.gr
  refine⟨Keep.of_gr hg7 _,fun W2 hk2 hs2=>?_⟩
  have hrl:=hT1 rs hTs
  have cu2:Cel W2 rs 0 u:=(cu.gr hg7).keep hk2 hrl.2.2
  have ho2:W2.ownsRow W.heap.size 3 1 u (X.take k).length (ziV (X.take k)):=qai (qai ho (Keep.of_gr hg7 (fun _=>True)) fun _ _=>trivial) hk2 fun b hb=>(hT1 b ((hT b).2 (Or.inr hb))).2.2
  have hgr2:Gr W W2:=(hk2.mono fun i _ h=>by show i≠_;have:i<W.heap.size:=h;omega).gr (hgr.trans hg7)
  refine wpIn_block (qnA hgr2.size cu2 ho2 hnr (R7.t.tmps 2) (R7.t.tmps 5) R7.t.size (by rw[List.length_take];omega) fun a' w' u' hkw hc' ho' hnew hnr'=>?_)
  refine⟨rfl,fun b=>b=rs∨u'.ownBlock=some b,⟨u',hc',?_,by rw[qjH hm,List.length_append];exact ho',fun _=>Iff.rfl,hnr'⟩,?_,?_⟩
  ·refine (hkw.mono fun i _ h=>⟨?_,fun e=>?_⟩).gr hgr2
   ·have:i<W.heap.size:=h;omega
   ·have h1:=(ho2.lt i e).1;have:i<W.heap.size:=h;omega
  ·exact hkw.mono fun i _ h=>⟨fun e=>h ((hT i).2 (Or.inl e)),fun e=>h ((hT i).2 (Or.inr e))⟩
  ·intro b hb
   rcases hb with rfl | hb
   ·exact⟨hc'.lt,Or.inl hTs⟩
   ·exact⟨(ho'.lt b hb).2,(hnew b hb).imp (fun h=>(hT b).2 (Or.inr h)) id⟩
 ·rintro w6 T ⟨u,cu,hgr,ho,hT,hnr⟩ hG hnT hD hk6
  rw[List.length_map,List.take_length] at ho
  have u1:=qed (qbY ho)
  have R7:Rel w6 1 (qbR [rs]) (qas 13 1 [(2,.pp 0 0)] [(0,0,.pv u)] []) (clr { a5 with defers:={ target:=.collected w5.heap.size,args:=#[] }::a5.defers }) w6:=
   qds (qaK (rs:=[rs]) (by simp) (by simpa using cu.lt) ⟨⟨rs,_,rfl,rfl,cu,u1⟩,trivial⟩) (qaO [rs]) (Nat.le_refl _) hsz ⟨⟨rs,rfl,t2⟩,trivial⟩
  show (aic [1,1]).wpIn (FW none) 0 Try.prog _ _ w6
  refine qm1 u none w6 _ _ w6 _ R7 fun β8 a8 w8 hle8 hd8 R8=>?_
  have hg8:Gr w6 w8:=R8.h.gr
  have hkp:Keep (·≠w5.heap.size) w8 (w8.putObj w5.heap.size (.deferred none)):=Keep.putObj _ _ _
  have R9:Rel _ 0 (β8.cut 0) (qas 13 0 [(4,.pv u)] [] []) (clr a8) (w8.putObj w5.heap.size (.deferred none)):=
   R8.later hkp (by kernel_rfl) (by kernel_rfl) (by kernel_rfl) (fun b r hb _=>by omega) (fun b o e es n xs v hl=>by cases hl)
  obtain⟨v,hv,hx⟩:=qeS (P:=Try.prog) (fn:=Try.f70) (x:=.pv u) R9 (by kernel_rfl)
  refine qeq (D:=w5.heap.size) (by rw[hd8,hd]) ((Keep.of_gr hg8 (fun _=>True)).at hD trivial) ⟨v,hv,v,rfl,?_,?_⟩
  ·exact (hkp.mono fun i _ h=>by show i≠_;have:i<W.heap.size:=h;omega).gr (hgr.trans hg8)
  ·rw[show v=u from hx]
   exact qai (qai ho (Keep.of_gr hg8 (fun _=>True)) fun _ _=>trivial) hkp fun b hb=>(hnT b ((hT b).2 (Or.inr hb))).1
theorem qkJ {W w':World} {k:Nat} {β:Bl} {pre:List (Nat×Nat×SV)} {u:Value} {e:TypeId} {es n:Nat} {xs:List Value} (H:HRel W k β pre W) (hd:β.dom k) (hg:Gr W w') (ho:w'.ownsRow W.heap.size e es u n xs) (h1:∀ v∈xs,v.oneCell'=true) :
 HRel W k (β.setG k u) [(k,0,.row e es n xs)] w':=by
 have h0:=hd k (Nat.le_refl _)
 refine ((H.gr_mono hg).setG h0.1 h0.2 u).addRow (Nat.le_refl _) (Bl.setG_same _ _ _) ho h1 (fun c r hc hk=>?_) (fun c o e es n xs v hc hl hv j hj hj'=>?_) (fun c o s hc=>?_)
 ·have h2:=(qae ho r hk).1
  have h3:=H.live c r hc
  omega
 ·obtain⟨z,hz,_⟩:=(H.gr_mono hg).rows _ _ _ _ _ _ hc
  rw[(hd c hl).2] at hz
  cases hz
 ·have hc':qab [(k,0,SV.row e es n xs)] c o=some s:=hc
  rw[qaa] at hc'
  split at hc'
  ·rename_i e1
   cases hc'
   exact Or.inl ⟨e1.1.symm,e1.2.symm,rfl⟩
  ·cases hc'
theorem qir {k:Nat} {β:Bl} {u:Value} (hd:β.dom k):(β.setG k u).dom (k+1):=fun b hb=>⟨(hd b (by omega)).1,by unfold Bl.setG;simp only[if_neg (show b≠k by omega)];exact (hd b (by omega)).2⟩
theorem qgh {j:Nat} (hj:j≤126):Fn 70 1 [.pv qfV,.pc 71 [.pp 0 0]] [(0,0,.pv (iV (j:Int)))] (.ls 1 (wyV j).length) 1 [(1,0,zrI (wyV j))]:=by
 intro W β us H hdm hu
 obtain⟨rb,eb⟩:=qaP H (b:=0) (o:=0) rfl rfl
 have cb:=qdZ H (b:=0) (o:=0) rfl eb
 obtain rfl:us=[qfV,fvI 71 #[qcY rb]]:=by
  match us,hu with
  | [x,y],⟨h3,⟨vs,h1,h2⟩,_⟩=>
   obtain⟨r,e1,rfl⟩:=qiQ h1
   rw[eb] at e1;cases e1
   rw[h2,show x=qfV from h3]
 have hl:(wyV j).length≤90000:=by unfold wyV;rw[List.length_map];have:=qjA j;omega
 refine (qer (by kernel_rfl) (qfy (B:=(· = rb)) hj cb rfl) (fun b hb=>by rw[hb];exact cb.lt) hl).mono fun e w' ⟨v,he,hg,ho⟩=>?_
 have hd8:=hdm 1 (Nat.le_refl _)
 exact⟨v,β.setG 1 v,he,Bl.le_setG hd8.1 hd8.2,⟨Bl.setG_same _ _ _,qbY ho⟩,qkJ H hdm hg ho (qcE _),qir hdm⟩
theorem qeO {n:Nat} {i:Int} {vs:List Value} (h:Fn 70 1 [.pv qfV,.pc 71 [.pp 0 0]] [(0,0,.pv (iV i))] (.ls 1 n) 1 [(1,0,.row 3 1 n vs)]) :
 Fn 45 1 [.pc 71 [.pp 0 0]] [(0,0,.pv (iV i))] (.ls 1 n) 1 [(1,0,.row 3 1 n vs)]:=
 Fz [] [Cf h [0]]
  (qcv (qaV []) [(1,0,.row 3 1 n vs)]) (Co h [0] 1 tI)
theorem qf8 {j:Nat} (hj:j≤126):Fn 45 1 [.pc 71 [.pp 0 0]] [(0,0,.pv (iV (j:Int)))] (.ls 1 (wyV j).length) 1 [(1,0,zrI (wyV j))]:=qeO (qgh hj)
end Go.Proofs.Ytgbmdijodlfcaaa
