/-
  Joined: Mb, Mg, Mj, Mn, Mq, Ga, Qe. Conditions: none.
-/
import Derived.Test.YtgbmdijodlfcaaaMa
import Derived.Test.YtgbmdijodlfcaaaW26
import Derived.Test.YtgbmdijodlfcaaaW21
import Derived.Test.YtgbmdijodlfcaaaMc
import Derived.Test.YtgbmdijodlfcaaaW27
import Derived.Test.YtgbmdijodlfcaaaSxU
import Derived.Test.YtgbmdijodlfcaaaW24
import Derived.Test.YtgbmdijodlfcaaaW22
import Derived.Test.YtgbmdijodlfcaaaW25
import Derived.Test.YtgbmdijodlfcaaaW30
namespace Go.Proofs.Ytgbmdijodlfcaaa
set_option maxRecDepth 100000
open Go.RowKit
section
variable {y:Nat} {M B:Nat→Prop} {J:Nat→(Nat→Prop)→World→Prop} {W:World} {rb:Nat} {u:Value} {l:List Pt}
structure PInv (M:Nat→Prop) (J:Nat→(Nat→Prop)→World→Prop) (W:World) (rb:Nat) (u:Value) (l:List Pt) (rem:List (Array Value)) (β:Bl) (a:Act) (w:World) (k:Nat) (T:Nat→Prop):Prop where
 df:a.defers=[]
 b1:β 1=some rb
 g0:β.g 0=some u
 kp:Keep (fun b=>b<W.heap.size∧¬ M b) W w
 j:J k T w
 gro:Gro M W T w
 pre:∃ pre,qpb l=pre++rem∧pre.length=k
theorem PInv.on {rem:List (Array Value)} {β γ:Bl} {a a':Act} {w w':World} {k:Nat} {T:Nat→Prop} (h:PInv M J W rb u l rem β a w k T) (hJ:∀ k T w w',J k T w→Keep (fun b=>b<W.heap.size∨T b) w w'→J k T w') (hd:a'.defers=a.defers) (h1:γ 1=β 1) (h0:γ.g 0=β.g 0) (hg:Gr w w'):PInv M J W rb u l rem γ a' w' k T:=
 ⟨hd.trans h.df,h1.trans h.b1,h0.trans h.g0,h.kp.trans (Keep.of_gr hg _),hJ _ _ _ _ h.j (Keep.of_gr hg _),h.gro.on (Nat.le_refl _) hg.size,h.pre⟩
end
end Go.Proofs.Ytgbmdijodlfcaaa

namespace Go.Proofs.Ytgbmdijodlfcaaa
set_option maxRecDepth 100000
open Go.RowKit
section
variable (l:List Pt) (fn fd tn td:Int)
end
theorem qne {t:TypeId} {n:Nat} (h:(Try.prog.info? t).map (fun i=>i.size)=some n):∃ i,Try.prog.info? t=some i∧i.size=n:=by
 cases hi:Try.prog.info? t with
 | none=>rw[hi] at h;cases h
 | some i=>rw[hi] at h;exact⟨i,rfl,by simpa using h⟩
theorem qbs {W0:World} {lo:Nat} {β:Bl} {hp:List (Nat×Nat×SV)} {w:World} (H:HRel W0 lo β hp w) {b o:Nat} {s:SV} (h:qac hp b o=some s) (hs:s.isRow=false):∃ r,β b=some r:=by
 obtain⟨r,u,h1,_⟩:=H.cells b o s h hs
 exact⟨r,h1⟩
end Go.Proofs.Ytgbmdijodlfcaaa

namespace Go.Proofs.Ytgbmdijodlfcaaa
set_option maxRecDepth 100000
open Go.RowKit
structure MCel (w:World) (r:Nat) (m:Mt):Prop where
 c0:Cel w r 0 (iV m.n)
 c1:Cel w r 1 (iV m.d)
 c2:Cel w r 2 (iV m.i)
 c3:Cel w r 3 (iV m.j)
theorem MCel.keep {S:Nat→Prop} {w w':World} {r:Nat} {m:Mt} (h:MCel w r m) (k:Keep S w w') (hs:S r):MCel w' r m:=⟨h.c0.keep k hs,h.c1.keep k hs,h.c2.keep k hs,h.c3.keep k hs⟩
theorem MCel.gr {w w':World} {r:Nat} {m:Mt} (h:MCel w r m) (k:Gr w w'):MCel w' r m:=h.keep (Keep.of_gr k (fun _=>True)) trivial
theorem MCel.lt {w:World} {r:Nat} {m:Mt} (h:MCel w r m):r<w.heap.size:=h.c0.lt
theorem MCel.us {w:World} {r:Nat} {m:Mt} (h:MCel w r m):∀ j u,[iV m.n,iV m.d,iV m.i,iV m.j][j]?=some u→Cel w r (0+j) u:=fun j u hj=>by
 match j,hj with
 | 0,hj=>cases hj;exact h.c0
 | 1,hj=>cases hj;exact h.c1
 | 2,hj=>cases hj;exact h.c2
 | 3,hj=>cases hj;exact h.c3
 | j+4,hj=>simp at hj
theorem MCel.set {w:World} {r:Nat} {b:Mt} (h:MCel w r b) (m:Mt):MCel (w.setCells r 0 [iV m.n,iV m.d,iV m.i,iV m.j]) r m:=by
 have key:∀ j v,[iV m.n,iV m.d,iV m.i,iV m.j][j]?=some v→Cel (w.setCells r 0 [iV m.n,iV m.d,iV m.i,iV m.j]) r (0+j) v:=
  fun j v hj=>qjl (us:=[iV b.n,iV b.d,iV b.i,iV b.j]) h.us (by simp) hj
 exact⟨key 0 _ rfl,key 1 _ rfl,key 2 _ rfl,key 3 _ rfl⟩
section
variable {w6:World} {df:List Deferred} {rb rf r1:Nat} {b:Mt} {fd s0 s1 s2:Bool} {a:Act} {w:World} {Q:Exit→Act→World→Prop} {K:Act→World→Prop}
end
end Go.Proofs.Ytgbmdijodlfcaaa

namespace Go.Proofs.Ytgbmdijodlfcaaa
set_option maxRecDepth 100000
open Go.RowKit
structure MSpec (p q:Pt) (m:Mt):Prop where
 n:I64 m.n
 d:I64 m.d
 ok:okB m.n m.d=true
 eq:m.n*(p.b-q.b)=(q.a-p.a)*m.d
 i:m.i=p.id
 j:m.j=q.id
 run:Pure Try.prog 89 #[ptV p,ptV q] (qad m.n m.d)
noncomputable def fM (x:Pt×Pt):Option Mt:=open Classical in if x.1.b=x.2.b then none else if h:∃ m,MSpec x.1 x.2 m then some h.choose else none
end Go.Proofs.Ytgbmdijodlfcaaa

namespace Go.Proofs.Ytgbmdijodlfcaaa
set_option maxRecDepth 100000
open Go.RowKit
theorem qqv (x:Int):(x<0∧x.sign = -1)∨(x=0∧x.sign=0)∨(0<x∧x.sign=1):=by
 rcases Int.lt_trichotomy x 0 with h | h | h
 ·exact Or.inl ⟨h,Int.sign_eq_neg_one_of_neg h⟩
 ·exact Or.inr (Or.inl ⟨h,by rw[h];rfl⟩)
 ·exact Or.inr (Or.inr ⟨h,Int.sign_eq_one_of_pos h⟩)
end Go.Proofs.Ytgbmdijodlfcaaa

namespace Go.Proofs.Ytgbmdijodlfcaaa
set_option maxRecDepth 100000
open Go.RowKit
abbrev qqF:Value:=.slice none 0 0
section
variable (g:FuncId) (cap:Array Value) (u:Value) (m:Mt)
end
theorem qpD {P:Program} {r:Option Nat} {o:Oper} {x y:Operand} {t tx e:TypeId} {a:Act} {w:World} {i:TypeInfo} {z v s:Value} {base n m:Nat} {xs news:List Value} {next:Act→World→Prop} {Q:Exit→Act→World→Prop}
 (ho:o.op=.call { callee:=.builtin .append,args:=#[x,y],argTypes:=#[t,tx] }) (hx:a.eval x=v) (hy:a.eval y=s) (ht:P.underlying t=some (.slice e)) (hi:P.info? e=some i) (hz:i.zero=some z) (hzs:z.cells.size=i.size)
 (hown:w.ownsRow base e i.size v n xs) (hb:base≤w.heap.size) (hs:Src P i.size tx s m news w) (hby:i.bytes≤100000000) (hn:n+m≤1000000)
 (h:∀ u w' row,qn3 u (n+m)→Upd w w' row→(row=none∨row=v.ownBlock)→w'.ownsRow base e i.size u (n+m) (xs++news)→(∀ k,u.ownBlock=some k→row=some k∨w.heap.size≤k)→next (a.put o.dst u) w'):o.wpIn (FW r) 0 P a w next Q:=by
 obtain⟨u,w',row,hr,h1,h2,h3,h4,h5⟩:=qiF (P:=P) (ty:=o.type) ht hi hz hzs hown hb hs hby hn
 refine⟨fun _ _=>trivial,?_⟩
 rw[Oper.semAt_eq _ _ _ (by simp[ho])]
 have he:(execOp a.eval o).run P w=.ok (.value u) w':=by
  unfold execOp
  simp only[ho,resolve,invoke,builtin,Sem.run_bind,Sem.run_pure,Result.andThen_ok,List.map_toArray,List.map_cons,List.map_nil,hx,hy,hr]
 rw[he,Oper.uponIn_value]
 exact h u w' row h1 h2 h3 h4 h5
theorem Keep.upd {w w':World} {row:Option Nat} (h:Upd w w' row):Keep (fun b=>some b≠row) w w':=⟨h.g.os,h.g.tape,h.g.output,h.g.size,h.dr,fun k hk hs=>h.g.block k hk hs⟩
theorem qau {w w':World} {base:Nat} {e:TypeId} {es n:Nat} {u:Value} {xs:List Value} (h:w.ownsRow base e es u n xs) {S:Nat→Prop} (k:Keep S w w') (hs:∀ b,u.ownBlock=some b→S b):w'.ownsRow base e es u n xs:=
 qaT h fun j hj=>k.block j (h.lt j hj).2 (hs j hj)
theorem qjy {u:Value} {n:Nat} (h:qn3 u n):u.oneCell'=true:=by obtain⟨a,c,rfl⟩:=h;rfl
end Go.Proofs.Ytgbmdijodlfcaaa

namespace Go.Proofs.Ytgbmdijodlfcaaa
set_option maxRecDepth 100000
open Go.RowKit
abbrev iA (x:Int):Array Value:=#[iV x]
abbrev qeB (r:Nat):Value:=.pointer (some ⟨r,0,none⟩)
abbrev yw (l:Nat):SV:=.pv (.func (.yield l) #[] #[])
theorem qj5:(Try.prog.info? 25).map (fun i=>i.size)=some 1:=by kernel_rfl
theorem qnN:(Try.prog.info? 3).map (fun i=>(i.zero,i.size,i.bytes))=some (some (iV 0),1,8):=by kernel_rfl
theorem qie:Try.prog.underlying 25=some (.slice 3):=by kernel_rfl
theorem qjU:∃ i,Try.prog.info? 3=some i∧i.zero=some (iV 0)∧i.size=1∧i.bytes=8:=by
 have h:=qnN
 cases hi:Try.prog.info? 3 with
 | none=>rw[hi] at h;cases h
 | some i=>rw[hi] at h;simp only[Option.map_some,Option.some.injEq,Prod.mk.injEq] at h;exact⟨i,rfl,h.1,h.2.1,h.2.2⟩
noncomputable abbrev wc (p:List Nat):Code:=qjP Try.prog 71 p
noncomputable abbrev wo:Array Oper:=qnx (wc [1,0,0,1,0,1,0])
theorem qht:wc []=.seq (wc [0]) (.block 0 (.loop (wc [1,0,0]))):=by kernel_rfl
theorem qd5:wc [1,0,0]=.seq (wc [1,0,0,0]) (.block 1 (.seq (wc [1,0,0,1,0,0]) (.seq (.region 3 wo false) (wc [1,0,0,1,0,1,1])))):=by kernel_rfl
abbrev abT (y:Nat) (z:Int):List (Nat×SV):=[(0,yw y),(3,.pv (iV z))]
section
variable (y:Nat) (z x r:Int)
theorem qlQ:Seg Try.prog 1 1 (wc [0]) 14 1 [(0,yw y),(1,.pp 0 0)] [(0,0,.pv (iV z))] .normal 1 (abT y z) []:=
 qbQ [] 100 [] (by decide) (by kernel_rfl) (Ro tI)
theorem qoG (h:decide (z>0)=true):Seg Try.prog 0 0 (wc [1,0,0,0]) 14 0 (abT y z) [] .normal 0 (abT y z) []:=
 qbQ [] 100 [.t true] (by decide) (by kernel_rfl) (Ro (Ai h tI))
theorem qrD (h:decide (z>0)=false):Seg Try.prog 0 0 (wc [1,0,0,0]) 14 0 (abT y z) [] (.exit 0) 0 (abT y z) []:=
 qbQ [] 100 [.t false] (by decide) (by kernel_rfl) (Ro (Ai h tI))
theorem qnU (h1:iV (IntKind.i64.wrap (z-1))=iV x) (nz:¬ (2:Int)=0) (h2:iV (IntKind.i64.wrap (Int.tdiv x 2))=iV r):Seg Try.prog 0 0 (wc [1,0,0,1,0,0]) 14 0 (abT y z) [] .normal 0 (abT y r) []:=
 qbQ [] 100 [Re h1,Re h2] (by decide) (by kernel_rfl) (Ro (Ai h1 (Ai nz (Ai h2 tI))))
theorem qm5:qpj Try.prog 0 0 wo (wo.toList.take 2) 14 0 (abT y r) [] 0 ((10,yw y)::(11,.pv (iV r))::abT y r) []:=
 qeA [] 100 [] (by decide) (by kernel_rfl) (Ro tI)
theorem qia:qpj Try.prog 0 0 wo (wo.toList.drop 3) 14 0 ((12,.pv (.bool true))::abT y r) [] 0 ((13,.pv (.bool false))::abT y r) []:=
 qeA [] 100 [] (by decide) (by kernel_rfl) (Ro tI)
theorem qrW:Seg Try.prog 0 0 (wc [1,0,0,1,0,1,1]) 14 0 ((13,.pv (.bool false))::abT y r) [] .normal 0 (abT y r) []:=
 qbQ [] 100 [] (by decide) (by kernel_rfl) (Ro tI)
end
theorem qnl:wo.toList=wo.toList.take 2++((wo.toList.drop 2).take 1++wo.toList.drop 3):=by kernel_rfl
theorem qnI:∃ o:Oper,(wo.toList.drop 2).take 1=[o]∧o.op=.call (qiP o)∧(qiP o).callee=.value (.tmp 10)∧(qiP o).args=#[.tmp 11]∧o.dst=some 12∧o.guard=none:=
 ⟨wo.getD 2 default,by kernel_rfl,by kernel_rfl,by kernel_rfl,by kernel_rfl,by kernel_rfl,by kernel_rfl⟩
def wyV (j:Nat):List Int:=(wy j).map fun (k:Nat)=>(k:Int)
theorem qg7 {i:Nat} (h:i<126):wyV (i+1)=((i/2:Nat):Int)::wyV (i/2):=by unfold wyV;rw[qaX h];rfl
section
variable {y:Nat} {M B:Nat→Prop} {J:Nat→(Nat→Prop)→World→Prop} {W:World} {L:List Int}
structure AInv (M:Nat→Prop) (J:Nat→(Nat→Prop)→World→Prop) (W:World) (L rem:List Int) (a:Act) (w:World) (k:Nat) (T:Nat→Prop):Prop where
 df:a.defers=[]
 kp:Keep (fun b=>b<W.heap.size∧¬ M b) W w
 j:J k T w
 gro:Gro M W T w
 pre:∃ pre,L=pre++rem∧pre.length=k
theorem AInv.on {rem:List Int} {a a':Act} {w w':World} {k:Nat} {T:Nat→Prop} (h:AInv M J W L rem a w k T) (hJ:∀ k T w w',J k T w→Keep (fun b=>b<W.heap.size∨T b) w w'→J k T w') (hd:a'.defers=a.defers) (hg:Gr w w'):AInv M J W L rem a' w' k T:=
 ⟨hd.trans h.df,h.kp.trans (Keep.of_gr hg _),hJ _ _ _ _ h.j (Keep.of_gr hg _),h.gro.on (Nat.le_refl _) hg.size,h.pre⟩
theorem qe6 (hM:∀ b,M b→b<W.heap.size∧¬ B b) (hJ:∀ k T w w',J k T w→Keep (fun b=>b<W.heap.size∨T b) w w'→J k T w')
 (hY:∀ k x w T,(L.map iA)[k]?=some x→W.heap.size≤w.heap.size→(∀ b,T b→b<w.heap.size)→(∀ b,T b→b<W.heap.size→M b)→J k T w→YieldAt (FW none) 0 Try.prog y x w fun e w'=>e=.returned (.bool true)∧∃ T',J (k+1) T' w'∧Keep (fun b=>¬ T b) w w'∧Gro T w T' w')
 {Q:Exit→Act→World→Prop}
 (hQ:∀ β a w k T,Rel w 0 β (qaB 14 0 (abT y 0) [] []) (clr a) w→AInv M J W L [] a w k T→Q (.exit 0) a w) :
 ∀ (d j:Nat),(wy j).length=d→j≤126→∀ (β:Bl) (a:Act) (w:World) (k:Nat) (T:Nat→Prop),Rel w 0 β (qaB 14 0 (abT y (j:Int)) [] []) (clr a) w→
  AInv M J W L (wyV j) a w k T→Code.roundsIn (FW none) 0 Try.prog (wc [1,0,0]) Q (d+1) a w:=by
 intro d
 induction d with
 | zero=>
  intro j hj hj2 β a w k T R I
  rw[roundsIn_succ,qd5]
  have hj0:j=0:=by
   match j,hj,hj2 with
   | 0,_,_=>rfl
   | i+1,h,h2=>rw[qaX (by omega)] at h;cases h
  subst hj0
  refine wpIn_seq (qrD y _ (df (by omega)) none w β a w _ R fun β1 a1 w1 hle1 hd1 R1=>?_)
  exact hQ (β1.cut 0) a1 w1 k T (R1.now (by kernel_rfl) (by kernel_rfl) (by kernel_rfl)) (I.on hJ hd1 R1.h.gr)
 | succ d ih=>
  intro j hj hj2 β a w k T R I
  rw[roundsIn_succ,qd5]
  obtain⟨i,rfl⟩:∃ i,j=i+1:=by
   match j,hj with
   | 0,h=>cases h
   | i+1,_=>exact⟨i,rfl⟩
  rw[qaX (by omega),List.length_cons] at hj
  refine wpIn_seq (qoG y _ (dt (by omega)) none w β a w _ R fun β1 a1 w1 hle1 hd1 R1=>?_)
  refine wpIn_block (wpIn_seq (qnU y _ (i:Int) ((i/2:Nat):Int) (by rw[qbo (by omega) (by omega)];congr 1;omega) (by decide) (by
   rw[show Int.tdiv (i:Int) 2=((i/2:Nat):Int) from rfl]
   exact qbo (by omega) (by omega)) none w β1 a1 w1 _ R1 fun β2 a2 w2 hle2 hd2 R2=>?_))
  refine wpIn_seq (wpIn_region_list ?_)
  obtain⟨o,hol,ho,hc,hargs,hdst,hgd⟩:=qnI
  show wpListIn (FW none) 0 Try.prog wo _ wo.toList a2 w2
  rw[qnl,hol]
  refine qm5 y _ none w β2 a2 w2 _ _ R2 fun β4 a4 w4 hle4 hd4 R4=>qc3 hgd ?_
  have hdf:a4.defers=a.defers:=hd4.trans (hd2.trans hd1)
  have I4:AInv M J W L _ a4 w4 k T:=I.on hJ hdf R4.h.gr
  obtain⟨pre,hpre,hlen⟩:=I4.pre
  rw[qg7 (by omega)] at hpre
  have hLk:(L.map iA)[k]?=some (iA ((i/2:Nat):Int)):=by rw[hpre,← hlen,List.map_append,List.getElem?_append_right (by simp),List.length_map,Nat.sub_self];rfl
  have t10:a4.tmps.getD 10 undef=.func (.yield y) #[] #[]:=R4.t.tmps 10
  have t11:a4.tmps.getD 11 undef=iV ((i/2:Nat):Int):=R4.t.tmps 11
  refine qkM ho hc t10 (xs:=iA ((i/2:Nat):Int)) (by rw[hargs];simp only[List.map_toArray,List.map_cons,List.map_nil,Act.eval,t11,iA]) (hY k _ w4 T hLk I4.kp.size (fun b hb=>(I4.gro b hb).1) (fun b hb hl=>(I4.gro b hb).2.elim id fun h=>by omega) I4.j) fun e w5 ⟨he,T',hj5,hk5,hg5⟩=>⟨_,he,?_⟩
  have hTM:∀ b,b<W.heap.size→T b→M b:=fun b hl hb=>(I4.gro b hb).2.elim id fun h=>by omega
  have R5:=R4.later hk5 (l:=0) (tm':=abT y ((i/2:Nat):Int)) (hp':=[]) (by kernel_rfl) (by kernel_rfl) (by kernel_rfl) (fun b r hb _=>by omega) (fun b o e es n xs v hl=>by cases hl)
  have R6:=R5.put (d:=12) (x:=.pv (.bool true)) (u:=.bool true) (by decide) rfl
  rw[hdst]
  refine qj9 ?_
  refine qia y _ none w5 _ _ w5 _ [] R6 fun β7 a7 w7 hle7 hd7 R7=>?_
  refine qrW y _ none w5 β7 a7 w7 _ R7 fun β8 a8 w8 hle8 hd8 R8=>?_
  refine ih (i/2) (by omega) (by omega) (β8.cut 0) a8 w8 (k+1) T' (R8.now (by kernel_rfl) (by kernel_rfl) (by kernel_rfl)) ?_
  refine⟨?_,?_,?_,?_,pre++[((i/2:Nat):Int)],?_,by simp[hlen]⟩
  ·rw[hd8,hd7,qbZ];exact I4.df
  ·exact (I4.kp.trans (hk5.mono fun i _ h=>fun ht=>h.2 (hTM i h.1 ht))).trans (Keep.of_gr R8.h.gr _)
  ·exact hJ _ _ _ _ hj5 (Keep.of_gr R8.h.gr _)
  ·intro b hb
   obtain⟨h1,h2⟩:=hg5 b hb
   have h3:=R8.h.gr.size
   refine⟨by omega,?_⟩
   rcases h2 with h2 | h2
   ·exact (I4.gro b h2).2
   ·exact Or.inr (by have:=I4.kp.size;omega)
  ·rw[hpre,List.append_assoc];rfl
end
theorem qj1 {W0:World} {rb j:Nat} {B:Nat→Prop} (hj:j≤126) (hc:Cel W0 rb 0 (iV (j:Int))) (hB1:B rb) :
 SeqC Try.prog 71 #[.pointer (some ⟨rb,0,none⟩)] ((wyV j).map iA) B W0:=by
 intro y M J W hK hM hJ hY h0
 have hcW:Cel W rb 0 (iV (j:Int)):=hc.keep hK hB1
 refine qg1 (c:=wc []) Try.func71 (by kernel_rfl) ?_
 have H0:HRel W 1 (qcU [rb]) [(0,0,.pv (iV (j:Int)))] W:=qbk (rs:=[rb]) (by simp) (by simpa using hcW.lt) ⟨⟨rb,_,rfl,rfl,hcW,rfl⟩,trivial⟩
 have R0:=qfc (n:=14) (args:=[yw y,.pp 0 0]) (us:=[.func (.yield y) #[] #[],.pointer (some ⟨rb,0,none⟩)]) H0 (qb1 [rb]) ⟨rfl,⟨rb,rfl,rfl⟩,trivial⟩ (by simp)
 rw[qht]
 refine wpIn_seq (qlQ y _ none W (qcU [rb]) _ W _ R0 fun β1 a1 w1 hle hd R1=>?_)
 refine wpIn_block (wpIn_loop_rounds _ (qe6 (W:=W) (L:=wyV j) hM hJ hY (fun β a w k T R I=>?_) (wy j).length j rfl hj (β1.cut 0) a1 w1 0 M (R1.now (by kernel_rfl) (by kernel_rfl) (by kernel_rfl)) ?_))
 ·show LeavesInM (FW none) 0 Try.prog _ a.tmps _ a.defers .returning w
  rw[I.df]
  obtain⟨v,hv,_⟩:=qfB (P:=Try.prog) (fn:=Try.f71) (x:=.pv (.tuple #[])) R (by kernel_rfl)
  refine⟨v,hv,⟨v,rfl⟩,⟨T,?_,I.gro⟩,I.kp⟩
  obtain⟨pre,hpre,hlen⟩:=I.pre
  rw[List.append_nil] at hpre
  rw[List.length_map,hpre,hlen]
  exact I.j
 ·exact⟨hd,Keep.of_gr R1.h.gr _,hJ _ _ _ _ h0 (Keep.of_gr R1.h.gr _),fun b hb=>⟨Nat.lt_of_lt_of_le (hM b hb).1 R1.h.gr.size,Or.inl hb⟩,[],rfl,rfl⟩
section
variable (g:FuncId) (cap:Array Value) (u p2:Value) (x:Int)
end
end Go.Proofs.Ytgbmdijodlfcaaa
