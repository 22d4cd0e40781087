/-
  Those of an iterator's meetings that a closure keeps. Conditions: none.
-/
import Derived.Test.YtleaeldgaflmkaaGreatSxT
import Derived.Test.YtleaeldgaflmkaaGreatW2
import Derived.Test.YtleaeldgaflmkaaGreatW25
namespace Go.Proofs.YtleaeldgaflmkaaGreat
set_option maxRecDepth 100000
open Go.RowKit
structure Mt where
 n:Int
 d:Int
 i:Int
 j:Int
abbrev qar (m:Mt):Value:=.agg #[iV m.n,iV m.d,iV m.i,iV m.j]
abbrev mA (m:Mt):Array Value:=#[qar m]
def qtA (P:Program) (g:FuncId) (caps:Array Value) (kp:Mt→Bool) (X:List Mt) (B:Nat→Prop) (W0:World):Prop:=
 ∀ m∈X,∀ W,Keep B W0 W→Calls P g (#[qar m]++caps) W fun e w'=>e=.returned (.bool (kp m))∧Gr W w'
theorem qbX {α:Type} {X:List α} {k:Nat} {x:α} (h:X[k]?=some x):X.take (k+1)=X.take k++[x]:=by rw[List.take_add_one,h];rfl
theorem qk1 {α:Type} {X:List α} {f:α→Bool} {k:Nat} {x:α} (h:X[k]?=some x) (hf:f x=true):(X.filter f)[((X.take k).filter f).length]?=some x:=by
 have e:X=X.take k++x::X.drop (k+1):=by
  obtain⟨hl,rfl⟩:=List.getElem?_eq_some_iff.1 h
  rw[← List.drop_eq_getElem_cons hl,List.take_append_drop]
 have:X.filter f=(X.take k).filter f++x::(X.drop (k+1)).filter f:=by
  conv=>lhs;rw[e]
  rw[List.filter_append,List.filter_cons_of_pos hf]
 rw[this,List.getElem?_append_right (Nat.le_refl _),Nat.sub_self]
 rfl
noncomputable abbrev oc (p:List Nat):Code:=qjo Tryz.prog 164 p
noncomputable abbrev oo:Array Oper:=qlP (oc [1,1,0,1,0,0])
theorem qnE:oc []=.seq (oc [0]) (.seq (oc [1,0]) (.block 0 (.rangeFunc (.tmp 5) #[6] (oc [1,1,0,0]) (.block 1 (.seq (.region 3 oo false) (oc [1,1,0,1,0,1])))))):=by kernel_rfl
abbrev yvo (l:Nat):SV:=.pv (.func (.yield l) #[] #[])
abbrev fv (g:FuncId) (cap:Array Value):Value:=.func (.func g) #[] cap
abbrev oH (ga gk:FuncId) (ca ck:Array Value):List (Nat×Nat×SV):=[(0,0,.pv (fv ga ca)),(1,0,.pv (fv gk ck))]
abbrev oH1 (y:Nat) (ga gk:FuncId) (ca ck:Array Value):List (Nat×Nat×SV):=[(0,0,.pv (fv ga ca)),(1,0,.pv (fv gk ck)),(2,0,yvo y)]
abbrev oH2 (y:Nat) (ga gk:FuncId) (ca ck:Array Value) (m:Mt):List (Nat×Nat×SV):=[(0,0,.pv (fv ga ca)),(1,0,.pv (fv gk ck)),(2,0,yvo y),(3,0,.pv (iV m.n)),(3,1,.pv (iV m.d)),(3,2,.pv (iV m.i)),(3,3,.pv (iV m.j))]
abbrev oT0 (y:Nat):List (Nat×SV):=[(0,yvo y),(1,.pp 0 0),(2,.pp 1 0)]
abbrev oT1:List (Nat×SV):=[(1,.pp 0 0),(2,.pp 1 0),(3,.pp 2 0)]
abbrev oT2:List (Nat×SV):=[(1,.pp 0 0),(2,.pp 1 0),(3,.pp 2 0),(4,.pp 3 0)]
section
variable (y:Nat) (ga gk:FuncId) (ca ck:Array Value) (m:Mt)
theorem qwe:Seg Tryz.prog 2 2 (oc [0]) 16 2 (oT0 y) (oH ga gk ca ck) .normal 3 oT1 (oH1 y ga gk ca ck):=
 qaR [] 100 [] (by decide) (by kernel_rfl) (Ro tI)
theorem qu4:Seg Tryz.prog 2 3 (oc [1,0]) 16 3 oT1 (oH1 y ga gk ca ck) .normal 3 ((5,.pv (fv ga ca))::oT1) (oH1 y ga gk ca ck):=
 qaR [] 100 [] (by decide) (by kernel_rfl) (Ro tI)
theorem qmz:Seg Tryz.prog 3 3 (oc [1,1,0,0]) 16 3 ((6,.pv (qar m))::oT1) (oH1 y ga gk ca ck) .normal 4 oT2 (oH2 y ga gk ca ck m):=
 qaR [] 100 [] (by decide) (by kernel_rfl) (Ro tI)
theorem qsV:qnR Tryz.prog 4 4 oo (oo.toList.take 2) 16 4 oT2 (oH2 y ga gk ca ck m) 4 ((7,.pv (fv gk ck))::(8,.pv (qar m))::oT2) (oH2 y ga gk ca ck m):=
 qce [] 100 [] (Nat.le_refl _) (by kernel_rfl) (Ro tI)
theorem qzH:qnR Tryz.prog 4 4 oo (oo.toList.drop 3) 16 4 ((9,.pv (.bool false))::(7,.pv (fv gk ck))::(8,.pv (qar m))::oT2) (oH2 y ga gk ca ck m) 4 ((15,.pv (.bool false))::oT2) (oH2 y ga gk ca ck m):=
 qce [] 100 [] (Nat.le_refl _) (by kernel_rfl) (Ro tI)
theorem qvQ:qnR Tryz.prog 4 4 oo ((oo.toList.drop 3).take 3) 16 4 ((9,.pv (.bool true))::(7,.pv (fv gk ck))::(8,.pv (qar m))::oT2) (oH2 y ga gk ca ck m) 4 ((10,.pv (.bool true))::(11,yvo y)::(12,.pv (qar m))::oT2) (oH2 y ga gk ca ck m):=
 qce [] 100 [] (Nat.le_refl _) (by kernel_rfl) (Ro tI)
theorem qm6:qnR Tryz.prog 4 4 oo (oo.toList.drop 7) 16 4 ((13,.pv (.bool true))::(10,.pv (.bool true))::oT2) (oH2 y ga gk ca ck m) 4 ((15,.pv (.bool false))::oT2) (oH2 y ga gk ca ck m):=
 qce [] 100 [] (Nat.le_refl _) (by kernel_rfl) (Ro tI)
theorem qww:Seg Tryz.prog 4 4 (oc [1,1,0,1,0,1]) 16 4 ((15,.pv (.bool false))::oT2) (oH2 y ga gk ca ck m) .normal 4 oT2 (oH2 y ga gk ca ck m):=
 qaR [] 100 [] (Nat.le_refl _) (by kernel_rfl) (Ro tI)
end
theorem qtm:oo.toList=oo.toList.take 2++((oo.toList.drop 2).take 1++oo.toList.drop 3):=by kernel_rfl
theorem qqe:oo.toList.drop 3=(oo.toList.drop 3).take 3++((oo.toList.drop 6).take 1++oo.toList.drop 7):=by kernel_rfl
theorem qsy:∃ o:Oper,(oo.toList.drop 2).take 1=[o]∧o.op=.call (qcy o)∧(qcy o).callee=.value (.tmp 7)∧(qcy o).args=#[.tmp 8]∧o.dst=some 9∧o.guard=none:=
 ⟨oo.getD 2 default,by kernel_rfl,by kernel_rfl,by kernel_rfl,by kernel_rfl,by kernel_rfl,by kernel_rfl⟩
theorem qpm:∃ o:Oper,(oo.toList.drop 6).take 1=[o]∧o.op=.call (qcy o)∧(qcy o).callee=.value (.tmp 11)∧(qcy o).args=#[.tmp 12]∧o.dst=some 13∧∀ (y:Nat) (ga gk:FuncId) (ca ck:Array Value) (m:Mt),qbg oo (qaC 16 4 ((10,.pv (.bool true))::(11,yvo y)::(12,.pv (qar m))::oT2) (oH2 y ga gk ca ck m) []) o=some true:=
 ⟨oo.getD 6 default,by kernel_rfl,by kernel_rfl,by kernel_rfl,by kernel_rfl,by kernel_rfl,fun y ga gk ca ck m=>by kernel_rfl⟩
theorem qd9 {hp:List (Nat×Nat×SV)} (h:(hp.all fun e=>!e.2.2.isRow)=true) {b o:Nat} {e:TypeId} {es n:Nat} {xs:List Value} (hl:qae hp b o=some (.row e es n xs)):False:=by
 have:=List.all_eq_true.1 h _ (qaj hl)
 cases this
theorem qj2 {W0:World} {ra rk:Nat} {ga gk:FuncId} {ca ck:Array Value} {X:List Mt} {kp:Mt→Bool} {B:Nat→Prop}
 (hca:W0.cell? ⟨ra,0,none⟩=some (fv ga ca)) (hfa:W0.frozen? ⟨ra,0,none⟩=false) (hck:W0.cell? ⟨rk,0,none⟩=some (fv gk ck)) (hfk:W0.frozen? ⟨rk,0,none⟩=false) (hne:ra≠rk) (hba:qb6 Tryz.prog ga=true) (hbk:qb6 Tryz.prog gk=true)
 (hs:SeqC Tryz.prog ga ca (X.map mA) B W0) (hk:qtA Tryz.prog gk ck kp X B W0) (hB:∀ b,B b→b<W0.heap.size) :
 SeqC Tryz.prog 164 #[.pointer (some ⟨ra,0,none⟩),.pointer (some ⟨rk,0,none⟩)] ((X.filter kp).map mA) (fun b=>B b∨b=ra∨b=rk) W0:=by
 intro y M J W hK hM hJ hY h0
 have la:=World.block_lt_of_cell? W0 _ hca
 have lk:=World.block_lt_of_cell? W0 _ hck
 have ea:=hK.block ra la (Or.inr (Or.inl rfl))
 have ek:=hK.block rk lk (Or.inr (Or.inr rfl))
 have H0:=qky ((World.cell?_of_block (a:=⟨ra,0,none⟩) ea).trans hca) ((World.frozen?_of_block (a:=⟨ra,0,none⟩) ea).trans hfa) rfl ((World.cell?_of_block (a:=⟨rk,0,none⟩) ek).trans hck) ((World.frozen?_of_block (a:=⟨rk,0,none⟩) ek).trans hfk) rfl hne
 refine qeL (c:=oc []) Tryz.func164 (by kernel_rfl) ?_
 have R0:=qdr (n:=16) (args:=[yvo y,.pp 0 0,.pp 1 0]) (us:=[.func (.yield y) #[] #[],.pointer (some ⟨ra,0,none⟩),.pointer (some ⟨rk,0,none⟩)]) H0 (qld ra rk) ⟨rfl,⟨ra,rfl,rfl⟩,⟨rk,rfl,rfl⟩,trivial⟩ (by simp)
 rw[qnE]
 refine wpIn_seq (qwe y ga gk ca ck none W _ _ W _ R0 fun β1 a1 w1 hle1 hd1 R1=>?_)
 refine wpIn_seq (qu4 y ga gk ca ck none W β1 a1 w1 _ R1 fun β2 a2 w2 hle2 hd2 R2=>?_)
 have hg2:Gr W w2:=R2.h.gr
 have b0:β2 0=some ra:=Bl.leU_f hle2 (by omega) (Bl.leU_f hle1 (by omega) rfl)
 have b1:β2 1=some rk:=Bl.leU_f hle2 (by omega) (Bl.leU_f hle1 (by omega) rfl)
 have nM:∀ b r,b<3→β2 b=some r→r<w2.heap.size∧¬ M r:=fun b r hb e=>by
  refine⟨R2.h.live b r e,fun h=>?_⟩
  match b,hb with
  | 0,_=>rw[b0] at e;cases e;exact (hM _ h).2 (Or.inr (Or.inl rfl))
  | 1,_=>rw[b1] at e;cases e;exact (hM _ h).2 (Or.inr (Or.inr rfl))
  | 2,_=>have h1:=R2.h.new 2 r (by omega) e;have h2:=(hM _ h).1;omega
 have hsz2:=hg2.size
 have hd:a2.defers=[]:=hd2.trans hd1
 have t5:a2.tmps.getD 5 undef=fv ga ca:=R2.t.tmps 5
 have R3:Rel w2 3 (β2.cut 3) (qaC 16 3 oT1 (oH1 y ga gk ca ck) []) (clr a2) w2:=R2.now (by kernel_rfl) (by kernel_rfl) (by kernel_rfl)
 have nM3:∀ b r,b<3→(β2.cut 3) b=some r→r<w2.heap.size∧¬ M r:=fun b r hb e=>nM b r hb (Bl.cut_f e).2
 refine wpIn_block (qdm t5 hba (hs.later ((hK.mono fun i _ h=>Or.inl h).trans (Keep.of_gr hg2 _))) M (fun b hb=>⟨by have:=(hM b hb).1;omega,fun h=>(hM b hb).2 (Or.inl h)⟩) (fun b hb=>by have h1:=hB b hb;have h2:=hK.size;omega) (fun x hx=>by
  obtain⟨m,_,rfl⟩:=List.mem_map.1 hx
  rfl)
  (fun k T w=>Keep (fun b=>b<w2.heap.size∧¬ M b) w2 w∧J ((X.take k).filter kp).length T w) ?_ ⟨Keep.refl _ _,hJ _ _ _ _ h0 (Keep.of_gr hg2 _)⟩ ?_ ?_)
 ·rintro k T u1 u2 ⟨h1,h2⟩ h3
  exact⟨h1.trans (h3.mono fun i _ h=>Or.inl h.1),hJ _ _ _ _ h2 (h3.mono fun i _ h=>h.imp (fun h=>by omega) id)⟩
 ·rintro l k x Wr T rfl hx hsz hT1 hT2 ⟨hI,hj⟩
  obtain⟨m,hm,rfl⟩:∃ m,X[k]?=some m∧x=mA m:=by
   rw[List.getElem?_map] at hx
   cases hm:X[k]? with
   | none=>rw[hm] at hx;cases hx
   | some m=>rw[hm] at hx;cases hx;exact⟨m,rfl,rfl⟩
  have hact:({ tmps:=((#[6]:Array Tmp).zip (mA m)).foldl (fun t (p,v)=>t.setIfInBounds p v) a2.tmps,defers:=[] }:Act)=clr (a2.put (some 6) (qar m)):=by simp[mA,clr,Act.put]
  rw[hact]
  have R4:=R3.later hI (l:=3) (tm':=oT1) (hp':=oH1 y ga gk ca ck) (by kernel_rfl) (by kernel_rfl) (by kernel_rfl) (fun b r hb e=>nM3 b r hb e) (fun b o e es n xs v hl=>(qd9 (by kernel_rfl) hl).elim)
  have R5:=R4.put (d:=6) (x:=.pv (qar m)) (u:=qar m) (by decide) rfl
  refine qmz y ga gk ca ck m (some _) Wr _ (clr (a2.put (some 6) (qar m))) Wr _ R5 fun β6 a6 w6 hle6 hd6 R6=>?_
  have hg6:Gr Wr w6:=R6.h.gr
  refine⟨Keep.of_gr hg6 _,fun W2 hk2 hs2=>?_⟩
  have hle6':∀ b r,b<3→β6 b=some r→∃ r',(β2.cut 3) b=some r'∧r'=r:=fun b r hb e=>by
   cases e3:(β2.cut 3) b with
   | some r'=>
    have e4:(((β2.cut 3).cut 3)) b=some r':=by rw[(Bl.cut_lt hb).1];exact e3
    have:=Bl.leU_f hle6 hb e4
    rw[e] at this;cases this;exact⟨r,rfl,rfl⟩
   | none=>
    exfalso
    match b,hb with
    | 0,_=>rw[(Bl.cut_lt (show 0<3 by omega)).1,b0] at e3;cases e3
    | 1,_=>rw[(Bl.cut_lt (show 1<3 by omega)).1,b1] at e3;cases e3
    | 2,_=>
     obtain⟨r',hr',_⟩:=R3.t.tmps 3
     rw[e3] at hr';cases hr'
  have n6:∀ b r,b<4→β6 b=some r→¬ T r∧r≠w2.heap.size+1:=fun b r hb e=>by
   rcases Nat.lt_or_ge b 3 with h | h
   ·obtain⟨r',h1,rfl⟩:=hle6' b r h e
    obtain⟨h2,h3⟩:=nM3 b r' h h1
    exact⟨fun ht=>h3 (hT2 _ ht h2),by omega⟩
   ·have h1:=R6.h.new b r (by omega) e
    exact⟨fun h=>by have:=(hT1 _ h).1;omega,by omega⟩
  have R7:=R6.later hk2 (l:=4) (tm':=oT2) (hp':=oH2 y ga gk ca ck m) (by kernel_rfl) (by kernel_rfl) (by kernel_rfl) (fun b r hb e=>(n6 b r hb e).2) (fun b o e es n xs v hl=>(qd9 (by kernel_rfl) hl).elim)
  have hj2:J ((X.take k).filter kp).length T W2:=hJ _ _ _ _ (hJ _ _ _ _ hj (Keep.of_gr hg6 _)) (hk2.mono fun i _ h=>by
   show i≠_
   rcases h with h | h
   ·omega
   ·exact (hT1 i h).2.2)
  have hKB:Keep B W0 W2:=by
   refine (((hK.mono fun i _ h=>Or.inl h).trans (Keep.of_gr hg2 _)).trans (hI.mono fun i h1 h2=>⟨h1,fun h=>(hM _ h).2 (Or.inl h2)⟩)).trans ((Keep.of_gr hg6 _).trans (hk2.mono fun i _ h=>?_))
   show i≠_
   have h1:=hB i h
   have h2:=hK.size
   omega
  have hI2:Keep (fun b=>b<w2.heap.size∧¬ M b) w2 W2:=(hI.trans (Keep.of_gr hg6 _)).trans (hk2.mono fun i _ h=>by show i≠_;have:=h.1;omega)
  refine wpIn_block (wpIn_seq (wpIn_region_list ?_))
  obtain⟨o,hol,ho,hc,hargs,hdst,hgd⟩:=qsy
  rw[qtm,hol]
  refine qsV y ga gk ca ck m (some _) W2 _ a6 W2 _ _ R7 fun β8 a8 w8 hle8 hd8 R8=>qev hgd ?_
  have t7:a8.tmps.getD 7 undef=fv gk ck:=R8.t.tmps 7
  have t8:a8.tmps.getD 8 undef=qar m:=R8.t.tmps 8
  refine qsp ho hc t7 hbk (xs:=mA m) (by rw[hargs];simp only[List.map_toArray,List.map_cons,List.map_nil,Act.eval,t8,mA]) (hk m (List.mem_of_getElem? hm) w8 (hKB.trans (Keep.of_gr R8.h.gr _))) fun e w9 ⟨he,hg9⟩=>⟨_,he,?_⟩
  rw[hdst]
  have R9:=(R8.gr hg9).put (d:=9) (x:=.pv (.bool (kp m))) (u:=.bool (kp m)) (by decide) rfl
  have hf8:∀ b r,b<4→β8 b=some r→¬ T r:=fun b r hb e=>by
   have e4:((β6.cut 4) b).isSome:=by
    match b,hb with
    | 0,_=>obtain⟨r',hr',_⟩:=R7.t.tmps 1;rw[hr'];rfl
    | 1,_=>obtain⟨r',hr',_⟩:=R7.t.tmps 2;rw[hr'];rfl
    | 2,_=>obtain⟨r',hr',_⟩:=R7.t.tmps 3;rw[hr'];rfl
    | 3,_=>obtain⟨r',hr',_⟩:=R7.t.tmps 4;rw[hr'];rfl
   obtain⟨r',hr'⟩:=Option.isSome_iff_exists.1 e4
   have:=Bl.leU_f hle8 hb hr'
   rw[e] at this
   cases this
   exact (n6 b r hb (Bl.cut_f hr').2).1
  have hg29:Gr W2 w9:=R8.h.gr.trans hg9
  cases hkp:kp m with
  | false=>
   rw[hkp] at R9
   refine qdx (qzH y ga gk ca ck m (some _) W2 β8 _ w9 _ [] R9 fun β10 a10 w10 hle10 hd10 R10=>?_)
   refine qww y ga gk ca ck m (some _) W2 β10 a10 w10 _ R10 fun β11 a11 w11 hle11 hd11 R11=>?_
   have hsA:=R11.h.gr.size
   have hsB:=hg6.size
   refine⟨rfl,T,⟨hI2.trans (Keep.of_gr R11.h.gr _),?_⟩,Keep.of_gr R11.h.gr _,fun b hb=>⟨by have:=(hT1 b hb).1;omega,Or.inl hb⟩⟩
   rw[qbX hm,List.filter_append,List.filter_cons_of_neg (by rw[hkp];decide),List.filter_nil,List.append_nil]
   exact hJ _ _ _ _ hj2 (Keep.of_gr R11.h.gr _)
  | true=>
   rw[hkp] at R9
   obtain⟨p,hpl,hp1,hp2,hp3,hp4,hp5⟩:=qpm
   rw[qqe,hpl]
   refine qvQ y ga gk ca ck m (some _) W2 β8 _ w9 _ _ R9 fun β10 a10 w10 hle10 hd10 R10=>qhG R10 (hp5 y ga gk ca ck m) ?_
   have t11:a10.tmps.getD 11 undef=.func (.yield y) #[] #[]:=R10.t.tmps 11
   have t12:a10.tmps.getD 12 undef=qar m:=R10.t.tmps 12
   have hL:((X.filter kp).map mA)[((X.take k).filter kp).length]?=some (mA m):=by rw[List.getElem?_map,qk1 hm hkp];rfl
   have hg10:Gr W2 w10:=R10.h.gr
   have hszW:W.heap.size≤w10.heap.size:=by
    have h1:=hI2.size
    have h2:=hg10.size
    omega
   refine qgR hp1 hp2 t11 (xs:=mA m) (by rw[hp3];simp only[List.map_toArray,List.map_cons,List.map_nil,Act.eval,t12,mA]) (hY _ _ w10 T hL hszW (fun b hb=>by have h1:=(hT1 b hb).1;have h2:=hg6.size;have h3:=hg10.size;omega) (fun b hb hl=>hT2 b hb (by omega)) (hJ _ _ _ _ hj2 (Keep.of_gr hg10 _))) fun e w11 ⟨he,T',hj11,hk11,hg11⟩=>⟨_,he,?_⟩
   have hf10:∀ b r,b<4→β10 b=some r→¬ T r:=fun b r hb e=>by
    have e4:(β8 b).isSome:=by
     match b,hb with
     | 0,_=>obtain⟨r',hr',_⟩:=R8.t.tmps 1;rw[hr'];rfl
     | 1,_=>obtain⟨r',hr',_⟩:=R8.t.tmps 2;rw[hr'];rfl
     | 2,_=>obtain⟨r',hr',_⟩:=R8.t.tmps 3;rw[hr'];rfl
     | 3,_=>obtain⟨r',hr',_⟩:=R8.t.tmps 4;rw[hr'];rfl
    obtain⟨r',hr'⟩:=Option.isSome_iff_exists.1 e4
    have:=Bl.leU_f hle10 hb hr'
    rw[e] at this
    cases this
    exact hf8 b r hb hr'
   have R11:=R10.later hk11 (l:=4) (tm':=(10,.pv (.bool true))::oT2) (hp':=oH2 y ga gk ca ck m) (by kernel_rfl) (by kernel_rfl) (by kernel_rfl) hf10 (fun b o e es n xs v hl=>(qd9 (by kernel_rfl) hl).elim)
   have R12:=R11.put (d:=13) (x:=.pv (.bool true)) (u:=.bool true) (by decide) rfl
   rw[hp4]
   refine qdx (qm6 y ga gk ca ck m (some _) w11 _ _ w11 _ [] R12 fun β13 a13 w13 hle13 hd13 R13=>?_)
   refine qww y ga gk ca ck m (some _) w11 β13 a13 w13 _ R13 fun β14 a14 w14 hle14 hd14 R14=>?_
   have hkM:Keep (fun b=>¬ T b) W2 w14:=((Keep.of_gr hg10 _).trans hk11).trans (Keep.of_gr R14.h.gr _)
   refine⟨rfl,T',⟨hI2.trans (hkM.mono fun i _ h=>fun ht=>h.2 (hT2 i ht h.1)),?_⟩,hkM,hg11.on hg10.size R14.h.gr.size⟩
   rw[qbX hm,List.filter_append,List.filter_cons_of_pos hkp,List.filter_nil,List.length_append]
   exact hJ _ _ _ _ hj11 (Keep.of_gr R14.h.gr _)
 ·rintro w3 T3 ⟨hI,hj⟩ hG hn3 hD hk3
  show LeavesInM (FW none) 0 Tryz.prog _ a2.tmps _ _ .returning w3
  have hkp:Keep (·≠w2.heap.size) w3 (w3.putObj w2.heap.size (.deferred none)):=Keep.putObj _ _ _
  rw[hd]
  refine⟨by simp,.inl ⟨w2.heap.size,_,rfl,run_takeDeferred hD,_,qfs (by kernel_rfl) _ _,⟨_,rfl⟩,⟨T3,?_,hG.on hg2.size (by simp)⟩,?_⟩⟩
  ·rw[List.length_map] at hj ⊢
   rw[List.take_length] at hj
   exact hJ _ _ _ _ hj (hkp.mono fun i _ h=>by
    show i≠_
    rcases h with h | h
    ·omega
    ·exact (hn3 i h).1)
  ·exact ((Keep.of_gr hg2 _).trans (hk3.mono fun i _ h=>⟨by have:=h.1;omega,h.2⟩)).trans (hkp.mono fun i _ h=>by show i≠_;have:=h.1;omega)
end Go.Proofs.YtleaeldgaflmkaaGreat
