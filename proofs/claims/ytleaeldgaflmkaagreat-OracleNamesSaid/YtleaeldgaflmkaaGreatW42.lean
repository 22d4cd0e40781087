/-
  Joined: Md, Mf, Mg, Mi, Mj, Mk. Conditions: none.
-/
import Derived.Test.YtleaeldgaflmkaaGreatW41
import Derived.Test.YtleaeldgaflmkaaGreatMc
import Derived.Test.YtleaeldgaflmkaaGreatW25
import Derived.Test.YtleaeldgaflmkaaGreatSxU
namespace Go.Proofs.YtleaeldgaflmkaaGreat
set_option maxRecDepth 100000
open Go.RowKit
theorem qxz {α β:Type} {X:List α} {f:α→Option β} {k:Nat} {x:α} {y:β} (h:X[k]?=some x) (hf:f x=some y):(X.filterMap f)[((X.take k).filterMap f).length]?=some y:=by
 have e:X=X.take k++x::X.drop (k+1):=by
  obtain⟨hl,rfl⟩:=List.getElem?_eq_some_iff.1 h
  rw[← List.drop_eq_getElem_cons hl,List.take_append_drop]
 have:X.filterMap f=(X.take k).filterMap f++y::(X.drop (k+1)).filterMap f:=by
  conv=>lhs;rw[e]
  rw[List.filterMap_append,List.filterMap_cons_some hf]
 rw[this,List.getElem?_append_right (Nat.le_refl _),Nat.sub_self]
 rfl
noncomputable abbrev ec (p:List Nat):Code:=qjo Tryz.prog 178 p
noncomputable abbrev eo:Array Oper:=qlP (ec [1,1,0,1,0,1,0])
theorem qkJ:ec []=.seq (ec [0]) (.seq (ec [1,0]) (.block 0 (.rangeFunc (.tmp 8) #[9,10] (ec [1,1,0,0]) (.block 1 (.seq (ec [1,1,0,1,0,0]) (.seq (.region 5 eo false) (ec [1,1,0,1,0,1,1]))))))):=by kernel_rfl
abbrev eH1 (y:Nat) (l:List Pt):List (Nat×Nat×SV):=[(1,0,.ls 0 l.length),(2,0,yv y),(0,0,qad l)]
abbrev eH2 (y:Nat) (l:List Pt):List (Nat×Nat×SV):=[(1,0,.ls 0 l.length),(2,0,yv y),(3,0,.ls 0 l.length),(0,0,qad l)]
abbrev eH3 (y:Nat) (p q:Pt):List (Nat×Nat×SV):=[(2,0,yv y),(4,0,.pv (iV p.id)),(4,1,.pv (iV p.a)),(4,2,.pv (iV p.b)),(5,0,.pv (iV q.id)),(5,1,.pv (iV q.a)),(5,2,.pv (iV q.b))]
abbrev eH4 (y:Nat) (p q:Pt) (n d:Int):List (Nat×Nat×SV):=[(2,0,yv y),(4,0,.pv (iV p.id)),(4,1,.pv (iV p.a)),(4,2,.pv (iV p.b)),(5,0,.pv (iV q.id)),(5,1,.pv (iV q.a)),(5,2,.pv (iV q.b)),(6,0,.pv (iV n)),(6,1,.pv (iV d))]
abbrev eT1:List (Nat×SV):=[(1,.pp 1 0),(2,.pp 2 0)]
abbrev eT2:List (Nat×SV):=[(1,.pp 1 0),(2,.pp 2 0),(8,.pc 186 [.pp 3 0])]
abbrev eT3:List (Nat×SV):=[(2,.pp 2 0),(3,.pp 4 0),(4,.pp 5 0)]
abbrev eT4:List (Nat×SV):=[(2,.pp 2 0),(3,.pp 4 0),(4,.pp 5 0),(5,.pp 6 0)]
section
variable (y:Nat) (l:List Pt) (p q:Pt) (n d e:Int)
theorem quM:Seg Tryz.prog 2 2 (ec [0]) 30 2 (pT0 y) (pH l) .normal 3 eT1 (eH1 y l):=
 qaR [] 100 [] (by decide) (by kernel_rfl) (Ro tI)
theorem qqc:Seg Tryz.prog 2 3 (ec [1,0]) 30 3 eT1 (eH1 y l) .normal 4 eT2 (eH2 y l):=
 qaR [] 100 [.k] (by decide) (by kernel_rfl) (Ro tI)
theorem qmL:Seg Tryz.prog 4 4 (ec [1,1,0,0]) 30 4 ((10,.pv (ptV q))::(9,.pv (ptV p))::(2,.pp 2 0)::[]) [(2,0,yv y)] .normal 6 eT3 (eH3 y p q):=
 qaR [] 100 [] (by decide) (by kernel_rfl) (Ro tI)
theorem qmP (hc:Pure Tryz.prog 180 #[ptV p,ptV q] (.tuple #[qaa n d,iV e])):Seg Tryz.prog 6 6 (ec [1,1,0,1,0,0]) 30 6 eT3 (eH3 y p q) .normal 7 ((6,.pv (iV e))::eT4) (eH4 y p q n d):=
 qaR [] 100 [Rf hc] (by decide) (by kernel_rfl) (Ro (Ai hc tI))
theorem qyS:qnR Tryz.prog 6 7 eo eo.toList 30 7 ((6,.pv (iV 6))::eT4) (eH4 y p q n d) 7 ((29,.pv (.bool false))::eT4) (eH4 y p q n d):=
 qce [] 100 [] (by decide) (by kernel_rfl) (Ro tI)
theorem qwo:qnR Tryz.prog 6 7 eo (eo.toList.take 10) 30 7 ((6,.pv (iV 0))::eT4) (eH4 y p q n d) 7 ((19,.pv (.bool true))::(20,yv y)::(26,.pv (qar ⟨n,d,p.id,q.id⟩))::eT4) (eH4 y p q n d):=
 qce [] 100 [] (by decide) (by kernel_rfl) (Ro tI)
theorem qn2:qnR Tryz.prog 7 7 eo (eo.toList.drop 11) 30 7 ((27,.pv (.bool true))::(19,.pv (.bool true))::eT4) (eH4 y p q n d) 7 ((29,.pv (.bool false))::eT4) (eH4 y p q n d):=
 qce [] 100 [] (Nat.le_refl _) (by kernel_rfl) (Ro tI)
theorem qvP (lo:Nat) (hlo:lo=6∨lo=7):Seg Tryz.prog lo 7 (ec [1,1,0,1,0,1,1]) 30 7 ((29,.pv (.bool false))::eT4) (eH4 y p q n d) .normal 7 eT4 (eH4 y p q n d):=by
 rcases hlo with rfl | rfl
 ·exact qaR [] 100 [] (by decide) (by kernel_rfl) (Ro tI)
 ·exact qaR [] 100 [] (by decide) (by kernel_rfl) (Ro tI)
end
theorem qtj:eo.toList=eo.toList.take 10++((eo.toList.drop 10).take 1++eo.toList.drop 11):=by kernel_rfl
theorem qpH:∃ o:Oper,(eo.toList.drop 10).take 1=[o]∧o.op=.call (qcy o)∧(qcy o).callee=.value (.tmp 20)∧(qcy o).args=#[.tmp 26]∧o.dst=some 27∧∀ (y:Nat) (p q:Pt) (n d:Int),qbg eo (qaC 30 7 ((19,.pv (.bool true))::(20,yv y)::(26,.pv (qar ⟨n,d,p.id,q.id⟩))::eT4) (eH4 y p q n d) []) o=some true:=
 ⟨eo.getD 10 default,by kernel_rfl,by kernel_rfl,by kernel_rfl,by kernel_rfl,by kernel_rfl,fun y p q n d=>by kernel_rfl⟩
theorem qwk {β:Bl} {f:FuncId} {b o:Nat} {v:Value} (h:(SV.pc f [.pp b o]).is β v):∃ r,β b=some r∧v=.func (.func f) #[] #[.pointer (some ⟨r,o,none⟩)]:=by
 obtain⟨vs,h1,rfl⟩:=h
 match vs,h1 with
 | [x],⟨⟨r,hr,hx⟩,_⟩=>exact⟨r,hr,by rw[hx]⟩
theorem qry {W0:World} {lo:Nat} {β:Bl} {hp:List (Nat×Nat×SV)} {w:World} (H:HRel W0 lo β hp w) {b o:Nat} {l:List Pt} {u:Value} (h:qae hp b o=some (qad l)) (hg:β.g b=some u):Rd w 3 u l.length (qay l):=by
 obtain⟨u',h1,h2⟩:=H.rows b o _ _ _ _ h
 rw[hg] at h1
 cases h1
 exact h2.rd
theorem qrE {W0:World} {lo:Nat} {β:Bl} {hp:List (Nat×Nat×SV)} {w:World} (H:HRel W0 lo β hp w) {b c n r:Nat} {u:Value} (h:qae hp b 0=some (.ls c n)) (hb:β b=some r) (hg:β.g c=some u):w.cell? ⟨r,0,none⟩=some u∧w.frozen? ⟨r,0,none⟩=false:=by
 obtain⟨r',u',h1,h2,_,h4,h5⟩:=H.cells b 0 _ h rfl
 rw[hb] at h1
 cases h1
 have h3:β.g c=some u':=h2.1
 rw[hg] at h3
 cases h3
 exact⟨h4,h5⟩
theorem qlU {W0:World} {rb:Nat} {u:Value} {l:List Pt} {f:Pt×Pt→Option Mt} {B:Nat→Prop} (hc:W0.cell? ⟨rb,0,none⟩=some u) (hf:W0.frozen? ⟨rb,0,none⟩=false) (hr:Rd W0 3 u l.length (qay l)) (hB1:B rb) (hB2:qay l≠[]→∀ k,u.ownBlock=some k→B k) (hB:∀ b,B b→b<W0.heap.size) (hn:l.length≤1000000)
 (hm:∀ x∈qau l,(f x=none∧Pure Tryz.prog 180 #[ptV x.1,ptV x.2] (.tuple #[qaa 0 0,iV 6]))∨∃ n d,f x=some ⟨n,d,x.1.id,x.2.id⟩∧Pure Tryz.prog 180 #[ptV x.1,ptV x.2] (.tuple #[qaa n d,iV 0])) :
 SeqC Tryz.prog 178 #[.pointer (some ⟨rb,0,none⟩)] (((qau l).filterMap f).map mA) B W0:=by
 intro y M J W hK hM hJ hY h0
 have hb:=hK.block rb (World.block_lt_of_cell? W0 _ hc) hB1
 have hcW:W.cell? ⟨rb,0,none⟩=some u:=(World.cell?_of_block (a:=⟨rb,0,none⟩) hb).trans hc
 have hfW:W.frozen? ⟨rb,0,none⟩=false:=(World.frozen?_of_block (a:=⟨rb,0,none⟩) hb).trans hf
 have hrW:Rd W 3 u l.length (qay l):=hr.keep fun hx k hk o=>World.cell?_of_block (a:=⟨k,o,none⟩) (hK.block k (hr.lt hx k hk) (hB2 hx k hk))
 refine qeL (c:=ec []) Tryz.func178 (by kernel_rfl) ?_
 have R0:=qdr (n:=30) (args:=[yv y,.pp 1 0]) (us:=[.func (.yield y) #[] #[],.pointer (some ⟨rb,0,none⟩)]) (qnX hcW hfW hrW) (qlI rb u) ⟨rfl,⟨rb,rfl,rfl⟩,trivial⟩ (by simp)
 rw[qkJ]
 refine wpIn_seq (quM y l none W _ _ W _ R0 fun β1 a1 w1 hle1 hd1 R1=>?_)
 refine wpIn_seq (qqc y l none W β1 a1 w1 _ R1 fun β2 a2 w2 hle2 hd2 R2=>?_)
 have hg2:Gr W w2:=R2.h.gr
 have hd:a2.defers=[]:=hd2.trans hd1
 have c0:β2.g 0=some u:=Bl.leU_g hle2 (by omega) (Bl.leU_g hle1 (by omega) rfl)
 obtain⟨r3,hr3,t8⟩:=qwk (R2.t.tmps 8)
 obtain⟨r2,hr2,_⟩:=R2.t.tmps 2
 obtain⟨k1,k2⟩:=qrE R2.h (b:=3) rfl hr3 c0
 have hrd:=qry R2.h (b:=0) (o:=0) rfl c0
 have n2:=R2.h.new 2 r2 (by omega) hr2
 have n3:=R2.h.new 3 r3 (by omega) hr3
 have l2:=R2.h.live 2 r2 hr2
 have l3:=R2.h.live 3 r3 hr3
 have hsz2:=hg2.size
 have hBk:qay l≠[]→∀ k,u.ownBlock=some k→k<w2.heap.size:=fun hx k hk=>by have h1:=hB k (hB2 hx k hk);have h2:=hK.size;omega
 have hseq:=qn7 (B:=fun b=>b=r3∨(qay l≠[]∧u.ownBlock=some b)) k1 k2 hrd (Or.inl rfl) (fun hx k hk=>Or.inr ⟨hx,hk⟩) hn
 have R3:Rel w2 4 (β2.cut 4) (qaC 30 4 [(2,.pp 2 0)] [(2,0,yv y)] []) (clr a2) w2:=R2.now (by kernel_rfl) (by kernel_rfl) (by kernel_rfl)
 have hb2:(β2.cut 4) 2=some r2:=by rw[(Bl.cut_lt (show 2<4 by omega)).1];exact hr2
 refine wpIn_block (qdm (L:=qcz l) t8 (by kernel_rfl) hseq M (fun b hb=>⟨by have:=(hM b hb).1;omega,fun h=>?_⟩) (fun b hb=>?_) (fun x hx=>by
  obtain⟨z,_,rfl⟩:=List.mem_map.1 hx
  rfl)
  (fun k T w=>Keep (fun b=>b<w2.heap.size∧¬ M b) w2 w∧J (((qau l).take k).filterMap f).length T w) ?_ ⟨Keep.refl _ _,hJ _ _ _ _ h0 (Keep.of_gr hg2 _)⟩ ?_ ?_)
 ·rcases h with rfl | ⟨hx,h⟩
  ·have:=(hM _ hb).1;omega
  ·exact (hM _ hb).2 (hB2 hx _ h)
 ·rcases hb with rfl | ⟨hx,h⟩
  ·exact l3
  ·exact hBk hx _ h
 ·rintro k T u1 u2 ⟨h1,h2⟩ h3
  exact⟨h1.trans (h3.mono fun i _ h=>Or.inl h.1),hJ _ _ _ _ h2 (h3.mono fun i _ h=>h.imp (fun h=>by omega) id)⟩
 ·rintro lr k x Wr T rfl hx hsz hT1 hT2 ⟨hI,hj⟩
  obtain⟨⟨p,q⟩,hpq,rfl⟩:∃ z,(qau l)[k]?=some z∧x=qfF z:=by
   rw[List.getElem?_map] at hx
   cases hm:(qau l)[k]? with
   | none=>rw[hm] at hx;cases hx
   | some z=>rw[hm] at hx;cases hx;exact⟨z,rfl,rfl⟩
  have hact:({ tmps:=((#[9,10]:Array Tmp).zip (qfF (p,q))).foldl (fun t (p,v)=>t.setIfInBounds p v) a2.tmps,defers:=[] }:Act)=clr ((a2.put (some 9) (ptV p)).put (some 10) (ptV q)):=by simp[qfF,clr,Act.put]
  rw[hact]
  have R4:=R3.later hI (l:=4) (tm':=[(2,.pp 2 0)]) (hp':=[(2,0,yv y)]) (by kernel_rfl) (by kernel_rfl) (by kernel_rfl) (fun b r hb e=>by
   have e':=(Bl.cut_f e).2
   refine⟨R2.h.live b r e',fun h=>?_⟩
   rcases Nat.lt_or_ge b 2 with h2 | h2
   ·match b,h2 with
    | 0,_=>have:=R2.h.sep 0 r e';rw[c0] at this;cases this
    | 1,_=>
     have h3:β2 1=some rb:=Bl.leU_f hle2 (by omega) (Bl.leU_f hle1 (by omega) rfl)
     rw[h3] at e';cases e'
     exact (hM _ h).2 hB1
   ·have h3:=R2.h.new b r h2 e'
    have h4:=(hM _ h).1
    omega) (fun b o e es n xs v hl=>(qd9 (by kernel_rfl) hl).elim)
  have R5:=(R4.put (d:=9) (x:=.pv (ptV p)) (u:=ptV p) (by decide) rfl).put (d:=10) (x:=.pv (ptV q)) (u:=ptV q) (by decide) rfl
  refine qmL y p q (some _) Wr _ (clr ((a2.put (some 9) (ptV p)).put (some 10) (ptV q))) Wr _ R5 fun β6 a6 w6 hle6 hd6 R6=>?_
  have hg6:Gr Wr w6:=R6.h.gr
  refine⟨Keep.of_gr hg6 _,fun W2 hk2 hs2=>?_⟩
  have hf2:β6 2=some r2:=Bl.leU_f hle6 (by omega) (by rw[(Bl.cut_lt (show 2<4 by omega)).1];exact hb2)
  obtain⟨r4,hr4,_⟩:=R6.t.tmps 3
  obtain⟨r5,hr5,_⟩:=R6.t.tmps 4
  have n4:=R6.h.new 4 r4 (by omega) hr4
  have n5:=R6.h.new 5 r5 (by omega) hr5
  have R7:Rel W2 6 (β6.cut 6) (qaC 30 6 eT3 (eH3 y p q) []) (clr a6) W2:=by
   refine R6.later (S:=fun b=>b≠w2.heap.size+1) hk2 (l:=6) (by kernel_rfl) (by kernel_rfl) (by kernel_rfl) (fun b r hb e=>?_) (fun b o e es n xs v hl=>(qd9 (by kernel_rfl) hl).elim)
   rcases Nat.lt_or_ge b 4 with h4 | h4
   ·intro hr
    have h5:((β2.cut 4).cut 4) b=some r∨(((β2.cut 4).cut 4) b=none∧((β2.cut 4).cut 4).g b=none):=by
     cases e1:((β2.cut 4).cut 4) b with
     | some r'=>have:=Bl.leU_f hle6 h4 e1;rw[e] at this;cases this;exact Or.inl rfl
     | none=>
      cases e2:((β2.cut 4).cut 4).g b with
      | some v=>have:=hle6.1 b h4 (Or.inr (by rw[e2];simp));rw[e,e1] at this;cases this.1
      | none=>exact Or.inr ⟨rfl,rfl⟩
    rcases h5 with h5 | ⟨h5,h6⟩
    ·have:=R2.h.live b r (Bl.cut_f (Bl.cut_f h5).2).2;omega
    ·rw[(Bl.cut_lt h4).1,(Bl.cut_lt h4).1] at h5
     rw[(Bl.cut_lt h4).2,(Bl.cut_lt h4).2] at h6
     match b,h4 with
     | 0,_=>rw[c0] at h6;cases h6
     | 1,_=>obtain⟨r',hr',_⟩:=R2.t.tmps 1;rw[hr'] at h5;cases h5
     | 2,_=>rw[hr2] at h5;cases h5
     | 3,_=>rw[hr3] at h5;cases h5
   ·have:=R6.h.new b r h4 e;omega
  have hj2:J (((qau l).take k).filterMap f).length T W2:=hJ _ _ _ _ (hJ _ _ _ _ hj (Keep.of_gr hg6 _)) (hk2.mono fun i _ h=>by
   show i≠_
   rcases h with h | h
   ·omega
   ·exact (hT1 i h).2.2)
  have hI2:Keep (fun b=>b<w2.heap.size∧¬ M b) w2 W2:=(hI.trans (Keep.of_gr hg6 _)).trans (hk2.mono fun i _ h=>by show i≠_;have:=h.1;omega)
  rcases hm (p,q) (List.mem_of_getElem? hpq) with ⟨hf1,hp1⟩ | ⟨n,d,hf1,hp1⟩
  ·refine wpIn_block (wpIn_seq (qmP y p q 0 0 6 hp1 (some _) W2 _ a6 W2 _ R7 fun β8 a8 w8 hle8 hd8 R8=>?_))
   refine wpIn_seq (wpIn_region_list (qdx ?_))
   refine qyS y p q 0 0 (some _) W2 β8 a8 w8 _ [] R8 fun β9 a9 w9 hle9 hd9 R9=>?_
   refine qvP y p q 0 0 6 (Or.inl rfl) (some _) W2 β9 a9 w9 _ R9 fun β10 a10 w10 hle10 hd10 R10=>?_
   have hsA:=R10.h.gr.size
   have hsB:=hg6.size
   refine⟨rfl,T,⟨hI2.trans (Keep.of_gr R10.h.gr _),?_⟩,Keep.of_gr R10.h.gr _,fun b hb=>⟨by have:=(hT1 b hb).1;omega,Or.inl hb⟩⟩
   rw[qbX hpq,List.filterMap_append,List.filterMap_cons_none hf1,List.filterMap_nil,List.append_nil]
   exact hJ _ _ _ _ hj2 (Keep.of_gr R10.h.gr _)
  ·refine wpIn_block (wpIn_seq (qmP y p q n d 0 hp1 (some _) W2 _ a6 W2 _ R7 fun β8 a8 w8 hle8 hd8 R8=>?_))
   refine wpIn_seq (wpIn_region_list ?_)
   obtain⟨o,hol,ho,hcl,hargs,hdst,hw⟩:=qpH
   rw[qtj,hol]
   refine qwo y p q n d (some _) W2 β8 a8 w8 _ _ R8 fun β9 a9 w9 hle9 hd9 R9=>qhG R9 (hw y p q n d) ?_
   have t20:a9.tmps.getD 20 undef=.func (.yield y) #[] #[]:=R9.t.tmps 20
   have t26:a9.tmps.getD 26 undef=qar ⟨n,d,p.id,q.id⟩:=R9.t.tmps 26
   have hL:(((qau l).filterMap f).map mA)[(((qau l).take k).filterMap f).length]?=some (mA ⟨n,d,p.id,q.id⟩):=by rw[List.getElem?_map,qxz hpq hf1];rfl
   have hg9:Gr W2 w9:=R9.h.gr
   have hszW:W.heap.size≤w9.heap.size:=by
    have h1:=hI2.size
    have h2:=hg9.size
    omega
   refine qgR ho hcl t20 (xs:=mA ⟨n,d,p.id,q.id⟩) (by rw[hargs];simp only[List.map_toArray,List.map_cons,List.map_nil,Act.eval,t26,mA]) (hY _ _ w9 T hL hszW (fun b hb=>by have h1:=(hT1 b hb).1;have h2:=hg6.size;have h3:=hg9.size;omega) (fun b hb hl=>hT2 b hb (by omega)) (hJ _ _ _ _ hj2 (Keep.of_gr hg9 _))) fun e w11 ⟨he,T',hj11,hk11,hg11⟩=>⟨_,he,?_⟩
   have R11:Rel w11 7 (β9.cut 7) (qaC 30 7 ((19,.pv (.bool true))::eT4) (eH4 y p q n d) []) (clr a9) w11:=by
    refine R9.later (S:=fun b=>¬ T b) hk11 (l:=7) (by kernel_rfl) (by kernel_rfl) (by kernel_rfl) (fun b r hb e=>?_) (fun b o e es n xs v hl=>(qd9 (by kernel_rfl) hl).elim)
    rcases Nat.lt_or_ge b 6 with h6 | h6
    ·have hle:Bl.leU 6 (β6.cut 6) β9:=Bl.leU_trans hle8 ⟨fun b hb h=>hle9.1 b (by omega) h,hle9.2⟩
     intro hMr
     have hMs:=(hT1 _ hMr).1
     have hMx:r<w2.heap.size→M r:=hT2 _ hMr
     have hMy:M r→r<W.heap.size:=fun h=>(hM _ h).1
     have key:∀ {b r'},b<6→β6 b=some r'→β9 b=some r':=fun {b r'} hb e=>Bl.leU_f hle hb (by rw[(Bl.cut_lt hb).1];exact e)
     have hszI:=hI.size
     match b,h6 with
     | 0,_=>
      have g0:((β2.cut 4).cut 4).g 0=some u:=by rw[(Bl.cut_lt (show 0<4 by omega)).2,(Bl.cut_lt (show 0<4 by omega)).2];exact c0
      have g6:β6.g 0=some u:=Bl.leU_g hle6 (by omega) g0
      have g9:β9.g 0=some u:=Bl.leU_g hle (by omega) (by rw[(Bl.cut_lt (show 0<6 by omega)).2];exact g6)
      have:=R9.h.sep 0 r e
      rw[g9] at this;cases this
     | 1,_=>
      have f1:β2 1=some rb:=Bl.leU_f hle2 (by omega) (Bl.leU_f hle1 (by omega) rfl)
      have f6:β6 1=some rb:=Bl.leU_f hle6 (by omega) (by rw[(Bl.cut_lt (show 1<4 by omega)).1,(Bl.cut_lt (show 1<4 by omega)).1];exact f1)
      have:=key (by omega) f6
      rw[e] at this;cases this
      exact (hM _ (hMx (by have h1:=hB _ hB1;have h2:=hK.size;omega))).2 hB1
     | 2,_=>have:=key (by omega) hf2;rw[e] at this;cases this;have:=hMy (hMx l2);omega
     | 3,_=>
      have f6:β6 3=some r3:=Bl.leU_f hle6 (by omega) (by rw[(Bl.cut_lt (show 3<4 by omega)).1,(Bl.cut_lt (show 3<4 by omega)).1];exact hr3)
      have:=key (by omega) f6
      rw[e] at this;cases this;have:=hMy (hMx l3);omega
     | 4,_=>have:=key (by omega) hr4;rw[e] at this;cases this;omega
     | 5,_=>have:=key (by omega) hr5;rw[e] at this;cases this;omega
    ·intro hMr
     have h1:=(hT1 _ hMr).1
     have h4:=hg6.size
     have h2:=R9.h.new b r h6 e
     have h3:=hI2.size
     omega
   have R12:=R11.put (d:=27) (x:=.pv (.bool true)) (u:=.bool true) (by decide) rfl
   rw[hdst]
   refine qdx (qn2 y p q n d (some _) w11 _ _ w11 _ [] R12 fun β13 a13 w13 hle13 hd13 R13=>?_)
   refine qvP y p q n d 7 (Or.inr rfl) (some _) w11 β13 a13 w13 _ R13 fun β14 a14 w14 hle14 hd14 R14=>?_
   have hkM:Keep (fun b=>¬ T b) W2 w14:=((Keep.of_gr hg9 _).trans hk11).trans (Keep.of_gr R14.h.gr _)
   refine⟨rfl,T',⟨hI2.trans (hkM.mono fun i _ h=>fun ht=>h.2 (hT2 i ht h.1)),?_⟩,hkM,hg11.on hg9.size R14.h.gr.size⟩
   rw[qbX hpq,List.filterMap_append,List.filterMap_cons_some hf1,List.filterMap_nil,List.length_append]
   exact hJ _ _ _ _ hj11 (Keep.of_gr R14.h.gr _)
 ·rintro w3 T3 ⟨hI,hj⟩ hG hn3 hD hk3
  show LeavesInM (FW none) 0 Tryz.prog _ a2.tmps _ _ .returning w3
  have hkp:Keep (·≠w2.heap.size) w3 (w3.putObj w2.heap.size (.deferred none)):=Keep.putObj _ _ _
  rw[hd]
  refine⟨by simp,.inl ⟨w2.heap.size,_,rfl,run_takeDeferred hD,_,qfs (by kernel_rfl) _ _,⟨_,rfl⟩,⟨T3,?_,hG.on hg2.size (by simp)⟩,?_⟩⟩
  ·rw[List.length_map] at hj ⊢
   rw[List.take_length] at hj
   exact hJ _ _ _ _ hj (hkp.mono fun i _ h=>by
    show i≠_
    rcases h with h | h
    ·omega
    ·exact (hn3 i h).1)
  ·exact ((Keep.of_gr hg2 _).trans (hk3.mono fun i _ h=>⟨by have:=h.1;omega,h.2⟩)).trans (hkp.mono fun i _ h=>by show i≠_;have:=h.1;omega)
end Go.Proofs.YtleaeldgaflmkaaGreat

namespace Go.Proofs.YtleaeldgaflmkaaGreat
set_option maxRecDepth 100000
open Go.RowKit
abbrev ptr (r:Nat):Value:=.pointer (some ⟨r,0,none⟩)
def kpA (fn fd:Int) (m:Mt):Bool:=decide ((m.n*fd-fn*m.d).sign>0)
def kpB (tn td:Int) (m:Mt):Bool:=decide ((m.n*td-tn*m.d).sign≤0)
structure MtOk (m:Mt):Prop where
 n:I64 m.n
 d:I64 m.d
 ok:okB m.n m.d=true
structure TmOk (tn td:Int):Prop where
 n:I64 tn
 d:I64 td
 ok:okB tn td=true
theorem qlh {W0:World} {rf:Nat} {fn fd:Int} {X:List Mt} {B:Nat→Prop} (c0:Cel W0 rf 0 (iV fn)) (c1:Cel W0 rf 1 (iV fd)) (hB:B rf) (hX:∀ m∈X,MtOk m) (ht:TmOk fn fd):qtA Tryz.prog 166 #[ptr rf] (kpA fn fd) X B W0:=by
 intro m hm W hK
 have k0:=c0.keep hK hB
 have k1:=c1.keep hK hB
 have H:=qbi (rs:=[rf]) (hp:=[(0,0,.pv (iV fn)),(0,1,.pv (iV fd))]) (by simp) (by simpa using k0.lt) ⟨⟨rf,_,rfl,rfl,k0,rfl⟩,⟨rf,_,rfl,rfl,k1,rfl⟩,trivial⟩
 have ok:=hX m hm
 have h:=qk4 (b:=kpA fn fd m) (qgI ok.n ok.d ht.n ht.d ok.ok ht.ok) rfl
 exact (h W (qdq [rf]) [qar m,ptr rf] H (qbS [rf]) ⟨rfl,⟨rf,rfl,rfl⟩,trivial⟩).mono fun e w' ⟨v,β',he,_,hx,hh,_⟩=>⟨by rw[he,show v=_ from hx],hh.gr⟩
theorem qor {W0:World} {rf:Nat} {fn fd:Int} {X:List Mt} {B:Nat→Prop} (c0:Cel W0 rf 0 (iV fn)) (c1:Cel W0 rf 1 (iV fd)) (hB:B rf) (hX:∀ m∈X,MtOk m) (ht:TmOk fn fd):qtA Tryz.prog 155 #[ptr rf] (kpB fn fd) X B W0:=by
 intro m hm W hK
 have k0:=c0.keep hK hB
 have k1:=c1.keep hK hB
 have H:=qbi (rs:=[rf]) (hp:=[(0,0,.pv (iV fn)),(0,1,.pv (iV fd))]) (by simp) (by simpa using k0.lt) ⟨⟨rf,_,rfl,rfl,k0,rfl⟩,⟨rf,_,rfl,rfl,k1,rfl⟩,trivial⟩
 have ok:=hX m hm
 have h:=qm1 (b:=kpB fn fd m) (qgI ok.n ok.d ht.n ht.d ok.ok ht.ok) rfl
 exact (h W (qdq [rf]) [qar m,ptr rf] H (qbS [rf]) ⟨rfl,⟨rf,rfl,rfl⟩,trivial⟩).mono fun e w' ⟨v,β',he,_,hx,hh,_⟩=>⟨by rw[he,show v=_ from hx],hh.gr⟩
structure Meets (l:List Pt) (f:Pt×Pt→Option Mt):Prop where
 len:l.length≤1000000
 run:∀ x∈qau l,(f x=none∧Pure Tryz.prog 180 #[ptV x.1,ptV x.2] (.tuple #[qaa 0 0,iV 6]))∨∃ n d,f x=some ⟨n,d,x.1.id,x.2.id⟩∧Pure Tryz.prog 180 #[ptV x.1,ptV x.2] (.tuple #[qaa n d,iV 0])
 ok:∀ m∈(qau l).filterMap f,MtOk m
def bkF (l:List Pt) (u:Value) (rb:Nat):Nat→Prop:=fun b=>b=rb∨(qay l≠[]∧u.ownBlock=some b)
theorem qqI {w:World} {rb:Nat} {u:Value} {l:List Pt} {f:Pt×Pt→Option Mt} (hM:Meets l f) (cb:Cel w rb 0 u) (hr:Rd w 3 u l.length (qay l)) {B:Nat→Prop} (h1:B rb) (h2:qay l≠[]→∀ k,u.ownBlock=some k→B k) (hB:∀ b,B b→b<w.heap.size) :
 SeqC Tryz.prog 178 #[ptr rb] (((qau l).filterMap f).map mA) B w:=qlU cb.1 cb.2 hr h1 h2 hB hM.len hM.run
def bkA (l:List Pt) (u:Value) (rb rf ra rk:Nat):Nat→Prop:=fun b=>(bkF l u rb b∨b=rf)∨b=ra∨b=rk
theorem qrd {w:World} {rb:Nat} {u:Value} {l:List Pt} (cb:Cel w rb 0 u) (hr:Rd w 3 u l.length (qay l)):∀ b,bkF l u rb b→b<w.heap.size:=fun b h=>by
 rcases h with rfl | ⟨hx,h⟩
 ·exact cb.lt
 ·exact hr.lt hx b h
theorem qqO {w:World} {rb rf ra rk:Nat} {u:Value} {l:List Pt} {f:Pt×Pt→Option Mt} {fn fd:Int} (hM:Meets l f) (ht:TmOk fn fd) (cb:Cel w rb 0 u) (hr:Rd w 3 u l.length (qay l)) (c0:Cel w rf 0 (iV fn)) (c1:Cel w rf 1 (iV fd))
 (ca:Cel w ra 0 (fv 178 #[ptr rb])) (ck:Cel w rk 0 (fv 166 #[ptr rf])) (hne:ra≠rk) :
 SeqC Tryz.prog 164 #[ptr ra,ptr rk] ((((qau l).filterMap f).filter (kpA fn fd)).map mA) (bkA l u rb rf ra rk) w:=by
 have hB:∀ b,(bkF l u rb b∨b=rf)→b<w.heap.size:=fun b h=>by
  rcases h with h | rfl
  ·exact qrd cb hr b h
  ·exact c0.lt
 exact qj2 ca.1 ca.2 ck.1 ck.2 hne (by kernel_rfl) (by kernel_rfl) (qqI hM cb hr (B:=fun b=>bkF l u rb b∨b=rf) (Or.inl (Or.inl rfl)) (fun hx k hk=>Or.inl (Or.inr ⟨hx,hk⟩)) hB) (qlh c0 c1 (Or.inr rfl) hM.ok ht) hB
def bkB (l:List Pt) (u:Value) (rb rf ra rk rt rc rj:Nat):Nat→Prop:=fun b=>(bkA l u rb rf ra rk b∨b=rt)∨b=rc∨b=rj
theorem qsk {w:World} {rb rf ra rk rt rc rj:Nat} {u:Value} {l:List Pt} {f:Pt×Pt→Option Mt} {fn fd tn td:Int} (hM:Meets l f) (ht:TmOk fn fd) (hs:TmOk tn td) (cb:Cel w rb 0 u) (hr:Rd w 3 u l.length (qay l)) (c0:Cel w rf 0 (iV fn)) (c1:Cel w rf 1 (iV fd))
 (ca:Cel w ra 0 (fv 178 #[ptr rb])) (ck:Cel w rk 0 (fv 166 #[ptr rf])) (hne:ra≠rk)
 (d0:Cel w rt 0 (iV tn)) (d1:Cel w rt 1 (iV td)) (cc:Cel w rc 0 (fv 164 #[ptr ra,ptr rk])) (cj:Cel w rj 0 (fv 155 #[ptr rt])) (hne2:rc≠rj) :
 SeqC Tryz.prog 164 #[ptr rc,ptr rj] (((((qau l).filterMap f).filter (kpA fn fd)).filter (kpB tn td)).map mA) (bkB l u rb rf ra rk rt rc rj) w:=by
 have hA:∀ b,bkA l u rb rf ra rk b→b<w.heap.size:=fun b h=>by
  rcases h with (h | rfl) | rfl | rfl
  ·exact qrd cb hr b h
  ·exact c0.lt
  ·exact ca.lt
  ·exact ck.lt
 have hB:∀ b,(bkA l u rb rf ra rk b∨b=rt)→b<w.heap.size:=fun b h=>by
  rcases h with h | rfl
  ·exact hA b h
  ·exact d0.lt
 have hin:SeqC Tryz.prog 164 #[ptr ra,ptr rk] ((((qau l).filterMap f).filter (kpA fn fd)).map mA) (fun b=>bkA l u rb rf ra rk b∨b=rt) w:=by
  intro y M J W hK hMM
  exact qqO hM ht cb hr c0 c1 ca ck hne y M J W (hK.mono fun i _ h=>Or.inl h) (fun b hb=>⟨(hMM b hb).1,fun h=>(hMM b hb).2 (Or.inl h)⟩)
 exact qj2 cc.1 cc.2 cj.1 cj.2 hne2 (by kernel_rfl) (by kernel_rfl) hin (qor d0 d1 (Or.inr rfl) (fun m hm=>hM.ok m ((List.mem_filter.1 hm).1)) hs) hB
end Go.Proofs.YtleaeldgaflmkaaGreat

namespace Go.Proofs.YtleaeldgaflmkaaGreat
set_option maxRecDepth 100000
open Go.RowKit
section
variable (l:List Pt) (fn fd tn td:Int)
end
theorem qud {t:TypeId} {n:Nat} (h:(Tryz.prog.info? t).map (fun i=>i.size)=some n):∃ i,Tryz.prog.info? t=some i∧i.size=n:=by
 cases hi:Tryz.prog.info? t with
 | none=>rw[hi] at h;cases h
 | some i=>rw[hi] at h;exact⟨i,rfl,by simpa using h⟩
theorem qaQ {W0:World} {lo:Nat} {β:Bl} {hp:List (Nat×Nat×SV)} {w:World} (H:HRel W0 lo β hp w) {b o:Nat} {s:SV} (h:qae hp b o=some s) (hs:s.isRow=false):∃ r,β b=some r:=by
 obtain⟨r,u,h1,_⟩:=H.cells b o s h hs
 exact⟨r,h1⟩
end Go.Proofs.YtleaeldgaflmkaaGreat

namespace Go.Proofs.YtleaeldgaflmkaaGreat
set_option maxRecDepth 100000
open Go.RowKit
def z0:Mt:=⟨0,0,0,0⟩
section
variable (av:Value) (go:FuncId) (m b:Mt)
end
end Go.Proofs.YtleaeldgaflmkaaGreat

namespace Go.Proofs.YtleaeldgaflmkaaGreat
set_option maxRecDepth 100000
open Go.RowKit
structure MCel (w:World) (r:Nat) (m:Mt):Prop where
 c0:Cel w r 0 (iV m.n)
 c1:Cel w r 1 (iV m.d)
 c2:Cel w r 2 (iV m.i)
 c3:Cel w r 3 (iV m.j)
theorem MCel.keep {S:Nat→Prop} {w w':World} {r:Nat} {m:Mt} (h:MCel w r m) (k:Keep S w w') (hs:S r):MCel w' r m:=⟨h.c0.keep k hs,h.c1.keep k hs,h.c2.keep k hs,h.c3.keep k hs⟩
theorem MCel.gr {w w':World} {r:Nat} {m:Mt} (h:MCel w r m) (k:Gr w w'):MCel w' r m:=h.keep (Keep.of_gr k (fun _=>True)) trivial
theorem MCel.lt {w:World} {r:Nat} {m:Mt} (h:MCel w r m):r<w.heap.size:=h.c0.lt
theorem MCel.us {w:World} {r:Nat} {m:Mt} (h:MCel w r m):∀ j u,[iV m.n,iV m.d,iV m.i,iV m.j][j]?=some u→Cel w r (0+j) u:=fun j u hj=>by
 match j,hj with
 | 0,hj=>cases hj;exact h.c0
 | 1,hj=>cases hj;exact h.c1
 | 2,hj=>cases hj;exact h.c2
 | 3,hj=>cases hj;exact h.c3
 | j+4,hj=>simp at hj
theorem MCel.set {w:World} {r:Nat} {b:Mt} (h:MCel w r b) (m:Mt):MCel (w.setCells r 0 [iV m.n,iV m.d,iV m.i,iV m.j]) r m:=by
 have key:∀ j v,[iV m.n,iV m.d,iV m.i,iV m.j][j]?=some v→Cel (w.setCells r 0 [iV m.n,iV m.d,iV m.i,iV m.j]) r (0+j) v:=
  fun j v hj=>qmT (us:=[iV b.n,iV b.d,iV b.i,iV b.j]) h.us (by simp) hj
 exact⟨key 0 _ rfl,key 1 _ rfl,key 2 _ rfl,key 3 _ rfl⟩
section
variable {w6:World} {df:List Deferred} {rb rf r1:Nat} {b:Mt} {fd s0 s1 s2:Bool} {a:Act} {w:World} {Q:Exit→Act→World→Prop} {K:Act→World→Prop}
end
end Go.Proofs.YtleaeldgaflmkaaGreat

namespace Go.Proofs.YtleaeldgaflmkaaGreat
set_option maxRecDepth 100000
open Go.RowKit
def cI (x y:Int):Int:=if x<y then -1 else if x>y then 1 else 0
def qcJ (a b:Mt):Int:=if (a.n*b.d-b.n*a.d).sign≠0 then (a.n*b.d-b.n*a.d).sign else if cI a.i b.i≠0 then cI a.i b.i else cI a.j b.j
theorem qef (x:Int):Pure Tryz.prog 112 #[iV x] (.bool false):=
 qac (args:=[iV x]) 100 [.t false] (Ai rfl (Ai (show (x !=x)=false by simp) tI)) (by kernel_rfl)
theorem qsR {x y:Int} (h:decide (x<y)=true):Pure Tryz.prog 84 #[iV x,iV y] (iV (-1)):=
 qac (args:=[iV x,iV y]) 100 [.r (.bool false),.r (.bool false),.t true] (Ai rfl (Ai (qef x) (Ai (qef y) (Ai h tI)))) (by kernel_rfl)
theorem qrO {x y:Int} (h:decide (x<y)=false) (h2:decide (x>y)=true):Pure Tryz.prog 84 #[iV x,iV y] (iV 1):=
 qac (args:=[iV x,iV y]) 100 [.r (.bool false),.r (.bool false),.t false,.t true] (Ai rfl (Ai (qef x) (Ai (qef y) (Ai h (Ai h2 tI))))) (by kernel_rfl)
theorem qsz {x y:Int} (h:decide (x<y)=false) (h2:decide (x>y)=false):Pure Tryz.prog 84 #[iV x,iV y] (iV 0):=
 qac (args:=[iV x,iV y]) 100 [.r (.bool false),.r (.bool false),.t false,.t false] (Ai rfl (Ai (qef x) (Ai (qef y) (Ai h (Ai h2 tI))))) (by kernel_rfl)
theorem qj8 (x y:Int):Pure Tryz.prog 84 #[iV x,iV y] (iV (cI x y)):=by
 unfold cI
 by_cases h:x<y
 ·rw[if_pos h];exact qsR (decide_eq_true h)
 ·rw[if_neg h]
  by_cases h2:x>y
  ·rw[if_pos h2];exact qrO (decide_eq_false h) (decide_eq_true h2)
  ·rw[if_neg h2];exact qsz (decide_eq_false h) (decide_eq_false h2)
section
variable {a b:Mt} {k c1 c2:Int}
theorem qAp (h:Pure Tryz.prog 150 #[qaa a.n a.d,qaa b.n b.d] (iV k)) (h1:Pure Tryz.prog 84 #[iV a.i,iV b.i] (iV c1)) (h2:Pure Tryz.prog 84 #[iV a.j,iV b.j] (iV c2)) (hk:(k !=0)=true) :
 Pure Tryz.prog 139 #[qar a,qar b] (iV k):=
 qac (args:=[qar a,qar b]) 200 [Rf h,Rf h1,Rf h2,.k,.k,.t true] (Ai rfl (Ai h (Ai h1 (Ai h2 (Ai hk tI))))) (by kernel_rfl)
theorem qz9 (h:Pure Tryz.prog 150 #[qaa a.n a.d,qaa b.n b.d] (iV 0)) (h1:Pure Tryz.prog 84 #[iV a.i,iV b.i] (iV c1)) (h2:Pure Tryz.prog 84 #[iV a.j,iV b.j] (iV c2)) (hk:(c1 !=0)=true) :
 Pure Tryz.prog 139 #[qar a,qar b] (iV c1):=
 qac (args:=[qar a,qar b]) 200 [Rf h,Rf h1,Rf h2,.k,.k,.k,.k,.k,.t true] (Ai rfl (Ai h (Ai h1 (Ai h2 (Ai hk tI))))) (by kernel_rfl)
theorem qAl (h:Pure Tryz.prog 150 #[qaa a.n a.d,qaa b.n b.d] (iV 0)) (h1:Pure Tryz.prog 84 #[iV a.i,iV b.i] (iV 0)) (h2:Pure Tryz.prog 84 #[iV a.j,iV b.j] (iV c2)) (hk:(c2 !=0)=true) :
 Pure Tryz.prog 139 #[qar a,qar b] (iV c2):=
 qac (args:=[qar a,qar b]) 200 [Rf h,Rf h,Rf h2,.k,.k,.k,.k,.k,.k,.k,.k,.t true] (Ai rfl (Ai h (Ai h1 (Ai h2 (Ai hk tI))))) (by kernel_rfl)
theorem qAf (h:Pure Tryz.prog 150 #[qaa a.n a.d,qaa b.n b.d] (iV 0)) (h1:Pure Tryz.prog 84 #[iV a.i,iV b.i] (iV 0)) (h2:Pure Tryz.prog 84 #[iV a.j,iV b.j] (iV 0)) :
 Pure Tryz.prog 139 #[qar a,qar b] (iV 0):=
 qac (args:=[qar a,qar b]) 200 [Rf h,Rf h,Rf h,.k,.k,.k,.k,.k,.k,.k,.k,.k,.k,.k] (Ai rfl (Ai h (Ai h1 (Ai h2 tI)))) (by kernel_rfl)
end
theorem qqb {a b:Mt} (ha:MtOk a) (hb:MtOk b):Pure Tryz.prog 139 #[qar a,qar b] (iV (qcJ a b)):=by
 have h:=qgI ha.n ha.d hb.n hb.d ha.ok hb.ok
 have h1:=qj8 a.i b.i
 have h2:=qj8 a.j b.j
 unfold qcJ
 by_cases g:(a.n*b.d-b.n*a.d).sign=0
 ·rw[if_neg (fun k=>k g)]
  rw[g] at h
  by_cases g1:cI a.i b.i=0
  ·rw[if_neg (fun k=>k g1)]
   rw[g1] at h1
   by_cases g2:cI a.j b.j=0
   ·rw[g2] at h2 ⊢;exact qAf h h1 h2
   ·exact qAl h h1 h2 (by simpa using g2)
  ·rw[if_pos g1];exact qz9 h h1 h2 (by simpa using g1)
 ·rw[if_pos g];exact qAp h h1 h2 (by simpa using g)
abbrev inV:Value:=fv 139 #[]
theorem qyd {W0:World} {lo:Nat} {β:Bl} {hp:List (Nat×Nat×SV)} {w:World} (H:HRel W0 lo β hp w) {b o:Nat} {l:List Pt} (h:qae hp b o=some (qad l)):∃ u,β.g b=some u:=by
 obtain⟨u,h1,_⟩:=H.rows _ _ _ _ _ _ h
 exact⟨u,h1⟩
end Go.Proofs.YtleaeldgaflmkaaGreat
