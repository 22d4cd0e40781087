/-
  Joined: Vj, Vk, Vl, Vo, Lb, Bj, Ea, Eq0, Lc, Lm. Conditions: none.
-/
import Derived.Test.YtkckcgpmnipnaaaGreatW31
import Derived.Test.YtkckcgpmnipnaaaGreatYo
import Derived.Test.YtkckcgpmnipnaaaGreatW16
import Derived.Test.YtkckcgpmnipnaaaGreatW23
import Derived.Test.YtkckcgpmnipnaaaGreatW22
import Derived.Test.YtkckcgpmnipnaaaGreatW20
namespace Go.Proofs.YtkckcgpmnipnaaaGreat
set_option maxRecDepth 100000
open Go.RowKit
theorem qgw {i:Nat} (h:1≤i) (hk:i≤1000000):iV (IntKind.i64.wrap ((i:Int)-1))=iV ((i-1:Nat):Int):=by
 rw[show (i:Int)-1=((i-1:Nat):Int) by omega];exact qbe (by omega) (by omega)
theorem qgv {i:Nat} (hk:i≤1000000):iV (IntKind.i64.wrap (Int.tdiv ((i-1:Nat):Int) 2))=iV (((i-1)/2:Nat):Int):=by
 have e:Int.tdiv ((i-1:Nat):Int) 2=(((i-1)/2:Nat):Int):=by rw[Int.tdiv_eq_ediv_of_nonneg (by omega)];omega
 rw[e];exact qbe (by omega) (by omega)
theorem qdM {i:Nat} (h:i≤1000000):iV (IntKind.i64.wrap (2*(i:Int)))=iV ((2*i:Nat):Int):=by rw[show 2*(i:Int)=((2*i:Nat):Int) by omega];exact qbe (by omega) (by omega)
theorem qdL {i:Nat} (h:i≤1000000):iV (IntKind.i64.wrap (((2*i:Nat):Int)+1))=iV ((2*i+1:Nat):Int):=by rw[show ((2*i:Nat):Int)+1=((2*i+1:Nat):Int) by omega];exact qbe (by omega) (by omega)
theorem qe0 {i:Nat} (h:i≤1000000):iV (IntKind.i64.wrap (((2*i+1:Nat):Int)+1))=iV ((2*i+2:Nat):Int):=by rw[show ((2*i+1:Nat):Int)+1=((2*i+2:Nat):Int) by omega];exact qbe (by omega) (by omega)
theorem qqd {ev:List Ev} {n i j:Nat} {x y:Ev} (l:ev.length=n) (hi:i<n) (hj:j<n) (h:i≠j):((ev.set i y).set j x)[i]?=some y:=by
 rw[List.getElem?_set,if_neg (fun e=>h e.symm),List.getElem?_set,if_pos rfl,if_pos (by omega)]
theorem qqa {ev:List Ev} {n i j:Nat} {x y:Ev} (l:ev.length=n) (hi:i<n) (hj:j<n) (h:i≠j):((ev.set i y).set j x)[j]?=some x:=by
 rw[List.getElem?_set,if_pos rfl,if_pos (by rw[List.length_set];omega)]
theorem qgW {ev:List Ev} {i:Nat} {x y:Ev} (ok:∀ x∈ev,EvOk x) (hl:qaw ev i≠i) (hx:ev[i]?=some x) (hy:ev[qaw ev i]?=some y) :
 ltE y x=true∧((qaw ev i=2*i+1∧∀ b,ev[2*i+2]?=some b→ltE b y=false)∨(qaw ev i=2*i+2∧∃ m,ev[2*i+1]?=some m∧ltE y m=true)):=by
 have ox:=ok x (List.mem_of_getElem? hx);have oy:=ok y (List.mem_of_getElem? hy)
 have sp:=fun c hc z hz=>qcw ok (i:=i) (c:=c) hc z y hz hy
 have hA:(qbk ev i=i∧∀ m,ev[2*i+1]?=some m→ltE m x=false)∨(qbk ev i=2*i+1∧∃ m,ev[2*i+1]?=some m∧ltE m x=true):=by
  unfold qbk;rw[hx]
  cases hm:ev[2*i+1]? with
  | none=>exact .inl ⟨rfl,fun m h=>by cases h⟩
  | some m=>
   cases e:ltE m x
   ·exact .inl ⟨by simp[e],fun m' h=>by cases h;exact e⟩
   ·exact .inr ⟨by simp[e],m,rfl,e⟩
 have hM:(qaw ev i=qbk ev i)∨(qaw ev i=2*i+2∧∃ b w,ev[2*i+2]?=some b∧ev[qbk ev i]?=some w∧ltE b w=true):=by
  unfold qaw
  cases hb:ev[2*i+2]? with
  | none=>exact .inl rfl
  | some b=>
   cases hw:ev[qbk ev i]? with
   | none=>exact .inl rfl
   | some w=>
    cases e:ltE b w
    ·exact .inl (by simp[e])
    ·exact .inr ⟨by simp[e],b,w,rfl,rfl,e⟩
 rcases hM with h | ⟨h,b,w,hb,hw,e⟩
 ·rcases hA with ⟨h1,h2⟩ | ⟨h1,m,h2,h3⟩
  ·exact (hl (h.trans h1)).elim
  ·rw[h,h1,h2] at hy;cases hy;exact⟨h3,.inl ⟨h.trans h1,fun b hb=>sp _ (.inr (.inr rfl)) b hb⟩⟩
 ·rw[h,hb] at hy;cases hy
  rcases hA with ⟨h1,h2⟩ | ⟨h1,m,h2,h3⟩
  ·rw[h1,hx] at hw;cases hw;refine⟨e,.inr ⟨h,?_⟩⟩
   have h4:2*i+1<ev.length:=by have:=(List.getElem?_eq_some_iff.1 hb).1;omega
   have hm:ev[2*i+1]?=some (ev[2*i+1]'h4):=List.getElem?_eq_getElem h4;generalize ev[2*i+1]'h4=m at hm;refine⟨m,hm,?_⟩
   cases e2:ltE y m with
   | true=>rfl
   | false=>
    have:=qbS oy (ok m (List.mem_of_getElem? hm)) ox e2 (h2 m hm);rw[e] at this;cases this
  ·rw[h1,h2] at hw;cases hw;exact⟨qCm oy (ok _ (List.mem_of_getElem? h2)) ox e h3,.inr ⟨h,_,h2,e⟩⟩
theorem qBb {u:List Int} {b:List Bool} {fr:List Int} {n mm:Nat} (hn:n≤1000000) (d ii:Nat) (ev:List Ev) (wh:List Int) (a:ii≤d) (c:ii<n) (I:AInv n mm ev wh):Rl 5 15 154 0 32 16 ([(1,.pv (iV (ii:Int))),(2,.pp 15 0)]) ([(15,0,.ls 9 u.length),(15,1,.ls 10 b.length),(15,2,.ls 11 fr.length),(15,3,.ls 12 n),(15,4,.ls 13 mm),(14,0,.ls 9 u.length),(14,1,.ls 10 b.length),(14,2,.ls 11 fr.length),(14,3,.ls 12 n),(14,4,.ls 13 mm),(8,0,.pv (.slice none 0 0)),(8,1,.pv (.slice none 0 0)),(8,2,.pv (.slice none 0 0)),(8,3,.pv (.slice none 0 0)),(8,4,.pv (.slice none 0 0)),(9,0,zrI u),(10,0,zrB b),(11,0,zrI fr),(12,0,.row 61 5 n (qau (ev))),(13,0,.row 3 1 mm (ziV (wh)))]) (.exit 0) [(1,.pv (iV ((upM d ev wh ii).2.2:Int)))] ([(14,0,.ls 9 u.length),(14,1,.ls 10 b.length),(14,2,.ls 11 fr.length),(14,3,.ls 12 n),(14,4,.ls 13 mm),(8,0,.pv (.slice none 0 0)),(8,1,.pv (.slice none 0 0)),(8,2,.pv (.slice none 0 0)),(8,3,.pv (.slice none 0 0)),(8,4,.pv (.slice none 0 0)),(9,0,zrI u),(10,0,zrB b),(11,0,zrI fr),(12,0,.row 61 5 n (qau ((upM d ev wh ii).1))),(13,0,.row 3 1 mm (ziV ((upM d ev wh ii).2.1)))]):=by
 refine (qdO (n:=n) (mm:=mm) (Q:=fun (ii:Nat) ev wh (ii':Nat) ev' wh'=>Rl 5 15 154 0 32 16 ([(1,.pv (iV (ii:Int))),(2,.pp 15 0)]) ([(15,0,.ls 9 u.length),(15,1,.ls 10 b.length),(15,2,.ls 11 fr.length),(15,3,.ls 12 n),(15,4,.ls 13 mm),(14,0,.ls 9 u.length),(14,1,.ls 10 b.length),(14,2,.ls 11 fr.length),(14,3,.ls 12 n),(14,4,.ls 13 mm),(8,0,.pv (.slice none 0 0)),(8,1,.pv (.slice none 0 0)),(8,2,.pv (.slice none 0 0)),(8,3,.pv (.slice none 0 0)),(8,4,.pv (.slice none 0 0)),(9,0,zrI u),(10,0,zrB b),(11,0,zrI fr),(12,0,.row 61 5 n (qau (ev))),(13,0,.row 3 1 mm (ziV (wh)))]) (.exit 0) [(1,.pv (iV (ii':Int)))] ([(14,0,.ls 9 u.length),(14,1,.ls 10 b.length),(14,2,.ls 11 fr.length),(14,3,.ls 12 n),(14,4,.ls 13 mm),(8,0,.pv (.slice none 0 0)),(8,1,.pv (.slice none 0 0)),(8,2,.pv (.slice none 0 0)),(8,3,.pv (.slice none 0 0)),(8,4,.pv (.slice none 0 0)),(9,0,zrI u),(10,0,zrB b),(11,0,zrI fr),(12,0,.row 61 5 n (qau (ev'))),(13,0,.row 3 1 mm (ziV (wh')))])) ?_ ?_ ?_ d ii ev wh a c I).1
 ·intro i ev wh x y i' ev' wh' I h0 hi hx hy hl r;have ox:=I.ok x (List.mem_of_getElem? hx);have oy:=I.ok y (List.mem_of_getElem? hy);have ix:=I.ix x (List.mem_of_getElem? hx);have iy:=I.ix y (List.mem_of_getElem? hy);have l1:=I.len;have l2:=I.wl;have hc:=qaC ox.i oy.i;rw[hl] at hc;exact qmA (q:=i-1) (j:=(i-1)/2) (x:=x) (y:=y) (by decide) ⟨by omega,by omega⟩ hx ⟨by omega,by omega⟩ hy (decide_eq_true (by omega)) (qgw (by omega) (by omega)) (qgv (by omega)) hc (by omega) (by rw[List.length_set];omega) (qqd l1 (by omega) (by omega) (by omega)) (qqa l1 (by omega) (by omega) (by omega)) iy (by omega) ix (by rw[List.length_set];omega) r
 ·intro i ev wh x y I h0 hi hx hy hl;have ox:=I.ok x (List.mem_of_getElem? hx);have oy:=I.ok y (List.mem_of_getElem? hy);have hc:=qaC ox.i oy.i;rw[hl] at hc;exact qmL (q:=i-1) (j:=(i-1)/2) (x:=x) (y:=y) (by decide) ⟨by omega,by omega⟩ hx ⟨by omega,by omega⟩ hy (decide_eq_true (by omega)) (qgw (by omega) (by omega)) (qgv (by omega)) hc
 ·intro ev wh I;exact qlZ (k:=0) (decide_eq_false (by omega))
theorem qCV {u:List Int} {b:List Bool} {fr:List Int} {n mm:Nat} (hn:n≤1000000) (d ii:Nat) (ev:List Ev) (wh:List Int) (a:n≤ii+d) (c:ii<n) (I:AInv n mm ev wh):Rl 5 16 153 0 52 17 ([(1,.pv (iV (ii:Int))),(2,.pp 16 0)]) ([(16,0,.ls 9 u.length),(16,1,.ls 10 b.length),(16,2,.ls 11 fr.length),(16,3,.ls 12 n),(16,4,.ls 13 mm),(14,0,.ls 9 u.length),(14,1,.ls 10 b.length),(14,2,.ls 11 fr.length),(14,3,.ls 12 n),(14,4,.ls 13 mm),(8,0,.pv (.slice none 0 0)),(8,1,.pv (.slice none 0 0)),(8,2,.pv (.slice none 0 0)),(8,3,.pv (.slice none 0 0)),(8,4,.pv (.slice none 0 0)),(9,0,zrI u),(10,0,zrB b),(11,0,zrI fr),(12,0,.row 61 5 n (qau (ev))),(13,0,.row 3 1 mm (ziV (wh)))]) .ret [] ([(14,0,.ls 9 u.length),(14,1,.ls 10 b.length),(14,2,.ls 11 fr.length),(14,3,.ls 12 n),(14,4,.ls 13 mm),(8,0,.pv (.slice none 0 0)),(8,1,.pv (.slice none 0 0)),(8,2,.pv (.slice none 0 0)),(8,3,.pv (.slice none 0 0)),(8,4,.pv (.slice none 0 0)),(9,0,zrI u),(10,0,zrB b),(11,0,zrI fr),(12,0,.row 61 5 n (qau ((dnM d ev wh ii).1))),(13,0,.row 3 1 mm (ziV ((dnM d ev wh ii).2)))]):=by
 refine (qf1 (n:=n) (mm:=mm) (Q:=fun (ii:Nat) ev wh ev' wh'=>Rl 5 16 153 0 52 17 ([(1,.pv (iV (ii:Int))),(2,.pp 16 0)]) ([(16,0,.ls 9 u.length),(16,1,.ls 10 b.length),(16,2,.ls 11 fr.length),(16,3,.ls 12 n),(16,4,.ls 13 mm),(14,0,.ls 9 u.length),(14,1,.ls 10 b.length),(14,2,.ls 11 fr.length),(14,3,.ls 12 n),(14,4,.ls 13 mm),(8,0,.pv (.slice none 0 0)),(8,1,.pv (.slice none 0 0)),(8,2,.pv (.slice none 0 0)),(8,3,.pv (.slice none 0 0)),(8,4,.pv (.slice none 0 0)),(9,0,zrI u),(10,0,zrB b),(11,0,zrI fr),(12,0,.row 61 5 n (qau (ev))),(13,0,.row 3 1 mm (ziV (wh)))]) .ret [] ([(14,0,.ls 9 u.length),(14,1,.ls 10 b.length),(14,2,.ls 11 fr.length),(14,3,.ls 12 n),(14,4,.ls 13 mm),(8,0,.pv (.slice none 0 0)),(8,1,.pv (.slice none 0 0)),(8,2,.pv (.slice none 0 0)),(8,3,.pv (.slice none 0 0)),(8,4,.pv (.slice none 0 0)),(9,0,zrI u),(10,0,zrB b),(11,0,zrI fr),(12,0,.row 61 5 n (qau (ev'))),(13,0,.row 3 1 mm (ziV (wh')))])) ?_ ?_ d ii ev wh a c I).1
 ·intro i ev wh x y ev' wh' I hi hl hx hy hlt r;have ix:=I.ix x (List.mem_of_getElem? hx);have iy:=I.ix y (List.mem_of_getElem? hy);have ox:=I.ok x (List.mem_of_getElem? hx);have oy:=I.ok y (List.mem_of_getElem? hy);have l1:=I.len;have l2:=I.wl;obtain⟨hyx,⟨hc,hb'⟩ | ⟨hc,m,hm,hbm⟩⟩:=qgW I.ok hl hx hy
  ·rw[hc] at r hy hlt;have hm:=hy;have hlx:=qaC oy.i ox.i;rw[hyx] at hlx;by_cases h2:2*i+2<n
   ·have hb:ev[2*i+2]?=some (ev[2*i+2]'(by omega)):=List.getElem?_eq_getElem (by omega);generalize ev[2*i+2]'(by omega)=b at hb;have ob:=I.ok b (List.mem_of_getElem? hb);have hl2:=qaC ob.i oy.i;rw[hb' b hb] at hl2;exact qf4 (q:=2*i) (qdM (by omega)) (qdL (by omega)) (decide_eq_false (by omega)) (qe0 (by omega)) (decide_eq_true (by omega)) ⟨by omega,by omega⟩ hb ⟨by omega,by omega⟩ hm hl2 ⟨by omega,by omega⟩ hx hlx (by omega) (by rw[List.length_set];omega) (qqd l1 (by omega) (by omega) (by omega)) (qqa l1 (by omega) (by omega) (by omega)) iy (by omega) ix (by rw[List.length_set];omega) r
   ·exact qgf (q:=2*i) (qdM (by omega)) (qdL (by omega)) (decide_eq_false (by omega)) (qe0 (by omega)) (decide_eq_false (by omega)) ⟨by omega,by omega⟩ hm ⟨by omega,by omega⟩ hx hlx (by omega) (by rw[List.length_set];omega) (qqd l1 (by omega) (by omega) (by omega)) (qqa l1 (by omega) (by omega) (by omega)) iy (by omega) ix (by rw[List.length_set];omega) r
  ·rw[hc] at r hy hlt;have hb:=hy;have hlx:=qaC oy.i ox.i;rw[hyx] at hlx;have om:=I.ok m (List.mem_of_getElem? hm);have hl2:=qaC oy.i om.i;rw[hbm] at hl2;exact qe4 (q:=2*i) (qdM (by omega)) (qdL (by omega)) (decide_eq_false (by omega)) (qe0 (by omega)) (decide_eq_true (by omega)) ⟨by omega,by omega⟩ hb ⟨by omega,by omega⟩ hm hl2 ⟨by omega,by omega⟩ hx hlx (by omega) (by rw[List.length_set];omega) (qqd l1 (by omega) (by omega) (by omega)) (qqa l1 (by omega) (by omega) (by omega)) iy (by omega) ix (by rw[List.length_set];omega) r
 ·intro i ev wh I hi hl;have l1:=I.len;obtain⟨x,hx⟩:∃ x,ev[i]?=some x:=⟨_,List.getElem?_eq_getElem (by omega)⟩;have ox:=I.ok x (List.mem_of_getElem? hx)
  have sp:∀ c,(c=i∨c=2*i+1∨c=2*i+2)→∀ z,ev[c]?=some z→ltE z x=false:=fun c hc z hz=>qcw I.ok hc z x hz (by rw[hl];exact hx)
  by_cases h1:2*i+1<n
  ·have hm:ev[2*i+1]?=some (ev[2*i+1]'(by omega)):=List.getElem?_eq_getElem (by omega);generalize ev[2*i+1]'(by omega)=m at hm;have om:=I.ok m (List.mem_of_getElem? hm);have hlm:=qaC om.i ox.i;rw[sp _ (.inr (.inl rfl)) m hm] at hlm;by_cases h2:2*i+2<n
   ·have hb:ev[2*i+2]?=some (ev[2*i+2]'(by omega)):=List.getElem?_eq_getElem (by omega);generalize ev[2*i+2]'(by omega)=b at hb;have ob:=I.ok b (List.mem_of_getElem? hb);have hlb:=qaC ob.i ox.i;rw[sp _ (.inr (.inr rfl)) b hb] at hlb;have hl2:=qaC ob.i om.i
    cases e:ltE b m<;>rw[e] at hl2
    ·exact qfm (q:=2*i) (qdM (by omega)) (qdL (by omega)) (decide_eq_false (by omega)) (qe0 (by omega)) (decide_eq_true (by omega)) ⟨by omega,by omega⟩ hb ⟨by omega,by omega⟩ hm hl2 ⟨by omega,by omega⟩ hx hlm
    ·exact qeZ (q:=2*i) (qdM (by omega)) (qdL (by omega)) (decide_eq_false (by omega)) (qe0 (by omega)) (decide_eq_true (by omega)) ⟨by omega,by omega⟩ hb ⟨by omega,by omega⟩ hm hl2 ⟨by omega,by omega⟩ hx hlb
   ·exact qgc (q:=2*i) (qdM (by omega)) (qdL (by omega)) (decide_eq_false (by omega)) (qe0 (by omega)) (decide_eq_false (by omega)) ⟨by omega,by omega⟩ hm ⟨by omega,by omega⟩ hx hlm
  ·exact qlS (q:=2*i) (qdM (by omega)) (qdL (by omega)) (decide_eq_true (by omega))
theorem qBu {u2:List Int} {b2:List Bool} {f2:List Int} {hi:Int} {hw:Int} {n mm:Nat} (hn:n≤1000000) (d ii:Nat) (ev:List Ev) (wh:List Int) (a:ii≤d) (c:ii<n) (I:AInv n mm ev wh):Rl 5 22 154 0 32 23 ([(1,.pv (iV (ii:Int))),(2,.pp 22 0)]) ([(22,0,.ls 15 u2.length),(22,1,.ls 16 b2.length),(22,2,.ls 17 f2.length),(22,3,.ls 21 n),(22,4,.ls 13 mm),(14,0,.ls 15 u2.length),(14,1,.ls 16 b2.length),(14,2,.ls 17 f2.length),(14,3,.ls 21 n),(14,4,.ls 13 mm),(7,0,.pv (.slice none 0 0)),(7,1,.pv (.slice none 0 0)),(7,2,.pv (.slice none 0 0)),(7,3,.pv (.slice none 0 0)),(7,4,.pv (.slice none 0 0)),(8,0,.pv (iV 0)),(8,1,.pv (iV 0)),(19,0,.pv (iV hi)),(19,1,.pv (iV hw)),(15,0,zrI u2),(16,0,zrB b2),(17,0,zrI f2),(21,0,.row 61 5 n (qau (ev))),(13,0,.row 3 1 mm (ziV (wh)))]) (.exit 0) [(1,.pv (iV ((upM d ev wh ii).2.2:Int)))] ([(14,0,.ls 15 u2.length),(14,1,.ls 16 b2.length),(14,2,.ls 17 f2.length),(14,3,.ls 21 n),(14,4,.ls 13 mm),(7,0,.pv (.slice none 0 0)),(7,1,.pv (.slice none 0 0)),(7,2,.pv (.slice none 0 0)),(7,3,.pv (.slice none 0 0)),(7,4,.pv (.slice none 0 0)),(8,0,.pv (iV 0)),(8,1,.pv (iV 0)),(19,0,.pv (iV hi)),(19,1,.pv (iV hw)),(15,0,zrI u2),(16,0,zrB b2),(17,0,zrI f2),(21,0,.row 61 5 n (qau ((upM d ev wh ii).1))),(13,0,.row 3 1 mm (ziV ((upM d ev wh ii).2.1)))]):=by
 refine (qdO (n:=n) (mm:=mm) (Q:=fun (ii:Nat) ev wh (ii':Nat) ev' wh'=>Rl 5 22 154 0 32 23 ([(1,.pv (iV (ii:Int))),(2,.pp 22 0)]) ([(22,0,.ls 15 u2.length),(22,1,.ls 16 b2.length),(22,2,.ls 17 f2.length),(22,3,.ls 21 n),(22,4,.ls 13 mm),(14,0,.ls 15 u2.length),(14,1,.ls 16 b2.length),(14,2,.ls 17 f2.length),(14,3,.ls 21 n),(14,4,.ls 13 mm),(7,0,.pv (.slice none 0 0)),(7,1,.pv (.slice none 0 0)),(7,2,.pv (.slice none 0 0)),(7,3,.pv (.slice none 0 0)),(7,4,.pv (.slice none 0 0)),(8,0,.pv (iV 0)),(8,1,.pv (iV 0)),(19,0,.pv (iV hi)),(19,1,.pv (iV hw)),(15,0,zrI u2),(16,0,zrB b2),(17,0,zrI f2),(21,0,.row 61 5 n (qau (ev))),(13,0,.row 3 1 mm (ziV (wh)))]) (.exit 0) [(1,.pv (iV (ii':Int)))] ([(14,0,.ls 15 u2.length),(14,1,.ls 16 b2.length),(14,2,.ls 17 f2.length),(14,3,.ls 21 n),(14,4,.ls 13 mm),(7,0,.pv (.slice none 0 0)),(7,1,.pv (.slice none 0 0)),(7,2,.pv (.slice none 0 0)),(7,3,.pv (.slice none 0 0)),(7,4,.pv (.slice none 0 0)),(8,0,.pv (iV 0)),(8,1,.pv (iV 0)),(19,0,.pv (iV hi)),(19,1,.pv (iV hw)),(15,0,zrI u2),(16,0,zrB b2),(17,0,zrI f2),(21,0,.row 61 5 n (qau (ev'))),(13,0,.row 3 1 mm (ziV (wh')))])) ?_ ?_ ?_ d ii ev wh a c I).1
 ·intro i ev wh x y i' ev' wh' I h0 hi hx hy hl r;have ox:=I.ok x (List.mem_of_getElem? hx);have oy:=I.ok y (List.mem_of_getElem? hy);have ix:=I.ix x (List.mem_of_getElem? hx);have iy:=I.ix y (List.mem_of_getElem? hy);have l1:=I.len;have l2:=I.wl;have hc:=qaC ox.i oy.i;rw[hl] at hc;exact qmj (q:=i-1) (j:=(i-1)/2) (x:=x) (y:=y) (by decide) ⟨by omega,by omega⟩ hx ⟨by omega,by omega⟩ hy (decide_eq_true (by omega)) (qgw (by omega) (by omega)) (qgv (by omega)) hc (by omega) (by rw[List.length_set];omega) (qqd l1 (by omega) (by omega) (by omega)) (qqa l1 (by omega) (by omega) (by omega)) iy (by omega) ix (by rw[List.length_set];omega) r
 ·intro i ev wh x y I h0 hi hx hy hl;have ox:=I.ok x (List.mem_of_getElem? hx);have oy:=I.ok y (List.mem_of_getElem? hy);have hc:=qaC ox.i oy.i;rw[hl] at hc;exact ql8 (q:=i-1) (j:=(i-1)/2) (x:=x) (y:=y) (by decide) ⟨by omega,by omega⟩ hx ⟨by omega,by omega⟩ hy (decide_eq_true (by omega)) (qgw (by omega) (by omega)) (qgv (by omega)) hc
 ·intro ev wh I;exact qmn (k:=0) (decide_eq_false (by omega))
theorem qvQ {u2:List Int} {b2:List Bool} {f2:List Int} {n mm:Nat} (hn:n≤1000000) (d ii:Nat) (ev:List Ev) (wh:List Int) (a:ii≤d) (c:ii<n) (I:AInv n mm ev wh):Rl 5 19 154 0 32 20 ([(1,.pv (iV (ii:Int))),(2,.pp 19 0)]) ([(19,0,.ls 16 u2.length),(19,1,.ls 17 b2.length),(19,2,.ls 18 f2.length),(19,3,.ls 15 n),(19,4,.ls 12 mm),(13,0,.ls 16 u2.length),(13,1,.ls 17 b2.length),(13,2,.ls 18 f2.length),(13,3,.ls 15 n),(13,4,.ls 12 mm),(7,0,.pv (.slice none 0 0)),(7,1,.pv (.slice none 0 0)),(7,2,.pv (.slice none 0 0)),(7,3,.pv (.slice none 0 0)),(7,4,.pv (.slice none 0 0)),(16,0,zrI u2),(17,0,zrB b2),(18,0,zrI f2),(15,0,.row 61 5 n (qau (ev))),(12,0,.row 3 1 mm (ziV (wh)))]) (.exit 0) [(1,.pv (iV ((upM d ev wh ii).2.2:Int)))] ([(13,0,.ls 16 u2.length),(13,1,.ls 17 b2.length),(13,2,.ls 18 f2.length),(13,3,.ls 15 n),(13,4,.ls 12 mm),(7,0,.pv (.slice none 0 0)),(7,1,.pv (.slice none 0 0)),(7,2,.pv (.slice none 0 0)),(7,3,.pv (.slice none 0 0)),(7,4,.pv (.slice none 0 0)),(16,0,zrI u2),(17,0,zrB b2),(18,0,zrI f2),(15,0,.row 61 5 n (qau ((upM d ev wh ii).1))),(12,0,.row 3 1 mm (ziV ((upM d ev wh ii).2.1)))]):=by
 refine (qdO (n:=n) (mm:=mm) (Q:=fun (ii:Nat) ev wh (ii':Nat) ev' wh'=>Rl 5 19 154 0 32 20 ([(1,.pv (iV (ii:Int))),(2,.pp 19 0)]) ([(19,0,.ls 16 u2.length),(19,1,.ls 17 b2.length),(19,2,.ls 18 f2.length),(19,3,.ls 15 n),(19,4,.ls 12 mm),(13,0,.ls 16 u2.length),(13,1,.ls 17 b2.length),(13,2,.ls 18 f2.length),(13,3,.ls 15 n),(13,4,.ls 12 mm),(7,0,.pv (.slice none 0 0)),(7,1,.pv (.slice none 0 0)),(7,2,.pv (.slice none 0 0)),(7,3,.pv (.slice none 0 0)),(7,4,.pv (.slice none 0 0)),(16,0,zrI u2),(17,0,zrB b2),(18,0,zrI f2),(15,0,.row 61 5 n (qau (ev))),(12,0,.row 3 1 mm (ziV (wh)))]) (.exit 0) [(1,.pv (iV (ii':Int)))] ([(13,0,.ls 16 u2.length),(13,1,.ls 17 b2.length),(13,2,.ls 18 f2.length),(13,3,.ls 15 n),(13,4,.ls 12 mm),(7,0,.pv (.slice none 0 0)),(7,1,.pv (.slice none 0 0)),(7,2,.pv (.slice none 0 0)),(7,3,.pv (.slice none 0 0)),(7,4,.pv (.slice none 0 0)),(16,0,zrI u2),(17,0,zrB b2),(18,0,zrI f2),(15,0,.row 61 5 n (qau (ev'))),(12,0,.row 3 1 mm (ziV (wh')))])) ?_ ?_ ?_ d ii ev wh a c I).1
 ·intro i ev wh x y i' ev' wh' I h0 hi hx hy hl r;have ox:=I.ok x (List.mem_of_getElem? hx);have oy:=I.ok y (List.mem_of_getElem? hy);have ix:=I.ix x (List.mem_of_getElem? hx);have iy:=I.ix y (List.mem_of_getElem? hy);have l1:=I.len;have l2:=I.wl;have hc:=qaC ox.i oy.i;rw[hl] at hc;exact qka (q:=i-1) (j:=(i-1)/2) (x:=x) (y:=y) (by decide) ⟨by omega,by omega⟩ hx ⟨by omega,by omega⟩ hy (decide_eq_true (by omega)) (qgw (by omega) (by omega)) (qgv (by omega)) hc (by omega) (by rw[List.length_set];omega) (qqd l1 (by omega) (by omega) (by omega)) (qqa l1 (by omega) (by omega) (by omega)) iy (by omega) ix (by rw[List.length_set];omega) r
 ·intro i ev wh x y I h0 hi hx hy hl;have ox:=I.ok x (List.mem_of_getElem? hx);have oy:=I.ok y (List.mem_of_getElem? hy);have hc:=qaC ox.i oy.i;rw[hl] at hc;exact qjQ (q:=i-1) (j:=(i-1)/2) (x:=x) (y:=y) (by decide) ⟨by omega,by omega⟩ hx ⟨by omega,by omega⟩ hy (decide_eq_true (by omega)) (qgw (by omega) (by omega)) (qgv (by omega)) hc
 ·intro ev wh I;exact qjg (k:=0) (decide_eq_false (by omega))
theorem qxn {u2:List Int} {b2:List Bool} {f2:List Int} {n mm:Nat} (hn:n≤1000000) (d ii:Nat) (ev:List Ev) (wh:List Int) (a:n≤ii+d) (c:ii<n) (I:AInv n mm ev wh):Rl 5 20 153 0 52 21 ([(1,.pv (iV (ii:Int))),(2,.pp 20 0)]) ([(20,0,.ls 16 u2.length),(20,1,.ls 17 b2.length),(20,2,.ls 18 f2.length),(20,3,.ls 15 n),(20,4,.ls 12 mm),(13,0,.ls 16 u2.length),(13,1,.ls 17 b2.length),(13,2,.ls 18 f2.length),(13,3,.ls 15 n),(13,4,.ls 12 mm),(7,0,.pv (.slice none 0 0)),(7,1,.pv (.slice none 0 0)),(7,2,.pv (.slice none 0 0)),(7,3,.pv (.slice none 0 0)),(7,4,.pv (.slice none 0 0)),(16,0,zrI u2),(17,0,zrB b2),(18,0,zrI f2),(15,0,.row 61 5 n (qau (ev))),(12,0,.row 3 1 mm (ziV (wh)))]) .ret [] ([(13,0,.ls 16 u2.length),(13,1,.ls 17 b2.length),(13,2,.ls 18 f2.length),(13,3,.ls 15 n),(13,4,.ls 12 mm),(7,0,.pv (.slice none 0 0)),(7,1,.pv (.slice none 0 0)),(7,2,.pv (.slice none 0 0)),(7,3,.pv (.slice none 0 0)),(7,4,.pv (.slice none 0 0)),(16,0,zrI u2),(17,0,zrB b2),(18,0,zrI f2),(15,0,.row 61 5 n (qau ((dnM d ev wh ii).1))),(12,0,.row 3 1 mm (ziV ((dnM d ev wh ii).2)))]):=by
 refine (qf1 (n:=n) (mm:=mm) (Q:=fun (ii:Nat) ev wh ev' wh'=>Rl 5 20 153 0 52 21 ([(1,.pv (iV (ii:Int))),(2,.pp 20 0)]) ([(20,0,.ls 16 u2.length),(20,1,.ls 17 b2.length),(20,2,.ls 18 f2.length),(20,3,.ls 15 n),(20,4,.ls 12 mm),(13,0,.ls 16 u2.length),(13,1,.ls 17 b2.length),(13,2,.ls 18 f2.length),(13,3,.ls 15 n),(13,4,.ls 12 mm),(7,0,.pv (.slice none 0 0)),(7,1,.pv (.slice none 0 0)),(7,2,.pv (.slice none 0 0)),(7,3,.pv (.slice none 0 0)),(7,4,.pv (.slice none 0 0)),(16,0,zrI u2),(17,0,zrB b2),(18,0,zrI f2),(15,0,.row 61 5 n (qau (ev))),(12,0,.row 3 1 mm (ziV (wh)))]) .ret [] ([(13,0,.ls 16 u2.length),(13,1,.ls 17 b2.length),(13,2,.ls 18 f2.length),(13,3,.ls 15 n),(13,4,.ls 12 mm),(7,0,.pv (.slice none 0 0)),(7,1,.pv (.slice none 0 0)),(7,2,.pv (.slice none 0 0)),(7,3,.pv (.slice none 0 0)),(7,4,.pv (.slice none 0 0)),(16,0,zrI u2),(17,0,zrB b2),(18,0,zrI f2),(15,0,.row 61 5 n (qau (ev'))),(12,0,.row 3 1 mm (ziV (wh')))])) ?_ ?_ d ii ev wh a c I).1
 ·intro i ev wh x y ev' wh' I hi hl hx hy hlt r;have ix:=I.ix x (List.mem_of_getElem? hx);have iy:=I.ix y (List.mem_of_getElem? hy);have ox:=I.ok x (List.mem_of_getElem? hx);have oy:=I.ok y (List.mem_of_getElem? hy);have l1:=I.len;have l2:=I.wl;obtain⟨hyx,⟨hc,hb'⟩ | ⟨hc,m,hm,hbm⟩⟩:=qgW I.ok hl hx hy
  ·rw[hc] at r hy hlt;have hm:=hy;have hlx:=qaC oy.i ox.i;rw[hyx] at hlx;by_cases h2:2*i+2<n
   ·have hb:ev[2*i+2]?=some (ev[2*i+2]'(by omega)):=List.getElem?_eq_getElem (by omega);generalize ev[2*i+2]'(by omega)=b at hb;have ob:=I.ok b (List.mem_of_getElem? hb);have hl2:=qaC ob.i oy.i;rw[hb' b hb] at hl2;exact qe1 (q:=2*i) (qdM (by omega)) (qdL (by omega)) (decide_eq_false (by omega)) (qe0 (by omega)) (decide_eq_true (by omega)) ⟨by omega,by omega⟩ hb ⟨by omega,by omega⟩ hm hl2 ⟨by omega,by omega⟩ hx hlx (by omega) (by rw[List.length_set];omega) (qqd l1 (by omega) (by omega) (by omega)) (qqa l1 (by omega) (by omega) (by omega)) iy (by omega) ix (by rw[List.length_set];omega) r
   ·exact qfK (q:=2*i) (qdM (by omega)) (qdL (by omega)) (decide_eq_false (by omega)) (qe0 (by omega)) (decide_eq_false (by omega)) ⟨by omega,by omega⟩ hm ⟨by omega,by omega⟩ hx hlx (by omega) (by rw[List.length_set];omega) (qqd l1 (by omega) (by omega) (by omega)) (qqa l1 (by omega) (by omega) (by omega)) iy (by omega) ix (by rw[List.length_set];omega) r
  ·rw[hc] at r hy hlt;have hb:=hy;have hlx:=qaC oy.i ox.i;rw[hyx] at hlx;have om:=I.ok m (List.mem_of_getElem? hm);have hl2:=qaC oy.i om.i;rw[hbm] at hl2;exact qen (q:=2*i) (qdM (by omega)) (qdL (by omega)) (decide_eq_false (by omega)) (qe0 (by omega)) (decide_eq_true (by omega)) ⟨by omega,by omega⟩ hb ⟨by omega,by omega⟩ hm hl2 ⟨by omega,by omega⟩ hx hlx (by omega) (by rw[List.length_set];omega) (qqd l1 (by omega) (by omega) (by omega)) (qqa l1 (by omega) (by omega) (by omega)) iy (by omega) ix (by rw[List.length_set];omega) r
 ·intro i ev wh I hi hl;have l1:=I.len;obtain⟨x,hx⟩:∃ x,ev[i]?=some x:=⟨_,List.getElem?_eq_getElem (by omega)⟩;have ox:=I.ok x (List.mem_of_getElem? hx)
  have sp:∀ c,(c=i∨c=2*i+1∨c=2*i+2)→∀ z,ev[c]?=some z→ltE z x=false:=fun c hc z hz=>qcw I.ok hc z x hz (by rw[hl];exact hx)
  by_cases h1:2*i+1<n
  ·have hm:ev[2*i+1]?=some (ev[2*i+1]'(by omega)):=List.getElem?_eq_getElem (by omega);generalize ev[2*i+1]'(by omega)=m at hm;have om:=I.ok m (List.mem_of_getElem? hm);have hlm:=qaC om.i ox.i;rw[sp _ (.inr (.inl rfl)) m hm] at hlm;by_cases h2:2*i+2<n
   ·have hb:ev[2*i+2]?=some (ev[2*i+2]'(by omega)):=List.getElem?_eq_getElem (by omega);generalize ev[2*i+2]'(by omega)=b at hb;have ob:=I.ok b (List.mem_of_getElem? hb);have hlb:=qaC ob.i ox.i;rw[sp _ (.inr (.inr rfl)) b hb] at hlb;have hl2:=qaC ob.i om.i
    cases e:ltE b m<;>rw[e] at hl2
    ·exact qe3 (q:=2*i) (qdM (by omega)) (qdL (by omega)) (decide_eq_false (by omega)) (qe0 (by omega)) (decide_eq_true (by omega)) ⟨by omega,by omega⟩ hb ⟨by omega,by omega⟩ hm hl2 ⟨by omega,by omega⟩ hx hlm
    ·exact qeb (q:=2*i) (qdM (by omega)) (qdL (by omega)) (decide_eq_false (by omega)) (qe0 (by omega)) (decide_eq_true (by omega)) ⟨by omega,by omega⟩ hb ⟨by omega,by omega⟩ hm hl2 ⟨by omega,by omega⟩ hx hlb
   ·exact qfn (q:=2*i) (qdM (by omega)) (qdL (by omega)) (decide_eq_false (by omega)) (qe0 (by omega)) (decide_eq_false (by omega)) ⟨by omega,by omega⟩ hm ⟨by omega,by omega⟩ hx hlm
  ·exact qkf (q:=2*i) (qdM (by omega)) (qdL (by omega)) (decide_eq_true (by omega))
end Go.Proofs.YtkckcgpmnipnaaaGreat

namespace Go.Proofs.YtkckcgpmnipnaaaGreat
set_option maxRecDepth 100000
open Go.RowKit
section
variable {u fr wh:List Int} {b:List Bool} {ev:List Ev}
theorem qj4 {u' fr':List Int} {b':List Bool} {x z:Int} (h:Vd u b fr) (ht:qbx u b fr=some (u',b',fr',x,z)) :
 Fn 243 3 [.ag [.ls 0 u.length,.ls 1 b.length,.ls 2 fr.length]] [(0,0,zrI u),(1,0,zrB b),(2,0,zrI fr)] (.tu [.ag [.ls 3 u'.length,.ls 4 b'.length,.ls 5 fr'.length],.one (.pv (qaK x z))]) 3 [(3,0,zrI u'),(4,0,zrB b'),(5,0,zrI fr')]:=by
 have hfl:=h.frlen;have hle:=h.le;obtain⟨y,h1,h2,h3,rfl,rfl,rfl,rfl⟩:=qbp ht;obtain⟨e,hg,h4⟩:=qbq h1
 have hx:x∈fr:=by rw[e];simp
 obtain⟨r1,r2⟩:=h.rng x hx
 have hbk:x.toNat<b.length:=by rw[h.len];omega
 have hy:=h.use x.toNat y _ h2 (List.getElem?_eq_getElem hbk)
 have hy0:0≤y:=by have:=hy.1;split at this<;>omega
 have hl:iV (IntKind.i64.wrap ((fr.length:Int)-1))=iV ((fr.length-1:Nat):Int):=by rw[show ((fr.length:Int)-1)=((fr.length-1:Nat):Int) by omega];exact qbe (by omega) (by omega)
 have key:=rtk (m:=fr.length-1) (z:=y+1) (qdG h.small) hl (by omega) hg (by omega) ⟨r1,r2⟩ h2 (by omega) ⟨r1,by rw[h.len];exact r2⟩ hbk (by rw[List.getElem?_set,if_pos rfl,if_pos (by omega)]) (qbe (by omega) (by omega));have ef:fr.dropLast=fr.take (fr.length-1):=List.dropLast_eq_take
 have el:(fr.take (fr.length-1)).length=fr.length-1:=by rw[List.length_take];omega
 have e1:(ziV fr).take ((fr.length-1)*1)=ziV (fr.take (fr.length-1)):=by simp[ziV,List.map_take]
 rw[e1] at key;simp only[zrI,zrB,List.length_set];rw[ef,el];exact key
theorem qj5 {hi hw:Int} (h:Vd u b fr) (hl:Live u b hi hw) :
 Fn 152 3 [.ag [.ls 0 u.length,.ls 1 b.length,.ls 2 fr.length],.pv (qaK hi hw)] [(0,0,zrI u),(1,0,zrB b),(2,0,zrI fr)] (.ag [.ls 3 u.length,.ls 4 (b.set hi.toNat false).length,.ls 5 (fr++[hi]).length]) 3 [(3,0,zrI u),(4,0,zrB (b.set hi.toNat false)),(5,0,zrI (fr++[hi]))]:=by
 have h0:=hl.lo
 have h1:hi<(b.length:Int):=by rw[h.len];exact hl.lt
 have key:=rgi (hw:=hw) (qdG h.small) ⟨h0,h1⟩ (by omega) (by have:=h.frlen;omega);simp only[zrI,zrB,List.length_set,List.length_append,List.length_singleton];rw[qeI];exact key
theorem qkO (h:VA u b fr ev wh):Fn 72 5 [agA u b fr ev wh] (agP u b fr ev wh) (.ag [.ls 5 u.length,.ls 6 b.length,.ls 7 fr.length,.ls 8 ev.length,.ls 9 wh.length]) 5 [(5,0,zrI u),(6,0,zrB b),(7,0,zrI fr),(8,0,qap ev),(9,0,zrI wh)]:=by
 have hlen:=h.lens;exact qJe (qdG h.vd.small) (by omega) (by omega)
theorem qfL {tn td z:Int} {u2 f2:List Int} {b2:List Bool} {hi hw:Int} (ht:I64 tn∧I64 td) (h0:okB tn td=true) (h:VA u b fr ev wh) (hz:0≤z∧z≤1000000) (hk:qbx u b fr=some (u2,b2,f2,hi,hw)) :
 Fn 198 5 [agA u b fr ev wh,.pv (qab tn td),.pv (iV z)] (agP u b fr ev wh)
  (.tu [qAG (qa2 ev wh ⟨tn,td,z,hi,hw⟩).1 u2 b2 f2 (qa2 ev wh ⟨tn,td,z,hi,hw⟩).2,.one (.pv (qaK hi hw))]) 5 (qfO (qa2 ev wh ⟨tn,td,z,hi,hw⟩).1 u2 b2 f2 (qa2 ev wh ⟨tn,td,z,hi,hw⟩).2):=by
 have hlen:=h.lens;have hin:=qjM h.vd hk;have I:=qg7 (x:=⟨tn,td,z,hi,hw⟩) h.inv ⟨ht,h0,hz.1,hz.2⟩ ⟨hin.1,by have:=hin.2;simp only;omega⟩;obtain⟨J,_⟩:=qcF (d:=ev.length) (i:=ev.length) (by omega) (by omega) I;have j1:(qa2 ev wh ⟨tn,td,z,hi,hw⟩).1.length=ev.length+1:=J.len;have j2:(qa2 ev wh ⟨tn,td,z,hi,hw⟩).2.length=wh.length:=J.wl;simp only[qAG,qfO,qap,zrI,j1,j2];have r:=qBu (u2:=u2) (b2:=b2) (f2:=f2) (hi:=hi) (hw:=hw) (n:=ev.length+1) (by omega) ev.length ev.length (ev++[⟨tn,td,z,hi,hw⟩]) (wh.set hi.toNat (ev.length:Int)) (by omega) (by omega) I;exact qrW (p:=_) (la:=ev.length) (ev3:=(qa2 ev wh ⟨tn,td,z,hi,hw⟩).1) (wh3:=(qa2 ev wh ⟨tn,td,z,hi,hw⟩).2) (qkO h) (qj4 h.vd hk) (by omega) (by rw[show ((ev.length+1:Nat):Int)-1=(ev.length:Int) by omega];exact qbe (by omega) (by omega)) ⟨hin.1,by have:=hin.2;omega⟩ (by omega) r
theorem qip {x:Ev} {k:Nat} {tn td:Int} (h:VA u b fr ev wh) (hx:ev[k]?=some x) (ht:I64 tn∧I64 td) (ho:okB tn td=true) :
 Fn 196 5 [agA u b fr ev wh,.pv (qaK x.i x.w),.pv (qab tn td)] (agP u b fr ev wh)
  (.ag [.ls 5 u.length,.ls 6 b.length,.ls 7 fr.length,.ls 8 (qaW ev wh k x tn td).1.length,.ls 9 (qaW ev wh k x tn td).2.length]) 5 (qfO (qaW ev wh k x tn td).1 u b fr (qaW ev wh k x tn td).2):=by
 have hlen:=h.lens;obtain⟨hlv,hwx⟩:=h.own hx;have hk:k<ev.length:=(List.getElem?_eq_some_iff.1 hx).1;have I:=qft h.inv hx ht ho;have J:=qbX hk I;obtain⟨K,hp⟩:=qcF (d:=k) (Nat.le_refl _) hk I;have j1:(qaW ev wh k x tn td).1.length=ev.length:=J.len;have j2:(qaW ev wh k x tn td).2.length=wh.length:=J.wl;have hwi:=h.inv.ix x (List.mem_of_getElem? hx);simp only[qfO,qap,zrI,j1,j2];have r0:=qBb (u:=u) (b:=b) (fr:=fr) (n:=ev.length) (by omega) k k _ _ (Nat.le_refl _) hk I;have r1:=qCV (u:=u) (b:=b) (fr:=fr) (n:=ev.length) (by omega) ev.length _ _ _ (by omega) hp K;exact qwd (p:=_) (qkO h) hwi hwx ⟨by omega,by omega⟩ hx hk r0 r1
theorem qsf {k la:Nat} {x xl:Ev} (hk:k<la):(((ev.set k xl).set la x).take la)=(ev.take la).set k xl:=by
 apply List.ext_getElem?;intro j;simp only[List.getElem?_take,List.getElem?_set,List.length_take,List.length_set];by_cases h:j<la
 ·rw[if_pos h,if_neg (show ¬ la=j by omega)];by_cases e:k=j
  ·rw[if_pos e,if_pos e];by_cases g:k<ev.length
   ·rw[if_pos g,if_pos (by omega)]
   ·rw[if_neg g,if_neg (by omega)]
  ·rw[if_neg e,if_neg e,if_pos h]
 ·rw[if_neg h,if_neg (by omega),if_neg h]
theorem qeM {x:Ev} {k:Nat} (h:VA u b fr ev wh) (hx:ev[k]?=some x) :
 Fn 85 5 [agA u b fr ev wh,.pv (qaK x.i x.w)] (agP u b fr ev wh)
  (.ag [.ls 5 u.length,.ls 6 (b.set x.i.toNat false).length,.ls 7 (fr++[x.i]).length,.ls 8 (qam ev wh k x).1.length,.ls 9 (qam ev wh k x).2.length]) 5 (qfO (qam ev wh k x).1 u (b.set x.i.toNat false) (fr++[x.i]) (qam ev wh k x).2):=by
 obtain⟨hlv,hwx⟩:=h.own hx;have hlen:=h.lens;have hI:=h.inv;have hk:k<ev.length:=(List.getElem?_eq_some_iff.1 hx).1;have hg:=qj5 h.vd hlv
 have hla:iV (IntKind.i64.wrap ((ev.length:Int)-1))=iV ((ev.length-1:Nat):Int):=by rw[show (ev.length:Int)-1=((ev.length-1:Nat):Int) by omega];exact qbe (by omega) (by omega)
 have hwi:=hI.ix x (List.mem_of_getElem? hx);by_cases hm:k<ev.length-1
 ·obtain⟨xl,hxl⟩:∃ xl,ev[ev.length-1]?=some xl:=⟨_,List.getElem?_eq_getElem (by omega)⟩;have hwl:=hI.ix xl (List.mem_of_getElem? hxl)
  have hne:x.i≠xl.i:=fun e=>by
   have:=h.con.inj hx hxl e;omega
  have e:qam ev wh k x=qbM (ev.length-1) ((ev.take (ev.length-1)).set k xl) ((wh.set x.i.toNat (-1)).set xl.i.toNat (k:Int)) k:=by unfold qam;rw[if_pos hm,hxl]
  have I:=qdw (x:=x) hI hm hxl;have e1:(((ev.set k xl).set (ev.length-1) x).take (ev.length-1))=(ev.take (ev.length-1)).set k xl:=qsf hm
  have e2:(((wh.set xl.i.toNat (k:Int)).set x.i.toNat ((ev.length-1:Nat):Int)).set x.i.toNat (-1))=((wh.set x.i.toNat (-1)).set xl.i.toNat (k:Int)):=by
   rw[List.set_set,List.set_comm _ _ (by omega)]
  rw[← e1,← e2] at I e;have J:=qbX hm I;obtain⟨K,hp⟩:=qcF (d:=k) (Nat.le_refl _) hm I;rw[e];simp only[qfO,qap,zrI,J.len,J.wl];have r0:=qvQ (u2:=u) (b2:=b.set x.i.toNat false) (f2:=fr++[x.i]) (n:=ev.length-1) (by omega) k k _ _ (Nat.le_refl _) hm I;have r1:=qxn (u2:=u) (b2:=b.set x.i.toNat false) (f2:=fr++[x.i]) (n:=ev.length-1) (by omega) (ev.length-1) _ _ _ (by omega) hp K;refine qwL (n:=0) (mm:=0) (p:=_) (la:=ev.length-1) (x:=x) (xl:=xl) (qkO h) hwi hwx hla (by simp;omega) ⟨by omega,by omega⟩ hx ⟨by omega,by omega⟩ hxl hk (by rw[List.length_set];omega) (qqd rfl (by omega) (by omega) (by omega)) (qqa rfl (by omega) (by omega) (by omega)) hwl (by omega) hwi (by rw[List.length_set];omega) (by omega) (by rw[List.length_set,List.length_set];omega) hg r0 (?_);exact r1
 ·have e:qam ev wh k x=(ev.take (ev.length-1),wh.set x.i.toNat (-1)):=by unfold qam;rw[if_neg hm]
  have e1:(ev.take (ev.length-1)).length=ev.length-1:=by rw[List.length_take];omega
  rw[e];have e2:(wh.set x.i.toNat (-1)).length=wh.length:=List.length_set ..;simp only[qfO,qap,zrI,e1,e2];exact qv5 (la:=ev.length-1) (qkO h) hwi hwx hla (by simp;omega) (by omega) (by omega) hg
end
end Go.Proofs.YtkckcgpmnipnaaaGreat

namespace Go.Proofs.YtkckcgpmnipnaaaGreat
set_option maxRecDepth 100000
open Go.RowKit
section
variable {u fr wh:List Int} {b:List Bool} {ev:List Ev}
theorem ql2 {hi hw:Int} (h:VA u b fr ev wh) (hl:¬ Live u b hi hw):Fn 125 5 [agA u b fr ev wh,.pv (qaK hi hw)] (agP u b fr ev wh) (.pv (.tuple #[evZ,iV 6])) 0 []:=qrh (qeB h) (qkD h.vd hl)
theorem qms {hi hw:Int} {j:Nat} {x:Ev} (h:VA u b fr ev wh) (hl:Live u b hi hw) (hj:wh[hi.toNat]?=some (j:Int)) (hx:ev[j]?=some x):Fn 125 5 [agA u b fr ev wh,.pv (qaK hi hw)] (agP u b fr ev wh) (.pv (.tuple #[qaa x,iV 0])) 0 []:=by
 have:=(List.getElem?_eq_some_iff.1 hj).1;have:=(List.getElem?_eq_some_iff.1 hx).1;have:=hl.lo;exact qDe (qeB h) (qhZ h.vd hl) (by omega) hj (by omega) hx
end
end Go.Proofs.YtkckcgpmnipnaaaGreat

namespace Go.Proofs.YtkckcgpmnipnaaaGreat
set_option maxRecDepth 100000
open Go.RowKit
section
variable {u fr wh:List Int} {b:List Bool} {ev:List Ev}
theorem qlv (hl:ev.length≤1000000):∀ (d k:Nat),k+d=ev.length→Rl 10 10 80 0 47 12 [(2,.pp 10 0),(3,.pp 11 0),(5,.pv (iV (k:Int)))] [(10,0,.ls 0 u.length),(10,1,.ls 1 b.length),(10,2,.ls 2 fr.length),(10,3,.ls 3 ev.length),(10,4,.ls 4 wh.length),(11,0,.ls 5 u.length),(11,1,.ls 6 b.length),(11,2,.ls 7 fr.length),(11,3,.ls 8 ev.length),(11,4,.ls 9 wh.length),(3,0,qap ev),(8,0,qap ev)] (.exit 0) [] []
 | 0,k,hk=>qxg (decide_eq_false (by omega))
 | d+1,k,hk=>by
  have hx:ev[k]?=some (ev[k]'(by omega)):=List.getElem?_eq_getElem (by omega);exact qqy hx (by omega) (decide_eq_true (by omega)) (by simp) (qaL (by omega)) (qlv hl d (k+1) (by omega))
theorem qrX (hg:qbZ u b fr=false) (hl:ev.length≤1000000) (hw:wh.length≤1000000):Fn 80 10 [agA u b fr ev wh,.ag [.ls 5 u.length,.ls 6 b.length,.ls 7 fr.length,.ls 8 ev.length,.ls 9 wh.length]] [(0,0,zrI u),(1,0,zrB b),(2,0,zrI fr),(3,0,qap ev),(4,0,zrI wh),(5,0,zrI u),(6,0,zrB b),(7,0,zrI fr),(8,0,qap ev),(9,0,zrI wh)] (.pv (.bool true)) 0 []:=
 qqv (qtt hg) (qhh hw) (by simp) (qlv hl ev.length 0 (by omega))
end
end Go.Proofs.YtkckcgpmnipnaaaGreat

namespace Go.Proofs.YtkckcgpmnipnaaaGreat
set_option maxRecDepth 100000
open Go.RowKit
structure Ck where
 tn:Int
 td:Int
 s:List Pt
 x:Int
 l:List Pt
 u:List Int
 b:List Bool
 fr:List Int
 ev:List Ev
 wh:List Int
 d:List Pt
abbrev qaH (l:List Pt):SV:=.row 134 3 l.length (qbs l)
abbrev qar (c:Ck):SV:=.ag [.pv (iV c.tn),.pv (iV c.td),.ls 0 c.s.length,.pv (iV c.x),.ls 1 c.l.length,.ls 2 c.u.length,.ls 3 c.b.length,.ls 4 c.fr.length,.ls 5 c.ev.length,.ls 6 c.wh.length,.ls 7 c.d.length]
abbrev qaA (c:Ck):List (Nat×Nat×SV):=[(0,0,qaf c.s),(1,0,qak c.l),(2,0,zrI c.u),(3,0,zrB c.b),(4,0,zrI c.fr),(5,0,qap c.ev),(6,0,zrI c.wh),(7,0,qaH c.d)]
abbrev qcb (k:Nat) (c:Ck):List (Nat×Nat×SV):=[(k,0,.pv (iV c.tn)),(k,1,.pv (iV c.td)),(k,2,.ls 0 c.s.length),(k,3,.pv (iV c.x)),(k,4,.ls 1 c.l.length),(k,5,.ls 2 c.u.length),(k,6,.ls 3 c.b.length),(k,7,.ls 4 c.fr.length),(k,8,.ls 5 c.ev.length),(k,9,.ls 6 c.wh.length),(k,10,.ls 7 c.d.length),(0,0,qaf c.s),(1,0,qak c.l),(2,0,zrI c.u),(3,0,zrB c.b),(4,0,zrI c.fr),(5,0,qap c.ev),(6,0,zrI c.wh),(7,0,qaH c.d)]
abbrev qiJ (c:Ck):S1:=.ag [.pv (iV c.tn),.pv (iV c.td),.ls 8 c.s.length,.pv (iV c.x),.ls 9 c.l.length,.ls 10 c.u.length,.ls 11 c.b.length,.ls 12 c.fr.length,.ls 13 c.ev.length,.ls 14 c.wh.length,.ls 15 c.d.length]
abbrev qeS (c:Ck):SV:=.ag [.pv (iV c.tn),.pv (iV c.td),.ls 8 c.s.length,.pv (iV c.x),.ls 9 c.l.length,.ls 10 c.u.length,.ls 11 c.b.length,.ls 12 c.fr.length,.ls 13 c.ev.length,.ls 14 c.wh.length,.ls 15 c.d.length]
abbrev qcc (c:Ck):List (Nat×Nat×SV):=[(8,0,qaf c.s),(9,0,qak c.l),(10,0,zrI c.u),(11,0,zrB c.b),(12,0,zrI c.fr),(13,0,qap c.ev),(14,0,zrI c.wh),(15,0,qaH c.d)]
abbrev qbt:Value:=.agg #[iV 0,iV 0,.slice none 0 0,iV 0,.slice none 0 0,.slice none 0 0,.slice none 0 0,.slice none 0 0,.slice none 0 0,.slice none 0 0,.slice none 0 0]
abbrev ye (a:Ck):HpL:=[(5,0,zrI a.u),(6,0,zrB a.b),(7,0,zrI a.fr),(8,0,qap a.ev),(9,0,zrI a.wh)]
abbrev yf (a:Ck):HpL:=[(0,0,zrI a.u),(1,0,zrB a.b),(2,0,zrI a.fr),(3,0,qap a.ev),(4,0,zrI a.wh)]
abbrev yh (a:Ck) (b:List Pt):HpL:=[(0,0,qaf a.s),(1,0,qak a.l),(2,0,zrI a.u),(3,0,zrB a.b),(4,0,zrI a.fr),(5,0,qap a.ev),(6,0,zrI a.wh),(7,0,qaH a.d),(8,0,qaf b)]
abbrev yj (a:List Pt) (b:List P2):HpL:=[(0,0,qaf a),(1,0,.row 90 2 b.length (p2V b))]
abbrev ym (a:Ck) (b:List Pt):HpL:=[(8,0,zrI a.u),(9,0,zrB a.b),(10,0,zrI a.fr),(11,0,qap a.ev),(12,0,zrI a.wh),(13,0,qaH b)]
abbrev yn (a:Ck):Prop:=Fn 197 3 [.ag [.ls 0 a.u.length,.ls 1 a.b.length,.ls 2 a.fr.length]] [(0,0,zrI a.u),(1,0,zrB a.b),(2,0,zrI a.fr)] (.pv (.bool false)) 0 []
abbrev yo (a:Ck):Prop:=Fn 197 3 [.ag [.ls 0 a.u.length,.ls 1 a.b.length,.ls 2 a.fr.length]] [(0,0,zrI a.u),(1,0,zrB a.b),(2,0,zrI a.fr)] (.pv (.bool true)) 0 []
abbrev yr (a:Ck) (b:Pt) (c d:Int):Prop:=Fn 216 8 [qar a,.pv (qae b.a b.b)] (qaA a) (.pv (.tuple #[qab c d,.bool false])) 0 []
abbrev yx (a:List Pt) (b:P2) (c:Int):Prop:=Fn 61 1 [qaq 0 a,.pv (iV b.a)] [(0,0,qaf a)] (.pv (iV (c))) 0 []
end Go.Proofs.YtkckcgpmnipnaaaGreat

namespace Go.Proofs.YtkckcgpmnipnaaaGreat
set_option maxRecDepth 100000
open Go.RowKit
abbrev qdH (l:List P2):SV:=.row 90 2 l.length (p2V l)
end Go.Proofs.YtkckcgpmnipnaaaGreat

namespace Go.Proofs.YtkckcgpmnipnaaaGreat
set_option maxRecDepth 100000
open Go.RowKit
variable {l:List P2} {k:Nat} {ps:List Pt} {xs:List Value} {c:Ck}
theorem qbD {l:List P2} {k:Nat} {x:P2} (h:l[k]?=some x):qcJ (p2V l) (0*2+k*2) [iV x.a,iV x.b]:=fun j v hj=>by
 obtain⟨h1,h2⟩:=qfD h;rw[show 0*2+k*2+j=k*2+j by omega]
 match j,hj with
 | 0,hj=>cases hj;exact h1
 | 1,hj=>cases hj;exact h2
 | j+2,hj=>simp at hj
abbrev qEU (l:List P2) (ps:List Pt):HpL:=[(1,0,.mrow (qaI ps)),(0,0,.row 90 2 l.length (p2V l))]
theorem qkB {x:P2} {qs:List Pt} (hlt:Dt ((k:Int)<(l.length:Int))) (hin:Bd k l.length) (hk:l[k]?=some x) (hP:qiG Tryz.prog 167 (qaI ps) (qae x.a x.b) (.bool true) (qaI qs)) (hs:iV (IntKind.i64.wrap ((k:Int)+1))=iV (((k+1:Nat):Int))) {e:Exit} {tm2:TmL} {hp2:HpL}
 (r:Rl 1 1 106 0 17 2 ([(3,.mp 1),(7,.ls 0 l.length),(8,.pv (iV (l.length:Int))),(9,.pv (iV ((k+1:Nat):Int)))]) ([(1,0,.mrow (qaI qs)),(0,0,.row 90 2 l.length (p2V l))]) e tm2 hp2):Rl 1 1 106 0 17 2 ([(3,.mp 1),(7,.ls 0 l.length),(8,.pv (iV (l.length:Int))),(9,.pv (iV (k:Int)))]) (qEU l ps) e tm2 hp2:=
 RunsL.next [] 300 [.t true,.r (qae x.a x.b),.w (qaI qs),Re hs]
  (Ro (A5 hlt hin (qbD hk) hP hs tI)) r
theorem qoz (hlt:decide ((k:Int)<(l.length:Int))=false):Rl 1 1 106 0 17 2 ([(3,.mp 1),(7,.ls 0 l.length),(8,.pv (iV (l.length:Int))),(9,.pv (iV (k:Int)))]) (qEU l ps) (.exit 0) ([(3,.mp 1)]) (qEU l ps):=
 RunsL.stop [] 300 [.t false] (fun h=>by cases h)
  (Ro (Ai hlt tI))
theorem qkL (r0:Rl 1 1 106 0 17 2 ([(3,.mp 1),(7,.ls 0 l.length),(8,.pv (iV (l.length:Int))),(9,.pv (iV ((0:Nat):Int)))]) ([(1,0,.mrow (qaI [])),(0,0,.row 90 2 l.length (p2V l))]) (.exit 0) ([(3,.mp 1)]) (qEU l ps)) :
 Fn 106 1 [.ls 0 l.length] [(0,0,.row 90 2 l.length (p2V l))] (.mp 1) 1 [(1,0,.mrow (qaI ps))]:=
 Fz [] [Lf r0]
  (qaG (qaM []) [(1,0,.mrow (qaI ps))]) (Lo r0 [] tI)
theorem qqZ {p:Pt} (hlt:Dt ((k:Int)<(c.l.length:Int))) (hin:Bd k c.l.length) (hk:c.l[k]?=some p) (hm:k+1≤1000000) (hs:iV (IntKind.i64.wrap ((k:Int)+1))=iV (((k+1:Nat):Int))) {e:Exit} {tm2:TmL} {hp2:HpL}
 (r:Rl 8 8 107 0 22 10 ([(3,.ls 9 (k+1:Nat)),(8,.ls 1 c.l.length),(9,.pv (iV (c.l.length:Int))),(10,.pv (iV ((k+1:Nat):Int)))]) ([(1,0,qak c.l),(9,0,.row 90 2 (k+1) (xs++[iV p.a,iV p.b]))]) e tm2 hp2):Rl 8 8 107 0 22 10 ([(3,.ls 9 k),(8,.ls 1 c.l.length),(9,.pv (iV (c.l.length:Int))),(10,.pv (iV (k:Int)))]) ([(1,0,qak c.l),(9,0,.row 90 2 k xs)]) e tm2 hp2:=
 RunsL.next [(9,12)] 300 [.t true,.r (ptV p),Re hs]
  (Ro (A5 hlt hin (qaB hk) hm hs tI)) r
theorem quH (hlt:decide ((k:Int)<(c.l.length:Int))=false):Rl 8 8 107 0 22 10 ([(3,.ls 9 k),(8,.ls 1 c.l.length),(9,.pv (iV (c.l.length:Int))),(10,.pv (iV (k:Int)))]) ([(1,0,qak c.l),(9,0,.row 90 2 k xs)]) (.exit 0) ([(3,.ls 9 k)]) ([(1,0,qak c.l),(9,0,.row 90 2 k xs)]):=
 RunsL.stop [] 300 [.t false] (fun h=>by cases h)
  (Ro (Ai hlt tI))
theorem qts (r0:Rl 8 8 107 0 22 10 ([(3,.ls 9 0),(8,.ls 1 c.l.length),(9,.pv (iV (c.l.length:Int))),(10,.pv (iV (0:Int)))]) ([(1,0,qak c.l),(9,0,.row 90 2 0 [])]) (.exit 0) ([(3,.ls 9 k)]) ([(1,0,qak c.l),(9,0,.row 90 2 k xs)])) (hs:Fn 106 1 [.ls 0 k] [(0,0,.row 90 2 k xs)] (.mp 1) 1 [(1,0,.mrow (qaI ps))]) :
 Fn 107 8 [qar c] (qaA c) (.mp 8) 1 [(8,0,.mrow (qaI ps))]:=
 Fz [(8,10)] [.ln true 3 0 90 2,Lf r0,Cf hs [9]]
  (qaG (qaM [(8,10)]) [(8,0,.mrow (qaI ps))]) (Lo r0 [] (Co hs [9] 10 tI))
end Go.Proofs.YtkckcgpmnipnaaaGreat

namespace Go.Proofs.YtkckcgpmnipnaaaGreat
set_option maxRecDepth 100000
open Go.RowKit
abbrev raT (m n k:Nat):List (Nat×SV):=[(2,.ls 9 m),(3,.pp 10 0),(4,.pp 11 0),(6,.pp 12 0),(8,.mp 13),(9,.mp 14),(21,.ls 1 n),(22,.pv (iV (n:Int))),(23,.pv (iV (k:Int)))]
abbrev raO (c:Ck) (s:List Pt) (E:List P2) (ps qs:List Pt):List (Nat×Nat×SV):=[(10,0,.pv (iV c.tn)),(10,1,.pv (iV c.td)),(10,2,.ls 0 c.s.length),(10,3,.pv (iV c.x)),(10,4,.ls 1 c.l.length),(10,5,.ls 2 c.u.length),(10,6,.ls 3 c.b.length),(10,7,.ls 4 c.fr.length),(10,8,.ls 5 c.ev.length),(10,9,.ls 6 c.wh.length),(10,10,.ls 7 c.d.length),(11,0,.ls 8 s.length),(12,0,.pv (iV 0)),(12,1,.pv (iV 0)),(12,2,.pv (.slice none 0 0)),(12,3,.pv (iV 0)),(12,4,.pv (.slice none 0 0)),(12,5,.pv (.slice none 0 0)),(12,6,.pv (.slice none 0 0)),(12,7,.pv (.slice none 0 0)),(12,8,.pv (.slice none 0 0)),(12,9,.pv (.slice none 0 0)),(12,10,.pv (.slice none 0 0)),(8,0,qaf s),(9,0,qdH E),(0,0,qaf c.s),(1,0,qak c.l),(2,0,zrI c.u),(3,0,zrB c.b),(4,0,zrI c.fr),(5,0,qap c.ev),(6,0,zrI c.wh),(7,0,qaH c.d),(13,0,.mrow (qaI ps)),(14,0,.mrow (qaI qs))]
abbrev raN (c:Ck) (s:List Pt) (E:List P2) (ps qs:List Pt) (o:Ck):List (Nat×Nat×SV):=[(10,0,.pv (iV o.tn)),(10,1,.pv (iV o.td)),(10,2,.ls 15 o.s.length),(10,3,.pv (iV o.x)),(10,4,.ls 16 o.l.length),(10,5,.ls 17 o.u.length),(10,6,.ls 18 o.b.length),(10,7,.ls 19 o.fr.length),(10,8,.ls 20 o.ev.length),(10,9,.ls 21 o.wh.length),(10,10,.ls 22 o.d.length),(11,0,.ls 8 s.length),(12,0,.pv (iV 0)),(12,1,.pv (iV 0)),(12,2,.pv (.slice none 0 0)),(12,3,.pv (iV 0)),(12,4,.pv (.slice none 0 0)),(12,5,.pv (.slice none 0 0)),(12,6,.pv (.slice none 0 0)),(12,7,.pv (.slice none 0 0)),(12,8,.pv (.slice none 0 0)),(12,9,.pv (.slice none 0 0)),(12,10,.pv (.slice none 0 0)),(8,0,qaf s),(9,0,qdH E),(15,0,qaf o.s),(16,0,qak o.l),(17,0,zrI o.u),(18,0,zrB o.b),(19,0,zrI o.fr),(20,0,qap o.ev),(21,0,zrI o.wh),(22,0,qaH o.d),(1,0,qak c.l),(13,0,.mrow (qaI ps)),(14,0,.mrow (qaI qs))]
abbrev qwS (m:Nat):List (Nat×SV):=[(2,.ls 9 m),(3,.pp 10 0),(4,.pp 11 0),(6,.pp 12 0),(9,.mp 14)]
abbrev qFm (c:Ck) (s:List Pt) (E:List P2) (qs:List Pt):List (Nat×Nat×SV):=[(10,0,.pv (iV c.tn)),(10,1,.pv (iV c.td)),(10,2,.ls 0 c.s.length),(10,3,.pv (iV c.x)),(10,4,.ls 1 c.l.length),(10,5,.ls 2 c.u.length),(10,6,.ls 3 c.b.length),(10,7,.ls 4 c.fr.length),(10,8,.ls 5 c.ev.length),(10,9,.ls 6 c.wh.length),(10,10,.ls 7 c.d.length),(11,0,.ls 8 s.length),(12,0,.pv (iV 0)),(12,1,.pv (iV 0)),(12,2,.pv (.slice none 0 0)),(12,3,.pv (iV 0)),(12,4,.pv (.slice none 0 0)),(12,5,.pv (.slice none 0 0)),(12,6,.pv (.slice none 0 0)),(12,7,.pv (.slice none 0 0)),(12,8,.pv (.slice none 0 0)),(12,9,.pv (.slice none 0 0)),(12,10,.pv (.slice none 0 0)),(8,0,qaf s),(9,0,qdH E),(0,0,qaf c.s),(1,0,qak c.l),(2,0,zrI c.u),(3,0,zrB c.b),(4,0,zrI c.fr),(5,0,qap c.ev),(6,0,zrI c.wh),(7,0,qaH c.d),(14,0,.mrow (qaI qs))]
abbrev qEv (s:List Pt) (E:List P2) (qs:List Pt) (o:Ck):List (Nat×Nat×SV):=[(10,0,.pv (iV o.tn)),(10,1,.pv (iV o.td)),(10,2,.ls 15 o.s.length),(10,3,.pv (iV o.x)),(10,4,.ls 16 o.l.length),(10,5,.ls 17 o.u.length),(10,6,.ls 18 o.b.length),(10,7,.ls 19 o.fr.length),(10,8,.ls 20 o.ev.length),(10,9,.ls 21 o.wh.length),(10,10,.ls 22 o.d.length),(11,0,.ls 8 s.length),(12,0,.pv (iV 0)),(12,1,.pv (iV 0)),(12,2,.pv (.slice none 0 0)),(12,3,.pv (iV 0)),(12,4,.pv (.slice none 0 0)),(12,5,.pv (.slice none 0 0)),(12,6,.pv (.slice none 0 0)),(12,7,.pv (.slice none 0 0)),(12,8,.pv (.slice none 0 0)),(12,9,.pv (.slice none 0 0)),(12,10,.pv (.slice none 0 0)),(8,0,qaf s),(9,0,qdH E),(15,0,qaf o.s),(16,0,qak o.l),(17,0,zrI o.u),(18,0,zrB o.b),(19,0,zrI o.fr),(20,0,qap o.ev),(21,0,zrI o.wh),(22,0,qaH o.d),(14,0,.mrow (qaI qs))]
abbrev rbT (n k:Nat):List (Nat×SV):=[(3,.pp 10 0),(6,.pp 12 0),(9,.mp 14),(57,.ls 9 n),(58,.pv (iV (n:Int))),(59,.pv (iV (k:Int)))]
abbrev rbO (E:List P2) (qs:List Pt) (c:Ck):List (Nat×Nat×SV):=[(10,0,.pv (iV c.tn)),(10,1,.pv (iV c.td)),(10,2,.ls 0 c.s.length),(10,3,.pv (iV c.x)),(10,4,.ls 1 c.l.length),(10,5,.ls 2 c.u.length),(10,6,.ls 3 c.b.length),(10,7,.ls 4 c.fr.length),(10,8,.ls 5 c.ev.length),(10,9,.ls 6 c.wh.length),(10,10,.ls 7 c.d.length),(12,0,.pv (iV 0)),(12,1,.pv (iV 0)),(12,2,.pv (.slice none 0 0)),(12,3,.pv (iV 0)),(12,4,.pv (.slice none 0 0)),(12,5,.pv (.slice none 0 0)),(12,6,.pv (.slice none 0 0)),(12,7,.pv (.slice none 0 0)),(12,8,.pv (.slice none 0 0)),(12,9,.pv (.slice none 0 0)),(12,10,.pv (.slice none 0 0)),(0,0,qaf c.s),(1,0,qak c.l),(2,0,zrI c.u),(3,0,zrB c.b),(4,0,zrI c.fr),(5,0,qap c.ev),(6,0,zrI c.wh),(7,0,qaH c.d),(14,0,.mrow (qaI qs)),(9,0,qdH E)]
abbrev rbN (E:List P2) (qs:List Pt) (o:Ck):List (Nat×Nat×SV):=[(10,0,.pv (iV o.tn)),(10,1,.pv (iV o.td)),(10,2,.ls 15 o.s.length),(10,3,.pv (iV o.x)),(10,4,.ls 16 o.l.length),(10,5,.ls 17 o.u.length),(10,6,.ls 18 o.b.length),(10,7,.ls 19 o.fr.length),(10,8,.ls 20 o.ev.length),(10,9,.ls 21 o.wh.length),(10,10,.ls 22 o.d.length),(12,0,.pv (iV 0)),(12,1,.pv (iV 0)),(12,2,.pv (.slice none 0 0)),(12,3,.pv (iV 0)),(12,4,.pv (.slice none 0 0)),(12,5,.pv (.slice none 0 0)),(12,6,.pv (.slice none 0 0)),(12,7,.pv (.slice none 0 0)),(12,8,.pv (.slice none 0 0)),(12,9,.pv (.slice none 0 0)),(12,10,.pv (.slice none 0 0)),(15,0,qaf o.s),(16,0,qak o.l),(17,0,zrI o.u),(18,0,zrB o.b),(19,0,zrI o.fr),(20,0,qap o.ev),(21,0,zrI o.wh),(22,0,qaH o.d),(14,0,.mrow (qaI qs)),(9,0,qdH E)]
abbrev qGC (c:Ck):List (Nat×Nat×SV):=[(10,0,.pv (iV c.tn)),(10,1,.pv (iV c.td)),(10,2,.ls 0 c.s.length),(10,3,.pv (iV c.x)),(10,4,.ls 1 c.l.length),(10,5,.ls 2 c.u.length),(10,6,.ls 3 c.b.length),(10,7,.ls 4 c.fr.length),(10,8,.ls 5 c.ev.length),(10,9,.ls 6 c.wh.length),(10,10,.ls 7 c.d.length),(12,0,.pv (iV 0)),(12,1,.pv (iV 0)),(12,2,.pv (.slice none 0 0)),(12,3,.pv (iV 0)),(12,4,.pv (.slice none 0 0)),(12,5,.pv (.slice none 0 0)),(12,6,.pv (.slice none 0 0)),(12,7,.pv (.slice none 0 0)),(12,8,.pv (.slice none 0 0)),(12,9,.pv (.slice none 0 0)),(12,10,.pv (.slice none 0 0)),(0,0,qaf c.s),(1,0,qak c.l),(2,0,zrI c.u),(3,0,zrB c.b),(4,0,zrI c.fr),(5,0,qap c.ev),(6,0,zrI c.wh),(7,0,qaH c.d)]
abbrev qya (o:Ck):List (Nat×Nat×SV):=[(10,0,.pv (iV o.tn)),(10,1,.pv (iV o.td)),(10,2,.ls 15 o.s.length),(10,3,.pv (iV o.x)),(10,4,.ls 16 o.l.length),(10,5,.ls 17 o.u.length),(10,6,.ls 18 o.b.length),(10,7,.ls 19 o.fr.length),(10,8,.ls 20 o.ev.length),(10,9,.ls 21 o.wh.length),(10,10,.ls 22 o.d.length),(12,0,.pv (iV 0)),(12,1,.pv (iV 0)),(12,2,.pv (.slice none 0 0)),(12,3,.pv (iV 0)),(12,4,.pv (.slice none 0 0)),(12,5,.pv (.slice none 0 0)),(12,6,.pv (.slice none 0 0)),(12,7,.pv (.slice none 0 0)),(12,8,.pv (.slice none 0 0)),(12,9,.pv (.slice none 0 0)),(12,10,.pv (.slice none 0 0)),(15,0,qaf o.s),(16,0,qak o.l),(17,0,zrI o.u),(18,0,zrB o.b),(19,0,zrI o.fr),(20,0,qap o.ev),(21,0,zrI o.wh),(22,0,qaH o.d)]
abbrev qqb:List (Nat×SV):=[(3,.pp 10 0),(6,.pp 12 0)]
abbrev qna:List (Nat×SV):=[(6,.pp 12 0),(7,.pv (iV 18))]
abbrev qnb:List (Nat×Nat×SV):=[(12,0,.pv (iV 0)),(12,1,.pv (iV 0)),(12,2,.pv (.slice none 0 0)),(12,3,.pv (iV 0)),(12,4,.pv (.slice none 0 0)),(12,5,.pv (.slice none 0 0)),(12,6,.pv (.slice none 0 0)),(12,7,.pv (.slice none 0 0)),(12,8,.pv (.slice none 0 0)),(12,9,.pv (.slice none 0 0)),(12,10,.pv (.slice none 0 0))]
abbrev qaT (m k:Nat):List (Nat×SV):=[(2,.ls 9 m),(3,.pp 10 0),(4,.pp 11 0),(6,.pp 12 0),(8,.pp 21 0),(9,.pv (iV (k:Int)))]
abbrev qaN (c:Ck) (s:List Pt) (E:List P2) (o:Ck):List (Nat×Nat×SV):=[(21,0,.pv (iV o.tn)),(21,1,.pv (iV o.td)),(21,2,.ls 13 o.s.length),(21,3,.pv (iV o.x)),(21,4,.ls 14 o.l.length),(21,5,.ls 15 o.u.length),(21,6,.ls 16 o.b.length),(21,7,.ls 17 o.fr.length),(21,8,.ls 18 o.ev.length),(21,9,.ls 19 o.wh.length),(21,10,.ls 20 o.d.length),(10,0,.pv (iV c.tn)),(10,1,.pv (iV c.td)),(10,2,.ls 0 c.s.length),(10,3,.pv (iV c.x)),(10,4,.ls 1 c.l.length),(10,5,.ls 2 c.u.length),(10,6,.ls 3 c.b.length),(10,7,.ls 4 c.fr.length),(10,8,.ls 5 c.ev.length),(10,9,.ls 6 c.wh.length),(10,10,.ls 7 c.d.length),(11,0,.ls 8 s.length),(12,0,.pv (iV 0)),(12,1,.pv (iV 0)),(12,2,.pv (.slice none 0 0)),(12,3,.pv (iV 0)),(12,4,.pv (.slice none 0 0)),(12,5,.pv (.slice none 0 0)),(12,6,.pv (.slice none 0 0)),(12,7,.pv (.slice none 0 0)),(12,8,.pv (.slice none 0 0)),(12,9,.pv (.slice none 0 0)),(12,10,.pv (.slice none 0 0)),(8,0,qaf s),(9,0,qdH E),(13,0,qaf o.s),(14,0,qak o.l),(15,0,zrI o.u),(16,0,zrB o.b),(17,0,zrI o.fr),(18,0,qap o.ev),(19,0,zrI o.wh),(20,0,qaH o.d),(1,0,qak c.l)]
abbrev qH0 (m:Nat):List (Nat×SV):=[(2,.ls 9 m),(4,.pp 11 0),(6,.pp 12 0),(8,.pp 21 0)]
abbrev qGp (s:List Pt) (E:List P2) (o:Ck):List (Nat×Nat×SV):=[(21,0,.pv (iV o.tn)),(21,1,.pv (iV o.td)),(21,2,.ls 13 o.s.length),(21,3,.pv (iV o.x)),(21,4,.ls 14 o.l.length),(21,5,.ls 15 o.u.length),(21,6,.ls 16 o.b.length),(21,7,.ls 17 o.fr.length),(21,8,.ls 18 o.ev.length),(21,9,.ls 19 o.wh.length),(21,10,.ls 20 o.d.length),(11,0,.ls 8 s.length),(12,0,.pv (iV 0)),(12,1,.pv (iV 0)),(12,2,.pv (.slice none 0 0)),(12,3,.pv (iV 0)),(12,4,.pv (.slice none 0 0)),(12,5,.pv (.slice none 0 0)),(12,6,.pv (.slice none 0 0)),(12,7,.pv (.slice none 0 0)),(12,8,.pv (.slice none 0 0)),(12,9,.pv (.slice none 0 0)),(12,10,.pv (.slice none 0 0)),(8,0,qaf s),(9,0,qdH E),(13,0,qaf o.s),(14,0,qak o.l),(15,0,zrI o.u),(16,0,zrB o.b),(17,0,zrI o.fr),(18,0,qap o.ev),(19,0,zrI o.wh),(20,0,qaH o.d)]
abbrev qbT (m k:Nat):List (Nat×SV):=[(2,.ls 9 m),(6,.pp 12 0),(8,.pp 21 0),(12,.pv (iV (k:Int)))]
abbrev qbN (E:List P2) (o:Ck):List (Nat×Nat×SV):=[(21,0,.pv (iV o.tn)),(21,1,.pv (iV o.td)),(21,2,.ls 13 o.s.length),(21,3,.pv (iV o.x)),(21,4,.ls 14 o.l.length),(21,5,.ls 15 o.u.length),(21,6,.ls 16 o.b.length),(21,7,.ls 17 o.fr.length),(21,8,.ls 18 o.ev.length),(21,9,.ls 19 o.wh.length),(21,10,.ls 20 o.d.length),(12,0,.pv (iV 0)),(12,1,.pv (iV 0)),(12,2,.pv (.slice none 0 0)),(12,3,.pv (iV 0)),(12,4,.pv (.slice none 0 0)),(12,5,.pv (.slice none 0 0)),(12,6,.pv (.slice none 0 0)),(12,7,.pv (.slice none 0 0)),(12,8,.pv (.slice none 0 0)),(12,9,.pv (.slice none 0 0)),(12,10,.pv (.slice none 0 0)),(13,0,qaf o.s),(14,0,qak o.l),(15,0,zrI o.u),(16,0,zrB o.b),(17,0,zrI o.fr),(18,0,qap o.ev),(19,0,zrI o.wh),(20,0,qaH o.d),(9,0,qdH E)]
abbrev qEo:List (Nat×SV):=[(6,.pp 12 0),(8,.pp 21 0)]
abbrev qE4 (o:Ck):List (Nat×Nat×SV):=[(21,0,.pv (iV o.tn)),(21,1,.pv (iV o.td)),(21,2,.ls 13 o.s.length),(21,3,.pv (iV o.x)),(21,4,.ls 14 o.l.length),(21,5,.ls 15 o.u.length),(21,6,.ls 16 o.b.length),(21,7,.ls 17 o.fr.length),(21,8,.ls 18 o.ev.length),(21,9,.ls 19 o.wh.length),(21,10,.ls 20 o.d.length),(12,0,.pv (iV 0)),(12,1,.pv (iV 0)),(12,2,.pv (.slice none 0 0)),(12,3,.pv (iV 0)),(12,4,.pv (.slice none 0 0)),(12,5,.pv (.slice none 0 0)),(12,6,.pv (.slice none 0 0)),(12,7,.pv (.slice none 0 0)),(12,8,.pv (.slice none 0 0)),(12,9,.pv (.slice none 0 0)),(12,10,.pv (.slice none 0 0)),(13,0,qaf o.s),(14,0,qak o.l),(15,0,zrI o.u),(16,0,zrB o.b),(17,0,zrI o.fr),(18,0,qap o.ev),(19,0,zrI o.wh),(20,0,qaH o.d)]
abbrev qmd (f:FuncId) (c:Ck) (s:List Pt) (E:List P2) (e:Int):Prop:=Fn f 10 [qar c,qaq 8 s,.ls 9 E.length] (qaA c++[(8,0,qaf s),(9,0,qdH E)]) (.pv (.tuple #[qbt,iV e])) 0 []
abbrev qHs (f:FuncId) (c:Ck) (s:List Pt) (E:List P2):Prop:=Fn f 10 [qar c,qaq 8 s,.ls 9 E.length] (qaA c++[(8,0,qaf s),(9,0,qdH E)]) (.tu [.ag [.pv (iV c.tn),.pv (iV c.td),.ls 0 c.s.length,.pv (iV c.x),.ls 1 c.l.length,.ls 2 c.u.length,.ls 3 c.b.length,.ls 4 c.fr.length,.ls 5 c.ev.length,.ls 6 c.wh.length,.ls 7 c.d.length],.one (.pv (iV 0))]) 0 []
abbrev qtE (f:FuncId) (c:Ck) (s:List Pt) (E:List P2) (o:Ck):Prop:=Fn f 10 [qar c,qaq 8 s,.ls 9 E.length] (qaA c++[(8,0,qaf s),(9,0,qdH E)]) (.tu [.ag [.pv (iV o.tn),.pv (iV o.td),.ls 10 o.s.length,.pv (iV o.x),.ls 11 o.l.length,.ls 12 o.u.length,.ls 13 o.b.length,.ls 14 o.fr.length,.ls 15 o.ev.length,.ls 16 o.wh.length,.ls 17 o.d.length],.one (.pv (iV 0))]) 8 [(10,0,qaf o.s),(11,0,qak o.l),(12,0,zrI o.u),(13,0,zrB o.b),(14,0,zrI o.fr),(15,0,qap o.ev),(16,0,zrI o.wh),(17,0,qaH o.d)]
abbrev yu (a:List P2) (b:List Pt) (c:Ck):Prop:=Rl 10 10 52 1 79 31 (rbT a.length (0:Nat)) (rbN a b c) (.ret) (qna) (qnb)
abbrev yv (a:List P2) (b:List Pt) (c d:Ck):Prop:=Rl 10 10 52 1 79 31 (rbT a.length (0:Nat)) (rbN a b c) (.exit 2) (qqb) (qya d)
end Go.Proofs.YtkckcgpmnipnaaaGreat

namespace Go.Proofs.YtkckcgpmnipnaaaGreat
set_option maxRecDepth 100000
open Go.RowKit
variable {n:Int} {c:Ck} {p:Pt} {k:Nat}
theorem wn9 {s:List Pt} {q g:Pt} {i j:Nat} {a b tn td z:Int} {w:Bool} (hg:s[i]?=some g) (hq:s[j]?=some q) (hi:Bd i s.length) (hj:Bd j s.length) (ha:Fn 61 1 [qaq 0 s,.pv (iV (b))] [(0,0,qaf s)] (.pv (iV (i:Int))) 0 []) (hb:Fn 61 1 [qaq 0 s,.pv (iV (a))] [(0,0,qaf s)] (.pv (iV (j:Int))) 0 []) (hl:Pure Tryz.prog 188 #[ptV g,ptV q,qab tn td] (.tuple #[qab n z,.bool w])) :
 Fn 124 1 [qaq 0 s,.pv (qae a b),.pv (qab tn td)] [(0,0,qaf s)] (.pv (.tuple #[qab n z,.bool w])) 0 []:=
 Fz [] [Cf ha [0],.r (ptV g),Cf hb [0],.r (ptV q),Rf hl]
  tI (Co ha [0] 5 (A2 hi (qaB hg) (Co hb [0] 5 (A3 hj (qaB hq) hl tI))))
theorem qkI (hk:c.d[k]?=some p) (hin:0≤(k:Int)∧(k:Int)<(c.d.length:Int)) (hlt:decide ((k:Int)<(c.d.length:Int))=true) (he:(p.id==n)=false) (hs:iV (IntKind.i64.wrap ((k:Int)+1))=iV (((k+1:Nat):Int))) {e:Exit} {tm2:TmL} {hp2:HpL}
 (r:Rl 8 8 84 0 22 9 ([(1,.pv (iV n)),(2,.pp 8 0),(5,.pv (iV ((k+1:Nat):Int)))]) (qcb 8 c) e tm2 hp2):Rl 8 8 84 0 22 9 ([(1,.pv (iV n)),(2,.pp 8 0),(5,.pv (iV (k:Int)))]) (qcb 8 c) e tm2 hp2:=
 RunsL.next [] 300 [.t true,.r (iV p.id),.t false,Re hs]
  (Ro (A5 hlt hin (qiT hk) he hs tI)) r
theorem qv8 (hk:c.d[k]?=some p) (hin:0≤(k:Int)∧(k:Int)<(c.d.length:Int)) (hlt:decide ((k:Int)<(c.d.length:Int))=true) (he:(p.id==n)=true):Rl 8 8 84 0 22 9 ([(1,.pv (iV n)),(2,.pp 8 0),(5,.pv (iV (k:Int)))]) (qcb 8 c) (.ret) ([(4,.pv (iV (k:Int)))]) ([]):=
 RunsL.stop [] 300 [.t true,.r (iV p.id),.t true] (fun h=>by cases h)
  (Ro (A4 hlt hin (qiT hk) he tI))
theorem qvv (hge:decide ((k:Int)<(c.d.length:Int))=false):Rl 8 8 84 0 22 9 ([(1,.pv (iV n)),(2,.pp 8 0),(5,.pv (iV (k:Int)))]) (qcb 8 c) (.exit 0) ([]) ([]):=
 RunsL.stop [] 300 [.t false] (fun h=>by cases h)
  (Ro (Ai hge tI))
theorem qAB (r0:Rl 8 8 84 0 22 9 ([(1,.pv (iV n)),(2,.pp 8 0),(5,.pv (iV ((0:Nat):Int)))]) (qcb 8 c) (.exit 0) ([]) ([])) :
 Fn 84 8 [qar c,.pv (iV (n))] (qaA c) (.pv (iV (-1))) 0 []:=
 Fz [] [Lf r0]
  tI (Lo r0 [] tI)
theorem qvk (r0:Rl 8 8 84 0 22 9 ([(1,.pv (iV n)),(2,.pp 8 0),(5,.pv (iV ((0:Nat):Int)))]) (qcb 8 c) (.ret) ([(4,.pv (iV (k:Int)))]) ([])) :
 Fn 84 8 [qar c,.pv (iV (n))] (qaA c) (.pv (iV (k:Int))) 0 []:=
 Fz [] [Lf r0]
  tI (Lo r0 [] tI)
theorem qHG (g1:Dt ((c.l.length:Int)>40)) :
 Fn 28 8 [qar c] (qaA c) (.pv (.bool true)) 0 []:=
 Fz [] [.t true]
  tI (Ai g1 tI)
theorem qF5 (g1:Df ((c.l.length:Int)>40)) (g2:decide ((c.d.length:Int)>40)=true) :
 Fn 28 8 [qar c] (qaA c) (.pv (.bool true)) 0 []:=
 Fz [] [.t false,.t true]
  tI (A2 g1 g2 tI)
theorem qGa (g1:Df ((c.l.length:Int)>40)) (g2:Df ((c.d.length:Int)>40)) (hf:Fn 10 1 [qaq 0 c.s] [(0,0,qaf c.s)] (.pv (.bool true)) 0 []) :
 Fn 28 8 [qar c] (qaA c) (.pv (.bool true)) 0 []:=
 Fz [] [.t false,.t false,Cf hf [0]]
  tI (A2 g1 g2 (Co hf [0] 9 tI))
theorem qHZ (g1:Df ((c.l.length:Int)>40)) (g2:Df ((c.d.length:Int)>40)) (hf:Fn 10 1 [qaq 0 c.s] [(0,0,qaf c.s)] (.pv (.bool false)) 0 []) (hg:Fn 69 5 [agA c.u c.b c.fr c.ev c.wh] (yf c) (.pv (.bool true)) 0 []) :
 Fn 28 8 [qar c] (qaA c) (.pv (.bool true)) 0 []:=
 Fz [] [.t false,.t false,Cf hf [0],Cf hg [2,3,4,5,6]]
  tI (A2 g1 g2 (Co hf [0] 9 (Co hg [2,3,4,5,6] 9 tI)))
theorem qBK (g1:Df ((c.l.length:Int)>40)) (g2:Df ((c.d.length:Int)>40)) (hf:Fn 10 1 [qaq 0 c.s] [(0,0,qaf c.s)] (.pv (.bool false)) 0 []) (hg:Fn 69 5 [agA c.u c.b c.fr c.ev c.wh] (yf c) (.pv (.bool false)) 0 []) :
 Fn 28 8 [qar c] (qaA c) (.pv (.bool false)) 0 []:=
 Fz [] [.t false,.t false,Cf hf [0],Cf hg [2,3,4,5,6]]
  tI (A2 g1 g2 (Co hf [0] 9 (Co hg [2,3,4,5,6] 9 tI)))
end Go.Proofs.YtkckcgpmnipnaaaGreat

namespace Go.Proofs.YtkckcgpmnipnaaaGreat
set_option maxRecDepth 100000
open Go.ChangeShapes Go.WideShapes Go.ChangeAt Go.RowKit Go.Joins Go.Deep
theorem qDz:Tryz.prog.cellsOf 134=3:=by kernel_rfl
theorem qu2:Tryz.prog.cellsOf 37=1:=by kernel_rfl
theorem qBV:Tryz.prog.cellsOf 24=1:=by kernel_rfl
theorem qDg:Tryz.prog.cellsOf 22=1:=by kernel_rfl
theorem qq0:Tryz.prog.cellsOf 39=11:=by kernel_rfl
theorem qxj:Tryz.prog.readableRec 39=true:=by kernel_rfl
theorem qDB:39<Tryz.prog.types.size:=of_decide_eq_true (by kernel_rfl)
section
variable {H:Type} {enc:TypeId×Value→H} {W:World} {base:Nat} {spare:Nat→Bool} {held:Bool}
theorem qiE {P:Program} {t:TypeId} {f0 f1 f2 f3 f4:Field} {fuel:Nat} {cs:List Value} {x:DataW H×List MemPlace} (ht:P.underlying t=some (.struct #[f0,f1,f2,f3,f4])) (h:DataW.trod enc P W base spare held fuel t cs=some x) :
 ∃ y0 y1 y2 y3 y4 n,cs.length=P.cellsOf t∧DataW.trod enc P W base spare held n f0.type ((cs.drop f0.offset).take (P.cellsOf f0.type))=some y0∧DataW.trod enc P W base spare held n f1.type ((cs.drop f1.offset).take (P.cellsOf f1.type))=some y1∧
  DataW.trod enc P W base spare held n f2.type ((cs.drop f2.offset).take (P.cellsOf f2.type))=some y2∧DataW.trod enc P W base spare held n f3.type ((cs.drop f3.offset).take (P.cellsOf f3.type))=some y3∧DataW.trod enc P W base spare held n f4.type ((cs.drop f4.offset).take (P.cellsOf f4.type))=some y4:=by
 obtain⟨xs,n,_,rfl,hl,hlen,hf⟩:=DataW.trod_struct ht h
 match xs,hlen with
 | [y0,y1,y2,y3,y4],_=>exact⟨y0,y1,y2,y3,y4,n,hl,by simpa using hf 0 f0 rfl,by simpa using hf 1 f1 rfl,by simpa using hf 2 f2 rfl,by simpa using hf 3 f3 rfl,by simpa using hf 4 f4 rfl⟩
theorem qnu {fuel:Nat} {cs:List Value} {x:DataW H×List MemPlace} (h:DataW.trod enc Tryz.prog W base spare held fuel 37 cs=some x) :
 ∃ (u:Value) (l:List Pt),cs=[u]∧Rd W 3 u l.length (qbs l):=by
 rcases open_slice Tryz.underlying37 h with ⟨rfl,_⟩ | ⟨a,len,cap,m,n,D,Pl,rfl,_,hlc,_,hm,_,hi⟩
 ·exact⟨_,[],rfl,⟨rfl,none,0,rfl,Nat.le_refl _,fun j v hv=>by simp[qbs] at hv⟩⟩
 have hlm:len≤m:=by rw[hm];split<;>omega
 have each:∀ i,i<len→∃ p:Pt,W.cell? (a.add (i*3))=some (iV p.id)∧W.cell? (a.add (i*3+1))=some (iV p.a)∧W.cell? (a.add (i*3+2))=some (iV p.b):=by
  intro i hil;obtain⟨cs',hc,ht⟩:=hi i (by omega);rw[qDz] at hc;obtain⟨y0,y1,n',_,hlen,t0,t1⟩:=trod_struct2 Tryz.underlying134 ht;obtain⟨z0,z1,n2,_,hlen2,s0,s1⟩:=trod_struct2 Tryz.underlying59 t1;obtain⟨_,hcl,hat⟩:=World.cells?_some hc
  match cs',hcl with
  | [c0,c1,c2],_=>
   obtain⟨pi,e0,_,w0⟩:=DataW.trod_int Tryz.underlying3 t0;obtain⟨pa,e1,_,w1⟩:=DataW.trod_int Tryz.underlying3 s0;obtain⟨pb,e2,_,w2⟩:=DataW.trod_int Tryz.underlying3 s1;simp[qBC,qBh] at e0 e1 e2;refine⟨⟨pi,pa,pb⟩,?_,?_,?_⟩
   ·have:=hat 0 (by omega);rw[add_add] at this;simpa [e0] using this
   ·have:=hat 1 (by omega);rw[add_add] at this;simpa [e1] using this
   ·have:=hat 2 (by omega);rw[add_add] at this;simpa [e2] using this
 haveI:Inhabited Pt:=⟨⟨0,0,0⟩⟩
 obtain⟨f,hf⟩:=choose_lt (α:=Pt) each;refine⟨_,(List.range len).map f,rfl,⟨qbf _,some a,cap,by simp,by simpa using hlc,fun j v hv=>?_⟩⟩;obtain⟨hk,he⟩:=qpC f len j v hv;obtain⟨c0,c1,c2⟩:=hf _ hk
 have hcell:W.cell? (a.add j)=some v:=by
  have h3:j%3=0∨j%3=1∨j%3=2:=by omega
  have e:j=j/3*3+j%3:=by omega
  rcases h3 with e3 | e3 | e3<;>rw[e3] at he e<;>rw[e]<;>simp at he<;>subst he
  ·exact c0
  ·exact c1
  ·exact c2
 obtain⟨b,off,spot⟩:=a
 have hs:spot=none:=by simpa [Addr.add] using World.cell?_spot (hf 0 (by omega)).1
 subst hs;exact⟨b,off,rfl,by rw[← Go.WideShapes.add_plain];exact hcell⟩
abbrev ckR (c:Ck):List (TypeId×Nat×Nat×List Value):=[(137,3,c.s.length,qbs c.s),(171,3,c.l.length,qbs c.l),(3,1,c.u.length,ziV c.u),(4,1,c.b.length,zbV c.b),(3,1,c.fr.length,ziV c.fr),(61,5,c.ev.length,qau c.ev),(3,1,c.wh.length,ziV c.wh),(134,3,c.d.length,qbs c.d)]
theorem qlJ {r:Reach} {b0:Nat} {v:Value} {d:DataW H} {p:List MemPlace} (hv:Value.okWide Tryz.prog W r b0 39 v) (h:DataW.Trod enc Tryz.prog W base spare held 39 v d p) :
 ∃ (c:Ck) (u0 u1 u2 u3 u4 u5 u6 u7:Value),v=.agg #[iV c.tn,iV c.td,u0,iV c.x,u1,u2,u3,u4,u5,u6,u7]∧ZIns W [u0,u1,u2,u3,u4,u5,u6,u7] (ckR c)∧I64 c.tn∧I64 c.td∧∀ y∈c.ev,EvI y:=by
 obtain⟨cs,rfl,hsz⟩:=okWide_struct Tryz.underlying39 hv;obtain⟨fuel,hf⟩:=h;obtain⟨y0,y1,y2,y3,y4,n,hlen,h0,h1,h2,h3,h4⟩:=qiE Tryz.underlying39 hf;obtain⟨z0,z1,n1,_,_,a0,a1⟩:=trod_struct2 Tryz.underlying26 h0;obtain⟨tn,e0,_,w0⟩:=DataW.trod_int Tryz.underlying2 a0;obtain⟨td,e1,_,w1⟩:=DataW.trod_int Tryz.underlying2 a1;obtain⟨z2,n2,_,_,b0⟩:=trod_struct1 Tryz.underlying24 h1;obtain⟨u0,s,c0,r0,_⟩:=qlu b0;obtain⟨z3,z4,n3,_,_,d0,d1⟩:=trod_struct2 Tryz.underlying29 h2;obtain⟨x,e2,_,_⟩:=DataW.trod_int Tryz.underlying3 d0;obtain⟨u1,l,c1,r1⟩:=qpV d1;obtain⟨z5,z6,z7,n4,_,_,k0,k1,k2⟩:=trod_struct3 Tryz.underlying36 h3;obtain⟨x0,x1,x2,n5,_,_,g0,g1,g2⟩:=trod_struct3 Tryz.underlying33 k0;obtain⟨u2,lu,c2,r2,_⟩:=qeq g0;obtain⟨u3,lb,c3,r3⟩:=qjL g1;obtain⟨u4,lf,c4,r4,_⟩:=qeq g2;obtain⟨u5,le,c5,r5,w5⟩:=qsg k1;obtain⟨u6,lw,c6,r6,_⟩:=qeq k2;obtain⟨u7,ld,c7,r7⟩:=qnu h4;refine⟨⟨tn,td,s,x,l,lu,lb,lf,le,lw,ld⟩,u0,u1,u2,u3,u4,u5,u6,u7,?_,.cons r0 (qfE s) (.cons r1 (qfE l) (.cons r2 (qlf lu) (.cons r3 (qC7 lb) (.cons r4 (qlf lf) (.cons r5 (qng le) (.cons r6 (qlf lw) (.cons r7 (qfE ld) .nil))))))),qEK w0,qEK w1,w5⟩;rw[qBV,qDg] at c0;rw[qyE,qk3] at c1;rw[qBC,qk3] at e2;rw[qui,qB3] at e0 e1;rw[qG2] at c2 c4 c6;rw[qGs] at c3;rw[qGm] at c5;rw[qGN] at c2 c3 c4;rw[qFr] at c2 c3 c4 c5 c6;rw[qu2] at c7;have hs:cs.size=11:=hsz.trans qq0;obtain⟨L⟩:=cs
 match L,hs with
 | [v0,v1,v2,v3,v4,v5,v6,v7,v8,v9,v10],_=>
  simp[Value.cells] at c0 c1 c2 c3 c4 c5 c6 c7 e0 e1 e2;rw[c0,c1,c2,c3,c4,c5,c6,c7,e0,e1,e2]
end
theorem ZIns.snoc {W:World} {us:List Value} {rs:List (TypeId×Nat×Nat×List Value)} (h:ZIns W us rs) {u:Value} {e:TypeId} {es n:Nat} {xs:List Value} (h1:Rd W es u n xs) (h2:∀ v∈xs,v.oneCell'=true):ZIns W (us++[u]) (rs++[(e,es,n,xs)]):=by
 induction h with
 | nil=>exact .cons h1 h2 .nil
 | cons a b _ ih=>exact .cons a b ih
end Go.Proofs.YtkckcgpmnipnaaaGreat
