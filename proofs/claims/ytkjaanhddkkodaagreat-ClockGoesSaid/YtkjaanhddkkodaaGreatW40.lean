/-
  Joined: Vj, Vk, Vl, Vo, Lb, Lc. Conditions: none.
-/
import Derived.Test.YtkjaanhddkkodaaGreatW39
import Derived.Test.YtkjaanhddkkodaaGreatYo
import Derived.Test.YtkjaanhddkkodaaGreatW18
import Derived.Test.YtkjaanhddkkodaaGreatW27
import Derived.Test.YtkjaanhddkkodaaGreatW26
import Derived.Test.YtkjaanhddkkodaaGreatSxP
namespace Go.Proofs.YtkjaanhddkkodaaGreat
set_option maxRecDepth 100000
open Go.RowKit
theorem qgE {i:Nat} (h:1≤i) (hk:i≤1000000):iV (IntKind.i64.wrap ((i:Int)-1))=iV ((i-1:Nat):Int):=by
 rw[show (i:Int)-1=((i-1:Nat):Int) by omega];exact qa3 (by omega) (by omega)
theorem qgH {i:Nat} (hk:i≤1000000):iV (IntKind.i64.wrap (Int.tdiv ((i-1:Nat):Int) 2))=iV (((i-1)/2:Nat):Int):=by
 have e:Int.tdiv ((i-1:Nat):Int) 2=(((i-1)/2:Nat):Int):=by rw[Int.tdiv_eq_ediv_of_nonneg (by omega)];omega
 rw[e]
 exact qa3 (by omega) (by omega)
theorem qdD {i:Nat} (h:i≤1000000):iV (IntKind.i64.wrap (2*(i:Int)))=iV ((2*i:Nat):Int):=by rw[show 2*(i:Int)=((2*i:Nat):Int) by omega];exact qa3 (by omega) (by omega)
theorem qdZ {i:Nat} (h:i≤1000000):iV (IntKind.i64.wrap (((2*i:Nat):Int)+1))=iV ((2*i+1:Nat):Int):=by rw[show ((2*i:Nat):Int)+1=((2*i+1:Nat):Int) by omega];exact qa3 (by omega) (by omega)
theorem qeR {i:Nat} (h:i≤1000000):iV (IntKind.i64.wrap (((2*i+1:Nat):Int)+1))=iV ((2*i+2:Nat):Int):=by rw[show ((2*i+1:Nat):Int)+1=((2*i+2:Nat):Int) by omega];exact qa3 (by omega) (by omega)
theorem qpo {ev:List Ev} {n i j:Nat} {x y:Ev} (l:ev.length=n) (hi:i<n) (hj:j<n) (h:i≠j):((ev.set i y).set j x)[i]?=some y:=by
 rw[List.getElem?_set,if_neg (fun e=>h e.symm),List.getElem?_set,if_pos rfl,if_pos (by omega)]
theorem qpq {ev:List Ev} {n i j:Nat} {x y:Ev} (l:ev.length=n) (hi:i<n) (hj:j<n) (h:i≠j):((ev.set i y).set j x)[j]?=some x:=by
 rw[List.getElem?_set,if_pos rfl,if_pos (by rw[List.length_set];omega)]
theorem qgt {ev:List Ev} {i:Nat} {x y:Ev} (ok:∀ x∈ev,EvOk x) (hl:qaw ev i≠i) (hx:ev[i]?=some x) (hy:ev[qaw ev i]?=some y) :
 ltE y x=true∧((qaw ev i=2*i+1∧∀ b,ev[2*i+2]?=some b→ltE b y=false)∨(qaw ev i=2*i+2∧∃ m,ev[2*i+1]?=some m∧ltE y m=true)):=by
 have ox:=ok x (List.mem_of_getElem? hx)
 have oy:=ok y (List.mem_of_getElem? hy)
 have sp:=fun c hc z hz=>qcr ok (i:=i) (c:=c) hc z y hz hy
 have hA:(qbi ev i=i∧∀ m,ev[2*i+1]?=some m→ltE m x=false)∨(qbi ev i=2*i+1∧∃ m,ev[2*i+1]?=some m∧ltE m x=true):=by
  unfold qbi
  rw[hx]
  cases hm:ev[2*i+1]? with
  | none=>exact .inl ⟨rfl,fun m h=>by cases h⟩
  | some m=>
   cases e:ltE m x
   ·exact .inl ⟨by simp[e],fun m' h=>by cases h;exact e⟩
   ·exact .inr ⟨by simp[e],m,rfl,e⟩
 have hM:(qaw ev i=qbi ev i)∨(qaw ev i=2*i+2∧∃ b w,ev[2*i+2]?=some b∧ev[qbi ev i]?=some w∧ltE b w=true):=by
  unfold qaw
  cases hb:ev[2*i+2]? with
  | none=>exact .inl rfl
  | some b=>
   cases hw:ev[qbi ev i]? with
   | none=>exact .inl rfl
   | some w=>
    cases e:ltE b w
    ·exact .inl (by simp[e])
    ·exact .inr ⟨by simp[e],b,w,rfl,rfl,e⟩
 rcases hM with h | ⟨h,b,w,hb,hw,e⟩
 ·rcases hA with ⟨h1,h2⟩ | ⟨h1,m,h2,h3⟩
  ·exact (hl (h.trans h1)).elim
  ·rw[h,h1,h2] at hy
   cases hy
   exact⟨h3,.inl ⟨h.trans h1,fun b hb=>sp _ (.inr (.inr rfl)) b hb⟩⟩
 ·rw[h,hb] at hy
  cases hy
  rcases hA with ⟨h1,h2⟩ | ⟨h1,m,h2,h3⟩
  ·rw[h1,hx] at hw
   cases hw
   refine⟨e,.inr ⟨h,?_⟩⟩
   have h4:2*i+1<ev.length:=by have:=(List.getElem?_eq_some_iff.1 hb).1;omega
   have hm:ev[2*i+1]?=some (ev[2*i+1]'h4):=List.getElem?_eq_getElem h4
   generalize ev[2*i+1]'h4=m at hm
   refine⟨m,hm,?_⟩
   cases e2:ltE y m with
   | true=>rfl
   | false=>
    have:=qby oy (ok m (List.mem_of_getElem? hm)) ox e2 (h2 m hm)
    rw[e] at this
    cases this
  ·rw[h1,h2] at hw
   cases hw
   exact⟨qBa oy (ok _ (List.mem_of_getElem? h2)) ox e h3,.inr ⟨h,_,h2,e⟩⟩
theorem qCR {u:List Int} {b:List Bool} {fr:List Int} {n mm:Nat} (hn:n≤1000000) (d ii:Nat) (ev:List Ev) (wh:List Int) (a:ii≤d) (c:ii<n) (I:AInv n mm ev wh):Rl 5 15 178 0 32 16 ([(1,.pv (iV (ii:Int))),(2,.pp 15 0)]) ([(15,0,.ls 9 u.length),(15,1,.ls 10 b.length),(15,2,.ls 11 fr.length),(15,3,.ls 12 n),(15,4,.ls 13 mm),(14,0,.ls 9 u.length),(14,1,.ls 10 b.length),(14,2,.ls 11 fr.length),(14,3,.ls 12 n),(14,4,.ls 13 mm),(8,0,.pv (.slice none 0 0)),(8,1,.pv (.slice none 0 0)),(8,2,.pv (.slice none 0 0)),(8,3,.pv (.slice none 0 0)),(8,4,.pv (.slice none 0 0)),(9,0,zrI u),(10,0,zrB b),(11,0,zrI fr),(12,0,.row 62 5 n (qat (ev))),(13,0,.row 3 1 mm (ziV (wh)))]) (.exit 0) [(1,.pv (iV ((upM d ev wh ii).2.2:Int)))] ([(14,0,.ls 9 u.length),(14,1,.ls 10 b.length),(14,2,.ls 11 fr.length),(14,3,.ls 12 n),(14,4,.ls 13 mm),(8,0,.pv (.slice none 0 0)),(8,1,.pv (.slice none 0 0)),(8,2,.pv (.slice none 0 0)),(8,3,.pv (.slice none 0 0)),(8,4,.pv (.slice none 0 0)),(9,0,zrI u),(10,0,zrB b),(11,0,zrI fr),(12,0,.row 62 5 n (qat ((upM d ev wh ii).1))),(13,0,.row 3 1 mm (ziV ((upM d ev wh ii).2.1)))]):=by
 refine (qdP (n:=n) (mm:=mm) (Q:=fun (ii:Nat) ev wh (ii':Nat) ev' wh'=>Rl 5 15 178 0 32 16 ([(1,.pv (iV (ii:Int))),(2,.pp 15 0)]) ([(15,0,.ls 9 u.length),(15,1,.ls 10 b.length),(15,2,.ls 11 fr.length),(15,3,.ls 12 n),(15,4,.ls 13 mm),(14,0,.ls 9 u.length),(14,1,.ls 10 b.length),(14,2,.ls 11 fr.length),(14,3,.ls 12 n),(14,4,.ls 13 mm),(8,0,.pv (.slice none 0 0)),(8,1,.pv (.slice none 0 0)),(8,2,.pv (.slice none 0 0)),(8,3,.pv (.slice none 0 0)),(8,4,.pv (.slice none 0 0)),(9,0,zrI u),(10,0,zrB b),(11,0,zrI fr),(12,0,.row 62 5 n (qat (ev))),(13,0,.row 3 1 mm (ziV (wh)))]) (.exit 0) [(1,.pv (iV (ii':Int)))] ([(14,0,.ls 9 u.length),(14,1,.ls 10 b.length),(14,2,.ls 11 fr.length),(14,3,.ls 12 n),(14,4,.ls 13 mm),(8,0,.pv (.slice none 0 0)),(8,1,.pv (.slice none 0 0)),(8,2,.pv (.slice none 0 0)),(8,3,.pv (.slice none 0 0)),(8,4,.pv (.slice none 0 0)),(9,0,zrI u),(10,0,zrB b),(11,0,zrI fr),(12,0,.row 62 5 n (qat (ev'))),(13,0,.row 3 1 mm (ziV (wh')))])) ?_ ?_ ?_ d ii ev wh a c I).1
 ·intro i ev wh x y i' ev' wh' I h0 hi hx hy hl r
  have ox:=I.ok x (List.mem_of_getElem? hx);have oy:=I.ok y (List.mem_of_getElem? hy);have ix:=I.ix x (List.mem_of_getElem? hx);have iy:=I.ix y (List.mem_of_getElem? hy)
  have l1:=I.len;have l2:=I.wl;have hc:=qaA ox.i oy.i;rw[hl] at hc
  exact qlB (q:=i-1) (j:=(i-1)/2) (x:=x) (y:=y) (n2:=by decide) (hm1:=qgE (by omega) (by omega)) (hm2:=qgH (by omega)) (hin_x:=⟨by omega,by omega⟩) (he_x:=hx) (hin_y:=⟨by omega,by omega⟩) (he_y:=hy) (h0:=decide_eq_true (by omega)) (hl:=hc) (hsa:=by omega) (hsb:=by rw[List.length_set];omega) (h2a:=qpo l1 (by omega) (by omega) (by omega)) (h2b:=qpq l1 (by omega) (by omega) (by omega)) (hwb:=iy) (hwbl:=by omega) (hwa:=ix) (hwal:=by rw[List.length_set];omega) (r:=r)
 ·intro i ev wh x y I h0 hi hx hy hl
  have ox:=I.ok x (List.mem_of_getElem? hx);have oy:=I.ok y (List.mem_of_getElem? hy)
  have hc:=qaA ox.i oy.i;rw[hl] at hc
  exact qmC (q:=i-1) (j:=(i-1)/2) (x:=x) (y:=y) (n2:=by decide) (hm1:=qgE (by omega) (by omega)) (hm2:=qgH (by omega)) (hin_x:=⟨by omega,by omega⟩) (he_x:=hx) (hin_y:=⟨by omega,by omega⟩) (he_y:=hy) (h0:=decide_eq_true (by omega)) (hl:=hc)
 ·intro ev wh I
  exact qmj (k:=0) (decide_eq_false (by omega))
theorem qzG {u:List Int} {b:List Bool} {fr:List Int} {n mm:Nat} (hn:n≤1000000) (d ii:Nat) (ev:List Ev) (wh:List Int) (a:n≤ii+d) (c:ii<n) (I:AInv n mm ev wh):Rl 5 16 181 0 52 17 ([(1,.pv (iV (ii:Int))),(2,.pp 16 0)]) ([(16,0,.ls 9 u.length),(16,1,.ls 10 b.length),(16,2,.ls 11 fr.length),(16,3,.ls 12 n),(16,4,.ls 13 mm),(14,0,.ls 9 u.length),(14,1,.ls 10 b.length),(14,2,.ls 11 fr.length),(14,3,.ls 12 n),(14,4,.ls 13 mm),(8,0,.pv (.slice none 0 0)),(8,1,.pv (.slice none 0 0)),(8,2,.pv (.slice none 0 0)),(8,3,.pv (.slice none 0 0)),(8,4,.pv (.slice none 0 0)),(9,0,zrI u),(10,0,zrB b),(11,0,zrI fr),(12,0,.row 62 5 n (qat (ev))),(13,0,.row 3 1 mm (ziV (wh)))]) .ret [] ([(14,0,.ls 9 u.length),(14,1,.ls 10 b.length),(14,2,.ls 11 fr.length),(14,3,.ls 12 n),(14,4,.ls 13 mm),(8,0,.pv (.slice none 0 0)),(8,1,.pv (.slice none 0 0)),(8,2,.pv (.slice none 0 0)),(8,3,.pv (.slice none 0 0)),(8,4,.pv (.slice none 0 0)),(9,0,zrI u),(10,0,zrB b),(11,0,zrI fr),(12,0,.row 62 5 n (qat ((dnM d ev wh ii).1))),(13,0,.row 3 1 mm (ziV ((dnM d ev wh ii).2)))]):=by
 refine (qfE (n:=n) (mm:=mm) (Q:=fun (ii:Nat) ev wh ev' wh'=>Rl 5 16 181 0 52 17 ([(1,.pv (iV (ii:Int))),(2,.pp 16 0)]) ([(16,0,.ls 9 u.length),(16,1,.ls 10 b.length),(16,2,.ls 11 fr.length),(16,3,.ls 12 n),(16,4,.ls 13 mm),(14,0,.ls 9 u.length),(14,1,.ls 10 b.length),(14,2,.ls 11 fr.length),(14,3,.ls 12 n),(14,4,.ls 13 mm),(8,0,.pv (.slice none 0 0)),(8,1,.pv (.slice none 0 0)),(8,2,.pv (.slice none 0 0)),(8,3,.pv (.slice none 0 0)),(8,4,.pv (.slice none 0 0)),(9,0,zrI u),(10,0,zrB b),(11,0,zrI fr),(12,0,.row 62 5 n (qat (ev))),(13,0,.row 3 1 mm (ziV (wh)))]) .ret [] ([(14,0,.ls 9 u.length),(14,1,.ls 10 b.length),(14,2,.ls 11 fr.length),(14,3,.ls 12 n),(14,4,.ls 13 mm),(8,0,.pv (.slice none 0 0)),(8,1,.pv (.slice none 0 0)),(8,2,.pv (.slice none 0 0)),(8,3,.pv (.slice none 0 0)),(8,4,.pv (.slice none 0 0)),(9,0,zrI u),(10,0,zrB b),(11,0,zrI fr),(12,0,.row 62 5 n (qat (ev'))),(13,0,.row 3 1 mm (ziV (wh')))])) ?_ ?_ d ii ev wh a c I).1
 ·intro i ev wh x y ev' wh' I hi hl hx hy hlt r
  have ix:=I.ix x (List.mem_of_getElem? hx);have iy:=I.ix y (List.mem_of_getElem? hy)
  have ox:=I.ok x (List.mem_of_getElem? hx);have oy:=I.ok y (List.mem_of_getElem? hy)
  have l1:=I.len;have l2:=I.wl
  obtain⟨hyx,⟨hc,hb'⟩ | ⟨hc,m,hm,hbm⟩⟩:=qgt I.ok hl hx hy
  ·rw[hc] at r hy hlt
   have hm:=hy
   have hlx:=qaA oy.i ox.i;rw[hyx] at hlx
   by_cases h2:2*i+2<n
   ·have hb:ev[2*i+2]?=some (ev[2*i+2]'(by omega)):=List.getElem?_eq_getElem (by omega)
    generalize ev[2*i+2]'(by omega)=b at hb
    have ob:=I.ok b (List.mem_of_getElem? hb)
    have hl2:=qaA ob.i oy.i;rw[hb' b hb] at hl2
    exact qfk (q:=2*i) (hq:=qdD (by omega)) (hq1:=qdZ (by omega)) (hge:=decide_eq_false (by omega)) (hq2:=qeR (by omega)) (hin_x:=⟨by omega,by omega⟩) (he_x:=hx) (h2:=decide_eq_true (by omega)) (hin_y:=⟨by omega,by omega⟩) (he_y:=hb) (hin_m:=⟨by omega,by omega⟩) (he_m:=hm) (hl2:=hl2) (hl:=hlx) (hsa:=by omega) (hsb:=by rw[List.length_set];omega) (h2a:=qpo l1 (by omega) (by omega) (by omega)) (h2b:=qpq l1 (by omega) (by omega) (by omega)) (hwb:=iy) (hwbl:=by omega) (hwa:=ix) (hwal:=by rw[List.length_set];omega) (r:=r)
   ·exact qf6 (q:=2*i) (hq:=qdD (by omega)) (hq1:=qdZ (by omega)) (hge:=decide_eq_false (by omega)) (hq2:=qeR (by omega)) (hin_x:=⟨by omega,by omega⟩) (he_x:=hx) (h2:=decide_eq_false (by omega)) (hin_m:=⟨by omega,by omega⟩) (he_m:=hm) (hl:=hlx) (hsa:=by omega) (hsb:=by rw[List.length_set];omega) (h2a:=qpo l1 (by omega) (by omega) (by omega)) (h2b:=qpq l1 (by omega) (by omega) (by omega)) (hwb:=iy) (hwbl:=by omega) (hwa:=ix) (hwal:=by rw[List.length_set];omega) (r:=r)
  ·rw[hc] at r hy hlt
   have hb:=hy
   have hlx:=qaA oy.i ox.i;rw[hyx] at hlx
   have om:=I.ok m (List.mem_of_getElem? hm)
   have hl2:=qaA oy.i om.i;rw[hbm] at hl2
   exact qeW (q:=2*i) (hq:=qdD (by omega)) (hq1:=qdZ (by omega)) (hge:=decide_eq_false (by omega)) (hq2:=qeR (by omega)) (hin_x:=⟨by omega,by omega⟩) (he_x:=hx) (h2:=decide_eq_true (by omega)) (hin_y:=⟨by omega,by omega⟩) (he_y:=hb) (hin_m:=⟨by omega,by omega⟩) (he_m:=hm) (hl2:=hl2) (hl:=hlx) (hsa:=by omega) (hsb:=by rw[List.length_set];omega) (h2a:=qpo l1 (by omega) (by omega) (by omega)) (h2b:=qpq l1 (by omega) (by omega) (by omega)) (hwb:=iy) (hwbl:=by omega) (hwa:=ix) (hwal:=by rw[List.length_set];omega) (r:=r)
 ·intro i ev wh I hi hl
  have l1:=I.len
  obtain⟨x,hx⟩:∃ x,ev[i]?=some x:=⟨_,List.getElem?_eq_getElem (by omega)⟩
  have ox:=I.ok x (List.mem_of_getElem? hx)
  have sp:∀ c,(c=i∨c=2*i+1∨c=2*i+2)→∀ z,ev[c]?=some z→ltE z x=false:=fun c hc z hz=>qcr I.ok hc z x hz (by rw[hl];exact hx)
  by_cases h1:2*i+1<n
  ·have hm:ev[2*i+1]?=some (ev[2*i+1]'(by omega)):=List.getElem?_eq_getElem (by omega)
   generalize ev[2*i+1]'(by omega)=m at hm
   have om:=I.ok m (List.mem_of_getElem? hm)
   have hlm:=qaA om.i ox.i;rw[sp _ (.inr (.inl rfl)) m hm] at hlm
   by_cases h2:2*i+2<n
   ·have hb:ev[2*i+2]?=some (ev[2*i+2]'(by omega)):=List.getElem?_eq_getElem (by omega)
    generalize ev[2*i+2]'(by omega)=b at hb
    have ob:=I.ok b (List.mem_of_getElem? hb)
    have hlb:=qaA ob.i ox.i;rw[sp _ (.inr (.inr rfl)) b hb] at hlb
    have hl2:=qaA ob.i om.i
    cases e:ltE b m<;>rw[e] at hl2
    ·exact qfK (q:=2*i) (hq:=qdD (by omega)) (hq1:=qdZ (by omega)) (hge:=decide_eq_false (by omega)) (hq2:=qeR (by omega)) (hin_x:=⟨by omega,by omega⟩) (he_x:=hx) (h2:=decide_eq_true (by omega)) (hin_y:=⟨by omega,by omega⟩) (he_y:=hb) (hin_m:=⟨by omega,by omega⟩) (he_m:=hm) (hl2:=hl2) (hl:=hlm)
    ·exact qeY (q:=2*i) (hq:=qdD (by omega)) (hq1:=qdZ (by omega)) (hge:=decide_eq_false (by omega)) (hq2:=qeR (by omega)) (hin_x:=⟨by omega,by omega⟩) (he_x:=hx) (h2:=decide_eq_true (by omega)) (hin_y:=⟨by omega,by omega⟩) (he_y:=hb) (hin_m:=⟨by omega,by omega⟩) (he_m:=hm) (hl2:=hl2) (hl:=hlb)
   ·exact qfZ (q:=2*i) (hq:=qdD (by omega)) (hq1:=qdZ (by omega)) (hge:=decide_eq_false (by omega)) (hq2:=qeR (by omega)) (hin_x:=⟨by omega,by omega⟩) (he_x:=hx) (h2:=decide_eq_false (by omega)) (hin_m:=⟨by omega,by omega⟩) (he_m:=hm) (hl:=hlm)
  ·exact qlW (q:=2*i) (hq:=qdD (by omega)) (hq1:=qdZ (by omega)) (hge:=decide_eq_true (by omega))
theorem qAj {u2:List Int} {b2:List Bool} {f2:List Int} {hi:Int} {hw:Int} {n mm:Nat} (hn:n≤1000000) (d ii:Nat) (ev:List Ev) (wh:List Int) (a:ii≤d) (c:ii<n) (I:AInv n mm ev wh):Rl 5 22 178 0 32 23 ([(1,.pv (iV (ii:Int))),(2,.pp 22 0)]) ([(22,0,.ls 15 u2.length),(22,1,.ls 16 b2.length),(22,2,.ls 17 f2.length),(22,3,.ls 21 n),(22,4,.ls 13 mm),(14,0,.ls 15 u2.length),(14,1,.ls 16 b2.length),(14,2,.ls 17 f2.length),(14,3,.ls 21 n),(14,4,.ls 13 mm),(7,0,.pv (.slice none 0 0)),(7,1,.pv (.slice none 0 0)),(7,2,.pv (.slice none 0 0)),(7,3,.pv (.slice none 0 0)),(7,4,.pv (.slice none 0 0)),(8,0,.pv (iV 0)),(8,1,.pv (iV 0)),(19,0,.pv (iV hi)),(19,1,.pv (iV hw)),(15,0,zrI u2),(16,0,zrB b2),(17,0,zrI f2),(21,0,.row 62 5 n (qat (ev))),(13,0,.row 3 1 mm (ziV (wh)))]) (.exit 0) [(1,.pv (iV ((upM d ev wh ii).2.2:Int)))] ([(14,0,.ls 15 u2.length),(14,1,.ls 16 b2.length),(14,2,.ls 17 f2.length),(14,3,.ls 21 n),(14,4,.ls 13 mm),(7,0,.pv (.slice none 0 0)),(7,1,.pv (.slice none 0 0)),(7,2,.pv (.slice none 0 0)),(7,3,.pv (.slice none 0 0)),(7,4,.pv (.slice none 0 0)),(8,0,.pv (iV 0)),(8,1,.pv (iV 0)),(19,0,.pv (iV hi)),(19,1,.pv (iV hw)),(15,0,zrI u2),(16,0,zrB b2),(17,0,zrI f2),(21,0,.row 62 5 n (qat ((upM d ev wh ii).1))),(13,0,.row 3 1 mm (ziV ((upM d ev wh ii).2.1)))]):=by
 refine (qdP (n:=n) (mm:=mm) (Q:=fun (ii:Nat) ev wh (ii':Nat) ev' wh'=>Rl 5 22 178 0 32 23 ([(1,.pv (iV (ii:Int))),(2,.pp 22 0)]) ([(22,0,.ls 15 u2.length),(22,1,.ls 16 b2.length),(22,2,.ls 17 f2.length),(22,3,.ls 21 n),(22,4,.ls 13 mm),(14,0,.ls 15 u2.length),(14,1,.ls 16 b2.length),(14,2,.ls 17 f2.length),(14,3,.ls 21 n),(14,4,.ls 13 mm),(7,0,.pv (.slice none 0 0)),(7,1,.pv (.slice none 0 0)),(7,2,.pv (.slice none 0 0)),(7,3,.pv (.slice none 0 0)),(7,4,.pv (.slice none 0 0)),(8,0,.pv (iV 0)),(8,1,.pv (iV 0)),(19,0,.pv (iV hi)),(19,1,.pv (iV hw)),(15,0,zrI u2),(16,0,zrB b2),(17,0,zrI f2),(21,0,.row 62 5 n (qat (ev))),(13,0,.row 3 1 mm (ziV (wh)))]) (.exit 0) [(1,.pv (iV (ii':Int)))] ([(14,0,.ls 15 u2.length),(14,1,.ls 16 b2.length),(14,2,.ls 17 f2.length),(14,3,.ls 21 n),(14,4,.ls 13 mm),(7,0,.pv (.slice none 0 0)),(7,1,.pv (.slice none 0 0)),(7,2,.pv (.slice none 0 0)),(7,3,.pv (.slice none 0 0)),(7,4,.pv (.slice none 0 0)),(8,0,.pv (iV 0)),(8,1,.pv (iV 0)),(19,0,.pv (iV hi)),(19,1,.pv (iV hw)),(15,0,zrI u2),(16,0,zrB b2),(17,0,zrI f2),(21,0,.row 62 5 n (qat (ev'))),(13,0,.row 3 1 mm (ziV (wh')))])) ?_ ?_ ?_ d ii ev wh a c I).1
 ·intro i ev wh x y i' ev' wh' I h0 hi hx hy hl r
  have ox:=I.ok x (List.mem_of_getElem? hx);have oy:=I.ok y (List.mem_of_getElem? hy);have ix:=I.ix x (List.mem_of_getElem? hx);have iy:=I.ix y (List.mem_of_getElem? hy)
  have l1:=I.len;have l2:=I.wl;have hc:=qaA ox.i oy.i;rw[hl] at hc
  exact qmg (q:=i-1) (j:=(i-1)/2) (x:=x) (y:=y) (n2:=by decide) (hm1:=qgE (by omega) (by omega)) (hm2:=qgH (by omega)) (hin_x:=⟨by omega,by omega⟩) (he_x:=hx) (hin_y:=⟨by omega,by omega⟩) (he_y:=hy) (h0:=decide_eq_true (by omega)) (hl:=hc) (hsa:=by omega) (hsb:=by rw[List.length_set];omega) (h2a:=qpo l1 (by omega) (by omega) (by omega)) (h2b:=qpq l1 (by omega) (by omega) (by omega)) (hwb:=iy) (hwbl:=by omega) (hwa:=ix) (hwal:=by rw[List.length_set];omega) (r:=r)
 ·intro i ev wh x y I h0 hi hx hy hl
  have ox:=I.ok x (List.mem_of_getElem? hx);have oy:=I.ok y (List.mem_of_getElem? hy)
  have hc:=qaA ox.i oy.i;rw[hl] at hc
  exact qle (q:=i-1) (j:=(i-1)/2) (x:=x) (y:=y) (n2:=by decide) (hm1:=qgE (by omega) (by omega)) (hm2:=qgH (by omega)) (hin_x:=⟨by omega,by omega⟩) (he_x:=hx) (hin_y:=⟨by omega,by omega⟩) (he_y:=hy) (h0:=decide_eq_true (by omega)) (hl:=hc)
 ·intro ev wh I
  exact qlf (k:=0) (decide_eq_false (by omega))
theorem qvU {u2:List Int} {b2:List Bool} {f2:List Int} {n mm:Nat} (hn:n≤1000000) (d ii:Nat) (ev:List Ev) (wh:List Int) (a:ii≤d) (c:ii<n) (I:AInv n mm ev wh):Rl 5 19 178 0 32 20 ([(1,.pv (iV (ii:Int))),(2,.pp 19 0)]) ([(19,0,.ls 16 u2.length),(19,1,.ls 17 b2.length),(19,2,.ls 18 f2.length),(19,3,.ls 15 n),(19,4,.ls 12 mm),(13,0,.ls 16 u2.length),(13,1,.ls 17 b2.length),(13,2,.ls 18 f2.length),(13,3,.ls 15 n),(13,4,.ls 12 mm),(7,0,.pv (.slice none 0 0)),(7,1,.pv (.slice none 0 0)),(7,2,.pv (.slice none 0 0)),(7,3,.pv (.slice none 0 0)),(7,4,.pv (.slice none 0 0)),(16,0,zrI u2),(17,0,zrB b2),(18,0,zrI f2),(15,0,.row 62 5 n (qat (ev))),(12,0,.row 3 1 mm (ziV (wh)))]) (.exit 0) [(1,.pv (iV ((upM d ev wh ii).2.2:Int)))] ([(13,0,.ls 16 u2.length),(13,1,.ls 17 b2.length),(13,2,.ls 18 f2.length),(13,3,.ls 15 n),(13,4,.ls 12 mm),(7,0,.pv (.slice none 0 0)),(7,1,.pv (.slice none 0 0)),(7,2,.pv (.slice none 0 0)),(7,3,.pv (.slice none 0 0)),(7,4,.pv (.slice none 0 0)),(16,0,zrI u2),(17,0,zrB b2),(18,0,zrI f2),(15,0,.row 62 5 n (qat ((upM d ev wh ii).1))),(12,0,.row 3 1 mm (ziV ((upM d ev wh ii).2.1)))]):=by
 refine (qdP (n:=n) (mm:=mm) (Q:=fun (ii:Nat) ev wh (ii':Nat) ev' wh'=>Rl 5 19 178 0 32 20 ([(1,.pv (iV (ii:Int))),(2,.pp 19 0)]) ([(19,0,.ls 16 u2.length),(19,1,.ls 17 b2.length),(19,2,.ls 18 f2.length),(19,3,.ls 15 n),(19,4,.ls 12 mm),(13,0,.ls 16 u2.length),(13,1,.ls 17 b2.length),(13,2,.ls 18 f2.length),(13,3,.ls 15 n),(13,4,.ls 12 mm),(7,0,.pv (.slice none 0 0)),(7,1,.pv (.slice none 0 0)),(7,2,.pv (.slice none 0 0)),(7,3,.pv (.slice none 0 0)),(7,4,.pv (.slice none 0 0)),(16,0,zrI u2),(17,0,zrB b2),(18,0,zrI f2),(15,0,.row 62 5 n (qat (ev))),(12,0,.row 3 1 mm (ziV (wh)))]) (.exit 0) [(1,.pv (iV (ii':Int)))] ([(13,0,.ls 16 u2.length),(13,1,.ls 17 b2.length),(13,2,.ls 18 f2.length),(13,3,.ls 15 n),(13,4,.ls 12 mm),(7,0,.pv (.slice none 0 0)),(7,1,.pv (.slice none 0 0)),(7,2,.pv (.slice none 0 0)),(7,3,.pv (.slice none 0 0)),(7,4,.pv (.slice none 0 0)),(16,0,zrI u2),(17,0,zrB b2),(18,0,zrI f2),(15,0,.row 62 5 n (qat (ev'))),(12,0,.row 3 1 mm (ziV (wh')))])) ?_ ?_ ?_ d ii ev wh a c I).1
 ·intro i ev wh x y i' ev' wh' I h0 hi hx hy hl r
  have ox:=I.ok x (List.mem_of_getElem? hx);have oy:=I.ok y (List.mem_of_getElem? hy);have ix:=I.ix x (List.mem_of_getElem? hx);have iy:=I.ix y (List.mem_of_getElem? hy)
  have l1:=I.len;have l2:=I.wl;have hc:=qaA ox.i oy.i;rw[hl] at hc
  exact qjV (q:=i-1) (j:=(i-1)/2) (x:=x) (y:=y) (n2:=by decide) (hm1:=qgE (by omega) (by omega)) (hm2:=qgH (by omega)) (hin_x:=⟨by omega,by omega⟩) (he_x:=hx) (hin_y:=⟨by omega,by omega⟩) (he_y:=hy) (h0:=decide_eq_true (by omega)) (hl:=hc) (hsa:=by omega) (hsb:=by rw[List.length_set];omega) (h2a:=qpo l1 (by omega) (by omega) (by omega)) (h2b:=qpq l1 (by omega) (by omega) (by omega)) (hwb:=iy) (hwbl:=by omega) (hwa:=ix) (hwal:=by rw[List.length_set];omega) (r:=r)
 ·intro i ev wh x y I h0 hi hx hy hl
  have ox:=I.ok x (List.mem_of_getElem? hx);have oy:=I.ok y (List.mem_of_getElem? hy)
  have hc:=qaA ox.i oy.i;rw[hl] at hc
  exact qj1 (q:=i-1) (j:=(i-1)/2) (x:=x) (y:=y) (n2:=by decide) (hm1:=qgE (by omega) (by omega)) (hm2:=qgH (by omega)) (hin_x:=⟨by omega,by omega⟩) (he_x:=hx) (hin_y:=⟨by omega,by omega⟩) (he_y:=hy) (h0:=decide_eq_true (by omega)) (hl:=hc)
 ·intro ev wh I
  exact qjh (k:=0) (decide_eq_false (by omega))
theorem qwu {u2:List Int} {b2:List Bool} {f2:List Int} {n mm:Nat} (hn:n≤1000000) (d ii:Nat) (ev:List Ev) (wh:List Int) (a:n≤ii+d) (c:ii<n) (I:AInv n mm ev wh):Rl 5 20 181 0 52 21 ([(1,.pv (iV (ii:Int))),(2,.pp 20 0)]) ([(20,0,.ls 16 u2.length),(20,1,.ls 17 b2.length),(20,2,.ls 18 f2.length),(20,3,.ls 15 n),(20,4,.ls 12 mm),(13,0,.ls 16 u2.length),(13,1,.ls 17 b2.length),(13,2,.ls 18 f2.length),(13,3,.ls 15 n),(13,4,.ls 12 mm),(7,0,.pv (.slice none 0 0)),(7,1,.pv (.slice none 0 0)),(7,2,.pv (.slice none 0 0)),(7,3,.pv (.slice none 0 0)),(7,4,.pv (.slice none 0 0)),(16,0,zrI u2),(17,0,zrB b2),(18,0,zrI f2),(15,0,.row 62 5 n (qat (ev))),(12,0,.row 3 1 mm (ziV (wh)))]) .ret [] ([(13,0,.ls 16 u2.length),(13,1,.ls 17 b2.length),(13,2,.ls 18 f2.length),(13,3,.ls 15 n),(13,4,.ls 12 mm),(7,0,.pv (.slice none 0 0)),(7,1,.pv (.slice none 0 0)),(7,2,.pv (.slice none 0 0)),(7,3,.pv (.slice none 0 0)),(7,4,.pv (.slice none 0 0)),(16,0,zrI u2),(17,0,zrB b2),(18,0,zrI f2),(15,0,.row 62 5 n (qat ((dnM d ev wh ii).1))),(12,0,.row 3 1 mm (ziV ((dnM d ev wh ii).2)))]):=by
 refine (qfE (n:=n) (mm:=mm) (Q:=fun (ii:Nat) ev wh ev' wh'=>Rl 5 20 181 0 52 21 ([(1,.pv (iV (ii:Int))),(2,.pp 20 0)]) ([(20,0,.ls 16 u2.length),(20,1,.ls 17 b2.length),(20,2,.ls 18 f2.length),(20,3,.ls 15 n),(20,4,.ls 12 mm),(13,0,.ls 16 u2.length),(13,1,.ls 17 b2.length),(13,2,.ls 18 f2.length),(13,3,.ls 15 n),(13,4,.ls 12 mm),(7,0,.pv (.slice none 0 0)),(7,1,.pv (.slice none 0 0)),(7,2,.pv (.slice none 0 0)),(7,3,.pv (.slice none 0 0)),(7,4,.pv (.slice none 0 0)),(16,0,zrI u2),(17,0,zrB b2),(18,0,zrI f2),(15,0,.row 62 5 n (qat (ev))),(12,0,.row 3 1 mm (ziV (wh)))]) .ret [] ([(13,0,.ls 16 u2.length),(13,1,.ls 17 b2.length),(13,2,.ls 18 f2.length),(13,3,.ls 15 n),(13,4,.ls 12 mm),(7,0,.pv (.slice none 0 0)),(7,1,.pv (.slice none 0 0)),(7,2,.pv (.slice none 0 0)),(7,3,.pv (.slice none 0 0)),(7,4,.pv (.slice none 0 0)),(16,0,zrI u2),(17,0,zrB b2),(18,0,zrI f2),(15,0,.row 62 5 n (qat (ev'))),(12,0,.row 3 1 mm (ziV (wh')))])) ?_ ?_ d ii ev wh a c I).1
 ·intro i ev wh x y ev' wh' I hi hl hx hy hlt r
  have ix:=I.ix x (List.mem_of_getElem? hx);have iy:=I.ix y (List.mem_of_getElem? hy)
  have ox:=I.ok x (List.mem_of_getElem? hx);have oy:=I.ok y (List.mem_of_getElem? hy)
  have l1:=I.len;have l2:=I.wl
  obtain⟨hyx,⟨hc,hb'⟩ | ⟨hc,m,hm,hbm⟩⟩:=qgt I.ok hl hx hy
  ·rw[hc] at r hy hlt
   have hm:=hy
   have hlx:=qaA oy.i ox.i;rw[hyx] at hlx
   by_cases h2:2*i+2<n
   ·have hb:ev[2*i+2]?=some (ev[2*i+2]'(by omega)):=List.getElem?_eq_getElem (by omega)
    generalize ev[2*i+2]'(by omega)=b at hb
    have ob:=I.ok b (List.mem_of_getElem? hb)
    have hl2:=qaA ob.i oy.i;rw[hb' b hb] at hl2
    exact qeS (q:=2*i) (hq:=qdD (by omega)) (hq1:=qdZ (by omega)) (hge:=decide_eq_false (by omega)) (hq2:=qeR (by omega)) (hin_x:=⟨by omega,by omega⟩) (he_x:=hx) (h2:=decide_eq_true (by omega)) (hin_y:=⟨by omega,by omega⟩) (he_y:=hb) (hin_m:=⟨by omega,by omega⟩) (he_m:=hm) (hl2:=hl2) (hl:=hlx) (hsa:=by omega) (hsb:=by rw[List.length_set];omega) (h2a:=qpo l1 (by omega) (by omega) (by omega)) (h2b:=qpq l1 (by omega) (by omega) (by omega)) (hwb:=iy) (hwbl:=by omega) (hwa:=ix) (hwal:=by rw[List.length_set];omega) (r:=r)
   ·exact qfg (q:=2*i) (hq:=qdD (by omega)) (hq1:=qdZ (by omega)) (hge:=decide_eq_false (by omega)) (hq2:=qeR (by omega)) (hin_x:=⟨by omega,by omega⟩) (he_x:=hx) (h2:=decide_eq_false (by omega)) (hin_m:=⟨by omega,by omega⟩) (he_m:=hm) (hl:=hlx) (hsa:=by omega) (hsb:=by rw[List.length_set];omega) (h2a:=qpo l1 (by omega) (by omega) (by omega)) (h2b:=qpq l1 (by omega) (by omega) (by omega)) (hwb:=iy) (hwbl:=by omega) (hwa:=ix) (hwal:=by rw[List.length_set];omega) (r:=r)
  ·rw[hc] at r hy hlt
   have hb:=hy
   have hlx:=qaA oy.i ox.i;rw[hyx] at hlx
   have om:=I.ok m (List.mem_of_getElem? hm)
   have hl2:=qaA oy.i om.i;rw[hbm] at hl2
   exact qec (q:=2*i) (hq:=qdD (by omega)) (hq1:=qdZ (by omega)) (hge:=decide_eq_false (by omega)) (hq2:=qeR (by omega)) (hin_x:=⟨by omega,by omega⟩) (he_x:=hx) (h2:=decide_eq_true (by omega)) (hin_y:=⟨by omega,by omega⟩) (he_y:=hb) (hin_m:=⟨by omega,by omega⟩) (he_m:=hm) (hl2:=hl2) (hl:=hlx) (hsa:=by omega) (hsb:=by rw[List.length_set];omega) (h2a:=qpo l1 (by omega) (by omega) (by omega)) (h2b:=qpq l1 (by omega) (by omega) (by omega)) (hwb:=iy) (hwbl:=by omega) (hwa:=ix) (hwal:=by rw[List.length_set];omega) (r:=r)
 ·intro i ev wh I hi hl
  have l1:=I.len
  obtain⟨x,hx⟩:∃ x,ev[i]?=some x:=⟨_,List.getElem?_eq_getElem (by omega)⟩
  have ox:=I.ok x (List.mem_of_getElem? hx)
  have sp:∀ c,(c=i∨c=2*i+1∨c=2*i+2)→∀ z,ev[c]?=some z→ltE z x=false:=fun c hc z hz=>qcr I.ok hc z x hz (by rw[hl];exact hx)
  by_cases h1:2*i+1<n
  ·have hm:ev[2*i+1]?=some (ev[2*i+1]'(by omega)):=List.getElem?_eq_getElem (by omega)
   generalize ev[2*i+1]'(by omega)=m at hm
   have om:=I.ok m (List.mem_of_getElem? hm)
   have hlm:=qaA om.i ox.i;rw[sp _ (.inr (.inl rfl)) m hm] at hlm
   by_cases h2:2*i+2<n
   ·have hb:ev[2*i+2]?=some (ev[2*i+2]'(by omega)):=List.getElem?_eq_getElem (by omega)
    generalize ev[2*i+2]'(by omega)=b at hb
    have ob:=I.ok b (List.mem_of_getElem? hb)
    have hlb:=qaA ob.i ox.i;rw[sp _ (.inr (.inr rfl)) b hb] at hlb
    have hl2:=qaA ob.i om.i
    cases e:ltE b m<;>rw[e] at hl2
    ·exact qeX (q:=2*i) (hq:=qdD (by omega)) (hq1:=qdZ (by omega)) (hge:=decide_eq_false (by omega)) (hq2:=qeR (by omega)) (hin_x:=⟨by omega,by omega⟩) (he_x:=hx) (h2:=decide_eq_true (by omega)) (hin_y:=⟨by omega,by omega⟩) (he_y:=hb) (hin_m:=⟨by omega,by omega⟩) (he_m:=hm) (hl2:=hl2) (hl:=hlm)
    ·exact qew (q:=2*i) (hq:=qdD (by omega)) (hq1:=qdZ (by omega)) (hge:=decide_eq_false (by omega)) (hq2:=qeR (by omega)) (hin_x:=⟨by omega,by omega⟩) (he_x:=hx) (h2:=decide_eq_true (by omega)) (hin_y:=⟨by omega,by omega⟩) (he_y:=hb) (hin_m:=⟨by omega,by omega⟩) (he_m:=hm) (hl2:=hl2) (hl:=hlb)
   ·exact qfO (q:=2*i) (hq:=qdD (by omega)) (hq1:=qdZ (by omega)) (hge:=decide_eq_false (by omega)) (hq2:=qeR (by omega)) (hin_x:=⟨by omega,by omega⟩) (he_x:=hx) (h2:=decide_eq_false (by omega)) (hin_m:=⟨by omega,by omega⟩) (he_m:=hm) (hl:=hlm)
  ·exact qjJ (q:=2*i) (hq:=qdD (by omega)) (hq1:=qdZ (by omega)) (hge:=decide_eq_true (by omega))
end Go.Proofs.YtkjaanhddkkodaaGreat

namespace Go.Proofs.YtkjaanhddkkodaaGreat
set_option maxRecDepth 100000
open Go.RowKit
section
variable {u fr wh:List Int} {b:List Bool} {ev:List Ev}
theorem qjc {u' fr':List Int} {b':List Bool} {x z:Int} (h:Vd u b fr) (ht:qbx u b fr=some (u',b',fr',x,z)) :
 Fn 177 3 [.ag [.ls 0 u.length,.ls 1 b.length,.ls 2 fr.length]] [(0,0,zrI u),(1,0,zrB b),(2,0,zrI fr)] (.tu [.ag [.ls 3 u'.length,.ls 4 b'.length,.ls 5 fr'.length],.one (.pv (qaG x z))]) 3 [(3,0,zrI u'),(4,0,zrB b'),(5,0,zrI fr')]:=by
 have hfl:=h.frlen
 have hle:=h.le
 obtain⟨y,h1,h2,h3,rfl,rfl,rfl,rfl⟩:=qbz ht
 obtain⟨e,hg,h4⟩:=qbf h1
 have hx:x∈fr:=by rw[e];simp
 obtain⟨r1,r2⟩:=h.rng x hx
 have hbk:x.toNat<b.length:=by rw[h.len];omega
 have hy:=h.use x.toNat y _ h2 (List.getElem?_eq_getElem hbk)
 have hy0:0≤y:=by have:=hy.1;split at this<;>omega
 have hl:iV (IntKind.i64.wrap ((fr.length:Int)-1))=iV ((fr.length-1:Nat):Int):=by rw[show ((fr.length:Int)-1)=((fr.length-1:Nat):Int) by omega];exact qa3 (by omega) (by omega)
 have key:=rtk (m:=fr.length-1) (z:=y+1) (qd1 h.small) hl (by omega) hg (by omega) ⟨r1,r2⟩ h2 (by omega) ⟨r1,by rw[h.len];exact r2⟩ hbk (by rw[List.getElem?_set,if_pos rfl,if_pos (by omega)]) (qa3 (by omega) (by omega))
 have ef:fr.dropLast=fr.take (fr.length-1):=List.dropLast_eq_take
 have el:(fr.take (fr.length-1)).length=fr.length-1:=by rw[List.length_take];omega
 have e1:(ziV fr).take ((fr.length-1)*1)=ziV (fr.take (fr.length-1)):=by simp[ziV,List.map_take]
 rw[e1] at key
 simp only[zrI,zrB,List.length_set]
 rw[ef,el]
 exact key
theorem qjG {hi hw:Int} (h:Vd u b fr) (hl:Live u b hi hw) :
 Fn 180 3 [.ag [.ls 0 u.length,.ls 1 b.length,.ls 2 fr.length],.pv (qaG hi hw)] [(0,0,zrI u),(1,0,zrB b),(2,0,zrI fr)] (.ag [.ls 3 u.length,.ls 4 (b.set hi.toNat false).length,.ls 5 (fr++[hi]).length]) 3 [(3,0,zrI u),(4,0,zrB (b.set hi.toNat false)),(5,0,zrI (fr++[hi]))]:=by
 have h0:=hl.lo
 have h1:hi<(b.length:Int):=by rw[h.len];exact hl.lt
 have key:=rgi (hw:=hw) (qd1 h.small) ⟨h0,h1⟩ (by omega) (by have:=h.frlen;omega)
 simp only[zrI,zrB,List.length_set,List.length_append,List.length_singleton]
 rw[qbn]
 exact key
theorem qkl (h:VA u b fr ev wh):Fn 54 5 [agA u b fr ev wh] (agP u b fr ev wh) (.ag [.ls 5 u.length,.ls 6 b.length,.ls 7 fr.length,.ls 8 ev.length,.ls 9 wh.length]) 5 [(5,0,zrI u),(6,0,zrB b),(7,0,zrI fr),(8,0,qap ev),(9,0,zrI wh)]:=by
 have hlen:=h.lens
 exact qGK (h6:=qd1 h.vd.small) (ne:=by omega) (nw:=by omega)
theorem qjn {tn td z:Int} {u2 f2:List Int} {b2:List Bool} {hi hw:Int} (ht:I64 tn∧I64 td) (h0:okB tn td=true) (h:VA u b fr ev wh) (hz:0≤z∧z≤1000000) (hk:qbx u b fr=some (u2,b2,f2,hi,hw)) :
 Fn 124 5 [agA u b fr ev wh,.pv (qab tn td),.pv (iV z)] (agP u b fr ev wh)
  (.tu [qCc (qaY ev wh ⟨tn,td,z,hi,hw⟩).1 u2 b2 f2 (qaY ev wh ⟨tn,td,z,hi,hw⟩).2,.one (.pv (qaG hi hw))]) 5 (qfI (qaY ev wh ⟨tn,td,z,hi,hw⟩).1 u2 b2 f2 (qaY ev wh ⟨tn,td,z,hi,hw⟩).2):=by
 have hlen:=h.lens
 have hin:=qjs h.vd hk
 have I:=qht (x:=⟨tn,td,z,hi,hw⟩) h.inv ⟨ht,h0,hz.1,hz.2⟩ ⟨hin.1,by have:=hin.2;simp only;omega⟩
 obtain⟨J,_⟩:=qcE (d:=ev.length) (i:=ev.length) (by omega) (by omega) I
 have j1:(qaY ev wh ⟨tn,td,z,hi,hw⟩).1.length=ev.length+1:=J.len
 have j2:(qaY ev wh ⟨tn,td,z,hi,hw⟩).2.length=wh.length:=J.wl
 simp only[qCc,qfI,qap,zrI,j1,j2]
 have r:=qAj (u2:=u2) (b2:=b2) (f2:=f2) (hi:=hi) (hw:=hw) (n:=ev.length+1) (by omega) ev.length ev.length (ev++[⟨tn,td,z,hi,hw⟩]) (wh.set hi.toNat (ev.length:Int)) (by omega) (by omega) I
 exact qqX (p:=_) (la:=ev.length) (ev3:=(qaY ev wh ⟨tn,td,z,hi,hw⟩).1) (wh3:=(qaY ev wh ⟨tn,td,z,hi,hw⟩).2) (htw:=qkl h) (htk:=qjc h.vd hk) (hl:=by omega) (hla:=by rw[show ((ev.length+1:Nat):Int)-1=(ev.length:Int) by omega];exact qa3 (by omega) (by omega)) (hiw:=⟨hin.1,by have:=hin.2;omega⟩) (hws:=by omega) (r0:=r)
theorem qif {x:Ev} {k:Nat} {tn td:Int} (h:VA u b fr ev wh) (hx:ev[k]?=some x) (ht:I64 tn∧I64 td) (ho:okB tn td=true) :
 Fn 133 5 [agA u b fr ev wh,.pv (qaG x.i x.w),.pv (qab tn td)] (agP u b fr ev wh)
  (.ag [.ls 5 u.length,.ls 6 b.length,.ls 7 fr.length,.ls 8 (qaR ev wh k x tn td).1.length,.ls 9 (qaR ev wh k x tn td).2.length]) 5 (qfI (qaR ev wh k x tn td).1 u b fr (qaR ev wh k x tn td).2):=by
 have hlen:=h.lens
 obtain⟨hlv,hwx⟩:=h.own hx
 have hk:k<ev.length:=(List.getElem?_eq_some_iff.1 hx).1
 have I:=qfQ h.inv hx ht ho
 have J:=qbT hk I
 obtain⟨K,hp⟩:=qcE (d:=k) (Nat.le_refl _) hk I
 have j1:(qaR ev wh k x tn td).1.length=ev.length:=J.len
 have j2:(qaR ev wh k x tn td).2.length=wh.length:=J.wl
 have hwi:=h.inv.ix x (List.mem_of_getElem? hx)
 simp only[qfI,qap,zrI,j1,j2]
 have r0:=qCR (u:=u) (b:=b) (fr:=fr) (n:=ev.length) (by omega) k k _ _ (Nat.le_refl _) hk I
 have r1:=qzG (u:=u) (b:=b) (fr:=fr) (n:=ev.length) (by omega) ev.length _ _ _ (by omega) hp K
 exact qup (p:=_) (htw:=qkl h) (hiw:=hwi) (hwk:=hwx) (hik:=⟨by omega,by omega⟩) (hx:=hx) (hset:=hk) (r0:=r0) (r1:=r1)
theorem qpB {k la:Nat} {x xl:Ev} (hk:k<la):(((ev.set k xl).set la x).take la)=(ev.take la).set k xl:=by
 apply List.ext_getElem?
 intro j
 simp only[List.getElem?_take,List.getElem?_set,List.length_take,List.length_set]
 by_cases h:j<la
 ·rw[if_pos h,if_neg (show ¬ la=j by omega)]
  by_cases e:k=j
  ·rw[if_pos e,if_pos e]
   by_cases g:k<ev.length
   ·rw[if_pos g,if_pos (by omega)]
   ·rw[if_neg g,if_neg (by omega)]
  ·rw[if_neg e,if_neg e,if_pos h]
 ·rw[if_neg h,if_neg (by omega),if_neg h]
theorem qeI {x:Ev} {k:Nat} (h:VA u b fr ev wh) (hx:ev[k]?=some x) :
 Fn 126 5 [agA u b fr ev wh,.pv (qaG x.i x.w)] (agP u b fr ev wh)
  (.ag [.ls 5 u.length,.ls 6 (b.set x.i.toNat false).length,.ls 7 (fr++[x.i]).length,.ls 8 (qaj ev wh k x).1.length,.ls 9 (qaj ev wh k x).2.length]) 5 (qfI (qaj ev wh k x).1 u (b.set x.i.toNat false) (fr++[x.i]) (qaj ev wh k x).2):=by
 obtain⟨hlv,hwx⟩:=h.own hx
 have hlen:=h.lens
 have hI:=h.inv
 have hk:k<ev.length:=(List.getElem?_eq_some_iff.1 hx).1
 have hg:=qjG h.vd hlv
 have hla:iV (IntKind.i64.wrap ((ev.length:Int)-1))=iV ((ev.length-1:Nat):Int):=by rw[show (ev.length:Int)-1=((ev.length-1:Nat):Int) by omega];exact qa3 (by omega) (by omega)
 have hwi:=hI.ix x (List.mem_of_getElem? hx)
 by_cases hm:k<ev.length-1
 ·obtain⟨xl,hxl⟩:∃ xl,ev[ev.length-1]?=some xl:=⟨_,List.getElem?_eq_getElem (by omega)⟩
  have hwl:=hI.ix xl (List.mem_of_getElem? hxl)
  have hne:x.i≠xl.i:=fun e=>by
   have:=h.con.inj hx hxl e
   omega
  have e:qaj ev wh k x=qbM (ev.length-1) ((ev.take (ev.length-1)).set k xl) ((wh.set x.i.toNat (-1)).set xl.i.toNat (k:Int)) k:=by unfold qaj;rw[if_pos hm,hxl]
  have I:=qdu (x:=x) hI hm hxl
  have e1:(((ev.set k xl).set (ev.length-1) x).take (ev.length-1))=(ev.take (ev.length-1)).set k xl:=qpB hm
  have e2:(((wh.set xl.i.toNat (k:Int)).set x.i.toNat ((ev.length-1:Nat):Int)).set x.i.toNat (-1))=((wh.set x.i.toNat (-1)).set xl.i.toNat (k:Int)):=by
   rw[List.set_set,List.set_comm _ _ (by omega)]
  rw[← e1,← e2] at I e
  have J:=qbT hm I
  obtain⟨K,hp⟩:=qcE (d:=k) (Nat.le_refl _) hm I
  rw[e]
  simp only[qfI,qap,zrI,J.len,J.wl]
  have r0:=qvU (u2:=u) (b2:=b.set x.i.toNat false) (f2:=fr++[x.i]) (n:=ev.length-1) (by omega) k k _ _ (Nat.le_refl _) hm I
  have r1:=qwu (u2:=u) (b2:=b.set x.i.toNat false) (f2:=fr++[x.i]) (n:=ev.length-1) (by omega) (ev.length-1) _ _ _ (by omega) hp K
  refine qw8 (n:=0) (mm:=0) (p:=_) (la:=ev.length-1) (x:=x) (xl:=xl) (htw:=qkl h) (hiw:=hwi) (hwk:=hwx) (hla:=hla) (hne:=by simp;omega) (hin_x:=⟨by omega,by omega⟩) (he_x:=hx) (hin_xl:=⟨by omega,by omega⟩) (he_xl:=hxl) (hsa:=hk) (hsb:=by rw[List.length_set];omega) (h2a:=qpo rfl (by omega) (by omega) (by omega)) (h2b:=qpq rfl (by omega) (by omega) (by omega)) (hwb:=hwl) (hwbl:=by omega) (hwa:=hwi) (hwal:=by rw[List.length_set];omega) (hll:=by omega) (hws:=by rw[List.length_set,List.length_set];omega) (hg:=hg) (r0:=r0) (r1:=?_)
  exact r1
 ·have e:qaj ev wh k x=(ev.take (ev.length-1),wh.set x.i.toNat (-1)):=by unfold qaj;rw[if_neg hm]
  have e1:(ev.take (ev.length-1)).length=ev.length-1:=by rw[List.length_take];omega
  rw[e]
  have e2:(wh.set x.i.toNat (-1)).length=wh.length:=List.length_set ..
  simp only[qfI,qap,zrI,e1,e2]
  exact qvK (la:=ev.length-1) (htw:=qkl h) (hiw:=hwi) (hwk:=hwx) (hla:=hla) (hne:=by simp;omega) (hll:=by omega) (hws:=by omega) (hg:=hg)
end
end Go.Proofs.YtkjaanhddkkodaaGreat

namespace Go.Proofs.YtkjaanhddkkodaaGreat
set_option maxRecDepth 100000
open Go.RowKit
section
variable {u fr wh:List Int} {b:List Bool} {ev:List Ev}
theorem qlD {hi hw:Int} (h:VA u b fr ev wh) (hl:¬ Live u b hi hw):Fn 78 5 [agA u b fr ev wh,.pv (qaG hi hw)] (agP u b fr ev wh) (.pv (.tuple #[evZ,iV 6])) 0 []:=qsX (hc:=qex h) (hl:=qkC h.vd hl)
theorem qlM {hi hw:Int} {j:Nat} {x:Ev} (h:VA u b fr ev wh) (hl:Live u b hi hw) (hj:wh[hi.toNat]?=some (j:Int)) (hx:ev[j]?=some x):Fn 78 5 [agA u b fr ev wh,.pv (qaG hi hw)] (agP u b fr ev wh) (.pv (.tuple #[qaa x,iV 0])) 0 []:=by
 have:=(List.getElem?_eq_some_iff.1 hj).1
 have:=(List.getElem?_eq_some_iff.1 hx).1
 have:=hl.lo
 exact qAM (hc:=qex h) (hl:=qhS h.vd hl) (hiw:=by omega) (hw_:=hj) (hij:=by omega) (hx:=hx)
end
end Go.Proofs.YtkjaanhddkkodaaGreat

namespace Go.Proofs.YtkjaanhddkkodaaGreat
set_option maxRecDepth 100000
open Go.RowKit
section
variable {u fr wh:List Int} {b:List Bool} {ev:List Ev}
theorem qkd (hl:ev.length≤1000000):∀ (d k:Nat),k+d=ev.length→Rl 10 10 67 0 47 12 [(2,.pp 10 0),(3,.pp 11 0),(5,.pv (iV (k:Int)))] [(10,0,.ls 0 u.length),(10,1,.ls 1 b.length),(10,2,.ls 2 fr.length),(10,3,.ls 3 ev.length),(10,4,.ls 4 wh.length),(11,0,.ls 5 u.length),(11,1,.ls 6 b.length),(11,2,.ls 7 fr.length),(11,3,.ls 8 ev.length),(11,4,.ls 9 wh.length),(3,0,qap ev),(8,0,qap ev)] (.exit 0) [] []
 | 0,k,hk=>quF (hge:=decide_eq_false (by omega))
 | d+1,k,hk=>by
  have hx:ev[k]?=some (ev[k]'(by omega)):=List.getElem?_eq_getElem (by omega)
  exact qrm (hk:=hx) (hin:=by omega) (hlt:=decide_eq_true (by omega)) (hq:=by simp) (hs:=qaH (by omega)) (r:=qkd hl d (k+1) (by omega))
theorem qqk (hg:qbX u b fr=false) (hl:ev.length≤1000000) (hw:wh.length≤1000000):Fn 67 10 [agA u b fr ev wh,.ag [.ls 5 u.length,.ls 6 b.length,.ls 7 fr.length,.ls 8 ev.length,.ls 9 wh.length]] [(0,0,zrI u),(1,0,zrB b),(2,0,zrI fr),(3,0,qap ev),(4,0,zrI wh),(5,0,zrI u),(6,0,zrB b),(7,0,zrI fr),(8,0,qap ev),(9,0,zrI wh)] (.pv (.bool true)) 0 []:=
 qpw (hi:=0) (qqq hg) (qhf hw) (by simp) (qkd hl ev.length 0 (by omega))
end
end Go.Proofs.YtkjaanhddkkodaaGreat

namespace Go.Proofs.YtkjaanhddkkodaaGreat
set_option maxRecDepth 100000
open Go.RowKit
structure Ck where
 tn:Int
 td:Int
 s:List Pt
 x:Int
 l:List Pt
 u:List Int
 b:List Bool
 fr:List Int
 ev:List Ev
 wh:List Int
 d:List Pt
abbrev qaQ (l:List Pt):SV:=.row 54 3 l.length (qbo l)
abbrev qan (c:Ck):SV:=.ag [.pv (iV c.tn),.pv (iV c.td),.ls 0 c.s.length,.pv (iV c.x),.ls 1 c.l.length,.ls 2 c.u.length,.ls 3 c.b.length,.ls 4 c.fr.length,.ls 5 c.ev.length,.ls 6 c.wh.length,.ls 7 c.d.length]
abbrev qaq (c:Ck):List (Nat×Nat×SV):=[(0,0,qam c.s),(1,0,qak c.l),(2,0,zrI c.u),(3,0,zrB c.b),(4,0,zrI c.fr),(5,0,qap c.ev),(6,0,zrI c.wh),(7,0,qaQ c.d)]
abbrev qb5 (k:Nat) (c:Ck):List (Nat×Nat×SV):=[(k,0,.pv (iV c.tn)),(k,1,.pv (iV c.td)),(k,2,.ls 0 c.s.length),(k,3,.pv (iV c.x)),(k,4,.ls 1 c.l.length),(k,5,.ls 2 c.u.length),(k,6,.ls 3 c.b.length),(k,7,.ls 4 c.fr.length),(k,8,.ls 5 c.ev.length),(k,9,.ls 6 c.wh.length),(k,10,.ls 7 c.d.length),(0,0,qam c.s),(1,0,qak c.l),(2,0,zrI c.u),(3,0,zrB c.b),(4,0,zrI c.fr),(5,0,qap c.ev),(6,0,zrI c.wh),(7,0,qaQ c.d)]
abbrev qfW (c:Ck):S1:=.ag [.pv (iV c.tn),.pv (iV c.td),.ls 8 c.s.length,.pv (iV c.x),.ls 9 c.l.length,.ls 10 c.u.length,.ls 11 c.b.length,.ls 12 c.fr.length,.ls 13 c.ev.length,.ls 14 c.wh.length,.ls 15 c.d.length]
abbrev qdy (c:Ck):SV:=.ag [.pv (iV c.tn),.pv (iV c.td),.ls 8 c.s.length,.pv (iV c.x),.ls 9 c.l.length,.ls 10 c.u.length,.ls 11 c.b.length,.ls 12 c.fr.length,.ls 13 c.ev.length,.ls 14 c.wh.length,.ls 15 c.d.length]
abbrev qbu (c:Ck):List (Nat×Nat×SV):=[(8,0,qam c.s),(9,0,qak c.l),(10,0,zrI c.u),(11,0,zrB c.b),(12,0,zrI c.fr),(13,0,qap c.ev),(14,0,zrI c.wh),(15,0,qaQ c.d)]
abbrev qbv:Value:=.agg #[iV 0,iV 0,.slice none 0 0,iV 0,.slice none 0 0,.slice none 0 0,.slice none 0 0,.slice none 0 0,.slice none 0 0,.slice none 0 0,.slice none 0 0]
end Go.Proofs.YtkjaanhddkkodaaGreat

namespace Go.Proofs.YtkjaanhddkkodaaGreat
set_option maxRecDepth 100000
open Go.RowKit
theorem wn9 {s:List Pt} {q g:Pt} {i j:Nat} {n a b tn td z:Int} {w:Bool} (hg:s[i]?=some g) (hq:s[j]?=some q) (hi:0≤(i:Int)∧(i:Int)<(s.length:Int)) (hj:0≤(j:Int)∧(j:Int)<(s.length:Int)) (ha:Fn 72 1 [qaB 0 s,.pv (iV (b))] [(0,0,qam s)] (.pv (iV (i:Int))) 0 []) (hb:Fn 72 1 [qaB 0 s,.pv (iV (a))] [(0,0,qam s)] (.pv (iV (j:Int))) 0 []) (hl:Pure Tryz.prog 83 #[ptV g,ptV q,qab tn td] (.tuple #[qab n z,.bool w])) :
 Fn 39 1 [qaB 0 s,.pv (qag a b),.pv (qab tn td)] [(0,0,qam s)] (.pv (.tuple #[qab n z,.bool w])) 0 []:=
 Fz [] [Cf ha [0],.r (ptV g),Cf hb [0],.r (ptV q),Rf hl]
  tI (Co ha [0] 5 (Ai hi (Ai (qaL hg) (Co hb [0] 5 (Ai hj (Ai (qaL hq) (Ai hl tI)))))))
theorem qkW {c:Ck} {p:Pt} {k:Nat} {n:Int} (hk:c.d[k]?=some p) (hin:0≤(k:Int)∧(k:Int)<(c.d.length:Int)) (hlt:decide ((k:Int)<(c.d.length:Int))=true) (he:(p.id==n)=false) (hs:iV (IntKind.i64.wrap ((k:Int)+1))=iV (((k+1:Nat):Int))) {e:Exit} {tm2:TmL} {hp2:HpL}
 (r:Rl 8 8 46 0 22 9 ([(1,.pv (iV n)),(2,.pp 8 0),(5,.pv (iV ((k+1:Nat):Int)))]) (qb5 8 c) e tm2 hp2):Rl 8 8 46 0 22 9 ([(1,.pv (iV n)),(2,.pp 8 0),(5,.pv (iV (k:Int)))]) (qb5 8 c) e tm2 hp2:=
 RunsL.next [] 300 [.t true,.r (iV p.id),.t false,Re hs]
  (Ro (Ai hlt (Ai hin (Ai (qjv hk) (Ai he (Ai hs tI)))))) r
theorem qvD {c:Ck} {p:Pt} {k:Nat} {n:Int} (hk:c.d[k]?=some p) (hin:0≤(k:Int)∧(k:Int)<(c.d.length:Int)) (hlt:decide ((k:Int)<(c.d.length:Int))=true) (he:(p.id==n)=true):Rl 8 8 46 0 22 9 ([(1,.pv (iV n)),(2,.pp 8 0),(5,.pv (iV (k:Int)))]) (qb5 8 c) (.ret) ([(4,.pv (iV (k:Int)))]) ([]):=
 RunsL.stop [] 300 [.t true,.r (iV p.id),.t true] (fun h=>by cases h)
  (Ro (Ai hlt (Ai hin (Ai (qjv hk) (Ai he tI)))))
theorem qvE {c:Ck} {k:Nat} {n:Int} (hge:decide ((k:Int)<(c.d.length:Int))=false):Rl 8 8 46 0 22 9 ([(1,.pv (iV n)),(2,.pp 8 0),(5,.pv (iV (k:Int)))]) (qb5 8 c) (.exit 0) ([]) ([]):=
 RunsL.stop [] 300 [.t false] (fun h=>by cases h)
  (Ro (Ai hge tI))
theorem qzT {c:Ck} {n:Int} (r0:Rl 8 8 46 0 22 9 ([(1,.pv (iV n)),(2,.pp 8 0),(5,.pv (iV ((0:Nat):Int)))]) (qb5 8 c) (.exit 0) ([]) ([])) :
 Fn 46 8 [qan c,.pv (iV (n))] (qaq c) (.pv (iV (-1))) 0 []:=
 Fz [] [Lf r0]
  tI (Lo r0 [] tI)
theorem qur {c:Ck} {k:Nat} {n:Int} (r0:Rl 8 8 46 0 22 9 ([(1,.pv (iV n)),(2,.pp 8 0),(5,.pv (iV ((0:Nat):Int)))]) (qb5 8 c) (.ret) ([(4,.pv (iV (k:Int)))]) ([])) :
 Fn 46 8 [qan c,.pv (iV (n))] (qaq c) (.pv (iV (k:Int))) 0 []:=
 Fz [] [Lf r0]
  tI (Lo r0 [] tI)
theorem qxW {c:Ck} {tn td:Int} (hc:Fn 31 8 [qan c] (qaq c) (.pv (iV (8))) 0 []) :
 Fn 38 8 [qan c,.pv (qab tn td)] (qaq c) (.pv (iV (8))) 0 []:=
 Fz [] [Cf hc [0,1,2,3,4,5,6,7],.k]
  tI (Co hc [0,1,2,3,4,5,6,7] 10 tI)
theorem qs1 {c:Ck} {tn td:Int} (hc:Fn 31 8 [qan c] (qaq c) (.pv (iV (0))) 0 []) (ht:Pure Tryz.prog 75 #[qab tn td] (iV (8))) :
 Fn 38 8 [qan c,.pv (qab tn td)] (qaq c) (.pv (iV (8))) 0 []:=
 Fz [] [Cf hc [0,1,2,3,4,5,6,7],.k,Rf ht,.k]
  tI (Co hc [0,1,2,3,4,5,6,7] 10 (Ai ht tI))
theorem qsM {c:Ck} {n tn td:Int} (hc:Fn 31 8 [qan c] (qaq c) (.pv (iV (0))) 0 []) (ht:Pure Tryz.prog 75 #[qab tn td] (iV (0))) (hm:Pure Tryz.prog 40 #[qab tn td,qab c.tn c.td] (iV (n))) (hn:decide (n<0)=true) :
 Fn 38 8 [qan c,.pv (qab tn td)] (qaq c) (.pv (iV (44))) 0 []:=
 Fz [] [Cf hc [0,1,2,3,4,5,6,7],.k,Rf ht,.k,Rf hm,.t true]
  tI (Co hc [0,1,2,3,4,5,6,7] 10 (Ai ht (Ai hm (Ai hn tI))))
theorem qzX {c:Ck} {n tn td:Int} (hc:Fn 31 8 [qan c] (qaq c) (.pv (iV (0))) 0 []) (ht:Pure Tryz.prog 75 #[qab tn td] (iV (0))) (hm:Pure Tryz.prog 40 #[qab tn td,qab c.tn c.td] (iV (n))) (hn:decide (n<0)=false) :
 Fn 38 8 [qan c,.pv (qab tn td)] (qaq c) (.pv (iV (0))) 0 []:=
 Fz [] [Cf hc [0,1,2,3,4,5,6,7],.k,Rf ht,.k,Rf hm,.t false]
  tI (Co hc [0,1,2,3,4,5,6,7] 10 (Ai ht (Ai hm (Ai hn tI))))
theorem qq0 {c:Ck} {tn td:Int} (h0:decide ((c.ev.length:Int)>0)=false) :
 Fn 79 8 [qan c,.pv (qab tn td)] (qaq c) (.pv (.bool false)) 0 []:=
 Fz [] [.t false]
  tI (Ai h0 tI)
theorem qsr {c:Ck} {n tn td:Int} {y:Ev} (h0:decide ((c.ev.length:Int)>0)=true) (hy:c.ev[0]?=some y) (hin:0≤(0:Int)∧(0:Int)<(c.ev.length:Int)) (hm:Pure Tryz.prog 40 #[qab y.n y.d,qab tn td] (iV (n))) (hn:decide (n≤0)=true) :
 Fn 79 8 [qan c,.pv (qab tn td)] (qaq c) (.pv (.bool true)) 0 []:=
 Fz [] [.t true,.r (qab y.n y.d),Rf hm,.t true]
  tI (Ai h0 (Ai hin (Ai (qGO hy) (Ai hm (Ai hn tI)))))
theorem quZ {c:Ck} {n tn td:Int} {y:Ev} (h0:decide ((c.ev.length:Int)>0)=true) (hy:c.ev[0]?=some y) (hin:0≤(0:Int)∧(0:Int)<(c.ev.length:Int)) (hm:Pure Tryz.prog 40 #[qab y.n y.d,qab tn td] (iV (n))) (hn:decide (n≤0)=false) :
 Fn 79 8 [qan c,.pv (qab tn td)] (qaq c) (.pv (.bool false)) 0 []:=
 Fz [] [.t true,.r (qab y.n y.d),Rf hm,.t false]
  tI (Ai h0 (Ai hin (Ai (qGO hy) (Ai hm (Ai hn tI)))))
theorem qD8 {c:Ck} (g1:decide ((c.l.length:Int)>40)=true) :
 Fn 26 8 [qan c] (qaq c) (.pv (.bool true)) 0 []:=
 Fz [] [.t true]
  tI (Ai g1 tI)
theorem qFk {c:Ck} (g1:decide ((c.l.length:Int)>40)=false) (g2:decide ((c.d.length:Int)>40)=true) :
 Fn 26 8 [qan c] (qaq c) (.pv (.bool true)) 0 []:=
 Fz [] [.t false,.t true]
  tI (Ai g1 (Ai g2 tI))
theorem qF1 {c:Ck} (g1:decide ((c.l.length:Int)>40)=false) (g2:decide ((c.d.length:Int)>40)=false) (hf:Fn 25 1 [qaB 0 c.s] [(0,0,qam c.s)] (.pv (.bool true)) 0 []) :
 Fn 26 8 [qan c] (qaq c) (.pv (.bool true)) 0 []:=
 Fz [] [.t false,.t false,Cf hf [0]]
  tI (Ai g1 (Ai g2 (Co hf [0] 9 tI)))
theorem qE5 {c:Ck} (g1:decide ((c.l.length:Int)>40)=false) (g2:decide ((c.d.length:Int)>40)=false) (hf:Fn 25 1 [qaB 0 c.s] [(0,0,qam c.s)] (.pv (.bool false)) 0 []) (hg:Fn 68 5 [agA c.u c.b c.fr c.ev c.wh] [(0,0,zrI c.u),(1,0,zrB c.b),(2,0,zrI c.fr),(3,0,qap c.ev),(4,0,zrI c.wh)] (.pv (.bool true)) 0 []) :
 Fn 26 8 [qan c] (qaq c) (.pv (.bool true)) 0 []:=
 Fz [] [.t false,.t false,Cf hf [0],Cf hg [2,3,4,5,6]]
  tI (Ai g1 (Ai g2 (Co hf [0] 9 (Co hg [2,3,4,5,6] 9 tI))))
theorem qzF {c:Ck} (g1:decide ((c.l.length:Int)>40)=false) (g2:decide ((c.d.length:Int)>40)=false) (hf:Fn 25 1 [qaB 0 c.s] [(0,0,qam c.s)] (.pv (.bool false)) 0 []) (hg:Fn 68 5 [agA c.u c.b c.fr c.ev c.wh] [(0,0,zrI c.u),(1,0,zrB c.b),(2,0,zrI c.fr),(3,0,qap c.ev),(4,0,zrI c.wh)] (.pv (.bool false)) 0 []) :
 Fn 26 8 [qan c] (qaq c) (.pv (.bool false)) 0 []:=
 Fz [] [.t false,.t false,Cf hf [0],Cf hg [2,3,4,5,6]]
  tI (Ai g1 (Ai g2 (Co hf [0] 9 (Co hg [2,3,4,5,6] 9 tI))))
end Go.Proofs.YtkjaanhddkkodaaGreat
