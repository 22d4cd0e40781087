/-
  Package agenda's pushed, without, rekeyed and New, for any valid agenda. Conditions: none.
-/
import Derived.Test.YtkjaanhddkkodaaGreatW34
import Derived.Test.YtkjaanhddkkodaaGreatW18
namespace Go.Proofs.YtkjaanhddkkodaaGreat
set_option maxRecDepth 100000
open Go.RowKit
structure AInv (n mm:Nat) (ev:List Ev) (wh:List Int):Prop where
 len:ev.length=n
 wl:wh.length=mm
 ok:∀ x∈ev,EvOk x
 ix:∀ x∈ev,0≤x.i∧x.i<(mm:Int)
abbrev swE (ev:List Ev) (i j:Nat) (x y:Ev):List Ev:=(ev.set i y).set j x
abbrev swW (wh:List Int) (i j:Nat) (x y:Ev):List Int:=(wh.set y.i.toNat (i:Int)).set x.i.toNat (j:Int)
theorem qjV {ev:List Ev} {i j:Nat} {x y z:Ev} (hx:x∈ev) (hy:y∈ev) (h:z∈swE ev i j x y):z∈ev:=by
 rcases List.mem_or_eq_of_mem_set h with h | h
 ·rcases List.mem_or_eq_of_mem_set h with h | h
  ·exact h
  ·subst h;exact hy
 ·subst h;exact hx
theorem AInv.swap {n mm:Nat} {ev:List Ev} {wh:List Int} {i j:Nat} {x y:Ev} (h:AInv n mm ev wh) (hx:x∈ev) (hy:y∈ev):AInv n mm (swE ev i j x y) (swW wh i j x y):=
 ⟨by rw[List.length_set,List.length_set];exact h.len,by rw[List.length_set,List.length_set];exact h.wl,fun z hz=>h.ok z (qjV hx hy hz),fun z hz=>h.ix z (qjV hx hy hz)⟩
def upM:Nat→List Ev→List Int→Nat→List Ev×List Int×Nat
 | 0,ev,wh,i=>(ev,wh,i)
 | d+1,ev,wh,i=>if i=0 then (ev,wh,i) else match ev[i]?,ev[(i-1)/2]? with
  | some x,some y=>if ltE x y=true then upM d (swE ev i ((i-1)/2) x y) (swW wh i ((i-1)/2) x y) ((i-1)/2) else (ev,wh,i)
  | _,_=>(ev,wh,i)
def dnM:Nat→List Ev→List Int→Nat→List Ev×List Int
 | 0,ev,wh,_=>(ev,wh)
 | d+1,ev,wh,i=>if qaz ev i=i then (ev,wh) else match ev[i]?,ev[qaz ev i]? with
  | some x,some y=>dnM d (swE ev i (qaz ev i) x y) (swW wh i (qaz ev i) x y) (qaz ev i)
  | _,_=>(ev,wh)
theorem qfF {n mm:Nat} {Q:Nat→List Ev→List Int→Nat→List Ev→List Int→Prop}
 (next:∀ i ev wh x y i' ev' wh',AInv n mm ev wh→0<i→i<n→ev[i]?=some x→ev[(i-1)/2]?=some y→ltE x y=true→Q ((i-1)/2) (swE ev i ((i-1)/2) x y) (swW wh i ((i-1)/2) x y) i' ev' wh'→Q i ev wh i' ev' wh')
 (stop:∀ i ev wh x y,AInv n mm ev wh→0<i→i<n→ev[i]?=some x→ev[(i-1)/2]?=some y→ltE x y=false→Q i ev wh i ev wh)
 (zero:∀ ev wh,AInv n mm ev wh→Q 0 ev wh 0 ev wh) :
 ∀ (d i:Nat) (ev:List Ev) (wh:List Int),i≤d→i<n→AInv n mm ev wh→Q i ev wh (upM d ev wh i).2.2 (upM d ev wh i).1 (upM d ev wh i).2.1∧AInv n mm (upM d ev wh i).1 (upM d ev wh i).2.1∧(upM d ev wh i).2.2<n
 | 0,i,ev,wh,a,b,c=>by
  have:i=0:=by omega
  subst this
  exact⟨zero ev wh c,c,b⟩
 | d+1,i,ev,wh,a,b,c=>by
  by_cases h0:i=0
  ·subst h0
   have e:upM (d+1) ev wh 0=(ev,wh,0):=by simp[upM]
   rw[e]
   exact⟨zero ev wh c,c,b⟩
  ·have l1:=c.len
   have hx:ev[i]?=some ev[i]:=List.getElem?_eq_getElem (by omega)
   have hy:ev[(i-1)/2]?=some (ev[(i-1)/2]'(by omega)):=List.getElem?_eq_getElem (by omega)
   generalize ev[i]=x at hx
   generalize ev[(i-1)/2]'(by omega)=y at hy
   cases hl:ltE x y
   ·have e:upM (d+1) ev wh i=(ev,wh,i):=by simp[upM,h0,hx,hy,hl]
    rw[e]
    exact⟨stop i ev wh x y c (by omega) b hx hy hl,c,b⟩
   ·have e:upM (d+1) ev wh i=upM d (swE ev i ((i-1)/2) x y) (swW wh i ((i-1)/2) x y) ((i-1)/2):=by simp[upM,h0,hx,hy,hl]
    rw[e]
    obtain⟨r1,r2,r3⟩:=qfF next stop zero d ((i-1)/2) (swE ev i ((i-1)/2) x y) (swW wh i ((i-1)/2) x y) (by omega) (by omega) (c.swap (List.mem_of_getElem? hx) (List.mem_of_getElem? hy))
    exact⟨next i ev wh x y _ _ _ c (by omega) b hx hy hl r1,r2,r3⟩
theorem qmu (ev:List Ev) (i:Nat):qbP ev i=i∨(qbP ev i=2*i+1∧2*i+1<ev.length):=by
 unfold qbP
 split
 ·rename_i x m h _
  split
  ·exact Or.inr ⟨rfl,(List.getElem?_eq_some_iff.1 h).1⟩
  ·exact Or.inl rfl
 ·exact Or.inl rfl
theorem qht (ev:List Ev) (i:Nat):qaz ev i=i∨(i<qaz ev i∧qaz ev i<ev.length∧(qaz ev i=2*i+1∨qaz ev i=2*i+2)):=by
 have ha:=qmu ev i
 have key:qaz ev i=qbP ev i∨(qaz ev i=2*i+2∧2*i+2<ev.length):=by
  unfold qaz
  split
  ·rename_i y m h _
   split
   ·exact Or.inr ⟨rfl,(List.getElem?_eq_some_iff.1 h).1⟩
   ·exact Or.inl rfl
  ·exact Or.inl rfl
 omega
theorem qhf {n mm:Nat} {Q:Nat→List Ev→List Int→List Ev→List Int→Prop}
 (next:∀ i ev wh x y ev' wh',AInv n mm ev wh→i<n→qaz ev i≠i→ev[i]?=some x→ev[qaz ev i]?=some y→qaz ev i<n→Q (qaz ev i) (swE ev i (qaz ev i) x y) (swW wh i (qaz ev i) x y) ev' wh'→Q i ev wh ev' wh')
 (stop:∀ i ev wh,AInv n mm ev wh→i<n→qaz ev i=i→Q i ev wh ev wh) :
 ∀ (d i:Nat) (ev:List Ev) (wh:List Int),n≤i+d→i<n→AInv n mm ev wh→Q i ev wh (dnM d ev wh i).1 (dnM d ev wh i).2∧AInv n mm (dnM d ev wh i).1 (dnM d ev wh i).2
 | 0,i,ev,wh,a,b,c=>by omega
 | d+1,i,ev,wh,a,b,c=>by
  have l1:=c.len
  by_cases h0:qaz ev i=i
  ·have e:dnM (d+1) ev wh i=(ev,wh):=by simp[dnM,h0]
   rw[e]
   exact⟨stop i ev wh c b h0,c⟩
  ·obtain⟨g1,g2,_⟩:=(qht ev i).resolve_left h0
   have hx:ev[i]?=some ev[i]:=List.getElem?_eq_getElem (by omega)
   have hy:ev[qaz ev i]?=some ev[qaz ev i]:=List.getElem?_eq_getElem g2
   generalize ev[i]=x at hx
   generalize ev[qaz ev i]=y at hy
   have e:dnM (d+1) ev wh i=dnM d (swE ev i (qaz ev i) x y) (swW wh i (qaz ev i) x y) (qaz ev i):=by
    conv=>lhs;unfold dnM
    rw[if_neg h0]
    simp only[hx,hy]
   rw[e]
   obtain⟨r1,r2⟩:=qhf next stop d (qaz ev i) (swE ev i (qaz ev i) x y) (swW wh i (qaz ev i) x y) (by omega) (by omega) (c.swap (List.mem_of_getElem? hx) (List.mem_of_getElem? hy))
   exact⟨next i ev wh x y _ _ c b h0 hx hy (by omega) r1,r2⟩
theorem qCh {u2:List Int} {b2:List Bool} {f2:List Int} {n mm:Nat} (hn:n≤1000000) (d ii:Nat) (ev:List Ev) (wh:List Int) (a:ii≤d) (c:ii<n) (I:AInv n mm ev wh):Rl 8 19 222 0 29 20 ([(1,.pv (iV (ii:Int))),(2,.pp 19 0)]) ([(19,0,.ls 5 u2.length),(19,1,.ls 6 b2.length),(19,2,.ls 7 f2.length),(19,3,.ls 14 n),(19,4,.ls 15 mm),(16,0,.ls 5 u2.length),(16,1,.ls 6 b2.length),(16,2,.ls 7 f2.length),(16,3,.ls 14 n),(16,4,.ls 15 mm),(11,0,.pv (.slice none 0 0)),(11,1,.pv (.slice none 0 0)),(11,2,.pv (.slice none 0 0)),(11,3,.pv (.slice none 0 0)),(11,4,.pv (.slice none 0 0)),(14,0,.row 62 5 n (qaO (ev))),(15,0,.row 3 1 mm (ziV (wh)))]) (.exit 0) [(1,.pv (iV ((upM d ev wh ii).2.2:Int)))] ([(16,0,.ls 5 u2.length),(16,1,.ls 6 b2.length),(16,2,.ls 7 f2.length),(16,3,.ls 14 n),(16,4,.ls 15 mm),(11,0,.pv (.slice none 0 0)),(11,1,.pv (.slice none 0 0)),(11,2,.pv (.slice none 0 0)),(11,3,.pv (.slice none 0 0)),(11,4,.pv (.slice none 0 0)),(14,0,.row 62 5 n (qaO ((upM d ev wh ii).1))),(15,0,.row 3 1 mm (ziV ((upM d ev wh ii).2.1)))]):=by
 refine (qfF (n:=n) (mm:=mm) (Q:=fun (ii:Nat) ev wh (ii':Nat) ev' wh'=>Rl 8 19 222 0 29 20 ([(1,.pv (iV (ii:Int))),(2,.pp 19 0)]) ([(19,0,.ls 5 u2.length),(19,1,.ls 6 b2.length),(19,2,.ls 7 f2.length),(19,3,.ls 14 n),(19,4,.ls 15 mm),(16,0,.ls 5 u2.length),(16,1,.ls 6 b2.length),(16,2,.ls 7 f2.length),(16,3,.ls 14 n),(16,4,.ls 15 mm),(11,0,.pv (.slice none 0 0)),(11,1,.pv (.slice none 0 0)),(11,2,.pv (.slice none 0 0)),(11,3,.pv (.slice none 0 0)),(11,4,.pv (.slice none 0 0)),(14,0,.row 62 5 n (qaO (ev))),(15,0,.row 3 1 mm (ziV (wh)))]) (.exit 0) [(1,.pv (iV (ii':Int)))] ([(16,0,.ls 5 u2.length),(16,1,.ls 6 b2.length),(16,2,.ls 7 f2.length),(16,3,.ls 14 n),(16,4,.ls 15 mm),(11,0,.pv (.slice none 0 0)),(11,1,.pv (.slice none 0 0)),(11,2,.pv (.slice none 0 0)),(11,3,.pv (.slice none 0 0)),(11,4,.pv (.slice none 0 0)),(14,0,.row 62 5 n (qaO (ev'))),(15,0,.row 3 1 mm (ziV (wh')))])) ?_ ?_ ?_ d ii ev wh a c I).1
 ·intro i ev wh x y i' ev' wh' I h0 hi hx hy hl r
  have ox:=I.ok x (List.mem_of_getElem? hx);have oy:=I.ok y (List.mem_of_getElem? hy);have ix:=I.ix x (List.mem_of_getElem? hx);have iy:=I.ix y (List.mem_of_getElem? hy)
  have l1:=I.len;have l2:=I.wl;have hc:=qbz ox oy;rw[hl] at hc
  exact qlr ⟨by omega,by omega⟩ hx ⟨by omega,by omega⟩ hy (decide_eq_true (by omega)) (qbh (by omega) (by omega)) hc (by omega) iy (by omega) (by rw[List.length_set];omega) ix (by rw[List.length_set];omega) r
 ·intro i ev wh x y I h0 hi hx hy hl
  have hc:=qbz (I.ok x (List.mem_of_getElem? hx)) (I.ok y (List.mem_of_getElem? hy));rw[hl] at hc
  exact qlo ⟨by omega,by omega⟩ hx ⟨by omega,by omega⟩ hy (decide_eq_true (by omega)) (qbh (by omega) (by omega)) hc
 ·intro ev wh I
  exact qkX (k:=0) (decide_eq_false (by omega))
theorem qB7 {u2:List Int} {b2:List Bool} {f2:List Int} {n mm:Nat} (hn:n≤1000000) (d ii:Nat) (ev:List Ev) (wh:List Int) (a:ii≤d) (c:ii<n) (I:AInv n mm ev wh):Rl 5 18 222 0 29 19 ([(1,.pv (iV (ii:Int))),(2,.pp 18 0)]) ([(18,0,.ls 8 u2.length),(18,1,.ls 9 b2.length),(18,2,.ls 10 f2.length),(18,3,.ls 12 n),(18,4,.ls 13 mm),(14,0,.ls 8 u2.length),(14,1,.ls 9 b2.length),(14,2,.ls 10 f2.length),(14,3,.ls 12 n),(14,4,.ls 13 mm),(6,0,.pv (.slice none 0 0)),(6,1,.pv (.slice none 0 0)),(6,2,.pv (.slice none 0 0)),(6,3,.pv (.slice none 0 0)),(6,4,.pv (.slice none 0 0)),(17,0,.ls 8 u2.length),(17,1,.ls 9 b2.length),(17,2,.ls 10 f2.length),(17,3,.ls 12 n),(17,4,.ls 13 mm),(8,0,zrI u2),(9,0,zrB b2),(10,0,zrI f2),(12,0,.row 62 5 n (qaO (ev))),(13,0,.row 3 1 mm (ziV (wh)))]) (.exit 0) [(1,.pv (iV ((upM d ev wh ii).2.2:Int)))] ([(14,0,.ls 8 u2.length),(14,1,.ls 9 b2.length),(14,2,.ls 10 f2.length),(14,3,.ls 12 n),(14,4,.ls 13 mm),(6,0,.pv (.slice none 0 0)),(6,1,.pv (.slice none 0 0)),(6,2,.pv (.slice none 0 0)),(6,3,.pv (.slice none 0 0)),(6,4,.pv (.slice none 0 0)),(17,0,.ls 8 u2.length),(17,1,.ls 9 b2.length),(17,2,.ls 10 f2.length),(17,3,.ls 12 n),(17,4,.ls 13 mm),(8,0,zrI u2),(9,0,zrB b2),(10,0,zrI f2),(12,0,.row 62 5 n (qaO ((upM d ev wh ii).1))),(13,0,.row 3 1 mm (ziV ((upM d ev wh ii).2.1)))]):=by
 refine (qfF (n:=n) (mm:=mm) (Q:=fun (ii:Nat) ev wh (ii':Nat) ev' wh'=>Rl 5 18 222 0 29 19 ([(1,.pv (iV (ii:Int))),(2,.pp 18 0)]) ([(18,0,.ls 8 u2.length),(18,1,.ls 9 b2.length),(18,2,.ls 10 f2.length),(18,3,.ls 12 n),(18,4,.ls 13 mm),(14,0,.ls 8 u2.length),(14,1,.ls 9 b2.length),(14,2,.ls 10 f2.length),(14,3,.ls 12 n),(14,4,.ls 13 mm),(6,0,.pv (.slice none 0 0)),(6,1,.pv (.slice none 0 0)),(6,2,.pv (.slice none 0 0)),(6,3,.pv (.slice none 0 0)),(6,4,.pv (.slice none 0 0)),(17,0,.ls 8 u2.length),(17,1,.ls 9 b2.length),(17,2,.ls 10 f2.length),(17,3,.ls 12 n),(17,4,.ls 13 mm),(8,0,zrI u2),(9,0,zrB b2),(10,0,zrI f2),(12,0,.row 62 5 n (qaO (ev))),(13,0,.row 3 1 mm (ziV (wh)))]) (.exit 0) [(1,.pv (iV (ii':Int)))] ([(14,0,.ls 8 u2.length),(14,1,.ls 9 b2.length),(14,2,.ls 10 f2.length),(14,3,.ls 12 n),(14,4,.ls 13 mm),(6,0,.pv (.slice none 0 0)),(6,1,.pv (.slice none 0 0)),(6,2,.pv (.slice none 0 0)),(6,3,.pv (.slice none 0 0)),(6,4,.pv (.slice none 0 0)),(17,0,.ls 8 u2.length),(17,1,.ls 9 b2.length),(17,2,.ls 10 f2.length),(17,3,.ls 12 n),(17,4,.ls 13 mm),(8,0,zrI u2),(9,0,zrB b2),(10,0,zrI f2),(12,0,.row 62 5 n (qaO (ev'))),(13,0,.row 3 1 mm (ziV (wh')))])) ?_ ?_ ?_ d ii ev wh a c I).1
 ·intro i ev wh x y i' ev' wh' I h0 hi hx hy hl r
  have ox:=I.ok x (List.mem_of_getElem? hx);have oy:=I.ok y (List.mem_of_getElem? hy);have ix:=I.ix x (List.mem_of_getElem? hx);have iy:=I.ix y (List.mem_of_getElem? hy)
  have l1:=I.len;have l2:=I.wl;have hc:=qbz ox oy;rw[hl] at hc
  exact qkN ⟨by omega,by omega⟩ hx ⟨by omega,by omega⟩ hy (decide_eq_true (by omega)) (qbh (by omega) (by omega)) hc (by omega) iy (by omega) (by rw[List.length_set];omega) ix (by rw[List.length_set];omega) r
 ·intro i ev wh x y I h0 hi hx hy hl
  have hc:=qbz (I.ok x (List.mem_of_getElem? hx)) (I.ok y (List.mem_of_getElem? hy));rw[hl] at hc
  exact qk5 ⟨by omega,by omega⟩ hx ⟨by omega,by omega⟩ hy (decide_eq_true (by omega)) (qbh (by omega) (by omega)) hc
 ·intro ev wh I
  exact qkS (k:=0) (decide_eq_false (by omega))
theorem qDf {u2:List Int} {b2:List Bool} {f2:List Int} {n mm:Nat} (hn:n≤1000000) (d ii:Nat) (ev:List Ev) (wh:List Int) (a:n≤ii+d) (c:ii<n) (I:AInv n mm ev wh):Rl 5 19 221 0 17 20 ([(1,.pv (iV (ii:Int))),(2,.pp 19 0)]) ([(19,0,.ls 8 u2.length),(19,1,.ls 9 b2.length),(19,2,.ls 10 f2.length),(19,3,.ls 12 n),(19,4,.ls 13 mm),(14,0,.ls 8 u2.length),(14,1,.ls 9 b2.length),(14,2,.ls 10 f2.length),(14,3,.ls 12 n),(14,4,.ls 13 mm),(6,0,.pv (.slice none 0 0)),(6,1,.pv (.slice none 0 0)),(6,2,.pv (.slice none 0 0)),(6,3,.pv (.slice none 0 0)),(6,4,.pv (.slice none 0 0)),(17,0,.ls 8 u2.length),(17,1,.ls 9 b2.length),(17,2,.ls 10 f2.length),(17,3,.ls 12 n),(17,4,.ls 13 mm),(8,0,zrI u2),(9,0,zrB b2),(10,0,zrI f2),(12,0,.row 62 5 n (qaO (ev))),(13,0,.row 3 1 mm (ziV (wh)))]) .ret [] ([(14,0,.ls 8 u2.length),(14,1,.ls 9 b2.length),(14,2,.ls 10 f2.length),(14,3,.ls 12 n),(14,4,.ls 13 mm),(6,0,.pv (.slice none 0 0)),(6,1,.pv (.slice none 0 0)),(6,2,.pv (.slice none 0 0)),(6,3,.pv (.slice none 0 0)),(6,4,.pv (.slice none 0 0)),(17,0,.ls 8 u2.length),(17,1,.ls 9 b2.length),(17,2,.ls 10 f2.length),(17,3,.ls 12 n),(17,4,.ls 13 mm),(8,0,zrI u2),(9,0,zrB b2),(10,0,zrI f2),(12,0,.row 62 5 n (qaO ((dnM d ev wh ii).1))),(13,0,.row 3 1 mm (ziV ((dnM d ev wh ii).2)))]):=by
 refine (qhf (n:=n) (mm:=mm) (Q:=fun (ii:Nat) ev wh ev' wh'=>Rl 5 19 221 0 17 20 ([(1,.pv (iV (ii:Int))),(2,.pp 19 0)]) ([(19,0,.ls 8 u2.length),(19,1,.ls 9 b2.length),(19,2,.ls 10 f2.length),(19,3,.ls 12 n),(19,4,.ls 13 mm),(14,0,.ls 8 u2.length),(14,1,.ls 9 b2.length),(14,2,.ls 10 f2.length),(14,3,.ls 12 n),(14,4,.ls 13 mm),(6,0,.pv (.slice none 0 0)),(6,1,.pv (.slice none 0 0)),(6,2,.pv (.slice none 0 0)),(6,3,.pv (.slice none 0 0)),(6,4,.pv (.slice none 0 0)),(17,0,.ls 8 u2.length),(17,1,.ls 9 b2.length),(17,2,.ls 10 f2.length),(17,3,.ls 12 n),(17,4,.ls 13 mm),(8,0,zrI u2),(9,0,zrB b2),(10,0,zrI f2),(12,0,.row 62 5 n (qaO (ev))),(13,0,.row 3 1 mm (ziV (wh)))]) .ret [] ([(14,0,.ls 8 u2.length),(14,1,.ls 9 b2.length),(14,2,.ls 10 f2.length),(14,3,.ls 12 n),(14,4,.ls 13 mm),(6,0,.pv (.slice none 0 0)),(6,1,.pv (.slice none 0 0)),(6,2,.pv (.slice none 0 0)),(6,3,.pv (.slice none 0 0)),(6,4,.pv (.slice none 0 0)),(17,0,.ls 8 u2.length),(17,1,.ls 9 b2.length),(17,2,.ls 10 f2.length),(17,3,.ls 12 n),(17,4,.ls 13 mm),(8,0,zrI u2),(9,0,zrB b2),(10,0,zrI f2),(12,0,.row 62 5 n (qaO (ev'))),(13,0,.row 3 1 mm (ziV (wh')))])) ?_ ?_ d ii ev wh a c I).1
 ·intro i ev wh x y ev' wh' I hi hl hx hy hlt r
  have ix:=I.ix x (List.mem_of_getElem? hx);have iy:=I.ix y (List.mem_of_getElem? hy)
  have l1:=I.len;have l2:=I.wl
  have hle:=qdt I.ok (by omega) (show i<ev.length by omega)
  simp only[qao,l1] at hle
  exact qkV hle (by simp;omega) ⟨by omega,by omega⟩ hx ⟨by omega,by omega⟩ hy (by omega) iy (by omega) (by rw[List.length_set];omega) ix (by rw[List.length_set];omega) r
 ·intro i ev wh I hi hl
  have l1:=I.len
  have hle:=qdt I.ok (by omega) (show i<ev.length by omega)
  simp only[qao,l1] at hle
  exact qlB hle (by simp;omega)
theorem qCL {u:List Int} {b:List Bool} {fr:List Int} {n mm:Nat} (hn:n≤1000000) (d ii:Nat) (ev:List Ev) (wh:List Int) (a:ii≤d) (c:ii<n) (I:AInv n mm ev wh):Rl 5 15 222 0 29 16 ([(1,.pv (iV (ii:Int))),(2,.pp 15 0)]) ([(15,0,.ls 8 u.length),(15,1,.ls 9 b.length),(15,2,.ls 10 fr.length),(15,3,.ls 11 n),(15,4,.ls 12 mm),(13,0,.ls 8 u.length),(13,1,.ls 9 b.length),(13,2,.ls 10 fr.length),(13,3,.ls 11 n),(13,4,.ls 12 mm),(7,0,.pv (.slice none 0 0)),(7,1,.pv (.slice none 0 0)),(7,2,.pv (.slice none 0 0)),(7,3,.pv (.slice none 0 0)),(7,4,.pv (.slice none 0 0)),(14,0,.ls 8 u.length),(14,1,.ls 9 b.length),(14,2,.ls 10 fr.length),(14,3,.ls 11 n),(14,4,.ls 12 mm),(8,0,zrI u),(9,0,zrB b),(10,0,zrI fr),(11,0,.row 62 5 n (qaO (ev))),(12,0,.row 3 1 mm (ziV (wh)))]) (.exit 0) [(1,.pv (iV ((upM d ev wh ii).2.2:Int)))] ([(13,0,.ls 8 u.length),(13,1,.ls 9 b.length),(13,2,.ls 10 fr.length),(13,3,.ls 11 n),(13,4,.ls 12 mm),(7,0,.pv (.slice none 0 0)),(7,1,.pv (.slice none 0 0)),(7,2,.pv (.slice none 0 0)),(7,3,.pv (.slice none 0 0)),(7,4,.pv (.slice none 0 0)),(14,0,.ls 8 u.length),(14,1,.ls 9 b.length),(14,2,.ls 10 fr.length),(14,3,.ls 11 n),(14,4,.ls 12 mm),(8,0,zrI u),(9,0,zrB b),(10,0,zrI fr),(11,0,.row 62 5 n (qaO ((upM d ev wh ii).1))),(12,0,.row 3 1 mm (ziV ((upM d ev wh ii).2.1)))]):=by
 refine (qfF (n:=n) (mm:=mm) (Q:=fun (ii:Nat) ev wh (ii':Nat) ev' wh'=>Rl 5 15 222 0 29 16 ([(1,.pv (iV (ii:Int))),(2,.pp 15 0)]) ([(15,0,.ls 8 u.length),(15,1,.ls 9 b.length),(15,2,.ls 10 fr.length),(15,3,.ls 11 n),(15,4,.ls 12 mm),(13,0,.ls 8 u.length),(13,1,.ls 9 b.length),(13,2,.ls 10 fr.length),(13,3,.ls 11 n),(13,4,.ls 12 mm),(7,0,.pv (.slice none 0 0)),(7,1,.pv (.slice none 0 0)),(7,2,.pv (.slice none 0 0)),(7,3,.pv (.slice none 0 0)),(7,4,.pv (.slice none 0 0)),(14,0,.ls 8 u.length),(14,1,.ls 9 b.length),(14,2,.ls 10 fr.length),(14,3,.ls 11 n),(14,4,.ls 12 mm),(8,0,zrI u),(9,0,zrB b),(10,0,zrI fr),(11,0,.row 62 5 n (qaO (ev))),(12,0,.row 3 1 mm (ziV (wh)))]) (.exit 0) [(1,.pv (iV (ii':Int)))] ([(13,0,.ls 8 u.length),(13,1,.ls 9 b.length),(13,2,.ls 10 fr.length),(13,3,.ls 11 n),(13,4,.ls 12 mm),(7,0,.pv (.slice none 0 0)),(7,1,.pv (.slice none 0 0)),(7,2,.pv (.slice none 0 0)),(7,3,.pv (.slice none 0 0)),(7,4,.pv (.slice none 0 0)),(14,0,.ls 8 u.length),(14,1,.ls 9 b.length),(14,2,.ls 10 fr.length),(14,3,.ls 11 n),(14,4,.ls 12 mm),(8,0,zrI u),(9,0,zrB b),(10,0,zrI fr),(11,0,.row 62 5 n (qaO (ev'))),(12,0,.row 3 1 mm (ziV (wh')))])) ?_ ?_ ?_ d ii ev wh a c I).1
 ·intro i ev wh x y i' ev' wh' I h0 hi hx hy hl r
  have ox:=I.ok x (List.mem_of_getElem? hx);have oy:=I.ok y (List.mem_of_getElem? hy);have ix:=I.ix x (List.mem_of_getElem? hx);have iy:=I.ix y (List.mem_of_getElem? hy)
  have l1:=I.len;have l2:=I.wl;have hc:=qbz ox oy;rw[hl] at hc
  exact qk3 ⟨by omega,by omega⟩ hx ⟨by omega,by omega⟩ hy (decide_eq_true (by omega)) (qbh (by omega) (by omega)) hc (by omega) iy (by omega) (by rw[List.length_set];omega) ix (by rw[List.length_set];omega) r
 ·intro i ev wh x y I h0 hi hx hy hl
  have hc:=qbz (I.ok x (List.mem_of_getElem? hx)) (I.ok y (List.mem_of_getElem? hy));rw[hl] at hc
  exact qlR ⟨by omega,by omega⟩ hx ⟨by omega,by omega⟩ hy (decide_eq_true (by omega)) (qbh (by omega) (by omega)) hc
 ·intro ev wh I
  exact qlD (k:=0) (decide_eq_false (by omega))
theorem qBV {u:List Int} {b:List Bool} {fr:List Int} {n mm:Nat} (hn:n≤1000000) (d ii:Nat) (ev:List Ev) (wh:List Int) (a:n≤ii+d) (c:ii<n) (I:AInv n mm ev wh):Rl 5 16 221 0 17 17 ([(1,.pv (iV (ii:Int))),(2,.pp 16 0)]) ([(16,0,.ls 8 u.length),(16,1,.ls 9 b.length),(16,2,.ls 10 fr.length),(16,3,.ls 11 n),(16,4,.ls 12 mm),(13,0,.ls 8 u.length),(13,1,.ls 9 b.length),(13,2,.ls 10 fr.length),(13,3,.ls 11 n),(13,4,.ls 12 mm),(7,0,.pv (.slice none 0 0)),(7,1,.pv (.slice none 0 0)),(7,2,.pv (.slice none 0 0)),(7,3,.pv (.slice none 0 0)),(7,4,.pv (.slice none 0 0)),(14,0,.ls 8 u.length),(14,1,.ls 9 b.length),(14,2,.ls 10 fr.length),(14,3,.ls 11 n),(14,4,.ls 12 mm),(8,0,zrI u),(9,0,zrB b),(10,0,zrI fr),(11,0,.row 62 5 n (qaO (ev))),(12,0,.row 3 1 mm (ziV (wh)))]) .ret [] ([(13,0,.ls 8 u.length),(13,1,.ls 9 b.length),(13,2,.ls 10 fr.length),(13,3,.ls 11 n),(13,4,.ls 12 mm),(7,0,.pv (.slice none 0 0)),(7,1,.pv (.slice none 0 0)),(7,2,.pv (.slice none 0 0)),(7,3,.pv (.slice none 0 0)),(7,4,.pv (.slice none 0 0)),(14,0,.ls 8 u.length),(14,1,.ls 9 b.length),(14,2,.ls 10 fr.length),(14,3,.ls 11 n),(14,4,.ls 12 mm),(8,0,zrI u),(9,0,zrB b),(10,0,zrI fr),(11,0,.row 62 5 n (qaO ((dnM d ev wh ii).1))),(12,0,.row 3 1 mm (ziV ((dnM d ev wh ii).2)))]):=by
 refine (qhf (n:=n) (mm:=mm) (Q:=fun (ii:Nat) ev wh ev' wh'=>Rl 5 16 221 0 17 17 ([(1,.pv (iV (ii:Int))),(2,.pp 16 0)]) ([(16,0,.ls 8 u.length),(16,1,.ls 9 b.length),(16,2,.ls 10 fr.length),(16,3,.ls 11 n),(16,4,.ls 12 mm),(13,0,.ls 8 u.length),(13,1,.ls 9 b.length),(13,2,.ls 10 fr.length),(13,3,.ls 11 n),(13,4,.ls 12 mm),(7,0,.pv (.slice none 0 0)),(7,1,.pv (.slice none 0 0)),(7,2,.pv (.slice none 0 0)),(7,3,.pv (.slice none 0 0)),(7,4,.pv (.slice none 0 0)),(14,0,.ls 8 u.length),(14,1,.ls 9 b.length),(14,2,.ls 10 fr.length),(14,3,.ls 11 n),(14,4,.ls 12 mm),(8,0,zrI u),(9,0,zrB b),(10,0,zrI fr),(11,0,.row 62 5 n (qaO (ev))),(12,0,.row 3 1 mm (ziV (wh)))]) .ret [] ([(13,0,.ls 8 u.length),(13,1,.ls 9 b.length),(13,2,.ls 10 fr.length),(13,3,.ls 11 n),(13,4,.ls 12 mm),(7,0,.pv (.slice none 0 0)),(7,1,.pv (.slice none 0 0)),(7,2,.pv (.slice none 0 0)),(7,3,.pv (.slice none 0 0)),(7,4,.pv (.slice none 0 0)),(14,0,.ls 8 u.length),(14,1,.ls 9 b.length),(14,2,.ls 10 fr.length),(14,3,.ls 11 n),(14,4,.ls 12 mm),(8,0,zrI u),(9,0,zrB b),(10,0,zrI fr),(11,0,.row 62 5 n (qaO (ev'))),(12,0,.row 3 1 mm (ziV (wh')))])) ?_ ?_ d ii ev wh a c I).1
 ·intro i ev wh x y ev' wh' I hi hl hx hy hlt r
  have ix:=I.ix x (List.mem_of_getElem? hx);have iy:=I.ix y (List.mem_of_getElem? hy)
  have l1:=I.len;have l2:=I.wl
  have hle:=qdt I.ok (by omega) (show i<ev.length by omega)
  simp only[qao,l1] at hle
  exact qlU hle (by simp;omega) ⟨by omega,by omega⟩ hx ⟨by omega,by omega⟩ hy (by omega) iy (by omega) (by rw[List.length_set];omega) ix (by rw[List.length_set];omega) r
 ·intro i ev wh I hi hl
  have l1:=I.len
  have hle:=qdt I.ok (by omega) (show i<ev.length by omega)
  simp only[qao,l1] at hle
  exact qk4 hle (by simp;omega)
theorem qnd:∀ (n:Nat) (l:List Nat),l.Nodup→(∀ x∈l,x<n)→l.length≤n
 | 0,l,_,h=>by
  cases l with
  | nil=>simp
  | cons a r=>have:=h a List.mem_cons_self;omega
 | n+1,l,hd,h=>by
  by_cases hm:n∈l
  ·have h1:=qnd n (l.erase n) (hd.erase n) (fun x hx=>by
    obtain⟨a,c⟩:=hd.mem_erase_iff.1 hx
    have:=h x c;omega)
   rw[List.length_erase_of_mem hm] at h1
   omega
  ·have:=qnd n l hd (fun x hx=>by
    have:=h x hx
    have:x≠n:=fun e=>hm (e▸hx)
    omega)
   omega
theorem qfD {n:Nat} {l:List Nat} (hd:l.Nodup) (h:∀ x∈l,x<n) (hl:l.length=n) {j:Nat} (hj:j<n):j∈l:=by
 apply Classical.byContradiction
 intro hm
 have:=qnd n (j::l) (List.nodup_cons.2 ⟨hm,hd⟩) (fun x hx=>by
  rcases List.mem_cons.1 hx with rfl | hx
  ·exact hj
  ·exact h x hx)
 simp at this
 omega
def qhv (b:List Bool):List Nat:=(List.range b.length).filter fun k=>b[k]?==some true
theorem qep:∀ (b:List Bool),(qhv b).length=b.count true
 | []=>rfl
 | c::r=>by
  have ih:=qep r
  unfold qhv at ih ⊢
  have e:((fun k=>(c::r)[k]?==some true)∘Nat.succ)=fun k=>r[k]?==some true:=by funext k;simp
  rw[List.length_cons,List.range_succ_eq_map,List.filter_cons,List.filter_map,e]
  cases c
  ·simp[ih]
  ·simp[ih]
theorem qhi {b:List Bool} {k:Nat}:k∈qhv b↔b[k]?=some true:=by
 unfold qhv
 rw[List.mem_filter,List.mem_range]
 exact⟨fun h=>by simpa using h.2,fun h=>⟨(List.getElem?_eq_some_iff.1 h).1,by simpa using h⟩⟩
theorem qkC {u:List Int} {ev:List Ev} {wh:List Int} {k:Nat} (h:qa8 u ev wh k=true):∃ j x,wh[k]?=some ((j:Nat):Int)∧ev[j]?=some x∧x.i=(k:Int)∧u[k]?=some x.w:=by
 unfold qa8 at h
 split at h
 ·rename_i z c hz hc
  rw[Bool.and_eq_true,decide_eq_true_eq] at h
  obtain⟨h0,h1⟩:=h
  split at h1
  ·rename_i x hx
   rw[Bool.and_eq_true,decide_eq_true_eq,decide_eq_true_eq] at h1
   exact⟨z.toNat,x,by rw[hz,Int.toNat_of_nonneg h0],hx,h1.1,by rw[hc,h1.2]⟩
  ·cases h1
 ·cases h
section
variable {u fr wh:List Int} {b:List Bool} {ev:List Ev}
theorem VA.used (h:VA u b fr ev wh) {k:Nat} (hk:b[k]?=some true):∃ j x,wh[k]?=some ((j:Nat):Int)∧ev[j]?=some x∧x.i=(k:Int)∧u[k]?=some x.w:=by
 have:=h.wf.at_ k (List.getElem?_eq_some_iff.1 hk).1
 unfold whB at this
 rw[hk] at this
 exact qkC this
theorem VA.free (h:VA u b fr ev wh) {k:Nat} (hk:b[k]?=some false):wh[k]?=some (-1):=by
 have:=h.wf.at_ k (List.getElem?_eq_some_iff.1 hk).1
 unfold whB at this
 rw[hk] at this
 simpa using this
theorem VA.own (h:VA u b fr ev wh) {j:Nat} {x:Ev} (hx:ev[j]?=some x):Live u b x.i x.w∧wh[x.i.toNat]?=some (j:Int):=by
 have hj:j<ev.length:=(List.getElem?_eq_some_iff.1 hx).1
 let g:Nat→Nat:=fun k=>(wh[k]?.getD 0).toNat
 have hg:∀ k∈qhv b,∃ x,ev[g k]?=some x∧x.i=(k:Int)∧u[k]?=some x.w∧wh[k]?=some ((g k:Nat):Int):=by
  intro k hk
  obtain⟨q,y,h1,h2,h3,h4⟩:=h.used (qhi.1 hk)
  have e:g k=q:=by simp[g,h1]
  exact⟨y,by rw[e];exact h2,h3,h4,by rw[e];exact h1⟩
 have hnd:((qhv b).map g).Nodup:=by
  have h0:(qhv b).Nodup:=List.nodup_range.filter _
  rw[List.nodup_iff_pairwise_ne,List.pairwise_map]
  refine (List.nodup_iff_pairwise_ne.1 h0).imp_of_mem fun {a c} ha hc hac e=>?_
  obtain⟨y,h1,h2,_⟩:=hg a ha
  obtain⟨z,k1,k2,_⟩:=hg c hc
  rw[e,k1] at h1
  cases h1
  omega
 have hm:j∈(qhv b).map g:=qfD hnd (fun q hq=>by
  obtain⟨k,hk,rfl⟩:=List.mem_map.1 hq
  obtain⟨y,h1,_⟩:=hg k hk
  exact (List.getElem?_eq_some_iff.1 h1).1) (by rw[List.length_map,qep];exact h.wf.cnt) hj
 obtain⟨k,hk,e⟩:=List.mem_map.1 hm
 obtain⟨y,h1,h2,h3,h4⟩:=hg k hk
 rw[e] at h1 h4
 rw[hx] at h1
 cases h1
 have hku:k<u.length:=(List.getElem?_eq_some_iff.1 h3).1
 have ek:x.i.toNat=k:=by omega
 exact⟨⟨by omega,by omega,by rw[ek];exact qhi.1 hk,by rw[ek];exact h3⟩,by rw[ek];exact h4⟩
theorem VA.inv (h:VA u b fr ev wh):AInv ev.length wh.length ev wh:=by
 refine⟨rfl,rfl,h.ef.ok,fun x hx=>?_⟩
 obtain⟨j,hj⟩:=List.mem_iff_getElem?.1 hx
 obtain⟨h1,_⟩:=h.own hj
 have:=h.lens
 exact⟨h1.lo,by have:=h1.lt;omega⟩
theorem qxH {f:FuncId} {e:TypeId} {n:Nat} {xs:List Value} (hx:xs.length=n*5)
 (pth:0<n→Fn f 1 [.ls 0 n] [(0,0,.row e 5 n xs)] (.ls 1 n) 1 [(1,0,.row e 5 n xs)])
 (pe:∀ ad c,Fn f 0 [.pv (.slice (some ad) 0 c)] [] (.ls 0 0) 1 [(0,0,.row e 5 0 [])])
 (pn:∀ c,Pure Tryz.prog f #[.slice none 0 c] (.slice none 0 0)):Fn f 1 [.ls 0 n] [(0,0,.row e 5 n xs)] (.ls 1 n) 1 [(1,0,.row e 5 n xs)]:=by
 rcases Nat.eq_zero_or_pos n with h | h
 ·subst h
  obtain rfl:=List.eq_nil_of_length_eq_zero (by simpa using hx)
  intro w β us hH hd hargs
  match us,hargs with
  | [v],⟨⟨_,a,c,hv⟩,_⟩=>
   have hd1:=hd 1 (Nat.le_refl _)
   cases a with
   | none=>
    subst hv
    refine (pn c w).mono fun e' w' ⟨he,hg⟩=>?_
    have ho:w'.ownsRow w.heap.size e 5 (.slice none 0 0) 0 []:=⟨rfl,Or.inl ⟨rfl,rfl⟩⟩
    exact⟨_,β.setG 1 (.slice none 0 0),he,Bl.le_setG hd1.1 hd1.2,⟨Bl.setG_same _ _ _,none,0,rfl⟩,qc1 hH hd hg ho (fun v hv=>by cases hv),qbH hd⟩
   | some ad=>
    subst hv
    refine (pe ad c w Bl.no [.slice (some ad) 0 c] (qen w) (fun _ _=>⟨rfl,rfl⟩) ⟨rfl,tI⟩).mono fun e' w' ⟨v,β',he,_,⟨hx,a',c',hv⟩,hh,_⟩=>?_
    obtain⟨u,hu,hr⟩:=hh.rows 0 0 _ _ _ _ rfl
    rw[hx] at hu
    cases hu
    exact⟨_,β.setG 1 v,he,Bl.le_setG hd1.1 hd1.2,⟨Bl.setG_same _ _ _,a',c',hv⟩,qc1 hH hd hh.gr (hr.own (Nat.le_refl _)) (fun v hv=>by cases hv),qbH hd⟩
 ·exact pth h
theorem qd1 {n:Nat} {xs:List Value} (hx:xs.length=n*5) (hn:n≤1000000):Fn 153 1 [.ls 0 n] [(0,0,.row 62 5 n xs)] (.ls 1 n) 1 [(1,0,.row 62 5 n xs)]:=
 qxH hx (fun h=>qrB h (by omega)) (fun ad c=>qDK) (fun c=>quv)
theorem qe1 {m:Nat} (hm:m≤ev.length) (hn:ev.length≤1000000):Fn 153 1 [.lq 0 5 0 m] [(0,0,qao ev)] (.ls 1 m) 1 [(1,0,.row 62 5 m (qaO (ev.take m)))]:=by
 refine qAA ?_ (by omega)
 rw[Nat.zero_mul,List.drop_zero,qia]
 exact qd1 (by rw[qbx,List.length_take];congr 1;omega) (by omega)
theorem qfk {l:List Bool} (hn:l.length≤1000000):Fn 152 1 [.ls 0 l.length] [(0,0,zrB l)] (.ls 1 l.length) 1 [(1,0,zrB l)]:=
 qj7 (qeg l) (fun h=>qm7 h (by omega)) (fun ad c=>qxy) (fun c=>qph)
def qba (ev:List Ev) (wh:List Int) (x:Ev):List Ev×List Int:=
 ((upM ev.length (ev++[x]) (wh.set x.i.toNat (ev.length:Int)) ev.length).1,(upM ev.length (ev++[x]) (wh.set x.i.toNat (ev.length:Int)) ev.length).2.1)
theorem qdX {n mm d i:Nat} {ev:List Ev} {wh:List Int} (a:i≤d) (b:i<n) (I:AInv n mm ev wh):AInv n mm (upM d ev wh i).1 (upM d ev wh i).2.1∧(upM d ev wh i).2.2<n:=
 (qfF (Q:=fun _ _ _ _ _ _=>True) (fun _ _ _ _ _ _ _ _ _ _ _ _ _ _ _=>tI) (fun _ _ _ _ _ _ _ _ _ _ _=>tI) (fun _ _ _=>tI) d i ev wh a b I).2
theorem qwc {n mm d i:Nat} {ev:List Ev} {wh:List Int} (a:n≤i+d) (b:i<n) (I:AInv n mm ev wh):AInv n mm (dnM d ev wh i).1 (dnM d ev wh i).2:=
 (qhf (Q:=fun _ _ _ _ _=>True) (fun _ _ _ _ _ _ _ _ _ _ _ _ _ _=>tI) (fun _ _ _ _ _ _=>tI) d i ev wh a b I).2
theorem qo7 (ev:List Ev) (x:Ev):(ev++[x]).set ev.length x=ev++[x]:=by
 rw[List.set_append_right _ _ (by omega),Nat.sub_self]
 rfl
theorem qjB {x:Ev} (hI:AInv ev.length wh.length ev wh) (hx:EvOk x) (hi:0≤x.i∧x.i<(wh.length:Int)):AInv (ev.length+1) wh.length (ev++[x]) (wh.set x.i.toNat (ev.length:Int)):=
 ⟨by simp,by simp,fun y hy=>by
  rcases List.mem_append.1 hy with h | h
  ·exact hI.ok y h
  ·rw[List.mem_singleton] at h;subst h;exact hx,fun y hy=>by
  rcases List.mem_append.1 hy with h | h
  ·exact hI.ix y h
  ·rw[List.mem_singleton] at h;subst h;exact hi⟩
theorem qkz {u2 f2:List Int} {b2:List Bool} {x:Ev} (hl:ev.length≤999998) (hw:wh.length≤1000000) (hI:AInv ev.length wh.length ev wh) (hx:EvOk x) (hi:0≤x.i∧x.i<(wh.length:Int)) :
 Fn 201 8 [agA u b fr ev wh,.ag [.ls 5 u2.length,.ls 6 b2.length,.ls 7 f2.length],.pv (qab x)] [(0,0,zrI u),(1,0,zrB b),(2,0,zrI fr),(3,0,qao ev),(4,0,zrI wh),(5,0,zrI u2),(6,0,zrB b2),(7,0,zrI f2)]
  (.ag [.ls 5 u2.length,.ls 6 b2.length,.ls 7 f2.length,.ls 8 (qba ev wh x).1.length,.ls 9 (qba ev wh x).2.length]) 2 [(8,0,qao (qba ev wh x).1),(9,0,zrI (qba ev wh x).2)]:=by
 have I:=qjB hI hx hi
 obtain⟨J,_⟩:=qdX (d:=ev.length) (i:=ev.length) (by omega) (by omega) I
 have j1:(qba ev wh x).1.length=ev.length+1:=J.len
 have j2:(qba ev wh x).2.length=wh.length:=J.wl
 simp only[qao,zrI,j1,j2]
 have r:=qCh (u2:=u2) (b2:=b2) (f2:=f2) (n:=ev.length+1) (by omega) ev.length ev.length (ev++[x]) (wh.set x.i.toNat (ev.length:Int)) (by omega) (by omega) I
 have hd:decide (((ev.length+1:Nat):Int)<0)=false:=decide_eq_false (by omega)
 refine qtw (n:=0) (k:=0) (p:=_) (ev3:=(qba ev wh x).1) (wh3:=(qba ev wh x).2) ?_ (qa2 (by omega)) (by omega) (by simp) hi (by omega) (by rw[qo7];exact r)
 exact qFp (by rw[Int.zero_add];exact qbn (by omega) (by omega)) (by simp) (qaC (by omega)) hd (qDL (z:=((ev.length+1:Nat):Int)) hd (by rw[Int.sub_zero];exact qbn (by omega) (by omega)) (decide_eq_true (by omega)) (by omega) (by omega)) (by omega) (by omega)
def qbX (n:Nat) (ev:List Ev) (wh:List Int) (i:Nat):List Ev×List Int:=dnM n (upM i ev wh i).1 (upM i ev wh i).2.1 (upM i ev wh i).2.2
theorem qc7 {n mm i:Nat} {ev:List Ev} {wh:List Int} (b:i<n) (I:AInv n mm ev wh):AInv n mm (qbX n ev wh i).1 (qbX n ev wh i).2:=by
 obtain⟨J,hp⟩:=qdX (d:=i) (Nat.le_refl _) b I
 exact qwc (by omega) hp J
def qan (ev:List Ev) (wh:List Int) (k:Nat) (x:Ev):List Ev×List Int:=
 if k<ev.length-1 then match ev[ev.length-1]? with
  | some xl=>qbX (ev.length-1) ((ev.take (ev.length-1)).set k xl) ((wh.set x.i.toNat (-1)).set xl.i.toNat (k:Int)) k
  | none=>([],[])
 else (ev.take (ev.length-1),wh.set x.i.toNat (-1))
theorem qfh {x xl:Ev} {k:Nat} (hI:AInv ev.length wh.length ev wh) (hk:k<ev.length-1) (hl:ev[ev.length-1]?=some xl):AInv (ev.length-1) wh.length ((ev.take (ev.length-1)).set k xl) ((wh.set x.i.toNat (-1)).set xl.i.toNat (k:Int)):=by
 have hm:∀ y∈(ev.take (ev.length-1)).set k xl,y∈ev:=fun y hy=>by
  rcases List.mem_or_eq_of_mem_set hy with h | h
  ·exact List.mem_of_mem_take h
  ·subst h;exact List.mem_of_getElem? hl
 exact⟨by simp,by simp,fun y hy=>hI.ok y (hm y hy),fun y hy=>hI.ix y (hm y hy)⟩
theorem qib {x:Ev} {k:Nat} (h:VA u b fr ev wh) (hx:ev[k]?=some x) :
 Fn 204 5 [agA u b fr ev wh,.pv (iV (k:Int))] [(0,0,zrI u),(1,0,zrB b),(2,0,zrI fr),(3,0,qao ev),(4,0,zrI wh)]
  (.ag [.ls 5 u.length,.ls 6 (b.set x.i.toNat false).length,.ls 7 (fr++[x.i]).length,.ls 8 (qan ev wh k x).1.length,.ls 9 (qan ev wh k x).2.length]) 5
  [(5,0,zrI u),(6,0,zrB (b.set x.i.toNat false)),(7,0,zrI (fr++[x.i])),(8,0,qao (qan ev wh k x).1),(9,0,zrI (qan ev wh k x).2)]:=by
 obtain⟨hlv,hwx⟩:=h.own hx
 have hlen:=h.lens
 have hI:=h.inv
 have hk:k<ev.length:=(List.getElem?_eq_some_iff.1 hx).1
 have hg:=qnm h.vd hlv
 have hla:iV (IntKind.i64.wrap ((ev.length:Int)-1))=iV ((ev.length-1:Nat):Int):=by rw[show (ev.length:Int)-1=((ev.length-1:Nat):Int) by omega];exact qbn (by omega) (by omega)
 have hwi:=hI.ix x (List.mem_of_getElem? hx)
 by_cases hm:k<ev.length-1
 ·obtain⟨xl,hxl⟩:∃ xl,ev[ev.length-1]?=some xl:=⟨_,List.getElem?_eq_getElem (by omega)⟩
  have hwl:=hI.ix xl (List.mem_of_getElem? hxl)
  have e:qan ev wh k x=qbX (ev.length-1) ((ev.take (ev.length-1)).set k xl) ((wh.set x.i.toNat (-1)).set xl.i.toNat (k:Int)) k:=by unfold qan;rw[if_pos hm,hxl]
  have I:=qfh (x:=x) hI hm hxl
  have J:=qc7 hm I
  obtain⟨K,hp⟩:=qdX (d:=k) (Nat.le_refl _) hm I
  rw[e]
  simp only[qao,zrI,J.len,J.wl]
  have r0:=qB7 (u2:=u) (b2:=b.set x.i.toNat false) (f2:=fr++[x.i]) (n:=ev.length-1) (by omega) k k _ _ (Nat.le_refl _) hm I
  have r1:=qDf (u2:=u) (b2:=b.set x.i.toNat false) (f2:=fr++[x.i]) (n:=ev.length-1) (by omega) (ev.length-1) _ _ _ (by omega) hp K
  exact qzw (p:=_) ⟨by omega,by omega⟩ hx hla hg (by omega) (qe1 (by omega) (by omega)) (qa2 (by omega)) hwi (by omega) (decide_eq_true (by omega)) ⟨by omega,by omega⟩ hxl ⟨by omega,by omega⟩ (by rw[List.length_take];omega) hwl (by rw[List.length_set];omega) r0 r1
 ·have e:qan ev wh k x=(ev.take (ev.length-1),wh.set x.i.toNat (-1)):=by unfold qan;rw[if_neg hm]
  have e1:(ev.take (ev.length-1)).length=ev.length-1:=by rw[List.length_take];omega
  rw[e]
  have e2:(wh.set x.i.toNat (-1)).length=wh.length:=List.length_set ..
  simp only[qao,zrI,e1,e2]
  exact qtH (b2:=b.set x.i.toNat false) (la:=ev.length-1) ⟨by omega,by omega⟩ hx hla hg (by omega) (qe1 (by omega) (by omega)) (qa2 (by omega)) hwi (by omega) (decide_eq_false (by omega))
def qa0 (ev:List Ev) (wh:List Int) (k:Nat) (x:Ev) (n d:Int):List Ev×List Int:=qbX ev.length (ev.set k ⟨n,d,x.k,x.i,x.w⟩) wh k
theorem qhA {x:Ev} {k:Nat} {n d:Int} (hI:AInv ev.length wh.length ev wh) (hx:ev[k]?=some x) (ht:I64 n∧I64 d) (ho:okB n d=true):AInv ev.length wh.length (ev.set k ⟨n,d,x.k,x.i,x.w⟩) wh:=by
 have xo:=hI.ok x (List.mem_of_getElem? hx)
 refine⟨by simp,rfl,fun y hy=>?_,fun y hy=>?_⟩
 ·rcases List.mem_or_eq_of_mem_set hy with h | h
  ·exact hI.ok y h
  ·subst h;exact⟨ht,ho,xo.k0,xo.k1⟩
 ·rcases List.mem_or_eq_of_mem_set hy with h | h
  ·exact hI.ix y h
  ·subst h;exact hI.ix x (List.mem_of_getElem? hx)
theorem qlI (hl:u.length≤1000000∧b.length≤1000000∧fr.length≤1000000∧ev.length≤1000000∧wh.length≤1000000):Fn 197 5 [agA u b fr ev wh] [(0,0,zrI u),(1,0,zrB b),(2,0,zrI fr),(3,0,qao ev),(4,0,zrI wh)] (.ag [.ls 5 u.length,.ls 6 b.length,.ls 7 fr.length,.ls 8 ev.length,.ls 9 wh.length]) 5 [(5,0,zrI u),(6,0,zrB b),(7,0,zrI fr),(8,0,qao ev),(9,0,zrI wh)]:=
 qqP (qa2 hl.1) (qfk hl.2.1) (qa2 hl.2.2.1) (qd1 (qbx ev) hl.2.2.2.1) (qa2 hl.2.2.2.2)
theorem qiH {x:Ev} {k:Nat} {tn td:Int} (h:VA u b fr ev wh) (hx:ev[k]?=some x) (ht:I64 tn∧I64 td) (ho:okB tn td=true) :
 Fn 160 5 [agA u b fr ev wh,.pv (iV (k:Int)),.pv (qaa tn td)] [(0,0,zrI u),(1,0,zrB b),(2,0,zrI fr),(3,0,qao ev),(4,0,zrI wh)]
  (.ag [.ls 5 u.length,.ls 6 b.length,.ls 7 fr.length,.ls 8 (qa0 ev wh k x tn td).1.length,.ls 9 (qa0 ev wh k x tn td).2.length]) 5
  [(5,0,zrI u),(6,0,zrB b),(7,0,zrI fr),(8,0,qao (qa0 ev wh k x tn td).1),(9,0,zrI (qa0 ev wh k x tn td).2)]:=by
 have hlen:=h.lens
 have hk:k<ev.length:=(List.getElem?_eq_some_iff.1 hx).1
 have I:=qhA h.inv hx ht ho
 have J:=qc7 hk I
 obtain⟨K,hp⟩:=qdX (d:=k) (Nat.le_refl _) hk I
 have j1:(qa0 ev wh k x tn td).1.length=ev.length:=J.len
 have j2:(qa0 ev wh k x tn td).2.length=wh.length:=J.wl
 simp only[qao,zrI,j1,j2]
 have r0:=qCL (u:=u) (b:=b) (fr:=fr) (n:=ev.length) (by omega) k k _ _ (Nat.le_refl _) hk I
 have r1:=qBV (u:=u) (b:=b) (fr:=fr) (n:=ev.length) (by omega) ev.length _ _ _ (by omega) hp K
 exact qta (p:=_) (qlI ⟨by omega,by omega,by omega,by omega,by omega⟩) ⟨by omega,by omega⟩ hx hk r0 r1
end
end Go.Proofs.YtkjaanhddkkodaaGreat
