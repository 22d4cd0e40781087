/-
  Joined: Yj, Yk, Yl. Conditions: none.
-/
import Derived.Test.YtkckcgpmnipnaaaGreatW37
import Derived.Test.YtkckcgpmnipnaaaGreatW21
namespace Go.Proofs.YtkckcgpmnipnaaaGreat
set_option maxRecDepth 100000
open Go.RowKit
structure AInv (n mm:Nat) (ev:List Ev) (wh:List Int):Prop where
 len:ev.length=n
 wl:wh.length=mm
 ok:∀ x∈ev,EvOk x
 ix:∀ x∈ev,0≤x.i∧x.i<(mm:Int)
abbrev swE (ev:List Ev) (i j:Nat) (x y:Ev):List Ev:=(ev.set i y).set j x
abbrev swW (wh:List Int) (i j:Nat) (x y:Ev):List Int:=(wh.set y.i.toNat (i:Int)).set x.i.toNat (j:Int)
theorem qkC {ev:List Ev} {i j:Nat} {x y z:Ev} (hx:x∈ev) (hy:y∈ev) (h:z∈swE ev i j x y):z∈ev:=by
 rcases List.mem_or_eq_of_mem_set h with h | h
 ·rcases List.mem_or_eq_of_mem_set h with h | h
  ·exact h
  ·subst h;exact hy
 ·subst h;exact hx
theorem AInv.swap {n mm:Nat} {ev:List Ev} {wh:List Int} {i j:Nat} {x y:Ev} (h:AInv n mm ev wh) (hx:x∈ev) (hy:y∈ev):AInv n mm (swE ev i j x y) (swW wh i j x y):=
 ⟨by rw[List.length_set,List.length_set];exact h.len,by rw[List.length_set,List.length_set];exact h.wl,fun z hz=>h.ok z (qkC hx hy hz),fun z hz=>h.ix z (qkC hx hy hz)⟩
def upM:Nat→List Ev→List Int→Nat→List Ev×List Int×Nat
 | 0,ev,wh,i=>(ev,wh,i)
 | d+1,ev,wh,i=>if i=0 then (ev,wh,i) else match ev[i]?,ev[(i-1)/2]? with
  | some x,some y=>if ltE x y=true then upM d (swE ev i ((i-1)/2) x y) (swW wh i ((i-1)/2) x y) ((i-1)/2) else (ev,wh,i)
  | _,_=>(ev,wh,i)
theorem qhI {n mm:Nat} {Q:Nat→List Ev→List Int→Nat→List Ev→List Int→Prop}
 (next:∀ i ev wh x y i' ev' wh',AInv n mm ev wh→0<i→i<n→ev[i]?=some x→ev[(i-1)/2]?=some y→ltE x y=true→Q ((i-1)/2) (swE ev i ((i-1)/2) x y) (swW wh i ((i-1)/2) x y) i' ev' wh'→Q i ev wh i' ev' wh')
 (stop:∀ i ev wh x y,AInv n mm ev wh→0<i→i<n→ev[i]?=some x→ev[(i-1)/2]?=some y→ltE x y=false→Q i ev wh i ev wh)
 (zero:∀ ev wh,AInv n mm ev wh→Q 0 ev wh 0 ev wh) :
 ∀ (d i:Nat) (ev:List Ev) (wh:List Int),i≤d→i<n→AInv n mm ev wh→Q i ev wh (upM d ev wh i).2.2 (upM d ev wh i).1 (upM d ev wh i).2.1∧AInv n mm (upM d ev wh i).1 (upM d ev wh i).2.1∧(upM d ev wh i).2.2<n
 | 0,i,ev,wh,a,b,c=>by
  have:i=0:=by omega
  subst this
  exact⟨zero ev wh c,c,b⟩
 | d+1,i,ev,wh,a,b,c=>by
  by_cases h0:i=0
  ·subst h0
   have e:upM (d+1) ev wh 0=(ev,wh,0):=by simp[upM]
   rw[e]
   exact⟨zero ev wh c,c,b⟩
  ·have l1:=c.len
   have hx:ev[i]?=some ev[i]:=List.getElem?_eq_getElem (by omega)
   have hy:ev[(i-1)/2]?=some (ev[(i-1)/2]'(by omega)):=List.getElem?_eq_getElem (by omega)
   generalize ev[i]=x at hx
   generalize ev[(i-1)/2]'(by omega)=y at hy
   cases hl:ltE x y
   ·have e:upM (d+1) ev wh i=(ev,wh,i):=by simp[upM,h0,hx,hy,hl]
    rw[e]
    exact⟨stop i ev wh x y c (by omega) b hx hy hl,c,b⟩
   ·have e:upM (d+1) ev wh i=upM d (swE ev i ((i-1)/2) x y) (swW wh i ((i-1)/2) x y) ((i-1)/2):=by simp[upM,h0,hx,hy,hl]
    rw[e]
    obtain⟨r1,r2,r3⟩:=qhI next stop zero d ((i-1)/2) (swE ev i ((i-1)/2) x y) (swW wh i ((i-1)/2) x y) (by omega) (by omega) (c.swap (List.mem_of_getElem? hx) (List.mem_of_getElem? hy))
    exact⟨next i ev wh x y _ _ _ c (by omega) b hx hy hl r1,r2,r3⟩
theorem qGI {u2:List Int} {b2:List Bool} {f2:List Int} {n mm:Nat} (hn:n≤1000000) (d ii:Nat) (ev:List Ev) (wh:List Int) (a:ii≤d) (c:ii<n) (I:AInv n mm ev wh):Rl 8 19 334 0 29 20 ([(1,.pv (iV (ii:Int))),(2,.pp 19 0)]) ([(19,0,.ls 5 u2.length),(19,1,.ls 6 b2.length),(19,2,.ls 7 f2.length),(19,3,.ls 14 n),(19,4,.ls 15 mm),(16,0,.ls 5 u2.length),(16,1,.ls 6 b2.length),(16,2,.ls 7 f2.length),(16,3,.ls 14 n),(16,4,.ls 15 mm),(11,0,.pv (.slice none 0 0)),(11,1,.pv (.slice none 0 0)),(11,2,.pv (.slice none 0 0)),(11,3,.pv (.slice none 0 0)),(11,4,.pv (.slice none 0 0)),(14,0,.row 61 5 n (qbf (ev))),(15,0,.row 3 1 mm (ziV (wh)))]) (.exit 0) [(1,.pv (iV ((upM d ev wh ii).2.2:Int)))] ([(16,0,.ls 5 u2.length),(16,1,.ls 6 b2.length),(16,2,.ls 7 f2.length),(16,3,.ls 14 n),(16,4,.ls 15 mm),(11,0,.pv (.slice none 0 0)),(11,1,.pv (.slice none 0 0)),(11,2,.pv (.slice none 0 0)),(11,3,.pv (.slice none 0 0)),(11,4,.pv (.slice none 0 0)),(14,0,.row 61 5 n (qbf ((upM d ev wh ii).1))),(15,0,.row 3 1 mm (ziV ((upM d ev wh ii).2.1)))]):=by
 refine (qhI (n:=n) (mm:=mm) (Q:=fun (ii:Nat) ev wh (ii':Nat) ev' wh'=>Rl 8 19 334 0 29 20 ([(1,.pv (iV (ii:Int))),(2,.pp 19 0)]) ([(19,0,.ls 5 u2.length),(19,1,.ls 6 b2.length),(19,2,.ls 7 f2.length),(19,3,.ls 14 n),(19,4,.ls 15 mm),(16,0,.ls 5 u2.length),(16,1,.ls 6 b2.length),(16,2,.ls 7 f2.length),(16,3,.ls 14 n),(16,4,.ls 15 mm),(11,0,.pv (.slice none 0 0)),(11,1,.pv (.slice none 0 0)),(11,2,.pv (.slice none 0 0)),(11,3,.pv (.slice none 0 0)),(11,4,.pv (.slice none 0 0)),(14,0,.row 61 5 n (qbf (ev))),(15,0,.row 3 1 mm (ziV (wh)))]) (.exit 0) [(1,.pv (iV (ii':Int)))] ([(16,0,.ls 5 u2.length),(16,1,.ls 6 b2.length),(16,2,.ls 7 f2.length),(16,3,.ls 14 n),(16,4,.ls 15 mm),(11,0,.pv (.slice none 0 0)),(11,1,.pv (.slice none 0 0)),(11,2,.pv (.slice none 0 0)),(11,3,.pv (.slice none 0 0)),(11,4,.pv (.slice none 0 0)),(14,0,.row 61 5 n (qbf (ev'))),(15,0,.row 3 1 mm (ziV (wh')))])) ?_ ?_ ?_ d ii ev wh a c I).1
 ·intro i ev wh x y i' ev' wh' I h0 hi hx hy hl r
  have ox:=I.ok x (List.mem_of_getElem? hx);have oy:=I.ok y (List.mem_of_getElem? hy);have ix:=I.ix x (List.mem_of_getElem? hx);have iy:=I.ix y (List.mem_of_getElem? hy)
  have l1:=I.len;have l2:=I.wl;have hc:=qgG ox oy;rw[hl] at hc
  exact qk0 ⟨by omega,by omega⟩ hx ⟨by omega,by omega⟩ hy (decide_eq_true (by omega)) (qcs (by omega) (by omega)) hc (by omega) iy (by omega) (by rw[List.length_set];omega) ix (by rw[List.length_set];omega) r
 ·intro i ev wh x y I h0 hi hx hy hl
  have hc:=qgG (I.ok x (List.mem_of_getElem? hx)) (I.ok y (List.mem_of_getElem? hy));rw[hl] at hc
  exact qma ⟨by omega,by omega⟩ hx ⟨by omega,by omega⟩ hy (decide_eq_true (by omega)) (qcs (by omega) (by omega)) hc
 ·intro ev wh I
  exact qlO (k:=0) (decide_eq_false (by omega))
theorem qoS:∀ (n:Nat) (l:List Nat),l.Nodup→(∀ x∈l,x<n)→l.length≤n
 | 0,l,_,h=>by
  cases l with
  | nil=>simp
  | cons a r=>have:=h a List.mem_cons_self;omega
 | n+1,l,hd,h=>by
  by_cases hm:n∈l
  ·have h1:=qoS n (l.erase n) (hd.erase n) (fun x hx=>by
    obtain⟨a,c⟩:=hd.mem_erase_iff.1 hx
    have:=h x c;omega)
   rw[List.length_erase_of_mem hm] at h1
   omega
  ·have:=qoS n l hd (fun x hx=>by
    have:=h x hx
    have:x≠n:=fun e=>hm (e▸hx)
    omega)
   omega
theorem qgc {n:Nat} {l:List Nat} (hd:l.Nodup) (h:∀ x∈l,x<n) (hl:l.length=n) {j:Nat} (hj:j<n):j∈l:=by
 apply Classical.byContradiction
 intro hm
 have:=qoS n (j::l) (List.nodup_cons.2 ⟨hm,hd⟩) (fun x hx=>by
  rcases List.mem_cons.1 hx with rfl | hx
  ·exact hj
  ·exact h x hx)
 simp at this
 omega
def qh5 (b:List Bool):List Nat:=(List.range b.length).filter fun k=>b[k]?==some true
theorem qex:∀ (b:List Bool),(qh5 b).length=b.count true
 | []=>rfl
 | c::r=>by
  have ih:=qex r
  unfold qh5 at ih ⊢
  have e:((fun k=>(c::r)[k]?==some true)∘Nat.succ)=fun k=>r[k]?==some true:=by funext k;simp
  rw[List.length_cons,List.range_succ_eq_map,List.filter_cons,List.filter_map,e]
  cases c
  ·simp[ih]
  ·simp[ih]
theorem qhA {b:List Bool} {k:Nat}:k∈qh5 b↔b[k]?=some true:=by
 unfold qh5
 rw[List.mem_filter,List.mem_range]
 exact⟨fun h=>by simpa using h.2,fun h=>⟨(List.getElem?_eq_some_iff.1 h).1,by simpa using h⟩⟩
theorem qlt {u:List Int} {ev:List Ev} {wh:List Int} {k:Nat} (h:qa5 u ev wh k=true):∃ j x,wh[k]?=some ((j:Nat):Int)∧ev[j]?=some x∧x.i=(k:Int)∧u[k]?=some x.w:=by
 unfold qa5 at h
 split at h
 ·rename_i z c hz hc
  rw[Bool.and_eq_true,decide_eq_true_eq] at h
  obtain⟨h0,h1⟩:=h
  split at h1
  ·rename_i x hx
   rw[Bool.and_eq_true,decide_eq_true_eq,decide_eq_true_eq] at h1
   exact⟨z.toNat,x,by rw[hz,Int.toNat_of_nonneg h0],hx,h1.1,by rw[hc,h1.2]⟩
  ·cases h1
 ·cases h
section
variable {u fr wh:List Int} {b:List Bool} {ev:List Ev}
theorem VA.used (h:VA u b fr ev wh) {k:Nat} (hk:b[k]?=some true):∃ j x,wh[k]?=some ((j:Nat):Int)∧ev[j]?=some x∧x.i=(k:Int)∧u[k]?=some x.w:=by
 have:=h.wf.at_ k (List.getElem?_eq_some_iff.1 hk).1
 unfold whB at this
 rw[hk] at this
 exact qlt this
theorem VA.free (h:VA u b fr ev wh) {k:Nat} (hk:b[k]?=some false):wh[k]?=some (-1):=by
 have:=h.wf.at_ k (List.getElem?_eq_some_iff.1 hk).1
 unfold whB at this
 rw[hk] at this
 simpa using this
theorem VA.own (h:VA u b fr ev wh) {j:Nat} {x:Ev} (hx:ev[j]?=some x):Live u b x.i x.w∧wh[x.i.toNat]?=some (j:Int):=by
 have hj:j<ev.length:=(List.getElem?_eq_some_iff.1 hx).1
 let g:Nat→Nat:=fun k=>(wh[k]?.getD 0).toNat
 have hg:∀ k∈qh5 b,∃ x,ev[g k]?=some x∧x.i=(k:Int)∧u[k]?=some x.w∧wh[k]?=some ((g k:Nat):Int):=by
  intro k hk
  obtain⟨q,y,h1,h2,h3,h4⟩:=h.used (qhA.1 hk)
  have e:g k=q:=by simp[g,h1]
  exact⟨y,by rw[e];exact h2,h3,h4,by rw[e];exact h1⟩
 have hnd:((qh5 b).map g).Nodup:=by
  have h0:(qh5 b).Nodup:=List.nodup_range.filter _
  rw[List.nodup_iff_pairwise_ne,List.pairwise_map]
  refine (List.nodup_iff_pairwise_ne.1 h0).imp_of_mem fun {a c} ha hc hac e=>?_
  obtain⟨y,h1,h2,_⟩:=hg a ha
  obtain⟨z,k1,k2,_⟩:=hg c hc
  rw[e,k1] at h1
  cases h1
  omega
 have hm:j∈(qh5 b).map g:=qgc hnd (fun q hq=>by
  obtain⟨k,hk,rfl⟩:=List.mem_map.1 hq
  obtain⟨y,h1,_⟩:=hg k hk
  exact (List.getElem?_eq_some_iff.1 h1).1) (by rw[List.length_map,qex];exact h.wf.cnt) hj
 obtain⟨k,hk,e⟩:=List.mem_map.1 hm
 obtain⟨y,h1,h2,h3,h4⟩:=hg k hk
 rw[e] at h1 h4
 rw[hx] at h1
 cases h1
 have hku:k<u.length:=(List.getElem?_eq_some_iff.1 h3).1
 have ek:x.i.toNat=k:=by omega
 exact⟨⟨by omega,by omega,by rw[ek];exact qhA.1 hk,by rw[ek];exact h3⟩,by rw[ek];exact h4⟩
theorem VA.inv (h:VA u b fr ev wh):AInv ev.length wh.length ev wh:=by
 refine⟨rfl,rfl,h.ef.ok,fun x hx=>?_⟩
 obtain⟨j,hj⟩:=List.mem_iff_getElem?.1 hx
 obtain⟨h1,_⟩:=h.own hj
 have:=h.lens
 exact⟨h1.lo,by have:=h1.lt;omega⟩
theorem qCn {f:FuncId} {e:TypeId} {n:Nat} {xs:List Value} (hx:xs.length=n*5)
 (pth:0<n→Fn f 1 [.ls 0 n] [(0,0,.row e 5 n xs)] (.ls 1 n) 1 [(1,0,.row e 5 n xs)])
 (pe:∀ ad c,Fn f 0 [.pv (.slice (some ad) 0 c)] [] (.ls 0 0) 1 [(0,0,.row e 5 0 [])])
 (pn:∀ c,Pure Tryz.prog f #[.slice none 0 c] (.slice none 0 0)):Fn f 1 [.ls 0 n] [(0,0,.row e 5 n xs)] (.ls 1 n) 1 [(1,0,.row e 5 n xs)]:=by
 rcases Nat.eq_zero_or_pos n with h | h
 ·subst h
  obtain rfl:=List.eq_nil_of_length_eq_zero (by simpa using hx)
  intro w β us hH hd hargs
  match us,hargs with
  | [v],⟨⟨_,a,c,hv⟩,_⟩=>
   have hd1:=hd 1 (Nat.le_refl _)
   cases a with
   | none=>
    subst hv
    refine (pn c w).mono fun e' w' ⟨he,hg⟩=>?_
    have ho:w'.ownsRow w.heap.size e 5 (.slice none 0 0) 0 []:=⟨rfl,Or.inl ⟨rfl,rfl⟩⟩
    exact⟨_,β.setG 1 (.slice none 0 0),he,Bl.le_setG hd1.1 hd1.2,⟨Bl.setG_same _ _ _,none,0,rfl⟩,qdd hH hd hg ho (fun v hv=>by cases hv),qbA hd⟩
   | some ad=>
    subst hv
    refine (pe ad c w Bl.no [.slice (some ad) 0 c] (qd6 w) (fun _ _=>⟨rfl,rfl⟩) ⟨rfl,tI⟩).mono fun e' w' ⟨v,β',he,_,⟨hx,a',c',hv⟩,hh,_⟩=>?_
    obtain⟨u,hu,hr⟩:=hh.rows 0 0 _ _ _ _ rfl
    rw[hx] at hu
    cases hu
    exact⟨_,β.setG 1 v,he,Bl.le_setG hd1.1 hd1.2,⟨Bl.setG_same _ _ _,a',c',hv⟩,qdd hH hd hh.gr (hr.own (Nat.le_refl _)) (fun v hv=>by cases hv),qbA hd⟩
 ·exact pth h
theorem qk8 {n:Nat} {xs:List Value} (hx:xs.length=n*5) (hn:n≤1000000):Fn 143 1 [.ls 0 n] [(0,0,.row 61 5 n xs)] (.ls 1 n) 1 [(1,0,.row 61 5 n xs)]:=
 qCn hx (fun h=>qtl h (by omega)) (fun ad c=>qFw) (fun c=>qvY)
theorem qjf {l:List Bool} (hn:l.length≤1000000):Fn 140 1 [.ls 0 l.length] [(0,0,zrB l)] (.ls 1 l.length) 1 [(1,0,zrB l)]:=
 qjR (qeg l) (fun h=>qof h (by omega)) (fun ad c=>qB8) (fun c=>qr9)
def qa7 (ev:List Ev) (wh:List Int) (x:Ev):List Ev×List Int:=
 ((upM ev.length (ev++[x]) (wh.set x.i.toNat (ev.length:Int)) ev.length).1,(upM ev.length (ev++[x]) (wh.set x.i.toNat (ev.length:Int)) ev.length).2.1)
theorem qi7 {n mm d i:Nat} {ev:List Ev} {wh:List Int} (a:i≤d) (b:i<n) (I:AInv n mm ev wh):AInv n mm (upM d ev wh i).1 (upM d ev wh i).2.1∧(upM d ev wh i).2.2<n:=
 (qhI (Q:=fun _ _ _ _ _ _=>True) (fun _ _ _ _ _ _ _ _ _ _ _ _ _ _ _=>tI) (fun _ _ _ _ _ _ _ _ _ _ _=>tI) (fun _ _ _=>tI) d i ev wh a b I).2
theorem qsI (ev:List Ev) (x:Ev):(ev++[x]).set ev.length x=ev++[x]:=by
 rw[List.set_append_right _ _ (by omega),Nat.sub_self]
 rfl
theorem qgE {x:Ev} (hI:AInv ev.length wh.length ev wh) (hx:EvOk x) (hi:0≤x.i∧x.i<(wh.length:Int)):AInv (ev.length+1) wh.length (ev++[x]) (wh.set x.i.toNat (ev.length:Int)):=
 ⟨by simp,by simp,fun y hy=>by
  rcases List.mem_append.1 hy with h | h
  ·exact hI.ok y h
  ·rw[List.mem_singleton] at h;subst h;exact hx,fun y hy=>by
  rcases List.mem_append.1 hy with h | h
  ·exact hI.ix y h
  ·rw[List.mem_singleton] at h;subst h;exact hi⟩
theorem qkY {u2 f2:List Int} {b2:List Bool} {x:Ev} (hl:ev.length≤999998) (hw:wh.length≤1000000) (hI:AInv ev.length wh.length ev wh) (hx:EvOk x) (hi:0≤x.i∧x.i<(wh.length:Int)) :
 Fn 316 8 [agA u b fr ev wh,.ag [.ls 5 u2.length,.ls 6 b2.length,.ls 7 f2.length],.pv (qae x)] [(0,0,zrI u),(1,0,zrB b),(2,0,zrI fr),(3,0,qar ev),(4,0,zrI wh),(5,0,zrI u2),(6,0,zrB b2),(7,0,zrI f2)]
  (.ag [.ls 5 u2.length,.ls 6 b2.length,.ls 7 f2.length,.ls 8 (qa7 ev wh x).1.length,.ls 9 (qa7 ev wh x).2.length]) 2 [(8,0,qar (qa7 ev wh x).1),(9,0,zrI (qa7 ev wh x).2)]:=by
 have I:=qgE hI hx hi
 obtain⟨J,_⟩:=qi7 (d:=ev.length) (i:=ev.length) (by omega) (by omega) I
 have j1:(qa7 ev wh x).1.length=ev.length+1:=J.len
 have j2:(qa7 ev wh x).2.length=wh.length:=J.wl
 simp only[qar,zrI,j1,j2]
 have r:=qGI (u2:=u2) (b2:=b2) (f2:=f2) (n:=ev.length+1) (by omega) ev.length ev.length (ev++[x]) (wh.set x.i.toNat (ev.length:Int)) (by omega) (by omega) I
 have hd:decide (((ev.length+1:Nat):Int)<0)=false:=decide_eq_false (by omega)
 refine qw6 (n:=0) (k:=0) (p:=_) (ev3:=(qa7 ev wh x).1) (wh3:=(qa7 ev wh x).2) ?_ (qco (by omega)) (by omega) (by simp) hi (by omega) (by rw[qsI];exact r)
 exact qHU (by rw[Int.zero_add];exact qbl (by omega) (by omega)) (by simp) (qaB (by omega)) hd (qFS (z:=((ev.length+1:Nat):Int)) hd (by rw[Int.sub_zero];exact qbl (by omega) (by omega)) (decide_eq_true (by omega)) (by omega) (by omega)) (by omega) (by omega)
end
end Go.Proofs.YtkckcgpmnipnaaaGreat

namespace Go.Proofs.YtkckcgpmnipnaaaGreat
set_option maxRecDepth 100000
open Go.RowKit
section
variable {u fr wh:List Int} {b:List Bool} {ev:List Ev}
structure ASm (u:List Int) (b:List Bool) (fr:List Int) (ev:List Ev) (wh:List Int):Prop where
 lu:u.length≤210
 lb:b.length≤210
 lf:fr.length≤210
 le:ev.length≤210
 lw:wh.length≤210
 i:∀ x∈ev,EvI x
theorem VA.sm (h:VA u b fr ev wh):ASm u b fr ev wh:=by
 have:=h.lens
 exact⟨by omega,by omega,by omega,by omega,by omega,fun x hx=>(h.ef.ok x hx).i⟩
theorem qy3 (s:ASm u b fr ev wh) (h:¬ VA u b fr ev wh):Fn 177 5 [agA u b fr ev wh] (agP u b fr ev wh) (.pv (iV 8)) 0 []:=qlz (by have:=s.lf;omega) (by have:=s.le;omega) s.i h
theorem qCf {n:Nat} (h1:1≤n) (h2:n≤200):Pure Tryz.prog 214 #[.int .u64 1,.int .u64 (n:Int)] (.tuple #[.int .u64 0,.int .u64 (n:Int)]):=by
 refine qtc fun w=>(Tryz.bits_Mul64 1 n (by omega) (by omega) w).mono fun e w' ⟨he,hw⟩=>?_
 subst hw
 refine⟨?_,Gr.refl _⟩
 rw[he]
 have e1:1*n/18446744073709551616=0:=by omega
 have e2:1*n%18446744073709551616=n:=by omega
 rw[e1,e2]
 rfl
theorem qog (z:Int) (k m r:Nat) (hm:m≤r):ziV (List.replicate (k+m) z++List.replicate (r-m) 0)=qeH (ziV (List.replicate k z++List.replicate r 0)) ((0+k)*1) (ziV (List.replicate m z)):=by
 unfold qeH
 rw[Nat.zero_add,Nat.mul_one,qaG,List.length_replicate]
 have e1:(ziV (List.replicate k z++List.replicate r 0)).take k=ziV (List.replicate k z):=by
  rw[qaW,List.take_append_of_le_length (by rw[qaG,List.length_replicate];omega),List.take_of_length_le (by rw[qaG,List.length_replicate];omega)]
 have e2:(ziV (List.replicate k z++List.replicate r 0)).drop (k+m)=ziV (List.replicate (r-m) 0):=by
  rw[qaW,List.drop_append,qaG,List.length_replicate,List.drop_of_length_le (by rw[qaG,List.length_replicate];omega),List.nil_append,show k+m-k=m by omega]
  unfold ziV
  rw[List.map_replicate,List.map_replicate,List.drop_replicate]
 rw[e1,e2,← qaW,← qaW,← List.replicate_append_replicate]
theorem qxD {z:Int} {n:Nat} (hn:n≤1000000):∀ (d k:Nat),1≤k→k≤n→n≤k+d→Rl 1 1 171 0 48 2 [(7,.ls 1 n),(8,.pv (iV (k:Int)))] [(1,0,.row 3 1 n (ziV (List.replicate k z++List.replicate (n-k) 0)))] (.exit 0) [(7,.ls 1 n)] [(1,0,.row 3 1 n (ziV (List.replicate n z)))]:=by
 intro d
 induction d with
 | zero=>
  intro k h1 h2 h3
  have:k=n:=by omega
  subst this
  have:=quf (g:=List.replicate k z++List.replicate (k-k) 0) (k:=k) (n:=k) (decide_eq_false (by omega))
  rwa [show List.replicate k z++List.replicate (k-k) (0:Int)=List.replicate k z by simp] at this ⊢
 | succ d ih=>
  intro k h1 h2 h3
  by_cases hk:k<n
  ·have hmin:Nat.min k (n-k)≤n-k:=Nat.min_le_right _ _
   have hmin2:Nat.min k (n-k)≤k:=Nat.min_le_left _ _
   have hpos:0<Nat.min k (n-k):=Nat.lt_min.2 ⟨by omega,by omega⟩
   generalize hm:Nat.min k (n-k)=m at *
   have r:=ih (k+m) (by omega) (by omega) (by omega)
   have esrc:List.take (m*1) (List.take (k*1) (List.drop (0*1) (ziV (List.replicate k z++List.replicate (n-k) 0))))=ziV (List.replicate m z):=by
    rw[Nat.zero_mul,List.drop_zero,Nat.mul_one,Nat.mul_one,qaW,List.take_append_of_le_length (by rw[qaG,List.length_replicate];omega),List.take_of_length_le (l:=ziV (List.replicate k z)) (by rw[qaG,List.length_replicate];omega)]
    unfold ziV
    rw[List.map_replicate,List.map_replicate,List.take_replicate]
    congr 1
    omega
   rw[show n-(k+m)=n-k-m by omega] at r
   refine qxg (g:=List.replicate k z++List.replicate (n-k) 0) (j:=k+m) (by omega) (by omega) (decide_eq_true (by omega)) ?_ (by rw[hm];exact hpos) ?_ (by rw[hm,show (k:Int)+(m:Int)=((k+m:Nat):Int) by omega];exact qbl (by omega) (by omega)) r
   ·rw[hm,esrc]
    exact qog z k m (n-k) hmin
   ·rw[hm,esrc,qaG,qaG,List.length_append,List.length_replicate,List.length_replicate,List.length_replicate]
    omega
  ·have:k=n:=by omega
   subst this
   have:=quf (g:=List.replicate k z++List.replicate (k-k) 0) (k:=k) (n:=k) (decide_eq_false (by omega))
   rwa [show List.replicate k z++List.replicate (k-k) (0:Int)=List.replicate k z by simp] at this ⊢
theorem ql4 {z:Int} {n:Nat} (h1:1≤n) (h2:n≤200):Fn 171 1 [.ps 0 0 1 1,.pv (iV (n:Int))] [(0,0,.pv (iV z))] (.ls 1 n) 1 [(1,0,.row 3 1 n (ziV (List.replicate n z)))]:=by
 have hmin:Nat.min 1 n=1:=Nat.min_eq_left h1
 refine qy1 (g:=List.replicate 1 z++List.replicate (n-1) 0) (decide_eq_false (by omega)) ?_ (qCf h1 h2) (decide_eq_false (by omega)) (qbl (by omega) (by omega)) (by omega) (by omega) ?_ (by rw[hmin];omega) ?_ (by rw[hmin];rfl) (qxD (by omega) n 1 (by omega) (by omega) (by omega))
 ·rw[show IntKind.u64.wrap (n:Int)=n by rw[IntKind.wrap_u64];omega]
 ·rw[hmin,qka,Nat.one_mul]
  have:=qog z 0 1 n h1
  simpa [ziV] using this
 ·rw[hmin,qka,qaG,List.length_replicate]
  simp
  omega
theorem qyk {f:FuncId} {args:List SV} {n0 n1 n2 n3:Nat} {r0 r1 r2 r3:SV} {e0:Value}
 (h:Fn f 0 args [] (.tu [.ag [.ls 0 n0,.ls 1 n1,.ls 2 n2,.pv (.slice none 0 0),.ls 3 n3],.one (.pv e0)]) 4 [(0,0,r0),(1,0,r1),(2,0,r2),(3,0,r3)]) (hr:r0.isRow=true∧r1.isRow=true∧r2.isRow=true∧r3.isRow=true) :
 Fn f 0 args [] (.tu [.ag [.ls 0 n0,.ls 1 n1,.ls 2 n2,.ls 4 0,.ls 3 n3],.one (.pv e0)]) 5 [(0,0,r0),(1,0,r1),(2,0,r2),(3,0,r3),(4,0,qar [])]:=by
 intro w β us hH hd hi
 refine (h w β us hH hd hi).mono fun e w' ⟨v,β',he,hle,hx,hh,hd'⟩=>?_
 obtain⟨vs,hvs,rfl⟩:=hx
 match vs,hvs with
 | [v0,v1],⟨⟨ws,hws,h0⟩,hv1,_⟩=>
 match ws,hws with
 | [a0,a1,a2,a3,a4],⟨k0,k1,k2,k3,k4,_⟩=>
 have k3':a3=.slice none 0 0:=k3
 subst k3' h0
 have hd4:=hd' 4 (by omega)
 have hle4:β'.le (β'.setG 4 (.slice none 0 0)):=Bl.le_setG hd4.1 hd4.2
 refine⟨_,β'.setG 4 (.slice none 0 0),he,Bl.le_trans hle hle4,⟨[.agg #[a0,a1,a2,.slice none 0 0,a4],v1],⟨⟨[a0,a1,a2,.slice none 0 0,a4],⟨S0.is_mono hle4 k0,S0.is_mono hle4 k1,S0.is_mono hle4 k2,⟨Bl.setG_same _ _ _,none,0,rfl⟩,S0.is_mono hle4 k4,tI⟩,rfl⟩,hv1,tI⟩,rfl⟩,?_,qbA hd'⟩
 have ho:w'.ownsRow w.heap.size 61 5 (.slice none 0 0) 0 []:=⟨rfl,Or.inl ⟨rfl,rfl⟩⟩
 have look:∀ c o s,qaf [(0,0,r0),(1,0,r1),(2,0,r2),(3,0,r3),(4,0,qar [])] c o=some s→(c=4∧o=0∧s=qar [])∨(c≠4∧qaf [(0,0,r0),(1,0,r1),(2,0,r2),(3,0,r3)] c o=some s):=by
  intro c o s hs
  by_cases hc:c=4
  ·subst hc
   simp only[qag,if_neg (show ¬ ((0:Nat)=4∧(0:Nat)=o) by omega),if_neg (show ¬ ((1:Nat)=4∧(0:Nat)=o) by omega),if_neg (show ¬ ((2:Nat)=4∧(0:Nat)=o) by omega),if_neg (show ¬ ((3:Nat)=4∧(0:Nat)=o) by omega)] at hs
   split at hs
   ·rename_i e4
    exact Or.inl ⟨rfl,e4.2.symm,(Option.some.inj hs).symm⟩
   ·cases hs
  ·refine Or.inr ⟨hc,?_⟩
   have e4:¬ ((4:Nat)=c∧(0:Nat)=o):=fun e=>hc e.1.symm
   simp only[qag] at hs ⊢
   rw[if_neg e4] at hs
   exact hs
 refine⟨hh.gr,hh.live,hh.inj,hh.new,fun c r hc=>?_,fun c o s hs hsr=>?_,fun c o e es n xs hs=>?_,fun c o e es n xs c' o' e' es' n' xs' u v hs hs' h1 h2 hne gu gv k hu hv=>?_,fun c o xs hs=>?_⟩
 ·have hc':β' c=some r:=hc
  have:c≠4:=fun e=>by subst e;rw[hd4.1] at hc';cases hc'
  show (if c=4 then _ else β'.g c)=none
  rw[if_neg this]
  exact hh.sep c r hc'
 ·rcases look _ _ _ hs with ⟨_,_,rfl⟩ | ⟨_,hs⟩
  ·cases hsr
  ·obtain⟨r,uu,g1,g2,g3⟩:=hh.cells c o s hs hsr
   exact⟨r,uu,g1,SV.is_mono hle4 g2,g3⟩
 ·rcases look _ _ _ hs with ⟨rfl,_,e1⟩ | ⟨hc,hs⟩
  ·cases e1
   refine⟨_,Bl.setG_same _ _ _,qdF ho,(fun v hv=>by cases hv),fun h=>by omega,fun _=>ho,fun _ c r hc hu=>by cases hu⟩
  ·obtain⟨uu,g1,g2⟩:=hh.rows c o e es n xs hs
   exact⟨uu,hle4.g g1,g2.rd,g2.one,g2.low,g2.own,fun h c' r hc' hu=>g2.apart h c' r hc' hu⟩
 ·rcases look _ _ _ hs with ⟨rfl,_,e1⟩ | ⟨hc,hs⟩
  ·have gu':=gu
   rw[Bl.setG_same] at gu'
   cases gu';cases hu
  ·rcases look _ _ _ hs' with ⟨rfl,_,e1⟩ | ⟨hc2,hs2⟩
   ·have gv':=gv
    rw[Bl.setG_same] at gv'
    cases gv';cases hv
   ·have e1:β'.g c=some u:=by
     have g':(if c=4 then some (Value.slice none 0 0) else β'.g c)=some u:=gu
     rwa [if_neg hc] at g'
    have e2:β'.g c'=some v:=by
     have g':(if c'=4 then some (Value.slice none 0 0) else β'.g c')=some v:=gv
     rwa [if_neg hc2] at g'
    exact hh.rinj c o e es n xs c' o' e' es' n' xs' u v hs hs2 h1 h2 hne e1 e2 k hu hv
 ·rcases look _ _ _ hs with ⟨_,_,e1⟩ | ⟨_,hs⟩
  ·cases e1
  ·exact hh.maps c o xs hs
end
end Go.Proofs.YtkckcgpmnipnaaaGreat

namespace Go.Proofs.YtkckcgpmnipnaaaGreat
set_option maxRecDepth 100000
open Go.RowKit
section
variable {u fr wh:List Int} {b:List Bool} {ev:List Ev}
theorem quW {n:Nat} (h1:1≤n) (h2:n≤200):Fn 102 0 [.pv (iV (n:Int))] [] (.tu [.ag [.ls 0 n,.ls 1 n,.ls 2 n,.ls 4 0,.ls 3 n],.one (.pv (iV 0))]) 5
 [(0,0,.row 3 1 n (ziV (List.replicate n 0))),(1,0,.row 4 1 n (zbV (List.replicate n false))),(2,0,.row 3 1 n (ziV (qbH n))),(3,0,.row 3 1 n (ziV (List.replicate n (-1)))),(4,0,qar [])]:=
 qyk (qEQ (qCi h1 h2) (ql4 (z:=-1) h1 h2)) ⟨rfl,rfl,rfl,rfl⟩
def cnE (ev:List Ev) (z:Int):Int:=if 0≤z∧z≤1000000 then (if (∃ m∈ev,m.k=z) then 14 else 0) else 2
abbrev cxT (ev:List Ev) (k:Nat):List (Nat×SV):=[(0,.ls 3 ev.length),(1,.pc 336 [.pp 6 0]),(7,.pv (iV (ev.length:Int))),(8,.pv (iV (k:Int)))]
theorem qv0 {z:Int} (hl:ev.length≤1000000) (h:∀ m∈ev,m.k≠z):∀ (d k:Nat),k+d=ev.length→Rl 5 7 346 0 19 7 (cxT ev k) [(6,0,.pv (iV z)),(3,0,qar ev)] (.exit 0) [] []:=by
 intro d
 induction d with
 | zero=>intro k hk;exact qAZ (decide_eq_false (by omega))
 | succ d ih=>
  intro k hk
  have hx:ev[k]?=some ev[k]:=List.getElem?_eq_getElem (by omega)
  exact qnm hx (by omega) (decide_eq_true (by omega)) (by simpa using h _ (List.getElem_mem _)) (qaB (by omega)) (ih (k+1) (by omega))
theorem qwl {z:Int} (hl:ev.length≤1000000):∀ (d k:Nat),k+d=ev.length→(∃ j m,k≤j∧ev[j]?=some m∧m.k=z)→∃ q:Nat,Rl 5 7 346 0 19 7 (cxT ev k) [(6,0,.pv (iV z)),(3,0,qar ev)] .ret [(4,.pv (iV (q:Int)))] []:=by
 intro d
 induction d with
 | zero=>intro k hk ⟨j,m,a,c,_⟩;have:=(List.getElem?_eq_some_iff.1 c).1;omega
 | succ d ih=>
  intro k hk ⟨j,m,a,c,e⟩
  have hx:ev[k]?=some ev[k]:=List.getElem?_eq_getElem (by omega)
  by_cases h1:ev[k].k=z
  ·exact⟨k,qBE hx (by omega) (decide_eq_true (by omega)) (by simpa using h1)⟩
  ·obtain⟨q,r⟩:=ih (k+1) (by omega) ⟨j,m,by
    rcases Nat.lt_or_ge k j with g | g
    ·exact g
    ·have e':k=j:=by omega
     subst e'
     rw[hx] at c
     exact (h1 (by rw[Option.some.inj c];exact e)).elim,c,e⟩
   exact⟨q,qnm hx (by omega) (decide_eq_true (by omega)) (by simpa using h1) (qaB (by omega)) r⟩
theorem qeA (hl:ev.length≤1000000) (z:Int):Fn 314 5 [agA u b fr ev wh,.pv (iV z)] (agP u b fr ev wh) (.pv (iV (cnE ev z))) 0 []:=by
 have hn:=qgY z
 unfold cnE
 by_cases h1:0≤z∧z≤1000000
 ·rw[decide_eq_true h1] at hn
  rw[if_pos h1]
  by_cases h2:∃ m∈ev,m.k=z
  ·rw[if_pos h2]
   obtain⟨m,hm,e⟩:=h2
   obtain⟨j,hj⟩:=List.mem_iff_getElem?.1 hm
   obtain⟨q,r⟩:=qwl (z:=z) hl ev.length 0 (by omega) ⟨j,m,by omega,hj,e⟩
   exact qsd hn r (decide_eq_true (by omega))
  ·rw[if_neg h2]
   exact qGP hn (qv0 hl (fun m hm e=>h2 ⟨m,hm,e⟩) ev.length 0 (by omega))
 ·rw[decide_eq_false h1] at hn
  rw[if_neg h1]
  exact qzv hn
theorem VA.find {hi hw:Int} (h:VA u b fr ev wh) (hl:Live u b hi hw):∃ j x,wh[hi.toNat]?=some ((j:Nat):Int)∧ev[j]?=some x∧x.i=hi∧x.w=hw:=by
 obtain⟨j,x,h1,h2,h3,h4⟩:=h.used hl.used
 have:=hl.lo
 refine⟨j,x,h1,h2,by omega,?_⟩
 have h5:=hl.use
 rw[h4] at h5
 exact Option.some.inj h5
abbrev evZ:Value:=.agg #[iV 0,iV 0,iV 0,iV 0,iV 0]
abbrev agZ:Value:=.agg #[.slice none 0 0,.slice none 0 0,.slice none 0 0,.slice none 0 0,.slice none 0 0]
theorem qoF (h:VA u b fr ev wh) (he:ev=[]):Fn 113 5 [agA u b fr ev wh] (agP u b fr ev wh) (.pv (.tuple #[evZ,iV 42])) 0 []:=qx3 (qcX h) (by subst he;rfl)
theorem qnG {x:Ev} (h:VA u b fr ev wh) (hx:ev[0]?=some x):Fn 113 5 [agA u b fr ev wh] (agP u b fr ev wh) (.pv (.tuple #[qae x,iV 0])) 0 []:=by
 have:=(List.getElem?_eq_some_iff.1 hx).1
 exact qGj (qcX h) (by simp;intro e;rw[e] at this;simp at this) hx (by omega)
abbrev qFt (ev3:List Ev) (u2:List Int) (b2:List Bool) (f2 wh3:List Int):S1:=.ag [.ls 5 u2.length,.ls 6 b2.length,.ls 7 f2.length,.ls 8 ev3.length,.ls 9 wh3.length]
abbrev qwq (ev3:List Ev) (u2:List Int) (b2:List Bool) (f2 wh3:List Int):List (Nat×Nat×SV):=[(5,0,zrI u2),(6,0,zrB b2),(7,0,zrI f2),(8,0,qar ev3),(9,0,zrI wh3)]
abbrev psZ (e:Int):SV:=.pv (.tuple #[agZ,qbb 0 0,iV e])
theorem qle {tn td z:Int} (ht:I64 tn∧I64 td) (h0:okB tn td=true) (h:VA u b fr ev wh) (hz:cnE ev z=0) (hk:qbu u b fr=none):Fn 272 5 [agA u b fr ev wh,.pv (qaa tn td),.pv (iV z)] (agP u b fr ev wh) (psZ 18) 0 []:=by
 have hn:=qeA (u:=u) (b:=b) (fr:=fr) (ev:=ev) (wh:=wh) (by have:=h.lens;omega) z
 rw[hz] at hn
 exact qyO (qcX h) (qcd ht.1 ht.2 h0) hn (qzK (by decide) (by decide) (by decide)) (qn6 h.vd hk)
theorem qjl {u2 f2:List Int} {b2:List Bool} {hi hw:Int} (h:Vd u b fr) (hk:qbu u b fr=some (u2,b2,f2,hi,hw)):0≤hi∧hi<(u.length:Int):=by
 obtain⟨y,h1,_⟩:=qba hk
 obtain⟨e,_,_⟩:=qbk h1
 exact h.rng hi (by rw[e];simp)
theorem ql2 {tn td z:Int} {u2 f2:List Int} {b2:List Bool} {hi hw:Int} (ht:I64 tn∧I64 td) (h0:okB tn td=true) (h:VA u b fr ev wh) (hz:cnE ev z=0) (hk:qbu u b fr=some (u2,b2,f2,hi,hw)) :
 Fn 272 5 [agA u b fr ev wh,.pv (qaa tn td),.pv (iV z)] (agP u b fr ev wh)
  (.tu [qFt (qa7 ev wh ⟨tn,td,z,hi,hw⟩).1 u2 b2 f2 (qa7 ev wh ⟨tn,td,z,hi,hw⟩).2,.one (.pv (qbb hi hw)),.one (.pv (iV 0))]) 5 (qwq (qa7 ev wh ⟨tn,td,z,hi,hw⟩).1 u2 b2 f2 (qa7 ev wh ⟨tn,td,z,hi,hw⟩).2):=by
 have hlen:=h.lens
 have hn:=qeA (u:=u) (b:=b) (fr:=fr) (ev:=ev) (wh:=wh) (by omega) z
 rw[hz] at hn
 have hzr:0≤z∧z≤1000000:=by
  apply Classical.byContradiction
  intro hne
  unfold cnE at hz
  rw[if_neg hne] at hz
  cases hz
 have hin:=qjl h.vd hk
 exact qGS (qcX h) (qcd ht.1 ht.2 h0) hn (qzK (by decide) (by decide) (by decide)) (qns h.vd hk) (qkY (x:=⟨tn,td,z,hi,hw⟩) (by omega) (by omega) h.inv ⟨ht,h0,hzr.1,hzr.2⟩ ⟨hin.1,by have:=hin.2;simp only;omega⟩)
end
end Go.Proofs.YtkckcgpmnipnaaaGreat
