/-
  Joined: Yo, Yp, Ys, Yv, Yz, Vf, Vh. Conditions: none.
-/
import Derived.Test.YtkckcgpmnipnaaaGreatYn
import Derived.Test.YtkckcgpmnipnaaaGreatW21
import Derived.Test.YtkckcgpmnipnaaaGreatZj
namespace Go.Proofs.YtkckcgpmnipnaaaGreat
set_option maxRecDepth 100000
open Go.RowKit
def Con (ev:List Ev) (wh:List Int):Prop:=∀ j x,ev[j]?=some x→0≤x.i∧wh[x.i.toNat]?=some ((j:Nat):Int)
theorem Con.inj {ev:List Ev} {wh:List Int} (h:Con ev wh) {j k:Nat} {x y:Ev} (hx:ev[j]?=some x) (hy:ev[k]?=some y) (e:x.i=y.i):j=k:=by
 have a:=(h j x hx).2
 have c:=(h k y hy).2
 rw[e,c] at a
 have:=Option.some.inj a
 omega
theorem qpr {ev:List Ev} {i j:Nat} {x y:Ev} (hi:i<ev.length) (hj:j<ev.length) (q:Nat):(swE ev i j x y)[q]?=if q=j then some x else if q=i then some y else ev[q]?:=by
 unfold swE
 rw[List.getElem?_set,List.length_set,List.getElem?_set]
 by_cases h1:j=q
 ·rw[if_pos h1,if_pos hj,if_pos h1.symm]
 ·rw[if_neg h1,if_neg (show ¬ q=j from fun e=>h1 e.symm)]
  by_cases h2:i=q
  ·rw[if_pos h2,if_pos hi,if_pos h2.symm]
  ·rw[if_neg h2,if_neg (show ¬ q=i from fun e=>h2 e.symm)]
structure Sf (ev:List Ev) (wh:List Int) (ev':List Ev) (wh':List Int):Prop where
 con:Con ev' wh'
 perm:ev'.Perm ev
 rest:∀ k:Nat,(∀ x∈ev,x.i.toNat≠k)→wh'[k]?=wh[k]?
theorem Sf.refl {ev:List Ev} {wh:List Int} (h:Con ev wh):Sf ev wh ev wh:=⟨h,List.Perm.refl _,fun _ _=>rfl⟩
theorem Sf.trans {ev ev1 ev2:List Ev} {wh wh1 wh2:List Int} (h:Sf ev wh ev1 wh1) (k:Sf ev1 wh1 ev2 wh2):Sf ev wh ev2 wh2:=
 ⟨k.con,k.perm.trans h.perm,fun q hq=>(k.rest q fun x hx=>hq x (h.perm.mem_iff.1 hx)).trans (h.rest q hq)⟩
theorem Con.swap {ev:List Ev} {wh:List Int} {i j:Nat} {x y:Ev} (h:Con ev wh) (hx:ev[i]?=some x) (hy:ev[j]?=some y) (hij:i≠j):Sf ev wh (swE ev i j x y) (swW wh i j x y):=by
 obtain⟨li,ei⟩:=List.getElem?_eq_some_iff.1 hx
 obtain⟨lj,ej⟩:=List.getElem?_eq_some_iff.1 hy
 have hxy:x.i≠y.i:=fun e=>hij (h.inj hx hy e)
 obtain⟨x0,xw⟩:=h i x hx
 obtain⟨y0,yw⟩:=h j y hy
 have xl:=(List.getElem?_eq_some_iff.1 xw).1
 have yl:=(List.getElem?_eq_some_iff.1 yw).1
 refine⟨fun q z hz=>?_,?_,fun q hq=>?_⟩
 ·rw[qpr li lj] at hz
  unfold swW
  rw[List.getElem?_set,List.length_set,List.getElem?_set]
  split at hz
  ·rename_i e;cases hz
   rw[if_pos rfl,if_pos xl,e]
   exact⟨x0,rfl⟩
  ·split at hz
   ·rename_i e;cases hz
    rw[if_neg (by omega),if_pos rfl,if_pos yl,e]
    exact⟨y0,rfl⟩
   ·rename_i n1 n2
    obtain⟨z0,zw⟩:=h q z hz
    have e1:z.i≠x.i:=fun e=>n2 (h.inj hz hx e)
    have e2:z.i≠y.i:=fun e=>n1 (h.inj hz hy e)
    rw[if_neg (by omega),if_neg (by omega)]
    exact⟨z0,zw⟩
 ·have:=@List.set_set_perm _ ev i j li lj
  rw[ei,ej] at this
  exact this
 ·unfold swW
  rw[List.getElem?_set,List.length_set,List.getElem?_set,if_neg (hq x (List.mem_of_getElem? hx)),if_neg (hq y (List.mem_of_getElem? hy))]
def NL (ev:List Ev) (a c:Nat):Prop:=∀ x y,ev[a]?=some x→ev[c]?=some y→ltE x y=false
def qzk (ev:List Ev):Prop:=∀ k,1≤k→NL ev k ((k-1)/2)
structure HAt (ev:List Ev) (i:Nat):Prop where
 a:∀ k,1≤k→k≠i→(k-1)/2≠i→NL ev k ((k-1)/2)
 g:∀ c,1≤c→(c-1)/2=i→1≤i→NL ev c ((i-1)/2)
structure HEx (ev:List Ev) (i:Nat):Prop where
 a:∀ k,1≤k→k≠i→NL ev k ((k-1)/2)
 g:∀ c,1≤c→(c-1)/2=i→1≤i→NL ev c ((i-1)/2)
structure HDn (ev:List Ev) (i:Nat):Prop where
 a:∀ k,1≤k→(k-1)/2≠i→NL ev k ((k-1)/2)
 g:∀ c,1≤c→(c-1)/2=i→1≤i→NL ev c ((i-1)/2)
theorem HEx.at {ev:List Ev} {i:Nat} (h:HEx ev i):HAt ev i:=⟨fun k a c _=>h.a k a c,h.g⟩
theorem qgw {ev:List Ev} {k:Nat}:qbL ev k=true↔NL ev k ((k-1)/2):=by
 unfold qbL NL
 constructor
 ·intro h x y hx hy
  rw[hx,hy] at h
  simpa using h
 ·intro h
  split
  ·rename_i x y hx hy;simp[h x y hx hy]
  ·rfl
theorem qj1 {ev:List Ev}:(∀ k,1≤k→k<ev.length→qbL ev k=true)↔qzk ev:=by
 constructor
 ·intro h k hk x y hx hy
  exact qgw.1 (h k hk (List.getElem?_eq_some_iff.1 hx).1) x y hx hy
 ·intro h k hk _
  exact qgw.2 (h k hk)
theorem qxc {ev:List Ev} {i:Nat} {x y:Ev} (ok:∀ x∈ev,EvOk x) (h:HAt ev i) (h0:0<i) (hx:ev[i]?=some x) (hy:ev[(i-1)/2]?=some y) (hl:ltE x y=true):HEx (swE ev i ((i-1)/2) x y) ((i-1)/2):=by
 have li:=(List.getElem?_eq_some_iff.1 hx).1
 have lj:=(List.getElem?_eq_some_iff.1 hy).1
 have ox:=ok x (List.mem_of_getElem? hx)
 have oy:=ok y (List.mem_of_getElem? hy)
 have hyx:=qr4 hl
 refine⟨fun k hk hne z w hz hw=>?_,fun c hc hp hp1 z w hz hw=>?_⟩
 ·rw[qpr li lj] at hz hw
  rw[if_neg hne] at hz
  by_cases h1:k=i
  ·subst h1
   rw[if_pos rfl] at hz;cases hz
   rw[if_pos rfl] at hw;cases hw
   exact hyx
  ·rw[if_neg h1] at hz
   have oz:=ok z (List.mem_of_getElem? hz)
   by_cases h2:(k-1)/2=(i-1)/2
   ·rw[if_pos h2] at hw;cases hw
    exact qnk oz oy ox (h.a k hk h1 (by omega) z y hz (by rw[h2];exact hy)) hyx
   ·rw[if_neg h2] at hw
    by_cases h3:(k-1)/2=i
    ·rw[if_pos h3] at hw;cases hw
     exact h.g k hk h3 h0 z y hz hy
    ·rw[if_neg h3] at hw
     exact h.a k hk h1 h3 z w hz hw
 ·rw[qpr li lj] at hz hw
  rw[if_neg (by omega),if_neg (by omega)] at hw
  have ow:=ok w (List.mem_of_getElem? hw)
  have hyw:ltE y w=false:=h.a ((i-1)/2) hp1 (by omega) (by omega) y w hy hw
  rw[if_neg (by omega)] at hz
  by_cases h1:c=i
  ·rw[if_pos h1] at hz;cases hz
   exact hyw
  ·rw[if_neg h1] at hz
   have oz:=ok z (List.mem_of_getElem? hz)
   exact qnk oz oy ow (h.a c hc h1 (by omega) z y hz (by rw[hp];exact hy)) hyw
theorem qGW {n mm d i:Nat} {ev:List Ev} {wh:List Int} (a:i≤d) (c:i<n) (I:AInv n mm ev wh):(Con ev wh→Sf ev wh (upM d ev wh i).1 (upM d ev wh i).2.1)∧(HAt ev i→HDn (upM d ev wh i).1 (upM d ev wh i).2.2∧(HEx ev i→qzk (upM d ev wh i).1)):=by
 refine (qhI (Q:=fun i ev wh i' ev' wh'=>(Con ev wh→Sf ev wh ev' wh')∧(HAt ev i→HDn ev' i'∧(HEx ev i→qzk ev'))) ?_ ?_ ?_ d i ev wh a c I).1
 ·intro i ev wh x y i' ev' wh' I h0 hi hx hy hl ⟨r1,r2⟩
  refine⟨fun hc=>?_,fun hh=>?_⟩
  ·have s:=hc.swap hx hy (by omega)
   exact s.trans (r1 s.con)
  ·have e:=qxc I.ok hh h0 hx hy hl
   obtain⟨q1,q2⟩:=r2 e.at
   exact⟨q1,fun _=>q2 e⟩
 ·intro i ev wh x y I h0 hi hx hy hl
  refine⟨fun hc=>Sf.refl hc,fun hh=>⟨⟨fun k hk hp=>?_,hh.g⟩,fun he k hk=>?_⟩⟩
  ·by_cases h1:k=i
   ·subst h1
    intro z w hz hw
    rw[hx] at hz;cases hz
    rw[hy] at hw;cases hw
    exact hl
   ·exact hh.a k hk h1 hp
  ·by_cases h1:k=i
   ·subst h1
    intro z w hz hw
    rw[hx] at hz;cases hz
    rw[hy] at hw;cases hw
    exact hl
   ·exact he.a k hk h1
 ·intro ev wh I
  exact⟨fun hc=>Sf.refl hc,fun hh=>⟨⟨fun k hk hp=>hh.a k hk (by omega) hp,hh.g⟩,fun he k hk=>he.a k hk (by omega)⟩⟩
section
variable {u fr wh:List Int} {b:List Bool} {ev:List Ev}
theorem VA.of (vd:Vd u b fr) (wl:wh.length=b.length) (con:Con ev wh) (own:∀ x∈ev,u[x.i.toNat]?=some x.w) (used:∀ k:Nat,b[k]?=some true→∃ x∈ev,x.i=(k:Int)) (free:∀ k:Nat,b[k]?=some false→wh[k]?=some (-1)) (cnt:b.count true=ev.length)
 (ok:∀ x∈ev,EvOk x) (nod:(ev.map (·.k)).Nodup) (full:qzk ev):VA u b fr ev wh:=by
 refine⟨vd,⟨wl,fun k hk=>?_,cnt⟩,⟨ok,nod⟩,qj1.2 full⟩
 have hb:b[k]?=some b[k]:=List.getElem?_eq_getElem hk
 unfold whB
 cases e:b[k]<;>rw[e] at hb
 ·rw[hb]
  simp[free k hb]
 ·rw[hb]
  obtain⟨x,hx,hi⟩:=used k hb
  obtain⟨j,hj⟩:=List.mem_iff_getElem?.1 hx
  obtain⟨_,hw⟩:=con j x hj
  have ek:x.i.toNat=k:=by omega
  have hu:=own x hx
  rw[ek] at hw hu
  simp[qa5,hw,hu,hj,hi]
theorem VA.con (h:VA u b fr ev wh):Con ev wh:=fun j x hx=>⟨(h.own hx).1.lo,(h.own hx).2⟩
theorem VA.full (h:VA u b fr ev wh):qzk ev:=qj1.1 h.hp
theorem VA.push {tn td z:Int} {u2 f2:List Int} {b2:List Bool} {hi hw:Int} (ht:I64 tn∧I64 td) (h0:okB tn td=true) (h:VA u b fr ev wh) (hz:cnE ev z=0) (hk:qbu u b fr=some (u2,b2,f2,hi,hw)) :
 VA u2 b2 f2 (qa7 ev wh ⟨tn,td,z,hi,hw⟩).1 (qa7 ev wh ⟨tn,td,z,hi,hw⟩).2∧(qa7 ev wh ⟨tn,td,z,hi,hw⟩).1.Perm (ev++[⟨tn,td,z,hi,hw⟩])∧Live u2 b2 hi hw∧(∀ q v,Live u b q v→Live u2 b2 q v):=by
 have hlen:=h.lens
 have hin:=qjl h.vd hk
 have hvd:=h.vd.take hk
 obtain⟨y,h1,h2,h3,e1,e2,e3,e4⟩:=qba hk
 obtain⟨el,_,_⟩:=qbk h1
 have hfree:b[hi.toNat]?=some false:=by
  have hm:hi∈fr:=by rw[el];simp
  have hk':hi.toNat<b.length:=by omega
  have:=(h.vd.part hi.toNat _ (List.getElem?_eq_getElem hk')).2 (by rw[Int.toNat_of_nonneg hin.1];exact hm)
  rw[List.getElem?_eq_getElem hk',this]
 have hzr:0≤z∧z≤1000000:=by
  apply Classical.byContradiction
  intro hne
  unfold cnE at hz
  rw[if_neg hne] at hz
  cases hz
 have hnew:∀ m∈ev,m.k≠z:=fun m hm e=>by
  unfold cnE at hz
  rw[if_pos hzr,if_pos ⟨m,hm,e⟩] at hz
  cases hz
 have hne:∀ x∈ev,x.i.toNat≠hi.toNat:=fun x hx e=>by
  obtain⟨j,hj⟩:=List.mem_iff_getElem?.1 hx
  have:=(h.own hj).1.used
  rw[e,hfree] at this
  cases this
 generalize hX:(⟨tn,td,z,hi,hw⟩:Ev)=X at *
 have Xi:X.i=hi:=by rw[← hX]
 have Xw:X.w=hw:=by rw[← hX]
 have Xk:X.k=z:=by rw[← hX]
 have oX:EvOk X:=by rw[← hX];exact⟨ht,h0,hzr.1,hzr.2⟩
 have I:=qgE h.inv oX (by rw[Xi];omega)
 have hc:Con (ev++[X]) (wh.set X.i.toNat (ev.length:Int)):=by
  intro j x hx
  rw[List.getElem?_append] at hx
  rw[List.getElem?_set]
  split at hx
  ·obtain⟨a1,a2⟩:=h.con j x hx
   rw[if_neg (by rw[Xi];exact fun e=>hne x (List.mem_of_getElem? hx) e.symm)]
   exact⟨a1,a2⟩
  ·rename_i hj
   have:j-ev.length=0:=by
    have:=(List.getElem?_eq_some_iff.1 hx).1
    simpa using this
   rw[this] at hx
   cases hx
   rw[if_pos rfl,if_pos (by rw[Xi];omega)]
   exact⟨by rw[Xi];exact hin.1,by congr 1;omega⟩
 obtain⟨s1,s2⟩:=qGW (d:=ev.length) (Nat.le_refl ev.length) (by omega) I
 have s:Sf (ev++[X]) (wh.set X.i.toNat (ev.length:Int)) (qa7 ev wh X).1 (qa7 ev wh X).2:=s1 hc
 have hex:HEx (ev++[X]) ev.length:=by
  refine⟨fun k hk hkn x y hx hy=>?_,fun c hc hp h1 x y hx hy=>?_⟩
  ·have hl:=(List.getElem?_eq_some_iff.1 hx).1
   simp at hl
   rw[List.getElem?_append_left (by omega)] at hx hy
   exact h.full k hk x y hx hy
  ·have hl:=(List.getElem?_eq_some_iff.1 hx).1
   simp at hl
   omega
 have hfull:qzk (qa7 ev wh X).1:=(s2 hex.at).2 hex
 obtain⟨J,_⟩:=qi7 (d:=ev.length) (i:=ev.length) (by omega) (by omega) I
 have j1:(qa7 ev wh X).1.length=ev.length+1:=J.len
 have j2:(qa7 ev wh X).2.length=wh.length:=J.wl
 have hb2:∀ k:Nat,b2[k]?=if hi.toNat=k then some true else b[k]?:=fun k=>by
  rw[e2,List.getElem?_set]
  by_cases e:hi.toNat=k
  ·rw[if_pos e,if_pos e,if_pos (by omega)]
  ·rw[if_neg e,if_neg e]
 have hu2:∀ k:Nat,u2[k]?=if hi.toNat=k then some hw else u[k]?:=fun k=>by
  rw[e1,List.getElem?_set]
  by_cases e:hi.toNat=k
  ·rw[if_pos e,if_pos e,if_pos (by omega)]
  ·rw[if_neg e,if_neg e]
 have hmem:∀ x,x∈(qa7 ev wh X).1↔x∈ev∨x=X:=fun x=>by rw[s.perm.mem_iff];simp
 have hlX:Live u2 b2 hi hw:=⟨hin.1,by rw[e1,List.length_set];exact hin.2,by rw[hb2,if_pos rfl],by rw[hu2,if_pos rfl]⟩
 refine⟨VA.of hvd (by rw[j2,e2,List.length_set];omega) s.con (fun x hx=>?_) (fun k hk=>?_) (fun k hk=>?_) ?_ J.ok ?_ hfull,s.perm,hlX,fun q v hq=>?_⟩
 ·rcases (hmem x).1 hx with hx | hx
  ·obtain⟨j,hj⟩:=List.mem_iff_getElem?.1 hx
   rw[hu2,if_neg (fun e=>hne x hx e.symm)]
   exact (h.own hj).1.use
  ·subst hx
   rw[hu2,Xi,if_pos rfl,Xw]
 ·rw[hb2] at hk
  by_cases e:hi.toNat=k
  ·exact⟨X,(hmem X).2 (Or.inr rfl),by rw[Xi];omega⟩
  ·rw[if_neg e] at hk
   obtain⟨j,x,_,a2,a3,_⟩:=h.used hk
   exact⟨x,(hmem x).2 (Or.inl (List.mem_of_getElem? a2)),a3⟩
 ·rw[hb2] at hk
  by_cases e:hi.toNat=k
  ·rw[if_pos e] at hk;cases hk
  ·rw[if_neg e] at hk
   have hr:=s.rest k fun x hx e'=>by
    rcases List.mem_append.1 hx with hx | hx
    ·obtain⟨j,hj⟩:=List.mem_iff_getElem?.1 hx
     have:=(h.own hj).1.used
     rw[e',hk] at this
     cases this
    ·rw[List.mem_singleton] at hx
     subst hx
     rw[Xi] at e'
     exact e e'
   rw[hr,List.getElem?_set,Xi,if_neg e]
   exact h.free hk
 ·rw[j1,e2,List.count_set (by omega)]
  have hbf:b[hi.toNat]'(by omega)=false:=by
   have:=List.getElem?_eq_getElem (l:=b) (i:=hi.toNat) (by omega)
   rw[hfree] at this
   exact (Option.some.inj this).symm
  have:=h.wf.cnt
  simp[hbf]
  omega
 ·have hp:((qa7 ev wh X).1.map (·.k)).Perm ((ev++[X]).map (·.k)):=s.perm.map _
  refine hp.nodup_iff.2 ?_
  rw[List.map_append,List.nodup_append]
  refine⟨h.ef.nod,by simp,fun a ha c hc e=>?_⟩
  obtain⟨m,hm,rfl⟩:=List.mem_map.1 ha
  simp at hc
  exact hnew m hm (by rw[e,hc,Xk])
 ·have:hi.toNat≠q.toNat:=fun e=>by
   have:=hq.used
   rw[← e,hfree] at this
   cases this
  exact⟨hq.lo,by rw[e1,List.length_set];exact hq.lt,by rw[hb2,if_neg this];exact hq.used,by rw[hu2,if_neg this];exact hq.use⟩
end
end Go.Proofs.YtkckcgpmnipnaaaGreat

namespace Go.Proofs.YtkckcgpmnipnaaaGreat
set_option maxRecDepth 100000
open Go.RowKit
structure P2 where
 a:Int
 b:Int
deriving DecidableEq
def p2V:List P2→List Value
 | []=>[]
 | m::r=>iV m.a::iV m.b::p2V r
theorem qer:∀ (a b:List P2),p2V (a++b)=p2V a++p2V b
 | [],_=>rfl
 | p::r,b=>by simp[p2V,qer r b]
theorem qoE:∀ {l:List P2} {k:Nat} {m:P2},l[k]?=some m→(p2V l)[k*2]?=some (iV m.a)∧(p2V l)[k*2+1]?=some (iV m.b)
 | [],k,p,h=>by simp at h
 | q::r,0,p,h=>by simp at h;subst h;exact⟨rfl,rfl⟩
 | q::r,k+1,p,h=>by
  have:=qoE (l:=r) (k:=k) (m:=p) (by simpa using h)
  rw[show (k+1)*2=k*2+1+1 by omega]
  exact this
end Go.Proofs.YtkckcgpmnipnaaaGreat

namespace Go.Proofs.YtkckcgpmnipnaaaGreat
set_option maxRecDepth 100000
open Go.RowKit
theorem VA.new {n:Nat} (h1:1≤n) (h2:n≤200):VA (List.replicate n 0) (List.replicate n false) (qbH n) [] (List.replicate n (-1)):=by
 refine VA.of (Vd.new h1 h2) (by simp) (fun j x hx=>by simp at hx) (fun x hx=>by simp at hx) (fun k hk=>?_) (fun k hk=>?_) (by simp[List.count_replicate]) (fun x hx=>by simp at hx) (by simp) (fun k _ x y hx=>by simp at hx)
 ·have:=List.eq_of_mem_replicate (List.mem_of_getElem? hk)
  cases this
 ·have:=(List.getElem?_eq_some_iff.1 hk).1
  simp at this
  simp[this]
end Go.Proofs.YtkckcgpmnipnaaaGreat

namespace Go.Proofs.YtkckcgpmnipnaaaGreat
set_option maxRecDepth 100000
open Go.ChangeShapes Go.WideShapes Go.ChangeAt Go.RowKit Go.Joins Go.Deep
theorem qGe:Tryz.prog.cellsOf 61=5:=by kernel_rfl
theorem qAY:Tryz.prog.cellsOf 26=2:=by kernel_rfl
theorem qCt:Tryz.prog.cellsOf 59=2:=by kernel_rfl
theorem quq:Tryz.prog.cellsOf 2=1:=by kernel_rfl
theorem qFE:Tryz.prog.cellsOf 34=1:=by kernel_rfl
theorem qFR:Tryz.prog.cellsOf 36=5:=by kernel_rfl
theorem qDR {n:Int} (h:(Lit.int .i64 n).wf=true):I64 n:=by
 simp only[Lit.wf,Bool.and_eq_true,decide_eq_true_eq] at h
 have h1:IntKind.i64.min = -9223372036854775808:=by decide
 have h2:IntKind.i64.max=9223372036854775807:=by decide
 rw[h1,h2] at h
 exact h
section
variable {H:Type} {enc:TypeId×Value→H} {W:World} {base:Nat} {spare:Nat→Bool} {held:Bool}
theorem qDr (f:Nat→Ev):∀ (n j:Nat) (v:Value),(qbf ((List.range n).map f))[j]?=some v→j/5<n∧(ecV (f (j/5)))[j%5]?=some v:=by
 intro n j v h
 have hj:j<n*5:=by
  have:=(List.getElem?_eq_some_iff.1 h).1
  rw[qbT] at this
  simpa using this
 have hk:j/5<n:=by omega
 obtain⟨g0,g1,g2,g3,g4⟩:=qdf (l:=(List.range n).map f) (k:=j/5) (m:=f (j/5)) (by simp[hk])
 refine⟨hk,?_⟩
 have h5:j%5=0∨j%5=1∨j%5=2∨j%5=3∨j%5=4:=by omega
 have e:j=j/5*5+j%5:=by omega
 rw[e] at h
 rcases h5 with e3 | e3 | e3 | e3 | e3<;>rw[e3] at h ⊢
 ·rw[Nat.add_zero,g0] at h;exact h
 ·rw[g1] at h;exact h
 ·rw[g2] at h;exact h
 ·rw[g3] at h;exact h
 ·rw[g4] at h;exact h
theorem qrt {fuel:Nat} {cs:List Value} {x:DataW H×List MemPlace} (h:DataW.trod enc Tryz.prog W base spare held fuel 34 cs=some x) :
 ∃ (u:Value) (l:List Ev),cs=[u]∧Rd W 5 u l.length (qbf l)∧∀ p∈l,EvI p:=by
 rcases open_slice Tryz.underlying34 h with ⟨rfl,_⟩ | ⟨a,len,cap,m,n,D,Pl,rfl,_,hlc,_,hm,_,hi⟩
 ·exact⟨_,[],rfl,⟨rfl,none,0,rfl,Nat.le_refl _,fun j v hv=>by simp[qbf] at hv⟩,fun p hp=>by simp at hp⟩
 have hlm:len≤m:=by rw[hm];split<;>omega
 have each:∀ i,i<len→∃ p:Ev,(W.cell? (a.add (i*5))=some (iV p.n)∧W.cell? (a.add (i*5+1))=some (iV p.d)∧W.cell? (a.add (i*5+2))=some (iV p.k)∧W.cell? (a.add (i*5+3))=some (iV p.i)∧W.cell? (a.add (i*5+4))=some (iV p.w))∧EvI p:=by
  intro i hil
  obtain⟨cs',hc,ht⟩:=hi i (by omega)
  rw[qGe] at hc
  obtain⟨y0,y1,y2,n',_,hlen,t0,t1,t2⟩:=trod_struct3 Tryz.underlying61 ht
  obtain⟨z0,z1,n2,_,hlen2,s0,s1⟩:=trod_struct2 Tryz.underlying26 t0
  obtain⟨z2,z3,n3,_,hlen3,s2,s3⟩:=trod_struct2 Tryz.underlying59 t2
  obtain⟨_,hcl,hat⟩:=World.cells?_some hc
  match cs',hcl with
  | [c0,c1,c2,c3,c4],_=>
   obtain⟨pn,e0,_,w0⟩:=DataW.trod_int Tryz.underlying2 s0
   obtain⟨pd,e1,_,w1⟩:=DataW.trod_int Tryz.underlying2 s1
   obtain⟨pk,e2,_,w2⟩:=DataW.trod_int Tryz.underlying3 t1
   obtain⟨pi,e3,_,w3⟩:=DataW.trod_int Tryz.underlying3 s2
   obtain⟨pw,e4,_,w4⟩:=DataW.trod_int Tryz.underlying3 s3
   simp[qAV,quq,qAY,qCt] at e0 e1 e2 e3 e4
   refine⟨⟨pn,pd,pk,pi,pw⟩,⟨?_,?_,?_,?_,?_⟩,qDR w0,qDR w1⟩
   ·have:=hat 0 (by omega);rw[add_add] at this;simpa [e0] using this
   ·have:=hat 1 (by omega);rw[add_add] at this;simpa [e1] using this
   ·have:=hat 2 (by omega);rw[add_add] at this;simpa [e2] using this
   ·have:=hat 3 (by omega);rw[add_add] at this;simpa [e3] using this
   ·have:=hat 4 (by omega);rw[add_add] at this;simpa [e4] using this
 haveI:Inhabited Ev:=⟨⟨0,0,0,0,0⟩⟩
 obtain⟨f,hf⟩:=choose_lt (α:=Ev) each
 refine⟨_,(List.range len).map f,rfl,⟨qbT _,some a,cap,by simp,by simpa using hlc,fun j v hv=>?_⟩,fun p hp=>?_⟩
 ·obtain⟨hk,he⟩:=qDr f len j v hv
  obtain⟨c0,c1,c2,c3,c4⟩:=(hf _ hk).1
  have hcell:W.cell? (a.add j)=some v:=by
   have h5:j%5=0∨j%5=1∨j%5=2∨j%5=3∨j%5=4:=by omega
   have e:j=j/5*5+j%5:=by omega
   rcases h5 with e3 | e3 | e3 | e3 | e3<;>rw[e3] at he e<;>rw[e]<;>simp at he<;>subst he
   ·exact c0
   ·exact c1
   ·exact c2
   ·exact c3
   ·exact c4
  obtain⟨b,off,spot⟩:=a
  have hs:spot=none:=by simpa [Addr.add] using World.cell?_spot (hf 0 (by omega)).1.1
  subst hs
  exact⟨b,off,rfl,by rw[← Go.WideShapes.add_plain];exact hcell⟩
 ·obtain⟨i,hi',rfl⟩:=List.mem_map.1 hp
  exact (hf i (List.mem_range.1 hi')).2
end
end Go.Proofs.YtkckcgpmnipnaaaGreat

namespace Go.Proofs.YtkckcgpmnipnaaaGreat
set_option maxRecDepth 100000
open Go.RowKit
section
variable {u fr wh:List Int} {b:List Bool} {ev:List Ev}
section
variable {u2 f2 wh3:List Int} {b2:List Bool} {ev3:List Ev} {gi gw:Int}
end
end
end Go.Proofs.YtkckcgpmnipnaaaGreat

namespace Go.Proofs.YtkckcgpmnipnaaaGreat
set_option maxRecDepth 100000
open Go.RowKit
theorem qE1 (a c d e g:Nat):SV.ag [.ls 7 a,.ls 8 c,.ls 9 d,.ls 11 (0+e),.ls 13 (0+g)]=SV.ag [.ls 7 a,.ls 8 c,.ls 9 d,.ls 11 e,.ls 13 g]:=by rw[Nat.zero_add,Nat.zero_add]
theorem qjd (e:TypeId) (s n:Nat) (xs:List Value):some (SV.row e s (0+n) ([]++xs))=some (SV.row e s n xs):=by rw[Nat.zero_add,List.nil_append]
abbrev qCP (b:List Bool) (ev:List Ev) (fr:List Int) (u:List Int) (wh:List Int):HpL:=[(0,0,zrI u),(1,0,zrB b),(2,0,zrI fr),(3,0,qar ev),(4,0,zrI wh)]
theorem qHy {u fr wh:List Int} {b:List Bool} {ev:List Ev} (h6:Fn 136 3 [.ag [.ls 0 u.length,.ls 1 b.length,.ls 2 fr.length]] [(0,0,zrI u),(1,0,zrB b),(2,0,zrI fr)] (.ag [.ls 3 u.length,.ls 4 b.length,.ls 5 fr.length]) 3 [(3,0,zrI u),(4,0,zrB b),(5,0,zrI fr)]) (ne:0+ev.length≤1000000) (nw:0+wh.length≤1000000) :
 Fn 72 5 [agA u b fr ev wh] (qCP b ev fr u wh) (.ag [.ls 5 u.length,.ls 6 b.length,.ls 7 fr.length,.ls 8 ev.length,.ls 9 wh.length]) 5 [(5,0,zrI u),(6,0,zrB b),(7,0,zrI fr),(8,0,qar ev),(9,0,zrI wh)]:=
 Fx [(5,7),(6,8),(7,9),(8,11),(9,13)] [.md,Cf h6 [0,1,2]]
  (qE1 u.length b.length fr.length ev.length wh.length) (Ai (Er (zrI u)) (Ai (Er (zrB b)) (Ai (Er (zrI fr)) (Ai (qjd 61 5 ev.length (qbf ev)) (Ai (qjd 3 1 wh.length (ziV wh)) tI))))) (Co h6 [0,1,2] 7 (Ai ne (Ai nw tI)))
theorem qqZ {u fr wh:List Int} {b:List Bool} {ev:List Ev} {hi hw:Int} (hc:Fn 123 5 [agA u b fr ev wh] (qCP b ev fr u wh) (.pv (iV (0))) 0 []) (hl:Fn 189 3 [.ag [.ls 0 u.length,.ls 1 b.length,.ls 2 fr.length],.pv (qbb hi hw)] [(0,0,zrI u),(1,0,zrB b),(2,0,zrI fr)] (.pv (.bool false)) 0 []) :
 Fn 125 5 [agA u b fr ev wh,.pv (qbb hi hw)] (qCP b ev fr u wh) (.pv (.tuple #[.agg #[iV 0,iV 0,iV 0,iV 0,iV 0],iV 6])) 0 []:=
 Fz [] [Cf hc [0,1,2,3,4],.k,Cf hl [0,1,2],.k]
  tI (Co hc [0,1,2,3,4] 8 (Co hl [0,1,2] 8 tI))
theorem qC2 {u fr wh:List Int} {b:List Bool} {ev:List Ev} {x:Ev} {hi hw:Int} {j:Nat} (hc:Fn 123 5 [agA u b fr ev wh] (qCP b ev fr u wh) (.pv (iV (0))) 0 []) (hl:Fn 189 3 [.ag [.ls 0 u.length,.ls 1 b.length,.ls 2 fr.length],.pv (qbb hi hw)] [(0,0,zrI u),(1,0,zrB b),(2,0,zrI fr)] (.pv (.bool true)) 0 []) (hiw:0≤hi∧hi<(wh.length:Int)) (hw_:wh[hi.toNat]?=some (j:Int)) (hij:0≤(j:Int)∧(j:Int)<(ev.length:Int)) (hx:ev[j]?=some x) :
 Fn 125 5 [agA u b fr ev wh,.pv (qbb hi hw)] (qCP b ev fr u wh) (.pv (.tuple #[qae x,iV 0])) 0 []:=
 Fz [] [Cf hc [0,1,2,3,4],.k,Cf hl [0,1,2],.k,.md,.r (iV (j:Int)),.r (qae x)]
  tI (Co hc [0,1,2,3,4] 8 (Co hl [0,1,2] 8 (Ai hiw (Ai (qfM hw_) (Ai hij (Ai (qcw hx) tI))))))
abbrev qDD (b:List Bool) (ev:List Ev) (fr:List Int) (u:List Int) (wh:List Int):HpL:=[(10,0,.ls 0 u.length),(10,1,.ls 1 b.length),(10,2,.ls 2 fr.length),(10,3,.ls 3 ev.length),(10,4,.ls 4 wh.length),(11,0,.ls 5 u.length),(11,1,.ls 6 b.length),(11,2,.ls 7 fr.length),(11,3,.ls 8 ev.length),(11,4,.ls 9 wh.length),(3,0,qar ev),(8,0,qar ev)]
theorem qsG {u fr wh:List Int} {b:List Bool} {ev:List Ev} {m:Ev} {k:Nat} (hk:ev[k]?=some m) (hin:0≤(k:Int)∧(k:Int)<(ev.length:Int)) (hlt:decide ((k:Int)<(ev.length:Int))=true) (hq:(!((m.n==m.n&&(m.d==m.d&&true))&&(m.k==m.k&&((m.i==m.i&&(m.w==m.w&&true))&&true))))=false) (hs:iV (IntKind.i64.wrap ((k:Int)+1))=iV (((k+1:Nat):Int))) {e:Exit} {tm2:TmL} {hp2:HpL}
 (r:Rl 10 10 80 0 47 12 ([(2,.pp 10 0),(3,.pp 11 0),(5,.pv (iV ((k+1:Nat):Int)))]) (qDD b ev fr u wh) e tm2 hp2):Rl 10 10 80 0 47 12 ([(2,.pp 10 0),(3,.pp 11 0),(5,.pv (iV (k:Int)))]) (qDD b ev fr u wh) e tm2 hp2:=
 RunsL.next [] 300 [.t true,.r (qae m),.r (qae m),.t false,Re hs]
  (Ro (Ai hlt (Ai hin (Ai (qcw hk) (Ai hin (Ai (qcw hk) (Ai hq (Ai hs tI)))))))) r
theorem qvp {u fr wh:List Int} {b:List Bool} {ev:List Ev} {k:Nat} (hge:decide ((k:Int)<(ev.length:Int))=false):Rl 10 10 80 0 47 12 ([(2,.pp 10 0),(3,.pp 11 0),(5,.pv (iV (k:Int)))]) (qDD b ev fr u wh) (.exit 0) ([]) ([]):=
 RunsL.stop [] 300 [.t false] (fun h=>by cases h)
  (Ro (Ai hge tI))
theorem qtf {u fr wh:List Int} {b:List Bool} {ev:List Ev} {hi:Int} (h6:Fn 148 6 [.ag [.ls 0 u.length,.ls 1 b.length,.ls 2 fr.length],.ag [.ls 3 u.length,.ls 4 b.length,.ls 5 fr.length]] [(0,0,zrI u),(1,0,zrB b),(2,0,zrI fr),(3,0,zrI u),(4,0,zrB b),(5,0,zrI fr)] (.pv (.bool true)) 0 []) (hi:Fn 149 2 [.ls 0 wh.length,.ls 1 wh.length] [(0,0,zrI wh),(1,0,zrI wh)] (.pv (.bool true)) 0 []) (hle:(!((ev.length:Int)==(ev.length:Int)))=false) (r0:Rl 10 10 80 0 47 12 ([(2,.pp 10 0),(3,.pp 11 0),(5,.pv (iV ((0:Nat):Int)))]) (qDD b ev fr u wh) (.exit 0) ([]) ([])) :
 Fn 80 10 [agA u b fr ev wh,.ag [.ls 5 u.length,.ls 6 b.length,.ls 7 fr.length,.ls 8 ev.length,.ls 9 wh.length]] [(0,0,zrI u),(1,0,zrB b),(2,0,zrI fr),(3,0,qar ev),(4,0,zrI wh),(5,0,zrI u),(6,0,zrB b),(7,0,zrI fr),(8,0,qar ev),(9,0,zrI wh)] (.pv (.bool true)) 0 []:=
 Fz [] [Cf h6 [0,1,2,5,6,7],.k,Cf hi [4,9],.k,.t false,Lf r0]
  tI (Co h6 [0,1,2,5,6,7] 12 (Co hi [4,9] 12 (Ai hle (Lo r0 [] tI))))
end Go.Proofs.YtkckcgpmnipnaaaGreat

namespace Go.Proofs.YtkckcgpmnipnaaaGreat
set_option maxRecDepth 100000
open Go.RowKit
abbrev qFB (b2:List Bool) (ev:List Ev) (f2:List Int) (hi:Int) (hw:Int) (mm:Nat) (n:Nat) (u2:List Int) (wh:List Int):HpL:=[(22,0,.ls 15 u2.length),(22,1,.ls 16 b2.length),(22,2,.ls 17 f2.length),(22,3,.ls 21 n),(22,4,.ls 13 mm),(14,0,.ls 15 u2.length),(14,1,.ls 16 b2.length),(14,2,.ls 17 f2.length),(14,3,.ls 21 n),(14,4,.ls 13 mm),(7,0,.pv (.slice none 0 0)),(7,1,.pv (.slice none 0 0)),(7,2,.pv (.slice none 0 0)),(7,3,.pv (.slice none 0 0)),(7,4,.pv (.slice none 0 0)),(8,0,.pv (iV 0)),(8,1,.pv (iV 0)),(19,0,.pv (iV hi)),(19,1,.pv (iV hw)),(15,0,zrI u2),(16,0,zrB b2),(17,0,zrI f2),(21,0,.row 61 5 n (qbf (ev))),(13,0,.row 3 1 mm (ziV (wh)))]
theorem qlB {wh u2 f2:List Int} {b2:List Bool} {ev:List Ev} {x y:Ev} {hi hw:Int} {k j q n mm:Nat} (n2:¬ (2:Int)=0) (hin_x:0≤(k:Int)∧(k:Int)<(n:Int)) (he_x:ev[k]?=some x) (hin_y:0≤(j:Int)∧(j:Int)<(n:Int)) (he_y:ev[j]?=some y) (h0:decide ((k:Int)>0)=true) (hm1:iV (IntKind.i64.wrap ((k:Int)-1))=iV (q:Int)) (hm2:iV (IntKind.i64.wrap (Int.tdiv (q:Int) 2))=iV (j:Int)) (hl:Pure Tryz.prog 187 #[qae x,qae y] (.bool true)) (hsa:k<(ev).length) (hsb:j<((ev).set k y).length) (h2a:(((ev).set k y).set j x)[k]?=some y) (h2b:(((ev).set k y).set j x)[j]?=some x) (hwb:0≤y.i∧y.i<(mm:Int)) (hwbl:y.i.toNat<(wh).length) (hwa:0≤x.i∧x.i<(mm:Int)) (hwal:x.i.toNat<((wh).set y.i.toNat (k:Int)).length) {e:Exit} {tm2:TmL} {hp2:HpL}
 (r:Rl 5 22 154 0 32 23 ([(1,.pv (iV (j:Int))),(2,.pp 22 0)]) ([(22,0,.ls 15 u2.length),(22,1,.ls 16 b2.length),(22,2,.ls 17 f2.length),(22,3,.ls 21 n),(22,4,.ls 13 mm),(14,0,.ls 15 u2.length),(14,1,.ls 16 b2.length),(14,2,.ls 17 f2.length),(14,3,.ls 21 n),(14,4,.ls 13 mm),(7,0,.pv (.slice none 0 0)),(7,1,.pv (.slice none 0 0)),(7,2,.pv (.slice none 0 0)),(7,3,.pv (.slice none 0 0)),(7,4,.pv (.slice none 0 0)),(8,0,.pv (iV 0)),(8,1,.pv (iV 0)),(19,0,.pv (iV hi)),(19,1,.pv (iV hw)),(15,0,zrI u2),(16,0,zrB b2),(17,0,zrI f2),(21,0,.row 61 5 n (qbf (((ev).set k y).set j x))),(13,0,.row 3 1 mm (ziV (((wh).set y.i.toNat (k:Int)).set x.i.toNat (j:Int))))]) e tm2 hp2):Rl 5 22 154 0 32 23 ([(1,.pv (iV (k:Int))),(2,.pp 22 0)]) (qFB b2 ev f2 hi hw mm n u2 wh) e tm2 hp2:=
 RunsL.next [] 300 [.t true,.r (qae x),Re hm1,Re hm2,.r (qae y),Rf hl,Re hm1,Re hm2,.k,.gh [(23,3)],.r (qae y),.r (qae x),.w (qbf ((ev).set k y)),.w (qbf (((ev).set k y).set j x)),.gh [(23,3),(23,4)],.r (iV (y.i)),.r (iV (x.i)),.w (ziV ((wh).set y.i.toNat (k:Int))),.w (ziV (((wh).set y.i.toNat (k:Int)).set x.i.toNat (j:Int))),Re hm1,Re hm2]
  (Ro (Ai h0 (Ai hin_x (Ai (qcw he_x) (Ai hm1 (Ai n2 (Ai hm2 (Ai hin_y (Ai (qcw he_y) (Ai hl (Ai hm1 (Ai n2 (Ai hm2 (Ai hin_y (Ai hin_x (Ai (qcw he_y) (Ai (qcw he_x) (Ai hin_x (Ai (Er (SV.ls 21 n)) (Ai (qzg (ev) k y hsa) (Ai (qmT (ev) k hsa) (Ai (Er (SV.ls 21 n)) (Ai hin_y (Ai (Er (SV.ls 21 n)) (Ai (qzg ((ev).set k y) j x hsb) (Ai (qmT ((ev).set k y) j hsb) (Ai (Er (SV.ls 21 n)) (Ai hin_x (Ai hin_y (Ai (qDh h2a) (Ai (qDh h2b) (Ai hwb (Ai (Er (SV.ls 21 n)) (Ai (Er (SV.ls 13 mm)) (Ai (qmi (wh) y.i.toNat (k:Int) hwbl) (Ai (qcK (wh) y.i.toNat hwbl) (Ai (Er (SV.ls 21 n)) (Ai (Er (SV.ls 13 mm)) (Ai hwa (Ai (Er (SV.ls 21 n)) (Ai (Er (SV.ls 13 mm)) (Ai (qmi ((wh).set y.i.toNat (k:Int)) x.i.toNat (j:Int) hwal) (Ai (qcK ((wh).set y.i.toNat (k:Int)) x.i.toNat hwal) (Ai (Er (SV.ls 21 n)) (Ai (Er (SV.ls 13 mm)) (Ai hm1 (Ai n2 (Ai hm2 tI)))))))))))))))))))))))))))))))))))))))))))))))) r
abbrev qHt (b2:List Bool) (ev:List Ev) (f2:List Int) (hi:Int) (hw:Int) (mm:Nat) (n:Nat) (u2:List Int) (wh:List Int):HpL:=[(14,0,.ls 15 u2.length),(14,1,.ls 16 b2.length),(14,2,.ls 17 f2.length),(14,3,.ls 21 n),(14,4,.ls 13 mm),(7,0,.pv (.slice none 0 0)),(7,1,.pv (.slice none 0 0)),(7,2,.pv (.slice none 0 0)),(7,3,.pv (.slice none 0 0)),(7,4,.pv (.slice none 0 0)),(8,0,.pv (iV 0)),(8,1,.pv (iV 0)),(19,0,.pv (iV hi)),(19,1,.pv (iV hw)),(15,0,zrI u2),(16,0,zrB b2),(17,0,zrI f2),(21,0,.row 61 5 n (qbf (ev))),(13,0,.row 3 1 mm (ziV (wh)))]
theorem qlU {wh u2 f2:List Int} {b2:List Bool} {ev:List Ev} {x y:Ev} {hi hw:Int} {k j q n mm:Nat} (n2:¬ (2:Int)=0) (hin_x:0≤(k:Int)∧(k:Int)<(n:Int)) (he_x:ev[k]?=some x) (hin_y:0≤(j:Int)∧(j:Int)<(n:Int)) (he_y:ev[j]?=some y) (h0:decide ((k:Int)>0)=true) (hm1:iV (IntKind.i64.wrap ((k:Int)-1))=iV (q:Int)) (hm2:iV (IntKind.i64.wrap (Int.tdiv (q:Int) 2))=iV (j:Int)) (hl:Pure Tryz.prog 187 #[qae x,qae y] (.bool false)):Rl 5 22 154 0 32 23 ([(1,.pv (iV (k:Int))),(2,.pp 22 0)]) (qFB b2 ev f2 hi hw mm n u2 wh) (.exit 0) ([(1,.pv (iV (k:Int)))]) (qHt b2 ev f2 hi hw mm n u2 wh):=
 RunsL.stop [] 300 [.t true,.r (qae x),Re hm1,Re hm2,.r (qae y),Rf hl] (fun h=>by cases h)
  (Ro (Ai h0 (Ai hin_x (Ai (qcw he_x) (Ai hm1 (Ai n2 (Ai hm2 (Ai hin_y (Ai (qcw he_y) (Ai hl tI))))))))))
theorem qlY {wh u2 f2:List Int} {b2:List Bool} {ev:List Ev} {hi hw:Int} {k n mm:Nat} (h0:decide ((k:Int)>0)=false):Rl 5 22 154 0 32 23 ([(1,.pv (iV (k:Int))),(2,.pp 22 0)]) (qFB b2 ev f2 hi hw mm n u2 wh) (.exit 0) ([(1,.pv (iV (k:Int)))]) (qHt b2 ev f2 hi hw mm n u2 wh):=
 RunsL.stop [] 300 [.t false] (fun h=>by cases h)
  (Ro (Ai h0 tI))
theorem qrD (g:List Ev) (x:Ev):some (SV.row 61 5 (g.length+1) (qbf g++ecV x))=some (SV.row 61 5 (g.length+1) (qbf (g++[x]))):=by rw[qcD];rfl
theorem qsy {u fr wh u2 f2 wh3:List Int} {b b2:List Bool} {ev ev3:List Ev} {z tn td hi hw:Int} {p la:Nat} (htw:Fn 72 5 [agA u b fr ev wh] [(0,0,zrI u),(1,0,zrB b),(2,0,zrI fr),(3,0,qar ev),(4,0,zrI wh)] (.ag [.ls 5 u.length,.ls 6 b.length,.ls 7 fr.length,.ls 8 ev.length,.ls 9 wh.length]) 5 [(5,0,zrI u),(6,0,zrB b),(7,0,zrI fr),(8,0,qar ev),(9,0,zrI wh)]) (htk:Fn 243 3 [.ag [.ls 0 u.length,.ls 1 b.length,.ls 2 fr.length]] [(0,0,zrI u),(1,0,zrB b),(2,0,zrI fr)] (.tu [.ag [.ls 3 u2.length,.ls 4 b2.length,.ls 5 f2.length],.one (.pv (qbb hi hw))]) 3 [(3,0,zrI u2),(4,0,zrB b2),(5,0,zrI f2)]) (hl:ev.length+1≤1000000) (hla:iV (IntKind.i64.wrap (((ev.length+1:Nat):Int)-1))=iV (la:Int)) (hiw:0≤hi∧hi<(wh.length:Int)) (hws:hi.toNat<wh.length) (r0:Rl 5 22 154 0 32 23 ([(1,.pv (iV (la:Int))),(2,.pp 22 0)]) ([(22,0,.ls 15 u2.length),(22,1,.ls 16 b2.length),(22,2,.ls 17 f2.length),(22,3,.ls 21 (ev.length+1)),(22,4,.ls 13 wh.length),(14,0,.ls 15 u2.length),(14,1,.ls 16 b2.length),(14,2,.ls 17 f2.length),(14,3,.ls 21 (ev.length+1)),(14,4,.ls 13 wh.length),(7,0,.pv (.slice none 0 0)),(7,1,.pv (.slice none 0 0)),(7,2,.pv (.slice none 0 0)),(7,3,.pv (.slice none 0 0)),(7,4,.pv (.slice none 0 0)),(8,0,.pv (iV 0)),(8,1,.pv (iV 0)),(19,0,.pv (iV hi)),(19,1,.pv (iV hw)),(15,0,zrI u2),(16,0,zrB b2),(17,0,zrI f2),(21,0,.row 61 5 (ev.length+1) (qbf (ev++[⟨tn,td,z,hi,hw⟩]))),(13,0,.row 3 1 wh.length (ziV (wh.set hi.toNat (la:Int))))]) (.exit 0) ([(1,.pv (iV (p:Int)))]) ([(14,0,.ls 15 u2.length),(14,1,.ls 16 b2.length),(14,2,.ls 17 f2.length),(14,3,.ls 21 (ev.length+1)),(14,4,.ls 13 wh.length),(7,0,.pv (.slice none 0 0)),(7,1,.pv (.slice none 0 0)),(7,2,.pv (.slice none 0 0)),(7,3,.pv (.slice none 0 0)),(7,4,.pv (.slice none 0 0)),(8,0,.pv (iV 0)),(8,1,.pv (iV 0)),(19,0,.pv (iV hi)),(19,1,.pv (iV hw)),(15,0,zrI u2),(16,0,zrB b2),(17,0,zrI f2),(21,0,.row 61 5 (ev.length+1) (qbf (ev3))),(13,0,.row 3 1 wh.length (ziV (wh3)))])) :
 Fn 198 5 [agA u b fr ev wh,.pv (qaa tn td),.pv (iV (z))] [(0,0,zrI u),(1,0,zrB b),(2,0,zrI fr),(3,0,qar ev),(4,0,zrI wh)] (.tu [.ag [.ls 5 u2.length,.ls 6 b2.length,.ls 7 f2.length,.ls 8 (ev.length+1),.ls 9 wh.length],.one (.pv (qbb hi hw))]) 5 [(5,0,zrI u2),(6,0,zrB b2),(7,0,zrI f2),(8,0,.row 61 5 (ev.length+1) (qbf (ev3))),(9,0,.row 3 1 wh.length (ziV (wh3)))]:=
 Fz [(5,15),(6,16),(7,17),(8,21),(9,13)] [Cf htw [0,1,2,3,4],Cf htk [9,10,11],.r (iV (la:Int)),.w (ziV (wh.set hi.toNat (la:Int))),.r (iV (la:Int)),.k,Lf r0]
  (qaE (qaK [(5,15),(6,16),(7,17),(8,21),(9,13)]) [(5,0,zrI u2),(6,0,zrB b2),(7,0,zrI f2),(8,0,.row 61 5 (ev.length+1) (qbf (ev3))),(9,0,.row 3 1 wh.length (ziV (wh3)))]) (Co htw [0,1,2,3,4] 9 (Co htk [9,10,11] 15 (Ai hl (Ai hla (Ai hiw (Ai (qmi wh hi.toNat (la:Int) hws) (Ai (qcK wh hi.toNat hws) (Ai hla (Ai (Lt r0 []) (Ai (Ai (Er (SV.ls 15 u2.length)) (Ai (Er (SV.ls 16 b2.length)) (Ai (Er (SV.ls 17 f2.length)) (Ai (Er (SV.ls 21 (ev.length+1))) (Ai (Er (SV.ls 13 wh.length)) (Ai (Er (SV.ls 15 u2.length)) (Ai (Er (SV.ls 16 b2.length)) (Ai (Er (SV.ls 17 f2.length)) (Ai (Er (SV.ls 21 (ev.length+1))) (Ai (Er (SV.ls 13 wh.length)) (Ai (Er (SV.pv (.slice none 0 0))) (Ai (Er (SV.pv (.slice none 0 0))) (Ai (Er (SV.pv (.slice none 0 0))) (Ai (Er (SV.pv (.slice none 0 0))) (Ai (Er (SV.pv (.slice none 0 0))) (Ai (Er (SV.pv (iV 0))) (Ai (Er (SV.pv (iV 0))) (Ai (Er (SV.pv (iV hi))) (Ai (Er (SV.pv (iV hw))) (Ai (Er (zrI u2)) (Ai (Er (zrB b2)) (Ai (Er (zrI f2)) (Ai (qrD ev ⟨tn,td,z,hi,hw⟩) (Ai (Er (SV.row 3 1 wh.length (ziV (wh.set hi.toNat (la:Int))))) tI)))))))))))))))))))))))) (Ai r0 tI)))))))))))
end Go.Proofs.YtkckcgpmnipnaaaGreat
