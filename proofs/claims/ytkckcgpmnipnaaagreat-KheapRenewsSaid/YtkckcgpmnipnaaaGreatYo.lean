/-
  What an agenda is after pushing, removing and rekeying: valid, with the same events. Conditions: none.
-/
import Derived.Test.YtkckcgpmnipnaaaGreatW28
import Derived.Test.YtkckcgpmnipnaaaGreatW16
namespace Go.Proofs.YtkckcgpmnipnaaaGreat
set_option maxRecDepth 100000
open Go.RowKit
def Con (ev:List Ev) (wh:List Int):Prop:=∀ j x,ev[j]?=some x→0≤x.i∧wh[x.i.toNat]?=some ((j:Nat):Int)
theorem Con.inj {ev:List Ev} {wh:List Int} (h:Con ev wh) {j k:Nat} {x y:Ev} (hx:ev[j]?=some x) (hy:ev[k]?=some y) (e:x.i=y.i):j=k:=by
 have a:=(h j x hx).2;have c:=(h k y hy).2;rw[e,c] at a;have:=Option.some.inj a;omega
theorem qie {ev:List Ev} {i j:Nat} {x y:Ev} (hi:i<ev.length) (hj:j<ev.length) (q:Nat):(swE ev i j x y)[q]?=if q=j then some x else if q=i then some y else ev[q]?:=by
 unfold swE;rw[List.getElem?_set,List.length_set,List.getElem?_set];by_cases h1:j=q
 ·rw[if_pos h1,if_pos hj,if_pos h1.symm]
 ·rw[if_neg h1,if_neg (show ¬ q=j from fun e=>h1 e.symm)];by_cases h2:i=q
  ·rw[if_pos h2,if_pos hi,if_pos h2.symm]
  ·rw[if_neg h2,if_neg (show ¬ q=i from fun e=>h2 e.symm)]
structure Sf (ev:List Ev) (wh:List Int) (ev':List Ev) (wh':List Int):Prop where
 con:Con ev' wh'
 perm:ev'.Perm ev
 rest:∀ k:Nat,(∀ x∈ev,x.i.toNat≠k)→wh'[k]?=wh[k]?
theorem Sf.refl {ev:List Ev} {wh:List Int} (h:Con ev wh):Sf ev wh ev wh:=⟨h,List.Perm.refl _,fun _ _=>rfl⟩
theorem Sf.trans {ev ev1 ev2:List Ev} {wh wh1 wh2:List Int} (h:Sf ev wh ev1 wh1) (k:Sf ev1 wh1 ev2 wh2):Sf ev wh ev2 wh2:=
 ⟨k.con,k.perm.trans h.perm,fun q hq=>(k.rest q fun x hx=>hq x (h.perm.mem_iff.1 hx)).trans (h.rest q hq)⟩
theorem Con.swap {ev:List Ev} {wh:List Int} {i j:Nat} {x y:Ev} (h:Con ev wh) (hx:ev[i]?=some x) (hy:ev[j]?=some y) (hij:i≠j):Sf ev wh (swE ev i j x y) (swW wh i j x y):=by
 obtain⟨li,ei⟩:=List.getElem?_eq_some_iff.1 hx;obtain⟨lj,ej⟩:=List.getElem?_eq_some_iff.1 hy
 have hxy:x.i≠y.i:=fun e=>hij (h.inj hx hy e)
 obtain⟨x0,xw⟩:=h i x hx;obtain⟨y0,yw⟩:=h j y hy;have xl:=(List.getElem?_eq_some_iff.1 xw).1;have yl:=(List.getElem?_eq_some_iff.1 yw).1;refine⟨fun q z hz=>?_,?_,fun q hq=>?_⟩
 ·rw[qie li lj] at hz;unfold swW;rw[List.getElem?_set,List.length_set,List.getElem?_set];split at hz
  ·rename_i e;cases hz;rw[if_pos rfl,if_pos xl,e];exact⟨x0,rfl⟩
  ·split at hz
   ·rename_i e;cases hz;rw[if_neg (by omega),if_pos rfl,if_pos yl,e];exact⟨y0,rfl⟩
   ·rename_i n1 n2;obtain⟨z0,zw⟩:=h q z hz
    have e1:z.i≠x.i:=fun e=>n2 (h.inj hz hx e)
    have e2:z.i≠y.i:=fun e=>n1 (h.inj hz hy e)
    rw[if_neg (by omega),if_neg (by omega)];exact⟨z0,zw⟩
 ·have:=@List.set_set_perm _ ev i j li lj;rw[ei,ej] at this;exact this
 ·unfold swW;rw[List.getElem?_set,List.length_set,List.getElem?_set,if_neg (hq x (List.mem_of_getElem? hx)),if_neg (hq y (List.mem_of_getElem? hy))]
def NL (ev:List Ev) (a c:Nat):Prop:=∀ x y,ev[a]?=some x→ev[c]?=some y→ltE x y=false
def qqc (ev:List Ev):Prop:=∀ k,1≤k→NL ev k ((k-1)/2)
structure HAt (ev:List Ev) (i:Nat):Prop where
 a:∀ k,1≤k→k≠i→(k-1)/2≠i→NL ev k ((k-1)/2)
 g:∀ c,1≤c→(c-1)/2=i→1≤i→NL ev c ((i-1)/2)
structure HEx (ev:List Ev) (i:Nat):Prop where
 a:∀ k,1≤k→k≠i→NL ev k ((k-1)/2)
 g:∀ c,1≤c→(c-1)/2=i→1≤i→NL ev c ((i-1)/2)
structure HDn (ev:List Ev) (i:Nat):Prop where
 a:∀ k,1≤k→(k-1)/2≠i→NL ev k ((k-1)/2)
 g:∀ c,1≤c→(c-1)/2=i→1≤i→NL ev c ((i-1)/2)
theorem HEx.at {ev:List Ev} {i:Nat} (h:HEx ev i):HAt ev i:=⟨fun k a c _=>h.a k a c,h.g⟩
theorem qgy {ev:List Ev} {k:Nat}:qbU ev k=true↔NL ev k ((k-1)/2):=by
 unfold qbU NL;constructor
 ·intro h x y hx hy;rw[hx,hy] at h;simpa using h
 ·intro h;split
  ·rename_i x y hx hy;simp[h x y hx hy]
  ·rfl
theorem qk7 {ev:List Ev}:(∀ k,1≤k→k<ev.length→qbU ev k=true)↔qqc ev:=by
 constructor
 ·intro h k hk x y hx hy;exact qgy.1 (h k hk (List.getElem?_eq_some_iff.1 hx).1) x y hx hy
 ·intro h k hk _;exact qgy.2 (h k hk)
theorem quY {ev:List Ev} {i:Nat} {x y:Ev} (ok:∀ x∈ev,EvOk x) (h:HAt ev i) (h0:0<i) (hx:ev[i]?=some x) (hy:ev[(i-1)/2]?=some y) (hl:ltE x y=true):HEx (swE ev i ((i-1)/2) x y) ((i-1)/2):=by
 have li:=(List.getElem?_eq_some_iff.1 hx).1;have lj:=(List.getElem?_eq_some_iff.1 hy).1;have ox:=ok x (List.mem_of_getElem? hx);have oy:=ok y (List.mem_of_getElem? hy);have hyx:=qcg hl;refine⟨fun k hk hne z w hz hw=>?_,fun c hc hp hp1 z w hz hw=>?_⟩
 ·rw[qie li lj] at hz hw;rw[if_neg hne] at hz;by_cases h1:k=i
  ·subst h1;rw[if_pos rfl] at hz;cases hz;rw[if_pos rfl] at hw;cases hw;exact hyx
  ·rw[if_neg h1] at hz;have oz:=ok z (List.mem_of_getElem? hz);by_cases h2:(k-1)/2=(i-1)/2
   ·rw[if_pos h2] at hw;cases hw;exact qbS oz oy ox (h.a k hk h1 (by omega) z y hz (by rw[h2];exact hy)) hyx
   ·rw[if_neg h2] at hw;by_cases h3:(k-1)/2=i
    ·rw[if_pos h3] at hw;cases hw;exact h.g k hk h3 h0 z y hz hy
    ·rw[if_neg h3] at hw;exact h.a k hk h1 h3 z w hz hw
 ·rw[qie li lj] at hz hw;rw[if_neg (by omega),if_neg (by omega)] at hw;have ow:=ok w (List.mem_of_getElem? hw);have hyw:ltE y w=false:=h.a ((i-1)/2) hp1 (by omega) (by omega) y w hy hw;rw[if_neg (by omega)] at hz;by_cases h1:c=i
  ·rw[if_pos h1] at hz;cases hz;exact hyw
  ·rw[if_neg h1] at hz;have oz:=ok z (List.mem_of_getElem? hz);exact qbS oz oy ow (h.a c hc h1 (by omega) z y hz (by rw[hp];exact hy)) hyw
theorem qcw {ev:List Ev} {i:Nat} (ok:∀ x∈ev,EvOk x) {c:Nat} (hc:c=i∨c=2*i+1∨c=2*i+2):NL ev c (qaw ev i):=by
 intro z w hz hw;have oz:=ok z (List.mem_of_getElem? hz);have ow:=ok w (List.mem_of_getElem? hw)
 have hA:∀ c,(c=i∨c=2*i+1)→NL ev c (qbk ev i):=by
  intro c hc z w hz hw;unfold qbk at hw;split at hw
  ·rename_i p m hp hm;cases hl:ltE p m
   ·rw[hl,if_neg (by decide),hm] at hw;cases hw
    rcases hc with rfl | rfl
    ·rw[hm] at hz;cases hz;exact qfJ _
    ·rw[hp] at hz;cases hz;exact hl
   ·rw[hl,if_pos rfl,hp] at hw;cases hw
    rcases hc with rfl | rfl
    ·rw[hm] at hz;cases hz;exact qcg hl
    ·rw[hp] at hz;cases hz;exact qfJ _
  ·rename_i hn
   rcases hc with rfl | rfl
   ·rw[hw] at hz;cases hz;exact qfJ _
   ·exact (hn z w hz hw).elim
 unfold qaw at hw;split at hw
 ·rename_i y m hy hm;have om:=ok m (List.mem_of_getElem? hm);have oy:=ok y (List.mem_of_getElem? hy);cases hl:ltE y m
  ·rw[hl,if_neg (by decide),hm] at hw;cases hw
   rcases hc with h | h | h
   ·exact hA c (Or.inl h) z _ hz hm
   ·exact hA c (Or.inr h) z _ hz hm
   ·subst h;rw[hy] at hz;cases hz;exact hl
  ·rw[hl,if_pos rfl,hy] at hw;cases hw
   rcases hc with h | h | h
   ·exact qbS oz om oy (hA c (Or.inl h) z m hz hm) (qcg hl)
   ·exact qbS oz om oy (hA c (Or.inr h) z m hz hm) (qcg hl)
   ·subst h;rw[hy] at hz;cases hz;exact qfJ _
 ·rename_i hn
  rcases hc with h | h | h
  ·exact hA c (Or.inl h) z w hz hw
  ·exact hA c (Or.inr h) z w hz hw
  ·subst h;exact (hn z w hz hw).elim
theorem qwD {ev:List Ev} {i:Nat} {x y:Ev} (ok:∀ x∈ev,EvOk x) (h:HDn ev i) (hne:qaw ev i≠i) (hx:ev[i]?=some x) (hy:ev[qaw ev i]?=some y):HDn (swE ev i (qaw ev i) x y) (qaw ev i):=by
 obtain⟨g1,g2,g3⟩:=(qhP ev i).resolve_left hne
 have hsp:=fun c hc=>qcw (i:=i) ok (c:=c) hc
 generalize qaw ev i=l at *;have li:=(List.getElem?_eq_some_iff.1 hx).1;refine⟨fun k hk hp z w hz hw=>?_,fun c hc hp hl1 z w hz hw=>?_⟩
 ·rw[qie li g2] at hz hw;rw[if_neg hp] at hw;by_cases h1:k=l
  ·rw[if_pos h1] at hz;cases hz;rw[if_pos (by omega)] at hw;cases hw;exact hsp i (Or.inl rfl) x y hx hy
  ·rw[if_neg h1] at hz;by_cases h2:k=i
   ·rw[if_pos h2] at hz;cases hz;rw[if_neg (by omega)] at hw;exact h.g l (by omega) (by omega) (by omega) y w hy (by rw[← h2];exact hw)
   ·rw[if_neg h2] at hz;by_cases h3:(k-1)/2=i
    ·rw[if_pos h3] at hw;cases hw;exact hsp k (by omega) z y hz hy
    ·rw[if_neg h3] at hw;exact h.a k hk h3 z w hz hw
 ·rw[qie li g2] at hz hw;rw[if_neg (by omega),if_pos (by omega)] at hw;cases hw;rw[if_neg (by omega),if_neg (by omega)] at hz;exact h.a c hc (by omega) z y hz (by rw[hp];exact hy)
theorem qBW {n mm d i:Nat} {ev:List Ev} {wh:List Int} (a:i≤d) (c:i<n) (I:AInv n mm ev wh):(Con ev wh→Sf ev wh (upM d ev wh i).1 (upM d ev wh i).2.1)∧(HAt ev i→HDn (upM d ev wh i).1 (upM d ev wh i).2.2∧(HEx ev i→qqc (upM d ev wh i).1)):=by
 refine (qdO (Q:=fun i ev wh i' ev' wh'=>(Con ev wh→Sf ev wh ev' wh')∧(HAt ev i→HDn ev' i'∧(HEx ev i→qqc ev'))) ?_ ?_ ?_ d i ev wh a c I).1
 ·intro i ev wh x y i' ev' wh' I h0 hi hx hy hl ⟨r1,r2⟩;refine⟨fun hc=>?_,fun hh=>?_⟩
  ·have s:=hc.swap hx hy (by omega);exact s.trans (r1 s.con)
  ·have e:=quY I.ok hh h0 hx hy hl;obtain⟨q1,q2⟩:=r2 e.at;exact⟨q1,fun _=>q2 e⟩
 ·intro i ev wh x y I h0 hi hx hy hl;refine⟨fun hc=>Sf.refl hc,fun hh=>⟨⟨fun k hk hp=>?_,hh.g⟩,fun he k hk=>?_⟩⟩
  ·by_cases h1:k=i
   ·subst h1;intro z w hz hw;rw[hx] at hz;cases hz;rw[hy] at hw;cases hw;exact hl
   ·exact hh.a k hk h1 hp
  ·by_cases h1:k=i
   ·subst h1;intro z w hz hw;rw[hx] at hz;cases hz;rw[hy] at hw;cases hw;exact hl
   ·exact he.a k hk h1
 ·intro ev wh I;exact⟨fun hc=>Sf.refl hc,fun hh=>⟨⟨fun k hk hp=>hh.a k hk (by omega) hp,hh.g⟩,fun he k hk=>he.a k hk (by omega)⟩⟩
theorem qE8 {n mm d i:Nat} {ev:List Ev} {wh:List Int} (a:n≤i+d) (c:i<n) (I:AInv n mm ev wh):(Con ev wh→Sf ev wh (dnM d ev wh i).1 (dnM d ev wh i).2)∧(HDn ev i→qqc (dnM d ev wh i).1):=by
 refine (qf1 (Q:=fun i ev wh ev' wh'=>(Con ev wh→Sf ev wh ev' wh')∧(HDn ev i→qqc ev')) ?_ ?_ d i ev wh a c I).1
 ·intro i ev wh x y ev' wh' I hi hl hx hy hlt ⟨r1,r2⟩;refine⟨fun hc=>?_,fun hh=>r2 (qwD I.ok hh hl hx hy)⟩;have s:=hc.swap hx hy (fun e=>hl e.symm);exact s.trans (r1 s.con)
 ·intro i ev wh I hi hl;refine⟨fun hc=>Sf.refl hc,fun hh k hk=>?_⟩;by_cases h1:(k-1)/2=i
  ·have:=qcw (i:=i) I.ok (c:=k) (by omega);rw[hl] at this;rw[h1];exact this
  ·exact hh.a k hk h1
theorem qiQ {n mm i:Nat} {ev:List Ev} {wh:List Int} (c:i<n) (I:AInv n mm ev wh) (hc:Con ev wh) (hh:HAt ev i):Sf ev wh (qbM n ev wh i).1 (qbM n ev wh i).2∧qqc (qbM n ev wh i).1:=by
 obtain⟨u1,u2⟩:=qBW (Nat.le_refl i) c I;obtain⟨J,hp⟩:=qcF (d:=i) (Nat.le_refl _) c I;obtain⟨d1,d2⟩:=qE8 (d:=n) (by omega) hp J;exact⟨(u1 hc).trans (d1 (u1 hc).con),d2 (u2 hh).1⟩
section
variable {u fr wh:List Int} {b:List Bool} {ev:List Ev}
theorem VA.of (vd:Vd u b fr) (wl:wh.length=b.length) (con:Con ev wh) (own:∀ x∈ev,u[x.i.toNat]?=some x.w) (used:∀ k:Nat,b[k]?=some true→∃ x∈ev,x.i=(k:Int)) (free:∀ k:Nat,b[k]?=some false→wh[k]?=some (-1)) (cnt:b.count true=ev.length)
 (ok:∀ x∈ev,EvOk x) (nod:(ev.map (·.k)).Nodup) (full:qqc ev):VA u b fr ev wh:=by
 refine⟨vd,⟨wl,fun k hk=>?_,cnt⟩,⟨ok,nod⟩,qk7.2 full⟩;have hb:b[k]?=some b[k]:=List.getElem?_eq_getElem hk;unfold whB
 cases e:b[k]<;>rw[e] at hb
 ·rw[hb];simp[free k hb]
 ·rw[hb];obtain⟨x,hx,hi⟩:=used k hb;obtain⟨j,hj⟩:=List.mem_iff_getElem?.1 hx;obtain⟨_,hw⟩:=con j x hj
  have ek:x.i.toNat=k:=by omega
  have hu:=own x hx;rw[ek] at hw hu;simp[qbd,hw,hu,hj,hi]
theorem VA.con (h:VA u b fr ev wh):Con ev wh:=fun j x hx=>⟨(h.own hx).1.lo,(h.own hx).2⟩
theorem VA.full (h:VA u b fr ev wh):qqc ev:=qk7.1 h.hp
theorem VA.push {tn td z:Int} {u2 f2:List Int} {b2:List Bool} {hi hw:Int} (ht:I64 tn∧I64 td) (h0:okB tn td=true) (h:VA u b fr ev wh) (hz:cnE ev z=0) (hk:qbx u b fr=some (u2,b2,f2,hi,hw)) :
 VA u2 b2 f2 (qa2 ev wh ⟨tn,td,z,hi,hw⟩).1 (qa2 ev wh ⟨tn,td,z,hi,hw⟩).2∧(qa2 ev wh ⟨tn,td,z,hi,hw⟩).1.Perm (ev++[⟨tn,td,z,hi,hw⟩])∧Live u2 b2 hi hw∧(∀ q v,Live u b q v→Live u2 b2 q v):=by
 have hlen:=h.lens;have hin:=qjM h.vd hk;have hvd:=h.vd.take hk;obtain⟨y,h1,h2,h3,e1,e2,e3,e4⟩:=qbp hk;obtain⟨el,_,_⟩:=qbq h1
 have hfree:b[hi.toNat]?=some false:=by
  have hm:hi∈fr:=by rw[el];simp
  have hk':hi.toNat<b.length:=by omega
  have:=(h.vd.part hi.toNat _ (List.getElem?_eq_getElem hk')).2 (by rw[Int.toNat_of_nonneg hin.1];exact hm);rw[List.getElem?_eq_getElem hk',this]
 have hzr:0≤z∧z≤1000000:=by
  apply Classical.byContradiction;intro hne;unfold cnE at hz;rw[if_neg hne] at hz;cases hz
 have hnew:∀ m∈ev,m.k≠z:=fun m hm e=>by
  unfold cnE at hz;rw[if_pos hzr,if_pos ⟨m,hm,e⟩] at hz;cases hz
 have hne:∀ x∈ev,x.i.toNat≠hi.toNat:=fun x hx e=>by
  obtain⟨j,hj⟩:=List.mem_iff_getElem?.1 hx;have:=(h.own hj).1.used;rw[e,hfree] at this;cases this
 generalize hX:(⟨tn,td,z,hi,hw⟩:Ev)=X at *
 have Xi:X.i=hi:=by rw[← hX]
 have Xw:X.w=hw:=by rw[← hX]
 have Xk:X.k=z:=by rw[← hX]
 have oX:EvOk X:=by rw[← hX];exact⟨ht,h0,hzr.1,hzr.2⟩
 have I:=qg7 h.inv oX (by rw[Xi];omega)
 have hc:Con (ev++[X]) (wh.set X.i.toNat (ev.length:Int)):=by
  intro j x hx;rw[List.getElem?_append] at hx;rw[List.getElem?_set];split at hx
  ·obtain⟨a1,a2⟩:=h.con j x hx;rw[if_neg (by rw[Xi];exact fun e=>hne x (List.mem_of_getElem? hx) e.symm)];exact⟨a1,a2⟩
  ·rename_i hj
   have:j-ev.length=0:=by
    have:=(List.getElem?_eq_some_iff.1 hx).1;simpa using this
   rw[this] at hx;cases hx;rw[if_pos rfl,if_pos (by rw[Xi];omega)];exact⟨by rw[Xi];exact hin.1,by congr 1;omega⟩
 obtain⟨s1,s2⟩:=qBW (d:=ev.length) (Nat.le_refl ev.length) (by omega) I;have s:Sf (ev++[X]) (wh.set X.i.toNat (ev.length:Int)) (qa2 ev wh X).1 (qa2 ev wh X).2:=s1 hc
 have hex:HEx (ev++[X]) ev.length:=by
  refine⟨fun k hk hkn x y hx hy=>?_,fun c hc hp h1 x y hx hy=>?_⟩
  ·have hl:=(List.getElem?_eq_some_iff.1 hx).1;simp at hl;rw[List.getElem?_append_left (by omega)] at hx hy;exact h.full k hk x y hx hy
  ·have hl:=(List.getElem?_eq_some_iff.1 hx).1;simp at hl;omega
 have hfull:qqc (qa2 ev wh X).1:=(s2 hex.at).2 hex;obtain⟨J,_⟩:=qcF (d:=ev.length) (i:=ev.length) (by omega) (by omega) I;have j1:(qa2 ev wh X).1.length=ev.length+1:=J.len;have j2:(qa2 ev wh X).2.length=wh.length:=J.wl
 have hb2:∀ k:Nat,b2[k]?=if hi.toNat=k then some true else b[k]?:=fun k=>by
  rw[e2,List.getElem?_set];by_cases e:hi.toNat=k
  ·rw[if_pos e,if_pos e,if_pos (by omega)]
  ·rw[if_neg e,if_neg e]
 have hu2:∀ k:Nat,u2[k]?=if hi.toNat=k then some hw else u[k]?:=fun k=>by
  rw[e1,List.getElem?_set];by_cases e:hi.toNat=k
  ·rw[if_pos e,if_pos e,if_pos (by omega)]
  ·rw[if_neg e,if_neg e]
 have hmem:∀ x,x∈(qa2 ev wh X).1↔x∈ev∨x=X:=fun x=>by rw[s.perm.mem_iff];simp
 have hlX:Live u2 b2 hi hw:=⟨hin.1,by rw[e1,List.length_set];exact hin.2,by rw[hb2,if_pos rfl],by rw[hu2,if_pos rfl]⟩;refine⟨VA.of hvd (by rw[j2,e2,List.length_set];omega) s.con (fun x hx=>?_) (fun k hk=>?_) (fun k hk=>?_) ?_ J.ok ?_ hfull,s.perm,hlX,fun q v hq=>?_⟩
 ·rcases (hmem x).1 hx with hx | hx
  ·obtain⟨j,hj⟩:=List.mem_iff_getElem?.1 hx;rw[hu2,if_neg (fun e=>hne x hx e.symm)];exact (h.own hj).1.use
  ·subst hx;rw[hu2,Xi,if_pos rfl,Xw]
 ·rw[hb2] at hk;by_cases e:hi.toNat=k
  ·exact⟨X,(hmem X).2 (Or.inr rfl),by rw[Xi];omega⟩
  ·rw[if_neg e] at hk;obtain⟨j,x,_,a2,a3,_⟩:=h.used hk;exact⟨x,(hmem x).2 (Or.inl (List.mem_of_getElem? a2)),a3⟩
 ·rw[hb2] at hk;by_cases e:hi.toNat=k
  ·rw[if_pos e] at hk;cases hk
  ·rw[if_neg e] at hk
   have hr:=s.rest k fun x hx e'=>by
    rcases List.mem_append.1 hx with hx | hx
    ·obtain⟨j,hj⟩:=List.mem_iff_getElem?.1 hx;have:=(h.own hj).1.used;rw[e',hk] at this;cases this
    ·rw[List.mem_singleton] at hx;subst hx;rw[Xi] at e';exact e e'
   rw[hr,List.getElem?_set,Xi,if_neg e];exact h.free hk
 ·rw[j1,e2,List.count_set (by omega)]
  have hbf:b[hi.toNat]'(by omega)=false:=by
   have:=List.getElem?_eq_getElem (l:=b) (i:=hi.toNat) (by omega);rw[hfree] at this;exact (Option.some.inj this).symm
  have:=h.wf.cnt;simp[hbf];omega
 ·have hp:((qa2 ev wh X).1.map (·.k)).Perm ((ev++[X]).map (·.k)):=s.perm.map _;refine hp.nodup_iff.2 ?_;rw[List.map_append,List.nodup_append];refine⟨h.ef.nod,by simp,fun a ha c hc e=>?_⟩;obtain⟨m,hm,rfl⟩:=List.mem_map.1 ha;simp at hc;exact hnew m hm (by rw[e,hc,Xk])
 ·have:hi.toNat≠q.toNat:=fun e=>by
   have:=hq.used;rw[← e,hfree] at this;cases this
  exact⟨hq.lo,by rw[e1,List.length_set];exact hq.lt,by rw[hb2,if_neg this];exact hq.used,by rw[hu2,if_neg this];exact hq.use⟩
theorem VA.rekey {tn td:Int} {k:Nat} {x:Ev} (ht:I64 tn∧I64 td) (h0:okB tn td=true) (h:VA u b fr ev wh) (hx:ev[k]?=some x) :
 VA u b fr (qaW ev wh k x tn td).1 (qaW ev wh k x tn td).2∧(qaW ev wh k x tn td).1.Perm (ev.set k ⟨tn,td,x.k,x.i,x.w⟩):=by
 have hk:=(List.getElem?_eq_some_iff.1 hx).1;have I:=qft h.inv hx ht h0;have hlen:=h.lens;generalize hX:(⟨tn,td,x.k,x.i,x.w⟩:Ev)=X at *
 have Xi:X.i=x.i:=by rw[← hX]
 have Xw:X.w=x.w:=by rw[← hX]
 have Xk:X.k=x.k:=by rw[← hX]
 have hget:∀ q:Nat,(ev.set k X)[q]?=if k=q then some X else ev[q]?:=fun q=>by
  rw[List.getElem?_set];by_cases e:k=q
  ·rw[if_pos e,if_pos e,if_pos hk]
  ·rw[if_neg e,if_neg e]
 have hc:Con (ev.set k X) wh:=by
  intro j y hy;rw[hget] at hy;split at hy
  ·rename_i e;cases hy;rw[Xi,← e];exact h.con k x hx
  ·exact h.con j y hy
 have hat:HAt (ev.set k X) k:=by
  refine⟨fun q hq h1 h2 z w hz hw=>?_,fun c hc hp h1 z w hz hw=>?_⟩
  ·rw[hget,if_neg (fun e=>h1 e.symm)] at hz;rw[hget,if_neg (fun e=>h2 e.symm)] at hw;exact h.full q hq z w hz hw
  ·rw[hget,if_neg (by omega)] at hz hw;have oz:=h.ef.ok z (List.mem_of_getElem? hz);have ow:=h.ef.ok w (List.mem_of_getElem? hw);have ox:=h.ef.ok x (List.mem_of_getElem? hx);exact qbS oz ox ow (h.full c hc z x hz (by rw[hp];exact hx)) (h.full k h1 x w hx hw)
 have J:=qbX hk I;obtain⟨s,hf⟩:=qiQ hk I hc hat
 have e0:qaW ev wh k x tn td=qbM ev.length (ev.set k X) wh k:=by unfold qaW;rw[hX]
 rw[e0];generalize qbM ev.length (ev.set k X) wh k=r at *
 have mi:∀ y∈ev.set k X,∃ y'∈ev,y'.i=y.i∧y'.w=y.w∧y'.k=y.k:=fun y hy=>by
  rcases List.mem_or_eq_of_mem_set hy with hy | hy
  ·exact⟨y,hy,rfl,rfl,rfl⟩
  ·subst hy;exact⟨x,List.mem_of_getElem? hx,Xi.symm,Xw.symm,Xk.symm⟩
 refine⟨VA.of h.vd (by rw[J.wl];exact h.wf.len) s.con (fun y hy=>?_) (fun q hq=>?_) (fun q hq=>?_) (by rw[J.len];exact h.wf.cnt) J.ok ?_ hf,s.perm⟩
 ·obtain⟨y',hy',e1,e2,_⟩:=mi y (s.perm.mem_iff.1 hy);obtain⟨j,hj⟩:=List.mem_iff_getElem?.1 hy';rw[← e1,← e2];exact (h.own hj).1.use
 ·obtain⟨j,y,_,a2,a3,_⟩:=h.used hq;by_cases e:k=j
  ·subst e;rw[hx] at a2;cases a2;exact⟨X,s.perm.mem_iff.2 (List.mem_of_getElem? (i:=k) (by rw[hget,if_pos rfl])),by rw[Xi];exact a3⟩
  ·exact⟨y,s.perm.mem_iff.2 (List.mem_of_getElem? (i:=j) (by rw[hget,if_neg e];exact a2)),a3⟩
 ·rw[s.rest q fun y hy e'=>by
   obtain⟨y',hy',e1,_⟩:=mi y hy;obtain⟨j,hj⟩:=List.mem_iff_getElem?.1 hy';have:=(h.own hj).1.used;rw[e1,e',hq] at this
   cases this]
  exact h.free hq
 ·refine (s.perm.map (·.k)).nodup_iff.2 ?_
  have e:(ev.set k X).map (·.k)=ev.map (·.k):=by
   rw[List.map_set,Xk];apply List.ext_getElem?;intro q;rw[List.getElem?_set];split
   ·rename_i e;subst e;rw[List.length_map,if_pos hk,List.getElem?_map,hx];rfl
   ·rfl
  rw[e];exact h.ef.nod
theorem VA.without {k:Nat} {x:Ev} (h:VA u b fr ev wh) (hx:ev[k]?=some x) :
 VA u (b.set x.i.toNat false) (fr++[x.i]) (qam ev wh k x).1 (qam ev wh k x).2∧((qam ev wh k x).1++[x]).Perm ev∧(∀ q v,Live u (b.set x.i.toNat false) q v↔Live u b q v∧q≠x.i):=by
 have hk:=(List.getElem?_eq_some_iff.1 hx).1;have hlen:=h.lens;obtain⟨hlv,hwx⟩:=h.own hx;have hvd:=h.vd.give hlv;have hxl0:=hlv.lt;have hx0:=hlv.lo;have hlast:∃ xl,ev[ev.length-1]?=some xl:=⟨_,List.getElem?_eq_getElem (by omega)⟩;obtain⟨xl,hxl⟩:=hlast
 have esplit:ev=ev.take (ev.length-1)++[xl]:=by
  have h1:=List.take_append_drop (ev.length-1) ev
  have h2:ev.drop (ev.length-1)=[xl]:=by
   rw[List.drop_eq_getElem_cons (by omega)]
   have:ev[ev.length-1]=xl:=by
    have:=List.getElem?_eq_getElem (l:=ev) (i:=ev.length-1) (by omega);rw[hxl] at this;exact (Option.some.inj this).symm
   rw[this,show ev.length-1+1=ev.length by omega,List.drop_length]
  rw[h2] at h1;exact h1.symm
 have key:∃ ev0 wh0,Con ev0 wh0∧(ev0++[x]).Perm ev∧(∀ q:Nat,(∀ y∈ev,y.i.toNat≠q)→wh0[q]?=wh[q]?)∧wh0[x.i.toNat]?=some (-1)∧Sf ev0 wh0 (qam ev wh k x).1 (qam ev wh k x).2∧qqc (qam ev wh k x).1∧(qam ev wh k x).2.length=wh.length∧(qam ev wh k x).1.length=ev.length-1:=by
  by_cases hm:k<ev.length-1
  ·have I:=qdw (x:=x) h.inv hm hxl
   have hne:xl.i≠x.i:=fun e=>by have:=h.con.inj hxl hx e;omega
   obtain⟨xl0,xlw⟩:=h.con _ xl hxl
   have e0:qam ev wh k x=qbM (ev.length-1) ((ev.take (ev.length-1)).set k xl) ((wh.set x.i.toNat (-1)).set xl.i.toNat (k:Int)) k:=by unfold qam;rw[if_pos hm,hxl]
   have hget:∀ q:Nat,((ev.take (ev.length-1)).set k xl)[q]?=if k=q then some xl else if q<ev.length-1 then ev[q]? else none:=fun q=>by
    rw[List.getElem?_set,List.length_take,List.getElem?_take];by_cases e:k=q
    ·rw[if_pos e,if_pos e,if_pos (by omega)]
    ·rw[if_neg e,if_neg e]
   have hwg:∀ q:Nat,((wh.set x.i.toNat (-1)).set xl.i.toNat (k:Int))[q]?=if xl.i.toNat=q then some (k:Int) else if x.i.toNat=q then some (-1) else wh[q]?:=fun q=>by
    rw[List.getElem?_set,List.length_set,List.getElem?_set];have l1:=(List.getElem?_eq_some_iff.1 xlw).1;by_cases e:xl.i.toNat=q
    ·rw[if_pos e,if_pos e,if_pos l1]
    ·rw[if_neg e,if_neg e];by_cases e':x.i.toNat=q
     ·rw[if_pos e',if_pos e',if_pos (by omega)]
     ·rw[if_neg e',if_neg e']
   have hc:Con ((ev.take (ev.length-1)).set k xl) ((wh.set x.i.toNat (-1)).set xl.i.toNat (k:Int)):=by
    intro j y hy;rw[hget] at hy;split at hy
    ·rename_i e;cases hy;rw[hwg,if_pos rfl,e];exact⟨xl0,rfl⟩
    ·split at hy
     ·obtain⟨y0,yw⟩:=h.con j y hy
      have n1:y.i≠xl.i:=fun e=>by have:=h.con.inj hy hxl e;omega
      have n2:y.i≠x.i:=fun e=>by have:=h.con.inj hy hx e;omega
      rw[hwg,if_neg (by omega),if_neg (by omega)];exact⟨y0,yw⟩
     ·cases hy
   have hat:HAt ((ev.take (ev.length-1)).set k xl) k:=by
    have down:∀ q z,q≠k→((ev.take (ev.length-1)).set k xl)[q]?=some z→ev[q]?=some z:=fun q z hq hz=>by
     rw[hget,if_neg (fun e=>hq e.symm)] at hz;split at hz
     ·exact hz
     ·cases hz
    refine⟨fun q hq h1 h2 z w hz hw=>h.full q hq z w (down _ _ h1 hz) (down _ _ h2 hw),fun c hc hp h1 z w hz hw=>?_⟩;have hz':=down _ _ (by omega) hz;have hw':=down _ _ (by omega) hw;exact qbS (h.ef.ok z (List.mem_of_getElem? hz')) (h.ef.ok x (List.mem_of_getElem? hx)) (h.ef.ok w (List.mem_of_getElem? hw')) (h.full c hc z x hz' (by rw[hp];exact hx)) (h.full k h1 x w hx hw')
   obtain⟨s,hf⟩:=qiQ hm I hc hat;have J:=qbX hm I;refine⟨_,_,hc,?_,fun q hq=>?_,?_,by rw[e0];exact s,by rw[e0];exact hf,by rw[e0];exact J.wl,by rw[e0];exact J.len⟩
   ·have hp:=@List.set_set_perm _ ev k (ev.length-1) hk (by omega);have a1:ev[k]=x:=(List.getElem?_eq_some_iff.1 hx).2;have a2:ev[ev.length-1]=xl:=(List.getElem?_eq_some_iff.1 hxl).2;rw[a1,a2] at hp
    have e:(ev.set k xl).set (ev.length-1) x=(ev.take (ev.length-1)).set k xl++[x]:=by
     conv=>lhs;rw[esplit]
     have l1:(ev.take (ev.length-1)++[xl]).length-1=(ev.take (ev.length-1)).length:=by simp
     rw[List.set_append_left _ _ (by rw[List.length_take];omega),l1,List.set_append_right _ _ (by rw[List.length_set];omega),List.length_set,Nat.sub_self];rfl
    rw[e] at hp;exact hp
   ·rw[hwg,if_neg (hq xl (List.mem_of_getElem? hxl)),if_neg (hq x (List.mem_of_getElem? hx))]
   ·rw[hwg,if_neg (by omega),if_pos rfl]
  ·have ek:k=ev.length-1:=by omega
   have e0:qam ev wh k x=(ev.take (ev.length-1),wh.set x.i.toNat (-1)):=by unfold qam;rw[if_neg hm]
   have exl:xl=x:=by rw[ek,hxl] at hx;exact Option.some.inj hx
   have hc:Con (ev.take (ev.length-1)) (wh.set x.i.toNat (-1)):=by
    intro j y hy;rw[List.getElem?_take] at hy;split at hy
    ·obtain⟨y0,yw⟩:=h.con j y hy
     have n2:y.i≠x.i:=fun e=>by have:=h.con.inj hy hx e;omega
     rw[List.getElem?_set,if_neg (by omega)];exact⟨y0,yw⟩
    ·cases hy
   refine⟨_,_,hc,?_,fun q hq=>?_,?_,by rw[e0];exact Sf.refl hc,?_,by rw[e0];simp,by rw[e0];simp⟩
   ·rw[exl] at esplit;exact List.Perm.of_eq esplit.symm
   ·rw[List.getElem?_set,if_neg (hq x (List.mem_of_getElem? hx))]
   ·rw[List.getElem?_set,if_pos rfl,if_pos (by omega)]
   ·rw[e0];intro q hq z w hz hw;rw[List.getElem?_take] at hz hw;split at hz
    ·split at hw
     ·exact h.full q hq z w hz hw
     ·cases hw
    ·cases hz
 obtain⟨ev0,wh0,c0,p0,r0,m0,s,hf,jw,jl⟩:=key;have hp:((qam ev wh k x).1++[x]).Perm ev:=(s.perm.append_right [x]).trans p0
 have hnd:((qam ev wh k x).1.map (·.k)).Nodup∧∀ y∈(qam ev wh k x).1,y.k≠x.k:=by
  have:=(hp.map (·.k)).nodup_iff.2 h.ef.nod;rw[List.map_append,List.nodup_append] at this;exact⟨this.1,fun y hy=>this.2.2 y.k (List.mem_map.2 ⟨y,hy,rfl⟩) x.k (by simp)⟩
 have hin:∀ y∈(qam ev wh k x).1,y∈ev:=fun y hy=>hp.mem_iff.1 (List.mem_append.2 (Or.inl hy))
 have hni:∀ y∈(qam ev wh k x).1,y.i≠x.i:=fun y hy e=>by
  obtain⟨j,hj⟩:=List.mem_iff_getElem?.1 (hin y hy);have e1:=h.con.inj hj hx e;subst e1;rw[hx] at hj;exact hnd.2 y hy (by rw[Option.some.inj hj])
 have hbs:∀ q:Nat,(b.set x.i.toNat false)[q]?=if x.i.toNat=q then some false else b[q]?:=fun q=>by
  rw[List.getElem?_set];by_cases e:x.i.toNat=q
  ·rw[if_pos e,if_pos e,if_pos (by omega)]
  ·rw[if_neg e,if_neg e]
 have hx':∀ y∈ev0,y.i≠x.i:=fun y hy=>hni y (s.perm.mem_iff.2 hy)
 refine⟨VA.of hvd (by rw[jw,List.length_set];exact h.wf.len) s.con (fun y hy=>?_) (fun q hq=>?_) (fun q hq=>?_) ?_ (fun y hy=>h.ef.ok y (hin y hy)) hnd.1 hf,hp,fun q v=>⟨fun hl=>?_,fun ⟨hl,hne⟩=>?_⟩⟩
 ·obtain⟨j,hj⟩:=List.mem_iff_getElem?.1 (hin y hy);exact (h.own hj).1.use
 ·rw[hbs] at hq;split at hq
  ·cases hq
  ·obtain⟨j,y,_,a2,a3,_⟩:=h.used hq;have hy:y∈(qam ev wh k x).1++[x]:=hp.mem_iff.2 (List.mem_of_getElem? a2)
   rcases List.mem_append.1 hy with hy | hy
   ·exact⟨y,hy,a3⟩
   ·rw[List.mem_singleton] at hy;subst hy;omega
 ·rw[hbs] at hq;by_cases e:x.i.toNat=q
  ·rw[s.rest q fun y hy e'=>by
    have:=hx' y hy;have:=(c0 _ y (List.mem_iff_getElem?.1 hy).choose_spec).1
    omega]
   rw[← e];exact m0
  ·rw[if_neg e] at hq
   have hno:∀ y∈ev,y.i.toNat≠q:=fun y hy e'=>by
    obtain⟨j,hj⟩:=List.mem_iff_getElem?.1 hy;have:=(h.own hj).1.used;rw[e',hq] at this;cases this
   rw[s.rest q fun y hy=>hno y (p0.mem_iff.1 (List.mem_append.2 (Or.inl hy))),r0 q hno];exact h.free hq
 ·rw[jl,List.count_set (by omega)]
  have hbt:b[x.i.toNat]'(by omega)=true:=by
   have:=List.getElem?_eq_getElem (l:=b) (i:=x.i.toNat) (by omega);rw[hlv.used] at this;exact (Option.some.inj this).symm
  have:=h.wf.cnt;simp[hbt];omega
 ·have hne:q≠x.i:=fun e=>by
   have:=hl.used;rw[e,hbs,if_pos rfl] at this;cases this
  have h1:=hl.used;rw[hbs,if_neg (by have:=hl.lo;omega)] at h1;exact⟨⟨hl.lo,hl.lt,h1,hl.use⟩,hne⟩
 ·exact⟨hl.lo,hl.lt,by rw[hbs,if_neg (by have:=hl.lo;omega)];exact hl.used,hl.use⟩
end
end Go.Proofs.YtkckcgpmnipnaaaGreat
