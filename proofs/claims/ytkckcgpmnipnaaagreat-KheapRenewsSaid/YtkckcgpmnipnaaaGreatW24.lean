/-
  Joined: Ze, Zf. Conditions: none.
-/
import Derived.Test.YtkckcgpmnipnaaaGreatW20
import Derived.Test.YtkckcgpmnipnaaaGreatW16
namespace Go.Proofs.YtkckcgpmnipnaaaGreat
set_option maxRecDepth 100000
open Go.RowKit
theorem qce {k b o:Nat} {s t:SV} (h:qaj [(k,0,s)] b o=some t):b=k∧o=0∧t=s:=by
 rw[qao] at h;split at h
 ·rename_i e;cases h;exact⟨e.1.symm,e.2.symm,rfl⟩
 ·cases h
theorem qdd {W w':World} {β:Bl} {k:Nat} {pre:List (Nat×Nat×SV)} {u:Value} {e:TypeId} {es n:Nat} {xs:List Value} (H:HRel W k β pre W) (hd:β.dom k) (hg:Gr W w') (ho:w'.ownsRow W.heap.size e es u n xs) (h1:∀ v∈xs,v.oneCell'=true) :
 HRel W k (β.setG k u) [(k,0,.row e es n xs)] w':=by
 refine⟨hg,fun b r h=>Nat.lt_of_lt_of_le (H.live b r h) hg.size,H.inj,fun b r hb h=>?_,fun b r h=>?_,fun b o sv hl hs=>?_,fun b o e es n xs hl=>?_,fun b o e es n xs c o' e' es' n' xs' u v hl hl' h1 h2 hne=>?_,fun b o xs hl=>?_⟩
 ·have h':β b=some r:=h;rw[(hd b hb).1] at h';cases h'
 ·have hb:b≠k:=fun e=>by
   subst e;have h':β b=some r:=h;rw[(hd b (Nat.le_refl _)).1] at h';cases h'
  unfold Bl.setG;simp only[if_neg hb];exact H.sep b r h
 ·obtain⟨_,_,rfl⟩:=qce hl;cases hs
 ·obtain⟨rfl,_,e1⟩:=qce hl;cases e1
  exact⟨u,Bl.setG_same β b u,qkk ho,h1,fun h=>by omega,fun _=>ho,fun _ c r hc hu=>by
   have h1:=(qay ho r hu).1;have h2:=H.live c r hc
   omega⟩
 ·exact (hne ((qce hl).1.trans (qce hl').1.symm)).elim
 ·obtain⟨_,_,e1⟩:=qce hl;cases e1
theorem qcy {β:Bl} {k:Nat} {u:Value} (hd:β.dom k):(β.setG k u).dom (k+1):=fun b hb=>⟨(hd b (by omega)).1,by unfold Bl.setG;simp only[if_neg (show b≠k by omega)];exact (hd b (by omega)).2⟩
theorem qey (w:World):HRel w 0 Bl.no [] w:=⟨Gr.refl w,fun _ _ h=>(by cases h),fun _ _ _ h=>(by cases h),fun _ _ _ h=>(by cases h),fun _ _ h=>(by cases h),fun _ _ _ h=>(by cases h),fun _ _ _ _ _ _ h=>(by cases h),fun _ _ _ _ _ _ _ _ _ _ _ _ _ _ h=>(by cases h),fun _ _ _ h=>(by cases h)⟩
theorem qlo {f:FuncId} {e:TypeId} {n:Nat} {xs:List Value} (hx:xs.length=n)
 (pth:0<n→Fn f 1 [.ls 0 n] [(0,0,.row e 1 n xs)] (.ls 1 n) 1 [(1,0,.row e 1 n xs)])
 (pe:∀ ad c,Fn f 0 [.pv (.slice (some ad) 0 c)] [] (.ls 0 0) 1 [(0,0,.row e 1 0 [])])
 (pn:∀ c,Pure Tryz.prog f #[.slice none 0 c] (.slice none 0 0)):Fn f 1 [.ls 0 n] [(0,0,.row e 1 n xs)] (.ls 1 n) 1 [(1,0,.row e 1 n xs)]:=by
 rcases Nat.eq_zero_or_pos n with h | h
 ·subst h;obtain rfl:=List.eq_nil_of_length_eq_zero hx;intro w β us hH hd hargs
  match us,hargs with
  | [v],⟨⟨_,a,c,hv⟩,_⟩=>
   have hd1:=hd 1 (Nat.le_refl _)
   cases a with
   | none=>
    subst hv
    refine (pn c w).mono fun e' w' ⟨he,hg⟩=>?_
    have ho:w'.ownsRow w.heap.size e 1 (.slice none 0 0) 0 []:=⟨rfl,Or.inl ⟨rfl,rfl⟩⟩;exact⟨_,β.setG 1 (.slice none 0 0),he,Bl.le_setG hd1.1 hd1.2,⟨Bl.setG_same _ _ _,none,0,rfl⟩,qdd hH hd hg ho (fun v hv=>by cases hv),qcy hd⟩
   | some ad=>
    subst hv
    refine (pe ad c w Bl.no [.slice (some ad) 0 c] (qey w) (fun _ _=>⟨rfl,rfl⟩) ⟨rfl,tI⟩).mono fun e' w' ⟨v,β',he,_,⟨hx,a',c',hv⟩,hh,_⟩=>?_
    obtain⟨u,hu,hr⟩:=hh.rows 0 0 _ _ _ _ rfl;rw[hx] at hu;cases hu;exact⟨_,β.setG 1 v,he,Bl.le_setG hd1.1 hd1.2,⟨Bl.setG_same _ _ _,a',c',hv⟩,qdd hH hd hh.gr (hr.own (Nat.le_refl _)) (fun v hv=>by cases hv),qcy hd⟩
 ·exact pth h
theorem qBB {P:Program} {f:FuncId} {e e2:TypeId} {es es2 n n' k n2:Nat} {xs ys:List Value}
 (h:FnL P f 1 [.ls 0 n'] [(0,0,.row e es n' ((xs.drop (k*es)).take (n'*es)))] (.ls 1 n2) 1 [(1,0,.row e2 es2 n2 ys)]) (hk:k+n'≤n) :
 FnL P f 1 [.lq 0 es k n'] [(0,0,.row e es n xs)] (.ls 1 n2) 1 [(1,0,.row e2 es2 n2 ys)]:=by
 intro w β us H hd hi;obtain⟨u,hu,R⟩:=H.rows 0 0 e es n xs rfl
 match us,hi with
 | [v],⟨⟨a,nn,c,a',c',hg,hle,hc',hv,hp⟩,_⟩=>
 subst hv
 have hu':u=.slice a nn c:=by rw[hu] at hg;exact Option.some.inj hg
 subst hu';obtain⟨hl,a2,c2,he,hnc,hrd⟩:=R.rd;have e1:=he;simp only[Value.slice.injEq] at e1;obtain⟨rfl,rfl,rfl⟩:=e1;have hm:(k+n')*es≤nn*es:=Nat.mul_le_mul_right es hk;rw[Nat.add_mul] at hm
 have hlen:((xs.drop (k*es)).take (n'*es)).length=n'*es:=by rw[List.length_take,List.length_drop];omega
 have hrd':Rd w es (.slice a' n' c') n' ((xs.drop (k*es)).take (n'*es)):=by
  rcases Nat.eq_zero_or_pos n' with h0 | h0
  ·subst h0;refine⟨hlen,a',c',rfl,hc',fun j v hj=>?_⟩;rw[Nat.zero_mul,List.take_zero] at hj;simp at hj
  ·obtain⟨r,o,ea,ea'⟩:=hp h0;subst ea ea';refine⟨hlen,_,_,rfl,hc',fun j v hj=>⟨r,o+k*es,rfl,?_⟩⟩
   have hj':xs[k*es+j]?=some v:=by
    rw[List.getElem?_take] at hj;split at hj
    ·rw[List.getElem?_drop] at hj;exact hj
    ·cases hj
   obtain⟨r',o',er,hcell⟩:=hrd _ v hj';cases er;rw[show o+k*es+j=o+(k*es+j) by omega];exact hcell
 let β1:Bl:=⟨β.f,fun b=>if b=0 then some (.slice a' n' c') else none⟩
 have H1:HRel w 1 β1 [(0,0,.row e es n' ((xs.drop (k*es)).take (n'*es)))] w:=by
  refine⟨H.gr,H.live,H.inj,H.new,fun b r' hb'=>?_,fun b o' sv hs hr=>?_,fun b o' e' es' n2' xs' hs=>?_,fun b o' e' es' n2' xs' c o2 e2' es2' n3 xs3 u' v' hs _ hlo=>?_,fun b o' xs' hs=>?_⟩
  ·by_cases h:b=0
   ·subst h;have:=H.sep 0 r' hb';rw[hu] at this;cases this
   ·exact if_neg h
  ·obtain⟨_,_,rfl⟩:=qce hs;cases hr
  ·obtain⟨rfl,_,e1⟩:=qce hs;cases e1;exact⟨_,rfl,hrd',fun v hv=>R.one v (List.mem_of_mem_drop (List.mem_of_mem_take hv)),fun _ hx j hj=>hrd'.lt hx j hj,fun hlo=>by omega,fun hlo=>by omega⟩
  ·have:=(qce hs).1;omega
  ·obtain⟨_,_,e1⟩:=qce hs;cases e1
 have hdom:β1.dom 1:=fun b hb=>⟨(hd b hb).1,if_neg (by omega)⟩
 refine (h w β1 [.slice a' n' c'] H1 hdom ⟨⟨rfl,_,_,rfl⟩,trivial⟩).mono fun x w' hh=>?_
 obtain⟨v',β2,hx,hle2,⟨g1,g2⟩,HP,hd2⟩:=hh
 have hb0:β.f 0=none:=by
  cases hb0:β.f 0 with
  | none=>rfl
  | some r'=>have:=H.sep 0 r' hb0;rw[hu] at this;cases this
 have hb2:β2.f 0=none:=(hle2 0 (Or.inr (fun h=>by have e:β1.g 0=some _:=rfl;rw[e] at h;cases h))).1.trans hb0
 let β3:Bl:=⟨β2.f,fun b=>if b=0 then β.g 0 else β2.g b⟩
 refine⟨v',β3,hx,fun b hb=>?_,⟨g1,g2⟩,?_,fun b hb=>⟨(hd2 b hb).1,(if_neg (by omega)).trans (hd2 b hb).2⟩⟩
 ·by_cases h:b=0
  ·subst h;exact⟨hb2.trans hb0.symm,rfl⟩
  ·have:=hd b (by omega)
   rcases hb with hb | hb
   ·exact (hb this.1).elim
   ·exact (hb this.2).elim
 ·refine⟨HP.gr,HP.live,HP.inj,HP.new,fun b r' hb'=>?_,fun b o' sv hs hr=>?_,fun b o' e' es' n2' xs' hs=>?_,fun b o' e' es' n2' xs' c o2 e2' es2' n3 xs3 u' v' hs hs2 _ _ hne=>?_,fun b o' xs' hs=>?_⟩
  ·by_cases h:b=0
   ·subst h;rw[show β3.f 0=none from hb2] at hb';cases hb'
   ·exact (if_neg h).trans (HP.sep b r' hb')
  ·obtain⟨_,_,rfl⟩:=qce hs;cases hr
  ·obtain⟨rfl,rfl,_⟩:=qce hs;obtain⟨u',g1,g2⟩:=HP.rows 1 0 e' es' n2' xs' hs;exact⟨u',g1,g2.rd,g2.one,g2.low,g2.own,g2.apart⟩
  ·exact (hne ((qce hs).1.trans (qce hs2).1.symm)).elim
  ·obtain⟨_,_,e1⟩:=qce hs;cases e1
theorem qaY {l:List Int} (hn:l.length≤1000000):Fn 63 1 [.ls 0 l.length] [(0,0,zrI l)] (.ls 1 l.length) 1 [(1,0,zrI l)]:=
 qlo (qbY l) (fun h=>qs0 h (by omega)) (fun ad c=>qFC) (fun c=>qwb)
theorem qjr {l:List Int} (hn:l.length≤1000000):Fn 347 1 [.ls 0 l.length] [(0,0,zrI l)] (.ls 1 l.length) 1 [(1,0,zrI l)]:=
 qlo (qbY l) (fun h=>qqN h (by omega)) (fun ad c=>qFX) (fun c=>qyY)
theorem qfF {l:List Bool} (hn:l.length≤1000000):Fn 348 1 [.ls 0 l.length] [(0,0,zrB l)] (.ls 1 l.length) 1 [(1,0,zrB l)]:=
 qlo (qez l) (fun h=>qsc h (by omega)) (fun ad c=>qF6) (fun c=>qwB)
theorem qom {l:List Int} {m:Nat} (hm:m≤l.length) (hn:l.length≤1000000):Fn 63 1 [.lq 0 1 0 m] [(0,0,zrI l)] (.ls 1 m) 1 [(1,0,.row 3 1 m (ziV (l.take m)))]:=by
 have e0:(l.take m).length=m:=by rw[List.length_take];omega
 have h:=qaY (l:=l.take m) (by omega);simp only[zrI] at h;rw[e0] at h;refine qBB ?_ (by omega);rw[Nat.zero_mul,List.drop_zero,Nat.mul_one]
 have e1:(ziV l).take m=ziV (l.take m):=by simp[ziV,List.map_take]
 rw[e1];exact h
section
variable {u fr:List Int} {b:List Bool}
structure Live (u:List Int) (b:List Bool) (hi hu:Int):Prop where
 lo:0≤hi
 lt:hi<(u.length:Int)
 used:b[hi.toNat]?=some true
 use:u[hi.toNat]?=some hu
def qbx (u:List Int) (b:List Bool) (fr:List Int):Option (List Int×List Bool×List Int×Int×Int):=
 match fr.getLast? with
 | none=>none
 | some x=>match u[x.toNat]? with
  | none=>none
  | some y=>if y=1000000 then none else some (u.set x.toNat (y+1),b.set x.toNat true,fr.dropLast,x,y+1)
theorem qbp {u' fr':List Int} {b':List Bool} {x z:Int} (h:qbx u b fr=some (u',b',fr',x,z)):∃ y,fr.getLast?=some x∧u[x.toNat]?=some y∧y≠1000000∧u'=u.set x.toNat z∧b'=b.set x.toNat true∧fr'=fr.dropLast∧z=y+1:=by
 unfold qbx at h;split at h
 ·cases h
 ·rename_i x' hx;split at h
  ·cases h
  ·rename_i y hy;split at h
   ·cases h
   ·rename_i hne;simp only[Option.some.injEq,Prod.mk.injEq] at h;obtain⟨rfl,rfl,rfl,rfl,rfl⟩:=h;exact⟨y,hx,hy,hne,rfl,rfl,rfl,rfl⟩
theorem qbq {l:List Int} {x:Int} (h:l.getLast?=some x):l=l.dropLast++[x]∧l[l.length-1]?=some x∧1≤l.length:=by
 have hne:l≠[]:=fun e=>by subst e;cases h
 rw[List.getLast?_eq_some_getLast hne] at h;cases h;refine⟨(List.dropLast_concat_getLast hne).symm,?_,List.length_pos_iff.2 hne⟩;rw[List.getLast_eq_getElem];exact List.getElem?_eq_getElem _
theorem qcj:∀ {f:List Int} {g g':List Bool},qbz g f=some g'→f.length+g'.count true=g.count true
 | [],g,g',h=>by cases h;simp
 | x::r,g,g',h=>by
  unfold qbz at h;split at h
  ·rename_i hx;have:=qcj h
   have hk:x.toNat<g.length:=by omega
   have hg:g[x.toNat]=true:=by
    have:=hx.2.2;rw[List.getElem?_eq_getElem hk] at this;exact Option.some.inj this
   have hm:0<g.count true:=List.count_pos_iff.2 (by rw[← hg];exact List.getElem_mem hk);rw[List.count_set hk,hg] at this;simp at this ⊢;omega
  ·cases h
theorem Vd.frlen (h:Vd u b fr):fr.length≤200:=by
 have hf:qe2 b fr=true:=by
  have:=qcx.2 h;unfold qcQ at this;simp only[Bool.and_eq_true] at this;exact this.2
 unfold qe2 at hf;split at hf
 ·rename_i g hg;have:=qcj hg;have:=List.count_le_length (a:=true) (l:=b.map not);rw[List.length_map,h.len] at this;have:=h.le;omega
 ·cases hf
theorem Vd.take {u' fr':List Int} {b':List Bool} {x z:Int} (h:Vd u b fr) (ht:qbx u b fr=some (u',b',fr',x,z)):Vd u' b' fr':=by
 obtain⟨y,h1,h2,h3,rfl,rfl,rfl,rfl⟩:=qbp ht;obtain⟨e,_,_⟩:=qbq h1
 have hx:x∈fr:=by rw[e];simp
 obtain⟨r1,r2⟩:=h.rng x hx;have hnd:=h.nod;rw[e,List.nodup_append] at hnd;obtain⟨n1,_,n2⟩:=hnd
 have hxn:x∉fr.dropLast:=fun hm=>n2 x hm x (by simp) rfl
 have hk:x.toNat<u.length:=by omega
 have hbk:x.toNat<b.length:=by rw[h.len];omega
 have hy:=h.use x.toNat y _ h2 (List.getElem?_eq_getElem hbk)
 have hy0:0≤y:=by have:=hy.1;split at this<;>omega
 refine⟨by rw[List.length_set];exact h.pos,by rw[List.length_set];exact h.le,by rw[List.length_set,List.length_set];exact h.len,fun k v c hv hc=>?_,fun v hv=>?_,n1,fun k c hc=>?_⟩
 ·rw[List.getElem?_set] at hv hc;by_cases ek:x.toNat=k
  ·rw[if_pos ek,if_pos (by omega)] at hv hc;cases hv;cases hc;simp;omega
  ·rw[if_neg ek] at hv hc;exact h.use k v c hv hc
 ·rw[List.length_set];exact h.rng v (by rw[e];simp[hv])
 ·rw[List.getElem?_set] at hc;by_cases ek:x.toNat=k
  ·rw[if_pos ek,if_pos (by omega)] at hc;cases hc;simp only[Bool.true_eq_false,false_iff];rw[show (k:Int)=x by omega];exact hxn
  ·rw[if_neg ek] at hc;rw[h.part k c hc]
   conv=>lhs;rw[e]
   simp only[List.mem_append,List.mem_singleton];constructor
   ·rintro (hm | hm)
    ·exact hm
    ·omega
   ·exact Or.inl
theorem Vd.give {hi hu:Int} (h:Vd u b fr) (hl:Live u b hi hu):Vd u (b.set hi.toNat false) (fr++[hi]):=by
 have hbk:hi.toNat<b.length:=by rw[h.len];have:=hl.lo;have:=hl.lt;omega
 have hnm:hi∉fr:=fun hm=>by
  have:=(h.part hi.toNat true hl.used).2 (by rw[Int.toNat_of_nonneg hl.lo];exact hm);cases this
 refine⟨h.pos,h.le,by rw[List.length_set];exact h.len,fun k v c hv hc=>?_,fun v hv=>?_,?_,fun k c hc=>?_⟩
 ·rw[List.getElem?_set] at hc;by_cases ek:hi.toNat=k
  ·subst ek;rw[if_pos rfl,if_pos (by omega)] at hc;cases hc;have:=h.use _ v true hv hl.used;simp at this ⊢;omega
  ·rw[if_neg ek] at hc;exact h.use k v c hv hc
 ·rcases List.mem_append.1 hv with hv | hv
  ·exact h.rng v hv
  ·rw[List.mem_singleton] at hv;subst hv;exact⟨hl.lo,hl.lt⟩
 ·rw[List.nodup_append];exact⟨h.nod,by simp,fun a ha c hc e=>by rw[List.mem_singleton] at hc;subst hc;subst e;exact hnm ha⟩
 ·have:=hl.lo;rw[List.getElem?_set] at hc;simp only[List.mem_append,List.mem_singleton];by_cases ek:hi.toNat=k
  ·rw[if_pos ek,if_pos (by omega)] at hc;cases hc;exact⟨fun _=>Or.inr (by omega),fun _=>rfl⟩
  ·rw[if_neg ek] at hc;rw[h.part k c hc];constructor
   ·exact Or.inl
   ·rintro (hm | hm)
    ·exact hm
    ·omega
theorem qgm {hi hu:Int} (h:Vd u b fr) (hl:Live u b hi hu):Fn 332 3 [slA u b fr,.pv (.agg #[iV hi,iV hu])] (slP u b fr) (.pv (.bool true)) 0 []:=by
 have hlt:hi<(b.length:Int):=by rw[h.len];exact hl.lt
 have hh:=qdB (u:=u) (f:=fr) (b:=b) hi;rw[show (decide (0≤hi)&&decide (hi<(b.length:Int)))=true by simp[hl.lo,hlt]] at hh;exact qx5 hh ⟨hl.lo,hlt⟩ hl.used ⟨hl.lo,hl.lt⟩ hl.use (by simp)
theorem qbv (h:Vd u b fr):Fn 224 3 [slA u b fr] (slP u b fr) (.pv (iV 0)) 0 []:=by
 have:=qgM (u:=u) (b:=b) (f:=fr) (by have:=h.frlen;omega)
 rwa [if_pos (qcx.2 h)] at this
theorem qlN (hf:fr.length≤1000000) (h:¬ Vd u b fr):Fn 224 3 [slA u b fr] (slP u b fr) (.pv (iV 8)) 0 []:=by
 have:=qgM (u:=u) (b:=b) (f:=fr) hf
 rwa [if_neg (fun e=>h (qcx.1 e))] at this
theorem qwQ {hi hu:Int} (h:Vd u b fr) (hl:Live u b hi hu):Fn 311 3 [slA u b fr,.pv (.agg #[iV hi,iV hu])] (slP u b fr) (.pv (.tuple #[.bool true,iV 0])) 0 []:=qqV (qbv h) (qgm h hl)
abbrev tkE (e:Int):SV:=.pv (.tuple #[.agg #[.slice none 0 0,.slice none 0 0,.slice none 0 0],.agg #[iV 0,iV 0],iV e])
theorem qn8 (h:Vd u b fr) (ht:qbx u b fr=none):Fn 315 3 [slA u b fr] (slP u b fr) (tkE 18) 0 []:=by
 have hfl:=h.frlen
 cases hl:fr.getLast? with
 | none=>
  have:fr=[]:=List.getLast?_eq_none_iff.1 hl;subst this;exact qxC (qbv h) (by rw[show ((([]:List Int).length:Nat):Int)-1 = -1 by simp];exact qbe (by omega) (by omega))
 | some x=>
  obtain⟨e,h1,h2⟩:=qbq hl
  have hx:x∈fr:=by rw[e];simp
  obtain⟨r1,r2⟩:=h.rng x hx
  have hk:x.toNat<u.length:=by omega
  have hy:u[x.toNat]?=some u[x.toNat]:=List.getElem?_eq_getElem hk;unfold qbx at ht;rw[hl] at ht;simp only[hy] at ht;split at ht
  ·rename_i hw;exact qyw (m:=fr.length-1) (qbv h) (by rw[show ((fr.length:Int)-1)=((fr.length-1:Nat):Int) by omega];exact qbe (by omega) (by omega)) (by simp) (by omega) h1 ⟨r1,r2⟩ hy (by simpa using hw)
  ·cases ht
theorem qoj {u' fr':List Int} {b':List Bool} {x z:Int} (h:Vd u b fr) (ht:qbx u b fr=some (u',b',fr',x,z)) :
 Fn 315 3 [slA u b fr] (slP u b fr) (.tu [.ag [.ls 3 u'.length,.ls 4 b'.length,.ls 5 fr'.length],.one (.pv (.agg #[iV x,iV z])),.one (.pv (iV 0))]) 3 [(3,0,zrI u'),(4,0,zrB b'),(5,0,zrI fr')]:=by
 have hfl:=h.frlen;have hle:=h.le;obtain⟨y,h1,h2,h3,rfl,rfl,rfl,rfl⟩:=qbp ht;obtain⟨e,hg,h4⟩:=qbq h1
 have hx:x∈fr:=by rw[e];simp
 obtain⟨r1,r2⟩:=h.rng x hx
 have hbk:x.toNat<b.length:=by rw[h.len];omega
 have hy:=h.use x.toNat y _ h2 (List.getElem?_eq_getElem hbk)
 have hy0:0≤y:=by have:=hy.1;split at this<;>omega
 have ef:fr.dropLast=fr.take (fr.length-1):=List.dropLast_eq_take
 have el:(fr.take (fr.length-1)).length=fr.length-1:=by rw[List.length_take];omega
 simp only[zrI,zrB,List.length_set];rw[ef,el]
 have hbl:b.length≤200:=by rw[h.len];exact hle
 refine qIx (m:=fr.length-1) (y:=y) (qbv h) (by rw[show ((fr.length:Int)-1)=((fr.length-1:Nat):Int) by omega];exact qbe (by omega) (by omega)) (by simp) (by omega) hg ⟨r1,r2⟩ h2 (by simpa using h3) (qbe (by omega) (by omega)) ?_ ?_ (by omega) (qom (by omega) (by omega))
 ·exact wti ⟨r1,r2⟩ (by omega) (qjr (by omega))
 ·exact qHb ⟨r1,by rw[h.len];exact r2⟩ hbk (qfF (by omega))
theorem qnm {hi hu:Int} (h:Vd u b fr) (hl:Live u b hi hu) :
 Fn 327 3 [slA u b fr,.pv (.agg #[iV hi,iV hu])] (slP u b fr) (.tu [.ag [.ls 3 u.length,.ls 4 (b.set hi.toNat false).length,.ls 5 (fr++[hi]).length],.one (.pv (iV 0))]) 3 [(3,0,zrI u),(4,0,zrB (b.set hi.toNat false)),(5,0,zrI (fr++[hi]))]:=by
 have hfl:=h.frlen;have hle:=h.le
 have hbl:b.length≤200:=by rw[h.len];exact hle
 have h0:=hl.lo
 have h1:hi<(b.length:Int):=by rw[h.len];exact hl.lt
 simp only[zrI,zrB,List.length_set,List.length_append,List.length_singleton];refine qFb (qbv h) (qgm h hl) (qaY (by omega)) (qFG ⟨h0,h1⟩ (by omega) (qfF (by omega))) ?_;have hd:decide (((fr.length+1:Nat):Int)<0)=false:=decide_eq_false (by omega);exact qJz (by rw[Int.zero_add];exact qbe (by omega) (by omega)) (by simp) (qaL (by omega)) hd (qHy (z:=((fr.length+1:Nat):Int)) hd (by rw[Int.sub_zero];exact qbe (by omega) (by omega)) (decide_eq_true (by omega)) (by omega) (by omega)) (by omega) (by omega)
end
end Go.Proofs.YtkckcgpmnipnaaaGreat

namespace Go.Proofs.YtkckcgpmnipnaaaGreat
set_option maxRecDepth 100000
open Go.RowKit
variable {u fr:List Int} {b g m l:List Bool} {x y hi hw:Int} {k:Nat}
theorem qFZ (a b c:Nat):SV.ag [.ls 6 (0+a),.ls 8 (0+b),.ls 10 (0+c)]=(SV.ag [.ls 3 a,.ls 4 b,.ls 5 c]).ren (qaM [(3,6),(4,8),(5,10)]):=by rw[Nat.zero_add,Nat.zero_add,Nat.zero_add];rfl
abbrev qf8 (b:List Bool) (fr:List Int) (u:List Int):HpL:=[(0,0,zrI u),(1,0,zrB b),(2,0,zrI fr)]
theorem qJR (gu:decide ((u.length:Int)>210)=true) :
 Fn 135 3 [.ag [.ls 0 u.length,.ls 1 b.length,.ls 2 fr.length]] (qf8 b fr u) (.pv (.bool true)) 0 []:=
 Fz [] [.t true]
  tI (Ai gu tI)
theorem qJI (gu:decide ((u.length:Int)>210)=false) (gb:decide ((b.length:Int)>210)=true) :
 Fn 135 3 [.ag [.ls 0 u.length,.ls 1 b.length,.ls 2 fr.length]] (qf8 b fr u) (.pv (.bool true)) 0 []:=
 Fz [] [.t false,.t true]
  tI (A2 gu gb tI)
theorem qJF (gu:decide ((u.length:Int)>210)=false) (gb:decide ((b.length:Int)>210)=false) (gf:decide ((fr.length:Int)>210)=true) :
 Fn 135 3 [.ag [.ls 0 u.length,.ls 1 b.length,.ls 2 fr.length]] (qf8 b fr u) (.pv (.bool true)) 0 []:=
 Fz [] [.t false,.t false,.t true]
  tI (A3 gu gb gf tI)
theorem qFx (gu:decide ((u.length:Int)>210)=false) (gb:decide ((b.length:Int)>210)=false) (gf:decide ((fr.length:Int)>210)=false) :
 Fn 135 3 [.ag [.ls 0 u.length,.ls 1 b.length,.ls 2 fr.length]] (qf8 b fr u) (.pv (.bool false)) 0 []:=
 Fz [] [.t false,.t false,.t false]
  tI (A3 gu gb gf tI)
theorem qHP (h1:decide ((u.length:Int)<1)=true) :
 Fn 185 3 [.ag [.ls 0 u.length,.ls 1 b.length,.ls 2 fr.length]] (qf8 b fr u) (.pv (iV (8))) 0 []:=
 Fz [] [.t true]
  tI (Ai h1 tI)
theorem qGZ (h1:decide ((u.length:Int)<1)=false) (h2:decide ((u.length:Int)>200)=true) :
 Fn 185 3 [.ag [.ls 0 u.length,.ls 1 b.length,.ls 2 fr.length]] (qf8 b fr u) (.pv (iV (8))) 0 []:=
 Fz [] [.t false,.t true]
  tI (A2 h1 h2 tI)
theorem qFv (h1:decide ((u.length:Int)<1)=false) (h2:decide ((u.length:Int)>200)=false) (h3:(!((b.length:Int)==(u.length:Int)))=true) :
 Fn 185 3 [.ag [.ls 0 u.length,.ls 1 b.length,.ls 2 fr.length]] (qf8 b fr u) (.pv (iV (8))) 0 []:=
 Fz [] [.t false,.t false,.t true]
  tI (A3 h1 h2 h3 tI)
theorem qGv (h1:decide ((u.length:Int)<1)=false) (h2:decide ((u.length:Int)>200)=false) (h3:(!((b.length:Int)==(u.length:Int)))=false) (h4:decide ((fr.length:Int)>(u.length:Int))=true) :
 Fn 185 3 [.ag [.ls 0 u.length,.ls 1 b.length,.ls 2 fr.length]] (qf8 b fr u) (.pv (iV (8))) 0 []:=
 Fz [] [.t false,.t false,.t false,.t true]
  tI (A4 h1 h2 h3 h4 tI)
abbrev qhd (b:List Bool) (fr:List Int) (g:List Bool) (u:List Int):HpL:=[(3,0,.ls 0 u.length),(3,1,.ls 1 b.length),(3,2,.ls 2 fr.length),(0,0,zrI u),(1,0,zrB b),(2,0,zrI fr),(4,0,.row 4 1 u.length (zbV g))]
abbrev qDU (k:Nat) (u:List Int):TmL:=[(1,.pp 3 0),(3,.pv (iV (u.length:Int))),(4,.ls 4 u.length),(5,.pv (iV (k:Int)))]
theorem qwi (hf:fr[k]?=some x) (hif:0≤(k:Int)∧(k:Int)<(fr.length:Int)) (hlt:decide ((k:Int)<(fr.length:Int))=true) (hx0:decide (x<0)=true):Rl 3 3 185 0 117 5 (qDU k u) (qhd b fr g u) (.ret) ([(2,.pv (iV 8))]) ([]):=
 RunsL.stop [] 300 [.t true,.r (iV x),.t true] (fun h=>by cases h)
  (Ro (A4 hlt hif (qbb hf) hx0 tI))
theorem qyk (hf:fr[k]?=some x) (hif:0≤(k:Int)∧(k:Int)<(fr.length:Int)) (hlt:decide ((k:Int)<(fr.length:Int))=true) (hx0:decide (x<0)=false) (hx1:decide (x≥(u.length:Int))=true):Rl 3 3 185 0 117 5 (qDU k u) (qhd b fr g u) (.ret) ([(2,.pv (iV 8))]) ([]):=
 RunsL.stop [] 300 [.t true,.r (iV x),.t false,.r (iV x),.t true] (fun h=>by cases h)
  (Ro (A7 hlt hif (qbb hf) hx0 hif (qbb hf) hx1 tI))
theorem qo0 (hf:fr[k]?=some x) (hif:Bd k fr.length) (hlt:Dt ((k:Int)<(fr.length:Int))) (hx0:Df (x<0)) (hx1:Df (x≥(u.length:Int))) (hix:0≤x∧x<(u.length:Int)) (hg:g[x.toNat]?=some true):Rl 3 3 185 0 117 5 (qDU k u) (qhd b fr g u) (.ret) ([(2,.pv (iV 8))]) ([]):=
 RunsL.stop [] 300 [.t true,.r (iV x),.t false,.r (iV x),.t false,.r (iV x),.r (.bool true)] (fun h=>by cases h)
  (Ro (A9 hlt hif (qbb hf) hx0 hif (qbb hf) hx1 hif (qbb hf) (A2 hix (qhY hg) tI)))
theorem qk1 (hf:fr[k]?=some x) (hif:Bd k fr.length) (hlt:Dt ((k:Int)<(fr.length:Int))) (hx0:Df (x<0)) (hx1:Df (x≥(u.length:Int))) (hix:0≤x∧x<(u.length:Int)) (hg:g[x.toNat]?=some false) (hgl:x.toNat<g.length) (hs:iV (IntKind.i64.wrap ((k:Int)+1))=iV (((k+1:Nat):Int))) {e:Exit} {tm2:TmL} {hp2:HpL}
 (r:Rl 3 3 185 0 117 5 ([(1,.pp 3 0),(3,.pv (iV (u.length:Int))),(4,.ls 4 u.length),(5,.pv (iV ((k+1:Nat):Int)))]) ([(3,0,.ls 0 u.length),(3,1,.ls 1 b.length),(3,2,.ls 2 fr.length),(0,0,zrI u),(1,0,zrB b),(2,0,zrI fr),(4,0,.row 4 1 u.length (zbV (g.set x.toNat true)))]) e tm2 hp2):Rl 3 3 185 0 117 5 (qDU k u) (qhd b fr g u) e tm2 hp2:=
 RunsL.next [] 300 [.t true,.r (iV x),.t false,.r (iV x),.t false,.r (iV x),.r (.bool false),.r (iV x),.w (zbV (g.set x.toNat true)),Re hs]
  (Ro (A9 hlt hif (qbb hf) hx0 hif (qbb hf) hx1 hif (qbb hf) (A8 hix (qhY hg) hif (qbb hf) hix (qug g x.toNat true hgl) (qeU g x.toNat hgl) hs tI))) r
theorem qvN (hge:decide ((k:Int)<(fr.length:Int))=false):Rl 3 3 185 0 117 5 (qDU k u) (qhd b fr g u) (.exit 0) ([(1,.pp 3 0),(3,.pv (iV (u.length:Int))),(4,.ls 4 u.length)]) (qhd b fr g u):=
 RunsL.stop [] 300 [.t false] (fun h=>by cases h)
  (Ro (Ai hge tI))
abbrev qub (k:Nat) (u:List Int):TmL:=[(1,.pp 3 0),(3,.pv (iV (u.length:Int))),(4,.ls 4 u.length),(6,.pv (iV (k:Int)))]
theorem qyz (hu:u[k]?=some y) (hiu:0≤(k:Int)∧(k:Int)<(u.length:Int)) (hlt:decide ((k:Int)<(u.length:Int))=true) (hy0:decide (y<0)=true):Rl 3 3 185 1 117 5 (qub k u) (qhd b fr g u) (.ret) ([(2,.pv (iV 8))]) ([]):=
 RunsL.stop [] 300 [.t true,.r (iV y),.t true] (fun h=>by cases h)
  (Ro (A4 hlt hiu (qbb hu) hy0 tI))
theorem qvJ (hu:u[k]?=some y) (hiu:0≤(k:Int)∧(k:Int)<(u.length:Int)) (hlt:decide ((k:Int)<(u.length:Int))=true) (hy0:decide (y<0)=false) (hy1:decide (y>1000000)=true):Rl 3 3 185 1 117 5 (qub k u) (qhd b fr g u) (.ret) ([(2,.pv (iV 8))]) ([]):=
 RunsL.stop [] 300 [.t true,.r (iV y),.t false,.r (iV y),.t true] (fun h=>by cases h)
  (Ro (A7 hlt hiu (qbb hu) hy0 hiu (qbb hu) hy1 tI))
theorem qjf (hu:u[k]?=some y) (hiu:Bd k u.length) (hlt:Dt ((k:Int)<(u.length:Int))) (hy0:Df (y<0)) (hy1:Df (y>1000000)) (hb:b[k]?=some true) (hib:Bd k b.length) (hg:g[k]?=some true):Rl 3 3 185 1 117 5 (qub k u) (qhd b fr g u) (.ret) ([(2,.pv (iV 8))]) ([]):=
 RunsL.stop [] 300 [.t true,.r (iV y),.t false,.r (iV y),.t false,.r (.bool true),.r (.bool true),.k] (fun h=>by cases h)
  (Ro (A9 hlt hiu (qbb hu) hy0 hiu (qbb hu) hy1 hib (qcM hb) (A2 hiu (qcM hg) tI)))
theorem qiW (hu:u[k]?=some y) (hiu:Bd k u.length) (hlt:Dt ((k:Int)<(u.length:Int))) (hy0:Df (y<0)) (hy1:Df (y>1000000)) (hb:b[k]?=some false) (hib:Bd k b.length) (hg:g[k]?=some false):Rl 3 3 185 1 117 5 (qub k u) (qhd b fr g u) (.ret) ([(2,.pv (iV 8))]) ([]):=
 RunsL.stop [] 300 [.t true,.r (iV y),.t false,.r (iV y),.t false,.r (.bool false),.r (.bool false),.k] (fun h=>by cases h)
  (Ro (A9 hlt hiu (qbb hu) hy0 hiu (qbb hu) hy1 hib (qcM hb) (A2 hiu (qcM hg) tI)))
theorem qgO (hu:u[k]?=some y) (hiu:Bd k u.length) (hlt:Dt ((k:Int)<(u.length:Int))) (hy0:Df (y<0)) (hy1:Df (y>1000000)) (hb:b[k]?=some false) (hib:Bd k b.length) (hg:g[k]?=some true) (hs:iV (IntKind.i64.wrap ((k:Int)+1))=iV (((k+1:Nat):Int))) {e:Exit} {tm2:TmL} {hp2:HpL}
 (r:Rl 3 3 185 1 117 5 ([(1,.pp 3 0),(3,.pv (iV (u.length:Int))),(4,.ls 4 u.length),(6,.pv (iV ((k+1:Nat):Int)))]) (qhd b fr g u) e tm2 hp2):Rl 3 3 185 1 117 5 (qub k u) (qhd b fr g u) e tm2 hp2:=
 RunsL.next [] 300 [.t true,.r (iV y),.t false,.r (iV y),.t false,.r (.bool false),.r (.bool true),.k,.r (.bool false),Re hs]
  (Ro (A9 hlt hiu (qbb hu) hy0 hiu (qbb hu) hy1 hib (qcM hb) (A5 hiu (qcM hg) hib (qcM hb) hs tI))) r
theorem qv0 (hu:u[k]?=some y) (hiu:0≤(k:Int)∧(k:Int)<(u.length:Int)) (hlt:decide ((k:Int)<(u.length:Int))=true) (hy0:decide (y<0)=false) (hy1:decide (y>1000000)=false) (hb:b[k]?=some true) (hib:0≤(k:Int)∧(k:Int)<(b.length:Int)) (hg:g[k]?=some false) (hy2:decide (y<1)=true):Rl 3 3 185 1 117 5 (qub k u) (qhd b fr g u) (.ret) ([(2,.pv (iV 8))]) ([]):=
 RunsL.stop [] 300 [.t true,.r (iV y),.t false,.r (iV y),.t false,.r (.bool true),.r (.bool false),.k,.r (.bool true),.r (iV y),.t true] (fun h=>by cases h)
  (Ro (A9 hlt hiu (qbb hu) hy0 hiu (qbb hu) hy1 hib (qcM hb) (A7 hiu (qcM hg) hib (qcM hb) hiu (qbb hu) hy2 tI)))
theorem qgS (hu:u[k]?=some y) (hiu:Bd k u.length) (hlt:Dt ((k:Int)<(u.length:Int))) (hy0:Df (y<0)) (hy1:Df (y>1000000)) (hb:b[k]?=some true) (hib:Bd k b.length) (hg:g[k]?=some false) (hy2:Df (y<1)) (hs:iV (IntKind.i64.wrap ((k:Int)+1))=iV (((k+1:Nat):Int))) {e:Exit} {tm2:TmL} {hp2:HpL}
 (r:Rl 3 3 185 1 117 5 ([(1,.pp 3 0),(3,.pv (iV (u.length:Int))),(4,.ls 4 u.length),(6,.pv (iV ((k+1:Nat):Int)))]) (qhd b fr g u) e tm2 hp2):Rl 3 3 185 1 117 5 (qub k u) (qhd b fr g u) e tm2 hp2:=
 RunsL.next [] 300 [.t true,.r (iV y),.t false,.r (iV y),.t false,.r (.bool true),.r (.bool false),.k,.r (.bool true),.r (iV y),.t false,Re hs]
  (Ro (A9 hlt hiu (qbb hu) hy0 hiu (qbb hu) hy1 hib (qcM hb) (A8 hiu (qcM hg) hib (qcM hb) hiu (qbb hu) hy2 hs tI))) r
theorem qv7 (hge:decide ((k:Int)<(u.length:Int))=false):Rl 3 3 185 1 117 5 (qub k u) (qhd b fr g u) (.exit 2) ([]) ([]):=
 RunsL.stop [] 300 [.t false] (fun h=>by cases h)
  (Ro (Ai hge tI))
theorem qGc (h1:Df ((u.length:Int)<1)) (h2:Df ((u.length:Int)>200)) (h3:(!((b.length:Int)==(u.length:Int)))=false) (h4:Df ((fr.length:Int)>(u.length:Int))) (n0:0≤(u.length:Int)) (n1:(u.length:Int)≤1000000) (r0:Rl 3 3 185 0 117 5 ([(1,.pp 3 0),(3,.pv (iV (u.length:Int))),(4,.ls 4 u.length),(5,.pv (iV ((0:Nat):Int)))]) ([(3,0,.ls 0 u.length),(3,1,.ls 1 b.length),(3,2,.ls 2 fr.length),(0,0,zrI u),(1,0,zrB b),(2,0,zrI fr),(4,0,.row 4 1 u.length (zbV (List.replicate u.length false)))]) (.ret) ([(2,.pv (iV 8))]) ([])) :
 Fn 185 3 [.ag [.ls 0 u.length,.ls 1 b.length,.ls 2 fr.length]] (qf8 b fr u) (.pv (iV (8))) 0 []:=
 Fz [] [.t false,.t false,.t false,.t false,Lf r0]
  tI (A9 h1 h2 h3 h4 n0 (Eq.refl (u.length:Int)) n1 (Lt r0 []) (Ai (El 0 u.length) (Ai (El 1 b.length) (Ai (El 2 fr.length) (Ai (Er (zrI u)) (Ai (Er (zrB b)) (Ai (Er (zrI fr)) (Ai (qdg u.length) tI))))))) (Ai r0 tI))
abbrev qIU (b:List Bool) (fr:List Int) (g:List Bool) (u:List Int):Prop:=Rl 3 3 185 0 117 5 ([(1,.pp 3 0),(3,.pv (iV (u.length:Int))),(4,.ls 4 u.length),(5,.pv (iV ((0:Nat):Int)))]) ([(3,0,.ls 0 u.length),(3,1,.ls 1 b.length),(3,2,.ls 2 fr.length),(0,0,zrI u),(1,0,zrB b),(2,0,zrI fr),(4,0,.row 4 1 u.length (zbV (List.replicate u.length false)))]) (.exit 0) ([(1,.pp 3 0),(3,.pv (iV (u.length:Int))),(4,.ls 4 u.length)]) (qhd b fr g u)
theorem qFs (h1:Df ((u.length:Int)<1)) (h2:Df ((u.length:Int)>200)) (h3:(!((b.length:Int)==(u.length:Int)))=false) (h4:Df ((fr.length:Int)>(u.length:Int))) (n0:0≤(u.length:Int)) (n1:(u.length:Int)≤1000000) (r0:qIU b fr g u) (r1:Rl 3 3 185 1 117 5 ([(1,.pp 3 0),(3,.pv (iV (u.length:Int))),(4,.ls 4 u.length),(6,.pv (iV ((0:Nat):Int)))]) (qhd b fr g u) (.ret) ([(2,.pv (iV 8))]) ([])) :
 Fn 185 3 [.ag [.ls 0 u.length,.ls 1 b.length,.ls 2 fr.length]] (qf8 b fr u) (.pv (iV (8))) 0 []:=
 Fz [] [.t false,.t false,.t false,.t false,Lf r0,Lf r1]
  tI (A9 h1 h2 h3 h4 n0 (Eq.refl (u.length:Int)) n1 (Lt r0 []) (Ai (El 0 u.length) (Ai (El 1 b.length) (Ai (El 2 fr.length) (Ai (Er (zrI u)) (Ai (Er (zrB b)) (Ai (Er (zrI fr)) (Ai (qdg u.length) tI))))))) (Ai r0 (Lo r1 [] tI)))
theorem quP (h1:decide ((u.length:Int)<1)=false) (h2:decide ((u.length:Int)>200)=false) (h3:(!((b.length:Int)==(u.length:Int)))=false) (h4:decide ((fr.length:Int)>(u.length:Int))=false) (n0:0≤(u.length:Int)) (n1:(u.length:Int)≤1000000) (r0:qIU b fr g u) (r1:Rl 3 3 185 1 117 5 ([(1,.pp 3 0),(3,.pv (iV (u.length:Int))),(4,.ls 4 u.length),(6,.pv (iV ((0:Nat):Int)))]) (qhd b fr g u) (.exit 2) ([]) ([])) :
 Fn 185 3 [.ag [.ls 0 u.length,.ls 1 b.length,.ls 2 fr.length]] (qf8 b fr u) (.pv (iV (0))) 0 []:=
 Fz [] [.t false,.t false,.t false,.t false,Lf r0,Lf r1]
  tI (A9 h1 h2 h3 h4 n0 (Eq.refl (u.length:Int)) n1 (Lt r0 []) (Ai (El 0 u.length) (Ai (El 1 b.length) (Ai (El 2 fr.length) (Ai (Er (zrI u)) (Ai (Er (zrB b)) (Ai (Er (zrI fr)) (Ai (qdg u.length) tI))))))) (Ai r0 (Lo r1 [] tI)))
theorem rtw (nu:0+u.length≤1000000) (nb:0+b.length≤1000000) (nf:0+fr.length≤1000000) :
 Fn 136 3 [.ag [.ls 0 u.length,.ls 1 b.length,.ls 2 fr.length]] (qf8 b fr u) (.ag [.ls 3 u.length,.ls 4 b.length,.ls 5 fr.length]) 3 [(3,0,zrI u),(4,0,zrB b),(5,0,zrI fr)]:=
 Fx [(3,6),(4,8),(5,10)] [.md]
  (qFZ u.length b.length fr.length) (A3 (qel 3 u.length (ziV u)) (qel 4 b.length (zbV b)) (qel 3 fr.length (ziV fr)) tI) (A3 nu nb nf tI)
abbrev qI8 (b:List Bool) (fr:List Int) (u:List Int):Prop:=Fn 136 3 [.ag [.ls 0 u.length,.ls 1 b.length,.ls 2 fr.length]] (qf8 b fr u) (.ag [.ls 3 u.length,.ls 4 b.length,.ls 5 fr.length]) 3 [(3,0,zrI u),(4,0,zrB b),(5,0,zrI fr)]
theorem rtk {z:Int} {m:Nat} (ht:qI8 b fr u) (hl:iV (IntKind.i64.wrap ((fr.length:Int)-1))=iV (m:Int)) (hm:0≤(m:Int)∧(m:Int)<(fr.length:Int)) (hf:fr[m]?=some x) (hml:m≤fr.length) (hx:0≤x∧x<(u.length:Int)) (hu:u[x.toNat]?=some y) (hul:x.toNat<u.length) (hxb:0≤x∧x<(b.length:Int)) (hbl:x.toNat<b.length) (hz:(u.set x.toNat z)[x.toNat]?=some z) (h1:iV (IntKind.i64.wrap (y+1))=iV (z)) :
 Fn 243 3 [.ag [.ls 0 u.length,.ls 1 b.length,.ls 2 fr.length]] (qf8 b fr u) (.tu [.ag [.ls 3 u.length,.ls 4 b.length,.ls 5 m],.one (.pv (.agg #[iV x,iV z]))]) 3 [(3,0,.row 3 1 u.length (ziV (u.set x.toNat z))),(4,0,.row 4 1 b.length (zbV (b.set x.toNat true))),(5,0,.row 3 1 m ((ziV fr).take (m*1)))]:=
 Fz [(3,6),(4,7),(5,10)] [Cf ht [0,1,2],Re hl,.r (iV x),Re hl,.w [],.r (iV y),Re h1,.w (ziV (u.set x.toNat z)),.w (zbV (b.set x.toNat true)),.r (iV z)]
  (qaG (qaM [(3,6),(4,7),(5,10)]) [(3,0,.row 3 1 u.length (ziV (u.set x.toNat z))),(4,0,.row 4 1 b.length (zbV (b.set x.toNat true))),(5,0,.row 3 1 m ((ziV fr).take (m*1)))]) (Co ht [0,1,2] 6 (A9 hl hm (qbb hf) hl (Int.natCast_nonneg m) hml hx (qc3 hu) h1 (A8 hx (qcB u x.toNat z hul) (qaQ u x.toNat hul) hxb (qug b x.toNat true hbl) (qeU b x.toNat hbl) hx (qc3 hz) tI)))
theorem rgi (ht:qI8 b fr u) (hib:0≤hi∧hi<(b.length:Int)) (hbl:hi.toNat<b.length) (hn:fr.length+1≤1000000) :
 Fn 152 3 [.ag [.ls 0 u.length,.ls 1 b.length,.ls 2 fr.length],.pv (.agg #[iV hi,iV hw])] (qf8 b fr u) (.ag [.ls 3 u.length,.ls 4 b.length,.ls 5 (fr.length+1)]) 3 [(3,0,.row 3 1 u.length (ziV (u))),(4,0,.row 4 1 b.length (zbV (b.set hi.toNat false))),(5,0,.row 3 1 (fr.length+1) (ziV fr++[iV hi]))]:=
 Fz [(3,6),(4,7),(5,11)] [Cf ht [0,1,2],.w (zbV (b.set hi.toNat false))]
  (qaG (qaM [(3,6),(4,7),(5,11)]) [(3,0,.row 3 1 u.length (ziV (u))),(4,0,.row 4 1 b.length (zbV (b.set hi.toNat false))),(5,0,.row 3 1 (fr.length+1) (ziV fr++[iV hi]))]) (Co ht [0,1,2] 6 (A4 hib (qug b hi.toNat false hbl) (qeU b hi.toNat hbl) hn tI))
theorem qrO (h0:decide ((fr.length:Int)>0)=false) :
 Fn 197 3 [.ag [.ls 0 u.length,.ls 1 b.length,.ls 2 fr.length]] (qf8 b fr u) (.pv (.bool false)) 0 []:=
 Fz [] [.t false]
  tI (Ai h0 tI)
theorem qrA {m:Nat} (h0:decide ((fr.length:Int)>0)=true) (hl:iV (IntKind.i64.wrap ((fr.length:Int)-1))=iV (m:Int)) (hm:0≤(m:Int)∧(m:Int)<(fr.length:Int)) (hf:fr[m]?=some x) (hx:0≤x∧x<(u.length:Int)) (hu:u[x.toNat]?=some y) (hy:decide (y<1000000)=true) :
 Fn 197 3 [.ag [.ls 0 u.length,.ls 1 b.length,.ls 2 fr.length]] (qf8 b fr u) (.pv (.bool true)) 0 []:=
 Fz [] [.t true,Re hl,.r (iV x),.r (iV y),.t true]
  tI (A7 h0 hl hm (qbb hf) hx (qc3 hu) hy tI)
theorem qpn {m:Nat} (h0:decide ((fr.length:Int)>0)=true) (hl:iV (IntKind.i64.wrap ((fr.length:Int)-1))=iV (m:Int)) (hm:0≤(m:Int)∧(m:Int)<(fr.length:Int)) (hf:fr[m]?=some x) (hx:0≤x∧x<(u.length:Int)) (hu:u[x.toNat]?=some y) (hy:decide (y<1000000)=false) :
 Fn 197 3 [.ag [.ls 0 u.length,.ls 1 b.length,.ls 2 fr.length]] (qf8 b fr u) (.pv (.bool false)) 0 []:=
 Fz [] [.t true,Re hl,.r (iV x),.r (iV y),.t false]
  tI (A7 h0 hl hm (qbb hf) hx (qc3 hu) hy tI)
theorem qym (h0:decide (hi≥0)=false) :
 Fn 189 3 [.ag [.ls 0 u.length,.ls 1 b.length,.ls 2 fr.length],.pv (.agg #[iV hi,iV hw])] (qf8 b fr u) (.pv (.bool false)) 0 []:=
 Fz [] [.t false]
  tI (Ai h0 tI)
theorem qwY (h0:decide (hi≥0)=true) (h1:decide (hi<(u.length:Int))=false) :
 Fn 189 3 [.ag [.ls 0 u.length,.ls 1 b.length,.ls 2 fr.length],.pv (.agg #[iV hi,iV hw])] (qf8 b fr u) (.pv (.bool false)) 0 []:=
 Fz [] [.t true,.t false]
  tI (A2 h0 h1 tI)
theorem qrN (h0:Dt (hi≥0)) (h1:Dt (hi<(u.length:Int))) (hib:0≤hi∧hi<(b.length:Int)) (hb:b[hi.toNat]?=some false) :
 Fn 189 3 [.ag [.ls 0 u.length,.ls 1 b.length,.ls 2 fr.length],.pv (.agg #[iV hi,iV hw])] (qf8 b fr u) (.pv (.bool false)) 0 []:=
 Fz [] [.t true,.t true,.r (.bool false)]
  tI (A4 h0 h1 hib (qhY hb) tI)
theorem qsh (h0:decide (hi≥0)=true) (h1:decide (hi<(u.length:Int))=true) (hib:0≤hi∧hi<(b.length:Int)) (hb:b[hi.toNat]?=some true) (hiu:0≤hi∧hi<(u.length:Int)) (hue:u[hi.toNat]?=some y) (he:(y==hw)=true) :
 Fn 189 3 [.ag [.ls 0 u.length,.ls 1 b.length,.ls 2 fr.length],.pv (.agg #[iV hi,iV hw])] (qf8 b fr u) (.pv (.bool true)) 0 []:=
 Fz [] [.t true,.t true,.r (.bool true),.r (iV y),.t true]
  tI (A7 h0 h1 hib (qhY hb) hiu (qc3 hue) he tI)
theorem qpf (h0:decide (hi≥0)=true) (h1:decide (hi<(u.length:Int))=true) (hib:0≤hi∧hi<(b.length:Int)) (hb:b[hi.toNat]?=some true) (hiu:0≤hi∧hi<(u.length:Int)) (hue:u[hi.toNat]?=some y) (he:(y==hw)=false) :
 Fn 189 3 [.ag [.ls 0 u.length,.ls 1 b.length,.ls 2 fr.length],.pv (.agg #[iV hi,iV hw])] (qf8 b fr u) (.pv (.bool false)) 0 []:=
 Fz [] [.t true,.t true,.r (.bool true),.r (iV y),.t false]
  tI (A7 h0 h1 hib (qhY hb) hiu (qc3 hue) he tI)
theorem qyP {l m:List Int} (hx:l[k]?=some x) (hy:m[k]?=some y) (hil:0≤(k:Int)∧(k:Int)<(l.length:Int)) (him:0≤(k:Int)∧(k:Int)<(m.length:Int)) (hlt:decide ((k:Int)<(l.length:Int))=true) (hq:(!(x==y))=false) (hs:iV (IntKind.i64.wrap ((k:Int)+1))=iV (((k+1:Nat):Int))) {e:Exit} {tm2:TmL} {hp2:HpL}
 (r:Rl 2 2 149 0 26 2 ([(0,.ls 0 l.length),(1,.ls 1 m.length),(5,.pv (iV ((k+1:Nat):Int)))]) ([(0,0,zrI l),(1,0,zrI m)]) e tm2 hp2):Rl 2 2 149 0 26 2 ([(0,.ls 0 l.length),(1,.ls 1 m.length),(5,.pv (iV (k:Int)))]) ([(0,0,zrI l),(1,0,zrI m)]) e tm2 hp2:=
 RunsL.next [] 300 [.t true,.r (iV x),.r (iV y),.t false,Re hs]
  (Ro (A7 hlt hil (qbb hx) him (qbb hy) hq hs tI)) r
theorem qD0 {l m:List Int} (hge:decide ((k:Int)<(l.length:Int))=false):Rl 2 2 149 0 26 2 ([(0,.ls 0 l.length),(1,.ls 1 m.length),(5,.pv (iV (k:Int)))]) ([(0,0,zrI l),(1,0,zrI m)]) (.exit 0) ([]) ([]):=
 RunsL.stop [] 300 [.t false] (fun h=>by cases h)
  (Ro (Ai hge tI))
theorem qvM {l m:List Int} (hl:(!((l.length:Int)==(m.length:Int)))=false) (r0:Rl 2 2 149 0 26 2 ([(0,.ls 0 l.length),(1,.ls 1 m.length),(5,.pv (iV ((0:Nat):Int)))]) ([(0,0,zrI l),(1,0,zrI m)]) (.exit 0) ([]) ([])) :
 Fn 149 2 [.ls 0 l.length,.ls 1 m.length] [(0,0,zrI l),(1,0,zrI m)] (.pv (.bool true)) 0 []:=
 Fz [] [.t false,Lf r0]
  tI (Ai hl (Lo r0 [] tI))
theorem qi1 (hx:l[k]?=some true) (hy:m[k]?=some true) (hil:0≤(k:Int)∧(k:Int)<(l.length:Int)) (him:0≤(k:Int)∧(k:Int)<(m.length:Int)) (hlt:decide ((k:Int)<(l.length:Int))=true) (hs:iV (IntKind.i64.wrap ((k:Int)+1))=iV (((k+1:Nat):Int))) {e:Exit} {tm2:TmL} {hp2:HpL}
 (r:Rl 2 2 200 0 26 2 ([(0,.ls 0 l.length),(1,.ls 1 m.length),(5,.pv (iV ((k+1:Nat):Int)))]) ([(0,0,zrB l),(1,0,zrB m)]) e tm2 hp2):Rl 2 2 200 0 26 2 ([(0,.ls 0 l.length),(1,.ls 1 m.length),(5,.pv (iV (k:Int)))]) ([(0,0,zrB l),(1,0,zrB m)]) e tm2 hp2:=
 RunsL.next [] 300 [.t true,.r (.bool true),.r (.bool true),.k,Re hs]
  (Ro (A6 hlt hil (qcM hx) him (qcM hy) hs tI)) r
theorem qhy (hx:l[k]?=some false) (hy:m[k]?=some false) (hil:0≤(k:Int)∧(k:Int)<(l.length:Int)) (him:0≤(k:Int)∧(k:Int)<(m.length:Int)) (hlt:decide ((k:Int)<(l.length:Int))=true) (hs:iV (IntKind.i64.wrap ((k:Int)+1))=iV (((k+1:Nat):Int))) {e:Exit} {tm2:TmL} {hp2:HpL}
 (r:Rl 2 2 200 0 26 2 ([(0,.ls 0 l.length),(1,.ls 1 m.length),(5,.pv (iV ((k+1:Nat):Int)))]) ([(0,0,zrB l),(1,0,zrB m)]) e tm2 hp2):Rl 2 2 200 0 26 2 ([(0,.ls 0 l.length),(1,.ls 1 m.length),(5,.pv (iV (k:Int)))]) ([(0,0,zrB l),(1,0,zrB m)]) e tm2 hp2:=
 RunsL.next [] 300 [.t true,.r (.bool false),.r (.bool false),.k,Re hs]
  (Ro (A6 hlt hil (qcM hx) him (qcM hy) hs tI)) r
theorem qCs (hge:decide ((k:Int)<(l.length:Int))=false):Rl 2 2 200 0 26 2 ([(0,.ls 0 l.length),(1,.ls 1 m.length),(5,.pv (iV (k:Int)))]) ([(0,0,zrB l),(1,0,zrB m)]) (.exit 0) ([]) ([]):=
 RunsL.stop [] 300 [.t false] (fun h=>by cases h)
  (Ro (Ai hge tI))
theorem quQ (hl:(!((l.length:Int)==(m.length:Int)))=false) (r0:Rl 2 2 200 0 26 2 ([(0,.ls 0 l.length),(1,.ls 1 m.length),(5,.pv (iV ((0:Nat):Int)))]) ([(0,0,zrB l),(1,0,zrB m)]) (.exit 0) ([]) ([])) :
 Fn 200 2 [.ls 0 l.length,.ls 1 m.length] [(0,0,zrB l),(1,0,zrB m)] (.pv (.bool true)) 0 []:=
 Fz [] [.t false,Lf r0]
  tI (Ai hl (Lo r0 [] tI))
theorem qIu {u2 f2:List Int} {b2:List Bool} (hu:Fn 149 2 [.ls 0 u.length,.ls 1 u2.length] [(0,0,zrI u),(1,0,zrI u2)] (.pv (.bool true)) 0 []) (hb:Fn 200 2 [.ls 0 b.length,.ls 1 b2.length] [(0,0,zrB b),(1,0,zrB b2)] (.pv (.bool true)) 0 []) (hf:Fn 149 2 [.ls 0 fr.length,.ls 1 f2.length] [(0,0,zrI fr),(1,0,zrI f2)] (.pv (.bool true)) 0 []) :
 Fn 148 6 [.ag [.ls 0 u.length,.ls 1 b.length,.ls 2 fr.length],.ag [.ls 3 u2.length,.ls 4 b2.length,.ls 5 f2.length]] [(0,0,zrI u),(1,0,zrB b),(2,0,zrI fr),(3,0,zrI u2),(4,0,zrB b2),(5,0,zrI f2)] (.pv (.bool true)) 0 []:=
 Fz [] [Cf hu [0,3],Cf hb [1,4],Cf hf [2,5]]
  tI (Co hu [0,3] 8 (Co hb [1,4] 8 (Co hf [2,5] 8 tI)))
end Go.Proofs.YtkckcgpmnipnaaaGreat
