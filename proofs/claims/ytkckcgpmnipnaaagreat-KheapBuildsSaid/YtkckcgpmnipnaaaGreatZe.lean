/-
  What package slot's functions return, for a table whatever. Conditions: none.
-/
import Derived.Test.YtkckcgpmnipnaaaGreatW31
import Derived.Test.YtkckcgpmnipnaaaGreatW21
namespace Go.Proofs.YtkckcgpmnipnaaaGreat
set_option maxRecDepth 100000
open Go.RowKit
theorem qb6 {k b o:Nat} {s t:SV} (h:qaf [(k,0,s)] b o=some t):b=k∧o=0∧t=s:=by
 rw[qag] at h
 split at h
 ·rename_i e;cases h;exact⟨e.1.symm,e.2.symm,rfl⟩
 ·cases h
theorem qdd {W w':World} {β:Bl} {k:Nat} {pre:List (Nat×Nat×SV)} {u:Value} {e:TypeId} {es n:Nat} {xs:List Value} (H:HRel W k β pre W) (hd:β.dom k) (hg:Gr W w') (ho:w'.ownsRow W.heap.size e es u n xs) (h1:∀ v∈xs,v.oneCell'=true) :
 HRel W k (β.setG k u) [(k,0,.row e es n xs)] w':=by
 refine⟨hg,fun b r h=>Nat.lt_of_lt_of_le (H.live b r h) hg.size,H.inj,fun b r hb h=>?_,fun b r h=>?_,fun b o sv hl hs=>?_,fun b o e es n xs hl=>?_,fun b o e es n xs c o' e' es' n' xs' u v hl hl' h1 h2 hne=>?_,fun b o xs hl=>?_⟩
 ·have h':β b=some r:=h
  rw[(hd b hb).1] at h';cases h'
 ·have hb:b≠k:=fun e=>by
   subst e
   have h':β b=some r:=h
   rw[(hd b (Nat.le_refl _)).1] at h';cases h'
  unfold Bl.setG
  simp only[if_neg hb]
  exact H.sep b r h
 ·obtain⟨_,_,rfl⟩:=qb6 hl;cases hs
 ·obtain⟨rfl,_,e1⟩:=qb6 hl
  cases e1
  exact⟨u,Bl.setG_same β b u,qdF ho,h1,fun h=>by omega,fun _=>ho,fun _ c r hc hu=>by
   have h1:=(qat ho r hu).1
   have h2:=H.live c r hc
   omega⟩
 ·exact (hne ((qb6 hl).1.trans (qb6 hl').1.symm)).elim
 ·obtain⟨_,_,e1⟩:=qb6 hl;cases e1
theorem qbA {β:Bl} {k:Nat} {u:Value} (hd:β.dom k):(β.setG k u).dom (k+1):=fun b hb=>⟨(hd b (by omega)).1,by unfold Bl.setG;simp only[if_neg (show b≠k by omega)];exact (hd b (by omega)).2⟩
theorem qd6 (w:World):HRel w 0 Bl.no [] w:=⟨Gr.refl w,fun _ _ h=>(by cases h),fun _ _ _ h=>(by cases h),fun _ _ _ h=>(by cases h),fun _ _ h=>(by cases h),fun _ _ _ h=>(by cases h),fun _ _ _ _ _ _ h=>(by cases h),fun _ _ _ _ _ _ _ _ _ _ _ _ _ _ h=>(by cases h),fun _ _ _ h=>(by cases h)⟩
theorem qjR {f:FuncId} {e:TypeId} {n:Nat} {xs:List Value} (hx:xs.length=n)
 (pth:0<n→Fn f 1 [.ls 0 n] [(0,0,.row e 1 n xs)] (.ls 1 n) 1 [(1,0,.row e 1 n xs)])
 (pe:∀ ad c,Fn f 0 [.pv (.slice (some ad) 0 c)] [] (.ls 0 0) 1 [(0,0,.row e 1 0 [])])
 (pn:∀ c,Pure Tryz.prog f #[.slice none 0 c] (.slice none 0 0)):Fn f 1 [.ls 0 n] [(0,0,.row e 1 n xs)] (.ls 1 n) 1 [(1,0,.row e 1 n xs)]:=by
 rcases Nat.eq_zero_or_pos n with h | h
 ·subst h
  obtain rfl:=List.eq_nil_of_length_eq_zero hx
  intro w β us hH hd hargs
  match us,hargs with
  | [v],⟨⟨_,a,c,hv⟩,_⟩=>
   have hd1:=hd 1 (Nat.le_refl _)
   cases a with
   | none=>
    subst hv
    refine (pn c w).mono fun e' w' ⟨he,hg⟩=>?_
    have ho:w'.ownsRow w.heap.size e 1 (.slice none 0 0) 0 []:=⟨rfl,Or.inl ⟨rfl,rfl⟩⟩
    exact⟨_,β.setG 1 (.slice none 0 0),he,Bl.le_setG hd1.1 hd1.2,⟨Bl.setG_same _ _ _,none,0,rfl⟩,qdd hH hd hg ho (fun v hv=>by cases hv),qbA hd⟩
   | some ad=>
    subst hv
    refine (pe ad c w Bl.no [.slice (some ad) 0 c] (qd6 w) (fun _ _=>⟨rfl,rfl⟩) ⟨rfl,tI⟩).mono fun e' w' ⟨v,β',he,_,⟨hx,a',c',hv⟩,hh,_⟩=>?_
    obtain⟨u,hu,hr⟩:=hh.rows 0 0 _ _ _ _ rfl
    rw[hx] at hu
    cases hu
    exact⟨_,β.setG 1 v,he,Bl.le_setG hd1.1 hd1.2,⟨Bl.setG_same _ _ _,a',c',hv⟩,qdd hH hd hh.gr (hr.own (Nat.le_refl _)) (fun v hv=>by cases hv),qbA hd⟩
 ·exact pth h
theorem qGv {P:Program} {f:FuncId} {e e2:TypeId} {es es2 n n' k n2:Nat} {xs ys:List Value}
 (h:FnL P f 1 [.ls 0 n'] [(0,0,.row e es n' ((xs.drop (k*es)).take (n'*es)))] (.ls 1 n2) 1 [(1,0,.row e2 es2 n2 ys)]) (hk:k+n'≤n) :
 FnL P f 1 [.lq 0 es k n'] [(0,0,.row e es n xs)] (.ls 1 n2) 1 [(1,0,.row e2 es2 n2 ys)]:=by
 intro w β us H hd hi
 obtain⟨u,hu,R⟩:=H.rows 0 0 e es n xs rfl
 match us,hi with
 | [v],⟨⟨a,nn,c,a',c',hg,hle,hc',hv,hp⟩,_⟩=>
 subst hv
 have hu':u=.slice a nn c:=by rw[hu] at hg;exact Option.some.inj hg
 subst hu'
 obtain⟨hl,a2,c2,he,hnc,hrd⟩:=R.rd
 have e1:=he
 simp only[Value.slice.injEq] at e1
 obtain⟨rfl,rfl,rfl⟩:=e1
 have hm:(k+n')*es≤nn*es:=Nat.mul_le_mul_right es hk
 rw[Nat.add_mul] at hm
 have hlen:((xs.drop (k*es)).take (n'*es)).length=n'*es:=by rw[List.length_take,List.length_drop];omega
 have hrd':Rd w es (.slice a' n' c') n' ((xs.drop (k*es)).take (n'*es)):=by
  rcases Nat.eq_zero_or_pos n' with h0 | h0
  ·subst h0
   refine⟨hlen,a',c',rfl,hc',fun j v hj=>?_⟩
   rw[Nat.zero_mul,List.take_zero] at hj
   simp at hj
  ·obtain⟨r,o,ea,ea'⟩:=hp h0
   subst ea ea'
   refine⟨hlen,_,_,rfl,hc',fun j v hj=>⟨r,o+k*es,rfl,?_⟩⟩
   have hj':xs[k*es+j]?=some v:=by
    rw[List.getElem?_take] at hj
    split at hj
    ·rw[List.getElem?_drop] at hj;exact hj
    ·cases hj
   obtain⟨r',o',er,hcell⟩:=hrd _ v hj'
   cases er
   rw[show o+k*es+j=o+(k*es+j) by omega]
   exact hcell
 let β1:Bl:=⟨β.f,fun b=>if b=0 then some (.slice a' n' c') else none⟩
 have H1:HRel w 1 β1 [(0,0,.row e es n' ((xs.drop (k*es)).take (n'*es)))] w:=by
  refine⟨H.gr,H.live,H.inj,H.new,fun b r' hb'=>?_,fun b o' sv hs hr=>?_,fun b o' e' es' n2' xs' hs=>?_,fun b o' e' es' n2' xs' c o2 e2' es2' n3 xs3 u' v' hs _ hlo=>?_,fun b o' xs' hs=>?_⟩
  ·by_cases h:b=0
   ·subst h
    have:=H.sep 0 r' hb'
    rw[hu] at this;cases this
   ·exact if_neg h
  ·obtain⟨_,_,rfl⟩:=qb6 hs;cases hr
  ·obtain⟨rfl,_,e1⟩:=qb6 hs
   cases e1
   exact⟨_,rfl,hrd',fun v hv=>R.one v (List.mem_of_mem_drop (List.mem_of_mem_take hv)),fun _ hx j hj=>hrd'.lt hx j hj,fun hlo=>by omega,fun hlo=>by omega⟩
  ·have:=(qb6 hs).1;omega
  ·obtain⟨_,_,e1⟩:=qb6 hs;cases e1
 have hdom:β1.dom 1:=fun b hb=>⟨(hd b hb).1,if_neg (by omega)⟩
 refine (h w β1 [.slice a' n' c'] H1 hdom ⟨⟨rfl,_,_,rfl⟩,trivial⟩).mono fun x w' hh=>?_
 obtain⟨v',β2,hx,hle2,⟨g1,g2⟩,HP,hd2⟩:=hh
 have hb0:β.f 0=none:=by
  cases hb0:β.f 0 with
  | none=>rfl
  | some r'=>have:=H.sep 0 r' hb0;rw[hu] at this;cases this
 have hb2:β2.f 0=none:=(hle2 0 (Or.inr (fun h=>by have e:β1.g 0=some _:=rfl;rw[e] at h;cases h))).1.trans hb0
 let β3:Bl:=⟨β2.f,fun b=>if b=0 then β.g 0 else β2.g b⟩
 refine⟨v',β3,hx,fun b hb=>?_,⟨g1,g2⟩,?_,fun b hb=>⟨(hd2 b hb).1,(if_neg (by omega)).trans (hd2 b hb).2⟩⟩
 ·by_cases h:b=0
  ·subst h;exact⟨hb2.trans hb0.symm,rfl⟩
  ·have:=hd b (by omega)
   rcases hb with hb | hb
   ·exact (hb this.1).elim
   ·exact (hb this.2).elim
 ·refine⟨HP.gr,HP.live,HP.inj,HP.new,fun b r' hb'=>?_,fun b o' sv hs hr=>?_,fun b o' e' es' n2' xs' hs=>?_,fun b o' e' es' n2' xs' c o2 e2' es2' n3 xs3 u' v' hs hs2 _ _ hne=>?_,fun b o' xs' hs=>?_⟩
  ·by_cases h:b=0
   ·subst h;rw[show β3.f 0=none from hb2] at hb';cases hb'
   ·exact (if_neg h).trans (HP.sep b r' hb')
  ·obtain⟨_,_,rfl⟩:=qb6 hs;cases hr
  ·obtain⟨rfl,rfl,_⟩:=qb6 hs
   obtain⟨u',g1,g2⟩:=HP.rows 1 0 e' es' n2' xs' hs
   exact⟨u',g1,g2.rd,g2.one,g2.low,g2.own,g2.apart⟩
  ·exact (hne ((qb6 hs).1.trans (qb6 hs2).1.symm)).elim
  ·obtain⟨_,_,e1⟩:=qb6 hs;cases e1
theorem qco {l:List Int} (hn:l.length≤1000000):Fn 63 1 [.ls 0 l.length] [(0,0,zrI l)] (.ls 1 l.length) 1 [(1,0,zrI l)]:=
 qjR (qaG l) (fun h=>qrr h (by omega)) (fun ad c=>qF9) (fun c=>qxm)
theorem qjG {l:List Int} (hn:l.length≤1000000):Fn 347 1 [.ls 0 l.length] [(0,0,zrI l)] (.ls 1 l.length) 1 [(1,0,zrI l)]:=
 qjR (qaG l) (fun h=>qsr h (by omega)) (fun ad c=>qEn) (fun c=>qwM)
theorem qiJ {l:List Bool} (hn:l.length≤1000000):Fn 348 1 [.ls 0 l.length] [(0,0,zrB l)] (.ls 1 l.length) 1 [(1,0,zrB l)]:=
 qjR (qeg l) (fun h=>qtv h (by omega)) (fun ad c=>qGt) (fun c=>qx0)
theorem qn2 {l:List Int} {m:Nat} (hm:m≤l.length) (hn:l.length≤1000000):Fn 63 1 [.lq 0 1 0 m] [(0,0,zrI l)] (.ls 1 m) 1 [(1,0,.row 3 1 m (ziV (l.take m)))]:=by
 have e0:(l.take m).length=m:=by rw[List.length_take];omega
 have h:=qco (l:=l.take m) (by omega)
 simp only[zrI] at h
 rw[e0] at h
 refine qGv ?_ (by omega)
 rw[Nat.zero_mul,List.drop_zero,Nat.mul_one]
 have e1:(ziV l).take m=ziV (l.take m):=by simp[ziV,List.map_take]
 rw[e1]
 exact h
section
variable {u fr:List Int} {b:List Bool}
structure Live (u:List Int) (b:List Bool) (hi hu:Int):Prop where
 lo:0≤hi
 lt:hi<(u.length:Int)
 used:b[hi.toNat]?=some true
 use:u[hi.toNat]?=some hu
def qbu (u:List Int) (b:List Bool) (fr:List Int):Option (List Int×List Bool×List Int×Int×Int):=
 match fr.getLast? with
 | none=>none
 | some x=>match u[x.toNat]? with
  | none=>none
  | some y=>if y=1000000 then none else some (u.set x.toNat (y+1),b.set x.toNat true,fr.dropLast,x,y+1)
theorem qba {u' fr':List Int} {b':List Bool} {x z:Int} (h:qbu u b fr=some (u',b',fr',x,z)):∃ y,fr.getLast?=some x∧u[x.toNat]?=some y∧y≠1000000∧u'=u.set x.toNat z∧b'=b.set x.toNat true∧fr'=fr.dropLast∧z=y+1:=by
 unfold qbu at h
 split at h
 ·cases h
 ·rename_i x' hx
  split at h
  ·cases h
  ·rename_i y hy
   split at h
   ·cases h
   ·rename_i hne
    simp only[Option.some.injEq,Prod.mk.injEq] at h
    obtain⟨rfl,rfl,rfl,rfl,rfl⟩:=h
    exact⟨y,hx,hy,hne,rfl,rfl,rfl,rfl⟩
theorem qbk {l:List Int} {x:Int} (h:l.getLast?=some x):l=l.dropLast++[x]∧l[l.length-1]?=some x∧1≤l.length:=by
 have hne:l≠[]:=fun e=>by subst e;cases h
 rw[List.getLast?_eq_some_getLast hne] at h
 cases h
 refine⟨(List.dropLast_concat_getLast hne).symm,?_,List.length_pos_iff.2 hne⟩
 rw[List.getLast_eq_getElem]
 exact List.getElem?_eq_getElem _
theorem qb4:∀ {f:List Int} {g g':List Bool},qbr g f=some g'→f.length+g'.count true=g.count true
 | [],g,g',h=>by cases h;simp
 | x::r,g,g',h=>by
  unfold qbr at h
  split at h
  ·rename_i hx
   have:=qb4 h
   have hk:x.toNat<g.length:=by omega
   have hg:g[x.toNat]=true:=by
    have:=hx.2.2
    rw[List.getElem?_eq_getElem hk] at this
    exact Option.some.inj this
   have hm:0<g.count true:=List.count_pos_iff.2 (by rw[← hg];exact List.getElem_mem hk)
   rw[List.count_set hk,hg] at this
   simp at this ⊢
   omega
  ·cases h
theorem Vd.frlen (h:Vd u b fr):fr.length≤200:=by
 have hf:qeL b fr=true:=by
  have:=qcl.2 h
  unfold qcJ at this
  simp only[Bool.and_eq_true] at this
  exact this.2
 unfold qeL at hf
 split at hf
 ·rename_i g hg
  have:=qb4 hg
  have:=List.count_le_length (a:=true) (l:=b.map not)
  rw[List.length_map,h.len] at this
  have:=h.le
  omega
 ·cases hf
theorem Vd.take {u' fr':List Int} {b':List Bool} {x z:Int} (h:Vd u b fr) (ht:qbu u b fr=some (u',b',fr',x,z)):Vd u' b' fr':=by
 obtain⟨y,h1,h2,h3,rfl,rfl,rfl,rfl⟩:=qba ht
 obtain⟨e,_,_⟩:=qbk h1
 have hx:x∈fr:=by rw[e];simp
 obtain⟨r1,r2⟩:=h.rng x hx
 have hnd:=h.nod
 rw[e,List.nodup_append] at hnd
 obtain⟨n1,_,n2⟩:=hnd
 have hxn:x∉fr.dropLast:=fun hm=>n2 x hm x (by simp) rfl
 have hk:x.toNat<u.length:=by omega
 have hbk:x.toNat<b.length:=by rw[h.len];omega
 have hy:=h.use x.toNat y _ h2 (List.getElem?_eq_getElem hbk)
 have hy0:0≤y:=by have:=hy.1;split at this<;>omega
 refine⟨by rw[List.length_set];exact h.pos,by rw[List.length_set];exact h.le,by rw[List.length_set,List.length_set];exact h.len,fun k v c hv hc=>?_,fun v hv=>?_,n1,fun k c hc=>?_⟩
 ·rw[List.getElem?_set] at hv hc
  by_cases ek:x.toNat=k
  ·rw[if_pos ek,if_pos (by omega)] at hv hc
   cases hv;cases hc
   simp;omega
  ·rw[if_neg ek] at hv hc
   exact h.use k v c hv hc
 ·rw[List.length_set];exact h.rng v (by rw[e];simp[hv])
 ·rw[List.getElem?_set] at hc
  by_cases ek:x.toNat=k
  ·rw[if_pos ek,if_pos (by omega)] at hc
   cases hc
   simp only[Bool.true_eq_false,false_iff]
   rw[show (k:Int)=x by omega]
   exact hxn
  ·rw[if_neg ek] at hc
   rw[h.part k c hc]
   conv=>lhs;rw[e]
   simp only[List.mem_append,List.mem_singleton]
   constructor
   ·rintro (hm | hm)
    ·exact hm
    ·omega
   ·exact Or.inl
def qbH (n:Nat):List Int:=(List.range n).map fun (k:Nat)=>(n:Int)-1-(k:Int)
theorem Vd.new {n:Nat} (h1:1≤n) (h2:n≤200):Vd (List.replicate n 0) (List.replicate n false) (qbH n):=by
 refine⟨by simpa using h1,by simpa using h2,by simp,fun k x c hx hc=>?_,fun x hx=>?_,?_,fun k c hc=>?_⟩
 ·have e1:=List.eq_of_mem_replicate (List.mem_of_getElem? hx)
  have e2:=List.eq_of_mem_replicate (List.mem_of_getElem? hc)
  subst e1;subst e2;simp
 ·obtain⟨k,hk,rfl⟩:=List.mem_map.1 hx
  have:=List.mem_range.1 hk
  simp;omega
 ·unfold qbH
  rw[List.nodup_iff_pairwise_ne,List.pairwise_map]
  exact (List.nodup_range (n:=n)).imp_of_mem fun ha hb hab e=>by omega
 ·have e2:=List.eq_of_mem_replicate (List.mem_of_getElem? hc)
  subst e2
  have hk:k<n:=by have:=(List.getElem?_eq_some_iff.1 hc).1;simpa using this
  simp only[true_iff]
  exact List.mem_map.2 ⟨n-1-k,List.mem_range.2 (by omega),by omega⟩
theorem qaN (n:Nat):(qbH n).length=n:=by simp[qbH]
theorem qCi {n:Nat} (h1:1≤n) (h2:n≤200):Fn 170 0 [.pv (iV (n:Int))] [] (.tu [.ag [.ls 0 n,.ls 1 n,.ls 2 n],.one (.pv (iV 0))]) 3 [(0,0,.row 3 1 n (ziV (List.replicate n 0))),(1,0,.row 4 1 n (zbV (List.replicate n false))),(2,0,.row 3 1 n (ziV (qbH n)))]:=by
 refine qEO (qtW (by simp;omega) (by simp;omega)) (by omega) (by omega) ?_
 let g:Nat→List Int:=fun k=>(qbH n).take k++List.replicate (n-k) 0
 have e0:List.replicate n 0=g 0:=by simp[g]
 have e1:qbH n=g n:=by simp[g,List.take_of_length_le (Nat.le_of_eq (qaN n))]
 rw[e1]
 conv in (zbV _)=>skip
 have key:=RunsL.roundsZ (P:=Tryz.prog) (lo:=0) (fr:=0) (c:=qga Tryz.prog 170 0) (n:=31) (nb:=5)
  (fun k=>[(0,.pv (iV (n:Int))),(2,.pp 0 0),(4,.pp 4 0),(17,.pv (iV (n:Int))),(18,.pv (iV (k:Int)))])
  (fun k=>[(0,0,.pv (.slice none 0 0)),(0,1,.pv (.slice none 0 0)),(0,2,.pv (.slice none 0 0)),(4,0,.ls 1 n),(4,1,.ls 2 n),(4,2,.ls 3 n),(1,0,.row 3 1 n (ziV (List.replicate n 0))),(2,0,.row 4 1 n (zbV (List.replicate n false))),(3,0,.row 3 1 n (ziV (g k)))])
  (e:=.exit 0) (tm2:=[(2,.pp 0 0),(4,.pp 4 0)]) (hp2:=[(0,0,.pv (.slice none 0 0)),(0,1,.pv (.slice none 0 0)),(0,2,.pv (.slice none 0 0)),(4,0,.ls 1 n),(4,1,.ls 2 n),(4,2,.ls 3 n),(1,0,.row 3 1 n (ziV (List.replicate n 0))),(2,0,.row 4 1 n (zbV (List.replicate n false))),(3,0,.row 3 1 n (ziV (g n)))])
  (N:=n) n 0 (by omega) (fun k _ hk r=>?_) (qzP (by simp))
 ·rw[show g 0=List.replicate n 0 from e0.symm] at key
  exact key
 ·have hg:k<(g k).length:=by simp[g,qaN];omega
  have hn:(g k).set k ((n:Int)-1-(k:Int))=g (k+1):=by
   have hd:(qbH n)[k]?=some ((n:Int)-1-(k:Int)):=by simp[qbH,hk]
   simp only[g]
   rw[List.set_append_right _ _ (by simp;omega),List.length_take,qaN,show min k n=k by omega,Nat.sub_self,show n-k=(n-(k+1))+1 by omega,List.replicate_succ,List.set_cons_zero,List.take_add_one,hd]
   simp
  rw[← hn] at r
  exact qwr hg (by omega) (by simp;omega) (qbl (by omega) (by omega)) (qbl (by omega) (by omega)) (qaB (by omega)) r
theorem qbY (h:Vd u b fr):Fn 224 3 [slA u b fr] (slP u b fr) (.pv (iV 0)) 0 []:=by
 have:=qgs (u:=u) (b:=b) (f:=fr) (by have:=h.frlen;omega)
 rwa [if_pos (qcl.2 h)] at this
theorem qlX (hf:fr.length≤1000000) (h:¬ Vd u b fr):Fn 224 3 [slA u b fr] (slP u b fr) (.pv (iV 8)) 0 []:=by
 have:=qgs (u:=u) (b:=b) (f:=fr) hf
 rwa [if_neg (fun e=>h (qcl.1 e))] at this
abbrev tkE (e:Int):SV:=.pv (.tuple #[.agg #[.slice none 0 0,.slice none 0 0,.slice none 0 0],.agg #[iV 0,iV 0],iV e])
theorem qn6 (h:Vd u b fr) (ht:qbu u b fr=none):Fn 315 3 [slA u b fr] (slP u b fr) (tkE 18) 0 []:=by
 have hfl:=h.frlen
 cases hl:fr.getLast? with
 | none=>
  have:fr=[]:=List.getLast?_eq_none_iff.1 hl
  subst this
  exact qxl (qbY h) (by rw[show ((([]:List Int).length:Nat):Int)-1 = -1 by simp];exact qbl (by omega) (by omega))
 | some x=>
  obtain⟨e,h1,h2⟩:=qbk hl
  have hx:x∈fr:=by rw[e];simp
  obtain⟨r1,r2⟩:=h.rng x hx
  have hk:x.toNat<u.length:=by omega
  have hy:u[x.toNat]?=some u[x.toNat]:=List.getElem?_eq_getElem hk
  unfold qbu at ht
  rw[hl] at ht
  simp only[hy] at ht
  split at ht
  ·rename_i hw
   exact qvR (m:=fr.length-1) (qbY h) (by rw[show ((fr.length:Int)-1)=((fr.length-1:Nat):Int) by omega];exact qbl (by omega) (by omega)) (by simp) (by omega) h1 ⟨r1,r2⟩ hy (by simpa using hw)
  ·cases ht
theorem qns {u' fr':List Int} {b':List Bool} {x z:Int} (h:Vd u b fr) (ht:qbu u b fr=some (u',b',fr',x,z)) :
 Fn 315 3 [slA u b fr] (slP u b fr) (.tu [.ag [.ls 3 u'.length,.ls 4 b'.length,.ls 5 fr'.length],.one (.pv (.agg #[iV x,iV z])),.one (.pv (iV 0))]) 3 [(3,0,zrI u'),(4,0,zrB b'),(5,0,zrI fr')]:=by
 have hfl:=h.frlen
 have hle:=h.le
 obtain⟨y,h1,h2,h3,rfl,rfl,rfl,rfl⟩:=qba ht
 obtain⟨e,hg,h4⟩:=qbk h1
 have hx:x∈fr:=by rw[e];simp
 obtain⟨r1,r2⟩:=h.rng x hx
 have hbk:x.toNat<b.length:=by rw[h.len];omega
 have hy:=h.use x.toNat y _ h2 (List.getElem?_eq_getElem hbk)
 have hy0:0≤y:=by have:=hy.1;split at this<;>omega
 have ef:fr.dropLast=fr.take (fr.length-1):=List.dropLast_eq_take
 have el:(fr.take (fr.length-1)).length=fr.length-1:=by rw[List.length_take];omega
 simp only[zrI,zrB,List.length_set]
 rw[ef,el]
 have hbl:b.length≤200:=by rw[h.len];exact hle
 refine qFF (m:=fr.length-1) (y:=y) (qbY h) (by rw[show ((fr.length:Int)-1)=((fr.length-1:Nat):Int) by omega];exact qbl (by omega) (by omega)) (by simp) (by omega) hg ⟨r1,r2⟩ h2 (by simpa using h3) (qbl (by omega) (by omega)) ?_ ?_ (by omega) (qn2 (by omega) (by omega))
 ·exact wti ⟨r1,r2⟩ (by omega) (qjG (by omega))
 ·exact qGV ⟨r1,by rw[h.len];exact r2⟩ hbk (qiJ (by omega))
end
end Go.Proofs.YtkckcgpmnipnaaaGreat
