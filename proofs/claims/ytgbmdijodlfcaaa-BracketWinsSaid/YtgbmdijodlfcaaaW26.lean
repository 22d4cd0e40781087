/-
  Joined: Kj, Za, Zd, Ze. Conditions: none.
-/
import Derived.Test.YtgbmdijodlfcaaaW25
import Derived.Test.YtgbmdijodlfcaaaW21
import Derived.Test.YtgbmdijodlfcaaaSxJ
import Derived.Test.YtgbmdijodlfcaaaProg
namespace Go.Proofs.Ytgbmdijodlfcaaa
set_option maxRecDepth 100000
open Go.RowKit
def names (n:Int) (p:Pt):Bool:=decide (p.a=n∨p.b=n)
theorem qih {s:List Pt} (hs:Val s) {p q:Pt} (hp:p∈s) (hq:q∈s) (h:p.id=q.id):p=q:=by
 obtain⟨i,hi,rfl⟩:=List.getElem_of_mem hp
 obtain⟨j,hj,rfl⟩:=List.getElem_of_mem hq
 exact (qo8 hs.up (List.getElem?_eq_getElem hi) (List.getElem?_eq_getElem hj) h).2
theorem qjF {s:List Pt} (hs:Val s) {q:Pt} (hq:q∈s) {i:Int} (h:q.id=i) (ok:Bool):qaN Try.prog 77 (byV s) (iV i) ok (if ok=true then .tuple #[ptV q,.bool true] else ptV q):=by
 subst h
 exact qp2 hq (fun r hr e=>qih hs hr hq e) ok
theorem qlT {s:List Pt} {i:Int} (h:¬ ∃ q∈s,q.id=i):qaN Try.prog 77 (byV s) (iV i) true (.tuple #[qad 0 0 0,.bool false]):=qqK (fun q hq e=>h ⟨q,hq,e⟩) true
section
variable {tn td:Int} (htn:I64 tn) (htd:I64 td)
end
end Go.Proofs.Ytgbmdijodlfcaaa

namespace Go.Proofs.Ytgbmdijodlfcaaa
set_option maxRecDepth 100000
open Go.RowKit
theorem qib {P:Program} (n:Nat) {f:FuncId} {args:List Value} (ch:List Ch) {v:Value} {T:Prop} (ht:v=v∧T) (e:qqf v (qqr P n f args ch)=(v=v∧T)):Pure P f args.toArray v:=qjs n ch (e▸ht)
def ziV (l:List Int):List Value:=l.map fun x=>iV x
abbrev zrI (l:List Int):SV:=.row 3 1 l.length (ziV l)
theorem qdT (l:List Int):(ziV l).length=l.length:=by simp[ziV]
theorem qbO {l:List Int} {k:Nat} {x:Int} (h:l[k]?=some x):qix (ziV l) (0*1+k*1) [iV x]:=by
 intro j v hj
 match j,hj with
 | 0,hj=>cases hj;simp[ziV,h]
 | j+1,hj=>simp at hj
theorem qpf {l:List Int} {z:Int} {x:Int} (h:l[z.toNat]?=some x):qix (ziV l) (0*1+z.toNat*1) [iV x]:=qbO h
theorem qqo (l:List Int) (k:Nat) (x:Int) (h:k<l.length):ziV (l.set k x)=qhT (ziV l) (0*1+k*1) [iV x]:=by
 rw[Nat.zero_mul,Nat.zero_add,Nat.mul_one]
 unfold qhT ziV
 rw[List.map_set,List.set_eq_take_append_cons_drop,if_pos (by simpa using h)]
 simp
theorem qgF (l:List Int) (k:Nat) (h:k<l.length):0*1+k*1+1≤(ziV l).length:=by rw[qdT];omega
theorem qlE:∀ n:Nat,qc3 [iV 0] n=ziV (List.replicate n 0)
 | 0=>rfl
 | n+1=>by rw[qc3,qlE n];rfl
theorem qd1 (a b:List Int):ziV (a++b)=ziV a++ziV b:=by simp[ziV]
theorem qeX (l:List Int):∀ v∈ziV l,v.oneCell'=true:=by
 intro v hv
 obtain⟨x,_,rfl⟩:=List.mem_map.1 hv
 rfl
theorem RunsL.roundsZ {P:Program} {lo fr:Nat} {c:Code} {n nb:Nat} (tm:Nat→List (Nat×SV)) (hp:Nat→List (Nat×Nat×SV)) {e:Exit} {tm2:TmL} {hp2:HpL} {N:Nat} :
 ∀ (d i:Nat),i+d=N→(∀ j,i≤j→j<N→RunsL P lo fr c n nb (tm (j+1)) (hp (j+1)) e tm2 hp2→RunsL P lo fr c n nb (tm j) (hp j) e tm2 hp2)→RunsL P lo fr c n nb (tm N) (hp N) e tm2 hp2→RunsL P lo fr c n nb (tm i) (hp i) e tm2 hp2
 | 0,i,h,_,last=>by
  have:i=N:=by omega
  subst this;exact last
 | d+1,i,h,step,last=>step i (Nat.le_refl i) (by omega) (RunsL.roundsZ tm hp d (i+1) (by omega) (fun j h1 h2=>step j (by omega) h2) last)
theorem qpP {n:Int} (h0 : -9223372036854775808≤n) (h1:n≤9223372036854775807):IntKind.i64.wrap n=n:=by
 rw[IntKind.wrap_i64];omega
theorem qc4 {n:Int} (h0 : -9223372036854775808≤n) (h1:n≤9223372036854775807):iV (IntKind.i64.wrap n)=iV n:=by rw[qpP h0 h1]
def qc1:List Bool→List Int→Option (List Bool)
 | g,[]=>some g
 | g,x::r=>if 0≤x∧x<(g.length:Int)∧g[x.toNat]?=some true then qc1 (g.set x.toNat false) r else none
structure Vd (u:List Int) (b:List Bool) (f:List Int):Prop where
 pos:1≤u.length
 le:u.length≤200
 len:b.length=u.length
 use:∀ (k:Nat) (x:Int) (c:Bool),u[k]?=some x→b[k]?=some c→(if c=true then 1 else 0)≤x∧x≤1000000
 rng:∀ x∈f,0≤x∧x<(u.length:Int)
 nod:f.Nodup
 part:∀ (k:Nat) (c:Bool),b[k]?=some c→(c=false↔(k:Int)∈f)
theorem qdG:∀ {f:List Int} {g g':List Bool},qc1 g f=some g'→(∀ x∈f,0≤x∧x<(g.length:Int)∧g[x.toNat]?=some true)∧f.Nodup∧∀ k:Nat,g'[k]?=if (k:Int)∈f then some false else g[k]?
 | [],g,g',h=>by cases h;exact⟨by simp,by simp,by simp⟩
 | x::r,g,g',h=>by
  unfold qc1 at h
  split at h
  ·rename_i hx
   obtain⟨h1,h2,h3⟩:=qdG h
   have hn:x∉r:=fun hm=>by
    have:=(h1 x hm).2.2
    rw[List.getElem?_set] at this
    rw[if_pos rfl] at this
    split at this<;>cases this
   refine⟨fun y hy=>?_,List.nodup_cons.2 ⟨hn,h2⟩,fun k=>?_⟩
   ·rcases List.mem_cons.1 hy with rfl | hy
    ·exact hx
    ·obtain⟨a1,a2,a3⟩:=h1 y hy
     rw[List.length_set] at a2
     refine⟨a1,a2,?_⟩
     rw[List.getElem?_set] at a3
     split at a3
     ·split at a3<;>cases a3
     ·exact a3
   ·rw[h3]
    by_cases hk:(k:Int)∈r
    ·rw[if_pos hk,if_pos (List.mem_cons_of_mem _ hk)]
    ·rw[if_neg hk,List.getElem?_set]
     by_cases e:(k:Int)=x
     ·rw[if_pos (show x.toNat=k by omega),if_pos (by omega),if_pos (by rw[e];exact List.mem_cons_self)]
     ·rw[if_neg (show ¬ x.toNat=k by omega),if_neg (fun hm=>by rcases List.mem_cons.1 hm with h | h;exact e h;exact hk h)]
  ·cases h
theorem qed:∀ {f:List Int} {g:List Bool},(∀ x∈f,0≤x∧x<(g.length:Int)∧g[x.toNat]?=some true)→f.Nodup→∃ g',qc1 g f=some g'
 | [],g,_,_=>⟨g,rfl⟩
 | x::r,g,h,hn=>by
  obtain⟨h1,h2⟩:=List.nodup_cons.1 hn
  unfold qc1
  rw[if_pos (h x List.mem_cons_self)]
  refine qed (fun y hy=>?_) h2
  obtain⟨a1,a2,a3⟩:=h y (List.mem_cons_of_mem _ hy)
  refine⟨a1,by rw[List.length_set];exact a2,?_⟩
  rw[List.getElem?_set,if_neg]
  ·exact a3
  ·intro e
   have hx:=(h x List.mem_cons_self).1
   have:x=y:=by omega
   subst this
   exact h1 hy
def qhY (b:List Bool) (f:List Int):Bool:=match qc1 (b.map not) f with
 | some g=>!g.contains true
 | none=>false
def qrs (u:List Int) (b:List Bool):Bool:=(List.range b.length).all fun k=>match u[k]?,b[k]? with
 | some x,some c=>decide ((if c=true then 1 else 0)≤x)&&decide (x≤1000000)
 | _,_=>false
def qi8 (u:List Int) (b:List Bool) (f:List Int):Bool:=decide (1≤u.length)&&decide (u.length≤200)&&decide (b.length=u.length)&&qrs u b&&qhY b f
theorem qgW {u:List Int} {b:List Bool} (h:b.length=u.length):qrs u b=true↔∀ (k:Nat) (x:Int) (c:Bool),u[k]?=some x→b[k]?=some c→(if c=true then 1 else 0)≤x∧x≤1000000:=by
 unfold qrs
 rw[List.all_eq_true]
 constructor
 ·intro h1 k x c hx hc
  have hk:k<b.length:=(List.getElem?_eq_some_iff.1 hc).1
  have:=h1 k (List.mem_range.2 hk)
  rw[hx,hc] at this
  simpa using this
 ·intro h1 k hk
  have hk':=List.mem_range.1 hk
  rw[List.getElem?_eq_getElem (by omega:k<u.length),List.getElem?_eq_getElem hk']
  simpa using h1 k _ _ (List.getElem?_eq_getElem (by omega:k<u.length)) (List.getElem?_eq_getElem hk')
theorem qfm {b:List Bool} {f:List Int}:qhY b f=true↔(∀ x∈f,0≤x∧x<(b.length:Int))∧f.Nodup∧∀ (k:Nat) (c:Bool),b[k]?=some c→(c=false↔(k:Int)∈f):=by
 unfold qhY
 constructor
 ·intro h
  split at h
  ·rename_i g hg
   obtain⟨h1,h2,h3⟩:=qdG hg
   refine⟨fun x hx=>?_,h2,fun k c hc=>⟨fun e=>?_,fun hm=>?_⟩⟩
   ·obtain⟨a1,a2,_⟩:=h1 x hx
    exact⟨a1,by simpa using a2⟩
   ·subst e
    by_cases hm:(k:Int)∈f
    ·exact hm
    ·have:=h3 k
     rw[if_neg hm,List.getElem?_map,hc] at this
     have hin:true∈g:=List.mem_of_getElem? this
     simp[hin] at h
   ·obtain⟨_,_,a3⟩:=h1 _ hm
    rw[Int.toNat_natCast,List.getElem?_map,hc] at a3
    simpa using a3
  ·cases h
 ·rintro⟨h1,h2,h3⟩
  obtain⟨g,hg⟩:=qed (g:=b.map not) (f:=f) (fun x hx=>by
   obtain⟨a1,a2⟩:=h1 x hx
   have hk:x.toNat<b.length:=by omega
   refine⟨a1,by simpa using a2,?_⟩
   rw[List.getElem?_map,List.getElem?_eq_getElem hk]
   have:=(h3 x.toNat _ (List.getElem?_eq_getElem hk)).2 (by rw[Int.toNat_of_nonneg a1];exact hx)
   rw[this];rfl) h2
  rw[hg]
  obtain⟨_,_,h6⟩:=qdG hg
  have:true∉g:=by
   intro hm
   obtain⟨k,hk⟩:=List.mem_iff_getElem?.1 hm
   have e:=h6 k
   rw[hk] at e
   split at e
   ·cases e
   ·rename_i hn
    rw[List.getElem?_map] at e
    cases hb:b[k]? with
    | none=>rw[hb] at e;cases e
    | some c=>
     rw[hb] at e
     cases c
     ·exact hn ((h3 k _ hb).1 rfl)
     ·cases e
  simp[this]
theorem qhQ {u:List Int} {b:List Bool} {f:List Int}:qi8 u b f=true↔Vd u b f:=by
 unfold qi8
 simp only[Bool.and_eq_true,decide_eq_true_eq]
 constructor
 ·rintro⟨⟨⟨⟨h1,h2⟩,h3⟩,h4⟩,h5⟩
  obtain⟨a1,a2,a3⟩:=qfm.1 h5
  exact⟨h1,h2,h3,(qgW h3).1 h4,by rw[← h3];exact a1,a2,a3⟩
 ·intro h
  exact⟨⟨⟨⟨h.pos,h.le⟩,h.len⟩,(qgW h.len).2 h.use⟩,qfm.2 ⟨by rw[h.len];exact h.rng,h.nod,h.part⟩⟩
end Go.Proofs.Ytgbmdijodlfcaaa

namespace Go.Proofs.Ytgbmdijodlfcaaa
set_option maxRecDepth 100000
open Go.RowKit
theorem qrn (n:Nat):SV.ls 2 (0+n)=(SV.ls 1 n).ren (qaU [(1,2)]):=by rw[Nat.zero_add];rfl
theorem qmZ (e:TypeId) (n:Nat) (xs:List Value):some (SV.row e 1 (0+n) ([]++xs))=some (SV.row e 1 n xs):=by rw[Nat.zero_add,List.nil_append]
theorem qkW {l:List Int} (h0:0<l.length) (hn:0+l.length≤1000000) :
 Fn 40 1 [.ls 0 l.length] [(0,0,zrI l)] (.ls 1 l.length) 1 [(1,0,zrI l)]:=
 Fx [(1,2)] [.t false]
  (qrn l.length) (Ai (qmZ 3 l.length (ziV l)) tI) (Ai h0 (Ai hn tI))
theorem qrL {ad:Addr} {c:Nat} :
 Fn 40 0 [.pv (.slice (some ad) 0 c)] [] (.ls 0 0) 1 [(0,0,.row 3 1 0 [])]:=
 Fz [(0,1)] [.k]
  (qcy (qaU [(0,1)]) [(0,0,.row 3 1 0 [])]) (Ai (Nat.zero_le _:0+0≤1000000) tI)
theorem qns {c:Nat}:Pure Try.prog 40 #[.slice none 0 c] (.slice none 0 0):=
 qib (args:=[.slice none 0 c]) 200 [] (Ai rfl tI) (by kernel_rfl)
end Go.Proofs.Ytgbmdijodlfcaaa

namespace Go.Proofs.Ytgbmdijodlfcaaa
set_option maxRecDepth 100000
open Go.RowKit
theorem qfu {k b o:Nat} {s t:SV} (h:qab [(k,0,s)] b o=some t):b=k∧o=0∧t=s:=by
 rw[qaa] at h
 split at h
 ·rename_i e;cases h;exact⟨e.1.symm,e.2.symm,rfl⟩
 ·cases h
theorem qgG {W w':World} {β:Bl} {k:Nat} {pre:List (Nat×Nat×SV)} {u:Value} {e:TypeId} {es n:Nat} {xs:List Value} (H:HRel W k β pre W) (hd:β.dom k) (hg:Gr W w') (ho:w'.ownsRow W.heap.size e es u n xs) (h1:∀ v∈xs,v.oneCell'=true) :
 HRel W k (β.setG k u) [(k,0,.row e es n xs)] w':=by
 refine⟨hg,fun b r h=>Nat.lt_of_lt_of_le (H.live b r h) hg.size,H.inj,fun b r hb h=>?_,fun b r h=>?_,fun b o sv hl hs=>?_,fun b o e es n xs hl=>?_,fun b o e es n xs c o' e' es' n' xs' u v hl hl' h1 h2 hne=>?_,fun b o xs hl=>?_⟩
 ·have h':β b=some r:=h
  rw[(hd b hb).1] at h';cases h'
 ·have hb:b≠k:=fun e=>by
   subst e
   have h':β b=some r:=h
   rw[(hd b (Nat.le_refl _)).1] at h';cases h'
  unfold Bl.setG
  simp only[if_neg hb]
  exact H.sep b r h
 ·obtain⟨_,_,rfl⟩:=qfu hl;cases hs
 ·obtain⟨rfl,_,e1⟩:=qfu hl
  cases e1
  exact⟨u,Bl.setG_same β b u,qeM ho,h1,fun h=>by omega,fun _=>ho,fun _ c r hc hu=>by
   have h1:=(qae ho r hu).1
   have h2:=H.live c r hc
   omega⟩
 ·exact (hne ((qfu hl).1.trans (qfu hl').1.symm)).elim
 ·obtain⟨_,_,e1⟩:=qfu hl;cases e1
theorem qfh {β:Bl} {k:Nat} {u:Value} (hd:β.dom k):(β.setG k u).dom (k+1):=fun b hb=>⟨(hd b (by omega)).1,by unfold Bl.setG;simp only[if_neg (show b≠k by omega)];exact (hd b (by omega)).2⟩
theorem qej (w:World):HRel w 0 Bl.no [] w:=⟨Gr.refl w,fun _ _ h=>(by cases h),fun _ _ _ h=>(by cases h),fun _ _ _ h=>(by cases h),fun _ _ h=>(by cases h),fun _ _ _ h=>(by cases h),fun _ _ _ _ _ _ h=>(by cases h),fun _ _ _ _ _ _ _ _ _ _ _ _ _ _ h=>(by cases h),fun _ _ _ h=>(by cases h)⟩
theorem qoU {f:FuncId} {e:TypeId} {n:Nat} {xs:List Value} (hx:xs.length=n)
 (pth:0<n→Fn f 1 [.ls 0 n] [(0,0,.row e 1 n xs)] (.ls 1 n) 1 [(1,0,.row e 1 n xs)])
 (pe:∀ ad c,Fn f 0 [.pv (.slice (some ad) 0 c)] [] (.ls 0 0) 1 [(0,0,.row e 1 0 [])])
 (pn:∀ c,Pure Try.prog f #[.slice none 0 c] (.slice none 0 0)):Fn f 1 [.ls 0 n] [(0,0,.row e 1 n xs)] (.ls 1 n) 1 [(1,0,.row e 1 n xs)]:=by
 rcases Nat.eq_zero_or_pos n with h | h
 ·subst h
  obtain rfl:=List.eq_nil_of_length_eq_zero hx
  intro w β us hH hd hargs
  match us,hargs with
  | [v],⟨⟨_,a,c,hv⟩,_⟩=>
   have hd1:=hd 1 (Nat.le_refl _)
   cases a with
   | none=>
    subst hv
    refine (pn c w).mono fun e' w' ⟨he,hg⟩=>?_
    have ho:w'.ownsRow w.heap.size e 1 (.slice none 0 0) 0 []:=⟨rfl,Or.inl ⟨rfl,rfl⟩⟩
    exact⟨_,β.setG 1 (.slice none 0 0),he,Bl.le_setG hd1.1 hd1.2,⟨Bl.setG_same _ _ _,none,0,rfl⟩,qgG hH hd hg ho (fun v hv=>by cases hv),qfh hd⟩
   | some ad=>
    subst hv
    refine (pe ad c w Bl.no [.slice (some ad) 0 c] (qej w) (fun _ _=>⟨rfl,rfl⟩) ⟨rfl,tI⟩).mono fun e' w' ⟨v,β',he,_,⟨hx,a',c',hv⟩,hh,_⟩=>?_
    obtain⟨u,hu,hr⟩:=hh.rows 0 0 _ _ _ _ rfl
    rw[hx] at hu
    cases hu
    exact⟨_,β.setG 1 v,he,Bl.le_setG hd1.1 hd1.2,⟨Bl.setG_same _ _ _,a',c',hv⟩,qgG hH hd hh.gr (hr.own (Nat.le_refl _)) (fun v hv=>by cases hv),qfh hd⟩
 ·exact pth h
theorem qcI {l:List Int} (hn:l.length≤1000000):Fn 40 1 [.ls 0 l.length] [(0,0,zrI l)] (.ls 1 l.length) 1 [(1,0,zrI l)]:=
 qoU (qdT l) (fun h=>qkW h (by omega)) (fun ad c=>qrL) (fun c=>qns)
section
variable {u fr:List Int} {b:List Bool}
structure Live (u:List Int) (b:List Bool) (hi hu:Int):Prop where
 lo:0≤hi
 lt:hi<(u.length:Int)
 used:b[hi.toNat]?=some true
 use:u[hi.toNat]?=some hu
def qnV (u:List Int) (b:List Bool) (fr:List Int):Option (List Int×List Bool×List Int×Int×Int):=
 match fr.getLast? with
 | none=>none
 | some x=>match u[x.toNat]? with
  | none=>none
  | some y=>if y=1000000 then none else some (u.set x.toNat (y+1),b.set x.toNat true,fr.dropLast,x,y+1)
theorem qhc {u' fr':List Int} {b':List Bool} {x z:Int} (h:qnV u b fr=some (u',b',fr',x,z)):∃ y,fr.getLast?=some x∧u[x.toNat]?=some y∧y≠1000000∧u'=u.set x.toNat z∧b'=b.set x.toNat true∧fr'=fr.dropLast∧z=y+1:=by
 unfold qnV at h
 split at h
 ·cases h
 ·rename_i x' hx
  split at h
  ·cases h
  ·rename_i y hy
   split at h
   ·cases h
   ·rename_i hne
    simp only[Option.some.injEq,Prod.mk.injEq] at h
    obtain⟨rfl,rfl,rfl,rfl,rfl⟩:=h
    exact⟨y,hx,hy,hne,rfl,rfl,rfl,rfl⟩
theorem qhz {l:List Int} {x:Int} (h:l.getLast?=some x):l=l.dropLast++[x]∧l[l.length-1]?=some x∧1≤l.length:=by
 have hne:l≠[]:=fun e=>by subst e;cases h
 rw[List.getLast?_eq_some_getLast hne] at h
 cases h
 refine⟨(List.dropLast_concat_getLast hne).symm,?_,List.length_pos_iff.2 hne⟩
 rw[List.getLast_eq_getElem]
 exact List.getElem?_eq_getElem _
theorem qcV:∀ {f:List Int} {g g':List Bool},qc1 g f=some g'→f.length+g'.count true=g.count true
 | [],g,g',h=>by cases h;simp
 | x::r,g,g',h=>by
  unfold qc1 at h
  split at h
  ·rename_i hx
   have:=qcV h
   have hk:x.toNat<g.length:=by omega
   have hg:g[x.toNat]=true:=by
    have:=hx.2.2
    rw[List.getElem?_eq_getElem hk] at this
    exact Option.some.inj this
   have hm:0<g.count true:=List.count_pos_iff.2 (by rw[← hg];exact List.getElem_mem hk)
   rw[List.count_set hk,hg] at this
   simp at this ⊢
   omega
  ·cases h
theorem Vd.frlen (h:Vd u b fr):fr.length≤200:=by
 have hf:qhY b fr=true:=by
  have:=qhQ.2 h
  unfold qi8 at this
  simp only[Bool.and_eq_true] at this
  exact this.2
 unfold qhY at hf
 split at hf
 ·rename_i g hg
  have:=qcV hg
  have:=List.count_le_length (a:=true) (l:=b.map not)
  rw[List.length_map,h.len] at this
  have:=h.le
  omega
 ·cases hf
theorem Vd.take {u' fr':List Int} {b':List Bool} {x z:Int} (h:Vd u b fr) (ht:qnV u b fr=some (u',b',fr',x,z)):Vd u' b' fr':=by
 obtain⟨y,h1,h2,h3,rfl,rfl,rfl,rfl⟩:=qhc ht
 obtain⟨e,_,_⟩:=qhz h1
 have hx:x∈fr:=by rw[e];simp
 obtain⟨r1,r2⟩:=h.rng x hx
 have hnd:=h.nod
 rw[e,List.nodup_append] at hnd
 obtain⟨n1,_,n2⟩:=hnd
 have hxn:x∉fr.dropLast:=fun hm=>n2 x hm x (by simp) rfl
 have hk:x.toNat<u.length:=by omega
 have hbk:x.toNat<b.length:=by rw[h.len];omega
 have hy:=h.use x.toNat y _ h2 (List.getElem?_eq_getElem hbk)
 have hy0:0≤y:=by have:=hy.1;split at this<;>omega
 refine⟨by rw[List.length_set];exact h.pos,by rw[List.length_set];exact h.le,by rw[List.length_set,List.length_set];exact h.len,fun k v c hv hc=>?_,fun v hv=>?_,n1,fun k c hc=>?_⟩
 ·rw[List.getElem?_set] at hv hc
  by_cases ek:x.toNat=k
  ·rw[if_pos ek,if_pos (by omega)] at hv hc
   cases hv;cases hc
   simp;omega
  ·rw[if_neg ek] at hv hc
   exact h.use k v c hv hc
 ·rw[List.length_set];exact h.rng v (by rw[e];simp[hv])
 ·rw[List.getElem?_set] at hc
  by_cases ek:x.toNat=k
  ·rw[if_pos ek,if_pos (by omega)] at hc
   cases hc
   simp only[Bool.true_eq_false,false_iff]
   rw[show (k:Int)=x by omega]
   exact hxn
  ·rw[if_neg ek] at hc
   rw[h.part k c hc]
   conv=>lhs;rw[e]
   simp only[List.mem_append,List.mem_singleton]
   constructor
   ·rintro (hm | hm)
    ·exact hm
    ·omega
   ·exact Or.inl
def qpt (n:Nat):List Int:=(List.range n).map fun (k:Nat)=>(n:Int)-1-(k:Int)
theorem Vd.new {n:Nat} (h1:1≤n) (h2:n≤200):Vd (List.replicate n 0) (List.replicate n false) (qpt n):=by
 refine⟨by simpa using h1,by simpa using h2,by simp,fun k x c hx hc=>?_,fun x hx=>?_,?_,fun k c hc=>?_⟩
 ·have e1:=List.eq_of_mem_replicate (List.mem_of_getElem? hx)
  have e2:=List.eq_of_mem_replicate (List.mem_of_getElem? hc)
  subst e1;subst e2;simp
 ·obtain⟨k,hk,rfl⟩:=List.mem_map.1 hx
  have:=List.mem_range.1 hk
  simp;omega
 ·unfold qpt
  rw[List.nodup_iff_pairwise_ne,List.pairwise_map]
  exact (List.nodup_range (n:=n)).imp_of_mem fun ha hb hab e=>by omega
 ·have e2:=List.eq_of_mem_replicate (List.mem_of_getElem? hc)
  subst e2
  have hk:k<n:=by have:=(List.getElem?_eq_some_iff.1 hc).1;simpa using this
  simp only[true_iff]
  exact List.mem_map.2 ⟨n-1-k,List.mem_range.2 (by omega),by omega⟩
end
end Go.Proofs.Ytgbmdijodlfcaaa
