/-
  Joined: Fs, Ft, Gb0, Fu, Fx, Fz. Conditions: none.
-/
import Derived.Test.YtleaeldgaflmkaaGreatW36
import Derived.Test.YtleaeldgaflmkaaGreatW34
import Derived.Test.YtleaeldgaflmkaaGreatW33
import Derived.Test.YtleaeldgaflmkaaGreatW31
import Derived.Test.YtleaeldgaflmkaaGreatW25
import Derived.Shelf.SlSortCmp.WholeK
import Derived.Test.YtleaeldgaflmkaaGreatProg
import Derived.Shelf.SlLaysF0
import Derived.Shelf.SlSortCmp.NoneTotal
namespace Go.Proofs.YtleaeldgaflmkaaGreat
set_option maxRecDepth 100000
open Go.RowKit
structure Tm (tn td:Int):Prop where
 hn:I64 tn
 hd:I64 td
 ok:okB tn td=true
noncomputable def tE (l:List Pt) (tn td:Int):Int:=if qb4 l=0 then (if okB tn td=true then 0 else 8) else qb4 l
theorem qlx {tn td:Int} (hn:I64 tn) (hd:I64 td) (l:List Pt):Fn 55 1 [qaq 0 l,.pv (qaa tn td)] [(0,0,qad l)] (.pv (iV (tE l tn td))) 0 []:=by
 unfold tE
 by_cases h0:qb4 l=0
 ·have c1:=qaF l
  rw[h0] at c1
  rw[if_pos h0]
  by_cases hp:okB tn td=true
  ·rw[if_pos hp];exact qrt c1 (qcb hn hd hp)
  ·rw[if_neg hp];exact qrt c1 (qfo hn hd hp)
 ·rw[if_neg h0]
  exact qtK (qaF l) (by simp[h0])
theorem qvB {l:List Pt} {tn td:Int} (hv:Val l) (ht:okB tn td=true):tE l tn td=0:=by unfold tE;rw[if_pos (qbd.2 hv),if_pos ht]
section
variable {l:List Pt} {tn td:Int}
theorem quJ (ht:Tm tn td) {p q:Pt} (hp:qcX p=true) (hq:qcX q=true) :
 Fn 80 1 [.pv (ptV p),.pv (ptV q),.pp 0 0] [(0,0,.pv (iV tn)),(0,1,.pv (iV td))] (.pv (iV (cfL tn td p q))) 0 []:=by
 unfold cfL
 by_cases e:p.id=q.id
 ·rw[if_pos e];exact qxR (by simp[e])
 ·rw[if_neg e]
  have a:=qqi ht.hn ht.hd hp hq ht.ok e
  have hl:qcF (p.a*td+p.b*tn) (q.a*td+q.b*tn) p.b q.b p.id q.id=ld tn td p q:=rfl
  rw[hl] at a
  cases hc:ld tn td p q<;>rw[hc] at a
  ·rw[if_neg (by decide)];exact qx4 (by simp[e]) a
  ·rw[if_pos rfl];exact qzs (by simp[e]) a
theorem qkS (hv:Val l) (ht:Tm tn td) {p:Pt} (hp:p∈l):Fn 104 1 [qaq 0 l,.pv (ptV p),.pv (qaa tn td)] [(0,0,qad l)] (.pv (iV ((rk tn td l p:Nat):Int))) 0 []:=by
 have hn:=hv.len
 refine qsM ?_
 have h0:rk tn td (l.take 0) p=0:=rfl
 rw[← h0]
 refine RunsL.rounds (fun k=>[(3,.pp 1 0),(4,.pp 2 0),(5,.pp 3 0),(7,.pv (iV ((rk tn td (l.take k) p:Nat):Int))),(8,.pv (iV (k:Int)))])
  (fun _=>[(1,0,.ls 0 l.length),(0,0,qad l),(2,0,.pv (iV p.id)),(2,1,.pv (iV p.a)),(2,2,.pv (iV p.b)),(3,0,.pv (iV tn)),(3,1,.pv (iV td))]) l.length 0 (Nat.zero_add _) (fun k _ hk r=>?_) ?_
 ·obtain⟨q,hq⟩:=qan hk
  have hqm:=List.mem_of_getElem? hq
  rw[qs2 hq] at r
  have hle:rk tn td (l.take k) p≤64:=by
   unfold rk
   exact Nat.le_trans List.countP_le_length (by rw[List.length_take];omega)
  by_cases e:q.id=p.id
  ·have:q=p:=qoB hv hqm hp e
   subst this
   rw[qfc,if_neg (by decide),Nat.add_zero] at r
   exact qtG hq (qaB hk) (dt (by omega)) (by simp) (qeH hk hn) r
  ·have hl:=qoM ht.hn ht.hd (hv.ok q hqm) (hv.ok p hp)
   have he:qcF (q.a*td+q.b*tn) (p.a*td+p.b*tn) q.b p.b q.id p.id=ld tn td q p:=rfl
   rw[he] at hl
   cases hc:ld tn td q p<;>rw[hc] at hl r
   ·rw[if_neg (by decide),Nat.add_zero] at r
    exact qy1 hq (qaB hk) (dt (by omega)) (by simp[e]) hl (qeH hk hn) r
   ·rw[if_pos rfl] at r
    exact qyB hq (qaB hk) (dt (by omega)) (by simp[e]) hl (qav (by omega)) (qeH hk hn) r
 ·simp only[List.take_length]
  exact qvE (df (by omega))
theorem qgC (hv:Val l) (ht:Tm tn td) {s:List Pt} (hs:Srt l tn td s) {m:Pt} (hm:s[0]?=some m):∀ (d k:Nat) (c:Pt),k+d=l.length→c∈l→(∀ (j:Nat) (q:Pt),j<k→l[j]?=some q→ld tn td q c=false)→
 Rl 2 2 56 0 33 4 ([(0,.ls 0 l.length),(1,.pc 80 [.pp 1 0]),(4,.pp 2 0),(5,.pp 3 0),(6,.pv (iV (k:Int)))]) ([(0,0,qad l),(1,0,.pv (iV tn)),(1,1,.pv (iV td)),(3,0,.pv (iV (c).id)),(3,1,.pv (iV (c).a)),(3,2,.pv (iV (c).b)),(2,0,.pv (iV 0)),(2,1,.pv (iV 0)),(2,2,.pv (iV 0))]) (.exit 0) ([(4,.pp 2 0),(5,.pp 3 0)]) ([(0,0,qad l),(1,0,.pv (iV tn)),(1,1,.pv (iV td)),(3,0,.pv (iV (m).id)),(3,1,.pv (iV (m).a)),(3,2,.pv (iV (m).b)),(2,0,.pv (iV 0)),(2,1,.pv (iV 0)),(2,2,.pv (iV 0))])
 | 0,k,c,hd,hc,hf=>by
  have h0:rk tn td l c=0:=by
   unfold rk
   rw[List.countP_eq_zero]
   intro q hq
   obtain⟨j,hj,rfl⟩:=List.getElem_of_mem hq
   rw[hf j _ (by omega) (List.getElem?_eq_getElem hj)];decide
  have:=hs.at hc
  rw[h0,hm] at this
  cases this
  exact qwa (df (by omega))
 | d+1,k,c,hd,hc,hf=>by
  obtain⟨p,hp⟩:=qan (l:=l) (k:=k) (by omega)
  have hpm:=List.mem_of_getElem? hp
  have hcf:=qt2 (tn:=tn) (td:=td) (p:=p) (q:=c) (fun e=>qoB hv hpm hc e)
  have hl:=quJ ht (hv.ok p hpm) (hv.ok c hc)
  cases hx:ld tn td p c<;>rw[hx] at hcf
  ·exact qzD hp (qaB (qaw hp)) (dt (by omega)) hl hcf (qeH (qaw hp) hv.len) (qgC hv ht hs hm d (k+1) c (by omega) hc fun j q hj hq=>by
    by_cases e:j=k
    ·subst e;rw[hp] at hq;cases hq;exact hx
    ·exact hf j q (by omega) hq)
  ·exact qym hp (qaB (qaw hp)) (dt (by omega)) hl hcf (qeH (qaw hp) hv.len) (qgC hv ht hs hm d (k+1) p (by omega) hpm fun j q hj hq=>by
    by_cases e:j=k
    ·subst e;rw[hp] at hq;cases hq;exact qfc _
    ·cases hh:ld tn td q p
     ·rfl
     ·have h1:=qj4 hh hx
      have h2:=hf j q (by omega) hq
      rw[h1] at h2;cases h2)
theorem qrR (hv:Val l) (ht:Tm tn td) {s:List Pt} (hs:Srt l tn td s) {m:Pt} (hm:s[0]?=some m) :
 Fn 56 2 [.ls 0 l.length,.pc 80 [.pp 1 0]] [(0,0,qad l),(1,0,.pv (iV tn)),(1,1,.pv (iV td))] (.pv (ptV m)) 0 []:=by
 have hl:0<l.length:=by have:=qaw hm;rw[hs.len] at this;exact this
 obtain⟨p,hp⟩:=qan hl
 exact qtI hp (qaB (k:=0) hl) (df (by omega)) (qgC hv ht hs hm (l.length-1) (0+1) p (by omega) (List.mem_of_getElem? hp) fun j q hj hq=>by
  have:j=0:=by omega
  subst this
  rw[hp] at hq;cases hq;exact qfc _)
theorem qs5 (s:List Pt):(s.map Pt.id).length=s.length:=List.length_map _
theorem qei (hv:Val l) (ht:Tm tn td) {s:List Pt} (hs:Srt l tn td s):∀ (d k:Nat) (g:List Int),k+d=l.length→g.length=l.length→(∀ (i:Nat) (p:Pt),i<k→l[i]?=some p→g[rk tn td l p]?=some p.id)→
 Rl 1 1 74 0 35 4 ([(2,.pp 1 0),(3,.pp 2 0),(5,.ls 3 l.length),(6,.pv (iV (k:Int)))]) ([(1,0,.ls 0 l.length),(0,0,qad l),(2,0,.pv (iV tn)),(2,1,.pv (iV td)),(3,0,.row 3 1 l.length (qfI g))]) (.exit 0) ([(5,.ls 3 l.length)]) ([(1,0,.ls 0 l.length),(0,0,qad l),(2,0,.pv (iV tn)),(2,1,.pv (iV td)),(3,0,.row 3 1 l.length (qfI (s.map Pt.id)))])
 | 0,k,g,hd,hg,hf=>by
  have:g=s.map Pt.id:=by
   apply List.ext_getElem?
   intro i
   by_cases hi:i<s.length
   ·obtain⟨p,hp⟩:=qan hi
    obtain⟨j,hj,e⟩:=List.getElem_of_mem (hs.perm.mem_iff.1 (List.mem_of_getElem? hp))
    have:=hf j p (by omega) (by rw[List.getElem?_eq_getElem hj,e])
    rw[hs.rank hp] at this
    rw[this,List.getElem?_map,hp];rfl
   ·have e1:g[i]?=none:=List.getElem?_eq_none (by have:=hs.len;omega)
    have e2:(s.map Pt.id)[i]?=none:=List.getElem?_eq_none (by rw[qs5];omega)
    rw[e1,e2]
  subst this
  exact qwL (df (by omega))
 | d+1,k,g,hd,hg,hf=>by
  obtain⟨p,hp⟩:=qan (l:=l) (k:=k) (by omega)
  have hpm:=List.mem_of_getElem? hp
  have hr:=hs.lt hpm
  exact qr0 hp (qaB (qaw hp)) (by omega) (qaB hr) (dt (by omega)) (qkS hv ht hpm) (qeH (qaw hp) hv.len) (qei hv ht hs d (k+1) _ (by omega) (by rw[List.length_set];exact hg) fun i q hi hq=>by
   by_cases e:rk tn td l p=rk tn td l q
   ·have h1:=hs.at hpm
    have h2:=hs.at (List.mem_of_getElem? hq)
    rw[← e,h1] at h2
    cases h2
    rw[List.getElem?_set_self (by omega)]
   ·rw[List.getElem?_set_ne e]
    by_cases ek:i=k
    ·subst ek;rw[hp] at hq;cases hq;exact (e rfl).elim
    ·exact hf i q (by omega) hq)
theorem qiz (hv:Val l) (ht:Tm tn td) {s:List Pt} (hs:Srt l tn td s):Fn 74 1 [qaq 0 l,.pv (qaa tn td)] [(0,0,qad l)] (.ls 1 l.length) 1 [(1,0,.row 3 1 l.length (qfI (s.map Pt.id)))]:=
 qsB (by omega) (by have:=hv.len;omega) (qei hv ht hs l.length 0 _ (Nat.zero_add _) List.length_replicate fun i p hi=>by omega)
end
end Go.Proofs.YtleaeldgaflmkaaGreat

namespace Go.Proofs.YtleaeldgaflmkaaGreat
set_option maxRecDepth 100000
open Go.RowKit Go.Sort
theorem qtL {w w':World} (h:Gr w w'):∃ (q:Nat) (os:Array Obj),w'=Sort.grow (w.drewN q) os:=by
 obtain⟨⟨h1,h2,h3,h4,h5⟩,_,h7⟩:=h
 refine⟨w'.drawn-w.drawn,w'.heap.extract w.heap.size w'.heap.size,?_⟩
 obtain⟨heap,tape,drawn,os,output⟩:=w
 obtain⟨heap',tape',drawn',os',output'⟩:=w'
 simp only at h1 h2 h3 h4 h5 h7
 subst h1 h2 h3
 unfold Sort.grow World.drewN
 simp only[World.mk.injEq,and_true,true_and]
 refine⟨?_,by omega⟩
 apply Array.ext_getElem?
 intro i
 by_cases hi:i<heap.size
 ·rw[Array.getElem?_append_left hi];exact h5 i hi
 ·rw[Array.getElem?_append_right (by omega),Array.getElem?_extract]
  by_cases hj:i<heap'.size
  ·rw[if_pos (by omega),show heap.size+(i-heap.size)=i by omega]
  ·rw[if_neg (by omega),Array.getElem?_eq_none (by omega)]
theorem qlL {w:World} {g:Nat} {cur:Array Value} {e:TypeId} {fr:Nat×Nat} (hg:w.heap[g]?=some (.cells cur e fr)) (F:Array Value) :
 (putRow id w g 0 F).heap[g]?=some (.cells (putCells id 0 F cur) e fr):=by
 unfold putRow mapBlock
 simp only[Array.getElem?_modify,if_true,hg,Option.map_some,onCells]
theorem qou (w:World) (g:Nat) (F:Array Value) {k:Nat} (h:k≠g):(putRow id w g 0 F).heap[k]?=w.heap[k]?:=by
 unfold putRow mapBlock
 simp only[Array.getElem?_modify,if_neg (fun e:g=k=>h e.symm)]
theorem qgT (F cur:Array Value) (h:F.size≤cur.size):(putCells id 0 F cur).toList.take F.size=F.toList:=by
 apply List.ext_getElem?
 intro i
 rw[List.getElem?_take]
 by_cases hi:i<F.size
 ·rw[if_pos hi]
  unfold putCells
  simp only[Array.getElem?_toList,Array.getElem?_mapIdx]
  rw[Array.getElem?_eq_getElem (show i<cur.size by omega),Option.map_some,if_pos (by omega),Nat.sub_zero,getElem!_pos F i hi,Array.getElem?_eq_getElem hi]
  rfl
 ·rw[if_neg hi,List.getElem?_eq_none (by simpa using hi)]
theorem qgq (F cur:Array Value):(putCells id 0 F cur).size=cur.size:=by unfold putCells;simp
section
variable {l:List Pt} {tn td:Int}
end
end Go.Proofs.YtleaeldgaflmkaaGreat

namespace Go.Proofs.YtleaeldgaflmkaaGreat
set_option maxRecDepth 100000
theorem qmM {α:Type} {r:α→α→Prop}:∀ {a b:List α},a.Perm b→(∀ x∈a,∀ y∈a,r x y→r y x→x=y)→a.Pairwise r→b.Pairwise r→a=b
 | [],b,h,_,_,_=>h.nil_eq
 | x::a,b,h,hr,ha,hb=>by
  cases b with
  | nil=>exact (List.not_perm_cons_nil h).elim
  | cons y b=>
   have hx:x∈y::b:=h.subset List.mem_cons_self
   have hy:y∈x::a:=h.symm.subset List.mem_cons_self
   have e:x=y:=by
    rcases List.mem_cons.1 hx with e | hx
    ·exact e
    ·rcases List.mem_cons.1 hy with e | hy
     ·exact e.symm
     ·exact hr x List.mem_cons_self y (List.mem_cons_of_mem _ hy) ((List.pairwise_cons.1 ha).1 y hy) ((List.pairwise_cons.1 hb).1 x hx)
   subst e
   rw[qmM h.cons_inv (fun u hu v hv=>hr u (List.mem_cons_of_mem _ hu) v (List.mem_cons_of_mem _ hv)) (List.pairwise_cons.1 ha).2 (List.pairwise_cons.1 hb).2]
end Go.Proofs.YtleaeldgaflmkaaGreat

namespace Go.Proofs.YtleaeldgaflmkaaGreat
set_option maxRecDepth 100000
open Go.RowKit Go.Sort
theorem qne {W w':World} {β:Bl} {pre:List (Nat×Nat×SV)} {u:Value} {l:List Pt} (H:HRel W 1 β pre W) (hd:β.dom 1) (hg:Gr W w') (ho:w'.ownsRow W.heap.size 34 3 u l.length (qay l)) :
 HRel W 1 (β.setG 1 u) [(1,0,qad l)] w':=qny H hd hg ho (qh4 l)
theorem qjQ {β:Bl} {u:Value} (hd:β.dom 1):(β.setG 1 u).dom (1+1):=fun b hb=>⟨(hd b (by omega)).1,by unfold Bl.setG;simp only[if_neg (show b≠1 by omega)];exact (hd b (by omega)).2⟩
theorem qhr {l:List Pt} (hn:l.length≤1000000):Fn 68 1 [.ls 0 l.length] [(0,0,qad l)] (.ls 1 l.length) 1 [(1,0,qad l)]:=by
 by_cases h:l=[]
 ·subst h
  intro w β us hH hd hargs
  match us,hargs with
  | [v],⟨⟨_,a,c,hv⟩,_⟩=>
   have hd1:=hd 1 (Nat.le_refl _)
   cases a with
   | none=>
    subst hv
    refine (qoa w).mono fun e w' ⟨he,hg⟩=>?_
    have ho:w'.ownsRow w.heap.size 34 3 (.slice none 0 0) ([]:List Pt).length (qay []):=⟨rfl,Or.inl ⟨rfl,rfl⟩⟩
    exact⟨_,β.setG 1 (.slice none 0 0),he,Bl.le_setG hd1.1 hd1.2,⟨Bl.setG_same _ _ _,none,0,rfl⟩,qne hH hd hg ho,qjQ hd⟩
   | some ad=>
    subst hv
    have h0:HRel w 0 Bl.no [] w:=⟨Gr.refl w,fun _ _ h=>(by cases h),fun _ _ _ h=>(by cases h),fun _ _ _ h=>(by cases h),fun _ _ h=>(by cases h),fun _ _ _ h=>(by cases h),fun _ _ _ h=>(by cases h),fun _ _ _ _ _ _ _ _ h=>(by cases h),fun _ _ _ h=>(by cases h),FzIs.no1 (fun _ _ _ h=>by cases h) fun _=>rfl⟩
    refine (qtw (ad:=ad) (c:=c) w Bl.no [.slice (some ad) 0 c] h0 (fun _ _=>⟨rfl,rfl⟩) ⟨rfl,tI⟩).mono fun e w' ⟨v,β',he,_,⟨hx,a',c',hv⟩,hh,_⟩=>?_
    obtain⟨u,hu,hr⟩:=hh.rows 0 0 _ _ _ _ rfl
    rw[hx] at hu
    cases hu
    exact⟨_,β.setG 1 v,he,Bl.le_setG hd1.1 hd1.2,⟨Bl.setG_same _ _ _,a',c',hv⟩,qne hH hd hh.gr (hr.own (Nat.le_refl _)),qjQ hd⟩
 ·have:0<l.length:=List.length_pos_iff.2 h
  exact qks this (by omega)
section
variable {l:List Pt} {tn td:Int}
abbrev qqX (f:FuncId) (l:List Pt) (tn td x e:Int):Prop:=Fn f 1 [qaq 0 l,.pv (qaa tn td)] [(0,0,qad l)] (.pv (.tuple #[iV x,iV e])) 0 []
end
end Go.Proofs.YtleaeldgaflmkaaGreat

namespace Go.Proofs.YtleaeldgaflmkaaGreat
set_option maxRecDepth 100000
open Go.RowKit
theorem qf9 {l:List Pt}:Up l↔l.Pairwise (fun p q=>p.id<q.id):=by
 constructor
 ·intro h
  rw[List.pairwise_iff_getElem]
  intro i j hi hj hij
  exact h.mono hij (List.getElem?_eq_getElem hi) (List.getElem?_eq_getElem hj)
 ·intro h k p q h1 h2
  rw[List.pairwise_iff_getElem] at h
  obtain⟨hk,rfl⟩:=List.getElem?_eq_some_iff.1 h1
  obtain⟨hk2,rfl⟩:=List.getElem?_eq_some_iff.1 h2
  exact h k (k+1) hk hk2 (by omega)
theorem qjb {l:List Pt} {k:Nat} {p:Pt} (hk:l[k]?=some p):l=l.take k++p::l.drop (k+1):=by
 have hl:=qaw hk
 conv=>lhs;rw[← List.take_append_drop k l]
 rw[List.drop_eq_getElem_cons hl]
 have:l[k]=p:=by rw[List.getElem?_eq_getElem hl] at hk;exact Option.some.inj hk
 rw[this]
theorem qt0 {l:List Pt} (hv:Val l) {k:Nat} {p:Pt} (hk:l[k]?=some p) {pi pa pb:Int} (he:p.id=pi) (hp:okP pi pa pb=true):Val (l.set k ⟨pi,pa,pb⟩):=by
 have hl:=qaw hk
 refine⟨by rw[List.length_set];exact hv.len,fun q hq=>?_,?_⟩
 ·rcases List.mem_or_eq_of_mem_set hq with h | rfl
  ·exact hv.ok q h
  ·exact hp
 ·rw[qrn hl,qf9]
  have h:=qf9.1 hv.up
  rw[qjb hk,List.pairwise_append,List.pairwise_cons] at h
  rw[List.pairwise_append,List.pairwise_cons]
  refine⟨h.1,⟨fun q hq=>by have:=h.2.1.1 q hq;simp only;omega,h.2.1.2⟩,fun a ha b hb=>?_⟩
  rcases List.mem_cons.1 hb with rfl | hb
  ·have:=h.2.2 a ha p (List.mem_cons_self ..);simp only;omega
  ·exact h.2.2 a ha b (List.mem_cons_of_mem _ hb)
theorem qtE {l:List Pt} (hv:Val l) {k:Nat} (hn:l.length<64) {pi pa pb:Int} (hp:okP pi pa pb=true) (hkl:k≤l.length) (hlo:∀ (t:Nat) (p:Pt),t<k→l[t]?=some p→p.id<pi) (hhi:∀ (t:Nat) (p:Pt),k≤t→l[t]?=some p→pi<p.id) :
 Val (l.take k++⟨pi,pa,pb⟩::l.drop k):=by
 refine⟨by simp only[List.length_append,List.length_cons,List.length_take,List.length_drop];omega,fun q hq=>?_,?_⟩
 ·rcases List.mem_append.1 hq with h | h
  ·exact hv.ok q (List.mem_of_mem_take h)
  ·rcases List.mem_cons.1 h with rfl | h
   ·exact hp
   ·exact hv.ok q (List.mem_of_mem_drop h)
 ·rw[qf9,List.pairwise_append,List.pairwise_cons]
  have h:=qf9.1 hv.up
  rw[← List.take_append_drop k l,List.pairwise_append] at h
  refine⟨h.1,⟨fun q hq=>?_,h.2.1⟩,fun a ha b hb=>?_⟩
  ·obtain⟨j,hj,rfl⟩:=List.getElem_of_mem hq
   rw[List.getElem_drop]
   exact hhi (k+j) _ (by omega) (List.getElem?_eq_getElem _)
  ·rcases List.mem_cons.1 hb with rfl | hb
   ·obtain⟨j,hj,rfl⟩:=List.getElem_of_mem ha
    have hjk:j<k:=by rw[List.length_take] at hj;omega
    rw[List.getElem_take]
    exact hlo j _ hjk (List.getElem?_eq_getElem _)
   ·exact h.2.2 a ha b hb
end Go.Proofs.YtleaeldgaflmkaaGreat

namespace Go.Proofs.YtleaeldgaflmkaaGreat
set_option maxRecDepth 100000
open Go.RowKit
theorem qpa {l:List Pt} (hv:Val l) {k:Nat} (hk:k<l.length):Val (l.take k++l.drop (k+1)):=by
 refine⟨by have:=hv.len;simp only[List.length_append,List.length_take,List.length_drop];omega,fun q hq=>?_,?_⟩
 ·rcases List.mem_append.1 hq with h | h
  ·exact hv.ok q (List.mem_of_mem_take h)
  ·exact hv.ok q (List.mem_of_mem_drop h)
 ·obtain⟨p,hp⟩:=qan hk
  have h:=qf9.1 hv.up
  rw[qjb hp] at h
  rw[qf9]
  exact h.sublist ((List.sublist_cons_self p (l.drop (k+1))).append_left (l.take k))
end Go.Proofs.YtleaeldgaflmkaaGreat
