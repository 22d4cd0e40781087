/-
  Joined: Ud, Ue, Uf. Conditions: none.
-/
import Derived.Test.YtalnjplghagbpaaW25
import Derived.Test.YtalnjplghagbpaaW19
namespace Go.Proofs.Ytalnjplghagbpaa
set_option maxRecDepth 100000
open Go.RowKit
def unf (n:List Pt):Nat→Int→Option (Sh Nat)
 | 0,i=>if i<0 then some .nil else none
 | f+1,i=>if i<0 then some .nil else match n[i.toNat]? with
  | none=>none
  | some p=>match unf n f p.a,unf n f p.b with
   | some l,some r=>some (.node l i.toNat r)
   | _,_=>none
section
variable {x:Tr}
theorem qfF (hL:Lnk x):∀ {f:Nat} {i:Int} {T:Sh Nat},-1≤i→unf x.n f i=some T→Rep x.n i T
 | 0,i,T,hi,h=>by
  unfold unf at h
  split at h
  ·cases h;show i = -1;omega
  ·cases h
 | f+1,i,T,hi,h=>by
  unfold unf at h
  split at h
  ·cases h;show i = -1;omega
  ·split at h
   ·cases h
   ·rename_i p hp
    split at h
    ·rename_i l r e1 e2
     cases h
     obtain⟨⟨b1,_⟩,b2,_⟩:=hL p (List.mem_of_getElem? hp)
     exact⟨by omega,p,hp,qfF hL b1 e1,qfF hL b2 e2⟩
    ·cases h
def Pth (n:List Pt) (l:List Nat):Prop:=∀ (j u v:Nat),l[j]?=some u→l[j+1]?=some v→1≤lk n u v
theorem qgw (hL:Lnk x):∀ {f:Nat} {i:Int},i<(x.n.length:Int)→unf x.n f i=none→∃ l:List Nat,l.length=f+1∧l[0]?=some i.toNat∧0≤i∧Pth x.n l∧∀ v∈l,v<x.n.length
 | 0,i,hi,h=>by
  unfold unf at h
  split at h
  ·cases h
  ·refine⟨[i.toNat],rfl,rfl,by omega,fun j u v _ hv=>by simp at hv,fun v hv=>?_⟩
   rw[List.mem_singleton] at hv
   omega
 | f+1,i,hi,h=>by
  unfold unf at h
  split at h
  ·cases h
  ·rename_i h0
   have hil:i.toNat<x.n.length:=by omega
   have hp:=List.getElem?_eq_getElem hil
   have hm:=hL _ (List.getElem_mem hil)
   generalize hpe:x.n[i.toNat]=p at hp hm
   obtain⟨⟨_,b1⟩,_,b2⟩:=hm
   rw[hp] at h
   simp only at h
   have ext:∀ {c:Int},(p.a=c∨p.b=c)→c<(x.n.length:Int)→unf x.n f c=none→∃ l:List Nat,l.length=f+1+1∧l[0]?=some i.toNat∧0≤i∧Pth x.n l∧∀ v∈l,v<x.n.length:=by
    intro c hc hb hn
    obtain⟨l,l1,l2,l3,l4,l5⟩:=qgw hL hb hn
    refine⟨i.toNat::l,by rw[List.length_cons,l1],rfl,by omega,fun j u v hu hv=>?_,fun v hv=>?_⟩
    ·match j,hu,hv with
     | 0,hu,hv=>
      rw[List.getElem?_cons_zero] at hu
      rw[List.getElem?_cons_succ,l2] at hv
      cases hu
      cases hv
      refine qnd hp ?_
      rw[show ((c.toNat:Nat):Int)=c by omega]
      exact hc
     | j+1,hu,hv=>
      rw[List.getElem?_cons_succ] at hu hv
      exact l4 j u v hu hv
    ·rcases List.mem_cons.1 hv with rfl | hv
     ·exact hil
     ·exact l5 v hv
   cases e1:unf x.n f p.a with
   | none=>exact ext (Or.inl rfl) b1 e1
   | some l=>
    cases e2:unf x.n f p.b with
    | none=>exact ext (Or.inr rfl) b2 e2
    | some r=>rw[e1,e2] at h;cases h
theorem One.tree (h1:One x) (hL:Lnk x) (hr : -1≤x.r∧x.r<(x.n.length:Int)):∃ T,Rep x.n x.r T:=by
 cases e:unf x.n x.n.length x.r with
 | some T=>exact⟨T,qfF hL hr.1 e⟩
 | none=>
  obtain⟨l,l1,l2,l3,l4,l5⟩:=qgw hL hr.2 e
  have back:∀ (a b v:Nat),a<b→l[a]?=some v→l[b]?=some v→False:=by
   intro a
   induction a with
   | zero=>
    intro b v hab ha hb
    obtain⟨b',rfl⟩:∃ b',b=b'+1:=⟨b-1,by omega⟩
    rw[l2] at ha
    have hbl:b'<l.length:=by have:=(List.getElem?_eq_some_iff.1 hb).1;omega
    have hk:=l4 b' _ v (List.getElem?_eq_getElem hbl) hb
    have hv:v<x.n.length:=l5 v (List.mem_of_getElem? hb)
    have hc:=h1 v hv
    rw[if_pos (by have:=Option.some.inj ha;omega)] at hc
    have hge:=qdT (f:=fun u=>lk x.n u v) (List.mem_range.2 (l5 _ (List.getElem_mem hbl)))
    have hc':((List.range x.n.length).map fun u=>lk x.n u v).sum=0:=hc
    have:lk x.n l[b'] v≤0:=by rw[← hc'];exact hge
    omega
   | succ a ih=>
    intro b v hab ha hb
    obtain⟨b',rfl⟩:∃ b',b=b'+1:=⟨b-1,by omega⟩
    have hbl:b'<l.length:=by have:=(List.getElem?_eq_some_iff.1 hb).1;omega
    have hal:a<l.length:=by have:=(List.getElem?_eq_some_iff.1 ha).1;omega
    have k1:=l4 a _ v (List.getElem?_eq_getElem hal) ha
    have k2:=l4 b' _ v (List.getElem?_eq_getElem hbl) hb
    have e:=h1.par (l5 v (List.mem_of_getElem? hb)) k1 k2
    exact ih b' l[a] (by omega) (List.getElem?_eq_getElem hal) (by rw[e];exact List.getElem?_eq_getElem hbl)
  have hn:¬ l.Nodup:=fun hn=>by
   have:=hn.length_le_of_subset (l₂:=List.range x.n.length) fun v hv=>List.mem_range.2 (l5 v hv)
   rw[List.length_range] at this
   omega
  exact (hn (List.pairwise_iff_getElem.2 fun a b ha hb hab e=>back a b l[a] hab (List.getElem?_eq_getElem ha) (by rw[e];exact List.getElem?_eq_getElem hb))).elim
end
def idN (n:List Pt) (k:Nat):Int:=(n.getD k ⟨0,0,0⟩).id
theorem qaQ {n:List Pt} {k:Nat} {p:Pt} (h:n[k]?=some p):idN n k=p.id:=by unfold idN;rw[List.getD_eq_getElem?_getD,h];rfl
structure Fits (x:Tr) (T:Sh Nat):Prop where
 rep:Rep x.n x.r T
 all:T.list.length=x.n.length
 up:(T.list.map (idN x.n)).Pairwise (· < ·)
structure VT (x:Tr):Prop where
 len:x.n.length≤64
 rng:∀ p∈x.n,0≤p.id∧p.id≤65535
 tree:∃ T,Fits x T
section
variable {x:Tr} {T:Sh Nat}
theorem Fits.nodup (h:Fits x T):T.list.Nodup:=by
 have:=h.up
 rw[List.pairwise_map] at this
 exact this.imp fun hlt e=>by rw[e] at hlt;omega
theorem Fits.mem (h:Fits x T) (k:Nat):k∈T.list↔k<x.n.length:=by
 refine⟨h.rep.lt k,fun hk=>?_⟩
 apply Classical.byContradiction
 intro hn
 have:=(List.nodup_cons.2 ⟨hn,h.nodup⟩).length_le_of_subset (l₂:=List.range x.n.length) fun v hv=>by
  rcases List.mem_cons.1 hv with rfl | hv
  ·exact List.mem_range.2 hk
  ·exact List.mem_range.2 (h.rep.lt v hv)
 rw[List.length_cons,List.length_range,h.all] at this
 omega
theorem Fits.perm (h:Fits x T):T.list.Perm (List.range x.n.length):=(List.perm_ext_iff_of_nodup h.nodup List.nodup_range).2 fun k=>(h.mem k).trans List.mem_range.symm
theorem Fits.one (h:Fits x T):One x:=fun v hv=>by
 have e:=qbR v h.rep
 rw[h.nodup.count,if_pos ((h.mem v).2 hv),(h.perm.map fun u=>lk x.n u v).sum_nat] at e
 show ((List.range x.n.length).map fun u=>lk x.n u v).sum=_
 by_cases hr:x.r=(v:Int)
 ·rw[if_pos hr] at e;rw[if_pos hr.symm];omega
 ·rw[if_neg hr] at e;rw[if_neg fun k=>hr k.symm];omega
theorem Rep.links {n:List Pt}:∀ {T:Sh Nat} {i:Int},Rep n i T→∀ k∈T.list,∃ p,n[k]?=some p∧(-1≤p.a∧p.a<(n.length:Int))∧(-1≤p.b∧p.b<(n.length:Int))
 | .nil,_,_,k,h=>by cases h
 | .node l y r,i,⟨_,p,hp,a1,a2⟩,k,h=>by
  rcases List.mem_append.1 h with h | h
  ·exact a1.links k h
  ·rcases List.mem_cons.1 h with rfl | h
   ·exact⟨p,hp,⟨a1.rng.1,a1.rng.2.1⟩,a2.rng.1,a2.rng.2.1⟩
   ·exact a2.links k h
theorem Fits.lnk (h:Fits x T):Lnk x:=fun p hp=>by
 obtain⟨k,hk⟩:=List.getElem?_of_mem hp
 obtain⟨q,hq,h1⟩:=h.rep.links k ((h.mem k).2 (List.getElem?_eq_some_iff.1 hk).1)
 rw[hk] at hq
 cases hq
 exact h1
theorem Fits.root (h:Fits x T):(-1≤x.r∧x.r<(x.n.length:Int))∧(x.r = -1↔x.n.length=0):=by
 obtain⟨h1,h2,h3⟩:=h.rep.rng
 refine⟨⟨h1,h2⟩,h3.trans ⟨fun e=>?_,fun e=>?_⟩⟩
 ·have:=h.all
  rw[e] at this
  exact this.symm
 ·have:=h.all
  cases T with
  | nil=>rfl
  | node l y r=>rw[e] at this;simp[Sh.list] at this
theorem Fits.uniq {T':Sh Nat} (h:Fits x T) (h':Fits x T'):T=T':=h.rep.uniq h'.rep
theorem qiS {l:List Nat} (hp:l.Pairwise (· < ·)) (hb:∀ k∈l,k<l.length):l=List.range l.length:=by
 have lo:∀ (j:Nat) (hj:j<l.length),j≤l[j]:=by
  intro j
  induction j with
  | zero=>intro _;omega
  | succ j ih=>
   intro hj
   have:=List.pairwise_iff_getElem.1 hp j (j+1) (by omega) hj (by omega)
   have:=ih (by omega)
   omega
 have hi:∀ (d j:Nat) (hj:j<l.length),j+d+1=l.length→l[j]≤j:=by
  intro d
  induction d with
  | zero=>
   intro j hj e
   have:=hb _ (List.getElem_mem hj)
   omega
  | succ d ih=>
   intro j hj e
   have h1:=List.pairwise_iff_getElem.1 hp j (j+1) hj (by omega) (by omega)
   have:=ih (j+1) (by omega) (by omega)
   omega
 refine List.ext_getElem (by rw[List.length_range]) fun j h1 h2=>?_
 rw[List.getElem_range]
 have:=lo j h1
 have:=hi (l.length-1-j) j h1 (by omega)
 omega
theorem qps {n:List Pt} (hu:Up n):∀ {j k:Nat} {p q:Pt},j<k→n[j]?=some p→n[k]?=some q→p.id<q.id:=by
 intro j k p q hjk hp hq
 exact hu.mono hjk hp hq
theorem Fits.range (h:Fits x T) (hu:Up x.n):T.list=List.range x.n.length:=by
 have hp:=h.up
 rw[List.pairwise_map] at hp
 have inc:T.list.Pairwise (· < ·):=by
  refine List.pairwise_iff_getElem.2 fun a b ha hb hab=>?_
  have hlt:=List.pairwise_iff_getElem.1 hp a b ha hb hab
  have la:=h.rep.lt _ (List.getElem_mem ha)
  have lb:=h.rep.lt _ (List.getElem_mem hb)
  rw[qaQ (List.getElem?_eq_getElem la),qaQ (List.getElem?_eq_getElem lb)] at hlt
  apply Classical.byContradiction
  intro hn
  rcases Nat.lt_or_ge T.list[b] T.list[a] with h' | h'
  ·have:=qps hu h' (List.getElem?_eq_getElem lb) (List.getElem?_eq_getElem la)
   omega
  ·have e:T.list[a]=T.list[b]:=by omega
   simp only[e] at hlt
   omega
 have:=qiS inc fun k hk=>by rw[h.all];exact h.rep.lt k hk
 rw[h.all] at this
 exact this
theorem Rep.same {n n':List Pt}:∀ {T:Sh Nat} {i i':Int},Rep n i T→Rep n' i' T→i=i'∧∀ k∈T.list,∃ p p',n[k]?=some p∧n'[k]?=some p'∧p.a=p'.a∧p.b=p'.b
 | .nil,i,i',h,h'=>by
  have e:i = -1:=h
  have e':i' = -1:=h'
  exact⟨by omega,fun k hk=>by cases hk⟩
 | .node l y r,i,i',⟨h1,p,hp,a1,a2⟩,⟨k1,q,hq,b1,b2⟩=>by
  obtain⟨e1,g1⟩:=Rep.same a1 b1
  obtain⟨e2,g2⟩:=Rep.same a2 b2
  refine⟨by omega,fun k hk=>?_⟩
  rcases List.mem_append.1 hk with hk | hk
  ·exact g1 k hk
  ·rcases List.mem_cons.1 hk with rfl | hk
   ·exact⟨p,q,hp,hq,e1,e2⟩
   ·exact g2 k hk
end
end Go.Proofs.Ytalnjplghagbpaa

namespace Go.Proofs.Ytalnjplghagbpaa
set_option maxRecDepth 100000
open Go.RowKit
def rtI:Sh Nat→Int
 | .nil=>-1
 | .node _ k _=>(k:Int)
theorem Rep.rt {n:List Pt} {i:Int} {T:Sh Nat} (h:Rep n i T):i=rtI T:=by
 cases T with
 | nil=>exact h
 | node l k r=>exact h.1
theorem Rep.set {n:List Pt} {k:Nat} {q:Pt}:∀ {T:Sh Nat} {i:Int},Rep n i T→k∉T.list→Rep (n.set k q) i T
 | .nil,_,h,_=>h
 | .node l y r,i,⟨h1,p,hp,a1,a2⟩,hk=>by
  have n1:k∉l.list:=fun h=>hk (List.mem_append_left _ h)
  have n2:k≠y:=fun h=>hk (by rw[h];exact List.mem_append_right _ List.mem_cons_self)
  have n3:k∉r.list:=fun h=>hk (List.mem_append_right _ (List.mem_cons_of_mem _ h))
  exact⟨h1,p,by rw[List.getElem?_set_ne n2];exact hp,a1.set n1,a2.set n3⟩
theorem Rep.mono {n n':List Pt}:∀ {T:Sh Nat} {i:Int},Rep n i T→(∀ k∈T.list,n'[k]?=n[k]?)→Rep n' i T
 | .nil,_,h,_=>h
 | .node l y r,i,⟨h1,p,hp,a1,a2⟩,hk=>⟨h1,p,by rw[hk y (List.mem_append_right _ List.mem_cons_self)];exact hp,a1.mono fun k h=>hk k (List.mem_append_left _ h),a2.mono fun k h=>hk k (List.mem_append_right _ (List.mem_cons_of_mem _ h))⟩
def ndT (n:List Pt) (k:Nat):Pt:=n.getD k ⟨0,0,0⟩
theorem qas {n:List Pt} {k:Nat} (h:k<n.length):n[k]?=some (ndT n k):=by unfold ndT;rw[List.getD_eq_getElem?_getD,List.getElem?_eq_getElem h];rfl
def stA (n:List Pt) (k:Nat) (z:Int):List Pt:=n.set k { ndT n k with a:=z }
def qqx (n:List Pt) (k:Nat) (z:Int):List Pt:=n.set k { ndT n k with b:=z }
structure Only (n n':List Pt) (l:List Nat):Prop where
 len:n'.length=n.length
 id:∀ k,idN n' k=idN n k
 oth:∀ k,k∉l→n'[k]?=n[k]?
theorem Only.refl (n:List Pt) (l:List Nat):Only n n l:=⟨rfl,fun _=>rfl,fun _ _=>rfl⟩
theorem Only.trans {n m o:List Pt} {l:List Nat} (h:Only n m l) (k:Only m o l):Only n o l:=⟨k.len.trans h.len,fun j=>(k.id j).trans (h.id j),fun j hj=>(k.oth j hj).trans (h.oth j hj)⟩
theorem Only.mono {n m:List Pt} {l l':List Nat} (h:Only n m l) (hl:∀ k∈l,k∈l'):Only n m l':=⟨h.len,h.id,fun j hj=>h.oth j fun k=>hj (hl j k)⟩
theorem qg8 {n:List Pt} {k:Nat} {q:Pt} (hq:q.id=(ndT n k).id) {l:List Nat} (hk:k∈l):Only n (n.set k q) l:=by
 refine⟨List.length_set,fun j=>?_,fun j hj=>?_⟩
 ·unfold idN
  rw[List.getD_eq_getElem?_getD,List.getD_eq_getElem?_getD,List.getElem?_set]
  by_cases e:k=j
  ·subst e
   rw[if_pos rfl]
   by_cases hl:k<n.length
   ·rw[if_pos hl]
    have:=qas hl
    rw[this]
    exact hq
   ·rw[if_neg hl,List.getElem?_eq_none (by omega)]
  ·rw[if_neg e]
 ·rw[List.getElem?_set_ne fun e=>hj (by rw[← e];exact hk)]
theorem qgY {n:List Pt} {k:Nat} (z:Int) {l:List Nat} (hk:k∈l):Only n (stA n k z) l:=qg8 (q:={ ndT n k with a:=z }) rfl hk
theorem qgT {n:List Pt} {k:Nat} (z:Int) {l:List Nat} (hk:k∈l):Only n (qqx n k z) l:=qg8 (q:={ ndT n k with b:=z }) rfl hk
def jnN (b:Nat→Nat→Bool):Sh Nat→Sh Nat→List Pt→List Pt
 | .nil,_,n=>n
 | .node _ _ _,.nil,n=>n
 | .node l x r,.node l' y r',n=>if b x y=true then qqx (jnN b r (.node l' y r') n) x (rtI (Sh.mrg b r (.node l' y r'))) else stA (jnN b (.node l x r) l' n) y (rtI (Sh.mrg b (.node l x r) l'))
termination_by A B=>A.size+B.size
decreasing_by all_goals simp[Sh.size];omega
theorem qbJ (b:Nat→Nat→Bool):∀ (A B:Sh Nat) (n:List Pt),Only n (jnN b A B n) (A.list++B.list)
 | .nil,B,n=>by unfold jnN;exact Only.refl n _
 | .node l x r,.nil,n=>by unfold jnN;exact Only.refl n _
 | .node l x r,.node l' y r',n=>by
  unfold jnN
  split
  ·refine ((qbJ b r (.node l' y r') n).mono fun k hk=>?_).trans (qgT _ (List.mem_append_left _ (List.mem_append_right _ List.mem_cons_self)))
   rcases List.mem_append.1 hk with hk | hk
   ·exact List.mem_append_left _ (List.mem_append_right _ (List.mem_cons_of_mem _ hk))
   ·exact List.mem_append_right _ hk
  ·refine ((qbJ b (.node l x r) l' n).mono fun k hk=>?_).trans (qgY _ (List.mem_append_right _ (List.mem_append_right _ List.mem_cons_self)))
   rcases List.mem_append.1 hk with hk | hk
   ·exact List.mem_append_left _ hk
   ·exact List.mem_append_right _ (List.mem_append_left _ hk)
termination_by A B=>A.size+B.size
decreasing_by all_goals simp[Sh.size];omega
def res (lo hi:Nat):Sh Nat→Sh Nat
 | .nil=>.nil
 | .node l k r=>if k<lo then res lo hi r else if hi≤k then res lo hi l else .node (res lo hi l) k (res lo hi r)
theorem qdp {lo hi k:Nat}:∀ {T:Sh Nat},k∈(res lo hi T).list→k∈T.list∧lo≤k∧k<hi
 | .nil,h=>by cases h
 | .node l y r,h=>by
  unfold res at h
  split at h
  ·obtain⟨h1,h2⟩:=qdp h
   exact⟨List.mem_append_right _ (List.mem_cons_of_mem _ h1),h2⟩
  ·split at h
   ·obtain⟨h1,h2⟩:=qdp h
    exact⟨List.mem_append_left _ h1,h2⟩
   ·rcases List.mem_append.1 h with h | h
    ·obtain⟨h1,h2⟩:=qdp h
     exact⟨List.mem_append_left _ h1,h2⟩
    ·rcases List.mem_cons.1 h with rfl | h
     ·exact⟨List.mem_append_right _ List.mem_cons_self,by omega,by omega⟩
     ·obtain⟨h1,h2⟩:=qdp h
      exact⟨List.mem_append_right _ (List.mem_cons_of_mem _ h1),h2⟩
def shI (lo:Nat) (i:Int):Int:=if i<0 then -1 else i-lo
theorem qcF {lo hi:Nat}:∀ {T:Sh Nat},(∀ k∈T.list,lo≤k∧k<hi)→res lo hi T=T
 | .nil,_=>rfl
 | .node l k r,h=>by
  have hk:=h k (List.mem_append_right _ List.mem_cons_self)
  unfold res
  rw[if_neg (by omega),if_neg (by omega),qcF fun y hy=>h y (List.mem_append_left _ hy),qcF fun y hy=>h y (List.mem_append_right _ (List.mem_cons_of_mem _ hy))]
theorem qeX {l r:List Nat} {x:Nat} (h:(l++x::r).Pairwise (· < ·)):l.Pairwise (· < ·)∧r.Pairwise (· < ·)∧(∀ y∈l,y<x)∧(∀ y∈r,x<y):=by
 obtain⟨h1,h2,h3⟩:=List.pairwise_append.1 h
 obtain⟨h4,h5⟩:=List.pairwise_cons.1 h2
 exact⟨h1,h5,fun y hy=>h3 y hy x List.mem_cons_self,h4⟩
end Go.Proofs.Ytalnjplghagbpaa

namespace Go.Proofs.Ytalnjplghagbpaa
set_option maxRecDepth 100000
open Go.RowKit
theorem qsT {l:List Pt} (hv:Val l) {p q:Pt} (hp:p∈l) (hq:q∈l) (e:p.id=q.id):p=q:=by
 obtain⟨i,hi,rfl⟩:=List.getElem_of_mem hp
 obtain⟨j,hj,rfl⟩:=List.getElem_of_mem hq
 rcases Nat.lt_trichotomy i j with h | h | h
 ·have:=hv.up.mono h (List.getElem?_eq_getElem hi) (List.getElem?_eq_getElem hj);omega
 ·subst h;rfl
 ·have:=hv.up.mono h (List.getElem?_eq_getElem hj) (List.getElem?_eq_getElem hi);omega
def ptI (s:List Pt) (i:Int):Pt:=(s.find? fun q=>q.id==i).getD ⟨0,0,0⟩
theorem qd2 {s:List Pt} (hs:Val s) {q:Pt} (hq:q∈s):ptI s q.id=q:=by
 unfold ptI
 cases h:s.find? fun r=>r.id==q.id with
 | none=>
  have:=List.find?_eq_none.1 h q hq
  simp at this
 | some r=>
  have h1:=List.mem_of_find?_eq_some h
  have h2:=List.find?_some h
  exact qsT hs h1 hq (by simpa using h2)
def RI (s:List Pt) (tn td:Int) (a b:Int):Prop:=ld tn td (ptI s a) (ptI s b)=true
section
variable {s:List Pt} {tn td:Int}
theorem RI.asym (a b:Int) (h:RI s tn td a b):¬ RI s tn td b a:=fun k=>by
 have h2:ld tn td (ptI s b) (ptI s a)=true:=k
 rw[qeE h] at h2
 cases h2
theorem RI.trans {a b c:Int} (h:RI s tn td a b) (k:RI s tn td b c):RI s tn td a c:=qee h k
theorem qnr (hs:Val s):(s.map Pt.id).Pairwise (· < ·):=by
 rw[List.pairwise_map,List.pairwise_iff_getElem]
 intro i j hi hj hij
 exact hs.up.mono hij (List.getElem?_eq_getElem hi) (List.getElem?_eq_getElem hj)
theorem qmH {l:List Int} (h:l.Pairwise (· < ·)):l.Nodup:=h.imp fun hlt e=>by rw[e] at hlt;omega
structure TreeOf (s:List Pt) (tn td:Int) (S:Sh Int):Prop where
 ids:S.list=s.map Pt.id
 ho:S.HO (RI s tn td)
theorem TreeOf.uniq {S S':Sh Int} (hs:Val s) (h:TreeOf s tn td S) (h':TreeOf s tn td S'):S=S':=
 h.ho.uniq RI.asym h'.ho (h.ids.trans h'.ids.symm) (by rw[h.ids];exact qmH (qnr hs))
theorem qeC {R R':Int→Int→Prop}:∀ {S:Sh Int},(∀ a∈S.list,∀ b∈S.list,R a b→R' a b)→S.HO R→S.HO R'
 | .nil,_,_=>trivial
 | .node l x r,h,⟨h1,h2,h3,h4⟩=>by
  have mx:x∈(Sh.node l x r).list:=List.mem_append_right _ List.mem_cons_self
  have ml:∀ y∈l.list,y∈(Sh.node l x r).list:=fun y hy=>List.mem_append_left _ hy
  have mr:∀ y∈r.list,y∈(Sh.node l x r).list:=fun y hy=>List.mem_append_right _ (List.mem_cons_of_mem _ hy)
  exact⟨fun y hy=>h x mx y (ml y hy) (h1 y hy),fun y hy=>h x mx y (mr y hy) (h2 y hy),qeC (fun a ha b hb=>h a (ml a ha) b (ml b hb)) h3,qeC (fun a ha b hb=>h a (mr a ha) b (mr b hb)) h4⟩
theorem qiz {l la:List Pt} (hv:Val l) (h:la.Sublist l):Val la:=by
 refine⟨Nat.le_trans h.length_le hv.len,fun p hp=>hv.ok p (h.subset hp),?_⟩
 have pw:l.Pairwise fun p q=>p.id<q.id:=by
  rw[List.pairwise_iff_getElem]
  intro i j hi hj hij
  exact hv.up.mono hij (List.getElem?_eq_getElem hi) (List.getElem?_eq_getElem hj)
 have pw2:=pw.sublist h
 rw[List.pairwise_iff_getElem] at pw2
 intro k p q hp hq
 obtain⟨h1,rfl⟩:=List.getElem?_eq_some_iff.1 hp
 obtain⟨h2,rfl⟩:=List.getElem?_eq_some_iff.1 hq
 exact pw2 k (k+1) h1 h2 (by omega)
theorem RI.sub {la:List Pt} (hv:Val s) (h:la.Sublist s) {a b:Int} (ha:a∈la.map Pt.id) (hb:b∈la.map Pt.id):RI la tn td a b↔RI s tn td a b:=by
 obtain⟨p,hp,rfl⟩:=List.mem_map.1 ha
 obtain⟨q,hq,rfl⟩:=List.mem_map.1 hb
 unfold RI
 rw[qd2 (qiz hv h) hp,qd2 (qiz hv h) hq,qd2 hv (h.subset hp),qd2 hv (h.subset hq)]
theorem TreeOf.low {S:Sh Int} (hs:Val s) (h:TreeOf s tn td S) (c:Int):TreeOf (s.filter fun p=>decide (p.id<c)) tn td (S.cutL c):=by
 have hu:S.list.Pairwise (· < ·):=by rw[h.ids];exact qnr hs
 have e:(S.cutL c).list=(s.filter fun p=>decide (p.id<c)).map Pt.id:=by
  rw[Sh.cutL_list c hu,h.ids,List.filter_map];rfl
 refine⟨e,qeC (fun a ha b hb k=>?_) (Sh.cutL_ho c h.ho)⟩
 rw[e] at ha hb
 exact (RI.sub hs List.filter_sublist ha hb).2 k
end
end Go.Proofs.Ytalnjplghagbpaa
