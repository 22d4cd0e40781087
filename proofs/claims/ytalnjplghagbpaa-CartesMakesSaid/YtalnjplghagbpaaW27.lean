/-
  Joined: Ud, Ue. Conditions: none.
-/
import Derived.Test.YtalnjplghagbpaaW26
import Derived.Test.YtalnjplghagbpaaW19
namespace Go.Proofs.Ytalnjplghagbpaa
set_option maxRecDepth 100000
open Go.RowKit
def unf (n:List Pt):Nat→Int→Option (Sh Nat)
 | 0,i=>if i<0 then some .nil else none
 | f+1,i=>if i<0 then some .nil else match n[i.toNat]? with
  | none=>none
  | some p=>match unf n f p.a,unf n f p.b with
   | some l,some r=>some (.node l i.toNat r)
   | _,_=>none
section
variable {x:Tr}
theorem qfD (hL:Lnk x):∀ {f:Nat} {i:Int} {T:Sh Nat},-1≤i→unf x.n f i=some T→Rep x.n i T
 | 0,i,T,hi,h=>by
  unfold unf at h
  split at h
  ·cases h;show i = -1;omega
  ·cases h
 | f+1,i,T,hi,h=>by
  unfold unf at h
  split at h
  ·cases h;show i = -1;omega
  ·split at h
   ·cases h
   ·rename_i p hp
    split at h
    ·rename_i l r e1 e2
     cases h
     obtain⟨⟨b1,_⟩,b2,_⟩:=hL p (List.mem_of_getElem? hp)
     exact⟨by omega,p,hp,qfD hL b1 e1,qfD hL b2 e2⟩
    ·cases h
def Pth (n:List Pt) (l:List Nat):Prop:=∀ (j u v:Nat),l[j]?=some u→l[j+1]?=some v→1≤lk n u v
theorem qg6 (hL:Lnk x):∀ {f:Nat} {i:Int},i<(x.n.length:Int)→unf x.n f i=none→∃ l:List Nat,l.length=f+1∧l[0]?=some i.toNat∧0≤i∧Pth x.n l∧∀ v∈l,v<x.n.length
 | 0,i,hi,h=>by
  unfold unf at h
  split at h
  ·cases h
  ·refine⟨[i.toNat],rfl,rfl,by omega,fun j u v _ hv=>by simp at hv,fun v hv=>?_⟩
   rw[List.mem_singleton] at hv
   omega
 | f+1,i,hi,h=>by
  unfold unf at h
  split at h
  ·cases h
  ·rename_i h0
   have hil:i.toNat<x.n.length:=by omega
   have hp:=List.getElem?_eq_getElem hil
   have hm:=hL _ (List.getElem_mem hil)
   generalize hpe:x.n[i.toNat]=p at hp hm
   obtain⟨⟨_,b1⟩,_,b2⟩:=hm
   rw[hp] at h
   simp only at h
   have ext:∀ {c:Int},(p.a=c∨p.b=c)→c<(x.n.length:Int)→unf x.n f c=none→∃ l:List Nat,l.length=f+1+1∧l[0]?=some i.toNat∧0≤i∧Pth x.n l∧∀ v∈l,v<x.n.length:=by
    intro c hc hb hn
    obtain⟨l,l1,l2,l3,l4,l5⟩:=qg6 hL hb hn
    refine⟨i.toNat::l,by rw[List.length_cons,l1],rfl,by omega,fun j u v hu hv=>?_,fun v hv=>?_⟩
    ·match j,hu,hv with
     | 0,hu,hv=>
      rw[List.getElem?_cons_zero] at hu
      rw[List.getElem?_cons_succ,l2] at hv
      cases hu
      cases hv
      refine qmQ hp ?_
      rw[show ((c.toNat:Nat):Int)=c by omega]
      exact hc
     | j+1,hu,hv=>
      rw[List.getElem?_cons_succ] at hu hv
      exact l4 j u v hu hv
    ·rcases List.mem_cons.1 hv with rfl | hv
     ·exact hil
     ·exact l5 v hv
   cases e1:unf x.n f p.a with
   | none=>exact ext (Or.inl rfl) b1 e1
   | some l=>
    cases e2:unf x.n f p.b with
    | none=>exact ext (Or.inr rfl) b2 e2
    | some r=>rw[e1,e2] at h;cases h
theorem One.tree (h1:One x) (hL:Lnk x) (hr : -1≤x.r∧x.r<(x.n.length:Int)):∃ T,Rep x.n x.r T:=by
 cases e:unf x.n x.n.length x.r with
 | some T=>exact⟨T,qfD hL hr.1 e⟩
 | none=>
  obtain⟨l,l1,l2,l3,l4,l5⟩:=qg6 hL hr.2 e
  have back:∀ (a b v:Nat),a<b→l[a]?=some v→l[b]?=some v→False:=by
   intro a
   induction a with
   | zero=>
    intro b v hab ha hb
    obtain⟨b',rfl⟩:∃ b',b=b'+1:=⟨b-1,by omega⟩
    rw[l2] at ha
    have hbl:b'<l.length:=by have:=(List.getElem?_eq_some_iff.1 hb).1;omega
    have hk:=l4 b' _ v (List.getElem?_eq_getElem hbl) hb
    have hv:v<x.n.length:=l5 v (List.mem_of_getElem? hb)
    have hc:=h1 v hv
    rw[if_pos (by have:=Option.some.inj ha;omega)] at hc
    have hge:=qd3 (f:=fun u=>lk x.n u v) (List.mem_range.2 (l5 _ (List.getElem_mem hbl)))
    have hc':((List.range x.n.length).map fun u=>lk x.n u v).sum=0:=hc
    have:lk x.n l[b'] v≤0:=by rw[← hc'];exact hge
    omega
   | succ a ih=>
    intro b v hab ha hb
    obtain⟨b',rfl⟩:∃ b',b=b'+1:=⟨b-1,by omega⟩
    have hbl:b'<l.length:=by have:=(List.getElem?_eq_some_iff.1 hb).1;omega
    have hal:a<l.length:=by have:=(List.getElem?_eq_some_iff.1 ha).1;omega
    have k1:=l4 a _ v (List.getElem?_eq_getElem hal) ha
    have k2:=l4 b' _ v (List.getElem?_eq_getElem hbl) hb
    have e:=h1.par (l5 v (List.mem_of_getElem? hb)) k1 k2
    exact ih b' l[a] (by omega) (List.getElem?_eq_getElem hal) (by rw[e];exact List.getElem?_eq_getElem hbl)
  have hn:¬ l.Nodup:=fun hn=>by
   have:=hn.length_le_of_subset (l₂:=List.range x.n.length) fun v hv=>List.mem_range.2 (l5 v hv)
   rw[List.length_range] at this
   omega
  exact (hn (List.pairwise_iff_getElem.2 fun a b ha hb hab e=>back a b l[a] hab (List.getElem?_eq_getElem ha) (by rw[e];exact List.getElem?_eq_getElem hb))).elim
end
def idN (n:List Pt) (k:Nat):Int:=(n.getD k ⟨0,0,0⟩).id
theorem qaC {n:List Pt} {k:Nat} {p:Pt} (h:n[k]?=some p):idN n k=p.id:=by unfold idN;rw[List.getD_eq_getElem?_getD,h];rfl
structure Fits (x:Tr) (T:Sh Nat):Prop where
 rep:Rep x.n x.r T
 all:T.list.length=x.n.length
 up:(T.list.map (idN x.n)).Pairwise (· < ·)
structure VT (x:Tr):Prop where
 len:x.n.length≤64
 rng:∀ p∈x.n,0≤p.id∧p.id≤65535
 tree:∃ T,Fits x T
section
variable {x:Tr} {T:Sh Nat}
theorem Fits.nodup (h:Fits x T):T.list.Nodup:=by
 have:=h.up
 rw[List.pairwise_map] at this
 exact this.imp fun hlt e=>by rw[e] at hlt;omega
theorem Fits.mem (h:Fits x T) (k:Nat):k∈T.list↔k<x.n.length:=by
 refine⟨h.rep.lt k,fun hk=>?_⟩
 apply Classical.byContradiction
 intro hn
 have:=(List.nodup_cons.2 ⟨hn,h.nodup⟩).length_le_of_subset (l₂:=List.range x.n.length) fun v hv=>by
  rcases List.mem_cons.1 hv with rfl | hv
  ·exact List.mem_range.2 hk
  ·exact List.mem_range.2 (h.rep.lt v hv)
 rw[List.length_cons,List.length_range,h.all] at this
 omega
theorem Fits.perm (h:Fits x T):T.list.Perm (List.range x.n.length):=(List.perm_ext_iff_of_nodup h.nodup List.nodup_range).2 fun k=>(h.mem k).trans List.mem_range.symm
theorem Fits.one (h:Fits x T):One x:=fun v hv=>by
 have e:=qbT v h.rep
 rw[h.nodup.count,if_pos ((h.mem v).2 hv),(h.perm.map fun u=>lk x.n u v).sum_nat] at e
 show ((List.range x.n.length).map fun u=>lk x.n u v).sum=_
 by_cases hr:x.r=(v:Int)
 ·rw[if_pos hr] at e;rw[if_pos hr.symm];omega
 ·rw[if_neg hr] at e;rw[if_neg fun k=>hr k.symm];omega
theorem Rep.links {n:List Pt}:∀ {T:Sh Nat} {i:Int},Rep n i T→∀ k∈T.list,∃ p,n[k]?=some p∧(-1≤p.a∧p.a<(n.length:Int))∧(-1≤p.b∧p.b<(n.length:Int))
 | .nil,_,_,k,h=>by cases h
 | .node l y r,i,⟨_,p,hp,a1,a2⟩,k,h=>by
  rcases List.mem_append.1 h with h | h
  ·exact a1.links k h
  ·rcases List.mem_cons.1 h with rfl | h
   ·exact⟨p,hp,⟨a1.rng.1,a1.rng.2.1⟩,a2.rng.1,a2.rng.2.1⟩
   ·exact a2.links k h
theorem Fits.lnk (h:Fits x T):Lnk x:=fun p hp=>by
 obtain⟨k,hk⟩:=List.getElem?_of_mem hp
 obtain⟨q,hq,h1⟩:=h.rep.links k ((h.mem k).2 (List.getElem?_eq_some_iff.1 hk).1)
 rw[hk] at hq
 cases hq
 exact h1
theorem Fits.root (h:Fits x T):(-1≤x.r∧x.r<(x.n.length:Int))∧(x.r = -1↔x.n.length=0):=by
 obtain⟨h1,h2,h3⟩:=h.rep.rng
 refine⟨⟨h1,h2⟩,h3.trans ⟨fun e=>?_,fun e=>?_⟩⟩
 ·have:=h.all
  rw[e] at this
  exact this.symm
 ·have:=h.all
  cases T with
  | nil=>rfl
  | node l y r=>rw[e] at this;simp[Sh.list] at this
theorem Fits.uniq {T':Sh Nat} (h:Fits x T) (h':Fits x T'):T=T':=h.rep.uniq h'.rep
theorem qiw {l:List Nat} (hp:l.Pairwise (· < ·)) (hb:∀ k∈l,k<l.length):l=List.range l.length:=by
 have lo:∀ (j:Nat) (hj:j<l.length),j≤l[j]:=by
  intro j
  induction j with
  | zero=>intro _;omega
  | succ j ih=>
   intro hj
   have:=List.pairwise_iff_getElem.1 hp j (j+1) (by omega) hj (by omega)
   have:=ih (by omega)
   omega
 have hi:∀ (d j:Nat) (hj:j<l.length),j+d+1=l.length→l[j]≤j:=by
  intro d
  induction d with
  | zero=>
   intro j hj e
   have:=hb _ (List.getElem_mem hj)
   omega
  | succ d ih=>
   intro j hj e
   have h1:=List.pairwise_iff_getElem.1 hp j (j+1) hj (by omega) (by omega)
   have:=ih (j+1) (by omega) (by omega)
   omega
 refine List.ext_getElem (by rw[List.length_range]) fun j h1 h2=>?_
 rw[List.getElem_range]
 have:=lo j h1
 have:=hi (l.length-1-j) j h1 (by omega)
 omega
theorem qfC {n:List Pt} (hu:Up n):∀ {j k:Nat} {p q:Pt},j<k→n[j]?=some p→n[k]?=some q→p.id<q.id:=by
 intro j k p q hjk hp hq
 exact hu.mono hjk hp hq
theorem Fits.range (h:Fits x T) (hu:Up x.n):T.list=List.range x.n.length:=by
 have hp:=h.up
 rw[List.pairwise_map] at hp
 have inc:T.list.Pairwise (· < ·):=by
  refine List.pairwise_iff_getElem.2 fun a b ha hb hab=>?_
  have hlt:=List.pairwise_iff_getElem.1 hp a b ha hb hab
  have la:=h.rep.lt _ (List.getElem_mem ha)
  have lb:=h.rep.lt _ (List.getElem_mem hb)
  rw[qaC (List.getElem?_eq_getElem la),qaC (List.getElem?_eq_getElem lb)] at hlt
  apply Classical.byContradiction
  intro hn
  rcases Nat.lt_or_ge T.list[b] T.list[a] with h' | h'
  ·have:=qfC hu h' (List.getElem?_eq_getElem lb) (List.getElem?_eq_getElem la)
   omega
  ·have e:T.list[a]=T.list[b]:=by omega
   simp only[e] at hlt
   omega
 have:=qiw inc fun k hk=>by rw[h.all];exact h.rep.lt k hk
 rw[h.all] at this
 exact this
theorem Rep.same {n n':List Pt}:∀ {T:Sh Nat} {i i':Int},Rep n i T→Rep n' i' T→i=i'∧∀ k∈T.list,∃ p p',n[k]?=some p∧n'[k]?=some p'∧p.a=p'.a∧p.b=p'.b
 | .nil,i,i',h,h'=>by
  have e:i = -1:=h
  have e':i' = -1:=h'
  exact⟨by omega,fun k hk=>by cases hk⟩
 | .node l y r,i,i',⟨h1,p,hp,a1,a2⟩,⟨k1,q,hq,b1,b2⟩=>by
  obtain⟨e1,g1⟩:=Rep.same a1 b1
  obtain⟨e2,g2⟩:=Rep.same a2 b2
  refine⟨by omega,fun k hk=>?_⟩
  rcases List.mem_append.1 hk with hk | hk
  ·exact g1 k hk
  ·rcases List.mem_cons.1 hk with rfl | hk
   ·exact⟨p,q,hp,hq,e1,e2⟩
   ·exact g2 k hk
def idT (n:List Pt) (T:Sh Nat):Sh Int:=T.map (idN n)
theorem Fits.ext {y:Tr} {T':Sh Nat} (h:Fits x T) (h':Fits y T') (hu:Up x.n) (hu':Up y.n) (e:idT x.n T=idT y.n T'):x.r=y.r∧x.n=y.n:=by
 have r1:=h.range hu
 have r2:=h'.range hu'
 have el:T.list.map (idN x.n)=T'.list.map (idN y.n):=by
  rw[← Sh.map_list,← Sh.map_list]
  exact congrArg Sh.list e
 have len:x.n.length=y.n.length:=by
  have:=congrArg List.length el
  rw[List.length_map,List.length_map,h.all,h'.all] at this
  exact this
 have ids:∀ k,k<x.n.length→idN x.n k=idN y.n k:=fun k hk=>by
  rw[r1,r2,← len] at el
  have e1:((List.range x.n.length).map (idN x.n))[k]?=((List.range x.n.length).map (idN y.n))[k]?:=by rw[el]
  rw[List.getElem?_map,List.getElem?_map,List.getElem?_range hk] at e1
  exact Option.some.inj e1
 have eT:T=T':=by
  have e2:T.map (idN x.n)=T'.map (idN x.n):=by
   have:∀ S:Sh Nat,(∀ k∈S.list,k<x.n.length)→S.map (idN y.n)=S.map (idN x.n):=by
    intro S
    induction S with
    | nil=>intro _;rfl
    | node l k r il ir=>
     intro hb
     show Sh.node _ _ _=Sh.node _ _ _
     rw[il fun a ha=>hb a (List.mem_append_left _ ha),ir fun a ha=>hb a (List.mem_append_right _ (List.mem_cons_of_mem _ ha)),ids k (hb k (List.mem_append_right _ List.mem_cons_self))]
   rw[← this T' fun k hk=>by rw[len];exact h'.rep.lt k hk]
   exact e
  refine Sh.map_inj e2 fun a ha b hb hab=>?_
  have la:=h.rep.lt a ha
  have lb:b<x.n.length:=by rw[len];exact h'.rep.lt b hb
  rw[qaC (List.getElem?_eq_getElem la),qaC (List.getElem?_eq_getElem lb)] at hab
  rcases Nat.lt_trichotomy a b with h0 | h0 | h0
  ·have:=qfC hu h0 (List.getElem?_eq_getElem la) (List.getElem?_eq_getElem lb);omega
  ·exact h0
  ·have:=qfC hu h0 (List.getElem?_eq_getElem lb) (List.getElem?_eq_getElem la);omega
 subst eT
 obtain⟨er,ek⟩:=Rep.same h.rep h'.rep
 refine⟨er,List.ext_getElem? fun k=>?_⟩
 rcases Nat.lt_or_ge k x.n.length with hk | hk
 ·obtain⟨p,q,hp,hq,ea,eb⟩:=ek k ((h.mem k).2 hk)
  have ei:=ids k hk
  rw[qaC hp,qaC hq] at ei
  rw[hp,hq]
  cases p
  cases q
  simp only at ea eb ei
  rw[ea,eb,ei]
 ·rw[List.getElem?_eq_none hk,List.getElem?_eq_none (by omega)]
end
end Go.Proofs.Ytalnjplghagbpaa

namespace Go.Proofs.Ytalnjplghagbpaa
set_option maxRecDepth 100000
open Go.RowKit
def rtI:Sh Nat→Int
 | .nil=>-1
 | .node _ k _=>(k:Int)
theorem Rep.rt {n:List Pt} {i:Int} {T:Sh Nat} (h:Rep n i T):i=rtI T:=by
 cases T with
 | nil=>exact h
 | node l k r=>exact h.1
theorem Rep.set {n:List Pt} {k:Nat} {q:Pt}:∀ {T:Sh Nat} {i:Int},Rep n i T→k∉T.list→Rep (n.set k q) i T
 | .nil,_,h,_=>h
 | .node l y r,i,⟨h1,p,hp,a1,a2⟩,hk=>by
  have n1:k∉l.list:=fun h=>hk (List.mem_append_left _ h)
  have n2:k≠y:=fun h=>hk (by rw[h];exact List.mem_append_right _ List.mem_cons_self)
  have n3:k∉r.list:=fun h=>hk (List.mem_append_right _ (List.mem_cons_of_mem _ h))
  exact⟨h1,p,by rw[List.getElem?_set_ne n2];exact hp,a1.set n1,a2.set n3⟩
theorem Rep.mono {n n':List Pt}:∀ {T:Sh Nat} {i:Int},Rep n i T→(∀ k∈T.list,n'[k]?=n[k]?)→Rep n' i T
 | .nil,_,h,_=>h
 | .node l y r,i,⟨h1,p,hp,a1,a2⟩,hk=>⟨h1,p,by rw[hk y (List.mem_append_right _ List.mem_cons_self)];exact hp,a1.mono fun k h=>hk k (List.mem_append_left _ h),a2.mono fun k h=>hk k (List.mem_append_right _ (List.mem_cons_of_mem _ h))⟩
def ndT (n:List Pt) (k:Nat):Pt:=n.getD k ⟨0,0,0⟩
theorem qau {n:List Pt} {k:Nat} (h:k<n.length):n[k]?=some (ndT n k):=by unfold ndT;rw[List.getD_eq_getElem?_getD,List.getElem?_eq_getElem h];rfl
def stA (n:List Pt) (k:Nat) (z:Int):List Pt:=n.set k { ndT n k with a:=z }
def qmh (n:List Pt) (k:Nat) (z:Int):List Pt:=n.set k { ndT n k with b:=z }
structure Only (n n':List Pt) (l:List Nat):Prop where
 len:n'.length=n.length
 id:∀ k,idN n' k=idN n k
 oth:∀ k,k∉l→n'[k]?=n[k]?
theorem Only.refl (n:List Pt) (l:List Nat):Only n n l:=⟨rfl,fun _=>rfl,fun _ _=>rfl⟩
theorem Only.trans {n m o:List Pt} {l:List Nat} (h:Only n m l) (k:Only m o l):Only n o l:=⟨k.len.trans h.len,fun j=>(k.id j).trans (h.id j),fun j hj=>(k.oth j hj).trans (h.oth j hj)⟩
theorem Only.mono {n m:List Pt} {l l':List Nat} (h:Only n m l) (hl:∀ k∈l,k∈l'):Only n m l':=⟨h.len,h.id,fun j hj=>h.oth j fun k=>hj (hl j k)⟩
theorem qg2 {n:List Pt} {k:Nat} {q:Pt} (hq:q.id=(ndT n k).id) {l:List Nat} (hk:k∈l):Only n (n.set k q) l:=by
 refine⟨List.length_set,fun j=>?_,fun j hj=>?_⟩
 ·unfold idN
  rw[List.getD_eq_getElem?_getD,List.getD_eq_getElem?_getD,List.getElem?_set]
  by_cases e:k=j
  ·subst e
   rw[if_pos rfl]
   by_cases hl:k<n.length
   ·rw[if_pos hl]
    have:=qau hl
    rw[this]
    exact hq
   ·rw[if_neg hl,List.getElem?_eq_none (by omega)]
  ·rw[if_neg e]
 ·rw[List.getElem?_set_ne fun e=>hj (by rw[← e];exact hk)]
theorem qg0 {n:List Pt} {k:Nat} (z:Int) {l:List Nat} (hk:k∈l):Only n (stA n k z) l:=qg2 (q:={ ndT n k with a:=z }) rfl hk
theorem qi6 {n:List Pt} {k:Nat} (z:Int) {l:List Nat} (hk:k∈l):Only n (qmh n k z) l:=qg2 (q:={ ndT n k with b:=z }) rfl hk
def grN:Sh Nat→List Pt→List Pt
 | .nil,n=>n
 | .node l k r,n=>qmh (grN r (stA (grN l n) k (rtI l))) k (rtI r)
theorem qbs:∀ (T:Sh Nat) (n:List Pt),Only n (grN T n) T.list
 | .nil,n=>Only.refl n _
 | .node l k r,n=>by
  have mk:k∈(Sh.node l k r).list:=List.mem_append_right _ List.mem_cons_self
  refine (((qbs l n).mono fun y hy=>List.mem_append_left _ hy).trans (qg0 _ mk)).trans (((qbs r _).mono fun y hy=>List.mem_append_right _ (List.mem_cons_of_mem _ hy)).trans (qi6 _ mk))
theorem qfX:∀ (T:Sh Nat) (n:List Pt),T.list.Nodup→(∀ k∈T.list,k<n.length)→Rep (grN T n) (rtI T) T
 | .nil,n,_,_=>rfl
 | .node l k r,n,hn,hb=>by
  obtain⟨o1,o2,o3,o4⟩:=Sh.mid_out hn
  have dis:∀ y∈l.list,y∉r.list:=fun y hy hr=>(List.nodup_append.1 hn).2.2 y hy y (List.mem_cons_of_mem _ hr) rfl
  have hk:=hb k (List.mem_append_right _ List.mem_cons_self)
  have q1:=qbs l n
  have q2:=qg0 (n:=grN l n) (k:=k) (rtI l) (l:=[k]) List.mem_cons_self
  have q3:=qbs r (stA (grN l n) k (rtI l))
  have q4:=qi6 (n:=grN r (stA (grN l n) k (rtI l))) (k:=k) (rtI r) (l:=[k]) List.mem_cons_self
  have r1:=qfX l n o3 fun y hy=>hb y (List.mem_append_left _ hy)
  have r2:=qfX r (stA (grN l n) k (rtI l)) o4 fun y hy=>by rw[q2.len,q1.len];exact hb y (List.mem_append_right _ (List.mem_cons_of_mem _ hy))
  have nk:∀ y∈l.list,y∉[k]:=fun y hy h=>by rw[List.mem_singleton] at h;exact o1 (h▸hy)
  have nk2:∀ y∈r.list,y∉[k]:=fun y hy h=>by rw[List.mem_singleton] at h;exact o2 (h▸hy)
  have kl:k<(grN l n).length:=by rw[q1.len];exact hk
  have kl2:k<(grN r (stA (grN l n) k (rtI l))).length:=by rw[q3.len,q2.len];exact kl
  have e1:(grN r (stA (grN l n) k (rtI l)))[k]?=some { ndT (grN l n) k with a:=rtI l }:=by
   rw[q3.oth k o2]
   unfold stA
   rw[List.getElem?_set,if_pos rfl,if_pos kl]
  have e2:ndT (grN r (stA (grN l n) k (rtI l))) k={ ndT (grN l n) k with a:=rtI l }:=by
   have:=qau kl2
   rw[e1] at this
   exact (Option.some.inj this).symm
  refine⟨rfl,{ ndT (grN l n) k with a:=rtI l,b:=rtI r },?_,?_,?_⟩
  ·show (qmh _ k (rtI r))[k]?=_
   unfold qmh
   rw[List.getElem?_set,if_pos rfl,if_pos kl2,e2]
  ·exact r1.mono fun y hy=>by rw[show (grN (.node l k r) n)[y]?=(qmh (grN r (stA (grN l n) k (rtI l))) k (rtI r))[y]? from rfl,q4.oth y (nk y hy),q3.oth y (dis y hy),q2.oth y (nk y hy)]
  ·exact r2.mono fun y hy=>q4.oth y (nk2 y hy)
def jnN (b:Nat→Nat→Bool):Sh Nat→Sh Nat→List Pt→List Pt
 | .nil,_,n=>n
 | .node _ _ _,.nil,n=>n
 | .node l x r,.node l' y r',n=>if b x y=true then qmh (jnN b r (.node l' y r') n) x (rtI (Sh.mrg b r (.node l' y r'))) else stA (jnN b (.node l x r) l' n) y (rtI (Sh.mrg b (.node l x r) l'))
termination_by A B=>A.size+B.size
decreasing_by all_goals simp[Sh.size];omega
theorem qbH (b:Nat→Nat→Bool):∀ (A B:Sh Nat) (n:List Pt),Only n (jnN b A B n) (A.list++B.list)
 | .nil,B,n=>by unfold jnN;exact Only.refl n _
 | .node l x r,.nil,n=>by unfold jnN;exact Only.refl n _
 | .node l x r,.node l' y r',n=>by
  unfold jnN
  split
  ·refine ((qbH b r (.node l' y r') n).mono fun k hk=>?_).trans (qi6 _ (List.mem_append_left _ (List.mem_append_right _ List.mem_cons_self)))
   rcases List.mem_append.1 hk with hk | hk
   ·exact List.mem_append_left _ (List.mem_append_right _ (List.mem_cons_of_mem _ hk))
   ·exact List.mem_append_right _ hk
  ·refine ((qbH b (.node l x r) l' n).mono fun k hk=>?_).trans (qg0 _ (List.mem_append_right _ (List.mem_append_right _ List.mem_cons_self)))
   rcases List.mem_append.1 hk with hk | hk
   ·exact List.mem_append_left _ hk
   ·exact List.mem_append_right _ (List.mem_append_left _ hk)
termination_by A B=>A.size+B.size
decreasing_by all_goals simp[Sh.size];omega
theorem qfA (b:Nat→Nat→Bool):∀ (A B:Sh Nat) (n:List Pt),Rep n (rtI A) A→Rep n (rtI B) B→(A.list++B.list).Nodup→Rep (jnN b A B n) (rtI (Sh.mrg b A B)) (Sh.mrg b A B)
 | .nil,B,n,_,h,_=>by rw[jnN,Sh.mrg];exact h
 | .node l x r,.nil,n,h,_,_=>by rw[jnN,Sh.mrg];exact h
 | .node l x r,.node l' y r',n,hA,hB,hn=>by
  obtain⟨_,p,hp,a1,a2⟩:=hA
  obtain⟨_,q,hq,b1,b2⟩:=hB
  obtain⟨nA,nB,nAB⟩:=List.nodup_append.1 hn
  obtain⟨o1,o2,o3,o4⟩:=Sh.mid_out nA
  obtain⟨p1,p2,p3,p4⟩:=Sh.mid_out nB
  have dA:∀ k∈l.list,k∉r.list:=fun k hk hr=>(List.nodup_append.1 nA).2.2 k hk k (List.mem_cons_of_mem _ hr) rfl
  have dB:∀ k∈l'.list,k∉r'.list:=fun k hk hr=>(List.nodup_append.1 nB).2.2 k hk k (List.mem_cons_of_mem _ hr) rfl
  have mx:x∈(Sh.node l x r).list:=List.mem_append_right _ List.mem_cons_self
  have my:y∈(Sh.node l' y r').list:=List.mem_append_right _ List.mem_cons_self
  have ml:∀ k∈l.list,k∈(Sh.node l x r).list:=fun k hk=>List.mem_append_left _ hk
  have mr:∀ k∈r.list,k∈(Sh.node l x r).list:=fun k hk=>List.mem_append_right _ (List.mem_cons_of_mem _ hk)
  have ml':∀ k∈l'.list,k∈(Sh.node l' y r').list:=fun k hk=>List.mem_append_left _ hk
  have mr':∀ k∈r'.list,k∈(Sh.node l' y r').list:=fun k hk=>List.mem_append_right _ (List.mem_cons_of_mem _ hk)
  have hxl:=(List.getElem?_eq_some_iff.1 hp).1
  have hyl:=(List.getElem?_eq_some_iff.1 hq).1
  rw[jnN,Sh.mrg]
  by_cases hc:b x y=true
  ·rw[if_pos hc,if_pos hc]
   have n2:(r.list++(Sh.node l' y r').list).Nodup:=List.nodup_append.2 ⟨o4,nB,fun k hk m hm e=>nAB k (mr k hk) m hm e⟩
   have ih:=qfA b r (.node l' y r') n (by rw[← a2.rt];exact a2) ⟨rfl,q,hq,b1,b2⟩ n2
   have on:=qbH b r (.node l' y r') n
   have hx:x∉r.list++(Sh.node l' y r').list:=fun h=>by
    rcases List.mem_append.1 h with h | h
    ·exact o2 h
    ·exact nAB x mx x h rfl
   have hl:∀ k∈l.list,k∉r.list++(Sh.node l' y r').list:=fun k hk h=>by
    rcases List.mem_append.1 h with h | h
    ·exact dA k hk h
    ·exact nAB k (ml k hk) k h rfl
   have ex:ndT (jnN b r (.node l' y r') n) x=p:=by
    have:=qau (n:=jnN b r (.node l' y r') n) (k:=x) (by rw[on.len];exact hxl)
    rw[on.oth x hx,hp] at this
    exact (Option.some.inj this).symm
   refine⟨rfl,{ p with b:=rtI (Sh.mrg b r (.node l' y r')) },?_,?_,?_⟩
   ·unfold qmh
    rw[List.getElem?_set,if_pos rfl,if_pos (by rw[on.len];exact hxl),ex]
   ·unfold qmh
    exact (a1.mono fun k hk=>on.oth k (hl k hk)).set o1
   ·unfold qmh
    exact ih.set (by rw[Sh.mrg_list];exact hx)
  ·rw[if_neg hc,if_neg hc]
   have n2:((Sh.node l x r).list++l'.list).Nodup:=List.nodup_append.2 ⟨nA,p3,fun k hk m hm e=>nAB k hk m (ml' m hm) e⟩
   have ih:=qfA b (.node l x r) l' n ⟨rfl,p,hp,a1,a2⟩ (by rw[← b1.rt];exact b1) n2
   have on:=qbH b (.node l x r) l' n
   have hy:y∉(Sh.node l x r).list++l'.list:=fun h=>by
    rcases List.mem_append.1 h with h | h
    ·exact nAB y h y my rfl
    ·exact p1 h
   have hr:∀ k∈r'.list,k∉(Sh.node l x r).list++l'.list:=fun k hk h=>by
    rcases List.mem_append.1 h with h | h
    ·exact nAB k h k (mr' k hk) rfl
    ·exact dB k h hk
   have ey:ndT (jnN b (.node l x r) l' n) y=q:=by
    have:=qau (n:=jnN b (.node l x r) l' n) (k:=y) (by rw[on.len];exact hyl)
    rw[on.oth y hy,hq] at this
    exact (Option.some.inj this).symm
   refine⟨rfl,{ q with a:=rtI (Sh.mrg b (.node l x r) l') },?_,?_,?_⟩
   ·unfold stA
    rw[List.getElem?_set,if_pos rfl,if_pos (by rw[on.len];exact hyl),ey]
   ·unfold stA
    exact ih.set (by rw[Sh.mrg_list];exact hy)
   ·unfold stA
    exact (b2.mono fun k hk=>on.oth k (hr k hk)).set p2
termination_by A B=>A.size+B.size
decreasing_by all_goals simp[Sh.size];omega
end Go.Proofs.Ytalnjplghagbpaa
