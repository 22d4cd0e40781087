/-
  Joined: Ue, Uf, Ug. Conditions: none.
-/
import Derived.Test.YtalnjplghagbpaaW27
import Derived.Test.YtalnjplghagbpaaW19
import Derived.Test.YtalnjplghagbpaaW26
import Derived.Test.YtalnjplghagbpaaW23
namespace Go.Proofs.Ytalnjplghagbpaa
set_option maxRecDepth 100000
open Go.RowKit
def rtI:Sh Nat→Int
 | .nil=>-1
 | .node _ k _=>(k:Int)
theorem Rep.rt {n:List Pt} {i:Int} {T:Sh Nat} (h:Rep n i T):i=rtI T:=by
 cases T with
 | nil=>exact h
 | node l k r=>exact h.1
theorem Rep.set {n:List Pt} {k:Nat} {q:Pt}:∀ {T:Sh Nat} {i:Int},Rep n i T→k∉T.list→Rep (n.set k q) i T
 | .nil,_,h,_=>h
 | .node l y r,i,⟨h1,p,hp,a1,a2⟩,hk=>by
  have n1:k∉l.list:=fun h=>hk (List.mem_append_left _ h)
  have n2:k≠y:=fun h=>hk (by rw[h];exact List.mem_append_right _ List.mem_cons_self)
  have n3:k∉r.list:=fun h=>hk (List.mem_append_right _ (List.mem_cons_of_mem _ h))
  exact⟨h1,p,by rw[List.getElem?_set_ne n2];exact hp,a1.set n1,a2.set n3⟩
theorem Rep.mono {n n':List Pt}:∀ {T:Sh Nat} {i:Int},Rep n i T→(∀ k∈T.list,n'[k]?=n[k]?)→Rep n' i T
 | .nil,_,h,_=>h
 | .node l y r,i,⟨h1,p,hp,a1,a2⟩,hk=>⟨h1,p,by rw[hk y (List.mem_append_right _ List.mem_cons_self)];exact hp,a1.mono fun k h=>hk k (List.mem_append_left _ h),a2.mono fun k h=>hk k (List.mem_append_right _ (List.mem_cons_of_mem _ h))⟩
def ndT (n:List Pt) (k:Nat):Pt:=n.getD k ⟨0,0,0⟩
theorem qah {n:List Pt} {k:Nat} (h:k<n.length):n[k]?=some (ndT n k):=by unfold ndT;rw[List.getD_eq_getElem?_getD,List.getElem?_eq_getElem h];rfl
def stA (n:List Pt) (k:Nat) (z:Int):List Pt:=n.set k { ndT n k with a:=z }
def qi5 (n:List Pt) (k:Nat) (z:Int):List Pt:=n.set k { ndT n k with b:=z }
structure Only (n n':List Pt) (l:List Nat):Prop where
 len:n'.length=n.length
 id:∀ k,idN n' k=idN n k
 oth:∀ k,k∉l→n'[k]?=n[k]?
theorem Only.refl (n:List Pt) (l:List Nat):Only n n l:=⟨rfl,fun _=>rfl,fun _ _=>rfl⟩
theorem Only.trans {n m o:List Pt} {l:List Nat} (h:Only n m l) (k:Only m o l):Only n o l:=⟨k.len.trans h.len,fun j=>(k.id j).trans (h.id j),fun j hj=>(k.oth j hj).trans (h.oth j hj)⟩
theorem Only.mono {n m:List Pt} {l l':List Nat} (h:Only n m l) (hl:∀ k∈l,k∈l'):Only n m l':=⟨h.len,h.id,fun j hj=>h.oth j fun k=>hj (hl j k)⟩
theorem qhw {n:List Pt} {k:Nat} {q:Pt} (hq:q.id=(ndT n k).id) {l:List Nat} (hk:k∈l):Only n (n.set k q) l:=by
 refine⟨List.length_set,fun j=>?_,fun j hj=>?_⟩
 ·unfold idN
  rw[List.getD_eq_getElem?_getD,List.getD_eq_getElem?_getD,List.getElem?_set]
  by_cases e:k=j
  ·subst e
   rw[if_pos rfl]
   by_cases hl:k<n.length
   ·rw[if_pos hl]
    have:=qah hl
    rw[this]
    exact hq
   ·rw[if_neg hl,List.getElem?_eq_none (by omega)]
  ·rw[if_neg e]
 ·rw[List.getElem?_set_ne fun e=>hj (by rw[← e];exact hk)]
theorem qdO {n:List Pt} {k:Nat} (z:Int) {l:List Nat} (hk:k∈l):Only n (stA n k z) l:=qhw (q:={ ndT n k with a:=z }) rfl hk
theorem qeh {n:List Pt} {k:Nat} (z:Int) {l:List Nat} (hk:k∈l):Only n (qi5 n k z) l:=qhw (q:={ ndT n k with b:=z }) rfl hk
def grN:Sh Nat→List Pt→List Pt
 | .nil,n=>n
 | .node l k r,n=>qi5 (grN r (stA (grN l n) k (rtI l))) k (rtI r)
theorem qbz:∀ (T:Sh Nat) (n:List Pt),Only n (grN T n) T.list
 | .nil,n=>Only.refl n _
 | .node l k r,n=>by
  have mk:k∈(Sh.node l k r).list:=List.mem_append_right _ List.mem_cons_self
  refine (((qbz l n).mono fun y hy=>List.mem_append_left _ hy).trans (qdO _ mk)).trans (((qbz r _).mono fun y hy=>List.mem_append_right _ (List.mem_cons_of_mem _ hy)).trans (qeh _ mk))
theorem qg0:∀ (T:Sh Nat) (n:List Pt),T.list.Nodup→(∀ k∈T.list,k<n.length)→Rep (grN T n) (rtI T) T
 | .nil,n,_,_=>rfl
 | .node l k r,n,hn,hb=>by
  obtain⟨o1,o2,o3,o4⟩:=Sh.mid_out hn
  have dis:∀ y∈l.list,y∉r.list:=fun y hy hr=>(List.nodup_append.1 hn).2.2 y hy y (List.mem_cons_of_mem _ hr) rfl
  have hk:=hb k (List.mem_append_right _ List.mem_cons_self)
  have q1:=qbz l n
  have q2:=qdO (n:=grN l n) (k:=k) (rtI l) (l:=[k]) List.mem_cons_self
  have q3:=qbz r (stA (grN l n) k (rtI l))
  have q4:=qeh (n:=grN r (stA (grN l n) k (rtI l))) (k:=k) (rtI r) (l:=[k]) List.mem_cons_self
  have r1:=qg0 l n o3 fun y hy=>hb y (List.mem_append_left _ hy)
  have r2:=qg0 r (stA (grN l n) k (rtI l)) o4 fun y hy=>by rw[q2.len,q1.len];exact hb y (List.mem_append_right _ (List.mem_cons_of_mem _ hy))
  have nk:∀ y∈l.list,y∉[k]:=fun y hy h=>by rw[List.mem_singleton] at h;exact o1 (h▸hy)
  have nk2:∀ y∈r.list,y∉[k]:=fun y hy h=>by rw[List.mem_singleton] at h;exact o2 (h▸hy)
  have kl:k<(grN l n).length:=by rw[q1.len];exact hk
  have kl2:k<(grN r (stA (grN l n) k (rtI l))).length:=by rw[q3.len,q2.len];exact kl
  have e1:(grN r (stA (grN l n) k (rtI l)))[k]?=some { ndT (grN l n) k with a:=rtI l }:=by
   rw[q3.oth k o2]
   unfold stA
   rw[List.getElem?_set,if_pos rfl,if_pos kl]
  have e2:ndT (grN r (stA (grN l n) k (rtI l))) k={ ndT (grN l n) k with a:=rtI l }:=by
   have:=qah kl2
   rw[e1] at this
   exact (Option.some.inj this).symm
  refine⟨rfl,{ ndT (grN l n) k with a:=rtI l,b:=rtI r },?_,?_,?_⟩
  ·show (qi5 _ k (rtI r))[k]?=_
   unfold qi5
   rw[List.getElem?_set,if_pos rfl,if_pos kl2,e2]
  ·exact r1.mono fun y hy=>by rw[show (grN (.node l k r) n)[y]?=(qi5 (grN r (stA (grN l n) k (rtI l))) k (rtI r))[y]? from rfl,q4.oth y (nk y hy),q3.oth y (dis y hy),q2.oth y (nk y hy)]
  ·exact r2.mono fun y hy=>q4.oth y (nk2 y hy)
def jnN (b:Nat→Nat→Bool):Sh Nat→Sh Nat→List Pt→List Pt
 | .nil,_,n=>n
 | .node _ _ _,.nil,n=>n
 | .node l x r,.node l' y r',n=>if b x y=true then qi5 (jnN b r (.node l' y r') n) x (rtI (Sh.mrg b r (.node l' y r'))) else stA (jnN b (.node l x r) l' n) y (rtI (Sh.mrg b (.node l x r) l'))
termination_by A B=>A.size+B.size
decreasing_by all_goals simp[Sh.size];omega
theorem qa6 (b:Nat→Nat→Bool):∀ (A B:Sh Nat) (n:List Pt),Only n (jnN b A B n) (A.list++B.list)
 | .nil,B,n=>by unfold jnN;exact Only.refl n _
 | .node l x r,.nil,n=>by unfold jnN;exact Only.refl n _
 | .node l x r,.node l' y r',n=>by
  unfold jnN
  split
  ·refine ((qa6 b r (.node l' y r') n).mono fun k hk=>?_).trans (qeh _ (List.mem_append_left _ (List.mem_append_right _ List.mem_cons_self)))
   rcases List.mem_append.1 hk with hk | hk
   ·exact List.mem_append_left _ (List.mem_append_right _ (List.mem_cons_of_mem _ hk))
   ·exact List.mem_append_right _ hk
  ·refine ((qa6 b (.node l x r) l' n).mono fun k hk=>?_).trans (qdO _ (List.mem_append_right _ (List.mem_append_right _ List.mem_cons_self)))
   rcases List.mem_append.1 hk with hk | hk
   ·exact List.mem_append_left _ hk
   ·exact List.mem_append_right _ (List.mem_append_left _ hk)
termination_by A B=>A.size+B.size
decreasing_by all_goals simp[Sh.size];omega
theorem qeJ (b:Nat→Nat→Bool):∀ (A B:Sh Nat) (n:List Pt),Rep n (rtI A) A→Rep n (rtI B) B→(A.list++B.list).Nodup→Rep (jnN b A B n) (rtI (Sh.mrg b A B)) (Sh.mrg b A B)
 | .nil,B,n,_,h,_=>by rw[jnN,Sh.mrg];exact h
 | .node l x r,.nil,n,h,_,_=>by rw[jnN,Sh.mrg];exact h
 | .node l x r,.node l' y r',n,hA,hB,hn=>by
  obtain⟨_,p,hp,a1,a2⟩:=hA
  obtain⟨_,q,hq,b1,b2⟩:=hB
  obtain⟨nA,nB,nAB⟩:=List.nodup_append.1 hn
  obtain⟨o1,o2,o3,o4⟩:=Sh.mid_out nA
  obtain⟨p1,p2,p3,p4⟩:=Sh.mid_out nB
  have dA:∀ k∈l.list,k∉r.list:=fun k hk hr=>(List.nodup_append.1 nA).2.2 k hk k (List.mem_cons_of_mem _ hr) rfl
  have dB:∀ k∈l'.list,k∉r'.list:=fun k hk hr=>(List.nodup_append.1 nB).2.2 k hk k (List.mem_cons_of_mem _ hr) rfl
  have mx:x∈(Sh.node l x r).list:=List.mem_append_right _ List.mem_cons_self
  have my:y∈(Sh.node l' y r').list:=List.mem_append_right _ List.mem_cons_self
  have ml:∀ k∈l.list,k∈(Sh.node l x r).list:=fun k hk=>List.mem_append_left _ hk
  have mr:∀ k∈r.list,k∈(Sh.node l x r).list:=fun k hk=>List.mem_append_right _ (List.mem_cons_of_mem _ hk)
  have ml':∀ k∈l'.list,k∈(Sh.node l' y r').list:=fun k hk=>List.mem_append_left _ hk
  have mr':∀ k∈r'.list,k∈(Sh.node l' y r').list:=fun k hk=>List.mem_append_right _ (List.mem_cons_of_mem _ hk)
  have hxl:=(List.getElem?_eq_some_iff.1 hp).1
  have hyl:=(List.getElem?_eq_some_iff.1 hq).1
  rw[jnN,Sh.mrg]
  by_cases hc:b x y=true
  ·rw[if_pos hc,if_pos hc]
   have n2:(r.list++(Sh.node l' y r').list).Nodup:=List.nodup_append.2 ⟨o4,nB,fun k hk m hm e=>nAB k (mr k hk) m hm e⟩
   have ih:=qeJ b r (.node l' y r') n (by rw[← a2.rt];exact a2) ⟨rfl,q,hq,b1,b2⟩ n2
   have on:=qa6 b r (.node l' y r') n
   have hx:x∉r.list++(Sh.node l' y r').list:=fun h=>by
    rcases List.mem_append.1 h with h | h
    ·exact o2 h
    ·exact nAB x mx x h rfl
   have hl:∀ k∈l.list,k∉r.list++(Sh.node l' y r').list:=fun k hk h=>by
    rcases List.mem_append.1 h with h | h
    ·exact dA k hk h
    ·exact nAB k (ml k hk) k h rfl
   have ex:ndT (jnN b r (.node l' y r') n) x=p:=by
    have:=qah (n:=jnN b r (.node l' y r') n) (k:=x) (by rw[on.len];exact hxl)
    rw[on.oth x hx,hp] at this
    exact (Option.some.inj this).symm
   refine⟨rfl,{ p with b:=rtI (Sh.mrg b r (.node l' y r')) },?_,?_,?_⟩
   ·unfold qi5
    rw[List.getElem?_set,if_pos rfl,if_pos (by rw[on.len];exact hxl),ex]
   ·unfold qi5
    exact (a1.mono fun k hk=>on.oth k (hl k hk)).set o1
   ·unfold qi5
    exact ih.set (by rw[Sh.mrg_list];exact hx)
  ·rw[if_neg hc,if_neg hc]
   have n2:((Sh.node l x r).list++l'.list).Nodup:=List.nodup_append.2 ⟨nA,p3,fun k hk m hm e=>nAB k hk m (ml' m hm) e⟩
   have ih:=qeJ b (.node l x r) l' n ⟨rfl,p,hp,a1,a2⟩ (by rw[← b1.rt];exact b1) n2
   have on:=qa6 b (.node l x r) l' n
   have hy:y∉(Sh.node l x r).list++l'.list:=fun h=>by
    rcases List.mem_append.1 h with h | h
    ·exact nAB y h y my rfl
    ·exact p1 h
   have hr:∀ k∈r'.list,k∉(Sh.node l x r).list++l'.list:=fun k hk h=>by
    rcases List.mem_append.1 h with h | h
    ·exact nAB k h k (mr' k hk) rfl
    ·exact dB k h hk
   have ey:ndT (jnN b (.node l x r) l' n) y=q:=by
    have:=qah (n:=jnN b (.node l x r) l' n) (k:=y) (by rw[on.len];exact hyl)
    rw[on.oth y hy,hq] at this
    exact (Option.some.inj this).symm
   refine⟨rfl,{ q with a:=rtI (Sh.mrg b (.node l x r) l') },?_,?_,?_⟩
   ·unfold stA
    rw[List.getElem?_set,if_pos rfl,if_pos (by rw[on.len];exact hyl),ey]
   ·unfold stA
    exact ih.set (by rw[Sh.mrg_list];exact hy)
   ·unfold stA
    exact (b2.mono fun k hk=>on.oth k (hr k hk)).set p2
termination_by A B=>A.size+B.size
decreasing_by all_goals simp[Sh.size];omega
def res (lo hi:Nat):Sh Nat→Sh Nat
 | .nil=>.nil
 | .node l k r=>if k<lo then res lo hi r else if hi≤k then res lo hi l else .node (res lo hi l) k (res lo hi r)
theorem qcd {lo hi k:Nat}:∀ {T:Sh Nat},k∈(res lo hi T).list→k∈T.list∧lo≤k∧k<hi
 | .nil,h=>by cases h
 | .node l y r,h=>by
  unfold res at h
  split at h
  ·obtain⟨h1,h2⟩:=qcd h
   exact⟨List.mem_append_right _ (List.mem_cons_of_mem _ h1),h2⟩
  ·split at h
   ·obtain⟨h1,h2⟩:=qcd h
    exact⟨List.mem_append_left _ h1,h2⟩
   ·rcases List.mem_append.1 h with h | h
    ·obtain⟨h1,h2⟩:=qcd h
     exact⟨List.mem_append_left _ h1,h2⟩
    ·rcases List.mem_cons.1 h with rfl | h
     ·exact⟨List.mem_append_right _ List.mem_cons_self,by omega,by omega⟩
     ·obtain⟨h1,h2⟩:=qcd h
      exact⟨List.mem_append_right _ (List.mem_cons_of_mem _ h1),h2⟩
def shI (lo:Nat) (i:Int):Int:=if i<0 then -1 else i-lo
theorem qgg {n n':List Pt} {lo hi:Nat}:∀ {T:Sh Nat} {i:Int},Rep n i T→(∀ k,lo≤k→k<hi→∀ p,n[k]?=some p→∀ l r,Rep n p.a l→Rep n p.b r→n'[k-lo]?=some ⟨p.id,shI lo (rtI (res lo hi l)),shI lo (rtI (res lo hi r))⟩)→
 Rep n' (shI lo (rtI (res lo hi T))) ((res lo hi T).map fun k=>k-lo)
 | .nil,_,_,_=>rfl
 | .node l k r,i,⟨_,p,hp,a1,a2⟩,hn=>by
  have r1:=qgg a1 hn
  have r2:=qgg a2 hn
  unfold res
  split
  ·exact r2
  ·split
   ·exact r1
   ·have:=hn k (by omega) (by omega) p hp l r a1 a2
    refine⟨?_,_,this,r1,r2⟩
    show (if (k:Int)<0 then -1 else (k:Int)-lo)=((k-lo:Nat):Int)
    rw[if_neg (by omega)]
    omega
theorem qb5 {lo hi:Nat}:∀ {T:Sh Nat},(∀ k∈T.list,lo≤k∧k<hi)→res lo hi T=T
 | .nil,_=>rfl
 | .node l k r,h=>by
  have hk:=h k (List.mem_append_right _ List.mem_cons_self)
  unfold res
  rw[if_neg (by omega),if_neg (by omega),qb5 fun y hy=>h y (List.mem_append_left _ hy),qb5 fun y hy=>h y (List.mem_append_right _ (List.mem_cons_of_mem _ hy))]
theorem qcc {l r:List Nat} {x:Nat} (h:(l++x::r).Pairwise (· < ·)):l.Pairwise (· < ·)∧r.Pairwise (· < ·)∧(∀ y∈l,y<x)∧(∀ y∈r,x<y):=by
 obtain⟨h1,h2,h3⟩:=List.pairwise_append.1 h
 obtain⟨h4,h5⟩:=List.pairwise_cons.1 h2
 exact⟨h1,h5,fun y hy=>h3 y hy x List.mem_cons_self,h4⟩
theorem qgj {f:Nat→Int} {c:Int} {m:Nat}:∀ {T:Sh Nat},T.list.Pairwise (· < ·)→(∀ k∈T.list,k<m↔f k<c)→(res 0 m T).map f=Sh.cutL c (T.map f)
 | .nil,_,_=>rfl
 | .node l k r,hp,h=>by
  obtain⟨p1,p2,p3,_⟩:=qcc hp
  have hk:=h k (List.mem_append_right _ List.mem_cons_self)
  have e1:=qgj (T:=l) p1 fun y hy=>h y (List.mem_append_left _ hy)
  have e2:=qgj (T:=r) p2 fun y hy=>h y (List.mem_append_right _ (List.mem_cons_of_mem _ hy))
  show (if k<0 then res 0 m r else if m≤k then res 0 m l else .node (res 0 m l) k (res 0 m r)).map f=if f k<c then .node (l.map f) (f k) (Sh.cutL c (r.map f)) else Sh.cutL c (l.map f)
  rw[if_neg (Nat.not_lt_zero k)]
  by_cases hm:k<m
  ·rw[if_neg (by omega),if_pos (hk.1 hm),qb5 (T:=l) fun y hy=>⟨Nat.zero_le _,by have:=p3 y hy;omega⟩]
   show Sh.node _ _ _=_
   rw[e2]
  ·rw[if_pos (by omega),if_neg (fun h=>hm (hk.2 h))]
   exact e1
theorem qe6 {f:Nat→Int} {c:Int} {m hi:Nat}:∀ {T:Sh Nat},T.list.Pairwise (· < ·)→(∀ k∈T.list,k<hi)→(∀ k∈T.list,k<m↔f k<c)→(res m hi T).map f=Sh.cutH c (T.map f)
 | .nil,_,_,_=>rfl
 | .node l k r,hp,hb,h=>by
  obtain⟨p1,p2,_,p4⟩:=qcc hp
  have hk:=h k (List.mem_append_right _ List.mem_cons_self)
  have hkb:=hb k (List.mem_append_right _ List.mem_cons_self)
  have e1:=qe6 (T:=l) p1 (fun y hy=>hb y (List.mem_append_left _ hy)) fun y hy=>h y (List.mem_append_left _ hy)
  have e2:=qe6 (T:=r) p2 (fun y hy=>hb y (List.mem_append_right _ (List.mem_cons_of_mem _ hy))) fun y hy=>h y (List.mem_append_right _ (List.mem_cons_of_mem _ hy))
  show (if k<m then res m hi r else if hi≤k then res m hi l else .node (res m hi l) k (res m hi r)).map f=if f k<c then Sh.cutH c (r.map f) else .node (Sh.cutH c (l.map f)) (f k) (r.map f)
  by_cases hm:k<m
  ·rw[if_pos hm,if_pos (hk.1 hm)]
   exact e2
  ·rw[if_neg hm,if_neg (by omega),if_neg (fun h=>hm (hk.2 h)),qb5 (T:=r) fun y hy=>⟨by have:=p4 y hy;omega,hb y (List.mem_append_right _ (List.mem_cons_of_mem _ hy))⟩]
   show Sh.node _ _ _=_
   rw[e1]
end Go.Proofs.Ytalnjplghagbpaa

namespace Go.Proofs.Ytalnjplghagbpaa
set_option maxRecDepth 100000
open Go.RowKit
theorem qll {tn td:Int} {p q:Pt} (hi:p.id≠q.id) (h:ld tn td p q=false):ld tn td q p=true:=by
 unfold ld at *
 generalize p.a*td+p.b*tn=P at *
 generalize q.a*td+q.b*tn=Q at *
 rw[qbP] at h
 rw[qc5]
 omega
theorem qvn {l:List Pt} (hv:Val l) {p q:Pt} (hp:p∈l) (hq:q∈l) (e:p.id=q.id):p=q:=by
 obtain⟨i,hi,rfl⟩:=List.getElem_of_mem hp
 obtain⟨j,hj,rfl⟩:=List.getElem_of_mem hq
 rcases Nat.lt_trichotomy i j with h | h | h
 ·have:=hv.up.mono h (List.getElem?_eq_getElem hi) (List.getElem?_eq_getElem hj);omega
 ·subst h;rfl
 ·have:=hv.up.mono h (List.getElem?_eq_getElem hj) (List.getElem?_eq_getElem hi);omega
def ptI (s:List Pt) (i:Int):Pt:=(s.find? fun q=>q.id==i).getD ⟨0,0,0⟩
theorem qb6 {s:List Pt} (hs:Val s) {q:Pt} (hq:q∈s):ptI s q.id=q:=by
 unfold ptI
 cases h:s.find? fun r=>r.id==q.id with
 | none=>
  have:=List.find?_eq_none.1 h q hq
  simp at this
 | some r=>
  have h1:=List.mem_of_find?_eq_some h
  have h2:=List.find?_some h
  exact qvn hs h1 hq (by simpa using h2)
def RI (s:List Pt) (tn td:Int) (a b:Int):Prop:=ld tn td (ptI s a) (ptI s b)=true
section
variable {s:List Pt} {tn td:Int}
theorem RI.asym (a b:Int) (h:RI s tn td a b):¬ RI s tn td b a:=fun k=>by
 have h2:ld tn td (ptI s b) (ptI s a)=true:=k
 rw[qdZ h] at h2
 cases h2
theorem RI.trans {a b c:Int} (h:RI s tn td a b) (k:RI s tn td b c):RI s tn td a c:=qcS h k
theorem RI.tot (hs:Val s) {a b:Int} (ha:a∈s.map Pt.id) (hb:b∈s.map Pt.id) (h:a≠b):RI s tn td a b∨RI s tn td b a:=by
 obtain⟨p,hp,rfl⟩:=List.mem_map.1 ha
 obtain⟨q,hq,rfl⟩:=List.mem_map.1 hb
 unfold RI
 rw[qb6 hs hp,qb6 hs hq]
 cases e:ld tn td p q
 ·exact Or.inr (qll h e)
 ·exact Or.inl rfl
theorem qhh (hs:Val s):(s.map Pt.id).Pairwise (· < ·):=by
 rw[List.pairwise_map,List.pairwise_iff_getElem]
 intro i j hi hj hij
 exact hs.up.mono hij (List.getElem?_eq_getElem hi) (List.getElem?_eq_getElem hj)
theorem qmu {l:List Int} (h:l.Pairwise (· < ·)):l.Nodup:=h.imp fun hlt e=>by rw[e] at hlt;omega
structure TreeOf (s:List Pt) (tn td:Int) (S:Sh Int):Prop where
 ids:S.list=s.map Pt.id
 ho:S.HO (RI s tn td)
theorem TreeOf.uniq {S S':Sh Int} (hs:Val s) (h:TreeOf s tn td S) (h':TreeOf s tn td S'):S=S':=
 h.ho.uniq RI.asym h'.ho (h.ids.trans h'.ids.symm) (by rw[h.ids];exact qmu (qhh hs))
theorem qdB {R R':Int→Int→Prop}:∀ {S:Sh Int},(∀ a∈S.list,∀ b∈S.list,R a b→R' a b)→S.HO R→S.HO R'
 | .nil,_,_=>trivial
 | .node l x r,h,⟨h1,h2,h3,h4⟩=>by
  have mx:x∈(Sh.node l x r).list:=List.mem_append_right _ List.mem_cons_self
  have ml:∀ y∈l.list,y∈(Sh.node l x r).list:=fun y hy=>List.mem_append_left _ hy
  have mr:∀ y∈r.list,y∈(Sh.node l x r).list:=fun y hy=>List.mem_append_right _ (List.mem_cons_of_mem _ hy)
  exact⟨fun y hy=>h x mx y (ml y hy) (h1 y hy),fun y hy=>h x mx y (mr y hy) (h2 y hy),qdB (fun a ha b hb=>h a (ml a ha) b (ml b hb)) h3,qdB (fun a ha b hb=>h a (mr a ha) b (mr b hb)) h4⟩
theorem qe8 {l la:List Pt} (hv:Val l) (h:la.Sublist l):Val la:=by
 refine⟨Nat.le_trans h.length_le hv.len,fun p hp=>hv.ok p (h.subset hp),?_⟩
 have pw:l.Pairwise fun p q=>p.id<q.id:=by
  rw[List.pairwise_iff_getElem]
  intro i j hi hj hij
  exact hv.up.mono hij (List.getElem?_eq_getElem hi) (List.getElem?_eq_getElem hj)
 have pw2:=pw.sublist h
 rw[List.pairwise_iff_getElem] at pw2
 intro k p q hp hq
 obtain⟨h1,rfl⟩:=List.getElem?_eq_some_iff.1 hp
 obtain⟨h2,rfl⟩:=List.getElem?_eq_some_iff.1 hq
 exact pw2 k (k+1) h1 h2 (by omega)
theorem RI.sub {la:List Pt} (hv:Val s) (h:la.Sublist s) {a b:Int} (ha:a∈la.map Pt.id) (hb:b∈la.map Pt.id):RI la tn td a b↔RI s tn td a b:=by
 obtain⟨p,hp,rfl⟩:=List.mem_map.1 ha
 obtain⟨q,hq,rfl⟩:=List.mem_map.1 hb
 unfold RI
 rw[qb6 (qe8 hv h) hp,qb6 (qe8 hv h) hq,qb6 hv (h.subset hp),qb6 hv (h.subset hq)]
theorem TreeOf.low {S:Sh Int} (hs:Val s) (h:TreeOf s tn td S) (c:Int):TreeOf (s.filter fun p=>decide (p.id<c)) tn td (S.cutL c):=by
 have hu:S.list.Pairwise (· < ·):=by rw[h.ids];exact qhh hs
 have e:(S.cutL c).list=(s.filter fun p=>decide (p.id<c)).map Pt.id:=by
  rw[Sh.cutL_list c hu,h.ids,List.filter_map];rfl
 refine⟨e,qdB (fun a ha b hb k=>?_) (Sh.cutL_ho c h.ho)⟩
 rw[e] at ha hb
 exact (RI.sub hs List.filter_sublist ha hb).2 k
theorem TreeOf.high {S:Sh Int} (hs:Val s) (h:TreeOf s tn td S) (c:Int):TreeOf (s.filter fun p=>!decide (p.id<c)) tn td (S.cutH c):=by
 have hu:S.list.Pairwise (· < ·):=by rw[h.ids];exact qhh hs
 have e:(S.cutH c).list=(s.filter fun p=>!decide (p.id<c)).map Pt.id:=by
  rw[Sh.cutH_list c hu,h.ids,List.filter_map];rfl
 refine⟨e,qdB (fun a ha b hb k=>?_) (Sh.cutH_ho c h.ho)⟩
 rw[e] at ha hb
 exact (RI.sub hs List.filter_sublist ha hb).2 k
open Classical in
theorem TreeOf.dep {S:Sh Int} (hs:Val s) (h:TreeOf s tn td S) {c:Int} (hc:c∈s.map Pt.id):S.dep c=((s.map Pt.id).filter fun i=>decide (i≠c∧Sh.Rul (RI s tn td) (s.map Pt.id) i c)).length:=by
 have:=Sh.dep_count RI.asym c h.ho (by rw[h.ids];exact qhh hs) (by rw[h.ids];exact hc)
 rw[h.ids] at this
 exact this
end
end Go.Proofs.Ytalnjplghagbpaa

namespace Go.Proofs.Ytalnjplghagbpaa
set_option maxRecDepth 100000
open Go.RowKit
abbrev trS (k:Nat) (rt:Int) (l:List Pt):SV:=.ag [.pv (iV rt),.ls k l.length]
abbrev qac (l:List Pt):SV:=.row 26 3 l.length (qam l)
theorem qhf (x:Int):(x !=x)=false:=by simp
theorem qbH {l:List Pt} {z:Int} {p:Pt} (h:l[z.toNat]?=some p):qcF (qam l) (0*3+z.toNat*3) [iV p.id,iV p.a,iV p.b]:=qaP h
theorem qbO {l:List Pt} {z:Int} {p:Pt} (h:l[z.toNat]?=some p):qcF (qam l) (0*3+z.toNat*3+1) [iV p.a]:=fun j v hj=>by
 have:=qaP h 1 (iV p.a) rfl
 match j,hj with
 | 0,hj=>cases hj;exact this
theorem qb2 {l:List Pt} {z:Int} {p:Pt} (h:l[z.toNat]?=some p):qcF (qam l) (0*3+z.toNat*3+2) [iV p.b]:=fun j v hj=>by
 have:=qaP h 2 (iV p.b) rfl
 match j,hj with
 | 0,hj=>cases hj;exact this
theorem qsN {rt z:Int} {l:List Pt} (h1:decide (z≥(-1))=false) :
 Fn 70 1 [trS 0 rt l,.pv (iV (z))] [(0,0,qac l)] (.pv (.bool false)) 0 []:=
 Fz [] [.t false]
  tI (Ai h1 tI)
theorem qmM {rt z:Int} {l:List Pt} (h1:decide (z≥(-1))=true) (h2:decide (z<(l.length:Int))=true) :
 Fn 70 1 [trS 0 rt l,.pv (iV (z))] [(0,0,qac l)] (.pv (.bool true)) 0 []:=
 Fz [] [.t true,.t true]
  tI (Ai h1 (Ai h2 tI))
theorem qln {rt z:Int} {l:List Pt} (h1:decide (z≥(-1))=true) (h2:decide (z<(l.length:Int))=false) :
 Fn 70 1 [trS 0 rt l,.pv (iV (z))] [(0,0,qac l)] (.pv (.bool false)) 0 []:=
 Fz [] [.t true,.t false]
  tI (Ai h1 (Ai h2 tI))
abbrev qe0 (l:List Pt) (rt:Int):HpL:=[(1,0,.pv (iV rt)),(1,1,.ls 0 l.length),(0,0,qac l)]
theorem qma {rt:Int} {l:List Pt} {p q:Pt} {j k:Nat} (hlt:decide ((k:Int)<(l.length:Int))=true) (hs1:iV (IntKind.i64.wrap ((k:Int)-1))=iV (j:Int)) (hj:l[j]?=some p) (hinj:0≤(j:Int)∧(j:Int)<(l.length:Int)) (hk:l[k]?=some q) (hin:0≤(k:Int)∧(k:Int)<(l.length:Int)) (hc:decide (p.id≥q.id)=false) (hs:iV (IntKind.i64.wrap ((k:Int)+1))=iV (((k+1:Nat):Int))) {e:Exit} {tm2:TmL} {hp2:HpL}
 (r:Rl 1 1 39 0 25 2 ([(1,.pp 1 0),(3,.pv (iV ((k+1:Nat):Int)))]) (qe0 l rt) e tm2 hp2):Rl 1 1 39 0 25 2 ([(1,.pp 1 0),(3,.pv (iV (k:Int)))]) (qe0 l rt) e tm2 hp2:=
 RunsL.next [] 300 [.t true,Re hs1,.r (iV p.id),.r (iV q.id),.t false,Re hs]
  (Ro (Ai hlt (Ai hs1 (Ai hinj (Ai (qa1 hj) (Ai hin (Ai (qa1 hk) (Ai hc (Ai hs tI))))))))) r
theorem qqh {rt:Int} {l:List Pt} {p q:Pt} {j k:Nat} (hlt:decide ((k:Int)<(l.length:Int))=true) (hs1:iV (IntKind.i64.wrap ((k:Int)-1))=iV (j:Int)) (hj:l[j]?=some p) (hinj:0≤(j:Int)∧(j:Int)<(l.length:Int)) (hk:l[k]?=some q) (hin:0≤(k:Int)∧(k:Int)<(l.length:Int)) (hc:decide (p.id≥q.id)=true):Rl 1 1 39 0 25 2 ([(1,.pp 1 0),(3,.pv (iV (k:Int)))]) (qe0 l rt) (.ret) ([(2,.pv (.bool false))]) ([]):=
 RunsL.stop [] 300 [.t true,Re hs1,.r (iV p.id),.r (iV q.id),.t true] (fun h=>by cases h)
  (Ro (Ai hlt (Ai hs1 (Ai hinj (Ai (qa1 hj) (Ai hin (Ai (qa1 hk) (Ai hc tI))))))))
theorem qjp {rt:Int} {l:List Pt} {k:Nat} (hlt:decide ((k:Int)<(l.length:Int))=false):Rl 1 1 39 0 25 2 ([(1,.pp 1 0),(3,.pv (iV (k:Int)))]) (qe0 l rt) (.exit 0) ([]) ([]):=
 RunsL.stop [] 300 [.t false] (fun h=>by cases h)
  (Ro (Ai hlt tI))
theorem qsU {rt:Int} {l:List Pt} (r0:Rl 1 1 39 0 25 2 ([(1,.pp 1 0),(3,.pv (iV ((1:Nat):Int)))]) (qe0 l rt) (.ret) ([(2,.pv (.bool false))]) ([])) :
 Fn 39 1 [trS 0 rt l] [(0,0,qac l)] (.pv (.bool false)) 0 []:=
 Fz [] [Lf r0]
  tI (Lo r0 [] tI)
theorem qjS {rt:Int} {l:List Pt} (r0:Rl 1 1 39 0 25 2 ([(1,.pp 1 0),(3,.pv (iV ((1:Nat):Int)))]) (qe0 l rt) (.exit 0) ([]) ([])) :
 Fn 39 1 [trS 0 rt l] [(0,0,qac l)] (.pv (.bool true)) 0 []:=
 Fz [] [Lf r0]
  tI (Lo r0 [] tI)
theorem qmS {rt z:Int} {l:List Pt} {p:Pt} {k:Nat} (hlt:decide ((k:Int)<(l.length:Int))=true) (hk:l[k]?=some p) (hin:0≤(k:Int)∧(k:Int)<(l.length:Int)) (he:(p.id==z)=false) (hs:iV (IntKind.i64.wrap ((k:Int)+1))=iV (((k+1:Nat):Int))) {e:Exit} {tm2:TmL} {hp2:HpL}
 (r:Rl 1 1 68 0 22 2 ([(1,.pv (iV z)),(2,.pp 1 0),(5,.pv (iV ((k+1:Nat):Int)))]) (qe0 l rt) e tm2 hp2):Rl 1 1 68 0 22 2 ([(1,.pv (iV z)),(2,.pp 1 0),(5,.pv (iV (k:Int)))]) (qe0 l rt) e tm2 hp2:=
 RunsL.next [] 300 [.t true,.r (iV p.id),.t false,Re hs]
  (Ro (Ai hlt (Ai hin (Ai (qa1 hk) (Ai he (Ai hs tI)))))) r
theorem qqa {rt z:Int} {l:List Pt} {p:Pt} {k:Nat} (hlt:decide ((k:Int)<(l.length:Int))=true) (hk:l[k]?=some p) (hin:0≤(k:Int)∧(k:Int)<(l.length:Int)) (he:(p.id==z)=true):Rl 1 1 68 0 22 2 ([(1,.pv (iV z)),(2,.pp 1 0),(5,.pv (iV (k:Int)))]) (qe0 l rt) (.ret) ([(4,.pv (iV (k:Int)))]) ([]):=
 RunsL.stop [] 300 [.t true,.r (iV p.id),.t true] (fun h=>by cases h)
  (Ro (Ai hlt (Ai hin (Ai (qa1 hk) (Ai he tI)))))
theorem qqZ {rt z:Int} {l:List Pt} {k:Nat} (hlt:decide ((k:Int)<(l.length:Int))=false):Rl 1 1 68 0 22 2 ([(1,.pv (iV z)),(2,.pp 1 0),(5,.pv (iV (k:Int)))]) (qe0 l rt) (.exit 0) ([]) ([]):=
 RunsL.stop [] 300 [.t false] (fun h=>by cases h)
  (Ro (Ai hlt tI))
theorem qqz {rt z:Int} {l:List Pt} {k:Nat} (r0:Rl 1 1 68 0 22 2 ([(1,.pv (iV z)),(2,.pp 1 0),(5,.pv (iV ((0:Nat):Int)))]) (qe0 l rt) (.ret) ([(4,.pv (iV (k:Int)))]) ([])) :
 Fn 68 1 [trS 0 rt l,.pv (iV (z))] [(0,0,qac l)] (.pv (iV (k:Int))) 0 []:=
 Fz [] [Lf r0]
  tI (Lo r0 [] tI)
theorem qsj {rt z:Int} {l:List Pt} (r0:Rl 1 1 68 0 22 2 ([(1,.pv (iV z)),(2,.pp 1 0),(5,.pv (iV ((0:Nat):Int)))]) (qe0 l rt) (.exit 0) ([]) ([])) :
 Fn 68 1 [trS 0 rt l,.pv (iV (z))] [(0,0,qac l)] (.pv (iV (-1))) 0 []:=
 Fz [] [Lf r0]
  tI (Lo r0 [] tI)
abbrev qrk (l:List Pt) (rt:Int) (s:List Pt):HpL:=[(2,0,.ls 0 s.length),(3,0,.pv (iV rt)),(3,1,.ls 1 l.length),(0,0,qag s),(1,0,qac l)]
abbrev qr8 (k:Nat):TmL:=[(2,.pp 2 0),(3,.pp 3 0),(5,.pv (iV (k:Int)))]
theorem qnZ {rt z:Int} {s l:List Pt} {p:Pt} {k:Nat} (hlt:decide ((k:Int)<(l.length:Int))=true) (hk:l[k]?=some p) (hin:0≤(k:Int)∧(k:Int)<(l.length:Int)) (hat:Fn 43 1 [qaq 0 s,.pv (iV p.id)] [(0,0,qag s)] (.pv (iV (z))) 0 []) (hz:decide (z<0)=false) (hs:iV (IntKind.i64.wrap ((k:Int)+1))=iV (((k+1:Nat):Int))) {e:Exit} {tm2:TmL} {hp2:HpL}
 (r:Rl 2 2 77 0 22 4 ([(2,.pp 2 0),(3,.pp 3 0),(5,.pv (iV ((k+1:Nat):Int)))]) (qrk l rt s) e tm2 hp2):Rl 2 2 77 0 22 4 (qr8 k) (qrk l rt s) e tm2 hp2:=
 RunsL.next [] 300 [.t true,.r (iV p.id),Cf hat [0],.t false,Re hs]
  (Ro (Ai hlt (Ai hin (Ai (qa1 hk) (Co hat [0] 4 (Ai hz (Ai hs tI))))))) r
theorem qnh {rt z:Int} {s l:List Pt} {p:Pt} {k:Nat} (hlt:decide ((k:Int)<(l.length:Int))=true) (hk:l[k]?=some p) (hin:0≤(k:Int)∧(k:Int)<(l.length:Int)) (hat:Fn 43 1 [qaq 0 s,.pv (iV p.id)] [(0,0,qag s)] (.pv (iV (z))) 0 []) (hz:decide (z<0)=true):Rl 2 2 77 0 22 4 (qr8 k) (qrk l rt s) (.ret) ([(4,.pv (.bool false))]) ([]):=
 RunsL.stop [] 300 [.t true,.r (iV p.id),Cf hat [0],.t true] (fun h=>by cases h)
  (Ro (Ai hlt (Ai hin (Ai (qa1 hk) (Co hat [0] 4 (Ai hz tI))))))
theorem qpd {rt:Int} {s l:List Pt} {k:Nat} (hlt:decide ((k:Int)<(l.length:Int))=false):Rl 2 2 77 0 22 4 (qr8 k) (qrk l rt s) (.exit 0) ([]) ([]):=
 RunsL.stop [] 300 [.t false] (fun h=>by cases h)
  (Ro (Ai hlt tI))
abbrev quB:TmL:=[(2,.pp 2 0),(3,.pp 3 0),(5,.pv (iV ((0:Nat):Int)))]
theorem qsx {rt:Int} {s l:List Pt} (r0:Rl 2 2 77 0 22 4 (quB) (qrk l rt s) (.ret) ([(4,.pv (.bool false))]) ([])) :
 Fn 77 2 [qaq 0 s,trS 1 rt l] [(0,0,qag s),(1,0,qac l)] (.pv (.bool false)) 0 []:=
 Fz [] [Lf r0]
  tI (Lo r0 [] tI)
theorem qo5 {rt:Int} {s l:List Pt} (r0:Rl 2 2 77 0 22 4 (quB) (qrk l rt s) (.exit 0) ([]) ([])) :
 Fn 77 2 [qaq 0 s,trS 1 rt l] [(0,0,qag s),(1,0,qac l)] (.pv (.bool true)) 0 []:=
 Fz [] [Lf r0]
  tI (Lo r0 [] tI)
abbrev qt3 (l:List Pt) (rt:Int):HpL:=[(2,0,.pv (iV rt)),(2,1,.ls 0 l.length),(3,0,.pv (iV rt)),(3,1,.ls 1 l.length),(0,0,qac l),(1,0,qac l)]
theorem qnf {rt:Int} {l:List Pt} {p:Pt} {k:Nat} (hlt:decide ((k:Int)<(l.length:Int))=true) (hk:l[k]?=some p) (hin:0≤(k:Int)∧(k:Int)<(l.length:Int)) (hs:iV (IntKind.i64.wrap ((k:Int)+1))=iV (((k+1:Nat):Int))) {e:Exit} {tm2:TmL} {hp2:HpL}
 (r:Rl 2 2 22 0 38 4 ([(2,.pp 2 0),(3,.pp 3 0),(5,.pv (iV ((k+1:Nat):Int)))]) (qt3 l rt) e tm2 hp2):Rl 2 2 22 0 38 4 (qr8 k) (qt3 l rt) e tm2 hp2:=
 RunsL.next [] 300 [.t true,.r (ptV p),.r (ptV p),.t false,Re hs]
  (Ro (Ai hlt (Ai hin (Ai (qaP hk) (Ai hin (Ai (qaP hk) (Ai (qmp p) (Ai hs tI)))))))) r
theorem qps {rt:Int} {l:List Pt} {k:Nat} (hlt:decide ((k:Int)<(l.length:Int))=false):Rl 2 2 22 0 38 4 (qr8 k) (qt3 l rt) (.exit 0) ([]) ([]):=
 RunsL.stop [] 300 [.t false] (fun h=>by cases h)
  (Ro (Ai hlt tI))
theorem qp7 {rt:Int} {l:List Pt} (r0:Rl 2 2 22 0 38 4 (quB) (qt3 l rt) (.exit 0) ([]) ([])) :
 Fn 22 2 [trS 0 rt l,trS 1 rt l] [(0,0,qac l),(1,0,qac l)] (.pv (.bool true)) 0 []:=
 Fz [] [.t false,.t false,Lf r0]
  tI (Ai (qhf rt) (Ai (qhf (l.length:Int)) (Lo r0 [] tI)))
theorem qsv {z lo:Int} (h:decide (z<0)=true) :
 Pure Try.prog 97 #[iV z,iV lo] (iV (-1)):=
 qae (args:=[iV z,iV lo]) 300 [.t true]
  (Ai rfl (Ai h tI)) (by kernel_rfl)
theorem qpU {y z lo:Int} (h:decide (z<0)=false) (hs:iV (IntKind.i64.wrap (z-lo))=iV (y)) :
 Pure Try.prog 97 #[iV z,iV lo] (iV (y)):=
 qae (args:=[iV z,iV lo]) 300 [.t false,Re hs]
  (Ai rfl (Ai h (Ai hs tI))) (by kernel_rfl)
abbrev qrQ (hi:Int) (lo:Int) (z:Int):TmL:=[(1,.pv (iV (z))),(2,.pv (iV lo)),(3,.pv (iV hi)),(4,.pp 1 0)]
theorem qvw {rt z lo hi:Int} {l:List Pt} {p:Pt} (h0:decide (z≥0)=true) (hk:l[z.toNat]?=some p) (hin:0≤z∧z<(l.length:Int)) (h1:decide (z<lo)=true) {e:Exit} {tm2:TmL} {hp2:HpL}
 (r:Rl 1 1 98 0 37 2 ([(1,.pv (iV (p.b))),(2,.pv (iV lo)),(3,.pv (iV hi)),(4,.pp 1 0)]) (qe0 l rt) e tm2 hp2):Rl 1 1 98 0 37 2 (qrQ hi lo z) (qe0 l rt) e tm2 hp2:=
 RunsL.next [] 300 [.t true,.t true,.t true,.r (iV p.b)]
  (Ro (Ai h0 (Ai h1 (Ai h1 (Ai hin (Ai (qb2 hk) tI)))))) r
theorem quO {rt z lo hi:Int} {l:List Pt} {p:Pt} (h0:decide (z≥0)=true) (hk:l[z.toNat]?=some p) (hin:0≤z∧z<(l.length:Int)) (h1:decide (z<lo)=false) (h2:decide (z≥hi)=true) {e:Exit} {tm2:TmL} {hp2:HpL}
 (r:Rl 1 1 98 0 37 2 ([(1,.pv (iV (p.a))),(2,.pv (iV lo)),(3,.pv (iV hi)),(4,.pp 1 0)]) (qe0 l rt) e tm2 hp2):Rl 1 1 98 0 37 2 (qrQ hi lo z) (qe0 l rt) e tm2 hp2:=
 RunsL.next [] 300 [.t true,.t false,.t true,.t false,.r (iV p.a)]
  (Ro (Ai h0 (Ai h1 (Ai h2 (Ai h1 (Ai hin (Ai (qbO hk) tI))))))) r
theorem qq1 {rt z lo hi:Int} {l:List Pt} (h0:decide (z≥0)=false):Rl 1 1 98 0 37 2 (qrQ hi lo z) (qe0 l rt) (.exit 0) ([(1,.pv (iV z))]) ([]):=
 RunsL.stop [] 300 [.t false] (fun h=>by cases h)
  (Ro (Ai h0 tI))
theorem qsR {rt z lo hi:Int} {l:List Pt} (h0:decide (z≥0)=true) (h1:decide (z<lo)=false) (h2:decide (z≥hi)=false):Rl 1 1 98 0 37 2 (qrQ hi lo z) (qe0 l rt) (.exit 0) ([(1,.pv (iV z))]) ([]):=
 RunsL.stop [] 300 [.t true,.t false,.t false] (fun h=>by cases h)
  (Ro (Ai h0 (Ai h1 (Ai h2 tI))))
theorem qmk {rt y z lo hi:Int} {l:List Pt} (r0:Rl 1 1 98 0 37 2 (qrQ hi lo z) (qe0 l rt) (.exit 0) ([(1,.pv (iV y))]) ([])) :
 Fn 98 1 [trS 0 rt l,.pv (iV (z)),.pv (iV (lo)),.pv (iV (hi))] [(0,0,qac l)] (.pv (iV (y))) 0 []:=
 Fz [] [Lf r0]
  tI (Lo r0 [] tI)
end Go.Proofs.Ytalnjplghagbpaa
