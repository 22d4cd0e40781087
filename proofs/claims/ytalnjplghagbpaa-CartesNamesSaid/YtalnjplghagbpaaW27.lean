/-
  Joined: Ue, Uf, Ug, Uo, Uh, Ut. Conditions: none.
-/
import Derived.Test.YtalnjplghagbpaaW26
import Derived.Test.YtalnjplghagbpaaW19
import Derived.Test.YtalnjplghagbpaaW25
import Derived.Test.YtalnjplghagbpaaW22
import Derived.Test.YtalnjplghagbpaaW23
namespace Go.Proofs.Ytalnjplghagbpaa
set_option maxRecDepth 100000
open Go.RowKit
def rtI:Sh Nat→Int
 | .nil=>-1
 | .node _ k _=>(k:Int)
theorem Rep.rt {n:List Pt} {i:Int} {T:Sh Nat} (h:Rep n i T):i=rtI T:=by
 cases T with
 | nil=>exact h
 | node l k r=>exact h.1
theorem Rep.set {n:List Pt} {k:Nat} {q:Pt}:∀ {T:Sh Nat} {i:Int},Rep n i T→k∉T.list→Rep (n.set k q) i T
 | .nil,_,h,_=>h
 | .node l y r,i,⟨h1,p,hp,a1,a2⟩,hk=>by
  have n1:k∉l.list:=fun h=>hk (List.mem_append_left _ h)
  have n2:k≠y:=fun h=>hk (by rw[h];exact List.mem_append_right _ List.mem_cons_self)
  have n3:k∉r.list:=fun h=>hk (List.mem_append_right _ (List.mem_cons_of_mem _ h))
  exact⟨h1,p,by rw[List.getElem?_set_ne n2];exact hp,a1.set n1,a2.set n3⟩
theorem Rep.mono {n n':List Pt}:∀ {T:Sh Nat} {i:Int},Rep n i T→(∀ k∈T.list,n'[k]?=n[k]?)→Rep n' i T
 | .nil,_,h,_=>h
 | .node l y r,i,⟨h1,p,hp,a1,a2⟩,hk=>⟨h1,p,by rw[hk y (List.mem_append_right _ List.mem_cons_self)];exact hp,a1.mono fun k h=>hk k (List.mem_append_left _ h),a2.mono fun k h=>hk k (List.mem_append_right _ (List.mem_cons_of_mem _ h))⟩
def ndT (n:List Pt) (k:Nat):Pt:=n.getD k ⟨0,0,0⟩
theorem qat {n:List Pt} {k:Nat} (h:k<n.length):n[k]?=some (ndT n k):=by unfold ndT;rw[List.getD_eq_getElem?_getD,List.getElem?_eq_getElem h];rfl
def stA (n:List Pt) (k:Nat) (z:Int):List Pt:=n.set k { ndT n k with a:=z }
def qiZ (n:List Pt) (k:Nat) (z:Int):List Pt:=n.set k { ndT n k with b:=z }
structure Only (n n':List Pt) (l:List Nat):Prop where
 len:n'.length=n.length
 id:∀ k,idN n' k=idN n k
 oth:∀ k,k∉l→n'[k]?=n[k]?
theorem Only.refl (n:List Pt) (l:List Nat):Only n n l:=⟨rfl,fun _=>rfl,fun _ _=>rfl⟩
theorem Only.trans {n m o:List Pt} {l:List Nat} (h:Only n m l) (k:Only m o l):Only n o l:=⟨k.len.trans h.len,fun j=>(k.id j).trans (h.id j),fun j hj=>(k.oth j hj).trans (h.oth j hj)⟩
theorem Only.mono {n m:List Pt} {l l':List Nat} (h:Only n m l) (hl:∀ k∈l,k∈l'):Only n m l':=⟨h.len,h.id,fun j hj=>h.oth j fun k=>hj (hl j k)⟩
theorem qhQ {n:List Pt} {k:Nat} {q:Pt} (hq:q.id=(ndT n k).id) {l:List Nat} (hk:k∈l):Only n (n.set k q) l:=by
 refine⟨List.length_set,fun j=>?_,fun j hj=>?_⟩
 ·unfold idN
  rw[List.getD_eq_getElem?_getD,List.getD_eq_getElem?_getD,List.getElem?_set]
  by_cases e:k=j
  ·subst e
   rw[if_pos rfl]
   by_cases hl:k<n.length
   ·rw[if_pos hl]
    have:=qat hl
    rw[this]
    exact hq
   ·rw[if_neg hl,List.getElem?_eq_none (by omega)]
  ·rw[if_neg e]
 ·rw[List.getElem?_set_ne fun e=>hj (by rw[← e];exact hk)]
theorem qd4 {n:List Pt} {k:Nat} (z:Int) {l:List Nat} (hk:k∈l):Only n (stA n k z) l:=qhQ (q:={ ndT n k with a:=z }) rfl hk
theorem qen {n:List Pt} {k:Nat} (z:Int) {l:List Nat} (hk:k∈l):Only n (qiZ n k z) l:=qhQ (q:={ ndT n k with b:=z }) rfl hk
def grN:Sh Nat→List Pt→List Pt
 | .nil,n=>n
 | .node l k r,n=>qiZ (grN r (stA (grN l n) k (rtI l))) k (rtI r)
theorem qbB:∀ (T:Sh Nat) (n:List Pt),Only n (grN T n) T.list
 | .nil,n=>Only.refl n _
 | .node l k r,n=>by
  have mk:k∈(Sh.node l k r).list:=List.mem_append_right _ List.mem_cons_self
  refine (((qbB l n).mono fun y hy=>List.mem_append_left _ hy).trans (qd4 _ mk)).trans (((qbB r _).mono fun y hy=>List.mem_append_right _ (List.mem_cons_of_mem _ hy)).trans (qen _ mk))
theorem qgT:∀ (T:Sh Nat) (n:List Pt),T.list.Nodup→(∀ k∈T.list,k<n.length)→Rep (grN T n) (rtI T) T
 | .nil,n,_,_=>rfl
 | .node l k r,n,hn,hb=>by
  obtain⟨o1,o2,o3,o4⟩:=Sh.mid_out hn
  have dis:∀ y∈l.list,y∉r.list:=fun y hy hr=>(List.nodup_append.1 hn).2.2 y hy y (List.mem_cons_of_mem _ hr) rfl
  have hk:=hb k (List.mem_append_right _ List.mem_cons_self)
  have q1:=qbB l n
  have q2:=qd4 (n:=grN l n) (k:=k) (rtI l) (l:=[k]) List.mem_cons_self
  have q3:=qbB r (stA (grN l n) k (rtI l))
  have q4:=qen (n:=grN r (stA (grN l n) k (rtI l))) (k:=k) (rtI r) (l:=[k]) List.mem_cons_self
  have r1:=qgT l n o3 fun y hy=>hb y (List.mem_append_left _ hy)
  have r2:=qgT r (stA (grN l n) k (rtI l)) o4 fun y hy=>by rw[q2.len,q1.len];exact hb y (List.mem_append_right _ (List.mem_cons_of_mem _ hy))
  have nk:∀ y∈l.list,y∉[k]:=fun y hy h=>by rw[List.mem_singleton] at h;exact o1 (h▸hy)
  have nk2:∀ y∈r.list,y∉[k]:=fun y hy h=>by rw[List.mem_singleton] at h;exact o2 (h▸hy)
  have kl:k<(grN l n).length:=by rw[q1.len];exact hk
  have kl2:k<(grN r (stA (grN l n) k (rtI l))).length:=by rw[q3.len,q2.len];exact kl
  have e1:(grN r (stA (grN l n) k (rtI l)))[k]?=some { ndT (grN l n) k with a:=rtI l }:=by
   rw[q3.oth k o2]
   unfold stA
   rw[List.getElem?_set,if_pos rfl,if_pos kl]
  have e2:ndT (grN r (stA (grN l n) k (rtI l))) k={ ndT (grN l n) k with a:=rtI l }:=by
   have:=qat kl2
   rw[e1] at this
   exact (Option.some.inj this).symm
  refine⟨rfl,{ ndT (grN l n) k with a:=rtI l,b:=rtI r },?_,?_,?_⟩
  ·show (qiZ _ k (rtI r))[k]?=_
   unfold qiZ
   rw[List.getElem?_set,if_pos rfl,if_pos kl2,e2]
  ·exact r1.mono fun y hy=>by rw[show (grN (.node l k r) n)[y]?=(qiZ (grN r (stA (grN l n) k (rtI l))) k (rtI r))[y]? from rfl,q4.oth y (nk y hy),q3.oth y (dis y hy),q2.oth y (nk y hy)]
  ·exact r2.mono fun y hy=>q4.oth y (nk2 y hy)
def jnN (b:Nat→Nat→Bool):Sh Nat→Sh Nat→List Pt→List Pt
 | .nil,_,n=>n
 | .node _ _ _,.nil,n=>n
 | .node l x r,.node l' y r',n=>if b x y=true then qiZ (jnN b r (.node l' y r') n) x (rtI (Sh.mrg b r (.node l' y r'))) else stA (jnN b (.node l x r) l' n) y (rtI (Sh.mrg b (.node l x r) l'))
termination_by A B=>A.size+B.size
decreasing_by all_goals simp[Sh.size];omega
theorem qbQ (b:Nat→Nat→Bool):∀ (A B:Sh Nat) (n:List Pt),Only n (jnN b A B n) (A.list++B.list)
 | .nil,B,n=>by unfold jnN;exact Only.refl n _
 | .node l x r,.nil,n=>by unfold jnN;exact Only.refl n _
 | .node l x r,.node l' y r',n=>by
  unfold jnN
  split
  ·refine ((qbQ b r (.node l' y r') n).mono fun k hk=>?_).trans (qen _ (List.mem_append_left _ (List.mem_append_right _ List.mem_cons_self)))
   rcases List.mem_append.1 hk with hk | hk
   ·exact List.mem_append_left _ (List.mem_append_right _ (List.mem_cons_of_mem _ hk))
   ·exact List.mem_append_right _ hk
  ·refine ((qbQ b (.node l x r) l' n).mono fun k hk=>?_).trans (qd4 _ (List.mem_append_right _ (List.mem_append_right _ List.mem_cons_self)))
   rcases List.mem_append.1 hk with hk | hk
   ·exact List.mem_append_left _ hk
   ·exact List.mem_append_right _ (List.mem_append_left _ hk)
termination_by A B=>A.size+B.size
decreasing_by all_goals simp[Sh.size];omega
theorem qgI (b:Nat→Nat→Bool):∀ (A B:Sh Nat) (n:List Pt),Rep n (rtI A) A→Rep n (rtI B) B→(A.list++B.list).Nodup→Rep (jnN b A B n) (rtI (Sh.mrg b A B)) (Sh.mrg b A B)
 | .nil,B,n,_,h,_=>by rw[jnN,Sh.mrg];exact h
 | .node l x r,.nil,n,h,_,_=>by rw[jnN,Sh.mrg];exact h
 | .node l x r,.node l' y r',n,hA,hB,hn=>by
  obtain⟨_,p,hp,a1,a2⟩:=hA
  obtain⟨_,q,hq,b1,b2⟩:=hB
  obtain⟨nA,nB,nAB⟩:=List.nodup_append.1 hn
  obtain⟨o1,o2,o3,o4⟩:=Sh.mid_out nA
  obtain⟨p1,p2,p3,p4⟩:=Sh.mid_out nB
  have dA:∀ k∈l.list,k∉r.list:=fun k hk hr=>(List.nodup_append.1 nA).2.2 k hk k (List.mem_cons_of_mem _ hr) rfl
  have dB:∀ k∈l'.list,k∉r'.list:=fun k hk hr=>(List.nodup_append.1 nB).2.2 k hk k (List.mem_cons_of_mem _ hr) rfl
  have mx:x∈(Sh.node l x r).list:=List.mem_append_right _ List.mem_cons_self
  have my:y∈(Sh.node l' y r').list:=List.mem_append_right _ List.mem_cons_self
  have ml:∀ k∈l.list,k∈(Sh.node l x r).list:=fun k hk=>List.mem_append_left _ hk
  have mr:∀ k∈r.list,k∈(Sh.node l x r).list:=fun k hk=>List.mem_append_right _ (List.mem_cons_of_mem _ hk)
  have ml':∀ k∈l'.list,k∈(Sh.node l' y r').list:=fun k hk=>List.mem_append_left _ hk
  have mr':∀ k∈r'.list,k∈(Sh.node l' y r').list:=fun k hk=>List.mem_append_right _ (List.mem_cons_of_mem _ hk)
  have hxl:=(List.getElem?_eq_some_iff.1 hp).1
  have hyl:=(List.getElem?_eq_some_iff.1 hq).1
  rw[jnN,Sh.mrg]
  by_cases hc:b x y=true
  ·rw[if_pos hc,if_pos hc]
   have n2:(r.list++(Sh.node l' y r').list).Nodup:=List.nodup_append.2 ⟨o4,nB,fun k hk m hm e=>nAB k (mr k hk) m hm e⟩
   have ih:=qgI b r (.node l' y r') n (by rw[← a2.rt];exact a2) ⟨rfl,q,hq,b1,b2⟩ n2
   have on:=qbQ b r (.node l' y r') n
   have hx:x∉r.list++(Sh.node l' y r').list:=fun h=>by
    rcases List.mem_append.1 h with h | h
    ·exact o2 h
    ·exact nAB x mx x h rfl
   have hl:∀ k∈l.list,k∉r.list++(Sh.node l' y r').list:=fun k hk h=>by
    rcases List.mem_append.1 h with h | h
    ·exact dA k hk h
    ·exact nAB k (ml k hk) k h rfl
   have ex:ndT (jnN b r (.node l' y r') n) x=p:=by
    have:=qat (n:=jnN b r (.node l' y r') n) (k:=x) (by rw[on.len];exact hxl)
    rw[on.oth x hx,hp] at this
    exact (Option.some.inj this).symm
   refine⟨rfl,{ p with b:=rtI (Sh.mrg b r (.node l' y r')) },?_,?_,?_⟩
   ·unfold qiZ
    rw[List.getElem?_set,if_pos rfl,if_pos (by rw[on.len];exact hxl),ex]
   ·unfold qiZ
    exact (a1.mono fun k hk=>on.oth k (hl k hk)).set o1
   ·unfold qiZ
    exact ih.set (by rw[Sh.mrg_list];exact hx)
  ·rw[if_neg hc,if_neg hc]
   have n2:((Sh.node l x r).list++l'.list).Nodup:=List.nodup_append.2 ⟨nA,p3,fun k hk m hm e=>nAB k hk m (ml' m hm) e⟩
   have ih:=qgI b (.node l x r) l' n ⟨rfl,p,hp,a1,a2⟩ (by rw[← b1.rt];exact b1) n2
   have on:=qbQ b (.node l x r) l' n
   have hy:y∉(Sh.node l x r).list++l'.list:=fun h=>by
    rcases List.mem_append.1 h with h | h
    ·exact nAB y h y my rfl
    ·exact p1 h
   have hr:∀ k∈r'.list,k∉(Sh.node l x r).list++l'.list:=fun k hk h=>by
    rcases List.mem_append.1 h with h | h
    ·exact nAB k h k (mr' k hk) rfl
    ·exact dB k h hk
   have ey:ndT (jnN b (.node l x r) l' n) y=q:=by
    have:=qat (n:=jnN b (.node l x r) l' n) (k:=y) (by rw[on.len];exact hyl)
    rw[on.oth y hy,hq] at this
    exact (Option.some.inj this).symm
   refine⟨rfl,{ q with a:=rtI (Sh.mrg b (.node l x r) l') },?_,?_,?_⟩
   ·unfold stA
    rw[List.getElem?_set,if_pos rfl,if_pos (by rw[on.len];exact hyl),ey]
   ·unfold stA
    exact ih.set (by rw[Sh.mrg_list];exact hy)
   ·unfold stA
    exact (b2.mono fun k hk=>on.oth k (hr k hk)).set p2
termination_by A B=>A.size+B.size
decreasing_by all_goals simp[Sh.size];omega
def res (lo hi:Nat):Sh Nat→Sh Nat
 | .nil=>.nil
 | .node l k r=>if k<lo then res lo hi r else if hi≤k then res lo hi l else .node (res lo hi l) k (res lo hi r)
theorem qd0 {lo hi k:Nat}:∀ {T:Sh Nat},k∈(res lo hi T).list→k∈T.list∧lo≤k∧k<hi
 | .nil,h=>by cases h
 | .node l y r,h=>by
  unfold res at h
  split at h
  ·obtain⟨h1,h2⟩:=qd0 h
   exact⟨List.mem_append_right _ (List.mem_cons_of_mem _ h1),h2⟩
  ·split at h
   ·obtain⟨h1,h2⟩:=qd0 h
    exact⟨List.mem_append_left _ h1,h2⟩
   ·rcases List.mem_append.1 h with h | h
    ·obtain⟨h1,h2⟩:=qd0 h
     exact⟨List.mem_append_left _ h1,h2⟩
    ·rcases List.mem_cons.1 h with rfl | h
     ·exact⟨List.mem_append_right _ List.mem_cons_self,by omega,by omega⟩
     ·obtain⟨h1,h2⟩:=qd0 h
      exact⟨List.mem_append_right _ (List.mem_cons_of_mem _ h1),h2⟩
def shI (lo:Nat) (i:Int):Int:=if i<0 then -1 else i-lo
theorem qcW {lo hi:Nat}:∀ {T:Sh Nat},(∀ k∈T.list,lo≤k∧k<hi)→res lo hi T=T
 | .nil,_=>rfl
 | .node l k r,h=>by
  have hk:=h k (List.mem_append_right _ List.mem_cons_self)
  unfold res
  rw[if_neg (by omega),if_neg (by omega),qcW fun y hy=>h y (List.mem_append_left _ hy),qcW fun y hy=>h y (List.mem_append_right _ (List.mem_cons_of_mem _ hy))]
theorem qfx {l r:List Nat} {x:Nat} (h:(l++x::r).Pairwise (· < ·)):l.Pairwise (· < ·)∧r.Pairwise (· < ·)∧(∀ y∈l,y<x)∧(∀ y∈r,x<y):=by
 obtain⟨h1,h2,h3⟩:=List.pairwise_append.1 h
 obtain⟨h4,h5⟩:=List.pairwise_cons.1 h2
 exact⟨h1,h5,fun y hy=>h3 y hy x List.mem_cons_self,h4⟩
end Go.Proofs.Ytalnjplghagbpaa

namespace Go.Proofs.Ytalnjplghagbpaa
set_option maxRecDepth 100000
open Go.RowKit
theorem qkb {tn td:Int} {p q:Pt} (hi:p.id≠q.id) (h:ld tn td p q=false):ld tn td q p=true:=by
 unfold ld at *
 generalize p.a*td+p.b*tn=P at *
 generalize q.a*td+q.b*tn=Q at *
 rw[qdH] at h
 rw[qes]
 omega
theorem qur {l:List Pt} (hv:Val l) {p q:Pt} (hp:p∈l) (hq:q∈l) (e:p.id=q.id):p=q:=by
 obtain⟨i,hi,rfl⟩:=List.getElem_of_mem hp
 obtain⟨j,hj,rfl⟩:=List.getElem_of_mem hq
 rcases Nat.lt_trichotomy i j with h | h | h
 ·have:=hv.up.mono h (List.getElem?_eq_getElem hi) (List.getElem?_eq_getElem hj);omega
 ·subst h;rfl
 ·have:=hv.up.mono h (List.getElem?_eq_getElem hj) (List.getElem?_eq_getElem hi);omega
def ptI (s:List Pt) (i:Int):Pt:=(s.find? fun q=>q.id==i).getD ⟨0,0,0⟩
theorem qdS {s:List Pt} (hs:Val s) {q:Pt} (hq:q∈s):ptI s q.id=q:=by
 unfold ptI
 cases h:s.find? fun r=>r.id==q.id with
 | none=>
  have:=List.find?_eq_none.1 h q hq
  simp at this
 | some r=>
  have h1:=List.mem_of_find?_eq_some h
  have h2:=List.find?_some h
  exact qur hs h1 hq (by simpa using h2)
def RI (s:List Pt) (tn td:Int) (a b:Int):Prop:=ld tn td (ptI s a) (ptI s b)=true
section
variable {s:List Pt} {tn td:Int}
theorem RI.asym (a b:Int) (h:RI s tn td a b):¬ RI s tn td b a:=fun k=>by
 have h2:ld tn td (ptI s b) (ptI s a)=true:=k
 rw[qe6 h] at h2
 cases h2
theorem RI.trans {a b c:Int} (h:RI s tn td a b) (k:RI s tn td b c):RI s tn td a c:=qdz h k
theorem RI.tot (hs:Val s) {a b:Int} (ha:a∈s.map Pt.id) (hb:b∈s.map Pt.id) (h:a≠b):RI s tn td a b∨RI s tn td b a:=by
 obtain⟨p,hp,rfl⟩:=List.mem_map.1 ha
 obtain⟨q,hq,rfl⟩:=List.mem_map.1 hb
 unfold RI
 rw[qdS hs hp,qdS hs hq]
 cases e:ld tn td p q
 ·exact Or.inr (qkb h e)
 ·exact Or.inl rfl
theorem qjF (hs:Val s):(s.map Pt.id).Pairwise (· < ·):=by
 rw[List.pairwise_map,List.pairwise_iff_getElem]
 intro i j hi hj hij
 exact hs.up.mono hij (List.getElem?_eq_getElem hi) (List.getElem?_eq_getElem hj)
theorem qmd {l:List Int} (h:l.Pairwise (· < ·)):l.Nodup:=h.imp fun hlt e=>by rw[e] at hlt;omega
structure TreeOf (s:List Pt) (tn td:Int) (S:Sh Int):Prop where
 ids:S.list=s.map Pt.id
 ho:S.HO (RI s tn td)
theorem TreeOf.uniq {S S':Sh Int} (hs:Val s) (h:TreeOf s tn td S) (h':TreeOf s tn td S'):S=S':=
 h.ho.uniq RI.asym h'.ho (h.ids.trans h'.ids.symm) (by rw[h.ids];exact qmd (qjF hs))
theorem qff {R R':Int→Int→Prop}:∀ {S:Sh Int},(∀ a∈S.list,∀ b∈S.list,R a b→R' a b)→S.HO R→S.HO R'
 | .nil,_,_=>trivial
 | .node l x r,h,⟨h1,h2,h3,h4⟩=>by
  have mx:x∈(Sh.node l x r).list:=List.mem_append_right _ List.mem_cons_self
  have ml:∀ y∈l.list,y∈(Sh.node l x r).list:=fun y hy=>List.mem_append_left _ hy
  have mr:∀ y∈r.list,y∈(Sh.node l x r).list:=fun y hy=>List.mem_append_right _ (List.mem_cons_of_mem _ hy)
  exact⟨fun y hy=>h x mx y (ml y hy) (h1 y hy),fun y hy=>h x mx y (mr y hy) (h2 y hy),qff (fun a ha b hb=>h a (ml a ha) b (ml b hb)) h3,qff (fun a ha b hb=>h a (mr a ha) b (mr b hb)) h4⟩
theorem qkz {l la:List Pt} (hv:Val l) (h:la.Sublist l):Val la:=by
 refine⟨Nat.le_trans h.length_le hv.len,fun p hp=>hv.ok p (h.subset hp),?_⟩
 have pw:l.Pairwise fun p q=>p.id<q.id:=by
  rw[List.pairwise_iff_getElem]
  intro i j hi hj hij
  exact hv.up.mono hij (List.getElem?_eq_getElem hi) (List.getElem?_eq_getElem hj)
 have pw2:=pw.sublist h
 rw[List.pairwise_iff_getElem] at pw2
 intro k p q hp hq
 obtain⟨h1,rfl⟩:=List.getElem?_eq_some_iff.1 hp
 obtain⟨h2,rfl⟩:=List.getElem?_eq_some_iff.1 hq
 exact pw2 k (k+1) h1 h2 (by omega)
theorem RI.sub {la:List Pt} (hv:Val s) (h:la.Sublist s) {a b:Int} (ha:a∈la.map Pt.id) (hb:b∈la.map Pt.id):RI la tn td a b↔RI s tn td a b:=by
 obtain⟨p,hp,rfl⟩:=List.mem_map.1 ha
 obtain⟨q,hq,rfl⟩:=List.mem_map.1 hb
 unfold RI
 rw[qdS (qkz hv h) hp,qdS (qkz hv h) hq,qdS hv (h.subset hp),qdS hv (h.subset hq)]
theorem TreeOf.low {S:Sh Int} (hs:Val s) (h:TreeOf s tn td S) (c:Int):TreeOf (s.filter fun p=>decide (p.id<c)) tn td (S.cutL c):=by
 have hu:S.list.Pairwise (· < ·):=by rw[h.ids];exact qjF hs
 have e:(S.cutL c).list=(s.filter fun p=>decide (p.id<c)).map Pt.id:=by
  rw[Sh.cutL_list c hu,h.ids,List.filter_map];rfl
 refine⟨e,qff (fun a ha b hb k=>?_) (Sh.cutL_ho c h.ho)⟩
 rw[e] at ha hb
 exact (RI.sub hs List.filter_sublist ha hb).2 k
open Classical in
theorem TreeOf.dep {S:Sh Int} (hs:Val s) (h:TreeOf s tn td S) {c:Int} (hc:c∈s.map Pt.id):S.dep c=((s.map Pt.id).filter fun i=>decide (i≠c∧Sh.Rul (RI s tn td) (s.map Pt.id) i c)).length:=by
 have:=Sh.dep_count RI.asym c h.ho (by rw[h.ids];exact qjF hs) (by rw[h.ids];exact hc)
 rw[h.ids] at this
 exact this
end
end Go.Proofs.Ytalnjplghagbpaa

namespace Go.Proofs.Ytalnjplghagbpaa
set_option maxRecDepth 100000
open Go.RowKit
abbrev trS (k:Nat) (rt:Int) (l:List Pt):SV:=.ag [.pv (iV rt),.ls k l.length]
abbrev qaa (l:List Pt):SV:=.row 26 3 l.length (qam l)
theorem qhi (x:Int):(x !=x)=false:=by simp
theorem qbm {l:List Pt} {z:Int} {p:Pt} (h:l[z.toNat]?=some p):qcJ (qam l) (0*3+z.toNat*3) [iV p.id,iV p.a,iV p.b]:=qa1 h
theorem qbX {l:List Pt} {z:Int} {p:Pt} (h:l[z.toNat]?=some p):qcJ (qam l) (0*3+z.toNat*3+1) [iV p.a]:=fun j v hj=>by
 have:=qa1 h 1 (iV p.a) rfl
 match j,hj with
 | 0,hj=>cases hj;exact this
theorem qcf {l:List Pt} {z:Int} {p:Pt} (h:l[z.toNat]?=some p):qcJ (qam l) (0*3+z.toNat*3+2) [iV p.b]:=fun j v hj=>by
 have:=qa1 h 2 (iV p.b) rfl
 match j,hj with
 | 0,hj=>cases hj;exact this
theorem qsj {rt z:Int} {l:List Pt} (h1:decide (z≥(-1))=false) :
 Fn 70 1 [trS 0 rt l,.pv (iV (z))] [(0,0,qaa l)] (.pv (.bool false)) 0 []:=
 Fz [] [.t false]
  tI (Ai h1 tI)
theorem qmL {rt z:Int} {l:List Pt} (h1:decide (z≥(-1))=true) (h2:decide (z<(l.length:Int))=true) :
 Fn 70 1 [trS 0 rt l,.pv (iV (z))] [(0,0,qaa l)] (.pv (.bool true)) 0 []:=
 Fz [] [.t true,.t true]
  tI (Ai h1 (Ai h2 tI))
theorem qjh {rt z:Int} {l:List Pt} (h1:decide (z≥(-1))=true) (h2:decide (z<(l.length:Int))=false) :
 Fn 70 1 [trS 0 rt l,.pv (iV (z))] [(0,0,qaa l)] (.pv (.bool false)) 0 []:=
 Fz [] [.t true,.t false]
  tI (Ai h1 (Ai h2 tI))
abbrev qqT (l:List Pt) (rt:Int):HpL:=[(1,0,.pv (iV rt)),(1,1,.ls 0 l.length),(0,0,qaa l)]
theorem qmH {rt z:Int} {l:List Pt} {p:Pt} {k:Nat} (hlt:decide ((k:Int)<(l.length:Int))=true) (hk:l[k]?=some p) (hin:0≤(k:Int)∧(k:Int)<(l.length:Int)) (he:(p.id==z)=false) (hs:iV (IntKind.i64.wrap ((k:Int)+1))=iV (((k+1:Nat):Int))) {e:Exit} {tm2:TmL} {hp2:HpL}
 (r:Rl 1 1 68 0 22 2 ([(1,.pv (iV z)),(2,.pp 1 0),(5,.pv (iV ((k+1:Nat):Int)))]) (qqT l rt) e tm2 hp2):Rl 1 1 68 0 22 2 ([(1,.pv (iV z)),(2,.pp 1 0),(5,.pv (iV (k:Int)))]) (qqT l rt) e tm2 hp2:=
 RunsL.next [] 300 [.t true,.r (iV p.id),.t false,Re hs]
  (Ro (Ai hlt (Ai hin (Ai (qcg hk) (Ai he (Ai hs tI)))))) r
theorem qqm {rt z:Int} {l:List Pt} {p:Pt} {k:Nat} (hlt:decide ((k:Int)<(l.length:Int))=true) (hk:l[k]?=some p) (hin:0≤(k:Int)∧(k:Int)<(l.length:Int)) (he:(p.id==z)=true):Rl 1 1 68 0 22 2 ([(1,.pv (iV z)),(2,.pp 1 0),(5,.pv (iV (k:Int)))]) (qqT l rt) (.ret) ([(4,.pv (iV (k:Int)))]) ([]):=
 RunsL.stop [] 300 [.t true,.r (iV p.id),.t true] (fun h=>by cases h)
  (Ro (Ai hlt (Ai hin (Ai (qcg hk) (Ai he tI)))))
theorem qqa {rt z:Int} {l:List Pt} {k:Nat} (hlt:decide ((k:Int)<(l.length:Int))=false):Rl 1 1 68 0 22 2 ([(1,.pv (iV z)),(2,.pp 1 0),(5,.pv (iV (k:Int)))]) (qqT l rt) (.exit 0) ([]) ([]):=
 RunsL.stop [] 300 [.t false] (fun h=>by cases h)
  (Ro (Ai hlt tI))
theorem qpG {rt z:Int} {l:List Pt} {k:Nat} (r0:Rl 1 1 68 0 22 2 ([(1,.pv (iV z)),(2,.pp 1 0),(5,.pv (iV ((0:Nat):Int)))]) (qqT l rt) (.ret) ([(4,.pv (iV (k:Int)))]) ([])) :
 Fn 68 1 [trS 0 rt l,.pv (iV (z))] [(0,0,qaa l)] (.pv (iV (k:Int))) 0 []:=
 Fz [] [Lf r0]
  tI (Lo r0 [] tI)
theorem qrL {rt z:Int} {l:List Pt} (r0:Rl 1 1 68 0 22 2 ([(1,.pv (iV z)),(2,.pp 1 0),(5,.pv (iV ((0:Nat):Int)))]) (qqT l rt) (.exit 0) ([]) ([])) :
 Fn 68 1 [trS 0 rt l,.pv (iV (z))] [(0,0,qaa l)] (.pv (iV (-1))) 0 []:=
 Fz [] [Lf r0]
  tI (Lo r0 [] tI)
abbrev qtl (l:List Pt) (rt:Int):HpL:=[(2,0,.pv (iV rt)),(2,1,.ls 0 l.length),(3,0,.pv (iV rt)),(3,1,.ls 1 l.length),(0,0,qaa l),(1,0,qaa l)]
theorem qnh {rt:Int} {l:List Pt} {p:Pt} {k:Nat} (hlt:decide ((k:Int)<(l.length:Int))=true) (hk:l[k]?=some p) (hin:0≤(k:Int)∧(k:Int)<(l.length:Int)) (hs:iV (IntKind.i64.wrap ((k:Int)+1))=iV (((k+1:Nat):Int))) {e:Exit} {tm2:TmL} {hp2:HpL}
 (r:Rl 2 2 22 0 38 4 ([(2,.pp 2 0),(3,.pp 3 0),(5,.pv (iV ((k+1:Nat):Int)))]) (qtl l rt) e tm2 hp2):Rl 2 2 22 0 38 4 ([(2,.pp 2 0),(3,.pp 3 0),(5,.pv (iV (k:Int)))]) (qtl l rt) e tm2 hp2:=
 RunsL.next [] 300 [.t true,.r (ptV p),.r (ptV p),.t false,Re hs]
  (Ro (Ai hlt (Ai hin (Ai (qa1 hk) (Ai hin (Ai (qa1 hk) (Ai (qlF p) (Ai hs tI)))))))) r
theorem qpu {rt:Int} {l:List Pt} {k:Nat} (hlt:decide ((k:Int)<(l.length:Int))=false):Rl 2 2 22 0 38 4 ([(2,.pp 2 0),(3,.pp 3 0),(5,.pv (iV (k:Int)))]) (qtl l rt) (.exit 0) ([]) ([]):=
 RunsL.stop [] 300 [.t false] (fun h=>by cases h)
  (Ro (Ai hlt tI))
theorem qpI {rt:Int} {l:List Pt} (r0:Rl 2 2 22 0 38 4 ([(2,.pp 2 0),(3,.pp 3 0),(5,.pv (iV ((0:Nat):Int)))]) (qtl l rt) (.exit 0) ([]) ([])) :
 Fn 22 2 [trS 0 rt l,trS 1 rt l] [(0,0,qaa l),(1,0,qaa l)] (.pv (.bool true)) 0 []:=
 Fz [] [.t false,.t false,Lf r0]
  tI (Ai (qhi rt) (Ai (qhi (l.length:Int)) (Lo r0 [] tI)))
theorem qj6 {rt x i0 k0:Int} {l m:List Pt} (h0:decide (i0<0)=true) (h1:decide (k0<0)=true) :
 Fn 95 2 [trS 0 rt l,trS 1 x m,.pv (iV (i0)),.pv (iV (k0))] [(0,0,qaa l),(1,0,qaa m)] (.pv (.bool true)) 0 []:=
 Fz [] [.t true,.t true,.t true]
  tI (Ai h0 (Ai h0 (Ai h1 tI)))
theorem qiK {rt x i0 k0:Int} {l m:List Pt} (h0:decide (i0<0)=true) (h1:decide (k0<0)=false) :
 Fn 95 2 [trS 0 rt l,trS 1 x m,.pv (iV (i0)),.pv (iV (k0))] [(0,0,qaa l),(1,0,qaa m)] (.pv (.bool false)) 0 []:=
 Fz [] [.t true,.t true,.t false]
  tI (Ai h0 (Ai h0 (Ai h1 tI)))
theorem qt8 {rt x i0 k0:Int} {l m:List Pt} (h0:decide (i0<0)=false) (h1:decide (k0<0)=true) :
 Fn 95 2 [trS 0 rt l,trS 1 x m,.pv (iV (i0)),.pv (iV (k0))] [(0,0,qaa l),(1,0,qaa m)] (.pv (.bool false)) 0 []:=
 Fz [] [.t false,.t true,.t false]
  tI (Ai h0 (Ai h1 (Ai h0 tI)))
theorem qsM {rt x i0 k0:Int} {l m:List Pt} {p q:Pt} (h0:decide (i0<0)=false) (h1:decide (k0<0)=false) (hk:l[i0.toNat]?=some p) (hin:0≤i0∧i0<(l.length:Int)) (hm:m[k0.toNat]?=some q) (hin2:0≤k0∧k0<(m.length:Int)) (he:(p.id==q.id)=false) :
 Fn 95 2 [trS 0 rt l,trS 1 x m,.pv (iV (i0)),.pv (iV (k0))] [(0,0,qaa l),(1,0,qaa m)] (.pv (.bool false)) 0 []:=
 Fz [] [.t false,.t false,.r (ptV p),.r (ptV q),.t false]
  tI (Ai h0 (Ai h1 (Ai hin (Ai (qbm hk) (Ai hin2 (Ai (qbm hm) (Ai he tI)))))))
theorem quD {rt x i0 k0:Int} {l m:List Pt} {p q:Pt} (h0:decide (i0<0)=false) (h1:decide (k0<0)=false) (hk:l[i0.toNat]?=some p) (hin:0≤i0∧i0<(l.length:Int)) (hm:m[k0.toNat]?=some q) (hin2:0≤k0∧k0<(m.length:Int)) (he:(p.id==q.id)=true) (hl:Fn 95 2 [trS 0 rt l,trS 1 x m,.pv (iV p.a),.pv (iV q.a)] [(0,0,qaa l),(1,0,qaa m)] (.pv (.bool false)) 0 []) :
 Fn 95 2 [trS 0 rt l,trS 1 x m,.pv (iV (i0)),.pv (iV (k0))] [(0,0,qaa l),(1,0,qaa m)] (.pv (.bool false)) 0 []:=
 Fz [] [.t false,.t false,.r (ptV p),.r (ptV q),.t true,Cf hl [0,1]]
  tI (Ai h0 (Ai h1 (Ai hin (Ai (qbm hk) (Ai hin2 (Ai (qbm hm) (Ai he (Co hl [0,1] 6 tI))))))))
theorem quK {rt x i0 k0:Int} {l m:List Pt} {p q:Pt} {w:Bool} (h0:decide (i0<0)=false) (h1:decide (k0<0)=false) (hk:l[i0.toNat]?=some p) (hin:0≤i0∧i0<(l.length:Int)) (hm:m[k0.toNat]?=some q) (hin2:0≤k0∧k0<(m.length:Int)) (he:(p.id==q.id)=true) (hl:Fn 95 2 [trS 0 rt l,trS 1 x m,.pv (iV p.a),.pv (iV q.a)] [(0,0,qaa l),(1,0,qaa m)] (.pv (.bool true)) 0 []) (hr:Fn 95 2 [trS 0 rt l,trS 1 x m,.pv (iV p.b),.pv (iV q.b)] [(0,0,qaa l),(1,0,qaa m)] (.pv (.bool w)) 0 []) :
 Fn 95 2 [trS 0 rt l,trS 1 x m,.pv (iV (i0)),.pv (iV (k0))] [(0,0,qaa l),(1,0,qaa m)] (.pv (.bool w)) 0 []:=
 Fz [] [.t false,.t false,.r (ptV p),.r (ptV q),.t true,Cf hl [0,1],Cf hr [0,1]]
  tI (Ai h0 (Ai h1 (Ai hin (Ai (qbm hk) (Ai hin2 (Ai (qbm hm) (Ai he (Co hl [0,1] 6 (Co hr [0,1] 6 tI)))))))))
end Go.Proofs.Ytalnjplghagbpaa

namespace Go.Proofs.Ytalnjplghagbpaa
set_option maxRecDepth 100000
open Go.RowKit
abbrev qap:List Pt:=[⟨1,0,2⟩,⟨2,6,-1⟩,⟨5,0,0⟩]
theorem qnc {z:Int} :
 Pure Try.prog 20 #[iV z] (qab z 1):=
 qae (args:=[iV z]) 300 []
  (Ai rfl tI) (by kernel_rfl)
theorem qce :
 Fn 15 0 [] [] (.ag [.ls 0 3]) 1 [(0,0,qag qap)]:=
 Fz [(0,1)] [.lw]
  (qai (qaB [(0,1)]) [(0,0,qag qap)]) tI
abbrev qro:HpL:=[(0,0,qaa ([Pt.mk (1) (-1) (1),Pt.mk (2) (-1) (2),Pt.mk (5) (-1) (-1)]:List Pt))]
theorem qri :
 Fn 21 0 [] [] (trS 0 0 ([Pt.mk (1) (-1) (1),Pt.mk (2) (-1) (2),Pt.mk (5) (-1) (-1)]:List Pt)) 1 qro:=
 Fz [(0,1)] [.lw]
  (qai (qaB [(0,1)]) qro) tI
theorem qve (hg:Fn 15 0 [] [] (.ag [.ls 0 3]) 1 [(0,0,qag qap)]) (hat0:Pure Try.prog 20 #[iV (0)] (qab 0 1)) (h1:Fn 18 1 [qas 0 qap,.pv (qab 0 1)] [(0,0,qag qap)] (.tu [.ag [.pv (iV 1),.ls 1 ([Pt.mk (1) (-1) (-1),Pt.mk (2) (0) (2),Pt.mk (5) (-1) (-1)]:List Pt).length],.one (.pv (iV 0))]) 1 [(1,0,qaa ([Pt.mk (1) (-1) (-1),Pt.mk (2) (0) (2),Pt.mk (5) (-1) (-1)]:List Pt))]) (hat2:Pure Try.prog 20 #[iV (2)] (qab 2 1)) (h2:Fn 18 1 [qas 0 qap,.pv (qab 2 1)] [(0,0,qag qap)] (.tu [.ag [.pv (iV 0),.ls 1 ([Pt.mk (1) (-1) (1),Pt.mk (2) (-1) (2),Pt.mk (5) (-1) (-1)]:List Pt).length],.one (.pv (iV 0))]) 1 [(1,0,qaa ([Pt.mk (1) (-1) (1),Pt.mk (2) (-1) (2),Pt.mk (5) (-1) (-1)]:List Pt))]) (hd:Fn 12 1 [trS 0 0 ([Pt.mk (1) (-1) (1),Pt.mk (2) (-1) (2),Pt.mk (5) (-1) (-1)]:List Pt),.pv (iV (5))] qro (.pv (.tuple #[iV 2,iV 0])) 0 []) (hs:Fn 13 1 [trS 0 0 ([Pt.mk (1) (-1) (1),Pt.mk (2) (-1) (2),Pt.mk (5) (-1) (-1)]:List Pt),.pv (iV (2))] qro (.tu [.ag [.pv (iV 0),.lq 1 3 0 1],.ag [.pv (iV 0),.ls 2 ([Pt.mk (2) (-1) (1),Pt.mk (5) (-1) (-1)]:List Pt).length],.one (.pv (iV 0))]) 2 [(1,0,qaa ([Pt.mk (1) (-1) (-1),Pt.mk (2) (-1) (2),Pt.mk (5) (-1) (-1)]:List Pt)),(2,0,qaa ([Pt.mk (2) (-1) (1),Pt.mk (5) (-1) (-1)]:List Pt))]) (q1:Fn 22 2 [trS 0 1 ([Pt.mk (1) (-1) (-1),Pt.mk (2) (0) (2),Pt.mk (5) (-1) (-1)]:List Pt),trS 1 1 ([Pt.mk (1) (-1) (-1),Pt.mk (2) (0) (2),Pt.mk (5) (-1) (-1)]:List Pt)] [(0,0,qaa ([Pt.mk (1) (-1) (-1),Pt.mk (2) (0) (2),Pt.mk (5) (-1) (-1)]:List Pt)),(1,0,qaa ([Pt.mk (1) (-1) (-1),Pt.mk (2) (0) (2),Pt.mk (5) (-1) (-1)]:List Pt))] (.pv (.bool true)) 0 []) (hc:Fn 21 0 [] [] (trS 0 0 ([Pt.mk (1) (-1) (1),Pt.mk (2) (-1) (2),Pt.mk (5) (-1) (-1)]:List Pt)) 1 qro) (q2:Fn 22 2 [trS 0 0 ([Pt.mk (1) (-1) (1),Pt.mk (2) (-1) (2),Pt.mk (5) (-1) (-1)]:List Pt),trS 1 0 ([Pt.mk (1) (-1) (1),Pt.mk (2) (-1) (2),Pt.mk (5) (-1) (-1)]:List Pt)] [(0,0,qaa ([Pt.mk (1) (-1) (1),Pt.mk (2) (-1) (2),Pt.mk (5) (-1) (-1)]:List Pt)),(1,0,qaa ([Pt.mk (1) (-1) (1),Pt.mk (2) (-1) (2),Pt.mk (5) (-1) (-1)]:List Pt))] (.pv (.bool true)) 0 []) (q3:Fn 22 2 [.ag [.pv (iV 0),.lq 0 3 0 1],trS 1 0 ([Pt.mk (1) (-1) (-1)]:List Pt)] [(0,0,qaa ([Pt.mk (1) (-1) (-1),Pt.mk (2) (-1) (2),Pt.mk (5) (-1) (-1)]:List Pt)),(1,0,qaa ([Pt.mk (1) (-1) (-1)]:List Pt))] (.pv (.bool true)) 0 []) (q4:Fn 22 2 [trS 0 0 ([Pt.mk (2) (-1) (1),Pt.mk (5) (-1) (-1)]:List Pt),trS 1 0 ([Pt.mk (2) (-1) (1),Pt.mk (5) (-1) (-1)]:List Pt)] [(0,0,qaa ([Pt.mk (2) (-1) (1),Pt.mk (5) (-1) (-1)]:List Pt)),(1,0,qaa ([Pt.mk (2) (-1) (1),Pt.mk (5) (-1) (-1)]:List Pt))] (.pv (.bool true)) 0 []) :
 Fn 24 0 [] [] (.pv (.bool true)) 0 []:=
 qeR 700 [] [Cf hg [],Rf hat0,Cf h1 [0],Cf hg [],Rf hat2,Cf h2 [3],Cf hd [4],Cf hs [4],.md,.k,.lw,Cf q1 [1,10],.k,Cf hc [],Cf q2 [4,11],.k,.k,.k,.lw,Cf q3 [6,12],.lw,Cf q4 [7,13]]
  tI (Co hg [] 0 (Ai hat0 (Co h1 [0] 1 (Co hg [] 3 (Ai hat2 (Co h2 [3] 4 (Co hd [4] 6 (Co hs [4] 6 (Co q1 [1,10] 11 (Co hc [] 11 (Co q2 [4,11] 12 (Co q3 [6,12] 13 (Co q4 [7,13] 14 tI))))))))))))) (by kernel_rfl)
end Go.Proofs.Ytalnjplghagbpaa

namespace Go.Proofs.Ytalnjplghagbpaa
set_option maxRecDepth 100000
open Go.RowKit
open Classical in
noncomputable def pT (p:Prop):Bool:=decide p
open Classical in
theorem qd8 {p:Prop} (h:p):pT p=true:=by unfold pT;exact decide_eq_true h
open Classical in
theorem qdn {p:Prop} (h:¬ p):pT p=false:=by unfold pT;exact decide_eq_false h
theorem qij {n:Int} (h0 : -9223372036854775808≤n) (h1:n≤9223372036854775807):iV (IntKind.i64.wrap n)=iV n:=by
 rw[show IntKind.i64.wrap n=n by rw[IntKind.wrap_i64];omega]
section
variable {rt x:Int} {l m:List Pt}
theorem qjo (z:Int):Fn 70 1 [trS 0 rt l,.pv (iV z)] [(0,0,qaa l)] (.pv (.bool (pT (-1≤z∧z<(l.length:Int))))) 0 []:=by
 by_cases h1 : -1≤z
 ·by_cases h2:z<(l.length:Int)
  ·rw[qd8 ⟨h1,h2⟩];exact qmL (h1:=dt (by omega)) (h2:=dt h2)
  ·rw[qdn fun h=>h2 h.2];exact qjh (h1:=dt (by omega)) (h2:=df h2)
 ·rw[qdn fun h=>h1 h.1];exact qsj (h1:=df (by omega))
theorem qhm:∀ {T T':Sh Nat} {i k:Int},Rep l i T→Rep m k T'→Fn 95 2 [trS 0 rt l,trS 1 x m,.pv (iV i),.pv (iV k)] [(0,0,qaa l),(1,0,qaa m)] (.pv (.bool (pT (idT l T=idT m T')))) 0 []
 | .nil,.nil,i,k,h,h'=>by
  have e:i = -1:=h
  have e':k = -1:=h'
  subst e e'
  rw[qd8 (p:=idT l .nil=idT m .nil) rfl]
  exact qj6 (h0:=by decide) (h1:=by decide)
 | .nil,.node a j b,i,k,h,⟨h',_⟩=>by
  have e:i = -1:=h
  subst e h'
  rw[qdn fun h=>by cases h]
  exact qiK (h0:=by decide) (h1:=df (by omega))
 | .node a j b,.nil,i,k,⟨h,_⟩,h'=>by
  have e':k = -1:=h'
  subst e' h
  rw[qdn fun h=>by cases h]
  exact qt8 (h0:=df (by omega)) (h1:=by decide)
 | .node a j b,.node a' j' b',i,k,⟨h,p,hp,a1,a2⟩,⟨h',q,hq,b1,b2⟩=>by
  subst h h'
  have hjl:=qak hp
  have hjl':=qak hq
  have ih1:=qhm a1 b1
  have ih2:=qhm a2 b2
  have e1:idN l j=p.id:=qaz hp
  have e2:idN m j'=q.id:=qaz hq
  have eq:(idT l (.node a j b)=idT m (.node a' j' b'))↔(idT l a=idT m a'∧p.id=q.id∧idT l b=idT m b'):=by
   show (Sh.node (idT l a) (idN l j) (idT l b)=Sh.node (idT m a') (idN m j') (idT m b'))↔_
   rw[Sh.node.injEq,e1,e2]
  by_cases c1:p.id=q.id
  ·by_cases c2:idT l a=idT m a'
   ·rw[qd8 c2] at ih1
    have ew:pT (idT l (.node a j b)=idT m (.node a' j' b'))=pT (idT l b=idT m b'):=by
     by_cases c3:idT l b=idT m b'
     ·rw[qd8 c3,qd8 (eq.2 ⟨c2,c1,c3⟩)]
     ·rw[qdn c3,qdn fun h=>c3 (eq.1 h).2.2]
    rw[ew]
    exact quK (h0:=df (by omega)) (h1:=df (by omega)) (hk:=hp) (hin:=⟨by omega,by omega⟩) (hm:=hq) (hin2:=⟨by omega,by omega⟩) (he:=by simp[c1]) (hl:=ih1) (hr:=ih2)
   ·rw[qdn c2] at ih1
    rw[qdn fun h=>c2 (eq.1 h).1]
    exact quD (h0:=df (by omega)) (h1:=df (by omega)) (hk:=hp) (hin:=⟨by omega,by omega⟩) (hm:=hq) (hin2:=⟨by omega,by omega⟩) (he:=by simp[c1]) (hl:=ih1)
  ·rw[qdn fun h=>c1 (eq.1 h).2.1]
   exact qsM (h0:=df (by omega)) (h1:=df (by omega)) (hk:=hp) (hin:=⟨by omega,by omega⟩) (hm:=hq) (hin2:=⟨by omega,by omega⟩) (he:=by simpa using c1)
theorem qji (hn:l.length≤1000000):Fn 22 2 [trS 0 rt l,trS 1 rt l] [(0,0,qaa l),(1,0,qaa l)] (.pv (.bool true)) 0 []:=
 qpI (r0:=RunsL.rounds (fun k=>[(2,.pp 2 0),(3,.pp 3 0),(5,.pv (iV (k:Int)))]) (fun _=>[(2,0,.pv (iV rt)),(2,1,.ls 0 l.length),(3,0,.pv (iV rt)),(3,1,.ls 1 l.length),(0,0,qaa l),(1,0,qaa l)]) (N:=l.length) l.length 0 (Nat.zero_add _) (fun k _ hk r=>by
  obtain⟨p,hp⟩:=qao hk
  exact qnh (hlt:=dt (by omega)) (hk:=hp) (hin:=qa4 hk) (hs:=qah (by omega)) r) (qpu (hlt:=df (by omega))))
end
end Go.Proofs.Ytalnjplghagbpaa

namespace Go.Proofs.Ytalnjplghagbpaa
set_option maxRecDepth 100000
open Go.RowKit
section
variable {s:List Pt} {tn td:Int}
theorem qre {i k:Nat} (hs:Val s) (hi:i<s.length) (hk:k<s.length) (h:k≠i):(ndT s i).id≠(ndT s k).id:=fun e=>by
 rcases Nat.lt_trichotomy i k with h0 | h0 | h0
 ·have:=hs.up.mono h0 (qat hi) (qat hk);omega
 ·exact h h0.symm
 ·have:=hs.up.mono h0 (qat hk) (qat hi);omega
end
end Go.Proofs.Ytalnjplghagbpaa
