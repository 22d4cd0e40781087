/-
  Joined: Ua, Uc. Conditions: none.
-/
import Derived.Test.YtalnjplghagbpaaW24
import Derived.Test.YtalnjplghagbpaaW19
namespace Go.Proofs.Ytalnjplghagbpaa
set_option maxRecDepth 100000
open Go.RowKit
inductive Sh (α:Type) where
 | nil:Sh α
 | node (l:Sh α) (x:α) (r:Sh α):Sh α
variable {α β:Type}
def Sh.list:Sh α→List α
 | nil=>[]
 | node l x r=>l.list++x::r.list
def Sh.map (f:α→β):Sh α→Sh β
 | nil=>nil
 | node l x r=>node (l.map f) (f x) (r.map f)
theorem Sh.map_list (f:α→β):∀ T:Sh α,(T.map f).list=T.list.map f
 | nil=>rfl
 | node l x r=>by
  show (l.map f).list++f x::(r.map f).list=_
  rw[map_list f l,map_list f r]
  simp[list]
def Sh.HO (R:α→α→Prop):Sh α→Prop
 | nil=>True
 | node l x r=>(∀ y∈l.list,R x y)∧(∀ y∈r.list,R x y)∧HO R l∧HO R r
def Sh.top:Sh α→Option α
 | nil=>none
 | node _ x _=>some x
def Sh.HK (R:α→α→Prop):Sh α→Prop
 | nil=>True
 | node l x r=>(∀ y,l.top=some y→R x y)∧(∀ y,r.top=some y→R x y)∧HK R l∧HK R r
theorem Sh.top_mem {T:Sh α} {y:α} (h:T.top=some y):y∈T.list:=by
 cases T with
 | nil=>cases h
 | node l x r=>cases h;exact List.mem_append_right _ List.mem_cons_self
theorem Sh.HO.hk {R:α→α→Prop}:∀ {T:Sh α},HO R T→HK R T
 | nil,_=>trivial
 | node _ _ _,⟨h1,h2,h3,h4⟩=>⟨fun y hy=>h1 y (top_mem hy),fun y hy=>h2 y (top_mem hy),h3.hk,h4.hk⟩
theorem Sh.HO.top_all {R:α→α→Prop} {T:Sh α} (h:HO R T) {t:α} (ht:T.top=some t) {y:α} (hy:y∈T.list):y=t∨R t y:=by
 cases T with
 | nil=>cases ht
 | node l x r=>
  cases ht
  rcases List.mem_append.1 hy with h1 | h1
  ·exact Or.inr (h.1 y h1)
  ·rcases List.mem_cons.1 h1 with h1 | h1
   ·exact Or.inl h1
   ·exact Or.inr (h.2.1 y h1)
theorem Sh.top_none {T:Sh α} (h:T.top=none):T=nil:=by
 cases T with
 | nil=>rfl
 | node l x r=>cases h
theorem Sh.HK.ho {R:α→α→Prop}:∀ {T:Sh α},(∀ a∈T.list,∀ b∈T.list,∀ c∈T.list,R a b→R b c→R a c)→HK R T→HO R T
 | nil,_,_=>trivial
 | node l x r,ht,⟨h1,h2,h3,h4⟩=>by
  have ml:∀ y∈l.list,y∈(node l x r).list:=fun y hy=>List.mem_append_left _ hy
  have mr:∀ y∈r.list,y∈(node l x r).list:=fun y hy=>List.mem_append_right _ (List.mem_cons_of_mem _ hy)
  have mx:x∈(node l x r).list:=List.mem_append_right _ List.mem_cons_self
  have k3:HO R l:=HK.ho (fun a ha b hb c hc=>ht a (ml a ha) b (ml b hb) c (ml c hc)) h3
  have k4:HO R r:=HK.ho (fun a ha b hb c hc=>ht a (mr a ha) b (mr b hb) c (mr c hc)) h4
  refine⟨fun y hy=>?_,fun y hy=>?_,k3,k4⟩
  ·cases e:l.top with
   | none=>rw[top_none e] at hy;cases hy
   | some t=>
    rcases k3.top_all e hy with rfl | h
    ·exact h1 _ e
    ·exact ht x mx t (ml t (top_mem e)) y (ml y hy) (h1 t e) h
  ·cases e:r.top with
   | none=>rw[top_none e] at hy;cases hy
   | some t=>
    rcases k4.top_all e hy with rfl | h
    ·exact h2 _ e
    ·exact ht x mx t (mr t (top_mem e)) y (mr y hy) (h2 t e) h
theorem Sh.mid_uniq {x:α}:∀ {l l' r r':List α},l++x::r=l'++x::r'→x∉l→x∉l'→l=l'∧r=r'
 | [],[],r,r',h,_,_=>by simpa using h
 | [],b::l',r,r',h,_,h2=>by
  simp only[List.nil_append,List.cons_append,List.cons.injEq] at h
  exact (h2 (by rw[h.1];exact List.mem_cons_self)).elim
 | a::l,[],r,r',h,h1,_=>by
  simp only[List.nil_append,List.cons_append,List.cons.injEq] at h
  exact (h1 (by rw[← h.1];exact List.mem_cons_self)).elim
 | a::l,b::l',r,r',h,h1,h2=>by
  simp only[List.cons_append,List.cons.injEq] at h
  obtain⟨e1,e2⟩:=mid_uniq h.2 (fun k=>h1 (List.mem_cons_of_mem _ k)) (fun k=>h2 (List.mem_cons_of_mem _ k))
  rw[h.1,e1,e2]
  exact⟨rfl,rfl⟩
theorem Sh.mid_out {x:α} {l r:List α} (h:(l++x::r).Nodup):x∉l∧x∉r∧l.Nodup∧r.Nodup:=by
 obtain⟨h1,h2,h3⟩:=List.nodup_append.1 h
 obtain⟨h4,h5⟩:=List.nodup_cons.1 h2
 exact⟨fun k=>h3 x k x List.mem_cons_self rfl,h4,h1,h5⟩
theorem Sh.HO.uniq {R:α→α→Prop} (hR:∀ a b,R a b→¬ R b a):∀ {T T':Sh α},HO R T→HO R T'→T.list=T'.list→T.list.Nodup→T=T'
 | nil,nil,_,_,_,_=>rfl
 | nil,node _ _ _,_,_,h,_=>by simp[list] at h
 | node _ _ _,nil,_,_,h,_=>by simp[list] at h
 | node l x r,node l' x' r',⟨h1,h2,h3,h4⟩,⟨k1,k2,k3,k4⟩,e,n=>by
  have ex:x=x':=by
   apply Classical.byContradiction
   intro hne
   have m1:x'∈(node l x r).list:=by rw[e];exact List.mem_append_right _ List.mem_cons_self
   have m2:x∈(node l' x' r').list:=by rw[← e];exact List.mem_append_right _ List.mem_cons_self
   have a1:R x x':=by
    rcases List.mem_append.1 m1 with h | h
    ·exact h1 _ h
    ·rcases List.mem_cons.1 h with h | h
     ·exact (hne h.symm).elim
     ·exact h2 _ h
   have a2:R x' x:=by
    rcases List.mem_append.1 m2 with h | h
    ·exact k1 _ h
    ·rcases List.mem_cons.1 h with h | h
     ·exact (hne h).elim
     ·exact k2 _ h
   exact hR _ _ a1 a2
  subst ex
  have n':(node l' x r').list.Nodup:=by rw[← e];exact n
  obtain⟨o1,o2,o3,o4⟩:=mid_out n
  obtain⟨p1,p2,_,_⟩:=mid_out n'
  obtain⟨e1,e2⟩:=mid_uniq e o1 p1
  rw[HO.uniq hR h3 k3 e1 o3,HO.uniq hR h4 k4 e2 o4]
def Sh.cutL (c:Int):Sh Int→Sh Int
 | nil=>nil
 | node l x r=>if x<c then node l x (cutL c r) else cutL c l
theorem Sh.up_split {l r:List Int} {x:Int} (h:(l++x::r).Pairwise (· < ·)):l.Pairwise (· < ·)∧r.Pairwise (· < ·)∧(∀ y∈l,y<x)∧(∀ y∈r,x<y):=by
 obtain⟨h1,h2,h3⟩:=List.pairwise_append.1 h
 obtain⟨h4,h5⟩:=List.pairwise_cons.1 h2
 exact⟨h1,h5,fun y hy=>h3 y hy x List.mem_cons_self,h4⟩
theorem Sh.filt_all {p:α→Bool} {l:List α} (h:∀ y∈l,p y=true):l.filter p=l:=List.filter_eq_self.2 h
theorem Sh.filt_none {p:α→Bool} {l:List α} (h:∀ y∈l,p y=false):l.filter p=[]:=List.filter_eq_nil_iff.2 fun y hy=>by rw[h y hy];decide
theorem Sh.cutL_list (c:Int):∀ {T:Sh Int},T.list.Pairwise (· < ·)→(cutL c T).list=T.list.filter fun y=>decide (y<c)
 | nil,_=>rfl
 | node l x r,h=>by
  obtain⟨h1,h2,h3,h4⟩:=up_split h
  show (cutL c (node l x r)).list=(l.list++x::r.list).filter _
  rw[List.filter_append]
  unfold cutL
  by_cases hx:x<c
  ·rw[if_pos hx,List.filter_cons_of_pos (by simpa using hx),filt_all (l:=l.list) fun y hy=>decide_eq_true (by have:=h3 y hy;omega)]
   show l.list++x::(cutL c r).list=_
   rw[cutL_list c h2]
  ·rw[if_neg hx,List.filter_cons_of_neg (by simpa using hx),cutL_list c h1,filt_none (l:=r.list) fun y hy=>decide_eq_false (by have:=h4 y hy;omega),List.append_nil]
theorem Sh.cutL_mem {c y:Int}:∀ {T:Sh Int},y∈(cutL c T).list→y∈T.list
 | nil,h=>h
 | node l x r,h=>by
  unfold cutL at h
  split at h
  ·rcases List.mem_append.1 h with h | h
   ·exact List.mem_append_left _ h
   ·rcases List.mem_cons.1 h with h | h
    ·exact List.mem_append_right _ (List.mem_cons.2 (Or.inl h))
    ·exact List.mem_append_right _ (List.mem_cons_of_mem _ (cutL_mem h))
  ·exact List.mem_append_left _ (cutL_mem h)
theorem Sh.cutL_ho {R:Int→Int→Prop} (c:Int):∀ {T:Sh Int},HO R T→HO R (cutL c T)
 | nil,_=>trivial
 | node l x r,⟨h1,h2,h3,h4⟩=>by
  unfold cutL
  split
  ·exact⟨h1,fun y hy=>h2 y (cutL_mem hy),h3,cutL_ho c h4⟩
  ·exact cutL_ho c h3
def Sh.size:Sh α→Nat
 | nil=>0
 | node l _ r=>l.size+r.size+1
def Sh.mrg (b:α→α→Bool):Sh α→Sh α→Sh α
 | nil,T=>T
 | node l x r,nil=>node l x r
 | node l x r,node l' y r'=>if b x y=true then node l x (mrg b r (node l' y r')) else node (mrg b (node l x r) l') y r'
termination_by A B=>A.size+B.size
decreasing_by all_goals simp[size];omega
end Go.Proofs.Ytalnjplghagbpaa

namespace Go.Proofs.Ytalnjplghagbpaa
set_option maxRecDepth 100000
open Go.RowKit
structure Tr where
 r:Int
 n:List Pt
def Rep (n:List Pt):Int→Sh Nat→Prop
 | i,.nil=>i = -1
 | i,.node l k r=>i=(k:Int)∧∃ p,n[k]?=some p∧Rep n p.a l∧Rep n p.b r
theorem Rep.uniq {n:List Pt}:∀ {T T':Sh Nat} {i:Int},Rep n i T→Rep n i T'→T=T'
 | .nil,.nil,_,_,_=>rfl
 | .nil,.node _ _ _,i,h,⟨h1,_⟩=>by have h':i = -1:=h;omega
 | .node _ _ _,.nil,i,⟨h1,_⟩,h=>by have h':i = -1:=h;omega
 | .node l k r,.node l' k' r',i,⟨h1,p,hp,a1,a2⟩,⟨k1,q,hq,b1,b2⟩=>by
  have e:k=k':=by omega
  subst e
  rw[hp] at hq
  cases hq
  rw[Rep.uniq a1 b1,Rep.uniq a2 b2]
theorem Rep.lt {n:List Pt}:∀ {T:Sh Nat} {i:Int},Rep n i T→∀ k∈T.list,k<n.length
 | .nil,_,_,k,h=>by cases h
 | .node l x r,i,⟨_,p,hp,a1,a2⟩,k,h=>by
  rcases List.mem_append.1 h with h | h
  ·exact a1.lt k h
  ·rcases List.mem_cons.1 h with rfl | h
   ·exact (List.getElem?_eq_some_iff.1 hp).1
   ·exact a2.lt k h
theorem Rep.rng {n:List Pt} {T:Sh Nat} {i:Int} (h:Rep n i T) : -1≤i∧i<(n.length:Int)∧(i = -1↔T=.nil):=by
 cases T with
 | nil=>
  have h':i = -1:=h
  exact⟨by omega,by omega,fun _=>rfl,fun _=>h'⟩
 | node l k r=>
  have:=h.lt k (List.mem_append_right _ List.mem_cons_self)
  have e:i=(k:Int):=h.1
  exact⟨by omega,by omega,fun e=>by omega,fun e=>by cases e⟩
def lk (n:List Pt) (u:Nat) (v:Int):Nat:=match n[u]? with
 | some p=>(if p.a=v then 1 else 0)+(if p.b=v then 1 else 0)
 | none=>0
def qtW (n:List Pt) (v:Int):Nat:=((List.range n.length).map fun u=>lk n u v).sum
theorem qbR {n:List Pt} (v:Nat):∀ {T:Sh Nat} {i:Int},Rep n i T→T.list.count v=(if i=(v:Int) then 1 else 0)+(T.list.map fun u=>lk n u v).sum
 | .nil,i,h=>by
  have h':i = -1:=h
  rw[if_neg (by omega)];rfl
 | .node l k r,i,⟨h1,p,hp,a1,a2⟩=>by
  have e1:=qbR v a1
  have e2:=qbR v a2
  show (l.list++k::r.list).count v=_+((l.list++k::r.list).map fun u=>lk n u v).sum
  rw[List.count_append,List.count_cons,List.map_append,List.map_cons,List.sum_append,List.sum_cons,e1,e2]
  have e3:lk n k v=(if p.a=(v:Int) then 1 else 0)+(if p.b=(v:Int) then 1 else 0):=by unfold lk;rw[hp]
  rw[e3,h1]
  have e4:(if (k==v)=true then 1 else 0)=if (k:Int)=(v:Int) then 1 else 0:=by
   by_cases e:k=v
   ·rw[if_pos (by simpa using e),if_pos (by omega)]
   ·rw[if_neg (by simpa using e),if_neg (by omega)]
  rw[e4]
  omega
theorem qmL {l:List Nat} {f:Nat→Nat} (h:∀ u∈l,f u=0):(l.map f).sum=0:=by
 induction l with
 | nil=>rfl
 | cons a r ih=>rw[List.map_cons,List.sum_cons,h a List.mem_cons_self,ih fun u hu=>h u (List.mem_cons_of_mem _ hu)]
theorem qdT {f:Nat→Nat}:∀ {l:List Nat} {u:Nat},u∈l→f u≤(l.map f).sum
 | a::r,u,h=>by
  rw[List.map_cons,List.sum_cons]
  rcases List.mem_cons.1 h with rfl | h
  ·omega
  ·have:=qdT (f:=f) h;omega
theorem qi3 {f:Nat→Nat}:∀ {l:List Nat} {u w:Nat},l.Nodup→u∈l→w∈l→u≠w→f u+f w≤(l.map f).sum
 | a::r,u,w,n,hu,hw,hne=>by
  obtain⟨n1,n2⟩:=List.nodup_cons.1 n
  rw[List.map_cons,List.sum_cons]
  rcases List.mem_cons.1 hu with e1 | hu2
  ·rcases List.mem_cons.1 hw with e2 | hw2
   ·exact (hne (e1.trans e2.symm)).elim
   ·have:=qdT (l:=r) (f:=f) hw2;rw[e1];omega
  ·rcases List.mem_cons.1 hw with e2 | hw2
   ·have:=qdT (l:=r) (f:=f) hu2;rw[e2];omega
   ·have:=qi3 (f:=f) n2 hu2 hw2 hne;omega
theorem qkn {f:Nat→Nat} {u:Nat}:∀ {l:List Nat},(∀ w∈l,w≠u→f w=0)→(l.map f).sum=l.count u*f u
 | [],_=>by simp
 | a::r,h=>by
  rw[List.map_cons,List.sum_cons,qkn fun w hw=>h w (List.mem_cons_of_mem _ hw),List.count_cons]
  by_cases e:a=u
  ·subst e;simp;rw[Nat.add_mul,Nat.one_mul];omega
  ·rw[h a List.mem_cons_self e,if_neg (by simpa using e),Nat.add_zero,Nat.zero_add]
def One (x:Tr):Prop:=∀ v,v<x.n.length→qtW x.n v=if (v:Int)=x.r then 0 else 1
def Lnk (x:Tr):Prop:=∀ p∈x.n,(-1≤p.a∧p.a<(x.n.length:Int))∧(-1≤p.b∧p.b<(x.n.length:Int))
theorem qnd {n:List Pt} {u:Nat} {v:Int} {p:Pt} (hp:n[u]?=some p) (h:p.a=v∨p.b=v):1≤lk n u v:=by
 unfold lk
 rw[hp]
 rcases h with h | h
 ·simp only[if_pos h];omega
 ·simp only[if_pos h];omega
theorem One.par {x:Tr} (h:One x) {v u w:Nat} (hv:v<x.n.length) (h1:1≤lk x.n u v) (h2:1≤lk x.n w v):u=w:=by
 apply Classical.byContradiction
 intro hne
 have lt:∀ a,1≤lk x.n a v→a<x.n.length:=fun a ha=>by
  apply Classical.byContradiction
  intro hn
  unfold lk at ha
  rw[List.getElem?_eq_none (by omega)] at ha
  simp at ha
 have hs:=qi3 (f:=fun a=>lk x.n a v) List.nodup_range (List.mem_range.2 (lt u h1)) (List.mem_range.2 (lt w h2)) hne
 have hc:=h v hv
 have hc':((List.range x.n.length).map fun a=>lk x.n a v).sum=if (v:Int)=x.r then 0 else 1:=hc
 rw[hc'] at hs
 split at hs<;>omega
theorem Rep.down {n:List Pt} {P:Nat→Prop} (hd:∀ u v p,n[u]?=some p→(p.a=((v:Nat):Int)∨p.b=(v:Int))→P u→P v):∀ {T:Sh Nat} {i:Int},Rep n i T→(∀ k:Nat,i=(k:Int)→P k)→∀ k∈T.list,P k
 | .nil,_,_,_,k,h=>by cases h
 | .node l x r,i,⟨h1,p,hp,a1,a2⟩,hi,k,h=>by
  have hx:=hi x h1
  rcases List.mem_append.1 h with h | h
  ·exact Rep.down hd a1 (fun v e=>hd x v p hp (Or.inl e) hx) k h
  ·rcases List.mem_cons.1 h with rfl | h
   ·exact hx
   ·exact Rep.down hd a2 (fun v e=>hd x v p hp (Or.inr e) hx) k h
theorem Rep.nodup {x:Tr} (h1:One x) {T:Sh Nat} (hT:Rep x.n x.r T):T.list.Nodup:=by
 have key:∀ k∈T.list,T.list.count k=1:=by
  refine Rep.down (P:=fun k=>T.list.count k=1) (fun u v p hp hl hu=>?_) hT fun k e=>?_
  ·have hul:u∈T.list:=List.count_pos_iff.1 (by omega)
   have hpl:p.a=(v:Int)∨p.b=(v:Int):=hl
   have hv:v<x.n.length:=by
    have:∀ {T:Sh Nat} {i:Int},Rep x.n i T→u∈T.list→v∈T.list:=by
     intro T
     induction T with
     | nil=>intro i _ h;cases h
     | node l k r il ir=>
      intro i ⟨_,q,hq,a1,a2⟩ h
      have root:∀ {S:Sh Nat} {j:Int},Rep x.n j S→j=(v:Int)→v∈S.list:=fun {S j} hS hj=>by
       cases S with
       | nil=>have e:j = -1:=hS;omega
       | node l2 k2 r2=>
        have e:j=(k2:Int):=hS.1
        have:k2=v:=by omega
        subst this
        exact List.mem_append_right _ List.mem_cons_self
      rcases List.mem_append.1 h with h | h
      ·exact List.mem_append_left _ (il a1 h)
      ·rcases List.mem_cons.1 h with h | h
       ·subst h
        rw[hp] at hq
        cases hq
        rcases hpl with e | e
        ·exact List.mem_append_left _ (root a1 e)
        ·exact List.mem_append_right _ (List.mem_cons_of_mem _ (root a2 e))
       ·exact List.mem_append_right _ (List.mem_cons_of_mem _ (ir a2 h))
    exact hT.lt v (this hT hul)
   have hc:=h1 v hv
   have h1u:=qnd hp hpl
   have hul2:=hT.lt u hul
   have hge:lk x.n u v≤qtW x.n v:=qdT (f:=fun a=>lk x.n a v) (List.mem_range.2 hul2)
   have hroot:¬ (v:Int)=x.r:=fun e=>by rw[if_pos e] at hc;omega
   rw[if_neg hroot] at hc
   have e1:=qbR v hT
   rw[if_neg (fun e=>hroot e.symm),qkn (f:=fun a=>lk x.n a v) (u:=u) (fun w hw hne=>by
    apply Classical.byContradiction
    intro h0
    exact hne (h1.par hv (by omega) h1u)),hu] at e1
   show T.list.count v=1
   have:lk x.n u v=1:=by omega
   omega
  ·show T.list.count k=1
   have hkl:k<x.n.length:=by
    cases T with
    | nil=>have e':x.r = -1:=hT;omega
    | node l k2 r=>
     have e':x.r=(k2:Int):=hT.1
     have:k2=k:=by omega
     subst this
     exact hT.lt k2 (List.mem_append_right _ List.mem_cons_self)
   have hc:=h1 k hkl
   rw[if_pos e.symm] at hc
   rw[qbR k hT,if_pos e,qmL (f:=fun a=>lk x.n a k) fun u hu=>by
    have:=qdT (f:=fun a=>lk x.n a k) (List.mem_range.2 (hT.lt u hu))
    have hc':((List.range x.n.length).map fun a=>lk x.n a k).sum=0:=hc
    omega]
 rw[List.nodup_iff_count]
 intro a
 by_cases ha:a∈T.list
 ·rw[key a ha];exact Nat.le_refl _
 ·rw[List.count_eq_zero_of_not_mem ha];omega
end Go.Proofs.Ytalnjplghagbpaa
