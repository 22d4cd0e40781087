/-
  Joined: Ua, Ub. Conditions: none.
-/
import Derived.Test.YtalnjplghagbpaaW24
import Derived.Test.YtalnjplghagbpaaW19
namespace Go.Proofs.Ytalnjplghagbpaa
set_option maxRecDepth 100000
open Go.RowKit
inductive Sh (α:Type) where
 | nil:Sh α
 | node (l:Sh α) (x:α) (r:Sh α):Sh α
variable {α β:Type}
def Sh.list:Sh α→List α
 | nil=>[]
 | node l x r=>l.list++x::r.list
def Sh.map (f:α→β):Sh α→Sh β
 | nil=>nil
 | node l x r=>node (l.map f) (f x) (r.map f)
theorem Sh.map_list (f:α→β):∀ T:Sh α,(T.map f).list=T.list.map f
 | nil=>rfl
 | node l x r=>by
  show (l.map f).list++f x::(r.map f).list=_
  rw[map_list f l,map_list f r]
  simp[list]
theorem Sh.map_inj {f:α→β}:∀ {T T':Sh α},T.map f=T'.map f→(∀ a∈T.list,∀ b∈T'.list,f a=f b→a=b)→T=T'
 | nil,nil,_,_=>rfl
 | nil,node _ _ _,h,_=>by cases h
 | node _ _ _,nil,h,_=>by cases h
 | node l x r,node l' x' r',h,k=>by
  simp only[map,node.injEq] at h
  obtain⟨h1,h2,h3⟩:=h
  have e1:=map_inj h1 fun a ha b hb=>k a (List.mem_append_left _ ha) b (List.mem_append_left _ hb)
  have e2:=map_inj h3 fun a ha b hb=>k a (List.mem_append_right _ (List.mem_cons_of_mem _ ha)) b (List.mem_append_right _ (List.mem_cons_of_mem _ hb))
  have e3:=k x (List.mem_append_right _ List.mem_cons_self) x' (List.mem_append_right _ List.mem_cons_self) h2
  rw[e1,e2,e3]
def Sh.HO (R:α→α→Prop):Sh α→Prop
 | nil=>True
 | node l x r=>(∀ y∈l.list,R x y)∧(∀ y∈r.list,R x y)∧HO R l∧HO R r
def Sh.top:Sh α→Option α
 | nil=>none
 | node _ x _=>some x
def Sh.HK (R:α→α→Prop):Sh α→Prop
 | nil=>True
 | node l x r=>(∀ y,l.top=some y→R x y)∧(∀ y,r.top=some y→R x y)∧HK R l∧HK R r
theorem Sh.top_mem {T:Sh α} {y:α} (h:T.top=some y):y∈T.list:=by
 cases T with
 | nil=>cases h
 | node l x r=>cases h;exact List.mem_append_right _ List.mem_cons_self
theorem Sh.HO.hk {R:α→α→Prop}:∀ {T:Sh α},HO R T→HK R T
 | nil,_=>trivial
 | node _ _ _,⟨h1,h2,h3,h4⟩=>⟨fun y hy=>h1 y (top_mem hy),fun y hy=>h2 y (top_mem hy),h3.hk,h4.hk⟩
theorem Sh.HO.top_all {R:α→α→Prop} {T:Sh α} (h:HO R T) {t:α} (ht:T.top=some t) {y:α} (hy:y∈T.list):y=t∨R t y:=by
 cases T with
 | nil=>cases ht
 | node l x r=>
  cases ht
  rcases List.mem_append.1 hy with h1 | h1
  ·exact Or.inr (h.1 y h1)
  ·rcases List.mem_cons.1 h1 with h1 | h1
   ·exact Or.inl h1
   ·exact Or.inr (h.2.1 y h1)
theorem Sh.top_none {T:Sh α} (h:T.top=none):T=nil:=by
 cases T with
 | nil=>rfl
 | node l x r=>cases h
theorem Sh.HK.ho {R:α→α→Prop}:∀ {T:Sh α},(∀ a∈T.list,∀ b∈T.list,∀ c∈T.list,R a b→R b c→R a c)→HK R T→HO R T
 | nil,_,_=>trivial
 | node l x r,ht,⟨h1,h2,h3,h4⟩=>by
  have ml:∀ y∈l.list,y∈(node l x r).list:=fun y hy=>List.mem_append_left _ hy
  have mr:∀ y∈r.list,y∈(node l x r).list:=fun y hy=>List.mem_append_right _ (List.mem_cons_of_mem _ hy)
  have mx:x∈(node l x r).list:=List.mem_append_right _ List.mem_cons_self
  have k3:HO R l:=HK.ho (fun a ha b hb c hc=>ht a (ml a ha) b (ml b hb) c (ml c hc)) h3
  have k4:HO R r:=HK.ho (fun a ha b hb c hc=>ht a (mr a ha) b (mr b hb) c (mr c hc)) h4
  refine⟨fun y hy=>?_,fun y hy=>?_,k3,k4⟩
  ·cases e:l.top with
   | none=>rw[top_none e] at hy;cases hy
   | some t=>
    rcases k3.top_all e hy with rfl | h
    ·exact h1 _ e
    ·exact ht x mx t (ml t (top_mem e)) y (ml y hy) (h1 t e) h
  ·cases e:r.top with
   | none=>rw[top_none e] at hy;cases hy
   | some t=>
    rcases k4.top_all e hy with rfl | h
    ·exact h2 _ e
    ·exact ht x mx t (mr t (top_mem e)) y (mr y hy) (h2 t e) h
theorem Sh.mid_uniq {x:α}:∀ {l l' r r':List α},l++x::r=l'++x::r'→x∉l→x∉l'→l=l'∧r=r'
 | [],[],r,r',h,_,_=>by simpa using h
 | [],b::l',r,r',h,_,h2=>by
  simp only[List.nil_append,List.cons_append,List.cons.injEq] at h
  exact (h2 (by rw[h.1];exact List.mem_cons_self)).elim
 | a::l,[],r,r',h,h1,_=>by
  simp only[List.nil_append,List.cons_append,List.cons.injEq] at h
  exact (h1 (by rw[← h.1];exact List.mem_cons_self)).elim
 | a::l,b::l',r,r',h,h1,h2=>by
  simp only[List.cons_append,List.cons.injEq] at h
  obtain⟨e1,e2⟩:=mid_uniq h.2 (fun k=>h1 (List.mem_cons_of_mem _ k)) (fun k=>h2 (List.mem_cons_of_mem _ k))
  rw[h.1,e1,e2]
  exact⟨rfl,rfl⟩
theorem Sh.mid_out {x:α} {l r:List α} (h:(l++x::r).Nodup):x∉l∧x∉r∧l.Nodup∧r.Nodup:=by
 obtain⟨h1,h2,h3⟩:=List.nodup_append.1 h
 obtain⟨h4,h5⟩:=List.nodup_cons.1 h2
 exact⟨fun k=>h3 x k x List.mem_cons_self rfl,h4,h1,h5⟩
theorem Sh.HO.uniq {R:α→α→Prop} (hR:∀ a b,R a b→¬ R b a):∀ {T T':Sh α},HO R T→HO R T'→T.list=T'.list→T.list.Nodup→T=T'
 | nil,nil,_,_,_,_=>rfl
 | nil,node _ _ _,_,_,h,_=>by simp[list] at h
 | node _ _ _,nil,_,_,h,_=>by simp[list] at h
 | node l x r,node l' x' r',⟨h1,h2,h3,h4⟩,⟨k1,k2,k3,k4⟩,e,n=>by
  have ex:x=x':=by
   apply Classical.byContradiction
   intro hne
   have m1:x'∈(node l x r).list:=by rw[e];exact List.mem_append_right _ List.mem_cons_self
   have m2:x∈(node l' x' r').list:=by rw[← e];exact List.mem_append_right _ List.mem_cons_self
   have a1:R x x':=by
    rcases List.mem_append.1 m1 with h | h
    ·exact h1 _ h
    ·rcases List.mem_cons.1 h with h | h
     ·exact (hne h.symm).elim
     ·exact h2 _ h
   have a2:R x' x:=by
    rcases List.mem_append.1 m2 with h | h
    ·exact k1 _ h
    ·rcases List.mem_cons.1 h with h | h
     ·exact (hne h).elim
     ·exact k2 _ h
   exact hR _ _ a1 a2
  subst ex
  have n':(node l' x r').list.Nodup:=by rw[← e];exact n
  obtain⟨o1,o2,o3,o4⟩:=mid_out n
  obtain⟨p1,p2,_,_⟩:=mid_out n'
  obtain⟨e1,e2⟩:=mid_uniq e o1 p1
  rw[HO.uniq hR h3 k3 e1 o3,HO.uniq hR h4 k4 e2 o4]
theorem Sh.best_ex {R:α→α→Prop}:∀ {l:List α},l≠[]→l.Nodup→(∀ a∈l,∀ b∈l,a≠b→R a b∨R b a)→(∀ a∈l,∀ b∈l,∀ c∈l,R a b→R b c→R a c)→∃ m∈l,∀ y∈l,y≠m→R m y
 | [],h,_,_,_=>(h rfl).elim
 | [a],_,_,_,_=>⟨a,List.mem_cons_self,fun y hy hne=>by
  rw[List.mem_singleton] at hy;exact (hne hy).elim⟩
 | a::b::r,_,n,ht,hr=>by
  obtain⟨n1,n2⟩:=List.nodup_cons.1 n
  obtain⟨m,hm,hb⟩:=best_ex (l:=b::r) (by simp) n2 (fun x hx y hy=>ht x (List.mem_cons_of_mem _ hx) y (List.mem_cons_of_mem _ hy)) (fun x hx y hy z hz=>hr x (List.mem_cons_of_mem _ hx) y (List.mem_cons_of_mem _ hy) z (List.mem_cons_of_mem _ hz))
  have hne:a≠m:=fun e=>n1 (e▸hm)
  rcases ht a List.mem_cons_self m (List.mem_cons_of_mem _ hm) hne with h | h
  ·refine⟨a,List.mem_cons_self,fun y hy hy2=>?_⟩
   rcases List.mem_cons.1 hy with hy | hy
   ·exact (hy2 hy).elim
   ·by_cases e:y=m
    ·rw[e];exact h
    ·exact hr a List.mem_cons_self m (List.mem_cons_of_mem _ hm) y (List.mem_cons_of_mem _ hy) h (hb y hy e)
  ·refine⟨m,List.mem_cons_of_mem _ hm,fun y hy hy2=>?_⟩
   rcases List.mem_cons.1 hy with hy | hy
   ·rw[hy];exact h
   ·exact hb y hy hy2
theorem Sh.ho_ex {R:α→α→Prop}:∀ (d:Nat) (l:List α),l.length≤d→l.Nodup→(∀ a∈l,∀ b∈l,a≠b→R a b∨R b a)→(∀ a∈l,∀ b∈l,∀ c∈l,R a b→R b c→R a c)→∃ T:Sh α,HO R T∧T.list=l
 | 0,l,hd,_,_,_=>⟨nil,trivial,by
  have:l=[]:=List.length_eq_zero_iff.1 (by omega)
  rw[this];rfl⟩
 | d+1,l,hd,n,ht,hr=>by
  by_cases h0:l=[]
  ·exact⟨nil,trivial,by rw[h0];rfl⟩
  ·obtain⟨m,hm,hb⟩:=best_ex h0 n ht hr
   obtain⟨l1,l2,rfl⟩:=List.append_of_mem hm
   obtain⟨o1,o2,o3,o4⟩:=mid_out n
   have ml:∀ y∈l1,y∈l1++m::l2:=fun y hy=>List.mem_append_left _ hy
   have mr:∀ y∈l2,y∈l1++m::l2:=fun y hy=>List.mem_append_right _ (List.mem_cons_of_mem _ hy)
   have hlen:l1.length+(l2.length+1)≤d+1:=by simpa using hd
   obtain⟨T1,a1,b1⟩:=ho_ex d l1 (by omega) o3 (fun x hx y hy=>ht x (ml x hx) y (ml y hy)) (fun x hx y hy z hz=>hr x (ml x hx) y (ml y hy) z (ml z hz))
   obtain⟨T2,a2,b2⟩:=ho_ex d l2 (by omega) o4 (fun x hx y hy=>ht x (mr x hx) y (mr y hy)) (fun x hx y hy z hz=>hr x (mr x hx) y (mr y hy) z (mr z hz))
   refine⟨node T1 m T2,⟨fun y hy=>?_,fun y hy=>?_,a1,a2⟩,by show T1.list++m::T2.list=_;rw[b1,b2]⟩
   ·rw[b1] at hy;exact hb y (ml y hy) fun e=>o1 (e▸hy)
   ·rw[b2] at hy;exact hb y (mr y hy) fun e=>o2 (e▸hy)
def Sh.cutL (c:Int):Sh Int→Sh Int
 | nil=>nil
 | node l x r=>if x<c then node l x (cutL c r) else cutL c l
theorem Sh.up_split {l r:List Int} {x:Int} (h:(l++x::r).Pairwise (· < ·)):l.Pairwise (· < ·)∧r.Pairwise (· < ·)∧(∀ y∈l,y<x)∧(∀ y∈r,x<y):=by
 obtain⟨h1,h2,h3⟩:=List.pairwise_append.1 h
 obtain⟨h4,h5⟩:=List.pairwise_cons.1 h2
 exact⟨h1,h5,fun y hy=>h3 y hy x List.mem_cons_self,h4⟩
theorem Sh.filt_all {p:α→Bool} {l:List α} (h:∀ y∈l,p y=true):l.filter p=l:=List.filter_eq_self.2 h
theorem Sh.filt_none {p:α→Bool} {l:List α} (h:∀ y∈l,p y=false):l.filter p=[]:=List.filter_eq_nil_iff.2 fun y hy=>by rw[h y hy];decide
theorem Sh.cutL_list (c:Int):∀ {T:Sh Int},T.list.Pairwise (· < ·)→(cutL c T).list=T.list.filter fun y=>decide (y<c)
 | nil,_=>rfl
 | node l x r,h=>by
  obtain⟨h1,h2,h3,h4⟩:=up_split h
  show (cutL c (node l x r)).list=(l.list++x::r.list).filter _
  rw[List.filter_append]
  unfold cutL
  by_cases hx:x<c
  ·rw[if_pos hx,List.filter_cons_of_pos (by simpa using hx),filt_all (l:=l.list) fun y hy=>decide_eq_true (by have:=h3 y hy;omega)]
   show l.list++x::(cutL c r).list=_
   rw[cutL_list c h2]
  ·rw[if_neg hx,List.filter_cons_of_neg (by simpa using hx),cutL_list c h1,filt_none (l:=r.list) fun y hy=>decide_eq_false (by have:=h4 y hy;omega),List.append_nil]
theorem Sh.cutL_mem {c y:Int}:∀ {T:Sh Int},y∈(cutL c T).list→y∈T.list
 | nil,h=>h
 | node l x r,h=>by
  unfold cutL at h
  split at h
  ·rcases List.mem_append.1 h with h | h
   ·exact List.mem_append_left _ h
   ·rcases List.mem_cons.1 h with h | h
    ·exact List.mem_append_right _ (List.mem_cons.2 (Or.inl h))
    ·exact List.mem_append_right _ (List.mem_cons_of_mem _ (cutL_mem h))
  ·exact List.mem_append_left _ (cutL_mem h)
theorem Sh.cutL_ho {R:Int→Int→Prop} (c:Int):∀ {T:Sh Int},HO R T→HO R (cutL c T)
 | nil,_=>trivial
 | node l x r,⟨h1,h2,h3,h4⟩=>by
  unfold cutL
  split
  ·exact⟨h1,fun y hy=>h2 y (cutL_mem hy),h3,cutL_ho c h4⟩
  ·exact cutL_ho c h3
def Sh.size:Sh α→Nat
 | nil=>0
 | node l _ r=>l.size+r.size+1
def Sh.mrg (b:α→α→Bool):Sh α→Sh α→Sh α
 | nil,T=>T
 | node l x r,nil=>node l x r
 | node l x r,node l' y r'=>if b x y=true then node l x (mrg b r (node l' y r')) else node (mrg b (node l x r) l') y r'
termination_by A B=>A.size+B.size
decreasing_by all_goals simp[size];omega
theorem Sh.mrg_list (b:α→α→Bool):∀ A B:Sh α,(mrg b A B).list=A.list++B.list
 | nil,T=>by unfold mrg;rfl
 | node l x r,nil=>by unfold mrg;simp[list]
 | node l x r,node l' y r'=>by
  unfold mrg
  split
  ·show l.list++x::(mrg b r (node l' y r')).list=_
   rw[mrg_list b r (node l' y r')];simp[list]
  ·show (mrg b (node l x r) l').list++y::r'.list=_
   rw[mrg_list b (node l x r) l'];simp[list]
termination_by A B=>A.size+B.size
decreasing_by all_goals simp[size];omega
theorem Sh.mrg_ho {R:α→α→Prop} {b:α→α→Bool} (hb:∀ x y,b x y=true→R x y):∀ {A B:Sh α},HO R A→HO R B→(∀ x∈A.list,∀ y∈B.list,b x y=false→R y x)→(∀ x∈A.list++B.list,∀ y∈A.list++B.list,∀ z∈A.list++B.list,R x y→R y z→R x z)→HO R (mrg b A B)
 | nil,T,_,h,_,_=>by unfold mrg;exact h
 | node l x r,nil,h,_,_,_=>by unfold mrg;exact h
 | node l x r,node l' y r',⟨h1,h2,h3,h4⟩,⟨k1,k2,k3,k4⟩,ht,hr=>by
  have mx:x∈(node l x r).list:=List.mem_append_right _ List.mem_cons_self
  have my:y∈(node l' y r').list:=List.mem_append_right _ List.mem_cons_self
  have mr:∀ z∈r.list,z∈(node l x r).list:=fun z hz=>List.mem_append_right _ (List.mem_cons_of_mem _ hz)
  have ml:∀ z∈l'.list,z∈(node l' y r').list:=fun z hz=>List.mem_append_left _ hz
  unfold mrg
  split
  ·rename_i hxy
   have rxy:=hb x y hxy
   refine⟨h1,fun z hz=>?_,h3,mrg_ho hb h4 ⟨k1,k2,k3,k4⟩ (fun a ha c hc=>ht a (mr a ha) c hc) (fun a ha c hc d hd=>?_)⟩
   ·rw[mrg_list] at hz
    rcases List.mem_append.1 hz with hz | hz
    ·exact h2 z hz
    ·rcases List.mem_append.1 hz with hz' | hz'
     ·exact hr x (List.mem_append_left _ mx) y (List.mem_append_right _ my) z (List.mem_append_right _ hz) rxy (k1 z hz')
     ·rcases List.mem_cons.1 hz' with rfl | hz'
      ·exact rxy
      ·exact hr x (List.mem_append_left _ mx) y (List.mem_append_right _ my) z (List.mem_append_right _ hz) rxy (k2 z hz')
   ·have up:∀ z,z∈r.list++(node l' y r').list→z∈(node l x r).list++(node l' y r').list:=fun z hz=>by
     rcases List.mem_append.1 hz with hz | hz
     ·exact List.mem_append_left _ (mr z hz)
     ·exact List.mem_append_right _ hz
    exact hr a (up a ha) c (up c hc) d (up d hd)
  ·rename_i hxy
   have ryx:=ht x mx y my (by simpa using hxy)
   refine⟨fun z hz=>?_,k2,mrg_ho hb ⟨h1,h2,h3,h4⟩ k3 (fun a ha c hc=>ht a ha c (ml c hc)) (fun a ha c hc d hd=>?_),k4⟩
   ·rw[mrg_list] at hz
    rcases List.mem_append.1 hz with hz | hz
    ·rcases List.mem_append.1 hz with hz' | hz'
     ·exact hr y (List.mem_append_right _ my) x (List.mem_append_left _ mx) z (List.mem_append_left _ hz) ryx (h1 z hz')
     ·rcases List.mem_cons.1 hz' with rfl | hz'
      ·exact ryx
      ·exact hr y (List.mem_append_right _ my) x (List.mem_append_left _ mx) z (List.mem_append_left _ hz) ryx (h2 z hz')
    ·exact k1 z hz
   ·have up:∀ z,z∈(node l x r).list++l'.list→z∈(node l x r).list++(node l' y r').list:=fun z hz=>by
     rcases List.mem_append.1 hz with hz | hz
     ·exact List.mem_append_left _ hz
     ·exact List.mem_append_right _ (ml z hz)
    exact hr a (up a ha) c (up c hc) d (up d hd)
termination_by A B=>A.size+B.size
decreasing_by all_goals simp[size];omega
end Go.Proofs.Ytalnjplghagbpaa

namespace Go.Proofs.Ytalnjplghagbpaa
set_option maxRecDepth 100000
open Go.RowKit
def Sh.dep (c:Int):Sh Int→Nat
 | nil=>0
 | node l x r=>if c=x then 0 else if c<x then dep c l+1 else dep c r+1
def Sh.Rul (R:Int→Int→Prop) (l:List Int) (i c:Int):Prop:=∀ k∈l,(min i c≤k∧k≤max i c)→k≠i→R i k
open Classical in
theorem Sh.dep_count {R:Int→Int→Prop} (hR:∀ a b,R a b→¬ R b a) (c:Int):∀ {T:Sh Int},HO R T→T.list.Pairwise (· < ·)→c∈T.list→dep c T=(T.list.filter fun i=>decide (i≠c∧Rul R T.list i c)).length
 | nil,_,_,h=>by cases h
 | node l x r,⟨h1,h2,h3,h4⟩,hs,hc=>by
  obtain⟨s1,s2,s3,s4⟩:=up_split hs
  have mx:x∈(node l x r).list:=List.mem_append_right _ List.mem_cons_self
  have ml:∀ y∈l.list,y∈(node l x r).list:=fun y hy=>List.mem_append_left _ hy
  have mr:∀ y∈r.list,y∈(node l x r).list:=fun y hy=>List.mem_append_right _ (List.mem_cons_of_mem _ hy)
  have side:∀ y∈(node l x r).list,(y∈l.list∧y<x)∨y=x∨(y∈r.list∧x<y):=fun y hy=>by
   rcases List.mem_append.1 hy with h | h
   ·exact Or.inl ⟨h,s3 y h⟩
   ·rcases List.mem_cons.1 h with h | h
    ·exact Or.inr (Or.inl h)
    ·exact Or.inr (Or.inr ⟨h,s4 y h⟩)
  have spl:((node l x r).list.filter fun i=>decide (i≠c∧Rul R (node l x r).list i c))=(l.list.filter fun i=>decide (i≠c∧Rul R (node l x r).list i c))++((x::r.list).filter fun i=>decide (i≠c∧Rul R (node l x r).list i c)):=List.filter_append ..
  rcases Int.lt_trichotomy c x with hlt | heq | hgt
  ·have hcl:c∈l.list:=by
    rcases side c hc with h | h | h
    ·exact h.1
    ·omega
    ·omega
   have e1:(l.list.filter fun i=>decide (i≠c∧Rul R (node l x r).list i c))=l.list.filter fun i=>decide (i≠c∧Rul R l.list i c):=by
    refine List.filter_congr fun i hi=>?_
    have hix:=s3 i hi
    refine decide_eq_decide.2 (and_congr_right fun _=>⟨fun h k hk=>h k (ml k hk),fun h k hk hb hn=>?_⟩)
    rcases side k hk with h' | h' | h'
    ·exact h k h'.1 hb hn
    ·omega
    ·omega
   have e2:((x::r.list).filter fun i=>decide (i≠c∧Rul R (node l x r).list i c))=[x]:=by
    have px:decide (x≠c∧Rul R (node l x r).list x c)=true:=decide_eq_true ⟨by omega,fun k hk hb hn=>by
     rcases side k hk with h' | h' | h'
     ·exact h1 k h'.1
     ·exact (hn h').elim
     ·omega⟩
    rw[List.filter_cons_of_pos (p:=fun i=>decide (i≠c∧Rul R (node l x r).list i c)) px]
    rw[filt_none (l:=r.list) fun i hi=>decide_eq_false fun h=>hR _ _ (h2 i hi) (h.2 x mx (by have:=s4 i hi;omega) (by have:=s4 i hi;omega))]
   rw[spl,e1,e2,List.length_append]
   unfold dep
   rw[if_neg (by omega),if_pos hlt,dep_count hR c h3 s1 hcl]
   rfl
  ·unfold dep
   rw[if_pos heq,filt_none (l:=(node l x r).list) fun i hi=>decide_eq_false fun h=>by
    have hix:R i x:=h.2 x mx (by omega) (by omega)
    rcases side i hi with h' | h' | h'
    ·exact hR _ _ (h1 i h'.1) hix
    ·exact h.1 (by omega)
    ·exact hR _ _ (h2 i h'.1) hix]
   rfl
  ·have hcr:c∈r.list:=by
    rcases side c hc with h | h | h
    ·omega
    ·omega
    ·exact h.1
   have e1:(r.list.filter fun i=>decide (i≠c∧Rul R (node l x r).list i c))=r.list.filter fun i=>decide (i≠c∧Rul R r.list i c):=by
    refine List.filter_congr fun i hi=>?_
    have hix:=s4 i hi
    refine decide_eq_decide.2 (and_congr_right fun _=>⟨fun h k hk=>h k (mr k hk),fun h k hk hb hn=>?_⟩)
    rcases side k hk with h' | h' | h'
    ·omega
    ·omega
    ·exact h k h'.1 hb hn
   have px:decide (x≠c∧Rul R (node l x r).list x c)=true:=decide_eq_true ⟨by omega,fun k hk hb hn=>by
    rcases side k hk with h' | h' | h'
    ·omega
    ·exact (hn h').elim
    ·exact h2 k h'.1⟩
   rw[spl,filt_none (l:=l.list) fun i hi=>decide_eq_false fun h=>hR _ _ (h1 i hi) (h.2 x mx (by have:=s3 i hi;omega) (by have:=s3 i hi;omega)),
    List.filter_cons_of_pos (p:=fun i=>decide (i≠c∧Rul R (node l x r).list i c)) px,e1]
   unfold dep
   rw[if_neg (by omega),if_neg (by omega),dep_count hR c h4 s2 hcr]
   rfl
end Go.Proofs.Ytalnjplghagbpaa
