/-
  Joined: Uc, Ud. Conditions: none.
-/
import Derived.Test.YtalnjplghagbpaaW25
import Derived.Test.YtalnjplghagbpaaW19
namespace Go.Proofs.Ytalnjplghagbpaa
set_option maxRecDepth 100000
open Go.RowKit
structure Tr where
 r:Int
 n:List Pt
def Rep (n:List Pt):Int→Sh Nat→Prop
 | i,.nil=>i = -1
 | i,.node l k r=>i=(k:Int)∧∃ p,n[k]?=some p∧Rep n p.a l∧Rep n p.b r
theorem Rep.uniq {n:List Pt}:∀ {T T':Sh Nat} {i:Int},Rep n i T→Rep n i T'→T=T'
 | .nil,.nil,_,_,_=>rfl
 | .nil,.node _ _ _,i,h,⟨h1,_⟩=>by have h':i = -1:=h;omega
 | .node _ _ _,.nil,i,⟨h1,_⟩,h=>by have h':i = -1:=h;omega
 | .node l k r,.node l' k' r',i,⟨h1,p,hp,a1,a2⟩,⟨k1,q,hq,b1,b2⟩=>by
  have e:k=k':=by omega
  subst e
  rw[hp] at hq
  cases hq
  rw[Rep.uniq a1 b1,Rep.uniq a2 b2]
theorem Rep.lt {n:List Pt}:∀ {T:Sh Nat} {i:Int},Rep n i T→∀ k∈T.list,k<n.length
 | .nil,_,_,k,h=>by cases h
 | .node l x r,i,⟨_,p,hp,a1,a2⟩,k,h=>by
  rcases List.mem_append.1 h with h | h
  ·exact a1.lt k h
  ·rcases List.mem_cons.1 h with rfl | h
   ·exact (List.getElem?_eq_some_iff.1 hp).1
   ·exact a2.lt k h
theorem Rep.rng {n:List Pt} {T:Sh Nat} {i:Int} (h:Rep n i T) : -1≤i∧i<(n.length:Int)∧(i = -1↔T=.nil):=by
 cases T with
 | nil=>
  have h':i = -1:=h
  exact⟨by omega,by omega,fun _=>rfl,fun _=>h'⟩
 | node l k r=>
  have:=h.lt k (List.mem_append_right _ List.mem_cons_self)
  have e:i=(k:Int):=h.1
  exact⟨by omega,by omega,fun e=>by omega,fun e=>by cases e⟩
def lk (n:List Pt) (u:Nat) (v:Int):Nat:=match n[u]? with
 | some p=>(if p.a=v then 1 else 0)+(if p.b=v then 1 else 0)
 | none=>0
def qvy (n:List Pt) (v:Int):Nat:=((List.range n.length).map fun u=>lk n u v).sum
theorem qbZ {n:List Pt} (v:Nat):∀ {T:Sh Nat} {i:Int},Rep n i T→T.list.count v=(if i=(v:Int) then 1 else 0)+(T.list.map fun u=>lk n u v).sum
 | .nil,i,h=>by
  have h':i = -1:=h
  rw[if_neg (by omega)];rfl
 | .node l k r,i,⟨h1,p,hp,a1,a2⟩=>by
  have e1:=qbZ v a1
  have e2:=qbZ v a2
  show (l.list++k::r.list).count v=_+((l.list++k::r.list).map fun u=>lk n u v).sum
  rw[List.count_append,List.count_cons,List.map_append,List.map_cons,List.sum_append,List.sum_cons,e1,e2]
  have e3:lk n k v=(if p.a=(v:Int) then 1 else 0)+(if p.b=(v:Int) then 1 else 0):=by unfold lk;rw[hp]
  rw[e3,h1]
  have e4:(if (k==v)=true then 1 else 0)=if (k:Int)=(v:Int) then 1 else 0:=by
   by_cases e:k=v
   ·rw[if_pos (by simpa using e),if_pos (by omega)]
   ·rw[if_neg (by simpa using e),if_neg (by omega)]
  rw[e4]
  omega
theorem qmg {l:List Nat} {f:Nat→Nat} (h:∀ u∈l,f u=0):(l.map f).sum=0:=by
 induction l with
 | nil=>rfl
 | cons a r ih=>rw[List.map_cons,List.sum_cons,h a List.mem_cons_self,ih fun u hu=>h u (List.mem_cons_of_mem _ hu)]
theorem qex {f:Nat→Nat}:∀ {l:List Nat} {u:Nat},u∈l→f u≤(l.map f).sum
 | a::r,u,h=>by
  rw[List.map_cons,List.sum_cons]
  rcases List.mem_cons.1 h with rfl | h
  ·omega
  ·have:=qex (f:=f) h;omega
theorem qkE {f:Nat→Nat}:∀ {l:List Nat} {u w:Nat},l.Nodup→u∈l→w∈l→u≠w→f u+f w≤(l.map f).sum
 | a::r,u,w,n,hu,hw,hne=>by
  obtain⟨n1,n2⟩:=List.nodup_cons.1 n
  rw[List.map_cons,List.sum_cons]
  rcases List.mem_cons.1 hu with e1 | hu2
  ·rcases List.mem_cons.1 hw with e2 | hw2
   ·exact (hne (e1.trans e2.symm)).elim
   ·have:=qex (l:=r) (f:=f) hw2;rw[e1];omega
  ·rcases List.mem_cons.1 hw with e2 | hw2
   ·have:=qex (l:=r) (f:=f) hu2;rw[e2];omega
   ·have:=qkE (f:=f) n2 hu2 hw2 hne;omega
theorem qjt {f:Nat→Nat} {u:Nat}:∀ {l:List Nat},(∀ w∈l,w≠u→f w=0)→(l.map f).sum=l.count u*f u
 | [],_=>by simp
 | a::r,h=>by
  rw[List.map_cons,List.sum_cons,qjt fun w hw=>h w (List.mem_cons_of_mem _ hw),List.count_cons]
  by_cases e:a=u
  ·subst e;simp;rw[Nat.add_mul,Nat.one_mul];omega
  ·rw[h a List.mem_cons_self e,if_neg (by simpa using e),Nat.add_zero,Nat.zero_add]
def One (x:Tr):Prop:=∀ v,v<x.n.length→qvy x.n v=if (v:Int)=x.r then 0 else 1
def Lnk (x:Tr):Prop:=∀ p∈x.n,(-1≤p.a∧p.a<(x.n.length:Int))∧(-1≤p.b∧p.b<(x.n.length:Int))
theorem qnL {n:List Pt} {u:Nat} {v:Int} {p:Pt} (hp:n[u]?=some p) (h:p.a=v∨p.b=v):1≤lk n u v:=by
 unfold lk
 rw[hp]
 rcases h with h | h
 ·simp only[if_pos h];omega
 ·simp only[if_pos h];omega
theorem One.par {x:Tr} (h:One x) {v u w:Nat} (hv:v<x.n.length) (h1:1≤lk x.n u v) (h2:1≤lk x.n w v):u=w:=by
 apply Classical.byContradiction
 intro hne
 have lt:∀ a,1≤lk x.n a v→a<x.n.length:=fun a ha=>by
  apply Classical.byContradiction
  intro hn
  unfold lk at ha
  rw[List.getElem?_eq_none (by omega)] at ha
  simp at ha
 have hs:=qkE (f:=fun a=>lk x.n a v) List.nodup_range (List.mem_range.2 (lt u h1)) (List.mem_range.2 (lt w h2)) hne
 have hc:=h v hv
 have hc':((List.range x.n.length).map fun a=>lk x.n a v).sum=if (v:Int)=x.r then 0 else 1:=hc
 rw[hc'] at hs
 split at hs<;>omega
theorem Rep.down {n:List Pt} {P:Nat→Prop} (hd:∀ u v p,n[u]?=some p→(p.a=((v:Nat):Int)∨p.b=(v:Int))→P u→P v):∀ {T:Sh Nat} {i:Int},Rep n i T→(∀ k:Nat,i=(k:Int)→P k)→∀ k∈T.list,P k
 | .nil,_,_,_,k,h=>by cases h
 | .node l x r,i,⟨h1,p,hp,a1,a2⟩,hi,k,h=>by
  have hx:=hi x h1
  rcases List.mem_append.1 h with h | h
  ·exact Rep.down hd a1 (fun v e=>hd x v p hp (Or.inl e) hx) k h
  ·rcases List.mem_cons.1 h with rfl | h
   ·exact hx
   ·exact Rep.down hd a2 (fun v e=>hd x v p hp (Or.inr e) hx) k h
theorem Rep.nodup {x:Tr} (h1:One x) {T:Sh Nat} (hT:Rep x.n x.r T):T.list.Nodup:=by
 have key:∀ k∈T.list,T.list.count k=1:=by
  refine Rep.down (P:=fun k=>T.list.count k=1) (fun u v p hp hl hu=>?_) hT fun k e=>?_
  ·have hul:u∈T.list:=List.count_pos_iff.1 (by omega)
   have hpl:p.a=(v:Int)∨p.b=(v:Int):=hl
   have hv:v<x.n.length:=by
    have:∀ {T:Sh Nat} {i:Int},Rep x.n i T→u∈T.list→v∈T.list:=by
     intro T
     induction T with
     | nil=>intro i _ h;cases h
     | node l k r il ir=>
      intro i ⟨_,q,hq,a1,a2⟩ h
      have root:∀ {S:Sh Nat} {j:Int},Rep x.n j S→j=(v:Int)→v∈S.list:=fun {S j} hS hj=>by
       cases S with
       | nil=>have e:j = -1:=hS;omega
       | node l2 k2 r2=>
        have e:j=(k2:Int):=hS.1
        have:k2=v:=by omega
        subst this
        exact List.mem_append_right _ List.mem_cons_self
      rcases List.mem_append.1 h with h | h
      ·exact List.mem_append_left _ (il a1 h)
      ·rcases List.mem_cons.1 h with h | h
       ·subst h
        rw[hp] at hq
        cases hq
        rcases hpl with e | e
        ·exact List.mem_append_left _ (root a1 e)
        ·exact List.mem_append_right _ (List.mem_cons_of_mem _ (root a2 e))
       ·exact List.mem_append_right _ (List.mem_cons_of_mem _ (ir a2 h))
    exact hT.lt v (this hT hul)
   have hc:=h1 v hv
   have h1u:=qnL hp hpl
   have hul2:=hT.lt u hul
   have hge:lk x.n u v≤qvy x.n v:=qex (f:=fun a=>lk x.n a v) (List.mem_range.2 hul2)
   have hroot:¬ (v:Int)=x.r:=fun e=>by rw[if_pos e] at hc;omega
   rw[if_neg hroot] at hc
   have e1:=qbZ v hT
   rw[if_neg (fun e=>hroot e.symm),qjt (f:=fun a=>lk x.n a v) (u:=u) (fun w hw hne=>by
    apply Classical.byContradiction
    intro h0
    exact hne (h1.par hv (by omega) h1u)),hu] at e1
   show T.list.count v=1
   have:lk x.n u v=1:=by omega
   omega
  ·show T.list.count k=1
   have hkl:k<x.n.length:=by
    cases T with
    | nil=>have e':x.r = -1:=hT;omega
    | node l k2 r=>
     have e':x.r=(k2:Int):=hT.1
     have:k2=k:=by omega
     subst this
     exact hT.lt k2 (List.mem_append_right _ List.mem_cons_self)
   have hc:=h1 k hkl
   rw[if_pos e.symm] at hc
   rw[qbZ k hT,if_pos e,qmg (f:=fun a=>lk x.n a k) fun u hu=>by
    have:=qex (f:=fun a=>lk x.n a k) (List.mem_range.2 (hT.lt u hu))
    have hc':((List.range x.n.length).map fun a=>lk x.n a k).sum=0:=hc
    omega]
 rw[List.nodup_iff_count]
 intro a
 by_cases ha:a∈T.list
 ·rw[key a ha];exact Nat.le_refl _
 ·rw[List.count_eq_zero_of_not_mem ha];omega
end Go.Proofs.Ytalnjplghagbpaa

namespace Go.Proofs.Ytalnjplghagbpaa
set_option maxRecDepth 100000
open Go.RowKit
def unf (n:List Pt):Nat→Int→Option (Sh Nat)
 | 0,i=>if i<0 then some .nil else none
 | f+1,i=>if i<0 then some .nil else match n[i.toNat]? with
  | none=>none
  | some p=>match unf n f p.a,unf n f p.b with
   | some l,some r=>some (.node l i.toNat r)
   | _,_=>none
section
variable {x:Tr}
theorem qg6 (hL:Lnk x):∀ {f:Nat} {i:Int} {T:Sh Nat},-1≤i→unf x.n f i=some T→Rep x.n i T
 | 0,i,T,hi,h=>by
  unfold unf at h
  split at h
  ·cases h;show i = -1;omega
  ·cases h
 | f+1,i,T,hi,h=>by
  unfold unf at h
  split at h
  ·cases h;show i = -1;omega
  ·split at h
   ·cases h
   ·rename_i p hp
    split at h
    ·rename_i l r e1 e2
     cases h
     obtain⟨⟨b1,_⟩,b2,_⟩:=hL p (List.mem_of_getElem? hp)
     exact⟨by omega,p,hp,qg6 hL b1 e1,qg6 hL b2 e2⟩
    ·cases h
def Pth (n:List Pt) (l:List Nat):Prop:=∀ (j u v:Nat),l[j]?=some u→l[j+1]?=some v→1≤lk n u v
theorem qhy (hL:Lnk x):∀ {f:Nat} {i:Int},i<(x.n.length:Int)→unf x.n f i=none→∃ l:List Nat,l.length=f+1∧l[0]?=some i.toNat∧0≤i∧Pth x.n l∧∀ v∈l,v<x.n.length
 | 0,i,hi,h=>by
  unfold unf at h
  split at h
  ·cases h
  ·refine⟨[i.toNat],rfl,rfl,by omega,fun j u v _ hv=>by simp at hv,fun v hv=>?_⟩
   rw[List.mem_singleton] at hv
   omega
 | f+1,i,hi,h=>by
  unfold unf at h
  split at h
  ·cases h
  ·rename_i h0
   have hil:i.toNat<x.n.length:=by omega
   have hp:=List.getElem?_eq_getElem hil
   have hm:=hL _ (List.getElem_mem hil)
   generalize hpe:x.n[i.toNat]=p at hp hm
   obtain⟨⟨_,b1⟩,_,b2⟩:=hm
   rw[hp] at h
   simp only at h
   have ext:∀ {c:Int},(p.a=c∨p.b=c)→c<(x.n.length:Int)→unf x.n f c=none→∃ l:List Nat,l.length=f+1+1∧l[0]?=some i.toNat∧0≤i∧Pth x.n l∧∀ v∈l,v<x.n.length:=by
    intro c hc hb hn
    obtain⟨l,l1,l2,l3,l4,l5⟩:=qhy hL hb hn
    refine⟨i.toNat::l,by rw[List.length_cons,l1],rfl,by omega,fun j u v hu hv=>?_,fun v hv=>?_⟩
    ·match j,hu,hv with
     | 0,hu,hv=>
      rw[List.getElem?_cons_zero] at hu
      rw[List.getElem?_cons_succ,l2] at hv
      cases hu
      cases hv
      refine qnL hp ?_
      rw[show ((c.toNat:Nat):Int)=c by omega]
      exact hc
     | j+1,hu,hv=>
      rw[List.getElem?_cons_succ] at hu hv
      exact l4 j u v hu hv
    ·rcases List.mem_cons.1 hv with rfl | hv
     ·exact hil
     ·exact l5 v hv
   cases e1:unf x.n f p.a with
   | none=>exact ext (Or.inl rfl) b1 e1
   | some l=>
    cases e2:unf x.n f p.b with
    | none=>exact ext (Or.inr rfl) b2 e2
    | some r=>rw[e1,e2] at h;cases h
theorem One.tree (h1:One x) (hL:Lnk x) (hr : -1≤x.r∧x.r<(x.n.length:Int)):∃ T,Rep x.n x.r T:=by
 cases e:unf x.n x.n.length x.r with
 | some T=>exact⟨T,qg6 hL hr.1 e⟩
 | none=>
  obtain⟨l,l1,l2,l3,l4,l5⟩:=qhy hL hr.2 e
  have back:∀ (a b v:Nat),a<b→l[a]?=some v→l[b]?=some v→False:=by
   intro a
   induction a with
   | zero=>
    intro b v hab ha hb
    obtain⟨b',rfl⟩:∃ b',b=b'+1:=⟨b-1,by omega⟩
    rw[l2] at ha
    have hbl:b'<l.length:=by have:=(List.getElem?_eq_some_iff.1 hb).1;omega
    have hk:=l4 b' _ v (List.getElem?_eq_getElem hbl) hb
    have hv:v<x.n.length:=l5 v (List.mem_of_getElem? hb)
    have hc:=h1 v hv
    rw[if_pos (by have:=Option.some.inj ha;omega)] at hc
    have hge:=qex (f:=fun u=>lk x.n u v) (List.mem_range.2 (l5 _ (List.getElem_mem hbl)))
    have hc':((List.range x.n.length).map fun u=>lk x.n u v).sum=0:=hc
    have:lk x.n l[b'] v≤0:=by rw[← hc'];exact hge
    omega
   | succ a ih=>
    intro b v hab ha hb
    obtain⟨b',rfl⟩:∃ b',b=b'+1:=⟨b-1,by omega⟩
    have hbl:b'<l.length:=by have:=(List.getElem?_eq_some_iff.1 hb).1;omega
    have hal:a<l.length:=by have:=(List.getElem?_eq_some_iff.1 ha).1;omega
    have k1:=l4 a _ v (List.getElem?_eq_getElem hal) ha
    have k2:=l4 b' _ v (List.getElem?_eq_getElem hbl) hb
    have e:=h1.par (l5 v (List.mem_of_getElem? hb)) k1 k2
    exact ih b' l[a] (by omega) (List.getElem?_eq_getElem hal) (by rw[e];exact List.getElem?_eq_getElem hbl)
  have hn:¬ l.Nodup:=fun hn=>by
   have:=hn.length_le_of_subset (l₂:=List.range x.n.length) fun v hv=>List.mem_range.2 (l5 v hv)
   rw[List.length_range] at this
   omega
  exact (hn (List.pairwise_iff_getElem.2 fun a b ha hb hab e=>back a b l[a] hab (List.getElem?_eq_getElem ha) (by rw[e];exact List.getElem?_eq_getElem hb))).elim
end
def idN (n:List Pt) (k:Nat):Int:=(n.getD k ⟨0,0,0⟩).id
theorem qaz {n:List Pt} {k:Nat} {p:Pt} (h:n[k]?=some p):idN n k=p.id:=by unfold idN;rw[List.getD_eq_getElem?_getD,h];rfl
structure Fits (x:Tr) (T:Sh Nat):Prop where
 rep:Rep x.n x.r T
 all:T.list.length=x.n.length
 up:(T.list.map (idN x.n)).Pairwise (· < ·)
structure VT (x:Tr):Prop where
 len:x.n.length≤64
 rng:∀ p∈x.n,0≤p.id∧p.id≤65535
 tree:∃ T,Fits x T
section
variable {x:Tr} {T:Sh Nat}
theorem Fits.nodup (h:Fits x T):T.list.Nodup:=by
 have:=h.up
 rw[List.pairwise_map] at this
 exact this.imp fun hlt e=>by rw[e] at hlt;omega
theorem Fits.mem (h:Fits x T) (k:Nat):k∈T.list↔k<x.n.length:=by
 refine⟨h.rep.lt k,fun hk=>?_⟩
 apply Classical.byContradiction
 intro hn
 have:=(List.nodup_cons.2 ⟨hn,h.nodup⟩).length_le_of_subset (l₂:=List.range x.n.length) fun v hv=>by
  rcases List.mem_cons.1 hv with rfl | hv
  ·exact List.mem_range.2 hk
  ·exact List.mem_range.2 (h.rep.lt v hv)
 rw[List.length_cons,List.length_range,h.all] at this
 omega
theorem Fits.perm (h:Fits x T):T.list.Perm (List.range x.n.length):=(List.perm_ext_iff_of_nodup h.nodup List.nodup_range).2 fun k=>(h.mem k).trans List.mem_range.symm
theorem Fits.one (h:Fits x T):One x:=fun v hv=>by
 have e:=qbZ v h.rep
 rw[h.nodup.count,if_pos ((h.mem v).2 hv),(h.perm.map fun u=>lk x.n u v).sum_nat] at e
 show ((List.range x.n.length).map fun u=>lk x.n u v).sum=_
 by_cases hr:x.r=(v:Int)
 ·rw[if_pos hr] at e;rw[if_pos hr.symm];omega
 ·rw[if_neg hr] at e;rw[if_neg fun k=>hr k.symm];omega
theorem Rep.links {n:List Pt}:∀ {T:Sh Nat} {i:Int},Rep n i T→∀ k∈T.list,∃ p,n[k]?=some p∧(-1≤p.a∧p.a<(n.length:Int))∧(-1≤p.b∧p.b<(n.length:Int))
 | .nil,_,_,k,h=>by cases h
 | .node l y r,i,⟨_,p,hp,a1,a2⟩,k,h=>by
  rcases List.mem_append.1 h with h | h
  ·exact a1.links k h
  ·rcases List.mem_cons.1 h with rfl | h
   ·exact⟨p,hp,⟨a1.rng.1,a1.rng.2.1⟩,a2.rng.1,a2.rng.2.1⟩
   ·exact a2.links k h
theorem Fits.lnk (h:Fits x T):Lnk x:=fun p hp=>by
 obtain⟨k,hk⟩:=List.getElem?_of_mem hp
 obtain⟨q,hq,h1⟩:=h.rep.links k ((h.mem k).2 (List.getElem?_eq_some_iff.1 hk).1)
 rw[hk] at hq
 cases hq
 exact h1
theorem Fits.root (h:Fits x T):(-1≤x.r∧x.r<(x.n.length:Int))∧(x.r = -1↔x.n.length=0):=by
 obtain⟨h1,h2,h3⟩:=h.rep.rng
 refine⟨⟨h1,h2⟩,h3.trans ⟨fun e=>?_,fun e=>?_⟩⟩
 ·have:=h.all
  rw[e] at this
  exact this.symm
 ·have:=h.all
  cases T with
  | nil=>rfl
  | node l y r=>rw[e] at this;simp[Sh.list] at this
theorem Fits.uniq {T':Sh Nat} (h:Fits x T) (h':Fits x T'):T=T':=h.rep.uniq h'.rep
theorem qj9 {l:List Nat} (hp:l.Pairwise (· < ·)) (hb:∀ k∈l,k<l.length):l=List.range l.length:=by
 have lo:∀ (j:Nat) (hj:j<l.length),j≤l[j]:=by
  intro j
  induction j with
  | zero=>intro _;omega
  | succ j ih=>
   intro hj
   have:=List.pairwise_iff_getElem.1 hp j (j+1) (by omega) hj (by omega)
   have:=ih (by omega)
   omega
 have hi:∀ (d j:Nat) (hj:j<l.length),j+d+1=l.length→l[j]≤j:=by
  intro d
  induction d with
  | zero=>
   intro j hj e
   have:=hb _ (List.getElem_mem hj)
   omega
  | succ d ih=>
   intro j hj e
   have h1:=List.pairwise_iff_getElem.1 hp j (j+1) hj (by omega) (by omega)
   have:=ih (j+1) (by omega) (by omega)
   omega
 refine List.ext_getElem (by rw[List.length_range]) fun j h1 h2=>?_
 rw[List.getElem_range]
 have:=lo j h1
 have:=hi (l.length-1-j) j h1 (by omega)
 omega
theorem qgr {n:List Pt} (hu:Up n):∀ {j k:Nat} {p q:Pt},j<k→n[j]?=some p→n[k]?=some q→p.id<q.id:=by
 intro j k p q hjk hp hq
 exact hu.mono hjk hp hq
theorem Fits.range (h:Fits x T) (hu:Up x.n):T.list=List.range x.n.length:=by
 have hp:=h.up
 rw[List.pairwise_map] at hp
 have inc:T.list.Pairwise (· < ·):=by
  refine List.pairwise_iff_getElem.2 fun a b ha hb hab=>?_
  have hlt:=List.pairwise_iff_getElem.1 hp a b ha hb hab
  have la:=h.rep.lt _ (List.getElem_mem ha)
  have lb:=h.rep.lt _ (List.getElem_mem hb)
  rw[qaz (List.getElem?_eq_getElem la),qaz (List.getElem?_eq_getElem lb)] at hlt
  apply Classical.byContradiction
  intro hn
  rcases Nat.lt_or_ge T.list[b] T.list[a] with h' | h'
  ·have:=qgr hu h' (List.getElem?_eq_getElem lb) (List.getElem?_eq_getElem la)
   omega
  ·have e:T.list[a]=T.list[b]:=by omega
   simp only[e] at hlt
   omega
 have:=qj9 inc fun k hk=>by rw[h.all];exact h.rep.lt k hk
 rw[h.all] at this
 exact this
theorem Rep.same {n n':List Pt}:∀ {T:Sh Nat} {i i':Int},Rep n i T→Rep n' i' T→i=i'∧∀ k∈T.list,∃ p p',n[k]?=some p∧n'[k]?=some p'∧p.a=p'.a∧p.b=p'.b
 | .nil,i,i',h,h'=>by
  have e:i = -1:=h
  have e':i' = -1:=h'
  exact⟨by omega,fun k hk=>by cases hk⟩
 | .node l y r,i,i',⟨h1,p,hp,a1,a2⟩,⟨k1,q,hq,b1,b2⟩=>by
  obtain⟨e1,g1⟩:=Rep.same a1 b1
  obtain⟨e2,g2⟩:=Rep.same a2 b2
  refine⟨by omega,fun k hk=>?_⟩
  rcases List.mem_append.1 hk with hk | hk
  ·exact g1 k hk
  ·rcases List.mem_cons.1 hk with rfl | hk
   ·exact⟨p,q,hp,hq,e1,e2⟩
   ·exact g2 k hk
def idT (n:List Pt) (T:Sh Nat):Sh Int:=T.map (idN n)
theorem Fits.ext {y:Tr} {T':Sh Nat} (h:Fits x T) (h':Fits y T') (hu:Up x.n) (hu':Up y.n) (e:idT x.n T=idT y.n T'):x.r=y.r∧x.n=y.n:=by
 have r1:=h.range hu
 have r2:=h'.range hu'
 have el:T.list.map (idN x.n)=T'.list.map (idN y.n):=by
  rw[← Sh.map_list,← Sh.map_list]
  exact congrArg Sh.list e
 have len:x.n.length=y.n.length:=by
  have:=congrArg List.length el
  rw[List.length_map,List.length_map,h.all,h'.all] at this
  exact this
 have ids:∀ k,k<x.n.length→idN x.n k=idN y.n k:=fun k hk=>by
  rw[r1,r2,← len] at el
  have e1:((List.range x.n.length).map (idN x.n))[k]?=((List.range x.n.length).map (idN y.n))[k]?:=by rw[el]
  rw[List.getElem?_map,List.getElem?_map,List.getElem?_range hk] at e1
  exact Option.some.inj e1
 have eT:T=T':=by
  have e2:T.map (idN x.n)=T'.map (idN x.n):=by
   have:∀ S:Sh Nat,(∀ k∈S.list,k<x.n.length)→S.map (idN y.n)=S.map (idN x.n):=by
    intro S
    induction S with
    | nil=>intro _;rfl
    | node l k r il ir=>
     intro hb
     show Sh.node _ _ _=Sh.node _ _ _
     rw[il fun a ha=>hb a (List.mem_append_left _ ha),ir fun a ha=>hb a (List.mem_append_right _ (List.mem_cons_of_mem _ ha)),ids k (hb k (List.mem_append_right _ List.mem_cons_self))]
   rw[← this T' fun k hk=>by rw[len];exact h'.rep.lt k hk]
   exact e
  refine Sh.map_inj e2 fun a ha b hb hab=>?_
  have la:=h.rep.lt a ha
  have lb:b<x.n.length:=by rw[len];exact h'.rep.lt b hb
  rw[qaz (List.getElem?_eq_getElem la),qaz (List.getElem?_eq_getElem lb)] at hab
  rcases Nat.lt_trichotomy a b with h0 | h0 | h0
  ·have:=qgr hu h0 (List.getElem?_eq_getElem la) (List.getElem?_eq_getElem lb);omega
  ·exact h0
  ·have:=qgr hu h0 (List.getElem?_eq_getElem lb) (List.getElem?_eq_getElem la);omega
 subst eT
 obtain⟨er,ek⟩:=Rep.same h.rep h'.rep
 refine⟨er,List.ext_getElem? fun k=>?_⟩
 rcases Nat.lt_or_ge k x.n.length with hk | hk
 ·obtain⟨p,q,hp,hq,ea,eb⟩:=ek k ((h.mem k).2 hk)
  have ei:=ids k hk
  rw[qaz hp,qaz hq] at ei
  rw[hp,hq]
  cases p
  cases q
  simp only at ea eb ei
  rw[ea,eb,ei]
 ·rw[List.getElem?_eq_none hk,List.getElem?_eq_none (by omega)]
end
end Go.Proofs.Ytalnjplghagbpaa
