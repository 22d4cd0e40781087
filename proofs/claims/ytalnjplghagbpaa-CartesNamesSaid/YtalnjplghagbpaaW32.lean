/-
  Joined: Ed, Ee. Conditions: none.
-/
import Derived.Test.YtalnjplghagbpaaW31
import Derived.Test.YtalnjplghagbpaaW30
import Derived.Test.YtalnjplghagbpaaW19
import Derived.Test.YtalnjplghagbpaaW29
import Derived.Test.YtalnjplghagbpaaW28
namespace Go.Proofs.Ytalnjplghagbpaa
set_option maxRecDepth 100000
open Go.RowKit
def frM (l:List Pt):Nat→Int→List Bool→List Int→Bool×List Bool×List Int
 | 0,_,s,g=>(false,s,g)
 | f+1,z,s,g=>
  if z = -1 then (true,s,g) else
  if 0≤z∧z<(l.length:Int)∧s[z.toNat]?=some false then
   if (frM l f (ndT l z.toNat).a (s.set z.toNat true) g).1=true then
    frM l f (ndT l z.toNat).b (frM l f (ndT l z.toNat).a (s.set z.toNat true) g).2.1 ((frM l f (ndT l z.toNat).a (s.set z.toNat true) g).2.2++[z])
   else frM l f (ndT l z.toNat).a (s.set z.toNat true) g
  else (false,s,g)
theorem qhG {s:List Bool}:∀ {k:Nat},s[k]?=some false→(s.set k true).count false+1=s.count false:=by
 induction s with
 | nil=>intro k h;simp at h
 | cons b r ih=>
  intro k h
  cases k with
  | zero=>simp at h;subst h;simp
  | succ k=>
   have:=ih (k:=k) (by simpa using h)
   rw[List.set_cons_succ,List.count_cons,List.count_cons]
   omega
theorem qhH (l:List Pt):∀ (f:Nat) (z:Int) (s:List Bool) (g:List Int),(frM l f z s g).2.1.length=s.length∧(frM l f z s g).2.1.count false≤s.count false∧(frM l f z s g).2.2.length+(frM l f z s g).2.1.count false≤g.length+s.count false
 | 0,_,_,_=>⟨rfl,Nat.le_refl _,Nat.le_refl _⟩
 | f+1,z,s,g=>by
  unfold frM
  split
  ·exact⟨rfl,Nat.le_refl _,Nat.le_refl _⟩
  ·split
   ·rename_i h
    have hc:=qhG h.2.2
    obtain⟨a1,a2,a3⟩:=qhH l f (ndT l z.toNat).a (s.set z.toNat true) g
    rw[List.length_set] at a1
    split
    ·obtain⟨b1,b2,b3⟩:=qhH l f (ndT l z.toNat).b (frM l f (ndT l z.toNat).a (s.set z.toNat true) g).2.1 ((frM l f (ndT l z.toNat).a (s.set z.toNat true) g).2.2++[z])
     rw[List.length_append,List.length_singleton] at b3
     exact⟨b1.trans a1,by omega,by omega⟩
    ·exact⟨a1,by omega,by omega⟩
   ·exact⟨rfl,Nat.le_refl _,Nat.le_refl _⟩
section
variable {rt:Int} {l:List Pt}
abbrev FrO (l:List Pt) (z:Int) (s:List Bool) (n:Nat) (v:List Value) (w:Bool) (s':List Bool) (m o n':Nat) (v':List Value):Prop:=
 FnO Try.prog 83 1 4 [.pp 3 0,.pv (iV z)] [(3,0,.ls 0 l.length),(3,1,.ls 1 l.length),(3,2,.ls 2 n),(1,0,.row 4 1 l.length (zbV s)),(2,0,.row 3 1 n v),(0,0,qaa l)]
  (.pv (.bool w)) m [(3,0,.ls 0 l.length),(3,1,.ls 1 l.length),(3,2,.ls o n'),(1,0,.row 4 1 l.length (zbV s')),(o,0,.row 3 1 n' v')]
theorem qpf:∀ (f:Nat) (z:Int) (s:List Bool) (g:List Int) {n:Nat} {v:List Value},s.length=l.length→n=g.length→v=ziV g→s.count false<f→n+s.count false≤999999→
 (FrO l z s n v (frM l f z s g).1 (frM l f z s g).2.1 0 2 n v∧(frM l f z s g).2.2=g)∨FrO l z s n v (frM l f z s g).1 (frM l f z s g).2.1 1 4 (frM l f z s g).2.2.length (ziV (frM l f z s g).2.2)
 | 0,_,_,_,_,_,_,_,_,h,_=>by omega
 | f+1,z,s,g,n,v,hs,hn,hv,hf,hb=>by
  subst hn hv
  unfold frM
  split
  ·rename_i h0
   exact Or.inl ⟨qpq (h0:=beq_iff_eq.2 h0),rfl⟩
  ·rename_i h0
   have h0':(z==(-1))=false:=beq_eq_false_iff_ne.2 h0
   split
   ·rename_i h
    obtain⟨z0,z1,z2⟩:=h
    have hc:=qhG z2
    have hk:=qat (n:=l) (k:=z.toNat) (by omega)
    obtain⟨a1,a2,a3⟩:=qhH l f (ndT l z.toNat).a (s.set z.toNat true) g
    rw[List.length_set] at a1
    have ihl:=qpf f (ndT l z.toNat).a (s.set z.toNat true) g (by rw[List.length_set];exact hs) rfl rfl (by omega) (by omega)
    have hb1:=qak z2
    have c1:decide (z<0)=false:=df (by omega)
    have c2:decide (z≥(l.length:Int))=false:=df (by omega)
    generalize frM l f (ndT l z.toNat).a (s.set z.toNat true) g=r at *
    obtain⟨w1,s1,g1⟩:=r
    simp only at ihl a1 a2 a3 ⊢
    cases w1
    ·rw[if_neg (by decide)]
     rcases ihl with ⟨h1,h2⟩ | h1
     ·exact Or.inl ⟨qsD (h0:=h0') (h1:=c1) (h2:=c2) (hin:=⟨z0,z1⟩) (hs:=z2) (hb:=hb1) (hk:=hk) (hl:=h1),h2⟩
     ·exact Or.inr (qrX (h0:=h0') (h1:=c1) (h2:=c2) (hin:=⟨z0,z1⟩) (hs:=z2) (hb:=hb1) (hk:=hk) (hl:=h1))
    ·rw[if_pos rfl]
     have lr:(g1++[z]).length=g1.length+1:=by simp
     have ihr:=qpf f (ndT l z.toNat).b s1 (g1++[z]) (a1.trans hs) lr.symm (qa9 g1 z).symm (by omega) (by omega)
     obtain⟨b1,b2,b3⟩:=qhH l f (ndT l z.toNat).b s1 (g1++[z])
     generalize frM l f (ndT l z.toNat).b s1 (g1++[z])=r at *
     obtain⟨w2,s2,g2⟩:=r
     simp only at ihr b1 b2 b3 ⊢
     refine Or.inr ?_
     rcases ihl with ⟨hl1,hl2⟩ | hl1
     ·subst hl2
      rcases ihr with ⟨hr1,hr2⟩ | hr1
      ·subst hr2
       rw[lr,qa9]
       exact qrV (h0:=h0') (h1:=c1) (h2:=c2) (hin:=⟨z0,z1⟩) (hs:=z2) (hb:=hb1) (hk:=hk) (hl:=hl1) (hn:=by omega) (hr:=hr1)
      ·exact qq8 (h0:=h0') (h1:=c1) (h2:=c2) (hin:=⟨z0,z1⟩) (hs:=z2) (hb:=hb1) (hk:=hk) (hl:=hl1) (hn:=by omega) (hr:=hr1)
     ·rcases ihr with ⟨hr1,hr2⟩ | hr1
      ·subst hr2
       rw[lr,qa9]
       exact qrU (h0:=h0') (h1:=c1) (h2:=c2) (hin:=⟨z0,z1⟩) (hs:=z2) (hb:=hb1) (hk:=hk) (hl:=hl1) (hn:=by omega) (hr:=hr1)
      ·exact qsX (h0:=h0') (h1:=c1) (h2:=c2) (hin:=⟨z0,z1⟩) (hs:=z2) (hb:=hb1) (hk:=hk) (hl:=hl1) (hn:=by omega) (hr:=hr1)
   ·rename_i h
    refine Or.inl ⟨?_,rfl⟩
    by_cases z0:z<0
    ·exact qpb (h0:=h0') (h1:=dt z0)
    ·by_cases z1:z≥(l.length:Int)
     ·exact qqg (h0:=h0') (h1:=df z0) (h2:=dt z1)
     ·have z2:s[z.toNat]?=some true:=by
       have hz:z.toNat<s.length:=by omega
       rw[List.getElem?_eq_getElem hz]
       cases e:s[z.toNat] with
       | true=>rfl
       | false=>exact (h ⟨by omega,by omega,by rw[List.getElem?_eq_getElem hz,e]⟩).elim
      exact qmx (h0:=h0') (h1:=df z0) (h2:=df z1) (hin:=⟨by omega,by omega⟩) (hs:=z2)
def qcL:Sh Nat→List Bool→List Bool
 | .nil,s=>s
 | .node a k b,s=>qcL b (qcL a (s.set k true))
theorem qb3:∀ (T:Sh Nat) (s:List Bool),(qcL T s).length=s.length
 | .nil,_=>rfl
 | .node a k b,s=>by unfold qcL;rw[qb3 b,qb3 a,List.length_set]
theorem qdv (j:Nat):∀ (T:Sh Nat) (s:List Bool),j<s.length→(qcL T s)[j]?=if j∈T.list then some true else s[j]?
 | .nil,s,_=>by unfold qcL;simp[Sh.list]
 | .node a k b,s,h=>by
  unfold qcL
  rw[qdv j b _ (by rw[qb3,List.length_set];exact h),qdv j a _ (by rw[List.length_set];exact h),List.getElem?_set]
  have e:j∈(Sh.node a k b).list↔j∈a.list∨j=k∨j∈b.list:=by simp[Sh.list]
  by_cases h1:j∈b.list
  ·rw[if_pos h1,if_pos (e.2 (Or.inr (Or.inr h1)))]
  ·rw[if_neg h1]
   by_cases h2:j∈a.list
   ·rw[if_pos h2,if_pos (e.2 (Or.inl h2))]
   ·rw[if_neg h2]
    by_cases h3:k=j
    ·rw[if_pos h3,if_pos (by omega),if_pos (e.2 (Or.inr (Or.inl h3.symm)))]
    ·rw[if_neg h3,if_neg (fun h=>(e.1 h).elim h2 fun h=>h.elim (fun h=>h3 h.symm) h1)]
theorem qeW:∀ (f:Nat) (z:Int) (s:List Bool) (g:List Int),s.length=l.length→(frM l f z s g).1=true→
 ∃ T,Rep l z T∧T.list.Nodup∧(∀ k∈T.list,s[k]?=some false)∧(frM l f z s g).2.1=qcL T s∧(frM l f z s g).2.2=g++wL T
 | 0,_,_,_,_,h=>by cases h
 | f+1,z,s,g,hs,h=>by
  unfold frM at h ⊢
  split at h
  ·rename_i h0
   rw[if_pos h0]
   exact⟨.nil,h0,.nil,fun k hk=>(by cases hk),rfl,by rw[qdi,List.append_nil]⟩
  ·rename_i h0
   rw[if_neg h0]
   split at h
   ·rename_i hc
    rw[if_pos hc]
    obtain⟨z0,z1,z2⟩:=hc
    have hk:=qat (n:=l) (k:=z.toNat) (by omega)
    have hez:((z.toNat:Nat):Int)=z:=by omega
    split at h
    ·rename_i hw
     rw[if_pos hw]
     have hls:(s.set z.toNat true).length=l.length:=by rw[List.length_set];exact hs
     obtain⟨A,ra,na,ua,sa,ga⟩:=qeW f (ndT l z.toNat).a (s.set z.toNat true) g hls hw
     rw[sa,ga] at h ⊢
     obtain⟨C,rc,nc,uc,sc,gc⟩:=qeW f (ndT l z.toNat).b _ _ (by rw[qb3];exact hls) h
     have inA:∀ k∈A.list,k≠z.toNat∧s[k]?=some false:=fun k hk=>by
      have:=ua k hk
      rw[List.getElem?_set] at this
      split at this
      ·split at this<;>cases this
      ·rename_i hne;exact⟨fun e=>hne e.symm,this⟩
     have inC:∀ k∈C.list,k∉A.list∧k≠z.toNat∧s[k]?=some false:=fun k hk=>by
      have h1:=uc k hk
      have hlt:=rc.lt k hk
      rw[qdv k A _ (by omega)] at h1
      split at h1
      ·cases h1
      ·rename_i hn
       rw[List.getElem?_set] at h1
       split at h1
       ·split at h1<;>cases h1
       ·rename_i hne;exact⟨hn,fun e=>hne e.symm,h1⟩
     refine⟨.node A z.toNat C,⟨hez.symm,_,hk,ra,rc⟩,?_,fun k hk=>?_,?_,?_⟩
     ·show (A.list++z.toNat::C.list).Nodup
      refine List.nodup_append.2 ⟨na,List.nodup_cons.2 ⟨fun hm=>(inC _ hm).2.1 rfl,nc⟩,fun a ha b hb e=>?_⟩
      subst e
      rcases List.mem_cons.1 hb with hb | hb
      ·exact (inA a ha).1 hb
      ·exact (inC a hb).1 ha
     ·rcases List.mem_append.1 hk with hk | hk
      ·exact (inA k hk).2
      ·rcases List.mem_cons.1 hk with rfl | hk
       ·exact z2
       ·exact (inC k hk).2.2
     ·rw[sc];rfl
     ·rw[gc,qfb,hez];simp
    ·rename_i hw
     exact (hw h).elim
   ·cases h
theorem qnn:∀ {T:Sh Nat} {f:Nat} {z:Int} {s:List Bool} {g:List Int},Rep l z T→T.list.Nodup→s.length=l.length→(∀ k∈T.list,s[k]?=some false)→T.list.length<f→frM l f z s g=(true,qcL T s,g++wL T):=by
 intro T
 induction T with
 | nil=>
  intro f z s g hr _ _ _ hf
  have h:z = -1:=hr
  obtain⟨f',rfl⟩:∃ f',f=f'+1:=⟨f-1,by omega⟩
  unfold frM
  rw[if_pos h,qdi,List.append_nil]
  rfl
 | node a k b iha ihb=>
  intro f z s g hr hnd hs hu hf
  obtain⟨f',rfl⟩:∃ f',f=f'+1:=⟨f-1,by omega⟩
  obtain⟨rfl,p,hp,a1,a2⟩:=hr
  have hkl:=qak hp
  have hl':(Sh.node a k b).list.length=a.list.length+(b.list.length+1):=by simp[Sh.list]
  obtain⟨o1,o2,o3,o4⟩:=Sh.mid_out hnd
  have dis:∀ y∈a.list,y∉b.list:=fun y hy hr=>(List.nodup_append.1 hnd).2.2 y hy y (List.mem_cons_of_mem _ hr) rfl
  have ek:ndT l (k:Int).toNat=p:=by
   have:=qat (n:=l) (k:=k) hkl
   rw[hp] at this
   exact (Option.some.inj this).symm
  have mk:k∈(Sh.node a k b).list:=List.mem_append_right _ List.mem_cons_self
  have ua:∀ j∈a.list,(s.set k true)[j]?=some false:=fun j hj=>by
   rw[List.getElem?_set_ne (fun e=>o1 (by rw[e];exact hj))]
   exact hu j (List.mem_append_left _ hj)
  have hsl:(s.set k true).length=l.length:=by rw[List.length_set];exact hs
  have ha:=iha (f:=f') (g:=g) a1 o3 hsl ua (by omega)
  have ub:∀ j∈b.list,(qcL a (s.set k true))[j]?=some false:=fun j hj=>by
   rw[qdv j a _ (by rw[hsl];exact a2.lt j hj),if_neg (fun h=>dis j h hj),List.getElem?_set_ne (fun e=>o2 (by rw[e];exact hj))]
   exact hu j (List.mem_append_right _ (List.mem_cons_of_mem _ hj))
  have hb:=ihb (f:=f') (g:=(g++wL a)++[(k:Int)]) a2 o4 (by rw[qb3];exact hsl) ub (by omega)
  have h0:¬ (k:Int) = -1:=by omega
  have h1:0≤(k:Int)∧(k:Int)<(l.length:Int)∧s[(k:Int).toNat]?=some false:=⟨by omega,by omega,hu k mk⟩
  unfold frM
  rw[if_neg h0,if_pos h1,ek]
  have ha':frM l f' p.a (s.set (k:Int).toNat true) g=(true,qcL a (s.set k true),g++wL a):=ha
  rw[ha']
  rw[if_pos rfl]
  show frM l f' p.b (qcL a (s.set k true)) ((g++wL a)++[(k:Int)])=_
  rw[hb,qfb]
  simp[qcL]
theorem qjQ (n:Nat):(List.replicate n false).count false=n:=by simp
def Whole (x:Tr) (T:Sh Nat):Prop:=Rep x.n x.r T∧T.list.Nodup∧T.list.length=x.n.length
theorem qq2 (hl:l.length≤999999):∃ (w:Bool) (g:List Int),Fn 45 1 [trS 0 rt l] [(0,0,qaa l)] (.tu [.one (.ls 1 g.length),.one (.pv (.bool w))]) 1 [(1,0,zrI g)]∧
 ((w=true∧∃ T,Whole ⟨rt,l⟩ T∧g=wL T)∨(w=false∧∀ T,¬ Whole ⟨rt,l⟩ T)):=by
 have hf:=qpf (l:=l) (l.length+1) rt (List.replicate l.length false) [] (n:=0) (v:=[]) (by simp) rfl rfl (by rw[qjQ];omega) (by rw[qjQ];omega)
 have ht:=qeW (l:=l) (l.length+1) rt (List.replicate l.length false) [] (by simp)
 have hall:∀ T,Whole ⟨rt,l⟩ T→frM l (l.length+1) rt (List.replicate l.length false) []=(true,qcL T (List.replicate l.length false),[]++wL T):=fun T h=>
  qnn h.1 h.2.1 (by simp) (fun k hk=>by rw[List.getElem?_replicate,if_pos (h.1.lt k hk)]) (by have e:T.list.length=l.length:=h.2.2;omega)
 generalize frM l (l.length+1) rt (List.replicate l.length false) []=r at *
 obtain⟨w,s1,g⟩:=r
 simp only at hf ht
 have fin:w=true→(g.length=l.length→∃ T,Whole ⟨rt,l⟩ T∧g=wL T)∧(g.length≠l.length→∀ T,¬ Whole ⟨rt,l⟩ T):=by
  intro hw
  obtain⟨T,t1,t2,_,_,t5⟩:=ht hw
  rw[List.nil_append] at t5
  refine⟨fun e=>⟨T,⟨t1,t2,by rw[← qco,← t5];exact e⟩,t5⟩,fun e T' h'=>e ?_⟩
  have:=hall T' h'
  simp only[Prod.mk.injEq,List.nil_append] at this
  rw[this.2.2,qco]
  exact h'.2.2
 have nofin:w=false→∀ T,¬ Whole ⟨rt,l⟩ T:=fun hw T h=>by
  have:=hall T h
  simp only[Prod.mk.injEq] at this
  rw[hw] at this
  cases this.1
 cases w
 ·rcases hf with ⟨h1,h2⟩ | h1
  ·subst h2
   exact⟨false,[],qq9 (m0:=by omega) (m1:=by omega) (hf:=h1),Or.inr ⟨rfl,nofin rfl⟩⟩
  ·exact⟨false,g,qsJ (m0:=by omega) (m1:=by omega) (hf:=h1),Or.inr ⟨rfl,nofin rfl⟩⟩
 ·obtain⟨f1,f2⟩:=fin rfl
  by_cases e:g.length=l.length
  ·refine⟨true,g,?_,Or.inl ⟨rfl,f1 e⟩⟩
   rcases hf with ⟨h1,h2⟩ | h1
   ·subst h2
    exact qkj (m0:=by omega) (m1:=by omega) (hf:=h1) (he:=beq_iff_eq.2 (by rw[← e];rfl))
   ·exact qkV (m0:=by omega) (m1:=by omega) (hf:=h1) (he:=beq_iff_eq.2 (by rw[e]))
  ·refine⟨false,g,?_,Or.inr ⟨rfl,f2 e⟩⟩
   rcases hf with ⟨h1,h2⟩ | h1
   ·subst h2
    exact qh3 (m0:=by omega) (m1:=by omega) (hf:=h1) (he:=beq_eq_false_iff_ne.2 fun h=>e (by have:(0:Int)=(l.length:Int):=h;show 0=l.length;omega))
   ·exact qic (m0:=by omega) (m1:=by omega) (hf:=h1) (he:=beq_eq_false_iff_ne.2 fun h=>e (by omega))
theorem qfX (hl:l.length≤999999) {T:Sh Nat} (h:Whole ⟨rt,l⟩ T):Fn 45 1 [trS 0 rt l] [(0,0,qaa l)] (.tu [.one (.ls 1 (wL T).length),.one (.pv (.bool true))]) 1 [(1,0,zrI (wL T))]:=by
 obtain⟨w,g,h1,⟨rfl,T',h2,rfl⟩ | ⟨_,h2⟩⟩:=qq2 (rt:=rt) hl
 ·rw[show T=T' from h.1.uniq h2.1];exact h1
 ·exact (h2 T h).elim
end
end Go.Proofs.Ytalnjplghagbpaa

namespace Go.Proofs.Ytalnjplghagbpaa
set_option maxRecDepth 100000
open Go.RowKit
theorem qnJ {β:Bl}:∀ vs:List Value,S1.isl β (vs.map fun v=>.one (.pv v)) vs
 | []=>trivial
 | _::r=>⟨rfl,qnJ r⟩
theorem qkn {P:Program} {f:FuncId} {k m:Nat} {args:List SV} {pre post:List (Nat×Nat×SV)} {vs:List Value} (h:FnL P f k args pre (.pv (.tuple vs.toArray)) m post):FnL P f k args pre (.tu (vs.map fun v=>.one (.pv v))) m post:=by
 intro w β us H hd hi
 refine (h w β us H hd hi).mono fun e w' ⟨v,β',he,hle,hx,hh,hd'⟩=>⟨v,β',he,hle,⟨vs,qnJ vs,hx⟩,hh,hd'⟩
abbrev qvG (b:Nat):Nat×Nat×SV:=(b,0,.row 26 3 0 [])
section
variable {P:Program} {f:FuncId} {k:Nat} {args:List SV} {pre:List (Nat×Nat×SV)} {e:Int}
theorem qsh (h:FnL P f k args pre (.pv (.tuple #[.slice none 0 0,iV e])) 0 []):FnL P f k args pre (.tu [.one (.ls k 0),.one (.pv (iV e))]) 1 [(k,0,.row 3 1 0 [])]:=
 qfd 3 1 (qkn (vs:=[.slice none 0 0,iV e]) h) (.tu (.cons (.one .nil) (.cons (.one (.same _)) .nil)))
theorem qif (h:FnL P f k args pre (.pv (.tuple #[.agg #[iV 0,.slice none 0 0],iV e])) 0 []):FnL P f k args pre (.tu [.ag [.pv (iV 0),.ls k 0],.one (.pv (iV e))]) 1 [qvG k]:=
 qfd 26 3 (qkn (vs:=[.agg #[iV 0,.slice none 0 0],iV e]) h) (.tu (.cons (.un (vs:=[iV 0,.slice none 0 0]) (.cons (.same _) (.cons .nil .nil))) (.cons (.one (.same _)) .nil)))
end
section
variable {rt:Int} {l:List Pt}
def qmt (l:List Pt) (T:Sh Nat):Prop:=(∀ k∈T.list,0≤idN l k∧idN l k≤65535)∧(T.list.map (idN l)).Pairwise (· < ·)
theorem qvJ (hl:l.length≤999999) {T:Sh Nat} (hT:∀ k∈T.list,k<l.length) (hn:T.list.length≤l.length):Fn 63 2 [.ls 0 l.length,.ls 1 (wL T).length] [(0,0,qaa l),(1,0,zrI (wL T))] (.pv (.bool (pT (qmt l T)))) 0 []:=by
 have hg:=qco T
 let last:Nat→Int:=fun j=>if j=0 then -1 else idN l (T.list.getD (j-1) 0)
 have at2:∀ j,j<T.list.length→∃ k p,T.list[j]?=some k∧l[k]?=some p∧k<l.length∧last (j+1)=p.id:=fun j hj=>by
  have hk:=List.getElem?_eq_getElem hj
  have hkl:=hT _ (List.mem_of_getElem? hk)
  refine⟨_,_,hk,qat hkl,hkl,?_⟩
  show (if j+1=0 then _ else idN l (T.list.getD (j+1-1) 0))=_
  rw[if_neg (by omega),Nat.add_sub_cancel,List.getD_eq_getElem?_getD,hk]
  exact qaz (qat hkl)
 have step:∀ m,m≤T.list.length→(∀ j,j<m→∀ k,T.list[j]?=some k→last j<idN l k∧idN l k≤65535)→∀ {e:Exit} {tm2:TmL} {hp2:HpL},
  Rl 2 2 63 0 29 2 [(0,.ls 0 l.length),(5,.pv (iV (last m))),(9,.ls 1 (wL T).length),(10,.pv (iV ((wL T).length:Int))),(11,.pv (iV (m:Int)))] [(0,0,qaa l),(1,0,zrI (wL T))] e tm2 hp2→
  Rl 2 2 63 0 29 2 [(0,.ls 0 l.length),(5,.pv (iV (-1))),(9,.ls 1 (wL T).length),(10,.pv (iV ((wL T).length:Int))),(11,.pv (iV ((0:Nat):Int)))] [(0,0,qaa l),(1,0,zrI (wL T))] e tm2 hp2:=by
  intro m hm hgood e tm2 hp2 r
  refine RunsL.roundsZ (fun j=>[(0,.ls 0 l.length),(5,.pv (iV (last j))),(9,.ls 1 (wL T).length),(10,.pv (iV ((wL T).length:Int))),(11,.pv (iV (j:Int)))]) (fun _=>[(0,0,qaa l),(1,0,zrI (wL T))]) (N:=m) m 0 (Nat.zero_add _) (fun j _ hj r=>?_) r
  obtain⟨k,p,hk,hp,hkl,hla⟩:=at2 j (by omega)
  obtain⟨g1,g2⟩:=hgood j hj k hk
  rw[qaz hp] at g1 g2
  rw[hla] at r
  exact qlv (hlt:=dt (by omega)) (hin:=⟨by omega,by omega⟩) (hg:=qd1 hk) (hzi:=⟨by omega,by omega⟩) (hp:=hp) (h1:=df (by omega)) (h2:=df (by omega)) (hs:=qah (by omega)) r
 rcases qaT (fun j=>∀ k,T.list[j]?=some k→last j<idN l k∧idN l k≤65535) T.list.length with h | ⟨j,hj,hb,hf⟩
 ·have hup:(T.list.map (idN l)).Pairwise (· < ·):=qgJ fun j p q hp hq=>by
   have h2:=(h (j+1) (qak hq) q hq).1
   obtain⟨k,r,hk,hr,_,hla⟩:=at2 j (qak hp)
   rw[hp] at hk
   cases hk
   rw[hla,← qaz hr] at h2
   exact h2
  have hrng:∀ k∈T.list,0≤idN l k∧idN l k≤65535:=fun k hk=>by
   obtain⟨j,hj⟩:=List.getElem?_of_mem hk
   refine⟨?_,(h j (qak hj) k hj).2⟩
   have h0:∀ q,T.list[0]?=some q→0≤idN l q:=fun q hq=>by
    have:=(h 0 (qak hq) q hq).1
    have e:last 0 = -1:=if_pos rfl
    omega
   rcases Nat.eq_zero_or_pos j with e | e
   ·subst e;exact h0 k hj
   ·have hjl:=qak hj
    obtain⟨q,hq⟩:∃ q,T.list[0]?=some q:=⟨_,List.getElem?_eq_getElem (by omega)⟩
    have h1:=List.pairwise_iff_getElem.1 hup 0 j (by rw[List.length_map];omega) (by rw[List.length_map];omega) e
    rw[List.getElem_map,List.getElem_map] at h1
    have a0:=h0 q hq
    have e1:T.list[0]=q:=by rw[List.getElem?_eq_getElem (by omega)] at hq;exact Option.some.inj hq
    have e2:T.list[j]=k:=by rw[List.getElem?_eq_getElem (by omega)] at hj;exact Option.some.inj hj
    rw[e1,e2] at h1
    omega
  rw[qd8 (p:=qmt l T) ⟨hrng,hup⟩]
  exact qoM (r0:=step T.list.length (Nat.le_refl _) h (qpO (hlt:=df (by omega))))
 ·simp only[Classical.not_forall] at hb
  obtain⟨k,hk,hb⟩:=hb
  rw[qdn (p:=qmt l T) fun ⟨h1,h2⟩=>hb (by
   refine⟨?_,(h1 k (List.mem_of_getElem? hk)).2⟩
   rcases Nat.eq_zero_or_pos j with e | e
   ·subst e
    have e:last 0 = -1:=if_pos rfl
    have:=(h1 k (List.mem_of_getElem? hk)).1
    omega
   ·obtain⟨q,r,hq,hr,_,hla⟩:=at2 (j-1) (by omega)
    rw[show j-1+1=j by omega] at hla
    rw[hla,← qaz hr]
    exact qgw h2 hq (by rw[show j-1+1=j by omega];exact hk))]
  obtain⟨k',p,hk',hp,hkl,_⟩:=at2 j hj
  rw[hk] at hk'
  cases hk'
  rw[qaz hp] at hb
  refine qrm (r0:=step j (Nat.le_of_lt hj) hf ?_)
  by_cases c:p.id≤last j
  ·exact qq3 (hlt:=dt (by omega)) (hin:=⟨by omega,by omega⟩) (hg:=qd1 hk) (hzi:=⟨by omega,by omega⟩) (hp:=hp) (h1:=dt c)
  ·exact qte (hlt:=dt (by omega)) (hin:=⟨by omega,by omega⟩) (hg:=qd1 hk) (hzi:=⟨by omega,by omega⟩) (hp:=hp) (h1:=df c) (h2:=dt (by omega))
theorem qeP {T:Sh Nat} (h:Fits ⟨rt,l⟩ T):Whole ⟨rt,l⟩ T:=⟨h.rep,h.nodup,h.all⟩
theorem qkh {T:Sh Nat} (h:Whole ⟨rt,l⟩ T) {k:Nat} (hk:k<l.length):k∈T.list:=by
 apply Classical.byContradiction
 intro hn
 have h2:T.list.length=l.length:=h.2.2
 have:=(List.nodup_cons.2 ⟨hn,h.2.1⟩).length_le_of_subset (l₂:=List.range l.length) fun v hv=>by
  rcases List.mem_cons.1 hv with rfl | hv
  ·exact List.mem_range.2 hk
  ·exact List.mem_range.2 (h.1.lt v hv)
 rw[List.length_cons,List.length_range,h2] at this
 omega
theorem qlc (hl:l.length≤999999):Fn 17 1 [trS 0 rt l] [(0,0,qaa l)] (.pv (iV (chE ⟨rt,l⟩))) 0 []:=by
 by_cases hm:64<l.length
 ·rw[qdw (x:=⟨rt,l⟩) hm]
  exact qnm (hs:=qfa (h:=dt (by omega)))
 have hs:=qcM (l:=l) (h:=df (by omega))
 obtain⟨w,g,hw,⟨rfl,T,hT,rfl⟩ | ⟨rfl,hno⟩⟩:=qq2 (rt:=rt) hl
 ·have hTl:T.list.length=l.length:=hT.2.2
  have hi:=qvJ hl (fun k hk=>hT.1.lt k hk) (Nat.le_of_eq hTl)
  by_cases hu:qmt l T
  ·rw[qd8 hu] at hi
   rw[qdC (x:=⟨rt,l⟩) ⟨by show l.length≤64;omega,fun p hp=>by
    obtain⟨k,hk⟩:=List.getElem?_of_mem hp
    have:=hu.1 k (qkh hT (qak hk))
    rw[qaz hk] at this
    exact this,T,hT.1,hT.2.2,hu.2⟩]
   exact qrI (hs:=hs) (hw:=hw) (hfi:=hi)
  ·rw[qdn hu] at hi
   rw[qcm (x:=⟨rt,l⟩) hm fun ⟨_,hr,T',hT'⟩=>hu (by
    have e:=hT.1.uniq hT'.rep
    subst e
    refine⟨fun k hk=>?_,hT'.up⟩
    have hp:=qat (hT.1.lt k hk)
    have:=hr _ (List.mem_of_getElem? hp)
    rw[qaz hp]
    exact this)]
   exact qpy (hs:=hs) (hw:=hw) (hfi:=hi)
 ·rw[qcm (x:=⟨rt,l⟩) hm fun ⟨_,_,T,hT⟩=>hno T (qeP hT)]
  exact qmQ (hs:=hs) (hw:=hw)
theorem VT.of (h:chE ⟨rt,l⟩=0):∃ T,Fits ⟨rt,l⟩ T:=(qkk.1 h).tree
theorem VT.le (h:chE ⟨rt,l⟩=0):l.length≤64:=(qkk.1 h).len
theorem ne0 {e:Int} (h:e≠0):(e !=0)=true:=by simpa using h
theorem eq0 {e:Int} (h:e=0):(e !=0)=false:=by simp[h]
theorem qlZ (hl:l.length≤999999):∃ g:List Int,g.length≤1000000∧(chE ⟨rt,l⟩=0→∀ T,Fits ⟨rt,l⟩ T→g=lsI l T)∧
 Fn 10 1 [trS 0 rt l] [(0,0,qaa l)] (.tu [.one (.ls 1 g.length),.one (.pv (iV (chE ⟨rt,l⟩)))]) 1 [(1,0,.row 3 1 g.length (ziV g))]∧
 Fn 30 1 [trS 0 rt l] [(0,0,qaa l)] (.tu [.one (.ls 1 g.length),.one (.pv (iV (chE ⟨rt,l⟩)))]) 1 [(1,0,.row 3 1 g.length (ziV g))]:=by
 have cP:=qlc (rt:=rt) hl
 have cR:=qst (rt:=rt) hl
 by_cases h0:chE ⟨rt,l⟩=0
 ·obtain⟨T,hT⟩:=VT.of h0
  rw[h0] at cP cR ⊢
  have hTl:T.list.length=l.length:=hT.all
  have hg:=qco T
  have hi:=qg8 (l:=l) T
  refine⟨lsI l T,by omega,fun _ T' hT'=>by rw[show T=T' from hT.rep.uniq hT'.rep],?_,qoO (hc:=cR) (hce:=eq0 rfl) (hli:=qpA hl hT.rep (Nat.le_of_eq hTl))⟩
  have hw:=qfX hl (qeP hT)
  rw[hi]
  rw[zrI,hg] at hw
  have loop:=RunsL.roundsZ (fun j=>[(1,.pp 1 0),(5,.ls 2 T.list.length),(19,.ls 2 T.list.length),(20,.pv (iV (T.list.length:Int))),(21,.pv (iV (j:Int)))])
   (fun j=>[(1,0,.pv (iV rt)),(1,1,.ls 0 l.length),(0,0,qaa l),(2,0,.row 3 1 T.list.length (ziV ((lsI l T).take j++(wL T).drop j)))]) (N:=T.list.length) T.list.length 0 (Nat.zero_add _) (fun j _ hj r=>by
    obtain⟨k,hk⟩:∃ k,T.list[j]?=some k:=⟨_,List.getElem?_eq_getElem hj⟩
    have hkl:k<l.length:=hT.rep.lt k (List.mem_of_getElem? hk)
    have hid:(lsI l T)[j]?=some (idN l k):=by unfold lsI;rw[List.getElem?_map,hk];rfl
    have hp:=qat hkl
    have htk:((lsI l T).take j).length=j:=by rw[List.length_take,hi];omega
    have e:(lsI l T).take (j+1)++(wL T).drop (j+1)=((lsI l T).take j++(wL T).drop j).set j (ndT l k).id:=by
     rw[qbg hid,← qaz hp,List.set_append_right _ _ (by omega),htk,Nat.sub_self,List.drop_eq_getElem_cons (l:=wL T) (i:=j) (by omega),List.set_cons_zero,List.append_assoc]
     rfl
    rw[e] at r
    exact qnI (hlt:=dt (by omega)) (hin:=⟨by omega,by omega⟩) (hg:=by rw[List.getElem?_append_right (by omega),htk,Nat.sub_self,List.getElem?_drop,Nat.add_zero];exact qd1 hk) (hzi:=⟨by omega,by omega⟩) (hp:=hp) (hl:=by rw[List.length_append,htk,List.length_drop,hg];omega) (hs:=qah (by omega)) r)
   (qp8 (rt:=rt) (l:=l) (n:=T.list.length) (k:=T.list.length) (g:=(lsI l T).take T.list.length++(wL T).drop T.list.length) (hlt:=df (by omega)))
  rw[List.take_of_length_le (Nat.le_of_eq hi),List.drop_of_length_le (Nat.le_of_eq hg),List.append_nil,List.take_zero,List.drop_zero,List.nil_append] at loop
  exact qrl (hc:=cP) (hce:=eq0 rfl) (hw:=hw) (r0:=loop)
 ·exact⟨[],Nat.zero_le _,fun h=>(h0 h).elim,qsh (qse (hc:=cP) (hce:=ne0 h0)),qsh (qs0 (hc:=cR) (hce:=ne0 h0))⟩
end
end Go.Proofs.Ytalnjplghagbpaa
