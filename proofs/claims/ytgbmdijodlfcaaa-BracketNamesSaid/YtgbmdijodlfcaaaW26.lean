/-
  Joined: Na, Nb, Nc, Nd. Conditions: none.
-/
import Derived.Test.YtgbmdijodlfcaaaW24
import Derived.Test.YtgbmdijodlfcaaaW21
namespace Go.Proofs.Ytgbmdijodlfcaaa
set_option maxRecDepth 100000
open Go.RowKit
theorem qn4 {tn td:Int} {p q:Pt} (hi:p.id≠q.id) (h:ld tn td p q=false):ld tn td q p=true:=by
 unfold ld at *
 generalize p.a*td+p.b*tn=P at *
 generalize q.a*td+q.b*tn=Q at *
 rw[qcr] at h
 rw[qd4]
 omega
theorem qqH {l:List Pt} (hv:Val l) {p q:Pt} (hp:p∈l) (hq:q∈l) (e:p.id=q.id):p=q:=by
 obtain⟨i,hi,rfl⟩:=List.getElem_of_mem hp
 obtain⟨j,hj,rfl⟩:=List.getElem_of_mem hq
 rcases Nat.lt_trichotomy i j with h | h | h
 ·have:=hv.up.mono h (List.getElem?_eq_getElem hi) (List.getElem?_eq_getElem hj);omega
 ·subst h;rfl
 ·have:=hv.up.mono h (List.getElem?_eq_getElem hj) (List.getElem?_eq_getElem hi);omega
structure Br where
 p:List Int
 w:List Int
def Br.nd (b:Br) (i:Nat):Int:=if i<b.w.length then b.w.getD i 0 else b.p.getD (i-b.w.length) 0
structure VB (b:Br):Prop where
 n1:1≤b.p.length
 n2:b.p.length≤64
 w:b.w.length+1=b.p.length
 rng:∀ x∈b.p,-1≤x∧x≤65535
 one:∀ (i k:Nat) (x:Int),b.p[i]?=some x→b.p[k]?=some x→0≤x→i=k
 kid:∀ i,i<b.w.length→(b.nd i=b.nd (2*i+1)∨b.nd i=b.nd (2*i+2))∧(b.nd i = -1→b.nd (2*i+1) = -1∧b.nd (2*i+2) = -1)
def idP (s:List Pt) (i:Int):Pt:=(s.find? fun q=>q.id==i).getD ⟨0,0,0⟩
theorem qhe {s:List Pt} (hs:Val s) {q:Pt} (hq:q∈s):idP s q.id=q:=by
 unfold idP
 cases h:s.find? fun r=>r.id==q.id with
 | none=>
  have:=List.find?_eq_none.1 h q hq
  simp at this
 | some r=>
  have h1:=List.mem_of_find?_eq_some h
  have h2:=List.find?_some h
  exact qqH hs h1 hq (by simpa using h2)
def KnB (s:List Pt) (p:List Int):Prop:=∀ x∈p,x≠-1→∃ q∈s,q.id=x
def won (s:List Pt) (tn td:Int) (x y:Int):Int:=if x<0 then y else if y<0∨ld tn td (idP s x) (idP s y)=true then x else y
def RtB (s:List Pt) (tn td:Int) (b:Br):Prop:=∀ i,i<b.w.length→b.nd i=won s tn td (b.nd (2*i+1)) (b.nd (2*i+2))
section
variable {s:List Pt} {tn td:Int} {b:Br}
def Ge9 (s:List Pt) (tn td:Int) (x y:Int):Prop:=x=y∨y<0∨0≤x∧ld tn td (idP s x) (idP s y)=true
theorem qlf {x y z:Int} (h:Ge9 s tn td x y) (k:Ge9 s tn td y z):Ge9 s tn td x z:=by
 rcases h with rfl | h | ⟨h0,h⟩
 ·exact k
 ·rcases k with rfl | k | ⟨k0,_⟩
  ·exact Or.inr (Or.inl h)
  ·exact Or.inr (Or.inl k)
  ·omega
 ·rcases k with rfl | k | ⟨_,k⟩
  ·exact Or.inr (Or.inr ⟨h0,h⟩)
  ·exact Or.inr (Or.inl k)
  ·exact Or.inr (Or.inr ⟨h0,qhm h k⟩)
theorem qiq (x y:Int):won s tn td x y=x∨won s tn td x y=y:=by
 unfold won
 split
 ·exact Or.inr rfl
 ·split
  ·exact Or.inl rfl
  ·exact Or.inr rfl
theorem qnB {x y:Int} (h:won s tn td x y<0):x<0∧y<0:=by
 unfold won at h
 split at h
 ·rename_i h1;exact⟨h1,h⟩
 ·rename_i h1
  split at h
  ·omega
  ·rename_i h2;exact (h2 (Or.inl h)).elim
theorem qqk {x y:Int} (hs:Val s) (hx:0≤x→∃ q∈s,q.id=x) (hy:0≤y→∃ q∈s,q.id=y):Ge9 s tn td (won s tn td x y) x:=by
 unfold won
 split
 ·rename_i h;exact Or.inr (Or.inl h)
 ·rename_i h
  split
  ·exact Or.inl rfl
  ·rename_i k
   have y0:0≤y:=by
    have:¬ y<0:=fun h=>k (Or.inl h)
    omega
   by_cases e:y=x
   ·exact Or.inl e
   ·obtain⟨p,hp,ep⟩:=hx (by omega)
    obtain⟨q,hq,eq⟩:=hy y0
    refine Or.inr (Or.inr ⟨y0,?_⟩)
    have e1:idP s x=p:=by rw[← ep];exact qhe hs hp
    have e2:idP s y=q:=by rw[← eq];exact qhe hs hq
    have k2:ld tn td p q=false:=by
     have:¬ ld tn td (idP s x) (idP s y)=true:=fun h=>k (Or.inr h)
     rw[e1,e2] at this
     exact Bool.eq_false_iff.2 this
    rw[e1,e2]
    exact qn4 (by omega) k2
theorem qqy (x y:Int):Ge9 s tn td (won s tn td x y) y:=by
 unfold won
 split
 ·exact Or.inl rfl
 ·rename_i h
  split
  ·rename_i k
   rcases k with k | k
   ·exact Or.inr (Or.inl k)
   ·exact Or.inr (Or.inr ⟨by omega,k⟩)
  ·exact Or.inl rfl
theorem qaN {i:Nat} (h:b.w.length≤i):b.nd i=b.p.getD (i-b.w.length) 0:=if_neg (by omega)
theorem qc5 {i:Nat} (h:i<b.w.length):b.nd i=b.w.getD i 0:=if_pos h
theorem getD_some {l:List Int} {i:Nat} (h:i<l.length):l[i]?=some (l.getD i 0):=by
 rw[List.getD_eq_getElem?_getD,List.getElem?_eq_getElem h];rfl
theorem qfd (hw:b.w.length+1=b.p.length) (hk:∀ i,i<b.w.length→b.nd i=b.nd (2*i+1)∨b.nd i=b.nd (2*i+2)):∀ (d i:Nat),i+d=2*b.w.length→b.nd i∈b.p:=by
 intro d
 induction d using Nat.strongRecOn with
 | ind d ih=>
  intro i hi
  by_cases h:i<b.w.length
  ·rcases hk i h with e | e
   ·rw[e];exact ih (d-(i+1)) (by omega) (2*i+1) (by omega)
   ·rw[e];exact ih (d-(i+2)) (by omega) (2*i+2) (by omega)
  ·rw[qaN (by omega)]
   exact List.mem_of_getElem? (getD_some (by omega))
theorem RtB.kid (h:RtB s tn td b):∀ i,i<b.w.length→b.nd i=b.nd (2*i+1)∨b.nd i=b.nd (2*i+2):=fun i hi=>by
 rw[h i hi]
 exact qiq _ _
theorem RtB.mem (h:RtB s tn td b) (hw:b.w.length+1=b.p.length) {i:Nat} (hi:i≤2*b.w.length):b.nd i∈b.p:=qfd hw h.kid (2*b.w.length-i) i (by omega)
theorem RtB.top (h:RtB s tn td b) (hs:Val s) (hw:b.w.length+1=b.p.length) (hk:KnB s b.p):∀ i,i≤2*b.w.length→Ge9 s tn td (b.nd 0) (b.nd i):=by
 intro i
 induction i using Nat.strongRecOn with
 | ind i ih=>
  intro hi
  match i,ih,hi with
  | 0,_,_=>exact Or.inl rfl
  | j+1,ih,hi=>
   have hp:j/2<b.w.length:=by omega
   have kn:∀ k,k≤2*b.w.length→0≤b.nd k→∃ q∈s,q.id=b.nd k:=fun k hk' h0=>hk _ (h.mem hw hk') (by omega)
   refine qlf (ih (j/2) (by omega) (by omega)) ?_
   rw[h (j/2) hp]
   have e:j+1=2*(j/2)+1∨j+1=2*(j/2)+2:=by omega
   rcases e with e | e
   ·rw[e]
    exact qqk hs (kn _ (by omega)) (kn _ (by omega))
   ·rw[e]
    exact qqy _ _
theorem RtB.all (h:RtB s tn td b) (hs:Val s) (hw:b.w.length+1=b.p.length) (hk:KnB s b.p) {x:Int} (hx:x∈b.p):Ge9 s tn td (b.nd 0) x:=by
 obtain⟨k,hk'⟩:=List.getElem?_of_mem hx
 have hl:=qaC hk'
 have:=h.top hs hw hk (b.w.length+k) (by omega)
 rw[qaN (i:=b.w.length+k) (by omega),show b.w.length+k-b.w.length=k by omega,List.getD_eq_getElem?_getD,hk'] at this
 exact this
theorem qjl {b':Br} (h:RtB s tn td b) (h':RtB s tn td b') (hp:b.p=b'.p) (hw:b.w.length=b'.w.length):b=b':=by
 have key:∀ (d i:Nat),i+d=2*b.w.length→b.nd i=b'.nd i:=by
  intro d
  induction d using Nat.strongRecOn with
  | ind d ih=>
   intro i hi
   by_cases hl:i<b.w.length
   ·rw[h i hl,h' i (by omega),ih (d-(i+1)) (by omega) (2*i+1) (by omega),ih (d-(i+2)) (by omega) (2*i+2) (by omega)]
   ·rw[qaN (by omega),qaN (by omega),hp,hw]
 have e:b.w=b'.w:=by
  refine List.ext_getElem hw fun i h1 h2=>?_
  have:=key (2*b.w.length-i) i (by omega)
  rw[qc5 h1,qc5 h2,List.getD_eq_getElem?_getD,List.getD_eq_getElem?_getD,List.getElem?_eq_getElem h1,List.getElem?_eq_getElem h2] at this
  exact this
 cases b
 cases b'
 simp only at hp e
 rw[hp,e]
def nvF (s:List Pt) (tn td:Int) (p:List Int):Nat→Nat→Int
 | 0,_=>0
 | f+1,i=>if i+1<p.length then won s tn td (nvF s tn td p f (2*i+1)) (nvF s tn td p f (2*i+2)) else p.getD (i+1-p.length) 0
theorem qeK {p:List Int}:∀ (f i:Nat),p.length≤i+f→0<f→nvF s tn td p (f+1) i=nvF s tn td p f i
 | 0,_,_,h=>by omega
 | f+1,i,h,_=>by
  unfold nvF
  by_cases hi:i+1<p.length
  ·rw[if_pos hi,if_pos hi,qeK f (2*i+1) (by omega) (by omega),qeK f (2*i+2) (by omega) (by omega)]
  ·rw[if_neg hi,if_neg hi]
def bld (s:List Pt) (tn td:Int) (p:List Int):Br:=⟨p,(List.range (p.length-1)).map (nvF s tn td p p.length)⟩
theorem qcP (p:List Int):(bld s tn td p).w.length=p.length-1:=by simp[bld]
theorem qiE {p:List Int} (hp:1≤p.length) (i:Nat) (_:i≤2*(p.length-1)):(bld s tn td p).nd i=nvF s tn td p p.length i:=by
 have hl:=qcP (s:=s) (tn:=tn) (td:=td) p
 by_cases h:i<p.length-1
 ·rw[qc5 (by omega),List.getD_eq_getElem?_getD]
  simp[bld,h]
 ·rw[qaN (by omega),hl]
  obtain⟨f,hf⟩:∃ f,p.length=f+1:=⟨p.length-1,by omega⟩
  conv=>rhs;rw[hf]
  unfold nvF
  rw[if_neg (by omega)]
  show p.getD _ 0=_
  rw[show i-(p.length-1)=i+1-p.length by omega]
theorem qcG {p:List Int} (hp:1≤p.length):RtB s tn td (bld s tn td p):=by
 intro i hi
 rw[qcP] at hi
 rw[qiE hp i (by omega),qiE hp (2*i+1) (by omega),qiE hp (2*i+2) (by omega)]
 obtain⟨f,hf⟩:∃ f,p.length=f+1:=⟨p.length-1,by omega⟩
 rw[hf,qeK f (2*i+1) (by omega) (by omega),qeK f (2*i+2) (by omega) (by omega)]
 conv=>lhs;unfold nvF
 rw[if_pos (by omega)]
def wyF:Nat→Nat→List Nat
 | 0,_=>[]
 | _+1,0=>[]
 | f+1,i+1=>(i/2)::wyF f (i/2)
def wy (i:Nat):List Nat:=wyF 6 i
theorem qju:∀ (f i:Nat),(wyF f i).length≤f
 | 0,_=>Nat.le_refl _
 | _+1,0=>Nat.zero_le _
 | f+1,i+1=>by
  show (wyF f (i/2)).length+1≤f+1
  have:=qju f (i/2)
  omega
theorem qjA (i:Nat):(wy i).length≤6:=qju 6 i
theorem qgb:wy 0=[]:=rfl
theorem qg0:∀ (f i:Nat),i+1<2 ^ (f+1)→wyF (f+1) i=wyF f i
 | 0,0,_=>rfl
 | 0,i+1,h=>by have:i+1+1<2:=h;omega
 | f+1,0,_=>rfl
 | f+1,i+1,h=>by
  have:=qg0 f (i/2) (by rw[Nat.pow_succ] at h;omega)
  show (i/2)::wyF (f+1) (i/2)=(i/2)::wyF f (i/2)
  rw[this]
theorem qbs {i:Nat} (h:i<126):wy (i+1)=(i/2)::wy (i/2):=by
 show (i/2)::wyF 5 (i/2)=(i/2)::wyF 6 (i/2)
 rw[qg0 5 (i/2) (by omega)]
def rp (s:List Pt) (tn td:Int):List Nat→Br→Br
 | [],b=>b
 | k::r,b=>rp s tn td r ⟨b.p,b.w.set k (won s tn td (b.nd (2*k+1)) (b.nd (2*k+2)))⟩
theorem qjR:∀ (l:List Nat) (b:Br),(rp s tn td l b).w.length=b.w.length∧(rp s tn td l b).p=b.p
 | [],_=>⟨rfl,rfl⟩
 | k::r,b=>by
  obtain⟨h1,h2⟩:=qjR r ⟨b.p,b.w.set k (won s tn td (b.nd (2*k+1)) (b.nd (2*k+2)))⟩
  exact⟨h1.trans List.length_set,h2⟩
theorem qls {k i:Nat} {x:Int} (hk:k<b.w.length):(⟨b.p,b.w.set k x⟩:Br).nd i=if i=k then x else b.nd i:=by
 have hl:(b.w.set k x).length=b.w.length:=List.length_set
 by_cases h:i<b.w.length
 ·rw[qc5 (b:=⟨b.p,b.w.set k x⟩) (by show i<(b.w.set k x).length;omega),qc5 h,List.getD_eq_getElem?_getD,List.getElem?_set]
  by_cases e:k=i
  ·rw[if_pos e,if_pos (by omega),if_pos e.symm];rfl
  ·rw[if_neg e,if_neg (fun h=>e h.symm),List.getD_eq_getElem?_getD]
 ·rw[qaN (b:=⟨b.p,b.w.set k x⟩) (by show (b.w.set k x).length≤i;omega),qaN (by omega),if_neg (by omega)]
  show b.p.getD (i-(b.w.set k x).length) 0=_
  rw[hl]
theorem qjQ {j i:Nat} {x:Int} (hj:j<b.p.length):(⟨b.p.set j x,b.w⟩:Br).nd i=if i=b.w.length+j then x else b.nd i:=by
 by_cases h:i<b.w.length
 ·rw[qc5 (b:=⟨b.p.set j x,b.w⟩) h,qc5 h,if_neg (by omega)]
 ·rw[qaN (b:=⟨b.p.set j x,b.w⟩) (by show b.w.length≤i;omega),qaN (by omega)]
  show (b.p.set j x).getD (i-b.w.length) 0=_
  rw[List.getD_eq_getElem?_getD,List.getElem?_set]
  by_cases e:i=b.w.length+j
  ·rw[if_pos (by omega),if_pos (by omega),if_pos e];rfl
  ·rw[if_neg (by omega),if_neg e,List.getD_eq_getElem?_getD]
end
end Go.Proofs.Ytgbmdijodlfcaaa

namespace Go.Proofs.Ytgbmdijodlfcaaa
set_option maxRecDepth 100000
open Go.RowKit
def OneB (p:List Int):Prop:=∀ (i k:Nat) (x:Int),p[i]?=some x→p[k]?=some x→0≤x→i=k
section
variable {s:List Pt} {tn td:Int} {b:Br}
theorem qlN {p:List Int} (hs:Val s) (hk:KnB s p):∀ x∈p,-1≤x∧x≤65535:=fun x hx=>by
 by_cases h:x = -1
 ·omega
 ·obtain⟨q,hq,rfl⟩:=hk x hx h
  have:=hs.ok q hq
  have h2:=qbZ.1 this
  omega
def qqa (x l r:Int):Prop:=(x=l∨x=r)∧(x<0→l<0∧r<0)
theorem qm5 (x y:Int):qqa (won s tn td x y) x y:=⟨qiq x y,qnB⟩
theorem qqq (n1:1≤b.p.length) (n2:b.p.length≤64) (hw:b.w.length+1=b.p.length) (hr:∀ x∈b.p,-1≤x∧x≤65535) (h1:OneB b.p) (hk:∀ i,i<b.w.length→qqa (b.nd i) (b.nd (2*i+1)) (b.nd (2*i+2))):VB b where
 n1:=n1
 n2:=n2
 w:=hw
 rng:=hr
 one:=h1
 kid:=fun i hi=>⟨(hk i hi).1,fun e=>by
  obtain⟨k1,k2⟩:=(hk i hi).2 (by omega)
  have m1:=(hr _ (qfd hw (fun i hi=>(hk i hi).1) (2*b.w.length-(2*i+1)) (2*i+1) (by omega))).1
  have m2:=(hr _ (qfd hw (fun i hi=>(hk i hi).1) (2*b.w.length-(2*i+2)) (2*i+2) (by omega))).1
  omega⟩
theorem VB.kids (h:VB b):∀ i,i<b.w.length→qqa (b.nd i) (b.nd (2*i+1)) (b.nd (2*i+2)):=fun i hi=>⟨(h.kid i hi).1,fun e=>by
 have:=(h.rng _ (qfd h.w (fun i hi=>(h.kid i hi).1) (2*b.w.length-i) i (by omega))).1
 have:=(h.kid i hi).2 (by omega)
 omega⟩
theorem qi0 {p:List Int} (hs:Val s) (n1:1≤p.length) (n2:p.length≤64) (hk:KnB s p) (h1:OneB p):VB (bld s tn td p):=
 qqq n1 n2 (by rw[qcP];show p.length-1+1=p.length;omega) (qlN hs hk) h1 fun i hi=>by
  rw[qcG n1 i hi]
  exact qm5 _ _
def PartB (q p:List Int):Prop:=q.length=p.length∧∀ (k:Nat) (x:Int),q[k]?=some x→x = -1∨p[k]?=some x
theorem PartB.one {q p:List Int} (h:PartB q p) (h1:OneB p):OneB q:=fun i k x hi hk h0=>by
 rcases h.2 i x hi with e | e
 ·omega
 ·rcases h.2 k x hk with e2 | e2
  ·omega
  ·exact h1 i k x e e2 h0
theorem PartB.set {q p:List Int} (h:PartB q p) {k:Nat} {x:Int} (hk:p[k]?=some x):PartB (q.set k x) p:=⟨by rw[List.length_set];exact h.1,fun j y hj=>by
 rw[List.getElem?_set] at hj
 split at hj
 ·rename_i e
  split at hj
  ·cases hj;exact Or.inr (e▸hk)
  ·cases hj
 ·exact h.2 j y hj⟩
end
end Go.Proofs.Ytgbmdijodlfcaaa

namespace Go.Proofs.Ytgbmdijodlfcaaa
set_option maxRecDepth 100000
open Go.RowKit
def qpF (s:List Pt) (p:List Int):List Pt:=s.filter fun q=>decide (q.id∈p)
theorem qlh {s:List Pt} {p:List Int} {q:Pt}:q∈qpF s p↔q∈s∧q.id∈p:=by
 unfold qpF
 rw[List.mem_filter,decide_eq_true_iff]
section
variable {s t:List Pt} {tn td:Int} {b:Br}
theorem RtB.none (h:RtB s tn td b) (hw:b.w.length+1=b.p.length) (hk:KnB s b.p) (he:qpF s b.p=[]):b.nd 0 = -1:=by
 have hr:=h.mem hw (i:=0) (by omega)
 by_cases e:b.nd 0 = -1
 ·exact e
 ·obtain⟨q,hq,eq⟩:=hk _ hr e
  have:q∈qpF s b.p:=qlh.2 ⟨hq,by rw[eq];exact hr⟩
  rw[he] at this
  cases this
end
end Go.Proofs.Ytgbmdijodlfcaaa

namespace Go.Proofs.Ytgbmdijodlfcaaa
set_option maxRecDepth 100000
open Go.RowKit
open Classical in
noncomputable def erB (b:Br):Int:=if VB b then 0 else 8
open Classical in
noncomputable def buE (s:List Pt) (tn td:Int) (p:List Int):Int:=if tE s tn td=0 then (if 1≤p.length∧p.length≤64 then (if KnB s p then (if OneB p then 0 else 14) else 6) else 2) else tE s tn td
open Classical in
noncomputable def wiE (b:Br):Int:=if VB b then (if b.nd 0<0 then 42 else 0) else 8
open Classical in
noncomputable def paE (b:Br) (j:Int):Int:=if VB b then (if 0≤j∧j<b.p.length then 0 else 2) else 8
open Classical in
noncomputable def seE (b:Br) (s:List Pt) (tn td j x:Int):Int:=if VB b then (if tE s tn td=0 then (if 0≤j∧j<b.p.length then (if KnB s (b.p.set j.toNat x) then (if OneB (b.p.set j.toNat x) then 0 else 14) else 6) else 2) else tE s tn td) else 8
open Classical in
noncomputable def riE (b:Br) (s:List Pt) (tn td:Int):Int:=if VB b then (if tE s tn td=0 then (if KnB s b.p then 0 else 6) else tE s tn td) else 8
theorem qcq {s:List Pt} {tn td:Int} (h:tE s tn td=0):Val s∧okB tn td=true:=by
 unfold tE at h
 split at h
 ·rename_i h0
  split at h
  ·rename_i h1;exact⟨qeB.1 h0,h1⟩
  ·cases h
 ·rename_i h0;exact (h0 h).elim
theorem qqj {s:List Pt} {tn td:Int} {p:List Int} (h:buE s tn td p=0):Val s∧okB tn td=true∧1≤p.length∧p.length≤64∧KnB s p∧OneB p:=by
 unfold buE at h
 split at h
 ·rename_i h0
  obtain⟨v,t⟩:=qcq h0
  split at h
  ·rename_i h1
   split at h
   ·rename_i h2
    split at h
    ·rename_i h3;exact⟨v,t,h1.1,h1.2,h2,h3⟩
    ·cases h
   ·cases h
  ·cases h
 ·rename_i h0;exact (h0 h).elim
abbrev qaj:List Pt:=[⟨1,0,2⟩,⟨2,6,-1⟩,⟨5,0,0⟩]
theorem qkq:(bld qaj 0 1 [1,2,-1,5]).w=[2,2,5]:=by decide
end Go.Proofs.Ytgbmdijodlfcaaa
