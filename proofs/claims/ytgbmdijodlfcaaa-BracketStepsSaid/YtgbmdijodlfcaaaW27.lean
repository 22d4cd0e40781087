/-
  Joined: Na, Nb, Nc, Nd. Conditions: none.
-/
import Derived.Test.YtgbmdijodlfcaaaW25
import Derived.Test.YtgbmdijodlfcaaaW21
namespace Go.Proofs.Ytgbmdijodlfcaaa
set_option maxRecDepth 100000
open Go.RowKit
theorem qoK {tn td:Int} {p q:Pt} (hi:p.id≠q.id) (h:ld tn td p q=false):ld tn td q p=true:=by
 unfold ld at *
 generalize p.a*td+p.b*tn=P at *
 generalize q.a*td+q.b*tn=Q at *
 rw[qb9] at h
 rw[qd8]
 omega
theorem qpS {l:List Pt} (hv:Val l) {p q:Pt} (hp:p∈l) (hq:q∈l) (e:p.id=q.id):p=q:=by
 obtain⟨i,hi,rfl⟩:=List.getElem_of_mem hp
 obtain⟨j,hj,rfl⟩:=List.getElem_of_mem hq
 rcases Nat.lt_trichotomy i j with h | h | h
 ·have:=hv.up.mono h (List.getElem?_eq_getElem hi) (List.getElem?_eq_getElem hj);omega
 ·subst h;rfl
 ·have:=hv.up.mono h (List.getElem?_eq_getElem hj) (List.getElem?_eq_getElem hi);omega
structure Br where
 p:List Int
 w:List Int
def Br.nd (b:Br) (i:Nat):Int:=if i<b.w.length then b.w.getD i 0 else b.p.getD (i-b.w.length) 0
structure VB (b:Br):Prop where
 n1:1≤b.p.length
 n2:b.p.length≤64
 w:b.w.length+1=b.p.length
 rng:∀ x∈b.p,-1≤x∧x≤65535
 one:∀ (i k:Nat) (x:Int),b.p[i]?=some x→b.p[k]?=some x→0≤x→i=k
 kid:∀ i,i<b.w.length→(b.nd i=b.nd (2*i+1)∨b.nd i=b.nd (2*i+2))∧(b.nd i = -1→b.nd (2*i+1) = -1∧b.nd (2*i+2) = -1)
def idP (s:List Pt) (i:Int):Pt:=(s.find? fun q=>q.id==i).getD ⟨0,0,0⟩
theorem qgp {s:List Pt} (hs:Val s) {q:Pt} (hq:q∈s):idP s q.id=q:=by
 unfold idP
 cases h:s.find? fun r=>r.id==q.id with
 | none=>
  have:=List.find?_eq_none.1 h q hq
  simp at this
 | some r=>
  have h1:=List.mem_of_find?_eq_some h
  have h2:=List.find?_some h
  exact qpS hs h1 hq (by simpa using h2)
def KnB (s:List Pt) (p:List Int):Prop:=∀ x∈p,x≠-1→∃ q∈s,q.id=x
def won (s:List Pt) (tn td:Int) (x y:Int):Int:=if x<0 then y else if y<0∨ld tn td (idP s x) (idP s y)=true then x else y
def RtB (s:List Pt) (tn td:Int) (b:Br):Prop:=∀ i,i<b.w.length→b.nd i=won s tn td (b.nd (2*i+1)) (b.nd (2*i+2))
section
variable {s:List Pt} {tn td:Int} {b:Br}
def Ge9 (s:List Pt) (tn td:Int) (x y:Int):Prop:=x=y∨y<0∨0≤x∧ld tn td (idP s x) (idP s y)=true
theorem qkA {x y z:Int} (h:Ge9 s tn td x y) (k:Ge9 s tn td y z):Ge9 s tn td x z:=by
 rcases h with rfl | h | ⟨h0,h⟩
 ·exact k
 ·rcases k with rfl | k | ⟨k0,_⟩
  ·exact Or.inr (Or.inl h)
  ·exact Or.inr (Or.inl k)
  ·omega
 ·rcases k with rfl | k | ⟨_,k⟩
  ·exact Or.inr (Or.inr ⟨h0,h⟩)
  ·exact Or.inr (Or.inl k)
  ·exact Or.inr (Or.inr ⟨h0,qgW h k⟩)
theorem qik (x y:Int):won s tn td x y=x∨won s tn td x y=y:=by
 unfold won
 split
 ·exact Or.inr rfl
 ·split
  ·exact Or.inl rfl
  ·exact Or.inr rfl
theorem qny {x y:Int} (h:won s tn td x y<0):x<0∧y<0:=by
 unfold won at h
 split at h
 ·rename_i h1;exact⟨h1,h⟩
 ·rename_i h1
  split at h
  ·omega
  ·rename_i h2;exact (h2 (Or.inl h)).elim
theorem qqm {x y:Int} (hs:Val s) (hx:0≤x→∃ q∈s,q.id=x) (hy:0≤y→∃ q∈s,q.id=y):Ge9 s tn td (won s tn td x y) x:=by
 unfold won
 split
 ·rename_i h;exact Or.inr (Or.inl h)
 ·rename_i h
  split
  ·exact Or.inl rfl
  ·rename_i k
   have y0:0≤y:=by
    have:¬ y<0:=fun h=>k (Or.inl h)
    omega
   by_cases e:y=x
   ·exact Or.inl e
   ·obtain⟨p,hp,ep⟩:=hx (by omega)
    obtain⟨q,hq,eq⟩:=hy y0
    refine Or.inr (Or.inr ⟨y0,?_⟩)
    have e1:idP s x=p:=by rw[← ep];exact qgp hs hp
    have e2:idP s y=q:=by rw[← eq];exact qgp hs hq
    have k2:ld tn td p q=false:=by
     have:¬ ld tn td (idP s x) (idP s y)=true:=fun h=>k (Or.inr h)
     rw[e1,e2] at this
     exact Bool.eq_false_iff.2 this
    rw[e1,e2]
    exact qoK (by omega) k2
theorem qp3 (x y:Int):Ge9 s tn td (won s tn td x y) y:=by
 unfold won
 split
 ·exact Or.inl rfl
 ·rename_i h
  split
  ·rename_i k
   rcases k with k | k
   ·exact Or.inr (Or.inl k)
   ·exact Or.inr (Or.inr ⟨by omega,k⟩)
  ·exact Or.inl rfl
theorem qaK {i:Nat} (h:b.w.length≤i):b.nd i=b.p.getD (i-b.w.length) 0:=if_neg (by omega)
theorem qcX {i:Nat} (h:i<b.w.length):b.nd i=b.w.getD i 0:=if_pos h
theorem getD_some {l:List Int} {i:Nat} (h:i<l.length):l[i]?=some (l.getD i 0):=by
 rw[List.getD_eq_getElem?_getD,List.getElem?_eq_getElem h];rfl
theorem qft (hw:b.w.length+1=b.p.length) (hk:∀ i,i<b.w.length→b.nd i=b.nd (2*i+1)∨b.nd i=b.nd (2*i+2)):∀ (d i:Nat),i+d=2*b.w.length→b.nd i∈b.p:=by
 intro d
 induction d using Nat.strongRecOn with
 | ind d ih=>
  intro i hi
  by_cases h:i<b.w.length
  ·rcases hk i h with e | e
   ·rw[e];exact ih (d-(i+1)) (by omega) (2*i+1) (by omega)
   ·rw[e];exact ih (d-(i+2)) (by omega) (2*i+2) (by omega)
  ·rw[qaK (by omega)]
   exact List.mem_of_getElem? (getD_some (by omega))
theorem RtB.kid (h:RtB s tn td b):∀ i,i<b.w.length→b.nd i=b.nd (2*i+1)∨b.nd i=b.nd (2*i+2):=fun i hi=>by
 rw[h i hi]
 exact qik _ _
theorem RtB.mem (h:RtB s tn td b) (hw:b.w.length+1=b.p.length) {i:Nat} (hi:i≤2*b.w.length):b.nd i∈b.p:=qft hw h.kid (2*b.w.length-i) i (by omega)
theorem RtB.top (h:RtB s tn td b) (hs:Val s) (hw:b.w.length+1=b.p.length) (hk:KnB s b.p):∀ i,i≤2*b.w.length→Ge9 s tn td (b.nd 0) (b.nd i):=by
 intro i
 induction i using Nat.strongRecOn with
 | ind i ih=>
  intro hi
  match i,ih,hi with
  | 0,_,_=>exact Or.inl rfl
  | j+1,ih,hi=>
   have hp:j/2<b.w.length:=by omega
   have kn:∀ k,k≤2*b.w.length→0≤b.nd k→∃ q∈s,q.id=b.nd k:=fun k hk' h0=>hk _ (h.mem hw hk') (by omega)
   refine qkA (ih (j/2) (by omega) (by omega)) ?_
   rw[h (j/2) hp]
   have e:j+1=2*(j/2)+1∨j+1=2*(j/2)+2:=by omega
   rcases e with e | e
   ·rw[e]
    exact qqm hs (kn _ (by omega)) (kn _ (by omega))
   ·rw[e]
    exact qp3 _ _
theorem RtB.all (h:RtB s tn td b) (hs:Val s) (hw:b.w.length+1=b.p.length) (hk:KnB s b.p) {x:Int} (hx:x∈b.p):Ge9 s tn td (b.nd 0) x:=by
 obtain⟨k,hk'⟩:=List.getElem?_of_mem hx
 have hl:=qax hk'
 have:=h.top hs hw hk (b.w.length+k) (by omega)
 rw[qaK (i:=b.w.length+k) (by omega),show b.w.length+k-b.w.length=k by omega,List.getD_eq_getElem?_getD,hk'] at this
 exact this
theorem qiV {b':Br} (h:RtB s tn td b) (h':RtB s tn td b') (hp:b.p=b'.p) (hw:b.w.length=b'.w.length):b=b':=by
 have key:∀ (d i:Nat),i+d=2*b.w.length→b.nd i=b'.nd i:=by
  intro d
  induction d using Nat.strongRecOn with
  | ind d ih=>
   intro i hi
   by_cases hl:i<b.w.length
   ·rw[h i hl,h' i (by omega),ih (d-(i+1)) (by omega) (2*i+1) (by omega),ih (d-(i+2)) (by omega) (2*i+2) (by omega)]
   ·rw[qaK (by omega),qaK (by omega),hp,hw]
 have e:b.w=b'.w:=by
  refine List.ext_getElem hw fun i h1 h2=>?_
  have:=key (2*b.w.length-i) i (by omega)
  rw[qcX h1,qcX h2,List.getD_eq_getElem?_getD,List.getD_eq_getElem?_getD,List.getElem?_eq_getElem h1,List.getElem?_eq_getElem h2] at this
  exact this
 cases b
 cases b'
 simp only at hp e
 rw[hp,e]
def nvF (s:List Pt) (tn td:Int) (p:List Int):Nat→Nat→Int
 | 0,_=>0
 | f+1,i=>if i+1<p.length then won s tn td (nvF s tn td p f (2*i+1)) (nvF s tn td p f (2*i+2)) else p.getD (i+1-p.length) 0
theorem qei {p:List Int}:∀ (f i:Nat),p.length≤i+f→0<f→nvF s tn td p (f+1) i=nvF s tn td p f i
 | 0,_,_,h=>by omega
 | f+1,i,h,_=>by
  unfold nvF
  by_cases hi:i+1<p.length
  ·rw[if_pos hi,if_pos hi,qei f (2*i+1) (by omega) (by omega),qei f (2*i+2) (by omega) (by omega)]
  ·rw[if_neg hi,if_neg hi]
def bld (s:List Pt) (tn td:Int) (p:List Int):Br:=⟨p,(List.range (p.length-1)).map (nvF s tn td p p.length)⟩
theorem qbL (p:List Int):(bld s tn td p).w.length=p.length-1:=by simp[bld]
theorem qiH {p:List Int} (hp:1≤p.length) (i:Nat) (_:i≤2*(p.length-1)):(bld s tn td p).nd i=nvF s tn td p p.length i:=by
 have hl:=qbL (s:=s) (tn:=tn) (td:=td) p
 by_cases h:i<p.length-1
 ·rw[qcX (by omega),List.getD_eq_getElem?_getD]
  simp[bld,h]
 ·rw[qaK (by omega),hl]
  obtain⟨f,hf⟩:∃ f,p.length=f+1:=⟨p.length-1,by omega⟩
  conv=>rhs;rw[hf]
  unfold nvF
  rw[if_neg (by omega)]
  show p.getD _ 0=_
  rw[show i-(p.length-1)=i+1-p.length by omega]
theorem qcw {p:List Int} (hp:1≤p.length):RtB s tn td (bld s tn td p):=by
 intro i hi
 rw[qbL] at hi
 rw[qiH hp i (by omega),qiH hp (2*i+1) (by omega),qiH hp (2*i+2) (by omega)]
 obtain⟨f,hf⟩:∃ f,p.length=f+1:=⟨p.length-1,by omega⟩
 rw[hf,qei f (2*i+1) (by omega) (by omega),qei f (2*i+2) (by omega) (by omega)]
 conv=>lhs;unfold nvF
 rw[if_pos (by omega)]
def wyF:Nat→Nat→List Nat
 | 0,_=>[]
 | _+1,0=>[]
 | f+1,i+1=>(i/2)::wyF f (i/2)
def wy (i:Nat):List Nat:=wyF 6 i
theorem qim:∀ (f i:Nat),(wyF f i).length≤f
 | 0,_=>Nat.le_refl _
 | _+1,0=>Nat.zero_le _
 | f+1,i+1=>by
  show (wyF f (i/2)).length+1≤f+1
  have:=qim f (i/2)
  omega
theorem qic (i:Nat):(wy i).length≤6:=qim 6 i
theorem qeC:wy 0=[]:=rfl
theorem qgo:∀ (f i:Nat),i+1<2 ^ (f+1)→wyF (f+1) i=wyF f i
 | 0,0,_=>rfl
 | 0,i+1,h=>by have:i+1+1<2:=h;omega
 | f+1,0,_=>rfl
 | f+1,i+1,h=>by
  have:=qgo f (i/2) (by rw[Nat.pow_succ] at h;omega)
  show (i/2)::wyF (f+1) (i/2)=(i/2)::wyF f (i/2)
  rw[this]
theorem qbf {i:Nat} (h:i<126):wy (i+1)=(i/2)::wy (i/2):=by
 show (i/2)::wyF 5 (i/2)=(i/2)::wyF 6 (i/2)
 rw[qgo 5 (i/2) (by omega)]
def rp (s:List Pt) (tn td:Int):List Nat→Br→Br
 | [],b=>b
 | k::r,b=>rp s tn td r ⟨b.p,b.w.set k (won s tn td (b.nd (2*k+1)) (b.nd (2*k+2)))⟩
theorem qfj:∀ (l:List Nat) (b:Br),(rp s tn td l b).w.length=b.w.length∧(rp s tn td l b).p=b.p
 | [],_=>⟨rfl,rfl⟩
 | k::r,b=>by
  obtain⟨h1,h2⟩:=qfj r ⟨b.p,b.w.set k (won s tn td (b.nd (2*k+1)) (b.nd (2*k+2)))⟩
  exact⟨h1.trans List.length_set,h2⟩
theorem qfa {k i:Nat} {x:Int} (hk:k<b.w.length):(⟨b.p,b.w.set k x⟩:Br).nd i=if i=k then x else b.nd i:=by
 have hl:(b.w.set k x).length=b.w.length:=List.length_set
 by_cases h:i<b.w.length
 ·rw[qcX (b:=⟨b.p,b.w.set k x⟩) (by show i<(b.w.set k x).length;omega),qcX h,List.getD_eq_getElem?_getD,List.getElem?_set]
  by_cases e:k=i
  ·rw[if_pos e,if_pos (by omega),if_pos e.symm];rfl
  ·rw[if_neg e,if_neg (fun h=>e h.symm),List.getD_eq_getElem?_getD]
 ·rw[qaK (b:=⟨b.p,b.w.set k x⟩) (by show (b.w.set k x).length≤i;omega),qaK (by omega),if_neg (by omega)]
  show b.p.getD (i-(b.w.set k x).length) 0=_
  rw[hl]
def RtX (s:List Pt) (tn td:Int) (b:Br) (j:Nat):Prop:=∀ i,i<b.w.length→(0<j→i≠(j-1)/2)→b.nd i=won s tn td (b.nd (2*i+1)) (b.nd (2*i+2))
theorem qk6:∀ (j:Nat) (b:Br),j≤2*b.w.length→b.w.length≤63→RtX s tn td b j→RtB s tn td (rp s tn td (wy j) b):=by
 intro j
 induction j using Nat.strongRecOn with
 | ind j ih=>
  intro b hj hb h
  match j,ih,hj,h with
  | 0,_,_,h=>
   rw[qeC]
   exact fun i hi=>h i hi (fun h=>by omega)
  | i+1,ih,hj,h=>
   have hk:i/2<b.w.length:=by omega
   rw[qbf (by omega)]
   refine ih (i/2) (by omega) ⟨b.p,b.w.set (i/2) _⟩ (by show i/2≤2*(b.w.set _ _).length;rw[List.length_set];omega) (by show (b.w.set _ _).length≤63;rw[List.length_set];exact hb) fun n hn hne=>?_
   have hn':n<b.w.length:=by have:n<(b.w.set (i/2) (won s tn td (b.nd (2*(i/2)+1)) (b.nd (2*(i/2)+2)))).length:=hn;rw[List.length_set] at this;exact this
   rw[qfa hk,qfa hk,qfa hk]
   by_cases e:n=i/2
   ·rw[if_pos e,if_neg (by omega),if_neg (by omega),e]
   ·rw[if_neg e,if_neg (fun h=>hne (by omega) (by omega)),if_neg (fun h=>hne (by omega) (by omega))]
    exact h n hn' fun _=>by omega
theorem qdM {j i:Nat} {x:Int} (hj:j<b.p.length):(⟨b.p.set j x,b.w⟩:Br).nd i=if i=b.w.length+j then x else b.nd i:=by
 by_cases h:i<b.w.length
 ·rw[qcX (b:=⟨b.p.set j x,b.w⟩) h,qcX h,if_neg (by omega)]
 ·rw[qaK (b:=⟨b.p.set j x,b.w⟩) (by show b.w.length≤i;omega),qaK (by omega)]
  show (b.p.set j x).getD (i-b.w.length) 0=_
  rw[List.getD_eq_getElem?_getD,List.getElem?_set]
  by_cases e:i=b.w.length+j
  ·rw[if_pos (by omega),if_pos (by omega),if_pos e];rfl
  ·rw[if_neg (by omega),if_neg e,List.getD_eq_getElem?_getD]
theorem qki {j:Nat} {x:Int} (h:RtB s tn td b) (hw:b.w.length+1=b.p.length) (hn:b.p.length≤64) (hj:j<b.p.length):RtB s tn td (rp s tn td (wy (b.w.length+j)) ⟨b.p.set j x,b.w⟩):=by
 refine qk6 (b.w.length+j) _ (by show _≤2*b.w.length;omega) (by show b.w.length≤63;omega) fun i hi hne=>?_
 have hi':i<b.w.length:=hi
 rw[qdM hj,qdM hj,qdM hj,if_neg (by omega),if_neg (fun e=>hne (by omega) (by omega)),if_neg (fun e=>hne (by omega) (by omega))]
 exact h i hi'
end
end Go.Proofs.Ytgbmdijodlfcaaa

namespace Go.Proofs.Ytgbmdijodlfcaaa
set_option maxRecDepth 100000
open Go.RowKit
def OneB (p:List Int):Prop:=∀ (i k:Nat) (x:Int),p[i]?=some x→p[k]?=some x→0≤x→i=k
section
variable {s:List Pt} {tn td:Int} {b:Br}
theorem qiB {p:List Int} (hs:Val s) (hk:KnB s p):∀ x∈p,-1≤x∧x≤65535:=fun x hx=>by
 by_cases h:x = -1
 ·omega
 ·obtain⟨q,hq,rfl⟩:=hk x hx h
  have:=hs.ok q hq
  have h2:=qbS.1 this
  omega
def qqB (x l r:Int):Prop:=(x=l∨x=r)∧(x<0→l<0∧r<0)
theorem qio (x y:Int):qqB (won s tn td x y) x y:=⟨qik x y,qny⟩
theorem qoE (n1:1≤b.p.length) (n2:b.p.length≤64) (hw:b.w.length+1=b.p.length) (hr:∀ x∈b.p,-1≤x∧x≤65535) (h1:OneB b.p) (hk:∀ i,i<b.w.length→qqB (b.nd i) (b.nd (2*i+1)) (b.nd (2*i+2))):VB b where
 n1:=n1
 n2:=n2
 w:=hw
 rng:=hr
 one:=h1
 kid:=fun i hi=>⟨(hk i hi).1,fun e=>by
  obtain⟨k1,k2⟩:=(hk i hi).2 (by omega)
  have m1:=(hr _ (qft hw (fun i hi=>(hk i hi).1) (2*b.w.length-(2*i+1)) (2*i+1) (by omega))).1
  have m2:=(hr _ (qft hw (fun i hi=>(hk i hi).1) (2*b.w.length-(2*i+2)) (2*i+2) (by omega))).1
  omega⟩
theorem VB.kids (h:VB b):∀ i,i<b.w.length→qqB (b.nd i) (b.nd (2*i+1)) (b.nd (2*i+2)):=fun i hi=>⟨(h.kid i hi).1,fun e=>by
 have:=(h.rng _ (qft h.w (fun i hi=>(h.kid i hi).1) (2*b.w.length-i) i (by omega))).1
 have:=(h.kid i hi).2 (by omega)
 omega⟩
theorem qok {p:List Int} (hs:Val s) (n1:1≤p.length) (n2:p.length≤64) (hk:KnB s p) (h1:OneB p):VB (bld s tn td p):=
 qoE n1 n2 (by rw[qbL];show p.length-1+1=p.length;omega) (qiB hs hk) h1 fun i hi=>by
  rw[qcw n1 i hi]
  exact qio _ _
def plc (s:List Pt) (tn td:Int) (b:Br) (j:Nat) (x:Int):Br:=rp s tn td (wy (b.w.length+j)) ⟨b.p.set j x,b.w⟩
theorem qnp (j:Nat) (x:Int):(plc s tn td b j x).p=b.p.set j x:=(qfj _ _).2
theorem qpJ (j:Nat) (x:Int):(plc s tn td b j x).w.length=b.w.length:=(qfj _ _).1
theorem qie {j:Nat} {x:Int} (h:RtB s tn td b) (hw:b.w.length+1=b.p.length) (hn:b.p.length≤64) (hj:j<b.p.length):RtB s tn td (plc s tn td b j x):=qki h hw hn hj
def PartB (q p:List Int):Prop:=q.length=p.length∧∀ (k:Nat) (x:Int),q[k]?=some x→x = -1∨p[k]?=some x
theorem PartB.one {q p:List Int} (h:PartB q p) (h1:OneB p):OneB q:=fun i k x hi hk h0=>by
 rcases h.2 i x hi with e | e
 ·omega
 ·rcases h.2 k x hk with e2 | e2
  ·omega
  ·exact h1 i k x e e2 h0
theorem PartB.kn {q p:List Int} (h:PartB q p) (hk:KnB s p):KnB s q:=fun x hx h0=>by
 obtain⟨k,hk'⟩:=List.getElem?_of_mem hx
 rcases h.2 k x hk' with e | e
 ·exact (h0 e).elim
 ·exact hk x (List.mem_of_getElem? e) h0
theorem PartB.set {q p:List Int} (h:PartB q p) {k:Nat} {x:Int} (hk:p[k]?=some x):PartB (q.set k x) p:=⟨by rw[List.length_set];exact h.1,fun j y hj=>by
 rw[List.getElem?_set] at hj
 split at hj
 ·rename_i e
  split at hj
  ·cases hj;exact Or.inr (e▸hk)
  ·cases hj
 ·exact h.2 j y hj⟩
theorem qdk (p:List Int):PartB (List.replicate p.length (-1)) p:=⟨List.length_replicate,fun k x hx=>by
 rw[List.getElem?_replicate] at hx
 split at hx
 ·cases hx;exact Or.inl rfl
 ·cases hx⟩
structure StepI (s:List Pt) (tn td:Int) (p:List Int) (t i:Nat) (b:Br):Prop where
 right:RtB s tn td b
 w:b.w.length+1=b.p.length
 part:PartB b.p p
 done:∀ j,j<i→b.p[(j+t)%p.length]?=p[(j+t)%p.length]?
theorem qhM {p:List Int} (n1:1≤p.length) (t:Nat):StepI s tn td p t 0 (bld s tn td (List.replicate p.length (-1))):=
 ⟨qcw (by rw[List.length_replicate];exact n1),by rw[qbL];show _=(List.replicate p.length (-1:Int)).length;rw[List.length_replicate];omega,qdk p,fun j h=>by omega⟩
theorem qju {p:List Int} (n1:1≤p.length) (n2:p.length≤64) {t i:Nat} (I:StepI s tn td p t i b) {x:Int} (hx:p[(i+t)%p.length]?=some x):StepI s tn td p t (i+1) (plc s tn td b ((i+t)%p.length) x):=by
 have hl:=I.part.1
 have hm:(i+t)%p.length<p.length:=Nat.mod_lt _ n1
 refine⟨qie I.right I.w (by omega) (by omega),by rw[qpJ,qnp,List.length_set];exact I.w,by rw[qnp];exact I.part.set hx,fun j hj=>?_⟩
 rw[qnp,List.getElem?_set]
 by_cases e:(i+t)%p.length=(j+t)%p.length
 ·rw[if_pos e,if_pos (by omega),← e,hx]
 ·rw[if_neg e]
  exact I.done j (by
   rcases Nat.lt_or_ge j i with h | h
   ·exact h
   ·exact (e (by rw[show j=i by omega])).elim)
theorem qjF {p:List Int} (n1:1≤p.length) {t:Nat} (ht:t<p.length) (I:StepI s tn td p t p.length b):b=bld s tn td p:=by
 have hp:b.p=p:=by
  refine List.ext_getElem? fun k=>?_
  rcases Nat.lt_or_ge k p.length with h | h
  ·rcases Nat.lt_or_ge k t with h2 | h2
   ·have:=I.done (k+p.length-t) (by omega)
    rw[show k+p.length-t+t=k+p.length by omega,Nat.add_mod_right,Nat.mod_eq_of_lt h] at this
    exact this
   ·have:=I.done (k-t) (by omega)
    rw[show k-t+t=k by omega,Nat.mod_eq_of_lt h] at this
    exact this
  ·rw[List.getElem?_eq_none h,List.getElem?_eq_none (by have:=I.part.1;omega)]
 refine qiV I.right (qcw n1) hp ?_
 have:=I.w
 rw[qbL,← hp]
 omega
end
end Go.Proofs.Ytgbmdijodlfcaaa

namespace Go.Proofs.Ytgbmdijodlfcaaa
set_option maxRecDepth 100000
open Go.RowKit
def qpt (s:List Pt) (p:List Int):List Pt:=s.filter fun q=>decide (q.id∈p)
theorem qkO {s:List Pt} {p:List Int} {q:Pt}:q∈qpt s p↔q∈s∧q.id∈p:=by
 unfold qpt
 rw[List.mem_filter,decide_eq_true_iff]
section
variable {s t:List Pt} {tn td:Int} {b:Br}
theorem RtB.none (h:RtB s tn td b) (hw:b.w.length+1=b.p.length) (hk:KnB s b.p) (he:qpt s b.p=[]):b.nd 0 = -1:=by
 have hr:=h.mem hw (i:=0) (by omega)
 by_cases e:b.nd 0 = -1
 ·exact e
 ·obtain⟨q,hq,eq⟩:=hk _ hr e
  have:q∈qpt s b.p:=qkO.2 ⟨hq,by rw[eq];exact hr⟩
  rw[he] at this
  cases this
end
end Go.Proofs.Ytgbmdijodlfcaaa

namespace Go.Proofs.Ytgbmdijodlfcaaa
set_option maxRecDepth 100000
open Go.RowKit
open Classical in
noncomputable def erB (b:Br):Int:=if VB b then 0 else 8
open Classical in
noncomputable def buE (s:List Pt) (tn td:Int) (p:List Int):Int:=if tE s tn td=0 then (if 1≤p.length∧p.length≤64 then (if KnB s p then (if OneB p then 0 else 14) else 6) else 2) else tE s tn td
open Classical in
noncomputable def wiE (b:Br):Int:=if VB b then (if b.nd 0<0 then 42 else 0) else 8
open Classical in
noncomputable def paE (b:Br) (j:Int):Int:=if VB b then (if 0≤j∧j<b.p.length then 0 else 2) else 8
open Classical in
noncomputable def seE (b:Br) (s:List Pt) (tn td j x:Int):Int:=if VB b then (if tE s tn td=0 then (if 0≤j∧j<b.p.length then (if KnB s (b.p.set j.toNat x) then (if OneB (b.p.set j.toNat x) then 0 else 14) else 6) else 2) else tE s tn td) else 8
theorem qej {s:List Pt} {tn td:Int} (h:tE s tn td=0):Val s∧okB tn td=true:=by
 unfold tE at h
 split at h
 ·rename_i h0
  split at h
  ·rename_i h1;exact⟨qfN.1 h0,h1⟩
  ·cases h
 ·rename_i h0;exact (h0 h).elim
theorem qn4 {s:List Pt} {tn td:Int} {p:List Int} (h:buE s tn td p=0):Val s∧okB tn td=true∧1≤p.length∧p.length≤64∧KnB s p∧OneB p:=by
 unfold buE at h
 split at h
 ·rename_i h0
  obtain⟨v,t⟩:=qej h0
  split at h
  ·rename_i h1
   split at h
   ·rename_i h2
    split at h
    ·rename_i h3;exact⟨v,t,h1.1,h1.2,h2,h3⟩
    ·cases h
   ·cases h
  ·cases h
 ·rename_i h0;exact (h0 h).elim
abbrev qbE:List Pt:=[⟨1,0,2⟩,⟨2,6,-1⟩,⟨5,0,0⟩]
theorem qkU:(bld qbE 0 1 [1,2,-1,5]).w=[2,2,5]:=by decide
end Go.Proofs.Ytgbmdijodlfcaaa
