/-
  Joined: Fr, Fs, Ka, Kc, Kf, Kj, Na, Nb. Conditions: none.
-/
import Derived.Test.YtgbmdijodlfcaaaW26
import Derived.Test.YtgbmdijodlfcaaaW25
import Derived.Test.YtgbmdijodlfcaaaW21
import Derived.Test.YtgbmdijodlfcaaaW22
namespace Go.Proofs.Ytgbmdijodlfcaaa
set_option maxRecDepth 100000
open Go.RowKit
def ld (tn td:Int) (p q:Pt):Bool:=qbO (p.a*td+p.b*tn) (q.a*td+q.b*tn) p.b q.b p.id q.id
theorem qdZ {P Q pb qb pi qi:Int}:qbO P Q pb qb pi qi=true↔(P>Q∨P=Q∧(pb>qb∨pb=qb∧pi<qi)):=by unfold qbO;exact decide_eq_true_iff
theorem qcg {P Q pb qb pi qi:Int}:qbO P Q pb qb pi qi=false↔¬ (P>Q∨P=Q∧(pb>qb∨pb=qb∧pi<qi)):=by unfold qbO;exact decide_eq_false_iff_not
section
variable {tn td:Int} {p q r:Pt}
theorem ql7 (p:Pt):ld tn td p p=false:=qcg.2 (by omega)
theorem qgU (h:ld tn td p q=true) (k:ld tn td q r=true):ld tn td p r=true:=by
 unfold ld at *
 generalize p.a*td+p.b*tn=P at *
 generalize q.a*td+q.b*tn=Q at *
 generalize r.a*td+r.b*tn=R at *
 rw[qdZ] at *
 omega
theorem qnl (h:ld tn td p q=true):ld tn td q p=false:=by
 cases hh:ld tn td q p
 ·rfl
 ·have:=qgU h hh;rw[ql7] at this;cases this
end
def rk (tn td:Int) (l:List Pt) (p:Pt):Nat:=l.countP fun q=>ld tn td q p
theorem qmq {tn td:Int}:∀ (s:List Pt) (k:Nat) (p:Pt),s.Pairwise (fun p q=>ld tn td p q=true)→s[k]?=some p→rk tn td s p=k
 | [],_,_,_,h=>by simp at h
 | a::r,0,p,hp,h=>by
  simp only[List.getElem?_cons_zero,Option.some.injEq] at h
  subst h
  rw[List.pairwise_cons] at hp
  unfold rk
  rw[List.countP_eq_zero]
  intro q hq
  rcases List.mem_cons.1 hq with rfl | hq
  ·rw[ql7];decide
  ·rw[qnl (hp.1 q hq)];decide
 | a::r,k+1,p,hp,h=>by
  rw[List.getElem?_cons_succ] at h
  rw[List.pairwise_cons] at hp
  have:=qmq r k p hp.2 h
  unfold rk at this ⊢
  rw[List.countP_cons,this,if_pos (hp.1 p (List.mem_of_getElem? h))]
structure Srt (l:List Pt) (tn td:Int) (s:List Pt):Prop where
 perm:s.Perm l
 pw:s.Pairwise (fun p q=>ld tn td p q=true)
theorem Srt.len {l s:List Pt} {tn td:Int} (h:Srt l tn td s):s.length=l.length:=h.perm.length_eq
theorem Srt.rank {l s:List Pt} {tn td:Int} (h:Srt l tn td s) {k:Nat} {p:Pt} (hk:s[k]?=some p):rk tn td l p=k:=by
 have:=qmq s k p h.pw hk
 unfold rk at this ⊢
 rw[← h.perm.countP_eq];exact this
theorem Srt.at {l s:List Pt} {tn td:Int} (h:Srt l tn td s) {p:Pt} (hp:p∈l):s[rk tn td l p]?=some p:=by
 obtain⟨k,hk,e⟩:=List.getElem_of_mem (h.perm.mem_iff.2 hp)
 have hk':s[k]?=some p:=by rw[List.getElem?_eq_getElem hk,e]
 rw[h.rank hk'];exact hk'
theorem Srt.lt {l s:List Pt} {tn td:Int} (h:Srt l tn td s) {p:Pt} (hp:p∈l):rk tn td l p<l.length:=by rw[← h.len];exact qat (h.at hp)
end Go.Proofs.Ytgbmdijodlfcaaa

namespace Go.Proofs.Ytgbmdijodlfcaaa
set_option maxRecDepth 100000
open Go.RowKit
structure Tm (tn td:Int):Prop where
 hn:I64 tn
 hd:I64 td
 ok:okB tn td=true
noncomputable def tE (l:List Pt) (tn td:Int):Int:=if qeh l=0 then (if okB tn td=true then 0 else 8) else qeh l
theorem qfn {tn td:Int} (hn:I64 tn) (hd:I64 td) (l:List Pt):Fn 29 1 [qaw 0 l,.pv (qab tn td)] [(0,0,qai l)] (.pv (iV (tE l tn td))) 0 []:=by
 unfold tE
 by_cases h0:qeh l=0
 ·have c1:=qd7 l
  rw[h0] at c1
  rw[if_pos h0]
  by_cases hp:okB tn td=true
  ·rw[if_pos hp];exact ql4 c1 (qjE hn hd hp)
  ·rw[if_neg hp];exact ql4 c1 (qhK hn hd hp)
 ·rw[if_neg h0]
  exact qot (qd7 l) (by simp[h0])
section
variable {l:List Pt} {tn td:Int}
end
end Go.Proofs.Ytgbmdijodlfcaaa

namespace Go.Proofs.Ytgbmdijodlfcaaa
set_option maxRecDepth 100000
open Go.RowKit
def qsR (a b:Int):Bool:=decide (0≤a∧a≤65535∧0≤b∧b≤65535∧a≠b)
def Dis (l:List Pt):Prop:=∀ (i k:Nat) (p q:Pt),i<k→l[i]?=some p→l[k]?=some q→¬ (p.a=q.a∧p.b=q.b)
structure V8 (x:Int) (l:List Pt):Prop where
 len:l.length≤200
 ok:∀ p∈l,qsR p.a p.b=true
 up:Up l
 lo:∀ p∈l,0≤p.id
 hi:∀ p∈l,p.id<x
 nx:0≤x∧x≤1000000
 dis:Dis l
def qoN (l:List Pt):List (Value×Value):=l.map fun p=>(iV p.id,ptV p)
abbrev byV (l:List Pt):List Value:=kvL (qoN l)
theorem qh4 (a:Int):MapK Try.prog 77 3 68 (iV a) (fun x=>∃ b,x=iV b) (qaa 0 0 0):=
 qi7 (by kernel_rfl) Try.underlying3 (fun w=>qdg (by kernel_rfl) w) a
theorem qrr (l:List Pt):∀ p∈qoN l,∃ b,p.1=iV b:=fun p hp=>by
 obtain⟨q,_,rfl⟩:=List.mem_map.1 hp
 exact⟨q.id,rfl⟩
theorem qdl {a b:Int} (h:iV a=iV b):a=b:=by injection h
theorem qsA {l:List Pt} {a:Int} (h:∀ q∈l,q.id≠a) (ok:Bool):qaR Try.prog 77 (byV l) (iV a) ok (if ok=true then .tuple #[qaa 0 0 0,.bool false] else qaa 0 0 0):=
 qiR (qh4 a) (qrr l) (fun q hq e=>by
  obtain⟨r,hr,rfl⟩:=List.mem_map.1 hq
  exact h r hr (qdl e)) ok
theorem qpm {l:List Pt} {p:Pt} (hp:p∈l) (hu:∀ q∈l,q.id=p.id→q=p) (ok:Bool):qaR Try.prog 77 (byV l) (iV p.id) ok (if ok=true then .tuple #[ptV p,.bool true] else ptV p):=
 qgt (v:=ptV p) (qh4 p.id) (qrr l) (List.mem_map.2 ⟨p,hp,rfl⟩) (fun r hr e=>by
  obtain⟨s,hs,rfl⟩:=List.mem_map.1 hr
  rw[hu s hs (qdl e)]) ok
theorem qqN {l:List Pt} {p:Pt} (h:∀ q∈l,q.id≠p.id):qdI Try.prog 77 (byV l) (iV p.id) (ptV p) (byV (l++[p])):=by
 have:=qjv (qh4 p.id) (qrr l) (fun q hq e=>by
  obtain⟨r,hr,rfl⟩:=List.mem_map.1 hq
  exact h r hr (qdl e)) (ptV p)
 show qdI _ _ _ _ _ (kvL (qoN (l++[p])))
 rw[show qoN (l++[p])=qoN l++[(iV p.id,ptV p)] by simp[qoN]]
 exact this
end Go.Proofs.Ytgbmdijodlfcaaa

namespace Go.Proofs.Ytgbmdijodlfcaaa
set_option maxRecDepth 100000
open Go.RowKit
def lst (m:List Pt):Int:=match m.getLast? with
 | none=>-1
 | some p=>p.id
theorem qjV:lst [] = -1:=rfl
theorem qgT (m:List Pt) (p:Pt):lst (m++[p])=p.id:=by simp[lst]
def Inc (l:List Pt):Prop:=∀ (k:Nat) (p:Pt),l[k]?=some p→lst (l.take k)<p.id
theorem Inc.up {l:List Pt} (h:Inc l):Up l:=fun k p q hp hq=>by
 have:=h (k+1) q hq
 rw[qdw hp,qgT] at this
 exact this
theorem Inc.lo {l:List Pt} (h:Inc l):∀ p∈l,0≤p.id:=by
 have key:∀ (k:Nat) (p:Pt),l[k]?=some p→0≤p.id:=by
  intro k
  induction k with
  | zero=>intro p hp;have:=h 0 p hp;rw[List.take_zero,qjV] at this;omega
  | succ k ih=>
   intro p hp
   obtain⟨q,hq⟩:=qal (l:=l) (k:=k) (by have:=qat hp;omega)
   have:=ih q hq
   have:=h.up k q p hq hp
   omega
 intro p hp
 obtain⟨k,hk,rfl⟩:=List.getElem_of_mem hp
 exact key k _ (List.getElem?_eq_getElem hk)
theorem Inc.lt {l:List Pt} (h:Inc l) {x:Int}:lst l<x↔(∀ p∈l,p.id<x)∧0≤x:=by
 have hup:=h.up
 have hlo:=h.lo
 rcases List.eq_nil_or_concat l with rfl | ⟨m,q,rfl⟩
 ·rw[qjV];exact⟨fun h=>⟨fun p hp=>by simp at hp,by omega⟩,fun h=>by omega⟩
 ·rw[List.concat_eq_append,qgT]
  rw[List.concat_eq_append] at hup hlo
  refine⟨fun hx=>⟨fun p hp=>?_,by have:=hlo q (by simp);omega⟩,fun hx=>hx.1 q (by simp)⟩
  obtain⟨k,hk,rfl⟩:=List.getElem_of_mem hp
  rcases Nat.lt_or_ge k m.length with h1 | h1
  ·have:=hup.mono h1 (List.getElem?_eq_getElem hk) (show (m++[q])[m.length]?=some q by simp)
   omega
  ·have hkm:k=m.length:=by simp at hk;omega
   subst hkm
   simpa using hx
theorem qk6 {l:List Pt} {k:Nat} {q:Pt} (h:q∈l.take k):∃ i,i<k∧l[i]?=some q:=by
 obtain⟨i,hi,rfl⟩:=List.getElem_of_mem h
 have hi':i<k∧i<l.length:=by simp at hi;omega
 exact⟨i,hi'.1,by rw[List.getElem_take];exact List.getElem?_eq_getElem hi'.2⟩
end Go.Proofs.Ytgbmdijodlfcaaa

namespace Go.Proofs.Ytgbmdijodlfcaaa
set_option maxRecDepth 100000
open Go.RowKit
theorem qqH {l:List Pt} (hu:Up l) {i j:Nat} {p q:Pt} (hp:l[i]?=some p) (hq:l[j]?=some q) (h:p.id=q.id):i=j∧p=q:=by
 rcases Nat.lt_trichotomy i j with e | e | e
 ·have:=hu.mono e hp hq;omega
 ·subst e;rw[hp] at hq;cases hq;exact⟨rfl,rfl⟩
 ·have:=hu.mono e hq hp;omega
noncomputable def qsI (l:List Pt) (a b:Int):Bool:=open Classical in decide (∃ p∈l,p.a=a∧p.b=b)
theorem qq7 {l:List Pt} {a b:Int}:qsI l a b=true↔∃ p∈l,p.a=a∧p.b=b:=by unfold qsI;exact decide_eq_true_iff
end Go.Proofs.Ytgbmdijodlfcaaa

namespace Go.Proofs.Ytgbmdijodlfcaaa
set_option maxRecDepth 100000
open Go.RowKit
def names (n:Int) (p:Pt):Bool:=decide (p.a=n∨p.b=n)
theorem qjn {s:List Pt} (hs:Val s) {p q:Pt} (hp:p∈s) (hq:q∈s) (h:p.id=q.id):p=q:=by
 obtain⟨i,hi,rfl⟩:=List.getElem_of_mem hp
 obtain⟨j,hj,rfl⟩:=List.getElem_of_mem hq
 exact (qqH hs.up (List.getElem?_eq_getElem hi) (List.getElem?_eq_getElem hj) h).2
theorem qjm {s:List Pt} (hs:Val s) {q:Pt} (hq:q∈s) {i:Int} (h:q.id=i) (ok:Bool):qaR Try.prog 77 (byV s) (iV i) ok (if ok=true then .tuple #[ptV q,.bool true] else ptV q):=by
 subst h
 exact qpm hq (fun r hr e=>qjn hs hr hq e) ok
theorem qme {s:List Pt} {i:Int} (h:¬ ∃ q∈s,q.id=i):qaR Try.prog 77 (byV s) (iV i) true (.tuple #[qaa 0 0 0,.bool false]):=qsA (fun q hq e=>h ⟨q,hq,e⟩) true
section
variable {tn td:Int} (htn:I64 tn) (htd:I64 td)
end
end Go.Proofs.Ytgbmdijodlfcaaa

namespace Go.Proofs.Ytgbmdijodlfcaaa
set_option maxRecDepth 100000
open Go.RowKit
theorem qph {tn td:Int} {p q:Pt} (hi:p.id≠q.id) (h:ld tn td p q=false):ld tn td q p=true:=by
 unfold ld at *
 generalize p.a*td+p.b*tn=P at *
 generalize q.a*td+q.b*tn=Q at *
 rw[qcg] at h
 rw[qdZ]
 omega
theorem qse {l:List Pt} (hv:Val l) {p q:Pt} (hp:p∈l) (hq:q∈l) (e:p.id=q.id):p=q:=by
 obtain⟨i,hi,rfl⟩:=List.getElem_of_mem hp
 obtain⟨j,hj,rfl⟩:=List.getElem_of_mem hq
 rcases Nat.lt_trichotomy i j with h | h | h
 ·have:=hv.up.mono h (List.getElem?_eq_getElem hi) (List.getElem?_eq_getElem hj);omega
 ·subst h;rfl
 ·have:=hv.up.mono h (List.getElem?_eq_getElem hj) (List.getElem?_eq_getElem hi);omega
structure Br where
 p:List Int
 w:List Int
def Br.nd (b:Br) (i:Nat):Int:=if i<b.w.length then b.w.getD i 0 else b.p.getD (i-b.w.length) 0
structure VB (b:Br):Prop where
 n1:1≤b.p.length
 n2:b.p.length≤64
 w:b.w.length+1=b.p.length
 rng:∀ x∈b.p,-1≤x∧x≤65535
 one:∀ (i k:Nat) (x:Int),b.p[i]?=some x→b.p[k]?=some x→0≤x→i=k
 kid:∀ i,i<b.w.length→(b.nd i=b.nd (2*i+1)∨b.nd i=b.nd (2*i+2))∧(b.nd i = -1→b.nd (2*i+1) = -1∧b.nd (2*i+2) = -1)
def idP (s:List Pt) (i:Int):Pt:=(s.find? fun q=>q.id==i).getD ⟨0,0,0⟩
theorem qgq {s:List Pt} (hs:Val s) {q:Pt} (hq:q∈s):idP s q.id=q:=by
 unfold idP
 cases h:s.find? fun r=>r.id==q.id with
 | none=>
  have:=List.find?_eq_none.1 h q hq
  simp at this
 | some r=>
  have h1:=List.mem_of_find?_eq_some h
  have h2:=List.find?_some h
  exact qse hs h1 hq (by simpa using h2)
def KnB (s:List Pt) (p:List Int):Prop:=∀ x∈p,x≠-1→∃ q∈s,q.id=x
def won (s:List Pt) (tn td:Int) (x y:Int):Int:=if x<0 then y else if y<0∨ld tn td (idP s x) (idP s y)=true then x else y
def RtB (s:List Pt) (tn td:Int) (b:Br):Prop:=∀ i,i<b.w.length→b.nd i=won s tn td (b.nd (2*i+1)) (b.nd (2*i+2))
section
variable {s:List Pt} {tn td:Int} {b:Br}
def Ge9 (s:List Pt) (tn td:Int) (x y:Int):Prop:=x=y∨y<0∨0≤x∧ld tn td (idP s x) (idP s y)=true
theorem qkY {x y z:Int} (h:Ge9 s tn td x y) (k:Ge9 s tn td y z):Ge9 s tn td x z:=by
 rcases h with rfl | h | ⟨h0,h⟩
 ·exact k
 ·rcases k with rfl | k | ⟨k0,_⟩
  ·exact Or.inr (Or.inl h)
  ·exact Or.inr (Or.inl k)
  ·omega
 ·rcases k with rfl | k | ⟨_,k⟩
  ·exact Or.inr (Or.inr ⟨h0,h⟩)
  ·exact Or.inr (Or.inl k)
  ·exact Or.inr (Or.inr ⟨h0,qgU h k⟩)
theorem qmd (x y:Int):won s tn td x y=x∨won s tn td x y=y:=by
 unfold won
 split
 ·exact Or.inr rfl
 ·split
  ·exact Or.inl rfl
  ·exact Or.inr rfl
theorem qsq {x y:Int} (hs:Val s) (hx:0≤x→∃ q∈s,q.id=x) (hy:0≤y→∃ q∈s,q.id=y):Ge9 s tn td (won s tn td x y) x:=by
 unfold won
 split
 ·rename_i h;exact Or.inr (Or.inl h)
 ·rename_i h
  split
  ·exact Or.inl rfl
  ·rename_i k
   have y0:0≤y:=by
    have:¬ y<0:=fun h=>k (Or.inl h)
    omega
   by_cases e:y=x
   ·exact Or.inl e
   ·obtain⟨p,hp,ep⟩:=hx (by omega)
    obtain⟨q,hq,eq⟩:=hy y0
    refine Or.inr (Or.inr ⟨y0,?_⟩)
    have e1:idP s x=p:=by rw[← ep];exact qgq hs hp
    have e2:idP s y=q:=by rw[← eq];exact qgq hs hq
    have k2:ld tn td p q=false:=by
     have:¬ ld tn td (idP s x) (idP s y)=true:=fun h=>k (Or.inr h)
     rw[e1,e2] at this
     exact Bool.eq_false_iff.2 this
    rw[e1,e2]
    exact qph (by omega) k2
theorem qrg (x y:Int):Ge9 s tn td (won s tn td x y) y:=by
 unfold won
 split
 ·exact Or.inl rfl
 ·rename_i h
  split
  ·rename_i k
   rcases k with k | k
   ·exact Or.inr (Or.inl k)
   ·exact Or.inr (Or.inr ⟨by omega,k⟩)
  ·exact Or.inl rfl
theorem qaO {i:Nat} (h:b.w.length≤i):b.nd i=b.p.getD (i-b.w.length) 0:=if_neg (by omega)
theorem qcV {i:Nat} (h:i<b.w.length):b.nd i=b.w.getD i 0:=if_pos h
theorem getD_some {l:List Int} {i:Nat} (h:i<l.length):l[i]?=some (l.getD i 0):=by
 rw[List.getD_eq_getElem?_getD,List.getElem?_eq_getElem h];rfl
theorem qgE (hw:b.w.length+1=b.p.length) (hk:∀ i,i<b.w.length→b.nd i=b.nd (2*i+1)∨b.nd i=b.nd (2*i+2)):∀ (d i:Nat),i+d=2*b.w.length→b.nd i∈b.p:=by
 intro d
 induction d using Nat.strongRecOn with
 | ind d ih=>
  intro i hi
  by_cases h:i<b.w.length
  ·rcases hk i h with e | e
   ·rw[e];exact ih (d-(i+1)) (by omega) (2*i+1) (by omega)
   ·rw[e];exact ih (d-(i+2)) (by omega) (2*i+2) (by omega)
  ·rw[qaO (by omega)]
   exact List.mem_of_getElem? (getD_some (by omega))
theorem RtB.kid (h:RtB s tn td b):∀ i,i<b.w.length→b.nd i=b.nd (2*i+1)∨b.nd i=b.nd (2*i+2):=fun i hi=>by
 rw[h i hi]
 exact qmd _ _
theorem RtB.mem (h:RtB s tn td b) (hw:b.w.length+1=b.p.length) {i:Nat} (hi:i≤2*b.w.length):b.nd i∈b.p:=qgE hw h.kid (2*b.w.length-i) i (by omega)
theorem RtB.top (h:RtB s tn td b) (hs:Val s) (hw:b.w.length+1=b.p.length) (hk:KnB s b.p):∀ i,i≤2*b.w.length→Ge9 s tn td (b.nd 0) (b.nd i):=by
 intro i
 induction i using Nat.strongRecOn with
 | ind i ih=>
  intro hi
  match i,ih,hi with
  | 0,_,_=>exact Or.inl rfl
  | j+1,ih,hi=>
   have hp:j/2<b.w.length:=by omega
   have kn:∀ k,k≤2*b.w.length→0≤b.nd k→∃ q∈s,q.id=b.nd k:=fun k hk' h0=>hk _ (h.mem hw hk') (by omega)
   refine qkY (ih (j/2) (by omega) (by omega)) ?_
   rw[h (j/2) hp]
   have e:j+1=2*(j/2)+1∨j+1=2*(j/2)+2:=by omega
   rcases e with e | e
   ·rw[e]
    exact qsq hs (kn _ (by omega)) (kn _ (by omega))
   ·rw[e]
    exact qrg _ _
theorem RtB.all (h:RtB s tn td b) (hs:Val s) (hw:b.w.length+1=b.p.length) (hk:KnB s b.p) {x:Int} (hx:x∈b.p):Ge9 s tn td (b.nd 0) x:=by
 obtain⟨k,hk'⟩:=List.getElem?_of_mem hx
 have hl:=qat hk'
 have:=h.top hs hw hk (b.w.length+k) (by omega)
 rw[qaO (i:=b.w.length+k) (by omega),show b.w.length+k-b.w.length=k by omega,List.getD_eq_getElem?_getD,hk'] at this
 exact this
theorem qjF {b':Br} (h:RtB s tn td b) (h':RtB s tn td b') (hp:b.p=b'.p) (hw:b.w.length=b'.w.length):b=b':=by
 have key:∀ (d i:Nat),i+d=2*b.w.length→b.nd i=b'.nd i:=by
  intro d
  induction d using Nat.strongRecOn with
  | ind d ih=>
   intro i hi
   by_cases hl:i<b.w.length
   ·rw[h i hl,h' i (by omega),ih (d-(i+1)) (by omega) (2*i+1) (by omega),ih (d-(i+2)) (by omega) (2*i+2) (by omega)]
   ·rw[qaO (by omega),qaO (by omega),hp,hw]
 have e:b.w=b'.w:=by
  refine List.ext_getElem hw fun i h1 h2=>?_
  have:=key (2*b.w.length-i) i (by omega)
  rw[qcV h1,qcV h2,List.getD_eq_getElem?_getD,List.getD_eq_getElem?_getD,List.getElem?_eq_getElem h1,List.getElem?_eq_getElem h2] at this
  exact this
 cases b
 cases b'
 simp only at hp e
 rw[hp,e]
def nvF (s:List Pt) (tn td:Int) (p:List Int):Nat→Nat→Int
 | 0,_=>0
 | f+1,i=>if i+1<p.length then won s tn td (nvF s tn td p f (2*i+1)) (nvF s tn td p f (2*i+2)) else p.getD (i+1-p.length) 0
theorem qev {p:List Int}:∀ (f i:Nat),p.length≤i+f→0<f→nvF s tn td p (f+1) i=nvF s tn td p f i
 | 0,_,_,h=>by omega
 | f+1,i,h,_=>by
  unfold nvF
  by_cases hi:i+1<p.length
  ·rw[if_pos hi,if_pos hi,qev f (2*i+1) (by omega) (by omega),qev f (2*i+2) (by omega) (by omega)]
  ·rw[if_neg hi,if_neg hi]
def bld (s:List Pt) (tn td:Int) (p:List Int):Br:=⟨p,(List.range (p.length-1)).map (nvF s tn td p p.length)⟩
theorem qcl (p:List Int):(bld s tn td p).w.length=p.length-1:=by simp[bld]
theorem qjL {p:List Int} (hp:1≤p.length) (i:Nat) (_:i≤2*(p.length-1)):(bld s tn td p).nd i=nvF s tn td p p.length i:=by
 have hl:=qcl (s:=s) (tn:=tn) (td:=td) p
 by_cases h:i<p.length-1
 ·rw[qcV (by omega),List.getD_eq_getElem?_getD]
  simp[bld,h]
 ·rw[qaO (by omega),hl]
  obtain⟨f,hf⟩:∃ f,p.length=f+1:=⟨p.length-1,by omega⟩
  conv=>rhs;rw[hf]
  unfold nvF
  rw[if_neg (by omega)]
  show p.getD _ 0=_
  rw[show i-(p.length-1)=i+1-p.length by omega]
theorem qdy {p:List Int} (hp:1≤p.length):RtB s tn td (bld s tn td p):=by
 intro i hi
 rw[qcl] at hi
 rw[qjL hp i (by omega),qjL hp (2*i+1) (by omega),qjL hp (2*i+2) (by omega)]
 obtain⟨f,hf⟩:∃ f,p.length=f+1:=⟨p.length-1,by omega⟩
 rw[hf,qev f (2*i+1) (by omega) (by omega),qev f (2*i+2) (by omega) (by omega)]
 conv=>lhs;unfold nvF
 rw[if_pos (by omega)]
def wyF:Nat→Nat→List Nat
 | 0,_=>[]
 | _+1,0=>[]
 | f+1,i+1=>(i/2)::wyF f (i/2)
def wy (i:Nat):List Nat:=wyF 6 i
theorem qh3:∀ (f i:Nat),(wyF f i).length≤f
 | 0,_=>Nat.le_refl _
 | _+1,0=>Nat.zero_le _
 | f+1,i+1=>by
  show (wyF f (i/2)).length+1≤f+1
  have:=qh3 f (i/2)
  omega
theorem qgO (i:Nat):(wy i).length≤6:=qh3 6 i
theorem qiM:wy 0=[]:=rfl
theorem qgg:∀ (f i:Nat),i+1<2 ^ (f+1)→wyF (f+1) i=wyF f i
 | 0,0,_=>rfl
 | 0,i+1,h=>by have:i+1+1<2:=h;omega
 | f+1,0,_=>rfl
 | f+1,i+1,h=>by
  have:=qgg f (i/2) (by rw[Nat.pow_succ] at h;omega)
  show (i/2)::wyF (f+1) (i/2)=(i/2)::wyF f (i/2)
  rw[this]
theorem qbC {i:Nat} (h:i<126):wy (i+1)=(i/2)::wy (i/2):=by
 show (i/2)::wyF 5 (i/2)=(i/2)::wyF 6 (i/2)
 rw[qgg 5 (i/2) (by omega)]
theorem qmj {k i:Nat} {x:Int} (hk:k<b.w.length):(⟨b.p,b.w.set k x⟩:Br).nd i=if i=k then x else b.nd i:=by
 have hl:(b.w.set k x).length=b.w.length:=List.length_set
 by_cases h:i<b.w.length
 ·rw[qcV (b:=⟨b.p,b.w.set k x⟩) (by show i<(b.w.set k x).length;omega),qcV h,List.getD_eq_getElem?_getD,List.getElem?_set]
  by_cases e:k=i
  ·rw[if_pos e,if_pos (by omega),if_pos e.symm];rfl
  ·rw[if_neg e,if_neg (fun h=>e h.symm),List.getD_eq_getElem?_getD]
 ·rw[qaO (b:=⟨b.p,b.w.set k x⟩) (by show (b.w.set k x).length≤i;omega),qaO (by omega),if_neg (by omega)]
  show b.p.getD (i-(b.w.set k x).length) 0=_
  rw[hl]
theorem qjs {j i:Nat} {x:Int} (hj:j<b.p.length):(⟨b.p.set j x,b.w⟩:Br).nd i=if i=b.w.length+j then x else b.nd i:=by
 by_cases h:i<b.w.length
 ·rw[qcV (b:=⟨b.p.set j x,b.w⟩) h,qcV h,if_neg (by omega)]
 ·rw[qaO (b:=⟨b.p.set j x,b.w⟩) (by show b.w.length≤i;omega),qaO (by omega)]
  show (b.p.set j x).getD (i-b.w.length) 0=_
  rw[List.getD_eq_getElem?_getD,List.getElem?_set]
  by_cases e:i=b.w.length+j
  ·rw[if_pos (by omega),if_pos (by omega),if_pos e];rfl
  ·rw[if_neg (by omega),if_neg e,List.getD_eq_getElem?_getD]
end
end Go.Proofs.Ytgbmdijodlfcaaa

namespace Go.Proofs.Ytgbmdijodlfcaaa
set_option maxRecDepth 100000
open Go.RowKit
def OneB (p:List Int):Prop:=∀ (i k:Nat) (x:Int),p[i]?=some x→p[k]?=some x→0≤x→i=k
section
variable {s:List Pt} {tn td:Int} {b:Br}
theorem qo8 {p:List Int} (hs:Val s) (hk:KnB s p):∀ x∈p,-1≤x∧x≤65535:=fun x hx=>by
 by_cases h:x = -1
 ·omega
 ·obtain⟨q,hq,rfl⟩:=hk x hx h
  have:=hs.ok q hq
  have h2:=qbq.1 this
  omega
def qsQ (x l r:Int):Prop:=(x=l∨x=r)∧(x<0→l<0∧r<0)
theorem VB.kids (h:VB b):∀ i,i<b.w.length→qsQ (b.nd i) (b.nd (2*i+1)) (b.nd (2*i+2)):=fun i hi=>⟨(h.kid i hi).1,fun e=>by
 have:=(h.rng _ (qgE h.w (fun i hi=>(h.kid i hi).1) (2*b.w.length-i) i (by omega))).1
 have:=(h.kid i hi).2 (by omega)
 omega⟩
def PartB (q p:List Int):Prop:=q.length=p.length∧∀ (k:Nat) (x:Int),q[k]?=some x→x = -1∨p[k]?=some x
theorem PartB.one {q p:List Int} (h:PartB q p) (h1:OneB p):OneB q:=fun i k x hi hk h0=>by
 rcases h.2 i x hi with e | e
 ·omega
 ·rcases h.2 k x hk with e2 | e2
  ·omega
  ·exact h1 i k x e e2 h0
theorem PartB.set {q p:List Int} (h:PartB q p) {k:Nat} {x:Int} (hk:p[k]?=some x):PartB (q.set k x) p:=⟨by rw[List.length_set];exact h.1,fun j y hj=>by
 rw[List.getElem?_set] at hj
 split at hj
 ·rename_i e
  split at hj
  ·cases hj;exact Or.inr (e▸hk)
  ·cases hj
 ·exact h.2 j y hj⟩
end
end Go.Proofs.Ytgbmdijodlfcaaa
