/-
  Joined: Ef, Eg. Conditions: none.
-/
import Derived.Test.YtalnjplghagbpaaW32
import Derived.Test.YtalnjplghagbpaaW27
import Derived.Test.YtalnjplghagbpaaW19
import Derived.Test.YtalnjplghagbpaaW24
namespace Go.Proofs.Ytalnjplghagbpaa
set_option maxRecDepth 100000
open Go.RowKit
section
variable {s d:List Pt} {tn td:Int}
abbrev bX (d:List Pt) (tn td:Int) (i j:Nat):Bool:=ld tn td (ndT d i) (ndT d j)
def RX (d:List Pt) (tn td:Int) (i j:Nat):Prop:=bX d tn td i j=true
theorem RX.asym (i j:Nat) (h:RX d tn td i j):¬ RX d tn td j i:=fun k=>by
 unfold RX bX at h k
 rw[qe6 h] at k;cases k
theorem RX.trans {i j k:Nat} (h:RX d tn td i j) (h':RX d tn td j k):RX d tn td i k:=qdz h h'
theorem RX.tot (hd:Val d) {i j:Nat} (hi:i<d.length) (hj:j<d.length) (h:i≠j) (hb:bX d tn td i j=false):RX d tn td j i:=
 qkb (qre hd hi hj (Ne.symm h)) hb
theorem qlD (htn:I64 tn) (htd:I64 td) (ht:okB tn td=true) (hd:Val d) {i j:Nat} (hi:i<d.length) (hj:j<d.length) (h:i≠j) :
 Pure Try.prog 79 #[ptV (ndT d i),ptV (ndT d j),qab tn td] (.tuple #[.bool (bX d tn td i j),iV 0]):=
 qls htn htd (hd.ok _ (List.mem_of_getElem? (qat hi))) (hd.ok _ (List.mem_of_getElem? (qat hj))) ht (qre hd hi hj (Ne.symm h))
abbrev PJn (d:List Pt) (tn td:Int) (N:Nat) (z v:Int) (n:List Pt) (r:Int) (n':List Pt):Prop:=
 FnO Try.prog 62 1 2 [.ag [.ls 1 N,.ls 0 d.length,.pv (iV tn),.pv (iV td)],.pv (iV z),.pv (iV v)] [(0,0,qag d),(1,0,.row 26 3 N (qam n))]
  (.pv (iV r)) 0 [(1,0,.row 26 3 N (qam n'))]
structure JnI (d:List Pt) (N:Nat) (A B:Sh Nat) (n:List Pt):Prop where
 len:n.length=N
 dl:d.length=N
 ra:Rep n (rtI A) A
 rb:Rep n (rtI B) B
 nd:(A.list++B.list).Nodup
theorem qmo {N:Nat} {a r a' r':Sh Nat} {x y:Nat} {n:List Pt} (h:JnI d N (.node a x r) (.node a' y r') n):JnI d N r (.node a' y r') n:=by
 obtain⟨_,p,hp,a1,a2⟩:=h.ra
 obtain⟨nA,nB,nAB⟩:=List.nodup_append.1 h.nd
 obtain⟨_,_,_,o4⟩:=Sh.mid_out nA
 exact⟨h.len,h.dl,by rw[← a2.rt];exact a2,h.rb,List.nodup_append.2 ⟨o4,nB,fun k hk m hm e=>nAB k (List.mem_append_right _ (List.mem_cons_of_mem _ hk)) m hm e⟩⟩
theorem qqp {N:Nat} {a r a' r':Sh Nat} {x y:Nat} {n:List Pt} (h:JnI d N (.node a x r) (.node a' y r') n):JnI d N (.node a x r) a' n:=by
 obtain⟨_,p,hp,a1,a2⟩:=h.rb
 obtain⟨nA,nB,nAB⟩:=List.nodup_append.1 h.nd
 obtain⟨_,_,o3,_⟩:=Sh.mid_out nB
 exact⟨h.len,h.dl,h.ra,by rw[← a1.rt];exact a1,List.nodup_append.2 ⟨nA,o3,fun k hk m hm e=>nAB k hk m (List.mem_append_left _ hm) e⟩⟩
theorem qeo {n:List Pt} {k:Nat} {p:Pt} (h:n[k]?=some p):ndT n k=p:=by
 have:=qat (qak h)
 rw[h] at this
 exact (Option.some.inj this).symm
theorem qoR (htn:I64 tn) (htd:I64 td) (ht:okB tn td=true) (hd:Val d) {N:Nat}:∀ (A B:Sh Nat) (n:List Pt),JnI d N A B n→PJn d tn td N (rtI A) (rtI B) n (rtI (Sh.mrg (bX d tn td) A B)) (jnN (bX d tn td) A B n)
 | .nil,B,n,h=>by rw[jnN,Sh.mrg];exact qrM (h0:=rfl)
 | .node a x r,.nil,n,h=>by rw[jnN,Sh.mrg];exact quG (h0:=beq_eq_false_iff_ne.2 (by show (x:Int)≠-1;omega)) (h1:=rfl)
 | .node a x r,.node a' y r',n,h=>by
  obtain⟨_,p,hp,a1,a2⟩:=h.ra
  obtain⟨_,q,hq,b1,b2⟩:=h.rb
  have hx:=qak hp
  have hy:=qak hq
  have hl:=h.len
  have hdl:=h.dl
  have hxy:x≠y:=fun e=>(List.nodup_append.1 h.nd).2.2 x (List.mem_append_right _ List.mem_cons_self) y (List.mem_append_right _ List.mem_cons_self) e
  have c0:((x:Int)==(-1))=false:=beq_eq_false_iff_ne.2 (by omega)
  have c1:((y:Int)==(-1))=false:=beq_eq_false_iff_ne.2 (by omega)
  have hw:=qlD htn htd ht hd (i:=x) (j:=y) (by omega) (by omega) hxy
  rw[jnN,Sh.mrg]
  by_cases hc:bX d tn td x y=true
  ·rw[if_pos hc,if_pos hc]
   rw[hc] at hw
   have ih:=qoR htn htd ht hd r (.node a' y r') n (qmo h)
   have on:=qbQ (bX d tn td) r (.node a' y r') n
   rw[← a2.rt] at ih
   exact quv (z:=(x:Int)) (v:=(y:Int)) (h0:=c0) (h1:=c1) (hin:=⟨by omega,by omega⟩) (hjn:=⟨by omega,by omega⟩) (hpn:=⟨by omega,by omega⟩) (hqn:=⟨by omega,by omega⟩) (hp:=qat (by omega)) (hq:=qat (by omega)) (hw:=hw) (hk:=hp) (hl:=ih) (hs:=qat (by rw[on.len];omega))
  ·rw[if_neg hc,if_neg hc]
   have hc':bX d tn td x y=false:=by simpa using hc
   rw[hc'] at hw
   have ih:=qoR htn htd ht hd (.node a x r) a' n (qqp h)
   have on:=qbQ (bX d tn td) (.node a x r) a' n
   rw[← b1.rt] at ih
   exact quJ (z:=(x:Int)) (v:=(y:Int)) (h0:=c0) (h1:=c1) (hin:=⟨by omega,by omega⟩) (hjn:=⟨by omega,by omega⟩) (hpn:=⟨by omega,by omega⟩) (hqn:=⟨by omega,by omega⟩) (hp:=qat (by omega)) (hq:=qat (by omega)) (hw:=hw) (hk:=hq) (hl:=ih) (hs:=qat (by rw[on.len];omega))
termination_by A B=>A.size+B.size
decreasing_by all_goals simp[Sh.size];omega
structure OfSh (s:List Pt) (tn td:Int) (T:Sh Nat):Prop where
 ho:T.HO (RX s tn td)
 list:T.list=List.range s.length
theorem qja (hs:Val s):∃ T,OfSh s tn td T:=by
 obtain⟨T,h1,h2⟩:=Sh.ho_ex (R:=RX s tn td) s.length (List.range s.length) (by rw[List.length_range];exact Nat.le_refl _) List.nodup_range (fun a ha b hb hne=>by
  by_cases h:bX s tn td a b=true
  ·exact Or.inl h
  ·exact Or.inr (RX.tot hs (List.mem_range.1 ha) (List.mem_range.1 hb) hne (by simpa using h))) (fun a _ b _ c _ h k=>h.trans k)
 exact⟨T,h1,h2⟩
theorem OfSh.uniq {T T':Sh Nat} (h:OfSh s tn td T) (h':OfSh s tn td T'):T=T':=Sh.HO.uniq RX.asym h.ho h'.ho (h.list.trans h'.list.symm) (by rw[h.list];exact List.nodup_range)
def qgc (s:List Pt) (z:Int):List Pt:=s.map fun p=>⟨p.id,z,z⟩
theorem qcd (z:Int):(qgc s z).length=s.length:=List.length_map ..
theorem qkX (z:Int) {k:Nat} (h:k<s.length):(qgc s z)[k]?=some ⟨(ndT s k).id,z,z⟩:=by unfold qgc;rw[List.getElem?_map,qat h];rfl
theorem qks (z:Int) {k:Nat} (h:k<s.length):idN (qgc s z) k=idN s k:=by rw[qaz (qkX z h),qaz (qat h)]
def ofN (s:List Pt) (T:Sh Nat):List Pt:=grN T (qgc s 0)
theorem qc9 (T:Sh Nat):(ofN s T).length=s.length:=by unfold ofN;rw[(qbB T _).len,qcd]
theorem qhz (T:Sh Nat) {k:Nat} (h:k<s.length):idN (ofN s T) k=idN s k:=by unfold ofN;rw[(qbB T _).id,qks 0 h]
theorem qnR (hs:Val s) {i j:Nat} (h:i<j) (hj:j<s.length):idN s i<idN s j:=by
 rw[qaz (qat (show i<s.length by omega)),qaz (qat hj)]
 exact hs.up.mono h (qat (by omega)) (qat hj)
theorem qsg {n:List Pt} (hs:Val s) (hl:n.length=s.length) (hi:∀ k,k<s.length→idN n k=idN s k):Up n:=fun k p q hp hq=>by
 have h2:=qak hq
 have:=qnR hs (i:=k) (j:=k+1) (by omega) (by omega)
 rw[← hi k (by omega),← hi (k+1) (by omega),qaz hp,qaz hq] at this
 exact this
theorem qkW {T:Sh Nat} {n:List Pt} (hs:Val s) (hT:T.list=List.range s.length) (hr:Rep n (rtI T) T) (hl:n.length=s.length) (hi:∀ k,k<s.length→idN n k=idN s k):Fits ⟨rtI T,n⟩ T:=by
 refine⟨hr,by rw[hT,List.length_range];exact hl.symm,?_⟩
 rw[hT,List.pairwise_map]
 refine List.pairwise_lt_range.imp_of_mem fun ha hb h=>?_
 show idN n _<idN n _
 rw[hi _ (List.mem_range.1 ha),hi _ (List.mem_range.1 hb)]
 exact qnR hs h (List.mem_range.1 hb)
theorem qdA (hs:Val s) {T:Sh Nat} (h:OfSh s tn td T):Fits ⟨rtI T,ofN s T⟩ T∧Up (ofN s T):=
 ⟨qkW hs h.list (by unfold ofN;exact qgT T _ (by rw[h.list];exact List.nodup_range) fun k hk=>by rw[h.list] at hk;rw[qcd];exact List.mem_range.1 hk) (qc9 T) fun k hk=>qhz T hk,qsg hs (qc9 T) fun k hk=>qhz T hk⟩
theorem qnA (hs:Val s) {T:Sh Nat} (h:OfSh s tn td T) {n:List Pt} (hr:Rep n (rtI T) T) (hl:n.length=s.length) (hi:∀ k,k<s.length→idN n k=idN s k):n=ofN s T:=by
 have f1:=qkW hs h.list hr hl hi
 obtain⟨f2,u2⟩:=qdA hs h
 refine (f1.ext f2 (qsg hs hl hi) u2 ?_).2
 show T.map (idN n)=T.map (idN (ofN s T))
 have:∀ S:Sh Nat,(∀ k∈S.list,k<s.length)→S.map (idN n)=S.map (idN (ofN s T)):=by
  intro S
  induction S with
  | nil=>intro _;rfl
  | node a k b iha ihb=>
   intro hk
   have e:=hk k (List.mem_append_right _ List.mem_cons_self)
   show Sh.node (a.map _) (idN n k) (b.map _)=Sh.node (a.map _) (idN (ofN s T) k) (b.map _)
   rw[iha fun j hj=>hk j (List.mem_append_left _ hj),ihb fun j hj=>hk j (List.mem_append_right _ (List.mem_cons_of_mem _ hj)),hi k e,qhz T e]
 exact this T fun k hk=>by rw[h.list] at hk;exact List.mem_range.1 hk
end
end Go.Proofs.Ytalnjplghagbpaa

namespace Go.Proofs.Ytalnjplghagbpaa
set_option maxRecDepth 100000
open Go.RowKit
theorem qgo {l r:List Nat} {k lo m:Nat} (h:l++k::r=List.range' lo m):l=List.range' lo l.length∧k=lo+l.length∧r=List.range' (k+1) (m-l.length-1)∧l.length<m:=by
 obtain⟨j,hj,h1,h2⟩:=List.range'_eq_append_iff.1 h.symm
 have hl:l.length=j:=by rw[h1,List.length_range']
 obtain⟨h3,h4,h5⟩:=List.range'_eq_cons_iff.1 h2.symm
 subst hl
 exact⟨h1,by omega,by rw[h5],by omega⟩
section
variable {s:List Pt} {tn td:Int}
abbrev qrC (b n:Nat) (c:List Pt):Nat×Nat×SV:=(b,0,.row 26 3 n (qam c))
theorem qoL {rt:Int} (htn:I64 tn) (htd:I64 td) (hs:Val s):∀ (T:Sh Nat) (lo hi:Nat) (n:List Pt),T.HO (RX s tn td)→T.list=List.range' lo (hi-lo)→lo≤hi→hi≤s.length→n.length=s.length→
 FnO Try.prog 94 1 2 [qas 0 s,.pv (qab tn td),.ag [.pv (iV rt),.ls 1 s.length],.pv (iV (lo:Int)),.pv (iV (hi:Int))] [(0,0,qag s),qrC 1 s.length n] (.pv (iV (rtI T))) 0 [qrC 1 s.length (grN T n)]
 | .nil,lo,hi,n,_,hl,h1,h2,_=>by
  have h0:hi≤lo:=by
   have:=congrArg List.length hl
   rw[List.length_range'] at this
   have e:(Sh.nil:Sh Nat).list.length=0:=rfl
   omega
  exact qmE (ht:=qvt htn htd hs h2 (y:=-1) (Or.inl ⟨h0,rfl⟩)) (h0:=by decide)
 | .node a k b,lo,hi,n,⟨o1,o2,o3,o4⟩,hl,h1,h2,hn=>by
  have hsl:=hs.len
  obtain⟨r1,r2,r3,r4⟩:=qgo (l:=a.list) (r:=b.list) hl
  have hbest:BestI s tn td lo hi (k:Int):=Or.inr ⟨k,rfl,by omega,by omega,fun j j1 j2 j3=>by
   have hm:j∈(Sh.node a k b).list:=by rw[hl];exact List.mem_range'_1.2 ⟨j1,by omega⟩
   rcases List.mem_append.1 hm with hm | hm
   ·exact o1 j hm
   ·rcases List.mem_cons.1 hm with hm | hm
    ·exact (j3 hm).elim
    ·exact o2 j hm⟩
  have q1:=qbB a n
  have q2:=qd4 (n:=grN a n) (k:=k) (rtI a) (l:=[k]) List.mem_cons_self
  have q3:=qbB b (stA (grN a n) k (rtI a))
  have e1:(grN a n).length=s.length:=q1.len.trans hn
  have e2:(stA (grN a n) k (rtI a)).length=s.length:=q2.len.trans e1
  have e3:(grN b (stA (grN a n) k (rtI a))).length=s.length:=q3.len.trans e2
  have ihl:=qoL (rt:=rt) htn htd hs a lo k n o3 (by rw[r1];congr 1;omega) (by omega) (by omega) hn
  have ihr:=qoL (rt:=rt) htn htd hs b (k+1) hi (stA (grN a n) k (rtI a)) o4 (by rw[r3];congr 1;omega) (by omega) h2 e2
  exact qlG (z:=(k:Int)) (ht:=qvt htn htd hs h2 hbest) (h0:=dt (by omega)) (hl:=ihl) (hin:=⟨by omega,by omega⟩) (hp1:=qat (by omega)) (hs:=qah (by omega)) (hr:=ihr) (hq1:=qat (k:=k) (by omega))
theorem qfO (z:Int) {k:Nat} {p:Pt} (h:s[k]?=some p):qam ((qgc s z).take (k+1))=qam ((qgc s z).take k)++[iV p.id,iV z,iV z]:=by
 have:(qgc s z)[k]?=some ⟨p.id,z,z⟩:=by unfold qgc;rw[List.getElem?_map,h];rfl
 rw[qbg this,qgE]
theorem qru (htn:I64 tn) (htd:I64 td) (hs:Val s) {T:Sh Nat} (hT:OfSh s tn td T):Fn 65 1 [qas 0 s,.pv (qab tn td)] [(0,0,qag s)] (trS 1 (rtI T) (ofN s T)) 1 [(1,0,qaa (ofN s T))]:=by
 have hsl:=hs.len
 have loop:=RunsL.roundsZ (fun j=>[(2,.pp 1 0),(3,.pp 2 0),(4,.pp 3 0),(5,.pp 4 0),(6,.pv (iV (j:Int)))])
  (fun j=>[(1,0,.ls 0 s.length),(2,0,.pv (iV tn)),(2,1,.pv (iV td)),(3,0,.pv (iV 0)),(3,1,.pv (.slice none 0 0)),(4,0,.pv (iV 0)),(4,1,.ls 5 j),(0,0,qag s),(5,0,.row 26 3 j (qam ((qgc s 0).take j)))]) (N:=s.length) s.length 0 (Nat.zero_add _) (fun j _ hj r=>by
   obtain⟨p,hp⟩:=qao hj
   rw[qfO 0 hp] at r
   exact qmP (hlt:=dt (by omega)) (hk:=hp) (hin:=⟨by omega,by omega⟩) (hn:=by omega) (hs:=qah (by omega)) r)
  (qoQ (tn:=tn) (td:=td) (s:=s) (n:=s.length) (k:=s.length) (vs:=qam ((qgc s 0).take s.length)) (hlt:=df (by omega)))
 rw[List.take_of_length_le (Nat.le_of_eq (qcd 0))] at loop
 have hg:=qoL (rt:=0) htn htd hs T 0 s.length (qgc s 0) hT.ho (by rw[hT.list,List.range_eq_range',Nat.sub_zero]) (Nat.zero_le _) (Nat.le_refl _) (qcd 0)
 have:=qmG (r0:=loop) (hg:=hg)
 have e:=qc9 (s:=s) T
 rw[trS,qaa,e]
 exact this
def gS (s:List Pt) (tn td:Int):Nat→Sh Nat
 | 0=>.nil
 | k+1=>Sh.mrg (bX s tn td) (gS s tn td k) (.node .nil k .nil)
def gN (s:List Pt) (tn td:Int):Nat→List Pt
 | 0=>qgc s (-1)
 | k+1=>jnN (bX s tn td) (gS s tn td k) (.node .nil k .nil) (gN s tn td k)
theorem qdO:∀ k,(gS s tn td k).list=List.range k
 | 0=>rfl
 | k+1=>by
  unfold gS
  rw[Sh.mrg_list,qdO k,List.range_succ]
  rfl
theorem qgX:∀ k,k≤s.length→(gN s tn td k).length=s.length∧(∀ j,j<s.length→idN (gN s tn td k) j=idN s j)∧(∀ j,k≤j→j<s.length→(gN s tn td k)[j]?=some ⟨(ndT s j).id,-1,-1⟩)∧Rep (gN s tn td k) (rtI (gS s tn td k)) (gS s tn td k)
 | 0,_=>⟨qcd _,fun j hj=>qks _ hj,fun j _ hj=>qkX _ hj,rfl⟩
 | k+1,h=>by
  obtain⟨a1,a2,a3,a4⟩:=qgX k (by omega)
  have hk:=a3 k (Nat.le_refl _) (by omega)
  have on:=qbQ (bX s tn td) (gS s tn td k) (.node .nil k .nil) (gN s tn td k)
  have hl:(gS s tn td k).list++(Sh.node .nil k .nil:Sh Nat).list=List.range (k+1):=by rw[qdO,List.range_succ];rfl
  refine⟨on.len.trans a1,fun j hj=>(on.id j).trans (a2 j hj),fun j j1 j2=>?_,?_⟩
  ·show (jnN _ _ _ _)[j]?=_
   rw[on.oth j (by rw[hl,List.mem_range];omega)]
   exact a3 j (by omega) j2
  ·exact qgI (bX s tn td) (gS s tn td k) (.node .nil k .nil) (gN s tn td k) a4 ⟨rfl,_,hk,rfl,rfl⟩ (by rw[hl];exact List.nodup_range)
theorem qrW (hs:Val s):∀ k,k≤s.length→(gS s tn td k).HO (RX s tn td)
 | 0,_=>trivial
 | k+1,h=>by
  refine Sh.mrg_ho (fun x y e=>e) (qrW hs k (by omega)) ⟨fun y hy=>(by cases hy),fun y hy=>(by cases hy),trivial,trivial⟩ (fun x hx y hy e=>?_) (fun x _ y _ z _ (a:RX s tn td x y) (b:RX s tn td y z)=>RX.trans a b)
  rw[qdO,List.mem_range] at hx
  have hy':y=k:=by simpa [Sh.list] using hy
  subst hy'
  exact RX.tot hs (by omega) (by omega) (by omega) e
theorem quQ (hs:Val s) {T:Sh Nat} (h:OfSh s tn td T):gS s tn td s.length=T∧gN s tn td s.length=ofN s T:=by
 have e:gS s tn td s.length=T:=OfSh.uniq ⟨qrW hs _ (Nat.le_refl _),qdO _⟩ h
 obtain⟨a1,a2,_,a4⟩:=qgX (s:=s) (tn:=tn) (td:=td) s.length (Nat.le_refl _)
 rw[e] at a4
 exact⟨e,qnA hs h a4 a1 a2⟩
theorem qo0 {k:Nat} (h:k<s.length):JnI s s.length (gS s tn td k) (.node .nil k .nil) (gN s tn td k):=by
 obtain⟨a1,a2,a3,a4⟩:=qgX (s:=s) (tn:=tn) (td:=td) k (by omega)
 refine⟨a1,rfl,a4,⟨rfl,_,a3 k (Nat.le_refl _) h,rfl,rfl⟩,?_⟩
 rw[qdO]
 show (List.range k++[k]).Nodup
 rw[← List.range_succ]
 exact List.nodup_range
theorem qrR (htn:I64 tn) (htd:I64 td) (ht:okB tn td=true) (hs:Val s) {T:Sh Nat} (hT:OfSh s tn td T):Fn 51 1 [qas 0 s,.pv (qab tn td)] [(0,0,qag s)] (trS 1 (rtI T) (ofN s T)) 1 [(1,0,qaa (ofN s T))]:=by
 have hsl:=hs.len
 have loop:=RunsL.roundsZ (fun j=>[(2,.pp 1 0),(3,.pp 2 0),(4,.pp 3 0),(5,.pp 4 0),(12,.ls 0 s.length),(13,.pv (iV (s.length:Int))),(14,.pv (iV (j:Int)))])
  (fun j=>[(1,0,.ls 0 s.length),(2,0,.pv (iV tn)),(2,1,.pv (iV td)),(3,0,.pv (iV 0)),(3,1,.pv (.slice none 0 0)),(4,0,.pv (iV (-1))),(4,1,.ls 5 j),(0,0,qag s),(5,0,.row 26 3 j (qam ((qgc s (-1)).take j)))]) (N:=s.length) s.length 0 (Nat.zero_add _) (fun j _ hj r=>by
   obtain⟨p,hp⟩:=qao hj
   rw[qfO (-1) hp] at r
   exact qlE (hlt:=dt (by omega)) (hin:=⟨by omega,by omega⟩) (hk:=hp) (hn:=by omega) (hs:=qah (by omega)) r)
  (qpg (tn:=tn) (td:=td) (s:=s) (n:=s.length) (k:=s.length) (vs:=qam ((qgc s (-1)).take s.length)) (hlt:=df (by omega)))
 rw[List.take_of_length_le (Nat.le_of_eq (qcd (-1)))] at loop
 have loop2:=RunsL.roundsZ (fun j=>[(4,.pp 3 0),(5,.pp 4 0),(8,.pp 6 0),(35,.pv (iV (s.length:Int))),(36,.pv (iV (j:Int)))])
  (fun j=>[(3,0,.pv (iV 0)),(3,1,.pv (.slice none 0 0)),(4,0,.pv (iV (rtI (gS s tn td j)))),(4,1,.ls 5 s.length),(6,0,.ls 5 s.length),(6,1,.ls 0 s.length),(6,2,.pv (iV tn)),(6,3,.pv (iV td)),(0,0,qag s),(5,0,.row 26 3 s.length (qam (gN s tn td j)))]) (N:=s.length) s.length 0 (Nat.zero_add _) (fun j _ hj r=>
   qjE (hlt:=dt (by omega)) (hj:=qoR htn htd ht hs (gS s tn td j) (.node .nil j .nil) (gN s tn td j) (qo0 hj)) (hs:=qah (by omega)) r)
  (qnC (tn:=tn) (td:=td) (s:=s) (n:=s.length) (k:=s.length) (z:=rtI (gS s tn td s.length)) (vs:=qam (gN s tn td s.length)) (hlt:=df (by omega)))
 obtain⟨g1,g2⟩:=quQ hs hT
 rw[g1,g2,show rtI (gS s tn td 0) = -1 from rfl,show gN s tn td 0=qgc s (-1) from rfl] at loop2
 have:=qs5 (r0:=loop) (rr1:=loop2)
 have e:=qc9 (s:=s) T
 rw[trS,qaa,e]
 exact this
theorem qku (htn:I64 tn) (htd:I64 td) (s:List Pt):∃ (r:Int) (n:List Pt),n.length≤s.length∧(tE s tn td=0→∀ T,OfSh s tn td T→r=rtI T∧n=ofN s T)∧
 Fn 18 1 [qas 0 s,.pv (qab tn td)] [(0,0,qag s)] (.tu [.ag [.pv (iV r),.ls 1 n.length],.one (.pv (iV (tE s tn td)))]) 1 [(1,0,qaa n)]∧
 Fn 29 1 [qas 0 s,.pv (qab tn td)] [(0,0,qag s)] (.tu [.ag [.pv (iV r),.ls 1 n.length],.one (.pv (iV (tE s tn td)))]) 1 [(1,0,qaa n)]:=by
 have hR:=qf8 htn htd s
 have hP:=qbq s
 by_cases h0:qec s=0
 ·have hs:=qcY.1 h0
  by_cases ht:okB tn td=true
  ·obtain⟨T,hT⟩:=qja (tn:=tn) (td:=td) hs
   rw[qiN hs ht] at hR ⊢
   rw[h0] at hP
   exact⟨rtI T,ofN s T,Nat.le_of_eq (qc9 T),fun _ T' hT'=>by rw[hT.uniq hT'];exact⟨rfl,rfl⟩,qqZ (h1:=hP) (h2:=qca htn htd ht) (hg:=qrR htn htd ht hs hT),qpr (ht:=hR) (hte:=eq0 rfl) (hm:=qru htn htd hs hT)⟩
  ·have e:tE s tn td=8:=by unfold tE;rw[if_pos h0,if_neg ht]
   rw[e] at hR ⊢
   rw[h0] at hP
   exact⟨0,[],Nat.zero_le _,fun h=>(by cases h),qif (qsO (h1:=hP) (h2:=qb0 htn htd ht) (he:=by decide)),qif (qld (ht:=hR) (hte:=by decide))⟩
 ·have e:tE s tn td=qec s:=by unfold tE;rw[if_neg h0]
  rw[e] at hR ⊢
  by_cases ht:okB tn td=true
  ·exact⟨0,[],Nat.zero_le _,fun h=>(h0 h).elim,qif (qpn (h1:=hP) (h2:=qca htn htd ht) (he:=ne0 h0)),qif (qld (ht:=hR) (hte:=ne0 h0))⟩
  ·exact⟨0,[],Nat.zero_le _,fun h=>(h0 h).elim,qif (qpn (h1:=hP) (h2:=qb0 htn htd ht) (he:=ne0 h0)),qif (qld (ht:=hR) (hte:=ne0 h0))⟩
end
end Go.Proofs.Ytalnjplghagbpaa
