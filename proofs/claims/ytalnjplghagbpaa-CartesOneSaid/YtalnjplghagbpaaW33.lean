/-
  Joined: Ef, Eg. Conditions: none.
-/
import Derived.Test.YtalnjplghagbpaaW32
import Derived.Test.YtalnjplghagbpaaW28
import Derived.Test.YtalnjplghagbpaaW19
import Derived.Test.YtalnjplghagbpaaW24
namespace Go.Proofs.Ytalnjplghagbpaa
set_option maxRecDepth 100000
open Go.RowKit
section
variable {s d:List Pt} {tn td:Int}
abbrev bX (d:List Pt) (tn td:Int) (i j:Nat):Bool:=ld tn td (ndT d i) (ndT d j)
def RX (d:List Pt) (tn td:Int) (i j:Nat):Prop:=bX d tn td i j=true
theorem RX.asym (i j:Nat) (h:RX d tn td i j):¬ RX d tn td j i:=fun k=>by
 unfold RX bX at h k
 rw[qeH h] at k;cases k
theorem RX.trans {i j k:Nat} (h:RX d tn td i j) (h':RX d tn td j k):RX d tn td i k:=qdf h h'
theorem RX.tot (hd:Val d) {i j:Nat} (hi:i<d.length) (hj:j<d.length) (h:i≠j) (hb:bX d tn td i j=false):RX d tn td j i:=
 qj0 (qso hd hi hj (Ne.symm h)) hb
theorem qlQ (htn:I64 tn) (htd:I64 td) (ht:okB tn td=true) (hd:Val d) {i j:Nat} (hi:i<d.length) (hj:j<d.length) (h:i≠j) :
 Pure Try.prog 79 #[ptV (ndT d i),ptV (ndT d j),qaa tn td] (.tuple #[.bool (bX d tn td i j),iV 0]):=
 qg2 htn htd (hd.ok _ (List.mem_of_getElem? (qal hi))) (hd.ok _ (List.mem_of_getElem? (qal hj))) ht (qso hd hi hj (Ne.symm h))
abbrev PJn (d:List Pt) (tn td:Int) (N:Nat) (z v:Int) (n:List Pt) (r:Int) (n':List Pt):Prop:=
 FnO Try.prog 62 1 2 [.ag [.ls 1 N,.ls 0 d.length,.pv (iV tn),.pv (iV td)],.pv (iV z),.pv (iV v)] [(0,0,qag d),(1,0,.row 26 3 N (qao n))]
  (.pv (iV r)) 0 [(1,0,.row 26 3 N (qao n'))]
structure JnI (d:List Pt) (N:Nat) (A B:Sh Nat) (n:List Pt):Prop where
 len:n.length=N
 dl:d.length=N
 ra:Rep n (rtI A) A
 rb:Rep n (rtI B) B
 nd:(A.list++B.list).Nodup
theorem qm5 {N:Nat} {a r a' r':Sh Nat} {x y:Nat} {n:List Pt} (h:JnI d N (.node a x r) (.node a' y r') n):JnI d N r (.node a' y r') n:=by
 obtain⟨_,p,hp,a1,a2⟩:=h.ra
 obtain⟨nA,nB,nAB⟩:=List.nodup_append.1 h.nd
 obtain⟨_,_,_,o4⟩:=Sh.mid_out nA
 exact⟨h.len,h.dl,by rw[← a2.rt];exact a2,h.rb,List.nodup_append.2 ⟨o4,nB,fun k hk m hm e=>nAB k (List.mem_append_right _ (List.mem_cons_of_mem _ hk)) m hm e⟩⟩
theorem qn6 {N:Nat} {a r a' r':Sh Nat} {x y:Nat} {n:List Pt} (h:JnI d N (.node a x r) (.node a' y r') n):JnI d N (.node a x r) a' n:=by
 obtain⟨_,p,hp,a1,a2⟩:=h.rb
 obtain⟨nA,nB,nAB⟩:=List.nodup_append.1 h.nd
 obtain⟨_,_,o3,_⟩:=Sh.mid_out nB
 exact⟨h.len,h.dl,h.ra,by rw[← a1.rt];exact a1,List.nodup_append.2 ⟨nA,o3,fun k hk m hm e=>nAB k hk m (List.mem_append_left _ hm) e⟩⟩
theorem qd0 {n:List Pt} {k:Nat} {p:Pt} (h:n[k]?=some p):ndT n k=p:=by
 have:=qal (qam h)
 rw[h] at this
 exact (Option.some.inj this).symm
theorem qoG (htn:I64 tn) (htd:I64 td) (ht:okB tn td=true) (hd:Val d) {N:Nat}:∀ (A B:Sh Nat) (n:List Pt),JnI d N A B n→PJn d tn td N (rtI A) (rtI B) n (rtI (Sh.mrg (bX d tn td) A B)) (jnN (bX d tn td) A B n)
 | .nil,B,n,h=>by rw[jnN,Sh.mrg];exact qtq (h0:=rfl)
 | .node a x r,.nil,n,h=>by rw[jnN,Sh.mrg];exact qul (h0:=beq_eq_false_iff_ne.2 (by show (x:Int)≠-1;omega)) (h1:=rfl)
 | .node a x r,.node a' y r',n,h=>by
  obtain⟨_,p,hp,a1,a2⟩:=h.ra
  obtain⟨_,q,hq,b1,b2⟩:=h.rb
  have hx:=qam hp
  have hy:=qam hq
  have hl:=h.len
  have hdl:=h.dl
  have hxy:x≠y:=fun e=>(List.nodup_append.1 h.nd).2.2 x (List.mem_append_right _ List.mem_cons_self) y (List.mem_append_right _ List.mem_cons_self) e
  have c0:((x:Int)==(-1))=false:=beq_eq_false_iff_ne.2 (by omega)
  have c1:((y:Int)==(-1))=false:=beq_eq_false_iff_ne.2 (by omega)
  have hw:=qlQ htn htd ht hd (i:=x) (j:=y) (by omega) (by omega) hxy
  rw[jnN,Sh.mrg]
  by_cases hc:bX d tn td x y=true
  ·rw[if_pos hc,if_pos hc]
   rw[hc] at hw
   have ih:=qoG htn htd ht hd r (.node a' y r') n (qm5 h)
   have on:=qbK (bX d tn td) r (.node a' y r') n
   rw[← a2.rt] at ih
   exact qtL (z:=(x:Int)) (v:=(y:Int)) (h0:=c0) (h1:=c1) (hin:=⟨by omega,by omega⟩) (hjn:=⟨by omega,by omega⟩) (hpn:=⟨by omega,by omega⟩) (hqn:=⟨by omega,by omega⟩) (hp:=qal (by omega)) (hq:=qal (by omega)) (hw:=hw) (hk:=hp) (hl:=ih) (hs:=qal (by rw[on.len];omega))
  ·rw[if_neg hc,if_neg hc]
   have hc':bX d tn td x y=false:=by simpa using hc
   rw[hc'] at hw
   have ih:=qoG htn htd ht hd (.node a x r) a' n (qn6 h)
   have on:=qbK (bX d tn td) (.node a x r) a' n
   rw[← b1.rt] at ih
   exact qtu (z:=(x:Int)) (v:=(y:Int)) (h0:=c0) (h1:=c1) (hin:=⟨by omega,by omega⟩) (hjn:=⟨by omega,by omega⟩) (hpn:=⟨by omega,by omega⟩) (hqn:=⟨by omega,by omega⟩) (hp:=qal (by omega)) (hq:=qal (by omega)) (hw:=hw) (hk:=hq) (hl:=ih) (hs:=qal (by rw[on.len];omega))
termination_by A B=>A.size+B.size
decreasing_by all_goals simp[Sh.size];omega
structure OfSh (s:List Pt) (tn td:Int) (T:Sh Nat):Prop where
 ho:T.HO (RX s tn td)
 list:T.list=List.range s.length
theorem qgb (hs:Val s):∃ T,OfSh s tn td T:=by
 obtain⟨T,h1,h2⟩:=Sh.ho_ex (R:=RX s tn td) s.length (List.range s.length) (by rw[List.length_range];exact Nat.le_refl _) List.nodup_range (fun a ha b hb hne=>by
  by_cases h:bX s tn td a b=true
  ·exact Or.inl h
  ·exact Or.inr (RX.tot hs (List.mem_range.1 ha) (List.mem_range.1 hb) hne (by simpa using h))) (fun a _ b _ c _ h k=>h.trans k)
 exact⟨T,h1,h2⟩
theorem OfSh.uniq {T T':Sh Nat} (h:OfSh s tn td T) (h':OfSh s tn td T'):T=T':=Sh.HO.uniq RX.asym h.ho h'.ho (h.list.trans h'.list.symm) (by rw[h.list];exact List.nodup_range)
def qfN (s:List Pt) (z:Int):List Pt:=s.map fun p=>⟨p.id,z,z⟩
theorem qb5 (z:Int):(qfN s z).length=s.length:=List.length_map ..
theorem qi8 (z:Int) {k:Nat} (h:k<s.length):(qfN s z)[k]?=some ⟨(ndT s k).id,z,z⟩:=by unfold qfN;rw[List.getElem?_map,qal h];rfl
theorem qiY (z:Int) {k:Nat} (h:k<s.length):idN (qfN s z) k=idN s k:=by rw[qav (qi8 z h),qav (qal h)]
def ofN (s:List Pt) (T:Sh Nat):List Pt:=grN T (qfN s 0)
theorem qcg (T:Sh Nat):(ofN s T).length=s.length:=by unfold ofN;rw[(qby T _).len,qb5]
theorem qe2 (T:Sh Nat) {k:Nat} (h:k<s.length):idN (ofN s T) k=idN s k:=by unfold ofN;rw[(qby T _).id,qiY 0 h]
theorem qnz (hs:Val s) {i j:Nat} (h:i<j) (hj:j<s.length):idN s i<idN s j:=by
 rw[qav (qal (show i<s.length by omega)),qav (qal hj)]
 exact hs.up.mono h (qal (by omega)) (qal hj)
theorem qqJ {n:List Pt} (hs:Val s) (hl:n.length=s.length) (hi:∀ k,k<s.length→idN n k=idN s k):Up n:=fun k p q hp hq=>by
 have h2:=qam hq
 have:=qnz hs (i:=k) (j:=k+1) (by omega) (by omega)
 rw[← hi k (by omega),← hi (k+1) (by omega),qav hp,qav hq] at this
 exact this
theorem qke {T:Sh Nat} {n:List Pt} (hs:Val s) (hT:T.list=List.range s.length) (hr:Rep n (rtI T) T) (hl:n.length=s.length) (hi:∀ k,k<s.length→idN n k=idN s k):Fits ⟨rtI T,n⟩ T:=by
 refine⟨hr,by rw[hT,List.length_range];exact hl.symm,?_⟩
 rw[hT,List.pairwise_map]
 refine List.pairwise_lt_range.imp_of_mem fun ha hb h=>?_
 show idN n _<idN n _
 rw[hi _ (List.mem_range.1 ha),hi _ (List.mem_range.1 hb)]
 exact qnz hs h (List.mem_range.1 hb)
theorem qcz (hs:Val s) {T:Sh Nat} (h:OfSh s tn td T):Fits ⟨rtI T,ofN s T⟩ T∧Up (ofN s T):=
 ⟨qke hs h.list (by unfold ofN;exact qgq T _ (by rw[h.list];exact List.nodup_range) fun k hk=>by rw[h.list] at hk;rw[qb5];exact List.mem_range.1 hk) (qcg T) fun k hk=>qe2 T hk,qqJ hs (qcg T) fun k hk=>qe2 T hk⟩
theorem qlG (hs:Val s) {T:Sh Nat} (h:OfSh s tn td T) {n:List Pt} (hr:Rep n (rtI T) T) (hl:n.length=s.length) (hi:∀ k,k<s.length→idN n k=idN s k):n=ofN s T:=by
 have f1:=qke hs h.list hr hl hi
 obtain⟨f2,u2⟩:=qcz hs h
 refine (f1.ext f2 (qqJ hs hl hi) u2 ?_).2
 show T.map (idN n)=T.map (idN (ofN s T))
 have:∀ S:Sh Nat,(∀ k∈S.list,k<s.length)→S.map (idN n)=S.map (idN (ofN s T)):=by
  intro S
  induction S with
  | nil=>intro _;rfl
  | node a k b iha ihb=>
   intro hk
   have e:=hk k (List.mem_append_right _ List.mem_cons_self)
   show Sh.node (a.map _) (idN n k) (b.map _)=Sh.node (a.map _) (idN (ofN s T) k) (b.map _)
   rw[iha fun j hj=>hk j (List.mem_append_left _ hj),ihb fun j hj=>hk j (List.mem_append_right _ (List.mem_cons_of_mem _ hj)),hi k e,qe2 T e]
 exact this T fun k hk=>by rw[h.list] at hk;exact List.mem_range.1 hk
end
end Go.Proofs.Ytalnjplghagbpaa

namespace Go.Proofs.Ytalnjplghagbpaa
set_option maxRecDepth 100000
open Go.RowKit
theorem qgs {l r:List Nat} {k lo m:Nat} (h:l++k::r=List.range' lo m):l=List.range' lo l.length∧k=lo+l.length∧r=List.range' (k+1) (m-l.length-1)∧l.length<m:=by
 obtain⟨j,hj,h1,h2⟩:=List.range'_eq_append_iff.1 h.symm
 have hl:l.length=j:=by rw[h1,List.length_range']
 obtain⟨h3,h4,h5⟩:=List.range'_eq_cons_iff.1 h2.symm
 subst hl
 exact⟨h1,by omega,by rw[h5],by omega⟩
section
variable {s:List Pt} {tn td:Int}
abbrev qsD (b n:Nat) (c:List Pt):Nat×Nat×SV:=(b,0,.row 26 3 n (qao c))
theorem qoU {rt:Int} (htn:I64 tn) (htd:I64 td) (hs:Val s):∀ (T:Sh Nat) (lo hi:Nat) (n:List Pt),T.HO (RX s tn td)→T.list=List.range' lo (hi-lo)→lo≤hi→hi≤s.length→n.length=s.length→
 FnO Try.prog 94 1 2 [qax 0 s,.pv (qaa tn td),.ag [.pv (iV rt),.ls 1 s.length],.pv (iV (lo:Int)),.pv (iV (hi:Int))] [(0,0,qag s),qsD 1 s.length n] (.pv (iV (rtI T))) 0 [qsD 1 s.length (grN T n)]
 | .nil,lo,hi,n,_,hl,h1,h2,_=>by
  have h0:hi≤lo:=by
   have:=congrArg List.length hl
   rw[List.length_range'] at this
   have e:(Sh.nil:Sh Nat).list.length=0:=rfl
   omega
  exact qlB (ht:=quB htn htd hs h2 (y:=-1) (Or.inl ⟨h0,rfl⟩)) (h0:=by decide)
 | .node a k b,lo,hi,n,⟨o1,o2,o3,o4⟩,hl,h1,h2,hn=>by
  have hsl:=hs.len
  obtain⟨r1,r2,r3,r4⟩:=qgs (l:=a.list) (r:=b.list) hl
  have hbest:BestI s tn td lo hi (k:Int):=Or.inr ⟨k,rfl,by omega,by omega,fun j j1 j2 j3=>by
   have hm:j∈(Sh.node a k b).list:=by rw[hl];exact List.mem_range'_1.2 ⟨j1,by omega⟩
   rcases List.mem_append.1 hm with hm | hm
   ·exact o1 j hm
   ·rcases List.mem_cons.1 hm with hm | hm
    ·exact (j3 hm).elim
    ·exact o2 j hm⟩
  have q1:=qby a n
  have q2:=qdO (n:=grN a n) (k:=k) (rtI a) (l:=[k]) List.mem_cons_self
  have q3:=qby b (stA (grN a n) k (rtI a))
  have e1:(grN a n).length=s.length:=q1.len.trans hn
  have e2:(stA (grN a n) k (rtI a)).length=s.length:=q2.len.trans e1
  have e3:(grN b (stA (grN a n) k (rtI a))).length=s.length:=q3.len.trans e2
  have ihl:=qoU (rt:=rt) htn htd hs a lo k n o3 (by rw[r1];congr 1;omega) (by omega) (by omega) hn
  have ihr:=qoU (rt:=rt) htn htd hs b (k+1) hi (stA (grN a n) k (rtI a)) o4 (by rw[r3];congr 1;omega) (by omega) h2 e2
  exact qm4 (z:=(k:Int)) (ht:=quB htn htd hs h2 hbest) (h0:=dt (by omega)) (hl:=ihl) (hin:=⟨by omega,by omega⟩) (hp1:=qal (by omega)) (hs:=qah (by omega)) (hr:=ihr) (hq1:=qal (k:=k) (by omega))
theorem qfr (z:Int) {k:Nat} {p:Pt} (h:s[k]?=some p):qao ((qfN s z).take (k+1))=qao ((qfN s z).take k)++[iV p.id,iV z,iV z]:=by
 have:(qfN s z)[k]?=some ⟨p.id,z,z⟩:=by unfold qfN;rw[List.getElem?_map,h];rfl
 rw[qbW this,qgc]
theorem qrJ (htn:I64 tn) (htd:I64 td) (hs:Val s) {T:Sh Nat} (hT:OfSh s tn td T):Fn 65 1 [qax 0 s,.pv (qaa tn td)] [(0,0,qag s)] (trS 1 (rtI T) (ofN s T)) 1 [(1,0,qab (ofN s T))]:=by
 have hsl:=hs.len
 have loop:=RunsL.roundsZ (fun j=>[(2,.pp 1 0),(3,.pp 2 0),(4,.pp 3 0),(5,.pp 4 0),(6,.pv (iV (j:Int)))])
  (fun j=>[(1,0,.ls 0 s.length),(2,0,.pv (iV tn)),(2,1,.pv (iV td)),(3,0,.pv (iV 0)),(3,1,.pv (.slice none 0 0)),(4,0,.pv (iV 0)),(4,1,.ls 5 j),(0,0,qag s),(5,0,.row 26 3 j (qao ((qfN s 0).take j)))]) (N:=s.length) s.length 0 (Nat.zero_add _) (fun j _ hj r=>by
   obtain⟨p,hp⟩:=qaj hj
   rw[qfr 0 hp] at r
   exact qlL (hlt:=dt (by omega)) (hk:=hp) (hin:=⟨by omega,by omega⟩) (hn:=by omega) (hs:=qah (by omega)) r)
  (qpM (tn:=tn) (td:=td) (s:=s) (n:=s.length) (k:=s.length) (vs:=qao ((qfN s 0).take s.length)) (hlt:=df (by omega)))
 rw[List.take_of_length_le (Nat.le_of_eq (qb5 0))] at loop
 have hg:=qoU (rt:=0) htn htd hs T 0 s.length (qfN s 0) hT.ho (by rw[hT.list,List.range_eq_range',Nat.sub_zero]) (Nat.zero_le _) (Nat.le_refl _) (qb5 0)
 have:=qll (r0:=loop) (hg:=hg)
 have e:=qcg (s:=s) T
 rw[trS,qab,e]
 exact this
def gS (s:List Pt) (tn td:Int):Nat→Sh Nat
 | 0=>.nil
 | k+1=>Sh.mrg (bX s tn td) (gS s tn td k) (.node .nil k .nil)
def gN (s:List Pt) (tn td:Int):Nat→List Pt
 | 0=>qfN s (-1)
 | k+1=>jnN (bX s tn td) (gS s tn td k) (.node .nil k .nil) (gN s tn td k)
theorem qdM:∀ k,(gS s tn td k).list=List.range k
 | 0=>rfl
 | k+1=>by
  unfold gS
  rw[Sh.mrg_list,qdM k,List.range_succ]
  rfl
theorem qgE:∀ k,k≤s.length→(gN s tn td k).length=s.length∧(∀ j,j<s.length→idN (gN s tn td k) j=idN s j)∧(∀ j,k≤j→j<s.length→(gN s tn td k)[j]?=some ⟨(ndT s j).id,-1,-1⟩)∧Rep (gN s tn td k) (rtI (gS s tn td k)) (gS s tn td k)
 | 0,_=>⟨qb5 _,fun j hj=>qiY _ hj,fun j _ hj=>qi8 _ hj,rfl⟩
 | k+1,h=>by
  obtain⟨a1,a2,a3,a4⟩:=qgE k (by omega)
  have hk:=a3 k (Nat.le_refl _) (by omega)
  have on:=qbK (bX s tn td) (gS s tn td k) (.node .nil k .nil) (gN s tn td k)
  have hl:(gS s tn td k).list++(Sh.node .nil k .nil:Sh Nat).list=List.range (k+1):=by rw[qdM,List.range_succ];rfl
  refine⟨on.len.trans a1,fun j hj=>(on.id j).trans (a2 j hj),fun j j1 j2=>?_,?_⟩
  ·show (jnN _ _ _ _)[j]?=_
   rw[on.oth j (by rw[hl,List.mem_range];omega)]
   exact a3 j (by omega) j2
  ·exact qgx (bX s tn td) (gS s tn td k) (.node .nil k .nil) (gN s tn td k) a4 ⟨rfl,_,hk,rfl,rfl⟩ (by rw[hl];exact List.nodup_range)
theorem qro (hs:Val s):∀ k,k≤s.length→(gS s tn td k).HO (RX s tn td)
 | 0,_=>trivial
 | k+1,h=>by
  refine Sh.mrg_ho (fun x y e=>e) (qro hs k (by omega)) ⟨fun y hy=>(by cases hy),fun y hy=>(by cases hy),trivial,trivial⟩ (fun x hx y hy e=>?_) (fun x _ y _ z _ (a:RX s tn td x y) (b:RX s tn td y z)=>RX.trans a b)
  rw[qdM,List.mem_range] at hx
  have hy':y=k:=by simpa [Sh.list] using hy
  subst hy'
  exact RX.tot hs (by omega) (by omega) (by omega) e
theorem qts (hs:Val s) {T:Sh Nat} (h:OfSh s tn td T):gS s tn td s.length=T∧gN s tn td s.length=ofN s T:=by
 have e:gS s tn td s.length=T:=OfSh.uniq ⟨qro hs _ (Nat.le_refl _),qdM _⟩ h
 obtain⟨a1,a2,_,a4⟩:=qgE (s:=s) (tn:=tn) (td:=td) s.length (Nat.le_refl _)
 rw[e] at a4
 exact⟨e,qlG hs h a4 a1 a2⟩
theorem qn2 {k:Nat} (h:k<s.length):JnI s s.length (gS s tn td k) (.node .nil k .nil) (gN s tn td k):=by
 obtain⟨a1,a2,a3,a4⟩:=qgE (s:=s) (tn:=tn) (td:=td) k (by omega)
 refine⟨a1,rfl,a4,⟨rfl,_,a3 k (Nat.le_refl _) h,rfl,rfl⟩,?_⟩
 rw[qdM]
 show (List.range k++[k]).Nodup
 rw[← List.range_succ]
 exact List.nodup_range
theorem qrT (htn:I64 tn) (htd:I64 td) (ht:okB tn td=true) (hs:Val s) {T:Sh Nat} (hT:OfSh s tn td T):Fn 51 1 [qax 0 s,.pv (qaa tn td)] [(0,0,qag s)] (trS 1 (rtI T) (ofN s T)) 1 [(1,0,qab (ofN s T))]:=by
 have hsl:=hs.len
 have loop:=RunsL.roundsZ (fun j=>[(2,.pp 1 0),(3,.pp 2 0),(4,.pp 3 0),(5,.pp 4 0),(12,.ls 0 s.length),(13,.pv (iV (s.length:Int))),(14,.pv (iV (j:Int)))])
  (fun j=>[(1,0,.ls 0 s.length),(2,0,.pv (iV tn)),(2,1,.pv (iV td)),(3,0,.pv (iV 0)),(3,1,.pv (.slice none 0 0)),(4,0,.pv (iV (-1))),(4,1,.ls 5 j),(0,0,qag s),(5,0,.row 26 3 j (qao ((qfN s (-1)).take j)))]) (N:=s.length) s.length 0 (Nat.zero_add _) (fun j _ hj r=>by
   obtain⟨p,hp⟩:=qaj hj
   rw[qfr (-1) hp] at r
   exact qm2 (hlt:=dt (by omega)) (hin:=⟨by omega,by omega⟩) (hk:=hp) (hn:=by omega) (hs:=qah (by omega)) r)
  (qpa (tn:=tn) (td:=td) (s:=s) (n:=s.length) (k:=s.length) (vs:=qao ((qfN s (-1)).take s.length)) (hlt:=df (by omega)))
 rw[List.take_of_length_le (Nat.le_of_eq (qb5 (-1)))] at loop
 have loop2:=RunsL.roundsZ (fun j=>[(4,.pp 3 0),(5,.pp 4 0),(8,.pp 6 0),(35,.pv (iV (s.length:Int))),(36,.pv (iV (j:Int)))])
  (fun j=>[(3,0,.pv (iV 0)),(3,1,.pv (.slice none 0 0)),(4,0,.pv (iV (rtI (gS s tn td j)))),(4,1,.ls 5 s.length),(6,0,.ls 5 s.length),(6,1,.ls 0 s.length),(6,2,.pv (iV tn)),(6,3,.pv (iV td)),(0,0,qag s),(5,0,.row 26 3 s.length (qao (gN s tn td j)))]) (N:=s.length) s.length 0 (Nat.zero_add _) (fun j _ hj r=>
   qiS (hlt:=dt (by omega)) (hj:=qoG htn htd ht hs (gS s tn td j) (.node .nil j .nil) (gN s tn td j) (qn2 hj)) (hs:=qah (by omega)) r)
  (qlK (tn:=tn) (td:=td) (s:=s) (n:=s.length) (k:=s.length) (z:=rtI (gS s tn td s.length)) (vs:=qao (gN s tn td s.length)) (hlt:=df (by omega)))
 obtain⟨g1,g2⟩:=qts hs hT
 rw[g1,g2,show rtI (gS s tn td 0) = -1 from rfl,show gN s tn td 0=qfN s (-1) from rfl] at loop2
 have:=qsB (r0:=loop) (rr1:=loop2)
 have e:=qcg (s:=s) T
 rw[trS,qab,e]
 exact this
theorem qje (htn:I64 tn) (htd:I64 td) (s:List Pt):∃ (r:Int) (n:List Pt),n.length≤s.length∧(tE s tn td=0→∀ T,OfSh s tn td T→r=rtI T∧n=ofN s T)∧
 Fn 18 1 [qax 0 s,.pv (qaa tn td)] [(0,0,qag s)] (.tu [.ag [.pv (iV r),.ls 1 n.length],.one (.pv (iV (tE s tn td)))]) 1 [(1,0,qab n)]∧
 Fn 29 1 [qax 0 s,.pv (qaa tn td)] [(0,0,qag s)] (.tu [.ag [.pv (iV r),.ls 1 n.length],.one (.pv (iV (tE s tn td)))]) 1 [(1,0,qab n)]:=by
 have hR:=qds htn htd s
 have hP:=qei s
 by_cases h0:qdT s=0
 ·have hs:=qeU.1 h0
  by_cases ht:okB tn td=true
  ·obtain⟨T,hT⟩:=qgb (tn:=tn) (td:=td) hs
   rw[qik hs ht] at hR ⊢
   rw[h0] at hP
   exact⟨rtI T,ofN s T,Nat.le_of_eq (qcg T),fun _ T' hT'=>by rw[hT.uniq hT'];exact⟨rfl,rfl⟩,qq1 (h1:=hP) (h2:=qcD htn htd ht) (hg:=qrT htn htd ht hs hT),qoN (ht:=hR) (hte:=eq0 rfl) (hm:=qrJ htn htd hs hT)⟩
  ·have e:tE s tn td=8:=by unfold tE;rw[if_pos h0,if_neg ht]
   rw[e] at hR ⊢
   rw[h0] at hP
   exact⟨0,[],Nat.zero_le _,fun h=>(by cases h),qiq (qtp (h1:=hP) (h2:=qcs htn htd ht) (he:=by decide)),qiq (qjm (ht:=hR) (hte:=by decide))⟩
 ·have e:tE s tn td=qdT s:=by unfold tE;rw[if_neg h0]
  rw[e] at hR ⊢
  by_cases ht:okB tn td=true
  ·exact⟨0,[],Nat.zero_le _,fun h=>(h0 h).elim,qiq (qrV (h1:=hP) (h2:=qcD htn htd ht) (he:=ne0 h0)),qiq (qjm (ht:=hR) (hte:=ne0 h0))⟩
  ·exact⟨0,[],Nat.zero_le _,fun h=>(h0 h).elim,qiq (qrV (h1:=hP) (h2:=qcs htn htd ht) (he:=ne0 h0)),qiq (qjm (ht:=hR) (hte:=ne0 h0))⟩
end
end Go.Proofs.Ytalnjplghagbpaa
