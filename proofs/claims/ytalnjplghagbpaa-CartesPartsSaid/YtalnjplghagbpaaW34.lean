/-
  Joined: Ef, Eg, Ei. Conditions: none.
-/
import Derived.Test.YtalnjplghagbpaaW33
import Derived.Test.YtalnjplghagbpaaW29
import Derived.Test.YtalnjplghagbpaaW19
import Derived.Test.YtalnjplghagbpaaW25
import Derived.Test.YtalnjplghagbpaaW28
import Derived.Test.YtalnjplghagbpaaW22
import Derived.Test.YtalnjplghagbpaaW23
namespace Go.Proofs.Ytalnjplghagbpaa
set_option maxRecDepth 100000
open Go.RowKit
section
variable {s d:List Pt} {tn td:Int}
abbrev bX (d:List Pt) (tn td:Int) (i j:Nat):Bool:=ld tn td (ndT d i) (ndT d j)
def RX (d:List Pt) (tn td:Int) (i j:Nat):Prop:=bX d tn td i j=true
theorem RX.asym (i j:Nat) (h:RX d tn td i j):¬ RX d tn td j i:=fun k=>by
 unfold RX bX at h k
 rw[qdZ h] at k;cases k
theorem RX.trans {i j k:Nat} (h:RX d tn td i j) (h':RX d tn td j k):RX d tn td i k:=qcS h h'
theorem RX.tot (hd:Val d) {i j:Nat} (hi:i<d.length) (hj:j<d.length) (h:i≠j) (hb:bX d tn td i j=false):RX d tn td j i:=
 qll (qsA hd hi hj (Ne.symm h)) hb
theorem qnX (htn:I64 tn) (htd:I64 td) (ht:okB tn td=true) (hd:Val d) {i j:Nat} (hi:i<d.length) (hj:j<d.length) (h:i≠j) :
 Pure Try.prog 79 #[ptV (ndT d i),ptV (ndT d j),qaa tn td] (.tuple #[.bool (bX d tn td i j),iV 0]):=
 qhl htn htd (hd.ok _ (List.mem_of_getElem? (qah hi))) (hd.ok _ (List.mem_of_getElem? (qah hj))) ht (qsA hd hi hj (Ne.symm h))
theorem qmO (htn:I64 tn) (htd:I64 td) {p q:Pt} (hp:qfh p=true) (hq:qfh q=true):Pure Try.prog 111 #[ptV p,ptV q,qaa tn td] (.bool (ld tn td p q)):=qe7 htn htd hp hq
abbrev PJn (d:List Pt) (tn td:Int) (N:Nat) (z v:Int) (n:List Pt) (r:Int) (n':List Pt):Prop:=
 FnO Try.prog 62 1 2 [.ag [.ls 1 N,.ls 0 d.length,.pv (iV tn),.pv (iV td)],.pv (iV z),.pv (iV v)] [(0,0,qag d),(1,0,.row 26 3 N (qam n))]
  (.pv (iV r)) 0 [(1,0,.row 26 3 N (qam n'))]
abbrev RJn (s:List Pt) (tn td:Int) (N:Nat) (rt z v:Int) (n:List Pt) (r:Int) (n':List Pt):Prop:=
 FnO Try.prog 102 1 2 [.ag [.pv (iV rt),.ls 1 N],qaq 0 s,.pv (qaa tn td),.pv (iV z),.pv (iV v)] [(0,0,qag s),(1,0,.row 26 3 N (qam n))]
  (.pv (iV r)) 0 [(1,0,.row 26 3 N (qam n'))]
structure JnI (d:List Pt) (N:Nat) (A B:Sh Nat) (n:List Pt):Prop where
 len:n.length=N
 dl:d.length=N
 ra:Rep n (rtI A) A
 rb:Rep n (rtI B) B
 nd:(A.list++B.list).Nodup
theorem qg3 {N:Nat} {a r a' r':Sh Nat} {x y:Nat} {n:List Pt} (h:JnI d N (.node a x r) (.node a' y r') n):JnI d N r (.node a' y r') n:=by
 obtain⟨_,p,hp,a1,a2⟩:=h.ra
 obtain⟨nA,nB,nAB⟩:=List.nodup_append.1 h.nd
 obtain⟨_,_,_,o4⟩:=Sh.mid_out nA
 exact⟨h.len,h.dl,by rw[← a2.rt];exact a2,h.rb,List.nodup_append.2 ⟨o4,nB,fun k hk m hm e=>nAB k (List.mem_append_right _ (List.mem_cons_of_mem _ hk)) m hm e⟩⟩
theorem qkE {N:Nat} {a r a' r':Sh Nat} {x y:Nat} {n:List Pt} (h:JnI d N (.node a x r) (.node a' y r') n):JnI d N (.node a x r) a' n:=by
 obtain⟨_,p,hp,a1,a2⟩:=h.rb
 obtain⟨nA,nB,nAB⟩:=List.nodup_append.1 h.nd
 obtain⟨_,_,o3,_⟩:=Sh.mid_out nB
 exact⟨h.len,h.dl,h.ra,by rw[← a1.rt];exact a1,List.nodup_append.2 ⟨nA,o3,fun k hk m hm e=>nAB k hk m (List.mem_append_left _ hm) e⟩⟩
theorem qcb {n:List Pt} {k:Nat} {p:Pt} (h:n[k]?=some p):ndT n k=p:=by
 have:=qah (qai h)
 rw[h] at this
 exact (Option.some.inj this).symm
theorem qmj (htn:I64 tn) (htd:I64 td) (ht:okB tn td=true) (hd:Val d) {N:Nat}:∀ (A B:Sh Nat) (n:List Pt),JnI d N A B n→PJn d tn td N (rtI A) (rtI B) n (rtI (Sh.mrg (bX d tn td) A B)) (jnN (bX d tn td) A B n)
 | .nil,B,n,h=>by rw[jnN,Sh.mrg];exact qu6 (h0:=rfl)
 | .node a x r,.nil,n,h=>by rw[jnN,Sh.mrg];exact quY (h0:=beq_eq_false_iff_ne.2 (by show (x:Int)≠-1;omega)) (h1:=rfl)
 | .node a x r,.node a' y r',n,h=>by
  obtain⟨_,p,hp,a1,a2⟩:=h.ra
  obtain⟨_,q,hq,b1,b2⟩:=h.rb
  have hx:=qai hp
  have hy:=qai hq
  have hl:=h.len
  have hdl:=h.dl
  have hxy:x≠y:=fun e=>(List.nodup_append.1 h.nd).2.2 x (List.mem_append_right _ List.mem_cons_self) y (List.mem_append_right _ List.mem_cons_self) e
  have c0:((x:Int)==(-1))=false:=beq_eq_false_iff_ne.2 (by omega)
  have c1:((y:Int)==(-1))=false:=beq_eq_false_iff_ne.2 (by omega)
  have hw:=qnX htn htd ht hd (i:=x) (j:=y) (by omega) (by omega) hxy
  rw[jnN,Sh.mrg]
  by_cases hc:bX d tn td x y=true
  ·rw[if_pos hc,if_pos hc]
   rw[hc] at hw
   have ih:=qmj htn htd ht hd r (.node a' y r') n (qg3 h)
   have on:=qa6 (bX d tn td) r (.node a' y r') n
   rw[← a2.rt] at ih
   exact quK (z:=(x:Int)) (v:=(y:Int)) (h0:=c0) (h1:=c1) (hin:=⟨by omega,by omega⟩) (hjn:=⟨by omega,by omega⟩) (hpn:=⟨by omega,by omega⟩) (hqn:=⟨by omega,by omega⟩) (hp:=qah (by omega)) (hq:=qah (by omega)) (hw:=hw) (hk:=hp) (hl:=ih) (hs:=qah (by rw[on.len];omega))
  ·rw[if_neg hc,if_neg hc]
   have hc':bX d tn td x y=false:=by simpa using hc
   rw[hc'] at hw
   have ih:=qmj htn htd ht hd (.node a x r) a' n (qkE h)
   have on:=qa6 (bX d tn td) (.node a x r) a' n
   rw[← b1.rt] at ih
   exact qvP (z:=(x:Int)) (v:=(y:Int)) (h0:=c0) (h1:=c1) (hin:=⟨by omega,by omega⟩) (hjn:=⟨by omega,by omega⟩) (hpn:=⟨by omega,by omega⟩) (hqn:=⟨by omega,by omega⟩) (hp:=qah (by omega)) (hq:=qah (by omega)) (hw:=hw) (hk:=hq) (hl:=ih) (hs:=qah (by rw[on.len];omega))
termination_by A B=>A.size+B.size
decreasing_by all_goals simp[Sh.size];omega
def qrN (s d n:List Pt):Prop:=∀ k,k<n.length→idN n k=(ndT d k).id∧ndT d k∈s
theorem qoP {rt:Int} (htn:I64 tn) (htd:I64 td) (hs:Val s) {N:Nat}:∀ (A B:Sh Nat) (n:List Pt),JnI d N A B n→qrN s d n→RJn s tn td N rt (rtI A) (rtI B) n (rtI (Sh.mrg (bX d tn td) A B)) (jnN (bX d tn td) A B n)
 | .nil,B,n,h,hp=>by rw[jnN,Sh.mrg];exact qut (h0:=by decide)
 | .node a x r,.nil,n,h,hp=>by rw[jnN,Sh.mrg];exact qvV (h0:=df (by show ¬ (x:Int)<0;omega)) (h1:=by decide)
 | .node a x r,.node a' y r',n,h,hpi=>by
  obtain⟨_,p,hp,a1,a2⟩:=h.ra
  obtain⟨_,q,hq,b1,b2⟩:=h.rb
  have hx:=qai hp
  have hy:=qai hq
  have hl:=h.len
  have hdl:=h.dl
  have c0:decide ((x:Int)<0)=false:=df (by omega)
  have c1:decide ((y:Int)<0)=false:=df (by omega)
  obtain⟨i1,m1⟩:=hpi x hx
  obtain⟨i2,m2⟩:=hpi y hy
  rw[qao hp] at i1
  rw[qao hq] at i2
  obtain⟨u,hu⟩:=List.getElem?_of_mem m1
  obtain⟨v,hv⟩:=List.getElem?_of_mem m2
  have hul:=qai hu
  have hvl:=qai hv
  have ha:=qj1 hs hu i1.symm
  have hb:=qj1 hs hv i2.symm
  have hw:=qmO htn htd (hs.ok _ m1) (hs.ok _ m2)
  rw[jnN,Sh.mrg]
  by_cases hc:bX d tn td x y=true
  ·rw[if_pos hc,if_pos hc]
   rw[show ld tn td (ndT d x) (ndT d y)=true from hc] at hw
   have ih:=qoP (rt:=rt) htn htd hs r (.node a' y r') n (qg3 h) hpi
   have on:=qa6 (bX d tn td) r (.node a' y r') n
   rw[← a2.rt] at ih
   exact qvj (z:=(x:Int)) (v:=(y:Int)) (i0:=(u:Int)) (k0:=(v:Int)) (h0:=c0) (h1:=c1) (hk:=hp) (hin:=⟨by omega,by omega⟩) (hm:=hq) (hjn:=⟨by omega,by omega⟩) (ha:=ha) (hp:=hu) (hpn:=⟨by omega,by omega⟩) (hb:=hb) (hq:=hv) (hqn:=⟨by omega,by omega⟩) (hw:=hw) (hl:=ih) (hs:=qah (by rw[on.len];omega))
  ·rw[if_neg hc,if_neg hc]
   have hc':bX d tn td x y=false:=by simpa using hc
   rw[show ld tn td (ndT d x) (ndT d y)=false from hc'] at hw
   have ih:=qoP (rt:=rt) htn htd hs (.node a x r) a' n (qkE h) hpi
   have on:=qa6 (bX d tn td) (.node a x r) a' n
   rw[← b1.rt] at ih
   exact qu4 (z:=(x:Int)) (v:=(y:Int)) (i0:=(u:Int)) (k0:=(v:Int)) (h0:=c0) (h1:=c1) (hk:=hp) (hin:=⟨by omega,by omega⟩) (hm:=hq) (hjn:=⟨by omega,by omega⟩) (ha:=ha) (hp:=hu) (hpn:=⟨by omega,by omega⟩) (hb:=hb) (hq:=hv) (hqn:=⟨by omega,by omega⟩) (hw:=hw) (hl:=ih) (hs:=qah (by rw[on.len];omega))
termination_by A B=>A.size+B.size
decreasing_by all_goals simp[Sh.size];omega
structure OfSh (s:List Pt) (tn td:Int) (T:Sh Nat):Prop where
 ho:T.HO (RX s tn td)
 list:T.list=List.range s.length
theorem qeZ (hs:Val s):∃ T,OfSh s tn td T:=by
 obtain⟨T,h1,h2⟩:=Sh.ho_ex (R:=RX s tn td) s.length (List.range s.length) (by rw[List.length_range];exact Nat.le_refl _) List.nodup_range (fun a ha b hb hne=>by
  by_cases h:bX s tn td a b=true
  ·exact Or.inl h
  ·exact Or.inr (RX.tot hs (List.mem_range.1 ha) (List.mem_range.1 hb) hne (by simpa using h))) (fun a _ b _ c _ h k=>h.trans k)
 exact⟨T,h1,h2⟩
theorem OfSh.uniq {T T':Sh Nat} (h:OfSh s tn td T) (h':OfSh s tn td T'):T=T':=Sh.HO.uniq RX.asym h.ho h'.ho (h.list.trans h'.list.symm) (by rw[h.list];exact List.nodup_range)
def qga (s:List Pt) (z:Int):List Pt:=s.map fun p=>⟨p.id,z,z⟩
theorem qcl (z:Int):(qga s z).length=s.length:=List.length_map ..
theorem qlr (z:Int) {k:Nat} (h:k<s.length):(qga s z)[k]?=some ⟨(ndT s k).id,z,z⟩:=by unfold qga;rw[List.getElem?_map,qah h];rfl
theorem qkI (z:Int) {k:Nat} (h:k<s.length):idN (qga s z) k=idN s k:=by rw[qao (qlr z h),qao (qah h)]
def ofN (s:List Pt) (T:Sh Nat):List Pt:=grN T (qga s 0)
theorem qaW (T:Sh Nat):(ofN s T).length=s.length:=by unfold ofN;rw[(qbz T _).len,qcl]
theorem qde (T:Sh Nat) {k:Nat} (h:k<s.length):idN (ofN s T) k=idN s k:=by unfold ofN;rw[(qbz T _).id,qkI 0 h]
theorem qor (hs:Val s) {i j:Nat} (h:i<j) (hj:j<s.length):idN s i<idN s j:=by
 rw[qao (qah (show i<s.length by omega)),qao (qah hj)]
 exact hs.up.mono h (qah (by omega)) (qah hj)
theorem qpV {n:List Pt} (hs:Val s) (hl:n.length=s.length) (hi:∀ k,k<s.length→idN n k=idN s k):Up n:=fun k p q hp hq=>by
 have h2:=qai hq
 have:=qor hs (i:=k) (j:=k+1) (by omega) (by omega)
 rw[← hi k (by omega),← hi (k+1) (by omega),qao hp,qao hq] at this
 exact this
theorem qlk {T:Sh Nat} {n:List Pt} (hs:Val s) (hT:T.list=List.range s.length) (hr:Rep n (rtI T) T) (hl:n.length=s.length) (hi:∀ k,k<s.length→idN n k=idN s k):Fits ⟨rtI T,n⟩ T:=by
 refine⟨hr,by rw[hT,List.length_range];exact hl.symm,?_⟩
 rw[hT,List.pairwise_map]
 refine List.pairwise_lt_range.imp_of_mem fun ha hb h=>?_
 show idN n _<idN n _
 rw[hi _ (List.mem_range.1 ha),hi _ (List.mem_range.1 hb)]
 exact qor hs h (List.mem_range.1 hb)
theorem qa3 (hs:Val s) {T:Sh Nat} (h:OfSh s tn td T):Fits ⟨rtI T,ofN s T⟩ T∧Up (ofN s T):=
 ⟨qlk hs h.list (by unfold ofN;exact qg0 T _ (by rw[h.list];exact List.nodup_range) fun k hk=>by rw[h.list] at hk;rw[qcl];exact List.mem_range.1 hk) (qaW T) fun k hk=>qde T hk,qpV hs (qaW T) fun k hk=>qde T hk⟩
theorem qhe (hs:Val s) {T:Sh Nat} (h:OfSh s tn td T) {n:List Pt} (hr:Rep n (rtI T) T) (hl:n.length=s.length) (hi:∀ k,k<s.length→idN n k=idN s k):n=ofN s T:=by
 have f1:=qlk hs h.list hr hl hi
 obtain⟨f2,u2⟩:=qa3 hs h
 refine (f1.ext f2 (qpV hs hl hi) u2 ?_).2
 show T.map (idN n)=T.map (idN (ofN s T))
 have:∀ S:Sh Nat,(∀ k∈S.list,k<s.length)→S.map (idN n)=S.map (idN (ofN s T)):=by
  intro S
  induction S with
  | nil=>intro _;rfl
  | node a k b iha ihb=>
   intro hk
   have e:=hk k (List.mem_append_right _ List.mem_cons_self)
   show Sh.node (a.map _) (idN n k) (b.map _)=Sh.node (a.map _) (idN (ofN s T) k) (b.map _)
   rw[iha fun j hj=>hk j (List.mem_append_left _ hj),ihb fun j hj=>hk j (List.mem_append_right _ (List.mem_cons_of_mem _ hj)),hi k e,qde T e]
 exact this T fun k hk=>by rw[h.list] at hk;exact List.mem_range.1 hk
end
end Go.Proofs.Ytalnjplghagbpaa

namespace Go.Proofs.Ytalnjplghagbpaa
set_option maxRecDepth 100000
open Go.RowKit
theorem qgd {l r:List Nat} {k lo m:Nat} (h:l++k::r=List.range' lo m):l=List.range' lo l.length∧k=lo+l.length∧r=List.range' (k+1) (m-l.length-1)∧l.length<m:=by
 obtain⟨j,hj,h1,h2⟩:=List.range'_eq_append_iff.1 h.symm
 have hl:l.length=j:=by rw[h1,List.length_range']
 obtain⟨h3,h4,h5⟩:=List.range'_eq_cons_iff.1 h2.symm
 subst hl
 exact⟨h1,by omega,by rw[h5],by omega⟩
section
variable {s:List Pt} {tn td:Int}
abbrev qsY (b n:Nat) (c:List Pt):Nat×Nat×SV:=(b,0,.row 26 3 n (qam c))
theorem qpN {rt:Int} (htn:I64 tn) (htd:I64 td) (hs:Val s):∀ (T:Sh Nat) (lo hi:Nat) (n:List Pt),T.HO (RX s tn td)→T.list=List.range' lo (hi-lo)→lo≤hi→hi≤s.length→n.length=s.length→
 FnO Try.prog 94 1 2 [qaq 0 s,.pv (qaa tn td),.ag [.pv (iV rt),.ls 1 s.length],.pv (iV (lo:Int)),.pv (iV (hi:Int))] [(0,0,qag s),qsY 1 s.length n] (.pv (iV (rtI T))) 0 [qsY 1 s.length (grN T n)]
 | .nil,lo,hi,n,_,hl,h1,h2,_=>by
  have h0:hi≤lo:=by
   have:=congrArg List.length hl
   rw[List.length_range'] at this
   have e:(Sh.nil:Sh Nat).list.length=0:=rfl
   omega
  exact qmU (ht:=qv9 htn htd hs h2 (y:=-1) (Or.inl ⟨h0,rfl⟩)) (h0:=by decide)
 | .node a k b,lo,hi,n,⟨o1,o2,o3,o4⟩,hl,h1,h2,hn=>by
  have hsl:=hs.len
  obtain⟨r1,r2,r3,r4⟩:=qgd (l:=a.list) (r:=b.list) hl
  have hbest:BestI s tn td lo hi (k:Int):=Or.inr ⟨k,rfl,by omega,by omega,fun j j1 j2 j3=>by
   have hm:j∈(Sh.node a k b).list:=by rw[hl];exact List.mem_range'_1.2 ⟨j1,by omega⟩
   rcases List.mem_append.1 hm with hm | hm
   ·exact o1 j hm
   ·rcases List.mem_cons.1 hm with hm | hm
    ·exact (j3 hm).elim
    ·exact o2 j hm⟩
  have q1:=qbz a n
  have q2:=qdO (n:=grN a n) (k:=k) (rtI a) (l:=[k]) List.mem_cons_self
  have q3:=qbz b (stA (grN a n) k (rtI a))
  have e1:(grN a n).length=s.length:=q1.len.trans hn
  have e2:(stA (grN a n) k (rtI a)).length=s.length:=q2.len.trans e1
  have e3:(grN b (stA (grN a n) k (rtI a))).length=s.length:=q3.len.trans e2
  have ihl:=qpN (rt:=rt) htn htd hs a lo k n o3 (by rw[r1];congr 1;omega) (by omega) (by omega) hn
  have ihr:=qpN (rt:=rt) htn htd hs b (k+1) hi (stA (grN a n) k (rtI a)) o4 (by rw[r3];congr 1;omega) (by omega) h2 e2
  exact qmA (z:=(k:Int)) (ht:=qv9 htn htd hs h2 hbest) (h0:=dt (by omega)) (hl:=ihl) (hin:=⟨by omega,by omega⟩) (hp1:=qah (by omega)) (hs:=qan (by omega)) (hr:=ihr) (hq1:=qah (k:=k) (by omega))
theorem qfV (z:Int) {k:Nat} {p:Pt} (h:s[k]?=some p):qam ((qga s z).take (k+1))=qam ((qga s z).take k)++[iV p.id,iV z,iV z]:=by
 have:(qga s z)[k]?=some ⟨p.id,z,z⟩:=by unfold qga;rw[List.getElem?_map,h];rfl
 rw[qbK this,qgr]
theorem qvO (htn:I64 tn) (htd:I64 td) (hs:Val s) {T:Sh Nat} (hT:OfSh s tn td T):Fn 65 1 [qaq 0 s,.pv (qaa tn td)] [(0,0,qag s)] (trS 1 (rtI T) (ofN s T)) 1 [(1,0,qac (ofN s T))]:=by
 have hsl:=hs.len
 have loop:=RunsL.roundsZ (fun j=>[(2,.pp 1 0),(3,.pp 2 0),(4,.pp 3 0),(5,.pp 4 0),(6,.pv (iV (j:Int)))])
  (fun j=>[(1,0,.ls 0 s.length),(2,0,.pv (iV tn)),(2,1,.pv (iV td)),(3,0,.pv (iV 0)),(3,1,.pv (.slice none 0 0)),(4,0,.pv (iV 0)),(4,1,.ls 5 j),(0,0,qag s),(5,0,.row 26 3 j (qam ((qga s 0).take j)))]) (N:=s.length) s.length 0 (Nat.zero_add _) (fun j _ hj r=>by
   obtain⟨p,hp⟩:=qal hj
   rw[qfV 0 hp] at r
   exact qmV (hlt:=dt (by omega)) (hk:=hp) (hin:=⟨by omega,by omega⟩) (hn:=by omega) (hs:=qan (by omega)) r)
  (qqA (tn:=tn) (td:=td) (s:=s) (n:=s.length) (k:=s.length) (vs:=qam ((qga s 0).take s.length)) (hlt:=df (by omega)))
 rw[List.take_of_length_le (Nat.le_of_eq (qcl 0))] at loop
 have hg:=qpN (rt:=0) htn htd hs T 0 s.length (qga s 0) hT.ho (by rw[hT.list,List.range_eq_range',Nat.sub_zero]) (Nat.zero_le _) (Nat.le_refl _) (qcl 0)
 have:=qnl (r0:=loop) (hg:=hg)
 have e:=qaW (s:=s) T
 rw[trS,qac,e]
 exact this
def gS (s:List Pt) (tn td:Int):Nat→Sh Nat
 | 0=>.nil
 | k+1=>Sh.mrg (bX s tn td) (gS s tn td k) (.node .nil k .nil)
def gN (s:List Pt) (tn td:Int):Nat→List Pt
 | 0=>qga s (-1)
 | k+1=>jnN (bX s tn td) (gS s tn td k) (.node .nil k .nil) (gN s tn td k)
theorem qdI:∀ k,(gS s tn td k).list=List.range k
 | 0=>rfl
 | k+1=>by
  unfold gS
  rw[Sh.mrg_list,qdI k,List.range_succ]
  rfl
theorem qgD:∀ k,k≤s.length→(gN s tn td k).length=s.length∧(∀ j,j<s.length→idN (gN s tn td k) j=idN s j)∧(∀ j,k≤j→j<s.length→(gN s tn td k)[j]?=some ⟨(ndT s j).id,-1,-1⟩)∧Rep (gN s tn td k) (rtI (gS s tn td k)) (gS s tn td k)
 | 0,_=>⟨qcl _,fun j hj=>qkI _ hj,fun j _ hj=>qlr _ hj,rfl⟩
 | k+1,h=>by
  obtain⟨a1,a2,a3,a4⟩:=qgD k (by omega)
  have hk:=a3 k (Nat.le_refl _) (by omega)
  have on:=qa6 (bX s tn td) (gS s tn td k) (.node .nil k .nil) (gN s tn td k)
  have hl:(gS s tn td k).list++(Sh.node .nil k .nil:Sh Nat).list=List.range (k+1):=by rw[qdI,List.range_succ];rfl
  refine⟨on.len.trans a1,fun j hj=>(on.id j).trans (a2 j hj),fun j j1 j2=>?_,?_⟩
  ·show (jnN _ _ _ _)[j]?=_
   rw[on.oth j (by rw[hl,List.mem_range];omega)]
   exact a3 j (by omega) j2
  ·exact qeJ (bX s tn td) (gS s tn td k) (.node .nil k .nil) (gN s tn td k) a4 ⟨rfl,_,hk,rfl,rfl⟩ (by rw[hl];exact List.nodup_range)
theorem qsF (hs:Val s):∀ k,k≤s.length→(gS s tn td k).HO (RX s tn td)
 | 0,_=>trivial
 | k+1,h=>by
  refine Sh.mrg_ho (fun x y e=>e) (qsF hs k (by omega)) ⟨fun y hy=>(by cases hy),fun y hy=>(by cases hy),trivial,trivial⟩ (fun x hx y hy e=>?_) (fun x _ y _ z _ (a:RX s tn td x y) (b:RX s tn td y z)=>RX.trans a b)
  rw[qdI,List.mem_range] at hx
  have hy':y=k:=by simpa [Sh.list] using hy
  subst hy'
  exact RX.tot hs (by omega) (by omega) (by omega) e
theorem quN (hs:Val s) {T:Sh Nat} (h:OfSh s tn td T):gS s tn td s.length=T∧gN s tn td s.length=ofN s T:=by
 have e:gS s tn td s.length=T:=OfSh.uniq ⟨qsF hs _ (Nat.le_refl _),qdI _⟩ h
 obtain⟨a1,a2,_,a4⟩:=qgD (s:=s) (tn:=tn) (td:=td) s.length (Nat.le_refl _)
 rw[e] at a4
 exact⟨e,qhe hs h a4 a1 a2⟩
theorem qpE {k:Nat} (h:k<s.length):JnI s s.length (gS s tn td k) (.node .nil k .nil) (gN s tn td k):=by
 obtain⟨a1,a2,a3,a4⟩:=qgD (s:=s) (tn:=tn) (td:=td) k (by omega)
 refine⟨a1,rfl,a4,⟨rfl,_,a3 k (Nat.le_refl _) h,rfl,rfl⟩,?_⟩
 rw[qdI]
 show (List.range k++[k]).Nodup
 rw[← List.range_succ]
 exact List.nodup_range
theorem qve (htn:I64 tn) (htd:I64 td) (ht:okB tn td=true) (hs:Val s) {T:Sh Nat} (hT:OfSh s tn td T):Fn 51 1 [qaq 0 s,.pv (qaa tn td)] [(0,0,qag s)] (trS 1 (rtI T) (ofN s T)) 1 [(1,0,qac (ofN s T))]:=by
 have hsl:=hs.len
 have loop:=RunsL.roundsZ (fun j=>[(2,.pp 1 0),(3,.pp 2 0),(4,.pp 3 0),(5,.pp 4 0),(12,.ls 0 s.length),(13,.pv (iV (s.length:Int))),(14,.pv (iV (j:Int)))])
  (fun j=>[(1,0,.ls 0 s.length),(2,0,.pv (iV tn)),(2,1,.pv (iV td)),(3,0,.pv (iV 0)),(3,1,.pv (.slice none 0 0)),(4,0,.pv (iV (-1))),(4,1,.ls 5 j),(0,0,qag s),(5,0,.row 26 3 j (qam ((qga s (-1)).take j)))]) (N:=s.length) s.length 0 (Nat.zero_add _) (fun j _ hj r=>by
   obtain⟨p,hp⟩:=qal hj
   rw[qfV (-1) hp] at r
   exact qmP (hlt:=dt (by omega)) (hin:=⟨by omega,by omega⟩) (hk:=hp) (hn:=by omega) (hs:=qan (by omega)) r)
  (qoN (tn:=tn) (td:=td) (s:=s) (n:=s.length) (k:=s.length) (vs:=qam ((qga s (-1)).take s.length)) (hlt:=df (by omega)))
 rw[List.take_of_length_le (Nat.le_of_eq (qcl (-1)))] at loop
 have loop2:=RunsL.roundsZ (fun j=>[(4,.pp 3 0),(5,.pp 4 0),(8,.pp 6 0),(35,.pv (iV (s.length:Int))),(36,.pv (iV (j:Int)))])
  (fun j=>[(3,0,.pv (iV 0)),(3,1,.pv (.slice none 0 0)),(4,0,.pv (iV (rtI (gS s tn td j)))),(4,1,.ls 5 s.length),(6,0,.ls 5 s.length),(6,1,.ls 0 s.length),(6,2,.pv (iV tn)),(6,3,.pv (iV td)),(0,0,qag s),(5,0,.row 26 3 s.length (qam (gN s tn td j)))]) (N:=s.length) s.length 0 (Nat.zero_add _) (fun j _ hj r=>
   qla (hlt:=dt (by omega)) (hj:=qmj htn htd ht hs (gS s tn td j) (.node .nil j .nil) (gN s tn td j) (qpE hj)) (hs:=qan (by omega)) r)
  (qny (tn:=tn) (td:=td) (s:=s) (n:=s.length) (k:=s.length) (z:=rtI (gS s tn td s.length)) (vs:=qam (gN s tn td s.length)) (hlt:=df (by omega)))
 obtain⟨g1,g2⟩:=quN hs hT
 rw[g1,g2,show rtI (gS s tn td 0) = -1 from rfl,show gN s tn td 0=qga s (-1) from rfl] at loop2
 have:=qrI (r0:=loop) (rr1:=loop2)
 have e:=qaW (s:=s) T
 rw[trS,qac,e]
 exact this
theorem qjQ (htn:I64 tn) (htd:I64 td) (s:List Pt):∃ (r:Int) (n:List Pt),n.length≤s.length∧(tE s tn td=0→∀ T,OfSh s tn td T→r=rtI T∧n=ofN s T)∧
 Fn 18 1 [qaq 0 s,.pv (qaa tn td)] [(0,0,qag s)] (.tu [.ag [.pv (iV r),.ls 1 n.length],.one (.pv (iV (tE s tn td)))]) 1 [(1,0,qac n)]∧
 Fn 29 1 [qaq 0 s,.pv (qaa tn td)] [(0,0,qag s)] (.tu [.ag [.pv (iV r),.ls 1 n.length],.one (.pv (iV (tE s tn td)))]) 1 [(1,0,qac n)]:=by
 have hR:=qfE htn htd s
 have hP:=qbp s
 by_cases h0:qd7 s=0
 ·have hs:=qcw.1 h0
  by_cases ht:okB tn td=true
  ·obtain⟨T,hT⟩:=qeZ (tn:=tn) (td:=td) hs
   rw[qmy hs ht] at hR ⊢
   rw[h0] at hP
   exact⟨rtI T,ofN s T,Nat.le_of_eq (qaW T),fun _ T' hT'=>by rw[hT.uniq hT'];exact⟨rfl,rfl⟩,qr1 (h1:=hP) (h2:=qcJ htn htd ht) (hg:=qve htn htd ht hs hT),qpB (ht:=hR) (hte:=eq0 rfl) (hm:=qvO htn htd hs hT)⟩
  ·have e:tE s tn td=8:=by unfold tE;rw[if_pos h0,if_neg ht]
   rw[e] at hR ⊢
   rw[h0] at hP
   exact⟨0,[],Nat.zero_le _,fun h=>(by cases h),qbf (qvh (h1:=hP) (h2:=qcI htn htd ht) (he:=by decide)),qbf (qja (ht:=hR) (hte:=by decide))⟩
 ·have e:tE s tn td=qd7 s:=by unfold tE;rw[if_neg h0]
  rw[e] at hR ⊢
  by_cases ht:okB tn td=true
  ·exact⟨0,[],Nat.zero_le _,fun h=>(h0 h).elim,qbf (qrx (h1:=hP) (h2:=qcJ htn htd ht) (he:=ne0 h0)),qbf (qja (ht:=hR) (hte:=ne0 h0))⟩
  ·exact⟨0,[],Nat.zero_le _,fun h=>(h0 h).elim,qbf (qrx (h1:=hP) (h2:=qcI htn htd ht) (he:=ne0 h0)),qbf (qja (ht:=hR) (hte:=ne0 h0))⟩
end
end Go.Proofs.Ytalnjplghagbpaa

namespace Go.Proofs.Ytalnjplghagbpaa
set_option maxRecDepth 100000
open Go.RowKit
section
variable {rt z:Int} {l:List Pt} {T:Sh Nat}
theorem UAt (hl:l.length≤999999):∃ y:Int,Fn 68 1 [trS 0 rt l,.pv (iV z)] [(0,0,qac l)] (.pv (iV y)) 0 []∧(y<0↔∀ (k:Nat) (p:Pt),l[k]?=some p→p.id≠z):=by
 have step:∀ m,m≤l.length→(∀ j,j<m→∀ p,l[j]?=some p→p.id≠z)→∀ {e:Exit} {tm2:TmL} {hp2:HpL},
  Rl 1 1 68 0 22 2 [(1,.pv (iV z)),(2,.pp 1 0),(5,.pv (iV (m:Int)))] [(1,0,.pv (iV rt)),(1,1,.ls 0 l.length),(0,0,qac l)] e tm2 hp2→
  Rl 1 1 68 0 22 2 [(1,.pv (iV z)),(2,.pp 1 0),(5,.pv (iV ((0:Nat):Int)))] [(1,0,.pv (iV rt)),(1,1,.ls 0 l.length),(0,0,qac l)] e tm2 hp2:=by
  intro m hm hs e tm2 hp2 r
  refine RunsL.roundsZ (fun j=>[(1,.pv (iV z)),(2,.pp 1 0),(5,.pv (iV (j:Int)))]) (fun _=>[(1,0,.pv (iV rt)),(1,1,.ls 0 l.length),(0,0,qac l)]) (N:=m) m 0 (Nat.zero_add _) (fun j _ hj r=>?_) r
  obtain⟨p,hp⟩:=qal (l:=l) (k:=j) (by omega)
  exact qmS (hlt:=dt (by omega)) (hk:=hp) (hin:=⟨by omega,by omega⟩) (he:=beq_eq_false_iff_ne.2 (hs j hj p hp)) (hs:=qan (by omega)) r
 rcases qaK (fun j=>∀ p,l[j]?=some p→p.id≠z) l.length with h | ⟨j,hj,hb,hf⟩
 ·exact⟨-1,qsj (r0:=step l.length (Nat.le_refl _) h (qqZ (hlt:=df (by omega)))),⟨fun _ k p hp=>h k (qai hp) p hp,fun _=>by decide⟩⟩
 ·simp only[Classical.not_forall,ne_eq,Classical.not_not] at hb
  obtain⟨p,hp,e⟩:=hb
  exact⟨(j:Int),qqz (r0:=step j (Nat.le_of_lt hj) hf (qqa (hlt:=dt (by omega)) (hk:=hp) (hin:=⟨by omega,by omega⟩) (he:=beq_iff_eq.2 e))),⟨fun h=>by omega,fun h=>(h j p hp e).elim⟩⟩
abbrev deT (z y:Int) (k:Nat):List (Nat×SV):=[(1,.pv (iV z)),(2,.pp 1 0),(7,.pv (iV y)),(8,.pv (iV (k:Int)))]
theorem qwj:∀ {A:Sh Nat} {y:Int} (k:Nat),Rep l y A→(idT l A).list.Pairwise (· < ·)→k+A.list.length≤999999→
 (z∈(idT l A).list→Rl 1 1 12 0 41 2 (deT z y k) [(1,0,.pv (iV rt)),(1,1,.ls 0 l.length),(0,0,qac l)] .ret [(4,.pv (iV ((k+Sh.dep z (idT l A):Nat):Int))),(5,.pv (iV 0))] [])∧
 (z∉(idT l A).list→Rl 1 1 12 0 41 2 (deT z y k) [(1,0,.pv (iV rt)),(1,1,.ls 0 l.length),(0,0,qac l)] (.exit 0) [] []):=by
 intro A
 induction A with
 | nil=>
  intro y k h _ _
  have e:y = -1:=h
  subst e
  exact⟨fun h=>(by cases h),fun _=>qoW (hne:=rfl)⟩
 | node a j b iha ihb=>
  intro y k ⟨h,p,hp,a1,a2⟩ hup hk
  subst h
  have hj:=qai hp
  have hl':(Sh.node a j b).list.length=a.list.length+(b.list.length+1):=by simp[Sh.list]
  have ei:idN l j=p.id:=qao hp
  have el:(idT l (.node a j b)).list=(idT l a).list++p.id::(idT l b).list:=by
   show (idT l a).list++idN l j::(idT l b).list=_
   rw[ei]
  rw[el] at hup
  obtain⟨u1,u2,u3,u4⟩:=Sh.up_split hup
  have ed:Sh.dep z (idT l (.node a j b))=if z=p.id then 0 else if z<p.id then Sh.dep z (idT l a)+1 else Sh.dep z (idT l b)+1:=by
   show (if z=idN l j then 0 else if z<idN l j then Sh.dep z (idT l a)+1 else Sh.dep z (idT l b)+1)=_
   rw[ei]
  have hne:((j:Int) !=(-1))=true:=by simp
  rcases Int.lt_trichotomy z p.id with c | c | c
  ·obtain⟨i1,i2⟩:=iha (k+1) a1 u1 (by omega)
   refine⟨fun hz=>?_,fun hz=>?_⟩
   ·have hm:z∈(idT l a).list:=by
     rw[el] at hz
     rcases List.mem_append.1 hz with h | h
     ·exact h
     ·rcases List.mem_cons.1 h with h | h
      ·omega
      ·have:=u4 z h;omega
    rw[ed,if_neg (by omega),if_pos c,show k+(Sh.dep z (idT l a)+1)=k+1+Sh.dep z (idT l a) by omega]
    exact qr7 (y:=(j:Int)) (hne:=hne) (hin:=⟨by omega,by omega⟩) (hk:=hp) (h1:=dt c) (hs:=qan (by omega)) (i1 hm)
   ·exact qr7 (y:=(j:Int)) (hne:=hne) (hin:=⟨by omega,by omega⟩) (hk:=hp) (h1:=dt c) (hs:=qan (by omega)) (i2 fun h=>hz (by rw[el];exact List.mem_append_left _ h))
  ·refine⟨fun _=>?_,fun hz=>(hz (by rw[el,c];exact List.mem_append_right _ List.mem_cons_self)).elim⟩
   rw[ed,if_pos c,Nat.add_zero]
   exact qph (y:=(j:Int)) (hne:=hne) (hin:=⟨by omega,by omega⟩) (hk:=hp) (h1:=df (by omega)) (h2:=df (by omega))
  ·obtain⟨i1,i2⟩:=ihb (k+1) a2 u2 (by omega)
   refine⟨fun hz=>?_,fun hz=>?_⟩
   ·have hm:z∈(idT l b).list:=by
     rw[el] at hz
     rcases List.mem_append.1 hz with h | h
     ·have:=u3 z h;omega
     ·rcases List.mem_cons.1 h with h | h
      ·omega
      ·exact h
    rw[ed,if_neg (by omega),if_neg (by omega),show k+(Sh.dep z (idT l b)+1)=k+1+Sh.dep z (idT l b) by omega]
    exact qsE (y:=(j:Int)) (hne:=hne) (hin:=⟨by omega,by omega⟩) (hk:=hp) (h1:=df (by omega)) (h2:=dt c) (hs:=qan (by omega)) (i1 hm)
   ·exact qsE (y:=(j:Int)) (hne:=hne) (hin:=⟨by omega,by omega⟩) (hk:=hp) (h1:=df (by omega)) (h2:=dt c) (hs:=qan (by omega)) (i2 fun h=>hz (by rw[el];exact List.mem_append_right _ (List.mem_cons_of_mem _ h)))
theorem qow (h:Fits ⟨rt,l⟩ T):(idT l T).list.Pairwise (· < ·):=by
 unfold idT
 rw[Sh.map_list]
 exact h.up
theorem qka (h:Fits ⟨rt,l⟩ T):z∈(idT l T).list↔∃ (k:Nat) (p:Pt),l[k]?=some p∧p.id=z:=by
 unfold idT
 rw[Sh.map_list,List.mem_map]
 constructor
 ·rintro⟨k,hk,e⟩
  have hkl:=h.rep.lt k hk
  exact⟨k,_,qah hkl,by rw[← qao (qah hkl)];exact e⟩
 ·rintro⟨k,p,hp,e⟩
  exact⟨k,(h.mem k).2 (qai hp),(qao hp).trans e⟩
theorem qip (hl:l.length≤999999):∃ (v e:Int),(chE ⟨rt,l⟩=0→∀ T,Fits ⟨rt,l⟩ T→(z∈(idT l T).list→e=0∧v=(Sh.dep z (idT l T):Int))∧(z∉(idT l T).list→v=0∧e=6))∧
 Fn 12 1 [trS 0 rt l,.pv (iV z)] [(0,0,qac l)] (.pv (.tuple #[iV v,iV e])) 0 []∧
 Fn 32 1 [trS 0 rt l,.pv (iV z)] [(0,0,qac l)] (.pv (.tuple #[iV v,iV e])) 0 []:=by
 have cP:=qtS (rt:=rt) hl
 have cR:=qrH (rt:=rt) hl
 by_cases h0:chE ⟨rt,l⟩=0
 ·rw[h0] at cP cR
  obtain⟨T,hT⟩:=VT.of h0
  have hTl:T.list.length=l.length:=hT.all
  obtain⟨y,hy,hy2⟩:=UAt (rt:=rt) (z:=z) hl
  obtain⟨d1,d2⟩:=qwj (rt:=rt) (z:=z) 0 hT.rep (qow hT) (by omega)
  by_cases hz:z∈(idT l T).list
  ·have hyn:¬ y<0:=fun h=>by
    obtain⟨k,p,hp,e⟩:=(qka hT).1 hz
    exact hy2.1 h k p hp e
   have r0:=d1 hz
   rw[Nat.zero_add] at r0
   refine⟨(Sh.dep z (idT l T):Int),0,fun _ T' hT'=>?_,qsJ (hc:=cP) (hce:=eq0 rfl) (r0:=r0),qsi (hc:=cR) (hce:=eq0 rfl) (hat:=hy) (hy:=df hyn) (hab:=qsQ hT.rep (qow hT) hz (by omega))⟩
   rw[← hT.rep.uniq hT'.rep]
   exact⟨fun _=>⟨rfl,rfl⟩,fun h=>(h hz).elim⟩
  ·have hyn:y<0:=hy2.2 fun k p hp e=>hz ((qka hT).2 ⟨k,p,hp,e⟩)
   refine⟨0,6,fun _ T' hT'=>?_,qrT (hc:=cP) (hce:=eq0 rfl) (r0:=d2 hz),qtu (hc:=cR) (hce:=eq0 rfl) (hat:=hy) (hy:=dt hyn)⟩
   rw[← hT.rep.uniq hT'.rep]
   exact⟨fun h=>(hz h).elim,fun _=>⟨rfl,rfl⟩⟩
 ·exact⟨0,chE ⟨rt,l⟩,fun k=>(h0 k).elim,qvu (hc:=cP) (hce:=ne0 h0),qvH (hc:=cR) (hce:=ne0 h0)⟩
end
section
variable {rt x z tn td:Int} {s l m:List Pt}
end
end Go.Proofs.Ytalnjplghagbpaa
