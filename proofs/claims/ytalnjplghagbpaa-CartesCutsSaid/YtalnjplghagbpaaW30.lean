/-
  Joined: Df, Ed. Conditions: none.
-/
import Derived.Test.YtalnjplghagbpaaW29
import Derived.Test.YtalnjplghagbpaaW19
namespace Go.Proofs.Ytalnjplghagbpaa
set_option maxRecDepth 100000
open Go.RowKit
open Classical in
noncomputable def chE (x:Tr):Int:=if 64<x.n.length then 4 else if VT x then 0 else 8
theorem qex {x:Tr} (h:64<x.n.length):chE x=4:=by unfold chE;rw[if_pos h]
theorem qgX {x:Tr} (h:¬ 64<x.n.length) (k:¬ VT x):chE x=8:=by unfold chE;rw[if_neg h,if_neg k]
theorem qkl {x:Tr} (k:VT x):chE x=0:=by unfold chE;rw[if_neg (by have:=k.len;omega),if_pos k]
theorem qiE {x:Tr}:chE x=0↔VT x:=by
 refine⟨fun h=>?_,qkl⟩
 apply Classical.byContradiction
 intro k
 by_cases hm:64<x.n.length
 ·rw[qex hm] at h;cases h
 ·rw[qgX hm k] at h;cases h
theorem qfR {α:Type} {f:α→Int}:∀ {L:List α},(∀ j p q,L[j]?=some p→L[j+1]?=some q→f p<f q)→(L.map f).Pairwise (· < ·)
 | [],_=>.nil
 | [_],_=>by simp
 | a::b::r,h=>by
  have ih:=qfR (L:=b::r) fun j p q hp hq=>h (j+1) p q (by simpa using hp) (by simpa using hq)
  rw[List.map_cons,List.pairwise_cons]
  refine⟨fun y hy=>?_,ih⟩
  have hab:=h 0 a b rfl rfl
  rw[List.map_cons] at hy ih
  rcases List.mem_cons.1 hy with rfl | hy
  ·exact hab
  ·exact Int.lt_trans hab ((List.pairwise_cons.1 ih).1 y hy)
theorem qjZ {α:Type} {f:α→Int} {L:List α} (h:(L.map f).Pairwise (· < ·)) {j:Nat} {p q:α} (hp:L[j]?=some p) (hq:L[j+1]?=some q):f p<f q:=by
 have h1:=qai hq
 have:=List.pairwise_iff_getElem.1 h j (j+1) (by rw[List.length_map];omega) (by rw[List.length_map];omega) (by omega)
 rw[List.getElem_map,List.getElem_map] at this
 rw[List.getElem?_eq_getElem (by omega)] at hp hq
 cases hp
 cases hq
 exact this
section
variable {rt:Int} {l:List Pt}
abbrev qsf (k:Nat):List (Nat×SV):=[(1,.pp 1 0),(3,.pv (iV (k:Int)))]
abbrev qse (rt:Int) (l:List Pt):List (Nat×Nat×SV):=[(1,0,.pv (iV rt)),(1,1,.ls 0 l.length),(0,0,qaa l)]
abbrev qrZ (g:List Int) (k:Nat):List (Nat×SV):=[(1,.pp 1 0),(5,.ls 2 g.length),(6,.pv (iV (k:Int)))]
abbrev qrW (rt:Int) (l:List Pt) (g:List Int):List (Nat×Nat×SV):=[(1,0,.pv (iV rt)),(1,1,.ls 0 l.length),(0,0,qaa l),(2,0,zrI g)]
def GdN (l:List Pt) (p:Pt):Prop:=(-1≤p.a∧p.a<(l.length:Int))∧(-1≤p.b∧p.b<(l.length:Int))∧0≤p.id∧p.id≤65535
theorem ckb {k:Nat} {p:Pt} (hp:l[k]?=some p) (hb:¬ GdN l p):Rl 1 1 34 0 96 2 (qsf k) (qse rt l) .ret [(2,.pv (iV 8))] []:=by
 have hkl:=qai hp
 have ha:=qiH (rt:=rt) (l:=l) p.a
 have hbl:=qiH (rt:=rt) (l:=l) p.b
 by_cases c1 : -1≤p.a∧p.a<(l.length:Int)
 ·rw[qeH c1] at ha
  by_cases c2 : -1≤p.b∧p.b<(l.length:Int)
  ·rw[qeH c2] at hbl
   by_cases c3:0≤p.id
   ·have c4:65535<p.id:=by
     apply Classical.byContradiction
     intro h
     exact hb ⟨c1,c2,c3,by omega⟩
    exact qqk (hlt:=dt (by omega)) (hk:=hp) (hin:=⟨by omega,by omega⟩) (ha:=ha) (hb:=hbl) (h1:=df (by omega)) (h2:=dt (by omega))
   ·exact qrz (hlt:=dt (by omega)) (hk:=hp) (hin:=⟨by omega,by omega⟩) (ha:=ha) (hb:=hbl) (h1:=dt (by omega))
  ·rw[qft c2] at hbl
   exact qpQ (hlt:=dt (by omega)) (hk:=hp) (hin:=⟨by omega,by omega⟩) (ha:=ha) (hb:=hbl)
 ·rw[qft c1] at ha
  exact qp6 (hlt:=dt (by omega)) (hk:=hp) (hin:=⟨by omega,by omega⟩) (ha:=ha)
theorem cks (hl:l.length≤999999) {m:Nat} (hm:m≤l.length) (hg:∀ k,k<m→∀ p,l[k]?=some p→GdN l p) {e:Exit} {tm2:TmL} {hp2:HpL}
 (r:Rl 1 1 34 0 96 2 (qsf m) (qse rt l) e tm2 hp2):Rl 1 1 34 0 96 2 (qsf 0) (qse rt l) e tm2 hp2:=
 RunsL.roundsZ (fun k=>qsf k) (fun _=>qse rt l) (N:=m) m 0 (Nat.zero_add _) (fun k _ hk r=>by
  obtain⟨p,hp⟩:=qak (l:=l) (k:=k) (by omega)
  obtain⟨c1,c2,c3,c4⟩:=hg k hk p hp
  have ha:=qiH (rt:=rt) (l:=l) p.a
  have hb:=qiH (rt:=rt) (l:=l) p.b
  rw[qeH c1] at ha
  rw[qeH c2] at hb
  exact ql7 (hlt:=dt (by omega)) (hk:=hp) (hin:=⟨by omega,by omega⟩) (ha:=ha) (hb:=hb) (h1:=df (by omega)) (h2:=df (by omega)) (hs:=qau (by omega)) r) r
theorem qr6 (hl:l.length≤999999):Fn 34 1 [trS 0 rt l] [(0,0,qaa l)] (.pv (iV (chE ⟨rt,l⟩))) 0 []:=by
 by_cases hm:64<l.length
 ·rw[qex (x:=⟨rt,l⟩) hm];exact qlV (hm:=dt (by omega))
 have hm':decide ((l.length:Int)>64)=false:=df (by omega)
 have no:¬ VT ⟨rt,l⟩→chE ⟨rt,l⟩=8:=qgX hm
 have hL:=qiH (rt:=rt) (l:=l) rt
 by_cases hr : -1≤rt∧rt<(l.length:Int)
 rotate_left
 ·rw[no fun ⟨_,_,T,hT⟩=>hr hT.root.1]
  rw[qft hr] at hL
  exact qk7 (hm:=hm') (hl:=hL)
 rw[qeH hr] at hL
 by_cases hre:rt = -1↔l.length=0
 rotate_left
 ·rw[no fun ⟨_,_,T,hT⟩=>hre hT.root.2]
  by_cases h1:rt = -1
  ·exact qim (hm:=hm') (hl:=hL) (hr:=beq_iff_eq.2 h1) (h0:=beq_eq_false_iff_ne.2 (by omega))
  ·exact qhp (hm:=hm') (hl:=hL) (hr:=beq_eq_false_iff_ne.2 h1) (h0:=beq_iff_eq.2 (by omega))
 have he:(rt==(-1))=true∧((l.length:Int)==0)=true∨(rt==(-1))=false∧((l.length:Int)==0)=false:=by
  by_cases h1:rt = -1
  ·exact Or.inl ⟨beq_iff_eq.2 h1,beq_iff_eq.2 (by omega)⟩
  ·exact Or.inr ⟨beq_eq_false_iff_ne.2 h1,beq_eq_false_iff_ne.2 (by omega)⟩
 rcases qaN (fun k=>∀ p,l[k]?=some p→GdN l p) l.length with hg | ⟨k,hk,hb,hg⟩
 rotate_left
 ·simp only[Classical.not_forall] at hb
  obtain⟨p,hp,hb⟩:=hb
  rw[no fun ⟨_,hrng,T,hT⟩=>hb ⟨(hT.lnk p (List.mem_of_getElem? hp)).1,(hT.lnk p (List.mem_of_getElem? hp)).2,hrng p (List.mem_of_getElem? hp)⟩]
  have r:=cks (rt:=rt) hl (Nat.le_of_lt hk) hg (ckb hp hb)
  rcases he with ⟨e1,e2⟩ | ⟨e1,e2⟩
  ·exact ql6 (hm:=hm') (hl:=hL) (hr:=e1) (h0:=e2) (r0:=r)
  ·exact qlY (hm:=hm') (hl:=hL) (hr:=e1) (h0:=e2) (r0:=r)
 have hgd:∀ p∈l,GdN l p:=fun p hp=>by
  obtain⟨k,hk⟩:=List.getElem?_of_mem hp
  exact hg k (qai hk) p hk
 have hLn:Lnk ⟨rt,l⟩:=fun p hp=>⟨(hgd p hp).1,(hgd p hp).2.1⟩
 have r0:=cks (rt:=rt) hl (Nat.le_refl _) hg (qnM (rt:=rt) (l:=l) (k:=l.length) (hlt:=df (by omega)))
 have ho:=qs3 (rt:=rt) hLn (by omega)
 by_cases h1:One ⟨rt,l⟩
 rotate_left
 ·rw[no fun ⟨_,_,T,hT⟩=>h1 hT.one]
  rw[qft h1] at ho
  rcases he with ⟨e1,e2⟩ | ⟨e1,e2⟩
  ·exact qiU (hm:=hm') (hl:=hL) (hr:=e1) (h0:=e2) (r0:=r0) (ho:=ho)
  ·exact qjg (hm:=hm') (hl:=hL) (hr:=e1) (h0:=e2) (r0:=r0) (ho:=ho)
 rw[qeH h1] at ho
 obtain⟨T,hT⟩:=One.tree h1 hLn hr
 have hT:Rep l rt T:=hT
 have hnd:T.list.Nodup:=Rep.nodup h1 hT
 have hTl:T.list.length≤l.length:=by
  have:=hnd.length_le_of_subset (l₂:=List.range l.length) fun v hv=>List.mem_range.2 (hT.lt v hv)
  rwa [List.length_range] at this
 have hre2:=qq2 hl hT hTl
 by_cases hall:T.list.length=l.length
 rotate_left
 ·rw[no fun ⟨_,_,T',hT'⟩=>hall (by rw[hT.uniq hT'.rep];exact hT'.all)]
  rw[decide_eq_false hall] at hre2
  rcases he with ⟨e1,e2⟩ | ⟨e1,e2⟩
  ·exact qhZ (hm:=hm') (hl:=hL) (hr:=e1) (h0:=e2) (r0:=r0) (ho:=ho) (hrc:=hre2)
  ·exact qhm (hm:=hm') (hl:=hL) (hr:=e1) (h0:=e2) (r0:=r0) (ho:=ho) (hrc:=hre2)
 rw[decide_eq_true hall] at hre2
 have hw:=qrm hl hT hTl
 have hwl:=qdw T
 have at2:∀ j,j<T.list.length→∃ k p,T.list[j]?=some k∧l[k]?=some p∧k<l.length:=fun j hj=>by
  have hk:=List.getElem?_eq_getElem hj
  have hkl:=hT.lt _ (List.mem_of_getElem? hk)
  exact⟨_,_,hk,qas hkl,hkl⟩
 have step:∀ m,1≤m→m≤T.list.length→(∀ j,1≤j→j<m→∀ a b,T.list[j-1]?=some a→T.list[j]?=some b→idN l a<idN l b)→∀ {e:Exit} {tm2:TmL} {hp2:HpL},
  Rl 1 1 34 1 96 3 (qrZ (wL T) m) (qrW rt l (wL T)) e tm2 hp2→Rl 1 1 34 1 96 3 (qrZ (wL T) 1) (qrW rt l (wL T)) e tm2 hp2:=by
  intro m h1 hm2 hlt e tm2 hp2 r
  refine RunsL.roundsZ (fun k=>qrZ (wL T) k) (fun _=>qrW rt l (wL T)) (N:=m) (m-1) 1 (by omega) (fun k k1 k2 r=>?_) r
  obtain⟨u,p,hu,hp,hul⟩:=at2 (k-1) (by omega)
  obtain⟨v,q,hv,hq,hvl⟩:=at2 k (by omega)
  have:=hlt k k1 k2 u v hu hv
  rw[qaQ hp,qaQ hq] at this
  exact qir (j:=k-1) (hlt:=dt (by omega)) (hs1:=by rw[qeA (by omega) (by omega)];congr 1;omega) (hji:=⟨by omega,by omega⟩) (hgj:=qfI hu) (hyi:=⟨by omega,by omega⟩) (hp:=hp) (hki:=⟨by omega,by omega⟩) (hgk:=qfI hv) (hzi:=⟨by omega,by omega⟩) (hq:=hq) (hc:=df (by omega)) (hs:=qau (by omega)) r
 rcases qaN (fun k=>1≤k→∀ a b,T.list[k-1]?=some a→T.list[k]?=some b→idN l a<idN l b) T.list.length with h | ⟨k,hk,hb,hf⟩
 ·have hup:(T.list.map (idN l)).Pairwise (· < ·):=qfR fun j p q hp hq=>h (j+1) (qai hq) (by omega) p q hp hq
  rw[qkl (x:=⟨rt,l⟩) ⟨by show l.length≤64;omega,fun p hp=>(hgd p hp).2.2,T,hT,hall,hup⟩]
  have r1:Rl 1 1 34 1 96 3 (qrZ (wL T) 1) (qrW rt l (wL T)) (.exit 2) [] []:=by
   rcases Nat.eq_zero_or_pos T.list.length with h0 | h0
   ·exact qgF (hlt:=df (by omega))
   ·exact step T.list.length h0 (Nat.le_refl _) (fun j j1 j2=>h j j2 j1) (qgF (hlt:=df (by omega)))
  rcases he with ⟨e1,e2⟩ | ⟨e1,e2⟩
  ·exact qoR (hm:=hm') (hl:=hL) (hr:=e1) (h0:=e2) (r0:=r0) (ho:=ho) (hrc:=hre2) (hw:=hw) (r1:=r1)
  ·exact qnX (hm:=hm') (hl:=hL) (hr:=e1) (h0:=e2) (r0:=r0) (ho:=ho) (hrc:=hre2) (hw:=hw) (r1:=r1)
 ·simp only[Classical.not_forall] at hb
  obtain⟨k1,a,b,ha,hb,hlt⟩:=hb
  rw[no fun ⟨_,_,T',hT'⟩=>hlt (by
   have e:=hT.uniq hT'.rep
   subst e
   exact qjZ hT'.up ha (by rw[show k-1+1=k by omega];exact hb))]
  obtain⟨u,p,hu,hp,hul⟩:=at2 (k-1) (by omega)
  obtain⟨v,q,hv,hq,hvl⟩:=at2 k (by omega)
  rw[ha] at hu
  rw[hb] at hv
  cases hu
  cases hv
  rw[qaQ hp,qaQ hq] at hlt
  have r1:=step k k1 (by omega) (fun j j1 j2=>hf j j2 j1) (qlq (j:=k-1) (hlt:=dt (by omega)) (hs1:=by rw[qeA (by omega) (by omega)];congr 1;omega) (hji:=⟨by omega,by omega⟩) (hgj:=qfI ha) (hyi:=⟨by omega,by omega⟩) (hp:=hp) (hki:=⟨by omega,by omega⟩) (hgk:=qfI hb) (hzi:=⟨by omega,by omega⟩) (hq:=hq) (hc:=dt (by omega)))
  rcases he with ⟨e1,e2⟩ | ⟨e1,e2⟩
  ·exact qlp (hm:=hm') (hl:=hL) (hr:=e1) (h0:=e2) (r0:=r0) (ho:=ho) (hrc:=hre2) (hw:=hw) (r1:=r1)
  ·exact qkT (hm:=hm') (hl:=hL) (hr:=e1) (h0:=e2) (r0:=r0) (ho:=ho) (hrc:=hre2) (hw:=hw) (r1:=r1)
end
end Go.Proofs.Ytalnjplghagbpaa

namespace Go.Proofs.Ytalnjplghagbpaa
set_option maxRecDepth 100000
open Go.RowKit
def frM (l:List Pt):Nat→Int→List Bool→List Int→Bool×List Bool×List Int
 | 0,_,s,g=>(false,s,g)
 | f+1,z,s,g=>
  if z = -1 then (true,s,g) else
  if 0≤z∧z<(l.length:Int)∧s[z.toNat]?=some false then
   if (frM l f (ndT l z.toNat).a (s.set z.toNat true) g).1=true then
    frM l f (ndT l z.toNat).b (frM l f (ndT l z.toNat).a (s.set z.toNat true) g).2.1 ((frM l f (ndT l z.toNat).a (s.set z.toNat true) g).2.2++[z])
   else frM l f (ndT l z.toNat).a (s.set z.toNat true) g
  else (false,s,g)
theorem qgN {s:List Bool}:∀ {k:Nat},s[k]?=some false→(s.set k true).count false+1=s.count false:=by
 induction s with
 | nil=>intro k h;simp at h
 | cons b r ih=>
  intro k h
  cases k with
  | zero=>simp at h;subst h;simp
  | succ k=>
   have:=ih (k:=k) (by simpa using h)
   rw[List.set_cons_succ,List.count_cons,List.count_cons]
   omega
theorem qgL (l:List Pt):∀ (f:Nat) (z:Int) (s:List Bool) (g:List Int),(frM l f z s g).2.1.length=s.length∧(frM l f z s g).2.1.count false≤s.count false∧(frM l f z s g).2.2.length+(frM l f z s g).2.1.count false≤g.length+s.count false
 | 0,_,_,_=>⟨rfl,Nat.le_refl _,Nat.le_refl _⟩
 | f+1,z,s,g=>by
  unfold frM
  split
  ·exact⟨rfl,Nat.le_refl _,Nat.le_refl _⟩
  ·split
   ·rename_i h
    have hc:=qgN h.2.2
    obtain⟨a1,a2,a3⟩:=qgL l f (ndT l z.toNat).a (s.set z.toNat true) g
    rw[List.length_set] at a1
    split
    ·obtain⟨b1,b2,b3⟩:=qgL l f (ndT l z.toNat).b (frM l f (ndT l z.toNat).a (s.set z.toNat true) g).2.1 ((frM l f (ndT l z.toNat).a (s.set z.toNat true) g).2.2++[z])
     rw[List.length_append,List.length_singleton] at b3
     exact⟨b1.trans a1,by omega,by omega⟩
    ·exact⟨a1,by omega,by omega⟩
   ·exact⟨rfl,Nat.le_refl _,Nat.le_refl _⟩
section
variable {rt:Int} {l:List Pt}
abbrev FrO (l:List Pt) (z:Int) (s:List Bool) (n:Nat) (v:List Value) (w:Bool) (s':List Bool) (m o n':Nat) (v':List Value):Prop:=
 FnO Try.prog 83 1 4 [.pp 3 0,.pv (iV z)] [(3,0,.ls 0 l.length),(3,1,.ls 1 l.length),(3,2,.ls 2 n),(1,0,.row 4 1 l.length (zbV s)),(2,0,.row 3 1 n v),(0,0,qaa l)]
  (.pv (.bool w)) m [(3,0,.ls 0 l.length),(3,1,.ls 1 l.length),(3,2,.ls o n'),(1,0,.row 4 1 l.length (zbV s')),(o,0,.row 3 1 n' v')]
theorem qn7:∀ (f:Nat) (z:Int) (s:List Bool) (g:List Int) {n:Nat} {v:List Value},s.length=l.length→n=g.length→v=ziV g→s.count false<f→n+s.count false≤999999→
 (FrO l z s n v (frM l f z s g).1 (frM l f z s g).2.1 0 2 n v∧(frM l f z s g).2.2=g)∨FrO l z s n v (frM l f z s g).1 (frM l f z s g).2.1 1 4 (frM l f z s g).2.2.length (ziV (frM l f z s g).2.2)
 | 0,_,_,_,_,_,_,_,_,h,_=>by omega
 | f+1,z,s,g,n,v,hs,hn,hv,hf,hb=>by
  subst hn hv
  unfold frM
  split
  ·rename_i h0
   exact Or.inl ⟨qoz (h0:=beq_iff_eq.2 h0),rfl⟩
  ·rename_i h0
   have h0':(z==(-1))=false:=beq_eq_false_iff_ne.2 h0
   split
   ·rename_i h
    obtain⟨z0,z1,z2⟩:=h
    have hc:=qgN z2
    have hk:=qas (n:=l) (k:=z.toNat) (by omega)
    obtain⟨a1,a2,a3⟩:=qgL l f (ndT l z.toNat).a (s.set z.toNat true) g
    rw[List.length_set] at a1
    have ihl:=qn7 f (ndT l z.toNat).a (s.set z.toNat true) g (by rw[List.length_set];exact hs) rfl rfl (by omega) (by omega)
    have hb1:=qai z2
    have c1:decide (z<0)=false:=df (by omega)
    have c2:decide (z≥(l.length:Int))=false:=df (by omega)
    generalize frM l f (ndT l z.toNat).a (s.set z.toNat true) g=r at *
    obtain⟨w1,s1,g1⟩:=r
    simp only at ihl a1 a2 a3 ⊢
    cases w1
    ·rw[if_neg (by decide)]
     rcases ihl with ⟨h1,h2⟩ | h1
     ·exact Or.inl ⟨qrq (h0:=h0') (h1:=c1) (h2:=c2) (hin:=⟨z0,z1⟩) (hs:=z2) (hb:=hb1) (hk:=hk) (hl:=h1),h2⟩
     ·exact Or.inr (qqq (h0:=h0') (h1:=c1) (h2:=c2) (hin:=⟨z0,z1⟩) (hs:=z2) (hb:=hb1) (hk:=hk) (hl:=h1))
    ·rw[if_pos rfl]
     have lr:(g1++[z]).length=g1.length+1:=by simp
     have ihr:=qn7 f (ndT l z.toNat).b s1 (g1++[z]) (a1.trans hs) lr.symm (qbi g1 z).symm (by omega) (by omega)
     obtain⟨b1,b2,b3⟩:=qgL l f (ndT l z.toNat).b s1 (g1++[z])
     generalize frM l f (ndT l z.toNat).b s1 (g1++[z])=r at *
     obtain⟨w2,s2,g2⟩:=r
     simp only at ihr b1 b2 b3 ⊢
     refine Or.inr ?_
     rcases ihl with ⟨hl1,hl2⟩ | hl1
     ·subst hl2
      rcases ihr with ⟨hr1,hr2⟩ | hr1
      ·subst hr2
       rw[lr,qbi]
       exact qrB (h0:=h0') (h1:=c1) (h2:=c2) (hin:=⟨z0,z1⟩) (hs:=z2) (hb:=hb1) (hk:=hk) (hl:=hl1) (hn:=by omega) (hr:=hr1)
      ·exact qqJ (h0:=h0') (h1:=c1) (h2:=c2) (hin:=⟨z0,z1⟩) (hs:=z2) (hb:=hb1) (hk:=hk) (hl:=hl1) (hn:=by omega) (hr:=hr1)
     ·rcases ihr with ⟨hr1,hr2⟩ | hr1
      ·subst hr2
       rw[lr,qbi]
       exact qp7 (h0:=h0') (h1:=c1) (h2:=c2) (hin:=⟨z0,z1⟩) (hs:=z2) (hb:=hb1) (hk:=hk) (hl:=hl1) (hn:=by omega) (hr:=hr1)
      ·exact qqh (h0:=h0') (h1:=c1) (h2:=c2) (hin:=⟨z0,z1⟩) (hs:=z2) (hb:=hb1) (hk:=hk) (hl:=hl1) (hn:=by omega) (hr:=hr1)
   ·rename_i h
    refine Or.inl ⟨?_,rfl⟩
    by_cases z0:z<0
    ·exact qoM (h0:=h0') (h1:=dt z0)
    ·by_cases z1:z≥(l.length:Int)
     ·exact qpd (h0:=h0') (h1:=df z0) (h2:=dt z1)
     ·have z2:s[z.toNat]?=some true:=by
       have hz:z.toNat<s.length:=by omega
       rw[List.getElem?_eq_getElem hz]
       cases e:s[z.toNat] with
       | true=>rfl
       | false=>exact (h ⟨by omega,by omega,by rw[List.getElem?_eq_getElem hz,e]⟩).elim
      exact qll (h0:=h0') (h1:=df z0) (h2:=df z1) (hin:=⟨by omega,by omega⟩) (hs:=z2)
def qcy:Sh Nat→List Bool→List Bool
 | .nil,s=>s
 | .node a k b,s=>qcy b (qcy a (s.set k true))
theorem qbQ:∀ (T:Sh Nat) (s:List Bool),(qcy T s).length=s.length
 | .nil,_=>rfl
 | .node a k b,s=>by unfold qcy;rw[qbQ b,qbQ a,List.length_set]
theorem qc8 (j:Nat):∀ (T:Sh Nat) (s:List Bool),j<s.length→(qcy T s)[j]?=if j∈T.list then some true else s[j]?
 | .nil,s,_=>by unfold qcy;simp[Sh.list]
 | .node a k b,s,h=>by
  unfold qcy
  rw[qc8 j b _ (by rw[qbQ,List.length_set];exact h),qc8 j a _ (by rw[List.length_set];exact h),List.getElem?_set]
  have e:j∈(Sh.node a k b).list↔j∈a.list∨j=k∨j∈b.list:=by simp[Sh.list]
  by_cases h1:j∈b.list
  ·rw[if_pos h1,if_pos (e.2 (Or.inr (Or.inr h1)))]
  ·rw[if_neg h1]
   by_cases h2:j∈a.list
   ·rw[if_pos h2,if_pos (e.2 (Or.inl h2))]
   ·rw[if_neg h2]
    by_cases h3:k=j
    ·rw[if_pos h3,if_pos (by omega),if_pos (e.2 (Or.inr (Or.inl h3.symm)))]
    ·rw[if_neg h3,if_neg (fun h=>(e.1 h).elim h2 fun h=>h.elim (fun h=>h3 h.symm) h1)]
theorem qed:∀ (f:Nat) (z:Int) (s:List Bool) (g:List Int),s.length=l.length→(frM l f z s g).1=true→
 ∃ T,Rep l z T∧T.list.Nodup∧(∀ k∈T.list,s[k]?=some false)∧(frM l f z s g).2.1=qcy T s∧(frM l f z s g).2.2=g++wL T
 | 0,_,_,_,_,h=>by cases h
 | f+1,z,s,g,hs,h=>by
  unfold frM at h ⊢
  split at h
  ·rename_i h0
   rw[if_pos h0]
   exact⟨.nil,h0,.nil,fun k hk=>(by cases hk),rfl,by rw[qcW,List.append_nil]⟩
  ·rename_i h0
   rw[if_neg h0]
   split at h
   ·rename_i hc
    rw[if_pos hc]
    obtain⟨z0,z1,z2⟩:=hc
    have hk:=qas (n:=l) (k:=z.toNat) (by omega)
    have hez:((z.toNat:Nat):Int)=z:=by omega
    split at h
    ·rename_i hw
     rw[if_pos hw]
     have hls:(s.set z.toNat true).length=l.length:=by rw[List.length_set];exact hs
     obtain⟨A,ra,na,ua,sa,ga⟩:=qed f (ndT l z.toNat).a (s.set z.toNat true) g hls hw
     rw[sa,ga] at h ⊢
     obtain⟨C,rc,nc,uc,sc,gc⟩:=qed f (ndT l z.toNat).b _ _ (by rw[qbQ];exact hls) h
     have inA:∀ k∈A.list,k≠z.toNat∧s[k]?=some false:=fun k hk=>by
      have:=ua k hk
      rw[List.getElem?_set] at this
      split at this
      ·split at this<;>cases this
      ·rename_i hne;exact⟨fun e=>hne e.symm,this⟩
     have inC:∀ k∈C.list,k∉A.list∧k≠z.toNat∧s[k]?=some false:=fun k hk=>by
      have h1:=uc k hk
      have hlt:=rc.lt k hk
      rw[qc8 k A _ (by omega)] at h1
      split at h1
      ·cases h1
      ·rename_i hn
       rw[List.getElem?_set] at h1
       split at h1
       ·split at h1<;>cases h1
       ·rename_i hne;exact⟨hn,fun e=>hne e.symm,h1⟩
     refine⟨.node A z.toNat C,⟨hez.symm,_,hk,ra,rc⟩,?_,fun k hk=>?_,?_,?_⟩
     ·show (A.list++z.toNat::C.list).Nodup
      refine List.nodup_append.2 ⟨na,List.nodup_cons.2 ⟨fun hm=>(inC _ hm).2.1 rfl,nc⟩,fun a ha b hb e=>?_⟩
      subst e
      rcases List.mem_cons.1 hb with hb | hb
      ·exact (inA a ha).1 hb
      ·exact (inC a hb).1 ha
     ·rcases List.mem_append.1 hk with hk | hk
      ·exact (inA k hk).2
      ·rcases List.mem_cons.1 hk with rfl | hk
       ·exact z2
       ·exact (inC k hk).2.2
     ·rw[sc];rfl
     ·rw[gc,qet,hez];simp
    ·rename_i hw
     exact (hw h).elim
   ·cases h
theorem qkK:∀ {T:Sh Nat} {f:Nat} {z:Int} {s:List Bool} {g:List Int},Rep l z T→T.list.Nodup→s.length=l.length→(∀ k∈T.list,s[k]?=some false)→T.list.length<f→frM l f z s g=(true,qcy T s,g++wL T):=by
 intro T
 induction T with
 | nil=>
  intro f z s g hr _ _ _ hf
  have h:z = -1:=hr
  obtain⟨f',rfl⟩:∃ f',f=f'+1:=⟨f-1,by omega⟩
  unfold frM
  rw[if_pos h,qcW,List.append_nil]
  rfl
 | node a k b iha ihb=>
  intro f z s g hr hnd hs hu hf
  obtain⟨f',rfl⟩:∃ f',f=f'+1:=⟨f-1,by omega⟩
  obtain⟨rfl,p,hp,a1,a2⟩:=hr
  have hkl:=qai hp
  have hl':(Sh.node a k b).list.length=a.list.length+(b.list.length+1):=by simp[Sh.list]
  obtain⟨o1,o2,o3,o4⟩:=Sh.mid_out hnd
  have dis:∀ y∈a.list,y∉b.list:=fun y hy hr=>(List.nodup_append.1 hnd).2.2 y hy y (List.mem_cons_of_mem _ hr) rfl
  have ek:ndT l (k:Int).toNat=p:=by
   have:=qas (n:=l) (k:=k) hkl
   rw[hp] at this
   exact (Option.some.inj this).symm
  have mk:k∈(Sh.node a k b).list:=List.mem_append_right _ List.mem_cons_self
  have ua:∀ j∈a.list,(s.set k true)[j]?=some false:=fun j hj=>by
   rw[List.getElem?_set_ne (fun e=>o1 (by rw[e];exact hj))]
   exact hu j (List.mem_append_left _ hj)
  have hsl:(s.set k true).length=l.length:=by rw[List.length_set];exact hs
  have ha:=iha (f:=f') (g:=g) a1 o3 hsl ua (by omega)
  have ub:∀ j∈b.list,(qcy a (s.set k true))[j]?=some false:=fun j hj=>by
   rw[qc8 j a _ (by rw[hsl];exact a2.lt j hj),if_neg (fun h=>dis j h hj),List.getElem?_set_ne (fun e=>o2 (by rw[e];exact hj))]
   exact hu j (List.mem_append_right _ (List.mem_cons_of_mem _ hj))
  have hb:=ihb (f:=f') (g:=(g++wL a)++[(k:Int)]) a2 o4 (by rw[qbQ];exact hsl) ub (by omega)
  have h0:¬ (k:Int) = -1:=by omega
  have h1:0≤(k:Int)∧(k:Int)<(l.length:Int)∧s[(k:Int).toNat]?=some false:=⟨by omega,by omega,hu k mk⟩
  unfold frM
  rw[if_neg h0,if_pos h1,ek]
  have ha':frM l f' p.a (s.set (k:Int).toNat true) g=(true,qcy a (s.set k true),g++wL a):=ha
  rw[ha']
  rw[if_pos rfl]
  show frM l f' p.b (qcy a (s.set k true)) ((g++wL a)++[(k:Int)])=_
  rw[hb,qet]
  simp[qcy]
theorem qki (n:Nat):(List.replicate n false).count false=n:=by simp
def Whole (x:Tr) (T:Sh Nat):Prop:=Rep x.n x.r T∧T.list.Nodup∧T.list.length=x.n.length
theorem qtC (hl:l.length≤999999):∃ (w:Bool) (g:List Int),Fn 45 1 [trS 0 rt l] [(0,0,qaa l)] (.tu [.one (.ls 1 g.length),.one (.pv (.bool w))]) 1 [(1,0,zrI g)]∧
 ((w=true∧∃ T,Whole ⟨rt,l⟩ T∧g=wL T)∨(w=false∧∀ T,¬ Whole ⟨rt,l⟩ T)):=by
 have hf:=qn7 (l:=l) (l.length+1) rt (List.replicate l.length false) [] (n:=0) (v:=[]) (by simp) rfl rfl (by rw[qki];omega) (by rw[qki];omega)
 have ht:=qed (l:=l) (l.length+1) rt (List.replicate l.length false) [] (by simp)
 have hall:∀ T,Whole ⟨rt,l⟩ T→frM l (l.length+1) rt (List.replicate l.length false) []=(true,qcy T (List.replicate l.length false),[]++wL T):=fun T h=>
  qkK h.1 h.2.1 (by simp) (fun k hk=>by rw[List.getElem?_replicate,if_pos (h.1.lt k hk)]) (by have e:T.list.length=l.length:=h.2.2;omega)
 generalize frM l (l.length+1) rt (List.replicate l.length false) []=r at *
 obtain⟨w,s1,g⟩:=r
 simp only at hf ht
 have fin:w=true→(g.length=l.length→∃ T,Whole ⟨rt,l⟩ T∧g=wL T)∧(g.length≠l.length→∀ T,¬ Whole ⟨rt,l⟩ T):=by
  intro hw
  obtain⟨T,t1,t2,_,_,t5⟩:=ht hw
  rw[List.nil_append] at t5
  refine⟨fun e=>⟨T,⟨t1,t2,by rw[← qdw,← t5];exact e⟩,t5⟩,fun e T' h'=>e ?_⟩
  have:=hall T' h'
  simp only[Prod.mk.injEq,List.nil_append] at this
  rw[this.2.2,qdw]
  exact h'.2.2
 have nofin:w=false→∀ T,¬ Whole ⟨rt,l⟩ T:=fun hw T h=>by
  have:=hall T h
  simp only[Prod.mk.injEq] at this
  rw[hw] at this
  cases this.1
 cases w
 ·rcases hf with ⟨h1,h2⟩ | h1
  ·subst h2
   exact⟨false,[],qqr (m0:=by omega) (m1:=by omega) (hf:=h1),Or.inr ⟨rfl,nofin rfl⟩⟩
  ·exact⟨false,g,qp3 (m0:=by omega) (m1:=by omega) (hf:=h1),Or.inr ⟨rfl,nofin rfl⟩⟩
 ·obtain⟨f1,f2⟩:=fin rfl
  by_cases e:g.length=l.length
  ·refine⟨true,g,?_,Or.inl ⟨rfl,f1 e⟩⟩
   rcases hf with ⟨h1,h2⟩ | h1
   ·subst h2
    exact qjD (m0:=by omega) (m1:=by omega) (hf:=h1) (he:=beq_iff_eq.2 (by rw[← e];rfl))
   ·exact qj0 (m0:=by omega) (m1:=by omega) (hf:=h1) (he:=beq_iff_eq.2 (by rw[e]))
  ·refine⟨false,g,?_,Or.inr ⟨rfl,f2 e⟩⟩
   rcases hf with ⟨h1,h2⟩ | h1
   ·subst h2
    exact qh0 (m0:=by omega) (m1:=by omega) (hf:=h1) (he:=beq_eq_false_iff_ne.2 fun h=>e (by have:(0:Int)=(l.length:Int):=h;show 0=l.length;omega))
   ·exact qhC (m0:=by omega) (m1:=by omega) (hf:=h1) (he:=beq_eq_false_iff_ne.2 fun h=>e (by omega))
end
end Go.Proofs.Ytalnjplghagbpaa
