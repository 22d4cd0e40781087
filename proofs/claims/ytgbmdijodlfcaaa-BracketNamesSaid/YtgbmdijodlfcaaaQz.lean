/-
  BracketNames holds. Conditions: none.
-/
import Derived.Test.YtgbmdijodlfcaaaW36
import Derived.Test.YtgbmdijodlfcaaaW21
namespace Go.Proofs.Ytgbmdijodlfcaaa
set_option maxRecDepth 100000
open Go.RowKit
theorem qfz:qdR qau=4:=by
 unfold qdR
 rw[if_pos (by show 64<(List.replicate 65 (Pt.mk 0 0 0)).length;rw[List.length_replicate];omega)]
theorem qcB (n d:Int):tE qau n d=4:=by
 rw[qdk,if_neg (by rw[qfz];decide),qfz]
theorem qct:tE qaj 0 0=8:=by
 unfold tE
 rw[if_pos (qeB.2 qbX),if_neg (by decide)]
theorem qlt {s:List Pt} {tn td:Int} {p:List Int} (h:tE s tn td≠0):buE s tn td p=tE s tn td:=by unfold buE;rw[if_neg h]
theorem qlz {s:List Pt} {tn td:Int} {p:List Int} (h:tE s tn td=0) (h1:¬ (1≤p.length∧p.length≤64)):buE s tn td p=2:=by unfold buE;rw[if_pos h,if_neg h1]
theorem qlB {s:List Pt} {tn td:Int} {p:List Int} (h:tE s tn td=0) (h1:1≤p.length∧p.length≤64) (h2:¬ KnB s p):buE s tn td p=6:=by unfold buE;rw[if_pos h,if_pos h1,if_neg h2]
theorem qoa {s:List Pt} {tn td:Int} {p:List Int} (h:tE s tn td=0) (h1:1≤p.length∧p.length≤64) (h2:KnB s p) (h3:¬ OneB p):buE s tn td p=14:=by unfold buE;rw[if_pos h,if_pos h1,if_pos h2,if_neg h3]
theorem qd2 {s:List Pt} {p:List Int} {x:Int} (hx:x∈p) (h1:x≠-1) (h:∀ q∈s,q.id≠x):¬ KnB s p:=fun k=>by
 obtain⟨q,hq,e⟩:=k x hx h1
 exact h q hq e
theorem qgE {p:List Int} {i k:Nat} {x:Int} (hi:p[i]?=some x) (hk:p[k]?=some x) (h0:0≤x) (h:i≠k):¬ OneB p:=fun o=>h (o i k x hi hk h0)
abbrev two10:Br:=⟨[1,5],[5]⟩
theorem qkG:VB two10:=⟨by decide,by decide,rfl,by decide,qey (by decide),by decide⟩
theorem qou {a:Br} {p w:List Int} (h1:a.p=p) (h2:a.w=w):a=⟨p,w⟩:=by
 cases a
 simp only at h1 h2
 rw[h1,h2]
theorem qf4:Fn 3 0 [] [] (.pv (.bool true)) 0 []:=by
 have z0:I64 0:=qfN (by omega) (by omega)
 have z1:I64 1:=qfN (by omega) (by omega)
 have zm:I64 (-1):=qfN (by omega) (by omega)
 have ht:=qmC 0 (by decide)
 have htm:=qmC (-1) (by decide)
 have c2:(([1,5],[5]):List Int×List Int)=([1,5],[5]):=rfl
 clear c2
 have e1:buE qau 0 0 []=4:=by rw[qlt (by rw[qcB];decide),qcB]
 have a1:=qbi z0 z0 (s:=qau) (p:=[]) (by decide) (by rw[e1];decide)
 rw[e1] at a1
 have e2:buE qaj 0 0 []=8:=by rw[qlt (by rw[qct];decide),qct]
 have a2:=qbi z0 z0 (s:=qaj) (p:=[]) (by decide) (by rw[e2];decide)
 rw[e2] at a2
 have e3:buE qaj 0 1 []=2:=qlz ht (by decide)
 have a3:=qbi z0 z1 (s:=qaj) (p:=[]) (by decide) (by rw[e3];decide)
 rw[e3] at a3
 have e4:buE qaj 0 1 (List.replicate 65 0)=2:=qlz ht (by rw[List.length_replicate];omega)
 have a4:=qbi z0 z1 (s:=qaj) (p:=List.replicate 65 0) (by rw[List.length_replicate];omega) (by rw[e4];decide)
 rw[e4] at a4
 have e5:buE qaj 0 1 [1,1,3]=6:=qlB ht (by decide) (qd2 (x:=3) (by decide) (by decide) (by decide))
 have a5:=qbi z0 z1 (s:=qaj) (p:=[1,1,3]) (by decide) (by rw[e5];decide)
 rw[e5] at a5
 have e6:buE qaj 0 1 [1,1,-1]=14:=qoa ht (by decide) (qhp (by decide)) (qgE (i:=0) (k:=1) (x:=1) rfl rfl (by decide) (by decide))
 have a6:=qbi z0 z1 (s:=qaj) (p:=[1,1,-1]) (by decide) (by rw[e6];decide)
 rw[e6] at a6
 have e7:buE qaj 0 1 [-2]=6:=qlB ht (by decide) (qd2 (x:=-2) (by decide) (by decide) (by decide))
 have a7:=qbi z0 z1 (s:=qaj) (p:=[-2]) (by decide) (by rw[e7];decide)
 rw[e7] at a7
 have a8:=qjY (s:=qaj) z0 z1 [-1,-1,-1] (by decide)
 obtain⟨f1,f2⟩:=qjV (p:=[-1,-1,-1]) ht (by decide) (qhp (by decide)) (qey (by decide))
 have vN:=qi0 (s:=qaj) (tn:=0) (td:=1) (p:=[-1,-1,-1]) qbX (by decide) (by decide) (qhp (by decide)) (qey (by decide))
 have f3:bld qaj 0 1 [-1,-1,-1]=⟨[-1,-1,-1],[-1,-1]⟩:=qou rfl (by decide)
 unfold qb0 at a8
 rw[f1,f2,f3] at a8
 rw[f3] at vN
 have a9:=qet (b:=⟨[-1,-1,-1],[-1,-1]⟩) (by decide) (by decide)
 unfold qff at a9
 rw[(qlg vN (by decide)).1,(qlg vN (by decide)).2] at a9
 have b1:=qjY (s:=qaj) z0 z1 [5] (by decide)
 obtain⟨f4,f5⟩:=qjV (p:=[5]) ht (by decide) (qhp (by decide)) (qey (by decide))
 have vO:=qi0 (s:=qaj) (tn:=0) (td:=1) (p:=[5]) qbX (by decide) (by decide) (qhp (by decide)) (qey (by decide))
 have f6:bld qaj 0 1 [5]=⟨[5],[]⟩:=qou rfl (by decide)
 unfold qb0 at b1
 rw[f4,f5,f6] at b1
 rw[f6] at vO
 have b2:=qet (b:=⟨[5],[]⟩) (by decide) (by decide)
 unfold qff at b2
 rw[(qhN vO (by decide)).1,(qhN vO (by decide)).2] at b2
 have b3:=qo7 (b:=⟨[5],[]⟩) (by decide) (by decide) 0
 unfold qd7 at b3
 rw[(qhu vO (by decide)).1,(qhu vO (by decide)).2,show wyV ((⟨[5],[]⟩:Br).w.length+(0:Int).toNat)=[] by decide] at b3
 have V2:=qkG
 have d1:=qgY (b:=two10) (z:=2) (by decide) (by decide) (by rw[(qfK V2 (by decide)).1];decide)
 rw[(qfK V2 (by decide)).1] at d1
 have g2:seE two10 qau 0 0 (-1) 9=4:=by rw[qfI V2 (by rw[qcB];decide),qcB]
 have d2:=qcj z0 z0 (s:=qau) (b:=two10) (z:=-1) (x:=9) (by decide) (by decide) (by rw[g2];decide)
 rw[g2] at d2
 have g3:seE two10 qaj 0 0 (-1) 9=8:=by rw[qfI V2 (by rw[qct];decide),qct]
 have d3:=qcj z0 z0 (s:=qaj) (b:=two10) (z:=-1) (x:=9) (by decide) (by decide) (by rw[g3];decide)
 rw[g3] at d3
 have g4:seE two10 qaj 0 1 2 9=2:=qgN V2 ht (by decide)
 have d4:=qcj z0 z1 (s:=qaj) (b:=two10) (z:=2) (x:=9) (by decide) (by decide) (by rw[g4];decide)
 rw[g4] at d4
 have g5:seE two10 qaj 0 1 0 9=6:=by
  rw[qee V2 ht (by decide)]
  unfold idE
  rw[if_neg (qd2 (x:=9) (by decide) (by decide) (by decide))]
 have d5:=qcj z0 z1 (s:=qaj) (b:=two10) (z:=0) (x:=9) (by decide) (by decide) (by rw[g5];decide)
 rw[g5] at d5
 have g6:seE two10 qaj 0 1 0 5=14:=by
  rw[qee V2 ht (by decide)]
  unfold idE
  rw[if_pos (qhp (by decide)),if_neg (qgE (i:=0) (k:=1) (x:=5) rfl rfl (by decide) (by decide))]
 have d6:=qcj z0 z1 (s:=qaj) (b:=two10) (z:=0) (x:=5) (by decide) (by decide) (by rw[g6];decide)
 rw[g6] at d6
 have d7:=qq6 zm z1 (s:=qaj) (b:=two10) (z:=1) (x:=5) (by decide) (by decide)
 obtain⟨g7,g8⟩:=qlE (s:=qaj) (tn:=-1) (td:=1) (b:=two10) (z:=1) (x:=5) V2 htm (by decide) (qhp (by decide)) (qey (by decide))
 have g9:seR qaj (-1) 1 two10 1 5=(two10,[]):=by
  rw[g8]
  generalize hq:rpF qaj (-1) 1 (wy (two10.w.length+(1:Int).toNat)) (⟨two10.p.set (1:Int).toNat 5,two10.w⟩,[])=q
  have h1:q.1.w=[5]:=by rw[← hq];decide
  have h2:q.2=[]:=by rw[← hq];decide
  have h3:q.1.p=[1,5]:=by rw[← hq];decide
  obtain⟨⟨p,w⟩,m⟩:=q
  simp only at h1 h2 h3
  rw[h1,h2,h3]
 unfold qfS at d7
 rw[g7,g9] at d7
 have hv2:Val [⟨2,6,-1⟩,⟨5,0,0⟩]:=⟨by show 2≤64;omega,fun p hp=>by
  simp only[List.mem_cons,List.not_mem_nil,or_false] at hp
  rcases hp with rfl | rfl<;>decide,fun k p q hp hq=>by
  match k,hp,hq with
  | 0,hp,hq=>cases hp;cases hq;decide
  | 1,_,hq=>simp at hq
  | k+2,hp,_=>simp at hp⟩
 have g10:seE two10 [⟨2,6,-1⟩,⟨5,0,0⟩] 0 1 1 2=6:=by
  rw[qee V2 (qkl hv2 (by decide)) (by decide)]
  unfold idE
  rw[if_neg (qd2 (x:=1) (by decide) (by decide) (by decide))]
 have d8:=qcj z0 z1 (s:=[⟨2,6,-1⟩,⟨5,0,0⟩]) (b:=two10) (z:=1) (x:=2) (by decide) (by decide) (by rw[g10];decide)
 rw[g10] at d8
 have d9:=qhg z0 z1 (s:=qaj) (b:=two10) (by decide) (by decide)
 unfold qbI at d9
 rw[(qeb V2 ht (qhp (by decide))).1,(qeb V2 ht (qhp (by decide))).2,qgX (p:=RtB qaj 0 1 two10) (by unfold RtB;decide)] at d9
 have f7:=qhg zm z1 (s:=qaj) (b:=two10) (by decide) (by decide)
 unfold qbI at f7
 rw[(qeb V2 htm (qhp (by decide))).1,(qeb V2 htm (qhp (by decide))).2,qhy (p:=RtB qaj (-1) 1 two10) (by unfold RtB;decide)] at f7
 have hnl:Val ([]:List Pt):=⟨by decide,fun p hp=>by (cases hp),fun k p q hp=>by simp at hp⟩
 have f8:=qhg z0 z1 (s:=[]) (b:=two10) (by decide) (by decide)
 unfold qbI at f8
 rw[(qku V2 (qkl hnl (by decide)) (qd2 (x:=1) (by decide) (by decide) (by decide))).1,(qku V2 (qkl hnl (by decide)) (qd2 (x:=1) (by decide) (by decide) (by decide))).2] at f8
 have k0:=qfo z0 z0 (s:=qau) (b:=⟨[],[]⟩) (by decide) (by decide) (fun V=>absurd V.n1 (by decide)) (-1) (-1) 9
 have k1:=qfo z0 z0 (s:=qau) (b:=⟨[1],[1]⟩) (by decide) (by decide) (fun V=>absurd V.w (by decide)) (-1) (-1) 9
 have k2:=qfo z0 z0 (s:=qau) (b:=⟨[1,1],[1]⟩) (by decide) (by decide) (fun V=>qgE (i:=0) (k:=1) (x:=1) rfl rfl (by decide) (by decide) V.one) (-1) (-1) 9
 have k3:=qfo z0 z0 (s:=qau) (b:=⟨[-2],[]⟩) (by decide) (by decide) (fun V=>absurd (V.rng (-2) (by decide)) (by decide)) (-1) (-1) 9
 have k4:=qfo z0 z0 (s:=qau) (b:=⟨[65536],[]⟩) (by decide) (by decide) (fun V=>absurd (V.rng 65536 (by decide)) (by decide)) (-1) (-1) 9
 have k5:=qfo z0 z0 (s:=qau) (b:=⟨[1,2],[3]⟩) (by decide) (by decide) (fun V=>absurd (V.kid 0 (by decide)) (by decide)) (-1) (-1) 9
 have k6:=qfo z0 z0 (s:=qau) (b:=⟨[1,-1],[-1]⟩) (by decide) (by decide) (fun V=>absurd (V.kid 0 (by decide)) (by decide)) (-1) (-1) 9
 have k7:=qfo z0 z0 (s:=qau) (b:=⟨List.replicate 65 0,List.replicate 64 0⟩) (by show (List.replicate 65 (0:Int)).length≤70;rw[List.length_replicate];omega) (by show (List.replicate 64 (0:Int)).length≤70;rw[List.length_replicate];omega) (fun V=>absurd V.n2 (by show ¬ (List.replicate 65 (0:Int)).length≤64;rw[List.length_replicate];omega)) (-1) (-1) 9
 refine qkK (a1:=qjk a1) (hg:=qjN) (a2:=qjk a2) (hat0:=qny) (a3:=qjk a3) (a4:=a4) (a5:=a5) (a6:=a6) (a7:=a7) (a8:=a8) (a9:=a9) (b1:=b1) (b2:=b2) (b3:=b3) (r0:=?_) (d1:=d1) (d2:=d2) (d3:=d3) (d4:=d4) (d5:=d5) (d6:=d6) (hatm:=qny) (d7:=d7)
  (d8:=qn6 (vs:=[qac 0 1,iV 1,iV 2]) d8) (d9:=d9) (f1:=f7) (f2:=qqp (vs:=[qac 0 1]) f8) (hs:=qmv (by decide) (by decide)) (hal:=qm4)
 refine qpT (c1:=qiJ k0.1) (c2:=qiJ k0.2.1) (c3:=qim k0.2.2.1) (c4:=qim k0.2.2.2.1) (c5:=qiJ k0.2.2.2.2) (r:=?_)
 refine qp0 (c1:=k1.1) (c2:=k1.2.1) (c3:=k1.2.2.1) (c4:=k1.2.2.2.1) (c5:=k1.2.2.2.2) (r:=?_)
 refine qpQ (c1:=k2.1) (c2:=k2.2.1) (c3:=k2.2.2.1) (c4:=k2.2.2.2.1) (c5:=k2.2.2.2.2) (r:=?_)
 refine qqE (c1:=qdW k3.1) (c2:=qdW k3.2.1) (c3:=qeR k3.2.2.1) (c4:=qeR k3.2.2.2.1) (c5:=qdW k3.2.2.2.2) (r:=?_)
 refine qqt (c1:=qdW k4.1) (c2:=qdW k4.2.1) (c3:=qeR k4.2.2.1) (c4:=qeR k4.2.2.2.1) (c5:=qdW k4.2.2.2.2) (r:=?_)
 refine qqD (c1:=k5.1) (c2:=k5.2.1) (c3:=k5.2.2.1) (c4:=k5.2.2.2.1) (c5:=k5.2.2.2.2) (r:=?_)
 refine qpR (c1:=k6.1) (c2:=k6.2.1) (c3:=k6.2.2.1) (c4:=k6.2.2.2.1) (c5:=k6.2.2.2.2) (r:=?_)
 refine qql (c1:=k7.1) (c2:=k7.2.1) (c3:=k7.2.2.1) (c4:=k7.2.2.2.1) (c5:=k7.2.2.2.2) (r:=?_)
 exact qk2
theorem qfr:Pure Try.prog 3 #[] (.bool true):=qlJ qf4
end Go.Proofs.Ytgbmdijodlfcaaa
