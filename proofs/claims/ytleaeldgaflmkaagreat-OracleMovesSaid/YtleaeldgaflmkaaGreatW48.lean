/-
  Joined: VR, VS. Conditions: none.
-/
import Derived.Test.YtleaeldgaflmkaaGreatW47
import Derived.Test.YtleaeldgaflmkaaGreatW25
import Derived.Test.YtleaeldgaflmkaaGreatW44
namespace Go.Proofs.YtleaeldgaflmkaaGreat
set_option maxRecDepth 100000
open Go.RowKit
theorem qyD {l:List Mt} {k:Nat} {m:Mt} (h:l[k]?=some m):qon ((msV l).map .v) (0*4+k*4) [.v (iV m.n),.v (iV m.d),.v (iV m.i),.v (iV m.j)]:=fun j d hj=>by
 have:=qeQ h j
 rw[List.getElem?_map]
 match j,hj with
 | 0,hj=>cases hj;rw[this _ rfl];rfl
 | 1,hj=>cases hj;rw[this _ rfl];rfl
 | 2,hj=>cases hj;rw[this _ rfl];rfl
 | 3,hj=>cases hj;rw[this _ rfl];rfl
 | j+4,hj=>simp at hj
theorem qz5 (r:Rep):qon (qef r) 0 [.v (iV r.e)]:=fun j d hj=>by
 match j,hj with
 | 0,hj=>exact hj
 | j+1,hj=>simp at hj
theorem qvG (r:Rep):qon (qef r) 5 [.sl 4 r.ms.length ((msV r.ms).map .v)]:=fun j d hj=>by
 match j,hj with
 | 0,hj=>exact hj
 | j+1,hj=>simp at hj
theorem qxo {a b:Rep} {k:Nat} {r:Rep} {q:Nat} {l:List Dn} (h:[a,b][k]?=some r) (hl:qon (qef r) q l):qon (qbq [a,b]) (0*6+k*6+q) l:=fun j d hj=>by
 have h1:=hl j d hj
 have:=qj6 h (q+j) d h1
 rw[Nat.add_assoc]
 exact this
theorem qyr (t:TypeId) (es n:Nat) (ds:List Dn):some (SV.drow t es n ds)=some (SV.drow t es n ds)∨∃ t1 es1 n1 xs1,SV.drow t es n ds=.row t1 es1 n1 xs1∧∃ t2,some (SV.drow t es n ds)=some (.prow t2 es1 n1 xs1):=Or.inl rfl
abbrev qwu (c:Nat) (ls:List Mt):HpL:=[(0,0,.row 95 4 c (msV ls)),(1,0,.drow 95 4 c ((msV ls).map .v))]
theorem qow {k:Nat} {ma:Mt} {ls:List Mt} {c:Nat} (hlt:decide ((k:Int)<(c:Int))=true) (hin:0≤(k:Int)∧(k:Int)<(c:Int)) (ha:ls[k]?=some ma) (hs:iV (IntKind.i64.wrap ((k:Int)+1))=iV (((k+1:Nat):Int))) {e:Exit} {tm2:TmL} {hp2:HpL}
 (r:Rl 2 2 34 0 26 2 ([(0,.ls 0 c),(1,.ls 1 c),(5,.pv (iV ((k+1:Nat):Int)))]) (qwu c ls) e tm2 hp2):Rl 2 2 34 0 26 2 ([(0,.ls 0 c),(1,.ls 1 c),(5,.pv (iV (k:Int)))]) (qwu c ls) e tm2 hp2:=
 RunsL.next [] 300 [.t true,.md,.r (qar ma),.dr [.pv (iV ma.n),.pv (iV ma.d),.pv (iV ma.i),.pv (iV ma.j)],.t false,Re hs]
  (Ro (Ai hlt (Ai hin (Ai (qeQ ha) (Ai hin (Ai (qyD ha) (Ai (qqn ma) (Ai hs tI)))))))) r
theorem qsQ {k:Nat} {ls:List Mt} {c:Nat} (hlt:decide ((k:Int)<(c:Int))=false):Rl 2 2 34 0 26 2 ([(0,.ls 0 c),(1,.ls 1 c),(5,.pv (iV (k:Int)))]) (qwu c ls) (.exit 0) ([]) ([]):=
 RunsL.stop [] 300 [.t false] (fun h=>by cases h)
  (Ro (Ai hlt tI))
theorem qtz {ls:List Mt} {c:Nat} (r0:Rl 2 2 34 0 26 2 ([(0,.ls 0 c),(1,.ls 1 c),(5,.pv (iV ((0:Nat):Int)))]) (qwu c ls) (.exit 0) ([]) ([])) :
 Fn 34 2 [.ls 0 c,.ls 1 c] (qwu c ls) (.pv (.bool true)) 0 []:=
 Fz [] [.t false,Lf r0]
  tI (Ai (qjX (c:Int)) (Lo r0 [] tI))
abbrev qui:Prop:=Fn 19 0 [] [] (.pv (.bool true)) 0 []
theorem qy1 {tn td:Int} {s:List Pt} {n1 d1 n2 d2:Int} (hf:Fn 32 1 [moS 0 s tn td] [(0,0,qad s)] (.pv (.bool false)) 0 []) (hal:qui) :
 Fn 7 1 [moS 0 s tn td,.pv (qaa n1 d1),.pv (qaa n2 d2)] [(0,0,qad s)] (.pv (.bool true)) 0 []:=
 Fz [] [Cf hf [0],.k,Cf hal []]
  tI (Co hf [0] 4 (Co hal [] 4 tI))
abbrev qw4 (s:List Pt) (td:Int) (tn:Int):Prop:=Fn 32 1 [moS 0 s tn td] [(0,0,qad s)] (.pv (.bool true)) 0 []
theorem qzG {tn td e1:Int} {s:List Pt} {n1 d1 n2 d2:Int} (hf:qw4 s td tn) (ha1:Pure Tryz.prog 31 #[qaa n1 d1] (iV (e1))) (he1:(e1 !=0)=true) (hal:qui) :
 Fn 7 1 [moS 0 s tn td,.pv (qaa n1 d1),.pv (qaa n2 d2)] [(0,0,qad s)] (.pv (.bool true)) 0 []:=
 Fz [] [Cf hf [0],.k,Rf ha1,.t true,Cf hal []]
  tI (Co hf [0] 4 (Ai ha1 (Ai he1 (Co hal [] 4 tI))))
theorem qzU {tn td e2:Int} {s:List Pt} {n1 d1 n2 d2:Int} (hf:qw4 s td tn) (ha1:Pure Tryz.prog 31 #[qaa n1 d1] (iV (0))) (ha2:Pure Tryz.prog 31 #[qaa n2 d2] (iV (e2))) (he2:(e2 !=0)=true) (hal:qui) :
 Fn 7 1 [moS 0 s tn td,.pv (qaa n1 d1),.pv (qaa n2 d2)] [(0,0,qad s)] (.pv (.bool true)) 0 []:=
 Fz [] [Cf hf [0],.k,Rf ha1,.k,Rf ha2,.t true,Cf hal []]
  tI (Co hf [0] 4 (Ai ha1 (Ai ha2 (Ai he2 (Co hal [] 4 tI)))))
theorem qzC {tn td:Int} {s:List Pt} {i1 n1 d1 n2 d2:Int} (hf:qw4 s td tn) (ha1:Pure Tryz.prog 31 #[qaa n1 d1] (iV (0))) (ha2:Pure Tryz.prog 31 #[qaa n2 d2] (iV (0))) (hc1:Pure Tryz.prog 33 #[qaa tn td,qaa n1 d1] (iV (i1))) (hi1:decide (i1≥0)=true) (hal:qui) :
 Fn 7 1 [moS 0 s tn td,.pv (qaa n1 d1),.pv (qaa n2 d2)] [(0,0,qad s)] (.pv (.bool true)) 0 []:=
 Fz [] [Cf hf [0],.k,Rf ha1,.k,Rf ha1,.k,Rf hc1,.t true,Cf hal []]
  tI (Co hf [0] 4 (Ai ha1 (Ai ha2 (Ai hc1 (Ai hi1 (Co hal [] 4 tI))))))
theorem qyX {tn td:Int} {s:List Pt} {i1 i2 n1 d1 n2 d2:Int} (hf:qw4 s td tn) (ha1:Pure Tryz.prog 31 #[qaa n1 d1] (iV (0))) (ha2:Pure Tryz.prog 31 #[qaa n2 d2] (iV (0))) (hc1:Pure Tryz.prog 33 #[qaa tn td,qaa n1 d1] (iV (i1))) (hi1:decide (i1≥0)=false) (hc2:Pure Tryz.prog 33 #[qaa n1 d1,qaa n2 d2] (iV (i2))) (hi2:decide (i2≥0)=true) (hal:qui) :
 Fn 7 1 [moS 0 s tn td,.pv (qaa n1 d1),.pv (qaa n2 d2)] [(0,0,qad s)] (.pv (.bool true)) 0 []:=
 Fz [] [Cf hf [0],.k,Rf ha1,.k,Rf ha1,.k,Rf hc1,.t false,Rf hc2,.t true,Cf hal []]
  tI (Co hf [0] 4 (Ai ha1 (Ai ha2 (Ai hc1 (Ai hi1 (Ai hc2 (Ai hi2 (Co hal [] 4 tI))))))))
theorem qvL {tn td:Int} {s:List Pt} {ls bs:List Mt} {i1 i2 n1 d1 n2 d2:Int} (hf:qw4 s td tn) (ha1:Pure Tryz.prog 31 #[qaa n1 d1] (iV (0))) (ha2:Pure Tryz.prog 31 #[qaa n2 d2] (iV (0))) (hc1:Pure Tryz.prog 33 #[qaa tn td,qaa n1 d1] (iV (i1))) (hi1:decide (i1≥0)=false) (hc2:Pure Tryz.prog 33 #[qaa n1 d1,qaa n2 d2] (iV (i2))) (hi2:decide (i2≥0)=false) (hr:Fn 13 2 [moS 0 s tn td,.ls 1 2] [(0,0,qad s),(1,0,.row 42 7 2 (qdk [⟨4,0,0,0,0,n1,d1⟩,⟨4,0,0,0,0,n2,d2⟩]))] (.tu [mo1 2 s n2 d2,.one (.dv 6 2 (qbq [⟨0,0,0,0,0,ls⟩,⟨0,0,0,0,0,bs⟩])),.one (.pv (iV 0))]) 1 [(2,0,qad s)]) (hd:Fn 12 1 [moS 0 s tn td,.pv (qcs ⟨4,0,0,0,0,n2,d2⟩)] [(0,0,qad s)] (.tu [mo1 1 s n2 d2,.ag (qes ⟨0,0,0,0,0,(ls++bs)⟩),.one (.pv (iV 0))]) 1 [(1,0,qad s)]) (hs1:Fn 24 2 [moS 0 s n2 d2,moS 1 s n2 d2] [(0,0,qad s),(1,0,qad s)] (.pv (.bool true)) 0 []) (m1:0+ls.length≤1000000) (m2:0+ls.length+bs.length≤1000000) (hs2:Fn 34 2 [.ls 0 (ls++bs).length,.ls 1 (0+ls.length+bs.length)] [(0,0,.row 95 4 (ls++bs).length (msV (ls++bs))),(1,0,.drow 95 4 (0+ls.length+bs.length) ([]++(msV ls).map .v++(msV bs).map .v))] (.pv (.bool true)) 0 []) (hal:qui) :
 Fn 7 1 [moS 0 s tn td,.pv (qaa n1 d1),.pv (qaa n2 d2)] [(0,0,qad s)] (.pv (.bool true)) 0 []:=
 Fz [] [Cf hf [0],.k,Rf ha1,.k,Rf ha1,.k,Rf hc1,.t false,Rf hc2,.t false,.md,.r (qcs ⟨4,0,0,0,0,n1,d1⟩),.r (qcs ⟨4,0,0,0,0,n2,d2⟩),.lw,Cf hr [0,4],.md,.r (qcs ⟨4,0,0,0,0,n2,d2⟩),Cf hd [0],.od true 8 0 0 38 none,.k,.k,.k,.dr [.pv (iV 0)],.k,.dr [.pv (iV 0)],.k,.od false 9 5 0 95 (some (msV (ls++bs))),.md,Cf hs1 [5,7],.t true,.dr [.dv 4 ls.length ((msV ls).map .v)],.dr [.dv 4 bs.length ((msV bs).map .v)],.fq [11,14] [.ls 0 (ls++bs).length,.ls 1 (0+ls.length+bs.length)] [(0,0,.row 95 4 (ls++bs).length (msV (ls++bs))),(1,0,.drow 95 4 (0+ls.length+bs.length) ([]++(msV ls).map .v++(msV bs).map .v))] (.pv (.bool true)) 0 [],Cf hal []]
  tI (Co hf [0] 4 (Ai ha1 (Ai ha2 (Ai hc1 (Ai hi1 (Ai hc2 (Ai hi2 (Ai (qg6 n1 d1) (Ai (qg6 n2 d2) (Co hr [0,4] 5 (Ai (qg6 n2 d2) (Co hd [0] 7 (Ai (show 0≤(0:Int)∧(0:Int)<2 from by decide) (Ai (qxo (a:=⟨0,0,0,0,0,ls⟩) (b:=⟨0,0,0,0,0,bs⟩) (k:=0) (q:=0) (l:=[.v (iV 0)]) rfl (qz5 ⟨0,0,0,0,0,ls⟩)) (Ai (show 0≤(1:Int)∧(1:Int)<2 from by decide) (Ai (qxo (a:=⟨0,0,0,0,0,ls⟩) (b:=⟨0,0,0,0,0,bs⟩) (k:=1) (q:=0) (l:=[.v (iV 0)]) rfl (qz5 ⟨0,0,0,0,0,bs⟩)) (Ai (Eq.refl ((msV (ls++bs)).map Dn.v)) (Co hs1 [5,7] 12 (Ai (qgQ n2 d2) (Ai (show 0≤(0:Int)∧(0:Int)<2 from by decide) (Ai (qxo (a:=⟨0,0,0,0,0,ls⟩) (b:=⟨0,0,0,0,0,bs⟩) (k:=0) (q:=5) (l:=[.sl 4 ls.length ((msV ls).map .v)]) rfl (qvG ⟨0,0,0,0,0,ls⟩)) (Ai m1 (Ai (show 0≤(1:Int)∧(1:Int)<2 from by decide) (Ai (qxo (a:=⟨0,0,0,0,0,ls⟩) (b:=⟨0,0,0,0,0,bs⟩) (k:=1) (q:=5) (l:=[.sl 4 bs.length ((msV bs).map .v)]) rfl (qvG ⟨0,0,0,0,0,bs⟩)) (Ai m2 (Ai hs2 (Ai (Ca hs2 [11,14] 15) (Ai (Ai (qzM 95 95 4 (ls++bs).length (msV (ls++bs))) (Ai (qyr 95 4 (0+ls.length+bs.length) ([]++(msV ls).map .v++(msV bs).map .v)) tI)) (Co hal [] 15 tI)))))))))))))))))))))))))))))
end Go.Proofs.YtleaeldgaflmkaaGreat

namespace Go.Proofs.YtleaeldgaflmkaaGreat
set_option maxRecDepth 100000
open Go.RowKit
section
variable {s:List Pt} {n d n1 d1 n2 d2:Int}
theorem qnj (hn:I64 n) (hd:I64 d) (h1:I64 n1) (h2:I64 d1) (h3:I64 n2) (h4:I64 d2):Fn 7 1 [moS 0 s n d,.pv (qaa n1 d1),.pv (qaa n2 d2)] [(0,0,qad s)] (.pv (.bool true)) 0 []:=by
 rcases qrX (s:=s) hn hd with hf | ⟨hv,ht,hf⟩
 ·exact qy1 (hf:=hf) (hal:=qdV)
 have c1:Pure Tryz.prog 31 #[qaa n1 d1] (iV (qdl n1 d1)):=fun w=>qcp n1 d1 w h1 h2
 have c2:Pure Tryz.prog 31 #[qaa n2 d2] (iV (qdl n2 d2)):=fun w=>qcp n2 d2 w h3 h4
 by_cases a1':¬ qdl n1 d1=0
 ·exact qzG (hf:=hf) (ha1:=c1) (he1:=by simpa using a1') (hal:=qdV)
 have a1:=Classical.not_not.1 a1'
 by_cases a2':¬ qdl n2 d2=0
 ·rw[a1] at c1
  exact qzU (hf:=hf) (ha1:=c1) (ha2:=c2) (he2:=by simpa using a2') (hal:=qdV)
 have a2:=Classical.not_not.1 a2'
 have k1:=qa6 hn hd h1 h2
 have k2:=qa6 h1 h2 h3 h4
 rw[a1] at c1
 rw[a2] at c2
 by_cases q1:(n*d1-n1*d).sign≥0
 ·exact qzC (hf:=hf) (ha1:=c1) (ha2:=c2) (hc1:=k1) (hi1:=dt q1) (hal:=qdV)
 by_cases q2:(n1*d2-n2*d1).sign≥0
 ·exact qyX (hf:=hf) (ha1:=c1) (ha2:=c2) (hc1:=k1) (hi1:=df q1) (hc2:=k2) (hi2:=dt q2) (hal:=qdV)
 have T1:=qbj.1 a1
 have T2:=qbj.1 a2
 have p0:=qaw ht.ok
 have p1:=qaw T1.ok
 have p2:=qaw T2.ok
 have r1:n*d1<n1*d:=by
  have:=Int.sign_neg_iff.1 (show (n*d1-n1*d).sign<0 by omega)
  omega
 have r2:n1*d2<n2*d1:=by
  have:=Int.sign_neg_iff.1 (show (n1*d2-n2*d1).sign<0 by omega)
  omega
 have r3:n*d2<n2*d:=by
  have e1:n*d1*d2<n1*d*d2:=Int.mul_lt_mul_of_pos_right r1 (by omega)
  have e2:n1*d2*d<n2*d1*d:=Int.mul_lt_mul_of_pos_right r2 (by omega)
  have e3:n1*d*d2=n1*d2*d:=Int.mul_right_comm ..
  have e4:n*d1*d2=n*d2*d1:=Int.mul_right_comm ..
  have e5:n2*d1*d=n2*d*d1:=Int.mul_right_comm ..
  exact Int.lt_of_mul_lt_mul_right (a:=d1) (by omega) (by omega)
 have wf:∀ a b:Int,wfB ⟨4,0,0,0,0,a,b⟩=true:=fun a b=>rfl
 obtain⟨ra,_,_,_,o1⟩:=qe1 ⟨4,0,0,0,0,n1,d1⟩ hv ht ⟨h1,h2⟩
 obtain⟨f1,f2,f3,f4⟩:=o1.k4 rfl (wf _ _) T1 r1
 rw[f1,f2,f3,f4] at o1
 clear f1 f2 f3 f4
 obtain⟨rb,_,_,_,o2⟩:=qe1 ⟨4,0,0,0,0,n2,d2⟩ hv T1 ⟨h3,h4⟩
 obtain⟨f1,f2,f3,f4⟩:=o2.k4 rfl (wf _ _) T2 r2
 rw[f1,f2,f3,f4] at o2
 clear f1 f2 f3 f4
 obtain⟨rc,_,_,_,o3⟩:=qe1 ⟨4,0,0,0,0,n2,d2⟩ hv ht ⟨h3,h4⟩
 obtain⟨f1,f2,f3,f4⟩:=o3.k4 rfl (wf _ _) T2 r3
 rw[f1,f2,f3,f4] at o3
 clear f1 f2 f3 f4
 have cut:qgf s n d n2 d2=qgf s n d n1 d1++qgf s n1 d1 n2 d2:=qmE (by omega) (by omega) (by omega) (by omega) (by omega) (qrs hv) (qqA hv)
 have l1:=qeE hv n d n1 d1
 have l2:=qeE hv n1 d1 n2 d2
 have hr:=qvZ (qs:=[⟨4,0,0,0,0,n1,d1⟩,⟨4,0,0,0,0,n2,d2⟩]) (by show 2≤120;decide) hv ht (rs:=[_,_]) ⟨_,_,_,o1,_,_,_,o2,rfl,rfl,rfl⟩
 have hd3:=qzy hv ht o3
 rw[cut] at hd3
 generalize qgf s n d n1 d1=x at *
 generalize qgf s n1 d1 n2 d2=y at *
 have sl:=hv.len
 have sm:Fn 24 2 [moS 0 s n2 d2,moS 1 s n2 d2] [(0,0,qad s),(1,0,qad s)] (.pv (.bool true)) 0 []:=qoN (by omega)
 have hs2:Fn 34 2 [.ls 0 (x++y).length,.ls 1 (0+x.length+y.length)] [(0,0,.row 95 4 (x++y).length (msV (x++y))),(1,0,.drow 95 4 (0+x.length+y.length) ([]++(msV x).map .v++(msV y).map .v))] (.pv (.bool true)) 0 []:=by
  rw[show 0+x.length+y.length=(x++y).length by rw[List.length_append];omega,List.nil_append,← List.map_append,← qcR]
  have lz:(x++y).length≤8192:=by rw[List.length_append];omega
  generalize x++y=z at *
  refine qtz (r0:=RunsL.rounds (fun k=>[(0,.ls 0 z.length),(1,.ls 1 z.length),(5,.pv (iV (k:Int)))]) (fun _=>[(0,0,.row 95 4 z.length (msV z)),(1,0,.drow 95 4 z.length ((msV z).map .v))]) z.length 0 (Nat.zero_add _) (fun k _ hk r=>?_) (qsQ (hlt:=df (by omega))))
  obtain⟨m,hm⟩:=qam hk
  exact qow (hlt:=dt (by omega)) (hin:=qaz hk) (ha:=hm) (hs:=qav (by omega)) r
 exact qvL (hf:=hf) (ha1:=c1) (ha2:=c2) (hc1:=k1) (hi1:=df q1) (hc2:=k2) (hi2:=df q2) (hr:=hr) (hd:=hd3) (hs1:=sm) (m1:=by omega) (m2:=by omega) (hs2:=hs2) (hal:=qdV)
theorem qhx (n d:Int) (s:List Pt) (hn:I64 n) (hd:I64 d) (n1 d1:Int) (h1:I64 n1) (h2:I64 d1) (n2 d2:Int) (h3:I64 n2) (h4:I64 d2):Fn 7 1 [moS 0 s n d,.pv (qaa n1 d1),.pv (qaa n2 d2)] [(0,0,qad s)] (.pv (.bool true)) 0 []:=qnj hn hd h1 h2 h3 h4
end
end Go.Proofs.YtleaeldgaflmkaaGreat
