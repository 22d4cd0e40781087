/-
  Joined: Gc, Gh, Gl, Gf, Gn, Hc, Vi. Conditions: none.
-/
import Derived.Test.YtleaeldgaflmkaaGreatW44
import Derived.Test.YtleaeldgaflmkaaGreatW25
import Derived.Test.YtleaeldgaflmkaaGreatW37
import Derived.Test.YtleaeldgaflmkaaGreatW33
import Derived.Test.YtleaeldgaflmkaaGreatW43
import Derived.Test.YtleaeldgaflmkaaGreatW32
namespace Go.Proofs.YtleaeldgaflmkaaGreat
set_option maxRecDepth 100000
open Go.RowKit
theorem qoK {W w':World} {k:Nat} {β:Bl} {pre:List (Nat×Nat×SV)} {u:Value} {e:TypeId} {es n:Nat} {xs:List Value} (H:HRel W k β pre W) (hd:β.dom k) (hg:Gr W w') (ho:w'.ownsRow W.heap.size e es u n xs) (h1:∀ v∈xs,v.oneCell'=true) :
 HRel W k (β.setG k u) [(k,0,.row e es n xs)] w':=qny H hd hg ho h1
theorem qm9 {k:Nat} {β:Bl} {u:Value} (hd:β.dom k):(β.setG k u).dom (k+1):=fun b hb=>⟨(hd b (by omega)).1,by unfold Bl.setG;simp only[if_neg (show b≠k by omega)];exact (hd b (by omega)).2⟩
abbrev bwH (l:List Pt) (fn fd tn td:Int):List (Nat×Nat×SV):=[(1,0,.ls 0 l.length),(2,0,.pv (iV fn)),(2,1,.pv (iV fd)),(3,0,.pv (iV tn)),(3,1,.pv (iV td)),
 (4,0,.pc 178 [.pp 1 0]),(5,0,.pc 166 [.pp 2 0]),(6,0,.pc 164 [.pp 4 0,.pp 5 0]),(7,0,.pc 155 [.pp 3 0]),(0,0,qad l)]
abbrev bwS:SV:=.pc 164 [.pp 6 0,.pp 7 0]
theorem qgp {l:List Pt} {f:Pt×Pt→Option Mt} {fn fd tn td:Int} (hM:Meets l f) (ht:TmOk fn fd) (hs:TmOk tn td) {X:List Mt} (hX:X=(((qau l).filterMap f).filter (kpA fn fd)).filter (kpB tn td)) (hN:X.length≤100000) :
 ∀ (W:World) (β:Bl) (us:List Value),HRel W 8 β (bwH l fn fd tn td) W→β.dom 8→SV.isl β [.pv qh1,bwS] us→
  Calls Tryz.prog 161 us.toArray W fun e w'=>∃ v,e=.returned v∧Gr W w'∧w'.ownsRow W.heap.size 95 4 v X.length (msV X)∧(X=[]→v=qh1):=by
 intro W β us H hdm hu
 obtain⟨u,g0⟩:=qyd H (b:=0) (o:=0) rfl
 obtain⟨rt,et⟩:=qaQ H (b:=3) (o:=0) rfl rfl
 obtain⟨rf,ef⟩:=qaQ H (b:=2) (o:=0) rfl rfl
 obtain⟨rb,eb⟩:=qaQ H (b:=1) (o:=0) rfl rfl
 obtain⟨ra,ea⟩:=qaQ H (b:=4) (o:=0) rfl rfl
 obtain⟨rk,ek⟩:=qaQ H (b:=5) (o:=0) rfl rfl
 obtain⟨rc,ec⟩:=qaQ H (b:=6) (o:=0) rfl rfl
 obtain⟨rj,ej⟩:=qaQ H (b:=7) (o:=0) rfl rfl
 have t0:=qcp H (b:=3) (o:=0) rfl et
 have t1:=qcp H (b:=3) (o:=1) rfl et
 have f0:=qcp H (b:=2) (o:=0) rfl ef
 have f1:=qcp H (b:=2) (o:=1) rfl ef
 have cb:Cel W rb 0 u:=qrE H (b:=1) rfl eb g0
 have hrd:=qry H (b:=0) (o:=0) rfl g0
 obtain⟨_,p1,ca⟩:=qj9 H (b:=4) (o:=0) rfl ea
 obtain⟨r',e',rfl⟩:=qin p1;rw[eb] at e';cases e'
 obtain⟨_,p2,ck⟩:=qj9 H (b:=5) (o:=0) rfl ek
 obtain⟨r',e',rfl⟩:=qin p2;rw[ef] at e';cases e'
 obtain⟨_,p3,cc⟩:=qj9 H (b:=6) (o:=0) rfl ec
 obtain⟨r',s',e',e'',rfl⟩:=qn4 p3;rw[ea] at e';rw[ek] at e'';cases e';cases e''
 obtain⟨_,p4,cj⟩:=qj9 H (b:=7) (o:=0) rfl ej
 obtain⟨r',e',rfl⟩:=qin p4;rw[et] at e';cases e'
 have ne1:ra≠rk:=fun h=>by subst h;have:=H.inj 4 5 _ ea ek;omega
 have ne2:rc≠rj:=fun h=>by subst h;have:=H.inj 6 7 _ ec ej;omega
 have hown:∀ b,bkB l u rb rf ra rk rt rc rj b→b<W.heap.size:=fun b h=>by
  rcases h with ((((rfl | ⟨hx,h⟩) | rfl) | rfl | rfl) | rfl) | rfl | rfl
  ·exact cb.lt
  ·exact hrd.lt hx b h
  ·exact f0.lt
  ·exact ca.lt
  ·exact ck.lt
  ·exact t0.lt
  ·exact cc.lt
  ·exact cj.lt
 have hseq:=qsk hM ht hs cb hrd f0 f1 ca ck ne1 t0 t1 cc cj ne2
 rw[← hX] at hseq
 obtain rfl:us=[qh1,fv 164 #[ptr rc,ptr rj]]:=by
  match us,hu with
  | [x,y],⟨h3,⟨vs,h1,h2⟩,_⟩=>
   obtain⟨r,s,e1,e2,rfl⟩:=qn4 h1
   rw[ec] at e1;rw[ej] at e2;cases e1;cases e2
   rw[h2,show x=qh1 from h3]
 exact qeP (by kernel_rfl) hseq hown hN
theorem qfH {l:List Pt} {f:Pt×Pt→Option Mt} {fn fd tn td:Int} (hM:Meets l f) (ht:TmOk fn fd) (hs:TmOk tn td) {X:List Mt} (hX:X=(((qau l).filterMap f).filter (kpA fn fd)).filter (kpB tn td)) (hN:X.length≤100000) :
 Fn 161 8 [.pv qh1,bwS] (bwH l fn fd tn td) (.ls 8 X.length) 1 [(8,0,qc0 X)]:=by
 intro W β us H hdm hu
 refine (qgp hM ht hs hX hN W β us H hdm hu).mono fun e w' ⟨v,he,hg,ho,_⟩=>?_
 have hd8:=hdm 8 (Nat.le_refl _)
 have hsl:∃ a c,v=.slice a X.length c:=qc6 ho
 exact⟨v,β.setG 8 v,he,Bl.le_setG hd8.1 hd8.2,⟨Bl.setG_same _ _ _,hsl⟩,qoK H hdm hg ho (qjR X),qm9 hdm⟩
section
variable {l:List Pt} {fn fd tn td:Int} {X s:List Mt}
theorem qhD (h:Fn 161 8 [.pv qh1,bwS] (bwH l fn fd tn td) (.ls 8 X.length) 1 [(8,0,qc0 X)]) :
 Fn 151 8 [bwS] (bwH l fn fd tn td) (.ls 8 X.length) 1 [(8,0,qc0 X)]:=
 Fz [] [Cf h [0,1,2,3,4,5,6,7]]
  (qaH (qaG []) [(8,0,qc0 X)]) (Co h [0,1,2,3,4,5,6,7] 8 tI)
theorem qiL (h:Fn 151 8 [bwS] (bwH l fn fd tn td) (.ls 8 X.length) 1 [(8,0,qc0 X)])
 (hso:FnM Tryz.prog 152 1 [.ls 0 X.length,.pv inV] [(0,0,qc0 X)] (.tuple #[]) 0 ⟨95,4,X.length,msV X⟩ (msV s)) :
 Fn 137 8 [bwS,.pv inV] (bwH l fn fd tn td) (.ls 8 X.length) 1 [(8,0,.row 95 4 X.length (msV s))]:=
 Fz [] [Cf h [0,1,2,3,4,5,6,7],.m [8] [.ls 0 X.length,.pv inV] [(0,0,qc0 X)] (.tuple #[]) 0 (msV s)]
  (qaH (qaG []) [(8,0,.row 95 4 X.length (msV s))]) (Ai h (Ai (Ca h [0,1,2,3,4,5,6,7] 8) (Ai (Cp h [0,1,2,3,4,5,6,7] 8)
   (Ai hso (Ai (Eq.refl (List.map (SV.ren (qaY [8] 9)) [.ls 0 X.length,.pv inV])) (Ai (qaH (qaY [8] 9) [(0,0,qc0 X)]) tI))))))
theorem qpB (hc:Fn 136 1 [qaq 0 l,.pv (qaa fn fd),.pv (qaa tn td)] [(0,0,qad l)] (.pv (iV 0)) 0 [])
 (h:Fn 137 8 [bwS,.pv inV] (bwH l fn fd tn td) (.ls 8 s.length) 1 [(8,0,qc0 s)]) (h0:0≤(s.length:Int)) (h1:s.length≤s.length) :
 Fn 118 1 [qaq 0 l,.pv (qaa fn fd),.pv (qaa tn td)] [(0,0,qad l)] (.tu [.one (.lq 1 4 0 s.length),.one (.pv (iV 0))]) 1 [(1,0,qc0 s)]:=
 Fz [(1,14)] [Cf hc [0],.k,.k,.k,.k,.k,.k,Cf h [0,9,8,6,10,11,12,13],.k]
  (qaH (qaG [(1,14)]) [(1,0,qc0 s)]) (Ai hc (Ai (Ca hc [0] 4) (Ai (Cp hc [0] 4)
   (Co h [0,9,8,6,10,11,12,13] 14 (Ai tI (Ai h0 (Ai h0 (Ai (Nat.zero_le s.length) (Ai h1 (Ai h1 tI))))))))))
end
theorem qvw {fn fd tn td:Int} (h1:I64 fn) (h2:I64 fd) (h3:I64 tn) (h4:I64 td) (l:List Pt) (h:mE l fn fd tn td=0) :
 Fn 118 1 [qaq 0 l,.pv (qaa fn fd),.pv (qaa tn td)] [(0,0,qad l)] (.tu [.one (.lq 1 4 0 (qjx l fn fd tn td).length),.one (.pv (iV 0))]) 1 [(1,0,qc0 (qjx l fn fd tn td))]:=by
 have c:=qu9 h1 h2 h3 h4 l
 rw[h] at c
 obtain⟨hv,g1,g2,_⟩:=qxD h
 have hp:=qmO l fn fd tn td
 have hlen:=hp.length_eq
 have hl2:=qjq hv fn fd tn td
 have hX:∀ m∈btw l fn fd tn td,MtOk m:=fun m hm=>qlq hv m (List.mem_filter.1 (List.mem_filter.1 hm).1).1
 have a1:=qfH (qnu hv) (fn:=fn) (fd:=fd) (tn:=tn) (td:=td) ⟨h1,h2,g1⟩ ⟨h3,h4,g2⟩ (X:=btw l fn fd tn td) rfl (by omega)
 have a2:=qiL (qhD a1) (qnq hX (by omega) hp (qtX hv fn fd tn td))
 rw[← hlen] at a2
 exact qpB c a2 (by omega) (Nat.le_refl _)
end Go.Proofs.YtleaeldgaflmkaaGreat

namespace Go.Proofs.YtleaeldgaflmkaaGreat
set_option maxRecDepth 100000
open Go.RowKit
theorem qhl {l:List Mt} {k:Nat} {m:Mt} (h:l[k]?=some m):qes (msV l) (0*4+k*4) [iV m.n,iV m.d]:=by
 obtain⟨h1,h2,h3,h4⟩:=qgL h
 intro j v hj
 match j,hj with
 | 0,hj=>cases hj;rw[show 0*4+k*4+0=k*4 by omega];exact h1
 | 1,hj=>cases hj;rw[show 0*4+k*4+1=k*4+1 by omega];exact h2
 | j+2,hj=>simp at hj
end Go.Proofs.YtleaeldgaflmkaaGreat

namespace Go.Proofs.YtleaeldgaflmkaaGreat
set_option maxRecDepth 100000
open Go.RowKit
abbrev qur (fd:Int) (fn:Int) (n:Nat) (o:List Mt) (s:List Mt) (td:Int) (tn:Int):HpL:=[(2,0,.pv (iV fn)),(2,1,.pv (iV fd)),(3,0,.pv (iV tn)),(3,1,.pv (iV td)),(4,0,.row 95 4 n (msV s)),(5,0,qc0 (o))]
abbrev qxo (k:Nat) (n:Nat) (o:List Mt):TmL:=[(4,.pp 2 0),(5,.pp 3 0),(7,.ls 5 (o).length),(8,.ls 4 n),(9,.pv (iV (k:Int)))]
theorem qwV {s o:List Mt} {m:Mt} {k n:Nat} {fn fd tn td c1:Int} (hk:s[k]?=some m) (hin:0≤(k:Int)∧(k:Int)<(n:Int)) (hlt:decide ((k:Int)<(n:Int))=true) (hc1:Pure Tryz.prog 33 #[qaa m.n m.d,qaa fn fd] (iV (c1))) (g1:decide (c1>0)=false) (hs:iV (IntKind.i64.wrap ((k:Int)+1))=iV (((k+1:Nat):Int))) {e:Exit} {tm2:TmL} {hp2:HpL}
 (r:Rl 1 1 103 0 44 6 ([(4,.pp 2 0),(5,.pp 3 0),(7,.ls 5 (o).length),(8,.ls 4 n),(9,.pv (iV ((k+1:Nat):Int)))]) (qur fd fn n o s td tn) e tm2 hp2):Rl 1 1 103 0 44 6 (qxo k n o) (qur fd fn n o s td tn) e tm2 hp2:=
 RunsL.next [] 300 [.t true,.r (qaa m.n m.d),Rf hc1,.t false,Re hs]
  (Ro (Ai hlt (Ai hin (Ai (qhl hk) (Ai hc1 (Ai g1 (Ai hs tI))))))) r
theorem quH {s o:List Mt} {m:Mt} {k n:Nat} {fn fd tn td c1 c2:Int} (hk:s[k]?=some m) (hin:0≤(k:Int)∧(k:Int)<(n:Int)) (hlt:decide ((k:Int)<(n:Int))=true) (hc1:Pure Tryz.prog 33 #[qaa m.n m.d,qaa fn fd] (iV (c1))) (g1:decide (c1>0)=true) (hc2:Pure Tryz.prog 33 #[qaa m.n m.d,qaa tn td] (iV (c2))) (g2:decide (c2≤0)=false) (hs:iV (IntKind.i64.wrap ((k:Int)+1))=iV (((k+1:Nat):Int))) {e:Exit} {tm2:TmL} {hp2:HpL}
 (r:Rl 1 1 103 0 44 6 ([(4,.pp 2 0),(5,.pp 3 0),(7,.ls 5 (o).length),(8,.ls 4 n),(9,.pv (iV ((k+1:Nat):Int)))]) (qur fd fn n o s td tn) e tm2 hp2):Rl 1 1 103 0 44 6 (qxo k n o) (qur fd fn n o s td tn) e tm2 hp2:=
 RunsL.next [] 300 [.t true,.r (qaa m.n m.d),Rf hc1,.t true,.r (qaa m.n m.d),Rf hc2,.t false,Re hs]
  (Ro (Ai hlt (Ai hin (Ai (qhl hk) (Ai hc1 (Ai g1 (Ai hin (Ai (qhl hk) (Ai hc2 (Ai g2 (Ai hs tI))))))))))) r
theorem qu8 {s o:List Mt} {m:Mt} {k n:Nat} {fn fd tn td c1 c2:Int} (hk:s[k]?=some m) (hin:0≤(k:Int)∧(k:Int)<(n:Int)) (hlt:decide ((k:Int)<(n:Int))=true) (hc1:Pure Tryz.prog 33 #[qaa m.n m.d,qaa fn fd] (iV (c1))) (g1:decide (c1>0)=true) (hc2:Pure Tryz.prog 33 #[qaa m.n m.d,qaa tn td] (iV (c2))) (g2:decide (c2≤0)=true) (hl:o.length+1≤1000000) (hs:iV (IntKind.i64.wrap ((k:Int)+1))=iV (((k+1:Nat):Int))) {e:Exit} {tm2:TmL} {hp2:HpL}
 (r:Rl 1 1 103 0 44 6 ([(4,.pp 2 0),(5,.pp 3 0),(7,.ls 5 (o++[m]).length),(8,.ls 4 n),(9,.pv (iV ((k+1:Nat):Int)))]) ([(2,0,.pv (iV fn)),(2,1,.pv (iV fd)),(3,0,.pv (iV tn)),(3,1,.pv (iV td)),(4,0,.row 95 4 n (msV s)),(5,0,qc0 (o++[m]))]) e tm2 hp2):Rl 1 1 103 0 44 6 (qxo k n o) (qur fd fn n o s td tn) e tm2 hp2:=
 RunsL.next [(5,7)] 300 [.t true,.r (qaa m.n m.d),Rf hc1,.t true,.r (qaa m.n m.d),Rf hc2,.t true,.r (qar m),Re hs]
  (qfL (Ai (Eq.refl (SV.pp 2 0)) (Ai (Eq.refl (SV.pp 3 0)) (Ai (qhH 7 o m) (Ai (Eq.refl (SV.ls 4 n)) (Ai (Eq.refl (SV.pv (iV ((k+1:Nat):Int)))) tI))))) (Ai (Er (SV.pv (iV fn))) (Ai (Er (SV.pv (iV fd))) (Ai (Er (SV.pv (iV tn))) (Ai (Er (SV.pv (iV td))) (Ai (Er (SV.row 95 4 n (msV s))) (Ai (qhf o m) tI)))))) (Ai hlt (Ai hin (Ai (qhl hk) (Ai hc1 (Ai g1 (Ai hin (Ai (qhl hk) (Ai hc2 (Ai g2 (Ai hin (Ai (qgk hk) (Ai hl (Ai hs tI))))))))))))) (by kernel_rfl)) r
theorem qvF {s o:List Mt} {k n:Nat} {fn fd tn td:Int} (hge:decide ((k:Int)<(n:Int))=false):Rl 1 1 103 0 44 6 (qxo k n o) (qur fd fn n o s td tn) (.exit 0) ([(7,.ls 5 o.length)]) ([(5,0,qc0 o)]):=
 RunsL.stop [] 300 [.t false] (fun h=>by cases h)
  (Ro (Ai hge tI))
theorem qsu {l:List Pt} {s o:List Mt} {n:Nat} {fn fd tn td:Int} (hP:Fn 125 1 [qaq 0 l] [(0,0,qad l)] (.ls 1 n) 1 [(1,0,.row 95 4 n (msV s))]) (r0:Rl 1 1 103 0 44 6 ([(4,.pp 2 0),(5,.pp 3 0),(7,.ls 5 ([]:List Mt).length),(8,.ls 4 n),(9,.pv (iV ((0:Nat):Int)))]) ([(2,0,.pv (iV fn)),(2,1,.pv (iV fd)),(3,0,.pv (iV tn)),(3,1,.pv (iV td)),(4,0,.row 95 4 n (msV s)),(5,0,qc0 ([]:List Mt))]) (.exit 0) ([(7,.ls 5 o.length)]) ([(5,0,qc0 o)])) :
 Fn 103 1 [qaq 0 l,.pv (qaa fn fd),.pv (qaa tn td)] [(0,0,qad l)] (.ls 1 o.length) 1 [(1,0,qc0 o)]:=
 Fz [(1,5)] [Cf hP [0],.ln true 7 0 95 4,Lf r0]
  (qaH (qaG [(1,5)]) [(1,0,qc0 o)]) (Co hP [0] 4 (Lo r0 [] tI))
end Go.Proofs.YtleaeldgaflmkaaGreat

namespace Go.Proofs.YtleaeldgaflmkaaGreat
set_option maxRecDepth 100000
open Go.RowKit
instance decI64 (n:Int):Decidable (I64 n):=by unfold I64;infer_instance
theorem qss {x:Pt×Pt} (h1:qcX x.1=true) (h2:qcX x.2=true) (hb:x.1.b≠x.2.b) {n d:Int} (hk:okB n d=true) (he:n*(x.1.b-x.2.b)=(x.2.a-x.1.a)*d):fM x=some ⟨n,d,x.1.id,x.2.id⟩:=by
 obtain⟨m,h,hm⟩:=qiB h1 h2 hb
 have e:=hm.eq
 have e2:(m.n*d)*(x.1.b-x.2.b)=(n*m.d)*(x.1.b-x.2.b):=by
  have a1:(m.n*d)*(x.1.b-x.2.b)=(m.n*(x.1.b-x.2.b))*d:=by rw[Int.mul_assoc,Int.mul_comm d,← Int.mul_assoc]
  have a2:(n*m.d)*(x.1.b-x.2.b)=(n*(x.1.b-x.2.b))*m.d:=by rw[Int.mul_assoc,Int.mul_comm m.d,← Int.mul_assoc]
  rw[a1,a2,e,he,Int.mul_assoc,Int.mul_assoc,Int.mul_comm d]
 have e3:m.n*d=n*m.d:=Int.eq_of_mul_eq_mul_right (by omega) e2
 obtain⟨e4,e5⟩:=qda hm.ok hk (by omega)
 rw[h,← e4,← e5,← hm.i,← hm.j]
abbrev gl:List Pt:=[⟨1,0,2⟩,⟨2,6,-1⟩,⟨5,0,0⟩]
abbrev gm:List Mt:=[⟨2,1,1,2⟩,⟨0,1,1,5⟩,⟨6,1,2,5⟩]
theorem qmg:∀ {l:List Pt},(l.zip l.tail).all (fun x=>decide (x.1.id<x.2.id))=true→Up l:=by
 intro l h k p q hp hq
 have h2:=List.all_eq_true.1 h (p,q) (by
  refine List.mem_of_getElem? (i:=k) ?_
  rw[List.getElem?_zip_eq_some]
  exact⟨hp,by rw[List.getElem?_tail];exact hq⟩)
 exact of_decide_eq_true h2
theorem qwr:Val gl:=⟨by decide,by decide,qmg (by decide)⟩
theorem qyI:qfy gl=gm:=by
 unfold qfy
 show List.filterMap fM [(⟨1,0,2⟩,⟨2,6,-1⟩),(⟨1,0,2⟩,⟨5,0,0⟩),(⟨2,6,-1⟩,⟨5,0,0⟩)]=gm
 rw[List.filterMap_cons_some (qss (n:=2) (d:=1) (by decide) (by decide) (by decide) (by decide) (by decide)),List.filterMap_cons_some (qss (n:=0) (d:=1) (by decide) (by decide) (by decide) (by decide) (by decide)),
  List.filterMap_cons_some (qss (n:=6) (d:=1) (by decide) (by decide) (by decide) (by decide) (by decide))]
 rfl
end Go.Proofs.YtleaeldgaflmkaaGreat

namespace Go.Proofs.YtleaeldgaflmkaaGreat
set_option maxRecDepth 100000
open Go.RowKit
theorem qhe {fn fd tn td:Int} (h1:I64 fn) (h2:I64 fd) (h3:I64 tn) (h4:I64 td) {l:List Pt} (hv:Val l):Fn 103 1 [qaq 0 l,.pv (qaa fn fd),.pv (qaa tn td)] [(0,0,qad l)] (.ls 1 (qjx l fn fd tn td).length) 1 [(1,0,qc0 (qjx l fn fd tn td))]:=by
 have hp:=qk5 hv
 have hl:=qom hv
 have hsl:=qmt l
 have hok:=qwP hv
 unfold qjx
 generalize hs:srt l=s at *
 have len:∀ k,(((s.take k).filter (kpA fn fd)).filter (kpB tn td)).length≤4096:=fun k=>by
  have e1:=List.length_filter_le (kpB tn td) ((s.take k).filter (kpA fn fd))
  have e2:=List.length_filter_le (kpA fn fd) (s.take k)
  rw[List.length_take] at e2
  omega
 refine qsu hp (RunsL.rounds (N:=(qfy l).length) (fun k=>[(4,.pp 2 0),(5,.pp 3 0),(7,.ls 5 (((s.take k).filter (kpA fn fd)).filter (kpB tn td)).length),(8,.ls 4 (qfy l).length),(9,.pv (iV (k:Int)))])
  (fun k=>[(2,0,.pv (iV fn)),(2,1,.pv (iV fd)),(3,0,.pv (iV tn)),(3,1,.pv (iV td)),(4,0,.row 95 4 (qfy l).length (msV s)),(5,0,qc0 (((s.take k).filter (kpA fn fd)).filter (kpB tn td)))]) (qfy l).length 0 (Nat.zero_add _) (fun k _ hk r=>?_) ?_)
 ·obtain⟨m,hm⟩:=qan (l:=s) (k:=k) (by omega)
  have ok:=hok m (List.mem_of_getElem? hm)
  have c1:=qbF ok.n ok.d h1 h2
  have c2:=qbF ok.n ok.d h3 h4
  have hlk:=len k
  have hs:=qav (k:=k) (by omega)
  rw[qbX hm,List.filter_append,List.filter_append] at r
  cases ha:kpA fn fd m with
  | false=>
   rw[List.filter_cons_of_neg (by rw[ha];decide),List.filter_nil,List.filter_nil,List.append_nil] at r
   exact qwV hm (qaB hk) (dt (by omega)) c1 ha hs r
  | true=>
   rw[List.filter_cons_of_pos ha,List.filter_nil] at r
   cases hb:kpB tn td m with
   | false=>
    rw[List.filter_cons_of_neg (by rw[hb];decide),List.filter_nil,List.append_nil] at r
    exact quH hm (qaB hk) (dt (by omega)) c1 ha c2 hb hs r
   | true=>
    rw[List.filter_cons_of_pos hb,List.filter_nil] at r
    exact qu8 hm (qaB hk) (dt (by omega)) c1 ha c2 hb (by omega) hs r
 ·have e:s.take (qfy l).length=s:=by rw[← hsl];exact List.take_length
  simp only[e]
  exact qvF (df (by omega))
end Go.Proofs.YtleaeldgaflmkaaGreat

namespace Go.Proofs.YtleaeldgaflmkaaGreat
set_option maxRecDepth 100000
open Go.RowKit
noncomputable def ldr (l:List Pt) (n d:Int):Pt:=open Classical in if h:∃ s,Srt l n d s then h.choose.headD ⟨0,0,0⟩ else ⟨0,0,0⟩
theorem qg3 {l s:List Pt} {n d:Int} (h:Srt l n d s) (hne:l≠[]):s[0]?=some (ldr l n d):=by
 have hex:∃ s,Srt l n d s:=⟨s,h⟩
 have e:=hex.choose_spec.uniq h
 unfold ldr
 rw[dif_pos hex,e]
 cases s with
 | nil=>have:=h.perm.length_eq;exact (hne (List.length_eq_zero_iff.1 this.symm)).elim
 | cons a r=>rfl
theorem qnH {l:List Pt} (hv:Val l) (n d:Int) (hne:l≠[]):ldr l n d∈l:=by
 obtain⟨s,hs⟩:=qez (tn:=n) (td:=d) hv
 exact hs.perm.mem_iff.1 (List.mem_of_getElem? (qg3 hs hne))
theorem qtY {l:List Pt} (hv:Val l) {n d:Int} {q:Pt} (hq:q∈l):ld n d q (ldr l n d)=false:=by
 have hne:l≠[]:=fun e=>by rw[e] at hq;cases hq
 obtain⟨s,hs⟩:=qez (tn:=n) (td:=d) hv
 have h0:=qg3 hs hne
 cases s with
 | nil=>cases h0
 | cons a r=>
  simp at h0
  rw[← h0]
  have hq':=hs.perm.mem_iff.2 hq
  rcases List.mem_cons.1 hq' with e | hr
  ·rw[e];exact qfc _
  ·exact qil ((List.pairwise_cons.1 hs.pw).1 q hr)
theorem qwu {l:List Pt} (hv:Val l) {n d:Int} {p:Pt} (hp:p∈l) (h:∀ q∈l,ld n d q p=false):ldr l n d=p:=by
 have hne:l≠[]:=fun e=>by rw[e] at hp;cases hp
 have hm:=qnH hv n d hne
 by_cases e:(ldr l n d).id=p.id
 ·exact qoB hv hm hp e
 ·have h1:=qtY hv (n:=n) (d:=d) hp
  have h2:=qrG (fun e'=>e e'.symm) h1
  rw[h _ hm] at h2
  cases h2
theorem qkY {l:List Pt} {n d:Int} (hv:Val l) (ht:Tm n d) (hne:l≠[]):qqX 35 l n d (ldr l n d).id 0:=by
 obtain⟨s,hs⟩:=qez (tn:=n) (td:=d) hv
 have hl:0<l.length:=List.length_pos_iff.2 hne
 have c:=qlx ht.hn ht.hd l
 rw[qvB hv ht.ok] at c
 exact qmj c (by rw[beq_eq_false_iff_ne];omega) (qrR hv ht hs (qg3 hs hne))
theorem qhb {n d:Int} (ht:Tm n d):qqX 35 [] n d 0 42:=by
 have c:=qlx ht.hn ht.hd []
 rw[qvB nlv ht.ok] at c
 exact qpO c (by decide)
where nlv:Val ([]:List Pt):=⟨by decide,by simp,qmg (by decide)⟩
noncomputable def qwq (p q:Pt):Option Mt:=if p.b<q.b then fM (p,q) else none
noncomputable def qyo (p:Pt) (acc:Option Mt) (q:Pt):Option Mt:=
 match qwq p q with
 | none=>acc
 | some m=>match acc with
  | none=>some m
  | some f=>if (m.n*f.d-f.n*m.d).sign<0 then some m else some f
noncomputable def qAb (p:Pt) (l:List Pt):Option Mt:=l.foldl (qyo p) none
end Go.Proofs.YtleaeldgaflmkaaGreat

namespace Go.Proofs.YtleaeldgaflmkaaGreat
set_option maxRecDepth 100000
open Go.RowKit
structure Rep where
 e:Int
 id:Int
 ot:Int
 n:Int
 d:Int
 ms:List Mt
structure AskQ where
 kd:Int
 pi:Int
 pa:Int
 pb:Int
 z:Int
 qn:Int
 qd:Int
theorem qpZ (ms:List Mt):(msV ms).length=ms.length*4:=by
 induction ms with
 | nil=>rfl
 | cons m r ih=>simp[msV,ih];omega
theorem qvO (ms:List Mt):LeD ((((msV ms).drop (0*4)).take (ms.length*4)).map .v) ((msV ms).map .v):=by
 rw[Nat.zero_mul,List.drop_zero,List.take_of_length_le (by rw[qpZ];exact Nat.le_refl _)]
 exact LeD.refl _
theorem qsb {tn td e1:Int} (ha:Pure Tryz.prog 40 #[qaa tn td] (iV (e1))) (he:(e1 !=0)=true) :
 Pure Tryz.prog 10 #[qaa tn td] (.tuple #[.agg #[iV 0,iV 0,.slice none 0 0],iV e1]):=
 qac (args:=[qaa tn td]) 300 [Rf ha,.t true]
  (Ai rfl (Ai ha (Ai he tI))) (by kernel_rfl)
theorem qwG {tn td:Int} (ha:Pure Tryz.prog 40 #[qaa tn td] (iV (0))) (hn:Pure Tryz.prog 41 #[] (.agg #[.slice none 0 0])) :
 Pure Tryz.prog 10 #[qaa tn td] (.tuple #[.agg #[iV tn,iV td,.slice none 0 0],iV 0]):=
 qac (args:=[qaa tn td]) 300 [Rf ha,.k,.md,Rf hn]
  (Ai rfl (Ai ha (Ai hn tI))) (by kernel_rfl)
theorem qzz {pi pa pb z qn qd:Int} {w:Bool} (hf:((1:Int)==1&&(((0:Int)==0&&((0:Int)==0&&((0:Int)==0&&true)))&&((z==0)&&((qn==0&&(qd==0&&true))&&true))))=w) :
 Pure Tryz.prog 94 #[.agg #[.int .u8 1,iV pi,iV pa,iV pb,iV z,iV qn,iV qd]] (.bool w):=
 qac (args:=[.agg #[.int .u8 1,iV pi,iV pa,iV pb,iV z,iV qn,iV qd]]) 300 [.k,.t w]
  (Ai rfl (Ai hf tI)) (by kernel_rfl)
theorem qzL {pi pa pb z qn qd:Int} {w:Bool} (hf:((2:Int)==2&&((pi==0&&(pa==0&&(pb==0&&true)))&&(((0:Int)==0)&&((qn==0&&(qd==0&&true))&&true))))=w) :
 Pure Tryz.prog 94 #[.agg #[.int .u8 2,iV pi,iV pa,iV pb,iV z,iV qn,iV qd]] (.bool w):=
 qac (args:=[.agg #[.int .u8 2,iV pi,iV pa,iV pb,iV z,iV qn,iV qd]]) 300 [.k,.k,.k,.t w]
  (Ai rfl (Ai hf tI)) (by kernel_rfl)
theorem qzM {pi pa pb z qn qd:Int} {w:Bool} (hf:((3:Int)==3&&(((0:Int)==0&&((0:Int)==0&&((0:Int)==0&&true)))&&((z==0)&&((qn==0&&(qd==0&&true))&&true))))=w) :
 Pure Tryz.prog 94 #[.agg #[.int .u8 3,iV pi,iV pa,iV pb,iV z,iV qn,iV qd]] (.bool w):=
 qac (args:=[.agg #[.int .u8 3,iV pi,iV pa,iV pb,iV z,iV qn,iV qd]]) 300 [.k,.k,.t w]
  (Ai rfl (Ai hf tI)) (by kernel_rfl)
theorem qxQ {pi pa pb z qn qd:Int} {w:Bool} (hf:((4:Int)==4&&((pi==0&&(pa==0&&(pb==0&&true)))&&((z==0)&&(((0:Int)==0&&((0:Int)==0&&true))&&true))))=w) :
 Pure Tryz.prog 94 #[.agg #[.int .u8 4,iV pi,iV pa,iV pb,iV z,iV qn,iV qd]] (.bool w):=
 qac (args:=[.agg #[.int .u8 4,iV pi,iV pa,iV pb,iV z,iV qn,iV qd]]) 300 [.k,.k,.k,.k,.t w]
  (Ai rfl (Ai hf tI)) (by kernel_rfl)
theorem qx2 {pi pa pb z qn qd:Int} {w:Bool} (hf:((5:Int)==5&&((pi==0&&(pa==0&&(pb==0&&true)))&&((z==0)&&((qn==0&&(qd==0&&true))&&true))))=w) :
 Pure Tryz.prog 94 #[.agg #[.int .u8 5,iV pi,iV pa,iV pb,iV z,iV qn,iV qd]] (.bool w):=
 qac (args:=[.agg #[.int .u8 5,iV pi,iV pa,iV pb,iV z,iV qn,iV qd]]) 300 [.k,.k,.k,.k,.k,.t w]
  (Ai rfl (Ai hf tI)) (by kernel_rfl)
theorem qzy {pi pa pb z qn qd:Int} {w:Bool} (hf:((6:Int)==6&&((pi==0&&(pa==0&&(pb==0&&true)))&&((z==0)&&((qn==0&&(qd==0&&true))&&true))))=w) :
 Pure Tryz.prog 94 #[.agg #[.int .u8 6,iV pi,iV pa,iV pb,iV z,iV qn,iV qd]] (.bool w):=
 qac (args:=[.agg #[.int .u8 6,iV pi,iV pa,iV pb,iV z,iV qn,iV qd]]) 300 [.k,.k,.k,.k,.k,.k,.t w]
  (Ai rfl (Ai hf tI)) (by kernel_rfl)
theorem qxW {kd pi pa pb z qn qd:Int} (h1:(kd==1)=false) (h3:(kd==3)=false) (h2:(kd==2)=false) (h4:(kd==4)=false) (h5:(kd==5)=false) (h6:(kd==6)=false) :
 Pure Tryz.prog 94 #[.agg #[.int .u8 kd,iV pi,iV pa,iV pb,iV z,iV qn,iV qd]] (.bool false):=
 qac (args:=[.agg #[.int .u8 kd,iV pi,iV pa,iV pb,iV z,iV qn,iV qd]]) 300 [.t false,.t false,.t false,.t false,.t false,.t false]
  (Ai rfl (Ai h1 (Ai h3 (Ai h2 (Ai h4 (Ai h5 (Ai h6 tI))))))) (by kernel_rfl)
theorem qyk {tn td e1 qn qd:Int} {s:List Pt} (ha:Pure Tryz.prog 40 #[qaa qn qd] (iV (e1))) (he:(e1 !=0)=true) :
 Fn 98 1 [.ag [.pv (iV tn),.pv (iV td),.ls 0 s.length],.pv (qaa qn qd)] [(0,0,qad s)] (.pv (.tuple #[.slice none 0 0,iV e1])) 0 []:=
 Fz [] [Rf ha,.t true]
  tI (Ai ha (Ai he tI))
theorem qyW {tn td e e2 qn qd:Int} {s:List Pt} (ha:Pure Tryz.prog 40 #[qaa qn qd] (iV (0))) (hc:Pure Tryz.prog 102 #[qaa qn qd,qaa tn td] (.tuple #[iV e2,iV e])) (hl:decide (e2≤0)=true) :
 Fn 98 1 [.ag [.pv (iV tn),.pv (iV td),.ls 0 s.length],.pv (qaa qn qd)] [(0,0,qad s)] (.pv (.tuple #[.slice none 0 0,iV 44])) 0 []:=
 Fz [] [Rf ha,.k,Rf hc,.t true]
  tI (Ai ha (Ai hc (Ai hl tI)))
theorem qxI {tn td e e2 qn qd:Int} {s:List Pt} {ms:List Mt} (ha:Pure Tryz.prog 40 #[qaa qn qd] (iV (0))) (hc:Pure Tryz.prog 102 #[qaa qn qd,qaa tn td] (.tuple #[iV e2,iV e])) (hl:decide (e2≤0)=false) (hm:Fn 118 1 [qaq 0 s,.pv (qaa tn td),.pv (qaa qn qd)] [(0,0,qad s)] (.tu [.one (.lq 1 4 0 ms.length),.one (.pv (iV 0))]) 1 [(1,0,.row 95 4 ms.length (msV ms))]) :
 Fn 98 1 [.ag [.pv (iV tn),.pv (iV td),.ls 0 s.length],.pv (qaa qn qd)] [(0,0,qad s)] (.tu [.one (.lq 1 4 0 ms.length),.one (.pv (iV 0))]) 1 [(1,0,.row 95 4 ms.length (msV ms))]:=
 Fz [(1,3)] [Rf ha,.k,Rf hc,.t false,Cf hm [0]]
  (qaH (qaG [(1,3)]) [(1,0,.row 95 4 ms.length (msV ms))]) (Ai ha (Ai hc (Ai hl (Co hm [0] 3 tI))))
theorem qyC {tn td e1 id1:Int} {s:List Pt} (hl:Fn 35 1 [qaq 0 s,.pv (qaa tn td)] [(0,0,qad s)] (.pv (.tuple #[iV id1,iV e1])) 0 []) (he:(e1 !=0)=true) :
 Fn 99 1 [.ag [.pv (iV tn),.pv (iV td),.ls 0 s.length]] [(0,0,qad s)] (.pv (.tuple #[iV 0,qaa 0 0,iV e1])) 0 []:=
 Fz [] [Cf hl [0],.t true]
  tI (Co hl [0] 3 (Ai he tI))
theorem qxx {tn td n1 d1 e e2 id1:Int} {s:List Pt} {p:Pt} (hl:Fn 35 1 [qaq 0 s,.pv (qaa tn td)] [(0,0,qad s)] (.pv (.tuple #[iV id1,iV 0])) 0 []) (hf:Fn 36 1 [qaq 0 s,.pv (iV id1)] [(0,0,qad s)] (.pv (.tuple #[ptV p,iV e])) 0 []) (hp:Pure Tryz.prog 37 #[qab p.id p.a p.b,qaa tn td] (.tuple #[qaa n1 d1,iV e2])) :
 Fn 99 1 [.ag [.pv (iV tn),.pv (iV td),.ls 0 s.length]] [(0,0,qad s)] (.pv (.tuple #[iV id1,qaa n1 d1,iV 0])) 0 []:=
 Fz [] [Cf hl [0],.k,Cf hf [0],Rf hp]
  tI (Co hl [0] 3 (Co hf [0] 3 (Ai hp tI)))
theorem qya {tn td kd pi pa pb z qn qd:Int} {s:List Pt} (hw:Pure Tryz.prog 94 #[.agg #[.int .u8 kd,iV pi,iV pa,iV pb,iV z,iV qn,iV qd]] (.bool false)) :
 Fn 69 1 [.ag [.pv (iV tn),.pv (iV td),.ls 0 s.length],.pv (.agg #[.int .u8 kd,iV pi,iV pa,iV pb,iV z,iV qn,iV qd])] [(0,0,qad s)] (.pv (.tuple #[.agg #[iV 0,iV 0,.slice none 0 0],.agg #[iV 12,iV 0,iV 0,iV 0,iV 0,.slice none 0 0]])) 0 []:=
 Fz [] [Rf hw,.k]
  tI (Ai hw tI)
theorem qvW {tn td e1 pi pa pb z qn qd:Int} {s:List Pt} (hw:Pure Tryz.prog 94 #[.agg #[.int .u8 1,iV pi,iV pa,iV pb,iV z,iV qn,iV qd]] (.bool true)) (hp:Fn 95 1 [qaq 0 s,.pv (qab pi pa pb)] [(0,0,qad s)] (.pv (.tuple #[.agg #[.slice none 0 0],iV e1])) 0 []) :
 Fn 69 1 [.ag [.pv (iV tn),.pv (iV td),.ls 0 s.length],.pv (.agg #[.int .u8 1,iV pi,iV pa,iV pb,iV z,iV qn,iV qd])] [(0,0,qad s)] (.tu [.one (.pv (.agg #[iV tn,iV td,.slice none 0 0])),.ag [.pv (iV (e1)),.pv (iV (0)),.pv (iV (0)),.pv (iV (0)),.pv (iV (0)),.dv 4 0 []]]) 0 []:=
 Fz [] [Rf hw,.k,.k,Cf hp [0],.fz false 5 5 0 4 []]
  tI (Ai hw (Co hp [0] 6 (Ai (Eq.refl ([]:List Dn)) tI)))
theorem qvf {tn td pi pa pb z qn qd:Int} {s m:List Pt} (hw:Pure Tryz.prog 94 #[.agg #[.int .u8 1,iV pi,iV pa,iV pb,iV z,iV qn,iV qd]] (.bool true)) (hp:Fn 95 1 [qaq 0 s,.pv (qab pi pa pb)] [(0,0,qad s)] (.tu [.ag [.ls 1 m.length],.one (.pv (iV 0))]) 1 [(1,0,qad m)]) :
 Fn 69 1 [.ag [.pv (iV tn),.pv (iV td),.ls 0 s.length],.pv (.agg #[.int .u8 1,iV pi,iV pa,iV pb,iV z,iV qn,iV qd])] [(0,0,qad s)] (.tu [.ag [.pv (iV tn),.pv (iV td),.ls 1 m.length],.ag [.pv (iV (0)),.pv (iV (0)),.pv (iV (0)),.pv (iV (0)),.pv (iV (0)),.dv 4 0 []]]) 1 [(1,0,qad m)]:=
 Fz [(1,6)] [Rf hw,.k,.k,Cf hp [0],.fz false 5 5 0 4 []]
  (qaH (qaG [(1,6)]) [(1,0,qad m)]) (Ai hw (Co hp [0] 6 (Ai (Eq.refl ([]:List Dn)) tI)))
theorem quL {tn td e1 pi pa pb z qn qd:Int} {s:List Pt} (hw:Pure Tryz.prog 94 #[.agg #[.int .u8 2,iV pi,iV pa,iV pb,iV z,iV qn,iV qd]] (.bool true)) (hp:Fn 96 1 [qaq 0 s,.pv (iV z)] [(0,0,qad s)] (.pv (.tuple #[.agg #[.slice none 0 0],iV e1])) 0 []) :
 Fn 69 1 [.ag [.pv (iV tn),.pv (iV td),.ls 0 s.length],.pv (.agg #[.int .u8 2,iV pi,iV pa,iV pb,iV z,iV qn,iV qd])] [(0,0,qad s)] (.tu [.one (.pv (.agg #[iV tn,iV td,.slice none 0 0])),.ag [.pv (iV (e1)),.pv (iV (0)),.pv (iV (0)),.pv (iV (0)),.pv (iV (0)),.dv 4 0 []]]) 0 []:=
 Fz [] [Rf hw,.k,.k,.k,Cf hp [0],.fz false 5 5 0 4 []]
  tI (Ai hw (Co hp [0] 6 (Ai (Eq.refl ([]:List Dn)) tI)))
theorem qwI {tn td pi pa pb z qn qd:Int} {s m:List Pt} (hw:Pure Tryz.prog 94 #[.agg #[.int .u8 2,iV pi,iV pa,iV pb,iV z,iV qn,iV qd]] (.bool true)) (hp:Fn 96 1 [qaq 0 s,.pv (iV z)] [(0,0,qad s)] (.tu [.ag [.ls 1 m.length],.one (.pv (iV 0))]) 1 [(1,0,qad m)]) :
 Fn 69 1 [.ag [.pv (iV tn),.pv (iV td),.ls 0 s.length],.pv (.agg #[.int .u8 2,iV pi,iV pa,iV pb,iV z,iV qn,iV qd])] [(0,0,qad s)] (.tu [.ag [.pv (iV tn),.pv (iV td),.ls 1 m.length],.ag [.pv (iV (0)),.pv (iV (0)),.pv (iV (0)),.pv (iV (0)),.pv (iV (0)),.dv 4 0 []]]) 1 [(1,0,qad m)]:=
 Fz [(1,6)] [Rf hw,.k,.k,.k,Cf hp [0],.fz false 5 5 0 4 []]
  (qaH (qaG [(1,6)]) [(1,0,qad m)]) (Ai hw (Co hp [0] 6 (Ai (Eq.refl ([]:List Dn)) tI)))
theorem qvR {tn td e1 pi pa pb z qn qd:Int} {s:List Pt} (hw:Pure Tryz.prog 94 #[.agg #[.int .u8 3,iV pi,iV pa,iV pb,iV z,iV qn,iV qd]] (.bool true)) (hp:Fn 97 1 [qaq 0 s,.pv (qab pi pa pb)] [(0,0,qad s)] (.pv (.tuple #[.agg #[.slice none 0 0],iV e1])) 0 []) :
 Fn 69 1 [.ag [.pv (iV tn),.pv (iV td),.ls 0 s.length],.pv (.agg #[.int .u8 3,iV pi,iV pa,iV pb,iV z,iV qn,iV qd])] [(0,0,qad s)] (.tu [.one (.pv (.agg #[iV tn,iV td,.slice none 0 0])),.ag [.pv (iV (e1)),.pv (iV (0)),.pv (iV (0)),.pv (iV (0)),.pv (iV (0)),.dv 4 0 []]]) 0 []:=
 Fz [] [Rf hw,.k,.k,.k,.k,Cf hp [0],.fz false 5 5 0 4 []]
  tI (Ai hw (Co hp [0] 6 (Ai (Eq.refl ([]:List Dn)) tI)))
theorem qvj {tn td pi pa pb z qn qd:Int} {s m:List Pt} (hw:Pure Tryz.prog 94 #[.agg #[.int .u8 3,iV pi,iV pa,iV pb,iV z,iV qn,iV qd]] (.bool true)) (hp:Fn 97 1 [qaq 0 s,.pv (qab pi pa pb)] [(0,0,qad s)] (.tu [.ag [.ls 1 m.length],.one (.pv (iV 0))]) 1 [(1,0,qad m)]) :
 Fn 69 1 [.ag [.pv (iV tn),.pv (iV td),.ls 0 s.length],.pv (.agg #[.int .u8 3,iV pi,iV pa,iV pb,iV z,iV qn,iV qd])] [(0,0,qad s)] (.tu [.ag [.pv (iV tn),.pv (iV td),.ls 1 m.length],.ag [.pv (iV (0)),.pv (iV (0)),.pv (iV (0)),.pv (iV (0)),.pv (iV (0)),.dv 4 0 []]]) 1 [(1,0,qad m)]:=
 Fz [(1,6)] [Rf hw,.k,.k,.k,.k,Cf hp [0],.fz false 5 5 0 4 []]
  (qaH (qaG [(1,6)]) [(1,0,qad m)]) (Ai hw (Co hp [0] 6 (Ai (Eq.refl ([]:List Dn)) tI)))
theorem qrv {tn td e1 pi pa pb z qn qd:Int} {s:List Pt} (hw:Pure Tryz.prog 94 #[.agg #[.int .u8 4,iV pi,iV pa,iV pb,iV z,iV qn,iV qd]] (.bool true)) (hb:Fn 98 1 [.ag [.pv (iV tn),.pv (iV td),.ls 0 s.length],.pv (qaa qn qd)] [(0,0,qad s)] (.pv (.tuple #[.slice none 0 0,iV e1])) 0 []) :
 Fn 69 1 [.ag [.pv (iV tn),.pv (iV td),.ls 0 s.length],.pv (.agg #[.int .u8 4,iV pi,iV pa,iV pb,iV z,iV qn,iV qd])] [(0,0,qad s)] (.tu [.ag [.pv (iV qn),.pv (iV qd),.ls 0 s.length],.ag [.pv (iV (e1)),.pv (iV (0)),.pv (iV (0)),.pv (iV (0)),.pv (iV (0)),.dv 4 0 []]]) 0 []:=
 Fz [] [Rf hw,.k,.k,.k,.k,.k,Cf hb [0],.fz false 5 5 0 4 []]
  tI (Ai hw (Co hb [0] 6 (Ai (Eq.refl ([]:List Dn)) tI)))
theorem qw0 {tn td pi pa pb z qn qd:Int} {s:List Pt} {ms:List Mt} (hw:Pure Tryz.prog 94 #[.agg #[.int .u8 4,iV pi,iV pa,iV pb,iV z,iV qn,iV qd]] (.bool true)) (hb:Fn 98 1 [.ag [.pv (iV tn),.pv (iV td),.ls 0 s.length],.pv (qaa qn qd)] [(0,0,qad s)] (.tu [.one (.lq 1 4 0 ms.length),.one (.pv (iV 0))]) 1 [(1,0,.row 95 4 ms.length (msV ms))]) :
 Fn 69 1 [.ag [.pv (iV tn),.pv (iV td),.ls 0 s.length],.pv (.agg #[.int .u8 4,iV pi,iV pa,iV pb,iV z,iV qn,iV qd])] [(0,0,qad s)] (.tu [.ag [.pv (iV qn),.pv (iV qd),.ls 0 s.length],.ag [.pv (iV (0)),.pv (iV (0)),.pv (iV (0)),.pv (iV (0)),.pv (iV (0)),.dv 4 ms.length ((msV ms).map .v)]]) 0 []:=
 Fz [] [Rf hw,.k,.k,.k,.k,.k,Cf hb [0],.fz false 5 5 0 4 ((msV ms).map .v)]
  tI (Ai hw (Co hb [0] 6 (Ai (qvO ms) tI)))
theorem qu1 {tn td n1 d1 e1 pi pa pb z qn qd id1:Int} {s:List Pt} (hw:Pure Tryz.prog 94 #[.agg #[.int .u8 5,iV pi,iV pa,iV pb,iV z,iV qn,iV qd]] (.bool true)) (hl:Fn 99 1 [.ag [.pv (iV tn),.pv (iV td),.ls 0 s.length]] [(0,0,qad s)] (.pv (.tuple #[iV id1,qaa n1 d1,iV e1])) 0 []) :
 Fn 69 1 [.ag [.pv (iV tn),.pv (iV td),.ls 0 s.length],.pv (.agg #[.int .u8 5,iV pi,iV pa,iV pb,iV z,iV qn,iV qd])] [(0,0,qad s)] (.tu [.ag [.pv (iV tn),.pv (iV td),.ls 0 s.length],.ag [.pv (iV (e1)),.pv (iV (id1)),.pv (iV (0)),.pv (iV (n1)),.pv (iV (d1)),.dv 4 0 []]]) 0 []:=
 Fz [] [Rf hw,.k,.k,.k,.k,.k,.k,Cf hl [0],.fz false 5 5 0 4 []]
  tI (Ai hw (Co hl [0] 6 (Ai (Eq.refl ([]:List Dn)) tI)))
theorem qv1 {tn td n1 d1 e1 pi pa pb z qn qd id1 id2:Int} {s:List Pt} (hw:Pure Tryz.prog 94 #[.agg #[.int .u8 6,iV pi,iV pa,iV pb,iV z,iV qn,iV qd]] (.bool true)) (hl:Fn 18 1 [qaq 0 s,.pv (qaa tn td)] [(0,0,qad s)] (.pv (.tuple #[iV id1,iV id2,qaa n1 d1,iV e1])) 0 []) :
 Fn 69 1 [.ag [.pv (iV tn),.pv (iV td),.ls 0 s.length],.pv (.agg #[.int .u8 6,iV pi,iV pa,iV pb,iV z,iV qn,iV qd])] [(0,0,qad s)] (.tu [.ag [.pv (iV tn),.pv (iV td),.ls 0 s.length],.ag [.pv (iV (e1)),.pv (iV (id1)),.pv (iV (id2)),.pv (iV (n1)),.pv (iV (d1)),.dv 4 0 []]]) 0 []:=
 Fz [] [Rf hw,.k,.k,.k,.k,.k,.k,.k,Cf hl [0],.fz false 5 5 0 4 []]
  tI (Ai hw (Co hl [0] 6 (Ai (Eq.refl ([]:List Dn)) tI)))
end Go.Proofs.YtleaeldgaflmkaaGreat
